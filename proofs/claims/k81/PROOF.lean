import PyProof.Rows.All
import Wide.All
import OpenK.AllK
import Wide.FinOn
import Lean
import PyProof.EqAt
import PyProof.EqKinds
import PyProof.TupleCall
import KE.KTryMore
import PyProof.ExcArgs
import PyProof.ConsumeWalk
import PyProof.P3Eq
import KE.KRevIter
import PyProof.ListRange
import PyProof.Rows.SumAny
import KE.KSortTup
import PyProof.SetScanFacts
import PyProof.TupleKey
import PyProof.DictRoadsH
import PyProof.SetRoads
import KE.KTabLook
import PyProof.Rows.ListMul
import PyProof.InstStoreFacts
import PyProof.Rows.SetFrom
import PyProof.AutoListH
import PyProof.StrCalls2
import PyProof.SliceStr2
import PyProof.StrWalks
import PyProof.StrOps2
import PyProof.StrLawsIdx
import PyProof.StrLawsTight
import PyProof.StrLawsChain
import PyProof.Rows.StrSplitCount
import KE.KIntText
import PySem.Challenge.RW_heightrings_k81_texts_refused
open Bool renaming false_ne_true → ahW,not_false → aiI,and_eq_true → aiP,not_true → ai1,eq_iff_iff → ajp,false_and → ajy,not_eq_true' → ajR,and_false → akd,true_and → akr,or_eq_true → akF
open PySem.W renaming Frag → ahX,kitOne → ahY,nsIn → aib,mg_of → aio,keepIn → aip,mg_none_of → ait,kia_one → aiy,findIn → aiB,fnOf → aiG,cellsFrom_some → aiY,codeIn → ajh,exmOne → aji,specialIn → aju,hideAll → ajH,callWith_K → ajL,mroIn → ajW,methodObj → akj,kitx_list → akk,isFn → aku,instObj → akC,hideAll_none → akJ,lookIn → akK,hideAll_get → akT
open List renaming length_map → ahZ,getElem?_eq_some_iff → ah1,getElem?_eq_getElem → ah2,mem_cons_of_mem → ah3,mem_singleton → ah5,mem_cons → ah7,getElem?_map → ah9,mem_append_right → aia,mem_cons_self → aic,size_toArray → aid,getElem?_append_left → aif,length_append → aij,mem_append → ail,map_append → aim,getElem?_append_right → aiq,lookup_cons → ais,mem_of_getElem? → aiw,length_take → aiz,length_cons → aiA,getD_eq_getElem?_getD → aiC,all_eq_true → aiE,append_nil → aiJ,length_drop → aiL,getElem?_set_self → aiM,getElem_mem → aiO,getElem?_set_ne → aiR,replicate → aiS,length_set → aiV,filterMap_cons → aiW,sum_append_nat → aiX,findIdx?_eq_some_iff_getElem → ai5,mem_append_left → ai8,map_cons → ajb,getElem?_replicate → ajg,take_of_length_le → ajn,nodup_cons → ajo,getElem?_eq_none → ajr,countP_le_length → ajs,take_add_one → ajv,mem_range → ajw,getElem?_mapIdx → ajA,mem_of_mem_take → ajC,mem_of_mem_drop → ajD,take_length → ajE,mem_reverse → ajF,findIdx?_eq_none_iff → ajG,mem_filterMap → ajK,length_mapIdx → ajM,map_map → ajQ,length_replicate → ajS,getElem?_of_mem → ajY,of_mem_zip → aj0,length_pos_iff → aj1,reverse_append → aj2,mem_map_of_mem → aj3,map_congr_left → aj4,countP_eq_zero → aj5,mem_map → aj8,range → aj9,reverse_cons → akl,length_range → akm,getElem?_take_of_lt → akp,sum_cons → akq,countP_true → akt,filter_eq_nil_iff → akB,mem_filter → akD,length_singleton → akG,mem_iff_getElem → akP,reverse_reverse → akQ,drop_zero → akR,getElem?_range → akV,getElem_of_mem → akW,any_cons → ak2
open PySem.Heap renaming get?_push_of_some → ah0,lt_size → ah4,get?_push_size → aik,get?_update_other → aiu,get?_update_self → ai3,get?_none_of_le → ajx,size_push → ajz,SameBut → aj6,get?_push_at → akn,FlyingW → aky
open PySem.StrLaws renaming sliceText → ah6,sliceText_from → akz
open Nat renaming lt_of_lt_of_le → ah8,le_refl → aie,le_trans → aih,ne_of_lt → aii,lt_succ_of_lt → aiU,min_le_right → ai2,zero_le → ajl,le_of_lt → ajm,lt_irrefl → ajq,not_lt_zero → ajI,min_le_left → ajJ,le_of_eq → ajO,le_of_succ_le → ajP,mul_le_mul_right → ajX,mul_one → ajZ,ne_of_gt → aj7,not_lt → akw,sub_self → akx,min_eq_left → akE,le_of_ble_eq_true → akI,le_succ → akN,mul_le_mul_left → ak1,add_mul → ak8
open PySem.Builtin.Str renaming occurrences → ain,strSliceIndices → aiv,strKind → akY,tooLong → ak0
open PySem renaming boot_len → air,mem_of_lookup → ajf
open False renaming elim → aix
open PySem.F renaming plainAttrs_str → aiD,slot_str_split → aiZ,type_str_split → ai0,slot_list_append → ajc,type_list_append → ajd,plainAttrs_list → ajj,excBase_ValueError → ajB,excAttr_ValueError → ake,args_str_split_2 → akg,entry_str_split → ako,slot_str_split → aks,args_list_append_2 → akM,excAttr_ValueError → akO,entry_list_append → akU
open PySem.Txt renaming split → aiF,join → akf,startswith → akh
open Array renaming length_toList → aiH,toList_append → akZ
open PySem.PyData renaming eqv → aiK,depthAll → ai6,canLayAll0 → aja,strOk → akA
open PySem.Str renaming ofString → aiN,empty → ajU
open Option renaming isSome_iff_exists → aiQ
open Int renaming toNat_natCast → aiT,eq_ofNat_of_zero_le → ajk,emod_lt_of_pos → ajN,le_trans → ak6
open PyProof.Rows renaming boot_int → ai4,callWith_type1 → ajt,boot_str → ajT,callWith_builtin1 → ajV,boot_all → akH
open PySem.PassesOwn renaming never → ai7
open Decidable renaming not_not → ai9
open Ne renaming symm → aje
open PySem.Calls renaming Name_function_global → aka,spliced_cons → akb
open PySem.Code renaming quiet_builtin → akc,isFrame → ak5
open PySem.Builtin.SmallTypes renaming nextOf → aki
open PySem.Obj renaming mapSeq → akv,mapFields → ak3
open PySem.Around renaming frames_deeper → akL,under → ak4
open PySem.SeqAt renaming eqv_refl → akS
open PySem.EntryCells renaming newEntry → akX
open PySem.Sem renaming wp_mono → ak7
set_option Elab.async false
set_option linter.all false
set_option maxRecDepth 100000
set_option maxHeartbeats 4000000
section
namespace L2
open PySem PySem.Spec PyProof.Rows
noncomputable abbrev Key:=Sum Int Str
noncomputable def afL:Key->Value->Bool
 | .inl k,v=>Value.isInt k v
 | .inr x,v=>Value.isStrOf x v
noncomputable def ahJ (w:World):Key->Int
 | .inl k=>hashInt k
 | .inr x=>hashStr w x
theorem zT:∀ {k:Key} {v:Value},afL k v=true->(∃ i t,k=Sum.inl i/\v=Value.int i t) \/ (∃ x t,k=Sum.inr x/\v=Value.str x t)
 | .inl i,v,h=>by
  obtain⟨t,e⟩:=Value.isInt_shape (k:=i) (v:=v) h
  exact .inl ⟨i,t,rfl,e⟩
 | .inr x,v,h=>by
  obtain⟨t,e⟩:=Value.isStrOf_shape (x:=x) (v:=v) h
  exact .inr ⟨x,t,rfl,e⟩
theorem agb (a b:Int):decide ((Sum.inl a:Key)=Sum.inl b)=(a == b):=by
 by_cases e:a=b
 ·subst e;simp
 ·have h:¬ (Sum.inl a:Key)=Sum.inl b:=fun q=>e (Sum.inl.inj q)
  rw [decide_eq_false h]
  exact (beq_eq_false_iff_ne.mpr e).symm
theorem agc (a b:Str):decide ((Sum.inr a:Key)=Sum.inr b)=decide (a=b):=by
 by_cases e:a=b
 ·subst e;simp
 ·have h:¬ (Sum.inr a:Key)=Sum.inr b:=fun q=>e (Sum.inr.inj q)
  rw [decide_eq_false h,decide_eq_false e]
theorem agd (a:Int) (b:Str):decide ((Sum.inl a:Key)=Sum.inr b)=false:=decide_eq_false (fun q=>nomatch q)
theorem age (a:Str) (b:Int):decide ((Sum.inr a:Key)=Sum.inl b)=false:=decide_eq_false (fun q=>nomatch q)
noncomputable def aat (prog:Program) (w:World):PySem.KeyKind prog w Key where
 is:=afL
 hash:=ahJ w
 inj:=fun v a b ha hb=>by
  rcases zT ha with⟨i,t,rfl,rfl⟩ | ⟨x,t,rfl,rfl⟩
  ·rcases zT hb with⟨j,u,rfl,e⟩ | ⟨y,u,rfl,e⟩
   ·injection e with e1 _;rw [e1]
   ·exact nomatch e
  ·rcases zT hb with⟨j,u,rfl,e⟩ | ⟨y,u,rfl,e⟩
   ·exact nomatch e
   ·injection e with e1 _;rw [e1]
 byValue:=fun k v h=>by
  rcases zT h with⟨i,t,rfl,rfl⟩ | ⟨x,t,rfl,rfl⟩ <;> rfl
 pyHash:=fun hv h=>by
  rcases zT hv with⟨i,t,rfl,rfl⟩ | ⟨x,t,rfl,rfl⟩
  ·exact wpAny_pyHash_int h
  ·exact wpAny_pyHash_str h
 eqBool:=fun hu hv h=>by
  rcases zT hu with⟨i,t,rfl,rfl⟩ | ⟨x,t,rfl,rfl⟩
  ·rcases zT hv with⟨j,u,rfl,rfl⟩ | ⟨y,u,rfl,rfl⟩
   ·rw [agb] at h;exact wpAny_eqBool_int h
   ·rw [agd] at h;exact SeqAt.EqAt.int_str i t y u _ _ _ _ h
  ·rcases zT hv with⟨j,u,rfl,rfl⟩ | ⟨y,u,rfl,rfl⟩
   ·rw [age] at h;exact SeqAt.EqAt.str_int x t j u _ _ _ _ h
   ·rw [agc] at h;exact wpAny_eqBool_str h
 «strs»:=fun k x t v h=>by
  rcases zT h with⟨i,u,rfl,e⟩ | ⟨y,u,rfl,e⟩
  ·exact nomatch e
  ·injection e with e1 _
   subst e1
   cases v <;> rfl
inductive V where
 | non | bl (b:Bool) | int (i:Int) | str (x:Str) | byt (b:Array UInt8) | flt (b:UInt64) | ref (a:Addr) | ty (n:String)
 deriving DecidableEq
noncomputable def RelV:V->Value->Prop
 | .non,u=>u=Value.none
 | .bl b,u=>u=Value.bool b
 | .int i,u=>∃ t,u=Value.int i t
 | .str x,u=>∃ t,u=Value.str x t
 | .byt b,u=>∃ t,u=Value.bytes b t
 | .flt b,u=>∃ t,u=Value.float b t
 | .ref a,u=>u=Value.ref a
 | .ty n,u=>u=Value.type n
noncomputable abbrev Vals:List V->List Value->Prop:=Paired RelV
theorem Vals.length {xs:List V} {us:List Value} (r:Vals xs us):xs.length=us.length:=Paired.length r
theorem Vals.get:∀ {xs:List V} {us:List Value} {i:Nat} {x:V},Vals xs us->xs[i]?=some x->∃ u,us[i]?=some u/\RelV x u
 | _,_,_,_,.nil,e=>by simp at e
 | _,_,0,_,.cons r _,e=>by simp at e;subst e;exact⟨_,rfl,r⟩
 | _,_,i+1,x,.cons _ t,e=>by
  obtain⟨u,h1,h2⟩:=Vals.get (i:=i) (x:=x) t (by simpa using e)
  exact⟨u,by simpa using h1,h2⟩
theorem Vals.set {x:V} {u:Value} (r:RelV x u):∀ {xs:List V} {us:List Value} (i:Nat),Vals xs us->Vals (xs.set i x) (us.set i u)
 | _,_,_,.nil=>.nil
 | _,_,0,.cons _ t=>.cons r t
 | _,_,i+1,.cons q t=>.cons q (Vals.set r i t)
theorem Vals.append:∀ {xs ys:List V} {us ws:List Value},Vals xs us->Vals ys ws->Vals (xs++ys) (us++ws)
 | _,_,_,_,.nil,s=>s
 | _,_,_,_,.cons r t,s=>.cons r (Vals.append t s)
theorem Vals.take:∀ {xs:List V} {us:List Value} (n:Nat),Vals xs us->Vals (xs.take n) (us.take n)
 | _,_,0,_=>.nil
 | _,_,_+1,.nil=>.nil
 | _,_,n+1,.cons r t=>.cons r (Vals.take n t)
theorem Vals.drop:∀ {xs:List V} {us:List Value} (n:Nat),Vals xs us->Vals (xs.drop n) (us.drop n)
 | _,_,0,r=>r
 | _,_,_+1,.nil=>.nil
 | _,_,n+1,.cons _ t=>Vals.drop n t
noncomputable def agf:Option V->Option Value->Prop
 | some v,some u=>RelV v u
 | none,none=>True
 | _,_=>False
noncomputable def KV {κ:Type}:List (κ×V)->List (κ×Value)->Prop:=Paired fun (p:κ×V) (q:κ×Value)=>p.1=q.1/\RelV p.2 q.2
noncomputable def kV:Key->V
 | .inl i=>.int i
 | .inr x=>.str x
inductive HO where
  | lst (xs:List V)
  | tup (xs:List V)
  | dK (kvs:List (Key×V)) | dT (kvs:List (List Key×V))
  | set (S:Int->Bool) (n:Nat)
  | ins (C dx:Addr) (fs:List (Str×V))
  | own (x:Addr)
  | xd (fs:List (Str×V))
  | met (f x:Addr)
  | rng (lo hi:Int)
  | frz (o:Obj) (u:HO)
  | tbl (ps:Array Value)
  | ext (φ:Heap->Prop)
noncomputable abbrev Hp:=Addr->Option HO
noncomputable def upd (H:Hp) (a:Addr) (o:HO):Hp:=fun b=>if b=a then some o else H b
theorem zr {H:Hp} {a:Addr} {o:HO}:upd H a o a=some o:=by unfold upd;rw [if_pos rfl]
theorem zk {H:Hp} {a b:Addr} {o:HO} (h:b≠a):upd H a o b=H b:=by unfold upd;rw [if_neg h]
theorem zB {H:Hp} {a b:Addr} {o:HO} (h:H a=some o) (h':H b=none):a≠b:=by
 intro e;subst e;rw [h] at h';cases h'
section
variable (P:Program) (w:World)
noncomputable def ObjOk (H:Hp) (h:Heap) (a:Addr):HO->Prop
 | .lst xs=>xs.length<=sizeLine/\∃ (its:List Value) (n:Nat),Vals xs its/\h.get? a=some { cls:=.type "list",data:=.seq its.toArray n }
 | .tup xs=>xs.length<=sizeLine/\∃ its:List Value,Vals xs its/\IsTup h a its.toArray
 | .dK kvs=>kvs.length<=sizeLine/\(a == sysModules)=false/\∃ vs,KV kvs vs/\h.DictOf (aat P w) a vs
 | .dT kvs=>kvs.length<=sizeLine/\(a == sysModules)=false/\∃ xs:List (List Key×Addr×Value),
   Paired (fun (p:List Key×V) (q:List Key×Addr×Value)=>p.1=q.1/\H q.2.1=some (.tup (p.1.map kV))/\RelV p.2 q.2.2) kvs xs /\
   ∃ o es ep,h.get? a=some o/\o.ExactDict/\o.data=.dict es ep/\es.toList=xs.map (entryOfKey (tupleKind (aat P w)))/\(xs.map (·.1)).Nodup
 | .set S n=>h.SetOf (intKind P w) a S n
 | .ins C dx fs=>H dx=some (.own a)/\fs.length<=1000/\dx≠a/\h.get? a=some (akC C dx) /\
   ∃ mA,h.Ns1 dx mA/\(∀ f,agf (fs.lookup f) (mA f))/\PySem.Within mA (fs.map (·.1))
 | .own _=>∃ o,h.get? a=some o
 | .xd fs=>∃ mA,h.Ns1 a mA/\∀ f,agf (fs.lookup f) (mA f)
 | .rng lo hi=>∃ t u v,h.get? a=some { cls:=.type "range",data:=.fields #[.int lo t,.int hi u,.int 1 v] }
 | .frz o u=>h.get? a=some o/\ObjOk H h a u
 | .tbl ps=>h.get? a=some { cls:=.none,data:=.fields ps }
 | .met f x=>h.get? a=some (akj (.ref f) (.ref x))
 | .ext φ=>φ h/\(∃ o,h.get? a=some o)/\∀ h1 h2:Heap,φ h1->(∀ o,h1.get? a=some o->h2.get? a=some o)->φ h2
noncomputable def HOk (H:Hp) (h:Heap):Prop:=∀ a o,H a=some o->ObjOk P w H h a o
end
section
variable {P:Program} {w:World} {H H':Hp} {h h':Heap} {a:Addr} {o:HO}
theorem ObjOk.lt (x:ObjOk P w H h a o):a<h.objs.size:=by
 cases o with
 | lst xs=>obtain⟨_,_,_,_,e⟩:=x;exact ah4 e
 | tup xs=>obtain⟨_,_,_,p⟩:=x;exact p.lt
 | dK kvs=>obtain⟨_,_,_,_,o,_,_,e,_⟩:=x;exact ah4 e
 | dT kvs=>obtain⟨_,_,_,_,o,_,_,e,_⟩:=x;exact ah4 e
 | set S n=>obtain⟨o,_,_,_,e,_⟩:=x;exact ah4 e
 | ins C dx fs=>obtain⟨_,_,_,e,_⟩:=x;exact ah4 e
 | own y=>obtain⟨_,e⟩:=x;exact ah4 e
 | xd fs=>obtain⟨_,⟨_,_,_,e,_⟩,_⟩:=x;exact ah4 e
 | rng lo hi=>obtain⟨_,_,_,e⟩:=x;exact ah4 e
 | frz ob u=>obtain⟨e,_⟩:=x;exact ah4 e
 | tbl ps=>exact ah4 (show h.get? a=some _ from x)
 | met f y=>exact ah4 (show h.get? a=some _ from x)
 | ext φ=>obtain⟨_,⟨_,e⟩,_⟩:=x;exact ah4 e
theorem Paired.mapP {α β:Type} {F G:α->β->Prop}:∀ {l₁:List α} {l₂:List β},Paired F l₁ l₂->(∀ a b,F a b->G a b)->Paired G l₁ l₂
 | _,_,.nil,_=>.nil
 | _,_,.cons r t,f=>.cons (f _ _ r) (Paired.mapP t f)
theorem ObjOk.stay (x:ObjOk P w H h a o) (k:∀ b u,(b=a \/ H b=some (.own a))->h.get? b=some u->h'.get? b=some u)
  (ho:∀ b,H b=some (.own a)->H' b=some (.own a)) (ht:∀ b xs,H b=some (.tup xs)->H' b=some (.tup xs)):ObjOk P w H' h' a o:=by
 induction o with
 | lst xs=>obtain⟨z,its,n,r,e⟩:=x;exact⟨z,its,n,r,k _ _ (.inl rfl) e⟩
 | tup xs=>obtain⟨z,its,r,ob,e,c⟩:=x;exact⟨z,its,r,ob,k _ _ (.inl rfl) e,c⟩
 | dK kvs=>obtain⟨z,y,vs,r,ob,es,ep,e,c⟩:=x;exact⟨z,y,vs,r,ob,es,ep,k _ _ (.inl rfl) e,c⟩
 | dT kvs =>
  obtain⟨z,y,xs,r,ob,es,ep,e,c⟩:=x
  exact⟨z,y,xs,Paired.mapP r fun p q z=>⟨z.1,ht _ _ z.2.1,z.2.2⟩,ob,es,ep,k _ _ (.inl rfl) e,c⟩
 | set S n=>obtain⟨ob,es,ep,t,e,c⟩:=x;exact⟨ob,es,ep,t,k _ _ (.inl rfl) e,c⟩
 | ins C dx fs =>
  obtain⟨d,z,ne,e,mA,⟨od,es,ep,e2,c⟩,r⟩:=x
  exact⟨ho _ d,z,ne,k _ _ (.inl rfl) e,mA,⟨od,es,ep,k _ _ (.inr d) e2,c⟩,r⟩
 | own y=>obtain⟨ob,e⟩:=x;exact⟨ob,k _ _ (.inl rfl) e⟩
 | xd fs=>obtain⟨mA,⟨od,es,ep,e,c⟩,r⟩:=x;exact⟨mA,⟨od,es,ep,k _ _ (.inl rfl) e,c⟩,r⟩
 | rng lo hi=>obtain⟨t,u,v,e⟩:=x;exact⟨t,u,v,k _ _ (.inl rfl) e⟩
 | frz ob u ih=>obtain⟨e,q⟩:=x;exact⟨k _ _ (.inl rfl) e,ih q⟩
 | tbl ps =>
  have e:h.get? a=some { cls:=.none,data:=.fields ps }:=x
  show h'.get? a=some { cls:=.none,data:=.fields ps }
  exact k a _ (.inl rfl) e
 | met f y =>
  have e:h.get? a=some (akj (.ref f) (.ref y)):=x
  show h'.get? a=some (akj (.ref f) (.ref y))
  exact k a _ (.inl rfl) e
 | ext φ=>obtain⟨p,⟨o,e⟩,st⟩:=x;exact⟨st _ _ p fun o q=>k _ _ (.inl rfl) q,⟨o,k _ _ (.inl rfl) e⟩,st⟩
theorem HOk.lt (x:HOk P w H h) (e:H a=some o):a<h.objs.size:=(x a o e).lt
theorem HOk.fresh (x:HOk P w H h) (e:h.objs.size<=a):H a=none:=by
 cases q:H a with
 | none=>rfl
 | some u=>exact absurd (ah8 (x.lt q) e) (ajq _)
theorem HOk.kept (x:HOk P w H h) (k:∀ b u,h.get? b=some u->h'.get? b=some u):HOk P w H h':=fun a o e =>
 (x a o e).stay (fun b u _ q=>k b u q) (fun _ q=>q) fun _ _ q=>q
theorem HOk.laid (x:HOk P w H h) (k:∀ b u,h.get? b=some u->h'.get? b=some u) (hp:h.objs.size<=a) (new:ObjOk P w (upd H a o) h' a o):HOk P w (upd H a o) h':=fun b u e=>by
 have hn:=x.fresh hp
 by_cases hb:b=a
 ·subst hb;rw [zr] at e;cases e;exact new
 ·rw [zk hb] at e
  exact (x b u e).stay (fun c v _ q=>k c v q) (fun c q=>by rw [zk (zB q hn)];exact q) fun c xs q=>by rw [zk (zB q hn)];exact q
end
noncomputable def Rd (H:Hp) (a:Addr) (u:HO):Prop:=H a=some u \/ ∃ o,H a=some (.frz o u)
theorem Rd.ok {P:Program} {w:World} {H:Hp} {h:Heap} {a:Addr} {u:HO} (r:Rd H a u) (x:HOk P w H h):ObjOk P w H h a u:=by
 rcases r with r | ⟨o,r⟩
 ·exact x a u r
 ·obtain⟨_,q⟩:=x a _ r
  exact q
noncomputable def Mut:Option HO->Prop
 | some (.lst _)=>True
 | some (.dK _)=>True
 | some (.dT _)=>True
 | some (.set _ _)=>True
 | some (.ins _ _ _)=>True
 | some (.ext _)=>True
 | _=>False
section
variable {P:Program} {w:World} {H:Hp} {h h':Heap} {x e:Addr} {o':HO}
theorem HOk.write (ok:HOk P w H h) (mu:Mut (H x)) (he:e=x \/ H e=some (.own x)) (k:∀ b u,b≠e->h.get? b=some u->h'.get? b=some u) (heo:∃ u,h'.get? e=some u)
  (new:ObjOk P w (upd H x o') h' x o'):HOk P w (upd H x o') h':=fun b u q=>by
 have nown:∀ c y,H c=some (.own y)->c≠x:=fun c y r z=>by subst z;rw [r] at mu;exact mu
 have ntup:∀ c xs,H c=some (.tup xs)->c≠x:=fun c xs r z=>by subst z;rw [r] at mu;exact mu
 by_cases hb:b=x
 ·subst hb;rw [zr] at q;cases q;exact new
 ·rw [zk hb] at q
  by_cases hbe:b=e
  ·have q':H b=some (.own x):=by
    rcases he with z | z
    ·exact absurd (hbe.trans z) hb
    ·rw [hbe];exact z
   rw [q] at q';cases q'
   obtain⟨v,hv⟩:=heo
   exact⟨v,by rw [hbe];exact hv⟩
  ·refine (ok b u q).stay (fun c v hc r=>k c v ?_ r) (fun c r=>by rw [zk (nown c b r)];exact r) fun c xs r=>by rw [zk (ntup c xs r)];exact r
   rcases hc with rfl | hc
   ·exact hbe
   ·rintro rfl
    rcases he with z | z
    ·exact nown c b hc z
    ·rw [hc] at z;cases z;exact hb rfl
end
structure Un (fs ex:List Addr) (H H':Hp) (h h':Heap):Prop where
 keep:∀ b o,h.get? b=some o->H b=none->b∉fs->b∉ex->h'.get? b=some o
 slot:∀ b o,h.get? b=some o->H b=none->b∈fs->b∉ex->∃ sl,h'.get? b=some { o with slots:=sl }
 free:∀ b o,h.get? b=some o->H b=none->b∉ex->H' b=none
 there:∀ b o,h.get? b=some o->b∉ex->∃ o',h'.get? b=some o'
 tups:∀ b xs,H b=some (.tup xs)->H' b=some (.tup xs)
 frzs:∀ b o u,H b=some (.frz o u)->H' b=some (.frz o u)
 tbls:∀ b ps,H b=some (.tbl ps)->∃ more,H' b=some (.tbl (ps++more))
section
variable {fs fs' ex ex':List Addr} {H H1 H2:Hp} {h h1 h2 h':Heap} {a x e:Addr} {o:HO}
theorem Un.any (u:Un fs ex H H1 h h1) {b:Addr} {ob:Obj} (q:h.get? b=some ob) (n:H b=none) (hx:b∉ex):∃ sl,h1.get? b=some { ob with slots:=sl }:=by
 by_cases hb:b∈fs
 ·exact u.slot b ob q n hb hx
 ·exact⟨ob.slots,u.keep b ob q n hb hx⟩
theorem Un.kept (k:∀ b u,h.get? b=some u->h'.get? b=some u):Un fs ex H H h h' :=
 ⟨fun b ob q _ _ _=>k b ob q,fun b ob q _ _ _=>⟨ob.slots,k b ob q⟩,fun _ _ _ n _=>n,fun b ob q _=>⟨ob,k b ob q⟩,fun _ _ q=>q,fun _ _ _ q=>q,fun _ ps q=>⟨#[],by rw [q];simp⟩⟩
theorem Un.refl:Un fs ex H H h h:=Un.kept fun _ _ q=>q
theorem Un.laid (k:∀ b u,h.get? b=some u->h'.get? b=some u) (hp:h.objs.size<=a) (hn:H a=none):Un fs ex H (upd H a o) h h' where
 keep:=fun b u q _ _ _=>k b u q
 slot:=fun b u q _ _ _=>⟨u.slots,k b u q⟩
 free:=fun b u q n _=>by rw [zk (aii (ah8 (ah4 q) hp))];exact n
 there:=fun b u q _=>⟨u,k b u q⟩
 tups:=fun b xs q=>by rw [zk (zB q hn)];exact q
 frzs:=fun b u xs q=>by rw [zk (zB q hn)];exact q
 tbls:=fun b ps q=>⟨#[],by rw [zk (zB q hn),q];simp⟩
theorem Un.write (mu:Mut (H x)) (he:e=x \/ H e=some (.own x)) (k:∀ b u,b≠e->h.get? b=some u->h'.get? b=some u) (heo:∃ u,h'.get? e=some u):Un fs ex H (upd H x o) h h':=by
 have hx:∀ b,H b=none->b≠x:=fun b n z=>by subst z;rw [n] at mu;exact mu
 have hb:∀ b,H b=none->b≠e:=fun b n z=>by
  subst z
  rcases he with r | r
  ·exact hx b n r
  ·rw [n] at r;cases r
 have hm:∀ b u,H b=some u->¬ Mut (some u)->b≠x:=fun b u q nm z=>by subst z;rw [q] at mu;exact nm mu
 refine⟨fun b u q n _ _=>k b u (hb b n) q,fun b u q n _ _=>⟨u.slots,k b u (hb b n) q⟩,fun b u q n _=>by rw [zk (hx b n)];exact n,fun b u q _=>?_,
  fun b xs q=>by rw [zk (hm b _ q fun z=>z)];exact q,fun b u xs q=>by rw [zk (hm b _ q fun z=>z)];exact q,fun b ps q=>⟨#[],by rw [zk (hm b _ q fun z=>z),q];simp⟩⟩
 by_cases hbe:b=e
 ·subst hbe;exact heo
 ·exact⟨u,k b u hbe q⟩
end
noncomputable def trk (h:Heap) (H:Hp):List Addr:=(aj9 h.objs.size).filter fun a=>(H a).isSome
noncomputable def aau (h:Heap) (H:Hp):Heap:=ajH h (trk h H)
theorem acJ (h:Heap) (H:Hp):(aau h H).objs.size=h.objs.size:=PySem.W.hideAll_size _ _
theorem adt {h:Heap} {H:Hp} {b:Addr} {o:Obj} (e:h.get? b=some o) (n:H b=none):(aau h H).get? b=some o :=
 akT _ e fun hm=>by
  have q:(H b).isSome=true:=(akD.mp hm).2
  rw [n] at q;simp at q
theorem aeP {h:Heap} {H:Hp} {b:Addr} {o:Obj} (e:(aau h H).get? b=some o):h.get? b=some o/\H b=none:=by
 have e':h.get? b=some o:=PySem.W.of_hideAll (trk h H) e
 refine⟨e',?_⟩
 cases q:H b with
 | none=>rfl
 | some x =>
  have hm:b∈trk h H:=akD.mpr ⟨ajw.mpr (ah4 e'),by simp [q]⟩
  have z:(aau h H).get? b=none:=akJ (trk h H) hm
  rw [z] at e;cases e
noncomputable def aeQ (g h:Heap) (L:Addr):List (Addr×Obj):=(aj9 h.objs.size).filterMap fun a=>if a=L \/ (g.get? a).isSome=true then none else (h.get? a).map fun o=>(a,o)
noncomputable def rest (g h:Heap) (L d:Addr):List (Addr×Obj):=(aeQ g h L).filter fun p=>decide (p.1≠d)
structure Mod (K:ahX) (mg:Str->Option Value) (base:Heap):Prop where
 kin:K.In base
 glob:base.Ns mainGlobals mg
 blt:∃ mb,base.Ns builtinsNs mb/\∀ x:Str,x ≠ "__name__"->mb x=bootBuiltins x
 nolimit:base.NoLimit
structure Cx where
 prog:Program
 w:World
 K:ahX
 mg:Str->Option Value
 base:Heap
 A:Around
 N:List Str
 s₀:Shared
 H₀:Hp
 env:Env
 outer:List Env
 stack:List Env
 ex:List Addr
 fn:Str->Bool
 calm:Bool
 pn:List (Addr×Obj)
 xe:Value->Shared->Prop
noncomputable def frs (l:List Env):List Addr:=l.filterMap (·.frame)
noncomputable abbrev Cx.fs (X:Cx):List Addr:=frs X.outer
noncomputable def Vis (sc:Scope) (x:Str):Prop:=sc.names.lookup x=some .local \/ sc.names.lookup x=some .cell \/ sc.names.lookup x=some .free
noncomputable def Loc (sc:Scope) (x:Str):Prop:=sc.names.lookup x=some .local \/ sc.names.lookup x=some .cell
noncomputable def Look (env:Env) (h:Heap) (m:Str->Option Value) (x:Str) (u:Value):Prop :=
 (env.kindOf x=some .local/\m x=some u) \/ ((env.kindOf x=some .cell \/ env.kindOf x=some .free)/\∃ c,env.cells.lookup x=some c/\h.IsCell c (some u))
structure Cx.Ok (X:Cx):Prop where
 mod:Mod X.K X.mg X.base
 kind:X.env.scope.kind=.function
 glob:X.env.globals=mainGlobals
 blt:X.env.builtins=builtinsNs
 above:X.s₀.heap.objs.size<=X.env.locals
 inj:∀ x y c,X.env.cells.lookup x=some c->X.env.cells.lookup y=some c->x=y
 has:∀ x,(X.env.kindOf x=some .cell \/ X.env.kindOf x=some .free)->∃ c,X.env.cells.lookup x=some c
 cab:∀ x c,X.fn x=true->X.env.cells.lookup x=some c->X.s₀.heap.objs.size<=c
 hd:X.calm=true->X.A.handled=none
 frames:X.A.frames=some X.stack
 stk:X.stack=X.outer \/ (X.stack=X.env :: X.outer/\X.env.frame=some X.env.locals)
 exf:∀ b∈X.ex,b≠X.env.locals/\∀ x c,X.env.cells.lookup x=some c->c≠b
 bs:∀ b o,X.base.get? b=some o->X.s₀.heap.get? b=some o/\X.H₀ b=none
 bsz:X.base.objs.size<=X.s₀.heap.objs.size
 noex:∀ b o,X.base.get? b=some o->b∉X.ex
 exfs:∀ b∈X.ex,b∉X.fs
 funs:X.s₀.heap.FunFrames X.base X.outer
 frf:∀ b∈X.fs,X.H₀ b=none
structure Inv (X:Cx) (pins:List (Addr×Obj)) (σ:List (Option V)) (H:Hp) (s:Shared):Prop where
 ok:X.Ok
 os:s.os=X.s₀.os
 bare:AllBare s.gens
 base:Un X.fs X.ex X.H₀ H X.s₀.heap s.heap
 loc:∃ m,s.heap.Ns X.env.locals m/\∀ (i:Nat) (x:Str) (v:V),X.N[i]?=some x->σ[i]?=some (some v)->Vis X.env.scope x->∃ u,RelV v u/\Look X.env s.heap m x u
 cell:∀ x c,X.env.cells.lookup x=some c->∃ v,s.heap.IsCell c v
 free:H X.env.locals=none
 freeC:∀ x c,X.env.cells.lookup x=some c->H c=none
 pin:∀ p∈X.pn++pins,s.heap.get? p.1=some p.2/\H p.1=none/\p.1≠X.env.locals/\p.1∉X.fs/\∀ v,p.2.data≠.cell v
 hok:HOk X.prog X.w H s.heap
 len:σ.length=X.N.length
section
variable {X:Cx} {pins:List (Addr×Obj)} {σ:List (Option V)} {H H':Hp} {s:Shared} {h':Heap}
theorem Cx.Ok.nofr (ok:X.Ok) {b:Addr} {o:Obj} (e:X.base.get? b=some o):b∉X.fs:=fun hb=>by
 have:=(ok.funs.mem hb).1
 rw [e] at this;cases this
theorem Inv.bs (I:Inv X pins σ H s):∀ b o,X.base.get? b=some o->s.heap.get? b=some o/\H b=none:=fun b o e =>
 ⟨I.base.keep b o (I.ok.bs b o e).1 (I.ok.bs b o e).2 (I.ok.nofr e) (I.ok.noex b o e),I.base.free b o (I.ok.bs b o e).1 (I.ok.bs b o e).2 (I.ok.noex b o e)⟩
theorem Inv.bk (I:Inv X pins σ H s):∀ b o,X.base.get? b=some o->s.heap.get? b=some o:=fun b o e=>(I.bs b o e).1
theorem Inv.mod (I:Inv X pins σ H s):Mod X.K X.mg X.base:=I.ok.mod
theorem Inv.kIn (I:Inv X pins σ H s):X.K.In s.heap:=I.ok.mod.kin.keeps I.bk
theorem Inv.fr (I:Inv X pins σ H s):∃ m,Fr X.base X.env.locals s.heap m :=
 let⟨m,hn,_⟩:=I.loc
 ⟨m,hn,I.bk,aih I.ok.bsz I.ok.above⟩
theorem Inv.lt (I:Inv X pins σ H s):X.env.locals<s.heap.objs.size:=let⟨_,hn,_⟩:=I.loc;hn.lt
theorem Inv.sz (I:Inv X pins σ H s):X.s₀.heap.objs.size<=s.heap.objs.size:=aih I.ok.above (ajm I.lt)
theorem Inv.nofs (I:Inv X pins σ H s) {a:Addr} (h:s.heap.objs.size<=a):a∉X.fs:=fun hb=>by
 obtain⟨_,o,ho,_⟩:=I.ok.funs.mem hb
 exact absurd (ah8 (ah4 ho) (aih I.sz h)) (ajq _)
theorem Inv.cne (I:Inv X pins σ H s):∀ x c,X.env.cells.lookup x=some c->c≠X.env.locals:=fun x c e z=>by
 obtain⟨v,o,ho,hd⟩:=I.cell x c e
 obtain⟨m,⟨o',es,ep,ho',hd',_⟩,_⟩:=I.loc
 rw [z,ho'] at ho;cases ho;rw [hd'] at hd;cases hd
theorem Inv.funs (I:Inv X pins σ H s):s.heap.FunFrames X.base X.outer:=by
 have all:∀ (l:List Env),(∀ b∈frs l,b∈X.fs)->X.s₀.heap.FunFrames X.base l->s.heap.FunFrames X.base l:=by
  intro l
  induction l with
  | nil=>intro _ _;trivial
  | cons env r ih =>
   intro hs hl
   obtain⟨hk,⟨L,o,hf,hn,ho,hd⟩,hr⟩:=hl
   have hL:L∈X.fs:=hs L (by unfold frs;rw [aiW,hf];exact aic)
   obtain⟨sl,e⟩:=I.base.slot L o ho (I.ok.frf L hL) hL fun z=>I.ok.exfs L z hL
   exact⟨hk,⟨L,_,hf,hn,e,hd⟩,ih (fun b hb=>hs b (by unfold frs;rw [aiW,hf];exact ah3 _ hb)) hr⟩
 exact all X.outer (fun _ hb=>hb) I.ok.funs
theorem Inv.stack (I:Inv X pins σ H s):s.heap.FunFrames X.base X.stack:=by
 rcases I.ok.stk with e | ⟨e,hf⟩
 ·rw [e];exact I.funs
 ·rw [e]
  obtain⟨m,hn,_⟩:=I.loc
  refine .cons (by rw [I.ok.kind];decide) hf hn ?_ I.funs
  exact ajx (aih I.ok.bsz I.ok.above)
theorem Inv.stkSub (I:Inv X pins σ H s):∀ b∈frs X.stack,b∈X.env.locals :: X.fs:=fun b hb=>by
 rcases I.ok.stk with e | ⟨e,hf⟩
 ·rw [e] at hb;exact ah3 _ hb
 ·rw [e] at hb
  unfold frs at hb
  rw [aiW,hf] at hb
  exact hb
theorem Inv.stkFree (I:Inv X pins σ H s):∀ b∈frs X.stack,H b=none:=fun b hb=>by
 rcases ah7.mp (I.stkSub b hb) with e | hb
 ·rw [e];exact I.free
 ·obtain⟨_,o,ho,_⟩:=I.ok.funs.mem hb
  exact I.base.free b o ho (I.ok.frf b hb) fun z=>I.ok.exfs b z hb
theorem Inv.step {g':Array GenState} {t':Nat} {d':Drawn} {ch:List Addr} (I:Inv X pins σ H s)
  (hch:∀ b∈ch,(b∈X.ex \/ X.s₀.heap.objs.size<=b)/\b≠X.env.locals/\(∀ x c,X.env.cells.lookup x=some c->c≠b)/\∀ p∈X.pn++pins,p.1≠b)
  (keep:∀ b o,b≠X.env.locals->b∉X.fs->b∉ch->s.heap.get? b=some o->H b=none->h'.get? b=some o)
  (slot:∀ b o,b≠X.env.locals->b∈X.fs->b∉ch->s.heap.get? b=some o->H b=none->∃ sl,h'.get? b=some { o with slots:=sl }) (free:∀ b o,b∉ch->s.heap.get? b=some o->H b=none->H' b=none)
  (there:∀ b o,b∉ch->s.heap.get? b=some o->∃ o',h'.get? b=some o')
  (tups:∀ b xs,H b=some (.tup xs)->H' b=some (.tup xs)) (frzs:∀ b o u,H b=some (.frz o u)->H' b=some (.frz o u)) (tbls:∀ b ps,H b=some (.tbl ps)->∃ more,H' b=some (.tbl (ps++more)))
  (ns:∀ m,s.heap.Ns X.env.locals m->h'.Ns X.env.locals m) (hok:HOk X.prog X.w H' h') (hg:AllBare g') :
  Inv X pins σ H' { s with heap:=h',gens:=g',drawn:=d',toks:=t' }:=by
 have neL:∀ b o,X.s₀.heap.get? b=some o->b≠X.env.locals:=fun b o e=>aii (ah8 (ah4 e) I.ok.above)
 have neC:∀ b o,X.s₀.heap.get? b=some o->b∉X.ex->b∉ch:=fun b o e hx hb=>by
  rcases (hch b hb).1 with z | z
  ·exact hx z
  ·exact absurd (ah8 (ah4 e) z) (ajq _)
 have cellK:∀ x c,X.env.cells.lookup x=some c->∀ v,s.heap.IsCell c v->h'.IsCell c v:=fun x c e v ⟨o,ho,hd⟩=>by
  have nch:c∉ch:=fun z=>(hch c z).2.2.1 x c e rfl
  by_cases hc:c∈X.fs
  ·obtain⟨sl,q⟩:=slot c o (I.cne x c e) hc nch ho (I.freeC x c e)
   exact⟨_,q,hd⟩
  ·exact⟨o,keep c o (I.cne x c e) hc nch ho (I.freeC x c e),hd⟩
 refine⟨I.ok,I.os,hg,⟨fun b o e n hb hx=>?_,fun b o e n hb hx=>?_,fun b o e n hx=>?_,fun b o e hx=>?_,fun b xs e=>tups b xs (I.base.tups b xs e),fun b o xs e=>frzs b o xs (I.base.frzs b o xs e),fun b ps e=>?_⟩,?_,fun x c e=>?_,?_,fun x c e=>?_,fun p hp=>?_,hok,I.len⟩
 ·exact keep b o (neL b o e) hb (neC b o e hx) (I.base.keep b o e n hb hx) (I.base.free b o e n hx)
 ·obtain⟨sl,e1⟩:=I.base.slot b o e n hb hx
  obtain⟨sl',e2⟩:=slot b _ (neL b o e) hb (neC b o e hx) e1 (I.base.free b o e n hx)
  exact⟨sl',e2⟩
 ·obtain⟨o',e1⟩:=I.base.there b o e hx
  exact free b o' (neC b o e hx) e1 (I.base.free b o e n hx)
 ·obtain⟨o',e1⟩:=I.base.there b o e hx
  exact there b o' (neC b o e hx) e1
 ·obtain⟨m1,e1⟩:=I.base.tbls b ps e
  obtain⟨m2,e2⟩:=tbls b _ e1
  exact⟨m1++m2,by rw [e2,Array.append_assoc]⟩
 ·obtain⟨m,hn,hl⟩:=I.loc
  refine⟨m,ns m hn,fun i x v e1 e2 e3=>?_⟩
  obtain⟨u,r,l⟩:=hl i x v e1 e2 e3
  refine⟨u,r,?_⟩
  rcases l with l | ⟨k,c,e,z⟩
  ·exact .inl l
  ·exact .inr ⟨k,c,e,cellK x c e _ z⟩
 ·obtain⟨v,z⟩:=I.cell x c e
  exact⟨v,cellK x c e v z⟩
 ·obtain⟨m,⟨o,_,_,ho,_⟩,_⟩:=I.loc
  exact free _ o (fun z=>(hch _ z).2.1 rfl) ho I.free
 ·obtain⟨v,o,ho,hd⟩:=I.cell x c e
  exact free c o (fun z=>(hch c z).2.2.1 x c e rfl) ho (I.freeC x c e)
 ·obtain⟨e,n,ne,nf,d⟩:=I.pin p hp
  have nch:p.1∉ch:=fun z=>(hch p.1 z).2.2.2 p hp rfl
  exact⟨keep p.1 p.2 ne nf nch e n,free p.1 p.2 nch e n,ne,nf,d⟩
theorem Inv.un {t':Nat} (I:Inv X pins σ H s) (u:Un X.fs [] H H' s.heap h') (hok:HOk X.prog X.w H' h'):Inv X pins σ H' { s with heap:=h',toks:=t' }:=by
 obtain⟨m,⟨o,es,ep,ho,r⟩,_⟩:=id I.loc
 obtain⟨sl,hL⟩:=u.any ho I.free (by simp)
 exact I.step (g':=s.gens) (d':=s.drawn) (ch:=[]) (fun _ z=>nomatch z) (fun b o _ hb _ e n=>u.keep b o e n hb (by simp)) (fun b o _ hb _ e n=>u.slot b o e n hb (by simp)) (fun b o _ e n=>u.free b o e n (by simp)) (fun b o _ e=>u.there b o e (by simp)) u.tups u.frzs u.tbls (fun m' hm=>by
  obtain⟨o',es',ep',ho',r'⟩:=hm
  rw [ho] at ho';cases ho'
  exact⟨_,es',ep',hL,r'⟩) hok I.bare
theorem Inv.call {g':Array GenState} {t':Nat} {d':Drawn} {ch:List Addr} (I:Inv X pins σ H s) (u:Un (frs X.stack) ch H H' s.heap h') (hok:HOk X.prog X.w H' h') (hg:AllBare g')
  (hch:∀ b∈ch,(b∈X.ex \/ X.s₀.heap.objs.size<=b)/\b≠X.env.locals/\(∀ x c,X.env.cells.lookup x=some c->c≠b)/\∀ p∈X.pn++pins,p.1≠b) :
  Inv X pins σ H' { s with heap:=h',gens:=g',drawn:=d',toks:=t' }:=by
 obtain⟨m,⟨o,es,ep,ho,r⟩,_⟩:=id I.loc
 obtain⟨sl,hL⟩:=u.any ho I.free fun z=>(hch _ z).2.1 rfl
 exact I.step (ch:=ch) hch (fun b o hL hb hc e n=>u.keep b o e n (fun z=>(ah7.mp (I.stkSub b z)).elim hL hb) hc) (fun b o _ _ hc e n=>u.any e n hc) (fun b o hc e n=>u.free b o e n hc) (fun b o hc e=>u.there b o e hc) u.tups u.frzs u.tbls (fun m' hm=>by
  obtain⟨o',es',ep',ho',r'⟩:=hm
  rw [ho] at ho';cases ho'
  exact⟨_,es',ep',hL,r'⟩) hok hg
theorem Inv.turned {t':Nat} {it:Addr} (I:Inv X pins σ H s) (k:∀ b o,b≠it->s.heap.get? b=some o->h'.get? b=some o) (hn:H it=none) (hL:it≠X.env.locals)
  (h1:it∈X.ex \/ X.s₀.heap.objs.size<=it) (h2:∀ x c,X.env.cells.lookup x=some c->c≠it) (h3:∀ p∈X.pn++pins,p.1≠it):Inv X pins σ H { s with heap:=h',toks:=t' }:=by
 have nit:∀ b u,H b=some u->b≠it:=fun b u e z=>by rw [z,hn] at e;cases e
 refine I.step (g':=s.gens) (d':=s.drawn) (ch:=[it]) (fun b hb=>?_) (fun b o _ _ hc e _=>k b o (fun z=>hc (by simp [z])) e) (fun b o _ _ hc e _=>⟨o.slots,k b o (fun z=>hc (by simp [z])) e⟩) (fun _ _ _ _ n=>n)
  (fun b o hc e=>⟨o,k b o (fun z=>hc (by simp [z])) e⟩) (fun _ _ e=>e) (fun _ _ _ e=>e) (fun b ps e=>⟨#[],by rw [e];simp⟩) (fun m hm=>?_) (fun b u e=>?_) I.bare
 ·have e:b=it:=by simpa using hb
  subst e
  exact⟨h1,hL,h2,h3⟩
 ·obtain⟨o,es,ep,ho,r⟩:=hm
  exact⟨o,es,ep,k _ o (aje hL) ho,r⟩
 ·refine (I.hok b u e).stay (fun c v hc q=>k c v ?_ q) (fun _ q=>q) fun _ _ q=>q
  rcases hc with z | z
  ·rw [z];exact nit b u e
  ·exact nit c _ z
theorem Inv.tok (I:Inv X pins σ H s) (t:Nat):Inv X pins σ H { s with toks:=t }:=I.un (h':=s.heap) (t':=t) Un.refl I.hok
theorem Inv.kept {t':Nat} (I:Inv X pins σ H s) (k:∀ b u,s.heap.get? b=some u->h'.get? b=some u):Inv X pins σ H { s with heap:=h',toks:=t' }:=I.un (Un.kept k) (I.hok.kept k)
theorem Inv.laid {a:Addr} {o:HO} {t':Nat} (I:Inv X pins σ H s) (k:∀ b u,s.heap.get? b=some u->h'.get? b=some u) (hp:s.heap.objs.size<=a) (new:ObjOk X.prog X.w (upd H a o) h' a o) :
  Inv X pins σ (upd H a o) { s with heap:=h',toks:=t' }:=I.un (Un.laid k hp (I.hok.fresh hp)) (I.hok.laid k hp new)
theorem Inv.write {x e:Addr} {o:HO} {t':Nat} (I:Inv X pins σ H s) (mu:Mut (H x)) (he:e=x \/ H e=some (.own x)) (k:∀ b u,b≠e->s.heap.get? b=some u->h'.get? b=some u) (heo:∃ u,h'.get? e=some u)
  (new:ObjOk X.prog X.w (upd H x o) h' x o):Inv X pins σ (upd H x o) { s with heap:=h',toks:=t' }:=I.un (Un.write mu he k heo) (I.hok.write mu he k heo new)
theorem Inv.pins_of {pins':List (Addr×Obj)} (I:Inv X pins σ H s) (h:∀ p∈pins',s.heap.get? p.1=some p.2/\H p.1=none/\p.1≠X.env.locals/\p.1∉X.fs/\∀ v,p.2.data≠.cell v):Inv X pins' σ H s :=
 ⟨I.ok,I.os,I.bare,I.base,I.loc,I.cell,I.free,I.freeC,fun p hp=>(ail.mp hp).elim (fun z=>I.pin p (ai8 _ z)) (h p),I.hok,I.len⟩
theorem vm {N:List Str} (hN:N.Nodup) {i j:Nat} {x:Str} (a:N[i]?=some x) (b:N[j]?=some x):i=j:=by
 obtain⟨h1,e1⟩:=ah1.mp a
 obtain⟨h2,e2⟩:=ah1.mp b
 exact (List.getElem_inj hN).mp (e1.trans e2.symm)
theorem v8 {M:Model} {A:Around} {E:Value->Shared->Prop} {i:Nat} {x:Str} {v:V} {u:Value} {Q:Unit->Shared->Prop} (I:Inv X pins σ H s) (hN:X.N.Nodup) (hi:X.N[i]?=some x) (hx:Loc X.env.scope x) (r:RelV v u)
  (h:∀ s',Inv X pins (σ.set i (some v)) H s'->(∃ a,aj6 a s.heap s'.heap/\(a=X.env.locals \/ X.env.cells.lookup x=some a))->Q () s') (hf:X.fn x=true \/ X.env.scope.names.lookup x=some .local:=by first | exact .inl rfl | exact .inr rfl | assumption):wpAny M A (storeName X.env x u) Q E s:=by
 obtain⟨m,hn,hl⟩:=id I.loc
 have hcls:(X.env.scope.kind == .class || (X.env.scope.kind == .module && X.env.locals != X.env.globals))=false:=by rw [I.ok.kind];rfl
 have hiσ:i<σ.length:=by rw [I.len];exact (ah1.mp hi).1
 have cne:=I.cne
 have tracked:∀ {a:Addr} {h':Heap},(∃ o,s.heap.get? a=some o/\H a=none)->aj6 a s.heap h'->HOk X.prog X.w H h':=fun {a h'} ha hs b ob e=>by
  obtain⟨_,_,hfree⟩:=ha
  refine (I.hok b ob e).stay (fun c w' hc q=>(hs.2 c ?_).trans q) (fun _ q=>q) fun _ _ q=>q
  rintro rfl
  rcases hc with rfl | hc
  ·rw [hfree] at e;cases e
  ·rw [hfree] at hc;cases hc
 rcases hx with hk | hk
 ·refine wpAny_storeName_local hk hn (fun h' hn' hs=>?_) hcls
  obtain⟨oL,_,_,hoL,_⟩:=id hn
  refine h _ ⟨I.ok,I.os,I.bare,⟨fun b o e n hb hx=>?_,fun b o e n hb hx=>?_,I.base.free,fun b o e hx=>?_,I.base.tups,I.base.frzs,I.base.tbls⟩,⟨_,hn',fun j y v' e1 e2 e3=>?_⟩,fun y c e=>?_,I.free,I.freeC,fun p hp=>?_,tracked ⟨oL,hoL,I.free⟩ hs,by simpa using I.len⟩ ⟨_,hs,.inl rfl⟩
  ·exact (hs.2 b (aii (ah8 (ah4 e) I.ok.above))).trans (I.base.keep b o e n hb hx)
  ·obtain⟨sl,e1⟩:=I.base.slot b o e n hb hx
   exact⟨sl,(hs.2 b (aii (ah8 (ah4 e) I.ok.above))).trans e1⟩
  ·obtain⟨o',e1⟩:=I.base.there b o e hx
   exact⟨o',(hs.2 b (aii (ah8 (ah4 e) I.ok.above))).trans e1⟩
  ·by_cases hj:j=i
   ·subst hj
    rw [hi] at e1;cases e1
    rw [aiM hiσ] at e2
    cases e2
    exact⟨u,r,.inl ⟨hk,by simp⟩⟩
   ·rw [aiR (aje hj)] at e2
    obtain⟨u',r',q⟩:=hl j y v' e1 e2 e3
    refine⟨u',r',?_⟩
    rcases q with⟨k,e⟩ | ⟨k,c,e,z⟩
    ·refine .inl ⟨k,?_⟩
     have:y≠x:=fun e=>hj (vm hN e1 (e▸hi))
     simp [this,e]
    ·exact .inr ⟨k,c,e,z.sameBut hs (cne y c e)⟩
  ·obtain⟨w',z⟩:=I.cell y c e
   exact⟨w',z.sameBut hs (cne y c e)⟩
  ·obtain⟨e,n,ne,nf,d⟩:=I.pin p hp
   exact⟨(hs.2 p.1 ne).trans e,n,ne,nf,d⟩
 ·have hfn:X.fn x=true:=by
   rcases hf with z | z
   ·exact z
   ·rw [z] at hk;cases hk
  obtain⟨c,hc⟩:=I.ok.has x (.inl hk)
  obtain⟨w',z⟩:=I.cell x c hc
  refine wpAny_storeName_cell I.ok.kind hk hc z (fun h' hc' hs=>?_)
  obtain⟨oc,hoc,hocd⟩:=id z
  refine h { s with heap:=h' } ⟨I.ok,I.os,I.bare,⟨fun b o e n hb hx=>?_,fun b o e n hb hx=>?_,I.base.free,fun b o e hx=>?_,I.base.tups,I.base.frzs,I.base.tbls⟩,⟨m,hn.sameBut hs (aje (cne x c hc)),fun j y v' e1 e2 e3=>?_⟩,fun y c' e=>?_,I.free,I.freeC,fun p hp=>?_,tracked ⟨oc,hoc,I.freeC x c hc⟩ hs,by simpa using I.len⟩ ⟨c,hs,.inr hc⟩
  ·exact (hs.2 b (aii (ah8 (ah4 e) (I.ok.cab x c hfn hc)))).trans (I.base.keep b o e n hb hx)
  ·obtain⟨sl,e1⟩:=I.base.slot b o e n hb hx
   exact⟨sl,(hs.2 b (aii (ah8 (ah4 e) (I.ok.cab x c hfn hc)))).trans e1⟩
  ·obtain⟨o',e1⟩:=I.base.there b o e hx
   exact⟨o',(hs.2 b (aii (ah8 (ah4 e) (I.ok.cab x c hfn hc)))).trans e1⟩
  ·by_cases hj:j=i
   ·subst hj
    rw [hi] at e1;cases e1
    rw [aiM hiσ] at e2
    cases e2
    exact⟨u,r,.inr ⟨.inl hk,c,hc,hc'⟩⟩
   ·rw [aiR (aje hj)] at e2
    obtain⟨u',r',q⟩:=hl j y v' e1 e2 e3
    refine⟨u',r',?_⟩
    rcases q with q | ⟨k,c',e,z'⟩
    ·exact .inl q
    ·refine .inr ⟨k,c',e,z'.sameBut hs ?_⟩
     rintro rfl
     exact hj (vm hN e1 (I.ok.inj _ _ _ e hc▸hi))
  ·by_cases hcc:c'=c
   ·subst hcc;exact⟨_,hc'⟩
   ·obtain⟨w2,z2⟩:=I.cell y c' e
    exact⟨w2,z2.sameBut hs hcc⟩
  ·obtain⟨e,n,ne,nf,d⟩:=I.pin p hp
   refine⟨(hs.2 p.1 ?_).trans e,n,ne,nf,d⟩
   intro q
   rw [q,hoc] at e
   have q':oc=p.2:=Option.some.inj e
   exact d w' (by rw [<-q'];exact hocd)
theorem jL {M:Model} {A:Around} {E:Value->Shared->Prop} {i:Nat} {x:Str} {v:V} {u:Value} {Q:Unit->Shared->Prop} (I:Inv X pins σ H s) (hN:X.N.Nodup) (hi:X.N[i]?=some x) (hx:Loc X.env.scope x) (r:RelV v u)
  (h:∀ s',Inv X pins (σ.set i (some v)) H s'->Q () s') (hf:X.fn x=true \/ X.env.scope.names.lookup x=some .local:=by first | exact .inl rfl | exact .inr rfl | assumption):wpAny M A (storeName X.env x u) Q E s :=
 v8 I hN hi hx r (fun s' I' _=>h s' I') hf
theorem Inv.call' {s':Shared} {ch:List Addr} (I:Inv X pins σ H s) (ho:s'.os=s.os) (u:Un (frs X.stack) ch H H' s.heap s'.heap) (hok:HOk X.prog X.w H' s'.heap) (hg:AllBare s'.gens)
  (hch:∀ b∈ch,(b∈X.ex \/ X.s₀.heap.objs.size<=b)/\b≠X.env.locals/\(∀ x c,X.env.cells.lookup x=some c->c≠b)/\∀ p∈X.pn++pins,p.1≠b):Inv X pins σ H' s':=by
 obtain⟨h',g',d',t',o'⟩:=s'
 have e:o'=s.os:=ho
 subst e
 exact I.call (g':=g') (t':=t') (d':=d') u hok hg hch
end
noncomputable abbrev XK:=Value->Option Addr->Hp->Prop
noncomputable abbrev St:=List (Option V)
noncomputable abbrev VK:=V->Hp->Prop
noncomputable abbrev TE:=St->Hp->VK->Prop
noncomputable abbrev TT:=St->Hp->(Bool->Hp->Prop)->Prop
noncomputable abbrev TA:=St->Hp->(List V->Hp->Prop)->Prop
structure Ends where
 nx:St->Hp->Prop
 rt:VK
 bk:St->Hp->Prop:=fun _ _=>False
 ct:St->Hp->Prop:=fun _ _=>False
noncomputable abbrev TS:=Ends->St->Hp->Prop
noncomputable def EP (X:Cx) (pins:List (Addr×Obj)) (σ:St) (Q:VK) (u:Value) (s':Shared):Prop:=∃ v H',Inv X pins σ H' s'/\RelV v u/\Q v H'
noncomputable def TP (X:Cx) (pins:List (Addr×Obj)) (σ:St) (Q:Bool->Hp->Prop) (b:Bool) (s':Shared):Prop:=∃ H',Inv X pins σ H' s'/\Q b H'
noncomputable def AP (X:Cx) (pins:List (Addr×Obj)) (σ:St) (Q:List V->Hp->Prop) (us:List Value) (s':Shared):Prop:=∃ vs H',Inv X pins σ H' s'/\Vals vs us/\Q vs H'
noncomputable def SP (X:Cx) (pins:List (Addr×Obj)) (D:Ends) (f:Flow) (s':Shared):Prop :=
 match f with
 | .next=>∃ σ' H',Inv X pins σ' H' s'/\D.nx σ' H'
 | .brk=>∃ σ' H',Inv X pins σ' H' s'/\D.bk σ' H'
 | .cont=>∃ σ' H',Inv X pins σ' H' s'/\D.ct σ' H'
 | .ret u=>∃ v σ' H',Inv X pins σ' H' s'/\RelV v u/\D.rt v H'
noncomputable def PE (X:Cx) (e:Expr) (t:TE):Prop :=
 ∀ (pins:List (Addr×Obj)) (s:Shared) (σ:St) (H:Hp) (Q:VK),Inv X pins σ H s->t σ H Q->wpAny (model X.prog X.w) X.A (eval e X.env) (EP X pins σ Q) X.xe s
noncomputable def PT (X:Cx) (e:Expr) (t:TT):Prop :=
 ∀ (pins:List (Addr×Obj)) (s:Shared) (σ:St) (H:Hp) (Q:Bool->Hp->Prop),Inv X pins σ H s->t σ H Q->wpAny (model X.prog X.w) X.A (isTrue e X.env (eval e X.env)) (TP X pins σ Q) X.xe s
noncomputable def PW (X:Cx) (e:Expr) (t:TT):Prop :=
 ∀ (whole:Sem Value) (pins:List (Addr×Obj)) (s:Shared) (σ:St) (H:Hp) (Q:Bool->Hp->Prop),Inv X pins σ H s->t σ H Q->wpAny (model X.prog X.w) X.A (isTrue e X.env whole) (TP X pins σ Q) X.xe s
theorem PW.pt {X:Cx} {e:Expr} {t:TT} (h:PW X e t):PT X e t:=h _
noncomputable def PA (X:Cx) (es:List Expr) (t:TA):Prop :=
 ∀ (pos:Pos) (pins:List (Addr×Obj)) (s:Shared) (σ:St) (H:Hp) (Q:List V->Hp->Prop),Inv X pins σ H s->t σ H Q->wpAny (model X.prog X.w) X.A (spliced (backTo pos (starEach es X.env))) (AP X pins σ Q) X.xe s
noncomputable def PS (X:Cx) (st:Stmt) (t:TS):Prop :=
 ∀ (pins:List (Addr×Obj)) (s:Shared) (σ:St) (H:Hp) (D:Ends),Inv X pins σ H s->t D σ H->wpAny (model X.prog X.w) X.A (exec st X.env) (SP X pins D) X.xe s
noncomputable def PSs (X:Cx) (st:List Stmt) (t:TS):Prop :=
 ∀ (pins:List (Addr×Obj)) (s:Shared) (σ:St) (H:Hp) (D:Ends),Inv X pins σ H s->t D σ H->wpAny (model X.prog X.w) X.A (execs st X.env) (SP X pins D) X.xe s
theorem thn {α:Type} {t:Sem α} {Q Q':α->Shared->Prop} {M:Model} {A:Around} {E:Value->Shared->Prop} {s:Shared} (h:wpAny M A t Q E s) (hQ:∀ a s,Q a s->Q' a s):wpAny M A t Q' E s:=wpAny_mono h hQ fun _ _ x=>x
section
variable {X:Cx}
noncomputable def je (i:Nat):TE:=fun σ H Q=>∃ v,σ[i]?=some (some v)/\Q v H
noncomputable def tC (v:V):TE:=fun _ H Q=>Q v H
theorem agg {i:Nat} {x:Str} {pos:Pos} (hN:X.N[i]?=some x) (hv:Vis X.env.scope x) (hd:(x == ("__debug__":Str))=false:=by decide) (hcd:(x == ("__classdict__":Str))=false:=by decide):PE X (.Name x pos) (je i):=by
 intro pins s σ H Q I h
 obtain⟨v,e,h⟩:=h
 obtain⟨m,hn,hl⟩:=I.loc
 obtain⟨u,r,l⟩:=hl i x v hN e hv
 have fin:EP X pins σ Q u s:=⟨v,H,I,r,h⟩
 rcases l with⟨hk,hm⟩ | ⟨hk,c,hc,hcell⟩
 ·exact wpAny_Name (wpAny_loadName_local I.ok.kind hk hn hm fin) hd
 ·rcases hk with hk | hk
  ·exact wpAny_Name (wpAny_loadName_cell I.ok.kind hk hc hcell fin) hd
  ·exact wpAny_Name (wpAny_loadName_free I.ok.kind hk hc hcell fin hcd) hd
theorem zd {i j pos}:PE X (.Constant (.int i) j pos) (tC (.int i)):=fun _ _ _ H _ I h=>wpAny_Constant_int ⟨.int i,H,I.tok _,⟨_,rfl⟩,h⟩
theorem ab8 {b j pos}:PE X (.Constant (.bool b) j pos) (tC (.bl b)):=fun _ _ _ H _ I h=>Constant_bool ⟨.bl b,H,I,rfl,h⟩
theorem abv {j pos}:PE X (.Constant .none j pos) (tC .non):=fun _ _ _ H _ I h=>Constant_none ⟨.non,H,I,rfl,h⟩
theorem zp {x j pos}:PE X (.Constant (.str x) j pos) (tC (.str x)):=fun _ _ _ H _ I h=>Calls.Constant_str ⟨.str x,H,I.tok _,⟨_,rfl⟩,h⟩
noncomputable def Gl (X:Cx) (x:Str):Prop:=X.env.kindOf x=some .globalImplicit
theorem yY {E:Value->Shared->Prop} {pins:List (Addr×Obj)} {s:Shared} {σ:St} {H:Hp} {x:Str} {u:Value} {pos:Pos} {Q:Value->Shared->Prop} (I:Inv X pins σ H s) (hg:Gl X x) (hm:X.mg x=some u) (h:Q u s)
  (hd:(x == ("__debug__":Str))=false:=by decide):wpAny (model X.prog X.w) X.A (eval (.Name x pos) X.env) Q E s :=
 aka I.ok.kind hg (Calls.loadGlobal_global (by rw [I.ok.glob];exact I.mod.glob.keeps I.bk) hm h) hd
theorem vn {E:Value->Shared->Prop} {pins:List (Addr×Obj)} {s:Shared} {σ:St} {H:Hp} {x:Str} {u:Value} {pos:Pos} {Q:Value->Shared->Prop} (I:Inv X pins σ H s) (hg:Gl X x) (hm:X.mg x=none) (hv:bootBuiltins x=some u) (h:Q u s)
  (hn:x ≠ "__name__":=by decide) (hd:(x == ("__debug__":Str))=false:=by decide):wpAny (model X.prog X.w) X.A (eval (.Name x pos) X.env) Q E s:=by
 obtain⟨mb,h1,h2⟩:=I.mod.blt
 exact aka I.ok.kind hg (Calls.loadGlobal_builtin (by rw [I.ok.glob];exact I.mod.glob.keeps I.bk) hm (by rw [I.ok.blt];exact h1.keeps I.bk) ((h2 x hn).trans hv) h) hd
theorem yd {x:Str} {v:V} {u:Value} {pos:Pos} (hg:Gl X x) (hm:X.mg x=some u) (r:RelV v u) (hd:(x == ("__debug__":Str))=false:=by decide):PE X (.Name x pos) (tC v) :=
 fun _ _ _ H _ I h=>yY I hg hm ⟨v,H,I,r,h⟩ hd
theorem ab9 {x:Str} {v:V} {u:Value} {pos:Pos} (hg:Gl X x) (hm:X.mg x=none) (hv:bootBuiltins x=some u) (r:RelV v u) (hn:x ≠ "__name__":=by decide) (hd:(x == ("__debug__":Str))=false:=by decide):PE X (.Name x pos) (tC v) :=
 fun _ _ _ H _ I h=>vn I hg hm hv ⟨v,H,I,r,h⟩ hn hd
variable {a b:Expr} {ta tb:TE} {pos:Pos}
variable {tA tB':TT} {rest:List Expr}
noncomputable def ag9 (t u:TT):TT:=fun σ H Q=>t σ H fun c H1=>if c=true then u σ H1 Q else Q false H1
noncomputable def tOr (t u:TT):TT:=fun σ H Q=>t σ H fun c H1=>if c=true then Q true H1 else u σ H1 Q
noncomputable def aha (t:TT):TT:=fun σ H Q=>t σ H fun c H1=>Q (!c) H1
theorem ve (ha:PT X a tA):PW X (.BoolOp .And [a] pos) tA:=by
 intro wh pins s σ H Q I h
 refine isTrue_and (thn (ha pins s σ H Q I h) fun c s1 e=>?_)
 cases c with
 | true=>exact isTrue_and_nil e
 | false=>exact e
theorem qf (ha:PT X a tA):PW X (.BoolOp .Or [a] pos) tA:=by
 intro wh pins s σ H Q I h
 refine isTrue_or (thn (ha pins s σ H Q I h) fun c s1 e=>?_)
 cases c with
 | false=>exact isTrue_or_nil e
 | true=>exact e
theorem qH (ha:PT X a tA) (hb:PW X (.BoolOp .And (b :: rest) pos) tB'):PW X (.BoolOp .And (a :: b :: rest) pos) (ag9 tA tB'):=by
 intro wh pins s σ H Q I h
 refine isTrue_and (thn (ha pins s σ H _ I h) fun c s1 ⟨H1,I1,q1⟩=>?_)
 cases c with
 | true=>exact hb wh pins s1 σ H1 Q I1 q1
 | false=>exact⟨H1,I1,q1⟩
theorem qR (ha:PT X a tA) (hb:PW X (.BoolOp .Or (b :: rest) pos) tB'):PW X (.BoolOp .Or (a :: b :: rest) pos) (tOr tA tB'):=by
 intro wh pins s σ H Q I h
 refine isTrue_or (thn (ha pins s σ H _ I h) fun c s1 ⟨H1,I1,q1⟩=>?_)
 cases c with
 | true=>exact⟨H1,I1,q1⟩
 | false=>exact hb wh pins s1 σ H1 Q I1 q1
theorem jn (ha:PT X a tA):PT X (.UnaryOp .Not a pos) (aha tA):=by
 intro pins s σ H Q I h
 exact isTrue_not (ha pins s σ H (fun c H1=>Q (!c) H1) I h)
noncomputable def afM (ta tb:TE):TE:=fun σ H Q=>ta σ H fun x H1=>∃ c,x=.bl c/\if c=true then tb σ H1 Q else Q (.bl false) H1
noncomputable def ahb (ta tb:TE):TE:=fun σ H Q=>ta σ H fun x H1=>∃ c,x=.bl c/\if c=true then Q (.bl true) H1 else tb σ H1 Q
noncomputable def afN (ta:TE):TE:=fun σ H Q=>ta σ H fun x H1=>∃ c,x=.bl c/\Q (.bl (!c)) H1
theorem aav {op} {t:TE} (h:PE X a t):PE X (.BoolOp op [a] pos) t:=fun pins s σ H Q I hw=>BoolOp_one (h pins s σ H Q I hw)
theorem aaw (ha:PE X a ta) (hb:PE X (.BoolOp .And (b :: rest) pos) tb):PE X (.BoolOp .And (a :: b :: rest) pos) (afM ta tb):=by
 intro pins s σ H Q I h
 refine BoolOp_and (thn (ha pins s σ H _ I h) fun v s1 ⟨x,H1,I1,r1,q1⟩=>?_)
 obtain⟨c,rfl,q1⟩:=q1
 cases r1
 refine wpAny_truthy_bool ?_
 cases c with
 | true=>exact hb pins s1 σ H1 Q I1 q1
 | false=>exact⟨.bl false,H1,I1,rfl,q1⟩
theorem ahc (ha:PE X a ta) (hb:PE X (.BoolOp .Or (b :: rest) pos) tb):PE X (.BoolOp .Or (a :: b :: rest) pos) (ahb ta tb):=by
 intro pins s σ H Q I h
 refine BoolOp_or (thn (ha pins s σ H _ I h) fun v s1 ⟨x,H1,I1,r1,q1⟩=>?_)
 obtain⟨c,rfl,q1⟩:=q1
 cases r1
 refine wpAny_truthy_bool ?_
 cases c with
 | false=>exact hb pins s1 σ H1 Q I1 q1
 | true=>exact⟨.bl true,H1,I1,rfl,q1⟩
theorem agh (ha:PE X a ta):PE X (.UnaryOp .Not a pos) (afN ta):=by
 intro pins s σ H Q I h
 refine UnaryOp_ (thn (ha pins s σ H _ I h) fun v s1 ⟨x,H1,I1,r1,q1⟩=>?_)
 obtain⟨c,rfl,q1⟩:=q1
 cases r1
 exact not_of (wpAny_truthy_bool ⟨.bl (!c),H1,I1,rfl,q1⟩)
noncomputable def tIf (t:TT) (ta tb:TE):TE:=fun σ H Q=>t σ H fun c H1=>if c=true then ta σ H1 Q else tb σ H1 Q
theorem adu {c:Expr} (hc:PT X c tA) (ha:PE X a ta) (hb:PE X b tb):PE X (.IfExp c a b pos) (tIf tA ta tb):=by
 intro pins s σ H Q I h
 refine wpAny_IfExp (thn (hc pins s σ H _ I h) fun d s1 ⟨H1,I1,q1⟩=>?_)
 cases d with
 | true=>exact ha pins s1 σ H1 Q I1 q1
 | false=>exact hb pins s1 σ H1 Q I1 q1
end
noncomputable def SqL (K:ahX) (H:Hp) (a:Addr) (xs:List V):Prop :=
 Rd H a (.lst xs) \/
  ∃ (o:Obj) (its:Array Value) (n:Nat),K.lookup a=some o/\o.cls=.type "list"/\o.dict=none/\o.data=.seq its n/\its.size<=sizeLine/\Vals xs its.toList
noncomputable def SqT (K:ahX) (H:Hp) (a:Addr) (xs:List V):Prop :=
 Rd H a (.tup xs) \/
  ∃ (o:Obj) (its:Array Value) (n:Nat),K.lookup a=some o/\o.cls=.type "tuple"/\o.data=.seq its n/\its.size<=sizeLine/\Vals xs its.toList
noncomputable def ahK:Value->Option V
 | .none=>some .non
 | .bool b=>some (.bl b)
 | .int i _=>some (.int i)
 | .str x _=>some (.str x)
 | .bytes b _=>some (.byt b)
 | .float b _=>some (.flt b)
 | .ref a=>some (.ref a)
 | .type n=>some (.ty n)
 | _=>none
theorem RelV.abs {x:V} {u:Value} (r:RelV x u):ahK u=some x:=by
 cases x with
 | non=>cases r;rfl
 | bl _=>cases r;rfl
 | int _=>obtain⟨t,rfl⟩:=r;rfl
 | str _=>obtain⟨t,rfl⟩:=r;rfl
 | byt _=>obtain⟨t,rfl⟩:=r;rfl
 | flt _=>obtain⟨t,rfl⟩:=r;rfl
 | ref _=>cases r;rfl
 | ty _=>cases r;rfl
theorem RelV.inj {x y:V} {u:Value} (r:RelV x u) (q:RelV y u):x=y:=Option.some.inj (r.abs.symm.trans q.abs)
theorem Vals.inj:∀ {xs ys:List V} {us:List Value},Vals xs us->Vals ys us->xs=ys
 | _,_,_,.nil,.nil=>rfl
 | _,_,_,.cons r t,.cons r' t'=>by rw [r.inj r',Vals.inj t t']
section
variable {X:Cx} {pins:List (Addr×Obj)} {σ:St} {H:Hp} {s:Shared} {a:Addr} {xs ys:List V}
theorem SqL.of {K:ahX} (h:H a=some (.lst xs)):SqL K H a xs:=.inl (.inl h)
theorem SqT.of {K:ahX} (h:H a=some (.tup xs)):SqT K H a xs:=.inl (.inl h)
theorem Inv.list (I:Inv X pins σ H s) (h:SqL X.K H a xs):∃ its:List Value,Vals xs its/\PlainL s.heap a its.toArray/\xs.length<=sizeLine:=by
 rcases h with h | ⟨o,its,n,hk,hc,hd,hs,hz,r⟩
 ·obtain⟨z,its,n,r,e⟩:=h.ok I.hok
  exact⟨its,r,⟨_,n,e,rfl,rfl,rfl⟩,z⟩
 ·refine⟨its.toList,r,⟨o,n,I.kIn a o hk,hc,hd,by simpa using hs⟩,?_⟩
  have e:=r.length
  simp only [aiH] at e
  omega
theorem Inv.tuple (I:Inv X pins σ H s) (h:SqT X.K H a xs):∃ its:List Value,Vals xs its/\IsTup s.heap a its.toArray/\xs.length<=sizeLine:=by
 rcases h with h | ⟨o,its,n,hk,hc,hs,hz,r⟩
 ·obtain⟨z,its,r,p⟩:=h.ok I.hok
  exact⟨its,r,p,z⟩
 ·refine⟨its.toList,r,⟨o,I.kIn a o hk,hc,n,by simpa using hs⟩,?_⟩
  have e:=r.length
  simp only [aiH] at e
  omega
theorem Inv.list_inj (I:Inv X pins σ H s) (h:SqL X.K H a xs) (h':SqL X.K H a ys):xs=ys:=by
 obtain⟨its,r,⟨o,n,e,_,_,d⟩,_⟩:=I.list h
 obtain⟨its',r',⟨o',n',e',_,_,d'⟩,_⟩:=I.list h'
 rw [e] at e';cases e'
 rw [d] at d'
 injection d' with d1 _
 have:its=its':=by simpa using congrArg Array.toList d1
 subst this
 exact r.inj r'
end
noncomputable abbrev Cx.wish (X:Cx) (E:Value->Shared->Prop):Cx:={ X with xe:=E }
noncomputable abbrev Cx.nox (X:Cx):Cx:=X.wish fun _ _=>False
theorem Cx.Ok.wish {X:Cx} (ok:X.Ok) (E:Value->Shared->Prop):(X.wish E).Ok :=
 ⟨ok.mod,ok.kind,ok.glob,ok.blt,ok.above,ok.inj,ok.has,ok.cab,ok.hd,ok.frames,ok.stk,ok.exf,ok.bs,ok.bsz,ok.noex,ok.exfs,ok.funs,ok.frf⟩
theorem Cx.Ok.unwish {X:Cx} {E:Value->Shared->Prop} (ok:(X.wish E).Ok):X.Ok :=
 ⟨ok.mod,ok.kind,ok.glob,ok.blt,ok.above,ok.inj,ok.has,ok.cab,ok.hd,ok.frames,ok.stk,ok.exf,ok.bs,ok.bsz,ok.noex,ok.exfs,ok.funs,ok.frf⟩
section
variable {X:Cx} {pins:List (Addr×Obj)} {σ:St} {H:Hp} {s:Shared} {E:Value->Shared->Prop}
theorem Inv.wish (I:Inv X pins σ H s) (E:Value->Shared->Prop):Inv (X.wish E) pins σ H s:=⟨I.ok.wish E,I.os,I.bare,I.base,I.loc,I.cell,I.free,I.freeC,I.pin,I.hok,I.len⟩
theorem Inv.unwish (I:Inv (X.wish E) pins σ H s):Inv X pins σ H s:=⟨I.ok.unwish,I.os,I.bare,I.base,I.loc,I.cell,I.free,I.freeC,I.pin,I.hok,I.len⟩
theorem SP.unwish {D:Ends} {f:Flow} {s':Shared} (h:SP (X.wish E) pins D f s'):SP X pins D f s':=by
 cases f with
 | next=>obtain⟨σ',H',I,q⟩:=h;exact⟨σ',H',I.unwish,q⟩
 | brk=>obtain⟨σ',H',I,q⟩:=h;exact⟨σ',H',I.unwish,q⟩
 | cont=>obtain⟨σ',H',I,q⟩:=h;exact⟨σ',H',I.unwish,q⟩
 | ret u=>obtain⟨v,σ',H',I,r,q⟩:=h;exact⟨v,σ',H',I.unwish,r,q⟩
theorem PSs.nox {st:List Stmt} {t:TS} (h:PSs X.nox st t):PSs X st t:=fun pins s σ H D I hw =>
 wpAny_mono (h pins s σ H D (I.wish _) hw) (fun _ _ q=>q.unwish) fun _ _ z=>aix z
end
section
variable {X:Cx} {st:Stmt} {rest:List Stmt} {t u:TS} {e:Expr} {te:TE} {pos:Pos}
noncomputable def adv:TS:=fun D σ H=>D.nx σ H
noncomputable def vo (t u:TS):TS:=fun D σ H=>t { D with nx:=u D } σ H
theorem zA:PSs X [] adv:=fun _ _ σ H _ I h=>wpAny_execs_nil ⟨σ,H,I,h⟩
theorem zc (h1:PS X st t) (h2:PSs X rest u):PSs X (st :: rest) (vo t u):=by
 intro pins s σ H D I h
 refine wpAny_execs_cons (thn (h1 pins s σ H { D with nx:=u D } I h) fun f s1 q=>?_)
 cases f with
 | next =>
  obtain⟨σ',H',I',q⟩:=q
  exact h2 pins s1 σ' H' D I' q
 | ret v=>exact q
 | brk=>exact q
 | cont=>exact q
theorem zh (h1:PS X st t):PSs X [st] t:=by
 intro pins s σ H D I h
 refine wpAny_execs_cons (thn (h1 pins s σ H D I h) fun f s1 q=>?_)
 cases f with
 | next=>exact wpAny_execs_nil q
 | ret v=>exact q
 | brk=>exact q
 | cont=>exact q
theorem Inv.quiet {pins:List (Addr×Obj)} {σ:St} {H:Hp} {s:Shared} (I:Inv X pins σ H s):interactive X.env=false:=by simp [interactive,I.ok.kind]
noncomputable def adw (te:TE):TS:=fun D σ H=>te σ H fun _ H1=>D.nx σ H1
theorem jo (he:PE X e te) (hs:swapsWith e none pos.line X.env=pure false:=by rfl):PS X (.Expr e pos) (adw te):=by
 intro pins s σ H D I h
 exact wpAny_Expr_any (thn (he pins s σ H _ I h) fun v s1 ⟨x,H1,I1,r1,q1⟩=>⟨σ,H1,I1,q1⟩) I.quiet hs
noncomputable def aeR (te:TE):TS:=fun D σ H=>te σ H D.rt
theorem zy (he:PE X e te):PS X (.Return (some e) pos) (aeR te):=by
 intro pins s σ H D I h
 exact wpAny_Return_some (thn (he pins s σ H _ I h) fun v s1 ⟨x,H1,I1,r1,q1⟩=>⟨x,σ,H1,I1,r1,q1⟩)
noncomputable def abw (c:TT) (t u:TS):TS:=fun D σ H=>c σ H fun b H1=>if b=true then t D σ H1 else u D σ H1
theorem zY {c:Expr} {a b:List Stmt} {tc:TT} (hc:PT X c tc) (ha:PSs X a t) (hb:PSs X b u):PS X (.If c a b pos) (abw tc t u):=by
 intro pins s σ H D I h
 refine wpAny_If (thn (hc pins s σ H _ I h) fun d s1 ⟨H1,I1,q1⟩=>?_)
 cases d with
 | true=>exact ha pins s1 σ H1 D I1 q1
 | false=>exact hb pins s1 σ H1 D I1 q1
end
noncomputable abbrev TG:=V->St->Hp->(St->Hp->Prop)->Prop
noncomputable abbrev TGs:=List V->St->Hp->(St->Hp->Prop)->Prop
noncomputable def PG (X:Cx) (target:Expr) (t:TG):Prop :=
 ∀ (pins:List (Addr×Obj)) (s:Shared) (σ:St) (H:Hp) (v:V) (u:Value) (Q:St->Hp->Prop),Inv X pins σ H s->RelV v u->t v σ H Q ->
  wpAny (model X.prog X.w) X.A (assign target X.env u) (fun _ s'=>∃ σ' H',Inv X pins σ' H' s'/\Q σ' H') X.xe s
noncomputable def PGs (X:Cx) (ts:List Expr) (t:TGs):Prop :=
 ∀ (pins:List (Addr×Obj)) (s:Shared) (σ:St) (H:Hp) (vs:List V) (us:List Value) (Q:St->Hp->Prop),Inv X pins σ H s->Vals vs us->t vs σ H Q ->
  wpAny (model X.prog X.w) X.A (assignInOrder ((assignEach ts X.env).map (·.2)) us) (fun _ s'=>∃ σ' H',Inv X pins σ' H' s'/\Q σ' H') X.xe s
noncomputable abbrev agi:=V->V->V->Hp->(Hp->Prop)->Prop
noncomputable def ahd (X:Cx) (t:agi):Prop :=
 ∀ (pins:List (Addr×Obj)) (s:Shared) (σ:St) (H:Hp) (o i v:V) (ov iv u:Value) (Q:Hp->Prop),Inv X pins σ H s->RelV o ov->RelV i iv->RelV v u->t o i v H Q ->
  wpAny (model X.prog X.w) X.A (setItem ov iv u) (fun _ s'=>∃ H',Inv X pins σ H' s'/\Q H') X.xe s
section
variable {X:Cx} {pos:Pos}
noncomputable def qa (i:Nat):TG:=fun v σ H Q=>Q (σ.set i (some v)) H
theorem zU {i:Nat} {x:Str} (hN:X.N.Nodup) (hi:X.N[i]?=some x) (hx:Loc X.env.scope x) (hf:X.fn x=true \/ X.env.scope.names.lookup x=some .local:=by first | exact .inl rfl | exact .inr rfl | assumption):PG X (.Name x pos) (qa i):=by
 intro pins s σ H v u Q I r h
 exact wpAny_assign_Name (jL I hN hi hx r (fun s' I'=>⟨_,H,I',h⟩) hf)
noncomputable def ahe:TGs:=fun vs σ H Q=>vs=[]/\Q σ H
noncomputable def afO (t:TG) (u:TGs):TGs:=fun vs σ H Q=>∃ v r,vs=v :: r/\t v σ H fun σ' H'=>u r σ' H' Q
theorem aax:PGs X [] ahe:=by
 intro pins s σ H vs us Q I r h
 obtain⟨e,h⟩:=h
 subst e
 cases r
 exact assignInOrder_nil ⟨σ,H,I,h⟩
theorem jf {e:Expr} {es:List Expr} {t:TG} {u:TGs} (h1:PG X e t) (h2:PGs X es u)
  (hs:(assignEach (e :: es) X.env).map (·.2)=assign e X.env :: (assignEach es X.env).map (·.2):=by rfl):PGs X (e :: es) (afO t u):=by
 intro pins s σ H vs us Q I r h
 obtain⟨v,vr,e1,h⟩:=h
 subst e1
 cases r with
 | cons r rr =>
  rw [hs]
  refine assignInOrder_cons (thn (h1 pins s σ H _ _ _ I r h) fun _ s1 ⟨σ1,H1,I1,q1⟩=>?_)
  exact h2 pins s1 σ1 H1 _ _ Q I1 rr q1
noncomputable def agj (K:ahX) (n:Nat) (t:TGs):TG:=fun v σ H Q=>∃ a xs,v=.ref a/\SqT K H a xs/\xs.length=n/\t xs σ H Q
theorem agk {es:List Expr} {k:Nat} {t:TGs} {n:Nat} (hc:X.calm=true) (h:PGs X es t)
  (hn:(assignEach es X.env).length=n:=by rfl) (hst:(assignEach es X.env).findIdx? (·.1)=none:=by rfl):PG X (.Tuple es k pos) (agj X.K n t):=by
 intro pins s σ H v u Q I r hw
 obtain⟨a,xs,e1,hq,hl,hw⟩:=hw
 subst e1
 cases r
 obtain⟨its,rv,ht,hz⟩:=I.tuple hq
 refine assign_Tuple_tuple (I.ok.hd hc) ht (by simp [hn,<- hl,rv.length]) hst fun h' hx=>?_
 have I1:Inv X pins σ H { s with heap:=h' }:=I.kept (t':=s.toks) fun b o e=>hx b o (aii (ah4 e)) e
 exact h pins _ σ H xs _ Q I1 (by simpa using rv) hw
noncomputable def adx (to ti:TE) (t:agi):TG:=fun v σ H Q=>to σ H fun o H1=>ti σ H1 fun i H2=>t o i v H2 fun H3=>Q σ H3
theorem ady {o i:Expr} {to ti:TE} {t:agi} (ho:PE X o to) (hi:PE X i ti) (hs:ahd X t)
  (ha:∀ v,assign (.Subscript o i pos) X.env v=(do
   let ov <- holding [v] (eval o X.env)
   let iv <- holding [v,ov] (eval i X.env)
   standAt pos
   holding [v,ov,iv] (setItem ov iv v)
   release [v,ov,iv] []):=by intro _;rfl):PG X (.Subscript o i pos) (adx to ti t):=by
 intro pins s σ H v u Q I r h
 rw [ha]
 refine wpAny_bind (wpAny_holding (thn (ho pins s σ H _ I h) fun ov s1 ⟨x,H1,I1,r1,q1⟩=>?_))
 refine wpAny_bind (wpAny_holding (thn (hi pins s1 σ H1 _ I1 q1) fun iv s2 ⟨y,H2,I2,r2,q2⟩=>?_))
 refine wpAny_bind (wpAny_standAt (wpAny_bind (wpAny_holding (thn (hs pins s2 σ H2 x y v ov iv u _ I2 r1 r2 r q2) fun _ s3 ⟨H3,I3,q3⟩=>?_))))
 exact wpAny_release ⟨σ,H3,I3,q3⟩
noncomputable def qI (te:TE) (g:TG):TS:=fun D σ H=>te σ H fun x H1=>g x σ H1 D.nx
theorem adz {tg e:Expr} {te:TE} {g:TG} (he:PE X e te) (hg:PG X tg g) (hs:swapsWithSole [tg] e pos.line X.env=pure false:=by rfl) (hw:swappedStores [tg] e X.env=pure none:=by rfl)
  (h1:(assignEach [tg] X.env).map (·.2)=[assign tg X.env]:=by rfl):PS X (.Assign [tg] e pos) (qI te g):=by
 intro pins s σ H D I h
 refine wpAny_Assign_stores (thn (he pins s σ H _ I h) fun v s1 ⟨x,H1,I1,r1,q1⟩=>?_) hs hw
 rw [h1]
 exact thn (hg pins s1 σ H1 x v _ I1 r1 q1) fun _ s2 q=>q
theorem zv {i:Nat} {x:Str} {e:Expr} {te:TE} {pos':Pos} (hN:X.N.Nodup) (hi:X.N[i]?=some x) (hx:Loc X.env.scope x) (he:PE X e te) (hs:swapsWith e (some (.Name x pos')) pos.line X.env=pure false:=by rfl) (hf:X.fn x=true \/ X.env.scope.names.lookup x=some .local:=by first | exact .inl rfl | exact .inr rfl | assumption) :
  PS X (.Assign [.Name x pos'] e pos) (qI te (qa i)):=by
 intro pins s σ H D I h
 refine wpAny_Assign_Name (thn (he pins s σ H _ I h) fun v s1 ⟨y,H1,I1,r1,q1⟩=>?_) hs
 exact jL I1 hN hi hx r1 (fun s2 I2=>⟨_,H1,I2,q1⟩) hf
end
structure It where
 go:Nat->Hp->Prop
 yld:Nat->Hp->V->Hp->Prop
 stop:Nat->Hp->Prop
noncomputable def qg (X:Cx) (pins:List (Addr×Obj)) (H:Hp) (b:Addr):Prop :=
 H b=none/\b≠X.env.locals/\b∉X.fs/\(b∈X.ex \/ X.s₀.heap.objs.size<=b)/\(∀ x c,X.env.cells.lookup x=some c->c≠b)/\∀ p∈X.pn++pins,p.1≠b
theorem Inv.fpOk {X:Cx} {pins:List (Addr×Obj)} {σ:St} {H H':Hp} {s:Shared} {b:Addr} (I:Inv X pins σ H s) (hb:s.heap.objs.size<=b) (hn:H' b=none):qg X pins H' b:=by
 refine⟨hn,aj7 (ah8 I.lt hb),I.nofs hb,.inr (aih I.sz hb),fun x c e z=>?_,fun p hp z=>?_⟩
 ·obtain⟨v,q⟩:=I.cell x c e
  exact absurd (ah8 q.lt (by rw [z];exact hb)) (ajq _)
 ·exact absurd (ah8 (ah4 (I.pin p hp).1) (by rw [z];exact hb)) (ajq _)
structure Turn (P:Program) (w:World) (K:ahX) (tg:Expr) (J:It) (fp:List Addr) (it:Addr) (tn:Nat->Heap->Prop):Prop where
 mem:it∈fp
 obj:∀ i h,tn i h->∀ b∈fp,∃ o,h.get? b=some o/\∀ v,o.data≠.cell v
 keep:∀ i h h',tn i h->(∀ b∈fp,∀ o,h.get? b=some o->h'.get? b=some o)->tn i h'
 item:∀ (X:Cx),X.prog=P->X.w=w->X.K=K->X.calm=true->∀ (i:Nat) (pins:List (Addr×Obj)) (s:Shared) (σ:St) (H:Hp) (E:Value->Shared->Prop),Inv X pins σ H s->(∀ b∈fp,qg X pins H b)->tn i s.heap->J.go i H ->
  wpAny (model P w) X.A (pyNext (.ref it)) (fun r s1=>∃ u,r=some u /\
   wpAny (model P w) X.A (letOwnedTupleGo tg (.ref it) u) (fun _ s2=>∃ x H',Inv X pins σ H' s2/\RelV x u/\J.yld i H x H'/\tn (i+1) s2.heap/\∀ b∈fp,H' b=none) E s1) E s
 done:∀ (X:Cx),X.prog=P->X.w=w->X.K=K->X.calm=true->∀ (i:Nat) (pins:List (Addr×Obj)) (s:Shared) (σ:St) (H:Hp) (E:Value->Shared->Prop),Inv X pins σ H s->(∀ b∈fp,qg X pins H b)->tn i s.heap->J.stop i H ->
  wpAny (model P w) X.A (pyNext (.ref it)) (fun r s1=>r=none/\Inv X pins σ H s1) E s
 self:∀ (A:Around) (i:Nat) (s:Shared) (Q:Value->Shared->Prop) (E:Value->Shared->Prop),tn i s.heap->Q (.ref it) s->wpAny (model P w) A (pyIter (.ref it)) Q E s
noncomputable abbrev TI:=St->Hp->(It->Hp->Prop)->Prop
noncomputable def PIE (X:Cx) (pins:List (Addr×Obj)) (σ:St) (tg:Expr) (R:It->Hp->Prop) (itv:Value) (s2:Shared):Prop :=
 ∃ (it:Addr) (fp:List Addr) (tn:Nat->Heap->Prop) (J:It) (H':Hp),itv=.ref it/\Inv X pins σ H' s2/\Turn X.prog X.w X.K tg J fp it tn/\tn 0 s2.heap/\(∀ b∈fp,qg X pins H' b)/\R J H'
noncomputable def PI (X:Cx) (tg iter:Expr) (wi:TI):Prop :=
 ∀ (pins:List (Addr×Obj)) (s:Shared) (σ:St) (H:Hp) (R:It->Hp->Prop),Inv X pins σ H s->wi σ H R ->
  wpAny (model X.prog X.w) X.A (eval iter X.env) (fun v s1=>wpAny (model X.prog X.w) X.A (pyIter v) (PIE X pins σ tg R) X.xe s1) X.xe s
theorem aca {M:Model} {A:Around} {E:Value->Shared->Prop} {s:Shared} {tg:Expr} {it:Addr} {u:Value} {o:Obj} {n:String} {vs:Array Value} {Q:Unit->Shared->Prop} (ho:s.heap.get? it=some o) (hc:o.cls=.type n) (hd:o.data=.fields vs)
  (hn:["enumerate","zip","dict_itemiterator","dict_reverseitemiterator","odict_iterator","itertools.zip_longest","itertools.pairwise"].contains n=false) (hQ:Q () s):wpAny M A (letOwnedTupleGo tg (.ref it) u) Q E s:=by
 unfold letOwnedTupleGo
 cases tg <;> first
  | exact wpAny_pure hQ
  | (cases u <;> first
    | exact wpAny_pure hQ
    | (refine wpAny_bind (wpAny_load ho ?_)
       rw [hc,hd]
       show wpAny M A (if (["enumerate","zip","dict_itemiterator","dict_reverseitemiterator","odict_iterator","itertools.zip_longest","itertools.pairwise"].contains n && vs[0]? == some (rawInt _))=true then _ else _) Q E s
       rw [if_neg (by intro h;rw [hn,ajy] at h;cases h)]
       exact wpAny_pure hQ))
noncomputable def Itl (K:ahX) (a:Addr):It :=
 ⟨fun i H=>∃ xs x,SqL K H a xs/\xs[i]?=some x,fun i H x H'=>H'=H/\∀ xs,SqL K H a xs->xs[i]?=some x,fun i H=>∃ xs,SqL K H a xs/\xs.length<=i⟩
noncomputable def Itr (lo:Int) (n:Nat):It:=⟨fun i _=>i<n,fun i H x H'=>H'=H/\x=.int (lo+i),fun i _=>n<=i⟩
theorem acK {P:Program} {w:World} {K:ahX} {tg:Expr} (a it:Addr):Turn P w K tg (Itl K a) [it] it (fun i h=>h.IsListIter it a i) where
 mem:=by simp
 obj:=fun i h st b hb=>by
  have e:b=it:=by simpa using hb
  subst e
  obtain⟨o,e,c,d⟩:=st
  exact⟨o,e,fun v z=>by rw [d] at z;cases z⟩
 keep:=fun i h h' st k=>st.at fun o e=>k it (by simp) o e
 item:=by
  intro X hP hw hK hc i pins s σ H E I hf st hg
  subst hP hw hK
  obtain⟨xs,x,hq,hx⟩:=hg
  obtain⟨its,rv,p,hz⟩:=I.list hq
  obtain⟨u,hu,ru⟩:=rv.get hx
  obtain⟨f0,f1,f2,f3,f4,f5⟩:=hf it (by simp)
  refine wpAny_pyNext_list_item st p.isList (x:=u) (by simpa using hu) fun h' st' sb=>?_
  have I1:Inv X pins σ H { s with heap:=h' }:=I.turned (t':=s.toks) (fun b o hb e=>(sb.2 b hb).trans e) f0 f1 f3 f4 f5
  obtain⟨o,e,c,d⟩:=id st'
  exact⟨u,rfl,aca (s:={ s with heap:=h' }) e c d (by decide) ⟨x,H,I1,ru,⟨rfl,fun ys hy=>by rw [I.list_inj hy hq];exact hx⟩,st',fun b hb=>(hf b hb).1⟩⟩
 done:=by
  intro X hP hw hK hc i pins s σ H E I hf st hg
  subst hP hw hK
  obtain⟨xs,hq,hx⟩:=hg
  obtain⟨its,rv,p,hz⟩:=I.list hq
  obtain⟨f0,f1,f2,f3,f4,f5⟩:=hf it (by simp)
  have hl:=rv.length
  exact wpAny_pyNext_list_end (I.ok.hd hc) st p.isList (by simp;omega) fun h' eb=>⟨rfl,I.turned (t':=s.toks) (fun b o hb e=>eb b o hb e) f0 f1 f3 f4 f5⟩
 self:=fun _ _ _ _ _ st h=>wpAny_pyIter_listiter st h
theorem abx {P:Program} {w:World} {K:ahX} {tg:Expr} (it:Addr) (lo:Int) (n:Nat):Turn P w K tg (Itr lo n) [it] it (fun i h=>IsRangeIter h it (lo+(i:Nat) * 1) ((n:Int) - (i:Nat)) 1) where
 mem:=by simp
 obj:=fun i h st b hb=>by
  have e:b=it:=by simpa using hb
  subst e
  exact⟨_,st,fun v z=>by
   have z':Data.fields _=Data.cell v:=z
   cases z'⟩
 keep:=fun i h h' st k=>k it (by simp) _ st
 item:=by
  intro X hP hw hK hc i pins s σ H E I hf st hg
  subst hP hw hK
  obtain⟨f0,f1,f2,f3,f4,f5⟩:=hf it (by simp)
  have W:=Walks.range (prog:=X.prog) (w:=X.w) (I.ok.hd hc) it lo 1 n
  refine W.item i s _ _ hg st fun v h' tk hv st' kk=>?_
  obtain⟨t,rfl⟩:=hv
  have I1:Inv X pins σ H { s with heap:=h',toks:=tk }:=I.turned (fun b o hb e=>kk b o (by simpa using hb) e) f0 f1 f3 f4 f5
  refine⟨_,rfl,aca (s:={ s with heap:=h',toks:=tk }) (n:="range_iterator") st' rfl rfl (by decide) ⟨.int (lo+i),H,I1,⟨t,?_⟩,⟨rfl,rfl⟩,st',fun b hb=>(hf b hb).1⟩⟩
  rw [Int.mul_one]
 done:=by
  intro X hP hw hK hc i pins s σ H E I hf st hg
  subst hP hw hK
  obtain⟨f0,f1,f2,f3,f4,f5⟩:=hf it (by simp)
  exact wpAny_pyNext_range_end (I.ok.hd hc) st (by have:n<=i:=hg;omega) fun h' eb=>⟨rfl,I.turned (t':=s.toks) (fun b o hb e=>eb b o hb e) f0 f1 f3 f4 f5⟩
 self:=fun _ _ _ _ _ st h=>wpAny_pyIter_rangeiter st h
section
variable {X:Cx} {tg:Expr}
noncomputable def adA (K:ahX) (tl:TE):TI:=fun σ H R=>tl σ H fun x H1=>∃ a,x=.ref a/\(∃ xs,SqL K H1 a xs)/\R (Itl K a) H1
theorem aeS {l:Expr} {tl:TE} (hl:PE X l tl):PI X tg l (adA X.K tl):=by
 intro pins s σ H R I h
 refine thn (hl pins s σ H _ I h) fun v s1 ⟨x,H1,I1,r1,q1⟩=>?_
 obtain⟨a,e,⟨xs,hq⟩,q⟩:=q1
 subst e
 cases r1
 obtain⟨its,rv,p,hz⟩:=I1.list hq
 refine wpAny_pyIter_list p.isList ?_
 refine⟨s1.heap.objs.size,[s1.heap.objs.size],_,_,H1,rfl,I1.kept (t':=s1.toks) fun b o e=>ah0 _ e,acK a _,⟨_,aik _ rfl,rfl,rfl⟩,fun b hb=>?_,q⟩
 have e:b=s1.heap.objs.size:=by simpa using hb
 subst e
 exact I1.fpOk (aie _) (I1.hok.fresh (aie _))
theorem adB {pins:List (Addr×Obj)} {σ:St} {H:Hp} {s:Shared} {R:It->Hp->Prop} {E:Value->Shared->Prop} {lo hi:Int} {t u v:Tok} {tk:Nat} (I:Inv X pins σ H s) (h1:-(2 ^ 62)<=lo) (h2:lo<2 ^ 62) (h3:-(2 ^ 62)<=hi) (h4:hi<2 ^ 62)
  (q:R (Itr lo (hi - lo).toNat) H):wpAny (model X.prog X.w) X.A (pyIter (.ref s.heap.objs.size)) (PIE X pins σ tg R) E { s with heap:=s.heap.push { cls:=.type "range",data:=.fields #[.int lo t,.int hi u,.int 1 v] },toks:=tk }:=by
 refine wpAny_pyIter_range (IsRange.new ..) (small_one h1 h2 h3 h4) ?_
 have I1:Inv X pins σ H { s with heap:=s.heap.push { cls:=.type "range",data:=.fields #[.int lo t,.int hi u,.int 1 v] },toks:=tk }:=I.kept fun b o e=>ah0 _ e
 refine⟨(s.heap.push { cls:=.type "range",data:=.fields #[.int lo t,.int hi u,.int 1 v] }).objs.size,[(s.heap.push { cls:=.type "range",data:=.fields #[.int lo t,.int hi u,.int 1 v] }).objs.size],_,_,H,rfl,
  I1.kept (t':=tk) fun b o e=>ah0 _ e,abx _ lo (hi - lo).toNat,?_,fun b hb=>?_,q⟩
 ·have e1:lo+((0:Nat):Int) * 1=lo:=by simp
  have e2:(((hi - lo).toNat:Nat):Int) - ((0:Nat):Int)=Builtin.Range.rangeSize lo hi 1:=by rw [rangeSize_one];split <;> omega
  show IsRangeIter _ _ (lo+((0:Nat):Int) * 1) ((((hi - lo).toNat:Nat):Int) - ((0:Nat):Int)) 1
  rw [e1,e2]
  exact aik _ rfl
 ·have e:b=(s.heap.push { cls:=.type "range",data:=.fields #[.int lo t,.int hi u,.int 1 v] }).objs.size:=by simpa using hb
  subst e
  exact I1.fpOk (aie _) (I1.hok.fresh (aie _))
noncomputable def afP (ta:TA):TI:=fun σ H R=>ta σ H fun vs H1=>∃ j:Int,vs=[.int j]/\-(2 ^ 62)<=j/\j<2 ^ 62/\R (Itr 0 j.toNat) H1
theorem jg {a:Expr} {ta:TA} {p pos:Pos} (hg:Gl X "range") (hm:X.mg "range"=none) (ha:PA X [a] ta) (hs:starEach [a] X.env=[(false,eval a X.env)]:=by rfl):PI X tg (.Call (.Name "range" p) [a] [] pos) (afP ta):=by
 intro pins s σ H R I h
 refine Call_ (vn I hg hm boot_range (ajt (thn (ha pos pins s σ H _ I h) fun us s1 ⟨vs,H1,I1,r1,q1⟩=>?_) hs rfl))
 obtain⟨j,e,q1,q2,q⟩:=q1
 subst e
 cases r1 with
 | cons r rr =>
  cases rr
  obtain⟨t,rfl⟩:=r
  exact call_range_1 (adB I1 (by omega) (by omega) q1 q2 (by simpa using q))
noncomputable def adC (wi:TI) (g:TG) (tb:TS):TS:=fun D σ H=>wi σ H fun J H1=>∃ W:Nat->Nat->St->Hp->Prop,(∃ m,W 0 m σ H1)/\∀ i m σ H,W i m σ H ->
 (J.stop i H/\D.nx σ H) \/ (J.go i H/\∃ N:St->Hp->Prop,(∀ σ' H',N σ' H'->∃ m',m'<m/\W (i+1) m' σ' H')/\∀ x H',J.yld i H x H'->g x σ H' fun σ2 H2=>tb { D with nx:=N,ct:=N,bk:=D.nx } σ2 H2)
noncomputable def vp (fp:List Addr) (h:Heap):List (Addr×Obj):=fp.filterMap fun b=>(h.get? b).map fun o=>(b,o)
theorem jq {fp:List Addr} {h:Heap} {b:Addr} {o:Obj} (hb:b∈fp) (e:h.get? b=some o):(b,o)∈vp fp h:=ajK.mpr ⟨b,hb,by rw [e];rfl⟩
theorem acL {fp:List Addr} {h:Heap} {p:Addr×Obj} (hp:p∈vp fp h):p.1∈fp/\h.get? p.1=some p.2:=by
 obtain⟨b,hb,e⟩:=ajK.mp hp
 cases q:h.get? b with
 | none=>rw [q] at e;cases e
 | some o =>
  rw [q] at e
  have e':(b,o)=p:=Option.some.inj e
  subst e'
  exact⟨hb,q⟩
theorem Inv.pinned {pins:List (Addr×Obj)} {σ:St} {H:Hp} {s:Shared} {fp:List Addr} (I:Inv X pins σ H s) (hf:∀ b∈fp,qg X pins H b) (ho:∀ b∈fp,∃ o,s.heap.get? b=some o/\∀ v,o.data≠.cell v):Inv X (pins++vp fp s.heap) σ H s :=
 I.pins_of fun p hp=>(ail.mp hp).elim (fun z=>I.pin p (aia _ z)) fun z=>by
  obtain⟨hb,e⟩:=acL z
  obtain⟨f0,f1,f2,_⟩:=hf p.1 hb
  obtain⟨o,e',d⟩:=ho p.1 hb
  rw [e] at e';cases e'
  exact⟨e,f0,f1,f2,d⟩
theorem Inv.unpinned {pins pl:List (Addr×Obj)} {σ:St} {H:Hp} {s:Shared} (I:Inv X (pins++pl) σ H s):Inv X pins σ H s:=I.pins_of fun p hp=>I.pin p (aia _ (ai8 _ hp))
theorem jr {iter:Expr} {body:List Stmt} {wi:TI} {g:TG} {tb:TS} {pos:Pos} (hp:PassesOwn (model X.prog X.w) X.A X.env X.xe) (hc:X.calm=true) (hi:PI X tg iter wi) (hg:PG X tg g) (hb:PSs X body tb)
  (hs:∀ x,foldedSetIterable iter X.env x=pure x:=by intro _;rfl):PS X (.For tg iter body [] pos) (adC wi g tb):=by
 intro pins s σ H D I h
 refine wpAny_For (thn (hi pins s σ H _ I h) fun v s1 h1=>thn h1 fun itv s2 h2=>?_) hs
 obtain⟨it,fp,tn,J,H2,e,I2,T,st2,f2,W,⟨m0,w0⟩,turn⟩:=h2
 subst e
 -- what stays true of the iterator's objects through the loop
 have stat:∀ {H':Hp},(∀ b∈fp,H' b=none)->∀ b∈fp,qg X pins H' b:=fun hn b hb=>⟨hn b hb,(f2 b hb).2⟩
 refine codeAny_forLoop_any (fun n s'=>∃ i σ' H',Inv X pins σ' H' s'/\tn i s'.heap/\(∀ b∈fp,H' b=none)/\W i n σ' H') ?_ m0 ⟨0,σ,H2,I2,st2,fun b hb=>(f2 b hb).1,w0⟩
 rintro n s3 ⟨i,σ3,H3,I3,st3,fr3,w3⟩
 rcases turn i n σ3 H3 w3 with⟨stop,qn⟩ | ⟨go,N,hN,step⟩
 ·refine wpAny_passesOwn hp (thn (T.done X rfl rfl rfl hc i pins s3 σ3 H3 X.xe I3 (stat fr3) st3 stop) fun r s4 ⟨hr,I4⟩=>?_)
  subst hr
  exact wpAny_execs_nil ⟨σ3,H3,I4,qn⟩
 ·refine wpAny_passesOwn hp (thn (T.item X rfl rfl rfl hc i pins s3 σ3 H3 X.xe I3 (stat fr3) st3 go) fun r s4 ⟨u,hr,h4⟩=>?_)
  subst hr
  refine wpAny_passesOwn hp (thn h4 fun _ s5 ⟨x,H5,I5,r5,y5,st5,fr5⟩=>?_)
  have I5':=I5.pinned (stat fr5) (T.obj _ _ st5)
  refine wpAny_passesOwn hp (thn (hg _ s5 σ3 H5 x u _ I5' r5 (step x H5 y5)) fun _ s6 ⟨σ6,H6,I6,q6⟩=>?_)
  refine wpAny_passesOwn hp (thn (hb _ s6 σ6 H6 _ I6 q6) fun f s7 q7=>?_)
  have again:∀ {σ7:St} {H7:Hp},Inv X (pins++vp fp s5.heap) σ7 H7 s7->N σ7 H7->∃ m,m<n/\∃ i σ' H',Inv X pins σ' H' s7/\tn i s7.heap/\(∀ b∈fp,H' b=none)/\W i m σ' H':=fun {σ7 H7} I7 n7=>by
   obtain⟨m',hm,w7⟩:=hN σ7 H7 n7
   refine⟨m',hm,i+1,σ7,H7,I7.unpinned,T.keep _ _ _ st5 fun b hb o e=>(I7.pin (b,o) (aia _ (aia _ (jq hb e)))).1,fun b hb=>?_,w7⟩
   obtain⟨o,e,d⟩:=T.obj _ _ st5 b hb
   exact (I7.pin (b,o) (aia _ (aia _ (jq hb e)))).2.1
  cases f with
  | next=>obtain⟨σ7,H7,I7,n7⟩:=q7;exact again I7 n7
  | cont=>obtain⟨σ7,H7,I7,n7⟩:=q7;exact again I7 n7
  | brk=>obtain⟨σ7,H7,I7,q7⟩:=q7;exact⟨σ7,H7,I7.unpinned,q7⟩
  | ret v=>obtain⟨x7,σ7,H7,I7,r7,q7⟩:=q7;exact⟨x7,σ7,H7,I7.unpinned,r7,q7⟩
end
noncomputable abbrev R2:=V->V->Hp->VK->Prop
noncomputable def OpR (X:Cx) (f:Value->Value->Sem Value) (r:R2):Prop :=
 ∀ (pins:List (Addr×Obj)) (s:Shared) (σ:St) (H:Hp) (x y:V) (v u:Value) (Q:VK),Inv X pins σ H s->RelV x v->RelV y u->r x y H Q ->
  wpAny (model X.prog X.w) X.A (f v u) (EP X pins σ Q) X.xe s
noncomputable def UnR (X:Cx) (f:Value->Sem Value) (r:V->Hp->VK->Prop):Prop :=
 ∀ (pins:List (Addr×Obj)) (s:Shared) (σ:St) (H:Hp) (x:V) (v:Value) (Q:VK),Inv X pins σ H s->RelV x v->r x H Q ->
  wpAny (model X.prog X.w) X.A (f v) (EP X pins σ Q) X.xe s
noncomputable def yn (X:Cx) (f:Value) (r:List V->Hp->VK->Prop):Prop :=
 ∀ (pins:List (Addr×Obj)) (s:Shared) (σ:St) (H:Hp) (xs:List V) (us:List Value) (Q:VK),Inv X pins σ H s->Vals xs us->r xs H Q ->
  wpAny (model X.prog X.w) X.A (call f us) (EP X pins σ Q) X.xe s
noncomputable def ahL (X:Cx) (r:V->Hp->(Bool->Hp->Prop)->Prop):Prop :=
 ∀ (pins:List (Addr×Obj)) (s:Shared) (σ:St) (H:Hp) (x:V) (v:Value) (Q:Bool->Hp->Prop),Inv X pins σ H s->RelV x v->r x H Q ->
  wpAny (model X.prog X.w) X.A (truthy v) (TP X pins σ Q) X.xe s
noncomputable def tOp (r:R2) (ta tb:TE):TE:=fun σ H Q=>ta σ H fun x H1=>tb σ H1 fun y H2=>r x y H2 Q
noncomputable def tUn (r:V->Hp->VK->Prop) (ta:TE):TE:=fun σ H Q=>ta σ H fun x H1=>r x H1 Q
noncomputable def rI (C:Int->Int->Prop) (g:Int->Int->V):R2:=fun x y H Q=>∃ i j,x=.int i/\y=.int j/\C i j/\Q (g i j) H
noncomputable def rI0 (g:Int->Int->V):R2:=fun x y H Q=>∃ i j,x=.int i/\y=.int j/\Q (g i j) H
noncomputable def rU (g:Int->V):V->Hp->VK->Prop:=fun x H Q=>∃ i,x=.int i/\Q (g i) H
section
variable {X:Cx} {a b c:Expr} {ta tb tc:TE} {pos:Pos}
theorem agl (ha:PE X a ta) (hb:PE X b tb) {pins:List (Addr×Obj)} {s:Shared} {σ:St} {H:Hp} {R:V->V->Hp->Prop} (I:Inv X pins σ H s)
  (h:ta σ H fun x H1=>tb σ H1 fun y H2=>R x y H2) {Q:Value->Shared->Prop} {f:Value->Value->Sem Value}
  (hf:∀ v u s2 x y H2,Inv X pins σ H2 s2->RelV x v->RelV y u->R x y H2->wpAny (model X.prog X.w) X.A (f v u) Q X.xe s2) :
  wpAny (model X.prog X.w) X.A (eval a X.env) (fun v s₁=>wpAny (model X.prog X.w) X.A (eval b X.env) (fun u s₂=>wpAny (model X.prog X.w) X.A (f v u) Q X.xe s₂) X.xe s₁) X.xe s:=by
 refine thn (ha pins s σ H _ I h) fun v s1 ⟨x,H1,I1,r1,q1⟩=>?_
 refine thn (hb pins s1 σ H1 _ I1 q1) fun u s2 ⟨y,H2,I2,r2,q2⟩=>?_
 exact hf v u s2 x y H2 I2 r1 r2 q2
theorem zt {op:Operator} {r:R2} (ho:OpR X (binaryOp op) r) (ha:PE X a ta) (hb:PE X b tb):PE X (.BinOp a op b pos) (tOp r ta tb):=by
 intro pins s σ H Q I h
 exact wpAny_BinOp (agl ha hb I h fun v u s2 x y H2 I2 rx ry q=>ho pins s2 σ H2 x y v u Q I2 rx ry q)
theorem afQ {op:UnaryOp} {r:V->Hp->VK->Prop} (ho:UnR X (unaryOp op) r) (ha:PE X a ta):PE X (.UnaryOp op a pos) (tUn r ta):=by
 intro pins s σ H Q I h
 exact UnaryOp_ (thn (ha pins s σ H _ I h) fun v s1 ⟨x,H1,I1,r1,q1⟩=>ho pins s1 σ H1 x v Q I1 r1 q1)
theorem opI {f:Value->Value->Sem Value} {C:Int->Int->Prop} {g:Int->Int->Int}
  (rule:∀ (i j:Int) (t u:Tok) (s:Shared) (Q:Value->Shared->Prop) (E:Value->Shared->Prop),C i j->Q (.int (g i j) s.toks) { s with toks:=s.toks+1 }->wpAny (model X.prog X.w) X.A (f (.int i t) (.int j u)) Q E s) :
  OpR X f (rI C fun i j=>.int (g i j)):=by
 intro pins s σ H x y v u Q I rx ry h
 obtain⟨i,j,rfl,rfl,hc,q⟩:=h
 obtain⟨t,rfl⟩:=rx
 obtain⟨t',rfl⟩:=ry
 exact rule i j t t' s _ _ hc ⟨.int (g i j),H,I.tok _,⟨_,rfl⟩,q⟩
theorem ahf {f:Value->Value->Sem Value} {g:Int->Int->Int}
  (rule:∀ (i j:Int) (t u:Tok) (s:Shared) (Q:Value->Shared->Prop) (E:Value->Shared->Prop),Q (.int (g i j) s.toks) { s with toks:=s.toks+1 }->wpAny (model X.prog X.w) X.A (f (.int i t) (.int j u)) Q E s) :
  OpR X f (rI0 fun i j=>.int (g i j)):=by
 intro pins s σ H x y v u Q I rx ry h
 obtain⟨i,j,rfl,rfl,q⟩:=h
 obtain⟨t,rfl⟩:=rx
 obtain⟨t',rfl⟩:=ry
 exact rule i j t t' s _ _ ⟨.int (g i j),H,I.tok _,⟨_,rfl⟩,q⟩
theorem aeT {f:Value->Value->Sem Value} {g:Int->Int->Bool}
  (rule:∀ (i j:Int) (t u:Tok) (s:Shared) (Q:Value->Shared->Prop) (E:Value->Shared->Prop),Q (.bool (g i j)) s->wpAny (model X.prog X.w) X.A (f (.int i t) (.int j u)) Q E s) :
  OpR X f (rI0 fun i j=>.bl (g i j)):=by
 intro pins s σ H x y v u Q I rx ry h
 obtain⟨i,j,rfl,rfl,q⟩:=h
 obtain⟨t,rfl⟩:=rx
 obtain⟨t',rfl⟩:=ry
 exact rule i j t t' s _ _ ⟨.bl (g i j),H,I,rfl,q⟩
noncomputable def ahM (i j:Int):Prop:=0<=j/\j<=1000000/\i.natAbs<2 ^ 64
noncomputable def CMul (i j:Int):Prop:=(-(2 ^ 64)<i/\i<2 ^ 64) \/ (-(2 ^ 64)<j/\j<2 ^ 64)
theorem CMul.ok {i j:Int} (h:CMul i j):IntMulOk i j:=by
 rcases h with⟨h1,h2⟩ | ⟨h1,h2⟩
 ·exact .of_left (intBits_le_64 h1 h2)
 ·exact .of_right (intBits_le_64 h1 h2)
theorem yl:OpR X (binaryOp .Add) (rI0 fun i j=>.int (i+j)):=ahf fun _ _ _ _ _ _ _ q=>add_int q
theorem vq:OpR X (binaryOp .Sub) (rI0 fun i j=>.int (i - j)):=ahf fun _ _ _ _ _ _ _ q=>sub_int q
theorem vt:OpR X (binaryOp .Mult) (rI CMul fun i j=>.int (i * j)):=opI fun _ _ _ _ _ _ _ hc q=>mul_int q hc.ok
theorem qJ:OpR X (binaryOp .Mod) (rI (fun _ j=>0<j) fun i j=>.int (i % j)):=opI fun i j _ _ _ _ _ hc q=>by
 have h1:(0:Int)<j:=hc
 exact mod_int' (by omega) (by rw [Int.fmod_eq_emod_of_nonneg i (by omega)];exact q)
theorem vv:OpR X (binaryOp .Pow) (rI ahM fun i j=>.int (i ^ j.toNat)):=opI fun _ _ _ _ _ _ _ hc q=>pow_int_small hc.1 hc.2.1 hc.2.2 q
theorem unI {f:Value->Sem Value} {g:Int->Int}
  (rule:∀ (i:Int) (t:Tok) (s:Shared) (Q:Value->Shared->Prop) (E:Value->Shared->Prop),Q (.int (g i) s.toks) { s with toks:=s.toks+1 }->wpAny (model X.prog X.w) X.A (f (.int i t)) Q E s) :
  UnR X f (rU fun i=>.int (g i)):=by
 intro pins s σ H x v Q I rx h
 obtain⟨i,rfl,q⟩:=h
 obtain⟨t,rfl⟩:=rx
 exact rule i t s _ _ ⟨.int (g i),H,I.tok _,⟨_,rfl⟩,q⟩
theorem adD:UnR X (unaryOp .USub) (rU fun i=>.int (-i)):=unI fun _ _ _ _ _ q=>neg_int q
end
section
variable {X:Cx} {a b c:Expr} {ta tb tc:TE} {pos:Pos}
theorem adE {pins:List (Addr×Obj)} {σ:St} {H:Hp} {s:Shared} {Q:VK} {k k':Bool} (I:Inv X pins σ H s) (q:Q (.bl k) H) (e:k=k'):EP X pins σ Q (.bool k') s:=by
 subst e
 exact⟨.bl k,H,I,rfl,q⟩
theorem adF:OpR X (compareOp .Lt) (rI0 fun i j=>.bl (decide (i<j))):=aeT fun _ _ _ _ _ _ _ q=>lt_int q
theorem qS:OpR X (compareOp .LtE) (rI0 fun i j=>.bl (decide (i<=j))):=aeT fun _ _ _ _ _ _ _ q=>le_int q
theorem aaa:OpR X (compareOp .Gt) (rI0 fun i j=>.bl (decide (j<i))):=aeT fun _ _ _ _ _ _ _ q=>gt_int q
theorem ahg:OpR X (compareOp .GtE) (rI0 fun i j=>.bl (decide (j<=i))):=aeT fun _ _ _ _ _ _ _ q=>ge_int q
theorem acM:OpR X (compareOp .In) (fun x y H Q=>∃ i j,x=.str i/\y=.str j/\Q (.bl (!(ain j i 0 j.length 1).isEmpty)) H):=by
 intro pins s σ H x y v u Q I rx ry h
 obtain⟨i,j,rfl,rfl,q⟩:=h
 obtain⟨t,rfl⟩:=rx
 obtain⟨t',rfl⟩:=ry
 exact in_str (adE I q rfl)
theorem aay:OpR X (compareOp .NotIn) (fun x y H Q=>∃ i j,x=.str i/\y=.str j/\Q (.bl (!(!(ain j i 0 j.length 1).isEmpty))) H):=by
 intro pins s σ H x y v u Q I rx ry h
 obtain⟨i,j,rfl,rfl,q⟩:=h
 obtain⟨t,rfl⟩:=rx
 obtain⟨t',rfl⟩:=ry
 exact notIn_str (adE I q rfl)
theorem zC (b:Expr) {op:CmpOp} (h:op≠.In:=by decide) (h2:op≠.NotIn:=by decide):behindInMarks op b=false:=by
 have e1:(op == CmpOp.In)=false:=by cases op <;> first | rfl | exact absurd rfl h
 have e2:(op == CmpOp.NotIn)=false:=by cases op <;> first | rfl | exact absurd rfl h2
 cases b <;> simp [behindInMarks,e1,e2]
theorem yv {op:CmpOp} {r:R2} (ho:OpR X (compareOp op) r) (ha:PE X a ta) (hb:PE X b tb) (hm:behindInMarks op b=false):PE X (.Compare a [op] [b] pos) (tOp r ta tb):=by
 intro pins s σ H Q I h
 exact wpAny_Compare1 (agl ha hb I h fun v u s2 x y H2 I2 rx ry q=>ho pins s2 σ H2 x y v u Q I2 rx ry q) hm
noncomputable def adG (t:TE):TT:=fun σ H Q=>t σ H fun x H'=>∃ k,x=.bl k/\Q k H'
theorem zE {op:CmpOp} {r:R2} (ho:OpR X (compareOp op) r) (ha:PE X a ta) (hb:PE X b tb) (hm:behindInMarks op b=false):PT X (.Compare a [op] [b] pos) (adG (tOp r ta tb)):=by
 intro pins s σ H Q I h
 refine wpAny_isTrue_Compare1 (thn (ha pins s σ H _ I h) fun v s1 ⟨x,H1,I1,r1,q1⟩=>thn (hb pins s1 σ H1 _ I1 q1) fun u s2 ⟨y,H2,I2,r2,q2⟩ =>
  thn (ho pins s2 σ H2 x y v u _ I2 r1 r2 q2) fun c s3 ⟨z,H3,I3,r3,k,e,q3⟩=>?_) hm
 subst e
 cases r3
 exact wpAny_truthy_bool ⟨H3,I3,q3⟩
noncomputable def aby (r r':R2) (ta tb tc:TE):TE:=fun σ H Q=>ta σ H fun x H1=>tb σ H1 fun y H2=>r x y H2 fun z H3=>∃ k,z=.bl k /\
 (if k=true then tc σ H3 fun w' H4=>r' y w' H4 Q else Q (.bl false) H3)
theorem adH {op op':CmpOp} {r r':R2} (ho:OpR X (compareOp op) r) (ho':OpR X (compareOp op') r') (ha:PE X a ta) (hb:PE X b tb) (hc:PE X c tc)
  (hm:lastMarks [op,op'] [b,c]=false:=by with_unfolding_all rfl):PE X (.Compare a [op,op'] [b,c] pos) (aby r r' ta tb tc):=by
 intro pins s σ H Q I h
 refine Compare_chain (thn (ha pins s σ H _ I h) fun v s1 ⟨x,H1,I1,r1,q1⟩=>chain_link (thn (hb pins s1 σ H1 _ I1 q1) fun u s2 ⟨y,H2,I2,r2,q2⟩ =>
  thn (ho pins s2 σ H2 x y v u _ I2 r1 r2 q2) fun d s3 ⟨z,H3,I3,r3,k,e,q3⟩=>?_)) hm
 subst e
 cases r3
 refine wpAny_truthy_bool ?_
 cases k with
 | false=>exact ite_ff ⟨.bl false,H3,I3,rfl,q3⟩
 | true=>exact ite_tt (chain_last (thn (hc pins s3 σ H3 _ I3 q3) fun w' s4 ⟨z',H4,I4,r4,q4⟩=>ho' pins s4 σ H4 y z' u w' Q I4 r2 r4 q4))
theorem aaW {op op':CmpOp} {r r':R2} (ho:OpR X (compareOp op) r) (ho':OpR X (compareOp op') r') (ha:PE X a ta) (hb:PE X b tb) (hc:PE X c tc)
  (hm:lastMarks [op,op'] [b,c]=false:=by with_unfolding_all rfl):PT X (.Compare a [op,op'] [b,c] pos) (adG (aby r r' ta tb tc)):=by
 intro pins s σ H Q I h
 refine isTrue_chain (thn (ha pins s σ H _ I h) fun v s1 ⟨x,H1,I1,r1,q1⟩=>test_link (thn (hb pins s1 σ H1 _ I1 q1) fun u s2 ⟨y,H2,I2,r2,q2⟩ =>
  thn (ho pins s2 σ H2 x y v u _ I2 r1 r2 q2) fun d s3 ⟨z,H3,I3,r3,k,e,q3⟩=>?_)) hm
 subst e
 cases r3
 refine wpAny_truthy_bool ?_
 cases k with
 | false =>
  obtain⟨k',e',q'⟩:=q3
  cases e'
  exact ite_ff ⟨H3,I3,q'⟩
 | true =>
  refine ite_tt (test_last (thn (hc pins s3 σ H3 _ I3 q3) fun w' s4 ⟨z',H4,I4,r4,q4⟩=>thn (ho' pins s4 σ H4 y z' u w' _ I4 r2 r4 q4) fun d' s5 ⟨z2,H5,I5,r5,k2,e2,q5⟩=>?_))
  subst e2
  cases r5
  exact wpAny_truthy_bool ⟨H5,I5,q5⟩
noncomputable def agm (K:ahX) (x:V) (H:Hp) (k:Bool):Prop :=
 match x with
 | .non=>k=false
 | .bl b=>k=b
 | .int i=>k=(i != 0)
 | .str y=>y.length<=sizeLine/\k=((y.length:Int) != 0)
 | .byt y=>y.size<=sizeLine/\k=((y.size:Int) != 0)
 | .ref p=>(∃ xs,SqL K H p xs/\k=!xs.isEmpty) \/ (∃ xs,SqT K H p xs/\k=!xs.isEmpty) \/ ∃ kvs,H p=some (.dK kvs)/\k=!kvs.isEmpty
 | _=>False
theorem abz {κ:Type} {kvs:List (κ×V)} {vs:List (κ×Value)} (r:KV kvs vs):(!vs.isEmpty)=!kvs.isEmpty:=by
 cases r <;> rfl
theorem vw {xs:List V} {its:List Value} (r:Vals xs its):(!its.toArray.isEmpty)=!xs.isEmpty:=by
 cases r <;> simp
theorem qh:(sizeLine:Nat)<2 ^ 63:=by rw [sizeLine_eq];decide
theorem agn:ahL X (fun x H Q=>∃ k,agm X.K x H k/\Q k H):=by
 intro pins s σ H x v Q I rx h
 obtain⟨k,e,q⟩:=h
 have hl:=qh
 have hs:sizeLine=16777216:=sizeLine_eq
 cases x with
 | non =>
  cases rx
  have e':k=false:=e
  subst e'
  exact truthy_none ⟨H,I,q⟩
 | bl b =>
  cases rx
  have e':k=b:=e
  subst e'
  exact wpAny_truthy_bool ⟨H,I,q⟩
 | int i =>
  obtain⟨t,rfl⟩:=rx
  have e':k=(i != 0):=e
  subst e'
  exact PySem.P.truthy_int ⟨H,I,q⟩
 | str y =>
  obtain⟨t,rfl⟩:=rx
  obtain⟨hy,e'⟩:y.length<=sizeLine/\k=((y.length:Int) != 0):=e
  subst e'
  exact PySem.P.truthy_str (by omega) ⟨H,I.tok _,q⟩
 | byt y =>
  obtain⟨t,rfl⟩:=rx
  obtain⟨hy,e'⟩:y.size<=sizeLine/\k=((y.size:Int) != 0):=e
  subst e'
  exact PySem.W.truthy_bytes (by omega) ⟨H,I.tok _,q⟩
 | ref p =>
  cases rx
  have e':(∃ xs,SqL X.K H p xs/\k=!xs.isEmpty) \/ (∃ xs,SqT X.K H p xs/\k=!xs.isEmpty) \/ ∃ kvs,H p=some (.dK kvs)/\k=!kvs.isEmpty:=e
  rcases e' with⟨xs,hx,e'⟩ | ⟨xs,hx,e'⟩ | ⟨kvs,hx,e'⟩
  ·subst e'
   obtain⟨its,r,pl,hz⟩:=I.list hx
   have hlen:=r.length
   exact wpAny_truthy_list pl.isList (by simp only [aid];omega) ⟨H,I.tok _,by rw [vw r];exact q⟩
  ·subst e'
   obtain⟨its,r,pl,hz⟩:=I.tuple hx
   have hlen:=r.length
   exact truthy_tuple pl (by simp only [aid];omega) ⟨H,I.tok _,by rw [vw r];exact q⟩
  ·subst e'
   obtain⟨hz,hS,vs,r,m⟩:kvs.length<=sizeLine/\(p == sysModules)=false/\∃ vs,KV kvs vs/\s.heap.DictOf (aat X.prog X.w) p vs:=I.hok p _ hx
   have hlen:kvs.length=vs.length:=Paired.length r
   exact wpAny_truthy_dict hS m (by omega) ⟨H,I.tok _,by rw [abz r];exact q⟩
 | _=>exact (show False from e).elim
theorem adI (ha:PE X a ta) (he:∀ whole,isTrue a X.env whole=(do let v <- whole;standAt a.pos;holding [v] (truthy v))) :
  PT X a (fun σ H Q=>ta σ H fun x H'=>∃ k,agm X.K x H' k/\Q k H'):=by
 intro pins s σ H Q I h
 exact isTrue_plain (thn (ha pins s σ H _ I h) fun v s1 ⟨x,H1,I1,r1,q1⟩=>agn pins s1 σ H1 x v Q I1 r1 q1) (he _)
theorem zF:OpR X (binaryOp .Add) (fun x y H Q=>∃ i j,x=.str i/\y=.str j/\i.length+j.length<=sizeLine/\Q (.str (i++j)) H):=by
 intro pins s σ H x y v u Q I rx ry h
 obtain⟨i,j,rfl,rfl,hz,q⟩:=h
 obtain⟨t,rfl⟩:=rx
 obtain⟨t',rfl⟩:=ry
 exact add_str (fun t' tk=>⟨.str (i++j),H,I.tok _,⟨_,rfl⟩,q⟩) hz
theorem vals1 {x:V} {us:List Value} (r:Vals [x] us):∃ u,us=[u]/\RelV x u:=by
 cases r with
 | cons r1 r2=>cases r2;exact⟨_,rfl,r1⟩
theorem vals2 {x y:V} {us:List Value} (r:Vals [x,y] us):∃ u w',us=[u,w']/\RelV x u/\RelV y w':=by
 cases r with
 | cons r1 r2 =>
  cases r2 with
  | cons r3 r4=>cases r4;exact⟨_,_,rfl,r1,r3⟩
theorem adJ:yn X (.builtin "abs") (fun xs H Q=>∃ i,xs=[.int i]/\Q (.int (if i<0 then -i else i)) H):=by
 intro pins s σ H xs us Q I r h
 obtain⟨i,rfl,q⟩:=h
 obtain⟨u,rfl,t,rfl⟩:=vals1 r
 exact call_abs_int fun u tk=>⟨.int (if i<0 then -i else i),H,I.tok _,⟨_,rfl⟩,q⟩
theorem acN (hc:X.calm=true):yn X (.builtin "max") (fun xs H Q=>∃ i j,xs=[.int i,.int j]/\Q (.int (if j > i then j else i)) H):=by
 intro pins s σ H xs us Q I r h
 obtain⟨i,j,rfl,q⟩:=h
 obtain⟨u,w',rfl,⟨t,rfl⟩,⟨t',rfl⟩⟩:=vals2 r
 refine max_two_ints (I.ok.hd hc) fun h' tk k=>⟨_,H,I.kept k,?_,q⟩
 by_cases hj:j > i
 ·rw [if_pos hj,if_pos hj];exact⟨_,rfl⟩
 ·rw [if_neg hj,if_neg hj];exact⟨_,rfl⟩
theorem acO (hc:X.calm=true):yn X (.builtin "min") (fun xs H Q=>∃ i j,xs=[.int i,.int j]/\Q (.int (if j<i then j else i)) H):=by
 intro pins s σ H xs us Q I r h
 obtain⟨i,j,rfl,q⟩:=h
 obtain⟨u,w',rfl,⟨t,rfl⟩,⟨t',rfl⟩⟩:=vals2 r
 refine min_two_ints (I.ok.hd hc) fun h' tk k=>⟨_,H,I.kept k,?_,q⟩
 by_cases hj:j<i
 ·rw [if_pos hj,if_pos hj];exact⟨_,rfl⟩
 ·rw [if_neg hj,if_neg hj];exact⟨_,rfl⟩
theorem j4:yn X (.type "int") (fun xs H Q=>(∃ i,xs=[.int i]/\Q (.int i) H) \/ ∃ k,xs=[.bl k]/\Q (.int (if k then 1 else 0)) H):=by
 intro pins s σ H xs us Q I r h
 rcases h with⟨i,rfl,q⟩ | ⟨k,rfl,q⟩
 ·obtain⟨u,rfl,t,rfl⟩:=vals1 r
  exact call_int_int ⟨.int i,H,I,⟨_,rfl⟩,q⟩
 ·obtain⟨u,rfl,r1⟩:=vals1 r
  cases r1
  exact call_int_bool ⟨.int (if k then 1 else 0),H,I.tok _,⟨_,rfl⟩,q⟩
theorem jt:yn X (.type "str") (fun xs H Q=>∃ i,xs=[.int i]/\i.natAbs.log2<1920/\Q (.str (toString i)) H):=by
 intro pins s σ H xs us Q I r h
 obtain⟨i,rfl,hz,q⟩:=h
 obtain⟨u,rfl,t,rfl⟩:=vals1 r
 exact PySem.P.str_of_int hz ⟨.str _,H,I.tok _,⟨_,rfl⟩,q⟩
end
structure ObjM (h:Heap) (x dx C:Addr) (mA:Str->Option Value):Prop where
 obj:h.get? x=some (akC C dx)
 ns:h.Ns1 dx mA
 ne:dx≠x
theorem acP {h:Heap} {dx:Addr} {mA:Str->Option Value} (n:h.Ns1 dx mA):∃ od,h.get? dx=some od/\∀ name,akK name od=some (mA name):=by
 obtain⟨o,es,ep,ho,hd,hk,_,hm⟩:=n
 refine⟨o,ho,fun name=>?_⟩
 have e:=hm name
 unfold nsFind findBy at e
 rw [<-Array.find?_toList] at e
 unfold akK
 rw [hd]
 dsimp only
 split
 ·rename_i y q
  rw [q] at e
  exact congrArg some e
 ·rename_i q
  rw [q] at e
  have a:es.toList.any (·.refKey)=false:=by
   rw [List.any_eq_false]
   intro y hy
   obtain⟨z,t,hkey⟩:=hk y (Array.mem_toList_iff.mp hy)
   simp [DictEntry.refKey,hkey]
  have a':¬ es.toList.any (·.refKey)=true:=by rw [a];exact ahW
  rw [if_neg a']
  exact congrArg some e
theorem ObjM.look {h:Heap} {x dx C:Addr} {mA:Str->Option Value} (I:ObjM h x dx C mA):∃ od,PySem.W.InstAt h x (akC C dx) C (some od)/\∀ name,akK name od=some (mA name) :=
 let⟨od,ho,hl⟩:=acP I.ns
 ⟨od,⟨I.obj,rfl,rfl,ho⟩,hl⟩
section
variable {prog:Program} {w:World} {A:Around} {E:Value->Shared->Prop} {s:Shared} {K:ahX} {x dx C f:Addr} {mA:Str->Option Value} {name:Str} {v:Value}
end
section
variable {P:Program} {w:World} {H H':Hp} {h h':Heap} {a C dx:Addr} {fs fs':List (Str×V)}
theorem aeU (hok:HOk P w H h) (e:H a=some (.ins C dx fs)):∃ mA,ObjM h a dx C mA/\(∀ f,agf (fs.lookup f) (mA f))/\PySem.Within mA (fs.map (·.1))/\fs.length<=1000/\H dx=some (.own a):=by
 obtain⟨d,z,ne,ob,mA,n,r,q⟩:=(show ObjOk P w H h a (.ins C dx fs) from hok a _ e)
 exact⟨mA,⟨ob,n,ne⟩,r,q,z,d⟩
end
structure Cls (K:ahX) (C:Addr):Prop where
 pg:PySem.W.plainGet K C ajU=true
 hd:PySem.W.hasDictIn K C=true
 po:PySem.W.plainOver K C=true
 sa:aiB K (.ref C) "__setattr__"=some (some (.builtin "object.__setattr__"))
theorem Cls.get {K:ahX} {C:Addr} (c:Cls K C) (f:Str):PySem.W.plainGet K C f=true:=c.pg
structure Con (K:ahX) (C:Addr) (f:Str) (v:V) (u:Value):Prop where
 at_:aiB K (.ref C) f=some (some u)
 rel:RelV v u
 get:aju K u "__get__"=some none
 cp:PySem.W.copiedNames.contains f=false
structure Meth (K:ahX) (C:Addr) (m:Str) (f:Addr):Prop where
 at_:aiB K (.ref C) m=some (some (.ref f))
 fn:aku K (.ref f)=true
 kp:aip K (.ref f)=true
section
variable {X:Cx} {pins:List (Addr×Obj)} {σ:St} {H:Hp} {s:Shared} {a C dx:Addr} {fs:List (Str×V)} {f:Str} {v:V} {A:Around} {E:Value->Shared->Prop}
theorem aeV {prog:Program} {w:World} {env:Env} {e:Expr} {f:Str} {pos:Pos} {s:Shared} {Q:Value->Shared->Prop} (hb:attributeBase e f env (eval e env)=eval e env)
  (h:wpAny (model prog w) A (eval e env) (fun o s₁=>wpAny (model prog w) A (getAttr o f true) Q E s₁) E s):wpAny (model prog w) A (eval (.Attribute e f pos) env) Q E s :=
 Attribute_any_ h (by rw [arm_eval_Attribute,hb])
end
section
variable {X:Cx} {pins:List (Addr×Obj)} {σ:St} {H:Hp} {s:Shared} {A:Around} {E:Value->Shared->Prop} {Q:Value->Shared->Prop} {c:Value} {b:Bool}
inductive TyOf (K:ahX) (H:Hp):V->Value->Prop where
 | non:TyOf K H .non (.type "NoneType")
 | bl (x:Bool):TyOf K H (.bl x) (.type "bool")
 | int (i:Int):TyOf K H (.int i) (.type "int")
 | str (x:Str):TyOf K H (.str x) (.type "str")
 | flt (x:UInt64):TyOf K H (.flt x) (.type "float")
 | lst {a:Addr} {xs:List V} (e:H a=some (.lst xs)):TyOf K H (.ref a) (.type "list")
 | frz {a:Addr} {o:Obj} {xs:List V} (e:H a=some (.frz o (.lst xs))):TyOf K H (.ref a) (.type "list")
 | tup {a:Addr} {xs:List V} (e:H a=some (.tup xs)):TyOf K H (.ref a) (.type "tuple")
 | dK {a:Addr} {kvs:List (Key×V)} (e:H a=some (.dK kvs)):TyOf K H (.ref a) (.type "dict")
 | dT {a:Addr} {kvs:List (List Key×V)} (e:H a=some (.dT kvs)):TyOf K H (.ref a) (.type "dict")
 | ins {a C dx:Addr} {fs:List (Str×V)} (e:H a=some (.ins C dx fs)) (cl:Cls K C) (ha:aiB K (.ref C) "__class__"=some (some (.builtin "object.__class__")))
   (hn:aju K (.builtin "object.__class__") "__get__"=some (some (.builtin "getset_descriptor.__get__"))) (htk:PySem.W.takesIn K (.builtin "object.__class__")=some true)
   (hm:ajW K C (.type "object")=some true):TyOf K H (.ref a) (.ref C)
theorem acQ {x:V} {u t:Value} (I:Inv X pins σ H s) (rx:RelV x u) (ty:TyOf X.K H x t) (e:ahY X.K t c=some b) (h:∀ tk,Q (.bool b) { s with toks:=tk }) :
  wpAny (model X.prog X.w) A (call (.builtin "isinstance") [u,c]) Q E s:=by
 cases ty with
 | non=>cases (show u=Value.none from rx);exact aiy PySem.W.kitx_none I.kIn True.intro e (fun z=>nomatch z) h
 | bl y=>cases (show u=Value.bool y from rx);exact aiy PySem.W.kitx_bool I.kIn True.intro e (fun z=>nomatch z) h
 | int i=>obtain⟨t,q⟩:=(show ∃ t,u=Value.int i t from rx);cases q;exact aiy PySem.W.kitx_int I.kIn True.intro e (fun z=>nomatch z) h
 | str y=>obtain⟨t,q⟩:=(show ∃ t,u=Value.str y t from rx);cases q;exact aiy PySem.W.kitx_str I.kIn True.intro e (fun z=>nomatch z) h
 | flt y=>obtain⟨t,q⟩:=(show ∃ t,u=Value.float y t from rx);cases q;exact aiy PySem.W.kitx_float I.kIn True.intro e (fun z=>nomatch z) h
 | @lst a xs ea =>
  cases (show u=Value.ref a from rx)
  obtain⟨_,_,n,_,h1⟩:=(show ObjOk X.prog X.w H s.heap a (.lst xs) from I.hok a _ ea)
  exact aiy akk I.kIn ⟨_,h1,rfl⟩ e (fun z=>nomatch z) h
 | @frz a ob xs ea =>
  cases (show u=Value.ref a from rx)
  obtain⟨_,_,_,n,_,h1⟩:=(show ObjOk X.prog X.w H s.heap a (.frz ob (.lst xs)) from I.hok a _ ea)
  exact aiy akk I.kIn ⟨_,h1,rfl⟩ e (fun z=>nomatch z) h
 | @tup a xs ea =>
  cases (show u=Value.ref a from rx)
  obtain⟨_,_,_,p⟩:=(show ObjOk X.prog X.w H s.heap a (.tup xs) from I.hok a _ ea)
  obtain⟨o,h1,h2,_⟩:=p
  exact aiy PySem.W.kitx_tuple I.kIn ⟨o,h1,h2⟩ e (fun z=>nomatch z) h
 | @dK a kvs ea =>
  cases (show u=Value.ref a from rx)
  obtain⟨_,_,vs,_,p⟩:=(show ObjOk X.prog X.w H s.heap a (.dK kvs) from I.hok a _ ea)
  obtain⟨o,es,ep,h1,h2,_⟩:=p
  exact aiy PySem.W.kitx_dict I.kIn ⟨o,h1,h2.1⟩ e (fun z=>nomatch z) h
 | @dT a kvs ea =>
  cases (show u=Value.ref a from rx)
  obtain⟨_,_,xs,_,o,es,ep,h1,h2,_⟩:=(show ObjOk X.prog X.w H s.heap a (.dT kvs) from I.hok a _ ea)
  exact aiy PySem.W.kitx_dict I.kIn ⟨o,h1,h2.1⟩ e (fun z=>nomatch z) h
 | @ins a C dx fs ea cl ha hn htk hm =>
  cases (show u=Value.ref a from rx)
  obtain⟨mA,O,_⟩:=aeU I.hok ea
  obtain⟨od,J,_⟩:=O.look
  exact aiy (PySem.W.kitx_own (cl.get _) cl.hd ha hn htk hm) I.kIn J e (fun z=>nomatch z) h
end
structure Room (k:Nat) (A:Around):Prop where
 hd:A.handled=none
 dp:A.depth+3 * k+5<recursionLimit
 un:A.units+16 * k+200<cLine
theorem Room.mono {j k:Nat} {A:Around} (r:Room k A) (h:j<=k):Room j A:=⟨r.hd,by have:=r.dp;omega,by have:=r.un;omega⟩
theorem Room.deeper {k:Nat} {A:Around} (r:Room (k+1) A) (env:Env):Room k (A.deeper env) :=
 ⟨r.hd,by have:=r.dp;show A.depth+1+3 * k+5<_;omega,by have:=r.un;show A.units+3+16 * k+200<_;omega⟩
theorem abA {A:Around} {C:Addr} {us:List Value} {kw:List (Str×Value)}:(A.under (.builtin "type.__call__" ⟨.ref C :: us,kw⟩)).depth=A.depth+1:=by
 first | rfl | simp [ak4,Code.weight,Code.isCreation,Code.isGuard,Code.isCaller,Code.frames,ak5,guardIds]
theorem abB {A:Around} {C:Addr} {us:List Value} {kw:List (Str×Value)}:(A.under (.builtin "type.__call__" ⟨.ref C :: us,kw⟩)).units=A.units+1:=by
 first | rfl | simp [ak4,Code.cUnits,Code.frames,ak5]
theorem Room.make {k:Nat} {A:Around} (r:Room (k+1) A) (C:Addr) (us:List Value) (kw:List (Str×Value)):Room k (A.under (.builtin "type.__call__" ⟨.ref C :: us,kw⟩)) :=
 ⟨r.hd,by have:=r.dp;rw [abA];omega,by have:=r.un;rw [abB];omega⟩
theorem Room.depth {k:Nat} {A:Around} (r:Room k A):A.depth<recursionLimit:=by have:=r.dp;omega
theorem Room.units {k:Nat} {A:Around} (r:Room k A):A.units+64<cLine:=by have:=r.un;omega
noncomputable def jh:TA:=fun _ H Q=>Q [] H
noncomputable def z9 (ta:TE) (tr:TA):TA:=fun σ H Q=>ta σ H fun x H1=>tr σ H1 fun xs H2=>Q (x :: xs) H2
section
variable {X:Cx} {e:Expr} {es:List Expr} {te:TE} {t:TA} {pos:Pos}
theorem zb:PA X [] jh:=fun _ _ _ _ H Q I h=>Calls.spliced_nil ⟨[],H,I,.nil,h⟩
theorem za (ha:PE X e te) (hr:PA X es t) (hs:starEach (e :: es) X.env=(false,eval e X.env) :: starEach es X.env:=by rfl):PA X (e :: es) (z9 te t):=by
 intro pos pins s σ H Q I h
 rw [hs]
 show wpAny _ _ (spliced ((false,eval e X.env) :: backTo pos (starEach es X.env))) _ _ s
 refine akb (thn (ha pins s σ H _ I h) fun u s1 ⟨x,H1,I1,r1,q1⟩=>?_)
 exact thn (hr pos pins s1 σ H1 _ I1 q1) fun us s2 ⟨xs,H2,I2,r2,q2⟩=>⟨x :: xs,H2,I2,.cons r1 r2,q2⟩
noncomputable def ahh (t:TA):TE:=fun σ H Q=>t σ H fun xs H1=>xs.length<=sizeLine/\∀ p,H1 p=none->Q (.ref p) (upd H1 p (.tup xs))
noncomputable def aeW (t:TA):TE:=fun σ H Q=>t σ H fun xs H1=>xs.length<=sizeLine/\∀ p,H1 p=none->Q (.ref p) (upd H1 p (.lst xs))
theorem jb {x1} (h:PA X es t):PE X (.Tuple es x1 pos) (ahh t):=by
 intro pins s σ H Q I hq
 refine wpAny_Tuple_spliced (thn (h pos pins s σ H _ I hq) fun us s1 ⟨xs,H1,I1,r,z,q⟩=>⟨by rw [<-r.length];exact z,?_⟩)
 have hf:H1 s1.heap.objs.size=none:=I1.hok.fresh (aie _)
 refine⟨.ref s1.heap.objs.size,upd H1 s1.heap.objs.size (.tup xs),I1.laid (t':=s1.toks) (fun b u e=>ah0 _ e) (aie _) ?_,rfl,q _ hf⟩
 exact⟨z,us,r,⟨_,aik _ rfl,rfl,_,rfl⟩⟩
theorem zZ (h:PA X es t):PE X (.List es pos) (aeW t):=by
 intro pins s σ H Q I hq
 refine wpAny_List_spliced (thn (h pos pins s σ H _ I hq) fun us s1 ⟨xs,H1,I1,r,z,q⟩=>⟨by rw [<-r.length];exact z,?_⟩)
 have hf:H1 s1.heap.objs.size=none:=I1.hok.fresh (aie _)
 refine⟨.ref s1.heap.objs.size,upd H1 s1.heap.objs.size (.lst xs),I1.laid (t':=s1.toks) (fun b u e=>ah0 _ e) (aie _) ?_,rfl,q _ hf⟩
 exact⟨z,us,0,r,aik _ rfl⟩
end
noncomputable abbrev Sp:=List V->Hp->VK->XK->Prop
noncomputable abbrev CXT:=List Env->Hp->Shared->XK->Value->Shared->Prop
structure Env0 (P:Program) (w:World) (K:ahX) (mg:Str->Option Value) (base:Heap) (A:Around) (outer:List Env) (s:Shared) (H:Hp):Prop where
 frames:A.frames=some outer
 mod:Mod K mg base
 bs:∀ b o,base.get? b=some o->s.heap.get? b=some o/\H b=none
 bsz:base.objs.size<=s.heap.objs.size
 funs:s.heap.FunFrames base outer
 frf:∀ b∈frs outer,H b=none
 hok:HOk P w H s.heap
 bare:AllBare s.gens
noncomputable def CE (outer:List Env) (P:Program) (w:World) (H:Hp) (s:Shared) (Q:VK) (u:Value) (s':Shared):Prop :=
 ∃ v H',s'.os=s.os/\AllBare s'.gens/\Un (frs outer) [] H H' s.heap s'.heap/\HOk P w H' s'.heap/\RelV v u/\Q v H'
noncomputable def CR (CX:CXT) (outer:List Env) (P:Program) (w:World) (H:Hp) (s:Shared) (Q:VK) (E:XK) (r:Result) (s':Shared):Prop :=
 match r with
 | .ok (.ret u)=>CE outer P w H s Q u s'
 | .ok _=>False
 | .error e=>CX outer H s E e s'
structure FnOk (P:Program) (w:World) (K:ahX) (mg:Str->Option Value) (base:Heap) (CX:CXT) (k:Nat) (f:Addr) (fd:FuncData) (ps:List Str) (sp:Sp):Prop where
 len:∀ vs H Q E,sp vs H Q E->vs.length=ps.length
 run:∀ (A:Around) (outer:List Env) (s:Shared) (H:Hp) (args:Args) (us:List Value) (vs:List V) (Q:VK) (E:XK),Room k A->Env0 P w K mg base A outer s H->BindsTo s fd args (ps.zip us)->Vals vs us->sp vs H Q E ->
  codeAny (model P w) A (.call (.ref f) args) (CR CX outer P w H s Q E) s
theorem FnOk.mono {P:Program} {w:World} {K:ahX} {mg:Str->Option Value} {base:Heap} {CX:CXT} {j k:Nat} {f:Addr} {fd:FuncData} {ps:List Str} {sp:Sp} (F:FnOk P w K mg base CX j f fd ps sp) (h:j<=k) :
  FnOk P w K mg base CX k f fd ps sp:=⟨F.len,fun A outer s H args us vs Q E hr=>F.run A outer s H args us vs Q E (hr.mono h)⟩
theorem Env0.make {P:Program} {w:World} {K:ahX} {mg:Str->Option Value} {base:Heap} {A:Around} {outer:List Env} {s:Shared} {H:Hp} (e:Env0 P w K mg base A outer s H) (C:Addr) (us:List Value) (kw:List (Str×Value)) :
  Env0 P w K mg base (A.under (.builtin "type.__call__" ⟨.ref C :: us,kw⟩)) outer s H:=⟨by first | exact e.frames | (simpa [ak4,Code.envs,ak5,pushEnvs] using e.frames),e.mod,e.bs,e.bsz,e.funs,e.frf,e.hok,e.bare⟩
section
variable {X:Cx} {pins:List (Addr×Obj)} {σ:St} {H:Hp} {s s':Shared}
theorem Inv.env0 (I:Inv X pins σ H s):Env0 X.prog X.w X.K X.mg X.base X.A X.stack s H :=
 ⟨I.ok.frames,I.ok.mod,I.bs,aih I.ok.bsz I.sz,I.stack,I.stkFree,I.hok,I.bare⟩
theorem Inv.after {Q:VK} {u:Value} (I:Inv X pins σ H s) (h:CE X.stack X.prog X.w H s Q u s'):EP X pins σ Q u s':=by
 obtain⟨v,H',os,bare,un,hok,r,q⟩:=h
 obtain⟨hh,g,d,t,os'⟩:=s'
 obtain rfl:os'=s.os:=os
 exact⟨v,H',I.call (h':=hh) (g':=g) (d':=d) (t':=t) (ch:=[]) un hok bare (fun b z=>absurd z (by simp)),r,q⟩
end
noncomputable def qq (sp:Sp) (dvs:List V) (E:XK) (t:TA):TE:=fun σ H Q=>t σ H fun vs H1=>sp (vs++dvs) H1 Q E
noncomputable def Binds (K:ahX) (fd:FuncData) (ps:List Str) (ds:List Value):Prop :=
 ∀ (s:Shared) (us:List Value),K.In s.heap->(us++ds).length=ps.length->BindsTo s fd ⟨us,[]⟩ (ps.zip (us++ds))
theorem Binds.all {K:ahX} {fd:FuncData} {ps:List Str} (h:∀ us:List Value,us.length=ps.length->bindArgs fd ⟨us,[]⟩=pure (ps.zip us)):Binds K fd ps []:=fun s us _ hl=>by
 rw [aiJ] at hl ⊢
 exact .of_eq (h us hl)
noncomputable def Passes (CX:CXT) (X:Cx) (E:XK):Prop:=∀ (pins:List (Addr×Obj)) (σ:St) (H:Hp) (s:Shared) (e:Value) (s':Shared),Inv X pins σ H s->CX X.stack H s E e s'->X.xe e s'
section
variable {X:Cx} {CX:CXT} {k:Nat} {f C:Addr} {fd:FuncData} {ps:List Str} {sp:Sp} {dvs:List V} {ds:List Value} {E:XK} {x m:Str} {p pos apos:Pos} {e o:Expr} {es:List Expr} {ta:TE} {t:TA}
theorem adK {pins:List (Addr×Obj)} {σ:St} {H:Hp} {s:Shared} {Q:VK} {us:List Value} {vs:List V} (F:FnOk X.prog X.w X.K X.mg X.base CX k f fd ps sp) (hr:Room k X.A) (hb:Binds X.K fd ps ds) (hd:Vals dvs ds) (hx:Passes CX X E)
  (I:Inv X pins σ H s) (r:Vals vs us) (h:sp (vs++dvs) H Q E):wpAny (model X.prog X.w) X.A (call (.ref f) us) (EP X pins σ Q) X.xe s:=by
 have r2:Vals (vs++dvs) (us++ds):=r.append hd
 have hl:(us++ds).length=ps.length:=by rw [<-r2.length];exact F.len _ _ _ _ h
 refine wpAny_call (codeAny_mono (F.run X.A X.stack s H ⟨us,[]⟩ (us++ds) (vs++dvs) Q E hr I.env0 (hb s us I.kIn hl) r2 h) fun r s' hq=>?_)
 cases r with
 | error e=>exact hx pins σ H s e s' I hq
 | ok fl =>
  cases fl with
  | ret u=>exact I.after hq
  | next=>exact aix hq
  | brk=>exact aix hq
  | cont=>exact aix hq
theorem acb (F:FnOk X.prog X.w X.K X.mg X.base CX k f fd ps sp) (hr:Room k X.A) (hg:Gl X x) (hm:X.mg x=some (.ref f)) (hk:aip X.K (.ref f)=true) (hb:Binds X.K fd ps ds) (hd:Vals dvs ds) (hx:Passes CX X E)
  (ha:PA X (e :: es) t) (hdb:(x == ("__debug__":Str))=false:=by decide) (he:starEach (e :: es) X.env=(false,eval e X.env) :: starEach es X.env:=by rfl) (hpl:(backTo pos (starEach es X.env)).any (·.1)=false:=by rfl) :
  PE X (.Call (.Name x p) (e :: es) [] pos) (qq sp dvs E t):=by
 intro pins s σ H Q I h
 refine wpAny_Call_Name_kw (yY I hg hm ?_ hdb)
 refine ajL (h₀:=X.base) I.ok.mod.kin hk (thn (ha pos pins s σ H _ I h) fun us s1 ⟨vs,H1,I1,r,q⟩=>⟨I1.kIn,?_⟩) he hpl
 exact adK F hr hb hd hx I1 r q
theorem adL (F:FnOk X.prog X.w X.K X.mg X.base CX k f fd ps sp) (hr:Room k X.A) (hg:Gl X x) (hm:X.mg x=some (.ref f)) (hk:aip X.K (.ref f)=true) (hb:Binds X.K fd ps ds) (hd:Vals dvs ds) (hx:Passes CX X E)
  (hdb:(x == ("__debug__":Str))=false:=by decide):PE X (.Call (.Name x p) [] [] pos) (qq sp dvs E jh):=by
 intro pins s σ H Q I h
 refine wpAny_Call_Name_kw (yY I hg hm ?_ hdb)
 exact PySem.W.callWith_K0 I.kIn hk (adK (us:=[]) F hr hb hd hx I .nil h)
structure Mk (K:ahX) (C f:Addr):Prop where
 makes:PySem.W.makesIn K C=true
 init:aiB K (.ref C) "__init__"=some (some (.ref f))
 fn:aku K (.ref f)=true
 kp:aip K (.ref C)=true
end
section
variable {X:Cx} {CX:CXT} {k:Nat} {f C:Addr} {fd:FuncData} {ps ks:List Str} {sp:Sp} {E:XK} {x m:Str} {p pos apos kpos:Pos} {e o:Expr} {es:List Expr} {kws:List Keyword} {te ta:TE} {t tk:TA} {nm:Option Str}
structure KBinds (K:ahX) (fd:FuncData) (ps ks:List Str) (g:List Value->List Value->List Value) (gV:List V->List V->List V):Prop where
 to:∀ (s:Shared) (us ws:List Value),K.In s.heap->(g us ws).length=ps.length->BindsTo s fd ⟨us,ks.zip ws⟩ (ps.zip (g us ws))
 rel:∀ {vs:List V} {us:List Value} {zs:List V} {ws:List Value},Vals vs us->Vals zs ws->Vals (gV vs zs) (g us ws)
variable {g:List Value->List Value->List Value} {gV:List V->List V->List V}
end
structure FnScope (N P:List Str) (sc:Scope):Prop where
 kind:sc.kind=.function
 co:sc.isCoroutine=false
 gen:sc.isGenerator=false
 nd:N.Nodup
 pre:N.take P.length=P
 par:∀ x∈P,sc.names.lookup x=some .local \/ sc.names.lookup x=some .cell
 nofree:∀ y∈sc.names,y.2≠.free
theorem aab {kindOf:Str->Option NameKind} {x:Str}:∀ {binds:List (Str×Value)} {m:Str->Option Value},(∀ v,(x,v)∉binds)->bindL kindOf binds m x=m x
 | [],_,_=>rfl
 | (n,v) :: r,m,h=>by
  unfold bindL
  rw [aab fun w hw=>h w (ah3 _ hw)]
  split
  ·have:x≠n:=by rintro rfl;exact h v aic
   simp [this]
  ·rfl
theorem aac {kindOf:Str->Option NameKind} {x:Str}:∀ {binds:List (Str×Value)} {m:Str->Option Value},(∀ v,(x,v)∉binds)->bindC kindOf binds m x=m x
 | [],_,_=>rfl
 | (n,v) :: r,m,h=>by
  unfold bindC
  rw [aac fun w hw=>h w (ah3 _ hw)]
  split
  ·rfl
  ·have:x≠n:=by rintro rfl;exact h v aic
   simp [this]
theorem aad {kindOf:Str->Option NameKind} {x:Str} {v:Value}:∀ {P:List Str} {vs:List Value} {i:Nat} {m:Str->Option Value},P.Nodup->P[i]?=some x->vs[i]?=some v->kindOf x=some .local ->
  bindL kindOf (P.zip vs) m x=some v
 | [],_,_,_,_,h,_,_=>by simp at h
 | _ :: _,[],_,_,_,_,h,_=>by simp at h
 | p :: P,w :: vs,0,m,nd,h1,h2,hk=>by
  simp at h1 h2;subst h1;subst h2
  show bindL kindOf ((p,w) :: P.zip vs) m p=_
  unfold bindL
  rw [aab fun v hv=>(ajo.mp nd).1 (aj0 hv).1,if_pos hk]
  simp
 | p :: P,w :: vs,i+1,m,nd,h1,h2,hk=>by
  show bindL kindOf ((p,w) :: P.zip vs) m x=_
  unfold bindL
  exact aad (i:=i) (ajo.mp nd).2 (by simpa using h1) (by simpa using h2) hk
theorem aae {kindOf:Str->Option NameKind} {x:Str} {v:Value}:∀ {P:List Str} {vs:List Value} {i:Nat} {m:Str->Option Value},P.Nodup->P[i]?=some x->vs[i]?=some v->kindOf x≠some .local ->
  bindC kindOf (P.zip vs) m x=some v
 | [],_,_,_,_,h,_,_=>by simp at h
 | _ :: _,[],_,_,_,_,h,_=>by simp at h
 | p :: P,w :: vs,0,m,nd,h1,h2,hk=>by
  simp at h1 h2;subst h1;subst h2
  show bindC kindOf ((p,w) :: P.zip vs) m p=_
  unfold bindC
  rw [aac fun v hv=>(ajo.mp nd).1 (aj0 hv).1,if_neg hk]
  simp
 | p :: P,w :: vs,i+1,m,nd,h1,h2,hk=>by
  show bindC kindOf ((p,w) :: P.zip vs) m x=_
  unfold bindC
  exact aae (i:=i) (ajo.mp nd).2 (by simpa using h1) (by simpa using h2) hk
noncomputable def start (N:List Str) (vs:List V):St:=vs.map some++aiS (N.length - vs.length) none
noncomputable def zO (CX:CXT) (P:Program) (w:World) (K:ahX) (mg:Str->Option Value) (base:Heap) (N:List Str) (qual:Str) (scope:Scope) (f:Addr) (cd:Value) (A:Around) (outer:List Env) (s:Shared) (H:Hp) (E:XK):Cx where
 prog:=P
 w:=w
 K:=K
 mg:=mg
 base:=base
 A:=A.deeper (envOfC qual scope s.heap.objs.size f cd)
 N:=N
 s₀:=s
 H₀:=H
 env:=envOfC qual scope s.heap.objs.size f cd
 outer:=outer
 stack:=envOfC qual scope s.heap.objs.size f cd :: outer
 ex:=[]
 calm:=true
 fn:=fun _=>true
 pn:=[]
 xe:=fun e s'=>wpAny (model P w) (A.deeper (envOfC qual scope s.heap.objs.size f cd)) (leaving (envOfC qual scope s.heap.objs.size f cd) e) (fun _ s''=>CX outer H s E e s'') (fun e' s''=>CX outer H s E e' s'') s'
theorem aaX {sc:Scope} {n:Nat} {x:Str} (h:sc.names.lookup x=some .cell):∃ c,(cellsFrom n sc.names []).lookup x=some c:=by
 have q:=aiY sc.names n [] (.inl h)
 exact aiQ.mp q
theorem aaf {CX:CXT} {P:Program} {w:World} {K:ahX} {mg:Str->Option Value} {base:Heap} {N ps:List Str} {qual:Str} {scope:Scope} {f:Addr} {cd:Value} {A:Around} {outer:List Env} {s s1:Shared} {H:Hp} {E:XK} {us:List Value} {vs:List V}
  (S:FnScope N ps scope) (hd:A.handled=none) (e0:Env0 P w K mg base A outer s H) (hl:vs.length=ps.length) (r:Vals vs us)
  (x:InCallC s s.heap.objs.size (bindL (envOfC qual scope s.heap.objs.size f cd).kindOf (ps.zip us) fun _=>none) (cellsFrom (s.heap.objs.size+1) scope.names []) (bindC (envOfC qual scope s.heap.objs.size f cd).kindOf (ps.zip us) fun _=>none) s1) :
  Inv (zO CX P w K mg base N qual scope f cd A outer s H E) [] (start N vs) H s1:=by
 have hpl:ps.length<=N.length:=by have:=congrArg List.length S.pre;rw [aiz] at this;omega
 obtain⟨h1,tk,rfl,hk⟩:=x.done
 have noA:∀ b:Addr,b∉(zO CX P w K mg base N qual scope f cd A outer s H E).ex:=fun b z=>absurd (show b∈([]:List Addr) from z) (by simp)
 refine⟨⟨e0.mod,S.kind,rfl,rfl,aie _,fun y z c h1 h2=>?_,fun y hy=>?_,fun y c _ h=>?_,fun _=>hd,akL e0.frames,.inr ⟨rfl,rfl⟩,fun b z=>absurd z (noA b),e0.bs,e0.bsz,fun b _ _=>noA b,fun b z=>absurd z (noA b),e0.funs,e0.frf⟩,
  rfl,e0.bare,Un.kept hk,⟨_,x.toInCall.ns,fun i y v h1 h2 h3=>?_⟩,fun y c h=>⟨_,x.cell y c h⟩,e0.hok.fresh (aie _),fun y c h=>?_,fun p hp=>absurd (show p∈([]:List (Addr×Obj)) from hp) (by simp),e0.hok.kept hk,?_⟩
 ·exact name_of_addr x.apart (ajf h1) (ajf h2)
 ·have hy:scope.names.lookup y=some .cell \/ scope.names.lookup y=some .free:=hy
  rcases hy with hy | hy
  ·exact aaX hy
  ·exact absurd rfl (S.nofree _ (ajf hy))
 ·exact ajm (x.above y c (ajf h))
 ·have hi:i<vs.length:=by
   unfold start at h2
   by_cases hi:i<vs.length
   ·exact hi
   ·rw [aiq (by simpa using hi)] at h2
    rw [ajg] at h2
    split at h2 <;> cases h2
  have ha:vs[i]?=some v:=by
   unfold start at h2
   rw [aif (by simpa using hi),ah9] at h2
   cases e:vs[i]? with
   | none=>rw [e] at h2;cases h2
   | some a=>rw [e] at h2;cases h2;rfl
  obtain⟨u,hu,rv⟩:=r.get ha
  have hp:ps[i]?=some y:=by
   rw [<-S.pre,akp (by omega)];exact h1
  have ndP:ps.Nodup:=by rw [<-S.pre];exact S.nd.sublist (List.take_sublist _ _)
  refine⟨u,rv,?_⟩
  rcases S.par y (aiw hp) with k | k
  ·exact .inl ⟨k,aad ndP hp hu k⟩
  ·obtain⟨c,e⟩:=aaX (n:=s.heap.objs.size+1) k
   refine .inr ⟨.inl k,c,e,?_⟩
   have q:=x.cell y c e
   rw [aae ndP hp hu (by show scope.names.lookup y≠_;rw [k];decide)] at q
   exact q
 ·exact e0.hok.fresh (ajm (x.above y c (ajf h)))
 ·unfold start
  show _=N.length
  rw [aij,ahZ,ajS]
  omega
theorem afR {CX:CXT} {P:Program} {w:World} {K:ahX} {mg:Str->Option Value} {base:Heap} {k:Nat} {f:Addr} {name qual:Str} {params:Arguments} {body:List Stmt} {scope:Scope} {dV kV doc pm cdv ct oc:Value} {an od:Option Addr}
  {osl:Array (Option Value)} {N ps:List Str} {sp:Sp} (lk:K.lookup f=some ⟨oc,od,.func (aiG name qual params body scope dV kV doc pm an cdv ct),osl⟩) (hcd:ajh K cdv qual=true) (S:FnScope N ps scope)
  (len:∀ vs H Q E,sp vs H Q E->vs.length=ps.length)
  (hbody:∀ (A:Around) (outer:List Env) (s:Shared) (H:Hp) (vs:List V) (Q:VK) (E:XK),Room k (A.deeper (envOfC qual scope s.heap.objs.size f cdv))->sp vs H Q E ->
   ∃ t,PSs (zO CX P w K mg base N qual scope f cdv A outer s H E) body t/\t { nx:=fun _ H'=>Q .non H',rt:=Q } (start N vs) H) :
  FnOk P w K mg base CX (k+1) f (aiG name qual params body scope dV kV doc pm an cdv ct) ps sp:=by
 refine⟨len,fun A outer s H args us vs Q E hr e0 hb r hsp=>?_⟩
 have hl:=len _ _ _ _ hsp
 have KX:K.In s.heap:=e0.mod.kin.keeps fun b o e=>(e0.bs b o e).1
 have lim:s.heap.NoLimit:=e0.mod.nolimit.keeps fun b o e=>(e0.bs b o e).1
 have hkind:∀ y∈ps.zip us,scope.names.lookup y.1=some .local \/ (scope.names.lookup y.1=some .cell/\((cellsFrom (s.heap.objs.size+1) scope.names []).lookup y.1).isSome=true):=fun⟨n,v⟩ hy=>by
  rcases S.par n (aj0 hy).1 with q | q
  ·exact .inl q
  ·exact .inr ⟨q,aiY _ _ _ (.inl q)⟩
 refine codeAny_call_function hr.depth (KX _ _ lk) rfl S.co S.gen rfl (PySem.W.codeRec_of KX hcd) (hb _ _ _ _ ?_)
 refine wpAny_newFunctionEnv_cells S.kind hkind fun env he s1 x=>?_
 subst he
 refine⟨lim.keeps x.toInCall.keep,codeAny_func ?_⟩
 obtain⟨t,ht,hq⟩:=hbody A outer s H vs Q E (hr.deeper _) hsp
 have I:Inv (zO CX P w K mg base N qual scope f cdv A outer s H E) [] (start N vs) H s1:=aaf S hr.hd e0 hl r x
 refine wpAny_mono (ht [] s1 (start N vs) H _ I hq) (fun fl s' hs=>?_) fun e s' hs=>hs
 have fin:∀ {σ':St} {H':Hp} {v:V} {u:Value},Inv (zO CX P w K mg base N qual scope f cdv A outer s H E) [] σ' H' s'->RelV v u->Q v H'->CE outer P w H s Q u s' :=
  fun {σ' H' v u} J rv q=>⟨v,H',J.os,J.bare,J.base,J.hok,rv,q⟩
 cases fl with
 | ret u =>
  obtain⟨v,σ',H',J,rv,q⟩:=hs
  exact fin J rv q
 | next =>
  obtain⟨σ',H',J,q⟩:=hs
  exact fin (v:=V.non) (u:=Value.none) J rfl q
 | brk =>
  obtain⟨_,_,_,q⟩:=hs
  exact aix q
 | cont =>
  obtain⟨_,_,_,q⟩:=hs
  exact aix q
section
variable {X:Cx} {x:Str} {p pos:Pos} {e:Expr} {es:List Expr} {t:TA} {id T:String} {r:List V->Hp->VK->Prop}
noncomputable def tCB (r:List V->Hp->VK->Prop) (t:TA):TE:=fun σ H Q=>t σ H fun vs H1=>r vs H1 Q
theorem zi (hc:yn X (.builtin id) r) (hg:Gl X x) (hm:X.mg x=none) (hv:bootBuiltins x=some (.builtin id)) (ha:PA X (e :: es) t) (hn:x ≠ "__name__":=by decide) (hdb:(x == ("__debug__":Str))=false:=by decide)
  (he:starEach (e :: es) X.env=(false,eval e X.env) :: starEach es X.env:=by rfl) (hpl:(backTo pos (starEach es X.env)).any (·.1)=false:=by rfl):PE X (.Call (.Name x p) (e :: es) [] pos) (tCB r t):=by
 intro pins s σ H Q I h
 refine wpAny_Call_Name_kw (vn I hg hm hv ?_ hn hdb)
 exact ajV (thn (ha pos pins s σ H _ I h) fun us s1 ⟨vs,H1,I1,r1,q1⟩=>hc pins s1 σ H1 vs us Q I1 r1 q1) he hpl
theorem yt (hc:yn X (.type T) r) (hg:Gl X x) (hm:X.mg x=none) (hv:bootBuiltins x=some (.type T)) (ha:PA X (e :: es) t) (hn:x ≠ "__name__":=by decide) (hdb:(x == ("__debug__":Str))=false:=by decide)
  (he:starEach (e :: es) X.env=(false,eval e X.env) :: starEach es X.env:=by rfl) (hpl:(backTo pos (starEach es X.env)).any (·.1)=false:=by rfl):PE X (.Call (.Name x p) (e :: es) [] pos) (tCB r t):=by
 intro pins s σ H Q I h
 refine wpAny_Call_Name_kw (vn I hg hm hv ?_ hn hdb)
 exact ajt (thn (ha pos pins s σ H _ I h) fun us s1 ⟨vs,H1,I1,r1,q1⟩=>hc pins s1 σ H1 vs us Q I1 r1 q1) he hpl
end
end L2
namespace HT
open PySem PyProof.Rows
section
open PySem.SeqAt
open PySem.AutoSeq1 (wpAny_loadPart')
open PySem.MeetsSeq PySem.MeetsSeq2 PySem.MeetsSeq3
end
section
variable {prog:Program} {w:World} {A:Around} {E:Value->Shared->Prop} {s:Shared}
noncomputable def sIx (n d:Nat):Option Int->Nat
 | none=>d
 | some v=>if v<0 then (v+(n:Int)).toNat else min v.toNat n
theorem sIx_none (n d:Nat):sIx n d none=d:=rfl
theorem sIx_nat (n d k:Nat):sIx n d (some (k:Int))=min k n:=by
 show (if (k:Int)<0 then ((k:Int)+(n:Int)).toNat else min (k:Int).toNat n)=min k n
 rw [if_neg (by omega),aiT]
end
end HT
namespace L2
open PySem PySem.Spec PyProof.Rows
noncomputable abbrev TO:=St->Hp->(Option Int->Hp->Prop)->Prop
noncomputable def PO (X:Cx) (e:Option Expr) (t:TO):Prop :=
 ∀ (pins:List (Addr×Obj)) (s:Shared) (σ:St) (H:Hp) (Q:Option Int->Hp->Prop),Inv X pins σ H s->t σ H Q ->
  wpAny (model X.prog X.w) X.A (evalPart e X.env) (fun u s'=>∃ o H',Inv X pins σ H' s'/\IsPart u o/\Q o H') X.xe s
noncomputable def acd:TO:=fun _ H Q=>Q none H
noncomputable def afS (t:TE):TO:=fun σ H Q=>t σ H fun x H1=>∃ i,x=.int i/\Q (some i) H1
theorem intsAre_of {ns:List Int}:∀ {us:List Value},Vals (ns.map V.int) us->IntsAre us ns:=by
 induction ns with
 | nil=>intro us r;rw [List.map_nil] at r;cases r;exact .nil
 | cons n ns ih =>
  intro us r
  rw [ajb] at r
  cases r with
  | cons r1 r2 =>
   obtain⟨t,e⟩:=r1
   subst e
   exact .cons n t (ih r2)
section
variable {X:Cx} {e:Expr} {te:TE} {lo hi:Option Expr} {tl th:TO} {pos p2:Pos}
theorem zV:PO X none acd:=by
 intro pins s σ H Q I h
 rw [evalPart_none]
 exact wpAny_pure ⟨none,H,I,.none,h⟩
theorem zK (h:PE X e te):PO X (some e) (afS te):=by
 intro pins s σ H Q I hw
 rw [evalPart_some]
 refine thn (h pins s σ H _ I hw) fun u s1 ⟨x,H1,I1,r1,q1⟩=>?_
 obtain⟨i,rfl,q⟩:=q1
 obtain⟨t,rfl⟩:=r1
 exact⟨some i,H1,I1,.int i t,q⟩
noncomputable def SlR (X:Cx) (r:V->Option Int->Option Int->Hp->VK->Prop):Prop :=
 ∀ (pins:List (Addr×Obj)) (s:Shared) (σ:St) (H:Hp) (x:V) (v vl vu:Value) (lo hi:Option Int) (sl:Addr) (Q:VK),Inv X pins σ H s->RelV x v->s.heap.IsSliceOf sl vl vu .none->IsPart vl lo->IsPart vu hi->r x lo hi H Q ->
  ∃ T id,typeLookup (.type T) "__getitem__"=pure (some (.builtin id))/\s.TypeIs v T/\wpAny (model X.prog X.w) X.A (getItem v (.ref sl)) (EP X pins σ Q) X.xe s
noncomputable def tSl (r:V->Option Int->Option Int->Hp->VK->Prop) (te:TE) (tl th:TO):TE:=fun σ H Q=>te σ H fun x H1=>tl σ H1 fun l H2=>th σ H2 fun u H3=>r x l u H3 Q
theorem zJ {r:V->Option Int->Option Int->Hp->VK->Prop} (hr:SlR X r) (he:PE X e te) (hl:PO X lo tl) (hu:PO X hi th):PE X (.Subscript e (.Slice lo hi none p2) pos) (tSl r te tl th):=by
 intro pins s σ H Q I h
 refine Subscript_ (thn (he pins s σ H _ I h) fun v s1 ⟨x,H1,I1,r1,q1⟩=>?_)
 refine wpAny_Slice (thn (hl pins s1 σ H1 _ I1 q1) fun vl s2 ⟨l,H2,I2,pl,q2⟩=>thn (hu pins s2 σ H2 _ I2 q2) fun vu s3 ⟨u,H3,I3,pu,q3⟩=>?_)
 rw [evalPart_none]
 refine wpAny_pure ?_
 have I4:Inv X pins σ H3 { s3 with heap:=s3.heap.push { cls:=.type "slice",data:=.fields #[vl,vu,.none] } }:=I3.kept (t':=s3.toks) fun b ob q=>ah0 _ q
 obtain⟨T,id,hT,ht,hg⟩:=hr pins { s3 with heap:=s3.heap.push { cls:=.type "slice",data:=.fields #[vl,vu,.none] } } σ H3 x v vl vu l u s3.heap.objs.size Q I4 r1 (Heap.IsSliceOf.new ..) pl pu q3
 show wpAny (model X.prog X.w) X.A (subscriptTail e (.Slice lo hi none p2) v (.ref s3.heap.objs.size)) (EP X pins σ Q) X.xe { s3 with heap:=s3.heap.push { cls:=.type "slice",data:=.fields #[vl,vu,.none] } }
 exact tail_any (ops:=[.ref s3.heap.objs.size,v]) ht hT hg (by with_unfolding_all rfl)
noncomputable def abC (xs:List V) (lo hi:Option Int):List V:=(xs.drop (HT.sIx xs.length 0 lo)).take (HT.sIx xs.length xs.length hi - HT.sIx xs.length 0 lo)
theorem aaY (xs:List V) (lo hi:Option Int):(abC xs lo hi).length<=xs.length:=by
 unfold abC
 rw [aiz,aiL]
 omega
end
noncomputable def ixN (n:Nat) (i:Int):Option Nat:=if 0<=i then (if i<n then some i.toNat else none) else if -(n:Int)<=i then some (i+n).toNat else none
noncomputable def atI {α:Type} (xs:List α) (i:Int):Option α:=(ixN xs.length i).bind fun j=>xs[j]?
theorem ace {n:Nat} {i:Int} {j:Nat} (h:ixN n i=some j):seqIndex? i n=some j/\j<n/\-(n:Int)<=i/\i<n:=by
 unfold ixN at h
 by_cases h0:0<=i
 ·rw [if_pos h0] at h
  by_cases h1:i<n
  ·rw [if_pos h1] at h
   have e:i.toNat=j:=Option.some.inj h
   exact⟨by rw [seqIndex_of h0 h1,e],by omega,by omega,h1⟩
  ·rw [if_neg h1] at h;cases h
 ·rw [if_neg h0] at h
  by_cases h1:-(n:Int)<=i
  ·rw [if_pos h1] at h
   have e:(i+n).toNat=j:=Option.some.inj h
   exact⟨by rw [seqIndex_neg (by omega) h1,e],by omega,h1,by omega⟩
  ·rw [if_neg h1] at h;cases h
theorem aaz {α:Type} {xs:List α} {i:Int} {v:α} (h:atI xs i=some v):∃ j,seqIndex? i xs.length=some j/\xs[j]?=some v/\j<xs.length/\-(xs.length:Int)<=i/\i<xs.length:=by
 unfold atI at h
 cases e:ixN xs.length i with
 | none=>rw [e] at h;cases h
 | some j =>
  rw [e] at h
  obtain⟨h1,h2,h3,h4⟩:=ace e
  exact⟨j,h1,h,h2,h3,h4⟩
theorem zL {α:Type} {xs:List α} {j:Nat} {v:α} (h:xs[j]?=some v):atI xs (j:Int)=some v:=by
 have hj:j<xs.length:=(ah1.mp h).1
 have e:ixN xs.length (j:Int)=some j:=by
  unfold ixN
  rw [if_pos (by omega),if_pos (by omega)];simp
 unfold atI;rw [e];exact h
noncomputable def aeX (b:Expr):Prop:=∀ o i,subscripted b false o i=operate [o,i] (getItem o i)
noncomputable def IxR (X:Cx) (r:R2):Prop :=
 ∀ (value slice:Expr) (pins:List (Addr×Obj)) (s:Shared) (σ:St) (H:Hp) (x y:V) (v u:Value) (Q:VK),Inv X pins σ H s->RelV x v->RelV y u->r x y H Q ->
  subscripted slice false v u=operate [v,u] (getItem v u)->wpAny (model X.prog X.w) X.A (subscriptTail value slice v u) (EP X pins σ Q) X.xe s
noncomputable def MtR (X:Cx) (id:String) (r:V->List V->Hp->VK->Prop):Prop :=
 ∀ (pins:List (Addr×Obj)) (s:Shared) (σ:St) (H:Hp) (x:V) (xs:List V) (v:Value) (us:List Value) (Q:VK),Inv X pins σ H s->RelV x v->Vals xs us->r x xs H Q ->
  wpAny (model X.prog X.w) X.A (call (.builtin id) (v :: us)) (EP X pins σ Q) X.xe s
section
variable {X:Cx} {a b:Expr} {ta tb:TE} {pos:Pos}
theorem ye {r:R2} (hr:IxR X r) (ha:PE X a ta) (hb:PE X b tb) (hs:aeX b):PE X (.Subscript a b pos) (tOp r ta tb):=by
 intro pins s σ H Q I h
 exact Subscript_ (agl ha hb I h fun v u s2 x y H2 I2 rx ry q=>hr a b pins s2 σ H2 x y v u Q I2 rx ry q (hs _ _))
noncomputable def adM (K:ahX):R2:=fun x y H Q=>∃ p xs i v,x=.ref p/\y=.int i/\SqL K H p xs/\atI xs i=some v/\Q v H
noncomputable def aeY (K:ahX):R2:=fun x y H Q=>∃ p xs i v,x=.ref p/\y=.int i/\SqT K H p xs/\atI xs i=some v/\Q v H
noncomputable def ahi:R2:=fun x y H Q=>∃ z i c,x=.str z/\y=.int i/\z.length<=sizeLine/\atI z.cps.toList i=some c/\Q (.str ⟨#[c]⟩) H
theorem aeZ:IxR X (adM X.K):=by
 intro value slice pins s σ H x y v u Q I rx ry h hs
 obtain⟨p,xs,i,z,rfl,rfl,hq,he,q⟩:=h
 cases rx
 obtain⟨t,rfl⟩:=ry
 obtain⟨its,r,pl,hz⟩:=I.list hq
 obtain⟨j,h1,h2,h3,h4,h5⟩:=aaz he
 obtain⟨w,ew,rw'⟩:=r.get h2
 have hl:=r.length
 have hn:=qh
 have fin:EP X pins σ Q w s:=⟨z,H,I,rw',q⟩
 by_cases h0:0<=i
 ·have hj:i.toNat=j:=by
   rw [seqIndex_of h0 h5] at h1
   exact Option.some.inj h1
  exact item_listR pl.isList h0 (by omega) (by rw [hj];simpa using ew) fin hs
 ·have hj:(i+(its.toArray.size:Int)).toNat=j:=by
   rw [seqIndex_neg (by omega) h4] at h1
   rw [aid,<- hl]
   exact Option.some.inj h1
  exact subscriptTail_builtinR (x:=w) pl.isList.typeIs slot_list_getitem.lookup
   (wpAny_getItem_list_neg (Q:=fun r s'=>r=w/\EP X pins σ Q r s') pl.isList (by omega) (by rw [aid] <;> omega) (by omega) (by rw [hj];simpa using ew) ⟨rfl,fin⟩) hs
theorem ago:IxR X (aeY X.K):=by
 intro value slice pins s σ H x y v u Q I rx ry h hs
 obtain⟨p,xs,i,z,rfl,rfl,hq,he,q⟩:=h
 cases rx
 obtain⟨t,rfl⟩:=ry
 obtain⟨its,r,pl,hz⟩:=I.tuple hq
 obtain⟨j,h1,h2,h3,h4,h5⟩:=aaz he
 obtain⟨w,ew,rw'⟩:=r.get h2
 have hl:=r.length
 have hn:=qh
 have fin:EP X pins σ Q w s:=⟨z,H,I,rw',q⟩
 exact subscriptTail_builtinR (x:=w) pl.typeIs slot_tuple_getitem.lookup
  (getItem_tuple (j:=j) (Q:=fun r s'=>r=w/\EP X pins σ Q r s') pl (by omega) (by omega) (by rw [aid,<- hl];exact h1) (by simpa using ew) ⟨rfl,fin⟩) hs
theorem abD:IxR X ahi:=by
 intro value slice pins s σ H x y v u Q I rx ry h hs
 obtain⟨z,i,c,rfl,rfl,hz,he,q⟩:=h
 obtain⟨t,rfl⟩:=rx
 obtain⟨t',rfl⟩:=ry
 obtain⟨j,h1,h2,h3,h4,h5⟩:=aaz he
 have hl:z.cps.toList.length=z.length:=by simp [Str.length]
 rw [hl] at h1 h4 h5
 have hn:=qh
 exact tail_any (typeIs_str s z t) slot_str_getitem.lookup (getItem_str (c:=c) (by
  have e1:decide (i < -(2 ^ 63:Int))=false:=decide_eq_false (by omega)
  have e2:decide (i >= 2 ^ 63)=false:=decide_eq_false (by omega)
  rw [e1,e2,Bool.or_false]) (by rw [h1];simpa using h2) ⟨.str ⟨#[c]⟩,H,I.tok _,⟨_,rfl⟩,q⟩) hs
theorem abE (its:List Value) (n j:Nat) (u:Value):akv (·.setIfInBounds j u) { cls:=.type "list",data:=.seq its.toArray n }={ cls:=.type "list",data:=.seq (its.set j u).toArray n }:=by
 simp [akv]
theorem Inv.lst {pins:List (Addr×Obj)} {σ:St} {H:Hp} {s:Shared} {p:Addr} {xs:List V} (I:Inv X pins σ H s) (h:H p=some (.lst xs)) :
  ∃ (its:List Value) (n:Nat),Vals xs its/\s.heap.get? p=some { cls:=.type "list",data:=.seq its.toArray n }/\xs.length<=sizeLine:=by
 obtain⟨z,its,n,r,e⟩:=I.hok p _ h
 exact⟨its,n,r,e,z⟩
theorem Inv.lstUpd {pins:List (Addr×Obj)} {σ:St} {H:Hp} {s:Shared} {p:Addr} {xs ys:List V} {its its':List Value} {n n':Nat} {f:Obj->Obj} (I:Inv X pins σ H s) (h:H p=some (.lst xs))
  (ho:s.heap.get? p=some { cls:=.type "list",data:=.seq its.toArray n }) (hf:f { cls:=.type "list",data:=.seq its.toArray n }={ cls:=.type "list",data:=.seq its'.toArray n' }) (r:Vals ys its') (hz:ys.length<=sizeLine) (t:Nat) :
  Inv X pins σ (upd H p (.lst ys)) { s with heap:=s.heap.update p f,toks:=t }:=by
 have e:(s.heap.update p f).get? p=some { cls:=.type "list",data:=.seq its'.toArray n' }:=by
  rw [ai3 f ho (by rw [hf] <;> rfl),hf]
 refine I.write (x:=p) (e:=p) (by rw [h];trivial) (.inl rfl) (fun b u hb q=>(aiu _ _ (aje hb)).trans q) ⟨_,e⟩ ?_
 exact⟨hz,its',n',r,e⟩
noncomputable def aaZ:V->V->V->Hp->(Hp->Prop)->Prop:=fun o i v H Q=>∃ p xs k j,o=.ref p/\i=.int k/\H p=some (.lst xs)/\ixN xs.length k=some j/\Q (upd H p (.lst (xs.set j v)))
theorem set_list:ahd X aaZ:=by
 intro pins s σ H o i v ov iv u Q I ro ri rv h
 obtain⟨p,xs,k,j,rfl,rfl,hp,hj,q⟩:=h
 cases ro
 obtain⟨t,rfl⟩:=ri
 obtain⟨its,n,r,ho,hz⟩:=I.lst hp
 obtain⟨h1,h2,h3,h4⟩:=ace hj
 have hl:=r.length
 have hn:=qh
 have I':Inv X pins σ (upd H p (.lst (xs.set j v))) { s with heap:=s.heap.update p (akv (·.setIfInBounds j u)) } :=
  I.lstUpd hp ho (abE its n j u) (r.set rv j) (by rw [aiV];exact hz) s.toks
 by_cases h0:0<=k
 ·have hk:k.toNat=j:=by
   rw [seqIndex_of h0 h4] at h1
   exact Option.some.inj h1
  exact PySem.W.ki_setAt ho h0 (by omega) (by rw [aid,<- hl];exact h4) (by rw [hk];exact⟨_,I',q⟩)
 ·have hk:(k+(its.toArray.size:Int)).toNat=j:=by
   rw [seqIndex_neg (by omega) h3] at h1
   rw [aid,<- hl]
   exact Option.some.inj h1
  exact PySem.W.ki_setBack ho (by omega) (by rw [aid,<- hl];exact h3) (by omega) (by rw [hk];exact⟨_,I',q⟩)
theorem aaA (lo hi:Option Int) (n:Nat):(sliceBounds lo hi none n).1=((HT.sIx n 0 lo:Nat):Int)/\(sliceBounds lo hi none n).2.1=((HT.sIx n n hi:Nat):Int)/\(sliceBounds lo hi none n).2.2=1:=by
 refine⟨?_,?_,rfl⟩
 ·cases lo with
  | none=>simp [sliceBounds,HT.sIx]
  | some i =>
   simp only [sliceBounds,HT.sIx,Option.getD_none,show (1:Int) > 0 by decide,if_true]
   by_cases h:i<0
   ·simp only [h,if_true] <;> omega
   ·simp only [h,if_false] <;> omega
 ·cases hi with
  | none=>simp [sliceBounds,HT.sIx]
  | some i =>
   simp only [sliceBounds,HT.sIx,Option.getD_none,show (1:Int) > 0 by decide,if_true]
   by_cases h:i<0
   ·simp only [h,if_true] <;> omega
   ·simp only [h,if_false] <;> omega
theorem vY (its:List Value) (lo hi:Option Int):slicePick its.toArray lo hi none=((its.drop (HT.sIx its.length 0 lo)).take (HT.sIx its.length its.length hi - HT.sIx its.length 0 lo)).toArray:=by
 obtain⟨h1,h2,h3⟩:=aaA lo hi its.toArray.size
 unfold slicePick
 rw [h1,h2,h3]
 simp only [sliceRange_one,pick_run,aid] <;> rfl
noncomputable def ae0 (K:ahX):V->Option Int->Option Int->Hp->VK->Prop:=fun x lo hi H Q=>∃ a xs,x=.ref a/\SqL K H a xs/\∀ p,H p=none->Q (.ref p) (upd H p (.lst (abC xs lo hi)))
theorem ae1:SlR X (ae0 X.K):=by
 intro pins s σ H x v vl vu lo hi sl Q I rx hs pl pu h
 obtain⟨a,xs,rfl,hx,q⟩:=h
 cases rx
 obtain⟨its,r,ht,hz⟩:=I.list hx
 have hlen:=r.length
 refine⟨"list",_,slot_list_getitem.lookup,ht.isList.typeIs,?_⟩
 refine wpAny_getItem_list_slice ht.isList hs pl pu .none (by simp) ?_ (by rw [aid] <;> omega)
 rw [vY,<- hlen]
 refine⟨.ref s.heap.objs.size,_,I.laid (t':=s.toks) (o:=.lst (abC xs lo hi)) (fun b ob q=>ah0 _ q) (aie _) ?_,rfl,q _ (I.hok.fresh (aie _))⟩
 exact⟨aih (aaY xs lo hi) hz,_,0,(r.drop (HT.sIx xs.length 0 lo)).take (HT.sIx xs.length xs.length hi - HT.sIx xs.length 0 lo),aik _ rfl⟩
theorem aaB:yn X (.builtin "len") (fun xs H Q=>∃ p ys,xs=[.ref p]/\(SqL X.K H p ys \/ SqT X.K H p ys)/\Q (.int ys.length) H):=by
 intro pins s σ H xs us Q I r h
 obtain⟨p,ys,rfl,hq,q⟩:=h
 obtain⟨u,rfl,rx⟩:=vals1 r
 cases rx
 have hn:=qh
 rcases hq with hq | hq
 ·obtain⟨its,r',pl,hz⟩:=I.list hq
  have hlen:=r'.length
  exact Calls.call_len_list pl.isList (by simp only [aid] <;> omega) ⟨.int ys.length,H,I.tok _,⟨s.toks+1,by rw [aid,hlen]⟩,q⟩
 ·obtain⟨its,r',pl,hz⟩:=I.tuple hq
  have hlen:=r'.length
  exact len_tuple pl (by simp only [aid] <;> omega) ⟨.int ys.length,H,I.tok _,⟨s.toks+1,by rw [aid,hlen]⟩,q⟩
theorem yw:yn X (.builtin "len") (fun xs H Q=>∃ z,xs=[.str z]/\z.length<=sizeLine/\Q (.int z.length) H):=by
 intro pins s σ H xs us Q I r h
 obtain⟨z,rfl,hz,q⟩:=h
 obtain⟨u,rfl,t,rfl⟩:=vals1 r
 have hn:=qh
 exact len_str (by omega) ⟨.int z.length,H,I.tok _,⟨_,rfl⟩,q⟩
noncomputable def tyV (K:ahX) (T:String) (x:V) (H:Hp):Prop:=match x with
 | .str _=>T="str"
 | .int _=>T="int"
 | .ref p=>(T="list"/\∃ xs,SqL K H p xs) \/ (T="tuple"/\∃ o,K.lookup p=some o/\o.cls=.type "tuple"/\o.dict=none) \/
   (T="dict"/\((∃ kvs,H p=some (.dK kvs)) \/ ∃ kvs,H p=some (.dT kvs))) \/ (T="set"/\∃ S n,H p=some (.set S n))
 | _=>False
theorem agp {pins:List (Addr×Obj)} {σ:St} {H:Hp} {s:Shared} {T:String} {x:V} {v:Value} (I:Inv X pins σ H s) (r:RelV x v) (ty:tyV X.K T x H) :
  s.TypeIs v T/\∀ a,v=.ref a->∃ ob,s.heap.get? a=some ob/\ob.dict=none:=by
 cases x with
 | str z =>
  obtain⟨t,rfl⟩:=r
  cases (show T="str" from ty)
  exact⟨typeIs_str s z t,fun _ e=>nomatch e⟩
 | int i =>
  obtain⟨t,rfl⟩:=r
  cases (show T="int" from ty)
  exact⟨typeIs_int s i t,fun _ e=>nomatch e⟩
 | ref p =>
  cases r
  rcases ty with⟨rfl,xs,hq⟩ | ⟨rfl,o,hk,hc,hd⟩ | ⟨rfl,hk⟩ | ⟨rfl,S,n,hk⟩
  ·obtain⟨its,_,pl,_⟩:=I.list hq
   refine⟨pl.isList.typeIs,fun a e=>?_⟩
   cases e
   obtain⟨o,n,e,c,hd,_⟩:=pl
   exact⟨o,e,hd⟩
  ·refine⟨⟨o,I.kIn p o hk,hc⟩,fun a e=>?_⟩
   cases e
   exact⟨o,I.kIn _ o hk,hd⟩
  ·have z:∃ o,s.heap.get? p=some o/\o.ExactDict:=by
    rcases hk with⟨kvs,hk⟩ | ⟨kvs,hk⟩
    ·obtain⟨_,_,_,_,o,_,_,e,ex,_⟩:=I.hok p _ hk
     exact⟨o,e,ex⟩
    ·obtain⟨_,_,_,_,o,_,_,e,ex,_⟩:=I.hok p _ hk
     exact⟨o,e,ex⟩
   obtain⟨o,e,ex⟩:=z
   refine⟨⟨o,e,ex.1⟩,fun a e2=>?_⟩
   cases e2
   exact⟨o,e,ex.2.1⟩
  ·obtain⟨o,_,_,_,e,ex,_⟩:=I.hok p _ hk
   refine⟨⟨o,e,ex.1⟩,fun a e2=>?_⟩
   cases e2
   exact⟨o,e,ex.2.1⟩
 | _=>exact aix ty
noncomputable def tBM (K:ahX) (T:String) (r:V->List V->Hp->VK->Prop) (to:TE) (t:TA):TE:=fun σ H Q=>to σ H fun x H1=>tyV K T x H1/\t σ H1 fun xs H2=>r x xs H2 Q
variable {o e:Expr} {es:List Expr} {to:TE} {t:TA} {name:Str} {apos cpos:Pos} {T id:String} {r:V->List V->Hp->VK->Prop}
theorem jG (pa:PlainAttrs T) (slot:Slot T name id) (hty:typeOf (.builtin id)=pure (.type "method_descriptor")) (hm:MtR X id r) (ho:PE X o to) (ha:PA X (e :: es) t)
  (hbase:attributeBase o name X.env (eval o X.env)=eval o X.env:=by rfl)
  (hfew:((backTo cpos (starEach (e :: es) X.env)).all (fun x=>!x.1) && (backToKw cpos (keywordEach [] X.env)).all (fun x=>x.1.isSome)
   && decide ((e :: es).length+([]:List Keyword).length+(if ([]:List Keyword).isEmpty then 0 else 1)<30))=true:=by rfl)
  (hline:(apos.endLine == cpos.line)=true:=by rfl) (hs:starEach (e :: es) X.env=(false,eval e X.env) :: starEach es X.env:=by rfl) (hplain:(backTo cpos (starEach es X.env)).any (·.1)=false:=by rfl) :
  PE X (.Call (.Attribute o name apos) (e :: es) [] cpos) (tBM X.K T r to t):=by
 intro pins s σ H Q I h
 refine wpAny_Call_method_late hbase hfew hline rfl (thn (ho pins s σ H _ I h) fun v s1 ⟨x,H1,I1,r1,ty,q1⟩=>?_)
 obtain⟨h1,h2⟩:=agp I1 r1 ty
 refine⟨T,id,pa,slot,hty,h1,h2,?_⟩
 have hA:=ha cpos pins s1 σ H1 _ I1 q1
 rw [hs] at hA ⊢
 refine Calls.callWith_builtin (by show (false || (backTo cpos (starEach es X.env)).any (·.1))=false;rw [hplain] <;> rfl) (Calls.evalArgs_plain ?_)
 exact thn hA fun us s2 ⟨vs,H2,I2,r2,q2⟩=>hm pins s2 σ H2 x vs v us Q I2 r1 r2 q2
/- xs.append(e),list.index on a module's tuple .. are MtR facts of 06m -/
end
noncomputable def MtM (X:Cx) (id:String) (r:V->List V->Hp->VK->Prop):Prop :=
 ∀ (pins:List (Addr×Obj)) (s:Shared) (σ:St) (H:Hp) (x:V) (xs:List V) (v:Value) (us:List Value) (Q:VK),Inv X pins σ H s->RelV x v->Vals xs us->r x xs H Q ->
  wpAny (model X.prog X.w) X.A (call (.builtin id) (v :: us)) (EP X pins σ Q) X.xe s
theorem Vals.one:∀ {x:V} {us:List Value},Vals [x] us->∃ u,us=[u]/\RelV x u
 | _,_,.cons r .nil=>⟨_,rfl,r⟩
section
variable {X:Cx} {pins:List (Addr×Obj)} {σ:St} {H:Hp} {s:Shared} {l b:Addr} {xs ys zs:List V}
theorem Inv.lset {its its':List Value} {n:Nat} {f:Array Value->Array Value} {t':Nat} (I:Inv X pins σ H s) (hH:H l=some (.lst xs))
  (e:s.heap.get? l=some { cls:=.type "list",data:=.seq its.toArray n }) (hf:f its.toArray=its'.toArray) (hv:Vals ys its') (hz:ys.length<=sizeLine) :
  Inv X pins σ (upd H l (.lst ys)) { s with heap:=s.heap.update l (akv f),toks:=t' }:=by
 have q:=PySem.IsL.update e f
 rw [hf] at q
 refine I.write (x:=l) (e:=l) (by rw [hH];exact trivial) (.inl rfl) (fun b' u hb hu=>(aiu s.heap (akv f) (aje hb)).trans hu) ⟨_,q⟩ ?_
 exact⟨hz,its',_,hv,q⟩
theorem Inv.lnew {its:List Value} {t':Nat} (I:Inv X pins σ H s) (hv:Vals ys its) (hz:ys.length<=sizeLine) :
  Inv X pins σ (upd H s.heap.objs.size (.lst ys)) { s with heap:=s.heap.push { cls:=.type "list",data:=.seq its.toArray },toks:=t' } :=
 I.laid (fun _ _ q=>ah0 _ q) (aie _) ⟨hz,its,0,hv,aik _ rfl⟩
theorem Inv.fresh (I:Inv X pins σ H s):H s.heap.objs.size=none:=I.hok.fresh (aie _)
theorem Inv.lstM (I:Inv X pins σ H s) (hH:H l=some (.lst xs)):xs.length<=sizeLine/\∃ (its:List Value) (n:Nat),Vals xs its/\xs.length=its.length/\s.heap.get? l=some { cls:=.type "list",data:=.seq its.toArray n }:=by
 obtain⟨z,its,n,r,e⟩:=I.hok l _ hH
 exact⟨z,its,n,r,r.length,e⟩
end
section
variable {X:Cx}
noncomputable def acf:V->List V->Hp->VK->Prop:=fun x vs H Q=>∃ l xs y,x=.ref l/\vs=[y]/\H l=some (.lst xs)/\xs.length<sizeLine/\Q .non (upd H l (.lst (xs++[y])))
theorem j5:MtM X "list.append" acf:=by
 intro pins s σ H x vs v us Q I rx rv h
 obtain⟨l,xs,y,rfl,rfl,hH,hz,q⟩:=h
 cases rx
 obtain⟨u,rfl,ru⟩:=rv.one
 obtain⟨z,its,n,r,hl,e⟩:=I.lstM hH
 refine call_meets F.slot_list_append ⟨_,e,rfl⟩ akU (akM _ _) (PySem.list_append l its.toArray n u (by rw [aid];omega)) ⟨e,?_⟩
 refine⟨.non,_,I.lset (its':=its++[u]) hH e (by simp) (r.append (.cons ru .nil)) ?_,rfl,q⟩
 rw [aij,akG]
 omega
end
end L2
namespace Att
open PySem PySem.W PySem.Calls PyProof.Rows
theorem qZ {P:Params} {h:Heap}:∀ (ns:List Int) (vs:List Value),WellAll P h vs (ns.map WData.int)->IntsAre vs ns:=by
 intro ns
 induction ns with
 | nil =>
  intro vs w
  rw [List.map_nil] at w
  cases w
  exact .nil
 | cons n ns ih =>
  intro vs w
  rw [ajb] at w
  cases w with
  | cons a b =>
   cases a
   exact .cons _ _ (ih _ b)
theorem acR {l:OpenLaw} {n:Nat} (hn:l.most=some n) {P:Params} {h:Heap} {args:List WData} {vals:List Value}
  (hpre:l.row.toRowW.claim.pre args=true) (hwl:WellAll P h vals args) :
  ∃ a vs ns,vals=[Value.ref a]/\args=[WData.list (ns.map WData.int)]/\h.get? a=some { cls:=.type "list",data:=.seq vs.toArray }/\IntsAre vs ns/\ns.length<=n:=by
 have hsh:WShape.hasAll [] args [.list .int]=true:=(pre_splitW hpre).1
 have hc:l.pre.holds [] { args:=args }=true:=(pre_splitW hpre).2
 obtain⟨d,r,rfl,h1,h2⟩:=hasAllW_cons hsh
 obtain rfl:=hasAllW_nil h2
 obtain⟨xs,rfl,h3⟩:=hasW_list h1
 obtain⟨ns,rfl⟩:=items_int h3
 have hlen:ns.length<=n:=by
  unfold OpenLaw.pre at hc
  have h4:(WTm.not (.lt (.lit (.int (n:Int))) (.len (.arg 0)))).holds [] { args:=[.list (ns.map .int)] }=true:=by
   have h4:=(holds_andW hc).1
   rw [hn] at h4
   exact h4
  have h5:=condW_of h4 (w_not (w_lt w_lit (w_len_list (w_arg rfl))))
  rw [ahZ] at h5
  refine Nat.le_of_not_lt fun q=>?_
  have q':(n:Int)<((ns.length:Nat):Int):=by omega
  first
   | (rw [decide_eq_true q'] at h5;exact absurd h5 (by decide))
   | (simp at h5;omega)
 cases hwl with
 | cons w1 w2 =>
  cases w2
  cases w1 with
  | list ho hall=>exact⟨_,_,ns,rfl,rfl,ho,qZ ns _ hall,hlen⟩
theorem acS (l:OpenLaw) (args:List WData):l.row.toRowW.claim.post args (.bool true) args=true :=
 postW_of (r:=l.row.toRowW) (X:=(true == true))
  (show WShape.has [] (.bool true) .bool=true by first | rfl | decide | simp [WShape.has,WShape.arms,WShape.armsAll])
  (show (WTm.eq .res (.lit (.bool true))).value [] { args:=args,res:=some (.bool true),after:=args }=some (.bool (true == true)) from w_eq_bool (w_res rfl) w_lit) rfl
theorem attach_call {l:OpenLaw} {n:Nat} {q:Program} {loose:List Str} {XP:(Str->Option Value)->Heap->Prop} {YP:World->Heap->Prop} {d:DefRec}
  (hn:l.most=some n) (hdf:d.params.defaults=[])
  (call:∀ (w:World) (s₀ s₁:Shared) (mg mb:Str->Option Value) (fa:Addr) (o:Obj) (pm cd doc:Value) (a:Addr) (vs:List Value) (ns:List Int),
   Ground q loose [] XP w s₀ mg mb s₁.heap->YP w s₁.heap ->
   s₁.heap.get? fa=some o->o.data=.func (docDef d.name d.params d.body d.scope pm cd doc)->s₁.heap.CodeRec cd d.name->mg d.name=some (.ref fa) ->
   s₁.heap.get? a=some { cls:=.type "list",data:=.seq vs.toArray }->IntsAre vs ns->ns.length<=n->s₁.gens=#[] ->
   codeAny (model l.prog w) callerA (.call (.ref fa) ⟨[.ref a],[]⟩) (fun r s'=>r=.ok (.ret (.bool true))/\OldK s₁.heap s'.heap/\s'.os=s₁.os/\AllBare s'.gens) s₁) :
  WalkO q loose XP YP l.row.toRowW d [] (fun f vs=>PySem.call f vs):=by
 intro w s₀ s₁ mg mb G Y fa o pm cd doc dV kV ho hd hcd hD hmg hg args vals as hpre hlay hrd hwl hlo
 obtain rfl:dV=.none:=Dflts.none hD hdf
 obtain rfl:kV=.none:=Dflts.noKw hD
 obtain⟨a,vs,ns,rfl,rfl,hobj,hints,hlen⟩:=acR hn hpre hwl
 refine enter_call (codeAny_mono (call w s₀ s₁ mg mb fa o pm cd doc a vs ns G Y ho (fd_plain hd) hcd hmg hobj hints hlen hg) fun r s' hq=>?_)
 obtain⟨rfl,h2,h3,h4⟩:=hq
 exact⟨.inl ⟨.bool true,.bool true,[],rfl,fun _=>rfl,.bool true,acS l _,fun _=>⟨List.Pairwise.nil,fun _ hm=>(nomatch hm)⟩⟩,h2,h3,h4⟩
section
variable {prog:Program} {w:World} {A:Around} {E:Value->Shared->Prop} {s:Shared} {K:Frag}
noncomputable def vx (h:Heap):Heap:={ h with objs:=#[] }
theorem qi (h:Heap) (b:Addr):(vx h).get? b=none:=by
 cases e:(vx h).get? b with
 | none=>rfl
 | some o=>exact absurd (ah4 e) (ajI _)
noncomputable def ledger (h:Heap) (L d:Addr):List (Addr×Obj):=(aj9 h.objs.size).filterMap fun a=>if a=L \/ a=d then none else (h.get? a).map fun o=>(a,o)
theorem mem_ledger {h:Heap} {L d a:Addr} {o:Obj}:(a,o)∈ledger h L d↔a≠L/\a≠d/\h.get? a=some o:=by
 unfold ledger
 rw [ajK]
 constructor
 ·rintro⟨b,_,e⟩
  split at e
  ·cases e
  ·rename_i hb
   obtain⟨o',ho,e'⟩:=Option.map_eq_some_iff.mp e
   cases e'
   exact⟨fun q=>hb (.inl q),fun q=>hb (.inr q),ho⟩
 ·rintro⟨n1,n2,ho⟩
  refine⟨a,ajw.mpr (ah4 ho),?_⟩
  rw [if_neg (show ¬ (a=L \/ a=d) from fun q=>q.elim n1 n2),ho] <;> rfl
theorem aa0 {h:Heap} {L d:Addr} {od:Obj} (hne:d≠L) (ho:h.get? d=some od):News (vx h) L h ([]++(d,od) :: ledger h L d):=by
 rintro⟨a,o⟩ hp
 rcases ah7.mp hp with e | hp
 ·cases e
  exact⟨ho,hne,qi _ _⟩
 ·obtain⟨n1,n2,e⟩:=mem_ledger.mp hp
  exact⟨e,n1,qi _ _⟩
theorem agq {h:Heap} {L:Addr} {m:Str->Option Value} (n:h.Ns L m):Fr (vx h) L h m :=
 ⟨n,fun b o e=>(by rw [qi] at e;cases e),ajl _⟩
theorem aag {x C dx L:Addr} {ox:Obj} {m:Str->Option Value} {es es':List DictEntry} {n n':Nat} {name:Str} {v:Value} {Q:Unit->Shared->Prop}
  (X:K.In s.heap) (I:PySem.W.InstAt s.heap x ox C (some (dictOf es n))) (hd:ox.dict=some dx) (hL:s.heap.Ns L m) (hne:dx≠L)
  (hs:findIn K (.ref C) "__setattr__"=some (some (.builtin "object.__setattr__"))) (hp:plainOver K C=true) (ht:takerIn K C name=some none) (hh:hasDictIn K C=true) (hl:(getL name es).isSome=true)
  (e:(putL name (PyData.keyHash w.params name) (.str name (s.toks+1)) v es,putN name es n)=(es',n')) (hz:es'.length<=1000)
  (h:∀ h':Heap,h'.Ns L m->h'.get? dx=some (dictOf es' n')->(∀ b o,b≠dx->b≠L->s.heap.get? b=some o->h'.get? b=some o)->Q () { s with heap:=h',toks:=s.toks+2 }) :
  wpAny (model prog w) A (setAttr (.ref x) name v) Q E s:=by
 obtain⟨e1,e2⟩:=Prod.mk.inj e
 have hdx:s.heap.get? dx=some (dictOf es n):=by
  have:=I.dict
  rw [hd] at this
  exact this
 refine set_plain X I hs (osa_dict (s:={ s with toks:=s.toks+1 }) (h₀:=vx s.heap) (L:=L) (m:=m) (od:=dictOf es n) (od':=dictOf es' n') (es:=es') (n:=n') (pre:=[]) (post:=ledger s.heap L dx)
  (agq hL) (aa0 hne hdx) X I hd hp ht hh hl (fun _ q=>nomatch q) (fun⟨_,_⟩ q=>(mem_ledger.mp q).2.1) (by rw [putName_dict,e1,e2]) rfl hz fun h' F' N'=>?_)
 exact h h' F'.ns (N'.get (List.Mem.head _)) fun b o n1 n2 ho=>N'.get (List.Mem.tail _ (mem_ledger.mpr ⟨n2,n1,ho⟩))
end
end Att
namespace L2
open PySem PySem.Spec PyProof.Rows
theorem aah:∀ {vs:List Value} {ns:List Int},IntsAre vs ns->Vals (ns.map V.int) vs
 | _,_,.nil=>.nil
 | _,_,.cons n t h=>.cons ⟨t,rfl⟩ (aah h)
noncomputable def agr (H:Hp):Prop:=∀ b,H b=none \/ ∃ o xs,H b=some (.frz o (.lst xs))
theorem adN {P:Program} {w:World} {K:ahX} {mg mb:Str->Option Value} {CX:CXT} {k:Nat} {fa a:Addr} {fd:FuncData} {x:Str} {sp:Sp} {s₁:Shared} {vs:List Value} {ns:List Int}
  (KX:K.In s₁.heap) (hns:s₁.heap.Ns mainGlobals mg) (hb:s₁.heap.Ns builtinsNs mb) (hbb:∀ x:Str,x ≠ "__name__"->mb x=bootBuiltins x) (hlim:s₁.heap.NoLimit) (hg:s₁.gens=#[])
  (ha:s₁.heap.get? a=some { cls:=.type "list",data:=.seq vs.toArray }) (hi:IntsAre vs ns) (hl:ns.length<=sizeLine) (hr:Room k callerA)
  (F:∀ base:Heap,K.In base->base.Ns mainGlobals mg->FnOk P w K mg base CX k fa fd [x] sp) (hbind:∀ (s:Shared) (u:Value),BindsTo s fd ⟨[u],[]⟩ [(x,u)])
  (hsp:∀ H:Hp,agr H->SqL K H a (ns.map V.int)->sp [.ref a] H (fun v _=>v=.bl true) fun _ _ _=>False)
  (hCX:∀ H e s',CX [] H s₁ (fun _ _ _=>False) e s'->False) :
  codeAny (model P w) callerA (.call (.ref fa) ⟨[.ref a],[]⟩) (fun r s'=>r=.ok (.ret (.bool true))/\OldK s₁.heap s'.heap/\s'.os=s₁.os/\AllBare s'.gens) s₁:=by
 have rv:=aah hi
 have lenV:=hi.length
 -- from an abstract heap in which nothing but the script may be tracked
 have core:∀ H:Hp,agr H->SqL K H a (ns.map V.int)->HOk P w H s₁.heap->(∀ b,H b≠none->b=a)->(H a≠none->K.lookup a=none) ->
   codeAny (model P w) callerA (.call (.ref fa) ⟨[.ref a],[]⟩) (fun r s'=>r=.ok (.ret (.bool true))/\OldK s₁.heap s'.heap/\s'.os=s₁.os/\AllBare s'.gens) s₁:=by
  intro H hO hS hok hA hK
  have base_of:∀ {b:Addr} {o:Obj},s₁.heap.get? b=some o->H b=none->(aau s₁.heap H).get? b=some o:=fun e n=>adt e n
  have noA:∀ {b:Addr} {o:Obj} {es:Array DictEntry} {ep:Nat},s₁.heap.get? b=some o->o.data=.dict es ep->H b=none:=fun {b o es ep} e d=>by
   cases q:H b with
   | none=>rfl
   | some u =>
    have e':b=a:=hA b (by rw [q];simp)
    subst e'
    rw [ha] at e;cases e
    have d':Data.seq vs.toArray _=Data.dict es ep:=d
    cases d'
  have nsK:∀ {b:Addr} {m:Str->Option Value},s₁.heap.Ns b m->(aau s₁.heap H).Ns b m:=fun {b m} ⟨o,es,ep,e,d,r⟩=>⟨o,es,ep,base_of e (noA e d),d,r⟩
  have hKb:K.In (aau s₁.heap H):=fun b o e=>base_of (KX b o e) (by
   cases q:H b with
   | none=>rfl
   | some u =>
    have e':b=a:=hA b (by rw [q];simp)
    subst e'
    rw [hK (by rw [q];simp)] at e;cases e)
  have hM:Mod K mg (aau s₁.heap H):=⟨hKb,nsK hns,⟨mb,nsK hb,hbb⟩,let⟨mc,h1,h2⟩:=hlim;⟨mc,nsK h1,h2⟩⟩
  have e0:Env0 P w K mg (aau s₁.heap H) callerA [] s₁ H:=⟨rfl,hM,fun b o e=>aeP e,ajO (acJ _ _),trivial,fun b hb=>absurd (show b∈([]:List Addr) from hb) (by simp),hok,.of_eq hg⟩
  refine codeAny_mono ((F _ hKb (nsK hns)).run callerA [] s₁ H ⟨[.ref a],[]⟩ [.ref a] [.ref a] _ _ hr e0 (hbind s₁ (.ref a)) (.cons rfl .nil) (hsp H hO hS)) fun r s' h=>?_
  cases r with
  | error e=>exact (hCX H e s' h).elim
  | ok fl =>
   cases fl with
   | next=>exact aix h
   | brk=>exact aix h
   | cont=>exact aix h
   | ret u =>
    obtain⟨v,H',os,bare,un,hok',r',q⟩:=h
    have q':v=.bl true:=q
    subst q'
    obtain rfl:u=Value.bool true:=r'
    refine⟨rfl,OldK.of_keep fun b o e=>?_,os,bare⟩
    cases q:H b with
    | none=>exact un.keep b o e q (by intro z;exact absurd (show b∈([]:List Addr) from z) (by simp)) (by simp)
    | some u =>
     rcases hO b with z | ⟨ob,xs,z⟩
     ·rw [q] at z;cases z
     ·have z2:=un.frzs b ob _ z
      obtain⟨e1,_⟩:=hok b _ z
      obtain⟨e2,_⟩:=hok' b _ z2
      rw [e] at e1;cases e1
      exact e2
 cases hk:K.lookup a with
 | some o =>
  -- the script is one of the module's own objects
  have e:=KX a o hk
  rw [ha] at e
  cases e
  refine core (fun _=>none) (fun _=>.inl rfl) (.inr ⟨_,vs.toArray,_,hk,rfl,rfl,rfl,by rw [aid,lenV];exact hl,by simpa using rv⟩) (fun b u z=>by have z':(none:Option HO)=some u:=z;cases z') (fun b z=>absurd rfl z) fun z=>absurd rfl z
 | none =>
  refine core (fun b=>if b=a then some (.frz { cls:=.type "list",data:=.seq vs.toArray } (.lst (ns.map V.int))) else none) (fun b=>?_) (.inl (.inr ⟨{ cls:=.type "list",data:=.seq vs.toArray },if_pos rfl⟩)) (fun b u z=>?_) (fun b z=>?_) fun _=>hk
  ·by_cases hb:b=a
   ·exact .inr ⟨_,_,if_pos hb⟩
   ·exact .inl (if_neg hb)
  ·by_cases hb:b=a
   ·have z':=(if_pos hb).symm.trans z
    cases z'
    subst hb
    exact⟨ha,by rw [ahZ];exact hl,vs,_,rv,ha⟩
   ·have z':=(if_neg hb).symm.trans z
    cases z'
  ·by_cases hb:b=a
   ·exact hb
   ·exact absurd (if_neg hb) z
noncomputable abbrev KOf {K:ahX} {h:Heap} (_:K.In h):ahX:=K
theorem walk_of {l:PySem.W.OpenLaw} {n k:Nat} {q:Program} {loose:List Str} {XP:(Str->Option Value)->Heap->Prop} {YP:World->Heap->Prop} {d:DefRec} {K:Params->ahX} {CX:World->CXT} {sp:World->Sp} {x:Str}
  (hn:l.most=some n) (hn2:n<=sizeLine) (hdf:d.params.defaults=[]) (hr:Room k callerA)
  (hY:∀ (w:World) (h:Heap),YP w h->(K w.params).In h)
  (F:∀ (w:World) (mg:Str->Option Value) (fa:Addr) (h:Heap),(K w.params).In h->h.Ns mainGlobals mg->mg d.name=some (.ref fa) ->
   ∃ fd:FuncData,(∀ (s:Shared) (u:Value),BindsTo s fd ⟨[u],[]⟩ [(x,u)]) /\
    ∀ base:Heap,(K w.params).In base->base.Ns mainGlobals mg->FnOk l.prog w (K w.params) mg base (CX w) k fa fd [x] (sp w))
  (hsp:∀ (w:World) (H:Hp) (a:Addr) (ns:List Int),ns.length<=n->agr H->SqL (K w.params) H a (ns.map V.int)->sp w [.ref a] H (fun v _=>v=.bl true) fun _ _ _=>False)
  (hCX:∀ (w:World) (H:Hp) (s:Shared) (e:Value) (s':Shared),CX w [] H s (fun _ _ _=>False) e s'->False) :
  PySem.W.WalkO q loose XP YP l.row.toRowW d [] (fun f vs=>PySem.call f vs):=by
 refine Att.attach_call hn hdf fun w s₀ s₁ mg mb fa o pm cd doc a vs ns G Y ho hd hcd hmg hobj hints hlen hg=>?_
 have KX:=hY w _ Y
 obtain⟨fd,hb,hF⟩:=F w mg fa _ KX G.T.g hmg
 exact adN KX G.T.g G.T.b G.T.builtins G.T.nolimit hg hobj hints (aih hlen hn2) hr hF hb (fun H hO hS=>hsp w H a ns hlen hO hS) fun H e s'=>hCX w H s₁ e s'
end L2
/- THE LAST THEOREM (shape;LID,My.* are yours):
   My.Adr: a structure of the addresses that your layer names (classes,functions);My.Txt K t: a structure (Prop) of the equations over K;
   My.txt_mk:{K} {implicit addresses ..} (e1:nsIn K mainGlobals "law"=some (some (.ref f))) (e2:K.lookup f=some ⟨oc,od,.func (fnOf "law" "law" params body scope dV kV doc pm an cdv ct),sl⟩) (e3:codeIn K cdv "law"=true) ..:∃ t,My.Txt K t
set_option maxRecDepth 100000 in
set_option maxHeartbeats 0 in
theorem PySem.Challenge.cw_LID_holds : PySem.Challenge.rw_LID.Holds := by
 w_on;o_law;k_head;(case hw=>w_witness2)
 k_fill
 refine L2.walk_of (l:=PySem.Challenge.rw_LID) (n:=63) (k:=40) (x:="script") (CX:=fun w=>..) (sp:=fun _=>My.sp_law) rfl (by decide) rfl ⟨rfl,by decide,by decide⟩ (fun w h Y=>PySem.W.kIn_of Y) ?F ?S ?C
 case F =>
  intro w mg fa h KX G hmg
  have T:∃ t,My.Txt (L2.KOf KX) t:=by
   dsimp only [L2.KOf]                          -- K must stand as «<heap const> w.params» for k_is
   refine' My.txt_mk ?e1 ?e2 ?e3 ..
   (case e1=>PySem.W.k_is)                    -- in the order: a name->its address->its object->its parts
   (case e2=>PySem.W.k_is)
   ..
  obtain⟨t,T⟩:=T
  have e0:=hmg.symm.trans (aio KX G T.law)
  cases e0                                       -- fa is the law's own address
  exact⟨_,fun s u=>.of_eq rfl,fun base kb nb=>My.law_fn T kb nb⟩     -- if «.of_eq rfl» comes too early: refine' ⟨_,?b,fun base kb nb=>My.law_fn T kb nb⟩;exact fun s u=>.of_eq rfl
 case S=>exact fun w H a ns hl hO hS=>..
 case C=>exact ..
(the tactic k_is has no namespace: write k_is) -/
namespace L2
open PySem PySem.Spec PyProof.Rows
noncomputable def yx (s:Stmt):Arguments:=match s with
 | .FunctionDef _ a _ _ _ _ _ _ _ _=>a
 | _=>{ posonlyargs:=[],args:=[],vararg:=none,kwonlyargs:=[],kw_defaults:=[],kwarg:=none,defaults:=[] }
noncomputable def zW (s:Stmt):List Stmt:=match s with
 | .FunctionDef _ _ b _ _ _ _ _ _ _=>b
 | _=>[]
noncomputable def zg (s:Stmt):Scope:=match s with
 | .FunctionDef _ _ _ _ _ _ sc _ _ _=>sc
 | _=>{ kind:=.function,names:=[],isGenerator:=false,isCoroutine:=false }
noncomputable abbrev CX0:CXT:=fun _ _ _ _ _ _=>False
noncomputable abbrev E0:XK:=fun _ _ _=>False
theorem afT {X:Cx}:Passes CX0 X E0:=fun _ _ _ _ _ _ _ h=>h.elim
structure Fun (K:ahX) (x qual:Str) (st:Stmt) (f:Addr) (fd:FuncData):Prop where
 ex:∃ (oc:Value) (od:Option Addr) (kV doc pm:Value) (an:Option Addr) (cdv ct:Value) (osl:Array (Option Value)),
  fd=aiG x qual (yx st) (zW st) (zg st) .none kV doc pm an cdv ct/\K.lookup f=some ⟨oc,od,.func fd,osl⟩/\ajh K cdv qual=true
 kp:aip K (.ref f)=true
section
variable {P:Program} {w:World} {K:ahX} {mg:Str->Option Value} {base:Heap}
theorem Fun.ok {x qual:Str} {st:Stmt} {f:Addr} {fd:FuncData} {N ps:List Str} {k:Nat} {sp:Sp} (F:Fun K x qual st f fd) (S:FnScope N ps (zg st)) (len:∀ vs H Q E,sp vs H Q E->vs.length=ps.length)
  (hbody:∀ (cdv:Value) (A:Around) (outer:List Env) (s:Shared) (H:Hp) (vs:List V) (Q:VK) (E:XK),Room k (A.deeper (envOfC qual (zg st) s.heap.objs.size f cdv))->sp vs H Q E ->
   ∃ t,PSs (zO CX0 P w K mg base N qual (zg st) f cdv A outer s H E).nox (zW st) t/\t { nx:=fun _ H'=>Q .non H',rt:=Q } (start N vs) H):FnOk P w K mg base CX0 (k+1) f fd ps sp:=by
 obtain⟨oc,od,kV,doc,pm,an,cdv,ct,osl,rfl,lk,hcd⟩:=F.ex
 refine afR lk hcd S len fun A outer s H vs Q E hr hsp=>?_
 obtain⟨t,h,q⟩:=hbody cdv A outer s H vs Q E hr hsp
 exact⟨t,h.nox,q⟩
theorem Fun.binds {x qual:Str} {st:Stmt} {f:Addr} {fd:FuncData} {ps:List Str} (F:Fun K x qual st f fd)
  (h:∀ (kV doc pm:Value) (an:Option Addr) (cdv ct:Value) (us:List Value),us.length=ps.length->bindArgs (aiG x qual (yx st) (zW st) (zg st) .none kV doc pm an cdv ct) ⟨us,[]⟩=pure (ps.zip us)):Binds K fd ps []:=by
 obtain⟨oc,od,kV,doc,pm,an,cdv,ct,osl,rfl,lk,hcd⟩:=F.ex
 exact .all (h kV doc pm an cdv ct)
theorem vy {x qual:Str} {st:Stmt} {f:Addr} {oc:Value} {od an:Option Addr} {osl:Array (Option Value)} {kV doc pm cdv ct:Value} (l:K.lookup f=some ⟨oc,od,.func (aiG x qual (yx st) (zW st) (zg st) .none kV doc pm an cdv ct),osl⟩)
  (c:ajh K cdv qual=true) (k:aip K (.ref f)=true):Fun K x qual st f (aiG x qual (yx st) (zW st) (zg st) .none kV doc pm an cdv ct):=⟨⟨oc,od,kV,doc,pm,an,cdv,ct,osl,rfl,l,c⟩,k⟩
end
theorem yC {n:Nat} (h:n<=1000):n<sizeLine:=Nat.lt_of_le_of_lt h (by decide)
section
variable {X:Cx}
theorem pv (i:Nat) {x:Str} {pos:Pos} (hN:X.N[i]?=some x:=by rfl) (hv:Vis X.env.scope x:=by first | exact Or.inl rfl | exact Or.inr (Or.inl rfl) | exact Or.inr (Or.inr rfl)) (hd:(x == ("__debug__":Str))=false:=by decide)
  (hcd:(x == ("__classdict__":Str))=false:=by decide):PE X (.Name x pos) (je i):=agg hN hv hd hcd
end
noncomputable def Same (H H':Hp):Prop:=∀ b o,H b=some o->H' b=some o
theorem Same.refl (H:Hp):Same H H:=fun _ _ h=>h
theorem Same.trans {H H1 H2:Hp} (a:Same H H1) (b:Same H1 H2):Same H H2:=fun c o h=>b c o (a c o h)
theorem Same.free {H H':Hp} (e:Same H H') {l:Addr} (h:H' l=Option.none):H l=Option.none:=by
 cases q:H l with
 | none=>rfl
 | some o =>
  rw [e l o q] at h
  cases h
theorem Same.seq {K:ahX} {H H':Hp} {a:Addr} {xs:List V} (e:Same H H') (h:SqL K H a xs):SqL K H' a xs:=by
 rcases h with (h | ⟨o,h⟩) | h
 ·exact .inl (.inl (e _ _ h))
 ·exact .inl (.inr ⟨o,e _ _ h⟩)
 ·exact .inr h
noncomputable def zQ (env:Env):List (Str×NameKind)->List (Str×Addr)->List (Str×Addr)
 | [],acc=>acc
 | (x,k) :: r,acc=>if k == .free then zQ env r ((x,(env.cells.lookup x).getD 0) :: acc) else zQ env r acc
theorem abF {sc:Scope} {env:Env} (h:∀ x,(x,NameKind.free)∈sc.names->∃ c,env.cells.lookup x=some c):closureFor sc env=pure (zQ env sc.names []):=by
 have key:∀ (names:List (Str×NameKind)) (acc:List (Str×Addr)),(∀ x,(x,NameKind.free)∈names->∃ c,env.cells.lookup x=some c) ->
   (forIn names acc fun (x:Str×NameKind) (cs:List (Str×Addr))=>if (x.2 == NameKind.free)=true then (do let c <- cellOf env x.1;pure (ForInStep.yield ((x.1,c) :: cs))) else pure (ForInStep.yield cs))=(pure (zQ env names acc):Sem (List (Str×Addr))):=by
  intro names
  induction names with
  | nil=>intro acc _;rfl
  | cons p r ih =>
   intro acc hh
   obtain⟨x,k⟩:=p
   rw [List.forIn_cons]
   unfold zQ
   by_cases hk:(k == NameKind.free)=true
   ·have hk':k=.free:=by simpa using hk
    subst hk'
    obtain⟨c,hc⟩:=hh x aic
    simp only [beq_self_eq_true,if_true]
    rw [<-ih _ fun y hy=>hh y (ah3 _ hy)]
    have:cellOf env x=pure c:=by unfold cellOf;rw [hc]
    rw [this,hc]
    rfl
   ·simp only [hk,Bool.false_eq_true,if_false]
    rw [<-ih _ fun y hy=>hh y (ah3 _ hy)]
    rfl
 simp only [closureFor]
 have q:=key sc.names [] h
 refine Eq.trans ?_ (Eq.trans (congrArg (fun z=>z >>= fun r=>pure r) q) ?_)
 ·rfl
 ·rfl
theorem ju {env:Env}:∀ {names:List (Str×NameKind)} {acc:List (Str×Addr)} {p:Str×Addr},p∈zQ env names acc->p∈acc \/ ((p.1,NameKind.free)∈names/\p.2=(env.cells.lookup p.1).getD 0)
 | [],acc,p,h=>.inl h
 | (x,k) :: r,acc,p,h=>by
  unfold zQ at h
  split at h
  ·rename_i hk
   have hk':k=.free:=by simpa using hk
   subst hk'
   rcases ju h with q | ⟨q,e⟩
   ·rcases ah7.mp q with q | q
    ·subst q;exact .inr ⟨aic,rfl⟩
    ·exact .inl q
   ·exact .inr ⟨ah3 _ q,e⟩
  ·rcases ju h with q | ⟨q,e⟩
   ·exact .inl q
   ·exact .inr ⟨ah3 _ q,e⟩
theorem jH {α:Type}:∀ {l:List (Str×α)} {x:Str} {v:α},(x,v)∈l->∃ u,l.lookup x=some u
 | (y,u) :: r,x,v,h=>by
  rw [ais]
  cases hb:x == y with
  | true=>exact⟨u,rfl⟩
  | false =>
   rcases ah7.mp h with e | h
   ·have:x=y:=congrArg Prod.fst e
    subst this
    simp at hb
   ·exact jH h
theorem qj {env:Env}:∀ {names:List (Str×NameKind)} {acc:List (Str×Addr)} {x:Str},(x,NameKind.free)∈names->(x,(env.cells.lookup x).getD 0)∈zQ env names acc
 | (y,k) :: r,acc,x,h=>by
  have mono:∀ (names:List (Str×NameKind)) (acc:List (Str×Addr)) (p:Str×Addr),p∈acc->p∈zQ env names acc:=by
   intro names
   induction names with
   | nil=>intro acc p hp;exact hp
   | cons q r ih =>
    intro acc p hp
    obtain⟨a,b⟩:=q
    unfold zQ
    split
    ·exact ih _ _ (ah3 _ hp)
    ·exact ih _ _ hp
  unfold zQ
  rcases ah7.mp h with e | h
  ·cases e
   simp only [beq_self_eq_true,if_true]
   exact mono _ _ _ aic
  ·split
   ·exact qj h
   ·exact qj h
theorem qb {env:Env} {names:List (Str×NameKind)} {x:Str} {c:Addr} (h:∀ x,(x,NameKind.free)∈names->∃ c,env.cells.lookup x=some c) (e:(zQ env names []).lookup x=some c):env.cells.lookup x=some c/\(x,NameKind.free)∈names:=by
 rcases ju (mem_of_lookup e) with q | ⟨q,e'⟩
 ·cases q
 ·obtain⟨c',hc⟩:=h _ q
  dsimp only at hc e'
  rw [hc] at e'
  exact⟨by rw [hc];exact congrArg some e'.symm,q⟩
theorem qT {env:Env} {names:List (Str×NameKind)} {x:Str} {c:Addr} (h:∀ x,(x,NameKind.free)∈names->∃ c,env.cells.lookup x=some c) (hx:(x,NameKind.free)∈names) (e:env.cells.lookup x=some c):(zQ env names []).lookup x=some c:=by
 obtain⟨u,hu⟩:=jH (qj (env:=env) (acc:=[]) hx)
 have:=(qb h hu).1
 rw [this] at e
 rw [hu,e]
theorem yD:∀ {names:List (Str×NameKind)} {n:Nat} {acc:List (Str×Addr)} {x:Str} {c:Addr},(cellsFrom n names acc).lookup x=some c->(n<=c/\c<n+names.length/\(x,NameKind.cell)∈names) \/ (acc.lookup x=some c/\(x,NameKind.cell)∉names)
 | [],n,acc,x,c,h=>.inr ⟨h,by simp⟩
 | (y,k) :: r,n,acc,x,c,h=>by
  unfold cellsFrom at h
  split at h
  ·rename_i hk
   have hk':k=.cell:=by simpa using hk
   subst hk'
   rcases yD h with⟨q1,q2,q3⟩ | ⟨q1,q2⟩
   ·exact .inl ⟨ajP q1,ah8 q2 (by rw [aiA];omega),ah3 _ q3⟩
   ·rw [ais] at q1
    cases hb:x == y with
    | true =>
     rw [hb] at q1
     cases q1
     have:x=y:=by simpa using hb
     subst this
     exact .inl ⟨aie _,by rw [aiA];exact Nat.lt_add_of_pos_right (Nat.succ_pos _),aic⟩
    | false =>
     rw [hb] at q1
     refine .inr ⟨q1,fun z=>?_⟩
     rcases ah7.mp z with e | z
     ·have:x=y:=congrArg Prod.fst e
      subst this
      simp at hb
     ·exact q2 z
  ·rename_i hk
   rcases yD h with⟨q1,q2,q3⟩ | ⟨q1,q2⟩
   ·exact .inl ⟨q1,ah8 q2 (by rw [aiA];omega),ah3 _ q3⟩
   ·refine .inr ⟨q1,fun z=>?_⟩
    rcases ah7.mp z with e | z
    ·have:k=.cell:=(congrArg Prod.snd e).symm
     subst this
     simp at hk
    ·exact q2 z
theorem yL:∀ (names:List (Str×NameKind)) (n:Nat) (acc:List (Str×Addr)),(acc.Pairwise fun x y=>x.2≠y.2)->(∀ p∈acc,p.2<n)->(cellsFrom n names acc).Pairwise fun x y=>x.2≠y.2
 | [],n,acc,h,_=>h
 | (y,k) :: r,n,acc,h,hl=>by
  unfold cellsFrom
  split
  ·refine yL r (n+1) _ (List.pairwise_cons.mpr ⟨fun p hp=>?_,h⟩) fun p hp=>?_
   ·exact aj7 (hl p hp)
   ·rcases ah7.mp hp with e | hp
    ·subst e;exact Nat.lt_succ_self _
    ·exact aiU (hl p hp)
  ·exact yL r n acc h hl
theorem vZ {names:List (Str×NameKind)} {n:Nat} {acc:List (Str×Addr)} {x:Str} (h:names.lookup x=some .cell):∃ c,(cellsFrom n names acc).lookup x=some c :=
 aiQ.mp (aiY names n acc (.inl h))
theorem qc {names:List (Str×NameKind)} {n:Nat} {acc:List (Str×Addr)} {x:Str} (h:(acc.lookup x).isSome=true):∃ c,(cellsFrom n names acc).lookup x=some c :=
 aiQ.mp (aiY names n acc (.inr h))
theorem jc:∀ (names:List (Str×NameKind)) (h:Heap) (acc:List (Str×Addr)) (x:Str) (c:Addr),(cellsFrom h.objs.size names acc).lookup x=some c->h.objs.size<=c->(∀ p∈acc,p.2<h.objs.size)->(pushCells h names).IsCell c none
 | [],h,acc,x,c,e,hc,hl=>absurd (hl _ (mem_of_lookup e)) (akw.mpr hc)
 | (y,k) :: r,h,acc,x,c,e,hc,hl=>by
  unfold cellsFrom at e
  unfold pushCells
  split at e
  ·rename_i hk
   rw [if_pos hk]
   by_cases hcc:c=h.objs.size
   ·subst hcc
    exact⟨_,pushCells_keeps _ _ _ _ (aik _ rfl),rfl⟩
   ·have es:(h.push { cls:=.type "cell",data:=.cell none }).objs.size=h.objs.size+1:=ajz ..
    refine jc r _ ((y,h.objs.size) :: acc) x c (by rw [es];exact e) (by rw [es];exact Nat.lt_of_le_of_ne hc (aje hcc)) fun p hp=>?_
    rw [es]
    rcases ah7.mp hp with e | hp
    ·subst e;exact Nat.lt_succ_self _
    ·exact aiU (hl p hp)
  ·rename_i hk
   rw [if_neg hk]
   exact jc r h acc x c e hc hl
noncomputable def zm (X:Cx) (sc:Scope) (N:List Str) (s₀:Shared) (H₀:Hp) (ex:List Addr) (pn:List (Addr×Obj)):Cx :=
 { X with N:=N,s₀:=s₀,H₀:=H₀,env:=compEnvC sc (cellsFrom (s₀.heap.objs.size+1) sc.names (zQ X.env sc.names [])) s₀.heap.objs.size X.env,
          outer:=X.stack,ex:=ex,fn:=fun x=>decide (sc.names.lookup x=some .cell),pn:=pn,xe:=fun _ _=>False }
structure CompScope (NO:List Str) (scO:Scope) (N:List Str) (sc:Scope) (own:Nat) (fr:List Nat):Prop where
 kind:sc.kind=.function
 nd:N.Nodup
 snd:(sc.names.map (·.1)).Nodup
 free:∀ p∈sc.names,p.2=.free->scO.names.lookup p.1=some .cell \/ scO.names.lookup p.1=some .free
 frn:∀ p∈(N.drop own).zip fr,NO[p.2]?=some p.1/\sc.names.lookup p.1=some .free
 len:N.length=own+fr.length
noncomputable def yM (own:Nat) (fr:List Nat) (σ:St):St:=aiS own none++fr.map fun j=>(σ[j]?).getD none
theorem zS {α:Type}:∀ {l:List (Str×α)} {x:Str} {k:α},(l.map (·.1)).Nodup->(x,k)∈l->l.lookup x=some k
 | (y,u) :: r,x,k,nd,h=>by
  rw [ajb] at nd
  obtain⟨h1,h2⟩:=ajo.mp nd
  rw [ais]
  rcases ah7.mp h with e | h'
  ·cases e;simp
  ·have:x≠y:=by
    intro e
    subst e
    exact h1 (aj8.mpr ⟨(x,k),h',rfl⟩)
   rw [beq_eq_false_iff_ne.mpr this]
   exact zS h2 h'
theorem yU {env:Env}:∀ {names:List (Str×NameKind)} {x:Str} {k:NameKind},names.lookup x=some k ->
  (names.map fun (n,k)=>if (k == NameKind.free && env.scope.kind == .function && env.kindOf n == some .cell) then (n,NameKind.cell) else (n,k)).lookup x=some (if (k == NameKind.free && env.scope.kind == .function && env.kindOf x == some .cell) then .cell else k)
 | (n,k') :: r,x,k,h=>by
  have ih:=@yU env r x k
  show List.lookup x ((if (k' == NameKind.free && env.scope.kind == .function && env.kindOf n == some .cell)=true then (n,NameKind.cell) else (n,k')) :: _)=_
  cases hx:x == n with
  | true =>
   have:x=n:=by simpa using hx
   subst this
   simp only [ais,hx] at h
   cases h
   split <;> simp [ais]
  | false =>
   simp only [ais,hx] at h
   split
   ·simp only [ais,hx];exact ih h
   ·simp only [ais,hx];exact ih h
theorem yO {env:Env}:∀ {names:List (Str×NameKind)} {x:Str},names.lookup x=none ->
  (names.map fun (n,k)=>if (k == NameKind.free && env.scope.kind == .function && env.kindOf n == some .cell) then (n,NameKind.cell) else (n,k)).lookup x=none
 | [],_,_=>rfl
 | (n,k') :: r,x,h=>by
  have ih:=@yO env r x
  show List.lookup x ((if (k' == NameKind.free && env.scope.kind == .function && env.kindOf n == some .cell)=true then (n,NameKind.cell) else (n,k')) :: _)=_
  cases hx:x == n with
  | true=>simp only [ais,hx] at h;cases h
  | false =>
   simp only [ais,hx] at h
   split
   ·simp only [ais,hx];exact ih h
   ·simp only [ais,hx];exact ih h
section
variable {X:Cx} {pins:List (Addr×Obj)} {σ:St} {H:Hp} {s:Shared} {NO N:List Str} {scO sc:Scope} {own:Nat} {fr:List Nat} {fp:List Addr}
theorem adO {tk:Nat} (S:CompScope NO scO N sc own fr) (hN:X.N=NO) (hsc:X.env.scope=scO) (I:Inv X pins σ H s) (hf:∀ b∈fp,qg X pins H b) (ho:∀ b∈fp,∃ o,s.heap.get? b=some o/\∀ v,o.data≠.cell v) :
  Inv (zm X sc N s H fp (X.pn++pins)) [] (yM own fr σ) H { s with heap:=pushCells (s.heap.push { cls:=.type "dict",data:=.dict #[] }) sc.names,toks:=tk }:=by
 have hfree:∀ x,(x,NameKind.free)∈sc.names->∃ c,X.env.cells.lookup x=some c:=fun x hx=>I.ok.has x (by
  show X.env.scope.names.lookup x=_ \/ X.env.scope.names.lookup x=_
  rw [hsc]
  exact S.free _ hx rfl)
 have hclt:∀ p∈zQ X.env sc.names [],p.2<s.heap.objs.size:=fun p hp=>by
  rcases ju hp with q | ⟨q,e⟩
  ·cases q
  ·obtain⟨c,hc⟩:=hfree _ q
   rw [e,hc]
   obtain⟨v,o,ho,_⟩:=I.cell _ c hc
   exact ah4 ho
 have hsz:(s.heap.push { cls:=.type "dict",data:=.dict #[] }).objs.size=s.heap.objs.size+1:=ajz ..
 have hk:∀ b o,s.heap.get? b=some o->(pushCells (s.heap.push { cls:=.type "dict",data:=.dict #[] }) sc.names).get? b=some o:=fun b o e=>pushCells_keeps _ _ _ _ (ah0 _ e)
 have hcase:∀ {x:Str} {c:Addr},(cellsFrom (s.heap.objs.size+1) sc.names (zQ X.env sc.names [])).lookup x=some c->(s.heap.objs.size+1<=c/\(x,NameKind.cell)∈sc.names) \/ (X.env.cells.lookup x=some c/\(x,NameKind.free)∈sc.names):=fun {x c} e=>by
  rcases yD e with⟨q1,_,q3⟩ | ⟨q1,_⟩
  ·exact .inl ⟨q1,q3⟩
  ·exact .inr (qb hfree q1)
 have clap:(zQ X.env sc.names []).Pairwise fun x y=>x.2≠y.2:=by
  have key:∀ (names:List (Str×NameKind)) (acc:List (Str×Addr)),(∀ p∈acc,X.env.cells.lookup p.1=some p.2)->(∀ x,(x,NameKind.free)∈names->∃ c,X.env.cells.lookup x=some c)->(acc.Pairwise fun x y=>x.2≠y.2)->(∀ p∈acc,(p.1,NameKind.free)∉names)->(names.map (·.1)).Nodup ->
    (zQ X.env names acc).Pairwise fun x y=>x.2≠y.2:=by
   intro names
   induction names with
   | nil=>intro acc _ _ h _ _;exact h
   | cons p r ih =>
    intro acc h1 h2 h3 h4 h5
    obtain⟨y,k⟩:=p
    rw [ajb] at h5
    obtain⟨n1,n2⟩:=ajo.mp h5
    unfold zQ
    split
    ·rename_i hk
     have hk':k=.free:=by simpa using hk
     subst hk'
     obtain⟨c,hc⟩:=h2 y aic
     rw [hc]
     refine ih _ (fun p hp=>?_) (fun x hx=>h2 x (ah3 _ hx)) (List.pairwise_cons.mpr ⟨fun p hp=>?_,h3⟩) (fun p hp=>?_) n2
     ·rcases ah7.mp hp with e | hp
      ·subst e;exact hc
      ·exact h1 p hp
     ·intro e
      have e':p.2=c:=e.symm
      have:=I.ok.inj _ _ _ hc (e'▸h1 p hp)
      exact h4 p hp (this▸aic)
     ·rcases ah7.mp hp with e | hp
      ·subst e
       intro z
       exact n1 (aj8.mpr ⟨_,z,rfl⟩)
      ·intro z;exact h4 p hp (ah3 _ z)
    ·exact ih acc h1 (fun x hx=>h2 x (ah3 _ hx)) h3 (fun p hp z=>h4 p hp (ah3 _ z)) n2
  exact key sc.names [] (fun p hp=>by cases hp) hfree List.Pairwise.nil (fun p hp=>by cases hp) S.snd
 have apart:=yL sc.names (s.heap.objs.size+1) _ clap fun p hp=>aiU (hclt p hp)
 have hkd:∀ x,(zm X sc N s H fp (X.pn++pins)).env.kindOf x=some .cell \/ (zm X sc N s H fp (X.pn++pins)).env.kindOf x=some .free->(x,NameKind.cell)∈sc.names \/ (x,NameKind.free)∈sc.names:=fun x hx=>by
  cases q:sc.names.lookup x with
  | none =>
   have e:(zm X sc N s H fp (X.pn++pins)).env.kindOf x=none:=yO q
   rw [e] at hx
   rcases hx with z | z <;> cases z
  | some k =>
   have e:(zm X sc N s H fp (X.pn++pins)).env.kindOf x=some _:=yU (env:=X.env) q
   rw [e] at hx
   have hm:=mem_of_lookup q
   cases k <;> first | exact .inl hm | exact .inr hm | (rcases hx with z | z <;> cases z)
 have cellAt:∀ x c,(cellsFrom (s.heap.objs.size+1) sc.names (zQ X.env sc.names [])).lookup x=some c->∃ v,(pushCells (s.heap.push { cls:=.type "dict",data:=.dict #[] }) sc.names).IsCell c v:=fun x c e=>by
  rcases hcase e with⟨q,_⟩ | ⟨q,_⟩
  ·exact⟨none,jc _ _ _ x c (by rw [hsz];exact e) (by rw [hsz];exact q) fun p hp=>by rw [hsz];exact aiU (hclt p hp)⟩
  ·obtain⟨v,o,ho,hd⟩:=I.cell x c q
   exact⟨v,o,hk _ _ ho,hd⟩
 have lt_of_cell:∀ x c,X.env.cells.lookup x=some c->c<s.heap.objs.size:=fun x c e=>by
  obtain⟨v,o,ho,hd⟩:=I.cell x c e
  exact ah4 ho
 have lt_of_fp:∀ b∈fp,b<s.heap.objs.size:=fun b hb=>by
  obtain⟨o,e,_⟩:=ho b hb
  exact ah4 e
 have okX:(zm X sc N s H fp (X.pn++pins)).Ok:=by
  refine⟨I.mod,S.kind,I.ok.glob,I.ok.blt,aie _,fun x y c h1 h2=>name_of_addr apart (mem_of_lookup h1) (mem_of_lookup h2),fun x hx=>?_,fun x c hx hc=>?_,I.ok.hd,I.ok.frames,.inl rfl,fun b hb=>⟨aii (lt_of_fp b hb),fun x c e=>?_⟩,I.bs,aih I.ok.bsz I.sz,fun b o e hb=>?_,fun b hb z=>?_,I.stack,I.stkFree⟩
  ·rcases hkd x hx with q | q
   ·exact vZ (zS S.snd q)
   ·obtain⟨c,hc⟩:=hfree x q
    exact qc (by rw [qT hfree q hc];rfl)
  ·have hx':sc.names.lookup x=some .cell:=of_decide_eq_true hx
   rcases hcase hc with⟨q,_⟩ | ⟨_,q⟩
   ·exact ajP q
   ·rw [zS S.snd q] at hx';cases hx'
  ·rcases hcase e with⟨q,_⟩ | ⟨q,_⟩
   ·exact aj7 (ah8 (lt_of_fp b hb) (ajP q))
   ·exact (hf b hb).2.2.2.2.1 x c q
  ·rcases (hf b hb).2.2.2.1 with z | z
   ·exact I.ok.noex b o e z
   ·exact absurd (ah4 e) (akw.mpr (aih I.ok.bsz z))
  ·rcases ah7.mp (I.stkSub b z) with q | q
   ·exact (hf b hb).2.1 q
   ·exact (hf b hb).2.2.1 q
 refine⟨okX,rfl,I.bare,Un.kept hk,⟨fun _=>none,(Heap.Ns.new s.heap (.type "dict")).keeps (pushCells_keeps _ _),fun i x v h1 h2 h3=>?_⟩,cellAt,I.hok.fresh (aie _),fun x c e=>?_,fun p hp=>?_,I.hok.kept hk,?_⟩
 ·obtain⟨m,_,hl⟩:=id I.loc
  have h2':(yM own fr σ)[i]?=some (some v):=h2
  have hio:own<=i:=by
   unfold yM at h2'
   refine Nat.le_of_not_lt fun hi=>?_
   rw [aif (by simpa using hi),ajg] at h2'
   split at h2' <;> cases h2'
  obtain⟨k,rfl⟩:=Nat.exists_eq_add_of_le hio
  have h1':N[own+k]?=some x:=h1
  unfold yM at h2'
  rw [aiq (by simp)] at h2'
  simp only [ajS,Nat.add_sub_cancel_left,ah9] at h2'
  cases hj:fr[k]? with
  | none=>rw [hj] at h2';cases h2'
  | some j =>
   rw [hj] at h2'
   have h2'':(σ[j]?).getD none=some v:=Option.some.inj h2'
   have hp:(x,j)∈(N.drop own).zip fr:=by
    refine aiw (i:=k) ?_
    rw [List.getElem?_zip_eq_some]
    exact⟨by rw [List.getElem?_drop];exact h1',hj⟩
   obtain⟨f1,f2⟩:=S.frn _ hp
   have hσ:σ[j]?=some (some v):=by
    cases q:σ[j]? with
    | none=>rw [q] at h2'';cases h2''
    | some w=>rw [q] at h2'';exact congrArg some h2''
   have hxf:(x,NameKind.free)∈sc.names:=mem_of_lookup f2
   have hko:=S.free _ hxf rfl
   have hvis:Vis X.env.scope x:=by rw [hsc];exact .inr hko
   obtain⟨u,ru,q⟩:=hl j x v (by rw [hN];exact f1) hσ hvis
   refine⟨u,ru,.inr ⟨?_,?_⟩⟩
   ·have e:(zm X sc N s H fp (X.pn++pins)).env.kindOf x=some _:=yU (env:=X.env) f2
    rw [e]
    split
    ·exact .inl rfl
    ·exact .inr rfl
   ·rcases q with⟨k1,_⟩ | ⟨_,c,hc,z⟩
    ·have k1':X.env.scope.names.lookup x=some .local:=k1
     rw [hsc] at k1'
     rcases hko with z | z <;> rw [z] at k1' <;> cases k1'
    ·obtain⟨o,ho,hd⟩:=z
     refine⟨c,?_,o,hk _ _ ho,hd⟩
     have hcl:=qT hfree hxf hc
     obtain⟨c',hc'⟩:=qc (names:=sc.names) (n:=s.heap.objs.size+1) (acc:=zQ X.env sc.names []) (x:=x) (by rw [hcl];rfl)
     rcases hcase hc' with⟨_,z⟩ | ⟨z,_⟩
     ·have:=zS S.snd z
      rw [f2] at this;cases this
     ·rw [hc] at z;cases z;exact hc'
 ·rcases hcase e with⟨q,_⟩ | ⟨q,_⟩
  ·exact I.hok.fresh (ajP q)
  ·exact I.freeC x c q
 ·have hp':p∈X.pn++pins:=by simpa [zm] using hp
  obtain⟨e,n,ne,nf,d⟩:=I.pin p hp'
  refine⟨hk _ _ e,n,aii (ah4 e),fun z=>?_,d⟩
  rcases ah7.mp (I.stkSub _ z) with q | q
  ·exact ne q
  ·exact nf q
 ·show (yM own fr σ).length=N.length
  unfold yM
  rw [S.len]
  simp
end
noncomputable abbrev TB:=St->Hp->(St->Hp->Prop)->Prop
noncomputable def PB (X:Cx) (act:Sem Unit) (t:TB):Prop :=
 ∀ (pins:List (Addr×Obj)) (s:Shared) (σ:St) (H:Hp) (Q:St->Hp->Prop),Inv X pins σ H s->t σ H Q->wpAny (model X.prog X.w) X.A act (fun _ s'=>∃ σ' H',Inv X pins σ' H' s'/\Q σ' H') X.xe s
noncomputable def PTs (X:Cx) (ifs:List Expr) (t:TT):Prop :=
 ∀ (pins:List (Addr×Obj)) (s:Shared) (σ:St) (H:Hp) (Q:Bool->Hp->Prop),Inv X pins σ H s->t σ H Q ->
  wpAny (model X.prog X.w) X.A (forIn ifs true fun c r=>if r=true then do let ok <- isTrue c X.env (eval c X.env);pure (ForInStep.yield ok) else pure (ForInStep.yield r)) (TP X pins σ Q) X.xe s
noncomputable def ahj:TT:=fun _ H Q=>Q true H
theorem vf {X:Cx}:PTs X [] ahj:=fun pins s σ H Q I h=>wpAny_tests_nil ⟨H,I,h⟩
theorem ae2 {X:Cx} {c:Expr} {t:TT} (hc:PT X c t):PTs X [c] t:=fun pins s σ H Q I h=>wpAny_tests_one (hc pins s σ H Q I h)
noncomputable def acg (J:It) (g:TG) (tt:TT) (tb:TB):TB:=fun σ H Q=>∃ W:Nat->Nat->St->Hp->Prop,(∃ m,W 0 m σ H)/\∀ i m σ H,W i m σ H ->
 (J.stop i H/\Q σ H) \/ (J.go i H/\∀ x H',J.yld i H x H'->g x σ H' fun σ2 H2=>tt σ2 H2 fun b H3=>if b=true then tb σ2 H3 fun σ' H'=>∃ m',m'<m/\W (i+1) m' σ' H' else ∃ m',m'<m/\W (i+1) m' σ2 H3)
section
variable {X:Cx} {pins:List (Addr×Obj)} {s:Shared} {σ:St} {H:Hp} {tg:Expr} {e:Expr} {d:Nat} {acc:Value} {ifs:List Expr} {g:TG} {tt:TT} {tb:TB} {act:Sem Unit} {pos:Pos}
theorem adP (hx:∀ e s,X.xe e s->False) (hc:X.calm=true) (hg:PG X tg g) (ht:PTs X ifs tt) (hb:PB X act tb)
  (heq:∀ it,compTurn e d it acc X.env=(do
   standAt pos
   match <- pyNext it with
   | none=>pure (.done .next)
   | some v =>
    letOwnedTupleGo tg it v
    assign tg X.env v
    let mut ok:=true
    for c in ifs do
     if ok then ok <- isTrue c X.env (eval c X.env)
    if ok then
     act
    again (.compLoop e d it acc X.env)))
  (hqt:∀ it,(Code.compLoop e d it acc X.env).quiet=true)
  (hden:∀ it,(model X.prog X.w).den (.compLoop e d it acc X.env)=(compTurn e d it acc X.env).onRaise (fun x=>do noteFrame x X.env;theTreesLotGoes x))
  (hund:∀ it,X.A.under (.compLoop e d it acc X.env)=X.A)
  {it:Addr} {fp:List Addr} {tn:Nat->Heap->Prop} {J:It} {Q:St->Hp->Prop} {R:Result->Shared->Prop} (I:Inv X pins σ H s) (T:Turn X.prog X.w X.K tg J fp it tn) (st:tn 0 s.heap) (f:∀ b∈fp,qg X pins H b)
  (h:acg J g tt tb σ H Q) (hR:∀ σ' H' s',Inv X pins σ' H' s'->(∀ b∈fp,H' b=none)->Q σ' H'->R (.ok .next) s'):codeAny (model X.prog X.w) X.A (.compLoop e d (.ref it) acc X.env) R s:=by
 obtain⟨W,⟨m0,w0⟩,turn⟩:=h
 have stat:∀ {H':Hp},(∀ b∈fp,H' b=none)->∀ b∈fp,qg X pins H' b:=fun hn b hb=>⟨hn b hb,(f b hb).2⟩
 refine codeAny_loop (hqt _) (fun n s'=>∃ i σ' H',Inv X pins σ' H' s'/\tn i s'.heap/\(∀ b∈fp,H' b=none)/\W i n σ' H') ?_ m0 ⟨0,σ,H,I,st,fun b hb=>(f b hb).1,w0⟩
 rintro n s3 ⟨i,σ3,H3,I3,st3,fr3,w3⟩
 rw [hden,hund]
 refine wpAny_noted ?_
 rw [heq]
 have nox:∀ e' s',X.xe e' s'->notedBy (model X.prog X.w) X.A X.env (fun e s'=>R (.error e) s') e' s':=fun e' s' z=>(hx e' s' z).elim
 refine wpAny_bind (wpAny_standAt (wpAny_bind ?_))
 rcases turn i n σ3 H3 w3 with⟨stop,qn⟩ | ⟨go,step⟩
 ·refine wpAny_mono (T.done X rfl rfl rfl hc i pins s3 σ3 H3 X.xe I3 (stat fr3) st3 stop) (fun r s4 hr4=>?_) nox
  obtain⟨hr,I4⟩:=hr4
  subst hr
  exact wpAny_pure (hR σ3 H3 s4 I4 fr3 qn)
 ·refine wpAny_mono (T.item X rfl rfl rfl hc i pins s3 σ3 H3 X.xe I3 (stat fr3) st3 go) (fun r s4 hr4=>?_) nox
  obtain⟨u,hr,h4⟩:=hr4
  subst hr
  refine wpAny_bind (wpAny_mono h4 (fun _ s5 h5=>?_) nox)
  obtain⟨x,H5,I5,r5,y5,st5,fr5⟩:=h5
  have I5':=I5.pinned (stat fr5) (T.obj _ _ st5)
  refine wpAny_bind (wpAny_mono (hg _ s5 σ3 H5 x u _ I5' r5 (step x H5 y5)) (fun _ s6 h6=>?_) nox)
  obtain⟨σ6,H6,I6,q6⟩:=h6
  refine wpAny_bind (wpAny_mono (ht _ s6 σ6 H6 _ I6 q6) (fun ok s7 h7=>?_) nox)
  obtain⟨H7,I7,q7⟩:=h7
  have again:∀ {σ7:St} {H7:Hp} {s7:Shared},Inv X (pins++vp fp s5.heap) σ7 H7 s7->(∃ m',m'<n/\W (i+1) m' σ7 H7)->∃ m,m<n/\∃ i σ' H',Inv X pins σ' H' s7/\tn i s7.heap/\(∀ b∈fp,H' b=none)/\W i m σ' H':=fun {σ7 H7 s7} I7 n7=>by
   obtain⟨m',hm,w7⟩:=n7
   refine⟨m',hm,i+1,σ7,H7,I7.unpinned,T.keep _ _ _ st5 fun b hb o e=>(I7.pin (b,o) (aia _ (aia _ (jq hb e)))).1,fun b hb=>?_,w7⟩
   obtain⟨o,e,d⟩:=T.obj _ _ st5 b hb
   exact (I7.pin (b,o) (aia _ (aia _ (jq hb e)))).2.1
  cases ok with
  | false =>
   rw [if_neg ahW] at q7
   exact wpAny_pure ⟨rfl,again I7 q7⟩
  | true =>
   rw [if_pos rfl] at q7
   refine wpAny_bind (wpAny_mono (hb _ s7 σ6 H7 _ I7 q7) (fun _ s8 h8=>?_) nox)
   obtain⟨σ8,H8,I8,q8⟩:=h8
   exact wpAny_pure ⟨rfl,again I8 q8⟩
theorem ach {D:Addr} {elt:Expr} {te:TE} (he:PE X elt te):PB X (do let _ <- call (.builtin "list.append") [.ref D,<- eval elt X.env]) (fun σ H Q=>te σ H fun y H1=>∃ xs,H1 D=some (.lst xs)/\xs.length<sizeLine/\Q σ (upd H1 D (.lst (xs++[y])))):=by
 intro pins s σ H Q I h
 refine wpAny_bind (thn (he pins s σ H _ I h) fun v s1 h1=>?_)
 obtain⟨y,H1,I1,r1,xs,hD,hz,q⟩:=h1
 obtain⟨z,its,n,r,hl,e⟩:=I1.lstM hD
 refine wpAny_bind ?_
 refine call_meets F.slot_list_append ⟨_,e,rfl⟩ akU (akM _ _) (PySem.list_append D its.toArray n v (by rw [aid];omega)) ⟨e,?_⟩
 refine wpAny_pure ⟨σ,_,I1.lset (its':=its++[v]) hD e (by simp) (r.append (.cons r1 .nil)) ?_,q⟩
 rw [aij,akG]
 omega
theorem aa1 {M:Model} {A:Around} {E:Value->Shared->Prop} {sc:Scope} {gl:Addr} {cl:List (Str×Addr)} {qual:Str} {env:Env} {Q:Env->Shared->Prop} {s:Shared}
  (h:Q { scope:=sc,locals:=s.heap.objs.size,globals:=gl,cells:=cellsFrom (s.heap.objs.size+1) sc.names cl,qual:=qual,func:=none,code:=env.code,frame:=env.frame,builtins:=env.builtins } { s with heap:=pushCells (s.heap.push { cls:=.type "dict",data:=.dict #[] }) sc.names }) :
  wpAny M A (newFunctionEnv sc gl cl [] qual none .none (some env)) Q E s:=by
 simp only [newFunctionEnv,Option.isSome_some,if_true]
 refine wpAny_bind (wpAny_alloc ?_)
 refine wpAny_bind (wpAny_layCells _ (fun name kind cells=>by cases hkc:kind == NameKind.cell <;> simp [hkc]) _ _ _ _ ?_)
 rw [show ({ s with heap:=s.heap.push { cls:=.type "dict",data:=.dict #[] } }:Shared).heap.objs.size=s.heap.objs.size+1 from ajz ..]
 refine wpAny_bind ?_
 rw [List.forIn_nil]
 exact wpAny_pure (wpAny_pure h)
theorem comp_back {sc:Scope} {N:List Str} {fp:List Addr} {σ':St} {H':Hp} {s':Shared} {h':Heap} (I:Inv X pins σ H s) (hf:∀ b∈fp,qg X pins H b) (J:Inv (zm X sc N s H fp (X.pn++pins)) [] σ' H' s') (hs:aj6 s.heap.objs.size s'.heap h') :
  Inv X pins σ H' { s' with heap:=h' }:=by
 have u:Un (frs X.stack) fp H H' s.heap s'.heap:=J.base
 have ne:∀ b o,s.heap.get? b=some o->b≠s.heap.objs.size:=fun b o e=>aii (ah4 e)
 have hfree:H' s.heap.objs.size=none:=J.free
 refine I.call' (s':={ s' with heap:=h' }) (ch:=fp) J.os ⟨fun b o e n h1 h2=>(hs.2 b (ne b o e)).trans (u.keep b o e n h1 h2),fun b o e n h1 h2=>?_,u.free,fun b o e h2=>?_,u.tups,u.frzs,u.tbls⟩ (fun a o e=>?_) J.bare fun b hb=>?_
 ·obtain⟨sl,q⟩:=u.slot b o e n h1 h2
  exact⟨sl,(hs.2 b (ne b o e)).trans q⟩
 ·obtain⟨o',q⟩:=u.there b o e h2
  exact⟨o',(hs.2 b (ne b o e)).trans q⟩
 ·refine (J.hok a o e).stay (fun c v hc q=>(hs.2 c ?_).trans q) (fun _ q=>q) fun _ _ q=>q
  intro z
  subst z
  rcases hc with hc | hc
  ·rw [<-hc] at e
   rw [hfree] at e;cases e
  ·rw [hfree] at hc;cases hc
 ·exact⟨(hf b hb).2.2.2.1,(hf b hb).2.1,(hf b hb).2.2.2.2⟩
end
noncomputable def adQ (D:Addr) (te:TE):TB:=fun σ H Q=>te σ H fun y H1=>∃ xs,H1 D=some (.lst xs)/\xs.length<sizeLine/\Q σ (upd H1 D (.lst (xs++[y])))
noncomputable def vz (wi:TI) (own:Nat) (fr:List Nat) (g:TG) (tt:TT) (tb:Addr->TB):TE:=fun σ H Q=>wi σ H fun J H1=>∀ D,H1 D=none ->
 acg J g tt (tb D) (yM own fr σ) (upd H1 D (.lst [])) fun _ H2=>Q (.ref D) H2
section
variable {X:Cx} {pins:List (Addr×Obj)} {s:Shared} {σ:St} {H:Hp} {tg elt iter:Expr} {ifs:List Expr} {rest:List Comprehension} {sc scO:Scope} {NO N:List Str} {own:Nat} {fr:List Nat} {wi:TI} {g:TG} {tt:TT} {tb:Addr->TB} {pos:Pos}
theorem aa2 {RR:Value->Addr->Result->Shared->Prop} {it:Addr} {fp:List Addr} {tn:Nat->Heap->Prop} {J:It} {Q:VK} (S:CompScope NO scO N sc own fr) (hN:X.N=NO) (hsc:X.env.scope=scO) (hc:X.calm=true)
  (hg:∀ s₀ H₀ ex pn,PG (zm X sc N s₀ H₀ ex pn) tg g) (ht:∀ s₀ H₀ ex pn,PTs (zm X sc N s₀ H₀ ex pn) ifs tt)
  (hb:∀ D s₀ H₀ ex pn,∃ act,PB (zm X sc N s₀ H₀ ex pn) act (tb D)/\∀ it,compTurn (.ListComp elt (⟨tg,iter,ifs,0⟩ :: rest) sc pos) 0 it (.ref D) (zm X sc N s₀ H₀ ex pn).env=(do
   standAt iter.pos
   match <- pyNext it with
   | none=>pure (.done .next)
   | some v =>
    letOwnedTupleGo tg it v
    assign tg (zm X sc N s₀ H₀ ex pn).env v
    let mut ok:=true
    for c in ifs do
     if ok then ok <- isTrue c (zm X sc N s₀ H₀ ex pn).env (eval c (zm X sc N s₀ H₀ ex pn).env)
    if ok then
     act
    again (.compLoop (.ListComp elt (⟨tg,iter,ifs,0⟩ :: rest) sc pos) 0 it (.ref D) (zm X sc N s₀ H₀ ex pn).env)))
  (I:Inv X pins σ H s) (T:Turn X.prog X.w X.K tg J fp it tn) (st:tn 0 s.heap) (f:∀ b∈fp,qg X pins H b)
  (h:∀ D,H D=none->acg J g tt (tb D) (yM own fr σ) (upd H D (.lst [])) fun _ H2=>Q (.ref D) H2)
  (hRR:∀ (D C:Addr) (s':Shared) (H':Hp),(∃ m,s'.heap.Ns C m)->C≠X.env.locals->(∀ x c,X.env.cells.lookup x=some c->c≠C)->H' C=none->X.s₀.heap.objs.size<=C->(∀ p∈X.pn++pins,p.1≠C)->Inv X pins σ H' s'->Q (.ref D) H'->RR (.ref D) C (.ok .next) s') :
  wpAny (model X.prog X.w) X.A (newList []) (fun acc s₃=>wpAny (model X.prog X.w) X.A (newFunctionEnv sc X.env.globals (zQ X.env sc.names []) [] X.env.qual none .none (some X.env)) (fun cenv s₄ =>
   codeAny (model X.prog X.w) X.A (.compStart (.ListComp elt (⟨tg,iter,ifs,0⟩ :: rest) sc pos) 0 (.ref it) acc { cenv with scope:=relabel sc X.env }) (RR acc cenv.locals) s₄) X.xe s₃) X.xe s:=by
 refine wpAny_newObj_type (aa1 ?_)
 have fpsz:∀ b∈fp,b<s.heap.objs.size:=fun b hb=>by
  obtain⟨o,e,_⟩:=T.obj _ _ st b hb
  exact ah4 e
 have I3:=I.lnew (its:=[]) (ys:=[]) (t':=s.toks) .nil (ajl _)
 have f3:∀ b∈fp,qg X pins (upd H s.heap.objs.size (.lst [])) b:=fun b hb=>⟨by rw [zk (aii (fpsz b hb))];exact (f b hb).1,(f b hb).2⟩
 have st3:tn 0 (s.heap.push { cls:=.type "list",data:=.seq ([]:List Value).toArray }):=T.keep _ _ _ st fun b _ o e=>ah0 _ e
 have I4:=adO (tk:=s.toks) S hN hsc I3 f3 (T.obj _ _ st3)
 obtain⟨act,pb,heq⟩:=hb s.heap.objs.size _ _ _ _
 have st4:=T.keep _ _ (pushCells ((s.heap.push { cls:=.type "list",data:=.seq ([]:List Value).toArray }).push { cls:=.type "dict",data:=.dict #[] }) sc.names) st3 fun b _ o e=>pushCells_keeps _ _ _ _ (ah0 _ e)
 have cells_lt:∀ x c,X.env.cells.lookup x=some c->c<s.heap.objs.size:=fun x c e=>by
  obtain⟨v,o,ho,hd⟩:=I.cell x c e
  exact ah4 ho
 have esz:(s.heap.push { cls:=.type "list",data:=.seq ([]:List Value).toArray }).objs.size=s.heap.objs.size+1:=ajz ..
 have loop:=adP (X:=zm X sc N { s with heap:=s.heap.push { cls:=.type "list",data:=.seq ([]:List Value).toArray } } (upd H s.heap.objs.size (.lst [])) fp (X.pn++pins)) (R:=RR (.ref s.heap.objs.size) (s.heap.push { cls:=.type "list",data:=.seq ([]:List Value).toArray }).objs.size) (fun _ _ z=>z) hc (hg _ _ _ _) (ht _ _ _ _) pb heq (fun _=>rfl) (fun _=>rfl) (fun _=>rfl) I4 T st4
  (fun b hb=>⟨(f3 b hb).1,I4.ok.exf b hb |>.1,I4.ok.exfs b hb,.inl hb,I4.ok.exf b hb |>.2,fun p hp=>by
   have hp':p∈X.pn++pins:=by simpa [zm] using hp
   exact (f b hb).2.2.2.2.2 p hp'⟩) (h _ I.fresh)
  (fun σ' H' s' J' fr' q'=>hRR _ _ s' H' (let⟨m,hm,_⟩:=J'.loc;⟨m,hm⟩) (by rw [esz];exact aj7 (aiU I.lt)) (fun x c e=>by rw [esz];exact aii (aiU (cells_lt x c e))) J'.free (by rw [esz];exact Nat.le_succ_of_le I.sz) (fun p hp=>by rw [esz];exact aii (aiU (ah4 (I.pin p hp).1))) (comp_back (h':=s'.heap) I3 f3 J' (Heap.SameBut.refl ..)) q')
 exact codeAny_compStart_list loop (T.self X.A 0 _ _ _ st4 loop)
theorem Inv.touch {C:Addr} {h':Heap} (I:Inv X pins σ H s) (hs:aj6 C s.heap h') (hn:H C=none) (h0:C≠X.env.locals) (h1:∀ x c,X.env.cells.lookup x=some c->c≠C) (h2:X.s₀.heap.objs.size<=C) (h3:∀ p∈X.pn++pins,p.1≠C) :
  Inv X pins σ H { s with heap:=h' } :=
 I.turned (t':=s.toks) (fun b o hb e=>(hs.2 b hb).trans e) hn h0 (.inr h2) h1 h3
section
variable {elt2:Expr} {te:TE} {tg2 iter2:Expr} {ifs2:List Expr} {wi2:TI} {g2:TG} {tt2:TT} {tb2:TB} {y:Str} {i:Nat} {py spos:Pos}
theorem aci (S:CompScope NO scO N sc own fr) (hsc:X.env.scope=scO) (ok:X.Ok):closureFor sc X.env=pure (zQ X.env sc.names []) :=
 abF fun x hx=>ok.has x (by
  show X.env.scope.names.lookup x=_ \/ X.env.scope.names.lookup x=_
  rw [hsc]
  exact S.free _ hx rfl)
theorem ae3 (S:CompScope NO scO N sc own fr) (hc:X.calm=true) (hi:PI X tg iter wi) (hg:∀ s₀ H₀ ex pn,PG (zm X sc N s₀ H₀ ex pn) tg g) (ht:∀ s₀ H₀ ex pn,PTs (zm X sc N s₀ H₀ ex pn) ifs tt)
  (hb:∀ D s₀ H₀ ex pn,∃ act,PB (zm X sc N s₀ H₀ ex pn) act (tb D)/\∀ it,compTurn (.ListComp elt (⟨tg,iter,ifs,0⟩ :: rest) sc pos) 0 it (.ref D) (zm X sc N s₀ H₀ ex pn).env=(do
   standAt iter.pos
   match <- pyNext it with
   | none=>pure (.done .next)
   | some v =>
    letOwnedTupleGo tg it v
    assign tg (zm X sc N s₀ H₀ ex pn).env v
    let mut ok:=true
    for c in ifs do
     if ok then ok <- isTrue c (zm X sc N s₀ H₀ ex pn).env (eval c (zm X sc N s₀ H₀ ex pn).env)
    if ok then
     act
    again (.compLoop (.ListComp elt (⟨tg,iter,ifs,0⟩ :: rest) sc pos) 0 it (.ref D) (zm X sc N s₀ H₀ ex pn).env)))
  (hN:X.N=NO) (hsc:X.env.scope=scO) (hs:∀ x,foldedSetIterable iter X.env x=pure x) :
  PE X (.ListComp elt (⟨tg,iter,ifs,0⟩ :: rest) sc pos) (vz wi own fr g tt tb):=by
 intro pins s σ H Q I h
 rw [eval_ListComp]
 refine wpAny_comprehension_free (use:=none) rfl hs (aci S hsc I.ok) S.kind (fun p hp hl=>zS S.snd (k:=.local) (by rw [<-hl];exact hp)) (thn (hi pins s σ H _ I h) fun v s1 h1=>thn h1 fun itv s2 h2=>?_)
 obtain⟨it,fp,tn,J,H2,e,I2,T,st2,f2,q⟩:=h2
 subst e
 refine aa2 (RR:=fun acc C=>compPost (model X.prog X.w) X.A X.xe none (EP X pins σ Q) acc C) S hN hsc hc hg ht hb I2 T st2 f2 q ?_
 rintro D C s' H' ⟨m,hm⟩ c0 c1 c2 c3 c4 J' q'
 exact⟨m,hm,fun h' hs'=>⟨.ref D,H',J'.touch hs' c2 c0 c1 c3 c4,rfl,q'⟩⟩
theorem abG (S:CompScope NO scO N sc own fr) (hc:X.calm=true) (hNd:X.N.Nodup) (hiN:X.N[i]?=some y) (hy:Loc X.env.scope y) (hi:PI X tg iter wi) (hg:∀ s₀ H₀ ex pn,PG (zm X sc N s₀ H₀ ex pn) tg g) (ht:∀ s₀ H₀ ex pn,PTs (zm X sc N s₀ H₀ ex pn) ifs tt)
  (hb:∀ D s₀ H₀ ex pn,∃ act,PB (zm X sc N s₀ H₀ ex pn) act (tb D)/\∀ it,compTurn (.ListComp elt (⟨tg,iter,ifs,0⟩ :: rest) sc pos) 0 it (.ref D) (zm X sc N s₀ H₀ ex pn).env=(do
   standAt iter.pos
   match <- pyNext it with
   | none=>pure (.done .next)
   | some v =>
    letOwnedTupleGo tg it v
    assign tg (zm X sc N s₀ H₀ ex pn).env v
    let mut ok:=true
    for c in ifs do
     if ok then ok <- isTrue c (zm X sc N s₀ H₀ ex pn).env (eval c (zm X sc N s₀ H₀ ex pn).env)
    if ok then
     act
    again (.compLoop (.ListComp elt (⟨tg,iter,ifs,0⟩ :: rest) sc pos) 0 it (.ref D) (zm X sc N s₀ H₀ ex pn).env)))
  (hN:X.N=NO) (hsc:X.env.scope=scO) (hs:∀ x,foldedSetIterable iter X.env x=pure x) (hf:X.fn y=true \/ X.env.scope.names.lookup y=some .local)
  (hsw:swapsWith (.ListComp elt (⟨tg,iter,ifs,0⟩ :: rest) sc pos) (some (.Name y py)) spos.line X.env=pure true) :
  PS X (.Assign [.Name y py] (.ListComp elt (⟨tg,iter,ifs,0⟩ :: rest) sc pos) spos) (qI (vz wi own fr g tt tb) (qa i)):=by
 intro pins s σ H D I h
 rw [exec_Assign_Name_used _ _ _ _ hsw]
 refine wpAny_bind (wpAny_standAt (wpAny_bind ?_))
 show wpAny _ X.A (do let _ <- comprehension (.ListComp elt (⟨tg,iter,ifs,0⟩ :: rest) sc pos) sc X.env _ (newList []) false (eval iter X.env) (some (assign (.Name y py) X.env))) _ _ s
 refine wpAny_bind (wpAny_mono (wpAny_comprehension_free (use:=some (assign (.Name y py) X.env)) (Q:=fun _ s'=>SP X pins D .next s') rfl hs (aci S hsc I.ok) S.kind (fun p hp hl=>zS S.snd (k:=.local) (by rw [<-hl];exact hp))
  (thn (hi pins s σ H _ I h) fun v s1 h1=>thn h1 fun itv s2 h2=>?_)) (fun _ s' hq=>wpAny_pure (wpAny_pure hq)) fun _ _ e=>e)
 obtain⟨it,fp,tn,J,H2,e,I2,T,st2,f2,q⟩:=h2
 subst e
 refine aa2 (Q:=fun x H1=>qa i x σ H1 D.nx) (RR:=fun acc C=>compPost (model X.prog X.w) X.A X.xe (some (assign (.Name y py) X.env)) (fun _ s'=>SP X pins D .next s') acc C) S hN hsc hc hg ht hb I2 T st2 f2 q ?_
 rintro A' C s' H' ⟨m,hm⟩ c0 c1 c2 c3 c4 J' q'
 show wpAny _ X.A (assign (.Name y py) X.env (.ref A')) _ _ _
 refine wpAny_assign_Name (v8 (v:=.ref A') J' hNd hiN hy rfl (fun s2' I2' hsb=>?_) hf)
 obtain⟨a,hs2,ha⟩:=hsb
 have hCa:C≠a:=by
  rcases ha with ha | ha
  ·rw [ha];exact c0
  ·exact aje (c1 _ _ ha)
 exact⟨m,hm.sameBut hs2 hCa,fun h' hs'=>⟨_,H',I2'.touch hs' c2 c0 c1 c3 c4,q'⟩⟩
end
end
section
variable {X:Cx} {tg elt iter tg2 iter2:Expr} {ifs ifs2:List Expr} {sc scO:Scope} {NO N:List Str} {own:Nat} {fr:List Nat} {wi wi2:TI} {g g2:TG} {tt tt2:TT} {te:TE} {pos py spos:Pos} {y:Str} {i:Nat}
theorem qr (S:CompScope NO scO N sc own fr) (hc:X.calm=true) (hi:PI X tg iter wi) (hg:∀ s₀ H₀ ex pn,PG (zm X sc N s₀ H₀ ex pn) tg g) (ht:∀ s₀ H₀ ex pn,PTs (zm X sc N s₀ H₀ ex pn) ifs tt) (he:∀ s₀ H₀ ex pn,PE (zm X sc N s₀ H₀ ex pn) elt te)
  (hN:X.N=NO) (hsc:X.env.scope=scO) (hs:∀ x,foldedSetIterable iter X.env x=pure x):PE X (.ListComp elt [⟨tg,iter,ifs,0⟩] sc pos) (vz wi own fr g tt fun D=>adQ D te) :=
 ae3 S hc hi hg ht (fun D s₀ H₀ ex pn=>⟨_,ach (D:=D) (he s₀ H₀ ex pn),fun _=>rfl⟩) hN hsc hs
theorem aa3 (S:CompScope NO scO N sc own fr) (hc:X.calm=true) (hNd:X.N.Nodup) (hiN:X.N[i]?=some y) (hy:Loc X.env.scope y) (hi:PI X tg iter wi) (hg:∀ s₀ H₀ ex pn,PG (zm X sc N s₀ H₀ ex pn) tg g) (ht:∀ s₀ H₀ ex pn,PTs (zm X sc N s₀ H₀ ex pn) ifs tt) (he:∀ s₀ H₀ ex pn,PE (zm X sc N s₀ H₀ ex pn) elt te)
  (hN:X.N=NO) (hsc:X.env.scope=scO) (hs:∀ x,foldedSetIterable iter X.env x=pure x) (hf:X.fn y=true \/ X.env.scope.names.lookup y=some .local)
  (hsw:swapsWith (.ListComp elt [⟨tg,iter,ifs,0⟩] sc pos) (some (.Name y py)) spos.line X.env=pure true) :
  PS X (.Assign [.Name y py] (.ListComp elt [⟨tg,iter,ifs,0⟩] sc pos) spos) (qI (vz wi own fr g tt fun D=>adQ D te) (qa i)) :=
 abG S hc hNd hiN hy hi hg ht (fun D s₀ H₀ ex pn=>⟨_,ach (D:=D) (he s₀ H₀ ex pn),fun _=>rfl⟩) hN hsc hs hf hsw
end
end L2
end
section
namespace L2
open PySem PySem.Spec PyProof.Rows
section
variable {X:Cx} {pins:List (Addr×Obj)} {σ:St} {H:Hp} {s:Shared} {h':Heap} {fp:List Addr}
theorem Inv.turnedAll {t':Nat} (I:Inv X pins σ H s) (hf:∀ b∈fp,qg X pins H b) (k:∀ b o,b∉fp->s.heap.get? b=some o->h'.get? b=some o):Inv X pins σ H { s with heap:=h',toks:=t' }:=by
 refine I.step (g':=s.gens) (d':=s.drawn) (ch:=fp) (fun b hb=>⟨(hf b hb).2.2.2.1,(hf b hb).2.1,(hf b hb).2.2.2.2⟩) (fun b o _ _ hc e _=>k b o hc e) (fun b o _ _ hc e _=>⟨o.slots,k b o hc e⟩) (fun _ _ _ _ n=>n)
  (fun b o hc e=>⟨o,k b o hc e⟩) (fun _ _ e=>e) (fun _ _ _ e=>e) (fun b ps e=>⟨#[],by rw [e];simp⟩) (fun m hm=>?_) (fun b u e=>?_) I.bare
 ·obtain⟨o,es,ep,ho,r⟩:=hm
  exact⟨o,es,ep,k _ o (fun z=>(hf _ z).2.1 rfl) ho,r⟩
 ·refine (I.hok b u e).stay (fun c v hc q=>k c v (fun z=>?_) q) (fun _ q=>q) fun _ _ q=>q
  have hn:=(hf c z).1
  rcases hc with hc | hc
  ·subst hc;rw [e] at hn;cases hn
  ·rw [hc] at hn;cases hn
theorem Inv.turnedNew {t':Nat} {t:Addr} {o:HO} (I:Inv X pins σ H s) (hf:∀ b∈fp,qg X pins H b) (k:∀ b o,b∉fp->s.heap.get? b=some o->h'.get? b=some o) (ht:s.heap.objs.size<=t) (new:ObjOk X.prog X.w (upd H t o) h' t o) :
  Inv X pins σ (upd H t o) { s with heap:=h',toks:=t' }:=by
 have hn:H t=none:=I.hok.fresh ht
 have ne:∀ b ob,s.heap.get? b=some ob->b≠t:=fun b ob e=>aii (ah8 (ah4 e) ht)
 refine I.step (g':=s.gens) (d':=s.drawn) (ch:=fp) (fun b hb=>⟨(hf b hb).2.2.2.1,(hf b hb).2.1,(hf b hb).2.2.2.2⟩) (fun b o _ _ hc e _=>k b o hc e) (fun b o _ _ hc e _=>⟨o.slots,k b o hc e⟩) (fun b ob _ e n=>by rw [zk (ne b ob e)];exact n)
  (fun b o hc e=>⟨o,k b o hc e⟩) (fun b xs e=>by rw [zk (zB e hn)];exact e) (fun b ob u e=>by rw [zk (zB e hn)];exact e) (fun b ps e=>⟨#[],by rw [zk (zB e hn),e];simp⟩) (fun m hm=>?_) (fun b u e=>?_) I.bare
 ·obtain⟨o,es,ep,ho,r⟩:=hm
  exact⟨o,es,ep,k _ o (fun z=>(hf _ z).2.1 rfl) ho,r⟩
 ·by_cases hb:b=t
  ·subst hb;rw [zr] at e;cases e;exact new
  ·rw [zk hb] at e
   refine (I.hok b u e).stay (fun c v hc q=>k c v (fun z=>?_) q) (fun c q=>by rw [zk (zB q hn)];exact q) fun c xs q=>by rw [zk (zB q hn)];exact q
   have hn':=(hf c z).1
   rcases hc with hc | hc
   ·subst hc;rw [e] at hn';cases hn'
   ·rw [hc] at hn';cases hn'
end
noncomputable def Ite (K:ahX) (a:Addr):It :=
 ⟨fun i H=>∃ xs x,SqL K H a xs/\xs[i]?=some x,fun i H x H'=>∃ t y,x=.ref t/\H t=none/\H'=upd H t (.tup [.int i,y])/\∀ xs,SqL K H a xs->xs[i]?=some y,fun i H=>∃ xs,SqL K H a xs/\xs.length<=i⟩
theorem acT {P:Program} {w:World} {K:ahX} {es:List Expr} {k:Nat} {pos:Pos} (a e it:Addr) (hne:e≠it):Turn P w K (.Tuple es k pos) (Ite K a) [e,it] e (fun i h=>(∃ old,IsEnum h e it i old)/\h.IsListIter it a i) where
 mem:=by simp
 obj:=fun i h st b hb=>by
  obtain⟨⟨old,se⟩,o,eo,c,d⟩:=st
  rcases ah7.mp hb with z | z
  ·subst z
   exact⟨_,se,fun v z=>by
    have z':Data.fields _=Data.cell v:=z
    cases z'⟩
  ·have z:b=it:=by simpa using z
   subst z
   exact⟨o,eo,fun v z=>by rw [d] at z;cases z⟩
 keep:=fun i h h' st kk=>⟨let⟨old,se⟩:=st.1;⟨old,kk e (by simp) _ se⟩,st.2.at fun o eo=>kk it (by simp) o eo⟩
 item:=by
  intro X hP hw hK hc i pins s σ H E I hf st hg
  subst hP hw hK
  obtain⟨xs,x,hq,hx⟩:=hg
  obtain⟨its,rv,p,hz⟩:=I.list hq
  obtain⟨u,hu,ru⟩:=rv.get hx
  obtain⟨⟨old,se⟩,si⟩:=st
  refine wpAny_pyNext_enum_item se si p.isList (x:=u) (by simpa using hu) hne fun h' so si' tp sz kp=>?_
  refine⟨_,rfl,?_⟩
  refine wpAny_letOwnedTupleGo_enum (s:={ s with heap:=h',toks:=s.toks+1 }) so fun h2 se2 sb=>?_
  have hlt:e<s.heap.objs.size:=ah4 se
  obtain⟨oi,eoi,_,_⟩:=id si
  have hlt2:it<s.heap.objs.size:=ah4 eoi
  have kk:∀ b o,b∉[e,it]->s.heap.get? b=some o->h2.get? b=some o:=fun b o hb eb=>by
   have h1:b≠e:=fun z=>hb (by simp [z])
   have h2':b≠it:=fun z=>hb (by simp [z])
   exact (sb.2 b h1).trans (kp b o h1 h2' eb)
  have I2:Inv X pins σ (upd H s.heap.objs.size (.tup [.int i,x])) { s with heap:=h2,toks:=s.toks+1 }:=I.turnedNew hf kk (aie _)
   ⟨by show 2<=sizeLine;decide,[.int i s.toks,u],.cons ⟨_,rfl⟩ (.cons ru .nil),⟨_,(sb.2 _ (aj7 hlt)).trans tp,rfl,_,rfl⟩⟩
  refine⟨.ref s.heap.objs.size,_,I2,rfl,⟨_,x,rfl,I.fresh,rfl,fun ys hy=>by rw [I.list_inj hy hq];exact hx⟩,⟨⟨_,se2⟩,?_⟩,fun b hb=>?_⟩
  ·exact si'.at fun o eo=>(sb.2 it (aje hne)).trans eo
  ·rw [zk]
   ·exact (hf b hb).1
   ·rcases ah7.mp hb with z | z
    ·subst z;exact aii hlt
    ·have z:b=it:=by simpa using z
     subst z;exact aii hlt2
 done:=by
  intro X hP hw hK hc i pins s σ H E I hf st hg
  subst hP hw hK
  obtain⟨xs,hq,hx⟩:=hg
  obtain⟨its,rv,p,hz⟩:=I.list hq
  obtain⟨⟨old,se⟩,si⟩:=st
  have hl:=rv.length
  exact wpAny_pyNext_enum_end (I.ok.hd hc) se si p.isList (by simp;omega) fun h' eb=>⟨rfl,I.turnedAll (t':=s.toks) hf fun b o hb e'=>eb b o (fun z=>hb (by simp [z])) e'⟩
 self:=fun _ _ _ _ _ st h=>let⟨_,se⟩:=st.1;wpAny_pyIter_enum se h
section
variable {X:Cx} {es:List Expr} {k:Nat} {tpos:Pos}
noncomputable def adR (K:ahX) (ta:TA):TI:=fun σ H R=>ta σ H fun vs H1=>∃ a,vs=[.ref a]/\(∃ xs,SqL K H1 a xs)/\R (Ite K a) H1
theorem ae4 {a:Expr} {ta:TA} {p pos:Pos} (hg:Gl X "enumerate") (hm:X.mg "enumerate"=none) (ha:PA X [a] ta) (hs:starEach [a] X.env=[(false,eval a X.env)]:=by rfl):PI X (.Tuple es k tpos) (.Call (.Name "enumerate" p) [a] [] pos) (adR X.K ta):=by
 intro pins s σ H R I h
 refine Call_ (vn I hg hm boot_enumerate (ajt (thn (ha pos pins s σ H _ I h) fun us s1 ⟨vs,H1,I1,r1,q1⟩=>?_) hs rfl))
 obtain⟨l,e,⟨xs,hq⟩,q⟩:=q1
 subst e
 cases r1 with
 | cons r rr =>
  cases rr
  cases r
  obtain⟨its,rv,p,hz⟩:=I1.list hq
  refine call_enumerate_list p.isList fun h' he hi hsz kp=>?_
  refine wpAny_pyIter_enum he ?_
  have hne:s1.heap.objs.size+1≠s1.heap.objs.size:=Nat.succ_ne_self _
  refine⟨s1.heap.objs.size+1,[s1.heap.objs.size+1,s1.heap.objs.size],_,_,H1,rfl,I1.kept (t':=s1.toks) kp,acT l _ _ hne,⟨⟨_,he⟩,hi⟩,fun b hb=>?_,q⟩
  rcases ah7.mp hb with z | z
  ·subst z;exact I1.fpOk (akN _) (I1.hok.fresh (akN _))
  ·have z:b=s1.heap.objs.size:=by simpa using z
   subst z;exact I1.fpOk (aie _) (I1.hok.fresh (aie _))
end
mutual
noncomputable def Rep (K:ahX) (H:Hp):PyData->V->Prop
 | .none,v=>v=.non
 | .bool b,v=>v=.bl b
 | .int i,v=>v=.int i
 | .str x,v=>v=.str x
 | .list ds,v=>∃ a xs,v=.ref a/\SqL K H a xs/\Reps K H ds xs
 | .tuple ds,v=>∃ a xs,v=.ref a/\SqT K H a xs/\Reps K H ds xs
 | .dict _,_=>False
noncomputable def Reps (K:ahX) (H:Hp):List PyData->List V->Prop
 | [],xs=>xs=[]
 | d :: ds,xs=>∃ x r,xs=x :: r/\Rep K H d x/\Reps K H ds r
end
theorem Same.seqT {K:ahX} {H H':Hp} {a:Addr} {xs:List V} (e:Same H H') (h:SqT K H a xs):SqT K H' a xs:=by
 rcases h with (h | ⟨o,h⟩) | h
 ·exact .inl (.inl (e _ _ h))
 ·exact .inl (.inr ⟨o,e _ _ h⟩)
 ·exact .inr h
mutual
theorem Rep.mono {K:ahX} {H H':Hp} (e:Same H H'):∀ (d:PyData) (v:V),Rep K H d v->Rep K H' d v
 | .none,_,h=>by rw [Rep] at h ⊢;exact h
 | .bool _,_,h=>by rw [Rep] at h ⊢;exact h
 | .int _,_,h=>by rw [Rep] at h ⊢;exact h
 | .str _,_,h=>by rw [Rep] at h ⊢;exact h
 | .list ds,v,h=>by
  rw [Rep] at h ⊢
  obtain⟨a,xs,h1,h2,h3⟩:=h
  exact⟨a,xs,h1,e.seq h2,Reps.mono e ds xs h3⟩
 | .tuple ds,v,h=>by
  rw [Rep] at h ⊢
  obtain⟨a,xs,h1,h2,h3⟩:=h
  exact⟨a,xs,h1,e.seqT h2,Reps.mono e ds xs h3⟩
 | .dict _,_,h=>by rw [Rep] at h;exact h.elim
theorem Reps.mono {K:ahX} {H H':Hp} (e:Same H H'):∀ (ds:List PyData) (xs:List V),Reps K H ds xs->Reps K H' ds xs
 | [],_,h=>by rw [Reps] at h ⊢;exact h
 | d :: ds,xs,h=>by
  rw [Reps] at h ⊢
  obtain⟨x,r,h1,h2,h3⟩:=h
  exact⟨x,r,h1,Rep.mono e d x h2,Reps.mono e ds r h3⟩
end
theorem rep_int {K:ahX} {H:Hp} {i:Int} {v:V}:Rep K H (.int i) v↔v=.int i:=by rw [Rep]
theorem rep_bool {K:ahX} {H:Hp} {b:Bool} {v:V}:Rep K H (.bool b) v↔v=.bl b:=by rw [Rep]
theorem rep_none {K:ahX} {H:Hp} {v:V}:Rep K H .none v↔v=.non:=by rw [Rep]
theorem rep_str {K:ahX} {H:Hp} {x:Str} {v:V}:Rep K H (.str x) v↔v=.str x:=by rw [Rep]
theorem rep_list {K:ahX} {H:Hp} {ds:List PyData} {v:V}:Rep K H (.list ds) v↔∃ a xs,v=.ref a/\SqL K H a xs/\Reps K H ds xs:=by rw [Rep]
theorem rep_tuple {K:ahX} {H:Hp} {ds:List PyData} {v:V}:Rep K H (.tuple ds) v↔∃ a xs,v=.ref a/\SqT K H a xs/\Reps K H ds xs:=by rw [Rep]
theorem reps_nil {K:ahX} {H:Hp} {xs:List V}:Reps K H [] xs↔xs=[]:=by rw [Reps]
theorem reps_cons {K:ahX} {H:Hp} {d:PyData} {ds:List PyData} {xs:List V}:Reps K H (d :: ds) xs↔∃ x r,xs=x :: r/\Rep K H d x/\Reps K H ds r:=by rw [Reps]
theorem Reps.nil' {K:ahX} {H:Hp}:Reps K H [] []:=reps_nil.mpr rfl
theorem Reps.cons' {K:ahX} {H:Hp} {d:PyData} {ds:List PyData} {x:V} {r:List V} (h:Rep K H d x) (t:Reps K H ds r):Reps K H (d :: ds) (x :: r):=reps_cons.mpr ⟨x,r,rfl,h,t⟩
theorem Reps.length {K:ahX} {H:Hp}:∀ {ds:List PyData} {xs:List V},Reps K H ds xs->xs.length=ds.length
 | [],xs,h=>by rw [reps_nil.mp h];rfl
 | d :: ds,xs,h=>by
  obtain⟨x,r,rfl,_,h3⟩:=reps_cons.mp h
  rw [aiA,aiA,Reps.length h3]
theorem Reps.get {K:ahX} {H:Hp}:∀ {ds:List PyData} {xs:List V} {i:Nat} {d:PyData},Reps K H ds xs->ds[i]?=some d->∃ x,xs[i]?=some x/\Rep K H d x
 | [],_,_,_,_,e=>by simp at e
 | d :: ds,xs,0,d',h,e=>by
  obtain⟨x,r,rfl,h2,_⟩:=reps_cons.mp h
  simp at e;subst e
  exact⟨x,rfl,h2⟩
 | d :: ds,xs,i+1,d',h,e=>by
  obtain⟨x,r,rfl,_,h3⟩:=reps_cons.mp h
  obtain⟨y,h1,h2⟩:=Reps.get (i:=i) h3 (by simpa using e)
  exact⟨y,by simpa using h1,h2⟩
theorem Reps.snoc {K:ahX} {H:Hp} {d:PyData} {x:V} (h:Rep K H d x):∀ {ds:List PyData} {xs:List V},Reps K H ds xs->Reps K H (ds++[d]) (xs++[x])
 | [],xs,t=>by rw [reps_nil.mp t];exact .cons' h .nil'
 | d' :: ds,xs,t=>by
  obtain⟨y,r,rfl,h2,h3⟩:=reps_cons.mp t
  exact .cons' h2 (Reps.snoc h h3)
theorem Reps.append {K:ahX} {H:Hp}:∀ {ds es:List PyData} {xs ys:List V},Reps K H ds xs->Reps K H es ys->Reps K H (ds++es) (xs++ys)
 | [],es,xs,ys,t,u=>by rw [reps_nil.mp t];exact u
 | d' :: ds,es,xs,ys,t,u=>by
  obtain⟨y,r,rfl,h2,h3⟩:=reps_cons.mp t
  exact .cons' h2 (Reps.append h3 u)
theorem Reps.ints {K:ahX} {H:Hp}:∀ {ns:List Int} {xs:List V},Reps K H (ns.map .int) xs->xs=ns.map V.int
 | [],xs,h=>reps_nil.mp h
 | n :: ns,xs,h=>by
  obtain⟨x,r,rfl,h2,h3⟩:=reps_cons.mp h
  rw [rep_int.mp h2,Reps.ints h3];rfl
theorem Reps.ints' {K:ahX} {H:Hp}:∀ (ns:List Int),Reps K H (ns.map .int) (ns.map V.int)
 | []=>.nil'
 | n :: ns=>.cons' (rep_int.mpr rfl) (Reps.ints' ns)
section
variable {X:Cx} {pins:List (Addr×Obj)} {σ:St} {H:Hp} {s:Shared}
mutual
theorem yI (I:Inv X pins σ H s):∀ (d:PyData) (v:V) (u:Value),Rep X.K H d v->RelV v u->∃ as,Reads s.heap u d as
 | .none,v,u,h,r=>by rw [rep_none.mp h] at r;cases r;exact⟨_,.none⟩
 | .bool b,v,u,h,r=>by rw [rep_bool.mp h] at r;cases r;exact⟨_,.bool b⟩
 | .int i,v,u,h,r=>by rw [rep_int.mp h] at r;obtain⟨t,rfl⟩:=r;exact⟨_,.int i t⟩
 | .str x,v,u,h,r=>by rw [rep_str.mp h] at r;obtain⟨t,rfl⟩:=r;exact⟨_,.str x t⟩
 | .list ds,v,u,h,r=>by
  obtain⟨a,xs,rfl,h2,h3⟩:=rep_list.mp h
  cases r
  obtain⟨its,rv,p,_⟩:=I.list h2
  obtain⟨o,ho,hc,n,hd⟩:=p.isList
  obtain⟨as,ra⟩:=jM I ds xs its h3 rv
  exact⟨_,.list ho hc hd (by simpa using ra)⟩
 | .tuple ds,v,u,h,r=>by
  obtain⟨a,xs,rfl,h2,h3⟩:=rep_tuple.mp h
  cases r
  obtain⟨its,rv,p,_⟩:=I.tuple h2
  obtain⟨o,ho,hc,n,hd⟩:=p
  obtain⟨as,ra⟩:=jM I ds xs its h3 rv
  exact⟨_,.tuple ho hc hd (by simpa using ra)⟩
 | .dict _,_,_,h,_=>by rw [Rep] at h;exact h.elim
theorem jM (I:Inv X pins σ H s):∀ (ds:List PyData) (xs:List V) (us:List Value),Reps X.K H ds xs->Vals xs us->∃ as,ReadsAll s.heap us ds as
 | [],xs,us,h,r=>by rw [reps_nil.mp h] at r;cases r;exact⟨_,.nil⟩
 | d :: ds,xs,us,h,r=>by
  obtain⟨x,q,rfl,h2,h3⟩:=reps_cons.mp h
  cases r with
  | cons r1 r2 =>
   obtain⟨as,ra⟩:=yI I d x _ h2 r1
   obtain⟨bs,rb⟩:=jM I ds q _ h3 r2
   exact⟨_,.cons ra rb⟩
end
noncomputable def adS (K:ahX) (neg:Bool):R2:=fun x y H Q=>∃ d d',Rep K H d x/\Rep K H d' y/\d.canLay0=true/\d'.canLay0=true/\min d.depth d'.depth<=60/\Q (.bl (if neg then !aiK d d' else aiK d d')) H
theorem ags (hu:X.A.units+64<cLine):OpR X (compareOp .Eq) (adS X.K false):=by
 intro pins s σ H x y v u Q I rx ry h
 obtain⟨d,d',h1,h2,c1,c2,hm,q⟩:=h
 obtain⟨as,ra⟩:=yI I d x v h1 rx
 obtain⟨bs,rb⟩:=yI I d' y u h2 ry
 exact SeqAt.compareEq_reads ra rb c1 c2 (by omega) ⟨.bl (aiK d d'),H,I,rfl,q⟩
theorem agt (hu:X.A.units+64<cLine):OpR X (compareOp .NotEq) (adS X.K true):=by
 intro pins s σ H x y v u Q I rx ry h
 obtain⟨d,d',h1,h2,c1,c2,hm,q⟩:=h
 obtain⟨as,ra⟩:=yI I d x v h1 rx
 obtain⟨bs,rb⟩:=yI I d' y u h2 ry
 exact SeqAt.compareNe_reads ra rb c1 c2 (by omega) ⟨.bl (!aiK d d'),H,I,rfl,q⟩
theorem acU (hc:X.calm=true):yn X (.builtin "min") (fun xs H Q=>∃ a ns,xs=[.ref a]/\SqL X.K H a (ns.map V.int)/\ns≠[]/\∀ M,M∈ns->(∀ b∈ns,M<=b)->Q (.int M) H):=by
 intro pins s σ H xs us Q I r h
 obtain⟨a,ns,rfl,hq,hne,q⟩:=h
 obtain⟨u,rfl,r1⟩:=vals1 r
 cases r1
 obtain⟨its,rv,p,_⟩:=I.list hq
 obtain⟨m,F⟩:=I.fr
 have hi:=intsAre_of rv
 obtain⟨ys,e⟩:=hi.allInts.items
 have hns:ns=ys.toList.map (·.1):=by rw [<-hi.numsOf,<- nums_intItems,<- e]
 have hsz:0<ys.size:=by
  have h3:0<ns.length:=aj1.mpr hne
  rw [hns,ahZ,aiH] at h3;exact h3
 have hl:=p.isList
 rw [e] at hl
 refine min_intList (I.ok.hd hc) hl hsz fun v h' tk hv hk=>?_
 obtain⟨t,rfl⟩:=intItems_at hv
 obtain⟨_,h2⟩:=argBest_lt (numAt ys) (ys.size - 1)
 refine⟨.int _,H,I.kept (t':=tk) hk,⟨t,rfl⟩,q _ ?_ fun b hb=>?_⟩
 ·rw [hns,numAt_eq];exact getD_mem (by rw [ahZ,aiH];omega)
 ·rw [hns] at hb
  obtain⟨j,hj,rfl⟩:=mem_getD hb
  rw [ahZ,aiH] at hj
  rw [<-numAt_eq];exact h2 j (by omega)
theorem acV (hc:X.calm=true):yn X (.builtin "max") (fun xs H Q=>∃ a ns,xs=[.ref a]/\SqL X.K H a (ns.map V.int)/\ns≠[]/\∀ M,M∈ns->(∀ b∈ns,b<=M)->Q (.int M) H):=by
 intro pins s σ H xs us Q I r h
 obtain⟨a,ns,rfl,hq,hne,q⟩:=h
 obtain⟨u,rfl,r1⟩:=vals1 r
 cases r1
 obtain⟨its,rv,p,_⟩:=I.list hq
 have hi:=intsAre_of rv
 obtain⟨ys,e⟩:=hi.allInts.items
 have hns:ns=ys.toList.map (·.1):=by rw [<-hi.numsOf,<- nums_intItems,<- e]
 have hsz:0<ys.size:=by
  have h3:0<ns.length:=aj1.mpr hne
  rw [hns,ahZ,aiH] at h3;exact h3
 have hl:=p.isList
 rw [e] at hl
 refine max_intList (I.ok.hd hc) hl hsz fun v h' tk hv hk=>?_
 obtain⟨t,rfl⟩:=intItems_at hv
 obtain⟨_,h2⟩:=argBest_gt (numAt ys) (ys.size - 1)
 refine⟨.int _,H,I.kept (t':=tk) hk,⟨t,rfl⟩,q _ ?_ fun b hb=>?_⟩
 ·rw [hns,numAt_eq];exact getD_mem (by rw [ahZ,aiH];omega)
 ·rw [hns] at hb
  obtain⟨j,hj,rfl⟩:=mem_getD hb
  rw [ahZ,aiH] at hj
  rw [<-numAt_eq];exact h2 j (by omega)
end
inductive DV where
 | dat (d:PyData)
 | feed
 | own (k:Nat)
 | exc (C:Value)
 | mon (φ:Hp->V->Prop)
noncomputable abbrev zl:=List (Option DV)
structure Fx where
 f:Option Addr
 M:List Addr
noncomputable def hide (H:Hp) (f:Fx):Hp:=fun b=>if f.f=some b \/ b∈f.M then none else H b
structure FOk (f:Fx) (H:Hp):Prop where
 fd:∀ p,f.f=some p->∃ a b:Int,H p=some (.lst [.int a,.int b])/\0<=a/\0<=b/\b<2147483647
 mm:∀ b∈f.M,∃ o,H b=some o
 nm:∀ p,f.f=some p->p∉f.M
noncomputable def RepV (K:ahX) (f:Fx) (H:Hp):DV->V->Prop
 | .dat d,v=>Rep K (hide H f) d v
 | .feed,v=>∃ p,f.f=some p/\v=.ref p
 | .own k,v=>∃ p,f.M.reverse[k]?=some p/\v=.ref p
 | .exc C,v=>∃ a,v=.ref a/\hide H f a=some (.ext fun h=>∃ o,h.get? a=some o/\o.cls=C)
 | .mon φ,v=>∀ H',Same (hide H f) H'->φ H' v
structure Goes (f:Fx) (H H':Hp):Prop where
 sm:Same (hide H f) (hide H' f)
 ok:FOk f H'
 kp:∀ b∈f.M,H' b=H b
structure EnvOk (K:ahX) (f:Fx) (ρ:zl) (σ:St) (H:Hp):Prop where
 len:ρ.length=σ.length
 get:∀ (i:Nat) x,ρ[i]?=some (some x)->∃ v,σ[i]?=some (some v)/\RepV K f H x v
 fd:FOk f H
theorem yu (H:Hp):hide H ⟨none,[]⟩=H:=by funext b;unfold hide;rw [if_neg (by rintro (h | h) <;> cases h)]
theorem zo (H:Hp) (f:Fx):Same (hide H f) H:=fun b o h=>by
 unfold hide at h
 split at h
 ·cases h
 ·exact h
theorem zH {H:Hp} {f:Fx} {b:Addr} {o:HO} (h:hide H f b=some o):¬ (f.f=some b \/ b∈f.M)/\H b=some o:=by
 unfold hide at h
 split at h
 ·cases h
 ·rename_i n;exact⟨n,h⟩
theorem zw {H:Hp} {f:Fx} {b:Addr} {o:HO} (n:¬ (f.f=some b \/ b∈f.M)) (h:H b=some o):hide H f b=some o:=by unfold hide;rw [if_neg n];exact h
theorem Goes.refl {f:Fx} {H:Hp} (h:FOk f H):Goes f H H:=⟨Same.refl _,h,fun _ _=>rfl⟩
theorem Goes.trans {f:Fx} {H H1 H2:Hp} (a:Goes f H H1) (b:Goes f H1 H2):Goes f H H2:=⟨a.1.trans b.1,b.2,fun x hx=>(b.kp x hx).trans (a.kp x hx)⟩
theorem Goes.of_same {f:Fx} {H H':Hp} (s:Same H H') (h:FOk f H):Goes f H H' :=
 ⟨fun b o e=>zw (zH e).1 (s b o (zH e).2),⟨fun p e=>let⟨a,b,h1,h2⟩:=h.fd p e;⟨a,b,s _ _ h1,h2⟩,fun b hb=>let⟨o,e⟩:=h.mm b hb;⟨o,s _ _ e⟩,h.nm⟩,fun b hb=>let⟨o,e⟩:=h.mm b hb;(s _ _ e).trans e.symm⟩
theorem yh {H:Hp} {p:Addr} (h:H p=none) (o:HO):Same H (upd H p o):=fun b u q=>by rw [zk (zB q h)];exact q
theorem RepV.mono {K:ahX} {f:Fx} {H H':Hp} (g:Goes f H H'):∀ {x:DV} {v:V},RepV K f H x v->RepV K f H' x v
 | .dat d,v,h=>Rep.mono g.1 d v h
 | .feed,v,h=>h
 | .own _,v,h=>h
 | .exc _,v,h=>let⟨a,e,q⟩:=h;⟨a,e,g.1 _ _ q⟩
 | .mon _,v,h=>fun H' s=>h H' (g.1.trans s)
theorem EnvOk.mono {K:ahX} {f:Fx} {ρ:zl} {σ:St} {H H':Hp} (e:EnvOk K f ρ σ H) (g:Goes f H H'):EnvOk K f ρ σ H' :=
 ⟨e.len,fun i x h=>let⟨v,h1,h2⟩:=e.get i x h;⟨v,h1,h2.mono g⟩,g.2⟩
theorem EnvOk.set {K:ahX} {f:Fx} {ρ:zl} {σ:St} {H:Hp} {x:DV} {v:V} (e:EnvOk K f ρ σ H) (i:Nat) (r:RepV K f H x v):EnvOk K f (ρ.set i (some x)) (σ.set i (some v)) H:=by
 refine⟨by rw [aiV,aiV];exact e.len,fun j y h=>?_,e.fd⟩
 by_cases hj:i=j
 ·subst hj
  by_cases hi:i<ρ.length
  ·rw [aiM hi] at h
   cases h
   exact⟨v,by rw [aiM (by rw [<-e.len];exact hi)],r⟩
  ·rw [ajr (by rw [aiV];omega)] at h;cases h
 ·rw [aiR hj] at h ⊢
  exact e.get j y h
theorem fresh_ne {f:Fx} {H:Hp} {p:Addr} (h:FOk f H) (n:H p=none):¬ (f.f=some p \/ p∈f.M):=fun e=>by
 rcases e with e | e
 ·obtain⟨a,b,h1,_⟩:=h.fd p e
  rw [n] at h1;cases h1
 ·obtain⟨o,h1⟩:=h.mm p e
  rw [n] at h1;cases h1
inductive RepVs (K:ahX) (f:Fx) (H:Hp):List DV->List V->Prop where
 | nil:RepVs K f H [] []
 | cons {x v xs vs}:RepV K f H x v->RepVs K f H xs vs->RepVs K f H (x :: xs) (v :: vs)
theorem RepVs.mono {K:ahX} {f:Fx} {H H':Hp} (g:Goes f H H'):∀ {xs:List DV} {vs:List V},RepVs K f H xs vs->RepVs K f H' xs vs
 | _,_,.nil=>.nil
 | _,_,.cons r t=>.cons (r.mono g) (t.mono g)
theorem RepVs.length {K:ahX} {f:Fx} {H:Hp}:∀ {xs:List DV} {vs:List V},RepVs K f H xs vs->vs.length=xs.length
 | _,_,.nil=>rfl
 | _,_,.cons _ t=>by rw [aiA,aiA,t.length]
section
variable (K:ahX) (f:Fx)
noncomputable def PEd (te:TE) (ρ:zl) (P:PyData->Prop):Prop:=∀ (σ:St) (H:Hp) (Q:VK),EnvOk K f ρ σ H->(∀ d v H',Goes f H H'->Rep K (hide H' f) d v->P d->Q v H')->te σ H Q
noncomputable def PTd (tt:TT) (ρ:zl) (P:Bool->Prop):Prop:=∀ (σ:St) (H:Hp) (Q:Bool->Hp->Prop),EnvOk K f ρ σ H->(∀ b H',Goes f H H'->P b->Q b H')->tt σ H Q
noncomputable def PAd (ta:TA) (ρ:zl) (P:List DV->Prop):Prop:=∀ (σ:St) (H:Hp) (Q:List V->Hp->Prop),EnvOk K f ρ σ H->(∀ xs vs H',Goes f H H'->RepVs K f H' xs vs->P xs->Q vs H')->ta σ H Q
structure DEnds where
 nx:zl->Prop
 rt:PyData->Prop
 bk:zl->Prop:=fun _=>False
 ct:zl->Prop:=fun _=>False
noncomputable def PSd (ts:TS) (ρ:zl) (D:DEnds):Prop:=∀ (σ:St) (H:Hp) (E:Ends),EnvOk K f ρ σ H->(∀ ρ' σ' H',Goes f H H'->EnvOk K f ρ' σ' H'->D.nx ρ'->E.nx σ' H')->(∀ d v H',Goes f H H'->Rep K (hide H' f) d v->D.rt d->E.rt v H') ->
 (∀ ρ' σ' H',Goes f H H'->EnvOk K f ρ' σ' H'->D.bk ρ'->E.bk σ' H')->(∀ ρ' σ' H',Goes f H H'->EnvOk K f ρ' σ' H'->D.ct ρ'->E.ct σ' H')->ts E σ H
noncomputable def spD {γ:Type} (n:Nat) (pre:γ->List DV->Prop) (post:γ->PyData->Prop):Sp:=fun vs H Q _=>∃ f xs c,RepVs K f H xs vs/\xs.length=n/\FOk f H/\pre c xs/\∀ r v H',Goes f H H'->Rep K (hide H' f) r v->post c r->Q v H'
end
section
variable {K:ahX} {f:Fx} {ρ:zl} {P:PyData->Prop} {te ta tb tc:TE}
theorem ze {i:Nat} {d:PyData} (h:ρ[i]?=some (some (.dat d))) (p:P d):PEd K f (je i) ρ P:=fun σ H Q e q=>by
 obtain⟨v,h1,h2⟩:=e.get i _ h
 exact⟨v,h1,q d v H (.refl e.fd) h2 p⟩
theorem zM {i:Int} (p:P (.int i)):PEd K f (tC (.int i)) ρ P:=fun σ H Q e q=>q (.int i) _ H (.refl e.fd) (rep_int.mpr rfl) p
theorem agu {i:Bool} (p:P (.bool i)):PEd K f (tC (.bl i)) ρ P:=fun σ H Q e q=>q (.bool i) _ H (.refl e.fd) (rep_bool.mpr rfl) p
theorem zR {i:Str} (p:P (.str i)):PEd K f (tC (.str i)) ρ P:=fun σ H Q e q=>q (.str i) _ H (.refl e.fd) (rep_str.mpr rfl) p
theorem acj (p:P .none):PEd K f (tC .non) ρ P:=fun σ H Q e q=>q .none _ H (.refl e.fd) (rep_none.mpr rfl) p
theorem PEd.imp {P':PyData->Prop} (h:PEd K f te ρ P) (i:∀ d,P d->P' d):PEd K f te ρ P':=fun σ H Q e q=>h σ H Q e fun d v H' g r p=>q d v H' g r (i d p)
theorem vA {r:R2} (h:PEd K f ta ρ fun x=>PEd K f tb ρ fun y=>∀ (v w:V) (H:Hp) (Q:VK),FOk f H->Rep K (hide H f) x v->Rep K (hide H f) y w->(∀ d u H',Goes f H H'->Rep K (hide H' f) d u->P d->Q u H')->r v w H Q):PEd K f (tOp r ta tb) ρ P:=fun σ H Q e q =>
 h σ H _ e fun x v H1 g1 r1 p1=>p1 σ H1 _ (e.mono g1) fun y w H2 g2 r2 p2=>p2 v w H2 Q g2.2 (Rep.mono g2.1 x v r1) r2 fun d u H' g' r' p'=>q d u H' (g1.trans (g2.trans g')) r' p'
theorem ahN {r:V->Hp->VK->Prop} (h:PEd K f ta ρ fun x=>∀ (v:V) (H:Hp) (Q:VK),FOk f H->Rep K (hide H f) x v->(∀ d u H',Goes f H H'->Rep K (hide H' f) d u->P d->Q u H')->r v H Q):PEd K f (tUn r ta) ρ P:=fun σ H Q e q =>
 h σ H _ e fun x v H1 g1 r1 p1=>p1 v H1 Q g1.2 r1 fun d u H' g' r' p'=>q d u H' (g1.trans g') r' p'
theorem jN {g:Int->Int->Int} (h:PEd K f ta ρ fun x=>∃ i,x=.int i/\PEd K f tb ρ fun y=>∃ j,y=.int j/\P (.int (g i j))):PEd K f (tOp (rI0 fun i j=>.int (g i j)) ta tb) ρ P :=
 vA (h.imp fun x ⟨i,ex,h2⟩=>h2.imp fun y ⟨j,ey,p⟩ v w H Q fo rx ry q=>by
  subst ex ey
  exact⟨i,j,rep_int.mp rx,rep_int.mp ry,q _ _ H (.refl fo) (rep_int.mpr rfl) p⟩)
theorem adT {C:Int->Int->Prop} {g:Int->Int->Int} (h:PEd K f ta ρ fun x=>∃ i,x=.int i/\PEd K f tb ρ fun y=>∃ j,y=.int j/\C i j/\P (.int (g i j))):PEd K f (tOp (rI C fun i j=>.int (g i j)) ta tb) ρ P :=
 vA (h.imp fun x ⟨i,ex,h2⟩=>h2.imp fun y ⟨j,ey,c,p⟩ v w H Q fo rx ry q=>by
  subst ex ey
  exact⟨i,j,rep_int.mp rx,rep_int.mp ry,c,q _ _ H (.refl fo) (rep_int.mpr rfl) p⟩)
theorem aa4 {g:Int->Int->Bool} (h:PEd K f ta ρ fun x=>∃ i,x=.int i/\PEd K f tb ρ fun y=>∃ j,y=.int j/\P (.bool (g i j))):PEd K f (tOp (rI0 fun i j=>.bl (g i j)) ta tb) ρ P :=
 vA (h.imp fun x ⟨i,ex,h2⟩=>h2.imp fun y ⟨j,ey,p⟩ v w H Q fo rx ry q=>by
  subst ex ey
  exact⟨i,j,rep_int.mp rx,rep_int.mp ry,q _ _ H (.refl fo) (rep_bool.mpr rfl) p⟩)
theorem jO {neg:Bool} (h:PEd K f ta ρ fun x=>PEd K f tb ρ fun y=>x.canLay0=true/\y.canLay0=true/\min x.depth y.depth<=60/\P (.bool (if neg then !aiK x y else aiK x y))):PEd K f (tOp (adS K neg) ta tb) ρ P :=
 vA (h.imp fun x h2=>h2.imp fun y ⟨c1,c2,c3,p⟩ v w H Q fo rx ry q =>
  ⟨x,y,Rep.mono (zo _ _) x v rx,Rep.mono (zo _ _) y w ry,c1,c2,c3,q _ _ H (.refl fo) (rep_bool.mpr rfl) p⟩)
theorem qt (h:PEd K f ta ρ fun x=>∃ ds,x=.list ds/\PEd K f tb ρ fun y=>∃ k,y=.int k/\∃ d,atI ds k=some d/\P d):PEd K f (tOp (adM K) ta tb) ρ P :=
 vA (h.imp fun x ⟨ds,ex,h2⟩=>h2.imp fun y ⟨k,ey,d,a,p⟩ v w H Q fo rx ry q=>by
  subst ex ey
  obtain⟨l,xs,rfl,hs,hr⟩:=rep_list.mp rx
  unfold atI at a
  cases hi:ixN ds.length k with
  | none=>rw [hi] at a;cases a
  | some j =>
   rw [hi] at a
   obtain⟨u,hu,ru⟩:=hr.get a
   exact⟨l,xs,k,u,rfl,rep_int.mp ry,(zo H f).seq hs,by unfold atI;rw [hr.length,hi];exact hu,q d u H (.refl fo) ru p⟩)
theorem afU (h:PEd K f ta ρ fun x=>∃ ds,x=.tuple ds/\PEd K f tb ρ fun y=>∃ k,y=.int k/\∃ d,atI ds k=some d/\P d):PEd K f (tOp (aeY K) ta tb) ρ P :=
 vA (h.imp fun x ⟨ds,ex,h2⟩=>h2.imp fun y ⟨k,ey,d,a,p⟩ v w H Q fo rx ry q=>by
  subst ex ey
  obtain⟨l,xs,rfl,hs,hr⟩:=rep_tuple.mp rx
  unfold atI at a
  cases hi:ixN ds.length k with
  | none=>rw [hi] at a;cases a
  | some j =>
   rw [hi] at a
   obtain⟨u,hu,ru⟩:=hr.get a
   exact⟨l,xs,k,u,rfl,rep_int.mp ry,(zo H f).seqT hs,by unfold atI;rw [hr.length,hi];exact hu,q d u H (.refl fo) ru p⟩)
theorem ahk {i:Nat} (hi:ρ[i]?=some (some .feed)) (h:PEd K f tb ρ fun y=>(y=.int 0/\∀ a:Int,0<=a->P (.int a)) \/ (y=.int 1/\∀ b:Int,0<=b->b<2147483647->P (.int b))):PEd K f (tOp (adM K) (je i) tb) ρ P:=fun σ H Q e q=>by
 obtain⟨v,h1,p,ef,ev⟩:=e.get i _ hi
 refine⟨v,h1,h σ H _ e fun y w H' g r c=>?_⟩
 obtain⟨a,b,hf,c1,c2,c3⟩:=g.2.fd p ef
 rcases c with⟨rfl,c⟩ | ⟨rfl,c⟩
 ·exact⟨p,_,0,.int a,ev,rep_int.mp r,SqL.of hf,rfl,q (.int a) _ H' g (rep_int.mpr rfl) (c a c1)⟩
 ·exact⟨p,_,1,.int b,ev,rep_int.mp r,SqL.of hf,rfl,q (.int b) _ H' g (rep_int.mpr rfl) (c b c2 c3)⟩
theorem zD {R:List DV->Prop} (p:R []):PAd K f jh ρ R:=fun σ H Q e q=>q [] [] H (.refl e.fd) .nil p
theorem zj {R:List DV->Prop} {u:TA} (h:PEd K f te ρ fun x=>PAd K f u ρ fun xs=>R (.dat x :: xs)):PAd K f (z9 te u) ρ R:=fun σ H Q e q =>
 h σ H _ e fun x v H1 g1 r1 p1=>p1 σ H1 _ (e.mono g1) fun xs vs H2 g2 r2 p2=>q (.dat x :: xs) (v :: vs) H2 (g1.trans g2) (.cons (RepV.mono (x:=.dat x) g2 r1) r2) p2
theorem qK {R:List DV->Prop} {u:TA} {i:Nat} (hi:ρ[i]?=some (some .feed)) (h:PAd K f u ρ fun xs=>R (.feed :: xs)):PAd K f (z9 (je i) u) ρ R:=fun σ H Q e q=>by
 obtain⟨v,h1,h2⟩:=e.get i _ hi
 exact⟨v,h1,h σ H _ e fun xs vs H2 g2 r2 p2=>q (.feed :: xs) (v :: vs) H2 g2 (.cons (RepV.mono (x:=.feed) g2 h2) r2) p2⟩
noncomputable def jP:List DV->Option (List PyData)
 | []=>some []
 | .dat d :: r=>(jP r).map (d :: ·)
 | .feed :: _=>none
 | .own _ :: _=>none
 | .exc _ :: _=>none
 | .mon _ :: _=>none
theorem qu {H:Hp}:∀ {xs:List DV} {vs:List V} {ds:List PyData},RepVs K f H xs vs->jP xs=some ds->Reps K (hide H f) ds vs
 | _,_,ds,.nil,e=>by cases e;exact .nil'
 | .dat d :: xs,v :: vs,ds,.cons r t,e=>by
  unfold jP at e
  cases q:jP xs with
  | none=>rw [q] at e;cases e
  | some es=>rw [q] at e;cases e;exact .cons' r (qu t q)
 | .feed :: xs,_,ds,.cons r t,e=>by cases e
 | .own _ :: xs,_,ds,.cons r t,e=>by cases e
 | .exc _ :: xs,_,ds,.cons r t,e=>by cases e
 | .mon _ :: xs,_,ds,.cons r t,e=>by cases e
theorem jQ {t:TA} (h:PAd K f t ρ fun xs=>∃ ds,jP xs=some ds/\ds.length<=1000/\P (.list ds)):PEd K f (aeW t) ρ P:=fun σ H Q e q =>
 h σ H _ e fun xs vs H1 g1 r1 ⟨ds,ea,hl,p⟩=>by
  have rs:=qu r1 ea
  refine⟨by rw [rs.length];exact ajm (yC hl),fun l hn=>?_⟩
  have sm:=yh hn (.lst vs)
  have g2:Goes f H1 (upd H1 l (.lst vs)):=.of_same sm g1.2
  exact q (.list ds) _ _ (g1.trans g2) (rep_list.mpr ⟨l,vs,rfl,.of (zw (fresh_ne g1.2 hn) zr),Reps.mono g2.1 ds vs rs⟩) p
theorem qd {t:TA} (h:PAd K f t ρ fun xs=>∃ ds,jP xs=some ds/\ds.length<=1000/\P (.tuple ds)):PEd K f (ahh t) ρ P:=fun σ H Q e q =>
 h σ H _ e fun xs vs H1 g1 r1 ⟨ds,ea,hl,p⟩=>by
  have rs:=qu r1 ea
  refine⟨by rw [rs.length];exact ajm (yC hl),fun l hn=>?_⟩
  have sm:=yh hn (.tup vs)
  have g2:Goes f H1 (upd H1 l (.tup vs)):=.of_same sm g1.2
  exact q (.tuple ds) _ _ (g1.trans g2) (rep_tuple.mpr ⟨l,vs,rfl,.of (zw (fresh_ne g1.2 hn) zr),Reps.mono g2.1 ds vs rs⟩) p
theorem zz {γ:Type} {n:Nat} {pre:γ->List DV->Prop} {post:γ->PyData->Prop} {E:XK} {t:TA} (c:γ) (h:PAd K f t ρ fun xs=>xs.length=n/\pre c xs/\∀ r,post c r->P r):PEd K f (qq (spD K n pre post) [] E t) ρ P:=fun σ H Q e q =>
 h σ H _ e fun xs vs H1 g1 r1 ⟨hl,hp,k⟩=>by
  refine⟨f,xs,c,by rw [aiJ];exact r1,hl,g1.2,hp,fun r v H' g' r' p'=>q r v H' (g1.trans g') r' (k r p')⟩
theorem acW {r:List V->Hp->VK->Prop} {t:TA} (h:PAd K f t ρ fun xs=>∃ ds,jP xs=some ds/\∀ (vs:List V) (H:Hp) (Q:VK),FOk f H->Reps K (hide H f) ds vs->(∀ d u H',Goes f H H'->Rep K (hide H' f) d u->P d->Q u H')->r vs H Q):PEd K f (tCB r t) ρ P:=fun σ H Q e q =>
 h σ H _ e fun xs vs H1 g1 r1 ⟨ds,ea,k⟩=>k vs H1 Q g1.2 (qu r1 ea) fun d u H' g' r' p'=>q d u H' (g1.trans g') r' p'
end
section
variable {K:ahX} {f:Fx} {ρ:zl} {P:PyData->Prop} {B:Bool->Prop} {te ta tb tc:TE} {tt tu:TT}
theorem PTd.imp {B':Bool->Prop} (h:PTd K f tt ρ B) (i:∀ d,B d->B' d):PTd K f tt ρ B':=fun σ H Q e q=>h σ H Q e fun d H' g p=>q d H' g (i d p)
theorem yy (h:PEd K f te ρ fun d=>∃ k,d=.bool k/\B k):PTd K f (adG te) ρ B:=fun σ H Q e q=>h σ H _ e fun d v H' g r ⟨k,ed,p⟩=>by
 subst ed
 exact⟨k,rep_bool.mp r,q k H' g p⟩
theorem qv (h:PTd K f tt ρ fun c=>if c=true then PTd K f tu ρ B else B false):PTd K f (ag9 tt tu) ρ B:=fun σ H Q e q=>h σ H _ e fun c H1 g p=>by
 cases c with
 | true =>
  rw [if_pos rfl] at p ⊢
  exact p σ H1 Q (e.mono g) fun b H2 g2 p2=>q b H2 (g.trans g2) p2
 | false =>
  rw [if_neg ahW] at p ⊢
  exact q false H1 g p
theorem acX (h:PTd K f tt ρ fun c=>if c=true then B true else PTd K f tu ρ B):PTd K f (tOr tt tu) ρ B:=fun σ H Q e q=>h σ H _ e fun c H1 g p=>by
 cases c with
 | true =>
  rw [if_pos rfl] at p ⊢
  exact q true H1 g p
 | false =>
  rw [if_neg ahW] at p ⊢
  exact p σ H1 Q (e.mono g) fun b H2 g2 p2=>q b H2 (g.trans g2) p2
theorem qe (h:PTd K f tt ρ fun c=>B (!c)):PTd K f (aha tt) ρ B:=fun σ H Q e q=>h σ H _ e fun c H1 g p=>q (!c) H1 g p
noncomputable def ahO:PyData->Option Bool
 | .none=>some false
 | .bool b=>some b
 | .int i=>some (i != 0)
 | .list ds=>some (!ds.isEmpty)
 | .tuple ds=>some (!ds.isEmpty)
 | _=>none
noncomputable def agv (K:ahX) (ta:TE):TT:=fun σ H Q=>ta σ H fun x H'=>∃ k,agm K x H' k/\Q k H'
theorem agw {X:Cx} {a:Expr} (ha:PE X a ta) (he:∀ whole,isTrue a X.env whole=(do let v <- whole;standAt a.pos;holding [v] (truthy v))):PT X a (agv X.K ta):=adI ha he
theorem yJ (h:PEd K f ta ρ fun d=>∃ k,ahO d=some k/\B k):PTd K f (agv K ta) ρ B:=fun σ H Q e q=>h σ H _ e fun d v H' g r ⟨k,ed,p⟩=>by
 refine⟨k,?_,q k H' g p⟩
 cases d with
 | none=>rw [rep_none.mp r];cases ed;rfl
 | bool b=>rw [rep_bool.mp r];cases ed;rfl
 | int i=>rw [rep_int.mp r];cases ed;rfl
 | str x=>cases ed
 | list ds =>
  obtain⟨a,xs,rfl,h1,h2⟩:=rep_list.mp r
  cases ed
  refine .inl ⟨xs,(zo _ _).seq h1,?_⟩
  cases ds with
  | nil=>rw [reps_nil.mp h2];rfl
  | cons d ds=>obtain⟨x,r,rfl,_⟩:=reps_cons.mp h2;rfl
 | tuple ds =>
  obtain⟨a,xs,rfl,h1,h2⟩:=rep_tuple.mp r
  cases ed
  refine .inr (.inl ⟨xs,(zo _ _).seqT h1,?_⟩)
  cases ds with
  | nil=>rw [reps_nil.mp h2];rfl
  | cons d ds=>obtain⟨x,r,rfl,_⟩:=reps_cons.mp h2;rfl
 | dict _=>cases ed
theorem ahl (h:PTd K f tt ρ fun c=>if c=true then PEd K f ta ρ P else PEd K f tb ρ P):PEd K f (tIf tt ta tb) ρ P:=fun σ H Q e q=>h σ H _ e fun c H1 g p=>by
 cases c with
 | true=>rw [if_pos rfl] at p ⊢;exact p σ H1 Q (e.mono g) fun d v H2 g2 r2 p2=>q d v H2 (g.trans g2) r2 p2
 | false=>rw [if_neg ahW] at p ⊢;exact p σ H1 Q (e.mono g) fun d v H2 g2 r2 p2=>q d v H2 (g.trans g2) r2 p2
theorem abH (h:PEd K f ta ρ fun x=>∃ c,x=.bool c/\if c=true then PEd K f tb ρ P else P (.bool false)):PEd K f (afM ta tb) ρ P:=fun σ H Q e q=>h σ H _ e fun x v H1 g r ⟨c,ex,p⟩=>by
 subst ex
 refine⟨c,rep_bool.mp r,?_⟩
 cases c with
 | true=>rw [if_pos rfl] at p ⊢;exact p σ H1 Q (e.mono g) fun d v H2 g2 r2 p2=>q d v H2 (g.trans g2) r2 p2
 | false=>rw [if_neg ahW] at p ⊢;exact q _ _ H1 g (rep_bool.mpr rfl) p
theorem afV (h:PEd K f ta ρ fun x=>∃ c,x=.bool c/\if c=true then P (.bool true) else PEd K f tb ρ P):PEd K f (ahb ta tb) ρ P:=fun σ H Q e q=>h σ H _ e fun x v H1 g r ⟨c,ex,p⟩=>by
 subst ex
 refine⟨c,rep_bool.mp r,?_⟩
 cases c with
 | true=>rw [if_pos rfl] at p ⊢;exact q _ _ H1 g (rep_bool.mpr rfl) p
 | false=>rw [if_neg ahW] at p ⊢;exact p σ H1 Q (e.mono g) fun d v H2 g2 r2 p2=>q d v H2 (g.trans g2) r2 p2
theorem adU (h:PEd K f ta ρ fun x=>∃ c,x=.bool c/\P (.bool !c)):PEd K f (afN ta) ρ P:=fun σ H Q e q=>h σ H _ e fun x v H1 g r ⟨c,ex,p⟩=>by
 subst ex
 exact⟨c,rep_bool.mp r,q _ _ H1 g (rep_bool.mpr rfl) p⟩
theorem aaC {g g':Int->Int->Bool} (h:PEd K f ta ρ fun x=>∃ i,x=.int i/\PEd K f tb ρ fun y=>∃ j,y=.int j/\if g i j=true then PEd K f tc ρ fun z=>∃ k,z=.int k/\P (.bool (g' j k)) else P (.bool false)) :
  PEd K f (aby (rI0 fun i j=>.bl (g i j)) (rI0 fun i j=>.bl (g' i j)) ta tb tc) ρ P:=fun σ H Q e q=>h σ H _ e fun x v H1 g1 r1 ⟨i,ex,p1⟩=>p1 σ H1 _ (e.mono g1) fun y w H2 g2 r2 ⟨j,ey,p2⟩=>by
 subst ex ey
 refine⟨i,j,rep_int.mp r1,rep_int.mp r2,g i j,rfl,?_⟩
 by_cases hg:g i j=true
 ·rw [if_pos hg] at p2 ⊢
  exact p2 σ H2 _ ((e.mono g1).mono g2) fun z u H3 g3 r3 ⟨k,ez,p3⟩=>by
   subst ez
   exact⟨j,k,rep_int.mp r2,rep_int.mp r3,q _ _ H3 (g1.trans (g2.trans g3)) (rep_bool.mpr rfl) p3⟩
 ·rw [if_neg hg] at p2 ⊢
  exact q _ _ H2 (g1.trans g2) (rep_bool.mpr rfl) p2
theorem adV {t:TA} (h:PAd K f t ρ fun xs=>(∃ ds,xs=[.dat (.list ds)]/\P (.int ds.length)) \/ (∃ ds,xs=[.dat (.tuple ds)]/\P (.int ds.length))) :
  PEd K f (tCB (fun xs H Q=>∃ p ys,xs=[.ref p]/\(SqL K H p ys \/ SqT K H p ys)/\Q (.int ys.length) H) t) ρ P :=
 acW fun σ H Q e q=>h σ H Q e fun xs vs H' g r p=>by
  rcases p with⟨ds,rfl,p⟩ | ⟨ds,rfl,p⟩
  ·refine q _ vs H' g r ⟨_,rfl,fun vs H Q fo rs k=>?_⟩
   obtain⟨x,r,rfl,h2,h3⟩:=reps_cons.mp rs
   rw [reps_nil.mp h3]
   obtain⟨a,ys,rfl,s1,s2⟩:=rep_list.mp h2
   exact⟨a,ys,rfl,.inl ((zo _ _).seq s1),k (.int ds.length) _ H (.refl fo) (rep_int.mpr (by rw [s2.length])) p⟩
  ·refine q _ vs H' g r ⟨_,rfl,fun vs H Q fo rs k=>?_⟩
   obtain⟨x,r,rfl,h2,h3⟩:=reps_cons.mp rs
   rw [reps_nil.mp h3]
   obtain⟨a,ys,rfl,s1,s2⟩:=rep_tuple.mp h2
   exact⟨a,ys,rfl,.inr ((zo _ _).seqT s1),k (.int ds.length) _ H (.refl fo) (rep_int.mpr (by rw [s2.length])) p⟩
theorem adW {t:TA} (h:PAd K f t ρ fun xs=>∃ ns:List Int,xs=[.dat (.list (ns.map .int))]/\ns≠[]/\∀ M,M∈ns->(∀ b∈ns,M<=b)->P (.int M)) :
  PEd K f (tCB (fun xs H Q=>∃ a ns,xs=[.ref a]/\SqL K H a (ns.map V.int)/\ns≠[]/\∀ M,M∈ns->(∀ b∈ns,M<=b)->Q (.int M) H) t) ρ P :=
 acW fun σ H Q e q=>h σ H Q e fun xs vs H' g r ⟨ns,ex,hne,p⟩=>by
  subst ex
  refine q _ vs H' g r ⟨_,rfl,fun vs H Q fo rs k=>?_⟩
  obtain⟨x,r,rfl,h2,h3⟩:=reps_cons.mp rs
  rw [reps_nil.mp h3]
  obtain⟨a,ys,rfl,s1,s2⟩:=rep_list.mp h2
  rw [s2.ints] at s1
  exact⟨a,ns,rfl,(zo _ _).seq s1,hne,fun M h1 h2=>k (.int M) _ H (.refl fo) (rep_int.mpr rfl) (p M h1 h2)⟩
theorem adX {t:TA} (h:PAd K f t ρ fun xs=>∃ ns:List Int,xs=[.dat (.list (ns.map .int))]/\ns≠[]/\∀ M,M∈ns->(∀ b∈ns,b<=M)->P (.int M)) :
  PEd K f (tCB (fun xs H Q=>∃ a ns,xs=[.ref a]/\SqL K H a (ns.map V.int)/\ns≠[]/\∀ M,M∈ns->(∀ b∈ns,b<=M)->Q (.int M) H) t) ρ P :=
 acW fun σ H Q e q=>h σ H Q e fun xs vs H' g r ⟨ns,ex,hne,p⟩=>by
  subst ex
  refine q _ vs H' g r ⟨_,rfl,fun vs H Q fo rs k=>?_⟩
  obtain⟨x,r,rfl,h2,h3⟩:=reps_cons.mp rs
  rw [reps_nil.mp h3]
  obtain⟨a,ys,rfl,s1,s2⟩:=rep_list.mp h2
  rw [s2.ints] at s1
  exact⟨a,ns,rfl,(zo _ _).seq s1,hne,fun M h1 h2=>k (.int M) _ H (.refl fo) (rep_int.mpr rfl) (p M h1 h2)⟩
theorem agx {g:Int->Int->Int} {t:TA} (h:PAd K f t ρ fun xs=>∃ i j,xs=[.dat (.int i),.dat (.int j)]/\P (.int (g i j))):PEd K f (tCB (fun xs H Q=>∃ i j,xs=[.int i,.int j]/\Q (.int (g i j)) H) t) ρ P :=
 acW fun σ H Q e q=>h σ H Q e fun xs vs H' g' r ⟨i,j,ex,p⟩=>by
  subst ex
  refine q _ vs H' g' r ⟨_,rfl,fun vs H Q fo rs k=>?_⟩
  obtain⟨x,r,rfl,h2,h3⟩:=reps_cons.mp rs
  obtain⟨y,r',rfl,h4,h5⟩:=reps_cons.mp h3
  rw [reps_nil.mp h5,rep_int.mp h2,rep_int.mp h4]
  exact⟨i,j,rfl,k _ _ H (.refl fo) (rep_int.mpr rfl) p⟩
theorem agy {g:Int->Int} {t:TA} (h:PAd K f t ρ fun xs=>∃ i,xs=[.dat (.int i)]/\P (.int (g i))):PEd K f (tCB (fun xs H Q=>∃ i,xs=[.int i]/\Q (.int (g i)) H) t) ρ P :=
 acW fun σ H Q e q=>h σ H Q e fun xs vs H' g' r ⟨i,ex,p⟩=>by
  subst ex
  refine q _ vs H' g' r ⟨_,rfl,fun vs H Q fo rs k=>?_⟩
  obtain⟨x,r,rfl,h2,h3⟩:=reps_cons.mp rs
  rw [reps_nil.mp h3,rep_int.mp h2]
  exact⟨i,rfl,k _ _ H (.refl fo) (rep_int.mpr rfl) p⟩
end
section
variable {K:ahX} {f:Fx} {ρ:zl} {D:DEnds} {te ta tb:TE} {tt:TT} {ts tu:TS}
theorem yf (p:D.nx ρ):PSd K f adv ρ D:=fun σ H E e n _ _ _=>n ρ σ H (.refl e.fd) e p
theorem zX (h:PSd K f ts ρ { D with nx:=fun ρ'=>PSd K f tu ρ' D }):PSd K f (vo ts tu) ρ D:=fun σ H E e n r b c =>
 h σ H { E with nx:=tu E } e (fun ρ' σ' H' g e' p=>p σ' H' E e' (fun ρ'' σ'' H'' g' e'' p'=>n ρ'' σ'' H'' (g.trans g') e'' p') (fun d v H'' g' r' p'=>r d v H'' (g.trans g') r' p') (fun ρ'' σ'' H'' g' e'' p'=>b ρ'' σ'' H'' (g.trans g') e'' p') (fun ρ'' σ'' H'' g' e'' p'=>c ρ'' σ'' H'' (g.trans g') e'' p')) r b c
theorem zN (h:PEd K f te ρ D.rt):PSd K f (aeR te) ρ D:=fun σ H E e n r b c=>h σ H _ e r
theorem aa5 (h:PTd K f tt ρ fun b=>if b=true then PSd K f ts ρ D else PSd K f tu ρ D):PSd K f (abw tt ts tu) ρ D:=fun σ H E e n r b c=>h σ H _ e fun k H1 g p=>by
 cases k with
 | true =>
  rw [if_pos rfl] at p ⊢
  exact p σ H1 E (e.mono g) (fun ρ'' σ'' H'' g' e'' p'=>n ρ'' σ'' H'' (g.trans g') e'' p') (fun d v H'' g' r' p'=>r d v H'' (g.trans g') r' p') (fun ρ'' σ'' H'' g' e'' p'=>b ρ'' σ'' H'' (g.trans g') e'' p') (fun ρ'' σ'' H'' g' e'' p'=>c ρ'' σ'' H'' (g.trans g') e'' p')
 | false =>
  rw [if_neg ahW] at p ⊢
  exact p σ H1 E (e.mono g) (fun ρ'' σ'' H'' g' e'' p'=>n ρ'' σ'' H'' (g.trans g') e'' p') (fun d v H'' g' r' p'=>r d v H'' (g.trans g') r' p') (fun ρ'' σ'' H'' g' e'' p'=>b ρ'' σ'' H'' (g.trans g') e'' p') (fun ρ'' σ'' H'' g' e'' p'=>c ρ'' σ'' H'' (g.trans g') e'' p')
noncomputable def PGd (K:ahX) (f:Fx) (g:TG) (d:PyData) (ρ:zl) (R:zl->Prop):Prop:=∀ (σ:St) (H:Hp) (v:V) (Q:St->Hp->Prop),EnvOk K f ρ σ H->Rep K (hide H f) d v->(∀ ρ' σ' H',Goes f H H'->EnvOk K f ρ' σ' H'->R ρ'->Q σ' H')->g v σ H Q
noncomputable def ae5 (K:ahX) (f:Fx) (g:TGs) (ds:List PyData) (ρ:zl) (R:zl->Prop):Prop:=∀ (σ:St) (H:Hp) (vs:List V) (Q:St->Hp->Prop),EnvOk K f ρ σ H->Reps K (hide H f) ds vs->(∀ ρ' σ' H',Goes f H H'->EnvOk K f ρ' σ' H'->R ρ'->Q σ' H')->g vs σ H Q
theorem zu {i:Nat} {d:PyData} {R:zl->Prop} (h:R (ρ.set i (some (.dat d)))):PGd K f (qa i) d ρ R:=fun σ H v Q e r q=>q _ _ H (.refl e.fd) (e.set i (x:=.dat d) r) h
theorem aaD {R:zl->Prop} (h:R ρ):ae5 K f ahe [] ρ R:=fun σ H vs Q e r q=>⟨reps_nil.mp r,q ρ σ H (.refl e.fd) e h⟩
theorem jv {g:TG} {gs:TGs} {d:PyData} {ds:List PyData} {R:zl->Prop} (h:PGd K f g d ρ fun ρ'=>ae5 K f gs ds ρ' R):ae5 K f (afO g gs) (d :: ds) ρ R:=fun σ H vs Q e r q=>by
 obtain⟨x,r',rfl,h2,h3⟩:=reps_cons.mp r
 exact⟨x,r',rfl,h σ H x _ e h2 fun ρ' σ' H' g' e' p=>p σ' H' r' Q e' (Reps.mono g'.1 ds r' h3) fun ρ'' σ'' H'' g'' e'' p'=>q ρ'' σ'' H'' (g'.trans g'') e'' p'⟩
theorem ack {n:Nat} {gs:TGs} {ds:List PyData} {R:zl->Prop} (hn:ds.length=n) (h:ae5 K f gs ds ρ R):PGd K f (agj K n gs) (.tuple ds) ρ R:=fun σ H v Q e r q=>by
 obtain⟨a,xs,rfl,h1,h2⟩:=rep_tuple.mp r
 exact⟨a,xs,rfl,(zo _ _).seqT h1,by rw [h2.length];exact hn,h σ H xs Q e h2 q⟩
theorem z5 {g:TG} (h:PEd K f te ρ fun d=>PGd K f g d ρ D.nx):PSd K f (qI te g) ρ D:=fun σ H E e n r b c =>
 h σ H _ e fun d v H1 g1 r1 p1=>p1 σ H1 v _ (e.mono g1) r1 fun ρ' σ' H' g' e' p'=>n ρ' σ' H' (g1.trans g') e' p'
end
end L2
end
section
namespace L2
open PySem PySem.Spec PyProof.Rows
noncomputable def frD (fr:List Nat) (ρ:zl):zl:=fr.map fun j=>(ρ[j]?).getD none
noncomputable def vB (own:Nat) (fr:List Nat) (ρ:zl):zl:=aiS own none++frD fr ρ
noncomputable abbrev Fx.with (f:Fx) (D:Addr):Fx:=⟨f.f,D :: f.M⟩
section
variable {K:ahX} {f:Fx} {ρ:zl} {σ:St} {H H':Hp} {D:Addr} {o:HO}
theorem acY {own:Nat} {fr:List Nat} (e:EnvOk K f ρ σ H):EnvOk K f (vB own fr ρ) (yM own fr σ) H:=by
 refine⟨by unfold vB yM frD;simp,fun i x h=>?_,e.fd⟩
 unfold vB frD at h
 unfold yM
 by_cases hi:i<own
 ·rw [aif (by simpa using hi),ajg] at h
  split at h <;> cases h
 ·rw [aiq (by simpa using hi)] at h ⊢
  simp only [ajS,ah9] at h ⊢
  cases hj:fr[i - own]? with
  | none=>rw [hj] at h;cases h
  | some j =>
   rw [hj] at h
   have h':(ρ[j]?).getD none=some x:=Option.some.inj h
   have hρ:ρ[j]?=some (some x):=by
    cases q:ρ[j]? with
    | none=>rw [q] at h';cases h'
    | some w=>rw [q] at h';exact congrArg some h'
   obtain⟨v,h1,h2⟩:=e.get j x hρ
   exact⟨v,by simp [h1],h2⟩
theorem yo:hide (upd H D o) (f.with D)=hide H (f.with D):=by
 funext b
 unfold hide
 by_cases hb:f.f=some b \/ b∈D :: f.M
 ·rw [if_pos hb,if_pos hb]
 ·rw [if_neg hb,if_neg hb]
  have:b≠D:=fun z=>hb (.inr (z▸aic))
  exact zk this
theorem j6:Same (hide H (f.with D)) (hide H f):=fun b o h=>by
 obtain⟨h1,h2⟩:=zH h
 exact zw (fun z=>h1 (z.elim .inl fun z=>.inr (ah3 _ z))) h2
theorem qw (hn:H D=none):Same (hide H f) (hide (upd H D o) (f.with D)):=fun b u h=>by
 obtain⟨h1,h2⟩:=zH h
 have hb:b≠D:=zB h2 hn
 exact zw (fun z=>z.elim (fun z=>h1 (.inl z)) fun z=>(ah7.mp z).elim hb fun z=>h1 (.inr z)) (by rw [zk hb];exact h2)
theorem agz (h:FOk f H) (hn:H D=none):FOk (f.with D) (upd H D o) :=
 ⟨fun p e=>let⟨a,b,h1,h2⟩:=h.fd p e;⟨a,b,by rw [zk (zB h1 hn)];exact h1,h2⟩,fun b hb=>by
  rcases ah7.mp hb with rfl | hb
  ·exact⟨_,zr⟩
  ·obtain⟨o',h1⟩:=h.mm b hb
   exact⟨o',by rw [zk (zB h1 hn)];exact h1⟩,fun p e hp=>by
  rcases ah7.mp hp with rfl | hp
  ·exact fresh_ne h hn (.inl e)
  ·exact h.nm p e hp⟩
theorem agA (e:EnvOk K f ρ σ H) (hn:H D=none):EnvOk K (f.with D) ρ σ (upd H D o) :=
 ⟨e.len,fun i x h=>let⟨v,h1,h2⟩:=e.get i x h;⟨v,h1,by
  cases x with
  | dat d=>exact Rep.mono (qw hn) d v h2
  | feed=>exact h2
  | own k =>
   obtain⟨p,h3,h4⟩:=h2
   refine⟨p,?_,h4⟩
   show (D :: f.M).reverse[k]?=some p
   rw [akl,aif (ah1.mp h3).1]
   exact h3
  | exc C =>
   obtain⟨a,h3,h4⟩:=h2
   exact⟨a,h3,qw hn _ _ h4⟩
  | mon φ=>exact fun H' s=>h2 H' ((qw hn).trans s)⟩,agz e.fd hn⟩
theorem ae6 (hD:f.f≠some D) (e:EnvOk K (f.with D) ρ σ H):EnvOk K (f.with D) ρ σ (upd H D o) :=
 ⟨e.len,fun i x h=>let⟨v,h1,h2⟩:=e.get i x h;⟨v,h1,by
  cases x with
  | dat d =>
   have h2':Rep K (hide H (f.with D)) d v:=h2
   show Rep K (hide (upd H D o) (f.with D)) d v
   rw [yo];exact h2'
  | feed=>exact h2
  | own k=>exact h2
  | exc C =>
   obtain⟨a,h3,h4⟩:=h2
   refine⟨a,h3,?_⟩
   rw [yo]
   exact h4
  | mon φ =>
   intro H' s
   rw [yo] at s
   exact h2 H' s⟩,⟨fun p ep=>let⟨a,b,h1,h2⟩:=e.fd.fd p ep;⟨a,b,by rw [zk (fun z=>hD (by rw [<-z];exact ep))];exact h1,h2⟩,fun b hb=>by
   by_cases hb':b=D
   ·subst hb';exact⟨_,zr⟩
   ·rw [zk hb'];exact e.fd.mm b hb,e.fd.nm⟩⟩
end
section
variable {K:ahX} {f:Fx} {ρ:zl} {P:PyData->Prop} {te tl:TE} {tt:TT} {g:TG} {own:Nat} {fr:List Nat}
structure CSt (K:ahX) (f:Fx) (D:Addr) (H2:Hp) (ρ':zl) (es:List PyData) (σ:St) (H:Hp):Prop where
 env:EnvOk K (f.with D) ρ' σ H
 sm:Same (hide H2 (f.with D)) (hide H (f.with D))
 kp:∀ b∈f.M,H b=H2 b
 lst:∃ vs,H D=some (.lst vs)/\Reps K (hide H (f.with D)) es vs
theorem CSt.go {D:Addr} {H2 H H':Hp} {ρ':zl} {es:List PyData} {σ:St} (c:CSt K f D H2 ρ' es σ H) (gg:Goes (f.with D) H H') {ρ2:zl} {σ2:St} (e2:EnvOk K (f.with D) ρ2 σ2 H'):CSt K f D H2 ρ2 es σ2 H' :=
 ⟨e2,c.sm.trans gg.sm,fun b hb=>(gg.kp b (ah3 _ hb)).trans (c.kp b hb),let⟨vs,h1,h2⟩:=c.lst;⟨vs,(gg.kp D aic).trans h1,Reps.mono gg.sm es vs h2⟩⟩
theorem CSt.put {D:Addr} {H2 H:Hp} {ρ':zl} {es:List PyData} {σ:St} {d:PyData} {v:V} {vs:List V} (hD:f.f≠some D) (hM:D∉f.M) (c:CSt K f D H2 ρ' es σ H) (h1:H D=some (.lst vs)) (h2:Reps K (hide H (f.with D)) es vs) (r:Rep K (hide H (f.with D)) d v) :
  CSt K f D H2 ρ' (es++[d]) σ (upd H D (.lst (vs++[v]))) :=
 ⟨ae6 hD c.env,by rw [yo];exact c.sm,fun b hb=>(zk (fun (z:b=D)=>hM (z▸hb))).trans (c.kp b hb),⟨_,zr,by rw [yo];exact h2.snoc r⟩⟩
theorem adY {D:Addr} {H1 H:Hp} {ρ':zl} {es:List PyData} {σ σ':St} (hn:H1 D=none) (fo:FOk f H1) (c:CSt K f D (upd H1 D (.lst [])) ρ' es σ H):Goes f H1 H/\Rep K (hide H f) (.list es) (.ref D):=by
 obtain⟨vs,h1,h2⟩:=c.lst
 have nD:=fresh_ne fo hn
 refine⟨⟨((qw hn).trans c.sm).trans j6,⟨c.env.fd.fd,fun b hb=>c.env.fd.mm b (ah3 _ hb),fun p e hp=>c.env.fd.nm p e (ah3 _ hp)⟩,fun b hb=>?_⟩,rep_list.mpr ⟨D,vs,rfl,.of (zw nD h1),Reps.mono j6 es vs h2⟩⟩
 rw [c.kp b hb,zk]
 obtain⟨o,h3⟩:=fo.mm b hb
 exact zB h3 hn
theorem abI {D:Addr} {H1:Hp} {σ:St} (hn:H1 D=none) (e:EnvOk K f ρ σ H1):CSt K f D (upd H1 D (.lst [])) (vB own fr ρ) [] (yM own fr σ) (upd H1 D (.lst [])) :=
 ⟨agA (acY e) hn,Same.refl _,fun _ _=>rfl,⟨[],zr,.nil'⟩⟩
end
section
variable {K:ahX} {f:Fx} {ρ:zl} {D:DEnds} {te:TE} {i:Nat}
theorem aa6 {σ:St} {H:Hp} {p:Addr} {a b:Int} (e:EnvOk K f ρ σ H) (ef:f.f=some p) (h0:0<=a) (h1:0<=b) (h2:b<2147483647):Goes f H (upd H p (.lst [.int a,.int b])) :=
 have hM:=e.fd.nm p ef
 ⟨fun x o h=>by
  obtain⟨n,hx⟩:=zH h
  exact zw n (by rw [zk (fun z=>n (.inl (by rw [z];exact ef)))];exact hx),
 ⟨fun q eq=>by
   rw [ef] at eq;cases eq
   exact⟨a,b,zr,h0,h1,h2⟩,fun x hx=>by
   by_cases hxp:x=p
   ·subst hxp;exact absurd hx hM
   ·rw [zk hxp];exact e.fd.mm x hx,e.fd.nm⟩,
fun x hx=>zk (fun z=>hM (z▸hx))⟩
theorem ae7 (hi:ρ[i]?=some (some .feed)) (h:PEd K f te ρ fun d=>∃ a:Int,d=.int a/\0<=a/\D.nx ρ):PSd K f (qI te (adx (je i) (tC (.int 0)) aaZ)) ρ D:=fun σ H E e n r b c=>h σ H _ e fun d v H1 g1 r1 ⟨a,ed,h0,p⟩=>by
 subst ed
 obtain⟨u,h1,q,ef,eu⟩:=e.get i _ hi
 obtain⟨a',b',hf,c1,c2,c3⟩:=g1.2.fd q ef
 refine⟨u,h1,q,_,0,0,eu,rfl,hf,rfl,?_⟩
 rw [rep_int.mp r1]
 have g2:Goes f H1 (upd H1 q (.lst [.int a,.int b'])):=aa6 (e.mono g1) ef h0 c2 c3
 exact n ρ σ _ (g1.trans g2) ((e.mono g1).mono g2) p
theorem ae8 (hi:ρ[i]?=some (some .feed)) (h:PEd K f te ρ fun d=>∃ a:Int,d=.int a/\0<=a/\a<2147483647/\D.nx ρ):PSd K f (qI te (adx (je i) (tC (.int 1)) aaZ)) ρ D:=fun σ H E e n r b c=>h σ H _ e fun d v H1 g1 r1 ⟨a,ed,h0,h0',p⟩=>by
 subst ed
 obtain⟨u,h1,q,ef,eu⟩:=e.get i _ hi
 obtain⟨a',b',hf,c1,c2,c3⟩:=g1.2.fd q ef
 refine⟨u,h1,q,_,1,1,eu,rfl,hf,rfl,?_⟩
 rw [rep_int.mp r1]
 have g2:Goes f H1 (upd H1 q (.lst [.int a',.int a])):=aa6 (e.mono g1) ef c1 h0 h0'
 exact n ρ σ _ (g1.trans g2) ((e.mono g1).mono g2) p
end
theorem jR {X:Cx} {x:Str} {i:Int} {t:Tok} {pos:Pos} (hg:Gl X x) (hm:X.mg x=some (.int i t)) (hd:(x == ("__debug__":Str))=false:=by decide):PE X (.Name x pos) (tC (.int i)):=yd hg hm ⟨t,rfl⟩ hd
noncomputable def jw (N:List Str) (xs:List DV):zl:=xs.map some++aiS (N.length - xs.length) none
theorem ji {K:ahX} {f:Fx} {H:Hp} {N:List Str} {xs:List DV} {vs:List V} (r:RepVs K f H xs vs) (fo:FOk f H):EnvOk K f (jw N xs) (start N vs) H:=by
 have hl:=r.length
 refine⟨by unfold jw start;simp [hl],fun i x h=>?_,fo⟩
 unfold jw at h
 unfold start
 have get:∀ {xs:List DV} {vs:List V} {i:Nat} {x:DV},RepVs K f H xs vs->xs[i]?=some x->∃ v,vs[i]?=some v/\RepV K f H x v:=by
  intro xs vs i x r
  induction r generalizing i with
  | nil=>intro h;simp at h
  | cons r1 r2 ih =>
   intro h
   cases i with
   | zero=>simp at h;subst h;exact⟨_,rfl,r1⟩
   | succ i=>simp at h;obtain⟨v,h1,h2⟩:=ih h;exact⟨v,by simpa using h1,h2⟩
 by_cases hi:i<xs.length
 ·rw [aif (by simpa using hi),ah9] at h
  cases q:xs[i]? with
  | none=>rw [q] at h;cases h
  | some y =>
   rw [q] at h
   cases h
   obtain⟨v,h1,h2⟩:=get r q
   exact⟨v,by rw [aif (by simp;omega),ah9,h1];rfl,h2⟩
 ·rw [aiq (by simpa using hi),ajg] at h
  split at h <;> cases h
structure Def (K:ahX) (mg:Str->Option Value) (x:Str) (st:Stmt) (ps:List Str):Prop where
 ex:∃ (f:Addr) (fd:FuncData),Fun K x x st f fd/\Binds K fd ps []/\mg x=some (.ref f)
structure FnIn (P:Program) (w:World) (K:ahX) (mg:Str->Option Value) (base:Heap) (k:Nat) (x:Str) (ps:List Str) (sp:Sp):Prop where
 ex:∃ (f:Addr) (fd:FuncData),FnOk P w K mg base CX0 k f fd ps sp/\mg x=some (.ref f)/\aip K (.ref f)=true/\Binds K fd ps []
section
variable {P:Program} {w:World} {K:ahX} {mg:Str->Option Value} {base:Heap} {j k n:Nat} {x:Str} {st:Stmt} {ps N:List Str} {γ:Type} {pre:γ->List DV->Prop} {post:γ->PyData->Prop} {sp:Sp}
theorem FnIn.mono (h:FnIn P w K mg base j x ps sp) (hk:j<=k):FnIn P w K mg base k x ps sp :=
 let⟨f,fd,a,b,c,d⟩:=h.ex;⟨f,fd,a.mono hk,b,c,d⟩
theorem Def.ok (F:Def K mg x st ps) (S:FnScope N ps (zg st)) (hn:ps.length=n)
  (h:∀ (fa:Addr) (cdv:Value) (A:Around) (outer:List Env) (s:Shared) (H:Hp) (E:XK),Room k (A.deeper (envOfC x (zg st) s.heap.objs.size fa cdv)) ->
   ∃ t,PSs (zO CX0 P w K mg base N x (zg st) fa cdv A outer s H E).nox (zW st) t/\∀ (f:Fx) (xs:List DV) (c:γ),xs.length=n->pre c xs->PSd K f t (jw N xs) { nx:=fun _=>post c .none,rt:=post c }) :
  FnIn P w K mg base (k+1) x ps (spD K n pre post):=by
 obtain⟨fa,fd,F1,F2,F3⟩:=F.ex
 refine⟨fa,fd,F1.ok S (fun vs H Q E h=>?_) (fun cdv A outer s H vs Q E hr hs=>?_),F3,F1.kp,F2⟩
 ·obtain⟨f,xs,c,r,hl,_⟩:=h
  rw [r.length,hl,hn]
 ·obtain⟨f,xs,c,r,hl,fo,hp,q⟩:=hs
  obtain⟨t,h1,h2⟩:=h fa cdv A outer s H E hr
  exact⟨t,h1,h2 f xs c hl hp (start N vs) H _ (ji r fo) (fun _ _ H' g _ p=>q .none _ H' g (rep_none.mpr rfl) p) (fun d v H' g r p=>q d v H' g r p) (fun _ _ _ _ _ z=>z.elim) (fun _ _ _ _ _ z=>z.elim)⟩
theorem Def.raw (F:Def K mg x st ps) (S:FnScope N ps (zg st)) (len:∀ vs H Q E,sp vs H Q E->vs.length=ps.length)
  (h:∀ (fa:Addr) (cdv:Value) (A:Around) (outer:List Env) (s:Shared) (H:Hp) (vs:List V) (Q:VK) (E:XK),Room k (A.deeper (envOfC x (zg st) s.heap.objs.size fa cdv))->sp vs H Q E ->
   ∃ t,PSs (zO CX0 P w K mg base N x (zg st) fa cdv A outer s H E).nox (zW st) t/\t { nx:=fun _ H'=>Q .non H',rt:=Q } (start N vs) H) :
  FnIn P w K mg base (k+1) x ps sp:=by
 obtain⟨fa,fd,F1,F2,F3⟩:=F.ex
 exact⟨fa,fd,F1.ok S len (fun cdv A outer s H vs Q E hr hs=>h fa cdv A outer s H vs Q E hr hs),F3,F1.kp,F2⟩
theorem zq {X:Cx} {e:Expr} {es:List Expr} {t:TA} {p pos:Pos} (G:FnIn X.prog X.w X.K X.mg X.base k x ps sp) (hr:Room k X.A) (hg:Gl X x) (ha:PA X (e :: es) t) (hdb:(x == ("__debug__":Str))=false:=by decide)
  (he:starEach (e :: es) X.env=(false,eval e X.env) :: starEach es X.env:=by rfl) (hpl:(backTo pos (starEach es X.env)).any (·.1)=false:=by rfl):PE X (.Call (.Name x p) (e :: es) [] pos) (qq sp [] E0 t):=by
 obtain⟨f,fd,a,b,c,d⟩:=G.ex
 exact acb a hr hg b c d .nil afT ha hdb he hpl
end
section
variable {K:ahX} {f:Fx} {ρ:zl} {σ:St} {H:Hp} {E:Ends} {ts tu:TS} {D:DEnds}
theorem adZ (h:PSd K f ts ρ D) (e:EnvOk K f ρ σ H) (hn:∀ ρ' σ' H',Goes f H H'->EnvOk K f ρ' σ' H'->D.nx ρ'->tu E σ' H') (hr:∀ d v H',Goes f H H'->Rep K (hide H' f) d v->D.rt d->E.rt v H') (hb:∀ ρ,¬ D.bk ρ) (hc:∀ ρ,¬ D.ct ρ):vo ts tu E σ H :=
 h σ H { E with nx:=tu E } e hn hr (fun ρ' _ _ _ _ p=>(hb ρ' p).elim) (fun ρ' _ _ _ _ p=>(hc ρ' p).elim)
theorem ad0 {ta:TA} {Q:VK} {R:List PyData->Prop} (h:PAd K f ta ρ fun xs=>∃ ds,jP xs=some ds/\ds.length<=1000/\R ds) (e:EnvOk K f ρ σ H)
  (q:∀ p ds vs H1,Goes f H H1->H1 p=none->Reps K (hide H1 f) ds vs->R ds->Q (.ref p) (upd H1 p (.lst vs))):aeW ta σ H Q :=
 h σ H _ e fun xs vs H1 g1 r1 ⟨ds,ea,hl,p⟩=>by
  have rs:=qu r1 ea
  exact⟨by rw [rs.length];exact ajm (yC hl),fun l hn=>q l ds vs H1 g1 hn rs p⟩
end
section
variable {K:ahX} {f:Fx} {ρ:zl}
theorem Goes.free {H H':Hp} {p:Addr} (g:Goes f H H') (fo:FOk f H) (h:H' p=none):H p=none:=by
 cases q:H p with
 | none=>rfl
 | some o =>
  by_cases hh:f.f=some p \/ p∈f.M
  ·rcases hh with hh | hh
   ·obtain⟨a,b,h1,_⟩:=g.ok.fd p hh
    rw [h] at h1;cases h1
   ·rw [g.kp p hh,q] at h;cases h
  ·have:=zH (g.sm p o (zw hh q))
   rw [h] at this;cases this.2
noncomputable def PEdL (K:ahX) (f:Fx) (te:TE) (ρ:zl) (P:List PyData->Prop):Prop:=∀ (σ:St) (H:Hp) (Q:VK),EnvOk K f ρ σ H ->
 (∀ es D vs H',Goes f H H'->H D=none->H' D=some (.lst vs)->Reps K (hide H' f) es vs->P es->Q (.ref D) H')->te σ H Q
theorem PEdL.ped {te:TE} {P:PyData->Prop} (h:PEdL K f te ρ fun es=>P (.list es)):PEd K f te ρ P:=fun σ H Q e q=>h σ H Q e fun es D vs H' g n h1 r p =>
 q (.list es) _ H' g (rep_list.mpr ⟨D,vs,rfl,.of (zw (fresh_ne e.fd n) h1),r⟩) p
end
structure TabAt (H:Hp) (a:Addr) (as:List Addr) (rows:List (List Int)):Prop where
 top:H a=some (.lst (as.map .ref))
 nd:(a :: as).Nodup
 len:as.length=rows.length
 row:∀ (i:Nat) x r,as[i]?=some x->rows[i]?=some r->H x=some (.lst (r.map .int))
noncomputable def ae9 (K:ahX):List V->Hp->VK->Prop:=fun xs H Q=>∃ x n b,xs=[x,.ty n]/\((∃ a ys,x=.ref a/\SqL K H a ys/\ahY K (.type "list") (.type n)=some b) \/ (∃ a ys,x=.ref a/\SqT K H a ys/\ahY K (.type "tuple") (.type n)=some b) \/ ∃ t,TyOf K H x t/\ahY K t (.type n)=some b)/\Q (.bl b) H
theorem ad1 {X:Cx}:yn X (.builtin "isinstance") (ae9 X.K):=by
 intro pins s σ H xs us Q I r h
 obtain⟨x,n,b,rfl,hx,q⟩:=h
 obtain⟨u,w',rfl,rx,rn⟩:=vals2 r
 cases rn
 rcases hx with⟨a,ys,rfl,hq,hk⟩ | ⟨a,ys,rfl,hq,hk⟩ | ⟨t,ty,hk⟩
 ·cases rx
  obtain⟨its,_,p,_⟩:=I.list hq
  obtain⟨o,ho,hc,_⟩:=p.isList
  exact aiy akk I.kIn ⟨o,ho,hc⟩ hk (fun z=>nomatch z) fun tk=>⟨.bl b,H,I.tok tk,rfl,q⟩
 ·cases rx
  obtain⟨its,_,p,_⟩:=I.tuple hq
  obtain⟨o,ho,hc,_⟩:=p
  exact aiy PySem.W.kitx_tuple I.kIn ⟨o,ho,hc⟩ hk (fun z=>nomatch z) fun tk=>⟨.bl b,H,I.tok tk,rfl,q⟩
 ·exact acQ I rx ty hk fun tk=>⟨.bl b,H,I.tok tk,rfl,q⟩
section
variable {K:ahX} {f:Fx} {ρ:zl} {P:PyData->Prop} {te ta tb:TE}
theorem ahm {n:String} {b:Bool} (hk:ahY K (.type "list") (.type n)=some b) (h:PEd K f te ρ fun d=>∃ ds,d=.list ds/\P (.bool b)):PEd K f (tCB (ae9 K) (z9 te (z9 (tC (.ty n)) jh))) ρ P:=fun σ H Q e q=>h σ H _ e fun d v H1 g r ⟨ds,ed,p⟩=>by
 subst ed
 obtain⟨a,xs,rfl,s1,_⟩:=rep_list.mp r
 exact⟨_,n,b,rfl,.inl ⟨a,xs,rfl,(zo _ _).seq s1,hk⟩,q _ _ H1 g (rep_bool.mpr rfl) p⟩
end
section
variable {X:Cx} {K:ahX}
theorem zI (hK:X.K=K):IxR X (adM K):=hK▸aeZ
theorem afa (hK:X.K=K):IxR X (aeY K):=hK▸ago
theorem zP (hK:X.K=K):yn X (.builtin "len") (fun xs H Q=>∃ p ys,xs=[.ref p]/\(SqL K H p ys \/ SqT K H p ys)/\Q (.int ys.length) H):=hK▸aaB
theorem aai (hK:X.K=K) (hc:X.calm=true):yn X (.builtin "min") (fun xs H Q=>∃ a ns,xs=[.ref a]/\SqL K H a (ns.map V.int)/\ns≠[]/\∀ M,M∈ns->(∀ b∈ns,M<=b)->Q (.int M) H):=hK▸acU hc
theorem aaj (hK:X.K=K) (hc:X.calm=true):yn X (.builtin "max") (fun xs H Q=>∃ a ns,xs=[.ref a]/\SqL K H a (ns.map V.int)/\ns≠[]/\∀ M,M∈ns->(∀ b∈ns,b<=M)->Q (.int M) H):=hK▸acV hc
theorem yb (hK:X.K=K) (hu:X.A.units+64<cLine):OpR X (compareOp .Eq) (adS K false):=hK▸ags hu
theorem vC (hK:X.K=K) (hu:X.A.units+64<cLine):OpR X (compareOp .NotEq) (adS K true):=hK▸agt hu
theorem acZ (hK:X.K=K):yn X (.builtin "isinstance") (ae9 K):=hK▸ad1
variable {tg l e st:Expr} {tl te ts:TE} {ta:TA} {p pos p2:Pos}
theorem vD (hK:X.K=K) (hl:PE X l tl):PI X tg l (adA K tl):=hK▸aeS hl
theorem vE {es:List Expr} {k:Nat} {tpos:Pos} (hK:X.K=K) (hg:Gl X "enumerate") (hm:X.mg "enumerate"=none) (ha:PA X [l] ta) (hs:starEach [l] X.env=[(false,eval l X.env)]:=by rfl):PI X (.Tuple es k tpos) (.Call (.Name "enumerate" p) [l] [] pos) (adR K ta):=hK▸ae4 hg hm ha hs
theorem yg (hK:X.K=K) (ha:PE X e te) (he:∀ whole,isTrue e X.env whole=(do let v <- whole;standAt e.pos;holding [v] (truthy v))):PT X e (agv K te):=hK▸agw ha he
theorem aaE {es:List Expr} {k:Nat} {t:TGs} {n:Nat} (hK:X.K=K) (hc:X.calm=true) (h:PGs X es t) (hn:(assignEach es X.env).length=n:=by rfl) (hst:(assignEach es X.env).findIdx? (·.1)=none:=by rfl):PG X (.Tuple es k pos) (agj K n t):=hK▸agk hc h hn hst
end
structure ItD (K:ahX) (f:Fx) (ds:List PyData) (J:It) (H1:Hp):Prop where
 go:∀ (f':Fx) (H':Hp) (i:Nat) d,FOk f' H'->Same (hide H1 f) (hide H' f')->ds[i]?=some d->J.go i H'/\∀ x H3,J.yld i H' x H3->Goes f' H' H3/\Rep K (hide H3 f') d x
 st:∀ (f':Fx) (H':Hp),FOk f' H'->Same (hide H1 f) (hide H' f')->J.stop ds.length H'
noncomputable def PId (K:ahX) (f:Fx) (wi:TI) (ρ:zl) (R:List PyData->Prop):Prop:=∀ (σ:St) (H:Hp) (C:It->Hp->Prop),EnvOk K f ρ σ H ->
 (∀ ds J H1,Goes f H H1->ItD K f ds J H1->R ds->C J H1)->wi σ H C
noncomputable def jS (n:Nat):List PyData:=(aj9 n).map fun (i:Nat)=>.int (i:Int)
noncomputable def jI (ds:List PyData):List PyData:=ds.mapIdx fun i d=>.tuple [.int (i:Int),d]
section
variable {K:ahX} {f:Fx} {ρ:zl} {R:List PyData->Prop} {tl:TE} {t:TA}
theorem PId.imp {wi:TI} {R':List PyData->Prop} (h:PId K f wi ρ R) (i:∀ ds,R ds->R' ds):PId K f wi ρ R':=fun σ H C e q=>h σ H C e fun ds J H1 g it r=>q ds J H1 g it (i ds r)
theorem qx (h:PAd K f t ρ fun xs=>∃ j:Int,xs=[.dat (.int j)]/\-(2 ^ 62)<=j/\j<2 ^ 62/\R (jS j.toNat)):PId K f (afP t) ρ R:=fun σ H C e q=>h σ H _ e fun xs vs H1 g1 r1 ⟨j,ex,q1,q2,p⟩=>by
 subst ex
 cases r1 with
 | @cons _ v0 _ _ rx r' =>
  cases r'
  have rx':Rep K (hide H1 f) (.int j) v0:=rx
  refine⟨j,by rw [rep_int.mp rx'],q1,q2,q _ _ H1 g1 ⟨fun f' H' i d fo _ hd=>?_,fun f' H' _ _=>?_⟩ p⟩
  ·unfold jS at hd
   rw [ah9] at hd
   by_cases hi:i<j.toNat
   ·rw [akV hi] at hd
    cases hd
    refine⟨hi,fun x H3 hy=>?_⟩
    obtain⟨rfl,rfl⟩:=hy
    exact⟨.refl fo,rep_int.mpr (by rw [Int.zero_add])⟩
   ·rw [ajr (by rw [akm];omega)] at hd
    cases hd
  ·show j.toNat<=(jS j.toNat).length
   unfold jS
   rw [ahZ,akm]
   exact aie _
theorem abJ (h:PEd K f tl ρ fun x=>∃ ds,x=.list ds/\R ds):PId K f (adA K tl) ρ R:=fun σ H C e q=>h σ H _ e fun x v H1 g1 r1 ⟨ds,ex,p⟩=>by
 subst ex
 obtain⟨a,xs,rfl,h1,h2⟩:=rep_list.mp r1
 have hl:=h2.length
 refine⟨a,rfl,⟨xs,(zo _ _).seq h1⟩,q ds _ H1 g1 ⟨fun f' H' i d fo sm hd=>?_,fun f' H' _ sm=>⟨xs,(zo _ _).seq (sm.seq h1),ajO hl⟩⟩ p⟩
 obtain⟨z,hz,rz⟩:=h2.get hd
 have sq:SqL K H' a xs:=(zo _ _).seq (sm.seq h1)
 refine⟨⟨xs,z,sq,hz⟩,fun x H3 hy=>?_⟩
 obtain⟨rfl,hy⟩:=hy
 have ez:=hy xs sq
 rw [hz] at ez
 cases ez
 exact⟨.refl fo,Rep.mono sm _ _ rz⟩
theorem abK (h:PAd K f t ρ fun xs=>∃ ds,xs=[.dat (.list ds)]/\R (jI ds)):PId K f (adR K t) ρ R:=fun σ H C e q=>h σ H _ e fun xs vs H1 g1 r1 ⟨ds,ex,p⟩=>by
 subst ex
 cases r1 with
 | cons rx r' =>
  cases r'
  obtain⟨a,xs,rfl,h1,h2⟩:=rep_list.mp rx
  have hl:=h2.length
  refine⟨a,rfl,⟨xs,(zo _ _).seq h1⟩,q (jI ds) _ H1 g1 ⟨fun f' H' i d fo sm hd=>?_,fun f' H' _ sm=>⟨xs,(zo _ _).seq (sm.seq h1),by unfold jI;rw [ajM];exact ajO hl⟩⟩ p⟩
  unfold jI at hd
  rw [ajA] at hd
  cases eq:ds[i]? with
  | none=>rw [eq] at hd;cases hd
  | some d0 =>
   rw [eq] at hd
   cases hd
   obtain⟨z,hz,rz⟩:=h2.get eq
   have sq:SqL K H' a xs:=(zo _ _).seq (sm.seq h1)
   refine⟨⟨xs,z,sq,hz⟩,fun x H3 hy=>?_⟩
   obtain⟨tp,y,rfl,hn,rfl,hy⟩:=hy
   have ez:=hy xs sq
   rw [hz] at ez
   cases ez
   have gn:Goes f' H' (upd H' tp (.tup [.int i,z])):=.of_same (yh hn _) fo
   exact⟨gn,rep_tuple.mpr ⟨tp,_,rfl,.of (zw (fresh_ne fo hn) zr),.cons' (rep_int.mpr rfl) (.cons' (Rep.mono gn.1 _ _ (Rep.mono sm _ _ rz)) .nil')⟩⟩
end
section
variable {K:ahX} {f:Fx} {ρ:zl} {D:DEnds} {wi:TI} {g:TG} {ts:TS}
theorem acm (h:PId K f wi ρ fun ds=>∃ J:Nat->zl->Prop,J 0 ρ /\
   (∀ (i:Nat) d ρ',ds[i]?=some d->J i ρ'->PGd K f g d ρ' fun ρ2=>PSd K f ts ρ2 { D with nx:=J (i+1),ct:=J (i+1),bk:=D.nx })/\∀ ρ',J ds.length ρ'->D.nx ρ') :
  PSd K f (adC wi g ts) ρ D:=fun σ H E e n r b c=>h σ H _ e fun ds J H1 g1 it ⟨Jv,j0,js,jd⟩=>by
 refine⟨fun i m σ' H'=>∃ ρ',EnvOk K f ρ' σ' H'/\Goes f H1 H'/\Jv i ρ'/\m+i=ds.length,⟨ds.length,ρ,e.mono g1,.refl g1.2,j0,rfl⟩,fun i m σ' H' ⟨ρ',e',g',p,hm⟩=>?_⟩
 by_cases hi:i<ds.length
 ·obtain⟨hgo,hy⟩:=it.go f H' i _ e'.fd g'.sm (ah2 hi)
  refine .inr ⟨hgo,fun σ2 H2=>∃ ρ2,EnvOk K f ρ2 σ2 H2/\Goes f H1 H2/\Jv (i+1) ρ2,fun σ2 H2 ⟨ρ2,e2,g2,p2⟩=>⟨m - 1,by omega,ρ2,e2,g2,p2,by omega⟩,fun x H3 hx=>?_⟩
  obtain⟨g3,r3⟩:=hy x H3 hx
  refine js i _ ρ' (ah2 hi) p σ' H3 x _ (e'.mono g3) r3 fun ρ2 σ2 H4 g4 e4 p4=>?_
  have gg:=g'.trans (g3.trans g4)
  exact p4 σ2 H4 _ e4 (fun ρ5 σ5 H5 g5 e5 p5=>⟨ρ5,e5,gg.trans g5,p5⟩) (fun d v H5 g5 r5 p5=>r d v H5 (g1.trans (gg.trans g5)) r5 p5) (fun ρ5 σ5 H5 g5 e5 p5=>n ρ5 σ5 H5 (g1.trans (gg.trans g5)) e5 p5) (fun ρ5 σ5 H5 g5 e5 p5=>⟨ρ5,e5,gg.trans g5,p5⟩)
 ·have ei:i=ds.length:=by omega
  subst ei
  exact .inl ⟨it.st f H' e'.fd g'.sm,n ρ' σ' H' (g1.trans g') e' (jd ρ' p)⟩
end
section
variable {K:ahX} {f:Fx} {ρ:zl} {D:Addr} {wi:TI} {g:TG} {tt:TT} {te:TE}
theorem CSt.self {H2 H:Hp} {es:List PyData} {σ:St} (c:CSt K f D H2 ρ es σ H):CSt K f D H ρ es σ H:=⟨c.env,Same.refl _,fun _ _=>rfl,c.lst⟩
theorem CSt.trans {H2 H H':Hp} {es es':List PyData} {ρ':zl} {σ σ':St} (c:CSt K f D H2 ρ es σ H) (d:CSt K f D H ρ' es' σ' H'):CSt K f D H2 ρ' es' σ' H':=⟨d.env,c.sm.trans d.sm,fun b hb=>(d.kp b hb).trans (c.kp b hb),d.lst⟩
noncomputable def PBd (K:ahX) (f:Fx) (D:Addr) (tb:TB) (ρ:zl) (es:List PyData) (R:zl->List PyData->Prop):Prop:=f.f≠some D->D∉f.M->∀ (σ:St) (H H2:Hp) (W:St->Hp->Prop),CSt K f D H2 ρ es σ H ->
 (∀ ρ2 es2 σ2 H',CSt K f D H2 ρ2 es2 σ2 H'->R ρ2 es2->W σ2 H')->tb σ H W
theorem vF {es:List PyData} {R:zl->List PyData->Prop} (hl:es.length<1000) (h:PEd K (f.with D) te ρ fun e=>R ρ (es++[e])):PBd K f D (adQ D te) ρ es R:=fun hD hM σ H H2 W c q =>
 h σ H _ c.env fun e u H5 g5 r5 p5=>by
  have c5:=c.go g5 (c.env.mono g5)
  obtain⟨vs,h1,h2⟩:=c5.lst
  exact⟨vs,h1,yC (by rw [h2.length];omega),q _ _ _ _ (c5.put hD hM h1 h2 r5) p5⟩
theorem agB {fi:Fx} {Hi H2 H:Hp} {ds es:List PyData} {J:It} {tb:TB} {σ:St} {W:St->Hp->Prop} (it:ItD K fi ds J Hi) (hD:f.f≠some D) (hM:D∉f.M) (c:CSt K f D H2 ρ es σ H) (sm:Same (hide Hi fi) (hide H (f.with D)))
  (Jv:Nat->zl->List PyData->Prop) (j0:Jv 0 ρ es)
  (js:∀ (i:Nat) d ρ' es',ds[i]?=some d->Jv i ρ' es'->PGd K (f.with D) g d ρ' fun ρ2=>PTd K (f.with D) tt ρ2 fun b=>if b=true then PBd K f D tb ρ2 es' (Jv (i+1)) else Jv (i+1) ρ2 es')
  (hW:∀ ρ' es' σ' H',CSt K f D H2 ρ' es' σ' H'->Jv ds.length ρ' es'->W σ' H'):acg J g tt tb σ H W:=by
 refine⟨fun i m σ' H'=>∃ ρ' es',CSt K f D H2 ρ' es' σ' H'/\Same (hide Hi fi) (hide H' (f.with D))/\Jv i ρ' es'/\m+i=ds.length,⟨ds.length,ρ,es,c,sm,j0,rfl⟩,fun i m σ' H' ⟨ρ',es',c',sm',p,hm⟩=>?_⟩
 by_cases hi:i<ds.length
 ·obtain⟨hgo,hy⟩:=it.go (f.with D) H' i _ c'.env.fd sm' (ah2 hi)
  refine .inr ⟨hgo,fun x H3 hx=>?_⟩
  obtain⟨g3,r3⟩:=hy x H3 hx
  have c3:=c'.go g3 (c'.env.mono g3)
  refine js i _ ρ' es' (ah2 hi) p σ' H3 x _ c3.env r3 fun ρ2 σ2 H4 g4 e4 p4=>?_
  have c4:=c3.go g4 e4
  refine p4 σ2 H4 _ e4 fun b H5 g5 p5=>?_
  have c5:=c4.go g5 (e4.mono g5)
  have sm5:=((sm'.trans g3.sm).trans g4.sm).trans g5.sm
  cases b with
  | false =>
   rw [if_neg ahW] at p5 ⊢
   exact⟨m - 1,by omega,ρ2,es',c5,sm5,p5,by omega⟩
  | true =>
   rw [if_pos rfl] at p5 ⊢
   exact p5 hD hM σ2 H5 H5 _ c5.self fun ρ6 es6 σ6 H6 c6 p6=>⟨m - 1,by omega,ρ6,es6,c5.trans c6,sm5.trans c6.sm,p6,by omega⟩
 ·have ei:i=ds.length:=by omega
  subst ei
  exact .inl ⟨it.st (f.with D) H' c'.env.fd sm',hW ρ' es' σ' H' c' p⟩
noncomputable def PEdO (K:ahX) (f:Fx) (te:TE) (ρ:zl) (P:List PyData->Prop):Prop:=∀ (σ:St) (H:Hp) (Q:VK),EnvOk K f ρ σ H ->
 (∀ es D vs H',Goes f H H'->H D=none->H' D=some (.lst vs)->Reps K (hide H' (f.with D)) es vs->P es->Q (.ref D) H')->te σ H Q
theorem PEdO.pedl {P:List PyData->Prop} (h:PEdO K f te ρ P):PEdL K f te ρ P:=fun σ H Q e q=>h σ H Q e fun es D vs H' g n h1 r p=>q es D vs H' g n h1 (Reps.mono j6 es vs r) p
theorem PEdO.ped {P:PyData->Prop} (h:PEdO K f te ρ fun es=>P (.list es)):PEd K f te ρ P:=h.pedl.ped
theorem acn {P:List PyData->Prop} (h:P []):PEdO K f (aeW jh) ρ P:=fun σ H Q e q=>⟨ajl _,fun p hn=>q [] p [] _ (.of_same (yh hn _) e.fd) hn zr .nil' h⟩
theorem ad2 {own:Nat} {fr:List Nat} {tb:Addr->TB} {P:List PyData->Prop} (h:PId K f wi ρ fun ds=>∃ Jv:Nat->zl->List PyData->Prop,Jv 0 (vB own fr ρ) [] /\
   (∀ D (i:Nat) d ρ' es',ds[i]?=some d->Jv i ρ' es'->PGd K (f.with D) g d ρ' fun ρ2=>PTd K (f.with D) tt ρ2 fun b=>if b=true then PBd K f D (tb D) ρ2 es' (Jv (i+1)) else Jv (i+1) ρ2 es') /\
   ∀ ρ' es',Jv ds.length ρ' es'->P es'):PEdO K f (vz wi own fr g tt tb) ρ P:=fun σ H Q e q =>
 h σ H _ e fun ds J H1 g1 it ⟨Jv,j0,js,jd⟩ D hn=>by
  have nD:=fresh_ne g1.2 hn
  have hD:f.f≠some D:=fun z=>nD (.inl z)
  have hM:D∉f.M:=fun z=>nD (.inr z)
  refine agB it hD hM (abI hn (e.mono g1)) (qw hn) Jv j0 (js D) fun ρ' es' σ' H' c' p=>?_
  obtain⟨ge,rep⟩:=adY (σ':=σ') hn g1.2 c'
  obtain⟨vs,h1,h2⟩:=c'.lst
  exact q es' D vs H' (g1.trans ge) (g1.free e.fd hn) h1 h2 (jd ρ' es' p)
end
section
variable {K:ahX} {f:Fx} {ρ:zl} {D:Addr} {wi:TI} {g:TG} {tt:TT} {te:TE}
noncomputable def OwnE (own:Nat) (ρ0:zl) (ρ':zl):Prop:=∃ us:zl,us.length=own/\ρ'=us++ρ0
theorem OwnE.one {ρ0 ρ':zl} (h:OwnE 1 ρ0 ρ'):∃ u,ρ'=u :: ρ0:=by
 obtain⟨us,h1,rfl⟩:=h
 match us,h1 with
 | [u],_=>exact⟨u,rfl⟩
theorem OwnE.mk1 {ρ0:zl} {u:Option DV}:OwnE 1 ρ0 (u :: ρ0):=⟨[u],rfl,rfl⟩
theorem aa7 {B:Bool->Prop} (h:B true):PTd K f ahj ρ B:=fun σ H Q e q=>q true H (.refl e.fd) h
end
structure OEnds where
 nx:zl->List PyData->Prop
 rt:PyData->Prop
 bk:zl->List PyData->Prop:=fun _ _=>False
 ct:zl->List PyData->Prop:=fun _ _=>False
section
variable {K:ahX} {f:Fx} {ρ:zl} {D:Addr} {wi:TI} {g:TG} {tt:TT} {te:TE} {ts tu:TS} {es:List PyData} {O:OEnds} {i:Nat}
noncomputable def yH (n:Nat):Option DV->Option DV
 | some (.own k)=>if k<n then some (.own k) else none
 | x=>x
end
section
variable {K:ahX} {f:Fx} {ρ:zl} {P:PyData->Prop} {te ta tb:TE} {t:TA}
theorem Reps.drop {H:Hp}:∀ {ds:List PyData} {xs:List V} (n:Nat),Reps K H ds xs->Reps K H (ds.drop n) (xs.drop n)
 | _,_,0,r=>r
 | [],xs,n+1,r=>by
  rw [reps_nil.mp r]
  exact .nil'
 | d :: ds,xs,n+1,r=>by
  obtain⟨x,r',rfl,_,h⟩:=reps_cons.mp r
  exact Reps.drop n h
theorem Reps.take {H:Hp}:∀ {ds:List PyData} {xs:List V} (n:Nat),Reps K H ds xs->Reps K H (ds.take n) (xs.take n)
 | _,_,0,r=>.nil'
 | [],xs,n+1,r=>by
  rw [reps_nil.mp r]
  exact .nil'
 | d :: ds,xs,n+1,r=>by
  obtain⟨x,r',rfl,h0,h⟩:=reps_cons.mp r
  exact .cons' h0 (Reps.take n h)
noncomputable def cutD (ds:List PyData) (lo hi:Option Int):List PyData:=(ds.drop (HT.sIx ds.length 0 lo)).take (HT.sIx ds.length ds.length hi - HT.sIx ds.length 0 lo)
theorem Reps.cut {H:Hp} {ds:List PyData} {xs:List V} {lo hi:Option Int} (r:Reps K H ds xs):Reps K H (cutD ds lo hi) (abC xs lo hi):=by
 unfold cutD abC
 rw [r.length]
 exact (r.drop _).take _
theorem vG {ds:List PyData} {n:Nat}:cutD ds (some (n:Int)) none=ds.drop n:=by
 unfold cutD
 rw [HT.sIx_nat,HT.sIx_none]
 by_cases h:n<=ds.length
 ·rw [akE h]
  exact ajn (by rw [aiL];exact aie _)
 ·rw [Nat.min_eq_right (by omega),akx,List.take_zero,List.drop_eq_nil_of_le (by omega)]
noncomputable def POd (K:ahX) (f:Fx) (t:TO) (ρ:zl) (R:Option Int->Prop):Prop:=∀ (σ:St) (H:Hp) (Q:Option Int->Hp->Prop),EnvOk K f ρ σ H->(∀ o H',Goes f H H'->R o->Q o H')->t σ H Q
theorem yA {R:Option Int->Prop} (h:R none):POd K f acd ρ R:=fun σ H Q e q=>q none H (.refl e.fd) h
theorem yk {R:Option Int->Prop} (h:PEd K f te ρ fun d=>∃ i:Int,d=.int i/\R (some i)):POd K f (afS te) ρ R:=fun σ H Q e q=>h σ H _ e fun d v H1 g1 r1 ⟨i,ed,p⟩=>by
 subst ed
 exact⟨i,rep_int.mp r1,q (some i) H1 g1 p⟩
theorem ahn {tl th:TO} {P:List PyData->Prop} (h:PEd K f te ρ fun x=>∃ ds,x=.list ds/\POd K f tl ρ fun lo=>POd K f th ρ fun hi=>P (cutD ds lo hi)):PEdL K f (tSl (ae0 K) te tl th) ρ P:=fun σ H Q e q =>
 h σ H _ e fun x v H1 g1 r1 ⟨ds,ex,p1⟩=>p1 σ H1 _ (e.mono g1) fun lo H2 g2 p2=>p2 σ H2 _ ((e.mono g1).mono g2) fun hi H3 g3 p3=>by
  subst ex
  have gg:=g1.trans (g2.trans g3)
  obtain⟨a,xs,rfl,h1,h2⟩:=rep_list.mp (Rep.mono (g2.trans g3).sm _ _ r1)
  refine⟨a,xs,rfl,(zo _ _).seq h1,fun p hn=>?_⟩
  have g4:Goes f H3 (upd H3 p (.lst (abC xs lo hi))):=.of_same (yh hn _) g3.ok
  exact q _ p _ _ (gg.trans g4) (gg.free e.fd hn) zr (Reps.mono g4.sm _ _ h2.cut) p3
theorem vH {tl th:TO} (h:PEd K f te ρ fun x=>∃ ds,x=.list ds/\POd K f tl ρ fun lo=>POd K f th ρ fun hi=>P (.list (cutD ds lo hi))):PEd K f (tSl (ae0 K) te tl th) ρ P:=(ahn h).ped
theorem abL (h:PAd K f t ρ fun xs=>(∃ i,xs=[.dat (.int i)]/\P (.int i)) \/ (∃ k:Bool,xs=[.dat (.bool k)]/\P (.int (if k then 1 else 0)))) :
  PEd K f (tCB (fun xs H Q=>(∃ i,xs=[.int i]/\Q (.int i) H) \/ ∃ k:Bool,xs=[.bl k]/\Q (.int (if k then 1 else 0)) H) t) ρ P :=
 acW fun σ H Q e q=>h σ H Q e fun xs vs H' g r p=>by
  rcases p with⟨i,rfl,p⟩ | ⟨i,rfl,p⟩
  ·refine q _ vs H' g r ⟨_,rfl,fun vs H Q fo rs k=>?_⟩
   obtain⟨x,r,rfl,h2,h3⟩:=reps_cons.mp rs
   rw [reps_nil.mp h3,rep_int.mp h2]
   exact .inl ⟨i,rfl,k _ _ H (.refl fo) (rep_int.mpr rfl) p⟩
  ·refine q _ vs H' g r ⟨_,rfl,fun vs H Q fo rs k=>?_⟩
   obtain⟨x,r,rfl,h2,h3⟩:=reps_cons.mp rs
   rw [reps_nil.mp h3,rep_bool.mp h2]
   exact .inr ⟨i,rfl,k _ _ H (.refl fo) (rep_int.mpr rfl) p⟩
end
noncomputable abbrev f0:Fx:=⟨none,[]⟩
theorem fok0 (H:Hp):FOk f0 H:=⟨(fun p e=>by cases e),(fun b hb=>by cases hb),(fun p e=>by cases e)⟩
theorem aho {H H':Hp} (s:Same H H'):Goes f0 H H':=.of_same s (fok0 H)
theorem same0 {H H':Hp} (g:Goes f0 H H'):Same H H':=fun b o h=>(zH (g.sm b o (by rw [yu];exact h))).2
noncomputable def aaF:Option DV->Option DV
 | some (.dat d)=>some (.dat d)
 | _=>none
section
variable {K:ahX} {ρ:zl} {te:TE} {tu:TS} {i:Nat}
theorem vI {p:Addr} {σ:St} {H:Hp} (e:EnvOk K ⟨some p,[]⟩ ρ σ H):EnvOk K f0 (ρ.map aaF) σ H:=by
 refine⟨by rw [ahZ];exact e.len,fun i x h=>?_,fok0 H⟩
 rw [ah9] at h
 cases eq:ρ[i]? with
 | none=>rw [eq] at h;cases h
 | some y =>
  rw [eq] at h
  cases y with
  | none=>cases h
  | some y =>
   obtain⟨v,h1,h2⟩:=e.get i y eq
   cases y with
   | dat d =>
    cases h
    refine⟨v,h1,?_⟩
    show Rep K (hide H f0) d v
    rw [yu]
    exact Rep.mono (zo _ _) d v h2
   | feed=>cases h
   | own k=>cases h
   | exc C=>cases h
   | mon φ=>cases h
theorem agC {Dn:DEnds} (h:∀ (σ:St) (H:Hp) (Q:VK),EnvOk K f0 ρ σ H->(∀ (p:Addr) (x y:Int) (H':Hp),Same H H'->H p=none->H' p=some (.lst [.int x,.int y])->0<=x->0<=y->y<2147483647->Q (.ref p) H')->te σ H Q)
  (hr:∀ p,PSd K ⟨some p,[]⟩ tu (ρ.set i (some .feed)) { nx:=fun ρ'=>Dn.nx (ρ'.map aaF),rt:=Dn.rt,bk:=fun ρ'=>Dn.bk (ρ'.map aaF),ct:=fun ρ'=>Dn.ct (ρ'.map aaF) }) :
  PSd K f0 (vo (qI te (qa i)) tu) ρ Dn:=fun σ H E e n r b k=>h σ H _ e fun p x y H1 sm hn hp x0 y0 y1=>by
 have fo:FOk ⟨some p,[]⟩ H1:=⟨fun p' e=>by cases e;exact⟨x,y,hp,x0,y0,y1⟩,(fun b hb=>by cases hb),fun _ _ hb=>by cases hb⟩
 have sm0:Same H (hide H1 ⟨some p,[]⟩):=fun b o hb=>by
  have nb:b≠p:=fun e=>by rw [e,hn] at hb;cases hb
  refine zw (fun z=>?_) (sm b o hb)
  rcases z with z | z
  ·cases z;exact nb rfl
  ·cases z
 have e1:EnvOk K ⟨some p,[]⟩ ρ σ H1:=by
  refine⟨e.len,fun j z hz=>?_,fo⟩
  obtain⟨v,a1,a2⟩:=e.get j z hz
  refine⟨v,a1,?_⟩
  cases z with
  | dat d =>
   have a2':Rep K (hide H f0) d v:=a2
   rw [yu] at a2'
   exact Rep.mono sm0 d v a2'
  | feed=>obtain⟨q,hq,_⟩:=a2;cases hq
  | own k=>obtain⟨q,hq,_⟩:=a2;cases hq
  | exc C =>
   obtain⟨q,h3,h4⟩:=a2
   refine⟨q,h3,sm0 _ _ ?_⟩
   rw [yu] at h4
   exact h4
  | mon φ =>
   intro H' s
   refine a2 H' (Same.trans ?_ s)
   rw [yu]
   exact sm0
 have gg:∀ {H':Hp},Goes ⟨some p,[]⟩ H1 H'->Goes f0 H H':=fun g=>aho fun b o hb=>zo _ _ b o (g.sm b o (sm0 b o hb))
 refine hr p _ H1 E (e1.set i (x:=.feed) ⟨p,rfl,rfl⟩) (fun ρ' σ' H' g' e' p'=>n _ σ' H' (gg g') (vI e') p') (fun d v H' g' r' p'=>r d v H' (gg g') ?_ p') (fun ρ' σ' H' g' e' p'=>b _ σ' H' (gg g') (vI e') p') (fun ρ' σ' H' g' e' p'=>k _ σ' H' (gg g') (vI e') p')
 rw [yu]
 exact Rep.mono (zo _ _) d v r'
end
section
variable {X:Cx} {K:ahX}
noncomputable def ahp (i j:Int):Prop:=0<j/\j<1152921504606846976
theorem aa8:OpR X (binaryOp .FloorDiv) (rI ahp fun i j=>.int (i / j)):=opI fun i j _ _ _ _ _ hc q=>by
 obtain⟨h1,h2⟩:=hc
 rw [<-Int.fdiv_eq_ediv_of_nonneg i (Int.le_of_lt h1)] at q
 refine floordiv_int (by omega) q (.inl (PyProof.noPylong_of_log2 ?_))
 have h0:j.natAbs≠0:=by omega
 have:j.natAbs.log2<60:=(Nat.log2_lt h0).mpr (by omega)
 omega
theorem jj (hK:X.K=K):SlR X (ae0 K):=hK▸ae1
end
section
variable {K:ahX} {f:Fx} {ρ:zl} {wi:TI} {g:TG} {tt:TT} {own:Nat} {fr:List Nat} {tb:Addr->TB} {P:List PyData->Prop}
theorem aco {α:Type} {A B:α->PyData} (xs:List α) (h:PId K f wi ρ fun ds=>ds=xs.map A/\xs.length<=1000 /\
   (∀ D x ρ' es,x∈xs->OwnE own (frD fr ρ) ρ'->es.length<1000->PGd K (f.with D) g (A x) ρ' fun ρ2=>PTd K (f.with D) tt ρ2 fun b=>if b=true then PBd K f D (tb D) ρ2 es fun ρ3 es3=>OwnE own (frD fr ρ) ρ3/\es3=es++[B x] else False)/\P (xs.map B)) :
  PEdO K f (vz wi own fr g tt tb) ρ P :=
 ad2 (h.imp fun ds ⟨ed,hl,hs,hp⟩=>by
  subst ed
  refine⟨fun i ρ' es=>OwnE own (frD fr ρ) ρ'/\es=(xs.take i).map B,⟨⟨aiS own none,by simp,rfl⟩,by simp⟩,fun D i d ρ' es hd ⟨ho,he⟩=>?_,fun ρ' es ⟨_,he⟩=>?_⟩
  ·rw [ah9] at hd
   cases eq:xs[i]? with
   | none=>rw [eq] at hd;cases hd
   | some x =>
    rw [eq] at hd
    cases hd
    have hi:i<xs.length:=(ah1.mp eq).1
    have hb:es.length<1000:=by
     rw [he,ahZ,aiz]
     omega
    intro σ H v Q e r q
    refine hs D x ρ' es (aiw eq) ho hb σ H v Q e r fun ρ2 σ2 H2 g2 e2 p2=>q ρ2 σ2 H2 g2 e2 (p2.imp fun b hb2=>?_)
    cases b with
    | false =>
     rw [if_neg ahW] at hb2
     exact hb2.elim
    | true =>
     rw [if_pos rfl] at hb2 ⊢
     intro h1 h2 σ3 H3 H4 W c k
     exact hb2 h1 h2 σ3 H3 H4 W c fun ρ5 es5 σ5 H5 c5 ⟨o5,p5⟩=>k ρ5 es5 σ5 H5 c5 ⟨o5,by rw [p5,he,ajv,eq,aim];rfl⟩
  ·rw [he,ahZ,ajE]
   exact hp)
end
structure XLie (P:Program) (w:World) (outer:List Env) (H:Hp) (s:Shared) (e:Addr) (C:Value) (H':Hp) (s':Shared):Prop where
 os:s'.os=s.os
 bare:AllBare s'.gens
 un:Un (frs outer) [] H H' s.heap s'.heap
 hok:HOk P w H' s'.heap
 fly:∃ B a0,aky B outer e C a0 s'.heap/\(∀ b o,s.heap.get? b=some o->b∉frs outer->∃ o',B.get? b=some o')/\∀ b o,H' b=some o->∃ o',B.get? b=some o'
 new:s.heap.get? e=none
 free:H' e=none
noncomputable def CXe (P:Program) (w:World):CXT:=fun outer H s E e s'=>∃ a C H',e=.ref a/\XLie P w outer H s a C H' s'/\E C none H'
section
variable {P:Program} {w:World} {H H':Hp} {h h':Heap}
theorem ObjOk.is {a:Addr} {o:HO} (x:ObjOk P w H h a o):∃ u,h.get? a=some u:=by
 induction o with
 | lst xs=>obtain⟨_,_,_,_,e⟩:=x;exact⟨_,e⟩
 | tup xs=>obtain⟨_,_,_,ob,e,_⟩:=x;exact⟨_,e⟩
 | dK kvs=>obtain⟨_,_,_,_,o,_,_,e,_⟩:=x;exact⟨_,e⟩
 | dT kvs=>obtain⟨_,_,_,_,o,_,_,e,_⟩:=x;exact⟨_,e⟩
 | set S n=>obtain⟨o,_,_,_,e,_⟩:=x;exact⟨_,e⟩
 | ins C dx fs=>obtain⟨_,_,_,e,_⟩:=x;exact⟨_,e⟩
 | own y=>exact x
 | xd fs=>obtain⟨_,⟨o,_,_,e,_⟩,_⟩:=x;exact⟨_,e⟩
 | rng lo hi=>obtain⟨_,_,_,e⟩:=x;exact⟨_,e⟩
 | frz ob u ih=>exact⟨_,x.1⟩
 | tbl ps=>exact⟨_,x⟩
 | met f y=>exact⟨_,x⟩
 | ext φ=>exact x.2.1
theorem HOk.stays (x:HOk P w H h) (k:∀ b o u,H b=some o->h.get? b=some u->h'.get? b=some u):HOk P w H h':=fun a o e =>
 (x a o e).stay (fun b u hb q=>by
  rcases hb with rfl | hb
  ·exact k b o u e q
  ·exact k b _ u hb q) (fun _ q=>q) fun _ _ q=>q
end
section
variable {X:Cx} {pins:List (Addr×Obj)} {σ:St} {H H':Hp} {s s':Shared} {a:Addr} {C:Value} {outer:List Env}
theorem Inv.old_ne (I:Inv X pins σ H s) (hst:X.stack=X.env :: X.outer) (hf:X.env.frame=some X.env.locals) {b:Addr} {o:Obj} (q:X.s₀.heap.get? b=some o) (hb:b∉frs X.outer):b∉frs X.stack:=fun z=>by
 rw [hst] at z
 unfold frs at z
 rw [aiW,hf] at z
 rcases ah7.mp z with z | z
 ·have h1:b<X.s₀.heap.objs.size:=ah4 q
  rw [z] at h1
  exact absurd h1 (akw.mpr I.ok.above)
 ·exact hb z
theorem ad3 {E:Value->Shared->Prop} (I:Inv X pins σ H s) (hst:X.stack=X.env :: X.outer) (hf:X.env.frame=some X.env.locals) (hex:X.ex=[]) (x:XLie X.prog X.w X.stack H s a C H' s') :
  wpAny (model X.prog X.w) X.A (leaving X.env (.ref a)) (fun _ s''=>XLie X.prog X.w X.outer X.H₀ X.s₀ a C H' s'') E s':=by
 obtain⟨B,a0,fl,dom,trk⟩:=x.fly
 have J:Inv X pins σ H' s':=I.call' x.os x.un x.hok x.bare (fun b z=>absurd z (by simp))
 have hfl:=fl
 rw [hst] at hfl
 refine wpAny_leaves_onW (by rw [I.ok.frames,hst]) hf hfl fun h' fl' up=>?_
 have inB:∀ b o,X.s₀.heap.get? b=some o->b∉frs X.outer->∃ o',B.get? b=some o':=fun b o q hb=>by
  obtain⟨o1,q1⟩:=I.base.there b o q (by rw [hex];simp)
  exact dom b o1 q1 (I.old_ne hst hf q hb)
 have eqB:∀ b o o',B.get? b=some o'->s'.heap.get? b=some o->h'.get? b=some o:=fun b o o' hb q=>by
  have:=fl.1 b o' hb
  rw [q] at this
  cases this
  exact fl'.1 b o hb
 have noF:∀ b o,b∈frs X.outer->s'.heap.get? b=some o->∀ vs,o.data≠.fields vs:=fun b o hb q=>by
  obtain⟨_,o1,q1,hd⟩:=J.stack.mem (b:=b) (by
   show b∈frs X.stack
   rw [hst]
   unfold frs
   rw [aiW,hf]
   exact ah3 _ hb)
  rw [q] at q1
  cases q1
  exact hd
 have ex0:∀ b:Addr,b∉X.ex:=fun b=>by rw [hex];simp
 refine⟨x.os.trans I.os,x.bare,⟨fun b o q n hb _=>?_,fun b o q n hb _=>?_,fun b o q n _=>J.base.free b o q n (ex0 b),fun b o q _=>?_,J.base.tups,J.base.frzs,J.base.tbls⟩,?_,⟨B,a0,fl',inB,trk⟩,?_,x.free⟩
 ·obtain⟨o',hB⟩:=inB b o q hb
  exact eqB b o o' hB (J.base.keep b o q n hb (ex0 b))
 ·obtain⟨sl,q1⟩:=J.base.slot b o q n hb (ex0 b)
  obtain⟨sl',q2⟩:=up b _ q1 (noF b _ hb q1)
  exact⟨sl',q2⟩
 ·obtain⟨o1,q1⟩:=J.base.there b o q (ex0 b)
  by_cases hb:b∈frs X.outer
  ·obtain⟨sl',q2⟩:=up b _ q1 (noF b _ hb q1)
   exact⟨_,q2⟩
  ·obtain⟨o',hB⟩:=inB b o q hb
   exact⟨_,fl'.1 b o' hB⟩
 ·refine HOk.stays x.hok fun b o u e q=>?_
  obtain⟨o',hB⟩:=trk b o e
  exact eqB b u o' hB q
 ·cases q:X.s₀.heap.get? a with
  | none=>rfl
  | some o =>
   obtain⟨o1,q1⟩:=I.base.there a o q (ex0 a)
   rw [x.new] at q1
   cases q1
end
end L2
end
section
namespace L2
open PySem PySem.Spec PyProof.Rows
section
variable {X:Cx} {pins:List (Addr×Obj)} {σ:St} {H H' H1 H2:Hp} {s s' s1 s2:Shared} {a:Addr} {C:Value} {i j:Nat}
theorem agD {M:Model} {A:Around} {E:Value->Shared->Prop} {x:Str} {v:V} {Q:Unit->Shared->Prop} (I:Inv X pins σ H s) (hN:X.N.Nodup) (hi:X.N[i]?=some x) (hk:X.env.scope.names.lookup x=some .local) (hv:σ[i]?=some (some v))
  (h:∀ s',Inv X pins (σ.set i none) H s'->Q () s'):wpAny M A (unbindName X.env x) Q E s:=by
 obtain⟨m,hn,hl⟩:=id I.loc
 obtain⟨u,r,lk⟩:=hl i x v hi hv (.inl hk)
 have hm:m x=some u:=by
  rcases lk with⟨_,e⟩ | ⟨z,_⟩
  ·exact e
  ·rcases z with z | z
   ·have z':X.env.scope.names.lookup x=some .cell:=z
    rw [hk] at z';cases z'
   ·have z':X.env.scope.names.lookup x=some .free:=z
    rw [hk] at z';cases z'
 have plain:(X.env.scope.kind == .class
   || (X.env.scope.kind == .module
    && X.env.locals != X.env.globals))=false:=by
  rw [I.ok.kind]
  rfl
 have cne:=I.cne
 refine wpAny_unbindName_local hk hn hm plain fun h' w hn' hs=>?_
 have old:∀ {b:Addr} {o:Obj},X.s₀.heap.get? b=some o->b≠X.env.locals:=fun {b o} e=>aii (ah8 (ah4 e) I.ok.above)
 refine h _ ⟨I.ok,I.os,I.bare,⟨fun b o e n hb hx=>(hs.2 b (old e)).trans (I.base.keep b o e n hb hx),fun b o e n hb hx=>?_,I.base.free,fun b o e hx=>?_,I.base.tups,I.base.frzs,I.base.tbls⟩,⟨_,hn',fun q y v' e1 e2 e3=>?_⟩,fun y c e=>?_,I.free,I.freeC,fun p hp=>?_,?_,by rw [aiV];exact I.len⟩
 ·obtain⟨sl,e1⟩:=I.base.slot b o e n hb hx
  exact⟨sl,(hs.2 b (old e)).trans e1⟩
 ·obtain⟨o',e1⟩:=I.base.there b o e hx
  exact⟨o',(hs.2 b (old e)).trans e1⟩
 ·by_cases hj:q=i
  ·subst hj
   rw [List.getElem?_set] at e2
   rw [if_pos rfl] at e2
   split at e2 <;> cases e2
  ·rw [aiR (aje hj)] at e2
   obtain⟨u',r',z⟩:=hl q y v' e1 e2 e3
   refine⟨u',r',?_⟩
   rcases z with⟨k,e⟩ | ⟨k,c,e,z⟩
   ·refine .inl ⟨k,?_⟩
    have:y≠x:=fun e=>hj (vm hN e1 (e▸hi))
    show (if y=x then w else m y)=some u'
    rw [if_neg this]
    exact e
   ·exact .inr ⟨k,c,e,z.sameBut hs (cne y c e)⟩
 ·obtain⟨w',z⟩:=I.cell y c e
  exact⟨w',z.sameBut hs (cne y c e)⟩
 ·obtain⟨e,n,ne,nf,d⟩:=I.pin p hp
  exact⟨(hs.2 p.1 ne).trans e,n,ne,nf,d⟩
 ·refine HOk.stays I.hok fun b o u e q=>(hs.2 b ?_).trans q
  rintro rfl
  rw [I.free] at e
  cases e
noncomputable def Cx.marked (X:Cx) (e:Value):Cx:={ X with A:=X.A.mark (some e),calm:=false,xe:=fun _ _=>False }
theorem Cx.Ok.marked (ok:X.Ok) (e:Value):(X.marked e).Ok :=
 ⟨ok.mod,ok.kind,ok.glob,ok.blt,ok.above,ok.inj,ok.has,ok.cab,(fun z=>by cases z),ok.frames,ok.stk,ok.exf,ok.bs,ok.bsz,ok.noex,ok.exfs,ok.funs,ok.frf⟩
theorem Inv.marked (I:Inv X pins σ H s) (e:Value):Inv (X.marked e) pins σ H s:=⟨I.ok.marked e,I.os,I.bare,I.base,I.loc,I.cell,I.free,I.freeC,I.pin,I.hok,I.len⟩
theorem Inv.unmarked {e:Value} (ok:X.Ok) (I:Inv (X.marked e) pins σ H s):Inv X pins σ H s:=⟨ok,I.os,I.bare,I.base,I.loc,I.cell,I.free,I.freeC,I.pin,I.hok,I.len⟩
theorem XLie.move {P:Program} {w:World} {outer:List Env} {B:Heap} {a0:Value} {h'':Heap} (x:XLie P w outer H s a C H' s') (fl:aky B outer a C a0 s'.heap) (dom:∀ b o,s.heap.get? b=some o->b∉frs outer->∃ o',B.get? b=some o')
  (trk:∀ b o,H' b=some o->∃ o',B.get? b=some o') (st:B.StaysIn h'') (up:s'.heap.UpToSlots h''):Un (frs outer) [] H H' s.heap h''/\HOk P w H' h'':=by
 have eqB:∀ b o o',B.get? b=some o'->s'.heap.get? b=some o->h''.get? b=some o:=fun b o o' hb q=>by
  have:=fl.1 b o' hb
  rw [q] at this
  cases this
  exact st b o hb
 have noF:∀ b o,b∈frs outer->s'.heap.get? b=some o->∀ vs,o.data≠.fields vs:=fun b o hb q=>by
  obtain⟨_,o1,q1,hd⟩:=fl.2.2.1.mem hb
  rw [q] at q1
  cases q1
  exact hd
 refine⟨⟨fun b o q n hb z=>?_,fun b o q n hb z=>?_,x.un.free,fun b o q z=>?_,x.un.tups,x.un.frzs,x.un.tbls⟩,HOk.stays x.hok fun b o u e q=>?_⟩
 ·obtain⟨o',hB⟩:=dom b o q hb
  exact eqB b o o' hB (x.un.keep b o q n hb z)
 ·obtain⟨sl,q1⟩:=x.un.slot b o q n hb z
  obtain⟨sl',q2⟩:=up b _ q1 (noF b _ hb q1)
  exact⟨sl',q2⟩
 ·by_cases hb:b∈frs outer
  ·obtain⟨o1,q1⟩:=x.un.there b o q z
   obtain⟨sl',q2⟩:=up b _ q1 (noF b _ hb q1)
   exact⟨_,q2⟩
  ·obtain⟨o',hB⟩:=dom b o q hb
   exact⟨_,st b o' hB⟩
 ·obtain⟨o',hB⟩:=trk b o e
  exact eqB b u o' hB q
end
noncomputable def aaG (D:Ends) (j:Nat):Ends where
 nx:=fun σ H=>D.nx (σ.set j none) H
 rt:=D.rt
 bk:=fun σ H=>D.bk (σ.set j none) H
 ct:=fun σ H=>D.ct (σ.set j none) H
section
variable {X:Cx} {pins:List (Addr×Obj)} {σ:St} {H H1 H2:Hp} {s s1 s2:Shared} {a C0:Addr} {C:Value} {i j:Nat} {n hx:Str} {b0:Stmt} {suite:List Stmt} {hp hpos:Pos} {ts:TS} {D:Ends}
theorem aaH {M:Model} {A:Around} {E:Value->Shared->Prop} {Q:Unit->Shared->Prop} (I:Inv X pins σ H s) (hN:X.N.Nodup) (hj:X.N[j]?=some n) (hn:X.env.scope.names.lookup n=some .local) (h:∀ s',Inv X pins (σ.set j none) H s'->Q () s') :
  wpAny M A (do bindName X.env n .none;unbindBehindTheSuite X.env n hpos) Q E s:=by
 refine wpAny_bind (wpAny_bindName (jL (v:=.non) I hN hj (.inl hn) rfl (fun s' I'=>?_) (.inr hn)))
 unfold unbindBehindTheSuite
 refine wpAny_onRaise (agD (v:=.non) I' hN hj hn ?_ fun s'' I''=>?_)
 ·have:j<σ.length:=by rw [I.len];exact (ah1.mp hj).1
  rw [aiM this]
 ·rw [List.set_set] at I''
  exact h s'' I''
end
end L2
end
section
namespace L2
open PySem PySem.Spec PySem.W PyProof.Rows PySem.Calls PySem.Builtin Builtin Builtin.ObjectAttr Builtin.Getset_descriptor
section
variable {prog:Program} {w:World} {A:Around} {E:Value->Shared->Prop} {s:Shared} {K:ahX} {a C:Addr}
structure ExcWays (K:ahX) (C:Addr):Prop where
 ga:findIn K (.ref C) "__getattribute__"=some (some (.builtin "BaseException.__getattribute__"))
 gt:findIn K (.ref C) "__getattr__"=some none
 cl:findIn K (.ref C) "__class__"=some (some (.builtin "object.__class__"))
 gs:specialIn K (.builtin "object.__class__") "__get__"=some (some (.builtin "getset_descriptor.__get__"))
 tk:takesIn K (.builtin "object.__class__")=some true
 ob:mroIn K C (.type "object")=some true
 be:mroIn K C (.type "BaseException")=some true
 iz:(clsIn K C).isSome=true
noncomputable def qU (a C:Addr) (h:Heap):Prop:=∃ o,h.get? a=some o/\o.cls=.ref C
theorem jT {M:Model} {h:Heap} (x:qU a C h):Looks M h (typeOf (.ref a)) (.ref C):=by
 obtain⟨o,h1,h2⟩:=x
 exact h2▸(Looks.ld h1).andThen .now
theorem ac0 {M:Model} {h:Heap} {x:Value} {nm:Str} {d g:Value} (X:K.In h) (h1:findIn K (.ref C) nm=some (some d)) (h2:specialIn K d "__get__"=some (some g)) (h3:takesIn K d=some true):Looks M h (find x (.ref C) nm) (.bind g d):=by
 have L1:=looks_findIn (M:=M) X h1
 have L2:Looks M h (getOf (some d)) (some g):=looks_specialIn X h2
 have L3:Looks M h (dataDescriptor? (some d) (some g)) (some (g,d)):=(looks_takesIn (M:=M) X h3).andThen .now
 exact L1.andThen (L2.andThen (L3.andThen (Looks.tag .now)))
theorem abM {R:Result->Shared->Prop} {tp:Value} (X:K.In s.heap) (I:qU a C s.heap) (hm:mroIn K C (.type "object")=some true) (h:R (.ok (.ret (.ref C))) s) :
  codeAny (model prog w) A (.call (.builtin "getset_descriptor.__get__") ⟨[.builtin "object.__class__",.ref a,tp],[]⟩) R s:=by
 obtain⟨hh,g,dr,t,os⟩:=s
 have L0:=jT (M:=model prog w) I
 have L1:=looks_mroIn (M:=model prog w) X hm
 refine codeAny_call_builtin KF.slot_gs.plain KF.entry_gs (KF.slot_gs.check _ _ _ _ _ _ _ _ KF.type_class (KF.args_gs _ _ _) ?_)
 unfold Builtin.«getset_descriptor.__get__» descrGet
 rw [dga_obj]
 refine wpAny_bind (wpAny_pure ?_)
 unfold descrGetter descrCheckInstance descrNameAndClass isInstance
 simp only [KF.owner_class]
 repeat lk
 refine⟨akc _ (by decide +kernel),codeAny_builtin KF.entry_class ?_⟩
 unfold Builtin.«object.__class__» shownTypeOf
 repeat lk
 exact h
theorem aa9 {M:Model} {nameV:Value} {Q:Unit->Shared->Prop} (X:K.In s.heap) (I:qU a C s.heap) (Wy:ExcWays K C) (h:Q () s):wpAny M A (checkBuiltinCall "BaseException.__getattribute__" ⟨[.ref a,nameV],[]⟩) Q E s:=by
 obtain⟨hh,g,dr,t,os⟩:=s
 have hk:builtinKind "BaseException.__getattribute__"=some .slot:=by decide +kernel
 have hsp:splitId "BaseException.__getattribute__"=some ("BaseException","__getattribute__"):=by decide +kernel
 have L0:=jT (M:=M) I
 have L1:=looks_mroIn (M:=M) X Wy.be
 have ha:=F.args_bexc_ga (.ref a) nameV
 simp only [checkBuiltinCall,hk,hsp]
 unfold isInstance
 refine wpAny_bind (wpAny_bind (L0.at (L1.at ?_)))
 rw [ai1,if_neg ahW]
 exact wpAny_of_eq ha h
theorem afb {Q:Option Value->Shared->Prop} (X:K.In s.heap) (I:qU a C s.heap) (Wy:ExcWays K C) (h:Q (some (.ref C)) { s with toks:=s.toks+1 }):wpAny (model prog w) A (getAttr? (.ref a) "__class__") Q E s:=by
 obtain⟨hh,g,d,t,os⟩:=s
 have L0:=jT (M:=model prog w) I
 have L1:=looks_findIn (M:=model prog w) X Wy.ga
 have L2:=looks_findIn (M:=model prog w) X Wy.gt
 unfold getAttr? getAttrBy? getAttrBy
 refine wpAny_bind (wpAny_mkText (wpAny_bind (wpAny_attempt (wpAny_holding (wpAny_bind (L0.at (wpAny_bind (L1.at ?_))))))))
 dsimp only
 rw [if_neg (by
  have z:(Value.builtin "BaseException.__getattribute__" == Value.builtin "object.__getattribute__")=false:=by decide +kernel
  rw [z,akd]
  exact ahW)]
 unfold getAttrByItsOwn hookBefore
 rw [if_pos (show onTheHeap (Value.ref C)=true from rfl)]
 refine wpAny_bind (L2.at (wpAny_bind (wpAny_attempt (wpAny_holding ?_))))
 unfold callGetattribute
 rw [ajy,if_neg ahW]
 unfold boundAndCalled
 have f3:=akO.ga.bind (.ref a)
 rw [f3]
 refine wpAny_bind (wpAny_pure ?_)
 dsimp only
 refine wpAny_call (codeAny_call_builtin akO.ga.plain F.entry_bexc_ga (aa9 (K:=K) (C:=C) X I Wy ?_))
 have LF:=ac0 (M:=model prog w) (x:=.ref a) X Wy.cl Wy.gs Wy.tk
 unfold Builtin.«object.__getattribute__»
 refine wpAny_bind (wpAny_of_eq (a:=(Value.ref a,[Value.str (aiN "__class__") t])) rfl ?_)
 dsimp only
 refine wpAny_bind (wpAny_of_eq (a:=(aiN "__class__")) rfl ?_)
 refine wpAny_bind (L0.at (wpAny_bind (LF.at ?_)))
 dsimp only
 unfold bindTo
 refine wpAny_bind (wpAny_call (abM (K:=K) X I Wy.ob ?_))
 show wpAny _ _ (pure _) _ _ _
 refine wpAny_pure ?_
 dsimp only
 exact handed_on rfl (wpAny_pure h)
theorem ad4 (Wy:ExcWays K C):KitX K (.ref a) (.ref C) (qU a C) where
 ty:=fun _ _ _ I=>jT I
 it:=fun _ _ X _=>by
  obtain⟨cd,hc⟩:=aiQ.mp Wy.iz
  unfold clsIn at hc
  split at hc
  ·rename_i lk
   intro A' Q' E' s' k q
   unfold isType loadHead
   exact wpAny_bind (wpAny_loadPart (k _ _ (X _ _ lk)) (wpAny_pure q))
  ·cases hc
 ne:=fun h tp dd its n sl X htp=>by
  obtain⟨cd,hc⟩:=aiQ.mp Wy.iz
  refine Bool.eq_false_iff.mpr fun q=>?_
  have e:C=tp:=Value.ref.inj (beq_iff_eq.mp q)
  unfold clsIn at hc
  split at hc
  ·rename_i lk
   have z:=X _ _ lk
   rw [e] at z
   rw [htp] at z
   cases z
  ·cases hc
 ca:=fun X I k=>afb X I Wy k
end
structure FnInX (P:Program) (w:World) (K:ahX) (mg:Str->Option Value) (base:Heap) (k:Nat) (x:Str) (ps:List Str) (sp:Sp):Prop where
 ex:∃ (f:Addr) (fd:FuncData),FnOk P w K mg base (CXe P w) k f fd ps sp/\mg x=some (.ref f)/\aip K (.ref f)=true/\Binds K fd ps []
end L2
end
section
namespace L2
open PySem PySem.Spec PyProof.Rows
noncomputable def agE (K:ahX):List V->Hp->VK->Prop:=fun xs H Q=>∃ (a:Addr) (bs:List Bool),xs=[.ref a]/\SqL K H a (bs.map V.bl)/\Q (.bl (bs.all id)) H
noncomputable def ahP (K:ahX):List V->Hp->VK->Prop:=fun xs H Q=>∃ (a:Addr) (bs:List Bool),xs=[.ref a]/\SqL K H a (bs.map V.bl)/\Q (.bl (bs.any id)) H
theorem vJ:∀ {bs:List Bool} {us:List Value},Vals (bs.map V.bl) us->us=bs.map Value.bool
 | [],us,r=>by
  cases r
  rfl
 | b :: bs,us,r=>by
  cases r with
  | cons h t =>
   rw [vJ t]
   cases (show _=Value.bool b from h)
   rfl
theorem range_all (bs:List Bool):(aj9 bs.length).all (fun i=>bs.getD i false)=bs.all id:=by
 rw [ajp,aiE,aiE]
 constructor
 ·intro h b hb
  obtain⟨i,hi,rfl⟩:=akP.mp hb
  have:=h i (ajw.mpr hi)
  rwa [aiC,ah2 hi] at this
 ·intro h i hi
  have hi':=ajw.mp hi
  rw [aiC,ah2 hi']
  exact h _ (aiO hi')
theorem range_any (bs:List Bool):(aj9 bs.length).any (fun i=>bs.getD i false)=bs.any id:=by
 rw [ajp,List.any_eq_true,List.any_eq_true]
 constructor
 ·rintro⟨i,hi,h⟩
  have hi':=ajw.mp hi
  rw [aiC,ah2 hi'] at h
  exact⟨_,aiO hi',h⟩
 ·rintro⟨b,hb,h⟩
  obtain⟨i,hi,rfl⟩:=akP.mp hb
  refine⟨i,ajw.mpr hi,?_⟩
  rw [aiC,ah2 hi]
  exact h
theorem qV (prog:Program) (w:World) (A:Around) (bs:List Bool):TruthOf prog w A (fun i v=>(bs.map Value.bool).toArray[i]?=some v) (fun i=>bs.getD i false):=by
 intro i v s Q E hv hq
 rw [List.getElem?_toArray,ah9] at hv
 cases eb:bs[i]? with
 | none=>rw [eb] at hv;cases hv
 | some b =>
  rw [eb] at hv
  cases hv
  dsimp only at hq
  rw [aiC,eb] at hq
  exact wpAny_pure hq
theorem ac1 {X:Cx} (hc:X.calm=true):yn X (.builtin "all") (agE X.K):=by
 intro pins s σ H xs us Q I r h
 obtain⟨a,bs,rfl,hq,q⟩:=h
 obtain⟨u,rfl,r1⟩:=vals1 r
 cases r1
 obtain⟨its,rv,p,_⟩:=I.list hq
 have hl:=p.isList
 rw [vJ rv] at hl
 have ha:a<s.heap.objs.size:=by
  obtain⟨o,ho,_⟩:=hl
  exact ah4 ho
 refine call_all_walk (wpAny_pyIter_list hl ?_)
 have hne:a≠s.heap.objs.size:=aii ha
 refine⟨s.heap.objs.size,_,_,_,_,_,_,rfl,Walks.list (show (X.A.in1).handled=none from I.ok.hd hc) _ a hne _,⟨?_,?_⟩,qV _ _ _ bs,fun h' tk hk=>?_⟩
 ·exact⟨_,aik _ rfl,rfl,rfl⟩
 ·exact hl.at fun o e=>ah0 _ e
 ·have kp:∀ b o,s.heap.get? b=some o->h'.get? b=some o:=fun b o e=>hk b o (by
   intro z
   have:=ah4 e
   rw [ah5.mp z] at this
   exact ajq _ this) (ah0 _ e)
  refine⟨.bl _,H,I.kept (t':=tk) kp,?_,q⟩
  show Value.bool _=Value.bool _
  rw [aid,ahZ,range_all]
theorem aak {X:Cx} {K:ahX} (hK:X.K=K) (hc:X.calm=true):yn X (.builtin "all") (agE K):=hK▸ac1 hc
section
variable {K:ahX} {f:Fx} {ρ:zl} {P:PyData->Prop} {te:TE}
theorem qk {H:Hp}:∀ {bs:List Bool} {xs:List V},Reps K H (bs.map .bool) xs->xs=bs.map V.bl
 | [],xs,r=>reps_nil.mp r
 | b :: bs,xs,r=>by
  obtain⟨x,r',rfl,h1,h2⟩:=reps_cons.mp r
  rw [qk h2,rep_bool.mp h1]
  rfl
theorem afW (h:PEd K f te ρ fun x=>∃ bs:List Bool,x=.list (bs.map .bool)/\P (.bool (bs.all id))):PEd K f (tCB (agE K) (z9 te jh)) ρ P:=fun σ H Q e q=>h σ H _ e fun x v H1 g1 r1 ⟨bs,ex,p⟩=>by
 subst ex
 obtain⟨a,xs,rfl,h1,h2⟩:=rep_list.mp r1
 rw [qk h2] at h1
 exact⟨a,bs,rfl,(zo _ _).seq h1,q _ _ H1 g1 (rep_bool.mpr rfl) p⟩
end
noncomputable def agF (K:ahX) (neg:Bool):R2:=fun x y H Q=>∃ d ds,Rep K H d x/\Rep K H (.list ds) y/\d.canLay0=true/\(∀ e∈ds,e.canLay0=true)/\d.depth<=50/\Q (.bl (if neg then !ds.any (fun e=>aiK e d) else ds.any (fun e=>aiK e d))) H
open Classical in
noncomputable def eqR (h:Heap) (d:PyData) (u:Value):Bool:=if z:∃ e as,Reads h u e as/\e.canLay0=true then aiK z.choose d else false
theorem ad5 {h:Heap} {d e:PyData} {u:Value} {as:List Addr} (r:Reads h u e as) (c:e.canLay0=true):eqR h d u=aiK e d:=by
 have z:∃ e as,Reads h u e as/\e.canLay0=true:=⟨e,as,r,c⟩
 unfold eqR
 rw [dif_pos z]
 obtain⟨as',r',c'⟩:=z.choose_spec
 rw [SeqAt.Reads.unique _ _ _ _ _ c' r' r]
section
variable {X:Cx} {pins:List (Addr×Obj)} {σ:St} {H:Hp} {s:Shared}
theorem acp (I:Inv X pins σ H s) {d:PyData}:∀ {ds:List PyData} {xs:List V} {us:List Value},Reps X.K H ds xs->Vals xs us->(∀ e∈ds,e.canLay0=true)->us.any (eqR s.heap d)=ds.any (fun e=>aiK e d)
 | [],xs,us,r,v,_=>by
  rw [reps_nil.mp r] at v
  cases v
  rfl
 | e :: ds,xs,us,r,v,c=>by
  obtain⟨x,xs',rfl,h1,h2⟩:=reps_cons.mp r
  cases v with
  | cons r1 r2 =>
   obtain⟨as,ra⟩:=yI I e x _ h1 r1
   rw [ak2,ak2,ad5 ra (c e aic),acp I h2 r2 fun e he=>c e (ah3 _ he)]
theorem aba (I:Inv X pins σ H s) {A:Around} {d:PyData} {v:Value} {bs:List Addr} (rb:Reads s.heap v d bs) (cd:d.canLay0=true) (dd:d.depth<=50) (hu:A.units+60<cLine):∀ {ds:List PyData} {xs:List V} {us:List Value},Reps X.K H ds xs->Vals xs us->(∀ e∈ds,e.canLay0=true)->∀ u∈us,SeqAt.EqAt A s u v (eqR s.heap d u)
 | [],xs,us,r,w,_=>by
  rw [reps_nil.mp r] at w
  cases w
  intro u hu
  cases hu
 | e :: ds,xs,us,r,w,c=>by
  obtain⟨x,xs',rfl,h1,h2⟩:=reps_cons.mp r
  cases w with
  | cons r1 r2 =>
   intro u hm
   rcases ah7.mp hm with rfl | hm
   ·obtain⟨as,ra⟩:=yI I e x _ h1 r1
    rw [ad5 ra (c e aic)]
    refine SeqAt.eqAt_reads e d A s _ v as bs ra rb (c e aic) cd ?_
    have:=ai2 e.depth d.depth
    omega
   ·exact aba I rb cd dd hu h2 r2 (fun e he=>c e (ah3 _ he)) u hm
theorem agG (hu:X.A.units+64<cLine):OpR X (compareOp .In) (agF X.K false):=by
 intro pins s σ H x y v u Q I rx ry h
 obtain⟨d,ds,h1,h2,c1,c2,dd,q⟩:=h
 obtain⟨a,xs,rfl,hq,hr⟩:=rep_list.mp h2
 cases ry
 obtain⟨bs,rb⟩:=yI I d x v h1 rx
 obtain⟨its,r,pl,hz⟩:=I.list hq
 refine SeqAt.in_listAt (eqR s.heap d) pl.isList (fun w hw=>aba I rb c1 dd (show X.A.in1.units+60<cLine from by show X.A.units+1+60<cLine;omega) hr r c2 w (by simpa using hw)) ⟨.bl _,H,I,rfl,?_⟩
 rw [show its.toArray.any (eqR s.heap d)=its.any (eqR s.heap d) by simp,acp I hr r c2]
 exact q
theorem afc {K:ahX} (hK:X.K=K) (hu:X.A.units+64<cLine):OpR X (compareOp .In) (agF K false):=hK▸agG hu
end
section
variable {K:ahX} {f:Fx} {ρ:zl} {P:PyData->Prop} {te ta tb:TE} {t:TA} {D:DEnds} {i j:Nat}
theorem ahq (h:PEd K f ta ρ fun d=>PEd K f tb ρ fun y=>∃ ds,y=.list ds/\d.canLay0=true/\(∀ e∈ds,e.canLay0=true)/\d.depth<=50/\P (.bool (ds.any fun e=>aiK e d))):PEd K f (tOp (agF K false) ta tb) ρ P:=fun σ H Q e q =>
 h σ H _ e fun d v H1 g1 r1 p1=>p1 σ H1 _ (e.mono g1) fun y w H2 g2 r2 ⟨ds,ey,c1,c2,dd,p2⟩=>by
  subst ey
  exact⟨d,ds,Rep.mono (zo _ _) _ _ (Rep.mono g2.sm _ _ r1),Rep.mono (zo _ _) _ _ r2,c1,c2,dd,q _ _ H2 (g1.trans g2) (rep_bool.mpr rfl) p2⟩
end
end L2
end
section
namespace L2
open PySem PySem.Spec PyProof.Rows
section
variable {K:ahX} {f:Fx} {ρ:zl} {E:XK} {te:TE} {ts tu:TS} {tt:TT} {t:TA} {P:PyData->Prop} {D:DEnds}
theorem afX (h:PEd K f te ρ fun x=>∃ i,x=.int i/\P (.int (-i))):PEd K f (tUn (rU fun i=>.int (-i)) te) ρ P :=
 ahN (h.imp fun x ⟨i,ex,p⟩ v H Q fo r q=>by
  subst ex
  exact⟨i,rep_int.mp r,q _ _ H (.refl fo) (rep_int.mpr rfl) p⟩)
theorem ahr {n:String} {b:Bool} (hk:ahY K (.type "int") (.type n)=some b) (h:PEd K f te ρ fun d=>∃ i,d=.int i/\P (.bool b)):PEd K f (tCB (ae9 K) (z9 te (z9 (tC (.ty n)) jh))) ρ P:=fun σ H Q e q=>h σ H _ e fun d v H1 g r ⟨i,ed,p⟩=>by
 subst ed
 rw [rep_int.mp r]
 exact⟨_,n,b,rfl,.inr (.inr ⟨_,.int i,hk⟩),q _ _ H1 g (rep_bool.mpr rfl) p⟩
end
end L2
end
section
namespace L2
open PySem PySem.Spec PyProof.Rows
end L2
end
section
namespace L2
open PySem PySem.Spec PyProof.Rows
section
variable {prog:Program} {w:World} {A:Around} {E:Value->Shared->Prop} {s:Shared}
theorem afd {t b:Addr} {vs ws:List Value} {Q:Value->Shared->Prop} (ht:PlainL s.heap t vs.toArray) (hb:PlainL s.heap b ws.toArray)
  (h2:Q (.ref s.heap.objs.size) { s with heap:=s.heap.push { cls:=.type "list",data:=.seq (vs++ws).toArray } })
  (hsz:vs.length+ws.length<=sizeLine):wpAny (model prog w) A (binaryOp .Add (.ref t) (.ref b)) Q E s:=by
 obtain⟨⟨cls,dd,data,sl⟩,n,ho,hc,_,hd⟩:=ht
 obtain⟨⟨cls2,dd2,data2,sl2⟩,n2,ho2,hc2,_,hd2⟩:=hb
 simp only at hc hd hc2 hd2
 subst hc hd hc2 hd2
 have e:vs.toArray++ws.toArray=(vs++ws).toArray:=by simp
 refine concat_meets ⟨_,ho,rfl⟩ ⟨_,ho2,rfl⟩ noFill_list_add seq_list_add PySem.F.slot_list_add PySem.F.entry_list_add (PySem.F.args_list_add_2 _ _) (list_addW t b vs.toArray ws.toArray n n2 dd dd2 sl sl2 (by rw [aid,aid];exact hsz)) ⟨ho,ho2,?_⟩
 rw [e]
 exact h2
end
noncomputable def ad6 (K:ahX):R2:=fun x y H Q=>∃ l b xs zs,x=.ref l/\y=.ref b/\SqL K H l xs/\SqL K H b zs/\xs.length+zs.length<=sizeLine/\∀ p,H p=none->Q (.ref p) (upd H p (.lst (xs++zs)))
section
variable {X:Cx}
theorem afe:OpR X (binaryOp .Add) (ad6 X.K):=by
 intro pins s σ H x y v u Q I rx ry h
 obtain⟨l,b,xs,zs,rfl,rfl,ha,hb,hz,q⟩:=h
 cases rx
 cases ry
 obtain⟨its,r1,p1,_⟩:=I.list ha
 obtain⟨its2,r2,p2,_⟩:=I.list hb
 refine afd p1 p2 ?_ (by rw [<-r1.length,<- r2.length];exact hz)
 exact⟨.ref _,_,I.lnew (t':=s.toks) (r1.append r2) (by rw [aij];omega),rfl,q _ I.fresh⟩
theorem yV {K:ahX} (hK:X.K=K):OpR X (binaryOp .Add) (ad6 K):=hK▸afe
end
section
variable {K:ahX} {f:Fx} {ρ:zl} {P:PyData->Prop} {te ta tb:TE} {t:TA}
theorem ql (h:PEd K f ta ρ fun x=>∃ ds,x=.list ds/\PEd K f tb ρ fun y=>∃ es,y=.list es/\ds.length+es.length<=1000/\P (.list (ds++es))):PEd K f (tOp (ad6 K) ta tb) ρ P:=fun σ H Q e q =>
 h σ H _ e fun x v H1 g1 r1 ⟨ds,ex,p1⟩=>p1 σ H1 _ (e.mono g1) fun y w H2 g2 r2 ⟨es,ey,hl,p2⟩=>by
  subst ex ey
  obtain⟨a,xs,rfl,h1,h2⟩:=rep_list.mp (Rep.mono g2.sm _ _ r1)
  obtain⟨b,ys,rfl,h3,h4⟩:=rep_list.mp r2
  have l1:=h2.length
  have l2:=h4.length
  refine⟨a,b,xs,ys,rfl,rfl,(zo _ _).seq h1,(zo _ _).seq h3,by rw [l1,l2];exact ajm (yC hl),fun p hn=>?_⟩
  have g3:Goes f H2 (upd H2 p (.lst (xs++ys))):=.of_same (yh hn _) g2.ok
  exact q (.list (ds++es)) _ _ (g1.trans (g2.trans g3)) (rep_list.mpr ⟨p,_,rfl,.of (zw (fresh_ne g2.ok hn) zr),Reps.mono g3.sm _ _ (h2.append h4)⟩) p2
end
end L2
end
section
namespace L2
open PySem PySem.Spec PyProof.Rows
end L2
end
section
namespace L2
open PySem PySem.W PyProof.Rows
structure Tot (n:Nat) (lt:Nat->Nat->Bool):Prop where
 tri:∀ i j,i<n->j<n->i≠j->lt i j=!lt j i
 tra:∀ i j k,i<n->j<n->k<n->lt i j=true->lt j k=true->lt i k=true
noncomputable def Ans (cmp:Nat->Nat->(Bool->Shared->Prop)->Shared->Prop) (n:Nat) (lt:Nat->Nat->Bool) (s:Shared):Prop:=∀ i j C,i<n->j<n->C (lt i j) s->cmp i j C s
noncomputable def Dn (lt:Nat->Nat->Bool) (p:Array Nat) (m:Nat):Prop:=∀ i j,i<j->j<m->lt (p.getD j 0) (p.getD i 0)=true
end L2
end
section
set_option maxHeartbeats 400000
namespace L2
open PySem PySem.W PySem.Calls PyProof.Rows
end L2
end
section
set_option maxHeartbeats 400000
namespace L2
open PySem PySem.W PySem.Calls PyProof.Rows
section
variable {it:Array Keyed} {n:Nat} {lt:Nat->Nat->Bool}
noncomputable def kit (it:Array Keyed) (l:List Nat):Array Keyed:=(l.map (kas_item it)).toArray
structure MI (lt:Nat->Nat->Bool) (xs ys zs:List Nat) (ia ib:Nat):Prop where
 perm:zs.Perm (xs.take ia++ys.take ib)
 up:zs.Pairwise fun a b=>lt a b=true
 a:∀ z∈zs,∀ r∈xs.drop ia,lt z r=true
 b:∀ z∈zs,∀ r∈ys.drop ib,lt z r=true
end
section
variable {P:Program} {w:World} {A:Around} {X:Value->Shared->Prop} {s:Shared} {κ:SortKind} {it:Array Keyed} {n:Nat} {lt:Nat->Nat->Bool}
structure Two (n:Nat) (lt:Nat->Nat->Bool) (xs ys:List Nat):Prop where
 bx:∀ x∈xs,x<n
 by_:∀ y∈ys,y<n
 px:xs.Pairwise fun a b=>lt a b=true
 py:ys.Pairwise fun a b=>lt a b=true
 ne:∀ x∈xs,∀ y∈ys,x≠y
end
end L2
end
section
set_option maxHeartbeats 400000
namespace L2
open PySem PySem.W PySem.Calls PyProof.Rows
section
variable {it:Array Keyed} {n:Nat} {lt:Nat->Nat->Bool}
structure MH (lt:Nat->Nat->Bool) (xs ys zs:List Nat) (na nb:Nat):Prop where
 perm:zs.Perm (xs.drop na++ys.drop nb)
 dn:zs.Pairwise fun a b=>lt b a=true
 a:∀ z∈zs,∀ r∈xs.take na,lt r z=true
 b:∀ z∈zs,∀ r∈ys.take nb,lt r z=true
end
section
variable {P:Program} {w:World} {A:Around} {X:Value->Shared->Prop} {s:Shared} {κ:SortKind} {it:Array Keyed} {n:Nat} {lt:Nat->Nat->Bool}
theorem ad7 (T:Tot n lt) {l:List Nat} (bl:∀ x∈l,x<n) {key:Nat} (hk:key<n) (ne:∀ x∈l,key≠x) (k m:Nat) (hm:m<=l.length) (hkm:k<=m) (h1:∀ j,j<k->lt (l.getD j 0) key=true) (h2:∀ j,k<=j->j<m->lt (l.getD j 0) key=false) :
  (∀ r∈l.take k,lt r key=true)/\∀ r∈(l.drop k).take (m - k),lt key r=true:=by
 constructor
 ·intro r hr
  obtain⟨j,hj,rfl⟩:=akW hr
  rw [aiz] at hj
  have:=h1 j (by omega)
  have e:l.getD j 0=l[j]:=by simp [List.getD,show j<l.length by omega]
  rw [e] at this
  simpa using this
 ·intro r hr
  obtain⟨j,hj,rfl⟩:=akW hr
  rw [aiz,aiL] at hj
  have:=h2 (k+j) (by omega) (by omega)
  have e:l.getD (k+j) 0=l[k+j]:=by simp [List.getD,show k+j<l.length by omega]
  rw [e] at this
  rw [List.getElem_take,List.getElem_drop,T.tri _ _ hk (bl _ (aiO _)) (ne _ (aiO _)),this]
  rfl
end
end L2
end
section
set_option maxHeartbeats 400000
namespace L2
open PySem PySem.W PySem.Calls PyProof.Rows
end L2
end
section
set_option maxHeartbeats 400000
namespace L2
open PySem PySem.W PySem.Calls PyProof.Rows
section
variable {P:Program} {w:World} {A:Around} {X:Value->Shared->Prop} {s:Shared} {κ:SortKind} {it:Array Keyed} {n:Nat} {lt:Nat->Nat->Bool}
noncomputable def sl (κ:SortKind) (it:Array Keyed) (l:List Nat) (pd:Array (Nat×Nat×Nat)) (g:Nat):SortSt:=SortSt.mk' κ (kit it l) pd g none
end
end L2
end
section
set_option maxHeartbeats 400000
namespace L2
open PySem PySem.W PySem.Calls PyProof.Rows
end L2
end
section
set_option maxHeartbeats 400000
namespace L2
open PySem PySem.W PySem.Calls PyProof.Rows
end L2
end
section
namespace L2
open PySem PySem.W PySem.Calls PyProof.Rows
section
variable {P:Program} {w:World} {A:Around} {X:Value->Shared->Prop} {s:Shared} {κ:SortKind} {vs:List Value} {lt:Nat->Nat->Bool}
structure Asks (P:Program) (w:World) (A:Around) (s:Shared) (κ:SortKind) (vs:List Value) (lt:Nat->Nat->Bool):Prop where
 kind:2<=vs.length->∀ (h':Heap),(∀ b o,s.heap.get? b=some o->h'.get? b=some o)->∀ R:SortKind->Shared->Prop,R κ { s with heap:=h' }->wpAny (model P w) A (keyKind' vs.toArray) R (fun _ _=>False) { s with heap:=h' }
 less:∀ (h':Heap),(∀ b o,s.heap.get? b=some o->h'.get? b=some o)->Ans (kas_ask P w A κ vs) vs.length lt { s with heap:=h' }
 ord:Tot vs.length lt
 few:vs.length<128 \/ ∀ i,i+1<vs.length->lt (i+1) i=false
end
mutual
noncomputable def vK:PyData->Bool
 | .int _=>true
 | .str s=>(PyData.str s).canLay0
 | .tuple xs=>ad8 xs
 | _=>false
noncomputable def ad8:List PyData->Bool
 | []=>true
 | x :: xs=>vK x && ad8 xs
end
mutual
noncomputable def agH:PyData->PyData->Bool
 | .int _,.int _=>true
 | .str _,.str _=>true
 | .tuple xs,.tuple ys=>ahs xs ys
 | _,_=>false
noncomputable def ahs:List PyData->List PyData->Bool
 | [],_=>true
 | _ :: _,[]=>true
 | x :: xs,y :: ys=>if aiK x y=true then ahs xs ys else agH x y
end
end L2
end
section
namespace L2
open PySem PySem.Spec PyProof.Rows PySem.SeqAt
open PySem.AutoSeq1 (wpAny_loadPart')
open PySem.MeetsSeq PySem.MeetsSeq2 PySem.MeetsSeq3
noncomputable def ahQ (A:Around) (s:Shared) (y x:Value) (b:Bool):Prop :=
 ∀ (prog:Program) (w:World) (E:Value->Shared->Prop) (Q:Value->Shared->Prop),Q (.bool b) s->wpAny (model prog w) A (richCompare .Lt y x) Q E s
inductive Lex (A:Around) (s:Shared):List Value->List Value->Bool->Prop where
 | nn:Lex A s [] [] false
 | nc {w ws}:Lex A s [] (w :: ws) true
 | cn {v vs}:Lex A s (v :: vs) [] false
 | eq {v w vs ws b}:EqAt A s v w true->Lex A s vs ws b->Lex A s (v :: vs) (w :: ws) b
 | lt {v w vs ws b}:EqAt A s v w false->ahQ A s v w b->Lex A s (v :: vs) (w :: ws) b
end L2
end
section
namespace L2
open PySem PySem.Spec PyProof.Rows PySem.SeqAt PySem.W
noncomputable def ad9:PyData->Option String
 | .tuple (.int _ :: _)=>some "int"
 | .tuple (.str _ :: _)=>some "str"
 | .tuple (.tuple _ :: _)=>some "tuple"
 | _=>none
structure SortOk (T:String) (ds:List PyData):Prop where
 plain:∀ d∈ds,vK d=true
 head:∀ d∈ds,ad9 d=some T
 cmp:∀ d∈ds,∀ e∈ds,agH d e=true
 depth:∀ d∈ds,d.depth<=50
 nd:ds.Nodup
end L2
end
section
namespace L2.ST
open PySem PySem.SetTable
noncomputable def ahR (xs:Array Nat):Prop:=∀ i j,i<j->j<xs.size->xs.getD i 0<xs.getD j 0
noncomputable def Tk (t:SetTable) (j:Nat):Prop:=∃ i,i<t.place.size/\t.place.getD i 0=j
noncomputable def road (mask:Nat) (h:Int):Nat->Probe
 | 0=>{ j:=bits h % (mask+1),more:=runEnd mask (bits h % (mask+1)) - bits h % (mask+1),i:=bits h % (mask+1),perturb:=bits h,dummy:=none }
 | k+1=>if (road mask h k).more > 0 then { road mask h k with j:=(road mask h k).j+1,more:=(road mask h k).more - 1 } else
  { road mask h k with j:=(leap mask (road mask h k).i (road mask h k).perturb).1,more:=runEnd mask (leap mask (road mask h k).i (road mask h k).perturb).1 - (leap mask (road mask h k).i (road mask h k).perturb).1,i:=(leap mask (road mask h k).i (road mask h k).perturb).1,perturb:=(leap mask (road mask h k).i (road mask h k).perturb).2 }
noncomputable abbrev pos (mask:Nat) (h:Int) (k:Nat):Nat:=(road mask h k).j
end L2.ST
end
section
namespace L2.ST
open PySem PySem.SetTable
structure TB (t:SetTable) (hs:List Int):Prop where
 mask:t.mask=7 \/ t.mask=31 \/ t.mask=127 \/ t.mask=511
 dum:t.dummies=#[]
 rise:ahR t.place
 le:∀ i,i<t.place.size->t.place.getD i 0<=t.mask
 size:t.place.size=hs.length
 most:hs.length<=t.mask
 reach:∀ i,i<hs.length->∃ k,pos t.mask (hs.getD i 0) k=t.place.getD i 0/\∀ k',k'<k->Tk t (pos t.mask (hs.getD i 0) k')
structure TOk (t:SetTable) (hs:List Int):Prop extends TB t hs where
 room:hs.length * 5<t.mask * 3
structure First (t:SetTable) (h:Int) (E:Nat):Prop where
 lt:E<10 * turns t.mask
 free:¬ Tk t (pos t.mask h E)
 ahead:∀ k,k<E->Tk t (pos t.mask h k)
end L2.ST
end
section
namespace L2.ST
open PySem PySem.SetTable
end L2.ST
end
section
namespace L2.ST
open PySem PySem.SetTable
structure OwnT (mask:Nat) (ow:Array (Option Nat)) (hs:List Int) (sl:List Nat):Prop where
 size:ow.size=mask+1
 len:sl.length=hs.length
 nd:sl.Nodup
 le:∀ j∈sl,j<=mask
 own:∀ j,j<=mask->∀ i,ow.getD j none=some i↔sl[i]?=some j
 reach:∀ i,i<hs.length->∃ q,pos mask (hs.getD i 0) q=sl.getD i 0/\∀ q',q'<q->pos mask (hs.getD i 0) q'∈sl
end L2.ST
end
section
namespace L2
open PySem PySem.Spec PyProof.Rows
mutual
noncomputable def acq (w:World):PyData->Int
 | .int i=>hashInt i
 | .str x=>hashStr w x
 | .tuple xs=>reduceHash (Builtin.Tuple.tupleHashOf (afY w xs))
 | _=>0
noncomputable def afY (w:World):List PyData->List Int
 | []=>[]
 | x :: xs=>acq w x :: afY w xs
end
noncomputable instance decPy:DecidableEq PyData:=fun a b=>Classical.propDecidable _
structure KeyAt (h:Heap) (d:PyData) (a:Addr):Prop where
 rd:∃ as,Reads h (.ref a) d as
 pl:vK d=true
 dp:d.depth<=8
end L2
end
section
namespace L2
open PySem PySem.Spec PyProof.Rows PySem.SetTable
section
variable {P:Program} {w:World} {A:Around} {E:Value->Shared->Prop} {s:Shared}
structure SetObj (w:World) (h:Heap) (a:Addr) (xs:List (PyData×Addr)) (o:Obj) (es:Array (Int×Value)) (ep:Nat) (t:SetTable):Prop where
 ob:h.get? a=some o
 ex:o.ExactSet
 da:o.data=.set es ep t
 el:es.toList=xs.map fun x=>(acq w x.1,Value.ref x.2)
 ok:ST.TOk t (xs.map fun x=>acq w x.1)
end
end L2
end
section
namespace L2
open PySem PySem.Spec PyProof.Rows PySem.SetTable
inductive OC where
 | lst (es:List PyData)
 | set (ks:List PyData)
 | dic (kvs:List (PyData×PyData))
noncomputable def ahS (w:World) (a:Addr) (xs:List (PyData×Addr)):HO:=.ext fun h=>∃ o es ep t,SetObj w h a xs o es ep t
structure DicObj (w:World) (h:Heap) (a:Addr) (xs:List (PyData×Addr×Value)) (o:Obj) (es:Array DictEntry) (ep:Nat):Prop where
 ob:h.get? a=some o
 ex:o.ExactDict
 da:o.data=.dict es ep
 el:es.toList=xs.map fun x=>(⟨acq w x.1,.ref x.2.1,x.2.2⟩:DictEntry)
 nd:(xs.map (·.1)).Nodup
 ns:(a == sysModules)=false
noncomputable def ahT (w:World) (a:Addr) (xs:List (PyData×Addr×Value)):HO:=.ext fun h=>∃ o es ep,DicObj w h a xs o es ep
noncomputable def aht (d:PyData):Prop:=vK d=true/\d.depth<=8
noncomputable def EntR (K:ahX) (Hh:Hp) (x:PyData×Addr×Value) (p:PyData×PyData):Prop:=x.1=p.1/\aht x.1/\Rep K Hh x.1 (.ref x.2.1)/\∃ v,Rep K Hh p.2 v/\RelV v x.2.2
theorem EntR.mono {K:ahX} {Hh Hh':Hp} (s:Same Hh Hh'):∀ {xs:List (PyData×Addr×Value)} {kvs:List (PyData×PyData)},Paired (EntR K Hh) xs kvs->Paired (EntR K Hh') xs kvs
 | _,_,.nil=>.nil
 | _,_,.cons ⟨h1,h2,h3,v,h4,h5⟩ t=>.cons ⟨h1,h2,Rep.mono s _ _ h3,v,Rep.mono s _ _ h4,h5⟩ (EntR.mono s t)
noncomputable def OwnAt (w:World) (K:ahX) (Hh H:Hp) (D:Addr):OC->Prop
 | .lst es=>∃ vs,H D=some (.lst vs)/\Reps K Hh es vs
 | .set ks=>∃ xs:List (PyData×Addr),H D=some (ahS w D xs)/\(∀ x∈xs,aht x.1/\Rep K Hh x.1 (.ref x.2))/\(∀ d,d∈xs.map (·.1)↔d∈ks)/\xs.length<=ks.length
 | .dic kvs=>∃ xs:List (PyData×Addr×Value),H D=some (ahT w D xs)/\Paired (EntR K Hh) xs kvs
theorem OwnAt.mono {w:World} {K:ahX} {Hh Hh' H H':Hp} {D:Addr} (e:H' D=H D) (s:Same Hh Hh'):∀ {c:OC},OwnAt w K Hh H D c->OwnAt w K Hh' H' D c
 | .lst es,⟨vs,h1,h2⟩=>⟨vs,e.trans h1,Reps.mono s es vs h2⟩
 | .set ks,⟨xs,h1,h2,h3⟩=>⟨xs,e.trans h1,fun x hx=>⟨(h2 x hx).1,Rep.mono s _ _ (h2 x hx).2⟩,h3⟩
 | .dic kvs,⟨xs,h1,h2⟩=>⟨xs,e.trans h1,EntR.mono s h2⟩
noncomputable def Fx.withs (f:Fx) (Ds:List Addr):Fx:={ f with M:=Ds.reverse++f.M }
theorem z7 (f:Fx) (Ds:List Addr) (D:Addr):f.withs (Ds++[D])=(f.withs Ds).with D:=by
 unfold Fx.withs Fx.with
 rw [aj2]
 rfl
structure CM (w:World) (K:ahX) (f:Fx) (Ds:List Addr) (H2:Hp) (ρ:zl) (cs:List OC) (σ:St) (H:Hp):Prop where
 env:EnvOk K (f.withs Ds) ρ σ H
 sm:Same (hide H2 (f.withs Ds)) (hide H (f.withs Ds))
 kp:∀ b∈f.M,H b=H2 b
 len:cs.length=Ds.length
 own:∀ (i:Nat) D c,Ds[i]?=some D->cs[i]?=some c->OwnAt w K (hide H (f.withs Ds)) H D c
structure Sep (f:Fx) (Ds:List Addr):Prop where
 nd:Ds.Nodup
 nf:∀ D∈Ds,f.f≠some D
 nm:∀ D∈Ds,D∉f.M
section
variable {w:World} {K:ahX} {f:Fx} {Ds:List Addr} {H H' H2:Hp} {ρ ρ2:zl} {cs:List OC} {σ σ2:St} {i:Nat} {D:Addr} {c:OC} {o:HO}
theorem yS (hD:D∈Ds):D∈(f.withs Ds).M:=ai8 _ (ajF.mpr hD)
theorem yi (hD:D∈Ds):hide (upd H D o) (f.withs Ds)=hide H (f.withs Ds):=by
 funext b
 unfold hide
 by_cases h:(f.withs Ds).f=some b \/ b∈(f.withs Ds).M
 ·rw [if_pos h,if_pos h]
 ·rw [if_neg h,if_neg h,zk fun (z:b=D)=>h (.inr (z▸yS hD))]
theorem CM.go (x:CM w K f Ds H2 ρ cs σ H) (g:Goes (f.withs Ds) H H') (e2:EnvOk K (f.withs Ds) ρ2 σ2 H'):CM w K f Ds H2 ρ2 cs σ2 H' :=
 ⟨e2,x.sm.trans g.sm,fun b hb=>(g.kp b (aia _ hb)).trans (x.kp b hb),x.len,fun i D c h1 h2=>(x.own i D c h1 h2).mono (g.kp D (yS (aiw h1))) g.sm⟩
theorem CM.self (x:CM w K f Ds H2 ρ cs σ H):CM w K f Ds H ρ cs σ H:=⟨x.env,Same.refl _,fun _ _=>rfl,x.len,x.own⟩
theorem CM.trans {cs':List OC} {ρ':zl} {σ':St} (x:CM w K f Ds H2 ρ cs σ H) (y:CM w K f Ds H ρ' cs' σ' H'):CM w K f Ds H2 ρ' cs' σ' H':=⟨y.env,x.sm.trans y.sm,fun b hb=>(y.kp b hb).trans (x.kp b hb),y.len,y.own⟩
theorem aff (se:Sep f Ds) (hD:D∈Ds) (h:FOk (f.withs Ds) H):FOk (f.withs Ds) (upd H D o) :=
 ⟨fun p e=>let⟨a,b,h1,h2⟩:=h.fd p e;⟨a,b,by rw [zk (fun (z:p=D)=>se.nf D hD (z▸e))];exact h1,h2⟩,fun b hb=>by
  by_cases e:b=D
  ·exact⟨o,by rw [e];exact zr⟩
  ·obtain⟨u,hu⟩:=h.mm b hb
   exact⟨u,by rw [zk e];exact hu⟩,h.nm⟩
theorem afg (se:Sep f Ds) (hD:D∈Ds) (e:EnvOk K (f.withs Ds) ρ σ H):EnvOk K (f.withs Ds) ρ σ (upd H D o) :=
 ⟨e.len,fun i x h=>by
  obtain⟨v,h1,h2⟩:=e.get i x h
  refine⟨v,h1,?_⟩
  cases x with
  | dat d =>
   show Rep K (hide (upd H D o) (f.withs Ds)) d v
   rw [yi hD]
   exact h2
  | feed=>exact h2
  | own k=>exact h2
  | exc C =>
   obtain⟨a,e1,q⟩:=h2
   exact⟨a,e1,by rw [yi hD];exact q⟩
  | mon φ =>
   intro H' s
   rw [yi hD] at s
   exact h2 H' s,aff se hD e.fd⟩
theorem CM.put {c':OC} (se:Sep f Ds) (x:CM w K f Ds H2 ρ cs σ H) (hi:Ds[i]?=some D) (ho:OwnAt w K (hide H (f.withs Ds)) (upd H D o) D c'):CM w K f Ds H2 ρ (cs.set i c') σ (upd H D o):=by
 have hD:=aiw hi
 refine⟨afg se hD x.env,by rw [yi hD];exact x.sm,fun b hb=>(zk (fun (z:b=D)=>se.nm D hD (z▸hb))).trans (x.kp b hb),by rw [aiV];exact x.len,fun j D' c h1 h2=>?_⟩
 rw [yi hD]
 by_cases e:i=j
 ·subst e
  rw [hi] at h1
  cases h1
  have hl:i<cs.length:=by rw [x.len];exact (ah1.mp hi).1
  rw [aiM hl] at h2
  cases h2
  exact ho
 ·rw [aiR e] at h2
  have ne:D'≠D:=fun z=>by
   subst z
   obtain⟨l1,e1⟩:=ah1.mp hi
   obtain⟨l2,e2⟩:=ah1.mp h1
   exact e ((List.getElem_inj se.nd).mp (e1.trans e2.symm))
  exact (x.own j D' c h1 h2).mono (zk ne) (Same.refl _)
end
structure MEnds where
 nx:zl->List OC->Prop
 rt:PyData->Prop
 bk:zl->List OC->Prop:=fun _ _=>False
 ct:zl->List OC->Prop:=fun _ _=>False
noncomputable def PSm (w:World) (K:ahX) (f:Fx) (Ds:List Addr) (ts:TS) (ρ:zl) (cs:List OC) (O:MEnds):Prop:=Sep f Ds->∀ (σ:St) (H H2:Hp) (E:Ends),CM w K f Ds H2 ρ cs σ H ->
 (∀ ρ' cs' σ' H',CM w K f Ds H2 ρ' cs' σ' H'->O.nx ρ' cs'->E.nx σ' H')->(∀ d v ρ' cs' σ' H',CM w K f Ds H2 ρ' cs' σ' H'->Rep K (hide H' f) d v->O.rt d->E.rt v H') ->
 (∀ ρ' cs' σ' H',CM w K f Ds H2 ρ' cs' σ' H'->O.bk ρ' cs'->E.bk σ' H')->(∀ ρ' cs' σ' H',CM w K f Ds H2 ρ' cs' σ' H'->O.ct ρ' cs'->E.ct σ' H')->ts E σ H
noncomputable def PTm (w:World) (K:ahX) (f:Fx) (Ds:List Addr) (tt:TT) (ρ:zl) (cs:List OC) (B:Bool->Prop):Prop:=Sep f Ds->∀ (σ:St) (H H2:Hp) (Q:Bool->Hp->Prop),CM w K f Ds H2 ρ cs σ H->(∀ b H',Goes (f.withs Ds) H H'->B b->Q b H')->tt σ H Q
noncomputable def PEm (w:World) (K:ahX) (f:Fx) (Ds:List Addr) (te:TE) (ρ:zl) (cs:List OC) (P:PyData->Prop):Prop:=Sep f Ds->∀ (σ:St) (H H2:Hp) (Q:VK),CM w K f Ds H2 ρ cs σ H->(∀ d v H',Goes (f.withs Ds) H H'->Rep K (hide H' (f.withs Ds)) d v->P d->Q v H')->te σ H Q
noncomputable def agI (w:World) (K:ahX) (f:Fx) (te:TE) (ρ:zl) (P:OC->Prop):Prop:=∀ (σ:St) (H:Hp) (Q:VK),EnvOk K f ρ σ H ->
 (∀ c D H',Goes f H H'->H D=none->OwnAt w K (hide H' (f.with D)) H' D c->P c->Q (.ref D) H')->te σ H Q
section
variable {w:World} {K:ahX} {f:Fx} {Ds:List Addr} {ρ:zl} {cs:List OC} {ts tu:TS} {tt:TT} {te:TE} {wi:TI} {g:TG} {O:MEnds} {i j:Nat}
theorem same_withs {H:Hp}:Same (hide H (f.withs Ds)) (hide H f):=fun b o h=>by
 obtain⟨h1,h2⟩:=zH h
 exact zw (fun z=>h1 (z.elim .inl fun z=>.inr (aia _ z))) h2
theorem aea {D:DEnds} (h:PSm w K f [] ts ρ [] { nx:=fun ρ' _=>D.nx ρ',rt:=D.rt,bk:=fun ρ' _=>D.bk ρ',ct:=fun ρ' _=>D.ct ρ' }):PSd K f ts ρ D:=fun σ H E e n r b k=>by
 have gg:∀ {ρ':zl} {cs':List OC} {σ':St} {H':Hp},CM w K f [] H ρ' cs' σ' H'->Goes f H H':=fun x=>⟨x.sm,x.env.fd,x.kp⟩
 exact h ⟨List.nodup_nil,(fun _ z=>nomatch z),(fun _ z=>nomatch z)⟩ σ H H E ⟨e,Same.refl _,fun _ _=>rfl,rfl,(fun i D c z=>nomatch z)⟩
  (fun ρ' cs' σ' H' x p=>n ρ' σ' H' (gg x) x.env p) (fun d v ρ' cs' σ' H' x r' p=>r d v H' (gg x) r' p) (fun ρ' cs' σ' H' x p=>b ρ' σ' H' (gg x) x.env p) (fun ρ' cs' σ' H' x p=>k ρ' σ' H' (gg x) x.env p)
theorem abN (h:PSd K (f.withs Ds) ts ρ { nx:=fun ρ'=>O.nx ρ' cs,rt:=O.rt,bk:=fun ρ'=>O.bk ρ' cs,ct:=fun ρ'=>O.ct ρ' cs }):PSm w K f Ds ts ρ cs O:=fun se σ H H2 E x n r b k =>
 h σ H E x.env (fun ρ' σ' H' g' e' p=>n ρ' cs σ' H' (x.go g' e') p) (fun d v H' g' r' p=>r d v ρ cs σ H' (x.go g' (x.env.mono g')) (Rep.mono same_withs d v r') p) (fun ρ' σ' H' g' e' p=>b ρ' cs σ' H' (x.go g' e') p) (fun ρ' σ' H' g' e' p=>k ρ' cs σ' H' (x.go g' e') p)
theorem aal (h:PSm w K f Ds ts ρ cs { O with nx:=fun ρ' cs'=>PSm w K f Ds tu ρ' cs' O }):PSm w K f Ds (vo ts tu) ρ cs O:=fun se σ H H2 E x n r b k =>
 h se σ H H2 _ x (fun ρ' cs' σ' H' x' p=>p se σ' H' H2 E x' n r b k) r b k
theorem aeb (h:O.nx ρ cs):PSm w K f Ds adv ρ cs O:=fun _ σ H H2 E x n r b k=>n ρ cs σ H x h
theorem ahu {B:Bool->Prop} (h:PTd K (f.withs Ds) tt ρ B):PTm w K f Ds tt ρ cs B:=fun se σ H H2 Q x q=>h σ H Q x.env q
theorem aec {P:PyData->Prop} (h:PEd K (f.withs Ds) te ρ P):PEm w K f Ds te ρ cs P:=fun se σ H H2 Q x q=>h σ H Q x.env q
theorem ahU (h:PTm w K f Ds tt ρ cs fun b=>if b=true then PSm w K f Ds ts ρ cs O else PSm w K f Ds tu ρ cs O):PSm w K f Ds (abw tt ts tu) ρ cs O:=fun se σ H H2 E x n r b k =>
 h se σ H H2 _ x fun q H1 g1 p=>by
  have x1:=x.go g1 (x.env.mono g1)
  cases q with
  | false =>
   rw [if_neg ahW] at p ⊢
   exact p se σ H1 H2 E x1 n r b k
  | true =>
   rw [if_pos rfl] at p ⊢
   exact p se σ H1 H2 E x1 n r b k
theorem aed (h:PId K (f.withs Ds) wi ρ fun ds=>∃ J:Nat->zl->List OC->Prop,J 0 ρ cs /\
   (∀ (i:Nat) d ρ' cs',ds[i]?=some d->J i ρ' cs'->PGd K (f.withs Ds) g d ρ' fun ρ2=>PSm w K f Ds ts ρ2 cs' { O with nx:=J (i+1),ct:=J (i+1),bk:=O.nx })/\∀ ρ' cs',J ds.length ρ' cs'->O.nx ρ' cs') :
  PSm w K f Ds (adC wi g ts) ρ cs O:=fun se σ H H2 E x n r b k=>h σ H _ x.env fun ds J H1 g1 it ⟨Jv,j0,js,jd⟩=>by
 have x1:=x.go g1 (x.env.mono g1)
 refine⟨fun i m σ' H'=>∃ ρ' cs',CM w K f Ds H2 ρ' cs' σ' H'/\Same (hide H1 (f.withs Ds)) (hide H' (f.withs Ds))/\Jv i ρ' cs'/\m+i=ds.length,⟨ds.length,ρ,cs,x1,Same.refl _,j0,rfl⟩,fun i m σ' H' ⟨ρ',cs',x',sm',p,hm⟩=>?_⟩
 by_cases hi:i<ds.length
 ·obtain⟨hgo,hy⟩:=it.go (f.withs Ds) H' i _ x'.env.fd sm' (ah2 hi)
  refine .inr ⟨hgo,fun σ2 H3=>∃ ρ2 cs2,CM w K f Ds H2 ρ2 cs2 σ2 H3/\Same (hide H1 (f.withs Ds)) (hide H3 (f.withs Ds))/\Jv (i+1) ρ2 cs2,fun σ2 H3 ⟨ρ2,cs2,e2,g2,p2⟩=>⟨m - 1,by omega,ρ2,cs2,e2,g2,p2,by omega⟩,fun v H3 hx=>?_⟩
  obtain⟨g3,r3⟩:=hy v H3 hx
  have x3:=x'.go g3 (x'.env.mono g3)
  refine js i _ ρ' cs' (ah2 hi) p σ' H3 v _ x3.env r3 fun ρ2 σ2 H4 g4 e4 p4=>?_
  have x4:=x3.go g4 e4
  have sm4:=(sm'.trans g3.sm).trans g4.sm
  exact p4 se σ2 H4 H4 _ x4.self (fun ρ5 cs5 σ5 H5 x5 p5=>⟨ρ5,cs5,x4.trans x5,sm4.trans x5.sm,p5⟩) (fun d v ρ5 cs5 σ5 H5 x5 r5 p5=>r d v ρ5 cs5 σ5 H5 (x4.trans x5) r5 p5) (fun ρ5 cs5 σ5 H5 x5 p5=>n ρ5 cs5 σ5 H5 (x4.trans x5) p5) (fun ρ5 cs5 σ5 H5 x5 p5=>⟨ρ5,cs5,x4.trans x5,sm4.trans x5.sm,p5⟩)
 ·have ei:i=ds.length:=by omega
  subst ei
  exact .inl ⟨it.st (f.withs Ds) H' x'.env.fd sm',n ρ' cs' σ' H' x' (jd ρ' cs' p)⟩
theorem afh {σ:St} {H H2:Hp} {D:Addr} (hi:ρ[i]?=some (some (.own (f.M.length+j)))) (x:CM w K f Ds H2 ρ cs σ H) (hD:Ds[j]?=some D):σ[i]?=some (some (.ref D)):=by
 obtain⟨v,h1,p,h2,rfl⟩:=x.env.get i _ hi
 have e:(f.withs Ds).M.reverse[f.M.length+j]?=some D:=by
  show (Ds.reverse++f.M).reverse[f.M.length+j]?=some D
  rw [aj2,akQ,aiq (by simp)]
  simpa using hD
 rw [e] at h2
 cases h2
 exact h1
theorem acr {es:List PyData} (hi:ρ[i]?=some (some (.own (f.M.length+j)))) (hc:cs[j]?=some (.lst es)) (hl:es.length<1000) (h:PEm w K f Ds te ρ cs fun d=>O.nx ρ (cs.set j (.lst (es++[d])))):PSm w K f Ds (adw (tBM K "list" acf (je i) (z9 te jh))) ρ cs O:=fun se σ H H2 E x n r b k=>by
 have hj:j<Ds.length:=by rw [<-x.len];exact (ah1.mp hc).1
 have hD:Ds[j]?=some Ds[j]:=ah2 hj
 obtain⟨vs0,h0,_⟩:=x.own j _ _ hD hc
 refine⟨_,afh hi x hD,Or.inl ⟨rfl,vs0,.of h0⟩,?_⟩
 refine h se σ H H2 _ x fun d v H1 g1 r1 p1=>?_
 have x1:=x.go g1 (x.env.mono g1)
 obtain⟨vs,h1,h2⟩:=x1.own j _ _ hD hc
 refine⟨_,vs,v,rfl,rfl,h1,yC (by rw [h2.length];omega),n _ _ _ _ (x1.put se hD (o:=.lst (vs++[v])) (c':=.lst (es++[d])) ⟨vs++[v],zr,h2.snoc r1⟩) p1⟩
theorem CM.more {σ:St} {H H1 H2:Hp} {D:Addr} {c:OC} (x:CM w K f Ds H2 ρ cs σ H) (g:Goes (f.withs Ds) H H1) (hn:H D=none) (ho:OwnAt w K (hide H1 ((f.withs Ds).with D)) H1 D c) (hi:i<ρ.length) :
  CM w K f (Ds++[D]) H1 (ρ.set i (some (.own (f.M.length+Ds.length)))) (cs++[c]) (σ.set i (some (.ref D))) H1:=by
 have nD:¬ ((f.withs Ds).f=some D \/ D∈(f.withs Ds).M):=fresh_ne x.env.fd hn
 have sm0:Same (hide H (f.withs Ds)) (hide H1 (f.withs (Ds++[D]))):=fun b o hb=>by
  have hb1:=g.sm b o hb
  rw [z7]
  refine zw (fun z=>?_) (zH hb1).2
  rcases z with z | z
  ·exact (zH hb1).1 (.inl z)
  ·rcases ah7.mp z with rfl | z
   ·have:=(zH hb).2
    rw [hn] at this
    cases this
   ·exact (zH hb1).1 (.inr z)
 have hD1:∃ o,H1 D=some o:=by
  cases c with
  | lst es=>exact⟨_,ho.choose_spec.1⟩
  | set ks=>exact⟨_,ho.choose_spec.1⟩
  | dic kvs=>exact⟨_,ho.choose_spec.1⟩
 have fo1:FOk (f.withs (Ds++[D])) H1:=by
  rw [z7]
  refine⟨g.ok.fd,fun b hb=>?_,fun q eq hq=>?_⟩
  ·rcases ah7.mp hb with rfl | hb
   ·exact hD1
   ·exact g.ok.mm b hb
  ·rcases ah7.mp hq with rfl | hq
   ·exact nD (.inl eq)
   ·exact g.ok.nm q eq hq
 have rev:(f.withs (Ds++[D])).M.reverse=(f.withs Ds).M.reverse++[D]:=by
  rw [z7]
  show (D :: (f.withs Ds).M).reverse=_
  rw [akl]
 have lenr:(f.withs Ds).M.reverse.length=f.M.length+Ds.length:=by
  show (Ds.reverse++f.M).reverse.length=_
  simp
 have e1:EnvOk K (f.withs (Ds++[D])) ρ σ H1:=⟨x.env.len,fun q y hy=>by
  obtain⟨v,a1,a2⟩:=x.env.get q y hy
  refine⟨v,a1,?_⟩
  cases y with
  | dat d=>exact Rep.mono sm0 d v a2
  | feed=>exact a2
  | exc C =>
   obtain⟨b,h3,h4⟩:=a2
   exact⟨b,h3,sm0 _ _ h4⟩
  | mon φ=>exact fun H' s=>a2 H' (sm0.trans s)
  | own k =>
   obtain⟨b,h3,h4⟩:=a2
   refine⟨b,?_,h4⟩
   rw [rev,aif (ah1.mp h3).1]
   exact h3,fo1⟩
 have rv:RepV K (f.withs (Ds++[D])) H1 (.own (f.M.length+Ds.length)) (.ref D):=⟨D,by
  rw [rev,aiq (by omega),lenr,akx]
  rfl,rfl⟩
 refine⟨e1.set i rv,Same.refl _,fun _ _=>rfl,by simp [x.len],fun q D' c' h1 h2=>?_⟩
 by_cases hq:q<Ds.length
 ·rw [aif hq] at h1
  rw [aif (by rw [x.len];exact hq)] at h2
  exact (x.own q D' c' h1 h2).mono (g.kp D' (yS (aiw h1))) sm0
 ·by_cases hq2:q=Ds.length
  ·subst hq2
   rw [aiq (aie _),akx] at h1
   rw [aiq (by rw [x.len];exact aie _),x.len,akx] at h2
   cases h1
   cases h2
   rw [z7]
   exact ho
  ·rw [ajr (by simp;omega)] at h1
   cases h1
theorem Sep.more {H:Hp} {D:Addr} (se:Sep f Ds) (fo:FOk (f.withs Ds) H) (hn:H D=none):Sep f (Ds++[D]):=by
 have nD:=fresh_ne fo hn
 refine⟨List.nodup_append.mpr ⟨se.nd,by simp,fun a ha b hb=>?_⟩,fun D' h=>?_,fun D' h=>?_⟩
 ·rw [ah5.mp hb]
  intro z
  exact nD (.inr (yS (z▸ha)))
 ·rcases ail.mp h with h | h
  ·exact se.nf D' h
  ·rw [ah5.mp h];exact fun z=>nD (.inl z)
 ·rcases ail.mp h with h | h
  ·exact se.nm D' h
  ·rw [ah5.mp h];exact fun z=>nD (.inr (aia _ z))
theorem CM.less {σ σ':St} {H H1 H2 H':Hp} {D:Addr} {ρ':zl} {cs':List OC} (x:CM w K f Ds H2 ρ cs σ H) (g:Goes (f.withs Ds) H H1) (hn:H D=none) (y:CM w K f (Ds++[D]) H1 ρ' cs' σ' H') :
  CM w K f Ds H2 (ρ'.map (yH (f.M.length+Ds.length))) (cs'.take Ds.length) σ' H':=by
 have sub:Same (hide H' (f.withs (Ds++[D]))) (hide H' (f.withs Ds)):=by rw [z7];exact j6
 have sm1:Same (hide H (f.withs Ds)) (hide H1 (f.withs (Ds++[D]))):=fun b o hb=>by
  have hb1:=g.sm b o hb
  rw [z7]
  refine zw (fun z=>?_) (zH hb1).2
  rcases z with z | z
  ·exact (zH hb1).1 (.inl z)
  ·rcases ah7.mp z with rfl | z
   ·have:=(zH hb).2
    rw [hn] at this
    cases this
   ·exact (zH hb1).1 (.inr z)
 have lenr:(f.withs Ds).M.reverse.length=f.M.length+Ds.length:=by
  show (Ds.reverse++f.M).reverse.length=_
  simp
 have rev:(f.withs (Ds++[D])).M.reverse=(f.withs Ds).M.reverse++[D]:=by
  rw [z7]
  show (D :: (f.withs Ds).M).reverse=_
  rw [akl]
 have fo:FOk (f.withs Ds) H':=by
  have h:=y.env.fd
  rw [z7] at h
  exact⟨h.fd,fun b hb=>h.mm b (ah3 _ hb),fun p e hp=>h.nm p e (ah3 _ hp)⟩
 refine⟨⟨by rw [ahZ];exact y.env.len,fun q z hz=>?_,fo⟩,(x.sm.trans sm1).trans (y.sm.trans sub),fun b hb=>(y.kp b hb).trans ((g.kp b (aia _ hb)).trans (x.kp b hb)),?_,fun q D' c' h1 h2=>?_⟩
 ·rw [ah9] at hz
  cases e:ρ'[q]? with
  | none=>rw [e] at hz;cases hz
  | some z0 =>
   rw [e] at hz
   cases z0 with
   | none=>cases hz
   | some z0 =>
    obtain⟨v,a1,a2⟩:=y.env.get q z0 e
    cases z0 with
    | dat d =>
     cases hz
     exact⟨v,a1,Rep.mono sub d v a2⟩
    | feed =>
     cases hz
     rw [z7] at a2
     exact⟨v,a1,a2⟩
    | exc C =>
     cases hz
     obtain⟨b,h3,h4⟩:=a2
     exact⟨v,a1,b,h3,sub _ _ h4⟩
    | mon φ =>
     cases hz
     exact⟨v,a1,fun H' s=>a2 H' (sub.trans s)⟩
    | own k =>
     have hz':(if k<f.M.length+Ds.length then some (DV.own k) else none)=some z:=Option.some.inj hz
     by_cases hk:k<f.M.length+Ds.length
     ·rw [if_pos hk] at hz'
      cases hz'
      obtain⟨b,h3,h4⟩:=a2
      refine⟨v,a1,b,?_,h4⟩
      rw [rev,aif (by omega)] at h3
      exact h3
     ·rw [if_neg hk] at hz'
      cases hz'
 ·rw [aiz,y.len]
  simp
 ·have hq:q<Ds.length:=(ah1.mp h1).1
  rw [akp hq] at h2
  exact (y.own q D' c' (by rw [aif hq];exact h1) h2).mono rfl sub
theorem aee (h:agI w K (f.withs Ds) te ρ fun c=>i<ρ.length/\∀ D,PSm w K f (Ds++[D]) ts (ρ.set i (some (.own (f.M.length+Ds.length)))) (cs++[c]) { nx:=fun ρ' cs'=>O.nx (ρ'.map (yH (f.M.length+Ds.length))) (cs'.take Ds.length),rt:=O.rt,bk:=fun ρ' cs'=>O.bk (ρ'.map (yH (f.M.length+Ds.length))) (cs'.take Ds.length),ct:=fun ρ' cs'=>O.ct (ρ'.map (yH (f.M.length+Ds.length))) (cs'.take Ds.length) }) :
  PSm w K f Ds (vo (qI te (qa i)) ts) ρ cs O:=fun se σ H H2 E x n r b k =>
 h σ H _ x.env fun c D H1 g1 hn ho ⟨hi,p⟩ =>
  p D (se.more x.env.fd hn) _ H1 H1 E (x.more g1 hn ho hi) (fun ρ' cs' σ' H' y q=>n _ _ σ' H' (x.less g1 hn y) q) (fun d v ρ' cs' σ' H' y r' q=>r d v _ _ σ' H' (x.less g1 hn y) r' q) (fun ρ' cs' σ' H' y q=>b _ _ σ' H' (x.less g1 hn y) q) (fun ρ' cs' σ' H' y q=>k _ _ σ' H' (x.less g1 hn y) q)
theorem vg {P:OC->Prop} (h:PEdO K f te ρ fun es=>P (.lst es)):agI w K f te ρ P:=fun σ H Q e q=>h σ H Q e fun es D vs H' g hn h1 rs p=>q (.lst es) D H' g hn ⟨vs,h1,rs⟩ p
noncomputable def freed (n:Nat) (cs:List OC):Option DV->Option DV
 | some (.own k)=>if k<n then some (.own k) else match cs[k - n]? with
  | some (.lst es)=>some (.dat (.list es))
  | _=>none
 | x=>x
theorem CM.free {σ:St} {H H2:Hp} (se:Sep f Ds) (x:CM w K f Ds H2 ρ cs σ H):EnvOk K f (ρ.map (freed f.M.length cs)) σ H:=by
 have fo:FOk f H:=⟨x.env.fd.fd,fun b hb=>x.env.fd.mm b (aia _ hb),fun p e hp=>x.env.fd.nm p e (aia _ hp)⟩
 refine⟨by rw [ahZ];exact x.env.len,fun q z hz=>?_,fo⟩
 rw [ah9] at hz
 cases e:ρ[q]? with
 | none=>rw [e] at hz;cases hz
 | some z0 =>
  rw [e] at hz
  cases z0 with
  | none=>cases hz
  | some z0 =>
   obtain⟨v,a1,a2⟩:=x.env.get q z0 e
   cases z0 with
   | dat d =>
    cases hz
    exact⟨v,a1,Rep.mono same_withs d v a2⟩
   | feed =>
    cases hz
    exact⟨v,a1,a2⟩
   | exc C =>
    cases hz
    obtain⟨b,h3,h4⟩:=a2
    exact⟨v,a1,b,h3,same_withs _ _ h4⟩
   | mon φ =>
    cases hz
    exact⟨v,a1,fun H' s=>a2 H' (same_withs.trans s)⟩
   | own k =>
    obtain⟨b,h3,h4⟩:=a2
    have h3':(Ds.reverse++f.M).reverse[k]?=some b:=h3
    rw [aj2,akQ] at h3'
    have hz':(if k<f.M.length then some (DV.own k) else match cs[k - f.M.length]? with | some (.lst es)=>some (.dat (.list es)) | _=>none)=some z:=Option.some.inj hz
    by_cases hk:k<f.M.length
    ·rw [if_pos hk] at hz'
     cases hz'
     rw [aif (by simpa using hk)] at h3'
     exact⟨v,a1,b,h3',h4⟩
    ·rw [if_neg hk] at hz'
     rw [aiq (by simpa using akw.mp hk),List.length_reverse] at h3'
     cases ec:cs[k - f.M.length]? with
     | none=>rw [ec] at hz';cases hz'
     | some c =>
      rw [ec] at hz'
      cases c with
      | lst es =>
       cases hz'
       obtain⟨vs,h5,h6⟩:=x.own _ _ _ h3' ec
       have hb:=aiw h3'
       exact⟨v,a1,rep_list.mpr ⟨b,vs,h4,.of (zw (fun z=>z.elim (se.nf b hb) (se.nm b hb)) h5),Reps.mono same_withs es vs h6⟩⟩
      | set ks=>cases hz'
      | dic kvs=>cases hz'
theorem CM.goF {σ:St} {H H2 H':Hp} (se:Sep f Ds) (x:CM w K f Ds H2 ρ cs σ H) (g:Goes f H H'):CM w K f Ds H2 ρ cs σ H':=by
 have keep:∀ b∈Ds,H' b=H b:=fun b hb=>by
  obtain⟨o,ho⟩:=x.env.fd.mm b (yS hb)
  rw [ho]
  exact (zH (g.sm b o (zw (fun z=>z.elim (se.nf b hb) (se.nm b hb)) ho))).2
 have g2:Goes (f.withs Ds) H H':=⟨fun b o hb=>by
   have hb':=zH hb
   have:=zH (g.sm b o (same_withs b o hb))
   exact zw hb'.1 this.2,⟨g.ok.fd,fun b hb=>by
   rcases ail.mp hb with hb | hb
   ·obtain⟨o,ho⟩:=x.env.fd.mm b (ai8 _ hb)
    exact⟨o,by rw [keep b (ajF.mp hb)];exact ho⟩
   ·exact g.ok.mm b hb,x.env.fd.nm⟩,fun b hb=>by
   rcases ail.mp hb with hb | hb
   ·exact keep b (ajF.mp hb)
   ·exact g.kp b hb⟩
 exact x.go g2 (x.env.mono g2)
theorem aef (h:PSd K f ts (ρ.map (freed f.M.length cs)) { nx:=fun _=>False,rt:=O.rt }):PSm w K f Ds ts ρ cs O:=fun se σ H H2 E x n r b k =>
 h σ H E (x.free se) (fun _ _ _ _ _ z=>z.elim) (fun d v H' g' r' p=>r d v ρ cs σ H' (x.goF se g') r' p) (fun _ _ _ _ _ z=>z.elim) (fun _ _ _ _ _ z=>z.elim)
end
end L2
end
section
namespace L2
open PySem PySem.Spec PyProof.Rows
end L2
end
section
namespace L2
open PySem PySem.Spec PyProof.Rows
structure MinAt (h0:Heap) (its:List Value) (ds:List PyData) (as:List Addr):Prop where
 ra:ReadsAll h0 its ds as
 pl:∀ d∈ds,vK d=true
 cp:∀ d∈ds,∀ e∈ds,agH d e=true
 dp:∀ d∈ds,d.depth<=50
section
variable {w:World} {K:ahX} {f:Fx} {Ds:List Addr} {ρ:zl} {cs:List OC} {O:MEnds} {tt:TT} {te:TE} {i j n:Nat}
theorem ac2 {H H' H2:Hp} {σ:St} (se:Sep f Ds) (x:CM w K f Ds H2 ρ cs σ H) (g:Goes f H H'):Goes (f.withs Ds) H H':=by
 have kp:∀ D∈Ds,H' D=H D:=fun D hD=>by
  obtain⟨o,ho⟩:=x.env.fd.mm D (yS hD)
  have h1:hide H f D=some o:=zw (fun z=>z.elim (se.nf D hD) (se.nm D hD)) ho
  rw [ho,(zH (g.sm D o h1)).2]
 refine⟨fun b o hb=>?_,⟨fun p e=>?_,fun b hb=>?_,x.env.fd.nm⟩,fun b hb=>?_⟩
 ·obtain⟨n1,n2⟩:=zH hb
  have h1:hide H f b=some o:=zw (fun z=>n1 (z.elim .inl fun z=>.inr (aia _ z))) n2
  exact zw n1 (zH (g.sm b o h1)).2
 ·exact g.2.fd p e
 ·rcases ail.mp hb with h | h
  ·rw [kp b (ajF.mp h)]
   exact x.env.fd.mm b hb
  ·exact g.2.mm b h
 ·rcases ail.mp hb with h | h
  ·exact kp b (ajF.mp h)
  ·exact g.kp b h
end
end L2
end
section
namespace L2
open PySem PySem.Spec PyProof.Rows
structure TM (K:ahX) (f:Fx) (a:Addr) (as:List Addr) (H2:Hp) (ρ:zl) (rows:List (List Int)) (σ:St) (H:Hp):Prop where
 env:EnvOk K (f.withs (a :: as)) ρ σ H
 sm:Same (hide H2 (f.withs (a :: as))) (hide H (f.withs (a :: as)))
 kp:∀ b∈f.M,H b=H2 b
 tab:TabAt H a as rows
end L2
end
section
namespace L2
open PySem PySem.Spec PyProof.Rows
section
variable {K:ahX} {f:Fx} {ρ:zl} {ts tu:TS} {O:DEnds} {te:TE} {i:Nat}
theorem yp (J:zl->Prop) (h1:PSd K f ts ρ { O with nx:=J }) (h2:∀ ρ',J ρ'->PSd K f tu ρ' O):PSd K f (vo ts tu) ρ O :=
 zX fun σ H E e n r b k=>h1 σ H E e (fun ρ' σ' H' g' e' p=>n ρ' σ' H' g' e' (h2 ρ' p)) r b k
theorem afZ {w:World} {Ds:List Addr} {cs:List OC} {O:MEnds} (J:zl->List OC->Prop) (h1:PSm w K f Ds ts ρ cs { O with nx:=J }) (h2:∀ ρ' cs',J ρ' cs'->PSm w K f Ds tu ρ' cs' O):PSm w K f Ds (vo ts tu) ρ cs O :=
 aal fun se σ H H2 E x n r b k=>h1 se σ H H2 E x (fun ρ' cs' σ' H' x' p=>n ρ' cs' σ' H' x' (h2 ρ' cs' p)) r b k
end
section
variable {K:ahX} {f:Fx} {ρ:zl} {wi:TI} {g:TG} {tt:TT} {own:Nat} {fr:List Nat} {tb:Addr->TB} {P:List PyData->Prop}
theorem agJ {α:Type} {A B:α->PyData} (p:α->Bool) (xs:List α) (h:PId K f wi ρ fun ds=>ds=xs.map A/\xs.length<=1000 /\
   (∀ D x ρ' es,x∈xs->OwnE own (frD fr ρ) ρ'->es.length<1000->PGd K (f.with D) g (A x) ρ' fun ρ2=>PTd K (f.with D) tt ρ2 fun b=>b=p x/\if b=true then PBd K f D (tb D) ρ2 es fun ρ3 es3=>OwnE own (frD fr ρ) ρ3/\es3=es++[B x] else OwnE own (frD fr ρ) ρ2)/\P ((xs.filter p).map B)) :
  PEdO K f (vz wi own fr g tt tb) ρ P :=
 ad2 (h.imp fun ds ⟨ed,hl,hs,hp⟩=>by
  subst ed
  refine⟨fun i ρ' es=>OwnE own (frD fr ρ) ρ'/\es=((xs.take i).filter p).map B,⟨⟨aiS own none,by simp,rfl⟩,by simp⟩,fun D i d ρ' es hd ⟨ho,he⟩=>?_,fun ρ' es ⟨_,he⟩=>?_⟩
  ·rw [ah9] at hd
   cases eq:xs[i]? with
   | none=>rw [eq] at hd;cases hd
   | some x =>
    rw [eq] at hd
    cases hd
    have hi:i<xs.length:=(ah1.mp eq).1
    have tk:xs.take (i+1)=xs.take i++[x]:=by rw [ajv,eq];rfl
    have hb:es.length<1000:=by
     have:=List.length_filter_le p (xs.take i)
     rw [aiz] at this
     rw [he,ahZ]
     omega
    intro σ H v Q e r q
    refine hs D x ρ' es (aiw eq) ho hb σ H v Q e r fun ρ2 σ2 H2 g2 e2 p2=>q ρ2 σ2 H2 g2 e2 (p2.imp fun b hb2=>?_)
    obtain⟨eb,hb2⟩:=hb2
    cases b with
    | false =>
     rw [if_neg ahW] at hb2 ⊢
     refine⟨hb2,?_⟩
     rw [tk,List.filter_append,aim,List.filter_cons,<- eb,if_neg ahW,he]
     simp
    | true =>
     rw [if_pos rfl] at hb2 ⊢
     intro h1 h2 σ3 H3 H4 W c k
     exact hb2 h1 h2 σ3 H3 H4 W c fun ρ5 es5 σ5 H5 c5 ⟨o5,p5⟩=>k ρ5 es5 σ5 H5 c5 ⟨o5,by rw [p5,he,tk,List.filter_append,aim,List.filter_cons,<- eb,if_pos rfl];rfl⟩
  ·rw [he,ahZ,ajE]
   exact hp)
end
end L2
end
section
namespace L2
open PySem PySem.Spec PyProof.Rows
noncomputable def PEv (K:ahX) (f:Fx) (te:TE) (ρ:zl) (P:DV->Prop):Prop:=∀ (σ:St) (H:Hp) (Q:VK),EnvOk K f ρ σ H->(∀ x v H',Goes f H H'->RepV K f H' x v->P x->Q v H')->te σ H Q
section
variable {w:World} {K:ahX} {f:Fx} {ρ:zl} {Ds:List Addr} {cs:List OC} {te ta tk:TE} {ts tu:TS} {t:TA} {O:DEnds} {i j:Nat} {R:OC->Prop}
theorem v_var {P:DV->Prop} {x:DV} (h:ρ[i]?=some (some x)) (p:P x):PEv K f (je i) ρ P:=fun σ H Q e q=>by
 obtain⟨v,h1,h2⟩:=e.get i x h
 exact⟨v,h1,q x v H (.refl e.fd) h2 p⟩
theorem af0 {R:List DV->Prop} {u:TA} (h:PEv K f te ρ fun x=>PAd K f u ρ fun xs=>R (x :: xs)):PAd K f (z9 te u) ρ R:=fun σ H Q e q =>
 h σ H _ e fun x v H1 g1 r1 p=>p σ H1 _ (e.mono g1) fun xs vs H2 g2 r2 p2=>q (x :: xs) (v :: vs) H2 (g1.trans g2) (.cons (RepV.mono g2 r1) r2) p2
end
end L2
end
section
namespace L2
open PySem PySem.Spec PyProof.Rows
end L2
end
section
namespace L2
open PySem PySem.Spec PyProof.Rows
open PySem.SeqAt
open PySem.AutoSeq1 (wpAny_loadPart')
noncomputable def ahV (A:Around) (s:Shared) (y x:Value) (b:Bool):Prop :=
 ∀ (prog:Program) (w:World) (E:Value->Shared->Prop) (Q:Value->Shared->Prop),Q (.bool b) s->wpAny (model prog w) A (richCompare .GtE y x) Q E s
inductive Gex (A:Around) (s:Shared):List Value->List Value->Bool->Prop where
 | nn:Gex A s [] [] true
 | eq {v w vs ws b}:EqAt A s v w true->Gex A s vs ws b->Gex A s (v :: vs) (w :: ws) b
 | ge {v w vs ws b}:EqAt A s v w false->ahV A s v w b->vs.length=ws.length->Gex A s (v :: vs) (w :: ws) b
noncomputable def qL (o:Obj):Option Value:=match o.data with
 | .fields vs=>vs[2]?
 | _=>none
noncomputable def KD (h h':Heap):Prop:=∀ b o,h.get? b=some o->∃ u,h'.get? b=some u/\u.dict=o.dict/\qL u=qL o
theorem KD.refl (h:Heap):KD h h:=fun _ o e=>⟨o,e,rfl,rfl⟩
theorem KD.trans {h i j:Heap} (a:KD h i) (b:KD i j):KD h j:=fun c o e =>
 let⟨u,e1,d1,f1⟩:=a c o e
 let⟨v,e2,d2,f2⟩:=b c u e1
 ⟨v,e2,d2.trans d1,f2.trans f1⟩
theorem KD.push (h:Heap) (o:Obj):KD h (h.push o):=fun _ u e=>⟨u,ah0 _ e,rfl,rfl⟩
theorem KD.update (h:Heap) (a:Addr) (f:Obj->Obj) (k:∀ o,(f o).dict=o.dict/\(f o).isFreed=o.isFreed/\qL (f o)=qL o):KD h (h.update a f):=fun b o e=>by
 by_cases q:a=b
 ·subst q
  exact⟨f o,ai3 f e (by rw [(k o).2.1];exact (Heap.get?_some_iff.mp e).2),(k o).1,(k o).2.2⟩
 ·exact⟨o,(aiu h f q).trans e,rfl,rfl⟩
noncomputable def z6 {α:Type} (t:Sem α):Prop:=∀ (M:Model) (Γ:PySem.Ctx) (Q:α->Pos->Shared->Prop) (E:Value->Pos->Shared->Prop) (p:Pos) (s:Shared),
 Sem.wp M Γ t Q E p s->Sem.wp M Γ t (fun a p' s'=>Q a p' s'/\KD s.heap s'.heap) E p s
section
variable {α β:Type}
theorem aaI (a:α):z6 (pure a:Sem α):=fun _ _ _ _ _ s h=>⟨h,.refl _⟩
theorem agK (x:String):z6 (unsupported x:Sem α):=fun _ _ _ _ _ _ h=>h
theorem acs {m:Sem α} {f:α->Sem β} (a:z6 m) (b:∀ x,z6 (f x)):z6 (m >>= f):=fun M Γ Q E p s h=>by
 rw [Sem.wp_bind'] at h ⊢
 refine ak7 M Γ m (fun x p' s' z=>?_) (fun _ _ _ z=>z) p s (a M Γ _ E p s h)
 exact ak7 M Γ (f x) (fun _ _ _ y=>⟨y.1,z.2.trans y.2⟩) (fun _ _ _ y=>y) p' s' (b x M Γ Q E p' s' z.1)
theorem agL {c:Prop} [Decidable c] {t u:Sem α} (a:z6 t) (b:z6 u):z6 (if c then t else u):=by split <;> assumption
theorem afi (a:Addr):z6 (load a):=fun _ _ _ _ _ _ h=>let⟨o,e,q⟩:=h;⟨o,e,q,.refl _⟩
theorem aeg:z6 stack:=fun _ _ _ _ _ _ h=>⟨h,.refl _⟩
theorem aeh (o:Obj):z6 (alloc o):=fun _ _ _ _ _ _ h=>⟨h,.push _ _⟩
theorem ac3 (a:Addr) (f:Obj->Obj) (k:∀ o,(f o).dict=o.dict/\(f o).isFreed=o.isFreed/\qL (f o)=qL o):z6 (update a f):=fun _ _ _ _ _ _ h=>⟨h.1,h.2,.update _ _ _ k⟩
end
local macro_rules | `(tactic| walk_at "kd")=>`(tactic| with_reducible first
  | assumption
  | exact aaI _
  | exact agK _
  | exact afi _
  | exact kd_loadPart _ _
  | exact aeg
  | exact aeh _
  | exact kd_reg _
  | apply agL
  | apply acs
  | intro _
  | split)
theorem vL (v:Value) (i:Nat):z6 (field v i):=fun _ Γ Q E p s h=>by
 obtain⟨a,o,vs,x,h1,h2,h3,h4,h5⟩:=(wp_field_iff Γ v i Q E p s).mp h
 exact (wp_field_iff Γ v i _ E p s).mpr ⟨a,o,vs,x,h1,h2,h3,h4,h5,.refl _⟩
theorem qW (v:Value) (i:Nat) (x:Value) (hi:i≠2):z6 (setField v i x):=fun _ Γ Q E p s h=>by
 obtain⟨a,o,vs,h1,h2,h3,h4,h5⟩:=(wp_setField_iff Γ v i x Q E p s).mp h
 refine (wp_setField_iff Γ v i x _ E p s).mpr ⟨a,o,vs,h1,h2,h3,h4,h5,.update _ _ _ fun u=>?_⟩
 obtain⟨c,d,dt,sl⟩:=u
 cases dt <;> first | exact⟨rfl,rfl,rfl⟩ | exact⟨rfl,rfl,Array.getElem?_setIfInBounds_ne hi⟩
theorem ac4 (env:Env) (l:List Env):z6 (behindIsImport env l):=by
 unfold behindIsImport
 have:=vL env.code 12
 repeat' walk_at "kd"
theorem ac5:z6 underTheClaimsCaller:=by
 unfold underTheClaimsCaller
 repeat' walk_at "kd"
theorem afj (env:Env) (i:Bool) (l:List Env):z6 (keptBack env i l):=by
 have:=ac5
 cases l <;> unfold keptBack <;> repeat' walk_at "kd"
theorem abb:∀ l:List Env,z6 (readyFrames l)
 | []=>aaI _
 | env :: l=>by
  have ih:=abb l
  have h1:=ac4 env l
  have h2:=fun i=>afj env i l
  unfold readyFrames
  repeat' (first | walk_at "kd" | exact h2 _ | (refine ac3 _ _ fun⟨c,d,dt,sl⟩=>?_;cases dt <;> exact⟨rfl,rfl,rfl⟩))
theorem aei (env:Env):z6 (PySem.frameOf env):=by
 unfold PySem.frameOf frameEnvs
 have h2:∀ l,z6 (frameObject l):=fun l=>by
  cases l with
  | nil=>exact aaI _
  | cons a l =>
   have:=abb (a :: l)
   unfold frameObject
   repeat' walk_at "kd"
 repeat' (first | walk_at "kd" | exact h2 _)
theorem qM (e:Value) (f:Option Addr):z6 (setFlight e f):=by
 unfold setFlight
 repeat' (first | walk_at "kd" | exact vL _ _ | exact qW _ _ _ (by decide))
theorem aej (f:Addr) (b:Bool):z6 (entryPlaceOf f b):=by
 unfold entryPlaceOf
 repeat' walk_at "kd"
theorem aek (a b c d e:Value) (l:List Value):z6 (akX a b c d e l):=by
 unfold akX newFields newObj newObjAsIs classHasDel
 repeat' walk_at "kd"
theorem acu (e:Value) (env:Env):z6 (noteFrame e env):=by
 unfold noteFrame
 repeat' (first | walk_at "kd" | exact vL _ _ | exact qW _ _ _ (by decide) | exact aei _ | exact aej _ _ | exact aek _ _ _ _ _ _)
theorem abc (env:Env) (e:Value):z6 (leaving env e):=by
 unfold leaving
 exact acs (acu _ _) fun _=>qM _ _
theorem abd {α:Type} {t:Sem α} {M:Model} {A:Around} {Q Q':α->Shared->Prop} {E:Value->Shared->Prop} {s:Shared} (k:z6 t) (h:wpAny M A t Q E s) (q:∀ a s',Q a s'->KD s.heap s'.heap->Q' a s'):wpAny M A t Q' E s:=fun Γ p hΓ =>
 ak7 M Γ t (fun a _ s' z=>q a s' z.1 z.2) (fun _ _ _ z=>z) p s (k M Γ _ _ p s (h Γ p hΓ))
noncomputable def Dct (a:Addr) (o:Option Addr) (h:Heap):Prop:=∃ u,h.get? a=some u/\qL u=some .none/\∀ dx,o=some dx->u.dict=some dx
theorem Dct.kd {a:Addr} {o:Option Addr} {h h':Heap} (x:Dct a o h) (k:KD h h'):Dct a o h' :=
 let⟨u,q,f,d⟩:=x
 let⟨v,q2,d2,f2⟩:=k a u q
 ⟨v,q2,f2.trans f,fun dx e=>d2.trans (d dx e)⟩
noncomputable def CXf (P:Program) (w:World):CXT:=fun outer H s E e s'=>∃ a C o H',e=.ref a/\XLie P w outer H s a C H' s'/\Dct a o s'.heap/\E C o H'
noncomputable def ya (a:Addr) (C:Value) (o:Option Addr) (h:Heap):Prop:=∃ t,h.get? a=some { cls:=C,dict:=o,data:=.fields #[.ref t,.none,.none,.none,.bool false,.none] }
noncomputable def drp (H:Hp) (a:Addr):Hp:=fun b=>if b=a then none else H b
theorem vM {H:Hp} {a:Addr}:drp H a a=none:=by unfold drp;rw [if_pos rfl]
theorem jy {H:Hp} {a b:Addr} (h:b≠a):drp H a b=H b:=by unfold drp;rw [if_neg h]
theorem ael {H:Hp} {a b:Addr} {o:HO} (h:drp H a b=some o):b≠a/\H b=some o:=by
 by_cases e:b=a
 ·rw [e,vM] at h;cases h
 ·rw [jy e] at h;exact⟨e,h⟩
section
variable {X:Cx} {pins:List (Addr×Obj)} {σ:St} {H H':Hp} {s s':Shared} {a dx:Addr} {C:Value} {o:Option Addr}
theorem ac6 {E:Value->Shared->Prop} (I:Inv X pins σ H s) (hst:X.stack=X.env :: X.outer) (hf:X.env.frame=some X.env.locals) (hex:X.ex=[]) (x:XLie X.prog X.w X.stack H s a C H' s') (d:Dct a o s'.heap) :
  wpAny (model X.prog X.w) X.A (leaving X.env (.ref a)) (fun _ s''=>XLie X.prog X.w X.outer X.H₀ X.s₀ a C H' s''/\Dct a o s''.heap) E s' :=
 abd (abc _ _) (ad3 I hst hf hex x) fun _ s'' y k=>⟨y,d.kd k⟩
theorem abO {E:Value->Shared->Prop} (I:Inv X pins σ H s) (hst:X.stack=X.env :: X.outer) (hf:X.env.frame=some X.env.locals) (hex:X.ex=[]) (ha:H a=some (.ext (ya a C (some dx)))) (hnew:X.s₀.heap.get? a=none) :
  wpAny (model X.prog X.w) X.A (leaving X.env (.ref a)) (fun _ s''=>XLie X.prog X.w X.outer X.H₀ X.s₀ a C (drp H a) s''/\Dct a (some dx) s''.heap) E s:=by
 obtain⟨⟨t,hu⟩,_,_⟩:=I.hok a _ ha
 have ex0:∀ b:Addr,b∉X.ex:=fun b=>by rw [hex];simp
 have hsub:∀ env∈X.env :: X.outer,∀ b,env.frame=some b->b∈a :: frs X.stack:=fun env he b hb=>by
  rw [hst]
  exact ah3 _ (ajK.mpr ⟨env,he,hb⟩)
 have ff:=I.stack
 rw [hst] at ff
 have inF:∀ b,b∈frs X.outer->b∈frs X.stack:=fun b hb=>by
  rw [hst]
  unfold frs
  rw [aiW,hf]
  exact ah3 _ hb
 have hid:∀ {b:Addr} {v:Obj},s.heap.get? b=some v->b≠a->b∉frs X.stack->(ajH s.heap (a :: frs X.stack)).get? b=some v:=fun q n1 n2=>akT _ q fun z=>(ah7.mp z).elim n1 n2
 have hen:(ajH s.heap (a :: frs X.stack)).get? a=none:=akJ _ (aic ..)
 refine abd (abc _ _) (wpAny_leaving_firstW (base:=ajH s.heap (a :: frs X.stack)) (oe:={ cls:=C,dict:=some dx,data:=.fields #[.ref t,.none,.none,.none,.bool false,.none] }) (a0:=.ref t) (by rw [I.ok.frames,hst]) (PySem.W.funFrames_hide ff hsub) hf hu (fun b v hb=>PySem.W.of_hideAll _ hb) hen rfl rfl rfl
  (Q:=fun _ s''=>XLie X.prog X.w X.outer X.H₀ X.s₀ a C (drp H a) s'') fun h' hL=>?_) fun _ s'' y k=>⟨y,Dct.kd ⟨_,hu,rfl,fun d e=>e⟩ k⟩
 obtain⟨k1,⟨_,_,k2⟩,k3,up⟩:=hL
 have kp:∀ b v,s.heap.get? b=some v->b≠a->b∉frs X.stack->h'.get? b=some v:=fun b v q n1 n2=>k1 b v (hid q n1 n2)
 have ne:∀ {b:Addr} {v:Obj},X.s₀.heap.get? b=some v->b≠a:=fun q e=>by rw [e,hnew] at q;cases q
 have slots:∀ b v,b∈frs X.outer->s.heap.get? b=some v->∃ sl,h'.get? b=some { v with slots:=sl }:=fun b v hb q=>by
  obtain⟨_,o1,q1,hd⟩:=I.stack.mem (b:=b) (inF b hb)
  rw [q] at q1
  cases q1
  exact up b v q hd
 have trk:∀ b v,drp H a b=some v->∃ w,s.heap.get? b=some w/\b≠a/\b∉frs X.stack:=fun b v e=>by
  obtain⟨n1,e⟩:=ael e
  obtain⟨w,q⟩:=(I.hok b v e).is
  exact⟨w,q,n1,fun z=>by rw [I.stkFree b z] at e;cases e⟩
 have inB:∀ b v,X.s₀.heap.get? b=some v->b∉frs X.outer->∃ o',(ajH s.heap (a :: frs X.stack)).get? b=some o':=fun b v q hb=>by
  obtain⟨o1,q1⟩:=I.base.there b v q (ex0 b)
  exact⟨o1,hid q1 (ne q) (I.old_ne hst hf q hb)⟩
 have na:∀ {b:Addr} {v:HO},H b=some v->(∀ φ,v≠.ext φ)->b≠a:=fun {b v} q n e=>by
  rw [e,ha] at q
  cases q
  exact n _ rfl
 refine⟨I.os,I.bare,⟨fun b v q n hb _=>kp b v (I.base.keep b v q n hb (ex0 b)) (ne q) (I.old_ne hst hf q hb),fun b v q n hb _=>?_,fun b v q n _=>?_,fun b v q _=>?_,fun b xs q=>?_,fun b v w q=>?_,fun b ps q=>?_⟩,fun b v e=>?_,⟨_,_,⟨k1,hen,k2,k3⟩,inB,fun b v e=>?_⟩,hnew,vM⟩
 ·obtain⟨sl,q1⟩:=I.base.slot b v q n hb (ex0 b)
  obtain⟨sl',q2⟩:=slots b _ hb q1
  exact⟨sl',q2⟩
 ·rw [jy (ne q)];exact I.base.free b v q n (ex0 b)
 ·obtain⟨o1,q1⟩:=I.base.there b v q (ex0 b)
  by_cases hb:b∈frs X.outer
  ·obtain⟨sl',q2⟩:=slots b _ hb q1
   exact⟨_,q2⟩
  ·exact⟨_,kp b o1 q1 (ne q) (I.old_ne hst hf q hb)⟩
 ·have q1:=I.base.tups b xs q
  rw [jy (na q1 fun φ z=>by cases z)];exact q1
 ·have q1:=I.base.frzs b v w q
  rw [jy (na q1 fun φ z=>by cases z)];exact q1
 ·obtain⟨more,q1⟩:=I.base.tbls b ps q
  exact⟨more,by rw [jy (na q1 fun φ z=>by cases z)];exact q1⟩
 ·obtain⟨n1,e1⟩:=ael e
  refine (I.hok b v e1).stay (fun c w hc' q=>?_) (fun c q=>by rw [jy (na q fun φ z=>by cases z)];exact q) fun c xs q=>by rw [jy (na q fun φ z=>by cases z)];exact q
  rcases hc' with rfl | hc'
  ·obtain⟨_,_,n2,n3⟩:=trk c v e
   exact kp c w q n2 n3
  ·have e2:drp H a c=some (.own b):=by rw [jy (na hc' fun φ z=>by cases z)];exact hc'
   obtain⟨_,_,n2,n3⟩:=trk c _ e2
   exact kp c w q n2 n3
 ·obtain⟨w,q,n1,n2⟩:=trk b v e
  exact⟨w,hid q n1 n2⟩
end
theorem ahv {P:Program} {w:World} {K:ahX} {mg:Str->Option Value} {base:Heap} {N:List Str} {qual:Str} {scope:Scope} {f:Addr} {cd:Value} {A:Around} {outer:List Env} {s:Shared} {H:Hp} {E:XK} :
  Passes (CXf P w) (zO (CXf P w) P w K mg base N qual scope f cd A outer s H E) E:=fun pins σ H1 s1 e s' I h=>by
 obtain⟨a,C,o,H',rfl,x,d,hE⟩:=h
 exact wpAny_mono (ac6 (X:=zO (CXf P w) P w K mg base N qual scope f cd A outer s H E) (E:=fun _ _=>False) I rfl rfl rfl x d) (fun _ s'' y=>⟨a,C,o,H',rfl,y.1,y.2,hE⟩) fun _ _ z=>z.elim
end L2
end
section
namespace L2
open PySem PySem.Spec PyProof.Rows PySem.Builtin Builtin Builtin.ObjectAttr
noncomputable def qy (K:ahX) (C f:Addr) (bmB:List Value) (newId:String):Bool :=
 match K.lookup C with
 | some ⟨c0,_,.cls cd,sl⟩=>c0 == .type "type" && cd.mro.head? == some (.ref C) && cd.hasDel == false && cd.hasDict && PySem.W.tailIn K bmB cd.mro.tail && PySem.W.nsOkIn K cd.ns && aib K cd.ns "__init__" == some (some (.ref f))
   && sl.toList.length == 6 && sl.toList[4]? == some (some (.builtin newId))
 | _=>false
structure XCls (h:Heap) (C f:Addr) (bmB:List Value) (newId:String):Prop where
 ex:∃ nm q N bs bm sn sub ab col dd k0 k1 k2 k3 k5 mN,h.get? C=some (excClassObj nm q C N bs bm true sn sub ab col dd k0 k1 k2 k3 k5 newId)/\h.Ns N mN/\mN "__init__"=some (.ref f)/\OwnTail h bmB bm
theorem afk {K:ahX} {h:Heap} {N:Addr} {m:Str->Option Value} {n:Str} {v:Value} (X:K.In h) (G:h.Ns N m) (e:aib K N n=some (some v)):m n=some v:=by
 obtain⟨o,es,ep,ho,hd,_,hf⟩:=G
 unfold aib at e
 split at e
 ·rename_i lk
  have z:=X _ _ lk
  rw [ho] at z
  cases z
  cases hd
  have z2:=hf n
  unfold nsFind findBy at z2
  rw [<-Array.find?_toList] at z2
  cases q:List.find? (fun x=>x.key.isStr n) es.toList with
  | none=>rw [q] at e;dsimp only at e;split at e <;> cases e
  | some y =>
   rw [q] at e z2
   cases e
   exact z2.symm
 ·cases e
theorem agM {sl:Array (Option Value)} {v:Value} (h:sl.toList.length=6) (h4:sl.toList[4]?=some (some v)):∃ k0 k1 k2 k3 k5,sl=#[k0,k1,k2,k3,some v,k5]:=by
 obtain⟨l⟩:=sl
 match l,h with
 | [a,b,c,d,e,f],_ =>
  have:e=some v:=by simpa using h4
  subst this
  exact⟨a,b,c,d,f,rfl⟩
theorem qz {K:ahX} {h:Heap} {C f:Addr} {bmB:List Value} {newId:String} (Y:K.In h) (e:qy K C f bmB newId=true):XCls h C f bmB newId:=by
 unfold qy at e
 split at e
 case h_2=>cases e
 case h_1 c0 dd cd sl lk =>
  simp only [aiP,beq_iff_eq] at e
  obtain⟨⟨⟨⟨⟨⟨⟨⟨e0,e1⟩,e2⟩,e3⟩,e4⟩,e5⟩,e6⟩,e7⟩,e8⟩:=e
  obtain⟨k0,k1,k2,k3,k5,rfl⟩:=agM e7 e8
  obtain⟨nm,bs,mro,ns,qn,hd,sn,sub,ab,col,del⟩:=cd
  dsimp only at e1 e2 e3 e4 e5 e6
  cases mro with
  | nil=>cases e1
  | cons z bm =>
   cases e1
   subst e0 e2 e3
   have G:h.Ns ns (h.nsMap ns):=.of_isNs (PySem.W.isNs_of_in Y e5)
   exact⟨nm,qn,ns,bs,bm,sn,sub,ab,col,dd,k0,k1,k2,k3,k5,_,Y _ _ lk,G,afk Y G e6,PySem.W.tail_of_in Y e4⟩
section
variable {prog:Program} {w:World} {A:Around} {E:Value->Shared->Prop} {h:Heap} {g:Array GenState} {d:Drawn} {t:Nat} {os:OsState}
variable {C fI e:Addr} {bmB:List Value} {B newId initId:String}
theorem aem (F:ExcBaseFacts B newId initId bmB) {K:ahX} {rest:List Value} {Q:Value->Shared->Prop} (X:K.In h) (Y:XCls h C fI bmB newId) (hf:PySem.W.typeIn K (.ref fI)=some (.type "function")) (hrest:rest.length<=sizeLine)
  (go:∀ h' e,Heap.MadeExcOf h h' e (.ref C) rest->wpAny (model prog w) (A.under (.builtin "type.__call__" ⟨.ref C :: rest,[]⟩)) (call (.ref fI) (.ref e :: rest)) (fun r s'=>r=.none/\Q (.ref e) s') E ⟨h',g,d,t,os⟩) :
  wpAny (model prog w) A (call (.ref C) rest) Q E ⟨h,g,d,t,os⟩:=by
 obtain⟨nm,q,N,bs,bm,sn,sub,ab,col,dd,k0,k1,k2,k3,k5,mN,hC,hn,hi,T⟩:=Y.ex
 have l1:=tc_lookup
 have l2:=tc_bind (.ref C)
 have hT:(⟨h,g,d,t,os⟩:Shared).TypeIs (.ref C) "type":=⟨_,hC,rfl⟩
 refine wpAny_call (codeAny_of_tree ?_)
 show wpAny _ _ (callAny (.ref C) _) _ _ _
 repeat (any_goals (first | with_reducible refine wpAny_loadPart_at hC ?_ | wp_step | assumption))
 refine⟨rfl,?_⟩
 refine codeAny_call_builtin_at (akc _ (by decide +kernel)) entry_typeCall (wpAny_check_type_call_sub hC ?_)
 show wpAny _ _ (Builtin.«type.__call__» ⟨.ref C :: rest,[]⟩) _ _ _
 repeat (first | with_reducible refine wpAny_madeBy_exc hC ?_ | with_reducible refine wpAny_loadPart_at hC ?_ | wp_step)
 refine codeAny_call_builtin_code (akc _ F.quiet) (wpAny_check_new_subT F T hC (codeAny_exc_new_subT F T hC ?_ hrest))
 show wpAny _ _ _ _ _ _
 have up:∀ b o,h.get? b=some o->((h.push { cls:=.type "tuple",data:=.seq rest.toArray }).push { cls:=.ref C,data:=.fields #[.ref h.objs.size,.none,.none,.none,.bool false,.none] }).get? b=some o :=
  fun b o z=>ah0 _ (ah0 _ z)
 have gE:((h.push { cls:=.type "tuple",data:=.seq rest.toArray }).push { cls:=.ref C,data:=.fields #[.ref h.objs.size,.none,.none,.none,.bool false,.none] }).get? (h.objs.size+1) =
   some { cls:=.ref C,data:=.fields #[.ref h.objs.size,.none,.none,.none,.bool false,.none] }:=akn (by simp only [ajz]) rfl
 have gT:((h.push { cls:=.type "tuple",data:=.seq rest.toArray }).push { cls:=.ref C,data:=.fields #[.ref h.objs.size,.none,.none,.none,.bool false,.none] }).get? h.objs.size =
   some { cls:=.type "tuple",data:=.seq rest.toArray }:=ah0 _ (akn rfl rfl)
 have self:(Value.ref C :: bm).contains (.ref C)=true:=by simp
 have hC1:=up _ _ hC
 unfold isInstance
 repeat (first | with_reducible refine wpAny_loadPart_at gE ?_ | (dsimp only;with_reducible refine wpAny_isSubtype_exc hC1 ?_;rw [self]) | wp_step)
 show wpAny _ _ (typeLookup (.ref C) _) _ _ _
 refine wpAny_typeLookup_tail (up _ _ hC) (hn.keeps up) (T.keeps up) F.mroIs F.init.lookup ?_
 rw [hi]
 refine wpAny_holding (wpAny_bind ?_)
 refine (PySem.W.bind_fn (X.keeps up) (.ref (h.objs.size+1)) hf).at ?_
 refine (wpAny_bind (wpAny_mono (go _ (h.objs.size+1) ⟨up,ajx (akN _),h.objs.size,gE,ajx (aie _),gT⟩) (fun r s' z=>?_) fun _ _ z=>z))
 obtain⟨rfl,z⟩:=z
 wp_walk
 exact z
theorem ac7 (F:ExcBaseFacts B newId initId bmB) {rest:List Value} {t0:Addr} {ot:Obj} {R:Result->Shared->Prop} {T0:List Value} (Y:XCls h C fI bmB newId)
  (he:h.get? e=some { cls:=.ref C,data:=.fields #[.ref t0,.none,.none,.none,.bool false,.none] }) (hrest:rest.length<=sizeLine)
  (go:∀ h',(∀ b o,b≠e->h.get? b=some o->h'.get? b=some o)->(∃ t1,h'.get? e=some { cls:=.ref C,data:=.fields #[.ref t1,.none,.none,.none,.bool false,.none] })->R (.ok (.ret .none)) ⟨h',g,d,t,os⟩) :
  codeAny (model prog w) A (.call (.builtin initId) ⟨.ref e :: rest,[]⟩) R ⟨h,g,d,t,os⟩:=by
 obtain⟨nm,q,N,bs,bm,sn,sub,ab,col,dd,k0,k1,k2,k3,k5,mN,hC,hn,hi,T⟩:=Y.ex
 refine codeAny_call_builtin F.init.plain F.initEntry (wpAny_check_init_subT F T hC he rfl ?_)
 wp_walk
 refine go _ (fun b o n z=>?_) ⟨h.objs.size,?_⟩
 ·rw [aiu _ _ (aje n)]
  exact ah0 _ z
 ·rw [ai3 _ (ah0 _ he) rfl]
  rfl
end
end L2
end
section
namespace L2
open PySem PySem.Spec PySem.W PyProof.Rows PySem.Calls PySem.Builtin Builtin Builtin.ObjectAttr
theorem abe {h:Heap} {bmB bm:List Value} {self:Value} {what:Str} (T:OwnTail h bmB bm) (p:refuseLoop self what bmB=pure ()):refuseLoop self what bm=pure ():=by
 induction T with
 | base=>exact p
 | own _ _ _ _ ih=>rw [refuseLoop_ref];exact ih
noncomputable abbrev bare (C:Addr) (o:Option Addr) (t:Addr):Obj:={ cls:=.ref C,dict:=o,data:=.fields #[.ref t,.none,.none,.none,.bool false,.none] }
noncomputable abbrev bmV:List Value:=[.type "ValueError",.type "Exception",.type "BaseException",.type "object"]
section
variable {prog:Program} {w:World} {A:Around} {E:Value->Shared->Prop} {h:Heap} {g:Array GenState} {d:Drawn} {t:Nat} {os:OsState} {K:ahX}
variable {C fI e t0:Addr} {name:Str} {v:Value}
theorem aen {M:Model} {Q:Option Addr->Shared->Prop} {nm q:Str} {N:Addr} {bs bm:List Value} {sn:List Str} {sub:List Value} {ab:Bool} {col:Option Bool} {dd:Option Addr} {k0 k1 k2 k3 k5:Option Value} {newId:String}
  (he:h.get? e=some (bare C none t0)) (hC:h.get? C=some (excClassObj nm q C N bs bm true sn sub ab col dd k0 k1 k2 k3 k5 newId))
  (go:∀ h' dx,h.objs.size<=dx->h'.get? dx=some { cls:=.type "dict",data:=.dict #[] }->h'.get? e=some (bare C (some dx) t0)->(∀ b o,b≠e->h.get? b=some o->h'.get? b=some o)->Q (some dx) ⟨h',g,d,t,os⟩) :
  wpAny M A (ownDictForStores (.ref e)) Q E ⟨h,g,d,t,os⟩:=by
 have hne:e≠h.objs.size:=aii (ah4 he)
 unfold ownDictForStores instanceDict
 repeat (first | with_reducible refine wpAny_loadPart_at he ?_ | with_reducible refine wpAny_loadPart_at hC ?_ | wp_step)
 refine go _ h.objs.size (aie _) ((aiu _ _ hne).trans (akn rfl rfl)) (ai3 _ (ah0 _ he) rfl) fun b o nb z=>?_
 exact (aiu _ _ (aje nb)).trans (ah0 _ z)
theorem aag {Q:Unit->Shared->Prop} (X:K.In h) (Y:XCls h C fI bmV "ValueError.__new__") (he:h.get? e=some (bare C none t0)) (ob:mroIn K C (.type "object")=some true)
  (hsa:findIn K (.ref C) "__setattr__"=some (some (.builtin "object.__setattr__"))) (hna:findIn K (.ref C) name=some none)
  (go:∀ h' tk dx,h.objs.size<=dx->h'.get? e=some (bare C (some dx) t0)->h'.Ns1 dx (fun y=>if y=name then some v else none)->(∀ b o,b≠e->h.get? b=some o->h'.get? b=some o)->Q () ⟨h',g,d,tk,os⟩) :
  wpAny (model prog w) A (setAttr (.ref e) name v) Q E ⟨h,g,d,t,os⟩:=by
 obtain⟨nm,q,N,bs,bm,sn,sub,ab,col,dd,k0,k1,k2,k3,k5,mN,hC,hn,hi,T⟩:=Y.ex
 have SF:=PySem.F.store_ValueError
 have LT:Looks (model prog w) h (typeOf (.ref e)) (.ref C):=(Looks.ld he).andThen .now
 have LS:=looks_findIn (M:=model prog w) X hsa
 have LN:=looks_findIn (M:=model prog w) X hna
 have LI:Looks (model prog w) h (isInstance (.ref e) (.type "object")) true:=LT.andThen (looks_mroIn X ob)
 refine wpAny_bind (wpAny_mkText (wpAny_bind ?_))
 unfold callSpecial? specialOf
 refine wpAny_bind (wpAny_bind (LT.at (LS.at (wpAny_holding ?_))))
 rw [SF.slot.bind (.ref e)]
 refine wpAny_bind (wpAny_pure (wpAny_bind (wpAny_call (codeAny_call_builtin SF.slot.plain SF.entry (@check_slot (model prog w) _ _ ⟨h,g,d,t+1,os⟩ _ _ _ (.ref e) [.str name t,v] [] _ SF.kind SF.split LI (SF.args _ _ _) ?_)))))
 show wpAny _ _ (Builtin.«object.__setattr__» ⟨[.ref e,.str name t,v],[]⟩) _ _ _
 rw [osa_eq,refuse_eq]
 refine wpAny_bind (wpAny_bind (LT.at (wpAny_bind (wpAny_mroOf_exc hC ?_))))
 rw [refuseLoop_ref,abe T (SF.passes _)]
 refine wpAny_pure (wpAny_bind (LT.at (wpAny_bind (LN.at (wpAny_bind (wpAny_pure ?_))))))
 dsimp only
 unfold storeInOwnDict
 refine wpAny_bind (wpAny_pure (wpAny_bind ?_))
 refine aen he hC fun h2 dx l2 g2 e2 k2=>?_
 have n2:h.get? dx=none:=ajx l2
 show wpAny _ _ (storeInDict dx (.str name t) name v) _ _ _
 unfold storeInDict newKeyGuard
 refine wpAny_bind (wpAny_pure (wpAny_bind (wpAny_nsSet1 (Heap.Ns1.of_empty ⟨_,#[],_,g2,rfl,fun z hz=>absurd hz (by simp),fun _=>rfl⟩) fun h3 n3 s3=>?_)))
 obtain⟨o4,es4,ep4,ho4,hd4,hc4⟩:=n3.count (Within.cons name v Within.nil)
 refine wpAny_bind (wpAny_lookBehind ho4 (by rw [hd4];exact pastItsLine_dict (aih hc4 (by rw [aiA,List.length_nil,sizeLine_eq];omega))) ?_)
 refine wpAny_pure (wpAny_pure (wpAny_pure ?_))
 have ne:e≠dx:=fun z=>by rw [z,n2] at he;cases he
 exact go h3 _ dx l2 ((s3.2 e ne).trans e2) n3 fun b o nb z=>(s3.2 b fun y=>by rw [y,n2] at z;cases z).trans (k2 b o nb z)
end
noncomputable def jl (K:ahX) (C f D:Addr) (name:Str):Bool :=
 qy K C f bmV "ValueError.__new__" && aku K (.ref f) && ajW K C (.type "object") == some true && aiB K (.ref C) "__setattr__" == some (some (.builtin "object.__setattr__"))
  && aiB K (.ref C) name == some none && PySem.W.readsIn K D (.type "type") && aju K (.ref D) "__getattribute__" == some (some (.builtin "type.__getattribute__")) && aip K (.ref C)
  && (match PySem.W.findCls K (.ref D) (.type "type") "__init__" with | some (.val v)=>v == .builtin "ValueError.__init__" | _=>false)
structure FldC (K:ahX) (C f D:Addr) (name:Str):Prop where
 wi:qy K C f bmV "ValueError.__new__"=true
 fn:PySem.W.typeIn K (.ref f)=some (.type "function")
 ob:ajW K C (.type "object")=some true
 sa:aiB K (.ref C) "__setattr__"=some (some (.builtin "object.__setattr__"))
 na:aiB K (.ref C) name=some none
 rd:PySem.W.readsIn K D (.type "type")=true
 sp:aju K (.ref D) "__getattribute__"=some (some (.builtin "type.__getattribute__"))
 kp:aip K (.ref C)=true
 fi:PySem.W.findCls K (.ref D) (.type "type") "__init__"=some (.val (.builtin "ValueError.__init__"))
theorem FldC.of {K:ahX} {C f D:Addr} {name:Str} (h:jl K C f D name=true):FldC K C f D name:=by
 unfold jl aku at h
 simp only [aiP,beq_iff_eq] at h
 obtain⟨⟨⟨⟨⟨⟨⟨⟨h1,h2⟩,h3⟩,h4⟩,h5⟩,h6⟩,h7⟩,h8⟩,h9⟩:=h
 refine⟨h1,h2,h3,h4,h5,h6,h7,h8,?_⟩
 split at h9
 ·rename_i v e
  rw [e,beq_iff_eq.mp h9]
 ·cases h9
theorem abP {P:Program} {w:World} {H:Hp} {h:Heap} {a:Addr} {C:Value} {o:Option Addr} (x:ya a C o h):ObjOk P w H h a (.ext (ya a C o)):=by
 obtain⟨t,e⟩:=x
 exact⟨⟨t,e⟩,⟨_,e⟩,fun h1 h2 p k=>let⟨t,e⟩:=p;⟨t,k _ e⟩⟩
theorem agN {H:Hp} {a:Addr} {o:HO} (h:H a=some o):upd H a o=H:=by
 funext b
 by_cases e:b=a
 ·rw [e,zr,h]
 ·rw [zk e]
section
variable {X:Cx} {pins:List (Addr×Obj)} {σ:St} {H H':Hp} {s s':Shared} {h':Heap} {a b dx C D f:Addr} {o:HO} {t':Nat} {name:Str}
theorem Inv.born (I:Inv X pins σ H s) (k:∀ b u,s.heap.get? b=some u->h'.get? b=some u) (n:s.heap.get? a=none) (new:ObjOk X.prog X.w (upd H a o) h' a o):Inv X pins σ (upd H a o) { s with heap:=h',toks:=t' }:=by
 have hn:H a=none:=by
  cases q:H a with
  | none=>rfl
  | some u =>
   obtain⟨v,z⟩:=(I.hok a u q).is
   rw [n] at z;cases z
 have ne:∀ {c:Addr} {u:Obj},s.heap.get? c=some u->c≠a:=fun q e=>by rw [e,n] at q;cases q
 have nh:∀ {c:Addr} {u:HO},H c=some u->upd H a o c=some u:=fun q=>by rw [zk (zB q hn)];exact q
 refine I.un ⟨fun c u q _ _ _=>k c u q,fun c u q _ _ _=>⟨u.slots,k c u q⟩,fun c u q m _=>by rw [zk (ne q)];exact m,fun c u q _=>⟨u,k c u q⟩,fun c xs q=>nh q,fun c u xs q=>nh q,fun c ps q=>⟨#[],by rw [nh q];simp⟩⟩ fun c u q=>?_
 by_cases e:c=a
 ·subst e;rw [zr] at q;cases q;exact new
 ·rw [zk e] at q
  exact (I.hok c u q).stay (fun x v _ z=>k x v z) (fun x z=>nh z) fun x xs z=>nh z
theorem Inv.field {y:V} {u:Value} (I:Inv X pins σ H s) (ha:H a=some (.ext (ya a (.ref C) none))) (hd:s.heap.objs.size<=dx) (ry:RelV y u) (he:ya a (.ref C) (some dx) h') (hn:h'.Ns1 dx fun x=>if x=name then some u else none)
  (k:∀ b o,b≠a->s.heap.get? b=some o->h'.get? b=some o):Inv X pins σ (upd (upd H dx (.xd [(name,y)])) a (.ext (ya a (.ref C) (some dx)))) { s with heap:=h',toks:=t' }:=by
 have hdn:=I.hok.fresh hd
 have nd:∀ {c:Addr} {v:Obj},s.heap.get? c=some v->c≠dx:=fun q=>aii (ah8 (ah4 q) hd)
 have na:∀ {c:Addr} {v:HO},H c=some v->(∀ φ,v≠.ext φ)->c≠a:=fun {c v} q n e=>by
  rw [e,ha] at q
  cases q
  exact n _ rfl
 have nh:∀ {c:Addr} {v:HO},H c=some v->(∀ φ,v≠.ext φ)->upd (upd H dx (.xd [(name,y)])) a (.ext (ya a (.ref C) (some dx))) c=some v:=fun q n=>by
  rw [zk (na q n),zk (zB q hdn)];exact q
 have nn:∀ {c:Addr},H c=none->c≠a:=fun m e=>by rw [e,ha] at m;cases m
 refine I.un ⟨fun c v q m _ _=>k c v (nn m) q,fun c v q m _ _=>⟨v.slots,k c v (nn m) q⟩,fun c v q m _=>by rw [zk (nn m),zk (nd q)];exact m,fun c v q _=>?_,fun c xs q=>nh q fun φ z=>(by cases z),fun c v xs q=>nh q fun φ z=>(by cases z),
  fun c ps q=>⟨#[],by rw [nh q fun φ z=>(by cases z)];simp⟩⟩ fun c v q=>?_
 ·by_cases e:c=a
  ·subst e;obtain⟨t,z⟩:=he;exact⟨_,z⟩
  ·exact⟨v,k c v e q⟩
 ·by_cases e:c=a
  ·subst e;rw [zr] at q;cases q;exact abP he
  ·rw [zk e] at q
   by_cases e2:c=dx
   ·subst e2
    rw [zr] at q
    cases q
    refine⟨_,hn,fun g=>?_⟩
    by_cases eg:g=name
    ·subst eg
     rw [if_pos rfl,ais,beq_self_eq_true]
     exact ry
    ·rw [if_neg eg,ais,beq_eq_false_iff_ne.mpr eg]
     exact trivial
   ·rw [zk e2] at q
    refine (I.hok c v q).stay (fun x w hx z=>k x w ?_ z) (fun x z=>nh z fun φ z=>(by cases z)) fun x xs z=>nh z fun φ z=>(by cases z)
    rcases hx with rfl | hx
    ·exact e
    ·exact na hx fun φ z=>(by cases z)
noncomputable def ac8 (C:Addr) (t:TA):TE:=fun σ H Q=>t σ H fun vs H1=>∃ a r,vs=.ref a :: r/\r.length<=1000/\H1 a=some (.ext (ya a (.ref C) none))/\Q .non H1
theorem qX {x:Str} {p apos pos:Pos} {e:Expr} {es:List Expr} {t:TA} {pl:Sem Bool} (T:FldC X.K C f D name) (hg:Gl X x) (hm:X.mg x=some (.ref D)) (ha:PA X (e :: es) t) (hdb:(x == ("__debug__":Str))=false:=by decide)
  (hst:starEach (e :: es) X.env=(false,eval e X.env) :: starEach es X.env:=by rfl) (hpl:(backTo pos (starEach es X.env)).any (·.1)=false:=by rfl)
  (ht:eval (.Call (.Attribute (.Name x p) "__init__" apos) (e :: es) [] pos) X.env=(do
   let ov <- eval (.Name x p) X.env
   standAt apos.atName
   let (f,first) <- holding [ov] (getMethod ov "__init__" pl)
   callWith pos f first (backTo pos (starEach (e :: es) X.env)) (backToKw pos (keywordEach [] X.env))):=by rfl) :
  PE X (.Call (.Attribute (.Name x p) "__init__" apos) (e :: es) [] pos) (ac8 C t):=by
 intro pins s σ H Q I h
 refine PySem.W.methodCall_KW (pl:=pl) (yY I hg hm ?_ hdb) ht
 refine PySem.W.method_cls I.kIn T.sp (PySem.W.cls_value I.kIn T.rd T.fi rfl ?_)
 refine ajV (thn (ha pos pins _ σ H _ (I.tok _) h) fun us s1 ⟨vs,H1,I1,r1,a,r,ev,hl,hH,q⟩=>?_) hst hpl
 subst ev
 cases r1 with
 | cons ra rr =>
  obtain rfl:=(show _=Value.ref a from ra)
  obtain⟨⟨t0,he⟩,_,_⟩:=I1.hok a _ hH
  obtain⟨hh,g,d,tk,os'⟩:=s1
  refine wpAny_call (ac7 (ot:=default) (T0:=[]) ajB (qz I1.kIn T.wi) he (by rw [<-Vals.length rr];exact ajm (yC hl)) fun h' k ⟨t1,e1⟩=>?_)
  have I2:=I1.write (x:=a) (e:=a) (o:=.ext (ya a (.ref C) none)) (h':=h') (t':=tk) (by rw [hH];exact trivial) (.inl rfl) (fun b u nb z=>k b u nb z) ⟨_,e1⟩ (abP ⟨t1,e1⟩)
  rw [agN hH] at I2
  exact⟨.non,H1,I2,rfl,q⟩
noncomputable def ahw (C:Addr) (name:Str) (ta tv:TE):TS:=fun D σ H=>tv σ H fun y H1=>ta σ H1 fun x H2=>∃ a,x=.ref a/\H2 a=some (.ext (ya a (.ref C) none))/\∀ dx,H2 dx=none->dx≠a->D.nx σ (upd (upd H2 dx (.xd [(name,y)])) a (.ext (ya a (.ref C) (some dx))))
theorem acv {o value:Expr} {ta tv:TE} {pos' pos:Pos} (T:FldC X.K C f D name) (ha:PE X o ta) (hv:PE X value tv) (hs:swapsWith value (some (.Attribute o name pos')) pos.line X.env=pure false:=by rfl) :
  PS X (.Assign [.Attribute o name pos'] value pos) (ahw C name ta tv):=by
 intro pins s σ H D' I h
 refine plainObj_wpAny_Assign_Attribute (thn (hv pins s σ H _ I h) fun u s1 ⟨y,H1,I1,ry,q⟩=>thn (ha pins s1 σ H1 _ I1 q) fun ov s2 ⟨x,H2,I2,rx,a,ex,hH,q2⟩=>?_) hs
 subst ex
 obtain rfl:ov=Value.ref a:=rx
 obtain⟨⟨t0,he⟩,_,_⟩:=I2.hok a _ hH
 obtain⟨hh,g,d,tk,os'⟩:=s2
 refine aag (K:=X.K) (t0:=t0) I2.kIn (qz I2.kIn T.wi) he T.ob T.sa T.na fun h' tk' dx hd e1 hn k=>?_
 refine⟨σ,_,I2.field hH hd ry ⟨t0,e1⟩ hn k,q2 dx (I2.hok.fresh hd) ?_⟩
 rintro rfl
 exact absurd (ah4 he) (akw.mpr hd)
noncomputable def aaJ (C:Addr) (name:Str):Sp:=fun vs H Q _=>∃ a y,vs=[.ref a,y]/\H a=some (.ext (ya a (.ref C) none))/\∀ dx,H dx=none->dx≠a->Q .non (upd (upd H dx (.xd [(name,y)])) a (.ext (ya a (.ref C) (some dx))))
end
section
variable {M:Model} {A:Around} {E:Value->Shared->Prop} {s:Shared} {C e:Addr}
theorem ac9 {env:Env} {x:Sem Value} {Q:Flow->Shared->Prop} {bmB:List Value} {newId B initId:String} {f:Addr} (F:ExcBaseFacts B newId initId bmB) (hh:A.handled=none)
  (h:wpAny M A x (fun v s1=>∃ a o t,v=.ref a/\XCls s1.heap C f bmB newId/\s1.heap.get? a=some (bare C o t)/\E (.ref a) s1) E s):wpAny M A (raiseStmt env (some x) none) Q E s:=by
 unfold raiseStmt
 refine wpAny_bind (wpAny_mono h (fun v s1 z=>?_) fun _ _ z=>z)
 obtain⟨a,o,t,rfl,Y,he,hE⟩:=z
 obtain⟨nm,q,N,bs,bm,sn,sub,ab,col,dd,k0,k1,k2,k3,k5,mN,hC,hn,hi,T⟩:=Y.ex
 have base:(Value.ref C :: bm).contains (.type "BaseException")=true:=by rw [List.contains_cons,T.hasType F.hasBase,Bool.or_true]
 obtain⟨hp,g,d,tk,os⟩:=s1
 repeat (first | with_reducible refine wpAny_loadPart_at he ?_ | with_reducible refine wpAny_loadPart_at hC ?_ | (with_reducible refine wpAny_isSubtype_exc hC ?_;rw [base]) | wp_step)
 exact wpAny_raiseNew_none hh hE
end
section
variable {X:Cx} {pins:List (Addr×Obj)} {σ:St} {H H':Hp} {s s':Shared} {C D f:Addr} {name:Str} {k:Nat} {fd:FuncData} {ps:List Str}
theorem ada {Q:Value->Shared->Prop} {y:V} {u:Value} (T:FldC X.K C f D name) (F:FnOk X.prog X.w X.K X.mg X.base CX0 k f fd ps (aaJ C name)) (hr:Room (k+1) X.A) (hb:Binds X.K fd ps []) (I:Inv X pins σ H s) (r:RelV y u)
  (h:∀ a dx s',s.heap.get? a=none->H a=none->H dx=none->dx≠a->Inv X pins σ (upd (upd H dx (.xd [(name,y)])) a (.ext (ya a (.ref C) (some dx)))) s'->Q (.ref a) s'):wpAny (model X.prog X.w) X.A (call (.ref C) [u]) Q X.xe s:=by
 obtain⟨hh,g,d,tk,os⟩:=s
 refine aem ajB I.kIn (qz I.kIn T.wi) T.fn (show 1<=sizeLine by decide) fun h' e hm=>?_
 obtain⟨t0,he,_,_⟩:=hm.there
 have hn:H e=none:=by
  cases q:H e with
  | none=>rfl
  | some u =>
   obtain⟨v,z⟩:=(I.hok e u q).is
   rw [hm.new] at z;cases z
 have I2:=I.born (a:=e) (o:=.ext (ya e (.ref C) none)) (h':=h') (t':=tk) hm.keeps hm.new (abP ⟨t0,he⟩)
 have r2:Vals [V.ref e,y] [Value.ref e,u]:=.cons rfl (.cons r .nil)
 have sp:aaJ C name [V.ref e,y] (upd H e (.ext (ya e (.ref C) none))) (fun v H2=>v=.non/\∃ dx,upd H e (.ext (ya e (.ref C) none)) dx=none/\dx≠e/\H2=upd (upd (upd H e (.ext (ya e (.ref C) none))) dx (.xd [(name,y)])) e (.ext (ya e (.ref C) (some dx)))) E0 :=
  ⟨e,y,rfl,zr,fun dx h1 h2=>⟨rfl,dx,h1,h2,rfl⟩⟩
 have hl:[Value.ref e,u].length=ps.length:=by
  rw [<-Vals.length r2]
  exact F.len _ _ _ _ sp
 have b2:=hb { heap:=h',gens:=g,drawn:=d,toks:=tk,os:=os } [.ref e,u] I2.kIn (by rw [aiJ];exact hl)
 rw [aiJ] at b2
 refine wpAny_call (codeAny_mono (F.run _ X.stack _ _ ⟨[Value.ref e,u],[]⟩ [Value.ref e,u] _ _ E0 (hr.make C [u] []) (I2.env0.make C [u] []) b2 r2 sp) fun res s' z=>?_)
 cases res with
 | error e=>exact aix z
 | ok fl =>
  cases fl with
  | ret v =>
   obtain⟨v',H3,I3,rv,ev,dx,n1,n2,eH⟩:=I2.after z
   subst ev
   refine⟨rv,h e dx s' hm.new hn ?_ n2 ?_⟩
   ·rw [zk n2] at n1;exact n1
   ·rw [eH] at I3
    have eu:upd (upd (upd H e (.ext (ya e (.ref C) none))) dx (.xd [(name,y)])) e (.ext (ya e (.ref C) (some dx)))=upd (upd H dx (.xd [(name,y)])) e (.ext (ya e (.ref C) (some dx))):=by
     funext b
     by_cases e1:b=e
     ·rw [e1,zr,zr]
     ·rw [zk e1,zk e1]
      by_cases e2:b=dx
      ·rw [e2,zr,zr]
      ·rw [zk e2,zk e2,zk e1]
    rw [eu] at I3
    exact I3
  | next=>exact aix z
  | brk=>exact aix z
  | cont=>exact aix z
noncomputable def aaK (C:Addr) (name:Str) (E:XK) (t:TA):TS:=fun _ σ H=>t σ H fun vs H1=>∃ y,vs=[y]/\∀ dx,H1 dx=none->E (.ref C) (some dx) (upd H1 dx (.xd [(name,y)]))
theorem adb {x:Str} {e0:Expr} {t:TA} {np cpos pos:Pos} {E:XK} (T:FldC X.K C f D name) (F:FnOk X.prog X.w X.K X.mg X.base CX0 k f fd ps (aaJ C name)) (hr:Room (k+1) X.A) (hb:Binds X.K fd ps [])
  (hxe:∀ e s',wpAny (model X.prog X.w) X.A (leaving X.env e) (fun _ s''=>CXf X.prog X.w X.outer X.H₀ X.s₀ E e s'') (fun _ _=>False) s'->X.xe e s')
  (hst:X.stack=X.env :: X.outer) (hf:X.env.frame=some X.env.locals) (hex:X.ex=[]) (hc:X.calm=true) (hg:Gl X x) (hm:X.mg x=some (.ref C)) (ha:PA X [e0] t)
  (hse:starEach [e0] X.env=(false,eval e0 X.env) :: starEach [] X.env:=by rfl) (hpl:(backTo cpos (starEach [] X.env)).any (·.1)=false:=by rfl) (hd:(x == ("__debug__":Str))=false:=by decide) :
  PS X (.Raise (some (.Call (.Name x np) [e0] [] cpos)) none pos) (aaK C name E t):=by
 intro pins s σ H D' I h
 rw [arm_exec_Raise]
 refine wpAny_bind (wpAny_standAt ?_)
 show wpAny _ _ (raiseStmt X.env (some (do let v <- eval (.Call (.Name x np) [e0] [] cpos) X.env;standAt pos;pure v)) none) _ _ _
 refine ac9 (C:=C) (f:=f) ajB (I.ok.hd hc) (wpAny_bind ?_)
 refine wpAny_Call_Name_kw (yY I hg hm ?_ hd)
 refine ajL (h₀:=X.base) I.ok.mod.kin T.kp (thn (ha cpos pins s σ H _ I h) fun us s1 ⟨vs,H1,I1,r,y,ev,q⟩=>⟨I1.kIn,?_⟩) hse hpl
 subst ev
 cases r with
 | cons ry rn =>
  cases rn
  refine ada T F hr hb I1 ry fun a dx s2 n1 n2 n3 n4 I2=>wpAny_bind (wpAny_standAt (wpAny_pure ?_))
  have hH:upd (upd H1 dx (.xd [(name,y)])) a (.ext (ya a (.ref C) (some dx))) a=some (.ext (ya a (.ref C) (some dx))):=zr
  obtain⟨⟨t0,he⟩,_,_⟩:=I2.hok a _ hH
  refine⟨a,some dx,t0,rfl,qz I2.kIn T.wi,he,hxe _ _ ?_⟩
  have hnew:X.s₀.heap.get? a=none:=by
   cases z:X.s₀.heap.get? a with
   | none=>rfl
   | some o =>
    obtain⟨o1,z1⟩:=I1.base.there a o z (by rw [hex];simp)
    rw [n1] at z1;cases z1
  have ed:drp (upd (upd H1 dx (.xd [(name,y)])) a (.ext (ya a (.ref C) (some dx)))) a=upd H1 dx (.xd [(name,y)]):=by
   funext b
   by_cases e1:b=a
   ·rw [e1,vM,zk (aje n4),n2]
   ·rw [jy e1,zk e1]
  have L:=abO (E:=fun _ _=>False) I2 hst hf hex hH hnew
  rw [ed] at L
  exact wpAny_mono L (fun _ s'' z=>⟨a,.ref C,some dx,_,rfl,z.1,z.2,q dx n3⟩) fun _ _ z=>z
theorem aeo {P:Program} {w:World} {K:ahX} {mg:Str->Option Value} {base:Heap} {N:List Str} {qual:Str} {scope:Scope} {f:Addr} {cd:Value} {A:Around} {outer:List Env} {s:Shared} {H:Hp} {E:XK} :
  ∀ e s',wpAny (model P w) (zO (CXf P w) P w K mg base N qual scope f cd A outer s H E).A (leaving (zO (CXf P w) P w K mg base N qual scope f cd A outer s H E).env e) (fun _ s''=>CXf P w outer H s E e s'') (fun _ _=>False) s' ->
   (zO (CXf P w) P w K mg base N qual scope f cd A outer s H E).xe e s':=fun e s' h=>wpAny_mono h (fun _ _ y=>y) fun _ _ z=>z.elim
theorem Fun.okF {P:Program} {w:World} {K:ahX} {mg:Str->Option Value} {base:Heap} {x qual:Str} {st:Stmt} {f:Addr} {fd:FuncData} {N ps:List Str} {k:Nat} {sp:Sp} (F:Fun K x qual st f fd) (S:FnScope N ps (zg st)) (len:∀ vs H Q E,sp vs H Q E->vs.length=ps.length)
  (hbody:∀ (cdv:Value) (A:Around) (outer:List Env) (s:Shared) (H:Hp) (vs:List V) (Q:VK) (E:XK),Room k (A.deeper (envOfC qual (zg st) s.heap.objs.size f cdv))->sp vs H Q E ->
   ∃ t,PSs (zO (CXf P w) P w K mg base N qual (zg st) f cdv A outer s H E) (zW st) t/\t { nx:=fun _ H'=>Q .non H',rt:=Q } (start N vs) H):FnOk P w K mg base (CXf P w) (k+1) f fd ps sp:=by
 obtain⟨oc,od,kV,doc,pm,an,cdv,ct,osl,rfl,lk,hcd⟩:=F.ex
 exact afR lk hcd S len fun A outer s H vs Q E hr hsp=>hbody cdv A outer s H vs Q E hr hsp
end
noncomputable def ExcAt (a:Addr) (C:Value) (o:Option Addr) (h:Heap):Prop:=∃ u,h.get? a=some u/\u.cls=C/\qL u=some .none/\∀ dx,o=some dx->u.dict=some dx
section
variable {X:Cx} {pins:List (Addr×Obj)} {σ:St} {H H1 H2:Hp} {s s1 s2:Shared} {a C0:Addr} {C:Value} {o:Option Addr} {i j:Nat} {n hx:Str} {b0:Stmt} {suite:List Stmt} {hp hpos:Pos} {ts:TS} {D:Ends}
theorem ahx (I:Inv X pins σ H1 s1) (x:XLie X.prog X.w X.stack H1 s1 a C H2 s2) (dc:Dct a o s2.heap) (hst:X.stack=X.env :: X.outer) (hf:X.env.frame=some X.env.locals) (hN:X.N.Nodup) (hj:X.N[j]?=some n) (hn:X.env.scope.names.lookup n=some .local)
  (hg:Gl X hx) (hm:X.mg hx=some (.ref C0)) (hit:aji X.K C (.ref C0)=some true) (hs:PSs (X.marked (.ref a)) (b0 :: suite) ts) (h:ts (aaG D j) (σ.set j (some (.ref a))) (upd H2 a (.ext (ExcAt a C o))))
  (hd:(hx == ("__debug__":Str))=false:=by decide) :
  wpAny (model X.prog X.w) X.A (noteFrame (.ref a) X.env) (fun _ t2=>wpAny (model X.prog X.w) X.A (setFlight (.ref a) none) (fun _ t3 =>
   wpAny (model X.prog X.w) X.A (handleBy (.ref a) X.env [.ExceptHandler (some (.Name hx hp)) (some n) (b0 :: suite) hpos]) (SP X pins D) X.xe t3) X.xe t2) X.xe s2:=by
 obtain⟨B,a0,fl,dom,trk⟩:=x.fly
 have fl0:=fl
 rw [hst] at fl0
 refine abd (acu _ _) (wpAny_looks_onW (by rw [I.ok.frames,hst]) hf fl0 (Q:=fun _ s'=>∃ h4,s'={ s2 with heap:=h4 }/\Heap.HeldW B (X.env :: X.outer) a C a0 X.env.locals h4/\s2.heap.UpToSlots h4) fun h4 held up4=>⟨h4,rfl,held,up4⟩) ?_
 rintro _ _ ⟨h4,rfl,held,up4⟩ kd4
 refine abd (qM _ _) (wpAny_landsW held (Q:=fun _ s'=>∃ h5,s'={ s2 with heap:=h5 }/\aky B (X.env :: X.outer) a C a0 h5/\h4.UpToSlots h5) fun h5 fl5 up5=>⟨h5,rfl,fl5,up5⟩) ?_
 rintro _ _ ⟨h5,rfl,fl5,up5⟩ kd5
 have mv:∀ {hh:Heap},B.StaysIn hh->s2.heap.UpToSlots hh->Un (frs X.stack) [] H1 H2 s1.heap hh/\HOk X.prog X.w H2 hh:=fun st up=>x.move fl dom trk st up
 have I5:Inv X pins σ H2 { s2 with heap:=h5 }:=I.call' (s':={ s2 with heap:=h5 }) x.os (mv fl5.1 (up4.trans up5)).1 (mv fl5.1 (up4.trans up5)).2 x.bare (fun b z=>absurd z (by simp))
 refine wpAny_handleBy_cons (codeAny_handlers_test (yY (X:=X.marked (.ref a)) (I5.marked (.ref a)) hg hm ?_ hd)) (by intro q;cases q)
 obtain⟨ob,hob,hoc⟩:=fl5.there
 have LT:PySem.W.Looks (model X.prog X.w) h5 (typeOf (.ref a)) C:=by
  subst hoc
  exact (PySem.W.Looks.ld hob).andThen .now
 refine (PySem.W.exm_one I5.kIn LT hit).at (codeAny_handlers_suite_as ?_)
 refine abd (qM _ _) (lands_againW fl5 (Q:=fun _ s'=>∃ h6,s'={ s2 with heap:=h6 }/\aky B (X.env :: X.outer) a C a0 h6/\h5.UpToSlots h6) fun h6 fl6 up6=>⟨h6,rfl,fl6,up6⟩) ?_
 rintro _ _ ⟨h6,rfl,fl6,up6⟩ kd6
 obtain⟨un,ok⟩:=mv fl6.1 ((up4.trans up5).trans up6)
 have fr6:H2 a=none:=x.free
 have ne:∀ {b:Addr} {u:HO},H2 b=some u->upd H2 a (.ext (ExcAt a C o)) b=some u:=fun {b u} e=>by
  rw [zk fun z=>by rw [z,fr6] at e;cases e]
  exact e
 have here:ExcAt a C o h6:=by
  obtain⟨u,h1,h2⟩:=fl6.there
  obtain⟨v,z1,z2,z3⟩:=((dc.kd kd4).kd kd5).kd kd6
  rw [h1] at z1
  cases z1
  exact⟨u,h1,h2,z2,z3⟩
 have I7:Inv X pins σ (upd H2 a (.ext (ExcAt a C o))) { s2 with heap:=h6 }:=by
  refine I.call' (s':={ s2 with heap:=h6 }) x.os ⟨un.keep,un.slot,fun b u q m z=>?_,un.there,fun b xs q=>ne (un.tups b xs q),fun b u v q=>ne (un.frzs b u v q),fun b ps q=>?_⟩ (fun b u e=>?_) x.bare (fun b z=>absurd z (by simp))
  ·rw [zk fun e=>by rw [e,x.new] at q;cases q]
   exact un.free b u q m z
  ·obtain⟨more,q2⟩:=un.tbls b ps q
   exact⟨more,ne q2⟩
  ·by_cases hb:b=a
   ·subst hb
    rw [zr] at e
    cases e
    obtain⟨u,z⟩:=here
    exact⟨⟨u,z⟩,⟨u,z.1⟩,fun g1 g2 p k=>let⟨v,q1,q2⟩:=p;⟨v,k v q1,q2⟩⟩
   ·rw [zk hb] at e
    exact (ok b u e).stay (fun c v _ q=>q) (fun c q=>ne q) fun c xs q=>ne q
 refine jL (X:=X.marked (.ref a)) (v:=.ref a) (I7.marked _) hN hj (.inl hn) rfl (fun s8 I8=>?_) (.inr hn)
 refine wpAny_mono (hs pins s8 _ _ (aaG D j) I8 h) (fun f s9 q=>?_) fun _ _ z=>z.elim
 show wpAny (model X.prog X.w) X.A (do bindName X.env n .none;unbindBehindTheSuite X.env n hpos) (fun _ t=>SP X pins D f t) X.xe s9
 cases f with
 | next =>
  obtain⟨σ',H',I9,q9⟩:=q
  exact aaH (I9.unmarked I.ok) hN hj hn fun s' I'=>⟨_,H',I',q9⟩
 | brk =>
  obtain⟨σ',H',I9,q9⟩:=q
  exact aaH (I9.unmarked I.ok) hN hj hn fun s' I'=>⟨_,H',I',q9⟩
 | cont =>
  obtain⟨σ',H',I9,q9⟩:=q
  exact aaH (I9.unmarked I.ok) hN hj hn fun s' I'=>⟨_,H',I',q9⟩
 | ret u =>
  obtain⟨v,σ',H',I9,r9,q9⟩:=q
  exact aaH (I9.unmarked I.ok) hN hj hn fun s' I'=>⟨v,_,H',I',r9,q9⟩
end
end L2
end
section
namespace L2
open PySem PySem.Spec PySem.W PyProof.Rows PySem.Calls PySem.Builtin Builtin Builtin.ObjectAttr Builtin.Getset_descriptor
section
variable {prog:Program} {w:World} {A:Around} {E:Value->Shared->Prop} {s:Shared} {K:ahX} {a C f dx:Addr} {name:Str} {v:Value}
theorem aep {Q:Value->Shared->Prop} {o:Option Addr} {m:Str->Option Value} (X:K.In s.heap) (Y:XCls s.heap C f bmV "ValueError.__new__") (I:ExcAt a (.ref C) (some dx) s.heap) (Wy:ExcWays K C) (na:findIn K (.ref C) name=some none) (hn:s.heap.Ns1 dx m) (hm:m name=some v) (hh:handedIn v=true)
  (h:Q v { s with toks:=s.toks+1 }):wpAny (model prog w) A (getAttr (.ref a) name true) Q E s:=by
 obtain⟨u,hu,hc,hnc,hd⟩:=I
 have II:qU a C s.heap:=⟨u,hu,hc⟩
 obtain⟨nm,q,N,bs,bm,sn,sub,ab,col,dd,k0,k1,k2,k3,k5,mN,hC,hN,hi,T⟩:=Y.ex
 obtain⟨hh',g,d,t,os⟩:=s
 have L0:=jT (M:=model prog w) II
 have L1:=looks_findIn (M:=model prog w) X Wy.ga
 have L2:=looks_findIn (M:=model prog w) X Wy.gt
 have L3:=looks_findIn (M:=model prog w) X na
 unfold getAttr getAttrBy
 refine wpAny_bind (wpAny_mkText (wpAny_holding (wpAny_bind (L0.at (wpAny_bind (L1.at ?_))))))
 dsimp only
 rw [if_neg (by
  have z:(Value.builtin "BaseException.__getattribute__" == Value.builtin "object.__getattribute__")=false:=by decide +kernel
  rw [z,akd]
  exact ahW)]
 unfold getAttrByItsOwn hookBefore
 rw [if_pos (show onTheHeap (Value.ref C)=true from rfl)]
 refine wpAny_bind (L2.at (wpAny_bind (wpAny_attempt (wpAny_holding ?_))))
 unfold callGetattribute
 rw [if_neg (show ¬ (true && onTheHeap (Value.builtin "BaseException.__getattribute__"))=true by decide)]
 unfold boundAndCalled
 rw [ake.ga.bind (.ref a)]
 refine wpAny_bind (wpAny_pure ?_)
 dsimp only
 refine wpAny_call (codeAny_call_builtin ake.ga.plain PySem.F.entry_bexc_ga (aa9 (K:=K) (C:=C) X II Wy ?_))
 unfold Builtin.«object.__getattribute__»
 refine wpAny_bind (wpAny_of_eq (a:=(Value.ref a,[Value.str name t])) rfl ?_)
 dsimp only
 refine wpAny_bind (wpAny_of_eq (a:=name) rfl ?_)
 refine wpAny_bind (L0.at (wpAny_bind ?_))
 unfold find
 refine wpAny_bind (L3.at (wpAny_bind (wpAny_pure (wpAny_bind (wpAny_pure ?_)))))
 dsimp only
 unfold ownThenClass
 refine wpAny_bind ?_
 have own:wpAny (model prog w) A.in1 (inOwnDict name (.ref a)) (fun r s'=>r=some v/\s'=⟨hh',g,d,t+1,os⟩) (fun _ _=>False) ⟨hh',g,d,t+1,os⟩:=by
  unfold inOwnDict ObjectAttr.ownDict loadHead
  refine wpAny_bind (wpAny_bind (wpAny_loadPart_at hu ?_))
  have go:wpAny (model prog w) A.in1 (instanceDict a false) (fun r s'=>wpAny (model prog w) A.in1 (inDict name r) (fun r s'=>r=some v/\s'=⟨hh',g,d,t+1,os⟩) (fun _ _=>False) s') (fun _ _=>False) ⟨hh',g,d,t+1,os⟩:=by
   unfold instanceDict
   refine wpAny_bind (wpAny_loadPart_at hu ?_)
   rw [hc,hd dx rfl]
   refine wpAny_bind (wpAny_bind (wpAny_loadPart_at hC (wpAny_pure ?_)))
   dsimp only
   refine wpAny_pure (wpAny_nsGet hn.ns ?_)
   exact⟨hm,rfl⟩
  cases q:u.data with
  | cls c=>rw [qL,q] at hnc;cases hnc
  | _=>exact go
 refine wpAny_mono own (fun r s' z=>?_) fun _ _ z=>z.elim
 obtain⟨rfl,rfl⟩:=z
 dsimp only
 refine wpAny_bind (wpAny_rule (wpAny_pure ?_))
 dsimp only
 refine wpAny_pure ?_
 show wpAny _ _ (handedOut v) _ _ _
 rw [handedOut_of hh]
 exact wpAny_pure h
end
theorem agO {h:Heap} {a C:Addr} {o:Option Addr} (x:ExcAt a (.ref C) o h):qU a C h:=let⟨u,h1,h2,_⟩:=x;⟨u,h1,h2⟩
noncomputable def agP (K:ahX):List V->Hp->VK->Prop:=fun xs H Q=>∃ a C o c b,xs=[.ref a,c]/\H a=some (.ext (ExcAt a (.ref C) o))/\ExcWays K C/\((∃ n,c=.ty n/\ahY K (.ref C) (.type n)=some b) \/ ∃ D,c=.ref D/\ahY K (.ref C) (.ref D)=some b)/\Q (.bl b) H
theorem z4 {X:Cx} {K:ahX} (hK:X.K=K):yn X (.builtin "isinstance") (agP K):=by
 subst hK
 intro pins s σ H xs us Q I r h
 obtain⟨a,C,o,c,b,rfl,hH,Wy,hc,q⟩:=h
 obtain⟨u,w',rfl,rx,rn⟩:=vals2 r
 cases rx
 have hI:qU a C s.heap:=agO (I.hok a _ hH).1
 rcases hc with⟨n,rfl,hk⟩ | ⟨D,rfl,hk⟩ <;> cases rn <;> exact aiy (ad4 Wy) I.kIn hI hk (fun z=>nomatch z) fun tk=>⟨.bl b,H,I.tok tk,rfl,q⟩
noncomputable def af1 (K:ahX) (name:Str) (ta:TE):TE:=fun σ H Q=>ta σ H fun x H1=>∃ a C f D dx y,x=.ref a/\FldC K C f D name/\ExcWays K C/\H1 a=some (.ext (ExcAt a (.ref C) (some dx)))/\H1 dx=some (.xd [(name,y)])/\Q y H1
theorem abf {y:V} {u:Value} (r:RelV y u):handedIn u=true:=by
 cases y <;> first | (cases r;rfl) | (obtain⟨t,rfl⟩:=r;rfl)
theorem aam {X:Cx} {K:ahX} {e:Expr} {ta:TE} {name:Str} {pos:Pos} (hK:X.K=K) (he:PE X e ta) (hb:attributeBase e name X.env (eval e X.env)=eval e X.env:=by rfl):PE X (.Attribute e name pos) (af1 K name ta):=by
 subst hK
 intro pins s σ H Q I h
 refine aeV hb (thn (he pins s σ H _ I h) fun u s1 ⟨x,H1,I1,rx,a,C,f,D,dx,y,ex,T,Wy,hH,hD,q⟩=>?_)
 subst ex
 obtain rfl:u=Value.ref a:=rx
 obtain⟨m,hn,hm⟩:=I1.hok dx _ hD
 have hy:=hm name
 rw [ais,beq_self_eq_true] at hy
 cases z:m name with
 | none=>rw [z] at hy;exact hy.elim
 | some u =>
  rw [z] at hy
  have ry:RelV y u:=hy
  exact aep (o:=none) I1.kIn (qz I1.kIn T.wi) (I1.hok a _ hH).1 Wy T.na hn z (abf ry) ⟨y,H1,I1.tok _,ry,q⟩
noncomputable def PBy (X:Cx) (body:List Stmt) (tb:XK->TS):Prop:=∀ (pins:List (Addr×Obj)) (s:Shared) (σ:St) (H:Hp) (D:Ends) (E:XK),Inv X pins σ H s->tb E D σ H ->
 wpAny (model X.prog X.w) X.A (execs body X.env) (SP X pins D) (fun e s'=>∃ H1 s1,Inv X pins σ H1 s1/\CXf X.prog X.w X.stack H1 s1 E e s') s
section
variable {X:Cx} {k:Nat} {f:Addr} {fd:FuncData} {ps:List Str} {sp:Sp} {t:TA} {fx y:Str} {e0:Expr} {es:List Expr} {p py cpos spos pos:Pos} {rest:List Stmt} {tr:TS} {i:Nat}
theorem afl {pins:List (Addr×Obj)} {σ:St} {H:Hp} {s:Shared} {E:XK} {Q:VK} (F:FnOk X.prog X.w X.K X.mg X.base (CXf X.prog X.w) k f fd ps sp) (hr:Room k X.A) (hgf:Gl X fx) (hmf:X.mg fx=some (.ref f)) (hk:aip X.K (.ref f)=true) (hb:L2.Binds X.K fd ps [])
  (ha:PA X.nox (e0 :: es) t) (I:Inv X pins σ H s) (h:t σ H fun vs H1=>sp vs H1 Q E)
  (hdf:(fx == ("__debug__":Str))=false) (he:starEach (e0 :: es) X.env=(false,eval e0 X.env) :: starEach es X.env) (hpl:(backTo cpos (starEach es X.env)).any (·.1)=false) :
  wpAny (model X.prog X.w) X.A (eval (.Call (.Name fx p) (e0 :: es) [] cpos) X.env) (EP X pins σ Q) (fun e s'=>∃ H1 s1,Inv X pins σ H1 s1/\CXf X.prog X.w X.stack H1 s1 E e s') s:=by
 refine wpAny_Call_Name_kw (yY I hgf hmf ?_ hdf)
 refine ajL (h₀:=X.base) I.ok.mod.kin hk (wpAny_mono (ha cpos pins s σ H _ (I.wish _) h) (fun us s1 q=>?_) fun _ _ z=>z.elim) he hpl
 obtain⟨vs,H1,I1',r,q⟩:=q
 have I1:Inv X pins σ H1 s1:=I1'.unwish
 refine⟨I1.kIn,?_⟩
 have b2:=hb s1 us I1.kIn (by rw [aiJ,<- r.length];exact F.len _ _ _ _ q)
 rw [aiJ] at b2
 refine wpAny_call (codeAny_mono (F.run X.A X.stack s1 H1 ⟨us,[]⟩ us vs _ _ hr I1.env0 b2 r q) fun res s' z=>?_)
 cases res with
 | error e=>exact⟨H1,s1,I1,z⟩
 | ok fl =>
  cases fl with
  | ret u=>exact I1.after z
  | next=>exact aix z
  | brk=>exact aix z
  | cont=>exact aix z
noncomputable def af2 (K:ahX) (C0:Addr) (tb:XK->TS) (j:Nat) (ts:Addr->TS):TS:=fun D σ H=>tb (fun C o H2=>aji K C (.ref C0)=some true/\∀ a,H2 a=none->ts a (aaG D j) (σ.set j (some (.ref a))) (upd H2 a (.ext (ExcAt a C o)))) D σ H
theorem afm {body suite:List Stmt} {tb:XK->TS} {b0:Stmt} {hx n:Str} {hp hpos:Pos} {C0:Addr} {j:Nat} {tss:Addr->TS} (hB:PBy X body tb) (hN:X.N.Nodup) (hst:X.stack=X.env :: X.outer) (hf:X.env.frame=some X.env.locals) (hj:X.N[j]?=some n) (hn:X.env.scope.names.lookup n=some .local)
  (hg:Gl X hx) (hm:X.mg hx=some (.ref C0)) (hs:∀ a,PSs (X.marked (.ref a)) (b0 :: suite) (tss a)) (hd:(hx == ("__debug__":Str))=false:=by decide) :
  PS X (.Try body [.ExceptHandler (some (.Name hx hp)) (some n) (b0 :: suite) hpos] [] [] pos) (af2 X.K C0 tb j tss):=by
 intro pins s σ H D I h
 refine wpAny_Try_except (wpAny_mono (hB pins s σ H D _ I h) (fun fl s1 z=>?_) fun e s' z=>?_)
 ·cases fl with
  | next=>exact wpAny_execs_nil z
  | brk=>exact z
  | cont=>exact z
  | ret u=>exact z
 ·obtain⟨H1,s1,I1,a,C,o,H2,rfl,x,dc,hit,hts⟩:=z
  exact ahx (ts:=tss a) I1 x dc hst hf hN hj hn hg hm hit (hs a) (hts a x.free) hd
end
noncomputable abbrev XD:=Option (Str×PyData)
noncomputable def FieldIs (K:ahX) (Hh:Hp):Option Addr->XD->Prop
 | none,none=>True
 | some dx,some (n,d)=>∃ v,Hh dx=some (.xd [(n,v)])/\Rep K Hh d v
 | _,_=>False
theorem FieldIs.mono {K:ahX} {H H':Hp} (s:Same H H'):∀ {o:Option Addr} {x:XD},FieldIs K H o x->FieldIs K H' o x
 | none,none,_=>trivial
 | some dx,some (n,d),h=>let⟨v,h1,h2⟩:=h;⟨v,s _ _ h1,Rep.mono s d v h2⟩
 | none,some _,h=>h.elim
 | some _,none,h=>h.elim
noncomputable def yz (K:ahX) (a:Addr) (C:Value) (x:XD):Hp->V->Prop:=fun Hh v=>∃ o,v=.ref a/\Hh a=some (.ext (ExcAt a C o))/\FieldIs K Hh o x
noncomputable def Wish (K:ahX) (f:Fx) (E:XK) (H:Hp) (Z:Value->XD->Prop):Prop:=∀ C o x H',Goes f H H'->FieldIs K (hide H' f) o x->Z C x->E C o H'
theorem Wish.go {K:ahX} {f:Fx} {E:XK} {H H1:Hp} {Z:Value->XD->Prop} (z:Wish K f E H Z) (g:Goes f H H1):Wish K f E H1 Z:=fun C o x H' g'=>z C o x H' (g.trans g')
noncomputable def PEf (K:ahX) (f:Fx) (E:XK) (te:TE) (ρ:zl) (P:PyData->Prop) (Z:Value->XD->Prop):Prop:=∀ (σ:St) (H:Hp) (Q:VK),EnvOk K f ρ σ H->(∀ d v H',Goes f H H'->Rep K (hide H' f) d v->P d->Q v H')->Wish K f E H Z->te σ H Q
noncomputable def PSf (K:ahX) (f:Fx) (E:XK) (ts:TS) (ρ:zl) (D:DEnds) (Z:Value->XD->Prop):Prop:=∀ (σ:St) (H:Hp) (N:Ends),EnvOk K f ρ σ H->(∀ ρ' σ' H',Goes f H H'->EnvOk K f ρ' σ' H'->D.nx ρ'->N.nx σ' H') ->
 (∀ d v H',Goes f H H'->Rep K (hide H' f) d v->D.rt d->N.rt v H')->(∀ ρ' σ' H',Goes f H H'->EnvOk K f ρ' σ' H'->D.bk ρ'->N.bk σ' H')->(∀ ρ' σ' H',Goes f H H'->EnvOk K f ρ' σ' H'->D.ct ρ'->N.ct σ' H')->Wish K f E H Z->ts N σ H
noncomputable def spF {γ:Type} (K:ahX) (n:Nat) (pre:γ->List DV->Prop) (post:γ->PyData->Prop) (exc:γ->Value->XD->Prop):Sp:=fun vs H Q E=>∃ f xs c,RepVs K f H xs vs/\xs.length=n/\FOk f H/\pre c xs /\
 (∀ r v H',Goes f H H'->Rep K (hide H' f) r v->post c r->Q v H')/\Wish K f E H (exc c)
section
variable {K:ahX} {f:Fx} {ρ:zl} {E:XK} {te:TE} {ts tu:TS} {tt:TT} {t:TA} {P:PyData->Prop} {D:DEnds} {Z:Value->XD->Prop} {g:TG} {wi:TI}
theorem agQ (h:PEd K f te ρ P):PEf K f E te ρ P Z:=fun σ H Q e q _=>h σ H Q e q
theorem abQ (h:PSd K f ts ρ D):PSf K f E ts ρ D Z:=fun σ H N e n r b c _=>h σ H N e n r b c
theorem agR {γ:Type} {n:Nat} {pre:γ->List DV->Prop} {post:γ->PyData->Prop} {exc:γ->Value->XD->Prop} (c:γ) (h:PAd K f t ρ fun xs=>xs.length=n/\pre c xs/\(∀ r,post c r->P r)/\∀ C x,exc c C x->Z C x):PEf K f E (qq (spF K n pre post exc) [] E t) ρ P Z:=fun σ H Q e q z =>
 h σ H _ e fun xs vs H1 g1 r1 ⟨hl,hp,k,kz⟩=>⟨f,xs,c,by rw [aiJ];exact r1,hl,g1.2,hp,fun r v H' g' r' p'=>q r v H' (g1.trans g') r' (k r p'),fun C o x H' g' fi p'=>z C o x H' (g1.trans g') fi (kz C x p')⟩
theorem vh {C:Addr} {name:Str} (h:PAd K f t ρ fun xs=>∃ d,xs=[.dat d]/\Z (.ref C) (some (name,d))):PSf K f E (aaK C name E t) ρ D Z:=fun σ H N e n r b c z =>
 h σ H _ e fun xs vs H1 g1 r1 ⟨d,ex,hz⟩=>by
  subst ex
  cases r1 with
  | @cons _ v _ _ rd rn =>
   cases rn
   refine⟨v,rfl,fun dx hn=>?_⟩
   have g2:Goes f H1 (upd H1 dx (.xd [(name,v)])):=.of_same (yh hn _) g1.2
   exact z (.ref C) (some dx) (some (name,d)) _ (g1.trans g2) ⟨v,zw (fresh_ne g1.2 hn) zr,Rep.mono g2.1 d v rd⟩ hz
theorem aeq (h:PSf K f E ts ρ { D with nx:=fun ρ'=>PSf K f E tu ρ' D Z } Z):PSf K f E (vo ts tu) ρ D Z:=fun σ H N e n r b c z =>
 h σ H _ e (fun ρ' σ' H' g' e' p=>p σ' H' N e' (fun ρ2 σ2 H2 g2=>n ρ2 σ2 H2 (g'.trans g2)) (fun d v H2 g2=>r d v H2 (g'.trans g2)) (fun ρ2 σ2 H2 g2=>b ρ2 σ2 H2 (g'.trans g2)) (fun ρ2 σ2 H2 g2=>c ρ2 σ2 H2 (g'.trans g2)) (z.go g')) r b c z
theorem ahy (h:PTd K f tt ρ fun q=>if q=true then PSf K f E ts ρ D Z else PSf K f E tu ρ D Z):PSf K f E (abw tt ts tu) ρ D Z:=fun σ H N e n r b c z =>
 h σ H _ e fun q H1 g1 p=>by
  have go:∀ tx,PSf K f E tx ρ D Z->tx N σ H1:=fun tx p=>p σ H1 N (e.mono g1) (fun ρ2 σ2 H2 g2=>n ρ2 σ2 H2 (g1.trans g2)) (fun d v H2 g2=>r d v H2 (g1.trans g2)) (fun ρ2 σ2 H2 g2=>b ρ2 σ2 H2 (g1.trans g2)) (fun ρ2 σ2 H2 g2=>c ρ2 σ2 H2 (g1.trans g2)) (z.go g1)
  cases q with
  | false=>rw [if_neg ahW] at p ⊢;exact go _ p
  | true=>rw [if_pos rfl] at p ⊢;exact go _ p
theorem agS (h:PEf K f E te ρ (fun _=>D.nx ρ) Z):PSf K f E (adw te) ρ D Z:=fun σ H N e n r b c z=>h σ H _ e (fun d v H' g' _ p=>n ρ σ H' g' (e.mono g') p) z
theorem ahz (h:PEf K f E te ρ D.rt Z):PSf K f E (aeR te) ρ D Z:=fun σ H N e n r b c z=>h σ H _ e r z
theorem ahA (h:PId K f wi ρ fun ds=>∃ J:Nat->zl->Prop,J 0 ρ /\
   (∀ (i:Nat) d ρ',ds[i]?=some d->J i ρ'->PGd K f g d ρ' fun ρ2=>PSf K f E ts ρ2 { D with nx:=J (i+1),ct:=J (i+1),bk:=D.nx } Z)/\∀ ρ',J ds.length ρ'->D.nx ρ') :
  PSf K f E (adC wi g ts) ρ D Z:=fun σ H N e n r b c z=>h σ H _ e fun ds J H1 g1 it ⟨Jv,j0,js,jd⟩=>by
 refine⟨fun i m σ' H'=>∃ ρ',EnvOk K f ρ' σ' H'/\Goes f H1 H'/\Jv i ρ'/\m+i=ds.length,⟨ds.length,ρ,e.mono g1,.refl g1.2,j0,rfl⟩,fun i m σ' H' ⟨ρ',e',g',p,hm⟩=>?_⟩
 by_cases hi:i<ds.length
 ·obtain⟨hgo,hy⟩:=it.go f H' i _ e'.fd g'.sm (ah2 hi)
  refine .inr ⟨hgo,fun σ2 H2=>∃ ρ2,EnvOk K f ρ2 σ2 H2/\Goes f H1 H2/\Jv (i+1) ρ2,fun σ2 H2 ⟨ρ2,e2,g2,p2⟩=>⟨m - 1,by omega,ρ2,e2,g2,p2,by omega⟩,fun x H3 hx=>?_⟩
  obtain⟨g3,r3⟩:=hy x H3 hx
  refine js i _ ρ' (ah2 hi) p σ' H3 x _ (e'.mono g3) r3 fun ρ2 σ2 H4 g4 e4 p4=>?_
  have gg:=g'.trans (g3.trans g4)
  exact p4 σ2 H4 _ e4 (fun ρ5 σ5 H5 g5 e5 p5=>⟨ρ5,e5,gg.trans g5,p5⟩) (fun d v H5 g5 r5 p5=>r d v H5 (g1.trans (gg.trans g5)) r5 p5) (fun ρ5 σ5 H5 g5 e5 p5=>n ρ5 σ5 H5 (g1.trans (gg.trans g5)) e5 p5) (fun ρ5 σ5 H5 g5 e5 p5=>⟨ρ5,e5,gg.trans g5,p5⟩) (z.go (g1.trans gg))
 ·have ei:i=ds.length:=by omega
  subst ei
  exact .inl ⟨it.st f H' e'.fd g'.sm,n ρ' σ' H' (g1.trans g') e' (jd ρ' p)⟩
noncomputable def PYd (K:ahX) (f:Fx) (tb:XK->TS) (ρ:zl) (D:DEnds) (Z:Value->XD->Prop):Prop:=∀ (E:XK),PSf K f E (tb E) ρ D Z
theorem agT {tb:XK->TS} {C0:Addr} {j:Nat} {tss:Addr->TS}
  (h:PYd K f tb ρ D fun C x=>aji K C (.ref C0)=some true/\∀ a,PSd K f (tss a) (ρ.set j (some (.mon (yz K a C x)))) { nx:=fun ρ'=>D.nx (ρ'.set j none),rt:=D.rt,bk:=fun ρ'=>D.bk (ρ'.set j none),ct:=fun ρ'=>D.ct (ρ'.set j none) }) :
  PSd K f (af2 K C0 tb j tss) ρ D:=fun σ H N e nx rt bk ct=>by
 refine h _ σ H N e nx rt bk ct fun C o x H' g' fi ⟨hit,hs⟩=>⟨hit,fun a hn=>?_⟩
 have gn:Goes f H' (upd H' a (.ext (ExcAt a C o))):=.of_same (yh hn _) g'.ok
 have gg:=g'.trans gn
 have e2:=(e.mono gg).set j (x:=.mon (yz K a C x)) (v:=.ref a) fun H'' s''=>⟨o,rfl,s'' _ _ (zw (fresh_ne g'.ok hn) zr),FieldIs.mono (gn.1.trans s'') fi⟩
 have none_ok:∀ {ρ':zl} {σ':St} {H'':Hp},EnvOk K f ρ' σ' H''->EnvOk K f (ρ'.set j none) (σ'.set j none) H'':=fun {ρ' σ' H''} e'=>by
  refine⟨by rw [aiV,aiV];exact e'.len,fun q y hy=>?_,e'.fd⟩
  by_cases hq:j=q
  ·subst hq
   rw [List.getElem?_set] at hy
   rw [if_pos rfl] at hy
   split at hy <;> cases hy
  ·rw [aiR hq] at hy ⊢
   exact e'.get q y hy
 exact hs a _ _ _ e2 (fun ρ' σ' H'' g'' e'' p''=>nx _ _ H'' (gg.trans g'') (none_ok e'') p'') (fun d v H'' g'' r'' p''=>rt d v H'' (gg.trans g'') r'' p'') (fun ρ' σ' H'' g'' e'' p''=>bk _ _ H'' (gg.trans g'') (none_ok e'') p'') (fun ρ' σ' H'' g'' e'' p''=>ct _ _ H'' (gg.trans g'') (none_ok e'') p'')
theorem af3 {j:Nat} {C a:Addr} {x:XD} {c:V} {b:Bool} (hj:ρ[j]?=some (some (.mon (yz K a (.ref C) x)))) (Wy:ExcWays K C) (hk:(∃ n,c=.ty n/\ahY K (.ref C) (.type n)=some b) \/ ∃ D,c=.ref D/\ahY K (.ref C) (.ref D)=some b) (p:P (.bool b)) :
  PEd K f (tCB (agP K) (z9 (je j) (z9 (tC c) jh))) ρ P:=fun σ H Q e q=>by
 obtain⟨v,hv,r⟩:=e.get j _ hj
 obtain⟨o,rfl,hH,_⟩:=r H (zo H f)
 exact⟨_,hv,a,C,o,c,b,rfl,hH,Wy,hk,q _ _ H (.refl e.fd) (rep_bool.mpr rfl) p⟩
theorem abg {j:Nat} {C a fa Dc:Addr} {name:Str} {d:PyData} (hj:ρ[j]?=some (some (.mon (yz K a (.ref C) (some (name,d)))))) (T:FldC K C fa Dc name) (Wy:ExcWays K C) (p:P d):PEd K f (af1 K name (je j)) ρ P:=fun σ H Q e q=>by
 obtain⟨v,hv,r⟩:=e.get j _ hj
 obtain⟨o,rfl,hH,fi⟩:=r (hide H f) (Same.refl _)
 cases o with
 | none=>exact fi.elim
 | some dx =>
  obtain⟨y,h1,h2⟩:=fi
  exact⟨_,hv,a,C,fa,Dc,dx,y,rfl,T,Wy,(zH hH).2,(zH h1).2,q d y H (.refl e.fd) h2 p⟩
end
structure FnInF (P:Program) (w:World) (K:ahX) (mg:Str->Option Value) (base:Heap) (k:Nat) (x:Str) (ps:List Str) (sp:Sp):Prop where
 ex:∃ (f:Addr) (fd:FuncData),FnOk P w K mg base (CXf P w) k f fd ps sp/\mg x=some (.ref f)/\aip K (.ref f)=true/\Binds K fd ps []
section
variable {P:Program} {w:World} {K:ahX} {mg:Str->Option Value} {base:Heap} {j k n:Nat} {x:Str} {st:Stmt} {ps N:List Str} {γ:Type} {pre:γ->List DV->Prop} {post:γ->PyData->Prop} {exc:γ->Value->XD->Prop} {sp:Sp}
theorem FnInF.mono (h:FnInF P w K mg base j x ps sp) (hk:j<=k):FnInF P w K mg base k x ps sp:=let⟨f,fd,a,b,c,d⟩:=h.ex;⟨f,fd,a.mono hk,b,c,d⟩
theorem Def.okF (F:Def K mg x st ps) (S:FnScope N ps (zg st)) (hn:ps.length=n)
  (h:∀ (fa:Addr) (cdv:Value) (A:Around) (outer:List Env) (s:Shared) (H:Hp) (E:XK),Room k (A.deeper (envOfC x (zg st) s.heap.objs.size fa cdv)) ->
   ∃ t,PSs (zO (CXf P w) P w K mg base N x (zg st) fa cdv A outer s H E) (zW st) t/\∀ f xs c,xs.length=n->pre c xs->PSf K f E t (jw N xs) { nx:=fun _=>post c .none,rt:=post c } (exc c)) :
  FnInF P w K mg base (k+1) x ps (spF K n pre post exc):=by
 obtain⟨fa,fd,F1,F2,F3⟩:=F.ex
 refine⟨fa,fd,F1.okF S (fun vs H Q E h=>?_) (fun cdv A outer s H vs Q E hr hs=>?_),F3,F1.kp,F2⟩
 ·obtain⟨f,xs,c,r,hl,_⟩:=h
  rw [r.length,hl,hn]
 ·obtain⟨f,xs,c,r,hl,fo,hp,q,z⟩:=hs
  obtain⟨t,h1,h2⟩:=h fa cdv A outer s H E hr
  refine⟨t,h1,h2 f xs c hl hp _ H _ (ji r fo) (fun ρ' σ' H' g' e' p=>q .none .non H' g' (rep_none.mpr rfl) p) (fun d v H' g' r' p=>q d v H' g' r' p) (fun _ _ _ _ _ z=>z.elim) (fun _ _ _ _ _ z=>z.elim) z⟩
theorem aer {qual:Str} {scope:Scope} {f:Addr} {cd:Value} {A:Around} {outer:List Env} {s:Shared} {H:Hp} {E:XK} {y:Str} {qs:List Str} {sq:Sp} {e:Expr} {es:List Expr} {t:TA} {p pos:Pos} (G:FnInF P w K mg base k y qs sq) (hr:Room k (zO (CXf P w) P w K mg base N qual scope f cd A outer s H E).A) (hg:Gl (zO (CXf P w) P w K mg base N qual scope f cd A outer s H E) y) (ha:PA (zO (CXf P w) P w K mg base N qual scope f cd A outer s H E) (e :: es) t) (hdb:(y == ("__debug__":Str))=false:=by decide)
  (he:starEach (e :: es) (zO (CXf P w) P w K mg base N qual scope f cd A outer s H E).env=(false,eval e (zO (CXf P w) P w K mg base N qual scope f cd A outer s H E).env) :: starEach es (zO (CXf P w) P w K mg base N qual scope f cd A outer s H E).env:=by rfl)
  (hpl:(backTo pos (starEach es (zO (CXf P w) P w K mg base N qual scope f cd A outer s H E).env)).any (·.1)=false:=by rfl) :
  PE (zO (CXf P w) P w K mg base N qual scope f cd A outer s H E) (.Call (.Name y p) (e :: es) [] pos) (qq sq [] E t):=by
 obtain⟨g,gd,G1,G2,G3,G4⟩:=G.ex
 exact acb (dvs:=[]) G1 hr hg G2 G3 G4 .nil ahv ha hdb he hpl
end
noncomputable def acw (s:Stmt):List Stmt:=match s with
 | .ClassDef _ _ _ b _ _ _ _ _ _ _=>b
 | _=>[]
structure FCls (K:ahX) (mg:Str->Option Value) (x base:Str) (C:Addr) (name:Str) (st:Stmt) (ps:List Str):Prop where
 ex:∃ (f D:Addr) (fd:FuncData),FldC K C f D name/\mg x=some (.ref C)/\mg base=some (.ref D)/\Fun K "__init__" (x ++ ".__init__") st f fd/\Binds K fd ps []
structure InitOk (P:Program) (w:World) (K:ahX) (mg:Str->Option Value) (base:Heap) (k:Nat) (C:Addr) (name:Str):Prop where
 ex:∃ (f D:Addr) (fd:FuncData) (ps:List Str),FldC K C f D name/\FnOk P w K mg base CX0 k f fd ps (aaJ C name)/\Binds K fd ps []
theorem qN {P:Program} {w:World} {K:ahX} {mg:Str->Option Value} {base:Heap} {N:List Str} {qual:Str} {scope:Scope} {f:Addr} {cd:Value} {A:Around} {outer:List Env} {s:Shared} {H:Hp} {E:XK} {k:Nat} {C:Addr} {name x:Str} {e0:Expr} {t:TA} {np cpos pos:Pos}
  (G:InitOk P w K mg base k C name) (hr:Room (k+1) (zO (CXf P w) P w K mg base N qual scope f cd A outer s H E).A) (hg:Gl (zO (CXf P w) P w K mg base N qual scope f cd A outer s H E) x) (hm:mg x=some (.ref C)) (ha:PA (zO (CXf P w) P w K mg base N qual scope f cd A outer s H E) [e0] t)
  (hse:starEach [e0] (zO (CXf P w) P w K mg base N qual scope f cd A outer s H E).env=(false,eval e0 (zO (CXf P w) P w K mg base N qual scope f cd A outer s H E).env) :: starEach [] (zO (CXf P w) P w K mg base N qual scope f cd A outer s H E).env:=by rfl) (hpl:(backTo cpos (starEach [] (zO (CXf P w) P w K mg base N qual scope f cd A outer s H E).env)).any (·.1)=false:=by rfl) (hd:(x == ("__debug__":Str))=false:=by decide) :
  PS (zO (CXf P w) P w K mg base N qual scope f cd A outer s H E) (.Raise (some (.Call (.Name x np) [e0] [] cpos)) none pos) (aaK C name E t):=by
 obtain⟨fI,D,fd,ps,T,F,hb⟩:=G.ex
 exact adb T F hr hb aeo rfl rfl rfl rfl hg hm ha hse hpl hd
theorem InitOk.fld {P:Program} {w:World} {K:ahX} {mg:Str->Option Value} {base:Heap} {k:Nat} {C:Addr} {name:Str} (h:InitOk P w K mg base k C name):∃ f D,FldC K C f D name:=let⟨f,D,_,_,T,_⟩:=h.ex;⟨f,D,T⟩
theorem jz {K:ahX} {f:Fx} {ρ:zl} {P:PyData->Prop} {j:Nat} {C D a:Addr} {x:XD} {b:Bool} (hj:ρ[j]?=some (some (.mon (yz K a (.ref C) x)))) (Wy:ExcWays K C) (hk:ahY K (.ref C) (.ref D)=some b) (p:P (.bool b)) :
  PEd K f (tCB (agP K) (z9 (je j) (z9 (tC (.ref D)) jh))) ρ P:=af3 hj Wy (.inr ⟨D,rfl,hk⟩) p
theorem jU {K:ahX} {f:Fx} {ρ:zl} {D:DEnds} {tt:TT} {ts tu:TS} (h:PTd K f tt ρ fun _=>True) (h1:PSd K f ts ρ D) (h2:PSd K f tu ρ D):PSd K f (abw tt ts tu) ρ D:=aa5 fun σ H Q e q=>h σ H Q e fun b H' g _=>q b H' g (by cases b <;> simpa)
theorem agU {K:ahX} {f:Fx} {t:TA} {ρ:zl} {R:List DV->Prop} (ys:List DV) (h:PAd K f t ρ fun xs=>xs=ys) (i:R ys):PAd K f t ρ R:=fun σ H Q e q=>h σ H Q e fun xs vs H' g r p=>q xs vs H' g r (p▸i)
theorem vN {K:ahX} {f:Fx} {ρ:zl} {D:DEnds} {tt:TT} {ts tu:TS} (p:Prop) [Decidable p] (h:PTd K f tt ρ fun b=>b=decide p) (h1:p->PSd K f ts ρ D) (h2:¬ p->PSd K f tu ρ D):PSd K f (abw tt ts tu) ρ D:=aa5 fun σ H Q e q=>h σ H Q e fun b H' g z=>q b H' g (by
 subst z
 by_cases hp:p
 ·rw [decide_eq_true hp,if_pos rfl];exact h1 hp
 ·rw [decide_eq_false hp,if_neg ahW];exact h2 hp)
noncomputable def yZ (K:ahX) (C:Addr):Bool :=
 aiB K (.ref C) "__getattribute__" == some (some (.builtin "BaseException.__getattribute__")) && aiB K (.ref C) "__getattr__" == some none && aiB K (.ref C) "__class__" == some (some (.builtin "object.__class__"))
  && aju K (.builtin "object.__class__") "__get__" == some (some (.builtin "getset_descriptor.__get__")) && PySem.W.takesIn K (.builtin "object.__class__") == some true && ajW K C (.type "object") == some true && ajW K C (.type "BaseException") == some true && (PySem.W.clsIn K C).isSome
theorem vi {K:ahX} {C:Addr} (h:yZ K C=true):ExcWays K C:=by
 unfold yZ at h
 simp only [aiP,beq_iff_eq] at h
 obtain⟨⟨⟨⟨⟨⟨⟨h1,h2⟩,h3⟩,h4⟩,h5⟩,h6⟩,h7⟩,h8⟩:=h
 exact⟨h1,h2,h3,h4,h5,h6,h7,h8⟩
section
variable {w:World} {K:ahX} {f:Fx} {Ds:List Addr} {ts:TS} {te tk:TE} {ρ:zl} {cs:List OC} {O:MEnds} {i j n:Nat}
theorem af4 (h:PEm w K f Ds te ρ cs fun d=>O.nx (ρ.set n (some (.dat d))) cs):PSm w K f Ds (qI te (qa n)) ρ cs O:=fun se σ H H2 E x nn r b k =>
 h se σ H H2 _ x fun d v H1 g1 r1 p1=>by
  have x1:=x.go g1 (x.env.mono g1)
  exact nn _ cs _ H1 ⟨x1.env.set n (x:=.dat d) r1,x1.sm,x1.kp,x1.len,x1.own⟩ p1
end
theorem v3:entryFor table "proto.unchain"=some Builtin.«proto.unchain»:=entryFor_of_tree (by kernel_rfl)
section
variable {prog:Program} {w:World} {A:Around} {E:Value->Shared->Prop} {s:Shared}
theorem abR {α:Type} {e h:Addr} {u oe:Obj} {vs:Array Value} {Q:α->Shared->Prop} (hh:A.handled=some (.ref h)) (he:s.heap.get? e=some oe) (hd:oe.data=.fields vs) (h2:2<vs.size) (hu:s.heap.get? h=some u) (hf:qL u=some .none) (ne:h≠e)
  (q:∀ h',(∀ b o,b≠e->s.heap.get? b=some o->h'.get? b=some o)->(∃ o',h'.get? e=some o'/\o'.cls=oe.cls)->E (.ref e) { s with heap:=h' }):wpAny (model prog w) A (raiseNew (.ref e):Sem α) Q E s:=by
 unfold raiseNew
 refine wpAny_bind (wpAny_handled ?_)
 rw [hh]
 dsimp only
 rw [if_pos (show ((Value.ref h != Value.ref e)=true) from by simp [ne])]
 refine wpAny_bind (wpAny_holding (wpAny_runValue (codeAny_builtin v3 ?_)))
 unfold qL at hf
 split at hf
 ·rename_i ws hw
  show wpAny _ _ (field (.ref h) 2 >>= _) _ _ s
  refine wpAny_bind (wpAny_field hu hw hf ?_)
  rw [if_pos (show ((Value.none == Value.none)=true) from rfl)]
  refine wpAny_bind (wpAny_pure (wpAny_pure ?_))
  show wpAny _ _ (updateField e 2 (.ref h) >>= fun _=>throw (Value.ref e)) _ _ _
  refine wpAny_bind ?_
  show wpAny _ _ (setField (.ref e) 2 (.ref h)) _ _ _
  refine wpAny_setField he hd h2 (wpAny_throw (q _ (fun b o nb z=>?_) ?_))
  ·exact (aiu _ _ (aje nb)).trans z
  ·exact⟨_,ai3 _ he (Obj.isFreed_of_fields (Obj.data_mapFields hd _)),Obj.cls_mapFields _ _⟩
 ·cases hf
theorem v5 {it l h:Addr} {i:Nat} {items:Array Value} {u:Obj} {Q:Option Value->Shared->Prop} (hh:A.handled=some (.ref h)) (hit:s.heap.IsListIter it l i) (hl:s.heap.IsList l items) (hx:items[i]?=none) (hu:s.heap.get? h=some u) (hf:qL u=some .none) (hne:h≠it)
  (q:∀ h',(∀ b o,b≠it->s.heap.get? b=some o->h'.get? b=some o)->Q none { s with heap:=h' }):wpAny (model prog w) A (pyNext (.ref it)) Q E s:=by
 obtain⟨o,ho,_,hd⟩:=id hit
 obtain⟨ol,hol,_,nl,hdl⟩:=hl
 refine wpAny_bind (wpAny_attempt (wpAny_callSpecial?_slot (name:=aiN "__next__") hit.typeIs slot_listiter_next (wpAny_call_entry slot_listiter_next hit.typeIs entry_listiter_next ?_ (args_listiter_next _))))
 show wpAny _ _ (PySem.field (.ref it) 0 >>= _) _ _ s
 refine wpAny_bind (wpAny_field ho hd (x:=.ref l) rfl (a:=it) ?_)
 rw [if_neg (show ¬ (Value.ref l == Value.none)=true from ahW)]
 refine wpAny_bind (wpAny_field ho hd (x:=.int i 0) rfl (wpAny_bind (wpAny_seqItems hol hdl ?_)))
 simp only [aiT,hx]
 refine wpAny_bind (wpAny_rule (wpAny_bind (wpAny_setField ho hd (by simp) (wpAny_bind ?_))))
 simp only [newExc,newTuple]
 refine wpAny_bind (wpAny_newObj_type (wpAny_bind (m:=firstArgMember _ _) (wpAny_of_eq (a:=Value.none) (by first | rfl | (simp only [firstArgMember];rfl)) (wpAny_newObj_type ?_ (by size_fits)))) (by size_fits))
 have up:∀ b o,b≠it->s.heap.get? b=some o->∀ o1 o2:Obj,(((s.heap.update it (ak3 (·.setIfInBounds 0 Value.none))).push o1).push o2).get? b=some o:=fun b o nb z o1 o2=>ah0 _ (ah0 _ ((aiu _ _ (aje nb)).trans z))
 refine abR (u:=u) hh (aik _ rfl) rfl (show 2<6 from by decide) (up h u hne hu _ _) hf ?_ fun h' kp ⟨o',e1,e2⟩=>?_
 ·exact fun z=>absurd (ah4 (ah0 _ ((aiu _ _ (aje hne)).trans hu):((s.heap.update it (ak3 (·.setIfInBounds 0 Value.none))).push _).get? h=some u)) (by rw [z];exact ajq _)
 ·refine wpAny_bind (wpAny_isInstance (T:="StopIteration") (b:=true) ⟨o',e1,e2⟩ isSubtype_stop (wpAny_pure (q h' fun b o nb z=>kp b o ?_ (up b o nb z _ _))))
  have lt:b<(s.heap.update it (ak3 (·.setIfInBounds 0 Value.none))).objs.size:=ah4 ((aiu _ _ (aje nb)).trans z)
  exact aii (ah8 lt (by rw [ajz];exact akN _))
theorem abS (hh:A.handled=some (.ref h)) (I ax:Addr) (hne:ax≠I) (hI:h≠I) (u:Obj) (hf:qL u=some .none) (items:Array Value) :
  Walks prog w A I [I,ax,h] [I] items.size (fun i v=>items[i]?=some v) (fun i hp=>hp.IsListIter I ax i/\hp.IsList ax items/\hp.get? h=some u) where
 sub:=fun b hb=>by rw [ah5.mp hb];exact aic
 frame:=fun _ _ _ st k=>⟨st.1.at fun o e=>k I (by simp) o e,st.2.1.at fun o e=>k ax (by simp) o e,k h (by simp) u st.2.2⟩
 item:=fun i s Q E hi st q=>wpAny_pyNext_list_item st.1 st.2.1 (x:=items[i]) (by simp [hi]) fun h' it' sb=>q _ h' s.toks (by simp [hi]) ⟨it',st.2.1.extBut sb.extBut hne,sb.extBut h u hI st.2.2⟩ fun b o nb e=>sb.extBut b o (fun z=>nb (by simp [z])) e
 done:=fun s Q E st q=>v5 hh st.1 st.2.1 (by simp) st.2.2 hf hI fun h' k=>q h' s.toks fun b o nb e=>k b o (fun z=>nb (by simp [z])) e
 self:=fun _ _ _ _ st q=>wpAny_pyIter_listiter st.1 q
end
noncomputable def af5 (K:ahX) (e:Addr):List V->Hp->VK->Prop:=fun xs H Q=>(∃ C o,H e=some (.ext (ExcAt e C o)))/\ahP K xs H Q
theorem ade {X:Cx} {K:ahX} {e:Addr} (hK:X.K=K) (hm:X.A.handled=some (.ref e)):yn X (.builtin "any") (af5 K e):=by
 subst hK
 intro pins s σ H xs us Q I r h
 obtain⟨⟨C,o,he⟩,a,bs,rfl,hq,q⟩:=h
 obtain⟨v,rfl,r1⟩:=vals1 r
 cases r1
 obtain⟨its,rv,p,_⟩:=I.list hq
 have hl:=p.isList
 rw [vJ rv] at hl
 obtain⟨u,hu,_,hf,_⟩:=(I.hok e _ he).1
 have lt:∀ {b:Addr} {o:Obj},s.heap.get? b=some o->b≠s.heap.objs.size:=fun z=>aii (ah4 z)
 have ha:a≠s.heap.objs.size:=by
  obtain⟨o,ho,_⟩:=hl
  exact lt ho
 refine call_any_walk (wpAny_pyIter_list hl ⟨s.heap.objs.size,_,_,_,_,_,_,rfl,abS (show (X.A.in1).handled=some (.ref e) from hm) _ a ha (lt hu) u hf _,⟨⟨_,aik _ rfl,rfl,rfl⟩,hl.at fun o z=>ah0 _ z,ah0 _ hu⟩,qV _ _ _ bs,fun h' tk hk=>?_⟩)
 refine⟨.bl _,H,I.kept (t':=tk) fun b o z=>hk b o (fun y=>lt z (ah5.mp y)) (ah0 _ z),?_,q⟩
 show Value.bool _=Value.bool _
 rw [aid,ahZ,range_any]
structure RoomM (k:Nat) (A:Around):Prop where
 dp:A.depth+3 * k+5<recursionLimit
 un:A.units+16 * k+200<cLine
structure FnOkM (P:Program) (w:World) (K:ahX) (mg:Str->Option Value) (base:Heap) (k:Nat) (f:Addr) (fd:FuncData) (ps:List Str) (sp:Addr->Sp):Prop where
 len:∀ a vs H Q E,sp a vs H Q E->vs.length=ps.length
 run:∀ (A:Around) (outer:List Env) (s:Shared) (H:Hp) (args:Args) (us:List Value) (vs:List V) (Q:VK) (a:Addr),A.handled=some (.ref a)->RoomM k A->Env0 P w K mg base A outer s H->BindsTo s fd args (ps.zip us)->Vals vs us->sp a vs H Q E0 ->
  codeAny (model P w) A (.call (.ref f) args) (CR CX0 outer P w H s Q E0) s
noncomputable def cxM (P:Program) (w:World) (K:ahX) (mg:Str->Option Value) (base:Heap) (N:List Str) (qual:Str) (scope:Scope) (f:Addr) (cd:Value) (A:Around) (outer:List Env) (s:Shared) (H:Hp):Cx :=
 { zO CX0 P w K mg base N qual scope f cd A outer s H E0 with calm:=false,xe:=fun _ _=>False }
theorem agV {P:Program} {w:World} {K:ahX} {mg:Str->Option Value} {base:Heap} {k:Nat} {f:Addr} {name qual:Str} {params:Arguments} {body:List Stmt} {scope:Scope} {dV kV doc pm cdv ct oc:Value} {an od:Option Addr}
  {osl:Array (Option Value)} {N ps:List Str} {sp:Addr->Sp} (lk:K.lookup f=some ⟨oc,od,.func (aiG name qual params body scope dV kV doc pm an cdv ct),osl⟩) (hcd:ajh K cdv qual=true) (S:FnScope N ps scope)
  (len:∀ a vs H Q E,sp a vs H Q E->vs.length=ps.length)
  (hbody:∀ (A:Around) (outer:List Env) (s:Shared) (H:Hp) (vs:List V) (Q:VK) (a:Addr),A.handled=some (.ref a)->RoomM k (A.deeper (envOfC qual scope s.heap.objs.size f cdv))->sp a vs H Q E0 ->
   ∃ t,PSs (cxM P w K mg base N qual scope f cdv A outer s H) body t/\t { nx:=fun _ H'=>Q .non H',rt:=Q } (start N vs) H) :
  FnOkM P w K mg base (k+1) f (aiG name qual params body scope dV kV doc pm an cdv ct) ps sp:=by
 refine⟨len,fun A outer s H args us vs Q a hm hr e0 hb r hsp=>?_⟩
 have KX:K.In s.heap:=e0.mod.kin.keeps fun b o e=>(e0.bs b o e).1
 have hkind:∀ y∈ps.zip us,scope.names.lookup y.1=some .local \/ (scope.names.lookup y.1=some .cell/\((cellsFrom (s.heap.objs.size+1) scope.names []).lookup y.1).isSome=true):=fun⟨n,v⟩ hy=>(S.par n (aj0 hy).1).imp id fun q=>⟨q,aiY _ _ _ (.inl q)⟩
 have rd:RoomM k (A.deeper (envOfC qual scope s.heap.objs.size f cdv)):=⟨by have:=hr.dp;show A.depth+1+3 * k+5<_;omega,by have:=hr.un;show A.units+3+16 * k+200<_;omega⟩
 refine codeAny_call_function (by have:=hr.dp;omega) (KX _ _ lk) rfl S.co S.gen rfl (PySem.W.codeRec_of KX hcd) (hb _ _ _ _ (wpAny_newFunctionEnv_cells S.kind hkind fun env he s1 x=>?_))
 subst he
 refine⟨(e0.mod.nolimit.keeps fun b o e=>(e0.bs b o e).1).keeps x.toInCall.keep,codeAny_func ?_⟩
 obtain⟨t,ht,hq⟩:=hbody A outer s H vs Q a hm rd hsp
 have e1:Env0 P w K mg base { A with handled:=none } outer s H:=⟨e0.frames,e0.mod,e0.bs,e0.bsz,e0.funs,e0.frf,e0.hok,e0.bare⟩
 have J:Inv (zO CX0 P w K mg base N qual scope f cdv { A with handled:=none } outer s H E0) [] (start N vs) H s1:=aaf S rfl e1 (len _ _ _ _ _ hsp) r x
 have I:Inv (cxM P w K mg base N qual scope f cdv A outer s H) [] (start N vs) H s1 :=
  ⟨⟨J.ok.mod,J.ok.kind,J.ok.glob,J.ok.blt,J.ok.above,J.ok.inj,J.ok.has,J.ok.cab,(fun z=>by cases z),akL e0.frames,J.ok.stk,J.ok.exf,J.ok.bs,J.ok.bsz,J.ok.noex,J.ok.exfs,J.ok.funs,J.ok.frf⟩,J.os,J.bare,J.base,J.loc,J.cell,J.free,J.freeC,J.pin,J.hok,J.len⟩
 refine wpAny_mono (ht [] s1 (start N vs) H _ I hq) (fun fl s' hs=>?_) fun e s' hs=>hs.elim
 cases fl with
 | ret u =>
  obtain⟨v,σ',H',Y,rv,q⟩:=hs
  exact⟨v,H',Y.os,Y.bare,Y.base,Y.hok,rv,q⟩
 | next =>
  obtain⟨σ',H',Y,q⟩:=hs
  exact⟨V.non,H',Y.os,Y.bare,Y.base,Y.hok,rfl,q⟩
 | brk=>exact aix hs.choose_spec.choose_spec.2
 | cont=>exact aix hs.choose_spec.choose_spec.2
structure FnInM (P:Program) (w:World) (K:ahX) (mg:Str->Option Value) (base:Heap) (k:Nat) (x:Str) (ps:List Str) (sp:Addr->Sp):Prop where
 ex:∃ (f:Addr) (fd:FuncData),FnOkM P w K mg base k f fd ps sp/\mg x=some (.ref f)/\aip K (.ref f)=true/\Binds K fd ps []
noncomputable def spM {γ:Type} (K:ahX) (n:Nat) (pre:Addr->γ->List DV->Prop) (post:γ->PyData->Prop):Addr->Sp:=fun a=>spD K n (pre a) post
section
variable {P:Program} {w:World} {K:ahX} {mg:Str->Option Value} {base:Heap} {j k n:Nat} {x:Str} {st:Stmt} {ps N:List Str} {γ:Type} {pre:Addr->γ->List DV->Prop} {post:γ->PyData->Prop} {sp:Addr->Sp}
theorem FnInM.mono (h:FnInM P w K mg base j x ps sp) (hk:j<=k):FnInM P w K mg base k x ps sp :=
 let⟨f,fd,a,b,c,d⟩:=h.ex
 ⟨f,fd,⟨a.len,fun A outer s H args us vs Q e hm hr=>a.run A outer s H args us vs Q e hm ⟨by have:=hr.dp;omega,by have:=hr.un;omega⟩⟩,b,c,d⟩
theorem Def.okM (F:Def K mg x st ps) (S:FnScope N ps (zg st)) (hn:ps.length=n)
  (h:∀ (fa:Addr) (cdv:Value) (A:Around) (outer:List Env) (s:Shared) (H:Hp) (a:Addr),A.handled=some (.ref a)->RoomM k (A.deeper (envOfC x (zg st) s.heap.objs.size fa cdv)) ->
   ∃ t,PSs (cxM P w K mg base N x (zg st) fa cdv A outer s H) (zW st) t/\∀ f xs c,xs.length=n->pre a c xs->PSd K f t (jw N xs) { nx:=fun _=>post c .none,rt:=post c }) :
  FnInM P w K mg base (k+1) x ps (spM K n pre post):=by
 obtain⟨fa,fd,F1,F2,F3⟩:=F.ex
 obtain⟨oc,od,kV,doc,pm,an,cdv,ct,osl,rfl,lk,hcd⟩:=F1.ex
 refine⟨fa,_,agV lk hcd S (fun a vs H Q E h=>?_) (fun A outer s H vs Q a hm hr hs=>?_),F3,F1.kp,F2⟩
 ·obtain⟨f,xs,c,r,hl,_⟩:=h
  rw [r.length,hl,hn]
 ·obtain⟨f,xs,c,r,hl,fo,hp,q⟩:=hs
  obtain⟨t,h1,h2⟩:=h fa cdv A outer s H a hm hr
  exact⟨t,h1,h2 f xs c hl hp _ H _ (ji r fo) (fun ρ' σ' H' g' e' p=>q .none .non H' g' (rep_none.mpr rfl) p) (fun d v H' g' r' p=>q d v H' g' r' p) (fun _ _ _ _ _ z=>z.elim) (fun _ _ _ _ _ z=>z.elim)⟩
theorem abh {X:Cx} {a:Addr} {e:Expr} {es:List Expr} {t:TA} {p pos:Pos} (G:FnInM X.prog X.w X.K X.mg X.base k x ps sp) (hr:Room k X.A) (hg:Gl X x) (ha:PA (X.marked (.ref a)) (e :: es) t) (hdb:(x == ("__debug__":Str))=false:=by decide)
  (he:starEach (e :: es) X.env=(false,eval e X.env) :: starEach es X.env:=by rfl) (hpl:(backTo pos (starEach es X.env)).any (·.1)=false:=by rfl):PE (X.marked (.ref a)) (.Call (.Name x p) (e :: es) [] pos) (qq (sp a) [] E0 t):=by
 obtain⟨f,fd,F,hm,hk,hb⟩:=G.ex
 intro pins s σ H Q I h
 refine wpAny_Call_Name_kw (yY I hg hm ?_ hdb)
 refine ajL (h₀:=X.base) I.ok.mod.kin hk (thn (ha pos pins s σ H _ I h) fun us s1 ⟨vs,H1,I1,r,q⟩=>⟨I1.kIn,?_⟩) he hpl
 have q:sp a vs H1 Q E0:=by have:=q;dsimp only at this;rw [aiJ] at this;exact this
 have b2:=hb s1 us I1.kIn (by rw [aiJ,<- r.length];exact F.len _ _ _ _ _ q)
 rw [aiJ] at b2
 refine wpAny_call (codeAny_mono (F.run _ _ s1 H1 ⟨us,[]⟩ us vs Q a rfl ⟨hr.dp,hr.un⟩ I1.env0 b2 r q) fun res s' z=>?_)
 cases res with
 | error e=>exact aix z
 | ok fl =>
  cases fl with
  | ret u=>exact I1.after z
  | next=>exact aix z
  | brk=>exact aix z
  | cont=>exact aix z
end
theorem agW {K:ahX} {f:Fx} {ρ:zl} {P:PyData->Prop} {te:TE} {j:Nat} {a:Addr} {C:Value} {x:XD} (hj:ρ[j]?=some (some (.mon (yz K a C x)))) (h:PEd K f te ρ fun x=>∃ bs:List Bool,x=.list (bs.map .bool)/\P (.bool (bs.any id))):PEd K f (tCB (af5 K a) (z9 te jh)) ρ P:=fun σ H Q e q =>
 h σ H _ e fun x v H1 g1 r1 ⟨bs,ex,p⟩=>by
  subst ex
  obtain⟨u,_,r⟩:=(e.mono g1).get j _ hj
  obtain⟨o,_,hH,_⟩:=r H1 (zo H1 f)
  obtain⟨b,xs,rfl,h1,h2⟩:=rep_list.mp r1
  rw [qk h2] at h1
  exact⟨⟨C,o,hH⟩,b,bs,rfl,(zo H1 f).seq h1,q _ _ H1 g1 (rep_bool.mpr rfl) p⟩
structure TN (K:ahX) (f:Fx) (a:Addr) (as:List Addr) (H2:Hp) (ρ:zl) (R:Option (List (List Int))) (σ:St) (H:Hp):Prop where
 env:EnvOk K (f.withs (a :: as)) ρ σ H
 sm:Same (hide H2 (f.withs (a :: as))) (hide H (f.withs (a :: as)))
 kp:∀ b∈f.M,H b=H2 b
 tab:∀ rows,R=some rows->TabAt H a as rows
end L2
end
section
namespace L2
open PySem PySem.Spec PyProof.Rows
structure GoesW (f:Fx) (As:List Addr) (H2 H':Hp):Prop where
 sm:Same (hide H2 (f.withs As)) (hide H' f)
 ok:FOk f H'
 kp:∀ b∈f.M,H' b=H2 b
structure FnAt (P:Program) (w:World) (K:ahX) (mg:Str->Option Value) (base:Heap) (CX:CXT) (k:Nat) (a:Addr) (sp:Sp):Prop where
 ex:∃ (fd:FuncData) (ps:List Str),FnOk P w K mg base CX k a fd ps sp/\aip K (.ref a)=true/\Binds K fd ps []
end L2
end
section
namespace L2
open PySem PySem.Spec PyProof.Rows
end L2
end
section
namespace L2
open PySem PySem.Spec PyProof.Rows
structure Src (prog:Program) (w:World) (j:Addr) (xs:Array Value) (dep:List Addr) (St:Nat->Heap->Prop):Prop where
 own:j∈dep
 keep:∀ {k:Nat} {h h':Heap},St k h->(∀ c∈dep,∀ o,h.get? c=some o->h'.get? c=some o)->St k h'
 there:∀ {k:Nat} {h:Heap},St k h->∃ o,h.get? j=some o
 item:∀ {A:Around} {E:Value->Shared->Prop} {s:Shared} {k:Nat} {x:Value} {Q:Value->Shared->Prop},St k s.heap->xs[k]?=some x->(∀ h',St (k+1) h'->aj6 j s.heap h'->Q x { s with heap:=h' })->wpAny (model prog w) A (aki (.ref j)) Q E s
 stop:∀ {A:Around} {E:Value->Shared->Prop} {s:Shared} {k:Nat} {Q:Value->Shared->Prop},A.handled=none->St k s.heap->xs[k]?=none->(∀ h' e,Heap.ExtBut j s.heap h'->(∃ o,h'.get? e=some o/\o.cls=.type "StopIteration")->E (.ref e) { s with heap:=h' })->wpAny (model prog w) A (aki (.ref j)) Q E s
section
variable {prog:Program} {w:World} {A:Around} {E:Value->Shared->Prop} {s:Shared}
structure Far (z q1 q2 j1 j2:Addr) (e1 e2:List Addr):Prop where
 q1z:q1≠z
 q2z:q2≠z
 q12:q1≠q2
 j12:j1≠j2
 q1j1:q1≠j1
 q1j2:q1≠j2
 z1:z∉e1
 z2:z∉e2
 o1:q2∉e1
 o2:q2∉e2
 d12:j2∉e1
 d21:j1∉e2
end
end L2
end
section
namespace L2
open PySem PySem.Spec PyProof.Rows
end L2
end
section
namespace L2
open PySem PySem.Spec PyProof.Rows
end L2
end
section
namespace L2
open PySem PySem.Spec PyProof.Rows
section
variable {w:World} {K:ahX} {f:Fx} {Ds:List Addr} {ρ:zl} {cs:List OC} {ts tu:TS} {tt:TT} {te:TE} {R:List PyData->Prop} {i j:Nat}
theorem aes {H H1:Hp} {D:Addr} (fo:FOk f H) (g:Goes f H H1) (hn:H1 D=none):H D=none:=by
 cases e:H D with
 | none=>rfl
 | some o =>
  by_cases hh:f.f=some D \/ D∈f.M
  ·have:∃ o,H1 D=some o:=hh.elim (fun z=>let⟨a,b,h3,_⟩:=g.ok.fd D z;⟨_,h3⟩) fun z=>g.ok.mm D z
   obtain⟨o',h⟩:=this
   rw [hn] at h
   cases h
  ·have:=(zH (g.sm D o (zw hh e))).2
   rw [hn] at this
   cases this
end
noncomputable abbrev FD (K:ahX) (x:Str) (st:Stmt) (f:Addr) (od an:Option Addr) (sl:Array (Option Value)) (oc kV dc pm cd ct:Value):Prop:=aib K mainGlobals x=some (some (.ref f))/\K.lookup f=some ⟨oc,od,.func (aiG x x (yx st) (zW st) (zg st) .none kV dc pm an cd ct),sl⟩/\ajh K cd x=true/\aip K (.ref f)=true
theorem agX {K:ahX} {h:Heap} {mg:Str->Option Value} {x:Str} {st:Stmt} {f:Addr} {od an:Option Addr} {sl:Array (Option Value)} {oc kV dc pm cd ct:Value} (X:K.In h) (G:h.Ns mainGlobals mg) (a:FD K x st f od an sl oc kV dc pm cd ct) {ps:List Str}
  (hb:∀ (kV doc pm:Value) (an:Option Addr) (cdv ct:Value) (us:List Value),us.length=ps.length->bindArgs (aiG x x (yx st) (zW st) (zg st) .none kV doc pm an cdv ct) ⟨us,[]⟩=pure (ps.zip us)):Def K mg x st ps :=
 ⟨f,_,vy a.2.1 a.2.2.1 a.2.2.2,(vy (st:=st) a.2.1 a.2.2.1 a.2.2.2).binds hb,aio X G a.1⟩
end L2
end
section
namespace L2
open PySem PySem.Spec PyProof.Rows
end L2
end
section
open PySem PySem.Spec PyProof.Rows
namespace L2
end L2
end
section
namespace L2
open PySem PySem.Spec PyProof.Rows
section
variable {X:Cx}
theorem acx {K:ahX} {H:Hp}:∀ {ts:List Str} {xs:List V} {us:List Value},Reps K H (ts.map .str) xs->Vals xs us->∃ l:List (Str×Tok),strValues l=us/\l.map (·.1)=ts
 | [],xs,us,r,v=>by
  cases reps_nil.mp r
  cases v
  exact⟨[],rfl,rfl⟩
 | t :: ts,xs,us,r,v=>by
  obtain⟨x,xs',rfl,h1,h2⟩:=reps_cons.mp r
  cases v with
  | cons a b =>
   obtain⟨l,e1,e2⟩:=acx h2 b
   have hx:=rep_str.mp h1
   subst hx
   obtain⟨tk,rfl⟩:=a
   exact⟨(t,tk) :: l,by rw [<-e1];rfl,by rw [<-e2];rfl⟩
noncomputable def rJoin (K:ahX):V->List V->Hp->VK->Prop:=fun x ys H Q=>∃ sep ts y,x=.str sep/\ys=[y]/\Rep K H (.list (ts.map .str)) y/\JoinOk sep ts=true/\Q (.str (akf sep ts)) H
theorem afn:MtR X "str.join" (rJoin X.K):=by
 intro pins s σ H x xs v us Q I rx rv h
 obtain⟨sep,ts,y,rfl,rfl,hl,hok,q⟩:=h
 obtain⟨a,zs,rfl,hq,hr⟩:=rep_list.mp hl
 obtain⟨tk,rfl⟩:=rx
 obtain⟨u,rfl,ru⟩:=rv.one
 cases ru
 obtain⟨its,r,pl,hz⟩:=I.list hq
 obtain⟨l,e1,e2⟩:=acx hr r
 subst e2
 refine SC.join (l:=l) ?_ rfl hok fun t' k=>⟨.str _,H,I.tok _,⟨_,rfl⟩,q⟩
 rw [e1]
 obtain⟨o,n,e,c1,c2,c3⟩:=pl
 exact⟨o,e,c1,n,c3⟩
theorem jV {K:ahX} {o e:Expr} {es:List Expr} {to:TE} {t:TA} {apos cpos:Pos} (hK:X.K=K) (ho:PE X o to) (ha:PA X (e :: es) t)
  (hbase:attributeBase o "join" X.env (eval o X.env)=eval o X.env)
  (hfew:((backTo cpos (starEach (e :: es) X.env)).all (fun x=>!x.1) && (backToKw cpos (keywordEach [] X.env)).all (fun x=>x.1.isSome)
   && decide ((e :: es).length+([]:List Keyword).length+(if ([]:List Keyword).isEmpty then 0 else 1)<30))=true)
  (hline:(apos.endLine == cpos.line)=true) (hs:starEach (e :: es) X.env=(false,eval e X.env) :: starEach es X.env) (hplain:(backTo cpos (starEach es X.env)).any (·.1)=false) :
  PE X (.Call (.Attribute o "join" apos) (e :: es) [] cpos) (tBM K "str" (rJoin K) to t):=by
 subst hK
 exact jG aiD PySem.F.slot_str_join PySem.F.type_str_join afn ho ha hbase hfew hline hs hplain
end
section
variable {K:ahX} {f:Fx} {ρ:zl} {te ta:TE} {P:PyData->Prop}
theorem vO {sep:Str} (h:PEd K f te ρ fun x=>∃ ts:List Str,x=.list (ts.map .str)/\JoinOk sep ts=true/\P (.str (akf sep ts))):PEd K f (tBM K "str" (rJoin K) (tC (.str sep)) (z9 te jh)) ρ P:=fun σ H Q e q=>by
 refine⟨rfl,?_⟩
 refine h σ H _ e fun x v H1 g1 r1 ⟨ts,ex,hok,p⟩=>?_
 subst ex
 exact⟨sep,ts,v,rfl,rfl,Rep.mono (zo _ _) _ _ r1,hok,q _ _ H1 g1 (rep_str.mpr rfl) p⟩
theorem abT (h:PEd K f te ρ fun x=>∃ i:Int,x=.int i/\i.natAbs<2 ^ 100/\P (.str (toString i))):PEd K f (tCB (fun xs H Q=>∃ i,xs=[.int i]/\i.natAbs.log2<1920/\Q (.str (toString i)) H) (z9 te jh)) ρ P:=fun σ H Q e q =>
 h σ H _ e fun x v H1 g1 r1 ⟨i,ex,hi,p⟩=>by
  subst ex
  rw [rep_int.mp r1]
  refine⟨i,rfl,?_,q _ _ H1 g1 (rep_str.mpr rfl) p⟩
  by_cases z:i.natAbs=0
  ·rw [z];decide
  ·have:=(Nat.log2_lt z).mpr (ah8 hi (Nat.pow_le_pow_right (by decide) (show 100<=1920 by decide)))
   exact this
end
end L2
end
section
namespace L2
open PySem PySem.Spec PyProof.Rows
end L2
end
section
namespace L2
open PySem PySem.Spec PyProof.Rows
structure TQ (K:ahX) (f:Fx) (a:Addr) (as:List Addr) (H2:Hp) (ρ:zl) (rows:List (List PyData)) (σ:St) (H:Hp):Prop where
 env:EnvOk K (f.withs (a :: as)) ρ σ H
 sm:Same (hide H2 (f.withs (a :: as))) (hide H (f.withs (a :: as)))
 kp:∀ b∈f.M,H b=H2 b
 top:H a=some (.lst (as.map .ref))
 nd:(a :: as).Nodup
 len:as.length=rows.length
 row:∀ (i:Nat) x r,as[i]?=some x->rows[i]?=some r->∃ vs,H x=some (.lst vs)/\Reps K (hide H (f.withs (a :: as))) r vs
section
variable {X:Cx}
noncomputable def ahB:V->Option Int->Option Int->Hp->VK->Prop:=fun x lo hi H Q=>∃ z,x=.str z/\z.length<=sizeLine/\Q (.str (ah6 z lo hi)) H
theorem part_of {v:Value} {o:Option Int} (h:IsPart v o):∃ q:Option (Int×Tok),v=partValue q/\q.map (·.1)=o:=by
 cases h with
 | none=>exact⟨none,rfl,rfl⟩
 | int n t=>exact⟨some (n,t),rfl,rfl⟩
theorem yE:SlR X ahB:=by
 intro pins s σ H x v vl vu lo hi sl Q I rx hs pl pu h
 obtain⟨z,rfl,hz,q⟩:=h
 obtain⟨t,rfl⟩:=rx
 obtain⟨l,rfl,rfl⟩:=part_of pl
 obtain⟨u,rfl,rfl⟩:=part_of pu
 refine⟨"str",_,F.slot_str_getitem.lookup,typeIs_str s z t,?_⟩
 obtain⟨o,h1,h2,h3⟩:=hs
 refine wpAny_getItem_str_slice (l:=l) (u:=u) (st:=none) ⟨o,h1,h2,h3⟩ rfl ?_
 unfold sliceMade
 split
 ·rename_i c
  have c2:((1:Int) == 1 && (aiv (l.map (·.1)) (u.map (·.1)) 1 z.length).length == z.length)=true:=c
  refine⟨.str z,H,I,⟨t,rfl⟩,?_⟩
  unfold ah6 at q
  rw [if_pos c2] at q
  exact q
 ·rename_i c
  have c2:¬ ((1:Int) == 1 && (aiv (l.map (·.1)) (u.map (·.1)) 1 z.length).length == z.length)=true:=c
  refine⟨?_,.str _,H,I.tok _,⟨_,rfl⟩,?_⟩
  ·refine aih ?_ hz
   show (List.toArray _).size<=_
   rw [aid]
   exact aih (List.length_filterMap_le _ _) (sliceIndices_le _ _ z.length)
  ·unfold ah6 at q
   rw [if_neg c2] at q
   exact q
theorem aan:∀ l:List (Str×Tok),Vals ((l.map (·.1)).map V.str) (strValues l)
 | []=>.nil
 | (x,t) :: l=>.cons ⟨t,rfl⟩ (aan l)
noncomputable def aet:V->List V->Hp->VK->Prop:=fun x ys H Q=>∃ z c,x=.str z/\ys=[.str ⟨#[c]⟩]/\z.length+2<=sizeLine/\∀ p,H p=none->Q (.ref p) (upd H p (.lst ((aiF z ⟨#[c]⟩).map V.str)))
theorem qO {pins:List (Addr×Obj)} {σ:St} {H:Hp} {s:Shared} {Q:VK} (I:Inv X pins σ H s) (l:List (Str×Tok)) {ts:List Str} {k:Nat} (e:l.map (·.1)=ts) (hl:ts.length<=sizeLine) (q:∀ p,H p=none->Q (.ref p) (upd H p (.lst (ts.map V.str)))) :
  EP X pins σ Q (.ref s.heap.objs.size) { s with toks:=k,heap:=s.heap.push { cls:=.type "list",data:=.seq (strValues l).toArray } }:=by
 subst e
 refine⟨.ref s.heap.objs.size,_,I.laid (t':=k) (o:=.lst ((l.map (·.1)).map V.str)) (fun b ob q=>ah0 _ q) (aie _) ?_,rfl,q _ (I.hok.fresh (aie _))⟩
 exact⟨by rw [ahZ];exact hl,_,_,aan l,aik _ rfl⟩
theorem jW:MtR X "str.split" aet:=by
 intro pins s σ H x xs v us Q I rx rv h
 obtain⟨z,c,rfl,rfl,hz,q⟩:=h
 obtain⟨t,rfl⟩:=rx
 obtain⟨u0,rfl,ru⟩:=rv.one
 obtain⟨u,rfl⟩:=ru
 have hy:((⟨#[c]⟩:Str).length == 0)=false:=rfl
 have le:=split_le z ⟨#[c]⟩
 have hx:z.length<=sizeLine:=by omega
 have hT:=typeIs_str s z t
 have sp:∀ l:List Str,aiF z ⟨#[c]⟩=l->l.length<=sizeLine:=fun l e=>by rw [<-e];omega
 cases h1:(decide (z.length<(⟨#[c]⟩:Str).length) || decide (akY z<akY ⟨#[c]⟩)) with
 | true =>
  have e:aiF z ⟨#[c]⟩=[z]:=if_pos h1
  rw [e] at q
  exact call_meets aks hT ako (akg _ _) (meets_str_split_cannot_occur z ⟨#[c]⟩ t u h1) (qO I [(z,t)] rfl (sp _ e) q)
 | false =>
  cases hf:(ain z ⟨#[c]⟩ 0 z.length (z.length+1)).isEmpty with
  | true =>
   have e:aiF z ⟨#[c]⟩=[z]:=(if_neg (ne_true_of_eq_false h1)).trans (if_pos hf)
   rw [e] at q
   exact call_meets aks hT ako (akg _ _) (meets_str_split_not_found z ⟨#[c]⟩ t u h1 hy hf) (qO I [(z,t)] rfl (sp _ e) q)
  | false =>
   have e:aiF z ⟨#[c]⟩=_:=(if_neg (ne_true_of_eq_false h1)).trans (if_neg (ne_true_of_eq_false hf))
   rw [e] at q
   refine call_meets aks hT ako (akg _ _) (meets_str_split_sep z ⟨#[c]⟩ t u h1 hy hf hx (sp _ e)) ?_
   show wants _ _ _ _
   rw [strsFrom_eq]
   exact qO I _ (numbered_texts _ _) (sp _ e) q
noncomputable def acy:V->List V->Hp->VK->Prop:=fun x ys H Q=>∃ z y,x=.str z/\ys=[.str y]/\Q (.bl (akh z y)) H
theorem adf:MtR X "str.startswith" acy:=by
 intro pins s σ H x xs v us Q I rx rv h
 obtain⟨z,y,rfl,rfl,q⟩:=h
 obtain⟨t,rfl⟩:=rx
 obtain⟨u0,rfl,u,rfl⟩:=rv.one
 exact SC.startswith ⟨.bl _,H,I,rfl,q⟩
noncomputable def af6:V->List V->Hp->VK->Prop:=fun x ys H Q=>∃ z y i rest,x=.str z/\ys=[.str y]/\ain z y 0 z.length 1=i :: rest/\Q (.int (i:Nat)) H
theorem afo:MtR X "str.index" af6:=by
 intro pins s σ H x xs v us Q I rx rv h
 obtain⟨z,y,i,rest,rfl,rfl,ho,q⟩:=h
 obtain⟨t,rfl⟩:=rx
 obtain⟨u0,rfl,u,rfl⟩:=rv.one
 exact SC.index ho ⟨.int _,H,I.tok _,⟨_,rfl⟩,q⟩
noncomputable def af7:List V->Hp->VK->Prop:=fun xs H Q=>∃ z n,xs=[.str z]/\intText? z=some n/\z.length<=640/\Q (.int n) H
theorem adg:yn X (.type "int") af7:=by
 intro pins s σ H xs us Q I r h
 obtain⟨z,n,rfl,hn,hl,q⟩:=h
 obtain⟨u0,rfl,u,rfl⟩:=r.one
 exact PySem.W.KIN.call_text hn hl ⟨.int _,H,I.tok _,⟨_,rfl⟩,q⟩
noncomputable def Its (z:Str):It:=⟨fun i _=>i<z.cps.size,fun i H x H'=>H'=H/\∃ c,z.cps[i]?=some c/\x=.str ⟨#[c]⟩,fun i _=>z.cps.size<=i⟩
theorem afp {P:Program} {w:World} {K:ahX} {tg:Expr} (z:Str) (t:Tok) (it:Addr):Turn P w K tg (Its z) [it] it (fun i h=>h.IsStrIter it "str_ascii_iterator" z t i) where
 mem:=ah5.mpr rfl
 obj:=fun i h st b hb=>by
  cases ah5.mp hb
  obtain⟨o,e,c,d⟩:=st
  exact⟨o,e,fun v q=>by rw [d] at q;cases q⟩
 keep:=fun i h h' ⟨o,e,r⟩ k=>⟨o,k it (ah5.mpr rfl) o e,r⟩
 item:=by
  intro X hP hw hK hc i pins s σ H E I hf st hg
  subst hP hw hK
  have hi:i<z.cps.size:=hg
  obtain⟨f0,f1,f2,f3,f4,f5⟩:=hf it (ah5.mpr rfl)
  have e0:z.cps[i]?=some z.cps[i]:=by simp [hi]
  refine wpAny_pyNext_ascii_item st (c:=z.cps[i]) e0 fun h' st' sb=>?_
  have I1:Inv X pins σ H { s with heap:=h',toks:=s.toks+1 }:=I.turned (t':=s.toks+1) (fun b o hb q=>sb.extBut b o hb q) f0 f1 f3 f4 f5
  obtain⟨o,e,c,d⟩:=id st'
  exact⟨_,rfl,aca (s:={ s with heap:=h',toks:=s.toks+1 }) e c d (by decide) ⟨.str ⟨#[z.cps[i]]⟩,H,I1,⟨_,rfl⟩,⟨rfl,_,e0,rfl⟩,st',fun b hb=>(hf b hb).1⟩⟩
 done:=by
  intro X hP hw hK hc i pins s σ H E I hf st hg
  subst hP hw hK
  have hi:z.cps.size<=i:=hg
  obtain⟨f0,f1,f2,f3,f4,f5⟩:=hf it (ah5.mpr rfl)
  exact wpAny_pyNext_ascii_end (I.ok.hd hc) st (by simp [hi]) fun h' eb=>⟨rfl,I.turned (t':=s.toks) (fun b o hb q=>eb b o hb q) f0 f1 f3 f4 f5⟩
 self:=fun _ _ _ _ _ st h=>wpAny_pyIter_striter_ascii st h
theorem afq {P:Program} {w:World} {K:ahX} {tg:Expr} (z:Str) (t:Tok) (it:Addr):Turn P w K tg (Its z) [it] it (fun i h=>h.IsStrIter it "str_iterator" z t i) where
 mem:=ah5.mpr rfl
 obj:=fun i h st b hb=>by
  cases ah5.mp hb
  obtain⟨o,e,c,d⟩:=st
  exact⟨o,e,fun v q=>by rw [d] at q;cases q⟩
 keep:=fun i h h' ⟨o,e,r⟩ k=>⟨o,k it (ah5.mpr rfl) o e,r⟩
 item:=by
  intro X hP hw hK hc i pins s σ H E I hf st hg
  subst hP hw hK
  have hi:i<z.cps.size:=hg
  obtain⟨f0,f1,f2,f3,f4,f5⟩:=hf it (ah5.mpr rfl)
  have e0:z.cps[i]?=some z.cps[i]:=by simp [hi]
  refine wpAny_pyNext_wide_item st (c:=z.cps[i]) e0 fun h' st' sb=>?_
  have I1:Inv X pins σ H { s with heap:=h',toks:=s.toks+1 }:=I.turned (t':=s.toks+1) (fun b o hb q=>sb.extBut b o hb q) f0 f1 f3 f4 f5
  obtain⟨o,e,c,d⟩:=id st'
  exact⟨_,rfl,aca (s:={ s with heap:=h',toks:=s.toks+1 }) e c d (by decide) ⟨.str ⟨#[z.cps[i]]⟩,H,I1,⟨_,rfl⟩,⟨rfl,_,e0,rfl⟩,st',fun b hb=>(hf b hb).1⟩⟩
 done:=by
  intro X hP hw hK hc i pins s σ H E I hf st hg
  subst hP hw hK
  have hi:z.cps.size<=i:=hg
  obtain⟨f0,f1,f2,f3,f4,f5⟩:=hf it (ah5.mpr rfl)
  exact wpAny_pyNext_wide_end (I.ok.hd hc) st (by simp [hi]) fun h' eb=>⟨rfl,I.turned (t':=s.toks) (fun b o hb q=>eb b o hb q) f0 f1 f3 f4 f5⟩
 self:=fun _ _ _ _ _ st h=>wpAny_pyIter_striter_wide st h
noncomputable def ahC (tl:TE):TI:=fun σ H R=>tl σ H fun x H1=>∃ z,x=.str z/\R (Its z) H1
theorem abU {tg l:Expr} {tl:TE} (hl:PE X l tl):PI X tg l (ahC tl):=by
 intro pins s σ H R I h
 refine thn (hl pins s σ H _ I h) fun v s1 ⟨x,H1,I1,r1,z,e,q⟩=>?_
 subst e
 obtain⟨t,rfl⟩:=r1
 have fp:∀ b∈[s1.heap.objs.size],qg X pins H1 b:=fun b hb=>by
  cases ah5.mp hb
  exact I1.fpOk (aie _) (I1.hok.fresh (aie _))
 cases ha:z.cps.all (·<128) with
 | false=>exact wpAny_pyIter_wide ha ⟨s1.heap.objs.size,[s1.heap.objs.size],_,_,H1,rfl,I1.kept (t':=s1.toks) fun b o e=>ah0 _ e,afq z t _,⟨_,aik _ rfl,rfl,rfl⟩,fp,q⟩
 | true=>exact wpAny_pyIter_ascii ha ⟨s1.heap.objs.size,[s1.heap.objs.size],_,_,H1,rfl,I1.kept (t':=s1.toks) fun b o e=>ah0 _ e,afp z t _,⟨_,aik _ rfl,rfl,rfl⟩,fp,q⟩
end
section
variable {K:ahX} {f:Fx} {ρ:zl} {te ta tb:TE} {P:PyData->Prop}
theorem ym (h:PEd K f ta ρ fun x=>∃ i,x=.str i/\PEd K f tb ρ fun y=>∃ j,y=.str j/\i.length+j.length<=sizeLine/\P (.str (i++j))) :
  PEd K f (tOp (fun x y H Q=>∃ i j,x=.str i/\y=.str j/\i.length+j.length<=sizeLine/\Q (.str (i++j)) H) ta tb) ρ P :=
 vA (h.imp fun x ⟨i,ex,h2⟩=>h2.imp fun y ⟨j,ey,hl,p⟩ v w H Q fo rx ry q=>by
  subst ex ey
  exact⟨i,j,rep_str.mp rx,rep_str.mp ry,hl,q _ _ H (.refl fo) (rep_str.mpr rfl) p⟩)
theorem aeu (h:PEd K f ta ρ fun x=>∃ z,x=.str z/\PEd K f tb ρ fun y=>∃ i c,y=.int i/\z.length<=sizeLine/\atI z.cps.toList i=some c/\P (.str ⟨#[c]⟩)):PEd K f (tOp ahi ta tb) ρ P :=
 vA (h.imp fun x ⟨z,ex,h2⟩=>h2.imp fun y ⟨i,c,ey,hl,hc,p⟩ v w H Q fo rx ry q=>by
  subst ex ey
  exact⟨z,i,c,rep_str.mp rx,rep_int.mp ry,hl,hc,q _ _ H (.refl fo) (rep_str.mpr rfl) p⟩)
theorem ahD (h:PEd K f ta ρ fun x=>∃ i,x=.str i/\PEd K f tb ρ fun y=>∃ j,y=.str j/\P (.bool (!(ain j i 0 j.length 1).isEmpty))) :
  PEd K f (tOp (fun x y H Q=>∃ i j,x=.str i/\y=.str j/\Q (.bl (!(ain j i 0 j.length 1).isEmpty)) H) ta tb) ρ P :=
 vA (h.imp fun x ⟨i,ex,h2⟩=>h2.imp fun y ⟨j,ey,p⟩ v w H Q fo rx ry q=>by
  subst ex ey
  exact⟨i,j,rep_str.mp rx,rep_str.mp ry,q _ _ H (.refl fo) (rep_bool.mpr rfl) p⟩)
theorem aev (h:PEd K f ta ρ fun x=>∃ i,x=.str i/\PEd K f tb ρ fun y=>∃ j,y=.str j/\P (.bool (!(!(ain j i 0 j.length 1).isEmpty)))) :
  PEd K f (tOp (fun x y H Q=>∃ i j,x=.str i/\y=.str j/\Q (.bl (!(!(ain j i 0 j.length 1).isEmpty))) H) ta tb) ρ P :=
 vA (h.imp fun x ⟨i,ex,h2⟩=>h2.imp fun y ⟨j,ey,p⟩ v w H Q fo rx ry q=>by
  subst ex ey
  exact⟨i,j,rep_str.mp rx,rep_str.mp ry,q _ _ H (.refl fo) (rep_bool.mpr rfl) p⟩)
theorem vP (h:PEd K f te ρ fun x=>∃ z,x=.str z/\z.length<=sizeLine/\P (.int z.length)):PEd K f (tCB (fun xs H Q=>∃ z,xs=[.str z]/\z.length<=sizeLine/\Q (.int z.length) H) (z9 te jh)) ρ P:=fun σ H Q e q =>
 h σ H _ e fun x v H1 g1 r1 ⟨z,ex,hl,p⟩=>by
  subst ex
  rw [rep_str.mp r1]
  exact⟨z,rfl,hl,q _ _ H1 g1 (rep_int.mpr rfl) p⟩
theorem agY (h:PEd K f te ρ fun x=>∃ z n,x=.str z/\intText? z=some n/\z.length<=640/\P (.int n)):PEd K f (tCB af7 (z9 te jh)) ρ P:=fun σ H Q e q =>
 h σ H _ e fun x v H1 g1 r1 ⟨z,n,ex,hn,hl,p⟩=>by
  subst ex
  rw [rep_str.mp r1]
  exact⟨z,n,rfl,hn,hl,q _ _ H1 g1 (rep_int.mpr rfl) p⟩
theorem yF {tl th:TO} (h:PEd K f te ρ fun x=>∃ z,x=.str z/\z.length<=sizeLine/\POd K f tl ρ fun lo=>POd K f th ρ fun hi=>P (.str (ah6 z lo hi))):PEd K f (tSl ahB te tl th) ρ P:=fun σ H Q e q =>
 h σ H _ e fun x v H1 g1 r1 ⟨z,ex,hl,h2⟩=>h2 σ H1 _ (e.mono g1) fun lo H2 g2 h3=>h3 σ H2 _ ((e.mono g1).mono g2) fun hi H3 g3 p=>by
  subst ex
  exact⟨z,rep_str.mp r1,hl,q _ _ H3 (g1.trans (g2.trans g3)) (rep_str.mpr rfl) p⟩
noncomputable def qm (z:Str):List PyData:=z.cps.toList.map fun c=>.str ⟨#[c]⟩
theorem aew {R:List PyData->Prop} (h:PEd K f te ρ fun x=>∃ z,x=.str z/\R (qm z)):PId K f (ahC te) ρ R:=fun σ H C e q=>h σ H _ e fun x v H1 g1 r1 ⟨z,ex,p⟩=>by
 subst ex
 have hv:=rep_str.mp r1
 refine⟨z,hv,q _ _ H1 g1 ⟨fun f' H' i d fo sm hd=>?_,fun f' H' _ sm=>?_⟩ p⟩
 ·unfold qm at hd
  rw [ah9] at hd
  cases hc:z.cps.toList[i]? with
  | none=>rw [hc] at hd;cases hd
  | some c =>
   rw [hc] at hd
   cases hd
   have hi:i<z.cps.toList.length:=(ah1.mp hc).1
   have hc2:z.cps[i]?=some c:=by rw [<-hc];simp
   refine⟨show i<z.cps.size by simpa using hi,fun y H3 hy=>?_⟩
   obtain⟨rfl,c',e1,rfl⟩:=hy
   rw [hc2] at e1
   cases e1
   exact⟨.refl fo,rep_str.mpr rfl⟩
 ·show z.cps.size<=(qm z).length
  unfold qm
  rw [ahZ]
  simp
theorem aao {H:Hp}:∀ ts:List Str,Reps K H (ts.map .str) (ts.map V.str)
 | []=>reps_nil.mpr rfl
 | t :: ts=>reps_cons.mpr ⟨_,_,rfl,rep_str.mpr rfl,aao ts⟩
theorem qA {c:Nat} {P:List PyData->Prop} (h:PEd K f te ρ fun x=>∃ z,x=.str z/\z.length+2<=sizeLine/\P ((aiF z ⟨#[c]⟩).map .str)):PEdO K f (tBM K "str" aet te (z9 (tC (.str ⟨#[c]⟩)) jh)) ρ P:=fun σ H Q e q =>
 h σ H _ e fun x v H1 g1 r1 ⟨z,ex,hl,p⟩=>by
  subst ex
  have hv:=rep_str.mp r1
  subst hv
  refine⟨rfl,z,c,rfl,rfl,hl,fun D hn=>?_⟩
  have hD:H D=none:=aes e.fd g1 hn
  exact q _ D _ _ (g1.trans (.of_same (yh hn _) g1.ok)) hD zr (aao _) p
theorem aex {y:Str} (h:PEd K f te ρ fun x=>∃ z,x=.str z/\P (.bool (akh z y))):PEd K f (tBM K "str" acy te (z9 (tC (.str y)) jh)) ρ P:=fun σ H Q e q =>
 h σ H _ e fun x v H1 g1 r1 ⟨z,ex,p⟩=>by
  subst ex
  have hv:=rep_str.mp r1
  subst hv
  exact⟨rfl,z,y,rfl,rfl,q _ _ H1 g1 (rep_bool.mpr rfl) p⟩
theorem agZ {z:Str} (h:PEd K f te ρ fun x=>∃ y i rest,x=.str y/\ain z y 0 z.length 1=i :: rest/\P (.int (i:Nat))):PEd K f (tBM K "str" af6 (tC (.str z)) (z9 te jh)) ρ P:=fun σ H Q e q=>by
 refine⟨rfl,h σ H _ e fun x v H1 g1 r1 ⟨y,i,rest,ex,ho,p⟩=>?_⟩
 subst ex
 have hv:=rep_str.mp r1
 subst hv
 exact⟨z,y,i,rest,rfl,rfl,ho,q _ _ H1 g1 (rep_int.mpr rfl) p⟩
end
noncomputable def va (z:Str) (n:Int):Str:=if n<1 then ajU else if (n == 1 || z.length == 0)=true then z else ⟨(aiS n.toNat z.cps).foldl (·++·) #[]⟩
theorem vQ (a:Array Nat):∀ (m:Nat) (acc:Array Nat),((aiS m a).foldl (·++·) acc).size=acc.size+m * a.size/\∀ c∈((aiS m a).foldl (·++·) acc).toList,c∈acc.toList \/ c∈a.toList
 | 0,acc=>⟨by simp,fun c h=>.inl h⟩
 | m+1,acc=>by
  obtain⟨h1,h2⟩:=vQ a m (acc++a)
  rw [List.replicate_succ,List.foldl_cons]
  refine⟨by rw [h1,Array.size_append,ak8];omega,fun c hc=>?_⟩
  rcases h2 c hc with h | h
  ·rw [akZ,ail] at h
   exact h
  ·exact .inr h
theorem vR {z:Str} {n:Int} (h:0<=n):(va z n).length=z.length * n.toNat:=by
 unfold va
 split
 ·rename_i h1
  have:n=0:=by omega
  subst this
  show 0=z.length * 0
  rfl
 ·split
  ·rename_i h1 h2
   rcases Bool.or_eq_true_iff.mp h2 with h3 | h3
   ·have:n=1:=by simpa using h3
    subst this
    show z.length=z.length * 1
    omega
   ·have:z.length=0:=by simpa using h3
    rw [this,Nat.zero_mul]
  ·show Array.size _=z.cps.size * n.toNat
   rw [(vQ z.cps n.toNat #[]).1,Nat.mul_comm]
   simp
theorem abi {z:Str} {n:Int} {c:Nat} (h:c∈(va z n).cps.toList):c∈z.cps.toList:=by
 unfold va at h
 split at h
 ·cases h
 ·split at h
  ·exact h
  ·rcases (vQ z.cps n.toNat #[]).2 c h with h | h
   ·cases h
   ·exact h
noncomputable def af8:R2:=fun x y H Q=>∃ z n,x=.str z/\y=.int n/\0<=n/\n<2 ^ 20/\z.length<=1/\Q (.str (va z n)) H
theorem aaL {X:Cx}:OpR X (binaryOp .Mult) af8:=by
 intro pins s σ H x y v u Q I rx ry h
 obtain⟨z,n,rfl,rfl,h0,h1,hz,q⟩:=h
 obtain⟨t,rfl⟩:=rx
 obtain⟨t',rfl⟩:=ry
 have hl:=vR (z:=z) h0
 refine PySem.P.mul_str ?_ (fun a b c=>?_) (fun a b=>?_) ?_
 ·rw [decide_eq_false (show ¬ n < -(2 ^ 63:Int) by omega),decide_eq_false (show ¬ n >= 2 ^ 63 by omega)]
  rfl
 ·have:(1:Int)<=(2 ^ 63 - 1) / n:=(Int.le_ediv_iff_mul_le (by omega)).mpr (by omega)
  omega
 ·unfold ak0
  refine decide_eq_false ?_
  have:z.length * n.toNat<=1 * n.toNat:=ajX _ hz
  rw [sizeLine_eq]
  omega
 ·unfold va at q hl
  split
  ·rename_i c
   rw [if_pos c] at q
   exact⟨by decide,.str _,H,I.tok _,⟨_,rfl⟩,q⟩
  ·rename_i c
   rw [if_neg c] at q hl
   split
   ·rename_i c2
    rw [if_pos c2] at q
    exact⟨.str z,H,I,⟨t,rfl⟩,q⟩
   ·rename_i c2
    rw [if_neg c2] at q hl
    refine⟨?_,.str _,H,I.tok _,⟨_,rfl⟩,q⟩
    show Str.length _<=_
    rw [hl,sizeLine_eq]
    have:z.length * n.toNat<=1 * n.toNat:=ajX _ hz
    omega
section
variable {K:ahX} {f:Fx} {ρ:zl} {te ta tb:TE} {P:PyData->Prop}
theorem abV (h:PEd K f ta ρ fun x=>∃ z,x=.str z/\PEd K f tb ρ fun y=>∃ n,y=.int n/\0<=n/\n<2 ^ 20/\z.length<=1/\P (.str (va z n))):PEd K f (tOp af8 ta tb) ρ P :=
 vA (h.imp fun x ⟨z,ex,h2⟩=>h2.imp fun y ⟨n,ey,h0,h1,hz,p⟩ v w H Q fo rx ry q=>by
  subst ex ey
  exact⟨z,n,rep_str.mp rx,rep_int.mp ry,h0,h1,hz,q _ _ H (.refl fo) (rep_str.mpr rfl) p⟩)
theorem qB (x y:Str):aiK (.str x) (.str y)=decide (x=y):=by
 show (x == y)=_
 rw [ajp,beq_iff_eq,decide_eq_true_eq]
end
theorem aey {X:Cx} {x z:Str} {t:Tok} {pos:Pos} (hg:Gl X x) (hm:X.mg x=some (.str z t)) (hd:(x == ("__debug__":Str))=false:=by decide):PE X (.Name x pos) (tC (.str z)):=yd hg hm ⟨t,rfl⟩ hd
noncomputable def qC (w:World) (K:ahX) (f:Fx) (Ds:List Addr) (E:XK) (ts:TS) (ρ:zl) (cs:List OC) (O:MEnds) (Z:Value->XD->Prop):Prop:=Sep f Ds->∀ (σ:St) (H H2:Hp) (N:Ends),CM w K f Ds H2 ρ cs σ H ->
 (∀ ρ' cs' σ' H',CM w K f Ds H2 ρ' cs' σ' H'->O.nx ρ' cs'->N.nx σ' H')->(∀ d v ρ' cs' σ' H',CM w K f Ds H2 ρ' cs' σ' H'->Rep K (hide H' f) d v->O.rt d->N.rt v H') ->
 (∀ ρ' cs' σ' H',CM w K f Ds H2 ρ' cs' σ' H'->O.bk ρ' cs'->N.bk σ' H')->(∀ ρ' cs' σ' H',CM w K f Ds H2 ρ' cs' σ' H'->O.ct ρ' cs'->N.ct σ' H') ->
 (∀ C o x ρ' cs' σ' H',CM w K f Ds H2 ρ' cs' σ' H'->FieldIs K (hide H' f) o x->Z C x->E C o H')->ts N σ H
section
variable {w:World} {K:ahX} {f:Fx} {Ds:List Addr} {E:XK} {ρ:zl} {cs:List OC} {ts tu:TS} {tt:TT} {te:TE} {wi:TI} {g:TG} {O:MEnds} {Z:Value->XD->Prop} {i j:Nat}
theorem afr {D:DEnds} (h:qC w K f [] E ts ρ [] { nx:=fun ρ' _=>D.nx ρ',rt:=D.rt,bk:=fun ρ' _=>D.bk ρ',ct:=fun ρ' _=>D.ct ρ' } Z):PSf K f E ts ρ D Z:=fun σ H N e n r b k z=>by
 have gg:∀ {ρ':zl} {cs':List OC} {σ':St} {H':Hp},CM w K f [] H ρ' cs' σ' H'->Goes f H H':=fun x=>⟨x.sm,x.env.fd,x.kp⟩
 refine h ⟨List.nodup_nil,(fun _ z=>nomatch z),(fun _ z=>nomatch z)⟩ σ H H N ⟨e,Same.refl _,fun _ _=>rfl,rfl,(fun i D c z=>nomatch z)⟩ ?_ ?_ ?_ ?_ ?_
 ·exact fun ρ' cs' σ' H' x p=>n ρ' σ' H' (gg x) x.env p
 ·exact fun d v ρ' cs' σ' H' x r' p=>r d v H' (gg x) r' p
 ·exact fun ρ' cs' σ' H' x p=>b ρ' σ' H' (gg x) x.env p
 ·exact fun ρ' cs' σ' H' x p=>k ρ' σ' H' (gg x) x.env p
 ·exact fun C o x ρ' cs' σ' H' y fi p=>z C o x H' (gg y) fi p
theorem ag0 (h:PSm w K f Ds ts ρ cs O):qC w K f Ds E ts ρ cs O Z:=fun se σ H H2 N x n r b k _=>h se σ H H2 N x n r b k
theorem afs (h:PSf K (f.withs Ds) E ts ρ { nx:=fun ρ'=>O.nx ρ' cs,rt:=O.rt,bk:=fun ρ'=>O.bk ρ' cs,ct:=fun ρ'=>O.ct ρ' cs } Z):qC w K f Ds E ts ρ cs O Z:=fun se σ H H2 N x n r b k z=>by
 refine h σ H N x.env ?_ ?_ ?_ ?_ ?_
 ·exact fun ρ' σ' H' g' e' p=>n ρ' cs σ' H' (x.go g' e') p
 ·exact fun d v H' g' r' p=>r d v ρ cs σ H' (x.go g' (x.env.mono g')) (Rep.mono same_withs d v r') p
 ·exact fun ρ' σ' H' g' e' p=>b ρ' cs σ' H' (x.go g' e') p
 ·exact fun ρ' σ' H' g' e' p=>k ρ' cs σ' H' (x.go g' e') p
 ·exact fun C o y H' g' fi p=>z C o y ρ cs σ H' (x.go g' (x.env.mono g')) (FieldIs.mono same_withs fi) p
theorem abW (h:qC w K f Ds E ts ρ cs { O with nx:=fun ρ' cs'=>qC w K f Ds E tu ρ' cs' O Z } Z):qC w K f Ds E (vo ts tu) ρ cs O Z:=fun se σ H H2 N x n r b k z =>
 h se σ H H2 _ x (fun ρ' cs' σ' H' x' p=>p se σ' H' H2 N x' n r b k z) r b k z
theorem ahE (h:PTm w K f Ds tt ρ cs fun b=>if b=true then qC w K f Ds E ts ρ cs O Z else qC w K f Ds E tu ρ cs O Z):qC w K f Ds E (abw tt ts tu) ρ cs O Z:=fun se σ H H2 N x n r b k z =>
 h se σ H H2 _ x fun q H1 g1 p=>by
  have x1:=x.go g1 (x.env.mono g1)
  cases q with
  | true=>rw [if_pos rfl] at p ⊢;exact p se σ H1 H2 N x1 n r b k z
  | false=>rw [if_neg ahW] at p ⊢;exact p se σ H1 H2 N x1 n r b k z
theorem ag1 (h:PId K (f.withs Ds) wi ρ fun ds=>∃ J:Nat->zl->List OC->Prop,J 0 ρ cs /\
   (∀ (i:Nat) d ρ' cs',ds[i]?=some d->J i ρ' cs'->PGd K (f.withs Ds) g d ρ' fun ρ2=>qC w K f Ds E ts ρ2 cs' { O with nx:=J (i+1),ct:=J (i+1),bk:=O.nx } Z)/\∀ ρ' cs',J ds.length ρ' cs'->O.nx ρ' cs') :
  qC w K f Ds E (adC wi g ts) ρ cs O Z:=fun se σ H H2 N x n r b k z=>h σ H _ x.env fun ds J H1 g1 it ⟨Jv,j0,js,jd⟩=>by
 have x1:=x.go g1 (x.env.mono g1)
 refine⟨fun i m σ' H'=>∃ ρ' cs',CM w K f Ds H2 ρ' cs' σ' H'/\Same (hide H1 (f.withs Ds)) (hide H' (f.withs Ds))/\Jv i ρ' cs'/\m+i=ds.length,⟨ds.length,ρ,cs,x1,Same.refl _,j0,rfl⟩,?_⟩
 rintro i m σ' H' ⟨ρ',cs',x',sm',p,hm⟩
 rcases Nat.lt_or_ge i ds.length with hi | hi
 ·obtain⟨hgo,hy⟩:=it.go (f.withs Ds) H' i _ x'.env.fd sm' (ah2 hi)
  refine .inr ⟨hgo,fun σ2 H3=>∃ ρ2 cs2,CM w K f Ds H2 ρ2 cs2 σ2 H3/\Same (hide H1 (f.withs Ds)) (hide H3 (f.withs Ds))/\Jv (i+1) ρ2 cs2,fun σ2 H3 ⟨ρ2,cs2,e2,g2,p2⟩=>⟨m - 1,by omega,ρ2,cs2,e2,g2,p2,by omega⟩,fun v H3 hx=>?_⟩
  obtain⟨g3,r3⟩:=hy v H3 hx
  have x3:=x'.go g3 (x'.env.mono g3)
  refine js i _ ρ' cs' (ah2 hi) p σ' H3 v _ x3.env r3 fun ρ2 σ2 H4 g4 e4 p4=>?_
  have x4:=x3.go g4 e4
  have sm4:=(sm'.trans g3.sm).trans g4.sm
  refine p4 se σ2 H4 H4 _ x4.self ?_ ?_ ?_ ?_ ?_
  ·exact fun ρ5 cs5 σ5 H5 x5 p5=>⟨ρ5,cs5,x4.trans x5,sm4.trans x5.sm,p5⟩
  ·exact fun d v ρ5 cs5 σ5 H5 x5 r5 p5=>r d v ρ5 cs5 σ5 H5 (x4.trans x5) r5 p5
  ·exact fun ρ5 cs5 σ5 H5 x5 p5=>n ρ5 cs5 σ5 H5 (x4.trans x5) p5
  ·exact fun ρ5 cs5 σ5 H5 x5 p5=>⟨ρ5,cs5,x4.trans x5,sm4.trans x5.sm,p5⟩
  ·exact fun C o y ρ5 cs5 σ5 H5 x5 fi p5=>z C o y ρ5 cs5 σ5 H5 (x4.trans x5) fi p5
 ·have ei:i=ds.length:=by omega
  subst ei
  exact .inl ⟨it.st (f.withs Ds) H' x'.env.fd sm',n ρ' cs' σ' H' x' (jd ρ' cs' p)⟩
theorem ag2 (h:agI w K (f.withs Ds) te ρ fun c=>i<ρ.length/\∀ D,qC w K f (Ds++[D]) E ts (ρ.set i (some (.own (f.M.length+Ds.length)))) (cs++[c]) { nx:=fun ρ' cs'=>O.nx (ρ'.map (yH (f.M.length+Ds.length))) (cs'.take Ds.length),rt:=O.rt,bk:=fun ρ' cs'=>O.bk (ρ'.map (yH (f.M.length+Ds.length))) (cs'.take Ds.length),ct:=fun ρ' cs'=>O.ct (ρ'.map (yH (f.M.length+Ds.length))) (cs'.take Ds.length) } Z) :
  qC w K f Ds E (vo (qI te (qa i)) ts) ρ cs O Z:=fun se σ H H2 N x n r b k z =>
 h σ H _ x.env fun c D H1 g1 hn ho ⟨hi,p⟩=>by
  refine p D (se.more x.env.fd hn) _ H1 H1 N (x.more g1 hn ho hi) ?_ ?_ ?_ ?_ ?_
  ·exact fun ρ' cs' σ' H' y q=>n _ _ σ' H' (x.less g1 hn y) q
  ·exact fun d v ρ' cs' σ' H' y r' q=>r d v _ _ σ' H' (x.less g1 hn y) r' q
  ·exact fun ρ' cs' σ' H' y q=>b _ _ σ' H' (x.less g1 hn y) q
  ·exact fun ρ' cs' σ' H' y q=>k _ _ σ' H' (x.less g1 hn y) q
  ·exact fun C o a ρ' cs' σ' H' y fi q=>z C o a _ _ σ' H' (x.less g1 hn y) fi q
theorem aft (h:PSf K f E ts (ρ.map (freed f.M.length cs)) { nx:=fun _=>False,rt:=O.rt } Z):qC w K f Ds E ts ρ cs O Z:=fun se σ H H2 N x n r b k z=>by
 refine h σ H N (x.free se) (fun _ _ _ _ _ q=>q.elim) ?_ (fun _ _ _ _ _ q=>q.elim) (fun _ _ _ _ _ q=>q.elim) ?_
 ·exact fun d v H' g' r' p=>r d v ρ cs σ H' (x.goF se g') r' p
 ·exact fun C o y H' g' fi p=>z C o y ρ cs σ H' (x.goF se g') fi p
end
section
variable {X:Cx} {k:Nat} {f:Addr} {fd:FuncData} {ps:List Str} {sp:Sp} {t:TA} {fx y c:Str} {e0:Expr} {es:List Expr} {p py cpos spos pos tp kp:Pos} {x1 kk:Nat} {rest:List Stmt} {tr:TS} {i:Nat}
noncomputable def af9 (sp:Sp) (t:TA) (c:Str) (i:Nat) (tr:TS):XK->TS:=fun E D σ H=>t σ H fun vs H1=>sp vs H1 (fun v H2=>∀ q,H2 q=none->tr D (σ.set i (some (.ref q))) (upd H2 q (.tup [.str c,v]))) E
theorem afu (F:FnOk X.prog X.w X.K X.mg X.base (CXf X.prog X.w) k f fd ps sp) (hr:Room k X.A) (hgf:Gl X fx) (hmf:X.mg fx=some (.ref f)) (hk:aip X.K (.ref f)=true) (hb:L2.Binds X.K fd ps [])
  (ha:PA X.nox (e0 :: es) t) (hN:X.N.Nodup) (hi:X.N[i]?=some y) (hy:Loc X.env.scope y) (hfy:X.fn y=true \/ X.env.scope.names.lookup y=some .local) (hR:PSs X.nox rest tr)
  (hdf:(fx == ("__debug__":Str))=false:=by decide) (he:starEach (e0 :: es) X.env=(false,eval e0 X.env) :: starEach es X.env:=by rfl) (hpl:(backTo cpos (starEach es X.env)).any (·.1)=false:=by rfl)
  (hst:starEach [.Constant (.str c) kk kp,.Call (.Name fx p) (e0 :: es) [] cpos] X.env=[(false,eval (.Constant (.str c) kk kp) X.env),(false,eval (.Call (.Name fx p) (e0 :: es) [] cpos) X.env)]:=by rfl)
  (hsw:swapsWith (.Tuple [.Constant (.str c) kk kp,.Call (.Name fx p) (e0 :: es) [] cpos] x1 tp) (some (.Name y py)) spos.line X.env=pure false:=by rfl) :
  PBy X (.Assign [.Name y py] (.Tuple [.Constant (.str c) kk kp,.Call (.Name fx p) (e0 :: es) [] cpos] x1 tp) spos :: rest) (af9 sp t c i tr):=by
 intro pins s σ H D E I h
 refine wpAny_execs_cons (wpAny_Assign_Name (wpAny_Tuple_spliced ?_) hsw)
 rw [hst]
 show wpAny _ _ (spliced ((false,eval (.Constant (.str c) kk kp) X.env) :: (false,eval (.Call (.Name fx p) (e0 :: es) [] cpos) X.env) :: [])) _ _ s
 refine akb (Calls.Constant_str (akb ?_))
 refine wpAny_mono (afl F hr hgf hmf hk hb ha (I.tok _) h hdf he hpl) (fun u s2 z=>?_) fun _ _ z=>z
 obtain⟨v,H2,I2,r2,q2⟩:=z
 refine Calls.spliced_nil ⟨by show 2<=sizeLine;decide,?_⟩
 have hf:H2 s2.heap.objs.size=none:=I2.hok.fresh (aie _)
 have I3:=I2.laid (t':=s2.toks) (o:=.tup [.str c,v]) (h':=s2.heap.push { cls:=.type "tuple",data:=.seq #[.str c s.toks,u] }) (fun b u e=>ah0 _ e) (aie _) ⟨by show 2<=sizeLine;decide,_,.cons ⟨_,rfl⟩ (.cons r2 .nil),⟨_,aik _ rfl,rfl,_,rfl⟩⟩
 refine jL I3 hN hi hy (v:=.ref s2.heap.objs.size) rfl (fun s3 I4=>?_) hfy
 refine wpAny_mono (hR pins s3 _ _ D (I4.wish _) (q2 _ hf)) (fun fl s4 z=>?_) fun _ _ z=>z.elim
 cases fl with
 | next=>obtain⟨σ',H',J,q⟩:=z;exact⟨σ',H',J.unwish,q⟩
 | brk=>obtain⟨σ',H',J,q⟩:=z;exact⟨σ',H',J.unwish,q⟩
 | cont=>obtain⟨σ',H',J,q⟩:=z;exact⟨σ',H',J.unwish,q⟩
 | ret u=>obtain⟨v',σ',H',J,q⟩:=z;exact⟨v',σ',H',J.unwish,q⟩
end
section
variable {K:ahX} {f:Fx} {ρ:zl} {t:TA} {ts:TS} {D:DEnds} {Z:Value->XD->Prop}
theorem ag3 {γ:Type} {n i:Nat} {s0:Str} {pre:γ->List DV->Prop} {post:γ->PyData->Prop} {exc:γ->Value->XD->Prop} (c:γ)
  (h:PAd K f t ρ fun xs=>xs.length=n/\pre c xs/\(∀ r,post c r->PSd K f ts (ρ.set i (some (.dat (.tuple [.str s0,r])))) D)/\∀ C x,exc c C x->Z C x):PYd K f (af9 (spF K n pre post exc) t s0 i ts) ρ D Z:=fun E σ H N e nx rt bk ct z =>
 h σ H _ e fun xs vs H1 g1 r1 ⟨hl,hp,k,kz⟩=>by
  refine⟨f,xs,c,r1,hl,g1.2,hp,fun r v H' g' r' p' q hq=>?_,fun C o x H' g' fi p'=>z C o x H' (g1.trans g') fi (kz C x p')⟩
  have g2:Goes f H' (upd H' q (.tup [.str s0,v])):=.of_same (yh hq _) g'.ok
  have gg:=(g1.trans g').trans g2
  have rp:Rep K (hide (upd H' q (.tup [.str s0,v])) f) (.tuple [.str s0,r]) (.ref q):=rep_tuple.mpr ⟨q,[.str s0,v],rfl,SqT.of (zw (fresh_ne g'.ok hq) zr),reps_cons.mpr ⟨_,_,rfl,rep_str.mpr rfl,reps_cons.mpr ⟨_,_,rfl,Rep.mono g2.1 r v r',reps_nil.mpr rfl⟩⟩⟩
  exact k r p' _ _ N ((e.mono gg).set i (x:=.dat (.tuple [.str s0,r])) rp) (fun ρ2 σ2 H2 g2=>nx ρ2 σ2 H2 (gg.trans g2)) (fun d v H2 g2=>rt d v H2 (gg.trans g2)) (fun ρ2 σ2 H2 g2=>bk ρ2 σ2 H2 (gg.trans g2)) (fun ρ2 σ2 H2 g2=>ct ρ2 σ2 H2 (gg.trans g2))
end
theorem adh {X:Cx} {k:Nat} {x:Str} {ps:List Str} {sp:Sp} {p pos:Pos} (G:FnIn X.prog X.w X.K X.mg X.base k x ps sp) (hr:Room k X.A) (hg:Gl X x) (hdb:(x == ("__debug__":Str))=false:=by decide):PE X (.Call (.Name x p) [] [] pos) (qq sp [] E0 jh):=by
 obtain⟨f,fd,a,b,c,d⟩:=G.ex
 exact adL a hr hg b c d .nil afT hdb
theorem aez {w:World} {K:ahX} {f:Fx} {Ds:List Addr} {ρ:zl} {cs:List OC} {te:TE} {P:PyData->Prop} (h:PEd K f te (ρ.map (freed f.M.length cs)) fun d=>∃ z,d=.str z/\P (.str z)):PEm w K f Ds te ρ cs P:=fun se σ H H2 Q x q =>
 h σ H Q (x.free se) fun d v H' g' r' ⟨z,ed,p⟩=>by
  subst ed
  exact q (.str z) v H' (ac2 se x g') (rep_str.mpr (rep_str.mp r')) p
end L2
end
section
namespace My
open PySem PySem.Spec PyProof.Rows L2
noncomputable abbrev pe:List Str:=["_law_feed_here"]
noncomputable abbrev pf:List Str:=["_law_text_here"]
noncomputable abbrev ph:List Str:=["word"]
noncomputable abbrev pj:List Str:=["things"]
noncomputable abbrev pk:List Str:=["_law_feed_here","_law_many"]
noncomputable abbrev pq:List Str:=["_law_word_here"]
noncomputable abbrev pw:List Str:=["_law_script","_law_k"]
noncomputable abbrev pz:List Str:=["_law_feed_here","_law_text_here"]
noncomputable abbrev pA:List Str:=["_law_rows"]
noncomputable abbrev pB:List Str:=["_law_caught"]
noncomputable abbrev pC:List Str:=["_law_script"]
noncomputable abbrev pD:List Str:=["self","line"]
local macro_rules | `(tactic| walk_at "w")=>`(tactic| repeat walk_at "dl")
local macro_rules | `(tactic| walk_at "s")=>`(tactic| exact⟨rfl,rfl,rfl,by decide +kernel,rfl,by decide +kernel,by decide +kernel⟩)
noncomputable def top (i:Nat):Stmt:=PySem.Challenge.pw_heightrings_k81_texts_refused.main.body.getD i (.Pass ⟨0,0,0,0⟩)
noncomputable abbrev y2:=top 17
noncomputable abbrev abj:List Str:=["rows","at","row"]
theorem sc_ask_table:FnScope abj ["rows"] (zg y2):=by walk_at "s"
noncomputable abbrev aaM:=top 18
noncomputable abbrev ag4:List Str:=pj
theorem afv:FnScope ag4 pj (zg aaM):=by walk_at "s"
noncomputable abbrev qD:=top 19
noncomputable abbrev aeA:List Str:=["row"]
theorem adi:FnScope aeA ["row"] (zg qD):=by walk_at "s"
noncomputable abbrev yP:=top 23
noncomputable abbrev aaN:List Str:=["text","rows","at","line","words"]
theorem sc_read_table:FnScope aaN ["text"] (zg yP):=by walk_at "s"
noncomputable abbrev y3:=top 24
noncomputable abbrev abk:List Str:=["word","figures"]
theorem sc_is_number:FnScope abk ph (zg y3):=by walk_at "s"
noncomputable abbrev jA:=top 26
noncomputable abbrev qo:List Str:=["_law_script","_law_k","_law_cell"]
theorem sc_law_feed:FnScope qo pw (zg jA):=by walk_at "s"
noncomputable abbrev jB:=top 27
noncomputable abbrev abX:List Str:=["_law_feed_here","_law_many","_law_found"]
theorem sc_law_draw:FnScope abX pk (zg jB):=by walk_at "s"
noncomputable abbrev y4:=top 28
noncomputable abbrev abl:List Str:=["_law_some"]
theorem sc_law_signs:FnScope abl [] (zg y4):=by walk_at "s"
noncomputable abbrev jC:=top 29
noncomputable abbrev abY:List Str:=["_law_feed_here","_law_way","_law_many"]
theorem sc_law_word:FnScope abY pe (zg jC):=by walk_at "s"
noncomputable abbrev jD:=top 30
noncomputable abbrev abZ:List Str:=["_law_feed_here","_law_high","_law_wide","_law_plain","_law_rows","_law_y","_law_words","_law_x","_law_word_here"]
theorem sc_law_text:FnScope abZ pe (zg jD):=by walk_at "s"
noncomputable abbrev yQ:=top 31
noncomputable abbrev aaO:List Str:=["_law_feed_here","_law_text_here","_law_signs_here","_law_sign","_law_at","_law_way","_law_swapped","_law_rows","_law_k"]
theorem sc_law_spoilt:FnScope aaO pz (zg yQ):=by walk_at "s"
noncomputable abbrev yR:=top 32
noncomputable abbrev aaP:List Str:=["_law_word_here","_law_low","_law_figures","_law_number_here","_law_sign"]
theorem sc_law_number:FnScope aaP pq (zg yR):=by walk_at "s"
noncomputable abbrev yq:=top 33
noncomputable abbrev vb:List Str:=["_law_rows","_law_at"]
theorem sc_law_table_due:FnScope vb pA (zg yq):=by walk_at "s"
noncomputable abbrev j7:=top 34
noncomputable abbrev adj:List Str:=["_law_text_here","_law_rows","_law_at","_law_line","_law_numbers"]
theorem sc_law_due:FnScope adj pf (zg j7):=by walk_at "s"
noncomputable abbrev y9:=top 35
noncomputable abbrev abm:List Str:=["_law_caught","_law_some"]
theorem sc_law_alone:FnScope abm pB (zg y9):=by walk_at "s"
noncomputable abbrev jE:=top 36
noncomputable abbrev ab0:List Str:=["_law_text_here","_law_found","_law_caught"]
theorem sc_law_told:FnScope ab0 pf (zg jE):=by walk_at "s"
noncomputable abbrev qY:=top 37
noncomputable abbrev acz:List Str:=["_law_script","_law_k","_law_feed_here","_law_text_here","_law_turn","_law_found"]
theorem sc_law:FnScope acz pC (zg qY):=by walk_at "s"
noncomputable abbrev yG:Stmt:=(acw (top 2)).getD 0 (.Pass ⟨0,0,0,0⟩)
theorem vc:FnScope ["self","at"] ["self","at"] (zg yG):=by walk_at "s"
noncomputable abbrev yT:Stmt:=(acw (top 9)).getD 0 (.Pass ⟨0,0,0,0⟩)
theorem vS:FnScope pD pD (zg yT):=by walk_at "s"
noncomputable def tab (rows:List (List Int)):PyData:=.list (rows.map fun r=>.list (r.map .int))
structure Good (w:Nat) (rows:List (List Int)):Prop where
 h1:2<=rows.length
 h2:rows.length<=7
 w1:2<=w
 w2:w<=7
 row:∀ r∈rows,r.length=w
 hgt:∀ r∈rows,∀ n∈r,-1000000000<=n/\n<=1000000000
theorem afw {α β:Type} {F:α->β} {xs:List α} {k:Int} {j:Nat} (hk:(j:Int)=k) (h:j<xs.length):atI (xs.map F) k=some (F xs[j]):=by
 subst hk
 exact zL (by rw [ah9,ah2 h];rfl)
local macro_rules | `(tactic| walk_at "dl")=>`(tactic| first
 | (with_reducible show PSd _ _ (qI _ (adx (je _) (tC (V.int 0)) aaZ)) _ _;refine ae7 rfl ?_)
 | (with_reducible show PSd _ _ (qI _ (adx (je _) (tC (V.int 1)) aaZ)) _ _;refine ae8 rfl ?_)
 | with_reducible refine zX ?_ | with_reducible refine aa5 ?_ | with_reducible refine zN ?_ | with_reducible refine z5 ?_ | with_reducible refine s_drop ?_ | with_reducible refine yf ?_
 | with_reducible refine zu ?_ | with_reducible refine ack rfl ?_ | with_reducible refine jv ?_ | with_reducible refine aaD ?_
 | with_reducible refine yy ?_ | with_reducible refine t_b ?_ | with_reducible refine qv ?_ | with_reducible refine acX ?_ | with_reducible refine qe ?_ | with_reducible refine yJ ?_
 | with_reducible refine aaC ?_ | with_reducible refine aa4 ?_ | with_reducible refine jN ?_ | with_reducible refine adT ?_ | with_reducible refine jO ?_
 | with_reducible refine ahl ?_ | with_reducible refine abH ?_ | with_reducible refine afV ?_ | with_reducible refine adU ?_
 | with_reducible refine zM ?_ | with_reducible refine agu ?_ | with_reducible refine zR ?_ | with_reducible refine acj ?_
 | (with_reducible show PEd _ _ (je _) _ _;refine ze rfl ?_)
 | (with_reducible show PEd _ _ (tOp (adM _) (je _) _) _ _;refine ahk rfl ?_)
 | with_reducible refine qt ?_ | with_reducible refine afU ?_
 | (with_reducible show PAd _ _ (z9 (je _) _) _ _;refine qK rfl ?_)
 | with_reducible refine zj ?_ | with_reducible refine zD ?_
 | with_reducible refine d_catT ?_ | with_reducible refine vH ?_ | with_reducible refine yA ?_ | with_reducible refine yk ?_ | with_reducible refine abL ?_ | with_reducible refine d_tupof ?_ | with_reducible refine aa7 ?_
 | with_reducible refine qd ?_ | with_reducible refine jQ ?_ | with_reducible refine adV ?_ | with_reducible refine adW ?_ | with_reducible refine adX ?_ | with_reducible refine agx ?_ | with_reducible refine agy ?_
 | (with_reducible show (∃ _,_) \/ (∃ _,_);first | refine Or.inl ⟨_,rfl,?_⟩ | refine Or.inr ⟨_,rfl,?_⟩) | refine⟨_,rfl,?_⟩ | refine⟨_,_,rfl,?_⟩
 | (with_reducible show (_=_/\∀ _,_) \/ _;first | refine Or.inl ⟨rfl,fun a ha=>?_⟩ | refine Or.inr ⟨rfl,fun b hb hb'=>?_⟩)
 | (with_reducible show PyData.canLay0 _=true/\_;refine And.intro (by first | rfl | assumption | decide +kernel) ?_)
 | (with_reducible show min _ _<=60/\_;refine And.intro (by first | assumption | (simp [PyData.depth,ai6];done)) ?_)
 | refine⟨rfl,?_⟩
 | (refine And.intro ?side ?_;(case side=>first | omega | exact Int.ediv_nonneg (by omega) (by omega) | exact Int.emod_nonneg _ (by omega) | exact ajN _ (by omega) | decide | exact⟨by decide,by decide,by decide⟩ | exact⟨by omega,by omega⟩ | exact Or.inl ⟨by omega,by omega⟩ | exact Or.inr ⟨by omega,by omega⟩ | (refine aih (ajO (by rfl)) (show _<=1000 by decide)) | ((repeat' apply And.intro) <;> first | rfl | omega | decide | assumption) | (simp [PyData.depth]))))
section
variable {P:Program} {w:World} {K:ahX} {mg:Str->Option Value} {base:Heap} {k:Nat}
theorem afx (F:Def K mg "fits" aaM pj) (uac:mg "len"=none) (uaz:∃ t,mg "FEWEST"=some (.int 2 t)) (uaA:∃ t,mg "MOST"=some (.int 7 t)) :
  FnIn P w K mg base (k+1) "fits" pj (spD K 1 (fun (c:List PyData) xs=>xs=[.dat (.list c)]) fun c r=>r=.bool (decide (2<=c.length/\c.length<=7))):=by
 obtain⟨_,uaz⟩:=uaz
 obtain⟨_,uaA⟩:=uaA
 refine F.ok afv rfl fun fa cdv A outer s H E hr=>⟨_,(zh (zy (adH qS qS (jR rfl uaz) (zi (zP (K:=K) rfl) rfl uac air (za (pv 0) zb)) (jR rfl uaA)))),?_⟩
 rintro f xs ds hl rfl
 try dsimp only [zO,zm]
 walk_at "w"
 by_cases h:2<=ds.length
 ·rw [if_pos (by simp;omega)]
  walk_at "w"
  show PyData.bool _=_
  congr 1
  by_cases h7:ds.length<=7 <;> simp [h,h7] <;> omega
 ·rw [if_neg (by simp;omega)]
  show PyData.bool _=_
  congr 1
  simp [h]
theorem adk (F:Def K mg "is_row" qD ["row"]) (uah:mg "min"=none) (uai:mg "max"=none) (uaB:∃ t,mg "LEAST"=some (.int (-1000000000) t)) (uaC:∃ t,mg "GREATEST"=some (.int 1000000000 t))
  (uaG:FnIn P w K mg base k "fits" pj (spD K 1 (fun (c:List PyData) xs=>xs=[.dat (.list c)]) fun c r=>r=.bool (decide (2<=c.length/\c.length<=7)))) :
  FnIn P w K mg base (k+1) "is_row" ["row"] (spD K 1 (fun (c:List Int) xs=>xs=[.dat (.list (c.map .int))]) fun c r=>r=.bool (decide (2<=c.length/\c.length<=7/\∀ n∈c,-1000000000<=n/\n<=1000000000))):=by
 obtain⟨_,uaB⟩:=uaB
 obtain⟨_,uaC⟩:=uaC
 refine F.ok adi rfl fun fa cdv A outer s H E hr=>⟨_,(zh (zy (aaw (zq uaG hr rfl (za (pv 0) zb)) (aaw (yv qS (jR rfl uaB) (zi (aai (K:=K) rfl rfl) rfl uah boot_min (za (pv 0) zb)) (zC _)) (aav (yv qS (zi (aaj (K:=K) rfl rfl) rfl uai boot_max (za (pv 0) zb)) (jR rfl uaC) (zC _))))))),?_⟩
 rintro f xs c hl rfl
 try dsimp only [zO,zm]
 walk_at "w"
 refine zz (c.map .int) ?_
 walk_at "w"
 rintro r rfl
 rw [ahZ]
 walk_at "w"
 by_cases h:2<=c.length/\c.length<=7
 ·have hne:c≠[]:=by rintro rfl;simp at h
  rw [if_pos (by simpa using h)]
  walk_at "w"
  intro M hM hM'
  walk_at "w"
  by_cases h2:-1000000000<=M
  ·rw [if_pos (by simpa using h2)]
   walk_at "w"
   intro M' hN hN'
   walk_at "w"
   show PyData.bool _=_
   congr 1
   rw [decide_eq_decide]
   refine⟨fun q=>⟨h.1,h.2,fun n hn=>⟨ak6 h2 (hM' n hn),ak6 (hN' n hn) q⟩⟩,fun q=>(q.2.2 M' hN).2⟩
  ·rw [if_neg (by simpa using h2)]
   show PyData.bool _=_
   congr 1
   symm
   rw [decide_eq_false_iff_not]
   exact fun q=>h2 (q.2.2 M hM).1
 ·rw [if_neg (by simpa using h)]
  show PyData.bool _=_
  congr 1
  symm
  rw [decide_eq_false_iff_not]
  exact fun q=>h ⟨q.1,q.2.1⟩
theorem afy (F:Def K mg "_law_draw" jB pk):FnIn P w K mg base (k+1) "_law_draw" pk (spD K 2 (fun (c:Int) xs=>xs=[.feed,.dat (.int c)]/\0<c/\c<1152921504606846976) fun c r=>∃ i:Int,r=.int i/\0<=i/\i<c):=by
 refine F.ok sc_law_draw rfl fun fa cdv A outer s H E hr=>⟨_,(zc (zY (zE ahg (ye (zI (K:=K) rfl) (pv 0) zd (fun _ _=>rfl)) (zt vv zd zd) (zC _)) (zc (zv (i:=2) sc_law_draw.nd rfl (Or.inl rfl) (zt qJ (ye (zI (K:=K) rfl) (pv 0) zd (fun _ _=>rfl)) (pv 1))) (zc (adz (zt aa8 (ye (zI (K:=K) rfl) (pv 0) zd (fun _ _=>rfl)) (pv 1)) (ady (pv 0) zd set_list)) (zh (zy (pv 2))))) zA) (zc (adz (zt qJ (zt yl (zt yl (zt vt (ye (zI (K:=K) rfl) (pv 0) zd (fun _ _=>rfl)) zd) (zt qJ (ye (zI (K:=K) rfl) (pv 0) zd (fun _ _=>rfl)) zd)) zd) zd) (ady (pv 0) zd set_list)) (zh (zy (zt qJ (zt aa8 (zt qJ (zt vt (ye (zI (K:=K) rfl) (pv 0) zd (fun _ _=>rfl)) zd) zd) zd) (pv 1)))))),?_⟩
 rintro f xs c hl ⟨rfl,c0,c1⟩
 try dsimp only [zO,zm]
 walk_at "w"
 split
 ·walk_at "w"
  exact ajN _ c0
 ·walk_at "w"
  exact ajN _ c0
noncomputable abbrev ab1 (K:ahX):Sp:=spD K 2 (fun (c:Int) xs=>xs=[.feed,.dat (.int c)]/\0<c/\c<1152921504606846976) fun c r=>∃ i:Int,r=.int i/\0<=i/\i<c
noncomputable def aap (r:List Int):Bool:=decide (2<=r.length/\r.length<=7/\∀ n∈r,-1000000000<=n/\n<=1000000000)
noncomputable def yB (w0:Nat) (r:List Int):Bool:=decide (r.length≠w0) || !aap r
noncomputable def j9 (rows:List (List Int)):Option Int:=if 2<=rows.length/\rows.length<=7 then (rows.findIdx? (yB (rows.getD 0 []).length)).map fun i=>(i:Int) else some (-1)
theorem aeB {rows:List (List Int)} {i:Nat} {r:List Int} (h:2<=rows.length/\rows.length<=7) (hr:rows[i]?=some r) (b:yB (rows.getD 0 []).length r=true) (pre:∀ j:Nat,j<i->∀ q,rows[j]?=some q->yB (rows.getD 0 []).length q=false):j9 rows=some (i:Int):=by
 unfold j9
 rw [if_pos h]
 have hi:i<rows.length:=(ah1.mp hr).1
 have:rows.findIdx? (yB (rows.getD 0 []).length)=some i:=by
  rw [ai5]
  refine⟨hi,?_,fun j hj=>?_⟩
  ·rw [(ah1.mp hr).2];exact b
  ·rw [pre j hj _ (ah2 (by omega))];exact ahW
 rw [this]
 rfl
theorem abn {rows:List (List Int)} (h:2<=rows.length/\rows.length<=7) (pre:∀ j:Nat,j<rows.length->∀ q,rows[j]?=some q->yB (rows.getD 0 []).length q=false):j9 rows=none:=by
 unfold j9
 rw [if_pos h]
 have:rows.findIdx? (yB (rows.getD 0 []).length)=none:=by
  rw [ajG]
  intro q hq
  obtain⟨j,hj⟩:=ajY hq
  exact pre j (ah1.mp hj).1 q hj
 rw [this]
 rfl
theorem vd {P:Program} {w:World} {K:ahX} {mg:Str->Option Value} {base:Heap} {C f D:Addr} {fd:FuncData} (hfc:jl K C f D "at"=true) (hD:mg "HeightError"=some (.ref D)) (F:Fun K "__init__" "NoTable.__init__" yG f fd):InitOk P w K mg base 1 C "at":=by
 have T:=FldC.of hfc
 refine⟨f,D,fd,["self","at"],T,F.ok vc (fun vs H Q E h=>?_) (fun cdv A outer s H vs Q E hr hs=>⟨_,zc (jo (qX T rfl hD (za (pv 0) (za zp zb)))) (zh (acv T (pv 0) (pv 1))),?_⟩),F.binds (ps:=["self","at"]) fun _ _ _ _ _ _ us hl=>match us,hl with | [_,_],_=>rfl⟩
 ·obtain⟨a,y,rfl,_⟩:=h
  rfl
 ·obtain⟨a,y,rfl,hH,q⟩:=hs
  exact⟨.ref a,rfl,a,_,rfl,by decide,hH,y,rfl,.ref a,rfl,a,rfl,hH,fun dx h1 h2=>q dx h1 h2⟩
noncomputable abbrev ag5 (K:ahX):Sp:=spD K 1 (fun (c:List PyData) xs=>xs=[.dat (.list c)]) fun c r=>r=.bool (decide (2<=c.length/\c.length<=7))
noncomputable abbrev afz (K:ahX):Sp:=spD K 1 (fun (c:List Int) xs=>xs=[.dat (.list (c.map .int))]) fun c r=>r=.bool (decide (2<=c.length/\c.length<=7/\∀ n∈c,-1000000000<=n/\n<=1000000000))
noncomputable abbrev aeC (K:ahX) (uaa:Addr):Sp:=spF K 1 (fun (c:List (List Int)) xs=>xs=[.dat (tab c)]) (fun c r=>r=.bool true/\j9 c=none) fun c Cv x=>Cv=.ref uaa/\∃ i,j9 c=some i/\x=some (("at":Str),PyData.int i)
theorem afA {uaa:Addr} (F:Def K mg "ask_table" y2 ["rows"]) (uac:mg "len"=none) (uaj:mg "enumerate"=none) (uat:mg "NoTable"=some (.ref uaa)) (I_NoTable:InitOk P w K mg base 1 uaa "at")
  (uaG:FnIn P w K mg base (k+2) "fits" pj (ag5 K)) (ubp:FnIn P w K mg base (k+2) "is_row" ["row"] (afz K)):FnInF P w K mg base (k+3) "ask_table" ["rows"] (aeC K uaa):=by
 refine F.okF (k:=k+2) sc_ask_table rfl fun fa cdv A outer s H E hr=>⟨_,(zc (zY (jn (yg (K:=K) rfl (zq uaG hr rfl (za (pv 0) zb)) (fun _=>rfl))) (zh (qN I_NoTable (hr.mono (by omega)) rfl uat (za (afQ adD zd) zb))) zA) (zc (jr PassesOwn.leaving rfl (vE (K:=K) rfl rfl uaj (za (pv 0) zb)) (aaE (K:=K) (n:=2) rfl rfl (jf (zU (i:=1) sc_ask_table.nd rfl (Or.inl rfl) (Or.inr rfl)) (jf (zU (i:=2) sc_ask_table.nd rfl (Or.inl rfl) (Or.inr rfl)) aax))) (zh (zY (PW.pt (qR (zE (vC (K:=K) rfl hr.units) (zi (zP (K:=K) rfl) rfl uac air (za (pv 2) zb)) (zi (zP (K:=K) rfl) rfl uac air (za (ye (zI (K:=K) rfl) (pv 0) zd (fun _ _=>rfl)) zb)) (zC _)) (qf (jn (yg (K:=K) rfl (zq ubp hr rfl (za (pv 2) zb)) (fun _=>rfl)))))) (zh (qN I_NoTable (hr.mono (by omega)) rfl uat (za (pv 1) zb))) zA))) (zh (zy ab8)))),?_⟩
 rintro f xs rows hl rfl
 try dsimp only [zO,zm]
 refine aeq (ahy (qe (yJ (zz (rows.map fun r=>.list (r.map .int)) ?_))))
 walk_at "w"
 rintro _ rfl
 refine⟨_,rfl,?_⟩
 rw [ahZ]
 by_cases h:2<=rows.length/\rows.length<=7
 case neg =>
  rw [decide_eq_false h,aiI,if_pos rfl]
  refine vh (zj (afX ?_))
  walk_at "w"
  exact⟨-1,by unfold j9;rw [if_neg h],rfl⟩
 rw [decide_eq_true h,ai1,if_neg ahW]
 refine abQ ?_
 walk_at "w"
 refine aeq (ahA (abK ?_))
 walk_at "w"
 refine⟨fun i ρ=>(∃ a b,ρ=[some (.dat (tab rows)),a,b])/\∀ j:Nat,j<i->∀ q,rows[j]?=some q->yB (rows.getD 0 []).length q=false,⟨⟨_,_,rfl⟩,fun j hj=>absurd hj (ajI _)⟩,?_,?_⟩
 ·rintro i d _ hd ⟨⟨a,b,rfl⟩,pre⟩
  unfold jI at hd
  rw [ajA,ah9] at hd
  obtain⟨r,er,rfl⟩:∃ r:List Int,rows[i]?=some r/\d=.tuple [.int (i:Int),.list (r.map .int)]:=by
   cases er:rows[i]? with
   | none=>rw [er] at hd;cases hd
   | some r=>rw [er] at hd;cases hd;exact⟨r,rfl,rfl⟩
  obtain⟨r0,e0⟩:∃ r0,rows[0]?=some r0:=⟨_,ah2 (by omega)⟩
  have g0:(rows.getD 0 []).length=r0.length:=by rw [aiC,e0];rfl
  rw [g0] at pre
  have at0:atI (rows.map fun q=>PyData.list (q.map .int)) 0=some (.list (r0.map .int)):=zL (j:=0) (by rw [ah9,e0];rfl)
  have bad:yB r0.length r=true->j9 rows=some (i:Int):=fun z=>aeB h er (by rw [g0];exact z) (by rw [g0];exact pre)
  have fine:yB r0.length r=false->∀ j:Nat,j<i+1->∀ q,rows[j]?=some q->yB (rows.getD 0 []).length q=false:=fun z j hj q hq=>by
   rw [g0]
   by_cases ej:j=i
   ·subst ej;rw [er] at hq;cases hq;exact z
   ·exact pre j (by omega) q hq
  refine ack rfl (jv (zu (jv (zu (aaD (ahy ?_))))))
  walk_at "w"
  refine⟨_,at0,?_⟩
  walk_at "w"
  rw [if_pos rfl,ahZ,ahZ]
  show (if (!(((r.length:Nat):Int) == ((r0.length:Nat):Int)))=true then _ else _)
  by_cases hw:r.length=r0.length
  ·rw [hw,beq_self_eq_true,ai1,if_neg ahW]
   refine qe (yJ (zz r ?_))
   walk_at "w"
   rintro _ rfl
   refine⟨_,rfl,?_⟩
   show (if (!(aap r))=true then _ else _)
   cases ro:aap r with
   | true =>
    rw [ai1,if_neg ahW]
    refine abQ ?_
    walk_at "w"
    exact fine (by unfold yB;rw [ro,hw];simp)
   | false =>
    rw [aiI,if_pos rfl]
    refine vh ?_
    walk_at "w"
    exact⟨_,bad (by unfold yB;rw [ro];simp),rfl⟩
  ·rw [beq_eq_false_iff_ne.mpr (fun z=>hw (by omega)),aiI,if_pos rfl,if_pos rfl]
   refine vh ?_
   walk_at "w"
   exact⟨_,bad (by unfold yB;simp [hw]),rfl⟩
 ·rintro _ ⟨⟨a,b,rfl⟩,pre⟩
  refine abQ ?_
  walk_at "w"
  refine abn h ?_
  unfold jI at pre
  rw [ajM,ahZ] at pre
  exact pre
open PySem PySem.NumText PySem.Spec PyProof.Rows L2
noncomputable abbrev cpl (z:Str):List Nat:=z.cps.toList
theorem str_eq {x y:Str}:x=y↔cpl x=cpl y:=⟨fun h=>h▸rfl,fun h=>by
 obtain⟨⟨x⟩⟩:=x
 obtain⟨⟨y⟩⟩:=y
 have h:x=y:=h
 rw [h]⟩
theorem zG (z:Str):(cpl z).length=z.length:=by
 show z.cps.toList.length=z.cps.size
 simp
noncomputable def mkS (l:List Nat):Str:=⟨l.toArray⟩
theorem z8 (l:List Nat):cpl (mkS l)=l:=by
 show l.toArray.toList=l
 simp
theorem aeD (z:Str):mkS (cpl z)=z:=str_eq.mpr (z8 _)
noncomputable def dig (c:Nat):Bool:=decide (48<=c/\c<=57)
noncomputable def yW (l:List Nat):Bool:=l.head? == some 45
noncomputable def yc (l:List Nat):List Nat:=if yW l then l.drop 1 else l
noncomputable def jK (l:List Nat):Bool:=decide (1<=(yc l).length/\(yc l).length<=11) && ((yc l).all dig && (decide ((yc l).head?≠some 48) || decide (l=[48])))
noncomputable def adl (l:List Nat):Int:=if yW l then -((digitsVal (yc l):Nat):Int) else ((digitsVal (yc l):Nat):Int)
theorem aaQ (z:Str):akh z "-"=yW (cpl z):=by
 have h:=StrLaws.subAt_one z 45 0
 have e:(("-":Str))=⟨#[45]⟩:=rfl
 unfold akh yW
 rw [e,ajp,aiP,decide_eq_true_eq,beq_iff_eq]
 rw [h]
 show (cpl z)[0]?=some 45↔_
 cases cpl z <;> simp
theorem ab2 {z:Str} (h:1<=z.length):ah6 z (some 1) none=mkS ((cpl z).drop 1):=by
 have hl:=zG z
 rw [akz (by rw [hl];omega)]
 unfold mkS
 congr 2
 show ((cpl z).drop 1).take _=_
 rw [ajn]
 rw [aiL,hl]
 show _<=((((cpl z).length:Nat):Int) - 1).toNat
 omega
theorem adm (z:Str):ah6 z (some 0) none=z:=by
 have hl:=zG z
 rw [akz (by omega)]
 rw [str_eq]
 show (((cpl z).drop 0).take _).toArray.toList=_
 rw [akR,ajn (by show _<=((((cpl z).length:Nat):Int) - 0).toNat;omega)]
theorem vT (z:Str):ah6 z none (some 1)=mkS ((cpl z).take 1):=by
 have hl:=zG z
 by_cases h:1<=z.length
 ·rw [StrLaws.sliceText_to (by rw [hl];omega)]
  rfl
 ·have e:cpl z=[]:=List.length_eq_zero_iff.mp (by omega)
  have ez:z=⟨#[]⟩:=str_eq.mpr e
  subst ez
  rfl
theorem ab3 (z:Str):(ah6 z none (some 1)=("-":Str))↔yW (cpl z)=true:=by
 rw [vT,str_eq,z8]
 have e:cpl ("-":Str)=[45]:=rfl
 rw [e]
 unfold yW
 rw [beq_iff_eq]
 cases cpl z <;> simp
theorem abo (z:Str):ah6 z (some (if yW (cpl z)=true then 1 else 0)) none=mkS (yc (cpl z)):=by
 unfold yc
 cases h:yW (cpl z) with
 | false =>
  rw [if_neg ahW,if_neg ahW,adm,aeD]
 | true =>
  rw [if_pos rfl,if_pos rfl]
  refine ab2 ?_
  rw [<-zG]
  unfold yW at h
  cases e:cpl z with
  | nil=>rw [e] at h;cases h
  | cons a l=>simp
theorem ab4 {l:List Nat} (h:l.all dig=true):AllDigits l:=fun c hc=>by
 have:=aiE.mp h c hc
 unfold dig at this
 exact of_decide_eq_true this
theorem int_text {z:Str} (h:jK (cpl z)=true):intText? z=some (adl (cpl z))/\z.length<=12:=by
 have hl:=zG z
 unfold jK at h
 rw [aiP,aiP,decide_eq_true_eq] at h
 obtain⟨⟨h1,h2⟩,h3,_⟩:=h
 have ad:=ab4 h3
 unfold adl
 cases e:yW (cpl z) with
 | false =>
  unfold yc at h1 h2 ad
  rw [e,if_neg ahW] at h1 h2 ad
  refine⟨?_,by omega⟩
  rw [if_neg ahW]
  unfold yc
  rw [e,if_neg ahW]
  exact intText_digits ad (by intro q;rw [show z.cps.toList=cpl z from rfl] at q;rw [q] at h1;simp at h1) (by omega)
 | true =>
  unfold yc at h1 h2 ad
  rw [e,if_pos rfl] at h1 h2 ad
  unfold yW at e
  obtain⟨r,er⟩:∃ r,cpl z=45 :: r:=by
   cases q:cpl z with
   | nil=>rw [q] at e;cases e
   | cons a l =>
    rw [q] at e
    have:a=45:=by simpa using e
    exact⟨l,by rw [this]⟩
  rw [er] at h1 h2 ad hl
  simp only [List.drop_succ_cons,akR] at h1 h2 ad
  have hr:r≠[]:=by rintro rfl;simp at h1
  refine⟨?_,by simp only [aiA] at hl;omega⟩
  rw [if_pos rfl]
  unfold yc yW
  rw [er]
  exact intText_neg er ad hr (by simp only [aiA] at hl;omega)
theorem aaq (c:Nat):(!(ain ("0123456789":Str) ⟨#[c]⟩ 0 ("0123456789":Str).length 1).isEmpty)=dig c:=by
 rw [StrLaws.found_one]
 have e:("0123456789":Str).cps.toList=[48,49,50,51,52,53,54,55,56,57]:=rfl
 rw [e]
 unfold dig
 rw [decide_eq_decide]
 simp only [ah7,List.not_mem_nil,or_false]
 omega
theorem adn {c:Nat} (h:dig c=true):∃ rest,ain ("0123456789":Str) ⟨#[c]⟩ 0 ("0123456789":Str).length 1=(c - 48) :: rest:=by
 have h:48<=c/\c<=57:=of_decide_eq_true h
 have:c=48 \/ c=49 \/ c=50 \/ c=51 \/ c=52 \/ c=53 \/ c=54 \/ c=55 \/ c=56 \/ c=57:=by omega
 rcases this with rfl | rfl | rfl | rfl | rfl | rfl | rfl | rfl | rfl | rfl <;> exact⟨[],by kernel_rfl⟩
theorem abp (l:List Nat) (c:Nat):(digitsVal (l++[c]):Nat)=10 * digitsVal l+(c - 48):=by
 rw [digitsVal_snoc]
 omega
open PySem PySem.NumText PySem.Spec PyProof.Rows L2
structure Tx (B T:Nat) (z:Str):Prop where
 ch:∀ c∈cpl z,c<128
 len:z.length<=T
 sep:(cpl z).countP (fun c=>c == 32 || c == 10)<=B
theorem Tx.ok {B T:Nat} {z:Str} (h:Tx B T z):(PyData.str z).canLay0=true:=by
 show akA z=true
 unfold akA
 rw [Array.all_eq_true]
 intro i hi
 refine decide_eq_true (Nat.lt_trans (h.ch _ ?_) (by decide))
 show z.cps[i]∈z.cps.toList
 exact Array.getElem_mem_toList hi
theorem Tx.imp {B T B' T':Nat} {z:Str} (h:Tx B T z) (hB:B<=B') (hT:T<=T'):Tx B' T' z:=⟨h.ch,aih h.len hT,aih h.sep hB⟩
theorem ab5 {c:Nat} (h:c<128):(PyData.str ⟨#[c]⟩).canLay0=true:=by
 show akA ⟨#[c]⟩=true
 unfold akA
 simp
 omega
theorem vj:(30000:Nat)<=sizeLine:=by decide
noncomputable def jm (c:Nat):List (List Nat)->List Nat
 | []=>[]
 | [x]=>x
 | x :: y :: r=>x++c :: jm c (y :: r)
theorem vk (x y:Str):cpl (x++y)=cpl x++cpl y:=by
 show (x.cps++y.cps).toList=_
 rw [akZ]
theorem qE (c:Nat):∀ ts:List Str,cpl (Str.join ⟨#[c]⟩ ts)=jm c (ts.map cpl)
 | []=>rfl
 | [x]=>rfl
 | x :: y :: r=>by
  show cpl (x++⟨#[c]⟩++Str.join ⟨#[c]⟩ (y :: r))=cpl x++c :: jm c ((y :: r).map cpl)
  rw [vk,vk,qE c (y :: r),List.append_assoc]
  rfl
theorem ja (p:Nat->Bool) (c:Nat):∀ L:List (List Nat),L≠[]->(jm c L).countP p+(if p c then 1 else 0)=(L.map (·.countP p)).sum+L.length * (if p c then 1 else 0)
 | [],h=>absurd rfl h
 | [x],_=>by simp [jm]
 | x :: y :: r,_=>by
  have ih:=ja p c (y :: r) (by simp)
  have e:(c :: jm c (y :: r)).countP p=(jm c (y :: r)).countP p+(if p c then 1 else 0):=List.countP_cons
  show (x++c :: jm c (y :: r)).countP p+_=_
  rw [List.countP_append,e,ajb,akq,aiA,ak8]
  omega
theorem aar {c:Nat}:∀ {L:List (List Nat)} {x:List Nat} {a:Nat},x∈L->a∈x->a∈jm c L
 | [x],_,a,h,ha=>by
  cases ah5.mp h
  exact ha
 | x :: y :: r,z,a,h,ha=>by
  show a∈x++c :: jm c (y :: r)
  rcases ah7.mp h with rfl | h
  ·exact ai8 _ ha
  ·exact aia _ (ah3 _ (aar h ha))
theorem abq {c:Nat}:∀ {L:List (List Nat)} {a:Nat},a∈jm c L->a=c \/ ∃ x∈L,a∈x
 | [x],a,h=>.inr ⟨x,ah5.mpr rfl,h⟩
 | x :: y :: r,a,h=>by
  have h:a∈x++c :: jm c (y :: r):=h
  rcases ail.mp h with h | h
  ·exact .inr ⟨x,aic ..,h⟩
  ·rcases ah7.mp h with h | h
   ·exact .inl h
   ·rcases abq h with h | ⟨z,hz,h⟩
    ·exact .inl h
    ·exact .inr ⟨z,ah3 _ hz,h⟩
theorem aeE (z:Str) (c:Nat):aiF z ⟨#[c]⟩≠[]:=fun h=>by
 have:=split_pos z ⟨#[c]⟩
 rw [h] at this
 simp at this
theorem vU (z:Str) (c:Nat):cpl z=jm c ((aiF z ⟨#[c]⟩).map cpl):=by
 rw [<-qE,StrLaws.join_split]
noncomputable abbrev yX (c:Nat):Bool:=c == 32 || c == 10
theorem aaR {c:Nat} (hc:c=32 \/ c=10):yX c=true:=by rcases hc with rfl | rfl <;> rfl
theorem aaS {x:Nat}:∀ {l:List Nat},x∈l->x<=l.sum
 | a :: l,h=>by
  rw [akq]
  rcases ah7.mp h with rfl | h
  ·omega
  ·have:=aaS h
   omega
theorem yK (p:Nat->Bool) (z:Str) (c:Nat):(cpl z).countP p+(if p c then 1 else 0)=((aiF z ⟨#[c]⟩).map fun v=>(cpl v).countP p).sum+(aiF z ⟨#[c]⟩).length * (if p c then 1 else 0):=by
 have h:=ja p c ((aiF z ⟨#[c]⟩).map cpl) (by simpa using aeE z c)
 rw [<-vU,ajQ,ahZ] at h
 exact h
theorem j8 {B T:Nat} {z v:Str} {c:Nat} (hc:c=32 \/ c=10) (h:Tx B T z) (hp:v∈aiF z ⟨#[c]⟩):Tx B T v:=by
 have ps:=split_pos z ⟨#[c]⟩
 refine⟨fun a ha=>h.ch a ?_,?_,?_⟩
 ·rw [vU z c]
  exact aar (aj3 hp) ha
 ·have e:=yK (fun _=>true) z c
  have m:=aaS (aj3 (f:=fun v=>(cpl v).countP fun _=>true) hp)
  rw [akt] at m e
  rw [zG] at m e
  have:=h.len
  simp only [if_true,ajZ] at e
  omega
 ·have e:=yK yX z c
  have m:=aaS (aj3 (f:=fun v=>(cpl v).countP yX) hp)
  rw [aaR hc] at e
  have:=h.sep
  simp only [if_true,ajZ] at e
  show (cpl v).countP yX<=B
  have h3:(cpl z).countP yX<=B:=h.sep
  omega
theorem jX {B T:Nat} {z:Str} {c:Nat} (hc:c=32 \/ c=10) (h:Tx B T z):(aiF z ⟨#[c]⟩).length<=B+1:=by
 have e:=yK yX z c
 rw [aaR hc] at e
 simp only [if_true,ajZ] at e
 have h3:(cpl z).countP yX<=B:=h.sep
 omega
theorem acA {B T:Nat} {ts:List Str} {c:Nat} (hc:c=32 \/ c=10) (h:∀ t∈ts,∀ a∈cpl t,a<128) (h1:(ts.map fun t=>(cpl t).countP yX).sum+ts.length<=B+1) (h2:(ts.map (·.length)).sum+ts.length<=T+1) (h3:T+1<=16777216) :
  JoinOk ⟨#[c]⟩ ts=true/\Tx B T (akf ⟨#[c]⟩ ts):=by
 have ej:akf ⟨#[c]⟩ ts=Str.join ⟨#[c]⟩ ts:=StrLaws.glued_eq_join _ _
 refine⟨?_,?_⟩
 ·unfold JoinOk
  rw [ajR,StrLaws.joinTotal]
  unfold ak0
  refine decide_eq_false ?_
  rw [sizeLine_eq]
  have:(⟨#[c]⟩:Str).length=1:=rfl
  rw [this,ajZ]
  omega
 rw [ej]
 cases ts with
 | nil =>
  refine⟨fun a ha=>?_,?_,?_⟩
  ·cases ha
  ·exact ajl _
  ·exact ajl _
 | cons t ts =>
  have hn:(t :: ts).map cpl≠[]:=by simp
  have e1:=ja yX c _ hn
  have e2:=ja (fun _=>true) c _ hn
  rw [<-qE,ajQ,ahZ] at e1 e2
  rw [aaR hc] at e1
  simp only [if_true,ajZ] at e1 e2
  rw [akt,zG] at e2
  have e3:((t :: ts).map ((fun x=>x.length) ∘ cpl))=(t :: ts).map (·.length):=aj4 fun v _=>zG v
  rw [e3] at e2
  have e4:((t :: ts).map ((fun x=>x.countP yX) ∘ cpl))=(t :: ts).map fun t=>(cpl t).countP yX:=rfl
  rw [e4] at e1
  refine⟨fun a ha=>?_,by omega,?_⟩
  ·rw [qE] at ha
   rcases abq ha with rfl | ⟨x,hx,ha⟩
   ·rcases hc with rfl | rfl <;> decide
   ·obtain⟨v,hv,rfl⟩:=aj8.mp hx
    exact h v hv a ha
  ·show (cpl _).countP yX<=B
   omega
open PySem PySem.NumText PySem.Spec PyProof.Rows L2
noncomputable abbrev acB (K:ahX):Sp:=spD K 1 (fun (c:Str) xs=>xs=[.dat (.str c)]/\Tx 700 29000 c) fun c r=>r=.bool (jK (cpl c))
theorem aeF (F:Def K mg "is_number" y3 ph) (uac:mg "len"=none) (uay:mg "all"=none) (uaD:∃ t,mg "MOST_FIGURES"=some (.int 11 t)) (uaE:∃ t,mg "FIGURES"=some (.str "0123456789" t)) :
  FnIn P w K mg base (k+1) "is_number" ph (acB K):=by
 obtain⟨_,uaD⟩:=uaD
 obtain⟨_,uaE⟩:=uaE
 refine F.ok sc_is_number rfl fun fa cdv A outer s H E hr=>⟨_,(zc (zv (i:=1) sc_is_number.nd rfl (Or.inl rfl) (adu (yg (K:=K) rfl (jG aiD PySem.F.slot_str_startswith PySem.F.type_str_startswith adf (pv 0) (za zp zb)) (fun _=>rfl)) (zJ yE (pv 0) (zK zd) zV) (pv 0))) (zc (zY (jn (aaW qS qS zd (zi yw rfl uac air (za (pv 1) zb)) (jR rfl uaD))) (zh (zy ab8)) zA) (zc (zY (jn (yg (K:=K) rfl (zi (aak (K:=K) rfl rfl) rfl uay akH (za (qr (N:=["sign"]) (own:=1) (fr:=[]) ⟨rfl,by decide +kernel,of_decide_eq_true (by kernel_rfl),of_decide_eq_true (by kernel_rfl),of_decide_eq_true (by kernel_rfl),rfl⟩ rfl (abU (pv 1)) (fun _ _ _ _=>(zU (i:=0) (show (["sign"]:List Str).Nodup by decide +kernel) rfl (Or.inl rfl) (Or.inr rfl))) (fun _ _ _ _=>vf) (fun _ _ _ _=>(yv acM (pv 0) (aey rfl uaE) rfl)) rfl rfl (fun _=>rfl)) zb)) (fun _=>rfl))) (zh (zy ab8)) zA) (zh (zy (ahc (yv (vC (K:=K) rfl hr.units) (ye abD (pv 1) zd (fun _ _=>rfl)) zp (zC _)) (aav (yv (yb (K:=K) rfl hr.units) (pv 0) zp (zC _))))))))),?_⟩
 rintro f xs z hl ⟨rfl,tx⟩
 try dsimp only [zO,zm]
 have tl:=tx.len
 have ll:=vj
 have hz:=zG z
 have fl:(yc (cpl z)).length<=z.length:=by
  unfold yc
  split
  ·rw [aiL];omega
  ·omega
 have ml:(mkS (yc (cpl z))).length=(yc (cpl z)).length:=by rw [<-zG,z8]
 refine yp (fun ρ=>ρ=[some (.dat (.str z)),some (.dat (.str (mkS (yc (cpl z)))))]) ?_ ?_
 ·refine z5 (ahl (yJ (aex (ze rfl ⟨z,rfl,_,rfl,?_⟩))))
  rw [aaQ]
  cases ng:yW (cpl z) with
  | true =>
   rw [if_pos rfl]
   refine yF (ze rfl ⟨z,rfl,by omega,yk (zM ⟨_,rfl,yA (zu ?_)⟩)⟩)
   have:=abo z
   rw [ng,if_pos rfl] at this
   rw [this]
   rfl
  | false =>
   rw [if_neg ahW]
   refine ze rfl (zu ?_)
   unfold yc
   rw [ng,if_neg ahW,aeD]
   rfl
 rintro _ rfl
 generalize hL:yc (cpl z)=L at *
 have nb:jK (cpl z)=(decide (1<=L.length/\L.length<=11) && (L.all dig && (decide (L.head?≠some 48) || decide (cpl z=[48])))):=by
  unfold jK
  rw [hL]
 refine zX (vN (¬ (1<=L.length/\L.length<=11)) ?_ ?_ ?_)
 ·refine qe (yy (aaC (zM ⟨_,rfl,vP (ze rfl ⟨_,rfl,by rw [ml];omega,_,rfl,?_⟩)⟩)))
  rw [ml]
  split
  ·rename_i h1
   have h1:=of_decide_eq_true h1
   refine zM ⟨_,rfl,_,rfl,?_⟩
   rw [<-decide_not,decide_eq_decide]
   omega
  ·rename_i h1
   refine⟨_,rfl,?_⟩
   symm
   rw [aiI,decide_eq_true_eq]
   intro q
   exact h1 (decide_eq_true (by omega))
 ·intro h
  refine zN (agu ?_)
  rw [nb,decide_eq_false h,ajy]
 intro h
 have h:1<=L.length/\L.length<=11:=ai9.mp h
 refine yf (zX (vN (¬ (L.all dig=true)) ?_ ?_ ?_))
 ·refine qe (yJ (afW (PEdO.ped (aco (A:=fun c:Nat=>PyData.str ⟨#[c]⟩) (B:=fun c=>PyData.bool (dig c)) L (aew (ze rfl ⟨_,rfl,?_,by omega,?_,L.map dig,?_,_,rfl,?_⟩))))))
  ·show (cpl (mkS L)).map _=_
   rw [z8]
  ·intro D c ρ' es hc ho hes
   obtain⟨u,rfl⟩:=ho.one
   refine zu (aa7 ?_)
   rw [if_pos rfl]
   refine vF hes (ahD (ze rfl ⟨_,rfl,zR ⟨_,rfl,?_⟩⟩))
   rw [aaq]
   exact⟨.mk1,rfl⟩
  ·rw [ajQ]
   rfl
  ·rw [List.all_map]
   cases q:L.all dig with
   | true =>
    have q2:L.all (id ∘ dig)=true:=q
    rw [q2]
    rfl
   | false =>
    have q2:L.all (id ∘ dig)=false:=q
    rw [q2]
    rfl
 ·intro q
  refine zN (agu ?_)
  have q:L.all dig=false:=by simpa using q
  rw [nb,q,ajy,akd]
 intro q
 have q:L.all dig=true:=ai9.mp q
 cases L with
 | nil=>exact absurd h.1 (by decide)
 | cons a r =>
  have da:48<=a/\a<=57:=of_decide_eq_true (aiE.mp q a (aic ..))
  refine yf (zN (afV (jO (aeu (ze rfl ⟨_,rfl,zM ⟨0,a,rfl,by rw [ml];omega,?_,zR ⟨ab5 (by omega),by decide +kernel,aih (ai2 _ _) (by decide),?_⟩⟩⟩)))))
  ·show atI (cpl (mkS (a :: r))) 0=some a
   rw [z8]
   exact zL (j:=0) rfl
  ·rw [if_pos rfl,qB]
   have e48:((⟨#[a]⟩:Str)=("0":Str))↔a=48:=by
    rw [str_eq]
    show [a]=[48]↔_
    simp
   refine⟨_,rfl,?_⟩
   rw [nb,q,decide_eq_true h,akr,akr]
   by_cases ea:a=48
   ·subst ea
    rw [decide_eq_true (e48.mpr rfl),ai1,if_neg ahW]
    refine jO (ze rfl (zR ⟨tx.ok,by decide +kernel,aih (ai2 _ _) (by decide),?_⟩))
    rw [if_neg ahW,qB]
    have:decide (z=("0":Str))=decide (cpl z=[48]):=decide_eq_decide.mpr str_eq
    rw [this]
    simp
   ·rw [decide_eq_false (fun k=>ea (e48.mp k)),aiI,if_pos rfl]
    have:(a :: r).head?≠some 48:=by simpa using ea
    rw [decide_eq_true this]
    rfl
noncomputable def zf (z:Str):List Str:=aiF z ⟨#[10]⟩
noncomputable def yN (z:Str):List Str:=aiF z ⟨#[32]⟩
noncomputable def qp (z:Str):Bool:=(yN z).all fun v=>jK (cpl v)
noncomputable def jY (z:Str):List Int:=(yN z).map fun v=>adl (cpl v)
noncomputable def vV (z:Str):Option Nat:=(zf z).findIdx? fun l=>!qp l
noncomputable def jJ (z:Str):List (List Int):=(zf z).map jY
noncomputable abbrev acC (K:ahX) (uab uaa:Addr):Sp:=spF K 1 (fun (c:Str) xs=>xs=[.dat (.str c)]/\Tx 700 29000 c) (fun c r=>r=tab (jJ c)/\vV c=none/\j9 (jJ c)=none)
 fun c Cv x=>(Cv=.ref uab/\∃ i,vV c=some i/\x=some (("line":Str),PyData.int (i:Nat))) \/ (Cv=.ref uaa/\vV c=none/\∃ i,j9 (jJ c)=some i/\x=some (("at":Str),PyData.int i))
theorem aeG {uab uaa:Addr} (F:Def K mg "read_table" yP ["text"]) (uaj:mg "enumerate"=none) (uay:mg "all"=none) (uaf:mg "int"=none) (uaw:mg "NoText"=some (.ref uab)) (I_NoText:InitOk P w K mg base 1 uab "line")
  (ubq:FnIn P w K mg base (k+2) "is_number" ph (acB K)) (ubr:FnInF P w K mg base (k+2) "ask_table" ["rows"] (aeC K uaa)):FnInF P w K mg base (k+3) "read_table" ["text"] (acC K uab uaa):=by
 refine F.okF (k:=k+2) sc_read_table rfl fun fa cdv A outer s H E hr=>⟨_,(zc (zv (i:=1) sc_read_table.nd rfl (Or.inl rfl) (zZ zb)) (zc (jr PassesOwn.leaving rfl (vE (K:=K) rfl rfl uaj (za (jG aiD aiZ ai0 jW (pv 0) (za zp zb)) zb)) (aaE (K:=K) (n:=2) rfl rfl (jf (zU (i:=2) sc_read_table.nd rfl (Or.inl rfl) (Or.inr rfl)) (jf (zU (i:=3) sc_read_table.nd rfl (Or.inl rfl) (Or.inr rfl)) aax))) (zc (zv (i:=4) sc_read_table.nd rfl (Or.inl rfl) (jG aiD aiZ ai0 jW (pv 3) (za zp zb))) (zc (zY (jn (yg (K:=K) rfl (zi (aak (K:=K) rfl rfl) rfl uay akH (za (qr (N:=ph) (own:=1) (fr:=[]) ⟨rfl,by decide +kernel,of_decide_eq_true (by kernel_rfl),of_decide_eq_true (by kernel_rfl),of_decide_eq_true (by kernel_rfl),rfl⟩ rfl (vD (K:=K) rfl (pv 4)) (fun _ _ _ _=>(zU (i:=0) (show (ph:List Str).Nodup by decide +kernel) rfl (Or.inl rfl) (Or.inr rfl))) (fun _ _ _ _=>vf) (fun _ _ _ _=>(zq ubq hr rfl (za (pv 0) zb))) rfl rfl (fun _=>rfl)) zb)) (fun _=>rfl))) (zh (qN I_NoText (hr.mono (by omega)) rfl uaw (za (pv 2) zb))) zA) (zh (jo (jG ajj ajc ajd j5 (pv 1) (za (qr (N:=ph) (own:=1) (fr:=[]) ⟨rfl,by decide +kernel,of_decide_eq_true (by kernel_rfl),of_decide_eq_true (by kernel_rfl),of_decide_eq_true (by kernel_rfl),rfl⟩ rfl (vD (K:=K) rfl (pv 4)) (fun _ _ _ _=>(zU (i:=0) (show (ph:List Str).Nodup by decide +kernel) rfl (Or.inl rfl) (Or.inr rfl))) (fun _ _ _ _=>vf) (fun _ _ _ _=>(yt adg rfl uaf ai4 (za (pv 0) zb))) rfl rfl (fun _=>rfl)) zb))))))) (zc (jo (aer ubr hr rfl (za (pv 1) zb))) (zh (zy (pv 1)))))),?_⟩
 rintro f xs z hl ⟨rfl,tx⟩
 try dsimp only [zO,zm]
 have ll:=vj
 have tl:=tx.len
 have nl:(zf z).length<=701:=jX (.inr rfl) tx
 refine afr (w:=w) (ag2 (vg (acn ⟨show 1<5 by decide,fun D=>?_⟩)))
 refine abW (ag1 (abK (zj (PEdO.ped (qA (c:=10) (ze rfl ⟨z,rfl,by omega,zD ⟨_,rfl,?_⟩⟩))))))
 refine⟨fun i ρ cs=>(∃ a b c,ρ=[some (.dat (.str z)),some (.own (f.M.length+0)),a,b,c])/\cs=[.lst (((zf z).take i).map fun l=>PyData.list ((jY l).map .int))]/\∀ j:Nat,j<i->∀ l,(zf z)[j]?=some l->qp l=true,⟨⟨_,_,_,rfl⟩,rfl,fun j hj=>absurd hj (ajI _)⟩,?_,?_⟩
 ·rintro i d _ _ hd ⟨⟨a,b,c,rfl⟩,rfl,pre⟩
  unfold jI at hd
  rw [ajA,ah9] at hd
  obtain⟨l,el,rfl⟩:∃ l:Str,(zf z)[i]?=some l/\d=.tuple [.int (i:Int),.str l]:=by
   cases el:(zf z)[i]? with
   | none =>
    have el2:(aiF z ⟨#[10]⟩)[i]?=none:=el
    rw [el2] at hd
    cases hd
   | some l =>
    have el2:(aiF z ⟨#[10]⟩)[i]?=some l:=el
    rw [el2] at hd
    cases hd
    exact⟨l,rfl,rfl⟩
  have hi:i<(zf z).length:=(ah1.mp el).1
  have txl:Tx 700 29000 l:=j8 (.inr rfl) tx (aiw el)
  have tll:=txl.len
  have nw:(yN l).length<=701:=jX (.inl rfl) txl
  refine ack rfl (jv (zu (jv (zu (aaD ?_)))))
  refine abW (ag0 (af4 (aec (PEdO.ped (qA (c:=32) (ze rfl ⟨l,rfl,by omega,?_⟩))))))
  refine abW (ahE (ahu (qe (yJ (afW (PEdO.ped (aco (A:=fun v:Str=>PyData.str v) (B:=fun v=>PyData.bool (jK (cpl v))) (yN l) (abJ (ze rfl ⟨_,rfl,rfl,by omega,?_,(yN l).map (fun v=>jK (cpl v)),?_,_,rfl,?_⟩)))))))))
  ·intro D' v ρ' es hv ho hes
   obtain⟨u,rfl⟩:=ho.one
   refine zu (aa7 ?_)
   rw [if_pos rfl]
   refine vF hes (zz v (zj (ze rfl (zD ⟨rfl,⟨rfl,j8 (.inl rfl) txl hv⟩,?_⟩))))
   rintro _ rfl
   exact⟨.mk1,rfl⟩
  ·rw [ajQ]
   rfl
  have eo:((yN l).map (fun v=>jK (cpl v))).all id=qp l:=by
   rw [List.all_map]
   rfl
  rw [eo]
  cases ol:qp l with
  | false =>
   rw [aiI,if_pos rfl]
   refine afs (vh (zj (ze rfl (zD ⟨_,rfl,.inl ⟨rfl,i,?_,rfl⟩⟩))))
   unfold vV
   rw [ai5]
   refine⟨hi,?_,fun j hj=>?_⟩
   ·rw [(ah1.mp el).2,ol]
    rfl
   ·rw [pre j hj _ (ah2 (by omega))]
    exact ahW
  | true =>
   rw [ai1,if_neg ahW]
   have ow:∀ v∈yN l,jK (cpl v)=true:=fun v hv=>aiE.mp ol v hv
   refine ag0 (aeb ?_)
   have lm:(((zf z).take i).map fun l=>PyData.list ((jY l).map .int)).length<1000:=by
    rw [ahZ,aiz]
    omega
   refine ag0 (acr (j:=0) rfl rfl lm (aec (PEdO.ped (aco (A:=fun v:Str=>PyData.str v) (B:=fun v=>PyData.int (adl (cpl v))) (yN l) (abJ (ze rfl ⟨_,rfl,rfl,by omega,?_,?_⟩))))))
   ·intro D' v ρ' es hv ho hes
    obtain⟨u,rfl⟩:=ho.one
    obtain⟨t1,t2⟩:=int_text (ow v hv)
    refine zu (aa7 ?_)
    rw [if_pos rfl]
    exact vF hes (agY (ze rfl ⟨v,_,rfl,t1,by omega,.mk1,rfl⟩))
   ·refine⟨⟨_,_,_,rfl⟩,?_,fun j hj q hq=>?_⟩
    ·show [OC.lst _]=_
     rw [ajv,el,aim]
     show _=[OC.lst (_++[PyData.list ((jY l).map .int)])]
     unfold jY
     rw [ajQ]
     rfl
    ·by_cases ej:j=i
     ·subst ej
      rw [el] at hq
      cases hq
      exact ol
     ·exact pre j (by omega) q hq
 ·rintro _ _ ⟨⟨a,b,c,rfl⟩,rfl,pre⟩
  have le:(jI ((aiF z ⟨#[10]⟩).map .str)).length=(zf z).length:=by
   unfold jI
   rw [ajM,ahZ]
   rfl
  rw [le] at pre ⊢
  rw [ajE]
  have bn:vV z=none:=by
   unfold vV
   rw [ajG]
   intro q hq
   obtain⟨j,hj⟩:=ajY hq
   rw [pre j (ah1.mp hj).1 q hj]
   rfl
  refine aft ?_
  have ee:List.map (freed f.M.length [OC.lst ((zf z).map fun l=>PyData.list ((jY l).map .int))]) [some (.dat (.str z)),some (.own (f.M.length+0)),a,b,c]=[some (.dat (.str z)),some (.dat (tab (jJ z))),freed f.M.length [OC.lst ((zf z).map fun l=>PyData.list ((jY l).map .int))] a,freed f.M.length [OC.lst ((zf z).map fun l=>PyData.list ((jY l).map .int))] b,freed f.M.length [OC.lst ((zf z).map fun l=>PyData.list ((jY l).map .int))] c]:=by
   simp [freed,tab,jJ]
  rw [ee]
  refine aeq (agS (agR (jJ z) (zj (ze rfl (zD ⟨rfl,rfl,?_,?_⟩)))))
  ·rintro r ⟨rfl,e⟩
   exact ahz (agQ (ze rfl ⟨rfl,bn,e⟩))
  ·rintro C x ⟨rfl,i,e,rfl⟩
   exact .inr ⟨rfl,bn,i,e,rfl⟩
open PySem PySem.NumText PySem.Spec PyProof.Rows L2
theorem menu {ds:List PyData} {i n:Int} (h0:0<=i) (h1:i<n) (hn:n=(ds.length:Int)):∃ d,atI ds i=some d/\d∈ds:=by
 have hi:i.toNat<ds.length:=by omega
 have e:i=((i.toNat:Nat):Int):=by omega
 have q:=zL (ah2 hi)
 rw [<-e] at q
 exact⟨_,q,aiO hi⟩
theorem jZ {n i:Nat} {d:PyData} (h:(jS n)[i]?=some d):i<n/\d=.int (i:Int):=by
 unfold jS at h
 rw [ah9] at h
 by_cases hi:i<n
 ·rw [akV hi] at h
  cases h
  exact⟨hi,rfl⟩
 ·rw [ajr (by rw [akm];omega)] at h
  cases h
theorem qP (n:Nat):(jS n).length=n:=by unfold jS;simp
theorem yr {B T B' T':Nat} {x y:Str} (h:Tx B T x) (h':Tx B' T' y):Tx (B+B') (T+T') (x++y):=by
 have e:=vk x y
 refine⟨fun a ha=>?_,?_,?_⟩
 ·rw [e] at ha
  exact (ail.mp ha).elim (h.ch a) (h'.ch a)
 ·rw [<-zG,e,aij,zG,zG]
  exact Nat.add_le_add h.len h'.len
 ·rw [e,List.countP_append]
  exact Nat.add_le_add h.sep h'.sep
theorem len_app (x y:Str):(x++y).length=x.length+y.length:=by
 rw [<-zG,vk,aij,zG,zG]
theorem yj (B T:Nat) (z:Str) (h:((cpl z).all (fun c=>decide (c<128)) && (decide (z.length<=T) && decide ((cpl z).countP yX<=B)))=true):Tx B T z:=by
 rw [aiP,aiP] at h
 exact⟨fun c hc=>of_decide_eq_true (aiE.mp h.1 c hc),of_decide_eq_true h.2.1,of_decide_eq_true h.2.2⟩
theorem aeH {z:Str} {n:Int} (h0:0<=n) (h:Tx 0 1 z):Tx 0 n.toNat (va z n):=by
 refine⟨fun c hc=>h.ch c (abi hc),?_,?_⟩
 ·rw [vR h0]
  have:=ajX n.toNat h.len
  omega
 ·have hs:(cpl z).countP yX=0:=Nat.le_zero.mp h.sep
  rw [aj5] at hs
  refine ajO (aj5.mpr fun c hc=>hs c (abi hc))
theorem acD (m:Nat):cpl (aiN (toString ((m:Nat):Int)))=(Nat.toDigits 10 m).map Char.toNat:=PySem.W.KIN.signs_num m
theorem vW {m c:Nat} (h:c∈(Nat.toDigits 10 m).map Char.toNat):48<=c/\c<=57:=by
 obtain⟨ch,hch,rfl⟩:=aj8.mp h
 exact digit_range (Nat.isDigit_of_mem_toDigits (by decide) (by decide) hch)
theorem ado (i:Int) (h:i.natAbs<10 ^ 10):(∀ c∈cpl (aiN (toString i)),c=45 \/ (48<=c/\c<=57))/\(aiN (toString i)).length<=11:=by
 cases i with
 | ofNat m =>
  have hm:m<10 ^ 10:=h
  have e:=acD m
  refine⟨fun c hc=>?_,?_⟩
  ·have hc:c∈cpl (aiN (toString ((m:Nat):Int))):=hc
   rw [e] at hc
   exact .inr (vW hc)
  ·have:=PySem.W.KT.len_num (n:=(m:Int)) (by omega) (by omega)
   exact aih this (by decide)
 | negSucc m =>
  have hm:m+1<10 ^ 10:=h
  have e:cpl (aiN (toString (Int.negSucc m)))=45 :: cpl (aiN (toString (((m+1:Nat)):Int))):=by
   show (aiN ("-"++toString (m+1))).cps.toList=45 :: (aiN (toString (m+1))).cps.toList
   rw [signs_ofString,signs_ofString,String.toList_append]
   rfl
  have l:=PySem.W.KT.len_num (n:=((m+1:Nat):Int)) (by omega) (by omega)
  refine⟨fun c hc=>?_,?_⟩
  ·rw [e] at hc
   rcases ah7.mp hc with rfl | hc
   ·exact .inl rfl
   ·rw [acD] at hc
    exact .inr (vW hc)
  ·rw [<-zG,e,aiA,zG]
   omega
theorem ab6 {i:Int} (h:i.natAbs<10 ^ 10):Tx 0 11 (aiN (toString i)):=by
 obtain⟨h1,h2⟩:=ado i h
 refine⟨fun c hc=>?_,h2,ajO (aj5.mpr fun c hc=>?_)⟩
 ·have:=h1 c hc
  omega
 ·have:=h1 c hc
  show ¬ (c == 32 || c == 10)=true
  rw [akF,beq_iff_eq,beq_iff_eq]
  omega
noncomputable abbrev acE (K:ahX):Sp:=spD K 0 (fun (_:Unit) xs=>xs=[]) fun _ r=>∃ z,r=.str z/\Tx 5 200 z/\1<=z.length
theorem aeI (F:Def K mg "_law_signs" y4 []):FnIn P w K mg base (k+1) "_law_signs" [] (acE K):=by
 refine F.ok sc_law_signs rfl fun fa cdv A outer s H E hr=>⟨_,(zc (zv (i:=0) sc_law_signs.nd rfl (Or.inl rfl) zp) (zh (zy (zt zF (pv 0) zp)))),?_⟩
 rintro f xs ⟨⟩ hl rfl
 try dsimp only [zO,zm]
 refine zX (z5 (zR (zu (zN (ym (ze rfl ⟨_,rfl,zR ⟨_,rfl,by decide +kernel,_,rfl,yj _ _ _ (by decide +kernel),by decide +kernel⟩⟩))))))
noncomputable abbrev aeJ (K:ahX):Sp:=spD K 1 (fun (_:Unit) xs=>xs=[.feed]) fun _ r=>∃ z,r=.str z/\Tx 0 32 z
open PySem PySem.NumText PySem.Spec PyProof.Rows L2
theorem jF {b:Nat} {F:Str->Nat}:∀ ts:List Str,(∀ t∈ts,F t<=b)->(ts.map F).sum<=b * ts.length
 | [],_=>ajl _
 | t :: ts,h=>by
  have h1:=jF ts fun u hu=>h u (ah3 _ hu)
  have h2:=h t (aic ..)
  rw [ajb,akq,aiA,Nat.mul_add]
  omega
theorem abr {B T b t:Nat} {ts:List Str} {c:Nat} (hc:c=32 \/ c=10) (h:∀ v∈ts,Tx b t v) (hl:ts.length<=9) (h1:(b+1) * 9<=B+1) (h2:(t+1) * 9<=T+1) (h3:T+1<=16777216):JoinOk ⟨#[c]⟩ ts=true/\Tx B T (akf ⟨#[c]⟩ ts):=by
 have s1:=jF (b:=b) (F:=fun t=>(cpl t).countP yX) ts fun v hv=>(h v hv).sep
 have s2:=jF (b:=t) (F:=(·.length)) ts fun v hv=>(h v hv).len
 have m1:(b+1) * ts.length<=(b+1) * 9:=ak1 _ hl
 have m2:(t+1) * ts.length<=(t+1) * 9:=ak1 _ hl
 rw [ak8] at m1 m2
 exact acA hc (fun v hv=>(h v hv).ch) (by omega) (by omega) h3
noncomputable abbrev aeK (K:ahX):Sp:=spD K 1 (fun (_:Unit) xs=>xs=[.feed]) fun _ r=>∃ z,r=.str z/\Tx 80 2700 z
theorem afB (F:Def K mg "_law_text" jD pe) (uax:mg "str"=none) (uaf:mg "int"=none) (uag:mg "range"=none) (uad:FnIn P w K mg base k "_law_draw" pk (ab1 K)) (ubs:FnIn P w K mg base k "_law_word" pe (aeJ K)):FnIn P w K mg base (k+1) "_law_text" pe (aeK K):=by
 refine F.ok sc_law_text rfl fun fa cdv A outer s H E hr=>⟨_,(zc (zv (i:=1) sc_law_text.nd rfl (Or.inl rfl) (ye (zI (K:=K) rfl) (zZ (za (zt yl zd (zq uad hr rfl (za (pv 0) (za zd zb)))) (za (zq uad hr rfl (za (pv 0) (za zd zb))) zb))) (yt j4 rfl uaf ai4 (za (yv (yb (K:=K) rfl hr.units) (zq uad hr rfl (za (pv 0) (za zd zb))) zd (zC _)) zb)) (fun _ _=>rfl))) (zc (zv (i:=2) sc_law_text.nd rfl (Or.inl rfl) (ye (zI (K:=K) rfl) (zZ (za (zt yl zd (zq uad hr rfl (za (pv 0) (za zd zb)))) (za (zq uad hr rfl (za (pv 0) (za zd zb))) zb))) (yt j4 rfl uaf ai4 (za (yv (yb (K:=K) rfl hr.units) (zq uad hr rfl (za (pv 0) (za zd zb))) zd (zC _)) zb)) (fun _ _=>rfl))) (zc (zv (i:=3) sc_law_text.nd rfl (Or.inl rfl) (yv aaa (zq uad hr rfl (za (pv 0) (za zd zb))) zd (zC _))) (zc (zv (i:=4) sc_law_text.nd rfl (Or.inl rfl) (zZ zb)) (zc (jr ai7 rfl (jg rfl uag (za (pv 1) zb)) (zU (i:=5) sc_law_text.nd rfl (Or.inl rfl) (Or.inr rfl)) (zc (zv (i:=6) sc_law_text.nd rfl (Or.inl rfl) (zZ zb)) (zc (jr ai7 rfl (jg rfl uag (za (pv 2) zb)) (zU (i:=7) sc_law_text.nd rfl (Or.inl rfl) (Or.inr rfl)) (zc (zv (i:=8) sc_law_text.nd rfl (Or.inl rfl) (yt jt rfl uax ajT (za (zt vq (zq uad hr rfl (za (pv 0) (za zd zb))) zd) zb))) (zc (zY (PW.pt (qH (jn (yg (K:=K) rfl (pv 3) (fun _=>rfl))) (ve (zE (yb (K:=K) rfl hr.units) (zq uad hr rfl (za (pv 0) (za zd zb))) zd (zC _))))) (zh (zv (i:=8) sc_law_text.nd rfl (Or.inl rfl) (zq ubs hr rfl (za (pv 0) zb)))) zA) (zh (jo (jG ajj ajc ajd j5 (pv 6) (za (pv 8) zb))))))) (zh (jo (jG ajj ajc ajd j5 (pv 4) (za (jV (K:=K) rfl zp (za (pv 6) zb) rfl rfl rfl rfl rfl) zb))))))) (zh (zy (jV (K:=K) rfl zp (za (pv 4) zb) rfl rfl rfl rfl rfl)))))))),?_⟩
 rintro f xs ⟨⟩ hl rfl
 try dsimp only [zO,zm]
 have two:∀ {a b:Int} {q:Bool} {R:PyData->Prop},(∀ v:Int,0<=v->v<=9->R (.int v))->0<=a->a<6->0<=b->b<10->∃ v,atI [PyData.int (2+a),.int b] (if q then 1 else 0)=some v/\R v:=fun {a b q R} h a0 a1 b0 b1=>by
  cases q
  ·exact⟨_,zL (j:=0) rfl,h _ (by omega) (by omega)⟩
  ·exact⟨_,zL (j:=1) rfl,h _ (by omega) (by omega)⟩
 refine yp (fun ρ=>∃ h:Int,0<=h/\h<=9/\ρ=[some .feed,some (.dat (.int h)),none,none,none,none,none,none,none]) ?_ ?_
 ·walk_at "w"
  refine zz 6 ?_
  walk_at "w"
  rintro _ ⟨a,rfl,a0,a1⟩
  walk_at "w"
  refine zz 10 ?_
  walk_at "w"
  rintro _ ⟨b,rfl,b0,b1⟩
  walk_at "w"
  refine zz 6 ?_
  walk_at "w"
  rintro _ ⟨c,rfl,c0,c1⟩
  walk_at "w"
  exact two (fun v v0 v1=>zu ⟨v,v0,v1,rfl⟩) a0 a1 b0 b1
 rintro _ ⟨h,h0,h9,rfl⟩
 refine yp (fun ρ=>∃ v:Int,0<=v/\v<=9/\ρ=[some .feed,some (.dat (.int h)),some (.dat (.int v)),none,none,none,none,none,none]) ?_ ?_
 ·walk_at "w"
  refine zz 6 ?_
  walk_at "w"
  rintro _ ⟨a,rfl,a0,a1⟩
  walk_at "w"
  refine zz 10 ?_
  walk_at "w"
  rintro _ ⟨b,rfl,b0,b1⟩
  walk_at "w"
  refine zz 6 ?_
  walk_at "w"
  rintro _ ⟨c,rfl,c0,c1⟩
  walk_at "w"
  exact two (fun v v0 v1=>zu ⟨v,v0,v1,rfl⟩) a0 a1 b0 b1
 rintro _ ⟨v,v0,v9,rfl⟩
 refine yp (fun ρ=>∃ b:Bool,ρ=[some .feed,some (.dat (.int h)),some (.dat (.int v)),some (.dat (.bool b)),none,none,none,none,none]) ?_ ?_
 ·walk_at "w"
  refine zz 3 ?_
  walk_at "w"
  rintro _ ⟨a,rfl,a0,a1⟩
  walk_at "w"
  exact⟨_,rfl⟩
 rintro _ ⟨b,rfl⟩
 refine aea (w:=w) (aee (vg (acn ⟨show 4<9 by decide,fun D=>?_⟩)))
 refine aal (aed (qx (zj (ze rfl (zD ⟨h,rfl,by omega,by omega,?_⟩)))))
 refine⟨fun i ρ cs=>∃ (ts:List Str) (y5 y6 y7 y8:Option DV),ρ=[some .feed,some (.dat (.int h)),some (.dat (.int v)),some (.dat (.bool b)),some (.own (f.M.length+0)),y5,y6,y7,y8]/\cs=[.lst (ts.map .str)]/\ts.length=i/\∀ t∈ts,Tx 8 296 t,⟨[],_,_,_,_,rfl,rfl,rfl,fun _ z=>nomatch z⟩,?_,?_⟩
 ·rintro i d _ _ hd ⟨ts,y5,y6,y7,y8,rfl,rfl,ht,tx⟩
  obtain⟨hi,rfl⟩:=jZ hd
  refine zu (aee (vg (acn ⟨show 6<9 by decide,fun D2=>?_⟩)))
  refine aal (aed (qx (zj (ze rfl (zD ⟨v,rfl,by omega,by omega,?_⟩)))))
  refine⟨fun j ρ cs=>∃ (us:List Str) (y7 y8:Option DV),ρ=[some .feed,some (.dat (.int h)),some (.dat (.int v)),some (.dat (.bool b)),some (.own (f.M.length+0)),some (.dat (.int (i:Int))),some (.own (f.M.length+1)),y7,y8]/\cs=[.lst (ts.map .str),.lst (us.map .str)]/\us.length=j/\∀ t∈us,Tx 0 32 t,⟨[],_,_,rfl,rfl,rfl,fun _ z=>nomatch z⟩,?_,?_⟩
  ·rintro j d _ _ hd ⟨us,y7,y8,rfl,rfl,hu,ux⟩
   obtain⟨hj,rfl⟩:=jZ hd
   refine zu ?_
   refine afZ (fun ρ cs=>∃ z:Str,Tx 0 32 z/\ρ=[some .feed,some (.dat (.int h)),some (.dat (.int v)),some (.dat (.bool b)),some (.own (f.M.length+0)),some (.dat (.int (i:Int))),some (.own (f.M.length+1)),some (.dat (.int (j:Int))),some (.dat (.str z))]/\cs=[.lst (ts.map .str),.lst (us.map .str)]) (abN (z5 (abT ?_))) ?_
   ·walk_at "w"
    refine zz 25 ?_
    walk_at "w"
    rintro _ ⟨q,rfl,q0,q1⟩
    refine⟨_,rfl,zM ⟨_,rfl,_,rfl,?_,zu ⟨_,(ab6 ?_).imp (by decide) (by decide),rfl,rfl⟩⟩⟩ <;> (show Int.natAbs (q - 12)<_;omega)
   rintro _ _ ⟨z,zx,rfl,rfl⟩
   refine afZ (fun ρ cs=>∃ z:Str,Tx 0 32 z/\ρ=[some .feed,some (.dat (.int h)),some (.dat (.int v)),some (.dat (.bool b)),some (.own (f.M.length+0)),some (.dat (.int (i:Int))),some (.own (f.M.length+1)),some (.dat (.int (j:Int))),some (.dat (.str z))]/\cs=[.lst (ts.map .str),.lst (us.map .str)]) (abN (jU ?_ ?_ (yf ⟨z,zx,rfl,rfl⟩))) ?_
   ·refine qv (qe (yJ (ze rfl ⟨b,rfl,?_⟩)))
    split
    ·refine yy (jO (zz 6 ?_))
     walk_at "w"
     rintro _ ⟨q,rfl,q0,q1⟩
     walk_at "w"
     trivial
    ·trivial
   ·refine z5 (zz () ?_)
    walk_at "w"
    rintro _ ⟨z,rfl,zx⟩
    exact zu ⟨z,zx,rfl,rfl⟩
   rintro _ _ ⟨z,zx,rfl,rfl⟩
   refine acr (j:=1) rfl rfl (by rw [ahZ];omega) (aec (ze rfl ⟨us++[z],_,_,rfl,?_,by rw [aij,hu];rfl,fun t ht=>?_⟩))
   ·show [OC.lst (ts.map .str),OC.lst (us.map .str++[.str z])]=_
    rw [aim]
    rfl
   ·rcases ail.mp ht with ht | ht
    ·exact ux t ht
    ·cases ah5.mp ht
     exact zx
  ·rintro _ _ ⟨us,y7,y8,rfl,rfl,hu,ux⟩
   rw [qP] at hu
   obtain⟨jk,jx⟩:=abr (B:=8) (T:=296) (c:=32) (.inl rfl) ux (by omega) (by decide) (by decide) (by decide)
   refine acr (j:=0) rfl rfl (by rw [ahZ];have:i<h.toNat:=hi;omega) (aez (vO (ze (d:=.list (us.map .str)) ?_ ⟨us,rfl,jk,_,rfl,ts++[akf " " us],some (.dat (.int (i:Int))),none,yH (f.M.length+1) y7,yH (f.M.length+1) y8,?_,?_,by rw [aij,ht];rfl,fun t ht=>?_⟩)))
   ·simp [freed]
   ·simp [yH]
   ·show [OC.lst (ts.map .str++[.str (akf " " us)])]=_
    rw [aim]
    rfl
   ·rcases ail.mp ht with ht | ht
    ·exact tx t ht
    ·cases ah5.mp ht
     exact jx
 ·rintro _ _ ⟨ts,y5,y6,y7,y8,rfl,rfl,ht,tx⟩
  rw [qP] at ht
  obtain⟨jk,jx⟩:=abr (B:=80) (T:=2700) (c:=10) (.inr rfl) tx (by omega) (by decide) (by decide) (by decide)
  refine aef (zN (vO (ze (d:=.list (ts.map .str)) ?_ ⟨ts,rfl,jk,_,rfl,jx⟩)))
  simp [freed]
open PySem PySem.NumText PySem.Spec PyProof.Rows L2
theorem afC {i:Int} (h:0<=i) (u:Option Int) (n:Nat):aiv (some i) u 1 n=aiv (some (min i n)) u 1 n:=by
 have a:¬ i<0:=by omega
 have b:¬ min i (n:Int)<0:=by omega
 have c:min (min i (n:Int)) n=min i n:=by omega
 simp only [aiv,a,b,c,if_false,show ((1:Int) > 0)=True from by simp,if_true]
theorem acF {j:Int} (h:0<=j) (l:Option Int) (n:Nat):aiv l (some j) 1 n=aiv l (some (min j n)) 1 n:=by
 have a:¬ j<0:=by omega
 have b:¬ min j (n:Int)<0:=by omega
 have c:min (min j (n:Int)) n=min j n:=by omega
 simp only [aiv,a,b,c,if_false,show ((1:Int) > 0)=True from by simp,if_true]
theorem adp (z:Str) {i j:Int} (h0:0<=i) (h1:i<=j):∃ a m:Nat,(m:Int)<=j - i/\m<=z.length/\ah6 z (some i) (some j)=mkS (((cpl z).drop a).take m):=by
 obtain⟨a,ea⟩:=ajk (show 0<=min i (z.length:Int) by omega)
 obtain⟨b,eb⟩:=ajk (show 0<=min j (z.length:Int) by omega)
 refine⟨a,b - a,by omega,by omega,?_⟩
 have e:ah6 z (some i) (some j)=ah6 z (some (a:Int)) (some (b:Int)):=by
  unfold ah6
  rw [afC h0,acF (ak6 h0 h1),ea,eb]
 rw [e,StrLaws.sliceText_nat z (by omega) (by omega)]
 rfl
theorem aeL {B T:Nat} {z:Str} (h:Tx B T z) (a m:Nat):Tx (min B m) (min T m) (mkS (((cpl z).drop a).take m)):=by
 have sb:List.Sublist (((cpl z).drop a).take m) (cpl z):=(List.take_sublist _ _).trans (List.drop_sublist _ _)
 have lm:(((cpl z).drop a).take m).length<=m:=by rw [aiz];omega
 refine⟨fun c hc=>?_,?_,?_⟩
 ·rw [z8] at hc
  exact h.ch c (sb.subset hc)
 ·rw [<-zG,z8]
  have:=sb.length_le
  rw [zG] at this
  have:=h.len
  omega
 ·rw [z8]
  have l1:=sb.countP_le (p:=fun c=>c == 32 || c == 10)
  have l2:=ajs (p:=fun c=>c == 32 || c == 10) (l:=((cpl z).drop a).take m)
  have:=h.sep
  omega
theorem aaT {B T:Nat} {z:Str} (h:Tx B T z) {i j:Int} (h0:0<=i) (h1:i<=j):Tx (min B (j - i).toNat) (min T (j - i).toNat) (ah6 z (some i) (some j)):=by
 obtain⟨a,m,hm,_,e⟩:=adp z h0 h1
 rw [e]
 exact (aeL h a m).imp (by omega) (by omega)
theorem ahF {B T:Nat} {z:Str} (h:Tx B T z) {j:Int} (h0:0<=j):Tx B T (ah6 z none (some j)):=by
 have e:ah6 z none (some j)=ah6 z (some 0) (some j):=by unfold ah6;rw [StrLaws.sliceIdx_none_lo]
 rw [e]
 exact (aaT h (Int.le_refl 0) h0).imp (ajJ _ _) (ajJ _ _)
theorem aaU {B T:Nat} {z:Str} (h:Tx B T z) {i:Int} (h0:0<=i):Tx B T (ah6 z (some i) none):=by
 have e:ah6 z (some i) none=ah6 z (some i) (some (max i z.length)):=by
  unfold ah6
  rw [StrLaws.sliceIdx_none_hi,acF (j:=max i z.length) (by omega)]
  rw [show min (max i (z.length:Int)) z.length=z.length by omega]
 rw [e]
 exact (aaT h h0 (by omega)).imp (ajJ _ _) (ajJ _ _)
theorem qQ {B T:Nat} {z:Str} (h:Tx B T z) (hT:2 * T+3<=16777216) {M:List Str} {x:Str} (hx:x∈zf z \/ x=ajU) (hs:∀ F:Str->Nat,(M.map F).sum<=((zf z).map F).sum+F x) (hl:M.length<=(zf z).length+1) (hc:∀ m∈M,∀ a∈cpl m,a<128) :
  JoinOk ⟨#[10]⟩ M=true/\Tx (2 * B+2) (2 * T+2) (akf ⟨#[10]⟩ M):=by
 have e1:=yK yX z 10
 have e2:=yK (fun _=>true) z 10
 rw [show yX 10=true from rfl] at e1
 simp only [if_true,ajZ] at e1 e2
 have b1:(cpl z).countP yX<=B:=h.sep
 have b2:=h.len
 have tx:Tx B T x:=by
  rcases hx with hx | rfl
  ·exact j8 (.inr rfl) h hx
  ·exact⟨(fun _ z=>nomatch z),ajl _,ajl _⟩
 have s1:=hs fun t=>(cpl t).countP yX
 have s2:=hs (·.length)
 have x1:(cpl x).countP yX<=B:=tx.sep
 have x2:=tx.len
 have e3:((zf z).map (·.length)).sum+(zf z).length=z.length+1:=by
  have:((zf z).map (·.length))=(aiF z ⟨#[10]⟩).map fun v=>(cpl v).length:=aj4 fun v _=>(zG v).symm
  rw [this]
  rw [akt,zG] at e2
  exact e2.symm
 have e4:((zf z).map fun t=>(cpl t).countP yX).sum+(zf z).length=(cpl z).countP yX+1:=e1.symm
 refine acA (.inr rfl) hc ?_ ?_ (by omega)
 ·omega
 ·omega
theorem vG {α:Type} {F:α->PyData} {rs:List α} {a:Int} (h0:0<=a) (h1:a<=rs.length):cutD (rs.map F) (some a) none=(rs.drop a.toNat).map F:=by
 unfold L2.cutD HT.sIx
 dsimp only
 rw [if_neg (by omega),ahZ,akE (by omega),ajn (by rw [aiL,ahZ];omega),List.map_drop]
theorem ad7 {α:Type} {F:α->PyData} {rs:List α} {a:Int} (h0:0<=a) (h1:a<=rs.length):cutD (rs.map F) none (some a)=(rs.take a.toNat).map F:=by
 unfold L2.cutD HT.sIx
 dsimp only
 rw [if_neg (by omega),ahZ,akE (by omega),akR,Nat.sub_zero,List.map_take]
theorem aaV {F:Str->Nat} (L:List Str) (n:Nat):((L.take n).map F).sum+((L.drop n).map F).sum=(L.map F).sum:=by
 rw [<-aiX,<- aim,List.take_append_drop]
noncomputable abbrev abt (K:ahX):Sp:=spD K 2 (fun (c:Nat×Nat×Str) xs=>xs=[.feed,.dat (.str c.2.2)]/\Tx c.1 c.2.1 c.2.2/\c.1<=700/\c.2.1<=29000) fun c r=>∃ z,r=.str z/\Tx (2 * c.1+2) (2 * c.2.1+2) z
theorem adq (F:Def K mg "_law_spoilt" yQ pz) (uac:mg "len"=none) (uad:FnIn P w K mg base k "_law_draw" pk (ab1 K)) (ubt:FnIn P w K mg base k "_law_signs" [] (acE K)):FnIn P w K mg base (k+1) "_law_spoilt" pz (abt K):=by
 refine F.ok sc_law_spoilt rfl fun fa cdv A outer s H E hr=>⟨_,(zc (zv (i:=2) sc_law_spoilt.nd rfl (Or.inl rfl) (zt zF (zt zF (adh ubt hr rfl) (zt aaL zp zd)) zp)) (zc (zv (i:=3) sc_law_spoilt.nd rfl (Or.inl rfl) (ye abD (pv 2) (zq uad hr rfl (za (pv 0) (za (zi yw rfl uac air (za (pv 2) zb)) zb))) (fun _ _=>rfl))) (zc (zv (i:=4) sc_law_spoilt.nd rfl (Or.inl rfl) (zq uad hr rfl (za (pv 0) (za (zt yl (zi yw rfl uac air (za (pv 1) zb)) zd) zb)))) (zc (zv (i:=5) sc_law_spoilt.nd rfl (Or.inl rfl) (zq uad hr rfl (za (pv 0) (za zd zb)))) (zc (zY (zE (yb (K:=K) rfl hr.units) (pv 5) zd (zC _)) (zh (zy (zt zF (zt zF (zJ yE (pv 1) zV (zK (pv 4))) (pv 3)) (zJ yE (pv 1) (zK (pv 4)) zV)))) zA) (zc (zY (zE (yb (K:=K) rfl hr.units) (pv 5) zd (zC _)) (zh (zy (zt zF (zJ yE (pv 1) zV (zK (pv 4))) (zJ yE (pv 1) (zK (zt yl (pv 4) zd)) zV)))) zA) (zc (zY (zE (yb (K:=K) rfl hr.units) (pv 5) zd (zC _)) (zh (zy (zt zF (zt zF (zJ yE (pv 1) zV (zK (pv 4))) (pv 3)) (zJ yE (pv 1) (zK (zt yl (pv 4) zd)) zV)))) zA) (zc (zY (zE (yb (K:=K) rfl hr.units) (pv 5) zd (zC _)) (zc (zv (i:=6) sc_law_spoilt.nd rfl (Or.inl rfl) (zt zF (zJ yE (pv 1) (zK (zt yl (pv 4) zd)) (zK (zt yl (pv 4) zd))) (zJ yE (pv 1) (zK (pv 4)) (zK (zt yl (pv 4) zd))))) (zh (zy (zt zF (zt zF (zJ yE (pv 1) zV (zK (pv 4))) (pv 6)) (zJ yE (pv 1) (zK (zt yl (pv 4) zd)) zV))))) zA) (zc (zv (i:=7) sc_law_spoilt.nd rfl (Or.inl rfl) (jG aiD aiZ ai0 jW (pv 1) (za zp zb))) (zc (zv (i:=8) sc_law_spoilt.nd rfl (Or.inl rfl) (zq uad hr rfl (za (pv 0) (za (zi (zP (K:=K) rfl) rfl uac air (za (pv 7) zb)) zb)))) (zc (zY (zE (yb (K:=K) rfl hr.units) (pv 5) zd (zC _)) (zh (zy (jV (K:=K) rfl zp (za (zt (yV (K:=K) rfl) (zt (yV (K:=K) rfl) (zJ (jj (K:=K) rfl) (pv 7) zV (zK (pv 8))) (zZ (za (ye (zI (K:=K) rfl) (pv 7) (pv 8) (fun _ _=>rfl)) zb))) (zJ (jj (K:=K) rfl) (pv 7) (zK (pv 8)) zV)) zb) rfl rfl rfl rfl rfl))) zA) (zc (zY (zE (yb (K:=K) rfl hr.units) (pv 5) zd (zC _)) (zh (zy (jV (K:=K) rfl zp (za (zt (yV (K:=K) rfl) (zJ (jj (K:=K) rfl) (pv 7) zV (zK (pv 8))) (zJ (jj (K:=K) rfl) (pv 7) (zK (zt yl (pv 8) zd)) zV)) zb) rfl rfl rfl rfl rfl))) zA) (zc (zY (zE (yb (K:=K) rfl hr.units) (pv 5) zd (zC _)) (zh (zy (jV (K:=K) rfl zp (za (zt (yV (K:=K) rfl) (zt (yV (K:=K) rfl) (zJ (jj (K:=K) rfl) (pv 7) zV (zK (pv 8))) (zZ (za zp zb))) (zJ (jj (K:=K) rfl) (pv 7) (zK (pv 8)) zV)) zb) rfl rfl rfl rfl rfl))) zA) (zh (zy (ye (zI (K:=K) rfl) (zZ (za (zt zF (pv 1) zp) (za (zt zF zp (pv 1)) (za (zt zF (pv 1) zp) (za (zt zF zp (pv 1)) zb))))) (zq uad hr rfl (za (pv 0) (za zd zb))) (fun _ _=>rfl))))))))))))))))),?_⟩
 rintro f xs ⟨B,T,z⟩ hl ⟨rfl,tx,hB,hT⟩
 try dsimp only [zO,zm]
 dsimp only at tx hB hT
 have tl:=tx.len
 have ll:1000000<=sizeLine:=by decide
 refine yp (fun ρ=>∃ g:Str,1<=g.length/\Tx 200 2000 g/\ρ=[some .feed,some (.dat (.str z)),some (.dat (.str g)),none,none,none,none,none,none]) (z5 (ym (ym (zz () (zD ⟨rfl,rfl,?_⟩))))) ?_
 ·rintro _ ⟨g,rfl,gx,g1⟩
  have gl:=gx.len
  have r9:(va "\n" 9).length=9:=by rw [vR (by decide)];rfl
  have n12:("0123456789- ":Str).length=12:=rfl
  refine⟨g,rfl,abV (zR ⟨_,rfl,zM ⟨9,rfl,by decide,by decide,by decide +kernel,_,rfl,by rw [r9];omega,_,rfl,zR ⟨_,rfl,?_,zu ⟨_,?_,?_,rfl⟩⟩⟩⟩)⟩
  ·rw [len_app,r9,n12]
   omega
  ·rw [len_app,len_app,r9,n12]
   omega
  ·exact (yr (yr gx (yj 9 9 (va "\n" 9) (by decide +kernel))) (yj 2 12 "0123456789- " (by decide +kernel))).imp (by decide) (by decide)
 rintro _ ⟨g,g1,gx,rfl⟩
 have gl:=gx.len
 refine yp (fun ρ=>∃ c:Nat,c<128/\ρ=[some .feed,some (.dat (.str z)),some (.dat (.str g)),some (.dat (.str ⟨#[c]⟩)),none,none,none,none,none]) (z5 (aeu (ze rfl ⟨g,rfl,zz (g.length:Int) (qK rfl (zj (vP (ze rfl ⟨g,rfl,by omega,zD ⟨rfl,⟨rfl,by omega,by omega⟩,?_⟩⟩))))⟩))) ?_
 ·rintro _ ⟨q,rfl,q0,q1⟩
  obtain⟨m,rfl⟩:=ajk q0
  have hm:m<(cpl g).length:=by rw [zG];omega
  exact⟨m,(cpl g)[m],rfl,by omega,zL (ah2 hm),zu ⟨_,gx.ch _ (aiO hm),rfl⟩⟩
 rintro _ ⟨c,hc,rfl⟩
 have cx:Tx 1 1 ⟨#[c]⟩:=by
  refine⟨fun a ha=>?_,aie 1,?_⟩
  ·have ha:a∈[c]:=ha
   cases ah5.mp ha
   exact hc
  ·exact ajs (l:=[c])
 refine yp (fun ρ=>∃ a:Int,0<=a/\ρ=[some .feed,some (.dat (.str z)),some (.dat (.str g)),some (.dat (.str ⟨#[c]⟩)),some (.dat (.int a)),none,none,none,none]) (z5 (zz ((z.length:Int)+1) (qK rfl (zj (jN (vP (ze rfl ⟨z,rfl,by omega,_,rfl,zM ⟨_,rfl,zD ⟨rfl,⟨rfl,by omega,by omega⟩,?_⟩⟩⟩))))))) ?_
 ·rintro _ ⟨q,rfl,q0,q1⟩
  exact zu ⟨q,q0,rfl⟩
 rintro _ ⟨a,a0,rfl⟩
 refine yp (fun ρ=>∃ v:Int,ρ=[some .feed,some (.dat (.str z)),some (.dat (.str g)),some (.dat (.str ⟨#[c]⟩)),some (.dat (.int a)),some (.dat (.int v)),none,none,none]) (z5 (zz 8 ?_)) ?_
 ·walk_at "w"
  rintro _ ⟨q,rfl,q0,q1⟩
  exact zu ⟨q,rfl⟩
 rintro _ ⟨v,rfl⟩
 have t1:=ahF tx a0
 have l1:=t1.len
 have f0:=aaU tx a0
 have m0:=f0.len
 have f1:=aaU tx (i:=a+1) (by omega)
 have m1:=f1.len
 have f2:=aaU tx (i:=a+2) (by omega)
 have m2:=f2.len
 have p1:=(aaT tx (i:=a+1) (j:=a+2) (by omega) (by omega)).imp (B':=1) (T':=1) (by omega) (by omega)
 have p0:=(aaT tx (i:=a) (j:=a+1) (by omega) (by omega)).imp (B':=1) (T':=1) (by omega) (by omega)
 have q1:=p1.len
 have q0:=p0.len
 have cl:(⟨#[c]⟩:Str).length=1:=rfl
 have la:=fun x y:Str=>len_app x y
 refine zX (jU ?_ ?_ (yf ?_))
 ·walk_at "w"
  trivial
 ·refine zN (ym (ym (yF (ze rfl ⟨z,rfl,by omega,yA (yk (ze rfl ⟨a,rfl,_,rfl,ze rfl ⟨_,rfl,by omega,_,rfl,yF (ze rfl ⟨z,rfl,by omega,yk (ze rfl ⟨a,rfl,yA ⟨_,rfl,?_,_,rfl,?_⟩⟩)⟩)⟩⟩))⟩))))
  ·rw [la]
   omega
  ·exact (yr (yr t1 cx) f0).imp (by omega) (by omega)
 refine zX (jU ?_ ?_ (yf ?_))
 ·walk_at "w"
  trivial
 ·refine zN (ym (yF (ze rfl ⟨z,rfl,by omega,yA (yk (ze rfl ⟨a,rfl,_,rfl,yF (ze rfl ⟨z,rfl,by omega,yk (jN (ze rfl ⟨a,rfl,zM ⟨1,rfl,_,rfl,yA ⟨_,rfl,?_,_,rfl,?_⟩⟩⟩))⟩)⟩))⟩)))
  ·omega
  ·exact (yr t1 f1).imp (by omega) (by omega)
 refine zX (jU ?_ ?_ (yf ?_))
 ·walk_at "w"
  trivial
 ·refine zN (ym (ym (yF (ze rfl ⟨z,rfl,by omega,yA (yk (ze rfl ⟨a,rfl,_,rfl,ze rfl ⟨_,rfl,by omega,_,rfl,yF (ze rfl ⟨z,rfl,by omega,yk (jN (ze rfl ⟨a,rfl,zM ⟨1,rfl,_,rfl,yA ⟨_,rfl,?_,_,rfl,?_⟩⟩⟩))⟩)⟩⟩))⟩))))
  ·rw [la]
   omega
  ·exact (yr (yr t1 cx) f1).imp (by omega) (by omega)
 refine zX (jU ?_ ?_ (yf ?_))
 ·walk_at "w"
  trivial
 ·refine yp (fun ρ=>ρ=[some .feed,some (.dat (.str z)),some (.dat (.str g)),some (.dat (.str ⟨#[c]⟩)),some (.dat (.int a)),some (.dat (.int v)),some (.dat (.str (ah6 z (some (a+1)) (some (a+2))++ah6 z (some a) (some (a+1))))),none,none]) (z5 (ym (yF (ze rfl ⟨z,rfl,by omega,yk (jN (ze rfl ⟨a,rfl,zM ⟨1,rfl,_,rfl,yk (jN (ze rfl ⟨a,rfl,zM ⟨2,rfl,_,rfl,_,rfl,yF (ze rfl ⟨z,rfl,by omega,yk (ze rfl ⟨a,rfl,yk (jN (ze rfl ⟨a,rfl,zM ⟨1,rfl,_,rfl,_,rfl,by omega,zu rfl⟩⟩))⟩)⟩)⟩⟩))⟩⟩))⟩)))) ?_
  rintro _ rfl
  have px:=yr p1 p0
  have pl:=px.len
  refine zN (ym (ym (yF (ze rfl ⟨z,rfl,by omega,yA (yk (ze rfl ⟨a,rfl,_,rfl,ze rfl ⟨_,rfl,by omega,_,rfl,yF (ze rfl ⟨z,rfl,by omega,yk (jN (ze rfl ⟨a,rfl,zM ⟨2,rfl,_,rfl,yA ⟨_,rfl,?_,_,rfl,?_⟩⟩⟩))⟩)⟩⟩))⟩))))
  ·rw [la]
   omega
  ·exact (yr (yr t1 px) f2).imp (by omega) (by omega)
 have nl:(zf z).length<=B+1:=jX (.inr rfl) tx
 have np:1<=(zf z).length:=split_pos z ⟨#[10]⟩
 have ml:((zf z).map PyData.str).length=(zf z).length:=ahZ _
 refine zX (z5 (PEdO.ped (qA (c:=10) (ze rfl ⟨z,rfl,by omega,zu ?_⟩))))
 refine yp (fun ρ=>∃ n:Nat,n<(zf z).length/\ρ=[some .feed,some (.dat (.str z)),some (.dat (.str g)),some (.dat (.str ⟨#[c]⟩)),some (.dat (.int a)),some (.dat (.int v)),none,some (.dat (.list ((zf z).map .str))),some (.dat (.int (n:Int)))]) (z5 (zz ((zf z).length:Int) (qK rfl (zj (adV (zj (ze rfl (zD (.inl ⟨_,rfl,zD ⟨rfl,⟨?_,by omega,by omega⟩,?_⟩⟩)))))))))  ?_
 ·show [DV.feed,DV.dat (.int (((zf z).map PyData.str).length:Int))]=_
  rw [ml]
 ·rintro _ ⟨q,rfl,q0,q1⟩
  obtain⟨m,rfl⟩:=ajk q0
  exact zu ⟨m,by omega,rfl⟩
 rintro _ ⟨n,hn,rfl⟩
 have ct:cutD ((zf z).map PyData.str) none (some (n:Int))=((zf z).take n).map .str:=by rw [ad7 (by omega) (by omega),aiT]
 have cf:cutD ((zf z).map PyData.str) (some (n:Int)) none=((zf z).drop n).map .str:=by rw [vG (by omega) (by omega),aiT]
 have cg:cutD ((zf z).map PyData.str) (some ((n:Int)+1)) none=((zf z).drop (n+1)).map .str:=by
  rw [show ((n:Int)+1)=((n+1:Nat):Int) from rfl,vG (by omega) (by omega),aiT]
 have chs:∀ m∈zf z,∀ a∈cpl m,a<128:=fun m hm=>(j8 (.inr rfl) tx hm).ch
 have lt:((zf z).take n).length=n:=by rw [aiz];omega
 have ld:((zf z).drop n).length=(zf z).length - n:=aiL ..
 have lg:((zf z).drop (n+1)).length=(zf z).length - (n+1):=aiL ..
 refine zX (jU ?_ ?_ (yf ?_))
 ·walk_at "w"
  trivial
 ·obtain⟨jk,jx⟩:=qQ (M:=(zf z).take n++[(zf z)[n]]++(zf z).drop n) tx (by omega) (x:=(zf z)[n]) (.inl (aiO hn)) (fun F=>by
   have:=aaV (F:=F) (zf z) n
   rw [aim,aim,aiX,aiX]
   show _+(F (zf z)[n]+0)+_<=_
   omega) (by rw [aij,aij,lt,ld];show n+1+_<=_;omega) (fun m hm=>by
   rcases ail.mp hm with hm | hm
   ·rcases ail.mp hm with hm | hm
    ·exact chs m (ajC hm)
    ·cases ah5.mp hm
     exact chs _ (aiO hn)
   ·exact chs m (ajD hm))
  refine zN (vO (ql (ql (vH (ze rfl ⟨_,rfl,yA (yk (ze rfl ⟨_,rfl,_,rfl,jQ (zj (qt (ze rfl ⟨_,rfl,ze rfl ⟨_,rfl,.str (zf z)[n],?_,zD ⟨_,rfl,show 1<=1000 by decide,_,rfl,?_,_,rfl,vH (ze rfl ⟨_,rfl,yk (ze rfl ⟨_,rfl,yA ⟨_,rfl,?_,(zf z).take n++[(zf z)[n]]++(zf z).drop n,?_,jk,_,rfl,jx⟩⟩)⟩)⟩⟩⟩)))⟩))⟩)))))
  ·exact zL (by rw [ah9,ah2 hn];rfl)
  ·rw [ct,ahZ,lt]
   show n+1<=1000
   omega
  ·rw [ct,cf,aij,ahZ,ahZ,lt,ld]
   show n+1+_<=1000
   omega
  ·rw [ct,cf,aim,aim]
   rfl
 refine zX (jU ?_ ?_ (yf ?_))
 ·walk_at "w"
  trivial
 ·obtain⟨jk,jx⟩:=qQ (M:=(zf z).take n++(zf z).drop (n+1)) tx (by omega) (x:=ajU) (.inr rfl) (fun F=>by
   have:=aaV (F:=F) (zf z) n
   have e:(zf z).drop n=(zf z)[n] :: (zf z).drop (n+1):=List.drop_eq_getElem_cons hn
   rw [e,ajb,akq] at this
   rw [aim,aiX]
   omega) (by rw [aij,lt,lg];omega) (fun m hm=>by
   rcases ail.mp hm with hm | hm
   ·exact chs m (ajC hm)
   ·exact chs m (ajD hm))
  refine zN (vO (ql (vH (ze rfl ⟨_,rfl,yA (yk (ze rfl ⟨_,rfl,_,rfl,vH (ze rfl ⟨_,rfl,yk (jN (ze rfl ⟨_,rfl,zM ⟨_,rfl,_,rfl,yA ⟨_,rfl,?_,(zf z).take n++(zf z).drop (n+1),?_,jk,_,rfl,jx⟩⟩⟩))⟩)⟩))⟩))))
  ·rw [ct,cg,ahZ,ahZ,lt,lg]
   omega
  ·rw [ct,cg,aim]
 refine zX (jU ?_ ?_ (yf ?_))
 ·walk_at "w"
  trivial
 ·obtain⟨jk,jx⟩:=qQ (M:=(zf z).take n++[ajU]++(zf z).drop n) tx (by omega) (x:=ajU) (.inr rfl) (fun F=>by
   have:=aaV (F:=F) (zf z) n
   rw [aim,aim,aiX,aiX]
   show _+(F ajU+0)+_<=_
   omega) (by rw [aij,aij,lt,ld];show n+1+_<=_;omega) (fun m hm=>by
   rcases ail.mp hm with hm | hm
   ·rcases ail.mp hm with hm | hm
    ·exact chs m (ajC hm)
    ·cases ah5.mp hm
     exact fun _ z=>nomatch z
   ·exact chs m (ajD hm))
  refine zN (vO (ql (ql (vH (ze rfl ⟨_,rfl,yA (yk (ze rfl ⟨_,rfl,_,rfl,jQ (zj (zR (zD ⟨_,rfl,show 1<=1000 by decide,_,rfl,?_,_,rfl,vH (ze rfl ⟨_,rfl,yk (ze rfl ⟨_,rfl,yA ⟨_,rfl,?_,(zf z).take n++[ajU]++(zf z).drop n,?_,jk,_,rfl,jx⟩⟩)⟩)⟩)))⟩))⟩)))))
  ·rw [ct,ahZ,lt]
   show n+1<=1000
   omega
  ·rw [ct,cf,aij,ahZ,ahZ,lt,ld]
   show n+1+_<=1000
   omega
  ·rw [ct,cf,aim,aim]
   rfl
 have nx:Tx 1 1 "\n":=yj _ _ _ (by decide +kernel)
 have bx:Tx 1 1 " ":=yj _ _ _ (by decide +kernel)
 have nn:("\n":Str).length=1:=rfl
 have bn:(" ":Str).length=1:=rfl
 refine zN (qt (jQ (zj (ym (ze rfl ⟨_,rfl,zR ⟨_,rfl,by omega,zj (ym (zR ⟨_,rfl,ze rfl ⟨_,rfl,by omega,zj (ym (ze rfl ⟨_,rfl,zR ⟨_,rfl,by omega,zj (ym (zR ⟨_,rfl,ze rfl ⟨_,rfl,by omega,zD ⟨_,rfl,show 4<=1000 by decide,_,rfl,zz 4 ?_⟩⟩⟩))⟩⟩))⟩⟩))⟩⟩)))))
 walk_at "w"
 rintro _ ⟨q,rfl,q0,q1⟩
 have:q=0 \/ q=1 \/ q=2 \/ q=3:=by omega
 rcases this with rfl | rfl | rfl | rfl
 ·exact⟨_,rfl,_,zL (j:=0) rfl,_,rfl,(yr tx nx).imp (by omega) (by omega)⟩
 ·exact⟨_,rfl,_,zL (j:=1) rfl,_,rfl,(yr nx tx).imp (by omega) (by omega)⟩
 ·exact⟨_,rfl,_,zL (j:=2) rfl,_,rfl,(yr tx bx).imp (by omega) (by omega)⟩
 ·exact⟨_,rfl,_,zL (j:=3) rfl,_,rfl,(yr bx tx).imp (by omega) (by omega)⟩
open PySem PySem.NumText PySem.Spec PyProof.Rows L2
theorem aas:∀ l:List Nat,(∀ c∈l,c<128)->aja (l.map fun c=>PyData.str ⟨#[c]⟩)=true
 | [],_=>rfl
 | c :: l,h=>by
  show ((PyData.str ⟨#[c]⟩).canLay0 && aja (l.map fun c=>PyData.str ⟨#[c]⟩))=true
  rw [ab5 (h c (aic ..)),aas l fun a ha=>h a (ah3 _ ha)]
  rfl
theorem afD (l:List PyData):aiK (.list l) (.list [])=l.isEmpty:=by
 cases l <;> rfl
noncomputable def v7 (l:List Nat):PyData:=if jK l then .int (adl l) else .none
noncomputable abbrev abu (K:ahX):Sp:=spD K 1 (fun (c:Str) xs=>xs=[.dat (.str c)]/\Tx 700 29000 c) fun c r=>r=v7 (cpl c)
theorem ads (F:Def K mg "_law_number" yR pq) (uac:mg "len"=none) (uaf:mg "int"=none):FnIn P w K mg base (k+1) "_law_number" pq (abu K):=by
 refine F.ok sc_law_number rfl fun fa cdv A outer s H E hr=>⟨_,(zc (zv (i:=1) sc_law_number.nd rfl (Or.inl rfl) (yv (yb (K:=K) rfl hr.units) (zJ yE (pv 0) zV (zK zd)) zp (zC _))) (zc (zv (i:=2) sc_law_number.nd rfl (Or.inl rfl) (zJ yE (pv 0) (zK (yt j4 rfl uaf ai4 (za (pv 1) zb))) zV)) (zc (zY (PW.pt (qR (zE (yb (K:=K) rfl hr.units) (pv 2) zp (zC _)) (qR (zE aaa (zi yw rfl uac air (za (pv 2) zb)) zd (zC _)) (qf (zE (vC (K:=K) rfl hr.units) (qr (N:=["_law_sign"]) (own:=1) (fr:=[]) ⟨rfl,by decide +kernel,of_decide_eq_true (by kernel_rfl),of_decide_eq_true (by kernel_rfl),of_decide_eq_true (by kernel_rfl),rfl⟩ rfl (abU (pv 2)) (fun _ _ _ _=>(zU (i:=0) (show (["_law_sign"]:List Str).Nodup by decide +kernel) rfl (Or.inl rfl) (Or.inr rfl))) (fun _ _ _ _=>(ae2 (zE aay (pv 0) zp rfl))) (fun _ _ _ _=>(pv 0)) rfl rfl (fun _=>rfl)) (zZ zb) (zC _)))))) (zh (zy abv)) zA) (zc (zY (PW.pt (qH (zE (yb (K:=K) rfl hr.units) (ye abD (pv 2) zd (fun _ _=>rfl)) zp (zC _)) (ve (PW.pt (qR (yg (K:=K) rfl (pv 1) (fun _=>rfl)) (qf (zE aaa (zi yw rfl uac air (za (pv 2) zb)) zd (zC _)))))))) (zh (zy abv)) zA) (zc (zv (i:=3) sc_law_number.nd rfl (Or.inl rfl) zd) (zc (jr ai7 rfl (abU (pv 2)) (zU (i:=4) sc_law_number.nd rfl (Or.inl rfl) (Or.inr rfl)) (zh (zv (i:=3) sc_law_number.nd rfl (Or.inl rfl) (zt yl (zt vt zd (pv 3)) (jG aiD PySem.F.slot_str_index PySem.F.type_str_index afo zp (za (pv 4) zb)))))) (zh (zy (ye (zI (K:=K) rfl) (zZ (za (pv 3) (za (zt vq zd (pv 3)) zb))) (yt j4 rfl uaf ai4 (za (pv 1) zb)) (fun _ _=>rfl)))))))))),?_⟩
 rintro f xs z hl ⟨rfl,tx⟩
 try dsimp only [zO,zm]
 have tl:=tx.len
 have ll:=vj
 have hz:=zG z
 have fl:(yc (cpl z)).length<=z.length:=by
  unfold yc
  split
  ·rw [aiL];omega
  ·omega
 have fs:∀ c∈yc (cpl z),c<128:=fun c hc=>tx.ch c (by
  unfold yc at hc
  split at hc
  ·exact ajD hc
  ·exact hc)
 have ml:(mkS (yc (cpl z))).length=(yc (cpl z)).length:=by rw [<-zG,z8]
 have fz:=abo z
 have h48:(yc (cpl z)).head?=some 48->((cpl z=[48])↔¬ (yW (cpl z)=true \/ 1<(yc (cpl z)).length)):=fun e=>by
  unfold yc at e ⊢
  cases ng:yW (cpl z) with
  | true =>
   refine⟨fun q=>?_,fun q=>absurd (.inl rfl) q⟩
   rw [q] at ng
   cases ng
  | false =>
   rw [ng,if_neg ahW] at e
   rw [if_neg ahW]
   cases q:cpl z with
   | nil=>rw [q] at e;cases e
   | cons a r =>
    rw [q] at e
    have:a=48:=by simpa using e
    subst this
    cases r <;> simp
 have lw:(PyData.str (mkS (yc (cpl z)))).canLay0=true:=Tx.ok (B:=z.length) (T:=z.length) ⟨by rw [z8];exact fs,by rw [ml];exact fl,by rw [z8];exact aih ajs fl⟩
 refine yp (fun ρ=>ρ=[some (.dat (.str z)),some (.dat (.bool (yW (cpl z)))),none,none,none]) (z5 (jO (yF (ze rfl ⟨z,rfl,by omega,yA (yk (zM ⟨1,rfl,zR ⟨?_,by decide +kernel,aih (ai2 _ _) (by decide),zu ?_⟩⟩))⟩)))) ?_
 ·rw [vT]
  exact Tx.ok (B:=z.length) (T:=z.length) ⟨fun c hc=>by rw [z8] at hc;exact tx.ch c (ajC hc),by rw [<-zG,z8,aiz,hz];omega,by rw [z8];refine aih ajs ?_;rw [aiz,hz];omega⟩
 ·rw [if_neg ahW,qB]
  have:decide (ah6 z none (some 1)=("-":Str))=yW (cpl z):=by
   rw [ajp,decide_eq_true_eq]
   exact ab3 z
  rw [this]
  rfl
 rintro _ rfl
 refine yp (fun ρ=>ρ=[some (.dat (.str z)),some (.dat (.bool (yW (cpl z)))),some (.dat (.str (mkS (yc (cpl z))))),none,none]) (z5 (yF (ze rfl ⟨z,rfl,by omega,yk (abL (zj (ze rfl (zD (.inr ⟨_,rfl,_,rfl,yA (zu ?_)⟩)))))⟩))) ?_
 ·rw [fz]
  rfl
 rintro _ rfl
 have nb:jK (cpl z)=(decide (1<=(yc (cpl z)).length/\(yc (cpl z)).length<=11) && ((yc (cpl z)).all dig && (decide ((yc (cpl z)).head?≠some 48) || decide (cpl z=[48])))):=rfl
 have nv:adl (cpl z)=if yW (cpl z) then -((digitsVal (yc (cpl z)):Nat):Int) else ((digitsVal (yc (cpl z)):Nat):Int):=rfl
 generalize yc (cpl z)=L at *
 refine zX (vN (¬ ((1<=L.length/\L.length<=11)/\L.all dig=true)) ?_ ?_ ?_)
 ·refine acX (yy (jO (ze rfl (zR ⟨lw,by decide +kernel,aih (ai2 _ _) (by decide),_,rfl,?_⟩))))
  rw [if_neg ahW,qB]
  have en:(mkS L=("":Str))↔L=[]:=by
   rw [str_eq,z8]
   exact Iff.rfl
  by_cases e:L=[]
  ·rw [decide_eq_true (en.mpr e),if_pos rfl]
   symm
   rw [decide_eq_true_eq]
   rintro⟨⟨q,_⟩,_⟩
   rw [e] at q
   simp at q
  rw [decide_eq_false (fun q=>e (en.mp q)),if_neg ahW]
  have e1:1<=L.length:=aj1.mpr e
  refine acX (yy (aa4 (vP (ze rfl ⟨_,rfl,by rw [ml];omega,_,rfl,zM ⟨_,rfl,_,rfl,?_⟩⟩))))
  rw [ml]
  by_cases e2:(11:Int)<(L.length:Int)
  ·rw [decide_eq_true e2,if_pos rfl]
   symm
   rw [decide_eq_true_eq]
   rintro⟨⟨_,q⟩,_⟩
   omega
  rw [decide_eq_false e2,if_neg ahW]
  refine yy (jO (PEdO.ped (agJ (A:=fun c:Nat=>PyData.str ⟨#[c]⟩) (B:=fun c:Nat=>PyData.str ⟨#[c]⟩) (fun c=>!dig c) L (aew (ze rfl ⟨_,rfl,?_,by omega,?_,jQ (zD ⟨_,rfl,ajl _,?_,rfl,aih (ai2 _ _) (by decide),_,rfl,?_⟩)⟩)))))
  ·show (cpl (mkS L)).map _=_
   rw [z8]
  ·intro D c ρ' es hc ho hes
   obtain⟨u,rfl⟩:=ho.one
   refine zu (yy (aev (ze rfl ⟨_,rfl,zR ⟨_,rfl,_,rfl,?_⟩⟩)))
   rw [aaq]
   refine⟨rfl,?_⟩
   cases dig c with
   | true =>
    rw [ai1,if_neg ahW]
    exact .mk1
   | false =>
    rw [aiI,if_pos rfl]
    exact vF hes (ze rfl ⟨.mk1,rfl⟩)
  ·exact aas _ fun c hc=>fs c (akD.mp hc).1
  ·rw [if_pos rfl,afD,List.isEmpty_map]
   rw [ajp,ajR,decide_eq_true_eq]
   constructor
   ·intro q r
    have:L.filter (fun c=>!dig c)=[]:=akB.mpr fun c hc=>by
     rw [aiE.mp r.2 c hc]
     exact ahW
    rw [this] at q
    cases q
   ·intro q
    cases h:(L.filter fun c=>!dig c).isEmpty with
    | false=>rfl
    | true =>
     exfalso
     refine q ⟨⟨e1,by omega⟩,aiE.mpr fun c hc=>?_⟩
     have:=akB.mp (List.isEmpty_iff.mp h) c hc
     cases dc:dig c with
     | true=>rfl
     | false=>rw [dc] at this;exact absurd rfl this
 ·intro h
  refine zN (acj ?_)
  unfold v7
  have:jK (cpl z)=false:=by
   rw [nb]
   by_cases q:1<=L.length/\L.length<=11
   ·cases r:L.all dig with
    | true=>exact absurd ⟨q,r⟩ h
    | false=>rw [ajy,akd]
   ·rw [decide_eq_false q,ajy]
  rw [this]
  rfl
 intro h
 obtain⟨⟨h1,h2⟩,h3⟩:=ai9.mp h
 cases L with
 | nil=>exact absurd h1 (by decide)
 | cons a r =>
  have da:48<=a/\a<=57:=of_decide_eq_true (aiE.mp h3 a (aic ..))
  have hh:(a :: r).head?=some a:=rfl
  have e48:((⟨#[a]⟩:Str)=("0":Str))↔a=48:=by
   rw [str_eq]
   show [a]=[48]↔_
   simp
  refine yf (zX (vN (a=48/\(yW (cpl z)=true \/ 1<(a :: r).length)) ?_ ?_ ?_))
  ·refine qv (yy (jO (aeu (ze rfl ⟨_,rfl,zM ⟨0,a,rfl,by rw [ml];omega,?_,zR ⟨ab5 (by omega),by decide +kernel,aih (ai2 _ _) (by decide),_,rfl,?_⟩⟩⟩))))
   ·show atI (cpl (mkS (a :: r))) 0=some a
    rw [z8]
    exact zL (j:=0) rfl
   rw [if_neg ahW,qB]
   by_cases ea:a=48
   ·rw [decide_eq_true (e48.mpr ea),if_pos rfl]
    refine acX (yJ (ze rfl ⟨_,rfl,?_⟩))
    cases ng:yW (cpl z) with
    | true =>
     rw [if_pos rfl]
     symm
     rw [decide_eq_true_eq]
     exact⟨ea,.inl rfl⟩
    | false =>
     rw [if_neg ahW]
     refine yy (aa4 (vP (ze rfl ⟨_,rfl,by rw [ml];omega,_,rfl,zM ⟨_,rfl,_,rfl,?_⟩⟩)))
     rw [ml,decide_eq_decide]
     constructor
     ·intro q
      exact⟨ea,.inr (by omega)⟩
     ·rintro⟨_,q | q⟩
      ·cases q
      ·omega
   ·rw [decide_eq_false (fun q=>ea (e48.mp q)),if_neg ahW]
    symm
    rw [decide_eq_false_iff_not]
    exact fun q=>ea q.1
  ·rintro⟨ea,q⟩
   subst ea
   refine zN (acj ?_)
   unfold v7
   have:jK (cpl z)=false:=by
    rw [nb,hh,decide_eq_false (fun k=>(h48 rfl).mp k q)]
    simp
   rw [this]
   rfl
  intro q
  have nt:jK (cpl z)=true:=by
   rw [nb,h3,decide_eq_true ⟨h1,h2⟩,akr,akr,hh]
   by_cases ea:a=48
   ·subst ea
    rw [decide_eq_true ((h48 rfl).mpr fun k=>q ⟨rfl,k⟩),Bool.or_true]
   ·have ne:some a≠some 48:=fun k=>ea (Option.some.inj k)
    rw [decide_eq_true ne,Bool.true_or]
  refine yf (zX (z5 (zM (zu (zX (acm (aew (ze rfl ⟨_,rfl,?_⟩))))))))
  refine⟨fun i ρ=>∃ u,ρ=[some (.dat (.str z)),some (.dat (.bool (yW (cpl z)))),some (.dat (.str (mkS (a :: r)))),some (.dat (.int ((digitsVal ((a :: r).take i):Nat):Int))),u],⟨_,rfl⟩,?_,?_⟩
  ·rintro i d _ hd ⟨u,rfl⟩
   unfold qm at hd
   rw [show (mkS (a :: r)).cps.toList=a :: r from z8 _,ah9] at hd
   cases ec:(a :: r)[i]? with
   | none=>rw [ec] at hd;cases hd
   | some c =>
    rw [ec] at hd
    cases hd
    have dc:dig c=true:=aiE.mp h3 c (aiw ec)
    obtain⟨rest,ho⟩:=adn dc
    have st:((digitsVal ((a :: r).take (i+1)):Nat):Int)=10 * ((digitsVal ((a :: r).take i):Nat):Int)+((c - 48:Nat):Int):=by
     rw [ajv,ec]
     show ((digitsVal ((a :: r).take i++[c]):Nat):Int)=_
     rw [abp]
     omega
    refine zu (z5 (jN (adT (zM ⟨10,rfl,ze rfl ⟨_,rfl,.inl ⟨by decide,by decide⟩,_,rfl,agZ (ze rfl ⟨_,_,rest,rfl,ho,_,rfl,zu ⟨some (.dat (.str ⟨#[c]⟩)),?_⟩⟩)⟩⟩))))
    rw [<-st]
    rfl
  ·rintro _ ⟨u,rfl⟩
   have le:(qm (mkS (a :: r))).length=(a :: r).length:=by
    unfold qm
    rw [ahZ,show (mkS (a :: r)).cps.toList=a :: r from z8 _]
   rw [le,ajE]
   refine zN (qt (jQ (zj (ze rfl (zj (jN (zM ⟨_,rfl,ze rfl ⟨_,rfl,zD ⟨_,rfl,show 2<=1000 by decide,_,rfl,abL (zj (ze rfl (zD (.inr ⟨_,rfl,_,rfl,?_⟩))))⟩⟩⟩)))))))
   unfold v7
   rw [nt,if_pos rfl,nv]
   cases yW (cpl z) with
   | true =>
    refine⟨_,zL (j:=1) rfl,?_⟩
    rw [if_pos rfl]
    show PyData.int (0 - _)=_
    rw [Int.zero_sub]
   | false =>
    refine⟨_,zL (j:=0) rfl,?_⟩
    rw [if_neg ahW]
noncomputable abbrev aeM (K:ahX):Sp:=spD K 1 (fun (c:List (List Int)) xs=>xs=[.dat (tab c)]) fun c r=>r=match j9 c with | none=>.tuple [.str "told",tab c] | some i=>.tuple [.str "table",.int i]
theorem afE (F:Def K mg "_law_table_due" yq pA) (uac:mg "len"=none) (uag:mg "range"=none) (uai:mg "max"=none) (uah:mg "min"=none):FnIn P w K mg base (k+1) "_law_table_due" pA (aeM K):=by
 refine F.ok sc_law_table_due rfl fun fa cdv A outer s H E hr=>⟨_,(zc (zY (PW.pt (qR (zE adF (zi (zP (K:=K) rfl) rfl uac air (za (pv 0) zb)) zd (zC _)) (qf (zE aaa (zi (zP (K:=K) rfl) rfl uac air (za (pv 0) zb)) zd (zC _))))) (zh (zy (jb (za zp (za (afQ adD zd) zb))))) zA) (zc (jr ai7 rfl (jg rfl uag (za (zi (zP (K:=K) rfl) rfl uac air (za (pv 0) zb)) zb)) (zU (i:=1) sc_law_table_due.nd rfl (Or.inl rfl) (Or.inr rfl)) (zc (zY (PW.pt (qR (zE (vC (K:=K) rfl hr.units) (zi (zP (K:=K) rfl) rfl uac air (za (ye (zI (K:=K) rfl) (pv 0) (pv 1) (fun _ _=>rfl)) zb)) (zi (zP (K:=K) rfl) rfl uac air (za (ye (zI (K:=K) rfl) (pv 0) zd (fun _ _=>rfl)) zb)) (zC _)) (qf (jn (aaW qS qS zd (zi (zP (K:=K) rfl) rfl uac air (za (ye (zI (K:=K) rfl) (pv 0) (pv 1) (fun _ _=>rfl)) zb)) zd))))) (zh (zy (jb (za zp (za (pv 1) zb))))) zA) (zh (zY (PW.pt (qR (zE aaa (zi (aaj (K:=K) rfl rfl) rfl uai boot_max (za (ye (zI (K:=K) rfl) (pv 0) (pv 1) (fun _ _=>rfl)) zb)) (zt vv zd zd) (zC _)) (qf (zE adF (zi (aai (K:=K) rfl rfl) rfl uah boot_min (za (ye (zI (K:=K) rfl) (pv 0) (pv 1) (fun _ _=>rfl)) zb)) (zt vq zd (zt vv zd zd)) (zC _))))) (zh (zy (jb (za zp (za (pv 1) zb))))) zA)))) (zh (zy (jb (za zp (za (pv 0) zb))))))),?_⟩
 rintro f xs rows hl rfl
 try dsimp only [zO,zm]
 have ml:(rows.map fun r=>PyData.list (r.map .int)).length=rows.length:=ahZ _
 have told:∀ i:Int,j9 rows=some i->PyData.tuple [.str "table",.int i]=match j9 rows with | none=>PyData.tuple [.str "told",tab rows] | some i=>.tuple [.str "table",.int i]:=fun i e=>by rw [e]
 refine zX (vN (¬ (2<=rows.length/\rows.length<=7)) ?_ ?_ ?_)
 ·walk_at "w"
  rw [ml]
  split <;> rename_i z <;> simp at z
  ·symm;simp;omega
  ·walk_at "w"
   rw [ml]
   rw [decide_eq_decide]
   omega
 ·intro h
  refine zN (qd (zj (zR (zj (afX ?_)))))
  walk_at "w"
  exact told (-1) (by unfold j9;rw [if_neg h])
 intro h
 have h:2<=rows.length/\rows.length<=7:=ai9.mp h
 obtain⟨r0,e0⟩:∃ r0,rows[0]?=some r0:=⟨_,ah2 (by omega)⟩
 have g0:(rows.getD 0 []).length=r0.length:=by rw [aiC,e0];rfl
 have at0:atI (rows.map fun q=>PyData.list (q.map .int)) 0=some (.list (r0.map .int)):=zL (j:=0) (by rw [ah9,e0];rfl)
 refine yf (zX (acm (qx (agU [.dat (.int rows.length)] ?_ ?_))))
 ·walk_at "w"
  rw [ml]
 refine⟨_,rfl,by omega,by omega,fun i ρ=>(∃ a,ρ=[some (.dat (tab rows)),a])/\∀ j:Nat,j<i->∀ q,rows[j]?=some q->yB (rows.getD 0 []).length q=false,⟨⟨_,rfl⟩,fun j hj=>absurd hj (ajI _)⟩,?_,?_⟩
 ·rintro i d _ hd ⟨⟨a,rfl⟩,pre⟩
  obtain⟨hi,rfl⟩:=jZ hd
  rw [aiT] at hi
  obtain⟨r,er⟩:∃ r,rows[i]?=some r:=⟨_,ah2 hi⟩
  have ati:atI (rows.map fun q=>PyData.list (q.map .int)) (i:Int)=some (.list (r.map .int)):=zL (by rw [ah9,er];rfl)
  have bad:yB r0.length r=true->PyData.tuple [.str "table",.int (i:Int)]=match j9 rows with | none=>PyData.tuple [.str "told",tab rows] | some i=>.tuple [.str "table",.int i]:=fun z=>told _ (aeB h er (by rw [g0];exact z) pre)
  have lr:(r.map PyData.int).length=r.length:=ahZ _
  have lr0:(r0.map PyData.int).length=r0.length:=ahZ _
  refine zu (zX (vN (¬ (r.length=r0.length/\2<=r.length/\r.length<=7)) ?_ ?_ ?_))
  ·walk_at "w"
   refine⟨_,ati,?_⟩
   walk_at "w"
   refine⟨_,at0,?_⟩
   walk_at "w"
   rw [lr,lr0,if_pos rfl]
   show (if (!(((r.length:Nat):Int) == ((r0.length:Nat):Int)))=true then _ else _)
   split <;> rename_i z
   ·symm;rw [decide_eq_true_eq];simp at z;omega
   ·have z:(r.length:Int)=r0.length:=by simpa using z
    refine qe (yy (aaC (zM ⟨_,rfl,adV (zj (qt (ze rfl ⟨_,rfl,ze rfl ⟨_,rfl,_,ati,zD (.inl ⟨_,rfl,_,rfl,?_⟩)⟩⟩)))⟩)))
    rw [lr]
    split
    ·rename_i z1
     have z1:=of_decide_eq_true z1
     refine zM ⟨_,rfl,_,rfl,?_⟩
     rw [<-decide_not,decide_eq_decide]
     omega
    ·rename_i z1
     refine⟨_,rfl,?_⟩
     symm
     rw [aiI,decide_eq_true_eq]
     intro q
     exact z1 (decide_eq_true (by omega))
  ·intro hb
   refine zN (qd (zj (zR (zj (ze rfl (zD ⟨_,rfl,show 2<=1000 by decide,bad ?_⟩))))))
   unfold yB aap
   by_cases hw:r.length=r0.length
   ·rw [akF]
    refine .inr ?_
    rw [ajR,decide_eq_false_iff_not]
    exact fun z=>hb ⟨hw,z.1,z.2.1⟩
   ·simp [hw]
  ·intro hb
   have hb:r.length=r0.length/\2<=r.length/\r.length<=7:=ai9.mp hb
   have rn:r≠[]:=by rintro rfl;simp at hb
   have p9:(10:Int) ^ Int.toNat 9=1000000000:=by decide
   refine yf (vN (¬ ∀ n∈r,-1000000000<=n/\n<=1000000000) ?_ ?_ ?_)
   ·refine acX (yy (aa4 (adX (zj (qt (ze rfl ⟨_,rfl,ze rfl ⟨_,rfl,_,ati,zD ⟨r,rfl,rn,fun M hM hM'=>⟨_,rfl,?_⟩⟩⟩⟩))))))
    walk_at "w"
    rw [p9]
    by_cases z:(1000000000:Int)<M
    ·rw [decide_eq_true z,if_pos rfl]
     symm
     rw [decide_eq_true_eq]
     exact fun q=>by have:=(q M hM).2;omega
    rw [decide_eq_false z,if_neg ahW]
    refine yy (aa4 (adW (zj (qt (ze rfl ⟨_,rfl,ze rfl ⟨_,rfl,_,ati,zD ⟨r,rfl,rn,fun N hN hN'=>⟨_,rfl,?_⟩⟩⟩⟩)))))
    walk_at "w"
    rw [p9,decide_eq_decide]
    constructor
    ·intro q u
     have:=(u N hN).1
     omega
    ·intro q
     rcases Int.lt_or_le N (0 - 1000000000) with z1 | z1
     ·exact z1
     ·exfalso
      refine q fun n hn=>?_
      have:=hM' n hn
      have:=hN' n hn
      omega
   ·intro hn
    refine zN (qd (zj (zR (zj (ze rfl (zD ⟨_,rfl,show 2<=1000 by decide,bad ?_⟩))))))
    unfold yB aap
    rw [akF]
    refine .inr ?_
    rw [ajR,decide_eq_false_iff_not]
    exact fun z=>hn z.2.2
   ·intro hn
    have hn:∀ n∈r,-1000000000<=n/\n<=1000000000:=ai9.mp hn
    refine yf ⟨⟨_,rfl⟩,fun j hj q hq=>?_⟩
    by_cases ej:j=i
    ·subst ej
     rw [er] at hq
     cases hq
     unfold yB aap
     rw [g0,decide_eq_true (⟨hb.2.1,hb.2.2,hn⟩:2<=r.length/\r.length<=7/\∀ n∈r,-1000000000<=n/\n<=1000000000)]
     simp [hb.1]
    ·exact pre j (by omega) q hq
 ·rintro _ ⟨⟨a,rfl⟩,pre⟩
  rw [qP,aiT] at pre
  refine zN (qd (zj (zR (zj (ze rfl (zD ⟨_,rfl,show 2<=1000 by decide,?_⟩))))))
  rw [abn h pre]
noncomputable def j3 (z:Str):PyData:=match vV z with
 | some i=>.tuple [.str "text",.int (i:Nat)]
 | none=>match j9 (jJ z) with
  | none=>.tuple [.str "told",tab (jJ z)]
  | some i=>.tuple [.str "table",.int i]
noncomputable abbrev aga (K:ahX):Sp:=spD K 1 (fun (c:Str) xs=>xs=[.dat (.str c)]/\Tx 700 29000 c) fun c r=>r=j3 c
theorem any_none (l:List Str):((l.map fun v=>v7 (cpl v)).any fun e=>aiK e .none)=!(l.all fun v=>jK (cpl v)):=by
 induction l with
 | nil=>rfl
 | cons v l ih =>
  rw [ajb,ak2,List.all_cons,ih]
  unfold v7
  cases jK (cpl v) <;> rfl
theorem ag6 (F:Def K mg "_law_due" j7 pf) (uaj:mg "enumerate"=none) (ubu:FnIn P w K mg base k "_law_number" pq (abu K)) (ubv:FnIn P w K mg base k "_law_table_due" pA (aeM K)):FnIn P w K mg base (k+1) "_law_due" pf (aga K):=by
 refine F.ok sc_law_due rfl fun fa cdv A outer s H E hr=>⟨_,(zc (zv (i:=1) sc_law_due.nd rfl (Or.inl rfl) (zZ zb)) (zc (jr ai7 rfl (vE (K:=K) rfl rfl uaj (za (jG aiD aiZ ai0 jW (pv 0) (za zp zb)) zb)) (aaE (K:=K) (n:=2) rfl rfl (jf (zU (i:=2) sc_law_due.nd rfl (Or.inl rfl) (Or.inr rfl)) (jf (zU (i:=3) sc_law_due.nd rfl (Or.inl rfl) (Or.inr rfl)) aax))) (zc (aa3 (i:=4) (N:=pq) (own:=1) (fr:=[]) ⟨rfl,by decide +kernel,of_decide_eq_true (by kernel_rfl),of_decide_eq_true (by kernel_rfl),of_decide_eq_true (by kernel_rfl),rfl⟩ rfl sc_law_due.nd rfl (Or.inl rfl) (vD (K:=K) rfl (jG aiD aiZ ai0 jW (pv 3) (za zp zb))) (fun _ _ _ _=>(zU (i:=0) (show (pq:List Str).Nodup by decide +kernel) rfl (Or.inl rfl) (Or.inr rfl))) (fun _ _ _ _=>vf) (fun _ _ _ _=>(zq ubu hr rfl (za (pv 0) zb))) rfl rfl (fun _=>rfl) (Or.inl rfl) rfl) (zc (zY (zE (afc (K:=K) rfl hr.units) abv (pv 4) rfl) (zh (zy (jb (za zp (za (pv 2) zb))))) zA) (zh (jo (jG ajj ajc ajd j5 (pv 1) (za (pv 4) zb))))))) (zh (zy (zq ubv hr rfl (za (pv 1) zb)))))),?_⟩
 rintro f xs z hl ⟨rfl,tx⟩
 try dsimp only [zO,zm]
 have ll:=vj
 have tl:=tx.len
 have nl:(zf z).length<=701:=jX (.inr rfl) tx
 refine aea (w:=w) (aee (vg (acn ⟨show 1<5 by decide,fun D=>?_⟩)))
 refine aal (aed (abK (zj (PEdO.ped (qA (c:=10) (ze rfl ⟨z,rfl,by omega,zD ⟨_,rfl,?_⟩⟩))))))
 refine⟨fun i ρ cs=>(∃ a b c,ρ=[some (.dat (.str z)),some (.own (f.M.length+0)),a,b,c])/\cs=[.lst (((zf z).take i).map fun l=>PyData.list ((jY l).map .int))]/\∀ j:Nat,j<i->∀ l,(zf z)[j]?=some l->qp l=true,⟨⟨_,_,_,rfl⟩,rfl,fun j hj=>absurd hj (ajI _)⟩,?_,?_⟩
 ·rintro i d _ _ hd ⟨⟨a,b,c,rfl⟩,rfl,pre⟩
  unfold jI at hd
  rw [ajA,ah9] at hd
  obtain⟨l,el,rfl⟩:∃ l:Str,(zf z)[i]?=some l/\d=.tuple [.int (i:Int),.str l]:=by
   cases el:(zf z)[i]? with
   | none =>
    have el2:(aiF z ⟨#[10]⟩)[i]?=none:=el
    rw [el2] at hd
    cases hd
   | some l =>
    have el2:(aiF z ⟨#[10]⟩)[i]?=some l:=el
    rw [el2] at hd
    cases hd
    exact⟨l,rfl,rfl⟩
  have hi:i<(zf z).length:=(ah1.mp el).1
  have txl:Tx 700 29000 l:=j8 (.inr rfl) tx (aiw el)
  have tll:=txl.len
  have nw:(yN l).length<=701:=jX (.inl rfl) txl
  refine ack rfl (jv (zu (jv (zu (aaD ?_)))))
  refine aal (af4 (aec (PEdO.ped (aco (A:=fun v:Str=>PyData.str v) (B:=fun v=>v7 (cpl v)) (yN l) (abJ (PEdO.ped (qA (c:=32) (ze rfl ⟨l,rfl,by omega,_,rfl,rfl,by omega,?_,?_⟩))))))))
  ·intro D' v ρ' es hv ho hes
   obtain⟨u,rfl⟩:=ho.one
   refine zu (aa7 ?_)
   rw [if_pos rfl]
   refine vF hes (zz v (zj (ze rfl (zD ⟨rfl,⟨rfl,j8 (.inl rfl) txl hv⟩,?_⟩))))
   rintro _ rfl
   exact⟨.mk1,rfl⟩
  refine aal (ahU (ahu (yy (ahq (acj (ze rfl ⟨_,rfl,rfl,?_,by decide,_,rfl,?_⟩))))))
  ·intro e he
   obtain⟨v,_,rfl⟩:=aj8.mp he
   unfold v7
   split <;> rfl
  rw [any_none]
  show if (!qp l)=true then _ else _
  cases ol:qp l with
  | false =>
   rw [aiI,if_pos rfl]
   refine abN (zN (qd (zj (zR (zj (ze rfl (zD ⟨_,rfl,show 2<=1000 by decide,?_⟩)))))))
   have:vV z=some i:=by
    unfold vV
    rw [ai5]
    refine⟨hi,?_,fun j hj=>?_⟩
    ·rw [(ah1.mp el).2,ol]
     rfl
    ·rw [pre j hj _ (ah2 (by omega))]
     exact ahW
   unfold j3
   rw [this]
  | true =>
   rw [ai1,if_neg ahW]
   have ow:∀ v∈yN l,jK (cpl v)=true:=fun v hv=>aiE.mp ol v hv
   have en:(yN l).map (fun v=>v7 (cpl v))=(jY l).map .int:=by
    unfold jY
    rw [ajQ]
    refine aj4 fun v hv=>?_
    unfold v7
    rw [ow v hv]
    rfl
   refine aeb ?_
   have lm:(((zf z).take i).map fun l=>PyData.list ((jY l).map .int)).length<1000:=by
    rw [ahZ,aiz]
    omega
   refine acr (j:=0) rfl rfl lm (aec (ze rfl ⟨⟨_,_,_,rfl⟩,?_,fun j hj q hq=>?_⟩))
   ·show [OC.lst _]=_
    rw [ajv,el,aim,en]
    rfl
   ·by_cases ej:j=i
    ·subst ej
     rw [el] at hq
     cases hq
     exact ol
    ·exact pre j (by omega) q hq
 ·rintro _ _ ⟨⟨a,b,c,rfl⟩,rfl,pre⟩
  have le:(jI ((aiF z ⟨#[10]⟩).map .str)).length=(zf z).length:=by
   unfold jI
   rw [ajM,ahZ]
   rfl
  rw [le] at pre ⊢
  rw [ajE]
  have bn:vV z=none:=by
   unfold vV
   rw [ajG]
   intro q hq
   obtain⟨j,hj⟩:=ajY hq
   rw [pre j (ah1.mp hj).1 q hj]
   rfl
  refine aef ?_
  have ee:List.map (freed f.M.length [OC.lst ((zf z).map fun l=>PyData.list ((jY l).map .int))]) [some (.dat (.str z)),some (.own (f.M.length+0)),a,b,c]=[some (.dat (.str z)),some (.dat (tab (jJ z))),freed f.M.length [OC.lst ((zf z).map fun l=>PyData.list ((jY l).map .int))] a,freed f.M.length [OC.lst ((zf z).map fun l=>PyData.list ((jY l).map .int))] b,freed f.M.length [OC.lst ((zf z).map fun l=>PyData.list ((jY l).map .int))] c]:=by
   simp [freed,tab,jJ]
  rw [ee]
  refine zN (zz (jJ z) (zj (ze rfl (zD ⟨rfl,rfl,?_⟩))))
  rintro r rfl
  show _=j3 z
  unfold j3
  rw [bn]
open PySem PySem.NumText PySem.Spec PyProof.Rows L2
theorem qF:bootBuiltins "ValueError"=some (.type "ValueError"):=by kernel_rfl
theorem vX {P:Program} {w:World} {K:ahX} {mg:Str->Option Value} {base:Heap} {C f D:Addr} {fd:FuncData} (hfc:jl K C f D "line"=true) (hD:mg "HeightError"=some (.ref D)) (F:Fun K "__init__" "NoText.__init__" yT f fd):InitOk P w K mg base 1 C "line":=by
 have T:=FldC.of hfc
 refine⟨f,D,fd,pD,T,F.ok vS (fun vs H Q E h=>?_) (fun cdv A outer s H vs Q E hr hs=>⟨_,zc (jo (qX T rfl hD (za (pv 0) (za zp zb)))) (zh (acv T (pv 0) (pv 1))),?_⟩),F.binds (ps:=pD) fun _ _ _ _ _ _ us hl=>match us,hl with | [_,_],_=>rfl⟩
 ·obtain⟨a,y,rfl,_⟩:=h
  rfl
 ·obtain⟨a,y,rfl,hH,q⟩:=hs
  exact⟨.ref a,rfl,a,_,rfl,by decide,hH,y,rfl,.ref a,rfl,a,rfl,hH,fun dx h1 h2=>q dx h1 h2⟩
noncomputable abbrev acG (K:ahX) (uab uaa:Addr):Addr->Sp:=spM K 1 (fun a (c:XD×Bool) xs=>xs=[.mon (yz K a (.ref (if c.2 then uab else uaa)) c.1)]) fun _ r=>r=.bool true
theorem aeN {uaa uak ual uam uan uao uap uab uaq uar:Addr} (F:Def K mg "_law_alone" y9 pB) (uae:mg "isinstance"=none) (uaH:mg "any"=none) (uaI:mg "ValueError"=none)
  (uaJ:mg "NoPoint"=some (.ref uak)) (uaK:mg "NoGate"=some (.ref ual)) (uaL:mg "NoRing"=some (.ref uam)) (uaM:mg "TooSteep"=some (.ref uan)) (uaN:mg "NoWeb"=some (.ref uao)) (uaO:mg "NoBack"=some (.ref uap)) (uaP:mg "NoRow"=some (.ref uaq)) (uaQ:mg "NoDeed"=some (.ref uar))
  (uau:yZ K uaa=true) (ktv:ahY K (.ref uaa) (.type "ValueError")=some true) (kt1:ahY K (.ref uaa) (.ref uak)=some false) (kt2:ahY K (.ref uaa) (.ref ual)=some false) (kt3:ahY K (.ref uaa) (.ref uam)=some false) (kt4:ahY K (.ref uaa) (.ref uan)=some false) (kt5:ahY K (.ref uaa) (.ref uao)=some false) (kt6:ahY K (.ref uaa) (.ref uap)=some false) (kt8:ahY K (.ref uaa) (.ref uaq)=some false) (kt9:ahY K (.ref uaa) (.ref uar)=some false)
  (uav:yZ K uab=true) (kxv:ahY K (.ref uab) (.type "ValueError")=some true) (kx1:ahY K (.ref uab) (.ref uak)=some false) (kx2:ahY K (.ref uab) (.ref ual)=some false) (kx3:ahY K (.ref uab) (.ref uam)=some false) (kx4:ahY K (.ref uab) (.ref uan)=some false) (kx5:ahY K (.ref uab) (.ref uao)=some false) (kx6:ahY K (.ref uab) (.ref uap)=some false) (kx8:ahY K (.ref uab) (.ref uaq)=some false) (kx9:ahY K (.ref uab) (.ref uar)=some false) :
  FnInM P w K mg base (k+1) "_law_alone" pB (acG K uab uaa):=by
 have W1:=vi uau
 have W2:=vi uav
 refine F.okM sc_law_alone rfl fun fa cdv A outer s H ea hM hr=>⟨_,(zc (zv (i:=1) sc_law_alone.nd rfl (Or.inl rfl) (zZ (za (zi (z4 (K:=K) rfl) rfl uae boot_isinstance (za (pv 0) (za (yd (v:=.ref uak) rfl uaJ rfl) zb))) (za (zi (z4 (K:=K) rfl) rfl uae boot_isinstance (za (pv 0) (za (yd (v:=.ref ual) rfl uaK rfl) zb))) (za (zi (z4 (K:=K) rfl) rfl uae boot_isinstance (za (pv 0) (za (yd (v:=.ref uam) rfl uaL rfl) zb))) zb))))) (zc (zv (i:=1) sc_law_alone.nd rfl (Or.inl rfl) (zt (yV (K:=K) rfl) (pv 1) (zZ (za (zi (z4 (K:=K) rfl) rfl uae boot_isinstance (za (pv 0) (za (yd (v:=.ref uan) rfl uaM rfl) zb))) (za (zi (z4 (K:=K) rfl) rfl uae boot_isinstance (za (pv 0) (za (yd (v:=.ref uao) rfl uaN rfl) zb))) (za (zi (z4 (K:=K) rfl) rfl uae boot_isinstance (za (pv 0) (za (yd (v:=.ref uap) rfl uaO rfl) zb))) zb)))))) (zc (zv (i:=1) sc_law_alone.nd rfl (Or.inl rfl) (zt (yV (K:=K) rfl) (pv 1) (zZ (za (zi (z4 (K:=K) rfl) rfl uae boot_isinstance (za (pv 0) (za (yd (v:=.ref uaq) rfl uaP rfl) zb))) (za (zi (z4 (K:=K) rfl) rfl uae boot_isinstance (za (pv 0) (za (yd (v:=.ref uar) rfl uaQ rfl) zb))) zb))))) (zh (zy (aaw (zi (z4 (K:=K) rfl) rfl uae boot_isinstance (za (pv 0) (za (ab9 (v:=.ty "ValueError") rfl uaI qF rfl) zb))) (aav (agh (zi (ade (K:=K) rfl hM) rfl uaH PyProof.Rows.boot_any (za (pv 1) zb)))))))))),?_⟩
 rintro f xs ⟨x,b⟩ hl rfl
 try dsimp only [cxM,zO,zm]
 try dsimp only
 obtain⟨C,hC,W,hv,h1,h2,h3,h4,h5,h6,h8,h9⟩:∃ C,(if b=true then uab else uaa)=C/\ExcWays K C/\ahY K (.ref C) (.type "ValueError")=some true/\ahY K (.ref C) (.ref uak)=some false/\ahY K (.ref C) (.ref ual)=some false/\ahY K (.ref C) (.ref uam)=some false/\ahY K (.ref C) (.ref uan)=some false/\ahY K (.ref C) (.ref uao)=some false/\ahY K (.ref C) (.ref uap)=some false/\ahY K (.ref C) (.ref uaq)=some false/\ahY K (.ref C) (.ref uar)=some false:=by
  cases b
  ·exact⟨_,rfl,W1,ktv,kt1,kt2,kt3,kt4,kt5,kt6,kt8,kt9⟩
  ·exact⟨_,rfl,W2,kxv,kx1,kx2,kx3,kx4,kx5,kx6,kx8,kx9⟩
 rw [hC]
 refine yp (fun ρ=>ρ=[some (.mon (yz K ea (.ref C) x)),some (.dat (.list [.bool false,.bool false,.bool false]))]) ?_ ?_
 ·repeat (first | walk_at "dl" | refine jz rfl W (by assumption) ?_)
  rfl
 rintro _ rfl
 refine yp (fun ρ=>ρ=[some (.mon (yz K ea (.ref C) x)),some (.dat (.list [.bool false,.bool false,.bool false,.bool false,.bool false,.bool false]))]) (z5 (ql (ze rfl ⟨_,rfl,?_⟩))) ?_
 ·repeat (first | walk_at "dl" | refine jz rfl W (by assumption) ?_)
  rfl
 rintro _ rfl
 refine yp (fun ρ=>ρ=[some (.mon (yz K ea (.ref C) x)),some (.dat (.list [.bool false,.bool false,.bool false,.bool false,.bool false,.bool false,.bool false,.bool false]))]) (z5 (ql (ze rfl ⟨_,rfl,?_⟩))) ?_
 ·repeat (first | walk_at "dl" | refine jz rfl W (by assumption) ?_)
  rfl
 rintro _ rfl
 refine zN (abH (af3 rfl W (.inl ⟨_,rfl,hv⟩) ⟨true,rfl,?_⟩))
 rw [if_pos rfl]
 refine adU (agW (j:=0) rfl (ze rfl ⟨[false,false,false,false,false,false,false,false],rfl,?_⟩))
 exact⟨_,rfl,rfl⟩
noncomputable abbrev aeO (K:ahX):Sp:=spD K 1 (fun (c:Str) xs=>xs=[.dat (.str c)]/\Tx 700 29000 c) fun c r=>r=j3 c
theorem afF {uab uaa uas:Addr} (F:Def K mg "_law_told" jE pf) (uae:mg "isinstance"=none) (uaF:mg "HeightError"=some (.ref uas)) (uaw:mg "NoText"=some (.ref uab)) (uat:mg "NoTable"=some (.ref uaa)) (I_NoTable:InitOk P w K mg base 1 uaa "at") (I_NoText:InitOk P w K mg base 1 uab "line") (uau:yZ K uaa=true) (uav:yZ K uab=true) (eh:aji K (.ref uaa) (.ref uas)=some true) (ex:aji K (.ref uab) (.ref uas)=some true)
  (ktt:ahY K (.ref uaa) (.ref uaa)=some true) (ktx:ahY K (.ref uaa) (.ref uab)=some false) (kxx:ahY K (.ref uab) (.ref uab)=some true) (kxt:ahY K (.ref uab) (.ref uaa)=some false)
  (ubw:FnInF P w K mg base k "read_table" ["text"] (acC K uab uaa)) (ubo:FnInM P w K mg base k "_law_alone" pB (acG K uab uaa)):FnIn P w K mg base (k+1) "_law_told" pf (aeO K):=by
 obtain⟨fT,dT,T⟩:=I_NoTable.fld
 obtain⟨fX,dX,X⟩:=I_NoText.fld
 have W:=vi uau
 have W2:=vi uav
 obtain⟨fg,fgd,ubx,uby,ubz,ubA⟩:=ubw.ex
 refine F.ok sc_law_told rfl fun fa cdv A outer s H E hr=>⟨_,(zc (afm (j:=2) (afu (i:=1) ubx hr rfl uby ubz ubA (za (pv 0) zb) sc_law_told.nd rfl (Or.inl rfl) (Or.inl rfl) zA) sc_law_told.nd rfl rfl rfl rfl rfl uaF (fun _=>(zc (zv (i:=1) sc_law_told.nd rfl (Or.inl rfl) (jb (za zp (za zd zb)))) (zc (zY (PW.pt (qH (yg (K:=K) rfl (zi (z4 (K:=K) rfl) rfl uae boot_isinstance (za (pv 2) (za (yd (v:=.ref uab) rfl uaw rfl) zb))) (fun _=>rfl)) (qH (jn (yg (K:=K) rfl (zi (z4 (K:=K) rfl) rfl uae boot_isinstance (za (pv 2) (za (yd (v:=.ref uaa) rfl uat rfl) zb))) (fun _=>rfl))) (ve (yg (K:=K) rfl (abh ubo hr rfl (za (pv 2) zb)) (fun _=>rfl)))))) (zh (zv (i:=1) sc_law_told.nd rfl (Or.inl rfl) (jb (za zp (za (aam (K:=K) rfl (pv 2)) zb))))) zA) (zh (zY (PW.pt (qH (yg (K:=K) rfl (zi (z4 (K:=K) rfl) rfl uae boot_isinstance (za (pv 2) (za (yd (v:=.ref uaa) rfl uat rfl) zb))) (fun _=>rfl)) (qH (jn (yg (K:=K) rfl (zi (z4 (K:=K) rfl) rfl uae boot_isinstance (za (pv 2) (za (yd (v:=.ref uab) rfl uaw rfl) zb))) (fun _=>rfl))) (ve (yg (K:=K) rfl (abh ubo hr rfl (za (pv 2) zb)) (fun _=>rfl)))))) (zh (zv (i:=1) sc_law_told.nd rfl (Or.inl rfl) (jb (za zp (za (aam (K:=K) rfl (pv 2)) zb))))) zA)))))) (zh (zy (pv 1)))),?_⟩
 rintro f xs z hl ⟨rfl,tx⟩
 try dsimp only [zO,zm]
 refine zX (agT (ag3 z (zj (ze rfl (zD ⟨rfl,⟨rfl,tx⟩,?_,?_⟩)))))
 ·rintro _ ⟨rfl,e1,e2⟩
  refine yf (zN (ze rfl ?_))
  unfold j3
  rw [e1,e2]
 ·rintro _ _ (⟨rfl,i,e,rfl⟩ | ⟨rfl,e1,i,e,rfl⟩)
  ·refine⟨ex,fun a=>?_⟩
   have td:j3 z=.tuple [.str "text",.int (i:Nat)]:=by unfold j3;rw [e]
   refine yp (fun ρ=>∃ u,ρ=[some (.dat (.str z)),u,some (.mon (yz K a (.ref uab) (some (("line":Str),PyData.int (i:Nat)))))]) ?_ ?_
   ·walk_at "w"
    exact⟨_,rfl⟩
   rintro _ ⟨u,rfl⟩
   refine yp (fun ρ=>ρ=[some (.dat (.str z)),some (.dat (.tuple [.str "text",.int (i:Nat)])),some (.mon (yz K a (.ref uab) (some (("line":Str),PyData.int (i:Nat)))))]) ?_ ?_
   ·refine aa5 (qv (yJ (jz rfl W2 kxx ⟨true,rfl,?_⟩)))
    rw [if_pos rfl]
    refine qv (qe (yJ (jz rfl W2 kxt ⟨false,rfl,?_⟩)))
    rw [aiI,if_pos rfl]
    refine yJ (zz (some (("line":Str),PyData.int (i:Nat)),true) (af0 (v_var rfl (zD ⟨rfl,rfl,?_⟩))))
    rintro _ rfl
    refine⟨true,rfl,?_⟩
    rw [if_pos rfl]
    exact z5 (qd (zj (zR (zj (abg rfl X W2 (zD ⟨_,rfl,akI rfl,zu rfl⟩))))))
   rintro _ rfl
   refine aa5 (qv (yJ (jz rfl W2 kxt ⟨false,rfl,?_⟩)))
   rw [if_neg ahW,if_neg ahW]
   exact yf (zN (ze rfl td.symm))
  ·refine⟨eh,fun a=>?_⟩
   have td:j3 z=.tuple [.str "table",.int i]:=by unfold j3;rw [e1,e]
   refine yp (fun ρ=>∃ u,ρ=[some (.dat (.str z)),u,some (.mon (yz K a (.ref uaa) (some (("at":Str),PyData.int i))))]) ?_ ?_
   ·walk_at "w"
    exact⟨_,rfl⟩
   rintro _ ⟨u,rfl⟩
   refine yp (fun ρ=>∃ u,ρ=[some (.dat (.str z)),u,some (.mon (yz K a (.ref uaa) (some (("at":Str),PyData.int i))))]) ?_ ?_
   ·refine aa5 (qv (yJ (jz rfl W ktx ⟨false,rfl,?_⟩)))
    rw [if_neg ahW,if_neg ahW]
    exact yf ⟨_,rfl⟩
   rintro _ ⟨u,rfl⟩
   refine aa5 (qv (yJ (jz rfl W ktt ⟨true,rfl,?_⟩)))
   rw [if_pos rfl]
   refine qv (qe (yJ (jz rfl W ktx ⟨false,rfl,?_⟩)))
   rw [aiI,if_pos rfl]
   refine yJ (zz (some (("at":Str),PyData.int i),false) (af0 (v_var rfl (zD ⟨rfl,rfl,?_⟩))))
   rintro _ rfl
   refine⟨true,rfl,?_⟩
   rw [if_pos rfl]
   refine z5 (qd (zj (zR (zj (abg rfl T W (zD ⟨_,rfl,akI rfl,zu ?_⟩))))))
   exact zN (ze rfl td.symm)
noncomputable abbrev scr (ns:List Int):PyData:=.list (ns.map .int)
theorem acH {K:ahX} {H:Hp} {a:Addr} {ns:List Int} (h:SqL K H a (ns.map V.int)):Rep K (hide H L2.f0) (scr ns) (.ref a):=by
 rw [yu]
 exact rep_list.mpr ⟨a,_,rfl,h,Reps.ints' ns⟩
theorem afG {K:ahX} {H:Hp} {v:V} {ns:List Int} (h:Rep K (hide H L2.f0) (scr ns) v):∃ a,v=.ref a/\SqL K H a (ns.map V.int):=by
 rw [yu] at h
 obtain⟨a,xs,rfl,h1,h2⟩:=rep_list.mp h
 rw [h2.ints] at h1
 exact⟨a,rfl,h1⟩
noncomputable def ab7 (K:ahX):Sp:=fun vs H Q _=>∃ (a:Addr) (ns:List Int) (i:Int),vs=[.ref a,.int i]/\SqL K H a (ns.map V.int)/\ns.length<=63/\0<=i/\i<=63 /\
 ∀ (p:Addr) (x y:Int) (H':Hp),Same H H'->H p=none->H' p=some (.lst [.int x,.int y])->0<=x->0<=y->y<2147483647->Q (.ref p) H'
noncomputable def acI (K:ahX):Sp:=fun vs H Q _=>∃ (a:Addr) (ns:List Int),vs=[.ref a]/\SqL K H a (ns.map V.int)/\ns.length<=63/\∀ H',Q (.bl true) H'
theorem afH {K:ahX} {f:Fx} {t:TA} {ρ:zl} {R R':List DV->Prop} (h:PAd K f t ρ R) (i:∀ xs,R xs->R' xs):PAd K f t ρ R':=fun σ H Q e q=>h σ H Q e fun xs vs H' g r p=>q xs vs H' g r (i xs p)
theorem ag7 {K:ahX} {ρ:zl} {ns:List Int} {i:Int} {E2:XK} (h0:ρ[0]?=some (some (.dat (scr ns)))) (h1:ρ[1]?=some (some (.dat (.int i)))) (hl:ns.length<=63) (i0:0<=i) (i1:i<=63) :
  ∀ (σ:L2.St) (H:Hp) (Q:VK),EnvOk K L2.f0 ρ σ H->(∀ (p:Addr) (x y:Int) (H':Hp),Same H H'->H p=none->H' p=some (.lst [.int x,.int y])->0<=x->0<=y->y<2147483647->Q (.ref p) H')->qq (ab7 K) [] E2 (z9 (je 0) (z9 (je 1) jh)) σ H Q:=by
 intro σ H Q e q
 obtain⟨v0,hv0,r0⟩:=e.get 0 _ h0
 obtain⟨v1,hv1,r1⟩:=e.get 1 _ h1
 obtain⟨a,rfl,hS⟩:=afG r0
 have e1:v1=.int i:=rep_int.mp (show Rep K (hide H L2.f0) (.int i) v1 from r1)
 subst e1
 exact⟨_,hv0,_,hv1,a,ns,i,rfl,hS,hl,i0,i1,q⟩
theorem afI (F:Def K mg "_law_feed" jA pw) (uac:mg "len"=none) (uaR:mg "abs"=none):FnIn P w K mg base (k+1) "_law_feed" pw (ab7 K):=by
 refine F.raw sc_law_feed (fun vs H Q E h=>?_) fun fa cdv A outer s H vs Q E hr hs=>⟨_,(zc (zv (i:=2) sc_law_feed.nd rfl (Or.inl rfl) zd) (zc (zY (zE aaa (zi (zP (K:=K) rfl) rfl uac air (za (pv 0) zb)) zd (zC _)) (zh (zv (i:=2) sc_law_feed.nd rfl (Or.inl rfl) (ye (zI (K:=K) rfl) (pv 0) (zt qJ (pv 1) (zi (zP (K:=K) rfl) rfl uac air (za (pv 0) zb))) (fun _ _=>rfl)))) zA) (zh (zy (zZ (za (zi (adJ) rfl uaR PyProof.Rows.boot_abs (za (pv 2) zb)) (za (zt yl (zt vt zd (pv 1)) zd) zb))))))),?_⟩
 ·obtain⟨a,ns,i,rfl,_⟩:=h
  rfl
 obtain⟨a,ns,i,rfl,hS,h63,i0,i1,q⟩:=hs
 have e0:EnvOk K L2.f0 (jw qo [.dat (scr ns),.dat (.int i)]) (start qo [.ref a,.int i]) H:=ji (.cons (acH hS) (.cons (show RepV K L2.f0 H (.dat (.int i)) (.int i) from (rep_int (K:=K) (H:=hide H L2.f0)).mpr rfl) .nil)) (L2.fok0 H)
 refine adZ (D:={ nx:=fun ρ=>ρ=[some (.dat (scr ns)),some (.dat (.int i)),some (.dat (.int 0))],rt:=fun _=>False }) ?_ e0 ?_ (fun _ _ _ _ _ z=>z.elim) (fun _ z=>z) (fun _ z=>z)
 ·walk_at "w"
  rfl
 rintro _ σ1 H1 g1 e1 rfl
 refine adZ (D:={ nx:=fun ρ=>∃ c:Int,ρ=[some (.dat (scr ns)),some (.dat (.int i)),some (.dat (.int c))],rt:=fun _=>False }) ?_ e1 ?_ (fun _ _ _ _ _ z=>z.elim) (fun _ z=>z) (fun _ z=>z)
 ·walk_at "w"
  rw [ahZ]
  by_cases h:0<ns.length
  ·rw [if_pos (by simpa using h)]
   walk_at "w"
   rw [ahZ]
   have z0:=Int.emod_nonneg i (b:=(ns.length:Int)) (by omega)
   have z1:=ajN i (b:=(ns.length:Int)) (by omega)
   refine⟨by omega,_,rfl,_,afw (j:=(i % (ns.length:Int)).toNat) (by omega) (by omega),?_⟩
   walk_at "w"
   exact⟨_,rfl⟩
  ·rw [if_neg (by simpa using h)]
   walk_at "w"
   exact⟨_,rfl⟩
 rintro _ σ2 H2 g2 e2 ⟨c,rfl⟩
 unfold aeR
 have ss:Same H H2:=(L2.same0 g1).trans (L2.same0 g2)
 refine ad0 (R:=fun ds=>∃ x y:Int,ds=[.int x,.int y]/\0<=x/\0<=y/\y<2147483647) ?_ e2 ?_
 ·walk_at "w"
  omega
 ·rintro p ds vs H3 g3 hn rs ⟨x,y,rfl,hx,hy,hy'⟩
  have sf:Same H H3:=ss.trans (L2.same0 g3)
  have ev:vs=[.int x,.int y]:=Reps.ints (ns:=[x,y]) rs
  subst ev
  exact q p x y _ (sf.trans (yh hn _)) (sf.free hn) zr hx hy hy'
open PySem PySem.NumText PySem.Spec PyProof.Rows L2
theorem lay_ints:∀ r:List Int,aja (r.map .int)=true/\ai6 (r.map PyData.int)=0
 | []=>⟨rfl,rfl⟩
 | n :: r=>⟨(lay_ints r).1,by
  show max 0 (ai6 (r.map PyData.int))=0
  rw [(lay_ints r).2]
  rfl⟩
theorem qG:∀ rows:List (List Int),aja (rows.map fun r=>PyData.list (r.map .int))=true/\ai6 (rows.map fun r=>PyData.list (r.map .int))<=1
 | []=>⟨rfl,by decide⟩
 | r :: rows=>⟨by
  show ((PyData.list (r.map .int)).canLay0 && aja (rows.map fun r=>PyData.list (r.map .int)))=true
  rw [(qG rows).1,Bool.and_true]
  exact (lay_ints r).1,by
  show max (ai6 (r.map PyData.int)+1) (ai6 (rows.map fun r=>PyData.list (r.map .int)))<=1
  rw [(lay_ints r).2]
  exact Nat.max_le.mpr ⟨by decide,(qG rows).2⟩⟩
theorem afJ (z:Str):∃ s d,j3 z=.tuple [.str s,d]/\((∃ i,d=.int i) \/ ∃ ds,d=.list ds)/\(j3 z).canLay0=true/\(j3 z).depth<=60:=by
 have s1:(PyData.str "text").canLay0=true:=by decide +kernel
 have s2:(PyData.str "told").canLay0=true:=by decide +kernel
 have s3:(PyData.str "table").canLay0=true:=by decide +kernel
 unfold j3
 split
 ·rename_i i _
  refine⟨_,_,rfl,.inl ⟨_,rfl⟩,?_,by show max 0 (max 0 0)+1<=60;decide⟩
  show ((PyData.str "text").canLay0 && (true && true))=true
  rw [s1]
  rfl
 ·split
  ·refine⟨_,_,rfl,.inr ⟨_,rfl⟩,?_,?_⟩
   ·show ((PyData.str "told").canLay0 && (aja _ && true))=true
    rw [s2,(qG _).1]
    rfl
   ·have:=(qG (jJ z)).2
    show max 0 (max (ai6 _+1) 0)+1<=60
    omega
  ·rename_i i _
   refine⟨_,_,rfl,.inl ⟨_,rfl⟩,?_,by show max 0 (max 0 0)+1<=60;decide⟩
   show ((PyData.str "table").canLay0 && (true && true))=true
   rw [s3]
   rfl
noncomputable def fB:Nat->Nat
 | 0=>80
 | n+1=>2 * fB n+2
noncomputable def fT:Nat->Nat
 | 0=>2700
 | n+1=>2 * fT n+2
theorem ahG {n:Nat} (h:n<4):fB n<=700/\fT n<=29000:=by
 have:n=0 \/ n=1 \/ n=2 \/ n=3:=by omega
 rcases this with rfl | rfl | rfl | rfl <;> decide
theorem ahH:j3 ""=.tuple [.str "text",.int 0]:=by kernel_rfl
theorem ahI:j3 "0 0\n0 0"=.tuple [.str "told",.list [.list [.int 0,.int 0],.list [.int 0,.int 0]]]:=by kernel_rfl
theorem ag8 {f:Addr} {fd:FuncData} (F:Fun K "law" "law" qY f fd) (uac:mg "len"=none) (uag:mg "range"=none) (uai:mg "max"=none) (uah:mg "min"=none) (uae:mg "isinstance"=none) (uaS:mg "bool"=none) (kB:ahY K (.type "int") (.type "bool")=some false) (kL:ahY K (.type "list") (.type "bool")=some false)
  (ubB:FnIn P w K mg base k "_law_feed" pw (ab7 K)) (ubC:FnIn P w K mg base k "_law_text" pe (aeK K)) (uaT:FnIn P w K mg base k "_law_told" pf (aeO K)) (ubD:FnIn P w K mg base k "_law_due" pf (aga K)) (ubE:FnIn P w K mg base k "_law_spoilt" pz (abt K)) :
  FnOk P w K mg base CX0 (k+1) f fd pC (acI K):=by
 refine F.ok sc_law (fun vs H Q E h=>?_) fun cdv A outer s H vs Q E hr hs=>⟨_,(zc (jr ai7 rfl (jg rfl uag (za (zi (acN rfl) rfl uai boot_max (za zd (za (zi (acO rfl) rfl uah boot_min (za zd (za (zi (zP (K:=K) rfl) rfl uac air (za (pv 0) zb)) zb))) zb))) zb)) (zU (i:=1) sc_law.nd rfl (Or.inl rfl) (Or.inr rfl)) (zc (zv (i:=2) sc_law.nd rfl (Or.inl rfl) (zq ubB hr rfl (za (pv 0) (za (pv 1) zb)))) (zc (zv (i:=3) sc_law.nd rfl (Or.inl rfl) (zq ubC hr rfl (za (pv 2) zb))) (zh (jr ai7 rfl (jg rfl uag (za zd zb)) (zU (i:=4) sc_law.nd rfl (Or.inl rfl) (Or.inr rfl)) (zc (zv (i:=5) sc_law.nd rfl (Or.inl rfl) (zq uaT hr rfl (za (pv 3) zb))) (zc (zY (PW.pt (qR (zE (vC (K:=K) rfl hr.units) (pv 5) (zq ubD hr rfl (za (pv 3) zb)) (zC _)) (qf (yg (K:=K) rfl (zi (acZ (K:=K) rfl) rfl uae boot_isinstance (za (ye (afa (K:=K) rfl) (pv 5) zd (fun _ _=>rfl)) (za (ab9 (v:=.ty "bool") rfl uaS PyProof.Rows.boot_bool rfl) zb))) (fun _=>rfl))))) (zh (zy ab8)) zA) (zh (zv (i:=3) sc_law.nd rfl (Or.inl rfl) (zq ubE hr rfl (za (pv 2) (za (pv 3) zb)))))))))))) (zh (zy (aaw (yv (yb (K:=K) rfl hr.units) (zq uaT hr rfl (za zp zb)) (jb (za zp (za zd zb))) (zC _)) (aav (yv (yb (K:=K) rfl hr.units) (zq uaT hr rfl (za zp zb)) (jb (za zp (za (zZ (za (zZ (za zd (za zd zb))) (za (zZ (za zd (za zd zb))) zb))) zb))) (zC _))))))),?_⟩
 ·obtain⟨a,ns,rfl,_⟩:=h
  rfl
 obtain⟨a,ns,rfl,hS,h63,q⟩:=hs
 have e0:EnvOk K L2.f0 (jw acz [.dat (scr ns)]) (start acz [.ref a]) H:=ji (.cons (acH hS) .nil) (L2.fok0 H)
 suffices h:PSd K L2.f0 _ (jw acz [.dat (scr ns)]) { nx:=fun _=>False,rt:=fun d=>d=.bool true } from
  h _ H _ e0 (fun _ _ _ _ _ z=>z.elim) (fun d v H' _ r z=>by
   subst z
   rw [rep_bool.mp r]
   exact q H') (fun _ _ _ _ _ z=>z) (fun _ _ _ _ _ z=>z)
 refine zX (acm (qx (afH (R:=fun xs=>∃ j:Int,xs=[.dat (.int j)]/\0<=j/\j<=63) ?_ ?_)))
 ·walk_at "w"
  rw [ahZ]
  split <;> split <;> omega
 rintro _ ⟨j,rfl,j0,j1⟩
 refine⟨j,rfl,by omega,by omega,fun i ρ=>∃ x1 x2 x3 x4 x5,ρ=[some (.dat (scr ns)),x1,x2,x3,x4,x5],⟨_,_,_,_,_,rfl⟩,?_,?_⟩
 ·rintro i d _ hi ⟨x1,x2,x3,x4,x5,rfl⟩
  obtain⟨hi,rfl⟩:=jZ hi
  refine zu (agC (ag7 rfl rfl h63 (by omega) (by omega)) fun p=>?_)
  refine zX (z5 (zz () ?_))
  walk_at "w"
  rintro _ ⟨z0,rfl,tx0⟩
  refine zu (acm (qx (zj (zM (zD ⟨4,rfl,by decide,by decide,?_⟩)))))
  refine⟨fun n ρ=>∃ z x4 x5,Tx (fB n) (fT n) z/\ρ=[some (.dat (scr ns)),some (.dat (.int i)),some .feed,some (.dat (.str z)),x4,x5],⟨z0,_,_,tx0,rfl⟩,?_,?_⟩
  ·rintro n d _ hd ⟨z,x4,x5,tx,rfl⟩
   obtain⟨hn,rfl⟩:=jZ hd
   obtain⟨b1,b2⟩:=ahG (show n<4 from hn)
   have tz:=tx.imp b1 b2
   obtain⟨s0,d0,e0,k0,ly,dp⟩:=afJ z
   refine zu (zX (z5 (zz z (zj (ze rfl (zD ⟨rfl,⟨rfl,tz⟩,?_⟩))))))
   rintro _ rfl
   refine zu (zX (aa5 (acX (yy (jO (ze rfl (zz z (zj (ze rfl (zD ⟨rfl,⟨rfl,tz⟩,?_⟩))))))))))
   rintro _ rfl
   refine⟨ly,ly,aih (ajJ _ _) dp,_,rfl,?_⟩
   rw [if_pos rfl,akS _ ly,ai1,if_neg ahW]
   have ix:PEd K ⟨some p,[]⟩ (tOp (aeY K) (je 5) (tC (V.int 1))) [some (.dat (scr ns)),some (.dat (.int i)),some .feed,some (.dat (.str z)),some (.dat (.int (n:Int))),some (.dat (j3 z))] fun d=>d=d0:=by
    rw [e0]
    exact afU (ze rfl ⟨_,rfl,zM ⟨_,rfl,d0,zL (j:=1) rfl,rfl⟩⟩)
   refine yJ ?_
   rcases k0 with⟨i0,rfl⟩ | ⟨ds,rfl⟩
   ·refine ahr kB (ix.imp fun d ed=>⟨i0,ed,false,rfl,?_⟩)
    rw [if_neg ahW]
    refine yf (z5 (zz (fB n,fT n,z) (qK rfl (zj (ze rfl (zD ⟨rfl,⟨rfl,tx,b1,b2⟩,?_⟩))))))
    rintro _ ⟨z1,rfl,tx1⟩
    exact zu ⟨z1,_,_,tx1,rfl⟩
   ·refine ahm kL (ix.imp fun d ed=>⟨ds,ed,false,rfl,?_⟩)
    rw [if_neg ahW]
    refine yf (z5 (zz (fB n,fT n,z) (qK rfl (zj (ze rfl (zD ⟨rfl,⟨rfl,tx,b1,b2⟩,?_⟩))))))
    rintro _ ⟨z1,rfl,tx1⟩
    exact zu ⟨z1,_,_,tx1,rfl⟩
  ·rintro _ ⟨z,x4,x5,tx,rfl⟩
   exact⟨_,_,_,_,_,rfl⟩
 ·rintro _ ⟨x1,x2,x3,x4,x5,rfl⟩
  refine zN (abH (jO (zz "" (zj (zR (zD ⟨rfl,⟨rfl,yj _ _ _ (by decide +kernel)⟩,?_⟩))))))
  rintro _ rfl
  rw [ahH]
  have l1:(PyData.tuple [.str "text",.int 0]).canLay0=true:=by decide +kernel
  have l2:(PyData.tuple [.str "told",.list [.list [.int 0,.int 0],.list [.int 0,.int 0]]]).canLay0=true:=by decide +kernel
  refine qd (zj (zR (zj (zM (zD ⟨_,rfl,show 2<=1000 by decide,l1,l1,by decide,_,rfl,?_⟩)))))
  rw [if_neg ahW,akS _ l1,if_pos rfl]
  refine jO (zz "0 0\n0 0" (zj (zR (zD ⟨rfl,⟨rfl,yj _ _ _ (by decide +kernel)⟩,?_⟩))))
  rintro _ rfl
  rw [ahI]
  refine qd (zj (zR (zj (jQ (zj (jQ (zj (zM (zj (zM (zD ⟨_,rfl,show 2<=1000 by decide,zj (jQ (zj (zM (zj (zM (zD ⟨_,rfl,show 2<=1000 by decide,zD ⟨_,rfl,show 2<=1000 by decide,zD ⟨_,rfl,show 2<=1000 by decide,l2,l2,by decide,?_⟩⟩⟩))))))⟩)))))))))))
  exact congrArg PyData.bool (akS _ l2)
open PySem PySem.NumText PySem.Spec PyProof.Rows L2
theorem afK (F:Def K mg "_law_word" jC pe) (uax:mg "str"=none) (uad:FnIn P w K mg base k "_law_draw" pk (ab1 K)):FnIn P w K mg base (k+1) "_law_word" pe (aeJ K):=by
 refine F.ok sc_law_word rfl fun fa cdv A outer s H E hr=>⟨_,(zc (zv (i:=1) sc_law_word.nd rfl (Or.inl rfl) (zq uad hr rfl (za (pv 0) (za zd zb)))) (zc (zY (zE (yb (K:=K) rfl hr.units) (pv 1) zd (zC _)) (zc (zv (i:=2) sc_law_word.nd rfl (Or.inl rfl) (zt yl zd (zq uad hr rfl (za (pv 0) (za zd zb))))) (zh (zy (ye (zI (K:=K) rfl) (zZ (za (zt zF zp (zt aaL zp (pv 2))) (za (zt aaL zp (pv 2)) zb))) (zq uad hr rfl (za (pv 0) (za zd zb))) (fun _ _=>rfl))))) zA) (zc (zY (zE (yb (K:=K) rfl hr.units) (pv 1) zd (zC _)) (zh (zy (ye (zI (K:=K) rfl) (zZ (za zp (za zp (za zp (za zp (za zp (za zp (za zp (za zp (za zp (za zp zb))))))))))) (zq uad hr rfl (za (pv 0) (za zd zb))) (fun _ _=>rfl)))) zA) (zc (zY (zE adF (pv 1) zd (zC _)) (zh (zy (yt jt rfl uax ajT (za (zt vq (zq uad hr rfl (za (pv 0) (za (zt yl (zt vt zd (zt vv zd zd)) zd) zb))) (zt vv zd zd)) zb)))) zA) (zh (zy (yt jt rfl uax ajT (za (zt vq (zq uad hr rfl (za (pv 0) (za zd zb))) zd) zb)))))))),?_⟩
 rintro f xs ⟨⟩ hl rfl
 try dsimp only [zO,zm]
 refine yp (fun ρ=>∃ i:Int,ρ=[some .feed,some (.dat (.int i)),none]) (z5 (zz 12 ?_)) ?_
 ·walk_at "w"
  rintro _ ⟨i,rfl,_⟩
  exact zu ⟨i,rfl⟩
 rintro _ ⟨i,rfl⟩
 refine zX (jU ?_ ?_ (yf ?_))
 ·walk_at "w"
  trivial
 ·refine yp (fun ρ=>∃ m:Int,0<=m/\m<=30/\ρ=[some .feed,some (.dat (.int i)),some (.dat (.int m))]) (z5 ?_) ?_
  ·walk_at "w"
   refine zz 23 ?_
   walk_at "w"
   rintro _ ⟨m,rfl,_⟩
   exact⟨_,rfl,zu ⟨_,by omega,by omega,rfl⟩⟩
  rintro _ ⟨m,m0,m1,rfl⟩
  have r0:Tx 0 30 (va "0" m):=(aeH m0 (yj _ _ _ (by decide +kernel))).imp (aie _) (by omega)
  have r9:Tx 0 30 (va "9" m):=(aeH m0 (yj _ _ _ (by decide +kernel))).imp (aie _) (by omega)
  have l0:=r0.len
  have o1:Tx 0 1 "1":=yj _ _ _ (by decide +kernel)
  refine zN (qt (jQ (zj (ym (zR ⟨_,rfl,abV (zR ⟨_,rfl,ze rfl ⟨m,rfl,m0,by omega,by decide +kernel,_,rfl,?_,zj (abV (zR ⟨_,rfl,ze rfl ⟨m,rfl,m0,by omega,by decide +kernel,zD ⟨_,rfl,show 2<=1000 by decide,_,rfl,zz 2 ?_⟩⟩⟩))⟩⟩)⟩)))))
  ·have:("1":Str).length=1:=rfl
   rw [this,sizeLine_eq]
   omega
  ·walk_at "w"
   rintro _ ⟨q,rfl,q0,q1⟩
   have:q=0 \/ q=1:=by omega
   rcases this with rfl | rfl
   ·exact⟨_,rfl,_,zL (j:=0) rfl,_,rfl,(yr o1 r0).imp (by decide) (by decide)⟩
   ·exact⟨_,rfl,_,zL (j:=1) rfl,_,rfl,r9.imp (by decide) (by decide)⟩
 refine zX (jU ?_ ?_ (yf ?_))
 ·walk_at "w"
  trivial
 ·refine zN (qt (jQ ?_))
  walk_at "w"
  refine zz 10 ?_
  walk_at "w"
  rintro _ ⟨q,rfl,q0,q1⟩
  obtain⟨d,hd,md⟩:=menu q0 q1 (show (10:Int)=(([.str "-0",.str "00",.str "01",.str "-",.str "",.str "+1",.str "1.0",.str "-01",.str "1_0",.str "--1"]:List PyData).length:Int) by decide)
  refine⟨_,rfl,d,hd,?_⟩
  simp only [ah7,List.not_mem_nil,or_false] at md
  rcases md with rfl | rfl | rfl | rfl | rfl | rfl | rfl | rfl | rfl | rfl <;> exact⟨_,rfl,yj _ _ _ (by decide +kernel)⟩
 refine zX (jU ?_ ?_ (yf ?_))
 ·walk_at "w"
  trivial
 ·refine zN (abT ?_)
  walk_at "w"
  refine zz 2000000001 ?_
  walk_at "w"
  rintro _ ⟨q,rfl,q0,q1⟩
  walk_at "w"
  refine⟨?_,_,rfl,(ab6 ?_).imp (by decide) (by decide)⟩ <;> (show Int.natAbs (q - 10 ^ 9)<_;omega)
 ·refine zN (abT ?_)
  walk_at "w"
  refine zz 25 ?_
  walk_at "w"
  rintro _ ⟨q,rfl,q0,q1⟩
  refine⟨_,rfl,zM ⟨_,rfl,_,rfl,?_,_,rfl,(ab6 ?_).imp (by decide) (by decide)⟩⟩ <;> (show Int.natAbs (q - 12)<_;omega)
end
theorem _root_.L2.FnIn.m {P w K mg base j k x ps sp} (h:FnIn P w K mg base j x ps sp) (hk:j<=k:=by decide):FnIn P w K mg base k x ps sp:=h.mono hk
theorem _root_.L2.FnInF.m {P w K mg base j k x ps sp} (h:FnInF P w K mg base j x ps sp) (hk:j<=k:=by decide):FnInF P w K mg base k x ps sp:=h.mono hk
theorem _root_.L2.FnInM.m {P w K mg base j k x ps sp} (h:FnInM P w K mg base j x ps sp) (hk:j<=k:=by decide):FnInM P w K mg base k x ps sp:=h.mono hk
theorem xf1 {K:PySem.W.Frag} {h:Heap} {mg:Str->Option Value} {x:Str} {st:Stmt} {f:Addr} {od an:Option Addr} {sl:Array (Option Value)} {oc kV dc pm cd ct:Value} (X:K.In h) (G:h.Ns mainGlobals mg) (a:FD K x st f od an sl oc kV dc pm cd ct) {p0:Str} (hb:∀ (kV doc pm:Value) (an:Option Addr) (cdv ct:Value) (u0:Value),bindArgs (aiG x x (yx st) (zW st) (zg st) .none kV doc pm an cdv ct) ⟨[u0],[]⟩=pure ([p0].zip [u0])):Def K mg x st [p0]:=agX X G a (fun _ _ _ _ _ _ us hl=>match us,hl with | [u0],_=>hb _ _ _ _ _ _ u0)
theorem xf2 {K:PySem.W.Frag} {h:Heap} {mg:Str->Option Value} {x:Str} {st:Stmt} {f:Addr} {od an:Option Addr} {sl:Array (Option Value)} {oc kV dc pm cd ct:Value} (X:K.In h) (G:h.Ns mainGlobals mg) (a:FD K x st f od an sl oc kV dc pm cd ct) {p0 p1:Str} (hb:∀ (kV doc pm:Value) (an:Option Addr) (cdv ct:Value) (u0 u1:Value),bindArgs (aiG x x (yx st) (zW st) (zg st) .none kV doc pm an cdv ct) ⟨[u0,u1],[]⟩=pure ([p0,p1].zip [u0,u1])):Def K mg x st [p0,p1]:=agX X G a (fun _ _ _ _ _ _ us hl=>match us,hl with | [u0,u1],_=>hb _ _ _ _ _ _ u0 u1)
set_option autoImplicit true in
set_option relaxedAutoImplicit true in
theorem all_mk {l:PySem.W.OpenLaw} {w:World} {K:ahX} {h:Heap} {mg:Str->Option Value} {fa:Addr} (X:K.In h) (G:h.Ns mainGlobals mg) (hfa:mg "law"=some (.ref fa))
  (a1:FD K "ask_table" y2 f1 od1 an1 sl1 oc1 kV1 dc1 pm1 cd1 ct1)
  (a2:FD K "fits" aaM f2 od2 an2 sl2 oc2 kV2 dc2 pm2 cd2 ct2)
  (a3:FD K "is_row" qD f3 od3 an3 sl3 oc3 kV3 dc3 pm3 cd3 ct3)
  (a4:FD K "read_table" yP f4 od4 an4 sl4 oc4 kV4 dc4 pm4 cd4 ct4)
  (a5:FD K "is_number" y3 f5 od5 an5 sl5 oc5 kV5 dc5 pm5 cd5 ct5)
  (a6:FD K "_law_feed" jA f6 od6 an6 sl6 oc6 kV6 dc6 pm6 cd6 ct6)
  (a7:FD K "_law_draw" jB f7 od7 an7 sl7 oc7 kV7 dc7 pm7 cd7 ct7)
  (a8:FD K "_law_signs" y4 f8 od8 an8 sl8 oc8 kV8 dc8 pm8 cd8 ct8)
  (a9:FD K "_law_word" jC f9 od9 an9 sl9 oc9 kV9 dc9 pm9 cd9 ct9)
  (a10:FD K "_law_text" jD f10 od10 an10 sl10 oc10 kV10 dc10 pm10 cd10 ct10)
  (a11:FD K "_law_spoilt" yQ f11 od11 an11 sl11 oc11 kV11 dc11 pm11 cd11 ct11)
  (a12:FD K "_law_number" yR f12 od12 an12 sl12 oc12 kV12 dc12 pm12 cd12 ct12)
  (a13:FD K "_law_table_due" yq f13 od13 an13 sl13 oc13 kV13 dc13 pm13 cd13 ct13)
  (a14:FD K "_law_due" j7 f14 od14 an14 sl14 oc14 kV14 dc14 pm14 cd14 ct14)
  (a15:FD K "_law_alone" y9 f15 od15 an15 sl15 oc15 kV15 dc15 pm15 cd15 ct15)
  (a16:FD K "_law_told" jE f16 od16 an16 sl16 oc16 kV16 dc16 pm16 cd16 ct16)
  (a17:FD K "law" qY f17 od17 an17 sl17 oc17 kV17 dc17 pm17 cd17 ct17)
  {ubF:Tok} (uaU:aib K mainGlobals "FEWEST"=some (some (.int (2) ubF)))
  {ubG:Tok} (uaV:aib K mainGlobals "MOST"=some (some (.int (7) ubG)))
  {ubH:Tok} (uaW:aib K mainGlobals "LEAST"=some (some (.int (-1000000000) ubH)))
  {ubI:Tok} (uaX:aib K mainGlobals "GREATEST"=some (some (.int (1000000000) ubI)))
  {ubJ:Tok} (uaY:aib K mainGlobals "MOST_FIGURES"=some (some (.int (11) ubJ)))
  {ubK:Tok} (uaZ:aib K mainGlobals "FIGURES"=some (some (.str ("0123456789") ubK)))
  (ua0:aib K mainGlobals "len"=some none)
  (ua1:aib K mainGlobals "min"=some none)
  (ua2:aib K mainGlobals "max"=some none)
  (ua3:aib K mainGlobals "enumerate"=some none)
  (ua4:aib K mainGlobals "all"=some none)
  (ua5:aib K mainGlobals "int"=some none)
  (ua6:aib K mainGlobals "str"=some none)
  (ua7:aib K mainGlobals "range"=some none)
  (ua8:aib K mainGlobals "isinstance"=some none)
  (ua9:aib K mainGlobals "any"=some none)
  (uba:aib K mainGlobals "ValueError"=some none)
  (ubb:aib K mainGlobals "abs"=some none)
  (ubc:aib K mainGlobals "bool"=some none)
  {uaa:Addr} (ubd:aib K mainGlobals "NoTable"=some (some (.ref uaa)))
  {uab:Addr} (ube:aib K mainGlobals "NoText"=some (some (.ref uab)))
  {uak:Addr} (ubf:aib K mainGlobals "NoPoint"=some (some (.ref uak)))
  {ual:Addr} (ubg:aib K mainGlobals "NoGate"=some (some (.ref ual)))
  {uam:Addr} (ubh:aib K mainGlobals "NoRing"=some (some (.ref uam)))
  {uan:Addr} (ubi:aib K mainGlobals "TooSteep"=some (some (.ref uan)))
  {uao:Addr} (ubj:aib K mainGlobals "NoWeb"=some (some (.ref uao)))
  {uap:Addr} (ubk:aib K mainGlobals "NoBack"=some (some (.ref uap)))
  {uaq:Addr} (ubl:aib K mainGlobals "NoRow"=some (some (.ref uaq)))
  {uar:Addr} (ubm:aib K mainGlobals "NoDeed"=some (some (.ref uar)))
  {uas:Addr} (ubn:aib K mainGlobals "HeightError"=some (some (.ref uas)))
  {fI_NoTable:Addr} {odI_NoTable anI_NoTable:Option Addr} {slI_NoTable:Array (Option Value)} {ocI_NoTable kVI_NoTable dcI_NoTable pmI_NoTable cdI_NoTable ctI_NoTable:Value} (ii_NoTable:aiB K (.ref uaa) "__init__"=some (some (.ref fI_NoTable)))
  (li_NoTable:K.lookup fI_NoTable=some ⟨ocI_NoTable,odI_NoTable,.func (aiG "__init__" "NoTable.__init__" (yx yG) (zW yG) (zg yG) .none kVI_NoTable dcI_NoTable pmI_NoTable anI_NoTable cdI_NoTable ctI_NoTable),slI_NoTable⟩) (ci_NoTable:ajh K cdI_NoTable "NoTable.__init__"=true) (ki_NoTable:aip K (.ref fI_NoTable)=true) (fi_NoTable:jl K uaa fI_NoTable uas "at"=true)
  {fI_NoText:Addr} {odI_NoText anI_NoText:Option Addr} {slI_NoText:Array (Option Value)} {ocI_NoText kVI_NoText dcI_NoText pmI_NoText cdI_NoText ctI_NoText:Value} (ii_NoText:aiB K (.ref uab) "__init__"=some (some (.ref fI_NoText)))
  (li_NoText:K.lookup fI_NoText=some ⟨ocI_NoText,odI_NoText,.func (aiG "__init__" "NoText.__init__" (yx yT) (zW yT) (zg yT) .none kVI_NoText dcI_NoText pmI_NoText anI_NoText cdI_NoText ctI_NoText),slI_NoText⟩) (ci_NoText:ajh K cdI_NoText "NoText.__init__"=true) (ki_NoText:aip K (.ref fI_NoText)=true) (fi_NoText:jl K uab fI_NoText uas "line"=true)
  (uau:yZ K uaa=true)
  (ktv:ahY K (.ref uaa) (.type "ValueError")=some true)
  (kt1:ahY K (.ref uaa) (.ref uak)=some false)
  (kt2:ahY K (.ref uaa) (.ref ual)=some false)
  (kt3:ahY K (.ref uaa) (.ref uam)=some false)
  (kt4:ahY K (.ref uaa) (.ref uan)=some false)
  (kt5:ahY K (.ref uaa) (.ref uao)=some false)
  (kt6:ahY K (.ref uaa) (.ref uap)=some false)
  (kt8:ahY K (.ref uaa) (.ref uaq)=some false)
  (kt9:ahY K (.ref uaa) (.ref uar)=some false)
  (uav:yZ K uab=true)
  (kxv:ahY K (.ref uab) (.type "ValueError")=some true)
  (kx1:ahY K (.ref uab) (.ref uak)=some false)
  (kx2:ahY K (.ref uab) (.ref ual)=some false)
  (kx3:ahY K (.ref uab) (.ref uam)=some false)
  (kx4:ahY K (.ref uab) (.ref uan)=some false)
  (kx5:ahY K (.ref uab) (.ref uao)=some false)
  (kx6:ahY K (.ref uab) (.ref uap)=some false)
  (kx8:ahY K (.ref uab) (.ref uaq)=some false)
  (kx9:ahY K (.ref uab) (.ref uar)=some false)
  (eh:aji K (.ref uaa) (.ref uas)=some true)
  (ex:aji K (.ref uab) (.ref uas)=some true)
  (ktt:ahY K (.ref uaa) (.ref uaa)=some true)
  (ktx:ahY K (.ref uaa) (.ref uab)=some false)
  (kxx:ahY K (.ref uab) (.ref uab)=some true)
  (kxt:ahY K (.ref uab) (.ref uaa)=some false)
  (kB:ahY K (.type "int") (.type "bool")=some false)
  (kL:ahY K (.type "list") (.type "bool")=some false) :
  ∃ fd:FuncData,(∀ (s:Shared) (v:Value),BindsTo s fd ⟨[v],[]⟩ [("_law_script",v)])/\∀ base:Heap,K.In base->base.Ns mainGlobals mg->FnOk l.prog w K mg base CX0 10 fa fd pC (acI K):=by
 have ubL:Def K mg "ask_table" y2 ["rows"]:=xf1 X G a1 (fun _ _ _ _ _ _ _=>rfl)
 have ubM:Def K mg "fits" aaM pj:=xf1 X G a2 (fun _ _ _ _ _ _ _=>rfl)
 have ubN:Def K mg "is_row" qD ["row"]:=xf1 X G a3 (fun _ _ _ _ _ _ _=>rfl)
 have ubO:Def K mg "read_table" yP ["text"]:=xf1 X G a4 (fun _ _ _ _ _ _ _=>rfl)
 have ubP:Def K mg "is_number" y3 ph:=xf1 X G a5 (fun _ _ _ _ _ _ _=>rfl)
 have ubQ:Def K mg "_law_feed" jA pw:=xf2 X G a6 (fun _ _ _ _ _ _ _ _=>rfl)
 have ubR:Def K mg "_law_draw" jB pk:=xf2 X G a7 (fun _ _ _ _ _ _ _ _=>rfl)
 have ubS:Def K mg "_law_signs" y4 []:=agX X G a8 (fun _ _ _ _ _ _ us hl=>match us,hl with | [],_=>rfl)
 have ubT:Def K mg "_law_word" jC pe:=xf1 X G a9 (fun _ _ _ _ _ _ _=>rfl)
 have ubU:Def K mg "_law_text" jD pe:=xf1 X G a10 (fun _ _ _ _ _ _ _=>rfl)
 have ubV:Def K mg "_law_spoilt" yQ pz:=xf2 X G a11 (fun _ _ _ _ _ _ _ _=>rfl)
 have ubW:Def K mg "_law_number" yR pq:=xf1 X G a12 (fun _ _ _ _ _ _ _=>rfl)
 have ubX:Def K mg "_law_table_due" yq pA:=xf1 X G a13 (fun _ _ _ _ _ _ _=>rfl)
 have ubY:Def K mg "_law_due" j7 pf:=xf1 X G a14 (fun _ _ _ _ _ _ _=>rfl)
 have ubZ:Def K mg "_law_alone" y9 pB:=xf1 X G a15 (fun _ _ _ _ _ _ _=>rfl)
 have ub0:Def K mg "_law_told" jE pf:=xf1 X G a16 (fun _ _ _ _ _ _ _=>rfl)
 have ub1:Def K mg "law" qY pC:=xf1 X G a17 (fun _ _ _ _ _ _ _=>rfl)
 have uaz:=aio X G uaU
 have uaA:=aio X G uaV
 have uaB:=aio X G uaW
 have uaC:=aio X G uaX
 have uaD:=aio X G uaY
 have uaE:=aio X G uaZ
 have uac:=ait X G ua0
 have uah:=ait X G ua1
 have uai:=ait X G ua2
 have uaj:=ait X G ua3
 have uay:=ait X G ua4
 have uaf:=ait X G ua5
 have uax:=ait X G ua6
 have uag:=ait X G ua7
 have uae:=ait X G ua8
 have uaH:=ait X G ua9
 have uaI:=ait X G uba
 have uaR:=ait X G ubb
 have uaS:=ait X G ubc
 have uat:=aio X G ubd
 have uaw:=aio X G ube
 have uaJ:=aio X G ubf
 have uaK:=aio X G ubg
 have uaL:=aio X G ubh
 have uaM:=aio X G ubi
 have uaN:=aio X G ubj
 have uaO:=aio X G ubk
 have uaP:=aio X G ubl
 have uaQ:=aio X G ubm
 have uaF:=aio X G ubn
 have e:=hfa.symm.trans (aio X G a17.1)
 cases e
 have F0:=vy (st:=qY) a17.2.1 a17.2.2.1 a17.2.2.2
 refine⟨aiG "law" "law" (yx qY) (zW qY) (zg qY) .none kV17 dc17 pm17 an17 cd17 ct17,fun s v=>.of_eq rfl,fun base _ _=>?_⟩
 have I_NoTable:=vd (P:=l.prog) (w:=w) (base:=base) fi_NoTable uaF (vy (st:=yG) li_NoTable ci_NoTable ki_NoTable)
 have I_NoText:=vX (P:=l.prog) (w:=w) (base:=base) fi_NoText uaF (vy (st:=yT) li_NoText ci_NoText ki_NoText)
 have H0:=afI (P:=l.prog) (w:=w) (base:=base) (k:=0) ubQ uac uaR
 have H1:=afy (P:=l.prog) (w:=w) (base:=base) (k:=0) ubR
 have H2:=aeF (P:=l.prog) (w:=w) (base:=base) (k:=0) ubP uac uay ⟨_,uaD⟩ ⟨_,uaE⟩
 have H3:=afx (P:=l.prog) (w:=w) (base:=base) (k:=0) ubM uac ⟨_,uaz⟩ ⟨_,uaA⟩
 have H4:=aeN (P:=l.prog) (w:=w) (base:=base) (k:=0) ubZ uae uaH uaI uaJ uaK uaL uaM uaN uaO uaP uaQ uau ktv kt1 kt2 kt3 kt4 kt5 kt6 kt8 kt9 uav kxv kx1 kx2 kx3 kx4 kx5 kx6 kx8 kx9
 have H5:=ads (P:=l.prog) (w:=w) (base:=base) (k:=0) ubW uac uaf
 have H6:=afE (P:=l.prog) (w:=w) (base:=base) (k:=0) ubX uac uag uai uah
 have H7:=aeI (P:=l.prog) (w:=w) (base:=base) (k:=0) ubS
 have H8:=afK (k:=1) ubT uax H1.m
 have H9:=adk (k:=1) ubN uah uai ⟨_,uaB⟩ ⟨_,uaC⟩ H3.m
 have H10:=ag6 (k:=1) ubY uaj H5.m H6.m
 have H11:=adq (k:=1) ubV uac H1.m H7.m
 have H12:=afB (k:=2) ubU uax uaf uag H1.m H8.m
 have H13:=afA (k:=2) ubL uac uaj uat I_NoTable H3.m H9.m
 have H14:=aeG (k:=5) ubO uaj uay uaf uaw I_NoText H2.m H13.m
 have H15:=afF (k:=8) ub0 uae uaF uaw uat I_NoTable I_NoText uau uav eh ex ktt ktx kxx kxt H14.m H4.m
 exact ag8 (k:=9) F0 uac uag uai uah uae uaS kB kL H0.m H12.m H15.m H10.m H11.m
theorem walk {l:PySem.W.OpenLaw} {q:Program} {loose:List Str} {XP:(Str->Option Value)->Heap->Prop} {YP:World->Heap->Prop} {d:DefRec} {K:Params->ahX} (hn:l.most=some 63) (hdf:d.params.defaults=[])
  (hY:∀ (w:World) (h:Heap),YP w h->(K w.params).In h)
  (F:∀ (w:World) (mg:Str->Option Value) (fa:Addr) (h:Heap),(K w.params).In h->h.Ns mainGlobals mg->mg d.name=some (.ref fa) ->
   ∃ fd:FuncData,(∀ (s:Shared) (u:Value),BindsTo s fd ⟨[u],[]⟩ [("_law_script",u)])/\∀ base:Heap,(K w.params).In base->base.Ns mainGlobals mg->FnOk l.prog w (K w.params) mg base CX0 10 fa fd pC (acI (K w.params))) :
  PySem.W.WalkO q loose XP YP l.row.toRowW d [] (fun f vs=>PySem.call f vs) :=
 L2.walk_of (n:=63) (k:=10) (x:="_law_script") (CX:=fun _=>CX0) (sp:=fun w=>acI (K w.params)) hn (by decide) hdf ⟨rfl,by decide,by decide⟩ hY F (fun _ _ a ns hl _ hS=>⟨a,ns,rfl,hS,hl,fun _=>rfl⟩) fun _ _ _ _ _ z=>z
end My
noncomputable def PySem.W.Fast.tw10035613685480346813:Nat:=0
noncomputable def PySem.W.Fast.tw10065269045094292947:Nat:=0
noncomputable def PySem.W.Fast.tw10728788420748272167:Nat:=0
noncomputable def PySem.W.Fast.tw1088072073685626055:Nat:=0
noncomputable def PySem.W.Fast.tw10931613567818454600:Nat:=0
noncomputable def PySem.W.Fast.tw11091173829422886635:Nat:=0
noncomputable def PySem.W.Fast.tw11353159847773690148:Nat:=0
noncomputable def PySem.W.Fast.tw11688973408875898985:Nat:=0
noncomputable def PySem.W.Fast.tw11780852674096897119:Nat:=0
noncomputable def PySem.W.Fast.tw12059672515951664992:Nat:=0
noncomputable def PySem.W.Fast.tw12071913910231066360:Nat:=0
noncomputable def PySem.W.Fast.tw13161455421937852255:Nat:=0
noncomputable def PySem.W.Fast.tw13449852449714432071:Nat:=0
noncomputable def PySem.W.Fast.tw13779260308792880927:Nat:=0
noncomputable def PySem.W.Fast.tw13911507381389847553:Nat:=0
noncomputable def PySem.W.Fast.tw13918228962573980274:Nat:=0
noncomputable def PySem.W.Fast.tw1396879687908174769:Nat:=0
noncomputable def PySem.W.Fast.tw14132180490665334935:Nat:=0
noncomputable def PySem.W.Fast.tw14492221350542484184:Nat:=0
noncomputable def PySem.W.Fast.tw14787420850112148278:Nat:=0
noncomputable def PySem.W.Fast.tw15088894315505425026:Nat:=0
noncomputable def PySem.W.Fast.tw15218426388701448655:Nat:=0
noncomputable def PySem.W.Fast.tw15718923792164654031:Nat:=0
noncomputable def PySem.W.Fast.tw15790729480898449650:Nat:=0
noncomputable def PySem.W.Fast.tw15845438039449684442:Nat:=0
noncomputable def PySem.W.Fast.tw16045412086699264932:Nat:=0
noncomputable def PySem.W.Fast.tw16085107201803968199:Nat:=0
noncomputable def PySem.W.Fast.tw16111512321362079300:Nat:=0
noncomputable def PySem.W.Fast.tw16171526011469638340:Nat:=0
noncomputable def PySem.W.Fast.tw16332366906205332449:Nat:=0
noncomputable def PySem.W.Fast.tw16492116860868546076:Nat:=0
noncomputable def PySem.W.Fast.tw16538418544615780528:Nat:=0
noncomputable def PySem.W.Fast.tw16586285314873662009:Nat:=0
noncomputable def PySem.W.Fast.tw16673209227217013218:Nat:=0
noncomputable def PySem.W.Fast.tw16798918388461866806:Nat:=0
noncomputable def PySem.W.Fast.tw16871099271813774915:Nat:=0
noncomputable def PySem.W.Fast.tw16970127571440505171:Nat:=0
noncomputable def PySem.W.Fast.tw16977181387972860646:Nat:=0
noncomputable def PySem.W.Fast.tw17153242050117166184:Nat:=0
noncomputable def PySem.W.Fast.tw17272032633003098956:Nat:=0
noncomputable def PySem.W.Fast.tw17295426227794102365:Nat:=0
noncomputable def PySem.W.Fast.tw17315229179686274027:Nat:=0
noncomputable def PySem.W.Fast.tw17462667634628590747:Nat:=0
noncomputable def PySem.W.Fast.tw17516665942667322761:Nat:=0
noncomputable def PySem.W.Fast.tw17786454819277371471:Nat:=0
noncomputable def PySem.W.Fast.tw17795282734873148679:Nat:=0
noncomputable def PySem.W.Fast.tw17804466000941708758:Nat:=0
noncomputable def PySem.W.Fast.tw17919025356362071462:Nat:=0
noncomputable def PySem.W.Fast.tw17984085709316028658:Nat:=0
noncomputable def PySem.W.Fast.tw18017325727259040988:Nat:=0
noncomputable def PySem.W.Fast.tw18058116860109439259:Nat:=0
noncomputable def PySem.W.Fast.tw18092932364482874751:Nat:=0
noncomputable def PySem.W.Fast.tw2161385558693899654:Nat:=0
noncomputable def PySem.W.Fast.tw2704299762800408486:Nat:=0
noncomputable def PySem.W.Fast.tw3365356771825161372:Nat:=0
noncomputable def PySem.W.Fast.tw3429757787079943947:Nat:=0
noncomputable def PySem.W.Fast.tw3640937360642611412:Nat:=0
noncomputable def PySem.W.Fast.tw4066403240368752233:Nat:=0
noncomputable def PySem.W.Fast.tw4198943002702313385:Nat:=0
noncomputable def PySem.W.Fast.tw4200961729450291085:Nat:=0
noncomputable def PySem.W.Fast.tw4323675317218882199:Nat:=0
noncomputable def PySem.W.Fast.tw4393395865652434475:Nat:=0
noncomputable def PySem.W.Fast.tw4505343135941461254:Nat:=0
noncomputable def PySem.W.Fast.tw4740858735420525424:Nat:=0
noncomputable def PySem.W.Fast.tw4764979004230730308:Nat:=0
noncomputable def PySem.W.Fast.tw4859607376872245223:Nat:=0
noncomputable def PySem.W.Fast.tw5090614796752559224:Nat:=0
noncomputable def PySem.W.Fast.tw5182730621042918619:Nat:=0
noncomputable def PySem.W.Fast.tw5268178291980646991:Nat:=0
noncomputable def PySem.W.Fast.tw529585933429788294:Nat:=0
noncomputable def PySem.W.Fast.tw5753596154670764078:Nat:=0
noncomputable def PySem.W.Fast.tw583513325348536191:Nat:=0
noncomputable def PySem.W.Fast.tw6396635911520179917:Nat:=0
noncomputable def PySem.W.Fast.tw6533154782551690599:Nat:=0
noncomputable def PySem.W.Fast.tw6825085408859834679:Nat:=0
noncomputable def PySem.W.Fast.tw6984692411828437023:Nat:=0
noncomputable def PySem.W.Fast.tw7105465679307019937:Nat:=0
noncomputable def PySem.W.Fast.tw7175621642746248971:Nat:=0
noncomputable def PySem.W.Fast.tw7598957321489006662:Nat:=0
noncomputable def PySem.W.Fast.tw7710051624591112595:Nat:=0
noncomputable def PySem.W.Fast.tw7858086951317286022:Nat:=0
noncomputable def PySem.W.Fast.tw7931523373899504565:Nat:=0
noncomputable def PySem.W.Fast.tw7984380516617919332:Nat:=0
noncomputable def PySem.W.Fast.tw8155822124536991486:Nat:=0
noncomputable def PySem.W.Fast.tw8193562147507897389:Nat:=0
noncomputable def PySem.W.Fast.tw8258490652033550546:Nat:=0
noncomputable def PySem.W.Fast.tw8380300145160284264:Nat:=0
noncomputable def PySem.W.Fast.tw8385456329778004671:Nat:=0
noncomputable def PySem.W.Fast.tw8770985075694250341:Nat:=0
noncomputable def PySem.W.Fast.tw8908941702454823576:Nat:=0
noncomputable def PySem.W.Fast.tw9255432747681168398:Nat:=0
noncomputable def PySem.W.Fast.tw9384521756016481306:Nat:=0
noncomputable def PySem.W.Fast.tw938642746345269937:Nat:=0
noncomputable def PySem.W.Fast.tw9467204179465141765:Nat:=0
noncomputable def PySem.W.Fast.tw9580610482252561495:Nat:=0
noncomputable def PySem.W.Fast.tw9688658216255853021:Nat:=0
noncomputable def PySem.W.Fast.tw9778354709249520207:Nat:=0
open PySem PySem.W PyProof.Rows
set_option maxRecDepth 100000 in
set_option maxHeartbeats 0 in
theorem PySem.Challenge.cw_heightrings_k81_texts_refused_holds : PySem.Challenge.rw_heightrings_k81_texts_refused.Holds := by
 w_on;o_law;k_head;(case hw=>w_witness2)
 k_fill
 refine My.walk (l:=PySem.Challenge.rw_heightrings_k81_texts_refused) rfl rfl (fun w h Y=>by first | exact PySem.W.kIn_of Y | exact PySem.W.km_in_of Y) ?F
 case F =>
  intro w mg fa h KX G hmg
  refine' My.all_mk KX G hmg ?a1 ?a2 ?a3 ?a4 ?a5 ?a6 ?a7 ?a8 ?a9 ?a10 ?a11 ?a12 ?a13 ?a14 ?a15 ?a16 ?a17 ?uaU ?uaV ?uaW ?uaX ?uaY ?uaZ ?ua0 ?ua1 ?ua2 ?ua3 ?ua4 ?ua5 ?ua6 ?ua7 ?ua8 ?ua9 ?uba ?ubb ?ubc ?ubd ?ube ?ubf ?ubg ?ubh ?ubi ?ubj ?ubk ?ubl ?ubm ?ubn ?ii_NoTable ?li_NoTable ?ci_NoTable ?ki_NoTable ?fi_NoTable ?ii_NoText ?li_NoText ?ci_NoText ?ki_NoText ?fi_NoText ?uau ?ktv ?kt1 ?kt2 ?kt3 ?kt4 ?kt5 ?kt6 ?kt8 ?kt9 ?uav ?kxv ?kx1 ?kx2 ?kx3 ?kx4 ?kx5 ?kx6 ?kx8 ?kx9 ?eh ?ex ?ktt ?ktx ?kxx ?kxt ?kB ?kL
  (case a1=>refine⟨?_,?_,?_,?_⟩ <;> k_is)
  (case a2=>refine⟨?_,?_,?_,?_⟩ <;> k_is)
  (case a3=>refine⟨?_,?_,?_,?_⟩ <;> k_is)
  (case a4=>refine⟨?_,?_,?_,?_⟩ <;> k_is)
  (case a5=>refine⟨?_,?_,?_,?_⟩ <;> k_is)
  (case a6=>refine⟨?_,?_,?_,?_⟩ <;> k_is)
  (case a7=>refine⟨?_,?_,?_,?_⟩ <;> k_is)
  (case a8=>refine⟨?_,?_,?_,?_⟩ <;> k_is)
  (case a9=>refine⟨?_,?_,?_,?_⟩ <;> k_is)
  (case a10=>refine⟨?_,?_,?_,?_⟩ <;> k_is)
  (case a11=>refine⟨?_,?_,?_,?_⟩ <;> k_is)
  (case a12=>refine⟨?_,?_,?_,?_⟩ <;> k_is)
  (case a13=>refine⟨?_,?_,?_,?_⟩ <;> k_is)
  (case a14=>refine⟨?_,?_,?_,?_⟩ <;> k_is)
  (case a15=>refine⟨?_,?_,?_,?_⟩ <;> k_is)
  (case a16=>refine⟨?_,?_,?_,?_⟩ <;> k_is)
  (case a17=>refine⟨?_,?_,?_,?_⟩ <;> k_is)
  (case uaU=>k_is)
  (case uaV=>k_is)
  (case uaW=>k_is)
  (case uaX=>k_is)
  (case uaY=>k_is)
  (case uaZ=>k_is)
  (case ua0=>k_is)
  (case ua1=>k_is)
  (case ua2=>k_is)
  (case ua3=>k_is)
  (case ua4=>k_is)
  (case ua5=>k_is)
  (case ua6=>k_is)
  (case ua7=>k_is)
  (case ua8=>k_is)
  (case ua9=>k_is)
  (case uba=>k_is)
  (case ubb=>k_is)
  (case ubc=>k_is)
  (case ubd=>k_is)
  (case ube=>k_is)
  (case ubf=>k_is)
  (case ubg=>k_is)
  (case ubh=>k_is)
  (case ubi=>k_is)
  (case ubj=>k_is)
  (case ubk=>k_is)
  (case ubl=>k_is)
  (case ubm=>k_is)
  (case ubn=>k_is)
  (case ii_NoTable=>k_is)
  (case li_NoTable=>k_is)
  (case ci_NoTable=>k_is)
  (case ki_NoTable=>k_is)
  (case fi_NoTable=>kernel_rfl)
  (case ii_NoText=>k_is)
  (case li_NoText=>k_is)
  (case ci_NoText=>k_is)
  (case ki_NoText=>k_is)
  (case fi_NoText=>kernel_rfl)
  (case uau=>kernel_rfl)
  (case ktv=>kernel_rfl)
  (case kt1=>kernel_rfl)
  (case kt2=>kernel_rfl)
  (case kt3=>kernel_rfl)
  (case kt4=>kernel_rfl)
  (case kt5=>kernel_rfl)
  (case kt6=>kernel_rfl)
  (case kt8=>kernel_rfl)
  (case kt9=>kernel_rfl)
  (case uav=>kernel_rfl)
  (case kxv=>kernel_rfl)
  (case kx1=>kernel_rfl)
  (case kx2=>kernel_rfl)
  (case kx3=>kernel_rfl)
  (case kx4=>kernel_rfl)
  (case kx5=>kernel_rfl)
  (case kx6=>kernel_rfl)
  (case kx8=>kernel_rfl)
  (case kx9=>kernel_rfl)
  (case eh=>kernel_rfl)
  (case ex=>kernel_rfl)
  (case ktt=>kernel_rfl)
  (case ktx=>kernel_rfl)
  (case kxx=>kernel_rfl)
  (case kxt=>kernel_rfl)
  (case kB=>kernel_rfl)
  (case kL=>kernel_rfl)
end
