import PyProof.Rows.All
import Wide.All
import OpenK.AllK
import Wide.FinOn
import Lean
import PyProof.EqAt
import PyProof.EqKinds
import PyProof.TupleCall
import KE.KTryMore
import PyProof.ExcArgs
import PyProof.ConsumeWalk
import PyProof.P3Eq
import KE.KRevIter
import PyProof.ListRange
import PyProof.Rows.SumAny
import KE.KSortTup
import PyProof.SetScanFacts
import PyProof.TupleKey
import PyProof.DictRoadsH
import PyProof.SetRoads
import KE.KTabLook
import PyProof.Rows.ListMul
import PyProof.InstStoreFacts
import PyProof.Rows.SetFrom
import PyProof.AutoListH
import PyProof.StrCalls2
import PySem.Challenge.RW_heightrings_k55_bad_tables_in_maps
open List renaming getElem?_eq_getElem → aoW,length_map → aoX,getD_eq_getElem?_getD → ao0,getElem?_eq_some_iff → ao1,mem_cons_of_mem → ao3,mem_of_getElem? → ao4,getElem?_map → ao5,mem_cons → ao7,getElem?_append_left → ao9,mem_cons_self → apa,getElem?_append_right → apd,size_toArray → ape,mem_append_right → apg,length_cons → aph,length_append → api,range → apj,mem_singleton → apo,map_cons → apq,mem_range → apr,mem_append → aps,getElem?_eq_none → apt,getElem_mem → apu,map_append → apv,mem_map → apy,append_nil → apB,lookup_cons → apH,length_take → apK,mem_flatMap → apL,getElem?_of_mem → apN,length_singleton → apO,length_set → apP,mem_append_left → apQ,nodup_cons → apS,take_length → apU,filter_cons → apV,length_range → apW,getElem?_set_ne → apY,getElem?_set_self → ap2,toArray → ap3,mem_reverse → ap4,length_filter_le → ap7,filter_append → ap9,not_mem_nil → aqa,filterMap_cons → aqd,flatMap_append → aqe,mem_filter → aqf,length_nil → aql,getElem_of_mem → aqm,pairwise_iff_getElem → aqs,nodup_append → aqv,pairwise_map → aqx,getElem?_range → aqz,reverse_append → aqA,replicate → aqB,getElem?_replicate → aqC,nodup_nil → aqD,mem_filterMap → aqH,zip_cons_cons → aqK,take_add_one → aqP,append_assoc → aqQ,map_map → aq2,findSome?_cons → aq5,getElem?_take_of_lt → aq7,forIn_cons → arc,getElem?_cons_zero → arf,forIn_nil → ark,ext_getElem? → arn,take_succ → ars,head?_eq_getElem? → art,length_replicate → arx,take_append_drop → arz,getElem_inj → arB,all_eq_true → arD,reverse_reverse → arI,mem_erase_of_ne → arJ,of_mem_zip → arK,find?_cons → arO,range_succ → arQ,length_pos_iff → arR,map_congr_left → arS,map_nil → arT,getLast?_eq_getElem? → ar5,findIdx?_eq_none_iff → ar6,reverse_cons → ar9,getElem?_set → asa,length_erase_of_mem → asm,length_drop → aso,nodup_range → asq,map → asr,map_flatMap → asu,length_pos_of_mem → asC,filter_nil → asE,length_dropLast → asM,getElem?_mapIdx → asN,mem_iff_getElem → asQ,mem_of_getLast? → asU,length_reverse → asY,filter_flatMap → as0,all_cons → as1,map_take → as3,getD → ata
open Bool renaming false_ne_true → aoY,and_eq_true → ao8,false_eq_true → apI,not_true → apJ,not_false → aqE,false_and → aqT,and_false → aqY,true_and → arF,not_eq_true' → asd,eq_iff_iff → asD
open PySem.W renaming Frag → aoZ,nsIn → apl,kitOne → apn,mg_none_of → apz,mg_of → apE,keepIn → apM,findIn → apR,fnOf → aqb,cellsFrom_some → aqn,callWith_K → aqI,specialIn → aqO,codeIn → aqU,hideAll → arb,exmOne → arp,mroIn → arE,methodObj → ar7,isFn → asx,hideAll_none → asI,hideAll_get → asV
open PySem.Heap renaming get?_push_of_some → ao2,lt_size → apc,get?_update_other → apx,get?_push_size → apA,get?_update_self → ap6,SameBut → aqG,get?_none_of_le → aqS,size_push → aqW,get?_push_at → asb,FlyingW → asz
open Nat renaming le_refl → ao6,lt_of_lt_of_le → apk,le_trans → apm,ne_of_lt → apw,zero_le → apC,not_lt_zero → apZ,le_of_lt → ap1,le_of_ble_eq_true → ap8,lt_irrefl → aqh,lt_succ_of_lt → aqj,sub_self → aqo,le_of_eq → aqu,mul_le_mul → aq0,ne_of_gt → aq1,le_of_succ_le → arj,lt_succ_of_le → aro,pow_le_pow_right → arG,lt_succ_iff → arL,succ_pos → arU,le_succ → ar8,add_assoc → asi,lt_succ_iff_lt_or_eq → asn,lt_succ_self → asp,not_lt → asy,zero_add → asA,min_le_left → asF,log2_lt → asO,lt_trans → as8,mul_add → atd,gcd → ate,lcm → atf
open PySem.PyData renaming depthAll → apb,eqv → apD,canLayAll0 → aqw,eqvAll → ash,depth → as9
open Array renaming length_toList → apf,getD_eq_getD_getElem? → aqp,getD → aqJ,forIn_toList → ard,getElem?_setIfInBounds_ne → arw,getElem?_toList → ary,mem_toList_iff → arH,replicate → arN,getElem?_eq_getElem → ar2,size_map → asR
open False renaming elim → apF
open PySem renaming boot_len → apG,mem_of_lookup → aqy
open Ne renaming symm → apT
open Classical renaming propDecidable → apX,byContradiction → aqg
open PySem.PassesOwn renaming never → ap0
open Int renaming gcd → ap5,sign_eq_neg_one_of_neg → aqc,sign_eq_one_of_pos → aqq,emod_lt_of_pos → aqr,natAbs_natCast → aqL,toNat_natCast → aqR,fdiv_eq_ediv_of_nonneg → aqX,toNat_of_nonneg → aq6,toNat → arh,lt_trichotomy → arq,emod_nonneg → arM,gcd_pos_of_ne_zero_right → arP,mul_ediv_cancel_left → asl,eq_ofNat_of_zero_le → asv,zero_add → as7,one_mul → atc
open Option renaming isSome_iff_exists → aqi
open PySem.F renaming slot_tuple_hash → aqk,plainAttrs_list → aqF,excBase_ValueError → aqZ,slot_set_contains → aq3,slot_list_append → aq9,type_list_append → ara,excAttr_ValueError → ar0,slot_dict_getitem → ar3,args_list_append_2 → asL,excAttr_ValueError → asP,slot_set_add → asS,entry_list_append → asW
open PySem.Builtin.Tuple renaming tupleHashOf → aqt
open PyProof.Rows renaming boot_abs → aqM,callWith_type1 → aqN,boot_list → aru,callWith_builtin1 → arC,boot_tuple → asw,boot_all → asH
open PySem.Obj renaming mapSeq → aqV,putSet → asB,mapFields → as4
open PySem.Builtin.Int renaming intBits → aq4,intTooBig → asG
open PySem.SetTable renaming toList_insertAt → aq8,sizeAbove → arZ,fill → as2
open PySem.Calls renaming callWith_builtin → ari,Name_function_global → arV,evalArgs_plain → asK
open PySem.Str renaming ofString → arl
open Decidable renaming not_not → arv
open PySem.SeqAt.ReadsAll renaming length → arA
open PySem.Code renaming quiet_builtin → arW,isFrame → as6
open PySem.SeqAt renaming eqv_refl → arX
open PySem.Builtin.Frozenset renaming oneOther → arY,addrOf → asj
open Rat renaming divInt → ar1
open PySem.Builtin.SmallTypes renaming nextOf → ar4
open PyProof renaming noPylong_of_log2 → ase
open PySem.Txt renaming join → ass
open PySem.Around renaming frames_deeper → asJ,under → as5
open PyProof.Rows.KTD renaming datumAt → asT
open PySem.Heap.SameBut renaming update → asX
open PySem.EntryCells renaming newEntry → asZ
open PySem.Sem renaming wp_mono → atb
set_option Elab.async false
set_option linter.all false
set_option maxRecDepth 100000
set_option maxHeartbeats 4000000
section
namespace L2
open PySem PySem.Spec PyProof.Rows
abbrev Key:=Sum Int Str
def alP:Key->Value->Bool
 | .inl k,v=>Value.isInt k v
 | .inr x,v=>Value.isStrOf x v
def aoH (w:World):Key->Int
 | .inl k=>hashInt k
 | .inr x=>hashStr w x
theorem yf:∀ {k:Key} {v:Value},alP k v=true->(∃ i t,k=Sum.inl i/\v=Value.int i t) \/ (∃ x t,k=Sum.inr x/\v=Value.str x t)
 | .inl i,v,h=>by
  obtain⟨t,e⟩:=Value.isInt_shape (k:=i) (v:=v) h
  exact .inl ⟨i,t,rfl,e⟩
 | .inr x,v,h=>by
  obtain⟨t,e⟩:=Value.isStrOf_shape (x:=x) (v:=v) h
  exact .inr ⟨x,t,rfl,e⟩
theorem amk (a b:Int):decide ((Sum.inl a:Key)=Sum.inl b)=(a == b):=by
 by_cases e:a=b
 ·subst e;simp
 ·have h:¬ (Sum.inl a:Key)=Sum.inl b:=fun q=>e (Sum.inl.inj q)
  rw [decide_eq_false h]
  exact (beq_eq_false_iff_ne.mpr e).symm
theorem aml (a b:Str):decide ((Sum.inr a:Key)=Sum.inr b)=decide (a=b):=by
 by_cases e:a=b
 ·subst e;simp
 ·have h:¬ (Sum.inr a:Key)=Sum.inr b:=fun q=>e (Sum.inr.inj q)
  rw [decide_eq_false h,decide_eq_false e]
theorem amm (a:Int) (b:Str):decide ((Sum.inl a:Key)=Sum.inr b)=false:=decide_eq_false (fun q=>nomatch q)
theorem amn (a:Str) (b:Int):decide ((Sum.inr a:Key)=Sum.inl b)=false:=decide_eq_false (fun q=>nomatch q)
def acN (prog:Program) (w:World):PySem.KeyKind prog w Key where
 is:=alP
 hash:=aoH w
 inj:=fun v a b ha hb=>by
  rcases yf ha with⟨i,t,rfl,rfl⟩ | ⟨x,t,rfl,rfl⟩
  ·rcases yf hb with⟨j,u,rfl,e⟩ | ⟨y,u,rfl,e⟩
   ·injection e with e1 _;rw [e1]
   ·exact nomatch e
  ·rcases yf hb with⟨j,u,rfl,e⟩ | ⟨y,u,rfl,e⟩
   ·exact nomatch e
   ·injection e with e1 _;rw [e1]
 byValue:=fun k v h=>by
  rcases yf h with⟨i,t,rfl,rfl⟩ | ⟨x,t,rfl,rfl⟩ <;> rfl
 pyHash:=fun hv h=>by
  rcases yf hv with⟨i,t,rfl,rfl⟩ | ⟨x,t,rfl,rfl⟩
  ·exact wpAny_pyHash_int h
  ·exact wpAny_pyHash_str h
 eqBool:=fun hu hv h=>by
  rcases yf hu with⟨i,t,rfl,rfl⟩ | ⟨x,t,rfl,rfl⟩
  ·rcases yf hv with⟨j,u,rfl,rfl⟩ | ⟨y,u,rfl,rfl⟩
   ·rw [amk] at h;exact wpAny_eqBool_int h
   ·rw [amm] at h;exact SeqAt.EqAt.int_str i t y u _ _ _ _ h
  ·rcases yf hv with⟨j,u,rfl,rfl⟩ | ⟨y,u,rfl,rfl⟩
   ·rw [amn] at h;exact SeqAt.EqAt.str_int x t j u _ _ _ _ h
   ·rw [aml] at h;exact wpAny_eqBool_str h
 «strs»:=fun k x t v h=>by
  rcases yf h with⟨i,u,rfl,e⟩ | ⟨y,u,rfl,e⟩
  ·exact nomatch e
  ·injection e with e1 _
   subst e1
   cases v <;> rfl
inductive V where
 | non | bl (b:Bool) | int (i:Int) | str (x:Str) | byt (b:Array UInt8) | flt (b:UInt64) | ref (a:Addr) | ty (n:String)
 deriving DecidableEq
def RelV:V->Value->Prop
 | .non,u=>u=Value.none
 | .bl b,u=>u=Value.bool b
 | .int i,u=>∃ t,u=Value.int i t
 | .str x,u=>∃ t,u=Value.str x t
 | .byt b,u=>∃ t,u=Value.bytes b t
 | .flt b,u=>∃ t,u=Value.float b t
 | .ref a,u=>u=Value.ref a
 | .ty n,u=>u=Value.type n
abbrev Vals:List V->List Value->Prop:=Paired RelV
theorem Vals.length {xs:List V} {us:List Value} (r:Vals xs us):xs.length=us.length:=Paired.length r
theorem Vals.get:∀ {xs:List V} {us:List Value} {i:Nat} {x:V},Vals xs us->xs[i]?=some x->∃ u,us[i]?=some u/\RelV x u
 | _,_,_,_,.nil,e=>by simp at e
 | _,_,0,_,.cons r _,e=>by simp at e;subst e;exact⟨_,rfl,r⟩
 | _,_,i+1,x,.cons _ t,e=>by
  obtain⟨u,h1,h2⟩:=Vals.get (i:=i) (x:=x) t (by simpa using e)
  exact⟨u,by simpa using h1,h2⟩
theorem Vals.set {x:V} {u:Value} (r:RelV x u):∀ {xs:List V} {us:List Value} (i:Nat),Vals xs us->Vals (xs.set i x) (us.set i u)
 | _,_,_,.nil=>.nil
 | _,_,0,.cons _ t=>.cons r t
 | _,_,i+1,.cons q t=>.cons q (Vals.set r i t)
theorem Vals.append:∀ {xs ys:List V} {us ws:List Value},Vals xs us->Vals ys ws->Vals (xs++ys) (us++ws)
 | _,_,_,_,.nil,s=>s
 | _,_,_,_,.cons r t,s=>.cons r (Vals.append t s)
theorem Vals.take:∀ {xs:List V} {us:List Value} (n:Nat),Vals xs us->Vals (xs.take n) (us.take n)
 | _,_,0,_=>.nil
 | _,_,_+1,.nil=>.nil
 | _,_,n+1,.cons r t=>.cons r (Vals.take n t)
theorem Vals.drop:∀ {xs:List V} {us:List Value} (n:Nat),Vals xs us->Vals (xs.drop n) (us.drop n)
 | _,_,0,r=>r
 | _,_,_+1,.nil=>.nil
 | _,_,n+1,.cons _ t=>Vals.drop n t
def anV:Option V->Option Value->Prop
 | some v,some u=>RelV v u
 | none,none=>True
 | _,_=>False
def KV {κ:Type}:List (κ×V)->List (κ×Value)->Prop:=Paired fun (p:κ×V) (q:κ×Value)=>p.1=q.1/\RelV p.2 q.2
def kV:Key->V
 | .inl i=>.int i
 | .inr x=>.str x
inductive HO where
  | lst (xs:List V)
  | tup (xs:List V)
  | dK (kvs:List (Key×V)) | dT (kvs:List (List Key×V))
  | set (S:Int->Bool) (n:Nat)
  | ins (C dx:Addr) (fs:List (Str×V))
  | own (x:Addr)
  | xd (fs:List (Str×V))
  | met (f x:Addr)
  | rng (lo hi:Int)
  | frz (o:Obj) (u:HO)
  | tbl (ps:Array Value)
  | ext (φ:Heap->Prop)
abbrev Hp:=Addr->Option HO
def upd (H:Hp) (a:Addr) (o:HO):Hp:=fun b=>if b=a then some o else H b
theorem zq {H:Hp} {a:Addr} {o:HO}:upd H a o a=some o:=by unfold upd;rw [if_pos rfl]
theorem zr {H:Hp} {a b:Addr} {o:HO} (h:b≠a):upd H a o b=H b:=by unfold upd;rw [if_neg h]
theorem zJ {H:Hp} {a b:Addr} {o:HO} (h:H a=some o) (h':H b=none):a≠b:=by
 intro e;subst e;rw [h] at h';cases h'
section
variable (P:Program) (w:World)
def ObjOk (H:Hp) (h:Heap) (a:Addr):HO->Prop
 | .lst xs=>xs.length<=sizeLine/\∃ (its:List Value) (n:Nat),Vals xs its/\h.get? a=some { cls:=.type "list",data:=.seq its.toArray n }
 | .tup xs=>xs.length<=sizeLine/\∃ its:List Value,Vals xs its/\IsTup h a its.toArray
 | .dK kvs=>kvs.length<=sizeLine/\(a == sysModules)=false/\∃ vs,KV kvs vs/\h.DictOf (acN P w) a vs
 | .dT kvs=>kvs.length<=sizeLine/\(a == sysModules)=false/\∃ xs:List (List Key×Addr×Value),
   Paired (fun (p:List Key×V) (q:List Key×Addr×Value)=>p.1=q.1/\H q.2.1=some (.tup (p.1.map kV))/\RelV p.2 q.2.2) kvs xs /\
   ∃ o es ep,h.get? a=some o/\o.ExactDict/\o.data=.dict es ep/\es.toList=xs.map (entryOfKey (tupleKind (acN P w)))/\(xs.map (·.1)).Nodup
 | .set S n=>h.SetOf (intKind P w) a S n
 | .ins C dx fs=>H dx=some (.own a)/\fs.length<=1000/\dx≠a/\h.get? a=some (PySem.W.instObj C dx) /\
   ∃ mA,h.Ns1 dx mA/\(∀ f,anV (fs.lookup f) (mA f))/\PySem.Within mA (fs.map (·.1))
 | .own _=>∃ o,h.get? a=some o
 | .xd fs=>∃ mA,h.Ns1 a mA/\∀ f,anV (fs.lookup f) (mA f)
 | .rng lo hi=>∃ t u v,h.get? a=some { cls:=.type "range",data:=.fields #[.int lo t,.int hi u,.int 1 v] }
 | .frz o u=>h.get? a=some o/\ObjOk H h a u
 | .tbl ps=>h.get? a=some { cls:=.none,data:=.fields ps }
 | .met f x=>h.get? a=some (ar7 (.ref f) (.ref x))
 | .ext φ=>φ h/\(∃ o,h.get? a=some o)/\∀ h1 h2:Heap,φ h1->(∀ o,h1.get? a=some o->h2.get? a=some o)->φ h2
def HOk (H:Hp) (h:Heap):Prop:=∀ a o,H a=some o->ObjOk P w H h a o
end
section
variable {P:Program} {w:World} {H H':Hp} {h h':Heap} {a:Addr} {o:HO}
theorem ObjOk.lt (x:ObjOk P w H h a o):a<h.objs.size:=by
 cases o with
 | lst xs=>obtain⟨_,_,_,_,e⟩:=x;exact apc e
 | tup xs=>obtain⟨_,_,_,p⟩:=x;exact p.lt
 | dK kvs=>obtain⟨_,_,_,_,o,_,_,e,_⟩:=x;exact apc e
 | dT kvs=>obtain⟨_,_,_,_,o,_,_,e,_⟩:=x;exact apc e
 | set S n=>obtain⟨o,_,_,_,e,_⟩:=x;exact apc e
 | ins C dx fs=>obtain⟨_,_,_,e,_⟩:=x;exact apc e
 | own y=>obtain⟨_,e⟩:=x;exact apc e
 | xd fs=>obtain⟨_,⟨_,_,_,e,_⟩,_⟩:=x;exact apc e
 | rng lo hi=>obtain⟨_,_,_,e⟩:=x;exact apc e
 | frz ob u=>obtain⟨e,_⟩:=x;exact apc e
 | tbl ps=>exact apc (show h.get? a=some _ from x)
 | met f y=>exact apc (show h.get? a=some _ from x)
 | ext φ=>obtain⟨_,⟨_,e⟩,_⟩:=x;exact apc e
theorem Paired.mapP {α β:Type} {F G:α->β->Prop}:∀ {l₁:List α} {l₂:List β},Paired F l₁ l₂->(∀ a b,F a b->G a b)->Paired G l₁ l₂
 | _,_,.nil,_=>.nil
 | _,_,.cons r t,f=>.cons (f _ _ r) (Paired.mapP t f)
theorem ObjOk.stay (x:ObjOk P w H h a o) (k:∀ b u,(b=a \/ H b=some (.own a))->h.get? b=some u->h'.get? b=some u)
  (ho:∀ b,H b=some (.own a)->H' b=some (.own a)) (ht:∀ b xs,H b=some (.tup xs)->H' b=some (.tup xs)):ObjOk P w H' h' a o:=by
 induction o with
 | lst xs=>obtain⟨z,its,n,r,e⟩:=x;exact⟨z,its,n,r,k _ _ (.inl rfl) e⟩
 | tup xs=>obtain⟨z,its,r,ob,e,c⟩:=x;exact⟨z,its,r,ob,k _ _ (.inl rfl) e,c⟩
 | dK kvs=>obtain⟨z,y,vs,r,ob,es,ep,e,c⟩:=x;exact⟨z,y,vs,r,ob,es,ep,k _ _ (.inl rfl) e,c⟩
 | dT kvs =>
  obtain⟨z,y,xs,r,ob,es,ep,e,c⟩:=x
  exact⟨z,y,xs,Paired.mapP r fun p q z=>⟨z.1,ht _ _ z.2.1,z.2.2⟩,ob,es,ep,k _ _ (.inl rfl) e,c⟩
 | set S n=>obtain⟨ob,es,ep,t,e,c⟩:=x;exact⟨ob,es,ep,t,k _ _ (.inl rfl) e,c⟩
 | ins C dx fs =>
  obtain⟨d,z,ne,e,mA,⟨od,es,ep,e2,c⟩,r⟩:=x
  exact⟨ho _ d,z,ne,k _ _ (.inl rfl) e,mA,⟨od,es,ep,k _ _ (.inr d) e2,c⟩,r⟩
 | own y=>obtain⟨ob,e⟩:=x;exact⟨ob,k _ _ (.inl rfl) e⟩
 | xd fs=>obtain⟨mA,⟨od,es,ep,e,c⟩,r⟩:=x;exact⟨mA,⟨od,es,ep,k _ _ (.inl rfl) e,c⟩,r⟩
 | rng lo hi=>obtain⟨t,u,v,e⟩:=x;exact⟨t,u,v,k _ _ (.inl rfl) e⟩
 | frz ob u ih=>obtain⟨e,q⟩:=x;exact⟨k _ _ (.inl rfl) e,ih q⟩
 | tbl ps =>
  have e:h.get? a=some { cls:=.none,data:=.fields ps }:=x
  show h'.get? a=some { cls:=.none,data:=.fields ps }
  exact k a _ (.inl rfl) e
 | met f y =>
  have e:h.get? a=some (ar7 (.ref f) (.ref y)):=x
  show h'.get? a=some (ar7 (.ref f) (.ref y))
  exact k a _ (.inl rfl) e
 | ext φ=>obtain⟨p,⟨o,e⟩,st⟩:=x;exact⟨st _ _ p fun o q=>k _ _ (.inl rfl) q,⟨o,k _ _ (.inl rfl) e⟩,st⟩
theorem HOk.lt (x:HOk P w H h) (e:H a=some o):a<h.objs.size:=(x a o e).lt
theorem HOk.fresh (x:HOk P w H h) (e:h.objs.size<=a):H a=none:=by
 cases q:H a with
 | none=>rfl
 | some u=>exact absurd (apk (x.lt q) e) (aqh _)
theorem HOk.kept (x:HOk P w H h) (k:∀ b u,h.get? b=some u->h'.get? b=some u):HOk P w H h':=fun a o e =>
 (x a o e).stay (fun b u _ q=>k b u q) (fun _ q=>q) fun _ _ q=>q
theorem HOk.laid (x:HOk P w H h) (k:∀ b u,h.get? b=some u->h'.get? b=some u) (hp:h.objs.size<=a) (new:ObjOk P w (upd H a o) h' a o):HOk P w (upd H a o) h':=fun b u e=>by
 have hn:=x.fresh hp
 by_cases hb:b=a
 ·subst hb;rw [zq] at e;cases e;exact new
 ·rw [zr hb] at e
  exact (x b u e).stay (fun c v _ q=>k c v q) (fun c q=>by rw [zr (zJ q hn)];exact q) fun c xs q=>by rw [zr (zJ q hn)];exact q
end
def Rd (H:Hp) (a:Addr) (u:HO):Prop:=H a=some u \/ ∃ o,H a=some (.frz o u)
theorem Rd.ok {P:Program} {w:World} {H:Hp} {h:Heap} {a:Addr} {u:HO} (r:Rd H a u) (x:HOk P w H h):ObjOk P w H h a u:=by
 rcases r with r | ⟨o,r⟩
 ·exact x a u r
 ·obtain⟨_,q⟩:=x a _ r
  exact q
def Mut:Option HO->Prop
 | some (.lst _)=>True
 | some (.dK _)=>True
 | some (.dT _)=>True
 | some (.set _ _)=>True
 | some (.ins _ _ _)=>True
 | some (.ext _)=>True
 | _=>False
section
variable {P:Program} {w:World} {H:Hp} {h h':Heap} {x e:Addr} {o':HO}
theorem HOk.write (ok:HOk P w H h) (mu:Mut (H x)) (he:e=x \/ H e=some (.own x)) (k:∀ b u,b≠e->h.get? b=some u->h'.get? b=some u) (heo:∃ u,h'.get? e=some u)
  (new:ObjOk P w (upd H x o') h' x o'):HOk P w (upd H x o') h':=fun b u q=>by
 have nown:∀ c y,H c=some (.own y)->c≠x:=fun c y r z=>by subst z;rw [r] at mu;exact mu
 have ntup:∀ c xs,H c=some (.tup xs)->c≠x:=fun c xs r z=>by subst z;rw [r] at mu;exact mu
 by_cases hb:b=x
 ·subst hb;rw [zq] at q;cases q;exact new
 ·rw [zr hb] at q
  by_cases hbe:b=e
  ·have q':H b=some (.own x):=by
    rcases he with z | z
    ·exact absurd (hbe.trans z) hb
    ·rw [hbe];exact z
   rw [q] at q';cases q'
   obtain⟨v,hv⟩:=heo
   exact⟨v,by rw [hbe];exact hv⟩
  ·refine (ok b u q).stay (fun c v hc r=>k c v ?_ r) (fun c r=>by rw [zr (nown c b r)];exact r) fun c xs r=>by rw [zr (ntup c xs r)];exact r
   rcases hc with rfl | hc
   ·exact hbe
   ·rintro rfl
    rcases he with z | z
    ·exact nown c b hc z
    ·rw [hc] at z;cases z;exact hb rfl
end
structure Un (fs ex:List Addr) (H H':Hp) (h h':Heap):Prop where
 keep:∀ b o,h.get? b=some o->H b=none->b∉fs->b∉ex->h'.get? b=some o
 slot:∀ b o,h.get? b=some o->H b=none->b∈fs->b∉ex->∃ sl,h'.get? b=some { o with slots:=sl }
 free:∀ b o,h.get? b=some o->H b=none->b∉ex->H' b=none
 there:∀ b o,h.get? b=some o->b∉ex->∃ o',h'.get? b=some o'
 tups:∀ b xs,H b=some (.tup xs)->H' b=some (.tup xs)
 frzs:∀ b o u,H b=some (.frz o u)->H' b=some (.frz o u)
 tbls:∀ b ps,H b=some (.tbl ps)->∃ more,H' b=some (.tbl (ps++more))
section
variable {fs fs' ex ex':List Addr} {H H1 H2:Hp} {h h1 h2 h':Heap} {a x e:Addr} {o:HO}
theorem Un.any (u:Un fs ex H H1 h h1) {b:Addr} {ob:Obj} (q:h.get? b=some ob) (n:H b=none) (hx:b∉ex):∃ sl,h1.get? b=some { ob with slots:=sl }:=by
 by_cases hb:b∈fs
 ·exact u.slot b ob q n hb hx
 ·exact⟨ob.slots,u.keep b ob q n hb hx⟩
theorem Un.kept (k:∀ b u,h.get? b=some u->h'.get? b=some u):Un fs ex H H h h' :=
 ⟨fun b ob q _ _ _=>k b ob q,fun b ob q _ _ _=>⟨ob.slots,k b ob q⟩,fun _ _ _ n _=>n,fun b ob q _=>⟨ob,k b ob q⟩,fun _ _ q=>q,fun _ _ _ q=>q,fun _ ps q=>⟨#[],by rw [q];simp⟩⟩
theorem Un.refl:Un fs ex H H h h:=Un.kept fun _ _ q=>q
theorem Un.laid (k:∀ b u,h.get? b=some u->h'.get? b=some u) (hp:h.objs.size<=a) (hn:H a=none):Un fs ex H (upd H a o) h h' where
 keep:=fun b u q _ _ _=>k b u q
 slot:=fun b u q _ _ _=>⟨u.slots,k b u q⟩
 free:=fun b u q n _=>by rw [zr (apw (apk (apc q) hp))];exact n
 there:=fun b u q _=>⟨u,k b u q⟩
 tups:=fun b xs q=>by rw [zr (zJ q hn)];exact q
 frzs:=fun b u xs q=>by rw [zr (zJ q hn)];exact q
 tbls:=fun b ps q=>⟨#[],by rw [zr (zJ q hn),q];simp⟩
theorem Un.write (mu:Mut (H x)) (he:e=x \/ H e=some (.own x)) (k:∀ b u,b≠e->h.get? b=some u->h'.get? b=some u) (heo:∃ u,h'.get? e=some u):Un fs ex H (upd H x o) h h':=by
 have hx:∀ b,H b=none->b≠x:=fun b n z=>by subst z;rw [n] at mu;exact mu
 have hb:∀ b,H b=none->b≠e:=fun b n z=>by
  subst z
  rcases he with r | r
  ·exact hx b n r
  ·rw [n] at r;cases r
 have hm:∀ b u,H b=some u->¬ Mut (some u)->b≠x:=fun b u q nm z=>by subst z;rw [q] at mu;exact nm mu
 refine⟨fun b u q n _ _=>k b u (hb b n) q,fun b u q n _ _=>⟨u.slots,k b u (hb b n) q⟩,fun b u q n _=>by rw [zr (hx b n)];exact n,fun b u q _=>?_,
  fun b xs q=>by rw [zr (hm b _ q fun z=>z)];exact q,fun b u xs q=>by rw [zr (hm b _ q fun z=>z)];exact q,fun b ps q=>⟨#[],by rw [zr (hm b _ q fun z=>z),q];simp⟩⟩
 by_cases hbe:b=e
 ·subst hbe;exact heo
 ·exact⟨u,k b u hbe q⟩
end
def trk (h:Heap) (H:Hp):List Addr:=(apj h.objs.size).filter fun a=>(H a).isSome
def acO (h:Heap) (H:Hp):Heap:=arb h (trk h H)
theorem ag8 (h:Heap) (H:Hp):(acO h H).objs.size=h.objs.size:=PySem.W.hideAll_size _ _
theorem aic {h:Heap} {H:Hp} {b:Addr} {o:Obj} (e:h.get? b=some o) (n:H b=none):(acO h H).get? b=some o :=
 asV _ e fun hm=>by
  have q:(H b).isSome=true:=(aqf.mp hm).2
  rw [n] at q;simp at q
theorem akn {h:Heap} {H:Hp} {b:Addr} {o:Obj} (e:(acO h H).get? b=some o):h.get? b=some o/\H b=none:=by
 have e':h.get? b=some o:=PySem.W.of_hideAll (trk h H) e
 refine⟨e',?_⟩
 cases q:H b with
 | none=>rfl
 | some x =>
  have hm:b∈trk h H:=aqf.mpr ⟨apr.mpr (apc e'),by simp [q]⟩
  have z:(acO h H).get? b=none:=asI (trk h H) hm
  rw [z] at e;cases e
def ako (g h:Heap) (L:Addr):List (Addr×Obj):=(apj h.objs.size).filterMap fun a=>if a=L \/ (g.get? a).isSome=true then none else (h.get? a).map fun o=>(a,o)
def rest (g h:Heap) (L d:Addr):List (Addr×Obj):=(ako g h L).filter fun p=>decide (p.1≠d)
structure Mod (K:aoZ) (mg:Str->Option Value) (base:Heap):Prop where
 kin:K.In base
 glob:base.Ns mainGlobals mg
 blt:∃ mb,base.Ns builtinsNs mb/\∀ x:Str,x ≠ "__name__"->mb x=bootBuiltins x
 nolimit:base.NoLimit
structure Cx where
 prog:Program
 w:World
 K:aoZ
 mg:Str->Option Value
 base:Heap
 A:Around
 N:List Str
 s₀:Shared
 H₀:Hp
 env:Env
 outer:List Env
 stack:List Env
 ex:List Addr
 fn:Str->Bool
 calm:Bool
 pn:List (Addr×Obj)
 xe:Value->Shared->Prop
def frs (l:List Env):List Addr:=l.filterMap (·.frame)
abbrev Cx.fs (X:Cx):List Addr:=frs X.outer
def Vis (sc:Scope) (x:Str):Prop:=sc.names.lookup x=some .local \/ sc.names.lookup x=some .cell \/ sc.names.lookup x=some .free
def Loc (sc:Scope) (x:Str):Prop:=sc.names.lookup x=some .local \/ sc.names.lookup x=some .cell
def Look (env:Env) (h:Heap) (m:Str->Option Value) (x:Str) (u:Value):Prop :=
 (env.kindOf x=some .local/\m x=some u) \/ ((env.kindOf x=some .cell \/ env.kindOf x=some .free)/\∃ c,env.cells.lookup x=some c/\h.IsCell c (some u))
structure Cx.Ok (X:Cx):Prop where
 mod:Mod X.K X.mg X.base
 kind:X.env.scope.kind=.function
 glob:X.env.globals=mainGlobals
 blt:X.env.builtins=builtinsNs
 above:X.s₀.heap.objs.size<=X.env.locals
 inj:∀ x y c,X.env.cells.lookup x=some c->X.env.cells.lookup y=some c->x=y
 has:∀ x,(X.env.kindOf x=some .cell \/ X.env.kindOf x=some .free)->∃ c,X.env.cells.lookup x=some c
 cab:∀ x c,X.fn x=true->X.env.cells.lookup x=some c->X.s₀.heap.objs.size<=c
 hd:X.calm=true->X.A.handled=none
 frames:X.A.frames=some X.stack
 stk:X.stack=X.outer \/ (X.stack=X.env :: X.outer/\X.env.frame=some X.env.locals)
 exf:∀ b∈X.ex,b≠X.env.locals/\∀ x c,X.env.cells.lookup x=some c->c≠b
 bs:∀ b o,X.base.get? b=some o->X.s₀.heap.get? b=some o/\X.H₀ b=none
 bsz:X.base.objs.size<=X.s₀.heap.objs.size
 noex:∀ b o,X.base.get? b=some o->b∉X.ex
 exfs:∀ b∈X.ex,b∉X.fs
 funs:X.s₀.heap.FunFrames X.base X.outer
 frf:∀ b∈X.fs,X.H₀ b=none
structure Inv (X:Cx) (pins:List (Addr×Obj)) (σ:List (Option V)) (H:Hp) (s:Shared):Prop where
 ok:X.Ok
 os:s.os=X.s₀.os
 bare:AllBare s.gens
 base:Un X.fs X.ex X.H₀ H X.s₀.heap s.heap
 loc:∃ m,s.heap.Ns X.env.locals m/\∀ (i:Nat) (x:Str) (v:V),X.N[i]?=some x->σ[i]?=some (some v)->Vis X.env.scope x->∃ u,RelV v u/\Look X.env s.heap m x u
 cell:∀ x c,X.env.cells.lookup x=some c->∃ v,s.heap.IsCell c v
 free:H X.env.locals=none
 freeC:∀ x c,X.env.cells.lookup x=some c->H c=none
 pin:∀ p∈X.pn++pins,s.heap.get? p.1=some p.2/\H p.1=none/\p.1≠X.env.locals/\p.1∉X.fs/\∀ v,p.2.data≠.cell v
 hok:HOk X.prog X.w H s.heap
 len:σ.length=X.N.length
section
variable {X:Cx} {pins:List (Addr×Obj)} {σ:List (Option V)} {H H':Hp} {s:Shared} {h':Heap}
theorem Cx.Ok.nofr (ok:X.Ok) {b:Addr} {o:Obj} (e:X.base.get? b=some o):b∉X.fs:=fun hb=>by
 have:=(ok.funs.mem hb).1
 rw [e] at this;cases this
theorem Inv.bs (I:Inv X pins σ H s):∀ b o,X.base.get? b=some o->s.heap.get? b=some o/\H b=none:=fun b o e =>
 ⟨I.base.keep b o (I.ok.bs b o e).1 (I.ok.bs b o e).2 (I.ok.nofr e) (I.ok.noex b o e),I.base.free b o (I.ok.bs b o e).1 (I.ok.bs b o e).2 (I.ok.noex b o e)⟩
theorem Inv.bk (I:Inv X pins σ H s):∀ b o,X.base.get? b=some o->s.heap.get? b=some o:=fun b o e=>(I.bs b o e).1
theorem Inv.mod (I:Inv X pins σ H s):Mod X.K X.mg X.base:=I.ok.mod
theorem Inv.kIn (I:Inv X pins σ H s):X.K.In s.heap:=I.ok.mod.kin.keeps I.bk
theorem Inv.fr (I:Inv X pins σ H s):∃ m,Fr X.base X.env.locals s.heap m :=
 let⟨m,hn,_⟩:=I.loc
 ⟨m,hn,I.bk,apm I.ok.bsz I.ok.above⟩
theorem Inv.lt (I:Inv X pins σ H s):X.env.locals<s.heap.objs.size:=let⟨_,hn,_⟩:=I.loc;hn.lt
theorem Inv.sz (I:Inv X pins σ H s):X.s₀.heap.objs.size<=s.heap.objs.size:=apm I.ok.above (ap1 I.lt)
theorem Inv.nofs (I:Inv X pins σ H s) {a:Addr} (h:s.heap.objs.size<=a):a∉X.fs:=fun hb=>by
 obtain⟨_,o,ho,_⟩:=I.ok.funs.mem hb
 exact absurd (apk (apc ho) (apm I.sz h)) (aqh _)
theorem Inv.cne (I:Inv X pins σ H s):∀ x c,X.env.cells.lookup x=some c->c≠X.env.locals:=fun x c e z=>by
 obtain⟨v,o,ho,hd⟩:=I.cell x c e
 obtain⟨m,⟨o',es,ep,ho',hd',_⟩,_⟩:=I.loc
 rw [z,ho'] at ho;cases ho;rw [hd'] at hd;cases hd
theorem Inv.funs (I:Inv X pins σ H s):s.heap.FunFrames X.base X.outer:=by
 have all:∀ (l:List Env),(∀ b∈frs l,b∈X.fs)->X.s₀.heap.FunFrames X.base l->s.heap.FunFrames X.base l:=by
  intro l
  induction l with
  | nil=>intro _ _;trivial
  | cons env r ih =>
   intro hs hl
   obtain⟨hk,⟨L,o,hf,hn,ho,hd⟩,hr⟩:=hl
   have hL:L∈X.fs:=hs L (by unfold frs;rw [aqd,hf];exact apa)
   obtain⟨sl,e⟩:=I.base.slot L o ho (I.ok.frf L hL) hL fun z=>I.ok.exfs L z hL
   exact⟨hk,⟨L,_,hf,hn,e,hd⟩,ih (fun b hb=>hs b (by unfold frs;rw [aqd,hf];exact ao3 _ hb)) hr⟩
 exact all X.outer (fun _ hb=>hb) I.ok.funs
theorem Inv.stack (I:Inv X pins σ H s):s.heap.FunFrames X.base X.stack:=by
 rcases I.ok.stk with e | ⟨e,hf⟩
 ·rw [e];exact I.funs
 ·rw [e]
  obtain⟨m,hn,_⟩:=I.loc
  refine .cons (by rw [I.ok.kind];decide) hf hn ?_ I.funs
  exact aqS (apm I.ok.bsz I.ok.above)
theorem Inv.stkSub (I:Inv X pins σ H s):∀ b∈frs X.stack,b∈X.env.locals :: X.fs:=fun b hb=>by
 rcases I.ok.stk with e | ⟨e,hf⟩
 ·rw [e] at hb;exact ao3 _ hb
 ·rw [e] at hb
  unfold frs at hb
  rw [aqd,hf] at hb
  exact hb
theorem Inv.stkFree (I:Inv X pins σ H s):∀ b∈frs X.stack,H b=none:=fun b hb=>by
 rcases ao7.mp (I.stkSub b hb) with e | hb
 ·rw [e];exact I.free
 ·obtain⟨_,o,ho,_⟩:=I.ok.funs.mem hb
  exact I.base.free b o ho (I.ok.frf b hb) fun z=>I.ok.exfs b z hb
theorem Inv.step {g':Array GenState} {t':Nat} {d':Drawn} {ch:List Addr} (I:Inv X pins σ H s)
  (hch:∀ b∈ch,(b∈X.ex \/ X.s₀.heap.objs.size<=b)/\b≠X.env.locals/\(∀ x c,X.env.cells.lookup x=some c->c≠b)/\∀ p∈X.pn++pins,p.1≠b)
  (keep:∀ b o,b≠X.env.locals->b∉X.fs->b∉ch->s.heap.get? b=some o->H b=none->h'.get? b=some o)
  (slot:∀ b o,b≠X.env.locals->b∈X.fs->b∉ch->s.heap.get? b=some o->H b=none->∃ sl,h'.get? b=some { o with slots:=sl }) (free:∀ b o,b∉ch->s.heap.get? b=some o->H b=none->H' b=none)
  (there:∀ b o,b∉ch->s.heap.get? b=some o->∃ o',h'.get? b=some o')
  (tups:∀ b xs,H b=some (.tup xs)->H' b=some (.tup xs)) (frzs:∀ b o u,H b=some (.frz o u)->H' b=some (.frz o u)) (tbls:∀ b ps,H b=some (.tbl ps)->∃ more,H' b=some (.tbl (ps++more)))
  (ns:∀ m,s.heap.Ns X.env.locals m->h'.Ns X.env.locals m) (hok:HOk X.prog X.w H' h') (hg:AllBare g') :
  Inv X pins σ H' { s with heap:=h',gens:=g',drawn:=d',toks:=t' }:=by
 have neL:∀ b o,X.s₀.heap.get? b=some o->b≠X.env.locals:=fun b o e=>apw (apk (apc e) I.ok.above)
 have neC:∀ b o,X.s₀.heap.get? b=some o->b∉X.ex->b∉ch:=fun b o e hx hb=>by
  rcases (hch b hb).1 with z | z
  ·exact hx z
  ·exact absurd (apk (apc e) z) (aqh _)
 have cellK:∀ x c,X.env.cells.lookup x=some c->∀ v,s.heap.IsCell c v->h'.IsCell c v:=fun x c e v ⟨o,ho,hd⟩=>by
  have nch:c∉ch:=fun z=>(hch c z).2.2.1 x c e rfl
  by_cases hc:c∈X.fs
  ·obtain⟨sl,q⟩:=slot c o (I.cne x c e) hc nch ho (I.freeC x c e)
   exact⟨_,q,hd⟩
  ·exact⟨o,keep c o (I.cne x c e) hc nch ho (I.freeC x c e),hd⟩
 refine⟨I.ok,I.os,hg,⟨fun b o e n hb hx=>?_,fun b o e n hb hx=>?_,fun b o e n hx=>?_,fun b o e hx=>?_,fun b xs e=>tups b xs (I.base.tups b xs e),fun b o xs e=>frzs b o xs (I.base.frzs b o xs e),fun b ps e=>?_⟩,?_,fun x c e=>?_,?_,fun x c e=>?_,fun p hp=>?_,hok,I.len⟩
 ·exact keep b o (neL b o e) hb (neC b o e hx) (I.base.keep b o e n hb hx) (I.base.free b o e n hx)
 ·obtain⟨sl,e1⟩:=I.base.slot b o e n hb hx
  obtain⟨sl',e2⟩:=slot b _ (neL b o e) hb (neC b o e hx) e1 (I.base.free b o e n hx)
  exact⟨sl',e2⟩
 ·obtain⟨o',e1⟩:=I.base.there b o e hx
  exact free b o' (neC b o e hx) e1 (I.base.free b o e n hx)
 ·obtain⟨o',e1⟩:=I.base.there b o e hx
  exact there b o' (neC b o e hx) e1
 ·obtain⟨m1,e1⟩:=I.base.tbls b ps e
  obtain⟨m2,e2⟩:=tbls b _ e1
  exact⟨m1++m2,by rw [e2,Array.append_assoc]⟩
 ·obtain⟨m,hn,hl⟩:=I.loc
  refine⟨m,ns m hn,fun i x v e1 e2 e3=>?_⟩
  obtain⟨u,r,l⟩:=hl i x v e1 e2 e3
  refine⟨u,r,?_⟩
  rcases l with l | ⟨k,c,e,z⟩
  ·exact .inl l
  ·exact .inr ⟨k,c,e,cellK x c e _ z⟩
 ·obtain⟨v,z⟩:=I.cell x c e
  exact⟨v,cellK x c e v z⟩
 ·obtain⟨m,⟨o,_,_,ho,_⟩,_⟩:=I.loc
  exact free _ o (fun z=>(hch _ z).2.1 rfl) ho I.free
 ·obtain⟨v,o,ho,hd⟩:=I.cell x c e
  exact free c o (fun z=>(hch c z).2.2.1 x c e rfl) ho (I.freeC x c e)
 ·obtain⟨e,n,ne,nf,d⟩:=I.pin p hp
  have nch:p.1∉ch:=fun z=>(hch p.1 z).2.2.2 p hp rfl
  exact⟨keep p.1 p.2 ne nf nch e n,free p.1 p.2 nch e n,ne,nf,d⟩
theorem Inv.un {t':Nat} (I:Inv X pins σ H s) (u:Un X.fs [] H H' s.heap h') (hok:HOk X.prog X.w H' h'):Inv X pins σ H' { s with heap:=h',toks:=t' }:=by
 obtain⟨m,⟨o,es,ep,ho,r⟩,_⟩:=id I.loc
 obtain⟨sl,hL⟩:=u.any ho I.free (by simp)
 exact I.step (g':=s.gens) (d':=s.drawn) (ch:=[]) (fun _ z=>nomatch z) (fun b o _ hb _ e n=>u.keep b o e n hb (by simp)) (fun b o _ hb _ e n=>u.slot b o e n hb (by simp)) (fun b o _ e n=>u.free b o e n (by simp)) (fun b o _ e=>u.there b o e (by simp)) u.tups u.frzs u.tbls (fun m' hm=>by
  obtain⟨o',es',ep',ho',r'⟩:=hm
  rw [ho] at ho';cases ho'
  exact⟨_,es',ep',hL,r'⟩) hok I.bare
theorem Inv.call {g':Array GenState} {t':Nat} {d':Drawn} {ch:List Addr} (I:Inv X pins σ H s) (u:Un (frs X.stack) ch H H' s.heap h') (hok:HOk X.prog X.w H' h') (hg:AllBare g')
  (hch:∀ b∈ch,(b∈X.ex \/ X.s₀.heap.objs.size<=b)/\b≠X.env.locals/\(∀ x c,X.env.cells.lookup x=some c->c≠b)/\∀ p∈X.pn++pins,p.1≠b) :
  Inv X pins σ H' { s with heap:=h',gens:=g',drawn:=d',toks:=t' }:=by
 obtain⟨m,⟨o,es,ep,ho,r⟩,_⟩:=id I.loc
 obtain⟨sl,hL⟩:=u.any ho I.free fun z=>(hch _ z).2.1 rfl
 exact I.step (ch:=ch) hch (fun b o hL hb hc e n=>u.keep b o e n (fun z=>(ao7.mp (I.stkSub b z)).elim hL hb) hc) (fun b o _ _ hc e n=>u.any e n hc) (fun b o hc e n=>u.free b o e n hc) (fun b o hc e=>u.there b o e hc) u.tups u.frzs u.tbls (fun m' hm=>by
  obtain⟨o',es',ep',ho',r'⟩:=hm
  rw [ho] at ho';cases ho'
  exact⟨_,es',ep',hL,r'⟩) hok hg
theorem Inv.turned {t':Nat} {it:Addr} (I:Inv X pins σ H s) (k:∀ b o,b≠it->s.heap.get? b=some o->h'.get? b=some o) (hn:H it=none) (hL:it≠X.env.locals)
  (h1:it∈X.ex \/ X.s₀.heap.objs.size<=it) (h2:∀ x c,X.env.cells.lookup x=some c->c≠it) (h3:∀ p∈X.pn++pins,p.1≠it):Inv X pins σ H { s with heap:=h',toks:=t' }:=by
 have nit:∀ b u,H b=some u->b≠it:=fun b u e z=>by rw [z,hn] at e;cases e
 refine I.step (g':=s.gens) (d':=s.drawn) (ch:=[it]) (fun b hb=>?_) (fun b o _ _ hc e _=>k b o (fun z=>hc (by simp [z])) e) (fun b o _ _ hc e _=>⟨o.slots,k b o (fun z=>hc (by simp [z])) e⟩) (fun _ _ _ _ n=>n)
  (fun b o hc e=>⟨o,k b o (fun z=>hc (by simp [z])) e⟩) (fun _ _ e=>e) (fun _ _ _ e=>e) (fun b ps e=>⟨#[],by rw [e];simp⟩) (fun m hm=>?_) (fun b u e=>?_) I.bare
 ·have e:b=it:=by simpa using hb
  subst e
  exact⟨h1,hL,h2,h3⟩
 ·obtain⟨o,es,ep,ho,r⟩:=hm
  exact⟨o,es,ep,k _ o (apT hL) ho,r⟩
 ·refine (I.hok b u e).stay (fun c v hc q=>k c v ?_ q) (fun _ q=>q) fun _ _ q=>q
  rcases hc with z | z
  ·rw [z];exact nit b u e
  ·exact nit c _ z
theorem Inv.tok (I:Inv X pins σ H s) (t:Nat):Inv X pins σ H { s with toks:=t }:=I.un (h':=s.heap) (t':=t) Un.refl I.hok
theorem Inv.kept {t':Nat} (I:Inv X pins σ H s) (k:∀ b u,s.heap.get? b=some u->h'.get? b=some u):Inv X pins σ H { s with heap:=h',toks:=t' }:=I.un (Un.kept k) (I.hok.kept k)
theorem Inv.laid {a:Addr} {o:HO} {t':Nat} (I:Inv X pins σ H s) (k:∀ b u,s.heap.get? b=some u->h'.get? b=some u) (hp:s.heap.objs.size<=a) (new:ObjOk X.prog X.w (upd H a o) h' a o) :
  Inv X pins σ (upd H a o) { s with heap:=h',toks:=t' }:=I.un (Un.laid k hp (I.hok.fresh hp)) (I.hok.laid k hp new)
theorem Inv.write {x e:Addr} {o:HO} {t':Nat} (I:Inv X pins σ H s) (mu:Mut (H x)) (he:e=x \/ H e=some (.own x)) (k:∀ b u,b≠e->s.heap.get? b=some u->h'.get? b=some u) (heo:∃ u,h'.get? e=some u)
  (new:ObjOk X.prog X.w (upd H x o) h' x o):Inv X pins σ (upd H x o) { s with heap:=h',toks:=t' }:=I.un (Un.write mu he k heo) (I.hok.write mu he k heo new)
theorem Inv.pins_of {pins':List (Addr×Obj)} (I:Inv X pins σ H s) (h:∀ p∈pins',s.heap.get? p.1=some p.2/\H p.1=none/\p.1≠X.env.locals/\p.1∉X.fs/\∀ v,p.2.data≠.cell v):Inv X pins' σ H s :=
 ⟨I.ok,I.os,I.bare,I.base,I.loc,I.cell,I.free,I.freeC,fun p hp=>(aps.mp hp).elim (fun z=>I.pin p (apQ _ z)) (h p),I.hok,I.len⟩
theorem aa6 {N:List Str} (hN:N.Nodup) {i j:Nat} {x:Str} (a:N[i]?=some x) (b:N[j]?=some x):i=j:=by
 obtain⟨h1,e1⟩:=ao1.mp a
 obtain⟨h2,e2⟩:=ao1.mp b
 exact (arB hN).mp (e1.trans e2.symm)
theorem ab5 {M:Model} {A:Around} {E:Value->Shared->Prop} {i:Nat} {x:Str} {v:V} {u:Value} {Q:Unit->Shared->Prop} (I:Inv X pins σ H s) (hN:X.N.Nodup) (hi:X.N[i]?=some x) (hx:Loc X.env.scope x) (r:RelV v u)
  (h:∀ s',Inv X pins (σ.set i (some v)) H s'->(∃ a,aqG a s.heap s'.heap/\(a=X.env.locals \/ X.env.cells.lookup x=some a))->Q () s') (hf:X.fn x=true \/ X.env.scope.names.lookup x=some .local:=by first | exact .inl rfl | exact .inr rfl | assumption):wpAny M A (storeName X.env x u) Q E s:=by
 obtain⟨m,hn,hl⟩:=id I.loc
 have hcls:(X.env.scope.kind == .class || (X.env.scope.kind == .module && X.env.locals != X.env.globals))=false:=by rw [I.ok.kind];rfl
 have hiσ:i<σ.length:=by rw [I.len];exact (ao1.mp hi).1
 have cne:=I.cne
 have tracked:∀ {a:Addr} {h':Heap},(∃ o,s.heap.get? a=some o/\H a=none)->aqG a s.heap h'->HOk X.prog X.w H h':=fun {a h'} ha hs b ob e=>by
  obtain⟨_,_,hfree⟩:=ha
  refine (I.hok b ob e).stay (fun c w' hc q=>(hs.2 c ?_).trans q) (fun _ q=>q) fun _ _ q=>q
  rintro rfl
  rcases hc with rfl | hc
  ·rw [hfree] at e;cases e
  ·rw [hfree] at hc;cases hc
 rcases hx with hk | hk
 ·refine wpAny_storeName_local hk hn (fun h' hn' hs=>?_) hcls
  obtain⟨oL,_,_,hoL,_⟩:=id hn
  refine h _ ⟨I.ok,I.os,I.bare,⟨fun b o e n hb hx=>?_,fun b o e n hb hx=>?_,I.base.free,fun b o e hx=>?_,I.base.tups,I.base.frzs,I.base.tbls⟩,⟨_,hn',fun j y v' e1 e2 e3=>?_⟩,fun y c e=>?_,I.free,I.freeC,fun p hp=>?_,tracked ⟨oL,hoL,I.free⟩ hs,by simpa using I.len⟩ ⟨_,hs,.inl rfl⟩
  ·exact (hs.2 b (apw (apk (apc e) I.ok.above))).trans (I.base.keep b o e n hb hx)
  ·obtain⟨sl,e1⟩:=I.base.slot b o e n hb hx
   exact⟨sl,(hs.2 b (apw (apk (apc e) I.ok.above))).trans e1⟩
  ·obtain⟨o',e1⟩:=I.base.there b o e hx
   exact⟨o',(hs.2 b (apw (apk (apc e) I.ok.above))).trans e1⟩
  ·by_cases hj:j=i
   ·subst hj
    rw [hi] at e1;cases e1
    rw [ap2 hiσ] at e2
    cases e2
    exact⟨u,r,.inl ⟨hk,by simp⟩⟩
   ·rw [apY (apT hj)] at e2
    obtain⟨u',r',q⟩:=hl j y v' e1 e2 e3
    refine⟨u',r',?_⟩
    rcases q with⟨k,e⟩ | ⟨k,c,e,z⟩
    ·refine .inl ⟨k,?_⟩
     have:y≠x:=fun e=>hj (aa6 hN e1 (e▸hi))
     simp [this,e]
    ·exact .inr ⟨k,c,e,z.sameBut hs (cne y c e)⟩
  ·obtain⟨w',z⟩:=I.cell y c e
   exact⟨w',z.sameBut hs (cne y c e)⟩
  ·obtain⟨e,n,ne,nf,d⟩:=I.pin p hp
   exact⟨(hs.2 p.1 ne).trans e,n,ne,nf,d⟩
 ·have hfn:X.fn x=true:=by
   rcases hf with z | z
   ·exact z
   ·rw [z] at hk;cases hk
  obtain⟨c,hc⟩:=I.ok.has x (.inl hk)
  obtain⟨w',z⟩:=I.cell x c hc
  refine wpAny_storeName_cell I.ok.kind hk hc z (fun h' hc' hs=>?_)
  obtain⟨oc,hoc,hocd⟩:=id z
  refine h { s with heap:=h' } ⟨I.ok,I.os,I.bare,⟨fun b o e n hb hx=>?_,fun b o e n hb hx=>?_,I.base.free,fun b o e hx=>?_,I.base.tups,I.base.frzs,I.base.tbls⟩,⟨m,hn.sameBut hs (apT (cne x c hc)),fun j y v' e1 e2 e3=>?_⟩,fun y c' e=>?_,I.free,I.freeC,fun p hp=>?_,tracked ⟨oc,hoc,I.freeC x c hc⟩ hs,by simpa using I.len⟩ ⟨c,hs,.inr hc⟩
  ·exact (hs.2 b (apw (apk (apc e) (I.ok.cab x c hfn hc)))).trans (I.base.keep b o e n hb hx)
  ·obtain⟨sl,e1⟩:=I.base.slot b o e n hb hx
   exact⟨sl,(hs.2 b (apw (apk (apc e) (I.ok.cab x c hfn hc)))).trans e1⟩
  ·obtain⟨o',e1⟩:=I.base.there b o e hx
   exact⟨o',(hs.2 b (apw (apk (apc e) (I.ok.cab x c hfn hc)))).trans e1⟩
  ·by_cases hj:j=i
   ·subst hj
    rw [hi] at e1;cases e1
    rw [ap2 hiσ] at e2
    cases e2
    exact⟨u,r,.inr ⟨.inl hk,c,hc,hc'⟩⟩
   ·rw [apY (apT hj)] at e2
    obtain⟨u',r',q⟩:=hl j y v' e1 e2 e3
    refine⟨u',r',?_⟩
    rcases q with q | ⟨k,c',e,z'⟩
    ·exact .inl q
    ·refine .inr ⟨k,c',e,z'.sameBut hs ?_⟩
     rintro rfl
     exact hj (aa6 hN e1 (I.ok.inj _ _ _ e hc▸hi))
  ·by_cases hcc:c'=c
   ·subst hcc;exact⟨_,hc'⟩
   ·obtain⟨w2,z2⟩:=I.cell y c' e
    exact⟨w2,z2.sameBut hs hcc⟩
  ·obtain⟨e,n,ne,nf,d⟩:=I.pin p hp
   refine⟨(hs.2 p.1 ?_).trans e,n,ne,nf,d⟩
   intro q
   rw [q,hoc] at e
   have q':oc=p.2:=Option.some.inj e
   exact d w' (by rw [<-q'];exact hocd)
theorem jT {M:Model} {A:Around} {E:Value->Shared->Prop} {i:Nat} {x:Str} {v:V} {u:Value} {Q:Unit->Shared->Prop} (I:Inv X pins σ H s) (hN:X.N.Nodup) (hi:X.N[i]?=some x) (hx:Loc X.env.scope x) (r:RelV v u)
  (h:∀ s',Inv X pins (σ.set i (some v)) H s'->Q () s') (hf:X.fn x=true \/ X.env.scope.names.lookup x=some .local:=by first | exact .inl rfl | exact .inr rfl | assumption):wpAny M A (storeName X.env x u) Q E s :=
 ab5 I hN hi hx r (fun s' I' _=>h s' I') hf
theorem Inv.call' {s':Shared} {ch:List Addr} (I:Inv X pins σ H s) (ho:s'.os=s.os) (u:Un (frs X.stack) ch H H' s.heap s'.heap) (hok:HOk X.prog X.w H' s'.heap) (hg:AllBare s'.gens)
  (hch:∀ b∈ch,(b∈X.ex \/ X.s₀.heap.objs.size<=b)/\b≠X.env.locals/\(∀ x c,X.env.cells.lookup x=some c->c≠b)/\∀ p∈X.pn++pins,p.1≠b):Inv X pins σ H' s':=by
 obtain⟨h',g',d',t',o'⟩:=s'
 have e:o'=s.os:=ho
 subst e
 exact I.call (g':=g') (t':=t') (d':=d') u hok hg hch
end
abbrev XK:=Value->Option Addr->Hp->Prop
abbrev St:=List (Option V)
abbrev VK:=V->Hp->Prop
abbrev TE:=St->Hp->VK->Prop
abbrev TT:=St->Hp->(Bool->Hp->Prop)->Prop
abbrev TA:=St->Hp->(List V->Hp->Prop)->Prop
structure Ends where
 nx:St->Hp->Prop
 rt:VK
 bk:St->Hp->Prop:=fun _ _=>False
 ct:St->Hp->Prop:=fun _ _=>False
abbrev TS:=Ends->St->Hp->Prop
def EP (X:Cx) (pins:List (Addr×Obj)) (σ:St) (Q:VK) (u:Value) (s':Shared):Prop:=∃ v H',Inv X pins σ H' s'/\RelV v u/\Q v H'
def TP (X:Cx) (pins:List (Addr×Obj)) (σ:St) (Q:Bool->Hp->Prop) (b:Bool) (s':Shared):Prop:=∃ H',Inv X pins σ H' s'/\Q b H'
def AP (X:Cx) (pins:List (Addr×Obj)) (σ:St) (Q:List V->Hp->Prop) (us:List Value) (s':Shared):Prop:=∃ vs H',Inv X pins σ H' s'/\Vals vs us/\Q vs H'
def SP (X:Cx) (pins:List (Addr×Obj)) (D:Ends) (f:Flow) (s':Shared):Prop :=
 match f with
 | .next=>∃ σ' H',Inv X pins σ' H' s'/\D.nx σ' H'
 | .brk=>∃ σ' H',Inv X pins σ' H' s'/\D.bk σ' H'
 | .cont=>∃ σ' H',Inv X pins σ' H' s'/\D.ct σ' H'
 | .ret u=>∃ v σ' H',Inv X pins σ' H' s'/\RelV v u/\D.rt v H'
def PE (X:Cx) (e:Expr) (t:TE):Prop :=
 ∀ (pins:List (Addr×Obj)) (s:Shared) (σ:St) (H:Hp) (Q:VK),Inv X pins σ H s->t σ H Q->wpAny (model X.prog X.w) X.A (eval e X.env) (EP X pins σ Q) X.xe s
def PT (X:Cx) (e:Expr) (t:TT):Prop :=
 ∀ (pins:List (Addr×Obj)) (s:Shared) (σ:St) (H:Hp) (Q:Bool->Hp->Prop),Inv X pins σ H s->t σ H Q->wpAny (model X.prog X.w) X.A (isTrue e X.env (eval e X.env)) (TP X pins σ Q) X.xe s
def PW (X:Cx) (e:Expr) (t:TT):Prop :=
 ∀ (whole:Sem Value) (pins:List (Addr×Obj)) (s:Shared) (σ:St) (H:Hp) (Q:Bool->Hp->Prop),Inv X pins σ H s->t σ H Q->wpAny (model X.prog X.w) X.A (isTrue e X.env whole) (TP X pins σ Q) X.xe s
theorem PW.pt {X:Cx} {e:Expr} {t:TT} (h:PW X e t):PT X e t:=h _
def PA (X:Cx) (es:List Expr) (t:TA):Prop :=
 ∀ (pos:Pos) (pins:List (Addr×Obj)) (s:Shared) (σ:St) (H:Hp) (Q:List V->Hp->Prop),Inv X pins σ H s->t σ H Q->wpAny (model X.prog X.w) X.A (spliced (backTo pos (starEach es X.env))) (AP X pins σ Q) X.xe s
def PS (X:Cx) (st:Stmt) (t:TS):Prop :=
 ∀ (pins:List (Addr×Obj)) (s:Shared) (σ:St) (H:Hp) (D:Ends),Inv X pins σ H s->t D σ H->wpAny (model X.prog X.w) X.A (exec st X.env) (SP X pins D) X.xe s
def PSs (X:Cx) (st:List Stmt) (t:TS):Prop :=
 ∀ (pins:List (Addr×Obj)) (s:Shared) (σ:St) (H:Hp) (D:Ends),Inv X pins σ H s->t D σ H->wpAny (model X.prog X.w) X.A (execs st X.env) (SP X pins D) X.xe s
theorem thn {α:Type} {t:Sem α} {Q Q':α->Shared->Prop} {M:Model} {A:Around} {E:Value->Shared->Prop} {s:Shared} (h:wpAny M A t Q E s) (hQ:∀ a s,Q a s->Q' a s):wpAny M A t Q' E s:=wpAny_mono h hQ fun _ _ x=>x
section
variable {X:Cx}
def z6 (i:Nat):TE:=fun σ H Q=>∃ v,σ[i]?=some (some v)/\Q v H
def tC (v:V):TE:=fun _ H Q=>Q v H
theorem amo {i:Nat} {x:Str} {pos:Pos} (hN:X.N[i]?=some x) (hv:Vis X.env.scope x) (hd:(x == ("__debug__":Str))=false:=by decide) (hcd:(x == ("__classdict__":Str))=false:=by decide):PE X (.Name x pos) (z6 i):=by
 intro pins s σ H Q I h
 obtain⟨v,e,h⟩:=h
 obtain⟨m,hn,hl⟩:=I.loc
 obtain⟨u,r,l⟩:=hl i x v hN e hv
 have fin:EP X pins σ Q u s:=⟨v,H,I,r,h⟩
 rcases l with⟨hk,hm⟩ | ⟨hk,c,hc,hcell⟩
 ·exact wpAny_Name (wpAny_loadName_local I.ok.kind hk hn hm fin) hd
 ·rcases hk with hk | hk
  ·exact wpAny_Name (wpAny_loadName_cell I.ok.kind hk hc hcell fin) hd
  ·exact wpAny_Name (wpAny_loadName_free I.ok.kind hk hc hcell fin hcd) hd
theorem zd {i j pos}:PE X (.Constant (.int i) j pos) (tC (.int i)):=fun _ _ _ H _ I h=>wpAny_Constant_int ⟨.int i,H,I.tok _,⟨_,rfl⟩,h⟩
theorem aa7 {b j pos}:PE X (.Constant (.bool b) j pos) (tC (.bl b)):=fun _ _ _ H _ I h=>Constant_bool ⟨.bl b,H,I,rfl,h⟩
theorem aa8 {j pos}:PE X (.Constant .none j pos) (tC .non):=fun _ _ _ H _ I h=>Constant_none ⟨.non,H,I,rfl,h⟩
theorem yL {x j pos}:PE X (.Constant (.str x) j pos) (tC (.str x)):=fun _ _ _ H _ I h=>Calls.Constant_str ⟨.str x,H,I.tok _,⟨_,rfl⟩,h⟩
def Gl (X:Cx) (x:Str):Prop:=X.env.kindOf x=some .globalImplicit
theorem jD {E:Value->Shared->Prop} {pins:List (Addr×Obj)} {s:Shared} {σ:St} {H:Hp} {x:Str} {u:Value} {pos:Pos} {Q:Value->Shared->Prop} (I:Inv X pins σ H s) (hg:Gl X x) (hm:X.mg x=some u) (h:Q u s)
  (hd:(x == ("__debug__":Str))=false:=by decide):wpAny (model X.prog X.w) X.A (eval (.Name x pos) X.env) Q E s :=
 arV I.ok.kind hg (Calls.loadGlobal_global (by rw [I.ok.glob];exact I.mod.glob.keeps I.bk) hm h) hd
theorem aak {E:Value->Shared->Prop} {pins:List (Addr×Obj)} {s:Shared} {σ:St} {H:Hp} {x:Str} {u:Value} {pos:Pos} {Q:Value->Shared->Prop} (I:Inv X pins σ H s) (hg:Gl X x) (hm:X.mg x=none) (hv:bootBuiltins x=some u) (h:Q u s)
  (hn:x ≠ "__name__":=by decide) (hd:(x == ("__debug__":Str))=false:=by decide):wpAny (model X.prog X.w) X.A (eval (.Name x pos) X.env) Q E s:=by
 obtain⟨mb,h1,h2⟩:=I.mod.blt
 exact arV I.ok.kind hg (Calls.loadGlobal_builtin (by rw [I.ok.glob];exact I.mod.glob.keeps I.bk) hm (by rw [I.ok.blt];exact h1.keeps I.bk) ((h2 x hn).trans hv) h) hd
theorem yy {x:Str} {v:V} {u:Value} {pos:Pos} (hg:Gl X x) (hm:X.mg x=some u) (r:RelV v u) (hd:(x == ("__debug__":Str))=false:=by decide):PE X (.Name x pos) (tC v) :=
 fun _ _ _ H _ I h=>jD I hg hm ⟨v,H,I,r,h⟩ hd
theorem akp {x:Str} {v:V} {u:Value} {pos:Pos} (hg:Gl X x) (hm:X.mg x=none) (hv:bootBuiltins x=some u) (r:RelV v u) (hn:x ≠ "__name__":=by decide) (hd:(x == ("__debug__":Str))=false:=by decide):PE X (.Name x pos) (tC v) :=
 fun _ _ _ H _ I h=>aak I hg hm hv ⟨v,H,I,r,h⟩ hn hd
variable {a b:Expr} {ta tb:TE} {pos:Pos}
def tB (t:TE):TT:=fun σ H Q=>t σ H fun x H1=>∃ c,x=.bl c/\Q c H1
variable {tA tB':TT} {rest:List Expr}
def anW (t u:TT):TT:=fun σ H Q=>t σ H fun c H1=>if c=true then u σ H1 Q else Q false H1
def tOr (t u:TT):TT:=fun σ H Q=>t σ H fun c H1=>if c=true then Q true H1 else u σ H1 Q
def anY (t:TT):TT:=fun σ H Q=>t σ H fun c H1=>Q (!c) H1
theorem akq (ha:PT X a tA):PW X (.BoolOp .And [a] pos) tA:=by
 intro wh pins s σ H Q I h
 refine isTrue_and (thn (ha pins s σ H Q I h) fun c s1 e=>?_)
 cases c with
 | true=>exact isTrue_and_nil e
 | false=>exact e
theorem aal (ha:PT X a tA):PW X (.BoolOp .Or [a] pos) tA:=by
 intro wh pins s σ H Q I h
 refine isTrue_or (thn (ha pins s σ H Q I h) fun c s1 e=>?_)
 cases c with
 | false=>exact isTrue_or_nil e
 | true=>exact e
theorem amq (ha:PT X a tA) (hb:PW X (.BoolOp .And (b :: rest) pos) tB'):PW X (.BoolOp .And (a :: b :: rest) pos) (anW tA tB'):=by
 intro wh pins s σ H Q I h
 refine isTrue_and (thn (ha pins s σ H _ I h) fun c s1 ⟨H1,I1,q1⟩=>?_)
 cases c with
 | true=>exact hb wh pins s1 σ H1 Q I1 q1
 | false=>exact⟨H1,I1,q1⟩
theorem aa9 (ha:PT X a tA) (hb:PW X (.BoolOp .Or (b :: rest) pos) tB'):PW X (.BoolOp .Or (a :: b :: rest) pos) (tOr tA tB'):=by
 intro wh pins s σ H Q I h
 refine isTrue_or (thn (ha pins s σ H _ I h) fun c s1 ⟨H1,I1,q1⟩=>?_)
 cases c with
 | true=>exact⟨H1,I1,q1⟩
 | false=>exact hb wh pins s1 σ H1 Q I1 q1
theorem aam (ha:PT X a tA):PT X (.UnaryOp .Not a pos) (anY tA):=by
 intro pins s σ H Q I h
 exact isTrue_not (ha pins s σ H (fun c H1=>Q (!c) H1) I h)
def alQ (ta tb:TE):TE:=fun σ H Q=>ta σ H fun x H1=>∃ c,x=.bl c/\if c=true then tb σ H1 Q else Q (.bl false) H1
def alR (ta:TE):TE:=fun σ H Q=>ta σ H fun x H1=>∃ c,x=.bl c/\Q (.bl (!c)) H1
theorem acP {op} {t:TE} (h:PE X a t):PE X (.BoolOp op [a] pos) t:=fun pins s σ H Q I hw=>BoolOp_one (h pins s σ H Q I hw)
theorem aan (ha:PE X a ta) (hb:PE X (.BoolOp .And (b :: rest) pos) tb):PE X (.BoolOp .And (a :: b :: rest) pos) (alQ ta tb):=by
 intro pins s σ H Q I h
 refine BoolOp_and (thn (ha pins s σ H _ I h) fun v s1 ⟨x,H1,I1,r1,q1⟩=>?_)
 obtain⟨c,rfl,q1⟩:=q1
 cases r1
 refine wpAny_truthy_bool ?_
 cases c with
 | true=>exact hb pins s1 σ H1 Q I1 q1
 | false=>exact⟨.bl false,H1,I1,rfl,q1⟩
theorem aid (ha:PE X a ta):PE X (.UnaryOp .Not a pos) (alR ta):=by
 intro pins s σ H Q I h
 refine UnaryOp_ (thn (ha pins s σ H _ I h) fun v s1 ⟨x,H1,I1,r1,q1⟩=>?_)
 obtain⟨c,rfl,q1⟩:=q1
 cases r1
 exact not_of (wpAny_truthy_bool ⟨.bl (!c),H1,I1,rfl,q1⟩)
def tIf (t:TT) (ta tb:TE):TE:=fun σ H Q=>t σ H fun c H1=>if c=true then ta σ H1 Q else tb σ H1 Q
theorem vD {c:Expr} (hc:PT X c tA) (ha:PE X a ta) (hb:PE X b tb):PE X (.IfExp c a b pos) (tIf tA ta tb):=by
 intro pins s σ H Q I h
 refine wpAny_IfExp (thn (hc pins s σ H _ I h) fun d s1 ⟨H1,I1,q1⟩=>?_)
 cases d with
 | true=>exact ha pins s1 σ H1 Q I1 q1
 | false=>exact hb pins s1 σ H1 Q I1 q1
end
def SqL (K:aoZ) (H:Hp) (a:Addr) (xs:List V):Prop :=
 Rd H a (.lst xs) \/
  ∃ (o:Obj) (its:Array Value) (n:Nat),K.lookup a=some o/\o.cls=.type "list"/\o.dict=none/\o.data=.seq its n/\its.size<=sizeLine/\Vals xs its.toList
def SqT (K:aoZ) (H:Hp) (a:Addr) (xs:List V):Prop :=
 Rd H a (.tup xs) \/
  ∃ (o:Obj) (its:Array Value) (n:Nat),K.lookup a=some o/\o.cls=.type "tuple"/\o.data=.seq its n/\its.size<=sizeLine/\Vals xs its.toList
def aoI:Value->Option V
 | .none=>some .non
 | .bool b=>some (.bl b)
 | .int i _=>some (.int i)
 | .str x _=>some (.str x)
 | .bytes b _=>some (.byt b)
 | .float b _=>some (.flt b)
 | .ref a=>some (.ref a)
 | .type n=>some (.ty n)
 | _=>none
theorem RelV.abs {x:V} {u:Value} (r:RelV x u):aoI u=some x:=by
 cases x with
 | non=>cases r;rfl
 | bl _=>cases r;rfl
 | int _=>obtain⟨t,rfl⟩:=r;rfl
 | str _=>obtain⟨t,rfl⟩:=r;rfl
 | byt _=>obtain⟨t,rfl⟩:=r;rfl
 | flt _=>obtain⟨t,rfl⟩:=r;rfl
 | ref _=>cases r;rfl
 | ty _=>cases r;rfl
theorem RelV.inj {x y:V} {u:Value} (r:RelV x u) (q:RelV y u):x=y:=Option.some.inj (r.abs.symm.trans q.abs)
theorem Vals.inj:∀ {xs ys:List V} {us:List Value},Vals xs us->Vals ys us->xs=ys
 | _,_,_,.nil,.nil=>rfl
 | _,_,_,.cons r t,.cons r' t'=>by rw [r.inj r',Vals.inj t t']
section
variable {X:Cx} {pins:List (Addr×Obj)} {σ:St} {H:Hp} {s:Shared} {a:Addr} {xs ys:List V}
theorem SqL.of {K:aoZ} (h:H a=some (.lst xs)):SqL K H a xs:=.inl (.inl h)
theorem SqT.of {K:aoZ} (h:H a=some (.tup xs)):SqT K H a xs:=.inl (.inl h)
theorem Inv.list (I:Inv X pins σ H s) (h:SqL X.K H a xs):∃ its:List Value,Vals xs its/\PlainL s.heap a its.toArray/\xs.length<=sizeLine:=by
 rcases h with h | ⟨o,its,n,hk,hc,hd,hs,hz,r⟩
 ·obtain⟨z,its,n,r,e⟩:=h.ok I.hok
  exact⟨its,r,⟨_,n,e,rfl,rfl,rfl⟩,z⟩
 ·refine⟨its.toList,r,⟨o,n,I.kIn a o hk,hc,hd,by simpa using hs⟩,?_⟩
  have e:=r.length
  simp only [apf] at e
  omega
theorem Inv.tuple (I:Inv X pins σ H s) (h:SqT X.K H a xs):∃ its:List Value,Vals xs its/\IsTup s.heap a its.toArray/\xs.length<=sizeLine:=by
 rcases h with h | ⟨o,its,n,hk,hc,hs,hz,r⟩
 ·obtain⟨z,its,r,p⟩:=h.ok I.hok
  exact⟨its,r,p,z⟩
 ·refine⟨its.toList,r,⟨o,I.kIn a o hk,hc,n,by simpa using hs⟩,?_⟩
  have e:=r.length
  simp only [apf] at e
  omega
theorem Inv.list_inj (I:Inv X pins σ H s) (h:SqL X.K H a xs) (h':SqL X.K H a ys):xs=ys:=by
 obtain⟨its,r,⟨o,n,e,_,_,d⟩,_⟩:=I.list h
 obtain⟨its',r',⟨o',n',e',_,_,d'⟩,_⟩:=I.list h'
 rw [e] at e';cases e'
 rw [d] at d'
 injection d' with d1 _
 have:its=its':=by simpa using congrArg Array.toList d1
 subst this
 exact r.inj r'
theorem Inv.tuple_inj (I:Inv X pins σ H s) (h:SqT X.K H a xs) (h':SqT X.K H a ys):xs=ys:=by
 obtain⟨its,r,⟨o,e,_,n,d⟩,_⟩:=I.tuple h
 obtain⟨its',r',⟨o',e',_,n',d'⟩,_⟩:=I.tuple h'
 rw [e] at e';cases e'
 rw [d] at d'
 injection d' with d1 _
 have:its=its':=by simpa using congrArg Array.toList d1
 subst this
 exact r.inj r'
end
abbrev Cx.wish (X:Cx) (E:Value->Shared->Prop):Cx:={ X with xe:=E }
abbrev Cx.nox (X:Cx):Cx:=X.wish fun _ _=>False
theorem Cx.Ok.wish {X:Cx} (ok:X.Ok) (E:Value->Shared->Prop):(X.wish E).Ok :=
 ⟨ok.mod,ok.kind,ok.glob,ok.blt,ok.above,ok.inj,ok.has,ok.cab,ok.hd,ok.frames,ok.stk,ok.exf,ok.bs,ok.bsz,ok.noex,ok.exfs,ok.funs,ok.frf⟩
theorem Cx.Ok.unwish {X:Cx} {E:Value->Shared->Prop} (ok:(X.wish E).Ok):X.Ok :=
 ⟨ok.mod,ok.kind,ok.glob,ok.blt,ok.above,ok.inj,ok.has,ok.cab,ok.hd,ok.frames,ok.stk,ok.exf,ok.bs,ok.bsz,ok.noex,ok.exfs,ok.funs,ok.frf⟩
section
variable {X:Cx} {pins:List (Addr×Obj)} {σ:St} {H:Hp} {s:Shared} {E:Value->Shared->Prop}
theorem Inv.wish (I:Inv X pins σ H s) (E:Value->Shared->Prop):Inv (X.wish E) pins σ H s:=⟨I.ok.wish E,I.os,I.bare,I.base,I.loc,I.cell,I.free,I.freeC,I.pin,I.hok,I.len⟩
theorem Inv.unwish (I:Inv (X.wish E) pins σ H s):Inv X pins σ H s:=⟨I.ok.unwish,I.os,I.bare,I.base,I.loc,I.cell,I.free,I.freeC,I.pin,I.hok,I.len⟩
theorem SP.unwish {D:Ends} {f:Flow} {s':Shared} (h:SP (X.wish E) pins D f s'):SP X pins D f s':=by
 cases f with
 | next=>obtain⟨σ',H',I,q⟩:=h;exact⟨σ',H',I.unwish,q⟩
 | brk=>obtain⟨σ',H',I,q⟩:=h;exact⟨σ',H',I.unwish,q⟩
 | cont=>obtain⟨σ',H',I,q⟩:=h;exact⟨σ',H',I.unwish,q⟩
 | ret u=>obtain⟨v,σ',H',I,r,q⟩:=h;exact⟨v,σ',H',I.unwish,r,q⟩
theorem PSs.nox {st:List Stmt} {t:TS} (h:PSs X.nox st t):PSs X st t:=fun pins s σ H D I hw =>
 wpAny_mono (h pins s σ H D (I.wish _) hw) (fun _ _ q=>q.unwish) fun _ _ z=>apF z
end
section
variable {X:Cx} {st:Stmt} {rest:List Stmt} {t u:TS} {e:Expr} {te:TE} {pos:Pos}
def adS:TS:=fun D σ H=>D.nx σ H
def qz (t u:TS):TS:=fun D σ H=>t { D with nx:=u D } σ H
theorem zH:PSs X [] adS:=fun _ _ σ H _ I h=>wpAny_execs_nil ⟨σ,H,I,h⟩
theorem zc (h1:PS X st t) (h2:PSs X rest u):PSs X (st :: rest) (qz t u):=by
 intro pins s σ H D I h
 refine wpAny_execs_cons (thn (h1 pins s σ H { D with nx:=u D } I h) fun f s1 q=>?_)
 cases f with
 | next =>
  obtain⟨σ',H',I',q⟩:=q
  exact h2 pins s1 σ' H' D I' q
 | ret v=>exact q
 | brk=>exact q
 | cont=>exact q
theorem zf (h1:PS X st t):PSs X [st] t:=by
 intro pins s σ H D I h
 refine wpAny_execs_cons (thn (h1 pins s σ H D I h) fun f s1 q=>?_)
 cases f with
 | next=>exact wpAny_execs_nil q
 | ret v=>exact q
 | brk=>exact q
 | cont=>exact q
theorem Inv.quiet {pins:List (Addr×Obj)} {σ:St} {H:Hp} {s:Shared} (I:Inv X pins σ H s):interactive X.env=false:=by simp [interactive,I.ok.kind]
def aaC (te:TE):TS:=fun D σ H=>te σ H fun _ H1=>D.nx σ H1
theorem ym (he:PE X e te) (hs:swapsWith e none pos.line X.env=pure false:=by rfl):PS X (.Expr e pos) (aaC te):=by
 intro pins s σ H D I h
 exact wpAny_Expr_any (thn (he pins s σ H _ I h) fun v s1 ⟨x,H1,I1,r1,q1⟩=>⟨σ,H1,I1,q1⟩) I.quiet hs
def ag9 (te:TE):TS:=fun D σ H=>te σ H D.rt
theorem zx (he:PE X e te):PS X (.Return (some e) pos) (ag9 te):=by
 intro pins s σ H D I h
 exact wpAny_Return_some (thn (he pins s σ H _ I h) fun v s1 ⟨x,H1,I1,r1,q1⟩=>⟨x,σ,H1,I1,r1,q1⟩)
def ae0 (c:TT) (t u:TS):TS:=fun D σ H=>c σ H fun b H1=>if b=true then t D σ H1 else u D σ H1
theorem yb {c:Expr} {a b:List Stmt} {tc:TT} (hc:PT X c tc) (ha:PSs X a t) (hb:PSs X b u):PS X (.If c a b pos) (ae0 tc t u):=by
 intro pins s σ H D I h
 refine wpAny_If (thn (hc pins s σ H _ I h) fun d s1 ⟨H1,I1,q1⟩=>?_)
 cases d with
 | true=>exact ha pins s1 σ H1 D I1 q1
 | false=>exact hb pins s1 σ H1 D I1 q1
def ae1:TS:=fun _ _ _=>False
theorem adT:PS X st ae1:=fun _ _ _ _ _ _ h=>h.elim
theorem qQ {sts:List Stmt}:PSs X sts ae1:=fun _ _ _ _ _ _ h=>h.elim
end
abbrev TG:=V->St->Hp->(St->Hp->Prop)->Prop
abbrev TGs:=List V->St->Hp->(St->Hp->Prop)->Prop
def PG (X:Cx) (target:Expr) (t:TG):Prop :=
 ∀ (pins:List (Addr×Obj)) (s:Shared) (σ:St) (H:Hp) (v:V) (u:Value) (Q:St->Hp->Prop),Inv X pins σ H s->RelV v u->t v σ H Q ->
  wpAny (model X.prog X.w) X.A (assign target X.env u) (fun _ s'=>∃ σ' H',Inv X pins σ' H' s'/\Q σ' H') X.xe s
def PGs (X:Cx) (ts:List Expr) (t:TGs):Prop :=
 ∀ (pins:List (Addr×Obj)) (s:Shared) (σ:St) (H:Hp) (vs:List V) (us:List Value) (Q:St->Hp->Prop),Inv X pins σ H s->Vals vs us->t vs σ H Q ->
  wpAny (model X.prog X.w) X.A (assignInOrder ((assignEach ts X.env).map (·.2)) us) (fun _ s'=>∃ σ' H',Inv X pins σ' H' s'/\Q σ' H') X.xe s
abbrev amr:=V->V->V->Hp->(Hp->Prop)->Prop
def akr (X:Cx) (t:amr):Prop :=
 ∀ (pins:List (Addr×Obj)) (s:Shared) (σ:St) (H:Hp) (o i v:V) (ov iv u:Value) (Q:Hp->Prop),Inv X pins σ H s->RelV o ov->RelV i iv->RelV v u->t o i v H Q ->
  wpAny (model X.prog X.w) X.A (setItem ov iv u) (fun _ s'=>∃ H',Inv X pins σ H' s'/\Q H') X.xe s
section
variable {X:Cx} {pos:Pos}
def yz (i:Nat):TG:=fun v σ H Q=>Q (σ.set i (some v)) H
theorem zh {i:Nat} {x:Str} (hN:X.N.Nodup) (hi:X.N[i]?=some x) (hx:Loc X.env.scope x) (hf:X.fn x=true \/ X.env.scope.names.lookup x=some .local:=by first | exact .inl rfl | exact .inr rfl | assumption):PG X (.Name x pos) (yz i):=by
 intro pins s σ H v u Q I r h
 exact wpAny_assign_Name (jT I hN hi hx r (fun s' I'=>⟨_,H,I',h⟩) hf)
def aks:TGs:=fun vs σ H Q=>vs=[]/\Q σ H
def aba (t:TG) (u:TGs):TGs:=fun vs σ H Q=>∃ v r,vs=v :: r/\t v σ H fun σ' H'=>u r σ' H' Q
theorem zL:PGs X [] aks:=by
 intro pins s σ H vs us Q I r h
 obtain⟨e,h⟩:=h
 subst e
 cases r
 exact assignInOrder_nil ⟨σ,H,I,h⟩
theorem zk {e:Expr} {es:List Expr} {t:TG} {u:TGs} (h1:PG X e t) (h2:PGs X es u)
  (hs:(assignEach (e :: es) X.env).map (·.2)=assign e X.env :: (assignEach es X.env).map (·.2):=by rfl):PGs X (e :: es) (aba t u):=by
 intro pins s σ H vs us Q I r h
 obtain⟨v,vr,e1,h⟩:=h
 subst e1
 cases r with
 | cons r rr =>
  rw [hs]
  refine assignInOrder_cons (thn (h1 pins s σ H _ _ _ I r h) fun _ s1 ⟨σ1,H1,I1,q1⟩=>?_)
  exact h2 pins s1 σ1 H1 _ _ Q I1 rr q1
def aie (K:aoZ) (n:Nat) (t:TGs):TG:=fun v σ H Q=>∃ a xs,v=.ref a/\SqT K H a xs/\xs.length=n/\t xs σ H Q
theorem ams {es:List Expr} {k:Nat} {t:TGs} {n:Nat} (hc:X.calm=true) (h:PGs X es t)
  (hn:(assignEach es X.env).length=n:=by rfl) (hst:(assignEach es X.env).findIdx? (·.1)=none:=by rfl):PG X (.Tuple es k pos) (aie X.K n t):=by
 intro pins s σ H v u Q I r hw
 obtain⟨a,xs,e1,hq,hl,hw⟩:=hw
 subst e1
 cases r
 obtain⟨its,rv,ht,hz⟩:=I.tuple hq
 refine assign_Tuple_tuple (I.ok.hd hc) ht (by simp [hn,<- hl,rv.length]) hst fun h' hx=>?_
 have I1:Inv X pins σ H { s with heap:=h' }:=I.kept (t':=s.toks) fun b o e=>hx b o (apw (apc e)) e
 exact h pins _ σ H xs _ Q I1 (by simpa using rv) hw
def acQ (to ti:TE) (t:amr):TG:=fun v σ H Q=>to σ H fun o H1=>ti σ H1 fun i H2=>t o i v H2 fun H3=>Q σ H3
theorem abb {o i:Expr} {to ti:TE} {t:amr} (ho:PE X o to) (hi:PE X i ti) (hs:akr X t)
  (ha:∀ v,assign (.Subscript o i pos) X.env v=(do
   let ov <- holding [v] (eval o X.env)
   let iv <- holding [v,ov] (eval i X.env)
   standAt pos
   holding [v,ov,iv] (setItem ov iv v)
   release [v,ov,iv] []):=by intro _;rfl):PG X (.Subscript o i pos) (acQ to ti t):=by
 intro pins s σ H v u Q I r h
 rw [ha]
 refine wpAny_bind (wpAny_holding (thn (ho pins s σ H _ I h) fun ov s1 ⟨x,H1,I1,r1,q1⟩=>?_))
 refine wpAny_bind (wpAny_holding (thn (hi pins s1 σ H1 _ I1 q1) fun iv s2 ⟨y,H2,I2,r2,q2⟩=>?_))
 refine wpAny_bind (wpAny_standAt (wpAny_bind (wpAny_holding (thn (hs pins s2 σ H2 x y v ov iv u _ I2 r1 r2 r q2) fun _ s3 ⟨H3,I3,q3⟩=>?_))))
 exact wpAny_release ⟨σ,H3,I3,q3⟩
def qe (te:TE) (g:TG):TS:=fun D σ H=>te σ H fun x H1=>g x σ H1 D.nx
theorem yi {tg e:Expr} {te:TE} {g:TG} (he:PE X e te) (hg:PG X tg g) (hs:swapsWithSole [tg] e pos.line X.env=pure false:=by rfl) (hw:swappedStores [tg] e X.env=pure none:=by rfl)
  (h1:(assignEach [tg] X.env).map (·.2)=[assign tg X.env]:=by rfl):PS X (.Assign [tg] e pos) (qe te g):=by
 intro pins s σ H D I h
 refine wpAny_Assign_stores (thn (he pins s σ H _ I h) fun v s1 ⟨x,H1,I1,r1,q1⟩=>?_) hs hw
 rw [h1]
 exact thn (hg pins s1 σ H1 x v _ I1 r1 q1) fun _ s2 q=>q
theorem zC {i:Nat} {x:Str} {e:Expr} {te:TE} {pos':Pos} (hN:X.N.Nodup) (hi:X.N[i]?=some x) (hx:Loc X.env.scope x) (he:PE X e te) (hs:swapsWith e (some (.Name x pos')) pos.line X.env=pure false:=by rfl) (hf:X.fn x=true \/ X.env.scope.names.lookup x=some .local:=by first | exact .inl rfl | exact .inr rfl | assumption) :
  PS X (.Assign [.Name x pos'] e pos) (qe te (yz i)):=by
 intro pins s σ H D I h
 refine wpAny_Assign_Name (thn (he pins s σ H _ I h) fun v s1 ⟨y,H1,I1,r1,q1⟩=>?_) hs
 exact jT I1 hN hi hx r1 (fun s2 I2=>⟨_,H1,I2,q1⟩) hf
def anZ (i j:Nat) (ta:TA):TS:=fun D σ H=>ta σ H fun vs H1=>∃ v w,vs=[v,w]/\D.nx ((σ.set i (some v)).set j (some w)) H1
theorem aif {i j:Nat} {x y:Str} {a b:Expr} {ta:TA} {px py pt:Pos} {kt k2 pt2} (hc:X.calm=true) (hN:X.N.Nodup) (hi:X.N[i]?=some x) (hj:X.N[j]?=some y) (hij:i≠j)
  (hx:X.env.scope.names.lookup x=some .local) (hy:X.env.scope.names.lookup y=some .local) (ha:PA X [a,b] ta)
  (hw:swappedStores [.Tuple [.Name x px,.Name y py] kt pt] (.Tuple [a,b] k2 pt2) X.env=pure (some [x,y]))
  (hs:swapsWithSole [.Tuple [.Name x px,.Name y py] kt pt] (.Tuple [a,b] k2 pt2) pos.line X.env=pure false:=by rfl) :
  PS X (.Assign [.Tuple [.Name x px,.Name y py] kt pt] (.Tuple [a,b] k2 pt2) pos) (anZ i j ta):=by
 intro pins s σ H D I h
 rw [exec_Assign_arm]
 refine wpAny_bind (wpAny_standAt ?_)
 rw [hs]
 refine wpAny_bind (wpAny_pure ?_)
 rw [if_neg (by decide)]
 refine wpAny_bind (Tuple_ (thn (ha _ pins s σ H _ I h) fun us s1 ⟨vs,H1,I1,r1,q1⟩=>?_))
 obtain⟨v,w,e1,q1⟩:=q1
 subst e1
 obtain⟨u1,u2,rfl,rv,rw'⟩:∃ u1 u2,us=[u1,u2]/\RelV v u1/\RelV w u2:=by
  cases r1 with
  | cons p q =>
   cases q with
   | cons p' q' =>
    cases q'
    exact⟨_,_,rfl,p,p'⟩
 refine wpAny_newObj_type ?_ (by show 2<=sizeLine;decide)
 have I2:Inv X pins σ H1 { s1 with heap:=s1.heap.push { cls:=.type "tuple",data:=.seq [u1,u2].toArray } }:=I1.kept (t':=s1.toks) fun b o e=>ao2 _ e
 rw [hw]
 refine wpAny_bind (wpAny_pure ?_)
 show wpAny (model X.prog X.w) X.A (do rule "assign.swapped-stores";let items <- unpackItems (.ref s1.heap.objs.size) 2 none;assignInOrder [fun v=>bindName X.env y v,fun v=>bindName X.env x v] items.reverse;pure Flow.next) _ _ _
 refine wpAny_bind (wpAny_rule (wpAny_bind (unpackItems_tuple (items:=#[u1,u2]) (I.ok.hd hc) (IsTup.new s1.heap _) fun h' hx'=>?_)))
 have I3:=I2.kept (h':=h') (t':=s1.toks) fun b o e=>hx' b o (apw (apc e)) e
 show wpAny _ _ (assignInOrder [fun v=>bindName X.env y v,fun v=>bindName X.env x v] [u2,u1] >>= fun _=>pure Flow.next) _ _ _
 refine wpAny_bind (assignInOrder_cons (wpAny_bindName (jT I3 hN hj (.inl hy) rw' (fun s2 I4=>?_) (.inr hy))))
 refine assignInOrder_cons (wpAny_bindName (jT I4 hN hi (.inl hx) rv (fun s3 I5=>assignInOrder_nil (wpAny_pure ?_)) (.inr hx)))
 rw [List.set_comm _ _ (apT hij)] at I5
 exact⟨_,H1,I5,q1⟩
end
section
variable {X:Cx} {pos:Pos}
def ae2 (c:TT) (tb:TS):TS:=fun D σ H=>∃ W:Nat->St->Hp->Prop,(∃ m,W m σ H)/\∀ m σ H,W m σ H ->
 c σ H fun b H1=>if b=true then ∃ N:St->Hp->Prop,(∀ σ' H',N σ' H'->∃ m',m'<m/\W m' σ' H')/\tb { D with nx:=N,ct:=N,bk:=D.nx } σ H1 else D.nx σ H1
theorem adU {c:Expr} {body:List Stmt} {tc:TT} {tb:TS} (hp:PassesOwn (model X.prog X.w) X.A X.env X.xe) (hc:PT X c tc) (hb:PSs X body tb):PS X (.While c body [] pos) (ae2 tc tb):=by
 intro pins s σ H D I h
 obtain⟨W,⟨m0,w0⟩,turn⟩:=h
 refine wpAny_While (codeAny_whileLoop (fun n s'=>∃ σ' H',Inv X pins σ' H' s'/\W n σ' H') ?_ m0 ⟨σ,H,I,w0⟩)
 rintro n s1 ⟨σ1,H1,I1,w1⟩
 refine wpAny_passesOwn hp (thn (hc pins s1 σ1 H1 _ I1 (turn n σ1 H1 w1)) fun b s2 ⟨H2,I2,q2⟩=>?_)
 cases b with
 | true =>
  obtain⟨N,hN,q2⟩:=q2
  rw [if_pos rfl]
  refine wpAny_passesOwn hp (thn (hb pins s2 σ1 H2 _ I2 q2) fun f s3 q3=>?_)
  cases f with
  | next =>
   obtain⟨σ3,H3,I3,n3⟩:=q3
   obtain⟨m',hm,w3⟩:=hN σ3 H3 n3
   exact⟨m',hm,σ3,H3,I3,w3⟩
  | cont =>
   obtain⟨σ3,H3,I3,n3⟩:=q3
   obtain⟨m',hm,w3⟩:=hN σ3 H3 n3
   exact⟨m',hm,σ3,H3,I3,w3⟩
  | brk=>exact q3
  | ret v=>exact q3
 | false =>
  rw [if_neg aoY]
  exact wpAny_execs_nil ⟨σ1,H2,I2,q2⟩
end
structure It where
 go:Nat->Hp->Prop
 yld:Nat->Hp->V->Hp->Prop
 stop:Nat->Hp->Prop
def vE (X:Cx) (pins:List (Addr×Obj)) (H:Hp) (b:Addr):Prop :=
 H b=none/\b≠X.env.locals/\b∉X.fs/\(b∈X.ex \/ X.s₀.heap.objs.size<=b)/\(∀ x c,X.env.cells.lookup x=some c->c≠b)/\∀ p∈X.pn++pins,p.1≠b
theorem Inv.fpOk {X:Cx} {pins:List (Addr×Obj)} {σ:St} {H H':Hp} {s:Shared} {b:Addr} (I:Inv X pins σ H s) (hb:s.heap.objs.size<=b) (hn:H' b=none):vE X pins H' b:=by
 refine⟨hn,aq1 (apk I.lt hb),I.nofs hb,.inr (apm I.sz hb),fun x c e z=>?_,fun p hp z=>?_⟩
 ·obtain⟨v,q⟩:=I.cell x c e
  exact absurd (apk q.lt (by rw [z];exact hb)) (aqh _)
 ·exact absurd (apk (apc (I.pin p hp).1) (by rw [z];exact hb)) (aqh _)
structure Turn (P:Program) (w:World) (K:aoZ) (tg:Expr) (J:It) (fp:List Addr) (it:Addr) (tn:Nat->Heap->Prop):Prop where
 mem:it∈fp
 obj:∀ i h,tn i h->∀ b∈fp,∃ o,h.get? b=some o/\∀ v,o.data≠.cell v
 keep:∀ i h h',tn i h->(∀ b∈fp,∀ o,h.get? b=some o->h'.get? b=some o)->tn i h'
 item:∀ (X:Cx),X.prog=P->X.w=w->X.K=K->X.calm=true->∀ (i:Nat) (pins:List (Addr×Obj)) (s:Shared) (σ:St) (H:Hp) (E:Value->Shared->Prop),Inv X pins σ H s->(∀ b∈fp,vE X pins H b)->tn i s.heap->J.go i H ->
  wpAny (model P w) X.A (pyNext (.ref it)) (fun r s1=>∃ u,r=some u /\
   wpAny (model P w) X.A (letOwnedTupleGo tg (.ref it) u) (fun _ s2=>∃ x H',Inv X pins σ H' s2/\RelV x u/\J.yld i H x H'/\tn (i+1) s2.heap/\∀ b∈fp,H' b=none) E s1) E s
 done:∀ (X:Cx),X.prog=P->X.w=w->X.K=K->X.calm=true->∀ (i:Nat) (pins:List (Addr×Obj)) (s:Shared) (σ:St) (H:Hp) (E:Value->Shared->Prop),Inv X pins σ H s->(∀ b∈fp,vE X pins H b)->tn i s.heap->J.stop i H ->
  wpAny (model P w) X.A (pyNext (.ref it)) (fun r s1=>r=none/\Inv X pins σ H s1) E s
 self:∀ (A:Around) (i:Nat) (s:Shared) (Q:Value->Shared->Prop) (E:Value->Shared->Prop),tn i s.heap->Q (.ref it) s->wpAny (model P w) A (pyIter (.ref it)) Q E s
abbrev TI:=St->Hp->(It->Hp->Prop)->Prop
def PIE (X:Cx) (pins:List (Addr×Obj)) (σ:St) (tg:Expr) (R:It->Hp->Prop) (itv:Value) (s2:Shared):Prop :=
 ∃ (it:Addr) (fp:List Addr) (tn:Nat->Heap->Prop) (J:It) (H':Hp),itv=.ref it/\Inv X pins σ H' s2/\Turn X.prog X.w X.K tg J fp it tn/\tn 0 s2.heap/\(∀ b∈fp,vE X pins H' b)/\R J H'
def PI (X:Cx) (tg iter:Expr) (wi:TI):Prop :=
 ∀ (pins:List (Addr×Obj)) (s:Shared) (σ:St) (H:Hp) (R:It->Hp->Prop),Inv X pins σ H s->wi σ H R ->
  wpAny (model X.prog X.w) X.A (eval iter X.env) (fun v s1=>wpAny (model X.prog X.w) X.A (pyIter v) (PIE X pins σ tg R) X.xe s1) X.xe s
theorem aih {M:Model} {A:Around} {E:Value->Shared->Prop} {s:Shared} {tg:Expr} {it:Addr} {u:Value} {o:Obj} {n:String} {vs:Array Value} {Q:Unit->Shared->Prop} (ho:s.heap.get? it=some o) (hc:o.cls=.type n) (hd:o.data=.fields vs)
  (hn:["enumerate","zip","dict_itemiterator","dict_reverseitemiterator","odict_iterator","itertools.zip_longest","itertools.pairwise"].contains n=false) (hQ:Q () s):wpAny M A (letOwnedTupleGo tg (.ref it) u) Q E s:=by
 unfold letOwnedTupleGo
 cases tg <;> first
  | exact wpAny_pure hQ
  | (cases u <;> first
    | exact wpAny_pure hQ
    | (refine wpAny_bind (wpAny_load ho ?_)
       rw [hc,hd]
       show wpAny M A (if (["enumerate","zip","dict_itemiterator","dict_reverseitemiterator","odict_iterator","itertools.zip_longest","itertools.pairwise"].contains n && vs[0]? == some (rawInt _))=true then _ else _) Q E s
       rw [if_neg (by intro h;rw [hn,aqT] at h;cases h)]
       exact wpAny_pure hQ))
def Itl (K:aoZ) (a:Addr):It :=
 ⟨fun i H=>∃ xs x,SqL K H a xs/\xs[i]?=some x,fun i H x H'=>H'=H/\∀ xs,SqL K H a xs->xs[i]?=some x,fun i H=>∃ xs,SqL K H a xs/\xs.length<=i⟩
def Itt (K:aoZ) (a:Addr):It :=
 ⟨fun i H=>∃ xs x,SqT K H a xs/\xs[i]?=some x,fun i H x H'=>H'=H/\∀ xs,SqT K H a xs->xs[i]?=some x,fun i H=>∃ xs,SqT K H a xs/\xs.length<=i⟩
def Itr (lo:Int) (n:Nat):It:=⟨fun i _=>i<n,fun i H x H'=>H'=H/\x=.int (lo+i),fun i _=>n<=i⟩
theorem aha {P:Program} {w:World} {K:aoZ} {tg:Expr} (a it:Addr):Turn P w K tg (Itl K a) [it] it (fun i h=>h.IsListIter it a i) where
 mem:=by simp
 obj:=fun i h st b hb=>by
  have e:b=it:=by simpa using hb
  subst e
  obtain⟨o,e,c,d⟩:=st
  exact⟨o,e,fun v z=>by rw [d] at z;cases z⟩
 keep:=fun i h h' st k=>st.at fun o e=>k it (by simp) o e
 item:=by
  intro X hP hw hK hc i pins s σ H E I hf st hg
  subst hP hw hK
  obtain⟨xs,x,hq,hx⟩:=hg
  obtain⟨its,rv,p,hz⟩:=I.list hq
  obtain⟨u,hu,ru⟩:=rv.get hx
  obtain⟨f0,f1,f2,f3,f4,f5⟩:=hf it (by simp)
  refine wpAny_pyNext_list_item st p.isList (x:=u) (by simpa using hu) fun h' st' sb=>?_
  have I1:Inv X pins σ H { s with heap:=h' }:=I.turned (t':=s.toks) (fun b o hb e=>(sb.2 b hb).trans e) f0 f1 f3 f4 f5
  obtain⟨o,e,c,d⟩:=id st'
  exact⟨u,rfl,aih (s:={ s with heap:=h' }) e c d (by decide) ⟨x,H,I1,ru,⟨rfl,fun ys hy=>by rw [I.list_inj hy hq];exact hx⟩,st',fun b hb=>(hf b hb).1⟩⟩
 done:=by
  intro X hP hw hK hc i pins s σ H E I hf st hg
  subst hP hw hK
  obtain⟨xs,hq,hx⟩:=hg
  obtain⟨its,rv,p,hz⟩:=I.list hq
  obtain⟨f0,f1,f2,f3,f4,f5⟩:=hf it (by simp)
  have hl:=rv.length
  exact wpAny_pyNext_list_end (I.ok.hd hc) st p.isList (by simp;omega) fun h' eb=>⟨rfl,I.turned (t':=s.toks) (fun b o hb e=>eb b o hb e) f0 f1 f3 f4 f5⟩
 self:=fun _ _ _ _ _ st h=>wpAny_pyIter_listiter st h
theorem ae3 {P:Program} {w:World} {K:aoZ} {tg:Expr} (a it:Addr):Turn P w K tg (Itt K a) [it] it (fun i h=>h.IsTupleIter it a i) where
 mem:=by simp
 obj:=fun i h st b hb=>by
  have e:b=it:=by simpa using hb
  subst e
  obtain⟨o,e,c,d⟩:=st
  exact⟨o,e,fun v z=>by rw [d] at z;cases z⟩
 keep:=fun i h h' st k=>st.at fun o e=>k it (by simp) o e
 item:=by
  intro X hP hw hK hc i pins s σ H E I hf st hg
  subst hP hw hK
  obtain⟨xs,x,hq,hx⟩:=hg
  obtain⟨its,rv,p,hz⟩:=I.tuple hq
  obtain⟨u,hu,ru⟩:=rv.get hx
  obtain⟨f0,f1,f2,f3,f4,f5⟩:=hf it (by simp)
  refine wpAny_pyNext_tuple_item st (show s.heap.IsTuple a its.toArray from p) (x:=u) (by simpa using hu) fun h' st' sb=>?_
  have I1:Inv X pins σ H { s with heap:=h' }:=I.turned (t':=s.toks) (fun b o hb e=>(sb.2 b hb).trans e) f0 f1 f3 f4 f5
  obtain⟨o,e,c,d⟩:=id st'
  exact⟨u,rfl,aih (s:={ s with heap:=h' }) e c d (by decide) ⟨x,H,I1,ru,⟨rfl,fun ys hy=>by rw [I.tuple_inj hy hq];exact hx⟩,st',fun b hb=>(hf b hb).1⟩⟩
 done:=by
  intro X hP hw hK hc i pins s σ H E I hf st hg
  subst hP hw hK
  obtain⟨xs,hq,hx⟩:=hg
  obtain⟨its,rv,p,hz⟩:=I.tuple hq
  obtain⟨f0,f1,f2,f3,f4,f5⟩:=hf it (by simp)
  have hl:=rv.length
  exact wpAny_pyNext_tuple_end (I.ok.hd hc) st (show s.heap.IsTuple a its.toArray from p) (by simp;omega) fun h' eb=>⟨rfl,I.turned (t':=s.toks) (fun b o hb e=>eb b o hb e) f0 f1 f3 f4 f5⟩
 self:=fun _ _ _ _ _ st h=>wpAny_pyIter_tupleiter st h
theorem ae4 {P:Program} {w:World} {K:aoZ} {tg:Expr} (it:Addr) (lo:Int) (n:Nat):Turn P w K tg (Itr lo n) [it] it (fun i h=>IsRangeIter h it (lo+(i:Nat) * 1) ((n:Int) - (i:Nat)) 1) where
 mem:=by simp
 obj:=fun i h st b hb=>by
  have e:b=it:=by simpa using hb
  subst e
  exact⟨_,st,fun v z=>by
   have z':Data.fields _=Data.cell v:=z
   cases z'⟩
 keep:=fun i h h' st k=>k it (by simp) _ st
 item:=by
  intro X hP hw hK hc i pins s σ H E I hf st hg
  subst hP hw hK
  obtain⟨f0,f1,f2,f3,f4,f5⟩:=hf it (by simp)
  have W:=Walks.range (prog:=X.prog) (w:=X.w) (I.ok.hd hc) it lo 1 n
  refine W.item i s _ _ hg st fun v h' tk hv st' kk=>?_
  obtain⟨t,rfl⟩:=hv
  have I1:Inv X pins σ H { s with heap:=h',toks:=tk }:=I.turned (fun b o hb e=>kk b o (by simpa using hb) e) f0 f1 f3 f4 f5
  refine⟨_,rfl,aih (s:={ s with heap:=h',toks:=tk }) (n:="range_iterator") st' rfl rfl (by decide) ⟨.int (lo+i),H,I1,⟨t,?_⟩,⟨rfl,rfl⟩,st',fun b hb=>(hf b hb).1⟩⟩
  rw [Int.mul_one]
 done:=by
  intro X hP hw hK hc i pins s σ H E I hf st hg
  subst hP hw hK
  obtain⟨f0,f1,f2,f3,f4,f5⟩:=hf it (by simp)
  exact wpAny_pyNext_range_end (I.ok.hd hc) st (by have:n<=i:=hg;omega) fun h' eb=>⟨rfl,I.turned (t':=s.toks) (fun b o hb e=>eb b o hb e) f0 f1 f3 f4 f5⟩
 self:=fun _ _ _ _ _ st h=>wpAny_pyIter_rangeiter st h
section
variable {X:Cx} {tg:Expr}
def ab6 (K:aoZ) (tl:TE):TI:=fun σ H R=>tl σ H fun x H1=>∃ a,x=.ref a/\(∃ xs,SqL K H1 a xs)/\R (Itl K a) H1
def amt (K:aoZ) (tl:TE):TI:=fun σ H R=>tl σ H fun x H1=>∃ a,x=.ref a/\(∃ xs,SqT K H1 a xs)/\R (Itt K a) H1
theorem akt {l:Expr} {tl:TE} (hl:PE X l tl):PI X tg l (ab6 X.K tl):=by
 intro pins s σ H R I h
 refine thn (hl pins s σ H _ I h) fun v s1 ⟨x,H1,I1,r1,q1⟩=>?_
 obtain⟨a,e,⟨xs,hq⟩,q⟩:=q1
 subst e
 cases r1
 obtain⟨its,rv,p,hz⟩:=I1.list hq
 refine wpAny_pyIter_list p.isList ?_
 refine⟨s1.heap.objs.size,[s1.heap.objs.size],_,_,H1,rfl,I1.kept (t':=s1.toks) fun b o e=>ao2 _ e,aha a _,⟨_,apA _ rfl,rfl,rfl⟩,fun b hb=>?_,q⟩
 have e:b=s1.heap.objs.size:=by simpa using hb
 subst e
 exact I1.fpOk (ao6 _) (I1.hok.fresh (ao6 _))
theorem amu {l:Expr} {tl:TE} (hl:PE X l tl):PI X tg l (amt X.K tl):=by
 intro pins s σ H R I h
 refine thn (hl pins s σ H _ I h) fun v s1 ⟨x,H1,I1,r1,q1⟩=>?_
 obtain⟨a,e,⟨xs,hq⟩,q⟩:=q1
 subst e
 cases r1
 obtain⟨its,rv,p,hz⟩:=I1.tuple hq
 refine wpAny_pyIter_tuple (show s1.heap.IsTuple a its.toArray from p) ?_
 refine⟨s1.heap.objs.size,[s1.heap.objs.size],_,_,H1,rfl,I1.kept (t':=s1.toks) fun b o e=>ao2 _ e,ae3 a _,⟨_,apA _ rfl,rfl,rfl⟩,fun b hb=>?_,q⟩
 have e:b=s1.heap.objs.size:=by simpa using hb
 subst e
 exact I1.fpOk (ao6 _) (I1.hok.fresh (ao6 _))
theorem aii {pins:List (Addr×Obj)} {σ:St} {H:Hp} {s:Shared} {R:It->Hp->Prop} {E:Value->Shared->Prop} {lo hi:Int} {t u v:Tok} {tk:Nat} (I:Inv X pins σ H s) (h1:-(2 ^ 62)<=lo) (h2:lo<2 ^ 62) (h3:-(2 ^ 62)<=hi) (h4:hi<2 ^ 62)
  (q:R (Itr lo (hi - lo).toNat) H):wpAny (model X.prog X.w) X.A (pyIter (.ref s.heap.objs.size)) (PIE X pins σ tg R) E { s with heap:=s.heap.push { cls:=.type "range",data:=.fields #[.int lo t,.int hi u,.int 1 v] },toks:=tk }:=by
 refine wpAny_pyIter_range (IsRange.new ..) (small_one h1 h2 h3 h4) ?_
 have I1:Inv X pins σ H { s with heap:=s.heap.push { cls:=.type "range",data:=.fields #[.int lo t,.int hi u,.int 1 v] },toks:=tk }:=I.kept fun b o e=>ao2 _ e
 refine⟨(s.heap.push { cls:=.type "range",data:=.fields #[.int lo t,.int hi u,.int 1 v] }).objs.size,[(s.heap.push { cls:=.type "range",data:=.fields #[.int lo t,.int hi u,.int 1 v] }).objs.size],_,_,H,rfl,
  I1.kept (t':=tk) fun b o e=>ao2 _ e,ae4 _ lo (hi - lo).toNat,?_,fun b hb=>?_,q⟩
 ·have e1:lo+((0:Nat):Int) * 1=lo:=by simp
  have e2:(((hi - lo).toNat:Nat):Int) - ((0:Nat):Int)=Builtin.Range.rangeSize lo hi 1:=by rw [rangeSize_one];split <;> omega
  show IsRangeIter _ _ (lo+((0:Nat):Int) * 1) ((((hi - lo).toNat:Nat):Int) - ((0:Nat):Int)) 1
  rw [e1,e2]
  exact apA _ rfl
 ·have e:b=(s.heap.push { cls:=.type "range",data:=.fields #[.int lo t,.int hi u,.int 1 v] }).objs.size:=by simpa using hb
  subst e
  exact I1.fpOk (ao6 _) (I1.hok.fresh (ao6 _))
def adV (ta:TA):TI:=fun σ H R=>ta σ H fun vs H1=>∃ j:Int,vs=[.int j]/\-(2 ^ 62)<=j/\j<2 ^ 62/\R (Itr 0 j.toNat) H1
theorem yM {a:Expr} {ta:TA} {p pos:Pos} (hg:Gl X "range") (hm:X.mg "range"=none) (ha:PA X [a] ta) (hs:starEach [a] X.env=[(false,eval a X.env)]:=by rfl):PI X tg (.Call (.Name "range" p) [a] [] pos) (adV ta):=by
 intro pins s σ H R I h
 refine Call_ (aak I hg hm boot_range (aqN (thn (ha pos pins s σ H _ I h) fun us s1 ⟨vs,H1,I1,r1,q1⟩=>?_) hs rfl))
 obtain⟨j,e,q1,q2,q⟩:=q1
 subst e
 cases r1 with
 | cons r rr =>
  cases rr
  obtain⟨t,rfl⟩:=r
  exact call_range_1 (aii I1 (by omega) (by omega) q1 q2 (by simpa using q))
def aij (wi:TI) (g:TG) (tb:TS):TS:=fun D σ H=>wi σ H fun J H1=>∃ W:Nat->Nat->St->Hp->Prop,(∃ m,W 0 m σ H1)/\∀ i m σ H,W i m σ H ->
 (J.stop i H/\D.nx σ H) \/ (J.go i H/\∃ N:St->Hp->Prop,(∀ σ' H',N σ' H'->∃ m',m'<m/\W (i+1) m' σ' H')/\∀ x H',J.yld i H x H'->g x σ H' fun σ2 H2=>tb { D with nx:=N,ct:=N,bk:=D.nx } σ2 H2)
def abc (fp:List Addr) (h:Heap):List (Addr×Obj):=fp.filterMap fun b=>(h.get? b).map fun o=>(b,o)
theorem qf {fp:List Addr} {h:Heap} {b:Addr} {o:Obj} (hb:b∈fp) (e:h.get? b=some o):(b,o)∈abc fp h:=aqH.mpr ⟨b,hb,by rw [e];rfl⟩
theorem ahb {fp:List Addr} {h:Heap} {p:Addr×Obj} (hp:p∈abc fp h):p.1∈fp/\h.get? p.1=some p.2:=by
 obtain⟨b,hb,e⟩:=aqH.mp hp
 cases q:h.get? b with
 | none=>rw [q] at e;cases e
 | some o =>
  rw [q] at e
  have e':(b,o)=p:=Option.some.inj e
  subst e'
  exact⟨hb,q⟩
theorem Inv.pinned {pins:List (Addr×Obj)} {σ:St} {H:Hp} {s:Shared} {fp:List Addr} (I:Inv X pins σ H s) (hf:∀ b∈fp,vE X pins H b) (ho:∀ b∈fp,∃ o,s.heap.get? b=some o/\∀ v,o.data≠.cell v):Inv X (pins++abc fp s.heap) σ H s :=
 I.pins_of fun p hp=>(aps.mp hp).elim (fun z=>I.pin p (apg _ z)) fun z=>by
  obtain⟨hb,e⟩:=ahb z
  obtain⟨f0,f1,f2,_⟩:=hf p.1 hb
  obtain⟨o,e',d⟩:=ho p.1 hb
  rw [e] at e';cases e'
  exact⟨e,f0,f1,f2,d⟩
theorem Inv.unpinned {pins pl:List (Addr×Obj)} {σ:St} {H:Hp} {s:Shared} (I:Inv X (pins++pl) σ H s):Inv X pins σ H s:=I.pins_of fun p hp=>I.pin p (apg _ (apQ _ hp))
theorem jP {iter:Expr} {body:List Stmt} {wi:TI} {g:TG} {tb:TS} {pos:Pos} (hp:PassesOwn (model X.prog X.w) X.A X.env X.xe) (hc:X.calm=true) (hi:PI X tg iter wi) (hg:PG X tg g) (hb:PSs X body tb)
  (hs:∀ x,foldedSetIterable iter X.env x=pure x:=by intro _;rfl):PS X (.For tg iter body [] pos) (aij wi g tb):=by
 intro pins s σ H D I h
 refine wpAny_For (thn (hi pins s σ H _ I h) fun v s1 h1=>thn h1 fun itv s2 h2=>?_) hs
 obtain⟨it,fp,tn,J,H2,e,I2,T,st2,f2,W,⟨m0,w0⟩,turn⟩:=h2
 subst e
 -- what stays true of the iterator's objects through the loop
 have stat:∀ {H':Hp},(∀ b∈fp,H' b=none)->∀ b∈fp,vE X pins H' b:=fun hn b hb=>⟨hn b hb,(f2 b hb).2⟩
 refine codeAny_forLoop_any (fun n s'=>∃ i σ' H',Inv X pins σ' H' s'/\tn i s'.heap/\(∀ b∈fp,H' b=none)/\W i n σ' H') ?_ m0 ⟨0,σ,H2,I2,st2,fun b hb=>(f2 b hb).1,w0⟩
 rintro n s3 ⟨i,σ3,H3,I3,st3,fr3,w3⟩
 rcases turn i n σ3 H3 w3 with⟨stop,qn⟩ | ⟨go,N,hN,step⟩
 ·refine wpAny_passesOwn hp (thn (T.done X rfl rfl rfl hc i pins s3 σ3 H3 X.xe I3 (stat fr3) st3 stop) fun r s4 ⟨hr,I4⟩=>?_)
  subst hr
  exact wpAny_execs_nil ⟨σ3,H3,I4,qn⟩
 ·refine wpAny_passesOwn hp (thn (T.item X rfl rfl rfl hc i pins s3 σ3 H3 X.xe I3 (stat fr3) st3 go) fun r s4 ⟨u,hr,h4⟩=>?_)
  subst hr
  refine wpAny_passesOwn hp (thn h4 fun _ s5 ⟨x,H5,I5,r5,y5,st5,fr5⟩=>?_)
  have I5':=I5.pinned (stat fr5) (T.obj _ _ st5)
  refine wpAny_passesOwn hp (thn (hg _ s5 σ3 H5 x u _ I5' r5 (step x H5 y5)) fun _ s6 ⟨σ6,H6,I6,q6⟩=>?_)
  refine wpAny_passesOwn hp (thn (hb _ s6 σ6 H6 _ I6 q6) fun f s7 q7=>?_)
  have again:∀ {σ7:St} {H7:Hp},Inv X (pins++abc fp s5.heap) σ7 H7 s7->N σ7 H7->∃ m,m<n/\∃ i σ' H',Inv X pins σ' H' s7/\tn i s7.heap/\(∀ b∈fp,H' b=none)/\W i m σ' H':=fun {σ7 H7} I7 n7=>by
   obtain⟨m',hm,w7⟩:=hN σ7 H7 n7
   refine⟨m',hm,i+1,σ7,H7,I7.unpinned,T.keep _ _ _ st5 fun b hb o e=>(I7.pin (b,o) (apg _ (apg _ (qf hb e)))).1,fun b hb=>?_,w7⟩
   obtain⟨o,e,d⟩:=T.obj _ _ st5 b hb
   exact (I7.pin (b,o) (apg _ (apg _ (qf hb e)))).2.1
  cases f with
  | next=>obtain⟨σ7,H7,I7,n7⟩:=q7;exact again I7 n7
  | cont=>obtain⟨σ7,H7,I7,n7⟩:=q7;exact again I7 n7
  | brk=>obtain⟨σ7,H7,I7,q7⟩:=q7;exact⟨σ7,H7,I7.unpinned,q7⟩
  | ret v=>obtain⟨x7,σ7,H7,I7,r7,q7⟩:=q7;exact⟨x7,σ7,H7,I7.unpinned,r7,q7⟩
end
abbrev R2:=V->V->Hp->VK->Prop
def OpR (X:Cx) (f:Value->Value->Sem Value) (r:R2):Prop :=
 ∀ (pins:List (Addr×Obj)) (s:Shared) (σ:St) (H:Hp) (x y:V) (v u:Value) (Q:VK),Inv X pins σ H s->RelV x v->RelV y u->r x y H Q ->
  wpAny (model X.prog X.w) X.A (f v u) (EP X pins σ Q) X.xe s
def UnR (X:Cx) (f:Value->Sem Value) (r:V->Hp->VK->Prop):Prop :=
 ∀ (pins:List (Addr×Obj)) (s:Shared) (σ:St) (H:Hp) (x:V) (v:Value) (Q:VK),Inv X pins σ H s->RelV x v->r x H Q ->
  wpAny (model X.prog X.w) X.A (f v) (EP X pins σ Q) X.xe s
def yo (X:Cx) (f:Value) (r:List V->Hp->VK->Prop):Prop :=
 ∀ (pins:List (Addr×Obj)) (s:Shared) (σ:St) (H:Hp) (xs:List V) (us:List Value) (Q:VK),Inv X pins σ H s->Vals xs us->r xs H Q ->
  wpAny (model X.prog X.w) X.A (call f us) (EP X pins σ Q) X.xe s
def aoJ (X:Cx) (r:V->Hp->(Bool->Hp->Prop)->Prop):Prop :=
 ∀ (pins:List (Addr×Obj)) (s:Shared) (σ:St) (H:Hp) (x:V) (v:Value) (Q:Bool->Hp->Prop),Inv X pins σ H s->RelV x v->r x H Q ->
  wpAny (model X.prog X.w) X.A (truthy v) (TP X pins σ Q) X.xe s
def tOp (r:R2) (ta tb:TE):TE:=fun σ H Q=>ta σ H fun x H1=>tb σ H1 fun y H2=>r x y H2 Q
def tUn (r:V->Hp->VK->Prop) (ta:TE):TE:=fun σ H Q=>ta σ H fun x H1=>r x H1 Q
def rI (C:Int->Int->Prop) (g:Int->Int->V):R2:=fun x y H Q=>∃ i j,x=.int i/\y=.int j/\C i j/\Q (g i j) H
def rI0 (g:Int->Int->V):R2:=fun x y H Q=>∃ i j,x=.int i/\y=.int j/\Q (g i j) H
def rU (g:Int->V):V->Hp->VK->Prop:=fun x H Q=>∃ i,x=.int i/\Q (g i) H
section
variable {X:Cx} {a b c:Expr} {ta tb tc:TE} {pos:Pos}
theorem amv (ha:PE X a ta) (hb:PE X b tb) {pins:List (Addr×Obj)} {s:Shared} {σ:St} {H:Hp} {R:V->V->Hp->Prop} (I:Inv X pins σ H s)
  (h:ta σ H fun x H1=>tb σ H1 fun y H2=>R x y H2) {Q:Value->Shared->Prop} {f:Value->Value->Sem Value}
  (hf:∀ v u s2 x y H2,Inv X pins σ H2 s2->RelV x v->RelV y u->R x y H2->wpAny (model X.prog X.w) X.A (f v u) Q X.xe s2) :
  wpAny (model X.prog X.w) X.A (eval a X.env) (fun v s₁=>wpAny (model X.prog X.w) X.A (eval b X.env) (fun u s₂=>wpAny (model X.prog X.w) X.A (f v u) Q X.xe s₂) X.xe s₁) X.xe s:=by
 refine thn (ha pins s σ H _ I h) fun v s1 ⟨x,H1,I1,r1,q1⟩=>?_
 refine thn (hb pins s1 σ H1 _ I1 q1) fun u s2 ⟨y,H2,I2,r2,q2⟩=>?_
 exact hf v u s2 x y H2 I2 r1 r2 q2
theorem zt {op:Operator} {r:R2} (ho:OpR X (binaryOp op) r) (ha:PE X a ta) (hb:PE X b tb):PE X (.BinOp a op b pos) (tOp r ta tb):=by
 intro pins s σ H Q I h
 exact wpAny_BinOp (amv ha hb I h fun v u s2 x y H2 I2 rx ry q=>ho pins s2 σ H2 x y v u Q I2 rx ry q)
theorem aik {op:UnaryOp} {r:V->Hp->VK->Prop} (ho:UnR X (unaryOp op) r) (ha:PE X a ta):PE X (.UnaryOp op a pos) (tUn r ta):=by
 intro pins s σ H Q I h
 exact UnaryOp_ (thn (ha pins s σ H _ I h) fun v s1 ⟨x,H1,I1,r1,q1⟩=>ho pins s1 σ H1 x v Q I1 r1 q1)
theorem opI {f:Value->Value->Sem Value} {C:Int->Int->Prop} {g:Int->Int->Int}
  (rule:∀ (i j:Int) (t u:Tok) (s:Shared) (Q:Value->Shared->Prop) (E:Value->Shared->Prop),C i j->Q (.int (g i j) s.toks) { s with toks:=s.toks+1 }->wpAny (model X.prog X.w) X.A (f (.int i t) (.int j u)) Q E s) :
  OpR X f (rI C fun i j=>.int (g i j)):=by
 intro pins s σ H x y v u Q I rx ry h
 obtain⟨i,j,rfl,rfl,hc,q⟩:=h
 obtain⟨t,rfl⟩:=rx
 obtain⟨t',rfl⟩:=ry
 exact rule i j t t' s _ _ hc ⟨.int (g i j),H,I.tok _,⟨_,rfl⟩,q⟩
theorem an0 {f:Value->Value->Sem Value} {g:Int->Int->Int}
  (rule:∀ (i j:Int) (t u:Tok) (s:Shared) (Q:Value->Shared->Prop) (E:Value->Shared->Prop),Q (.int (g i j) s.toks) { s with toks:=s.toks+1 }->wpAny (model X.prog X.w) X.A (f (.int i t) (.int j u)) Q E s) :
  OpR X f (rI0 fun i j=>.int (g i j)):=by
 intro pins s σ H x y v u Q I rx ry h
 obtain⟨i,j,rfl,rfl,q⟩:=h
 obtain⟨t,rfl⟩:=rx
 obtain⟨t',rfl⟩:=ry
 exact rule i j t t' s _ _ ⟨.int (g i j),H,I.tok _,⟨_,rfl⟩,q⟩
theorem aku {f:Value->Value->Sem Value} {g:Int->Int->Bool}
  (rule:∀ (i j:Int) (t u:Tok) (s:Shared) (Q:Value->Shared->Prop) (E:Value->Shared->Prop),Q (.bool (g i j)) s->wpAny (model X.prog X.w) X.A (f (.int i t) (.int j u)) Q E s) :
  OpR X f (rI0 fun i j=>.bl (g i j)):=by
 intro pins s σ H x y v u Q I rx ry h
 obtain⟨i,j,rfl,rfl,q⟩:=h
 obtain⟨t,rfl⟩:=rx
 obtain⟨t',rfl⟩:=ry
 exact rule i j t t' s _ _ ⟨.bl (g i j),H,I,rfl,q⟩
def aoK (i j:Int):Prop:=0<=j/\j<=1000000/\i.natAbs<2 ^ 64
def CMul (i j:Int):Prop:=(-(2 ^ 64)<i/\i<2 ^ 64) \/ (-(2 ^ 64)<j/\j<2 ^ 64)
theorem CMul.ok {i j:Int} (h:CMul i j):IntMulOk i j:=by
 rcases h with⟨h1,h2⟩ | ⟨h1,h2⟩
 ·exact .of_left (intBits_le_64 h1 h2)
 ·exact .of_right (intBits_le_64 h1 h2)
theorem zT:OpR X (binaryOp .Add) (rI0 fun i j=>.int (i+j)):=an0 fun _ _ _ _ _ _ _ q=>add_int q
theorem yH:OpR X (binaryOp .Sub) (rI0 fun i j=>.int (i - j)):=an0 fun _ _ _ _ _ _ _ q=>sub_int q
theorem vo:OpR X (binaryOp .Mult) (rI CMul fun i j=>.int (i * j)):=opI fun _ _ _ _ _ _ _ hc q=>mul_int q hc.ok
theorem vp:OpR X (binaryOp .Mod) (rI (fun _ j=>0<j) fun i j=>.int (i % j)):=opI fun i j _ _ _ _ _ hc q=>by
 have h1:(0:Int)<j:=hc
 exact mod_int' (by omega) (by rw [Int.fmod_eq_emod_of_nonneg i (by omega)];exact q)
theorem jb:OpR X (binaryOp .Pow) (rI aoK fun i j=>.int (i ^ j.toNat)):=opI fun _ _ _ _ _ _ _ hc q=>pow_int_small hc.1 hc.2.1 hc.2.2 q
theorem unI {f:Value->Sem Value} {g:Int->Int}
  (rule:∀ (i:Int) (t:Tok) (s:Shared) (Q:Value->Shared->Prop) (E:Value->Shared->Prop),Q (.int (g i) s.toks) { s with toks:=s.toks+1 }->wpAny (model X.prog X.w) X.A (f (.int i t)) Q E s) :
  UnR X f (rU fun i=>.int (g i)):=by
 intro pins s σ H x v Q I rx h
 obtain⟨i,rfl,q⟩:=h
 obtain⟨t,rfl⟩:=rx
 exact rule i t s _ _ ⟨.int (g i),H,I.tok _,⟨_,rfl⟩,q⟩
theorem ae5:UnR X (unaryOp .USub) (rU fun i=>.int (-i)):=unI fun _ _ _ _ _ q=>neg_int q
end
section
variable {X:Cx} {a b c:Expr} {ta tb tc:TE} {pos:Pos}
theorem ail {pins:List (Addr×Obj)} {σ:St} {H:Hp} {s:Shared} {Q:VK} {k k':Bool} (I:Inv X pins σ H s) (q:Q (.bl k) H) (e:k=k'):EP X pins σ Q (.bool k') s:=by
 subst e
 exact⟨.bl k,H,I,rfl,q⟩
theorem abd:OpR X (compareOp .Lt) (rI0 fun i j=>.bl (decide (i<j))):=aku fun _ _ _ _ _ _ _ q=>lt_int q
theorem ab7:OpR X (compareOp .LtE) (rI0 fun i j=>.bl (decide (i<=j))):=aku fun _ _ _ _ _ _ _ q=>le_int q
theorem ab8:OpR X (compareOp .Gt) (rI0 fun i j=>.bl (decide (j<i))):=aku fun _ _ _ _ _ _ _ q=>gt_int q
theorem alS:OpR X (compareOp .GtE) (rI0 fun i j=>.bl (decide (j<=i))):=aku fun _ _ _ _ _ _ _ q=>ge_int q
theorem amw:OpR X (compareOp .Is) (fun x y H Q=>y=.non/\Q (.bl (decide (x=.non))) H):=by
 intro pins s σ H x y v u Q I rx ry h
 obtain⟨rfl,q⟩:=h
 cases ry
 refine is_none_gen (ail I q ?_)
 cases x <;> first
  | (cases rx;rfl)
  | (obtain⟨t,rfl⟩:=rx;rfl)
theorem afZ:OpR X (compareOp .IsNot) (fun x y H Q=>y=.non/\Q (.bl (!decide (x=.non))) H):=by
 intro pins s σ H x y v u Q I rx ry h
 obtain⟨rfl,q⟩:=h
 cases ry
 refine isnot_none_gen (ail I q ?_)
 cases x <;> first
  | (cases rx;rfl)
  | (obtain⟨t,rfl⟩:=rx;rfl)
theorem zM (b:Expr) {op:CmpOp} (h:op≠.In:=by decide) (h2:op≠.NotIn:=by decide):behindInMarks op b=false:=by
 have e1:(op == CmpOp.In)=false:=by cases op <;> first | rfl | exact absurd rfl h
 have e2:(op == CmpOp.NotIn)=false:=by cases op <;> first | rfl | exact absurd rfl h2
 cases b <;> simp [behindInMarks,e1,e2]
theorem vF {op:CmpOp} {r:R2} (ho:OpR X (compareOp op) r) (ha:PE X a ta) (hb:PE X b tb) (hm:behindInMarks op b=false):PE X (.Compare a [op] [b] pos) (tOp r ta tb):=by
 intro pins s σ H Q I h
 exact wpAny_Compare1 (amv ha hb I h fun v u s2 x y H2 I2 rx ry q=>ho pins s2 σ H2 x y v u Q I2 rx ry q) hm
def af0 (t:TE):TT:=fun σ H Q=>t σ H fun x H'=>∃ k,x=.bl k/\Q k H'
theorem zG {op:CmpOp} {r:R2} (ho:OpR X (compareOp op) r) (ha:PE X a ta) (hb:PE X b tb) (hm:behindInMarks op b=false):PT X (.Compare a [op] [b] pos) (af0 (tOp r ta tb)):=by
 intro pins s σ H Q I h
 refine wpAny_isTrue_Compare1 (thn (ha pins s σ H _ I h) fun v s1 ⟨x,H1,I1,r1,q1⟩=>thn (hb pins s1 σ H1 _ I1 q1) fun u s2 ⟨y,H2,I2,r2,q2⟩ =>
  thn (ho pins s2 σ H2 x y v u _ I2 r1 r2 q2) fun c s3 ⟨z,H3,I3,r3,k,e,q3⟩=>?_) hm
 subst e
 cases r3
 exact wpAny_truthy_bool ⟨H3,I3,q3⟩
def aim (r r':R2) (ta tb tc:TE):TE:=fun σ H Q=>ta σ H fun x H1=>tb σ H1 fun y H2=>r x y H2 fun z H3=>∃ k,z=.bl k /\
 (if k=true then tc σ H3 fun w' H4=>r' y w' H4 Q else Q (.bl false) H3)
theorem abe {op op':CmpOp} {r r':R2} (ho:OpR X (compareOp op) r) (ho':OpR X (compareOp op') r') (ha:PE X a ta) (hb:PE X b tb) (hc:PE X c tc)
  (hm:lastMarks [op,op'] [b,c]=false:=by with_unfolding_all rfl):PE X (.Compare a [op,op'] [b,c] pos) (aim r r' ta tb tc):=by
 intro pins s σ H Q I h
 refine Compare_chain (thn (ha pins s σ H _ I h) fun v s1 ⟨x,H1,I1,r1,q1⟩=>chain_link (thn (hb pins s1 σ H1 _ I1 q1) fun u s2 ⟨y,H2,I2,r2,q2⟩ =>
  thn (ho pins s2 σ H2 x y v u _ I2 r1 r2 q2) fun d s3 ⟨z,H3,I3,r3,k,e,q3⟩=>?_)) hm
 subst e
 cases r3
 refine wpAny_truthy_bool ?_
 cases k with
 | false=>exact ite_ff ⟨.bl false,H3,I3,rfl,q3⟩
 | true=>exact ite_tt (chain_last (thn (hc pins s3 σ H3 _ I3 q3) fun w' s4 ⟨z',H4,I4,r4,q4⟩=>ho' pins s4 σ H4 y z' u w' Q I4 r2 r4 q4))
def amx (K:aoZ) (x:V) (H:Hp) (k:Bool):Prop :=
 match x with
 | .non=>k=false
 | .bl b=>k=b
 | .int i=>k=(i != 0)
 | .str y=>y.length<=sizeLine/\k=((y.length:Int) != 0)
 | .byt y=>y.size<=sizeLine/\k=((y.size:Int) != 0)
 | .ref p=>(∃ xs,SqL K H p xs/\k=!xs.isEmpty) \/ (∃ xs,SqT K H p xs/\k=!xs.isEmpty) \/ ∃ kvs,H p=some (.dK kvs)/\k=!kvs.isEmpty
 | _=>False
theorem ae6 {κ:Type} {kvs:List (κ×V)} {vs:List (κ×Value)} (r:KV kvs vs):(!vs.isEmpty)=!kvs.isEmpty:=by
 cases r <;> rfl
theorem abf {xs:List V} {its:List Value} (r:Vals xs its):(!its.toArray.isEmpty)=!xs.isEmpty:=by
 cases r <;> simp
theorem abg:(sizeLine:Nat)<2 ^ 63:=by rw [sizeLine_eq];decide
theorem amy:aoJ X (fun x H Q=>∃ k,amx X.K x H k/\Q k H):=by
 intro pins s σ H x v Q I rx h
 obtain⟨k,e,q⟩:=h
 have hl:=abg
 have hs:sizeLine=16777216:=sizeLine_eq
 cases x with
 | non =>
  cases rx
  have e':k=false:=e
  subst e'
  exact truthy_none ⟨H,I,q⟩
 | bl b =>
  cases rx
  have e':k=b:=e
  subst e'
  exact wpAny_truthy_bool ⟨H,I,q⟩
 | int i =>
  obtain⟨t,rfl⟩:=rx
  have e':k=(i != 0):=e
  subst e'
  exact PySem.P.truthy_int ⟨H,I,q⟩
 | str y =>
  obtain⟨t,rfl⟩:=rx
  obtain⟨hy,e'⟩:y.length<=sizeLine/\k=((y.length:Int) != 0):=e
  subst e'
  exact PySem.P.truthy_str (by omega) ⟨H,I.tok _,q⟩
 | byt y =>
  obtain⟨t,rfl⟩:=rx
  obtain⟨hy,e'⟩:y.size<=sizeLine/\k=((y.size:Int) != 0):=e
  subst e'
  exact PySem.W.truthy_bytes (by omega) ⟨H,I.tok _,q⟩
 | ref p =>
  cases rx
  have e':(∃ xs,SqL X.K H p xs/\k=!xs.isEmpty) \/ (∃ xs,SqT X.K H p xs/\k=!xs.isEmpty) \/ ∃ kvs,H p=some (.dK kvs)/\k=!kvs.isEmpty:=e
  rcases e' with⟨xs,hx,e'⟩ | ⟨xs,hx,e'⟩ | ⟨kvs,hx,e'⟩
  ·subst e'
   obtain⟨its,r,pl,hz⟩:=I.list hx
   have hlen:=r.length
   exact wpAny_truthy_list pl.isList (by simp only [ape];omega) ⟨H,I.tok _,by rw [abf r];exact q⟩
  ·subst e'
   obtain⟨its,r,pl,hz⟩:=I.tuple hx
   have hlen:=r.length
   exact truthy_tuple pl (by simp only [ape];omega) ⟨H,I.tok _,by rw [abf r];exact q⟩
  ·subst e'
   obtain⟨hz,hS,vs,r,m⟩:kvs.length<=sizeLine/\(p == sysModules)=false/\∃ vs,KV kvs vs/\s.heap.DictOf (acN X.prog X.w) p vs:=I.hok p _ hx
   have hlen:kvs.length=vs.length:=Paired.length r
   exact wpAny_truthy_dict hS m (by omega) ⟨H,I.tok _,by rw [ae6 r];exact q⟩
 | _=>exact (show False from e).elim
theorem ain (ha:PE X a ta) (he:∀ whole,isTrue a X.env whole=(do let v <- whole;standAt a.pos;holding [v] (truthy v))) :
  PT X a (fun σ H Q=>ta σ H fun x H'=>∃ k,amx X.K x H' k/\Q k H'):=by
 intro pins s σ H Q I h
 exact isTrue_plain (thn (ha pins s σ H _ I h) fun v s1 ⟨x,H1,I1,r1,q1⟩=>amy pins s1 σ H1 x v Q I1 r1 q1) (he _)
theorem vals1 {x:V} {us:List Value} (r:Vals [x] us):∃ u,us=[u]/\RelV x u:=by
 cases r with
 | cons r1 r2=>cases r2;exact⟨_,rfl,r1⟩
theorem vals2 {x y:V} {us:List Value} (r:Vals [x,y] us):∃ u w',us=[u,w']/\RelV x u/\RelV y w':=by
 cases r with
 | cons r1 r2 =>
  cases r2 with
  | cons r3 r4=>cases r4;exact⟨_,_,rfl,r1,r3⟩
theorem vG:yo X (.builtin "abs") (fun xs H Q=>∃ i,xs=[.int i]/\Q (.int (if i<0 then -i else i)) H):=by
 intro pins s σ H xs us Q I r h
 obtain⟨i,rfl,q⟩:=h
 obtain⟨u,rfl,t,rfl⟩:=vals1 r
 exact call_abs_int fun u tk=>⟨.int (if i<0 then -i else i),H,I.tok _,⟨_,rfl⟩,q⟩
theorem ahc (hc:X.calm=true):yo X (.builtin "max") (fun xs H Q=>∃ i j,xs=[.int i,.int j]/\Q (.int (if j > i then j else i)) H):=by
 intro pins s σ H xs us Q I r h
 obtain⟨i,j,rfl,q⟩:=h
 obtain⟨u,w',rfl,⟨t,rfl⟩,⟨t',rfl⟩⟩:=vals2 r
 refine max_two_ints (I.ok.hd hc) fun h' tk k=>⟨_,H,I.kept k,?_,q⟩
 by_cases hj:j > i
 ·rw [if_pos hj,if_pos hj];exact⟨_,rfl⟩
 ·rw [if_neg hj,if_neg hj];exact⟨_,rfl⟩
theorem ab9 (hc:X.calm=true):yo X (.builtin "min") (fun xs H Q=>∃ i j,xs=[.int i,.int j]/\Q (.int (if j<i then j else i)) H):=by
 intro pins s σ H xs us Q I r h
 obtain⟨i,j,rfl,q⟩:=h
 obtain⟨u,w',rfl,⟨t,rfl⟩,⟨t',rfl⟩⟩:=vals2 r
 refine min_two_ints (I.ok.hd hc) fun h' tk k=>⟨_,H,I.kept k,?_,q⟩
 by_cases hj:j<i
 ·rw [if_pos hj,if_pos hj];exact⟨_,rfl⟩
 ·rw [if_neg hj,if_neg hj];exact⟨_,rfl⟩
theorem acR:yo X (.type "str") (fun xs H Q=>∃ i,xs=[.int i]/\i.natAbs.log2<1920/\Q (.str (toString i)) H):=by
 intro pins s σ H xs us Q I r h
 obtain⟨i,rfl,hz,q⟩:=h
 obtain⟨u,rfl,t,rfl⟩:=vals1 r
 exact PySem.P.str_of_int hz ⟨.str _,H,I.tok _,⟨_,rfl⟩,q⟩
end
structure ObjM (h:Heap) (x dx C:Addr) (mA:Str->Option Value):Prop where
 obj:h.get? x=some (PySem.W.instObj C dx)
 ns:h.Ns1 dx mA
 ne:dx≠x
section
variable {prog:Program} {w:World} {A:Around} {E:Value->Shared->Prop} {s:Shared} {K:aoZ} {x dx C f:Addr} {mA:Str->Option Value} {name:Str} {v:Value}
end
structure Cls (K:aoZ) (C:Addr):Prop where
 pg:PySem.W.plainGet K C Str.empty=true
 hd:PySem.W.hasDictIn K C=true
 po:PySem.W.plainOver K C=true
 sa:apR K (.ref C) "__setattr__"=some (some (.builtin "object.__setattr__"))
structure Con (K:aoZ) (C:Addr) (f:Str) (v:V) (u:Value):Prop where
 at_:apR K (.ref C) f=some (some u)
 rel:RelV v u
 get:aqO K u "__get__"=some none
 cp:PySem.W.copiedNames.contains f=false
structure Meth (K:aoZ) (C:Addr) (m:Str) (f:Addr):Prop where
 at_:apR K (.ref C) m=some (some (.ref f))
 fn:asx K (.ref f)=true
 kp:apM K (.ref f)=true
section
variable {X:Cx} {pins:List (Addr×Obj)} {σ:St} {H:Hp} {s:Shared} {a C dx:Addr} {fs:List (Str×V)} {f:Str} {v:V} {A:Around} {E:Value->Shared->Prop}
theorem akv {prog:Program} {w:World} {env:Env} {e:Expr} {f:Str} {pos:Pos} {s:Shared} {Q:Value->Shared->Prop} (hb:attributeBase e f env (eval e env)=eval e env)
  (h:wpAny (model prog w) A (eval e env) (fun o s₁=>wpAny (model prog w) A (getAttr o f true) Q E s₁) E s):wpAny (model prog w) A (eval (.Attribute e f pos) env) Q E s :=
 Attribute_any_ h (by rw [arm_eval_Attribute,hb])
end
section
variable {X:Cx} {pins:List (Addr×Obj)} {σ:St} {H:Hp} {s:Shared} {A:Around} {E:Value->Shared->Prop} {Q:Value->Shared->Prop} {c:Value} {b:Bool}
inductive TyOf (K:aoZ) (H:Hp):V->Value->Prop where
 | non:TyOf K H .non (.type "NoneType")
 | bl (x:Bool):TyOf K H (.bl x) (.type "bool")
 | int (i:Int):TyOf K H (.int i) (.type "int")
 | str (x:Str):TyOf K H (.str x) (.type "str")
 | flt (x:UInt64):TyOf K H (.flt x) (.type "float")
 | lst {a:Addr} {xs:List V} (e:H a=some (.lst xs)):TyOf K H (.ref a) (.type "list")
 | frz {a:Addr} {o:Obj} {xs:List V} (e:H a=some (.frz o (.lst xs))):TyOf K H (.ref a) (.type "list")
 | tup {a:Addr} {xs:List V} (e:H a=some (.tup xs)):TyOf K H (.ref a) (.type "tuple")
 | dK {a:Addr} {kvs:List (Key×V)} (e:H a=some (.dK kvs)):TyOf K H (.ref a) (.type "dict")
 | dT {a:Addr} {kvs:List (List Key×V)} (e:H a=some (.dT kvs)):TyOf K H (.ref a) (.type "dict")
 | ins {a C dx:Addr} {fs:List (Str×V)} (e:H a=some (.ins C dx fs)) (cl:Cls K C) (ha:apR K (.ref C) "__class__"=some (some (.builtin "object.__class__")))
   (hn:aqO K (.builtin "object.__class__") "__get__"=some (some (.builtin "getset_descriptor.__get__"))) (htk:PySem.W.takesIn K (.builtin "object.__class__")=some true)
   (hm:arE K C (.type "object")=some true):TyOf K H (.ref a) (.ref C)
end
structure Room (k:Nat) (A:Around):Prop where
 hd:A.handled=none
 dp:A.depth+3 * k+5<recursionLimit
 un:A.units+16 * k+200<cLine
theorem Room.mono {j k:Nat} {A:Around} (r:Room k A) (h:j<=k):Room j A:=⟨r.hd,by have:=r.dp;omega,by have:=r.un;omega⟩
theorem Room.deeper {k:Nat} {A:Around} (r:Room (k+1) A) (env:Env):Room k (A.deeper env) :=
 ⟨r.hd,by have:=r.dp;show A.depth+1+3 * k+5<_;omega,by have:=r.un;show A.units+3+16 * k+200<_;omega⟩
theorem ae7 {A:Around} {C:Addr} {us:List Value} {kw:List (Str×Value)}:(A.under (.builtin "type.__call__" ⟨.ref C :: us,kw⟩)).depth=A.depth+1:=by
 first | rfl | simp [as5,Code.weight,Code.isCreation,Code.isGuard,Code.isCaller,Code.frames,as6,guardIds]
theorem ae8 {A:Around} {C:Addr} {us:List Value} {kw:List (Str×Value)}:(A.under (.builtin "type.__call__" ⟨.ref C :: us,kw⟩)).units=A.units+1:=by
 first | rfl | simp [as5,Code.cUnits,Code.frames,as6]
theorem Room.make {k:Nat} {A:Around} (r:Room (k+1) A) (C:Addr) (us:List Value) (kw:List (Str×Value)):Room k (A.under (.builtin "type.__call__" ⟨.ref C :: us,kw⟩)) :=
 ⟨r.hd,by have:=r.dp;rw [ae7];omega,by have:=r.un;rw [ae8];omega⟩
theorem Room.depth {k:Nat} {A:Around} (r:Room k A):A.depth<recursionLimit:=by have:=r.dp;omega
theorem Room.units {k:Nat} {A:Around} (r:Room k A):A.units+64<cLine:=by have:=r.un;omega
def y4:TA:=fun _ H Q=>Q [] H
def zY (ta:TE) (tr:TA):TA:=fun σ H Q=>ta σ H fun x H1=>tr σ H1 fun xs H2=>Q (x :: xs) H2
section
variable {X:Cx} {e:Expr} {es:List Expr} {te:TE} {t:TA} {pos:Pos}
theorem zb:PA X [] y4:=fun _ _ _ _ H Q I h=>Calls.spliced_nil ⟨[],H,I,.nil,h⟩
theorem za (ha:PE X e te) (hr:PA X es t) (hs:starEach (e :: es) X.env=(false,eval e X.env) :: starEach es X.env:=by rfl):PA X (e :: es) (zY te t):=by
 intro pos pins s σ H Q I h
 rw [hs]
 show wpAny _ _ (spliced ((false,eval e X.env) :: backTo pos (starEach es X.env))) _ _ s
 refine Calls.spliced_cons (thn (ha pins s σ H _ I h) fun u s1 ⟨x,H1,I1,r1,q1⟩=>?_)
 exact thn (hr pos pins s1 σ H1 _ I1 q1) fun us s2 ⟨xs,H2,I2,r2,q2⟩=>⟨x :: xs,H2,I2,.cons r1 r2,q2⟩
def aoa (t:TA):TE:=fun σ H Q=>t σ H fun xs H1=>xs.length<=sizeLine/\∀ p,H1 p=none->Q (.ref p) (upd H1 p (.tup xs))
def abR (t:TA):TE:=fun σ H Q=>t σ H fun xs H1=>xs.length<=sizeLine/\∀ p,H1 p=none->Q (.ref p) (upd H1 p (.lst xs))
theorem zE {x1} (h:PA X es t):PE X (.Tuple es x1 pos) (aoa t):=by
 intro pins s σ H Q I hq
 refine wpAny_Tuple_spliced (thn (h pos pins s σ H _ I hq) fun us s1 ⟨xs,H1,I1,r,z,q⟩=>⟨by rw [<-r.length];exact z,?_⟩)
 have hf:H1 s1.heap.objs.size=none:=I1.hok.fresh (ao6 _)
 refine⟨.ref s1.heap.objs.size,upd H1 s1.heap.objs.size (.tup xs),I1.laid (t':=s1.toks) (fun b u e=>ao2 _ e) (ao6 _) ?_,rfl,q _ hf⟩
 exact⟨z,us,r,⟨_,apA _ rfl,rfl,_,rfl⟩⟩
theorem z8 (h:PA X es t):PE X (.List es pos) (abR t):=by
 intro pins s σ H Q I hq
 refine wpAny_List_spliced (thn (h pos pins s σ H _ I hq) fun us s1 ⟨xs,H1,I1,r,z,q⟩=>⟨by rw [<-r.length];exact z,?_⟩)
 have hf:H1 s1.heap.objs.size=none:=I1.hok.fresh (ao6 _)
 refine⟨.ref s1.heap.objs.size,upd H1 s1.heap.objs.size (.lst xs),I1.laid (t':=s1.toks) (fun b u e=>ao2 _ e) (ao6 _) ?_,rfl,q _ hf⟩
 exact⟨z,us,0,r,apA _ rfl⟩
end
abbrev Sp:=List V->Hp->VK->XK->Prop
abbrev CXT:=List Env->Hp->Shared->XK->Value->Shared->Prop
structure Env0 (P:Program) (w:World) (K:aoZ) (mg:Str->Option Value) (base:Heap) (A:Around) (outer:List Env) (s:Shared) (H:Hp):Prop where
 frames:A.frames=some outer
 mod:Mod K mg base
 bs:∀ b o,base.get? b=some o->s.heap.get? b=some o/\H b=none
 bsz:base.objs.size<=s.heap.objs.size
 funs:s.heap.FunFrames base outer
 frf:∀ b∈frs outer,H b=none
 hok:HOk P w H s.heap
 bare:AllBare s.gens
def CE (outer:List Env) (P:Program) (w:World) (H:Hp) (s:Shared) (Q:VK) (u:Value) (s':Shared):Prop :=
 ∃ v H',s'.os=s.os/\AllBare s'.gens/\Un (frs outer) [] H H' s.heap s'.heap/\HOk P w H' s'.heap/\RelV v u/\Q v H'
def CR (CX:CXT) (outer:List Env) (P:Program) (w:World) (H:Hp) (s:Shared) (Q:VK) (E:XK) (r:Result) (s':Shared):Prop :=
 match r with
 | .ok (.ret u)=>CE outer P w H s Q u s'
 | .ok _=>False
 | .error e=>CX outer H s E e s'
structure FnOk (P:Program) (w:World) (K:aoZ) (mg:Str->Option Value) (base:Heap) (CX:CXT) (k:Nat) (f:Addr) (fd:FuncData) (ps:List Str) (sp:Sp):Prop where
 len:∀ vs H Q E,sp vs H Q E->vs.length=ps.length
 run:∀ (A:Around) (outer:List Env) (s:Shared) (H:Hp) (args:Args) (us:List Value) (vs:List V) (Q:VK) (E:XK),Room k A->Env0 P w K mg base A outer s H->BindsTo s fd args (ps.zip us)->Vals vs us->sp vs H Q E ->
  codeAny (model P w) A (.call (.ref f) args) (CR CX outer P w H s Q E) s
theorem FnOk.mono {P:Program} {w:World} {K:aoZ} {mg:Str->Option Value} {base:Heap} {CX:CXT} {j k:Nat} {f:Addr} {fd:FuncData} {ps:List Str} {sp:Sp} (F:FnOk P w K mg base CX j f fd ps sp) (h:j<=k) :
  FnOk P w K mg base CX k f fd ps sp:=⟨F.len,fun A outer s H args us vs Q E hr=>F.run A outer s H args us vs Q E (hr.mono h)⟩
theorem Env0.make {P:Program} {w:World} {K:aoZ} {mg:Str->Option Value} {base:Heap} {A:Around} {outer:List Env} {s:Shared} {H:Hp} (e:Env0 P w K mg base A outer s H) (C:Addr) (us:List Value) (kw:List (Str×Value)) :
  Env0 P w K mg base (A.under (.builtin "type.__call__" ⟨.ref C :: us,kw⟩)) outer s H:=⟨by first | exact e.frames | (simpa [as5,Code.envs,as6,pushEnvs] using e.frames),e.mod,e.bs,e.bsz,e.funs,e.frf,e.hok,e.bare⟩
section
variable {X:Cx} {pins:List (Addr×Obj)} {σ:St} {H:Hp} {s s':Shared}
theorem Inv.env0 (I:Inv X pins σ H s):Env0 X.prog X.w X.K X.mg X.base X.A X.stack s H :=
 ⟨I.ok.frames,I.ok.mod,I.bs,apm I.ok.bsz I.sz,I.stack,I.stkFree,I.hok,I.bare⟩
theorem Inv.after {Q:VK} {u:Value} (I:Inv X pins σ H s) (h:CE X.stack X.prog X.w H s Q u s'):EP X pins σ Q u s':=by
 obtain⟨v,H',os,bare,un,hok,r,q⟩:=h
 obtain⟨hh,g,d,t,os'⟩:=s'
 obtain rfl:os'=s.os:=os
 exact⟨v,H',I.call (h':=hh) (g':=g) (d':=d) (t':=t) (ch:=[]) un hok bare (fun b z=>absurd z (by simp)),r,q⟩
end
def vg (sp:Sp) (dvs:List V) (E:XK) (t:TA):TE:=fun σ H Q=>t σ H fun vs H1=>sp (vs++dvs) H1 Q E
def Binds (K:aoZ) (fd:FuncData) (ps:List Str) (ds:List Value):Prop :=
 ∀ (s:Shared) (us:List Value),K.In s.heap->(us++ds).length=ps.length->BindsTo s fd ⟨us,[]⟩ (ps.zip (us++ds))
theorem Binds.all {K:aoZ} {fd:FuncData} {ps:List Str} (h:∀ us:List Value,us.length=ps.length->bindArgs fd ⟨us,[]⟩=pure (ps.zip us)):Binds K fd ps []:=fun s us _ hl=>by
 rw [apB] at hl ⊢
 exact .of_eq (h us hl)
def Passes (CX:CXT) (X:Cx) (E:XK):Prop:=∀ (pins:List (Addr×Obj)) (σ:St) (H:Hp) (s:Shared) (e:Value) (s':Shared),Inv X pins σ H s->CX X.stack H s E e s'->X.xe e s'
section
variable {X:Cx} {CX:CXT} {k:Nat} {f C:Addr} {fd:FuncData} {ps:List Str} {sp:Sp} {dvs:List V} {ds:List Value} {E:XK} {x m:Str} {p pos apos:Pos} {e o:Expr} {es:List Expr} {ta:TE} {t:TA}
theorem amz {pins:List (Addr×Obj)} {σ:St} {H:Hp} {s:Shared} {Q:VK} {us:List Value} {vs:List V} (F:FnOk X.prog X.w X.K X.mg X.base CX k f fd ps sp) (hr:Room k X.A) (hb:Binds X.K fd ps ds) (hd:Vals dvs ds) (hx:Passes CX X E)
  (I:Inv X pins σ H s) (r:Vals vs us) (h:sp (vs++dvs) H Q E):wpAny (model X.prog X.w) X.A (call (.ref f) us) (EP X pins σ Q) X.xe s:=by
 have r2:Vals (vs++dvs) (us++ds):=r.append hd
 have hl:(us++ds).length=ps.length:=by rw [<-r2.length];exact F.len _ _ _ _ h
 refine wpAny_call (codeAny_mono (F.run X.A X.stack s H ⟨us,[]⟩ (us++ds) (vs++dvs) Q E hr I.env0 (hb s us I.kIn hl) r2 h) fun r s' hq=>?_)
 cases r with
 | error e=>exact hx pins σ H s e s' I hq
 | ok fl =>
  cases fl with
  | ret u=>exact I.after hq
  | next=>exact apF hq
  | brk=>exact apF hq
  | cont=>exact apF hq
theorem af1 (F:FnOk X.prog X.w X.K X.mg X.base CX k f fd ps sp) (hr:Room k X.A) (hg:Gl X x) (hm:X.mg x=some (.ref f)) (hk:apM X.K (.ref f)=true) (hb:Binds X.K fd ps ds) (hd:Vals dvs ds) (hx:Passes CX X E)
  (ha:PA X (e :: es) t) (hdb:(x == ("__debug__":Str))=false:=by decide) (he:starEach (e :: es) X.env=(false,eval e X.env) :: starEach es X.env:=by rfl) (hpl:(backTo pos (starEach es X.env)).any (·.1)=false:=by rfl) :
  PE X (.Call (.Name x p) (e :: es) [] pos) (vg sp dvs E t):=by
 intro pins s σ H Q I h
 refine wpAny_Call_Name_kw (jD I hg hm ?_ hdb)
 refine aqI (h₀:=X.base) I.ok.mod.kin hk (thn (ha pos pins s σ H _ I h) fun us s1 ⟨vs,H1,I1,r,q⟩=>⟨I1.kIn,?_⟩) he hpl
 exact amz F hr hb hd hx I1 r q
structure Mk (K:aoZ) (C f:Addr):Prop where
 makes:PySem.W.makesIn K C=true
 init:apR K (.ref C) "__init__"=some (some (.ref f))
 fn:asx K (.ref f)=true
 kp:apM K (.ref C)=true
end
section
variable {X:Cx} {CX:CXT} {k:Nat} {f C:Addr} {fd:FuncData} {ps ks:List Str} {sp:Sp} {E:XK} {x m:Str} {p pos apos kpos:Pos} {e o:Expr} {es:List Expr} {kws:List Keyword} {te ta:TE} {t tk:TA} {nm:Option Str}
structure KBinds (K:aoZ) (fd:FuncData) (ps ks:List Str) (g:List Value->List Value->List Value) (gV:List V->List V->List V):Prop where
 to:∀ (s:Shared) (us ws:List Value),K.In s.heap->(g us ws).length=ps.length->BindsTo s fd ⟨us,ks.zip ws⟩ (ps.zip (g us ws))
 rel:∀ {vs:List V} {us:List Value} {zs:List V} {ws:List Value},Vals vs us->Vals zs ws->Vals (gV vs zs) (g us ws)
variable {g:List Value->List Value->List Value} {gV:List V->List V->List V}
end
structure FnScope (N P:List Str) (sc:Scope):Prop where
 kind:sc.kind=.function
 co:sc.isCoroutine=false
 gen:sc.isGenerator=false
 nd:N.Nodup
 pre:N.take P.length=P
 par:∀ x∈P,sc.names.lookup x=some .local \/ sc.names.lookup x=some .cell
 nofree:∀ y∈sc.names,y.2≠.free
theorem aca {kindOf:Str->Option NameKind} {x:Str}:∀ {binds:List (Str×Value)} {m:Str->Option Value},(∀ v,(x,v)∉binds)->bindL kindOf binds m x=m x
 | [],_,_=>rfl
 | (n,v) :: r,m,h=>by
  unfold bindL
  rw [aca fun w hw=>h w (ao3 _ hw)]
  split
  ·have:x≠n:=by rintro rfl;exact h v apa
   simp [this]
  ·rfl
theorem acb {kindOf:Str->Option NameKind} {x:Str}:∀ {binds:List (Str×Value)} {m:Str->Option Value},(∀ v,(x,v)∉binds)->bindC kindOf binds m x=m x
 | [],_,_=>rfl
 | (n,v) :: r,m,h=>by
  unfold bindC
  rw [acb fun w hw=>h w (ao3 _ hw)]
  split
  ·rfl
  ·have:x≠n:=by rintro rfl;exact h v apa
   simp [this]
theorem acd {kindOf:Str->Option NameKind} {x:Str} {v:Value}:∀ {P:List Str} {vs:List Value} {i:Nat} {m:Str->Option Value},P.Nodup->P[i]?=some x->vs[i]?=some v->kindOf x=some .local ->
  bindL kindOf (P.zip vs) m x=some v
 | [],_,_,_,_,h,_,_=>by simp at h
 | _ :: _,[],_,_,_,_,h,_=>by simp at h
 | p :: P,w :: vs,0,m,nd,h1,h2,hk=>by
  simp at h1 h2;subst h1;subst h2
  show bindL kindOf ((p,w) :: P.zip vs) m p=_
  unfold bindL
  rw [aca fun v hv=>(apS.mp nd).1 (arK hv).1,if_pos hk]
  simp
 | p :: P,w :: vs,i+1,m,nd,h1,h2,hk=>by
  show bindL kindOf ((p,w) :: P.zip vs) m x=_
  unfold bindL
  exact acd (i:=i) (apS.mp nd).2 (by simpa using h1) (by simpa using h2) hk
theorem ace {kindOf:Str->Option NameKind} {x:Str} {v:Value}:∀ {P:List Str} {vs:List Value} {i:Nat} {m:Str->Option Value},P.Nodup->P[i]?=some x->vs[i]?=some v->kindOf x≠some .local ->
  bindC kindOf (P.zip vs) m x=some v
 | [],_,_,_,_,h,_,_=>by simp at h
 | _ :: _,[],_,_,_,_,h,_=>by simp at h
 | p :: P,w :: vs,0,m,nd,h1,h2,hk=>by
  simp at h1 h2;subst h1;subst h2
  show bindC kindOf ((p,w) :: P.zip vs) m p=_
  unfold bindC
  rw [acb fun v hv=>(apS.mp nd).1 (arK hv).1,if_neg hk]
  simp
 | p :: P,w :: vs,i+1,m,nd,h1,h2,hk=>by
  show bindC kindOf ((p,w) :: P.zip vs) m x=_
  unfold bindC
  exact ace (i:=i) (apS.mp nd).2 (by simpa using h1) (by simpa using h2) hk
def start (N:List Str) (vs:List V):St:=vs.map some++aqB (N.length - vs.length) none
def zI (CX:CXT) (P:Program) (w:World) (K:aoZ) (mg:Str->Option Value) (base:Heap) (N:List Str) (qual:Str) (scope:Scope) (f:Addr) (cd:Value) (A:Around) (outer:List Env) (s:Shared) (H:Hp) (E:XK):Cx where
 prog:=P
 w:=w
 K:=K
 mg:=mg
 base:=base
 A:=A.deeper (envOfC qual scope s.heap.objs.size f cd)
 N:=N
 s₀:=s
 H₀:=H
 env:=envOfC qual scope s.heap.objs.size f cd
 outer:=outer
 stack:=envOfC qual scope s.heap.objs.size f cd :: outer
 ex:=[]
 calm:=true
 fn:=fun _=>true
 pn:=[]
 xe:=fun e s'=>wpAny (model P w) (A.deeper (envOfC qual scope s.heap.objs.size f cd)) (leaving (envOfC qual scope s.heap.objs.size f cd) e) (fun _ s''=>CX outer H s E e s'') (fun e' s''=>CX outer H s E e' s'') s'
theorem adW {sc:Scope} {n:Nat} {x:Str} (h:sc.names.lookup x=some .cell):∃ c,(cellsFrom n sc.names []).lookup x=some c:=by
 have q:=aqn sc.names n [] (.inl h)
 exact aqi.mp q
theorem acf {CX:CXT} {P:Program} {w:World} {K:aoZ} {mg:Str->Option Value} {base:Heap} {N ps:List Str} {qual:Str} {scope:Scope} {f:Addr} {cd:Value} {A:Around} {outer:List Env} {s s1:Shared} {H:Hp} {E:XK} {us:List Value} {vs:List V}
  (S:FnScope N ps scope) (hd:A.handled=none) (e0:Env0 P w K mg base A outer s H) (hl:vs.length=ps.length) (r:Vals vs us)
  (x:InCallC s s.heap.objs.size (bindL (envOfC qual scope s.heap.objs.size f cd).kindOf (ps.zip us) fun _=>none) (cellsFrom (s.heap.objs.size+1) scope.names []) (bindC (envOfC qual scope s.heap.objs.size f cd).kindOf (ps.zip us) fun _=>none) s1) :
  Inv (zI CX P w K mg base N qual scope f cd A outer s H E) [] (start N vs) H s1:=by
 have hpl:ps.length<=N.length:=by have:=congrArg List.length S.pre;rw [apK] at this;omega
 obtain⟨h1,tk,rfl,hk⟩:=x.done
 have noA:∀ b:Addr,b∉(zI CX P w K mg base N qual scope f cd A outer s H E).ex:=fun b z=>absurd (show b∈([]:List Addr) from z) (by simp)
 refine⟨⟨e0.mod,S.kind,rfl,rfl,ao6 _,fun y z c h1 h2=>?_,fun y hy=>?_,fun y c _ h=>?_,fun _=>hd,asJ e0.frames,.inr ⟨rfl,rfl⟩,fun b z=>absurd z (noA b),e0.bs,e0.bsz,fun b _ _=>noA b,fun b z=>absurd z (noA b),e0.funs,e0.frf⟩,
  rfl,e0.bare,Un.kept hk,⟨_,x.toInCall.ns,fun i y v h1 h2 h3=>?_⟩,fun y c h=>⟨_,x.cell y c h⟩,e0.hok.fresh (ao6 _),fun y c h=>?_,fun p hp=>absurd (show p∈([]:List (Addr×Obj)) from hp) (by simp),e0.hok.kept hk,?_⟩
 ·exact name_of_addr x.apart (aqy h1) (aqy h2)
 ·have hy:scope.names.lookup y=some .cell \/ scope.names.lookup y=some .free:=hy
  rcases hy with hy | hy
  ·exact adW hy
  ·exact absurd rfl (S.nofree _ (aqy hy))
 ·exact ap1 (x.above y c (aqy h))
 ·have hi:i<vs.length:=by
   unfold start at h2
   by_cases hi:i<vs.length
   ·exact hi
   ·rw [apd (by simpa using hi)] at h2
    rw [aqC] at h2
    split at h2 <;> cases h2
  have ha:vs[i]?=some v:=by
   unfold start at h2
   rw [ao9 (by simpa using hi),ao5] at h2
   cases e:vs[i]? with
   | none=>rw [e] at h2;cases h2
   | some a=>rw [e] at h2;cases h2;rfl
  obtain⟨u,hu,rv⟩:=r.get ha
  have hp:ps[i]?=some y:=by
   rw [<-S.pre,aq7 (by omega)];exact h1
  have ndP:ps.Nodup:=by rw [<-S.pre];exact S.nd.sublist (List.take_sublist _ _)
  refine⟨u,rv,?_⟩
  rcases S.par y (ao4 hp) with k | k
  ·exact .inl ⟨k,acd ndP hp hu k⟩
  ·obtain⟨c,e⟩:=adW (n:=s.heap.objs.size+1) k
   refine .inr ⟨.inl k,c,e,?_⟩
   have q:=x.cell y c e
   rw [ace ndP hp hu (by show scope.names.lookup y≠_;rw [k];decide)] at q
   exact q
 ·exact e0.hok.fresh (ap1 (x.above y c (aqy h)))
 ·unfold start
  show _=N.length
  rw [api,aoX,arx]
  omega
theorem alT {CX:CXT} {P:Program} {w:World} {K:aoZ} {mg:Str->Option Value} {base:Heap} {k:Nat} {f:Addr} {name qual:Str} {params:Arguments} {body:List Stmt} {scope:Scope} {dV kV doc pm cdv ct oc:Value} {an od:Option Addr}
  {osl:Array (Option Value)} {N ps:List Str} {sp:Sp} (lk:K.lookup f=some ⟨oc,od,.func (aqb name qual params body scope dV kV doc pm an cdv ct),osl⟩) (hcd:aqU K cdv qual=true) (S:FnScope N ps scope)
  (len:∀ vs H Q E,sp vs H Q E->vs.length=ps.length)
  (hbody:∀ (A:Around) (outer:List Env) (s:Shared) (H:Hp) (vs:List V) (Q:VK) (E:XK),Room k (A.deeper (envOfC qual scope s.heap.objs.size f cdv))->sp vs H Q E ->
   ∃ t,PSs (zI CX P w K mg base N qual scope f cdv A outer s H E) body t/\t { nx:=fun _ H'=>Q .non H',rt:=Q } (start N vs) H) :
  FnOk P w K mg base CX (k+1) f (aqb name qual params body scope dV kV doc pm an cdv ct) ps sp:=by
 refine⟨len,fun A outer s H args us vs Q E hr e0 hb r hsp=>?_⟩
 have hl:=len _ _ _ _ hsp
 have KX:K.In s.heap:=e0.mod.kin.keeps fun b o e=>(e0.bs b o e).1
 have lim:s.heap.NoLimit:=e0.mod.nolimit.keeps fun b o e=>(e0.bs b o e).1
 have hkind:∀ y∈ps.zip us,scope.names.lookup y.1=some .local \/ (scope.names.lookup y.1=some .cell/\((cellsFrom (s.heap.objs.size+1) scope.names []).lookup y.1).isSome=true):=fun⟨n,v⟩ hy=>by
  rcases S.par n (arK hy).1 with q | q
  ·exact .inl q
  ·exact .inr ⟨q,aqn _ _ _ (.inl q)⟩
 refine codeAny_call_function hr.depth (KX _ _ lk) rfl S.co S.gen rfl (PySem.W.codeRec_of KX hcd) (hb _ _ _ _ ?_)
 refine wpAny_newFunctionEnv_cells S.kind hkind fun env he s1 x=>?_
 subst he
 refine⟨lim.keeps x.toInCall.keep,codeAny_func ?_⟩
 obtain⟨t,ht,hq⟩:=hbody A outer s H vs Q E (hr.deeper _) hsp
 have I:Inv (zI CX P w K mg base N qual scope f cdv A outer s H E) [] (start N vs) H s1:=acf S hr.hd e0 hl r x
 refine wpAny_mono (ht [] s1 (start N vs) H _ I hq) (fun fl s' hs=>?_) fun e s' hs=>hs
 have fin:∀ {σ':St} {H':Hp} {v:V} {u:Value},Inv (zI CX P w K mg base N qual scope f cdv A outer s H E) [] σ' H' s'->RelV v u->Q v H'->CE outer P w H s Q u s' :=
  fun {σ' H' v u} J rv q=>⟨v,H',J.os,J.bare,J.base,J.hok,rv,q⟩
 cases fl with
 | ret u =>
  obtain⟨v,σ',H',J,rv,q⟩:=hs
  exact fin J rv q
 | next =>
  obtain⟨σ',H',J,q⟩:=hs
  exact fin (v:=V.non) (u:=Value.none) J rfl q
 | brk =>
  obtain⟨_,_,_,q⟩:=hs
  exact apF q
 | cont =>
  obtain⟨_,_,_,q⟩:=hs
  exact apF q
section
variable {X:Cx} {x:Str} {p pos:Pos} {e:Expr} {es:List Expr} {t:TA} {id T:String} {r:List V->Hp->VK->Prop}
def tCB (r:List V->Hp->VK->Prop) (t:TA):TE:=fun σ H Q=>t σ H fun vs H1=>r vs H1 Q
theorem zu (hc:yo X (.builtin id) r) (hg:Gl X x) (hm:X.mg x=none) (hv:bootBuiltins x=some (.builtin id)) (ha:PA X (e :: es) t) (hn:x ≠ "__name__":=by decide) (hdb:(x == ("__debug__":Str))=false:=by decide)
  (he:starEach (e :: es) X.env=(false,eval e X.env) :: starEach es X.env:=by rfl) (hpl:(backTo pos (starEach es X.env)).any (·.1)=false:=by rfl):PE X (.Call (.Name x p) (e :: es) [] pos) (tCB r t):=by
 intro pins s σ H Q I h
 refine wpAny_Call_Name_kw (aak I hg hm hv ?_ hn hdb)
 exact arC (thn (ha pos pins s σ H _ I h) fun us s1 ⟨vs,H1,I1,r1,q1⟩=>hc pins s1 σ H1 vs us Q I1 r1 q1) he hpl
theorem jr (hc:yo X (.type T) r) (hg:Gl X x) (hm:X.mg x=none) (hv:bootBuiltins x=some (.type T)) (ha:PA X (e :: es) t) (hn:x ≠ "__name__":=by decide) (hdb:(x == ("__debug__":Str))=false:=by decide)
  (he:starEach (e :: es) X.env=(false,eval e X.env) :: starEach es X.env:=by rfl) (hpl:(backTo pos (starEach es X.env)).any (·.1)=false:=by rfl):PE X (.Call (.Name x p) (e :: es) [] pos) (tCB r t):=by
 intro pins s σ H Q I h
 refine wpAny_Call_Name_kw (aak I hg hm hv ?_ hn hdb)
 exact aqN (thn (ha pos pins s σ H _ I h) fun us s1 ⟨vs,H1,I1,r1,q1⟩=>hc pins s1 σ H1 vs us Q I1 r1 q1) he hpl
theorem ae9 (hc:yo X (.type T) r) (hg:Gl X x) (hm:X.mg x=none) (hv:bootBuiltins x=some (.type T)) (hn:x ≠ "__name__":=by decide) (hdb:(x == ("__debug__":Str))=false:=by decide) :
  PE X (.Call (.Name x p) [] [] pos) (tCB r y4):=by
 intro pins s σ H Q I h
 refine wpAny_Call_Name_kw (aak I hg hm hv ?_ hn hdb)
 exact PyProof.Rows.callWith_type0 (hc pins s σ H [] [] Q I .nil h)
end
end L2
namespace HT
open PySem PyProof.Rows
theorem rcLt_int (A:Around) (s:Shared) (a:Int) (t:Tok) (c:Int) (u:Tok) (prog:Program) (w:World) (E:Value->Shared->Prop) (Q:Value->Shared->Prop) (h:Q (.bool (decide (a<c))) s) :
  wpAny (model prog w) A (richCompare .Lt (.int a t) (.int c u)) Q E s :=
 (PyProof.Rows.lt_int h:wpAny (model prog w) A (compareOp .Lt (.int a t) (.int c u)) Q E s)
section
open PySem.SeqAt
open PySem.AutoSeq1 (wpAny_loadPart')
open PySem.MeetsSeq PySem.MeetsSeq2 PySem.MeetsSeq3
end
section
variable {prog:Program} {w:World} {A:Around} {E:Value->Shared->Prop} {s:Shared}
def sIx (n d:Nat):Option Int->Nat
 | none=>d
 | some v=>if v<0 then (v+(n:Int)).toNat else min v.toNat n
theorem sIx_none (n d:Nat):sIx n d none=d:=rfl
end
end HT
namespace L2
open PySem PySem.Spec PyProof.Rows
abbrev TO:=St->Hp->(Option Int->Hp->Prop)->Prop
def PO (X:Cx) (e:Option Expr) (t:TO):Prop :=
 ∀ (pins:List (Addr×Obj)) (s:Shared) (σ:St) (H:Hp) (Q:Option Int->Hp->Prop),Inv X pins σ H s->t σ H Q ->
  wpAny (model X.prog X.w) X.A (evalPart e X.env) (fun u s'=>∃ o H',Inv X pins σ H' s'/\IsPart u o/\Q o H') X.xe s
def af2:TO:=fun _ H Q=>Q none H
def alU (t:TE):TO:=fun σ H Q=>t σ H fun x H1=>∃ i,x=.int i/\Q (some i) H1
theorem intsAre_of {ns:List Int}:∀ {us:List Value},Vals (ns.map V.int) us->IntsAre us ns:=by
 induction ns with
 | nil=>intro us r;rw [arT] at r;cases r;exact .nil
 | cons n ns ih =>
  intro us r
  rw [apq] at r
  cases r with
  | cons r1 r2 =>
   obtain⟨t,e⟩:=r1
   subst e
   exact .cons n t (ih r2)
section
variable {X:Cx} {e:Expr} {te:TE} {lo hi:Option Expr} {tl th:TO} {pos p2:Pos}
theorem akw:PO X none af2:=by
 intro pins s σ H Q I h
 rw [evalPart_none]
 exact wpAny_pure ⟨none,H,I,.none,h⟩
theorem akx (h:PE X e te):PO X (some e) (alU te):=by
 intro pins s σ H Q I hw
 rw [evalPart_some]
 refine thn (h pins s σ H _ I hw) fun u s1 ⟨x,H1,I1,r1,q1⟩=>?_
 obtain⟨i,rfl,q⟩:=q1
 obtain⟨t,rfl⟩:=r1
 exact⟨some i,H1,I1,.int i t,q⟩
def SlR (X:Cx) (r:V->Option Int->Option Int->Hp->VK->Prop):Prop :=
 ∀ (pins:List (Addr×Obj)) (s:Shared) (σ:St) (H:Hp) (x:V) (v vl vu:Value) (lo hi:Option Int) (sl:Addr) (Q:VK),Inv X pins σ H s->RelV x v->s.heap.IsSliceOf sl vl vu .none->IsPart vl lo->IsPart vu hi->r x lo hi H Q ->
  ∃ T id,typeLookup (.type T) "__getitem__"=pure (some (.builtin id))/\s.TypeIs v T/\wpAny (model X.prog X.w) X.A (getItem v (.ref sl)) (EP X pins σ Q) X.xe s
def tSl (r:V->Option Int->Option Int->Hp->VK->Prop) (te:TE) (tl th:TO):TE:=fun σ H Q=>te σ H fun x H1=>tl σ H1 fun l H2=>th σ H2 fun u H3=>r x l u H3 Q
theorem aio {r:V->Option Int->Option Int->Hp->VK->Prop} (hr:SlR X r) (he:PE X e te) (hl:PO X lo tl) (hu:PO X hi th):PE X (.Subscript e (.Slice lo hi none p2) pos) (tSl r te tl th):=by
 intro pins s σ H Q I h
 refine Subscript_ (thn (he pins s σ H _ I h) fun v s1 ⟨x,H1,I1,r1,q1⟩=>?_)
 refine wpAny_Slice (thn (hl pins s1 σ H1 _ I1 q1) fun vl s2 ⟨l,H2,I2,pl,q2⟩=>thn (hu pins s2 σ H2 _ I2 q2) fun vu s3 ⟨u,H3,I3,pu,q3⟩=>?_)
 rw [evalPart_none]
 refine wpAny_pure ?_
 have I4:Inv X pins σ H3 { s3 with heap:=s3.heap.push { cls:=.type "slice",data:=.fields #[vl,vu,.none] } }:=I3.kept (t':=s3.toks) fun b ob q=>ao2 _ q
 obtain⟨T,id,hT,ht,hg⟩:=hr pins { s3 with heap:=s3.heap.push { cls:=.type "slice",data:=.fields #[vl,vu,.none] } } σ H3 x v vl vu l u s3.heap.objs.size Q I4 r1 (Heap.IsSliceOf.new ..) pl pu q3
 show wpAny (model X.prog X.w) X.A (subscriptTail e (.Slice lo hi none p2) v (.ref s3.heap.objs.size)) (EP X pins σ Q) X.xe { s3 with heap:=s3.heap.push { cls:=.type "slice",data:=.fields #[vl,vu,.none] } }
 exact tail_any (ops:=[.ref s3.heap.objs.size,v]) ht hT hg (by with_unfolding_all rfl)
def afa (xs:List V) (lo hi:Option Int):List V:=(xs.drop (HT.sIx xs.length 0 lo)).take (HT.sIx xs.length xs.length hi - HT.sIx xs.length 0 lo)
theorem adX (xs:List V) (lo hi:Option Int):(afa xs lo hi).length<=xs.length:=by
 unfold afa
 rw [apK,aso]
 omega
end
def ixN (n:Nat) (i:Int):Option Nat:=if 0<=i then (if i<n then some i.toNat else none) else if -(n:Int)<=i then some (i+n).toNat else none
def atI {α:Type} (xs:List α) (i:Int):Option α:=(ixN xs.length i).bind fun j=>xs[j]?
theorem af3 {n:Nat} {i:Int} {j:Nat} (h:ixN n i=some j):seqIndex? i n=some j/\j<n/\-(n:Int)<=i/\i<n:=by
 unfold ixN at h
 by_cases h0:0<=i
 ·rw [if_pos h0] at h
  by_cases h1:i<n
  ·rw [if_pos h1] at h
   have e:i.toNat=j:=Option.some.inj h
   exact⟨by rw [seqIndex_of h0 h1,e],by omega,by omega,h1⟩
  ·rw [if_neg h1] at h;cases h
 ·rw [if_neg h0] at h
  by_cases h1:-(n:Int)<=i
  ·rw [if_pos h1] at h
   have e:(i+n).toNat=j:=Option.some.inj h
   exact⟨by rw [seqIndex_neg (by omega) h1,e],by omega,h1,by omega⟩
  ·rw [if_neg h1] at h;cases h
theorem af4 {α:Type} {xs:List α} {i:Int} {v:α} (h:atI xs i=some v):∃ j,seqIndex? i xs.length=some j/\xs[j]?=some v/\j<xs.length/\-(xs.length:Int)<=i/\i<xs.length:=by
 unfold atI at h
 cases e:ixN xs.length i with
 | none=>rw [e] at h;cases h
 | some j =>
  rw [e] at h
  obtain⟨h1,h2,h3,h4⟩:=af3 e
  exact⟨j,h1,h,h2,h3,h4⟩
theorem yK {α:Type} {xs:List α} {j:Nat} {v:α} (h:xs[j]?=some v):atI xs (j:Int)=some v:=by
 have hj:j<xs.length:=(ao1.mp h).1
 have e:ixN xs.length (j:Int)=some j:=by
  unfold ixN
  rw [if_pos (by omega),if_pos (by omega)];simp
 unfold atI;rw [e];exact h
def af5 (b:Expr):Prop:=∀ o i,subscripted b false o i=operate [o,i] (getItem o i)
def IxR (X:Cx) (r:R2):Prop :=
 ∀ (value slice:Expr) (pins:List (Addr×Obj)) (s:Shared) (σ:St) (H:Hp) (x y:V) (v u:Value) (Q:VK),Inv X pins σ H s->RelV x v->RelV y u->r x y H Q ->
  subscripted slice false v u=operate [v,u] (getItem v u)->wpAny (model X.prog X.w) X.A (subscriptTail value slice v u) (EP X pins σ Q) X.xe s
def MtR (X:Cx) (id:String) (r:V->List V->Hp->VK->Prop):Prop :=
 ∀ (pins:List (Addr×Obj)) (s:Shared) (σ:St) (H:Hp) (x:V) (xs:List V) (v:Value) (us:List Value) (Q:VK),Inv X pins σ H s->RelV x v->Vals xs us->r x xs H Q ->
  wpAny (model X.prog X.w) X.A (call (.builtin id) (v :: us)) (EP X pins σ Q) X.xe s
section
variable {X:Cx} {a b:Expr} {ta tb:TE} {pos:Pos}
theorem zP {r:R2} (hr:IxR X r) (ha:PE X a ta) (hb:PE X b tb) (hs:af5 b):PE X (.Subscript a b pos) (tOp r ta tb):=by
 intro pins s σ H Q I h
 exact Subscript_ (amv ha hb I h fun v u s2 x y H2 I2 rx ry q=>hr a b pins s2 σ H2 x y v u Q I2 rx ry q (hs _ _))
def vH (K:aoZ):R2:=fun x y H Q=>∃ p xs i v,x=.ref p/\y=.int i/\SqL K H p xs/\atI xs i=some v/\Q v H
def amA (K:aoZ):R2:=fun x y H Q=>∃ p xs i v,x=.ref p/\y=.int i/\SqT K H p xs/\atI xs i=some v/\Q v H
theorem aky:IxR X (vH X.K):=by
 intro value slice pins s σ H x y v u Q I rx ry h hs
 obtain⟨p,xs,i,z,rfl,rfl,hq,he,q⟩:=h
 cases rx
 obtain⟨t,rfl⟩:=ry
 obtain⟨its,r,pl,hz⟩:=I.list hq
 obtain⟨j,h1,h2,h3,h4,h5⟩:=af4 he
 obtain⟨w,ew,rw'⟩:=r.get h2
 have hl:=r.length
 have hn:=abg
 have fin:EP X pins σ Q w s:=⟨z,H,I,rw',q⟩
 by_cases h0:0<=i
 ·have hj:i.toNat=j:=by
   rw [seqIndex_of h0 h5] at h1
   exact Option.some.inj h1
  exact item_listR pl.isList h0 (by omega) (by rw [hj];simpa using ew) fin hs
 ·have hj:(i+(its.toArray.size:Int)).toNat=j:=by
   rw [seqIndex_neg (by omega) h4] at h1
   rw [ape,<- hl]
   exact Option.some.inj h1
  exact subscriptTail_builtinR (x:=w) pl.isList.typeIs slot_list_getitem.lookup
   (wpAny_getItem_list_neg (Q:=fun r s'=>r=w/\EP X pins σ Q r s') pl.isList (by omega) (by rw [ape] <;> omega) (by omega) (by rw [hj];simpa using ew) ⟨rfl,fin⟩) hs
theorem amB:IxR X (amA X.K):=by
 intro value slice pins s σ H x y v u Q I rx ry h hs
 obtain⟨p,xs,i,z,rfl,rfl,hq,he,q⟩:=h
 cases rx
 obtain⟨t,rfl⟩:=ry
 obtain⟨its,r,pl,hz⟩:=I.tuple hq
 obtain⟨j,h1,h2,h3,h4,h5⟩:=af4 he
 obtain⟨w,ew,rw'⟩:=r.get h2
 have hl:=r.length
 have hn:=abg
 have fin:EP X pins σ Q w s:=⟨z,H,I,rw',q⟩
 exact subscriptTail_builtinR (x:=w) pl.typeIs slot_tuple_getitem.lookup
  (getItem_tuple (j:=j) (Q:=fun r s'=>r=w/\EP X pins σ Q r s') pl (by omega) (by omega) (by rw [ape,<- hl];exact h1) (by simpa using ew) ⟨rfl,fin⟩) hs
theorem afb (its:List Value) (n j:Nat) (u:Value):aqV (·.setIfInBounds j u) { cls:=.type "list",data:=.seq its.toArray n }={ cls:=.type "list",data:=.seq (its.set j u).toArray n }:=by
 simp [aqV]
theorem Inv.lst {pins:List (Addr×Obj)} {σ:St} {H:Hp} {s:Shared} {p:Addr} {xs:List V} (I:Inv X pins σ H s) (h:H p=some (.lst xs)) :
  ∃ (its:List Value) (n:Nat),Vals xs its/\s.heap.get? p=some { cls:=.type "list",data:=.seq its.toArray n }/\xs.length<=sizeLine:=by
 obtain⟨z,its,n,r,e⟩:=I.hok p _ h
 exact⟨its,n,r,e,z⟩
theorem Inv.lstUpd {pins:List (Addr×Obj)} {σ:St} {H:Hp} {s:Shared} {p:Addr} {xs ys:List V} {its its':List Value} {n n':Nat} {f:Obj->Obj} (I:Inv X pins σ H s) (h:H p=some (.lst xs))
  (ho:s.heap.get? p=some { cls:=.type "list",data:=.seq its.toArray n }) (hf:f { cls:=.type "list",data:=.seq its.toArray n }={ cls:=.type "list",data:=.seq its'.toArray n' }) (r:Vals ys its') (hz:ys.length<=sizeLine) (t:Nat) :
  Inv X pins σ (upd H p (.lst ys)) { s with heap:=s.heap.update p f,toks:=t }:=by
 have e:(s.heap.update p f).get? p=some { cls:=.type "list",data:=.seq its'.toArray n' }:=by
  rw [ap6 f ho (by rw [hf] <;> rfl),hf]
 refine I.write (x:=p) (e:=p) (by rw [h];trivial) (.inl rfl) (fun b u hb q=>(apx _ _ (apT hb)).trans q) ⟨_,e⟩ ?_
 exact⟨hz,its',n',r,e⟩
def aaD:V->V->V->Hp->(Hp->Prop)->Prop:=fun o i v H Q=>∃ p xs k j,o=.ref p/\i=.int k/\H p=some (.lst xs)/\ixN xs.length k=some j/\Q (upd H p (.lst (xs.set j v)))
theorem set_list:akr X aaD:=by
 intro pins s σ H o i v ov iv u Q I ro ri rv h
 obtain⟨p,xs,k,j,rfl,rfl,hp,hj,q⟩:=h
 cases ro
 obtain⟨t,rfl⟩:=ri
 obtain⟨its,n,r,ho,hz⟩:=I.lst hp
 obtain⟨h1,h2,h3,h4⟩:=af3 hj
 have hl:=r.length
 have hn:=abg
 have I':Inv X pins σ (upd H p (.lst (xs.set j v))) { s with heap:=s.heap.update p (aqV (·.setIfInBounds j u)) } :=
  I.lstUpd hp ho (afb its n j u) (r.set rv j) (by rw [apP];exact hz) s.toks
 by_cases h0:0<=k
 ·have hk:k.toNat=j:=by
   rw [seqIndex_of h0 h4] at h1
   exact Option.some.inj h1
  exact PySem.W.ki_setAt ho h0 (by omega) (by rw [ape,<- hl];exact h4) (by rw [hk];exact⟨_,I',q⟩)
 ·have hk:(k+(its.toArray.size:Int)).toNat=j:=by
   rw [seqIndex_neg (by omega) h3] at h1
   rw [ape,<- hl]
   exact Option.some.inj h1
  exact PySem.W.ki_setBack ho (by omega) (by rw [ape,<- hl];exact h3) (by omega) (by rw [hk];exact⟨_,I',q⟩)
theorem acS (lo hi:Option Int) (n:Nat):(sliceBounds lo hi none n).1=((HT.sIx n 0 lo:Nat):Int)/\(sliceBounds lo hi none n).2.1=((HT.sIx n n hi:Nat):Int)/\(sliceBounds lo hi none n).2.2=1:=by
 refine⟨?_,?_,rfl⟩
 ·cases lo with
  | none=>simp [sliceBounds,HT.sIx]
  | some i =>
   simp only [sliceBounds,HT.sIx,Option.getD_none,show (1:Int) > 0 by decide,if_true]
   by_cases h:i<0
   ·simp only [h,if_true] <;> omega
   ·simp only [h,if_false] <;> omega
 ·cases hi with
  | none=>simp [sliceBounds,HT.sIx]
  | some i =>
   simp only [sliceBounds,HT.sIx,Option.getD_none,show (1:Int) > 0 by decide,if_true]
   by_cases h:i<0
   ·simp only [h,if_true] <;> omega
   ·simp only [h,if_false] <;> omega
theorem abS (its:List Value) (lo hi:Option Int):slicePick its.toArray lo hi none=((its.drop (HT.sIx its.length 0 lo)).take (HT.sIx its.length its.length hi - HT.sIx its.length 0 lo)).toArray:=by
 obtain⟨h1,h2,h3⟩:=acS lo hi its.toArray.size
 unfold slicePick
 rw [h1,h2,h3]
 simp only [sliceRange_one,pick_run,ape] <;> rfl
def akz (K:aoZ):V->Option Int->Option Int->Hp->VK->Prop:=fun x lo hi H Q=>∃ a xs,x=.ref a/\SqL K H a xs/\∀ p,H p=none->Q (.ref p) (upd H p (.lst (afa xs lo hi)))
theorem akA:SlR X (akz X.K):=by
 intro pins s σ H x v vl vu lo hi sl Q I rx hs pl pu h
 obtain⟨a,xs,rfl,hx,q⟩:=h
 cases rx
 obtain⟨its,r,ht,hz⟩:=I.list hx
 have hlen:=r.length
 refine⟨"list",_,slot_list_getitem.lookup,ht.isList.typeIs,?_⟩
 refine wpAny_getItem_list_slice ht.isList hs pl pu .none (by simp) ?_ (by rw [ape] <;> omega)
 rw [abS,<- hlen]
 refine⟨.ref s.heap.objs.size,_,I.laid (t':=s.toks) (o:=.lst (afa xs lo hi)) (fun b ob q=>ao2 _ q) (ao6 _) ?_,rfl,q _ (I.hok.fresh (ao6 _))⟩
 exact⟨apm (adX xs lo hi) hz,_,0,(r.drop (HT.sIx xs.length 0 lo)).take (HT.sIx xs.length xs.length hi - HT.sIx xs.length 0 lo),apA _ rfl⟩
def aaE:V->Bool
 | .non=>true
 | .bl _=>true
 | .int _=>true
 | .str _=>true
 | _=>false
def eqV:V->V->Bool
 | .non,.non=>true
 | .bl a,.bl b=>a == b
 | .bl a,.int b=>(if a then 1 else 0) == b
 | .int a,.bl b=>a == (if b then 1 else 0)
 | .int a,.int b=>a == b
 | .str a,.str b=>a == b
 | _,_=>false
theorem amC {A:Around} {s:Shared} {y x:V} {u v:Value} (ry:RelV y u) (rx:RelV x v) (fy:aaE y=true) (fx:aaE x=true):SeqAt.EqAt A s u v (eqV y x):=by
 cases y with
 | non =>
  cases ry
  cases x with
  | non=>cases rx;exact SeqAt.EqAt.same _
  | bl b=>cases rx;exact SeqAt.EqAt.none_bool b
  | int b=>obtain⟨t,rfl⟩:=rx;exact SeqAt.EqAt.none_int b t
  | str b=>obtain⟨t,rfl⟩:=rx;exact SeqAt.EqAt.none_str b t
  | _=>exact absurd (show false=true from fx) aoY
 | bl a =>
  cases ry
  cases x with
  | non=>cases rx;exact SeqAt.EqAt.bool_none a
  | bl b=>cases rx;exact SeqAt.EqAt.bool_bool a b
  | int b=>obtain⟨t,rfl⟩:=rx;exact SeqAt.EqAt.bool_int a b t
  | str b=>obtain⟨t,rfl⟩:=rx;exact SeqAt.EqAt.bool_str a b t
  | _=>exact absurd (show false=true from fx) aoY
 | int a =>
  obtain⟨t',rfl⟩:=ry
  cases x with
  | non=>cases rx;exact SeqAt.EqAt.int_none a t'
  | bl b=>cases rx;exact SeqAt.EqAt.int_bool a t' b
  | int b=>obtain⟨t,rfl⟩:=rx;exact SeqAt.EqAt.int_int a t' b t
  | str b=>obtain⟨t,rfl⟩:=rx;exact SeqAt.EqAt.int_str a t' b t
  | _=>exact absurd (show false=true from fx) aoY
 | str a =>
  obtain⟨t',rfl⟩:=ry
  cases x with
  | non=>cases rx;exact SeqAt.EqAt.str_none a t'
  | bl b=>cases rx;exact SeqAt.EqAt.str_bool a t' b
  | int b=>obtain⟨t,rfl⟩:=rx;exact SeqAt.EqAt.str_int a t' b t
  | str b=>obtain⟨t,rfl⟩:=rx;exact SeqAt.EqAt.str_str a t' b t
  | _=>exact absurd (show false=true from fx) aoY
 | _=>exact absurd (show false=true from fy) aoY
def eqU (x:V) (u:Value):Bool:=match u with
 | .none=>eqV .non x
 | .bool b=>eqV (.bl b) x
 | .int i _=>eqV (.int i) x
 | .str z _=>eqV (.str z) x
 | _=>false
theorem aip {x y:V} {u:Value} (r:RelV y u) (f:aaE y=true):eqU x u=eqV y x:=by
 cases y with
 | non=>cases r;rfl
 | bl b=>cases r;rfl
 | int i=>obtain⟨t,rfl⟩:=r;rfl
 | str z=>obtain⟨t,rfl⟩:=r;rfl
 | _=>exact absurd (show false=true from f) aoY
theorem acT {x:V}:∀ {xs:List V} {us:List Value},Vals xs us->xs.all aaE=true->us.any (eqU x)=xs.any fun y=>eqV y x
 | _,_,.nil,_=>rfl
 | y :: xs,u :: us,.cons r t,f=>by
  rw [as1,ao8] at f
  rw [List.any_cons,List.any_cons,aip r f.1,acT t f.2]
theorem abh {A:Around} {s:Shared} {x:V} {v:Value} (rx:RelV x v) (fx:aaE x=true):∀ {xs:List V} {us:List Value},Vals xs us->xs.all aaE=true->∀ u∈us,SeqAt.EqAt A s u v (eqU x u)
 | _,_,.nil,_=>fun u hu=>by cases hu
 | y :: xs,u :: us,.cons r t,f=>fun u' hu=>by
  rw [as1,ao8] at f
  rcases ao7.mp hu with rfl | hu
  ·rw [aip r f.1];exact amC r rx f.1 fx
  ·exact abh rx fx t f.2 u' hu
def inV (x:V) (xs:List V):Bool:=xs.any fun y=>eqV y x
def rIn (K:aoZ) (neg:Bool):R2:=fun x y H Q=>∃ p xs,y=.ref p/\(SqL K H p xs \/ SqT K H p xs)/\aaE x=true/\xs.all aaE=true/\Q (.bl (if neg then !inV x xs else inV x xs)) H
theorem acU:OpR X (compareOp .NotIn) (rIn X.K true):=by
 intro pins s σ H x y v u Q I rx ry h
 obtain⟨p,xs,rfl,hq,fx,fs,q⟩:=h
 cases ry
 rcases hq with hq | hq
 ·obtain⟨its,r,pl,hz⟩:=I.list hq
  refine SeqAt.notIn_listAt (eqU x) pl.isList (fun w hw=>abh rx fx r fs w (by simpa using hw)) ⟨.bl _,H,I,rfl,?_⟩
  rw [show its.toArray.any (eqU x)=its.any (eqU x) by simp,acT r fs]
  exact q
 ·obtain⟨its,r,pl,hz⟩:=I.tuple hq
  refine SeqAt.notIn_tupleAt (eqU x) pl (fun w hw=>abh rx fx r fs w (by simpa using hw)) ⟨.bl _,H,I,rfl,?_⟩
  rw [show its.toArray.any (eqU x)=its.any (eqU x) by simp,acT r fs]
  exact q
theorem acV:yo X (.builtin "len") (fun xs H Q=>∃ p ys,xs=[.ref p]/\(SqL X.K H p ys \/ SqT X.K H p ys)/\Q (.int ys.length) H):=by
 intro pins s σ H xs us Q I r h
 obtain⟨p,ys,rfl,hq,q⟩:=h
 obtain⟨u,rfl,rx⟩:=vals1 r
 cases rx
 have hn:=abg
 rcases hq with hq | hq
 ·obtain⟨its,r',pl,hz⟩:=I.list hq
  have hlen:=r'.length
  exact Calls.call_len_list pl.isList (by simp only [ape] <;> omega) ⟨.int ys.length,H,I.tok _,⟨s.toks+1,by rw [ape,hlen]⟩,q⟩
 ·obtain⟨its,r',pl,hz⟩:=I.tuple hq
  have hlen:=r'.length
  exact len_tuple pl (by simp only [ape] <;> omega) ⟨.int ys.length,H,I.tok _,⟨s.toks+1,by rw [ape,hlen]⟩,q⟩
theorem acW:yo X (.type "list") (fun xs H Q=>∃ p ys,xs=[.ref p]/\(SqL X.K H p ys \/ SqT X.K H p ys)/\∀ l,H l=none->Q (.ref l) (upd H l (.lst ys))):=by
 intro pins s σ H xs us Q I r h
 obtain⟨p,ys,rfl,hq,q⟩:=h
 obtain⟨u,rfl,rx⟩:=vals1 r
 cases rx
 have fin:∀ (its:List Value),Vals ys its->ys.length<=sizeLine->∀ (h':Heap) (c':Nat),(∀ b o',s.heap.get? b=some o'->h'.get? b=some o') ->
   h'.get? s.heap.objs.size=some { cls:=.type "list",dict:=none,data:=.seq its.toArray c',slots:=#[] }->EP X pins σ Q (.ref s.heap.objs.size) { s with heap:=h' }:=fun its r' hz h' c' kp e =>
  ⟨.ref s.heap.objs.size,_,I.laid (t':=s.toks) kp (ao6 _) (show ObjOk X.prog X.w _ h' _ (.lst ys) from⟨hz,its,c',r',e⟩),rfl,q _ (I.hok.fresh (ao6 _))⟩
 rcases hq with hq | hq
 ·obtain⟨its,r',pl,hz⟩:=I.list hq
  have hlen:=r'.length
  obtain⟨o,ho,hc,n,hd⟩:=pl.isList
  exact call_list_seq p (.inl rfl) ho hc hd (fun h' c' kp e=>fin its r' hz h' c' kp e) (by simp only [ape] <;> omega)
 ·obtain⟨its,r',pl,hz⟩:=I.tuple hq
  have hlen:=r'.length
  obtain⟨o,ho,hc,n,hd⟩:=pl
  exact call_list_seq p (.inr rfl) ho hc hd (fun h' c' kp e=>fin its r' hz h' c' kp e) (by simp only [ape] <;> omega)
theorem abT:yo X (.type "tuple") (fun xs H Q=>∃ p ys,xs=[.ref p]/\((SqL X.K H p ys/\∀ l,H l=none->Q (.ref l) (upd H l (.tup ys))) \/ (SqT X.K H p ys/\Q (.ref p) H))):=by
 intro pins s σ H xs us Q I r h
 obtain⟨p,ys,rfl,h⟩:=h
 obtain⟨u,rfl,rx⟩:=vals1 r
 cases rx
 rcases h with⟨hq,q⟩ | ⟨hq,q⟩
 ·obtain⟨its,r',pl,hz⟩:=I.list hq
  have hlen:=r'.length
  refine call_tuple_list pl.isList (fun h' kp=>?_) (by simp only [ape] <;> omega)
  have I1:Inv X pins σ H { s with heap:=h' }:=I.kept (t':=s.toks) kp
  have I2:Inv X pins σ (upd H h'.objs.size (.tup ys)) { s with heap:=h'.push { cls:=.type "tuple",data:=.seq its.toArray } } :=
   I1.laid (t':=s.toks) (fun b o e=>ao2 _ e) (ao6 _) (show ObjOk X.prog X.w _ _ _ (.tup ys) from⟨hz,its,r',IsTup.new _ _⟩)
  exact⟨.ref h'.objs.size,_,I2,rfl,q _ (I1.hok.fresh (ao6 _))⟩
 ·obtain⟨its,r',pl,hz⟩:=I.tuple hq
  exact call_tuple_same pl ⟨.ref p,H,I,rfl,q⟩
def tyV (K:aoZ) (T:String) (x:V) (H:Hp):Prop:=match x with
 | .str _=>T="str"
 | .int _=>T="int"
 | .ref p=>(T="list"/\∃ xs,SqL K H p xs) \/ (T="tuple"/\∃ o,K.lookup p=some o/\o.cls=.type "tuple"/\o.dict=none) \/
   (T="dict"/\((∃ kvs,H p=some (.dK kvs)) \/ ∃ kvs,H p=some (.dT kvs))) \/ (T="set"/\∃ S n,H p=some (.set S n))
 | _=>False
theorem aiq {pins:List (Addr×Obj)} {σ:St} {H:Hp} {s:Shared} {T:String} {x:V} {v:Value} (I:Inv X pins σ H s) (r:RelV x v) (ty:tyV X.K T x H) :
  s.TypeIs v T/\∀ a,v=.ref a->∃ ob,s.heap.get? a=some ob/\ob.dict=none:=by
 cases x with
 | str z =>
  obtain⟨t,rfl⟩:=r
  cases (show T="str" from ty)
  exact⟨typeIs_str s z t,fun _ e=>nomatch e⟩
 | int i =>
  obtain⟨t,rfl⟩:=r
  cases (show T="int" from ty)
  exact⟨typeIs_int s i t,fun _ e=>nomatch e⟩
 | ref p =>
  cases r
  rcases ty with⟨rfl,xs,hq⟩ | ⟨rfl,o,hk,hc,hd⟩ | ⟨rfl,hk⟩ | ⟨rfl,S,n,hk⟩
  ·obtain⟨its,_,pl,_⟩:=I.list hq
   refine⟨pl.isList.typeIs,fun a e=>?_⟩
   cases e
   obtain⟨o,n,e,c,hd,_⟩:=pl
   exact⟨o,e,hd⟩
  ·refine⟨⟨o,I.kIn p o hk,hc⟩,fun a e=>?_⟩
   cases e
   exact⟨o,I.kIn _ o hk,hd⟩
  ·have z:∃ o,s.heap.get? p=some o/\o.ExactDict:=by
    rcases hk with⟨kvs,hk⟩ | ⟨kvs,hk⟩
    ·obtain⟨_,_,_,_,o,_,_,e,ex,_⟩:=I.hok p _ hk
     exact⟨o,e,ex⟩
    ·obtain⟨_,_,_,_,o,_,_,e,ex,_⟩:=I.hok p _ hk
     exact⟨o,e,ex⟩
   obtain⟨o,e,ex⟩:=z
   refine⟨⟨o,e,ex.1⟩,fun a e2=>?_⟩
   cases e2
   exact⟨o,e,ex.2.1⟩
  ·obtain⟨o,_,_,_,e,ex,_⟩:=I.hok p _ hk
   refine⟨⟨o,e,ex.1⟩,fun a e2=>?_⟩
   cases e2
   exact⟨o,e,ex.2.1⟩
 | _=>exact apF ty
def aob (K:aoZ) (T:String) (r:V->List V->Hp->VK->Prop) (to:TE):TE:=fun σ H Q=>to σ H fun x H1=>tyV K T x H1/\r x [] H1 Q
def tBM (K:aoZ) (T:String) (r:V->List V->Hp->VK->Prop) (to:TE) (t:TA):TE:=fun σ H Q=>to σ H fun x H1=>tyV K T x H1/\t σ H1 fun xs H2=>r x xs H2 Q
variable {o e:Expr} {es:List Expr} {to:TE} {t:TA} {name:Str} {apos cpos:Pos} {T id:String} {r:V->List V->Hp->VK->Prop}
theorem amD (pa:PlainAttrs T) (slot:Slot T name id) (hty:typeOf (.builtin id)=pure (.type "method_descriptor")) (hm:MtR X id r) (ho:PE X o to)
  (hbase:attributeBase o name X.env (eval o X.env)=eval o X.env:=by rfl) (hline:(apos.endLine == cpos.line)=true:=by rfl):PE X (.Call (.Attribute o name apos) [] [] cpos) (aob X.K T r to):=by
 intro pins s σ H Q I h
 refine wpAny_Call_method0_late hbase hline (thn (ho pins s σ H _ I h) fun v s1 ⟨x,H1,I1,r1,ty,q1⟩=>?_)
 obtain⟨h1,h2⟩:=aiq I1 r1 ty
 exact⟨T,id,pa,slot,hty,h1,h2,ari rfl (PySem.evalArgs_none (hm pins s1 σ H1 x [] v [] Q I1 r1 .nil q1))⟩
theorem af6 (pa:PlainAttrs T) (slot:Slot T name id) (hty:typeOf (.builtin id)=pure (.type "method_descriptor")) (hm:MtR X id r) (ho:PE X o to) (ha:PA X (e :: es) t)
  (hbase:attributeBase o name X.env (eval o X.env)=eval o X.env:=by rfl)
  (hfew:((backTo cpos (starEach (e :: es) X.env)).all (fun x=>!x.1) && (backToKw cpos (keywordEach [] X.env)).all (fun x=>x.1.isSome)
   && decide ((e :: es).length+([]:List Keyword).length+(if ([]:List Keyword).isEmpty then 0 else 1)<30))=true:=by rfl)
  (hline:(apos.endLine == cpos.line)=true:=by rfl) (hs:starEach (e :: es) X.env=(false,eval e X.env) :: starEach es X.env:=by rfl) (hplain:(backTo cpos (starEach es X.env)).any (·.1)=false:=by rfl) :
  PE X (.Call (.Attribute o name apos) (e :: es) [] cpos) (tBM X.K T r to t):=by
 intro pins s σ H Q I h
 refine wpAny_Call_method_late hbase hfew hline rfl (thn (ho pins s σ H _ I h) fun v s1 ⟨x,H1,I1,r1,ty,q1⟩=>?_)
 obtain⟨h1,h2⟩:=aiq I1 r1 ty
 refine⟨T,id,pa,slot,hty,h1,h2,?_⟩
 have hA:=ha cpos pins s1 σ H1 _ I1 q1
 rw [hs] at hA ⊢
 refine ari (by show (false || (backTo cpos (starEach es X.env)).any (·.1))=false;rw [hplain] <;> rfl) (asK ?_)
 exact thn hA fun us s2 ⟨vs,H2,I2,r2,q2⟩=>hm pins s2 σ H2 x vs v us Q I2 r1 r2 q2
/- xs.append(e),list.index on a module's tuple .. are MtR facts of 06m -/
end
def MtM (X:Cx) (id:String) (r:V->List V->Hp->VK->Prop):Prop :=
 ∀ (pins:List (Addr×Obj)) (s:Shared) (σ:St) (H:Hp) (x:V) (xs:List V) (v:Value) (us:List Value) (Q:VK),Inv X pins σ H s->RelV x v->Vals xs us->r x xs H Q ->
  wpAny (model X.prog X.w) X.A (call (.builtin id) (v :: us)) (EP X pins σ Q) X.xe s
theorem Vals.one:∀ {x:V} {us:List Value},Vals [x] us->∃ u,us=[u]/\RelV x u
 | _,_,.cons r .nil=>⟨_,rfl,r⟩
theorem Vals.zero:∀ {us:List Value},Vals [] us->us=[]
 | _,.nil=>rfl
theorem Vals.dropLast {xs:List V} {us:List Value} (h:Vals xs us):Vals xs.dropLast us.dropLast:=by
 induction h with
 | nil=>exact .nil
 | cons r t ih =>
  cases t with
  | nil=>exact .nil
  | cons q t'=>exact .cons r ih
theorem afc {α:Type} (l:List α):l.eraseIdx (l.length - 1)=l.dropLast:=by
 induction l with
 | nil=>rfl
 | cons a r ih =>
  cases r with
  | nil=>rfl
  | cons b r =>
   have e:(a :: b :: r).length - 1=((b :: r).length - 1)+1:=by
    have h1:(a :: b :: r).length=r.length+2:=rfl
    have h2:(b :: r).length=r.length+1:=rfl
    omega
   rw [e,List.eraseIdx_cons_succ,ih]
   all_goals rfl
section
variable {X:Cx} {pins:List (Addr×Obj)} {σ:St} {H:Hp} {s:Shared} {l b:Addr} {xs ys zs:List V}
theorem Inv.lset {its its':List Value} {n:Nat} {f:Array Value->Array Value} {t':Nat} (I:Inv X pins σ H s) (hH:H l=some (.lst xs))
  (e:s.heap.get? l=some { cls:=.type "list",data:=.seq its.toArray n }) (hf:f its.toArray=its'.toArray) (hv:Vals ys its') (hz:ys.length<=sizeLine) :
  Inv X pins σ (upd H l (.lst ys)) { s with heap:=s.heap.update l (aqV f),toks:=t' }:=by
 have q:=PySem.IsL.update e f
 rw [hf] at q
 refine I.write (x:=l) (e:=l) (by rw [hH];exact trivial) (.inl rfl) (fun b' u hb hu=>(apx s.heap (aqV f) (apT hb)).trans hu) ⟨_,q⟩ ?_
 exact⟨hz,its',_,hv,q⟩
theorem Inv.lnew {its:List Value} {t':Nat} (I:Inv X pins σ H s) (hv:Vals ys its) (hz:ys.length<=sizeLine) :
  Inv X pins σ (upd H s.heap.objs.size (.lst ys)) { s with heap:=s.heap.push { cls:=.type "list",data:=.seq its.toArray },toks:=t' } :=
 I.laid (fun _ _ q=>ao2 _ q) (ao6 _) ⟨hz,its,0,hv,apA _ rfl⟩
theorem Inv.fresh (I:Inv X pins σ H s):H s.heap.objs.size=none:=I.hok.fresh (ao6 _)
theorem Inv.lstM (I:Inv X pins σ H s) (hH:H l=some (.lst xs)):xs.length<=sizeLine/\∃ (its:List Value) (n:Nat),Vals xs its/\xs.length=its.length/\s.heap.get? l=some { cls:=.type "list",data:=.seq its.toArray n }:=by
 obtain⟨z,its,n,r,e⟩:=I.hok l _ hH
 exact⟨z,its,n,r,r.length,e⟩
end
section
variable {X:Cx}
def acX:V->List V->Hp->VK->Prop:=fun x vs H Q=>∃ l xs y,x=.ref l/\vs=[y]/\H l=some (.lst xs)/\xs.length<sizeLine/\Q .non (upd H l (.lst (xs++[y])))
theorem aao:MtM X "list.append" acX:=by
 intro pins s σ H x vs v us Q I rx rv h
 obtain⟨l,xs,y,rfl,rfl,hH,hz,q⟩:=h
 cases rx
 obtain⟨u,rfl,ru⟩:=rv.one
 obtain⟨z,its,n,r,hl,e⟩:=I.lstM hH
 refine call_meets F.slot_list_append ⟨_,e,rfl⟩ asW (asL _ _) (PySem.list_append l its.toArray n u (by rw [ape];omega)) ⟨e,?_⟩
 refine⟨.non,_,I.lset (its':=its++[u]) hH e (by simp) (r.append (.cons ru .nil)) ?_,rfl,q⟩
 rw [api,apO]
 omega
def aoc:V->List V->Hp->VK->Prop:=fun x vs H Q=>∃ l xs y,x=.ref l/\vs=[]/\H l=some (.lst xs)/\xs[xs.length - 1]?=some y/\Q y (upd H l (.lst xs.dropLast))
theorem amE:MtM X "list.pop" aoc:=by
 intro pins s σ H x vs v us Q I rx rv h
 obtain⟨l,xs,y,rfl,rfl,hH,hy,q⟩:=h
 cases rx
 have hus:=rv.zero
 subst hus
 obtain⟨z,its,n,r,hl,e⟩:=I.lstM hH
 obtain⟨u,hu,ru⟩:=r.get hy
 have hy':its.toArray[its.toArray.size - 1]?=some u:=by
  show its.toArray[its.length - 1]?=some u
  rw [<-ary,<- hl]
  exact hu
 refine call_meets F.slot_list_pop ⟨_,e,rfl⟩ F.entry_list_pop (F.args_list_pop_1 _) (MeetsSeq.list_pop_last l its.toArray n u hy' (by rw [ape];omega)) ⟨e,?_⟩
 refine⟨y,_,I.lset (its':=its.dropLast) hH e ?_ r.dropLast ?_,ru,q⟩
 ·show its.toArray.eraseIdxIfInBounds (its.toArray.size - 1)=its.dropLast.toArray
  rw [ape,List.eraseIdxIfInBounds_toArray,afc]
 ·rw [asM]
  omega
end
end L2
namespace Att
open PySem PySem.W PySem.Calls PyProof.Rows
theorem aaR {P:Params} {h:Heap}:∀ (ns:List Int) (vs:List Value),WellAll P h vs (ns.map WData.int)->IntsAre vs ns:=by
 intro ns
 induction ns with
 | nil =>
  intro vs w
  rw [arT] at w
  cases w
  exact .nil
 | cons n ns ih =>
  intro vs w
  rw [apq] at w
  cases w with
  | cons a b =>
   cases a
   exact .cons _ _ (ih _ b)
theorem ahd {l:OpenLaw} {n:Nat} (hn:l.most=some n) {P:Params} {h:Heap} {args:List WData} {vals:List Value}
  (hpre:l.row.toRowW.claim.pre args=true) (hwl:WellAll P h vals args) :
  ∃ a vs ns,vals=[Value.ref a]/\args=[WData.list (ns.map WData.int)]/\h.get? a=some { cls:=.type "list",data:=.seq vs.toArray }/\IntsAre vs ns/\ns.length<=n:=by
 have hsh:WShape.hasAll [] args [.list .int]=true:=(pre_splitW hpre).1
 have hc:l.pre.holds [] { args:=args }=true:=(pre_splitW hpre).2
 obtain⟨d,r,rfl,h1,h2⟩:=hasAllW_cons hsh
 obtain rfl:=hasAllW_nil h2
 obtain⟨xs,rfl,h3⟩:=hasW_list h1
 obtain⟨ns,rfl⟩:=items_int h3
 have hlen:ns.length<=n:=by
  unfold OpenLaw.pre at hc
  have h4:(WTm.not (.lt (.lit (.int (n:Int))) (.len (.arg 0)))).holds [] { args:=[.list (ns.map .int)] }=true:=by
   have h4:=(holds_andW hc).1
   rw [hn] at h4
   exact h4
  have h5:=condW_of h4 (w_not (w_lt w_lit (w_len_list (w_arg rfl))))
  rw [aoX] at h5
  refine Nat.le_of_not_lt fun q=>?_
  have q':(n:Int)<((ns.length:Nat):Int):=by omega
  first
   | (rw [decide_eq_true q'] at h5;exact absurd h5 (by decide))
   | (simp at h5;omega)
 cases hwl with
 | cons w1 w2 =>
  cases w2
  cases w1 with
  | list ho hall=>exact⟨_,_,ns,rfl,rfl,ho,aaR ns _ hall,hlen⟩
theorem ahe (l:OpenLaw) (args:List WData):l.row.toRowW.claim.post args (.bool true) args=true :=
 postW_of (r:=l.row.toRowW) (X:=(true == true))
  (show WShape.has [] (.bool true) .bool=true by first | rfl | decide | simp [WShape.has,WShape.arms,WShape.armsAll])
  (show (WTm.eq .res (.lit (.bool true))).value [] { args:=args,res:=some (.bool true),after:=args }=some (.bool (true == true)) from w_eq_bool (w_res rfl) w_lit) rfl
theorem attach_call {l:OpenLaw} {n:Nat} {q:Program} {loose:List Str} {XP:(Str->Option Value)->Heap->Prop} {YP:World->Heap->Prop} {d:DefRec}
  (hn:l.most=some n) (hdf:d.params.defaults=[])
  (call:∀ (w:World) (s₀ s₁:Shared) (mg mb:Str->Option Value) (fa:Addr) (o:Obj) (pm cd doc:Value) (a:Addr) (vs:List Value) (ns:List Int),
   Ground q loose [] XP w s₀ mg mb s₁.heap->YP w s₁.heap ->
   s₁.heap.get? fa=some o->o.data=.func (docDef d.name d.params d.body d.scope pm cd doc)->s₁.heap.CodeRec cd d.name->mg d.name=some (.ref fa) ->
   s₁.heap.get? a=some { cls:=.type "list",data:=.seq vs.toArray }->IntsAre vs ns->ns.length<=n->s₁.gens=#[] ->
   codeAny (model l.prog w) callerA (.call (.ref fa) ⟨[.ref a],[]⟩) (fun r s'=>r=.ok (.ret (.bool true))/\OldK s₁.heap s'.heap/\s'.os=s₁.os/\AllBare s'.gens) s₁) :
  WalkO q loose XP YP l.row.toRowW d [] (fun f vs=>PySem.call f vs):=by
 intro w s₀ s₁ mg mb G Y fa o pm cd doc dV kV ho hd hcd hD hmg hg args vals as hpre hlay hrd hwl hlo
 obtain rfl:dV=.none:=Dflts.none hD hdf
 obtain rfl:kV=.none:=Dflts.noKw hD
 obtain⟨a,vs,ns,rfl,rfl,hobj,hints,hlen⟩:=ahd hn hpre hwl
 refine enter_call (codeAny_mono (call w s₀ s₁ mg mb fa o pm cd doc a vs ns G Y ho (fd_plain hd) hcd hmg hobj hints hlen hg) fun r s' hq=>?_)
 obtain⟨rfl,h2,h3,h4⟩:=hq
 exact⟨.inl ⟨.bool true,.bool true,[],rfl,fun _=>rfl,.bool true,ahe l _,fun _=>⟨List.Pairwise.nil,fun _ hm=>(nomatch hm)⟩⟩,h2,h3,h4⟩
section
variable {prog:Program} {w:World} {A:Around} {E:Value->Shared->Prop} {s:Shared} {K:Frag}
def abi (h:Heap):Heap:={ h with objs:=#[] }
theorem vq (h:Heap) (b:Addr):(abi h).get? b=none:=by
 cases e:(abi h).get? b with
 | none=>rfl
 | some o=>exact absurd (apc e) (apZ _)
def ledger (h:Heap) (L d:Addr):List (Addr×Obj):=(apj h.objs.size).filterMap fun a=>if a=L \/ a=d then none else (h.get? a).map fun o=>(a,o)
theorem mem_ledger {h:Heap} {L d a:Addr} {o:Obj}:(a,o)∈ledger h L d↔a≠L/\a≠d/\h.get? a=some o:=by
 unfold ledger
 rw [aqH]
 constructor
 ·rintro⟨b,_,e⟩
  split at e
  ·cases e
  ·rename_i hb
   obtain⟨o',ho,e'⟩:=Option.map_eq_some_iff.mp e
   cases e'
   exact⟨fun q=>hb (.inl q),fun q=>hb (.inr q),ho⟩
 ·rintro⟨n1,n2,ho⟩
  refine⟨a,apr.mpr (apc ho),?_⟩
  rw [if_neg (show ¬ (a=L \/ a=d) from fun q=>q.elim n1 n2),ho] <;> rfl
theorem adY {h:Heap} {L d:Addr} {od:Obj} (hne:d≠L) (ho:h.get? d=some od):News (abi h) L h ([]++(d,od) :: ledger h L d):=by
 rintro⟨a,o⟩ hp
 rcases ao7.mp hp with e | hp
 ·cases e
  exact⟨ho,hne,vq _ _⟩
 ·obtain⟨n1,n2,e⟩:=mem_ledger.mp hp
  exact⟨e,n1,vq _ _⟩
theorem amF {h:Heap} {L:Addr} {m:Str->Option Value} (n:h.Ns L m):Fr (abi h) L h m :=
 ⟨n,fun b o e=>(by rw [vq] at e;cases e),apC _⟩
theorem acg {x C dx L:Addr} {ox:Obj} {m:Str->Option Value} {es es':List DictEntry} {n n':Nat} {name:Str} {v:Value} {Q:Unit->Shared->Prop}
  (X:K.In s.heap) (I:PySem.W.InstAt s.heap x ox C (some (dictOf es n))) (hd:ox.dict=some dx) (hL:s.heap.Ns L m) (hne:dx≠L)
  (hs:findIn K (.ref C) "__setattr__"=some (some (.builtin "object.__setattr__"))) (hp:plainOver K C=true) (ht:takerIn K C name=some none) (hh:hasDictIn K C=true) (hl:(getL name es).isSome=true)
  (e:(putL name (PyData.keyHash w.params name) (.str name (s.toks+1)) v es,putN name es n)=(es',n')) (hz:es'.length<=1000)
  (h:∀ h':Heap,h'.Ns L m->h'.get? dx=some (dictOf es' n')->(∀ b o,b≠dx->b≠L->s.heap.get? b=some o->h'.get? b=some o)->Q () { s with heap:=h',toks:=s.toks+2 }) :
  wpAny (model prog w) A (setAttr (.ref x) name v) Q E s:=by
 obtain⟨e1,e2⟩:=Prod.mk.inj e
 have hdx:s.heap.get? dx=some (dictOf es n):=by
  have:=I.dict
  rw [hd] at this
  exact this
 refine set_plain X I hs (osa_dict (s:={ s with toks:=s.toks+1 }) (h₀:=abi s.heap) (L:=L) (m:=m) (od:=dictOf es n) (od':=dictOf es' n') (es:=es') (n:=n') (pre:=[]) (post:=ledger s.heap L dx)
  (amF hL) (adY hne hdx) X I hd hp ht hh hl (fun _ q=>nomatch q) (fun⟨_,_⟩ q=>(mem_ledger.mp q).2.1) (by rw [putName_dict,e1,e2]) rfl hz fun h' F' N'=>?_)
 exact h h' F'.ns (N'.get (List.Mem.head _)) fun b o n1 n2 ho=>N'.get (List.Mem.tail _ (mem_ledger.mpr ⟨n2,n1,ho⟩))
end
end Att
namespace L2
open PySem PySem.Spec PyProof.Rows
theorem ach:∀ {vs:List Value} {ns:List Int},IntsAre vs ns->Vals (ns.map V.int) vs
 | _,_,.nil=>.nil
 | _,_,.cons n t h=>.cons ⟨t,rfl⟩ (ach h)
def amG (H:Hp):Prop:=∀ b,H b=none \/ ∃ o xs,H b=some (.frz o (.lst xs))
theorem air {P:Program} {w:World} {K:aoZ} {mg mb:Str->Option Value} {CX:CXT} {k:Nat} {fa a:Addr} {fd:FuncData} {x:Str} {sp:Sp} {s₁:Shared} {vs:List Value} {ns:List Int}
  (KX:K.In s₁.heap) (hns:s₁.heap.Ns mainGlobals mg) (hb:s₁.heap.Ns builtinsNs mb) (hbb:∀ x:Str,x ≠ "__name__"->mb x=bootBuiltins x) (hlim:s₁.heap.NoLimit) (hg:s₁.gens=#[])
  (ha:s₁.heap.get? a=some { cls:=.type "list",data:=.seq vs.toArray }) (hi:IntsAre vs ns) (hl:ns.length<=sizeLine) (hr:Room k callerA)
  (F:∀ base:Heap,K.In base->base.Ns mainGlobals mg->FnOk P w K mg base CX k fa fd [x] sp) (hbind:∀ (s:Shared) (u:Value),BindsTo s fd ⟨[u],[]⟩ [(x,u)])
  (hsp:∀ H:Hp,amG H->SqL K H a (ns.map V.int)->sp [.ref a] H (fun v _=>v=.bl true) fun _ _ _=>False)
  (hCX:∀ H e s',CX [] H s₁ (fun _ _ _=>False) e s'->False) :
  codeAny (model P w) callerA (.call (.ref fa) ⟨[.ref a],[]⟩) (fun r s'=>r=.ok (.ret (.bool true))/\OldK s₁.heap s'.heap/\s'.os=s₁.os/\AllBare s'.gens) s₁:=by
 have rv:=ach hi
 have lenV:=hi.length
 -- from an abstract heap in which nothing but the script may be tracked
 have core:∀ H:Hp,amG H->SqL K H a (ns.map V.int)->HOk P w H s₁.heap->(∀ b,H b≠none->b=a)->(H a≠none->K.lookup a=none) ->
   codeAny (model P w) callerA (.call (.ref fa) ⟨[.ref a],[]⟩) (fun r s'=>r=.ok (.ret (.bool true))/\OldK s₁.heap s'.heap/\s'.os=s₁.os/\AllBare s'.gens) s₁:=by
  intro H hO hS hok hA hK
  have base_of:∀ {b:Addr} {o:Obj},s₁.heap.get? b=some o->H b=none->(acO s₁.heap H).get? b=some o:=fun e n=>aic e n
  have noA:∀ {b:Addr} {o:Obj} {es:Array DictEntry} {ep:Nat},s₁.heap.get? b=some o->o.data=.dict es ep->H b=none:=fun {b o es ep} e d=>by
   cases q:H b with
   | none=>rfl
   | some u =>
    have e':b=a:=hA b (by rw [q];simp)
    subst e'
    rw [ha] at e;cases e
    have d':Data.seq vs.toArray _=Data.dict es ep:=d
    cases d'
  have nsK:∀ {b:Addr} {m:Str->Option Value},s₁.heap.Ns b m->(acO s₁.heap H).Ns b m:=fun {b m} ⟨o,es,ep,e,d,r⟩=>⟨o,es,ep,base_of e (noA e d),d,r⟩
  have hKb:K.In (acO s₁.heap H):=fun b o e=>base_of (KX b o e) (by
   cases q:H b with
   | none=>rfl
   | some u =>
    have e':b=a:=hA b (by rw [q];simp)
    subst e'
    rw [hK (by rw [q];simp)] at e;cases e)
  have hM:Mod K mg (acO s₁.heap H):=⟨hKb,nsK hns,⟨mb,nsK hb,hbb⟩,let⟨mc,h1,h2⟩:=hlim;⟨mc,nsK h1,h2⟩⟩
  have e0:Env0 P w K mg (acO s₁.heap H) callerA [] s₁ H:=⟨rfl,hM,fun b o e=>akn e,aqu (ag8 _ _),trivial,fun b hb=>absurd (show b∈([]:List Addr) from hb) (by simp),hok,.of_eq hg⟩
  refine codeAny_mono ((F _ hKb (nsK hns)).run callerA [] s₁ H ⟨[.ref a],[]⟩ [.ref a] [.ref a] _ _ hr e0 (hbind s₁ (.ref a)) (.cons rfl .nil) (hsp H hO hS)) fun r s' h=>?_
  cases r with
  | error e=>exact (hCX H e s' h).elim
  | ok fl =>
   cases fl with
   | next=>exact apF h
   | brk=>exact apF h
   | cont=>exact apF h
   | ret u =>
    obtain⟨v,H',os,bare,un,hok',r',q⟩:=h
    have q':v=.bl true:=q
    subst q'
    obtain rfl:u=Value.bool true:=r'
    refine⟨rfl,OldK.of_keep fun b o e=>?_,os,bare⟩
    cases q:H b with
    | none=>exact un.keep b o e q (by intro z;exact absurd (show b∈([]:List Addr) from z) (by simp)) (by simp)
    | some u =>
     rcases hO b with z | ⟨ob,xs,z⟩
     ·rw [q] at z;cases z
     ·have z2:=un.frzs b ob _ z
      obtain⟨e1,_⟩:=hok b _ z
      obtain⟨e2,_⟩:=hok' b _ z2
      rw [e] at e1;cases e1
      exact e2
 cases hk:K.lookup a with
 | some o =>
  -- the script is one of the module's own objects
  have e:=KX a o hk
  rw [ha] at e
  cases e
  refine core (fun _=>none) (fun _=>.inl rfl) (.inr ⟨_,vs.toArray,_,hk,rfl,rfl,rfl,by rw [ape,lenV];exact hl,by simpa using rv⟩) (fun b u z=>by have z':(none:Option HO)=some u:=z;cases z') (fun b z=>absurd rfl z) fun z=>absurd rfl z
 | none =>
  refine core (fun b=>if b=a then some (.frz { cls:=.type "list",data:=.seq vs.toArray } (.lst (ns.map V.int))) else none) (fun b=>?_) (.inl (.inr ⟨{ cls:=.type "list",data:=.seq vs.toArray },if_pos rfl⟩)) (fun b u z=>?_) (fun b z=>?_) fun _=>hk
  ·by_cases hb:b=a
   ·exact .inr ⟨_,_,if_pos hb⟩
   ·exact .inl (if_neg hb)
  ·by_cases hb:b=a
   ·have z':=(if_pos hb).symm.trans z
    cases z'
    subst hb
    exact⟨ha,by rw [aoX];exact hl,vs,_,rv,ha⟩
   ·have z':=(if_neg hb).symm.trans z
    cases z'
  ·by_cases hb:b=a
   ·exact hb
   ·exact absurd (if_neg hb) z
abbrev KOf {K:aoZ} {h:Heap} (_:K.In h):aoZ:=K
theorem walk_of {l:PySem.W.OpenLaw} {n k:Nat} {q:Program} {loose:List Str} {XP:(Str->Option Value)->Heap->Prop} {YP:World->Heap->Prop} {d:DefRec} {K:Params->aoZ} {CX:World->CXT} {sp:World->Sp} {x:Str}
  (hn:l.most=some n) (hn2:n<=sizeLine) (hdf:d.params.defaults=[]) (hr:Room k callerA)
  (hY:∀ (w:World) (h:Heap),YP w h->(K w.params).In h)
  (F:∀ (w:World) (mg:Str->Option Value) (fa:Addr) (h:Heap),(K w.params).In h->h.Ns mainGlobals mg->mg d.name=some (.ref fa) ->
   ∃ fd:FuncData,(∀ (s:Shared) (u:Value),BindsTo s fd ⟨[u],[]⟩ [(x,u)]) /\
    ∀ base:Heap,(K w.params).In base->base.Ns mainGlobals mg->FnOk l.prog w (K w.params) mg base (CX w) k fa fd [x] (sp w))
  (hsp:∀ (w:World) (H:Hp) (a:Addr) (ns:List Int),ns.length<=n->amG H->SqL (K w.params) H a (ns.map V.int)->sp w [.ref a] H (fun v _=>v=.bl true) fun _ _ _=>False)
  (hCX:∀ (w:World) (H:Hp) (s:Shared) (e:Value) (s':Shared),CX w [] H s (fun _ _ _=>False) e s'->False) :
  PySem.W.WalkO q loose XP YP l.row.toRowW d [] (fun f vs=>PySem.call f vs):=by
 refine Att.attach_call hn hdf fun w s₀ s₁ mg mb fa o pm cd doc a vs ns G Y ho hd hcd hmg hobj hints hlen hg=>?_
 have KX:=hY w _ Y
 obtain⟨fd,hb,hF⟩:=F w mg fa _ KX G.T.g hmg
 exact air KX G.T.g G.T.b G.T.builtins G.T.nolimit hg hobj hints (apm hlen hn2) hr hF hb (fun H hO hS=>hsp w H a ns hlen hO hS) fun H e s'=>hCX w H s₁ e s'
end L2
/- THE LAST THEOREM (shape;LID,My.* are yours):
   My.Adr: a structure of the addresses that your layer names (classes,functions);My.Txt K t: a structure (Prop) of the equations over K;
   My.txt_mk:{K} {implicit addresses ..} (e1:nsIn K mainGlobals "law"=some (some (.ref f))) (e2:K.lookup f=some ⟨oc,od,.func (fnOf "law" "law" params body scope dV kV doc pm an cdv ct),sl⟩) (e3:codeIn K cdv "law"=true) ..:∃ t,My.Txt K t
set_option maxRecDepth 100000 in
set_option maxHeartbeats 0 in
theorem PySem.Challenge.cw_LID_holds : PySem.Challenge.rw_LID.Holds := by
 w_on;o_law;k_head;(case hw=>w_witness2)
 k_fill
 refine L2.walk_of (l:=PySem.Challenge.rw_LID) (n:=63) (k:=40) (x:="script") (CX:=fun w=>..) (sp:=fun _=>My.sp_law) rfl (by decide) rfl ⟨rfl,by decide,by decide⟩ (fun w h Y=>PySem.W.kIn_of Y) ?F ?S ?C
 case F =>
  intro w mg fa h KX G hmg
  have T:∃ t,My.Txt (L2.KOf KX) t:=by
   dsimp only [L2.KOf]                          -- K must stand as «<heap const> w.params» for k_is
   refine' My.txt_mk ?e1 ?e2 ?e3 ..
   (case e1=>PySem.W.k_is)                    -- in the order: a name->its address->its object->its parts
   (case e2=>PySem.W.k_is)
   ..
  obtain⟨t,T⟩:=T
  have e0:=hmg.symm.trans (apE KX G T.law)
  cases e0                                       -- fa is the law's own address
  exact⟨_,fun s u=>.of_eq rfl,fun base kb nb=>My.law_fn T kb nb⟩     -- if «.of_eq rfl» comes too early: refine' ⟨_,?b,fun base kb nb=>My.law_fn T kb nb⟩;exact fun s u=>.of_eq rfl
 case S=>exact fun w H a ns hl hO hS=>..
 case C=>exact ..
(the tactic k_is has no namespace: write k_is) -/
namespace L2
open PySem PySem.Spec PyProof.Rows
def jE (s:Stmt):Arguments:=match s with
 | .FunctionDef _ a _ _ _ _ _ _ _ _=>a
 | _=>{ posonlyargs:=[],args:=[],vararg:=none,kwonlyargs:=[],kw_defaults:=[],kwarg:=none,defaults:=[] }
def yt (s:Stmt):List Stmt:=match s with
 | .FunctionDef _ _ b _ _ _ _ _ _ _=>b
 | _=>[]
def zg (s:Stmt):Scope:=match s with
 | .FunctionDef _ _ _ _ _ _ sc _ _ _=>sc
 | _=>{ kind:=.function,names:=[],isGenerator:=false,isCoroutine:=false }
abbrev CX0:CXT:=fun _ _ _ _ _ _=>False
abbrev E0:XK:=fun _ _ _=>False
theorem aod {X:Cx}:Passes CX0 X E0:=fun _ _ _ _ _ _ _ h=>h.elim
structure Fun (K:aoZ) (x qual:Str) (st:Stmt) (f:Addr) (fd:FuncData):Prop where
 ex:∃ (oc:Value) (od:Option Addr) (kV doc pm:Value) (an:Option Addr) (cdv ct:Value) (osl:Array (Option Value)),
  fd=aqb x qual (jE st) (yt st) (zg st) .none kV doc pm an cdv ct/\K.lookup f=some ⟨oc,od,.func fd,osl⟩/\aqU K cdv qual=true
 kp:apM K (.ref f)=true
section
variable {P:Program} {w:World} {K:aoZ} {mg:Str->Option Value} {base:Heap}
theorem Fun.ok {x qual:Str} {st:Stmt} {f:Addr} {fd:FuncData} {N ps:List Str} {k:Nat} {sp:Sp} (F:Fun K x qual st f fd) (S:FnScope N ps (zg st)) (len:∀ vs H Q E,sp vs H Q E->vs.length=ps.length)
  (hbody:∀ (cdv:Value) (A:Around) (outer:List Env) (s:Shared) (H:Hp) (vs:List V) (Q:VK) (E:XK),Room k (A.deeper (envOfC qual (zg st) s.heap.objs.size f cdv))->sp vs H Q E ->
   ∃ t,PSs (zI CX0 P w K mg base N qual (zg st) f cdv A outer s H E).nox (yt st) t/\t { nx:=fun _ H'=>Q .non H',rt:=Q } (start N vs) H):FnOk P w K mg base CX0 (k+1) f fd ps sp:=by
 obtain⟨oc,od,kV,doc,pm,an,cdv,ct,osl,rfl,lk,hcd⟩:=F.ex
 refine alT lk hcd S len fun A outer s H vs Q E hr hsp=>?_
 obtain⟨t,h,q⟩:=hbody cdv A outer s H vs Q E hr hsp
 exact⟨t,h.nox,q⟩
theorem Fun.binds {x qual:Str} {st:Stmt} {f:Addr} {fd:FuncData} {ps:List Str} (F:Fun K x qual st f fd)
  (h:∀ (kV doc pm:Value) (an:Option Addr) (cdv ct:Value) (us:List Value),us.length=ps.length->bindArgs (aqb x qual (jE st) (yt st) (zg st) .none kV doc pm an cdv ct) ⟨us,[]⟩=pure (ps.zip us)):Binds K fd ps []:=by
 obtain⟨oc,od,kV,doc,pm,an,cdv,ct,osl,rfl,lk,hcd⟩:=F.ex
 exact .all (h kV doc pm an cdv ct)
theorem acY {x qual:Str} {st:Stmt} {f:Addr} {oc:Value} {od an:Option Addr} {osl:Array (Option Value)} {kV doc pm cdv ct:Value} (l:K.lookup f=some ⟨oc,od,.func (aqb x qual (jE st) (yt st) (zg st) .none kV doc pm an cdv ct),osl⟩)
  (c:aqU K cdv qual=true) (k:apM K (.ref f)=true):Fun K x qual st f (aqb x qual (jE st) (yt st) (zg st) .none kV doc pm an cdv ct):=⟨⟨oc,od,kV,doc,pm,an,cdv,ct,osl,rfl,l,c⟩,k⟩
end
theorem zX {n:Nat} (h:n<=1000):n<sizeLine:=Nat.lt_of_le_of_lt h (by decide)
section
variable {X:Cx}
theorem pv (i:Nat) {x:Str} {pos:Pos} (hN:X.N[i]?=some x:=by rfl) (hv:Vis X.env.scope x:=by first | exact Or.inl rfl | exact Or.inr (Or.inl rfl) | exact Or.inr (Or.inr rfl)) (hd:(x == ("__debug__":Str))=false:=by decide)
  (hcd:(x == ("__classdict__":Str))=false:=by decide):PE X (.Name x pos) (z6 i):=amo hN hv hd hcd
end
def Same (H H':Hp):Prop:=∀ b o,H b=some o->H' b=some o
theorem Same.refl (H:Hp):Same H H:=fun _ _ h=>h
theorem Same.trans {H H1 H2:Hp} (a:Same H H1) (b:Same H1 H2):Same H H2:=fun c o h=>b c o (a c o h)
theorem Same.free {H H':Hp} (e:Same H H') {l:Addr} (h:H' l=Option.none):H l=Option.none:=by
 cases q:H l with
 | none=>rfl
 | some o =>
  rw [e l o q] at h
  cases h
theorem Same.seq {K:aoZ} {H H':Hp} {a:Addr} {xs:List V} (e:Same H H') (h:SqL K H a xs):SqL K H' a xs:=by
 rcases h with (h | ⟨o,h⟩) | h
 ·exact .inl (.inl (e _ _ h))
 ·exact .inl (.inr ⟨o,e _ _ h⟩)
 ·exact .inr h
def z9 (env:Env):List (Str×NameKind)->List (Str×Addr)->List (Str×Addr)
 | [],acc=>acc
 | (x,k) :: r,acc=>if k == .free then z9 env r ((x,(env.cells.lookup x).getD 0) :: acc) else z9 env r acc
theorem afd {sc:Scope} {env:Env} (h:∀ x,(x,NameKind.free)∈sc.names->∃ c,env.cells.lookup x=some c):closureFor sc env=pure (z9 env sc.names []):=by
 have key:∀ (names:List (Str×NameKind)) (acc:List (Str×Addr)),(∀ x,(x,NameKind.free)∈names->∃ c,env.cells.lookup x=some c) ->
   (forIn names acc fun (x:Str×NameKind) (cs:List (Str×Addr))=>if (x.2 == NameKind.free)=true then (do let c <- cellOf env x.1;pure (ForInStep.yield ((x.1,c) :: cs))) else pure (ForInStep.yield cs))=(pure (z9 env names acc):Sem (List (Str×Addr))):=by
  intro names
  induction names with
  | nil=>intro acc _;rfl
  | cons p r ih =>
   intro acc hh
   obtain⟨x,k⟩:=p
   rw [arc]
   unfold z9
   by_cases hk:(k == NameKind.free)=true
   ·have hk':k=.free:=by simpa using hk
    subst hk'
    obtain⟨c,hc⟩:=hh x apa
    simp only [beq_self_eq_true,if_true]
    rw [<-ih _ fun y hy=>hh y (ao3 _ hy)]
    have:cellOf env x=pure c:=by unfold cellOf;rw [hc]
    rw [this,hc]
    rfl
   ·simp only [hk,apI,if_false]
    rw [<-ih _ fun y hy=>hh y (ao3 _ hy)]
    rfl
 simp only [closureFor]
 have q:=key sc.names [] h
 refine Eq.trans ?_ (Eq.trans (congrArg (fun z=>z >>= fun r=>pure r) q) ?_)
 ·rfl
 ·rfl
theorem qg {env:Env}:∀ {names:List (Str×NameKind)} {acc:List (Str×Addr)} {p:Str×Addr},p∈z9 env names acc->p∈acc \/ ((p.1,NameKind.free)∈names/\p.2=(env.cells.lookup p.1).getD 0)
 | [],acc,p,h=>.inl h
 | (x,k) :: r,acc,p,h=>by
  unfold z9 at h
  split at h
  ·rename_i hk
   have hk':k=.free:=by simpa using hk
   subst hk'
   rcases qg h with q | ⟨q,e⟩
   ·rcases ao7.mp q with q | q
    ·subst q;exact .inr ⟨apa,rfl⟩
    ·exact .inl q
   ·exact .inr ⟨ao3 _ q,e⟩
  ·rcases qg h with q | ⟨q,e⟩
   ·exact .inl q
   ·exact .inr ⟨ao3 _ q,e⟩
theorem qx {α:Type}:∀ {l:List (Str×α)} {x:Str} {v:α},(x,v)∈l->∃ u,l.lookup x=some u
 | (y,u) :: r,x,v,h=>by
  rw [apH]
  cases hb:x == y with
  | true=>exact⟨u,rfl⟩
  | false =>
   rcases ao7.mp h with e | h
   ·have:x=y:=congrArg Prod.fst e
    subst this
    simp at hb
   ·exact qx h
theorem vt {env:Env}:∀ {names:List (Str×NameKind)} {acc:List (Str×Addr)} {x:Str},(x,NameKind.free)∈names->(x,(env.cells.lookup x).getD 0)∈z9 env names acc
 | (y,k) :: r,acc,x,h=>by
  have mono:∀ (names:List (Str×NameKind)) (acc:List (Str×Addr)) (p:Str×Addr),p∈acc->p∈z9 env names acc:=by
   intro names
   induction names with
   | nil=>intro acc p hp;exact hp
   | cons q r ih =>
    intro acc p hp
    obtain⟨a,b⟩:=q
    unfold z9
    split
    ·exact ih _ _ (ao3 _ hp)
    ·exact ih _ _ hp
  unfold z9
  rcases ao7.mp h with e | h
  ·cases e
   simp only [beq_self_eq_true,if_true]
   exact mono _ _ _ apa
  ·split
   ·exact vt h
   ·exact vt h
theorem vh {env:Env} {names:List (Str×NameKind)} {x:Str} {c:Addr} (h:∀ x,(x,NameKind.free)∈names->∃ c,env.cells.lookup x=some c) (e:(z9 env names []).lookup x=some c):env.cells.lookup x=some c/\(x,NameKind.free)∈names:=by
 rcases qg (mem_of_lookup e) with q | ⟨q,e'⟩
 ·cases q
 ·obtain⟨c',hc⟩:=h _ q
  dsimp only at hc e'
  rw [hc] at e'
  exact⟨by rw [hc];exact congrArg some e'.symm,q⟩
theorem aaF {env:Env} {names:List (Str×NameKind)} {x:Str} {c:Addr} (h:∀ x,(x,NameKind.free)∈names->∃ c,env.cells.lookup x=some c) (hx:(x,NameKind.free)∈names) (e:env.cells.lookup x=some c):(z9 env names []).lookup x=some c:=by
 obtain⟨u,hu⟩:=qx (vt (env:=env) (acc:=[]) hx)
 have:=(vh h hu).1
 rw [this] at e
 rw [hu,e]
theorem yU:∀ {names:List (Str×NameKind)} {n:Nat} {acc:List (Str×Addr)} {x:Str} {c:Addr},(cellsFrom n names acc).lookup x=some c->(n<=c/\c<n+names.length/\(x,NameKind.cell)∈names) \/ (acc.lookup x=some c/\(x,NameKind.cell)∉names)
 | [],n,acc,x,c,h=>.inr ⟨h,by simp⟩
 | (y,k) :: r,n,acc,x,c,h=>by
  unfold cellsFrom at h
  split at h
  ·rename_i hk
   have hk':k=.cell:=by simpa using hk
   subst hk'
   rcases yU h with⟨q1,q2,q3⟩ | ⟨q1,q2⟩
   ·exact .inl ⟨arj q1,apk q2 (by rw [aph];omega),ao3 _ q3⟩
   ·rw [apH] at q1
    cases hb:x == y with
    | true =>
     rw [hb] at q1
     cases q1
     have:x=y:=by simpa using hb
     subst this
     exact .inl ⟨ao6 _,by rw [aph];exact Nat.lt_add_of_pos_right (arU _),apa⟩
    | false =>
     rw [hb] at q1
     refine .inr ⟨q1,fun z=>?_⟩
     rcases ao7.mp z with e | z
     ·have:x=y:=congrArg Prod.fst e
      subst this
      simp at hb
     ·exact q2 z
  ·rename_i hk
   rcases yU h with⟨q1,q2,q3⟩ | ⟨q1,q2⟩
   ·exact .inl ⟨q1,apk q2 (by rw [aph];omega),ao3 _ q3⟩
   ·refine .inr ⟨q1,fun z=>?_⟩
    rcases ao7.mp z with e | z
    ·have:k=.cell:=(congrArg Prod.snd e).symm
     subst this
     simp at hk
    ·exact q2 z
theorem jc:∀ (names:List (Str×NameKind)) (n:Nat) (acc:List (Str×Addr)),(acc.Pairwise fun x y=>x.2≠y.2)->(∀ p∈acc,p.2<n)->(cellsFrom n names acc).Pairwise fun x y=>x.2≠y.2
 | [],n,acc,h,_=>h
 | (y,k) :: r,n,acc,h,hl=>by
  unfold cellsFrom
  split
  ·refine jc r (n+1) _ (List.pairwise_cons.mpr ⟨fun p hp=>?_,h⟩) fun p hp=>?_
   ·exact aq1 (hl p hp)
   ·rcases ao7.mp hp with e | hp
    ·subst e;exact asp _
    ·exact aqj (hl p hp)
  ·exact jc r n acc h hl
theorem abU {names:List (Str×NameKind)} {n:Nat} {acc:List (Str×Addr)} {x:Str} (h:names.lookup x=some .cell):∃ c,(cellsFrom n names acc).lookup x=some c :=
 aqi.mp (aqn names n acc (.inl h))
theorem vj {names:List (Str×NameKind)} {n:Nat} {acc:List (Str×Addr)} {x:Str} (h:(acc.lookup x).isSome=true):∃ c,(cellsFrom n names acc).lookup x=some c :=
 aqi.mp (aqn names n acc (.inr h))
theorem jQ:∀ (names:List (Str×NameKind)) (h:Heap) (acc:List (Str×Addr)) (x:Str) (c:Addr),(cellsFrom h.objs.size names acc).lookup x=some c->h.objs.size<=c->(∀ p∈acc,p.2<h.objs.size)->(pushCells h names).IsCell c none
 | [],h,acc,x,c,e,hc,hl=>absurd (hl _ (mem_of_lookup e)) (asy.mpr hc)
 | (y,k) :: r,h,acc,x,c,e,hc,hl=>by
  unfold cellsFrom at e
  unfold pushCells
  split at e
  ·rename_i hk
   rw [if_pos hk]
   by_cases hcc:c=h.objs.size
   ·subst hcc
    exact⟨_,pushCells_keeps _ _ _ _ (apA _ rfl),rfl⟩
   ·have es:(h.push { cls:=.type "cell",data:=.cell none }).objs.size=h.objs.size+1:=aqW ..
    refine jQ r _ ((y,h.objs.size) :: acc) x c (by rw [es];exact e) (by rw [es];exact Nat.lt_of_le_of_ne hc (apT hcc)) fun p hp=>?_
    rw [es]
    rcases ao7.mp hp with e | hp
    ·subst e;exact asp _
    ·exact aqj (hl p hp)
  ·rename_i hk
   rw [if_neg hk]
   exact jQ r h acc x c e hc hl
def zj (X:Cx) (sc:Scope) (N:List Str) (s₀:Shared) (H₀:Hp) (ex:List Addr) (pn:List (Addr×Obj)):Cx :=
 { X with N:=N,s₀:=s₀,H₀:=H₀,env:=compEnvC sc (cellsFrom (s₀.heap.objs.size+1) sc.names (z9 X.env sc.names [])) s₀.heap.objs.size X.env,
          outer:=X.stack,ex:=ex,fn:=fun x=>decide (sc.names.lookup x=some .cell),pn:=pn,xe:=fun _ _=>False }
structure CompScope (NO:List Str) (scO:Scope) (N:List Str) (sc:Scope) (own:Nat) (fr:List Nat):Prop where
 kind:sc.kind=.function
 nd:N.Nodup
 snd:(sc.names.map (·.1)).Nodup
 free:∀ p∈sc.names,p.2=.free->scO.names.lookup p.1=some .cell \/ scO.names.lookup p.1=some .free
 frn:∀ p∈(N.drop own).zip fr,NO[p.2]?=some p.1/\sc.names.lookup p.1=some .free
 len:N.length=own+fr.length
def yV (own:Nat) (fr:List Nat) (σ:St):St:=aqB own none++fr.map fun j=>(σ[j]?).getD none
theorem ye {α:Type}:∀ {l:List (Str×α)} {x:Str} {k:α},(l.map (·.1)).Nodup->(x,k)∈l->l.lookup x=some k
 | (y,u) :: r,x,k,nd,h=>by
  rw [apq] at nd
  obtain⟨h1,h2⟩:=apS.mp nd
  rw [apH]
  rcases ao7.mp h with e | h'
  ·cases e;simp
  ·have:x≠y:=by
    intro e
    subst e
    exact h1 (apy.mpr ⟨(x,k),h',rfl⟩)
   rw [beq_eq_false_iff_ne.mpr this]
   exact ye h2 h'
theorem ju {env:Env}:∀ {names:List (Str×NameKind)} {x:Str} {k:NameKind},names.lookup x=some k ->
  (names.map fun (n,k)=>if (k == NameKind.free && env.scope.kind == .function && env.kindOf n == some .cell) then (n,NameKind.cell) else (n,k)).lookup x=some (if (k == NameKind.free && env.scope.kind == .function && env.kindOf x == some .cell) then .cell else k)
 | (n,k') :: r,x,k,h=>by
  have ih:=@ju env r x k
  show List.lookup x ((if (k' == NameKind.free && env.scope.kind == .function && env.kindOf n == some .cell)=true then (n,NameKind.cell) else (n,k')) :: _)=_
  cases hx:x == n with
  | true =>
   have:x=n:=by simpa using hx
   subst this
   simp only [apH,hx] at h
   cases h
   split <;> simp [apH]
  | false =>
   simp only [apH,hx] at h
   split
   ·simp only [apH,hx];exact ih h
   ·simp only [apH,hx];exact ih h
theorem je {env:Env}:∀ {names:List (Str×NameKind)} {x:Str},names.lookup x=none ->
  (names.map fun (n,k)=>if (k == NameKind.free && env.scope.kind == .function && env.kindOf n == some .cell) then (n,NameKind.cell) else (n,k)).lookup x=none
 | [],_,_=>rfl
 | (n,k') :: r,x,h=>by
  have ih:=@je env r x
  show List.lookup x ((if (k' == NameKind.free && env.scope.kind == .function && env.kindOf n == some .cell)=true then (n,NameKind.cell) else (n,k')) :: _)=_
  cases hx:x == n with
  | true=>simp only [apH,hx] at h;cases h
  | false =>
   simp only [apH,hx] at h
   split
   ·simp only [apH,hx];exact ih h
   ·simp only [apH,hx];exact ih h
section
variable {X:Cx} {pins:List (Addr×Obj)} {σ:St} {H:Hp} {s:Shared} {NO N:List Str} {scO sc:Scope} {own:Nat} {fr:List Nat} {fp:List Addr}
theorem ais {tk:Nat} (S:CompScope NO scO N sc own fr) (hN:X.N=NO) (hsc:X.env.scope=scO) (I:Inv X pins σ H s) (hf:∀ b∈fp,vE X pins H b) (ho:∀ b∈fp,∃ o,s.heap.get? b=some o/\∀ v,o.data≠.cell v) :
  Inv (zj X sc N s H fp (X.pn++pins)) [] (yV own fr σ) H { s with heap:=pushCells (s.heap.push { cls:=.type "dict",data:=.dict #[] }) sc.names,toks:=tk }:=by
 have hfree:∀ x,(x,NameKind.free)∈sc.names->∃ c,X.env.cells.lookup x=some c:=fun x hx=>I.ok.has x (by
  show X.env.scope.names.lookup x=_ \/ X.env.scope.names.lookup x=_
  rw [hsc]
  exact S.free _ hx rfl)
 have hclt:∀ p∈z9 X.env sc.names [],p.2<s.heap.objs.size:=fun p hp=>by
  rcases qg hp with q | ⟨q,e⟩
  ·cases q
  ·obtain⟨c,hc⟩:=hfree _ q
   rw [e,hc]
   obtain⟨v,o,ho,_⟩:=I.cell _ c hc
   exact apc ho
 have hsz:(s.heap.push { cls:=.type "dict",data:=.dict #[] }).objs.size=s.heap.objs.size+1:=aqW ..
 have hk:∀ b o,s.heap.get? b=some o->(pushCells (s.heap.push { cls:=.type "dict",data:=.dict #[] }) sc.names).get? b=some o:=fun b o e=>pushCells_keeps _ _ _ _ (ao2 _ e)
 have hcase:∀ {x:Str} {c:Addr},(cellsFrom (s.heap.objs.size+1) sc.names (z9 X.env sc.names [])).lookup x=some c->(s.heap.objs.size+1<=c/\(x,NameKind.cell)∈sc.names) \/ (X.env.cells.lookup x=some c/\(x,NameKind.free)∈sc.names):=fun {x c} e=>by
  rcases yU e with⟨q1,_,q3⟩ | ⟨q1,_⟩
  ·exact .inl ⟨q1,q3⟩
  ·exact .inr (vh hfree q1)
 have clap:(z9 X.env sc.names []).Pairwise fun x y=>x.2≠y.2:=by
  have key:∀ (names:List (Str×NameKind)) (acc:List (Str×Addr)),(∀ p∈acc,X.env.cells.lookup p.1=some p.2)->(∀ x,(x,NameKind.free)∈names->∃ c,X.env.cells.lookup x=some c)->(acc.Pairwise fun x y=>x.2≠y.2)->(∀ p∈acc,(p.1,NameKind.free)∉names)->(names.map (·.1)).Nodup ->
    (z9 X.env names acc).Pairwise fun x y=>x.2≠y.2:=by
   intro names
   induction names with
   | nil=>intro acc _ _ h _ _;exact h
   | cons p r ih =>
    intro acc h1 h2 h3 h4 h5
    obtain⟨y,k⟩:=p
    rw [apq] at h5
    obtain⟨n1,n2⟩:=apS.mp h5
    unfold z9
    split
    ·rename_i hk
     have hk':k=.free:=by simpa using hk
     subst hk'
     obtain⟨c,hc⟩:=h2 y apa
     rw [hc]
     refine ih _ (fun p hp=>?_) (fun x hx=>h2 x (ao3 _ hx)) (List.pairwise_cons.mpr ⟨fun p hp=>?_,h3⟩) (fun p hp=>?_) n2
     ·rcases ao7.mp hp with e | hp
      ·subst e;exact hc
      ·exact h1 p hp
     ·intro e
      have e':p.2=c:=e.symm
      have:=I.ok.inj _ _ _ hc (e'▸h1 p hp)
      exact h4 p hp (this▸apa)
     ·rcases ao7.mp hp with e | hp
      ·subst e
       intro z
       exact n1 (apy.mpr ⟨_,z,rfl⟩)
      ·intro z;exact h4 p hp (ao3 _ z)
    ·exact ih acc h1 (fun x hx=>h2 x (ao3 _ hx)) h3 (fun p hp z=>h4 p hp (ao3 _ z)) n2
  exact key sc.names [] (fun p hp=>by cases hp) hfree List.Pairwise.nil (fun p hp=>by cases hp) S.snd
 have apart:=jc sc.names (s.heap.objs.size+1) _ clap fun p hp=>aqj (hclt p hp)
 have hkd:∀ x,(zj X sc N s H fp (X.pn++pins)).env.kindOf x=some .cell \/ (zj X sc N s H fp (X.pn++pins)).env.kindOf x=some .free->(x,NameKind.cell)∈sc.names \/ (x,NameKind.free)∈sc.names:=fun x hx=>by
  cases q:sc.names.lookup x with
  | none =>
   have e:(zj X sc N s H fp (X.pn++pins)).env.kindOf x=none:=je q
   rw [e] at hx
   rcases hx with z | z <;> cases z
  | some k =>
   have e:(zj X sc N s H fp (X.pn++pins)).env.kindOf x=some _:=ju (env:=X.env) q
   rw [e] at hx
   have hm:=mem_of_lookup q
   cases k <;> first | exact .inl hm | exact .inr hm | (rcases hx with z | z <;> cases z)
 have cellAt:∀ x c,(cellsFrom (s.heap.objs.size+1) sc.names (z9 X.env sc.names [])).lookup x=some c->∃ v,(pushCells (s.heap.push { cls:=.type "dict",data:=.dict #[] }) sc.names).IsCell c v:=fun x c e=>by
  rcases hcase e with⟨q,_⟩ | ⟨q,_⟩
  ·exact⟨none,jQ _ _ _ x c (by rw [hsz];exact e) (by rw [hsz];exact q) fun p hp=>by rw [hsz];exact aqj (hclt p hp)⟩
  ·obtain⟨v,o,ho,hd⟩:=I.cell x c q
   exact⟨v,o,hk _ _ ho,hd⟩
 have lt_of_cell:∀ x c,X.env.cells.lookup x=some c->c<s.heap.objs.size:=fun x c e=>by
  obtain⟨v,o,ho,hd⟩:=I.cell x c e
  exact apc ho
 have lt_of_fp:∀ b∈fp,b<s.heap.objs.size:=fun b hb=>by
  obtain⟨o,e,_⟩:=ho b hb
  exact apc e
 have okX:(zj X sc N s H fp (X.pn++pins)).Ok:=by
  refine⟨I.mod,S.kind,I.ok.glob,I.ok.blt,ao6 _,fun x y c h1 h2=>name_of_addr apart (mem_of_lookup h1) (mem_of_lookup h2),fun x hx=>?_,fun x c hx hc=>?_,I.ok.hd,I.ok.frames,.inl rfl,fun b hb=>⟨apw (lt_of_fp b hb),fun x c e=>?_⟩,I.bs,apm I.ok.bsz I.sz,fun b o e hb=>?_,fun b hb z=>?_,I.stack,I.stkFree⟩
  ·rcases hkd x hx with q | q
   ·exact abU (ye S.snd q)
   ·obtain⟨c,hc⟩:=hfree x q
    exact vj (by rw [aaF hfree q hc];rfl)
  ·have hx':sc.names.lookup x=some .cell:=of_decide_eq_true hx
   rcases hcase hc with⟨q,_⟩ | ⟨_,q⟩
   ·exact arj q
   ·rw [ye S.snd q] at hx';cases hx'
  ·rcases hcase e with⟨q,_⟩ | ⟨q,_⟩
   ·exact aq1 (apk (lt_of_fp b hb) (arj q))
   ·exact (hf b hb).2.2.2.2.1 x c q
  ·rcases (hf b hb).2.2.2.1 with z | z
   ·exact I.ok.noex b o e z
   ·exact absurd (apc e) (asy.mpr (apm I.ok.bsz z))
  ·rcases ao7.mp (I.stkSub b z) with q | q
   ·exact (hf b hb).2.1 q
   ·exact (hf b hb).2.2.1 q
 refine⟨okX,rfl,I.bare,Un.kept hk,⟨fun _=>none,(Heap.Ns.new s.heap (.type "dict")).keeps (pushCells_keeps _ _),fun i x v h1 h2 h3=>?_⟩,cellAt,I.hok.fresh (ao6 _),fun x c e=>?_,fun p hp=>?_,I.hok.kept hk,?_⟩
 ·obtain⟨m,_,hl⟩:=id I.loc
  have h2':(yV own fr σ)[i]?=some (some v):=h2
  have hio:own<=i:=by
   unfold yV at h2'
   refine Nat.le_of_not_lt fun hi=>?_
   rw [ao9 (by simpa using hi),aqC] at h2'
   split at h2' <;> cases h2'
  obtain⟨k,rfl⟩:=Nat.exists_eq_add_of_le hio
  have h1':N[own+k]?=some x:=h1
  unfold yV at h2'
  rw [apd (by simp)] at h2'
  simp only [arx,Nat.add_sub_cancel_left,ao5] at h2'
  cases hj:fr[k]? with
  | none=>rw [hj] at h2';cases h2'
  | some j =>
   rw [hj] at h2'
   have h2'':(σ[j]?).getD none=some v:=Option.some.inj h2'
   have hp:(x,j)∈(N.drop own).zip fr:=by
    refine ao4 (i:=k) ?_
    rw [List.getElem?_zip_eq_some]
    exact⟨by rw [List.getElem?_drop];exact h1',hj⟩
   obtain⟨f1,f2⟩:=S.frn _ hp
   have hσ:σ[j]?=some (some v):=by
    cases q:σ[j]? with
    | none=>rw [q] at h2'';cases h2''
    | some w=>rw [q] at h2'';exact congrArg some h2''
   have hxf:(x,NameKind.free)∈sc.names:=mem_of_lookup f2
   have hko:=S.free _ hxf rfl
   have hvis:Vis X.env.scope x:=by rw [hsc];exact .inr hko
   obtain⟨u,ru,q⟩:=hl j x v (by rw [hN];exact f1) hσ hvis
   refine⟨u,ru,.inr ⟨?_,?_⟩⟩
   ·have e:(zj X sc N s H fp (X.pn++pins)).env.kindOf x=some _:=ju (env:=X.env) f2
    rw [e]
    split
    ·exact .inl rfl
    ·exact .inr rfl
   ·rcases q with⟨k1,_⟩ | ⟨_,c,hc,z⟩
    ·have k1':X.env.scope.names.lookup x=some .local:=k1
     rw [hsc] at k1'
     rcases hko with z | z <;> rw [z] at k1' <;> cases k1'
    ·obtain⟨o,ho,hd⟩:=z
     refine⟨c,?_,o,hk _ _ ho,hd⟩
     have hcl:=aaF hfree hxf hc
     obtain⟨c',hc'⟩:=vj (names:=sc.names) (n:=s.heap.objs.size+1) (acc:=z9 X.env sc.names []) (x:=x) (by rw [hcl];rfl)
     rcases hcase hc' with⟨_,z⟩ | ⟨z,_⟩
     ·have:=ye S.snd z
      rw [f2] at this;cases this
     ·rw [hc] at z;cases z;exact hc'
 ·rcases hcase e with⟨q,_⟩ | ⟨q,_⟩
  ·exact I.hok.fresh (arj q)
  ·exact I.freeC x c q
 ·have hp':p∈X.pn++pins:=by simpa [zj] using hp
  obtain⟨e,n,ne,nf,d⟩:=I.pin p hp'
  refine⟨hk _ _ e,n,apw (apc e),fun z=>?_,d⟩
  rcases ao7.mp (I.stkSub _ z) with q | q
  ·exact ne q
  ·exact nf q
 ·show (yV own fr σ).length=N.length
  unfold yV
  rw [S.len]
  simp
end
abbrev TB:=St->Hp->(St->Hp->Prop)->Prop
def PB (X:Cx) (act:Sem Unit) (t:TB):Prop :=
 ∀ (pins:List (Addr×Obj)) (s:Shared) (σ:St) (H:Hp) (Q:St->Hp->Prop),Inv X pins σ H s->t σ H Q->wpAny (model X.prog X.w) X.A act (fun _ s'=>∃ σ' H',Inv X pins σ' H' s'/\Q σ' H') X.xe s
def PTs (X:Cx) (ifs:List Expr) (t:TT):Prop :=
 ∀ (pins:List (Addr×Obj)) (s:Shared) (σ:St) (H:Hp) (Q:Bool->Hp->Prop),Inv X pins σ H s->t σ H Q ->
  wpAny (model X.prog X.w) X.A (forIn ifs true fun c r=>if r=true then do let ok <- isTrue c X.env (eval c X.env);pure (ForInStep.yield ok) else pure (ForInStep.yield r)) (TP X pins σ Q) X.xe s
def acZ:TT:=fun _ H Q=>Q true H
theorem z7 {X:Cx}:PTs X [] acZ:=fun pins s σ H Q I h=>wpAny_tests_nil ⟨H,I,h⟩
theorem aaW {X:Cx} {c:Expr} {t:TT} (hc:PT X c t):PTs X [c] t:=fun pins s σ H Q I h=>wpAny_tests_one (hc pins s σ H Q I h)
def aci (J:It) (g:TG) (tt:TT) (tb:TB):TB:=fun σ H Q=>∃ W:Nat->Nat->St->Hp->Prop,(∃ m,W 0 m σ H)/\∀ i m σ H,W i m σ H ->
 (J.stop i H/\Q σ H) \/ (J.go i H/\∀ x H',J.yld i H x H'->g x σ H' fun σ2 H2=>tt σ2 H2 fun b H3=>if b=true then tb σ2 H3 fun σ' H'=>∃ m',m'<m/\W (i+1) m' σ' H' else ∃ m',m'<m/\W (i+1) m' σ2 H3)
section
variable {X:Cx} {pins:List (Addr×Obj)} {s:Shared} {σ:St} {H:Hp} {tg:Expr} {e:Expr} {d:Nat} {acc:Value} {ifs:List Expr} {g:TG} {tt:TT} {tb:TB} {act:Sem Unit} {pos:Pos}
theorem adZ (hx:∀ e s,X.xe e s->False) (hc:X.calm=true) (hg:PG X tg g) (ht:PTs X ifs tt) (hb:PB X act tb)
  (heq:∀ it,compTurn e d it acc X.env=(do
   standAt pos
   match <- pyNext it with
   | none=>pure (.done .next)
   | some v =>
    letOwnedTupleGo tg it v
    assign tg X.env v
    let mut ok:=true
    for c in ifs do
     if ok then ok <- isTrue c X.env (eval c X.env)
    if ok then
     act
    again (.compLoop e d it acc X.env)))
  (hqt:∀ it,(Code.compLoop e d it acc X.env).quiet=true)
  (hden:∀ it,(model X.prog X.w).den (.compLoop e d it acc X.env)=(compTurn e d it acc X.env).onRaise (fun x=>do noteFrame x X.env;theTreesLotGoes x))
  (hund:∀ it,X.A.under (.compLoop e d it acc X.env)=X.A)
  {it:Addr} {fp:List Addr} {tn:Nat->Heap->Prop} {J:It} {Q:St->Hp->Prop} {R:Result->Shared->Prop} (I:Inv X pins σ H s) (T:Turn X.prog X.w X.K tg J fp it tn) (st:tn 0 s.heap) (f:∀ b∈fp,vE X pins H b)
  (h:aci J g tt tb σ H Q) (hR:∀ σ' H' s',Inv X pins σ' H' s'->(∀ b∈fp,H' b=none)->Q σ' H'->R (.ok .next) s'):codeAny (model X.prog X.w) X.A (.compLoop e d (.ref it) acc X.env) R s:=by
 obtain⟨W,⟨m0,w0⟩,turn⟩:=h
 have stat:∀ {H':Hp},(∀ b∈fp,H' b=none)->∀ b∈fp,vE X pins H' b:=fun hn b hb=>⟨hn b hb,(f b hb).2⟩
 refine codeAny_loop (hqt _) (fun n s'=>∃ i σ' H',Inv X pins σ' H' s'/\tn i s'.heap/\(∀ b∈fp,H' b=none)/\W i n σ' H') ?_ m0 ⟨0,σ,H,I,st,fun b hb=>(f b hb).1,w0⟩
 rintro n s3 ⟨i,σ3,H3,I3,st3,fr3,w3⟩
 rw [hden,hund]
 refine wpAny_noted ?_
 rw [heq]
 have nox:∀ e' s',X.xe e' s'->notedBy (model X.prog X.w) X.A X.env (fun e s'=>R (.error e) s') e' s':=fun e' s' z=>(hx e' s' z).elim
 refine wpAny_bind (wpAny_standAt (wpAny_bind ?_))
 rcases turn i n σ3 H3 w3 with⟨stop,qn⟩ | ⟨go,step⟩
 ·refine wpAny_mono (T.done X rfl rfl rfl hc i pins s3 σ3 H3 X.xe I3 (stat fr3) st3 stop) (fun r s4 hr4=>?_) nox
  obtain⟨hr,I4⟩:=hr4
  subst hr
  exact wpAny_pure (hR σ3 H3 s4 I4 fr3 qn)
 ·refine wpAny_mono (T.item X rfl rfl rfl hc i pins s3 σ3 H3 X.xe I3 (stat fr3) st3 go) (fun r s4 hr4=>?_) nox
  obtain⟨u,hr,h4⟩:=hr4
  subst hr
  refine wpAny_bind (wpAny_mono h4 (fun _ s5 h5=>?_) nox)
  obtain⟨x,H5,I5,r5,y5,st5,fr5⟩:=h5
  have I5':=I5.pinned (stat fr5) (T.obj _ _ st5)
  refine wpAny_bind (wpAny_mono (hg _ s5 σ3 H5 x u _ I5' r5 (step x H5 y5)) (fun _ s6 h6=>?_) nox)
  obtain⟨σ6,H6,I6,q6⟩:=h6
  refine wpAny_bind (wpAny_mono (ht _ s6 σ6 H6 _ I6 q6) (fun ok s7 h7=>?_) nox)
  obtain⟨H7,I7,q7⟩:=h7
  have again:∀ {σ7:St} {H7:Hp} {s7:Shared},Inv X (pins++abc fp s5.heap) σ7 H7 s7->(∃ m',m'<n/\W (i+1) m' σ7 H7)->∃ m,m<n/\∃ i σ' H',Inv X pins σ' H' s7/\tn i s7.heap/\(∀ b∈fp,H' b=none)/\W i m σ' H':=fun {σ7 H7 s7} I7 n7=>by
   obtain⟨m',hm,w7⟩:=n7
   refine⟨m',hm,i+1,σ7,H7,I7.unpinned,T.keep _ _ _ st5 fun b hb o e=>(I7.pin (b,o) (apg _ (apg _ (qf hb e)))).1,fun b hb=>?_,w7⟩
   obtain⟨o,e,d⟩:=T.obj _ _ st5 b hb
   exact (I7.pin (b,o) (apg _ (apg _ (qf hb e)))).2.1
  cases ok with
  | false =>
   rw [if_neg aoY] at q7
   exact wpAny_pure ⟨rfl,again I7 q7⟩
  | true =>
   rw [if_pos rfl] at q7
   refine wpAny_bind (wpAny_mono (hb _ s7 σ6 H7 _ I7 q7) (fun _ s8 h8=>?_) nox)
   obtain⟨σ8,H8,I8,q8⟩:=h8
   exact wpAny_pure ⟨rfl,again I8 q8⟩
theorem ac0 {D:Addr} {elt:Expr} {te:TE} (he:PE X elt te):PB X (do let _ <- call (.builtin "list.append") [.ref D,<- eval elt X.env]) (fun σ H Q=>te σ H fun y H1=>∃ xs,H1 D=some (.lst xs)/\xs.length<sizeLine/\Q σ (upd H1 D (.lst (xs++[y])))):=by
 intro pins s σ H Q I h
 refine wpAny_bind (thn (he pins s σ H _ I h) fun v s1 h1=>?_)
 obtain⟨y,H1,I1,r1,xs,hD,hz,q⟩:=h1
 obtain⟨z,its,n,r,hl,e⟩:=I1.lstM hD
 refine wpAny_bind ?_
 refine call_meets F.slot_list_append ⟨_,e,rfl⟩ asW (asL _ _) (PySem.list_append D its.toArray n v (by rw [ape];omega)) ⟨e,?_⟩
 refine wpAny_pure ⟨σ,_,I1.lset (its':=its++[v]) hD e (by simp) (r.append (.cons r1 .nil)) ?_,q⟩
 rw [api,apO]
 omega
theorem ad0 {M:Model} {A:Around} {E:Value->Shared->Prop} {sc:Scope} {gl:Addr} {cl:List (Str×Addr)} {qual:Str} {env:Env} {Q:Env->Shared->Prop} {s:Shared}
  (h:Q { scope:=sc,locals:=s.heap.objs.size,globals:=gl,cells:=cellsFrom (s.heap.objs.size+1) sc.names cl,qual:=qual,func:=none,code:=env.code,frame:=env.frame,builtins:=env.builtins } { s with heap:=pushCells (s.heap.push { cls:=.type "dict",data:=.dict #[] }) sc.names }) :
  wpAny M A (newFunctionEnv sc gl cl [] qual none .none (some env)) Q E s:=by
 simp only [newFunctionEnv,Option.isSome_some,if_true]
 refine wpAny_bind (wpAny_alloc ?_)
 refine wpAny_bind (wpAny_layCells _ (fun name kind cells=>by cases hkc:kind == NameKind.cell <;> simp [hkc]) _ _ _ _ ?_)
 rw [show ({ s with heap:=s.heap.push { cls:=.type "dict",data:=.dict #[] } }:Shared).heap.objs.size=s.heap.objs.size+1 from aqW ..]
 refine wpAny_bind ?_
 rw [ark]
 exact wpAny_pure (wpAny_pure h)
theorem comp_back {sc:Scope} {N:List Str} {fp:List Addr} {σ':St} {H':Hp} {s':Shared} {h':Heap} (I:Inv X pins σ H s) (hf:∀ b∈fp,vE X pins H b) (J:Inv (zj X sc N s H fp (X.pn++pins)) [] σ' H' s') (hs:aqG s.heap.objs.size s'.heap h') :
  Inv X pins σ H' { s' with heap:=h' }:=by
 have u:Un (frs X.stack) fp H H' s.heap s'.heap:=J.base
 have ne:∀ b o,s.heap.get? b=some o->b≠s.heap.objs.size:=fun b o e=>apw (apc e)
 have hfree:H' s.heap.objs.size=none:=J.free
 refine I.call' (s':={ s' with heap:=h' }) (ch:=fp) J.os ⟨fun b o e n h1 h2=>(hs.2 b (ne b o e)).trans (u.keep b o e n h1 h2),fun b o e n h1 h2=>?_,u.free,fun b o e h2=>?_,u.tups,u.frzs,u.tbls⟩ (fun a o e=>?_) J.bare fun b hb=>?_
 ·obtain⟨sl,q⟩:=u.slot b o e n h1 h2
  exact⟨sl,(hs.2 b (ne b o e)).trans q⟩
 ·obtain⟨o',q⟩:=u.there b o e h2
  exact⟨o',(hs.2 b (ne b o e)).trans q⟩
 ·refine (J.hok a o e).stay (fun c v hc q=>(hs.2 c ?_).trans q) (fun _ q=>q) fun _ _ q=>q
  intro z
  subst z
  rcases hc with hc | hc
  ·rw [<-hc] at e
   rw [hfree] at e;cases e
  ·rw [hfree] at hc;cases hc
 ·exact⟨(hf b hb).2.2.2.1,(hf b hb).2.1,(hf b hb).2.2.2.2⟩
end
def jv (D:Addr) (te:TE):TB:=fun σ H Q=>te σ H fun y H1=>∃ xs,H1 D=some (.lst xs)/\xs.length<sizeLine/\Q σ (upd H1 D (.lst (xs++[y])))
def jf (wi:TI) (own:Nat) (fr:List Nat) (g:TG) (tt:TT) (tb:Addr->TB):TE:=fun σ H Q=>wi σ H fun J H1=>∀ D,H1 D=none ->
 aci J g tt (tb D) (yV own fr σ) (upd H1 D (.lst [])) fun _ H2=>Q (.ref D) H2
section
variable {X:Cx} {pins:List (Addr×Obj)} {s:Shared} {σ:St} {H:Hp} {tg elt iter:Expr} {ifs:List Expr} {rest:List Comprehension} {sc scO:Scope} {NO N:List Str} {own:Nat} {fr:List Nat} {wi:TI} {g:TG} {tt:TT} {tb:Addr->TB} {pos:Pos}
theorem ad1 {RR:Value->Addr->Result->Shared->Prop} {it:Addr} {fp:List Addr} {tn:Nat->Heap->Prop} {J:It} {Q:VK} (S:CompScope NO scO N sc own fr) (hN:X.N=NO) (hsc:X.env.scope=scO) (hc:X.calm=true)
  (hg:∀ s₀ H₀ ex pn,PG (zj X sc N s₀ H₀ ex pn) tg g) (ht:∀ s₀ H₀ ex pn,PTs (zj X sc N s₀ H₀ ex pn) ifs tt)
  (hb:∀ D s₀ H₀ ex pn,∃ act,PB (zj X sc N s₀ H₀ ex pn) act (tb D)/\∀ it,compTurn (.ListComp elt (⟨tg,iter,ifs,0⟩ :: rest) sc pos) 0 it (.ref D) (zj X sc N s₀ H₀ ex pn).env=(do
   standAt iter.pos
   match <- pyNext it with
   | none=>pure (.done .next)
   | some v =>
    letOwnedTupleGo tg it v
    assign tg (zj X sc N s₀ H₀ ex pn).env v
    let mut ok:=true
    for c in ifs do
     if ok then ok <- isTrue c (zj X sc N s₀ H₀ ex pn).env (eval c (zj X sc N s₀ H₀ ex pn).env)
    if ok then
     act
    again (.compLoop (.ListComp elt (⟨tg,iter,ifs,0⟩ :: rest) sc pos) 0 it (.ref D) (zj X sc N s₀ H₀ ex pn).env)))
  (I:Inv X pins σ H s) (T:Turn X.prog X.w X.K tg J fp it tn) (st:tn 0 s.heap) (f:∀ b∈fp,vE X pins H b)
  (h:∀ D,H D=none->aci J g tt (tb D) (yV own fr σ) (upd H D (.lst [])) fun _ H2=>Q (.ref D) H2)
  (hRR:∀ (D C:Addr) (s':Shared) (H':Hp),(∃ m,s'.heap.Ns C m)->C≠X.env.locals->(∀ x c,X.env.cells.lookup x=some c->c≠C)->H' C=none->X.s₀.heap.objs.size<=C->(∀ p∈X.pn++pins,p.1≠C)->Inv X pins σ H' s'->Q (.ref D) H'->RR (.ref D) C (.ok .next) s') :
  wpAny (model X.prog X.w) X.A (newList []) (fun acc s₃=>wpAny (model X.prog X.w) X.A (newFunctionEnv sc X.env.globals (z9 X.env sc.names []) [] X.env.qual none .none (some X.env)) (fun cenv s₄ =>
   codeAny (model X.prog X.w) X.A (.compStart (.ListComp elt (⟨tg,iter,ifs,0⟩ :: rest) sc pos) 0 (.ref it) acc { cenv with scope:=relabel sc X.env }) (RR acc cenv.locals) s₄) X.xe s₃) X.xe s:=by
 refine wpAny_newObj_type (ad0 ?_)
 have fpsz:∀ b∈fp,b<s.heap.objs.size:=fun b hb=>by
  obtain⟨o,e,_⟩:=T.obj _ _ st b hb
  exact apc e
 have I3:=I.lnew (its:=[]) (ys:=[]) (t':=s.toks) .nil (apC _)
 have f3:∀ b∈fp,vE X pins (upd H s.heap.objs.size (.lst [])) b:=fun b hb=>⟨by rw [zr (apw (fpsz b hb))];exact (f b hb).1,(f b hb).2⟩
 have st3:tn 0 (s.heap.push { cls:=.type "list",data:=.seq ([]:List Value).toArray }):=T.keep _ _ _ st fun b _ o e=>ao2 _ e
 have I4:=ais (tk:=s.toks) S hN hsc I3 f3 (T.obj _ _ st3)
 obtain⟨act,pb,heq⟩:=hb s.heap.objs.size _ _ _ _
 have st4:=T.keep _ _ (pushCells ((s.heap.push { cls:=.type "list",data:=.seq ([]:List Value).toArray }).push { cls:=.type "dict",data:=.dict #[] }) sc.names) st3 fun b _ o e=>pushCells_keeps _ _ _ _ (ao2 _ e)
 have cells_lt:∀ x c,X.env.cells.lookup x=some c->c<s.heap.objs.size:=fun x c e=>by
  obtain⟨v,o,ho,hd⟩:=I.cell x c e
  exact apc ho
 have esz:(s.heap.push { cls:=.type "list",data:=.seq ([]:List Value).toArray }).objs.size=s.heap.objs.size+1:=aqW ..
 have loop:=adZ (X:=zj X sc N { s with heap:=s.heap.push { cls:=.type "list",data:=.seq ([]:List Value).toArray } } (upd H s.heap.objs.size (.lst [])) fp (X.pn++pins)) (R:=RR (.ref s.heap.objs.size) (s.heap.push { cls:=.type "list",data:=.seq ([]:List Value).toArray }).objs.size) (fun _ _ z=>z) hc (hg _ _ _ _) (ht _ _ _ _) pb heq (fun _=>rfl) (fun _=>rfl) (fun _=>rfl) I4 T st4
  (fun b hb=>⟨(f3 b hb).1,I4.ok.exf b hb |>.1,I4.ok.exfs b hb,.inl hb,I4.ok.exf b hb |>.2,fun p hp=>by
   have hp':p∈X.pn++pins:=by simpa [zj] using hp
   exact (f b hb).2.2.2.2.2 p hp'⟩) (h _ I.fresh)
  (fun σ' H' s' J' fr' q'=>hRR _ _ s' H' (let⟨m,hm,_⟩:=J'.loc;⟨m,hm⟩) (by rw [esz];exact aq1 (aqj I.lt)) (fun x c e=>by rw [esz];exact apw (aqj (cells_lt x c e))) J'.free (by rw [esz];exact Nat.le_succ_of_le I.sz) (fun p hp=>by rw [esz];exact apw (aqj (apc (I.pin p hp).1))) (comp_back (h':=s'.heap) I3 f3 J' (Heap.SameBut.refl ..)) q')
 exact codeAny_compStart_list loop (T.self X.A 0 _ _ _ st4 loop)
theorem Inv.touch {C:Addr} {h':Heap} (I:Inv X pins σ H s) (hs:aqG C s.heap h') (hn:H C=none) (h0:C≠X.env.locals) (h1:∀ x c,X.env.cells.lookup x=some c->c≠C) (h2:X.s₀.heap.objs.size<=C) (h3:∀ p∈X.pn++pins,p.1≠C) :
  Inv X pins σ H { s with heap:=h' } :=
 I.turned (t':=s.toks) (fun b o hb e=>(hs.2 b hb).trans e) hn h0 (.inr h2) h1 h3
theorem abV {prog:Program} {w:World} {A:Around} {R:Result->Shared->Prop} {s:Shared} {elt':Expr} {g0:Comprehension} {tg' it':Expr} {ifs':List Expr} {sc':Scope} {pos':Pos} {itv acc:Value} {env:Env}
  (here:codeAny (model prog w) A (.compLoop (.ListComp elt' [g0,⟨tg',it',ifs',0⟩] sc' pos') 1 itv acc env) R s)
  (once:wpAny (model prog w) A (pyIter itv) (fun j s1=>codeAny (model prog w) A (.compLoop (.ListComp elt' [g0,⟨tg',it',ifs',0⟩] sc' pos') 1 j acc env) R s1) (notedBy (model prog w) A env fun x s1=>R (.error x) s1) s) :
  codeAny (model prog w) A (.compStart (.ListComp elt' [g0,⟨tg',it',ifs',0⟩] sc' pos') 1 itv acc env) R s:=by
 apply codeAny_of_tree
 show wpAny _ _ ((compStart (.ListComp elt' [g0,⟨tg',it',ifs',0⟩] sc' pos') 1 itv acc env).onRaise (fun z=>do noteFrame z env;standAt theWindowsPlace)) _ _ s
 apply wpAny_notedAt
 unfold compStart
 show wpAny _ _ (ask >>= _) _ _ s
 apply wpAny_bind
 apply wpAny_askSetting
 apply wpAny_ite
 split
 ·first
   | exact wpAny_bind (wpAny_pure (wpAny_pure (And.intro rfl here)))
   | exact wpAny_pure (And.intro rfl here)
 ·apply wpAny_bind
  apply wpAny_rule
  show wpAny _ _ (standAt it'.pos >>= _) _ _ s
  exact wpAny_bind (wpAny_standAt (wpAny_bind (wpAny_mono once (fun j s1 q=>wpAny_pure (And.intro rfl q)) fun _ _ z=>z)))
section
variable {elt2:Expr} {te:TE} {tg2 iter2:Expr} {ifs2:List Expr} {wi2:TI} {g2:TG} {tt2:TT} {tb2:TB} {y:Str} {i:Nat} {py spos:Pos}
def tIn (wi2:TI) (g2:TG) (tt2:TT) (tb2:TB):TB:=fun σ H Q=>wi2 σ H fun J H1=>aci J g2 tt2 tb2 σ H1 Q
theorem alV {D:Addr} (hx:∀ e s,X.xe e s->False) (hc:X.calm=true) (hi:PI X tg2 iter2 wi2) (hg:PG X tg2 g2) (ht:PTs X ifs2 tt2) (he:PE X elt te)
  (hs:∀ x,foldedSetIterable iter2 X.env x=pure x) :
  PB X (do
   let x <- eval iter2 X.env
   standAt iter2.pos
   let x <- foldedSetIterable iter2 X.env x
   let _ <- runOwn (.compStart (.ListComp elt [⟨tg,iter,ifs,0⟩,⟨tg2,iter2,ifs2,0⟩] sc pos) 1 (<- holding [x] (pyIter x)) (.ref D) X.env) X.env) (tIn wi2 g2 tt2 (jv D te)):=by
 intro pins s σ H Q I h
 refine wpAny_bind (thn (hi pins s σ H _ I h) fun v s1 h1=>?_)
 refine wpAny_bind (wpAny_standAt ?_)
 refine wpAny_bind (wpAny_of_eq (hs v) ?_)
 refine wpAny_bind (wpAny_holding (thn h1 fun itv s2 h2=>?_))
 obtain⟨it,fp,tn,J,H2,e,I2,T,st2,f2,q⟩:=h2
 subst e
 refine wpAny_bind (wpAny_runOwn ?_)
 have loop:=adZ (e:=.ListComp elt [⟨tg,iter,ifs,0⟩,⟨tg2,iter2,ifs2,0⟩] sc pos) (d:=1) (pos:=iter2.pos)
  (R:=fun r s'=>match r with | .ok f=>wpAny (model X.prog X.w) X.A (pure ()) (fun _ s'=>∃ σ' H',Inv X pins σ' H' s'/\Q σ' H') X.xe s' | .error e=>cameBackBy (model X.prog X.w) X.A X.env X.xe e s')
  hx hc hg ht (ac0 (D:=D) he) (fun _=>rfl) (fun _=>rfl) (fun _=>rfl) (fun _=>rfl) I2 T st2 f2 q (fun σ' H' s' J' _ q'=>wpAny_pure ⟨σ',H',J',q'⟩)
 exact abV loop (T.self X.A 0 _ _ _ st2 loop)
theorem af7 (S:CompScope NO scO N sc own fr) (hsc:X.env.scope=scO) (ok:X.Ok):closureFor sc X.env=pure (z9 X.env sc.names []) :=
 afd fun x hx=>ok.has x (by
  show X.env.scope.names.lookup x=_ \/ X.env.scope.names.lookup x=_
  rw [hsc]
  exact S.free _ hx rfl)
theorem af8 (S:CompScope NO scO N sc own fr) (hc:X.calm=true) (hi:PI X tg iter wi) (hg:∀ s₀ H₀ ex pn,PG (zj X sc N s₀ H₀ ex pn) tg g) (ht:∀ s₀ H₀ ex pn,PTs (zj X sc N s₀ H₀ ex pn) ifs tt)
  (hb:∀ D s₀ H₀ ex pn,∃ act,PB (zj X sc N s₀ H₀ ex pn) act (tb D)/\∀ it,compTurn (.ListComp elt (⟨tg,iter,ifs,0⟩ :: rest) sc pos) 0 it (.ref D) (zj X sc N s₀ H₀ ex pn).env=(do
   standAt iter.pos
   match <- pyNext it with
   | none=>pure (.done .next)
   | some v =>
    letOwnedTupleGo tg it v
    assign tg (zj X sc N s₀ H₀ ex pn).env v
    let mut ok:=true
    for c in ifs do
     if ok then ok <- isTrue c (zj X sc N s₀ H₀ ex pn).env (eval c (zj X sc N s₀ H₀ ex pn).env)
    if ok then
     act
    again (.compLoop (.ListComp elt (⟨tg,iter,ifs,0⟩ :: rest) sc pos) 0 it (.ref D) (zj X sc N s₀ H₀ ex pn).env)))
  (hN:X.N=NO) (hsc:X.env.scope=scO) (hs:∀ x,foldedSetIterable iter X.env x=pure x) :
  PE X (.ListComp elt (⟨tg,iter,ifs,0⟩ :: rest) sc pos) (jf wi own fr g tt tb):=by
 intro pins s σ H Q I h
 rw [eval_ListComp]
 refine wpAny_comprehension_free (use:=none) rfl hs (af7 S hsc I.ok) S.kind (fun p hp hl=>ye S.snd (k:=.local) (by rw [<-hl];exact hp)) (thn (hi pins s σ H _ I h) fun v s1 h1=>thn h1 fun itv s2 h2=>?_)
 obtain⟨it,fp,tn,J,H2,e,I2,T,st2,f2,q⟩:=h2
 subst e
 refine ad1 (RR:=fun acc C=>compPost (model X.prog X.w) X.A X.xe none (EP X pins σ Q) acc C) S hN hsc hc hg ht hb I2 T st2 f2 q ?_
 rintro D C s' H' ⟨m,hm⟩ c0 c1 c2 c3 c4 J' q'
 exact⟨m,hm,fun h' hs'=>⟨.ref D,H',J'.touch hs' c2 c0 c1 c3 c4,rfl,q'⟩⟩
theorem abj (S:CompScope NO scO N sc own fr) (hc:X.calm=true) (hNd:X.N.Nodup) (hiN:X.N[i]?=some y) (hy:Loc X.env.scope y) (hi:PI X tg iter wi) (hg:∀ s₀ H₀ ex pn,PG (zj X sc N s₀ H₀ ex pn) tg g) (ht:∀ s₀ H₀ ex pn,PTs (zj X sc N s₀ H₀ ex pn) ifs tt)
  (hb:∀ D s₀ H₀ ex pn,∃ act,PB (zj X sc N s₀ H₀ ex pn) act (tb D)/\∀ it,compTurn (.ListComp elt (⟨tg,iter,ifs,0⟩ :: rest) sc pos) 0 it (.ref D) (zj X sc N s₀ H₀ ex pn).env=(do
   standAt iter.pos
   match <- pyNext it with
   | none=>pure (.done .next)
   | some v =>
    letOwnedTupleGo tg it v
    assign tg (zj X sc N s₀ H₀ ex pn).env v
    let mut ok:=true
    for c in ifs do
     if ok then ok <- isTrue c (zj X sc N s₀ H₀ ex pn).env (eval c (zj X sc N s₀ H₀ ex pn).env)
    if ok then
     act
    again (.compLoop (.ListComp elt (⟨tg,iter,ifs,0⟩ :: rest) sc pos) 0 it (.ref D) (zj X sc N s₀ H₀ ex pn).env)))
  (hN:X.N=NO) (hsc:X.env.scope=scO) (hs:∀ x,foldedSetIterable iter X.env x=pure x) (hf:X.fn y=true \/ X.env.scope.names.lookup y=some .local)
  (hsw:swapsWith (.ListComp elt (⟨tg,iter,ifs,0⟩ :: rest) sc pos) (some (.Name y py)) spos.line X.env=pure true) :
  PS X (.Assign [.Name y py] (.ListComp elt (⟨tg,iter,ifs,0⟩ :: rest) sc pos) spos) (qe (jf wi own fr g tt tb) (yz i)):=by
 intro pins s σ H D I h
 rw [exec_Assign_Name_used _ _ _ _ hsw]
 refine wpAny_bind (wpAny_standAt (wpAny_bind ?_))
 show wpAny _ X.A (do let _ <- comprehension (.ListComp elt (⟨tg,iter,ifs,0⟩ :: rest) sc pos) sc X.env _ (newList []) false (eval iter X.env) (some (assign (.Name y py) X.env))) _ _ s
 refine wpAny_bind (wpAny_mono (wpAny_comprehension_free (use:=some (assign (.Name y py) X.env)) (Q:=fun _ s'=>SP X pins D .next s') rfl hs (af7 S hsc I.ok) S.kind (fun p hp hl=>ye S.snd (k:=.local) (by rw [<-hl];exact hp))
  (thn (hi pins s σ H _ I h) fun v s1 h1=>thn h1 fun itv s2 h2=>?_)) (fun _ s' hq=>wpAny_pure (wpAny_pure hq)) fun _ _ e=>e)
 obtain⟨it,fp,tn,J,H2,e,I2,T,st2,f2,q⟩:=h2
 subst e
 refine ad1 (Q:=fun x H1=>yz i x σ H1 D.nx) (RR:=fun acc C=>compPost (model X.prog X.w) X.A X.xe (some (assign (.Name y py) X.env)) (fun _ s'=>SP X pins D .next s') acc C) S hN hsc hc hg ht hb I2 T st2 f2 q ?_
 rintro A' C s' H' ⟨m,hm⟩ c0 c1 c2 c3 c4 J' q'
 show wpAny _ X.A (assign (.Name y py) X.env (.ref A')) _ _ _
 refine wpAny_assign_Name (ab5 (v:=.ref A') J' hNd hiN hy rfl (fun s2' I2' hsb=>?_) hf)
 obtain⟨a,hs2,ha⟩:=hsb
 have hCa:C≠a:=by
  rcases ha with ha | ha
  ·rw [ha];exact c0
  ·exact apT (c1 _ _ ha)
 exact⟨m,hm.sameBut hs2 hCa,fun h' hs'=>⟨_,H',I2'.touch hs' c2 c0 c1 c3 c4,q'⟩⟩
end
end
section
variable {X:Cx} {tg elt iter tg2 iter2:Expr} {ifs ifs2:List Expr} {sc scO:Scope} {NO N:List Str} {own:Nat} {fr:List Nat} {wi wi2:TI} {g g2:TG} {tt tt2:TT} {te:TE} {pos py spos:Pos} {y:Str} {i:Nat}
theorem ya (S:CompScope NO scO N sc own fr) (hc:X.calm=true) (hi:PI X tg iter wi) (hg:∀ s₀ H₀ ex pn,PG (zj X sc N s₀ H₀ ex pn) tg g) (ht:∀ s₀ H₀ ex pn,PTs (zj X sc N s₀ H₀ ex pn) ifs tt) (he:∀ s₀ H₀ ex pn,PE (zj X sc N s₀ H₀ ex pn) elt te)
  (hN:X.N=NO) (hsc:X.env.scope=scO) (hs:∀ x,foldedSetIterable iter X.env x=pure x):PE X (.ListComp elt [⟨tg,iter,ifs,0⟩] sc pos) (jf wi own fr g tt fun D=>jv D te) :=
 af8 S hc hi hg ht (fun D s₀ H₀ ex pn=>⟨_,ac0 (D:=D) (he s₀ H₀ ex pn),fun _=>rfl⟩) hN hsc hs
theorem aaG (S:CompScope NO scO N sc own fr) (hc:X.calm=true) (hNd:X.N.Nodup) (hiN:X.N[i]?=some y) (hy:Loc X.env.scope y) (hi:PI X tg iter wi) (hg:∀ s₀ H₀ ex pn,PG (zj X sc N s₀ H₀ ex pn) tg g) (ht:∀ s₀ H₀ ex pn,PTs (zj X sc N s₀ H₀ ex pn) ifs tt) (he:∀ s₀ H₀ ex pn,PE (zj X sc N s₀ H₀ ex pn) elt te)
  (hN:X.N=NO) (hsc:X.env.scope=scO) (hs:∀ x,foldedSetIterable iter X.env x=pure x) (hf:X.fn y=true \/ X.env.scope.names.lookup y=some .local)
  (hsw:swapsWith (.ListComp elt [⟨tg,iter,ifs,0⟩] sc pos) (some (.Name y py)) spos.line X.env=pure true) :
  PS X (.Assign [.Name y py] (.ListComp elt [⟨tg,iter,ifs,0⟩] sc pos) spos) (qe (jf wi own fr g tt fun D=>jv D te) (yz i)) :=
 abj S hc hNd hiN hy hi hg ht (fun D s₀ H₀ ex pn=>⟨_,ac0 (D:=D) (he s₀ H₀ ex pn),fun _=>rfl⟩) hN hsc hs hf hsw
end
theorem ad2 {elt tg iter tg2 iter2:Expr} {ifs ifs2:List Expr} {sc:Scope} {pos:Pos} {it acc:Value} {env:Env} :
  compTurn (.ListComp elt [⟨tg,iter,ifs,0⟩,⟨tg2,iter2,ifs2,0⟩] sc pos) 0 it acc env=(do
   standAt iter.pos
   match <- pyNext it with
   | none=>pure (.done .next)
   | some v =>
    letOwnedTupleGo tg it v
    assign tg env v
    let mut ok:=true
    for c in ifs do
     if ok then ok <- isTrue c env (eval c env)
    if ok then
     (do
      let x <- eval iter2 env
      standAt iter2.pos
      let x <- foldedSetIterable iter2 env x
      let _ <- runOwn (.compStart (.ListComp elt [⟨tg,iter,ifs,0⟩,⟨tg2,iter2,ifs2,0⟩] sc pos) 1 (<- holding [x] (pyIter x)) acc env) env)
    again (.compLoop (.ListComp elt [⟨tg,iter,ifs,0⟩,⟨tg2,iter2,ifs2,0⟩] sc pos) 0 it acc env)):=by
 unfold compTurn
 simp only [bind_assoc,pure_bind]
 rfl
section
variable {X:Cx} {tg elt iter tg2 iter2:Expr} {ifs ifs2:List Expr} {sc scO:Scope} {NO N:List Str} {own:Nat} {fr:List Nat} {wi wi2:TI} {g g2:TG} {tt tt2:TT} {te:TE} {pos py spos:Pos} {y:Str} {i:Nat}
theorem ad3 (S:CompScope NO scO N sc own fr) (hc:X.calm=true) (hi:PI X tg iter wi) (hg:∀ s₀ H₀ ex pn,PG (zj X sc N s₀ H₀ ex pn) tg g) (ht:∀ s₀ H₀ ex pn,PTs (zj X sc N s₀ H₀ ex pn) ifs tt)
  (hi2:∀ s₀ H₀ ex pn,PI (zj X sc N s₀ H₀ ex pn) tg2 iter2 wi2) (hg2:∀ s₀ H₀ ex pn,PG (zj X sc N s₀ H₀ ex pn) tg2 g2) (ht2:∀ s₀ H₀ ex pn,PTs (zj X sc N s₀ H₀ ex pn) ifs2 tt2)
  (he:∀ s₀ H₀ ex pn,PE (zj X sc N s₀ H₀ ex pn) elt te) (hN:X.N=NO) (hsc:X.env.scope=scO) (hs:∀ x,foldedSetIterable iter X.env x=pure x) (hs2:∀ s₀ H₀ ex pn x,foldedSetIterable iter2 (zj X sc N s₀ H₀ ex pn).env x=pure x) :
  PE X (.ListComp elt [⟨tg,iter,ifs,0⟩,⟨tg2,iter2,ifs2,0⟩] sc pos) (jf wi own fr g tt fun D=>tIn wi2 g2 tt2 (jv D te)) :=
 af8 S hc hi hg ht (fun D s₀ H₀ ex pn=>⟨_,alV (D:=D) (fun _ _ z=>z) hc (hi2 s₀ H₀ ex pn) (hg2 s₀ H₀ ex pn) (ht2 s₀ H₀ ex pn) (he s₀ H₀ ex pn) (hs2 s₀ H₀ ex pn),fun it=>ad2⟩) hN hsc hs
theorem ad4 (S:CompScope NO scO N sc own fr) (hc:X.calm=true) (hNd:X.N.Nodup) (hiN:X.N[i]?=some y) (hy:Loc X.env.scope y) (hi:PI X tg iter wi) (hg:∀ s₀ H₀ ex pn,PG (zj X sc N s₀ H₀ ex pn) tg g) (ht:∀ s₀ H₀ ex pn,PTs (zj X sc N s₀ H₀ ex pn) ifs tt)
  (hi2:∀ s₀ H₀ ex pn,PI (zj X sc N s₀ H₀ ex pn) tg2 iter2 wi2) (hg2:∀ s₀ H₀ ex pn,PG (zj X sc N s₀ H₀ ex pn) tg2 g2) (ht2:∀ s₀ H₀ ex pn,PTs (zj X sc N s₀ H₀ ex pn) ifs2 tt2)
  (he:∀ s₀ H₀ ex pn,PE (zj X sc N s₀ H₀ ex pn) elt te) (hN:X.N=NO) (hsc:X.env.scope=scO) (hs:∀ x,foldedSetIterable iter X.env x=pure x) (hs2:∀ s₀ H₀ ex pn x,foldedSetIterable iter2 (zj X sc N s₀ H₀ ex pn).env x=pure x)
  (hf:X.fn y=true \/ X.env.scope.names.lookup y=some .local)
  (hsw:swapsWith (.ListComp elt [⟨tg,iter,ifs,0⟩,⟨tg2,iter2,ifs2,0⟩] sc pos) (some (.Name y py)) spos.line X.env=pure true) :
  PS X (.Assign [.Name y py] (.ListComp elt [⟨tg,iter,ifs,0⟩,⟨tg2,iter2,ifs2,0⟩] sc pos) spos) (qe (jf wi own fr g tt fun D=>tIn wi2 g2 tt2 (jv D te)) (yz i)) :=
 abj S hc hNd hiN hy hi hg ht (fun D s₀ H₀ ex pn=>⟨_,alV (D:=D) (fun _ _ z=>z) hc (hi2 s₀ H₀ ex pn) (hg2 s₀ H₀ ex pn) (ht2 s₀ H₀ ex pn) (he s₀ H₀ ex pn) (hs2 s₀ H₀ ex pn),fun it=>ad2⟩) hN hsc hs hf hsw
end
section
variable {X:Cx} {pins:List (Addr×Obj)} {σ:St} {H:Hp} {s:Shared} {h':Heap} {fp:List Addr}
theorem Inv.turnedAll {t':Nat} (I:Inv X pins σ H s) (hf:∀ b∈fp,vE X pins H b) (k:∀ b o,b∉fp->s.heap.get? b=some o->h'.get? b=some o):Inv X pins σ H { s with heap:=h',toks:=t' }:=by
 refine I.step (g':=s.gens) (d':=s.drawn) (ch:=fp) (fun b hb=>⟨(hf b hb).2.2.2.1,(hf b hb).2.1,(hf b hb).2.2.2.2⟩) (fun b o _ _ hc e _=>k b o hc e) (fun b o _ _ hc e _=>⟨o.slots,k b o hc e⟩) (fun _ _ _ _ n=>n)
  (fun b o hc e=>⟨o,k b o hc e⟩) (fun _ _ e=>e) (fun _ _ _ e=>e) (fun b ps e=>⟨#[],by rw [e];simp⟩) (fun m hm=>?_) (fun b u e=>?_) I.bare
 ·obtain⟨o,es,ep,ho,r⟩:=hm
  exact⟨o,es,ep,k _ o (fun z=>(hf _ z).2.1 rfl) ho,r⟩
 ·refine (I.hok b u e).stay (fun c v hc q=>k c v (fun z=>?_) q) (fun _ q=>q) fun _ _ q=>q
  have hn:=(hf c z).1
  rcases hc with hc | hc
  ·subst hc;rw [e] at hn;cases hn
  ·rw [hc] at hn;cases hn
theorem Inv.turnedNew {t':Nat} {t:Addr} {o:HO} (I:Inv X pins σ H s) (hf:∀ b∈fp,vE X pins H b) (k:∀ b o,b∉fp->s.heap.get? b=some o->h'.get? b=some o) (ht:s.heap.objs.size<=t) (new:ObjOk X.prog X.w (upd H t o) h' t o) :
  Inv X pins σ (upd H t o) { s with heap:=h',toks:=t' }:=by
 have hn:H t=none:=I.hok.fresh ht
 have ne:∀ b ob,s.heap.get? b=some ob->b≠t:=fun b ob e=>apw (apk (apc e) ht)
 refine I.step (g':=s.gens) (d':=s.drawn) (ch:=fp) (fun b hb=>⟨(hf b hb).2.2.2.1,(hf b hb).2.1,(hf b hb).2.2.2.2⟩) (fun b o _ _ hc e _=>k b o hc e) (fun b o _ _ hc e _=>⟨o.slots,k b o hc e⟩) (fun b ob _ e n=>by rw [zr (ne b ob e)];exact n)
  (fun b o hc e=>⟨o,k b o hc e⟩) (fun b xs e=>by rw [zr (zJ e hn)];exact e) (fun b ob u e=>by rw [zr (zJ e hn)];exact e) (fun b ps e=>⟨#[],by rw [zr (zJ e hn),e];simp⟩) (fun m hm=>?_) (fun b u e=>?_) I.bare
 ·obtain⟨o,es,ep,ho,r⟩:=hm
  exact⟨o,es,ep,k _ o (fun z=>(hf _ z).2.1 rfl) ho,r⟩
 ·by_cases hb:b=t
  ·subst hb;rw [zq] at e;cases e;exact new
  ·rw [zr hb] at e
   refine (I.hok b u e).stay (fun c v hc q=>k c v (fun z=>?_) q) (fun c q=>by rw [zr (zJ q hn)];exact q) fun c xs q=>by rw [zr (zJ q hn)];exact q
   have hn':=(hf c z).1
   rcases hc with hc | hc
   ·subst hc;rw [e] at hn';cases hn'
   ·rw [hc] at hn';cases hn'
end
def Ite (K:aoZ) (a:Addr):It :=
 ⟨fun i H=>∃ xs x,SqL K H a xs/\xs[i]?=some x,fun i H x H'=>∃ t y,x=.ref t/\H t=none/\H'=upd H t (.tup [.int i,y])/\∀ xs,SqL K H a xs->xs[i]?=some y,fun i H=>∃ xs,SqL K H a xs/\xs.length<=i⟩
theorem ahf {P:Program} {w:World} {K:aoZ} {es:List Expr} {k:Nat} {pos:Pos} (a e it:Addr) (hne:e≠it):Turn P w K (.Tuple es k pos) (Ite K a) [e,it] e (fun i h=>(∃ old,IsEnum h e it i old)/\h.IsListIter it a i) where
 mem:=by simp
 obj:=fun i h st b hb=>by
  obtain⟨⟨old,se⟩,o,eo,c,d⟩:=st
  rcases ao7.mp hb with z | z
  ·subst z
   exact⟨_,se,fun v z=>by
    have z':Data.fields _=Data.cell v:=z
    cases z'⟩
  ·have z:b=it:=by simpa using z
   subst z
   exact⟨o,eo,fun v z=>by rw [d] at z;cases z⟩
 keep:=fun i h h' st kk=>⟨let⟨old,se⟩:=st.1;⟨old,kk e (by simp) _ se⟩,st.2.at fun o eo=>kk it (by simp) o eo⟩
 item:=by
  intro X hP hw hK hc i pins s σ H E I hf st hg
  subst hP hw hK
  obtain⟨xs,x,hq,hx⟩:=hg
  obtain⟨its,rv,p,hz⟩:=I.list hq
  obtain⟨u,hu,ru⟩:=rv.get hx
  obtain⟨⟨old,se⟩,si⟩:=st
  refine wpAny_pyNext_enum_item se si p.isList (x:=u) (by simpa using hu) hne fun h' so si' tp sz kp=>?_
  refine⟨_,rfl,?_⟩
  refine wpAny_letOwnedTupleGo_enum (s:={ s with heap:=h',toks:=s.toks+1 }) so fun h2 se2 sb=>?_
  have hlt:e<s.heap.objs.size:=apc se
  obtain⟨oi,eoi,_,_⟩:=id si
  have hlt2:it<s.heap.objs.size:=apc eoi
  have kk:∀ b o,b∉[e,it]->s.heap.get? b=some o->h2.get? b=some o:=fun b o hb eb=>by
   have h1:b≠e:=fun z=>hb (by simp [z])
   have h2':b≠it:=fun z=>hb (by simp [z])
   exact (sb.2 b h1).trans (kp b o h1 h2' eb)
  have I2:Inv X pins σ (upd H s.heap.objs.size (.tup [.int i,x])) { s with heap:=h2,toks:=s.toks+1 }:=I.turnedNew hf kk (ao6 _)
   ⟨by show 2<=sizeLine;decide,[.int i s.toks,u],.cons ⟨_,rfl⟩ (.cons ru .nil),⟨_,(sb.2 _ (aq1 hlt)).trans tp,rfl,_,rfl⟩⟩
  refine⟨.ref s.heap.objs.size,_,I2,rfl,⟨_,x,rfl,I.fresh,rfl,fun ys hy=>by rw [I.list_inj hy hq];exact hx⟩,⟨⟨_,se2⟩,?_⟩,fun b hb=>?_⟩
  ·exact si'.at fun o eo=>(sb.2 it (apT hne)).trans eo
  ·rw [zr]
   ·exact (hf b hb).1
   ·rcases ao7.mp hb with z | z
    ·subst z;exact apw hlt
    ·have z:b=it:=by simpa using z
     subst z;exact apw hlt2
 done:=by
  intro X hP hw hK hc i pins s σ H E I hf st hg
  subst hP hw hK
  obtain⟨xs,hq,hx⟩:=hg
  obtain⟨its,rv,p,hz⟩:=I.list hq
  obtain⟨⟨old,se⟩,si⟩:=st
  have hl:=rv.length
  exact wpAny_pyNext_enum_end (I.ok.hd hc) se si p.isList (by simp;omega) fun h' eb=>⟨rfl,I.turnedAll (t':=s.toks) hf fun b o hb e'=>eb b o (fun z=>hb (by simp [z])) e'⟩
 self:=fun _ _ _ _ _ st h=>let⟨_,se⟩:=st.1;wpAny_pyIter_enum se h
section
variable {X:Cx} {es:List Expr} {k:Nat} {tpos:Pos}
def af9 (K:aoZ) (ta:TA):TI:=fun σ H R=>ta σ H fun vs H1=>∃ a,vs=[.ref a]/\(∃ xs,SqL K H1 a xs)/\R (Ite K a) H1
theorem akB {a:Expr} {ta:TA} {p pos:Pos} (hg:Gl X "enumerate") (hm:X.mg "enumerate"=none) (ha:PA X [a] ta) (hs:starEach [a] X.env=[(false,eval a X.env)]:=by rfl):PI X (.Tuple es k tpos) (.Call (.Name "enumerate" p) [a] [] pos) (af9 X.K ta):=by
 intro pins s σ H R I h
 refine Call_ (aak I hg hm boot_enumerate (aqN (thn (ha pos pins s σ H _ I h) fun us s1 ⟨vs,H1,I1,r1,q1⟩=>?_) hs rfl))
 obtain⟨l,e,⟨xs,hq⟩,q⟩:=q1
 subst e
 cases r1 with
 | cons r rr =>
  cases rr
  cases r
  obtain⟨its,rv,p,hz⟩:=I1.list hq
  refine call_enumerate_list p.isList fun h' he hi hsz kp=>?_
  refine wpAny_pyIter_enum he ?_
  have hne:s1.heap.objs.size+1≠s1.heap.objs.size:=Nat.succ_ne_self _
  refine⟨s1.heap.objs.size+1,[s1.heap.objs.size+1,s1.heap.objs.size],_,_,H1,rfl,I1.kept (t':=s1.toks) kp,ahf l _ _ hne,⟨⟨_,he⟩,hi⟩,fun b hb=>?_,q⟩
  rcases ao7.mp hb with z | z
  ·subst z;exact I1.fpOk (ar8 _) (I1.hok.fresh (ar8 _))
  ·have z:b=s1.heap.objs.size:=by simpa using z
   subst z;exact I1.fpOk (ao6 _) (I1.hok.fresh (ao6 _))
end
theorem ait {K:aoZ} {a:Addr} {xs:List V} {g:TG} {tb:TS} {D:Ends} {σ:St} {H:Hp} (Pv:Nat->St->Hp->Prop) (h0:Pv 0 σ H) (hl:∀ i σ H,i<=xs.length->Pv i σ H->SqL K H a xs)
  (hs:∀ i x σ H t,xs[i]?=some x->Pv i σ H->H t=none->g (.ref t) σ (upd H t (.tup [.int i,x])) fun σ2 H2=>tb { D with nx:=Pv (i+1),ct:=Pv (i+1),bk:=D.nx } σ2 H2) (hd:∀ σ H,Pv xs.length σ H->D.nx σ H) :
  ∃ W:Nat->Nat->St->Hp->Prop,(∃ m,W 0 m σ H)/\∀ i m σ H,W i m σ H ->
   ((Ite K a).stop i H/\D.nx σ H) \/ ((Ite K a).go i H/\∃ N:St->Hp->Prop,(∀ σ' H',N σ' H'->∃ m',m'<m/\W (i+1) m' σ' H')/\∀ x H',(Ite K a).yld i H x H'->g x σ H' fun σ2 H2=>tb { D with nx:=N,ct:=N,bk:=D.nx } σ2 H2):=by
 refine⟨fun i m σ H=>Pv i σ H/\i<=xs.length/\m+i=xs.length,⟨xs.length,h0,apC _,rfl⟩,fun i m σ H ⟨p,hi,hm⟩=>?_⟩
 have q:=hl i σ H hi p
 by_cases hlt:i<xs.length
 ·refine .inr ⟨⟨xs,xs[i],q,aoW hlt⟩,Pv (i+1),fun σ' H' n=>⟨m - 1,by omega,n,hlt,by omega⟩,fun x H' hy=>?_⟩
  obtain⟨t,y,rfl,ht,rfl,hy⟩:=hy
  exact hs i y σ H t (hy xs q) p ht
 ·have e:i=xs.length:=by omega
  subst e
  exact .inl ⟨⟨xs,q,ao6 _⟩,hd σ H p⟩
mutual
def Rep (K:aoZ) (H:Hp):PyData->V->Prop
 | .none,v=>v=.non
 | .bool b,v=>v=.bl b
 | .int i,v=>v=.int i
 | .str x,v=>v=.str x
 | .list ds,v=>∃ a xs,v=.ref a/\SqL K H a xs/\Reps K H ds xs
 | .tuple ds,v=>∃ a xs,v=.ref a/\SqT K H a xs/\Reps K H ds xs
 | .dict _,_=>False
def Reps (K:aoZ) (H:Hp):List PyData->List V->Prop
 | [],xs=>xs=[]
 | d :: ds,xs=>∃ x r,xs=x :: r/\Rep K H d x/\Reps K H ds r
end
theorem Same.seqT {K:aoZ} {H H':Hp} {a:Addr} {xs:List V} (e:Same H H') (h:SqT K H a xs):SqT K H' a xs:=by
 rcases h with (h | ⟨o,h⟩) | h
 ·exact .inl (.inl (e _ _ h))
 ·exact .inl (.inr ⟨o,e _ _ h⟩)
 ·exact .inr h
mutual
theorem Rep.mono {K:aoZ} {H H':Hp} (e:Same H H'):∀ (d:PyData) (v:V),Rep K H d v->Rep K H' d v
 | .none,_,h=>by rw [Rep] at h ⊢;exact h
 | .bool _,_,h=>by rw [Rep] at h ⊢;exact h
 | .int _,_,h=>by rw [Rep] at h ⊢;exact h
 | .str _,_,h=>by rw [Rep] at h ⊢;exact h
 | .list ds,v,h=>by
  rw [Rep] at h ⊢
  obtain⟨a,xs,h1,h2,h3⟩:=h
  exact⟨a,xs,h1,e.seq h2,Reps.mono e ds xs h3⟩
 | .tuple ds,v,h=>by
  rw [Rep] at h ⊢
  obtain⟨a,xs,h1,h2,h3⟩:=h
  exact⟨a,xs,h1,e.seqT h2,Reps.mono e ds xs h3⟩
 | .dict _,_,h=>by rw [Rep] at h;exact h.elim
theorem Reps.mono {K:aoZ} {H H':Hp} (e:Same H H'):∀ (ds:List PyData) (xs:List V),Reps K H ds xs->Reps K H' ds xs
 | [],_,h=>by rw [Reps] at h ⊢;exact h
 | d :: ds,xs,h=>by
  rw [Reps] at h ⊢
  obtain⟨x,r,h1,h2,h3⟩:=h
  exact⟨x,r,h1,Rep.mono e d x h2,Reps.mono e ds r h3⟩
end
theorem rep_int {K:aoZ} {H:Hp} {i:Int} {v:V}:Rep K H (.int i) v↔v=.int i:=by rw [Rep]
theorem rep_bool {K:aoZ} {H:Hp} {b:Bool} {v:V}:Rep K H (.bool b) v↔v=.bl b:=by rw [Rep]
theorem rep_none {K:aoZ} {H:Hp} {v:V}:Rep K H .none v↔v=.non:=by rw [Rep]
theorem rep_str {K:aoZ} {H:Hp} {x:Str} {v:V}:Rep K H (.str x) v↔v=.str x:=by rw [Rep]
theorem rep_list {K:aoZ} {H:Hp} {ds:List PyData} {v:V}:Rep K H (.list ds) v↔∃ a xs,v=.ref a/\SqL K H a xs/\Reps K H ds xs:=by rw [Rep]
theorem rep_tuple {K:aoZ} {H:Hp} {ds:List PyData} {v:V}:Rep K H (.tuple ds) v↔∃ a xs,v=.ref a/\SqT K H a xs/\Reps K H ds xs:=by rw [Rep]
theorem reps_nil {K:aoZ} {H:Hp} {xs:List V}:Reps K H [] xs↔xs=[]:=by rw [Reps]
theorem reps_cons {K:aoZ} {H:Hp} {d:PyData} {ds:List PyData} {xs:List V}:Reps K H (d :: ds) xs↔∃ x r,xs=x :: r/\Rep K H d x/\Reps K H ds r:=by rw [Reps]
theorem Reps.nil' {K:aoZ} {H:Hp}:Reps K H [] []:=reps_nil.mpr rfl
theorem Reps.cons' {K:aoZ} {H:Hp} {d:PyData} {ds:List PyData} {x:V} {r:List V} (h:Rep K H d x) (t:Reps K H ds r):Reps K H (d :: ds) (x :: r):=reps_cons.mpr ⟨x,r,rfl,h,t⟩
theorem Reps.length {K:aoZ} {H:Hp}:∀ {ds:List PyData} {xs:List V},Reps K H ds xs->xs.length=ds.length
 | [],xs,h=>by rw [reps_nil.mp h];rfl
 | d :: ds,xs,h=>by
  obtain⟨x,r,rfl,_,h3⟩:=reps_cons.mp h
  rw [aph,aph,Reps.length h3]
theorem Reps.get {K:aoZ} {H:Hp}:∀ {ds:List PyData} {xs:List V} {i:Nat} {d:PyData},Reps K H ds xs->ds[i]?=some d->∃ x,xs[i]?=some x/\Rep K H d x
 | [],_,_,_,_,e=>by simp at e
 | d :: ds,xs,0,d',h,e=>by
  obtain⟨x,r,rfl,h2,_⟩:=reps_cons.mp h
  simp at e;subst e
  exact⟨x,rfl,h2⟩
 | d :: ds,xs,i+1,d',h,e=>by
  obtain⟨x,r,rfl,_,h3⟩:=reps_cons.mp h
  obtain⟨y,h1,h2⟩:=Reps.get (i:=i) h3 (by simpa using e)
  exact⟨y,by simpa using h1,h2⟩
theorem Reps.snoc {K:aoZ} {H:Hp} {d:PyData} {x:V} (h:Rep K H d x):∀ {ds:List PyData} {xs:List V},Reps K H ds xs->Reps K H (ds++[d]) (xs++[x])
 | [],xs,t=>by rw [reps_nil.mp t];exact .cons' h .nil'
 | d' :: ds,xs,t=>by
  obtain⟨y,r,rfl,h2,h3⟩:=reps_cons.mp t
  exact .cons' h2 (Reps.snoc h h3)
theorem Reps.append {K:aoZ} {H:Hp}:∀ {ds es:List PyData} {xs ys:List V},Reps K H ds xs->Reps K H es ys->Reps K H (ds++es) (xs++ys)
 | [],es,xs,ys,t,u=>by rw [reps_nil.mp t];exact u
 | d' :: ds,es,xs,ys,t,u=>by
  obtain⟨y,r,rfl,h2,h3⟩:=reps_cons.mp t
  exact .cons' h2 (Reps.append h3 u)
theorem Reps.ints {K:aoZ} {H:Hp}:∀ {ns:List Int} {xs:List V},Reps K H (ns.map .int) xs->xs=ns.map V.int
 | [],xs,h=>reps_nil.mp h
 | n :: ns,xs,h=>by
  obtain⟨x,r,rfl,h2,h3⟩:=reps_cons.mp h
  rw [rep_int.mp h2,Reps.ints h3];rfl
theorem Reps.ints' {K:aoZ} {H:Hp}:∀ (ns:List Int),Reps K H (ns.map .int) (ns.map V.int)
 | []=>.nil'
 | n :: ns=>.cons' (rep_int.mpr rfl) (Reps.ints' ns)
section
variable {X:Cx} {pins:List (Addr×Obj)} {σ:St} {H:Hp} {s:Shared}
mutual
theorem jU (I:Inv X pins σ H s):∀ (d:PyData) (v:V) (u:Value),Rep X.K H d v->RelV v u->∃ as,Reads s.heap u d as
 | .none,v,u,h,r=>by rw [rep_none.mp h] at r;cases r;exact⟨_,.none⟩
 | .bool b,v,u,h,r=>by rw [rep_bool.mp h] at r;cases r;exact⟨_,.bool b⟩
 | .int i,v,u,h,r=>by rw [rep_int.mp h] at r;obtain⟨t,rfl⟩:=r;exact⟨_,.int i t⟩
 | .str x,v,u,h,r=>by rw [rep_str.mp h] at r;obtain⟨t,rfl⟩:=r;exact⟨_,.str x t⟩
 | .list ds,v,u,h,r=>by
  obtain⟨a,xs,rfl,h2,h3⟩:=rep_list.mp h
  cases r
  obtain⟨its,rv,p,_⟩:=I.list h2
  obtain⟨o,ho,hc,n,hd⟩:=p.isList
  obtain⟨as,ra⟩:=jF I ds xs its h3 rv
  exact⟨_,.list ho hc hd (by simpa using ra)⟩
 | .tuple ds,v,u,h,r=>by
  obtain⟨a,xs,rfl,h2,h3⟩:=rep_tuple.mp h
  cases r
  obtain⟨its,rv,p,_⟩:=I.tuple h2
  obtain⟨o,ho,hc,n,hd⟩:=p
  obtain⟨as,ra⟩:=jF I ds xs its h3 rv
  exact⟨_,.tuple ho hc hd (by simpa using ra)⟩
 | .dict _,_,_,h,_=>by rw [Rep] at h;exact h.elim
theorem jF (I:Inv X pins σ H s):∀ (ds:List PyData) (xs:List V) (us:List Value),Reps X.K H ds xs->Vals xs us->∃ as,ReadsAll s.heap us ds as
 | [],xs,us,h,r=>by rw [reps_nil.mp h] at r;cases r;exact⟨_,.nil⟩
 | d :: ds,xs,us,h,r=>by
  obtain⟨x,q,rfl,h2,h3⟩:=reps_cons.mp h
  cases r with
  | cons r1 r2 =>
   obtain⟨as,ra⟩:=jU I d x _ h2 r1
   obtain⟨bs,rb⟩:=jF I ds q _ h3 r2
   exact⟨_,.cons ra rb⟩
end
def ahg (K:aoZ) (neg:Bool):R2:=fun x y H Q=>∃ d d',Rep K H d x/\Rep K H d' y/\d.canLay0=true/\d'.canLay0=true/\min d.depth d'.depth<=60/\Q (.bl (if neg then !apD d d' else apD d d')) H
theorem amH (hu:X.A.units+64<cLine):OpR X (compareOp .Eq) (ahg X.K false):=by
 intro pins s σ H x y v u Q I rx ry h
 obtain⟨d,d',h1,h2,c1,c2,hm,q⟩:=h
 obtain⟨as,ra⟩:=jU I d x v h1 rx
 obtain⟨bs,rb⟩:=jU I d' y u h2 ry
 exact SeqAt.compareEq_reads ra rb c1 c2 (by omega) ⟨.bl (apD d d'),H,I,rfl,q⟩
theorem amI (hu:X.A.units+64<cLine):OpR X (compareOp .NotEq) (ahg X.K true):=by
 intro pins s σ H x y v u Q I rx ry h
 obtain⟨d,d',h1,h2,c1,c2,hm,q⟩:=h
 obtain⟨as,ra⟩:=jU I d x v h1 rx
 obtain⟨bs,rb⟩:=jU I d' y u h2 ry
 exact SeqAt.compareNe_reads ra rb c1 c2 (by omega) ⟨.bl (!apD d d'),H,I,rfl,q⟩
theorem ahh (hc:X.calm=true):yo X (.builtin "min") (fun xs H Q=>∃ a ns,xs=[.ref a]/\SqL X.K H a (ns.map V.int)/\ns≠[]/\∀ M,M∈ns->(∀ b∈ns,M<=b)->Q (.int M) H):=by
 intro pins s σ H xs us Q I r h
 obtain⟨a,ns,rfl,hq,hne,q⟩:=h
 obtain⟨u,rfl,r1⟩:=vals1 r
 cases r1
 obtain⟨its,rv,p,_⟩:=I.list hq
 obtain⟨m,F⟩:=I.fr
 have hi:=intsAre_of rv
 obtain⟨ys,e⟩:=hi.allInts.items
 have hns:ns=ys.toList.map (·.1):=by rw [<-hi.numsOf,<- nums_intItems,<- e]
 have hsz:0<ys.size:=by
  have h3:0<ns.length:=arR.mpr hne
  rw [hns,aoX,apf] at h3;exact h3
 have hl:=p.isList
 rw [e] at hl
 refine min_intList (I.ok.hd hc) hl hsz fun v h' tk hv hk=>?_
 obtain⟨t,rfl⟩:=intItems_at hv
 obtain⟨_,h2⟩:=argBest_lt (numAt ys) (ys.size - 1)
 refine⟨.int _,H,I.kept (t':=tk) hk,⟨t,rfl⟩,q _ ?_ fun b hb=>?_⟩
 ·rw [hns,numAt_eq];exact getD_mem (by rw [aoX,apf];omega)
 ·rw [hns] at hb
  obtain⟨j,hj,rfl⟩:=mem_getD hb
  rw [aoX,apf] at hj
  rw [<-numAt_eq];exact h2 j (by omega)
theorem ahi (hc:X.calm=true):yo X (.builtin "max") (fun xs H Q=>∃ a ns,xs=[.ref a]/\SqL X.K H a (ns.map V.int)/\ns≠[]/\∀ M,M∈ns->(∀ b∈ns,b<=M)->Q (.int M) H):=by
 intro pins s σ H xs us Q I r h
 obtain⟨a,ns,rfl,hq,hne,q⟩:=h
 obtain⟨u,rfl,r1⟩:=vals1 r
 cases r1
 obtain⟨its,rv,p,_⟩:=I.list hq
 have hi:=intsAre_of rv
 obtain⟨ys,e⟩:=hi.allInts.items
 have hns:ns=ys.toList.map (·.1):=by rw [<-hi.numsOf,<- nums_intItems,<- e]
 have hsz:0<ys.size:=by
  have h3:0<ns.length:=arR.mpr hne
  rw [hns,aoX,apf] at h3;exact h3
 have hl:=p.isList
 rw [e] at hl
 refine max_intList (I.ok.hd hc) hl hsz fun v h' tk hv hk=>?_
 obtain⟨t,rfl⟩:=intItems_at hv
 obtain⟨_,h2⟩:=argBest_gt (numAt ys) (ys.size - 1)
 refine⟨.int _,H,I.kept (t':=tk) hk,⟨t,rfl⟩,q _ ?_ fun b hb=>?_⟩
 ·rw [hns,numAt_eq];exact getD_mem (by rw [aoX,apf];omega)
 ·rw [hns] at hb
  obtain⟨j,hj,rfl⟩:=mem_getD hb
  rw [aoX,apf] at hj
  rw [<-numAt_eq];exact h2 j (by omega)
end
inductive DV where
 | dat (d:PyData)
 | feed
 | own (k:Nat)
 | exc (C:Value)
 | mon (φ:Hp->V->Prop)
abbrev zm:=List (Option DV)
structure Fx where
 f:Option Addr
 M:List Addr
def hide (H:Hp) (f:Fx):Hp:=fun b=>if f.f=some b \/ b∈f.M then none else H b
structure FOk (f:Fx) (H:Hp):Prop where
 fd:∀ p,f.f=some p->∃ a b:Int,H p=some (.lst [.int a,.int b])/\0<=a/\0<=b/\b<2147483647
 mm:∀ b∈f.M,∃ o,H b=some o
 nm:∀ p,f.f=some p->p∉f.M
def RepV (K:aoZ) (f:Fx) (H:Hp):DV->V->Prop
 | .dat d,v=>Rep K (hide H f) d v
 | .feed,v=>∃ p,f.f=some p/\v=.ref p
 | .own k,v=>∃ p,f.M.reverse[k]?=some p/\v=.ref p
 | .exc C,v=>∃ a,v=.ref a/\hide H f a=some (.ext fun h=>∃ o,h.get? a=some o/\o.cls=C)
 | .mon φ,v=>∀ H',Same (hide H f) H'->φ H' v
structure Goes (f:Fx) (H H':Hp):Prop where
 sm:Same (hide H f) (hide H' f)
 ok:FOk f H'
 kp:∀ b∈f.M,H' b=H b
structure EnvOk (K:aoZ) (f:Fx) (ρ:zm) (σ:St) (H:Hp):Prop where
 len:ρ.length=σ.length
 get:∀ (i:Nat) x,ρ[i]?=some (some x)->∃ v,σ[i]?=some (some v)/\RepV K f H x v
 fd:FOk f H
theorem yN (H:Hp):hide H ⟨none,[]⟩=H:=by funext b;unfold hide;rw [if_neg (by rintro (h | h) <;> cases h)]
theorem zl (H:Hp) (f:Fx):Same (hide H f) H:=fun b o h=>by
 unfold hide at h
 split at h
 ·cases h
 ·exact h
theorem zF {H:Hp} {f:Fx} {b:Addr} {o:HO} (h:hide H f b=some o):¬ (f.f=some b \/ b∈f.M)/\H b=some o:=by
 unfold hide at h
 split at h
 ·cases h
 ·rename_i n;exact⟨n,h⟩
theorem zz {H:Hp} {f:Fx} {b:Addr} {o:HO} (n:¬ (f.f=some b \/ b∈f.M)) (h:H b=some o):hide H f b=some o:=by unfold hide;rw [if_neg n];exact h
theorem Goes.refl {f:Fx} {H:Hp} (h:FOk f H):Goes f H H:=⟨Same.refl _,h,fun _ _=>rfl⟩
theorem Goes.trans {f:Fx} {H H1 H2:Hp} (a:Goes f H H1) (b:Goes f H1 H2):Goes f H H2:=⟨a.1.trans b.1,b.2,fun x hx=>(b.kp x hx).trans (a.kp x hx)⟩
theorem Goes.of_same {f:Fx} {H H':Hp} (s:Same H H') (h:FOk f H):Goes f H H' :=
 ⟨fun b o e=>zz (zF e).1 (s b o (zF e).2),⟨fun p e=>let⟨a,b,h1,h2⟩:=h.fd p e;⟨a,b,s _ _ h1,h2⟩,fun b hb=>let⟨o,e⟩:=h.mm b hb;⟨o,s _ _ e⟩,h.nm⟩,fun b hb=>let⟨o,e⟩:=h.mm b hb;(s _ _ e).trans e.symm⟩
theorem zR {H:Hp} {p:Addr} (h:H p=none) (o:HO):Same H (upd H p o):=fun b u q=>by rw [zr (zJ q h)];exact q
theorem RepV.mono {K:aoZ} {f:Fx} {H H':Hp} (g:Goes f H H'):∀ {x:DV} {v:V},RepV K f H x v->RepV K f H' x v
 | .dat d,v,h=>Rep.mono g.1 d v h
 | .feed,v,h=>h
 | .own _,v,h=>h
 | .exc _,v,h=>let⟨a,e,q⟩:=h;⟨a,e,g.1 _ _ q⟩
 | .mon _,v,h=>fun H' s=>h H' (g.1.trans s)
theorem EnvOk.mono {K:aoZ} {f:Fx} {ρ:zm} {σ:St} {H H':Hp} (e:EnvOk K f ρ σ H) (g:Goes f H H'):EnvOk K f ρ σ H' :=
 ⟨e.len,fun i x h=>let⟨v,h1,h2⟩:=e.get i x h;⟨v,h1,h2.mono g⟩,g.2⟩
theorem EnvOk.set {K:aoZ} {f:Fx} {ρ:zm} {σ:St} {H:Hp} {x:DV} {v:V} (e:EnvOk K f ρ σ H) (i:Nat) (r:RepV K f H x v):EnvOk K f (ρ.set i (some x)) (σ.set i (some v)) H:=by
 refine⟨by rw [apP,apP];exact e.len,fun j y h=>?_,e.fd⟩
 by_cases hj:i=j
 ·subst hj
  by_cases hi:i<ρ.length
  ·rw [ap2 hi] at h
   cases h
   exact⟨v,by rw [ap2 (by rw [<-e.len];exact hi)],r⟩
  ·rw [apt (by rw [apP];omega)] at h;cases h
 ·rw [apY hj] at h ⊢
  exact e.get j y h
theorem fresh_ne {f:Fx} {H:Hp} {p:Addr} (h:FOk f H) (n:H p=none):¬ (f.f=some p \/ p∈f.M):=fun e=>by
 rcases e with e | e
 ·obtain⟨a,b,h1,_⟩:=h.fd p e
  rw [n] at h1;cases h1
 ·obtain⟨o,h1⟩:=h.mm p e
  rw [n] at h1;cases h1
inductive RepVs (K:aoZ) (f:Fx) (H:Hp):List DV->List V->Prop where
 | nil:RepVs K f H [] []
 | cons {x v xs vs}:RepV K f H x v->RepVs K f H xs vs->RepVs K f H (x :: xs) (v :: vs)
theorem RepVs.mono {K:aoZ} {f:Fx} {H H':Hp} (g:Goes f H H'):∀ {xs:List DV} {vs:List V},RepVs K f H xs vs->RepVs K f H' xs vs
 | _,_,.nil=>.nil
 | _,_,.cons r t=>.cons (r.mono g) (t.mono g)
theorem RepVs.length {K:aoZ} {f:Fx} {H:Hp}:∀ {xs:List DV} {vs:List V},RepVs K f H xs vs->vs.length=xs.length
 | _,_,.nil=>rfl
 | _,_,.cons _ t=>by rw [aph,aph,t.length]
section
variable (K:aoZ) (f:Fx)
def PEd (te:TE) (ρ:zm) (P:PyData->Prop):Prop:=∀ (σ:St) (H:Hp) (Q:VK),EnvOk K f ρ σ H->(∀ d v H',Goes f H H'->Rep K (hide H' f) d v->P d->Q v H')->te σ H Q
def PTd (tt:TT) (ρ:zm) (P:Bool->Prop):Prop:=∀ (σ:St) (H:Hp) (Q:Bool->Hp->Prop),EnvOk K f ρ σ H->(∀ b H',Goes f H H'->P b->Q b H')->tt σ H Q
def PAd (ta:TA) (ρ:zm) (P:List DV->Prop):Prop:=∀ (σ:St) (H:Hp) (Q:List V->Hp->Prop),EnvOk K f ρ σ H->(∀ xs vs H',Goes f H H'->RepVs K f H' xs vs->P xs->Q vs H')->ta σ H Q
structure DEnds where
 nx:zm->Prop
 rt:PyData->Prop
 bk:zm->Prop:=fun _=>False
 ct:zm->Prop:=fun _=>False
def PSd (ts:TS) (ρ:zm) (D:DEnds):Prop:=∀ (σ:St) (H:Hp) (E:Ends),EnvOk K f ρ σ H->(∀ ρ' σ' H',Goes f H H'->EnvOk K f ρ' σ' H'->D.nx ρ'->E.nx σ' H')->(∀ d v H',Goes f H H'->Rep K (hide H' f) d v->D.rt d->E.rt v H') ->
 (∀ ρ' σ' H',Goes f H H'->EnvOk K f ρ' σ' H'->D.bk ρ'->E.bk σ' H')->(∀ ρ' σ' H',Goes f H H'->EnvOk K f ρ' σ' H'->D.ct ρ'->E.ct σ' H')->ts E σ H
def spD {γ:Type} (n:Nat) (pre:γ->List DV->Prop) (post:γ->PyData->Prop):Sp:=fun vs H Q _=>∃ f xs c,RepVs K f H xs vs/\xs.length=n/\FOk f H/\pre c xs/\∀ r v H',Goes f H H'->Rep K (hide H' f) r v->post c r->Q v H'
end
section
variable {K:aoZ} {f:Fx} {ρ:zm} {P:PyData->Prop} {te ta tb tc:TE}
theorem zo {i:Nat} {d:PyData} (h:ρ[i]?=some (some (.dat d))) (p:P d):PEd K f (z6 i) ρ P:=fun σ H Q e q=>by
 obtain⟨v,h1,h2⟩:=e.get i _ h
 exact⟨v,h1,q d v H (.refl e.fd) h2 p⟩
theorem jw {i:Int} (p:P (.int i)):PEd K f (tC (.int i)) ρ P:=fun σ H Q e q=>q (.int i) _ H (.refl e.fd) (rep_int.mpr rfl) p
theorem amJ {i:Bool} (p:P (.bool i)):PEd K f (tC (.bl i)) ρ P:=fun σ H Q e q=>q (.bool i) _ H (.refl e.fd) (rep_bool.mpr rfl) p
theorem aaH {i:Str} (p:P (.str i)):PEd K f (tC (.str i)) ρ P:=fun σ H Q e q=>q (.str i) _ H (.refl e.fd) (rep_str.mpr rfl) p
theorem aiu (p:P .none):PEd K f (tC .non) ρ P:=fun σ H Q e q=>q .none _ H (.refl e.fd) (rep_none.mpr rfl) p
theorem PEd.imp {P':PyData->Prop} (h:PEd K f te ρ P) (i:∀ d,P d->P' d):PEd K f te ρ P':=fun σ H Q e q=>h σ H Q e fun d v H' g r p=>q d v H' g r (i d p)
theorem ahj {r:R2} (h:PEd K f ta ρ fun x=>PEd K f tb ρ fun y=>∀ (v w:V) (H:Hp) (Q:VK),FOk f H->Rep K (hide H f) x v->Rep K (hide H f) y w->(∀ d u H',Goes f H H'->Rep K (hide H' f) d u->P d->Q u H')->r v w H Q):PEd K f (tOp r ta tb) ρ P:=fun σ H Q e q =>
 h σ H _ e fun x v H1 g1 r1 p1=>p1 σ H1 _ (e.mono g1) fun y w H2 g2 r2 p2=>p2 v w H2 Q g2.2 (Rep.mono g2.1 x v r1) r2 fun d u H' g' r' p'=>q d u H' (g1.trans (g2.trans g')) r' p'
theorem aoL {r:V->Hp->VK->Prop} (h:PEd K f ta ρ fun x=>∀ (v:V) (H:Hp) (Q:VK),FOk f H->Rep K (hide H f) x v->(∀ d u H',Goes f H H'->Rep K (hide H' f) d u->P d->Q u H')->r v H Q):PEd K f (tUn r ta) ρ P:=fun σ H Q e q =>
 h σ H _ e fun x v H1 g1 r1 p1=>p1 v H1 Q g1.2 r1 fun d u H' g' r' p'=>q d u H' (g1.trans g') r' p'
theorem abk {g:Int->Int->Int} (h:PEd K f ta ρ fun x=>∃ i,x=.int i/\PEd K f tb ρ fun y=>∃ j,y=.int j/\P (.int (g i j))):PEd K f (tOp (rI0 fun i j=>.int (g i j)) ta tb) ρ P :=
 ahj (h.imp fun x ⟨i,ex,h2⟩=>h2.imp fun y ⟨j,ey,p⟩ v w H Q fo rx ry q=>by
  subst ex ey
  exact⟨i,j,rep_int.mp rx,rep_int.mp ry,q _ _ H (.refl fo) (rep_int.mpr rfl) p⟩)
theorem yP {C:Int->Int->Prop} {g:Int->Int->Int} (h:PEd K f ta ρ fun x=>∃ i,x=.int i/\PEd K f tb ρ fun y=>∃ j,y=.int j/\C i j/\P (.int (g i j))):PEd K f (tOp (rI C fun i j=>.int (g i j)) ta tb) ρ P :=
 ahj (h.imp fun x ⟨i,ex,h2⟩=>h2.imp fun y ⟨j,ey,c,p⟩ v w H Q fo rx ry q=>by
  subst ex ey
  exact⟨i,j,rep_int.mp rx,rep_int.mp ry,c,q _ _ H (.refl fo) (rep_int.mpr rfl) p⟩)
theorem acj {g:Int->Int->Bool} (h:PEd K f ta ρ fun x=>∃ i,x=.int i/\PEd K f tb ρ fun y=>∃ j,y=.int j/\P (.bool (g i j))):PEd K f (tOp (rI0 fun i j=>.bl (g i j)) ta tb) ρ P :=
 ahj (h.imp fun x ⟨i,ex,h2⟩=>h2.imp fun y ⟨j,ey,p⟩ v w H Q fo rx ry q=>by
  subst ex ey
  exact⟨i,j,rep_int.mp rx,rep_int.mp ry,q _ _ H (.refl fo) (rep_bool.mpr rfl) p⟩)
theorem vI {neg:Bool} (h:PEd K f ta ρ fun x=>PEd K f tb ρ fun y=>x.canLay0=true/\y.canLay0=true/\min x.depth y.depth<=60/\P (.bool (if neg then !apD x y else apD x y))):PEd K f (tOp (ahg K neg) ta tb) ρ P :=
 ahj (h.imp fun x h2=>h2.imp fun y ⟨c1,c2,c3,p⟩ v w H Q fo rx ry q =>
  ⟨x,y,Rep.mono (zl _ _) x v rx,Rep.mono (zl _ _) y w ry,c1,c2,c3,q _ _ H (.refl fo) (rep_bool.mpr rfl) p⟩)
theorem amK {n:Nat} {k:Int} {j:Nat} (h:(j:Int)=k) (hj:j<n):ixN n k=some j:=by
 unfold ixN
 rw [if_pos (by omega),if_pos (by omega)]
 congr 1
 omega
theorem abl (h:PEd K f ta ρ fun x=>∃ ds,x=.list ds/\PEd K f tb ρ fun y=>∃ k,y=.int k/\∃ d,atI ds k=some d/\P d):PEd K f (tOp (vH K) ta tb) ρ P :=
 ahj (h.imp fun x ⟨ds,ex,h2⟩=>h2.imp fun y ⟨k,ey,d,a,p⟩ v w H Q fo rx ry q=>by
  subst ex ey
  obtain⟨l,xs,rfl,hs,hr⟩:=rep_list.mp rx
  unfold atI at a
  cases hi:ixN ds.length k with
  | none=>rw [hi] at a;cases a
  | some j =>
   rw [hi] at a
   obtain⟨u,hu,ru⟩:=hr.get a
   exact⟨l,xs,k,u,rfl,rep_int.mp ry,(zl H f).seq hs,by unfold atI;rw [hr.length,hi];exact hu,q d u H (.refl fo) ru p⟩)
theorem aiv (h:PEd K f ta ρ fun x=>∃ ds,x=.tuple ds/\PEd K f tb ρ fun y=>∃ k,y=.int k/\∃ d,atI ds k=some d/\P d):PEd K f (tOp (amA K) ta tb) ρ P :=
 ahj (h.imp fun x ⟨ds,ex,h2⟩=>h2.imp fun y ⟨k,ey,d,a,p⟩ v w H Q fo rx ry q=>by
  subst ex ey
  obtain⟨l,xs,rfl,hs,hr⟩:=rep_tuple.mp rx
  unfold atI at a
  cases hi:ixN ds.length k with
  | none=>rw [hi] at a;cases a
  | some j =>
   rw [hi] at a
   obtain⟨u,hu,ru⟩:=hr.get a
   exact⟨l,xs,k,u,rfl,rep_int.mp ry,(zl H f).seqT hs,by unfold atI;rw [hr.length,hi];exact hu,q d u H (.refl fo) ru p⟩)
theorem alW {i:Nat} (hi:ρ[i]?=some (some .feed)) (h:PEd K f tb ρ fun y=>(y=.int 0/\∀ a:Int,0<=a->P (.int a)) \/ (y=.int 1/\∀ b:Int,0<=b->b<2147483647->P (.int b))):PEd K f (tOp (vH K) (z6 i) tb) ρ P:=fun σ H Q e q=>by
 obtain⟨v,h1,p,ef,ev⟩:=e.get i _ hi
 refine⟨v,h1,h σ H _ e fun y w H' g r c=>?_⟩
 obtain⟨a,b,hf,c1,c2,c3⟩:=g.2.fd p ef
 rcases c with⟨rfl,c⟩ | ⟨rfl,c⟩
 ·exact⟨p,_,0,.int a,ev,rep_int.mp r,SqL.of hf,rfl,q (.int a) _ H' g (rep_int.mpr rfl) (c a c1)⟩
 ·exact⟨p,_,1,.int b,ev,rep_int.mp r,SqL.of hf,rfl,q (.int b) _ H' g (rep_int.mpr rfl) (c b c2 c3)⟩
theorem yk {R:List DV->Prop} (p:R []):PAd K f y4 ρ R:=fun σ H Q e q=>q [] [] H (.refl e.fd) .nil p
theorem zB {R:List DV->Prop} {u:TA} (h:PEd K f te ρ fun x=>PAd K f u ρ fun xs=>R (.dat x :: xs)):PAd K f (zY te u) ρ R:=fun σ H Q e q =>
 h σ H _ e fun x v H1 g1 r1 p1=>p1 σ H1 _ (e.mono g1) fun xs vs H2 g2 r2 p2=>q (.dat x :: xs) (v :: vs) H2 (g1.trans g2) (.cons (RepV.mono (x:=.dat x) g2 r1) r2) p2
theorem afe {R:List DV->Prop} {u:TA} {i:Nat} (hi:ρ[i]?=some (some .feed)) (h:PAd K f u ρ fun xs=>R (.feed :: xs)):PAd K f (zY (z6 i) u) ρ R:=fun σ H Q e q=>by
 obtain⟨v,h1,h2⟩:=e.get i _ hi
 exact⟨v,h1,h σ H _ e fun xs vs H2 g2 r2 p2=>q (.feed :: xs) (v :: vs) H2 g2 (.cons (RepV.mono (x:=.feed) g2 h2) r2) p2⟩
def qh:List DV->Option (List PyData)
 | []=>some []
 | .dat d :: r=>(qh r).map (d :: ·)
 | .feed :: _=>none
 | .own _ :: _=>none
 | .exc _ :: _=>none
 | .mon _ :: _=>none
theorem qR {H:Hp}:∀ {xs:List DV} {vs:List V} {ds:List PyData},RepVs K f H xs vs->qh xs=some ds->Reps K (hide H f) ds vs
 | _,_,ds,.nil,e=>by cases e;exact .nil'
 | .dat d :: xs,v :: vs,ds,.cons r t,e=>by
  unfold qh at e
  cases q:qh xs with
  | none=>rw [q] at e;cases e
  | some es=>rw [q] at e;cases e;exact .cons' r (qR t q)
 | .feed :: xs,_,ds,.cons r t,e=>by cases e
 | .own _ :: xs,_,ds,.cons r t,e=>by cases e
 | .exc _ :: xs,_,ds,.cons r t,e=>by cases e
 | .mon _ :: xs,_,ds,.cons r t,e=>by cases e
theorem aiw {t:TA} (h:PAd K f t ρ fun xs=>∃ ds,qh xs=some ds/\ds.length<=1000/\P (.list ds)):PEd K f (abR t) ρ P:=fun σ H Q e q =>
 h σ H _ e fun xs vs H1 g1 r1 ⟨ds,ea,hl,p⟩=>by
  have rs:=qR r1 ea
  refine⟨by rw [rs.length];exact ap1 (zX hl),fun l hn=>?_⟩
  have sm:=zR hn (.lst vs)
  have g2:Goes f H1 (upd H1 l (.lst vs)):=.of_same sm g1.2
  exact q (.list ds) _ _ (g1.trans g2) (rep_list.mpr ⟨l,vs,rfl,.of (zz (fresh_ne g1.2 hn) zq),Reps.mono g2.1 ds vs rs⟩) p
theorem y6 {t:TA} (h:PAd K f t ρ fun xs=>∃ ds,qh xs=some ds/\ds.length<=1000/\P (.tuple ds)):PEd K f (aoa t) ρ P:=fun σ H Q e q =>
 h σ H _ e fun xs vs H1 g1 r1 ⟨ds,ea,hl,p⟩=>by
  have rs:=qR r1 ea
  refine⟨by rw [rs.length];exact ap1 (zX hl),fun l hn=>?_⟩
  have sm:=zR hn (.tup vs)
  have g2:Goes f H1 (upd H1 l (.tup vs)):=.of_same sm g1.2
  exact q (.tuple ds) _ _ (g1.trans g2) (rep_tuple.mpr ⟨l,vs,rfl,.of (zz (fresh_ne g1.2 hn) zq),Reps.mono g2.1 ds vs rs⟩) p
theorem zp {γ:Type} {n:Nat} {pre:γ->List DV->Prop} {post:γ->PyData->Prop} {E:XK} {t:TA} (c:γ) (h:PAd K f t ρ fun xs=>xs.length=n/\pre c xs/\∀ r,post c r->P r):PEd K f (vg (spD K n pre post) [] E t) ρ P:=fun σ H Q e q =>
 h σ H _ e fun xs vs H1 g1 r1 ⟨hl,hp,k⟩=>by
  refine⟨f,xs,c,by rw [apB];exact r1,hl,g1.2,hp,fun r v H' g' r' p'=>q r v H' (g1.trans g') r' (k r p')⟩
theorem aff {r:List V->Hp->VK->Prop} {t:TA} (h:PAd K f t ρ fun xs=>∃ ds,qh xs=some ds/\∀ (vs:List V) (H:Hp) (Q:VK),FOk f H->Reps K (hide H f) ds vs->(∀ d u H',Goes f H H'->Rep K (hide H' f) d u->P d->Q u H')->r vs H Q):PEd K f (tCB r t) ρ P:=fun σ H Q e q =>
 h σ H _ e fun xs vs H1 g1 r1 ⟨ds,ea,k⟩=>k vs H1 Q g1.2 (qR r1 ea) fun d u H' g' r' p'=>q d u H' (g1.trans g') r' p'
end
section
variable {K:aoZ} {f:Fx} {ρ:zm} {P:PyData->Prop} {B:Bool->Prop} {te ta tb tc:TE} {tt tu:TT}
theorem PTd.imp {B':Bool->Prop} (h:PTd K f tt ρ B) (i:∀ d,B d->B' d):PTd K f tt ρ B':=fun σ H Q e q=>h σ H Q e fun d H' g p=>q d H' g (i d p)
theorem yI (h:PEd K f te ρ fun d=>∃ k,d=.bool k/\B k):PTd K f (af0 te) ρ B:=fun σ H Q e q=>h σ H _ e fun d v H' g r ⟨k,ed,p⟩=>by
 subst ed
 exact⟨k,rep_bool.mp r,q k H' g p⟩
theorem t_b (h:PEd K f te ρ fun d=>∃ k,d=.bool k/\B k):PTd K f (tB te) ρ B:=fun σ H Q e q=>h σ H _ e fun d v H' g r ⟨k,ed,p⟩=>by
 subst ed
 exact⟨k,rep_bool.mp r,q k H' g p⟩
theorem aix (h:PTd K f tt ρ fun c=>if c=true then PTd K f tu ρ B else B false):PTd K f (anW tt tu) ρ B:=fun σ H Q e q=>h σ H _ e fun c H1 g p=>by
 cases c with
 | true =>
  rw [if_pos rfl] at p ⊢
  exact p σ H1 Q (e.mono g) fun b H2 g2 p2=>q b H2 (g.trans g2) p2
 | false =>
  rw [if_neg aoY] at p ⊢
  exact q false H1 g p
theorem akC (h:PTd K f tt ρ fun c=>if c=true then B true else PTd K f tu ρ B):PTd K f (tOr tt tu) ρ B:=fun σ H Q e q=>h σ H _ e fun c H1 g p=>by
 cases c with
 | true =>
  rw [if_pos rfl] at p ⊢
  exact q true H1 g p
 | false =>
  rw [if_neg aoY] at p ⊢
  exact p σ H1 Q (e.mono g) fun b H2 g2 p2=>q b H2 (g.trans g2) p2
theorem ack (h:PTd K f tt ρ fun c=>B (!c)):PTd K f (anY tt) ρ B:=fun σ H Q e q=>h σ H _ e fun c H1 g p=>q (!c) H1 g p
def aoM:PyData->Option Bool
 | .none=>some false
 | .bool b=>some b
 | .int i=>some (i != 0)
 | .list ds=>some (!ds.isEmpty)
 | .tuple ds=>some (!ds.isEmpty)
 | _=>none
def amL (K:aoZ) (ta:TE):TT:=fun σ H Q=>ta σ H fun x H'=>∃ k,amx K x H' k/\Q k H'
theorem amM {X:Cx} {a:Expr} (ha:PE X a ta) (he:∀ whole,isTrue a X.env whole=(do let v <- whole;standAt a.pos;holding [v] (truthy v))):PT X a (amL X.K ta):=ain ha he
theorem jx (h:PEd K f ta ρ fun d=>∃ k,aoM d=some k/\B k):PTd K f (amL K ta) ρ B:=fun σ H Q e q=>h σ H _ e fun d v H' g r ⟨k,ed,p⟩=>by
 refine⟨k,?_,q k H' g p⟩
 cases d with
 | none=>rw [rep_none.mp r];cases ed;rfl
 | bool b=>rw [rep_bool.mp r];cases ed;rfl
 | int i=>rw [rep_int.mp r];cases ed;rfl
 | str x=>cases ed
 | list ds =>
  obtain⟨a,xs,rfl,h1,h2⟩:=rep_list.mp r
  cases ed
  refine .inl ⟨xs,(zl _ _).seq h1,?_⟩
  cases ds with
  | nil=>rw [reps_nil.mp h2];rfl
  | cons d ds=>obtain⟨x,r,rfl,_⟩:=reps_cons.mp h2;rfl
 | tuple ds =>
  obtain⟨a,xs,rfl,h1,h2⟩:=rep_tuple.mp r
  cases ed
  refine .inr (.inl ⟨xs,(zl _ _).seqT h1,?_⟩)
  cases ds with
  | nil=>rw [reps_nil.mp h2];rfl
  | cons d ds=>obtain⟨x,r,rfl,_⟩:=reps_cons.mp h2;rfl
 | dict _=>cases ed
theorem akD (h:PTd K f tt ρ fun c=>if c=true then PEd K f ta ρ P else PEd K f tb ρ P):PEd K f (tIf tt ta tb) ρ P:=fun σ H Q e q=>h σ H _ e fun c H1 g p=>by
 cases c with
 | true=>rw [if_pos rfl] at p ⊢;exact p σ H1 Q (e.mono g) fun d v H2 g2 r2 p2=>q d v H2 (g.trans g2) r2 p2
 | false=>rw [if_neg aoY] at p ⊢;exact p σ H1 Q (e.mono g) fun d v H2 g2 r2 p2=>q d v H2 (g.trans g2) r2 p2
theorem abm (h:PEd K f ta ρ fun x=>∃ c,x=.bool c/\if c=true then PEd K f tb ρ P else P (.bool false)):PEd K f (alQ ta tb) ρ P:=fun σ H Q e q=>h σ H _ e fun x v H1 g r ⟨c,ex,p⟩=>by
 subst ex
 refine⟨c,rep_bool.mp r,?_⟩
 cases c with
 | true=>rw [if_pos rfl] at p ⊢;exact p σ H1 Q (e.mono g) fun d v H2 g2 r2 p2=>q d v H2 (g.trans g2) r2 p2
 | false=>rw [if_neg aoY] at p ⊢;exact q _ _ H1 g (rep_bool.mpr rfl) p
theorem afg (h:PEd K f ta ρ fun x=>∃ c,x=.bool c/\P (.bool !c)):PEd K f (alR ta) ρ P:=fun σ H Q e q=>h σ H _ e fun x v H1 g r ⟨c,ex,p⟩=>by
 subst ex
 exact⟨c,rep_bool.mp r,q _ _ H1 g (rep_bool.mpr rfl) p⟩
theorem aga {g g':Int->Int->Bool} (h:PEd K f ta ρ fun x=>∃ i,x=.int i/\PEd K f tb ρ fun y=>∃ j,y=.int j/\if g i j=true then PEd K f tc ρ fun z=>∃ k,z=.int k/\P (.bool (g' j k)) else P (.bool false)) :
  PEd K f (aim (rI0 fun i j=>.bl (g i j)) (rI0 fun i j=>.bl (g' i j)) ta tb tc) ρ P:=fun σ H Q e q=>h σ H _ e fun x v H1 g1 r1 ⟨i,ex,p1⟩=>p1 σ H1 _ (e.mono g1) fun y w H2 g2 r2 ⟨j,ey,p2⟩=>by
 subst ex ey
 refine⟨i,j,rep_int.mp r1,rep_int.mp r2,g i j,rfl,?_⟩
 by_cases hg:g i j=true
 ·rw [if_pos hg] at p2 ⊢
  exact p2 σ H2 _ ((e.mono g1).mono g2) fun z u H3 g3 r3 ⟨k,ez,p3⟩=>by
   subst ez
   exact⟨j,k,rep_int.mp r2,rep_int.mp r3,q _ _ H3 (g1.trans (g2.trans g3)) (rep_bool.mpr rfl) p3⟩
 ·rw [if_neg hg] at p2 ⊢
  exact q _ _ H2 (g1.trans g2) (rep_bool.mpr rfl) p2
theorem alX {t:TA} (h:PAd K f t ρ fun xs=>(∃ ds,xs=[.dat (.list ds)]/\P (.int ds.length)) \/ (∃ ds,xs=[.dat (.tuple ds)]/\P (.int ds.length))) :
  PEd K f (tCB (fun xs H Q=>∃ p ys,xs=[.ref p]/\(SqL K H p ys \/ SqT K H p ys)/\Q (.int ys.length) H) t) ρ P :=
 aff fun σ H Q e q=>h σ H Q e fun xs vs H' g r p=>by
  rcases p with⟨ds,rfl,p⟩ | ⟨ds,rfl,p⟩
  ·refine q _ vs H' g r ⟨_,rfl,fun vs H Q fo rs k=>?_⟩
   obtain⟨x,r,rfl,h2,h3⟩:=reps_cons.mp rs
   rw [reps_nil.mp h3]
   obtain⟨a,ys,rfl,s1,s2⟩:=rep_list.mp h2
   exact⟨a,ys,rfl,.inl ((zl _ _).seq s1),k (.int ds.length) _ H (.refl fo) (rep_int.mpr (by rw [s2.length])) p⟩
  ·refine q _ vs H' g r ⟨_,rfl,fun vs H Q fo rs k=>?_⟩
   obtain⟨x,r,rfl,h2,h3⟩:=reps_cons.mp rs
   rw [reps_nil.mp h3]
   obtain⟨a,ys,rfl,s1,s2⟩:=rep_tuple.mp h2
   exact⟨a,ys,rfl,.inr ((zl _ _).seqT s1),k (.int ds.length) _ H (.refl fo) (rep_int.mpr (by rw [s2.length])) p⟩
theorem afh {t:TA} (h:PAd K f t ρ fun xs=>∃ ns:List Int,xs=[.dat (.list (ns.map .int))]/\ns≠[]/\∀ M,M∈ns->(∀ b∈ns,M<=b)->P (.int M)) :
  PEd K f (tCB (fun xs H Q=>∃ a ns,xs=[.ref a]/\SqL K H a (ns.map V.int)/\ns≠[]/\∀ M,M∈ns->(∀ b∈ns,M<=b)->Q (.int M) H) t) ρ P :=
 aff fun σ H Q e q=>h σ H Q e fun xs vs H' g r ⟨ns,ex,hne,p⟩=>by
  subst ex
  refine q _ vs H' g r ⟨_,rfl,fun vs H Q fo rs k=>?_⟩
  obtain⟨x,r,rfl,h2,h3⟩:=reps_cons.mp rs
  rw [reps_nil.mp h3]
  obtain⟨a,ys,rfl,s1,s2⟩:=rep_list.mp h2
  rw [s2.ints] at s1
  exact⟨a,ns,rfl,(zl _ _).seq s1,hne,fun M h1 h2=>k (.int M) _ H (.refl fo) (rep_int.mpr rfl) (p M h1 h2)⟩
theorem afi {t:TA} (h:PAd K f t ρ fun xs=>∃ ns:List Int,xs=[.dat (.list (ns.map .int))]/\ns≠[]/\∀ M,M∈ns->(∀ b∈ns,b<=M)->P (.int M)) :
  PEd K f (tCB (fun xs H Q=>∃ a ns,xs=[.ref a]/\SqL K H a (ns.map V.int)/\ns≠[]/\∀ M,M∈ns->(∀ b∈ns,b<=M)->Q (.int M) H) t) ρ P :=
 aff fun σ H Q e q=>h σ H Q e fun xs vs H' g r ⟨ns,ex,hne,p⟩=>by
  subst ex
  refine q _ vs H' g r ⟨_,rfl,fun vs H Q fo rs k=>?_⟩
  obtain⟨x,r,rfl,h2,h3⟩:=reps_cons.mp rs
  rw [reps_nil.mp h3]
  obtain⟨a,ys,rfl,s1,s2⟩:=rep_list.mp h2
  rw [s2.ints] at s1
  exact⟨a,ns,rfl,(zl _ _).seq s1,hne,fun M h1 h2=>k (.int M) _ H (.refl fo) (rep_int.mpr rfl) (p M h1 h2)⟩
theorem aiy {g:Int->Int->Int} {t:TA} (h:PAd K f t ρ fun xs=>∃ i j,xs=[.dat (.int i),.dat (.int j)]/\P (.int (g i j))):PEd K f (tCB (fun xs H Q=>∃ i j,xs=[.int i,.int j]/\Q (.int (g i j)) H) t) ρ P :=
 aff fun σ H Q e q=>h σ H Q e fun xs vs H' g' r ⟨i,j,ex,p⟩=>by
  subst ex
  refine q _ vs H' g' r ⟨_,rfl,fun vs H Q fo rs k=>?_⟩
  obtain⟨x,r,rfl,h2,h3⟩:=reps_cons.mp rs
  obtain⟨y,r',rfl,h4,h5⟩:=reps_cons.mp h3
  rw [reps_nil.mp h5,rep_int.mp h2,rep_int.mp h4]
  exact⟨i,j,rfl,k _ _ H (.refl fo) (rep_int.mpr rfl) p⟩
theorem aiz {g:Int->Int} {t:TA} (h:PAd K f t ρ fun xs=>∃ i,xs=[.dat (.int i)]/\P (.int (g i))):PEd K f (tCB (fun xs H Q=>∃ i,xs=[.int i]/\Q (.int (g i)) H) t) ρ P :=
 aff fun σ H Q e q=>h σ H Q e fun xs vs H' g' r ⟨i,ex,p⟩=>by
  subst ex
  refine q _ vs H' g' r ⟨_,rfl,fun vs H Q fo rs k=>?_⟩
  obtain⟨x,r,rfl,h2,h3⟩:=reps_cons.mp rs
  rw [reps_nil.mp h3,rep_int.mp h2]
  exact⟨i,rfl,k _ _ H (.refl fo) (rep_int.mpr rfl) p⟩
theorem aiA {t:TA} (h:PAd K f t ρ fun xs=>(∃ ds,xs=[.dat (.list ds)]/\P (.list ds)) \/ (∃ ds,xs=[.dat (.tuple ds)]/\P (.list ds))) :
  PEd K f (tCB (fun xs H Q=>∃ p ys,xs=[.ref p]/\(SqL K H p ys \/ SqT K H p ys)/\∀ l,H l=none->Q (.ref l) (upd H l (.lst ys))) t) ρ P :=
 aff fun σ H Q e q=>h σ H Q e fun xs vs H' g r p=>by
  rcases p with⟨ds,rfl,p⟩ | ⟨ds,rfl,p⟩
  ·refine q _ vs H' g r ⟨_,rfl,fun vs H Q fo rs k=>?_⟩
   obtain⟨x,r,rfl,h2,h3⟩:=reps_cons.mp rs
   rw [reps_nil.mp h3]
   obtain⟨a,ys,rfl,s1,s2⟩:=rep_list.mp h2
   refine⟨a,ys,rfl,.inl ((zl _ _).seq s1),fun l hn=>?_⟩
   have g2:Goes f H (upd H l (.lst ys)):=.of_same (zR hn _) fo
   exact k (.list ds) _ _ g2 (rep_list.mpr ⟨l,ys,rfl,.of (zz (fresh_ne fo hn) zq),Reps.mono g2.1 ds ys s2⟩) p
  ·refine q _ vs H' g r ⟨_,rfl,fun vs H Q fo rs k=>?_⟩
   obtain⟨x,r,rfl,h2,h3⟩:=reps_cons.mp rs
   rw [reps_nil.mp h3]
   obtain⟨a,ys,rfl,s1,s2⟩:=rep_tuple.mp h2
   refine⟨a,ys,rfl,.inr ((zl _ _).seqT s1),fun l hn=>?_⟩
   have g2:Goes f H (upd H l (.lst ys)):=.of_same (zR hn _) fo
   exact k (.list ds) _ _ g2 (rep_list.mpr ⟨l,ys,rfl,.of (zz (fresh_ne fo hn) zq),Reps.mono g2.1 ds ys s2⟩) p
end
section
variable {K:aoZ} {f:Fx} {ρ:zm} {D:DEnds} {te ta tb:TE} {tt:TT} {ts tu:TS}
theorem jh (p:D.nx ρ):PSd K f adS ρ D:=fun σ H E e n _ _ _=>n ρ σ H (.refl e.fd) e p
theorem zV (h:PSd K f ts ρ { D with nx:=fun ρ'=>PSd K f tu ρ' D }):PSd K f (qz ts tu) ρ D:=fun σ H E e n r b c =>
 h σ H { E with nx:=tu E } e (fun ρ' σ' H' g e' p=>p σ' H' E e' (fun ρ'' σ'' H'' g' e'' p'=>n ρ'' σ'' H'' (g.trans g') e'' p') (fun d v H'' g' r' p'=>r d v H'' (g.trans g') r' p') (fun ρ'' σ'' H'' g' e'' p'=>b ρ'' σ'' H'' (g.trans g') e'' p') (fun ρ'' σ'' H'' g' e'' p'=>c ρ'' σ'' H'' (g.trans g') e'' p')) r b c
theorem yc (h:PEd K f te ρ D.rt):PSd K f (ag9 te) ρ D:=fun σ H E e n r b c=>h σ H _ e r
theorem qA (h:PEd K f te ρ fun _=>D.nx ρ):PSd K f (aaC te) ρ D:=fun σ H E e n r b c=>h σ H _ e fun d v H' g _ p=>n ρ σ H' g (e.mono g) p
theorem vJ (h:PTd K f tt ρ fun b=>if b=true then PSd K f ts ρ D else PSd K f tu ρ D):PSd K f (ae0 tt ts tu) ρ D:=fun σ H E e n r b c=>h σ H _ e fun k H1 g p=>by
 cases k with
 | true =>
  rw [if_pos rfl] at p ⊢
  exact p σ H1 E (e.mono g) (fun ρ'' σ'' H'' g' e'' p'=>n ρ'' σ'' H'' (g.trans g') e'' p') (fun d v H'' g' r' p'=>r d v H'' (g.trans g') r' p') (fun ρ'' σ'' H'' g' e'' p'=>b ρ'' σ'' H'' (g.trans g') e'' p') (fun ρ'' σ'' H'' g' e'' p'=>c ρ'' σ'' H'' (g.trans g') e'' p')
 | false =>
  rw [if_neg aoY] at p ⊢
  exact p σ H1 E (e.mono g) (fun ρ'' σ'' H'' g' e'' p'=>n ρ'' σ'' H'' (g.trans g') e'' p') (fun d v H'' g' r' p'=>r d v H'' (g.trans g') r' p') (fun ρ'' σ'' H'' g' e'' p'=>b ρ'' σ'' H'' (g.trans g') e'' p') (fun ρ'' σ'' H'' g' e'' p'=>c ρ'' σ'' H'' (g.trans g') e'' p')
def PGd (K:aoZ) (f:Fx) (g:TG) (d:PyData) (ρ:zm) (R:zm->Prop):Prop:=∀ (σ:St) (H:Hp) (v:V) (Q:St->Hp->Prop),EnvOk K f ρ σ H->Rep K (hide H f) d v->(∀ ρ' σ' H',Goes f H H'->EnvOk K f ρ' σ' H'->R ρ'->Q σ' H')->g v σ H Q
def aiB (K:aoZ) (f:Fx) (g:TGs) (ds:List PyData) (ρ:zm) (R:zm->Prop):Prop:=∀ (σ:St) (H:Hp) (vs:List V) (Q:St->Hp->Prop),EnvOk K f ρ σ H->Reps K (hide H f) ds vs->(∀ ρ' σ' H',Goes f H H'->EnvOk K f ρ' σ' H'->R ρ'->Q σ' H')->g vs σ H Q
theorem zi {i:Nat} {d:PyData} {R:zm->Prop} (h:R (ρ.set i (some (.dat d)))):PGd K f (yz i) d ρ R:=fun σ H v Q e r q=>q _ _ H (.refl e.fd) (e.set i (x:=.dat d) r) h
theorem z4 {R:zm->Prop} (h:R ρ):aiB K f aks [] ρ R:=fun σ H vs Q e r q=>⟨reps_nil.mp r,q ρ σ H (.refl e.fd) e h⟩
theorem zv {g:TG} {gs:TGs} {d:PyData} {ds:List PyData} {R:zm->Prop} (h:PGd K f g d ρ fun ρ'=>aiB K f gs ds ρ' R):aiB K f (aba g gs) (d :: ds) ρ R:=fun σ H vs Q e r q=>by
 obtain⟨x,r',rfl,h2,h3⟩:=reps_cons.mp r
 exact⟨x,r',rfl,h σ H x _ e h2 fun ρ' σ' H' g' e' p=>p σ' H' r' Q e' (Reps.mono g'.1 ds r' h3) fun ρ'' σ'' H'' g'' e'' p'=>q ρ'' σ'' H'' (g'.trans g'') e'' p'⟩
theorem yF {n:Nat} {gs:TGs} {ds:List PyData} {R:zm->Prop} (hn:ds.length=n) (h:aiB K f gs ds ρ R):PGd K f (aie K n gs) (.tuple ds) ρ R:=fun σ H v Q e r q=>by
 obtain⟨a,xs,rfl,h1,h2⟩:=rep_tuple.mp r
 exact⟨a,xs,rfl,(zl _ _).seqT h1,by rw [h2.length];exact hn,h σ H xs Q e h2 q⟩
theorem zN {g:TG} (h:PEd K f te ρ fun d=>PGd K f g d ρ D.nx):PSd K f (qe te g) ρ D:=fun σ H E e n r b c =>
 h σ H _ e fun d v H1 g1 r1 p1=>p1 σ H1 v _ (e.mono g1) r1 fun ρ' σ' H' g' e' p'=>n ρ' σ' H' (g1.trans g') e' p'
end
section
variable {K:aoZ} {f:Fx} {ρ:zm} {D:DEnds} {te ta tb:TE} {tt:TT} {ts tu:TS} {g:TG}
theorem afj {t:TA} (h:PAd K f t ρ fun xs=>∃ ds,xs=[.dat (.list ds)]/\∃ J:Nat->zm->Prop,J 0 ρ /\
   (∀ (i:Nat) d ρ',ds[i]?=some d->J i ρ'->PGd K f g (.tuple [.int i,d]) ρ' fun ρ2=>PSd K f ts ρ2 { D with nx:=J (i+1),ct:=J (i+1),bk:=D.nx })/\∀ ρ',J ds.length ρ'->D.nx ρ') :
  PSd K f (aij (af9 K t) g ts) ρ D:=fun σ H E e n r b c=>h σ H _ e fun xs vs H1 g1 r1 ⟨ds,ex,J,j0,js,jd⟩=>by
 subst ex
 cases r1 with
 | cons rx r' =>
  cases r'
  obtain⟨a,xs,rfl,h1,h2⟩:=rep_list.mp rx
  have hl:=h2.length
  refine⟨a,rfl,⟨xs,(zl _ _).seq h1⟩,ait (K:=K) (a:=a) (xs:=xs) (fun i σ' H'=>∃ ρ',EnvOk K f ρ' σ' H'/\Goes f H H'/\Goes f H1 H'/\J i ρ') ⟨ρ,e.mono g1,g1,.refl g1.2,j0⟩ (fun i σ' H' _ ⟨ρ',e',g',g1',p⟩=>(zl _ _).seq (g1'.1.seq h1)) (fun i y σ' H' tp hy ⟨ρ',e',g',g1',p⟩ hn=>?_) fun σ' H' ⟨ρ',e',g',_,p⟩=>n ρ' σ' H' g' e' (jd ρ' (by rw [<-hl];exact p))⟩
  have hi:i<ds.length:=by rw [<-hl];exact (ao1.mp hy).1
  obtain⟨z,hz,rz⟩:=h2.get (aoW hi)
  rw [hy] at hz
  cases hz
  have gn:Goes f H' (upd H' tp (.tup [.int i,y])):=.of_same (zR hn _) e'.fd
  have rt:Rep K (hide (upd H' tp (.tup [.int i,y])) f) (.tuple [.int i,ds[i]]) (.ref tp):=rep_tuple.mpr ⟨tp,_,rfl,.of (zz (fresh_ne e'.fd hn) zq),.cons' (rep_int.mpr rfl) (.cons' (Rep.mono gn.1 _ _ (Rep.mono g1'.1 _ _ rz)) .nil')⟩
  refine js i _ ρ' (aoW hi) p σ' _ _ _ (e'.mono gn) rt fun ρ2 σ2 H2 g2' e2 p2=>?_
  have g2:=gn.trans g2'
  exact p2 σ2 H2 _ e2 (fun ρ3 σ3 H3 g3 e3 p3=>⟨ρ3,e3,g'.trans (g2.trans g3),g1'.trans (g2.trans g3),p3⟩) (fun d v H3 g3 r3 p3=>r d v H3 (g'.trans (g2.trans g3)) r3 p3) (fun ρ3 σ3 H3 g3 e3 p3=>n ρ3 σ3 H3 (g'.trans (g2.trans g3)) e3 p3) (fun ρ3 σ3 H3 g3 e3 p3=>⟨ρ3,e3,g'.trans (g2.trans g3),g1'.trans (g2.trans g3),p3⟩)
end
def frD (fr:List Nat) (ρ:zm):zm:=fr.map fun j=>(ρ[j]?).getD none
def aap (own:Nat) (fr:List Nat) (ρ:zm):zm:=aqB own none++frD fr ρ
abbrev Fx.with (f:Fx) (D:Addr):Fx:=⟨f.f,D :: f.M⟩
section
variable {K:aoZ} {f:Fx} {ρ:zm} {σ:St} {H H':Hp} {D:Addr} {o:HO}
theorem acm {own:Nat} {fr:List Nat} (e:EnvOk K f ρ σ H):EnvOk K f (aap own fr ρ) (yV own fr σ) H:=by
 refine⟨by unfold aap yV frD;simp,fun i x h=>?_,e.fd⟩
 unfold aap frD at h
 unfold yV
 by_cases hi:i<own
 ·rw [ao9 (by simpa using hi),aqC] at h
  split at h <;> cases h
 ·rw [apd (by simpa using hi)] at h ⊢
  simp only [arx,ao5] at h ⊢
  cases hj:fr[i - own]? with
  | none=>rw [hj] at h;cases h
  | some j =>
   rw [hj] at h
   have h':(ρ[j]?).getD none=some x:=Option.some.inj h
   have hρ:ρ[j]?=some (some x):=by
    cases q:ρ[j]? with
    | none=>rw [q] at h';cases h'
    | some w=>rw [q] at h';exact congrArg some h'
   obtain⟨v,h1,h2⟩:=e.get j x hρ
   exact⟨v,by simp [h1],h2⟩
theorem yx:hide (upd H D o) (f.with D)=hide H (f.with D):=by
 funext b
 unfold hide
 by_cases hb:f.f=some b \/ b∈D :: f.M
 ·rw [if_pos hb,if_pos hb]
 ·rw [if_neg hb,if_neg hb]
  have:b≠D:=fun z=>hb (.inr (z▸apa))
  exact zr this
theorem jV:Same (hide H (f.with D)) (hide H f):=fun b o h=>by
 obtain⟨h1,h2⟩:=zF h
 exact zz (fun z=>h1 (z.elim .inl fun z=>.inr (ao3 _ z))) h2
theorem qS (hn:H D=none):Same (hide H f) (hide (upd H D o) (f.with D)):=fun b u h=>by
 obtain⟨h1,h2⟩:=zF h
 have hb:b≠D:=zJ h2 hn
 exact zz (fun z=>z.elim (fun z=>h1 (.inl z)) fun z=>(ao7.mp z).elim hb fun z=>h1 (.inr z)) (by rw [zr hb];exact h2)
theorem aiC (h:FOk f H) (hn:H D=none):FOk (f.with D) (upd H D o) :=
 ⟨fun p e=>let⟨a,b,h1,h2⟩:=h.fd p e;⟨a,b,by rw [zr (zJ h1 hn)];exact h1,h2⟩,fun b hb=>by
  rcases ao7.mp hb with rfl | hb
  ·exact⟨_,zq⟩
  ·obtain⟨o',h1⟩:=h.mm b hb
   exact⟨o',by rw [zr (zJ h1 hn)];exact h1⟩,fun p e hp=>by
  rcases ao7.mp hp with rfl | hp
  ·exact fresh_ne h hn (.inl e)
  ·exact h.nm p e hp⟩
theorem aiD (e:EnvOk K f ρ σ H) (hn:H D=none):EnvOk K (f.with D) ρ σ (upd H D o) :=
 ⟨e.len,fun i x h=>let⟨v,h1,h2⟩:=e.get i x h;⟨v,h1,by
  cases x with
  | dat d=>exact Rep.mono (qS hn) d v h2
  | feed=>exact h2
  | own k =>
   obtain⟨p,h3,h4⟩:=h2
   refine⟨p,?_,h4⟩
   show (D :: f.M).reverse[k]?=some p
   rw [ar9,ao9 (ao1.mp h3).1]
   exact h3
  | exc C =>
   obtain⟨a,h3,h4⟩:=h2
   exact⟨a,h3,qS hn _ _ h4⟩
  | mon φ=>exact fun H' s=>h2 H' ((qS hn).trans s)⟩,aiC e.fd hn⟩
theorem agb (hD:f.f≠some D) (e:EnvOk K (f.with D) ρ σ H):EnvOk K (f.with D) ρ σ (upd H D o) :=
 ⟨e.len,fun i x h=>let⟨v,h1,h2⟩:=e.get i x h;⟨v,h1,by
  cases x with
  | dat d =>
   have h2':Rep K (hide H (f.with D)) d v:=h2
   show Rep K (hide (upd H D o) (f.with D)) d v
   rw [yx];exact h2'
  | feed=>exact h2
  | own k=>exact h2
  | exc C =>
   obtain⟨a,h3,h4⟩:=h2
   refine⟨a,h3,?_⟩
   rw [yx]
   exact h4
  | mon φ =>
   intro H' s
   rw [yx] at s
   exact h2 H' s⟩,⟨fun p ep=>let⟨a,b,h1,h2⟩:=e.fd.fd p ep;⟨a,b,by rw [zr (fun z=>hD (by rw [<-z];exact ep))];exact h1,h2⟩,fun b hb=>by
   by_cases hb':b=D
   ·subst hb';exact⟨_,zq⟩
   ·rw [zr hb'];exact e.fd.mm b hb,e.fd.nm⟩⟩
end
section
variable {K:aoZ} {f:Fx} {ρ:zm} {P:PyData->Prop} {te tl:TE} {tt:TT} {g:TG} {own:Nat} {fr:List Nat}
structure CSt (K:aoZ) (f:Fx) (D:Addr) (H2:Hp) (ρ':zm) (es:List PyData) (σ:St) (H:Hp):Prop where
 env:EnvOk K (f.with D) ρ' σ H
 sm:Same (hide H2 (f.with D)) (hide H (f.with D))
 kp:∀ b∈f.M,H b=H2 b
 lst:∃ vs,H D=some (.lst vs)/\Reps K (hide H (f.with D)) es vs
theorem CSt.go {D:Addr} {H2 H H':Hp} {ρ':zm} {es:List PyData} {σ:St} (c:CSt K f D H2 ρ' es σ H) (gg:Goes (f.with D) H H') {ρ2:zm} {σ2:St} (e2:EnvOk K (f.with D) ρ2 σ2 H'):CSt K f D H2 ρ2 es σ2 H' :=
 ⟨e2,c.sm.trans gg.sm,fun b hb=>(gg.kp b (ao3 _ hb)).trans (c.kp b hb),let⟨vs,h1,h2⟩:=c.lst;⟨vs,(gg.kp D apa).trans h1,Reps.mono gg.sm es vs h2⟩⟩
theorem CSt.put {D:Addr} {H2 H:Hp} {ρ':zm} {es:List PyData} {σ:St} {d:PyData} {v:V} {vs:List V} (hD:f.f≠some D) (hM:D∉f.M) (c:CSt K f D H2 ρ' es σ H) (h1:H D=some (.lst vs)) (h2:Reps K (hide H (f.with D)) es vs) (r:Rep K (hide H (f.with D)) d v) :
  CSt K f D H2 ρ' (es++[d]) σ (upd H D (.lst (vs++[v]))) :=
 ⟨agb hD c.env,by rw [yx];exact c.sm,fun b hb=>(zr (fun (z:b=D)=>hM (z▸hb))).trans (c.kp b hb),⟨_,zq,by rw [yx];exact h2.snoc r⟩⟩
theorem ahk {D:Addr} {H2 H:Hp} {ρ':zm} {es:List PyData} {σ:St} {d:PyData} {v:V} {W:St->Hp->Prop} {R:zm->List PyData->Prop} (hD:f.f≠some D) (hM:D∉f.M) (c:CSt K f D H2 ρ' es σ H) (hl:es.length<1000) (r:Rep K (hide H (f.with D)) d v)
  (h:PGd K (f.with D) g d ρ' fun ρ2=>PTd K (f.with D) tt ρ2 fun b=>if b=true then PEd K (f.with D) te ρ2 fun e=>R ρ2 (es++[e]) else R ρ2 es)
  (hW:∀ ρ2 es2 σ2 H',CSt K f D H2 ρ2 es2 σ2 H'->R ρ2 es2->W σ2 H') :
  g v σ H fun σ2 H3=>tt σ2 H3 fun b H4=>if b=true then jv D te σ2 H4 W else W σ2 H4:=by
 refine h σ H v _ c.env r fun ρ2 σ2 H3 g3 e3 p3=>?_
 have c3:=c.go g3 e3
 refine p3 σ2 H3 _ e3 fun b H4 g4 p4=>?_
 have c4:=c3.go g4 (e3.mono g4)
 cases b with
 | false =>
  rw [if_neg aoY] at p4 ⊢
  exact hW _ _ _ _ c4 p4
 | true =>
  rw [if_pos rfl] at p4 ⊢
  refine p4 σ2 H4 _ (e3.mono g4) fun e u H5 g5 r5 p5=>?_
  have c5:=c4.go g5 ((e3.mono g4).mono g5)
  obtain⟨vs,h1,h2⟩:=c5.lst
  exact⟨vs,h1,zX (by rw [h2.length];omega),hW _ _ _ _ (c5.put hD hM h1 h2 r5) p5⟩
theorem ad5 {D:Addr} {H1 H:Hp} {ρ':zm} {es:List PyData} {σ σ':St} (hn:H1 D=none) (fo:FOk f H1) (c:CSt K f D (upd H1 D (.lst [])) ρ' es σ H):Goes f H1 H/\Rep K (hide H f) (.list es) (.ref D):=by
 obtain⟨vs,h1,h2⟩:=c.lst
 have nD:=fresh_ne fo hn
 refine⟨⟨((qS hn).trans c.sm).trans jV,⟨c.env.fd.fd,fun b hb=>c.env.fd.mm b (ao3 _ hb),fun p e hp=>c.env.fd.nm p e (ao3 _ hp)⟩,fun b hb=>?_⟩,rep_list.mpr ⟨D,vs,rfl,.of (zz nD h1),Reps.mono jV es vs h2⟩⟩
 rw [c.kp b hb,zr]
 obtain⟨o,h3⟩:=fo.mm b hb
 exact zJ h3 hn
theorem abn {D:Addr} {H1:Hp} {σ:St} (hn:H1 D=none) (e:EnvOk K f ρ σ H1):CSt K f D (upd H1 D (.lst [])) (aap own fr ρ) [] (yV own fr σ) (upd H1 D (.lst [])) :=
 ⟨aiD (acm e) hn,Same.refl _,fun _ _=>rfl,⟨[],zq,.nil'⟩⟩
theorem akE {t:TA} (h:PAd K f t ρ fun xs=>∃ j:Int,xs=[.dat (.int j)]/\j<=1000/\-1000<=j/\∃ R:Nat->zm->List PyData->Prop,R 0 (aap own fr ρ) [] /\
   (∀ D (i:Nat) ρ' es,(i:Int)<j->R i ρ' es->PGd K (f.with D) g (.int i) ρ' fun ρ2=>PTd K (f.with D) tt ρ2 fun b=>if b=true then PEd K (f.with D) te ρ2 fun e=>R (i+1) ρ2 (es++[e]) else R (i+1) ρ2 es) /\
   (∀ i ρ' es,R i ρ' es->es.length<=i)/\∀ ρ' es,R j.toNat ρ' es->P (.list es)) :
  PEd K f (jf (adV t) own fr g tt fun D=>jv D te) ρ P:=fun σ H Q e q=>h σ H _ e fun xs vs H1 g1 r1 ⟨j,ex,b1,b2,R,r0,rs,rl,re⟩=>by
 subst ex
 cases r1 with
 | @cons _ v0 _ _ rx r' =>
  cases r'
  have rx':Rep K (hide H1 f) (.int j) v0:=rx
  refine⟨j,by rw [rep_int.mp rx'],by omega,by omega,fun D hn=>?_⟩
  have nD:=fresh_ne g1.2 hn
  have hD:f.f≠some D:=fun z=>nD (.inl z)
  have hM:D∉f.M:=fun z=>nD (.inr z)
  have e1:=e.mono g1
  refine⟨fun i m σ' H'=>∃ ρ' es,CSt K f D (upd H1 D (.lst [])) ρ' es σ' H'/\R i ρ' es/\i<=j.toNat/\m+i=j.toNat,⟨j.toNat,_,[],abn hn e1,r0,apC _,rfl⟩,fun i m σ' H' ⟨ρ',es,c,p,hi,hm⟩=>?_⟩
  by_cases hlt:i<j.toNat
  ·refine .inr ⟨hlt,fun x H3 hy=>?_⟩
   obtain⟨rfl,rfl⟩:=hy
   have hz:(0:Int)+(i:Int)=(i:Int):=as7 _
   rw [hz]
   refine ahk (R:=R (i+1)) hD hM c (by have:=rl i ρ' es p;omega) ((rep_int (K:=K)).mpr rfl) (rs D i ρ' es (by omega) p) fun ρ2 es2 σ2 H4 c2 p2=>?_
   exact⟨m - 1,by omega,ρ2,es2,c2,p2,by omega,by omega⟩
  ·have ei:i=j.toNat:=by omega
   subst ei
   obtain⟨ge,rep⟩:=ad5 (σ':=σ') hn g1.2 c
   exact .inl ⟨ao6 _,q _ _ H' (g1.trans ge) rep (re ρ' es p)⟩
theorem ad6 {t:TA} (h:PAd K f t ρ fun xs=>∃ j:Int,xs=[.dat (.int j)]/\j<=1000/\-1000<=j/\∃ R:Nat->PyData->Prop,
   (∀ D (i:Nat),(i:Int)<j->PEd K (f.with D) te (some (.dat (.int i)) :: frD fr ρ) (R i))/\∀ es:List PyData,es.length=j.toNat->(∀ (i:Nat) e,es[i]?=some e->R i e)->P (.list es)) :
  PEd K f (jf (adV t) 1 fr (yz 0) acZ fun D=>jv D te) ρ P :=
 akE fun σ H Q e q=>h σ H Q e fun xs vs H' g' r' ⟨j,ex,b1,b2,R,rs,re⟩=>by
  refine q xs vs H' g' r' ⟨j,ex,b1,b2,fun i ρ' es=>(∃ x,ρ'=x :: frD fr ρ)/\es.length=i/\∀ (k:Nat) e,es[k]?=some e->R k e,⟨⟨none,rfl⟩,rfl,fun k e h=>by simp at h⟩,fun D i ρ' es hi p=>?_,fun i ρ' es p=>aqu p.2.1,fun ρ' es p=>re es p.2.1 p.2.2⟩
  obtain⟨⟨x,rfl⟩,hl,hp⟩:=p
  refine zi ?_
  intro σ H Q e q
  refine q true H (.refl e.fd) ?_
  dsimp only
  rw [if_pos rfl]
  refine (rs D i hi).imp fun d hd=>⟨⟨_,rfl⟩,by rw [api,hl];rfl,fun k e hk=>?_⟩
  by_cases hkl:k<es.length
  ·rw [ao9 hkl] at hk;exact hp k e hk
  ·rw [apd (by omega)] at hk
   have hk0:k - es.length=0:=by
    have:=(ao1.mp hk).1
    simp at this;omega
   rw [hk0] at hk
   cases hk
   have:k=i:=by omega
   subst this
   exact hd
end
section
variable {K:aoZ} {f:Fx} {ρ:zm} {D:DEnds} {te:TE} {i:Nat}
theorem ad7 {σ:St} {H:Hp} {p:Addr} {a b:Int} (e:EnvOk K f ρ σ H) (ef:f.f=some p) (h0:0<=a) (h1:0<=b) (h2:b<2147483647):Goes f H (upd H p (.lst [.int a,.int b])) :=
 have hM:=e.fd.nm p ef
 ⟨fun x o h=>by
  obtain⟨n,hx⟩:=zF h
  exact zz n (by rw [zr (fun z=>n (.inl (by rw [z];exact ef)))];exact hx),
 ⟨fun q eq=>by
   rw [ef] at eq;cases eq
   exact⟨a,b,zq,h0,h1,h2⟩,fun x hx=>by
   by_cases hxp:x=p
   ·subst hxp;exact absurd hx hM
   ·rw [zr hxp];exact e.fd.mm x hx,e.fd.nm⟩,
fun x hx=>zr (fun z=>hM (z▸hx))⟩
theorem agc (hi:ρ[i]?=some (some .feed)) (h:PEd K f te ρ fun d=>∃ a:Int,d=.int a/\0<=a/\D.nx ρ):PSd K f (qe te (acQ (z6 i) (tC (.int 0)) aaD)) ρ D:=fun σ H E e n r b c=>h σ H _ e fun d v H1 g1 r1 ⟨a,ed,h0,p⟩=>by
 subst ed
 obtain⟨u,h1,q,ef,eu⟩:=e.get i _ hi
 obtain⟨a',b',hf,c1,c2,c3⟩:=g1.2.fd q ef
 refine⟨u,h1,q,_,0,0,eu,rfl,hf,rfl,?_⟩
 rw [rep_int.mp r1]
 have g2:Goes f H1 (upd H1 q (.lst [.int a,.int b'])):=ad7 (e.mono g1) ef h0 c2 c3
 exact n ρ σ _ (g1.trans g2) ((e.mono g1).mono g2) p
theorem agd (hi:ρ[i]?=some (some .feed)) (h:PEd K f te ρ fun d=>∃ a:Int,d=.int a/\0<=a/\a<2147483647/\D.nx ρ):PSd K f (qe te (acQ (z6 i) (tC (.int 1)) aaD)) ρ D:=fun σ H E e n r b c=>h σ H _ e fun d v H1 g1 r1 ⟨a,ed,h0,h0',p⟩=>by
 subst ed
 obtain⟨u,h1,q,ef,eu⟩:=e.get i _ hi
 obtain⟨a',b',hf,c1,c2,c3⟩:=g1.2.fd q ef
 refine⟨u,h1,q,_,1,1,eu,rfl,hf,rfl,?_⟩
 rw [rep_int.mp r1]
 have g2:Goes f H1 (upd H1 q (.lst [.int a',.int a])):=ad7 (e.mono g1) ef c1 h0 h0'
 exact n ρ σ _ (g1.trans g2) ((e.mono g1).mono g2) p
end
theorem vK {X:Cx} {x:Str} {i:Int} {t:Tok} {pos:Pos} (hg:Gl X x) (hm:X.mg x=some (.int i t)) (hd:(x == ("__debug__":Str))=false:=by decide):PE X (.Name x pos) (tC (.int i)):=yy hg hm ⟨t,rfl⟩ hd
def jR (N:List Str) (xs:List DV):zm:=xs.map some++aqB (N.length - xs.length) none
theorem jt {K:aoZ} {f:Fx} {H:Hp} {N:List Str} {xs:List DV} {vs:List V} (r:RepVs K f H xs vs) (fo:FOk f H):EnvOk K f (jR N xs) (start N vs) H:=by
 have hl:=r.length
 refine⟨by unfold jR start;simp [hl],fun i x h=>?_,fo⟩
 unfold jR at h
 unfold start
 have get:∀ {xs:List DV} {vs:List V} {i:Nat} {x:DV},RepVs K f H xs vs->xs[i]?=some x->∃ v,vs[i]?=some v/\RepV K f H x v:=by
  intro xs vs i x r
  induction r generalizing i with
  | nil=>intro h;simp at h
  | cons r1 r2 ih =>
   intro h
   cases i with
   | zero=>simp at h;subst h;exact⟨_,rfl,r1⟩
   | succ i=>simp at h;obtain⟨v,h1,h2⟩:=ih h;exact⟨v,by simpa using h1,h2⟩
 by_cases hi:i<xs.length
 ·rw [ao9 (by simpa using hi),ao5] at h
  cases q:xs[i]? with
  | none=>rw [q] at h;cases h
  | some y =>
   rw [q] at h
   cases h
   obtain⟨v,h1,h2⟩:=get r q
   exact⟨v,by rw [ao9 (by simp;omega),ao5,h1];rfl,h2⟩
 ·rw [apd (by simpa using hi),aqC] at h
  split at h <;> cases h
structure Def (K:aoZ) (mg:Str->Option Value) (x:Str) (st:Stmt) (ps:List Str):Prop where
 ex:∃ (f:Addr) (fd:FuncData),Fun K x x st f fd/\Binds K fd ps []/\mg x=some (.ref f)
structure FnIn (P:Program) (w:World) (K:aoZ) (mg:Str->Option Value) (base:Heap) (k:Nat) (x:Str) (ps:List Str) (sp:Sp):Prop where
 ex:∃ (f:Addr) (fd:FuncData),FnOk P w K mg base CX0 k f fd ps sp/\mg x=some (.ref f)/\apM K (.ref f)=true/\Binds K fd ps []
section
variable {P:Program} {w:World} {K:aoZ} {mg:Str->Option Value} {base:Heap} {j k n:Nat} {x:Str} {st:Stmt} {ps N:List Str} {γ:Type} {pre:γ->List DV->Prop} {post:γ->PyData->Prop} {sp:Sp}
theorem FnIn.mono (h:FnIn P w K mg base j x ps sp) (hk:j<=k):FnIn P w K mg base k x ps sp :=
 let⟨f,fd,a,b,c,d⟩:=h.ex;⟨f,fd,a.mono hk,b,c,d⟩
theorem Def.ok (F:Def K mg x st ps) (S:FnScope N ps (zg st)) (hn:ps.length=n)
  (h:∀ (fa:Addr) (cdv:Value) (A:Around) (outer:List Env) (s:Shared) (H:Hp) (E:XK),Room k (A.deeper (envOfC x (zg st) s.heap.objs.size fa cdv)) ->
   ∃ t,PSs (zI CX0 P w K mg base N x (zg st) fa cdv A outer s H E).nox (yt st) t/\∀ (f:Fx) (xs:List DV) (c:γ),xs.length=n->pre c xs->PSd K f t (jR N xs) { nx:=fun _=>post c .none,rt:=post c }) :
  FnIn P w K mg base (k+1) x ps (spD K n pre post):=by
 obtain⟨fa,fd,F1,F2,F3⟩:=F.ex
 refine⟨fa,fd,F1.ok S (fun vs H Q E h=>?_) (fun cdv A outer s H vs Q E hr hs=>?_),F3,F1.kp,F2⟩
 ·obtain⟨f,xs,c,r,hl,_⟩:=h
  rw [r.length,hl,hn]
 ·obtain⟨f,xs,c,r,hl,fo,hp,q⟩:=hs
  obtain⟨t,h1,h2⟩:=h fa cdv A outer s H E hr
  exact⟨t,h1,h2 f xs c hl hp (start N vs) H _ (jt r fo) (fun _ _ H' g _ p=>q .none _ H' g (rep_none.mpr rfl) p) (fun d v H' g r p=>q d v H' g r p) (fun _ _ _ _ _ z=>z.elim) (fun _ _ _ _ _ z=>z.elim)⟩
theorem Def.raw (F:Def K mg x st ps) (S:FnScope N ps (zg st)) (len:∀ vs H Q E,sp vs H Q E->vs.length=ps.length)
  (h:∀ (fa:Addr) (cdv:Value) (A:Around) (outer:List Env) (s:Shared) (H:Hp) (vs:List V) (Q:VK) (E:XK),Room k (A.deeper (envOfC x (zg st) s.heap.objs.size fa cdv))->sp vs H Q E ->
   ∃ t,PSs (zI CX0 P w K mg base N x (zg st) fa cdv A outer s H E).nox (yt st) t/\t { nx:=fun _ H'=>Q .non H',rt:=Q } (start N vs) H) :
  FnIn P w K mg base (k+1) x ps sp:=by
 obtain⟨fa,fd,F1,F2,F3⟩:=F.ex
 exact⟨fa,fd,F1.ok S len (fun cdv A outer s H vs Q E hr hs=>h fa cdv A outer s H vs Q E hr hs),F3,F1.kp,F2⟩
theorem ze {X:Cx} {e:Expr} {es:List Expr} {t:TA} {p pos:Pos} (G:FnIn X.prog X.w X.K X.mg X.base k x ps sp) (hr:Room k X.A) (hg:Gl X x) (ha:PA X (e :: es) t) (hdb:(x == ("__debug__":Str))=false:=by decide)
  (he:starEach (e :: es) X.env=(false,eval e X.env) :: starEach es X.env:=by rfl) (hpl:(backTo pos (starEach es X.env)).any (·.1)=false:=by rfl):PE X (.Call (.Name x p) (e :: es) [] pos) (vg sp [] E0 t):=by
 obtain⟨f,fd,a,b,c,d⟩:=G.ex
 exact af1 a hr hg b c d .nil aod ha hdb he hpl
end
section
variable {K:aoZ} {f:Fx} {ρ:zm} {σ:St} {H:Hp} {E:Ends} {ts tu:TS} {D:DEnds}
theorem aiE (h:PSd K f ts ρ D) (e:EnvOk K f ρ σ H) (hn:∀ ρ' σ' H',Goes f H H'->EnvOk K f ρ' σ' H'->D.nx ρ'->tu E σ' H') (hr:∀ d v H',Goes f H H'->Rep K (hide H' f) d v->D.rt d->E.rt v H') (hb:∀ ρ,¬ D.bk ρ) (hc:∀ ρ,¬ D.ct ρ):qz ts tu E σ H :=
 h σ H { E with nx:=tu E } e hn hr (fun ρ' _ _ _ _ p=>(hb ρ' p).elim) (fun ρ' _ _ _ _ p=>(hc ρ' p).elim)
theorem aiF {ta:TA} {Q:VK} {R:List PyData->Prop} (h:PAd K f ta ρ fun xs=>∃ ds,qh xs=some ds/\ds.length<=1000/\R ds) (e:EnvOk K f ρ σ H)
  (q:∀ p ds vs H1,Goes f H H1->H1 p=none->Reps K (hide H1 f) ds vs->R ds->Q (.ref p) (upd H1 p (.lst vs))):abR ta σ H Q :=
 h σ H _ e fun xs vs H1 g1 r1 ⟨ds,ea,hl,p⟩=>by
  have rs:=qR r1 ea
  exact⟨by rw [rs.length];exact ap1 (zX hl),fun l hn=>q l ds vs H1 g1 hn rs p⟩
end
section
variable {K:aoZ} {f:Fx} {ρ:zm}
theorem Goes.free {H H':Hp} {p:Addr} (g:Goes f H H') (fo:FOk f H) (h:H' p=none):H p=none:=by
 cases q:H p with
 | none=>rfl
 | some o =>
  by_cases hh:f.f=some p \/ p∈f.M
  ·rcases hh with hh | hh
   ·obtain⟨a,b,h1,_⟩:=g.ok.fd p hh
    rw [h] at h1;cases h1
   ·rw [g.kp p hh,q] at h;cases h
  ·have:=zF (g.sm p o (zz hh q))
   rw [h] at this;cases this.2
def PEdL (K:aoZ) (f:Fx) (te:TE) (ρ:zm) (P:List PyData->Prop):Prop:=∀ (σ:St) (H:Hp) (Q:VK),EnvOk K f ρ σ H ->
 (∀ es D vs H',Goes f H H'->H D=none->H' D=some (.lst vs)->Reps K (hide H' f) es vs->P es->Q (.ref D) H')->te σ H Q
theorem PEdL.ped {te:TE} {P:PyData->Prop} (h:PEdL K f te ρ fun es=>P (.list es)):PEd K f te ρ P:=fun σ H Q e q=>h σ H Q e fun es D vs H' g n h1 r p =>
 q (.list es) _ H' g (rep_list.mpr ⟨D,vs,rfl,.of (zz (fresh_ne e.fd n) h1),r⟩) p
end
structure TabAt (H:Hp) (a:Addr) (as:List Addr) (rows:List (List Int)):Prop where
 top:H a=some (.lst (as.map .ref))
 nd:(a :: as).Nodup
 len:as.length=rows.length
 row:∀ (i:Nat) x r,as[i]?=some x->rows[i]?=some r->H x=some (.lst (r.map .int))
def PEdT (K:aoZ) (f:Fx) (te:TE) (ρ:zm) (P:List (List Int)->Prop):Prop:=∀ (σ:St) (H:Hp) (Q:VK),EnvOk K f ρ σ H ->
 (∀ rows a as H',Goes f H H'->H a=none->(∀ x∈as,H x=none)->TabAt H' a as rows->P rows->Q (.ref a) H')->te σ H Q
section
variable {K:aoZ} {f:Fx} {ρ:zm} {te tl:TE} {fr:List Nat}
theorem ad8 {J:It} {n:Nat} {dd:Nat->PyData} {R:Nat->List Int->Prop} {D:Addr} {H1:Hp} {σ:St} {Q:VK} (hn:H1 D=none) (e1:EnvOk K f ρ σ H1) (hz:n<=1000)
  (hJ:∀ (i:Nat) H',Same (hide H1 f) (hide H' (f.with D))->(i<n->J.go i H'/\∀ x H3,J.yld i H' x H3->H3=H'/\Rep K (hide H' (f.with D)) (dd i) x)/\(i=n->J.stop i H'))
  (hte:∀ i,i<n->PEdL K (f.with D) te (some (.dat (dd i)) :: frD fr ρ) fun es=>∃ ns:List Int,es=ns.map .int/\R i ns)
  (hQ:∀ rows as H',Goes f H1 H'->(∀ x∈as,H1 x=none)->TabAt H' D as rows->rows.length=n->(∀ (k:Nat) r,rows[k]?=some r->R k r)->Q (.ref D) H') :
  aci J (yz 0) acZ (jv D te) (yV 1 fr σ) (upd H1 D (.lst [])) fun _ H2=>Q (.ref D) H2:=by
 have nD:=fresh_ne e1.fd hn
 have hD:f.f≠some D:=fun z=>nD (.inl z)
 have hM:D∉f.M:=fun z=>nD (.inr z)
 have fo2:FOk (f.with D) (upd H1 D (.lst [])):=aiC e1.fd hn
 refine⟨fun i m σ' H'=>i<=n/\m+i=n/\∃ y as rows,EnvOk K (f.with D) (y :: frD fr ρ) σ' H'/\Same (hide (upd H1 D (.lst [])) (f.with D)) (hide H' (f.with D))/\(∀ b∈f.M,H' b=(upd H1 D (.lst [])) b)/\(∀ p,H' p=none->(upd H1 D (.lst [])) p=none) /\
   H' D=some (.lst (as.map .ref))/\as.Nodup/\D∉as/\(∀ x∈as,(upd H1 D (.lst [])) x=none)/\as.length=i/\rows.length=i/\(∀ (k:Nat) x r,as[k]?=some x->rows[k]?=some r->H' x=some (.lst (r.map .int)))/\∀ (k:Nat) r,rows[k]?=some r->R k r,
  ⟨n,apC _,rfl,none,[],[],aiD (acm (own:=1) (fr:=fr) e1) hn,Same.refl _,fun _ _=>rfl,fun _ h=>h,zq,aqD,by simp,(fun x hx=>by cases hx),rfl,rfl,(fun k x r h=>by simp at h),fun k r h=>by simp at h⟩,?_⟩
 rintro i m σ' H' ⟨hi,hm,y,as,rows,env,sm,kp,fre,top,nd,nDas,asf,la,lr,rw',hR⟩
 have smk:Same (hide H1 f) (hide H' (f.with D)):=(qS hn).trans sm
 obtain⟨jg,js⟩:=hJ i H' smk
 by_cases hlt:i<n
 ·obtain⟨go,yl⟩:=jg hlt
  refine .inr ⟨go,fun x H3 hy=>?_⟩
  obtain⟨rfl,rx⟩:=yl x H3 hy
  unfold yz acZ
  dsimp only
  rw [if_pos rfl]
  unfold jv
  have env2:EnvOk K (f.with D) (some (.dat (dd i)) :: frD fr ρ) (σ'.set 0 (some x)) H3:=env.set 0 (x:=.dat (dd i)) rx
  refine hte i hlt _ H3 _ env2 fun es Dn vs H4 g4 n4 h4 r4 ⟨ns,hes,hRn⟩=>?_
  subst hes
  have evs:vs=ns.map V.int:=r4.ints
  subst evs
  have hDn:Dn≠D:=fun z=>by rw [z,top] at n4;cases n4
  have keep:∀ x∈as,∀ o,H3 x=some o->H4 x=some o:=fun x hx o ho=>(zF (g4.sm x o (zz (fresh_ne fo2 (asf x hx)) ho))).2
  have hasome:∀ x∈as,∃ o,H3 x=some o:=fun x hx=>by
   obtain⟨k,hk,ek⟩:=aqm hx
   exact⟨_,rw' k x _ (by rw [aoW hk,ek]) (aoW (by omega))⟩
  have nDn:Dn∉as:=fun hx=>by
   obtain⟨o,ho⟩:=hasome Dn hx
   rw [n4] at ho;cases ho
  refine⟨as.map .ref,(g4.kp D apa).trans top,zX (by rw [aoX];omega),m - 1,by omega,by omega,by omega,some (.dat (dd i)),as++[Dn],rows++[ns],agb hD (env2.mono g4),?_,?_,?_,?_,?_,?_,?_,?_,?_,?_,?_⟩
  ·rw [yx (H:=H4)];exact sm.trans g4.sm
  ·exact fun b hb=>(zr (fun (z:b=D)=>hM (z▸hb))).trans ((g4.kp b (ao3 _ hb)).trans (kp b hb))
  ·intro p hp
   by_cases hpd:p=D
   ·subst hpd;rw [zq] at hp;cases hp
   ·rw [zr hpd] at hp
    exact fre p (g4.free env2.fd hp)
  ·rw [zq,apv];rfl
  ·exact aqv.mpr ⟨nd,by simp,fun x hx z hz=>by
    have:z=Dn:=by simpa using hz
    subst this
    exact fun e=>nDn (e▸hx)⟩
  ·simp [nDas,apT hDn]
  ·intro x hx
   rcases aps.mp hx with hx | hx
   ·exact asf x hx
   ·have:x=Dn:=by simpa using hx
    subst this
    exact fre _ n4
  ·simp [la]
  ·simp [lr]
  ·intro k x r hx hr
   have hxm:=ao4 hx
   have hxD:x≠D:=by
    rintro rfl
    rcases aps.mp hxm with hx' | hx'
    ·exact nDas hx'
    ·have:x=Dn:=by simpa using hx'
     exact hDn this.symm
   rw [zr hxD]
   by_cases hk:k<as.length
   ·rw [ao9 hk] at hx
    rw [ao9 (by omega)] at hr
    exact keep x (ao4 hx) _ (rw' k x r hx hr)
   ·have hk':k=as.length:=by
     have:=(ao1.mp hx).1
     simp at this;omega
    subst hk'
    rw [apd (ao6 _)] at hx
    rw [apd (by omega)] at hr
    simp only [aqo,arf] at hx
    rw [la,<- lr,aqo,arf] at hr
    cases hx
    cases hr
    exact h4
  ·intro k r hr
   by_cases hk:k<rows.length
   ·rw [ao9 hk] at hr;exact hR k r hr
   ·have hk':k=rows.length:=by
     have:=(ao1.mp hr).1
     simp at this;omega
    subst hk'
    rw [apd (ao6 _),aqo,arf] at hr
    cases hr
    rw [lr];exact hRn
 ·have ei:i=n:=by omega
  subst ei
  refine .inl ⟨js rfl,hQ rows as H' ⟨smk.trans jV,⟨env.fd.fd,fun b hb=>env.fd.mm b (ao3 _ hb),fun p e hp=>env.fd.nm p e (ao3 _ hp)⟩,fun b hb=>?_⟩ (fun x hx=>?_) ⟨top,apS.mpr ⟨nDas,nd⟩,by omega,rw'⟩ lr hR⟩
  ·rw [kp b hb,zr]
   obtain⟨o,h3⟩:=e1.fd.mm b hb
   exact zJ h3 hn
  ·have:=asf x hx
   rw [zr (fun (z:x=D)=>nDas (z▸hx))] at this
   exact this
theorem akF {t:TA} {P:List (List Int)->Prop} (h:PAd K f t ρ fun xs=>∃ j:Int,xs=[.dat (.int j)]/\j<=1000/\-1000<=j/\∃ R:Nat->List Int->Prop,
   (∀ D (i:Nat),(i:Int)<j->PEdL K (f.with D) te (some (.dat (.int i)) :: frD fr ρ) fun es=>∃ ns:List Int,es=ns.map .int/\R i ns)/\∀ rows,rows.length=j.toNat->(∀ (k:Nat) r,rows[k]?=some r->R k r)->P rows) :
  PEdT K f (jf (adV t) 1 fr (yz 0) acZ fun D=>jv D te) ρ P:=fun σ H Q e q=>h σ H _ e fun xs vs H1 g1 r1 ⟨j,ex,b1,b2,R,rs,re⟩=>by
 subst ex
 cases r1 with
 | @cons _ v0 _ _ rx r' =>
  cases r'
  have rx':Rep K (hide H1 f) (.int j) v0:=rx
  refine⟨j,by rw [rep_int.mp rx'],by omega,by omega,fun D hn=>?_⟩
  refine ad8 (n:=j.toNat) (dd:=fun i=>.int i) (R:=R) hn (e.mono g1) (by omega) (fun i H' _=>⟨fun hi=>⟨hi,fun x H3 hy=>?_⟩,fun hi=>aqu hi.symm⟩) (fun i hi=>rs D i (by omega)) fun rows as H' g' fa ta hl hR=>?_
  ·obtain⟨rfl,rfl⟩:=hy
   have hz:(0:Int)+(i:Int)=(i:Int):=as7 _
   exact⟨rfl,by rw [hz];exact (rep_int (K:=K)).mpr rfl⟩
  ·exact q rows D as H' (g1.trans g') (g1.free e.fd hn) (fun x hx=>g1.free e.fd (fa x hx)) ta (re rows hl hR)
theorem amN {P:List (List Int)->Prop} (h:PEd K f tl ρ fun x=>∃ ds,x=.list ds/\ds.length<=1000/\∃ R:Nat->List Int->Prop,
   (∀ D (i:Nat) d,ds[i]?=some d->PEdL K (f.with D) te (some (.dat d) :: frD fr ρ) fun es=>∃ ns:List Int,es=ns.map .int/\R i ns)/\∀ rows,rows.length=ds.length->(∀ (k:Nat) r,rows[k]?=some r->R k r)->P rows) :
  PEdT K f (jf (ab6 K tl) 1 fr (yz 0) acZ fun D=>jv D te) ρ P:=fun σ H Q e q=>h σ H _ e fun x v H1 g1 r1 ⟨ds,ex,hz,R,rs,re⟩=>by
 subst ex
 obtain⟨a,xs,rfl,s1,s2⟩:=rep_list.mp r1
 have hl:=s2.length
 refine⟨a,rfl,⟨xs,(zl _ _).seq s1⟩,fun D hn=>?_⟩
 refine ad8 (n:=ds.length) (dd:=fun i=>ds.getD i .none) (R:=R) hn (e.mono g1) hz (fun i H' sk=>?_) (fun i hi=>?_) fun rows as H' g' fa ta hl' hR=>?_
 ·have sq:SqL K H' a xs:=(zl _ _).seq (sk.seq s1)
  refine⟨fun hi=>?_,fun hi=>⟨xs,sq,by omega⟩⟩
  obtain⟨z,hzz,rz⟩:=s2.get (aoW hi)
  refine⟨⟨xs,z,sq,hzz⟩,fun x H3 hy=>?_⟩
  obtain⟨rfl,hy⟩:=hy
  have ez:=hy xs sq
  rw [hzz] at ez
  cases ez
  refine⟨rfl,?_⟩
  have eg:ds.getD i .none=ds[i]:=by simp [ata,hi]
  rw [eg]
  exact Rep.mono sk _ _ rz
 ·have eg:ds.getD i .none=ds[i]:=by simp [ata,hi]
  rw [eg]
  exact rs D i _ (aoW hi)
 ·exact q rows D as H' (g1.trans g') (g1.free e.fd hn) (fun x hx=>g1.free e.fd (fa x hx)) ta (re rows hl' hR)
theorem TabAt.rep {H:Hp} {a:Addr} {as:List Addr} {rows:List (List Int)} (t:TabAt H a as rows) (ha:¬ (f.f=some a \/ a∈f.M)) (hs:∀ x∈as,¬ (f.f=some x \/ x∈f.M)):Rep K (hide H f) (.list (rows.map fun r=>.list (r.map .int))) (.ref a):=by
 refine rep_list.mpr ⟨a,_,rfl,.of (zz ha t.top),?_⟩
 have key:∀ (as:List Addr) (rows:List (List Int)),as.length=rows.length->(∀ x∈as,¬ (f.f=some x \/ x∈f.M))->(∀ (i:Nat) x r,as[i]?=some x->rows[i]?=some r->H x=some (.lst (r.map .int)))->Reps K (hide H f) (rows.map fun r=>.list (r.map .int)) (as.map .ref):=by
  intro as
  induction as with
  | nil=>intro rows hl _ _;cases rows with
   | nil=>exact .nil'
   | cons r rs=>cases hl
  | cons x as ih =>
   intro rows hl hs hr
   cases rows with
   | nil=>cases hl
   | cons r rs =>
    exact .cons' (rep_list.mpr ⟨x,_,rfl,.of (zz (hs x apa) (hr 0 x r rfl rfl)),Reps.ints' r⟩) (ih rs (by simpa using hl) (fun y hy=>hs y (ao3 _ hy)) fun i y q h1 h2=>hr (i+1) y q (by simpa using h1) (by simpa using h2))
 exact key as rows t.len hs t.row
end
end L2
end
section
namespace L2
open PySem PySem.Spec PyProof.Rows
section
variable {X:Cx} {K:aoZ}
theorem zy (hK:X.K=K):IxR X (vH K):=hK▸aky
theorem qT (hK:X.K=K):IxR X (amA K):=hK▸amB
theorem zO (hK:X.K=K):yo X (.builtin "len") (fun xs H Q=>∃ p ys,xs=[.ref p]/\(SqL K H p ys \/ SqT K H p ys)/\Q (.int ys.length) H):=hK▸acV
theorem vw (hK:X.K=K):yo X (.type "list") (fun xs H Q=>∃ p ys,xs=[.ref p]/\(SqL K H p ys \/ SqT K H p ys)/\∀ l,H l=none->Q (.ref l) (upd H l (.lst ys))):=hK▸acW
theorem aaI (hK:X.K=K):yo X (.type "tuple") (fun xs H Q=>∃ p ys,xs=[.ref p]/\((SqL K H p ys/\∀ l,H l=none->Q (.ref l) (upd H l (.tup ys))) \/ (SqT K H p ys/\Q (.ref p) H))):=hK▸abT
theorem acn (hK:X.K=K) (hc:X.calm=true):yo X (.builtin "min") (fun xs H Q=>∃ a ns,xs=[.ref a]/\SqL K H a (ns.map V.int)/\ns≠[]/\∀ M,M∈ns->(∀ b∈ns,M<=b)->Q (.int M) H):=hK▸ahh hc
theorem aco (hK:X.K=K) (hc:X.calm=true):yo X (.builtin "max") (fun xs H Q=>∃ a ns,xs=[.ref a]/\SqL K H a (ns.map V.int)/\ns≠[]/\∀ M,M∈ns->(∀ b∈ns,b<=M)->Q (.int M) H):=hK▸ahi hc
theorem qi (hK:X.K=K) (hu:X.A.units+64<cLine):OpR X (compareOp .Eq) (ahg K false):=hK▸amH hu
theorem qB (hK:X.K=K) (hu:X.A.units+64<cLine):OpR X (compareOp .NotEq) (ahg K true):=hK▸amI hu
variable {tg l e st:Expr} {tl te ts:TE} {ta:TA} {p pos p2:Pos}
theorem zS (hK:X.K=K) (hl:PE X l tl):PI X tg l (ab6 K tl):=hK▸akt hl
theorem ac1 (hK:X.K=K) (hl:PE X l tl):PI X tg l (amt K tl):=hK▸amu hl
theorem ad9 {es:List Expr} {k:Nat} {tpos:Pos} (hK:X.K=K) (hg:Gl X "enumerate") (hm:X.mg "enumerate"=none) (ha:PA X [l] ta) (hs:starEach [l] X.env=[(false,eval l X.env)]:=by rfl):PI X (.Tuple es k tpos) (.Call (.Name "enumerate" p) [l] [] pos) (af9 K ta):=hK▸akB hg hm ha hs
theorem yg (hK:X.K=K) (ha:PE X e te) (he:∀ whole,isTrue e X.env whole=(do let v <- whole;standAt e.pos;holding [v] (truthy v))):PT X e (amL K te):=hK▸amM ha he
theorem zQ {es:List Expr} {k:Nat} {t:TGs} {n:Nat} (hK:X.K=K) (hc:X.calm=true) (h:PGs X es t) (hn:(assignEach es X.env).length=n:=by rfl) (hst:(assignEach es X.env).findIdx? (·.1)=none:=by rfl):PG X (.Tuple es k pos) (aie K n t):=hK▸ams hc h hn hst
end
structure ItD (K:aoZ) (f:Fx) (ds:List PyData) (J:It) (H1:Hp):Prop where
 go:∀ (f':Fx) (H':Hp) (i:Nat) d,FOk f' H'->Same (hide H1 f) (hide H' f')->ds[i]?=some d->J.go i H'/\∀ x H3,J.yld i H' x H3->Goes f' H' H3/\Rep K (hide H3 f') d x
 st:∀ (f':Fx) (H':Hp),FOk f' H'->Same (hide H1 f) (hide H' f')->J.stop ds.length H'
def PId (K:aoZ) (f:Fx) (wi:TI) (ρ:zm) (R:List PyData->Prop):Prop:=∀ (σ:St) (H:Hp) (C:It->Hp->Prop),EnvOk K f ρ σ H ->
 (∀ ds J H1,Goes f H H1->ItD K f ds J H1->R ds->C J H1)->wi σ H C
def qC (n:Nat):List PyData:=(apj n).map fun (i:Nat)=>.int (i:Int)
def acp (ds:List PyData):List PyData:=ds.mapIdx fun i d=>.tuple [.int (i:Int),d]
section
variable {K:aoZ} {f:Fx} {ρ:zm} {R:List PyData->Prop} {tl:TE} {t:TA}
theorem PId.imp {wi:TI} {R':List PyData->Prop} (h:PId K f wi ρ R) (i:∀ ds,R ds->R' ds):PId K f wi ρ R':=fun σ H C e q=>h σ H C e fun ds J H1 g it r=>q ds J H1 g it (i ds r)
theorem vL (h:PAd K f t ρ fun xs=>∃ j:Int,xs=[.dat (.int j)]/\-(2 ^ 62)<=j/\j<2 ^ 62/\R (qC j.toNat)):PId K f (adV t) ρ R:=fun σ H C e q=>h σ H _ e fun xs vs H1 g1 r1 ⟨j,ex,q1,q2,p⟩=>by
 subst ex
 cases r1 with
 | @cons _ v0 _ _ rx r' =>
  cases r'
  have rx':Rep K (hide H1 f) (.int j) v0:=rx
  refine⟨j,by rw [rep_int.mp rx'],q1,q2,q _ _ H1 g1 ⟨fun f' H' i d fo _ hd=>?_,fun f' H' _ _=>?_⟩ p⟩
  ·unfold qC at hd
   rw [ao5] at hd
   by_cases hi:i<j.toNat
   ·rw [aqz hi] at hd
    cases hd
    refine⟨hi,fun x H3 hy=>?_⟩
    obtain⟨rfl,rfl⟩:=hy
    exact⟨.refl fo,rep_int.mpr (by rw [as7])⟩
   ·rw [apt (by rw [apW];omega)] at hd
    cases hd
  ·show j.toNat<=(qC j.toNat).length
   unfold qC
   rw [aoX,apW]
   exact ao6 _
theorem yu (h:PEd K f tl ρ fun x=>∃ ds,x=.list ds/\R ds):PId K f (ab6 K tl) ρ R:=fun σ H C e q=>h σ H _ e fun x v H1 g1 r1 ⟨ds,ex,p⟩=>by
 subst ex
 obtain⟨a,xs,rfl,h1,h2⟩:=rep_list.mp r1
 have hl:=h2.length
 refine⟨a,rfl,⟨xs,(zl _ _).seq h1⟩,q ds _ H1 g1 ⟨fun f' H' i d fo sm hd=>?_,fun f' H' _ sm=>⟨xs,(zl _ _).seq (sm.seq h1),aqu hl⟩⟩ p⟩
 obtain⟨z,hz,rz⟩:=h2.get hd
 have sq:SqL K H' a xs:=(zl _ _).seq (sm.seq h1)
 refine⟨⟨xs,z,sq,hz⟩,fun x H3 hy=>?_⟩
 obtain⟨rfl,hy⟩:=hy
 have ez:=hy xs sq
 rw [hz] at ez
 cases ez
 exact⟨.refl fo,Rep.mono sm _ _ rz⟩
theorem aiG (h:PEd K f tl ρ fun x=>∃ ds,x=.tuple ds/\R ds):PId K f (amt K tl) ρ R:=fun σ H C e q=>h σ H _ e fun x v H1 g1 r1 ⟨ds,ex,p⟩=>by
 subst ex
 obtain⟨a,xs,rfl,h1,h2⟩:=rep_tuple.mp r1
 have hl:=h2.length
 refine⟨a,rfl,⟨xs,(zl _ _).seqT h1⟩,q ds _ H1 g1 ⟨fun f' H' i d fo sm hd=>?_,fun f' H' _ sm=>⟨xs,(zl _ _).seqT (sm.seqT h1),aqu hl⟩⟩ p⟩
 obtain⟨z,hz,rz⟩:=h2.get hd
 have sq:SqT K H' a xs:=(zl _ _).seqT (sm.seqT h1)
 refine⟨⟨xs,z,sq,hz⟩,fun x H3 hy=>?_⟩
 obtain⟨rfl,hy⟩:=hy
 have ez:=hy xs sq
 rw [hz] at ez
 cases ez
 exact⟨.refl fo,Rep.mono sm _ _ rz⟩
theorem amO (h:PAd K f t ρ fun xs=>∃ ds,xs=[.dat (.list ds)]/\R (acp ds)):PId K f (af9 K t) ρ R:=fun σ H C e q=>h σ H _ e fun xs vs H1 g1 r1 ⟨ds,ex,p⟩=>by
 subst ex
 cases r1 with
 | cons rx r' =>
  cases r'
  obtain⟨a,xs,rfl,h1,h2⟩:=rep_list.mp rx
  have hl:=h2.length
  refine⟨a,rfl,⟨xs,(zl _ _).seq h1⟩,q (acp ds) _ H1 g1 ⟨fun f' H' i d fo sm hd=>?_,fun f' H' _ sm=>⟨xs,(zl _ _).seq (sm.seq h1),by unfold acp;rw [List.length_mapIdx];exact aqu hl⟩⟩ p⟩
  unfold acp at hd
  rw [asN] at hd
  cases eq:ds[i]? with
  | none=>rw [eq] at hd;cases hd
  | some d0 =>
   rw [eq] at hd
   cases hd
   obtain⟨z,hz,rz⟩:=h2.get eq
   have sq:SqL K H' a xs:=(zl _ _).seq (sm.seq h1)
   refine⟨⟨xs,z,sq,hz⟩,fun x H3 hy=>?_⟩
   obtain⟨tp,y,rfl,hn,rfl,hy⟩:=hy
   have ez:=hy xs sq
   rw [hz] at ez
   cases ez
   have gn:Goes f' H' (upd H' tp (.tup [.int i,z])):=.of_same (zR hn _) fo
   exact⟨gn,rep_tuple.mpr ⟨tp,_,rfl,.of (zz (fresh_ne fo hn) zq),.cons' (rep_int.mpr rfl) (.cons' (Rep.mono gn.1 _ _ (Rep.mono sm _ _ rz)) .nil')⟩⟩
end
section
variable {K:aoZ} {f:Fx} {ρ:zm} {D:DEnds} {wi:TI} {g:TG} {ts:TS}
theorem aea (h:PId K f wi ρ fun ds=>∃ J:Nat->zm->Prop,J 0 ρ /\
   (∀ (i:Nat) d ρ',ds[i]?=some d->J i ρ'->PGd K f g d ρ' fun ρ2=>PSd K f ts ρ2 { D with nx:=J (i+1),ct:=J (i+1),bk:=D.nx })/\∀ ρ',J ds.length ρ'->D.nx ρ') :
  PSd K f (aij wi g ts) ρ D:=fun σ H E e n r b c=>h σ H _ e fun ds J H1 g1 it ⟨Jv,j0,js,jd⟩=>by
 refine⟨fun i m σ' H'=>∃ ρ',EnvOk K f ρ' σ' H'/\Goes f H1 H'/\Jv i ρ'/\m+i=ds.length,⟨ds.length,ρ,e.mono g1,.refl g1.2,j0,rfl⟩,fun i m σ' H' ⟨ρ',e',g',p,hm⟩=>?_⟩
 by_cases hi:i<ds.length
 ·obtain⟨hgo,hy⟩:=it.go f H' i _ e'.fd g'.sm (aoW hi)
  refine .inr ⟨hgo,fun σ2 H2=>∃ ρ2,EnvOk K f ρ2 σ2 H2/\Goes f H1 H2/\Jv (i+1) ρ2,fun σ2 H2 ⟨ρ2,e2,g2,p2⟩=>⟨m - 1,by omega,ρ2,e2,g2,p2,by omega⟩,fun x H3 hx=>?_⟩
  obtain⟨g3,r3⟩:=hy x H3 hx
  refine js i _ ρ' (aoW hi) p σ' H3 x _ (e'.mono g3) r3 fun ρ2 σ2 H4 g4 e4 p4=>?_
  have gg:=g'.trans (g3.trans g4)
  exact p4 σ2 H4 _ e4 (fun ρ5 σ5 H5 g5 e5 p5=>⟨ρ5,e5,gg.trans g5,p5⟩) (fun d v H5 g5 r5 p5=>r d v H5 (g1.trans (gg.trans g5)) r5 p5) (fun ρ5 σ5 H5 g5 e5 p5=>n ρ5 σ5 H5 (g1.trans (gg.trans g5)) e5 p5) (fun ρ5 σ5 H5 g5 e5 p5=>⟨ρ5,e5,gg.trans g5,p5⟩)
 ·have ei:i=ds.length:=by omega
  subst ei
  exact .inl ⟨it.st f H' e'.fd g'.sm,n ρ' σ' H' (g1.trans g') e' (jd ρ' p)⟩
end
section
variable {K:aoZ} {f:Fx} {ρ:zm} {D:Addr} {wi:TI} {g:TG} {tt:TT} {te:TE}
theorem CSt.self {H2 H:Hp} {es:List PyData} {σ:St} (c:CSt K f D H2 ρ es σ H):CSt K f D H ρ es σ H:=⟨c.env,Same.refl _,fun _ _=>rfl,c.lst⟩
theorem CSt.trans {H2 H H':Hp} {es es':List PyData} {ρ':zm} {σ σ':St} (c:CSt K f D H2 ρ es σ H) (d:CSt K f D H ρ' es' σ' H'):CSt K f D H2 ρ' es' σ' H':=⟨d.env,c.sm.trans d.sm,fun b hb=>(d.kp b hb).trans (c.kp b hb),d.lst⟩
def PBd (K:aoZ) (f:Fx) (D:Addr) (tb:TB) (ρ:zm) (es:List PyData) (R:zm->List PyData->Prop):Prop:=f.f≠some D->D∉f.M->∀ (σ:St) (H H2:Hp) (W:St->Hp->Prop),CSt K f D H2 ρ es σ H ->
 (∀ ρ2 es2 σ2 H',CSt K f D H2 ρ2 es2 σ2 H'->R ρ2 es2->W σ2 H')->tb σ H W
theorem yC {es:List PyData} {R:zm->List PyData->Prop} (hl:es.length<1000) (h:PEd K (f.with D) te ρ fun e=>R ρ (es++[e])):PBd K f D (jv D te) ρ es R:=fun hD hM σ H H2 W c q =>
 h σ H _ c.env fun e u H5 g5 r5 p5=>by
  have c5:=c.go g5 (c.env.mono g5)
  obtain⟨vs,h1,h2⟩:=c5.lst
  exact⟨vs,h1,zX (by rw [h2.length];omega),q _ _ _ _ (c5.put hD hM h1 h2 r5) p5⟩
theorem aiH {fi:Fx} {Hi H2 H:Hp} {ds es:List PyData} {J:It} {tb:TB} {σ:St} {W:St->Hp->Prop} (it:ItD K fi ds J Hi) (hD:f.f≠some D) (hM:D∉f.M) (c:CSt K f D H2 ρ es σ H) (sm:Same (hide Hi fi) (hide H (f.with D)))
  (Jv:Nat->zm->List PyData->Prop) (j0:Jv 0 ρ es)
  (js:∀ (i:Nat) d ρ' es',ds[i]?=some d->Jv i ρ' es'->PGd K (f.with D) g d ρ' fun ρ2=>PTd K (f.with D) tt ρ2 fun b=>if b=true then PBd K f D tb ρ2 es' (Jv (i+1)) else Jv (i+1) ρ2 es')
  (hW:∀ ρ' es' σ' H',CSt K f D H2 ρ' es' σ' H'->Jv ds.length ρ' es'->W σ' H'):aci J g tt tb σ H W:=by
 refine⟨fun i m σ' H'=>∃ ρ' es',CSt K f D H2 ρ' es' σ' H'/\Same (hide Hi fi) (hide H' (f.with D))/\Jv i ρ' es'/\m+i=ds.length,⟨ds.length,ρ,es,c,sm,j0,rfl⟩,fun i m σ' H' ⟨ρ',es',c',sm',p,hm⟩=>?_⟩
 by_cases hi:i<ds.length
 ·obtain⟨hgo,hy⟩:=it.go (f.with D) H' i _ c'.env.fd sm' (aoW hi)
  refine .inr ⟨hgo,fun x H3 hx=>?_⟩
  obtain⟨g3,r3⟩:=hy x H3 hx
  have c3:=c'.go g3 (c'.env.mono g3)
  refine js i _ ρ' es' (aoW hi) p σ' H3 x _ c3.env r3 fun ρ2 σ2 H4 g4 e4 p4=>?_
  have c4:=c3.go g4 e4
  refine p4 σ2 H4 _ e4 fun b H5 g5 p5=>?_
  have c5:=c4.go g5 (e4.mono g5)
  have sm5:=((sm'.trans g3.sm).trans g4.sm).trans g5.sm
  cases b with
  | false =>
   rw [if_neg aoY] at p5 ⊢
   exact⟨m - 1,by omega,ρ2,es',c5,sm5,p5,by omega⟩
  | true =>
   rw [if_pos rfl] at p5 ⊢
   exact p5 hD hM σ2 H5 H5 _ c5.self fun ρ6 es6 σ6 H6 c6 p6=>⟨m - 1,by omega,ρ6,es6,c5.trans c6,sm5.trans c6.sm,p6,by omega⟩
 ·have ei:i=ds.length:=by omega
  subst ei
  exact .inl ⟨it.st (f.with D) H' c'.env.fd sm',hW ρ' es' σ' H' c' p⟩
theorem amP {es:List PyData} {tb:TB} {R:zm->List PyData->Prop} (h:PId K (f.with D) wi ρ fun ds=>∃ Jv:Nat->zm->List PyData->Prop,Jv 0 ρ es /\
   (∀ (i:Nat) d ρ' es',ds[i]?=some d->Jv i ρ' es'->PGd K (f.with D) g d ρ' fun ρ2=>PTd K (f.with D) tt ρ2 fun b=>if b=true then PBd K f D tb ρ2 es' (Jv (i+1)) else Jv (i+1) ρ2 es') /\
   ∀ ρ' es',Jv ds.length ρ' es'->R ρ' es'):PBd K f D (tIn wi g tt tb) ρ es R:=fun hD hM σ H H2 W c q =>
 h σ H _ c.env fun ds J H1 g1 it ⟨Jv,j0,js,jd⟩ =>
  aiH it hD hM (c.go g1 (c.env.mono g1)) (Same.refl _) Jv j0 js fun ρ' es' σ' H' c' p=>q ρ' es' σ' H' c' (jd ρ' es' p)
def PEdO (K:aoZ) (f:Fx) (te:TE) (ρ:zm) (P:List PyData->Prop):Prop:=∀ (σ:St) (H:Hp) (Q:VK),EnvOk K f ρ σ H ->
 (∀ es D vs H',Goes f H H'->H D=none->H' D=some (.lst vs)->Reps K (hide H' (f.with D)) es vs->P es->Q (.ref D) H')->te σ H Q
theorem PEdO.pedl {P:List PyData->Prop} (h:PEdO K f te ρ P):PEdL K f te ρ P:=fun σ H Q e q=>h σ H Q e fun es D vs H' g n h1 r p=>q es D vs H' g n h1 (Reps.mono jV es vs r) p
theorem PEdO.ped {P:PyData->Prop} (h:PEdO K f te ρ fun es=>P (.list es)):PEd K f te ρ P:=h.pedl.ped
theorem aoe {P:List PyData->Prop} (h:P []):PEdO K f (abR y4) ρ P:=fun σ H Q e q=>⟨apC _,fun p hn=>q [] p [] _ (.of_same (zR hn _) e.fd) hn zq .nil' h⟩
theorem qD {own:Nat} {fr:List Nat} {tb:Addr->TB} {P:List PyData->Prop} (h:PId K f wi ρ fun ds=>∃ Jv:Nat->zm->List PyData->Prop,Jv 0 (aap own fr ρ) [] /\
   (∀ D (i:Nat) d ρ' es',ds[i]?=some d->Jv i ρ' es'->PGd K (f.with D) g d ρ' fun ρ2=>PTd K (f.with D) tt ρ2 fun b=>if b=true then PBd K f D (tb D) ρ2 es' (Jv (i+1)) else Jv (i+1) ρ2 es') /\
   ∀ ρ' es',Jv ds.length ρ' es'->P es'):PEdO K f (jf wi own fr g tt tb) ρ P:=fun σ H Q e q =>
 h σ H _ e fun ds J H1 g1 it ⟨Jv,j0,js,jd⟩ D hn=>by
  have nD:=fresh_ne g1.2 hn
  have hD:f.f≠some D:=fun z=>nD (.inl z)
  have hM:D∉f.M:=fun z=>nD (.inr z)
  refine aiH it hD hM (abn hn (e.mono g1)) (qS hn) Jv j0 (js D) fun ρ' es' σ' H' c' p=>?_
  obtain⟨ge,rep⟩:=ad5 (σ':=σ') hn g1.2 c'
  obtain⟨vs,h1,h2⟩:=c'.lst
  exact q es' D vs H' (g1.trans ge) (g1.free e.fd hn) h1 h2 (jd ρ' es' p)
end
section
variable {K:aoZ} {f:Fx} {ρ:zm} {D:Addr} {wi:TI} {g:TG} {tt:TT} {te:TE}
theorem aaq {F:PyData->List PyData} {ds:List PyData} {i:Nat} {d:PyData} (h:ds[i]?=some d):(ds.take (i+1)).flatMap F=(ds.take i).flatMap F++F d:=by
 rw [aqP,h,aqe]
 simp
theorem vM {F:PyData->List PyData} {ds:List PyData} {i:Nat}:((ds.take i).flatMap F).length<=(ds.flatMap F).length:=by
 conv=>rhs;rw [<-arz i ds,aqe,api]
 omega
def OwnE (own:Nat) (ρ0:zm) (ρ':zm):Prop:=∃ us:zm,us.length=own/\ρ'=us++ρ0
theorem OwnE.one {ρ0 ρ':zm} (h:OwnE 1 ρ0 ρ'):∃ u,ρ'=u :: ρ0:=by
 obtain⟨us,h1,rfl⟩:=h
 match us,h1 with
 | [u],_=>exact⟨u,rfl⟩
theorem OwnE.two {ρ0 ρ':zm} (h:OwnE 2 ρ0 ρ'):∃ u v,ρ'=u :: v :: ρ0:=by
 obtain⟨us,h1,rfl⟩:=h
 match us,h1 with
 | [u,v],_=>exact⟨u,v,rfl⟩
theorem OwnE.mk1 {ρ0:zm} {u:Option DV}:OwnE 1 ρ0 (u :: ρ0):=⟨[u],rfl,rfl⟩
theorem OwnE.mk2 {ρ0:zm} {u v:Option DV}:OwnE 2 ρ0 (u :: v :: ρ0):=⟨[u,v],rfl,rfl⟩
theorem amQ {own:Nat} {fr:List Nat} {tb:Addr->TB} {P:List PyData->Prop} (h:PId K f wi ρ fun ds=>∃ F:PyData->List PyData,(ds.flatMap F).length<=1000 /\
   (∀ D d ρ' es,d∈ds->OwnE own (frD fr ρ) ρ'->es.length+(F d).length<=1000->PGd K (f.with D) g d ρ' fun ρ2=>PTd K (f.with D) tt ρ2 fun b=>if b=true then PBd K f D (tb D) ρ2 es fun ρ3 es3=>OwnE own (frD fr ρ) ρ3/\es3=es++F d else OwnE own (frD fr ρ) ρ2/\F d=[]) /\
   P (ds.flatMap F)):PEdO K f (jf wi own fr g tt tb) ρ P :=
 qD (h.imp fun ds ⟨F,hl,hs,hp⟩=>by
  refine⟨fun i ρ' es=>OwnE own (frD fr ρ) ρ'/\es=(ds.take i).flatMap F,⟨⟨aqB own none,by simp,rfl⟩,by simp⟩,fun D i d ρ' es hd ⟨ho,he⟩=>?_,fun ρ' es ⟨_,he⟩=>?_⟩
  ·have hb:es.length+(F d).length<=1000:=by
    rw [he,<- api,<- aaq hd]
    exact apm vM hl
   have:=hs D d ρ' es (ao4 hd) ho hb
   intro σ H v Q e r q
   refine this σ H v Q e r fun ρ2 σ2 H2 g2 e2 p2=>q ρ2 σ2 H2 g2 e2 (p2.imp fun b hb2=>?_)
   cases b with
   | false =>
    rw [if_neg aoY] at hb2 ⊢
    exact⟨hb2.1,by rw [aaq hd,hb2.2,apB];exact he⟩
   | true =>
    rw [if_pos rfl] at hb2 ⊢
    intro h1 h2 σ3 H3 H4 W c k
    exact hb2 h1 h2 σ3 H3 H4 W c fun ρ5 es5 σ5 H5 c5 ⟨o5,p5⟩=>k ρ5 es5 σ5 H5 c5 ⟨o5,by rw [p5,aaq hd,he]⟩
  ·rw [he,apU]
   exact hp)
theorem y7 {B:Bool->Prop} (h:B true):PTd K f acZ ρ B:=fun σ H Q e q=>q true H (.refl e.fd) h
end
structure OEnds where
 nx:zm->List PyData->Prop
 rt:PyData->Prop
 bk:zm->List PyData->Prop:=fun _ _=>False
 ct:zm->List PyData->Prop:=fun _ _=>False
section
variable {K:aoZ} {f:Fx} {ρ:zm} {D:Addr} {wi:TI} {g:TG} {tt:TT} {te:TE} {ts tu:TS} {es:List PyData} {O:OEnds} {i:Nat}
def ji (n:Nat):Option DV->Option DV
 | some (.own k)=>if k<n then some (.own k) else none
 | x=>x
end
section
variable {K:aoZ} {f:Fx} {ρ:zm} {P:PyData->Prop} {te ta tb:TE} {t:TA}
theorem Reps.drop {H:Hp}:∀ {ds:List PyData} {xs:List V} (n:Nat),Reps K H ds xs->Reps K H (ds.drop n) (xs.drop n)
 | _,_,0,r=>r
 | [],xs,n+1,r=>by
  rw [reps_nil.mp r]
  exact .nil'
 | d :: ds,xs,n+1,r=>by
  obtain⟨x,r',rfl,_,h⟩:=reps_cons.mp r
  exact Reps.drop n h
theorem Reps.take {H:Hp}:∀ {ds:List PyData} {xs:List V} (n:Nat),Reps K H ds xs->Reps K H (ds.take n) (xs.take n)
 | _,_,0,r=>.nil'
 | [],xs,n+1,r=>by
  rw [reps_nil.mp r]
  exact .nil'
 | d :: ds,xs,n+1,r=>by
  obtain⟨x,r',rfl,h0,h⟩:=reps_cons.mp r
  exact .cons' h0 (Reps.take n h)
def cutD (ds:List PyData) (lo hi:Option Int):List PyData:=(ds.drop (HT.sIx ds.length 0 lo)).take (HT.sIx ds.length ds.length hi - HT.sIx ds.length 0 lo)
theorem Reps.cut {H:Hp} {ds:List PyData} {xs:List V} {lo hi:Option Int} (r:Reps K H ds xs):Reps K H (cutD ds lo hi) (afa xs lo hi):=by
 unfold cutD afa
 rw [r.length]
 exact (r.drop _).take _
def POd (K:aoZ) (f:Fx) (t:TO) (ρ:zm) (R:Option Int->Prop):Prop:=∀ (σ:St) (H:Hp) (Q:Option Int->Hp->Prop),EnvOk K f ρ σ H->(∀ o H',Goes f H H'->R o->Q o H')->t σ H Q
theorem alY {R:Option Int->Prop} (h:R none):POd K f af2 ρ R:=fun σ H Q e q=>q none H (.refl e.fd) h
theorem alZ {R:Option Int->Prop} (h:PEd K f te ρ fun d=>∃ i:Int,d=.int i/\R (some i)):POd K f (alU te) ρ R:=fun σ H Q e q=>h σ H _ e fun d v H1 g1 r1 ⟨i,ed,p⟩=>by
 subst ed
 exact⟨i,rep_int.mp r1,q (some i) H1 g1 p⟩
theorem aof {tl th:TO} {P:List PyData->Prop} (h:PEd K f te ρ fun x=>∃ ds,x=.list ds/\POd K f tl ρ fun lo=>POd K f th ρ fun hi=>P (cutD ds lo hi)):PEdL K f (tSl (akz K) te tl th) ρ P:=fun σ H Q e q =>
 h σ H _ e fun x v H1 g1 r1 ⟨ds,ex,p1⟩=>p1 σ H1 _ (e.mono g1) fun lo H2 g2 p2=>p2 σ H2 _ ((e.mono g1).mono g2) fun hi H3 g3 p3=>by
  subst ex
  have gg:=g1.trans (g2.trans g3)
  obtain⟨a,xs,rfl,h1,h2⟩:=rep_list.mp (Rep.mono (g2.trans g3).sm _ _ r1)
  refine⟨a,xs,rfl,(zl _ _).seq h1,fun p hn=>?_⟩
  have g4:Goes f H3 (upd H3 p (.lst (afa xs lo hi))):=.of_same (zR hn _) g3.ok
  exact q _ p _ _ (gg.trans g4) (gg.free e.fd hn) zq (Reps.mono g4.sm _ _ h2.cut) p3
theorem al0 {tl th:TO} (h:PEd K f te ρ fun x=>∃ ds,x=.list ds/\POd K f tl ρ fun lo=>POd K f th ρ fun hi=>P (.list (cutD ds lo hi))):PEd K f (tSl (akz K) te tl th) ρ P:=(aof h).ped
theorem age (h:PAd K f t ρ fun xs=>(∃ ds,xs=[.dat (.list ds)]/\P (.tuple ds)) \/ (∃ ds,xs=[.dat (.tuple ds)]/\P (.tuple ds))) :
  PEd K f (tCB (fun xs H Q=>∃ p ys,xs=[.ref p]/\((SqL K H p ys/\∀ l,H l=none->Q (.ref l) (upd H l (.tup ys))) \/ (SqT K H p ys/\Q (.ref p) H))) t) ρ P :=
 aff fun σ H Q e q=>h σ H Q e fun xs vs H' g r p=>by
  rcases p with⟨ds,rfl,p⟩ | ⟨ds,rfl,p⟩
  ·refine q _ vs H' g r ⟨_,rfl,fun vs H Q fo rs k=>?_⟩
   obtain⟨x,r,rfl,h2,h3⟩:=reps_cons.mp rs
   rw [reps_nil.mp h3]
   obtain⟨a,ys,rfl,s1,s2⟩:=rep_list.mp h2
   refine⟨a,ys,rfl,.inl ⟨(zl _ _).seq s1,fun l hn=>?_⟩⟩
   have g2:Goes f H (upd H l (.tup ys)):=.of_same (zR hn _) fo
   exact k (.tuple ds) _ _ g2 (rep_tuple.mpr ⟨l,ys,rfl,.of (zz (fresh_ne fo hn) zq),Reps.mono g2.1 ds ys s2⟩) p
  ·refine q _ vs H' g r ⟨_,rfl,fun vs H Q fo rs k=>?_⟩
   obtain⟨x,r,rfl,h2,h3⟩:=reps_cons.mp rs
   rw [reps_nil.mp h3]
   obtain⟨a,ys,rfl,s1,s2⟩:=rep_tuple.mp h2
   exact⟨a,ys,rfl,.inr ⟨(zl _ _).seqT s1,k (.tuple ds) _ H (.refl fo) (rep_tuple.mpr ⟨a,ys,rfl,s1,s2⟩) p⟩⟩
end
abbrev f0:Fx:=⟨none,[]⟩
theorem fok0 (H:Hp):FOk f0 H:=⟨(fun p e=>by cases e),(fun b hb=>by cases hb),(fun p e=>by cases e)⟩
theorem aog {H H':Hp} (s:Same H H'):Goes f0 H H':=.of_same s (fok0 H)
theorem same0 {H H':Hp} (g:Goes f0 H H'):Same H H':=fun b o h=>(zF (g.sm b o (by rw [yN];exact h))).2
def ac2:Option DV->Option DV
 | some (.dat d)=>some (.dat d)
 | _=>none
section
variable {K:aoZ} {ρ:zm} {te:TE} {tu:TS} {i:Nat}
theorem abo {p:Addr} {σ:St} {H:Hp} (e:EnvOk K ⟨some p,[]⟩ ρ σ H):EnvOk K f0 (ρ.map ac2) σ H:=by
 refine⟨by rw [aoX];exact e.len,fun i x h=>?_,fok0 H⟩
 rw [ao5] at h
 cases eq:ρ[i]? with
 | none=>rw [eq] at h;cases h
 | some y =>
  rw [eq] at h
  cases y with
  | none=>cases h
  | some y =>
   obtain⟨v,h1,h2⟩:=e.get i y eq
   cases y with
   | dat d =>
    cases h
    refine⟨v,h1,?_⟩
    show Rep K (hide H f0) d v
    rw [yN]
    exact Rep.mono (zl _ _) d v h2
   | feed=>cases h
   | own k=>cases h
   | exc C=>cases h
   | mon φ=>cases h
theorem amR {Dn:DEnds} (h:∀ (σ:St) (H:Hp) (Q:VK),EnvOk K f0 ρ σ H->(∀ (p:Addr) (x y:Int) (H':Hp),Same H H'->H p=none->H' p=some (.lst [.int x,.int y])->0<=x->0<=y->y<2147483647->Q (.ref p) H')->te σ H Q)
  (hr:∀ p,PSd K ⟨some p,[]⟩ tu (ρ.set i (some .feed)) { nx:=fun ρ'=>Dn.nx (ρ'.map ac2),rt:=Dn.rt,bk:=fun ρ'=>Dn.bk (ρ'.map ac2),ct:=fun ρ'=>Dn.ct (ρ'.map ac2) }) :
  PSd K f0 (qz (qe te (yz i)) tu) ρ Dn:=fun σ H E e n r b k=>h σ H _ e fun p x y H1 sm hn hp x0 y0 y1=>by
 have fo:FOk ⟨some p,[]⟩ H1:=⟨fun p' e=>by cases e;exact⟨x,y,hp,x0,y0,y1⟩,(fun b hb=>by cases hb),fun _ _ hb=>by cases hb⟩
 have sm0:Same H (hide H1 ⟨some p,[]⟩):=fun b o hb=>by
  have nb:b≠p:=fun e=>by rw [e,hn] at hb;cases hb
  refine zz (fun z=>?_) (sm b o hb)
  rcases z with z | z
  ·cases z;exact nb rfl
  ·cases z
 have e1:EnvOk K ⟨some p,[]⟩ ρ σ H1:=by
  refine⟨e.len,fun j z hz=>?_,fo⟩
  obtain⟨v,a1,a2⟩:=e.get j z hz
  refine⟨v,a1,?_⟩
  cases z with
  | dat d =>
   have a2':Rep K (hide H f0) d v:=a2
   rw [yN] at a2'
   exact Rep.mono sm0 d v a2'
  | feed=>obtain⟨q,hq,_⟩:=a2;cases hq
  | own k=>obtain⟨q,hq,_⟩:=a2;cases hq
  | exc C =>
   obtain⟨q,h3,h4⟩:=a2
   refine⟨q,h3,sm0 _ _ ?_⟩
   rw [yN] at h4
   exact h4
  | mon φ =>
   intro H' s
   refine a2 H' (Same.trans ?_ s)
   rw [yN]
   exact sm0
 have gg:∀ {H':Hp},Goes ⟨some p,[]⟩ H1 H'->Goes f0 H H':=fun g=>aog fun b o hb=>zl _ _ b o (g.sm b o (sm0 b o hb))
 refine hr p _ H1 E (e1.set i (x:=.feed) ⟨p,rfl,rfl⟩) (fun ρ' σ' H' g' e' p'=>n _ σ' H' (gg g') (abo e') p') (fun d v H' g' r' p'=>r d v H' (gg g') ?_ p') (fun ρ' σ' H' g' e' p'=>b _ σ' H' (gg g') (abo e') p') (fun ρ' σ' H' g' e' p'=>k _ σ' H' (gg g') (abo e') p')
 rw [yN]
 exact Rep.mono (zl _ _) d v r'
end
section
variable {X:Cx} {K:aoZ}
def aoh (i j:Int):Prop:=0<j/\j<1152921504606846976
theorem abp:OpR X (binaryOp .FloorDiv) (rI aoh fun i j=>.int (i / j)):=opI fun i j _ _ _ _ _ hc q=>by
 obtain⟨h1,h2⟩:=hc
 rw [<-aqX i (Int.le_of_lt h1)] at q
 refine floordiv_int (by omega) q (.inl (ase ?_))
 have h0:j.natAbs≠0:=by omega
 have:j.natAbs.log2<60:=(asO h0).mpr (by omega)
 omega
theorem aiI (hK:X.K=K):SlR X (akz K):=hK▸akA
end
section
variable {K:aoZ} {f:Fx} {ρ:zm} {wi:TI} {g:TG} {tt:TT} {own:Nat} {fr:List Nat} {tb:Addr->TB} {P:List PyData->Prop}
theorem vN {α:Type} {A B:α->PyData} (xs:List α) (h:PId K f wi ρ fun ds=>ds=xs.map A/\xs.length<=1000 /\
   (∀ D x ρ' es,x∈xs->OwnE own (frD fr ρ) ρ'->es.length<1000->PGd K (f.with D) g (A x) ρ' fun ρ2=>PTd K (f.with D) tt ρ2 fun b=>if b=true then PBd K f D (tb D) ρ2 es fun ρ3 es3=>OwnE own (frD fr ρ) ρ3/\es3=es++[B x] else False)/\P (xs.map B)) :
  PEdO K f (jf wi own fr g tt tb) ρ P :=
 qD (h.imp fun ds ⟨ed,hl,hs,hp⟩=>by
  subst ed
  refine⟨fun i ρ' es=>OwnE own (frD fr ρ) ρ'/\es=(xs.take i).map B,⟨⟨aqB own none,by simp,rfl⟩,by simp⟩,fun D i d ρ' es hd ⟨ho,he⟩=>?_,fun ρ' es ⟨_,he⟩=>?_⟩
  ·rw [ao5] at hd
   cases eq:xs[i]? with
   | none=>rw [eq] at hd;cases hd
   | some x =>
    rw [eq] at hd
    cases hd
    have hi:i<xs.length:=(ao1.mp eq).1
    have hb:es.length<1000:=by
     rw [he,aoX,apK]
     omega
    intro σ H v Q e r q
    refine hs D x ρ' es (ao4 eq) ho hb σ H v Q e r fun ρ2 σ2 H2 g2 e2 p2=>q ρ2 σ2 H2 g2 e2 (p2.imp fun b hb2=>?_)
    cases b with
    | false =>
     rw [if_neg aoY] at hb2
     exact hb2.elim
    | true =>
     rw [if_pos rfl] at hb2 ⊢
     intro h1 h2 σ3 H3 H4 W c k
     exact hb2 h1 h2 σ3 H3 H4 W c fun ρ5 es5 σ5 H5 c5 ⟨o5,p5⟩=>k ρ5 es5 σ5 H5 c5 ⟨o5,by rw [p5,he,aqP,eq,apv];rfl⟩
  ·rw [he,aoX,apU]
   exact hp)
end
structure XLie (P:Program) (w:World) (outer:List Env) (H:Hp) (s:Shared) (e:Addr) (C:Value) (H':Hp) (s':Shared):Prop where
 os:s'.os=s.os
 bare:AllBare s'.gens
 un:Un (frs outer) [] H H' s.heap s'.heap
 hok:HOk P w H' s'.heap
 fly:∃ B a0,asz B outer e C a0 s'.heap/\(∀ b o,s.heap.get? b=some o->b∉frs outer->∃ o',B.get? b=some o')/\∀ b o,H' b=some o->∃ o',B.get? b=some o'
 new:s.heap.get? e=none
 free:H' e=none
def CXe (P:Program) (w:World):CXT:=fun outer H s E e s'=>∃ a C H',e=.ref a/\XLie P w outer H s a C H' s'/\E C none H'
section
variable {P:Program} {w:World} {H H':Hp} {h h':Heap}
theorem ObjOk.is {a:Addr} {o:HO} (x:ObjOk P w H h a o):∃ u,h.get? a=some u:=by
 induction o with
 | lst xs=>obtain⟨_,_,_,_,e⟩:=x;exact⟨_,e⟩
 | tup xs=>obtain⟨_,_,_,ob,e,_⟩:=x;exact⟨_,e⟩
 | dK kvs=>obtain⟨_,_,_,_,o,_,_,e,_⟩:=x;exact⟨_,e⟩
 | dT kvs=>obtain⟨_,_,_,_,o,_,_,e,_⟩:=x;exact⟨_,e⟩
 | set S n=>obtain⟨o,_,_,_,e,_⟩:=x;exact⟨_,e⟩
 | ins C dx fs=>obtain⟨_,_,_,e,_⟩:=x;exact⟨_,e⟩
 | own y=>exact x
 | xd fs=>obtain⟨_,⟨o,_,_,e,_⟩,_⟩:=x;exact⟨_,e⟩
 | rng lo hi=>obtain⟨_,_,_,e⟩:=x;exact⟨_,e⟩
 | frz ob u ih=>exact⟨_,x.1⟩
 | tbl ps=>exact⟨_,x⟩
 | met f y=>exact⟨_,x⟩
 | ext φ=>exact x.2.1
theorem HOk.stays (x:HOk P w H h) (k:∀ b o u,H b=some o->h.get? b=some u->h'.get? b=some u):HOk P w H h':=fun a o e =>
 (x a o e).stay (fun b u hb q=>by
  rcases hb with rfl | hb
  ·exact k b o u e q
  ·exact k b _ u hb q) (fun _ q=>q) fun _ _ q=>q
end
section
variable {X:Cx} {pins:List (Addr×Obj)} {σ:St} {H H':Hp} {s s':Shared} {a:Addr} {C:Value} {outer:List Env}
theorem Inv.old_ne (I:Inv X pins σ H s) (hst:X.stack=X.env :: X.outer) (hf:X.env.frame=some X.env.locals) {b:Addr} {o:Obj} (q:X.s₀.heap.get? b=some o) (hb:b∉frs X.outer):b∉frs X.stack:=fun z=>by
 rw [hst] at z
 unfold frs at z
 rw [aqd,hf] at z
 rcases ao7.mp z with z | z
 ·have h1:b<X.s₀.heap.objs.size:=apc q
  rw [z] at h1
  exact absurd h1 (asy.mpr I.ok.above)
 ·exact hb z
theorem aiJ {E:Value->Shared->Prop} (I:Inv X pins σ H s) (hst:X.stack=X.env :: X.outer) (hf:X.env.frame=some X.env.locals) (hex:X.ex=[]) (x:XLie X.prog X.w X.stack H s a C H' s') :
  wpAny (model X.prog X.w) X.A (leaving X.env (.ref a)) (fun _ s''=>XLie X.prog X.w X.outer X.H₀ X.s₀ a C H' s'') E s':=by
 obtain⟨B,a0,fl,dom,trk⟩:=x.fly
 have J:Inv X pins σ H' s':=I.call' x.os x.un x.hok x.bare (fun b z=>absurd z (by simp))
 have hfl:=fl
 rw [hst] at hfl
 refine wpAny_leaves_onW (by rw [I.ok.frames,hst]) hf hfl fun h' fl' up=>?_
 have inB:∀ b o,X.s₀.heap.get? b=some o->b∉frs X.outer->∃ o',B.get? b=some o':=fun b o q hb=>by
  obtain⟨o1,q1⟩:=I.base.there b o q (by rw [hex];simp)
  exact dom b o1 q1 (I.old_ne hst hf q hb)
 have eqB:∀ b o o',B.get? b=some o'->s'.heap.get? b=some o->h'.get? b=some o:=fun b o o' hb q=>by
  have:=fl.1 b o' hb
  rw [q] at this
  cases this
  exact fl'.1 b o hb
 have noF:∀ b o,b∈frs X.outer->s'.heap.get? b=some o->∀ vs,o.data≠.fields vs:=fun b o hb q=>by
  obtain⟨_,o1,q1,hd⟩:=J.stack.mem (b:=b) (by
   show b∈frs X.stack
   rw [hst]
   unfold frs
   rw [aqd,hf]
   exact ao3 _ hb)
  rw [q] at q1
  cases q1
  exact hd
 have ex0:∀ b:Addr,b∉X.ex:=fun b=>by rw [hex];simp
 refine⟨x.os.trans I.os,x.bare,⟨fun b o q n hb _=>?_,fun b o q n hb _=>?_,fun b o q n _=>J.base.free b o q n (ex0 b),fun b o q _=>?_,J.base.tups,J.base.frzs,J.base.tbls⟩,?_,⟨B,a0,fl',inB,trk⟩,?_,x.free⟩
 ·obtain⟨o',hB⟩:=inB b o q hb
  exact eqB b o o' hB (J.base.keep b o q n hb (ex0 b))
 ·obtain⟨sl,q1⟩:=J.base.slot b o q n hb (ex0 b)
  obtain⟨sl',q2⟩:=up b _ q1 (noF b _ hb q1)
  exact⟨sl',q2⟩
 ·obtain⟨o1,q1⟩:=J.base.there b o q (ex0 b)
  by_cases hb:b∈frs X.outer
  ·obtain⟨sl',q2⟩:=up b _ q1 (noF b _ hb q1)
   exact⟨_,q2⟩
  ·obtain⟨o',hB⟩:=inB b o q hb
   exact⟨_,fl'.1 b o' hB⟩
 ·refine HOk.stays x.hok fun b o u e q=>?_
  obtain⟨o',hB⟩:=trk b o e
  exact eqB b u o' hB q
 ·cases q:X.s₀.heap.get? a with
  | none=>rfl
  | some o =>
   obtain⟨o1,q1⟩:=I.base.there a o q (ex0 a)
   rw [x.new] at q1
   cases q1
end
end L2
end
section
namespace L2
open PySem PySem.Spec PyProof.Rows
section
variable {X:Cx} {pins:List (Addr×Obj)} {σ:St} {H H' H1 H2:Hp} {s s' s1 s2:Shared} {a:Addr} {C:Value} {i j:Nat}
theorem amS {M:Model} {A:Around} {E:Value->Shared->Prop} {x:Str} {v:V} {Q:Unit->Shared->Prop} (I:Inv X pins σ H s) (hN:X.N.Nodup) (hi:X.N[i]?=some x) (hk:X.env.scope.names.lookup x=some .local) (hv:σ[i]?=some (some v))
  (h:∀ s',Inv X pins (σ.set i none) H s'->Q () s'):wpAny M A (unbindName X.env x) Q E s:=by
 obtain⟨m,hn,hl⟩:=id I.loc
 obtain⟨u,r,lk⟩:=hl i x v hi hv (.inl hk)
 have hm:m x=some u:=by
  rcases lk with⟨_,e⟩ | ⟨z,_⟩
  ·exact e
  ·rcases z with z | z
   ·have z':X.env.scope.names.lookup x=some .cell:=z
    rw [hk] at z';cases z'
   ·have z':X.env.scope.names.lookup x=some .free:=z
    rw [hk] at z';cases z'
 have plain:(X.env.scope.kind == .class
   || (X.env.scope.kind == .module
    && X.env.locals != X.env.globals))=false:=by
  rw [I.ok.kind]
  rfl
 have cne:=I.cne
 refine wpAny_unbindName_local hk hn hm plain fun h' w hn' hs=>?_
 have old:∀ {b:Addr} {o:Obj},X.s₀.heap.get? b=some o->b≠X.env.locals:=fun {b o} e=>apw (apk (apc e) I.ok.above)
 refine h _ ⟨I.ok,I.os,I.bare,⟨fun b o e n hb hx=>(hs.2 b (old e)).trans (I.base.keep b o e n hb hx),fun b o e n hb hx=>?_,I.base.free,fun b o e hx=>?_,I.base.tups,I.base.frzs,I.base.tbls⟩,⟨_,hn',fun q y v' e1 e2 e3=>?_⟩,fun y c e=>?_,I.free,I.freeC,fun p hp=>?_,?_,by rw [apP];exact I.len⟩
 ·obtain⟨sl,e1⟩:=I.base.slot b o e n hb hx
  exact⟨sl,(hs.2 b (old e)).trans e1⟩
 ·obtain⟨o',e1⟩:=I.base.there b o e hx
  exact⟨o',(hs.2 b (old e)).trans e1⟩
 ·by_cases hj:q=i
  ·subst hj
   rw [asa] at e2
   rw [if_pos rfl] at e2
   split at e2 <;> cases e2
  ·rw [apY (apT hj)] at e2
   obtain⟨u',r',z⟩:=hl q y v' e1 e2 e3
   refine⟨u',r',?_⟩
   rcases z with⟨k,e⟩ | ⟨k,c,e,z⟩
   ·refine .inl ⟨k,?_⟩
    have:y≠x:=fun e=>hj (aa6 hN e1 (e▸hi))
    show (if y=x then w else m y)=some u'
    rw [if_neg this]
    exact e
   ·exact .inr ⟨k,c,e,z.sameBut hs (cne y c e)⟩
 ·obtain⟨w',z⟩:=I.cell y c e
  exact⟨w',z.sameBut hs (cne y c e)⟩
 ·obtain⟨e,n,ne,nf,d⟩:=I.pin p hp
  exact⟨(hs.2 p.1 ne).trans e,n,ne,nf,d⟩
 ·refine HOk.stays I.hok fun b o u e q=>(hs.2 b ?_).trans q
  rintro rfl
  rw [I.free] at e
  cases e
def Cx.marked (X:Cx) (e:Value):Cx:={ X with A:=X.A.mark (some e),calm:=false,xe:=fun _ _=>False }
theorem Cx.Ok.marked (ok:X.Ok) (e:Value):(X.marked e).Ok :=
 ⟨ok.mod,ok.kind,ok.glob,ok.blt,ok.above,ok.inj,ok.has,ok.cab,(fun z=>by cases z),ok.frames,ok.stk,ok.exf,ok.bs,ok.bsz,ok.noex,ok.exfs,ok.funs,ok.frf⟩
theorem Inv.marked (I:Inv X pins σ H s) (e:Value):Inv (X.marked e) pins σ H s:=⟨I.ok.marked e,I.os,I.bare,I.base,I.loc,I.cell,I.free,I.freeC,I.pin,I.hok,I.len⟩
theorem Inv.unmarked {e:Value} (ok:X.Ok) (I:Inv (X.marked e) pins σ H s):Inv X pins σ H s:=⟨ok,I.os,I.bare,I.base,I.loc,I.cell,I.free,I.freeC,I.pin,I.hok,I.len⟩
theorem XLie.move {P:Program} {w:World} {outer:List Env} {B:Heap} {a0:Value} {h'':Heap} (x:XLie P w outer H s a C H' s') (fl:asz B outer a C a0 s'.heap) (dom:∀ b o,s.heap.get? b=some o->b∉frs outer->∃ o',B.get? b=some o')
  (trk:∀ b o,H' b=some o->∃ o',B.get? b=some o') (st:B.StaysIn h'') (up:s'.heap.UpToSlots h''):Un (frs outer) [] H H' s.heap h''/\HOk P w H' h'':=by
 have eqB:∀ b o o',B.get? b=some o'->s'.heap.get? b=some o->h''.get? b=some o:=fun b o o' hb q=>by
  have:=fl.1 b o' hb
  rw [q] at this
  cases this
  exact st b o hb
 have noF:∀ b o,b∈frs outer->s'.heap.get? b=some o->∀ vs,o.data≠.fields vs:=fun b o hb q=>by
  obtain⟨_,o1,q1,hd⟩:=fl.2.2.1.mem hb
  rw [q] at q1
  cases q1
  exact hd
 refine⟨⟨fun b o q n hb z=>?_,fun b o q n hb z=>?_,x.un.free,fun b o q z=>?_,x.un.tups,x.un.frzs,x.un.tbls⟩,HOk.stays x.hok fun b o u e q=>?_⟩
 ·obtain⟨o',hB⟩:=dom b o q hb
  exact eqB b o o' hB (x.un.keep b o q n hb z)
 ·obtain⟨sl,q1⟩:=x.un.slot b o q n hb z
  obtain⟨sl',q2⟩:=up b _ q1 (noF b _ hb q1)
  exact⟨sl',q2⟩
 ·by_cases hb:b∈frs outer
  ·obtain⟨o1,q1⟩:=x.un.there b o q z
   obtain⟨sl',q2⟩:=up b _ q1 (noF b _ hb q1)
   exact⟨_,q2⟩
  ·obtain⟨o',hB⟩:=dom b o q hb
   exact⟨_,st b o' hB⟩
 ·obtain⟨o',hB⟩:=trk b o e
  exact eqB b u o' hB q
end
def ac3 (D:Ends) (j:Nat):Ends where
 nx:=fun σ H=>D.nx (σ.set j none) H
 rt:=D.rt
 bk:=fun σ H=>D.bk (σ.set j none) H
 ct:=fun σ H=>D.ct (σ.set j none) H
section
variable {X:Cx} {pins:List (Addr×Obj)} {σ:St} {H H1 H2:Hp} {s s1 s2:Shared} {a C0:Addr} {C:Value} {i j:Nat} {n hx:Str} {b0:Stmt} {suite:List Stmt} {hp hpos:Pos} {ts:TS} {D:Ends}
theorem ac4 {M:Model} {A:Around} {E:Value->Shared->Prop} {Q:Unit->Shared->Prop} (I:Inv X pins σ H s) (hN:X.N.Nodup) (hj:X.N[j]?=some n) (hn:X.env.scope.names.lookup n=some .local) (h:∀ s',Inv X pins (σ.set j none) H s'->Q () s') :
  wpAny M A (do bindName X.env n .none;unbindBehindTheSuite X.env n hpos) Q E s:=by
 refine wpAny_bind (wpAny_bindName (jT (v:=.non) I hN hj (.inl hn) rfl (fun s' I'=>?_) (.inr hn)))
 unfold unbindBehindTheSuite
 refine wpAny_onRaise (amS (v:=.non) I' hN hj hn ?_ fun s'' I''=>?_)
 ·have:j<σ.length:=by rw [I.len];exact (ao1.mp hj).1
  rw [ap2 this]
 ·rw [List.set_set] at I''
  exact h s'' I''
end
end L2
end
section
namespace L2
open PySem PySem.Spec PySem.W PyProof.Rows PySem.Calls PySem.Builtin Builtin Builtin.ObjectAttr Builtin.Getset_descriptor
section
variable {prog:Program} {w:World} {A:Around} {E:Value->Shared->Prop} {s:Shared} {K:aoZ} {a C:Addr}
structure ExcWays (K:aoZ) (C:Addr):Prop where
 ga:findIn K (.ref C) "__getattribute__"=some (some (.builtin "BaseException.__getattribute__"))
 gt:findIn K (.ref C) "__getattr__"=some none
 cl:findIn K (.ref C) "__class__"=some (some (.builtin "object.__class__"))
 gs:specialIn K (.builtin "object.__class__") "__get__"=some (some (.builtin "getset_descriptor.__get__"))
 tk:takesIn K (.builtin "object.__class__")=some true
 ob:mroIn K C (.type "object")=some true
 be:mroIn K C (.type "BaseException")=some true
 iz:(clsIn K C).isSome=true
def aaJ (a C:Addr) (h:Heap):Prop:=∃ o,h.get? a=some o/\o.cls=.ref C
theorem qE {M:Model} {h:Heap} (x:aaJ a C h):Looks M h (typeOf (.ref a)) (.ref C):=by
 obtain⟨o,h1,h2⟩:=x
 exact h2▸(Looks.ld h1).andThen .now
theorem ahl {M:Model} {h:Heap} {x:Value} {nm:Str} {d g:Value} (X:K.In h) (h1:findIn K (.ref C) nm=some (some d)) (h2:specialIn K d "__get__"=some (some g)) (h3:takesIn K d=some true):Looks M h (find x (.ref C) nm) (.bind g d):=by
 have L1:=looks_findIn (M:=M) X h1
 have L2:Looks M h (getOf (some d)) (some g):=looks_specialIn X h2
 have L3:Looks M h (dataDescriptor? (some d) (some g)) (some (g,d)):=(looks_takesIn (M:=M) X h3).andThen .now
 exact L1.andThen (L2.andThen (L3.andThen (Looks.tag .now)))
theorem afk {R:Result->Shared->Prop} {tp:Value} (X:K.In s.heap) (I:aaJ a C s.heap) (hm:mroIn K C (.type "object")=some true) (h:R (.ok (.ret (.ref C))) s) :
  codeAny (model prog w) A (.call (.builtin "getset_descriptor.__get__") ⟨[.builtin "object.__class__",.ref a,tp],[]⟩) R s:=by
 obtain⟨hh,g,dr,t,os⟩:=s
 have L0:=qE (M:=model prog w) I
 have L1:=looks_mroIn (M:=model prog w) X hm
 refine codeAny_call_builtin KF.slot_gs.plain KF.entry_gs (KF.slot_gs.check _ _ _ _ _ _ _ _ KF.type_class (KF.args_gs _ _ _) ?_)
 unfold Builtin.«getset_descriptor.__get__» descrGet
 rw [dga_obj]
 refine wpAny_bind (wpAny_pure ?_)
 unfold descrGetter descrCheckInstance descrNameAndClass isInstance
 simp only [KF.owner_class]
 repeat lk
 refine⟨arW _ (by decide +kernel),codeAny_builtin KF.entry_class ?_⟩
 unfold Builtin.«object.__class__» shownTypeOf
 repeat lk
 exact h
theorem aeb {M:Model} {nameV:Value} {Q:Unit->Shared->Prop} (X:K.In s.heap) (I:aaJ a C s.heap) (Wy:ExcWays K C) (h:Q () s):wpAny M A (checkBuiltinCall "BaseException.__getattribute__" ⟨[.ref a,nameV],[]⟩) Q E s:=by
 obtain⟨hh,g,dr,t,os⟩:=s
 have hk:builtinKind "BaseException.__getattribute__"=some .slot:=by decide +kernel
 have hsp:splitId "BaseException.__getattribute__"=some ("BaseException","__getattribute__"):=by decide +kernel
 have L0:=qE (M:=M) I
 have L1:=looks_mroIn (M:=M) X Wy.be
 have ha:=F.args_bexc_ga (.ref a) nameV
 simp only [checkBuiltinCall,hk,hsp]
 unfold isInstance
 refine wpAny_bind (wpAny_bind (L0.at (L1.at ?_)))
 rw [apJ,if_neg aoY]
 exact wpAny_of_eq ha h
theorem akG {Q:Option Value->Shared->Prop} (X:K.In s.heap) (I:aaJ a C s.heap) (Wy:ExcWays K C) (h:Q (some (.ref C)) { s with toks:=s.toks+1 }):wpAny (model prog w) A (getAttr? (.ref a) "__class__") Q E s:=by
 obtain⟨hh,g,d,t,os⟩:=s
 have L0:=qE (M:=model prog w) I
 have L1:=looks_findIn (M:=model prog w) X Wy.ga
 have L2:=looks_findIn (M:=model prog w) X Wy.gt
 unfold getAttr? getAttrBy? getAttrBy
 refine wpAny_bind (wpAny_mkText (wpAny_bind (wpAny_attempt (wpAny_holding (wpAny_bind (L0.at (wpAny_bind (L1.at ?_))))))))
 dsimp only
 rw [if_neg (by
  have z:(Value.builtin "BaseException.__getattribute__" == Value.builtin "object.__getattribute__")=false:=by decide +kernel
  rw [z,aqY]
  exact aoY)]
 unfold getAttrByItsOwn hookBefore
 rw [if_pos (show onTheHeap (Value.ref C)=true from rfl)]
 refine wpAny_bind (L2.at (wpAny_bind (wpAny_attempt (wpAny_holding ?_))))
 unfold callGetattribute
 rw [aqT,if_neg aoY]
 unfold boundAndCalled
 have f3:=asP.ga.bind (.ref a)
 rw [f3]
 refine wpAny_bind (wpAny_pure ?_)
 dsimp only
 refine wpAny_call (codeAny_call_builtin asP.ga.plain F.entry_bexc_ga (aeb (K:=K) (C:=C) X I Wy ?_))
 have LF:=ahl (M:=model prog w) (x:=.ref a) X Wy.cl Wy.gs Wy.tk
 unfold Builtin.«object.__getattribute__»
 refine wpAny_bind (wpAny_of_eq (a:=(Value.ref a,[Value.str (arl "__class__") t])) rfl ?_)
 dsimp only
 refine wpAny_bind (wpAny_of_eq (a:=(arl "__class__")) rfl ?_)
 refine wpAny_bind (L0.at (wpAny_bind (LF.at ?_)))
 dsimp only
 unfold bindTo
 refine wpAny_bind (wpAny_call (afk (K:=K) X I Wy.ob ?_))
 show wpAny _ _ (pure _) _ _ _
 refine wpAny_pure ?_
 dsimp only
 exact handed_on rfl (wpAny_pure h)
theorem aiK (Wy:ExcWays K C):KitX K (.ref a) (.ref C) (aaJ a C) where
 ty:=fun _ _ _ I=>qE I
 it:=fun _ _ X _=>by
  obtain⟨cd,hc⟩:=aqi.mp Wy.iz
  unfold clsIn at hc
  split at hc
  ·rename_i lk
   intro A' Q' E' s' k q
   unfold isType loadHead
   exact wpAny_bind (wpAny_loadPart (k _ _ (X _ _ lk)) (wpAny_pure q))
  ·cases hc
 ne:=fun h tp dd its n sl X htp=>by
  obtain⟨cd,hc⟩:=aqi.mp Wy.iz
  refine Bool.eq_false_iff.mpr fun q=>?_
  have e:C=tp:=Value.ref.inj (beq_iff_eq.mp q)
  unfold clsIn at hc
  split at hc
  ·rename_i lk
   have z:=X _ _ lk
   rw [e] at z
   rw [htp] at z
   cases z
  ·cases hc
 ca:=fun X I k=>akG X I Wy k
end
structure FnInX (P:Program) (w:World) (K:aoZ) (mg:Str->Option Value) (base:Heap) (k:Nat) (x:Str) (ps:List Str) (sp:Sp):Prop where
 ex:∃ (f:Addr) (fd:FuncData),FnOk P w K mg base (CXe P w) k f fd ps sp/\mg x=some (.ref f)/\apM K (.ref f)=true/\Binds K fd ps []
end L2
end
section
namespace L2
open PySem PySem.Spec PyProof.Rows
def amT (K:aoZ):List V->Hp->VK->Prop:=fun xs H Q=>∃ (a:Addr) (bs:List Bool),xs=[.ref a]/\SqL K H a (bs.map V.bl)/\Q (.bl (bs.all id)) H
def aoN (K:aoZ):List V->Hp->VK->Prop:=fun xs H Q=>∃ (a:Addr) (bs:List Bool),xs=[.ref a]/\SqL K H a (bs.map V.bl)/\Q (.bl (bs.any id)) H
theorem abq:∀ {bs:List Bool} {us:List Value},Vals (bs.map V.bl) us->us=bs.map Value.bool
 | [],us,r=>by
  cases r
  rfl
 | b :: bs,us,r=>by
  cases r with
  | cons h t =>
   rw [abq t]
   cases (show _=Value.bool b from h)
   rfl
theorem range_all (bs:List Bool):(apj bs.length).all (fun i=>bs.getD i false)=bs.all id:=by
 rw [asD,arD,arD]
 constructor
 ·intro h b hb
  obtain⟨i,hi,rfl⟩:=asQ.mp hb
  have:=h i (apr.mpr hi)
  rwa [ao0,aoW hi] at this
 ·intro h i hi
  have hi':=apr.mp hi
  rw [ao0,aoW hi']
  exact h _ (apu hi')
theorem range_any (bs:List Bool):(apj bs.length).any (fun i=>bs.getD i false)=bs.any id:=by
 rw [asD,List.any_eq_true,List.any_eq_true]
 constructor
 ·rintro⟨i,hi,h⟩
  have hi':=apr.mp hi
  rw [ao0,aoW hi'] at h
  exact⟨_,apu hi',h⟩
 ·rintro⟨b,hb,h⟩
  obtain⟨i,hi,rfl⟩:=asQ.mp hb
  refine⟨i,apr.mpr hi,?_⟩
  rw [ao0,aoW hi]
  exact h
theorem aaK (prog:Program) (w:World) (A:Around) (bs:List Bool):TruthOf prog w A (fun i v=>(bs.map Value.bool).toArray[i]?=some v) (fun i=>bs.getD i false):=by
 intro i v s Q E hv hq
 rw [List.getElem?_toArray,ao5] at hv
 cases eb:bs[i]? with
 | none=>rw [eb] at hv;cases hv
 | some b =>
  rw [eb] at hv
  cases hv
  dsimp only at hq
  rw [ao0,eb] at hq
  exact wpAny_pure hq
theorem ahm {X:Cx} (hc:X.calm=true):yo X (.builtin "all") (amT X.K):=by
 intro pins s σ H xs us Q I r h
 obtain⟨a,bs,rfl,hq,q⟩:=h
 obtain⟨u,rfl,r1⟩:=vals1 r
 cases r1
 obtain⟨its,rv,p,_⟩:=I.list hq
 have hl:=p.isList
 rw [abq rv] at hl
 have ha:a<s.heap.objs.size:=by
  obtain⟨o,ho,_⟩:=hl
  exact apc ho
 refine call_all_walk (wpAny_pyIter_list hl ?_)
 have hne:a≠s.heap.objs.size:=apw ha
 refine⟨s.heap.objs.size,_,_,_,_,_,_,rfl,Walks.list (show (X.A.in1).handled=none from I.ok.hd hc) _ a hne _,⟨?_,?_⟩,aaK _ _ _ bs,fun h' tk hk=>?_⟩
 ·exact⟨_,apA _ rfl,rfl,rfl⟩
 ·exact hl.at fun o e=>ao2 _ e
 ·have kp:∀ b o,s.heap.get? b=some o->h'.get? b=some o:=fun b o e=>hk b o (by
   intro z
   have:=apc e
   rw [apo.mp z] at this
   exact aqh _ this) (ao2 _ e)
  refine⟨.bl _,H,I.kept (t':=tk) kp,?_,q⟩
  show Value.bool _=Value.bool _
  rw [ape,aoX,range_all]
theorem acq {X:Cx} {K:aoZ} (hK:X.K=K) (hc:X.calm=true):yo X (.builtin "all") (amT K):=hK▸ahm hc
section
variable {K:aoZ} {f:Fx} {ρ:zm} {P:PyData->Prop} {te:TE}
theorem vx {H:Hp}:∀ {bs:List Bool} {xs:List V},Reps K H (bs.map .bool) xs->xs=bs.map V.bl
 | [],xs,r=>reps_nil.mp r
 | b :: bs,xs,r=>by
  obtain⟨x,r',rfl,h1,h2⟩:=reps_cons.mp r
  rw [vx h2,rep_bool.mp h1]
  rfl
theorem al1 (h:PEd K f te ρ fun x=>∃ bs:List Bool,x=.list (bs.map .bool)/\P (.bool (bs.all id))):PEd K f (tCB (amT K) (zY te y4)) ρ P:=fun σ H Q e q=>h σ H _ e fun x v H1 g1 r1 ⟨bs,ex,p⟩=>by
 subst ex
 obtain⟨a,xs,rfl,h1,h2⟩:=rep_list.mp r1
 rw [vx h2] at h1
 exact⟨a,bs,rfl,(zl _ _).seq h1,q _ _ H1 g1 (rep_bool.mpr rfl) p⟩
end
section
variable {prog:Program} {w:World} {A:Around} {E:Value->Shared->Prop}
theorem acr {I:Addr} {fp wr:List Addr} {n:Nat} {P:Nat->Value->Prop} {St:Nat->Heap->Prop} (W:Walks prog w A I fp wr n P St):∀ (k i:Nat) (s:Shared) (Q:List Value->Shared->Prop),i+k<=n->St i s.heap ->
  (∀ vs h' tk,vs.length=k->(∀ (j:Nat) v,vs[j]?=some v->P (i+j) v)->St (i+k) h'->(∀ b o,b∉wr->s.heap.get? b=some o->h'.get? b=some o)->Q vs { s with heap:=h',toks:=tk })->wpAny (model prog w) A (draw (.ref I) k) Q E s
 | 0,i,s,Q,_,st,hQ=>wpAny_pure (hQ [] s.heap s.toks rfl (fun j v e=>by simp at e) st fun _ _ _ e=>e)
 | k+1,i,s,Q,hle,st,hQ=>by
  show wpAny _ _ (pyNext (.ref I) >>= _) Q E s
  refine wpAny_bind (W.item i s _ E (by omega) st fun v h1 tk1 hv st1 k1=>?_)
  refine wpAny_bind (wpAny_holding (acr W k (i+1) _ _ (by omega) st1 fun vs h2 tk2 hl hp st2 k2=>wpAny_pure ?_))
  refine hQ (v :: vs) h2 tk2 (by rw [aph,hl]) (fun j u e=>?_) (by rw [show i+(k+1)=i+1+k by omega];exact st2) fun b o hb e=>k2 b o hb (k1 b o hb e)
  cases j with
  | zero=>cases e;exact hv
  | succ j =>
   have:=hp j u e
   rwa [show i+(j+1)=i+1+j by omega]
theorem afl {s:Shared} {a:Addr} {items:Array Value} {targets:List (Bool×(Value->Sem Unit))} {Q:Unit->Shared->Prop} (hh:A.handled=none) (hl:s.heap.IsList a items)
  (hn:targets.length=items.size) (hstar:targets.findIdx? (·.1)=none)
  (h:∀ h' tk,(∀ b o,s.heap.get? b=some o->h'.get? b=some o)->wpAny (model prog w) A (assignInOrder (targets.map (·.2)) items.toList) Q E { s with heap:=h',toks:=tk }):wpAny (model prog w) A (unpack (.ref a) targets) Q E s:=by
 have ha:a<s.heap.objs.size:=by
  obtain⟨o,ho,_⟩:=hl
  exact apc ho
 unfold unpack
 rw [hn,hstar]
 refine wpAny_bind (wpAny_holding ?_)
 unfold unpackItems
 refine wpAny_bind ?_
 unfold notIterableAtAll
 refine wpAny_bind (wpAny_specialOf hl.typeIs slot_list_iter.lookup (wpAny_pure ?_))
 simp only [apI,if_false]
 refine wpAny_bind (wpAny_holding (wpAny_pyIter_list hl ?_))
 have W:=Walks.list (prog:=prog) (w:=w) hh s.heap.objs.size a (apw ha) items
 have fr:∀ b o,s.heap.get? b=some o->b∉[s.heap.objs.size]:=fun b o e z=>by
  have:=apc e
  rw [apo.mp z] at this
  exact aqh _ this
 refine wpAny_bind (wpAny_holding (acr W items.size 0 _ _ (by omega) ⟨⟨_,apA _ rfl,rfl,rfl⟩,hl.at fun o e=>ao2 _ e⟩ fun vs h1 tk1 hvl hp st1 k1=>?_))
 have ev:vs=items.toList:=by
  refine arn fun j=>?_
  by_cases hj:j<vs.length
  ·have:=hp j _ (aoW hj)
   rw [asA] at this
   rw [aoW hj,<- this,ary]
  ·rw [apt (by omega),apt (by rw [apf];omega)]
 subst ev
 rw [if_neg (by simp)]
 rw [asA] at st1
 refine wpAny_bind (wpAny_holding (W.done _ _ _ st1 fun h2 tk2 k2=>?_))
 simp only [Option.isSome_none,apI,if_false]
 exact wpAny_pure (h h2 tk2 fun b o e=>k2 b o (fr b o e) (k1 b o (fr b o e) (ao2 _ e)))
end
def aoi (K:aoZ) (n:Nat) (gs:TGs):TG:=fun v σ H Q=>∃ a xs,v=.ref a/\SqL K H a xs/\xs.length=n/\gs xs σ H Q
theorem ac5 {X:Cx} {K:aoZ} {es:List Expr} {k:Nat} {t:TGs} {n:Nat} {pos:Pos} (hK:X.K=K) (hc:X.calm=true) (h:PGs X es t)
  (hn:(assignEach es X.env).length=n:=by rfl) (hst:(assignEach es X.env).findIdx? (·.1)=none:=by rfl):PG X (.Tuple es k pos) (aoi K n t):=by
 subst hK
 intro pins s σ H v u Q I r hw
 obtain⟨a,xs,e1,hq,hl,hw⟩:=hw
 subst e1
 cases r
 obtain⟨its,rv,p,hz⟩:=I.list hq
 rw [assign_Tuple]
 refine wpAny_bind (wpAny_standAt (afl (I.ok.hd hc) p.isList (by rw [hn,<- hl,rv.length,ape]) hst fun h' tk kp=>?_))
 exact h pins _ σ H xs _ Q (I.kept (t':=tk) kp) rv hw
section
variable {K:aoZ} {f:Fx} {ρ:zm}
theorem aiL {n:Nat} {gs:TGs} {ds:List PyData} {R:zm->Prop} (hn:ds.length=n) (h:aiB K f gs ds ρ R):PGd K f (aoi K n gs) (.list ds) ρ R:=fun σ H v Q e r q=>by
 obtain⟨a,xs,rfl,h1,h2⟩:=rep_list.mp r
 exact⟨a,xs,rfl,(zl _ _).seq h1,by rw [h2.length];exact hn,h σ H xs Q e h2 q⟩
end
section
variable {X:Cx} {pins:List (Addr×Obj)} {σ:St} {H:Hp} {s:Shared}
theorem ahn {K:aoZ} (hK:X.K=K):OpR X (compareOp .NotIn) (rIn K true):=hK▸acU
end
section
variable {K:aoZ} {f:Fx} {ρ:zm} {P:PyData->Prop} {te ta tb:TE} {t:TA} {D:DEnds} {i j:Nat}
theorem aiM (h:PEd K f ta ρ fun d=>∃ n:Int,d=.int n/\PEd K f tb ρ fun y=>∃ ns:List Int,y=.tuple (ns.map .int)/\P (.bool (!ns.contains n))):PEd K f (tOp (rIn K true) ta tb) ρ P:=fun σ H Q e q =>
 h σ H _ e fun d v H1 g1 r1 ⟨n,ed,p1⟩=>p1 σ H1 _ (e.mono g1) fun y w H2 g2 r2 ⟨ns,ey,p2⟩=>by
  subst ed ey
  obtain⟨a,xs,rfl,h1,h2⟩:=rep_tuple.mp r2
  have ex:=h2.ints
  subst ex
  rw [rep_int.mp r1]
  have e1:inV (.int n) (ns.map V.int)=ns.contains n:=by
   unfold inV
   rw [List.any_map,List.contains_eq_any_beq]
   congr 1
   funext m
   show (m == n)=(n == m)
   exact BEq.comm
  refine⟨a,_,rfl,.inr ((zl _ _).seqT h1),rfl,?_,?_⟩
  ·rw [List.all_map]
   exact arD.mpr fun _ _=>rfl
  ·rw [if_pos rfl,e1]
   exact q _ _ H2 (g1.trans g2) (rep_bool.mpr rfl) p2
theorem al3 (h:PAd K f t ρ fun xs=>∃ d d',xs=[.dat d,.dat d']/\D.nx ((ρ.set i (some (.dat d))).set j (some (.dat d')))):PSd K f (anZ i j t) ρ D:=fun σ H E e n r b c =>
 h σ H _ e fun xs vs H1 g1 r1 ⟨d,d',ex,p⟩=>by
  subst ex
  cases r1 with
  | cons ra rs =>
   cases rs with
   | cons rb rs =>
    cases rs
    exact⟨_,_,rfl,n _ _ H1 g1 (((e.mono g1).set i (x:=.dat d) ra).set j (x:=.dat d') rb) p⟩
end
section
variable {K:aoZ} {f:Fx} {ρ:zm} {D:DEnds}
theorem akH {tc:TT} {tb:TS} (J:zm->Prop) (μ:zm->Nat) (h0:J ρ)
  (hs:∀ ρ',J ρ'->PTd K f tc ρ' fun b=>if b=true then PSd K f tb ρ' { D with nx:=fun r=>J r/\μ r<μ ρ',ct:=fun r=>J r/\μ r<μ ρ',bk:=D.nx } else D.nx ρ'):PSd K f (ae2 tc tb) ρ D:=fun σ H E e n r b c=>by
 refine⟨fun m σ' H'=>∃ ρ',EnvOk K f ρ' σ' H'/\Goes f H H'/\J ρ'/\m=μ ρ',⟨_,ρ,e,.refl e.fd,h0,rfl⟩,?_⟩
 rintro m σ1 H1 ⟨ρ1,e1,g1,j1,rfl⟩
 refine hs ρ1 j1 σ1 H1 _ e1 fun t H2 g2 p=>?_
 cases t with
 | true =>
  rw [if_pos rfl] at p ⊢
  refine⟨fun σ' H'=>∃ ρ',EnvOk K f ρ' σ' H'/\Goes f H H'/\J ρ'/\μ ρ'<μ ρ1,fun σ' H' ⟨ρ',e',g',j',l'⟩=>⟨_,l',ρ',e',g',j',rfl⟩,?_⟩
  have gg:=g1.trans g2
  exact p σ1 H2 _ (e1.mono g2) (fun ρ5 σ5 H5 g5 e5 p5=>⟨ρ5,e5,gg.trans g5,p5⟩) (fun d v H5 g5 r5 p5=>r d v H5 (gg.trans g5) r5 p5) (fun ρ5 σ5 H5 g5 e5 p5=>n ρ5 σ5 H5 (gg.trans g5) e5 p5) (fun ρ5 σ5 H5 g5 e5 p5=>⟨ρ5,e5,gg.trans g5,p5⟩)
 | false =>
  rw [if_neg aoY] at p ⊢
  exact n ρ1 σ1 H2 (g1.trans g2) (e1.mono g2) p
end
section
variable {K:aoZ} {f:Fx} {ρ:zm} {E:XK} {te:TE} {ts tu:TS} {tt:TT} {t:TA} {P:PyData->Prop} {D:DEnds}
theorem aiN (h:PEd K f te ρ fun x=>∃ i,x=.int i/\P (.int (-i))):PEd K f (tUn (rU fun i=>.int (-i)) te) ρ P :=
 aoL (h.imp fun x ⟨i,ex,p⟩ v H Q fo r q=>by
  subst ex
  exact⟨i,rep_int.mp r,q _ _ H (.refl fo) (rep_int.mpr rfl) p⟩)
end
end L2
end
section
namespace L2
open PySem PySem.Spec PyProof.Rows
end L2
end
section
namespace L2
open PySem PySem.Spec PyProof.Rows
def amU (K:aoZ):List V->Hp->VK->Prop:=fun xs H Q=>∃ (a:Addr) (ns:List Int),xs=[.ref a]/\SqL K H a (ns.map V.int)/\Q (.int ns.sum) H
theorem aho {X:Cx} (hc:X.calm=true):yo X (.builtin "sum") (amU X.K):=by
 intro pins s σ H xs us Q I r h
 obtain⟨a,ns,rfl,hq,q⟩:=h
 obtain⟨u,rfl,r1⟩:=vals1 r
 cases r1
 obtain⟨its,rv,p,_⟩:=I.list hq
 have hl:=p.isList
 have hi:IntsAre its ns:=intsAre_of rv
 obtain⟨zs,ez⟩:=hi.allInts.items
 rw [ez] at hl
 refine sum_intListG (show (X.A).handled=none from I.ok.hd hc) hl fun h' tk t' kp=>⟨.int _,H,I.kept (t':=tk) kp,⟨_,rfl⟩,?_⟩
 have e:preSum (numAt zs) zs.size=ns.sum:=by
  rw [<-hi.numsOf,show its=its.toArray.toList from rfl,ez,nums_intItems,preSum_eq,List.take_of_length_le (by simp)]
 rw [e]
 exact q
theorem afm {X:Cx} {K:aoZ} (hK:X.K=K) (hc:X.calm=true):yo X (.builtin "sum") (amU K):=hK▸aho hc
section
variable {K:aoZ} {f:Fx} {ρ:zm} {P:PyData->Prop} {te:TE}
theorem aoj (h:PEd K f te ρ fun x=>∃ ns:List Int,x=.list (ns.map .int)/\P (.int ns.sum)):PEd K f (tCB (amU K) (zY te y4)) ρ P:=fun σ H Q e q=>h σ H _ e fun x v H1 g1 r1 ⟨ns,ex,p⟩=>by
 subst ex
 obtain⟨a,xs,rfl,h1,h2⟩:=rep_list.mp r1
 rw [h2.ints] at h1
 exact⟨a,ns,rfl,(zl _ _).seq h1,q _ _ H1 g1 (rep_int.mpr rfl) p⟩
end
section
variable {prog:Program} {w:World} {A:Around} {E:Value->Shared->Prop} {s:Shared}
theorem akI {t b:Addr} {vs ws:List Value} {Q:Value->Shared->Prop} (ht:PlainL s.heap t vs.toArray) (hb:PlainL s.heap b ws.toArray)
  (h2:Q (.ref s.heap.objs.size) { s with heap:=s.heap.push { cls:=.type "list",data:=.seq (vs++ws).toArray } })
  (hsz:vs.length+ws.length<=sizeLine):wpAny (model prog w) A (binaryOp .Add (.ref t) (.ref b)) Q E s:=by
 obtain⟨⟨cls,dd,data,sl⟩,n,ho,hc,_,hd⟩:=ht
 obtain⟨⟨cls2,dd2,data2,sl2⟩,n2,ho2,hc2,_,hd2⟩:=hb
 simp only at hc hd hc2 hd2
 subst hc hd hc2 hd2
 have e:vs.toArray++ws.toArray=(vs++ws).toArray:=by simp
 refine concat_meets ⟨_,ho,rfl⟩ ⟨_,ho2,rfl⟩ noFill_list_add seq_list_add PySem.F.slot_list_add PySem.F.entry_list_add (PySem.F.args_list_add_2 _ _) (list_addW t b vs.toArray ws.toArray n n2 dd dd2 sl sl2 (by rw [ape,ape];exact hsz)) ⟨ho,ho2,?_⟩
 rw [e]
 exact h2
end
def aiO (K:aoZ):R2:=fun x y H Q=>∃ l b xs zs,x=.ref l/\y=.ref b/\SqL K H l xs/\SqL K H b zs/\xs.length+zs.length<=sizeLine/\∀ p,H p=none->Q (.ref p) (upd H p (.lst (xs++zs)))
section
variable {X:Cx}
theorem akJ:OpR X (binaryOp .Add) (aiO X.K):=by
 intro pins s σ H x y v u Q I rx ry h
 obtain⟨l,b,xs,zs,rfl,rfl,ha,hb,hz,q⟩:=h
 cases rx
 cases ry
 obtain⟨its,r1,p1,_⟩:=I.list ha
 obtain⟨its2,r2,p2,_⟩:=I.list hb
 refine akI p1 p2 ?_ (by rw [<-r1.length,<- r2.length];exact hz)
 exact⟨.ref _,_,I.lnew (t':=s.toks) (r1.append r2) (by rw [api];omega),rfl,q _ I.fresh⟩
theorem vO {K:aoZ} (hK:X.K=K):OpR X (binaryOp .Add) (aiO K):=hK▸akJ
end
section
variable {K:aoZ} {f:Fx} {ρ:zm} {P:PyData->Prop} {te ta tb:TE} {t:TA}
theorem ac6 (h:PEd K f ta ρ fun x=>∃ ds,x=.list ds/\PEd K f tb ρ fun y=>∃ es,y=.list es/\ds.length+es.length<=1000/\P (.list (ds++es))):PEd K f (tOp (aiO K) ta tb) ρ P:=fun σ H Q e q =>
 h σ H _ e fun x v H1 g1 r1 ⟨ds,ex,p1⟩=>p1 σ H1 _ (e.mono g1) fun y w H2 g2 r2 ⟨es,ey,hl,p2⟩=>by
  subst ex ey
  obtain⟨a,xs,rfl,h1,h2⟩:=rep_list.mp (Rep.mono g2.sm _ _ r1)
  obtain⟨b,ys,rfl,h3,h4⟩:=rep_list.mp r2
  have l1:=h2.length
  have l2:=h4.length
  refine⟨a,b,xs,ys,rfl,rfl,(zl _ _).seq h1,(zl _ _).seq h3,by rw [l1,l2];exact ap1 (zX hl),fun p hn=>?_⟩
  have g3:Goes f H2 (upd H2 p (.lst (xs++ys))):=.of_same (zR hn _) g2.ok
  exact q (.list (ds++es)) _ _ (g1.trans (g2.trans g3)) (rep_list.mpr ⟨p,_,rfl,.of (zz (fresh_ne g2.ok hn) zq),Reps.mono g3.sm _ _ (h2.append h4)⟩) p2
theorem aec {R:List PyData->Prop} (h:PAd K f t ρ fun xs=>∃ ds,qh xs=some ds/\ds.length<=1000/\R ds):PEdO K f (abR t) ρ R:=fun σ H Q e q =>
 h σ H _ e fun xs vs H1 g1 r1 ⟨ds,ea,hl,p⟩=>by
  have rs:=qR r1 ea
  refine⟨by rw [rs.length];exact ap1 (zX hl),fun l hn=>?_⟩
  have g2:Goes f H1 (upd H1 l (.lst vs)):=.of_same (zR hn _) g1.2
  have nl:=fresh_ne g1.2 hn
  refine q ds l vs _ (g1.trans g2) (g1.free e.fd hn) zq (Reps.mono (fun b o hb=>?_) _ _ rs) p
  have hb':=zF hb
  have hbl:b≠l:=fun z=>by
   have:=hb'.2
   rw [z,hn] at this
   cases this
  refine zz (fun z=>?_) (by rw [zr hbl];exact hb'.2)
  rcases z with z | z
  ·exact hb'.1 (.inl z)
  ·rcases ao7.mp z with z | z
   ·exact hbl z
   ·exact hb'.1 (.inr z)
end
def spN {γ:Type} (K:aoZ) (n:Nat) (pre:γ->List DV->Prop) (post:γ->List PyData->Prop):Sp:=fun vs H Q _=>∃ f xs c,RepVs K f H xs vs/\xs.length=n/\FOk f H/\pre c xs /\
 ∀ es D vs' H',Goes f H H'->H D=none->H' D=some (.lst vs')->Reps K (hide H' (f.with D)) es vs'->post c es->Q (.ref D) H'
def PSn (K:aoZ) (f:Fx) (ts:TS) (ρ:zm) (R:List PyData->Prop):Prop:=∀ (σ:St) (H:Hp) (E:Ends),EnvOk K f ρ σ H ->
 (∀ es D vs H',Goes f H H'->H D=none->H' D=some (.lst vs)->Reps K (hide H' (f.with D)) es vs->R es->E.rt (.ref D) H')->ts E σ H
section
variable {K:aoZ} {f:Fx} {ρ:zm} {R:List PyData->Prop} {te:TE} {ts tu:TS} {tt:TT} {t:TA} {i:Nat} {D:Addr} {es:List PyData} {O:OEnds}
theorem abr (h:PEdO K f te ρ R):PSn K f (ag9 te) ρ R:=fun σ H E e q=>h σ H E.rt e q
theorem qG (h:PSd K f ts ρ { nx:=fun ρ'=>PSn K f tu ρ' R,rt:=fun _=>False }):PSn K f (qz ts tu) ρ R:=fun σ H E e q =>
 h σ H _ e (fun ρ' σ' H' g' e' p=>p σ' H' E e' fun es D vs H2 g2 hn h1 rs r=>q es D vs H2 (g'.trans g2) (g'.free e.fd hn) h1 rs r) (fun _ _ _ _ _ z=>z.elim) (fun _ _ _ _ _ z=>z.elim) (fun _ _ _ _ _ z=>z.elim)
theorem al4 (h:PTd K f tt ρ fun b=>if b=true then PEdO K f te ρ R else PSn K f tu ρ R):PSn K f (qz (ae0 tt (ag9 te) adS) tu) ρ R:=fun σ H E e q =>
 h σ H _ e fun b H1 g1 p=>by
  have q1:∀ es D vs H',Goes f H1 H'->H1 D=none->H' D=some (.lst vs)->Reps K (hide H' (f.with D)) es vs->R es->E.rt (.ref D) H':=fun es D vs H' g' hn=>q es D vs H' (g1.trans g') (g1.free e.fd hn)
  cases b with
  | true=>rw [if_pos rfl] at p ⊢;exact p σ H1 E.rt (e.mono g1) q1
  | false=>rw [if_neg aoY] at p ⊢;exact p σ H1 E (e.mono g1) q1
theorem ac7 {γ:Type} {n:Nat} {pre:γ->List DV->Prop} {post:γ->List PyData->Prop} {E:XK} (c:γ) (h:PAd K f t ρ fun xs=>xs.length=n/\pre c xs/\∀ es,post c es->R es):PEdO K f (vg (spN K n pre post) [] E t) ρ R:=fun σ H Q e q =>
 h σ H _ e fun xs vs H1 g1 r1 ⟨hl,hp,k⟩=>⟨f,xs,c,by rw [apB];exact r1,hl,g1.2,hp,fun es D vs' H' g' hn h1 rs p=>q es D vs' H' (g1.trans g') (g1.free e.fd hn) h1 rs (k es p)⟩
theorem al5 {ta tb:TE} (h:PTd K f tt ρ fun b=>if b=true then PEdO K f ta ρ R else PEdO K f tb ρ R):PEdO K f (tIf tt ta tb) ρ R:=fun σ H Q e q =>
 h σ H _ e fun b H1 g1 p=>by
  have q1:∀ es D vs H',Goes f H1 H'->H1 D=none->H' D=some (.lst vs)->Reps K (hide H' (f.with D)) es vs->R es->Q (.ref D) H':=fun es D vs H' g' hn=>q es D vs H' (g1.trans g') (g1.free e.fd hn)
  cases b with
  | true=>rw [if_pos rfl] at p ⊢;exact p σ H1 Q (e.mono g1) q1
  | false=>rw [if_neg aoY] at p ⊢;exact p σ H1 Q (e.mono g1) q1
end
section
variable {P:Program} {w:World} {K:aoZ} {mg:Str->Option Value} {base:Heap} {k:Nat} {x:Str} {st:Stmt} {ps:List Str} {N:List Str} {n:Nat} {γ:Type} {pre:γ->List DV->Prop} {post:γ->List PyData->Prop}
theorem Def.okN (F:Def K mg x st ps) (S:FnScope N ps (zg st)) (hn:ps.length=n)
  (h:∀ (fa:Addr) (cdv:Value) (A:Around) (outer:List Env) (s:Shared) (H:Hp) (E:XK),Room k (A.deeper (envOfC x (zg st) s.heap.objs.size fa cdv)) ->
   ∃ t,PSs (zI CX0 P w K mg base N x (zg st) fa cdv A outer s H E).nox (yt st) t/\∀ (f:Fx) (xs:List DV) (c:γ),xs.length=n->pre c xs->PSn K f t (jR N xs) (post c)) :
  FnIn P w K mg base (k+1) x ps (spN K n pre post):=by
 obtain⟨fa,fd,F1,F2,F3⟩:=F.ex
 refine⟨fa,fd,F1.ok S (fun vs H Q E h=>?_) (fun cdv A outer s H vs Q E hr hs=>?_),F3,F1.kp,F2⟩
 ·obtain⟨f,xs,c,r,hl,_⟩:=h
  rw [r.length,hl,hn]
 ·obtain⟨f,xs,c,r,hl,fo,hp,q⟩:=hs
  obtain⟨t,h1,h2⟩:=h fa cdv A outer s H E hr
  exact⟨t,h1,h2 f xs c hl hp (start N vs) H _ (jt r fo) (fun es D vs' H' g hn' h1' rs p=>q es D vs' H' g hn' h1' rs p)⟩
end
end L2
end
section
namespace L2
open PySem PySem.W PyProof.Rows
structure Tot (n:Nat) (lt:Nat->Nat->Bool):Prop where
 tri:∀ i j,i<n->j<n->i≠j->lt i j=!lt j i
 tra:∀ i j k,i<n->j<n->k<n->lt i j=true->lt j k=true->lt i k=true
def Ans (cmp:Nat->Nat->(Bool->Shared->Prop)->Shared->Prop) (n:Nat) (lt:Nat->Nat->Bool) (s:Shared):Prop:=∀ i j C,i<n->j<n->C (lt i j) s->cmp i j C s
def Pm (n:Nat) (p:Array Nat):Prop:=p.toList.Perm (apj n)
def Up (lt:Nat->Nat->Bool) (p:Array Nat) (m:Nat):Prop:=∀ i j,i<j->j<m->lt (p.getD i 0) (p.getD j 0)=true
def Dn (lt:Nat->Nat->Bool) (p:Array Nat) (m:Nat):Prop:=∀ i j,i<j->j<m->lt (p.getD j 0) (p.getD i 0)=true
theorem Pm.size {n:Nat} {p:Array Nat} (h:Pm n p):p.size=n:=by
 have:=h.length_eq
 rwa [apf,apW] at this
theorem jG (p:Array Nat) (i:Nat):p.getD i 0=p.toList.getD i 0:=by
 by_cases h:i<p.size <;> simp [aqJ,h,ata]
theorem Pm.lt {n:Nat} {p:Array Nat} (h:Pm n p) {i:Nat} (hi:i<n):p.getD i 0<n:=by
 have hs:=h.size
 have hl:i<p.toList.length:=by rw [apf,hs];exact hi
 rw [jG,ao0,aoW hl]
 exact apr.mp (h.mem_iff.mp (apu hl))
theorem Pm.ne {n:Nat} {p:Array Nat} (h:Pm n p) {i j:Nat} (hi:i<n) (hj:j<n) (ne:i≠j):p.getD i 0≠p.getD j 0:=by
 have hs:=h.size
 have nd:p.toList.Nodup:=h.nodup_iff.mpr asq
 have li:i<p.toList.length:=by rw [apf,hs];exact hi
 have lj:j<p.toList.length:=by rw [apf,hs];exact hj
 rw [jG,jG,ao0,ao0,aoW li,aoW lj]
 intro e
 exact ne ((arB nd).mp e)
theorem Pm.range (n:Nat):Pm n (ap3 (apj n)):=List.Perm.refl _
theorem Pm.of {n:Nat} {p q:Array Nat} (h:Pm n p) (e:q.Perm p):Pm n q:=(Array.perm_iff_toList_perm.mp e).trans h
theorem agf {p q:Array Nat} {i j:Nat} (h:p[i]?=q[j]?):p.getD i 0=q.getD j 0:=by
 rw [aqp,aqp,h]
section
variable {cmp:Nat->Nat->(Bool->Shared->Prop)->Shared->Prop} {n:Nat} {lt:Nat->Nat->Bool} {s:Shared} {p:Array Nat}
theorem Up.more (T:Tot n lt) (hp:Pm n p) {m:Nat} (h1:1<=m) (hm:m<n) (u:Up lt p m) (h:lt (p.getD (m - 1) 0) (p.getD m 0)=true):Up lt p (m+1):=fun i j hij hj=>by
 by_cases e:j=m
 ·subst e
  by_cases e2:i=j - 1
  ·subst e2;exact h
  ·exact T.tra _ _ _ (hp.lt (by omega)) (hp.lt (by omega)) (hp.lt hm) (u i (j - 1) (by omega) (by omega)) h
 ·exact u i j hij (by omega)
theorem Dn.more (T:Tot n lt) (hp:Pm n p) {m:Nat} (h1:1<=m) (hm:m<n) (u:Dn lt p m) (h:lt (p.getD m 0) (p.getD (m - 1) 0)=true):Dn lt p (m+1):=fun i j hij hj=>by
 by_cases e:j=m
 ·subst e
  by_cases e2:i=j - 1
  ·subst e2;exact h
  ·exact T.tra _ _ _ (hp.lt hm) (hp.lt (by omega)) (hp.lt (by omega)) h (u i (j - 1) (by omega) (by omega))
 ·exact u i j hij (by omega)
theorem aaX (T:Tot n lt) (W:Ans cmp n lt s) (hp:Pm n p) {Q:Nat->Shared->Prop}:∀ f m,1<=m->m+f<=n->Up lt p m->(∀ m',m<=m'->m'<=m+f->Up lt p m'->(m'=m+f \/ lt (p.getD m' 0) (p.getD (m' - 1) 0)=true)->Q m' s)->(kas_asc p f m).kasWp cmp Q s
 | 0,m,h1,hf,u,q=>q m (ao6 _) (ao6 _) u (.inl rfl)
 | f+1,m,h1,hf,u,q=>by
  refine W _ _ _ (hp.lt (by omega)) (hp.lt (by omega)) ?_
  cases e:lt (p.getD m 0) (p.getD (m - 1) 0) with
  | true=>exact q m (ao6 _) (by omega) u (.inr e)
  | false =>
   have e2:lt (p.getD (m - 1) 0) (p.getD m 0)=true:=by
    rw [T.tri _ _ (hp.lt (by omega)) (hp.lt (by omega)) (hp.ne (by omega) (by omega) (by omega)),e]
    rfl
   exact aaX T W hp f (m+1) (by omega) (by omega) (u.more T hp h1 (by omega) e2) fun m' a b c d=>q m' (by omega) (by omega) c (d.imp (fun z=>by omega) id)
theorem aed (T:Tot n lt) (W:Ans cmp n lt s) (hp:Pm n p) {Q:Array Nat×Nat×Nat->Shared->Prop}:∀ f m,1<=m->m+f<=n->Dn lt p m->(∀ m',m<=m'->m'<=m+f->Dn lt p m'->Q (p,m',0) s)->(kas_desc f p m 0).kasWp cmp Q s
 | 0,m,h1,hf,u,q=>q m (ao6 _) (ao6 _) u
 | f+1,m,h1,hf,u,q=>by
  refine W _ _ _ (hp.lt (by omega)) (hp.lt (by omega)) ?_
  cases e:lt (p.getD m 0) (p.getD (m - 1) 0) with
  | true=>exact aed T W hp f (m+1) (by omega) (by omega) (u.more T hp h1 (by omega) e) fun m' a b c=>q m' (by omega) (by omega) c
  | false =>
   have e2:lt (p.getD (m - 1) 0) (p.getD m 0)=true:=by
    rw [T.tri _ _ (hp.lt (by omega)) (hp.lt (by omega)) (hp.ne (by omega) (by omega) (by omega)),e]
    rfl
   refine W _ _ _ (hp.lt (by omega)) (hp.lt (by omega)) ?_
   rw [e2]
   exact q m (ao6 _) (by omega) u
theorem amV {m:Nat} (hm:m<=p.size) (d:Dn lt p m):Up lt (kas_rev p 0 m) m:=fun i j hij hj=>by
 have g:∀ k,k<m->(kas_rev p 0 m).getD k 0=p.getD (m - 1 - k) 0:=fun k hk=>agf (by
  unfold kas_rev
  rw [getElem?_mirror_all hm,if_pos ⟨apC _,hk⟩,asA])
 rw [g i (by omega),g j hj]
 exact d _ _ (by omega) (by omega)
theorem ahp (T:Tot n lt) (W:Ans cmp n lt s) (hp:Pm n p) (hn:1<=n) {Q:Nat×Array Nat->Shared->Prop} (q:∀ m p',1<=m->m<=n->Pm n p'->Up lt p' m->Q (m,p') s):(kas_count n p).kasWp cmp Q s:=by
 unfold kas_count
 rw [KasT.kasWp_bind]
 refine aaX T W hp (n - 1) 1 (ao6 _) (by omega) (fun i j a b=>by omega) fun m h1 h2 u c=>?_
 by_cases e:(m == n)=true
 ·rw [if_pos e]
  exact q m p h1 (by omega) hp u
 ·rw [if_neg e]
  have hm:m<n:=by
   have:m≠n:=fun z=>e (by rw [z];exact beq_self_eq_true _)
   omega
  by_cases e2:m > 1
  ·rw [if_pos e2]
   refine W _ _ _ (hp.lt (by omega)) (hp.lt (by omega)) ?_
   rw [u 0 (m - 1) (by omega) (by omega)]
   exact q m p h1 (by omega) hp u
  ·rw [if_neg e2]
   obtain rfl:m=1:=by omega
   have c':lt (p.getD 1 0) (p.getD (1 - 1) 0)=true:=c.resolve_left (by omega)
   unfold kas_descPart
   rw [KasT.kasWp_bind]
   refine aed T W hp (n - (1+1)) (1+1) (by omega) (by omega) (Dn.more T hp (ao6 1) hm (fun i j a b=>by omega) c') fun m' a b d=>?_
   rw [if_neg (by show ¬ (0 > 0);omega)]
   unfold kas_tail3
   rw [KasT.kasWp_bind]
   have hp2:Pm n (kas_rev p 0 m'):=hp.of (mirror_perm _ _ _ _)
   exact aaX T W hp2 (n - m') m' (by omega) (by omega) (amV (by rw [hp.size];omega) d) fun m2 a2 b2 u2 _=>q m2 _ (by omega) (by omega) hp2 u2
theorem aar (T:Tot n lt) (W:Ans cmp n lt s) (hp:Pm n p) {k:Nat} (hk:k<n) (u:Up lt p k) {Q:Nat->Shared->Prop}:∀ f l r,r - l<=f->l<=r->r<=k->(∀ i,i<l->lt (p.getD i 0) (p.getD k 0)=true)->(∀ i,r<=i->i<k->lt (p.getD k 0) (p.getD i 0)=true) ->
  (∀ m,m<=k->(∀ i,i<m->lt (p.getD i 0) (p.getD k 0)=true)->(∀ i,m<=i->i<k->lt (p.getD k 0) (p.getD i 0)=true)->Q m s)->(kas_place p k f l r).kasWp cmp Q s
 | 0,l,r,hf,hlr,hr,lo,hi,q=>by
  obtain rfl:l=r:=by omega
  exact q l hr lo hi
 | f+1,l,r,hf,hlr,hr,lo,hi,q=>by
  unfold kas_place
  by_cases e:l >= r
  ·rw [if_pos e]
   obtain rfl:l=r:=by omega
   exact q l hr lo hi
  ·rw [if_neg e]
   refine W _ _ _ (hp.lt hk) (hp.lt (by omega)) ?_
   have hm:(l+r) / 2<k:=by omega
   cases e2:lt (p.getD k 0) (p.getD ((l+r) / 2) 0) with
   | true =>
    refine aar T W hp hk u f l ((l+r) / 2) (by omega) (by omega) (by omega) lo (fun i h1 h2=>?_) q
    by_cases e3:i=(l+r) / 2
    ·rw [e3];exact e2
    ·exact T.tra _ _ _ (hp.lt hk) (hp.lt (by omega)) (hp.lt (by omega)) e2 (u _ _ (by omega) h2)
   | false =>
    have e4:lt (p.getD ((l+r) / 2) 0) (p.getD k 0)=true:=by
     rw [T.tri _ _ (hp.lt (by omega)) (hp.lt hk) (hp.ne (by omega) hk (by omega)),e2]
     rfl
    refine aar T W hp hk u f ((l+r) / 2+1) r (by omega) (by omega) hr (fun i h1=>?_) hi q
    by_cases e3:i=(l+r) / 2
    ·rw [e3];exact e4
    ·exact T.tra _ _ _ (hp.lt (by omega)) (hp.lt (by omega)) (hp.lt hk) (u _ _ (by omega) hm) e4
theorem amW {k m:Nat} (hk:k<p.size) (hm:m<=k) (u:Up lt p k) (lo:∀ i,i<m->lt (p.getD i 0) (p.getD k 0)=true) (hi:∀ i,m<=i->i<k->lt (p.getD k 0) (p.getD i 0)=true):Up lt (bubble p k (k - m)) (k+1):=fun i j hij hj=>by
 have g:∀ t,t<=k->(bubble p k (k - m)).getD t 0=p.getD (if t=m then k else if t<m then t else t - 1) 0:=fun t ht=>agf (by
  rw [getElem?_bubble hk (k - m) (by omega),show k - (k - m)=m by omega]
  by_cases e1:t=m
  ·rw [if_pos e1,if_pos e1]
  ·rw [if_neg e1,if_neg e1]
   by_cases e2:t<m
   ·rw [if_neg (by omega),if_pos e2]
   ·rw [if_pos (by omega),if_neg e2])
 rw [g i (by omega),g j (by omega)]
 by_cases a1:i=m
 ·rw [if_pos a1,if_neg (by omega),if_neg (by omega)]
  exact hi _ (by omega) (by omega)
 ·rw [if_neg a1]
  by_cases a2:j=m
  ·rw [if_pos a2,if_pos (by omega)]
   exact lo _ (by omega)
  ·rw [if_neg a2]
   by_cases a3:i<m
   ·rw [if_pos a3]
    by_cases a4:j<m
    ·rw [if_pos a4];exact u _ _ hij (by omega)
    ·rw [if_neg a4];exact u _ _ (by omega) (by omega)
   ·rw [if_neg a3,if_neg (by omega)]
    exact u _ _ (by omega) (by omega)
theorem agg (T:Tot n lt) (W:Ans cmp n lt s) {Q:Array Nat->Shared->Prop}:∀ f k (p:Array Nat),Pm n p->k+f=n->Up lt p k->(∀ p',Pm n p'->Up lt p' n->Q p' s)->(kas_bin f p k).kasWp cmp Q s
 | 0,k,p,hp,hf,u,q=>by
  obtain rfl:k=n:=by omega
  exact q p hp u
 | f+1,k,p,hp,hf,u,q=>by
  unfold kas_bin
  rw [KasT.kasWp_bind]
  refine aar T W hp (by omega) u k 0 k (by omega) (apC _) (ao6 _) (fun i hi=>by omega) (fun i a b=>by omega) fun m h1 lo hi=>?_
  exact agg T W f (k+1) _ (hp.of (bubble_perm _ _ _)) (by omega) (amW (by rw [hp.size];omega) h1 u lo hi) q
theorem aiP (T:Tot n lt) (W:Ans cmp n lt s) (hn:1<=n) {Q:Array Nat->Shared->Prop} (q:∀ p,Pm n p->Up lt p n->Q p s):(kas_sort n).kasWp cmp Q s:=by
 unfold kas_sort
 rw [KasT.kasWp_bind]
 refine ahp T W (Pm.range n) hn fun m p h1 h2 hp u=>?_
 by_cases e:m<n
 ·show (if m<n then _ else _:KasT (Array Nat)).kasWp cmp Q s
  rw [if_pos e,show max m 1=m by omega]
  exact agg T W (n - m) m p hp (by omega) u q
 ·show (if m<n then _ else _:KasT (Array Nat)).kasWp cmp Q s
  rw [if_neg e]
  obtain rfl:m=n:=by omega
  exact q p hp u
end
end L2
end
section
namespace L2
open PySem PySem.W PySem.Calls PyProof.Rows
theorem acs:∀ f n r,r<=1->minRun' f n r<=n+1
 | 0,n,r,h=>by show n+r<=n+1;omega
 | f+1,n,r,h=>by
  rw [minRun'_succ]
  by_cases e:n<64
  ·rw [if_pos e];omega
  ·rw [if_neg e]
   have:=acs f (n / 2) (max r (n % 2)) (by omega)
   omega
theorem afn {n:Nat} (h:1<=n):minRun' n n 0<=n:=by
 obtain⟨f,rfl⟩:∃ f,n=f+1:=⟨n - 1,by omega⟩
 rw [minRun'_succ]
 by_cases e:f+1<64
 ·rw [if_pos e];omega
 ·rw [if_neg e]
  have:=acs f ((f+1) / 2) (max 0 ((f+1) % 2)) (by omega)
  omega
section
variable {P:Program} {w:World} {A:Around} {X:Value->Shared->Prop} {s:Shared} {κ:SortKind} {it:Array Keyed} {n:Nat} {lt:Nat->Nat->Bool} {Q:SortSt->Shared->Prop}
theorem akK (W:Ans (kas_cmp P w A κ it) n lt s) (T:Tot n lt) (h2:2<=n) (up:∀ i,i+1<n->lt (i+1) i=false)
  (q:∀ st',arrOf st'=(ap3 (apj n)).map (kas_item it)->failedOf st'=none->Q st' s):kasC (model P w) A X sortRuns' (fun _ st' s'=>Q st' s') (kas_st κ it (ap3 (apj n))) s:=by
 obtain⟨r,rfl⟩:∃ r,n=r+2:=⟨n - 2,by omega⟩
 have sz:(ap3 (apj (r+2))).size=r+2:=by simp
 have szA:(arrOf (kas_st κ it (ap3 (apj (r+2))))).size=r+2:=by
  show (Array.map _ _).size=_
  rw [asR,sz]
 have mr:=afn (n:=r+2) (by omega)
 have at_:∀ i,i<r+2->(ap3 (apj (r+2))).getD i 0=i:=fun i hi=>by simp [aqJ,hi]
 have cnt:(kas_count (r+2) (ap3 (apj (r+2)))).kasWp (kas_cmp P w A κ it) (fun z s'=>z=(r+2,ap3 (apj (r+2)))/\s'=s) s:=by
  unfold kas_count
  rw [KasT.kasWp_bind]
  refine aaX T W (Pm.range _) (r+2 - 1) 1 (ao6 _) (by omega) (fun i j a b=>by omega) fun m a b u c=>?_
  have e:m=r+2:=by
   rcases c with c | c
   ·omega
   ·by_cases hm:m<r+2
    ·rw [at_ m hm,at_ (m - 1) (by omega)] at c
     have:=up (m - 1) (by omega)
     rw [show m - 1+1=m by omega,c] at this
     cases this
    ·omega
  subst e
  rw [if_pos (beq_self_eq_true _)]
  exact⟨rfl,rfl⟩
 rw [sortRuns'_eq]
 apply kasC_bind;apply kasC_get
 simp only [szA]
 apply kasC_bind;apply kasC_range
 change kasC _ _ _ (forIn (0 :: 1 :: List.range' 2 r) _ _) _ _ _
 apply kasC_cons
 simp only [Nat.sub_zero,asA,show ¬ (0 >= r+2) by omega,if_false]
 refine kasC_bind (kas_count_ (by omega) (aqu sz.symm) (fun m p' s' _ _ _ z=>?_) cnt)
 obtain⟨z,rfl⟩:=z
 cases z
 simp only [show ¬ (r+2<minRun' (r+2) (r+2) 0) by omega,if_false]
 apply kasC_bind;apply kasC_get
 change kasC _ _ _ (modify (fun st=>setPending st ((pendingOf st).push (0,r+2,0))) >>= _) _ _ _
 apply kasC_bind;apply kasC_modify;apply kasC_pure
 apply kasC_cons
 simp only [show r+2 >= r+2 from ao6 _,if_true]
 apply kasC_pure
 apply kasC_bind;apply kasC_range
 change kasC _ _ _ (forIn (0 :: 1 :: List.range' 2 r) _ _) _ _ _
 apply kasC_cons
 apply kasC_bind;apply kasC_get
 rw [if_pos (show (pendingOf (setPending (kas_st κ it (ap3 (apj (r+2)))) ((pendingOf (kas_st κ it (ap3 (apj (r+2))))).push (0,r+2,0)))).size<=1 from ao6 1)]
 apply kasC_pure
 exact kasC_pure (q _ rfl rfl)
theorem aiQ (W:Ans (kas_cmp P w A κ it) n lt s) (T:Tot n lt) (h2:2<=n) (hs:n<64 \/ ∀ i,i+1<n->lt (i+1) i=false)
  (q:∀ st' p,Pm n p->Up lt p n->arrOf st'=p.map (kas_item it)->failedOf st'=none->Q st' s):kasC (model P w) A X sortRuns' (fun _ st' s'=>Q st' s') (kas_st κ it (ap3 (apj n))) s:=by
 rcases hs with hs | hs
 ·exact kas_runs h2 hs (G:=fun p s'=>s'=s/\Pm n p/\Up lt p n) (fun p st' s' _ e f ⟨z,a,b⟩=>by subst z;exact q st' p a b e f) (aiP T W (by omega) fun p a b=>⟨rfl,a,b⟩)
 ·refine akK W T h2 hs fun st' e f=>q st' _ (Pm.range n) (fun i j hij hj=>?_) e f
  have at_:∀ i,i<n->(ap3 (apj n)).getD i 0=i:=fun i hi=>by simp [aqJ,hi]
  rw [at_ i (by omega),at_ j hj]
  have key:∀ d,i+d+1<n->lt i (i+d+1)=true:=fun d=>by
   induction d with
   | zero=>intro hd;rw [T.tri _ _ (by omega) hd (by omega),hs i hd];rfl
   | succ d ih =>
    intro hd
    refine T.tra _ (i+d+1) _ (by omega) (by omega) hd (ih (by omega)) ?_
    rw [T.tri _ _ (by omega) hd (by omega),show i+(d+1)+1=i+d+1+1 by omega,hs (i+d+1) (by omega)]
    rfl
  have:=key (j - i - 1) (by omega)
  rwa [show i+(j - i - 1)+1=j by omega] at this
end
section
variable {P:Program} {w:World} {A:Around} {X:Value->Shared->Prop} {s:Shared} {κ:SortKind} {vs:List Value} {lt:Nat->Nat->Bool}
structure Asks (P:Program) (w:World) (A:Around) (s:Shared) (κ:SortKind) (vs:List Value) (lt:Nat->Nat->Bool):Prop where
 kind:2<=vs.length->∀ (h':Heap),(∀ b o,s.heap.get? b=some o->h'.get? b=some o)->∀ R:SortKind->Shared->Prop,R κ { s with heap:=h' }->wpAny (model P w) A (keyKind' vs.toArray) R (fun _ _=>False) { s with heap:=h' }
 less:∀ (h':Heap),(∀ b o,s.heap.get? b=some o->h'.get? b=some o)->Ans (kas_ask P w A κ vs) vs.length lt { s with heap:=h' }
 ord:Tot vs.length lt
 few:vs.length<64 \/ ∀ i,i+1<vs.length->lt (i+1) i=false
theorem akL {a:Addr} {e:Nat} {R:PySem.Fin->Shared->Prop} (hz:vs.length<=sizeLine) (ha:s.heap.get? a=some (seqObj "list" vs.toArray e)) {h0:Heap} (h0s:∀ b o,h0.get? b=some o->b≠a/\s.heap.get? b=some o) (K:Asks P w A { s with heap:=h0 } κ vs lt)
  (q:∀ (h':Heap) p c,Pm vs.length p->Up lt p vs.length->(∀ b o,b≠a->s.heap.get? b=some o->h'.get? b=some o)->h'.get? a=some (seqObj "list" (p.toList.map fun i=>vs.getD i Value.none).toArray c)->R (.done (.ret .none)) { s with heap:=h' }) :
  wpAny (model P w) A (Builtin.«list.sort» ⟨[.ref a],[]⟩) R X s:=by
 let h1:=s.heap.update a (aqV fun _=>(#[]:Array Value))
 obtain⟨e1,a1⟩:∃ e1,h1.get? a=some (seqObj "list" #[] e1):=⟨_,get?_update_seq ha fun _=>#[]⟩
 let h2':=(h1.push (seqObj "tuple" vs.toArray 0)).push (seqObj "list" #[] 0)
 have a2:h2'.get? a=some (seqObj "list" #[] e1):=ao2 _ (ao2 _ a1)
 have k2:∀ b o,b≠a->s.heap.get? b=some o->h2'.get? b=some o:=fun b o nb eb=>ao2 _ (ao2 _ ((apx _ _ (apT nb)).trans eb))
 have kz:∀ b o,h0.get? b=some o->h2'.get? b=some o:=fun b o eb=>k2 b o (h0s b o eb).1 (h0s b o eb).2
 rw [list_sort_plain]
 apply wpAny_bind;apply listItems_at ha rfl
 apply wpAny_bind;refine listUpdate_at ha rfl ?_ (by simpa using hz) (apC _)
 apply wpAny_bind;apply seqEpoch_at a1 rfl
 apply wpAny_bind;refine wpAny_newTuple ?_ (by simpa using hz)
 apply wpAny_bind;refine wpAny_newList ?_ (apC _)
 apply wpAny_holding
 dsimp only
 change wpAny _ A _ _ _ { s with heap:=h2' }
 have st0:SortSt.mk' κ (vs.toArray.zip vs.toArray) #[] 7 none=kas_st κ (pairsOf vs) (ap3 (apj vs.length)):=by
  have z:=kas_range (pairsOf vs)
  rw [pairsOf_size] at z
  unfold kas_st
  rw [z]
  rfl
 have fin:∀ (st':SortSt) (p:Array Nat),Pm vs.length p->Up lt p vs.length->arrOf st'=p.map (kas_item (pairsOf vs))->failedOf st'=none->wpAny (model P w) A (do
   let sorted:=(arrOf st').map (·.2)
   let touched:=(<- seqEpoch a) != e1
   Builtin.List.listUpdate (.ref a) fun _=>sorted
   if let some e:=failedOf st' then rule "list.sort.comparison-raised";throw e
   if touched then rule "list.sort.modified";raiseError "ValueError" "list modified during sort"
   ret .none) R X { s with heap:=h2' }:=fun st' p x1 x2 x3 x4=>by
  have out:(arrOf st').map (·.2)=(p.toList.map fun i=>vs.getD i Value.none).toArray:=by
   apply Array.toList_inj.mp
   rw [x3,Array.map_map,Array.toList_map]
   refine arS fun i _=>?_
   show (kas_item (pairsOf vs) i).2=_
   rw [kas_item_eq]
  dsimp only
  rw [out,x4]
  obtain⟨c,a3⟩:∃ c,(h2'.update a (aqV fun _=>(p.toList.map fun i=>vs.getD i Value.none).toArray)).get? a=some (seqObj "list" (p.toList.map fun i=>vs.getD i Value.none).toArray c):=⟨_,get?_update_seq a2 fun _=>(p.toList.map fun i=>vs.getD i Value.none).toArray⟩
  apply wpAny_bind;apply seqEpoch_at a2 rfl
  apply wpAny_bind
  refine listUpdate_at a2 rfl ?_ (apC _) (by
   rw [ape,aoX,apf,x1.size];omega)
  simp only [bne_self_eq_false,apI,if_false]
  exact wpAny_pure (q _ p c x1 x2 (fun b o nb eb=>(apx _ _ (apT nb)).trans (k2 b o nb eb)) a3)
 by_cases h2:vs.length<2
 ·have two:vs.toArray.size<2:=by rw [ape];exact h2
  rw [if_pos two,if_pos two]
  apply wpAny_bind;apply wpAny_pure
  apply wpAny_bind
  rw [StateT.run_pure]
  apply wpAny_pure
  have z:=kas_range (pairsOf vs)
  rw [pairsOf_size] at z
  exact fin _ (ap3 (apj vs.length)) (Pm.range _) (fun i j x y=>by omega) z.symm rfl
 have two:¬ vs.toArray.size<2:=by rw [ape];exact h2
 rw [if_neg two,if_neg two]
 apply wpAny_bind
 refine wpAny_mono (K.kind (by omega) h2' kz (fun κ' s'=>κ'=κ/\s'={ s with heap:=h2' }) ⟨rfl,rfl⟩) ?_ fun _ _ z=>z.elim
 rintro κ' s' ⟨eκ,es⟩
 rw [eκ,es]
 have W:=K.less h2' kz
 rw [kas_ask_eq] at W
 rw [st0]
 apply wpAny_bind
 refine wpAny_mono (aiQ (Q:=fun st' s'=>s'={ s with heap:=h2' }/\∃ p,Pm vs.length p/\Up lt p vs.length/\arrOf st'=p.map (kas_item (pairsOf vs))/\failedOf st'=none) W K.ord (by omega) K.few fun st' p x1 x2 x3 x4=>⟨rfl,p,x1,x2,x3,x4⟩) ?_ fun _ _ z=>z
 rintro⟨⟨⟩,st'⟩ s' ⟨rfl,p,x1,x2,x3,x4⟩
 exact fin st' p x1 x2 x3 x4
theorem aee {l:Addr} {Q:Value->Shared->Prop} (hz:vs.length<=sizeLine) (hl:s.heap.IsList l vs.toArray) (K:Asks P w A.in1.in1 s κ vs lt)
  (q:∀ (h':Heap) D p c,Pm vs.length p->Up lt p vs.length->s.heap.objs.size<=D->(∀ b o,s.heap.get? b=some o->h'.get? b=some o)->h'.get? D=some (seqObj "list" (p.toList.map fun i=>vs.getD i Value.none).toArray c)->Q (.ref D) { s with heap:=h' }) :
  wpAny (model P w) A (call (.builtin "sorted") [.ref l]) Q X s:=by
 let h1:=(s.heap.push (seqObj "list" #[] 0)).update s.heap.objs.size (aqV (·++vs.toArray))
 have s1:h1.objs.size=s.heap.objs.size+1:=by rw [Heap.size_update,size_push']
 let h2':=h1.push (seqObj "list" vs.toArray 0)
 have at2:h2'.get? (s.heap.objs.size+1)=some (seqObj "list" vs.toArray 0):=by rw [<-s1];exact apA _ rfl
 have keep:∀ b o,s.heap.get? b=some o->b≠s.heap.objs.size+1/\h2'.get? b=some o:=fun b o eb=>by
  have lb:=apc eb
  refine⟨fun z=>?_,ao2 _ ((apx _ _ fun z=>?_).trans (ao2 _ eb))⟩
  ·rw [z] at lb;exact aqh _ (as8 lb (asp _))
  ·rw [<-z] at lb;exact aqh _ lb
 refine Calls.call_function_entry kind_sorted plain_sorted entry_sorted (args_sorted1 _) ?_
 unfold Builtin.«sorted»
 apply wpAny_bind (m:=checkCount "sorted" 1 1 _);apply wpAny_pure
 apply wpAny_bind;refine collect_list hl ?_ hz
 apply wpAny_bind;refine wpAny_newList ?_ hz
 change wpAny _ _ _ _ _ { s with heap:=h2' }
 rw [show Value.ref ((s.heap.push (seqObj "list" #[] 0)).update s.heap.objs.size (aqV (·++vs.toArray))).objs.size=Value.ref (s.heap.objs.size+1) from congrArg Value.ref s1]
 apply wpAny_bind;apply wpAny_holding
 refine wpAny_call_entry slot_list_sort ⟨_,at2,rfl⟩ entry_list_sort ?_ (args_list_sort _)
 refine akL (s:={ s with heap:=h2' }) hz at2 (h0:=s.heap) keep K fun h' p c x1 x2 x3 x4=>⟨_,rfl,wpAny_pure ⟨_,rfl,?_⟩⟩
 exact q h' _ p c x1 x2 (ar8 _) (fun b o eb=>x3 b o (keep b o eb).1 (keep b o eb).2) x4
end
mutual
def zA:PyData->Bool
 | .int _=>true
 | .str s=>(PyData.str s).canLay0
 | .tuple xs=>zK xs
 | _=>false
def zK:List PyData->Bool
 | []=>true
 | x :: xs=>zA x && zK xs
end
mutual
def ltD:PyData->PyData->Bool
 | .int a,.int b=>decide (a<b)
 | .str a,.str b=>decide (a.cps.toList<b.cps.toList)
 | .tuple xs,.tuple ys=>ltL xs ys
 | .int _,.str _=>true
 | .int _,.tuple _=>true
 | .str _,.tuple _=>true
 | _,_=>false
def ltL:List PyData->List PyData->Bool
 | [],[]=>false
 | [],_ :: _=>true
 | _ :: _,[]=>false
 | x :: xs,y :: ys=>if apD x y=true then ltL xs ys else ltD x y
end
mutual
def aaS:PyData->PyData->Bool
 | .int _,.int _=>true
 | .str _,.str _=>true
 | .tuple xs,.tuple ys=>vP xs ys
 | _,_=>false
def vP:List PyData->List PyData->Bool
 | [],_=>true
 | _ :: _,[]=>true
 | x :: xs,y :: ys=>if apD x y=true then vP xs ys else aaS x y
end
mutual
theorem yE:∀ d:PyData,zA d=true->d.canLay0=true
 | .int _,_=>rfl
 | .str _,h=>h
 | .tuple xs,h=>by rw [PyData.canLay0];exact abt xs (by rw [zA] at h;exact h)
 | .none,h=>by cases h
 | .bool _,h=>by cases h
 | .list _,h=>by cases h
 | .dict _,h=>by cases h
theorem abt:∀ xs:List PyData,zK xs=true->aqw xs=true
 | [],_=>rfl
 | x :: xs,h=>by
  rw [zK,ao8] at h
  rw [aqw,yE x h.1,abt xs h.2]
  rfl
end
mutual
theorem aiR:∀ a b:PyData,zA a=true->zA b=true->apD a b=true->a=b
 | .int a,.int b,_,_,h=>by simpa [apD] using h
 | .str a,.str b,_,_,h=>by simpa [apD] using h
 | .tuple xs,.tuple ys,h1,h2,h=>by rw [agh xs ys (by rw [zA] at h1;exact h1) (by rw [zA] at h2;exact h2) (by rw [apD] at h;exact h)]
 | .int _,.str _,_,_,h=>by simp [apD] at h
 | .int _,.tuple _,_,_,h=>by simp [apD] at h
 | .str _,.int _,_,_,h=>by simp [apD] at h
 | .str _,.tuple _,_,_,h=>by simp [apD] at h
 | .tuple _,.int _,_,_,h=>by simp [apD] at h
 | .tuple _,.str _,_,_,h=>by simp [apD] at h
 | .none,_,h,_,_=>by cases h
 | .bool _,_,h,_,_=>by cases h
 | .list _,_,h,_,_=>by cases h
 | .dict _,_,h,_,_=>by cases h
 | .int _,.none,_,h,_=>by cases h
 | .int _,.bool _,_,h,_=>by cases h
 | .int _,.list _,_,h,_=>by cases h
 | .int _,.dict _,_,h,_=>by cases h
 | .str _,.none,_,h,_=>by cases h
 | .str _,.bool _,_,h,_=>by cases h
 | .str _,.list _,_,h,_=>by cases h
 | .str _,.dict _,_,h,_=>by cases h
 | .tuple _,.none,_,h,_=>by cases h
 | .tuple _,.bool _,_,h,_=>by cases h
 | .tuple _,.list _,_,h,_=>by cases h
 | .tuple _,.dict _,_,h,_=>by cases h
theorem agh:∀ xs ys:List PyData,zK xs=true->zK ys=true->ash xs ys=true->xs=ys
 | [],[],_,_,_=>rfl
 | [],_ :: _,_,_,h=>by simp [ash] at h
 | _ :: _,[],_,_,h=>by simp [ash] at h
 | x :: xs,y :: ys,h1,h2,h=>by
  rw [zK,ao8] at h1 h2
  rw [ash,ao8] at h
  rw [aiR x y h1.1 h2.1 h.1,agh xs ys h1.2 h2.2 h.2]
end
theorem aaY {a b:PyData} (ha:zA a=true) (hb:zA b=true):apD a b=true↔a=b :=
 ⟨aiR a b ha hb,fun h=>by subst h;exact arX a (yE a ha)⟩
theorem jW {x y:PyData} {xs ys:List PyData} (hx:zA x=true) (hy:zA y=true) [Decidable (x=y)]:ltL (x :: xs) (y :: ys)=if x=y then ltL xs ys else ltD x y:=by
 rw [ltL]
 by_cases h:x=y
 ·rw [if_pos ((aaY hx hy).mpr h),if_pos h]
 ·rw [if_neg (fun z=>h ((aaY hx hy).mp z)),if_neg h]
theorem aiS {a b:List Nat} (h:a≠b):decide (a<b)=!decide (b<a):=by
 by_cases h1:a<b
 ·rw [decide_eq_true h1,decide_eq_false (fun z=>List.lt_irrefl a (List.lt_trans h1 z))]
  rfl
 ·have h2:b<a:=by
   have:b<=a:=List.not_lt.mp h1
   rcases List.le_iff_lt_or_eq.mp this with z | z
   ·exact z
   ·exact absurd z.symm h
  rw [decide_eq_false h1,decide_eq_true h2]
  rfl
theorem amX {a b:Str} (h:a≠b):a.cps.toList≠b.cps.toList:=fun z=>h (by
 cases a;cases b
 simp only [Str.mk.injEq] at *
 exact Array.toList_inj.mp z)
mutual
theorem afo:∀ a b:PyData,zA a=true->zA b=true->a≠b->ltD a b=!ltD b a
 | .int a,b,ha,hb,ne=>by
  cases b with
  | int b =>
   rw [ltD,ltD]
   have:a≠b:=fun z=>ne (by rw [z])
   by_cases h:a<b
   ·rw [decide_eq_true h,decide_eq_false (by omega)];rfl
   ·rw [decide_eq_false h,decide_eq_true (by omega)];rfl
  | str b=>simp [ltD]
  | tuple ys=>simp [ltD]
  | none=>cases hb
  | bool _=>cases hb
  | list _=>cases hb
  | dict _=>cases hb
 | .str a,b,ha,hb,ne=>by
  cases b with
  | int b=>simp [ltD]
  | str b =>
   rw [ltD,ltD]
   exact aiS (amX fun z=>ne (by rw [z]))
  | tuple ys=>simp [ltD]
  | none=>cases hb
  | bool _=>cases hb
  | list _=>cases hb
  | dict _=>cases hb
 | .tuple xs,b,ha,hb,ne=>by
  cases b with
  | int b=>simp [ltD]
  | str b=>simp [ltD]
  | tuple ys =>
   rw [ltD,ltD]
   rw [zA] at ha hb
   exact agi xs ys ha hb fun z=>ne (by rw [z])
  | none=>cases hb
  | bool _=>cases hb
  | list _=>cases hb
  | dict _=>cases hb
 | .none,_,h,_,_=>by cases h
 | .bool _,_,h,_,_=>by cases h
 | .list _,_,h,_,_=>by cases h
 | .dict _,_,h,_,_=>by cases h
theorem agi:∀ xs ys:List PyData,zK xs=true->zK ys=true->xs≠ys->ltL xs ys=!ltL ys xs
 | [],[],_,_,ne=>absurd rfl ne
 | [],_ :: _,_,_,_=>by simp [ltL]
 | _ :: _,[],_,_,_=>by simp [ltL]
 | x :: xs,y :: ys,h1,h2,ne=>by
  rw [zK,ao8] at h1 h2
  have:=apX (x=y)
  have:=apX (y=x)
  rw [jW h1.1 h2.1,jW h2.1 h1.1]
  by_cases e:x=y
  ·rw [if_pos e,if_pos e.symm]
   exact agi xs ys h1.2 h2.2 fun z=>ne (by rw [e,z])
  ·rw [if_neg e,if_neg (apT e)]
   exact afo x y h1.1 h2.1 e
end
mutual
theorem amY:∀ a:PyData,zA a=true->ltD a a=false
 | .int a,_=>by rw [ltD];exact decide_eq_false (Int.lt_irrefl a)
 | .str a,_=>by rw [ltD];exact decide_eq_false (List.lt_irrefl _)
 | .tuple xs,h=>by rw [ltD];rw [zA] at h;exact agj xs h
 | .none,h=>by cases h
 | .bool _,h=>by cases h
 | .list _,h=>by cases h
 | .dict _,h=>by cases h
theorem agj:∀ xs:List PyData,zK xs=true->ltL xs xs=false
 | [],_=>by rw [ltL]
 | x :: xs,h=>by
  rw [zK,ao8] at h
  have:=apX (x=x)
  rw [jW h.1 h.1,if_pos rfl]
  exact agj xs h.2
end
theorem lt_asymm {a b:PyData} (ha:zA a=true) (hb:zA b=true) (h:ltD a b=true):a≠b:=fun z=>by
 subst z
 rw [amY a ha] at h
 cases h
mutual
theorem aiT:∀ a b c:PyData,zA a=true->zA b=true->zA c=true->ltD a b=true->ltD b c=true->ltD a c=true
 | .int a,b,c,ha,hb,hc,h1,h2=>by
  cases b <;> first | (cases hb;done) | skip
  all_goals cases c <;> first | (cases hc;done) | skip
  all_goals first | (simp [ltD] at h1 h2 ⊢;omega) | (simp [ltD] at h1 h2 ⊢;done) | (simp [ltD] at h1;done) | (simp [ltD] at h2;done)
 | .str a,b,c,ha,hb,hc,h1,h2=>by
  cases b <;> first | (cases hb;done) | skip
  all_goals cases c <;> first | (cases hc;done) | skip
  all_goals first | (simp [ltD] at h1;done) | (simp [ltD] at h2;done) | (rw [ltD] at h1 h2 ⊢;exact decide_eq_true (List.lt_trans (of_decide_eq_true h1) (of_decide_eq_true h2))) | (simp [ltD] at h1 h2 ⊢;done)
 | .tuple xs,b,c,ha,hb,hc,h1,h2=>by
  cases b with
  | tuple ys =>
   cases c with
   | tuple zs =>
    rw [ltD] at h1 h2 ⊢
    rw [zA] at ha hb hc
    exact agk xs ys zs ha hb hc h1 h2
   | int _=>simp [ltD] at h2
   | str _=>simp [ltD] at h2
   | none=>cases hc
   | bool _=>cases hc
   | list _=>cases hc
   | dict _=>cases hc
  | int _=>simp [ltD] at h1
  | str _=>simp [ltD] at h1
  | none=>cases hb
  | bool _=>cases hb
  | list _=>cases hb
  | dict _=>cases hb
 | .none,_,_,h,_,_,_,_=>by cases h
 | .bool _,_,_,h,_,_,_,_=>by cases h
 | .list _,_,_,h,_,_,_,_=>by cases h
 | .dict _,_,_,h,_,_,_,_=>by cases h
theorem agk:∀ xs ys zs:List PyData,zK xs=true->zK ys=true->zK zs=true->ltL xs ys=true->ltL ys zs=true->ltL xs zs=true
 | [],ys,[],_,_,_,h1,h2=>by
  cases ys with
  | nil=>exact h1
  | cons y ys=>simp [ltL] at h2
 | [],_,_ :: _,_,_,_,_,_=>by rw [ltL]
 | _ :: _,[],_,_,_,_,h1,_=>by simp [ltL] at h1
 | _ :: _,_ :: _,[],_,_,_,_,h2=>by simp [ltL] at h2
 | x :: xs,y :: ys,z :: zs,p1,p2,p3,h1,h2=>by
  rw [zK,ao8] at p1 p2 p3
  have:=apX (x=y)
  have:=apX (y=z)
  have:=apX (x=z)
  rw [jW p1.1 p2.1] at h1
  rw [jW p2.1 p3.1] at h2
  rw [jW p1.1 p3.1]
  by_cases e1:x=y
  ·rw [if_pos e1] at h1
   by_cases e2:y=z
   ·rw [if_pos e2] at h2
    rw [if_pos (e1.trans e2)]
    exact agk xs ys zs p1.2 p2.2 p3.2 h1 h2
   ·rw [if_neg e2] at h2
    rw [if_neg (fun q=>e2 (e1.symm.trans q)),e1]
    exact h2
  ·rw [if_neg e1] at h1
   by_cases e2:y=z
   ·rw [if_neg (fun q=>e1 (q.trans e2.symm)),<- e2]
    exact h1
   ·rw [if_neg e2] at h2
    have h3:=aiT x y z p1.1 p2.1 p3.1 h1 h2
    rw [if_neg (lt_asymm p1.1 p3.1 h3)]
    exact h3
end
end L2
end
section
namespace L2
open PySem PySem.Spec PyProof.Rows PySem.SeqAt
open PySem.AutoSeq1 (wpAny_loadPart')
open PySem.MeetsSeq PySem.MeetsSeq2 PySem.MeetsSeq3
def aok (A:Around) (s:Shared) (y x:Value) (b:Bool):Prop :=
 ∀ (prog:Program) (w:World) (E:Value->Shared->Prop) (Q:Value->Shared->Prop),Q (.bool b) s->wpAny (model prog w) A (richCompare .Lt y x) Q E s
inductive Lex (A:Around) (s:Shared):List Value->List Value->Bool->Prop where
 | nn:Lex A s [] [] false
 | nc {w ws}:Lex A s [] (w :: ws) true
 | cn {v vs}:Lex A s (v :: vs) [] false
 | eq {v w vs ws b}:EqAt A s v w true->Lex A s vs ws b->Lex A s (v :: vs) (w :: ws) b
 | lt {v w vs ws b}:EqAt A s v w false->aok A s v w b->Lex A s (v :: vs) (w :: ws) b
theorem ac8 (l m:Addr) (xs ys:Array Value) (n n2:Nat) (dd dd2:Option Addr) (sl sl2:Array (Option Value)) (c:Bool) :
  Meets (Builtin.«tuple.__lt__» ⟨[.ref l,.ref m],[]⟩)
   (fun A R s=>s.heap.get? l=some { cls:=.type "tuple",dict:=dd,data:=.seq xs n,slots:=sl }/\s.heap.get? m=some { cls:=.type "tuple",dict:=dd2,data:=.seq ys n2,slots:=sl2 } /\
    Lex A.in1 s xs.toList ys.toList c/\R (.ok (.ret (.bool c))) s) :=
 .of_wp fun prog w A R s h=>by
  obtain⟨hp,g,d,tk,os⟩:=s;obtain⟨hl,hb,hx,h⟩:=h
  have f2:=AutoSeq1.sub_tuple_tuple
  wp_walk using wpAny_loadPart' hl,wpAny_loadPart' hb,wpAny_forIn_list _ (fun rest b s'=>b.1=none/\s'=⟨hp,g,d,tk,os⟩/\∃ (vs ws:List Value),rest=vs.zip ws/\Lex A.in1 ⟨hp,g,d,tk,os⟩ vs ws c/\vs.length+ys.size=ws.length+xs.size) _
  case turn =>
   rintro⟨y,x⟩ rest b s' ⟨hb',rfl,vs,ws,hz,lx,hn⟩
   cases lx with
   | nn=>cases hz
   | nc=>cases hz
   | cn=>cases hz
   | eq he lx' =>
    rw [aqK] at hz
    cases hz
    refine wpAny_bind (he prog w _ _ ?_)
    wp_walk
    exact⟨rfl,rfl,_,_,rfl,lx',by simp only [aph] at hn;omega⟩
   | lt he hlt =>
    rw [aqK] at hz
    cases hz
    refine wpAny_bind (he prog w _ _ ?_)
    have hri:=hlt prog w
    wp_walk using hri
    exact⟨_,rfl,h⟩
  case fin =>
   rintro⟨b1,b2⟩ s' ⟨hb',rfl,vs,ws,hz,lx,hn⟩
   simp only at hb'
   subst hb'
   have hv:decide (xs.size<ys.size)=c:=by
    cases lx with
    | nn=>simp only [aql] at hn;exact decide_eq_false (by omega)
    | nc=>simp only [aql,aph] at hn;exact decide_eq_true (by omega)
    | cn=>simp only [aql,aph] at hn;exact decide_eq_false (by omega)
    | eq _ _=>cases hz
    | lt _ _=>cases hz
   wp_walk
   rw [<-hv] at h
   exact⟨_,rfl,by simpa [Builtin.Tuple.tupleCompareSizes] using h⟩
  case h=>exact⟨rfl,rfl,_,_,rfl,hx,by simp only [apf];omega⟩
mutual
theorem aef:∀ (da db:PyData) (A:Around) (s:Shared) (a b:Value) (as bs:List Addr),Reads s.heap a da as->Reads s.heap b db bs->zA da=true->zA db=true->aaS da db=true ->
  A.units+max da.depth db.depth<cLine->aok A s a b (ltD da db)
 | .int x,db,A,s,_,_,_,_,ra,rb,_,_,hc,hu=>by
  cases ra with
  | int _ t =>
   cases db with
   | int y =>
    cases rb with
    | int _ u =>
     intro prog w E Q q
     exact HT.rcLt_int A s x t y u prog w E Q (by rw [ltD] at q;exact q)
   | _=>cases hc
 | .str x,db,A,s,_,_,_,_,ra,rb,_,_,hc,hu=>by
  cases ra with
  | str _ t =>
   cases db with
   | str y =>
    cases rb with
    | str _ u =>
     intro prog w E Q q
     exact (PyProof.Rows.lt_str (by rw [ltD] at q;exact q):wpAny (model prog w) A (compareOp .Lt (.str x t) (.str y u)) Q E s)
   | _=>cases hc
 | .tuple xs,db,A,s,_,_,_,_,ra,rb,pa,pb,hc,hu=>by
  cases ra with
  | @tuple l o vs n _ as h1 h2 h3 h4 =>
   cases db with
   | tuple ys =>
    cases rb with
    | @tuple m o2 ws n2 _ bs k1 k2 k3 k4 =>
     intro prog w E Q q
     obtain⟨cls,dd,data,sl⟩:=o
     obtain⟨cls2,dd2,data2,sl2⟩:=o2
     simp only at h2 h3 k2 k3
     subst h2 h3 k2 k3
     rw [zA] at pa pb
     rw [aaS] at hc
     rw [ltD] at q
     have hd:A.in1.units+max (apb xs) (apb ys)<cLine:=by
      have e1:(PyData.tuple xs).depth=apb xs+1:=rfl
      have e2:(PyData.tuple ys).depth=apb ys+1:=rfl
      have e3:A.in1.units=A.units+1:=rfl
      rw [e1,e2] at hu
      omega
     have lx:=acu xs ys A.in1 s _ _ _ _ h4 k4 pa pb hc hd
     exact richCompare_meets_room (op:=.Lt) ⟨_,h1,rfl⟩ ⟨_,k1,rfl⟩ PySem.F.slot_tuple_lt PySem.F.entry_tuple_lt (PySem.F.args_tuple_lt_2 _ _) (ac8 l m vs ws n n2 dd dd2 sl sl2 (ltL xs ys))
      ⟨h1,k1,lx,show Value.bool (ltL xs ys)≠Value.notImplemented/\Q (.bool (ltL xs ys)) s from⟨(fun x=>nomatch x),q⟩⟩ (by omega)
   | _=>cases hc
 | .none,_,_,_,_,_,_,_,_,_,h,_,_,_=>by cases h
 | .bool _,_,_,_,_,_,_,_,_,_,h,_,_,_=>by cases h
 | .list _,_,_,_,_,_,_,_,_,_,h,_,_,_=>by cases h
 | .dict _,_,_,_,_,_,_,_,_,_,h,_,_,_=>by cases h
theorem acu:∀ (xs ys:List PyData) (A:Around) (s:Shared) (vs ws:List Value) (as bs:List Addr),ReadsAll s.heap vs xs as->ReadsAll s.heap ws ys bs->zK xs=true->zK ys=true->vP xs ys=true ->
  A.units+max (apb xs) (apb ys)<cLine->Lex A s vs ws (ltL xs ys)
 | [],[],_,_,_,_,_,_,ra,rb,_,_,_,_=>by cases ra;cases rb;rw [ltL];exact .nn
 | [],_ :: _,_,_,_,_,_,_,ra,rb,_,_,_,_=>by cases ra;cases rb;rw [ltL];exact .nc
 | _ :: _,[],_,_,_,_,_,_,ra,rb,_,_,_,_=>by cases ra;cases rb;rw [ltL];exact .cn
 | x :: xs,y :: ys,A,s,_,_,_,_,ra,rb,pa,pb,hc,hu=>by
  cases ra with
  | cons r rs =>
   cases rb with
   | cons r' rs' =>
    rw [zK,ao8] at pa pb
    rw [vP] at hc
    rw [ltL]
    have e1:apb (x :: xs)=max x.depth (apb xs):=rfl
    have e2:apb (y :: ys)=max y.depth (apb ys):=rfl
    rw [e1,e2] at hu
    have eq:=eqAt_reads x y A s _ _ _ _ r r' (yE x pa.1) (yE y pb.1) (by omega)
    by_cases e:apD x y=true
    ·rw [if_pos e] at hc ⊢
     rw [e] at eq
     exact .eq eq (acu xs ys A s _ _ _ _ rs rs' pa.2 pb.2 hc (by omega))
    ·rw [if_neg e] at hc ⊢
     rw [Bool.not_eq_true] at e
     rw [e] at eq
     exact .lt eq (aef x y A s _ _ _ _ r r' pa.1 pb.1 hc (by omega))
end
end L2
end
section
namespace L2
open PySem PySem.Spec PyProof.Rows PySem.SeqAt PySem.W
section
variable {P:Program} {w:World} {A:Around} {s:Shared} {b:Bool} {Q:Bool->Shared->Prop}
theorem ac9 {fin:Bool} {x y:PyData} {p q:Value} {r:List (Value×Value)} {i:Nat} {as bs:List Addr} {c:Bool} (rx:Reads s.heap p x as) (ry:Reads s.heap q y bs) (px:zA x=true) (py:zA y=true) (hu:A.units+max x.depth y.depth<cLine)
  (h1:apD x y=true->KatLex P w A b fin Q r (i+1) s) (h2:apD x y=false->wpAny (model P w) A (oneLt' (b && i == 0) p q) Q (fun _ _=>False) s):KatLex P w A b fin Q ((p,q) :: r) i s:=by
 refine kat_cons (eqAt_reads x y A s _ _ _ _ rx ry (yE x px) (yE y py) (by omega) P w _ _ ?_)
 exact kat_go (fun e=>kat_yes (h1 e)) fun e=>kat_no (h2 e)
theorem vQ {m n:Nat}:∀ (xs ys:List PyData) (vs ws:List Value) (as bs:List Addr) (i:Nat),(1<=i \/ b=false)->ReadsAll s.heap vs xs as->ReadsAll s.heap ws ys bs->zK xs=true->zK ys=true->vP xs ys=true ->
  A.units+max (apb xs) (apb ys)<cLine->xs.length+n=ys.length+m->Q (ltL xs ys) s->KatLex P w A b (decide (m<n)) Q (vs.zip ws) i s
 | [],[],_,_,_,_,i,_,ra,rb,_,_,_,_,hl,q=>by
  cases ra;cases rb
  rw [ltL] at q
  simp only [aql] at hl
  rw [decide_eq_false (show ¬ m<n by omega)]
  exact kat_nil q
 | [],y :: ys,_,_,_,_,i,_,ra,rb,_,_,_,_,hl,q=>by
  cases ra;cases rb
  rw [ltL] at q
  simp only [aql,aph] at hl
  rw [decide_eq_true (show m<n by omega)]
  exact kat_nil q
 | x :: xs,[],_,_,_,_,i,_,ra,rb,_,_,_,_,hl,q=>by
  cases ra;cases rb
  rw [ltL] at q
  simp only [aql,aph] at hl
  rw [decide_eq_false (show ¬ m<n by omega),List.zip_nil_right]
  exact kat_nil q
 | x :: xs,y :: ys,_,_,_,_,i,hi,ra,rb,pa,pb,hc,hu,hl,q=>by
  cases ra with
  | cons r rs =>
   cases rb with
   | cons r' rs' =>
    rw [zK,ao8] at pa pb
    rw [vP] at hc
    rw [ltL] at q
    have e1:apb (x :: xs)=max x.depth (apb xs):=rfl
    have e2:apb (y :: ys)=max y.depth (apb ys):=rfl
    rw [e1,e2] at hu
    simp only [aph] at hl
    rw [aqK]
    refine ac9 (c:=true) r r' pa.1 pb.1 (by omega) (fun e=>?_) fun e=>?_
    ·rw [if_pos e] at hc q
     exact vQ xs ys _ _ _ _ (i+1) (.inl (by omega)) rs rs' pa.2 pb.2 hc (by omega) (by omega) q
    ·rw [if_neg (by rw [e];exact aoY)] at hc q
     have ef:(b && i == 0)=false:=by
      rcases hi with hi | hi
      ·rw [show (i == 0)=false from beq_eq_false_iff_ne.mpr (by omega),aqY]
      ·rw [hi];rfl
     rw [ef]
     exact kat_one _ _ (aef x y A s _ _ _ _ r r' pa.1 pb.1 hc (by omega) P w _ _ q)
end
def jX:PyData->Option String
 | .tuple (.int _ :: _)=>some "int"
 | .tuple (.str _ :: _)=>some "str"
 | .tuple (.tuple _ :: _)=>some "tuple"
 | _=>none
structure SortOk (T:String) (ds:List PyData):Prop where
 plain:∀ d∈ds,zA d=true
 head:∀ d∈ds,jX d=some T
 cmp:∀ d∈ds,∀ e∈ds,aaS d e=true
 depth:∀ d∈ds,d.depth<=50
 nd:ds.Nodup
theorem qH {d:PyData} {T:String} (h:jX d=some T):∃ x xs,d=.tuple (x :: xs)/\((T="int"/\∃ n,x=.int n) \/ (T="str"/\∃ n,x=.str n) \/ (T="tuple"/\∃ n,x=.tuple n)):=by
 unfold jX at h
 split at h
 ·cases h;exact⟨_,_,rfl,.inl ⟨rfl,_,rfl⟩⟩
 ·cases h;exact⟨_,_,rfl,.inr (.inl ⟨rfl,_,rfl⟩)⟩
 ·cases h;exact⟨_,_,rfl,.inr (.inr ⟨rfl,_,rfl⟩)⟩
 ·cases h
section
variable {P:Program} {w:World} {A:Around} {s:Shared} {T:String}
theorem amZ {d e:PyData} {v u:Value} {as bs:List Addr} {C:Bool->Shared->Prop} (rd:Reads s.heap v d as) (re:Reads s.heap u e bs) (pd:zA d=true) (pe:zA e=true) (hd:jX d=some T) (he:jX e=some T) (hc:aaS d e=true)
  (hu:A.units+60<cLine) (d1:d.depth<=50) (d2:e.depth<=50) (q:C (ltD d e) s):wpAny (model P w) A (keyLt' (tuples' (Value.type T != Value.type "tuple")) v u) C (fun _ _=>False) s:=by
 obtain⟨x,xs,rfl,hx⟩:=qH hd
 obtain⟨y,ys,rfl,hy⟩:=qH he
 cases rd with
 | @tuple l o vs n _ as h1 h2 h3 h4 =>
  cases re with
  | @tuple m o2 ws n2 _ bs k1 k2 k3 k4 =>
   have l1:=arA _ _ _ h4
   have l2:=arA _ _ _ k4
   rw [apf] at l1 l2
   refine kat_lt h1 h3 k1 k3 ?_
   rw [zA] at pd pe
   rw [aaS] at hc
   rw [ltD] at q
   have e1:(PyData.tuple (x :: xs)).depth=apb (x :: xs)+1:=rfl
   have e2:(PyData.tuple (y :: ys)).depth=apb (y :: ys)+1:=rfl
   have e3:apb (x :: xs)=max x.depth (apb xs):=rfl
   have e4:apb (y :: ys)=max y.depth (apb ys):=rfl
   rcases hx with⟨rfl,nx,rfl⟩ | ⟨rfl,nx,rfl⟩ | ⟨rfl,nx,rfl⟩
   ·obtain⟨ny,rfl⟩:∃ ny,y=.int ny:=by
     rcases hy with⟨_,h⟩ | ⟨z,_⟩ | ⟨z,_⟩
     ·exact h
     ·exact absurd z (by decide)
     ·exact absurd z (by decide)
    obtain⟨vl⟩:=vs
    obtain⟨wl⟩:=ws
    cases h4 with
    | cons r rs =>
     cases k4 with
     | cons r' rs' =>
      rw [zK,ao8] at pd pe
      rw [vP] at hc
      rw [ltL] at q
      rw [aqK]
      refine ac9 (c:=true) r r' rfl rfl (by omega) (fun e=>?_) fun e=>?_
      ·rw [if_pos e] at hc q
       exact vQ xs ys _ _ _ _ 1 (.inl (ao6 1)) rs rs' pd.2 pe.2 hc (by omega) (by simp only [aph] at l1 l2;omega) q
      ·rw [if_neg (by rw [e];exact aoY)] at q
       rw [show ((Value.type "int" != Value.type "tuple") && (0 == 0))=true by decide]
       cases r
       cases r'
       rw [ltD] at q
       exact oneLt_int q
   ·obtain⟨ny,rfl⟩:∃ ny,y=.str ny:=by
     rcases hy with⟨z,_⟩ | ⟨_,h⟩ | ⟨z,_⟩
     ·exact absurd z (by decide)
     ·exact h
     ·exact absurd z (by decide)
    obtain⟨vl⟩:=vs
    obtain⟨wl⟩:=ws
    cases h4 with
    | cons r rs =>
     cases k4 with
     | cons r' rs' =>
      rw [zK,ao8] at pd pe
      rw [vP] at hc
      rw [ltL] at q
      rw [aqK]
      refine ac9 (c:=true) r r' pd.1 pe.1 (by omega) (fun e=>?_) fun e=>?_
      ·rw [if_pos e] at hc q
       exact vQ xs ys _ _ _ _ 1 (.inl (ao6 1)) rs rs' pd.2 pe.2 hc (by omega) (by simp only [aph] at l1 l2;omega) q
      ·rw [if_neg (by rw [e];exact aoY)] at q
       rw [show ((Value.type "str" != Value.type "tuple") && (0 == 0))=true by decide]
       cases r
       cases r'
       rw [ltD] at q
       exact oneLt_str q
   ·exact vQ _ _ _ _ _ _ 0 (.inr (by decide)) h4 k4 pd pe hc (by omega) (by rw [l1,l2];omega) q
theorem ReadsAll.at {h:Heap}:∀ {vs:List Value} {ds:List PyData} {as:List Addr},ReadsAll h vs ds as->∀ i,i<ds.length->∃ bs,Reads h (vs.getD i Value.none) (ds.getD i .none) bs
 | _,_,_,.nil,i,hi=>absurd hi (apZ _)
 | _,_,_,.cons r rs,0,_=>⟨_,r⟩
 | _,_,_,.cons r rs,i+1,hi=>ReadsAll.at rs i (Nat.lt_of_succ_lt_succ hi)
theorem ReadsAll.keep {h h':Heap} (k:∀ b o,h.get? b=some o->h'.get? b=some o):∀ {vs:List Value} {ds:List PyData} {as:List Addr},ReadsAll h vs ds as->ReadsAll h' vs ds as
 | _,_,_,.nil=>.nil
 | _,_,_,.cons r rs=>.cons (PyProof.Rows.Reads.keeps k r) (ReadsAll.keep k rs)
theorem agl {h:Heap}:∀ {vs:List Value} {ds:List PyData} {as:List Addr},ReadsAll h vs ds as->(∀ d∈ds,jX d=some T)->∃ fs,KatTups h vs fs/\fs.length=vs.length/\∀ v∈fs,Looks (model P w) h (typeOf v) (.type T)
 | _,_,_,.nil,_=>⟨[],.nil,rfl,fun _ h=>nomatch h⟩
 | _,d :: ds,_,.cons r rs,hh=>by
  obtain⟨fs,h1,h2,h3⟩:=agl rs fun d hd=>hh d (ao3 _ hd)
  obtain⟨x,xs,rfl,hx⟩:=qH (hh d apa)
  cases r with
  | @tuple l o vs n _ as k1 k2 k3 k4 =>
   obtain⟨vl⟩:=vs
   cases k4 with
   | @cons v0 vs0 _ _ _ _ r0 rs0 =>
    refine⟨v0 :: fs,.cons k1 k2 k3 rfl h1,by simp [h2],fun v hv=>?_⟩
    rcases ao7.mp hv with rfl | hv
    ·rcases hx with⟨rfl,nx,rfl⟩ | ⟨rfl,nx,rfl⟩ | ⟨rfl,nx,rfl⟩
     ·cases r0;exact Looks.of_pure rfl
     ·cases r0;exact Looks.of_pure rfl
     ·cases r0 with
      | tuple q1 q2 q3 q4=>rw [<-q2];exact (Looks.ld q1).andThen .now
    ·exact h3 v hv
theorem am0 {ds:List PyData} (ok:SortOk T ds):Tot ds.length fun i j=>ltD (ds.getD i .none) (ds.getD j .none):=by
 have mem:∀ i,i<ds.length->ds.getD i .none∈ds:=fun i hi=>by
  rw [ao0,aoW hi]
  exact apu hi
 refine⟨fun i j hi hj ne=>afo _ _ (ok.plain _ (mem i hi)) (ok.plain _ (mem j hj)) fun z=>ne ?_,fun i j k hi hj hk=>aiT _ _ _ (ok.plain _ (mem i hi)) (ok.plain _ (mem j hj)) (ok.plain _ (mem k hk))⟩
 rw [ao0,ao0,aoW hi,aoW hj] at z
 exact (arB ok.nd).mp z
theorem akM {vs:List Value} {ds:List PyData} {as:List Addr} (ra:ReadsAll s.heap vs ds as) (ok:SortOk T ds) (hu:A.units+60<cLine) (few:ds.length<64 \/ ds.Pairwise fun d e=>ltD d e=true) :
  Asks P w A s (tuples' (Value.type T != Value.type "tuple")) vs fun i j=>ltD (ds.getD i .none) (ds.getD j .none):=by
 have len:=arA _ _ _ ra
 have mem:∀ i,i<ds.length->ds.getD i .none∈ds:=fun i hi=>by
  rw [ao0,aoW hi]
  exact apu hi
 refine⟨fun h2 h' k R q=>?_,fun h' k i j C hi hj q=>?_,by rw [len];exact am0 ok,?_⟩
 ·obtain⟨fs,f1,f2,f3⟩:=agl (P:=P) (w:=w) (ReadsAll.keep k ra) ok.head
  exact kat_kind f1 (by omega) f3 (beq_self_eq_true _) q
 ·rw [len] at hi hj
  obtain⟨b1,r1⟩:=ReadsAll.at (ReadsAll.keep k ra) i hi
  obtain⟨b2,r2⟩:=ReadsAll.at (ReadsAll.keep k ra) j hj
  exact amZ r1 r2 (ok.plain _ (mem i hi)) (ok.plain _ (mem j hj)) (ok.head _ (mem i hi)) (ok.head _ (mem j hj)) (ok.cmp _ (mem i hi) _ (mem j hj)) hu (ok.depth _ (mem i hi)) (ok.depth _ (mem j hj)) q
 ·rw [len]
  refine few.imp id fun pw i hi=>?_
  have h1:=aqs.mp pw i (i+1) (by omega) hi (by omega)
  have g:∀ j (hj:j<ds.length),ds.getD j .none=ds[j]:=fun j hj=>by rw [ao0,aoW hj];rfl
  rw [g _ hi,g i (by omega)]
  have ne:=lt_asymm (ok.plain _ (apu _)) (ok.plain _ (apu _)) h1
  have:=afo _ _ (ok.plain _ (apu _)) (ok.plain _ (apu _)) ne
  rw [h1] at this
  revert this
  cases ltD ds[i+1] ds[i] <;> simp
end
def pick {α:Type} (d:α) (p:Array Nat) (xs:List α):List α:=p.toList.map fun i=>xs.getD i d
theorem agm:∀ {xs:List V} {us:List Value},Vals xs us->∀ i,RelV (xs.getD i .non) (us.getD i Value.none)
 | _,_,.nil,i=>rfl
 | _,_,.cons r t,0=>r
 | _,_,.cons r t,i+1=>agm t i
theorem ahq {xs:List V} {us:List Value} (r:Vals xs us) (p:Array Nat):Vals (pick .non p xs) (pick Value.none p us):=by
 unfold pick
 induction p.toList with
 | nil=>exact .nil
 | cons i l ih=>exact .cons (agm r i) ih
theorem agn {K:aoZ} {H:Hp}:∀ {ds:List PyData} {xs:List V},Reps K H ds xs->∀ i,Rep K H (ds.getD i .none) (xs.getD i .non)
 | [],xs,r,i=>by
  rw [reps_nil.mp r]
  exact rep_none.mpr rfl
 | d :: ds,xs,r,i=>by
  obtain⟨x,xs',rfl,r1,r2⟩:=reps_cons.mp r
  cases i with
  | zero=>exact r1
  | succ i=>exact agn r2 i
theorem ahr {K:aoZ} {H:Hp} {ds:List PyData} {xs:List V} (r:Reps K H ds xs) (p:Array Nat):Reps K H (pick .none p ds) (pick .non p xs):=by
 unfold pick
 induction p.toList with
 | nil=>exact .nil'
 | cons i l ih=>exact .cons' (agn r i) ih
theorem ahs {α:Type} {d:α} {n:Nat} {p:Array Nat} {xs:List α} (h:Pm n p) (hn:n=xs.length):(pick d p xs).Perm xs:=by
 have e:(apj n).map (fun i=>xs.getD i d)=xs:=by
  subst hn
  refine arn fun i=>?_
  rw [ao5]
  by_cases hi:i<xs.length
  ·rw [aqz hi,aoW hi]
   simp [hi]
  ·rw [apt (by simp;omega),apt (by omega)]
   rfl
 have:=h.map fun i=>xs.getD i d
 rw [e] at this
 exact this
theorem akN {n:Nat} {p:Array Nat} {ds:List PyData} (h:Pm n p) (u:Up (fun i j=>ltD (ds.getD i .none) (ds.getD j .none)) p n):(pick .none p ds).Pairwise fun d e=>ltD d e=true:=by
 unfold pick
 rw [aqx]
 refine aqs.mpr fun i j hi hj hij=>?_
 have hs:=h.size
 rw [apf] at hi hj
 have:=u i j hij (by omega)
 have g:∀ k (hk:k<p.toList.length),p.getD k 0=p.toList[k]:=fun k hk=>by
  rw [jG,ao0,aoW hk]
  rfl
 rw [g i (by simpa using hi),g j (by simpa using hj)] at this
 exact this
def ada (K:aoZ):List V->Hp->VK->Prop:=fun xs H Q=>∃ (a:Addr) (vs:List V) (ds:List PyData) (T:String),xs=[.ref a]/\SqL K H a vs/\Reps K H ds vs/\SortOk T ds/\ds.length<=1000/\(ds.length<64 \/ ds.Pairwise fun d e=>ltD d e=true) /\
 ∀ l p,H l=none->Pm ds.length p->Up (fun i j=>ltD (ds.getD i .none) (ds.getD j .none)) p ds.length->Q (.ref l) (upd H l (.lst (pick .non p vs)))
theorem adb {X:Cx} (hu:X.A.units+64<cLine):yo X (.builtin "sorted") (ada X.K):=by
 intro pins s σ H xs us Q I r h
 obtain⟨a,vs,ds,T,rfl,ha,rd,ok,hl,few,q⟩:=h
 obtain⟨u,rfl,rx⟩:=vals1 r
 cases rx
 obtain⟨its,rv,pl,hz⟩:=I.list ha
 have le:=rv.length
 have ld:=rd.length
 obtain⟨as,ra⟩:=jF I ds vs its rd rv
 have e2:X.A.in1.in1.units=X.A.units+1+1:=rfl
 have lt':its.length=ds.length:=by omega
 refine aee (by omega) pl.isList (akM ra ok (by omega) few) fun h' D p c x1 x2 x3 x4 x5=>?_
 rw [lt'] at x1 x2
 have hD:H D=none:=I.hok.fresh x3
 have lp:p.toList.length=ds.length:=by rw [apf];exact x1.size
 exact⟨.ref D,upd H D (.lst (pick .non p vs)),I.laid (t':=s.toks) x4 x3 ⟨by unfold pick;rw [aoX];omega,pick Value.none p its,c,ahq rv p,x5⟩,rfl,q D p hD x1 x2⟩
theorem ade {X:Cx} {K:aoZ} (hK:X.K=K) (hu:X.A.units+64<cLine):yo X (.builtin "sorted") (ada K):=hK▸adb hu
section
variable {K:aoZ} {f:Fx} {ρ:zm} {P:List PyData->Prop} {te:TE}
theorem aiU (T:String) (h:PEd K f te ρ fun x=>∃ ds,x=.list ds/\SortOk T ds/\ds.length<=1000/\(ds.length<64 \/ ds.Pairwise fun d e=>ltD d e=true)/\∀ es,es.Perm ds->(es.Pairwise fun d e=>ltD d e=true)->P es) :
  PEdO K f (tCB (ada K) (zY te y4)) ρ P:=fun σ H Q e q=>h σ H _ e fun x v H1 g1 r1 ⟨ds,ex,ok,hl,few,p⟩=>by
 subst ex
 obtain⟨a,xs,rfl,h1,h2⟩:=rep_list.mp r1
 refine⟨a,xs,ds,T,rfl,(zl _ _).seq h1,Reps.mono (zl _ _) _ _ h2,ok,hl,few,fun l pm hn m u=>?_⟩
 have g2:Goes f H1 (upd H1 l (.lst (pick .non pm xs))):=.of_same (zR hn _) g1.2
 refine q (pick .none pm ds) l _ _ (g1.trans g2) (g1.free e.fd hn) zq (Reps.mono (fun b o hb=>?_) _ _ (ahr h2 pm)) (p _ (ahs m rfl) (akN m u))
 have hb':=zF hb
 have hbl:b≠l:=fun z=>by
  have:=hb'.2
  rw [z,hn] at this
  cases this
 refine zz (fun z=>?_) (by rw [zr hbl];exact hb'.2)
 rcases z with z | z
 ·exact hb'.1 (.inl z)
 ·rcases ao7.mp z with z | z
  ·exact hbl z
  ·exact hb'.1 (.inr z)
end
end L2
end
section
namespace L2.ST
open PySem PySem.SetTable
def aeg (xs:Array Nat):Prop:=∀ i j,i<j->j<xs.size->xs.getD i 0<xs.getD j 0
theorem aiV {xs:Array Nat} {i d e:Nat} (h:i<xs.size):xs.getD i d=xs.getD i e:=by simp [aqJ,h]
theorem abu {xs:Array Nat} {j:Nat}:∀ f lo hi,hi - lo<=f->lo<=hi->hi<=xs.size->(∀ i,i<lo->xs.getD i 0<j)->(∀ i,hi<=i->i<xs.size->j<=xs.getD i 0)->aeg xs ->
  lo<=below.go xs j f lo hi/\below.go xs j f lo hi<=hi/\(∀ i,i<below.go xs j f lo hi->xs.getD i 0<j)/\(∀ i,below.go xs j f lo hi<=i->i<xs.size->j<=xs.getD i 0)
 | 0,lo,hi,hf,hl,hh,a,b,r=>by
  obtain rfl:lo=hi:=by omega
  exact⟨ao6 _,ao6 _,a,b⟩
 | f+1,lo,hi,hf,hl,hh,a,b,r=>by
  unfold below.go
  by_cases h:lo<hi
  ·rw [if_pos h]
   have hm:(lo+hi) / 2<xs.size:=by omega
   simp only
   rw [aiV (e:=0) hm]
   by_cases h2:xs.getD ((lo+hi) / 2) 0<j
   ·rw [if_pos h2]
    have:=abu f ((lo+hi) / 2+1) hi (by omega) (by omega) hh (fun i hi'=>by
     by_cases e:i=(lo+hi) / 2
     ·rw [e];exact h2
     ·exact as8 (r i _ (by omega) hm) h2) b r
    exact⟨by omega,this.2.1,this.2.2⟩
   ·rw [if_neg h2]
    have:=abu f lo ((lo+hi) / 2) (by omega) (by omega) (by omega) a (fun i hi' hs=>by
     by_cases e:i=(lo+hi) / 2
     ·rw [e];omega
     ·have:=r ((lo+hi) / 2) i (by omega) hs;omega) r
    exact⟨this.1,by omega,this.2.2⟩
  ·rw [if_neg h]
   obtain rfl:lo=hi:=by omega
   exact⟨ao6 _,ao6 _,a,b⟩
theorem aeh {xs:Array Nat} (r:aeg xs) (j:Nat):below xs j<=xs.size/\(∀ i,i<below xs j->xs.getD i 0<j)/\(∀ i,below xs j<=i->i<xs.size->j<=xs.getD i 0):=by
 have:=abu (xs:=xs) (j:=j) xs.size 0 xs.size (by omega) (apC _) (ao6 _) (fun i hi=>absurd hi (apZ _)) (fun i a b=>by omega) r
 exact this.2
theorem below_at {xs:Array Nat} (r:aeg xs) {i:Nat} (hi:i<xs.size):below xs (xs.getD i 0)=i:=by
 obtain⟨a,b,c⟩:=aeh r (xs.getD i 0)
 by_cases h:below xs (xs.getD i 0)<i
 ·have h1:=c _ (ao6 _) (by omega)
  have h2:=r _ i h hi
  omega
 ·by_cases h2:i<below xs (xs.getD i 0)
  ·have:=b i h2;omega
  ·omega
def Tk (t:SetTable) (j:Nat):Prop:=∃ i,i<t.place.size/\t.place.getD i 0=j
theorem slot_live {t:SetTable} (r:aeg t.place) {i:Nat} (hi:i<t.place.size):t.slot (t.place.getD i 0)=.live i:=by
 unfold slot
 simp only
 rw [below_at r hi]
 have:(t.place[i]? == some (t.place.getD i 0))=true:=by simp [aqJ,hi]
 rw [if_pos this]
theorem aht {t:SetTable} (d:t.dummies=#[]) {j:Nat} (h:¬ Tk t j):t.slot j=.empty:=by
 unfold slot
 simp only
 have h1:¬ (t.place[below t.place j]? == some j)=true:=fun e=>h (by
  have e2:=eq_of_beq e
  obtain⟨hl,e3⟩:=Array.getElem?_eq_some_iff.mp e2
  exact⟨_,hl,by simp [aqJ,hl,e3]⟩)
 rw [if_neg h1]
 have h2:has t.dummies j=false:=by rw [d];rfl
 rw [h2]
 rfl
def road (mask:Nat) (h:Int):Nat->Probe
 | 0=>{ j:=bits h % (mask+1),more:=runEnd mask (bits h % (mask+1)) - bits h % (mask+1),i:=bits h % (mask+1),perturb:=bits h,dummy:=none }
 | k+1=>if (road mask h k).more > 0 then { road mask h k with j:=(road mask h k).j+1,more:=(road mask h k).more - 1 } else
  { road mask h k with j:=(leap mask (road mask h k).i (road mask h k).perturb).1,more:=runEnd mask (leap mask (road mask h k).i (road mask h k).perturb).1 - (leap mask (road mask h k).i (road mask h k).perturb).1,i:=(leap mask (road mask h k).i (road mask h k).perturb).1,perturb:=(leap mask (road mask h k).i (road mask h k).perturb).2 }
theorem road_start (t:SetTable) (h:Int):t.probeStart h=road t.mask h 0:=rfl
theorem vy (mask:Nat) (h:Int):∀ k,(road mask h k).dummy=none
 | 0=>rfl
 | k+1=>by
  unfold road
  split
  ·exact vy mask h k
  ·exact vy mask h k
abbrev pos (mask:Nat) (h:Int) (k:Nat):Nat:=(road mask h k).j
def lp (mask:Nat) (h:Int):Nat->Nat×Nat
 | 0=>(bits h % (mask+1),bits h)
 | r+1=>leap mask (lp mask h r).1 (lp mask h r).2
theorem aas (mask i:Nat) (h:i<=mask):i<=runEnd mask i/\runEnd mask i<=mask/\runEnd mask i - i<=9:=by
 unfold runEnd
 split <;> omega
theorem aei (mask:Nat) (h:Int):∀ r,(lp mask h r).1<=mask
 | 0=>arL.mp (Nat.mod_lt _ (arU _))
 | r+1=>arL.mp (Nat.mod_lt _ (arU _))
def At (mask:Nat) (h:Int) (k r d:Nat):Prop:=d<=runEnd mask (lp mask h r).1 - (lp mask h r).1/\road mask h k={ j:=(lp mask h r).1+d,more:=runEnd mask (lp mask h r).1 - (lp mask h r).1 - d,i:=(lp mask h r).1,perturb:=(lp mask h r).2,dummy:=none }
theorem adf (mask:Nat) (h:Int):At mask h 0 0 0:=⟨apC _,rfl⟩
theorem ago {mask:Nat} {h:Int} {k r d:Nat} (a:At mask h k r d) (hd:d<runEnd mask (lp mask h r).1 - (lp mask h r).1):At mask h (k+1) r (d+1):=by
 obtain⟨a1,a2⟩:=a
 refine⟨hd,?_⟩
 unfold road
 rw [a2]
 simp only
 rw [if_pos (by omega)]
 simp only [Probe.mk.injEq,and_true]
 omega
theorem adg {mask:Nat} {h:Int} {k r d:Nat} (a:At mask h k r d) (hd:d=runEnd mask (lp mask h r).1 - (lp mask h r).1):At mask h (k+1) (r+1) 0:=by
 obtain⟨a1,a2⟩:=a
 refine⟨apC _,?_⟩
 unfold road
 rw [a2]
 simp only
 rw [if_neg (by omega)]
 rfl
theorem adh {mask:Nat} {h:Int} {k r:Nat} (a:At mask h k r 0):∀ d,d<=runEnd mask (lp mask h r).1 - (lp mask h r).1->At mask h (k+d) r d
 | 0,_=>a
 | d+1,hd=>ago (adh a d (by omega)) (by omega)
theorem aej (mask:Nat) (h:Int):∀ r,∃ k,k<=10 * r/\At mask h k r 0
 | 0=>⟨0,ao6 _,adf mask h⟩
 | r+1=>by
  obtain⟨k,hk,a⟩:=aej mask h r
  have:=(aas mask _ (aei mask h r)).2.2
  exact⟨_,by omega,adg (adh a _ (ao6 _)) rfl⟩
theorem aiW (mask:Nat) (h:Int):∀ k,∃ r d,At mask h k r d
 | 0=>⟨0,0,adf mask h⟩
 | k+1=>by
  obtain⟨r,d,a⟩:=aiW mask h k
  by_cases e:d<runEnd mask (lp mask h r).1 - (lp mask h r).1
  ·exact⟨r,d+1,ago a e⟩
  ·exact⟨r+1,0,adg a (Nat.le_antisymm a.1 (by omega))⟩
theorem adi (mask:Nat) (h:Int) (k:Nat):pos mask h k<=mask:=by
 obtain⟨r,d,a1,a2⟩:=aiW mask h k
 unfold pos
 rw [a2]
 have:=aas mask _ (aei mask h r)
 show (lp mask h r).1+d<=mask
 omega
def stp (m i:Nat):Nat:=(i * 5+1) % m
def itr (m:Nat):Nat->Nat->Nat
 | 0,i=>i
 | r+1,i=>stp m (itr m r i)
theorem vR (m:Nat) (a:Nat):∀ b i,itr m (a+b) i=itr m b (itr m a i)
 | 0,i=>rfl
 | b+1,i=>by show stp m (itr m (a+b) i)=stp m (itr m b (itr m a i));rw [vR m a b i]
def orb (m:Nat):Nat->Nat->List Nat
 | 0,_=>[]
 | f+1,i=>i :: orb m f (stp m i)
theorem aiX (m:Nat):∀ f i r,r<f->(orb m f i)[r]?=some (itr m r i)
 | 0,_,_,h=>absurd h (apZ _)
 | f+1,i,0,_=>rfl
 | f+1,i,r+1,h=>by
  show (orb m f (stp m i))[r]?=_
  rw [aiX m f (stp m i) r (by omega),show r+1=1+r by omega,vR m 1 r i]
  rfl
def jy (m:Nat):Bool:=(apj m).all (fun j=>(orb m m 0).contains j) && itr m m 0 == 0
theorem agp:jy 8=true:=by decide +kernel
theorem aek:jy 32=true:=by decide +kernel
theorem acv:jy 128=true:=by decide +kernel
theorem acw:jy 512=true:=by decide +kernel
theorem adj (m:Nat):∀ f i,(orb m f i).length=f
 | 0,_=>rfl
 | f+1,i=>by show (orb m f (stp m i)).length+1=f+1;rw [adj m f]
theorem ael {m:Nat} (h:jy m=true) {j:Nat} (hj:j<m):∃ r,r<m/\itr m r 0=j:=by
 unfold jy at h
 rw [ao8] at h
 have:=arD.mp h.1 j (apr.mpr hj)
 have hm:j∈orb m m 0:=by simpa using this
 obtain⟨r,hr,e⟩:=aqm hm
 rw [adj] at hr
 have e2:=aiX m m 0 r hr
 rw [aoW (by rw [adj];exact hr),e] at e2
 exact⟨r,hr,(Option.some.inj e2).symm⟩
theorem agq {m:Nat} (h:jy m=true) {i j:Nat} (hi:i<m) (hj:j<m):∃ r,r<m/\itr m r i=j:=by
 obtain⟨a,ha,ea⟩:=ael h hi
 obtain⟨b,hb,eb⟩:=ael h hj
 have e0:itr m m 0=0:=by
  unfold jy at h
  rw [ao8] at h
  exact eq_of_beq h.2
 by_cases hab:a<=b
 ·exact⟨b - a,by omega,by rw [<-ea,<- vR,show a+(b - a)=b by omega];exact eb⟩
 ·refine⟨m - a+b,by omega,?_⟩
  rw [<-ea,<- vR,show a+(m - a+b)=m+b by omega,vR,e0]
  exact eb
theorem agr (mask:Nat) (h:Int):∀ r,(lp mask h r).2=bits h / 32 ^ r
 | 0=>by simp [lp]
 | r+1=>by
  show (lp mask h r).2 / 32=_
  rw [agr mask h r,Nat.div_div_eq_div_mul,Nat.pow_succ]
theorem akO (h:Int):bits h<2 ^ 64:=by
 unfold bits
 have:=aqr h (show (0:Int)<2 ^ 64 by decide)
 have:=arM h (show (2 ^ 64:Int)≠0 by decide)
 omega
theorem akP (mask:Nat) (h:Int) (r:Nat) (hr:13<=r):(lp mask h r).2=0:=by
 rw [agr]
 refine Nat.div_eq_of_lt (apk (akO h) ?_)
 exact apm (show 2 ^ 64<=32 ^ 13 by decide) (arG (by decide) hr)
theorem afp (mask:Nat) (h:Int):∀ r,(lp mask h (13+r)).1=itr (mask+1) r (lp mask h 13).1
 | 0=>rfl
 | r+1=>by
  show (leap mask (lp mask h (13+r)).1 (lp mask h (13+r)).2).1=stp (mask+1) (itr (mask+1) r (lp mask h 13).1)
  rw [akP mask h (13+r) (by omega),afp mask h r]
  rfl
theorem aiY {mask:Nat} (g:jy (mask+1)=true) (h:Int) {j:Nat} (hj:j<=mask):∃ k,k<10 * turns mask/\pos mask h k=j:=by
 obtain⟨r,hr,e⟩:=agq g (i:=(lp mask h 13).1) (j:=j) (aro (aei mask h 13)) (aro hj)
 obtain⟨k,hk,a1,a2⟩:=aej mask h (13+r)
 refine⟨k,by unfold turns;omega,?_⟩
 unfold pos
 rw [a2]
 show (lp mask h (13+r)).1+0=j
 rw [afp,e]
 rfl
end L2.ST
end
section
namespace L2.ST
open PySem PySem.SetTable
structure TB (t:SetTable) (hs:List Int):Prop where
 mask:t.mask=7 \/ t.mask=31 \/ t.mask=127 \/ t.mask=511
 dum:t.dummies=#[]
 rise:aeg t.place
 le:∀ i,i<t.place.size->t.place.getD i 0<=t.mask
 size:t.place.size=hs.length
 most:hs.length<=t.mask
 reach:∀ i,i<hs.length->∃ k,pos t.mask (hs.getD i 0) k=t.place.getD i 0/\∀ k',k'<k->Tk t (pos t.mask (hs.getD i 0) k')
structure TOk (t:SetTable) (hs:List Int):Prop extends TB t hs where
 room:hs.length * 5<t.mask * 3
theorem am1 {t:SetTable} {hs:List Int} (o:TB t hs):jy (t.mask+1)=true:=by
 rcases o.mask with e | e | e | e <;> rw [e]
 ·exact agp
 ·exact aek
 ·exact acv
 ·exact acw
theorem ahu {t:SetTable} (r:aeg t.place) (hs:t.place.size<=t.mask):∃ j,j<=t.mask/\¬ Tk t j:=by
 refine aqg fun no=>?_
 have all:∀ j,j<=t.mask->Tk t j:=fun j hj=>aqg fun z=>no ⟨j,hj,z⟩
 have up:∀ j,j<=t.mask->j<=below t.place j/\below t.place j<t.place.size:=fun j=>by
  induction j with
  | zero =>
   intro hj
   obtain⟨i,hi,e⟩:=all 0 hj
   have:=below_at r hi
   rw [e] at this
   exact⟨apC _,by omega⟩
  | succ j ih =>
   intro hj
   obtain⟨i,hi,e⟩:=all (j+1) hj
   obtain⟨i',hi',e'⟩:=all j (by omega)
   have b1:=below_at r hi
   have b2:=below_at r hi'
   rw [e] at b1
   rw [e'] at b2
   have lt:i'<i:=by
    by_cases h:i'<i
    ·exact h
    ·by_cases h2:i'=i
     ·subst h2;omega
     ·have:=r i i' (by omega) hi';omega
   have:=ih (by omega)
   omega
 have:=up t.mask (ao6 _)
 omega
structure First (t:SetTable) (h:Int) (E:Nat):Prop where
 lt:E<10 * turns t.mask
 free:¬ Tk t (pos t.mask h E)
 ahead:∀ k,k<E->Tk t (pos t.mask h k)
theorem least {p:Nat->Prop}:∀ n,p n->∃ m,m<=n/\p m/\∀ k,k<m->¬ p k:=fun n=>by
 induction n using Nat.strongRecOn with
 | ind n ih =>
  intro h
  by_cases q:∃ k,k<n/\p k
  ·obtain⟨k,hk,pk⟩:=q
   obtain⟨m,a,b⟩:=ih k hk pk
   exact⟨m,by omega,b⟩
  ·exact⟨n,ao6 _,h,fun k hk z=>q ⟨k,hk,z⟩⟩
theorem ahv {t:SetTable} (g:jy (t.mask+1)=true) (r:aeg t.place) (hs:t.place.size<=t.mask) (h:Int):∃ E,First t h E:=by
 obtain⟨j,hj,nj⟩:=ahu r hs
 obtain⟨k,hk,e⟩:=aiY g h hj
 obtain⟨m,a,b,c⟩:=least (p:=fun k=>¬ Tk t (pos t.mask h k)) k (by show ¬ Tk t (pos t.mask h k);rw [e];exact nj)
 exact⟨m,by omega,b,fun q hq=>aqg (c q hq)⟩
theorem first_of {t:SetTable} {hs:List Int} (o:TB t hs) (h:Int):∃ E,First t h E:=ahv (am1 o) o.rise (by have:=o.size;have:=o.most;omega) h
theorem probe_go {t:SetTable} (d:t.dummies=#[]) (r:aeg t.place) {hashAt:Nat->Int} {h:Int} {E:Nat} (F:First t h E):∀ f k,k<=E->E<k+f ->
  (probe.go t hashAt h f (road t.mask h k)=some (.empty (pos t.mask h E) none)/\∀ q i,k<=q->q<E->i<t.place.size->pos t.mask h q=t.place.getD i 0->hashAt i≠h) \/
  ∃ q i,k<=q/\q<E/\i<t.place.size/\pos t.mask h q=t.place.getD i 0/\hashAt i=h/\probe.go t hashAt h f (road t.mask h k)=some (.candidate (pos t.mask h q) i (road t.mask h (q+1)))/\∀ q' i',k<=q'->q'<q->i'<t.place.size->pos t.mask h q'=t.place.getD i' 0->hashAt i'≠h
 | 0,k,h1,h2=>by omega
 | f+1,k,h1,h2=>by
  unfold probe.go
  by_cases e:k=E
  ·subst e
   refine .inl ⟨?_,fun q i a b=>by omega⟩
   rw [aht d F.free]
   show some (Met.empty _ _)=_
   rw [vy]
  ·obtain⟨i,hi,ei⟩:=F.ahead k (by omega)
   have sl:t.slot (road t.mask h k).j=.live i:=by
    have:=slot_live r hi
    rw [ei] at this
    exact this
   rw [sl]
   show (if (hashAt i == h)=true then _ else _:Option Met)=_/\_ \/ _
   have uniq:∀ i',i'<t.place.size->pos t.mask h k=t.place.getD i' 0->i'=i:=fun i' hi' e'=>by
    have b1:=below_at r hi
    have b2:=below_at r hi'
    rw [ei] at b1
    rw [<-e'] at b2
    omega
   by_cases hh:(hashAt i == h)=true
   ·rw [if_pos hh]
    refine .inr ⟨k,i,ao6 _,by omega,hi,ei.symm,eq_of_beq hh,?_,fun q' i' a b=>by omega⟩
    show (if (hashAt i == h)=true then _ else _:Option Met)=_
    rw [if_pos hh]
    rfl
   ·rw [if_neg hh]
    have hne:hashAt i≠h:=fun z=>hh (by rw [z];exact beq_self_eq_true _)
    rcases probe_go d r (hashAt:=hashAt) F f (k+1) (by omega) (by omega) with⟨a,b⟩ | ⟨q,i2,a1,a2,a3,a4,a5,a6,a7⟩
    ·refine .inl ⟨a,fun q i' c1 c2 c3 c4=>?_⟩
     by_cases eq:q=k
     ·subst eq;rw [uniq i' c3 c4];exact hne
     ·exact b q i' (by omega) c2 c3 c4
    ·refine .inr ⟨q,i2,by omega,a2,a3,a4,a5,?_,fun q' i' c1 c2 c3 c4=>?_⟩
     ·show (if (hashAt i == h)=true then _ else _:Option Met)=_
      rw [if_neg hh]
      exact a6
     ·by_cases eq:q'=k
      ·subst eq;rw [uniq i' c3 c4];exact hne
      ·exact a7 q' i' (by omega) c2 c3 c4
end L2.ST
end
section
namespace L2.ST
open PySem PySem.SetTable
theorem vS {α:Type} (xs:Array α) (i:Nat) (d:α):xs.getD i d=xs.toList.getD i d:=by
 by_cases h:i<xs.size <;> simp [aqJ,h,ata]
theorem aem {α:Type} (l:List α) (p:Nat) (x d:α) (hp:p<=l.length) (i:Nat):(l.take p++x :: l.drop p).getD i d=if i<p then l.getD i d else if i=p then x else l.getD (i - 1) d:=by
 have lt:(l.take p).length=p:=by rw [apK];omega
 by_cases h1:i<p
 ·rw [if_pos h1,ao0,ao9 (by omega),aq7 h1,ao0]
 ·rw [if_neg h1,ao0,apd (by omega),lt]
  by_cases h2:i=p
  ·rw [if_pos h2,h2,aqo]
   rfl
  ·rw [if_neg h2,show i - p=(i - p - 1)+1 by omega,List.getElem?_cons_succ,List.getElem?_drop,show p+(i - p - 1)=i - 1 by omega,ao0]
section
variable {t:SetTable} {hs:List Int} {h:Int} {E:Nat}
theorem put_tb (o:TB t hs) (F:First t h E) (more:hs.length+1<=t.mask):below t.place (pos t.mask h E)<=hs.length/\TB (t.put (pos t.mask h E)).1 (hs.take (below t.place (pos t.mask h E))++h :: hs.drop (below t.place (pos t.mask h E))):=by
 obtain⟨b1,b2,b3⟩:=aeh o.rise (pos t.mask h E)
 have sz:=o.size
 generalize hp:below t.place (pos t.mask h E)=p at *
 have hpl:p<=t.place.toList.length:=by rw [apf];exact b1
 have pl:∀ i,(t.put (pos t.mask h E)).1.place.getD i 0=if i<p then t.place.getD i 0 else if i=p then pos t.mask h E else t.place.getD (i - 1) 0:=fun i=>by
  show (insertAt t.place (below t.place (pos t.mask h E)) (pos t.mask h E)).getD i 0=_
  rw [hp,vS,aq8,aem _ _ _ _ hpl,vS,vS]
 have psz:(t.put (pos t.mask h E)).1.place.size=t.place.size+1:=by
  show (insertAt t.place (below t.place (pos t.mask h E)) (pos t.mask h E)).size=_
  rw [<-apf,aq8,hp,api,aph,apK,aso,apf]
  omega
 have ne:∀ i,i<t.place.size->t.place.getD i 0≠pos t.mask h E:=fun i hi e=>F.free ⟨i,hi,e⟩
 have b3':∀ i,p<=i->i<t.place.size->pos t.mask h E<t.place.getD i 0:=fun i a b=>by
  have:=b3 i a b
  have:=ne i b
  omega
 have hm:(t.put (pos t.mask h E)).1.mask=t.mask:=rfl
 have tk:∀ j,Tk t j->Tk (t.put (pos t.mask h E)).1 j:=fun j ⟨i,hi,e⟩=>by
  by_cases q:i<p
  ·exact⟨i,by omega,by rw [pl,if_pos q];exact e⟩
  ·exact⟨i+1,by omega,by rw [pl,if_neg (by omega),if_neg (by omega),Nat.add_sub_cancel];exact e⟩
 have hl:∀ i,(hs.take p++h :: hs.drop p).getD i 0=if i<p then hs.getD i 0 else if i=p then h else hs.getD (i - 1) 0:=fun i=>aem hs p h 0 (by omega) i
 have ln:(hs.take p++h :: hs.drop p).length=hs.length+1:=by
  rw [api,aph,apK,aso]
  omega
 refine⟨by omega,⟨o.mask,?_,fun i j hij hj=>?_,fun i hi=>?_,by rw [psz,ln,sz],by rw [ln,hm];exact more,fun i hi=>?_⟩⟩
 ·show (if has t.dummies (pos t.mask h E)=true then _ else t.dummies)=#[]
  rw [o.dum]
  rfl
 ·rw [pl,pl]
  rw [psz] at hj
  by_cases c1:i<p
  ·rw [if_pos c1]
   by_cases c2:j<p
   ·rw [if_pos c2];exact o.rise i j hij (by omega)
   ·rw [if_neg c2]
    by_cases c3:j=p
    ·rw [if_pos c3];exact b2 i c1
    ·rw [if_neg c3];exact o.rise i (j - 1) (by omega) (by omega)
  ·rw [if_neg c1,if_neg (show ¬ j<p by omega)]
   by_cases c3:i=p
   ·rw [if_pos c3,if_neg (by omega)];exact b3' (j - 1) (by omega) (by omega)
   ·rw [if_neg c3,if_neg (by omega)];exact o.rise (i - 1) (j - 1) (by omega) (by omega)
 ·rw [pl,hm]
  rw [psz] at hi
  by_cases c1:i<p
  ·rw [if_pos c1];exact o.le i (by omega)
  ·rw [if_neg c1]
   by_cases c3:i=p
   ·rw [if_pos c3];exact adi _ _ _
   ·rw [if_neg c3];exact o.le (i - 1) (by omega)
 ·rw [hl,pl,hm]
  rw [ln] at hi
  by_cases c1:i<p
  ·rw [if_pos c1,if_pos c1]
   obtain⟨k,e,a⟩:=o.reach i (by omega)
   exact⟨k,e,fun k' hk=>tk _ (a k' hk)⟩
  ·rw [if_neg c1,if_neg c1]
   by_cases c3:i=p
   ·rw [if_pos c3,if_pos c3]
    exact⟨E,rfl,fun k' hk=>tk _ (F.ahead k' hk)⟩
   ·rw [if_neg c3,if_neg c3]
    obtain⟨k,e,a⟩:=o.reach (i - 1) (by omega)
    exact⟨k,e,fun k' hk=>tk _ (a k' hk)⟩
end
def Occ (ow:Array (Option Nat)) (j:Nat):Prop:=ow.getD j (some 0)≠none
theorem ags {mask:Nat} {ow:Array (Option Nat)} {h:Int}:∀ f r k,At mask h k r 0->(∃ r',r<=r'/\r'<r+f/\¬ Occ ow (lp mask h r').1) ->
  ∃ E,k<=E/\(∀ q,k<=q->q<E->Occ ow (pos mask h q))/\¬ Occ ow (pos mask h E)/\layClean.free mask ow f (lp mask h r).1 (lp mask h r).2=some (pos mask h E)
 | 0,r,k,a,⟨r',h1,h2,_⟩=>by omega
 | f+1,r,k,a,⟨r',h1,h2,h3⟩=>by
  have re:=aas mask _ (aei mask h r)
  have at_:∀ d,d<=runEnd mask (lp mask h r).1 - (lp mask h r).1->pos mask h (k+d)=(lp mask h r).1+d:=fun d hd=>by
   have:=(adh a d hd).2
   unfold pos
   rw [this]
  unfold layClean.free
  cases hf:(apj (runEnd mask (lp mask h r).1+1 - (lp mask h r).1)).find? fun k=>(ow.getD ((lp mask h r).1+k) (some 0)).isNone with
  | some d =>
   have hm:=List.mem_of_find?_eq_some hf
   have hd:=apr.mp hm
   have hs:=List.find?_some hf
   have bef:∀ d',d'<d->¬ (ow.getD ((lp mask h r).1+d') (some 0)).isNone=true:=fun d' hd'=>by
    obtain⟨_,as,bs,e,al⟩:=List.find?_eq_some_iff_append.mp hf
    have:as=apj d:=by
     have l1:(apj (runEnd mask (lp mask h r).1+1 - (lp mask h r).1))[as.length]?=some d:=by
      rw [e,apd (ao6 _),aqo]
      rfl
     have lt:as.length<runEnd mask (lp mask h r).1+1 - (lp mask h r).1:=by
      have:=congrArg List.length e
      simp at this
      omega
     rw [aqz lt] at l1
     have el:as.length=d:=Option.some.inj l1
     have:as=(apj (runEnd mask (lp mask h r).1+1 - (lp mask h r).1)).take as.length:=by
      rw [e,List.take_append_of_le_length (ao6 _),apU]
     rw [this,List.take_range,Nat.min_eq_left (by omega),el]
    have al2:=al d' (by rw [this];exact apr.mpr hd')
    intro z
    have z2:(!(ow.getD ((lp mask h r).1+d') (some 0)).isNone)=true:=al2
    rw [z] at z2
    cases z2
   refine⟨k+d,by omega,fun q hq1 hq2=>?_,?_,?_⟩
   ·have:=bef (q - k) (by omega)
    rw [show q=k+(q - k) by omega,at_ (q - k) (by omega)]
    intro z
    rw [z] at this
    exact this rfl
   ·rw [at_ d (by omega)]
    intro z
    have hs':(ow.getD ((lp mask h r).1+d) (some 0)).isNone=true:=hs
    exact z (Option.isNone_iff_eq_none.mp hs')
   ·rw [at_ d (by omega)]
  | none =>
   have all:∀ d,d<runEnd mask (lp mask h r).1+1 - (lp mask h r).1->Occ ow ((lp mask h r).1+d):=fun d hd z=>by
    have:=List.find?_eq_none.mp hf d (apr.mpr hd)
    simp [z] at this
   have ne:r'≠r:=fun z=>by
    rw [z] at h3
    exact h3 (by have:=all 0 (by omega);rwa [Nat.add_zero] at this)
   have a2:=adg (adh a _ (ao6 _)) rfl
   obtain⟨E,e1,e2,e3,e4⟩:=ags f (r+1) _ a2 ⟨r',by omega,by omega,h3⟩
   refine⟨E,by omega,fun q hq1 hq2=>?_,e3,e4⟩
   by_cases hq:q<k+(runEnd mask (lp mask h r).1 - (lp mask h r).1)+1
   ·rw [show q=k+(q - k) by omega,at_ (q - k) (by omega)]
    exact all _ (by omega)
   ·exact e2 q (by omega) hq2
end L2.ST
end
section
namespace L2.ST
open PySem PySem.SetTable
structure OwnT (mask:Nat) (ow:Array (Option Nat)) (hs:List Int) (sl:List Nat):Prop where
 size:ow.size=mask+1
 len:sl.length=hs.length
 nd:sl.Nodup
 le:∀ j∈sl,j<=mask
 own:∀ j,j<=mask->∀ i,ow.getD j none=some i↔sl[i]?=some j
 reach:∀ i,i<hs.length->∃ q,pos mask (hs.getD i 0) q=sl.getD i 0/\∀ q',q'<q->pos mask (hs.getD i 0) q'∈sl
theorem OwnT.occ {mask:Nat} {ow:Array (Option Nat)} {hs:List Int} {sl:List Nat} (o:OwnT mask ow hs sl) {j:Nat} (hj:j<=mask):Occ ow j↔j∈sl:=by
 have hs':j<ow.size:=by rw [o.size];omega
 have e:ow.getD j (some 0)=ow.getD j none:=by simp [aqJ,hs']
 unfold Occ
 rw [e]
 constructor
 ·intro h
  obtain⟨i,hi⟩:=Option.ne_none_iff_exists'.mp h
  exact ao4 ((o.own j hj i).mp hi)
 ·intro h z
  obtain⟨i,hi,e2⟩:=aqm h
  have:=(o.own j hj i).mpr (by rw [aoW hi,e2])
  rw [z] at this
  cases this
def agt (mask:Nat):Option (Array (Option Nat)×Nat)->Int->Option (Array (Option Nat)×Nat):=fun acc h=>do
  let (owner,k) <- acc
  let j <- layClean.free mask owner (turns mask) (bits h % (mask+1)) (bits h)
  pure (owner.setIfInBounds j (some k),k+1)
theorem aiZ {mask:Nat} (g:jy (mask+1)=true) {ow:Array (Option Nat)} {hs:List Int} {sl:List Nat} (o:OwnT mask ow hs sl) (hm:hs.length<=mask) (h:Int) :
  ∃ ow' sl',agt mask (some (ow,hs.length)) h=some (ow',hs.length+1)/\OwnT mask ow' (hs++[h]) sl':=by
 obtain⟨j,hj,nj⟩:∃ j,j<=mask/\j∉sl:=by
  refine aqg fun no=>?_
  have sub:apj (mask+1) ⊆ sl:=fun j hj=>aqg fun z=>no ⟨j,arL.mp (apr.mp hj),z⟩
  have:=List.Nodup.length_le_of_subset asq sub
  rw [apW,o.len] at this
  omega
 obtain⟨r,hr,e⟩:=agq g (i:=(lp mask h 13).1) (j:=j) (aro (aei mask h 13)) (aro hj)
 obtain⟨E,_,e2,e3,e4⟩:=ags (ow:=ow) (turns mask) 0 0 (adf mask h) ⟨13+r,apC _,by unfold turns;omega,by rw [afp,e,o.occ hj];exact nj⟩
 have e3':pos mask h E∉sl:=fun z=>e3 ((o.occ (adi mask h E)).mpr z)
 have e2':∀ q,q<E->pos mask h q∈sl:=fun q hq=>(o.occ (adi mask h q)).mp (e2 q (apC _) hq)
 have e4':layClean.free mask ow (turns mask) (bits h % (mask+1)) (bits h)=some (pos mask h E):=e4
 refine⟨ow.setIfInBounds (pos mask h E) (some hs.length),sl++[pos mask h E],?_,?_⟩
 ·show (layClean.free mask ow (turns mask) (bits h % (mask+1)) (bits h) >>= fun j=>pure (ow.setIfInBounds j (some hs.length),hs.length+1))=_
  rw [e4']
  rfl
 ·have ls:∀ i,(sl++[pos mask h E])[i]?=if i<sl.length then sl[i]? else if i=sl.length then some (pos mask h E) else none:=fun i=>by
   by_cases c:i<sl.length
   ·rw [if_pos c,ao9 c]
   ·rw [if_neg c,apd (by omega)]
    by_cases c2:i=sl.length
    ·rw [if_pos c2,c2,aqo];rfl
    ·rw [if_neg c2];exact apt (by simp;omega)
  refine⟨by rw [Array.size_setIfInBounds];exact o.size,by simp [o.len],?_,fun j hj=>?_,fun j hj i=>?_,fun i hi=>?_⟩
  ·rw [aqv]
   refine⟨o.nd,by simp,fun a ha b hb=>?_⟩
   rw [apo.mp hb]
   intro z
   rw [z] at ha
   exact e3' ha
  ·rcases aps.mp hj with hj | hj
   ·exact o.le j hj
   ·rw [apo.mp hj];exact adi _ _ _
  ·have hsz:j<ow.size:=by rw [o.size];omega
   rw [ls]
   by_cases c:j=pos mask h E
   ·subst c
    have:(ow.setIfInBounds (pos mask h E) (some hs.length)).getD (pos mask h E) none=some hs.length:=by simp [aqJ,hsz]
    rw [this]
    constructor
    ·intro z
     have z':hs.length=i:=Option.some.inj z
     rw [if_neg (by rw [o.len];omega),if_pos (by rw [o.len];omega)]
    ·intro z
     by_cases c2:i<sl.length
     ·rw [if_pos c2] at z
      exact absurd (ao4 z) e3'
     ·rw [if_neg c2] at z
      by_cases c3:i=sl.length
      ·rw [c3,o.len]
      ·rw [if_neg c3] at z;cases z
   ·have:(ow.setIfInBounds (pos mask h E) (some hs.length)).getD j none=ow.getD j none:=by
     rw [aqp,aqp,arw (apT c)]
    rw [this,o.own j hj i]
    by_cases c2:i<sl.length
    ·rw [if_pos c2]
    ·rw [if_neg c2]
     constructor
     ·intro z
      rw [apt (by omega)] at z
      cases z
     ·intro z
      by_cases c3:i=sl.length
      ·rw [if_pos c3] at z
       exact absurd (Option.some.inj z).symm c
      ·rw [if_neg c3] at z;cases z
  ·have gl:∀ i,(hs++[h]).getD i 0=if i<hs.length then hs.getD i 0 else if i=hs.length then h else 0:=fun i=>by
    by_cases c:i<hs.length
    ·rw [if_pos c,ao0,ao9 c,ao0]
    ·rw [if_neg c,ao0,apd (by omega)]
     by_cases c2:i=hs.length
     ·rw [if_pos c2,c2,aqo];rfl
     ·rw [if_neg c2,apt (by simp;omega)];rfl
   rw [api,apO] at hi
   have gs:(sl++[pos mask h E]).getD i 0=((sl++[pos mask h E])[i]?).getD 0:=ao0 ..
   rw [gl,gs,ls]
   by_cases c:i<hs.length
   ·rw [if_pos c,if_pos (by rw [o.len];exact c)]
    obtain⟨q,a,b⟩:=o.reach i c
    exact⟨q,by rw [<-ao0];exact a,fun q' hq=>apQ _ (b q' hq)⟩
   ·rw [if_neg c,if_pos (by omega),if_neg (by rw [o.len];omega),if_pos (by rw [o.len];omega)]
    exact⟨E,rfl,fun q' hq=>apQ _ (e2' q' hq)⟩
theorem agu {mask:Nat} (g:jy (mask+1)=true):∀ (l:List Int) (ow:Array (Option Nat)) (hs:List Int) (sl:List Nat),OwnT mask ow hs sl->hs.length+l.length<=mask+1 ->
  ∃ ow' sl',l.foldl (agt mask) (some (ow,hs.length))=some (ow',hs.length+l.length)/\OwnT mask ow' (hs++l) sl'
 | [],ow,hs,sl,o,_=>⟨ow,sl,rfl,by rw [apB];exact o⟩
 | h :: l,ow,hs,sl,o,hm=>by
  rw [aph] at hm
  obtain⟨ow1,sl1,e1,o1⟩:=aiZ g o (by omega) h
  obtain⟨ow2,sl2,e2,o2⟩:=agu g l ow1 (hs++[h]) sl1 o1 (by rw [api,apO];omega)
  refine⟨ow2,sl2,?_,by rw [aqQ] at o2;exact o2⟩
  rw [List.foldl_cons,e1]
  rw [api,apO] at e2
  rw [e2,aph,asi,Nat.add_comm 1]
theorem akQ (mask:Nat):OwnT mask (arN (mask+1) none) [] [] where
 size:=by simp
 len:=rfl
 nd:=.nil
 le:=fun _ h=>nomatch h
 own:=fun j hj i=>by
  have:(arN (mask+1) (none:Option Nat)).getD j none=none:=by simp [aqJ]
  rw [this]
  constructor <;> intro z <;> cases z
 reach:=fun i hi=>absurd hi (apZ _)
theorem ai0 {mask:Nat} (g:jy (mask+1)=true) (hs:Array Int) (hm:hs.size<=mask+1):∃ ow sl,layClean mask hs=some ow/\OwnT mask ow hs.toList sl:=by
 obtain⟨ow,sl,e,o⟩:=agu g hs.toList _ [] [] (akQ mask) (by simpa using hm)
 refine⟨ow,sl,?_,by simpa using o⟩
 unfold layClean
 rw [<-Array.foldl_toList]
 have:hs.toList.foldl (agt mask) (some (arN (mask+1) none,0))=some (ow,0+hs.toList.length):=e
 show Option.map _ (hs.toList.foldl (agt mask) (some (arN (mask+1) none,0)))=_
 rw [this]
 rfl
theorem laid_ok {mask:Nat} (mk:mask=7 \/ mask=31 \/ mask=127 \/ mask=511) (hs:Array Int) (hm:hs.size<=mask) (finger moves:Nat) (led plain:Bool) :
  ∃ t ord,laid mask finger moves led plain hs=some (t,ord)/\t.mask=mask/\t.plain=plain/\t.led=led/\ord.toList.Perm (apj hs.size)/\TB t (ord.toList.map fun i=>hs.toList.getD i 0):=by
 have g:jy (mask+1)=true:=by
  rcases mk with rfl | rfl | rfl | rfl
  ·exact agp
  ·exact aek
  ·exact acv
  ·exact acw
 obtain⟨ow,sl,e,o⟩:=ai0 g hs (by omega)
 let live:=(apj (mask+1)).filterMap fun j=>(ow.getD j none).map (j,·)
 have mem:∀ p:Nat×Nat,p∈live↔p.1<=mask/\sl[p.2]?=some p.1:=fun⟨j,i⟩=>by
  show (j,i)∈List.filterMap _ _↔_
  rw [aqH]
  constructor
  ·rintro⟨j',hj,e⟩
   have hj':=arL.mp (apr.mp hj)
   cases e2:ow.getD j' none with
   | none=>rw [e2] at e;cases e
   | some i' =>
    rw [e2] at e
    cases e
    exact⟨hj',(o.own _ hj' _).mp e2⟩
  ·rintro⟨h1,h2⟩
   refine⟨j,apr.mpr (by omega),?_⟩
   rw [(o.own j h1 i).mpr h2]
   rfl
 have up:(live.map (·.1)).Pairwise (·<·):=by
  rw [aqx]
  show (List.filterMap _ _).Pairwise _
  rw [List.pairwise_filterMap]
  refine List.pairwise_lt_range.imp fun {a b} hab p hp q hq=>?_
  cases e1:ow.getD a none with
  | none=>rw [e1] at hp;cases hp
  | some i =>
   cases e2:ow.getD b none with
   | none=>rw [e2] at hq;cases hq
   | some i2 =>
    rw [e1] at hp
    rw [e2] at hq
    cases hp
    cases hq
    exact hab
 have nd2:(live.map (·.2)).Nodup:=by
  show List.Pairwise _ _
  rw [aqx]
  have u2:=aqx.mp up
  refine u2.imp_of_mem fun {p q} hp hq hlt hz=>?_
  have a1:=((mem p).mp hp).2
  have a2:=((mem q).mp hq).2
  rw [hz,a2] at a1
  have:=Option.some.inj a1
  omega
 have pm:(live.map (·.2)).Perm (apj hs.size):=by
  refine (List.perm_ext_iff_of_nodup nd2 asq).mpr fun i=>?_
  have ls:sl.length=hs.size:=by rw [o.len,apf]
  constructor
  ·intro hi
   obtain⟨p,hp,rfl⟩:=apy.mp hi
   have:=(ao1.mp ((mem p).mp hp).2).1
   exact apr.mpr (by omega)
  ·intro hi
   have hi':=apr.mp hi
   have hl:i<sl.length:=by omega
   exact apy.mpr ⟨(sl[i],i),(mem _).mpr ⟨o.le _ (apu hl),aoW hl⟩,rfl⟩
 refine⟨_,_,by unfold laid;rw [e];rfl,rfl,rfl,rfl,pm,?_⟩
 have ln:live.length=hs.size:=by have:=pm.length_eq;rwa [aoX,apW] at this
 have tk:∀ j,j∈sl->∃ i,i<live.length/\(live.map (·.1)).getD i 0=j:=fun j hj=>by
  obtain⟨i,hi,e2⟩:=aqm hj
  have:(j,i)∈live:=(mem _).mpr ⟨o.le j hj,by rw [aoW hi,e2]⟩
  obtain⟨q,hq,e3⟩:=aqm this
  exact⟨q,hq,by rw [ao0,ao5,aoW hq,e3];rfl⟩
 have gd:∀ i,(live.map (·.1)).toArray.getD i 0=(live.map (·.1)).getD i 0:=fun i=>by rw [vS]
 refine⟨mk,rfl,fun i j hij hj=>?_,fun i hi=>?_,?_,?_,fun i hi=>?_⟩
 ·show (live.map (·.1)).toArray.getD i 0<(live.map (·.1)).toArray.getD j 0
  have hj':j<(live.map (·.1)).length:=by
   have h2:j<(live.map (·.1)).toArray.size:=hj
   rwa [ape] at h2
  rw [gd,gd,ao0,ao0,aoW hj',aoW (show i<(live.map (·.1)).length by omega)]
  exact aqs.mp up i j (by omega) hj' hij
 ·show (live.map (·.1)).toArray.getD i 0<=mask
  have hi':i<(live.map (·.1)).length:=by
   have h2:i<(live.map (·.1)).toArray.size:=hi
   rwa [ape] at h2
  rw [gd,ao0,aoW hi']
  obtain⟨p,hp,e2⟩:=apy.mp (apu hi')
  show (live.map (·.1))[i]<=mask
  rw [<-e2]
  exact ((mem p).mp hp).1
 ·show (live.map (·.1)).toArray.size=_
  simp
 ·show (asr _ (live.map (·.2))).length<=mask
  rw [aoX,aoX,ln]
  exact hm
 ·have hi':i<live.length:=by
   have hi2:i<(asr (fun i=>hs.toList.getD i 0) (live.map (·.2))).length:=hi
   rwa [aoX,aoX] at hi2
  have pl:(live.map (·.1)).toArray.getD i 0=live[i].1:=by
   rw [gd,ao0,ao5,aoW hi']
   rfl
  have hh:(asr (fun i=>hs.toList.getD i 0) (live.map (·.2))).getD i 0=hs.toList.getD live[i].2 0:=by
   rw [ao0,ao5,ao5,aoW hi']
   rfl
  have m2:=(mem live[i]).mp (apu hi')
  have l2:=(ao1.mp m2.2).1
  obtain⟨q,a,b⟩:=o.reach live[i].2 (by rw [<-o.len];exact l2)
  refine⟨q,?_,fun q' hq=>?_⟩
  ·show pos mask ((asr (fun i=>hs.toList.getD i 0) (live.map (·.2))).getD i 0) q=(live.map (·.1)).toArray.getD i 0
   rw [hh,pl,a,ao0,m2.2]
   rfl
  ·show Tk _ (pos mask ((asr (fun i=>hs.toList.getD i 0) (live.map (·.2))).getD i 0) q')
   rw [hh]
   obtain⟨z,hz,ez⟩:=tk _ (b q' hq)
   exact⟨z,by show z<(live.map (·.1)).toArray.size;simpa using hz,by show (live.map (·.1)).toArray.getD z 0=_;rw [gd];exact ez⟩
end L2.ST
end
section
namespace L2
open PySem PySem.Spec PyProof.Rows
mutual
def zw (w:World):PyData->Int
 | .int i=>hashInt i
 | .str x=>hashStr w x
 | .tuple xs=>reduceHash (aqt (qy w xs))
 | _=>0
def qy (w:World):List PyData->List Int
 | []=>[]
 | x :: xs=>zw w x :: qy w xs
end
mutual
def zZ:PyData->Nat
 | .int _=>1
 | .str _=>1
 | .tuple xs=>abv xs+1
 | _=>0
def abv:List PyData->Nat
 | []=>0
 | x :: xs=>zZ x+abv xs
end
mutual
theorem abw {P:Program} {w:World}:∀ (d:PyData) (A:Around) (s:Shared) (v:Value) (as:List Addr) (E:Value->Shared->Prop) (Q:Int->Shared->Prop),Reads s.heap v d as->zA d=true->A.units+4 * d.depth<cLine ->
  Q (zw w d) { s with toks:=s.toks+zZ d }->wpAny (model P w) A (pyHash v) Q E s
 | .int i,A,s,_,_,E,Q,r,_,_,q=>by
  cases r
  rw [zw,zZ] at q
  exact wpAny_pyHash_int q
 | .str x,A,s,_,_,E,Q,r,_,_,q=>by
  cases r
  rw [zw,zZ] at q
  exact wpAny_pyHash_str q
 | .tuple xs,A,s,_,_,E,Q,r,p,hu,q=>by
  cases r with
  | @tuple a o vs n _ as h1 h2 h3 h4 =>
   rw [zA] at p
   rw [zw,zZ] at q
   have hT:s.TypeIs (.ref a) "tuple":=⟨o,h1,h2⟩
   have e1:(PyData.tuple xs).depth=apb xs+1:=rfl
   rw [e1] at hu
   show wpAny _ A (pyHashByItsType (.ref a)) Q E s
   unfold pyHashByItsType
   apply wpAny_bind;apply wpAny_cRoomFor_or (.inr (by omega))
   apply wpAny_bind;apply wpAny_specialOf hT aqk.lookup
   show wpAny _ _ (if (some (Value.builtin "tuple.__hash__") == some Value.none)=true then _ else _) Q E s
   rw [if_neg (by rw [beq_builtin_none];exact aoY)]
   apply wpAny_bind;apply wpAny_specialOf hT aqk.lookup
   show wpAny _ _ (callSpecialIfBoundUnlessNone? (.ref a) "__hash__" _ >>= _) Q E s
   apply wpAny_bind
   refine wpAny_callSpecialIfBoundUnlessNone?_slot hT aqk (wpAny_call_entry aqk hT PySem.F.entry_tuple_hash ?_ (PySem.F.args_tuple_hash_1 _))
   show wpAny _ _ (Builtin.Tuple.tupleItemsOf (.ref a) >>= _) _ _ s
   apply wpAny_bind;apply wpAny_tupleItemsOf h1 h3
   apply wpAny_bind
   rw [<-ard]
   have hu1:A.in1.units=A.units+1:=rfl
   refine abx xs A.in1 s vs.toList _ #[] _ _ h4 p (by omega) ?_
   simp only [apB,List.nil_append]
   show wpAny _ _ (retInt (aqt (#[]++(qy w xs).toArray).toList)) _ _ _
   rw [show (#[]++(qy w xs).toArray:Array Int).toList=qy w xs by simp]
   refine wpAny_ret_mkInt ?_
   show wpAny _ _ (pyHashByItsType.reduced _) Q E _
   unfold reduceHash at q
   unfold pyHashByItsType.reduced
   by_cases hr:(decide (-(2:Int) ^ 63<=aqt (qy w xs)) && decide (aqt (qy w xs)<2 ^ 63))=true
   ·rw [if_pos hr] at q ⊢
    exact wpAny_pure (by simpa [asi] using q)
   ·rw [if_neg hr] at q ⊢
    exact wpAny_bind (wpAny_rule (wpAny_pure (by simpa [asi] using q)))
 | .none,_,_,_,_,_,_,_,h,_,_=>by cases h
 | .bool _,_,_,_,_,_,_,_,h,_,_=>by cases h
 | .list _,_,_,_,_,_,_,_,h,_,_=>by cases h
 | .dict _,_,_,_,_,_,_,_,h,_,_=>by cases h
theorem abx {P:Program} {w:World}:∀ (xs:List PyData) (A:Around) (s:Shared) (vs:List Value) (as:List Addr) (acc:Array Int) (E:Value->Shared->Prop) (Q:Array Int->Shared->Prop),ReadsAll s.heap vs xs as->zK xs=true->A.units+4 * apb xs<cLine ->
  Q (acc++(qy w xs).toArray) { s with toks:=s.toks+abv xs }->wpAny (model P w) A (forIn vs acc fun x r=>do
   let h <- pyHash x
   pure (ForInStep.yield (r.push h))) Q E s
 | [],A,s,_,_,acc,E,Q,r,_,_,q=>by
  cases r
  rw [ark]
  rw [qy,abv] at q
  exact wpAny_pure (by simpa using q)
 | x :: xs,A,s,_,_,acc,E,Q,r,p,hu,q=>by
  cases r with
  | cons r1 r2 =>
   rw [zK,ao8] at p
   rw [qy,abv] at q
   have e1:apb (x :: xs)=max x.depth (apb xs):=rfl
   rw [e1] at hu
   rw [arc]
   apply wpAny_bind;apply wpAny_bind
   refine abw x A s _ _ _ _ r1 p.1 (by omega) (wpAny_pure ?_)
   refine abx xs A { s with toks:=s.toks+zZ x } _ _ _ _ _ r2 p.2 (by omega) ?_
   have e2:acc.push (zw w x)++(qy w xs).toArray=acc++(zw w x :: qy w xs).toArray:=by simp
   rw [e2]
   rw [<-asi] at q
   exact q
end
mutual
theorem jH {P:Program} {w:World}:∀ (d:PyData) (n:Nat) (A:Around) (s:Shared) (v:Value) (as:List Addr) (E:Value->Shared->Prop) (Q:Bool->Shared->Prop),Reads s.heap v d as->zA d=true->d.depth<=n->Q true s->wpAny (model P w) A (eqIsQuiet n v) Q E s
 | .int i,n,A,s,_,_,E,Q,r,_,_,q=>by
  cases r
  rw [eqIsQuiet_byValue n rfl]
  exact wpAny_pure q
 | .str x,n,A,s,_,_,E,Q,r,_,_,q=>by
  cases r
  rw [eqIsQuiet_byValue n rfl]
  exact wpAny_pure q
 | .tuple xs,n,A,s,_,_,E,Q,r,p,hn,q=>by
  cases r with
  | @tuple a o vs n' _ as h1 h2 h3 h4 =>
   rw [zA] at p
   have e1:(PyData.tuple xs).depth=apb xs+1:=rfl
   rw [e1] at hn
   obtain⟨m,rfl⟩:∃ m,n=m+1:=⟨n - 1,by omega⟩
   have hT:s.TypeIs (.ref a) "tuple":=⟨o,h1,h2⟩
   unfold eqIsQuiet
   apply wpAny_bind;apply wpAny_specialOf hT PySem.F.slot_tuple_eq.lookup
   show wpAny _ _ (isInstance (.ref a) (.type "tuple") >>= _) _ _ s
   apply wpAny_bind;apply wpAny_isInstance hT isSubtype_tuple_tuple
   simp only [apJ,apI,if_false]
   apply wpAny_bind;apply wpAny_seqItems h1 h3
   apply wpAny_bind
   show wpAny _ _ (forIn vs _ _) _ _ s
   rw [<-ard]
   exact aaL xs m A s _ _ _ _ h4 p (by omega) (wpAny_pure q)
 | .none,_,_,_,_,_,_,_,_,h,_,_=>by cases h
 | .bool _,_,_,_,_,_,_,_,_,h,_,_=>by cases h
 | .list _,_,_,_,_,_,_,_,_,h,_,_=>by cases h
 | .dict _,_,_,_,_,_,_,_,_,h,_,_=>by cases h
theorem aaL {P:Program} {w:World}:∀ (xs:List PyData) (m:Nat) (A:Around) (s:Shared) (vs:List Value) (as:List Addr) (E:Value->Shared->Prop) (Q:Option Bool×Unit->Shared->Prop),ReadsAll s.heap vs xs as->zK xs=true->apb xs<=m->Q (none,()) s ->
  wpAny (model P w) A (forIn vs ((none,()):Option Bool×Unit) fun y _=>do
   let b <- eqIsQuiet m y
   if (!b)=true then pure (ForInStep.done (some false,())) else pure (ForInStep.yield (none,()))) Q E s
 | [],m,A,s,_,_,E,Q,r,_,_,q=>by
  cases r
  rw [ark]
  exact wpAny_pure q
 | x :: xs,m,A,s,_,_,E,Q,r,p,hn,q=>by
  cases r with
  | cons r1 r2 =>
   rw [zK,ao8] at p
   have e1:apb (x :: xs)=max x.depth (apb xs):=rfl
   rw [e1] at hn
   rw [arc]
   apply wpAny_bind;apply wpAny_bind
   refine jH x m A s _ _ _ _ r1 p.1 (by omega) ?_
   simp only [apJ,apI,if_false]
   exact wpAny_pure (aaL xs m A s _ _ _ _ r2 p.2 (by omega) q)
end
mutual
theorem aat {P:Program} {w:World}:∀ (d:PyData) (n:Nat) (A:Around) (s:Shared) (v:Value) (as:List Addr) (E:Value->Shared->Prop) (Q:Bool->Shared->Prop),Reads s.heap v d as->zA d=true->d.depth<=n->Q false s->wpAny (model P w) A (ofAClassStatement n v) Q E s
 | .int i,n,A,s,_,_,E,Q,r,_,_,q=>by
  cases r
  unfold ofAClassStatement
  exact wpAny_pure q
 | .str x,n,A,s,_,_,E,Q,r,_,_,q=>by
  cases r
  unfold ofAClassStatement
  exact wpAny_pure q
 | .tuple xs,n,A,s,_,_,E,Q,r,p,hn,q=>by
  cases r with
  | @tuple a o vs n' _ as h1 h2 h3 h4 =>
   rw [zA] at p
   have e1:(PyData.tuple xs).depth=apb xs+1:=rfl
   rw [e1] at hn
   obtain⟨m,rfl⟩:∃ m,n=m+1:=⟨n - 1,by omega⟩
   have hT:s.TypeIs (.ref a) "tuple":=⟨o,h1,h2⟩
   unfold ofAClassStatement
   apply wpAny_bind;apply wpAny_typeOf hT
   dsimp only
   rw [if_pos (show ("tuple" == "tuple")=true from rfl)]
   apply wpAny_bind;apply wpAny_pure
   simp only [apJ,apI,if_false]
   apply wpAny_bind;apply wpAny_seqItems h1 h3
   dsimp only
   apply wpAny_bind
   rw [<-ard]
   exact acx xs m A s _ _ _ _ h4 p (by omega) (wpAny_pure q)
 | .none,_,_,_,_,_,_,_,_,h,_,_=>by cases h
 | .bool _,_,_,_,_,_,_,_,_,h,_,_=>by cases h
 | .list _,_,_,_,_,_,_,_,_,h,_,_=>by cases h
 | .dict _,_,_,_,_,_,_,_,_,h,_,_=>by cases h
theorem acx {P:Program} {w:World}:∀ (xs:List PyData) (m:Nat) (A:Around) (s:Shared) (vs:List Value) (as:List Addr) (E:Value->Shared->Prop) (Q:Option Bool×Unit->Shared->Prop),ReadsAll s.heap vs xs as->zK xs=true->apb xs<=m->Q (none,()) s ->
  wpAny (model P w) A (forIn vs ((none,()):Option Bool×Unit) fun y _=>do
   let b <- ofAClassStatement m y
   if b=true then pure (ForInStep.done (some true,())) else pure (ForInStep.yield (none,()))) Q E s
 | [],m,A,s,_,_,E,Q,r,_,_,q=>by
  cases r
  rw [ark]
  exact wpAny_pure q
 | x :: xs,m,A,s,_,_,E,Q,r,p,hn,q=>by
  cases r with
  | cons r1 r2 =>
   rw [zK,ao8] at p
   have e1:apb (x :: xs)=max x.depth (apb xs):=rfl
   rw [e1] at hn
   rw [arc]
   apply wpAny_bind;apply wpAny_bind
   refine aat x m A s _ _ _ _ r1 p.1 (by omega) ?_
   simp only [apI,if_false]
   exact wpAny_pure (acx xs m A s _ _ _ _ r2 p.2 (by omega) q)
end
mutual
theorem aaM {P:Program} {w:World}:∀ (d:PyData) (n:Nat) (A:Around) (s:Shared) (v:Value) (as:List Addr) (E:Value->Shared->Prop) (Q:Bool->Shared->Prop),Reads s.heap v d as->zA d=true->(∀ b,Q b s)->wpAny (model P w) A (hashByValue n v) Q E s
 | .int i,n,A,s,_,_,E,Q,r,_,q=>by
  cases r
  unfold hashByValue
  exact wpAny_pure (q _)
 | .str x,n,A,s,_,_,E,Q,r,_,q=>by
  cases r
  unfold hashByValue
  exact wpAny_pure (q _)
 | .tuple xs,n,A,s,_,_,E,Q,r,p,q=>by
  cases r with
  | @tuple a o vs n' _ as h1 h2 h3 h4 =>
   rw [zA] at p
   have hT:s.TypeIs (.ref a) "tuple":=⟨o,h1,h2⟩
   cases n with
   | zero =>
    unfold hashByValue
    exact wpAny_pure (q _)
   | succ m =>
    unfold hashByValue
    apply wpAny_bind;apply wpAny_specialOf hT aqk.lookup
    show wpAny _ _ (seqItems? (.ref a) >>= _) _ _ s
    apply wpAny_bind;apply wpAny_seqItems h1 h3
    apply wpAny_bind
    show wpAny _ _ (forIn vs _ _) _ _ s
    rw [<-ard]
    exact aaN xs m A s _ _ _ _ h4 p (wpAny_pure (q _)) fun b=>wpAny_pure (q b)
 | .none,_,_,_,_,_,_,_,_,h,_=>by cases h
 | .bool _,_,_,_,_,_,_,_,_,h,_=>by cases h
 | .list _,_,_,_,_,_,_,_,_,h,_=>by cases h
 | .dict _,_,_,_,_,_,_,_,_,h,_=>by cases h
theorem aaN {P:Program} {w:World}:∀ (xs:List PyData) (m:Nat) (A:Around) (s:Shared) (vs:List Value) (as:List Addr) (E:Value->Shared->Prop) (Q:Option Bool×Unit->Shared->Prop),ReadsAll s.heap vs xs as->zK xs=true->Q (none,()) s->(∀ b,Q (some b,()) s) ->
  wpAny (model P w) A (forIn vs ((none,()):Option Bool×Unit) fun y _=>do
   let b <- hashByValue m y
   if (!b)=true then pure (ForInStep.done (some false,())) else pure (ForInStep.yield (none,()))) Q E s
 | [],m,A,s,_,_,E,Q,r,_,q,_=>by
  cases r
  rw [ark]
  exact wpAny_pure q
 | x :: xs,m,A,s,_,_,E,Q,r,p,q,q2=>by
  cases r with
  | cons r1 r2 =>
   rw [zK,ao8] at p
   rw [arc]
   apply wpAny_bind;apply wpAny_bind
   refine aaM x m A s _ _ _ _ r1 p.1 fun b=>?_
   cases b with
   | true =>
    simp only [apJ,apI,if_false]
    exact wpAny_pure (aaN xs m A s _ _ _ _ r2 p.2 q q2)
   | false =>
    simp only [aqE,if_true]
    exact wpAny_pure (wpAny_pure (q2 false))
end
noncomputable instance decPy:DecidableEq PyData:=fun a b=>apX _
structure KeyAt (h:Heap) (d:PyData) (a:Addr):Prop where
 rd:∃ as,Reads h (.ref a) d as
 pl:zA d=true
 dp:d.depth<=8
theorem KeyAt.keep {h h':Heap} {d:PyData} {a:Addr} (x:KeyAt h d a) (k:∀ b o,h.get? b=some o->(∀ es ep,o.data≠.dict es ep)->(∀ es ep t,o.data≠.set es ep t)->h'.get? b=some o):KeyAt h' d a:=by
 obtain⟨⟨as,r⟩,p,q⟩:=x
 refine⟨?_,p,q⟩
 have go:(∀ (d:PyData) (v:Value) (as:List Addr),Reads h v d as->zA d=true->Reads h' v d as):=by
  intro d v as r
  refine Reads.rec (motive_1:=fun v d as _=>zA d=true->Reads h' v d as) (motive_2:=fun vs ds as _=>zK ds=true->ReadsAll h' vs ds as) ?_ ?_ ?_ ?_ ?_ ?_ ?_ ?_ ?_ r
  ·intro p;cases p
  ·intro b p;cases p
  ·intro i t p;exact .int i t
  ·intro x t p;exact .str x t
  ·intro a o vs n xs as h1 h2 h3 h4 ih p;cases p
  ·intro a o vs n xs as h1 h2 h3 h4 ih p
   rw [zA] at p
   exact .tuple (k a o h1 (fun es ep z=>by rw [h3] at z;cases z) (fun es ep t z=>by rw [h3] at z;cases z)) h2 h3 (ih p)
  ·intros;rename_i p;cases p
  ·intro p;exact .nil
  ·intro v vs d ds as bs r rs ih1 ih2 p
   rw [zK,ao8] at p
   exact .cons (ih1 p.1) (ih2 p.2)
 exact⟨as,go d _ as r p⟩
noncomputable def aaZ (P:Program) (w:World):HeapKind P w PyData where
 is:=KeyAt
 hash:=zw w
 draws:=zZ
 room:=fun A=>A.units+40<cLine
 inj:=fun {h a x y} hx hy=>by
  obtain⟨⟨as,r⟩,p,_⟩:=hx
  obtain⟨⟨bs,r'⟩,p',_⟩:=hy
  exact SeqAt.Reads.unique _ _ _ _ _ (yE x p) r r'
 keeps:=fun {h h' k a d o es ep} x ho hd sb=>x.keep fun b u hb n1 n2=>by
  have:b≠d:=fun z=>by
   rw [z,ho] at hb
   cases hb
   exact n1 es ep hd
  exact (sb.2 b this).trans hb
 pyHash:=fun {A E s k a Q} hu x q=>by
  obtain⟨⟨as,r⟩,p,hd⟩:=x
  exact abw k A s _ as E Q r p (by omega) q
 eqBool:=fun {A E s x y a b Q} hu hx hy q=>by
  obtain⟨⟨as,r⟩,p,hd⟩:=hx
  obtain⟨⟨bs,r'⟩,p',hd'⟩:=hy
  refine SeqAt.eqAt_reads x y A s _ _ _ _ r r' (yE x p) (yE y p') (by omega) P w E Q ?_
  have:apD x y=decide (x=y):=by
   by_cases e:x=y
   ·rw [decide_eq_true e];exact (aaY p p').mpr e
   ·rw [decide_eq_false e]
    cases z:apD x y with
    | false=>rfl
    | true=>exact absurd ((aaY p p').mp z) e
  rw [this]
  exact q
 quiet:=fun {A E s k a Q} x q=>by
  obtain⟨⟨as,r⟩,p,hd⟩:=x
  exact jH k 8 A s _ as E Q r p hd q
end L2
end
section
namespace L2
open PySem PySem.Spec PyProof.Rows PySem.SetTable
section
variable {P:Program} {w:World} {A:Around} {E:Value->Shared->Prop} {s:Shared}
theorem akR {b:Addr} {d:PyData} {Q:Bool->Shared->Prop} (kb:KeyAt s.heap d b):∀ l:List Value,(∀ y∈l,∃ d' b',y=.ref b'/\KeyAt s.heap d' b')->Q false s->wpAny (model P w) A (searchCouldBeSeen (.ref b) l) Q E s:=by
 intro l hl q
 unfold searchCouldBeSeen
 apply wpAny_bind
 refine wpAny_forIn_list _ (fun rest r s'=>r=(none,())/\s'=s/\∀ y∈rest,y∈l) _ ?_ ?_ _ _ ⟨rfl,rfl,fun _ h=>h⟩
 ·rintro y rest r s' ⟨rfl,rfl,hm⟩
  obtain⟨d',b',rfl,kb'⟩:=hl y (hm y apa)
  obtain⟨⟨as,rd⟩,pd,dd⟩:=id kb
  obtain⟨⟨bs,rd'⟩,pd',dd'⟩:=id kb'
  have more:∀ z∈rest,z∈l:=fun z hz=>hm z (ao3 _ hz)
  dsimp only
  split
  ·exact wpAny_pure ⟨rfl,rfl,more⟩
  ·apply wpAny_bind
   refine jH d 8 A _ _ as _ _ rd pd dd ?_
   simp only [apJ,apI,if_false]
   apply wpAny_bind
   refine jH d' 8 A _ _ bs _ _ rd' pd' dd' ?_
   simp only [apJ,apI,if_false]
   apply wpAny_bind
   refine aat d 8 A _ _ as _ _ rd pd dd ?_
   simp only [apI,if_false]
   apply wpAny_bind
   refine aat d' 8 A _ _ bs _ _ rd' pd' dd' ?_
   simp only [apI,if_false]
   exact wpAny_pure ⟨rfl,rfl,more⟩
 ·rintro r s' ⟨rfl,rfl,_⟩
  exact wpAny_pure q
structure SetObj (w:World) (h:Heap) (a:Addr) (xs:List (PyData×Addr)) (o:Obj) (es:Array (Int×Value)) (ep:Nat) (t:SetTable):Prop where
 ob:h.get? a=some o
 ex:o.ExactSet
 da:o.data=.set es ep t
 el:es.toList=xs.map fun x=>(zw w x.1,Value.ref x.2)
 ok:ST.TOk t (xs.map fun x=>zw w x.1)
theorem SetObj.size {h:Heap} {a:Addr} {xs:List (PyData×Addr)} {o:Obj} {es:Array (Int×Value)} {ep:Nat} {t:SetTable} (x:SetObj w h a xs o es ep t):es.size=xs.length:=by
 rw [<-apf,x.el,aoX]
theorem SetObj.fits {h:Heap} {a:Addr} {xs:List (PyData×Addr)} {o:Obj} {es:Array (Int×Value)} {ep:Nat} {t:SetTable} (x:SetObj w h a xs o es ep t):t.fits es.size=true:=by
 unfold SetTable.fits as2
 have h1:=x.ok.size
 have h2:=x.ok.most
 rw [aoX] at h1 h2
 rw [x.size,h1,x.ok.dum]
 simp
 exact h2
theorem SetObj.at {h:Heap} {a:Addr} {xs:List (PyData×Addr)} {o:Obj} {es:Array (Int×Value)} {ep:Nat} {t:SetTable} (x:SetObj w h a xs o es ep t) {i:Nat} (hi:i<xs.length):es[i]?=some (zw w xs[i].1,Value.ref xs[i].2):=by
 rw [<-ary,x.el,ao5,aoW hi]
 rfl
theorem ai1 {t:SetTable} {hs:List Int} (o:ST.TOk t hs):t.gaveWay=false:=by
 unfold SetTable.gaveWay
 rcases o.mask with e | e | e | e <;> rw [e] <;> rfl
theorem ai2 {α:Type} {M:Model} {c:Bool} {m:Sem Bool} {u:Sem Unit} {r:Sem α} {Q:α->Shared->Prop} (hr:wpAny M A r Q E s) (hm:∀ R:Bool->Shared->Prop,R false s->wpAny M A m R E s) :
  wpAny M A (if c=true then (do
   let b <- m
   if b=true then do
    u
    r
   else r) else r) Q E s:=by
 cases c with
 | false=>rw [if_neg aoY];exact hr
 | true =>
  rw [if_pos rfl]
  apply wpAny_bind
  refine hm _ ?_
  rw [if_neg aoY]
  exact hr
theorem aen {M:Model} {a:Addr} {Q:Bool->Shared->Prop} (q:Q true s):wpAny M A (isSame (.ref a) (.ref a)) Q E s:=by
 unfold isSame
 simp only [beq_self_eq_true]
 exact wpAny_pure q
theorem aau {a b:Addr} {d:PyData} {xs:List (PyData×Addr)} {o:Obj} {es:Array (Int×Value)} {ep:Nat} {t:SetTable} {adding:Bool} {Q:SetFound->Shared->Prop} (S:SetObj w s.heap a xs o es ep t) (ks:∀ x∈xs,KeyAt s.heap x.1 x.2)
  (kb:KeyAt s.heap d b) (hu:A.units+40<cLine) {F:Nat} (hF:ST.First t (zw w d) F) (yes:d∈xs.map (·.1)->∀ r:Option Nat,(adding=false->r.isSome=true)->Q (.there r) s) (no:d∉xs.map (·.1)->Q (.free (ST.pos t.mask (zw w d) F) false) s) :
  ∀ f k stand,k<=F->F<k+f->stand.getD (t.probeStart (zw w d))=ST.road t.mask (zw w d) k ->
   (∀ q i,q<k->i<xs.length->ST.pos t.mask (zw w d) q=t.place.getD i 0->(xs.getD i (.none,0)).1≠d) ->
   wpAny (model P w) A (setSearchFrom a (.ref b) (zw w d) adding f stand) Q E s
 | 0,k,stand,h1,h2,_,_=>by omega
 | f+1,k,stand,h1,h2,hst,past=>by
  have sz:=S.ok.size
  rw [aoX] at sz
  have key:∀ g:Nat->Int,(∀ i,g i=(es[i]?.map (·.1)).getD 0) ->
    (t.probe g (zw w d) (ST.road t.mask (zw w d) k)=some (.empty (ST.pos t.mask (zw w d) F) none)/\∀ q i,k<=q->q<F->i<t.place.size->ST.pos t.mask (zw w d) q=t.place.getD i 0->g i≠zw w d) \/
    ∃ q i,k<=q/\q<F/\i<t.place.size/\ST.pos t.mask (zw w d) q=t.place.getD i 0/\g i=zw w d/\t.probe g (zw w d) (ST.road t.mask (zw w d) k)=some (.candidate (ST.pos t.mask (zw w d) q) i (ST.road t.mask (zw w d) (q+1)))/\∀ q' i',k<=q'->q'<q->i'<t.place.size->ST.pos t.mask (zw w d) q'=t.place.getD i' 0->g i'≠zw w d :=
   fun g _=>ST.probe_go S.ok.dum S.ok.rise hF (10 * turns t.mask) k h1 (by have:=hF.lt;omega)
  have gat:∀ i (hi:i<xs.length),(es[i]?.map (·.1)).getD 0=zw w xs[i].1:=fun i hi=>by rw [S.at hi];rfl
  unfold setSearchFrom
  apply wpAny_bind
  refine wpAny_setState_of S.ob S.da S.fits ?_
  dsimp only
  rw [ai1 S.ok,if_neg aoY,hst]
  have reach:∀ i (hi:i<xs.length),xs[i].1=d->∃ q,q<F/\ST.pos t.mask (zw w d) q=t.place.getD i 0:=fun i hi ed=>by
   obtain⟨q,a1,a2⟩:=S.ok.reach i (by rw [aoX];exact hi)
   have eh:(xs.map fun x=>zw w x.1).getD i 0=zw w d:=by
    rw [ao0,ao5,aoW hi,<- ed]
    rfl
   rw [eh] at a1 a2
   refine⟨q,?_,a1⟩
   by_cases c:q<F
   ·exact c
   ·by_cases c2:q=F
    ·subst c2
     exact absurd ⟨i,by omega,a1.symm⟩ hF.free
    ·exact absurd (a2 F (by omega)) hF.free
  have ggd:∀ i (hi:i<xs.length),xs.getD i (.none,0)=xs[i]:=fun i hi=>by rw [ao0,aoW hi];rfl
  rcases key (fun i=>(es[i]?.map (·.1)).getD 0) (fun i=>rfl) with⟨e,none_⟩ | ⟨q,i,q1,q2,q3,q4,q5,e,none_⟩
  ·have ee:∀ g:Nat->Int,(∀ i,g i=(es[i]?.map (·.1)).getD 0)->t.probe g (zw w d) (ST.road t.mask (zw w d) k)=some (.empty (ST.pos t.mask (zw w d) F) none):=fun g hg=>by
    rw [show g=fun i=>(es[i]?.map (·.1)).getD 0 from funext hg]
    exact e
   rw [ee]
   rotate_left
   ·exact fun i=>rfl
   dsimp only
   refine wpAny_pure (no fun hd=>?_)
   obtain⟨x,hx,ex⟩:=apy.mp hd
   obtain⟨i,hi,ei⟩:=aqm hx
   have ed:xs[i].1=d:=by rw [ei];exact ex
   obtain⟨q,qF,qp⟩:=reach i hi ed
   by_cases c:q<k
   ·exact past q i c hi qp (by rw [ggd i hi];exact ed)
   ·exact none_ q i (by omega) qF (by omega) qp (by rw [gat i hi,ed])
  ·have ee:∀ g:Nat->Int,(∀ i,g i=(es[i]?.map (·.1)).getD 0)->t.probe g (zw w d) (ST.road t.mask (zw w d) k)=some (.candidate (ST.pos t.mask (zw w d) q) i (ST.road t.mask (zw w d) (q+1))):=fun g hg=>by
    rw [show g=fun i=>(es[i]?.map (·.1)).getD 0 from funext hg]
    exact e
   have hi:i<xs.length:=by omega
   have mi:xs[i]∈xs:=apu hi
   have ki:=ks _ mi
   rw [ee]
   rotate_left
   ·exact fun i=>rfl
   dsimp only
   refine ai2 ?_ fun R hR=>akR kb _ (fun y hy=>?_) hR
   rotate_left
   ·obtain⟨p,hp,rfl⟩:=apy.mp hy
    have hp2:p∈es.toList:=by
     have:=arH.mp hp
     exact arH.mpr (Array.mem_filter.mp this).1
    rw [S.el] at hp2
    obtain⟨x,hx,rfl⟩:=apy.mp hp2
    exact⟨x.1,x.2,rfl,ks x hx⟩
   rw [S.at hi]
   dsimp only
   apply wpAny_bind;apply wpAny_holding
   refine (aaZ P w).eqBool (A:=A) hu ki kb ?_
   apply wpAny_bind
   refine wpAny_setState_of S.ob S.da S.fits ?_
   dsimp only
   have same:t.sameMemory t.moves t.mask=some true:=by
    unfold SetTable.sameMemory
    rw [if_pos (beq_self_eq_true _)]
   have live:t.slot (ST.pos t.mask (zw w d) q)=.live i:=by rw [q4];exact ST.slot_live S.ok.rise q3
   by_cases ed:xs[i].1=d
   ·have y2:=yes (apy.mpr ⟨_,mi,ed⟩)
    rw [decide_eq_true ed]
    cases adding with
    | true=>exact wpAny_pure (y2 _ fun z=>nomatch z)
    | false =>
     rw [aqT,if_neg aoY,same]
     dsimp only
     rw [if_pos rfl,live]
     dsimp only
     rw [S.at hi]
     dsimp only
     apply wpAny_bind
     refine aen ?_
     apply wpAny_bind;apply wpAny_pure
     rw [if_pos rfl]
     dsimp only
     rw [if_pos rfl]
     exact wpAny_pure (y2 _ fun _=>rfl)
   ·rw [decide_eq_false ed,aqY,if_neg aoY,same]
    dsimp only
    rw [if_pos rfl,live]
    dsimp only
    rw [S.at hi]
    dsimp only
    apply wpAny_bind
    refine aen ?_
    apply wpAny_bind;apply wpAny_pure
    rw [if_pos rfl]
    dsimp only
    rw [if_neg aoY]
    refine aau S ks kb hu hF yes no f (q+1) _ (by omega) (by omega) rfl fun q' i' c1 c2 c3=>?_
    rw [ggd i' c2]
    intro z
    by_cases c4:q'<k
    ·exact past q' i' c4 c2 c3 (by rw [ggd i' c2];exact z)
    ·by_cases c5:q'=q
     ·subst c5
      have ii:i'=i:=by
       have b1:=ST.below_at S.ok.rise (i:=i) (by omega)
       have b2:=ST.below_at S.ok.rise (i:=i') (by omega)
       rw [<-q4] at b1
       rw [<-c3] at b2
       omega
      subst ii
      exact ed z
     ·exact none_ q' i' (by omega) (by omega) (by omega) c3 (by rw [gat i' c2,z])
end
end L2
end
section
namespace L2
open PySem PySem.Spec PyProof.Rows PySem.SetTable
section
variable {P:Program} {w:World} {A:Around} {E:Value->Shared->Prop} {s:Shared} {a b:Addr} {d:PyData} {xs:List (PyData×Addr)} {o:Obj} {es:Array (Int×Value)} {ep:Nat} {t:SetTable}
theorem SetObj.type (S:SetObj w s.heap a xs o es ep t):s.TypeIs (.ref a) "set":=⟨o,S.ob,S.ex.1⟩
theorem agv (b:Addr) (es:Array (Int×Value)):byScan (.ref b) es=false:=rfl
theorem aeo {Q:Bool->Shared->Prop} (S:SetObj w s.heap a xs o es ep t) (ks:∀ x∈xs,KeyAt s.heap x.1 x.2) (kb:KeyAt s.heap d b) (hu:A.units+60<cLine) (q:Q (decide (d∈xs.map (·.1))) { s with toks:=s.toks+zZ d }) :
  wpAny (model P w) A (contains (.ref a) (.ref b)) Q E s:=by
 obtain⟨F,hF⟩:=ST.first_of S.ok.toTB (zw w d)
 have hl:=hF.lt
 have ht:turns t.mask<=526:=by
  unfold turns
  rcases S.ok.mask with e | e | e | e <;> omega
 unfold contains
 try with_reducible refine wpAny_holding ?_
 apply wpAny_bind;apply wpAny_specialOf S.type aq3.lookup
 show wpAny _ _ (if (some (Value.builtin "set.__contains__") == some Value.none)=true then _ else _) _ E s
 rw [if_neg (by rw [beq_builtin_none];exact aoY)]
 apply wpAny_bind
 refine wpAny_callSpecialUnlessNone?_slot (name:=arl "__contains__") S.type aq3 (wpAny_call_entry aq3 S.type entry_set_contains ?_ (PySem.F.args_set_contains_2 _ _))
 unfold Builtin.«frozenset.__contains__» arY
 simp only [List.isEmpty_nil,bind_assoc]
 unfold asj Builtin.Frozenset.withSetAsKey setContains
 apply wpAny_bind;apply wpAny_pure
 dsimp only
 apply wpAny_bind;apply wpAny_pure
 dsimp only
 apply wpAny_bind;apply wpAny_tryCatch;apply wpAny_holding
 apply wpAny_bind
 have hu1:A.in1.units=A.units+1:=rfl
 have hu2:A.in1.in1.units=A.units+1+1:=rfl
 refine (aaZ P w).pyHash (by show _+40<cLine;omega) kb ?_
 apply wpAny_bind
 unfold setFind setFindIn
 apply wpAny_bind
 refine wpAny_setState_of (s:={ s with toks:=s.toks+zZ d }) S.ob S.da S.fits ?_
 dsimp only
 rw [agv,if_neg aoY]
 apply wpAny_bind
 unfold setSearch
 have fin:∀ r:Option Nat,r.isSome=decide (d∈xs.map (·.1))->∀ R:Value->Shared->Prop,R (.bool (decide (d∈xs.map (·.1)))) { s with toks:=s.toks+zZ d }->R (.bool r.isSome) { s with toks:=s.toks+zZ d }:=fun r e R hR=>by rw [e];exact hR
 refine aau (s:={ s with toks:=s.toks+zZ d }) (adding:=false) S ks kb (by omega) hF (fun hd r hr=>?_) (fun hd=>?_) 100000 0 none (apC _) (by omega) (ST.road_start t _) (fun q i c=>by omega)
 ·refine wpAny_pure (wpAny_pure ?_)
  show wpAny _ _ (ret (Value.bool r.isSome)) _ _ _
  rw [hr rfl]
  rw [decide_eq_true hd] at q
  exact wpAny_pure ⟨_,rfl,wpAny_truthy_bool q⟩
 ·refine wpAny_pure (wpAny_pure ?_)
  show wpAny _ _ (ret (Value.bool false)) _ _ _
  rw [decide_eq_false hd] at q
  exact wpAny_pure ⟨_,rfl,wpAny_truthy_bool q⟩
def agw (es:Array (Int×Value)) (laid:Option (SetTable×Array Nat)):Sem (Array (Int×Value)×SetTable):=do
 let some (t,order):=laid | unsupported "internal:set-table-without-room"
 let es':=order.filterMap (es[·]?)
 if es'.size != es.size then unsupported "internal:set-table-lost-an-element"
 pure (es',t)
theorem ai3 (a:Addr) (wanted:Nat):setRelay a wanted=(do
  let (es,_,t) <- setState a
  if arZ wanted > sizeLine then unsupported "set:memory"
  let (es,t) <- agw es (t.relaid (es.map (·.1)) wanted)
  storeSet a es t):=rfl
theorem vk {α:Type} (es:Array α):∀ l:List Nat,(∀ i∈l,i<es.size)->∀ dflt:α,l.filterMap (fun i=>es[i]?)=l.map fun i=>es.toList.getD i dflt
 | [],_,_=>rfl
 | i :: l,h,dflt=>by
  have hi:=h i apa
  rw [aqd,ar2 hi,apq,vk es l (fun j hj=>h j (ao3 _ hj)) dflt]
  simp [hi]
theorem ai4 {Q:Unit->Shared->Prop} {mask wanted:Nat} (S0:s.heap.get? a=some o) (ex:o.ExactSet) (da:o.data=.set es ep t) (el:es.toList=xs.map fun x=>(zw w x.1,Value.ref x.2)) (tb:ST.TB t (xs.map fun x=>zw w x.1)) (mk:mask=31 \/ mask=127 \/ mask=511) (hw:arZ wanted=mask+1)
  (room:xs.length * 5<mask * 3) (q:∀ xs' o' es' ep' t' h',xs'.Perm xs->aqG a s.heap h'->SetObj w h' a xs' o' es' ep' t'->Q () { s with heap:=h' }):wpAny (model P w) A (setRelay a wanted) Q E s:=by
 have sz:es.size=xs.length:=by rw [<-apf,el,aoX]
 have fits:t.fits es.size=true:=by
  unfold SetTable.fits as2
  have h1:=tb.size
  have h2:=tb.most
  rw [aoX] at h1 h2
  rw [sz,h1,tb.dum]
  simp
  exact h2
 have mk2:mask=7 \/ mask=31 \/ mask=127 \/ mask=511:=.inr mk
 obtain⟨t2,ord,e1,e2,_,_,pm,tb2⟩:=ST.laid_ok mk2 (es.map (·.1)) (by rw [asR,sz];omega) t.finger (t.movedTo mask) t.led t.plain
 rw [asR] at pm
 have hlt:∀ i∈ord.toList,i<es.size:=fun i hi=>apr.mp (pm.mem_iff.mp hi)
 let xs':=ord.toList.map fun i=>xs.getD i (.none,0)
 have px:xs'.Perm xs:=by
  have e:(apj es.size).map (fun i=>xs.getD i (.none,0))=xs:=by
   rw [sz]
   refine arn fun i=>?_
   rw [ao5]
   by_cases hi:i<xs.length
   ·rw [aqz hi,aoW hi]
    simp [hi]
   ·rw [apt (by simp;omega),apt (by omega)]
    rfl
  have:=pm.map fun i=>xs.getD i (.none,0)
  rw [e] at this
  exact this
 have ee:(ord.filterMap (es[·]?)).toList=xs'.map fun x=>(zw w x.1,Value.ref x.2):=by
  rw [Array.toList_filterMap,vk es ord.toList hlt (0,Value.none),aq2]
  refine arS fun i hi=>?_
  have h2:=hlt i hi
  have h3:i<xs.length:=by omega
  rw [el,ao0,ao5,aoW h3]
  show _=(zw w (xs.getD i (.none,0)).1,Value.ref (xs.getD i (.none,0)).2)
  rw [ao0,aoW h3]
  rfl
 have es_sz:(ord.filterMap (es[·]?)).size=es.size:=by
  rw [<-apf,ee,aoX,px.length_eq,sz]
 have tok:ST.TOk t2 (xs'.map fun x=>zw w x.1):=by
  have eh:(ord.toList.map fun i=>(es.map (·.1)).toList.getD i 0)=xs'.map fun x=>zw w x.1:=by
   rw [aq2]
   refine arS fun i hi=>?_
   have h3:i<xs.length:=by have:=hlt i hi;omega
   rw [Array.toList_map,el,aq2,ao0,ao5,aoW h3]
   show zw w xs[i].1=zw w (xs.getD i (.none,0)).1
   rw [ao0,aoW h3]
   rfl
  rw [eh] at tb2
  refine⟨tb2,?_⟩
  rw [aoX,px.length_eq,e2]
  exact room
 rw [ai3]
 apply wpAny_bind
 refine wpAny_setState_of S0 da fits ?_
 dsimp only
 rw [hw,if_neg (by rw [sizeLine_eq];omega)]
 have e1':t.relaid (es.map (·.1)) wanted=some (t2,ord):=by
  unfold SetTable.relaid
  rw [hw]
  exact e1
 unfold agw
 rw [e1']
 apply wpAny_bind
 dsimp only
 rw [es_sz,bne_self_eq_false,if_neg aoY]
 apply wpAny_pure
 dsimp only
 refine wpAny_storeSet_of S0 da ?_ (by rw [es_sz,sz,sizeLine_eq];omega)
 refine q xs' { o with data:=.set (ord.filterMap (es[·]?)) (ep+1) t2 } (ord.filterMap (es[·]?)) (ep+1) t2 _ px (asX _ _ _) ⟨?_,ex,rfl,ee,tok⟩
 have:=ap6 (asB (ord.filterMap (es[·]?)) t2) S0 (by rw [putSet_of _ _ da];rfl)
 rw [putSet_of _ _ da] at this
 exact this
theorem ai5 {t:SetTable} {hs:List Int} {p:Bool} (x:ST.TB t hs):ST.TB { t with plain:=p } hs:=⟨x.mask,x.dum,x.rise,x.le,x.size,x.most,x.reach⟩
theorem akS {Q:Shared->Prop} (S:SetObj w s.heap a xs o es ep t) (ks:∀ x∈xs,KeyAt s.heap x.1 x.2) (kb:KeyAt s.heap d b) (hu:A.units+59<cLine) (few:xs.length<300)
  (old:d∈xs.map (·.1)->Q { s with toks:=s.toks+zZ d })
  (new:d∉xs.map (·.1)->∀ xs' o' es' ep' t' h',xs'.Perm ((d,b) :: xs)->aqG a s.heap h'->SetObj w h' a xs' o' es' ep' t'->Q { s with heap:=h',toks:=s.toks+zZ d }) :
  wpAny (model P w) A (setAdd a (.ref b)) (fun _ s'=>Q s') E s:=by
 obtain⟨F,hF⟩:=ST.first_of S.ok.toTB (zw w d)
 have hl:=hF.lt
 have ht:turns t.mask<=526:=by
  unfold turns
  rcases S.ok.mask with e | e | e | e <;> omega
 have room:=S.ok.room
 rw [aoX] at room
 unfold setAdd
 apply wpAny_holding
 apply wpAny_bind
 refine (aaZ P w).pyHash (by show _+40<cLine;omega) kb ?_
 show wpAny _ _ (setAddHashed a (.ref b) (zw w d)) _ _ _
 unfold setAddHashed setAddHashedIn
 apply wpAny_holding
 apply wpAny_bind
 refine wpAny_setState_of (s:={ s with toks:=s.toks+zZ d }) S.ob S.da S.fits ?_
 dsimp only
 rw [agv,if_neg aoY]
 apply wpAny_bind
 unfold setSearch
 refine aau (s:={ s with toks:=s.toks+zZ d }) (adding:=true) S ks kb (by omega) hF (fun hd r _=>?_) (fun hd=>?_) 100000 0 none (apC _) (by omega) (ST.road_start t _) (fun q i c=>by omega)
 ·exact wpAny_pure (old hd)
 ·dsimp only
  apply wpAny_bind
  refine wpAny_setState_of (s:={ s with toks:=s.toks+zZ d }) S.ob S.da S.fits ?_
  dsimp only
  obtain⟨hp,tb⟩:=ST.put_tb S.ok.toTB hF (by rw [aoX];rcases S.ok.mask with e | e | e | e <;> rw [e] at room ⊢ <;> omega)
  rw [aoX] at hp
  have ep2:(t.put (ST.pos t.mask (zw w d) F)).2=below t.place (ST.pos t.mask (zw w d) F):=rfl
  rw [ep2]
  generalize below t.place (ST.pos t.mask (zw w d) F)=p at *
  have pm:(xs.take p++(d,b) :: xs.drop p).Perm ((d,b) :: xs):=by
   refine List.perm_middle.trans ?_
   rw [arz]
  have el:(insertAt es p (zw w d,Value.ref b)).toList=(xs.take p++(d,b) :: xs.drop p).map fun x=>(zw w x.1,Value.ref x.2):=by
   rw [aq8,S.el,apv,apq,as3,List.map_drop]
  have eh:(xs.map fun x=>zw w x.1).take p++zw w d :: (xs.map fun x=>zw w x.1).drop p=(xs.take p++(d,b) :: xs.drop p).map fun x=>zw w x.1:=by
   rw [apv,apq,as3,List.map_drop]
  rw [eh] at tb
  have ln:(xs.take p++(d,b) :: xs.drop p).length=xs.length+1:=by rw [pm.length_eq];rfl
  have sze:(insertAt es p (zw w d,Value.ref b)).size=xs.length+1:=by rw [<-apf,el,aoX,ln]
  have step:∀ bv:Bool,∀ t2,t2=(if bv=true then (t.put (ST.pos t.mask (zw w d) F)).1 else { (t.put (ST.pos t.mask (zw w d) F)).1 with plain:=false }) ->
    ST.TB t2 ((xs.take p++(d,b) :: xs.drop p).map fun x=>zw w x.1)/\t2.mask=t.mask:=fun bv t2 e=>by
   subst e
   cases bv with
   | true=>exact⟨tb,rfl⟩
   | false=>exact⟨ai5 tb,rfl⟩
  have tail:∀ bv:Bool,wpAny (model P w) A (do
    storeSet a (insertAt es p (zw w d,Value.ref b)) (if bv=true then (t.put (ST.pos t.mask (zw w d) F)).1 else { (t.put (ST.pos t.mask (zw w d) F)).1 with plain:=false })
    if (!false && (if bv=true then (t.put (ST.pos t.mask (zw w d) F)).1 else { (t.put (ST.pos t.mask (zw w d) F)).1 with plain:=false }).tooFull)=true then do
     setRelay a (SetTable.grown (es.size+1))
     pure true
    else pure true) (fun _ s'=>Q s') E { s with toks:=s.toks+zZ d }:=fun bv=>by
   obtain⟨tb2,em⟩:=step bv _ rfl
   generalize (if bv=true then (t.put (ST.pos t.mask (zw w d) F)).1 else { (t.put (ST.pos t.mask (zw w d) F)).1 with plain:=false })=t2 at *
   apply wpAny_bind
   refine wpAny_storeSet_of (s:={ s with toks:=s.toks+zZ d }) S.ob S.da ?_ (by rw [sze,sizeLine_eq];omega)
   have g:(s.heap.update a (asB (insertAt es p (zw w d,Value.ref b)) t2)).get? a=some { o with data:=.set (insertAt es p (zw w d,Value.ref b)) (ep+1) t2 }:=by
    have:=ap6 (asB (insertAt es p (zw w d,Value.ref b)) t2) S.ob (by rw [putSet_of _ _ S.da];rfl)
    rw [putSet_of _ _ S.da] at this
    exact this
   have sb:=asX s.heap a (asB (insertAt es p (zw w d,Value.ref b)) t2)
   have fill:t2.tooFull=decide ((xs.length+1) * 5 >= t.mask * 3):=by
    unfold SetTable.tooFull as2
    have h1:=tb2.size
    rw [aoX,ln] at h1
    rw [h1,tb2.dum,em]
    rfl
   rw [aqE,arF,fill]
   by_cases full:(xs.length+1) * 5 >= t.mask * 3
   ·rw [if_pos (decide_eq_true full),S.size]
    have:∃ mask,(mask=31 \/ mask=127 \/ mask=511)/\arZ (SetTable.grown (xs.length+1))=mask+1/\(xs.length+1) * 5<mask * 3:=by
     rcases S.ok.mask with e | e | e | e
     ·rw [e] at room full
      have:xs.length=4:=by omega
      rw [this]
      exact⟨31,.inl rfl,by decide,by decide⟩
     ·rw [e] at room full
      have:xs.length=18:=by omega
      rw [this]
      exact⟨127,.inr (.inl rfl),by decide,by decide⟩
     ·rw [e] at room full
      have:xs.length=76:=by omega
      rw [this]
      exact⟨511,.inr (.inr rfl),by decide,by decide⟩
     ·rw [e] at room full
      omega
    obtain⟨mask,mk,hw,rm⟩:=this
    apply wpAny_bind
    refine ai4 (s:={ s with heap:=s.heap.update a (asB (insertAt es p (zw w d,Value.ref b)) t2),toks:=s.toks+zZ d }) (o:={ o with data:=.set (insertAt es p (zw w d,Value.ref b)) (ep+1) t2 }) g S.ex rfl el tb2 mk hw (by rw [ln];exact rm) fun xs' o' es' ep' t' h' px sb' S'=>wpAny_pure ?_
    exact new hd xs' o' es' ep' t' h' (px.trans pm) (sb.trans sb') S'
   ·rw [if_neg (by rw [decide_eq_false full];exact aoY)]
    refine wpAny_pure (new hd _ _ _ _ _ _ pm sb ⟨g,S.ex,rfl,el,⟨tb2,?_⟩⟩)
    rw [aoX,ln,em]
    omega
  obtain⟨as,rd⟩:=kb.rd
  split
  ·apply wpAny_bind
   exact aaM d 8 _ { s with toks:=s.toks+zZ d } _ as _ _ rd kb.pl fun bv=>tail bv
  ·apply wpAny_bind;apply wpAny_pure
   exact tail true
theorem am2 {Q:Value->Shared->Prop} (S:SetObj w s.heap a xs o es ep t) (ks:∀ x∈xs,KeyAt s.heap x.1 x.2) (kb:KeyAt s.heap d b) (hu:A.units+60<cLine) (few:xs.length<300)
  (old:d∈xs.map (·.1)->Q .none { s with toks:=s.toks+zZ d })
  (new:d∉xs.map (·.1)->∀ xs' o' es' ep' t' h',xs'.Perm ((d,b) :: xs)->aqG a s.heap h'->SetObj w h' a xs' o' es' ep' t'->Q .none { s with heap:=h',toks:=s.toks+zZ d }) :
  wpAny (model P w) A (call (.builtin "set.add") [.ref a,.ref b]) Q E s:=by
 refine wpAny_call_entry asS S.type PySem.F.entry_set_add ?_ (PySem.F.args_set_add_2 _ _)
 unfold Builtin.«set.add» arY
 simp only [List.isEmpty_nil,bind_assoc]
 unfold asj
 apply wpAny_bind;apply wpAny_pure
 try dsimp only
 apply wpAny_bind;apply wpAny_pure
 try dsimp only
 apply wpAny_bind
 have hu1:A.in1.units=A.units+1:=rfl
 refine akS (Q:=fun s'=>wpAny (model P w) A.in1 (ret Value.none) (fun fin s'=>∃ r,fin=.done (.ret r)/\Q r s') E s') S ks kb (by omega) few (fun hd=>wpAny_pure ⟨_,rfl,old hd⟩) fun hd xs' o' es' ep' t' h' p1 p2 p3=>wpAny_pure ⟨_,rfl,new hd xs' o' es' ep' t' h' p1 p2 p3⟩
end
inductive OC where
 | lst (es:List PyData)
 | set (ks:List PyData)
 | dic (kvs:List (PyData×PyData))
def SetO (w:World) (a:Addr) (xs:List (PyData×Addr)):HO:=.ext fun h=>∃ o es ep t,SetObj w h a xs o es ep t
structure DicObj (w:World) (h:Heap) (a:Addr) (xs:List (PyData×Addr×Value)) (o:Obj) (es:Array DictEntry) (ep:Nat):Prop where
 ob:h.get? a=some o
 ex:o.ExactDict
 da:o.data=.dict es ep
 el:es.toList=xs.map fun x=>(⟨zw w x.1,.ref x.2.1,x.2.2⟩:DictEntry)
 nd:(xs.map (·.1)).Nodup
 ns:(a == sysModules)=false
def DicO (w:World) (a:Addr) (xs:List (PyData×Addr×Value)):HO:=.ext fun h=>∃ o es ep,DicObj w h a xs o es ep
def vT (d:PyData):Prop:=zA d=true/\d.depth<=8
def EntR (K:aoZ) (Hh:Hp) (x:PyData×Addr×Value) (p:PyData×PyData):Prop:=x.1=p.1/\vT x.1/\Rep K Hh x.1 (.ref x.2.1)/\∃ v,Rep K Hh p.2 v/\RelV v x.2.2
theorem EntR.mono {K:aoZ} {Hh Hh':Hp} (s:Same Hh Hh'):∀ {xs:List (PyData×Addr×Value)} {kvs:List (PyData×PyData)},Paired (EntR K Hh) xs kvs->Paired (EntR K Hh') xs kvs
 | _,_,.nil=>.nil
 | _,_,.cons ⟨h1,h2,h3,v,h4,h5⟩ t=>.cons ⟨h1,h2,Rep.mono s _ _ h3,v,Rep.mono s _ _ h4,h5⟩ (EntR.mono s t)
def OwnAt (w:World) (K:aoZ) (Hh H:Hp) (D:Addr):OC->Prop
 | .lst es=>∃ vs,H D=some (.lst vs)/\Reps K Hh es vs
 | .set ks=>∃ xs:List (PyData×Addr),H D=some (SetO w D xs)/\(∀ x∈xs,vT x.1/\Rep K Hh x.1 (.ref x.2))/\(∀ d,d∈xs.map (·.1)↔d∈ks)/\xs.length<=ks.length
 | .dic kvs=>∃ xs:List (PyData×Addr×Value),H D=some (DicO w D xs)/\Paired (EntR K Hh) xs kvs
theorem OwnAt.mono {w:World} {K:aoZ} {Hh Hh' H H':Hp} {D:Addr} (e:H' D=H D) (s:Same Hh Hh'):∀ {c:OC},OwnAt w K Hh H D c->OwnAt w K Hh' H' D c
 | .lst es,⟨vs,h1,h2⟩=>⟨vs,e.trans h1,Reps.mono s es vs h2⟩
 | .set ks,⟨xs,h1,h2,h3⟩=>⟨xs,e.trans h1,fun x hx=>⟨(h2 x hx).1,Rep.mono s _ _ (h2 x hx).2⟩,h3⟩
 | .dic kvs,⟨xs,h1,h2⟩=>⟨xs,e.trans h1,EntR.mono s h2⟩
def Fx.withs (f:Fx) (Ds:List Addr):Fx:={ f with M:=Ds.reverse++f.M }
theorem yv (f:Fx) (Ds:List Addr) (D:Addr):f.withs (Ds++[D])=(f.withs Ds).with D:=by
 unfold Fx.withs Fx.with
 rw [aqA]
 rfl
structure CM (w:World) (K:aoZ) (f:Fx) (Ds:List Addr) (H2:Hp) (ρ:zm) (cs:List OC) (σ:St) (H:Hp):Prop where
 env:EnvOk K (f.withs Ds) ρ σ H
 sm:Same (hide H2 (f.withs Ds)) (hide H (f.withs Ds))
 kp:∀ b∈f.M,H b=H2 b
 len:cs.length=Ds.length
 own:∀ (i:Nat) D c,Ds[i]?=some D->cs[i]?=some c->OwnAt w K (hide H (f.withs Ds)) H D c
structure Sep (f:Fx) (Ds:List Addr):Prop where
 nd:Ds.Nodup
 nf:∀ D∈Ds,f.f≠some D
 nm:∀ D∈Ds,D∉f.M
section
variable {w:World} {K:aoZ} {f:Fx} {Ds:List Addr} {H H' H2:Hp} {ρ ρ2:zm} {cs:List OC} {σ σ2:St} {i:Nat} {D:Addr} {c:OC} {o:HO}
theorem yW (hD:D∈Ds):D∈(f.withs Ds).M:=apQ _ (ap4.mpr hD)
theorem yp (hD:D∈Ds):hide (upd H D o) (f.withs Ds)=hide H (f.withs Ds):=by
 funext b
 unfold hide
 by_cases h:(f.withs Ds).f=some b \/ b∈(f.withs Ds).M
 ·rw [if_pos h,if_pos h]
 ·rw [if_neg h,if_neg h,zr fun (z:b=D)=>h (.inr (z▸yW hD))]
theorem CM.go (x:CM w K f Ds H2 ρ cs σ H) (g:Goes (f.withs Ds) H H') (e2:EnvOk K (f.withs Ds) ρ2 σ2 H'):CM w K f Ds H2 ρ2 cs σ2 H' :=
 ⟨e2,x.sm.trans g.sm,fun b hb=>(g.kp b (apg _ hb)).trans (x.kp b hb),x.len,fun i D c h1 h2=>(x.own i D c h1 h2).mono (g.kp D (yW (ao4 h1))) g.sm⟩
theorem CM.self (x:CM w K f Ds H2 ρ cs σ H):CM w K f Ds H ρ cs σ H:=⟨x.env,Same.refl _,fun _ _=>rfl,x.len,x.own⟩
theorem CM.trans {cs':List OC} {ρ':zm} {σ':St} (x:CM w K f Ds H2 ρ cs σ H) (y:CM w K f Ds H ρ' cs' σ' H'):CM w K f Ds H2 ρ' cs' σ' H':=⟨y.env,x.sm.trans y.sm,fun b hb=>(y.kp b hb).trans (x.kp b hb),y.len,y.own⟩
theorem akT (se:Sep f Ds) (hD:D∈Ds) (h:FOk (f.withs Ds) H):FOk (f.withs Ds) (upd H D o) :=
 ⟨fun p e=>let⟨a,b,h1,h2⟩:=h.fd p e;⟨a,b,by rw [zr (fun (z:p=D)=>se.nf D hD (z▸e))];exact h1,h2⟩,fun b hb=>by
  by_cases e:b=D
  ·exact⟨o,by rw [e];exact zq⟩
  ·obtain⟨u,hu⟩:=h.mm b hb
   exact⟨u,by rw [zr e];exact hu⟩,h.nm⟩
theorem agx (se:Sep f Ds) (hD:D∈Ds) (e:EnvOk K (f.withs Ds) ρ σ H):EnvOk K (f.withs Ds) ρ σ (upd H D o) :=
 ⟨e.len,fun i x h=>by
  obtain⟨v,h1,h2⟩:=e.get i x h
  refine⟨v,h1,?_⟩
  cases x with
  | dat d =>
   show Rep K (hide (upd H D o) (f.withs Ds)) d v
   rw [yp hD]
   exact h2
  | feed=>exact h2
  | own k=>exact h2
  | exc C =>
   obtain⟨a,e1,q⟩:=h2
   exact⟨a,e1,by rw [yp hD];exact q⟩
  | mon φ =>
   intro H' s
   rw [yp hD] at s
   exact h2 H' s,akT se hD e.fd⟩
theorem CM.put {c':OC} (se:Sep f Ds) (x:CM w K f Ds H2 ρ cs σ H) (hi:Ds[i]?=some D) (ho:OwnAt w K (hide H (f.withs Ds)) (upd H D o) D c'):CM w K f Ds H2 ρ (cs.set i c') σ (upd H D o):=by
 have hD:=ao4 hi
 refine⟨agx se hD x.env,by rw [yp hD];exact x.sm,fun b hb=>(zr (fun (z:b=D)=>se.nm D hD (z▸hb))).trans (x.kp b hb),by rw [apP];exact x.len,fun j D' c h1 h2=>?_⟩
 rw [yp hD]
 by_cases e:i=j
 ·subst e
  rw [hi] at h1
  cases h1
  have hl:i<cs.length:=by rw [x.len];exact (ao1.mp hi).1
  rw [ap2 hl] at h2
  cases h2
  exact ho
 ·rw [apY e] at h2
  have ne:D'≠D:=fun z=>by
   subst z
   obtain⟨l1,e1⟩:=ao1.mp hi
   obtain⟨l2,e2⟩:=ao1.mp h1
   exact e ((arB se.nd).mp (e1.trans e2.symm))
  exact (x.own j D' c h1 h2).mono (zr ne) (Same.refl _)
end
structure MEnds where
 nx:zm->List OC->Prop
 rt:PyData->Prop
 bk:zm->List OC->Prop:=fun _ _=>False
 ct:zm->List OC->Prop:=fun _ _=>False
def PSm (w:World) (K:aoZ) (f:Fx) (Ds:List Addr) (ts:TS) (ρ:zm) (cs:List OC) (O:MEnds):Prop:=Sep f Ds->∀ (σ:St) (H H2:Hp) (E:Ends),CM w K f Ds H2 ρ cs σ H ->
 (∀ ρ' cs' σ' H',CM w K f Ds H2 ρ' cs' σ' H'->O.nx ρ' cs'->E.nx σ' H')->(∀ d v ρ' cs' σ' H',CM w K f Ds H2 ρ' cs' σ' H'->Rep K (hide H' f) d v->O.rt d->E.rt v H') ->
 (∀ ρ' cs' σ' H',CM w K f Ds H2 ρ' cs' σ' H'->O.bk ρ' cs'->E.bk σ' H')->(∀ ρ' cs' σ' H',CM w K f Ds H2 ρ' cs' σ' H'->O.ct ρ' cs'->E.ct σ' H')->ts E σ H
def PTm (w:World) (K:aoZ) (f:Fx) (Ds:List Addr) (tt:TT) (ρ:zm) (cs:List OC) (B:Bool->Prop):Prop:=Sep f Ds->∀ (σ:St) (H H2:Hp) (Q:Bool->Hp->Prop),CM w K f Ds H2 ρ cs σ H->(∀ b H',Goes (f.withs Ds) H H'->B b->Q b H')->tt σ H Q
def PEm (w:World) (K:aoZ) (f:Fx) (Ds:List Addr) (te:TE) (ρ:zm) (cs:List OC) (P:PyData->Prop):Prop:=Sep f Ds->∀ (σ:St) (H H2:Hp) (Q:VK),CM w K f Ds H2 ρ cs σ H->(∀ d v H',Goes (f.withs Ds) H H'->Rep K (hide H' (f.withs Ds)) d v->P d->Q v H')->te σ H Q
def ai6 (w:World) (K:aoZ) (f:Fx) (te:TE) (ρ:zm) (P:OC->Prop):Prop:=∀ (σ:St) (H:Hp) (Q:VK),EnvOk K f ρ σ H ->
 (∀ c D H',Goes f H H'->H D=none->OwnAt w K (hide H' (f.with D)) H' D c->P c->Q (.ref D) H')->te σ H Q
section
variable {w:World} {K:aoZ} {f:Fx} {Ds:List Addr} {ρ:zm} {cs:List OC} {ts tu:TS} {tt:TT} {te:TE} {wi:TI} {g:TG} {O:MEnds} {i j:Nat}
theorem same_withs {H:Hp}:Same (hide H (f.withs Ds)) (hide H f):=fun b o h=>by
 obtain⟨h1,h2⟩:=zF h
 exact zz (fun z=>h1 (z.elim .inl fun z=>.inr (apg _ z))) h2
theorem ai7 {D:DEnds} (h:PSm w K f [] ts ρ [] { nx:=fun ρ' _=>D.nx ρ',rt:=D.rt,bk:=fun ρ' _=>D.bk ρ',ct:=fun ρ' _=>D.ct ρ' }):PSd K f ts ρ D:=fun σ H E e n r b k=>by
 have gg:∀ {ρ':zm} {cs':List OC} {σ':St} {H':Hp},CM w K f [] H ρ' cs' σ' H'->Goes f H H':=fun x=>⟨x.sm,x.env.fd,x.kp⟩
 exact h ⟨aqD,(fun _ z=>nomatch z),(fun _ z=>nomatch z)⟩ σ H H E ⟨e,Same.refl _,fun _ _=>rfl,rfl,(fun i D c z=>nomatch z)⟩
  (fun ρ' cs' σ' H' x p=>n ρ' σ' H' (gg x) x.env p) (fun d v ρ' cs' σ' H' x r' p=>r d v H' (gg x) r' p) (fun ρ' cs' σ' H' x p=>b ρ' σ' H' (gg x) x.env p) (fun ρ' cs' σ' H' x p=>k ρ' σ' H' (gg x) x.env p)
theorem afq (h:PSd K (f.withs Ds) ts ρ { nx:=fun ρ'=>O.nx ρ' cs,rt:=O.rt,bk:=fun ρ'=>O.bk ρ' cs,ct:=fun ρ'=>O.ct ρ' cs }):PSm w K f Ds ts ρ cs O:=fun se σ H H2 E x n r b k =>
 h σ H E x.env (fun ρ' σ' H' g' e' p=>n ρ' cs σ' H' (x.go g' e') p) (fun d v H' g' r' p=>r d v ρ cs σ H' (x.go g' (x.env.mono g')) (Rep.mono same_withs d v r') p) (fun ρ' σ' H' g' e' p=>b ρ' cs σ' H' (x.go g' e') p) (fun ρ' σ' H' g' e' p=>k ρ' cs σ' H' (x.go g' e') p)
theorem aby (h:PSm w K f Ds ts ρ cs { O with nx:=fun ρ' cs'=>PSm w K f Ds tu ρ' cs' O }):PSm w K f Ds (qz ts tu) ρ cs O:=fun se σ H H2 E x n r b k =>
 h se σ H H2 _ x (fun ρ' cs' σ' H' x' p=>p se σ' H' H2 E x' n r b k) r b k
theorem am3 (h:O.nx ρ cs):PSm w K f Ds adS ρ cs O:=fun _ σ H H2 E x n r b k=>n ρ cs σ H x h
theorem aoO {B:Bool->Prop} (h:PTd K (f.withs Ds) tt ρ B):PTm w K f Ds tt ρ cs B:=fun se σ H H2 Q x q=>h σ H Q x.env q
theorem ai8 {P:PyData->Prop} (h:PEd K (f.withs Ds) te ρ P):PEm w K f Ds te ρ cs P:=fun se σ H H2 Q x q=>h σ H Q x.env q
theorem aoP (h:PTm w K f Ds tt ρ cs fun b=>if b=true then PSm w K f Ds ts ρ cs O else PSm w K f Ds tu ρ cs O):PSm w K f Ds (ae0 tt ts tu) ρ cs O:=fun se σ H H2 E x n r b k =>
 h se σ H H2 _ x fun q H1 g1 p=>by
  have x1:=x.go g1 (x.env.mono g1)
  cases q with
  | false =>
   rw [if_neg aoY] at p ⊢
   exact p se σ H1 H2 E x1 n r b k
  | true =>
   rw [if_pos rfl] at p ⊢
   exact p se σ H1 H2 E x1 n r b k
theorem ai9 (h:PId K (f.withs Ds) wi ρ fun ds=>∃ J:Nat->zm->List OC->Prop,J 0 ρ cs /\
   (∀ (i:Nat) d ρ' cs',ds[i]?=some d->J i ρ' cs'->PGd K (f.withs Ds) g d ρ' fun ρ2=>PSm w K f Ds ts ρ2 cs' { O with nx:=J (i+1),ct:=J (i+1),bk:=O.nx })/\∀ ρ' cs',J ds.length ρ' cs'->O.nx ρ' cs') :
  PSm w K f Ds (aij wi g ts) ρ cs O:=fun se σ H H2 E x n r b k=>h σ H _ x.env fun ds J H1 g1 it ⟨Jv,j0,js,jd⟩=>by
 have x1:=x.go g1 (x.env.mono g1)
 refine⟨fun i m σ' H'=>∃ ρ' cs',CM w K f Ds H2 ρ' cs' σ' H'/\Same (hide H1 (f.withs Ds)) (hide H' (f.withs Ds))/\Jv i ρ' cs'/\m+i=ds.length,⟨ds.length,ρ,cs,x1,Same.refl _,j0,rfl⟩,fun i m σ' H' ⟨ρ',cs',x',sm',p,hm⟩=>?_⟩
 by_cases hi:i<ds.length
 ·obtain⟨hgo,hy⟩:=it.go (f.withs Ds) H' i _ x'.env.fd sm' (aoW hi)
  refine .inr ⟨hgo,fun σ2 H3=>∃ ρ2 cs2,CM w K f Ds H2 ρ2 cs2 σ2 H3/\Same (hide H1 (f.withs Ds)) (hide H3 (f.withs Ds))/\Jv (i+1) ρ2 cs2,fun σ2 H3 ⟨ρ2,cs2,e2,g2,p2⟩=>⟨m - 1,by omega,ρ2,cs2,e2,g2,p2,by omega⟩,fun v H3 hx=>?_⟩
  obtain⟨g3,r3⟩:=hy v H3 hx
  have x3:=x'.go g3 (x'.env.mono g3)
  refine js i _ ρ' cs' (aoW hi) p σ' H3 v _ x3.env r3 fun ρ2 σ2 H4 g4 e4 p4=>?_
  have x4:=x3.go g4 e4
  have sm4:=(sm'.trans g3.sm).trans g4.sm
  exact p4 se σ2 H4 H4 _ x4.self (fun ρ5 cs5 σ5 H5 x5 p5=>⟨ρ5,cs5,x4.trans x5,sm4.trans x5.sm,p5⟩) (fun d v ρ5 cs5 σ5 H5 x5 r5 p5=>r d v ρ5 cs5 σ5 H5 (x4.trans x5) r5 p5) (fun ρ5 cs5 σ5 H5 x5 p5=>n ρ5 cs5 σ5 H5 (x4.trans x5) p5) (fun ρ5 cs5 σ5 H5 x5 p5=>⟨ρ5,cs5,x4.trans x5,sm4.trans x5.sm,p5⟩)
 ·have ei:i=ds.length:=by omega
  subst ei
  exact .inl ⟨it.st (f.withs Ds) H' x'.env.fd sm',n ρ' cs' σ' H' x' (jd ρ' cs' p)⟩
theorem akU {tb:TS} (J:zm->List OC->Prop) (μ:zm->List OC->Nat) (h0:J ρ cs)
  (hs:∀ ρ' cs',J ρ' cs'->PTm w K f Ds tt ρ' cs' fun b=>if b=true then PSm w K f Ds tb ρ' cs' { O with nx:=fun r c=>J r c/\μ r c<μ ρ' cs',ct:=fun r c=>J r c/\μ r c<μ ρ' cs',bk:=O.nx } else O.nx ρ' cs'):PSm w K f Ds (ae2 tt tb) ρ cs O:=fun se σ H H2 E x n r b k=>by
 refine⟨fun m σ' H'=>∃ ρ' cs',CM w K f Ds H2 ρ' cs' σ' H'/\J ρ' cs'/\m=μ ρ' cs',⟨_,ρ,cs,x,h0,rfl⟩,?_⟩
 rintro m σ1 H1 ⟨ρ1,cs1,x1,j1,rfl⟩
 refine hs ρ1 cs1 j1 se σ1 H1 H2 _ x1 fun t H3 g3 p=>?_
 have x3:=x1.go g3 (x1.env.mono g3)
 cases t with
 | true =>
  rw [if_pos rfl] at p ⊢
  refine⟨fun σ' H'=>∃ ρ' cs',CM w K f Ds H2 ρ' cs' σ' H'/\J ρ' cs'/\μ ρ' cs'<μ ρ1 cs1,fun σ' H' ⟨ρ',cs',x',j',l'⟩=>⟨_,l',ρ',cs',x',j',rfl⟩,?_⟩
  exact p se σ1 H3 H2 _ x3 (fun ρ5 cs5 σ5 H5 x5 p5=>⟨ρ5,cs5,x5,p5⟩) r (fun ρ5 cs5 σ5 H5 x5 p5=>n ρ5 cs5 σ5 H5 x5 p5) (fun ρ5 cs5 σ5 H5 x5 p5=>⟨ρ5,cs5,x5,p5⟩)
 | false =>
  rw [if_neg aoY] at p ⊢
  exact n ρ1 cs1 σ1 H3 x3 p
theorem vU {σ:St} {H H2:Hp} {D:Addr} (hi:ρ[i]?=some (some (.own (f.M.length+j)))) (x:CM w K f Ds H2 ρ cs σ H) (hD:Ds[j]?=some D):σ[i]?=some (some (.ref D)):=by
 obtain⟨v,h1,p,h2,rfl⟩:=x.env.get i _ hi
 have e:(f.withs Ds).M.reverse[f.M.length+j]?=some D:=by
  show (Ds.reverse++f.M).reverse[f.M.length+j]?=some D
  rw [aqA,arI,apd (by simp)]
  simpa using hD
 rw [e] at h2
 cases h2
 exact h1
theorem al6 {es:List PyData} (hi:ρ[i]?=some (some (.own (f.M.length+j)))) (hc:cs[j]?=some (.lst es)) (hl:es.length<1000) (h:PEm w K f Ds te ρ cs fun d=>O.nx ρ (cs.set j (.lst (es++[d])))):PSm w K f Ds (aaC (tBM K "list" acX (z6 i) (zY te y4))) ρ cs O:=fun se σ H H2 E x n r b k=>by
 have hj:j<Ds.length:=by rw [<-x.len];exact (ao1.mp hc).1
 have hD:Ds[j]?=some Ds[j]:=aoW hj
 obtain⟨vs0,h0,_⟩:=x.own j _ _ hD hc
 refine⟨_,vU hi x hD,Or.inl ⟨rfl,vs0,.of h0⟩,?_⟩
 refine h se σ H H2 _ x fun d v H1 g1 r1 p1=>?_
 have x1:=x.go g1 (x.env.mono g1)
 obtain⟨vs,h1,h2⟩:=x1.own j _ _ hD hc
 refine⟨_,vs,v,rfl,rfl,h1,zX (by rw [h2.length];omega),n _ _ _ _ (x1.put se hD (o:=.lst (vs++[v])) (c':=.lst (es++[d])) ⟨vs++[v],zq,h2.snoc r1⟩) p1⟩
theorem CM.more {σ:St} {H H1 H2:Hp} {D:Addr} {c:OC} (x:CM w K f Ds H2 ρ cs σ H) (g:Goes (f.withs Ds) H H1) (hn:H D=none) (ho:OwnAt w K (hide H1 ((f.withs Ds).with D)) H1 D c) (hi:i<ρ.length) :
  CM w K f (Ds++[D]) H1 (ρ.set i (some (.own (f.M.length+Ds.length)))) (cs++[c]) (σ.set i (some (.ref D))) H1:=by
 have nD:¬ ((f.withs Ds).f=some D \/ D∈(f.withs Ds).M):=fresh_ne x.env.fd hn
 have sm0:Same (hide H (f.withs Ds)) (hide H1 (f.withs (Ds++[D]))):=fun b o hb=>by
  have hb1:=g.sm b o hb
  rw [yv]
  refine zz (fun z=>?_) (zF hb1).2
  rcases z with z | z
  ·exact (zF hb1).1 (.inl z)
  ·rcases ao7.mp z with rfl | z
   ·have:=(zF hb).2
    rw [hn] at this
    cases this
   ·exact (zF hb1).1 (.inr z)
 have hD1:∃ o,H1 D=some o:=by
  cases c with
  | lst es=>exact⟨_,ho.choose_spec.1⟩
  | set ks=>exact⟨_,ho.choose_spec.1⟩
  | dic kvs=>exact⟨_,ho.choose_spec.1⟩
 have fo1:FOk (f.withs (Ds++[D])) H1:=by
  rw [yv]
  refine⟨g.ok.fd,fun b hb=>?_,fun q eq hq=>?_⟩
  ·rcases ao7.mp hb with rfl | hb
   ·exact hD1
   ·exact g.ok.mm b hb
  ·rcases ao7.mp hq with rfl | hq
   ·exact nD (.inl eq)
   ·exact g.ok.nm q eq hq
 have rev:(f.withs (Ds++[D])).M.reverse=(f.withs Ds).M.reverse++[D]:=by
  rw [yv]
  show (D :: (f.withs Ds).M).reverse=_
  rw [ar9]
 have lenr:(f.withs Ds).M.reverse.length=f.M.length+Ds.length:=by
  show (Ds.reverse++f.M).reverse.length=_
  simp
 have e1:EnvOk K (f.withs (Ds++[D])) ρ σ H1:=⟨x.env.len,fun q y hy=>by
  obtain⟨v,a1,a2⟩:=x.env.get q y hy
  refine⟨v,a1,?_⟩
  cases y with
  | dat d=>exact Rep.mono sm0 d v a2
  | feed=>exact a2
  | exc C =>
   obtain⟨b,h3,h4⟩:=a2
   exact⟨b,h3,sm0 _ _ h4⟩
  | mon φ=>exact fun H' s=>a2 H' (sm0.trans s)
  | own k =>
   obtain⟨b,h3,h4⟩:=a2
   refine⟨b,?_,h4⟩
   rw [rev,ao9 (ao1.mp h3).1]
   exact h3,fo1⟩
 have rv:RepV K (f.withs (Ds++[D])) H1 (.own (f.M.length+Ds.length)) (.ref D):=⟨D,by
  rw [rev,apd (by omega),lenr,aqo]
  rfl,rfl⟩
 refine⟨e1.set i rv,Same.refl _,fun _ _=>rfl,by simp [x.len],fun q D' c' h1 h2=>?_⟩
 by_cases hq:q<Ds.length
 ·rw [ao9 hq] at h1
  rw [ao9 (by rw [x.len];exact hq)] at h2
  exact (x.own q D' c' h1 h2).mono (g.kp D' (yW (ao4 h1))) sm0
 ·by_cases hq2:q=Ds.length
  ·subst hq2
   rw [apd (ao6 _),aqo] at h1
   rw [apd (by rw [x.len];exact ao6 _),x.len,aqo] at h2
   cases h1
   cases h2
   rw [yv]
   exact ho
  ·rw [apt (by simp;omega)] at h1
   cases h1
theorem Sep.more {H:Hp} {D:Addr} (se:Sep f Ds) (fo:FOk (f.withs Ds) H) (hn:H D=none):Sep f (Ds++[D]):=by
 have nD:=fresh_ne fo hn
 refine⟨aqv.mpr ⟨se.nd,by simp,fun a ha b hb=>?_⟩,fun D' h=>?_,fun D' h=>?_⟩
 ·rw [apo.mp hb]
  intro z
  exact nD (.inr (yW (z▸ha)))
 ·rcases aps.mp h with h | h
  ·exact se.nf D' h
  ·rw [apo.mp h];exact fun z=>nD (.inl z)
 ·rcases aps.mp h with h | h
  ·exact se.nm D' h
  ·rw [apo.mp h];exact fun z=>nD (.inr (apg _ z))
theorem CM.less {σ σ':St} {H H1 H2 H':Hp} {D:Addr} {ρ':zm} {cs':List OC} (x:CM w K f Ds H2 ρ cs σ H) (g:Goes (f.withs Ds) H H1) (hn:H D=none) (y:CM w K f (Ds++[D]) H1 ρ' cs' σ' H') :
  CM w K f Ds H2 (ρ'.map (ji (f.M.length+Ds.length))) (cs'.take Ds.length) σ' H':=by
 have sub:Same (hide H' (f.withs (Ds++[D]))) (hide H' (f.withs Ds)):=by rw [yv];exact jV
 have sm1:Same (hide H (f.withs Ds)) (hide H1 (f.withs (Ds++[D]))):=fun b o hb=>by
  have hb1:=g.sm b o hb
  rw [yv]
  refine zz (fun z=>?_) (zF hb1).2
  rcases z with z | z
  ·exact (zF hb1).1 (.inl z)
  ·rcases ao7.mp z with rfl | z
   ·have:=(zF hb).2
    rw [hn] at this
    cases this
   ·exact (zF hb1).1 (.inr z)
 have lenr:(f.withs Ds).M.reverse.length=f.M.length+Ds.length:=by
  show (Ds.reverse++f.M).reverse.length=_
  simp
 have rev:(f.withs (Ds++[D])).M.reverse=(f.withs Ds).M.reverse++[D]:=by
  rw [yv]
  show (D :: (f.withs Ds).M).reverse=_
  rw [ar9]
 have fo:FOk (f.withs Ds) H':=by
  have h:=y.env.fd
  rw [yv] at h
  exact⟨h.fd,fun b hb=>h.mm b (ao3 _ hb),fun p e hp=>h.nm p e (ao3 _ hp)⟩
 refine⟨⟨by rw [aoX];exact y.env.len,fun q z hz=>?_,fo⟩,(x.sm.trans sm1).trans (y.sm.trans sub),fun b hb=>(y.kp b hb).trans ((g.kp b (apg _ hb)).trans (x.kp b hb)),?_,fun q D' c' h1 h2=>?_⟩
 ·rw [ao5] at hz
  cases e:ρ'[q]? with
  | none=>rw [e] at hz;cases hz
  | some z0 =>
   rw [e] at hz
   cases z0 with
   | none=>cases hz
   | some z0 =>
    obtain⟨v,a1,a2⟩:=y.env.get q z0 e
    cases z0 with
    | dat d =>
     cases hz
     exact⟨v,a1,Rep.mono sub d v a2⟩
    | feed =>
     cases hz
     rw [yv] at a2
     exact⟨v,a1,a2⟩
    | exc C =>
     cases hz
     obtain⟨b,h3,h4⟩:=a2
     exact⟨v,a1,b,h3,sub _ _ h4⟩
    | mon φ =>
     cases hz
     exact⟨v,a1,fun H' s=>a2 H' (sub.trans s)⟩
    | own k =>
     have hz':(if k<f.M.length+Ds.length then some (DV.own k) else none)=some z:=Option.some.inj hz
     by_cases hk:k<f.M.length+Ds.length
     ·rw [if_pos hk] at hz'
      cases hz'
      obtain⟨b,h3,h4⟩:=a2
      refine⟨v,a1,b,?_,h4⟩
      rw [rev,ao9 (by omega)] at h3
      exact h3
     ·rw [if_neg hk] at hz'
      cases hz'
 ·rw [apK,y.len]
  simp
 ·have hq:q<Ds.length:=(ao1.mp h1).1
  rw [aq7 hq] at h2
  exact (y.own q D' c' (by rw [ao9 hq];exact h1) h2).mono rfl sub
theorem al7 (h:ai6 w K (f.withs Ds) te ρ fun c=>i<ρ.length/\∀ D,PSm w K f (Ds++[D]) ts (ρ.set i (some (.own (f.M.length+Ds.length)))) (cs++[c]) { nx:=fun ρ' cs'=>O.nx (ρ'.map (ji (f.M.length+Ds.length))) (cs'.take Ds.length),rt:=O.rt,bk:=fun ρ' cs'=>O.bk (ρ'.map (ji (f.M.length+Ds.length))) (cs'.take Ds.length),ct:=fun ρ' cs'=>O.ct (ρ'.map (ji (f.M.length+Ds.length))) (cs'.take Ds.length) }) :
  PSm w K f Ds (qz (qe te (yz i)) ts) ρ cs O:=fun se σ H H2 E x n r b k =>
 h σ H _ x.env fun c D H1 g1 hn ho ⟨hi,p⟩ =>
  p D (se.more x.env.fd hn) _ H1 H1 E (x.more g1 hn ho hi) (fun ρ' cs' σ' H' y q=>n _ _ σ' H' (x.less g1 hn y) q) (fun d v ρ' cs' σ' H' y r' q=>r d v _ _ σ' H' (x.less g1 hn y) r' q) (fun ρ' cs' σ' H' y q=>b _ _ σ' H' (x.less g1 hn y) q) (fun ρ' cs' σ' H' y q=>k _ _ σ' H' (x.less g1 hn y) q)
theorem agy {P:OC->Prop} (h:PEdO K f te ρ fun es=>P (.lst es)):ai6 w K f te ρ P:=fun σ H Q e q=>h σ H Q e fun es D vs H' g hn h1 rs p=>q (.lst es) D H' g hn ⟨vs,h1,rs⟩ p
def freed (n:Nat) (cs:List OC):Option DV->Option DV
 | some (.own k)=>if k<n then some (.own k) else match cs[k - n]? with
  | some (.lst es)=>some (.dat (.list es))
  | _=>none
 | x=>x
theorem CM.free {σ:St} {H H2:Hp} (se:Sep f Ds) (x:CM w K f Ds H2 ρ cs σ H):EnvOk K f (ρ.map (freed f.M.length cs)) σ H:=by
 have fo:FOk f H:=⟨x.env.fd.fd,fun b hb=>x.env.fd.mm b (apg _ hb),fun p e hp=>x.env.fd.nm p e (apg _ hp)⟩
 refine⟨by rw [aoX];exact x.env.len,fun q z hz=>?_,fo⟩
 rw [ao5] at hz
 cases e:ρ[q]? with
 | none=>rw [e] at hz;cases hz
 | some z0 =>
  rw [e] at hz
  cases z0 with
  | none=>cases hz
  | some z0 =>
   obtain⟨v,a1,a2⟩:=x.env.get q z0 e
   cases z0 with
   | dat d =>
    cases hz
    exact⟨v,a1,Rep.mono same_withs d v a2⟩
   | feed =>
    cases hz
    exact⟨v,a1,a2⟩
   | exc C =>
    cases hz
    obtain⟨b,h3,h4⟩:=a2
    exact⟨v,a1,b,h3,same_withs _ _ h4⟩
   | mon φ =>
    cases hz
    exact⟨v,a1,fun H' s=>a2 H' (same_withs.trans s)⟩
   | own k =>
    obtain⟨b,h3,h4⟩:=a2
    have h3':(Ds.reverse++f.M).reverse[k]?=some b:=h3
    rw [aqA,arI] at h3'
    have hz':(if k<f.M.length then some (DV.own k) else match cs[k - f.M.length]? with | some (.lst es)=>some (.dat (.list es)) | _=>none)=some z:=Option.some.inj hz
    by_cases hk:k<f.M.length
    ·rw [if_pos hk] at hz'
     cases hz'
     rw [ao9 (by simpa using hk)] at h3'
     exact⟨v,a1,b,h3',h4⟩
    ·rw [if_neg hk] at hz'
     rw [apd (by simpa using asy.mp hk),asY] at h3'
     cases ec:cs[k - f.M.length]? with
     | none=>rw [ec] at hz';cases hz'
     | some c =>
      rw [ec] at hz'
      cases c with
      | lst es =>
       cases hz'
       obtain⟨vs,h5,h6⟩:=x.own _ _ _ h3' ec
       have hb:=ao4 h3'
       exact⟨v,a1,rep_list.mpr ⟨b,vs,h4,.of (zz (fun z=>z.elim (se.nf b hb) (se.nm b hb)) h5),Reps.mono same_withs es vs h6⟩⟩
      | set ks=>cases hz'
      | dic kvs=>cases hz'
theorem CM.goF {σ:St} {H H2 H':Hp} (se:Sep f Ds) (x:CM w K f Ds H2 ρ cs σ H) (g:Goes f H H'):CM w K f Ds H2 ρ cs σ H':=by
 have keep:∀ b∈Ds,H' b=H b:=fun b hb=>by
  obtain⟨o,ho⟩:=x.env.fd.mm b (yW hb)
  rw [ho]
  exact (zF (g.sm b o (zz (fun z=>z.elim (se.nf b hb) (se.nm b hb)) ho))).2
 have g2:Goes (f.withs Ds) H H':=⟨fun b o hb=>by
   have hb':=zF hb
   have:=zF (g.sm b o (same_withs b o hb))
   exact zz hb'.1 this.2,⟨g.ok.fd,fun b hb=>by
   rcases aps.mp hb with hb | hb
   ·obtain⟨o,ho⟩:=x.env.fd.mm b (apQ _ hb)
    exact⟨o,by rw [keep b (ap4.mp hb)];exact ho⟩
   ·exact g.ok.mm b hb,x.env.fd.nm⟩,fun b hb=>by
   rcases aps.mp hb with hb | hb
   ·exact keep b (ap4.mp hb)
   ·exact g.kp b hb⟩
 exact x.go g2 (x.env.mono g2)
theorem aja (h:PSd K f ts (ρ.map (freed f.M.length cs)) { nx:=fun _=>False,rt:=O.rt }):PSm w K f Ds ts ρ cs O:=fun se σ H H2 E x n r b k =>
 h σ H E (x.free se) (fun _ _ _ _ _ z=>z.elim) (fun d v H' g' r' p=>r d v ρ cs σ H' (x.goF se g') r' p) (fun _ _ _ _ _ z=>z.elim) (fun _ _ _ _ _ z=>z.elim)
end
def ahw (w:World) (K:aoZ) (f:Fx) (Ds:List Addr) (ts:TS) (ρ:zm) (cs:List OC) (R:List PyData->Prop):Prop:=Sep f Ds->∀ (σ:St) (H H2:Hp) (E:Ends),CM w K f Ds H2 ρ cs σ H ->
 (∀ es D vs ρ' cs' σ' H0 H',CM w K f Ds H2 ρ' cs' σ' H0->Goes f H0 H'->H0 D=none->H' D=some (.lst vs)->Reps K (hide H' (f.with D)) es vs->R es->E.rt (.ref D) H')->ts E σ H
section
variable {w:World} {K:aoZ} {f:Fx} {Ds:List Addr} {ρ:zm} {cs:List OC} {ts tu:TS} {te:TE} {R:List PyData->Prop} {i:Nat}
theorem akV (h:ahw w K f [] ts ρ [] R):PSn K f ts ρ R:=fun σ H E e q=>by
 refine h ⟨aqD,(fun _ z=>nomatch z),(fun _ z=>nomatch z)⟩ σ H H E ⟨e,Same.refl _,fun _ _=>rfl,rfl,(fun i D c z=>nomatch z)⟩ fun es D vs ρ' cs' σ' H0 H' x g hn h1 rs p=>?_
 have g0:Goes f H H0:=⟨x.sm,x.env.fd,x.kp⟩
 exact q es D vs H' (g0.trans g) (g0.free e.fd hn) h1 rs p
theorem am4 (h:PSm w K f Ds ts ρ cs { nx:=fun ρ' cs'=>ahw w K f Ds tu ρ' cs' R,rt:=fun _=>False }):ahw w K f Ds (qz ts tu) ρ cs R:=fun se σ H H2 E x q =>
 h se σ H H2 _ x (fun ρ' cs' σ' H' x' p=>p se σ' H' H2 E x' q) (fun _ _ _ _ _ _ _ _ z=>z.elim) (fun _ _ _ _ _ z=>z.elim) (fun _ _ _ _ _ z=>z.elim)
theorem ajb (h:ai6 w K (f.withs Ds) te ρ fun c=>i<ρ.length/\∀ D,ahw w K f (Ds++[D]) ts (ρ.set i (some (.own (f.M.length+Ds.length)))) (cs++[c]) R) :
  ahw w K f Ds (qz (qe te (yz i)) ts) ρ cs R:=fun se σ H H2 E x q =>
 h σ H _ x.env fun c D H1 g1 hn ho ⟨hi,p⟩ =>
  p D (se.more x.env.fd hn) _ H1 H1 E (x.more g1 hn ho hi) fun es D' vs ρ' cs' σ' H0 H' y g hn' h1 rs pr=>q es D' vs _ _ σ' H0 H' (x.less g1 hn y) g hn' h1 rs pr
theorem akW (h:PSn K f ts (ρ.map (freed f.M.length cs)) R):ahw w K f Ds ts ρ cs R:=fun se σ H H2 E x q =>
 h σ H E (x.free se) fun es D vs H' g hn h1 rs p=>q es D vs ρ cs σ H H' x g hn h1 rs p
end
theorem SetO.ok {P:Program} {w:World} {H:Hp} {h:Heap} {a:Addr} {xs:List (PyData×Addr)} {o:Obj} {es:Array (Int×Value)} {ep:Nat} {t:SetTable} (S:SetObj w h a xs o es ep t):ObjOk P w H h a (SetO w a xs) :=
 ⟨⟨o,es,ep,t,S⟩,⟨o,S.ob⟩,fun h1 h2 ⟨o,es,ep,t,S⟩ k=>⟨o,es,ep,t,⟨k o S.ob,S.ex,S.da,S.el,S.ok⟩⟩⟩
theorem ahx (led:Bool):ST.TOk (SetTable.fresh 0 0 led) [] where
 mask:=.inl rfl
 dum:=rfl
 rise:=fun i j _ hj=>absurd hj (apZ _)
 le:=fun i hi=>absurd hi (apZ _)
 size:=rfl
 most:=apC _
 reach:=fun i hi=>absurd hi (apZ _)
 room:=by show 0 * 5<7 * 3;decide
def adk (w:World):List V->Hp->VK->Prop:=fun xs H Q=>xs=[]/\∀ a,H a=none->Q (.ref a) (upd H a (SetO w a []))
theorem aep {X:Cx}:yo X (.type "set") (adk X.w):=by
 intro pins s σ H xs us Q I r h
 obtain⟨rfl,q⟩:=h
 cases r
 refine call_set_0 fun led=>?_
 refine⟨.ref s.heap.objs.size,_,I.laid (t':=s.toks) (fun b u e=>ao2 _ e) (ao6 _) (SetO.ok (xs:=[]) (o:={ cls:=.type "set",dict:=none,data:=.set #[] 0 (.fresh 0 0 led) }) (es:=#[]) (ep:=0) (t:=.fresh 0 0 led) ⟨apA _ rfl,⟨rfl,rfl,rfl⟩,rfl,rfl,ahx led⟩),rfl,q _ (I.hok.fresh (ao6 _))⟩
def ahy (d:PyData):Prop:=vT d/\∃ xs,d=.tuple xs
theorem aa0 {K:aoZ} {H:Hp} {d:PyData} {v:V} (k:ahy d) (r:Rep K H d v):∃ b,v=.ref b:=by
 obtain⟨_,xs,rfl⟩:=k
 obtain⟨a,_,e,_⟩:=rep_tuple.mp r
 exact⟨a,e⟩
theorem vz {X:Cx} {pins:List (Addr×Obj)} {σ:St} {H:Hp} {s:Shared} {d:PyData} {b:Addr} (I:Inv X pins σ H s) (k:vT d) (r:Rep X.K H d (.ref b)):KeyAt s.heap d b:=by
 obtain⟨as,ra⟩:=jU I d (.ref b) (.ref b) r rfl
 exact⟨⟨as,ra⟩,k.1,k.2⟩
def am5 (w:World) (K:aoZ) (neg:Bool):R2:=fun x y H Q=>∃ a b d xs,x=.ref b/\y=.ref a/\H a=some (SetO w a xs)/\(∀ z∈xs,vT z.1/\Rep K H z.1 (.ref z.2))/\vT d/\Rep K H d (.ref b)/\Q (.bl (if neg then !decide (d∈xs.map (·.1)) else decide (d∈xs.map (·.1)))) H
theorem akX {X:Cx} (hu:X.A.units+64<cLine) {pins:List (Addr×Obj)} {s:Shared} {σ:St} {H:Hp} {a b:Addr} {d:PyData} {xs:List (PyData×Addr)} (I:Inv X pins σ H s) (hS:H a=some (SetO X.w a xs)) (ks:∀ z∈xs,vT z.1/\Rep X.K H z.1 (.ref z.2)) (kd:vT d) (rd:Rep X.K H d (.ref b)) {Q:Bool->Shared->Prop} {E:Value->Shared->Prop}
  (q:Q (decide (d∈xs.map (·.1))) { s with toks:=s.toks+zZ d }):wpAny (model X.prog X.w) X.A (contains (.ref a) (.ref b)) Q E s:=by
 obtain⟨⟨o,es,ep,t,S⟩,_⟩:=I.hok a _ hS
 exact aeo S (fun x hx=>vz I (ks x hx).1 (ks x hx).2) (vz I kd rd) (by omega) q
theorem ahz {X:Cx} (hu:X.A.units+64<cLine):OpR X (compareOp .NotIn) (am5 X.w X.K true):=by
 intro pins s σ H x y v u Q I rx ry h
 obtain⟨a,b,d,xs,rfl,rfl,hS,ks,kd,rd,q⟩:=h
 cases rx
 cases ry
 show wpAny _ _ (do return Value.bool (!(<- contains (.ref a) (.ref b)))) _ _ s
 apply wpAny_bind
 exact akX hu I hS ks kd rd (wpAny_pure ⟨.bl _,H,I.tok _,rfl,q⟩)
theorem afr {X:Cx} {K:aoZ} {w:World} (hw:X.w=w) (hK:X.K=K) (hu:X.A.units+64<cLine):OpR X (compareOp .NotIn) (am5 w K true):=hw▸hK▸ahz hu
def ajc (w:World) (K:aoZ):V->List V->Hp->VK->Prop:=fun x ys H Q=>∃ a b d xs,x=.ref a/\ys=[.ref b]/\H a=some (SetO w a xs)/\(∀ z∈xs,vT z.1/\Rep K H z.1 (.ref z.2))/\vT d/\Rep K H d (.ref b)/\xs.length<300 /\
 (d∈xs.map (·.1)->Q .non H)/\(d∉xs.map (·.1)->∀ xs',xs'.Perm ((d,b) :: xs)->Q .non (upd H a (SetO w a xs')))
theorem akY {X:Cx} (hu:X.A.units+64<cLine):MtR X "set.add" (ajc X.w X.K):=by
 intro pins s σ H x ys v us Q I rx ry h
 obtain⟨a,b,d,xs,rfl,rfl,hS,ks,kd,rd,few,q1,q2⟩:=h
 obtain⟨u,rfl,ru⟩:=vals1 ry
 cases rx
 cases ru
 obtain⟨⟨o,es,ep,t,S⟩,_⟩:=I.hok a _ hS
 refine am2 S (fun x hx=>vz I (ks x hx).1 (ks x hx).2) (vz I kd rd) (by omega) few (fun hd=>⟨.non,H,I.tok _,rfl,q1 hd⟩) fun hd xs' o' es' ep' t' h' pm sb S'=>?_
 refine⟨.non,_,I.write (t':=s.toks+zZ d) (x:=a) (e:=a) (by rw [hS];exact trivial) (.inl rfl) (fun b u nb e=>(sb.2 b nb).trans e) ⟨o',S'.ob⟩ (SetO.ok S'),rfl,q2 hd xs' pm⟩
theorem ajd {X:Cx} {K:aoZ} {w:World} (hw:X.w=w) (hK:X.K=K) (hu:X.A.units+64<cLine):MtR X "set.add" (ajc w K):=hw▸hK▸akY hu
theorem adl {X:Cx} {w:World} (hw:X.w=w):yo X (.type "set") (adk w):=hw▸aep
def aol (w:World) (r:V->List V->Hp->VK->Prop) (to:TE) (t:TA):TE:=fun σ H Q=>to σ H fun x H1=>(∃ a xs,x=.ref a/\H1 a=some (SetO w a xs))/\t σ H1 fun xs H2=>r x xs H2 Q
theorem am6 {X:Cx} {w:World} {o e:Expr} {es:List Expr} {to:TE} {t:TA} {name:Str} {apos cpos:Pos} {id:String} {r:V->List V->Hp->VK->Prop} (hw:X.w=w) (slot:Slot "set" name id) (hty:typeOf (.builtin id)=pure (.type "method_descriptor")) (hm:MtR X id r) (ho:PE X o to) (ha:PA X (e :: es) t)
  (hbase:attributeBase o name X.env (eval o X.env)=eval o X.env:=by rfl)
  (hfew:((backTo cpos (starEach (e :: es) X.env)).all (fun x=>!x.1) && (backToKw cpos (keywordEach [] X.env)).all (fun x=>x.1.isSome)
   && decide ((e :: es).length+([]:List Keyword).length+(if ([]:List Keyword).isEmpty then 0 else 1)<30))=true:=by rfl)
  (hline:(apos.endLine == cpos.line)=true:=by rfl) (hs:starEach (e :: es) X.env=(false,eval e X.env) :: starEach es X.env:=by rfl) (hplain:(backTo cpos (starEach es X.env)).any (·.1)=false:=by rfl) :
  PE X (.Call (.Attribute o name apos) (e :: es) [] cpos) (aol w r to t):=by
 subst hw
 intro pins s σ H Q I h
 refine wpAny_Call_method_late hbase hfew hline rfl (thn (ho pins s σ H _ I h) fun v s1 ⟨x,H1,I1,r1,ty,q1⟩=>?_)
 obtain⟨a,xs,rfl,hS⟩:=ty
 cases r1
 obtain⟨⟨ob,es',ep,t',S⟩,_⟩:=I1.hok a _ hS
 refine⟨"set",id,PySem.F.plainAttrs_set,slot,hty,⟨ob,S.ob,S.ex.1⟩,fun b e=>?_,?_⟩
 ·cases e
  exact⟨ob,S.ob,S.ex.2.1⟩
 have hA:=ha cpos pins s1 σ H1 _ I1 q1
 rw [hs] at hA ⊢
 refine ari (by show (false || (backTo cpos (starEach es X.env)).any (·.1))=false;rw [hplain] <;> rfl) (asK ?_)
 exact thn hA fun us s2 ⟨vs,H2,I2,r2,q2⟩=>hm pins s2 σ H2 (.ref a) vs (.ref a) us Q I2 rfl r2 q2
section
variable {w:World} {K:aoZ} {f:Fx} {Ds:List Addr} {ρ:zm} {cs:List OC} {te:TE} {O:MEnds} {i j:Nat} {ks:List PyData}
theorem am7 {P:OC->Prop} (p:P (.set [])):ai6 w K f (tCB (adk w) y4) ρ P:=fun σ H Q e q =>
 ⟨rfl,fun a hn=>q (.set []) a _ (.of_same (zR hn _) e.fd) hn ⟨[],zq,(fun _ z=>nomatch z),(fun d=>Iff.rfl),ao6 0⟩ p⟩
theorem aom {neg:Bool} {B:Bool->Prop} (hi:ρ[i]?=some (some (.own (f.M.length+j)))) (hc:cs[j]?=some (.set ks)) (h:PEm w K f Ds te ρ cs fun d=>ahy d/\B (if neg then !decide (d∈ks) else decide (d∈ks))) :
  PTm w K f Ds (af0 (tOp (am5 w K neg) te (z6 i))) ρ cs B:=fun se σ H H2 Q x q=>by
 have hj:j<Ds.length:=by rw [<-x.len];exact (ao1.mp hc).1
 have hD:Ds[j]?=some Ds[j]:=aoW hj
 refine h se σ H H2 _ x fun d v H1 g1 r1 ⟨kd,p⟩=>?_
 have x1:=x.go g1 (x.env.mono g1)
 obtain⟨b,rfl⟩:=aa0 kd r1
 obtain⟨xs,h1,h2,h3,_⟩:=x1.own j _ _ hD hc
 refine⟨_,vU hi x1 hD,Ds[j],b,d,xs,rfl,rfl,h1,fun z hz=>⟨(h2 z hz).1,Rep.mono (zl _ _) _ _ (h2 z hz).2⟩,kd.1,Rep.mono (zl _ _) _ _ r1,_,rfl,?_⟩
 have:decide (d∈xs.map (·.1))=decide (d∈ks):=decide_eq_decide.mpr (h3 d)
 rw [this]
 exact q _ H1 g1 p
theorem aon (hi:ρ[i]?=some (some (.own (f.M.length+j)))) (hc:cs[j]?=some (.set ks)) (hl:ks.length<300) (h:PEm w K f Ds te ρ cs fun d=>ahy d/\(d∈ks->O.nx ρ cs)/\(d∉ks->O.nx ρ (cs.set j (.set (d :: ks))))) :
  PSm w K f Ds (aaC (aol w (ajc w K) (z6 i) (zY te y4))) ρ cs O:=fun se σ H H2 E x n r b k=>by
 have hj:j<Ds.length:=by rw [<-x.len];exact (ao1.mp hc).1
 have hD:Ds[j]?=some Ds[j]:=aoW hj
 obtain⟨xs0,h0,_⟩:=x.own j _ _ hD hc
 refine⟨_,vU hi x hD,⟨Ds[j],xs0,rfl,h0⟩,?_⟩
 refine h se σ H H2 _ x fun d v H1 g1 r1 ⟨kd,p1,p2⟩=>?_
 have x1:=x.go g1 (x.env.mono g1)
 obtain⟨b,rfl⟩:=aa0 kd r1
 obtain⟨xs,h1,h2,h3,h4⟩:=x1.own j _ _ hD hc
 refine⟨Ds[j],b,d,xs,rfl,rfl,h1,fun z hz=>⟨(h2 z hz).1,Rep.mono (zl _ _) _ _ (h2 z hz).2⟩,kd.1,Rep.mono (zl _ _) _ _ r1,by omega,fun hd=>n _ _ _ _ x1 (p1 ((h3 d).mp hd)),fun hd xs' pm=>n _ _ _ _ (x1.put se hD (c':=.set (d :: ks)) ⟨xs',zq,fun z hz=>?_,fun e=>?_,?_⟩) (p2 fun z=>hd ((h3 d).mpr z))⟩
 ·rcases ao7.mp (pm.mem_iff.mp hz) with rfl | hz
  ·exact⟨kd.1,r1⟩
  ·exact h2 z hz
 ·rw [(pm.map (·.1)).mem_iff,apq,ao7,ao7,h3 e]
 ·rw [pm.length_eq,aph,aph]
  omega
end
theorem DicO.ok {P:Program} {w:World} {H:Hp} {h:Heap} {a:Addr} {xs:List (PyData×Addr×Value)} {o:Obj} {es:Array DictEntry} {ep:Nat} (S:DicObj w h a xs o es ep):ObjOk P w H h a (DicO w a xs) :=
 ⟨⟨o,es,ep,S⟩,⟨o,S.ob⟩,fun h1 h2 ⟨o,es,ep,S⟩ k=>⟨o,es,ep,⟨k o S.ob,S.ex,S.da,S.el,S.nd,S.ns⟩⟩⟩
theorem akZ {X:Cx} {pins:List (Addr×Obj)} {σ:St} {H:Hp} {s:Shared} (I:Inv X pins σ H s):sysModules<s.heap.objs.size :=
 as8 (by decide) (I.ok.mod.glob.keeps I.bk).lt
def agz (w:World):TE:=fun _ H Q=>∀ p,H p=none->Q (.ref p) (upd H p (DicO w p []))
theorem ahA {X:Cx} {w:World} {pos:Pos} (hw:X.w=w):PE X (.Dict [] [] pos) (agz w):=by
 subst hw
 intro pins s σ H Q I h
 refine wpAny_Dict_empty ⟨.ref s.heap.objs.size,_,I.laid (a:=s.heap.objs.size) (t':=s.toks) (fun _ _ q=>ao2 _ q) (ao6 _) (DicO.ok (xs:=[]) (o:={ cls:=.type "dict",data:=.dict #[] }) (es:=#[]) (ep:=0) ⟨apA _ rfl,⟨rfl,rfl,rfl⟩,rfl,rfl,aqD,beq_eq_false_iff_ne.mpr (apT (apw (akZ I)))⟩),rfl,h _ (I.hok.fresh (ao6 _))⟩
abbrev adm (K:aoZ) (H:Hp) (xs:List (PyData×Addr×Value)):Prop:=∀ z∈xs,vT z.1/\Rep K H z.1 (.ref z.2.1)
theorem aje {X:Cx} {pins:List (Addr×Obj)} {σ:St} {H:Hp} {s:Shared} {a:Addr} {xs:List (PyData×Addr×Value)} (I:Inv X pins σ H s) (hS:H a=some (DicO X.w a xs)) (ks:adm X.K H xs):s.heap.DictOfH (aaZ X.prog X.w) a xs/\(a == sysModules)=false:=by
 obtain⟨⟨o,es,ep,S⟩,_⟩:=I.hok a _ hS
 exact⟨⟨o,es,ep,S.ob,S.ex,S.da,S.el,fun x hx=>vz I (ks x hx).1 (ks x hx).2,S.nd⟩,S.ns⟩
def adn (w:World) (K:aoZ):V->V->V->Hp->(Hp->Prop)->Prop:=fun o i v H Q=>∃ a b d xs,o=.ref a/\i=.ref b/\H a=some (DicO w a xs)/\adm K H xs/\vT d/\Rep K H d (.ref b)/\xs.length<=1000/\∀ u,RelV v u->Q (upd H a (DicO w a (storedH xs d b u)))
theorem ak0 {X:Cx} (hu:X.A.units+64<cLine):akr X (adn X.w X.K):=by
 intro pins s σ H o i v ov iv u Q I ro ri rv h
 obtain⟨a,b,d,xs,rfl,rfl,hS,ks,kd,rd,hl,q⟩:=h
 cases ro
 cases ri
 obtain⟨hm,ns⟩:=aje I hS ks
 have hu1:X.A.in1.units=X.A.units+1:=rfl
 refine wpAny_setItem_heap (by show _+40<cLine;omega) (vz I kd rd) hm (fun h' hm' sb=>?_) (ap1 (zX hl))
 obtain⟨o',es',ep',x1,x2,x3,x4,x5,x6⟩:=hm'
 exact⟨_,I.write (t':=s.toks+zZ d) (x:=a) (e:=a) (by rw [hS];exact trivial) (.inl rfl) (fun b u nb e=>(sb.2 b nb).trans e) ⟨o',x1⟩ (DicO.ok ⟨x1,x2,x3,x4,x6,ns⟩),q u rv⟩
theorem aeq {X:Cx} {K:aoZ} {w:World} (hw:X.w=w) (hK:X.K=K) (hu:X.A.units+64<cLine):akr X (adn w K):=hw▸hK▸ak0 hu
def afs (w:World) (K:aoZ):R2:=fun x y H Q=>∃ a b d xs p v,x=.ref a/\y=.ref b/\H a=some (DicO w a xs)/\adm K H xs/\vT d/\Rep K H d (.ref b)/\atKey xs d=some p/\RelV v p.2/\Q v H
theorem am8 {X:Cx} (hu:X.A.units+64<cLine):IxR X (afs X.w X.K):=by
 intro value slice pins s σ H x y v u Q I rx ry h hs
 obtain⟨a,b,d,xs,p,z,rfl,rfl,hS,ks,kd,rd,hp,rz,q⟩:=h
 cases rx
 cases ry
 obtain⟨hm,ns⟩:=aje I hS ks
 have hu1:X.A.in1.units=X.A.units+1:=rfl
 refine subscriptTail_builtinR (x:=p.2) hm.typeIs ar3.lookup ?_ hs
 exact wpAny_getItem_heap (by show _+40<cLine;omega) (vz I kd rd) hm hp ⟨rfl,z,H,I.tok _,rz,q⟩
theorem ak1 {X:Cx} {K:aoZ} {w:World} (hw:X.w=w) (hK:X.K=K) (hu:X.A.units+64<cLine):IxR X (afs w K):=hw▸hK▸am8 hu
noncomputable def dput (k v:PyData) (kvs:List (PyData×PyData)):List (PyData×PyData):=if k∈kvs.map (·.1) then kvs.map (fun p=>if p.1=k then (p.1,v) else p) else kvs++[(k,v)]
noncomputable def vV (k:PyData) (kvs:List (PyData×PyData)):Option PyData:=(kvs.find? fun p=>decide (p.1=k)).map (·.2)
section
variable {K:aoZ} {Hh:Hp}
theorem agA:∀ {xs:List (PyData×Addr×Value)} {kvs:List (PyData×PyData)},Paired (EntR K Hh) xs kvs->xs.length=kvs.length
 | _,_,.nil=>rfl
 | _,_,.cons _ t=>by rw [aph,aph,agA t]
theorem qI:∀ {xs:List (PyData×Addr×Value)} {kvs:List (PyData×PyData)},Paired (EntR K Hh) xs kvs->adm K Hh xs
 | _,_,.nil=>fun z hz=>nomatch hz
 | _,_,.cons h t=>fun z hz=>by
  rcases ao7.mp hz with rfl | hz
  ·exact⟨h.2.1,h.2.2.1⟩
  ·exact qI t z hz
theorem ado (k:PyData):∀ {xs:List (PyData×Addr×Value)} {kvs:List (PyData×PyData)},Paired (EntR K Hh) xs kvs->(atKey xs k=none/\vV k kvs=none/\k∉kvs.map (·.1)) \/ ∃ p d v,atKey xs k=some p/\vV k kvs=some d/\Rep K Hh d v/\RelV v p.2/\k∈kvs.map (·.1)
 | _,_,.nil=>.inl ⟨rfl,rfl,fun z=>nomatch z⟩
 | x :: xs,p :: kvs,.cons ⟨h1,h2,h3,v,h4,h5⟩ t=>by
  by_cases e:x.1=k
  ·refine .inr ⟨x.2,p.2,v,?_,?_,h4,h5,?_⟩
   ·unfold atKey;rw [arO,decide_eq_true e];rfl
   ·unfold vV;rw [arO,decide_eq_true (h1▸e)];rfl
   ·rw [apq];exact ao7.mpr (.inl (h1▸e).symm)
  ·have e':¬ p.1=k:=fun z=>e (h1.trans z)
   have a1:atKey (x :: xs) k=atKey xs k:=by unfold atKey;rw [arO,decide_eq_false e]
   have a2:vV k (p :: kvs)=vV k kvs:=by unfold vV;rw [arO,decide_eq_false e']
   rw [a1,a2,apq]
   rcases ado k t with⟨b1,b2,b3⟩ | ⟨q,d,u,b1,b2,b3,b4,b5⟩
   ·exact .inl ⟨b1,b2,fun z=>(ao7.mp z).elim (fun z=>e' z.symm) b3⟩
   ·exact .inr ⟨q,d,u,b1,b2,b3,b4,ao3 _ b5⟩
theorem agB (k:PyData) {d:PyData} {v:V} {u:Value} (rd:Rep K Hh d v) (rv:RelV v u):∀ {xs:List (PyData×Addr×Value)} {kvs:List (PyData×PyData)},Paired (EntR K Hh) xs kvs->Paired (EntR K Hh) (xs.map (putAt k u)) (kvs.map fun p=>if p.1=k then (p.1,d) else p)
 | _,_,.nil=>.nil
 | x :: xs,p :: kvs,.cons ⟨h1,h2,h3,w,h4,h5⟩ t=>by
  rw [apq,apq]
  refine .cons ?_ (agB k rd rv t)
  unfold putAt
  by_cases e:x.1=k
  ·rw [if_pos e,if_pos (h1▸e)]
   exact⟨h1,h2,h3,v,rd,rv⟩
  ·rw [if_neg e,if_neg (fun z=>e (h1.trans z))]
   exact⟨h1,h2,h3,w,h4,h5⟩
theorem agC {x:PyData×Addr×Value} {p:PyData×PyData} (h:EntR K Hh x p):∀ {xs:List (PyData×Addr×Value)} {kvs:List (PyData×PyData)},Paired (EntR K Hh) xs kvs->Paired (EntR K Hh) (xs++[x]) (kvs++[p])
 | _,_,.nil=>.cons h .nil
 | _,_,.cons h' t=>.cons h' (agC h t)
theorem ak2 {k d:PyData} {b:Addr} {v:V} {u:Value} (kk:vT k) (rk:Rep K Hh k (.ref b)) (rd:Rep K Hh d v) (rv:RelV v u) {xs:List (PyData×Addr×Value)} {kvs:List (PyData×PyData)} (t:Paired (EntR K Hh) xs kvs):Paired (EntR K Hh) (storedH xs k b u) (dput k d kvs):=by
 unfold storedH dput
 rcases ado k t with⟨b1,b2,b3⟩ | ⟨q,d',v',b1,b2,b3,b4,b5⟩
 ·rw [b1,if_neg (by simp),if_neg b3]
  exact agC ⟨rfl,kk,rk,v,rd,rv⟩ t
 ·rw [b1,if_pos (show (some q).isSome=true from rfl),if_pos b5]
  exact agB k rd rv t
end
section
variable {w:World} {K:aoZ} {f:Fx} {Ds:List Addr} {ρ:zm} {cs:List OC} {te tk:TE} {O:MEnds} {i j:Nat} {kvs:List (PyData×PyData)}
theorem am9 {P:OC->Prop} (p:P (.dic [])):ai6 w K f (agz w) ρ P:=fun σ H Q e q =>
 fun a hn=>q (.dic []) a _ (.of_same (zR hn _) e.fd) hn ⟨[],zq,.nil⟩ p
theorem al8 (hi:ρ[i]?=some (some (.own (f.M.length+j)))) (hc:cs[j]?=some (.dic kvs)) (hl:kvs.length<=1000)
  (h:PEd K (f.withs Ds) te ρ fun v=>PEd K (f.withs Ds) tk ρ fun k=>ahy k/\O.nx ρ (cs.set j (.dic (dput k v kvs)))) :
  PSm w K f Ds (qe te (acQ (z6 i) tk (adn w K))) ρ cs O:=fun se σ H H2 E x n r b k=>by
 have hj:j<Ds.length:=by rw [<-x.len];exact (ao1.mp hc).1
 have hD:Ds[j]?=some Ds[j]:=aoW hj
 refine h σ H _ x.env fun v vv H1 g1 r1 p1=>?_
 have x1:=x.go g1 (x.env.mono g1)
 refine⟨_,vU hi x1 hD,?_⟩
 refine p1 σ H1 _ x1.env fun kd kv H3 g3 r3 ⟨kt,p3⟩=>?_
 have x3:=x1.go g3 (x1.env.mono g3)
 obtain⟨b',rfl⟩:=aa0 kt r3
 obtain⟨xs,h1,h2⟩:=x3.own j _ _ hD hc
 have rv:=Rep.mono g3.sm _ _ r1
 refine⟨Ds[j],b',kd,xs,rfl,rfl,h1,fun z hz=>⟨(qI h2 z hz).1,Rep.mono (zl _ _) _ _ (qI h2 z hz).2⟩,kt.1,Rep.mono (zl _ _) _ _ r3,by rw [agA h2];exact hl,fun u ru=>?_⟩
 exact n _ _ _ _ (x3.put se hD (c':=.dic (dput kd v kvs)) ⟨_,zq,ak2 kt.1 r3 rv ru h2⟩) p3
theorem aoo {P:PyData->Prop} (hi:ρ[i]?=some (some (.own (f.M.length+j)))) (hc:cs[j]?=some (.dic kvs)) (h:PEm w K f Ds tk ρ cs fun k=>ahy k/\∃ d,vV k kvs=some d/\P d):PEm w K f Ds (tOp (afs w K) (z6 i) tk) ρ cs P:=fun se σ H H2 Q x q=>by
 have hj:j<Ds.length:=by rw [<-x.len];exact (ao1.mp hc).1
 have hD:Ds[j]?=some Ds[j]:=aoW hj
 refine⟨_,vU hi x hD,?_⟩
 refine h se σ H H2 _ x fun k v H1 g1 r1 ⟨kt,d,hd,p⟩=>?_
 have x1:=x.go g1 (x.env.mono g1)
 obtain⟨b,rfl⟩:=aa0 kt r1
 obtain⟨xs,h1,h2⟩:=x1.own j _ _ hD hc
 rcases ado k h2 with⟨b1,b2,b3⟩ | ⟨pp,d',v',b1,b2,b3,b4,b5⟩
 ·rw [b2] at hd;cases hd
 ·rw [b2] at hd
  cases hd
  exact⟨Ds[j],b,k,xs,pp,v',rfl,rfl,h1,fun z hz=>⟨(qI h2 z hz).1,Rep.mono (zl _ _) _ _ (qI h2 z hz).2⟩,kt.1,Rep.mono (zl _ _) _ _ r1,b1,b4,q _ _ H1 g1 b3 p⟩
theorem aop (h:PEm w K f Ds te ρ cs O.rt):PSm w K f Ds (ag9 te) ρ cs O:=fun se σ H H2 E x n r b k =>
 h se σ H H2 _ x fun d v H' g' r' p=>r d v ρ cs σ H' (x.go g' (x.env.mono g')) (Rep.mono same_withs d v r') p
end
def ak3 (K:aoZ) (ns:List Int) (v:Value):Bool:=match v with
 | .ref t=>(match K.lookup t with
  | some o=>o.cls == .type "tuple" && (match o.data with
   | .seq its _=>KTD.intsLook its.toList ns && decide (its.size<=1000)
   | _=>false)
  | none=>false)
 | _=>false
def ahB (K:aoZ) (a:Addr) (D:List (Str×List Int)):Bool:=!(a == sysModules) && (match K.lookup a with
 | some o=>o.cls == .type "dict" && o.dict.isNone && o.slots.isEmpty && (match o.data with
  | .dict es _=>KTD.rowsLook (ak3 K) es.toList D
  | _=>false)
 | none=>false)
theorem acy:∀ {vs:List Value} {ns:List Int},IntsAre vs ns->Vals (ns.map V.int) vs
 | _,_,.nil=>.nil
 | _,_,.cons n t h=>.cons ⟨t,rfl⟩ (acy h)
theorem ana {K:aoZ} {ns:List Int} {v:Value} (h:ak3 K ns v=true):∃ t,v=.ref t/\∀ H,SqT K H t (ns.map V.int):=by
 unfold ak3 at h
 split at h
 ·rename_i t
  split at h
  ·rename_i o ho
   rw [ao8] at h
   obtain⟨h1,h2⟩:=h
   split at h2
   ·rename_i its n hd
    rw [ao8] at h2
    exact⟨t,rfl,fun H=>.inr ⟨o,its,n,ho,beq_iff_eq.mp h1,hd,ap1 (zX (of_decide_eq_true h2.2)),acy (KTD.ints_of_look h2.1)⟩⟩
   ·cases h2
  ·cases h
 ·cases h
def aoq (K:aoZ) (D:List (Str×List Int)) (tk:TE):TE:=fun σ H Q=>tk σ H fun y H1=>∃ x ns,y=.str x/\asT x D=some ns/\∀ t,(∀ H',SqT K H' t (ns.map V.int))->Q (.ref t) H1
theorem ajf {X:Cx} {K:aoZ} {x:Str} {a:Addr} {D:List (Str×List Int)} {key:Expr} {tk:TE} {p pos:Pos} (hK:X.K=K) (hg:Gl X x) (hm:X.mg x=some (.ref a)) (hT:ahB K a D=true) (hk:PE X key tk) (hs:af5 key) (hd:(x == ("__debug__":Str))=false:=by decide) :
  PE X (.Subscript (.Name x p) key pos) (aoq K D tk):=by
 subst hK
 intro pins s σ H Q I h
 unfold ahB at hT
 rw [ao8] at hT
 obtain⟨h0,hT⟩:=hT
 split at hT
 case h_2=>cases hT
 case h_1 o ho =>
  simp only [ao8] at hT
  obtain⟨⟨⟨e1,e2⟩,e3⟩,e4⟩:=hT
  split at e4
  case h_2=>cases e4
  case h_1 es ep hdat =>
   have rows:KTD.Rows (fun ns v=>ak3 X.K ns v=true) es.toList D:=KTD.rows_of_look (fun _ _ z=>z) e4
   refine Subscript_ (jD I hg hm ?_ hd)
   refine thn (hk pins s σ H _ I h) fun u s1 ⟨y,H1,I1,ry,z,ns,ey,dat,q⟩=>?_
   subst ey
   obtain⟨tk',rfl⟩:=ry
   have ho1:s1.heap.get? a=some o:=I1.kIn a o ho
   have hT1:s1.TypeIs (.ref a) "dict":=⟨o,ho1,beq_iff_eq.mp e1⟩
   obtain⟨v,hv,hr⟩:=rows.find_some dat
   obtain⟨t,rfl,sq⟩:=ana hr
   refine subscriptTail_builtinR (x:=.ref t) hT1 ar3.lookup ?_ (hs _ _)
   unfold getItem
   try with_reducible refine wpAny_holding ?_
   apply wpAny_bind;refine wpAny_sequenceKey hT1 (by decide) ?_
   apply wpAny_bind
   refine wpAny_callSpecial?_slot (name:=arl "__getitem__") hT1 slot_dict_getitem (wpAny_call_entry slot_dict_getitem hT1 entry_dict_getitem ?_ (args_dict_getitem _ _))
   show wpAny _ _ (dictGet a (.str z tk') >>= _) _ _ s1
   apply wpAny_bind
   unfold dictGet
   try with_reducible refine wpAny_holding ?_
   apply wpAny_bind;apply wpAny_pyHash_str
   apply wpAny_bind
   refine KTD.kt_dictFind_strs (s:={ s1 with toks:=s1.toks+1 }) ho1 hdat (by obtain⟨l⟩:=es;simpa using rows.exact) ?_
   cases hi:es.findIdx? fun e=>e.key.isStr z with
   | none =>
    exfalso
    have hn:es.toList.find? (fun e=>e.key.isStr z)=none:=by
     rw [List.find?_eq_none]
     intro e he
     have:=Array.findIdx?_eq_none_iff.mp hi e (arH.mp he)
     simpa using this
    rw [hn] at hv
    cases hv
   | some i =>
    obtain⟨hlt,hi1,hi2⟩:=Array.findIdx?_eq_some_iff_getElem.mp hi
    have hval:es[i].val=.ref t:=by
     have hf:es.toList.find? (fun e=>e.key.isStr z)=some es[i]:=by
      rw [List.find?_eq_some_iff_getElem]
      refine⟨hi1,i,by simpa using hlt,by simp,fun j hj=>?_⟩
      have:=hi2 j hj
      simpa using this
     rw [hf] at hv
     exact Option.some.inj hv
    apply wpAny_bind
    refine wpAny_dictEntries (s:={ s1 with toks:=s1.toks+1 }) ho1 hdat (wpAny_pure ?_)
    rw [ar2 hlt]
    refine wpAny_pure ⟨es[i].val,rfl,wpAny_pure ?_⟩
    rw [hval]
    exact⟨rfl,.ref t,H1,I1.tok _,rfl,q t sq⟩
section
variable {K:aoZ} {f:Fx} {ρ:zm} {P:PyData->Prop} {tk:TE} {D:List (Str×List Int)}
theorem al9 (h:PEd K f tk ρ fun y=>∃ x ns,y=.str x/\asT x D=some ns/\P (.tuple (ns.map .int))):PEd K f (aoq K D tk) ρ P:=fun σ H Q e q =>
 h σ H _ e fun y v H1 g1 r1 ⟨x,ns,ey,hd,p⟩=>by
  subst ey
  exact⟨x,ns,rep_str.mp r1,hd,fun t sq=>q _ _ H1 g1 (rep_tuple.mpr ⟨t,ns.map V.int,rfl,sq _,Reps.ints' ns⟩) p⟩
end
structure MinAt (h0:Heap) (its:List Value) (ds:List PyData) (as:List Addr):Prop where
 ra:ReadsAll h0 its ds as
 pl:∀ d∈ds,zA d=true
 cp:∀ d∈ds,∀ e∈ds,aaS d e=true
 dp:∀ d∈ds,d.depth<=50
section
variable {w:World} {K:aoZ} {f:Fx} {Ds:List Addr} {ρ:zm} {cs:List OC} {O:MEnds} {tt:TT} {te:TE} {i j n:Nat}
abbrev agD (K:aoZ):List V->Hp->VK->Prop:=fun xs H Q=>∃ p ys,xs=[V.ref p]/\(SqL K H p ys \/ SqT K H p ys)/\∀ l,H l=none->Q (V.ref l) (upd H l (HO.lst ys))
end
end L2
end
section
namespace L2
open PySem PySem.Spec PyProof.Rows
structure TM (K:aoZ) (f:Fx) (a:Addr) (as:List Addr) (H2:Hp) (ρ:zm) (rows:List (List Int)) (σ:St) (H:Hp):Prop where
 env:EnvOk K (f.withs (a :: as)) ρ σ H
 sm:Same (hide H2 (f.withs (a :: as))) (hide H (f.withs (a :: as)))
 kp:∀ b∈f.M,H b=H2 b
 tab:TabAt H a as rows
section
variable {K:aoZ} {f:Fx} {a:Addr} {as:List Addr} {ρ ρ2:zm} {rows:List (List Int)} {O:zm->List (List Int)->Prop} {ts tu:TS} {te ty tx:TE} {i:Nat} {σ σ2:St} {H H' H2:Hp}
theorem TabAt.keep (t:TabAt H a as rows) (h:∀ b∈a :: as,H' b=H b):TabAt H' a as rows :=
 ⟨(h a (apa ..)).trans t.top,t.nd,t.len,fun i x r h1 h2=>(h x (ao3 _ (ao4 h1))).trans (t.row i x r h1 h2)⟩
theorem ahD {Ds:List Addr} (g:Same (hide H f) (hide H' f)) (hn:∀ D∈Ds,H D=none):Same (hide H f) (hide H' (f.withs Ds)):=fun b o hb=>by
 have hb1:=g b o hb
 refine zz (fun z=>?_) (zF hb1).2
 rcases z with z | z
 ·exact (zF hb1).1 (.inl z)
 ·rcases aps.mp z with z | z
  ·have:=(zF hb).2
   rw [hn b (ap4.mp z)] at this
   cases this
  ·exact (zF hb1).1 (.inr z)
theorem ajg {P:List PyData->Prop} (h:PEd K f te ρ fun x=>∃ ds,x=.list ds/\P ds):PEdL K f (tCB (agD K) (zY te y4)) ρ P:=fun σ H Q e q=>h σ H _ e fun x v H1 g1 r1 ⟨ds,ex,p⟩=>by
 subst ex
 obtain⟨a,ys,rfl,s1,s2⟩:=rep_list.mp r1
 refine⟨a,ys,rfl,.inl ((zl _ _).seq s1),fun l hn=>?_⟩
 have g2:Goes f H1 (upd H1 l (.lst ys)):=.of_same (zR hn _) g1.2
 exact q ds l ys _ (g1.trans g2) (g1.free e.fd hn) zq (Reps.mono g2.1 ds ys s2) p
theorem anb {P:List (List Int)->Prop} (hi:ρ[i]?=some (some (.dat (.list (rows.map fun r=>.list (r.map .int)))))) (hl:rows.length<=1000) (p:P rows) :
  PEdT K f (jf (ab6 K (z6 i)) 1 [] (yz 0) acZ fun D=>jv D (tCB (agD K) (zY (z6 0) y4))) ρ P:=by
 refine amN (zo hi ⟨_,rfl,by rw [aoX];exact hl,fun k r=>rows[k]?=some r,fun D k d hd=>?_,fun rows' hl' hr=>?_⟩)
 ·rw [ao5] at hd
  cases e:rows[k]? with
  | none=>rw [e] at hd;cases hd
  | some r =>
   rw [e] at hd
   cases hd
   exact ajg (zo rfl ⟨_,rfl,r,rfl,e⟩)
 ·have:rows'=rows:=by
   refine arn fun k=>?_
   rw [aoX] at hl'
   by_cases h:k<rows'.length
   ·rw [aoW h]
    exact (hr k _ (aoW h)).symm
   ·rw [apt (by omega),apt (by omega)]
  rw [this]
  exact p
end
end L2
end
section
namespace L2
open PySem PySem.Spec PyProof.Rows
section
variable {K:aoZ} {f:Fx} {ρ:zm} {ts tu:TS} {O:DEnds} {te:TE} {i:Nat}
theorem jY (J:zm->Prop) (h1:PSd K f ts ρ { O with nx:=J }) (h2:∀ ρ',J ρ'->PSd K f tu ρ' O):PSd K f (qz ts tu) ρ O :=
 zV fun σ H E e n r b k=>h1 σ H E e (fun ρ' σ' H' g' e' p=>n ρ' σ' H' g' e' (h2 ρ' p)) r b k
theorem ak4 {P:PyData->Prop} {γ:Type} {n:Nat} {pre:γ->List DV->Prop} {post:γ->PyData->Prop} {E:XK} {t:TA} (h:PAd K f t ρ fun xs=>∃ c,xs.length=n/\pre c xs/\∀ r,post c r->P r):PEd K f (vg (spD K n pre post) [] E t) ρ P:=fun σ H Q e q =>
 h σ H _ e fun xs vs H1 g1 r1 ⟨c,hl,hp,k⟩=>⟨f,xs,c,by rw [apB];exact r1,hl,g1.2,hp,fun r v H' g' r' p'=>q r v H' (g1.trans g') r' (k r p')⟩
end
section
variable {K:aoZ} {f:Fx} {ρ:zm} {wi:TI} {g:TG} {tt:TT} {own:Nat} {fr:List Nat} {tb:Addr->TB} {P:List PyData->Prop}
theorem anc {α:Type} {A B:α->PyData} (p:α->Bool) (xs:List α) (h:PId K f wi ρ fun ds=>ds=xs.map A/\xs.length<=1000 /\
   (∀ D x ρ' es,x∈xs->OwnE own (frD fr ρ) ρ'->es.length<1000->PGd K (f.with D) g (A x) ρ' fun ρ2=>PTd K (f.with D) tt ρ2 fun b=>b=p x/\if b=true then PBd K f D (tb D) ρ2 es fun ρ3 es3=>OwnE own (frD fr ρ) ρ3/\es3=es++[B x] else OwnE own (frD fr ρ) ρ2)/\P ((xs.filter p).map B)) :
  PEdO K f (jf wi own fr g tt tb) ρ P :=
 qD (h.imp fun ds ⟨ed,hl,hs,hp⟩=>by
  subst ed
  refine⟨fun i ρ' es=>OwnE own (frD fr ρ) ρ'/\es=((xs.take i).filter p).map B,⟨⟨aqB own none,by simp,rfl⟩,by simp⟩,fun D i d ρ' es hd ⟨ho,he⟩=>?_,fun ρ' es ⟨_,he⟩=>?_⟩
  ·rw [ao5] at hd
   cases eq:xs[i]? with
   | none=>rw [eq] at hd;cases hd
   | some x =>
    rw [eq] at hd
    cases hd
    have hi:i<xs.length:=(ao1.mp eq).1
    have tk:xs.take (i+1)=xs.take i++[x]:=by rw [aqP,eq];rfl
    have hb:es.length<1000:=by
     have:=ap7 p (xs.take i)
     rw [apK] at this
     rw [he,aoX]
     omega
    intro σ H v Q e r q
    refine hs D x ρ' es (ao4 eq) ho hb σ H v Q e r fun ρ2 σ2 H2 g2 e2 p2=>q ρ2 σ2 H2 g2 e2 (p2.imp fun b hb2=>?_)
    obtain⟨eb,hb2⟩:=hb2
    cases b with
    | false =>
     rw [if_neg aoY] at hb2 ⊢
     refine⟨hb2,?_⟩
     rw [tk,ap9,apv,apV,<- eb,if_neg aoY,he]
     simp
    | true =>
     rw [if_pos rfl] at hb2 ⊢
     intro h1 h2 σ3 H3 H4 W c k
     exact hb2 h1 h2 σ3 H3 H4 W c fun ρ5 es5 σ5 H5 c5 ⟨o5,p5⟩=>k ρ5 es5 σ5 H5 c5 ⟨o5,by rw [p5,he,tk,ap9,apv,apV,<- eb,if_pos rfl];rfl⟩
  ·rw [he,aoX,apU]
   exact hp)
end
end L2
end
section
namespace L2
open PySem PySem.Spec PyProof.Rows
def PEv (K:aoZ) (f:Fx) (te:TE) (ρ:zm) (P:DV->Prop):Prop:=∀ (σ:St) (H:Hp) (Q:VK),EnvOk K f ρ σ H->(∀ x v H',Goes f H H'->RepV K f H' x v->P x->Q v H')->te σ H Q
section
variable {w:World} {K:aoZ} {f:Fx} {ρ:zm} {Ds:List Addr} {cs:List OC} {te ta tk:TE} {ts tu:TS} {t:TA} {O:DEnds} {i j:Nat} {R:OC->Prop}
theorem v_var {P:DV->Prop} {x:DV} (h:ρ[i]?=some (some x)) (p:P x):PEv K f (z6 i) ρ P:=fun σ H Q e q=>by
 obtain⟨v,h1,h2⟩:=e.get i x h
 exact⟨v,h1,q x v H (.refl e.fd) h2 p⟩
theorem aor {R:List DV->Prop} {u:TA} (h:PEv K f te ρ fun x=>PAd K f u ρ fun xs=>R (x :: xs)):PAd K f (zY te u) ρ R:=fun σ H Q e q =>
 h σ H _ e fun x v H1 g1 r1 p=>p σ H1 _ (e.mono g1) fun xs vs H2 g2 r2 p2=>q (x :: xs) (v :: vs) H2 (g1.trans g2) (.cons (RepV.mono g2 r1) r2) p2
end
end L2
end
section
namespace L2
open PySem PySem.Spec PyProof.Rows
end L2
end
section
namespace L2
open PySem PySem.Spec PyProof.Rows
open PySem.SeqAt
open PySem.AutoSeq1 (wpAny_loadPart')
def aoQ (A:Around) (s:Shared) (y x:Value) (b:Bool):Prop :=
 ∀ (prog:Program) (w:World) (E:Value->Shared->Prop) (Q:Value->Shared->Prop),Q (.bool b) s->wpAny (model prog w) A (richCompare .GtE y x) Q E s
inductive Gex (A:Around) (s:Shared):List Value->List Value->Bool->Prop where
 | nn:Gex A s [] [] true
 | eq {v w vs ws b}:EqAt A s v w true->Gex A s vs ws b->Gex A s (v :: vs) (w :: ws) b
 | ge {v w vs ws b}:EqAt A s v w false->aoQ A s v w b->vs.length=ws.length->Gex A s (v :: vs) (w :: ws) b
def aav (o:Obj):Option Value:=match o.data with
 | .fields vs=>vs[2]?
 | _=>none
def KD (h h':Heap):Prop:=∀ b o,h.get? b=some o->∃ u,h'.get? b=some u/\u.dict=o.dict/\aav u=aav o
theorem KD.refl (h:Heap):KD h h:=fun _ o e=>⟨o,e,rfl,rfl⟩
theorem KD.trans {h i j:Heap} (a:KD h i) (b:KD i j):KD h j:=fun c o e =>
 let⟨u,e1,d1,f1⟩:=a c o e
 let⟨v,e2,d2,f2⟩:=b c u e1
 ⟨v,e2,d2.trans d1,f2.trans f1⟩
theorem KD.push (h:Heap) (o:Obj):KD h (h.push o):=fun _ u e=>⟨u,ao2 _ e,rfl,rfl⟩
theorem KD.update (h:Heap) (a:Addr) (f:Obj->Obj) (k:∀ o,(f o).dict=o.dict/\(f o).isFreed=o.isFreed/\aav (f o)=aav o):KD h (h.update a f):=fun b o e=>by
 by_cases q:a=b
 ·subst q
  exact⟨f o,ap6 f e (by rw [(k o).2.1];exact (Heap.get?_some_iff.mp e).2),(k o).1,(k o).2.2⟩
 ·exact⟨o,(apx h f q).trans e,rfl,rfl⟩
def yr {α:Type} (t:Sem α):Prop:=∀ (M:Model) (Γ:PySem.Ctx) (Q:α->Pos->Shared->Prop) (E:Value->Pos->Shared->Prop) (p:Pos) (s:Shared),
 Sem.wp M Γ t Q E p s->Sem.wp M Γ t (fun a p' s'=>Q a p' s'/\KD s.heap s'.heap) E p s
section
variable {α β:Type}
theorem adp (a:α):yr (pure a:Sem α):=fun _ _ _ _ _ s h=>⟨h,.refl _⟩
theorem ane (x:String):yr (unsupported x:Sem α):=fun _ _ _ _ _ _ h=>h
theorem agE {m:Sem α} {f:α->Sem β} (a:yr m) (b:∀ x,yr (f x)):yr (m >>= f):=fun M Γ Q E p s h=>by
 rw [Sem.wp_bind'] at h ⊢
 refine atb M Γ m (fun x p' s' z=>?_) (fun _ _ _ z=>z) p s (a M Γ _ E p s h)
 exact atb M Γ (f x) (fun _ _ _ y=>⟨y.1,z.2.trans y.2⟩) (fun _ _ _ y=>y) p' s' (b x M Γ Q E p' s' z.1)
theorem anf {c:Prop} [Decidable c] {t u:Sem α} (a:yr t) (b:yr u):yr (if c then t else u):=by split <;> assumption
theorem ak5 (a:Addr):yr (load a):=fun _ _ _ _ _ _ h=>let⟨o,e,q⟩:=h;⟨o,e,q,.refl _⟩
theorem ajh:yr stack:=fun _ _ _ _ _ _ h=>⟨h,.refl _⟩
theorem aji (o:Obj):yr (alloc o):=fun _ _ _ _ _ _ h=>⟨h,.push _ _⟩
theorem ahE (a:Addr) (f:Obj->Obj) (k:∀ o,(f o).dict=o.dict/\(f o).isFreed=o.isFreed/\aav (f o)=aav o):yr (update a f):=fun _ _ _ _ _ _ h=>⟨h.1,h.2,.update _ _ _ k⟩
end
local macro_rules | `(tactic| walk_at "kd")=>`(tactic| with_reducible first
  | assumption
  | exact adp _
  | exact ane _
  | exact ak5 _
  | exact kd_loadPart _ _
  | exact ajh
  | exact aji _
  | exact kd_reg _
  | apply anf
  | apply agE
  | intro _
  | split)
theorem abz (v:Value) (i:Nat):yr (field v i):=fun _ Γ Q E p s h=>by
 obtain⟨a,o,vs,x,h1,h2,h3,h4,h5⟩:=(wp_field_iff Γ v i Q E p s).mp h
 exact (wp_field_iff Γ v i _ E p s).mpr ⟨a,o,vs,x,h1,h2,h3,h4,h5,.refl _⟩
theorem aaO (v:Value) (i:Nat) (x:Value) (hi:i≠2):yr (setField v i x):=fun _ Γ Q E p s h=>by
 obtain⟨a,o,vs,h1,h2,h3,h4,h5⟩:=(wp_setField_iff Γ v i x Q E p s).mp h
 refine (wp_setField_iff Γ v i x _ E p s).mpr ⟨a,o,vs,h1,h2,h3,h4,h5,.update _ _ _ fun u=>?_⟩
 obtain⟨c,d,dt,sl⟩:=u
 cases dt <;> first | exact⟨rfl,rfl,rfl⟩ | exact⟨rfl,rfl,arw hi⟩
theorem ahF (env:Env) (l:List Env):yr (behindIsImport env l):=by
 unfold behindIsImport
 have:=abz env.code 12
 repeat' walk_at "kd"
theorem ahG:yr underTheClaimsCaller:=by
 unfold underTheClaimsCaller
 repeat' walk_at "kd"
theorem ak6 (env:Env) (i:Bool) (l:List Env):yr (keptBack env i l):=by
 have:=ahG
 cases l <;> unfold keptBack <;> repeat' walk_at "kd"
theorem aer:∀ l:List Env,yr (readyFrames l)
 | []=>adp _
 | env :: l=>by
  have ih:=aer l
  have h1:=ahF env l
  have h2:=fun i=>ak6 env i l
  unfold readyFrames
  repeat' (first | walk_at "kd" | exact h2 _ | (refine ahE _ _ fun⟨c,d,dt,sl⟩=>?_;cases dt <;> exact⟨rfl,rfl,rfl⟩))
theorem ajj (env:Env):yr (PySem.frameOf env):=by
 unfold PySem.frameOf frameEnvs
 have h2:∀ l,yr (frameObject l):=fun l=>by
  cases l with
  | nil=>exact adp _
  | cons a l =>
   have:=aer (a :: l)
   unfold frameObject
   repeat' walk_at "kd"
 repeat' (first | walk_at "kd" | exact h2 _)
theorem aaw (e:Value) (f:Option Addr):yr (setFlight e f):=by
 unfold setFlight
 repeat' (first | walk_at "kd" | exact abz _ _ | exact aaO _ _ _ (by decide))
theorem ajk (f:Addr) (b:Bool):yr (entryPlaceOf f b):=by
 unfold entryPlaceOf
 repeat' walk_at "kd"
theorem ajl (a b c d e:Value) (l:List Value):yr (asZ a b c d e l):=by
 unfold asZ newFields newObj newObjAsIs classHasDel
 repeat' walk_at "kd"
theorem agF (e:Value) (env:Env):yr (noteFrame e env):=by
 unfold noteFrame
 repeat' (first | walk_at "kd" | exact abz _ _ | exact aaO _ _ _ (by decide) | exact ajj _ | exact ajk _ _ | exact ajl _ _ _ _ _ _)
theorem aes (env:Env) (e:Value):yr (leaving env e):=by
 unfold leaving
 exact agE (agF _ _) fun _=>aaw _ _
theorem aet {α:Type} {t:Sem α} {M:Model} {A:Around} {Q Q':α->Shared->Prop} {E:Value->Shared->Prop} {s:Shared} (k:yr t) (h:wpAny M A t Q E s) (q:∀ a s',Q a s'->KD s.heap s'.heap->Q' a s'):wpAny M A t Q' E s:=fun Γ p hΓ =>
 atb M Γ t (fun a _ s' z=>q a s' z.1 z.2) (fun _ _ _ z=>z) p s (k M Γ _ _ p s (h Γ p hΓ))
def Dct (a:Addr) (o:Option Addr) (h:Heap):Prop:=∃ u,h.get? a=some u/\aav u=some .none/\∀ dx,o=some dx->u.dict=some dx
theorem Dct.kd {a:Addr} {o:Option Addr} {h h':Heap} (x:Dct a o h) (k:KD h h'):Dct a o h' :=
 let⟨u,q,f,d⟩:=x
 let⟨v,q2,d2,f2⟩:=k a u q
 ⟨v,q2,f2.trans f,fun dx e=>d2.trans (d dx e)⟩
def CXf (P:Program) (w:World):CXT:=fun outer H s E e s'=>∃ a C o H',e=.ref a/\XLie P w outer H s a C H' s'/\Dct a o s'.heap/\E C o H'
def yw (a:Addr) (C:Value) (o:Option Addr) (h:Heap):Prop:=∃ t,h.get? a=some { cls:=C,dict:=o,data:=.fields #[.ref t,.none,.none,.none,.bool false,.none] }
def drp (H:Hp) (a:Addr):Hp:=fun b=>if b=a then none else H b
theorem abA {H:Hp} {a:Addr}:drp H a a=none:=by unfold drp;rw [if_pos rfl]
theorem qj {H:Hp} {a b:Addr} (h:b≠a):drp H a b=H b:=by unfold drp;rw [if_neg h]
theorem ajm {H:Hp} {a b:Addr} {o:HO} (h:drp H a b=some o):b≠a/\H b=some o:=by
 by_cases e:b=a
 ·rw [e,abA] at h;cases h
 ·rw [qj e] at h;exact⟨e,h⟩
section
variable {X:Cx} {pins:List (Addr×Obj)} {σ:St} {H H':Hp} {s s':Shared} {a dx:Addr} {C:Value} {o:Option Addr}
theorem ahH {E:Value->Shared->Prop} (I:Inv X pins σ H s) (hst:X.stack=X.env :: X.outer) (hf:X.env.frame=some X.env.locals) (hex:X.ex=[]) (x:XLie X.prog X.w X.stack H s a C H' s') (d:Dct a o s'.heap) :
  wpAny (model X.prog X.w) X.A (leaving X.env (.ref a)) (fun _ s''=>XLie X.prog X.w X.outer X.H₀ X.s₀ a C H' s''/\Dct a o s''.heap) E s' :=
 aet (aes _ _) (aiJ I hst hf hex x) fun _ s'' y k=>⟨y,d.kd k⟩
theorem aft {E:Value->Shared->Prop} (I:Inv X pins σ H s) (hst:X.stack=X.env :: X.outer) (hf:X.env.frame=some X.env.locals) (hex:X.ex=[]) (ha:H a=some (.ext (yw a C (some dx)))) (hnew:X.s₀.heap.get? a=none) :
  wpAny (model X.prog X.w) X.A (leaving X.env (.ref a)) (fun _ s''=>XLie X.prog X.w X.outer X.H₀ X.s₀ a C (drp H a) s''/\Dct a (some dx) s''.heap) E s:=by
 obtain⟨⟨t,hu⟩,_,_⟩:=I.hok a _ ha
 have ex0:∀ b:Addr,b∉X.ex:=fun b=>by rw [hex];simp
 have hsub:∀ env∈X.env :: X.outer,∀ b,env.frame=some b->b∈a :: frs X.stack:=fun env he b hb=>by
  rw [hst]
  exact ao3 _ (aqH.mpr ⟨env,he,hb⟩)
 have ff:=I.stack
 rw [hst] at ff
 have inF:∀ b,b∈frs X.outer->b∈frs X.stack:=fun b hb=>by
  rw [hst]
  unfold frs
  rw [aqd,hf]
  exact ao3 _ hb
 have hid:∀ {b:Addr} {v:Obj},s.heap.get? b=some v->b≠a->b∉frs X.stack->(arb s.heap (a :: frs X.stack)).get? b=some v:=fun q n1 n2=>asV _ q fun z=>(ao7.mp z).elim n1 n2
 have hen:(arb s.heap (a :: frs X.stack)).get? a=none:=asI _ (apa ..)
 refine aet (aes _ _) (wpAny_leaving_firstW (base:=arb s.heap (a :: frs X.stack)) (oe:={ cls:=C,dict:=some dx,data:=.fields #[.ref t,.none,.none,.none,.bool false,.none] }) (a0:=.ref t) (by rw [I.ok.frames,hst]) (PySem.W.funFrames_hide ff hsub) hf hu (fun b v hb=>PySem.W.of_hideAll _ hb) hen rfl rfl rfl
  (Q:=fun _ s''=>XLie X.prog X.w X.outer X.H₀ X.s₀ a C (drp H a) s'') fun h' hL=>?_) fun _ s'' y k=>⟨y,Dct.kd ⟨_,hu,rfl,fun d e=>e⟩ k⟩
 obtain⟨k1,⟨_,_,k2⟩,k3,up⟩:=hL
 have kp:∀ b v,s.heap.get? b=some v->b≠a->b∉frs X.stack->h'.get? b=some v:=fun b v q n1 n2=>k1 b v (hid q n1 n2)
 have ne:∀ {b:Addr} {v:Obj},X.s₀.heap.get? b=some v->b≠a:=fun q e=>by rw [e,hnew] at q;cases q
 have slots:∀ b v,b∈frs X.outer->s.heap.get? b=some v->∃ sl,h'.get? b=some { v with slots:=sl }:=fun b v hb q=>by
  obtain⟨_,o1,q1,hd⟩:=I.stack.mem (b:=b) (inF b hb)
  rw [q] at q1
  cases q1
  exact up b v q hd
 have trk:∀ b v,drp H a b=some v->∃ w,s.heap.get? b=some w/\b≠a/\b∉frs X.stack:=fun b v e=>by
  obtain⟨n1,e⟩:=ajm e
  obtain⟨w,q⟩:=(I.hok b v e).is
  exact⟨w,q,n1,fun z=>by rw [I.stkFree b z] at e;cases e⟩
 have inB:∀ b v,X.s₀.heap.get? b=some v->b∉frs X.outer->∃ o',(arb s.heap (a :: frs X.stack)).get? b=some o':=fun b v q hb=>by
  obtain⟨o1,q1⟩:=I.base.there b v q (ex0 b)
  exact⟨o1,hid q1 (ne q) (I.old_ne hst hf q hb)⟩
 have na:∀ {b:Addr} {v:HO},H b=some v->(∀ φ,v≠.ext φ)->b≠a:=fun {b v} q n e=>by
  rw [e,ha] at q
  cases q
  exact n _ rfl
 refine⟨I.os,I.bare,⟨fun b v q n hb _=>kp b v (I.base.keep b v q n hb (ex0 b)) (ne q) (I.old_ne hst hf q hb),fun b v q n hb _=>?_,fun b v q n _=>?_,fun b v q _=>?_,fun b xs q=>?_,fun b v w q=>?_,fun b ps q=>?_⟩,fun b v e=>?_,⟨_,_,⟨k1,hen,k2,k3⟩,inB,fun b v e=>?_⟩,hnew,abA⟩
 ·obtain⟨sl,q1⟩:=I.base.slot b v q n hb (ex0 b)
  obtain⟨sl',q2⟩:=slots b _ hb q1
  exact⟨sl',q2⟩
 ·rw [qj (ne q)];exact I.base.free b v q n (ex0 b)
 ·obtain⟨o1,q1⟩:=I.base.there b v q (ex0 b)
  by_cases hb:b∈frs X.outer
  ·obtain⟨sl',q2⟩:=slots b _ hb q1
   exact⟨_,q2⟩
  ·exact⟨_,kp b o1 q1 (ne q) (I.old_ne hst hf q hb)⟩
 ·have q1:=I.base.tups b xs q
  rw [qj (na q1 fun φ z=>by cases z)];exact q1
 ·have q1:=I.base.frzs b v w q
  rw [qj (na q1 fun φ z=>by cases z)];exact q1
 ·obtain⟨more,q1⟩:=I.base.tbls b ps q
  exact⟨more,by rw [qj (na q1 fun φ z=>by cases z)];exact q1⟩
 ·obtain⟨n1,e1⟩:=ajm e
  refine (I.hok b v e1).stay (fun c w hc' q=>?_) (fun c q=>by rw [qj (na q fun φ z=>by cases z)];exact q) fun c xs q=>by rw [qj (na q fun φ z=>by cases z)];exact q
  rcases hc' with rfl | hc'
  ·obtain⟨_,_,n2,n3⟩:=trk c v e
   exact kp c w q n2 n3
  ·have e2:drp H a c=some (.own b):=by rw [qj (na hc' fun φ z=>by cases z)];exact hc'
   obtain⟨_,_,n2,n3⟩:=trk c _ e2
   exact kp c w q n2 n3
 ·obtain⟨w,q,n1,n2⟩:=trk b v e
  exact⟨w,hid q n1 n2⟩
end
theorem aos {P:Program} {w:World} {K:aoZ} {mg:Str->Option Value} {base:Heap} {N:List Str} {qual:Str} {scope:Scope} {f:Addr} {cd:Value} {A:Around} {outer:List Env} {s:Shared} {H:Hp} {E:XK} :
  Passes (CXf P w) (zI (CXf P w) P w K mg base N qual scope f cd A outer s H E) E:=fun pins σ H1 s1 e s' I h=>by
 obtain⟨a,C,o,H',rfl,x,d,hE⟩:=h
 exact wpAny_mono (ahH (X:=zI (CXf P w) P w K mg base N qual scope f cd A outer s H E) (E:=fun _ _=>False) I rfl rfl rfl x d) (fun _ s'' y=>⟨a,C,o,H',rfl,y.1,y.2,hE⟩) fun _ _ z=>z.elim
end L2
end
section
namespace L2
open PySem PySem.Spec PyProof.Rows PySem.Builtin Builtin Builtin.ObjectAttr
def vW (K:aoZ) (C f:Addr) (bmB:List Value) (newId:String):Bool :=
 match K.lookup C with
 | some ⟨c0,_,.cls cd,sl⟩=>c0 == .type "type" && cd.mro.head? == some (.ref C) && cd.hasDel == false && cd.hasDict && PySem.W.tailIn K bmB cd.mro.tail && PySem.W.nsOkIn K cd.ns && apl K cd.ns "__init__" == some (some (.ref f))
   && sl.toList.length == 6 && sl.toList[4]? == some (some (.builtin newId))
 | _=>false
structure XCls (h:Heap) (C f:Addr) (bmB:List Value) (newId:String):Prop where
 ex:∃ nm q N bs bm sn sub ab col dd k0 k1 k2 k3 k5 mN,h.get? C=some (excClassObj nm q C N bs bm true sn sub ab col dd k0 k1 k2 k3 k5 newId)/\h.Ns N mN/\mN "__init__"=some (.ref f)/\OwnTail h bmB bm
theorem ak7 {K:aoZ} {h:Heap} {N:Addr} {m:Str->Option Value} {n:Str} {v:Value} (X:K.In h) (G:h.Ns N m) (e:apl K N n=some (some v)):m n=some v:=by
 obtain⟨o,es,ep,ho,hd,_,hf⟩:=G
 unfold apl at e
 split at e
 ·rename_i lk
  have z:=X _ _ lk
  rw [ho] at z
  cases z
  cases hd
  have z2:=hf n
  unfold nsFind findBy at z2
  rw [<-Array.find?_toList] at z2
  cases q:List.find? (fun x=>x.key.isStr n) es.toList with
  | none=>rw [q] at e;dsimp only at e;split at e <;> cases e
  | some y =>
   rw [q] at e z2
   cases e
   exact z2.symm
 ·cases e
theorem ang {sl:Array (Option Value)} {v:Value} (h:sl.toList.length=6) (h4:sl.toList[4]?=some (some v)):∃ k0 k1 k2 k3 k5,sl=#[k0,k1,k2,k3,some v,k5]:=by
 obtain⟨l⟩:=sl
 match l,h with
 | [a,b,c,d,e,f],_ =>
  have:e=some v:=by simpa using h4
  subst this
  exact⟨a,b,c,d,f,rfl⟩
theorem vX {K:aoZ} {h:Heap} {C f:Addr} {bmB:List Value} {newId:String} (Y:K.In h) (e:vW K C f bmB newId=true):XCls h C f bmB newId:=by
 unfold vW at e
 split at e
 case h_2=>cases e
 case h_1 c0 dd cd sl lk =>
  simp only [ao8,beq_iff_eq] at e
  obtain⟨⟨⟨⟨⟨⟨⟨⟨e0,e1⟩,e2⟩,e3⟩,e4⟩,e5⟩,e6⟩,e7⟩,e8⟩:=e
  obtain⟨k0,k1,k2,k3,k5,rfl⟩:=ang e7 e8
  obtain⟨nm,bs,mro,ns,qn,hd,sn,sub,ab,col,del⟩:=cd
  dsimp only at e1 e2 e3 e4 e5 e6
  cases mro with
  | nil=>cases e1
  | cons z bm =>
   cases e1
   subst e0 e2 e3
   have G:h.Ns ns (h.nsMap ns):=.of_isNs (PySem.W.isNs_of_in Y e5)
   exact⟨nm,qn,ns,bs,bm,sn,sub,ab,col,dd,k0,k1,k2,k3,k5,_,Y _ _ lk,G,ak7 Y G e6,PySem.W.tail_of_in Y e4⟩
section
variable {prog:Program} {w:World} {A:Around} {E:Value->Shared->Prop} {h:Heap} {g:Array GenState} {d:Drawn} {t:Nat} {os:OsState}
variable {C fI e:Addr} {bmB:List Value} {B newId initId:String}
theorem ajn (F:ExcBaseFacts B newId initId bmB) {K:aoZ} {rest:List Value} {Q:Value->Shared->Prop} (X:K.In h) (Y:XCls h C fI bmB newId) (hf:PySem.W.typeIn K (.ref fI)=some (.type "function")) (hrest:rest.length<=sizeLine)
  (go:∀ h' e,Heap.MadeExcOf h h' e (.ref C) rest->wpAny (model prog w) (A.under (.builtin "type.__call__" ⟨.ref C :: rest,[]⟩)) (call (.ref fI) (.ref e :: rest)) (fun r s'=>r=.none/\Q (.ref e) s') E ⟨h',g,d,t,os⟩) :
  wpAny (model prog w) A (call (.ref C) rest) Q E ⟨h,g,d,t,os⟩:=by
 obtain⟨nm,q,N,bs,bm,sn,sub,ab,col,dd,k0,k1,k2,k3,k5,mN,hC,hn,hi,T⟩:=Y.ex
 have l1:=tc_lookup
 have l2:=tc_bind (.ref C)
 have hT:(⟨h,g,d,t,os⟩:Shared).TypeIs (.ref C) "type":=⟨_,hC,rfl⟩
 refine wpAny_call (codeAny_of_tree ?_)
 show wpAny _ _ (callAny (.ref C) _) _ _ _
 repeat (any_goals (first | with_reducible refine wpAny_loadPart_at hC ?_ | wp_step | assumption))
 refine⟨rfl,?_⟩
 refine codeAny_call_builtin_at (arW _ (by decide +kernel)) entry_typeCall (wpAny_check_type_call_sub hC ?_)
 show wpAny _ _ (Builtin.«type.__call__» ⟨.ref C :: rest,[]⟩) _ _ _
 repeat (first | with_reducible refine wpAny_madeBy_exc hC ?_ | with_reducible refine wpAny_loadPart_at hC ?_ | wp_step)
 refine codeAny_call_builtin_code (arW _ F.quiet) (wpAny_check_new_subT F T hC (codeAny_exc_new_subT F T hC ?_ hrest))
 show wpAny _ _ _ _ _ _
 have up:∀ b o,h.get? b=some o->((h.push { cls:=.type "tuple",data:=.seq rest.toArray }).push { cls:=.ref C,data:=.fields #[.ref h.objs.size,.none,.none,.none,.bool false,.none] }).get? b=some o :=
  fun b o z=>ao2 _ (ao2 _ z)
 have gE:((h.push { cls:=.type "tuple",data:=.seq rest.toArray }).push { cls:=.ref C,data:=.fields #[.ref h.objs.size,.none,.none,.none,.bool false,.none] }).get? (h.objs.size+1) =
   some { cls:=.ref C,data:=.fields #[.ref h.objs.size,.none,.none,.none,.bool false,.none] }:=asb (by simp only [aqW]) rfl
 have gT:((h.push { cls:=.type "tuple",data:=.seq rest.toArray }).push { cls:=.ref C,data:=.fields #[.ref h.objs.size,.none,.none,.none,.bool false,.none] }).get? h.objs.size =
   some { cls:=.type "tuple",data:=.seq rest.toArray }:=ao2 _ (asb rfl rfl)
 have self:(Value.ref C :: bm).contains (.ref C)=true:=by simp
 have hC1:=up _ _ hC
 unfold isInstance
 repeat (first | with_reducible refine wpAny_loadPart_at gE ?_ | (dsimp only;with_reducible refine wpAny_isSubtype_exc hC1 ?_;rw [self]) | wp_step)
 show wpAny _ _ (typeLookup (.ref C) _) _ _ _
 refine wpAny_typeLookup_tail (up _ _ hC) (hn.keeps up) (T.keeps up) F.mroIs F.init.lookup ?_
 rw [hi]
 refine wpAny_holding (wpAny_bind ?_)
 refine (PySem.W.bind_fn (X.keeps up) (.ref (h.objs.size+1)) hf).at ?_
 refine (wpAny_bind (wpAny_mono (go _ (h.objs.size+1) ⟨up,aqS (ar8 _),h.objs.size,gE,aqS (ao6 _),gT⟩) (fun r s' z=>?_) fun _ _ z=>z))
 obtain⟨rfl,z⟩:=z
 wp_walk
 exact z
theorem ahI (F:ExcBaseFacts B newId initId bmB) {rest:List Value} {t0:Addr} {ot:Obj} {R:Result->Shared->Prop} {T0:List Value} (Y:XCls h C fI bmB newId)
  (he:h.get? e=some { cls:=.ref C,data:=.fields #[.ref t0,.none,.none,.none,.bool false,.none] }) (hrest:rest.length<=sizeLine)
  (go:∀ h',(∀ b o,b≠e->h.get? b=some o->h'.get? b=some o)->(∃ t1,h'.get? e=some { cls:=.ref C,data:=.fields #[.ref t1,.none,.none,.none,.bool false,.none] })->R (.ok (.ret .none)) ⟨h',g,d,t,os⟩) :
  codeAny (model prog w) A (.call (.builtin initId) ⟨.ref e :: rest,[]⟩) R ⟨h,g,d,t,os⟩:=by
 obtain⟨nm,q,N,bs,bm,sn,sub,ab,col,dd,k0,k1,k2,k3,k5,mN,hC,hn,hi,T⟩:=Y.ex
 refine codeAny_call_builtin F.init.plain F.initEntry (wpAny_check_init_subT F T hC he rfl ?_)
 wp_walk
 refine go _ (fun b o n z=>?_) ⟨h.objs.size,?_⟩
 ·rw [apx _ _ (apT n)]
  exact ao2 _ z
 ·rw [ap6 _ (ao2 _ he) rfl]
  rfl
end
end L2
end
section
namespace L2
open PySem PySem.Spec PySem.W PyProof.Rows PySem.Calls PySem.Builtin Builtin Builtin.ObjectAttr
theorem aeu {h:Heap} {bmB bm:List Value} {self:Value} {what:Str} (T:OwnTail h bmB bm) (p:refuseLoop self what bmB=pure ()):refuseLoop self what bm=pure ():=by
 induction T with
 | base=>exact p
 | own _ _ _ _ ih=>rw [refuseLoop_ref];exact ih
abbrev bare (C:Addr) (o:Option Addr) (t:Addr):Obj:={ cls:=.ref C,dict:=o,data:=.fields #[.ref t,.none,.none,.none,.bool false,.none] }
abbrev bmV:List Value:=[.type "ValueError",.type "Exception",.type "BaseException",.type "object"]
section
variable {prog:Program} {w:World} {A:Around} {E:Value->Shared->Prop} {h:Heap} {g:Array GenState} {d:Drawn} {t:Nat} {os:OsState} {K:aoZ}
variable {C fI e t0:Addr} {name:Str} {v:Value}
theorem ajo {M:Model} {Q:Option Addr->Shared->Prop} {nm q:Str} {N:Addr} {bs bm:List Value} {sn:List Str} {sub:List Value} {ab:Bool} {col:Option Bool} {dd:Option Addr} {k0 k1 k2 k3 k5:Option Value} {newId:String}
  (he:h.get? e=some (bare C none t0)) (hC:h.get? C=some (excClassObj nm q C N bs bm true sn sub ab col dd k0 k1 k2 k3 k5 newId))
  (go:∀ h' dx,h.objs.size<=dx->h'.get? dx=some { cls:=.type "dict",data:=.dict #[] }->h'.get? e=some (bare C (some dx) t0)->(∀ b o,b≠e->h.get? b=some o->h'.get? b=some o)->Q (some dx) ⟨h',g,d,t,os⟩) :
  wpAny M A (ownDictForStores (.ref e)) Q E ⟨h,g,d,t,os⟩:=by
 have hne:e≠h.objs.size:=apw (apc he)
 unfold ownDictForStores instanceDict
 repeat (first | with_reducible refine wpAny_loadPart_at he ?_ | with_reducible refine wpAny_loadPart_at hC ?_ | wp_step)
 refine go _ h.objs.size (ao6 _) ((apx _ _ hne).trans (asb rfl rfl)) (ap6 _ (ao2 _ he) rfl) fun b o nb z=>?_
 exact (apx _ _ (apT nb)).trans (ao2 _ z)
theorem acg {Q:Unit->Shared->Prop} (X:K.In h) (Y:XCls h C fI bmV "ValueError.__new__") (he:h.get? e=some (bare C none t0)) (ob:mroIn K C (.type "object")=some true)
  (hsa:findIn K (.ref C) "__setattr__"=some (some (.builtin "object.__setattr__"))) (hna:findIn K (.ref C) name=some none)
  (go:∀ h' tk dx,h.objs.size<=dx->h'.get? e=some (bare C (some dx) t0)->h'.Ns1 dx (fun y=>if y=name then some v else none)->(∀ b o,b≠e->h.get? b=some o->h'.get? b=some o)->Q () ⟨h',g,d,tk,os⟩) :
  wpAny (model prog w) A (setAttr (.ref e) name v) Q E ⟨h,g,d,t,os⟩:=by
 obtain⟨nm,q,N,bs,bm,sn,sub,ab,col,dd,k0,k1,k2,k3,k5,mN,hC,hn,hi,T⟩:=Y.ex
 have SF:=PySem.F.store_ValueError
 have LT:Looks (model prog w) h (typeOf (.ref e)) (.ref C):=(Looks.ld he).andThen .now
 have LS:=looks_findIn (M:=model prog w) X hsa
 have LN:=looks_findIn (M:=model prog w) X hna
 have LI:Looks (model prog w) h (isInstance (.ref e) (.type "object")) true:=LT.andThen (looks_mroIn X ob)
 refine wpAny_bind (wpAny_mkText (wpAny_bind ?_))
 unfold callSpecial? specialOf
 refine wpAny_bind (wpAny_bind (LT.at (LS.at (wpAny_holding ?_))))
 rw [SF.slot.bind (.ref e)]
 refine wpAny_bind (wpAny_pure (wpAny_bind (wpAny_call (codeAny_call_builtin SF.slot.plain SF.entry (@check_slot (model prog w) _ _ ⟨h,g,d,t+1,os⟩ _ _ _ (.ref e) [.str name t,v] [] _ SF.kind SF.split LI (SF.args _ _ _) ?_)))))
 show wpAny _ _ (Builtin.«object.__setattr__» ⟨[.ref e,.str name t,v],[]⟩) _ _ _
 rw [osa_eq,refuse_eq]
 refine wpAny_bind (wpAny_bind (LT.at (wpAny_bind (wpAny_mroOf_exc hC ?_))))
 rw [refuseLoop_ref,aeu T (SF.passes _)]
 refine wpAny_pure (wpAny_bind (LT.at (wpAny_bind (LN.at (wpAny_bind (wpAny_pure ?_))))))
 dsimp only
 unfold storeInOwnDict
 refine wpAny_bind (wpAny_pure (wpAny_bind ?_))
 refine ajo he hC fun h2 dx l2 g2 e2 k2=>?_
 have n2:h.get? dx=none:=aqS l2
 show wpAny _ _ (storeInDict dx (.str name t) name v) _ _ _
 unfold storeInDict newKeyGuard
 refine wpAny_bind (wpAny_pure (wpAny_bind (wpAny_nsSet1 (Heap.Ns1.of_empty ⟨_,#[],_,g2,rfl,fun z hz=>absurd hz (by simp),fun _=>rfl⟩) fun h3 n3 s3=>?_)))
 obtain⟨o4,es4,ep4,ho4,hd4,hc4⟩:=n3.count (Within.cons name v Within.nil)
 refine wpAny_bind (wpAny_lookBehind ho4 (by rw [hd4];exact pastItsLine_dict (apm hc4 (by rw [aph,aql,sizeLine_eq];omega))) ?_)
 refine wpAny_pure (wpAny_pure (wpAny_pure ?_))
 have ne:e≠dx:=fun z=>by rw [z,n2] at he;cases he
 exact go h3 _ dx l2 ((s3.2 e ne).trans e2) n3 fun b o nb z=>(s3.2 b fun y=>by rw [y,n2] at z;cases z).trans (k2 b o nb z)
end
def vY (K:aoZ) (C f D:Addr) (name:Str):Bool :=
 vW K C f bmV "ValueError.__new__" && asx K (.ref f) && arE K C (.type "object") == some true && apR K (.ref C) "__setattr__" == some (some (.builtin "object.__setattr__"))
  && apR K (.ref C) name == some none && PySem.W.readsIn K D (.type "type") && aqO K (.ref D) "__getattribute__" == some (some (.builtin "type.__getattribute__")) && apM K (.ref C)
  && (match PySem.W.findCls K (.ref D) (.type "type") "__init__" with | some (.val v)=>v == .builtin "ValueError.__init__" | _=>false)
structure FldC (K:aoZ) (C f D:Addr) (name:Str):Prop where
 wi:vW K C f bmV "ValueError.__new__"=true
 fn:PySem.W.typeIn K (.ref f)=some (.type "function")
 ob:arE K C (.type "object")=some true
 sa:apR K (.ref C) "__setattr__"=some (some (.builtin "object.__setattr__"))
 na:apR K (.ref C) name=some none
 rd:PySem.W.readsIn K D (.type "type")=true
 sp:aqO K (.ref D) "__getattribute__"=some (some (.builtin "type.__getattribute__"))
 kp:apM K (.ref C)=true
 fi:PySem.W.findCls K (.ref D) (.type "type") "__init__"=some (.val (.builtin "ValueError.__init__"))
theorem FldC.of {K:aoZ} {C f D:Addr} {name:Str} (h:vY K C f D name=true):FldC K C f D name:=by
 unfold vY asx at h
 simp only [ao8,beq_iff_eq] at h
 obtain⟨⟨⟨⟨⟨⟨⟨⟨h1,h2⟩,h3⟩,h4⟩,h5⟩,h6⟩,h7⟩,h8⟩,h9⟩:=h
 refine⟨h1,h2,h3,h4,h5,h6,h7,h8,?_⟩
 split at h9
 ·rename_i v e
  rw [e,beq_iff_eq.mp h9]
 ·cases h9
theorem afu {P:Program} {w:World} {H:Hp} {h:Heap} {a:Addr} {C:Value} {o:Option Addr} (x:yw a C o h):ObjOk P w H h a (.ext (yw a C o)):=by
 obtain⟨t,e⟩:=x
 exact⟨⟨t,e⟩,⟨_,e⟩,fun h1 h2 p k=>let⟨t,e⟩:=p;⟨t,k _ e⟩⟩
theorem anh {H:Hp} {a:Addr} {o:HO} (h:H a=some o):upd H a o=H:=by
 funext b
 by_cases e:b=a
 ·rw [e,zq,h]
 ·rw [zr e]
section
variable {X:Cx} {pins:List (Addr×Obj)} {σ:St} {H H':Hp} {s s':Shared} {h':Heap} {a b dx C D f:Addr} {o:HO} {t':Nat} {name:Str}
theorem Inv.born (I:Inv X pins σ H s) (k:∀ b u,s.heap.get? b=some u->h'.get? b=some u) (n:s.heap.get? a=none) (new:ObjOk X.prog X.w (upd H a o) h' a o):Inv X pins σ (upd H a o) { s with heap:=h',toks:=t' }:=by
 have hn:H a=none:=by
  cases q:H a with
  | none=>rfl
  | some u =>
   obtain⟨v,z⟩:=(I.hok a u q).is
   rw [n] at z;cases z
 have ne:∀ {c:Addr} {u:Obj},s.heap.get? c=some u->c≠a:=fun q e=>by rw [e,n] at q;cases q
 have nh:∀ {c:Addr} {u:HO},H c=some u->upd H a o c=some u:=fun q=>by rw [zr (zJ q hn)];exact q
 refine I.un ⟨fun c u q _ _ _=>k c u q,fun c u q _ _ _=>⟨u.slots,k c u q⟩,fun c u q m _=>by rw [zr (ne q)];exact m,fun c u q _=>⟨u,k c u q⟩,fun c xs q=>nh q,fun c u xs q=>nh q,fun c ps q=>⟨#[],by rw [nh q];simp⟩⟩ fun c u q=>?_
 by_cases e:c=a
 ·subst e;rw [zq] at q;cases q;exact new
 ·rw [zr e] at q
  exact (I.hok c u q).stay (fun x v _ z=>k x v z) (fun x z=>nh z) fun x xs z=>nh z
theorem Inv.field {y:V} {u:Value} (I:Inv X pins σ H s) (ha:H a=some (.ext (yw a (.ref C) none))) (hd:s.heap.objs.size<=dx) (ry:RelV y u) (he:yw a (.ref C) (some dx) h') (hn:h'.Ns1 dx fun x=>if x=name then some u else none)
  (k:∀ b o,b≠a->s.heap.get? b=some o->h'.get? b=some o):Inv X pins σ (upd (upd H dx (.xd [(name,y)])) a (.ext (yw a (.ref C) (some dx)))) { s with heap:=h',toks:=t' }:=by
 have hdn:=I.hok.fresh hd
 have nd:∀ {c:Addr} {v:Obj},s.heap.get? c=some v->c≠dx:=fun q=>apw (apk (apc q) hd)
 have na:∀ {c:Addr} {v:HO},H c=some v->(∀ φ,v≠.ext φ)->c≠a:=fun {c v} q n e=>by
  rw [e,ha] at q
  cases q
  exact n _ rfl
 have nh:∀ {c:Addr} {v:HO},H c=some v->(∀ φ,v≠.ext φ)->upd (upd H dx (.xd [(name,y)])) a (.ext (yw a (.ref C) (some dx))) c=some v:=fun q n=>by
  rw [zr (na q n),zr (zJ q hdn)];exact q
 have nn:∀ {c:Addr},H c=none->c≠a:=fun m e=>by rw [e,ha] at m;cases m
 refine I.un ⟨fun c v q m _ _=>k c v (nn m) q,fun c v q m _ _=>⟨v.slots,k c v (nn m) q⟩,fun c v q m _=>by rw [zr (nn m),zr (nd q)];exact m,fun c v q _=>?_,fun c xs q=>nh q fun φ z=>(by cases z),fun c v xs q=>nh q fun φ z=>(by cases z),
  fun c ps q=>⟨#[],by rw [nh q fun φ z=>(by cases z)];simp⟩⟩ fun c v q=>?_
 ·by_cases e:c=a
  ·subst e;obtain⟨t,z⟩:=he;exact⟨_,z⟩
  ·exact⟨v,k c v e q⟩
 ·by_cases e:c=a
  ·subst e;rw [zq] at q;cases q;exact afu he
  ·rw [zr e] at q
   by_cases e2:c=dx
   ·subst e2
    rw [zq] at q
    cases q
    refine⟨_,hn,fun g=>?_⟩
    by_cases eg:g=name
    ·subst eg
     rw [if_pos rfl,apH,beq_self_eq_true]
     exact ry
    ·rw [if_neg eg,apH,beq_eq_false_iff_ne.mpr eg]
     exact trivial
   ·rw [zr e2] at q
    refine (I.hok c v q).stay (fun x w hx z=>k x w ?_ z) (fun x z=>nh z fun φ z=>(by cases z)) fun x xs z=>nh z fun φ z=>(by cases z)
    rcases hx with rfl | hx
    ·exact e
    ·exact na hx fun φ z=>(by cases z)
def ahJ (C:Addr) (t:TA):TE:=fun σ H Q=>t σ H fun vs H1=>∃ a r,vs=.ref a :: r/\r.length<=1000/\H1 a=some (.ext (yw a (.ref C) none))/\Q .non H1
theorem aev {x:Str} {p apos pos:Pos} {e:Expr} {es:List Expr} {t:TA} {pl:Sem Bool} (T:FldC X.K C f D name) (hg:Gl X x) (hm:X.mg x=some (.ref D)) (ha:PA X (e :: es) t) (hdb:(x == ("__debug__":Str))=false:=by decide)
  (hst:starEach (e :: es) X.env=(false,eval e X.env) :: starEach es X.env:=by rfl) (hpl:(backTo pos (starEach es X.env)).any (·.1)=false:=by rfl)
  (ht:eval (.Call (.Attribute (.Name x p) "__init__" apos) (e :: es) [] pos) X.env=(do
   let ov <- eval (.Name x p) X.env
   standAt apos.atName
   let (f,first) <- holding [ov] (getMethod ov "__init__" pl)
   callWith pos f first (backTo pos (starEach (e :: es) X.env)) (backToKw pos (keywordEach [] X.env))):=by rfl) :
  PE X (.Call (.Attribute (.Name x p) "__init__" apos) (e :: es) [] pos) (ahJ C t):=by
 intro pins s σ H Q I h
 refine PySem.W.methodCall_KW (pl:=pl) (jD I hg hm ?_ hdb) ht
 refine PySem.W.method_cls I.kIn T.sp (PySem.W.cls_value I.kIn T.rd T.fi rfl ?_)
 refine arC (thn (ha pos pins _ σ H _ (I.tok _) h) fun us s1 ⟨vs,H1,I1,r1,a,r,ev,hl,hH,q⟩=>?_) hst hpl
 subst ev
 cases r1 with
 | cons ra rr =>
  obtain rfl:=(show _=Value.ref a from ra)
  obtain⟨⟨t0,he⟩,_,_⟩:=I1.hok a _ hH
  obtain⟨hh,g,d,tk,os'⟩:=s1
  refine wpAny_call (ahI (ot:=default) (T0:=[]) aqZ (vX I1.kIn T.wi) he (by rw [<-Vals.length rr];exact ap1 (zX hl)) fun h' k ⟨t1,e1⟩=>?_)
  have I2:=I1.write (x:=a) (e:=a) (o:=.ext (yw a (.ref C) none)) (h':=h') (t':=tk) (by rw [hH];exact trivial) (.inl rfl) (fun b u nb z=>k b u nb z) ⟨_,e1⟩ (afu ⟨t1,e1⟩)
  rw [anh hH] at I2
  exact⟨.non,H1,I2,rfl,q⟩
def aot (C:Addr) (name:Str) (ta tv:TE):TS:=fun D σ H=>tv σ H fun y H1=>ta σ H1 fun x H2=>∃ a,x=.ref a/\H2 a=some (.ext (yw a (.ref C) none))/\∀ dx,H2 dx=none->dx≠a->D.nx σ (upd (upd H2 dx (.xd [(name,y)])) a (.ext (yw a (.ref C) (some dx))))
theorem ak8 {o value:Expr} {ta tv:TE} {pos' pos:Pos} (T:FldC X.K C f D name) (ha:PE X o ta) (hv:PE X value tv) (hs:swapsWith value (some (.Attribute o name pos')) pos.line X.env=pure false:=by rfl) :
  PS X (.Assign [.Attribute o name pos'] value pos) (aot C name ta tv):=by
 intro pins s σ H D' I h
 refine plainObj_wpAny_Assign_Attribute (thn (hv pins s σ H _ I h) fun u s1 ⟨y,H1,I1,ry,q⟩=>thn (ha pins s1 σ H1 _ I1 q) fun ov s2 ⟨x,H2,I2,rx,a,ex,hH,q2⟩=>?_) hs
 subst ex
 obtain rfl:ov=Value.ref a:=rx
 obtain⟨⟨t0,he⟩,_,_⟩:=I2.hok a _ hH
 obtain⟨hh,g,d,tk,os'⟩:=s2
 refine acg (K:=X.K) (t0:=t0) I2.kIn (vX I2.kIn T.wi) he T.ob T.sa T.na fun h' tk' dx hd e1 hn k=>?_
 refine⟨σ,_,I2.field hH hd ry ⟨t0,e1⟩ hn k,q2 dx (I2.hok.fresh hd) ?_⟩
 rintro rfl
 exact absurd (apc he) (asy.mpr hd)
def adq (C:Addr) (name:Str):Sp:=fun vs H Q _=>∃ a y,vs=[.ref a,y]/\H a=some (.ext (yw a (.ref C) none))/\∀ dx,H dx=none->dx≠a->Q .non (upd (upd H dx (.xd [(name,y)])) a (.ext (yw a (.ref C) (some dx))))
end
section
variable {M:Model} {A:Around} {E:Value->Shared->Prop} {s:Shared} {C e:Addr}
theorem ahK {env:Env} {x:Sem Value} {Q:Flow->Shared->Prop} {bmB:List Value} {newId B initId:String} {f:Addr} (F:ExcBaseFacts B newId initId bmB) (hh:A.handled=none)
  (h:wpAny M A x (fun v s1=>∃ a o t,v=.ref a/\XCls s1.heap C f bmB newId/\s1.heap.get? a=some (bare C o t)/\E (.ref a) s1) E s):wpAny M A (raiseStmt env (some x) none) Q E s:=by
 unfold raiseStmt
 refine wpAny_bind (wpAny_mono h (fun v s1 z=>?_) fun _ _ z=>z)
 obtain⟨a,o,t,rfl,Y,he,hE⟩:=z
 obtain⟨nm,q,N,bs,bm,sn,sub,ab,col,dd,k0,k1,k2,k3,k5,mN,hC,hn,hi,T⟩:=Y.ex
 have base:(Value.ref C :: bm).contains (.type "BaseException")=true:=by rw [List.contains_cons,T.hasType F.hasBase,Bool.or_true]
 obtain⟨hp,g,d,tk,os⟩:=s1
 repeat (first | with_reducible refine wpAny_loadPart_at he ?_ | with_reducible refine wpAny_loadPart_at hC ?_ | (with_reducible refine wpAny_isSubtype_exc hC ?_;rw [base]) | wp_step)
 exact wpAny_raiseNew_none hh hE
end
section
variable {X:Cx} {pins:List (Addr×Obj)} {σ:St} {H H':Hp} {s s':Shared} {C D f:Addr} {name:Str} {k:Nat} {fd:FuncData} {ps:List Str}
theorem ahL {Q:Value->Shared->Prop} {y:V} {u:Value} (T:FldC X.K C f D name) (F:FnOk X.prog X.w X.K X.mg X.base CX0 k f fd ps (adq C name)) (hr:Room (k+1) X.A) (hb:Binds X.K fd ps []) (I:Inv X pins σ H s) (r:RelV y u)
  (h:∀ a dx s',s.heap.get? a=none->H a=none->H dx=none->dx≠a->Inv X pins σ (upd (upd H dx (.xd [(name,y)])) a (.ext (yw a (.ref C) (some dx)))) s'->Q (.ref a) s'):wpAny (model X.prog X.w) X.A (call (.ref C) [u]) Q X.xe s:=by
 obtain⟨hh,g,d,tk,os⟩:=s
 refine ajn aqZ I.kIn (vX I.kIn T.wi) T.fn (show 1<=sizeLine by decide) fun h' e hm=>?_
 obtain⟨t0,he,_,_⟩:=hm.there
 have hn:H e=none:=by
  cases q:H e with
  | none=>rfl
  | some u =>
   obtain⟨v,z⟩:=(I.hok e u q).is
   rw [hm.new] at z;cases z
 have I2:=I.born (a:=e) (o:=.ext (yw e (.ref C) none)) (h':=h') (t':=tk) hm.keeps hm.new (afu ⟨t0,he⟩)
 have r2:Vals [V.ref e,y] [Value.ref e,u]:=.cons rfl (.cons r .nil)
 have sp:adq C name [V.ref e,y] (upd H e (.ext (yw e (.ref C) none))) (fun v H2=>v=.non/\∃ dx,upd H e (.ext (yw e (.ref C) none)) dx=none/\dx≠e/\H2=upd (upd (upd H e (.ext (yw e (.ref C) none))) dx (.xd [(name,y)])) e (.ext (yw e (.ref C) (some dx)))) E0 :=
  ⟨e,y,rfl,zq,fun dx h1 h2=>⟨rfl,dx,h1,h2,rfl⟩⟩
 have hl:[Value.ref e,u].length=ps.length:=by
  rw [<-Vals.length r2]
  exact F.len _ _ _ _ sp
 have b2:=hb { heap:=h',gens:=g,drawn:=d,toks:=tk,os:=os } [.ref e,u] I2.kIn (by rw [apB];exact hl)
 rw [apB] at b2
 refine wpAny_call (codeAny_mono (F.run _ X.stack _ _ ⟨[Value.ref e,u],[]⟩ [Value.ref e,u] _ _ E0 (hr.make C [u] []) (I2.env0.make C [u] []) b2 r2 sp) fun res s' z=>?_)
 cases res with
 | error e=>exact apF z
 | ok fl =>
  cases fl with
  | ret v =>
   obtain⟨v',H3,I3,rv,ev,dx,n1,n2,eH⟩:=I2.after z
   subst ev
   refine⟨rv,h e dx s' hm.new hn ?_ n2 ?_⟩
   ·rw [zr n2] at n1;exact n1
   ·rw [eH] at I3
    have eu:upd (upd (upd H e (.ext (yw e (.ref C) none))) dx (.xd [(name,y)])) e (.ext (yw e (.ref C) (some dx)))=upd (upd H dx (.xd [(name,y)])) e (.ext (yw e (.ref C) (some dx))):=by
     funext b
     by_cases e1:b=e
     ·rw [e1,zq,zq]
     ·rw [zr e1,zr e1]
      by_cases e2:b=dx
      ·rw [e2,zq,zq]
      ·rw [zr e2,zr e2,zr e1]
    rw [eu] at I3
    exact I3
  | next=>exact apF z
  | brk=>exact apF z
  | cont=>exact apF z
def ads (C:Addr) (name:Str) (E:XK) (t:TA):TS:=fun _ σ H=>t σ H fun vs H1=>∃ y,vs=[y]/\∀ dx,H1 dx=none->E (.ref C) (some dx) (upd H1 dx (.xd [(name,y)]))
theorem ahM {x:Str} {e0:Expr} {t:TA} {np cpos pos:Pos} {E:XK} (T:FldC X.K C f D name) (F:FnOk X.prog X.w X.K X.mg X.base CX0 k f fd ps (adq C name)) (hr:Room (k+1) X.A) (hb:Binds X.K fd ps [])
  (hxe:∀ e s',wpAny (model X.prog X.w) X.A (leaving X.env e) (fun _ s''=>CXf X.prog X.w X.outer X.H₀ X.s₀ E e s'') (fun _ _=>False) s'->X.xe e s')
  (hst:X.stack=X.env :: X.outer) (hf:X.env.frame=some X.env.locals) (hex:X.ex=[]) (hc:X.calm=true) (hg:Gl X x) (hm:X.mg x=some (.ref C)) (ha:PA X [e0] t)
  (hse:starEach [e0] X.env=(false,eval e0 X.env) :: starEach [] X.env:=by rfl) (hpl:(backTo cpos (starEach [] X.env)).any (·.1)=false:=by rfl) (hd:(x == ("__debug__":Str))=false:=by decide) :
  PS X (.Raise (some (.Call (.Name x np) [e0] [] cpos)) none pos) (ads C name E t):=by
 intro pins s σ H D' I h
 rw [arm_exec_Raise]
 refine wpAny_bind (wpAny_standAt ?_)
 show wpAny _ _ (raiseStmt X.env (some (do let v <- eval (.Call (.Name x np) [e0] [] cpos) X.env;standAt pos;pure v)) none) _ _ _
 refine ahK (C:=C) (f:=f) aqZ (I.ok.hd hc) (wpAny_bind ?_)
 refine wpAny_Call_Name_kw (jD I hg hm ?_ hd)
 refine aqI (h₀:=X.base) I.ok.mod.kin T.kp (thn (ha cpos pins s σ H _ I h) fun us s1 ⟨vs,H1,I1,r,y,ev,q⟩=>⟨I1.kIn,?_⟩) hse hpl
 subst ev
 cases r with
 | cons ry rn =>
  cases rn
  refine ahL T F hr hb I1 ry fun a dx s2 n1 n2 n3 n4 I2=>wpAny_bind (wpAny_standAt (wpAny_pure ?_))
  have hH:upd (upd H1 dx (.xd [(name,y)])) a (.ext (yw a (.ref C) (some dx))) a=some (.ext (yw a (.ref C) (some dx))):=zq
  obtain⟨⟨t0,he⟩,_,_⟩:=I2.hok a _ hH
  refine⟨a,some dx,t0,rfl,vX I2.kIn T.wi,he,hxe _ _ ?_⟩
  have hnew:X.s₀.heap.get? a=none:=by
   cases z:X.s₀.heap.get? a with
   | none=>rfl
   | some o =>
    obtain⟨o1,z1⟩:=I1.base.there a o z (by rw [hex];simp)
    rw [n1] at z1;cases z1
  have ed:drp (upd (upd H1 dx (.xd [(name,y)])) a (.ext (yw a (.ref C) (some dx)))) a=upd H1 dx (.xd [(name,y)]):=by
   funext b
   by_cases e1:b=a
   ·rw [e1,abA,zr (apT n4),n2]
   ·rw [qj e1,zr e1]
  have L:=aft (E:=fun _ _=>False) I2 hst hf hex hH hnew
  rw [ed] at L
  exact wpAny_mono L (fun _ s'' z=>⟨a,.ref C,some dx,_,rfl,z.1,z.2,q dx n3⟩) fun _ _ z=>z
theorem ajp {P:Program} {w:World} {K:aoZ} {mg:Str->Option Value} {base:Heap} {N:List Str} {qual:Str} {scope:Scope} {f:Addr} {cd:Value} {A:Around} {outer:List Env} {s:Shared} {H:Hp} {E:XK} :
  ∀ e s',wpAny (model P w) (zI (CXf P w) P w K mg base N qual scope f cd A outer s H E).A (leaving (zI (CXf P w) P w K mg base N qual scope f cd A outer s H E).env e) (fun _ s''=>CXf P w outer H s E e s'') (fun _ _=>False) s' ->
   (zI (CXf P w) P w K mg base N qual scope f cd A outer s H E).xe e s':=fun e s' h=>wpAny_mono h (fun _ _ y=>y) fun _ _ z=>z.elim
theorem Fun.okF {P:Program} {w:World} {K:aoZ} {mg:Str->Option Value} {base:Heap} {x qual:Str} {st:Stmt} {f:Addr} {fd:FuncData} {N ps:List Str} {k:Nat} {sp:Sp} (F:Fun K x qual st f fd) (S:FnScope N ps (zg st)) (len:∀ vs H Q E,sp vs H Q E->vs.length=ps.length)
  (hbody:∀ (cdv:Value) (A:Around) (outer:List Env) (s:Shared) (H:Hp) (vs:List V) (Q:VK) (E:XK),Room k (A.deeper (envOfC qual (zg st) s.heap.objs.size f cdv))->sp vs H Q E ->
   ∃ t,PSs (zI (CXf P w) P w K mg base N qual (zg st) f cdv A outer s H E) (yt st) t/\t { nx:=fun _ H'=>Q .non H',rt:=Q } (start N vs) H):FnOk P w K mg base (CXf P w) (k+1) f fd ps sp:=by
 obtain⟨oc,od,kV,doc,pm,an,cdv,ct,osl,rfl,lk,hcd⟩:=F.ex
 exact alT lk hcd S len fun A outer s H vs Q E hr hsp=>hbody cdv A outer s H vs Q E hr hsp
end
def ExcAt (a:Addr) (C:Value) (o:Option Addr) (h:Heap):Prop:=∃ u,h.get? a=some u/\u.cls=C/\aav u=some .none/\∀ dx,o=some dx->u.dict=some dx
section
variable {X:Cx} {pins:List (Addr×Obj)} {σ:St} {H H1 H2:Hp} {s s1 s2:Shared} {a C0:Addr} {C:Value} {o:Option Addr} {i j:Nat} {n hx:Str} {b0:Stmt} {suite:List Stmt} {hp hpos:Pos} {ts:TS} {D:Ends}
theorem aou (I:Inv X pins σ H1 s1) (x:XLie X.prog X.w X.stack H1 s1 a C H2 s2) (dc:Dct a o s2.heap) (hst:X.stack=X.env :: X.outer) (hf:X.env.frame=some X.env.locals) (hN:X.N.Nodup) (hj:X.N[j]?=some n) (hn:X.env.scope.names.lookup n=some .local)
  (hg:Gl X hx) (hm:X.mg hx=some (.ref C0)) (hit:arp X.K C (.ref C0)=some true) (hs:PSs (X.marked (.ref a)) (b0 :: suite) ts) (h:ts (ac3 D j) (σ.set j (some (.ref a))) (upd H2 a (.ext (ExcAt a C o))))
  (hd:(hx == ("__debug__":Str))=false:=by decide) :
  wpAny (model X.prog X.w) X.A (noteFrame (.ref a) X.env) (fun _ t2=>wpAny (model X.prog X.w) X.A (setFlight (.ref a) none) (fun _ t3 =>
   wpAny (model X.prog X.w) X.A (handleBy (.ref a) X.env [.ExceptHandler (some (.Name hx hp)) (some n) (b0 :: suite) hpos]) (SP X pins D) X.xe t3) X.xe t2) X.xe s2:=by
 obtain⟨B,a0,fl,dom,trk⟩:=x.fly
 have fl0:=fl
 rw [hst] at fl0
 refine aet (agF _ _) (wpAny_looks_onW (by rw [I.ok.frames,hst]) hf fl0 (Q:=fun _ s'=>∃ h4,s'={ s2 with heap:=h4 }/\Heap.HeldW B (X.env :: X.outer) a C a0 X.env.locals h4/\s2.heap.UpToSlots h4) fun h4 held up4=>⟨h4,rfl,held,up4⟩) ?_
 rintro _ _ ⟨h4,rfl,held,up4⟩ kd4
 refine aet (aaw _ _) (wpAny_landsW held (Q:=fun _ s'=>∃ h5,s'={ s2 with heap:=h5 }/\asz B (X.env :: X.outer) a C a0 h5/\h4.UpToSlots h5) fun h5 fl5 up5=>⟨h5,rfl,fl5,up5⟩) ?_
 rintro _ _ ⟨h5,rfl,fl5,up5⟩ kd5
 have mv:∀ {hh:Heap},B.StaysIn hh->s2.heap.UpToSlots hh->Un (frs X.stack) [] H1 H2 s1.heap hh/\HOk X.prog X.w H2 hh:=fun st up=>x.move fl dom trk st up
 have I5:Inv X pins σ H2 { s2 with heap:=h5 }:=I.call' (s':={ s2 with heap:=h5 }) x.os (mv fl5.1 (up4.trans up5)).1 (mv fl5.1 (up4.trans up5)).2 x.bare (fun b z=>absurd z (by simp))
 refine wpAny_handleBy_cons (codeAny_handlers_test (jD (X:=X.marked (.ref a)) (I5.marked (.ref a)) hg hm ?_ hd)) (by intro q;cases q)
 obtain⟨ob,hob,hoc⟩:=fl5.there
 have LT:PySem.W.Looks (model X.prog X.w) h5 (typeOf (.ref a)) C:=by
  subst hoc
  exact (PySem.W.Looks.ld hob).andThen .now
 refine (PySem.W.exm_one I5.kIn LT hit).at (codeAny_handlers_suite_as ?_)
 refine aet (aaw _ _) (lands_againW fl5 (Q:=fun _ s'=>∃ h6,s'={ s2 with heap:=h6 }/\asz B (X.env :: X.outer) a C a0 h6/\h5.UpToSlots h6) fun h6 fl6 up6=>⟨h6,rfl,fl6,up6⟩) ?_
 rintro _ _ ⟨h6,rfl,fl6,up6⟩ kd6
 obtain⟨un,ok⟩:=mv fl6.1 ((up4.trans up5).trans up6)
 have fr6:H2 a=none:=x.free
 have ne:∀ {b:Addr} {u:HO},H2 b=some u->upd H2 a (.ext (ExcAt a C o)) b=some u:=fun {b u} e=>by
  rw [zr fun z=>by rw [z,fr6] at e;cases e]
  exact e
 have here:ExcAt a C o h6:=by
  obtain⟨u,h1,h2⟩:=fl6.there
  obtain⟨v,z1,z2,z3⟩:=((dc.kd kd4).kd kd5).kd kd6
  rw [h1] at z1
  cases z1
  exact⟨u,h1,h2,z2,z3⟩
 have I7:Inv X pins σ (upd H2 a (.ext (ExcAt a C o))) { s2 with heap:=h6 }:=by
  refine I.call' (s':={ s2 with heap:=h6 }) x.os ⟨un.keep,un.slot,fun b u q m z=>?_,un.there,fun b xs q=>ne (un.tups b xs q),fun b u v q=>ne (un.frzs b u v q),fun b ps q=>?_⟩ (fun b u e=>?_) x.bare (fun b z=>absurd z (by simp))
  ·rw [zr fun e=>by rw [e,x.new] at q;cases q]
   exact un.free b u q m z
  ·obtain⟨more,q2⟩:=un.tbls b ps q
   exact⟨more,ne q2⟩
  ·by_cases hb:b=a
   ·subst hb
    rw [zq] at e
    cases e
    obtain⟨u,z⟩:=here
    exact⟨⟨u,z⟩,⟨u,z.1⟩,fun g1 g2 p k=>let⟨v,q1,q2⟩:=p;⟨v,k v q1,q2⟩⟩
   ·rw [zr hb] at e
    exact (ok b u e).stay (fun c v _ q=>q) (fun c q=>ne q) fun c xs q=>ne q
 refine jT (X:=X.marked (.ref a)) (v:=.ref a) (I7.marked _) hN hj (.inl hn) rfl (fun s8 I8=>?_) (.inr hn)
 refine wpAny_mono (hs pins s8 _ _ (ac3 D j) I8 h) (fun f s9 q=>?_) fun _ _ z=>z.elim
 show wpAny (model X.prog X.w) X.A (do bindName X.env n .none;unbindBehindTheSuite X.env n hpos) (fun _ t=>SP X pins D f t) X.xe s9
 cases f with
 | next =>
  obtain⟨σ',H',I9,q9⟩:=q
  exact ac4 (I9.unmarked I.ok) hN hj hn fun s' I'=>⟨_,H',I',q9⟩
 | brk =>
  obtain⟨σ',H',I9,q9⟩:=q
  exact ac4 (I9.unmarked I.ok) hN hj hn fun s' I'=>⟨_,H',I',q9⟩
 | cont =>
  obtain⟨σ',H',I9,q9⟩:=q
  exact ac4 (I9.unmarked I.ok) hN hj hn fun s' I'=>⟨_,H',I',q9⟩
 | ret u =>
  obtain⟨v,σ',H',I9,r9,q9⟩:=q
  exact ac4 (I9.unmarked I.ok) hN hj hn fun s' I'=>⟨v,_,H',I',r9,q9⟩
end
end L2
end
section
namespace L2
open PySem PySem.Spec PySem.W PyProof.Rows PySem.Calls PySem.Builtin Builtin Builtin.ObjectAttr Builtin.Getset_descriptor
section
variable {prog:Program} {w:World} {A:Around} {E:Value->Shared->Prop} {s:Shared} {K:aoZ} {a C f dx:Addr} {name:Str} {v:Value}
theorem ajq {Q:Value->Shared->Prop} {o:Option Addr} {m:Str->Option Value} (X:K.In s.heap) (Y:XCls s.heap C f bmV "ValueError.__new__") (I:ExcAt a (.ref C) (some dx) s.heap) (Wy:ExcWays K C) (na:findIn K (.ref C) name=some none) (hn:s.heap.Ns1 dx m) (hm:m name=some v) (hh:handedIn v=true)
  (h:Q v { s with toks:=s.toks+1 }):wpAny (model prog w) A (getAttr (.ref a) name true) Q E s:=by
 obtain⟨u,hu,hc,hnc,hd⟩:=I
 have II:aaJ a C s.heap:=⟨u,hu,hc⟩
 obtain⟨nm,q,N,bs,bm,sn,sub,ab,col,dd,k0,k1,k2,k3,k5,mN,hC,hN,hi,T⟩:=Y.ex
 obtain⟨hh',g,d,t,os⟩:=s
 have L0:=qE (M:=model prog w) II
 have L1:=looks_findIn (M:=model prog w) X Wy.ga
 have L2:=looks_findIn (M:=model prog w) X Wy.gt
 have L3:=looks_findIn (M:=model prog w) X na
 unfold getAttr getAttrBy
 refine wpAny_bind (wpAny_mkText (wpAny_holding (wpAny_bind (L0.at (wpAny_bind (L1.at ?_))))))
 dsimp only
 rw [if_neg (by
  have z:(Value.builtin "BaseException.__getattribute__" == Value.builtin "object.__getattribute__")=false:=by decide +kernel
  rw [z,aqY]
  exact aoY)]
 unfold getAttrByItsOwn hookBefore
 rw [if_pos (show onTheHeap (Value.ref C)=true from rfl)]
 refine wpAny_bind (L2.at (wpAny_bind (wpAny_attempt (wpAny_holding ?_))))
 unfold callGetattribute
 rw [if_neg (show ¬ (true && onTheHeap (Value.builtin "BaseException.__getattribute__"))=true by decide)]
 unfold boundAndCalled
 rw [ar0.ga.bind (.ref a)]
 refine wpAny_bind (wpAny_pure ?_)
 dsimp only
 refine wpAny_call (codeAny_call_builtin ar0.ga.plain PySem.F.entry_bexc_ga (aeb (K:=K) (C:=C) X II Wy ?_))
 unfold Builtin.«object.__getattribute__»
 refine wpAny_bind (wpAny_of_eq (a:=(Value.ref a,[Value.str name t])) rfl ?_)
 dsimp only
 refine wpAny_bind (wpAny_of_eq (a:=name) rfl ?_)
 refine wpAny_bind (L0.at (wpAny_bind ?_))
 unfold find
 refine wpAny_bind (L3.at (wpAny_bind (wpAny_pure (wpAny_bind (wpAny_pure ?_)))))
 dsimp only
 unfold ownThenClass
 refine wpAny_bind ?_
 have own:wpAny (model prog w) A.in1 (inOwnDict name (.ref a)) (fun r s'=>r=some v/\s'=⟨hh',g,d,t+1,os⟩) (fun _ _=>False) ⟨hh',g,d,t+1,os⟩:=by
  unfold inOwnDict ObjectAttr.ownDict loadHead
  refine wpAny_bind (wpAny_bind (wpAny_loadPart_at hu ?_))
  have go:wpAny (model prog w) A.in1 (instanceDict a false) (fun r s'=>wpAny (model prog w) A.in1 (inDict name r) (fun r s'=>r=some v/\s'=⟨hh',g,d,t+1,os⟩) (fun _ _=>False) s') (fun _ _=>False) ⟨hh',g,d,t+1,os⟩:=by
   unfold instanceDict
   refine wpAny_bind (wpAny_loadPart_at hu ?_)
   rw [hc,hd dx rfl]
   refine wpAny_bind (wpAny_bind (wpAny_loadPart_at hC (wpAny_pure ?_)))
   dsimp only
   refine wpAny_pure (wpAny_nsGet hn.ns ?_)
   exact⟨hm,rfl⟩
  cases q:u.data with
  | cls c=>rw [aav,q] at hnc;cases hnc
  | _=>exact go
 refine wpAny_mono own (fun r s' z=>?_) fun _ _ z=>z.elim
 obtain⟨rfl,rfl⟩:=z
 dsimp only
 refine wpAny_bind (wpAny_rule (wpAny_pure ?_))
 dsimp only
 refine wpAny_pure ?_
 show wpAny _ _ (handedOut v) _ _ _
 rw [handedOut_of hh]
 exact wpAny_pure h
end
theorem ani {h:Heap} {a C:Addr} {o:Option Addr} (x:ExcAt a (.ref C) o h):aaJ a C h:=let⟨u,h1,h2,_⟩:=x;⟨u,h1,h2⟩
def anj (K:aoZ):List V->Hp->VK->Prop:=fun xs H Q=>∃ a C o c b,xs=[.ref a,c]/\H a=some (.ext (ExcAt a (.ref C) o))/\ExcWays K C/\((∃ n,c=.ty n/\apn K (.ref C) (.type n)=some b) \/ ∃ D,c=.ref D/\apn K (.ref C) (.ref D)=some b)/\Q (.bl b) H
theorem yD {X:Cx} {K:aoZ} (hK:X.K=K):yo X (.builtin "isinstance") (anj K):=by
 subst hK
 intro pins s σ H xs us Q I r h
 obtain⟨a,C,o,c,b,rfl,hH,Wy,hc,q⟩:=h
 obtain⟨u,w',rfl,rx,rn⟩:=vals2 r
 cases rx
 have hI:aaJ a C s.heap:=ani (I.hok a _ hH).1
 rcases hc with⟨n,rfl,hk⟩ | ⟨D,rfl,hk⟩ <;> cases rn <;> exact PySem.W.kia_one (aiK Wy) I.kIn hI hk (fun z=>nomatch z) fun tk=>⟨.bl b,H,I.tok tk,rfl,q⟩
def ama (K:aoZ) (name:Str) (ta:TE):TE:=fun σ H Q=>ta σ H fun x H1=>∃ a C f D dx y,x=.ref a/\FldC K C f D name/\ExcWays K C/\H1 a=some (.ext (ExcAt a (.ref C) (some dx)))/\H1 dx=some (.xd [(name,y)])/\Q y H1
theorem aew {y:V} {u:Value} (r:RelV y u):handedIn u=true:=by
 cases y <;> first | (cases r;rfl) | (obtain⟨t,rfl⟩:=r;rfl)
theorem ahN {X:Cx} {K:aoZ} {e:Expr} {ta:TE} {name:Str} {pos:Pos} (hK:X.K=K) (he:PE X e ta) (hb:attributeBase e name X.env (eval e X.env)=eval e X.env:=by rfl):PE X (.Attribute e name pos) (ama K name ta):=by
 subst hK
 intro pins s σ H Q I h
 refine akv hb (thn (he pins s σ H _ I h) fun u s1 ⟨x,H1,I1,rx,a,C,f,D,dx,y,ex,T,Wy,hH,hD,q⟩=>?_)
 subst ex
 obtain rfl:u=Value.ref a:=rx
 obtain⟨m,hn,hm⟩:=I1.hok dx _ hD
 have hy:=hm name
 rw [apH,beq_self_eq_true] at hy
 cases z:m name with
 | none=>rw [z] at hy;exact hy.elim
 | some u =>
  rw [z] at hy
  have ry:RelV y u:=hy
  exact ajq (o:=none) I1.kIn (vX I1.kIn T.wi) (I1.hok a _ hH).1 Wy T.na hn z (aew ry) ⟨y,H1,I1.tok _,ry,q⟩
def PBy (X:Cx) (body:List Stmt) (tb:XK->TS):Prop:=∀ (pins:List (Addr×Obj)) (s:Shared) (σ:St) (H:Hp) (D:Ends) (E:XK),Inv X pins σ H s->tb E D σ H ->
 wpAny (model X.prog X.w) X.A (execs body X.env) (SP X pins D) (fun e s'=>∃ H1 s1,Inv X pins σ H1 s1/\CXf X.prog X.w X.stack H1 s1 E e s') s
section
variable {X:Cx} {k:Nat} {f:Addr} {fd:FuncData} {ps:List Str} {sp:Sp} {t:TA} {fx y:Str} {e0:Expr} {es:List Expr} {p py cpos spos pos:Pos} {rest:List Stmt} {tr:TS} {i:Nat}
def bIf (c:TT) (t u:XK->TS):XK->TS:=fun E D σ H=>c σ H fun b H1=>if b=true then t E D σ H1 else u E D σ H1
theorem aov {c:Expr} {a b:List Stmt} {tc:TT} {ta tb:XK->TS} (hc:PT X.nox c tc) (ha:PBy X a ta) (hb:PBy X b tb):PBy X [.If c a b pos] (bIf tc ta tb):=by
 intro pins s σ H D E I h
 refine wpAny_execs_cons (wpAny_If (wpAny_mono (hc pins s σ H _ (I.wish _) h) (fun d s1 z=>?_) fun _ _ z=>z.elim))
 obtain⟨H1,I1,q1⟩:=z
 have done:∀ (fl:Flow) (s':Shared),SP X pins D fl s'->match fl with | .next=>wpAny (model X.prog X.w) X.A (execs [] X.env) (SP X pins D) (fun e s'=>∃ H1 s1,Inv X pins σ H1 s1/\CXf X.prog X.w X.stack H1 s1 E e s') s' | fl=>SP X pins D fl s':=fun fl s' z=>by
  cases fl with
  | next=>exact wpAny_execs_nil z
  | brk=>exact z
  | cont=>exact z
  | ret u=>exact z
 cases d with
 | true=>exact wpAny_mono (ha pins s1 σ H1 D E I1.unwish q1) (fun fl s' z=>done fl s' z) fun _ _ z=>z
 | false=>exact wpAny_mono (hb pins s1 σ H1 D E I1.unwish q1) (fun fl s' z=>done fl s' z) fun _ _ z=>z
def amb (K:aoZ) (C0:Addr) (tb:XK->TS) (j:Nat) (ts:Addr->TS):TS:=fun D σ H=>tb (fun C o H2=>arp K C (.ref C0)=some true/\∀ a,H2 a=none->ts a (ac3 D j) (σ.set j (some (.ref a))) (upd H2 a (.ext (ExcAt a C o)))) D σ H
theorem ak9 {body suite:List Stmt} {tb:XK->TS} {b0:Stmt} {hx n:Str} {hp hpos:Pos} {C0:Addr} {j:Nat} {tss:Addr->TS} (hB:PBy X body tb) (hN:X.N.Nodup) (hst:X.stack=X.env :: X.outer) (hf:X.env.frame=some X.env.locals) (hj:X.N[j]?=some n) (hn:X.env.scope.names.lookup n=some .local)
  (hg:Gl X hx) (hm:X.mg hx=some (.ref C0)) (hs:∀ a,PSs (X.marked (.ref a)) (b0 :: suite) (tss a)) (hd:(hx == ("__debug__":Str))=false:=by decide) :
  PS X (.Try body [.ExceptHandler (some (.Name hx hp)) (some n) (b0 :: suite) hpos] [] [] pos) (amb X.K C0 tb j tss):=by
 intro pins s σ H D I h
 refine wpAny_Try_except (wpAny_mono (hB pins s σ H D _ I h) (fun fl s1 z=>?_) fun e s' z=>?_)
 ·cases fl with
  | next=>exact wpAny_execs_nil z
  | brk=>exact z
  | cont=>exact z
  | ret u=>exact z
 ·obtain⟨H1,s1,I1,a,C,o,H2,rfl,x,dc,hit,hts⟩:=z
  exact aou (ts:=tss a) I1 x dc hst hf hN hj hn hg hm hit (hs a) (hts a x.free) hd
end
abbrev XD:=Option (Str×PyData)
def FieldIs (K:aoZ) (Hh:Hp):Option Addr->XD->Prop
 | none,none=>True
 | some dx,some (n,d)=>∃ v,Hh dx=some (.xd [(n,v)])/\Rep K Hh d v
 | _,_=>False
theorem FieldIs.mono {K:aoZ} {H H':Hp} (s:Same H H'):∀ {o:Option Addr} {x:XD},FieldIs K H o x->FieldIs K H' o x
 | none,none,_=>trivial
 | some dx,some (n,d),h=>let⟨v,h1,h2⟩:=h;⟨v,s _ _ h1,Rep.mono s d v h2⟩
 | none,some _,h=>h.elim
 | some _,none,h=>h.elim
def jS (K:aoZ) (a:Addr) (C:Value) (x:XD):Hp->V->Prop:=fun Hh v=>∃ o,v=.ref a/\Hh a=some (.ext (ExcAt a C o))/\FieldIs K Hh o x
def Wish (K:aoZ) (f:Fx) (E:XK) (H:Hp) (Z:Value->XD->Prop):Prop:=∀ C o x H',Goes f H H'->FieldIs K (hide H' f) o x->Z C x->E C o H'
theorem Wish.go {K:aoZ} {f:Fx} {E:XK} {H H1:Hp} {Z:Value->XD->Prop} (z:Wish K f E H Z) (g:Goes f H H1):Wish K f E H1 Z:=fun C o x H' g'=>z C o x H' (g.trans g')
def PEf (K:aoZ) (f:Fx) (E:XK) (te:TE) (ρ:zm) (P:PyData->Prop) (Z:Value->XD->Prop):Prop:=∀ (σ:St) (H:Hp) (Q:VK),EnvOk K f ρ σ H->(∀ d v H',Goes f H H'->Rep K (hide H' f) d v->P d->Q v H')->Wish K f E H Z->te σ H Q
def PSf (K:aoZ) (f:Fx) (E:XK) (ts:TS) (ρ:zm) (D:DEnds) (Z:Value->XD->Prop):Prop:=∀ (σ:St) (H:Hp) (N:Ends),EnvOk K f ρ σ H->(∀ ρ' σ' H',Goes f H H'->EnvOk K f ρ' σ' H'->D.nx ρ'->N.nx σ' H') ->
 (∀ d v H',Goes f H H'->Rep K (hide H' f) d v->D.rt d->N.rt v H')->(∀ ρ' σ' H',Goes f H H'->EnvOk K f ρ' σ' H'->D.bk ρ'->N.bk σ' H')->(∀ ρ' σ' H',Goes f H H'->EnvOk K f ρ' σ' H'->D.ct ρ'->N.ct σ' H')->Wish K f E H Z->ts N σ H
def spF {γ:Type} (K:aoZ) (n:Nat) (pre:γ->List DV->Prop) (post:γ->PyData->Prop) (exc:γ->Value->XD->Prop):Sp:=fun vs H Q E=>∃ f xs c,RepVs K f H xs vs/\xs.length=n/\FOk f H/\pre c xs /\
 (∀ r v H',Goes f H H'->Rep K (hide H' f) r v->post c r->Q v H')/\Wish K f E H (exc c)
section
variable {K:aoZ} {f:Fx} {ρ:zm} {E:XK} {te:TE} {ts tu:TS} {tt:TT} {t:TA} {P:PyData->Prop} {D:DEnds} {Z:Value->XD->Prop} {g:TG} {wi:TI}
theorem afv (h:PSd K f ts ρ D):PSf K f E ts ρ D Z:=fun σ H N e n r b c _=>h σ H N e n r b c
theorem ank {γ:Type} {n:Nat} {pre:γ->List DV->Prop} {post:γ->PyData->Prop} {exc:γ->Value->XD->Prop} (c:γ) (h:PAd K f t ρ fun xs=>xs.length=n/\pre c xs/\(∀ r,post c r->P r)/\∀ C x,exc c C x->Z C x):PEf K f E (vg (spF K n pre post exc) [] E t) ρ P Z:=fun σ H Q e q z =>
 h σ H _ e fun xs vs H1 g1 r1 ⟨hl,hp,k,kz⟩=>⟨f,xs,c,by rw [apB];exact r1,hl,g1.2,hp,fun r v H' g' r' p'=>q r v H' (g1.trans g') r' (k r p'),fun C o x H' g' fi p'=>z C o x H' (g1.trans g') fi (kz C x p')⟩
theorem adt {C:Addr} {name:Str} (h:PAd K f t ρ fun xs=>∃ d,xs=[.dat d]/\Z (.ref C) (some (name,d))):PSf K f E (ads C name E t) ρ D Z:=fun σ H N e n r b c z =>
 h σ H _ e fun xs vs H1 g1 r1 ⟨d,ex,hz⟩=>by
  subst ex
  cases r1 with
  | @cons _ v _ _ rd rn =>
   cases rn
   refine⟨v,rfl,fun dx hn=>?_⟩
   have g2:Goes f H1 (upd H1 dx (.xd [(name,v)])):=.of_same (zR hn _) g1.2
   exact z (.ref C) (some dx) (some (name,d)) _ (g1.trans g2) ⟨v,zz (fresh_ne g1.2 hn) zq,Rep.mono g2.1 d v rd⟩ hz
theorem ajr (h:PSf K f E ts ρ { D with nx:=fun ρ'=>PSf K f E tu ρ' D Z } Z):PSf K f E (qz ts tu) ρ D Z:=fun σ H N e n r b c z =>
 h σ H _ e (fun ρ' σ' H' g' e' p=>p σ' H' N e' (fun ρ2 σ2 H2 g2=>n ρ2 σ2 H2 (g'.trans g2)) (fun d v H2 g2=>r d v H2 (g'.trans g2)) (fun ρ2 σ2 H2 g2=>b ρ2 σ2 H2 (g'.trans g2)) (fun ρ2 σ2 H2 g2=>c ρ2 σ2 H2 (g'.trans g2)) (z.go g')) r b c z
theorem anl (h:PTd K f tt ρ fun q=>if q=true then PSf K f E ts ρ D Z else PSf K f E tu ρ D Z):PSf K f E (ae0 tt ts tu) ρ D Z:=fun σ H N e n r b c z =>
 h σ H _ e fun q H1 g1 p=>by
  have go:∀ tx,PSf K f E tx ρ D Z->tx N σ H1:=fun tx p=>p σ H1 N (e.mono g1) (fun ρ2 σ2 H2 g2=>n ρ2 σ2 H2 (g1.trans g2)) (fun d v H2 g2=>r d v H2 (g1.trans g2)) (fun ρ2 σ2 H2 g2=>b ρ2 σ2 H2 (g1.trans g2)) (fun ρ2 σ2 H2 g2=>c ρ2 σ2 H2 (g1.trans g2)) (z.go g1)
  cases q with
  | false=>rw [if_neg aoY] at p ⊢;exact go _ p
  | true=>rw [if_pos rfl] at p ⊢;exact go _ p
theorem anm (h:PEf K f E te ρ (fun _=>D.nx ρ) Z):PSf K f E (aaC te) ρ D Z:=fun σ H N e n r b c z=>h σ H _ e (fun d v H' g' _ p=>n ρ σ H' g' (e.mono g') p) z
theorem aow (h:PId K f wi ρ fun ds=>∃ J:Nat->zm->Prop,J 0 ρ /\
   (∀ (i:Nat) d ρ',ds[i]?=some d->J i ρ'->PGd K f g d ρ' fun ρ2=>PSf K f E ts ρ2 { D with nx:=J (i+1),ct:=J (i+1),bk:=D.nx } Z)/\∀ ρ',J ds.length ρ'->D.nx ρ') :
  PSf K f E (aij wi g ts) ρ D Z:=fun σ H N e n r b c z=>h σ H _ e fun ds J H1 g1 it ⟨Jv,j0,js,jd⟩=>by
 refine⟨fun i m σ' H'=>∃ ρ',EnvOk K f ρ' σ' H'/\Goes f H1 H'/\Jv i ρ'/\m+i=ds.length,⟨ds.length,ρ,e.mono g1,.refl g1.2,j0,rfl⟩,fun i m σ' H' ⟨ρ',e',g',p,hm⟩=>?_⟩
 by_cases hi:i<ds.length
 ·obtain⟨hgo,hy⟩:=it.go f H' i _ e'.fd g'.sm (aoW hi)
  refine .inr ⟨hgo,fun σ2 H2=>∃ ρ2,EnvOk K f ρ2 σ2 H2/\Goes f H1 H2/\Jv (i+1) ρ2,fun σ2 H2 ⟨ρ2,e2,g2,p2⟩=>⟨m - 1,by omega,ρ2,e2,g2,p2,by omega⟩,fun x H3 hx=>?_⟩
  obtain⟨g3,r3⟩:=hy x H3 hx
  refine js i _ ρ' (aoW hi) p σ' H3 x _ (e'.mono g3) r3 fun ρ2 σ2 H4 g4 e4 p4=>?_
  have gg:=g'.trans (g3.trans g4)
  exact p4 σ2 H4 _ e4 (fun ρ5 σ5 H5 g5 e5 p5=>⟨ρ5,e5,gg.trans g5,p5⟩) (fun d v H5 g5 r5 p5=>r d v H5 (g1.trans (gg.trans g5)) r5 p5) (fun ρ5 σ5 H5 g5 e5 p5=>n ρ5 σ5 H5 (g1.trans (gg.trans g5)) e5 p5) (fun ρ5 σ5 H5 g5 e5 p5=>⟨ρ5,e5,gg.trans g5,p5⟩) (z.go (g1.trans gg))
 ·have ei:i=ds.length:=by omega
  subst ei
  exact .inl ⟨it.st f H' e'.fd g'.sm,n ρ' σ' H' (g1.trans g') e' (jd ρ' p)⟩
def PYd (K:aoZ) (f:Fx) (tb:XK->TS) (ρ:zm) (D:DEnds) (Z:Value->XD->Prop):Prop:=∀ (E:XK),PSf K f E (tb E) ρ D Z
theorem aoR {ta tb:XK->TS} (h:PTd K f tt ρ fun q=>if q=true then PYd K f ta ρ D Z else PYd K f tb ρ D Z):PYd K f (bIf tt ta tb) ρ D Z:=fun E =>
 anl (ts:=ta E) (tu:=tb E) fun σ H Q e q=>h σ H Q e fun b H' g' p=>q b H' g' (by
  cases b with
  | false=>rw [if_neg aoY] at p ⊢;exact p E
  | true=>rw [if_pos rfl] at p ⊢;exact p E)
theorem ano {tb:XK->TS} {C0:Addr} {j:Nat} {tss:Addr->TS}
  (h:PYd K f tb ρ D fun C x=>arp K C (.ref C0)=some true/\∀ a,PSd K f (tss a) (ρ.set j (some (.mon (jS K a C x)))) { nx:=fun ρ'=>D.nx (ρ'.set j none),rt:=D.rt,bk:=fun ρ'=>D.bk (ρ'.set j none),ct:=fun ρ'=>D.ct (ρ'.set j none) }) :
  PSd K f (amb K C0 tb j tss) ρ D:=fun σ H N e nx rt bk ct=>by
 refine h _ σ H N e nx rt bk ct fun C o x H' g' fi ⟨hit,hs⟩=>⟨hit,fun a hn=>?_⟩
 have gn:Goes f H' (upd H' a (.ext (ExcAt a C o))):=.of_same (zR hn _) g'.ok
 have gg:=g'.trans gn
 have e2:=(e.mono gg).set j (x:=.mon (jS K a C x)) (v:=.ref a) fun H'' s''=>⟨o,rfl,s'' _ _ (zz (fresh_ne g'.ok hn) zq),FieldIs.mono (gn.1.trans s'') fi⟩
 have none_ok:∀ {ρ':zm} {σ':St} {H'':Hp},EnvOk K f ρ' σ' H''->EnvOk K f (ρ'.set j none) (σ'.set j none) H'':=fun {ρ' σ' H''} e'=>by
  refine⟨by rw [apP,apP];exact e'.len,fun q y hy=>?_,e'.fd⟩
  by_cases hq:j=q
  ·subst hq
   rw [asa] at hy
   rw [if_pos rfl] at hy
   split at hy <;> cases hy
  ·rw [apY hq] at hy ⊢
   exact e'.get q y hy
 exact hs a _ _ _ e2 (fun ρ' σ' H'' g'' e'' p''=>nx _ _ H'' (gg.trans g'') (none_ok e'') p'') (fun d v H'' g'' r'' p''=>rt d v H'' (gg.trans g'') r'' p'') (fun ρ' σ' H'' g'' e'' p''=>bk _ _ H'' (gg.trans g'') (none_ok e'') p'') (fun ρ' σ' H'' g'' e'' p''=>ct _ _ H'' (gg.trans g'') (none_ok e'') p'')
theorem ajs {j:Nat} {C a:Addr} {x:XD} {c:V} {b:Bool} (hj:ρ[j]?=some (some (.mon (jS K a (.ref C) x)))) (Wy:ExcWays K C) (hk:(∃ n,c=.ty n/\apn K (.ref C) (.type n)=some b) \/ ∃ D,c=.ref D/\apn K (.ref C) (.ref D)=some b) (p:P (.bool b)) :
  PEd K f (tCB (anj K) (zY (z6 j) (zY (tC c) y4))) ρ P:=fun σ H Q e q=>by
 obtain⟨v,hv,r⟩:=e.get j _ hj
 obtain⟨o,rfl,hH,_⟩:=r H (zl H f)
 exact⟨_,hv,a,C,o,c,b,rfl,hH,Wy,hk,q _ _ H (.refl e.fd) (rep_bool.mpr rfl) p⟩
theorem ajt {j:Nat} {C a fa Dc:Addr} {name:Str} {d:PyData} (hj:ρ[j]?=some (some (.mon (jS K a (.ref C) (some (name,d)))))) (T:FldC K C fa Dc name) (Wy:ExcWays K C) (p:P d):PEd K f (ama K name (z6 j)) ρ P:=fun σ H Q e q=>by
 obtain⟨v,hv,r⟩:=e.get j _ hj
 obtain⟨o,rfl,hH,fi⟩:=r (hide H f) (Same.refl _)
 cases o with
 | none=>exact fi.elim
 | some dx =>
  obtain⟨y,h1,h2⟩:=fi
  exact⟨_,hv,a,C,fa,Dc,dx,y,rfl,T,Wy,(zF hH).2,(zF h1).2,q d y H (.refl e.fd) h2 p⟩
end
structure FnInF (P:Program) (w:World) (K:aoZ) (mg:Str->Option Value) (base:Heap) (k:Nat) (x:Str) (ps:List Str) (sp:Sp):Prop where
 ex:∃ (f:Addr) (fd:FuncData),FnOk P w K mg base (CXf P w) k f fd ps sp/\mg x=some (.ref f)/\apM K (.ref f)=true/\Binds K fd ps []
section
variable {P:Program} {w:World} {K:aoZ} {mg:Str->Option Value} {base:Heap} {j k n:Nat} {x:Str} {st:Stmt} {ps N:List Str} {γ:Type} {pre:γ->List DV->Prop} {post:γ->PyData->Prop} {exc:γ->Value->XD->Prop} {sp:Sp}
theorem FnInF.mono (h:FnInF P w K mg base j x ps sp) (hk:j<=k):FnInF P w K mg base k x ps sp:=let⟨f,fd,a,b,c,d⟩:=h.ex;⟨f,fd,a.mono hk,b,c,d⟩
theorem Def.okF (F:Def K mg x st ps) (S:FnScope N ps (zg st)) (hn:ps.length=n)
  (h:∀ (fa:Addr) (cdv:Value) (A:Around) (outer:List Env) (s:Shared) (H:Hp) (E:XK),Room k (A.deeper (envOfC x (zg st) s.heap.objs.size fa cdv)) ->
   ∃ t,PSs (zI (CXf P w) P w K mg base N x (zg st) fa cdv A outer s H E) (yt st) t/\∀ f xs c,xs.length=n->pre c xs->PSf K f E t (jR N xs) { nx:=fun _=>post c .none,rt:=post c } (exc c)) :
  FnInF P w K mg base (k+1) x ps (spF K n pre post exc):=by
 obtain⟨fa,fd,F1,F2,F3⟩:=F.ex
 refine⟨fa,fd,F1.okF S (fun vs H Q E h=>?_) (fun cdv A outer s H vs Q E hr hs=>?_),F3,F1.kp,F2⟩
 ·obtain⟨f,xs,c,r,hl,_⟩:=h
  rw [r.length,hl,hn]
 ·obtain⟨f,xs,c,r,hl,fo,hp,q,z⟩:=hs
  obtain⟨t,h1,h2⟩:=h fa cdv A outer s H E hr
  refine⟨t,h1,h2 f xs c hl hp _ H _ (jt r fo) (fun ρ' σ' H' g' e' p=>q .none .non H' g' (rep_none.mpr rfl) p) (fun d v H' g' r' p=>q d v H' g' r' p) (fun _ _ _ _ _ z=>z.elim) (fun _ _ _ _ _ z=>z.elim) z⟩
theorem vZ {qual:Str} {scope:Scope} {f:Addr} {cd:Value} {A:Around} {outer:List Env} {s:Shared} {H:Hp} {E:XK} {y:Str} {qs:List Str} {sq:Sp} {e:Expr} {es:List Expr} {t:TA} {p pos:Pos} (G:FnInF P w K mg base k y qs sq) (hr:Room k (zI (CXf P w) P w K mg base N qual scope f cd A outer s H E).A) (hg:Gl (zI (CXf P w) P w K mg base N qual scope f cd A outer s H E) y) (ha:PA (zI (CXf P w) P w K mg base N qual scope f cd A outer s H E) (e :: es) t) (hdb:(y == ("__debug__":Str))=false:=by decide)
  (he:starEach (e :: es) (zI (CXf P w) P w K mg base N qual scope f cd A outer s H E).env=(false,eval e (zI (CXf P w) P w K mg base N qual scope f cd A outer s H E).env) :: starEach es (zI (CXf P w) P w K mg base N qual scope f cd A outer s H E).env:=by rfl)
  (hpl:(backTo pos (starEach es (zI (CXf P w) P w K mg base N qual scope f cd A outer s H E).env)).any (·.1)=false:=by rfl) :
  PE (zI (CXf P w) P w K mg base N qual scope f cd A outer s H E) (.Call (.Name y p) (e :: es) [] pos) (vg sq [] E t):=by
 obtain⟨g,gd,G1,G2,G3,G4⟩:=G.ex
 exact af1 (dvs:=[]) G1 hr hg G2 G3 G4 .nil aos ha hdb he hpl
end
def ala (s:Stmt):List Stmt:=match s with
 | .ClassDef _ _ _ b _ _ _ _ _ _ _=>b
 | _=>[]
structure FCls (K:aoZ) (mg:Str->Option Value) (x base:Str) (C:Addr) (name:Str) (st:Stmt) (ps:List Str):Prop where
 ex:∃ (f D:Addr) (fd:FuncData),FldC K C f D name/\mg x=some (.ref C)/\mg base=some (.ref D)/\Fun K "__init__" (x ++ ".__init__") st f fd/\Binds K fd ps []
structure InitOk (P:Program) (w:World) (K:aoZ) (mg:Str->Option Value) (base:Heap) (k:Nat) (C:Addr) (name:Str):Prop where
 ex:∃ (f D:Addr) (fd:FuncData) (ps:List Str),FldC K C f D name/\FnOk P w K mg base CX0 k f fd ps (adq C name)/\Binds K fd ps []
theorem acz {P:Program} {w:World} {K:aoZ} {mg:Str->Option Value} {base:Heap} {N:List Str} {qual:Str} {scope:Scope} {f:Addr} {cd:Value} {A:Around} {outer:List Env} {s:Shared} {H:Hp} {E:XK} {k:Nat} {C:Addr} {name x:Str} {e0:Expr} {t:TA} {np cpos pos:Pos}
  (G:InitOk P w K mg base k C name) (hr:Room (k+1) (zI (CXf P w) P w K mg base N qual scope f cd A outer s H E).A) (hg:Gl (zI (CXf P w) P w K mg base N qual scope f cd A outer s H E) x) (hm:mg x=some (.ref C)) (ha:PA (zI (CXf P w) P w K mg base N qual scope f cd A outer s H E) [e0] t)
  (hse:starEach [e0] (zI (CXf P w) P w K mg base N qual scope f cd A outer s H E).env=(false,eval e0 (zI (CXf P w) P w K mg base N qual scope f cd A outer s H E).env) :: starEach [] (zI (CXf P w) P w K mg base N qual scope f cd A outer s H E).env:=by rfl) (hpl:(backTo cpos (starEach [] (zI (CXf P w) P w K mg base N qual scope f cd A outer s H E).env)).any (·.1)=false:=by rfl) (hd:(x == ("__debug__":Str))=false:=by decide) :
  PS (zI (CXf P w) P w K mg base N qual scope f cd A outer s H E) (.Raise (some (.Call (.Name x np) [e0] [] cpos)) none pos) (ads C name E t):=by
 obtain⟨fI,D,fd,ps,T,F,hb⟩:=G.ex
 exact ahM T F hr hb ajp rfl rfl rfl rfl hg hm ha hse hpl hd
theorem InitOk.fld {P:Program} {w:World} {K:aoZ} {mg:Str->Option Value} {base:Heap} {k:Nat} {C:Addr} {name:Str} (h:InitOk P w K mg base k C name):∃ f D,FldC K C f D name:=let⟨f,D,_,_,T,_⟩:=h.ex;⟨f,D,T⟩
theorem afw {K:aoZ} {f:Fx} {ρ:zm} {P:PyData->Prop} {j:Nat} {C D a:Addr} {x:XD} {b:Bool} (hj:ρ[j]?=some (some (.mon (jS K a (.ref C) x)))) (Wy:ExcWays K C) (hk:apn K (.ref C) (.ref D)=some b) (p:P (.bool b)) :
  PEd K f (tCB (anj K) (zY (z6 j) (zY (tC (.ref D)) y4))) ρ P:=ajs hj Wy (.inr ⟨D,rfl,hk⟩) p
theorem aju {K:aoZ} {f:Fx} {t:TA} {ρ:zm} {R:List DV->Prop} (ys:List DV) (h:PAd K f t ρ fun xs=>xs=ys) (i:R ys):PAd K f t ρ R:=fun σ H Q e q=>h σ H Q e fun xs vs H' g r p=>q xs vs H' g r (p▸i)
theorem aex {K:aoZ} {f:Fx} {ρ:zm} {D:DEnds} {tt:TT} {ts tu:TS} (p:Prop) [Decidable p] (h:PTd K f tt ρ fun b=>b=decide p) (h1:p->PSd K f ts ρ D) (h2:¬ p->PSd K f tu ρ D):PSd K f (ae0 tt ts tu) ρ D:=vJ fun σ H Q e q=>h σ H Q e fun b H' g z=>q b H' g (by
 subst z
 by_cases hp:p
 ·rw [decide_eq_true hp,if_pos rfl];exact h1 hp
 ·rw [decide_eq_false hp,if_neg aoY];exact h2 hp)
def v3 (K:aoZ) (C:Addr):Bool :=
 apR K (.ref C) "__getattribute__" == some (some (.builtin "BaseException.__getattribute__")) && apR K (.ref C) "__getattr__" == some none && apR K (.ref C) "__class__" == some (some (.builtin "object.__class__"))
  && aqO K (.builtin "object.__class__") "__get__" == some (some (.builtin "getset_descriptor.__get__")) && PySem.W.takesIn K (.builtin "object.__class__") == some true && arE K C (.type "object") == some true && arE K C (.type "BaseException") == some true && (PySem.W.clsIn K C).isSome
theorem agG {K:aoZ} {C:Addr} (h:v3 K C=true):ExcWays K C:=by
 unfold v3 at h
 simp only [ao8,beq_iff_eq] at h
 obtain⟨⟨⟨⟨⟨⟨⟨h1,h2⟩,h3⟩,h4⟩,h5⟩,h6⟩,h7⟩,h8⟩:=h
 exact⟨h1,h2,h3,h4,h5,h6,h7,h8⟩
theorem abW:entryFor table "proto.unchain"=some Builtin.«proto.unchain»:=entryFor_of_tree (by kernel_rfl)
section
variable {prog:Program} {w:World} {A:Around} {E:Value->Shared->Prop} {s:Shared}
theorem afx {α:Type} {e h:Addr} {u oe:Obj} {vs:Array Value} {Q:α->Shared->Prop} (hh:A.handled=some (.ref h)) (he:s.heap.get? e=some oe) (hd:oe.data=.fields vs) (h2:2<vs.size) (hu:s.heap.get? h=some u) (hf:aav u=some .none) (ne:h≠e)
  (q:∀ h',(∀ b o,b≠e->s.heap.get? b=some o->h'.get? b=some o)->(∃ o',h'.get? e=some o'/\o'.cls=oe.cls)->E (.ref e) { s with heap:=h' }):wpAny (model prog w) A (raiseNew (.ref e):Sem α) Q E s:=by
 unfold raiseNew
 refine wpAny_bind (wpAny_handled ?_)
 rw [hh]
 dsimp only
 rw [if_pos (show ((Value.ref h != Value.ref e)=true) from by simp [ne])]
 refine wpAny_bind (wpAny_holding (wpAny_runValue (codeAny_builtin abW ?_)))
 unfold aav at hf
 split at hf
 ·rename_i ws hw
  show wpAny _ _ (field (.ref h) 2 >>= _) _ _ s
  refine wpAny_bind (wpAny_field hu hw hf ?_)
  rw [if_pos (show ((Value.none == Value.none)=true) from rfl)]
  refine wpAny_bind (wpAny_pure (wpAny_pure ?_))
  show wpAny _ _ (updateField e 2 (.ref h) >>= fun _=>throw (Value.ref e)) _ _ _
  refine wpAny_bind ?_
  show wpAny _ _ (setField (.ref e) 2 (.ref h)) _ _ _
  refine wpAny_setField he hd h2 (wpAny_throw (q _ (fun b o nb z=>?_) ?_))
  ·exact (apx _ _ (apT nb)).trans z
  ·exact⟨_,ap6 _ he (Obj.isFreed_of_fields (Obj.data_mapFields hd _)),Obj.cls_mapFields _ _⟩
 ·cases hf
theorem abX {it l h:Addr} {i:Nat} {items:Array Value} {u:Obj} {Q:Option Value->Shared->Prop} (hh:A.handled=some (.ref h)) (hit:s.heap.IsListIter it l i) (hl:s.heap.IsList l items) (hx:items[i]?=none) (hu:s.heap.get? h=some u) (hf:aav u=some .none) (hne:h≠it)
  (q:∀ h',(∀ b o,b≠it->s.heap.get? b=some o->h'.get? b=some o)->Q none { s with heap:=h' }):wpAny (model prog w) A (pyNext (.ref it)) Q E s:=by
 obtain⟨o,ho,_,hd⟩:=id hit
 obtain⟨ol,hol,_,nl,hdl⟩:=hl
 refine wpAny_bind (wpAny_attempt (wpAny_callSpecial?_slot (name:=arl "__next__") hit.typeIs slot_listiter_next (wpAny_call_entry slot_listiter_next hit.typeIs entry_listiter_next ?_ (args_listiter_next _))))
 show wpAny _ _ (PySem.field (.ref it) 0 >>= _) _ _ s
 refine wpAny_bind (wpAny_field ho hd (x:=.ref l) rfl (a:=it) ?_)
 rw [if_neg (show ¬ (Value.ref l == Value.none)=true from aoY)]
 refine wpAny_bind (wpAny_field ho hd (x:=.int i 0) rfl (wpAny_bind (wpAny_seqItems hol hdl ?_)))
 simp only [aqR,hx]
 refine wpAny_bind (wpAny_rule (wpAny_bind (wpAny_setField ho hd (by simp) (wpAny_bind ?_))))
 simp only [newExc,newTuple]
 refine wpAny_bind (wpAny_newObj_type (wpAny_bind (m:=firstArgMember _ _) (wpAny_of_eq (a:=Value.none) (by first | rfl | (simp only [firstArgMember];rfl)) (wpAny_newObj_type ?_ (by size_fits)))) (by size_fits))
 have up:∀ b o,b≠it->s.heap.get? b=some o->∀ o1 o2:Obj,(((s.heap.update it (as4 (·.setIfInBounds 0 Value.none))).push o1).push o2).get? b=some o:=fun b o nb z o1 o2=>ao2 _ (ao2 _ ((apx _ _ (apT nb)).trans z))
 refine afx (u:=u) hh (apA _ rfl) rfl (show 2<6 from by decide) (up h u hne hu _ _) hf ?_ fun h' kp ⟨o',e1,e2⟩=>?_
 ·exact fun z=>absurd (apc (ao2 _ ((apx _ _ (apT hne)).trans hu):((s.heap.update it (as4 (·.setIfInBounds 0 Value.none))).push _).get? h=some u)) (by rw [z];exact aqh _)
 ·refine wpAny_bind (wpAny_isInstance (T:="StopIteration") (b:=true) ⟨o',e1,e2⟩ isSubtype_stop (wpAny_pure (q h' fun b o nb z=>kp b o ?_ (up b o nb z _ _))))
  have lt:b<(s.heap.update it (as4 (·.setIfInBounds 0 Value.none))).objs.size:=apc ((apx _ _ (apT nb)).trans z)
  exact apw (apk lt (by rw [aqW];exact ar8 _))
theorem afy (hh:A.handled=some (.ref h)) (I ax:Addr) (hne:ax≠I) (hI:h≠I) (u:Obj) (hf:aav u=some .none) (items:Array Value) :
  Walks prog w A I [I,ax,h] [I] items.size (fun i v=>items[i]?=some v) (fun i hp=>hp.IsListIter I ax i/\hp.IsList ax items/\hp.get? h=some u) where
 sub:=fun b hb=>by rw [apo.mp hb];exact apa
 frame:=fun _ _ _ st k=>⟨st.1.at fun o e=>k I (by simp) o e,st.2.1.at fun o e=>k ax (by simp) o e,k h (by simp) u st.2.2⟩
 item:=fun i s Q E hi st q=>wpAny_pyNext_list_item st.1 st.2.1 (x:=items[i]) (by simp [hi]) fun h' it' sb=>q _ h' s.toks (by simp [hi]) ⟨it',st.2.1.extBut sb.extBut hne,sb.extBut h u hI st.2.2⟩ fun b o nb e=>sb.extBut b o (fun z=>nb (by simp [z])) e
 done:=fun s Q E st q=>abX hh st.1 st.2.1 (by simp) st.2.2 hf hI fun h' k=>q h' s.toks fun b o nb e=>k b o (fun z=>nb (by simp [z])) e
 self:=fun _ _ _ _ st q=>wpAny_pyIter_listiter st.1 q
end
def amc (K:aoZ) (e:Addr):List V->Hp->VK->Prop:=fun xs H Q=>(∃ C o,H e=some (.ext (ExcAt e C o)))/\aoN K xs H Q
theorem ahO {X:Cx} {K:aoZ} {e:Addr} (hK:X.K=K) (hm:X.A.handled=some (.ref e)):yo X (.builtin "any") (amc K e):=by
 subst hK
 intro pins s σ H xs us Q I r h
 obtain⟨⟨C,o,he⟩,a,bs,rfl,hq,q⟩:=h
 obtain⟨v,rfl,r1⟩:=vals1 r
 cases r1
 obtain⟨its,rv,p,_⟩:=I.list hq
 have hl:=p.isList
 rw [abq rv] at hl
 obtain⟨u,hu,_,hf,_⟩:=(I.hok e _ he).1
 have lt:∀ {b:Addr} {o:Obj},s.heap.get? b=some o->b≠s.heap.objs.size:=fun z=>apw (apc z)
 have ha:a≠s.heap.objs.size:=by
  obtain⟨o,ho,_⟩:=hl
  exact lt ho
 refine call_any_walk (wpAny_pyIter_list hl ⟨s.heap.objs.size,_,_,_,_,_,_,rfl,afy (show (X.A.in1).handled=some (.ref e) from hm) _ a ha (lt hu) u hf _,⟨⟨_,apA _ rfl,rfl,rfl⟩,hl.at fun o z=>ao2 _ z,ao2 _ hu⟩,aaK _ _ _ bs,fun h' tk hk=>?_⟩)
 refine⟨.bl _,H,I.kept (t':=tk) fun b o z=>hk b o (fun y=>lt z (apo.mp y)) (ao2 _ z),?_,q⟩
 show Value.bool _=Value.bool _
 rw [ape,aoX,range_any]
structure RoomM (k:Nat) (A:Around):Prop where
 dp:A.depth+3 * k+5<recursionLimit
 un:A.units+16 * k+200<cLine
structure FnOkM (P:Program) (w:World) (K:aoZ) (mg:Str->Option Value) (base:Heap) (k:Nat) (f:Addr) (fd:FuncData) (ps:List Str) (sp:Addr->Sp):Prop where
 len:∀ a vs H Q E,sp a vs H Q E->vs.length=ps.length
 run:∀ (A:Around) (outer:List Env) (s:Shared) (H:Hp) (args:Args) (us:List Value) (vs:List V) (Q:VK) (a:Addr),A.handled=some (.ref a)->RoomM k A->Env0 P w K mg base A outer s H->BindsTo s fd args (ps.zip us)->Vals vs us->sp a vs H Q E0 ->
  codeAny (model P w) A (.call (.ref f) args) (CR CX0 outer P w H s Q E0) s
def cxM (P:Program) (w:World) (K:aoZ) (mg:Str->Option Value) (base:Heap) (N:List Str) (qual:Str) (scope:Scope) (f:Addr) (cd:Value) (A:Around) (outer:List Env) (s:Shared) (H:Hp):Cx :=
 { zI CX0 P w K mg base N qual scope f cd A outer s H E0 with calm:=false,xe:=fun _ _=>False }
theorem anp {P:Program} {w:World} {K:aoZ} {mg:Str->Option Value} {base:Heap} {k:Nat} {f:Addr} {name qual:Str} {params:Arguments} {body:List Stmt} {scope:Scope} {dV kV doc pm cdv ct oc:Value} {an od:Option Addr}
  {osl:Array (Option Value)} {N ps:List Str} {sp:Addr->Sp} (lk:K.lookup f=some ⟨oc,od,.func (aqb name qual params body scope dV kV doc pm an cdv ct),osl⟩) (hcd:aqU K cdv qual=true) (S:FnScope N ps scope)
  (len:∀ a vs H Q E,sp a vs H Q E->vs.length=ps.length)
  (hbody:∀ (A:Around) (outer:List Env) (s:Shared) (H:Hp) (vs:List V) (Q:VK) (a:Addr),A.handled=some (.ref a)->RoomM k (A.deeper (envOfC qual scope s.heap.objs.size f cdv))->sp a vs H Q E0 ->
   ∃ t,PSs (cxM P w K mg base N qual scope f cdv A outer s H) body t/\t { nx:=fun _ H'=>Q .non H',rt:=Q } (start N vs) H) :
  FnOkM P w K mg base (k+1) f (aqb name qual params body scope dV kV doc pm an cdv ct) ps sp:=by
 refine⟨len,fun A outer s H args us vs Q a hm hr e0 hb r hsp=>?_⟩
 have KX:K.In s.heap:=e0.mod.kin.keeps fun b o e=>(e0.bs b o e).1
 have hkind:∀ y∈ps.zip us,scope.names.lookup y.1=some .local \/ (scope.names.lookup y.1=some .cell/\((cellsFrom (s.heap.objs.size+1) scope.names []).lookup y.1).isSome=true):=fun⟨n,v⟩ hy=>(S.par n (arK hy).1).imp id fun q=>⟨q,aqn _ _ _ (.inl q)⟩
 have rd:RoomM k (A.deeper (envOfC qual scope s.heap.objs.size f cdv)):=⟨by have:=hr.dp;show A.depth+1+3 * k+5<_;omega,by have:=hr.un;show A.units+3+16 * k+200<_;omega⟩
 refine codeAny_call_function (by have:=hr.dp;omega) (KX _ _ lk) rfl S.co S.gen rfl (PySem.W.codeRec_of KX hcd) (hb _ _ _ _ (wpAny_newFunctionEnv_cells S.kind hkind fun env he s1 x=>?_))
 subst he
 refine⟨(e0.mod.nolimit.keeps fun b o e=>(e0.bs b o e).1).keeps x.toInCall.keep,codeAny_func ?_⟩
 obtain⟨t,ht,hq⟩:=hbody A outer s H vs Q a hm rd hsp
 have e1:Env0 P w K mg base { A with handled:=none } outer s H:=⟨e0.frames,e0.mod,e0.bs,e0.bsz,e0.funs,e0.frf,e0.hok,e0.bare⟩
 have J:Inv (zI CX0 P w K mg base N qual scope f cdv { A with handled:=none } outer s H E0) [] (start N vs) H s1:=acf S rfl e1 (len _ _ _ _ _ hsp) r x
 have I:Inv (cxM P w K mg base N qual scope f cdv A outer s H) [] (start N vs) H s1 :=
  ⟨⟨J.ok.mod,J.ok.kind,J.ok.glob,J.ok.blt,J.ok.above,J.ok.inj,J.ok.has,J.ok.cab,(fun z=>by cases z),asJ e0.frames,J.ok.stk,J.ok.exf,J.ok.bs,J.ok.bsz,J.ok.noex,J.ok.exfs,J.ok.funs,J.ok.frf⟩,J.os,J.bare,J.base,J.loc,J.cell,J.free,J.freeC,J.pin,J.hok,J.len⟩
 refine wpAny_mono (ht [] s1 (start N vs) H _ I hq) (fun fl s' hs=>?_) fun e s' hs=>hs.elim
 cases fl with
 | ret u =>
  obtain⟨v,σ',H',Y,rv,q⟩:=hs
  exact⟨v,H',Y.os,Y.bare,Y.base,Y.hok,rv,q⟩
 | next =>
  obtain⟨σ',H',Y,q⟩:=hs
  exact⟨V.non,H',Y.os,Y.bare,Y.base,Y.hok,rfl,q⟩
 | brk=>exact apF hs.choose_spec.choose_spec.2
 | cont=>exact apF hs.choose_spec.choose_spec.2
structure FnInM (P:Program) (w:World) (K:aoZ) (mg:Str->Option Value) (base:Heap) (k:Nat) (x:Str) (ps:List Str) (sp:Addr->Sp):Prop where
 ex:∃ (f:Addr) (fd:FuncData),FnOkM P w K mg base k f fd ps sp/\mg x=some (.ref f)/\apM K (.ref f)=true/\Binds K fd ps []
def spM {γ:Type} (K:aoZ) (n:Nat) (pre:Addr->γ->List DV->Prop) (post:γ->PyData->Prop):Addr->Sp:=fun a=>spD K n (pre a) post
section
variable {P:Program} {w:World} {K:aoZ} {mg:Str->Option Value} {base:Heap} {j k n:Nat} {x:Str} {st:Stmt} {ps N:List Str} {γ:Type} {pre:Addr->γ->List DV->Prop} {post:γ->PyData->Prop} {sp:Addr->Sp}
theorem FnInM.mono (h:FnInM P w K mg base j x ps sp) (hk:j<=k):FnInM P w K mg base k x ps sp :=
 let⟨f,fd,a,b,c,d⟩:=h.ex
 ⟨f,fd,⟨a.len,fun A outer s H args us vs Q e hm hr=>a.run A outer s H args us vs Q e hm ⟨by have:=hr.dp;omega,by have:=hr.un;omega⟩⟩,b,c,d⟩
theorem Def.okM (F:Def K mg x st ps) (S:FnScope N ps (zg st)) (hn:ps.length=n)
  (h:∀ (fa:Addr) (cdv:Value) (A:Around) (outer:List Env) (s:Shared) (H:Hp) (a:Addr),A.handled=some (.ref a)->RoomM k (A.deeper (envOfC x (zg st) s.heap.objs.size fa cdv)) ->
   ∃ t,PSs (cxM P w K mg base N x (zg st) fa cdv A outer s H) (yt st) t/\∀ f xs c,xs.length=n->pre a c xs->PSd K f t (jR N xs) { nx:=fun _=>post c .none,rt:=post c }) :
  FnInM P w K mg base (k+1) x ps (spM K n pre post):=by
 obtain⟨fa,fd,F1,F2,F3⟩:=F.ex
 obtain⟨oc,od,kV,doc,pm,an,cdv,ct,osl,rfl,lk,hcd⟩:=F1.ex
 refine⟨fa,_,anp lk hcd S (fun a vs H Q E h=>?_) (fun A outer s H vs Q a hm hr hs=>?_),F3,F1.kp,F2⟩
 ·obtain⟨f,xs,c,r,hl,_⟩:=h
  rw [r.length,hl,hn]
 ·obtain⟨f,xs,c,r,hl,fo,hp,q⟩:=hs
  obtain⟨t,h1,h2⟩:=h fa cdv A outer s H a hm hr
  exact⟨t,h1,h2 f xs c hl hp _ H _ (jt r fo) (fun ρ' σ' H' g' e' p=>q .none .non H' g' (rep_none.mpr rfl) p) (fun d v H' g' r' p=>q d v H' g' r' p) (fun _ _ _ _ _ z=>z.elim) (fun _ _ _ _ _ z=>z.elim)⟩
theorem ajv {X:Cx} {a:Addr} {e:Expr} {es:List Expr} {t:TA} {p pos:Pos} (G:FnInM X.prog X.w X.K X.mg X.base k x ps sp) (hr:Room k X.A) (hg:Gl X x) (ha:PA (X.marked (.ref a)) (e :: es) t) (hdb:(x == ("__debug__":Str))=false:=by decide)
  (he:starEach (e :: es) X.env=(false,eval e X.env) :: starEach es X.env:=by rfl) (hpl:(backTo pos (starEach es X.env)).any (·.1)=false:=by rfl):PE (X.marked (.ref a)) (.Call (.Name x p) (e :: es) [] pos) (vg (sp a) [] E0 t):=by
 obtain⟨f,fd,F,hm,hk,hb⟩:=G.ex
 intro pins s σ H Q I h
 refine wpAny_Call_Name_kw (jD I hg hm ?_ hdb)
 refine aqI (h₀:=X.base) I.ok.mod.kin hk (thn (ha pos pins s σ H _ I h) fun us s1 ⟨vs,H1,I1,r,q⟩=>⟨I1.kIn,?_⟩) he hpl
 have q:sp a vs H1 Q E0:=by have:=q;dsimp only at this;rw [apB] at this;exact this
 have b2:=hb s1 us I1.kIn (by rw [apB,<- r.length];exact F.len _ _ _ _ _ q)
 rw [apB] at b2
 refine wpAny_call (codeAny_mono (F.run _ _ s1 H1 ⟨us,[]⟩ us vs Q a rfl ⟨hr.dp,hr.un⟩ I1.env0 b2 r q) fun res s' z=>?_)
 cases res with
 | error e=>exact apF z
 | ok fl =>
  cases fl with
  | ret u=>exact I1.after z
  | next=>exact apF z
  | brk=>exact apF z
  | cont=>exact apF z
end
theorem anq {K:aoZ} {f:Fx} {ρ:zm} {P:PyData->Prop} {te:TE} {j:Nat} {a:Addr} {C:Value} {x:XD} (hj:ρ[j]?=some (some (.mon (jS K a C x)))) (h:PEd K f te ρ fun x=>∃ bs:List Bool,x=.list (bs.map .bool)/\P (.bool (bs.any id))):PEd K f (tCB (amc K a) (zY te y4)) ρ P:=fun σ H Q e q =>
 h σ H _ e fun x v H1 g1 r1 ⟨bs,ex,p⟩=>by
  subst ex
  obtain⟨u,_,r⟩:=(e.mono g1).get j _ hj
  obtain⟨o,_,hH,_⟩:=r H1 (zl H1 f)
  obtain⟨b,xs,rfl,h1,h2⟩:=rep_list.mp r1
  rw [vx h2] at h1
  exact⟨⟨C,o,hH⟩,b,bs,rfl,(zl H1 f).seq h1,q _ _ H1 g1 (rep_bool.mpr rfl) p⟩
def aox:PyData->Option Bool
 | .none=>some true
 | .int _=>some false
 | .bool _=>some false
 | .str _=>some false
 | .tuple _=>some false
 | .list _=>some false
 | _=>none
theorem ajw {K:aoZ} {H:Hp} {d:PyData} {v:V} {b:Bool} (r:Rep K H d v) (h:aox d=some b):decide (v=.non)=b:=by
 cases d with
 | none=>cases h;rw [rep_none.mp r];rfl
 | int i=>cases h;rw [rep_int.mp r];rfl
 | bool i=>cases h;rw [rep_bool.mp r];rfl
 | str i=>cases h;rw [rep_str.mp r];rfl
 | tuple ds=>cases h;obtain⟨a,xs,rfl,_⟩:=rep_tuple.mp r;rfl
 | list ds=>cases h;obtain⟨a,xs,rfl,_⟩:=rep_list.mp r;rfl
 | _=>cases h
section
variable {K:aoZ} {f:Fx} {ρ:zm} {P:PyData->Prop} {ta:TE}
theorem ajx (h:PEd K f ta ρ fun d=>∃ b,aox d=some b/\P (.bool (!b))):PEd K f (tOp (fun x y H Q=>y=.non/\Q (.bl (!decide (x=.non))) H) ta (tC .non)) ρ P:=fun σ H Q e q =>
 h σ H _ e fun d v H1 g1 r1 ⟨b,hb,p⟩=>⟨rfl,q _ _ H1 g1 (rep_bool.mpr (by rw [ajw r1 hb])) p⟩
end
abbrev alb (rows:List (List Int)):PyData:=.list (rows.map fun r=>.list (r.map .int))
structure TN (K:aoZ) (f:Fx) (a:Addr) (as:List Addr) (H2:Hp) (ρ:zm) (R:Option (List (List Int))) (σ:St) (H:Hp):Prop where
 env:EnvOk K (f.withs (a :: as)) ρ σ H
 sm:Same (hide H2 (f.withs (a :: as))) (hide H (f.withs (a :: as)))
 kp:∀ b∈f.M,H b=H2 b
 tab:∀ rows,R=some rows->TabAt H a as rows
def PSu (K:aoZ) (f:Fx) (a:Addr) (as:List Addr) (ts:TS) (ρ:zm) (R:Option (List (List Int))) (O:zm->Option (List (List Int))->Prop):Prop:=Sep f (a :: as)->∀ (σ:St) (H H2:Hp) (E:Ends),TN K f a as H2 ρ R σ H ->
 (∀ ρ' R' σ' H',TN K f a as H2 ρ' R' σ' H'->O ρ' R'->E.nx σ' H')->ts E σ H
section
variable {K:aoZ} {f:Fx} {a:Addr} {as:List Addr} {ρ ρ2:zm} {rows:List (List Int)} {R:Option (List (List Int))} {O:zm->Option (List (List Int))->Prop} {ts tu:TS} {tt:TT} {te ty tx:TE} {i:Nat} {σ σ2:St} {H H' H2:Hp}
theorem TN.go (x:TN K f a as H2 ρ R σ H) (g:Goes (f.withs (a :: as)) H H') (e2:EnvOk K (f.withs (a :: as)) ρ2 σ2 H'):TN K f a as H2 ρ2 R σ2 H' :=
 ⟨e2,x.sm.trans g.sm,fun b hb=>(g.kp b (apg _ hb)).trans (x.kp b hb),fun rows e=>(x.tab rows e).keep fun b hb=>g.kp b (yW hb)⟩
theorem qU:(f.withs (a :: as)).M.reverse=f.M.reverse++a :: as:=by
 show ((a :: as).reverse++f.M).reverse=_
 rw [aqA,arI]
theorem TN.at (x:TN K f a as H2 ρ R σ H) (hi:ρ[i]?=some (some (.own f.M.length))):σ[i]?=some (some (.ref a)):=by
 obtain⟨v,a1,p,a2,rfl⟩:=x.env.get i _ hi
 rw [qU,apd (by simp)] at a2
 simp at a2
 rw [a2]
 exact a1
theorem TN.fok (x:TN K f a as H2 ρ R σ H):FOk f H:=⟨x.env.fd.fd,fun b hb=>x.env.fd.mm b (apg _ hb),fun p e hp=>x.env.fd.nm p e (apg _ hp)⟩
theorem TN.out (x:TN K f a as H2 ρ R σ H):EnvOk K f (ρ.map (ji f.M.length)) σ H:=by
 refine⟨by rw [aoX];exact x.env.len,fun q z hz=>?_,x.fok⟩
 rw [ao5] at hz
 cases e0:ρ[q]? with
 | none=>rw [e0] at hz;cases hz
 | some z0 =>
  rw [e0] at hz
  cases z0 with
  | none=>cases hz
  | some z0 =>
   obtain⟨v,a1,a2⟩:=x.env.get q z0 e0
   cases z0 with
   | dat d=>cases hz;exact⟨v,a1,Rep.mono same_withs d v a2⟩
   | feed=>cases hz;exact⟨v,a1,a2⟩
   | exc C=>cases hz;obtain⟨b,h3,h4⟩:=a2;exact⟨v,a1,b,h3,same_withs _ _ h4⟩
   | mon φ=>cases hz;exact⟨v,a1,fun H' s=>a2 H' (same_withs.trans s)⟩
   | own k =>
    have hz':(if k<f.M.length then some (DV.own k) else none)=some z:=Option.some.inj hz
    by_cases hk:k<f.M.length
    ·rw [if_pos hk] at hz'
     cases hz'
     obtain⟨b,h3,h4⟩:=a2
     refine⟨v,a1,b,?_,h4⟩
     rw [qU,ao9 (by simpa using hk)] at h3
     exact h3
    ·rw [if_neg hk] at hz'
     cases hz'
theorem afz (se:Sep f (a :: as)):∀ D∈a :: as,¬ (f.f=some D \/ D∈f.M):=fun D hD z=>z.elim (se.nf D hD) (se.nm D hD)
theorem TN.read (se:Sep f (a :: as)) (x:TN K f a as H2 ρ (some rows) σ H) (hi:ρ[i]?=some (some (.own f.M.length))):EnvOk K f ((ρ.map (ji f.M.length)).set i (some (.dat (alb rows)))) σ H:=by
 have o:=x.out
 refine⟨by rw [apP];exact o.len,fun q z hz=>?_,o.fd⟩
 by_cases e:i=q
 ·subst e
  rw [asa,if_pos rfl] at hz
  split at hz
  ·cases hz
   exact⟨_,x.at hi,(x.tab rows rfl).rep (afz se a (apa ..)) fun y hy=>afz se y (ao3 _ hy)⟩
  ·cases hz
 ·rw [apY e] at hz
  exact o.get q z hz
theorem TN.beside (se:Sep f (a :: as)) (x:TN K f a as H2 ρ R σ H) (g:Goes f H H'):Goes (f.withs (a :: as)) H H':=by
 have kp:∀ b∈a :: as,H' b=H b:=fun b hb=>by
  obtain⟨o,h1⟩:=x.env.fd.mm b (yW hb)
  rw [h1]
  exact (zF (g.sm b o (zz (afz se b hb) h1))).2
 refine⟨fun b o hb=>?_,⟨g.ok.fd,fun b hb=>?_,x.env.fd.nm⟩,fun b hb=>?_⟩
 ·obtain⟨n1,h1⟩:=zF hb
  have n2:¬ (f.f=some b \/ b∈f.M):=fun z=>n1 (z.elim .inl fun z=>.inr (apg _ z))
  exact zz n1 (zF (g.sm b o (zz n2 h1))).2
 ·rcases aps.mp hb with h | h
  ·obtain⟨o,h1⟩:=x.env.fd.mm b hb
   exact⟨o,(kp b (ap4.mp h)).trans h1⟩
  ·exact g.ok.mm b h
 ·rcases aps.mp hb with h | h
  ·exact kp b (ap4.mp h)
  ·exact g.kp b h
theorem anr (h:PSd K (f.withs (a :: as)) ts ρ { nx:=fun ρ'=>O ρ' R,rt:=fun _=>False }):PSu K f a as ts ρ R O:=fun se σ H H2 E x n =>
 h σ H E x.env (fun ρ' σ' H' g' e' p=>n ρ' R σ' H' (x.go g' e') p) (fun _ _ _ _ _ z=>z.elim) (fun _ _ _ _ _ z=>z.elim) (fun _ _ _ _ _ z=>z.elim)
theorem aoy (h:PSu K f a as ts ρ R fun ρ' R'=>PSu K f a as tu ρ' R' O):PSu K f a as (qz ts tu) ρ R O:=fun se σ H H2 E x n =>
 h se σ H H2 _ x fun ρ' R' σ' H' x' p=>p se σ' H' H2 E x' n
theorem afA (h:O ρ R):PSu K f a as adS ρ R O:=fun se σ H H2 E x n=>n ρ R σ H x h
theorem ajy (h:PTd K (f.withs (a :: as)) tt ρ fun b=>if b=true then PSu K f a as ts ρ R O else PSu K f a as tu ρ R O):PSu K f a as (ae0 tt ts tu) ρ R O:=fun se σ H H2 E x n =>
 h σ H _ x.env fun b H1 g1 p=>by
  have x1:=x.go g1 (x.env.mono g1)
  cases b with
  | true=>rw [if_pos rfl] at p ⊢;exact p se σ H1 H2 E x1 n
  | false=>rw [if_neg aoY] at p ⊢;exact p se σ H1 H2 E x1 n
theorem TN.turn {r:Nat} {row row':List Int} (se:Sep f (a :: as)) (x:TN K f a as H2 ρ (some rows) σ H) (hr:rows[r]?=some row) (hl:r<as.length):TN K f a as H2 ρ (some (rows.set r row')) σ (upd H as[r] (.lst (row'.map .int))):=by
 have t:=x.tab rows rfl
 have ha:as[r]?=some as[r]:=aoW hl
 have hm:as[r]∈a :: as:=ao3 _ (ao4 ha)
 have nd:=apS.mp t.nd
 have ne:a≠as[r]:=fun z=>nd.1 (z▸ao4 ha)
 refine⟨agx se hm x.env,by rw [yp hm];exact x.sm,fun b hb=>(zr (fun (z:b=as[r])=>se.nm _ hm (z▸hb))).trans (x.kp b hb),fun rows' e=>?_⟩
 cases e
 refine⟨(zr ne).trans t.top,t.nd,by rw [apP];exact t.len,fun j y q h1 h2=>?_⟩
 by_cases e:r=j
 ·subst e
  rw [ha] at h1
  cases h1
  rw [ap2 (ao1.mp hr).1] at h2
  cases h2
  exact zq
 ·rw [apY e] at h2
  have hy:y≠as[r]:=fun z=>by
   subst z
   exact e ((List.getElem?_inj hl nd.2).mp (ha.trans h1.symm))
  exact (zr hy).trans (t.row j y q h1 h2)
theorem aoz (hi:ρ[i]?=some (some (.own f.M.length))) (h:PEd K (f.withs (a :: as)) ty ρ fun y=>∃ r:Nat,y=.int r/\∃ row,rows[r]?=some row/\row.length<1000/\PEd K (f.withs (a :: as)) te ρ fun d=>∃ v:Int,d=.int v/\O ρ (some (rows.set r (row++[v])))) :
  PSu K f a as (aaC (tBM K "list" acX (tOp (vH K) (z6 i) ty) (zY te y4))) ρ (some rows) O:=fun se σ H H2 E x n=>by
 refine⟨.ref a,x.at hi,h σ H _ x.env fun y u H1 g1 r1 ⟨r,ey,row,hr,hl,h4⟩=>?_⟩
 subst ey
 rw [rep_int.mp r1]
 have x1:=x.go g1 (x.env.mono g1)
 have t1:=x1.tab rows rfl
 have hlt:r<as.length:=by rw [t1.len];exact (ao1.mp hr).1
 have ha:as[r]?=some as[r]:=aoW hlt
 refine⟨a,as.map .ref,(r:Int),.ref as[r],rfl,rfl,.of t1.top,yK (by rw [ao5,ha];rfl),Or.inl ⟨rfl,_,.of (t1.row r _ row ha hr)⟩,?_⟩
 refine h4 σ H1 _ x1.env fun d v H3 g3 r3 ⟨vi,ed,ho⟩=>?_
 subst ed
 rw [rep_int.mp r3]
 have x3:=x1.go g3 (x1.env.mono g3)
 refine⟨as[r],row.map .int,.int vi,rfl,rfl,(x3.tab rows rfl).row r _ row ha hr,zX (by rw [aoX];omega),?_⟩
 have x4:=x3.turn (row':=row++[vi]) se hr hlt
 rw [apv] at x4
 exact n ρ _ σ _ x4 ho
end
section
variable {K:aoZ} {f:Fx} {ρ:zm} {E:XK} {te tc:TE} {ts tu:TS} {tt:TT} {t:TA} {RT:List (List Int)->Prop} {RD:PyData->Prop} {Z:Value->XD->Prop} {i j n:Nat} {γ:Type} {pre:γ->List DV->Prop} {postT:γ->List (List Int)->Prop} {postD:γ->PyData->Prop} {exc:γ->Value->XD->Prop}
theorem PEdT.ped {P:PyData->Prop} (h:PEdT K f te ρ fun rows=>P (alb rows)):PEd K f te ρ P:=fun σ H Q e q=>h σ H Q e fun rows a as H' g na nas t p=>q _ _ H' g (t.rep (fresh_ne e.fd na) fun y hy=>fresh_ne e.fd (nas y hy)) p
end
end L2
end
section
namespace L2
open PySem PySem.Spec PyProof.Rows
structure GoesW (f:Fx) (As:List Addr) (H2 H':Hp):Prop where
 sm:Same (hide H2 (f.withs As)) (hide H' f)
 ok:FOk f H'
 kp:∀ b∈f.M,H' b=H2 b
def PSw (K:aoZ) (f:Fx) (a:Addr) (as:List Addr) (ts:TS) (ρ:zm) (R:Option (List (List Int))) (RT:PyData->Prop):Prop:=Sep f (a :: as)->∀ (σ:St) (H H2:Hp) (E:Ends),TN K f a as H2 ρ R σ H ->
 (∀ d v H',GoesW f (a :: as) H2 H'->Rep K (hide H' f) d v->RT d->E.rt v H')->ts E σ H
section
variable {K:aoZ} {f:Fx} {a:Addr} {as:List Addr} {ρ:zm} {rows:List (List Int)} {R:Option (List (List Int))} {RT:PyData->Prop} {ts tu:TS} {te:TE} {i:Nat}
theorem ajz (h:PSu K f a as ts ρ R fun ρ' R'=>PSw K f a as tu ρ' R' RT):PSw K f a as (qz ts tu) ρ R RT:=fun se σ H H2 E x r =>
 h se σ H H2 _ x fun ρ' R' σ' H' x' p=>p se σ' H' H2 E x' r
theorem ans (hi:ρ[i]?=some (some (.own f.M.length))) (h:PSd K f ts ((ρ.map (ji f.M.length)).set i (some (.dat (alb rows)))) { nx:=fun _=>False,rt:=RT }):PSw K f a as ts ρ (some rows) RT:=fun se σ H H2 E x r =>
 h σ H E (x.read se hi) (fun _ _ _ _ _ z=>z.elim) (fun d v H' g' r' p=>r d v H' ⟨(x.sm.trans same_withs).trans g'.sm,g'.ok,fun b hb=>(g'.kp b hb).trans (x.kp b hb)⟩ r' p) (fun _ _ _ _ _ z=>z.elim) (fun _ _ _ _ _ z=>z.elim)
theorem ant {Dn:DEnds} (h:PEdT K f te ρ fun rows=>i<ρ.length/\∀ a as,PSw K f a as ts (ρ.set i (some (.own f.M.length))) (some rows) Dn.rt) :
  PSd K f (qz (qe te (yz i)) ts) ρ Dn:=fun σ H E e n r b k =>
 h σ H _ e fun rows a as H1 g1 na nas t1 ⟨hi,p⟩=>by
  have hn:∀ D∈a :: as,H D=none:=fun D hD=>(ao7.mp hD).elim (fun z=>z▸na) (nas D)
  have nf:∀ D∈a :: as,¬ (f.f=some D \/ D∈f.M):=fun D hD=>fresh_ne e.fd (hn D hD)
  have se:Sep f (a :: as):=⟨t1.nd,fun D hD z=>nf D hD (.inl z),fun D hD z=>nf D hD (.inr z)⟩
  have sm1:=ahD (Ds:=a :: as) g1.sm hn
  have there:∀ D∈a :: as,∃ o,H1 D=some o:=fun D hD=>by
   rcases ao7.mp hD with rfl | h
   ·exact⟨_,t1.top⟩
   ·obtain⟨j,hj⟩:=apN h
    exact⟨_,t1.row j D _ hj (aoW (by rw [<-t1.len];exact (ao1.mp hj).1))⟩
  have fo1:FOk (f.withs (a :: as)) H1:=⟨g1.ok.fd,fun b hb=>(aps.mp hb).elim (fun h=>there b (ap4.mp h)) (g1.ok.mm b),fun q eq hq=>(aps.mp hq).elim (fun h=>nf q (ap4.mp h) (.inl eq)) (g1.ok.nm q eq)⟩
  have e1:EnvOk K (f.withs (a :: as)) ρ σ H1:=⟨e.len,fun q y hy=>by
   obtain⟨v,a1,a2⟩:=e.get q y hy
   refine⟨v,a1,?_⟩
   cases y with
   | dat d=>exact Rep.mono sm1 d v a2
   | feed=>exact a2
   | exc C=>obtain⟨b,h3,h4⟩:=a2;exact⟨b,h3,sm1 _ _ h4⟩
   | mon φ=>exact fun H' s=>a2 H' (sm1.trans s)
   | own k =>
    obtain⟨b,h3,h4⟩:=a2
    exact⟨b,by rw [qU,ao9 (ao1.mp h3).1];exact h3,h4⟩,fo1⟩
  have rv:RepV K (f.withs (a :: as)) H1 (.own f.M.length) (.ref a):=⟨a,by rw [qU,apd (by simp)];simp,rfl⟩
  refine p a as se _ H1 H1 _ ⟨e1.set i rv,Same.refl _,fun _ _=>rfl,fun rows' z=>by cases z;exact t1⟩ fun d v H' g' r' q=>?_
  exact r d v H' ⟨sm1.trans g'.sm,g'.ok,fun b hb=>(g'.kp b hb).trans (g1.kp b hb)⟩ r' q
end
structure FnAt (P:Program) (w:World) (K:aoZ) (mg:Str->Option Value) (base:Heap) (CX:CXT) (k:Nat) (a:Addr) (sp:Sp):Prop where
 ex:∃ (fd:FuncData) (ps:List Str),FnOk P w K mg base CX k a fd ps sp/\apM K (.ref a)=true/\Binds K fd ps []
def adu (fns:List (Addr×Sp)) (E:XK) (tf:TE) (t:TA):TE:=fun σ H Q=>tf σ H fun x H1=>∃ a sp,x=.ref a/\(a,sp)∈fns/\t σ H1 fun vs H2=>sp vs H2 Q E
section
variable {X:Cx} {CX:CXT} {k:Nat} {fns:List (Addr×Sp)} {E:XK} {fe e:Expr} {es:List Expr} {tf:TE} {t:TA} {pos:Pos}
theorem ajA {pins:List (Addr×Obj)} {σ:St} {H:Hp} {s:Shared} {Q:VK} (hf:PE X.nox fe tf) (G:∀ a sp,(a,sp)∈fns->FnAt X.prog X.w X.K X.mg X.base (CXf X.prog X.w) k a sp) (hr:Room k X.A)
  (ha:PA X.nox (e :: es) t) (I:Inv X pins σ H s) (h:adu fns E tf t σ H Q)
  (he:starEach (e :: es) X.env=(false,eval e X.env) :: starEach es X.env) (hpl:(backTo pos (starEach es X.env)).any (·.1)=false)
  (hev:eval (.Call fe (e :: es) [] pos) X.env=(do
   let f <- eval fe X.env
   callWith pos f [] (backTo pos (starEach (e :: es) X.env)) (backToKw pos (keywordEach [] X.env)))) :
  wpAny (model X.prog X.w) X.A (eval (.Call fe (e :: es) [] pos) X.env) (EP X pins σ Q) (fun e s'=>∃ H1 s1,Inv X pins σ H1 s1/\CXf X.prog X.w X.stack H1 s1 E e s') s:=by
 rw [hev]
 refine wpAny_bind (wpAny_mono (hf pins s σ H _ (I.wish _) h) (fun u s0 z=>?_) fun _ _ z=>z.elim)
 obtain⟨x,H0,I0',r0,a,sp,ex,hm,q0⟩:=z
 have I0:Inv X pins σ H0 s0:=I0'.unwish
 subst ex
 obtain rfl:u=Value.ref a:=r0
 obtain⟨fd,ps,F,hk,hb⟩:=(G a sp hm).ex
 refine aqI (first:=[]) (h₀:=X.base) I0.ok.mod.kin hk (wpAny_mono (ha pos pins s0 σ H0 _ (I0.wish _) q0) (fun us s1 q=>?_) fun _ _ z=>z.elim) he hpl
 obtain⟨vs,H1,I1',r,q⟩:=q
 have I1:Inv X pins σ H1 s1:=I1'.unwish
 refine⟨I1.kIn,?_⟩
 have b2:=hb s1 us I1.kIn (by rw [apB,<- r.length];exact F.len _ _ _ _ q)
 rw [apB] at b2
 refine wpAny_call (codeAny_mono (F.run X.A X.stack s1 H1 ⟨us,[]⟩ us vs _ _ hr I1.env0 b2 r q) fun res s' z=>?_)
 cases res with
 | error e=>exact⟨H1,s1,I1,z⟩
 | ok fl =>
  cases fl with
  | ret u=>exact I1.after z
  | next=>exact apF z
  | brk=>exact apF z
  | cont=>exact apF z
end
def abB:List Addr->TA
 | []=>y4
 | a :: as=>zY (tC (.ref a)) (abB as)
theorem abC:∀ {as:List Addr} {σ:St} {H:Hp} {Q:List V->Hp->Prop},Q (as.map .ref) H->abB as σ H Q
 | [],_,_,_,h=>h
 | _ :: as,σ,H,Q,h=>abC (as:=as) (Q:=fun xs H2=>Q (_ :: xs) H2) h
section
variable {K:aoZ} {f:Fx} {ρ:zm} {E:XK} {ti:TE} {t:TA} {P:PyData->Prop} {D:DEnds} {Z:Value->XD->Prop} {tr:TS} {as:List Addr} {fns:List (Addr×Sp)} {γ:Type} {n i:Nat} {pre:γ->List DV->Prop} {post:γ->PyData->Prop} {exc:γ->Value->XD->Prop}
theorem ahP {σ:St} {H:Hp} {Q:VK} (hl:as.length<=1000) (c:γ) (e:EnvOk K f ρ σ H)
  (h:PEd K f ti ρ fun d=>∃ (q:Int) (a:Addr),d=.int q/\atI (as.map V.ref) q=some (.ref a)/\(a,spF K n pre post exc)∈fns/\PAd K f t ρ fun xs=>xs.length=n/\pre c xs/\(∀ r,post c r->P r)/\∀ C x,exc c C x->Z C x)
  (hq:∀ d v H',Goes f H H'->Rep K (hide H' f) d v->P d->Q v H') (z:Wish K f E H Z):adu fns E (tOp (vH K) (abR (abB as)) ti) t σ H Q:=by
 refine abC (as:=as) ⟨ap1 (zX (show (as.map V.ref).length<=1000 by rw [aoX];exact hl)),fun p hp=>?_⟩
 have g0:Goes f H (upd H p (.lst (as.map .ref))):=.of_same (zR hp _) e.fd
 have np:=fresh_ne e.fd hp
 refine h σ _ _ (e.mono g0) fun d v H1 g1 r1 ⟨q,a,ed,ha,hm,h2⟩=>?_
 subst ed
 rw [rep_int.mp r1]
 have hp1:H1 p=some (.lst (as.map .ref)):=(zF (g1.sm p _ (zz np zq))).2
 refine⟨p,as.map .ref,q,.ref a,rfl,rfl,.of hp1,ha,a,_,rfl,hm,?_⟩
 have g01:=g0.trans g1
 refine h2 σ H1 _ (e.mono g01) fun xs vs H2 g2 r2 ⟨l,hpre,kp,kz⟩=>?_
 have gg:=g01.trans g2
 exact⟨f,xs,c,r2,l,g2.2,hpre,fun r v H' g' r' p'=>hq r v H' (gg.trans g') r' (kp r p'),fun C o x H' g' fi p'=>z C o x H' (gg.trans g') fi (kz C x p')⟩
end
section
variable {K:aoZ} {f:Fx} {a:Addr} {as:List Addr} {ρ:zm} {rows:List (List Int)} {O:zm->Option (List (List Int))->Prop} {te ty tx:TE} {i n:Nat} {σ:St} {H H2:Hp} {E:XK} {P:PyData->Prop} {pre:List (List Int)->Prop} {post:PyData->Prop}
abbrev acA (f:Fx) (ρ:zm) (i:Nat) (rows:List (List Int)):zm:=(ρ.map (ji f.M.length)).set i (some (.dat (alb rows)))
theorem TN.int {Q:VK} {B:Int->Prop} (se:Sep f (a :: as)) (x:TN K f a as H2 ρ (some rows) σ H) (hi:ρ[i]?=some (some (.own f.M.length))) (h:PEd K f te (acA f ρ i rows) fun d=>∃ v:Int,d=.int v/\B v) (k:∀ v H',TN K f a as H2 ρ (some rows) σ H'->B v->Q (.int v) H'):te σ H Q :=
 h σ H _ (x.read se hi) fun d v H' g r ⟨vi,ed,p⟩=>by
  subst ed
  rw [rep_int.mp r]
  have g2:=x.beside se g
  exact k vi H' (x.go g2 (x.env.mono g2)) p
theorem ajB (hi:ρ[i]?=some (some (.own f.M.length))) (h:PEd K f te (acA f ρ i rows) fun d=>∃ v:Int,d=.int v/\O (ρ.set n (some (.dat (.int v)))) (some rows)):PSu K f a as (qe te (yz n)) ρ (some rows) O:=fun se σ H H2 E x nx =>
 x.int se hi h fun v H' x' p=>nx _ _ _ _ ⟨x'.env.set n (x:=.dat (.int v)) (show Rep K (hide H' (f.withs (a :: as))) (.int v) (.int v) from rep_int.mpr rfl),x'.sm,x'.kp,x'.tab⟩ p
theorem anu (hi:ρ[i]?=some (some (.own f.M.length)))
  (h:PEd K f te (acA f ρ i rows) fun d=>∃ v:Int,d=.int v/\PEd K f ty (acA f ρ i rows) fun y=>∃ r':Int,y=.int r'/\∃ r:Nat,r'=r/\∃ row,rows[r]?=some row/\PEd K f tx (acA f ρ i rows) fun x=>∃ c':Int,x=.int c'/\∃ c:Nat,c'=c/\c<row.length/\O ρ (some (rows.set r (row.set c v)))) :
  PSu K f a as (qe te (acQ (tOp (vH K) (z6 i) ty) tx aaD)) ρ (some rows) O:=fun se σ H H2 E x n=>by
 refine x.int se hi h fun v H1 x1 h2=>⟨.ref a,x1.at hi,x1.int se hi h2 fun r' H3 x3 ⟨r,er,row,hr,h4⟩=>?_⟩
 subst er
 have t3:=x3.tab rows rfl
 have hlt:r<as.length:=by rw [t3.len];exact (ao1.mp hr).1
 have ha:as[r]?=some as[r]:=aoW hlt
 refine⟨a,as.map .ref,(r:Int),.ref as[r],rfl,rfl,.of t3.top,yK (by rw [ao5,ha];rfl),?_⟩
 refine x3.int se hi h4 fun c' H5 x5 ⟨c,ec,hc,ho⟩=>?_
 subst ec
 refine⟨as[r],row.map .int,(c:Int),c,rfl,rfl,(x5.tab rows rfl).row r _ row ha hr,amK rfl (by rw [aoX];exact hc),?_⟩
 have x6:=x5.turn (row':=row.set c v) se hr hlt
 rw [List.map_set] at x6
 exact n ρ _ σ _ x6 ho
theorem ajC (hi:ρ[i]?=some (some (.own f.M.length))) (h:PEd K f ty (acA f ρ i rows) fun y=>∃ r':Int,y=.int r'/\∃ r:Nat,r'=r/\∃ row,rows[r]?=some row/\row≠[]/\O ρ (some (rows.set r row.dropLast))) :
  PSu K f a as (aaC (aob K "list" aoc (tOp (vH K) (z6 i) ty))) ρ (some rows) O:=fun se σ H H2 E x n=>by
 refine⟨.ref a,x.at hi,x.int se hi h fun r' H1 x1 ⟨r,er,row,hr,hne,ho⟩=>?_⟩
 subst er
 have t1:=x1.tab rows rfl
 have hlt:r<as.length:=by rw [t1.len];exact (ao1.mp hr).1
 have ha:as[r]?=some as[r]:=aoW hlt
 have hp:0<row.length:=arR.mpr hne
 have hrow:=t1.row r _ row ha hr
 refine⟨a,as.map .ref,(r:Int),.ref as[r],rfl,rfl,.of t1.top,yK (by rw [ao5,ha];rfl),Or.inl ⟨rfl,_,.of hrow⟩,as[r],row.map .int,.int row[row.length - 1],rfl,rfl,hrow,by rw [aoX,ao5,aoW (by omega)];rfl,?_⟩
 have x4:=x1.turn (row':=row.dropLast) se hr hlt
 rw [List.map_dropLast] at x4
 exact n ρ _ σ _ x4 ho
end
section
variable {K:aoZ} {f:Fx} {ρ:zm} {E:XK} {te:TE} {ts tu:TS} {RT:List (List Int)->Prop} {RD:PyData->Prop} {Z:Value->XD->Prop} {a:Addr} {as:List Addr} {R:Option (List (List Int))}
theorem ajD (J:zm->Option (List (List Int))->Prop) (h1:PSu K f a as ts ρ R J) (h2:∀ ρ' R',J ρ' R'->PSw K f a as tu ρ' R' RD):PSw K f a as (qz ts tu) ρ R RD :=
 ajz fun se σ H H2 E x n=>h1 se σ H H2 E x fun ρ' R' σ' H' x' j=>n ρ' R' σ' H' x' (h2 ρ' R' j)
end
end L2
end
section
namespace L2
open PySem PySem.Spec PyProof.Rows
structure Src (prog:Program) (w:World) (j:Addr) (xs:Array Value) (dep:List Addr) (St:Nat->Heap->Prop):Prop where
 own:j∈dep
 keep:∀ {k:Nat} {h h':Heap},St k h->(∀ c∈dep,∀ o,h.get? c=some o->h'.get? c=some o)->St k h'
 there:∀ {k:Nat} {h:Heap},St k h->∃ o,h.get? j=some o
 item:∀ {A:Around} {E:Value->Shared->Prop} {s:Shared} {k:Nat} {x:Value} {Q:Value->Shared->Prop},St k s.heap->xs[k]?=some x->(∀ h',St (k+1) h'->aqG j s.heap h'->Q x { s with heap:=h' })->wpAny (model prog w) A (ar4 (.ref j)) Q E s
 stop:∀ {A:Around} {E:Value->Shared->Prop} {s:Shared} {k:Nat} {Q:Value->Shared->Prop},A.handled=none->St k s.heap->xs[k]?=none->(∀ h' e,Heap.ExtBut j s.heap h'->(∃ o,h'.get? e=some o/\o.cls=.type "StopIteration")->E (.ref e) { s with heap:=h' })->wpAny (model prog w) A (ar4 (.ref j)) Q E s
section
variable {prog:Program} {w:World} {A:Around} {E:Value->Shared->Prop} {s:Shared}
structure Far (z q1 q2 j1 j2:Addr) (e1 e2:List Addr):Prop where
 q1z:q1≠z
 q2z:q2≠z
 q12:q1≠q2
 j12:j1≠j2
 q1j1:q1≠j1
 q1j2:q1≠j2
 z1:z∉e1
 z2:z∉e2
 o1:q2∉e1
 o2:q2∉e2
 d12:j2∉e1
 d21:j1∉e2
end
end L2
end
section
namespace L2
open PySem PySem.Spec PyProof.Rows
end L2
end
section
namespace L2
open PySem PySem.Spec PyProof.Rows
section
variable {K:aoZ} {f:Fx} {ρ:zm} {R:List DV->Prop} {i j m n:Nat} {d0 d1 d2 d3:PyData}
theorem vA (h0:ρ[i]?=some (some (.dat d0))) (h:R [.dat d0]):PAd K f (zY (z6 i) y4) ρ R:=zB (zo h0 (yk h))
theorem ajE (h0:ρ[i]?=some (some (.dat d0))) (h1:ρ[j]?=some (some (.dat d1))) (h:R [.dat d0,.dat d1]):PAd K f (zY (z6 i) (zY (z6 j) y4)) ρ R:=zB (zo h0 (vA h1 h))
theorem alc (h0:ρ[i]?=some (some (.dat d0))) (h1:ρ[j]?=some (some (.dat d1))) (h2:ρ[m]?=some (some (.dat d2))) (h:R [.dat d0,.dat d1,.dat d2]):PAd K f (zY (z6 i) (zY (z6 j) (zY (z6 m) y4))) ρ R:=zB (zo h0 (ajE h1 h2 h))
theorem aoS (h0:ρ[i]?=some (some (.dat d0))) (h1:ρ[j]?=some (some (.dat d1))) (h2:ρ[m]?=some (some (.dat d2))) (h3:ρ[n]?=some (some (.dat d3))) (h:R [.dat d0,.dat d1,.dat d2,.dat d3]):PAd K f (zY (z6 i) (zY (z6 j) (zY (z6 m) (zY (z6 n) y4)))) ρ R:=zB (zo h0 (alc h1 h2 h3 h))
end
theorem v5 {α β:Type} {F:α->β} {l:List β} {m:List α} (h:l.Perm (m.map F)):∃ m':List α,m'.Perm m/\l=m'.map F:=by
 generalize e:m.map F=k at h
 induction h generalizing m with
 | nil=>exact⟨m,.refl _,e.symm⟩
 | cons x _ ih =>
  cases m with
  | nil=>cases e
  | cons a m =>
   injection e with e1 e2
   obtain⟨m',p,r⟩:=ih e2
   exact⟨a :: m',p.cons a,by rw [apq,e1,r]⟩
 | swap x y l =>
  cases m with
  | nil=>cases e
  | cons a m =>
   cases m with
   | nil=>injection e with _ e;cases e
   | cons b m =>
    injection e with e1 e2
    injection e2 with e2 e3
    exact⟨b :: a :: m,.swap a b m,by rw [apq,apq,e1,e2,e3]⟩
 | trans _ _ ih1 ih2 =>
  obtain⟨m',p,r⟩:=ih2 e
  obtain⟨m'',p',r'⟩:=ih1 r.symm
  exact⟨m'',p'.trans p,r'⟩
abbrev FD (K:aoZ) (x:Str) (st:Stmt) (f:Addr) (od an:Option Addr) (sl:Array (Option Value)) (oc kV dc pm cd ct:Value):Prop:=apl K mainGlobals x=some (some (.ref f))/\K.lookup f=some ⟨oc,od,.func (aqb x x (jE st) (yt st) (zg st) .none kV dc pm an cd ct),sl⟩/\aqU K cd x=true/\apM K (.ref f)=true
theorem yj {K:aoZ} {h:Heap} {mg:Str->Option Value} {x:Str} {st:Stmt} {f:Addr} {od an:Option Addr} {sl:Array (Option Value)} {oc kV dc pm cd ct:Value} (X:K.In h) (G:h.Ns mainGlobals mg) (a:FD K x st f od an sl oc kV dc pm cd ct) {ps:List Str}
  (hb:∀ (kV doc pm:Value) (an:Option Addr) (cdv ct:Value) (us:List Value),us.length=ps.length->bindArgs (aqb x x (jE st) (yt st) (zg st) .none kV doc pm an cdv ct) ⟨us,[]⟩=pure (ps.zip us)):Def K mg x st ps :=
 ⟨f,_,acY a.2.1 a.2.2.1 a.2.2.2,(acY (st:=st) a.2.1 a.2.2.1 a.2.2.2).binds hb,apE X G a.1⟩
section
variable {w:World} {K:aoZ} {f:Fx} {Ds:List Addr} {ρ:zm} {cs:List OC} {O:MEnds} {i:Nat}
theorem aoA {v k:Int} (hi:ρ[i]?=some (some (.dat (.int v)))):PTd K f (af0 (tOp (ahg K false) (z6 i) (tC (.int k)))) ρ fun b=>b=decide (v=k) :=
 yI (vI (zo hi (jw ⟨rfl,rfl,by show min 0 0<=60;decide,_,rfl,rfl⟩)))
end
end L2
end
section
namespace L2
open PySem PySem.Spec PyProof.Rows
def vd:Nat:=2 ^ 9000
theorem qk {n m:Nat} (h:n<2 ^ m) (hm:m<=9000):n<vd:=apk h (arG (by decide) hm)
theorem acB {k:Int} (h:k.natAbs<vd):aq4 k<=9000:=by
 unfold aq4
 split
 ·exact apC _
 ·have:k.natAbs.log2<9000:=by
   rcases Nat.eq_zero_or_pos k.natAbs with h0 | hp
   ·rw [h0];decide
   ·exact (asO (aq1 hp)).mpr h
  omega
def CMulH (i j:Int):Prop:=i.natAbs<vd/\j.natAbs<vd
theorem CMulH.ok {i j:Int} (h:CMulH i j):IntMulOk i j:=by
 have e1:=acB h.1
 have e2:=acB h.2
 have:asG ((aq4 i:Int)+(aq4 j:Int))=false:=by
  unfold asG
  refine decide_eq_false ?_
  have:(100000:Int)<=(bitsLine:Int):=by decide +kernel
  omega
 unfold IntMulOk
 rw [this,aqY]
 exact aoY
theorem yQ {X:Cx}:OpR X (binaryOp .Mult) (rI CMulH fun i j=>.int (i * j)):=opI fun _ _ _ _ _ _ _ hc q=>mul_int q hc.ok
def amd (_ j:Int):Prop:=j≠0/\j.natAbs<vd
theorem v7 {X:Cx}:OpR X (binaryOp .FloorDiv) (rI amd fun i j=>.int (i.fdiv j)):=opI fun i j _ _ _ _ _ hc q=>by
 obtain⟨h1,h2⟩:=hc
 refine floordiv_int h1 q (.inl (ase ?_))
 exact (asO (by omega)).mpr h2
def anv (q:Rat):PyData:=.tuple [.int q.num,.int (q.den:Nat)]
theorem abD {g t:Int} (h:g≠0):(g * t).fdiv g=t:=by
 rw [Int.mul_fdiv_cancel_left _ h]
theorem ahQ {t b:Int} (hb:b≠0):(t.fdiv (b.sign * (ap5 t b:Int))=(ar1 t b).num)/\(b.fdiv (b.sign * (ap5 t b:Int))=((ar1 t b).den:Int)):=by
 have gp:0<ap5 t b:=arP t hb
 have g0:((ap5 t b:Nat):Int)≠0:=by omega
 obtain⟨u,hu⟩:=Int.gcd_dvd_left t b
 obtain⟨v,hv⟩:=Int.gcd_dvd_right t b
 have ss:b.sign * b.sign=1:=by
  rcases arq b 0 with h | h | h
  ·rw [aqc h];rfl
  ·exact absurd h hb
  ·rw [aqq h];rfl
 have s0:b.sign * ((ap5 t b:Nat):Int)≠0:=Int.mul_ne_zero (fun z=>by rw [z] at ss;cases ss) g0
 refine⟨?_,?_⟩
 ·rw [Rat.num_divInt,Int.gcd_comm b t]
  have e1:t=b.sign * ((ap5 t b:Nat):Int) * (b.sign * u):=by
   rw [show b.sign * ((ap5 t b:Nat):Int) * (b.sign * u)=(b.sign * b.sign) * (((ap5 t b:Nat):Int) * u) by grind,ss,atc,<- hu]
  have e2:b.sign * t=((ap5 t b:Nat):Int) * (b.sign * u):=by rw [show ((ap5 t b:Nat):Int) * (b.sign * u)=b.sign * (((ap5 t b:Nat):Int) * u) by grind,<- hu]
  rw [e2,asl _ g0]
  generalize hG:b.sign * ((ap5 t b:Nat):Int)=G at *
  rw [e1]
  exact abD s0
 ·rw [Rat.den_divInt,if_neg hb,Int.gcd_comm b t]
  have e1:b=b.sign * ((ap5 t b:Nat):Int) * (b.sign * v):=by
   rw [show b.sign * ((ap5 t b:Nat):Int) * (b.sign * v)=(b.sign * b.sign) * (((ap5 t b:Nat):Int) * v) by grind,ss,atc,<- hv]
  have e3:(b.natAbs:Int)=((ap5 t b:Nat):Int) * (b.sign * v):=by
   rw [show ((ap5 t b:Nat):Int) * (b.sign * v)=b.sign * (((ap5 t b:Nat):Int) * v) by grind,<- hv]
   rcases arq b 0 with h | h | h
   ·rw [aqc h];omega
   ·exact absurd h hb
   ·rw [aqq h];omega
  rw [Int.natCast_ediv,e3,asl _ g0]
  have key:∀ G X:Int,G≠0->b=G * X->b.fdiv G=X:=fun G X h e=>by rw [e];exact abD h
  exact key _ _ s0 e1
theorem afB (t b:Int):(ar1 t b).num.natAbs<=t.natAbs:=by
 rw [Rat.num_divInt]
 refine apm (Int.natAbs_ediv_le_natAbs _ _) ?_
 rw [Int.natAbs_mul]
 refine apm (Nat.mul_le_mul_right _ (show b.sign.natAbs<=1 from ?_)) (by rw [Nat.one_mul];exact ao6 _)
 rcases arq b 0 with h | h | h
 ·rw [aqc h];decide
 ·rw [h];decide
 ·rw [aqq h];decide
theorem afC {t b:Int} (h:b≠0):(ar1 t b).den<=b.natAbs:=by
 rw [Rat.den_divInt,if_neg h]
 exact Nat.div_le_self _ _
section
variable {K:aoZ} {f:Fx} {ρ:zm} {R:zm->Prop} {P:PyData->Prop} {i j m:Nat}
theorem aoT {a b:PyData} (h:R ((ρ.set i (some (.dat a))).set j (some (.dat b)))):PGd K f (aie K 2 (aba (yz i) (aba (yz j) aks))) (.tuple [a,b]) ρ R:=yF rfl (zv (zi (zv (zi (z4 h)))))
theorem aoU {a b c:PyData} (h:R (((ρ.set i (some (.dat a))).set j (some (.dat b))).set m (some (.dat c)))):PGd K f (aie K 3 (aba (yz i) (aba (yz j) (aba (yz m) aks)))) (.tuple [a,b,c]) ρ R:=yF rfl (zv (zi (zv (zi (zv (zi (z4 h)))))))
theorem ald {C:Int->Int->Prop} {g:Int->Int->Int} {a b:Int} (hi:ρ[i]?=some (some (.dat (.int a)))) (hj:ρ[j]?=some (some (.dat (.int b)))) (c:C a b) (p:P (.int (g a b))):PEd K f (tOp (rI C fun i j=>.int (g i j)) (z6 i) (z6 j)) ρ P:=yP (zo hi ⟨_,rfl,zo hj ⟨_,rfl,c,p⟩⟩)
end
end L2
end
section
open PySem PySem.Spec PyProof.Rows
namespace L2
theorem FnOk.up {P:Program} {w:World} {K:aoZ} {mg:Str->Option Value} {base:Heap} {CX:CXT} {k:Nat} {f:Addr} {fd:FuncData} {ps:List Str} {sp:Sp} (F:FnOk P w K mg base CX0 k f fd ps sp):FnOk P w K mg base CX k f fd ps sp :=
 ⟨F.len,fun A outer s H args us vs Q E hr he hb hv hs=>codeAny_mono (F.run A outer s H args us vs Q E hr he hb hv hs) fun res s' z=>by
  cases res with
  | error e=>exact apF z
  | ok fl=>cases fl <;> exact z⟩
theorem FnIn.at {P:Program} {w:World} {K:aoZ} {mg:Str->Option Value} {base:Heap} {k:Nat} {x:Str} {ps:List Str} {sp:Sp} {CX:CXT} (h:FnIn P w K mg base k x ps sp) {a:Addr} (ha:mg x=some (.ref a)):FnAt P w K mg base CX k a sp:=by
 obtain⟨f,fd,F,e,kp,hb⟩:=h.ex
 rw [ha] at e
 cases e
 exact⟨fd,ps,F.up,kp,hb⟩
theorem FnInF.at {P:Program} {w:World} {K:aoZ} {mg:Str->Option Value} {base:Heap} {k:Nat} {x:Str} {ps:List Str} {sp:Sp} (h:FnInF P w K mg base k x ps sp) {a:Addr} (ha:mg x=some (.ref a)):FnAt P w K mg base (CXf P w) k a sp:=by
 obtain⟨f,fd,F,e,kp,hb⟩:=h.ex
 rw [ha] at e
 cases e
 exact⟨fd,ps,F,kp,hb⟩
section
variable {X:Cx} {k:Nat} {fns:List (Addr×Sp)} {E:XK} {fe e:Expr} {es:List Expr} {tf:TE} {t:TA} {pos spos:Pos}
def adv (fns:List (Addr×Sp)) (tf:TE) (t:TA):XK->TS:=fun E D σ H=>adu fns E tf t σ H fun _ H2=>D.nx σ H2
theorem ajF (hf:PE X.nox fe tf) (G:∀ a sp,(a,sp)∈fns->FnAt X.prog X.w X.K X.mg X.base (CXf X.prog X.w) k a sp) (hr:Room k X.A) (ha:PA X.nox (e :: es) t)
  (he:starEach (e :: es) X.env=(false,eval e X.env) :: starEach es X.env:=by rfl) (hpl:(backTo pos (starEach es X.env)).any (·.1)=false:=by rfl)
  (hev:eval (.Call fe (e :: es) [] pos) X.env=(do
   let f <- eval fe X.env
   callWith pos f [] (backTo pos (starEach (e :: es) X.env)) (backToKw pos (keywordEach [] X.env))):=by rfl)
  (hsw:swapsWith (.Call fe (e :: es) [] pos) none spos.line X.env=pure false:=by rfl) :
  PBy X [.Expr (.Call fe (e :: es) [] pos) spos] (adv fns tf t):=by
 intro pins s σ H D E I h
 refine wpAny_execs_cons (wpAny_Expr_any ?_ I.quiet hsw)
 refine wpAny_mono (ajA hf G hr ha I h he hpl hev) (fun u s2 z=>?_) fun _ _ z=>z
 obtain⟨v,H2,I2,r2,q2⟩:=z
 exact wpAny_execs_nil ⟨σ,H2,I2,q2⟩
def afD (sps:List Sp) (t:TA):XK->TS:=fun E D σ H=>t σ H fun vs H1=>∃ sp,sp∈sps/\sp vs H1 (fun _ H2=>D.nx σ H2) E
theorem ajG {f:Addr} {fx:Str} {sps:List Sp} {e0:Expr} {p cpos:Pos} (G:∀ sp,sp∈sps->FnAt X.prog X.w X.K X.mg X.base (CXf X.prog X.w) k f sp) (hr:Room k X.A) (hgf:Gl X fx) (hmf:X.mg fx=some (.ref f)) (hk:apM X.K (.ref f)=true) (ha:PA X.nox (e0 :: es) t)
  (hdf:(fx == ("__debug__":Str))=false:=by decide) (he:starEach (e0 :: es) X.env=(false,eval e0 X.env) :: starEach es X.env:=by rfl) (hpl:(backTo cpos (starEach es X.env)).any (·.1)=false:=by rfl)
  (hsw:swapsWith (.Call (.Name fx p) (e0 :: es) [] cpos) none spos.line X.env=pure false:=by rfl) :
  PBy X [.Expr (.Call (.Name fx p) (e0 :: es) [] cpos) spos] (afD sps t):=by
 intro pins s σ H D E I h
 refine wpAny_execs_cons (wpAny_Expr_any ?_ I.quiet hsw)
 refine wpAny_Call_Name_kw (jD I hgf hmf ?_ hdf)
 refine aqI (h₀:=X.base) I.ok.mod.kin hk (wpAny_mono (ha cpos pins s σ H _ (I.wish _) h) (fun us s1 q=>?_) fun _ _ z=>z.elim) he hpl
 obtain⟨vs,H1,I1',r,sp,hm,q⟩:=q
 have I1:Inv X pins σ H1 s1:=I1'.unwish
 obtain⟨fd,ps,F,_,hb⟩:=(G sp hm).ex
 refine⟨I1.kIn,?_⟩
 have b2:=hb s1 us I1.kIn (by rw [apB,<- r.length];exact F.len _ _ _ _ q)
 rw [apB] at b2
 refine wpAny_call (codeAny_mono (F.run X.A X.stack s1 H1 ⟨us,[]⟩ us vs _ _ hr I1.env0 b2 r q) fun res s' z=>?_)
 cases res with
 | error e=>exact⟨H1,s1,I1,z⟩
 | ok fl =>
  cases fl with
  | ret u =>
   obtain⟨v,H2,I2,r2,q2⟩:=I1.after z
   exact wpAny_execs_nil ⟨σ,H2,I2,q2⟩
  | next=>exact apF z
  | brk=>exact apF z
  | cont=>exact apF z
end
section
variable {X:Cx}
theorem agH {K:aoZ} {H:Hp}:∀ {ts:List Str} {xs:List V} {us:List Value},Reps K H (ts.map .str) xs->Vals xs us->∃ l:List (Str×Tok),strValues l=us/\l.map (·.1)=ts
 | [],xs,us,r,v=>by
  cases reps_nil.mp r
  cases v
  exact⟨[],rfl,rfl⟩
 | t :: ts,xs,us,r,v=>by
  obtain⟨x,xs',rfl,h1,h2⟩:=reps_cons.mp r
  cases v with
  | cons a b =>
   obtain⟨l,e1,e2⟩:=agH h2 b
   have hx:=rep_str.mp h1
   subst hx
   obtain⟨tk,rfl⟩:=a
   exact⟨(t,tk) :: l,by rw [<-e1];rfl,by rw [<-e2];rfl⟩
def rJoin (K:aoZ):V->List V->Hp->VK->Prop:=fun x ys H Q=>∃ sep ts y,x=.str sep/\ys=[y]/\Rep K H (.list (ts.map .str)) y/\JoinOk sep ts=true/\Q (.str (ass sep ts)) H
theorem ale:MtR X "str.join" (rJoin X.K):=by
 intro pins s σ H x xs v us Q I rx rv h
 obtain⟨sep,ts,y,rfl,rfl,hl,hok,q⟩:=h
 obtain⟨a,zs,rfl,hq,hr⟩:=rep_list.mp hl
 obtain⟨tk,rfl⟩:=rx
 obtain⟨u,rfl,ru⟩:=rv.one
 cases ru
 obtain⟨its,r,pl,hz⟩:=I.list hq
 obtain⟨l,e1,e2⟩:=agH hr r
 subst e2
 refine SC.join (l:=l) ?_ rfl hok fun t' k=>⟨.str _,H,I.tok _,⟨_,rfl⟩,q⟩
 rw [e1]
 obtain⟨o,n,e,c1,c2,c3⟩:=pl
 exact⟨o,e,c1,n,c3⟩
theorem aey {K:aoZ} {o e:Expr} {es:List Expr} {to:TE} {t:TA} {apos cpos:Pos} (hK:X.K=K) (ho:PE X o to) (ha:PA X (e :: es) t)
  (hbase:attributeBase o "join" X.env (eval o X.env)=eval o X.env)
  (hfew:((backTo cpos (starEach (e :: es) X.env)).all (fun x=>!x.1) && (backToKw cpos (keywordEach [] X.env)).all (fun x=>x.1.isSome)
   && decide ((e :: es).length+([]:List Keyword).length+(if ([]:List Keyword).isEmpty then 0 else 1)<30))=true)
  (hline:(apos.endLine == cpos.line)=true) (hs:starEach (e :: es) X.env=(false,eval e X.env) :: starEach es X.env) (hplain:(backTo cpos (starEach es X.env)).any (·.1)=false) :
  PE X (.Call (.Attribute o "join" apos) (e :: es) [] cpos) (tBM K "str" (rJoin K) to t):=by
 subst hK
 exact af6 PySem.F.plainAttrs_str PySem.F.slot_str_join PySem.F.type_str_join ale ho ha hbase hfew hline hs hplain
end
theorem ajH {b:Nat}:∀ ts:List Str,(∀ t∈ts,t.length<=b)->(ts.map (·.length)).sum<=b * ts.length
 | [],_=>apC _
 | t :: ts,h=>by
  have h1:=ajH ts fun u hu=>h u (ao3 _ hu)
  have h2:=h t apa
  rw [apq,List.sum_cons,aph,atd]
  omega
theorem joinOk_of {sep:Str} {ts:List Str} {b:Nat} (h:∀ t∈ts,t.length<=b) (hl:ts.length<=1000) (hs:sep.length<=1) (hb:b<=10000):JoinOk sep ts=true/\(ass sep ts).length<=(b+1) * ts.length:=by
 have h1:=ajH ts h
 have h2:ts.length * sep.length<=ts.length:=by
  have:=Nat.mul_le_mul_left ts.length hs
  omega
 have h3:b * ts.length<=10000 * 1000:=aq0 hb hl
 constructor
 ·unfold JoinOk
  rw [asd,StrLaws.joinTotal]
  unfold Builtin.Str.tooLong
  refine decide_eq_false ?_
  rw [sizeLine_eq]
  omega
 ·have h4:=StrLaws.join_length_le sep ts
  have e:ass sep ts=Str.join sep ts:=StrLaws.glued_eq_join sep ts
  rw [e,Nat.add_mul]
  omega
section
variable {K:aoZ} {f:Fx} {ρ:zm} {te ta:TE} {P:PyData->Prop}
theorem ajI {sep:Str} (h:PEd K f te ρ fun x=>∃ ts:List Str,x=.list (ts.map .str)/\JoinOk sep ts=true/\P (.str (ass sep ts))):PEd K f (tBM K "str" (rJoin K) (tC (.str sep)) (zY te y4)) ρ P:=fun σ H Q e q=>by
 refine⟨rfl,?_⟩
 refine h σ H _ e fun x v H1 g1 r1 ⟨ts,ex,hok,p⟩=>?_
 subst ex
 exact⟨sep,ts,v,rfl,rfl,Rep.mono (zl _ _) _ _ r1,hok,q _ _ H1 g1 (rep_str.mpr rfl) p⟩
theorem anw (h:PEd K f te ρ fun x=>∃ i:Int,x=.int i/\i.natAbs<2 ^ 100/\P (.str (toString i))):PEd K f (tCB (fun xs H Q=>∃ i,xs=[.int i]/\i.natAbs.log2<1920/\Q (.str (toString i)) H) (zY te y4)) ρ P:=fun σ H Q e q =>
 h σ H _ e fun x v H1 g1 r1 ⟨i,ex,hi,p⟩=>by
  subst ex
  rw [rep_int.mp r1]
  refine⟨i,rfl,?_,q _ _ H1 g1 (rep_str.mpr rfl) p⟩
  by_cases z:i.natAbs=0
  ·rw [z];decide
  ·have:=(asO z).mpr (apk hi (arG (by decide) (show 100<=1920 by decide)))
   exact this
end
section
variable {K:aoZ} {f:Fx} {ρ:zm} {E:XK} {ti:TE} {t:TA} {D:DEnds} {Z:Value->XD->Prop} {as:List Addr} {fns:List (Addr×Sp)} {sps:List Sp} {γ:Type} {n:Nat} {pre:γ->List DV->Prop} {post:γ->PyData->Prop} {posn:γ->List PyData->Prop} {exc:γ->Value->XD->Prop}
theorem acC {σ:St} {H:Hp} {Q:VK} {sp:Sp} (hl:as.length<=1000) (e:EnvOk K f ρ σ H)
  (h:PEd K f ti ρ fun d=>∃ (q:Int) (a:Addr),d=.int q/\atI (as.map V.ref) q=some (.ref a)/\(a,sp)∈fns/\PAd K f t ρ fun xs=>∀ vs H2,Goes f H H2->RepVs K f H2 xs vs->sp vs H2 Q E):adu fns E (tOp (vH K) (abR (abB as)) ti) t σ H Q:=by
 refine abC (as:=as) ⟨ap1 (zX (show (as.map V.ref).length<=1000 by rw [aoX];exact hl)),fun p hp=>?_⟩
 have g0:Goes f H (upd H p (.lst (as.map .ref))):=.of_same (zR hp _) e.fd
 have np:=fresh_ne e.fd hp
 refine h σ _ _ (e.mono g0) fun d v H1 g1 r1 ⟨q,a,ed,ha,hm,h2⟩=>?_
 subst ed
 rw [rep_int.mp r1]
 have hp1:H1 p=some (.lst (as.map .ref)):=(zF (g1.sm p _ (zz np zq))).2
 refine⟨p,as.map .ref,q,.ref a,rfl,rfl,.of hp1,ha,a,_,rfl,hm,?_⟩
 have g01:=g0.trans g1
 exact h2 σ H1 _ (e.mono g01) fun xs vs H2 g2 r2 k=>k vs H2 (g01.trans g2) r2
theorem aez (hl:as.length<=1000) (c:γ)
  (h:PEd K f ti ρ fun d=>∃ (q:Int) (a:Addr),d=.int q/\atI (as.map V.ref) q=some (.ref a)/\(a,spD K n pre post)∈fns/\PAd K f t ρ fun xs=>xs.length=n/\pre c xs/\∀ r,post c r->D.nx ρ) :
  PYd K f (adv fns (tOp (vH K) (abR (abB as)) ti) t) ρ D Z:=fun E σ H N e nx rt bk ct z =>
 acC hl e fun σ' H' Q' e' k'=>h σ' H' Q' e' fun d v H1 g1 r1 ⟨q,a,ed,ha,hm,h2⟩=>k' d v H1 g1 r1 ⟨q,a,ed,ha,hm,fun σ2 H2 Q2 e2 k2=>h2 σ2 H2 Q2 e2 fun xs vs H3 g3 r3 ⟨l,hp,kp⟩=>k2 xs vs H3 g3 r3 fun vs4 H4 g4 r4=>⟨f,xs,c,r4,l,g4.2,hp,fun r v H5 g5 _ p5=>nx ρ σ H5 (g4.trans g5) (e.mono (g4.trans g5)) (kp r p5)⟩⟩
theorem ajJ (hl:as.length<=1000) (c:γ)
  (h:PEd K f ti ρ fun d=>∃ (q:Int) (a:Addr),d=.int q/\atI (as.map V.ref) q=some (.ref a)/\(a,spN K n pre posn)∈fns/\PAd K f t ρ fun xs=>xs.length=n/\pre c xs/\∀ r,posn c r->D.nx ρ) :
  PYd K f (adv fns (tOp (vH K) (abR (abB as)) ti) t) ρ D Z:=fun E σ H N e nx rt bk ct z =>
 acC hl e fun σ' H' Q' e' k'=>h σ' H' Q' e' fun d v H1 g1 r1 ⟨q,a,ed,ha,hm,h2⟩=>k' d v H1 g1 r1 ⟨q,a,ed,ha,hm,fun σ2 H2 Q2 e2 k2=>h2 σ2 H2 Q2 e2 fun xs vs H3 g3 r3 ⟨l,hp,kp⟩=>k2 xs vs H3 g3 r3 fun vs4 H4 g4 r4=>⟨f,xs,c,r4,l,g4.2,hp,fun es D' vs' H5 g5 _ _ _ p5=>nx ρ σ H5 (g4.trans g5) (e.mono (g4.trans g5)) (kp es p5)⟩⟩
theorem ajK (hl:as.length<=1000) (c:γ)
  (h:PEd K f ti ρ fun d=>∃ (q:Int) (a:Addr),d=.int q/\atI (as.map V.ref) q=some (.ref a)/\(a,spF K n pre post exc)∈fns/\PAd K f t ρ fun xs=>xs.length=n/\pre c xs/\(∀ r,post c r->D.nx ρ)/\∀ C x,exc c C x->Z C x) :
  PYd K f (adv fns (tOp (vH K) (abR (abB as)) ti) t) ρ D Z:=fun E σ H N e nx rt bk ct z =>
 ahP hl c e (P:=fun _=>D.nx ρ) h (fun d v H' g' r' p=>nx ρ σ H' g' (e.mono g') p) z
theorem ajL (hm:spN K n pre posn∈sps) (c:γ) (h:PAd K f t ρ fun xs=>xs.length=n/\pre c xs/\∀ r,posn c r->D.nx ρ):PYd K f (afD sps t) ρ D Z:=fun E σ H N e nx rt bk ct z =>
 h σ H _ e fun xs vs H1 g1 r1 ⟨l,hp,kp⟩=>⟨_,hm,f,xs,c,r1,l,g1.2,hp,fun es D' vs' H5 g5 _ _ _ p5=>nx ρ σ H5 (g1.trans g5) (e.mono (g1.trans g5)) (kp es p5)⟩
theorem ajM (hm:spF K n pre post exc∈sps) (c:γ) (h:PAd K f t ρ fun xs=>xs.length=n/\pre c xs/\(∀ r,post c r->D.nx ρ)/\∀ C x,exc c C x->Z C x):PYd K f (afD sps t) ρ D Z:=fun E σ H N e nx rt bk ct z =>
 h σ H _ e fun xs vs H1 g1 r1 ⟨l,hp,kp,kz⟩=>⟨_,hm,f,xs,c,r1,l,g1.2,hp,fun r v H5 g5 _ p5=>nx ρ σ H5 (g1.trans g5) (e.mono (g1.trans g5)) (kp r p5),fun C o x H' g' fi p'=>z C o x H' (g1.trans g') fi (kz C x p')⟩
end
end L2
end
section
namespace My
open PySem PySem.Spec PyProof.Rows L2
abbrev pf:List Str:=["rows"]
abbrev ph:List Str:=["rows","cut","gate"]
abbrev pj:List Str:=["rows","cut","cell"]
abbrev pq:List Str:=["rows","x","y"]
abbrev pz:List Str:=["rows","cut"]
abbrev pA:List Str:=["row"]
abbrev pB:List Str:=["things"]
abbrev pC:List Str:=["rows","cuts"]
abbrev pE:List Str:=["_law_feed_here","_law_many"]
abbrev pF:List Str:=["gate","rows","cut"]
abbrev pG:List Str:=["one","other"]
abbrev pH:List Str:=["rows","cut","point"]
abbrev pI:List Str:=["x","y"]
abbrev pJ:List Str:=["rows","gate"]
abbrev pK:List Str:=["_law_feed_here","_law_far","_law_base"]
abbrev pL:List Str:=["x","y","rows"]
abbrev pM:List Str:=["a","b","rows"]
abbrev pN:List Str:=["top","bottom"]
abbrev pO:List Str:=["rows","cut","start"]
abbrev pP:List Str:=["rows","cut","gate","scale"]
abbrev pQ:List Str:=["_law_script","_law_k"]
abbrev pR:List Str:=["_law_feed_here"]
abbrev pS:List Str:=["_law_feed_here","_law_table_here"]
abbrev pU:List Str:=["_law_rows"]
abbrev pV:List Str:=["_law_caught"]
abbrev pW:List Str:=["_law_rows","_law_cuts","_law_which"]
abbrev pX:List Str:=["_law_script"]
abbrev pY:List Str:=["x","y","way"]
abbrev pZ:List Str:=["cut","word","path","rows","scale"]
abbrev qa:List Str:=["rows","cut","gate","first","second"]
abbrev qb:List Str:=["rows","cut","gate","across","down"]
abbrev qc:List Str:=["_law_y","_law_feed_here","_law_wide","_law_far","_law_base"]
abbrev qd:List Str:=["_law_x","_law_feed_here","_law_far","_law_base"]
local macro_rules | `(tactic| walk_at "w")=>`(tactic| repeat walk_at "dl")
local macro_rules | `(tactic| walk_at "s")=>`(tactic| exact⟨rfl,rfl,rfl,by decide +kernel,rfl,by decide +kernel,by decide +kernel⟩)
def top (i:Nat):Stmt:=PySem.Challenge.pw_heightrings_k55_bad_tables_in_maps.main.body.getD i (.Pass ⟨0,0,0,0⟩)
abbrev adw:=top 1
abbrev anx:List Str:=pf
theorem alf:FnScope anx pf (zg adw):=by walk_at "s"
abbrev v8:=top 2
abbrev ajN:List Str:=["rows","wide","tall"]
theorem sc_points:FnScope ajN pf (zg v8):=by walk_at "s"
abbrev jI:=top 3
abbrev aeA:List Str:=["rows","x","y","wide","tall"]
theorem sc_has_point:FnScope aeA pq (zg jI):=by walk_at "s"
abbrev jj:=top 4
abbrev adx:List Str:=["rows","x","y","beside"]
theorem sc_neighbours:FnScope adx pq (zg jj):=by walk_at "s"
abbrev ql:=top 5
abbrev afE:List Str:=pq
theorem aeB:FnScope afE pq (zg ql):=by walk_at "s"
abbrev qV:=top 6
abbrev ahR:List Str:=pI
theorem afF:FnScope ahR pI (zg qV):=by walk_at "s"
abbrev v9:=top 8
abbrev ajO:List Str:=pG
theorem sc_common:FnScope ajO pG (zg v9):=by walk_at "s"
abbrev jJ:=top 9
abbrev aeC:List Str:=["top","bottom","by"]
theorem sc_shortened:FnScope aeC pN (zg jJ):=by walk_at "s"
abbrev ja:=top 27
abbrev aeD:List Str:=["rows","at","row"]
theorem sc_ask_table:FnScope aeD pf (zg ja):=by walk_at "s"
abbrev ady:=top 28
abbrev anz:List Str:=pB
theorem alg:FnScope anz pB (zg ady):=by walk_at "s"
abbrev aaa:=top 29
abbrev ajP:List Str:=pA
theorem ahS:FnScope ajP pA (zg aaa):=by walk_at "s"
abbrev aa1:=top 33
abbrev alh:List Str:=["rows","cut","sides"]
theorem sc_gates:FnScope alh pz (zg aa1):=by walk_at "s"
abbrev yY:=top 34
abbrev abY:List Str:=["rows","cut","point","x","y"]
theorem sc_stands_high:FnScope abY pH (zg yY):=by walk_at "s"
abbrev yZ:=top 35
abbrev abZ:List Str:=["gate","x","y","way"]
theorem sc_gate_points:FnScope abZ ["gate"] (zg yZ):=by walk_at "s"
abbrev qo:=top 36
abbrev afG:List Str:=pJ
theorem aeE:FnScope afG pJ (zg qo):=by walk_at "s"
abbrev qW:=top 37
abbrev ahT:List Str:=qa
theorem sc_is_open:FnScope ahT ph (zg qW):=by walk_at "s"
abbrev jk:=top 38
abbrev adz:List Str:=["cell","x","y"]
theorem sc_cell_gates:FnScope adz ["cell"] (zg jk):=by walk_at "s"
abbrev jl:=top 39
abbrev adA:List Str:=pj
theorem ab0:FnScope adA pj (zg jl):=by walk_at "s"
abbrev yA:=top 40
abbrev aab:List Str:=["rows","cut","cell","x","y"]
theorem sc_has_high_middle:FnScope aab pj (zg yA):=by walk_at "s"
abbrev jK:=top 41
abbrev aeF:List Str:=["rows","cut","cell","through"]
theorem sc_cell_ties:FnScope aeF pj (zg jK):=by walk_at "s"
abbrev yR:=top 42
abbrev abE:List Str:=["rows","cut","cell","above","left","below","right"]
theorem sc_crossed_ties:FnScope abE pj (zg yR):=by walk_at "s"
abbrev qX:=top 43
abbrev ahU:List Str:=["rows","cut","gate","x","y","way","near_is_high"]
theorem sc_heading:FnScope ahU ph (zg qX):=by walk_at "s"
abbrev jm:=top 44
abbrev adB:List Str:=qb
theorem sc_cell_ahead:FnScope adB ph (zg jm):=by walk_at "s"
abbrev qq:=top 45
abbrev afH:List Str:=qb
theorem sc_comes_in:FnScope afH ph (zg qq):=by walk_at "s"
abbrev jn:=top 46
abbrev adC:List Str:=["rows","cut","gate","x","y","partners","one","other"]
theorem sc_gate_ahead:FnScope adC ph (zg jn):=by walk_at "s"
abbrev aa2:=top 48
abbrev ali:List Str:=["rows","cut","through","starts","told","passed","start","line","gate"]
theorem sc_lines:FnScope ali pz (zg aa2):=by walk_at "s"
abbrev jL:=top 49
abbrev aeG:List Str:=["rows","cut","start","path","gate"]
theorem sc_line_from:FnScope aeG pO (zg jL):=by walk_at "s"
abbrev qr:=top 51
abbrev afI:List Str:=["rows","cut","gate","x","y","way","part","whole"]
theorem sc_place_of:FnScope afI ph (zg qr):=by walk_at "s"
abbrev aa3:=top 52
abbrev alj:List Str:=qa
theorem sc_share:FnScope alj ph (zg aa3):=by walk_at "s"
abbrev jz:=top 54
abbrev afJ:List Str:=["rows","scale","x","y","a","b","by"]
theorem sc_scale_of:FnScope afJ pf (zg jz):=by walk_at "s"
abbrev qJ:=top 55
abbrev ajQ:List Str:=["rows","cuts","scale"]
theorem sc_web_of:FnScope ajQ pC (zg qJ):=by walk_at "s"
abbrev yS:=top 56
abbrev abF:List Str:=["rows","cut","gate","scale","x","y","by"]
theorem sc_scaled_place:FnScope abF pP (zg yS):=by walk_at "s"
abbrev jZ:=top 57
abbrev ahV:List Str:=["rows","scale"]
theorem sc_pins_of:FnScope ahV pf (zg jZ):=by walk_at "s"
abbrev yT:=top 59
abbrev adD:List Str:=pf
theorem vm:FnScope adD pf (zg yT):=by walk_at "s"
abbrev qt:=top 61
abbrev vB:List Str:=["_law_script","_law_k","_law_cell"]
theorem sc_law_feed:FnScope vB pQ (zg qt):=by walk_at "s"
abbrev qu:=top 62
abbrev afK:List Str:=["_law_feed_here","_law_many","_law_found"]
theorem sc_law_draw:FnScope afK pE (zg qu):=by walk_at "s"
abbrev jo:=top 63
abbrev adE:List Str:=pK
theorem ab1:FnScope adE pK (zg jo):=by walk_at "s"
abbrev jM:=top 64
abbrev aeH:List Str:=["_law_feed_here","_law_wide","_law_high","_law_far","_law_base"]
theorem sc_law_table:FnScope aeH pR (zg jM):=by walk_at "s"
abbrev y3:=top 65
abbrev ab2:List Str:=["_law_feed_here","_law_table_here","_law_rows","_law_way","_law_at","_law_some"]
theorem sc_law_spoiled:FnScope ab2 pS (zg y3):=by walk_at "s"
abbrev qY:=top 66
abbrev ahW:List Str:=["_law_rows","_law_at","_law_wide"]
theorem sc_law_due:FnScope ahW pU (zg qY):=by walk_at "s"
abbrev jN:=top 67
abbrev aeI:List Str:=["_law_caught","_law_some"]
theorem sc_law_alone:FnScope aeI pV (zg jN):=by walk_at "s"
abbrev qv:=top 68
abbrev afL:List Str:=["_law_rows","_law_cuts","_law_which","_law_found","_law_caught"]
theorem sc_law_told:FnScope afL pW (zg qv):=by walk_at "s"
abbrev aaP:=top 69
abbrev agI:List Str:=["_law_script","_law_k","_law_feed_here","_law_good","_law_rows","_law_kept","_law_due_here","_law_cuts","_law_which","_law_word"]
theorem sc_law:FnScope agI pX (zg aaP):=by walk_at "s"
abbrev yX:Stmt:=(ala (top 12)).getD 0 (.Pass ⟨0,0,0,0⟩)
theorem aaT:FnScope ["self","at"] ["self","at"] (zg yX):=by walk_at "s"
def tab (rows:List (List Int)):PyData:=.list (rows.map fun r=>.list (r.map .int))
structure Good (w:Nat) (rows:List (List Int)):Prop where
 h1:2<=rows.length
 h2:rows.length<=7
 w1:2<=w
 w2:w<=7
 row:∀ r∈rows,r.length=w
 hgt:∀ r∈rows,∀ n∈r,-1000000000<=n/\n<=1000000000
theorem Good.ne {w:Nat} {rows:List (List Int)} (g:Good w rows):∃ r rs,rows=r :: rs:=by
 cases rows with
 | nil=>have:=g.h1;simp at this
 | cons r rs=>exact⟨r,rs,rfl⟩
theorem qw {α β:Type} {F:α->β} {xs:List α} {k:Int} {j:Nat} (hk:(j:Int)=k) (h:j<xs.length):atI (xs.map F) k=some (F xs[j]):=by
 subst hk
 exact yK (by rw [ao5,aoW h];rfl)
local macro_rules | `(tactic| walk_at "dl")=>`(tactic| first
 | (with_reducible show PSd _ _ (qe _ (acQ (z6 _) (tC (V.int 0)) aaD)) _ _;refine agc rfl ?_)
 | (with_reducible show PSd _ _ (qe _ (acQ (z6 _) (tC (V.int 1)) aaD)) _ _;refine agd rfl ?_)
 | with_reducible refine zV ?_ | with_reducible refine vJ ?_ | with_reducible refine yc ?_ | with_reducible refine zN ?_ | with_reducible refine qA ?_ | with_reducible refine jh ?_
 | with_reducible refine zi ?_ | with_reducible refine yF rfl ?_ | with_reducible refine zv ?_ | with_reducible refine z4 ?_
 | with_reducible refine yI ?_ | with_reducible refine t_b ?_ | with_reducible refine aix ?_ | with_reducible refine akC ?_ | with_reducible refine ack ?_ | with_reducible refine jx ?_
 | with_reducible refine aga ?_ | with_reducible refine acj ?_ | with_reducible refine abk ?_ | with_reducible refine yP ?_ | with_reducible refine vI ?_
 | with_reducible refine akD ?_ | with_reducible refine abm ?_ | with_reducible refine d_orV ?_ | with_reducible refine afg ?_
 | with_reducible refine jw ?_ | with_reducible refine amJ ?_ | with_reducible refine aaH ?_ | with_reducible refine aiu ?_
 | (with_reducible show PEd _ _ (z6 _) _ _;refine zo rfl ?_)
 | (with_reducible show PEd _ _ (tOp (vH _) (z6 _) _) _ _;refine alW rfl ?_)
 | with_reducible refine abl ?_ | with_reducible refine aiv ?_
 | (with_reducible show PAd _ _ (zY (z6 _) _) _ _;refine afe rfl ?_)
 | with_reducible refine zB ?_ | with_reducible refine yk ?_
 | with_reducible refine y6 ?_ | with_reducible refine aiw ?_ | with_reducible refine alX ?_ | with_reducible refine afh ?_ | with_reducible refine afi ?_ | with_reducible refine aiy ?_ | with_reducible refine aiz ?_
 | (with_reducible show (∃ _,_) \/ (∃ _,_);refine Or.inl ⟨_,rfl,?_⟩) | refine⟨_,rfl,?_⟩ | refine⟨_,_,rfl,?_⟩
 | (with_reducible show (_=_/\∀ _,_) \/ _;first | refine Or.inl ⟨rfl,fun a ha=>?_⟩ | refine Or.inr ⟨rfl,fun b hb hb'=>?_⟩)
 | refine⟨rfl,?_⟩
 | (refine And.intro ?side ?_;(case side=>first | omega | exact Int.ediv_nonneg (by omega) (by omega) | exact arM _ (by omega) | exact aqr _ (by omega) | decide | exact⟨by decide,by decide,by decide⟩ | exact⟨by omega,by omega⟩ | exact Or.inl ⟨by omega,by omega⟩ | exact Or.inr ⟨by omega,by omega⟩ | (refine apm (aqu (by rfl)) (show _<=1000 by decide)) | ((repeat' apply And.intro) <;> first | rfl | omega | decide | assumption) | (simp [as9]))))
section
variable {P:Program} {w:World} {K:aoZ} {mg:Str->Option Value} {base:Heap} {k:Nat}
theorem alk (F:Def K mg "size" adw pf) (uab:mg "len"=none):FnIn P w K mg base (k+1) "size" pf (spD K 1 (fun (c:List (List Int)×Nat) xs=>xs=[.dat (tab c.1)]/\Good c.2 c.1) fun c r=>r=.tuple [.int c.2,.int c.1.length]):=by
 refine F.ok alf rfl fun fa cdv A outer s H E hr=>⟨_,(zf (zx (zE (za (zu (zO (K:=K) rfl) rfl uab apG (za (zP (zy (K:=K) rfl) (pv 0) zd (fun _ _=>rfl)) zb)) (za (zu (zO (K:=K) rfl) rfl uab apG (za (pv 0) zb)) zb))))),?_⟩
 rintro f xs ⟨rows,wd⟩ hl ⟨rfl,g⟩
 try dsimp only [zI,zj]
 obtain⟨r,rs,rfl⟩:=g.ne
 walk_at "w"
 refine⟨_,qw (j:=0) rfl (by simp),?_⟩
 walk_at "w"
 have hw:=g.row r apa
 show PyData.tuple [.int _,.int _]=_
 rw [aoX,aoX]
 show PyData.tuple [.int (r.length:Nat),_]=_
 rw [hw]
theorem alm (F:Def K mg "fits" ady pB) (uab:mg "len"=none) (uaC:∃ t,mg "FEWEST"=some (.int 2 t)) (uaD:∃ t,mg "MOST"=some (.int 7 t)) :
  FnIn P w K mg base (k+1) "fits" pB (spD K 1 (fun (c:List PyData) xs=>xs=[.dat (.list c)]) fun c r=>r=.bool (decide (2<=c.length/\c.length<=7))):=by
 obtain⟨_,uaC⟩:=uaC
 obtain⟨_,uaD⟩:=uaD
 refine F.ok alg rfl fun fa cdv A outer s H E hr=>⟨_,(zf (zx (abe ab7 ab7 (vK rfl uaC) (zu (zO (K:=K) rfl) rfl uab apG (za (pv 0) zb)) (vK rfl uaD)))),?_⟩
 rintro f xs ds hl rfl
 try dsimp only [zI,zj]
 walk_at "w"
 by_cases h:2<=ds.length
 ·rw [if_pos (by simp;omega)]
  walk_at "w"
  show PyData.bool _=_
  congr 1
  by_cases h7:ds.length<=7 <;> simp [h,h7] <;> omega
 ·rw [if_neg (by simp;omega)]
  show PyData.bool _=_
  congr 1
  simp [h]
theorem ahX (F:Def K mg "is_row" aaa pA) (uag:mg "min"=none) (uai:mg "max"=none) (uaE:∃ t,mg "LEAST"=some (.int (-1000000000) t)) (uaF:∃ t,mg "GREATEST"=some (.int 1000000000 t))
  (uaG:FnIn P w K mg base k "fits" pB (spD K 1 (fun (c:List PyData) xs=>xs=[.dat (.list c)]) fun c r=>r=.bool (decide (2<=c.length/\c.length<=7)))) :
  FnIn P w K mg base (k+1) "is_row" pA (spD K 1 (fun (c:List Int) xs=>xs=[.dat (.list (c.map .int))]) fun c r=>r=.bool (decide (2<=c.length/\c.length<=7/\∀ n∈c,-1000000000<=n/\n<=1000000000))):=by
 obtain⟨_,uaE⟩:=uaE
 obtain⟨_,uaF⟩:=uaF
 refine F.ok ahS rfl fun fa cdv A outer s H E hr=>⟨_,(zf (zx (aan (ze uaG hr rfl (za (pv 0) zb)) (aan (vF ab7 (vK rfl uaE) (zu (acn (K:=K) rfl rfl) rfl uag boot_min (za (pv 0) zb)) (zM _)) (acP (vF ab7 (zu (aco (K:=K) rfl rfl) rfl uai boot_max (za (pv 0) zb)) (vK rfl uaF) (zM _))))))),?_⟩
 rintro f xs c hl rfl
 try dsimp only [zI,zj]
 walk_at "w"
 refine zp (c.map .int) ?_
 walk_at "w"
 rintro r rfl
 rw [aoX]
 walk_at "w"
 by_cases h:2<=c.length/\c.length<=7
 ·have hne:c≠[]:=by rintro rfl;simp at h
  rw [if_pos (by simpa using h)]
  walk_at "w"
  intro M hM hM'
  walk_at "w"
  by_cases h2:-1000000000<=M
  ·rw [if_pos (by simpa using h2)]
   walk_at "w"
   intro M' hN hN'
   walk_at "w"
   show PyData.bool _=_
   congr 1
   rw [decide_eq_decide]
   refine⟨fun q=>⟨h.1,h.2,fun n hn=>⟨Int.le_trans h2 (hM' n hn),Int.le_trans (hN' n hn) q⟩⟩,fun q=>(q.2.2 M' hN).2⟩
  ·rw [if_neg (by simpa using h2)]
   show PyData.bool _=_
   congr 1
   symm
   rw [decide_eq_false_iff_not]
   exact fun q=>h2 (q.2.2 M hM).1
 ·rw [if_neg (by simpa using h)]
  show PyData.bool _=_
  congr 1
  symm
  rw [decide_eq_false_iff_not]
  exact fun q=>h ⟨q.1,q.2.1⟩
abbrev abG (K:aoZ):Sp:=spD K 1 (fun (c:List (List Int)×Nat) xs=>xs=[.dat (tab c.1)]/\Good c.2 c.1) fun _ r=>r=.bool true
theorem anA (F:Def K mg "ask_table" ja pf) (uab:mg "len"=none) (uam:mg "enumerate"=none)
  (uaG:FnIn P w K mg base k "fits" pB (spD K 1 (fun (c:List PyData) xs=>xs=[.dat (.list c)]) fun c r=>r=.bool (decide (2<=c.length/\c.length<=7))))
  (uaQ:FnIn P w K mg base k "is_row" pA (spD K 1 (fun (c:List Int) xs=>xs=[.dat (.list (c.map .int))]) fun c r=>r=.bool (decide (2<=c.length/\c.length<=7/\∀ n∈c,-1000000000<=n/\n<=1000000000)))) :
  FnIn P w K mg base (k+1) "ask_table" pf (abG K):=by
 refine F.ok sc_ask_table rfl fun fa cdv A outer s H E hr=>⟨_,(zc (yb (aam (yg (K:=K) rfl (ze uaG hr rfl (za (pv 0) zb)) (fun _=>rfl))) (zf adT) zH) (zc (jP ap0 rfl (ad9 (K:=K) rfl rfl uam (za (pv 0) zb)) (zQ (K:=K) (n:=2) rfl rfl (zk (zh (i:=1) sc_ask_table.nd rfl (Or.inl rfl) (Or.inr rfl)) (zk (zh (i:=2) sc_ask_table.nd rfl (Or.inl rfl) (Or.inr rfl)) zL))) (zf (yb (PW.pt (aa9 (zG (qB (K:=K) rfl hr.units) (zu (zO (K:=K) rfl) rfl uab apG (za (pv 2) zb)) (zu (zO (K:=K) rfl) rfl uab apG (za (zP (zy (K:=K) rfl) (pv 0) zd (fun _ _=>rfl)) zb)) (zM _)) (aal (aam (yg (K:=K) rfl (ze uaQ hr rfl (za (pv 2) zb)) (fun _=>rfl)))))) (zf adT) zH))) (zf (zx aa7)))),?_⟩
 rintro f xs ⟨rows,wd⟩ hl ⟨rfl,g⟩
 try dsimp only [zI,zj]
 have g1:=g.h1
 have g2:=g.h2
 walk_at "w"
 refine zp (rows.map fun r=>.list (r.map .int)) ?_
 walk_at "w"
 rintro r rfl
 dsimp only at g1 g2
 refine⟨_,rfl,?_⟩
 rw [aoX,decide_eq_true ⟨g1,g2⟩,apJ,if_neg aoY]
 walk_at "w"
 refine afj ?_
 walk_at "w"
 refine⟨fun i ρ=>∃ a b,ρ=[some (.dat (tab rows)),a,b],⟨_,_,rfl⟩,?_,?_⟩
 ·rintro i d ρ hd ⟨a,b,rfl⟩
  rw [ao5] at hd
  cases hr:rows[i]? with
  | none=>rw [hr] at hd;cases hd
  | some r =>
   rw [hr] at hd
   cases hd
   have hm:=ao4 hr
   have hw:=g.row r hm
   obtain⟨r0,rs,hrs⟩:=g.ne
   dsimp only at hrs
   subst hrs
   have hw0:=g.row r0 apa
   walk_at "w"
   refine⟨_,qw (j:=0) rfl (by simp),?_⟩
   walk_at "w"
   dsimp only at hw hw0
   rw [if_pos rfl,aoX,aoX]
   show (if (!(((r.length:Nat):Int) == ((r0.length:Nat):Int)))=true then _ else _)
   rw [hw,hw0,beq_self_eq_true,apJ,if_neg aoY]
   walk_at "w"
   refine zp r ?_
   walk_at "w"
   rintro _ rfl
   refine⟨_,rfl,?_⟩
   have w1:=g.w1
   have w2:=g.w2
   dsimp only at w1 w2
   rw [decide_eq_true ⟨by omega,by omega,g.hgt r hm⟩,apJ,if_neg aoY]
   walk_at "w"
   exact⟨_,_,rfl⟩
 ·rintro ρ ⟨a,b,rfl⟩
  walk_at "w"
  rfl
theorem aln (F:Def K mg "_law_draw" qu pE):FnIn P w K mg base (k+1) "_law_draw" pE (spD K 2 (fun (c:Int) xs=>xs=[.feed,.dat (.int c)]/\0<c/\c<1152921504606846976) fun c r=>∃ i:Int,r=.int i/\0<=i/\i<c):=by
 refine F.ok sc_law_draw rfl fun fa cdv A outer s H E hr=>⟨_,(zc (yb (zG alS (zP (zy (K:=K) rfl) (pv 0) zd (fun _ _=>rfl)) (zt jb zd zd) (zM _)) (zc (zC (i:=2) sc_law_draw.nd rfl (Or.inl rfl) (zt vp (zP (zy (K:=K) rfl) (pv 0) zd (fun _ _=>rfl)) (pv 1))) (zc (yi (zt abp (zP (zy (K:=K) rfl) (pv 0) zd (fun _ _=>rfl)) (pv 1)) (abb (pv 0) zd set_list)) (zf (zx (pv 2))))) zH) (zc (yi (zt vp (zt zT (zt zT (zt vo (zP (zy (K:=K) rfl) (pv 0) zd (fun _ _=>rfl)) zd) (zt vp (zP (zy (K:=K) rfl) (pv 0) zd (fun _ _=>rfl)) zd)) zd) zd) (abb (pv 0) zd set_list)) (zf (zx (zt vp (zt abp (zt vp (zt vo (zP (zy (K:=K) rfl) (pv 0) zd (fun _ _=>rfl)) zd) zd) zd) (pv 1)))))),?_⟩
 rintro f xs c hl ⟨rfl,c0,c1⟩
 try dsimp only [zI,zj]
 walk_at "w"
 split
 ·walk_at "w"
  exact aqr _ c0
 ·walk_at "w"
  exact aqr _ c0
abbrev adF (K:aoZ):Sp:=spD K 2 (fun (c:Int) xs=>xs=[.feed,.dat (.int c)]/\0<c/\c<1152921504606846976) fun c r=>∃ i:Int,r=.int i/\0<=i/\i<c
abbrev aeJ (K:aoZ):Sp:=spD K 3 (fun (c:Int×Int) xs=>xs=[.feed,.dat (.int c.1),.dat (.int c.2)]/\0<=c.1/\c.1<=10/\-1000000000<=c.2/\c.2<=999999991) fun c r=>∃ i:Int,r=.int i/\-1000000000<=i/\i<=1000000000
theorem ahY (F:Def K mg "_law_height" jo pK) (uag:mg "min"=none) (uae:FnIn P w K mg base k "_law_draw" pE (adF K)) :
  FnIn P w K mg base (k+1) "_law_height" pK (aeJ K):=by
 refine F.ok ab1 rfl fun fa cdv A outer s H E hr=>⟨_,(zc (yb (zG ab8 (pv 1) zd (zM _)) (zf (zx (zt zT (pv 2) (ze uae hr rfl (za (pv 0) (za (pv 1) zb)))))) zH) (zf (zx (zu (ab9 rfl) rfl uag boot_min (za (zt jb zd zd) (za (zt yH (zt zT (zt vo (ze uae hr rfl (za (pv 0) (za zd zb))) zd) (ze uae hr rfl (za (pv 0) (za zd zb)))) (zt jb zd zd)) zb)))))),?_⟩
 rintro f xs ⟨far,bs⟩ hl ⟨rfl,c0,c1,c2,c3⟩
 dsimp only at c0 c1 c2 c3
 try dsimp only [zI,zj]
 walk_at "w"
 by_cases h:0<far
 ·rw [if_pos (by simpa using h)]
  walk_at "w"
  refine zp far ?_
  walk_at "w"
  rintro r ⟨i,rfl,h1,h2⟩
  walk_at "w"
  show bs+i<=1000000000
  omega
 ·rw [if_neg (by simpa using h)]
  walk_at "w"
  refine zp 20001 ?_
  walk_at "w"
  rintro r ⟨i,rfl,h1,h2⟩
  walk_at "w"
  refine zp 100000 ?_
  walk_at "w"
  rintro r ⟨j,rfl,h3,h4⟩
  walk_at "w"
  have e9:(10:Int) ^ arh 9=1000000000:=by decide
  rw [e9]
  omega
abbrev agJ (K:aoZ):Sp:=spD K 1 (fun (_:Unit) xs=>xs=[.feed]) fun _ r=>∃ wd rows,r=tab rows/\Good wd rows
theorem menu {ds:List PyData} {i n:Int} (h0:0<=i) (h1:i<n) (hn:n=(ds.length:Int)):∃ d,atI ds i=some d/\d∈ds:=by
 have hi:i.toNat<ds.length:=by omega
 have e:i=((i.toNat:Nat):Int):=by omega
 have q:=yK (aoW hi)
 rw [<-e] at q
 exact⟨_,q,apu hi⟩
theorem agK:∀ {es:List PyData} {p:Int->Prop},(∀ (i:Nat) e,es[i]?=some e->∃ n:Int,e=.int n/\p n)->∃ ns:List Int,es=ns.map .int/\∀ n∈ns,p n
 | [],p,_=>⟨[],rfl,fun n h=>by cases h⟩
 | e :: es,p,h=>by
  obtain⟨n,rfl,hn⟩:=h 0 e rfl
  obtain⟨ns,rfl,hs⟩:=agK (es:=es) (p:=p) fun i e' he=>h (i+1) e' (by simpa using he)
  exact⟨n :: ns,rfl,fun m hm=>by
   rcases ao7.mp hm with rfl | hm
   ·exact hn
   ·exact hs m hm⟩
theorem agL:∀ {es:List PyData} {p:List Int->Prop},(∀ (i:Nat) e,es[i]?=some e->∃ r:List Int,e=.list (r.map .int)/\p r)->∃ rows:List (List Int),es=rows.map (fun r=>.list (r.map .int))/\∀ r∈rows,p r
 | [],p,_=>⟨[],rfl,fun n h=>by cases h⟩
 | e :: es,p,h=>by
  obtain⟨n,rfl,hn⟩:=h 0 e rfl
  obtain⟨ns,rfl,hs⟩:=agL (es:=es) (p:=p) fun i e' he=>h (i+1) e' (by simpa using he)
  exact⟨n :: ns,rfl,fun m hm=>by
   rcases ao7.mp hm with rfl | hm
   ·exact hn
   ·exact hs m hm⟩
theorem ajR (F:Def K mg "_law_table" jM pR) (uad:mg "range"=none) (uae:FnIn P w K mg base k "_law_draw" pE (adF K)) (ubX:FnIn P w K mg base k "_law_height" pK (aeJ K)) :
  FnIn P w K mg base (k+1) "_law_table" pR (agJ K):=by
 refine F.ok sc_law_table rfl fun fa cdv A outer s H E hr=>⟨_,(zc (zC (i:=1) sc_law_table.nd rfl (Or.inr rfl) (zt zT zd (ze uae hr rfl (za (pv 0) (za zd zb))))) (zc (zC (i:=2) sc_law_table.nd rfl (Or.inl rfl) (zt zT zd (ze uae hr rfl (za (pv 0) (za zd zb))))) (zc (zC (i:=3) sc_law_table.nd rfl (Or.inr rfl) (zP (zy (K:=K) rfl) (z8 (za zd (za zd (za zd (za zd (za zd (za zd (za zd zb)))))))) (ze uae hr rfl (za (pv 0) (za zd zb))) (fun _ _=>rfl))) (zc (zC (i:=4) sc_law_table.nd rfl (Or.inr rfl) (zP (zy (K:=K) rfl) (z8 (za zd (za (zt yH zd zd) (za (zt yH (zt jb zd zd) zd) (za (zt yH zd (zt jb zd zd)) zb))))) (ze uae hr rfl (za (pv 0) (za zd zb))) (fun _ _=>rfl))) (zf (zx (ya (N:=qc) (own:=1) (fr:=[0,1,3,4]) ⟨rfl,by decide +kernel,of_decide_eq_true (by kernel_rfl),of_decide_eq_true (by kernel_rfl),of_decide_eq_true (by kernel_rfl),rfl⟩ rfl (yM rfl uad (za (pv 2) zb)) (fun _ _ _ _=>(zh (i:=0) (show (qc:List Str).Nodup by decide +kernel) rfl (Or.inl rfl) (Or.inr rfl))) (fun _ _ _ _=>z7) (fun _ _ _ _=>(ya (N:=qd) (own:=1) (fr:=[1,3,4]) ⟨rfl,by decide +kernel,of_decide_eq_true (by kernel_rfl),of_decide_eq_true (by kernel_rfl),of_decide_eq_true (by kernel_rfl),rfl⟩ rfl (yM rfl uad (za (pv 2) zb)) (fun _ _ _ _=>(zh (i:=0) (show (qd:List Str).Nodup by decide +kernel) rfl (Or.inl rfl) (Or.inr rfl))) (fun _ _ _ _=>z7) (fun _ _ _ _=>(ze ubX hr rfl (za (pv 1) (za (pv 2) (za (pv 3) zb))))) rfl rfl (fun _=>rfl))) rfl rfl (fun _=>rfl)))))))),?_⟩
 rintro f xs ⟨⟩ hl rfl
 try dsimp only [zI,zj]
 walk_at "w"
 refine zp 6 ?_
 walk_at "w"
 rintro r ⟨i1,rfl,h1,h2⟩
 walk_at "w"
 refine zp 6 ?_
 walk_at "w"
 rintro r ⟨i2,rfl,h3,h4⟩
 walk_at "w"
 refine zp 7 ?_
 walk_at "w"
 rintro r ⟨i3,rfl,h5,h6⟩
 refine⟨_,rfl,?_⟩
 obtain⟨d3,e3,m3⟩:=menu (ds:=[.int 2,.int 3,.int 5,.int 10,.int 2,.int 3,.int 0]) h5 h6 (by simp)
 obtain⟨far,rfl,f0,f1⟩:∃ n:Int,d3=.int n/\0<=n/\n<=10:=by
  simp only [ao7,aqa,or_false] at m3
  rcases m3 with rfl | rfl | rfl | rfl | rfl | rfl | rfl <;> exact⟨_,rfl,by decide,by decide⟩
 refine⟨_,e3,?_⟩
 walk_at "w"
 refine zp 4 ?_
 walk_at "w"
 rintro r ⟨i4,rfl,h7,h8⟩
 refine⟨_,rfl,?_⟩
 obtain⟨d4,e4,m4⟩:=menu (ds:=[.int 0,.int (0 - 3),.int (10 ^ arh 9 - 9),.int (0 - 10 ^ arh 9)]) h7 h8 (by simp)
 obtain⟨bs,rfl,b0,b1⟩:∃ n:Int,d4=.int n/\-1000000000<=n/\n<=999999991:=by
  simp only [ao7,aqa,or_false] at m4
  rcases m4 with rfl | rfl | rfl | rfl <;> exact⟨_,rfl,by decide,by decide⟩
 refine⟨_,e4,?_⟩
 walk_at "w"
 refine ad6 ?_
 walk_at "w"
 refine⟨fun _ e=>∃ r:List Int,e=.list (r.map .int)/\r.length=(2+i1).toNat/\∀ n∈r,-1000000000<=n/\n<=1000000000,fun D i hi=>?_,fun es hes hR=>?_⟩
 ·refine ad6 ?_
  walk_at "w"
  refine⟨fun _ e=>∃ n:Int,e=.int n/\-1000000000<=n/\n<=1000000000,fun D' i' hi'=>?_,fun es hes hR=>?_⟩
  ·refine zp (far,bs) ?_
   walk_at "w"
   rintro r ⟨n,rfl,n0,n1⟩
   exact⟨n,rfl,n0,n1⟩
  ·obtain⟨ns,rfl,hs⟩:=agK (p:=fun n=>-1000000000<=n/\n<=1000000000) hR
   exact⟨ns,rfl,by rw [aoX] at hes;exact hes,hs⟩
 ·obtain⟨rows,rfl,hs⟩:=agL (p:=fun r=>r.length=(2+i1).toNat/\∀ n∈r,-1000000000<=n/\n<=1000000000) hR
  rw [aoX] at hes
  exact⟨(2+i1).toNat,rows,rfl,by omega,by omega,by omega,by omega,fun r hr=>(hs r hr).1,fun r hr=>(hs r hr).2⟩
local macro_rules | `(tactic| walk_at "dl")=>`(tactic| first
 | (with_reducible show PSd _ _ (qe _ (acQ (z6 _) (tC (V.int 0)) aaD)) _ _;refine agc rfl ?_)
 | (with_reducible show PSd _ _ (qe _ (acQ (z6 _) (tC (V.int 1)) aaD)) _ _;refine agd rfl ?_)
 | with_reducible refine zV ?_ | with_reducible refine vJ ?_ | with_reducible refine yc ?_ | with_reducible refine zN ?_ | with_reducible refine qA ?_ | with_reducible refine jh ?_
 | with_reducible refine zi ?_ | with_reducible refine yF rfl ?_ | with_reducible refine zv ?_ | with_reducible refine z4 ?_
 | with_reducible refine yI ?_ | with_reducible refine t_b ?_ | with_reducible refine aix ?_ | with_reducible refine akC ?_ | with_reducible refine ack ?_ | with_reducible refine jx ?_
 | with_reducible refine aga ?_ | with_reducible refine acj ?_ | with_reducible refine abk ?_ | with_reducible refine yP ?_ | with_reducible refine vI ?_
 | with_reducible refine akD ?_ | with_reducible refine abm ?_ | with_reducible refine d_orV ?_ | with_reducible refine afg ?_
 | with_reducible refine jw ?_ | with_reducible refine amJ ?_ | with_reducible refine aaH ?_ | with_reducible refine aiu ?_
 | (with_reducible show PEd _ _ (z6 _) _ _;refine zo rfl ?_)
 | (with_reducible show PEd _ _ (tOp (vH _) (z6 _) _) _ _;refine alW rfl ?_)
 | with_reducible refine abl ?_ | with_reducible refine aiv ?_
 | (with_reducible show PAd _ _ (zY (z6 _) _) _ _;refine afe rfl ?_)
 | with_reducible refine zB ?_ | with_reducible refine yk ?_
 | with_reducible refine d_catT ?_ | with_reducible refine al0 ?_ | with_reducible refine alY ?_ | with_reducible refine alZ ?_ | with_reducible refine d_int1 ?_ | with_reducible refine age ?_ | with_reducible refine y7 ?_
 | with_reducible refine y6 ?_ | with_reducible refine aiw ?_ | with_reducible refine alX ?_ | with_reducible refine afh ?_ | with_reducible refine afi ?_ | with_reducible refine aiy ?_ | with_reducible refine aiz ?_
 | (with_reducible show (∃ _,_) \/ (∃ _,_);first | refine Or.inl ⟨_,rfl,?_⟩ | refine Or.inr ⟨_,rfl,?_⟩) | refine⟨_,rfl,?_⟩ | refine⟨_,_,rfl,?_⟩
 | (with_reducible show (_=_/\∀ _,_) \/ _;first | refine Or.inl ⟨rfl,fun a ha=>?_⟩ | refine Or.inr ⟨rfl,fun b hb hb'=>?_⟩)
 | (with_reducible show PyData.canLay0 _=true/\_;refine And.intro (by first | rfl | assumption | decide +kernel) ?_)
 | (with_reducible show min _ _<=60/\_;refine And.intro (by first | assumption | (simp [as9,apb];done)) ?_)
 | refine⟨rfl,?_⟩
 | (refine And.intro ?side ?_;(case side=>first | omega | exact Int.ediv_nonneg (by omega) (by omega) | exact arM _ (by omega) | exact aqr _ (by omega) | decide | exact⟨by decide,by decide,by decide⟩ | exact⟨by omega,by omega⟩ | exact Or.inl ⟨by omega,by omega⟩ | exact Or.inr ⟨by omega,by omega⟩ | (refine apm (aqu (by rfl)) (show _<=1000 by decide)) | ((repeat' apply And.intro) <;> first | rfl | omega | decide | assumption) | (simp [as9]))))
theorem yB {b:Bool} {p q:Prop} (h1:b=true->p) (h2:b=false->q):if b=true then p else q:=by
 cases b with
 | true=>rw [if_pos rfl];exact h1 rfl
 | false=>rw [if_neg aoY];exact h2 rfl
def z5 (rows:List (List Int)) (wd:Nat) (x y:Int):Bool:=decide (0<=x/\x<wd) && decide (0<=y/\y<rows.length)
def zD (rows:List (List Int)) (x y:Int):Int:=(rows.getD y.toNat []).getD x.toNat 0
theorem jA {rows:List (List Int)} {wd:Nat} {x y:Int} (h:z5 rows wd x y=true):0<=x/\x<wd/\0<=y/\y<rows.length:=by
 unfold z5 at h
 rw [ao8] at h
 have h1:=of_decide_eq_true h.1
 have h2:=of_decide_eq_true h.2
 omega
def jO (x y w:Int):PyData:=.tuple [.int x,.int y,.int w]
def px (x:Int) (w:Int):Int:=if w=0 then x+1 else x
def py (y:Int) (w:Int):Int:=if w=0 then y else y+1
def ve (rows:List (List Int)) (wd:Nat) (x y w:Int):Bool:=decide (w=0 \/ w=1) && (z5 rows wd x y && z5 rows wd (px x w) (py y w))
def yq (rows:List (List Int)) (wd:Nat) (cut x y w:Int):Bool:=ve rows wd x y w && (decide (cut<zD rows x y) != decide (cut<zD rows (px x w) (py y w)))
def acD (rows:List (List Int)) (cut x y w:Int):Str:=if w=0 then (if cut<zD rows x y then "up" else "down") else (if cut<zD rows x y then "right" else "left")
theorem aac (a b:Int):apD (.int a) (.int b)=decide (a=b):=rfl
theorem aeK (a b:Bool):apD (.bool a) (.bool b)=(a == b):=rfl
abbrev ajS (K:aoZ):Sp:=spD K 1 (fun (c:List (List Int)×Nat) xs=>xs=[.dat (tab c.1)]/\Good c.2 c.1) fun c r=>r=.tuple [.int c.2,.int c.1.length]
abbrev agM (K:aoZ):Sp:=spD K 3 (fun (c:List (List Int)×Nat×Int×Int) xs=>xs=[.dat (tab c.1),.dat (.int c.2.2.1),.dat (.int c.2.2.2)]/\Good c.2.1 c.1) fun c r=>r=.bool (z5 c.1 c.2.1 c.2.2.1 c.2.2.2)
theorem anB (F:Def K mg "has_point" jI pq) (uaR:FnIn P w K mg base k "size" pf (ajS K)):FnIn P w K mg base (k+1) "has_point" pq (agM K):=by
 refine F.ok sc_has_point rfl fun fa cdv A outer s H E hr=>⟨_,(zc (yi (ze uaR hr rfl (za (pv 0) zb)) (zQ (K:=K) (n:=2) rfl rfl (zk (zh (i:=3) sc_has_point.nd rfl (Or.inl rfl) (Or.inr rfl)) (zk (zh (i:=4) sc_has_point.nd rfl (Or.inl rfl) (Or.inr rfl)) zL)))) (zf (zx (aan (abe ab7 abd zd (pv 1) (pv 3)) (acP (abe ab7 abd zd (pv 2) (pv 4))))))),?_⟩
 rintro f xs ⟨rows,wd,x,y⟩ hl ⟨rfl,g⟩
 try dsimp only [zI,zj]
 dsimp only at *
 refine zV (zN (zp (rows,wd) ?_))
 walk_at "w"
 rintro _ rfl
 walk_at "w"
 have fin:∀ b:Bool,b=z5 rows wd x y->PyData.bool b=PyData.bool (z5 rows wd x y):=fun b h=>by rw [h]
 refine yB (fun h1=>?_) fun h1=>?_
 ·have h1':=of_decide_eq_true h1
  walk_at "w"
  refine yB (fun h2=>?_) fun h2=>?_
  ·have h2':=of_decide_eq_true h2
   walk_at "w"
   refine yB (fun h3=>?_) fun h3=>?_
   ·have h3':=of_decide_eq_true h3
    walk_at "w"
    refine fin _ ?_
    unfold z5
    dsimp only at h2' ⊢
    rw [decide_eq_true (p:=(0<=x/\x<(wd:Int))) (by omega),arF]
    exact decide_eq_decide.mpr (by omega)
   ·have h3':=of_decide_eq_false h3
    refine fin _ ?_
    unfold z5
    rw [decide_eq_false (p:=(0<=y/\y<(rows.length:Int))) (by omega),aqY]
  ·have h2':=of_decide_eq_false h2
   refine fin _ ?_
   unfold z5
   dsimp only at h2'
   rw [decide_eq_false (p:=(0<=x/\x<(wd:Int))) (by omega),aqT]
 ·have h1':=of_decide_eq_false h1
  refine⟨_,rfl,?_⟩
  rw [if_neg aoY]
  refine fin _ ?_
  unfold z5
  rw [decide_eq_false (p:=(0<=x/\x<(wd:Int))) (by omega),aqT]
abbrev adG (K:aoZ):Sp:=spD K 3 (fun (c:List (List Int)×Nat×Int×Int×Int) xs=>xs=[.dat (tab c.1),.dat (.int c.2.2.1),.dat (.tuple [.int c.2.2.2.1,.int c.2.2.2.2])]/\Good c.2.1 c.1/\z5 c.1 c.2.1 c.2.2.2.1 c.2.2.2.2=true) fun c r=>r=.bool (decide (c.2.2.1<zD c.1 c.2.2.2.1 c.2.2.2.2))
theorem abH {rows:List (List Int)} {wd:Nat} {x y:Int} (g:Good wd rows) (h:z5 rows wd x y=true):∃ r:List Int,atI (rows.map fun q=>PyData.list (q.map .int)) y=some (.list (r.map .int))/\atI (r.map PyData.int) x=some (.int (zD rows x y)):=by
 obtain⟨x0,x1,y0,y1⟩:=jA h
 have hy:y.toNat<rows.length:=by omega
 have hr:=g.row _ (apu hy)
 have hx:x.toNat<rows[y.toNat].length:=by omega
 refine⟨rows[y.toNat],qw (F:=fun q:List Int=>PyData.list (q.map .int)) (by omega) hy,?_⟩
 rw [qw (j:=x.toNat) (by omega) hx]
 unfold zD
 rw [ao0,ao0,aoW hy,Option.getD_some,aoW hx]
 rfl
theorem alo (F:Def K mg "stands_high" yY pH):FnIn P w K mg base (k+1) "stands_high" pH (adG K):=by
 refine F.ok sc_stands_high rfl fun fa cdv A outer s H E hr=>⟨_,(zc (yi (pv 2) (zQ (K:=K) (n:=2) rfl rfl (zk (zh (i:=3) sc_stands_high.nd rfl (Or.inl rfl) (Or.inr rfl)) (zk (zh (i:=4) sc_stands_high.nd rfl (Or.inl rfl) (Or.inr rfl)) zL)))) (zf (zx (vF ab8 (zP (zy (K:=K) rfl) (zP (zy (K:=K) rfl) (pv 0) (pv 4) (fun _ _=>rfl)) (pv 3) (fun _ _=>rfl)) (pv 1) (zM _))))),?_⟩
 rintro f xs ⟨rows,wd,cut,x,y⟩ hl ⟨rfl,g,hi⟩
 try dsimp only [zI,zj]
 dsimp only at *
 obtain⟨r,h1,h2⟩:=abH g hi
 unfold tab
 walk_at "w"
 refine⟨_,h1,?_⟩
 walk_at "w"
 refine⟨_,h2,?_⟩
 walk_at "w"
 rfl
abbrev agN (K:aoZ):Sp:=spD K 1 (fun (c:Int×Int×Int) xs=>xs=[.dat (jO c.1 c.2.1 c.2.2)]) fun c r=>r=.list [.tuple [.int c.1,.int c.2.1],.tuple [.int (px c.1 c.2.2),.int (py c.2.1 c.2.2)]]
theorem anC (F:Def K mg "gate_points" yZ ["gate"]):FnIn P w K mg base (k+1) "gate_points" ["gate"] (agN K):=by
 refine F.ok sc_gate_points rfl fun fa cdv A outer s H E hr=>⟨_,(zc (yi (pv 0) (zQ (K:=K) (n:=3) rfl rfl (zk (zh (i:=1) sc_gate_points.nd rfl (Or.inl rfl) (Or.inr rfl)) (zk (zh (i:=2) sc_gate_points.nd rfl (Or.inl rfl) (Or.inr rfl)) (zk (zh (i:=3) sc_gate_points.nd rfl (Or.inl rfl) (Or.inr rfl)) zL))))) (zc (yb (zG (qi (K:=K) rfl hr.units) (pv 3) zd (zM _)) (zf (zx (z8 (za (zE (za (pv 1) (za (pv 2) zb))) (za (zE (za (zt zT (pv 1) zd) (za (pv 2) zb))) zb))))) zH) (zf (zx (z8 (za (zE (za (pv 1) (za (pv 2) zb))) (za (zE (za (pv 1) (za (zt zT (pv 2) zd) zb))) zb))))))),?_⟩
 rintro f xs ⟨x,y,w⟩ hl rfl
 try dsimp only [zI,zj]
 dsimp only at *
 unfold jO
 walk_at "w"
 rw [if_neg aoY,aac]
 refine yB (fun h=>?_) fun h=>?_
 ·have h':=of_decide_eq_true h
  walk_at "w"
  unfold px py
  rw [if_pos h',if_pos h']
 ·have h':=of_decide_eq_false h
  walk_at "w"
  unfold px py
  rw [if_neg h',if_neg h']
abbrev ajT (K:aoZ):Sp:=spD K 2 (fun (c:List (List Int)×Nat×Int×Int×Int) xs=>xs=[.dat (tab c.1),.dat (jO c.2.2.1 c.2.2.2.1 c.2.2.2.2)]/\Good c.2.1 c.1) fun c r=>r=.bool (ve c.1 c.2.1 c.2.2.1 c.2.2.2.1 c.2.2.2.2)
theorem alp (F:Def K mg "has_gate" qo pJ) (uan:mg "all"=none) (uao:FnIn P w K mg base k "has_point" pq (agM K)) (uaH:FnIn P w K mg base k "gate_points" ["gate"] (agN K)):FnIn P w K mg base (k+1) "has_gate" pJ (ajT K):=by
 refine F.ok aeE rfl fun fa cdv A outer s H E hr=>⟨_,(zc (yb (zG (ahn (K:=K) rfl) (zP (qT (K:=K) rfl) (pv 1) zd (fun _ _=>rfl)) (zE (za zd (za zd zb))) rfl) (zf (zx aa7)) zH) (zf (zx (zu (acq (K:=K) rfl rfl) rfl uan asH (za (ya (N:=pL) (own:=2) (fr:=[0]) ⟨rfl,by decide +kernel,of_decide_eq_true (by kernel_rfl),of_decide_eq_true (by kernel_rfl),of_decide_eq_true (by kernel_rfl),rfl⟩ rfl (zS (K:=K) rfl (ze uaH hr rfl (za (pv 1) zb))) (fun _ _ _ _=>(zQ (K:=K) (n:=2) rfl rfl (zk (zh (i:=0) (show (pL:List Str).Nodup by decide +kernel) rfl (Or.inl rfl) (Or.inr rfl)) (zk (zh (i:=1) (show (pL:List Str).Nodup by decide +kernel) rfl (Or.inl rfl) (Or.inr rfl)) zL)))) (fun _ _ _ _=>z7) (fun _ _ _ _=>(ze uao hr rfl (za (pv 2) (za (pv 0) (za (pv 1) zb))))) rfl rfl (fun _=>rfl)) zb))))),?_⟩
 rintro f xs ⟨rows,wd,x,y,w⟩ hl ⟨rfl,g⟩
 try dsimp only [zI,zj]
 dsimp only at *
 refine zV (vJ (yI (aiM ?_)))
 unfold jO
 walk_at "w"
 refine⟨[0,1],rfl,_,rfl,?_⟩
 have hc:(([0,1]:List Int).contains w)=decide (w=0 \/ w=1):=by
  rw [asD]
  simp
 rw [hc]
 by_cases h:w=0 \/ w=1
 ·rw [decide_eq_true h,apJ,if_neg aoY]
  refine jh (yc (al1 (PEdO.ped (vN (A:=fun p:Int×Int=>PyData.tuple [.int p.1,.int p.2]) (B:=fun p:Int×Int=>PyData.bool (z5 rows wd p.1 p.2)) [(x,y),(px x w,py y w)] (yu (zp (x,y,w) ?_))))))
  walk_at "w"
  rintro _ rfl
  refine⟨_,rfl,rfl,show 2<=1000 by decide,?_,?_⟩
  ·rintro D p ρ' es hp ho hes
   obtain⟨u,v,rfl⟩:=ho.two
   refine yF rfl (zv (zi (zv (zi (z4 (y7 ?_))))))
   rw [if_pos rfl]
   refine yC hes (zp (rows,wd,p.1,p.2) ?_)
   walk_at "w"
   rintro _ rfl
   exact⟨.mk2,rfl⟩
  ·refine⟨[z5 rows wd x y,z5 rows wd (px x w) (py y w)],rfl,?_⟩
   show PyData.bool _=PyData.bool _
   unfold ve
   rw [decide_eq_true h,arF]
   show PyData.bool (z5 rows wd x y && (z5 rows wd (px x w) (py y w) && true))=_
   rw [Bool.and_true]
 ·rw [decide_eq_false h,aqE,if_pos rfl]
  walk_at "w"
  unfold ve
  rw [decide_eq_false h]
  rfl
abbrev adH (K:aoZ):Sp:=spD K 3 (fun (c:List (List Int)×Nat×Int×Int×Int×Int) xs=>xs=[.dat (tab c.1),.dat (.int c.2.2.1),.dat (jO c.2.2.2.1 c.2.2.2.2.1 c.2.2.2.2.2)]/\Good c.2.1 c.1) fun c r=>r=.bool (yq c.1 c.2.1 c.2.2.1 c.2.2.2.1 c.2.2.2.2.1 c.2.2.2.2.2)
theorem qK {rows:List (List Int)} {wd:Nat} {x y w:Int} (h:ve rows wd x y w=true):z5 rows wd x y=true/\z5 rows wd (px x w) (py y w)=true:=by
 unfold ve at h
 rw [ao8,ao8] at h
 exact h.2
theorem alq (F:Def K mg "is_open" qW ph) (ubY:FnIn P w K mg base k "has_gate" pJ (ajT K)) (uaH:FnIn P w K mg base k "gate_points" ["gate"] (agN K)) (uap:FnIn P w K mg base k "stands_high" pH (adG K)):FnIn P w K mg base (k+1) "is_open" ph (adH K):=by
 refine F.ok sc_is_open rfl fun fa cdv A outer s H E hr=>⟨_,(zc (yb (aam (yg (K:=K) rfl (ze ubY hr rfl (za (pv 0) (za (pv 2) zb))) (fun _=>rfl))) (zf (zx aa7)) zH) (zc (yi (ze uaH hr rfl (za (pv 2) zb)) (ac5 (K:=K) (n:=2) rfl rfl (zk (zh (i:=3) sc_is_open.nd rfl (Or.inl rfl) (Or.inr rfl)) (zk (zh (i:=4) sc_is_open.nd rfl (Or.inl rfl) (Or.inr rfl)) zL)))) (zf (zx (vF (qB (K:=K) rfl hr.units) (ze uap hr rfl (za (pv 0) (za (pv 1) (za (pv 3) zb)))) (ze uap hr rfl (za (pv 0) (za (pv 1) (za (pv 4) zb)))) (zM _)))))),?_⟩
 rintro f xs ⟨rows,wd,cut,x,y,w⟩ hl ⟨rfl,g⟩
 try dsimp only [zI,zj]
 dsimp only at *
 refine zV (vJ (ack (jx (zp (rows,wd,x,y,w) ?_))))
 walk_at "w"
 rintro _ rfl
 refine⟨_,rfl,?_⟩
 dsimp only
 cases h:ve rows wd x y w with
 | false =>
  rw [aqE,if_pos rfl]
  walk_at "w"
  unfold yq
  rw [h]
  rfl
 | true =>
  rw [apJ,if_neg aoY]
  obtain⟨i1,i2⟩:=qK h
  refine jh (zV (zN (zp (x,y,w) ?_)))
  walk_at "w"
  rintro _ rfl
  dsimp only
  refine aiL rfl (zv (zi (zv (zi (z4 ?_)))))
  refine yc (vI (zp (rows,wd,cut,x,y) ?_))
  walk_at "w"
  rintro _ rfl
  refine zp (rows,wd,cut,px x w,py y w) ?_
  walk_at "w"
  rintro _ rfl
  dsimp only
  walk_at "w"
  show PyData.bool _=PyData.bool _
  unfold yq
  rw [h,arF,if_pos rfl,aeK]
  rfl
theorem qL {n i:Nat} {d:PyData} (h:(qC n)[i]?=some d):i<n/\d=.int (i:Int):=by
 unfold qC at h
 rw [ao5] at h
 by_cases hi:i<n
 ·rw [aqz hi] at h
  cases h
  exact⟨hi,rfl⟩
 ·rw [apt (by rw [apW];omega)] at h
  cases h
theorem aax (n:Nat):(qC n).length=n:=by unfold qC;simp
def alr (x y:Nat):PyData:=.tuple [.int x,.int y]
def j7 (t n:Nat):List PyData:=(apj n).flatMap fun x=>(apj t).map (alr x)
theorem aeL (t n:Nat):j7 t (n+1)=j7 t n++(apj t).map (alr n):=by
 unfold j7
 rw [arQ,aqe]
 simp
theorem adI (t:Nat):∀ n,(j7 t n).length=t * n
 | 0=>rfl
 | n+1=>by rw [aeL,api,adI t n,aoX,apW,Nat.mul_succ]
abbrev aad (K:aoZ):Sp:=spD K 1 (fun (c:List (List Int)×Nat) xs=>xs=[.dat (tab c.1)]/\Good c.2 c.1) fun c r=>r=.list (j7 c.1.length c.2)
theorem ahZ (F:Def K mg "points" v8 pf) (uad:mg "range"=none) (uaR:FnIn P w K mg base k "size" pf (ajS K)):FnIn P w K mg base (k+1) "points" pf (aad K):=by
 refine F.ok sc_points rfl fun fa cdv A outer s H E hr=>⟨_,(zc (yi (ze uaR hr rfl (za (pv 0) zb)) (zQ (K:=K) (n:=2) rfl rfl (zk (zh (i:=1) sc_points.nd rfl (Or.inl rfl) (Or.inr rfl)) (zk (zh (i:=2) sc_points.nd rfl (Or.inr rfl) (Or.inl rfl)) zL)))) (zf (zx (ad3 (N:=["x","y","tall"]) (own:=2) (fr:=[2]) ⟨rfl,by decide +kernel,of_decide_eq_true (by kernel_rfl),of_decide_eq_true (by kernel_rfl),of_decide_eq_true (by kernel_rfl),rfl⟩ rfl (yM rfl uad (za (pv 1) zb)) (fun _ _ _ _=>(zh (i:=0) (show (["x","y","tall"]:List Str).Nodup by decide +kernel) rfl (Or.inl rfl) (Or.inr rfl))) (fun _ _ _ _=>z7) (fun _ _ _ _=>(yM rfl uad (za (pv 2) zb))) (fun _ _ _ _=>(zh (i:=1) (show (["x","y","tall"]:List Str).Nodup by decide +kernel) rfl (Or.inl rfl) (Or.inr rfl))) (fun _ _ _ _=>z7) (fun _ _ _ _=>(zE (za (pv 0) (za (pv 1) zb)))) rfl rfl (fun _=>rfl) (fun _ _ _ _ _=>rfl))))),?_⟩
 rintro f xs ⟨rows,wd⟩ hl ⟨rfl,g⟩
 try dsimp only [zI,zj]
 dsimp only at *
 have g2:=g.h2
 have w2:=g.w2
 refine zV (zN (zp (rows,wd) ?_))
 walk_at "w"
 rintro _ rfl
 refine yF rfl (zv (zi (zv (zi (z4 ?_)))))
 refine yc (PEdO.ped (qD (vL (zB (zo rfl (yk ⟨_,rfl,by dsimp only;omega,by dsimp only;omega,fun n ρ es=>(∃ u v,ρ=[u,v,some (.dat (.int rows.length))])/\es=j7 rows.length n,⟨⟨_,_,rfl⟩,rfl⟩,?_,?_⟩))))))
 ·rintro D n d ρ' es hd ⟨⟨u,v,rfl⟩,rfl⟩
  obtain⟨hn,rfl⟩:=qL hd
  have hn':n<wd:=by have:n<((wd:Int)).toNat:=hn;omega
  have l1:rows.length * n<=7 * 7:=aq0 g2 (by omega)
  refine zi (y7 ?_)
  rw [if_pos rfl]
  refine amP (vL (zB (zo rfl (yk ⟨_,rfl,by omega,by omega,fun m ρ es=>(∃ v,ρ=[some (.dat (.int n)),v,some (.dat (.int rows.length))])/\es=j7 rows.length n++(apj m).map (alr n),⟨⟨_,rfl⟩,by simp⟩,?_,?_⟩))))
  ·rintro m d ρ2 es2 hd2 ⟨⟨v,rfl⟩,rfl⟩
   obtain⟨hm,rfl⟩:=qL hd2
   have hm':m<rows.length:=by have:m<((rows.length:Int)).toNat:=hm;omega
   refine zi (y7 ?_)
   rw [if_pos rfl]
   refine yC (by rw [api,adI,aoX,apW];omega) ?_
   walk_at "w"
   rw [arQ,apv,aqQ]
   rfl
  ·rintro ρ2 es2 ⟨⟨v,rfl⟩,rfl⟩
   rw [aax,aqR]
   exact⟨⟨_,_,rfl⟩,by rw [aeL]⟩
 ·rintro ρ' es ⟨_,rfl⟩
  rw [aax,aqR]
def F2:PyData->List PyData
 | .tuple [.int x,.int y]=>[jO x y 0,jO x y 1]
 | _=>[]
def gD3 (g:Int×Int×Int):PyData:=jO g.1 g.2.1 g.2.2
def opG (rows:List (List Int)) (wd:Nat) (cut:Int) (g:Int×Int×Int):Bool:=yq rows wd cut g.1 g.2.1 g.2.2
def yJ (t n:Nat):List (Int×Int×Int):=(apj n).flatMap fun (x:Nat)=>(apj t).flatMap fun (y:Nat)=>[((x:Int),(y:Int),(0:Int)),((x:Int),(y:Int),(1:Int))]
theorem aeM (t n:Nat):(j7 t n).flatMap F2=(yJ t n).map gD3:=by
 unfold j7 yJ
 rw [List.flatMap_assoc,asu]
 congr 1
 funext x
 rw [List.flatMap_map,asu]
 rfl
theorem als {t n:Nat} {d:PyData} (h:d∈j7 t n):∃ x y:Nat,d=alr x y:=by
 obtain⟨x,_,h⟩:=apL.mp h
 obtain⟨y,_,rfl⟩:=apy.mp h
 exact⟨x,y,rfl⟩
theorem abI {α:Type} {F:Nat->List α} {b:Nat} (h:∀ n,(F n).length<=b):∀ n,((apj n).flatMap F).length<=b * n
 | 0=>by simp
 | n+1=>by
  rw [arQ,aqe,api]
  have:=abI h n
  have:=h n
  simp only [List.flatMap_cons,List.flatMap_nil,apB]
  rw [Nat.mul_succ]
  omega
theorem acE {t n:Nat} (ht:t<=7) (hn:n<=7):(yJ t n).length<=98:=by
 have h:=abI (F:=fun (x:Nat)=>(apj t).flatMap fun (y:Nat)=>[((x:Int),(y:Int),(0:Int)),((x:Int),(y:Int),(1:Int))]) (b:=2 * t) (fun x=>abI (F:=fun (y:Nat)=>[((x:Int),(y:Int),(0:Int)),((x:Int),(y:Int),(1:Int))]) (b:=2) (fun y=>ao6 2) t) n
 exact apm h (aq0 (show 2 * t<=14 by omega) hn)
def anD (rows:List (List Int)) (wd:Nat) (cut:Int) (x y:Nat):List (Int×Int×Int):=(if yq rows wd cut x y 0=true then [((x:Int),(y:Int),(0:Int))] else [])++if yq rows wd cut x y 1=true then [((x:Int),(y:Int),(1:Int))] else []
def yd (rows:List (List Int)) (wd:Nat) (cut:Int):List (Int×Int×Int):=(apj wd).flatMap fun x=>(apj rows.length).flatMap fun y=>anD rows wd cut x y
theorem ah0 {α:Type} {F:Nat->List α} (n:Nat):(apj (n+1)).flatMap F=(apj n).flatMap F++F n:=by
 rw [arQ,aqe]
 simp
theorem alu (rows:List (List Int)) (wd:Nat) (cut:Int) (x y:Nat):anD rows wd cut x y=[((x:Int),(y:Int),(0:Int)),((x:Int),(y:Int),(1:Int))].filter (opG rows wd cut):=by
 unfold anD opG
 simp only [apV,asE]
 cases yq rows wd cut x y 0 <;> cases yq rows wd cut x y 1 <;> rfl
theorem qM (rows:List (List Int)) (wd:Nat) (cut:Int):yd rows wd cut=(yJ rows.length wd).filter (opG rows wd cut):=by
 unfold yd yJ
 rw [as0]
 congr 1
 funext x
 rw [as0]
 congr 1
 funext y
 exact alu rows wd cut x y
def gLt (a b:Int×Int×Int):Prop:=a.1<b.1 \/ (a.1=b.1/\(a.2.1<b.2.1 \/ (a.2.1=b.2.1/\a.2.2<b.2.2)))
theorem agO {α:Type} {R:α->α->Prop} {F:Nat->List α} (n:Nat) (h1:∀ i,i<n->(F i).Pairwise R) (h2:∀ i j,i<j->j<n->∀ a∈F i,∀ b∈F j,R a b):((apj n).flatMap F).Pairwise R:=by
 induction n with
 | zero=>simp
 | succ n ih =>
  rw [ah0,List.pairwise_append]
  refine⟨ih (fun i hi=>h1 i (by omega)) (fun i j hij hj=>h2 i j hij (by omega)),h1 n (by omega),fun a ha b hb=>?_⟩
  obtain⟨i,hi,ha⟩:=apL.mp ha
  exact h2 i n (apr.mp hi) (by omega) a ha b hb
theorem aeN (t n:Nat):(yJ t n).Pairwise gLt:=by
 unfold yJ
 refine agO n (fun x _=>agO t (fun y _=>?_) fun y y' hy _ a ha b hb=>?_) fun x x' hx _ a ha b hb=>?_
 ·simp [gLt]
 ·simp only [ao7,aqa,or_false] at ha hb
  rcases ha with rfl | rfl <;> rcases hb with rfl | rfl <;> (unfold gLt;dsimp only;omega)
 ·obtain⟨y,_,ha⟩:=apL.mp ha
  obtain⟨y',_,hb⟩:=apL.mp hb
  simp only [ao7,aqa,or_false] at ha hb
  rcases ha with rfl | rfl <;> rcases hb with rfl | rfl <;> (unfold gLt;dsimp only;omega)
theorem acF {rows:List (List Int)} {wd:Nat} {cut:Int} (g:Good wd rows):(yd rows wd cut).length<=98:=by
 rw [qM]
 exact apm (ap7 _ _) (acE g.h2 g.w2)
theorem alv (rows:List (List Int)):(tab rows).canLay0=true/\(tab rows).depth<=60:=by
 have intz:∀ r:List Int,aqw (r.map .int)=true/\apb (r.map .int)=0:=fun r=>by
  induction r with
  | nil=>exact⟨rfl,rfl⟩
  | cons n r ih=>exact⟨ih.1,by show max 0 (apb (r.map .int))=0;rw [ih.2];rfl⟩
 have all:aqw (rows.map fun r=>PyData.list (r.map .int))=true/\apb (rows.map fun r=>PyData.list (r.map .int))<=1:=by
  induction rows with
  | nil=>exact⟨rfl,apC _⟩
  | cons r rows ih =>
   refine⟨?_,?_⟩
   ·show (aqw (r.map .int) && aqw (rows.map fun r=>PyData.list (r.map .int)))=true
    rw [(intz r).1,ih.1]
    rfl
   ·show max (apb (r.map .int)+1) (apb (rows.map fun r=>PyData.list (r.map .int)))<=1
    rw [(intz r).2]
    exact Nat.max_le.mpr ⟨ao6 _,ih.2⟩
 exact⟨all.1,apm (Nat.succ_le_succ all.2) (by decide)⟩
abbrev agP (K:aoZ):Sp:=spN K 2 (fun (c:List (List Int)×Nat×Int) xs=>xs=[.dat (tab c.1),.dat (.int c.2.2)]/\Good c.2.1 c.1) fun c es=>es=((yJ c.1.length c.2.1).filter (opG c.1 c.2.1 c.2.2)).map gD3
theorem ajU (F:Def K mg "gates" aa1 pz) (uac:FnIn P w K mg base k "ask_table" pf (abG K)) (uaI:FnIn P w K mg base k "points" pf (aad K)) (uaJ:FnIn P w K mg base k "is_open" ph (adH K)):FnIn P w K mg base (k+1) "gates" pz (agP K):=by
 refine F.okN sc_gates rfl fun fa cdv A outer s H E hr=>⟨_,(zc (ym (ze uac hr rfl (za (pv 0) zb))) (zc (ad4 (i:=2) (N:=pY) (own:=3) (fr:=[]) ⟨rfl,by decide +kernel,of_decide_eq_true (by kernel_rfl),of_decide_eq_true (by kernel_rfl),of_decide_eq_true (by kernel_rfl),rfl⟩ rfl sc_gates.nd rfl (Or.inl rfl) (zS (K:=K) rfl (ze uaI hr rfl (za (pv 0) zb))) (fun _ _ _ _=>(zQ (K:=K) (n:=2) rfl rfl (zk (zh (i:=0) (show (pY:List Str).Nodup by decide +kernel) rfl (Or.inl rfl) (Or.inr rfl)) (zk (zh (i:=1) (show (pY:List Str).Nodup by decide +kernel) rfl (Or.inl rfl) (Or.inr rfl)) zL)))) (fun _ _ _ _=>z7) (fun _ _ _ _=>(ac1 (K:=K) rfl (zE (za zd (za zd zb))))) (fun _ _ _ _=>(zh (i:=2) (show (pY:List Str).Nodup by decide +kernel) rfl (Or.inl rfl) (Or.inr rfl))) (fun _ _ _ _=>z7) (fun _ _ _ _=>(zE (za (pv 0) (za (pv 1) (za (pv 2) zb))))) rfl rfl (fun _=>rfl) (fun _ _ _ _ _=>rfl) (Or.inl rfl) rfl) (zf (zx (ya (N:=pF) (own:=1) (fr:=[0,1]) ⟨rfl,by decide +kernel,of_decide_eq_true (by kernel_rfl),of_decide_eq_true (by kernel_rfl),of_decide_eq_true (by kernel_rfl),rfl⟩ rfl (zS (K:=K) rfl (pv 2)) (fun _ _ _ _=>(zh (i:=0) (show (pF:List Str).Nodup by decide +kernel) rfl (Or.inl rfl) (Or.inr rfl))) (fun _ _ _ _=>(aaW (yg (K:=K) rfl (ze uaJ hr rfl (za (pv 1) (za (pv 2) (za (pv 0) zb)))) (fun _=>rfl)))) (fun _ _ _ _=>(pv 0)) rfl rfl (fun _=>rfl)))))),?_⟩
 rintro f xs ⟨rows,wd,cut⟩ hl ⟨rfl,g⟩
 try dsimp only [zI,zj]
 dsimp only at *
 have sl:=acE g.h2 g.w2
 refine qG (qA (zp (rows,wd) ?_))
 walk_at "w"
 rintro _ rfl
 refine qG (zN (PEdO.ped (amQ (yu (zp (rows,wd) ?_)))))
 walk_at "w"
 rintro _ rfl
 refine⟨_,rfl,F2,by rw [aeM,aoX];exact apm sl (by decide),?_,?_⟩
 ·rintro D d ρ' es hd ho hes
  obtain⟨x,y,rfl⟩:=als hd
  obtain⟨us,hus,rfl⟩:=ho
  match us,hus with
  | [u1,u2,u3],_ =>
   refine yF rfl (zv (zi (zv (zi (z4 (y7 ?_))))))
   rw [if_pos rfl]
   have hes':es.length+2<=1000:=hes
   refine amP (aiG (y6 (zB (jw (zB (jw (yk ⟨_,rfl,by simp,_,rfl,fun m ρ es2=>(∃ v,ρ=[some (.dat (.int x)),some (.dat (.int y)),v])/\es2=es++[jO x y 0,jO x y 1].take m,⟨⟨_,rfl⟩,by simp⟩,?_,?_⟩)))))))
   ·rintro m d ρ2 es2 hd2 ⟨⟨v,rfl⟩,rfl⟩
    have hm:(m=0/\d=.int 0) \/ (m=1/\d=.int 1):=by
     match m,hd2 with
     | 0,h=>cases h;exact .inl ⟨rfl,rfl⟩
     | 1,h=>cases h;exact .inr ⟨rfl,rfl⟩
     | (q+2),h=>cases h
    rcases hm with⟨rfl,rfl⟩ | ⟨rfl,rfl⟩
    ·refine zi (y7 ?_)
     rw [if_pos rfl]
     refine yC (by simp;omega) ?_
     walk_at "w"
     simp
     rfl
    ·refine zi (y7 ?_)
     rw [if_pos rfl]
     refine yC (by simp;omega) ?_
     walk_at "w"
     simp
     rfl
   ·rintro ρ2 es2 ⟨⟨v,rfl⟩,rfl⟩
    exact⟨⟨[_,_,_],rfl,rfl⟩,rfl⟩
 ·rw [show List.flatMap F2 (j7 (rows,wd).1.length (rows,wd).2)=(yJ rows.length wd).map gD3 from aeM _ _]
  refine zi (abr (qD (yu (zo rfl ⟨_,rfl,fun n ρ es=>(∃ u,ρ=[u,some (.dat (tab rows)),some (.dat (.int cut))])/\es=(((yJ rows.length wd).take n).filter (opG rows wd cut)).map gD3,⟨⟨_,rfl⟩,rfl⟩,?_,?_⟩))))
  ·rintro D n d ρ' es hd ⟨⟨u,rfl⟩,rfl⟩
   rw [ao5] at hd
   cases hq:(yJ rows.length wd)[n]? with
   | none=>rw [hq] at hd;cases hd
   | some q =>
    rw [hq] at hd
    cases hd
    have tk:(yJ rows.length wd).take (n+1)=(yJ rows.length wd).take n++[q]:=by
     rw [ars,hq]
     rfl
    have len:((((yJ rows.length wd).take n).filter (opG rows wd cut)).map gD3).length<1000:=by
     rw [aoX]
     have a1:=ap7 (opG rows wd cut) ((yJ rows.length wd).take n)
     rw [apK] at a1
     omega
    refine zi (jx (zp (rows,wd,cut,q.1,q.2.1,q.2.2) ?_))
    unfold gD3 at *
    walk_at "w"
    rintro _ rfl
    dsimp only
    refine⟨_,rfl,?_⟩
    refine yB (fun h=>?_) fun h=>?_
    ·refine yC len ?_
     walk_at "w"
     rw [tk,ap9,apv,apV,show opG rows wd cut q=true from h,if_pos rfl]
     rfl
    ·refine⟨⟨_,rfl⟩,?_⟩
     rw [tk,ap9,apv,apV,show opG rows wd cut q=false from h,if_neg aoY]
     simp
  ·rintro ρ' es ⟨_,rfl⟩
   rw [aoX,apU]
abbrev CC:=List (List Int)×Nat×Int×Int×Int
def zW (rows:List (List Int)) (wd:Nat) (x y:Int):Bool:=z5 rows wd x y && z5 rows wd (x+1) (y+1)
def hiB (rows:List (List Int)) (cut x y:Int):Bool:=decide (cut<zD rows x y)
theorem cell_in {rows:List (List Int)} {wd:Nat} {x y:Int} (h:zW rows wd x y=true):z5 rows wd x y=true/\z5 rows wd (x+1) y=true/\z5 rows wd (x+1) (y+1)=true/\z5 rows wd x (y+1)=true:=by
 unfold zW at h
 rw [ao8] at h
 obtain⟨a0,a1,a2,a3⟩:=jA h.1
 obtain⟨b0,b1,b2,b3⟩:=jA h.2
 refine⟨h.1,?_,h.2,?_⟩ <;> unfold z5 <;> rw [decide_eq_true (by omega),decide_eq_true (by omega)] <;> rfl
section
variable {rows:List (List Int)} {wd:Nat} {cut x y:Int}
theorem agQ (h:zW rows wd x y=true):yq rows wd cut x y 0=(hiB rows cut x y != hiB rows cut (x+1) y):=by
 obtain⟨a,b,c,d⟩:=cell_in h
 unfold yq ve
 show (decide ((0:Int)=0 \/ (0:Int)=1) && (z5 rows wd x y && z5 rows wd (x+1) y) && _)=_
 rw [a,b]
 rfl
theorem ajV (h:zW rows wd x y=true):yq rows wd cut x y 1=(hiB rows cut x y != hiB rows cut x (y+1)):=by
 obtain⟨a,b,c,d⟩:=cell_in h
 unfold yq ve
 show (decide ((1:Int)=0 \/ (1:Int)=1) && (z5 rows wd x y && z5 rows wd x (y+1)) && _)=_
 rw [a,d]
 rfl
theorem agR (h:zW rows wd x y=true):yq rows wd cut x (y+1) 0=(hiB rows cut x (y+1) != hiB rows cut (x+1) (y+1)):=by
 obtain⟨a,b,c,d⟩:=cell_in h
 unfold yq ve
 show (decide ((0:Int)=0 \/ (0:Int)=1) && (z5 rows wd x (y+1) && z5 rows wd (x+1) (y+1)) && _)=_
 rw [c,d]
 rfl
theorem agS (h:zW rows wd x y=true):yq rows wd cut (x+1) y 1=(hiB rows cut (x+1) y != hiB rows cut (x+1) (y+1)):=by
 obtain⟨a,b,c,d⟩:=cell_in h
 unfold yq ve
 show (decide ((1:Int)=0 \/ (1:Int)=1) && (z5 rows wd (x+1) y && z5 rows wd (x+1) (y+1)) && _)=_
 rw [b,c]
 rfl
end
def cg (x y:Int):List (Int×Int×Int):=[(x,y,0),(x,y,1),(x,y+1,0),(x+1,y,1)]
def adJ (rows:List (List Int)) (wd:Nat) (cut x y:Int):Bool:=(cg x y).all (opG rows wd cut)
def aoB (rows:List (List Int)) (x y:Int):Int:=zD rows x y+(zD rows (x+1) y+(zD rows (x+1) (y+1)+(zD rows x (y+1)+0)))
def ab3 (rows:List (List Int)) (cut x y:Int):Bool:=decide (4 * cut+2<=aoB rows x y)
def pairD (g h:Int×Int×Int):PyData:=.tuple [gD3 g,gD3 h]
abbrev afM (K:aoZ):Sp:=spD K 3 (fun (c:List (List Int)×Nat×Int×Int) xs=>xs=[.dat (tab c.1),.dat (.int c.2.2.1),.dat (.int c.2.2.2)]/\Good c.2.1 c.1) fun c r=>r=.bool (zW c.1 c.2.1 c.2.2.1 c.2.2.2)
theorem alw (F:Def K mg "has_cell" ql pq) (uao:FnIn P w K mg base k "has_point" pq (agM K)):FnIn P w K mg base (k+1) "has_cell" pq (afM K):=by
 refine F.ok aeB rfl fun fa cdv A outer s H E hr=>⟨_,(zf (zx (aan (ze uao hr rfl (za (pv 0) (za (pv 1) (za (pv 2) zb)))) (acP (ze uao hr rfl (za (pv 0) (za (zt zT (pv 1) zd) (za (zt zT (pv 2) zd) zb)))))))),?_⟩
 rintro f xs ⟨rows,wd,x,y⟩ hl ⟨rfl,g⟩
 try dsimp only [zI,zj]
 dsimp only at *
 refine yc (abm (zp (rows,wd,x,y) ?_))
 walk_at "w"
 rintro _ rfl
 dsimp only
 refine⟨_,rfl,?_⟩
 refine yB (fun h=>?_) fun h=>?_
 ·refine zp (rows,wd,x+1,y+1) ?_
  walk_at "w"
  rintro _ rfl
  dsimp only
  unfold zW
  rw [h,arF]
 ·unfold zW
  rw [h,aqT]
abbrev acG (K:aoZ):Sp:=spD K 2 (fun (c:Int×Int) xs=>xs=[.dat (.int c.1),.dat (.int c.2)]) fun c r=>r=.list [.tuple [.int c.1,.int c.2],.tuple [.int (c.1+1),.int c.2],.tuple [.int (c.1+1),.int (c.2+1)],.tuple [.int c.1,.int (c.2+1)]]
theorem afN (F:Def K mg "corners" qV pI):FnIn P w K mg base (k+1) "corners" pI (acG K):=by
 refine F.ok afF rfl fun fa cdv A outer s H E hr=>⟨_,(zf (zx (z8 (za (zE (za (pv 0) (za (pv 1) zb))) (za (zE (za (zt zT (pv 0) zd) (za (pv 1) zb))) (za (zE (za (zt zT (pv 0) zd) (za (zt zT (pv 1) zd) zb))) (za (zE (za (pv 0) (za (zt zT (pv 1) zd) zb))) zb))))))),?_⟩
 rintro f xs ⟨x,y⟩ hl rfl
 try dsimp only [zI,zj]
 dsimp only at *
 walk_at "w"
 rfl
abbrev aae (K:aoZ):Sp:=spD K 1 (fun (c:Int×Int) xs=>xs=[.dat (.tuple [.int c.1,.int c.2])]) fun c r=>r=.list ((cg c.1 c.2).map gD3)
theorem ah1 (F:Def K mg "cell_gates" jk ["cell"]):FnIn P w K mg base (k+1) "cell_gates" ["cell"] (aae K):=by
 refine F.ok sc_cell_gates rfl fun fa cdv A outer s H E hr=>⟨_,(zc (yi (pv 0) (zQ (K:=K) (n:=2) rfl rfl (zk (zh (i:=1) sc_cell_gates.nd rfl (Or.inl rfl) (Or.inr rfl)) (zk (zh (i:=2) sc_cell_gates.nd rfl (Or.inl rfl) (Or.inr rfl)) zL)))) (zf (zx (z8 (za (zE (za (pv 1) (za (pv 2) (za zd zb)))) (za (zE (za (pv 1) (za (pv 2) (za zd zb)))) (za (zE (za (pv 1) (za (zt zT (pv 2) zd) (za zd zb)))) (za (zE (za (zt zT (pv 1) zd) (za (pv 2) (za zd zb)))) zb)))))))),?_⟩
 rintro f xs ⟨x,y⟩ hl rfl
 try dsimp only [zI,zj]
 dsimp only at *
 walk_at "w"
 rfl
abbrev alx (c:CC) (xs:List DV):Prop:=xs=[.dat (tab c.1),.dat (.int c.2.2.1),.dat (.tuple [.int c.2.2.2.1,.int c.2.2.2.2])]/\Good c.2.1 c.1/\zW c.1 c.2.1 c.2.2.2.1 c.2.2.2.2=true
abbrev acH (K:aoZ):Sp:=spD K 3 alx fun c r=>r=.bool (adJ c.1 c.2.1 c.2.2.1 c.2.2.2.1 c.2.2.2.2)
theorem afO (F:Def K mg "is_crossed" jl pj) (uan:mg "all"=none) (uaJ:FnIn P w K mg base k "is_open" ph (adH K)) (uaK:FnIn P w K mg base k "cell_gates" ["cell"] (aae K)):FnIn P w K mg base (k+1) "is_crossed" pj (acH K):=by
 refine F.ok ab0 rfl fun fa cdv A outer s H E hr=>⟨_,(zf (zx (zu (acq (K:=K) rfl rfl) rfl uan asH (za (ya (N:=pF) (own:=1) (fr:=[0,1]) ⟨rfl,by decide +kernel,of_decide_eq_true (by kernel_rfl),of_decide_eq_true (by kernel_rfl),of_decide_eq_true (by kernel_rfl),rfl⟩ rfl (zS (K:=K) rfl (ze uaK hr rfl (za (pv 2) zb))) (fun _ _ _ _=>(zh (i:=0) (show (pF:List Str).Nodup by decide +kernel) rfl (Or.inl rfl) (Or.inr rfl))) (fun _ _ _ _=>z7) (fun _ _ _ _=>(ze uaJ hr rfl (za (pv 1) (za (pv 2) (za (pv 0) zb))))) rfl rfl (fun _=>rfl)) zb)))),?_⟩
 rintro f xs ⟨rows,wd,cut,x,y⟩ hl ⟨rfl,g,hc⟩
 try dsimp only [zI,zj]
 dsimp only at *
 refine yc (al1 (PEdO.ped (vN (A:=gD3) (B:=fun q=>PyData.bool (opG rows wd cut q)) (cg x y) (yu (zp (x,y) ?_)))))
 walk_at "w"
 rintro _ rfl
 refine⟨_,rfl,rfl,show 4<=1000 by decide,?_,?_⟩
 ·rintro D q ρ' es hq ho hes
  obtain⟨u,rfl⟩:=ho.one
  refine zi (y7 ?_)
  rw [if_pos rfl]
  refine yC hes (zp (rows,wd,cut,q.1,q.2.1,q.2.2) ?_)
  unfold gD3
  walk_at "w"
  rintro _ rfl
  exact⟨.mk1,rfl⟩
 ·refine⟨(cg x y).map (opG rows wd cut),by rw [aq2];rfl,?_⟩
  show PyData.bool _=PyData.bool _
  unfold adJ
  rw [List.all_map]
  rfl
abbrev ame (K:aoZ):Sp:=spD K 3 alx fun c r=>r=.bool (ab3 c.1 c.2.2.1 c.2.2.2.1 c.2.2.2.2)
theorem anE (F:Def K mg "has_high_middle" yA pj) (uaS:mg "sum"=none) (ubZ:FnIn P w K mg base k "corners" pI (acG K)):FnIn P w K mg base (k+1) "has_high_middle" pj (ame K):=by
 refine F.ok sc_has_high_middle rfl fun fa cdv A outer s H E hr=>⟨_,(zc (yi (pv 2) (zQ (K:=K) (n:=2) rfl rfl (zk (zh (i:=3) sc_has_high_middle.nd rfl (Or.inl rfl) (Or.inr rfl)) (zk (zh (i:=4) sc_has_high_middle.nd rfl (Or.inl rfl) (Or.inr rfl)) zL)))) (zf (zx (vF alS (zu (afm (K:=K) rfl rfl) rfl uaS PyProof.Rows.boot_sum (za (ya (N:=pM) (own:=2) (fr:=[0]) ⟨rfl,by decide +kernel,of_decide_eq_true (by kernel_rfl),of_decide_eq_true (by kernel_rfl),of_decide_eq_true (by kernel_rfl),rfl⟩ rfl (zS (K:=K) rfl (ze ubZ hr rfl (za (pv 3) (za (pv 4) zb)))) (fun _ _ _ _=>(zQ (K:=K) (n:=2) rfl rfl (zk (zh (i:=0) (show (pM:List Str).Nodup by decide +kernel) rfl (Or.inl rfl) (Or.inr rfl)) (zk (zh (i:=1) (show (pM:List Str).Nodup by decide +kernel) rfl (Or.inl rfl) (Or.inr rfl)) zL)))) (fun _ _ _ _=>z7) (fun _ _ _ _=>(zP (zy (K:=K) rfl) (zP (zy (K:=K) rfl) (pv 2) (pv 1) (fun _ _=>rfl)) (pv 0) (fun _ _=>rfl))) rfl rfl (fun _=>rfl)) zb)) (zt zT (zt vo zd (pv 1)) zd) (zM _))))),?_⟩
 rintro f xs ⟨rows,wd,cut,x,y⟩ hl ⟨rfl,g,hc⟩
 try dsimp only [zI,zj]
 dsimp only at *
 obtain⟨i1,i2,i3,i4⟩:=cell_in hc
 refine zV (zN (zo rfl (yF rfl (zv (zi (zv (zi (z4 ?_))))))))
 refine yc (acj (aoj (PEdO.ped (vN (A:=fun p:Int×Int=>PyData.tuple [.int p.1,.int p.2]) (B:=fun p:Int×Int=>PyData.int (zD rows p.1 p.2)) [(x,y),(x+1,y),(x+1,y+1),(x,y+1)] (yu (zp (x,y) ?_))))))
 walk_at "w"
 rintro _ rfl
 refine⟨_,rfl,rfl,show 4<=1000 by decide,?_,?_⟩
 ·rintro D p ρ' es hp ho hes
  obtain⟨u,v,rfl⟩:=ho.two
  have hi:z5 rows wd p.1 p.2=true:=by
   simp only [ao7,aqa,or_false] at hp
   rcases hp with rfl | rfl | rfl | rfl
   ·exact i1
   ·exact i2
   ·exact i3
   ·exact i4
  obtain⟨r,h1,h2⟩:=abH g hi
  refine yF rfl (zv (zi (zv (zi (z4 (y7 ?_))))))
  rw [if_pos rfl]
  refine yC hes ?_
  unfold tab
  walk_at "w"
  refine⟨_,h1,?_⟩
  walk_at "w"
  refine⟨_,h2,?_⟩
  exact⟨.mk2,rfl⟩
 ·refine⟨[zD rows x y,zD rows (x+1) y,zD rows (x+1) (y+1),zD rows x (y+1)],rfl,?_⟩
  walk_at "w"
  rfl
def adK (rows:List (List Int)) (cut x y:Int):List PyData:=if (hiB rows cut x y == ab3 rows cut x y)=true then [pairD (x,y,0) (x+1,y,1),pairD (x,y,1) (x,y+1,0)] else [pairD (x,y,0) (x,y,1),pairD (x,y+1,0) (x+1,y,1)]
def thr (rows:List (List Int)) (wd:Nat) (cut x y:Int):List (Int×Int×Int):=(cg x y).filter (opG rows wd cut)
def ajW:List (Int×Int×Int)->List PyData
 | a :: b :: _=>[pairD a b]
 | _=>[]
def agT (rows:List (List Int)) (wd:Nat) (cut x y:Int):List PyData:=if adJ rows wd cut x y=true then adK rows cut x y else ajW (thr rows wd cut x y)
theorem aly {rows:List (List Int)} {wd:Nat} {cut x y:Int} (h:zW rows wd x y=true):thr rows wd cut x y=[] \/ ∃ a b r,thr rows wd cut x y=a :: b :: r:=by
 have e1:opG rows wd cut (x,y,0)=_:=agQ (cut:=cut) h
 have e2:opG rows wd cut (x,y,1)=_:=ajV (cut:=cut) h
 have e3:opG rows wd cut (x,y+1,0)=_:=agR (cut:=cut) h
 have e4:opG rows wd cut (x+1,y,1)=_:=agS (cut:=cut) h
 unfold thr cg
 simp only [apV,e1,e2,e3,e4,asE]
 cases hiB rows cut x y <;> cases hiB rows cut (x+1) y <;> cases hiB rows cut (x+1) (y+1) <;> cases hiB rows cut x (y+1) <;> simp
abbrev aeO (K:aoZ):Sp:=spN K 3 alx fun c es=>es=adK c.1 c.2.2.1 c.2.2.2.1 c.2.2.2.2
theorem ah2 (F:Def K mg "crossed_ties" yR pj) (uaK:FnIn P w K mg base k "cell_gates" ["cell"] (aae K)) (uap:FnIn P w K mg base k "stands_high" pH (adG K)) (ub0:FnIn P w K mg base k "has_high_middle" pj (ame K)):FnIn P w K mg base (k+1) "crossed_ties" pj (aeO K):=by
 refine F.okN sc_crossed_ties rfl fun fa cdv A outer s H E hr=>⟨_,(zc (yi (ze uaK hr rfl (za (pv 2) zb)) (ac5 (K:=K) (n:=4) rfl rfl (zk (zh (i:=3) sc_crossed_ties.nd rfl (Or.inl rfl) (Or.inr rfl)) (zk (zh (i:=4) sc_crossed_ties.nd rfl (Or.inl rfl) (Or.inr rfl)) (zk (zh (i:=5) sc_crossed_ties.nd rfl (Or.inl rfl) (Or.inr rfl)) (zk (zh (i:=6) sc_crossed_ties.nd rfl (Or.inl rfl) (Or.inr rfl)) zL)))))) (zc (yb (zG (qi (K:=K) rfl hr.units) (ze uap hr rfl (za (pv 0) (za (pv 1) (za (pv 2) zb)))) (ze ub0 hr rfl (za (pv 0) (za (pv 1) (za (pv 2) zb)))) (zM _)) (zf (zx (z8 (za (zE (za (pv 3) (za (pv 6) zb))) (za (zE (za (pv 4) (za (pv 5) zb))) zb))))) zH) (zf (zx (z8 (za (zE (za (pv 3) (za (pv 4) zb))) (za (zE (za (pv 5) (za (pv 6) zb))) zb))))))),?_⟩
 rintro f xs ⟨rows,wd,cut,x,y⟩ hl ⟨rfl,g,hc⟩
 try dsimp only [zI,zj]
 dsimp only at *
 have hi:=(cell_in hc).1
 refine qG (zN (zp (x,y) ?_))
 walk_at "w"
 rintro _ rfl
 refine aiL rfl (zv (zi (zv (zi (zv (zi (zv (zi (z4 ?_)))))))))
 refine al4 (yI (vI (zp (rows,wd,cut,x,y) ?_)))
 walk_at "w"
 rintro _ rfl
 refine zp (rows,wd,cut,x,y) ?_
 walk_at "w"
 rintro _ rfl
 dsimp only
 walk_at "w"
 rw [if_neg aoY,aeK]
 unfold adK
 refine yB (fun h=>?_) fun h=>?_
 ·rw [if_pos (show (hiB rows cut x y == ab3 rows cut x y)=true from h)]
  refine aec ?_
  walk_at "w"
  rfl
 ·rw [if_neg (show ¬ (hiB rows cut x y == ab3 rows cut x y)=true from by rw [show (hiB rows cut x y == ab3 rows cut x y)=false from h];exact aoY)]
  refine abr (aec ?_)
  walk_at "w"
  rfl
abbrev agU (K:aoZ):Sp:=spN K 3 alx fun c es=>es=agT c.1 c.2.1 c.2.2.1 c.2.2.2.1 c.2.2.2.2
theorem ajX (F:Def K mg "cell_ties" jK pj) (ub1:FnIn P w K mg base k "is_crossed" pj (acH K)) (ub2:FnIn P w K mg base k "crossed_ties" pj (aeO K)) (uaK:FnIn P w K mg base k "cell_gates" ["cell"] (aae K)) (uaJ:FnIn P w K mg base k "is_open" ph (adH K)):FnIn P w K mg base (k+1) "cell_ties" pj (agU K):=by
 refine F.okN sc_cell_ties rfl fun fa cdv A outer s H E hr=>⟨_,(zc (yb (yg (K:=K) rfl (ze ub1 hr rfl (za (pv 0) (za (pv 1) (za (pv 2) zb)))) (fun _=>rfl)) (zf (zx (ze ub2 hr rfl (za (pv 0) (za (pv 1) (za (pv 2) zb)))))) zH) (zc (aaG (i:=3) (N:=pF) (own:=1) (fr:=[0,1]) ⟨rfl,by decide +kernel,of_decide_eq_true (by kernel_rfl),of_decide_eq_true (by kernel_rfl),of_decide_eq_true (by kernel_rfl),rfl⟩ rfl sc_cell_ties.nd rfl (Or.inl rfl) (zS (K:=K) rfl (ze uaK hr rfl (za (pv 2) zb))) (fun _ _ _ _=>(zh (i:=0) (show (pF:List Str).Nodup by decide +kernel) rfl (Or.inl rfl) (Or.inr rfl))) (fun _ _ _ _=>(aaW (yg (K:=K) rfl (ze uaJ hr rfl (za (pv 1) (za (pv 2) (za (pv 0) zb)))) (fun _=>rfl)))) (fun _ _ _ _=>(pv 0)) rfl rfl (fun _=>rfl) (Or.inl rfl) rfl) (zf (zx (vD (yg (K:=K) rfl (pv 3) (fun _=>rfl)) (z8 (za (zE (za (zP (zy (K:=K) rfl) (pv 3) zd (fun _ _=>rfl)) (za (zP (zy (K:=K) rfl) (pv 3) zd (fun _ _=>rfl)) zb))) zb)) (z8 zb)))))),?_⟩
 rintro f xs ⟨rows,wd,cut,x,y⟩ hl ⟨rfl,g,hc⟩
 try dsimp only [zI,zj]
 dsimp only at *
 refine al4 (jx (zp (rows,wd,cut,x,y) ?_))
 walk_at "w"
 rintro _ rfl
 dsimp only
 refine⟨_,rfl,?_⟩
 unfold agT
 refine yB (fun h=>?_) fun h=>?_
 ·rw [if_pos h]
  refine ac7 (rows,wd,cut,x,y) ?_
  walk_at "w"
  exact fun es he=>he
 ·rw [if_neg (by rw [h];exact aoY)]
  refine qG (zN (PEdO.ped (qD (yu (zp (x,y) ?_)))))
  walk_at "w"
  rintro _ rfl
  refine⟨_,rfl,fun n ρ es=>(∃ u,ρ=[u,some (.dat (tab rows)),some (.dat (.int cut))])/\es=(((cg x y).take n).filter (opG rows wd cut)).map gD3,⟨⟨_,rfl⟩,rfl⟩,?_,?_⟩
  ·rintro D n d ρ' es hd ⟨⟨u,rfl⟩,rfl⟩
   rw [ao5] at hd
   cases hq:(cg x y)[n]? with
   | none=>rw [hq] at hd;cases hd
   | some q =>
    rw [hq] at hd
    cases hd
    have hn:n<(cg x y).length:=(ao1.mp hq).1
    have n4:n<4:=hn
    have tk:(cg x y).take (n+1)=(cg x y).take n++[q]:=by
     rw [ars,hq]
     rfl
    have len:((((cg x y).take n).filter (opG rows wd cut)).map gD3).length<1000:=by
     rw [aoX]
     have a1:=ap7 (opG rows wd cut) ((cg x y).take n)
     rw [apK] at a1
     omega
    refine zi (jx (zp (rows,wd,cut,q.1,q.2.1,q.2.2) ?_))
    unfold gD3 at *
    walk_at "w"
    rintro _ rfl
    dsimp only
    refine⟨_,rfl,?_⟩
    refine yB (fun h=>?_) fun h=>?_
    ·refine yC len ?_
     walk_at "w"
     rw [tk,ap9,apv,apV,show opG rows wd cut q=true from h,if_pos rfl]
     rfl
    ·refine⟨⟨_,rfl⟩,?_⟩
     rw [tk,ap9,apv,apV,show opG rows wd cut q=false from h,if_neg aoY]
     simp
  ·rintro ρ' es ⟨_,rfl⟩
   rw [aoX,apU]
   rw [show List.filter (opG rows wd cut) (cg (x,y).1 (x,y).2)=thr rows wd cut x y from rfl]
   rcases aly (cut:=cut) hc with e | ⟨a,b,r,e⟩
   ·rw [e]
    refine zi (abr (al5 (jx (zo rfl ⟨false,rfl,?_⟩))))
    rw [if_neg aoY]
    exact aoe rfl
   ·rw [e]
    have h0:atI ((a :: b :: r).map gD3) 0=some (gD3 a):=qw (xs:=a :: b :: r) (j:=0) rfl (arU _)
    have h1:atI ((a :: b :: r).map gD3) 1=some (gD3 b):=qw (xs:=a :: b :: r) (j:=1) rfl (Nat.succ_lt_succ (arU _))
    refine zi (abr (al5 (jx (zo rfl ⟨true,rfl,?_⟩))))
    rw [if_pos rfl]
    refine aec ?_
    walk_at "w"
    refine⟨_,h0,?_⟩
    walk_at "w"
    refine⟨_,h1,?_⟩
    walk_at "w"
    rfl
def opF (A B C D:Bool) (i:Fin 4):Bool:=match i with
 | 0=>A != B
 | 1=>A != D
 | 2=>D != C
 | 3=>B != C
def enF (A B C D:Bool) (i:Fin 4):Bool:=match i with
 | 0=>!A
 | 1=>A
 | 2=>D
 | 3=>!B
def abJ (A B C D M:Bool):List (Fin 4×Fin 4) :=
 if (opF A B C D 0 && opF A B C D 1 && opF A B C D 2 && opF A B C D 3)=true then (if (A == M)=true then [(0,3),(1,2)] else [(0,1),(2,3)]) else
 match ([0,1,2,3]:List (Fin 4)).filter (opF A B C D) with
 | a :: b :: _=>[(a,b)]
 | _=>[]
def prt {α:Type} [DecidableEq α] (l:List (α×α)) (g:α):Option α:=l.findSome? fun p=>if p.1=g then some p.2 else if p.2=g then some p.1 else none
theorem alz:∀ (A B C D M:Bool) (i:Fin 4),opF A B C D i=true->∃ j,prt (abJ A B C D M) i=some j/\j≠i/\opF A B C D j=true/\prt (abJ A B C D M) j=some i/\enF A B C D j=!enF A B C D i:=by decide
theorem aeP:∀ (A B C D M:Bool),abJ A B C D M=[] \/ (∃ a b,a≠b/\abJ A B C D M=[(a,b)]) \/ ∃ a b c d,a≠b/\a≠c/\a≠d/\b≠c/\b≠d/\c≠d/\abJ A B C D M=[(a,b),(c,d)]:=by decide
abbrev Gt:=Int×Int×Int
def gt (x y:Int) (i:Fin 4):Gt:=match i with
 | 0=>(x,y,0)
 | 1=>(x,y,1)
 | 2=>(x,y+1,0)
 | 3=>(x+1,y,1)
theorem adL {x y:Int} {i j:Fin 4} (h:gt x y i=gt x y j):i=j:=by
 have h1:(gt x y i).1=(gt x y j).1:=by rw [h]
 have h2:(gt x y i).2.1=(gt x y j).2.1:=by rw [h]
 have h3:(gt x y i).2.2=(gt x y j).2.2:=by rw [h]
 revert h1 h2 h3
 clear h
 match i,j with
 | 0,0=>intros;rfl
 | 0,1=>intro _ _ h;simp [gt] at h
 | 0,2=>intro _ h _;simp [gt] at h;omega
 | 0,3=>intro _ _ h;simp [gt] at h
 | 1,0=>intro _ _ h;simp [gt] at h
 | 1,1=>intros;rfl
 | 1,2=>intro _ _ h;simp [gt] at h
 | 1,3=>intro h _ _;simp [gt] at h;omega
 | 2,0=>intro _ h _;simp [gt] at h;omega
 | 2,1=>intro _ _ h;simp [gt] at h
 | 2,2=>intros;rfl
 | 2,3=>intro _ _ h;simp [gt] at h
 | 3,0=>intro _ _ h;simp [gt] at h
 | 3,1=>intro h _ _;simp [gt] at h;omega
 | 3,2=>intro _ _ h;simp [gt] at h
 | 3,3=>intros;rfl
theorem agV {α β:Type} [DecidableEq α] [DecidableEq β] {f:α->β} (inj:∀ i j,f i=f j->i=j) (l:List (α×α)) (i:α):prt (l.map fun p=>(f p.1,f p.2)) (f i)=(prt l i).map f:=by
 unfold prt
 induction l with
 | nil=>rfl
 | cons p l ih =>
  rw [apq,aq5,aq5]
  have e1:(f p.1=f i)↔p.1=i:=⟨inj _ _,fun z=>by rw [z]⟩
  have e2:(f p.2=f i)↔p.2=i:=⟨inj _ _,fun z=>by rw [z]⟩
  by_cases h1:p.1=i
  ·rw [if_pos h1,if_pos (e1.mpr h1)];rfl
  ·rw [if_neg h1,if_neg (fun z=>h1 (e1.mp z))]
   by_cases h2:p.2=i
   ·rw [if_pos h2,if_pos (e2.mpr h2)];rfl
   ·rw [if_neg h2,if_neg (fun z=>h2 (e2.mp z))];exact ih
section
variable (rows:List (List Int)) (wd:Nat) (cut:Int)
def t4 (x y:Int):List (Fin 4×Fin 4):=abJ (hiB rows cut x y) (hiB rows cut (x+1) y) (hiB rows cut (x+1) (y+1)) (hiB rows cut x (y+1)) (ab3 rows cut x y)
def j8 (x y:Int):List (Gt×Gt):=(t4 rows cut x y).map fun p=>(gt x y p.1,gt x y p.2)
def jB (w:Int) (h:Bool):Int×Int:=if w=0 then (if h=true then (0,-1) else (0,0)) else (if h=true then (0,0) else (-1,0))
def jC (w:Int) (h:Bool):Int×Int:=if w=0 then (if h=true then (0,0) else (0,-1)) else (if h=true then (-1,0) else (0,0))
def ahC (g:Gt):Int×Int:=(g.1+(jB g.2.2 (hiB rows cut g.1 g.2.1)).1,g.2.1+(jB g.2.2 (hiB rows cut g.1 g.2.1)).2)
def bhC (g:Gt):Int×Int:=(g.1+(jC g.2.2 (hiB rows cut g.1 g.2.1)).1,g.2.1+(jC g.2.2 (hiB rows cut g.1 g.2.1)).2)
def yh (g:Gt):Option Gt:=if zW rows wd (ahC rows cut g).1 (ahC rows cut g).2=true then prt (j8 rows cut (ahC rows cut g).1 (ahC rows cut g).2) g else none
def yO (g:Gt):Option Gt:=if zW rows wd (bhC rows cut g).1 (bhC rows cut g).2=true then prt (j8 rows cut (bhC rows cut g).1 (bhC rows cut g).2) g else none
end
section
variable {rows:List (List Int)} {wd:Nat} {cut x y:Int}
theorem aay (h:zW rows wd x y=true) (i:Fin 4):opG rows wd cut (gt x y i)=opF (hiB rows cut x y) (hiB rows cut (x+1) y) (hiB rows cut (x+1) (y+1)) (hiB rows cut x (y+1)) i:=by
 match i with
 | 0=>exact agQ h
 | 1=>exact ajV h
 | 2=>exact agR h
 | 3=>exact agS h
theorem agW (i:Fin 4):(ahC rows cut (gt x y i)=(x,y)↔enF (hiB rows cut x y) (hiB rows cut (x+1) y) (hiB rows cut (x+1) (y+1)) (hiB rows cut x (y+1)) i=true)/\(bhC rows cut (gt x y i)=(x,y)↔enF (hiB rows cut x y) (hiB rows cut (x+1) y) (hiB rows cut (x+1) (y+1)) (hiB rows cut x (y+1)) i=false):=by
 unfold ahC bhC
 match i with
 | 0 =>
  show ((x+(jB 0 (hiB rows cut x y)).1,y+(jB 0 (hiB rows cut x y)).2)=(x,y)↔(!hiB rows cut x y)=true)/\((x+(jC 0 (hiB rows cut x y)).1,y+(jC 0 (hiB rows cut x y)).2)=(x,y)↔(!hiB rows cut x y)=false)
  cases hiB rows cut x y <;> simp [jB,jC] <;> omega
 | 1 =>
  show ((x+(jB 1 (hiB rows cut x y)).1,y+(jB 1 (hiB rows cut x y)).2)=(x,y)↔hiB rows cut x y=true)/\((x+(jC 1 (hiB rows cut x y)).1,y+(jC 1 (hiB rows cut x y)).2)=(x,y)↔hiB rows cut x y=false)
  cases hiB rows cut x y <;> simp [jB,jC] <;> omega
 | 2 =>
  show ((x+(jB 0 (hiB rows cut x (y+1))).1,y+1+(jB 0 (hiB rows cut x (y+1))).2)=(x,y)↔hiB rows cut x (y+1)=true)/\((x+(jC 0 (hiB rows cut x (y+1))).1,y+1+(jC 0 (hiB rows cut x (y+1))).2)=(x,y)↔hiB rows cut x (y+1)=false)
  cases hiB rows cut x (y+1) <;> simp [jB,jC] <;> omega
 | 3 =>
  show ((x+1+(jB 1 (hiB rows cut (x+1) y)).1,y+(jB 1 (hiB rows cut (x+1) y)).2)=(x,y)↔(!hiB rows cut (x+1) y)=true)/\((x+1+(jC 1 (hiB rows cut (x+1) y)).1,y+(jC 1 (hiB rows cut (x+1) y)).2)=(x,y)↔(!hiB rows cut (x+1) y)=false)
  cases hiB rows cut (x+1) y <;> simp [jB,jC] <;> omega
theorem agX (h:zW rows wd x y=true) {i:Fin 4} (o:opG rows wd cut (gt x y i)=true):∃ j,prt (j8 rows cut x y) (gt x y i)=some (gt x y j)/\j≠i/\opG rows wd cut (gt x y j)=true/\prt (j8 rows cut x y) (gt x y j)=some (gt x y i) /\
  (ahC rows cut (gt x y i)=(x,y)->bhC rows cut (gt x y j)=(x,y))/\(bhC rows cut (gt x y i)=(x,y)->ahC rows cut (gt x y j)=(x,y)):=by
 rw [aay h] at o
 obtain⟨j,h1,h2,h3,h4,h5⟩:=alz _ _ _ _ (ab3 rows cut x y) i o
 have inj:∀ i j,gt x y i=gt x y j->i=j:=fun _ _=>adL
 refine⟨j,?_,h2,by rw [aay h];exact h3,?_,fun z=>?_,fun z=>?_⟩
 ·unfold j8 t4
  rw [agV inj,h1]
  rfl
 ·unfold j8 t4
  rw [agV inj,h4]
  rfl
 ·rw [(agW j).2,h5,(agW i).1.mp z]
  rfl
 ·rw [(agW j).1,h5,(agW i).2.mp z]
  rfl
theorem ajY (g:Gt) (hw:g.2.2=0 \/ g.2.2=1):∃ i,g=gt (ahC rows cut g).1 (ahC rows cut g).2 i:=by
 obtain⟨x,y,w⟩:=g
 unfold ahC
 dsimp only at hw ⊢
 rcases hw with rfl | rfl
 ·cases hiB rows cut x y
  ·exact⟨0,by simp [jB,gt]⟩
  ·exact⟨2,by simp [jB,gt];omega⟩
 ·cases hiB rows cut x y
  ·exact⟨3,by simp [jB,gt];omega⟩
  ·exact⟨1,by simp [jB,gt]⟩
theorem ah3 (g:Gt) (hw:g.2.2=0 \/ g.2.2=1):∃ i,g=gt (bhC rows cut g).1 (bhC rows cut g).2 i:=by
 obtain⟨x,y,w⟩:=g
 unfold bhC
 dsimp only at hw ⊢
 rcases hw with rfl | rfl
 ·cases hiB rows cut x y
  ·exact⟨2,by simp [jC,gt];omega⟩
  ·exact⟨0,by simp [jC,gt]⟩
 ·cases hiB rows cut x y
  ·exact⟨1,by simp [jC,gt]⟩
  ·exact⟨3,by simp [jC,gt];omega⟩
theorem aaz {g:Gt} (o:opG rows wd cut g=true):g.2.2=0 \/ g.2.2=1:=by
 unfold opG yq ve at o
 rw [ao8,ao8] at o
 exact of_decide_eq_true o.1.1
theorem qZ {g:Gt} (o:opG rows wd cut g=true) (h:zW rows wd (ahC rows cut g).1 (ahC rows cut g).2=true):∃ n,yh rows wd cut g=some n/\n≠g/\opG rows wd cut n=true/\bhC rows cut n=ahC rows cut g/\yO rows wd cut n=some g:=by
 obtain⟨i,ei⟩:=ajY (rows:=rows) (cut:=cut) g (aaz o)
 have o':=o
 rw [ei] at o'
 obtain⟨j,h1,h2,h3,h4,h5,_⟩:=agX h o'
 rw [<-ei] at h1 h4 h5
 have hb:=h5 rfl
 refine⟨gt (ahC rows cut g).1 (ahC rows cut g).2 j,?_,fun z=>h2 (adL (z.trans ei)),h3,hb,?_⟩
 ·unfold yh
  rw [if_pos h]
  exact h1
 ·unfold yO
  rw [hb,if_pos h]
  exact h4
theorem adM {g:Gt} (o:opG rows wd cut g=true) (h:zW rows wd (bhC rows cut g).1 (bhC rows cut g).2=true):∃ n,yO rows wd cut g=some n/\n≠g/\opG rows wd cut n=true/\ahC rows cut n=bhC rows cut g/\yh rows wd cut n=some g:=by
 obtain⟨i,ei⟩:=ah3 (rows:=rows) (cut:=cut) g (aaz o)
 have o':=o
 rw [ei] at o'
 obtain⟨j,h1,h2,h3,h4,_,h5⟩:=agX h o'
 rw [<-ei] at h1 h4 h5
 have hb:=h5 rfl
 refine⟨gt (bhC rows cut g).1 (bhC rows cut g).2 j,?_,fun z=>h2 (adL (z.trans ei)),h3,hb,?_⟩
 ·unfold yO
  rw [if_pos h]
  exact h1
 ·unfold yh
  rw [hb,if_pos h]
  exact h4
theorem abK {g g' n:Gt} (o:opG rows wd cut g=true) (o':opG rows wd cut g'=true) (h:yh rows wd cut g=some n) (h':yh rows wd cut g'=some n):g=g':=by
 have c:zW rows wd (ahC rows cut g).1 (ahC rows cut g).2=true:=by
  unfold yh at h
  by_cases z:zW rows wd (ahC rows cut g).1 (ahC rows cut g).2=true
  ·exact z
  ·rw [if_neg z] at h;cases h
 have c':zW rows wd (ahC rows cut g').1 (ahC rows cut g').2=true:=by
  unfold yh at h'
  by_cases z:zW rows wd (ahC rows cut g').1 (ahC rows cut g').2=true
  ·exact z
  ·rw [if_neg z] at h';cases h'
 obtain⟨m,a1,_,_,_,a2⟩:=qZ o c
 obtain⟨m',b1,_,_,_,b2⟩:=qZ o' c'
 rw [h] at a1
 rw [h'] at b1
 cases a1
 cases b1
 rw [a2] at b2
 exact Option.some.inj b2
theorem aaA {g n:Gt} (o:opG rows wd cut g=true) (h:yh rows wd cut g=some n):opG rows wd cut n=true/\n≠g:=by
 have c:zW rows wd (ahC rows cut g).1 (ahC rows cut g).2=true:=by
  unfold yh at h
  by_cases z:zW rows wd (ahC rows cut g).1 (ahC rows cut g).2=true
  ·exact z
  ·rw [if_neg z] at h;cases h
 obtain⟨m,a1,a2,a3,_,_⟩:=qZ o c
 rw [h] at a1
 cases a1
 exact⟨a3,a2⟩
end
abbrev afP (K:aoZ):Sp:=spD K 3 (fun (c:List (List Int)×Nat×Int×Int×Int×Int) xs=>xs=[.dat (tab c.1),.dat (.int c.2.2.1),.dat (jO c.2.2.2.1 c.2.2.2.2.1 c.2.2.2.2.2)]/\Good c.2.1 c.1/\z5 c.1 c.2.1 c.2.2.2.1 c.2.2.2.2.1=true) fun c r=>r=.str (acD c.1 c.2.2.1 c.2.2.2.1 c.2.2.2.2.1 c.2.2.2.2.2)
theorem afQ (F:Def K mg "heading" qX ph) (uap:FnIn P w K mg base k "stands_high" pH (adG K)):FnIn P w K mg base (k+1) "heading" ph (afP K):=by
 refine F.ok sc_heading rfl fun fa cdv A outer s H E hr=>⟨_,(zc (yi (pv 2) (zQ (K:=K) (n:=3) rfl rfl (zk (zh (i:=3) sc_heading.nd rfl (Or.inl rfl) (Or.inr rfl)) (zk (zh (i:=4) sc_heading.nd rfl (Or.inl rfl) (Or.inr rfl)) (zk (zh (i:=5) sc_heading.nd rfl (Or.inl rfl) (Or.inr rfl)) zL))))) (zc (zC (i:=6) sc_heading.nd rfl (Or.inl rfl) (ze uap hr rfl (za (pv 0) (za (pv 1) (za (zE (za (pv 3) (za (pv 4) zb))) zb))))) (zc (yb (zG (qi (K:=K) rfl hr.units) (pv 5) zd (zM _)) (zf (zx (vD (yg (K:=K) rfl (pv 6) (fun _=>rfl)) yL yL))) zH) (zf (zx (vD (yg (K:=K) rfl (pv 6) (fun _=>rfl)) yL yL)))))),?_⟩
 rintro f xs ⟨rows,wd,cut,x,y,w⟩ hl ⟨rfl,g,hi⟩
 try dsimp only [zI,zj]
 dsimp only at *
 unfold jO
 refine zV (zN (zo rfl (yF rfl (zv (zi (zv (zi (zv (zi (z4 ?_))))))))))
 refine zV (zN (zp (rows,wd,cut,x,y) ?_))
 walk_at "w"
 rintro _ rfl
 dsimp only
 walk_at "w"
 rw [if_neg aoY,aac]
 unfold acD
 refine yB (fun h=>?_) fun h=>?_
 ·have h':=of_decide_eq_true h
  rw [if_pos h']
  walk_at "w"
  refine yB (fun h2=>?_) fun h2=>?_
  ·walk_at "w"
   rw [if_pos (of_decide_eq_true h2)]
  ·walk_at "w"
   rw [if_neg (of_decide_eq_false h2)]
 ·have h':=of_decide_eq_false h
  rw [if_neg h']
  walk_at "w"
  refine yB (fun h2=>?_) fun h2=>?_
  ·walk_at "w"
   rw [if_pos (of_decide_eq_true h2)]
  ·walk_at "w"
   rw [if_neg (of_decide_eq_false h2)]
abbrev anF:List (Str×List Int):=[("down",[0,0]),("up",[0,-1]),("right",[0,0]),("left",[-1,0])]
abbrev ajZ:List (Str×List Int):=[("down",[0,-1]),("up",[0,0]),("right",[-1,0]),("left",[0,0])]
theorem anG {rows:List (List Int)} {cut x y w:Int} (hw:w=0 \/ w=1):asT (acD rows cut x y w) anF=some [(jB w (hiB rows cut x y)).1,(jB w (hiB rows cut x y)).2]:=by
 unfold acD jB hiB
 rcases hw with rfl | rfl
 ·by_cases h:cut<zD rows x y
  ·rw [if_pos rfl,if_pos h,if_pos rfl,decide_eq_true h,if_pos rfl];decide +kernel
  ·rw [if_pos rfl,if_neg h,if_pos rfl,decide_eq_false h,if_neg aoY];decide +kernel
 ·have e:¬ ((1:Int)=0):=by decide
  by_cases h:cut<zD rows x y
  ·rw [if_neg e,if_pos h,if_neg e,decide_eq_true h,if_pos rfl];decide +kernel
  ·rw [if_neg e,if_neg h,if_neg e,decide_eq_false h,if_neg aoY];decide +kernel
theorem anH {rows:List (List Int)} {cut x y w:Int} (hw:w=0 \/ w=1):asT (acD rows cut x y w) ajZ=some [(jC w (hiB rows cut x y)).1,(jC w (hiB rows cut x y)).2]:=by
 unfold acD jC hiB
 rcases hw with rfl | rfl
 ·by_cases h:cut<zD rows x y
  ·rw [if_pos rfl,if_pos h,if_pos rfl,decide_eq_true h,if_pos rfl];decide +kernel
  ·rw [if_pos rfl,if_neg h,if_pos rfl,decide_eq_false h,if_neg aoY];decide +kernel
 ·have e:¬ ((1:Int)=0):=by decide
  by_cases h:cut<zD rows x y
  ·rw [if_neg e,if_pos h,if_neg e,decide_eq_true h,if_pos rfl];decide +kernel
  ·rw [if_neg e,if_neg h,if_neg e,decide_eq_false h,if_neg aoY];decide +kernel
theorem aj0 {rows:List (List Int)} {wd:Nat} {cut:Int} {g:Gt} (o:opG rows wd cut g=true):z5 rows wd g.1 g.2.1=true:=by
 unfold opG yq ve at o
 rw [ao8,ao8,ao8] at o
 exact o.1.2.1
abbrev GO:=List (List Int)×Nat×Int×Gt
abbrev ah4 (c:GO) (xs:List DV):Prop:=xs=[.dat (tab c.1),.dat (.int c.2.2.1),.dat (gD3 c.2.2.2)]/\Good c.2.1 c.1/\opG c.1 c.2.1 c.2.2.1 c.2.2.2=true
abbrev aeQ (K:aoZ):Sp:=spD K 3 ah4 fun c r=>r=.tuple [.int (ahC c.1 c.2.2.1 c.2.2.2).1,.int (ahC c.1 c.2.2.1 c.2.2.2).2]
theorem ah5 {uaL:Addr} (F:Def K mg "cell_ahead" jm ph) (uaT:mg "AHEAD"=some (.ref uaL)) (uaM:ahB K uaL anF=true) (uaU:FnIn P w K mg base k "heading" ph (afP K)):FnIn P w K mg base (k+1) "cell_ahead" ph (aeQ K):=by
 refine F.ok sc_cell_ahead rfl fun fa cdv A outer s H E hr=>⟨_,(zc (yi (ajf (K:=K) rfl rfl uaT uaM (ze uaU hr rfl (za (pv 0) (za (pv 1) (za (pv 2) zb)))) (fun _ _=>rfl)) (zQ (K:=K) (n:=2) rfl rfl (zk (zh (i:=3) sc_cell_ahead.nd rfl (Or.inl rfl) (Or.inr rfl)) (zk (zh (i:=4) sc_cell_ahead.nd rfl (Or.inl rfl) (Or.inr rfl)) zL)))) (zf (zx (zE (za (zt zT (zP (qT (K:=K) rfl) (pv 2) zd (fun _ _=>rfl)) (pv 3)) (za (zt zT (zP (qT (K:=K) rfl) (pv 2) zd (fun _ _=>rfl)) (pv 4)) zb)))))),?_⟩
 rintro f xs ⟨rows,wd,cut,x,y,w⟩ hl ⟨rfl,g,o⟩
 try dsimp only [zI,zj]
 dsimp only at *
 have hw:=aaz o
 have hin:=aj0 o
 refine zV (zN (al9 (zp (rows,wd,cut,x,y,w) ?_)))
 unfold gD3 at *
 walk_at "w"
 rintro _ rfl
 refine⟨_,_,rfl,anG hw,?_⟩
 refine yF rfl (zv (zi (zv (zi (z4 ?_)))))
 walk_at "w"
 rfl
abbrev agY (K:aoZ):Sp:=spD K 3 ah4 fun c r=>r=.bool (!zW c.1 c.2.1 (bhC c.1 c.2.2.1 c.2.2.2).1 (bhC c.1 c.2.2.1 c.2.2.2).2)
theorem aj1 {uaN:Addr} (F:Def K mg "comes_in" qq ph) (uaV:mg "BEHIND"=some (.ref uaN)) (uaO:ahB K uaN ajZ=true) (uaU:FnIn P w K mg base k "heading" ph (afP K)) (uaW:FnIn P w K mg base k "has_cell" pq (afM K)):FnIn P w K mg base (k+1) "comes_in" ph (agY K):=by
 refine F.ok sc_comes_in rfl fun fa cdv A outer s H E hr=>⟨_,(zc (yi (ajf (K:=K) rfl rfl uaV uaO (ze uaU hr rfl (za (pv 0) (za (pv 1) (za (pv 2) zb)))) (fun _ _=>rfl)) (zQ (K:=K) (n:=2) rfl rfl (zk (zh (i:=3) sc_comes_in.nd rfl (Or.inl rfl) (Or.inr rfl)) (zk (zh (i:=4) sc_comes_in.nd rfl (Or.inl rfl) (Or.inr rfl)) zL)))) (zf (zx (aid (ze uaW hr rfl (za (pv 0) (za (zt zT (zP (qT (K:=K) rfl) (pv 2) zd (fun _ _=>rfl)) (pv 3)) (za (zt zT (zP (qT (K:=K) rfl) (pv 2) zd (fun _ _=>rfl)) (pv 4)) zb)))))))),?_⟩
 rintro f xs ⟨rows,wd,cut,x,y,w⟩ hl ⟨rfl,g,o⟩
 try dsimp only [zI,zj]
 dsimp only at *
 have hw:=aaz o
 have hin:=aj0 o
 refine zV (zN (al9 (zp (rows,wd,cut,x,y,w) ?_)))
 unfold gD3 at *
 walk_at "w"
 rintro _ rfl
 refine⟨_,_,rfl,anH hw,?_⟩
 refine yF rfl (zv (zi (zv (zi (z4 ?_)))))
 walk_at "w"
 refine zp (rows,wd,(bhC rows cut (x,y,w)).1,(bhC rows cut (x,y,w)).2) ?_
 walk_at "w"
 rintro _ rfl
 exact⟨_,rfl,rfl⟩
noncomputable def vn:List (Gt×Gt)->List (PyData×PyData)->List (PyData×PyData)
 | [],kvs=>kvs
 | p :: l,kvs=>vn l (dput (gD3 p.2) (gD3 p.1) (dput (gD3 p.1) (gD3 p.2) kvs))
theorem afR (l:List (Gt×Gt)) (p:Gt×Gt):∀ kvs,vn (l++[p]) kvs=dput (gD3 p.2) (gD3 p.1) (dput (gD3 p.1) (gD3 p.2) (vn l kvs)):=by
 induction l with
 | nil=>intro kvs;rfl
 | cons q l ih=>intro kvs;exact ih _
theorem abL (a b:PyData) (kvs:List (PyData×PyData)):(dput a b kvs).length<=kvs.length+1:=by
 unfold dput
 split
 ·rw [aoX];omega
 ·rw [api];exact ao6 _
theorem ah6 (l:List (Gt×Gt)):∀ kvs,(vn l kvs).length<=kvs.length+2 * l.length:=by
 induction l with
 | nil=>intro kvs;exact ao6 _
 | cons q l ih =>
  intro kvs
  have h1:=ih (dput (gD3 q.2) (gD3 q.1) (dput (gD3 q.1) (gD3 q.2) kvs))
  have h2:=abL (gD3 q.2) (gD3 q.1) (dput (gD3 q.1) (gD3 q.2) kvs)
  have h3:=abL (gD3 q.1) (gD3 q.2) kvs
  show (vn l _).length<=_
  rw [aph]
  omega
theorem adN {a b:Gt} (h:gD3 a=gD3 b):a=b:=by
 obtain⟨x,y,w⟩:=a
 obtain⟨x',y',w'⟩:=b
 unfold gD3 jO at h
 simp at h
 simp [h]
theorem aj2 {rows:List (List Int)} {wd:Nat} {cut x y:Int} (h:zW rows wd x y=true):agT rows wd cut x y=(j8 rows cut x y).map fun p=>pairD p.1 p.2:=by
 have e0:opG rows wd cut (x,y,0)=_:=aay (cut:=cut) h 0
 have e1:opG rows wd cut (x,y,1)=_:=aay (cut:=cut) h 1
 have e2:opG rows wd cut (x,y+1,0)=_:=aay (cut:=cut) h 2
 have e3:opG rows wd cut (x+1,y,1)=_:=aay (cut:=cut) h 3
 unfold agT j8 t4 adJ adK thr cg abJ
 simp only [as1,List.all_nil,apV,asE,e0,e1,e2,e3,Bool.and_true]
 generalize ab3 rows cut x y=M
 generalize hiB rows cut x y=A
 generalize hiB rows cut (x+1) y=B
 generalize hiB rows cut (x+1) (y+1)=C
 generalize hiB rows cut x (y+1)=D
 cases A <;> cases B <;> cases C <;> cases D <;> cases M <;> rfl
theorem aj3 {rows:List (List Int)} {cut x y:Int} {g n:Gt} (h:prt (j8 rows cut x y) g=some n):vV (gD3 g) (vn (j8 rows cut x y) [])=some (gD3 n):=by
 have key:∀ a b:Gt,a≠b->gD3 a≠gD3 b:=fun a b ne z=>ne (adN z)
 have inj:∀ i j:Fin 4,i≠j->gt x y i≠gt x y j:=fun i j ne z=>ne (adL z)
 unfold j8 t4 at h ⊢
 rcases aeP (hiB rows cut x y) (hiB rows cut (x+1) y) (hiB rows cut (x+1) (y+1)) (hiB rows cut x (y+1)) (ab3 rows cut x y) with e | ⟨a,b,n1,e⟩ | ⟨a,b,c,d,n1,n2,n3,n4,n5,n6,e⟩
 ·rw [e] at h;cases h
 ·rw [e] at h ⊢
  have k1:=key _ _ (inj a b n1)
  have k1':=apT k1
  simp only [apq,arT,vn] at h ⊢
  unfold prt at h
  simp only [aq5,List.findSome?_nil] at h
  by_cases c1:gt x y a=g
  ·rw [if_pos c1] at h
   cases h
   simp [dput,vV,k1,k1',<- c1]
  ·rw [if_neg c1] at h
   by_cases c2:gt x y b=g
   ·rw [if_pos c2] at h
    cases h
    simp [dput,vV,k1,k1',<- c2]
   ·rw [if_neg c2] at h;cases h
 ·rw [e] at h ⊢
  have k1:=key _ _ (inj a b n1)
  have k2:=key _ _ (inj a c n2)
  have k3:=key _ _ (inj a d n3)
  have k4:=key _ _ (inj b c n4)
  have k5:=key _ _ (inj b d n5)
  have k6:=key _ _ (inj c d n6)
  have j1:=apT k1
  have j2:=apT k2
  have j3:=apT k3
  have j4:=apT k4
  have j5:=apT k5
  have j6:=apT k6
  simp only [apq,arT,vn] at h ⊢
  unfold prt at h
  simp only [aq5,List.findSome?_nil] at h
  by_cases c1:gt x y a=g
  ·rw [if_pos c1] at h
   cases h
   simp [dput,vV,k1,k2,k3,k4,k5,k6,j1,j2,j3,j4,j5,j6,<- c1]
  ·rw [if_neg c1] at h
   by_cases c2:gt x y b=g
   ·rw [if_pos c2] at h
    cases h
    simp [dput,vV,k1,k2,k3,k4,k5,k6,j1,j2,j3,j4,j5,j6,<- c2]
   ·rw [if_neg c2] at h
    by_cases c3:gt x y c=g
    ·rw [if_pos c3] at h
     cases h
     simp [dput,vV,k1,k2,k3,k4,k5,k6,j1,j2,j3,j4,j5,j6,<- c3]
    ·rw [if_neg c3] at h
     by_cases c4:gt x y d=g
     ·rw [if_pos c4] at h
      cases h
      simp [dput,vV,k1,k2,k3,k4,k5,k6,j1,j2,j3,j4,j5,j6,<- c4]
     ·rw [if_neg c4] at h;cases h
def adO:Option Gt->PyData
 | none=>.none
 | some g=>gD3 g
abbrev aj4 (K:aoZ):Sp:=spD K 3 ah4 fun c r=>r=adO (yh c.1 c.2.1 c.2.2.1 c.2.2.2)
theorem qN (g:Gt):ahy (gD3 g):=⟨⟨rfl,ap8 rfl⟩,_,rfl⟩
theorem alA (F:Def K mg "gate_ahead" jn ph) (ub3:FnIn P w K mg base k "cell_ahead" ph (aeQ K)) (uaW:FnIn P w K mg base k "has_cell" pq (afM K)) (ub4:FnIn P w K mg base k "cell_ties" pj (agU K)) :
  FnIn P w K mg base (k+1) "gate_ahead" ph (aj4 K):=by
 refine F.ok sc_gate_ahead rfl fun fa cdv A outer s H E hr=>⟨_,(zc (yi (ze ub3 hr rfl (za (pv 0) (za (pv 1) (za (pv 2) zb)))) (zQ (K:=K) (n:=2) rfl rfl (zk (zh (i:=3) sc_gate_ahead.nd rfl (Or.inl rfl) (Or.inr rfl)) (zk (zh (i:=4) sc_gate_ahead.nd rfl (Or.inl rfl) (Or.inr rfl)) zL)))) (zc (yb (aam (yg (K:=K) rfl (ze uaW hr rfl (za (pv 0) (za (pv 3) (za (pv 4) zb)))) (fun _=>rfl))) (zf (zx aa8)) zH) (zc (zC (i:=5) sc_gate_ahead.nd rfl (Or.inl rfl) (ahA (w:=w) rfl)) (zc (jP ap0 rfl (zS (K:=K) rfl (ze ub4 hr rfl (za (pv 0) (za (pv 1) (za (zE (za (pv 3) (za (pv 4) zb))) zb))))) (zQ (K:=K) (n:=2) rfl rfl (zk (zh (i:=6) sc_gate_ahead.nd rfl (Or.inl rfl) (Or.inr rfl)) (zk (zh (i:=7) sc_gate_ahead.nd rfl (Or.inl rfl) (Or.inr rfl)) zL))) (zc (yi (pv 7) (abb (pv 5) (pv 6) (aeq (w:=w) (K:=K) rfl rfl hr.units))) (zf (yi (pv 6) (abb (pv 5) (pv 7) (aeq (w:=w) (K:=K) rfl rfl hr.units)))))) (zf (zx (zP (ak1 (w:=w) (K:=K) rfl rfl hr.units) (pv 5) (pv 2) (fun _ _=>rfl)))))))),?_⟩
 rintro f xs ⟨rows,wd,cut,g⟩ hl ⟨rfl,gd,o⟩
 try dsimp only [zI,zj]
 dsimp only at *
 refine zV (zN (zp (rows,wd,cut,g) ?_))
 walk_at "w"
 rintro _ rfl
 dsimp only
 refine yF rfl (zv (zi (zv (zi (z4 ?_)))))
 refine zV (vJ (ack (jx (zp (rows,wd,(ahC rows cut g).1,(ahC rows cut g).2) ?_))))
 walk_at "w"
 rintro _ rfl
 refine⟨_,rfl,?_⟩
 dsimp only
 refine yB (fun h=>?_) fun h=>?_
 ·have hc:zW rows wd (ahC rows cut g).1 (ahC rows cut g).2=false:=by simpa using h
  walk_at "w"
  unfold yh
  rw [hc,if_neg aoY]
  rfl
 ·have hc:zW rows wd (ahC rows cut g).1 (ahC rows cut g).2=true:=by simpa using h
  obtain⟨n,hn,_⟩:=qZ o hc
  have hp:prt (j8 rows cut (ahC rows cut g).1 (ahC rows cut g).2) g=some n:=by
   unfold yh at hn
   rw [if_pos hc] at hn
   exact hn
  have tl:(j8 rows cut (ahC rows cut g).1 (ahC rows cut g).2).length<=2:=by
   unfold j8 t4
   rw [aoX]
   rcases aeP (hiB rows cut (ahC rows cut g).1 (ahC rows cut g).2) (hiB rows cut ((ahC rows cut g).1+1) (ahC rows cut g).2) (hiB rows cut ((ahC rows cut g).1+1) ((ahC rows cut g).2+1)) (hiB rows cut (ahC rows cut g).1 ((ahC rows cut g).2+1)) (ab3 rows cut (ahC rows cut g).1 (ahC rows cut g).2) with e | ⟨a,b,n1,e⟩ | ⟨a,b,c,d,n1,n2,n3,n4,n5,n6,e⟩ <;> rw [e] <;> simp
  refine jh (ai7 (w:=w) (al7 (am9 ⟨show 5<8 by decide,fun D=>?_⟩)))
  refine aby (ai9 (yu (PEdO.ped (ac7 (rows,wd,cut,(ahC rows cut g).1,(ahC rows cut g).2) ?_))))
  walk_at "w"
  rintro _ rfl
  dsimp only
  rw [aj2 hc]
  refine⟨_,rfl,fun i ρ cs=>(∃ u v,ρ=[some (.dat (tab rows)),some (.dat (.int cut)),some (.dat (gD3 g)),some (.dat (.int (ahC rows cut g).1)),some (.dat (.int (ahC rows cut g).2)),some (.own (f.M.length+0)),u,v])/\cs=[.dic (vn ((j8 rows cut (ahC rows cut g).1 (ahC rows cut g).2).take i) [])],⟨⟨_,_,rfl⟩,rfl⟩,?_,?_⟩
  ·rintro i d _ _ hd ⟨⟨u,v,rfl⟩,rfl⟩
   rw [ao5] at hd
   cases hq:(j8 rows cut (ahC rows cut g).1 (ahC rows cut g).2)[i]? with
   | none=>rw [hq] at hd;cases hd
   | some q =>
    rw [hq] at hd
    cases hd
    have tk:(j8 rows cut (ahC rows cut g).1 (ahC rows cut g).2).take (i+1)=(j8 rows cut (ahC rows cut g).1 (ahC rows cut g).2).take i++[q]:=by
     rw [ars,hq]
     rfl
    have hl:=ah6 ((j8 rows cut (ahC rows cut g).1 (ahC rows cut g).2).take i) []
    rw [apK] at hl
    simp only [aql] at hl
    refine yF rfl (zv (zi (zv (zi (z4 ?_)))))
    refine aby (al8 (i:=5) (j:=0) rfl rfl (by omega) ?_)
    walk_at "w"
    refine⟨qN _,?_⟩
    have hl2:=abL (gD3 q.1) (gD3 q.2) (vn ((j8 rows cut (ahC rows cut g).1 (ahC rows cut g).2).take i) [])
    refine al8 (i:=5) (j:=0) rfl rfl (by omega) ?_
    walk_at "w"
    refine⟨qN _,⟨_,_,rfl⟩,?_⟩
    rw [tk,afR]
    rfl
  ·rintro _ _ ⟨⟨u,v,rfl⟩,rfl⟩
   rw [aoX,apU]
   refine aop (aoo (i:=5) (j:=0) rfl rfl (ai8 (zo rfl ⟨qN _,_,aj3 hp,?_⟩)))
   show gD3 n=adO (yh rows wd cut g)
   rw [hn]
   rfl
theorem agZ {α:Type} [DecidableEq α]:∀ (l m:List α),l.Nodup->(∀ x∈l,x∈m)->m.length<=l.length->∀ x∈m,x∈l
 | [],m,_,_,hl,x,hx=>by
  have:m=[]:=List.length_eq_zero_iff.mp (Nat.le_zero.mp hl)
  rw [this] at hx
  exact hx
 | a :: l,m,nd,sub,hl,x,hx=>by
  have ha:=sub a (apa ..)
  have hn:=apS.mp nd
  have le:=asm ha
  rw [aph] at hl
  by_cases e:x=a
  ·rw [e];exact apa ..
  ·refine ao3 _ (agZ l (m.erase a) hn.2 (fun y hy=>?_) (by omega) x ((arJ e).mpr hx))
   exact (arJ (fun (z:y=a)=>hn.1 (z▸hy))).mpr (sub y (ao3 _ hy))
theorem len_sub {α:Type} [DecidableEq α]:∀ (l m:List α),l.Nodup->(∀ x∈l,x∈m)->l.length<=m.length
 | [],m,_,_=>apC _
 | a :: l,m,nd,sub=>by
  have ha:=sub a (apa ..)
  have hn:=apS.mp nd
  have le:=asm ha
  have hp:0<m.length:=asC ha
  have:=len_sub l (m.erase a) hn.2 (fun y hy=>(arJ (fun (z:y=a)=>hn.1 (z▸hy))).mpr (sub y (ao3 _ hy)))
  rw [aph]
  omega
theorem v5 {α β:Type} {f:α->β} {l1 l2:List β} (h:l1.Perm l2):∀ ts:List α,l2=ts.map f->∃ us:List α,us.Perm ts/\l1=us.map f:=by
 induction h with
 | nil=>intro ts e;exact⟨ts,.refl _,e⟩
 | cons x _ ih =>
  intro ts e
  cases ts with
  | nil=>cases e
  | cons t ts =>
   rw [apq] at e
   injection e with e1 e2
   obtain⟨us,p,q⟩:=ih ts e2
   exact⟨t :: us,.cons t p,by rw [apq,<- q,e1]⟩
 | swap x y l =>
  intro ts e
  match ts,e with
  | [],e=>cases e
  | [_],e=>cases e
  | a :: b :: ts,e =>
   simp only [apq] at e
   injection e with e1 e2
   injection e2 with e2 e3
   exact⟨b :: a :: ts,.swap a b ts,by rw [apq,apq,e1,e2,e3]⟩
 | trans _ _ ih1 ih2 =>
  intro ts e
  obtain⟨us,p,q⟩:=ih2 ts e
  obtain⟨vs,p2,q2⟩:=ih1 us q
  exact⟨vs,p2.trans p,q2⟩
section
variable (rows:List (List Int)) (wd:Nat) (cut:Int)
structure LineOk (ring:Bool) (l:List Gt):Prop where
 op:∀ g∈l,opG rows wd cut g=true
 nd:l.Nodup
 ch:∀ (i:Nat) a b,l[i]?=some a->l[i+1]?=some b->yh rows wd cut a=some b
 ne:l≠[]
 last:∀ g,l.getLast?=some g->yh rows wd cut g=if ring=true then l.head? else none
structure WalkOk (s:Gt) (l:List Gt):Prop where
 op:∀ g∈l,opG rows wd cut g=true
 nd:l.Nodup
 ch:∀ (i:Nat) a b,l[i]?=some a->l[i+1]?=some b->yh rows wd cut a=some b
 hd:l.head?=some s
end
section
variable {rows:List (List Int)} {wd:Nat} {cut:Int}
theorem ah7 {t n:Nat} {x y w:Int} (hx:0<=x/\x<n) (hy:0<=y/\y<t) (hw:w=0 \/ w=1):(x,y,w)∈yJ t n:=by
 obtain⟨a,rfl⟩:=asv hx.1
 obtain⟨b,rfl⟩:=asv hy.1
 refine apL.mpr ⟨a,apr.mpr (by omega),apL.mpr ⟨b,apr.mpr (by omega),?_⟩⟩
 rcases hw with rfl | rfl
 ·exact apa ..
 ·exact ao3 _ (apa ..)
theorem alB {g:Gt} (o:opG rows wd cut g=true):z5 rows wd g.1 g.2.1=true:=by
 unfold opG yq ve at o
 rw [ao8,ao8,ao8] at o
 exact o.1.2.1
theorem mem_gates {g:Gt}:g∈yd rows wd cut↔opG rows wd cut g=true:=by
 rw [qM,aqf]
 refine⟨fun h=>h.2,fun o=>⟨?_,o⟩⟩
 obtain⟨x,y,w⟩:=g
 have hw:=aaz o
 obtain⟨a,b,c,d⟩:=jA (alB o)
 exact ah7 ⟨a,b⟩ ⟨c,d⟩ hw
theorem gates_nd:(yd rows wd cut).Nodup:=by
 rw [qM]
 refine ((aeN _ _).filter _).imp fun {a b} h e=>?_
 subst e
 unfold gLt at h
 omega
theorem aaf {l:List Gt} (gd:Good wd rows) (o:∀ g∈l,opG rows wd cut g=true) (nd:l.Nodup):l.length<=98 :=
 apm (len_sub l (yd rows wd cut) nd fun x hx=>mem_gates.mpr (o x hx)) (acF gd)
theorem aj5 {s:Gt} (o:opG rows wd cut s=true):WalkOk rows wd cut s [s] :=
 ⟨fun g hg=>by rw [apo.mp hg];exact o,apS.mpr ⟨aqa,aqD⟩,fun i a b _ h=>(nomatch h),rfl⟩
theorem ah8 {s n g:Gt} {l:List Gt} (W:WalkOk rows wd cut s l) (hl:l.getLast?=some g) (hn:yh rows wd cut g=some n) (ne:n≠s):WalkOk rows wd cut s (l++[n]):=by
 have hg:g∈l:=asU hl
 have hli:l[l.length - 1]?=some g:=by rw [<-ar5];exact hl
 have pos:0<l.length:=asC hg
 have hnew:n∉l:=fun hm=>by
  obtain⟨i,hi⟩:=apN hm
  match i,hi with
  | 0,hi =>
   have:=W.hd
   rw [art,hi] at this
   exact ne (Option.some.inj this)
  | i+1,hi =>
   obtain⟨hlt,_⟩:=ao1.mp hi
   have hi':l[i]?=some l[i]:=aoW (by omega)
   have hc:=W.ch i _ _ hi' hi
   have e:=abK (W.op _ (ao4 hi')) (W.op _ hg) hc hn
   rw [e,<- hli] at hi'
   have:=(List.getElem?_inj (by omega) W.nd).mp hi'
   omega
 refine⟨fun x hx=>?_,?_,fun i a b ha hb=>?_,?_⟩
 ·rcases aps.mp hx with h | h
  ·exact W.op x h
  ·rw [apo.mp h];exact (aaA (W.op g hg) hn).1
 ·refine aqv.mpr ⟨W.nd,apS.mpr ⟨aqa,aqD⟩,fun a ha b hb e=>?_⟩
  rw [apo.mp hb] at e
  exact hnew (e▸ha)
 ·by_cases h:i+1<l.length
  ·rw [ao9 (by omega)] at ha
   rw [ao9 h] at hb
   exact W.ch i a b ha hb
  ·obtain⟨hlt,_⟩:=ao1.mp hb
   rw [api,apO] at hlt
   have e:i=l.length - 1:=by omega
   rw [ao9 (by omega),e,hli] at ha
   rw [apd (by omega),show i+1 - l.length=0 by omega] at hb
   cases ha
   cases hb
   exact hn
 ·cases l with
  | nil=>cases pos
  | cons a l=>exact W.hd
theorem acI {s g:Gt} {l:List Gt} (W:WalkOk rows wd cut s l) (hl:l.getLast?=some g) {ring:Bool} (h:yh rows wd cut g=if ring=true then some s else none):LineOk rows wd cut ring l where
 op:=W.op
 nd:=W.nd
 ch:=W.ch
 ne:=fun z=>by rw [z] at hl;cases hl
 last:=fun g' hg'=>by
  rw [hl] at hg'
  cases hg'
  rw [h,W.hd]
def afS (rows:List (List Int)) (wd:Nat) (cut:Int) (t:Bool×List Gt):Prop:=t.1=false->∀ h,t.2.head?=some h->yO rows wd cut h=none
theorem next_prev {g n:Gt} (o:opG rows wd cut g=true) (h:yh rows wd cut g=some n):yO rows wd cut n=some g:=by
 have c:zW rows wd (ahC rows cut g).1 (ahC rows cut g).2=true:=by
  unfold yh at h
  by_cases z:zW rows wd (ahC rows cut g).1 (ahC rows cut g).2=true
  ·exact z
  ·rw [if_neg z] at h;cases h
 obtain⟨m,a1,_,_,_,a2⟩:=qZ o c
 rw [h] at a1
 cases a1
 exact a2
theorem prev_next {g n:Gt} (o:opG rows wd cut g=true) (h:yO rows wd cut g=some n):opG rows wd cut n=true/\yh rows wd cut n=some g:=by
 have c:zW rows wd (bhC rows cut g).1 (bhC rows cut g).2=true:=by
  unfold yO at h
  by_cases z:zW rows wd (bhC rows cut g).1 (bhC rows cut g).2=true
  ·exact z
  ·rw [if_neg z] at h;cases h
 obtain⟨m,a1,_,a3,_,a2⟩:=adM o c
 rw [h] at a1
 cases a1
 exact⟨a3,a2⟩
theorem adP {t:Bool×List Gt} (ne:t.2≠[]):∃ z,t.2.getLast?=some z/\z∈t.2:=⟨t.2.getLast ne,List.getLast?_eq_some_getLast ne,List.getLast_mem ne⟩
theorem aeR {t:Bool×List Gt} (L:LineOk rows wd cut t.1 t.2) (st:afS rows wd cut t) {g n:Gt} (o:opG rows wd cut g=true) (hn:n∈t.2) (h:yh rows wd cut g=some n):g∈t.2:=by
 obtain⟨i,hi⟩:=apN hn
 match i,hi with
 | 0,hi =>
  have hh:t.2.head?=some n:=by rw [art];exact hi
  cases hr:t.1 with
  | false =>
   have:=st hr n hh
   rw [next_prev o h] at this
   cases this
  | true =>
   obtain⟨z,hz,hm⟩:=adP L.ne
   have:=L.last z hz
   rw [hr,if_pos rfl,hh] at this
   rw [abK o (L.op z hm) h this]
   exact hm
 | i+1,hi =>
  obtain⟨hlt,_⟩:=ao1.mp hi
  have hi':t.2[i]?=some t.2[i]:=aoW (by omega)
  have hc:=L.ch i _ _ hi' hi
  have hm:=ao4 hi'
  rw [abK o (L.op _ hm) h hc]
  exact hm
theorem aeS {t:Bool×List Gt} (L:LineOk rows wd cut t.1 t.2) {g n:Gt} (hg:g∈t.2) (h:yh rows wd cut g=some n):n∈t.2:=by
 obtain⟨i,hi⟩:=apN hg
 obtain⟨hlt,_⟩:=ao1.mp hi
 by_cases hl:i+1<t.2.length
 ·have hi':t.2[i+1]?=some t.2[i+1]:=aoW hl
  have hc:=L.ch i _ _ hi hi'
  rw [h] at hc
  rw [Option.some.inj hc]
  exact ao4 hi'
 ·have e:i=t.2.length - 1:=by omega
  have hz:t.2.getLast?=some g:=by rw [ar5,<- e];exact hi
  have:=L.last g hz
  rw [h] at this
  by_cases hr:t.1=true
  ·rw [if_pos hr] at this
   exact List.mem_of_head? this.symm
  ·rw [if_neg hr] at this
   cases this
theorem alC (gd:Good wd rows) {g:Gt} (o:opG rows wd cut g=true):zW rows wd (ahC rows cut g).1 (ahC rows cut g).2=true \/ zW rows wd (bhC rows cut g).1 (bhC rows cut g).2=true:=by
 have hw:=aaz o
 obtain⟨x,y,w⟩:=g
 have o':yq rows wd cut x y w=true:=o
 unfold yq ve at o'
 rw [ao8,ao8,ao8] at o'
 obtain⟨a0,a1,a2,a3⟩:=jA o'.1.2.1
 obtain⟨b0,b1,b2,b3⟩:=jA o'.1.2.2
 have h1:=gd.h1
 have w1:=gd.w1
 have cb:∀ {u v:Int},0<=u->u+1<wd->0<=v->v+1<rows.length->zW rows wd u v=true:=fun p q r s=>by
  unfold zW z5
  rw [decide_eq_true (by omega),decide_eq_true (by omega),decide_eq_true (by omega),decide_eq_true (by omega)]
  rfl
 unfold ahC bhC jB jC
 dsimp only at hw ⊢
 rcases hw with rfl | rfl
 ·have e1:px x 0=x+1:=rfl
  rw [e1] at b1
  cases hiB rows cut x y
  ·by_cases h:y+1<rows.length
   ·left;exact cb (by simp;omega) (by simp;omega) (by simp;omega) (by simp;omega)
   ·right;exact cb (by simp;omega) (by simp;omega) (by simp;omega) (by simp;omega)
  ·by_cases h:y+1<rows.length
   ·right;exact cb (by simp;omega) (by simp;omega) (by simp;omega) (by simp;omega)
   ·left;exact cb (by simp;omega) (by simp;omega) (by simp;omega) (by simp;omega)
 ·have e1:py y 1=y+1:=rfl
  rw [e1] at b3
  cases hiB rows cut x y
  ·by_cases h:x+1<wd
   ·right;exact cb (by simp;omega) (by simp;omega) (by simp;omega) (by simp;omega)
   ·left;exact cb (by simp;omega) (by simp;omega) (by simp;omega) (by simp;omega)
  ·by_cases h:x+1<wd
   ·left;exact cb (by simp;omega) (by simp;omega) (by simp;omega) (by simp;omega)
   ·right;exact cb (by simp;omega) (by simp;omega) (by simp;omega) (by simp;omega)
theorem anI (gd:Good wd rows) {t:Bool×List Gt} (L:LineOk rows wd cut t.1 t.2) (st:afS rows wd cut t):2<=t.2.length:=by
 obtain⟨r,l⟩:=t
 match l,L,st with
 | [],L,_=>exact absurd rfl L.ne
 | [g],L,st =>
  have o:=L.op g (apa ..)
  have hl:=L.last g rfl
  cases r with
  | true =>
   exact absurd rfl (aaA o hl).2
  | false =>
   have hp:yO rows wd cut g=none:=st rfl g rfl
   have hl:yh rows wd cut g=none:=hl
   rcases alC gd o with c | c
   ·obtain⟨n,h,_⟩:=qZ o c
    rw [hl] at h;cases h
   ·obtain⟨n,h,_⟩:=adM o c
    rw [hp] at h;cases h
 | _ :: _ :: _,_,_=>exact Nat.le_add_left 2 _
end
section
variable (rows:List (List Int)) (wd:Nat) (cut:Int)
def flat (ts:List (Bool×List Gt)):List Gt:=ts.flatMap (·.2)
structure Told (ts:List (Bool×List Gt)):Prop where
 line:∀ t∈ts,LineOk rows wd cut t.1 t.2
 st:∀ t∈ts,afS rows wd cut t
 nd:(flat ts).Nodup
 least:∀ t∈ts,t.1=true->∀ h,t.2.head?=some h->∀ g∈t.2,g=h \/ gLt h g
end
section
variable {rows:List (List Int)} {wd:Nat} {cut:Int} {ts:List (Bool×List Gt)}
theorem Told.op (T:Told rows wd cut ts) {g:Gt} (h:g∈flat ts):opG rows wd cut g=true:=by
 obtain⟨t,ht,hg⟩:=apL.mp h
 exact (T.line t ht).op g hg
theorem Told.len (T:Told rows wd cut ts) (gd:Good wd rows):(flat ts).length<=98:=aaf gd (fun g hg=>T.op hg) T.nd
theorem aeT:∀ (ts:List (Bool×List Gt)),(∀ t∈ts,2<=t.2.length)->2 * ts.length<=(flat ts).length
 | [],_=>ao6 _
 | t :: ts,h=>by
  have h1:=h t (apa ..)
  have h2:=aeT ts fun u hu=>h u (ao3 _ hu)
  show 2 * (ts.length+1)<=(t.2++flat ts).length
  rw [api]
  omega
theorem Told.few (T:Told rows wd cut ts) (gd:Good wd rows):ts.length<=49:=by
 have h1:=aeT ts fun t ht=>anI gd (T.line t ht) (T.st t ht)
 have h2:=T.len gd
 omega
theorem va (ts:List (Bool×List Gt)) (t:Bool×List Gt):flat (ts++[t])=flat ts++t.2:=by
 unfold flat
 rw [aqe]
 simp
theorem Told.fresh (T:Told rows wd cut ts) {r:Bool} {l:List Gt} (L:LineOk rows wd cut r l) {s:Gt} (hs:l.head?=some s) (hn:s∉flat ts):∀ g∈l,g∉flat ts:=by
 have key:∀ (i:Nat) g,l[i]?=some g->g∉flat ts:=fun i=>by
  induction i with
  | zero =>
   intro g hg
   rw [art,hg] at hs
   rw [Option.some.inj hs]
   exact hn
  | succ i ih =>
   intro g hg hm
   obtain⟨hlt,_⟩:=ao1.mp hg
   have hi':l[i]?=some l[i]:=aoW (by omega)
   have hc:=L.ch i _ _ hi' hg
   obtain⟨t,ht,hgt⟩:=apL.mp hm
   exact ih _ hi' (apL.mpr ⟨t,ht,aeR (T.line t ht) (T.st t ht) (L.op _ (ao4 hi')) hgt hc⟩)
 intro g hg
 obtain⟨i,hi⟩:=apN hg
 exact key i g hi
theorem Told.more (T:Told rows wd cut ts) {r:Bool} {l:List Gt} (L:LineOk rows wd cut r l) {s:Gt} (hs:l.head?=some s) (hn:s∉flat ts) (st:r=false->yO rows wd cut s=none) (le:r=true->∀ g∈l,g=s \/ gLt s g):Told rows wd cut (ts++[(r,l)]) where
 line:=fun t ht=>by
  rcases aps.mp ht with h | h
  ·exact T.line t h
  ·rw [apo.mp h];exact L
 st:=fun t ht=>by
  rcases aps.mp ht with h | h
  ·exact T.st t h
  ·rw [apo.mp h]
   intro hr h hh
   rw [show (r,l).2.head?=some s from hs] at hh
   rw [<-Option.some.inj hh]
   exact st hr
 nd:=by
  rw [va]
  refine aqv.mpr ⟨T.nd,L.nd,fun a ha b hb e=>?_⟩
  exact T.fresh L hs hn b hb (e▸ha)
 least:=fun t ht=>by
  rcases aps.mp ht with h | h
  ·exact T.least t h
  ·rw [apo.mp h]
   intro hr h hh
   rw [show (r,l).2.head?=some s from hs] at hh
   rw [<-Option.some.inj hh]
   exact le hr
theorem anJ {r:Bool} {l:List Gt} (L:LineOk rows wd cut r l) {s:Gt} (hs:l.head?=some s) (hp:yO rows wd cut s=none):r=false:=by
 cases r with
 | false=>rfl
 | true =>
  obtain⟨z,hz,hm⟩:=adP (t:=(true,l)) L.ne
  have:=L.last z hz
  rw [if_pos rfl,hs] at this
  have:=next_prev (L.op z hm) this
  rw [hp] at this
  cases this
theorem alD (T:Told rows wd cut ts) (all:∀ g,opG rows wd cut g=true->yO rows wd cut g=none->g∈flat ts) {r:Bool} {l:List Gt} (L:LineOk rows wd cut r l) {s:Gt} (hs:l.head?=some s) (hn:s∉flat ts):r=true:=by
 cases r with
 | true=>rfl
 | false =>
  obtain⟨z,hz,hm⟩:=adP (t:=(false,l)) L.ne
  have hnone:yh rows wd cut z=none:=L.last z hz
  let U:=(yd rows wd cut).filter fun g=>decide (g∉flat ts)
  have memU:∀ g,g∈U↔opG rows wd cut g=true/\g∉flat ts:=fun g=>by
   show g∈List.filter _ _↔_
   rw [aqf,mem_gates,decide_eq_true_eq]
  let pr:Gt->Gt:=fun g=>(yO rows wd cut g).getD g
  have prU:∀ g∈U,yO rows wd cut g=some (pr g)/\yh rows wd cut (pr g)=some g/\pr g∈U:=fun g hg=>by
   obtain⟨o,nf⟩:=(memU g).mp hg
   cases hp:yO rows wd cut g with
   | none=>exact absurd (all g o hp) nf
   | some p =>
    have e:pr g=p:=by show (yO rows wd cut g).getD g=p;rw [hp];rfl
    obtain⟨op,hnx⟩:=prev_next o hp
    rw [e]
    refine⟨rfl,hnx,(memU p).mpr ⟨op,fun hm=>?_⟩⟩
    obtain⟨t,ht,hpt⟩:=apL.mp hm
    exact nf (apL.mpr ⟨t,ht,aeS (T.line t ht) hpt hnx⟩)
  have ndU:U.Nodup:=gates_nd.filter _
  have ndP:(U.map pr).Nodup:=by
   refine aqx.mpr (ndU.imp_of_mem fun {a b} ha hb ne e=>ne ?_)
   have h1:=(prU a ha).2.1
   have h2:=(prU b hb).2.1
   rw [e,h2] at h1
   exact (Option.some.inj h1).symm
  have zU:z∈U:=(memU z).mpr ⟨L.op z hm,T.fresh L hs hn z hm⟩
  have:=agZ (U.map pr) U ndP (fun x hx=>by obtain⟨g,hg,rfl⟩:=apy.mp hx;exact (prU g hg).2.2) (by rw [aoX];exact ao6 _) z zU
  obtain⟨g,hg,rfl⟩:=apy.mp this
  rw [(prU g hg).2.1] at hnone
  cases hnone
def j9 (t:Bool×List Gt):PyData:=.tuple [.str (if t.1=true then "ring" else "run"),.tuple (t.2.map gD3)]
theorem aeU (l:List Gt):zK (l.map gD3)=true:=by
 induction l with
 | nil=>rfl
 | cons g l ih=>show (zA (gD3 g) && zK (l.map gD3))=true;rw [ih];rfl
theorem afT (t:Bool×List Gt):zA (j9 t)=true:=by
 show (zA (.str _) && (zA (.tuple (t.2.map gD3)) && true))=true
 rw [show zA (.tuple (t.2.map gD3))=zK (t.2.map gD3) from rfl,aeU]
 cases t.1 <;> decide +kernel
theorem acJ:∀ l m:List Gt,vP (l.map gD3) (m.map gD3)=true
 | [],m=>by rw [arT,vP]
 | g :: l,[]=>rfl
 | (x,y,w) :: l,(x',y',w') :: m=>by
  rw [apq,apq,vP]
  split
  ·exact acJ l m
  ·show aaS (.tuple [.int x,.int y,.int w]) (.tuple [.int x',.int y',.int w'])=true
   simp only [aaS,vP]
   split
   ·split
    ·split <;> rfl
    ·rfl
   ·rfl
theorem aj6 (t u:Bool×List Gt):aaS (j9 t) (j9 u)=true:=by
 unfold j9
 generalize (if t.1=true then ("ring":Str) else "run")=a
 generalize (if u.1=true then ("ring":Str) else "run")=b
 rw [aaS,vP]
 split
 ·rw [vP]
  split
  ·rfl
  ·rw [aaS];exact acJ _ _
 ·rfl
theorem aeV (l:List Gt):apb (l.map gD3)<=1:=by
 induction l with
 | nil=>exact apC _
 | cons g l ih=>exact Nat.max_le.mpr ⟨ao6 1,ih⟩
theorem afU (t:Bool×List Gt):(j9 t).depth<=3:=by
 show max 0 (max (apb (t.2.map gD3)+1) 0)+1<=3
 have:=aeV t.2
 omega
theorem aj7 {a b:Gt} (h:gD3 a=gD3 b):a=b:=by
 obtain⟨x,y,w⟩:=a
 obtain⟨x',y',w'⟩:=b
 unfold gD3 jO at h
 simp at h
 simp [h]
theorem aj8 (T:Told rows wd cut ts):SortOk "str" (ts.map j9) where
 plain:=fun d hd=>by obtain⟨t,_,rfl⟩:=apy.mp hd;exact afT t
 head:=fun d hd=>by obtain⟨t,_,rfl⟩:=apy.mp hd;rfl
 cmp:=fun d hd e he=>by
  obtain⟨t,_,rfl⟩:=apy.mp hd
  obtain⟨u,_,rfl⟩:=apy.mp he
  exact aj6 t u
 depth:=fun d hd=>by obtain⟨t,_,rfl⟩:=apy.mp hd;exact apm (afU t) (by decide)
 nd:=by
  have h:=(List.pairwise_flatMap.mp T.nd).2
  refine aqx.mpr (h.imp_of_mem fun {a b} ha hb hd e=>?_)
  unfold j9 at e
  have e2:a.2.map gD3=b.2.map gD3:=by
   injection e with e
   injection e with _ e
   injection e with e _
   injection e
  cases ha2:a.2 with
  | nil=>exact (T.line a ha).ne ha2
  | cons g l =>
   cases hb2:b.2 with
   | nil=>exact (T.line b hb).ne hb2
   | cons g' l' =>
    rw [ha2,hb2,apq,apq] at e2
    injection e2 with e2 _
    exact hd g (by rw [ha2];exact apa ..) g' (by rw [hb2];exact apa ..) (aj7 e2)
theorem Told.perm {us:List (Bool×List Gt)} (T:Told rows wd cut ts) (p:us.Perm ts):Told rows wd cut us where
 line:=fun t ht=>T.line t (p.mem_iff.mp ht)
 st:=fun t ht=>T.st t (p.mem_iff.mp ht)
 nd:=(p.flatMap_right _).nodup_iff.mpr T.nd
 least:=fun t ht=>T.least t (p.mem_iff.mp ht)
end
section
variable {K:aoZ} {f:Fx} {ρ:zm} {ta:TE} {P:PyData->Prop}
def abM:PyData->Bool
 | .none=>true
 | _=>false
theorem acK {H:Hp} {d:PyData} {v:V} (r:Rep K H d v) (h:d=.none \/ ∃ ds,d=.tuple ds):decide (v=.non)=abM d:=by
 rcases h with rfl | ⟨ds,rfl⟩
 ·rw [show v=.non from r];rfl
 ·obtain⟨a,xs,rfl,_⟩:=rep_tuple.mp r
  rfl
theorem anK (h:PEd K f ta ρ fun d=>(d=.none \/ ∃ ds,d=.tuple ds)/\P (.bool (!abM d))):PEd K f (tOp (fun x y H Q=>y=.non/\Q (.bl (!decide (x=.non))) H) ta (tC .non)) ρ P:=fun σ H Q e q =>
 h σ H _ e fun d v H1 g1 r1 ⟨hd,p⟩=>⟨rfl,q _ _ H1 g1 (by show Rep K _ (.bool _) (.bl _);rw [acK r1 hd];rfl) p⟩
theorem amf (h:PEd K f ta ρ fun d=>(d=.none \/ ∃ ds,d=.tuple ds)/\P (.bool (abM d))):PEd K f (tOp (fun x y H Q=>y=.non/\Q (.bl (decide (x=.non))) H) ta (tC .non)) ρ P:=fun σ H Q e q =>
 h σ H _ e fun d v H1 g1 r1 ⟨hd,p⟩=>⟨rfl,q _ _ H1 g1 (by show Rep K _ (.bool _) (.bl _);rw [acK r1 hd];rfl) p⟩
end
abbrev aj9 (K:aoZ):Sp:=spD K 3 ah4 fun c r=>∃ ring l,r=j9 (ring,l)/\LineOk c.1 c.2.1 c.2.2.1 ring l/\l.head?=some c.2.2.2
theorem anL (a b:Gt):apD (gD3 a) (gD3 b)=decide (a=b):=by
 obtain⟨x,y,w⟩:=a
 obtain⟨x',y',w'⟩:=b
 show (decide (x=x') && (decide (y=y') && (decide (w=w') && true)))=_
 by_cases h1:x=x' <;> by_cases h2:y=y' <;> by_cases h3:w=w' <;> simp [h1,h2,h3]
theorem afV (q:Option Gt):adO q=.none \/ ∃ ds,adO q=.tuple ds:=by
 cases q with
 | none=>exact .inl rfl
 | some g=>exact .inr ⟨_,rfl⟩
theorem alE (F:Def K mg "line_from" jL pO) (uaq:mg "tuple"=none) (ubN:FnIn P w K mg base k "gate_ahead" ph (aj4 K)) :
  FnIn P w K mg base (k+1) "line_from" pO (aj9 K):=by
 refine F.ok sc_line_from rfl fun fa cdv A outer s H E hr=>⟨_,(zc (zC (i:=3) sc_line_from.nd rfl (Or.inl rfl) (z8 (za (pv 2) zb))) (zc (zC (i:=4) sc_line_from.nd rfl (Or.inl rfl) (ze ubN hr rfl (za (pv 0) (za (pv 1) (za (pv 2) zb))))) (zc (adU ap0 (PW.pt (amq (zG afZ (pv 4) aa8 (zM _)) (akq (zG (qB (K:=K) rfl hr.units) (pv 4) (pv 2) (zM _))))) (zc (ym (af6 aqF aq9 ara aao (pv 3) (za (pv 4) zb))) (zf (zC (i:=4) sc_line_from.nd rfl (Or.inl rfl) (ze ubN hr rfl (za (pv 0) (za (pv 1) (za (pv 4) zb)))))))) (zf (zx (zE (za (vD (zG amw (pv 4) aa8 (zM _)) yL yL) (za (jr (aaI (K:=K) rfl) rfl uaq asw (za (pv 3) zb)) zb)))))))),?_⟩
 rintro f xs ⟨rows,wd,cut,g⟩ hl ⟨rfl,gd,o⟩
 try dsimp only [zI,zj]
 dsimp only at *
 refine ai7 (w:=w) (al7 (agy (aec ?_)))
 walk_at "w"
 refine⟨show 3<5 by decide,fun D=>?_⟩
 refine aby (afq (zN (zp (rows,wd,cut,g) ?_)))
 walk_at "w"
 rintro _ rfl
 refine zi ?_
 refine aby (akU (fun ρ cs=>∃ l z,ρ=[some (.dat (tab rows)),some (.dat (.int cut)),some (.dat (gD3 g)),some (.own (f.M.length+0)),some (.dat (adO (yh rows wd cut z)))]/\cs=[.lst (l.map gD3)]/\WalkOk rows wd cut g l/\l.getLast?=some z) (fun _ cs=>match cs with | [.lst es]=>200 - es.length | _=>0) ⟨[g],g,rfl,rfl,aj5 o,rfl⟩ ?_)
 rintro _ _ ⟨l,z,rfl,rfl,W,hz⟩
 have oz:=W.op z (asU hz)
 have wl:=aaf gd W.op W.nd
 have ml:(l.map gD3).length=l.length:=aoX ..
 refine aoO (aix (yI (anK (zo rfl ⟨afV _,?_⟩))))
 refine⟨_,rfl,?_⟩
 have fr:∀ x:PyData,asr (freed f.M.length [OC.lst (l.map gD3)]) [some (DV.dat (tab rows)),some (.dat (.int cut)),some (.dat (gD3 g)),some (.own (f.M.length+0)),some (.dat x)]=[some (.dat (tab rows)),some (.dat (.int cut)),some (.dat (gD3 g)),some (.dat (.list (l.map gD3))),some (.dat x)]:=fun x=>by simp [freed]
 cases hn:yh rows wd cut z with
 | none =>
  rw [show (!abM (adO none))=false from rfl,if_neg aoY,if_neg aoY]
  refine aja ?_
  rw [fr]
  refine yc (y6 (zB (akD (yI (amf (zo rfl ⟨.inl rfl,_,rfl,?_⟩))))))
  rw [show abM (adO none)=true from rfl,if_pos rfl]
  walk_at "w"
  exact⟨false,l,rfl,acI W hz (by rw [hn];rfl),W.hd⟩
 | some n =>
  rw [show (!abM (adO (some n)))=true from rfl,if_pos rfl]
  rw [show adO (some n)=gD3 n from rfl]
  refine yI (vI (zo rfl (zo rfl ⟨rfl,rfl,ap8 rfl,_,rfl,?_⟩)))
  rw [if_pos rfl,anL]
  by_cases ng:n=g
  ·rw [decide_eq_true ng,show (!true)=false from rfl,if_neg aoY]
   refine aja ?_
   rw [fr]
   refine yc (y6 (zB (akD (yI (amf (zo rfl ⟨.inr ⟨_,rfl⟩,_,rfl,?_⟩))))))
   rw [show abM (gD3 n)=false from rfl,if_neg aoY]
   walk_at "w"
   exact⟨true,l,rfl,acI W hz (by rw [hn,ng];rfl),W.hd⟩
  ·rw [decide_eq_false ng,show (!false)=true from rfl,if_pos rfl]
   have W2:=ah8 W hz hn ng
   have wl2:=aaf gd W2.op W2.nd
   rw [api,apO] at wl2
   refine aby (al6 (i:=3) (j:=0) rfl rfl (by omega) (ai8 (zo rfl ?_)))
   refine afq (zN (zp (rows,wd,cut,n) ?_))
   have on:=(aaA oz hn).1
   walk_at "w"
   rintro _ rfl
   refine zi ⟨⟨l++[n],n,rfl,?_,W2,by simp⟩,?_⟩
   ·show [OC.lst (l.map gD3++[gD3 n])]=[OC.lst ((l++[n]).map gD3)]
    rw [apv]
    rfl
   ·show 200 - (l.map gD3++[gD3 n]).length<200 - (l.map gD3).length
    rw [api,apO]
    omega
abbrev ag0 (K:aoZ):Sp:=spN K 2 (fun (c:List (List Int)×Nat×Int) xs=>xs=[.dat (tab c.1),.dat (.int c.2.2)]/\Good c.2.1 c.1) fun c es=>∃ ts,es=ts.map j9/\Told c.1 c.2.1 c.2.2 ts/\(∀ g,opG c.1 c.2.1 c.2.2 g=true->g∈flat ts)/\es.Pairwise fun d e=>ltD d e=true
def inB (rows:List (List Int)) (wd:Nat) (cut:Int) (g:Gt):Bool:=!zW rows wd (bhC rows cut g).1 (bhC rows cut g).2
theorem aka {rows:List (List Int)} {wd:Nat} {cut:Int} {g:Gt} (o:opG rows wd cut g=true):inB rows wd cut g=true↔yO rows wd cut g=none:=by
 unfold inB
 by_cases h:zW rows wd (bhC rows cut g).1 (bhC rows cut g).2=true
 ·obtain⟨n,hn,_⟩:=adM o h
  rw [h,hn]
  simp
 ·rw [Bool.not_eq_true] at h
  unfold yO
  rw [h]
  simp
theorem akb (F:Def K mg "lines" aa2 pz) (uaX:mg "set"=none) (uaY:mg "sorted"=none) (uac:FnIn P w K mg base k "ask_table" pf (abG K)) (ub5:FnIn P w K mg base k "gates" pz (agP K)) (ub6:FnIn P w K mg base k "comes_in" ph (agY K)) (ub7:FnIn P w K mg base k "line_from" pO (aj9 K)):FnIn P w K mg base (k+1) "lines" pz (ag0 K):=by
 refine F.okN sc_lines rfl fun fa cdv A outer s H E hr=>⟨_,(zc (ym (ze uac hr rfl (za (pv 0) zb))) (zc (zC (i:=2) sc_lines.nd rfl (Or.inl rfl) (ze ub5 hr rfl (za (pv 0) (za (pv 1) zb)))) (zc (zC (i:=3) sc_lines.nd rfl (Or.inl rfl) (zt (vO (K:=K) rfl) (ya (N:=pF) (own:=1) (fr:=[0,1]) ⟨rfl,by decide +kernel,of_decide_eq_true (by kernel_rfl),of_decide_eq_true (by kernel_rfl),of_decide_eq_true (by kernel_rfl),rfl⟩ rfl (zS (K:=K) rfl (pv 2)) (fun _ _ _ _=>(zh (i:=0) (show (pF:List Str).Nodup by decide +kernel) rfl (Or.inl rfl) (Or.inr rfl))) (fun _ _ _ _=>(aaW (yg (K:=K) rfl (ze ub6 hr rfl (za (pv 1) (za (pv 2) (za (pv 0) zb)))) (fun _=>rfl)))) (fun _ _ _ _=>(pv 0)) rfl rfl (fun _=>rfl)) (pv 2))) (zc (zC (i:=4) sc_lines.nd rfl (Or.inl rfl) (z8 zb)) (zc (zC (i:=5) sc_lines.nd rfl (Or.inl rfl) (ae9 (adl (w:=w) rfl) rfl uaX PyProof.Rows.boot_set)) (zc (jP ap0 rfl (zS (K:=K) rfl (pv 3)) (zh (i:=6) sc_lines.nd rfl (Or.inl rfl) (Or.inr rfl)) (zf (yb (zG (afr (w:=w) (K:=K) rfl rfl hr.units) (pv 6) (pv 5) rfl) (zc (zC (i:=7) sc_lines.nd rfl (Or.inl rfl) (ze ub7 hr rfl (za (pv 0) (za (pv 1) (za (pv 6) zb))))) (zc (ym (af6 aqF aq9 ara aao (pv 4) (za (pv 7) zb))) (zf (jP ap0 rfl (ac1 (K:=K) rfl (zP (qT (K:=K) rfl) (pv 7) zd (fun _ _=>rfl))) (zh (i:=8) sc_lines.nd rfl (Or.inl rfl) (Or.inr rfl)) (zf (ym (am6 (w:=w) rfl asS PySem.F.type_set_add (ajd (w:=w) (K:=K) rfl rfl hr.units) (pv 5) (za (pv 8) zb)))))))) zH))) (zf (zx (zu (ade (K:=K) rfl hr.units) rfl uaY PyProof.Rows.boot_sorted (za (pv 4) zb)))))))))),?_⟩
 rintro f xs ⟨rows,wd,cut⟩ hl ⟨rfl,gd⟩
 try dsimp only [zI,zj]
 dsimp only at *
 have gl:=acF (cut:=cut) gd
 refine qG (qA (zp (rows,wd) ?_))
 walk_at "w"
 rintro _ rfl
 refine qG (zN (PEdO.ped (ac7 (rows,wd,cut) ?_)))
 walk_at "w"
 rintro _ rfl
 dsimp only
 rw [<-qM]
 refine zi ?_
 refine qG (zN (ac6 (PEdO.ped (qD (yu (zo rfl ⟨_,rfl,fun n ρ es=>(∃ u,ρ=[u,some (.dat (tab rows)),some (.dat (.int cut))])/\es=(((yd rows wd cut).take n).filter (inB rows wd cut)).map gD3,⟨⟨_,rfl⟩,rfl⟩,?_,?_⟩))))))
 ·rintro D n d ρ' es hd ⟨⟨u,rfl⟩,rfl⟩
  rw [ao5] at hd
  cases hq:(yd rows wd cut)[n]? with
  | none=>rw [hq] at hd;cases hd
  | some q =>
   rw [hq] at hd
   cases hd
   have oq:=mem_gates.mp (ao4 hq)
   have tk:(yd rows wd cut).take (n+1)=(yd rows wd cut).take n++[q]:=by
    rw [ars,hq]
    rfl
   have len:((((yd rows wd cut).take n).filter (inB rows wd cut)).map gD3).length<1000:=by
    rw [aoX]
    have a1:=ap7 (inB rows wd cut) ((yd rows wd cut).take n)
    rw [apK] at a1
    omega
   refine zi (jx (zp (rows,wd,cut,q) ?_))
   walk_at "w"
   rintro _ rfl
   dsimp only
   refine⟨_,rfl,?_⟩
   refine yB (fun h=>?_) fun h=>?_
   ·refine yC len ?_
    walk_at "w"
    rw [tk,ap9,apv,apV,show inB rows wd cut q=true from h,if_pos rfl]
    rfl
   ·refine⟨⟨_,rfl⟩,?_⟩
    rw [tk,ap9,apv,apV,show inB rows wd cut q=false from h,if_neg aoY]
    simp
 ·rintro ρ' es ⟨_,rfl⟩
  rw [aoX,apU]
  have il:((yd rows wd cut).filter (inB rows wd cut)).length<=98:=apm (ap7 _ _) gl
  refine⟨_,rfl,zo rfl ⟨_,rfl,by rw [aoX,aoX];omega,?_⟩⟩
  refine zi ?_
  dsimp only
  rw [<-apv]
  refine akV (w:=w) (ajb (agy (aec ?_)))
  walk_at "w"
  refine⟨show 4<9 by decide,fun D1=>?_⟩
  refine ajb (am7 ⟨show 5<9 by decide,fun D2=>?_⟩)
  refine am4 (ai9 (yu (zo rfl ?_)))
  generalize hS:(yd rows wd cut).filter (inB rows wd cut)++yd rows wd cut=S
  generalize hG:PyData.list (asr gD3 (yd rows wd cut))=G
  refine⟨_,rfl,fun i ρ cs=>∃ ts u v x,ρ=[some (.dat (tab rows)),some (.dat (.int cut)),some (.dat G),some (.dat (.list (S.map gD3))),some (.own (f.M.length+0)),some (.own (f.M.length+1)),u,v,x]/\cs=[.lst (ts.map j9),.set ((flat ts).map gD3).reverse]/\Told rows wd cut ts/\∀ j g,j<i->S[j]?=some g->g∈flat ts,?_,?_,?_⟩
  ·exact⟨[],_,_,_,rfl,rfl,⟨(fun _ h=>nomatch h),(fun _ h=>nomatch h),aqD,(fun _ h=>nomatch h)⟩,fun j g h=>absurd h (apZ _)⟩
  ·rintro i d _ _ hd ⟨ts,u,v,x,rfl,rfl,T,past⟩
   rw [ao5] at hd
   cases hq:S[i]? with
   | none=>rw [hq] at hd;cases hd
   | some q =>
    rw [hq] at hd
    cases hd
    have oq:opG rows wd cut q=true:=by
     have hm:=ao4 hq
     rw [<-hS] at hm
     rcases aps.mp hm with h | h
     ·exact mem_gates.mp (aqf.mp h).1
     ·exact mem_gates.mp h
    have memk:(gD3 q∈((flat ts).map gD3).reverse)↔q∈flat ts:=by
     rw [ap4,apy]
     exact⟨fun⟨a,ha,e⟩=>adN e▸ha,fun h=>⟨q,h,rfl⟩⟩
    refine zi (aoP (aom (i:=5) (j:=1) rfl rfl (ai8 (zo rfl ⟨qN _,?_⟩))))
    rw [if_pos rfl]
    by_cases hin:q∈flat ts
    ·rw [decide_eq_true (memk.mpr hin),show (!true)=false from rfl,if_neg aoY]
     refine am3 ⟨ts,_,_,_,rfl,rfl,T,fun j g hj hg=>?_⟩
     rcases asn.mp hj with h | h
     ·exact past j g h hg
     ·rw [h,hq] at hg
      cases hg
      exact hin
    ·rw [decide_eq_false (fun z=>hin (memk.mp z)),show (!false)=true from rfl,if_pos rfl]
     refine aby (afq (zN (zp (rows,wd,cut,q) ?_)))
     walk_at "w"
     rintro _ ⟨ring,l,rfl,L,hh⟩
     dsimp only at L hh
     have T2:Told rows wd cut (ts++[(ring,l)]):=by
      by_cases hi:i<((yd rows wd cut).filter (inB rows wd cut)).length
      ·have hp:yO rows wd cut q=none:=by
        rw [<-hS,ao9 hi] at hq
        exact (aka oq).mp (aqf.mp (ao4 hq)).2
       have r0:=anJ L hh hp
       exact T.more L hh hin (fun _=>hp) fun z=>by rw [r0] at z;cases z
      ·have all:∀ g,opG rows wd cut g=true->yO rows wd cut g=none->g∈flat ts:=fun g og hp=>by
        have hm:g∈(yd rows wd cut).filter (inB rows wd cut):=aqf.mpr ⟨mem_gates.mpr og,(aka og).mpr hp⟩
        obtain⟨j,hj⟩:=apN hm
        obtain⟨hlt,_⟩:=ao1.mp hj
        refine past j g (by omega) ?_
        rw [<-hS,ao9 hlt]
        exact hj
       have r1:=alD T all L hh hin
       refine T.more L hh hin (fun z=>by rw [r1] at z;cases z) fun _ g hg=>?_
       have fr:=T.fresh L hh hin g hg
       obtain⟨j,hj⟩:=apN (mem_gates.mpr (L.op g hg))
       have hq':=hq
       rw [<-hS,apd (by omega)] at hq'
       have pw:(yd rows wd cut).Pairwise gLt:=by rw [qM];exact (aeN _ _).filter _
       obtain⟨l1,e1⟩:=ao1.mp hj
       obtain⟨l2,e2⟩:=ao1.mp hq'
       rcases Nat.lt_trichotomy j (i - ((yd rows wd cut).filter (inB rows wd cut)).length) with h | h | h
       ·refine absurd (past (j+((yd rows wd cut).filter (inB rows wd cut)).length) g (by omega) ?_) fr
        rw [<-hS,apd (by omega),Nat.add_sub_cancel]
        exact hj
       ·left
        rw [<-e1,<- e2]
        congr 1
       ·right
        rw [<-e1,<- e2]
        exact aqs.mp pw _ _ l2 l1 h
     have hf:=T2.len gd
     have nd2:=T2.nd
     rw [va] at nd2 hf
     have few:=T.few gd
     refine zi ?_
     refine aby (al6 (i:=4) (j:=0) rfl rfl (by rw [aoX];omega) (ai8 (zo rfl ?_)))
     refine ai9 (aiG (aiv (zo rfl ?_)))
     walk_at "w"
     refine⟨fun m ρ cs=>∃ x,ρ=[some (.dat (tab rows)),some (.dat (.int cut)),some (.dat G),some (.dat (.list (S.map gD3))),some (.own (f.M.length+0)),some (.own (f.M.length+1)),some (.dat (gD3 q)),some (.dat (j9 (ring,l))),x]/\cs=[.lst ((ts++[(ring,l)]).map j9),.set ((flat ts++l.take m).map gD3).reverse],?_,?_,?_⟩
     ·refine⟨_,rfl,?_⟩
      rw [List.take_zero,apB,apv]
      rfl
     ·rintro m d _ _ hd ⟨x,rfl,rfl⟩
      rw [ao5] at hd
      cases hg:l[m]? with
      | none=>rw [show (ring,l).2[m]?=none from hg] at hd;cases hd
      | some g =>
       rw [show (ring,l).2[m]?=some g from hg] at hd
       cases hd
       have tk:l.take (m+1)=l.take m++[g]:=by
        rw [ars,hg]
        rfl
       have sp:l=l.take m++g :: l.drop (m+1):=by
        obtain⟨hlt,e⟩:=ao1.mp hg
        rw [<-e,<- List.drop_eq_getElem_cons hlt,arz]
       have hnew:g∉flat ts++l.take m:=fun z=>by
        have nd3:(flat ts++l).Nodup:=nd2
        rw [sp,<- aqQ] at nd3
        exact (aqv.mp nd3).2.2 g z g (apa ..) rfl
       have len:(((flat ts++l.take m).map gD3).reverse).length<300:=by
        rw [asY,aoX,api,apK]
        have:(flat ts++l).length<=98:=hf
        rw [api] at this
        omega
       refine zi (aon (i:=5) (j:=1) rfl rfl len (ai8 (zo rfl ⟨qN _,fun z=>?_,fun _=>?_⟩)))
       ·rw [ap4,apy] at z
        obtain⟨a,ha,e⟩:=z
        exact absurd (adN e▸ha) hnew
       ·refine⟨_,rfl,?_⟩
        show [OC.lst _,OC.set (gD3 g :: ((flat ts++l.take m).map gD3).reverse)]=_
        rw [tk,<- aqQ,apv (l₁:=flat ts++l.take m),aqA]
        rfl
     ·rintro _ _ ⟨x,rfl,rfl⟩
      refine⟨ts++[(ring,l)],_,_,_,rfl,?_,T2,fun j g hj hg=>?_⟩
      ·rw [aoX,show (ring,l).2.length=l.length from rfl,apU,va]
      ·rw [va]
       rcases asn.mp hj with h | h
       ·exact apQ _ (past j g h hg)
       ·rw [h,hq] at hg
        cases hg
        exact apg _ (List.mem_of_head? hh)
  ·rintro _ _ ⟨ts,u,v,x,rfl,rfl,T,past⟩
   have few:=T.few gd
   refine akW (abr (aiU "str" (zo (i:=4) (d:=.list (ts.map j9)) ?_ ⟨_,rfl,aj8 T,by rw [aoX];omega,.inl (by rw [aoX];omega),fun es pm up=>?_⟩)))
   ·show some (freed _ _ _)=_
    simp [freed]
   ·obtain⟨us,p,rfl⟩:=v5 pm ts rfl
    refine⟨us,rfl,T.perm p,fun g og=>?_,up⟩
    have hm:g∈S:=by rw [<-hS];exact apg _ (mem_gates.mpr og)
    obtain⟨j,hj⟩:=apN hm
    obtain⟨hlt,_⟩:=ao1.mp hj
    exact (p.flatMap_right _).mem_iff.mpr (past j g (by rw [aoX];exact hlt) hj)
abbrev scr (ns:List Int):PyData:=.list (ns.map .int)
theorem ag1 {K:aoZ} {H:Hp} {a:Addr} {ns:List Int} (h:SqL K H a (ns.map V.int)):Rep K (hide H L2.f0) (scr ns) (.ref a):=by
 rw [yN]
 exact rep_list.mpr ⟨a,_,rfl,h,Reps.ints' ns⟩
theorem alF {K:aoZ} {H:Hp} {v:V} {ns:List Int} (h:Rep K (hide H L2.f0) (scr ns) v):∃ a,v=.ref a/\SqL K H a (ns.map V.int):=by
 rw [yN] at h
 obtain⟨a,xs,rfl,h1,h2⟩:=rep_list.mp h
 rw [h2.ints] at h1
 exact⟨a,rfl,h1⟩
def afW (K:aoZ):Sp:=fun vs H Q _=>∃ (a:Addr) (ns:List Int) (i:Int),vs=[.ref a,.int i]/\SqL K H a (ns.map V.int)/\ns.length<=63/\0<=i/\i<=63 /\
 ∀ (p:Addr) (x y:Int) (H':Hp),Same H H'->H p=none->H' p=some (.lst [.int x,.int y])->0<=x->0<=y->y<2147483647->Q (.ref p) H'
def ag2 (K:aoZ):Sp:=fun vs H Q _=>∃ (a:Addr) (ns:List Int),vs=[.ref a]/\SqL K H a (ns.map V.int)/\ns.length<=63/\∀ H',Q (.bl true) H'
theorem alG {K:aoZ} {f:Fx} {t:TA} {ρ:zm} {R R':List DV->Prop} (h:PAd K f t ρ R) (i:∀ xs,R xs->R' xs):PAd K f t ρ R':=fun σ H Q e q=>h σ H Q e fun xs vs H' g r p=>q xs vs H' g r (i xs p)
theorem anM {K:aoZ} {ρ:zm} {ns:List Int} {i:Int} {E2:XK} (h0:ρ[0]?=some (some (.dat (scr ns)))) (h1:ρ[1]?=some (some (.dat (.int i)))) (hl:ns.length<=63) (i0:0<=i) (i1:i<=63) :
  ∀ (σ:L2.St) (H:Hp) (Q:VK),EnvOk K L2.f0 ρ σ H->(∀ (p:Addr) (x y:Int) (H':Hp),Same H H'->H p=none->H' p=some (.lst [.int x,.int y])->0<=x->0<=y->y<2147483647->Q (.ref p) H')->vg (afW K) [] E2 (zY (z6 0) (zY (z6 1) y4)) σ H Q:=by
 intro σ H Q e q
 obtain⟨v0,hv0,r0⟩:=e.get 0 _ h0
 obtain⟨v1,hv1,r1⟩:=e.get 1 _ h1
 obtain⟨a,rfl,hS⟩:=alF r0
 have e1:v1=.int i:=rep_int.mp (show Rep K (hide H L2.f0) (.int i) v1 from r1)
 subst e1
 exact⟨_,hv0,_,hv1,a,ns,i,rfl,hS,hl,i0,i1,q⟩
theorem anN {K:aoZ} {f:Fx} {ρ:zm} {P:PyData->Prop} {i:Nat} {rows:List (List Int)} (hi:ρ[i]?=some (some (.dat (tab rows)))) (hl:rows.length<=1000) (p:P (tab rows)) :
  PEd K f (jf (ab6 K (z6 i)) 1 [] (yz 0) acZ fun D=>jv D (tCB (fun xs H Q=>∃ p ys,xs=[V.ref p]/\(SqL K H p ys \/ SqT K H p ys)/\∀ l,H l=none->Q (V.ref l) (upd H l (HO.lst ys))) (zY (z6 0) y4))) ρ P:=by
 refine PEdO.ped (vN (A:=fun r:List Int=>PyData.list (r.map .int)) (B:=fun r:List Int=>PyData.list (r.map .int)) rows (yu (zo hi ⟨_,rfl,rfl,hl,?_,p⟩)))
 rintro D r ρ' es hr ho hes
 obtain⟨u,rfl⟩:=ho.one
 refine zi (y7 ?_)
 rw [if_pos rfl]
 exact yC hes (aiA (zB (zo rfl (yk (.inl ⟨_,rfl,.mk1,rfl⟩)))))
theorem alH (F:Def K mg "_law_feed" qt pQ) (uab:mg "len"=none) (uah:mg "abs"=none):FnIn P w K mg base (k+1) "_law_feed" pQ (afW K):=by
 refine F.raw sc_law_feed (fun vs H Q E h=>?_) fun fa cdv A outer s H vs Q E hr hs=>⟨_,(zc (zC (i:=2) sc_law_feed.nd rfl (Or.inl rfl) zd) (zc (yb (zG ab8 (zu (zO (K:=K) rfl) rfl uab apG (za (pv 0) zb)) zd (zM _)) (zf (zC (i:=2) sc_law_feed.nd rfl (Or.inl rfl) (zP (zy (K:=K) rfl) (pv 0) (zt vp (pv 1) (zu (zO (K:=K) rfl) rfl uab apG (za (pv 0) zb))) (fun _ _=>rfl)))) zH) (zf (zx (z8 (za (zu (vG) rfl uah aqM (za (pv 2) zb)) (za (zt zT (zt vo zd (pv 1)) zd) zb))))))),?_⟩
 ·obtain⟨a,ns,i,rfl,_⟩:=h
  rfl
 obtain⟨a,ns,i,rfl,hS,h63,i0,i1,q⟩:=hs
 have e0:EnvOk K L2.f0 (jR vB [.dat (scr ns),.dat (.int i)]) (start vB [.ref a,.int i]) H:=jt (.cons (ag1 hS) (.cons (show RepV K L2.f0 H (.dat (.int i)) (.int i) from (rep_int (K:=K) (H:=hide H L2.f0)).mpr rfl) .nil)) (L2.fok0 H)
 refine aiE (D:={ nx:=fun ρ=>ρ=[some (.dat (scr ns)),some (.dat (.int i)),some (.dat (.int 0))],rt:=fun _=>False }) ?_ e0 ?_ (fun _ _ _ _ _ z=>z.elim) (fun _ z=>z) (fun _ z=>z)
 ·walk_at "w"
  rfl
 rintro _ σ1 H1 g1 e1 rfl
 refine aiE (D:={ nx:=fun ρ=>∃ c:Int,ρ=[some (.dat (scr ns)),some (.dat (.int i)),some (.dat (.int c))],rt:=fun _=>False }) ?_ e1 ?_ (fun _ _ _ _ _ z=>z.elim) (fun _ z=>z) (fun _ z=>z)
 ·walk_at "w"
  rw [aoX]
  by_cases h:0<ns.length
  ·rw [if_pos (by simpa using h)]
   walk_at "w"
   rw [aoX]
   have z0:=arM i (b:=(ns.length:Int)) (by omega)
   have z1:=aqr i (b:=(ns.length:Int)) (by omega)
   refine⟨by omega,_,rfl,_,qw (j:=(i % (ns.length:Int)).toNat) (by omega) (by omega),?_⟩
   walk_at "w"
   exact⟨_,rfl⟩
  ·rw [if_neg (by simpa using h)]
   walk_at "w"
   exact⟨_,rfl⟩
 rintro _ σ2 H2 g2 e2 ⟨c,rfl⟩
 unfold ag9
 have ss:Same H H2:=(L2.same0 g1).trans (L2.same0 g2)
 refine aiF (R:=fun ds=>∃ x y:Int,ds=[.int x,.int y]/\0<=x/\0<=y/\y<2147483647) ?_ e2 ?_
 ·walk_at "w"
  omega
 ·rintro p ds vs H3 g3 hn rs ⟨x,y,rfl,hx,hy,hy'⟩
  have sf:Same H H3:=ss.trans (L2.same0 g3)
  have ev:vs=[.int x,.int y]:=Reps.ints (ns:=[x,y]) rs
  subst ev
  exact q p x y _ (sf.trans (zR hn _)) (sf.free hn) zq hx hy hy'
abbrev abN (K:aoZ):Sp:=spD K 2 (fun (c:Int×Int) xs=>xs=[.dat (.int c.1),.dat (.int c.2)]) fun c r=>r=.int (ap5 c.1 c.2:Int)
def aoV:zm->Nat
 | [_,some (.dat (.int b))]=>b.toNat
 | _=>0
theorem akc (a b:Nat):ate b (a % b)=ate a b:=by rw [Nat.gcd_comm b,<- Nat.gcd_rec,Nat.gcd_comm]
theorem ah9 (F:Def K mg "common" v9 pG) (uah:mg "abs"=none):FnIn P w K mg base (k+1) "common" pG (abN K):=by
 refine F.ok sc_common rfl fun fa cdv A outer s H E hr=>⟨_,(zc (aif (i:=0) (j:=1) rfl sc_common.nd rfl rfl (by decide) rfl rfl (za (zu (vG) rfl uah aqM (za (pv 0) zb)) (za (zu (vG) rfl uah aqM (za (pv 1) zb)) zb)) rfl) (zc (adU ap0 (yg (K:=K) rfl (pv 1) (fun _=>rfl)) (zf (aif (i:=0) (j:=1) rfl sc_common.nd rfl rfl (by decide) rfl rfl (za (pv 1) (za (zt vp (pv 0) (pv 1)) zb)) rfl))) (zf (zx (pv 0))))),?_⟩
 rintro f xs ⟨a,b⟩ hl rfl
 try dsimp only [zI,zj]
 dsimp only at *
 refine zV (al3 ?_)
 walk_at "w"
 have ha:(if a<0 then -a else a)=(a.natAbs:Int):=by split <;> omega
 have hb:(if b<0 then -b else b)=(b.natAbs:Int):=by split <;> omega
 refine (akH (fun ρ=>∃ p q:Nat,ρ=[some (.dat (.int p)),some (.dat (.int q))]/\ate p q=ap5 a b) aoV ⟨a.natAbs,b.natAbs,?_,rfl⟩ ?_)
 ·rw [ha,hb]
  rfl
 rintro _ ⟨p,q,rfl,h⟩
 walk_at "w"
 refine yB (fun h2=>?_) fun h2=>?_
 ·have hq:0<q:=by
   have:(q:Int)≠0:=by simpa using h2
   omega
  refine al3 ?_
  walk_at "w"
  refine⟨⟨q,p % q,?_,?_⟩,?_⟩
  ·rfl
  ·rw [akc];exact h
  ·show ((p:Int) % (q:Int)).toNat<((q:Int)).toNat
   have:=Nat.mod_lt p hq
   omega
 ·have hq:q=0:=by
   have:(q:Int)=0:=by simpa using h2
   omega
  subst hq
  walk_at "w"
  rw [Nat.gcd_zero_right] at h
  rw [h]
abbrev Fr2:=Int×Int
def frD (p:Fr2):PyData:=.tuple [.int p.1,.int p.2]
abbrev ag3 (K:aoZ):Sp:=spD K 2 (fun (c:Fr2) xs=>xs=[.dat (.int c.1),.dat (.int c.2)]/\c.2≠0/\c.2.natAbs<vd) fun c r=>r=anv (ar1 c.1 c.2)
theorem akd (F:Def K mg "shortened" jJ pN) (uaZ:FnIn P w K mg base k "common" pG (abN K)):FnIn P w K mg base (k+1) "shortened" pN (ag3 K):=by
 refine F.ok sc_shortened rfl fun fa cdv A outer s H E hr=>⟨_,(zc (zC (i:=2) sc_shortened.nd rfl (Or.inl rfl) (ze uaZ hr rfl (za (pv 0) (za (pv 1) zb)))) (zc (yb (zG abd (pv 1) zd (zM _)) (zf (zC (i:=2) sc_shortened.nd rfl (Or.inl rfl) (aik ae5 (pv 2)))) zH) (zf (zx (zE (za (zt v7 (pv 0) (pv 2)) (za (zt v7 (pv 1) (pv 2)) zb))))))),?_⟩
 rintro f xs ⟨t,b⟩ hl ⟨rfl,b0,bh⟩
 try dsimp only [zI,zj]
 dsimp only at *
 obtain⟨s1,s2⟩:=ahQ (t:=t) b0
 have gp:0<ap5 t b:=arP t b0
 have gl:ap5 t b<=b.natAbs:=Nat.le_of_dvd (by omega) (Int.ofNat_dvd_left.mp (Int.gcd_dvd_right t b))
 refine zV (zN (zp (t,b) (ajE rfl rfl ⟨rfl,rfl,?_⟩)))
 rintro _ rfl
 refine zi (jY (fun ρ=>ρ=[some (.dat (.int t)),some (.dat (.int b)),some (.dat (.int (b.sign * (ap5 t b:Int))))]) ?_ ?_)
 ·refine aex (b<0) (t_b (acj (zo rfl ⟨_,rfl,jw ⟨_,rfl,_,rfl,rfl⟩⟩))) (fun h=>?_) fun h=>jh ?_
  ·refine zN (aiN (zo rfl ⟨_,rfl,zi ?_⟩))
   rw [aqc h,Int.neg_one_mul]
   rfl
  ·have:0<b:=by omega
   rw [aqq this,atc]
   rfl
 rintro _ rfl
 have nz:b.sign * ((ap5 t b:Nat):Int)≠0:=Int.mul_ne_zero (fun z=>b0 (Int.sign_eq_zero_iff_zero.mp z)) (by omega)
 have nh:(b.sign * ((ap5 t b:Nat):Int)).natAbs<vd:=by
  rw [Int.natAbs_mul,aqL]
  have:b.sign.natAbs=1:=by
   rcases arq b 0 with h | h | h
   ·rw [aqc h];rfl
   ·exact absurd h b0
   ·rw [aqq h];rfl
  rw [this,Nat.one_mul]
  omega
 refine yc (y6 (zB (yP (zo rfl ⟨_,rfl,zo rfl ⟨_,rfl,⟨nz,nh⟩,zB (yP (zo rfl ⟨_,rfl,zo rfl ⟨_,rfl,⟨nz,nh⟩,yk ⟨_,rfl,by show 2<=1000;decide,?_⟩⟩⟩))⟩⟩))))
 show PyData.tuple [.int _,.int _]=anv _
 rw [s1,s2]
 rfl
theorem aag {rows:List (List Int)} {wd:Nat} {cut x y w:Int} (h:yq rows wd cut x y w=true):ve rows wd x y w=true:=by
 unfold yq at h
 rw [ao8] at h
 exact h.1
theorem aa4 {rows:List (List Int)} {wd:Nat} {x y:Int} (g:Good wd rows) (h:z5 rows wd x y=true):-1000000000<=zD rows x y/\zD rows x y<=1000000000:=by
 obtain⟨x0,x1,y0,y1⟩:=jA h
 have hy:y.toNat<rows.length:=by omega
 have hr:=g.row _ (apu hy)
 have hx:x.toNat<rows[y.toNat].length:=by omega
 have:=g.hgt _ (apu hy) _ (apu hx)
 unfold zD
 rw [ao0,ao0,aoW hy,Option.getD_some,aoW hx]
 exact this
def TT (rows:List (List Int)) (cut x y:Int):Int:=2 * cut+1 - 2 * zD rows x y
def BB (rows:List (List Int)) (x y w:Int):Int:=2 * (zD rows (px x w) (py y w) - zD rows x y)
theorem abO {rows:List (List Int)} {wd:Nat} {cut x y w:Int} (h:yq rows wd cut x y w=true):(0<TT rows cut x y/\TT rows cut x y<BB rows x y w) \/ (TT rows cut x y<0/\BB rows x y w<TT rows cut x y):=by
 unfold yq at h
 rw [ao8] at h
 have h2:=h.2
 unfold TT BB
 generalize zD rows x y=a at *
 generalize zD rows (px x w) (py y w)=b at *
 by_cases ha:cut<a
 ·by_cases hb:cut<b
  ·rw [decide_eq_true ha,decide_eq_true hb] at h2
   cases h2
  ·omega
 ·by_cases hb:cut<b
  ·omega
  ·rw [decide_eq_false ha,decide_eq_false hb] at h2
   cases h2
theorem amg {rows:List (List Int)} {wd:Nat} {cut x y w:Int} (h:yq rows wd cut x y w=true):BB rows x y w≠0:=by
 have:=abO h
 omega
theorem amh {rows:List (List Int)} {wd:Nat} {cut x y w:Int} (g:Good wd rows) (h:yq rows wd cut x y w=true):(BB rows x y w).natAbs<=4000000000:=by
 obtain⟨i1,i2⟩:=qK (aag h)
 have b1:=aa4 g i1
 have b2:=aa4 g i2
 unfold BB
 omega
def shQ (rows:List (List Int)) (cut:Int) (g:Gt):Rat:=ar1 (TT rows cut g.1 g.2.1) (BB rows g.1 g.2.1 g.2.2)
def plT (rows:List (List Int)) (cut:Int) (g:Gt):Gt:=if g.2.2=0 then (g.1 * ((shQ rows cut g).den:Int)+(shQ rows cut g).num,g.2.1 * ((shQ rows cut g).den:Int),((shQ rows cut g).den:Int)) else (g.1 * ((shQ rows cut g).den:Int),g.2.1 * ((shQ rows cut g).den:Int)+(shQ rows cut g).num,((shQ rows cut g).den:Int))
theorem ami {rows:List (List Int)} {wd:Nat} {cut:Int} {g:Gt} (gd:Good wd rows) (o:opG rows wd cut g=true):(shQ rows cut g).num.natAbs<=4000000000/\(shQ rows cut g).den<=4000000000/\0<(shQ rows cut g).den:=by
 have h1:=amh gd o
 have h2:=abO o
 refine⟨apm (afB _ _) (by omega),apm (afC (amg o)) h1,(shQ rows cut g).den_pos⟩
def PlB (p:Gt):Prop:=p.1.natAbs<=32000000000/\p.2.1.natAbs<=32000000000/\0<p.2.2/\p.2.2<=4000000000
theorem aoC {rows:List (List Int)} {wd:Nat} {cut:Int} {g:Gt} (gd:Good wd rows) (o:opG rows wd cut g=true):PlB (plT rows cut g):=by
 obtain⟨b1,b2,b3⟩:=ami gd o
 obtain⟨i1,i2⟩:=qK (aag o)
 obtain⟨x0,x1,y0,y1⟩:=jA i1
 have w2:=gd.w2
 have h2:=gd.h2
 have mx:∀ a:Int,0<=a->a<7->(a * ((shQ rows cut g).den:Int)).natAbs<=28000000000:=fun a a0 a1=>by
  have:a=0 \/ a=1 \/ a=2 \/ a=3 \/ a=4 \/ a=5 \/ a=6:=by omega
  rcases this with rfl | rfl | rfl | rfl | rfl | rfl | rfl <;> omega
 have m1:=mx g.1 x0 (by omega)
 have m2:=mx g.2.1 y0 (by omega)
 unfold PlB plT
 split
 ·dsimp only
  omega
 ·dsimp only
  omega
abbrev ag4 (K:aoZ):Sp:=spD K 3 ah4 fun c r=>r=anv (shQ c.1 c.2.2.1 c.2.2.2)
theorem ake (F:Def K mg "share" aa3 ph) (uaH:FnIn P w K mg base k "gate_points" ["gate"] (agN K)) (ub8:FnIn P w K mg base k "shortened" pN (ag3 K)):FnIn P w K mg base (k+1) "share" ph (ag4 K):=by
 refine F.ok sc_share rfl fun fa cdv A outer s H E hr=>⟨_,(zc (yi (ya (N:=pL) (own:=2) (fr:=[0]) ⟨rfl,by decide +kernel,of_decide_eq_true (by kernel_rfl),of_decide_eq_true (by kernel_rfl),of_decide_eq_true (by kernel_rfl),rfl⟩ rfl (zS (K:=K) rfl (ze uaH hr rfl (za (pv 2) zb))) (fun _ _ _ _=>(zQ (K:=K) (n:=2) rfl rfl (zk (zh (i:=0) (show (pL:List Str).Nodup by decide +kernel) rfl (Or.inl rfl) (Or.inr rfl)) (zk (zh (i:=1) (show (pL:List Str).Nodup by decide +kernel) rfl (Or.inl rfl) (Or.inr rfl)) zL)))) (fun _ _ _ _=>z7) (fun _ _ _ _=>(zP (zy (K:=K) rfl) (zP (zy (K:=K) rfl) (pv 2) (pv 1) (fun _ _=>rfl)) (pv 0) (fun _ _=>rfl))) rfl rfl (fun _=>rfl)) (ac5 (K:=K) (n:=2) rfl rfl (zk (zh (i:=3) sc_share.nd rfl (Or.inl rfl) (Or.inr rfl)) (zk (zh (i:=4) sc_share.nd rfl (Or.inl rfl) (Or.inr rfl)) zL)))) (zf (zx (ze ub8 hr rfl (za (zt yH (zt zT (zt yQ zd (pv 1)) zd) (zt yQ zd (pv 3))) (za (zt yQ zd (zt yH (pv 4) (pv 3))) zb)))))),?_⟩
 rintro f xs ⟨rows,wd,cut,x,y,w⟩ hl ⟨rfl,g,ho⟩
 try dsimp only [zI,zj]
 dsimp only at *
 obtain⟨i1,i2⟩:=qK (aag ho)
 have n0:BB rows x y w≠0:=amg ho
 have n1:(BB rows x y w).natAbs<=4000000000:=amh g ho
 refine zV (zN (PEdO.ped (vN (A:=fun p:Int×Int=>PyData.tuple [.int p.1,.int p.2]) (B:=fun p:Int×Int=>PyData.int (zD rows p.1 p.2)) [(x,y),(px x w,py y w)] (yu (zp (x,y,w) (vA rfl ⟨rfl,rfl,?_⟩))))))
 rintro _ rfl
 refine⟨_,rfl,rfl,show 2<=1000 by decide,?_,?_⟩
 ·rintro D p ρ' es hp ho hes
  obtain⟨u,v,rfl⟩:=ho.two
  have hi:z5 rows wd p.1 p.2=true:=by
   simp only [ao7,aqa,or_false] at hp
   rcases hp with rfl | rfl
   ·exact i1
   ·exact i2
  obtain⟨r,h1,h2⟩:=abH g hi
  refine yF rfl (zv (zi (zv (zi (z4 (y7 ?_))))))
  rw [if_pos rfl]
  refine yC hes ?_
  unfold tab
  walk_at "w"
  refine⟨_,h1,?_⟩
  walk_at "w"
  refine⟨_,h2,?_⟩
  exact⟨.mk2,rfl⟩
 ·refine aiL rfl (zv (zi (zv (zi (z4 ?_)))))
  have sm:∀ {i:Int},i.natAbs<2 ^ 60->i.natAbs<vd:=fun h=>qk h (by decide)
  have b1:-1000000000<=zD rows x y/\zD rows x y<=1000000000:=aa4 g i1
  have b2:-1000000000<=zD rows (px x w) (py y w)/\zD rows (px x w) (py y w)<=1000000000:=aa4 g i2
  have cb:(cut:Int).natAbs<2 ^ 60:=by
   have:(0<TT rows cut x y/\TT rows cut x y<BB rows x y w) \/ (TT rows cut x y<0/\BB rows x y w<TT rows cut x y):=abO ho
   unfold TT BB at this
   omega
  refine yc (zp (TT rows cut x y,BB rows x y w) ?_)
  refine zB (abk (abk (yP (jw ⟨_,rfl,zo rfl ⟨_,rfl,⟨sm (by decide),sm cb⟩,_,rfl,jw ⟨_,rfl,_,rfl,yP (jw ⟨_,rfl,zo rfl ⟨_,rfl,⟨sm (by decide),sm (show (zD rows x y).natAbs<_ by omega)⟩,_,rfl,?_⟩⟩)⟩⟩⟩))))
  refine zB (yP (jw ⟨_,rfl,abk (zo rfl ⟨_,rfl,zo rfl ⟨_,rfl,_,rfl,⟨sm (by decide),sm (show (zD rows (px x w) (py y w) - zD rows x y).natAbs<_ by omega)⟩,yk ⟨rfl,⟨rfl,n0,sm (by omega)⟩,?_⟩⟩⟩)⟩))
  rintro _ rfl
  rfl
abbrev acL (K:aoZ):Sp:=spD K 3 ah4 fun c r=>r=gD3 (plT c.1 c.2.2.1 c.2.2.2)
theorem aeW (F:Def K mg "place_of" qr ph) (ub9:FnIn P w K mg base k "share" ph (ag4 K)):FnIn P w K mg base (k+1) "place_of" ph (acL K):=by
 refine F.ok sc_place_of rfl fun fa cdv A outer s H E hr=>⟨_,(zc (yi (pv 2) (zQ (K:=K) (n:=3) rfl rfl (zk (zh (i:=3) sc_place_of.nd rfl (Or.inl rfl) (Or.inr rfl)) (zk (zh (i:=4) sc_place_of.nd rfl (Or.inl rfl) (Or.inr rfl)) (zk (zh (i:=5) sc_place_of.nd rfl (Or.inl rfl) (Or.inr rfl)) zL))))) (zc (yi (ze ub9 hr rfl (za (pv 0) (za (pv 1) (za (pv 2) zb)))) (zQ (K:=K) (n:=2) rfl rfl (zk (zh (i:=6) sc_place_of.nd rfl (Or.inl rfl) (Or.inr rfl)) (zk (zh (i:=7) sc_place_of.nd rfl (Or.inl rfl) (Or.inr rfl)) zL)))) (zc (yb (zG (qi (K:=K) rfl hr.units) (pv 5) zd (zM _)) (zf (zx (zE (za (zt zT (zt yQ (pv 3) (pv 7)) (pv 6)) (za (zt yQ (pv 4) (pv 7)) (za (pv 7) zb)))))) zH) (zf (zx (zE (za (zt yQ (pv 3) (pv 7)) (za (zt zT (zt yQ (pv 4) (pv 7)) (pv 6)) (za (pv 7) zb))))))))),?_⟩
 rintro f xs ⟨rows,wd,cut,x,y,w⟩ hl ⟨rfl,g,ho⟩
 try dsimp only [zI,zj]
 dsimp only at *
 obtain⟨b1,b2,b3⟩:=ami g ho
 obtain⟨i1,i2⟩:=qK (aag ho)
 obtain⟨x0,x1,y0,y1⟩:=jA i1
 have w2:=g.w2
 have h2:=g.h2
 have sm:∀ {i:Int},i.natAbs<2 ^ 60->i.natAbs<vd:=fun h=>qk h (by decide)
 refine zV (zN (zo rfl (yF rfl (zv (zi (zv (zi (zv (zi (z4 ?_))))))))))
 refine zV (zN (zp (rows,wd,cut,x,y,w) (alc rfl rfl rfl ⟨rfl,⟨rfl,g,ho⟩,?_⟩)))
 rintro _ rfl
 dsimp only
 have cx:CMulH x ((shQ rows cut (x,y,w)).den:Int):=⟨sm (by dsimp only at x0 x1;omega),sm (by rw [aqL];omega)⟩
 have cy:CMulH y ((shQ rows cut (x,y,w)).den:Int):=⟨sm (by dsimp only at y0 y1;omega),sm (by rw [aqL];omega)⟩
 refine yF rfl (zv (zi (zv (zi (z4 ?_)))))
 refine zV (aex (w=0) (aoA rfl) (fun h=>?_) fun h=>jh ?_)
 ·refine yc (y6 (zB (abk (yP (zo rfl ⟨_,rfl,zo rfl ⟨_,rfl,cx,_,rfl,zo rfl ⟨_,rfl,zB (yP (zo rfl ⟨_,rfl,zo rfl ⟨_,rfl,cy,zB (zo rfl (yk ⟨_,rfl,by show 3<=1000;decide,?_⟩))⟩⟩))⟩⟩⟩)))))
  unfold plT
  rw [if_pos h]
  rfl
 ·refine yc (y6 (zB (yP (zo rfl ⟨_,rfl,zo rfl ⟨_,rfl,cx,zB (abk (yP (zo rfl ⟨_,rfl,zo rfl ⟨_,rfl,cy,_,rfl,zo rfl ⟨_,rfl,zB (zo rfl (yk ⟨_,rfl,by show 3<=1000;decide,?_⟩))⟩⟩⟩)))⟩⟩))))
  unfold plT
  rw [if_neg h]
  rfl
abbrev Pt:=Int×Int
def pD (p:Pt):PyData:=.tuple [.int p.1,.int p.2]
def inP (rows:List (List Int)) (wd:Nat) (p:Pt):Bool:=z5 rows wd p.1 p.2
def nbL (p:Pt):List Pt:=[(p.1 - 1,p.2),(p.1,p.2 - 1),(p.1,p.2+1),(p.1+1,p.2)]
abbrev TP:=List (List Int)×Nat×Int×Int
abbrev aoD (K:aoZ):Sp:=spD K 3 (fun (c:TP) xs=>xs=[.dat (tab c.1),.dat (.int c.2.2.1),.dat (.int c.2.2.2)]/\Good c.2.1 c.1) fun c r=>r=.list (((nbL (c.2.2.1,c.2.2.2)).filter (inP c.1 c.2.1)).map pD)
theorem aoE (F:Def K mg "neighbours" jj pq) (uao:FnIn P w K mg base k "has_point" pq (agM K)):FnIn P w K mg base (k+1) "neighbours" pq (aoD K):=by
 refine F.ok sc_neighbours rfl fun fa cdv A outer s H E hr=>⟨_,(zc (zC (i:=3) sc_neighbours.nd rfl (Or.inl rfl) (z8 (za (zE (za (zt yH (pv 1) zd) (za (pv 2) zb))) (za (zE (za (pv 1) (za (zt yH (pv 2) zd) zb))) (za (zE (za (pv 1) (za (zt zT (pv 2) zd) zb))) (za (zE (za (zt zT (pv 1) zd) (za (pv 2) zb))) zb)))))) (zf (zx (ya (N:=pM) (own:=2) (fr:=[0]) ⟨rfl,by decide +kernel,of_decide_eq_true (by kernel_rfl),of_decide_eq_true (by kernel_rfl),of_decide_eq_true (by kernel_rfl),rfl⟩ rfl (zS (K:=K) rfl (pv 3)) (fun _ _ _ _=>(zQ (K:=K) (n:=2) rfl rfl (zk (zh (i:=0) (show (pM:List Str).Nodup by decide +kernel) rfl (Or.inl rfl) (Or.inr rfl)) (zk (zh (i:=1) (show (pM:List Str).Nodup by decide +kernel) rfl (Or.inl rfl) (Or.inr rfl)) zL)))) (fun _ _ _ _=>(aaW (yg (K:=K) rfl (ze uao hr rfl (za (pv 2) (za (pv 0) (za (pv 1) zb)))) (fun _=>rfl)))) (fun _ _ _ _=>(zE (za (pv 0) (za (pv 1) zb)))) rfl rfl (fun _=>rfl))))),?_⟩
 rintro f xs ⟨rows,wd,x,y⟩ hl ⟨rfl,g⟩
 try dsimp only [zI,zj]
 dsimp only at *
 refine jY (fun ρ=>ρ=[some (.dat (tab rows)),some (.dat (.int x)),some (.dat (.int y)),some (.dat (.list ((nbL (x,y)).map pD)))]) ?_ ?_
 ·walk_at "w"
  rfl
 rintro _ rfl
 refine yc (PEdO.ped (anc (A:=pD) (B:=pD) (inP rows wd) (nbL (x,y)) (yu (zo rfl ⟨_,rfl,rfl,ap8 rfl,?_,rfl⟩))))
 rintro D ⟨a,b⟩ ρ' es hg ho hes
 obtain⟨us,hus,rfl⟩:=ho
 match us,hus with
 | [u1,u2],_ =>
  refine yF rfl (zv (zi (zv (zi (z4 (jx (zp (rows,wd,a,b) ?_)))))))
  walk_at "w"
  rintro _ rfl
  refine⟨_,rfl,rfl,yB (fun h=>?_) fun h=>?_⟩
  ·refine yC hes ?_
   walk_at "w"
   exact⟨⟨[_,_],rfl,rfl⟩,rfl⟩
  ·exact⟨[_,_],rfl,rfl⟩
def Lcm (l:List Nat) (s:Nat):Prop:=0<s/\∀ m:Nat,s ∣ m↔∀ d∈l,d≠0->d ∣ m
theorem alI:Lcm [] 1:=⟨by decide,fun m=>Iff.intro (fun _ d h=>by cases h) (fun _=>Nat.one_dvd m)⟩
theorem lcm_zero {l:List Nat} {s:Nat} (h:Lcm l s):Lcm (l++[0]) s:=⟨h.1,fun m=>by
 rw [h.2 m]
 constructor
 ·intro q d hd nz
  rcases aps.mp hd with hd | hd
  ·exact q d hd nz
  ·rw [apo.mp hd] at nz;exact absurd rfl nz
 ·exact fun q d hd=>q d (apQ _ hd)⟩
theorem akf {l:List Nat} {s d:Nat} (h:Lcm l s) (hd:0<d):Lcm (l++[d]) (atf s d):=⟨Nat.lcm_pos h.1 hd,fun m=>by
 rw [Nat.lcm_dvd_iff,h.2 m]
 constructor
 ·rintro⟨q1,q2⟩ e he nz
  rcases aps.mp he with he | he
  ·exact q1 e he nz
  ·rw [apo.mp he];exact q2
 ·exact fun q=>⟨fun e he=>q e (apQ _ he),q d (apg _ (apo.mpr rfl)) (aq1 hd)⟩⟩
theorem lcm_one {s d:Nat} (hd:0<d):s / ate s d * d=atf s d:=by
 rw [atf,Nat.div_mul_right_comm (Nat.gcd_dvd_left s d)]
def gap (rows:List (List Int)) (p q:Pt):Nat:=2 * (zD rows p.1 p.2 - zD rows q.1 q.2).natAbs
def vf (t n:Nat):List Pt:=(apj n).flatMap fun (x:Nat)=>(apj t).map fun (y:Nat)=>((x:Int),(y:Int))
theorem aa5 (t n:Nat):j7 t n=(vf t n).map pD:=by
 unfold j7 vf
 rw [asu]
 congr 1
 funext x
 rw [aq2]
 rfl
theorem mem_npts {t n:Nat} {p:Pt}:p∈vf t n↔0<=p.1/\p.1<n/\0<=p.2/\p.2<t:=by
 unfold vf
 rw [apL]
 constructor
 ·rintro⟨x,hx,hp⟩
  obtain⟨y,hy,rfl⟩:=apy.mp hp
  have hx:=apr.mp hx
  have hy:=apr.mp hy
  dsimp only
  omega
 ·rintro⟨h1,h2,h3,h4⟩
  refine⟨p.1.toNat,apr.mpr (show p.1.toNat<n by omega),apy.mpr ⟨p.2.toNat,apr.mpr (show p.2.toNat<t by omega),?_⟩⟩
  obtain⟨a,b⟩:=p
  dsimp only at *
  rw [aq6 h1,aq6 h3]
def qO (rows:List (List Int)) (wd:Nat) (p:Pt):List Nat:=((nbL p).filter (inP rows wd)).map (gap rows p)
def afX (rows:List (List Int)) (wd:Nat):List Nat:=(vf rows.length wd).flatMap (qO rows wd)
theorem aeX {rows:List (List Int)} {wd:Nat} (g:Good wd rows) {x y:Int} (h:z5 rows wd x y=true):∃ r:List Int,atI (rows.map fun r=>PyData.list (r.map .int)) y=some (.list (r.map .int))/\atI (r.map PyData.int) x=some (.int (zD rows x y)):=by
 obtain⟨h1,h2,h3,h4⟩:=jA h
 obtain⟨r,er⟩:∃ r,rows[y.toNat]?=some r:=⟨_,aoW (by omega)⟩
 have rl:=g.row r (ao4 er)
 obtain⟨c,ec⟩:∃ c,r[x.toNat]?=some c:=⟨_,aoW (by omega)⟩
 have e1:zD rows x y=c:=by
  unfold zD
  rw [ao0,ao0,er]
  show (r[x.toNat]?).getD 0=c
  rw [ec]
  rfl
 refine⟨r,?_,?_⟩
 ·have:=yK (j:=y.toNat) (show (rows.map fun r=>PyData.list (r.map .int))[y.toNat]?=some (.list (r.map .int)) by rw [ao5,er];rfl)
  rw [aq6 h3] at this
  exact this
 ·rw [e1]
  have:=yK (j:=x.toNat) (show (r.map PyData.int)[x.toNat]?=some (.int c) by rw [ao5,ec];rfl)
  rw [aq6 h1] at this
  exact this
theorem aah {rows:List (List Int)} {wd:Nat} (g:Good wd rows) {x y:Int} (h:z5 rows wd x y=true):-1000000000<=zD rows x y/\zD rows x y<=1000000000:=by
 obtain⟨h1,h2,h3,h4⟩:=jA h
 obtain⟨r,er⟩:∃ r,rows[y.toNat]?=some r:=⟨_,aoW (by omega)⟩
 have rl:=g.row r (ao4 er)
 obtain⟨c,ec⟩:∃ c,r[x.toNat]?=some c:=⟨_,aoW (by omega)⟩
 have e1:zD rows x y=c:=by
  unfold zD
  rw [ao0,ao0,er]
  show (r[x.toNat]?).getD 0=c
  rw [ec]
  rfl
 rw [e1]
 exact g.hgt r (ao4 er) c (ao4 ec)
abbrev acM (c:List (List Int)×Nat) (xs:List DV):Prop:=xs=[.dat (tab c.1)]/\Good c.2 c.1
abbrev vb (K:aoZ):Sp:=spD K 1 acM fun c r=>∃ s:Nat,r=.int s/\Lcm (afX c.1 c.2) s
theorem akg (F:Def K mg "scale_of" jz pf) (uah:mg "abs"=none) (uac:FnIn P w K mg base k "ask_table" pf (abG K)) (uaI:FnIn P w K mg base k "points" pf (aad K)) (uca:FnIn P w K mg base k "neighbours" pq (aoD K)) (uaZ:FnIn P w K mg base k "common" pG (abN K)):FnIn P w K mg base (k+1) "scale_of" pf (vb K):=by
 refine F.ok sc_scale_of rfl fun fa cdv A outer s H E hr=>⟨_,(zc (ym (ze uac hr rfl (za (pv 0) zb))) (zc (zC (i:=1) sc_scale_of.nd rfl (Or.inl rfl) zd) (zc (jP ap0 rfl (zS (K:=K) rfl (ze uaI hr rfl (za (pv 0) zb))) (zQ (K:=K) (n:=2) rfl rfl (zk (zh (i:=2) sc_scale_of.nd rfl (Or.inl rfl) (Or.inr rfl)) (zk (zh (i:=3) sc_scale_of.nd rfl (Or.inl rfl) (Or.inr rfl)) zL))) (zf (jP ap0 rfl (zS (K:=K) rfl (ze uca hr rfl (za (pv 0) (za (pv 2) (za (pv 3) zb))))) (zQ (K:=K) (n:=2) rfl rfl (zk (zh (i:=4) sc_scale_of.nd rfl (Or.inl rfl) (Or.inr rfl)) (zk (zh (i:=5) sc_scale_of.nd rfl (Or.inl rfl) (Or.inr rfl)) zL))) (zc (zC (i:=6) sc_scale_of.nd rfl (Or.inl rfl) (zt vo zd (zu (vG) rfl uah aqM (za (zt yH (zP (zy (K:=K) rfl) (zP (zy (K:=K) rfl) (pv 0) (pv 3) (fun _ _=>rfl)) (pv 2) (fun _ _=>rfl)) (zP (zy (K:=K) rfl) (zP (zy (K:=K) rfl) (pv 0) (pv 5) (fun _ _=>rfl)) (pv 4) (fun _ _=>rfl))) zb)))) (zf (yb (yg (K:=K) rfl (pv 6) (fun _=>rfl)) (zf (zC (i:=1) sc_scale_of.nd rfl (Or.inl rfl) (zt vo (zt abp (pv 1) (ze uaZ hr rfl (za (pv 1) (za (pv 6) zb)))) (pv 6)))) zH)))))) (zf (zx (pv 1)))))),?_⟩
 rintro f xs ⟨rows,wd⟩ hl ⟨rfl,g⟩
 try dsimp only [zI,zj]
 dsimp only at *
 refine zV (qA (zp (rows,wd) ?_))
 walk_at "w"
 rintro _ rfl
 refine zV (zN (jw (zi ?_)))
 refine jY (fun ρ=>∃ (s:Nat) (x3 x4 x5 x6 x7:Option DV),ρ=[some (.dat (tab rows)),some (.dat (.int s)),x3,x4,x5,x6,x7]/\Lcm (afX rows wd) s) (aea (yu (zp (rows,wd) ?_))) ?_
 ·walk_at "w"
  rintro _ rfl
  refine⟨_,rfl,fun i ρ=>∃ (s:Nat) (x3 x4 x5 x6 x7:Option DV),ρ=[some (.dat (tab rows)),some (.dat (.int s)),x3,x4,x5,x6,x7]/\Lcm (((vf rows.length wd).take i).flatMap (qO rows wd)) s,⟨1,_,_,_,_,_,rfl,alI⟩,?_,?_⟩
  ·rintro i d _ hd ⟨s,x3,x4,x5,x6,x7,rfl,L⟩
   dsimp only at hd
   rw [aa5,ao5] at hd
   cases ep:(vf rows.length wd)[i]? with
   | none=>rw [ep] at hd;cases hd
   | some p =>
    rw [ep] at hd
    cases hd
    obtain⟨x,y⟩:=p
    have tk:((vf rows.length wd).take (i+1)).flatMap (qO rows wd)=((vf rows.length wd).take i).flatMap (qO rows wd)++qO rows wd (x,y):=by
     rw [aqP,ep,aqe]
     simp
    obtain⟨p1,p2,p3,p4⟩:=mem_npts.mp (ao4 ep)
    dsimp only at p1 p2 p3 p4
    have ip:z5 rows wd x y=true:=by
     unfold z5
     rw [decide_eq_true (by omega),decide_eq_true (by omega)]
     rfl
    obtain⟨r,a1,a2⟩:=aeX g ip
    have b1:=aah g ip
    refine yF rfl (zv (zi (zv (zi (z4 (aea (yu (zp (rows,wd,x,y) ?_))))))))
    walk_at "w"
    rintro _ rfl
    dsimp only
    generalize hB:((vf rows.length wd).take i).flatMap (qO rows wd)=B at L tk
    refine⟨_,rfl,fun j ρ=>∃ (s:Nat) (x5 x6 x7:Option DV),ρ=[some (.dat (tab rows)),some (.dat (.int s)),some (.dat (.int x)),some (.dat (.int y)),x5,x6,x7]/\Lcm (B++(((nbL (x,y)).filter (inP rows wd)).take j).map (gap rows (x,y))) s,⟨s,_,_,_,rfl,by simpa using L⟩,?_,?_⟩
    ·rintro j d _ hd ⟨s,x5,x6,x7,rfl,L⟩
     rw [ao5] at hd
     cases eq:((nbL (x,y)).filter (inP rows wd))[j]? with
     | none=>rw [eq] at hd;cases hd
     | some q =>
      rw [eq] at hd
      cases hd
      obtain⟨a,b⟩:=q
      have iq:z5 rows wd a b=true:=(aqf.mp (ao4 eq)).2
      obtain⟨r',a3,a4⟩:=aeX g iq
      have b2:=aah g iq
      have tk2:B++(((nbL (x,y)).filter (inP rows wd)).take (j+1)).map (gap rows (x,y))=(B++(((nbL (x,y)).filter (inP rows wd)).take j).map (gap rows (x,y)))++[gap rows (x,y) (a,b)]:=by
       rw [aqP,eq,apv,aqQ]
       rfl
      have eb:(2:Int) * (if zD rows x y - zD rows a b<0 then -(zD rows x y - zD rows a b) else zD rows x y - zD rows a b)=(gap rows (x,y) (a,b):Nat):=by
       unfold gap
       dsimp only
       split <;> omega
      have gb:gap rows (x,y) (a,b)<=4000000000:=by
       unfold gap
       dsimp only
       omega
      refine yF rfl (zv (zi (zv (zi (z4 ?_)))))
      generalize hg:gap rows (x,y) (a,b)=d at eb gb tk2
      refine jY (fun ρ=>ρ=[some (.dat (tab rows)),some (.dat (.int s)),some (.dat (.int x)),some (.dat (.int y)),some (.dat (.int a)),some (.dat (.int b)),some (.dat (.int (d:Int)))]) (zN ?_) ?_
      ·walk_at "w"
       refine⟨_,a1,?_⟩
       walk_at "w"
       refine⟨_,a2,?_⟩
       walk_at "w"
       refine⟨_,a3,?_⟩
       walk_at "w"
       refine⟨_,a4,?_⟩
       walk_at "w"
       show [_,_,_,_,_,_,some (DV.dat (.int (2 * (if zD rows x y - zD rows a b<0 then -(zD rows x y - zD rows a b) else zD rows x y - zD rows a b))))]=_
       rw [eb]
      rintro _ rfl
      refine vJ (jx (zo rfl ⟨_,rfl,yB (fun h=>?_) fun h=>?_⟩))
      ·have nz:0<d:=by
        have:(d:Int)≠0:=by simpa using h
        omega
       have gp:=Nat.gcd_pos_of_pos_right s nz
       have gl:=Nat.gcd_le_right s nz
       have ei:((s:Int) / ((ap5 (s:Int) (d:Int):Nat):Int)) * (d:Int)=((atf s d:Nat):Int):=by
        rw [<-lcm_one nz]
        rfl
       have gi:((ap5 (s:Int) (d:Int):Nat):Int)=((ate s d:Nat):Int):=rfl
       refine zN ?_
       walk_at "w"
       refine zp ((s:Int),(d:Int)) ?_
       walk_at "w"
       rintro _ rfl
       refine⟨_,rfl,⟨by dsimp only;omega,by dsimp only;omega⟩,_,rfl,zo rfl ⟨_,rfl,.inr ⟨by omega,by omega⟩,zi ⟨atf s d,some (.dat (.int a)),some (.dat (.int b)),some (.dat (.int d)),?_,?_⟩⟩⟩
       ·rw [<-ei]
        rfl
       ·rw [tk2]
        exact akf L nz
      ·have z:d=0:=by
        have:(d:Int)=0:=by simpa using h
        omega
       refine jh ⟨s,_,_,_,rfl,?_⟩
       rw [tk2,z]
       exact lcm_zero L
    ·rintro _ ⟨s,x5,x6,x7,rfl,L⟩
     rw [aoX,apU] at L
     exact⟨s,_,_,_,_,_,rfl,by rw [tk];exact L⟩
  ·rintro _ ⟨s,x3,x4,x5,x6,x7,rfl,L⟩
   rw [aa5,aoX,apU] at L
   exact⟨s,_,_,_,_,_,rfl,L⟩
 ·rintro _ ⟨s,x3,x4,x5,x6,x7,rfl,L⟩
  exact yc (zo rfl ⟨s,rfl,L⟩)
def scP (rows:List (List Int)) (cut:Int) (s:Nat) (g:Gt):Pt:=((plT rows cut g).1 * s / (plT rows cut g).2.2,(plT rows cut g).2.1 * s / (plT rows cut g).2.2)
theorem anO {l:List Nat} (hl:∀ d∈l,d<2 ^ 32):∀ {s:Nat},Lcm l s->s<=2 ^ (32 * l.length):=by
 intro s h
 have key:∀ l:List Nat,(∀ d∈l,d<2 ^ 32)->∃ p:Nat,0<p/\p<=2 ^ (32 * l.length)/\∀ d∈l,d≠0->d ∣ p:=fun l=>by
  induction l with
  | nil=>exact fun _=>⟨1,by decide,by decide,fun d hd=>nomatch hd⟩
  | cons d l ih =>
   intro h
   obtain⟨p,p1,p2,p3⟩:=ih fun e he=>h e (ao3 _ he)
   have hd:=h d apa
   have e:2 ^ (32 * (d :: l).length)=2 ^ (32 * l.length) * 2 ^ 32:=by
    rw [aph,atd,Nat.pow_add]
   rw [e]
   by_cases z:d=0
   ·refine⟨p,p1,apm p2 (Nat.le_mul_of_pos_right _ (by decide)),fun e he nz=>?_⟩
    rcases ao7.mp he with rfl | he
    ·exact absurd z nz
    ·exact p3 e he nz
   ·refine⟨p * d,Nat.mul_pos p1 (by omega),aq0 p2 (ap1 hd),fun e he nz=>?_⟩
    rcases ao7.mp he with rfl | he
    ·exact Nat.dvd_mul_left _ _
    ·exact Nat.dvd_trans (p3 e he nz) (Nat.dvd_mul_right _ _)
 obtain⟨p,p1,p2,p3⟩:=key l hl
 exact apm (Nat.le_of_dvd p1 ((h.2 p).mpr p3)) p2
theorem vM {α β:Type} {F:α->List β} {b:Nat} (h:∀ x,(F x).length<=b):∀ l:List α,(l.flatMap F).length<=b * l.length
 | []=>apC _
 | x :: l=>by
  have:=vM h l
  have:=h x
  rw [List.flatMap_cons,api,aph,atd]
  omega
theorem aeY {rows:List (List Int)} {wd:Nat} {s:Nat} (gd:Good wd rows) (h:Lcm (afX rows wd) s):s<2 ^ 6300:=by
 have b1:∀ d∈afX rows wd,d<2 ^ 32:=fun d hd=>by
  obtain⟨p,hp,hd⟩:=apL.mp hd
  obtain⟨q,hq,rfl⟩:=apy.mp hd
  have iq:z5 rows wd q.1 q.2=true:=(aqf.mp hq).2
  obtain⟨a1,a2,a3,a4⟩:=mem_npts.mp hp
  have ip:z5 rows wd p.1 p.2=true:=by
   unfold z5
   rw [decide_eq_true (by omega),decide_eq_true (by omega)]
   rfl
  have c1:=aah gd ip
  have c2:=aah gd iq
  unfold gap
  omega
 have b2:(afX rows wd).length<=196:=by
  have f1:∀ p,(qO rows wd p).length<=4:=fun p=>by
   unfold qO
   rw [aoX]
   exact apm (ap7 _ _) (by show 4<=4;decide)
  have f2:=vM f1 (vf rows.length wd)
  have f3:(vf rows.length wd).length<=49:=by
   have f4:∀ x:Nat,((apj rows.length).map fun (y:Nat)=>((x:Int),(y:Int))).length<=rows.length:=fun x=>by rw [aoX,apW];exact ao6 _
   have f5:=vM f4 (apj wd)
   rw [apW] at f5
   exact apm f5 (aq0 gd.h2 gd.w2)
  exact apm f2 (by omega)
 have:=anO b1 h
 refine Nat.lt_of_le_of_lt this (Nat.pow_lt_pow_right (by decide) (by omega))
abbrev TSc:=List (List Int)×Nat×Int×Gt×Nat
abbrev aoF (c:TSc) (xs:List DV):Prop:=xs=[.dat (tab c.1),.dat (.int c.2.2.1),.dat (gD3 c.2.2.2.1),.dat (.int c.2.2.2.2)]/\Good c.2.1 c.1/\opG c.1 c.2.1 c.2.2.1 c.2.2.2.1=true/\Lcm (afX c.1 c.2.1) c.2.2.2.2
abbrev aeZ (K:aoZ):Sp:=spD K 4 aoF fun c r=>r=pD (scP c.1 c.2.2.1 c.2.2.2.2 c.2.2.2.1)
theorem aia (F:Def K mg "scaled_place" yS pP) (ucb:FnIn P w K mg base k "place_of" ph (acL K)):FnIn P w K mg base (k+1) "scaled_place" pP (aeZ K):=by
 refine F.ok sc_scaled_place rfl fun fa cdv A outer s H E hr=>⟨_,(zc (yi (ze ucb hr rfl (za (pv 0) (za (pv 1) (za (pv 2) zb)))) (zQ (K:=K) (n:=3) rfl rfl (zk (zh (i:=4) sc_scaled_place.nd rfl (Or.inl rfl) (Or.inr rfl)) (zk (zh (i:=5) sc_scaled_place.nd rfl (Or.inl rfl) (Or.inr rfl)) (zk (zh (i:=6) sc_scaled_place.nd rfl (Or.inl rfl) (Or.inr rfl)) zL))))) (zf (zx (zE (za (zt v7 (zt yQ (pv 4) (pv 3)) (pv 6)) (za (zt v7 (zt yQ (pv 5) (pv 3)) (pv 6)) zb)))))),?_⟩
 rintro f xs ⟨rows,wd,cut,q,sc⟩ hl ⟨rfl,g,o,L⟩
 try dsimp only [zI,zj]
 dsimp only at *
 obtain⟨b1,b2,b3,b4⟩:=aoC g o
 have sl:=aeY g L
 refine zV (zN (zp (rows,wd,cut,q) (alc rfl rfl rfl ⟨rfl,⟨rfl,g,o⟩,?_⟩)))
 rintro _ rfl
 dsimp only
 have sm:∀ {i:Int},i.natAbs<2 ^ 60->i.natAbs<vd:=fun h=>qk h (by decide)
 have sh:((sc:Nat):Int).natAbs<vd:=by rw [aqL];exact qk sl (by decide)
 clear sl
 unfold scP
 generalize plT rows cut q=p at *
 obtain⟨X,Y,W⟩:=p
 dsimp only at b1 b2 b3 b4
 have cd:∀ T,amd T W:=fun T=>⟨by omega,sm (by omega)⟩
 refine aoU (yc (y6 (zB (yP (ald rfl rfl ⟨sm (show X.natAbs<_ by omega),sh⟩ ⟨_,rfl,zo rfl ⟨_,rfl,cd _,?_⟩⟩)))))
 refine zB (yP (ald rfl rfl ⟨sm (show Y.natAbs<_ by omega),sh⟩ ⟨_,rfl,zo rfl ⟨_,rfl,cd _,yk ⟨_,rfl,by show 2<=1000;decide,?_⟩⟩⟩))
 show PyData.tuple [.int _,.int _]=pD _
 have W0:(0:Int)<=(X,Y,W).2.2:=show (0:Int)<=W by omega
 rw [aqX _ W0,aqX _ W0]
 rfl
abbrev ag5 (K:aoZ):Sp:=spN K 2 (fun (c:List (List Int)×Nat×List Int) xs=>xs=[.dat (tab c.1),.dat (.list (c.2.2.map .int))]/\Good c.2.1 c.1/\c.2.2.length<=3) fun _ _=>True
theorem anP (F:Def K mg "web_of" qJ pC) (uaq:mg "tuple"=none) (uac:FnIn P w K mg base k "ask_table" pf (abG K)) (uar:FnIn P w K mg base k "scale_of" pf (vb K)) (ucc:FnIn P w K mg base k "scaled_place" pP (aeZ K)) (ucd:FnIn P w K mg base k "lines" pz (ag0 K)):FnIn P w K mg base (k+1) "web_of" pC (ag5 K):=by
 refine F.okN sc_web_of rfl fun fa cdv A outer s H E hr=>⟨_,(zc (ym (ze uac hr rfl (za (pv 0) zb))) (zc (zC (i:=2) sc_web_of.nd rfl (Or.inr rfl) (ze uar hr rfl (za (pv 0) zb))) (zf (zx (ad3 (N:=pZ) (own:=3) (fr:=[0,2]) ⟨rfl,by decide +kernel,of_decide_eq_true (by kernel_rfl),of_decide_eq_true (by kernel_rfl),of_decide_eq_true (by kernel_rfl),rfl⟩ rfl (zS (K:=K) rfl (pv 1)) (fun _ _ _ _=>(zh (i:=0) (show (pZ:List Str).Nodup by decide +kernel) rfl (Or.inr rfl) (Or.inl rfl))) (fun _ _ _ _=>z7) (fun _ _ _ _=>(zS (K:=K) rfl (ze ucd hr rfl (za (pv 3) (za (pv 0) zb))))) (fun _ _ _ _=>(zQ (K:=K) (n:=2) rfl rfl (zk (zh (i:=1) (show (pZ:List Str).Nodup by decide +kernel) rfl (Or.inl rfl) (Or.inr rfl)) (zk (zh (i:=2) (show (pZ:List Str).Nodup by decide +kernel) rfl (Or.inl rfl) (Or.inr rfl)) zL)))) (fun _ _ _ _=>z7) (fun _ _ _ _=>(zE (za (pv 1) (za (jr (aaI (K:=K) rfl) rfl uaq asw (za (ya (N:=["gate","cut","rows","scale"]) (own:=1) (fr:=[0,3,4]) ⟨rfl,by decide +kernel,of_decide_eq_true (by kernel_rfl),of_decide_eq_true (by kernel_rfl),of_decide_eq_true (by kernel_rfl),rfl⟩ rfl (ac1 (K:=K) rfl (pv 2)) (fun _ _ _ _=>(zh (i:=0) (show (["gate","cut","rows","scale"]:List Str).Nodup by decide +kernel) rfl (Or.inl rfl) (Or.inr rfl))) (fun _ _ _ _=>z7) (fun _ _ _ _=>(ze ucc hr rfl (za (pv 2) (za (pv 1) (za (pv 0) (za (pv 3) zb)))))) rfl rfl (fun _=>rfl)) zb)) zb)))) rfl rfl (fun _=>rfl) (fun _ _ _ _ _=>rfl)))))),?_⟩
 rintro f xs ⟨rows,wd,cuts⟩ hl ⟨rfl,g,few⟩
 try dsimp only [zI,zj]
 dsimp only at *
 refine qG (qA (zp (rows,wd) (vA rfl ⟨rfl,⟨rfl,g⟩,?_⟩)))
 rintro _ rfl
 refine qG (zN (zp (rows,wd) (vA rfl ⟨rfl,⟨rfl,g⟩,?_⟩)))
 rintro _ ⟨sc,rfl,L⟩
 dsimp only at L
 refine zi (abr (qD (yu (zo rfl ⟨_,rfl,fun n ρ es=>(∃ u1 u2 u3:Option DV,ρ=[u1,u2,u3,some (.dat (tab rows)),some (.dat (.int sc))])/\es.length<=49 * n,⟨⟨_,_,_,rfl⟩,by simp⟩,?_,fun _ _ _=>trivial⟩))))
 rintro D n d ρ' es hd ⟨⟨u1,u2,u3,rfl⟩,le⟩
 have hn:=(ao1.mp hd).1
 rw [aoX] at hn
 obtain⟨cut,_,rfl⟩:=apy.mp (ao4 hd)
 refine zi (y7 ?_)
 rw [if_pos rfl]
 refine amP (yu (PEdO.ped (ac7 (rows,wd,cut) (ajE rfl rfl ⟨rfl,⟨rfl,g⟩,?_⟩))))
 rintro _ ⟨ts,rfl,T,aT,pT⟩
 have fT:=T.few g
 refine⟨_,rfl,fun m ρ es2=>(∃ u2 u3:Option DV,ρ=[some (.dat (.int cut)),u2,u3,some (.dat (tab rows)),some (.dat (.int sc))])/\es2.length<=49 * n+m,⟨⟨_,_,rfl⟩,le⟩,?_,?_⟩
 ·rintro m d ρ2 es2 hd2 ⟨⟨u2,u3,rfl⟩,le2⟩
  have hm:=(ao1.mp hd2).1
  rw [aoX] at hm
  obtain⟨t,ht,rfl⟩:=apy.mp (ao4 hd2)
  have Lt:=T.line t ht
  have fl:=aaf g Lt.op Lt.nd
  refine aoT (y7 ?_)
  rw [if_pos rfl]
  refine yC (by omega) (y6 (zB (zo rfl (zB (age (zB (PEdO.ped (vN (A:=gD3) (B:=fun q=>pD (scP rows cut sc q)) t.2 (aiG (zo rfl ⟨_,rfl,rfl,by omega,?_,?_⟩))))))))))
  ·rintro D2 q ρ3 es3 hq ho hes
   obtain⟨u,rfl⟩:=ho.one
   refine zi (y7 ?_)
   rw [if_pos rfl]
   refine yC hes (zp (rows,wd,cut,q,sc) (aoS rfl rfl rfl rfl ⟨rfl,⟨rfl,g,Lt.op q hq,L⟩,?_⟩))
   rintro _ rfl
   exact⟨.mk1,rfl⟩
  ·exact yk (.inl ⟨_,rfl,yk ⟨_,rfl,by show 2<=1000;decide,⟨_,_,rfl⟩,by rw [api,apO];omega⟩⟩)
 ·rintro ρ2 es2 ⟨⟨u2,u3,rfl⟩,le2⟩
  rw [aoX] at le2
  exact⟨⟨_,_,_,rfl⟩,by omega⟩
def aaQ (r:List Int):Bool:=decide (2<=r.length/\r.length<=7/\∀ n∈r,-1000000000<=n/\n<=1000000000)
def yG (w0:Nat) (r:List Int):Bool:=decide (r.length≠w0) || !aaQ r
def jq (rows:List (List Int)):Option Int:=if 2<=rows.length/\rows.length<=7 then (rows.findIdx? (yG (rows.getD 0 []).length)).map fun i=>(i:Int) else some (-1)
theorem akh {rows:List (List Int)} {i:Nat} {r:List Int} (h:2<=rows.length/\rows.length<=7) (hr:rows[i]?=some r) (b:yG (rows.getD 0 []).length r=true) (pre:∀ j:Nat,j<i->∀ q,rows[j]?=some q->yG (rows.getD 0 []).length q=false):jq rows=some (i:Int):=by
 unfold jq
 rw [if_pos h]
 have hi:i<rows.length:=(ao1.mp hr).1
 have:rows.findIdx? (yG (rows.getD 0 []).length)=some i:=by
  rw [List.findIdx?_eq_some_iff_getElem]
  refine⟨hi,?_,fun j hj=>?_⟩
  ·rw [(ao1.mp hr).2];exact b
  ·rw [pre j hj _ (aoW (by omega))];exact aoY
 rw [this]
 rfl
theorem abP {rows:List (List Int)} (h:2<=rows.length/\rows.length<=7) (pre:∀ j:Nat,j<rows.length->∀ q,rows[j]?=some q->yG (rows.getD 0 []).length q=false):jq rows=none:=by
 unfold jq
 rw [if_pos h]
 have:rows.findIdx? (yG (rows.getD 0 []).length)=none:=by
  rw [ar6]
  intro q hq
  obtain⟨j,hj⟩:=apN hq
  exact pre j (ao1.mp hj).1 q hj
 rw [this]
 rfl
theorem aaU {P:Program} {w:World} {K:aoZ} {mg:Str->Option Value} {base:Heap} {C f D:Addr} {fd:FuncData} (hfc:vY K C f D "at"=true) (hD:mg "HeightError"=some (.ref D)) (F:Fun K "__init__" "NoTable.__init__" yX f fd):InitOk P w K mg base 1 C "at":=by
 have T:=FldC.of hfc
 refine⟨f,D,fd,["self","at"],T,F.ok aaT (fun vs H Q E h=>?_) (fun cdv A outer s H vs Q E hr hs=>⟨_,zc (ym (aev T rfl hD (za (pv 0) (za yL zb)))) (zf (ak8 T (pv 0) (pv 1))),?_⟩),F.binds (ps:=["self","at"]) fun _ _ _ _ _ _ us hl=>match us,hl with | [_,_],_=>rfl⟩
 ·obtain⟨a,y,rfl,_⟩:=h
  rfl
 ·obtain⟨a,y,rfl,hH,q⟩:=hs
  exact⟨.ref a,rfl,a,_,rfl,by decide,hH,y,rfl,.ref a,rfl,a,rfl,hH,fun dx h1 h2=>q dx h1 h2⟩
abbrev anQ (K:aoZ):Sp:=spD K 1 (fun (c:List PyData) xs=>xs=[.dat (.list c)]) fun c r=>r=.bool (decide (2<=c.length/\c.length<=7))
abbrev alJ (K:aoZ):Sp:=spD K 1 (fun (c:List Int) xs=>xs=[.dat (.list (c.map .int))]) fun c r=>r=.bool (decide (2<=c.length/\c.length<=7/\∀ n∈c,-1000000000<=n/\n<=1000000000))
abbrev aaB (K:aoZ) (uaa:Addr):Sp:=spF K 1 (fun (c:List (List Int)) xs=>xs=[.dat (tab c)]) (fun c r=>r=.bool true/\jq c=none) fun c Cv x=>Cv=.ref uaa/\∃ i,jq c=some i/\x=some (("at":Str),PyData.int i)
theorem alK {uaa:Addr} (F:Def K mg "ask_table" ja pf) (uab:mg "len"=none) (uam:mg "enumerate"=none) (uak:mg "NoTable"=some (.ref uaa)) (I_NoTable:InitOk P w K mg base 1 uaa "at")
  (uaG:FnIn P w K mg base (k+2) "fits" pB (anQ K)) (uaQ:FnIn P w K mg base (k+2) "is_row" pA (alJ K)):FnInF P w K mg base (k+3) "ask_table" pf (aaB K uaa):=by
 refine F.okF (k:=k+2) sc_ask_table rfl fun fa cdv A outer s H E hr=>⟨_,(zc (yb (aam (yg (K:=K) rfl (ze uaG hr rfl (za (pv 0) zb)) (fun _=>rfl))) (zf (acz I_NoTable (hr.mono (by omega)) rfl uak (za (aik ae5 zd) zb))) zH) (zc (jP PassesOwn.leaving rfl (ad9 (K:=K) rfl rfl uam (za (pv 0) zb)) (zQ (K:=K) (n:=2) rfl rfl (zk (zh (i:=1) sc_ask_table.nd rfl (Or.inl rfl) (Or.inr rfl)) (zk (zh (i:=2) sc_ask_table.nd rfl (Or.inl rfl) (Or.inr rfl)) zL))) (zf (yb (PW.pt (aa9 (zG (qB (K:=K) rfl hr.units) (zu (zO (K:=K) rfl) rfl uab apG (za (pv 2) zb)) (zu (zO (K:=K) rfl) rfl uab apG (za (zP (zy (K:=K) rfl) (pv 0) zd (fun _ _=>rfl)) zb)) (zM _)) (aal (aam (yg (K:=K) rfl (ze uaQ hr rfl (za (pv 2) zb)) (fun _=>rfl)))))) (zf (acz I_NoTable (hr.mono (by omega)) rfl uak (za (pv 1) zb))) zH))) (zf (zx aa7)))),?_⟩
 rintro f xs rows hl rfl
 try dsimp only [zI,zj]
 refine ajr (anl (ack (jx (zp (rows.map fun r=>.list (r.map .int)) ?_))))
 walk_at "w"
 rintro _ rfl
 refine⟨_,rfl,?_⟩
 rw [aoX]
 by_cases h:2<=rows.length/\rows.length<=7
 case neg =>
  rw [decide_eq_false h,aqE,if_pos rfl]
  refine adt (zB (aiN ?_))
  walk_at "w"
  exact⟨-1,by unfold jq;rw [if_neg h],rfl⟩
 rw [decide_eq_true h,apJ,if_neg aoY]
 refine afv ?_
 walk_at "w"
 refine ajr (aow (amO ?_))
 walk_at "w"
 refine⟨fun i ρ=>(∃ a b,ρ=[some (.dat (tab rows)),a,b])/\∀ j:Nat,j<i->∀ q,rows[j]?=some q->yG (rows.getD 0 []).length q=false,⟨⟨_,_,rfl⟩,fun j hj=>absurd hj (apZ _)⟩,?_,?_⟩
 ·rintro i d _ hd ⟨⟨a,b,rfl⟩,pre⟩
  unfold acp at hd
  rw [asN,ao5] at hd
  obtain⟨r,er,rfl⟩:∃ r:List Int,rows[i]?=some r/\d=.tuple [.int (i:Int),.list (r.map .int)]:=by
   cases er:rows[i]? with
   | none=>rw [er] at hd;cases hd
   | some r=>rw [er] at hd;cases hd;exact⟨r,rfl,rfl⟩
  obtain⟨r0,e0⟩:∃ r0,rows[0]?=some r0:=⟨_,aoW (by omega)⟩
  have g0:(rows.getD 0 []).length=r0.length:=by rw [ao0,e0];rfl
  rw [g0] at pre
  have at0:atI (rows.map fun q=>PyData.list (q.map .int)) 0=some (.list (r0.map .int)):=yK (j:=0) (by rw [ao5,e0];rfl)
  have bad:yG r0.length r=true->jq rows=some (i:Int):=fun z=>akh h er (by rw [g0];exact z) (by rw [g0];exact pre)
  have fine:yG r0.length r=false->∀ j:Nat,j<i+1->∀ q,rows[j]?=some q->yG (rows.getD 0 []).length q=false:=fun z j hj q hq=>by
   rw [g0]
   by_cases ej:j=i
   ·subst ej;rw [er] at hq;cases hq;exact z
   ·exact pre j (by omega) q hq
  refine yF rfl (zv (zi (zv (zi (z4 (anl ?_))))))
  walk_at "w"
  refine⟨_,at0,?_⟩
  walk_at "w"
  rw [if_pos rfl,aoX,aoX]
  show (if (!(((r.length:Nat):Int) == ((r0.length:Nat):Int)))=true then _ else _)
  by_cases hw:r.length=r0.length
  ·rw [hw,beq_self_eq_true,apJ,if_neg aoY]
   refine ack (jx (zp r ?_))
   walk_at "w"
   rintro _ rfl
   refine⟨_,rfl,?_⟩
   show (if (!(aaQ r))=true then _ else _)
   cases ro:aaQ r with
   | true =>
    rw [apJ,if_neg aoY]
    refine afv ?_
    walk_at "w"
    exact fine (by unfold yG;rw [ro,hw];simp)
   | false =>
    rw [aqE,if_pos rfl]
    refine adt ?_
    walk_at "w"
    exact⟨_,bad (by unfold yG;rw [ro];simp),rfl⟩
  ·rw [beq_eq_false_iff_ne.mpr (fun z=>hw (by omega)),aqE,if_pos rfl,if_pos rfl]
   refine adt ?_
   walk_at "w"
   exact⟨_,bad (by unfold yG;simp [hw]),rfl⟩
 ·rintro _ ⟨⟨a,b,rfl⟩,pre⟩
  refine afv ?_
  walk_at "w"
  refine abP h ?_
  unfold acp at pre
  rw [List.length_mapIdx,aoX] at pre
  exact pre
abbrev TR:=List (List Int)×Int×List DV
abbrev aoG (c:TR) (xs:List DV):Prop:=xs=.dat (tab c.1) :: c.2.2/\jq c.1=some c.2.1
abbrev anR (C:Addr) (c:TR) (Cv:Value) (x:XD):Prop:=Cv=.ref C/\x=some (("at":Str),PyData.int c.2.1)
abbrev spR (K:aoZ) (C:Addr) (n:Nat):Sp:=spF K n aoG (fun _ _=>False) (anR C)
theorem vc {C:Addr} {f:Fx} {E:XK} {ρ:zm} {D:DEnds} {c:TR} (h0:ρ[0]?=some (some (.dat (tab c.1)))) (e:jq c.1=some c.2.1):PSf K f E (qz (aaC (vg (aaB K C) [] E (zY (z6 0) y4))) ae1) ρ D (anR C c):=by
 refine ajr (anm (ank c.1 (zB (zo h0 (yk ⟨rfl,rfl,?_,?_⟩)))))
 ·rintro _ ⟨rfl,z⟩
  rw [e] at z
  cases z
 ·rintro C x ⟨rfl,i',z,rfl⟩
  rw [e] at z
  cases z
  exact⟨rfl,rfl⟩
theorem aaV {uaa:Addr} (F:Def K mg "scale_of" jz pf) (uac:FnInF P w K mg base k "ask_table" pf (aaB K uaa)):FnInF P w K mg base (k+1) "scale_of" pf (spR K uaa 1):=by
 refine F.okF sc_scale_of rfl fun fa cdv A outer s H E hr=>⟨_,(zc (ym (vZ uac hr rfl (za (pv 0) zb))) qQ),?_⟩
 rintro f xs c hl ⟨rfl,e⟩
 exact vc rfl e
theorem abQ {uaa:Addr} (F:Def K mg "pins_of" jZ pf) (uac:FnInF P w K mg base k "ask_table" pf (aaB K uaa)):FnInF P w K mg base (k+1) "pins_of" pf (spR K uaa 1):=by
 refine F.okF sc_pins_of rfl fun fa cdv A outer s H E hr=>⟨_,(zc (ym (vZ uac hr rfl (za (pv 0) zb))) qQ),?_⟩
 rintro f xs c hl ⟨rfl,e⟩
 exact vc rfl e
theorem aai {uaa:Addr} (F:Def K mg "show_table" yT pf) (uac:FnInF P w K mg base k "ask_table" pf (aaB K uaa)):FnInF P w K mg base (k+1) "show_table" pf (spR K uaa 1):=by
 refine F.okF vm rfl fun fa cdv A outer s H E hr=>⟨_,(zc (ym (vZ uac hr rfl (za (pv 0) zb))) qQ),?_⟩
 rintro f xs c hl ⟨rfl,e⟩
 exact vc rfl e
theorem ab4 {uaa:Addr} (F:Def K mg "web_of" qJ pC) (uac:FnInF P w K mg base k "ask_table" pf (aaB K uaa)):FnInF P w K mg base (k+1) "web_of" pC (spR K uaa 2):=by
 refine F.okF sc_web_of rfl fun fa cdv A outer s H E hr=>⟨_,(zc (ym (vZ uac hr rfl (za (pv 0) zb))) qQ),?_⟩
 rintro f xs c hl ⟨rfl,e⟩
 exact vc rfl e
structure OkL (rows:List (List Int)):Prop where
 h1:2<=rows.length
 h2:rows.length<=7
 row:∀ r∈rows,r.length<=8
theorem OkL.set {rows:List (List Int)} (o:OkL rows) {y:Nat} {r':List Int} (h:r'.length<=8):OkL (rows.set y r') where
 h1:=by rw [apP];exact o.h1
 h2:=by rw [apP];exact o.h2
 row:=fun r hr=>(List.mem_or_eq_of_mem_set hr).elim (o.row r) fun e=>e▸h
abbrev ag6 (K:aoZ):Sp:=spD K 2 (fun (c:List (List Int)×Nat) xs=>xs=[.feed,.dat (tab c.1)]/\Good c.2 c.1) fun _ d=>∃ bad:List (List Int),d=tab bad/\bad.length<=8/\∀ r∈bad,r.length<=8
theorem aki (F:Def K mg "_law_spoiled" y3 pS) (uab:mg "len"=none) (uad:mg "range"=none) (ual:mg "list"=none) (uae:FnIn P w K mg base k "_law_draw" pE (adF K)):FnIn P w K mg base (k+1) "_law_spoiled" pS (ag6 K):=by
 refine F.ok sc_law_spoiled rfl fun fa cdv A outer s H E hr=>⟨_,(zc (zC (i:=2) sc_law_spoiled.nd rfl (Or.inr rfl) (ya (N:=["_law_row"]) (own:=1) (fr:=[]) ⟨rfl,by decide +kernel,of_decide_eq_true (by kernel_rfl),of_decide_eq_true (by kernel_rfl),of_decide_eq_true (by kernel_rfl),rfl⟩ rfl (zS (K:=K) rfl (pv 1)) (fun _ _ _ _=>(zh (i:=0) (show (["_law_row"]:List Str).Nodup by decide +kernel) rfl (Or.inl rfl) (Or.inr rfl))) (fun _ _ _ _=>z7) (fun _ _ _ _=>(jr (vw (K:=K) rfl) rfl ual aru (za (pv 0) zb))) rfl rfl (fun _=>rfl))) (zc (zC (i:=3) sc_law_spoiled.nd rfl (Or.inl rfl) (ze uae hr rfl (za (pv 0) (za zd zb)))) (zc (zC (i:=4) sc_law_spoiled.nd rfl (Or.inl rfl) (ze uae hr rfl (za (pv 0) (za (zu (zO (K:=K) rfl) rfl uab apG (za (pv 2) zb)) zb)))) (zc (yb (zG abd (pv 3) zd (zM _)) (zc (zC (i:=5) sc_law_spoiled.nd rfl (Or.inl rfl) (z8 (za (zt zT (zt jb zd zd) zd) (za (zt yH (zt yH zd (zt jb zd zd)) zd) (za (zt jb zd zd) (za (zt yH zd (zt jb zd zd)) zb)))))) (zf (yi (zP (zy (K:=K) rfl) (pv 5) (ze uae hr rfl (za (pv 0) (za zd zb))) (fun _ _=>rfl)) (abb (zP (zy (K:=K) rfl) (pv 2) (pv 4) (fun _ _=>rfl)) (ze uae hr rfl (za (pv 0) (za (zu (zO (K:=K) rfl) rfl uab apG (za (zP (zy (K:=K) rfl) (pv 2) (pv 4) (fun _ _=>rfl)) zb)) zb))) set_list)))) zH) (zc (yb (zG (qi (K:=K) rfl hr.units) (pv 3) zd (zM _)) (zf (ym (amD aqF PySem.F.slot_list_pop PySem.F.type_list_pop amE (zP (zy (K:=K) rfl) (pv 2) (pv 4) (fun _ _=>rfl))))) zH) (zc (yb (zG (qi (K:=K) rfl hr.units) (pv 3) zd (zM _)) (zf (ym (af6 aqF aq9 ara aao (zP (zy (K:=K) rfl) (pv 2) (pv 4) (fun _ _=>rfl)) (za zd zb)))) zH) (zc (yb (zG (qi (K:=K) rfl hr.units) (pv 3) zd (zM _)) (zf (zC (i:=2) sc_law_spoiled.nd rfl (Or.inr rfl) (zt (vO (K:=K) rfl) (pv 2) (ya (N:=["_law_k","_law_rows"]) (own:=1) (fr:=[2]) ⟨rfl,by decide +kernel,of_decide_eq_true (by kernel_rfl),of_decide_eq_true (by kernel_rfl),of_decide_eq_true (by kernel_rfl),rfl⟩ rfl (yM rfl uad (za (zt yH zd (zu (zO (K:=K) rfl) rfl uab apG (za (pv 2) zb))) zb)) (fun _ _ _ _=>(zh (i:=0) (show (["_law_k","_law_rows"]:List Str).Nodup by decide +kernel) rfl (Or.inl rfl) (Or.inr rfl))) (fun _ _ _ _=>z7) (fun _ _ _ _=>(jr (vw (K:=K) rfl) rfl ual aru (za (zP (zy (K:=K) rfl) (pv 1) zd (fun _ _=>rfl)) zb))) rfl rfl (fun _=>rfl))))) zH) (zc (yb (zG (qi (K:=K) rfl hr.units) (pv 3) zd (zM _)) (zf (zC (i:=2) sc_law_spoiled.nd rfl (Or.inr rfl) (aio (aiI (K:=K) rfl) (pv 2) akw (akx (ze uae hr rfl (za (pv 0) (za zd zb))))))) zH) (zf (zx (pv 2))))))))))),?_⟩
 rintro f xs ⟨rows,wd⟩ hl ⟨rfl,g⟩
 try dsimp only [zI,zj]
 dsimp only at *
 have g1:=g.h1
 have g2:=g.h2
 have w1:=g.w1
 have w2:=g.w2
 have ml:(rows.map fun r=>PyData.list (r.map .int)).length=rows.length:=aoX _
 refine ant (anb (i:=1) rfl (by omega) ⟨show 2<6 by decide,fun a as=>?_⟩)
 refine ajz (ajB (i:=2) rfl (zp 6 ?_))
 walk_at "w"
 rintro _ ⟨way,rfl,v0,v1⟩
 refine⟨_,rfl,ajz (ajB (i:=2) rfl (zp (rows.length:Int) ?_))⟩
 walk_at "w"
 refine⟨⟨by rw [ml],by omega,by omega⟩,?_⟩
 rintro _ ⟨y,rfl,y0,y1⟩
 obtain⟨yn,rfl⟩:∃ n:Nat,y=n:=⟨y.toNat,by omega⟩
 obtain⟨row,hrow⟩:∃ r,rows[yn]?=some r:=⟨_,aoW (by omega)⟩
 have rl:=g.row row (ao4 hrow)
 have ok0:OkL rows:=⟨g1,g2,fun r hr=>by rw [g.row r hr];omega⟩
 have aty:atI (rows.map fun r=>PyData.list (r.map .int)) (yn:Int)=some (.list (row.map .int)):=yK (by rw [ao5,hrow];rfl)
 refine⟨_,rfl,?_⟩
 refine ajD (fun ρ' R'=>∃ rows' x4,ρ'=[some .feed,some (.dat (tab rows)),some (.own f.M.length),some (.dat (.int way)),some (.dat (.int yn)),x4]/\R'=some rows'/\OkL rows'/\(2<=way->rows'=rows)) (ajy ?_) ?_
 ·walk_at "w"
  refine yB (fun h=>?_) fun h=>?_
  ·have h:=of_decide_eq_true h
   refine aoy (anr (zN (aiw ?_)))
   walk_at "w"
   refine anu (i:=2) rfl (abl (zo rfl ⟨_,rfl,zp 4 ?_⟩))
   walk_at "w"
   rintro _ ⟨q,rfl,q0,q1⟩
   obtain⟨d,ed,md⟩:=menu (ds:=[.int (10 ^ arh 9+1),.int (0 - 10 ^ arh 9 - 1),.int (10 ^ arh 30),.int (0 - 10 ^ arh 30)]) q0 q1 (by simp)
   obtain⟨v,rfl⟩:∃ n:Int,d=.int n:=by
    simp only [ao7,aqa,or_false] at md
    rcases md with rfl | rfl | rfl | rfl <;> exact⟨_,rfl⟩
   refine⟨_,rfl,_,ed,v,rfl,zo rfl ⟨_,rfl,yn,rfl,row,hrow,zp (wd:Int) ?_⟩⟩
   walk_at "w"
   refine⟨_,aty,?_⟩
   walk_at "w"
   refine⟨⟨by rw [aoX,rl],by omega,by omega⟩,?_⟩
   rintro _ ⟨x,rfl,x0,x1⟩
   exact⟨_,rfl,x.toNat,by omega,by omega,_,_,rfl,rfl,ok0.set (by rw [apP];omega),fun z=>by omega⟩
  ·exact afA ⟨rows,_,rfl,rfl,ok0,fun _=>rfl⟩
 rintro _ _ ⟨rows1,x4,rfl,rfl,ok1,e1⟩
 refine ajD (fun ρ' R'=>∃ rows' x4,ρ'=[some .feed,some (.dat (tab rows)),some (.own f.M.length),some (.dat (.int way)),some (.dat (.int yn)),x4]/\R'=some rows'/\OkL rows'/\(3<=way->rows'=rows)) (ajy ?_) ?_
 ·walk_at "w"
  rw [if_neg aoY,aac]
  refine yB (fun h=>?_) fun h=>?_
  ·have h:=of_decide_eq_true h
   have:=e1 (by omega)
   subst this
   refine ajC (i:=2) rfl (zo rfl ⟨_,rfl,yn,rfl,row,hrow,by rintro rfl;simp at rl;omega,_,_,rfl,rfl,ok0.set (by rw [asM];omega),fun z=>by omega⟩)
  ·exact afA ⟨rows1,_,rfl,rfl,ok1,fun z=>e1 (by omega)⟩
 rintro _ _ ⟨rows2,x4,rfl,rfl,ok2,e2⟩
 refine ajD (fun ρ' R'=>∃ rows' x4,ρ'=[some .feed,some (.dat (tab rows)),some (.own f.M.length),some (.dat (.int way)),some (.dat (.int yn)),x4]/\R'=some rows'/\OkL rows') (ajy ?_) ?_
 ·walk_at "w"
  rw [if_neg aoY,aac]
  refine yB (fun h=>?_) fun h=>?_
  ·have h:=of_decide_eq_true h
   have:=e2 (by omega)
   subst this
   refine aoz (i:=2) rfl (zo rfl ⟨yn,rfl,row,hrow,by omega,jw ⟨0,rfl,_,_,rfl,rfl,ok0.set (by rw [api];show row.length+1<=8;omega)⟩⟩)
  ·exact afA ⟨rows2,_,rfl,rfl,ok2⟩
 rintro _ _ ⟨rows3,x4,rfl,rfl,ok3⟩
 have l1:=ok3.h1
 have l2:=ok3.h2
 have ml3:(rows3.map fun r=>PyData.list (r.map .int)).length=rows3.length:=aoX _
 obtain⟨r0,hr0⟩:∃ r0,rows3[0]?=some r0:=⟨_,aoW (by omega)⟩
 have at0:atI (rows3.map fun r=>PyData.list (r.map .int)) 0=some (.list (r0.map .int)):=yK (j:=0) (by rw [ao5,hr0];rfl)
 have r08:=ok3.row r0 (ao4 hr0)
 refine ans (i:=2) rfl ?_
 refine jY (fun ρ=>∃ rows' x4,ρ=[some .feed,some (.dat (tab rows)),some (.dat (tab rows')),some (.dat (.int way)),some (.dat (.int yn)),x4]/\rows'.length<=8/\∀ r∈rows',r.length<=8) (vJ ?_) ?_
 ·walk_at "w"
  refine yB (fun h=>?_) fun h=>jh ⟨rows3,_,rfl,by omega,ok3.row⟩
  refine zN (ac6 (zo rfl ⟨_,rfl,PEdT.ped (akF (aju [.dat (.int (8 - (rows3.length:Int)))] ?_ ?_))⟩))
  ·walk_at "w"
   rw [ml3]
  refine⟨_,rfl,by omega,by omega,fun _ r=>r=r0,fun D i hi=>?_,fun rs hl hR=>?_⟩
  ·refine ajg (abl (zo rfl ⟨_,rfl,jw ⟨_,rfl,_,at0,_,rfl,r0,rfl,rfl⟩⟩))
  ·have rs8:∀ r∈rs,r.length<=8:=fun r hr=>by
    obtain⟨j,hj⟩:=apN hr
    rw [hR j r hj]
    exact r08
   refine⟨_,rfl,by rw [aoX,aoX];omega,zi ⟨rows3++rs,ji f.M.length x4,?_,by rw [api];omega,fun r hr=>(aps.mp hr).elim (ok3.row r) (rs8 r)⟩⟩
   rw [<-apv]
   rfl
 rintro _ ⟨rows4,x4,rfl,l4,ok4⟩
 refine jY (fun ρ=>∃ rows' x4,ρ=[some .feed,some (.dat (tab rows)),some (.dat (tab rows')),some (.dat (.int way)),some (.dat (.int yn)),x4]/\rows'.length<=8/\∀ r∈rows',r.length<=8) (vJ ?_) ?_
 ·walk_at "w"
  refine yB (fun h=>?_) fun h=>jh ⟨rows4,_,rfl,l4,ok4⟩
  refine zN (al0 (zo rfl ⟨_,rfl,alY (alZ (zp 2 ?_))⟩))
  walk_at "w"
  rintro _ ⟨q,rfl,q0,q1⟩
  refine⟨_,rfl,zi ⟨rows4.take (HT.sIx rows4.length rows4.length (some q)),x4,?_,by rw [apK];omega,fun r hr=>ok4 r (List.mem_of_mem_take hr)⟩⟩
  show [_,_,some (DV.dat (.list (L2.cutD (rows4.map fun r=>.list (r.map .int)) none (some q)))),_,_,_]=_
  unfold L2.cutD
  rw [aoX,HT.sIx_none,List.drop_zero,Nat.sub_zero,<- as3]
  rfl
 rintro _ ⟨rows5,x4,rfl,l5,ok5⟩
 exact yc (zo rfl ⟨rows5,rfl,l5,ok5⟩)
def vC (rows:List (List Int)):PyData:=match jq rows with
 | none=>.none
 | some i=>.int i
abbrev amj (K:aoZ):Sp:=spD K 1 (fun (c:List (List Int)) xs=>xs=[.dat (tab c)]/\∀ r∈c,r.length<=8) fun c r=>r=vC c
theorem anS (F:Def K mg "_law_due" qY pU) (uab:mg "len"=none) (uad:mg "range"=none) (uai:mg "max"=none) (uag:mg "min"=none):FnIn P w K mg base (k+1) "_law_due" pU (amj K):=by
 refine F.ok sc_law_due rfl fun fa cdv A outer s H E hr=>⟨_,(zc (yb (PW.pt (aa9 (zG abd (zu (zO (K:=K) rfl) rfl uab apG (za (pv 0) zb)) zd (zM _)) (aal (zG ab8 (zu (zO (K:=K) rfl) rfl uab apG (za (pv 0) zb)) zd (zM _))))) (zf (zx (aik ae5 zd))) zH) (zc (jP ap0 rfl (yM rfl uad (za (zu (zO (K:=K) rfl) rfl uab apG (za (pv 0) zb)) zb)) (zh (i:=1) sc_law_due.nd rfl (Or.inl rfl) (Or.inr rfl)) (zc (zC (i:=2) sc_law_due.nd rfl (Or.inl rfl) (zu (zO (K:=K) rfl) rfl uab apG (za (zP (zy (K:=K) rfl) (pv 0) (pv 1) (fun _ _=>rfl)) zb))) (zc (yb (PW.pt (aa9 (zG (qB (K:=K) rfl hr.units) (pv 2) (zu (zO (K:=K) rfl) rfl uab apG (za (zP (zy (K:=K) rfl) (pv 0) zd (fun _ _=>rfl)) zb)) (zM _)) (aa9 (zG abd (pv 2) zd (zM _)) (aal (zG ab8 (pv 2) zd (zM _)))))) (zf (zx (pv 1))) zH) (zf (yb (PW.pt (aa9 (zG ab8 (zu (aco (K:=K) rfl rfl) rfl uai boot_max (za (zP (zy (K:=K) rfl) (pv 0) (pv 1) (fun _ _=>rfl)) zb)) (zt jb zd zd) (zM _)) (aal (zG abd (zu (acn (K:=K) rfl rfl) rfl uag boot_min (za (zP (zy (K:=K) rfl) (pv 0) (pv 1) (fun _ _=>rfl)) zb)) (zt yH zd (zt jb zd zd)) (zM _))))) (zf (zx (pv 1))) zH))))) (zf (zx aa8)))),?_⟩
 rintro f xs rows hl ⟨rfl,h8⟩
 try dsimp only [zI,zj]
 have ml:(rows.map fun r=>PyData.list (r.map .int)).length=rows.length:=aoX _
 refine zV (aex (¬ (2<=rows.length/\rows.length<=7)) ?_ ?_ ?_)
 ·walk_at "w"
  rw [ml]
  split <;> rename_i z <;> simp at z
  ·symm;simp;omega
  ·walk_at "w"
   rw [ml]
   rw [decide_eq_decide]
   omega
 ·intro h
  have dd:vC rows=.int (-1):=by unfold vC jq;rw [if_neg h]
  refine yc (aiN ?_)
  walk_at "w"
  exact dd.symm
 intro h
 have h:2<=rows.length/\rows.length<=7:=arv.mp h
 obtain⟨r0,e0⟩:∃ r0,rows[0]?=some r0:=⟨_,aoW (by omega)⟩
 have g0:(rows.getD 0 []).length=r0.length:=by rw [ao0,e0];rfl
 have at0:atI (rows.map fun q=>PyData.list (q.map .int)) 0=some (.list (r0.map .int)):=yK (j:=0) (by rw [ao5,e0];rfl)
 have e9:(10:Int) ^ arh 9=1000000000:=by decide
 refine jh (zV (aea (vL (aju [.dat (.int rows.length)] ?_ ?_))))
 ·walk_at "w"
  rw [ml]
 refine⟨_,rfl,by omega,by omega,fun i ρ=>(∃ a b,ρ=[some (.dat (tab rows)),a,b])/\∀ j:Nat,j<i->∀ q,rows[j]?=some q->yG (rows.getD 0 []).length q=false,⟨⟨_,_,rfl⟩,fun j hj=>absurd hj (apZ _)⟩,?_,?_⟩
 ·rintro i d _ hd ⟨⟨a,b,rfl⟩,pre⟩
  obtain⟨hi,rfl⟩:=qL hd
  rw [aqR] at hi
  obtain⟨r,er⟩:∃ r,rows[i]?=some r:=⟨_,aoW hi⟩
  have r8:=h8 r (ao4 er)
  have ati:atI (rows.map fun q=>PyData.list (q.map .int)) (i:Int)=some (.list (r.map .int)):=yK (by rw [ao5,er];rfl)
  have bad:yG r0.length r=true->PyData.int (i:Int)=vC rows:=fun z=>by
   unfold vC
   rw [akh h er (by rw [g0];exact z) pre]
  have lr:(r.map PyData.int).length=r.length:=aoX _
  have lr0:(r0.map PyData.int).length=r0.length:=aoX _
  have m0:r.map PyData.int++[PyData.int 0]=(r++[0]).map PyData.int:=by rw [apv];rfl
  refine zi (jY (fun ρ=>ρ=[some (.dat (tab rows)),some (.dat (.int i)),some (.dat (.int r.length))]) ?_ ?_)
  ·walk_at "w"
   refine⟨_,ati,?_⟩
   walk_at "w"
   rw [lr]
   rfl
  rintro _ rfl
  refine zV (aex (¬ (r.length=r0.length/\2<=r.length/\r.length<=7)) ?_ ?_ ?_)
  ·walk_at "w"
   refine⟨_,at0,?_⟩
   walk_at "w"
   rw [lr0,if_pos rfl]
   show (if (!(((r.length:Nat):Int) == ((r0.length:Nat):Int)))=true then _ else _)
   split <;> rename_i z
   ·symm
    rw [decide_eq_true_eq]
    exact fun q=>by have:=q.1;simp at z;omega
   ·have z:(r.length:Int)=r0.length:=by simpa using z
    walk_at "w"
    split <;> rename_i z2 <;> simp at z2
    ·symm
     rw [decide_eq_true_eq]
     exact fun q=>by have:=q.2.1;omega
    ·walk_at "w"
     rw [decide_eq_decide]
     omega
  ·intro hb
   refine yc (zo rfl (bad ?_))
   unfold yG aaQ
   by_cases hw:r.length=r0.length
   ·rw [Bool.or_eq_true]
    refine .inr ?_
    rw [asd,decide_eq_false_iff_not]
    exact fun z=>hb ⟨hw,z.1,z.2.1⟩
   ·simp [hw]
  ·intro hb
   have hb:=arv.mp hb
   have ne:r≠[]:=by rintro rfl;simp at hb
   refine jh (aex (¬ ∀ n∈r,-1000000000<=n/\n<=1000000000) ?_ ?_ ?_)
   ·refine akC (yI (acj (afi (zB (abl (zo rfl ⟨_,rfl,zo rfl ⟨_,rfl,_,ati,yk ⟨r,rfl,ne,fun M hM hM'=>?_⟩⟩⟩))))))
    walk_at "w"
    rw [e9]
    split <;> rename_i z <;> simp at z
    ·symm
     rw [decide_eq_true_eq]
     exact fun y=>by have:=(y M hM).2;omega
    ·refine yI (acj (afh (zB (abl (zo rfl ⟨_,rfl,zo rfl ⟨_,rfl,_,ati,yk ⟨r,rfl,ne,fun m hm hm'=>?_⟩⟩⟩)))))
     walk_at "w"
     rw [e9,decide_eq_decide]
     constructor
     ·intro q y
      have:=(y m hm).1
      omega
     ·intro q
      refine Decidable.byContradiction fun y=>q fun n hn=>⟨?_,?_⟩
      ·have:=hm' n hn
       omega
      ·have:=hM' n hn
       omega
   ·intro hn
    refine yc (zo rfl (bad ?_))
    unfold yG aaQ
    rw [Bool.or_eq_true]
    refine .inr ?_
    rw [asd,decide_eq_false_iff_not]
    exact fun z=>hn z.2.2
   ·intro hn
    have hn:=arv.mp hn
    refine jh ⟨⟨_,_,rfl⟩,fun j hj q hq=>?_⟩
    by_cases ej:j=i
    ·subst ej
     rw [er] at hq
     cases hq
     unfold yG aaQ
     rw [g0,decide_eq_true (⟨hb.2.1,hb.2.2,hn⟩:2<=r.length/\r.length<=7/\∀ n∈r,-1000000000<=n/\n<=1000000000),hb.1]
     simp
    ·exact pre j (by omega) q hq
 ·rintro _ ⟨⟨a,b,rfl⟩,pre⟩
  rw [aax,aqR] at pre
  refine yc (aiu ?_)
  show PyData.none=vC rows
  unfold vC
  rw [abP h pre]
theorem akj {t n:Nat} (ht:t<=7) (hn:n<=7):(vf t n).length<=49:=by
 have:=adI t n
 rw [aa5,aoX] at this
 rw [this]
 exact aq0 ht hn
def anT (s:Nat) (p:Pt):PyData:=.tuple [.int (p.1 * s),.int (p.2 * s)]
def afY (i:Int):Str:=arl (toString i)
def aib (r:List Int):Str:=ass " " (r.map afY)
abbrev adQ (K:aoZ):Sp:=spN K 1 acM fun c es=>∃ s:Nat,es=(vf c.1.length c.2).map (anT s)
theorem alL (F:Def K mg "pins_of" jZ pf) (uac:FnIn P w K mg base k "ask_table" pf (abG K)) (uar:FnIn P w K mg base k "scale_of" pf (vb K)) (uaI:FnIn P w K mg base k "points" pf (aad K)):FnIn P w K mg base (k+1) "pins_of" pf (adQ K):=by
 refine F.okN sc_pins_of rfl fun fa cdv A outer s H E hr=>⟨_,(zc (ym (ze uac hr rfl (za (pv 0) zb))) (zc (zC (i:=1) sc_pins_of.nd rfl (Or.inr rfl) (ze uar hr rfl (za (pv 0) zb))) (zf (zx (ya (N:=["x","y","scale"]) (own:=2) (fr:=[1]) ⟨rfl,by decide +kernel,of_decide_eq_true (by kernel_rfl),of_decide_eq_true (by kernel_rfl),of_decide_eq_true (by kernel_rfl),rfl⟩ rfl (zS (K:=K) rfl (ze uaI hr rfl (za (pv 0) zb))) (fun _ _ _ _=>(zQ (K:=K) (n:=2) rfl rfl (zk (zh (i:=0) (show (["x","y","scale"]:List Str).Nodup by decide +kernel) rfl (Or.inl rfl) (Or.inr rfl)) (zk (zh (i:=1) (show (["x","y","scale"]:List Str).Nodup by decide +kernel) rfl (Or.inl rfl) (Or.inr rfl)) zL)))) (fun _ _ _ _=>z7) (fun _ _ _ _=>(zE (za (zt yQ (pv 0) (pv 2)) (za (zt yQ (pv 1) (pv 2)) zb)))) rfl rfl (fun _=>rfl)))))),?_⟩
 rintro f xs ⟨rows,wd⟩ hl ⟨rfl,g⟩
 try dsimp only [zI,zj]
 dsimp only at *
 have nl:=akj g.h2 g.w2
 refine qG (qA (zp (rows,wd) (vA rfl ⟨rfl,⟨rfl,g⟩,?_⟩)))
 rintro _ rfl
 refine qG (zN (zp (rows,wd) (vA rfl ⟨rfl,⟨rfl,g⟩,?_⟩)))
 rintro _ ⟨s,rfl,L⟩
 have sl:=aeY g L
 have sh:((s:Nat):Int).natAbs<vd:=by rw [aqL];exact qk sl (by decide)
 clear sl
 refine zi (abr (vN (A:=pD) (B:=anT s) (vf rows.length wd) (yu (zp (rows,wd) (vA rfl ⟨rfl,⟨rfl,g⟩,?_⟩)))))
 rintro _ rfl
 refine⟨_,rfl,aa5 _ _,apm nl (by decide),?_,s,rfl⟩
 rintro D ⟨x,y⟩ ρ' es hp ho hes
 obtain⟨h1,h2,h3,h4⟩:=mem_npts.mp hp
 dsimp only at h1 h2 h3 h4
 have g2:=g.h2
 have w2:=g.w2
 obtain⟨u,v,rfl⟩:=ho.two
 refine yF rfl (zv (zi (zv (zi (z4 (y7 ?_))))))
 rw [if_pos rfl]
 have hx:x.natAbs<vd/\((s:Nat):Int).natAbs<vd:=⟨qk (m:=60) (show x.natAbs<2 ^ 60 by omega) (by decide),sh⟩
 have hy:y.natAbs<vd/\((s:Nat):Int).natAbs<vd:=⟨qk (m:=60) (show y.natAbs<2 ^ 60 by omega) (by decide),sh⟩
 refine yC hes (y6 (zB (ald rfl rfl hx ?_)))
 refine zB (ald rfl rfl hy ?_)
 exact yk ⟨_,rfl,by show 2<=1000;decide,.mk2,rfl⟩
abbrev adR (K:aoZ):Sp:=spD K 1 acM fun c r=>r=.str (ass "\n" (c.1.map aib))
theorem alM (F:Def K mg "show_table" yT pf) (ua0:mg "str"=none) (uac:FnIn P w K mg base k "ask_table" pf (abG K)):FnIn P w K mg base (k+1) "show_table" pf (adR K):=by
 refine F.ok vm rfl fun fa cdv A outer s H E hr=>⟨_,(zc (ym (ze uac hr rfl (za (pv 0) zb))) (zf (zx (aey (K:=K) rfl yL (za (ya (N:=pA) (own:=1) (fr:=[]) ⟨rfl,by decide +kernel,of_decide_eq_true (by kernel_rfl),of_decide_eq_true (by kernel_rfl),of_decide_eq_true (by kernel_rfl),rfl⟩ rfl (zS (K:=K) rfl (pv 0)) (fun _ _ _ _=>(zh (i:=0) (show (pA:List Str).Nodup by decide +kernel) rfl (Or.inl rfl) (Or.inr rfl))) (fun _ _ _ _=>z7) (fun _ _ _ _=>(aey (K:=K) rfl yL (za (ya (N:=["height"]) (own:=1) (fr:=[]) ⟨rfl,by decide +kernel,of_decide_eq_true (by kernel_rfl),of_decide_eq_true (by kernel_rfl),of_decide_eq_true (by kernel_rfl),rfl⟩ rfl (zS (K:=K) rfl (pv 0)) (fun _ _ _ _=>(zh (i:=0) (show (["height"]:List Str).Nodup by decide +kernel) rfl (Or.inl rfl) (Or.inr rfl))) (fun _ _ _ _=>z7) (fun _ _ _ _=>(jr acR rfl ua0 PyProof.Rows.boot_str (za (pv 0) zb))) rfl rfl (fun _=>rfl)) zb) rfl rfl rfl rfl rfl)) rfl rfl (fun _=>rfl)) zb) rfl rfl rfl rfl rfl)))),?_⟩
 rintro f xs ⟨rows,wd⟩ hl ⟨rfl,g⟩
 try dsimp only [zI,zj]
 dsimp only at *
 have g2:=g.h2
 have w2:=g.w2
 refine zV (qA (zp (rows,wd) (vA rfl ⟨rfl,⟨rfl,g⟩,?_⟩)))
 rintro _ rfl
 have nl:∀ {i:Int},-1000000000<=i/\i<=1000000000->(afY i).length<=11:=fun {i} h=>by
  have:=int_text_length_le10 (a:=i) (k:=10) (by decide) (by omega)
  unfold afY
  rw [PySem.ofString_length]
  exact this
 have ok1:∀ r∈rows,JoinOk " " (r.map afY)=true/\(aib r).length<=84:=fun r hr=>by
  have rl:=g.row r hr
  obtain⟨a,b⟩:=joinOk_of (sep:=" ") (ts:=r.map afY) (b:=11) (fun t ht=>by
   obtain⟨i,hi,rfl⟩:=apy.mp ht
   exact nl (g.hgt r hr i hi)) (by rw [aoX];omega) (by decide) (by decide)
  rw [aoX] at b
  exact⟨a,apm b (by omega)⟩
 have ok2:JoinOk "\n" (rows.map aib)=true:=(joinOk_of (b:=84) (fun t ht=>by
  obtain⟨r,hr,rfl⟩:=apy.mp ht
  exact (ok1 r hr).2) (by rw [aoX];omega) (by decide) (by decide)).1
 refine yc (ajI (PEdO.ped (vN (A:=fun r=>.list (r.map .int)) (B:=fun r=>.str (aib r)) rows (yu (zo rfl ⟨_,rfl,rfl,by omega,?_,?_⟩)))))
 ·rintro D r ρ' es hr' ho hes
  obtain⟨u,rfl⟩:=ho.one
  have rl:=g.row r hr'
  refine zi (y7 ?_)
  rw [if_pos rfl]
  refine yC hes (ajI (PEdO.ped (vN (A:=.int) (B:=fun i=>.str (afY i)) r (yu (zo rfl ⟨_,rfl,rfl,by omega,?_,?_⟩)))))
  ·rintro D2 i ρ2 es2 hi ho2 hes2
   obtain⟨u2,rfl⟩:=ho2.one
   have:=g.hgt r hr' i hi
   refine zi (y7 ?_)
   rw [if_pos rfl]
   exact yC hes2 (anw (zo rfl ⟨_,rfl,by omega,.mk1,rfl⟩))
  ·exact⟨r.map afY,by rw [aq2];rfl,(ok1 r hr').1,.mk1,rfl⟩
 ·exact⟨rows.map aib,by rw [aq2];rfl,ok2,rfl⟩
theorem aaj:bootBuiltins "ValueError"=some (.type "ValueError"):=by kernel_rfl
abbrev ag7 (K:aoZ) (uaa:Addr):Addr->Sp:=spM K 1 (fun a (x:XD) xs=>xs=[.mon (jS K a (.ref uaa) x)]) fun _ r=>r=.bool true
theorem akk {uaa uas uat uau uav uaw uax uay uaz uaA:Addr} (F:Def K mg "_law_alone" jN pV) (uaf:mg "isinstance"=none) (ua1:mg "any"=none) (ua2:mg "ValueError"=none)
  (uak:mg "NoTable"=some (.ref uaa)) (ua3:mg "NoPoint"=some (.ref uas)) (ua4:mg "NoGate"=some (.ref uat)) (ua5:mg "NoRing"=some (.ref uau)) (ua6:mg "TooSteep"=some (.ref uav)) (ua7:mg "NoWeb"=some (.ref uaw)) (ua8:mg "NoBack"=some (.ref uax)) (ua9:mg "NoText"=some (.ref uay)) (uba:mg "NoRow"=some (.ref uaz)) (ubb:mg "NoDeed"=some (.ref uaA))
  (uaj:v3 K uaa=true) (kt0:apn K (.ref uaa) (.ref uaa)=some true) (ktv:apn K (.ref uaa) (.type "ValueError")=some true) (kt1:apn K (.ref uaa) (.ref uas)=some false) (kt2:apn K (.ref uaa) (.ref uat)=some false) (kt3:apn K (.ref uaa) (.ref uau)=some false) (kt4:apn K (.ref uaa) (.ref uav)=some false) (kt5:apn K (.ref uaa) (.ref uaw)=some false) (kt6:apn K (.ref uaa) (.ref uax)=some false) (kt7:apn K (.ref uaa) (.ref uay)=some false) (kt8:apn K (.ref uaa) (.ref uaz)=some false) (kt9:apn K (.ref uaa) (.ref uaA)=some false) :
  FnInM P w K mg base (k+1) "_law_alone" pV (ag7 K uaa):=by
 have W:=agG uaj
 refine F.okM sc_law_alone rfl fun fa cdv A outer s H ea hM hr=>⟨_,(zc (zC (i:=1) sc_law_alone.nd rfl (Or.inl rfl) (z8 (za (zu (yD (K:=K) rfl) rfl uaf boot_isinstance (za (pv 0) (za (yy (v:=.ref uas) rfl ua3 rfl) zb))) (za (zu (yD (K:=K) rfl) rfl uaf boot_isinstance (za (pv 0) (za (yy (v:=.ref uat) rfl ua4 rfl) zb))) (za (zu (yD (K:=K) rfl) rfl uaf boot_isinstance (za (pv 0) (za (yy (v:=.ref uau) rfl ua5 rfl) zb))) zb))))) (zc (zC (i:=1) sc_law_alone.nd rfl (Or.inl rfl) (zt (vO (K:=K) rfl) (pv 1) (z8 (za (zu (yD (K:=K) rfl) rfl uaf boot_isinstance (za (pv 0) (za (yy (v:=.ref uav) rfl ua6 rfl) zb))) (za (zu (yD (K:=K) rfl) rfl uaf boot_isinstance (za (pv 0) (za (yy (v:=.ref uaw) rfl ua7 rfl) zb))) (za (zu (yD (K:=K) rfl) rfl uaf boot_isinstance (za (pv 0) (za (yy (v:=.ref uax) rfl ua8 rfl) zb))) zb)))))) (zc (zC (i:=1) sc_law_alone.nd rfl (Or.inl rfl) (zt (vO (K:=K) rfl) (pv 1) (z8 (za (zu (yD (K:=K) rfl) rfl uaf boot_isinstance (za (pv 0) (za (yy (v:=.ref uay) rfl ua9 rfl) zb))) (za (zu (yD (K:=K) rfl) rfl uaf boot_isinstance (za (pv 0) (za (yy (v:=.ref uaz) rfl uba rfl) zb))) (za (zu (yD (K:=K) rfl) rfl uaf boot_isinstance (za (pv 0) (za (yy (v:=.ref uaA) rfl ubb rfl) zb))) zb)))))) (zf (zx (aan (zu (yD (K:=K) rfl) rfl uaf boot_isinstance (za (pv 0) (za (yy (v:=.ref uaa) rfl uak rfl) zb))) (aan (zu (yD (K:=K) rfl) rfl uaf boot_isinstance (za (pv 0) (za (akp (v:=.ty "ValueError") rfl ua2 aaj rfl) zb))) (acP (aid (zu (ahO (K:=K) rfl hM) rfl ua1 PyProof.Rows.boot_any (za (pv 1) zb))))))))))),?_⟩
 rintro f xs x hl rfl
 try dsimp only [cxM,zI,zj]
 refine jY (fun ρ=>ρ=[some (.mon (jS K ea (.ref uaa) x)),some (.dat (.list [.bool false,.bool false,.bool false]))]) ?_ ?_
 ·repeat (first | walk_at "dl" | refine afw rfl W (by assumption) ?_)
  rfl
 rintro _ rfl
 refine jY (fun ρ=>ρ=[some (.mon (jS K ea (.ref uaa) x)),some (.dat (.list [.bool false,.bool false,.bool false,.bool false,.bool false,.bool false]))]) (zN (ac6 (zo rfl ⟨_,rfl,?_⟩))) ?_
 ·repeat (first | walk_at "dl" | refine afw rfl W (by assumption) ?_)
  rfl
 rintro _ rfl
 refine jY (fun ρ=>ρ=[some (.mon (jS K ea (.ref uaa) x)),some (.dat (.list [.bool false,.bool false,.bool false,.bool false,.bool false,.bool false,.bool false,.bool false,.bool false]))]) (zN (ac6 (zo rfl ⟨_,rfl,?_⟩))) ?_
 ·repeat (first | walk_at "dl" | refine afw rfl W (by assumption) ?_)
  rfl
 rintro _ rfl
 refine yc (abm (ajs rfl W (.inr ⟨_,rfl,kt0⟩) ⟨true,rfl,?_⟩))
 rw [if_pos rfl]
 refine abm (ajs rfl W (.inl ⟨_,rfl,ktv⟩) ⟨true,rfl,?_⟩)
 rw [if_pos rfl]
 refine afg (anq (j:=0) rfl (zo rfl ⟨[false,false,false,false,false,false,false,false,false],rfl,?_⟩))
 exact⟨_,rfl,rfl⟩
abbrev T5:=List (List Int)×Nat×List Int×Int×Int
abbrev akl (K:aoZ):Sp:=spD K 3 (fun (c:T5) xs=>xs=[.dat (tab c.1),.dat (.list (c.2.2.1.map .int)),.dat (.int c.2.2.2.1)]/\0<=c.2.2.2.1/\c.2.2.2.1<4/\c.2.2.1.length<=3/\(Good c.2.1 c.1 \/ jq c.1=some c.2.2.2.2)) fun c r=>(Good c.2.1 c.1->r=.tuple [.str "told"])/\(jq c.1=some c.2.2.2.2->r=.tuple [.str "no table",.int c.2.2.2.2])
theorem good_none {wd:Nat} {rows:List (List Int)} (g:Good wd rows):jq rows=none:=by
 refine abP ⟨g.h1,g.h2⟩ fun j hj q hq=>?_
 have w1:=g.w1
 have w2:=g.w2
 have g1:=g.h1
 have qm:=ao4 hq
 have e0:(rows.getD 0 []).length=wd:=by
  rw [ao0,aoW (show 0<rows.length by omega)]
  exact g.row _ (apu _)
 unfold yG aaQ
 rw [e0,g.row q qm,decide_eq_true (⟨w1,w2,g.hgt q qm⟩:2<=wd/\wd<=7/\∀ n∈q,-1000000000<=n/\n<=1000000000)]
 simp
theorem alN {uaa uaB:Addr} (F:Def K mg "_law_told" qv pW) (uaP:mg "HeightError"=some (.ref uaB)) (I_NoTable:InitOk P w K mg base 1 uaa "at") (uaj:v3 K uaa=true) (eh:arp K (.ref uaa) (.ref uaB)=some true)
  (ubO:FnIn P w K mg base k "web_of" pC (ag5 K)) (B_web_of:FnInF P w K mg base k "web_of" pC (spR K uaa 2)) (uar:FnIn P w K mg base k "scale_of" pf (vb K)) (B_scale_of:FnInF P w K mg base k "scale_of" pf (spR K uaa 1)) (ubP:FnIn P w K mg base k "pins_of" pf (adQ K)) (B_pins_of:FnInF P w K mg base k "pins_of" pf (spR K uaa 1)) (ubQ:FnIn P w K mg base k "show_table" pf (adR K)) (B_show_table:FnInF P w K mg base k "show_table" pf (spR K uaa 1)) (uce:FnInM P w K mg base k "_law_alone" pV (ag7 K uaa)):FnIn P w K mg base (k+1) "_law_told" pW (akl K):=by
 obtain⟨fT,dT,T⟩:=I_NoTable.fld
 have W:=agG uaj
 obtain⟨a_web_of,_,_,ubc,ucf,_⟩:=ubO.ex
 obtain⟨a_scale_of,_,_,ubd,ucZ,_⟩:=uar.ex
 obtain⟨a_pins_of,_,_,ube,uc0,_⟩:=ubP.ex
 obtain⟨a_show_table,_,_,ubf,uc1,_⟩:=ubQ.ex
 have GA_web_of:∀ sp,sp∈[ag5 K,spR K uaa 2]->FnAt P w K mg base (CXf P w) k a_web_of sp:=fun sp h=>by
  rcases ao7.mp h with rfl | h
  ·exact ubO.at ubc
  ·obtain rfl:=apo.mp h
   exact B_web_of.at ubc
 have GX:∀ a sp,(a,sp)∈[(a_scale_of,vb K),(a_scale_of,spR K uaa 1),(a_pins_of,adQ K),(a_pins_of,spR K uaa 1),(a_show_table,adR K),(a_show_table,spR K uaa 1)]->FnAt P w K mg base (CXf P w) k a sp:=fun a sp h=>by
  rcases ao7.mp h with h | h
  ·cases h;exact uar.at ubd
  rcases ao7.mp h with h | h
  ·cases h;exact B_scale_of.at ubd
  rcases ao7.mp h with h | h
  ·cases h;exact ubP.at ube
  rcases ao7.mp h with h | h
  ·cases h;exact B_pins_of.at ube
  rcases ao7.mp h with h | h
  ·cases h;exact ubQ.at ubf
  have h:=apo.mp h
  cases h
  exact B_show_table.at ubf
 refine F.ok sc_law_told rfl fun fa cdv A outer s H E hr=>⟨_,(zc (zC (i:=3) sc_law_told.nd rfl (Or.inl rfl) (zE (za yL zb))) (zc (ak9 (j:=4) (aov (zG (qi (K:=K) rfl hr.units) (pv 2) zd (zM _)) (ajG (sps:=[ag5 K,spR K uaa 2]) GA_web_of hr rfl ubc ucf (za (pv 0) (za (pv 1) zb))) (ajF (fns:=[(a_scale_of,vb K),(a_scale_of,spR K uaa 1),(a_pins_of,adQ K),(a_pins_of,spR K uaa 1),(a_show_table,adR K),(a_show_table,spR K uaa 1)]) (zP (zy (K:=K) rfl) (z8 (za (yy (v:=.ref a_scale_of) rfl ubd rfl) (za (yy (v:=.ref a_pins_of) rfl ube rfl) (za (yy (v:=.ref a_show_table) rfl ubf rfl) zb)))) (zt yH (pv 2) zd) (fun _ _=>rfl)) GX hr (za (pv 0) zb))) sc_law_told.nd rfl rfl rfl rfl rfl uaP (fun _=>(zc (zC (i:=3) sc_law_told.nd rfl (Or.inl rfl) (zE (za yL zb))) (zf (yb (yg (K:=K) rfl (ajv uce hr rfl (za (pv 4) zb)) (fun _=>rfl)) (zf (zC (i:=3) sc_law_told.nd rfl (Or.inl rfl) (zE (za yL (za (ahN (K:=K) rfl (pv 4)) zb))))) zH))))) (zf (zx (pv 3))))),?_⟩
 rintro f xs ⟨rows,wd,cuts,wh,i⟩ hl ⟨rfl,v0,v1,few,gd⟩
 try dsimp only [zI,zj]
 dsimp only at *
 refine zV (zN (y6 (zB (aaH (yk ⟨_,rfl,by show 1<=1000;decide,zi ?_⟩)))))
 refine zV (ano (aoR ?_))
 walk_at "w"
 rw [if_neg aoY,aac]
 rcases gd with g | e
 ·have no:∀ {p:Prop},jq rows=some i->p:=fun z=>by rw [good_none g] at z;cases z
  refine yB (fun h=>?_) fun h=>?_
  ·refine ajL (apa ..) (rows,wd,cuts) (ajE rfl rfl ⟨rfl,⟨rfl,g,few⟩,fun _ _=>?_⟩)
   exact yc (zo rfl ⟨fun _=>rfl,no⟩)
  have h:=of_decide_eq_false h
  rcases (show wh=1 \/ wh=2 \/ wh=3 by omega) with rfl | rfl | rfl
  ·refine aez (n:=1) (pre:=acM) (post:=fun c r=>∃ s:Nat,r=.int s/\Lcm (afX c.1 c.2) s) (as:=[a_scale_of,a_pins_of,a_show_table]) (ap8 rfl) (rows,wd) ?_
   walk_at "w"
   refine⟨_,a_scale_of,rfl,rfl,ao4 (i:=0) rfl,vA rfl ⟨rfl,⟨rfl,g⟩,fun _ _=>yc (zo rfl ⟨fun _=>rfl,?_⟩)⟩⟩
   exact no
  ·refine ajJ (n:=1) (pre:=acM) (posn:=fun c es=>∃ s:Nat,es=(vf c.1.length c.2).map (anT s)) (as:=[a_scale_of,a_pins_of,a_show_table]) (ap8 rfl) (rows,wd) ?_
   walk_at "w"
   refine⟨_,a_pins_of,rfl,rfl,ao4 (i:=2) rfl,vA rfl ⟨rfl,⟨rfl,g⟩,fun _ _=>yc (zo rfl ⟨fun _=>rfl,?_⟩)⟩⟩
   exact no
  ·refine aez (n:=1) (pre:=acM) (post:=fun c r=>r=.str (ass "\n" (c.1.map aib))) (as:=[a_scale_of,a_pins_of,a_show_table]) (ap8 rfl) (rows,wd) ?_
   walk_at "w"
   refine⟨_,a_show_table,rfl,rfl,ao4 (i:=4) rfl,vA rfl ⟨rfl,⟨rfl,g⟩,fun _ _=>yc (zo rfl ⟨fun _=>rfl,?_⟩)⟩⟩
   exact no
 ·refine yB (fun h=>ajM (ao3 _ (apa ..)) ((rows,i,[.dat (.list (cuts.map .int))]):TR) (ajE rfl rfl ⟨rfl,⟨rfl,e⟩,fun _ z=>z.elim,?_⟩)) fun h=>?_
  rotate_left
  have h:=of_decide_eq_false h
  rcases (show wh=1 \/ wh=2 \/ wh=3 by omega) with rfl | rfl | rfl
  iterate 3
   refine ajK (n:=1) (pre:=aoG) (post:=fun _ _=>False) (exc:=anR uaa) (as:=[a_scale_of,a_pins_of,a_show_table]) (ap8 rfl) ((rows,i,[]):TR) ?_
   walk_at "w"
   first
   | refine⟨_,a_scale_of,rfl,rfl,ao4 (i:=1) rfl,vA rfl ⟨rfl,⟨rfl,e⟩,fun _ z=>z.elim,?_⟩⟩
   | refine⟨_,a_pins_of,rfl,rfl,ao4 (i:=3) rfl,vA rfl ⟨rfl,⟨rfl,e⟩,fun _ z=>z.elim,?_⟩⟩
   | refine⟨_,a_show_table,rfl,rfl,ao4 (i:=5) rfl,vA rfl ⟨rfl,⟨rfl,e⟩,fun _ z=>z.elim,?_⟩⟩
   rotate_left
  all_goals
   rintro _ _ ⟨rfl,rfl⟩
   refine⟨eh,fun a=>zV (zN (y6 (zB (aaH (yk ⟨_,rfl,by show 1<=1000;decide,zi ?_⟩)))))⟩
   refine vJ (jx (zp _ (aor (v_var rfl (yk ⟨rfl,rfl,?_⟩)))))
   rintro _ rfl
   refine⟨true,rfl,?_⟩
   rw [if_pos rfl]
   refine zN (y6 (zB (aaH (zB (ajt rfl T W (yk ⟨_,rfl,by show 2<=1000;decide,zi ?_⟩))))))
   exact yc (zo rfl ⟨fun g=>absurd (good_none g) (by rw [e];exact fun z=>nomatch z),fun _=>rfl⟩)
theorem alO {rows:List (List Int)} (h:jq rows=none):∃ wd,Good wd rows:=by
 unfold jq at h
 by_cases hl:2<=rows.length/\rows.length<=7
 ·rw [if_pos hl] at h
  have hf:rows.findIdx? (yG (rows.getD 0 []).length)=none:=by
   cases hf:rows.findIdx? (yG (rows.getD 0 []).length) with
   | none=>rfl
   | some i=>rw [hf] at h;cases h
  have h1:=ar6.mp hf
  have h2:∀ r∈rows,r.length=(rows.getD 0 []).length/\2<=r.length/\r.length<=7/\∀ n∈r,-1000000000<=n/\n<=1000000000:=fun r hr=>by
   have:=h1 r hr
   unfold yG aaQ at this
   simp only [Bool.or_eq_false_iff,decide_eq_false_iff_not,Bool.not_eq_false',decide_eq_true_eq] at this
   exact⟨arv.mp this.1,this.2⟩
  have m0:rows.getD 0 []∈rows:=by
   rw [ao0,aoW (show 0<rows.length by omega)]
   exact apu _
  obtain⟨_,a,b,_⟩:=h2 _ m0
  exact⟨_,hl.1,hl.2,a,b,fun r hr=>(h2 r hr).1,fun r hr=>(h2 r hr).2.2.2⟩
 ·rw [if_neg hl] at h
  cases h
def qP (bad:List (List Int)):PyData:=match jq bad with
 | none=>.tuple [.str "told"]
 | some i=>.tuple [.str "no table",.int i]
theorem akm (bad:List (List Int)):(qP bad).canLay0=true/\(qP bad).depth<=60:=by
 have c1:(PyData.str "told").canLay0=true:=by decide +kernel
 have c2:(PyData.str "no table").canLay0=true:=by decide +kernel
 unfold qP
 cases jq bad with
 | none =>
  refine⟨?_,by show 1<=60;decide⟩
  show ((PyData.str "told").canLay0 && true)=true
  rw [c1];rfl
 | some i =>
  refine⟨?_,by show 1<=60;decide⟩
  show ((PyData.str "no table").canLay0 && ((PyData.int i).canLay0 && true))=true
  rw [c2];rfl
theorem anU {f:Addr} {fd:FuncData} (F:Fun K "law" "law" aaP f fd) (uab:mg "len"=none) (uad:mg "range"=none) (uai:mg "max"=none) (uag:mg "min"=none) (ual:mg "list"=none)
  (ucg:FnIn P w K mg base k "_law_feed" pQ (afW K)) (uae:FnIn P w K mg base k "_law_draw" pE (adF K)) (uch:FnIn P w K mg base k "_law_table" pR (agJ K)) (uci:FnIn P w K mg base k "_law_spoiled" pS (ag6 K)) (ucj:FnIn P w K mg base k "_law_due" pU (amj K)) (ubR:FnIn P w K mg base k "_law_told" pW (akl K)) :
  FnOk P w K mg base CX0 (k+1) f fd pX (ag2 K):=by
 refine F.ok sc_law (fun vs H Q E h=>?_) fun cdv A outer s H vs Q E hr hs=>⟨_,(zc (jP ap0 rfl (yM rfl uad (za (zu (ahc rfl) rfl uai boot_max (za zd (za (zu (ab9 rfl) rfl uag boot_min (za zd (za (zu (zO (K:=K) rfl) rfl uab apG (za (pv 0) zb)) zb))) zb))) zb)) (zh (i:=1) sc_law.nd rfl (Or.inl rfl) (Or.inr rfl)) (zc (zC (i:=2) sc_law.nd rfl (Or.inl rfl) (ze ucg hr rfl (za (pv 0) (za (pv 1) zb)))) (zc (zC (i:=3) sc_law.nd rfl (Or.inl rfl) (ze uch hr rfl (za (pv 2) zb))) (zc (zC (i:=4) sc_law.nd rfl (Or.inl rfl) (ze uci hr rfl (za (pv 2) (za (pv 3) zb)))) (zc (aaG (i:=5) (N:=["_law_row"]) (own:=1) (fr:=[]) ⟨rfl,by decide +kernel,of_decide_eq_true (by kernel_rfl),of_decide_eq_true (by kernel_rfl),of_decide_eq_true (by kernel_rfl),rfl⟩ rfl sc_law.nd rfl (Or.inl rfl) (zS (K:=K) rfl (pv 4)) (fun _ _ _ _=>(zh (i:=0) (show (["_law_row"]:List Str).Nodup by decide +kernel) rfl (Or.inl rfl) (Or.inr rfl))) (fun _ _ _ _=>z7) (fun _ _ _ _=>(jr (vw (K:=K) rfl) rfl ual aru (za (pv 0) zb))) rfl rfl (fun _=>rfl) (Or.inl rfl) rfl) (zc (zC (i:=6) sc_law.nd rfl (Or.inl rfl) (ze ucj hr rfl (za (pv 5) zb))) (zc (zC (i:=7) sc_law.nd rfl (Or.inl rfl) (zP (zy (K:=K) rfl) (z8 (za (z8 (za zd zb)) (za (z8 (za zd (za (zt yH zd zd) zb))) (za (z8 (za zd (za zd (za (zt jb zd zd) zb)))) zb)))) (ze uae hr rfl (za (pv 2) (za zd zb))) (fun _ _=>rfl))) (zc (jP ap0 rfl (yM rfl uad (za zd zb)) (zh (i:=8) sc_law.nd rfl (Or.inl rfl) (Or.inr rfl)) (zc (zC (i:=9) sc_law.nd rfl (Or.inl rfl) (zE (za yL zb))) (zc (yb (zG afZ (pv 6) aa8 (zM _)) (zf (zC (i:=9) sc_law.nd rfl (Or.inl rfl) (zE (za yL (za (pv 6) zb))))) zH) (zf (yb (PW.pt (aa9 (zG (qB (K:=K) rfl hr.units) (ze ubR hr rfl (za (pv 4) (za (pv 7) (za (pv 8) zb)))) (pv 9) (zM _)) (aal (zG (qB (K:=K) rfl hr.units) (pv 4) (pv 5) (zM _))))) (zf (zx aa7)) zH))))) (zf (yb (zG (qB (K:=K) rfl hr.units) (ze ubR hr rfl (za (pv 3) (za (pv 7) (za (ze uae hr rfl (za (pv 2) (za zd zb))) zb)))) (zE (za yL zb)) (zM _)) (zf (zx aa7)) zH)))))))))) (zf (zx aa7))),?_⟩
 ·obtain⟨a,ns,rfl,_⟩:=h
  rfl
 obtain⟨a,ns,rfl,hS,h63,q⟩:=hs
 have e0:EnvOk K L2.f0 (jR agI [.dat (scr ns)]) (start agI [.ref a]) H:=jt (.cons (ag1 hS) .nil) (L2.fok0 H)
 suffices h:PSd K L2.f0 _ (jR agI [.dat (scr ns)]) { nx:=fun _=>False,rt:=fun d=>d=.bool true } from
  h _ H _ e0 (fun _ _ _ _ _ z=>z.elim) (fun d v H' _ r z=>by
   subst z
   rw [rep_bool.mp r]
   exact q H') (fun _ _ _ _ _ z=>z) (fun _ _ _ _ _ z=>z)
 refine zV (aea (vL (alG (R:=fun xs=>∃ j:Int,xs=[.dat (.int j)]/\0<=j/\j<=63) ?_ ?_)))
 ·walk_at "w"
  rw [aoX]
  split <;> split <;> omega
 rintro _ ⟨j,rfl,j0,j1⟩
 refine⟨j,rfl,by omega,by omega,fun i ρ=>∃ x1 x2 x3 x4 x5 x6 x7 x8 x9,ρ=[some (.dat (scr ns)),x1,x2,x3,x4,x5,x6,x7,x8,x9],⟨_,_,_,_,_,_,_,_,_,rfl⟩,?_,?_⟩
 ·rintro i d _ hi ⟨x1,x2,x3,x4,x5,x6,x7,x8,x9,rfl⟩
  obtain⟨hi,rfl⟩:=qL hi
  refine zi (amR (anM rfl rfl h63 (by omega) (by omega)) fun p=>?_)
  refine zV (zN (zp () ?_))
  walk_at "w"
  rintro _ ⟨wd,rows,rfl,g⟩
  refine zi (zV (zN (zp (rows,wd) ?_)))
  walk_at "w"
  rintro _ ⟨bad,rfl,b8,r8⟩
  obtain⟨lt,dt⟩:=alv bad
  obtain⟨lw,dw⟩:=akm bad
  refine zi (zV (zN (anN rfl (by omega) (zi ?_))))
  refine zV (zN (zp bad (vA rfl ⟨rfl,⟨rfl,r8⟩,?_⟩)))
  rintro _ rfl
  refine zi (jY (fun ρ=>∃ cuts:List Int,ρ=[some (.dat (scr ns)),some (.dat (.int i)),some .feed,some (.dat (tab rows)),some (.dat (tab bad)),some (.dat (tab bad)),some (.dat (vC bad)),some (.dat (.list (cuts.map .int))),x8,x9]/\cuts.length<=3) (zN (abl ?_)) ?_)
  ·walk_at "w"
   refine zp 3 ?_
   walk_at "w"
   rintro _ ⟨q,rfl,q0,q1⟩
   have:q=0 \/ q=1 \/ q=2:=by omega
   rcases this with rfl | rfl | rfl
   ·exact⟨_,rfl,_,rfl,zi ⟨[0],rfl,by decide⟩⟩
   ·exact⟨_,rfl,_,rfl,zi ⟨[0,0 - 1],rfl,by decide⟩⟩
   ·exact⟨_,rfl,_,rfl,zi ⟨[7,0,10 ^ arh 10],rfl,by decide⟩⟩
  rintro _ ⟨cuts,rfl,few⟩
  refine jY (fun ρ=>∃ y8 y9,ρ=[some (.dat (scr ns)),some (.dat (.int i)),some .feed,some (.dat (tab rows)),some (.dat (tab bad)),some (.dat (tab bad)),some (.dat (vC bad)),some (.dat (.list (cuts.map .int))),y8,y9]) (aea (vL (zB (jw (yk ⟨_,rfl,by decide,by decide,fun n ρ=>∃ y8 y9,ρ=[some (.dat (scr ns)),some (.dat (.int i)),some .feed,some (.dat (tab rows)),some (.dat (tab bad)),some (.dat (tab bad)),some (.dat (vC bad)),some (.dat (.list (cuts.map .int))),y8,y9],⟨_,_,rfl⟩,?_,fun ρ h=>h⟩))))) ?_
  ·rintro n d _ hd ⟨y8,y9,rfl⟩
   obtain⟨hn,rfl⟩:=qL hd
   have hn:n<4:=hn
   have n0:(0:Int)<=n:=by omega
   have n4:(n:Int)<4:=by omega
   refine zi (zV (zN (y6 (zB (aaH (yk ⟨_,rfl,by show 1<=1000;decide,zi ?_⟩))))))
   refine jY (fun ρ=>ρ=[some (.dat (scr ns)),some (.dat (.int i)),some .feed,some (.dat (tab rows)),some (.dat (tab bad)),some (.dat (tab bad)),some (.dat (vC bad)),some (.dat (.list (cuts.map .int))),some (.dat (.int n)),some (.dat (qP bad))]) ?_ ?_
   ·cases e:jq bad with
    | none =>
     have dd:vC bad=.none:=by unfold vC;rw [e]
     have ww:qP bad=.tuple [.str "told"]:=by unfold qP;rw [e]
     rw [dd,ww]
     refine vJ (yI (ajx (zo rfl ⟨true,rfl,false,rfl,?_⟩)))
     rw [if_neg aoY]
     exact jh rfl
    | some q2 =>
     have dd:vC bad=.int q2:=by unfold vC;rw [e]
     have ww:qP bad=.tuple [.str "no table",.int q2]:=by unfold qP;rw [e]
     rw [dd,ww]
     refine vJ (yI (ajx (zo rfl ⟨false,rfl,true,rfl,?_⟩)))
     rw [if_pos rfl]
     exact zN (y6 (zB (aaH (zB (zo rfl (yk ⟨_,rfl,by show 2<=1000;decide,zi rfl⟩))))))
   rintro _ rfl
   have hw:∃ wd' i',(Good wd' bad \/ jq bad=some i')/\∀ r:PyData,(Good wd' bad->r=.tuple [.str "told"])/\(jq bad=some i'->r=.tuple [.str "no table",.int i'])->r=qP bad:=by
    cases e:jq bad with
    | none =>
     obtain⟨wd',g'⟩:=alO e
     exact⟨wd',0,.inl g',fun r h=>by unfold qP;rw [e];exact h.1 g'⟩
    | some q2=>exact⟨0,q2,.inr rfl,fun r h=>by unfold qP;rw [e];exact h.2 rfl⟩
   obtain⟨wd',i',gd,tell⟩:=hw
   refine vJ (akC (yI (vI (zp (bad,wd',cuts,(n:Int),i') (alc rfl rfl rfl ⟨rfl,⟨rfl,n0,n4,few,gd⟩,fun r h=>?_⟩)))))
   obtain rfl:=(tell r h).symm
   refine zo rfl ⟨lw,lw,apm (asF _ _) dw,_,rfl,?_⟩
   rw [if_pos rfl,arX _ lw,apJ,if_neg aoY]
   refine yI (vI (zo rfl (zo rfl ⟨lt,lt,apm (asF _ _) dt,_,rfl,?_⟩)))
   rw [if_pos rfl,arX _ lt,apJ,if_neg aoY]
   exact jh ⟨_,_,rfl⟩
  rintro _ ⟨y8,y9,rfl⟩
  refine vJ (yI (vI (ak4 (zB (zo rfl (zB (zo rfl (zB (zp 4 (afe rfl (zB (jw (yk ⟨rfl,⟨rfl,by omega,by omega⟩,?_⟩)))))))))))))
  rintro _ ⟨n,rfl,n0,n4⟩
  refine yk ⟨(rows,wd,cuts,n,0),rfl,⟨rfl,n0,n4,few,.inl g⟩,fun r h=>?_⟩
  obtain rfl:=(h.1 g).symm
  have c1:(PyData.tuple [.str "told"]).canLay0=true:=by
   show ((PyData.str "told").canLay0 && true)=true
   decide +kernel
  refine y6 (zB (aaH (yk ⟨_,rfl,by show 1<=1000;decide,c1,c1,apm (asF _ _) (by show 1<=60;decide),_,rfl,?_⟩)))
  rw [if_pos rfl]
  show (if (!apD (.tuple [.str "told"]) (.tuple [.str "told"]))=true then _ else _)
  rw [arX _ c1,apJ,if_neg aoY]
  exact jh ⟨_,_,_,_,_,_,_,_,_,rfl⟩
 ·rintro _ ⟨x1,x2,x3,x4,x5,x6,x7,x8,x9,rfl⟩
  exact yc (amJ rfl)
end
theorem _root_.L2.FnIn.m {P w K mg base j k x ps sp} (h:FnIn P w K mg base j x ps sp) (hk:j<=k:=by decide):FnIn P w K mg base k x ps sp:=h.mono hk
theorem _root_.L2.FnInF.m {P w K mg base j k x ps sp} (h:FnInF P w K mg base j x ps sp) (hk:j<=k:=by decide):FnInF P w K mg base k x ps sp:=h.mono hk
theorem _root_.L2.FnInM.m {P w K mg base j k x ps sp} (h:FnInM P w K mg base j x ps sp) (hk:j<=k:=by decide):FnInM P w K mg base k x ps sp:=h.mono hk
local macro_rules | `(tactic| walk_at "f")=>`(tactic| first | exact (fun _ _ _ _ _ _ us hl=>match us,hl with | [_],_=>rfl) | exact (fun _ _ _ _ _ _ us hl=>match us,hl with | [_,_],_=>rfl) | exact (fun _ _ _ _ _ _ us hl=>match us,hl with | [_,_,_],_=>rfl) | exact (fun _ _ _ _ _ _ us hl=>match us,hl with | [_,_,_,_],_=>rfl) | exact (fun _ _ _ _ _ _ us hl=>match us,hl with | [_,_,_,_,_],_=>rfl))
set_option autoImplicit true in
set_option relaxedAutoImplicit true in
theorem all_mk {l:PySem.W.OpenLaw} {w:World} {K:aoZ} {h:Heap} {mg:Str->Option Value} {fa:Addr} (X:K.In h) (G:h.Ns mainGlobals mg) (hfa:mg "law"=some (.ref fa))
  (a1:FD K "size" adw f1 od1 an1 sl1 oc1 kV1 dc1 pm1 cd1 ct1)
  (a2:FD K "points" v8 f2 od2 an2 sl2 oc2 kV2 dc2 pm2 cd2 ct2)
  (a3:FD K "has_point" jI f3 od3 an3 sl3 oc3 kV3 dc3 pm3 cd3 ct3)
  (a4:FD K "neighbours" jj f4 od4 an4 sl4 oc4 kV4 dc4 pm4 cd4 ct4)
  (a5:FD K "has_cell" ql f5 od5 an5 sl5 oc5 kV5 dc5 pm5 cd5 ct5)
  (a6:FD K "corners" qV f6 od6 an6 sl6 oc6 kV6 dc6 pm6 cd6 ct6)
  (a7:FD K "common" v9 f7 od7 an7 sl7 oc7 kV7 dc7 pm7 cd7 ct7)
  (a8:FD K "shortened" jJ f8 od8 an8 sl8 oc8 kV8 dc8 pm8 cd8 ct8)
  (a9:FD K "ask_table" ja f9 od9 an9 sl9 oc9 kV9 dc9 pm9 cd9 ct9)
  (a10:FD K "fits" ady f10 od10 an10 sl10 oc10 kV10 dc10 pm10 cd10 ct10)
  (a11:FD K "is_row" aaa f11 od11 an11 sl11 oc11 kV11 dc11 pm11 cd11 ct11)
  (a12:FD K "gates" aa1 f12 od12 an12 sl12 oc12 kV12 dc12 pm12 cd12 ct12)
  (a13:FD K "stands_high" yY f13 od13 an13 sl13 oc13 kV13 dc13 pm13 cd13 ct13)
  (a14:FD K "gate_points" yZ f14 od14 an14 sl14 oc14 kV14 dc14 pm14 cd14 ct14)
  (a15:FD K "has_gate" qo f15 od15 an15 sl15 oc15 kV15 dc15 pm15 cd15 ct15)
  (a16:FD K "is_open" qW f16 od16 an16 sl16 oc16 kV16 dc16 pm16 cd16 ct16)
  (a17:FD K "cell_gates" jk f17 od17 an17 sl17 oc17 kV17 dc17 pm17 cd17 ct17)
  (a18:FD K "is_crossed" jl f18 od18 an18 sl18 oc18 kV18 dc18 pm18 cd18 ct18)
  (a19:FD K "has_high_middle" yA f19 od19 an19 sl19 oc19 kV19 dc19 pm19 cd19 ct19)
  (a20:FD K "cell_ties" jK f20 od20 an20 sl20 oc20 kV20 dc20 pm20 cd20 ct20)
  (a21:FD K "crossed_ties" yR f21 od21 an21 sl21 oc21 kV21 dc21 pm21 cd21 ct21)
  (a22:FD K "heading" qX f22 od22 an22 sl22 oc22 kV22 dc22 pm22 cd22 ct22)
  (a23:FD K "cell_ahead" jm f23 od23 an23 sl23 oc23 kV23 dc23 pm23 cd23 ct23)
  (a24:FD K "comes_in" qq f24 od24 an24 sl24 oc24 kV24 dc24 pm24 cd24 ct24)
  (a25:FD K "gate_ahead" jn f25 od25 an25 sl25 oc25 kV25 dc25 pm25 cd25 ct25)
  (a26:FD K "lines" aa2 f26 od26 an26 sl26 oc26 kV26 dc26 pm26 cd26 ct26)
  (a27:FD K "line_from" jL f27 od27 an27 sl27 oc27 kV27 dc27 pm27 cd27 ct27)
  (a28:FD K "place_of" qr f28 od28 an28 sl28 oc28 kV28 dc28 pm28 cd28 ct28)
  (a29:FD K "share" aa3 f29 od29 an29 sl29 oc29 kV29 dc29 pm29 cd29 ct29)
  (a30:FD K "scale_of" jz f30 od30 an30 sl30 oc30 kV30 dc30 pm30 cd30 ct30)
  (a31:FD K "web_of" qJ f31 od31 an31 sl31 oc31 kV31 dc31 pm31 cd31 ct31)
  (a32:FD K "scaled_place" yS f32 od32 an32 sl32 oc32 kV32 dc32 pm32 cd32 ct32)
  (a33:FD K "pins_of" jZ f33 od33 an33 sl33 oc33 kV33 dc33 pm33 cd33 ct33)
  (a34:FD K "show_table" yT f34 od34 an34 sl34 oc34 kV34 dc34 pm34 cd34 ct34)
  (a35:FD K "_law_feed" qt f35 od35 an35 sl35 oc35 kV35 dc35 pm35 cd35 ct35)
  (a36:FD K "_law_draw" qu f36 od36 an36 sl36 oc36 kV36 dc36 pm36 cd36 ct36)
  (a37:FD K "_law_height" jo f37 od37 an37 sl37 oc37 kV37 dc37 pm37 cd37 ct37)
  (a38:FD K "_law_table" jM f38 od38 an38 sl38 oc38 kV38 dc38 pm38 cd38 ct38)
  (a39:FD K "_law_spoiled" y3 f39 od39 an39 sl39 oc39 kV39 dc39 pm39 cd39 ct39)
  (a40:FD K "_law_due" qY f40 od40 an40 sl40 oc40 kV40 dc40 pm40 cd40 ct40)
  (a41:FD K "_law_alone" jN f41 od41 an41 sl41 oc41 kV41 dc41 pm41 cd41 ct41)
  (a42:FD K "_law_told" qv f42 od42 an42 sl42 oc42 kV42 dc42 pm42 cd42 ct42)
  (a43:FD K "law" aaP f43 od43 an43 sl43 oc43 kV43 dc43 pm43 cd43 ct43)
  {uck:Tok} (ubg:apl K mainGlobals "FEWEST"=some (some (.int (2) uck)))
  {ucl:Tok} (ubh:apl K mainGlobals "MOST"=some (some (.int (7) ucl)))
  {ucm:Tok} (ubi:apl K mainGlobals "LEAST"=some (some (.int (-1000000000) ucm)))
  {ucn:Tok} (ubj:apl K mainGlobals "GREATEST"=some (some (.int (1000000000) ucn)))
  (ubk:apl K mainGlobals "len"=some none)
  (ubl:apl K mainGlobals "min"=some none)
  (ubm:apl K mainGlobals "max"=some none)
  (ubn:apl K mainGlobals "enumerate"=some none)
  (ubo:apl K mainGlobals "range"=some none)
  (ubp:apl K mainGlobals "all"=some none)
  (ubq:apl K mainGlobals "sum"=some none)
  (ubr:apl K mainGlobals "tuple"=some none)
  (ubs:apl K mainGlobals "set"=some none)
  (ubt:apl K mainGlobals "sorted"=some none)
  (ubu:apl K mainGlobals "abs"=some none)
  (ubv:apl K mainGlobals "list"=some none)
  (ubw:apl K mainGlobals "str"=some none)
  (ubx:apl K mainGlobals "isinstance"=some none)
  (uby:apl K mainGlobals "any"=some none)
  (ubz:apl K mainGlobals "ValueError"=some none)
  {uaL:Addr} (ubA:apl K mainGlobals "AHEAD"=some (some (.ref uaL)))
  {uaN:Addr} (ubB:apl K mainGlobals "BEHIND"=some (some (.ref uaN)))
  {uaa:Addr} (ubC:apl K mainGlobals "NoTable"=some (some (.ref uaa)))
  {uas:Addr} (ubD:apl K mainGlobals "NoPoint"=some (some (.ref uas)))
  {uat:Addr} (ubE:apl K mainGlobals "NoGate"=some (some (.ref uat)))
  {uau:Addr} (ubF:apl K mainGlobals "NoRing"=some (some (.ref uau)))
  {uav:Addr} (ubG:apl K mainGlobals "TooSteep"=some (some (.ref uav)))
  {uaw:Addr} (ubH:apl K mainGlobals "NoWeb"=some (some (.ref uaw)))
  {uax:Addr} (ubI:apl K mainGlobals "NoBack"=some (some (.ref uax)))
  {uay:Addr} (ubJ:apl K mainGlobals "NoText"=some (some (.ref uay)))
  {uaz:Addr} (ubK:apl K mainGlobals "NoRow"=some (some (.ref uaz)))
  {uaA:Addr} (ubL:apl K mainGlobals "NoDeed"=some (some (.ref uaA)))
  {uaB:Addr} (ubM:apl K mainGlobals "HeightError"=some (some (.ref uaB)))
  {fI_NoTable:Addr} {odI_NoTable anI_NoTable:Option Addr} {slI_NoTable:Array (Option Value)} {ocI_NoTable kVI_NoTable dcI_NoTable pmI_NoTable cdI_NoTable ctI_NoTable:Value} (ii_NoTable:apR K (.ref uaa) "__init__"=some (some (.ref fI_NoTable)))
  (li_NoTable:K.lookup fI_NoTable=some ⟨ocI_NoTable,odI_NoTable,.func (aqb "__init__" "NoTable.__init__" (jE yX) (yt yX) (zg yX) .none kVI_NoTable dcI_NoTable pmI_NoTable anI_NoTable cdI_NoTable ctI_NoTable),slI_NoTable⟩) (ci_NoTable:aqU K cdI_NoTable "NoTable.__init__"=true) (ki_NoTable:apM K (.ref fI_NoTable)=true) (fi_NoTable:vY K uaa fI_NoTable uaB "at"=true)
  (uaM:ahB K uaL anF=true)
  (uaO:ahB K uaN ajZ=true)
  (uaj:v3 K uaa=true)
  (kt0:apn K (.ref uaa) (.ref uaa)=some true)
  (ktv:apn K (.ref uaa) (.type "ValueError")=some true)
  (kt1:apn K (.ref uaa) (.ref uas)=some false)
  (kt2:apn K (.ref uaa) (.ref uat)=some false)
  (kt3:apn K (.ref uaa) (.ref uau)=some false)
  (kt4:apn K (.ref uaa) (.ref uav)=some false)
  (kt5:apn K (.ref uaa) (.ref uaw)=some false)
  (kt6:apn K (.ref uaa) (.ref uax)=some false)
  (kt7:apn K (.ref uaa) (.ref uay)=some false)
  (kt8:apn K (.ref uaa) (.ref uaz)=some false)
  (kt9:apn K (.ref uaa) (.ref uaA)=some false)
  (eh:arp K (.ref uaa) (.ref uaB)=some true) :
  ∃ fd:FuncData,(∀ (s:Shared) (v:Value),BindsTo s fd ⟨[v],[]⟩ [("_law_script",v)])/\∀ base:Heap,K.In base->base.Ns mainGlobals mg->FnOk l.prog w K mg base CX0 12 fa fd pX (ag2 K):=by
 have uco:Def K mg "size" adw pf:=yj X G a1 (by walk_at "f")
 have ucp:Def K mg "points" v8 pf:=yj X G a2 (by walk_at "f")
 have ucq:Def K mg "has_point" jI pq:=yj X G a3 (by walk_at "f")
 have ucr:Def K mg "neighbours" jj pq:=yj X G a4 (by walk_at "f")
 have ucs:Def K mg "has_cell" ql pq:=yj X G a5 (by walk_at "f")
 have uct:Def K mg "corners" qV pI:=yj X G a6 (by walk_at "f")
 have ucu:Def K mg "common" v9 pG:=yj X G a7 (by walk_at "f")
 have ucv:Def K mg "shortened" jJ pN:=yj X G a8 (by walk_at "f")
 have ubS:Def K mg "ask_table" ja pf:=yj X G a9 (by walk_at "f")
 have ucw:Def K mg "fits" ady pB:=yj X G a10 (by walk_at "f")
 have ucx:Def K mg "is_row" aaa pA:=yj X G a11 (by walk_at "f")
 have ucy:Def K mg "gates" aa1 pz:=yj X G a12 (by walk_at "f")
 have ucz:Def K mg "stands_high" yY pH:=yj X G a13 (by walk_at "f")
 have ucA:Def K mg "gate_points" yZ ["gate"]:=yj X G a14 (by walk_at "f")
 have ucB:Def K mg "has_gate" qo pJ:=yj X G a15 (by walk_at "f")
 have ucC:Def K mg "is_open" qW ph:=yj X G a16 (by walk_at "f")
 have ucD:Def K mg "cell_gates" jk ["cell"]:=yj X G a17 (by walk_at "f")
 have ucE:Def K mg "is_crossed" jl pj:=yj X G a18 (by walk_at "f")
 have ucF:Def K mg "has_high_middle" yA pj:=yj X G a19 (by walk_at "f")
 have ucG:Def K mg "cell_ties" jK pj:=yj X G a20 (by walk_at "f")
 have ucH:Def K mg "crossed_ties" yR pj:=yj X G a21 (by walk_at "f")
 have ucI:Def K mg "heading" qX ph:=yj X G a22 (by walk_at "f")
 have ucJ:Def K mg "cell_ahead" jm ph:=yj X G a23 (by walk_at "f")
 have ucK:Def K mg "comes_in" qq ph:=yj X G a24 (by walk_at "f")
 have ucL:Def K mg "gate_ahead" jn ph:=yj X G a25 (by walk_at "f")
 have ucM:Def K mg "lines" aa2 pz:=yj X G a26 (by walk_at "f")
 have ucN:Def K mg "line_from" jL pO:=yj X G a27 (by walk_at "f")
 have ucO:Def K mg "place_of" qr ph:=yj X G a28 (by walk_at "f")
 have ucP:Def K mg "share" aa3 ph:=yj X G a29 (by walk_at "f")
 have ubT:Def K mg "scale_of" jz pf:=yj X G a30 (by walk_at "f")
 have ubU:Def K mg "web_of" qJ pC:=yj X G a31 (by walk_at "f")
 have ucQ:Def K mg "scaled_place" yS pP:=yj X G a32 (by walk_at "f")
 have ubV:Def K mg "pins_of" jZ pf:=yj X G a33 (by walk_at "f")
 have ubW:Def K mg "show_table" yT pf:=yj X G a34 (by walk_at "f")
 have ucR:Def K mg "_law_feed" qt pQ:=yj X G a35 (by walk_at "f")
 have ucS:Def K mg "_law_draw" qu pE:=yj X G a36 (by walk_at "f")
 have ucT:Def K mg "_law_height" jo pK:=yj X G a37 (by walk_at "f")
 have ucU:Def K mg "_law_table" jM pR:=yj X G a38 (by walk_at "f")
 have ucV:Def K mg "_law_spoiled" y3 pS:=yj X G a39 (by walk_at "f")
 have ucW:Def K mg "_law_due" qY pU:=yj X G a40 (by walk_at "f")
 have ucX:Def K mg "_law_alone" jN pV:=yj X G a41 (by walk_at "f")
 have ucY:Def K mg "_law_told" qv pW:=yj X G a42 (by walk_at "f")
 have uc2:Def K mg "law" aaP pX:=yj X G a43 (by walk_at "f")
 have uaC:=apE X G ubg
 have uaD:=apE X G ubh
 have uaE:=apE X G ubi
 have uaF:=apE X G ubj
 have uab:=apz X G ubk
 have uag:=apz X G ubl
 have uai:=apz X G ubm
 have uam:=apz X G ubn
 have uad:=apz X G ubo
 have uan:=apz X G ubp
 have uaS:=apz X G ubq
 have uaq:=apz X G ubr
 have uaX:=apz X G ubs
 have uaY:=apz X G ubt
 have uah:=apz X G ubu
 have ual:=apz X G ubv
 have ua0:=apz X G ubw
 have uaf:=apz X G ubx
 have ua1:=apz X G uby
 have ua2:=apz X G ubz
 have uaT:=apE X G ubA
 have uaV:=apE X G ubB
 have uak:=apE X G ubC
 have ua3:=apE X G ubD
 have ua4:=apE X G ubE
 have ua5:=apE X G ubF
 have ua6:=apE X G ubG
 have ua7:=apE X G ubH
 have ua8:=apE X G ubI
 have ua9:=apE X G ubJ
 have uba:=apE X G ubK
 have ubb:=apE X G ubL
 have uaP:=apE X G ubM
 have e:=hfa.symm.trans (apE X G a43.1)
 cases e
 have F0:=acY (st:=aaP) a43.2.1 a43.2.2.1 a43.2.2.2
 refine⟨aqb "law" "law" (jE aaP) (yt aaP) (zg aaP) .none kV43 dc43 pm43 an43 cd43 ct43,fun s v=>.of_eq rfl,fun base _ _=>?_⟩
 have I_NoTable:=aaU (P:=l.prog) (w:=w) (base:=base) fi_NoTable uaP (acY (st:=yX) li_NoTable ci_NoTable ki_NoTable)
 have H0:=alH (P:=l.prog) (w:=w) (base:=base) (k:=0) ucR uab uah
 have H1:=aln (P:=l.prog) (w:=w) (base:=base) (k:=0) ucS
 have H2:=anS (P:=l.prog) (w:=w) (base:=base) (k:=0) ucW uab uad uai uag
 have H3:=alm (P:=l.prog) (w:=w) (base:=base) (k:=0) ucw uab ⟨_,uaC⟩ ⟨_,uaD⟩
 have H4:=alk (P:=l.prog) (w:=w) (base:=base) (k:=0) uco uab
 have H5:=ah9 (P:=l.prog) (w:=w) (base:=base) (k:=0) ucu uah
 have H6:=anC (P:=l.prog) (w:=w) (base:=base) (k:=0) ucA
 have H7:=alo (P:=l.prog) (w:=w) (base:=base) (k:=0) ucz
 have H8:=ah1 (P:=l.prog) (w:=w) (base:=base) (k:=0) ucD
 have H9:=afN (P:=l.prog) (w:=w) (base:=base) (k:=0) uct
 have H10:=akk (P:=l.prog) (w:=w) (base:=base) (k:=0) ucX uaf ua1 ua2 uak ua3 ua4 ua5 ua6 ua7 ua8 ua9 uba ubb uaj kt0 ktv kt1 kt2 kt3 kt4 kt5 kt6 kt7 kt8 kt9
 have H11:=ahY (k:=1) ucT uag H1.m
 have H12:=aki (k:=1) ucV uab uad ual H1.m
 have H13:=ahX (k:=1) ucx uag uai ⟨_,uaE⟩ ⟨_,uaF⟩ H3.m
 have H14:=ahZ (k:=1) ucp uad H4.m
 have H15:=anB (k:=1) ucq H4.m
 have H16:=akd (k:=1) ucv H5.m
 have H17:=afQ (k:=1) ucI H7.m
 have H18:=anE (k:=1) ucF uaS H9.m
 have H19:=ajR (k:=2) ucU uad H1.m H11.m
 have H20:=anA (k:=2) ubS uab uam H3.m H13.m
 have H21:=aoE (k:=2) ucr H15.m
 have H22:=ake (k:=2) ucP H6.m H16.m
 have H23:=alp (k:=2) ucB uan H15.m H6.m
 have H24:=alw (k:=2) ucs H15.m
 have H25:=ah5 (k:=2) ucJ uaT uaM H17.m
 have H26:=ah2 (k:=2) ucH H8.m H7.m H18.m
 have H27:=akg (k:=3) ubT uah H20.m H14.m H21.m H5.m
 have H28:=aeW (k:=3) ucO H22.m
 have H29:=alq (k:=3) ucC H23.m H6.m H7.m
 have H30:=aj1 (k:=3) ucK uaV uaO H17.m H24.m
 have H31:=alM (k:=3) ubW ua0 H20.m
 have H32:=aia (k:=4) ucQ H28.m
 have H33:=ajU (k:=4) ucy H20.m H14.m H29.m
 have H34:=afO (k:=4) ucE uan H29.m H8.m
 have H35:=alK (k:=2) ubS uab uam uak I_NoTable H3.m H13.m
 have H36:=alL (k:=4) ubV H20.m H27.m H14.m
 have H37:=ajX (k:=5) ucG H34.m H26.m H8.m H29.m
 have H38:=ab4 (k:=5) ubU H35.m
 have H39:=aaV (k:=5) ubT H35.m
 have H40:=abQ (k:=5) ubV H35.m
 have H41:=aai (k:=5) ubW H35.m
 have H42:=alA (k:=6) ucL H25.m H24.m H37.m
 have H43:=alE (k:=7) ucN uaq H42.m
 have H44:=akb (k:=8) ucM uaX uaY H20.m H33.m H30.m H43.m
 have H45:=anP (k:=9) ubU uaq H20.m H27.m H32.m H44.m
 have H46:=alN (k:=10) ucY uaP I_NoTable uaj eh H45.m H38.m H27.m H39.m H36.m H40.m H31.m H41.m H10.m
 exact anU (k:=11) F0 uab uad uai uag ual H0.m H1.m H19.m H12.m H2.m H46.m
theorem walk {l:PySem.W.OpenLaw} {q:Program} {loose:List Str} {XP:(Str->Option Value)->Heap->Prop} {YP:World->Heap->Prop} {d:DefRec} {K:Params->aoZ} (hn:l.most=some 63) (hdf:d.params.defaults=[])
  (hY:∀ (w:World) (h:Heap),YP w h->(K w.params).In h)
  (F:∀ (w:World) (mg:Str->Option Value) (fa:Addr) (h:Heap),(K w.params).In h->h.Ns mainGlobals mg->mg d.name=some (.ref fa) ->
   ∃ fd:FuncData,(∀ (s:Shared) (u:Value),BindsTo s fd ⟨[u],[]⟩ [("_law_script",u)])/\∀ base:Heap,(K w.params).In base->base.Ns mainGlobals mg->FnOk l.prog w (K w.params) mg base CX0 12 fa fd pX (ag2 (K w.params))) :
  PySem.W.WalkO q loose XP YP l.row.toRowW d [] (fun f vs=>PySem.call f vs) :=
 L2.walk_of (n:=63) (k:=12) (x:="_law_script") (CX:=fun _=>CX0) (sp:=fun w=>ag2 (K w.params)) hn (by decide) hdf ⟨rfl,by decide,by decide⟩ hY F (fun _ _ a ns hl _ hS=>⟨a,ns,rfl,hS,hl,fun _=>rfl⟩) fun _ _ _ _ _ z=>z
end My
def PySem.W.Fast.tw16260574435548566473:Nat:=0
def PySem.W.Fast.tw15094533763616735988:Nat:=0
def PySem.W.Fast.tw5663844635092858724:Nat:=0
def PySem.W.Fast.tw16819854842233893799:Nat:=0
def PySem.W.Fast.tw17052152481134515068:Nat:=0
def PySem.W.Fast.tw14841291523014467417:Nat:=0
def PySem.W.Fast.tw9663860762299480481:Nat:=0
def PySem.W.Fast.tw12012522013887327744:Nat:=0
def PySem.W.Fast.tw862594110839930780:Nat:=0
def PySem.W.Fast.tw4815385900591074400:Nat:=0
def PySem.W.Fast.tw15188087079487879829:Nat:=0
def PySem.W.Fast.tw1638481786428781006:Nat:=0
def PySem.W.Fast.tw11255697677411864709:Nat:=0
def PySem.W.Fast.tw593465582807462183:Nat:=0
def PySem.W.Fast.tw12459352612311829873:Nat:=0
def PySem.W.Fast.tw6351542170251685225:Nat:=0
def PySem.W.Fast.tw15826634440515612797:Nat:=0
def PySem.W.Fast.tw801656712293333215:Nat:=0
def PySem.W.Fast.tw10173351066555630102:Nat:=0
def PySem.W.Fast.tw12309880141394998877:Nat:=0
def PySem.W.Fast.tw13851891198886943059:Nat:=0
def PySem.W.Fast.tw16556601847162292938:Nat:=0
def PySem.W.Fast.tw6727868463995333961:Nat:=0
def PySem.W.Fast.tw7800676339814254669:Nat:=0
def PySem.W.Fast.tw6999092345730719990:Nat:=0
def PySem.W.Fast.tw14811794931285541535:Nat:=0
def PySem.W.Fast.tw14229029777151890950:Nat:=0
def PySem.W.Fast.tw15599890287252407720:Nat:=0
def PySem.W.Fast.tw13477748781173797307:Nat:=0
def PySem.W.Fast.tw7095467583316720504:Nat:=0
def PySem.W.Fast.tw15542037836633829116:Nat:=0
def PySem.W.Fast.tw11109696170227225412:Nat:=0
def PySem.W.Fast.tw15532423134471180591:Nat:=0
def PySem.W.Fast.tw13526217239873154391:Nat:=0
def PySem.W.Fast.tw11117775010131781808:Nat:=0
def PySem.W.Fast.tw13041893577717106120:Nat:=0
def PySem.W.Fast.tw3418410280590924977:Nat:=0
def PySem.W.Fast.tw3764961568646664084:Nat:=0
def PySem.W.Fast.tw9857937947814622527:Nat:=0
def PySem.W.Fast.tw13686035196813544667:Nat:=0
def PySem.W.Fast.tw14173201275331689908:Nat:=0
def PySem.W.Fast.tw14701682772899294354:Nat:=0
def PySem.W.Fast.tw16214071223042690804:Nat:=0
def PySem.W.Fast.tw3101548457508304870:Nat:=0
def PySem.W.Fast.tw15896602395178371387:Nat:=0
def PySem.W.Fast.tw9083415028683311817:Nat:=0
def PySem.W.Fast.tw4296552632490381960:Nat:=0
def PySem.W.Fast.tw2881555608262553035:Nat:=0
def PySem.W.Fast.tw11988214845248152730:Nat:=0
def PySem.W.Fast.tw6174809067577168027:Nat:=0
def PySem.W.Fast.tw4705815306887413821:Nat:=0
open PySem PySem.W PyProof.Rows
set_option maxRecDepth 100000 in
set_option maxHeartbeats 0 in
theorem PySem.Challenge.cw_heightrings_k55_bad_tables_in_maps_holds : PySem.Challenge.rw_heightrings_k55_bad_tables_in_maps.Holds := by
 w_on;o_law;k_head;(case hw=>w_witness2)
 k_fill
 refine My.walk (l:=PySem.Challenge.rw_heightrings_k55_bad_tables_in_maps) rfl rfl (fun w h Y=>by first | exact PySem.W.kIn_of Y | exact PySem.W.km_in_of Y) ?F
 case F =>
  intro w mg fa h KX G hmg
  refine' My.all_mk KX G hmg ?a1 ?a2 ?a3 ?a4 ?a5 ?a6 ?a7 ?a8 ?a9 ?a10 ?a11 ?a12 ?a13 ?a14 ?a15 ?a16 ?a17 ?a18 ?a19 ?a20 ?a21 ?a22 ?a23 ?a24 ?a25 ?a26 ?a27 ?a28 ?a29 ?a30 ?a31 ?a32 ?a33 ?a34 ?a35 ?a36 ?a37 ?a38 ?a39 ?a40 ?a41 ?a42 ?a43 ?ubg ?ubh ?ubi ?ubj ?ubk ?ubl ?ubm ?ubn ?ubo ?ubp ?ubq ?ubr ?ubs ?ubt ?ubu ?ubv ?ubw ?ubx ?uby ?ubz ?ubA ?ubB ?ubC ?ubD ?ubE ?ubF ?ubG ?ubH ?ubI ?ubJ ?ubK ?ubL ?ubM ?ii_NoTable ?li_NoTable ?ci_NoTable ?ki_NoTable ?fi_NoTable ?uaM ?uaO ?uaj ?kt0 ?ktv ?kt1 ?kt2 ?kt3 ?kt4 ?kt5 ?kt6 ?kt7 ?kt8 ?kt9 ?eh
  (case a1=>refine⟨?_,?_,?_,?_⟩ <;> k_is)
  (case a2=>refine⟨?_,?_,?_,?_⟩ <;> k_is)
  (case a3=>refine⟨?_,?_,?_,?_⟩ <;> k_is)
  (case a4=>refine⟨?_,?_,?_,?_⟩ <;> k_is)
  (case a5=>refine⟨?_,?_,?_,?_⟩ <;> k_is)
  (case a6=>refine⟨?_,?_,?_,?_⟩ <;> k_is)
  (case a7=>refine⟨?_,?_,?_,?_⟩ <;> k_is)
  (case a8=>refine⟨?_,?_,?_,?_⟩ <;> k_is)
  (case a9=>refine⟨?_,?_,?_,?_⟩ <;> k_is)
  (case a10=>refine⟨?_,?_,?_,?_⟩ <;> k_is)
  (case a11=>refine⟨?_,?_,?_,?_⟩ <;> k_is)
  (case a12=>refine⟨?_,?_,?_,?_⟩ <;> k_is)
  (case a13=>refine⟨?_,?_,?_,?_⟩ <;> k_is)
  (case a14=>refine⟨?_,?_,?_,?_⟩ <;> k_is)
  (case a15=>refine⟨?_,?_,?_,?_⟩ <;> k_is)
  (case a16=>refine⟨?_,?_,?_,?_⟩ <;> k_is)
  (case a17=>refine⟨?_,?_,?_,?_⟩ <;> k_is)
  (case a18=>refine⟨?_,?_,?_,?_⟩ <;> k_is)
  (case a19=>refine⟨?_,?_,?_,?_⟩ <;> k_is)
  (case a20=>refine⟨?_,?_,?_,?_⟩ <;> k_is)
  (case a21=>refine⟨?_,?_,?_,?_⟩ <;> k_is)
  (case a22=>refine⟨?_,?_,?_,?_⟩ <;> k_is)
  (case a23=>refine⟨?_,?_,?_,?_⟩ <;> k_is)
  (case a24=>refine⟨?_,?_,?_,?_⟩ <;> k_is)
  (case a25=>refine⟨?_,?_,?_,?_⟩ <;> k_is)
  (case a26=>refine⟨?_,?_,?_,?_⟩ <;> k_is)
  (case a27=>refine⟨?_,?_,?_,?_⟩ <;> k_is)
  (case a28=>refine⟨?_,?_,?_,?_⟩ <;> k_is)
  (case a29=>refine⟨?_,?_,?_,?_⟩ <;> k_is)
  (case a30=>refine⟨?_,?_,?_,?_⟩ <;> k_is)
  (case a31=>refine⟨?_,?_,?_,?_⟩ <;> k_is)
  (case a32=>refine⟨?_,?_,?_,?_⟩ <;> k_is)
  (case a33=>refine⟨?_,?_,?_,?_⟩ <;> k_is)
  (case a34=>refine⟨?_,?_,?_,?_⟩ <;> k_is)
  (case a35=>refine⟨?_,?_,?_,?_⟩ <;> k_is)
  (case a36=>refine⟨?_,?_,?_,?_⟩ <;> k_is)
  (case a37=>refine⟨?_,?_,?_,?_⟩ <;> k_is)
  (case a38=>refine⟨?_,?_,?_,?_⟩ <;> k_is)
  (case a39=>refine⟨?_,?_,?_,?_⟩ <;> k_is)
  (case a40=>refine⟨?_,?_,?_,?_⟩ <;> k_is)
  (case a41=>refine⟨?_,?_,?_,?_⟩ <;> k_is)
  (case a42=>refine⟨?_,?_,?_,?_⟩ <;> k_is)
  (case a43=>refine⟨?_,?_,?_,?_⟩ <;> k_is)
  (case ubg=>k_is)
  (case ubh=>k_is)
  (case ubi=>k_is)
  (case ubj=>k_is)
  (case ubk=>k_is)
  (case ubl=>k_is)
  (case ubm=>k_is)
  (case ubn=>k_is)
  (case ubo=>k_is)
  (case ubp=>k_is)
  (case ubq=>k_is)
  (case ubr=>k_is)
  (case ubs=>k_is)
  (case ubt=>k_is)
  (case ubu=>k_is)
  (case ubv=>k_is)
  (case ubw=>k_is)
  (case ubx=>k_is)
  (case uby=>k_is)
  (case ubz=>k_is)
  (case ubA=>k_is)
  (case ubB=>k_is)
  (case ubC=>k_is)
  (case ubD=>k_is)
  (case ubE=>k_is)
  (case ubF=>k_is)
  (case ubG=>k_is)
  (case ubH=>k_is)
  (case ubI=>k_is)
  (case ubJ=>k_is)
  (case ubK=>k_is)
  (case ubL=>k_is)
  (case ubM=>k_is)
  (case ii_NoTable=>k_is)
  (case li_NoTable=>k_is)
  (case ci_NoTable=>k_is)
  (case ki_NoTable=>k_is)
  (case fi_NoTable=>kernel_rfl)
  (case uaM=>kernel_rfl)
  (case uaO=>kernel_rfl)
  (case uaj=>kernel_rfl)
  (case kt0=>kernel_rfl)
  (case ktv=>kernel_rfl)
  (case kt1=>kernel_rfl)
  (case kt2=>kernel_rfl)
  (case kt3=>kernel_rfl)
  (case kt4=>kernel_rfl)
  (case kt5=>kernel_rfl)
  (case kt6=>kernel_rfl)
  (case kt7=>kernel_rfl)
  (case kt8=>kernel_rfl)
  (case kt9=>kernel_rfl)
  (case eh=>kernel_rfl)
end
