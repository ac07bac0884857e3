import PyProof.Rows.All
import Wide.All
import OpenK.AllK
import Wide.FinOn
import Lean
import PyProof.EqAt
import PyProof.EqKinds
import PyProof.TupleCall
import KE.KTryMore
import PyProof.ExcArgs
import PyProof.ConsumeWalk
import PyProof.P3Eq
import KE.KRevIter
import PyProof.ListRange
import PyProof.Rows.SumAny
import KE.KSortTup
import PyProof.SetScanFacts
import PyProof.TupleKey
import PyProof.DictRoadsH
import PyProof.SetRoads
import KE.KTabLook
import PyProof.Rows.ListMul
import PyProof.InstStoreFacts
import PyProof.Rows.SetFrom
import PyProof.AutoListH
import PyProof.StrCalls2
import PySem.Challenge.RW_heightrings_k26_whole_rings_by_the_tree
open List renaming getElem?_eq_getElem → aof,length_map → aog,getElem?_eq_some_iff → aoh,mem_of_getElem? → aoj,getD_eq_getElem?_getD → aok,mem_cons_self → aom,mem_cons_of_mem → aon,getElem?_map → aoq,mem_cons → aor,mem_singleton → aos,mem_append → aou,getElem?_append_left → aov,range → aow,length_append → aox,mem_append_right → aoA,mem_map → aoC,size_toArray → aoD,length_cons → aoE,map_append → aoF,getElem?_append_right → aoG,map_cons → aoI,mem_append_left → aoJ,mem_range → aoK,getElem?_of_mem → aoO,getElem?_eq_none → aoP,getElem_mem → aoQ,length_range → aoU,length_take → aoX,take_length → aoZ,filter_cons → ao0,head?_eq_getElem? → ao1,mem_flatMap → ao3,length_singleton → ao4,length_filter_le → ao5,mem_filter → ao6,nodup_cons → ao7,nodup_append → ao8,mem_of_head? → apb,append_nil → apf,lookup_cons → apg,not_mem_nil → aph,filter_append → api,nodup_nil → apj,take_add_one → apk,toArray → apo,pairwise_iff_getElem → apq,pairwise_map → apr,pairwise_cons → apt,append_assoc → apx,flatMap_append → apy,find?_cons → apA,getElem?_range → apF,getElem?_set_self → apG,map_map → apJ,mem_reverse → apM,replicate → apN,getLast?_eq_getElem? → apS,length_nil → apT,getElem?_take_of_lt → apX,getElem_of_mem → apZ,getElem?_replicate → ap1,take_zero → ap2,take_of_length_le → ap6,zip_cons_cons → ap9,length_pos_of_mem → aqa,forIn_cons → aqb,take_append_drop → aqd,ext_getElem? → aqf,getElem?_set_ne → aqg,forIn_nil → aqi,mem_erase_of_ne → aqj,length_drop → aqk,filterMap_cons → aqm,map_congr_left → aqn,reverse_append → aqp,findSome?_cons → aqq,any_cons → aqs,length_erase_of_mem → aqu,length_set → aqv,range_succ → aqw,getElem?_drop → aqx,getElem?_cons_succ → aqz,take_succ → aqI,length_replicate → aqJ,getElem_inj → aqL,all_eq_true → aqM,nodup_range → aqN,any_eq_true → aqO,all_cons → aqP,map → aqQ,pairwise_append → aqT,mem_of_mem_take → aqV,map_nil → aq2,mem_filterMap → aq4,find?_eq_none → aq8,map_inj_right → ard,drop_eq_getElem_cons → arj,reverse_cons → arn,flatMap_cons → aro,getElem?_inj → arp,map_flatMap → arA,pairwise_lt_range → arD,filter_eq_nil_iff → arG,of_mem_zip → arH,filter_nil → arJ,pairwise_flatMap → arL,getElem?_mapIdx → arP,reverse_reverse → arR,mem_of_getLast? → arT,mem_of_mem_drop → arV,length_pos_iff → arX,length_reverse → arY,filter_flatMap → arZ,map_take → ar1,map_drop → ar2,all_nil → ar9
open Bool renaming false_ne_true → aoi,and_eq_true → aoo,false_eq_true → aoY,not_true → apn,true_and → apv,false_and → apw,eq_iff_iff → aqW,and_false → aq7,not_false → aq9,and_true → aru,noConfusion → arB,false_or → ar3
open PySem.W renaming Frag → aol,nsIn → ao9,mg_none_of → ape,keepIn → apm,mg_of → apL,fnOf → apV,findIn → ap0,cellsFrom_some → ap4,codeIn → aq5,methodObj → ark,specialIn → arl
open Nat renaming le_refl → aop,lt_of_lt_of_le → aoL,le_trans → aoN,ne_of_lt → aoR,le_of_ble_eq_true → aoS,zero_le → ao2,le_of_lt → aps,not_lt_zero → apz,lt_succ_of_lt → apD,lt_irrefl → apK,le_of_eq → ap5,sub_self → ap7,le_of_succ_le → aqC,succ_pos → aqD,lt_succ_of_le → aqG,lt_succ_iff → aqX,ne_of_gt → aq1,mul_le_mul → arc,add_assoc → ars,lt_succ_iff_lt_or_eq → arw,lt_succ_self → arx,min_le_right → ary,zero_add → arC,min_eq_left → arI,lt_trans → ar4,add_zero → ar5,mul_succ → ar8,le_succ → asa
open PySem.Heap renaming get?_push_of_some → aot,lt_size → aoB,get?_push_size → aoM,get?_update_other → apH,SameBut → apU,get?_update_self → aqc,size_push → aq6
open PySem.PyData renaming depthAll → aoy,eqv → aoH,canLayAll0 → aqE,eqvAll → arq,depth → ar7
open Array renaming length_toList → aoz,getElem?_eq_getElem → apB,getD_eq_getD_getElem? → apI,getElem?_toList → apQ,getD → ap8,forIn_toList → aqy,getElem?_eq_none → aqH,mem_toList_iff → aqR,replicate → aqZ,size_map → arQ
open PySem.PassesOwn renaming never → aoT
open Classical renaming byContradiction → aoV,propDecidable → apl
open PySem renaming boot_len → aoW,mem_of_lookup → apY
open PySem.F renaming plainAttrs_list → apa,slot_list_append → apc,type_list_append → apd,slot_tuple_hash → apE,slot_dict_keyiterator_next → apP,slot_set_contains → aql,slot_set_add → aqS,slot_dict_getitem → arh,slot_dict_iter → arF,args_list_append_2 → arO,type_set_add → arU,entry_list_append → arW
open Int renaming eq_ofNat_of_zero_le → apu,emod_lt_of_pos → apO,toNat_natCast → apW,emod_nonneg → aqY,toNat_of_nonneg → aq0
open Ne renaming symm → apC
open PySem.Builtin.Tuple renaming tupleHashOf → apR
open False renaming elim → ap3
open PyProof.Rows renaming callWith_type1 → aqe,boot_tuple → aqA,boot_sorted → arv,boot_all → arK,boot_set → arM
open PySem.Obj renaming mapSeq → aqh,putSet → arE
open PySem.Heap.SameBut renaming update → aqo
open Option renaming isSome_iff_exists → aqr,getD_some → arz
open PySem.SetTable renaming toList_insertAt → aqt,sizeAbove → arb,fill → ar0
open PySem.Calls renaming callWith_builtin → aqB,Name_function_global → aq3,call_function_entry → arf,evalArgs_plain → arN
open PySem.SeqAt renaming eqv_refl → aqF
open PySem.SeqAt.ReadsAll renaming length → aqK
open List.Pairwise renaming of_map → aqU
open PySem.Builtin.Frozenset renaming oneOther → ara,addrOf → art
open PySem.Builtin.SmallTypes renaming nextOf → ari
open PyProof.Rows.KTD renaming datumAt → arS
open PySem.Str renaming ofString → ar6
set_option Elab.async false
set_option linter.all false
set_option maxRecDepth 100000
set_option maxHeartbeats 4000000
section
namespace L2
open PySem PySem.Spec PyProof.Rows
abbrev Key:=Sum Int Str
def alI:Key->Value->Bool
 | .inl k,v=>Value.isInt k v
 | .inr x,v=>Value.isStrOf x v
def anV (w:World):Key->Int
 | .inl k=>hashInt k
 | .inr x=>hashStr w x
theorem yd:∀ {k:Key} {v:Value},alI k v=true->(∃ i t,k=Sum.inl i/\v=Value.int i t) \/ (∃ x t,k=Sum.inr x/\v=Value.str x t)
 | .inl i,v,h=>by
  obtain⟨t,e⟩:=Value.isInt_shape (k:=i) (v:=v) h
  exact .inl ⟨i,t,rfl,e⟩
 | .inr x,v,h=>by
  obtain⟨t,e⟩:=Value.isStrOf_shape (x:=x) (v:=v) h
  exact .inr ⟨x,t,rfl,e⟩
theorem al4 (a b:Int):decide ((Sum.inl a:Key)=Sum.inl b)=(a == b):=by
 by_cases e:a=b
 ·subst e;simp
 ·have h:¬ (Sum.inl a:Key)=Sum.inl b:=fun q=>e (Sum.inl.inj q)
  rw [decide_eq_false h]
  exact (beq_eq_false_iff_ne.mpr e).symm
theorem al5 (a b:Str):decide ((Sum.inr a:Key)=Sum.inr b)=decide (a=b):=by
 by_cases e:a=b
 ·subst e;simp
 ·have h:¬ (Sum.inr a:Key)=Sum.inr b:=fun q=>e (Sum.inr.inj q)
  rw [decide_eq_false h,decide_eq_false e]
theorem al6 (a:Int) (b:Str):decide ((Sum.inl a:Key)=Sum.inr b)=false:=decide_eq_false (fun q=>nomatch q)
theorem al7 (a:Str) (b:Int):decide ((Sum.inr a:Key)=Sum.inl b)=false:=decide_eq_false (fun q=>nomatch q)
def acR (prog:Program) (w:World):PySem.KeyKind prog w Key where
 is:=alI
 hash:=anV w
 inj:=fun v a b ha hb=>by
  rcases yd ha with⟨i,t,rfl,rfl⟩ | ⟨x,t,rfl,rfl⟩
  ·rcases yd hb with⟨j,u,rfl,e⟩ | ⟨y,u,rfl,e⟩
   ·injection e with e1 _;rw [e1]
   ·exact nomatch e
  ·rcases yd hb with⟨j,u,rfl,e⟩ | ⟨y,u,rfl,e⟩
   ·exact nomatch e
   ·injection e with e1 _;rw [e1]
 byValue:=fun k v h=>by
  rcases yd h with⟨i,t,rfl,rfl⟩ | ⟨x,t,rfl,rfl⟩ <;> rfl
 pyHash:=fun hv h=>by
  rcases yd hv with⟨i,t,rfl,rfl⟩ | ⟨x,t,rfl,rfl⟩
  ·exact wpAny_pyHash_int h
  ·exact wpAny_pyHash_str h
 eqBool:=fun hu hv h=>by
  rcases yd hu with⟨i,t,rfl,rfl⟩ | ⟨x,t,rfl,rfl⟩
  ·rcases yd hv with⟨j,u,rfl,rfl⟩ | ⟨y,u,rfl,rfl⟩
   ·rw [al4] at h;exact wpAny_eqBool_int h
   ·rw [al6] at h;exact SeqAt.EqAt.int_str i t y u _ _ _ _ h
  ·rcases yd hv with⟨j,u,rfl,rfl⟩ | ⟨y,u,rfl,rfl⟩
   ·rw [al7] at h;exact SeqAt.EqAt.str_int x t j u _ _ _ _ h
   ·rw [al5] at h;exact wpAny_eqBool_str h
 «strs»:=fun k x t v h=>by
  rcases yd h with⟨i,u,rfl,e⟩ | ⟨y,u,rfl,e⟩
  ·exact nomatch e
  ·injection e with e1 _
   subst e1
   cases v <;> rfl
inductive V where
 | non | bl (b:Bool) | int (i:Int) | str (x:Str) | byt (b:Array UInt8) | flt (b:UInt64) | ref (a:Addr) | ty (n:String)
 deriving DecidableEq
def RelV:V->Value->Prop
 | .non,u=>u=Value.none
 | .bl b,u=>u=Value.bool b
 | .int i,u=>∃ t,u=Value.int i t
 | .str x,u=>∃ t,u=Value.str x t
 | .byt b,u=>∃ t,u=Value.bytes b t
 | .flt b,u=>∃ t,u=Value.float b t
 | .ref a,u=>u=Value.ref a
 | .ty n,u=>u=Value.type n
abbrev Vals:List V->List Value->Prop:=Paired RelV
theorem Vals.length {xs:List V} {us:List Value} (r:Vals xs us):xs.length=us.length:=Paired.length r
theorem Vals.get:∀ {xs:List V} {us:List Value} {i:Nat} {x:V},Vals xs us->xs[i]?=some x->∃ u,us[i]?=some u/\RelV x u
 | _,_,_,_,.nil,e=>by simp at e
 | _,_,0,_,.cons r _,e=>by simp at e;subst e;exact⟨_,rfl,r⟩
 | _,_,i+1,x,.cons _ t,e=>by
  obtain⟨u,h1,h2⟩:=Vals.get (i:=i) (x:=x) t (by simpa using e)
  exact⟨u,by simpa using h1,h2⟩
theorem Vals.set {x:V} {u:Value} (r:RelV x u):∀ {xs:List V} {us:List Value} (i:Nat),Vals xs us->Vals (xs.set i x) (us.set i u)
 | _,_,_,.nil=>.nil
 | _,_,0,.cons _ t=>.cons r t
 | _,_,i+1,.cons q t=>.cons q (Vals.set r i t)
theorem Vals.append:∀ {xs ys:List V} {us ws:List Value},Vals xs us->Vals ys ws->Vals (xs++ys) (us++ws)
 | _,_,_,_,.nil,s=>s
 | _,_,_,_,.cons r t,s=>.cons r (Vals.append t s)
theorem Vals.take:∀ {xs:List V} {us:List Value} (n:Nat),Vals xs us->Vals (xs.take n) (us.take n)
 | _,_,0,_=>.nil
 | _,_,_+1,.nil=>.nil
 | _,_,n+1,.cons r t=>.cons r (Vals.take n t)
theorem Vals.drop:∀ {xs:List V} {us:List Value} (n:Nat),Vals xs us->Vals (xs.drop n) (us.drop n)
 | _,_,0,r=>r
 | _,_,_+1,.nil=>.nil
 | _,_,n+1,.cons _ t=>Vals.drop n t
def ano:Option V->Option Value->Prop
 | some v,some u=>RelV v u
 | none,none=>True
 | _,_=>False
def KV {κ:Type}:List (κ×V)->List (κ×Value)->Prop:=Paired fun (p:κ×V) (q:κ×Value)=>p.1=q.1/\RelV p.2 q.2
def kV:Key->V
 | .inl i=>.int i
 | .inr x=>.str x
inductive HO where
  | lst (xs:List V)
  | tup (xs:List V)
  | dK (kvs:List (Key×V)) | dT (kvs:List (List Key×V))
  | set (S:Int->Bool) (n:Nat)
  | ins (C dx:Addr) (fs:List (Str×V))
  | own (x:Addr)
  | xd (fs:List (Str×V))
  | met (f x:Addr)
  | rng (lo hi:Int)
  | frz (o:Obj) (u:HO)
  | tbl (ps:Array Value)
  | ext (φ:Heap->Prop)
abbrev Hp:=Addr->Option HO
def upd (H:Hp) (a:Addr) (o:HO):Hp:=fun b=>if b=a then some o else H b
theorem zy {H:Hp} {a:Addr} {o:HO}:upd H a o a=some o:=by unfold upd;rw [if_pos rfl]
theorem zu {H:Hp} {a b:Addr} {o:HO} (h:b≠a):upd H a o b=H b:=by unfold upd;rw [if_neg h]
theorem zE {H:Hp} {a b:Addr} {o:HO} (h:H a=some o) (h':H b=none):a≠b:=by
 intro e;subst e;rw [h] at h';cases h'
section
variable (P:Program) (w:World)
def ObjOk (H:Hp) (h:Heap) (a:Addr):HO->Prop
 | .lst xs=>xs.length<=sizeLine/\∃ (its:List Value) (n:Nat),Vals xs its/\h.get? a=some { cls:=.type "list",data:=.seq its.toArray n }
 | .tup xs=>xs.length<=sizeLine/\∃ its:List Value,Vals xs its/\IsTup h a its.toArray
 | .dK kvs=>kvs.length<=sizeLine/\(a == sysModules)=false/\∃ vs,KV kvs vs/\h.DictOf (acR P w) a vs
 | .dT kvs=>kvs.length<=sizeLine/\(a == sysModules)=false/\∃ xs:List (List Key×Addr×Value),
   Paired (fun (p:List Key×V) (q:List Key×Addr×Value)=>p.1=q.1/\H q.2.1=some (.tup (p.1.map kV))/\RelV p.2 q.2.2) kvs xs /\
   ∃ o es ep,h.get? a=some o/\o.ExactDict/\o.data=.dict es ep/\es.toList=xs.map (entryOfKey (tupleKind (acR P w)))/\(xs.map (·.1)).Nodup
 | .set S n=>h.SetOf (intKind P w) a S n
 | .ins C dx fs=>H dx=some (.own a)/\fs.length<=1000/\dx≠a/\h.get? a=some (PySem.W.instObj C dx) /\
   ∃ mA,h.Ns1 dx mA/\(∀ f,ano (fs.lookup f) (mA f))/\PySem.Within mA (fs.map (·.1))
 | .own _=>∃ o,h.get? a=some o
 | .xd fs=>∃ mA,h.Ns1 a mA/\∀ f,ano (fs.lookup f) (mA f)
 | .rng lo hi=>∃ t u v,h.get? a=some { cls:=.type "range",data:=.fields #[.int lo t,.int hi u,.int 1 v] }
 | .frz o u=>h.get? a=some o/\ObjOk H h a u
 | .tbl ps=>h.get? a=some { cls:=.none,data:=.fields ps }
 | .met f x=>h.get? a=some (ark (.ref f) (.ref x))
 | .ext φ=>φ h/\(∃ o,h.get? a=some o)/\∀ h1 h2:Heap,φ h1->(∀ o,h1.get? a=some o->h2.get? a=some o)->φ h2
def HOk (H:Hp) (h:Heap):Prop:=∀ a o,H a=some o->ObjOk P w H h a o
end
section
variable {P:Program} {w:World} {H H':Hp} {h h':Heap} {a:Addr} {o:HO}
theorem ObjOk.lt (x:ObjOk P w H h a o):a<h.objs.size:=by
 cases o with
 | lst xs=>obtain⟨_,_,_,_,e⟩:=x;exact aoB e
 | tup xs=>obtain⟨_,_,_,p⟩:=x;exact p.lt
 | dK kvs=>obtain⟨_,_,_,_,o,_,_,e,_⟩:=x;exact aoB e
 | dT kvs=>obtain⟨_,_,_,_,o,_,_,e,_⟩:=x;exact aoB e
 | set S n=>obtain⟨o,_,_,_,e,_⟩:=x;exact aoB e
 | ins C dx fs=>obtain⟨_,_,_,e,_⟩:=x;exact aoB e
 | own y=>obtain⟨_,e⟩:=x;exact aoB e
 | xd fs=>obtain⟨_,⟨_,_,_,e,_⟩,_⟩:=x;exact aoB e
 | rng lo hi=>obtain⟨_,_,_,e⟩:=x;exact aoB e
 | frz ob u=>obtain⟨e,_⟩:=x;exact aoB e
 | tbl ps=>exact aoB (show h.get? a=some _ from x)
 | met f y=>exact aoB (show h.get? a=some _ from x)
 | ext φ=>obtain⟨_,⟨_,e⟩,_⟩:=x;exact aoB e
theorem Paired.mapP {α β:Type} {F G:α->β->Prop}:∀ {l₁:List α} {l₂:List β},Paired F l₁ l₂->(∀ a b,F a b->G a b)->Paired G l₁ l₂
 | _,_,.nil,_=>.nil
 | _,_,.cons r t,f=>.cons (f _ _ r) (Paired.mapP t f)
theorem ObjOk.stay (x:ObjOk P w H h a o) (k:∀ b u,(b=a \/ H b=some (.own a))->h.get? b=some u->h'.get? b=some u)
  (ho:∀ b,H b=some (.own a)->H' b=some (.own a)) (ht:∀ b xs,H b=some (.tup xs)->H' b=some (.tup xs)):ObjOk P w H' h' a o:=by
 induction o with
 | lst xs=>obtain⟨z,its,n,r,e⟩:=x;exact⟨z,its,n,r,k _ _ (.inl rfl) e⟩
 | tup xs=>obtain⟨z,its,r,ob,e,c⟩:=x;exact⟨z,its,r,ob,k _ _ (.inl rfl) e,c⟩
 | dK kvs=>obtain⟨z,y,vs,r,ob,es,ep,e,c⟩:=x;exact⟨z,y,vs,r,ob,es,ep,k _ _ (.inl rfl) e,c⟩
 | dT kvs =>
  obtain⟨z,y,xs,r,ob,es,ep,e,c⟩:=x
  exact⟨z,y,xs,Paired.mapP r fun p q z=>⟨z.1,ht _ _ z.2.1,z.2.2⟩,ob,es,ep,k _ _ (.inl rfl) e,c⟩
 | set S n=>obtain⟨ob,es,ep,t,e,c⟩:=x;exact⟨ob,es,ep,t,k _ _ (.inl rfl) e,c⟩
 | ins C dx fs =>
  obtain⟨d,z,ne,e,mA,⟨od,es,ep,e2,c⟩,r⟩:=x
  exact⟨ho _ d,z,ne,k _ _ (.inl rfl) e,mA,⟨od,es,ep,k _ _ (.inr d) e2,c⟩,r⟩
 | own y=>obtain⟨ob,e⟩:=x;exact⟨ob,k _ _ (.inl rfl) e⟩
 | xd fs=>obtain⟨mA,⟨od,es,ep,e,c⟩,r⟩:=x;exact⟨mA,⟨od,es,ep,k _ _ (.inl rfl) e,c⟩,r⟩
 | rng lo hi=>obtain⟨t,u,v,e⟩:=x;exact⟨t,u,v,k _ _ (.inl rfl) e⟩
 | frz ob u ih=>obtain⟨e,q⟩:=x;exact⟨k _ _ (.inl rfl) e,ih q⟩
 | tbl ps =>
  have e:h.get? a=some { cls:=.none,data:=.fields ps }:=x
  show h'.get? a=some { cls:=.none,data:=.fields ps }
  exact k a _ (.inl rfl) e
 | met f y =>
  have e:h.get? a=some (ark (.ref f) (.ref y)):=x
  show h'.get? a=some (ark (.ref f) (.ref y))
  exact k a _ (.inl rfl) e
 | ext φ=>obtain⟨p,⟨o,e⟩,st⟩:=x;exact⟨st _ _ p fun o q=>k _ _ (.inl rfl) q,⟨o,k _ _ (.inl rfl) e⟩,st⟩
theorem HOk.lt (x:HOk P w H h) (e:H a=some o):a<h.objs.size:=(x a o e).lt
theorem HOk.fresh (x:HOk P w H h) (e:h.objs.size<=a):H a=none:=by
 cases q:H a with
 | none=>rfl
 | some u=>exact absurd (aoL (x.lt q) e) (apK _)
theorem HOk.kept (x:HOk P w H h) (k:∀ b u,h.get? b=some u->h'.get? b=some u):HOk P w H h':=fun a o e =>
 (x a o e).stay (fun b u _ q=>k b u q) (fun _ q=>q) fun _ _ q=>q
theorem HOk.laid (x:HOk P w H h) (k:∀ b u,h.get? b=some u->h'.get? b=some u) (hp:h.objs.size<=a) (new:ObjOk P w (upd H a o) h' a o):HOk P w (upd H a o) h':=fun b u e=>by
 have hn:=x.fresh hp
 by_cases hb:b=a
 ·subst hb;rw [zy] at e;cases e;exact new
 ·rw [zu hb] at e
  exact (x b u e).stay (fun c v _ q=>k c v q) (fun c q=>by rw [zu (zE q hn)];exact q) fun c xs q=>by rw [zu (zE q hn)];exact q
end
def Rd (H:Hp) (a:Addr) (u:HO):Prop:=H a=some u \/ ∃ o,H a=some (.frz o u)
theorem Rd.ok {P:Program} {w:World} {H:Hp} {h:Heap} {a:Addr} {u:HO} (r:Rd H a u) (x:HOk P w H h):ObjOk P w H h a u:=by
 rcases r with r | ⟨o,r⟩
 ·exact x a u r
 ·obtain⟨_,q⟩:=x a _ r
  exact q
def Mut:Option HO->Prop
 | some (.lst _)=>True
 | some (.dK _)=>True
 | some (.dT _)=>True
 | some (.set _ _)=>True
 | some (.ins _ _ _)=>True
 | some (.ext _)=>True
 | _=>False
section
variable {P:Program} {w:World} {H:Hp} {h h':Heap} {x e:Addr} {o':HO}
theorem HOk.write (ok:HOk P w H h) (mu:Mut (H x)) (he:e=x \/ H e=some (.own x)) (k:∀ b u,b≠e->h.get? b=some u->h'.get? b=some u) (heo:∃ u,h'.get? e=some u)
  (new:ObjOk P w (upd H x o') h' x o'):HOk P w (upd H x o') h':=fun b u q=>by
 have nown:∀ c y,H c=some (.own y)->c≠x:=fun c y r z=>by subst z;rw [r] at mu;exact mu
 have ntup:∀ c xs,H c=some (.tup xs)->c≠x:=fun c xs r z=>by subst z;rw [r] at mu;exact mu
 by_cases hb:b=x
 ·subst hb;rw [zy] at q;cases q;exact new
 ·rw [zu hb] at q
  by_cases hbe:b=e
  ·have q':H b=some (.own x):=by
    rcases he with z | z
    ·exact absurd (hbe.trans z) hb
    ·rw [hbe];exact z
   rw [q] at q';cases q'
   obtain⟨v,hv⟩:=heo
   exact⟨v,by rw [hbe];exact hv⟩
  ·refine (ok b u q).stay (fun c v hc r=>k c v ?_ r) (fun c r=>by rw [zu (nown c b r)];exact r) fun c xs r=>by rw [zu (ntup c xs r)];exact r
   rcases hc with rfl | hc
   ·exact hbe
   ·rintro rfl
    rcases he with z | z
    ·exact nown c b hc z
    ·rw [hc] at z;cases z;exact hb rfl
end
structure Un (fs ex:List Addr) (H H':Hp) (h h':Heap):Prop where
 keep:∀ b o,h.get? b=some o->H b=none->b∉fs->b∉ex->h'.get? b=some o
 slot:∀ b o,h.get? b=some o->H b=none->b∈fs->b∉ex->∃ sl,h'.get? b=some { o with slots:=sl }
 free:∀ b o,h.get? b=some o->H b=none->b∉ex->H' b=none
 there:∀ b o,h.get? b=some o->b∉ex->∃ o',h'.get? b=some o'
 tups:∀ b xs,H b=some (.tup xs)->H' b=some (.tup xs)
 frzs:∀ b o u,H b=some (.frz o u)->H' b=some (.frz o u)
 tbls:∀ b ps,H b=some (.tbl ps)->∃ more,H' b=some (.tbl (ps++more))
section
variable {fs fs' ex ex':List Addr} {H H1 H2:Hp} {h h1 h2 h':Heap} {a x e:Addr} {o:HO}
theorem Un.any (u:Un fs ex H H1 h h1) {b:Addr} {ob:Obj} (q:h.get? b=some ob) (n:H b=none) (hx:b∉ex):∃ sl,h1.get? b=some { ob with slots:=sl }:=by
 by_cases hb:b∈fs
 ·exact u.slot b ob q n hb hx
 ·exact⟨ob.slots,u.keep b ob q n hb hx⟩
theorem Un.kept (k:∀ b u,h.get? b=some u->h'.get? b=some u):Un fs ex H H h h' :=
 ⟨fun b ob q _ _ _=>k b ob q,fun b ob q _ _ _=>⟨ob.slots,k b ob q⟩,fun _ _ _ n _=>n,fun b ob q _=>⟨ob,k b ob q⟩,fun _ _ q=>q,fun _ _ _ q=>q,fun _ ps q=>⟨#[],by rw [q];simp⟩⟩
theorem Un.refl:Un fs ex H H h h:=Un.kept fun _ _ q=>q
theorem Un.laid (k:∀ b u,h.get? b=some u->h'.get? b=some u) (hp:h.objs.size<=a) (hn:H a=none):Un fs ex H (upd H a o) h h' where
 keep:=fun b u q _ _ _=>k b u q
 slot:=fun b u q _ _ _=>⟨u.slots,k b u q⟩
 free:=fun b u q n _=>by rw [zu (aoR (aoL (aoB q) hp))];exact n
 there:=fun b u q _=>⟨u,k b u q⟩
 tups:=fun b xs q=>by rw [zu (zE q hn)];exact q
 frzs:=fun b u xs q=>by rw [zu (zE q hn)];exact q
 tbls:=fun b ps q=>⟨#[],by rw [zu (zE q hn),q];simp⟩
theorem Un.write (mu:Mut (H x)) (he:e=x \/ H e=some (.own x)) (k:∀ b u,b≠e->h.get? b=some u->h'.get? b=some u) (heo:∃ u,h'.get? e=some u):Un fs ex H (upd H x o) h h':=by
 have hx:∀ b,H b=none->b≠x:=fun b n z=>by subst z;rw [n] at mu;exact mu
 have hb:∀ b,H b=none->b≠e:=fun b n z=>by
  subst z
  rcases he with r | r
  ·exact hx b n r
  ·rw [n] at r;cases r
 have hm:∀ b u,H b=some u->¬ Mut (some u)->b≠x:=fun b u q nm z=>by subst z;rw [q] at mu;exact nm mu
 refine⟨fun b u q n _ _=>k b u (hb b n) q,fun b u q n _ _=>⟨u.slots,k b u (hb b n) q⟩,fun b u q n _=>by rw [zu (hx b n)];exact n,fun b u q _=>?_,
  fun b xs q=>by rw [zu (hm b _ q fun z=>z)];exact q,fun b u xs q=>by rw [zu (hm b _ q fun z=>z)];exact q,fun b ps q=>⟨#[],by rw [zu (hm b _ q fun z=>z),q];simp⟩⟩
 by_cases hbe:b=e
 ·subst hbe;exact heo
 ·exact⟨u,k b u hbe q⟩
end
def trk (h:Heap) (H:Hp):List Addr:=(aow h.objs.size).filter fun a=>(H a).isSome
def acS (h:Heap) (H:Hp):Heap:=PySem.W.hideAll h (trk h H)
theorem ahb (h:Heap) (H:Hp):(acS h H).objs.size=h.objs.size:=PySem.W.hideAll_size _ _
theorem aif {h:Heap} {H:Hp} {b:Addr} {o:Obj} (e:h.get? b=some o) (n:H b=none):(acS h H).get? b=some o :=
 PySem.W.hideAll_get _ e fun hm=>by
  have q:(H b).isSome=true:=(ao6.mp hm).2
  rw [n] at q;simp at q
theorem akj {h:Heap} {H:Hp} {b:Addr} {o:Obj} (e:(acS h H).get? b=some o):h.get? b=some o/\H b=none:=by
 have e':h.get? b=some o:=PySem.W.of_hideAll (trk h H) e
 refine⟨e',?_⟩
 cases q:H b with
 | none=>rfl
 | some x =>
  have hm:b∈trk h H:=ao6.mpr ⟨aoK.mpr (aoB e'),by simp [q]⟩
  have z:(acS h H).get? b=none:=PySem.W.hideAll_none (trk h H) hm
  rw [z] at e;cases e
def akk (g h:Heap) (L:Addr):List (Addr×Obj):=(aow h.objs.size).filterMap fun a=>if a=L \/ (g.get? a).isSome=true then none else (h.get? a).map fun o=>(a,o)
def rest (g h:Heap) (L d:Addr):List (Addr×Obj):=(akk g h L).filter fun p=>decide (p.1≠d)
structure Mod (K:aol) (mg:Str->Option Value) (base:Heap):Prop where
 kin:K.In base
 glob:base.Ns mainGlobals mg
 blt:∃ mb,base.Ns builtinsNs mb/\∀ x:Str,x ≠ "__name__"->mb x=bootBuiltins x
 nolimit:base.NoLimit
structure Cx where
 prog:Program
 w:World
 K:aol
 mg:Str->Option Value
 base:Heap
 A:Around
 N:List Str
 s₀:Shared
 H₀:Hp
 env:Env
 outer:List Env
 stack:List Env
 ex:List Addr
 fn:Str->Bool
 calm:Bool
 pn:List (Addr×Obj)
 xe:Value->Shared->Prop
def frs (l:List Env):List Addr:=l.filterMap (·.frame)
abbrev Cx.fs (X:Cx):List Addr:=frs X.outer
def Vis (sc:Scope) (x:Str):Prop:=sc.names.lookup x=some .local \/ sc.names.lookup x=some .cell \/ sc.names.lookup x=some .free
def Loc (sc:Scope) (x:Str):Prop:=sc.names.lookup x=some .local \/ sc.names.lookup x=some .cell
def Look (env:Env) (h:Heap) (m:Str->Option Value) (x:Str) (u:Value):Prop :=
 (env.kindOf x=some .local/\m x=some u) \/ ((env.kindOf x=some .cell \/ env.kindOf x=some .free)/\∃ c,env.cells.lookup x=some c/\h.IsCell c (some u))
structure Cx.Ok (X:Cx):Prop where
 mod:Mod X.K X.mg X.base
 kind:X.env.scope.kind=.function
 glob:X.env.globals=mainGlobals
 blt:X.env.builtins=builtinsNs
 above:X.s₀.heap.objs.size<=X.env.locals
 inj:∀ x y c,X.env.cells.lookup x=some c->X.env.cells.lookup y=some c->x=y
 has:∀ x,(X.env.kindOf x=some .cell \/ X.env.kindOf x=some .free)->∃ c,X.env.cells.lookup x=some c
 cab:∀ x c,X.fn x=true->X.env.cells.lookup x=some c->X.s₀.heap.objs.size<=c
 hd:X.calm=true->X.A.handled=none
 frames:X.A.frames=some X.stack
 stk:X.stack=X.outer \/ (X.stack=X.env :: X.outer/\X.env.frame=some X.env.locals)
 exf:∀ b∈X.ex,b≠X.env.locals/\∀ x c,X.env.cells.lookup x=some c->c≠b
 bs:∀ b o,X.base.get? b=some o->X.s₀.heap.get? b=some o/\X.H₀ b=none
 bsz:X.base.objs.size<=X.s₀.heap.objs.size
 noex:∀ b o,X.base.get? b=some o->b∉X.ex
 exfs:∀ b∈X.ex,b∉X.fs
 funs:X.s₀.heap.FunFrames X.base X.outer
 frf:∀ b∈X.fs,X.H₀ b=none
structure Inv (X:Cx) (pins:List (Addr×Obj)) (σ:List (Option V)) (H:Hp) (s:Shared):Prop where
 ok:X.Ok
 os:s.os=X.s₀.os
 bare:AllBare s.gens
 base:Un X.fs X.ex X.H₀ H X.s₀.heap s.heap
 loc:∃ m,s.heap.Ns X.env.locals m/\∀ (i:Nat) (x:Str) (v:V),X.N[i]?=some x->σ[i]?=some (some v)->Vis X.env.scope x->∃ u,RelV v u/\Look X.env s.heap m x u
 cell:∀ x c,X.env.cells.lookup x=some c->∃ v,s.heap.IsCell c v
 free:H X.env.locals=none
 freeC:∀ x c,X.env.cells.lookup x=some c->H c=none
 pin:∀ p∈X.pn++pins,s.heap.get? p.1=some p.2/\H p.1=none/\p.1≠X.env.locals/\p.1∉X.fs/\∀ v,p.2.data≠.cell v
 hok:HOk X.prog X.w H s.heap
 len:σ.length=X.N.length
section
variable {X:Cx} {pins:List (Addr×Obj)} {σ:List (Option V)} {H H':Hp} {s:Shared} {h':Heap}
theorem Cx.Ok.nofr (ok:X.Ok) {b:Addr} {o:Obj} (e:X.base.get? b=some o):b∉X.fs:=fun hb=>by
 have:=(ok.funs.mem hb).1
 rw [e] at this;cases this
theorem Inv.bs (I:Inv X pins σ H s):∀ b o,X.base.get? b=some o->s.heap.get? b=some o/\H b=none:=fun b o e =>
 ⟨I.base.keep b o (I.ok.bs b o e).1 (I.ok.bs b o e).2 (I.ok.nofr e) (I.ok.noex b o e),I.base.free b o (I.ok.bs b o e).1 (I.ok.bs b o e).2 (I.ok.noex b o e)⟩
theorem Inv.bk (I:Inv X pins σ H s):∀ b o,X.base.get? b=some o->s.heap.get? b=some o:=fun b o e=>(I.bs b o e).1
theorem Inv.mod (I:Inv X pins σ H s):Mod X.K X.mg X.base:=I.ok.mod
theorem Inv.kIn (I:Inv X pins σ H s):X.K.In s.heap:=I.ok.mod.kin.keeps I.bk
theorem Inv.fr (I:Inv X pins σ H s):∃ m,Fr X.base X.env.locals s.heap m :=
 let⟨m,hn,_⟩:=I.loc
 ⟨m,hn,I.bk,aoN I.ok.bsz I.ok.above⟩
theorem Inv.lt (I:Inv X pins σ H s):X.env.locals<s.heap.objs.size:=let⟨_,hn,_⟩:=I.loc;hn.lt
theorem Inv.sz (I:Inv X pins σ H s):X.s₀.heap.objs.size<=s.heap.objs.size:=aoN I.ok.above (aps I.lt)
theorem Inv.nofs (I:Inv X pins σ H s) {a:Addr} (h:s.heap.objs.size<=a):a∉X.fs:=fun hb=>by
 obtain⟨_,o,ho,_⟩:=I.ok.funs.mem hb
 exact absurd (aoL (aoB ho) (aoN I.sz h)) (apK _)
theorem Inv.cne (I:Inv X pins σ H s):∀ x c,X.env.cells.lookup x=some c->c≠X.env.locals:=fun x c e z=>by
 obtain⟨v,o,ho,hd⟩:=I.cell x c e
 obtain⟨m,⟨o',es,ep,ho',hd',_⟩,_⟩:=I.loc
 rw [z,ho'] at ho;cases ho;rw [hd'] at hd;cases hd
theorem Inv.funs (I:Inv X pins σ H s):s.heap.FunFrames X.base X.outer:=by
 have all:∀ (l:List Env),(∀ b∈frs l,b∈X.fs)->X.s₀.heap.FunFrames X.base l->s.heap.FunFrames X.base l:=by
  intro l
  induction l with
  | nil=>intro _ _;trivial
  | cons env r ih =>
   intro hs hl
   obtain⟨hk,⟨L,o,hf,hn,ho,hd⟩,hr⟩:=hl
   have hL:L∈X.fs:=hs L (by unfold frs;rw [aqm,hf];exact aom)
   obtain⟨sl,e⟩:=I.base.slot L o ho (I.ok.frf L hL) hL fun z=>I.ok.exfs L z hL
   exact⟨hk,⟨L,_,hf,hn,e,hd⟩,ih (fun b hb=>hs b (by unfold frs;rw [aqm,hf];exact aon _ hb)) hr⟩
 exact all X.outer (fun _ hb=>hb) I.ok.funs
theorem Inv.stack (I:Inv X pins σ H s):s.heap.FunFrames X.base X.stack:=by
 rcases I.ok.stk with e | ⟨e,hf⟩
 ·rw [e];exact I.funs
 ·rw [e]
  obtain⟨m,hn,_⟩:=I.loc
  refine .cons (by rw [I.ok.kind];decide) hf hn ?_ I.funs
  exact Heap.get?_none_of_le (aoN I.ok.bsz I.ok.above)
theorem Inv.stkSub (I:Inv X pins σ H s):∀ b∈frs X.stack,b∈X.env.locals :: X.fs:=fun b hb=>by
 rcases I.ok.stk with e | ⟨e,hf⟩
 ·rw [e] at hb;exact aon _ hb
 ·rw [e] at hb
  unfold frs at hb
  rw [aqm,hf] at hb
  exact hb
theorem Inv.stkFree (I:Inv X pins σ H s):∀ b∈frs X.stack,H b=none:=fun b hb=>by
 rcases aor.mp (I.stkSub b hb) with e | hb
 ·rw [e];exact I.free
 ·obtain⟨_,o,ho,_⟩:=I.ok.funs.mem hb
  exact I.base.free b o ho (I.ok.frf b hb) fun z=>I.ok.exfs b z hb
theorem Inv.step {g':Array GenState} {t':Nat} {d':Drawn} {ch:List Addr} (I:Inv X pins σ H s)
  (hch:∀ b∈ch,(b∈X.ex \/ X.s₀.heap.objs.size<=b)/\b≠X.env.locals/\(∀ x c,X.env.cells.lookup x=some c->c≠b)/\∀ p∈X.pn++pins,p.1≠b)
  (keep:∀ b o,b≠X.env.locals->b∉X.fs->b∉ch->s.heap.get? b=some o->H b=none->h'.get? b=some o)
  (slot:∀ b o,b≠X.env.locals->b∈X.fs->b∉ch->s.heap.get? b=some o->H b=none->∃ sl,h'.get? b=some { o with slots:=sl }) (free:∀ b o,b∉ch->s.heap.get? b=some o->H b=none->H' b=none)
  (there:∀ b o,b∉ch->s.heap.get? b=some o->∃ o',h'.get? b=some o')
  (tups:∀ b xs,H b=some (.tup xs)->H' b=some (.tup xs)) (frzs:∀ b o u,H b=some (.frz o u)->H' b=some (.frz o u)) (tbls:∀ b ps,H b=some (.tbl ps)->∃ more,H' b=some (.tbl (ps++more)))
  (ns:∀ m,s.heap.Ns X.env.locals m->h'.Ns X.env.locals m) (hok:HOk X.prog X.w H' h') (hg:AllBare g') :
  Inv X pins σ H' { s with heap:=h',gens:=g',drawn:=d',toks:=t' }:=by
 have neL:∀ b o,X.s₀.heap.get? b=some o->b≠X.env.locals:=fun b o e=>aoR (aoL (aoB e) I.ok.above)
 have neC:∀ b o,X.s₀.heap.get? b=some o->b∉X.ex->b∉ch:=fun b o e hx hb=>by
  rcases (hch b hb).1 with z | z
  ·exact hx z
  ·exact absurd (aoL (aoB e) z) (apK _)
 have cellK:∀ x c,X.env.cells.lookup x=some c->∀ v,s.heap.IsCell c v->h'.IsCell c v:=fun x c e v ⟨o,ho,hd⟩=>by
  have nch:c∉ch:=fun z=>(hch c z).2.2.1 x c e rfl
  by_cases hc:c∈X.fs
  ·obtain⟨sl,q⟩:=slot c o (I.cne x c e) hc nch ho (I.freeC x c e)
   exact⟨_,q,hd⟩
  ·exact⟨o,keep c o (I.cne x c e) hc nch ho (I.freeC x c e),hd⟩
 refine⟨I.ok,I.os,hg,⟨fun b o e n hb hx=>?_,fun b o e n hb hx=>?_,fun b o e n hx=>?_,fun b o e hx=>?_,fun b xs e=>tups b xs (I.base.tups b xs e),fun b o xs e=>frzs b o xs (I.base.frzs b o xs e),fun b ps e=>?_⟩,?_,fun x c e=>?_,?_,fun x c e=>?_,fun p hp=>?_,hok,I.len⟩
 ·exact keep b o (neL b o e) hb (neC b o e hx) (I.base.keep b o e n hb hx) (I.base.free b o e n hx)
 ·obtain⟨sl,e1⟩:=I.base.slot b o e n hb hx
  obtain⟨sl',e2⟩:=slot b _ (neL b o e) hb (neC b o e hx) e1 (I.base.free b o e n hx)
  exact⟨sl',e2⟩
 ·obtain⟨o',e1⟩:=I.base.there b o e hx
  exact free b o' (neC b o e hx) e1 (I.base.free b o e n hx)
 ·obtain⟨o',e1⟩:=I.base.there b o e hx
  exact there b o' (neC b o e hx) e1
 ·obtain⟨m1,e1⟩:=I.base.tbls b ps e
  obtain⟨m2,e2⟩:=tbls b _ e1
  exact⟨m1++m2,by rw [e2,Array.append_assoc]⟩
 ·obtain⟨m,hn,hl⟩:=I.loc
  refine⟨m,ns m hn,fun i x v e1 e2 e3=>?_⟩
  obtain⟨u,r,l⟩:=hl i x v e1 e2 e3
  refine⟨u,r,?_⟩
  rcases l with l | ⟨k,c,e,z⟩
  ·exact .inl l
  ·exact .inr ⟨k,c,e,cellK x c e _ z⟩
 ·obtain⟨v,z⟩:=I.cell x c e
  exact⟨v,cellK x c e v z⟩
 ·obtain⟨m,⟨o,_,_,ho,_⟩,_⟩:=I.loc
  exact free _ o (fun z=>(hch _ z).2.1 rfl) ho I.free
 ·obtain⟨v,o,ho,hd⟩:=I.cell x c e
  exact free c o (fun z=>(hch c z).2.2.1 x c e rfl) ho (I.freeC x c e)
 ·obtain⟨e,n,ne,nf,d⟩:=I.pin p hp
  have nch:p.1∉ch:=fun z=>(hch p.1 z).2.2.2 p hp rfl
  exact⟨keep p.1 p.2 ne nf nch e n,free p.1 p.2 nch e n,ne,nf,d⟩
theorem Inv.un {t':Nat} (I:Inv X pins σ H s) (u:Un X.fs [] H H' s.heap h') (hok:HOk X.prog X.w H' h'):Inv X pins σ H' { s with heap:=h',toks:=t' }:=by
 obtain⟨m,⟨o,es,ep,ho,r⟩,_⟩:=id I.loc
 obtain⟨sl,hL⟩:=u.any ho I.free (by simp)
 exact I.step (g':=s.gens) (d':=s.drawn) (ch:=[]) (fun _ z=>nomatch z) (fun b o _ hb _ e n=>u.keep b o e n hb (by simp)) (fun b o _ hb _ e n=>u.slot b o e n hb (by simp)) (fun b o _ e n=>u.free b o e n (by simp)) (fun b o _ e=>u.there b o e (by simp)) u.tups u.frzs u.tbls (fun m' hm=>by
  obtain⟨o',es',ep',ho',r'⟩:=hm
  rw [ho] at ho';cases ho'
  exact⟨_,es',ep',hL,r'⟩) hok I.bare
theorem Inv.call {g':Array GenState} {t':Nat} {d':Drawn} {ch:List Addr} (I:Inv X pins σ H s) (u:Un (frs X.stack) ch H H' s.heap h') (hok:HOk X.prog X.w H' h') (hg:AllBare g')
  (hch:∀ b∈ch,(b∈X.ex \/ X.s₀.heap.objs.size<=b)/\b≠X.env.locals/\(∀ x c,X.env.cells.lookup x=some c->c≠b)/\∀ p∈X.pn++pins,p.1≠b) :
  Inv X pins σ H' { s with heap:=h',gens:=g',drawn:=d',toks:=t' }:=by
 obtain⟨m,⟨o,es,ep,ho,r⟩,_⟩:=id I.loc
 obtain⟨sl,hL⟩:=u.any ho I.free fun z=>(hch _ z).2.1 rfl
 exact I.step (ch:=ch) hch (fun b o hL hb hc e n=>u.keep b o e n (fun z=>(aor.mp (I.stkSub b z)).elim hL hb) hc) (fun b o _ _ hc e n=>u.any e n hc) (fun b o hc e n=>u.free b o e n hc) (fun b o hc e=>u.there b o e hc) u.tups u.frzs u.tbls (fun m' hm=>by
  obtain⟨o',es',ep',ho',r'⟩:=hm
  rw [ho] at ho';cases ho'
  exact⟨_,es',ep',hL,r'⟩) hok hg
theorem Inv.turned {t':Nat} {it:Addr} (I:Inv X pins σ H s) (k:∀ b o,b≠it->s.heap.get? b=some o->h'.get? b=some o) (hn:H it=none) (hL:it≠X.env.locals)
  (h1:it∈X.ex \/ X.s₀.heap.objs.size<=it) (h2:∀ x c,X.env.cells.lookup x=some c->c≠it) (h3:∀ p∈X.pn++pins,p.1≠it):Inv X pins σ H { s with heap:=h',toks:=t' }:=by
 have nit:∀ b u,H b=some u->b≠it:=fun b u e z=>by rw [z,hn] at e;cases e
 refine I.step (g':=s.gens) (d':=s.drawn) (ch:=[it]) (fun b hb=>?_) (fun b o _ _ hc e _=>k b o (fun z=>hc (by simp [z])) e) (fun b o _ _ hc e _=>⟨o.slots,k b o (fun z=>hc (by simp [z])) e⟩) (fun _ _ _ _ n=>n)
  (fun b o hc e=>⟨o,k b o (fun z=>hc (by simp [z])) e⟩) (fun _ _ e=>e) (fun _ _ _ e=>e) (fun b ps e=>⟨#[],by rw [e];simp⟩) (fun m hm=>?_) (fun b u e=>?_) I.bare
 ·have e:b=it:=by simpa using hb
  subst e
  exact⟨h1,hL,h2,h3⟩
 ·obtain⟨o,es,ep,ho,r⟩:=hm
  exact⟨o,es,ep,k _ o (apC hL) ho,r⟩
 ·refine (I.hok b u e).stay (fun c v hc q=>k c v ?_ q) (fun _ q=>q) fun _ _ q=>q
  rcases hc with z | z
  ·rw [z];exact nit b u e
  ·exact nit c _ z
theorem Inv.tok (I:Inv X pins σ H s) (t:Nat):Inv X pins σ H { s with toks:=t }:=I.un (h':=s.heap) (t':=t) Un.refl I.hok
theorem Inv.kept {t':Nat} (I:Inv X pins σ H s) (k:∀ b u,s.heap.get? b=some u->h'.get? b=some u):Inv X pins σ H { s with heap:=h',toks:=t' }:=I.un (Un.kept k) (I.hok.kept k)
theorem Inv.laid {a:Addr} {o:HO} {t':Nat} (I:Inv X pins σ H s) (k:∀ b u,s.heap.get? b=some u->h'.get? b=some u) (hp:s.heap.objs.size<=a) (new:ObjOk X.prog X.w (upd H a o) h' a o) :
  Inv X pins σ (upd H a o) { s with heap:=h',toks:=t' }:=I.un (Un.laid k hp (I.hok.fresh hp)) (I.hok.laid k hp new)
theorem Inv.write {x e:Addr} {o:HO} {t':Nat} (I:Inv X pins σ H s) (mu:Mut (H x)) (he:e=x \/ H e=some (.own x)) (k:∀ b u,b≠e->s.heap.get? b=some u->h'.get? b=some u) (heo:∃ u,h'.get? e=some u)
  (new:ObjOk X.prog X.w (upd H x o) h' x o):Inv X pins σ (upd H x o) { s with heap:=h',toks:=t' }:=I.un (Un.write mu he k heo) (I.hok.write mu he k heo new)
theorem Inv.pins_of {pins':List (Addr×Obj)} (I:Inv X pins σ H s) (h:∀ p∈pins',s.heap.get? p.1=some p.2/\H p.1=none/\p.1≠X.env.locals/\p.1∉X.fs/\∀ v,p.2.data≠.cell v):Inv X pins' σ H s :=
 ⟨I.ok,I.os,I.bare,I.base,I.loc,I.cell,I.free,I.freeC,fun p hp=>(aou.mp hp).elim (fun z=>I.pin p (aoJ _ z)) (h p),I.hok,I.len⟩
theorem adO {N:List Str} (hN:N.Nodup) {i j:Nat} {x:Str} (a:N[i]?=some x) (b:N[j]?=some x):i=j:=by
 obtain⟨h1,e1⟩:=aoh.mp a
 obtain⟨h2,e2⟩:=aoh.mp b
 exact (aqL hN).mp (e1.trans e2.symm)
theorem ab7 {M:Model} {A:Around} {E:Value->Shared->Prop} {i:Nat} {x:Str} {v:V} {u:Value} {Q:Unit->Shared->Prop} (I:Inv X pins σ H s) (hN:X.N.Nodup) (hi:X.N[i]?=some x) (hx:Loc X.env.scope x) (r:RelV v u)
  (h:∀ s',Inv X pins (σ.set i (some v)) H s'->(∃ a,apU a s.heap s'.heap/\(a=X.env.locals \/ X.env.cells.lookup x=some a))->Q () s') (hf:X.fn x=true \/ X.env.scope.names.lookup x=some .local:=by first | exact .inl rfl | exact .inr rfl | assumption):wpAny M A (storeName X.env x u) Q E s:=by
 obtain⟨m,hn,hl⟩:=id I.loc
 have hcls:(X.env.scope.kind == .class || (X.env.scope.kind == .module && X.env.locals != X.env.globals))=false:=by rw [I.ok.kind];rfl
 have hiσ:i<σ.length:=by rw [I.len];exact (aoh.mp hi).1
 have cne:=I.cne
 have tracked:∀ {a:Addr} {h':Heap},(∃ o,s.heap.get? a=some o/\H a=none)->apU a s.heap h'->HOk X.prog X.w H h':=fun {a h'} ha hs b ob e=>by
  obtain⟨_,_,hfree⟩:=ha
  refine (I.hok b ob e).stay (fun c w' hc q=>(hs.2 c ?_).trans q) (fun _ q=>q) fun _ _ q=>q
  rintro rfl
  rcases hc with rfl | hc
  ·rw [hfree] at e;cases e
  ·rw [hfree] at hc;cases hc
 rcases hx with hk | hk
 ·refine wpAny_storeName_local hk hn (fun h' hn' hs=>?_) hcls
  obtain⟨oL,_,_,hoL,_⟩:=id hn
  refine h _ ⟨I.ok,I.os,I.bare,⟨fun b o e n hb hx=>?_,fun b o e n hb hx=>?_,I.base.free,fun b o e hx=>?_,I.base.tups,I.base.frzs,I.base.tbls⟩,⟨_,hn',fun j y v' e1 e2 e3=>?_⟩,fun y c e=>?_,I.free,I.freeC,fun p hp=>?_,tracked ⟨oL,hoL,I.free⟩ hs,by simpa using I.len⟩ ⟨_,hs,.inl rfl⟩
  ·exact (hs.2 b (aoR (aoL (aoB e) I.ok.above))).trans (I.base.keep b o e n hb hx)
  ·obtain⟨sl,e1⟩:=I.base.slot b o e n hb hx
   exact⟨sl,(hs.2 b (aoR (aoL (aoB e) I.ok.above))).trans e1⟩
  ·obtain⟨o',e1⟩:=I.base.there b o e hx
   exact⟨o',(hs.2 b (aoR (aoL (aoB e) I.ok.above))).trans e1⟩
  ·by_cases hj:j=i
   ·subst hj
    rw [hi] at e1;cases e1
    rw [apG hiσ] at e2
    cases e2
    exact⟨u,r,.inl ⟨hk,by simp⟩⟩
   ·rw [aqg (apC hj)] at e2
    obtain⟨u',r',q⟩:=hl j y v' e1 e2 e3
    refine⟨u',r',?_⟩
    rcases q with⟨k,e⟩ | ⟨k,c,e,z⟩
    ·refine .inl ⟨k,?_⟩
     have:y≠x:=fun e=>hj (adO hN e1 (e▸hi))
     simp [this,e]
    ·exact .inr ⟨k,c,e,z.sameBut hs (cne y c e)⟩
  ·obtain⟨w',z⟩:=I.cell y c e
   exact⟨w',z.sameBut hs (cne y c e)⟩
  ·obtain⟨e,n,ne,nf,d⟩:=I.pin p hp
   exact⟨(hs.2 p.1 ne).trans e,n,ne,nf,d⟩
 ·have hfn:X.fn x=true:=by
   rcases hf with z | z
   ·exact z
   ·rw [z] at hk;cases hk
  obtain⟨c,hc⟩:=I.ok.has x (.inl hk)
  obtain⟨w',z⟩:=I.cell x c hc
  refine wpAny_storeName_cell I.ok.kind hk hc z (fun h' hc' hs=>?_)
  obtain⟨oc,hoc,hocd⟩:=id z
  refine h { s with heap:=h' } ⟨I.ok,I.os,I.bare,⟨fun b o e n hb hx=>?_,fun b o e n hb hx=>?_,I.base.free,fun b o e hx=>?_,I.base.tups,I.base.frzs,I.base.tbls⟩,⟨m,hn.sameBut hs (apC (cne x c hc)),fun j y v' e1 e2 e3=>?_⟩,fun y c' e=>?_,I.free,I.freeC,fun p hp=>?_,tracked ⟨oc,hoc,I.freeC x c hc⟩ hs,by simpa using I.len⟩ ⟨c,hs,.inr hc⟩
  ·exact (hs.2 b (aoR (aoL (aoB e) (I.ok.cab x c hfn hc)))).trans (I.base.keep b o e n hb hx)
  ·obtain⟨sl,e1⟩:=I.base.slot b o e n hb hx
   exact⟨sl,(hs.2 b (aoR (aoL (aoB e) (I.ok.cab x c hfn hc)))).trans e1⟩
  ·obtain⟨o',e1⟩:=I.base.there b o e hx
   exact⟨o',(hs.2 b (aoR (aoL (aoB e) (I.ok.cab x c hfn hc)))).trans e1⟩
  ·by_cases hj:j=i
   ·subst hj
    rw [hi] at e1;cases e1
    rw [apG hiσ] at e2
    cases e2
    exact⟨u,r,.inr ⟨.inl hk,c,hc,hc'⟩⟩
   ·rw [aqg (apC hj)] at e2
    obtain⟨u',r',q⟩:=hl j y v' e1 e2 e3
    refine⟨u',r',?_⟩
    rcases q with q | ⟨k,c',e,z'⟩
    ·exact .inl q
    ·refine .inr ⟨k,c',e,z'.sameBut hs ?_⟩
     rintro rfl
     exact hj (adO hN e1 (I.ok.inj _ _ _ e hc▸hi))
  ·by_cases hcc:c'=c
   ·subst hcc;exact⟨_,hc'⟩
   ·obtain⟨w2,z2⟩:=I.cell y c' e
    exact⟨w2,z2.sameBut hs hcc⟩
  ·obtain⟨e,n,ne,nf,d⟩:=I.pin p hp
   refine⟨(hs.2 p.1 ?_).trans e,n,ne,nf,d⟩
   intro q
   rw [q,hoc] at e
   have q':oc=p.2:=Option.some.inj e
   exact d w' (by rw [<-q'];exact hocd)
theorem adP {M:Model} {A:Around} {E:Value->Shared->Prop} {i:Nat} {x:Str} {v:V} {u:Value} {Q:Unit->Shared->Prop} (I:Inv X pins σ H s) (hN:X.N.Nodup) (hi:X.N[i]?=some x) (hx:Loc X.env.scope x) (r:RelV v u)
  (h:∀ s',Inv X pins (σ.set i (some v)) H s'->Q () s') (hf:X.fn x=true \/ X.env.scope.names.lookup x=some .local:=by first | exact .inl rfl | exact .inr rfl | assumption):wpAny M A (storeName X.env x u) Q E s :=
 ab7 I hN hi hx r (fun s' I' _=>h s' I') hf
theorem Inv.call' {s':Shared} {ch:List Addr} (I:Inv X pins σ H s) (ho:s'.os=s.os) (u:Un (frs X.stack) ch H H' s.heap s'.heap) (hok:HOk X.prog X.w H' s'.heap) (hg:AllBare s'.gens)
  (hch:∀ b∈ch,(b∈X.ex \/ X.s₀.heap.objs.size<=b)/\b≠X.env.locals/\(∀ x c,X.env.cells.lookup x=some c->c≠b)/\∀ p∈X.pn++pins,p.1≠b):Inv X pins σ H' s':=by
 obtain⟨h',g',d',t',o'⟩:=s'
 have e:o'=s.os:=ho
 subst e
 exact I.call (g':=g') (t':=t') (d':=d') u hok hg hch
end
abbrev XK:=Value->Option Addr->Hp->Prop
abbrev St:=List (Option V)
abbrev VK:=V->Hp->Prop
abbrev TE:=St->Hp->VK->Prop
abbrev TT:=St->Hp->(Bool->Hp->Prop)->Prop
abbrev TA:=St->Hp->(List V->Hp->Prop)->Prop
structure Ends where
 nx:St->Hp->Prop
 rt:VK
 bk:St->Hp->Prop:=fun _ _=>False
 ct:St->Hp->Prop:=fun _ _=>False
abbrev TS:=Ends->St->Hp->Prop
def EP (X:Cx) (pins:List (Addr×Obj)) (σ:St) (Q:VK) (u:Value) (s':Shared):Prop:=∃ v H',Inv X pins σ H' s'/\RelV v u/\Q v H'
def TP (X:Cx) (pins:List (Addr×Obj)) (σ:St) (Q:Bool->Hp->Prop) (b:Bool) (s':Shared):Prop:=∃ H',Inv X pins σ H' s'/\Q b H'
def AP (X:Cx) (pins:List (Addr×Obj)) (σ:St) (Q:List V->Hp->Prop) (us:List Value) (s':Shared):Prop:=∃ vs H',Inv X pins σ H' s'/\Vals vs us/\Q vs H'
def SP (X:Cx) (pins:List (Addr×Obj)) (D:Ends) (f:Flow) (s':Shared):Prop :=
 match f with
 | .next=>∃ σ' H',Inv X pins σ' H' s'/\D.nx σ' H'
 | .brk=>∃ σ' H',Inv X pins σ' H' s'/\D.bk σ' H'
 | .cont=>∃ σ' H',Inv X pins σ' H' s'/\D.ct σ' H'
 | .ret u=>∃ v σ' H',Inv X pins σ' H' s'/\RelV v u/\D.rt v H'
def PE (X:Cx) (e:Expr) (t:TE):Prop :=
 ∀ (pins:List (Addr×Obj)) (s:Shared) (σ:St) (H:Hp) (Q:VK),Inv X pins σ H s->t σ H Q->wpAny (model X.prog X.w) X.A (eval e X.env) (EP X pins σ Q) X.xe s
def PT (X:Cx) (e:Expr) (t:TT):Prop :=
 ∀ (pins:List (Addr×Obj)) (s:Shared) (σ:St) (H:Hp) (Q:Bool->Hp->Prop),Inv X pins σ H s->t σ H Q->wpAny (model X.prog X.w) X.A (isTrue e X.env (eval e X.env)) (TP X pins σ Q) X.xe s
def PW (X:Cx) (e:Expr) (t:TT):Prop :=
 ∀ (whole:Sem Value) (pins:List (Addr×Obj)) (s:Shared) (σ:St) (H:Hp) (Q:Bool->Hp->Prop),Inv X pins σ H s->t σ H Q->wpAny (model X.prog X.w) X.A (isTrue e X.env whole) (TP X pins σ Q) X.xe s
theorem PW.pt {X:Cx} {e:Expr} {t:TT} (h:PW X e t):PT X e t:=h _
def PA (X:Cx) (es:List Expr) (t:TA):Prop :=
 ∀ (pos:Pos) (pins:List (Addr×Obj)) (s:Shared) (σ:St) (H:Hp) (Q:List V->Hp->Prop),Inv X pins σ H s->t σ H Q->wpAny (model X.prog X.w) X.A (spliced (backTo pos (starEach es X.env))) (AP X pins σ Q) X.xe s
def PS (X:Cx) (st:Stmt) (t:TS):Prop :=
 ∀ (pins:List (Addr×Obj)) (s:Shared) (σ:St) (H:Hp) (D:Ends),Inv X pins σ H s->t D σ H->wpAny (model X.prog X.w) X.A (exec st X.env) (SP X pins D) X.xe s
def PSs (X:Cx) (st:List Stmt) (t:TS):Prop :=
 ∀ (pins:List (Addr×Obj)) (s:Shared) (σ:St) (H:Hp) (D:Ends),Inv X pins σ H s->t D σ H->wpAny (model X.prog X.w) X.A (execs st X.env) (SP X pins D) X.xe s
theorem thn {α:Type} {t:Sem α} {Q Q':α->Shared->Prop} {M:Model} {A:Around} {E:Value->Shared->Prop} {s:Shared} (h:wpAny M A t Q E s) (hQ:∀ a s,Q a s->Q' a s):wpAny M A t Q' E s:=wpAny_mono h hQ fun _ _ x=>x
section
variable {X:Cx}
def yn (i:Nat):TE:=fun σ H Q=>∃ v,σ[i]?=some (some v)/\Q v H
def tC (v:V):TE:=fun _ H Q=>Q v H
theorem al8 {i:Nat} {x:Str} {pos:Pos} (hN:X.N[i]?=some x) (hv:Vis X.env.scope x) (hd:(x == ("__debug__":Str))=false:=by decide) (hcd:(x == ("__classdict__":Str))=false:=by decide):PE X (.Name x pos) (yn i):=by
 intro pins s σ H Q I h
 obtain⟨v,e,h⟩:=h
 obtain⟨m,hn,hl⟩:=I.loc
 obtain⟨u,r,l⟩:=hl i x v hN e hv
 have fin:EP X pins σ Q u s:=⟨v,H,I,r,h⟩
 rcases l with⟨hk,hm⟩ | ⟨hk,c,hc,hcell⟩
 ·exact wpAny_Name (wpAny_loadName_local I.ok.kind hk hn hm fin) hd
 ·rcases hk with hk | hk
  ·exact wpAny_Name (wpAny_loadName_cell I.ok.kind hk hc hcell fin) hd
  ·exact wpAny_Name (wpAny_loadName_free I.ok.kind hk hc hcell fin hcd) hd
theorem ze {i j pos}:PE X (.Constant (.int i) j pos) (tC (.int i)):=fun _ _ _ H _ I h=>wpAny_Constant_int ⟨.int i,H,I.tok _,⟨_,rfl⟩,h⟩
theorem qJ {b j pos}:PE X (.Constant (.bool b) j pos) (tC (.bl b)):=fun _ _ _ H _ I h=>Constant_bool ⟨.bl b,H,I,rfl,h⟩
theorem ae5 {j pos}:PE X (.Constant .none j pos) (tC .non):=fun _ _ _ H _ I h=>Constant_none ⟨.non,H,I,rfl,h⟩
theorem jQ {x j pos}:PE X (.Constant (.str x) j pos) (tC (.str x)):=fun _ _ _ H _ I h=>Calls.Constant_str ⟨.str x,H,I.tok _,⟨_,rfl⟩,h⟩
def Gl (X:Cx) (x:Str):Prop:=X.env.kindOf x=some .globalImplicit
theorem acT {E:Value->Shared->Prop} {pins:List (Addr×Obj)} {s:Shared} {σ:St} {H:Hp} {x:Str} {u:Value} {pos:Pos} {Q:Value->Shared->Prop} (I:Inv X pins σ H s) (hg:Gl X x) (hm:X.mg x=some u) (h:Q u s)
  (hd:(x == ("__debug__":Str))=false:=by decide):wpAny (model X.prog X.w) X.A (eval (.Name x pos) X.env) Q E s :=
 aq3 I.ok.kind hg (Calls.loadGlobal_global (by rw [I.ok.glob];exact I.mod.glob.keeps I.bk) hm h) hd
theorem aa5 {E:Value->Shared->Prop} {pins:List (Addr×Obj)} {s:Shared} {σ:St} {H:Hp} {x:Str} {u:Value} {pos:Pos} {Q:Value->Shared->Prop} (I:Inv X pins σ H s) (hg:Gl X x) (hm:X.mg x=none) (hv:bootBuiltins x=some u) (h:Q u s)
  (hn:x ≠ "__name__":=by decide) (hd:(x == ("__debug__":Str))=false:=by decide):wpAny (model X.prog X.w) X.A (eval (.Name x pos) X.env) Q E s:=by
 obtain⟨mb,h1,h2⟩:=I.mod.blt
 exact aq3 I.ok.kind hg (Calls.loadGlobal_builtin (by rw [I.ok.glob];exact I.mod.glob.keeps I.bk) hm (by rw [I.ok.blt];exact h1.keeps I.bk) ((h2 x hn).trans hv) h) hd
theorem akl {x:Str} {v:V} {u:Value} {pos:Pos} (hg:Gl X x) (hm:X.mg x=some u) (r:RelV v u) (hd:(x == ("__debug__":Str))=false:=by decide):PE X (.Name x pos) (tC v) :=
 fun _ _ _ H _ I h=>acT I hg hm ⟨v,H,I,r,h⟩ hd
variable {a b:Expr} {ta tb:TE} {pos:Pos}
variable {tA tB':TT} {rest:List Expr}
def akm (t u:TT):TT:=fun σ H Q=>t σ H fun c H1=>if c=true then u σ H1 Q else Q false H1
def tOr (t u:TT):TT:=fun σ H Q=>t σ H fun c H1=>if c=true then Q true H1 else u σ H1 Q
def anp (t:TT):TT:=fun σ H Q=>t σ H fun c H1=>Q (!c) H1
theorem jB (ha:PT X a tA):PW X (.BoolOp .And [a] pos) tA:=by
 intro wh pins s σ H Q I h
 refine isTrue_and (thn (ha pins s σ H Q I h) fun c s1 e=>?_)
 cases c with
 | true=>exact isTrue_and_nil e
 | false=>exact e
theorem aih (ha:PT X a tA):PW X (.BoolOp .Or [a] pos) tA:=by
 intro wh pins s σ H Q I h
 refine isTrue_or (thn (ha pins s σ H Q I h) fun c s1 e=>?_)
 cases c with
 | false=>exact isTrue_or_nil e
 | true=>exact e
theorem qg (ha:PT X a tA) (hb:PW X (.BoolOp .And (b :: rest) pos) tB'):PW X (.BoolOp .And (a :: b :: rest) pos) (akm tA tB'):=by
 intro wh pins s σ H Q I h
 refine isTrue_and (thn (ha pins s σ H _ I h) fun c s1 ⟨H1,I1,q1⟩=>?_)
 cases c with
 | true=>exact hb wh pins s1 σ H1 Q I1 q1
 | false=>exact⟨H1,I1,q1⟩
theorem alJ (ha:PT X a tA) (hb:PW X (.BoolOp .Or (b :: rest) pos) tB'):PW X (.BoolOp .Or (a :: b :: rest) pos) (tOr tA tB'):=by
 intro wh pins s σ H Q I h
 refine isTrue_or (thn (ha pins s σ H _ I h) fun c s1 ⟨H1,I1,q1⟩=>?_)
 cases c with
 | true=>exact⟨H1,I1,q1⟩
 | false=>exact hb wh pins s1 σ H1 Q I1 q1
theorem aa6 (ha:PT X a tA):PT X (.UnaryOp .Not a pos) (anp tA):=by
 intro pins s σ H Q I h
 exact isTrue_not (ha pins s σ H (fun c H1=>Q (!c) H1) I h)
def aii (ta tb:TE):TE:=fun σ H Q=>ta σ H fun x H1=>∃ c,x=.bl c/\if c=true then tb σ H1 Q else Q (.bl false) H1
def alK (ta:TE):TE:=fun σ H Q=>ta σ H fun x H1=>∃ c,x=.bl c/\Q (.bl (!c)) H1
theorem aa7 {op} {t:TE} (h:PE X a t):PE X (.BoolOp op [a] pos) t:=fun pins s σ H Q I hw=>BoolOp_one (h pins s σ H Q I hw)
theorem vK (ha:PE X a ta) (hb:PE X (.BoolOp .And (b :: rest) pos) tb):PE X (.BoolOp .And (a :: b :: rest) pos) (aii ta tb):=by
 intro pins s σ H Q I h
 refine BoolOp_and (thn (ha pins s σ H _ I h) fun v s1 ⟨x,H1,I1,r1,q1⟩=>?_)
 obtain⟨c,rfl,q1⟩:=q1
 cases r1
 refine wpAny_truthy_bool ?_
 cases c with
 | true=>exact hb pins s1 σ H1 Q I1 q1
 | false=>exact⟨.bl false,H1,I1,rfl,q1⟩
theorem al9 (ha:PE X a ta):PE X (.UnaryOp .Not a pos) (alK ta):=by
 intro pins s σ H Q I h
 refine UnaryOp_ (thn (ha pins s σ H _ I h) fun v s1 ⟨x,H1,I1,r1,q1⟩=>?_)
 obtain⟨c,rfl,q1⟩:=q1
 cases r1
 exact not_of (wpAny_truthy_bool ⟨.bl (!c),H1,I1,rfl,q1⟩)
def tIf (t:TT) (ta tb:TE):TE:=fun σ H Q=>t σ H fun c H1=>if c=true then ta σ H1 Q else tb σ H1 Q
theorem qK {c:Expr} (hc:PT X c tA) (ha:PE X a ta) (hb:PE X b tb):PE X (.IfExp c a b pos) (tIf tA ta tb):=by
 intro pins s σ H Q I h
 refine wpAny_IfExp (thn (hc pins s σ H _ I h) fun d s1 ⟨H1,I1,q1⟩=>?_)
 cases d with
 | true=>exact ha pins s1 σ H1 Q I1 q1
 | false=>exact hb pins s1 σ H1 Q I1 q1
end
def SqL (K:aol) (H:Hp) (a:Addr) (xs:List V):Prop :=
 Rd H a (.lst xs) \/
  ∃ (o:Obj) (its:Array Value) (n:Nat),K.lookup a=some o/\o.cls=.type "list"/\o.dict=none/\o.data=.seq its n/\its.size<=sizeLine/\Vals xs its.toList
def SqT (K:aol) (H:Hp) (a:Addr) (xs:List V):Prop :=
 Rd H a (.tup xs) \/
  ∃ (o:Obj) (its:Array Value) (n:Nat),K.lookup a=some o/\o.cls=.type "tuple"/\o.data=.seq its n/\its.size<=sizeLine/\Vals xs its.toList
def anW:Value->Option V
 | .none=>some .non
 | .bool b=>some (.bl b)
 | .int i _=>some (.int i)
 | .str x _=>some (.str x)
 | .bytes b _=>some (.byt b)
 | .float b _=>some (.flt b)
 | .ref a=>some (.ref a)
 | .type n=>some (.ty n)
 | _=>none
theorem RelV.abs {x:V} {u:Value} (r:RelV x u):anW u=some x:=by
 cases x with
 | non=>cases r;rfl
 | bl _=>cases r;rfl
 | int _=>obtain⟨t,rfl⟩:=r;rfl
 | str _=>obtain⟨t,rfl⟩:=r;rfl
 | byt _=>obtain⟨t,rfl⟩:=r;rfl
 | flt _=>obtain⟨t,rfl⟩:=r;rfl
 | ref _=>cases r;rfl
 | ty _=>cases r;rfl
theorem RelV.inj {x y:V} {u:Value} (r:RelV x u) (q:RelV y u):x=y:=Option.some.inj (r.abs.symm.trans q.abs)
theorem Vals.inj:∀ {xs ys:List V} {us:List Value},Vals xs us->Vals ys us->xs=ys
 | _,_,_,.nil,.nil=>rfl
 | _,_,_,.cons r t,.cons r' t'=>by rw [r.inj r',Vals.inj t t']
section
variable {X:Cx} {pins:List (Addr×Obj)} {σ:St} {H:Hp} {s:Shared} {a:Addr} {xs ys:List V}
theorem SqL.of {K:aol} (h:H a=some (.lst xs)):SqL K H a xs:=.inl (.inl h)
theorem SqT.of {K:aol} (h:H a=some (.tup xs)):SqT K H a xs:=.inl (.inl h)
theorem Inv.list (I:Inv X pins σ H s) (h:SqL X.K H a xs):∃ its:List Value,Vals xs its/\PlainL s.heap a its.toArray/\xs.length<=sizeLine:=by
 rcases h with h | ⟨o,its,n,hk,hc,hd,hs,hz,r⟩
 ·obtain⟨z,its,n,r,e⟩:=h.ok I.hok
  exact⟨its,r,⟨_,n,e,rfl,rfl,rfl⟩,z⟩
 ·refine⟨its.toList,r,⟨o,n,I.kIn a o hk,hc,hd,by simpa using hs⟩,?_⟩
  have e:=r.length
  simp only [aoz] at e
  omega
theorem Inv.tuple (I:Inv X pins σ H s) (h:SqT X.K H a xs):∃ its:List Value,Vals xs its/\IsTup s.heap a its.toArray/\xs.length<=sizeLine:=by
 rcases h with h | ⟨o,its,n,hk,hc,hs,hz,r⟩
 ·obtain⟨z,its,r,p⟩:=h.ok I.hok
  exact⟨its,r,p,z⟩
 ·refine⟨its.toList,r,⟨o,I.kIn a o hk,hc,n,by simpa using hs⟩,?_⟩
  have e:=r.length
  simp only [aoz] at e
  omega
theorem Inv.list_inj (I:Inv X pins σ H s) (h:SqL X.K H a xs) (h':SqL X.K H a ys):xs=ys:=by
 obtain⟨its,r,⟨o,n,e,_,_,d⟩,_⟩:=I.list h
 obtain⟨its',r',⟨o',n',e',_,_,d'⟩,_⟩:=I.list h'
 rw [e] at e';cases e'
 rw [d] at d'
 injection d' with d1 _
 have:its=its':=by simpa using congrArg Array.toList d1
 subst this
 exact r.inj r'
theorem Inv.tuple_inj (I:Inv X pins σ H s) (h:SqT X.K H a xs) (h':SqT X.K H a ys):xs=ys:=by
 obtain⟨its,r,⟨o,e,_,n,d⟩,_⟩:=I.tuple h
 obtain⟨its',r',⟨o',e',_,n',d'⟩,_⟩:=I.tuple h'
 rw [e] at e';cases e'
 rw [d] at d'
 injection d' with d1 _
 have:its=its':=by simpa using congrArg Array.toList d1
 subst this
 exact r.inj r'
end
abbrev Cx.wish (X:Cx) (E:Value->Shared->Prop):Cx:={ X with xe:=E }
abbrev Cx.nox (X:Cx):Cx:=X.wish fun _ _=>False
theorem Cx.Ok.wish {X:Cx} (ok:X.Ok) (E:Value->Shared->Prop):(X.wish E).Ok :=
 ⟨ok.mod,ok.kind,ok.glob,ok.blt,ok.above,ok.inj,ok.has,ok.cab,ok.hd,ok.frames,ok.stk,ok.exf,ok.bs,ok.bsz,ok.noex,ok.exfs,ok.funs,ok.frf⟩
theorem Cx.Ok.unwish {X:Cx} {E:Value->Shared->Prop} (ok:(X.wish E).Ok):X.Ok :=
 ⟨ok.mod,ok.kind,ok.glob,ok.blt,ok.above,ok.inj,ok.has,ok.cab,ok.hd,ok.frames,ok.stk,ok.exf,ok.bs,ok.bsz,ok.noex,ok.exfs,ok.funs,ok.frf⟩
section
variable {X:Cx} {pins:List (Addr×Obj)} {σ:St} {H:Hp} {s:Shared} {E:Value->Shared->Prop}
theorem Inv.wish (I:Inv X pins σ H s) (E:Value->Shared->Prop):Inv (X.wish E) pins σ H s:=⟨I.ok.wish E,I.os,I.bare,I.base,I.loc,I.cell,I.free,I.freeC,I.pin,I.hok,I.len⟩
theorem Inv.unwish (I:Inv (X.wish E) pins σ H s):Inv X pins σ H s:=⟨I.ok.unwish,I.os,I.bare,I.base,I.loc,I.cell,I.free,I.freeC,I.pin,I.hok,I.len⟩
theorem SP.unwish {D:Ends} {f:Flow} {s':Shared} (h:SP (X.wish E) pins D f s'):SP X pins D f s':=by
 cases f with
 | next=>obtain⟨σ',H',I,q⟩:=h;exact⟨σ',H',I.unwish,q⟩
 | brk=>obtain⟨σ',H',I,q⟩:=h;exact⟨σ',H',I.unwish,q⟩
 | cont=>obtain⟨σ',H',I,q⟩:=h;exact⟨σ',H',I.unwish,q⟩
 | ret u=>obtain⟨v,σ',H',I,r,q⟩:=h;exact⟨v,σ',H',I.unwish,r,q⟩
theorem PSs.nox {st:List Stmt} {t:TS} (h:PSs X.nox st t):PSs X st t:=fun pins s σ H D I hw =>
 wpAny_mono (h pins s σ H D (I.wish _) hw) (fun _ _ q=>q.unwish) fun _ _ z=>ap3 z
end
section
variable {X:Cx} {st:Stmt} {rest:List Stmt} {t u:TS} {e:Expr} {te:TE} {pos:Pos}
def afY:TS:=fun D σ H=>D.nx σ H
def qL (t u:TS):TS:=fun D σ H=>t { D with nx:=u D } σ H
theorem zV:PSs X [] afY:=fun _ _ σ H _ I h=>wpAny_execs_nil ⟨σ,H,I,h⟩
theorem zc (h1:PS X st t) (h2:PSs X rest u):PSs X (st :: rest) (qL t u):=by
 intro pins s σ H D I h
 refine wpAny_execs_cons (thn (h1 pins s σ H { D with nx:=u D } I h) fun f s1 q=>?_)
 cases f with
 | next =>
  obtain⟨σ',H',I',q⟩:=q
  exact h2 pins s1 σ' H' D I' q
 | ret v=>exact q
 | brk=>exact q
 | cont=>exact q
theorem zg (h1:PS X st t):PSs X [st] t:=by
 intro pins s σ H D I h
 refine wpAny_execs_cons (thn (h1 pins s σ H D I h) fun f s1 q=>?_)
 cases f with
 | next=>exact wpAny_execs_nil q
 | ret v=>exact q
 | brk=>exact q
 | cont=>exact q
theorem Inv.quiet {pins:List (Addr×Obj)} {σ:St} {H:Hp} {s:Shared} (I:Inv X pins σ H s):interactive X.env=false:=by simp [interactive,I.ok.kind]
def afZ (te:TE):TS:=fun D σ H=>te σ H fun _ H1=>D.nx σ H1
theorem yp (he:PE X e te) (hs:swapsWith e none pos.line X.env=pure false:=by rfl):PS X (.Expr e pos) (afZ te):=by
 intro pins s σ H D I h
 exact wpAny_Expr_any (thn (he pins s σ H _ I h) fun v s1 ⟨x,H1,I1,r1,q1⟩=>⟨σ,H1,I1,q1⟩) I.quiet hs
def adQ (te:TE):TS:=fun D σ H=>te σ H D.rt
theorem zt (he:PE X e te):PS X (.Return (some e) pos) (adQ te):=by
 intro pins s σ H D I h
 exact wpAny_Return_some (thn (he pins s σ H _ I h) fun v s1 ⟨x,H1,I1,r1,q1⟩=>⟨x,σ,H1,I1,r1,q1⟩)
def akn (c:TT) (t u:TS):TS:=fun D σ H=>c σ H fun b H1=>if b=true then t D σ H1 else u D σ H1
theorem yA {c:Expr} {a b:List Stmt} {tc:TT} (hc:PT X c tc) (ha:PSs X a t) (hb:PSs X b u):PS X (.If c a b pos) (akn tc t u):=by
 intro pins s σ H D I h
 refine wpAny_If (thn (hc pins s σ H _ I h) fun d s1 ⟨H1,I1,q1⟩=>?_)
 cases d with
 | true=>exact ha pins s1 σ H1 D I1 q1
 | false=>exact hb pins s1 σ H1 D I1 q1
def ama:TS:=fun _ _ _=>False
theorem adR:PS X st ama:=fun _ _ _ _ _ _ h=>h.elim
end
abbrev TG:=V->St->Hp->(St->Hp->Prop)->Prop
abbrev TGs:=List V->St->Hp->(St->Hp->Prop)->Prop
def PG (X:Cx) (target:Expr) (t:TG):Prop :=
 ∀ (pins:List (Addr×Obj)) (s:Shared) (σ:St) (H:Hp) (v:V) (u:Value) (Q:St->Hp->Prop),Inv X pins σ H s->RelV v u->t v σ H Q ->
  wpAny (model X.prog X.w) X.A (assign target X.env u) (fun _ s'=>∃ σ' H',Inv X pins σ' H' s'/\Q σ' H') X.xe s
def PGs (X:Cx) (ts:List Expr) (t:TGs):Prop :=
 ∀ (pins:List (Addr×Obj)) (s:Shared) (σ:St) (H:Hp) (vs:List V) (us:List Value) (Q:St->Hp->Prop),Inv X pins σ H s->Vals vs us->t vs σ H Q ->
  wpAny (model X.prog X.w) X.A (assignInOrder ((assignEach ts X.env).map (·.2)) us) (fun _ s'=>∃ σ' H',Inv X pins σ' H' s'/\Q σ' H') X.xe s
abbrev amb:=V->V->V->Hp->(Hp->Prop)->Prop
def ako (X:Cx) (t:amb):Prop :=
 ∀ (pins:List (Addr×Obj)) (s:Shared) (σ:St) (H:Hp) (o i v:V) (ov iv u:Value) (Q:Hp->Prop),Inv X pins σ H s->RelV o ov->RelV i iv->RelV v u->t o i v H Q ->
  wpAny (model X.prog X.w) X.A (setItem ov iv u) (fun _ s'=>∃ H',Inv X pins σ H' s'/\Q H') X.xe s
section
variable {X:Cx} {pos:Pos}
def yW (i:Nat):TG:=fun v σ H Q=>Q (σ.set i (some v)) H
theorem zf {i:Nat} {x:Str} (hN:X.N.Nodup) (hi:X.N[i]?=some x) (hx:Loc X.env.scope x) (hf:X.fn x=true \/ X.env.scope.names.lookup x=some .local:=by first | exact .inl rfl | exact .inr rfl | assumption):PG X (.Name x pos) (yW i):=by
 intro pins s σ H v u Q I r h
 exact wpAny_assign_Name (adP I hN hi hx r (fun s' I'=>⟨_,H,I',h⟩) hf)
def amc:TGs:=fun vs σ H Q=>vs=[]/\Q σ H
def af0 (t:TG) (u:TGs):TGs:=fun vs σ H Q=>∃ v r,vs=v :: r/\t v σ H fun σ' H'=>u r σ' H' Q
theorem zH:PGs X [] amc:=by
 intro pins s σ H vs us Q I r h
 obtain⟨e,h⟩:=h
 subst e
 cases r
 exact assignInOrder_nil ⟨σ,H,I,h⟩
theorem zh {e:Expr} {es:List Expr} {t:TG} {u:TGs} (h1:PG X e t) (h2:PGs X es u)
  (hs:(assignEach (e :: es) X.env).map (·.2)=assign e X.env :: (assignEach es X.env).map (·.2):=by rfl):PGs X (e :: es) (af0 t u):=by
 intro pins s σ H vs us Q I r h
 obtain⟨v,vr,e1,h⟩:=h
 subst e1
 cases r with
 | cons r rr =>
  rw [hs]
  refine assignInOrder_cons (thn (h1 pins s σ H _ _ _ I r h) fun _ s1 ⟨σ1,H1,I1,q1⟩=>?_)
  exact h2 pins s1 σ1 H1 _ _ Q I1 rr q1
def akp (K:aol) (n:Nat) (t:TGs):TG:=fun v σ H Q=>∃ a xs,v=.ref a/\SqT K H a xs/\xs.length=n/\t xs σ H Q
theorem amd {es:List Expr} {k:Nat} {t:TGs} {n:Nat} (hc:X.calm=true) (h:PGs X es t)
  (hn:(assignEach es X.env).length=n:=by rfl) (hst:(assignEach es X.env).findIdx? (·.1)=none:=by rfl):PG X (.Tuple es k pos) (akp X.K n t):=by
 intro pins s σ H v u Q I r hw
 obtain⟨a,xs,e1,hq,hl,hw⟩:=hw
 subst e1
 cases r
 obtain⟨its,rv,ht,hz⟩:=I.tuple hq
 refine assign_Tuple_tuple (I.ok.hd hc) ht (by simp [hn,<- hl,rv.length]) hst fun h' hx=>?_
 have I1:Inv X pins σ H { s with heap:=h' }:=I.kept (t':=s.toks) fun b o e=>hx b o (aoR (aoB e)) e
 exact h pins _ σ H xs _ Q I1 (by simpa using rv) hw
def adS (to ti:TE) (t:amb):TG:=fun v σ H Q=>to σ H fun o H1=>ti σ H1 fun i H2=>t o i v H2 fun H3=>Q σ H3
theorem aan {o i:Expr} {to ti:TE} {t:amb} (ho:PE X o to) (hi:PE X i ti) (hs:ako X t)
  (ha:∀ v,assign (.Subscript o i pos) X.env v=(do
   let ov <- holding [v] (eval o X.env)
   let iv <- holding [v,ov] (eval i X.env)
   standAt pos
   holding [v,ov,iv] (setItem ov iv v)
   release [v,ov,iv] []):=by intro _;rfl):PG X (.Subscript o i pos) (adS to ti t):=by
 intro pins s σ H v u Q I r h
 rw [ha]
 refine wpAny_bind (wpAny_holding (thn (ho pins s σ H _ I h) fun ov s1 ⟨x,H1,I1,r1,q1⟩=>?_))
 refine wpAny_bind (wpAny_holding (thn (hi pins s1 σ H1 _ I1 q1) fun iv s2 ⟨y,H2,I2,r2,q2⟩=>?_))
 refine wpAny_bind (wpAny_standAt (wpAny_bind (wpAny_holding (thn (hs pins s2 σ H2 x y v ov iv u _ I2 r1 r2 r q2) fun _ s3 ⟨H3,I3,q3⟩=>?_))))
 exact wpAny_release ⟨σ,H3,I3,q3⟩
def jR (te:TE) (g:TG):TS:=fun D σ H=>te σ H fun x H1=>g x σ H1 D.nx
theorem ya {tg e:Expr} {te:TE} {g:TG} (he:PE X e te) (hg:PG X tg g) (hs:swapsWithSole [tg] e pos.line X.env=pure false:=by rfl) (hw:swappedStores [tg] e X.env=pure none:=by rfl)
  (h1:(assignEach [tg] X.env).map (·.2)=[assign tg X.env]:=by rfl):PS X (.Assign [tg] e pos) (jR te g):=by
 intro pins s σ H D I h
 refine wpAny_Assign_stores (thn (he pins s σ H _ I h) fun v s1 ⟨x,H1,I1,r1,q1⟩=>?_) hs hw
 rw [h1]
 exact thn (hg pins s1 σ H1 x v _ I1 r1 q1) fun _ s2 q=>q
theorem zB {i:Nat} {x:Str} {e:Expr} {te:TE} {pos':Pos} (hN:X.N.Nodup) (hi:X.N[i]?=some x) (hx:Loc X.env.scope x) (he:PE X e te) (hs:swapsWith e (some (.Name x pos')) pos.line X.env=pure false:=by rfl) (hf:X.fn x=true \/ X.env.scope.names.lookup x=some .local:=by first | exact .inl rfl | exact .inr rfl | assumption) :
  PS X (.Assign [.Name x pos'] e pos) (jR te (yW i)):=by
 intro pins s σ H D I h
 refine wpAny_Assign_Name (thn (he pins s σ H _ I h) fun v s1 ⟨y,H1,I1,r1,q1⟩=>?_) hs
 exact adP I1 hN hi hx r1 (fun s2 I2=>⟨_,H1,I2,q1⟩) hf
end
section
variable {X:Cx} {pos:Pos}
def aij (c:TT) (tb:TS):TS:=fun D σ H=>∃ W:Nat->St->Hp->Prop,(∃ m,W m σ H)/\∀ m σ H,W m σ H ->
 c σ H fun b H1=>if b=true then ∃ N:St->Hp->Prop,(∀ σ' H',N σ' H'->∃ m',m'<m/\W m' σ' H')/\tb { D with nx:=N,ct:=N,bk:=D.nx } σ H1 else D.nx σ H1
theorem adT {c:Expr} {body:List Stmt} {tc:TT} {tb:TS} (hp:PassesOwn (model X.prog X.w) X.A X.env X.xe) (hc:PT X c tc) (hb:PSs X body tb):PS X (.While c body [] pos) (aij tc tb):=by
 intro pins s σ H D I h
 obtain⟨W,⟨m0,w0⟩,turn⟩:=h
 refine wpAny_While (codeAny_whileLoop (fun n s'=>∃ σ' H',Inv X pins σ' H' s'/\W n σ' H') ?_ m0 ⟨σ,H,I,w0⟩)
 rintro n s1 ⟨σ1,H1,I1,w1⟩
 refine wpAny_passesOwn hp (thn (hc pins s1 σ1 H1 _ I1 (turn n σ1 H1 w1)) fun b s2 ⟨H2,I2,q2⟩=>?_)
 cases b with
 | true =>
  obtain⟨N,hN,q2⟩:=q2
  rw [if_pos rfl]
  refine wpAny_passesOwn hp (thn (hb pins s2 σ1 H2 _ I2 q2) fun f s3 q3=>?_)
  cases f with
  | next =>
   obtain⟨σ3,H3,I3,n3⟩:=q3
   obtain⟨m',hm,w3⟩:=hN σ3 H3 n3
   exact⟨m',hm,σ3,H3,I3,w3⟩
  | cont =>
   obtain⟨σ3,H3,I3,n3⟩:=q3
   obtain⟨m',hm,w3⟩:=hN σ3 H3 n3
   exact⟨m',hm,σ3,H3,I3,w3⟩
  | brk=>exact q3
  | ret v=>exact q3
 | false =>
  rw [if_neg aoi]
  exact wpAny_execs_nil ⟨σ1,H2,I2,q2⟩
end
structure It where
 go:Nat->Hp->Prop
 yld:Nat->Hp->V->Hp->Prop
 stop:Nat->Hp->Prop
def vZ (X:Cx) (pins:List (Addr×Obj)) (H:Hp) (b:Addr):Prop :=
 H b=none/\b≠X.env.locals/\b∉X.fs/\(b∈X.ex \/ X.s₀.heap.objs.size<=b)/\(∀ x c,X.env.cells.lookup x=some c->c≠b)/\∀ p∈X.pn++pins,p.1≠b
theorem Inv.fpOk {X:Cx} {pins:List (Addr×Obj)} {σ:St} {H H':Hp} {s:Shared} {b:Addr} (I:Inv X pins σ H s) (hb:s.heap.objs.size<=b) (hn:H' b=none):vZ X pins H' b:=by
 refine⟨hn,aq1 (aoL I.lt hb),I.nofs hb,.inr (aoN I.sz hb),fun x c e z=>?_,fun p hp z=>?_⟩
 ·obtain⟨v,q⟩:=I.cell x c e
  exact absurd (aoL q.lt (by rw [z];exact hb)) (apK _)
 ·exact absurd (aoL (aoB (I.pin p hp).1) (by rw [z];exact hb)) (apK _)
structure Turn (P:Program) (w:World) (K:aol) (tg:Expr) (J:It) (fp:List Addr) (it:Addr) (tn:Nat->Heap->Prop):Prop where
 mem:it∈fp
 obj:∀ i h,tn i h->∀ b∈fp,∃ o,h.get? b=some o/\∀ v,o.data≠.cell v
 keep:∀ i h h',tn i h->(∀ b∈fp,∀ o,h.get? b=some o->h'.get? b=some o)->tn i h'
 item:∀ (X:Cx),X.prog=P->X.w=w->X.K=K->X.calm=true->∀ (i:Nat) (pins:List (Addr×Obj)) (s:Shared) (σ:St) (H:Hp) (E:Value->Shared->Prop),Inv X pins σ H s->(∀ b∈fp,vZ X pins H b)->tn i s.heap->J.go i H ->
  wpAny (model P w) X.A (pyNext (.ref it)) (fun r s1=>∃ u,r=some u /\
   wpAny (model P w) X.A (letOwnedTupleGo tg (.ref it) u) (fun _ s2=>∃ x H',Inv X pins σ H' s2/\RelV x u/\J.yld i H x H'/\tn (i+1) s2.heap/\∀ b∈fp,H' b=none) E s1) E s
 done:∀ (X:Cx),X.prog=P->X.w=w->X.K=K->X.calm=true->∀ (i:Nat) (pins:List (Addr×Obj)) (s:Shared) (σ:St) (H:Hp) (E:Value->Shared->Prop),Inv X pins σ H s->(∀ b∈fp,vZ X pins H b)->tn i s.heap->J.stop i H ->
  wpAny (model P w) X.A (pyNext (.ref it)) (fun r s1=>r=none/\Inv X pins σ H s1) E s
 self:∀ (A:Around) (i:Nat) (s:Shared) (Q:Value->Shared->Prop) (E:Value->Shared->Prop),tn i s.heap->Q (.ref it) s->wpAny (model P w) A (pyIter (.ref it)) Q E s
abbrev TI:=St->Hp->(It->Hp->Prop)->Prop
def PIE (X:Cx) (pins:List (Addr×Obj)) (σ:St) (tg:Expr) (R:It->Hp->Prop) (itv:Value) (s2:Shared):Prop :=
 ∃ (it:Addr) (fp:List Addr) (tn:Nat->Heap->Prop) (J:It) (H':Hp),itv=.ref it/\Inv X pins σ H' s2/\Turn X.prog X.w X.K tg J fp it tn/\tn 0 s2.heap/\(∀ b∈fp,vZ X pins H' b)/\R J H'
def PI (X:Cx) (tg iter:Expr) (wi:TI):Prop :=
 ∀ (pins:List (Addr×Obj)) (s:Shared) (σ:St) (H:Hp) (R:It->Hp->Prop),Inv X pins σ H s->wi σ H R ->
  wpAny (model X.prog X.w) X.A (eval iter X.env) (fun v s1=>wpAny (model X.prog X.w) X.A (pyIter v) (PIE X pins σ tg R) X.xe s1) X.xe s
theorem aik {M:Model} {A:Around} {E:Value->Shared->Prop} {s:Shared} {tg:Expr} {it:Addr} {u:Value} {o:Obj} {n:String} {vs:Array Value} {Q:Unit->Shared->Prop} (ho:s.heap.get? it=some o) (hc:o.cls=.type n) (hd:o.data=.fields vs)
  (hn:["enumerate","zip","dict_itemiterator","dict_reverseitemiterator","odict_iterator","itertools.zip_longest","itertools.pairwise"].contains n=false) (hQ:Q () s):wpAny M A (letOwnedTupleGo tg (.ref it) u) Q E s:=by
 unfold letOwnedTupleGo
 cases tg <;> first
  | exact wpAny_pure hQ
  | (cases u <;> first
    | exact wpAny_pure hQ
    | (refine wpAny_bind (wpAny_load ho ?_)
       rw [hc,hd]
       show wpAny M A (if (["enumerate","zip","dict_itemiterator","dict_reverseitemiterator","odict_iterator","itertools.zip_longest","itertools.pairwise"].contains n && vs[0]? == some (rawInt _))=true then _ else _) Q E s
       rw [if_neg (by intro h;rw [hn,apw] at h;cases h)]
       exact wpAny_pure hQ))
def Itl (K:aol) (a:Addr):It :=
 ⟨fun i H=>∃ xs x,SqL K H a xs/\xs[i]?=some x,fun i H x H'=>H'=H/\∀ xs,SqL K H a xs->xs[i]?=some x,fun i H=>∃ xs,SqL K H a xs/\xs.length<=i⟩
def Itt (K:aol) (a:Addr):It :=
 ⟨fun i H=>∃ xs x,SqT K H a xs/\xs[i]?=some x,fun i H x H'=>H'=H/\∀ xs,SqT K H a xs->xs[i]?=some x,fun i H=>∃ xs,SqT K H a xs/\xs.length<=i⟩
def Itr (lo:Int) (n:Nat):It:=⟨fun i _=>i<n,fun i H x H'=>H'=H/\x=.int (lo+i),fun i _=>n<=i⟩
theorem ahc {P:Program} {w:World} {K:aol} {tg:Expr} (a it:Addr):Turn P w K tg (Itl K a) [it] it (fun i h=>h.IsListIter it a i) where
 mem:=by simp
 obj:=fun i h st b hb=>by
  have e:b=it:=by simpa using hb
  subst e
  obtain⟨o,e,c,d⟩:=st
  exact⟨o,e,fun v z=>by rw [d] at z;cases z⟩
 keep:=fun i h h' st k=>st.at fun o e=>k it (by simp) o e
 item:=by
  intro X hP hw hK hc i pins s σ H E I hf st hg
  subst hP hw hK
  obtain⟨xs,x,hq,hx⟩:=hg
  obtain⟨its,rv,p,hz⟩:=I.list hq
  obtain⟨u,hu,ru⟩:=rv.get hx
  obtain⟨f0,f1,f2,f3,f4,f5⟩:=hf it (by simp)
  refine wpAny_pyNext_list_item st p.isList (x:=u) (by simpa using hu) fun h' st' sb=>?_
  have I1:Inv X pins σ H { s with heap:=h' }:=I.turned (t':=s.toks) (fun b o hb e=>(sb.2 b hb).trans e) f0 f1 f3 f4 f5
  obtain⟨o,e,c,d⟩:=id st'
  exact⟨u,rfl,aik (s:={ s with heap:=h' }) e c d (by decide) ⟨x,H,I1,ru,⟨rfl,fun ys hy=>by rw [I.list_inj hy hq];exact hx⟩,st',fun b hb=>(hf b hb).1⟩⟩
 done:=by
  intro X hP hw hK hc i pins s σ H E I hf st hg
  subst hP hw hK
  obtain⟨xs,hq,hx⟩:=hg
  obtain⟨its,rv,p,hz⟩:=I.list hq
  obtain⟨f0,f1,f2,f3,f4,f5⟩:=hf it (by simp)
  have hl:=rv.length
  exact wpAny_pyNext_list_end (I.ok.hd hc) st p.isList (by simp;omega) fun h' eb=>⟨rfl,I.turned (t':=s.toks) (fun b o hb e=>eb b o hb e) f0 f1 f3 f4 f5⟩
 self:=fun _ _ _ _ _ st h=>wpAny_pyIter_listiter st h
theorem ae6 {P:Program} {w:World} {K:aol} {tg:Expr} (a it:Addr):Turn P w K tg (Itt K a) [it] it (fun i h=>h.IsTupleIter it a i) where
 mem:=by simp
 obj:=fun i h st b hb=>by
  have e:b=it:=by simpa using hb
  subst e
  obtain⟨o,e,c,d⟩:=st
  exact⟨o,e,fun v z=>by rw [d] at z;cases z⟩
 keep:=fun i h h' st k=>st.at fun o e=>k it (by simp) o e
 item:=by
  intro X hP hw hK hc i pins s σ H E I hf st hg
  subst hP hw hK
  obtain⟨xs,x,hq,hx⟩:=hg
  obtain⟨its,rv,p,hz⟩:=I.tuple hq
  obtain⟨u,hu,ru⟩:=rv.get hx
  obtain⟨f0,f1,f2,f3,f4,f5⟩:=hf it (by simp)
  refine wpAny_pyNext_tuple_item st (show s.heap.IsTuple a its.toArray from p) (x:=u) (by simpa using hu) fun h' st' sb=>?_
  have I1:Inv X pins σ H { s with heap:=h' }:=I.turned (t':=s.toks) (fun b o hb e=>(sb.2 b hb).trans e) f0 f1 f3 f4 f5
  obtain⟨o,e,c,d⟩:=id st'
  exact⟨u,rfl,aik (s:={ s with heap:=h' }) e c d (by decide) ⟨x,H,I1,ru,⟨rfl,fun ys hy=>by rw [I.tuple_inj hy hq];exact hx⟩,st',fun b hb=>(hf b hb).1⟩⟩
 done:=by
  intro X hP hw hK hc i pins s σ H E I hf st hg
  subst hP hw hK
  obtain⟨xs,hq,hx⟩:=hg
  obtain⟨its,rv,p,hz⟩:=I.tuple hq
  obtain⟨f0,f1,f2,f3,f4,f5⟩:=hf it (by simp)
  have hl:=rv.length
  exact wpAny_pyNext_tuple_end (I.ok.hd hc) st (show s.heap.IsTuple a its.toArray from p) (by simp;omega) fun h' eb=>⟨rfl,I.turned (t':=s.toks) (fun b o hb e=>eb b o hb e) f0 f1 f3 f4 f5⟩
 self:=fun _ _ _ _ _ st h=>wpAny_pyIter_tupleiter st h
theorem ae7 {P:Program} {w:World} {K:aol} {tg:Expr} (it:Addr) (lo:Int) (n:Nat):Turn P w K tg (Itr lo n) [it] it (fun i h=>IsRangeIter h it (lo+(i:Nat) * 1) ((n:Int) - (i:Nat)) 1) where
 mem:=by simp
 obj:=fun i h st b hb=>by
  have e:b=it:=by simpa using hb
  subst e
  exact⟨_,st,fun v z=>by
   have z':Data.fields _=Data.cell v:=z
   cases z'⟩
 keep:=fun i h h' st k=>k it (by simp) _ st
 item:=by
  intro X hP hw hK hc i pins s σ H E I hf st hg
  subst hP hw hK
  obtain⟨f0,f1,f2,f3,f4,f5⟩:=hf it (by simp)
  have W:=Walks.range (prog:=X.prog) (w:=X.w) (I.ok.hd hc) it lo 1 n
  refine W.item i s _ _ hg st fun v h' tk hv st' kk=>?_
  obtain⟨t,rfl⟩:=hv
  have I1:Inv X pins σ H { s with heap:=h',toks:=tk }:=I.turned (fun b o hb e=>kk b o (by simpa using hb) e) f0 f1 f3 f4 f5
  refine⟨_,rfl,aik (s:={ s with heap:=h',toks:=tk }) (n:="range_iterator") st' rfl rfl (by decide) ⟨.int (lo+i),H,I1,⟨t,?_⟩,⟨rfl,rfl⟩,st',fun b hb=>(hf b hb).1⟩⟩
  rw [Int.mul_one]
 done:=by
  intro X hP hw hK hc i pins s σ H E I hf st hg
  subst hP hw hK
  obtain⟨f0,f1,f2,f3,f4,f5⟩:=hf it (by simp)
  exact wpAny_pyNext_range_end (I.ok.hd hc) st (by have:n<=i:=hg;omega) fun h' eb=>⟨rfl,I.turned (t':=s.toks) (fun b o hb e=>eb b o hb e) f0 f1 f3 f4 f5⟩
 self:=fun _ _ _ _ _ st h=>wpAny_pyIter_rangeiter st h
section
variable {X:Cx} {tg:Expr}
def ail (K:aol) (tl:TE):TI:=fun σ H R=>tl σ H fun x H1=>∃ a,x=.ref a/\(∃ xs,SqL K H1 a xs)/\R (Itl K a) H1
def ame (K:aol) (tl:TE):TI:=fun σ H R=>tl σ H fun x H1=>∃ a,x=.ref a/\(∃ xs,SqT K H1 a xs)/\R (Itt K a) H1
theorem akq {l:Expr} {tl:TE} (hl:PE X l tl):PI X tg l (ail X.K tl):=by
 intro pins s σ H R I h
 refine thn (hl pins s σ H _ I h) fun v s1 ⟨x,H1,I1,r1,q1⟩=>?_
 obtain⟨a,e,⟨xs,hq⟩,q⟩:=q1
 subst e
 cases r1
 obtain⟨its,rv,p,hz⟩:=I1.list hq
 refine wpAny_pyIter_list p.isList ?_
 refine⟨s1.heap.objs.size,[s1.heap.objs.size],_,_,H1,rfl,I1.kept (t':=s1.toks) fun b o e=>aot _ e,ahc a _,⟨_,aoM _ rfl,rfl,rfl⟩,fun b hb=>?_,q⟩
 have e:b=s1.heap.objs.size:=by simpa using hb
 subst e
 exact I1.fpOk (aop _) (I1.hok.fresh (aop _))
theorem amf {l:Expr} {tl:TE} (hl:PE X l tl):PI X tg l (ame X.K tl):=by
 intro pins s σ H R I h
 refine thn (hl pins s σ H _ I h) fun v s1 ⟨x,H1,I1,r1,q1⟩=>?_
 obtain⟨a,e,⟨xs,hq⟩,q⟩:=q1
 subst e
 cases r1
 obtain⟨its,rv,p,hz⟩:=I1.tuple hq
 refine wpAny_pyIter_tuple (show s1.heap.IsTuple a its.toArray from p) ?_
 refine⟨s1.heap.objs.size,[s1.heap.objs.size],_,_,H1,rfl,I1.kept (t':=s1.toks) fun b o e=>aot _ e,ae6 a _,⟨_,aoM _ rfl,rfl,rfl⟩,fun b hb=>?_,q⟩
 have e:b=s1.heap.objs.size:=by simpa using hb
 subst e
 exact I1.fpOk (aop _) (I1.hok.fresh (aop _))
theorem aim {pins:List (Addr×Obj)} {σ:St} {H:Hp} {s:Shared} {R:It->Hp->Prop} {E:Value->Shared->Prop} {lo hi:Int} {t u v:Tok} {tk:Nat} (I:Inv X pins σ H s) (h1:-(2 ^ 62)<=lo) (h2:lo<2 ^ 62) (h3:-(2 ^ 62)<=hi) (h4:hi<2 ^ 62)
  (q:R (Itr lo (hi - lo).toNat) H):wpAny (model X.prog X.w) X.A (pyIter (.ref s.heap.objs.size)) (PIE X pins σ tg R) E { s with heap:=s.heap.push { cls:=.type "range",data:=.fields #[.int lo t,.int hi u,.int 1 v] },toks:=tk }:=by
 refine wpAny_pyIter_range (IsRange.new ..) (small_one h1 h2 h3 h4) ?_
 have I1:Inv X pins σ H { s with heap:=s.heap.push { cls:=.type "range",data:=.fields #[.int lo t,.int hi u,.int 1 v] },toks:=tk }:=I.kept fun b o e=>aot _ e
 refine⟨(s.heap.push { cls:=.type "range",data:=.fields #[.int lo t,.int hi u,.int 1 v] }).objs.size,[(s.heap.push { cls:=.type "range",data:=.fields #[.int lo t,.int hi u,.int 1 v] }).objs.size],_,_,H,rfl,
  I1.kept (t':=tk) fun b o e=>aot _ e,ae7 _ lo (hi - lo).toNat,?_,fun b hb=>?_,q⟩
 ·have e1:lo+((0:Nat):Int) * 1=lo:=by simp
  have e2:(((hi - lo).toNat:Nat):Int) - ((0:Nat):Int)=Builtin.Range.rangeSize lo hi 1:=by rw [rangeSize_one];split <;> omega
  show IsRangeIter _ _ (lo+((0:Nat):Int) * 1) ((((hi - lo).toNat:Nat):Int) - ((0:Nat):Int)) 1
  rw [e1,e2]
  exact aoM _ rfl
 ·have e:b=(s.heap.push { cls:=.type "range",data:=.fields #[.int lo t,.int hi u,.int 1 v] }).objs.size:=by simpa using hb
  subst e
  exact I1.fpOk (aop _) (I1.hok.fresh (aop _))
def af1 (ta:TA):TI:=fun σ H R=>ta σ H fun vs H1=>∃ j:Int,vs=[.int j]/\-(2 ^ 62)<=j/\j<2 ^ 62/\R (Itr 0 j.toNat) H1
theorem yv {a:Expr} {ta:TA} {p pos:Pos} (hg:Gl X "range") (hm:X.mg "range"=none) (ha:PA X [a] ta) (hs:starEach [a] X.env=[(false,eval a X.env)]:=by rfl):PI X tg (.Call (.Name "range" p) [a] [] pos) (af1 ta):=by
 intro pins s σ H R I h
 refine Call_ (aa5 I hg hm boot_range (aqe (thn (ha pos pins s σ H _ I h) fun us s1 ⟨vs,H1,I1,r1,q1⟩=>?_) hs rfl))
 obtain⟨j,e,q1,q2,q⟩:=q1
 subst e
 cases r1 with
 | cons r rr =>
  cases rr
  obtain⟨t,rfl⟩:=r
  exact call_range_1 (aim I1 (by omega) (by omega) q1 q2 (by simpa using q))
def akr (wi:TI) (g:TG) (tb:TS):TS:=fun D σ H=>wi σ H fun J H1=>∃ W:Nat->Nat->St->Hp->Prop,(∃ m,W 0 m σ H1)/\∀ i m σ H,W i m σ H ->
 (J.stop i H/\D.nx σ H) \/ (J.go i H/\∃ N:St->Hp->Prop,(∀ σ' H',N σ' H'->∃ m',m'<m/\W (i+1) m' σ' H')/\∀ x H',J.yld i H x H'->g x σ H' fun σ2 H2=>tb { D with nx:=N,ct:=N,bk:=D.nx } σ2 H2)
def aa8 (fp:List Addr) (h:Heap):List (Addr×Obj):=fp.filterMap fun b=>(h.get? b).map fun o=>(b,o)
theorem qh {fp:List Addr} {h:Heap} {b:Addr} {o:Obj} (hb:b∈fp) (e:h.get? b=some o):(b,o)∈aa8 fp h:=aq4.mpr ⟨b,hb,by rw [e];rfl⟩
theorem ahd {fp:List Addr} {h:Heap} {p:Addr×Obj} (hp:p∈aa8 fp h):p.1∈fp/\h.get? p.1=some p.2:=by
 obtain⟨b,hb,e⟩:=aq4.mp hp
 cases q:h.get? b with
 | none=>rw [q] at e;cases e
 | some o =>
  rw [q] at e
  have e':(b,o)=p:=Option.some.inj e
  subst e'
  exact⟨hb,q⟩
theorem Inv.pinned {pins:List (Addr×Obj)} {σ:St} {H:Hp} {s:Shared} {fp:List Addr} (I:Inv X pins σ H s) (hf:∀ b∈fp,vZ X pins H b) (ho:∀ b∈fp,∃ o,s.heap.get? b=some o/\∀ v,o.data≠.cell v):Inv X (pins++aa8 fp s.heap) σ H s :=
 I.pins_of fun p hp=>(aou.mp hp).elim (fun z=>I.pin p (aoA _ z)) fun z=>by
  obtain⟨hb,e⟩:=ahd z
  obtain⟨f0,f1,f2,_⟩:=hf p.1 hb
  obtain⟨o,e',d⟩:=ho p.1 hb
  rw [e] at e';cases e'
  exact⟨e,f0,f1,f2,d⟩
theorem Inv.unpinned {pins pl:List (Addr×Obj)} {σ:St} {H:Hp} {s:Shared} (I:Inv X (pins++pl) σ H s):Inv X pins σ H s:=I.pins_of fun p hp=>I.pin p (aoA _ (aoJ _ hp))
theorem yB {iter:Expr} {body:List Stmt} {wi:TI} {g:TG} {tb:TS} {pos:Pos} (hp:PassesOwn (model X.prog X.w) X.A X.env X.xe) (hc:X.calm=true) (hi:PI X tg iter wi) (hg:PG X tg g) (hb:PSs X body tb)
  (hs:∀ x,foldedSetIterable iter X.env x=pure x:=by intro _;rfl):PS X (.For tg iter body [] pos) (akr wi g tb):=by
 intro pins s σ H D I h
 refine wpAny_For (thn (hi pins s σ H _ I h) fun v s1 h1=>thn h1 fun itv s2 h2=>?_) hs
 obtain⟨it,fp,tn,J,H2,e,I2,T,st2,f2,W,⟨m0,w0⟩,turn⟩:=h2
 subst e
 -- what stays true of the iterator's objects through the loop
 have stat:∀ {H':Hp},(∀ b∈fp,H' b=none)->∀ b∈fp,vZ X pins H' b:=fun hn b hb=>⟨hn b hb,(f2 b hb).2⟩
 refine codeAny_forLoop_any (fun n s'=>∃ i σ' H',Inv X pins σ' H' s'/\tn i s'.heap/\(∀ b∈fp,H' b=none)/\W i n σ' H') ?_ m0 ⟨0,σ,H2,I2,st2,fun b hb=>(f2 b hb).1,w0⟩
 rintro n s3 ⟨i,σ3,H3,I3,st3,fr3,w3⟩
 rcases turn i n σ3 H3 w3 with⟨stop,qn⟩ | ⟨go,N,hN,step⟩
 ·refine wpAny_passesOwn hp (thn (T.done X rfl rfl rfl hc i pins s3 σ3 H3 X.xe I3 (stat fr3) st3 stop) fun r s4 ⟨hr,I4⟩=>?_)
  subst hr
  exact wpAny_execs_nil ⟨σ3,H3,I4,qn⟩
 ·refine wpAny_passesOwn hp (thn (T.item X rfl rfl rfl hc i pins s3 σ3 H3 X.xe I3 (stat fr3) st3 go) fun r s4 ⟨u,hr,h4⟩=>?_)
  subst hr
  refine wpAny_passesOwn hp (thn h4 fun _ s5 ⟨x,H5,I5,r5,y5,st5,fr5⟩=>?_)
  have I5':=I5.pinned (stat fr5) (T.obj _ _ st5)
  refine wpAny_passesOwn hp (thn (hg _ s5 σ3 H5 x u _ I5' r5 (step x H5 y5)) fun _ s6 ⟨σ6,H6,I6,q6⟩=>?_)
  refine wpAny_passesOwn hp (thn (hb _ s6 σ6 H6 _ I6 q6) fun f s7 q7=>?_)
  have again:∀ {σ7:St} {H7:Hp},Inv X (pins++aa8 fp s5.heap) σ7 H7 s7->N σ7 H7->∃ m,m<n/\∃ i σ' H',Inv X pins σ' H' s7/\tn i s7.heap/\(∀ b∈fp,H' b=none)/\W i m σ' H':=fun {σ7 H7} I7 n7=>by
   obtain⟨m',hm,w7⟩:=hN σ7 H7 n7
   refine⟨m',hm,i+1,σ7,H7,I7.unpinned,T.keep _ _ _ st5 fun b hb o e=>(I7.pin (b,o) (aoA _ (aoA _ (qh hb e)))).1,fun b hb=>?_,w7⟩
   obtain⟨o,e,d⟩:=T.obj _ _ st5 b hb
   exact (I7.pin (b,o) (aoA _ (aoA _ (qh hb e)))).2.1
  cases f with
  | next=>obtain⟨σ7,H7,I7,n7⟩:=q7;exact again I7 n7
  | cont=>obtain⟨σ7,H7,I7,n7⟩:=q7;exact again I7 n7
  | brk=>obtain⟨σ7,H7,I7,q7⟩:=q7;exact⟨σ7,H7,I7.unpinned,q7⟩
  | ret v=>obtain⟨x7,σ7,H7,I7,r7,q7⟩:=q7;exact⟨x7,σ7,H7,I7.unpinned,r7,q7⟩
end
abbrev R2:=V->V->Hp->VK->Prop
def OpR (X:Cx) (f:Value->Value->Sem Value) (r:R2):Prop :=
 ∀ (pins:List (Addr×Obj)) (s:Shared) (σ:St) (H:Hp) (x y:V) (v u:Value) (Q:VK),Inv X pins σ H s->RelV x v->RelV y u->r x y H Q ->
  wpAny (model X.prog X.w) X.A (f v u) (EP X pins σ Q) X.xe s
def yy (X:Cx) (f:Value) (r:List V->Hp->VK->Prop):Prop :=
 ∀ (pins:List (Addr×Obj)) (s:Shared) (σ:St) (H:Hp) (xs:List V) (us:List Value) (Q:VK),Inv X pins σ H s->Vals xs us->r xs H Q ->
  wpAny (model X.prog X.w) X.A (call f us) (EP X pins σ Q) X.xe s
def anY (X:Cx) (r:V->Hp->(Bool->Hp->Prop)->Prop):Prop :=
 ∀ (pins:List (Addr×Obj)) (s:Shared) (σ:St) (H:Hp) (x:V) (v:Value) (Q:Bool->Hp->Prop),Inv X pins σ H s->RelV x v->r x H Q ->
  wpAny (model X.prog X.w) X.A (truthy v) (TP X pins σ Q) X.xe s
def tOp (r:R2) (ta tb:TE):TE:=fun σ H Q=>ta σ H fun x H1=>tb σ H1 fun y H2=>r x y H2 Q
def rI (C:Int->Int->Prop) (g:Int->Int->V):R2:=fun x y H Q=>∃ i j,x=.int i/\y=.int j/\C i j/\Q (g i j) H
def rI0 (g:Int->Int->V):R2:=fun x y H Q=>∃ i j,x=.int i/\y=.int j/\Q (g i j) H
section
variable {X:Cx} {a b c:Expr} {ta tb tc:TE} {pos:Pos}
theorem amg (ha:PE X a ta) (hb:PE X b tb) {pins:List (Addr×Obj)} {s:Shared} {σ:St} {H:Hp} {R:V->V->Hp->Prop} (I:Inv X pins σ H s)
  (h:ta σ H fun x H1=>tb σ H1 fun y H2=>R x y H2) {Q:Value->Shared->Prop} {f:Value->Value->Sem Value}
  (hf:∀ v u s2 x y H2,Inv X pins σ H2 s2->RelV x v->RelV y u->R x y H2->wpAny (model X.prog X.w) X.A (f v u) Q X.xe s2) :
  wpAny (model X.prog X.w) X.A (eval a X.env) (fun v s₁=>wpAny (model X.prog X.w) X.A (eval b X.env) (fun u s₂=>wpAny (model X.prog X.w) X.A (f v u) Q X.xe s₂) X.xe s₁) X.xe s:=by
 refine thn (ha pins s σ H _ I h) fun v s1 ⟨x,H1,I1,r1,q1⟩=>?_
 refine thn (hb pins s1 σ H1 _ I1 q1) fun u s2 ⟨y,H2,I2,r2,q2⟩=>?_
 exact hf v u s2 x y H2 I2 r1 r2 q2
theorem zw {op:Operator} {r:R2} (ho:OpR X (binaryOp op) r) (ha:PE X a ta) (hb:PE X b tb):PE X (.BinOp a op b pos) (tOp r ta tb):=by
 intro pins s σ H Q I h
 exact wpAny_BinOp (amg ha hb I h fun v u s2 x y H2 I2 rx ry q=>ho pins s2 σ H2 x y v u Q I2 rx ry q)
theorem opI {f:Value->Value->Sem Value} {C:Int->Int->Prop} {g:Int->Int->Int}
  (rule:∀ (i j:Int) (t u:Tok) (s:Shared) (Q:Value->Shared->Prop) (E:Value->Shared->Prop),C i j->Q (.int (g i j) s.toks) { s with toks:=s.toks+1 }->wpAny (model X.prog X.w) X.A (f (.int i t) (.int j u)) Q E s) :
  OpR X f (rI C fun i j=>.int (g i j)):=by
 intro pins s σ H x y v u Q I rx ry h
 obtain⟨i,j,rfl,rfl,hc,q⟩:=h
 obtain⟨t,rfl⟩:=rx
 obtain⟨t',rfl⟩:=ry
 exact rule i j t t' s _ _ hc ⟨.int (g i j),H,I.tok _,⟨_,rfl⟩,q⟩
theorem anq {f:Value->Value->Sem Value} {g:Int->Int->Int}
  (rule:∀ (i j:Int) (t u:Tok) (s:Shared) (Q:Value->Shared->Prop) (E:Value->Shared->Prop),Q (.int (g i j) s.toks) { s with toks:=s.toks+1 }->wpAny (model X.prog X.w) X.A (f (.int i t) (.int j u)) Q E s) :
  OpR X f (rI0 fun i j=>.int (g i j)):=by
 intro pins s σ H x y v u Q I rx ry h
 obtain⟨i,j,rfl,rfl,q⟩:=h
 obtain⟨t,rfl⟩:=rx
 obtain⟨t',rfl⟩:=ry
 exact rule i j t t' s _ _ ⟨.int (g i j),H,I.tok _,⟨_,rfl⟩,q⟩
theorem aks {f:Value->Value->Sem Value} {g:Int->Int->Bool}
  (rule:∀ (i j:Int) (t u:Tok) (s:Shared) (Q:Value->Shared->Prop) (E:Value->Shared->Prop),Q (.bool (g i j)) s->wpAny (model X.prog X.w) X.A (f (.int i t) (.int j u)) Q E s) :
  OpR X f (rI0 fun i j=>.bl (g i j)):=by
 intro pins s σ H x y v u Q I rx ry h
 obtain⟨i,j,rfl,rfl,q⟩:=h
 obtain⟨t,rfl⟩:=rx
 obtain⟨t',rfl⟩:=ry
 exact rule i j t t' s _ _ ⟨.bl (g i j),H,I,rfl,q⟩
def anZ (i j:Int):Prop:=0<=j/\j<=1000000/\i.natAbs<2 ^ 64
def CMul (i j:Int):Prop:=(-(2 ^ 64)<i/\i<2 ^ 64) \/ (-(2 ^ 64)<j/\j<2 ^ 64)
theorem CMul.ok {i j:Int} (h:CMul i j):IntMulOk i j:=by
 rcases h with⟨h1,h2⟩ | ⟨h1,h2⟩
 ·exact .of_left (intBits_le_64 h1 h2)
 ·exact .of_right (intBits_le_64 h1 h2)
theorem zY:OpR X (binaryOp .Add) (rI0 fun i j=>.int (i+j)):=anq fun _ _ _ _ _ _ _ q=>add_int q
theorem yM:OpR X (binaryOp .Sub) (rI0 fun i j=>.int (i - j)):=anq fun _ _ _ _ _ _ _ q=>sub_int q
theorem vL:OpR X (binaryOp .Mult) (rI CMul fun i j=>.int (i * j)):=opI fun _ _ _ _ _ _ _ hc q=>mul_int q hc.ok
theorem vM:OpR X (binaryOp .Mod) (rI (fun _ j=>0<j) fun i j=>.int (i % j)):=opI fun i j _ _ _ _ _ hc q=>by
 have h1:(0:Int)<j:=hc
 exact mod_int' (by omega) (by rw [Int.fmod_eq_emod_of_nonneg i (by omega)];exact q)
theorem aa9:OpR X (binaryOp .Pow) (rI anZ fun i j=>.int (i ^ j.toNat)):=opI fun _ _ _ _ _ _ _ hc q=>pow_int_small hc.1 hc.2.1 hc.2.2 q
end
section
variable {X:Cx} {a b c:Expr} {ta tb tc:TE} {pos:Pos}
theorem ain {pins:List (Addr×Obj)} {σ:St} {H:Hp} {s:Shared} {Q:VK} {k k':Bool} (I:Inv X pins σ H s) (q:Q (.bl k) H) (e:k=k'):EP X pins σ Q (.bool k') s:=by
 subst e
 exact⟨.bl k,H,I,rfl,q⟩
theorem aio:OpR X (compareOp .Lt) (rI0 fun i j=>.bl (decide (i<j))):=aks fun _ _ _ _ _ _ _ q=>lt_int q
theorem ab8:OpR X (compareOp .LtE) (rI0 fun i j=>.bl (decide (i<=j))):=aks fun _ _ _ _ _ _ _ q=>le_int q
theorem aip:OpR X (compareOp .Gt) (rI0 fun i j=>.bl (decide (j<i))):=aks fun _ _ _ _ _ _ _ q=>gt_int q
theorem alL:OpR X (compareOp .GtE) (rI0 fun i j=>.bl (decide (j<=i))):=aks fun _ _ _ _ _ _ _ q=>ge_int q
theorem amh:OpR X (compareOp .Is) (fun x y H Q=>y=.non/\Q (.bl (decide (x=.non))) H):=by
 intro pins s σ H x y v u Q I rx ry h
 obtain⟨rfl,q⟩:=h
 cases ry
 refine is_none_gen (ain I q ?_)
 cases x <;> first
  | (cases rx;rfl)
  | (obtain⟨t,rfl⟩:=rx;rfl)
theorem akt:OpR X (compareOp .IsNot) (fun x y H Q=>y=.non/\Q (.bl (!decide (x=.non))) H):=by
 intro pins s σ H x y v u Q I rx ry h
 obtain⟨rfl,q⟩:=h
 cases ry
 refine isnot_none_gen (ain I q ?_)
 cases x <;> first
  | (cases rx;rfl)
  | (obtain⟨t,rfl⟩:=rx;rfl)
theorem zQ (b:Expr) {op:CmpOp} (h:op≠.In:=by decide) (h2:op≠.NotIn:=by decide):behindInMarks op b=false:=by
 have e1:(op == CmpOp.In)=false:=by cases op <;> first | rfl | exact absurd rfl h
 have e2:(op == CmpOp.NotIn)=false:=by cases op <;> first | rfl | exact absurd rfl h2
 cases b <;> simp [behindInMarks,e1,e2]
theorem yD {op:CmpOp} {r:R2} (ho:OpR X (compareOp op) r) (ha:PE X a ta) (hb:PE X b tb) (hm:behindInMarks op b=false):PE X (.Compare a [op] [b] pos) (tOp r ta tb):=by
 intro pins s σ H Q I h
 exact wpAny_Compare1 (amg ha hb I h fun v u s2 x y H2 I2 rx ry q=>ho pins s2 σ H2 x y v u Q I2 rx ry q) hm
def ab9 (t:TE):TT:=fun σ H Q=>t σ H fun x H'=>∃ k,x=.bl k/\Q k H'
theorem zJ {op:CmpOp} {r:R2} (ho:OpR X (compareOp op) r) (ha:PE X a ta) (hb:PE X b tb) (hm:behindInMarks op b=false):PT X (.Compare a [op] [b] pos) (ab9 (tOp r ta tb)):=by
 intro pins s σ H Q I h
 refine wpAny_isTrue_Compare1 (thn (ha pins s σ H _ I h) fun v s1 ⟨x,H1,I1,r1,q1⟩=>thn (hb pins s1 σ H1 _ I1 q1) fun u s2 ⟨y,H2,I2,r2,q2⟩ =>
  thn (ho pins s2 σ H2 x y v u _ I2 r1 r2 q2) fun c s3 ⟨z,H3,I3,r3,k,e,q3⟩=>?_) hm
 subst e
 cases r3
 exact wpAny_truthy_bool ⟨H3,I3,q3⟩
def aiq (r r':R2) (ta tb tc:TE):TE:=fun σ H Q=>ta σ H fun x H1=>tb σ H1 fun y H2=>r x y H2 fun z H3=>∃ k,z=.bl k /\
 (if k=true then tc σ H3 fun w' H4=>r' y w' H4 Q else Q (.bl false) H3)
theorem aba {op op':CmpOp} {r r':R2} (ho:OpR X (compareOp op) r) (ho':OpR X (compareOp op') r') (ha:PE X a ta) (hb:PE X b tb) (hc:PE X c tc)
  (hm:lastMarks [op,op'] [b,c]=false:=by with_unfolding_all rfl):PE X (.Compare a [op,op'] [b,c] pos) (aiq r r' ta tb tc):=by
 intro pins s σ H Q I h
 refine Compare_chain (thn (ha pins s σ H _ I h) fun v s1 ⟨x,H1,I1,r1,q1⟩=>chain_link (thn (hb pins s1 σ H1 _ I1 q1) fun u s2 ⟨y,H2,I2,r2,q2⟩ =>
  thn (ho pins s2 σ H2 x y v u _ I2 r1 r2 q2) fun d s3 ⟨z,H3,I3,r3,k,e,q3⟩=>?_)) hm
 subst e
 cases r3
 refine wpAny_truthy_bool ?_
 cases k with
 | false=>exact ite_ff ⟨.bl false,H3,I3,rfl,q3⟩
 | true=>exact ite_tt (chain_last (thn (hc pins s3 σ H3 _ I3 q3) fun w' s4 ⟨z',H4,I4,r4,q4⟩=>ho' pins s4 σ H4 y z' u w' Q I4 r2 r4 q4))
def ami (K:aol) (x:V) (H:Hp) (k:Bool):Prop :=
 match x with
 | .non=>k=false
 | .bl b=>k=b
 | .int i=>k=(i != 0)
 | .str y=>y.length<=sizeLine/\k=((y.length:Int) != 0)
 | .byt y=>y.size<=sizeLine/\k=((y.size:Int) != 0)
 | .ref p=>(∃ xs,SqL K H p xs/\k=!xs.isEmpty) \/ (∃ xs,SqT K H p xs/\k=!xs.isEmpty) \/ ∃ kvs,H p=some (.dK kvs)/\k=!kvs.isEmpty
 | _=>False
theorem ae8 {κ:Type} {kvs:List (κ×V)} {vs:List (κ×Value)} (r:KV kvs vs):(!vs.isEmpty)=!kvs.isEmpty:=by
 cases r <;> rfl
theorem abb {xs:List V} {its:List Value} (r:Vals xs its):(!its.toArray.isEmpty)=!xs.isEmpty:=by
 cases r <;> simp
theorem abc:(sizeLine:Nat)<2 ^ 63:=by rw [sizeLine_eq];decide
theorem amj:anY X (fun x H Q=>∃ k,ami X.K x H k/\Q k H):=by
 intro pins s σ H x v Q I rx h
 obtain⟨k,e,q⟩:=h
 have hl:=abc
 have hs:sizeLine=16777216:=sizeLine_eq
 cases x with
 | non =>
  cases rx
  have e':k=false:=e
  subst e'
  exact truthy_none ⟨H,I,q⟩
 | bl b =>
  cases rx
  have e':k=b:=e
  subst e'
  exact wpAny_truthy_bool ⟨H,I,q⟩
 | int i =>
  obtain⟨t,rfl⟩:=rx
  have e':k=(i != 0):=e
  subst e'
  exact PySem.P.truthy_int ⟨H,I,q⟩
 | str y =>
  obtain⟨t,rfl⟩:=rx
  obtain⟨hy,e'⟩:y.length<=sizeLine/\k=((y.length:Int) != 0):=e
  subst e'
  exact PySem.P.truthy_str (by omega) ⟨H,I.tok _,q⟩
 | byt y =>
  obtain⟨t,rfl⟩:=rx
  obtain⟨hy,e'⟩:y.size<=sizeLine/\k=((y.size:Int) != 0):=e
  subst e'
  exact PySem.W.truthy_bytes (by omega) ⟨H,I.tok _,q⟩
 | ref p =>
  cases rx
  have e':(∃ xs,SqL X.K H p xs/\k=!xs.isEmpty) \/ (∃ xs,SqT X.K H p xs/\k=!xs.isEmpty) \/ ∃ kvs,H p=some (.dK kvs)/\k=!kvs.isEmpty:=e
  rcases e' with⟨xs,hx,e'⟩ | ⟨xs,hx,e'⟩ | ⟨kvs,hx,e'⟩
  ·subst e'
   obtain⟨its,r,pl,hz⟩:=I.list hx
   have hlen:=r.length
   exact wpAny_truthy_list pl.isList (by simp only [aoD];omega) ⟨H,I.tok _,by rw [abb r];exact q⟩
  ·subst e'
   obtain⟨its,r,pl,hz⟩:=I.tuple hx
   have hlen:=r.length
   exact truthy_tuple pl (by simp only [aoD];omega) ⟨H,I.tok _,by rw [abb r];exact q⟩
  ·subst e'
   obtain⟨hz,hS,vs,r,m⟩:kvs.length<=sizeLine/\(p == sysModules)=false/\∃ vs,KV kvs vs/\s.heap.DictOf (acR X.prog X.w) p vs:=I.hok p _ hx
   have hlen:kvs.length=vs.length:=Paired.length r
   exact wpAny_truthy_dict hS m (by omega) ⟨H,I.tok _,by rw [ae8 r];exact q⟩
 | _=>exact (show False from e).elim
theorem air (ha:PE X a ta) (he:∀ whole,isTrue a X.env whole=(do let v <- whole;standAt a.pos;holding [v] (truthy v))) :
  PT X a (fun σ H Q=>ta σ H fun x H'=>∃ k,ami X.K x H' k/\Q k H'):=by
 intro pins s σ H Q I h
 exact isTrue_plain (thn (ha pins s σ H _ I h) fun v s1 ⟨x,H1,I1,r1,q1⟩=>amj pins s1 σ H1 x v Q I1 r1 q1) (he _)
theorem vals1 {x:V} {us:List Value} (r:Vals [x] us):∃ u,us=[u]/\RelV x u:=by
 cases r with
 | cons r1 r2=>cases r2;exact⟨_,rfl,r1⟩
theorem vals2 {x y:V} {us:List Value} (r:Vals [x,y] us):∃ u w',us=[u,w']/\RelV x u/\RelV y w':=by
 cases r with
 | cons r1 r2 =>
  cases r2 with
  | cons r3 r4=>cases r4;exact⟨_,_,rfl,r1,r3⟩
theorem ais:yy X (.builtin "abs") (fun xs H Q=>∃ i,xs=[.int i]/\Q (.int (if i<0 then -i else i)) H):=by
 intro pins s σ H xs us Q I r h
 obtain⟨i,rfl,q⟩:=h
 obtain⟨u,rfl,t,rfl⟩:=vals1 r
 exact call_abs_int fun u tk=>⟨.int (if i<0 then -i else i),H,I.tok _,⟨_,rfl⟩,q⟩
theorem ahe (hc:X.calm=true):yy X (.builtin "max") (fun xs H Q=>∃ i j,xs=[.int i,.int j]/\Q (.int (if j > i then j else i)) H):=by
 intro pins s σ H xs us Q I r h
 obtain⟨i,j,rfl,q⟩:=h
 obtain⟨u,w',rfl,⟨t,rfl⟩,⟨t',rfl⟩⟩:=vals2 r
 refine max_two_ints (I.ok.hd hc) fun h' tk k=>⟨_,H,I.kept k,?_,q⟩
 by_cases hj:j > i
 ·rw [if_pos hj,if_pos hj];exact⟨_,rfl⟩
 ·rw [if_neg hj,if_neg hj];exact⟨_,rfl⟩
theorem aca (hc:X.calm=true):yy X (.builtin "min") (fun xs H Q=>∃ i j,xs=[.int i,.int j]/\Q (.int (if j<i then j else i)) H):=by
 intro pins s σ H xs us Q I r h
 obtain⟨i,j,rfl,q⟩:=h
 obtain⟨u,w',rfl,⟨t,rfl⟩,⟨t',rfl⟩⟩:=vals2 r
 refine min_two_ints (I.ok.hd hc) fun h' tk k=>⟨_,H,I.kept k,?_,q⟩
 by_cases hj:j<i
 ·rw [if_pos hj,if_pos hj];exact⟨_,rfl⟩
 ·rw [if_neg hj,if_neg hj];exact⟨_,rfl⟩
end
structure ObjM (h:Heap) (x dx C:Addr) (mA:Str->Option Value):Prop where
 obj:h.get? x=some (PySem.W.instObj C dx)
 ns:h.Ns1 dx mA
 ne:dx≠x
section
variable {prog:Program} {w:World} {A:Around} {E:Value->Shared->Prop} {s:Shared} {K:aol} {x dx C f:Addr} {mA:Str->Option Value} {name:Str} {v:Value}
end
structure Cls (K:aol) (C:Addr):Prop where
 pg:PySem.W.plainGet K C Str.empty=true
 hd:PySem.W.hasDictIn K C=true
 po:PySem.W.plainOver K C=true
 sa:ap0 K (.ref C) "__setattr__"=some (some (.builtin "object.__setattr__"))
structure Con (K:aol) (C:Addr) (f:Str) (v:V) (u:Value):Prop where
 at_:ap0 K (.ref C) f=some (some u)
 rel:RelV v u
 get:arl K u "__get__"=some none
 cp:PySem.W.copiedNames.contains f=false
structure Meth (K:aol) (C:Addr) (m:Str) (f:Addr):Prop where
 at_:ap0 K (.ref C) m=some (some (.ref f))
 fn:PySem.W.isFn K (.ref f)=true
 kp:apm K (.ref f)=true
section
variable {X:Cx} {pins:List (Addr×Obj)} {σ:St} {H:Hp} {s:Shared} {a C dx:Addr} {fs:List (Str×V)} {f:Str} {v:V} {A:Around} {E:Value->Shared->Prop}
end
section
variable {X:Cx} {pins:List (Addr×Obj)} {σ:St} {H:Hp} {s:Shared} {A:Around} {E:Value->Shared->Prop} {Q:Value->Shared->Prop} {c:Value} {b:Bool}
inductive TyOf (K:aol) (H:Hp):V->Value->Prop where
 | non:TyOf K H .non (.type "NoneType")
 | bl (x:Bool):TyOf K H (.bl x) (.type "bool")
 | int (i:Int):TyOf K H (.int i) (.type "int")
 | str (x:Str):TyOf K H (.str x) (.type "str")
 | flt (x:UInt64):TyOf K H (.flt x) (.type "float")
 | lst {a:Addr} {xs:List V} (e:H a=some (.lst xs)):TyOf K H (.ref a) (.type "list")
 | frz {a:Addr} {o:Obj} {xs:List V} (e:H a=some (.frz o (.lst xs))):TyOf K H (.ref a) (.type "list")
 | tup {a:Addr} {xs:List V} (e:H a=some (.tup xs)):TyOf K H (.ref a) (.type "tuple")
 | dK {a:Addr} {kvs:List (Key×V)} (e:H a=some (.dK kvs)):TyOf K H (.ref a) (.type "dict")
 | dT {a:Addr} {kvs:List (List Key×V)} (e:H a=some (.dT kvs)):TyOf K H (.ref a) (.type "dict")
 | ins {a C dx:Addr} {fs:List (Str×V)} (e:H a=some (.ins C dx fs)) (cl:Cls K C) (ha:ap0 K (.ref C) "__class__"=some (some (.builtin "object.__class__")))
   (hn:arl K (.builtin "object.__class__") "__get__"=some (some (.builtin "getset_descriptor.__get__"))) (htk:PySem.W.takesIn K (.builtin "object.__class__")=some true)
   (hm:PySem.W.mroIn K C (.type "object")=some true):TyOf K H (.ref a) (.ref C)
end
structure Room (k:Nat) (A:Around):Prop where
 hd:A.handled=none
 dp:A.depth+3 * k+5<recursionLimit
 un:A.units+16 * k+200<cLine
theorem Room.mono {j k:Nat} {A:Around} (r:Room k A) (h:j<=k):Room j A:=⟨r.hd,by have:=r.dp;omega,by have:=r.un;omega⟩
theorem Room.deeper {k:Nat} {A:Around} (r:Room (k+1) A) (env:Env):Room k (A.deeper env) :=
 ⟨r.hd,by have:=r.dp;show A.depth+1+3 * k+5<_;omega,by have:=r.un;show A.units+3+16 * k+200<_;omega⟩
theorem Room.depth {k:Nat} {A:Around} (r:Room k A):A.depth<recursionLimit:=by have:=r.dp;omega
theorem Room.units {k:Nat} {A:Around} (r:Room k A):A.units+64<cLine:=by have:=r.un;omega
def vt:TA:=fun _ H Q=>Q [] H
def yO (ta:TE) (tr:TA):TA:=fun σ H Q=>ta σ H fun x H1=>tr σ H1 fun xs H2=>Q (x :: xs) H2
section
variable {X:Cx} {e:Expr} {es:List Expr} {te:TE} {t:TA} {pos:Pos}
theorem zb:PA X [] vt:=fun _ _ _ _ H Q I h=>Calls.spliced_nil ⟨[],H,I,.nil,h⟩
theorem za (ha:PE X e te) (hr:PA X es t) (hs:starEach (e :: es) X.env=(false,eval e X.env) :: starEach es X.env:=by rfl):PA X (e :: es) (yO te t):=by
 intro pos pins s σ H Q I h
 rw [hs]
 show wpAny _ _ (spliced ((false,eval e X.env) :: backTo pos (starEach es X.env))) _ _ s
 refine Calls.spliced_cons (thn (ha pins s σ H _ I h) fun u s1 ⟨x,H1,I1,r1,q1⟩=>?_)
 exact thn (hr pos pins s1 σ H1 _ I1 q1) fun us s2 ⟨xs,H2,I2,r2,q2⟩=>⟨x :: xs,H2,I2,.cons r1 r2,q2⟩
def anr (t:TA):TE:=fun σ H Q=>t σ H fun xs H1=>xs.length<=sizeLine/\∀ p,H1 p=none->Q (.ref p) (upd H1 p (.tup xs))
def ait (t:TA):TE:=fun σ H Q=>t σ H fun xs H1=>xs.length<=sizeLine/\∀ p,H1 p=none->Q (.ref p) (upd H1 p (.lst xs))
theorem zC {x1} (h:PA X es t):PE X (.Tuple es x1 pos) (anr t):=by
 intro pins s σ H Q I hq
 refine wpAny_Tuple_spliced (thn (h pos pins s σ H _ I hq) fun us s1 ⟨xs,H1,I1,r,z,q⟩=>⟨by rw [<-r.length];exact z,?_⟩)
 have hf:H1 s1.heap.objs.size=none:=I1.hok.fresh (aop _)
 refine⟨.ref s1.heap.objs.size,upd H1 s1.heap.objs.size (.tup xs),I1.laid (t':=s1.toks) (fun b u e=>aot _ e) (aop _) ?_,rfl,q _ hf⟩
 exact⟨z,us,r,⟨_,aoM _ rfl,rfl,_,rfl⟩⟩
theorem yh (h:PA X es t):PE X (.List es pos) (ait t):=by
 intro pins s σ H Q I hq
 refine wpAny_List_spliced (thn (h pos pins s σ H _ I hq) fun us s1 ⟨xs,H1,I1,r,z,q⟩=>⟨by rw [<-r.length];exact z,?_⟩)
 have hf:H1 s1.heap.objs.size=none:=I1.hok.fresh (aop _)
 refine⟨.ref s1.heap.objs.size,upd H1 s1.heap.objs.size (.lst xs),I1.laid (t':=s1.toks) (fun b u e=>aot _ e) (aop _) ?_,rfl,q _ hf⟩
 exact⟨z,us,0,r,aoM _ rfl⟩
end
abbrev Sp:=List V->Hp->VK->XK->Prop
abbrev CXT:=List Env->Hp->Shared->XK->Value->Shared->Prop
structure Env0 (P:Program) (w:World) (K:aol) (mg:Str->Option Value) (base:Heap) (A:Around) (outer:List Env) (s:Shared) (H:Hp):Prop where
 frames:A.frames=some outer
 mod:Mod K mg base
 bs:∀ b o,base.get? b=some o->s.heap.get? b=some o/\H b=none
 bsz:base.objs.size<=s.heap.objs.size
 funs:s.heap.FunFrames base outer
 frf:∀ b∈frs outer,H b=none
 hok:HOk P w H s.heap
 bare:AllBare s.gens
def CE (outer:List Env) (P:Program) (w:World) (H:Hp) (s:Shared) (Q:VK) (u:Value) (s':Shared):Prop :=
 ∃ v H',s'.os=s.os/\AllBare s'.gens/\Un (frs outer) [] H H' s.heap s'.heap/\HOk P w H' s'.heap/\RelV v u/\Q v H'
def CR (CX:CXT) (outer:List Env) (P:Program) (w:World) (H:Hp) (s:Shared) (Q:VK) (E:XK) (r:Result) (s':Shared):Prop :=
 match r with
 | .ok (.ret u)=>CE outer P w H s Q u s'
 | .ok _=>False
 | .error e=>CX outer H s E e s'
structure FnOk (P:Program) (w:World) (K:aol) (mg:Str->Option Value) (base:Heap) (CX:CXT) (k:Nat) (f:Addr) (fd:FuncData) (ps:List Str) (sp:Sp):Prop where
 len:∀ vs H Q E,sp vs H Q E->vs.length=ps.length
 run:∀ (A:Around) (outer:List Env) (s:Shared) (H:Hp) (args:Args) (us:List Value) (vs:List V) (Q:VK) (E:XK),Room k A->Env0 P w K mg base A outer s H->BindsTo s fd args (ps.zip us)->Vals vs us->sp vs H Q E ->
  codeAny (model P w) A (.call (.ref f) args) (CR CX outer P w H s Q E) s
theorem FnOk.mono {P:Program} {w:World} {K:aol} {mg:Str->Option Value} {base:Heap} {CX:CXT} {j k:Nat} {f:Addr} {fd:FuncData} {ps:List Str} {sp:Sp} (F:FnOk P w K mg base CX j f fd ps sp) (h:j<=k) :
  FnOk P w K mg base CX k f fd ps sp:=⟨F.len,fun A outer s H args us vs Q E hr=>F.run A outer s H args us vs Q E (hr.mono h)⟩
section
variable {X:Cx} {pins:List (Addr×Obj)} {σ:St} {H:Hp} {s s':Shared}
theorem Inv.env0 (I:Inv X pins σ H s):Env0 X.prog X.w X.K X.mg X.base X.A X.stack s H :=
 ⟨I.ok.frames,I.ok.mod,I.bs,aoN I.ok.bsz I.sz,I.stack,I.stkFree,I.hok,I.bare⟩
theorem Inv.after {Q:VK} {u:Value} (I:Inv X pins σ H s) (h:CE X.stack X.prog X.w H s Q u s'):EP X pins σ Q u s':=by
 obtain⟨v,H',os,bare,un,hok,r,q⟩:=h
 obtain⟨hh,g,d,t,os'⟩:=s'
 obtain rfl:os'=s.os:=os
 exact⟨v,H',I.call (h':=hh) (g':=g) (d':=d) (t':=t) (ch:=[]) un hok bare (fun b z=>absurd z (by simp)),r,q⟩
end
def acb (sp:Sp) (dvs:List V) (E:XK) (t:TA):TE:=fun σ H Q=>t σ H fun vs H1=>sp (vs++dvs) H1 Q E
def Binds (K:aol) (fd:FuncData) (ps:List Str) (ds:List Value):Prop :=
 ∀ (s:Shared) (us:List Value),K.In s.heap->(us++ds).length=ps.length->BindsTo s fd ⟨us,[]⟩ (ps.zip (us++ds))
theorem Binds.all {K:aol} {fd:FuncData} {ps:List Str} (h:∀ us:List Value,us.length=ps.length->bindArgs fd ⟨us,[]⟩=pure (ps.zip us)):Binds K fd ps []:=fun s us _ hl=>by
 rw [apf] at hl ⊢
 exact .of_eq (h us hl)
def Passes (CX:CXT) (X:Cx) (E:XK):Prop:=∀ (pins:List (Addr×Obj)) (σ:St) (H:Hp) (s:Shared) (e:Value) (s':Shared),Inv X pins σ H s->CX X.stack H s E e s'->X.xe e s'
section
variable {X:Cx} {CX:CXT} {k:Nat} {f C:Addr} {fd:FuncData} {ps:List Str} {sp:Sp} {dvs:List V} {ds:List Value} {E:XK} {x m:Str} {p pos apos:Pos} {e o:Expr} {es:List Expr} {ta:TE} {t:TA}
theorem amk {pins:List (Addr×Obj)} {σ:St} {H:Hp} {s:Shared} {Q:VK} {us:List Value} {vs:List V} (F:FnOk X.prog X.w X.K X.mg X.base CX k f fd ps sp) (hr:Room k X.A) (hb:Binds X.K fd ps ds) (hd:Vals dvs ds) (hx:Passes CX X E)
  (I:Inv X pins σ H s) (r:Vals vs us) (h:sp (vs++dvs) H Q E):wpAny (model X.prog X.w) X.A (call (.ref f) us) (EP X pins σ Q) X.xe s:=by
 have r2:Vals (vs++dvs) (us++ds):=r.append hd
 have hl:(us++ds).length=ps.length:=by rw [<-r2.length];exact F.len _ _ _ _ h
 refine wpAny_call (codeAny_mono (F.run X.A X.stack s H ⟨us,[]⟩ (us++ds) (vs++dvs) Q E hr I.env0 (hb s us I.kIn hl) r2 h) fun r s' hq=>?_)
 cases r with
 | error e=>exact hx pins σ H s e s' I hq
 | ok fl =>
  cases fl with
  | ret u=>exact I.after hq
  | next=>exact ap3 hq
  | brk=>exact ap3 hq
  | cont=>exact ap3 hq
theorem aku (F:FnOk X.prog X.w X.K X.mg X.base CX k f fd ps sp) (hr:Room k X.A) (hg:Gl X x) (hm:X.mg x=some (.ref f)) (hk:apm X.K (.ref f)=true) (hb:Binds X.K fd ps ds) (hd:Vals dvs ds) (hx:Passes CX X E)
  (ha:PA X (e :: es) t) (hdb:(x == ("__debug__":Str))=false:=by decide) (he:starEach (e :: es) X.env=(false,eval e X.env) :: starEach es X.env:=by rfl) (hpl:(backTo pos (starEach es X.env)).any (·.1)=false:=by rfl) :
  PE X (.Call (.Name x p) (e :: es) [] pos) (acb sp dvs E t):=by
 intro pins s σ H Q I h
 refine wpAny_Call_Name_kw (acT I hg hm ?_ hdb)
 refine PySem.W.callWith_K (h₀:=X.base) I.ok.mod.kin hk (thn (ha pos pins s σ H _ I h) fun us s1 ⟨vs,H1,I1,r,q⟩=>⟨I1.kIn,?_⟩) he hpl
 exact amk F hr hb hd hx I1 r q
structure Mk (K:aol) (C f:Addr):Prop where
 makes:PySem.W.makesIn K C=true
 init:ap0 K (.ref C) "__init__"=some (some (.ref f))
 fn:PySem.W.isFn K (.ref f)=true
 kp:apm K (.ref C)=true
end
section
variable {X:Cx} {CX:CXT} {k:Nat} {f C:Addr} {fd:FuncData} {ps ks:List Str} {sp:Sp} {E:XK} {x m:Str} {p pos apos kpos:Pos} {e o:Expr} {es:List Expr} {kws:List Keyword} {te ta:TE} {t tk:TA} {nm:Option Str}
structure KBinds (K:aol) (fd:FuncData) (ps ks:List Str) (g:List Value->List Value->List Value) (gV:List V->List V->List V):Prop where
 to:∀ (s:Shared) (us ws:List Value),K.In s.heap->(g us ws).length=ps.length->BindsTo s fd ⟨us,ks.zip ws⟩ (ps.zip (g us ws))
 rel:∀ {vs:List V} {us:List Value} {zs:List V} {ws:List Value},Vals vs us->Vals zs ws->Vals (gV vs zs) (g us ws)
variable {g:List Value->List Value->List Value} {gV:List V->List V->List V}
end
structure FnScope (N P:List Str) (sc:Scope):Prop where
 kind:sc.kind=.function
 co:sc.isCoroutine=false
 gen:sc.isGenerator=false
 nd:N.Nodup
 pre:N.take P.length=P
 par:∀ x∈P,sc.names.lookup x=some .local \/ sc.names.lookup x=some .cell
 nofree:∀ y∈sc.names,y.2≠.free
theorem acd {kindOf:Str->Option NameKind} {x:Str}:∀ {binds:List (Str×Value)} {m:Str->Option Value},(∀ v,(x,v)∉binds)->bindL kindOf binds m x=m x
 | [],_,_=>rfl
 | (n,v) :: r,m,h=>by
  unfold bindL
  rw [acd fun w hw=>h w (aon _ hw)]
  split
  ·have:x≠n:=by rintro rfl;exact h v aom
   simp [this]
  ·rfl
theorem ace {kindOf:Str->Option NameKind} {x:Str}:∀ {binds:List (Str×Value)} {m:Str->Option Value},(∀ v,(x,v)∉binds)->bindC kindOf binds m x=m x
 | [],_,_=>rfl
 | (n,v) :: r,m,h=>by
  unfold bindC
  rw [ace fun w hw=>h w (aon _ hw)]
  split
  ·rfl
  ·have:x≠n:=by rintro rfl;exact h v aom
   simp [this]
theorem acf {kindOf:Str->Option NameKind} {x:Str} {v:Value}:∀ {P:List Str} {vs:List Value} {i:Nat} {m:Str->Option Value},P.Nodup->P[i]?=some x->vs[i]?=some v->kindOf x=some .local ->
  bindL kindOf (P.zip vs) m x=some v
 | [],_,_,_,_,h,_,_=>by simp at h
 | _ :: _,[],_,_,_,_,h,_=>by simp at h
 | p :: P,w :: vs,0,m,nd,h1,h2,hk=>by
  simp at h1 h2;subst h1;subst h2
  show bindL kindOf ((p,w) :: P.zip vs) m p=_
  unfold bindL
  rw [acd fun v hv=>(ao7.mp nd).1 (arH hv).1,if_pos hk]
  simp
 | p :: P,w :: vs,i+1,m,nd,h1,h2,hk=>by
  show bindL kindOf ((p,w) :: P.zip vs) m x=_
  unfold bindL
  exact acf (i:=i) (ao7.mp nd).2 (by simpa using h1) (by simpa using h2) hk
theorem acg {kindOf:Str->Option NameKind} {x:Str} {v:Value}:∀ {P:List Str} {vs:List Value} {i:Nat} {m:Str->Option Value},P.Nodup->P[i]?=some x->vs[i]?=some v->kindOf x≠some .local ->
  bindC kindOf (P.zip vs) m x=some v
 | [],_,_,_,_,h,_,_=>by simp at h
 | _ :: _,[],_,_,_,_,h,_=>by simp at h
 | p :: P,w :: vs,0,m,nd,h1,h2,hk=>by
  simp at h1 h2;subst h1;subst h2
  show bindC kindOf ((p,w) :: P.zip vs) m p=_
  unfold bindC
  rw [ace fun v hv=>(ao7.mp nd).1 (arH hv).1,if_neg hk]
  simp
 | p :: P,w :: vs,i+1,m,nd,h1,h2,hk=>by
  show bindC kindOf ((p,w) :: P.zip vs) m x=_
  unfold bindC
  exact acg (i:=i) (ao7.mp nd).2 (by simpa using h1) (by simpa using h2) hk
def start (N:List Str) (vs:List V):St:=vs.map some++apN (N.length - vs.length) none
def z5 (CX:CXT) (P:Program) (w:World) (K:aol) (mg:Str->Option Value) (base:Heap) (N:List Str) (qual:Str) (scope:Scope) (f:Addr) (cd:Value) (A:Around) (outer:List Env) (s:Shared) (H:Hp) (E:XK):Cx where
 prog:=P
 w:=w
 K:=K
 mg:=mg
 base:=base
 A:=A.deeper (envOfC qual scope s.heap.objs.size f cd)
 N:=N
 s₀:=s
 H₀:=H
 env:=envOfC qual scope s.heap.objs.size f cd
 outer:=outer
 stack:=envOfC qual scope s.heap.objs.size f cd :: outer
 ex:=[]
 calm:=true
 fn:=fun _=>true
 pn:=[]
 xe:=fun e s'=>wpAny (model P w) (A.deeper (envOfC qual scope s.heap.objs.size f cd)) (leaving (envOfC qual scope s.heap.objs.size f cd) e) (fun _ s''=>CX outer H s E e s'') (fun e' s''=>CX outer H s E e' s'') s'
theorem adU {sc:Scope} {n:Nat} {x:Str} (h:sc.names.lookup x=some .cell):∃ c,(cellsFrom n sc.names []).lookup x=some c:=by
 have q:=ap4 sc.names n [] (.inl h)
 exact aqr.mp q
theorem ahf {CX:CXT} {P:Program} {w:World} {K:aol} {mg:Str->Option Value} {base:Heap} {N ps:List Str} {qual:Str} {scope:Scope} {f:Addr} {cd:Value} {A:Around} {outer:List Env} {s s1:Shared} {H:Hp} {E:XK} {us:List Value} {vs:List V}
  (S:FnScope N ps scope) (hd:A.handled=none) (e0:Env0 P w K mg base A outer s H) (hl:vs.length=ps.length) (r:Vals vs us)
  (x:InCallC s s.heap.objs.size (bindL (envOfC qual scope s.heap.objs.size f cd).kindOf (ps.zip us) fun _=>none) (cellsFrom (s.heap.objs.size+1) scope.names []) (bindC (envOfC qual scope s.heap.objs.size f cd).kindOf (ps.zip us) fun _=>none) s1) :
  Inv (z5 CX P w K mg base N qual scope f cd A outer s H E) [] (start N vs) H s1:=by
 have hpl:ps.length<=N.length:=by have:=congrArg List.length S.pre;rw [aoX] at this;omega
 obtain⟨h1,tk,rfl,hk⟩:=x.done
 have noA:∀ b:Addr,b∉(z5 CX P w K mg base N qual scope f cd A outer s H E).ex:=fun b z=>absurd (show b∈([]:List Addr) from z) (by simp)
 refine⟨⟨e0.mod,S.kind,rfl,rfl,aop _,fun y z c h1 h2=>?_,fun y hy=>?_,fun y c _ h=>?_,fun _=>hd,Around.frames_deeper e0.frames,.inr ⟨rfl,rfl⟩,fun b z=>absurd z (noA b),e0.bs,e0.bsz,fun b _ _=>noA b,fun b z=>absurd z (noA b),e0.funs,e0.frf⟩,
  rfl,e0.bare,Un.kept hk,⟨_,x.toInCall.ns,fun i y v h1 h2 h3=>?_⟩,fun y c h=>⟨_,x.cell y c h⟩,e0.hok.fresh (aop _),fun y c h=>?_,fun p hp=>absurd (show p∈([]:List (Addr×Obj)) from hp) (by simp),e0.hok.kept hk,?_⟩
 ·exact name_of_addr x.apart (apY h1) (apY h2)
 ·have hy:scope.names.lookup y=some .cell \/ scope.names.lookup y=some .free:=hy
  rcases hy with hy | hy
  ·exact adU hy
  ·exact absurd rfl (S.nofree _ (apY hy))
 ·exact aps (x.above y c (apY h))
 ·have hi:i<vs.length:=by
   unfold start at h2
   by_cases hi:i<vs.length
   ·exact hi
   ·rw [aoG (by simpa using hi)] at h2
    rw [ap1] at h2
    split at h2 <;> cases h2
  have ha:vs[i]?=some v:=by
   unfold start at h2
   rw [aov (by simpa using hi),aoq] at h2
   cases e:vs[i]? with
   | none=>rw [e] at h2;cases h2
   | some a=>rw [e] at h2;cases h2;rfl
  obtain⟨u,hu,rv⟩:=r.get ha
  have hp:ps[i]?=some y:=by
   rw [<-S.pre,apX (by omega)];exact h1
  have ndP:ps.Nodup:=by rw [<-S.pre];exact S.nd.sublist (List.take_sublist _ _)
  refine⟨u,rv,?_⟩
  rcases S.par y (aoj hp) with k | k
  ·exact .inl ⟨k,acf ndP hp hu k⟩
  ·obtain⟨c,e⟩:=adU (n:=s.heap.objs.size+1) k
   refine .inr ⟨.inl k,c,e,?_⟩
   have q:=x.cell y c e
   rw [acg ndP hp hu (by show scope.names.lookup y≠_;rw [k];decide)] at q
   exact q
 ·exact e0.hok.fresh (aps (x.above y c (apY h)))
 ·unfold start
  show _=N.length
  rw [aox,aog,aqJ]
  omega
theorem ans {CX:CXT} {P:Program} {w:World} {K:aol} {mg:Str->Option Value} {base:Heap} {k:Nat} {f:Addr} {name qual:Str} {params:Arguments} {body:List Stmt} {scope:Scope} {dV kV doc pm cdv ct oc:Value} {an od:Option Addr}
  {osl:Array (Option Value)} {N ps:List Str} {sp:Sp} (lk:K.lookup f=some ⟨oc,od,.func (apV name qual params body scope dV kV doc pm an cdv ct),osl⟩) (hcd:aq5 K cdv qual=true) (S:FnScope N ps scope)
  (len:∀ vs H Q E,sp vs H Q E->vs.length=ps.length)
  (hbody:∀ (A:Around) (outer:List Env) (s:Shared) (H:Hp) (vs:List V) (Q:VK) (E:XK),Room k (A.deeper (envOfC qual scope s.heap.objs.size f cdv))->sp vs H Q E ->
   ∃ t,PSs (z5 CX P w K mg base N qual scope f cdv A outer s H E) body t/\t { nx:=fun _ H'=>Q .non H',rt:=Q } (start N vs) H) :
  FnOk P w K mg base CX (k+1) f (apV name qual params body scope dV kV doc pm an cdv ct) ps sp:=by
 refine⟨len,fun A outer s H args us vs Q E hr e0 hb r hsp=>?_⟩
 have hl:=len _ _ _ _ hsp
 have KX:K.In s.heap:=e0.mod.kin.keeps fun b o e=>(e0.bs b o e).1
 have lim:s.heap.NoLimit:=e0.mod.nolimit.keeps fun b o e=>(e0.bs b o e).1
 have hkind:∀ y∈ps.zip us,scope.names.lookup y.1=some .local \/ (scope.names.lookup y.1=some .cell/\((cellsFrom (s.heap.objs.size+1) scope.names []).lookup y.1).isSome=true):=fun⟨n,v⟩ hy=>by
  rcases S.par n (arH hy).1 with q | q
  ·exact .inl q
  ·exact .inr ⟨q,ap4 _ _ _ (.inl q)⟩
 refine codeAny_call_function hr.depth (KX _ _ lk) rfl S.co S.gen rfl (PySem.W.codeRec_of KX hcd) (hb _ _ _ _ ?_)
 refine wpAny_newFunctionEnv_cells S.kind hkind fun env he s1 x=>?_
 subst he
 refine⟨lim.keeps x.toInCall.keep,codeAny_func ?_⟩
 obtain⟨t,ht,hq⟩:=hbody A outer s H vs Q E (hr.deeper _) hsp
 have I:Inv (z5 CX P w K mg base N qual scope f cdv A outer s H E) [] (start N vs) H s1:=ahf S hr.hd e0 hl r x
 refine wpAny_mono (ht [] s1 (start N vs) H _ I hq) (fun fl s' hs=>?_) fun e s' hs=>hs
 have fin:∀ {σ':St} {H':Hp} {v:V} {u:Value},Inv (z5 CX P w K mg base N qual scope f cdv A outer s H E) [] σ' H' s'->RelV v u->Q v H'->CE outer P w H s Q u s' :=
  fun {σ' H' v u} J rv q=>⟨v,H',J.os,J.bare,J.base,J.hok,rv,q⟩
 cases fl with
 | ret u =>
  obtain⟨v,σ',H',J,rv,q⟩:=hs
  exact fin J rv q
 | next =>
  obtain⟨σ',H',J,q⟩:=hs
  exact fin (v:=V.non) (u:=Value.none) J rfl q
 | brk =>
  obtain⟨_,_,_,q⟩:=hs
  exact ap3 q
 | cont =>
  obtain⟨_,_,_,q⟩:=hs
  exact ap3 q
section
variable {X:Cx} {x:Str} {p pos:Pos} {e:Expr} {es:List Expr} {t:TA} {id T:String} {r:List V->Hp->VK->Prop}
def tCB (r:List V->Hp->VK->Prop) (t:TA):TE:=fun σ H Q=>t σ H fun vs H1=>r vs H1 Q
theorem zA (hc:yy X (.builtin id) r) (hg:Gl X x) (hm:X.mg x=none) (hv:bootBuiltins x=some (.builtin id)) (ha:PA X (e :: es) t) (hn:x ≠ "__name__":=by decide) (hdb:(x == ("__debug__":Str))=false:=by decide)
  (he:starEach (e :: es) X.env=(false,eval e X.env) :: starEach es X.env:=by rfl) (hpl:(backTo pos (starEach es X.env)).any (·.1)=false:=by rfl):PE X (.Call (.Name x p) (e :: es) [] pos) (tCB r t):=by
 intro pins s σ H Q I h
 refine wpAny_Call_Name_kw (aa5 I hg hm hv ?_ hn hdb)
 exact PyProof.Rows.callWith_builtin1 (thn (ha pos pins s σ H _ I h) fun us s1 ⟨vs,H1,I1,r1,q1⟩=>hc pins s1 σ H1 vs us Q I1 r1 q1) he hpl
theorem aao (hc:yy X (.type T) r) (hg:Gl X x) (hm:X.mg x=none) (hv:bootBuiltins x=some (.type T)) (ha:PA X (e :: es) t) (hn:x ≠ "__name__":=by decide) (hdb:(x == ("__debug__":Str))=false:=by decide)
  (he:starEach (e :: es) X.env=(false,eval e X.env) :: starEach es X.env:=by rfl) (hpl:(backTo pos (starEach es X.env)).any (·.1)=false:=by rfl):PE X (.Call (.Name x p) (e :: es) [] pos) (tCB r t):=by
 intro pins s σ H Q I h
 refine wpAny_Call_Name_kw (aa5 I hg hm hv ?_ hn hdb)
 exact aqe (thn (ha pos pins s σ H _ I h) fun us s1 ⟨vs,H1,I1,r1,q1⟩=>hc pins s1 σ H1 vs us Q I1 r1 q1) he hpl
theorem abd (hc:yy X (.type T) r) (hg:Gl X x) (hm:X.mg x=none) (hv:bootBuiltins x=some (.type T)) (hn:x ≠ "__name__":=by decide) (hdb:(x == ("__debug__":Str))=false:=by decide) :
  PE X (.Call (.Name x p) [] [] pos) (tCB r vt):=by
 intro pins s σ H Q I h
 refine wpAny_Call_Name_kw (aa5 I hg hm hv ?_ hn hdb)
 exact PyProof.Rows.callWith_type0 (hc pins s σ H [] [] Q I .nil h)
end
end L2
namespace HT
open PySem PyProof.Rows
theorem rcLt_int (A:Around) (s:Shared) (a:Int) (t:Tok) (c:Int) (u:Tok) (prog:Program) (w:World) (E:Value->Shared->Prop) (Q:Value->Shared->Prop) (h:Q (.bool (decide (a<c))) s) :
  wpAny (model prog w) A (richCompare .Lt (.int a t) (.int c u)) Q E s :=
 (PyProof.Rows.lt_int h:wpAny (model prog w) A (compareOp .Lt (.int a t) (.int c u)) Q E s)
section
open PySem.SeqAt
open PySem.AutoSeq1 (wpAny_loadPart')
open PySem.MeetsSeq PySem.MeetsSeq2 PySem.MeetsSeq3
end
section
variable {prog:Program} {w:World} {A:Around} {E:Value->Shared->Prop} {s:Shared}
def sIx (n d:Nat):Option Int->Nat
 | none=>d
 | some v=>if v<0 then (v+(n:Int)).toNat else min v.toNat n
theorem sIx_none (n d:Nat):sIx n d none=d:=rfl
theorem sIx_nat (n d k:Nat):sIx n d (some (k:Int))=min k n:=by
 show (if (k:Int)<0 then ((k:Int)+(n:Int)).toNat else min (k:Int).toNat n)=min k n
 rw [if_neg (by omega),apW]
end
end HT
namespace L2
open PySem PySem.Spec PyProof.Rows
abbrev TO:=St->Hp->(Option Int->Hp->Prop)->Prop
def PO (X:Cx) (e:Option Expr) (t:TO):Prop :=
 ∀ (pins:List (Addr×Obj)) (s:Shared) (σ:St) (H:Hp) (Q:Option Int->Hp->Prop),Inv X pins σ H s->t σ H Q ->
  wpAny (model X.prog X.w) X.A (evalPart e X.env) (fun u s'=>∃ o H',Inv X pins σ H' s'/\IsPart u o/\Q o H') X.xe s
def af2:TO:=fun _ H Q=>Q none H
def alM (t:TE):TO:=fun σ H Q=>t σ H fun x H1=>∃ i,x=.int i/\Q (some i) H1
theorem intsAre_of {ns:List Int}:∀ {us:List Value},Vals (ns.map V.int) us->IntsAre us ns:=by
 induction ns with
 | nil=>intro us r;rw [aq2] at r;cases r;exact .nil
 | cons n ns ih =>
  intro us r
  rw [aoI] at r
  cases r with
  | cons r1 r2 =>
   obtain⟨t,e⟩:=r1
   subst e
   exact .cons n t (ih r2)
section
variable {X:Cx} {e:Expr} {te:TE} {lo hi:Option Expr} {tl th:TO} {pos p2:Pos}
theorem af3:PO X none af2:=by
 intro pins s σ H Q I h
 rw [evalPart_none]
 exact wpAny_pure ⟨none,H,I,.none,h⟩
theorem af4 (h:PE X e te):PO X (some e) (alM te):=by
 intro pins s σ H Q I hw
 rw [evalPart_some]
 refine thn (h pins s σ H _ I hw) fun u s1 ⟨x,H1,I1,r1,q1⟩=>?_
 obtain⟨i,rfl,q⟩:=q1
 obtain⟨t,rfl⟩:=r1
 exact⟨some i,H1,I1,.int i t,q⟩
def SlR (X:Cx) (r:V->Option Int->Option Int->Hp->VK->Prop):Prop :=
 ∀ (pins:List (Addr×Obj)) (s:Shared) (σ:St) (H:Hp) (x:V) (v vl vu:Value) (lo hi:Option Int) (sl:Addr) (Q:VK),Inv X pins σ H s->RelV x v->s.heap.IsSliceOf sl vl vu .none->IsPart vl lo->IsPart vu hi->r x lo hi H Q ->
  ∃ T id,typeLookup (.type T) "__getitem__"=pure (some (.builtin id))/\s.TypeIs v T/\wpAny (model X.prog X.w) X.A (getItem v (.ref sl)) (EP X pins σ Q) X.xe s
def tSl (r:V->Option Int->Option Int->Hp->VK->Prop) (te:TE) (tl th:TO):TE:=fun σ H Q=>te σ H fun x H1=>tl σ H1 fun l H2=>th σ H2 fun u H3=>r x l u H3 Q
theorem adV {r:V->Option Int->Option Int->Hp->VK->Prop} (hr:SlR X r) (he:PE X e te) (hl:PO X lo tl) (hu:PO X hi th):PE X (.Subscript e (.Slice lo hi none p2) pos) (tSl r te tl th):=by
 intro pins s σ H Q I h
 refine Subscript_ (thn (he pins s σ H _ I h) fun v s1 ⟨x,H1,I1,r1,q1⟩=>?_)
 refine wpAny_Slice (thn (hl pins s1 σ H1 _ I1 q1) fun vl s2 ⟨l,H2,I2,pl,q2⟩=>thn (hu pins s2 σ H2 _ I2 q2) fun vu s3 ⟨u,H3,I3,pu,q3⟩=>?_)
 rw [evalPart_none]
 refine wpAny_pure ?_
 have I4:Inv X pins σ H3 { s3 with heap:=s3.heap.push { cls:=.type "slice",data:=.fields #[vl,vu,.none] } }:=I3.kept (t':=s3.toks) fun b ob q=>aot _ q
 obtain⟨T,id,hT,ht,hg⟩:=hr pins { s3 with heap:=s3.heap.push { cls:=.type "slice",data:=.fields #[vl,vu,.none] } } σ H3 x v vl vu l u s3.heap.objs.size Q I4 r1 (Heap.IsSliceOf.new ..) pl pu q3
 show wpAny (model X.prog X.w) X.A (subscriptTail e (.Slice lo hi none p2) v (.ref s3.heap.objs.size)) (EP X pins σ Q) X.xe { s3 with heap:=s3.heap.push { cls:=.type "slice",data:=.fields #[vl,vu,.none] } }
 exact tail_any (ops:=[.ref s3.heap.objs.size,v]) ht hT hg (by with_unfolding_all rfl)
def ae9 (xs:List V) (lo hi:Option Int):List V:=(xs.drop (HT.sIx xs.length 0 lo)).take (HT.sIx xs.length xs.length hi - HT.sIx xs.length 0 lo)
theorem adW (xs:List V) (lo hi:Option Int):(ae9 xs lo hi).length<=xs.length:=by
 unfold ae9
 rw [aoX,aqk]
 omega
end
def ixN (n:Nat) (i:Int):Option Nat:=if 0<=i then (if i<n then some i.toNat else none) else if -(n:Int)<=i then some (i+n).toNat else none
def atI {α:Type} (xs:List α) (i:Int):Option α:=(ixN xs.length i).bind fun j=>xs[j]?
theorem af5 {n:Nat} {i:Int} {j:Nat} (h:ixN n i=some j):seqIndex? i n=some j/\j<n/\-(n:Int)<=i/\i<n:=by
 unfold ixN at h
 by_cases h0:0<=i
 ·rw [if_pos h0] at h
  by_cases h1:i<n
  ·rw [if_pos h1] at h
   have e:i.toNat=j:=Option.some.inj h
   exact⟨by rw [seqIndex_of h0 h1,e],by omega,by omega,h1⟩
  ·rw [if_neg h1] at h;cases h
 ·rw [if_neg h0] at h
  by_cases h1:-(n:Int)<=i
  ·rw [if_pos h1] at h
   have e:(i+n).toNat=j:=Option.some.inj h
   exact⟨by rw [seqIndex_neg (by omega) h1,e],by omega,h1,by omega⟩
  ·rw [if_neg h1] at h;cases h
theorem af6 {α:Type} {xs:List α} {i:Int} {v:α} (h:atI xs i=some v):∃ j,seqIndex? i xs.length=some j/\xs[j]?=some v/\j<xs.length/\-(xs.length:Int)<=i/\i<xs.length:=by
 unfold atI at h
 cases e:ixN xs.length i with
 | none=>rw [e] at h;cases h
 | some j =>
  rw [e] at h
  obtain⟨h1,h2,h3,h4⟩:=af5 e
  exact⟨j,h1,h,h2,h3,h4⟩
theorem qi {α:Type} {xs:List α} {j:Nat} {v:α} (h:xs[j]?=some v):atI xs (j:Int)=some v:=by
 have hj:j<xs.length:=(aoh.mp h).1
 have e:ixN xs.length (j:Int)=some j:=by
  unfold ixN
  rw [if_pos (by omega),if_pos (by omega)];simp
 unfold atI;rw [e];exact h
def af7 (b:Expr):Prop:=∀ o i,subscripted b false o i=operate [o,i] (getItem o i)
def IxR (X:Cx) (r:R2):Prop :=
 ∀ (value slice:Expr) (pins:List (Addr×Obj)) (s:Shared) (σ:St) (H:Hp) (x y:V) (v u:Value) (Q:VK),Inv X pins σ H s->RelV x v->RelV y u->r x y H Q ->
  subscripted slice false v u=operate [v,u] (getItem v u)->wpAny (model X.prog X.w) X.A (subscriptTail value slice v u) (EP X pins σ Q) X.xe s
def MtR (X:Cx) (id:String) (r:V->List V->Hp->VK->Prop):Prop :=
 ∀ (pins:List (Addr×Obj)) (s:Shared) (σ:St) (H:Hp) (x:V) (xs:List V) (v:Value) (us:List Value) (Q:VK),Inv X pins σ H s->RelV x v->Vals xs us->r x xs H Q ->
  wpAny (model X.prog X.w) X.A (call (.builtin id) (v :: us)) (EP X pins σ Q) X.xe s
section
variable {X:Cx} {a b:Expr} {ta tb:TE} {pos:Pos}
theorem zI {r:R2} (hr:IxR X r) (ha:PE X a ta) (hb:PE X b tb) (hs:af7 b):PE X (.Subscript a b pos) (tOp r ta tb):=by
 intro pins s σ H Q I h
 exact Subscript_ (amg ha hb I h fun v u s2 x y H2 I2 rx ry q=>hr a b pins s2 σ H2 x y v u Q I2 rx ry q (hs _ _))
def ahg (K:aol):R2:=fun x y H Q=>∃ p xs i v,x=.ref p/\y=.int i/\SqL K H p xs/\atI xs i=some v/\Q v H
def aml (K:aol):R2:=fun x y H Q=>∃ p xs i v,x=.ref p/\y=.int i/\SqT K H p xs/\atI xs i=some v/\Q v H
theorem akv:IxR X (ahg X.K):=by
 intro value slice pins s σ H x y v u Q I rx ry h hs
 obtain⟨p,xs,i,z,rfl,rfl,hq,he,q⟩:=h
 cases rx
 obtain⟨t,rfl⟩:=ry
 obtain⟨its,r,pl,hz⟩:=I.list hq
 obtain⟨j,h1,h2,h3,h4,h5⟩:=af6 he
 obtain⟨w,ew,rw'⟩:=r.get h2
 have hl:=r.length
 have hn:=abc
 have fin:EP X pins σ Q w s:=⟨z,H,I,rw',q⟩
 by_cases h0:0<=i
 ·have hj:i.toNat=j:=by
   rw [seqIndex_of h0 h5] at h1
   exact Option.some.inj h1
  exact item_listR pl.isList h0 (by omega) (by rw [hj];simpa using ew) fin hs
 ·have hj:(i+(its.toArray.size:Int)).toNat=j:=by
   rw [seqIndex_neg (by omega) h4] at h1
   rw [aoD,<- hl]
   exact Option.some.inj h1
  exact subscriptTail_builtinR (x:=w) pl.isList.typeIs slot_list_getitem.lookup
   (wpAny_getItem_list_neg (Q:=fun r s'=>r=w/\EP X pins σ Q r s') pl.isList (by omega) (by rw [aoD] <;> omega) (by omega) (by rw [hj];simpa using ew) ⟨rfl,fin⟩) hs
theorem amm:IxR X (aml X.K):=by
 intro value slice pins s σ H x y v u Q I rx ry h hs
 obtain⟨p,xs,i,z,rfl,rfl,hq,he,q⟩:=h
 cases rx
 obtain⟨t,rfl⟩:=ry
 obtain⟨its,r,pl,hz⟩:=I.tuple hq
 obtain⟨j,h1,h2,h3,h4,h5⟩:=af6 he
 obtain⟨w,ew,rw'⟩:=r.get h2
 have hl:=r.length
 have hn:=abc
 have fin:EP X pins σ Q w s:=⟨z,H,I,rw',q⟩
 exact subscriptTail_builtinR (x:=w) pl.typeIs slot_tuple_getitem.lookup
  (getItem_tuple (j:=j) (Q:=fun r s'=>r=w/\EP X pins σ Q r s') pl (by omega) (by omega) (by rw [aoD,<- hl];exact h1) (by simpa using ew) ⟨rfl,fin⟩) hs
theorem afa (its:List Value) (n j:Nat) (u:Value):aqh (·.setIfInBounds j u) { cls:=.type "list",data:=.seq its.toArray n }={ cls:=.type "list",data:=.seq (its.set j u).toArray n }:=by
 simp [aqh]
theorem Inv.lst {pins:List (Addr×Obj)} {σ:St} {H:Hp} {s:Shared} {p:Addr} {xs:List V} (I:Inv X pins σ H s) (h:H p=some (.lst xs)) :
  ∃ (its:List Value) (n:Nat),Vals xs its/\s.heap.get? p=some { cls:=.type "list",data:=.seq its.toArray n }/\xs.length<=sizeLine:=by
 obtain⟨z,its,n,r,e⟩:=I.hok p _ h
 exact⟨its,n,r,e,z⟩
theorem Inv.lstUpd {pins:List (Addr×Obj)} {σ:St} {H:Hp} {s:Shared} {p:Addr} {xs ys:List V} {its its':List Value} {n n':Nat} {f:Obj->Obj} (I:Inv X pins σ H s) (h:H p=some (.lst xs))
  (ho:s.heap.get? p=some { cls:=.type "list",data:=.seq its.toArray n }) (hf:f { cls:=.type "list",data:=.seq its.toArray n }={ cls:=.type "list",data:=.seq its'.toArray n' }) (r:Vals ys its') (hz:ys.length<=sizeLine) (t:Nat) :
  Inv X pins σ (upd H p (.lst ys)) { s with heap:=s.heap.update p f,toks:=t }:=by
 have e:(s.heap.update p f).get? p=some { cls:=.type "list",data:=.seq its'.toArray n' }:=by
  rw [aqc f ho (by rw [hf] <;> rfl),hf]
 refine I.write (x:=p) (e:=p) (by rw [h];trivial) (.inl rfl) (fun b u hb q=>(apH _ _ (apC hb)).trans q) ⟨_,e⟩ ?_
 exact⟨hz,its',n',r,e⟩
def abe:V->V->V->Hp->(Hp->Prop)->Prop:=fun o i v H Q=>∃ p xs k j,o=.ref p/\i=.int k/\H p=some (.lst xs)/\ixN xs.length k=some j/\Q (upd H p (.lst (xs.set j v)))
theorem set_list:ako X abe:=by
 intro pins s σ H o i v ov iv u Q I ro ri rv h
 obtain⟨p,xs,k,j,rfl,rfl,hp,hj,q⟩:=h
 cases ro
 obtain⟨t,rfl⟩:=ri
 obtain⟨its,n,r,ho,hz⟩:=I.lst hp
 obtain⟨h1,h2,h3,h4⟩:=af5 hj
 have hl:=r.length
 have hn:=abc
 have I':Inv X pins σ (upd H p (.lst (xs.set j v))) { s with heap:=s.heap.update p (aqh (·.setIfInBounds j u)) } :=
  I.lstUpd hp ho (afa its n j u) (r.set rv j) (by rw [aqv];exact hz) s.toks
 by_cases h0:0<=k
 ·have hk:k.toNat=j:=by
   rw [seqIndex_of h0 h4] at h1
   exact Option.some.inj h1
  exact PySem.W.ki_setAt ho h0 (by omega) (by rw [aoD,<- hl];exact h4) (by rw [hk];exact⟨_,I',q⟩)
 ·have hk:(k+(its.toArray.size:Int)).toNat=j:=by
   rw [seqIndex_neg (by omega) h3] at h1
   rw [aoD,<- hl]
   exact Option.some.inj h1
  exact PySem.W.ki_setBack ho (by omega) (by rw [aoD,<- hl];exact h3) (by omega) (by rw [hk];exact⟨_,I',q⟩)
theorem acU (lo hi:Option Int) (n:Nat):(sliceBounds lo hi none n).1=((HT.sIx n 0 lo:Nat):Int)/\(sliceBounds lo hi none n).2.1=((HT.sIx n n hi:Nat):Int)/\(sliceBounds lo hi none n).2.2=1:=by
 refine⟨?_,?_,rfl⟩
 ·cases lo with
  | none=>simp [sliceBounds,HT.sIx]
  | some i =>
   simp only [sliceBounds,HT.sIx,Option.getD_none,show (1:Int) > 0 by decide,if_true]
   by_cases h:i<0
   ·simp only [h,if_true] <;> omega
   ·simp only [h,if_false] <;> omega
 ·cases hi with
  | none=>simp [sliceBounds,HT.sIx]
  | some i =>
   simp only [sliceBounds,HT.sIx,Option.getD_none,show (1:Int) > 0 by decide,if_true]
   by_cases h:i<0
   ·simp only [h,if_true] <;> omega
   ·simp only [h,if_false] <;> omega
theorem abS (its:List Value) (lo hi:Option Int):slicePick its.toArray lo hi none=((its.drop (HT.sIx its.length 0 lo)).take (HT.sIx its.length its.length hi - HT.sIx its.length 0 lo)).toArray:=by
 obtain⟨h1,h2,h3⟩:=acU lo hi its.toArray.size
 unfold slicePick
 rw [h1,h2,h3]
 simp only [sliceRange_one,pick_run,aoD] <;> rfl
def akw (K:aol):V->Option Int->Option Int->Hp->VK->Prop:=fun x lo hi H Q=>∃ a xs,x=.ref a/\SqL K H a xs/\∀ p,H p=none->Q (.ref p) (upd H p (.lst (ae9 xs lo hi)))
theorem akx:SlR X (akw X.K):=by
 intro pins s σ H x v vl vu lo hi sl Q I rx hs pl pu h
 obtain⟨a,xs,rfl,hx,q⟩:=h
 cases rx
 obtain⟨its,r,ht,hz⟩:=I.list hx
 have hlen:=r.length
 refine⟨"list",_,slot_list_getitem.lookup,ht.isList.typeIs,?_⟩
 refine wpAny_getItem_list_slice ht.isList hs pl pu .none (by simp) ?_ (by rw [aoD] <;> omega)
 rw [abS,<- hlen]
 refine⟨.ref s.heap.objs.size,_,I.laid (t':=s.toks) (o:=.lst (ae9 xs lo hi)) (fun b ob q=>aot _ q) (aop _) ?_,rfl,q _ (I.hok.fresh (aop _))⟩
 exact⟨aoN (adW xs lo hi) hz,_,0,(r.drop (HT.sIx xs.length 0 lo)).take (HT.sIx xs.length xs.length hi - HT.sIx xs.length 0 lo),aoM _ rfl⟩
def aaA:V->Bool
 | .non=>true
 | .bl _=>true
 | .int _=>true
 | .str _=>true
 | _=>false
def eqV:V->V->Bool
 | .non,.non=>true
 | .bl a,.bl b=>a == b
 | .bl a,.int b=>(if a then 1 else 0) == b
 | .int a,.bl b=>a == (if b then 1 else 0)
 | .int a,.int b=>a == b
 | .str a,.str b=>a == b
 | _,_=>false
theorem amn {A:Around} {s:Shared} {y x:V} {u v:Value} (ry:RelV y u) (rx:RelV x v) (fy:aaA y=true) (fx:aaA x=true):SeqAt.EqAt A s u v (eqV y x):=by
 cases y with
 | non =>
  cases ry
  cases x with
  | non=>cases rx;exact SeqAt.EqAt.same _
  | bl b=>cases rx;exact SeqAt.EqAt.none_bool b
  | int b=>obtain⟨t,rfl⟩:=rx;exact SeqAt.EqAt.none_int b t
  | str b=>obtain⟨t,rfl⟩:=rx;exact SeqAt.EqAt.none_str b t
  | _=>exact absurd (show false=true from fx) aoi
 | bl a =>
  cases ry
  cases x with
  | non=>cases rx;exact SeqAt.EqAt.bool_none a
  | bl b=>cases rx;exact SeqAt.EqAt.bool_bool a b
  | int b=>obtain⟨t,rfl⟩:=rx;exact SeqAt.EqAt.bool_int a b t
  | str b=>obtain⟨t,rfl⟩:=rx;exact SeqAt.EqAt.bool_str a b t
  | _=>exact absurd (show false=true from fx) aoi
 | int a =>
  obtain⟨t',rfl⟩:=ry
  cases x with
  | non=>cases rx;exact SeqAt.EqAt.int_none a t'
  | bl b=>cases rx;exact SeqAt.EqAt.int_bool a t' b
  | int b=>obtain⟨t,rfl⟩:=rx;exact SeqAt.EqAt.int_int a t' b t
  | str b=>obtain⟨t,rfl⟩:=rx;exact SeqAt.EqAt.int_str a t' b t
  | _=>exact absurd (show false=true from fx) aoi
 | str a =>
  obtain⟨t',rfl⟩:=ry
  cases x with
  | non=>cases rx;exact SeqAt.EqAt.str_none a t'
  | bl b=>cases rx;exact SeqAt.EqAt.str_bool a t' b
  | int b=>obtain⟨t,rfl⟩:=rx;exact SeqAt.EqAt.str_int a t' b t
  | str b=>obtain⟨t,rfl⟩:=rx;exact SeqAt.EqAt.str_str a t' b t
  | _=>exact absurd (show false=true from fx) aoi
 | _=>exact absurd (show false=true from fy) aoi
def eqU (x:V) (u:Value):Bool:=match u with
 | .none=>eqV .non x
 | .bool b=>eqV (.bl b) x
 | .int i _=>eqV (.int i) x
 | .str z _=>eqV (.str z) x
 | _=>false
theorem aiu {x y:V} {u:Value} (r:RelV y u) (f:aaA y=true):eqU x u=eqV y x:=by
 cases y with
 | non=>cases r;rfl
 | bl b=>cases r;rfl
 | int i=>obtain⟨t,rfl⟩:=r;rfl
 | str z=>obtain⟨t,rfl⟩:=r;rfl
 | _=>exact absurd (show false=true from f) aoi
theorem acV {x:V}:∀ {xs:List V} {us:List Value},Vals xs us->xs.all aaA=true->us.any (eqU x)=xs.any fun y=>eqV y x
 | _,_,.nil,_=>rfl
 | y :: xs,u :: us,.cons r t,f=>by
  rw [aqP,aoo] at f
  rw [aqs,aqs,aiu r f.1,acV t f.2]
theorem abf {A:Around} {s:Shared} {x:V} {v:Value} (rx:RelV x v) (fx:aaA x=true):∀ {xs:List V} {us:List Value},Vals xs us->xs.all aaA=true->∀ u∈us,SeqAt.EqAt A s u v (eqU x u)
 | _,_,.nil,_=>fun u hu=>by cases hu
 | y :: xs,u :: us,.cons r t,f=>fun u' hu=>by
  rw [aqP,aoo] at f
  rcases aor.mp hu with rfl | hu
  ·rw [aiu r f.1];exact amn r rx f.1 fx
  ·exact abf rx fx t f.2 u' hu
def inV (x:V) (xs:List V):Bool:=xs.any fun y=>eqV y x
def rIn (K:aol) (neg:Bool):R2:=fun x y H Q=>∃ p xs,y=.ref p/\(SqL K H p xs \/ SqT K H p xs)/\aaA x=true/\xs.all aaA=true/\Q (.bl (if neg then !inV x xs else inV x xs)) H
theorem acW:OpR X (compareOp .NotIn) (rIn X.K true):=by
 intro pins s σ H x y v u Q I rx ry h
 obtain⟨p,xs,rfl,hq,fx,fs,q⟩:=h
 cases ry
 rcases hq with hq | hq
 ·obtain⟨its,r,pl,hz⟩:=I.list hq
  refine SeqAt.notIn_listAt (eqU x) pl.isList (fun w hw=>abf rx fx r fs w (by simpa using hw)) ⟨.bl _,H,I,rfl,?_⟩
  rw [show its.toArray.any (eqU x)=its.any (eqU x) by simp,acV r fs]
  exact q
 ·obtain⟨its,r,pl,hz⟩:=I.tuple hq
  refine SeqAt.notIn_tupleAt (eqU x) pl (fun w hw=>abf rx fx r fs w (by simpa using hw)) ⟨.bl _,H,I,rfl,?_⟩
  rw [show its.toArray.any (eqU x)=its.any (eqU x) by simp,acV r fs]
  exact q
theorem acX:yy X (.builtin "len") (fun xs H Q=>∃ p ys,xs=[.ref p]/\(SqL X.K H p ys \/ SqT X.K H p ys)/\Q (.int ys.length) H):=by
 intro pins s σ H xs us Q I r h
 obtain⟨p,ys,rfl,hq,q⟩:=h
 obtain⟨u,rfl,rx⟩:=vals1 r
 cases rx
 have hn:=abc
 rcases hq with hq | hq
 ·obtain⟨its,r',pl,hz⟩:=I.list hq
  have hlen:=r'.length
  exact Calls.call_len_list pl.isList (by simp only [aoD] <;> omega) ⟨.int ys.length,H,I.tok _,⟨s.toks+1,by rw [aoD,hlen]⟩,q⟩
 ·obtain⟨its,r',pl,hz⟩:=I.tuple hq
  have hlen:=r'.length
  exact len_tuple pl (by simp only [aoD] <;> omega) ⟨.int ys.length,H,I.tok _,⟨s.toks+1,by rw [aoD,hlen]⟩,q⟩
theorem abT:yy X (.type "tuple") (fun xs H Q=>∃ p ys,xs=[.ref p]/\((SqL X.K H p ys/\∀ l,H l=none->Q (.ref l) (upd H l (.tup ys))) \/ (SqT X.K H p ys/\Q (.ref p) H))):=by
 intro pins s σ H xs us Q I r h
 obtain⟨p,ys,rfl,h⟩:=h
 obtain⟨u,rfl,rx⟩:=vals1 r
 cases rx
 rcases h with⟨hq,q⟩ | ⟨hq,q⟩
 ·obtain⟨its,r',pl,hz⟩:=I.list hq
  have hlen:=r'.length
  refine call_tuple_list pl.isList (fun h' kp=>?_) (by simp only [aoD] <;> omega)
  have I1:Inv X pins σ H { s with heap:=h' }:=I.kept (t':=s.toks) kp
  have I2:Inv X pins σ (upd H h'.objs.size (.tup ys)) { s with heap:=h'.push { cls:=.type "tuple",data:=.seq its.toArray } } :=
   I1.laid (t':=s.toks) (fun b o e=>aot _ e) (aop _) (show ObjOk X.prog X.w _ _ _ (.tup ys) from⟨hz,its,r',IsTup.new _ _⟩)
  exact⟨.ref h'.objs.size,_,I2,rfl,q _ (I1.hok.fresh (aop _))⟩
 ·obtain⟨its,r',pl,hz⟩:=I.tuple hq
  exact call_tuple_same pl ⟨.ref p,H,I,rfl,q⟩
def tyV (K:aol) (T:String) (x:V) (H:Hp):Prop:=match x with
 | .str _=>T="str"
 | .int _=>T="int"
 | .ref p=>(T="list"/\∃ xs,SqL K H p xs) \/ (T="tuple"/\∃ o,K.lookup p=some o/\o.cls=.type "tuple"/\o.dict=none) \/
   (T="dict"/\((∃ kvs,H p=some (.dK kvs)) \/ ∃ kvs,H p=some (.dT kvs))) \/ (T="set"/\∃ S n,H p=some (.set S n))
 | _=>False
theorem aiv {pins:List (Addr×Obj)} {σ:St} {H:Hp} {s:Shared} {T:String} {x:V} {v:Value} (I:Inv X pins σ H s) (r:RelV x v) (ty:tyV X.K T x H) :
  s.TypeIs v T/\∀ a,v=.ref a->∃ ob,s.heap.get? a=some ob/\ob.dict=none:=by
 cases x with
 | str z =>
  obtain⟨t,rfl⟩:=r
  cases (show T="str" from ty)
  exact⟨typeIs_str s z t,fun _ e=>nomatch e⟩
 | int i =>
  obtain⟨t,rfl⟩:=r
  cases (show T="int" from ty)
  exact⟨typeIs_int s i t,fun _ e=>nomatch e⟩
 | ref p =>
  cases r
  rcases ty with⟨rfl,xs,hq⟩ | ⟨rfl,o,hk,hc,hd⟩ | ⟨rfl,hk⟩ | ⟨rfl,S,n,hk⟩
  ·obtain⟨its,_,pl,_⟩:=I.list hq
   refine⟨pl.isList.typeIs,fun a e=>?_⟩
   cases e
   obtain⟨o,n,e,c,hd,_⟩:=pl
   exact⟨o,e,hd⟩
  ·refine⟨⟨o,I.kIn p o hk,hc⟩,fun a e=>?_⟩
   cases e
   exact⟨o,I.kIn _ o hk,hd⟩
  ·have z:∃ o,s.heap.get? p=some o/\o.ExactDict:=by
    rcases hk with⟨kvs,hk⟩ | ⟨kvs,hk⟩
    ·obtain⟨_,_,_,_,o,_,_,e,ex,_⟩:=I.hok p _ hk
     exact⟨o,e,ex⟩
    ·obtain⟨_,_,_,_,o,_,_,e,ex,_⟩:=I.hok p _ hk
     exact⟨o,e,ex⟩
   obtain⟨o,e,ex⟩:=z
   refine⟨⟨o,e,ex.1⟩,fun a e2=>?_⟩
   cases e2
   exact⟨o,e,ex.2.1⟩
  ·obtain⟨o,_,_,_,e,ex,_⟩:=I.hok p _ hk
   refine⟨⟨o,e,ex.1⟩,fun a e2=>?_⟩
   cases e2
   exact⟨o,e,ex.2.1⟩
 | _=>exact ap3 ty
def ant (K:aol) (T:String) (r:V->List V->Hp->VK->Prop) (to:TE):TE:=fun σ H Q=>to σ H fun x H1=>tyV K T x H1/\r x [] H1 Q
def tBM (K:aol) (T:String) (r:V->List V->Hp->VK->Prop) (to:TE) (t:TA):TE:=fun σ H Q=>to σ H fun x H1=>tyV K T x H1/\t σ H1 fun xs H2=>r x xs H2 Q
variable {o e:Expr} {es:List Expr} {to:TE} {t:TA} {name:Str} {apos cpos:Pos} {T id:String} {r:V->List V->Hp->VK->Prop}
theorem amo (pa:PlainAttrs T) (slot:Slot T name id) (hty:typeOf (.builtin id)=pure (.type "method_descriptor")) (hm:MtR X id r) (ho:PE X o to)
  (hbase:attributeBase o name X.env (eval o X.env)=eval o X.env:=by rfl) (hline:(apos.endLine == cpos.line)=true:=by rfl):PE X (.Call (.Attribute o name apos) [] [] cpos) (ant X.K T r to):=by
 intro pins s σ H Q I h
 refine wpAny_Call_method0_late hbase hline (thn (ho pins s σ H _ I h) fun v s1 ⟨x,H1,I1,r1,ty,q1⟩=>?_)
 obtain⟨h1,h2⟩:=aiv I1 r1 ty
 exact⟨T,id,pa,slot,hty,h1,h2,aqB rfl (PySem.evalArgs_none (hm pins s1 σ H1 x [] v [] Q I1 r1 .nil q1))⟩
theorem aaB (pa:PlainAttrs T) (slot:Slot T name id) (hty:typeOf (.builtin id)=pure (.type "method_descriptor")) (hm:MtR X id r) (ho:PE X o to) (ha:PA X (e :: es) t)
  (hbase:attributeBase o name X.env (eval o X.env)=eval o X.env:=by rfl)
  (hfew:((backTo cpos (starEach (e :: es) X.env)).all (fun x=>!x.1) && (backToKw cpos (keywordEach [] X.env)).all (fun x=>x.1.isSome)
   && decide ((e :: es).length+([]:List Keyword).length+(if ([]:List Keyword).isEmpty then 0 else 1)<30))=true:=by rfl)
  (hline:(apos.endLine == cpos.line)=true:=by rfl) (hs:starEach (e :: es) X.env=(false,eval e X.env) :: starEach es X.env:=by rfl) (hplain:(backTo cpos (starEach es X.env)).any (·.1)=false:=by rfl) :
  PE X (.Call (.Attribute o name apos) (e :: es) [] cpos) (tBM X.K T r to t):=by
 intro pins s σ H Q I h
 refine wpAny_Call_method_late hbase hfew hline rfl (thn (ho pins s σ H _ I h) fun v s1 ⟨x,H1,I1,r1,ty,q1⟩=>?_)
 obtain⟨h1,h2⟩:=aiv I1 r1 ty
 refine⟨T,id,pa,slot,hty,h1,h2,?_⟩
 have hA:=ha cpos pins s1 σ H1 _ I1 q1
 rw [hs] at hA ⊢
 refine aqB (by show (false || (backTo cpos (starEach es X.env)).any (·.1))=false;rw [hplain] <;> rfl) (arN ?_)
 exact thn hA fun us s2 ⟨vs,H2,I2,r2,q2⟩=>hm pins s2 σ H2 x vs v us Q I2 r1 r2 q2
/- xs.append(e),list.index on a module's tuple .. are MtR facts of 06m -/
end
def MtM (X:Cx) (id:String) (r:V->List V->Hp->VK->Prop):Prop :=
 ∀ (pins:List (Addr×Obj)) (s:Shared) (σ:St) (H:Hp) (x:V) (xs:List V) (v:Value) (us:List Value) (Q:VK),Inv X pins σ H s->RelV x v->Vals xs us->r x xs H Q ->
  wpAny (model X.prog X.w) X.A (call (.builtin id) (v :: us)) (EP X pins σ Q) X.xe s
theorem Vals.one:∀ {x:V} {us:List Value},Vals [x] us->∃ u,us=[u]/\RelV x u
 | _,_,.cons r .nil=>⟨_,rfl,r⟩
theorem Vals.zero:∀ {us:List Value},Vals [] us->us=[]
 | _,.nil=>rfl
theorem Vals.dropLast {xs:List V} {us:List Value} (h:Vals xs us):Vals xs.dropLast us.dropLast:=by
 induction h with
 | nil=>exact .nil
 | cons r t ih =>
  cases t with
  | nil=>exact .nil
  | cons q t'=>exact .cons r ih
theorem afb {α:Type} (l:List α):l.eraseIdx (l.length - 1)=l.dropLast:=by
 induction l with
 | nil=>rfl
 | cons a r ih =>
  cases r with
  | nil=>rfl
  | cons b r =>
   have e:(a :: b :: r).length - 1=((b :: r).length - 1)+1:=by
    have h1:(a :: b :: r).length=r.length+2:=rfl
    have h2:(b :: r).length=r.length+1:=rfl
    omega
   rw [e,List.eraseIdx_cons_succ,ih]
   all_goals rfl
section
variable {X:Cx} {pins:List (Addr×Obj)} {σ:St} {H:Hp} {s:Shared} {l b:Addr} {xs ys zs:List V}
theorem Inv.lset {its its':List Value} {n:Nat} {f:Array Value->Array Value} {t':Nat} (I:Inv X pins σ H s) (hH:H l=some (.lst xs))
  (e:s.heap.get? l=some { cls:=.type "list",data:=.seq its.toArray n }) (hf:f its.toArray=its'.toArray) (hv:Vals ys its') (hz:ys.length<=sizeLine) :
  Inv X pins σ (upd H l (.lst ys)) { s with heap:=s.heap.update l (aqh f),toks:=t' }:=by
 have q:=PySem.IsL.update e f
 rw [hf] at q
 refine I.write (x:=l) (e:=l) (by rw [hH];exact trivial) (.inl rfl) (fun b' u hb hu=>(apH s.heap (aqh f) (apC hb)).trans hu) ⟨_,q⟩ ?_
 exact⟨hz,its',_,hv,q⟩
theorem Inv.lnew {its:List Value} {t':Nat} (I:Inv X pins σ H s) (hv:Vals ys its) (hz:ys.length<=sizeLine) :
  Inv X pins σ (upd H s.heap.objs.size (.lst ys)) { s with heap:=s.heap.push { cls:=.type "list",data:=.seq its.toArray },toks:=t' } :=
 I.laid (fun _ _ q=>aot _ q) (aop _) ⟨hz,its,0,hv,aoM _ rfl⟩
theorem Inv.fresh (I:Inv X pins σ H s):H s.heap.objs.size=none:=I.hok.fresh (aop _)
theorem Inv.lstM (I:Inv X pins σ H s) (hH:H l=some (.lst xs)):xs.length<=sizeLine/\∃ (its:List Value) (n:Nat),Vals xs its/\xs.length=its.length/\s.heap.get? l=some { cls:=.type "list",data:=.seq its.toArray n }:=by
 obtain⟨z,its,n,r,e⟩:=I.hok l _ hH
 exact⟨z,its,n,r,r.length,e⟩
end
section
variable {X:Cx}
def af8:V->List V->Hp->VK->Prop:=fun x vs H Q=>∃ l xs y,x=.ref l/\vs=[y]/\H l=some (.lst xs)/\xs.length<sizeLine/\Q .non (upd H l (.lst (xs++[y])))
theorem yP:MtM X "list.append" af8:=by
 intro pins s σ H x vs v us Q I rx rv h
 obtain⟨l,xs,y,rfl,rfl,hH,hz,q⟩:=h
 cases rx
 obtain⟨u,rfl,ru⟩:=rv.one
 obtain⟨z,its,n,r,hl,e⟩:=I.lstM hH
 refine call_meets F.slot_list_append ⟨_,e,rfl⟩ arW (arO _ _) (PySem.list_append l its.toArray n u (by rw [aoD];omega)) ⟨e,?_⟩
 refine⟨.non,_,I.lset (its':=its++[u]) hH e (by simp) (r.append (.cons ru .nil)) ?_,rfl,q⟩
 rw [aox,ao4]
 omega
def anu:V->List V->Hp->VK->Prop:=fun x vs H Q=>∃ l xs y,x=.ref l/\vs=[]/\H l=some (.lst xs)/\xs[xs.length - 1]?=some y/\Q y (upd H l (.lst xs.dropLast))
theorem amq:MtM X "list.pop" anu:=by
 intro pins s σ H x vs v us Q I rx rv h
 obtain⟨l,xs,y,rfl,rfl,hH,hy,q⟩:=h
 cases rx
 have hus:=rv.zero
 subst hus
 obtain⟨z,its,n,r,hl,e⟩:=I.lstM hH
 obtain⟨u,hu,ru⟩:=r.get hy
 have hy':its.toArray[its.toArray.size - 1]?=some u:=by
  show its.toArray[its.length - 1]?=some u
  rw [<-apQ,<- hl]
  exact hu
 refine call_meets F.slot_list_pop ⟨_,e,rfl⟩ F.entry_list_pop (F.args_list_pop_1 _) (MeetsSeq.list_pop_last l its.toArray n u hy' (by rw [aoD];omega)) ⟨e,?_⟩
 refine⟨y,_,I.lset (its':=its.dropLast) hH e ?_ r.dropLast ?_,ru,q⟩
 ·show its.toArray.eraseIdxIfInBounds (its.toArray.size - 1)=its.dropLast.toArray
  rw [aoD,List.eraseIdxIfInBounds_toArray,afb]
 ·rw [List.length_dropLast]
  omega
end
end L2
namespace Att
open PySem PySem.W PySem.Calls PyProof.Rows
theorem aaK {P:Params} {h:Heap}:∀ (ns:List Int) (vs:List Value),WellAll P h vs (ns.map WData.int)->IntsAre vs ns:=by
 intro ns
 induction ns with
 | nil =>
  intro vs w
  rw [aq2] at w
  cases w
  exact .nil
 | cons n ns ih =>
  intro vs w
  rw [aoI] at w
  cases w with
  | cons a b =>
   cases a
   exact .cons _ _ (ih _ b)
theorem ahh {l:OpenLaw} {n:Nat} (hn:l.most=some n) {P:Params} {h:Heap} {args:List WData} {vals:List Value}
  (hpre:l.row.toRowW.claim.pre args=true) (hwl:WellAll P h vals args) :
  ∃ a vs ns,vals=[Value.ref a]/\args=[WData.list (ns.map WData.int)]/\h.get? a=some { cls:=.type "list",data:=.seq vs.toArray }/\IntsAre vs ns/\ns.length<=n:=by
 have hsh:WShape.hasAll [] args [.list .int]=true:=(pre_splitW hpre).1
 have hc:l.pre.holds [] { args:=args }=true:=(pre_splitW hpre).2
 obtain⟨d,r,rfl,h1,h2⟩:=hasAllW_cons hsh
 obtain rfl:=hasAllW_nil h2
 obtain⟨xs,rfl,h3⟩:=hasW_list h1
 obtain⟨ns,rfl⟩:=items_int h3
 have hlen:ns.length<=n:=by
  unfold OpenLaw.pre at hc
  have h4:(WTm.not (.lt (.lit (.int (n:Int))) (.len (.arg 0)))).holds [] { args:=[.list (ns.map .int)] }=true:=by
   have h4:=(holds_andW hc).1
   rw [hn] at h4
   exact h4
  have h5:=condW_of h4 (w_not (w_lt w_lit (w_len_list (w_arg rfl))))
  rw [aog] at h5
  refine Nat.le_of_not_lt fun q=>?_
  have q':(n:Int)<((ns.length:Nat):Int):=by omega
  first
   | (rw [decide_eq_true q'] at h5;exact absurd h5 (by decide))
   | (simp at h5;omega)
 cases hwl with
 | cons w1 w2 =>
  cases w2
  cases w1 with
  | list ho hall=>exact⟨_,_,ns,rfl,rfl,ho,aaK ns _ hall,hlen⟩
theorem ahi (l:OpenLaw) (args:List WData):l.row.toRowW.claim.post args (.bool true) args=true :=
 postW_of (r:=l.row.toRowW) (X:=(true == true))
  (show WShape.has [] (.bool true) .bool=true by first | rfl | decide | simp [WShape.has,WShape.arms,WShape.armsAll])
  (show (WTm.eq .res (.lit (.bool true))).value [] { args:=args,res:=some (.bool true),after:=args }=some (.bool (true == true)) from w_eq_bool (w_res rfl) w_lit) rfl
theorem attach_call {l:OpenLaw} {n:Nat} {q:Program} {loose:List Str} {XP:(Str->Option Value)->Heap->Prop} {YP:World->Heap->Prop} {d:DefRec}
  (hn:l.most=some n) (hdf:d.params.defaults=[])
  (call:∀ (w:World) (s₀ s₁:Shared) (mg mb:Str->Option Value) (fa:Addr) (o:Obj) (pm cd doc:Value) (a:Addr) (vs:List Value) (ns:List Int),
   Ground q loose [] XP w s₀ mg mb s₁.heap->YP w s₁.heap ->
   s₁.heap.get? fa=some o->o.data=.func (docDef d.name d.params d.body d.scope pm cd doc)->s₁.heap.CodeRec cd d.name->mg d.name=some (.ref fa) ->
   s₁.heap.get? a=some { cls:=.type "list",data:=.seq vs.toArray }->IntsAre vs ns->ns.length<=n->s₁.gens=#[] ->
   codeAny (model l.prog w) callerA (.call (.ref fa) ⟨[.ref a],[]⟩) (fun r s'=>r=.ok (.ret (.bool true))/\OldK s₁.heap s'.heap/\s'.os=s₁.os/\AllBare s'.gens) s₁) :
  WalkO q loose XP YP l.row.toRowW d [] (fun f vs=>PySem.call f vs):=by
 intro w s₀ s₁ mg mb G Y fa o pm cd doc dV kV ho hd hcd hD hmg hg args vals as hpre hlay hrd hwl hlo
 obtain rfl:dV=.none:=Dflts.none hD hdf
 obtain rfl:kV=.none:=Dflts.noKw hD
 obtain⟨a,vs,ns,rfl,rfl,hobj,hints,hlen⟩:=ahh hn hpre hwl
 refine enter_call (codeAny_mono (call w s₀ s₁ mg mb fa o pm cd doc a vs ns G Y ho (fd_plain hd) hcd hmg hobj hints hlen hg) fun r s' hq=>?_)
 obtain⟨rfl,h2,h3,h4⟩:=hq
 exact⟨.inl ⟨.bool true,.bool true,[],rfl,fun _=>rfl,.bool true,ahi l _,fun _=>⟨List.Pairwise.nil,fun _ hm=>(nomatch hm)⟩⟩,h2,h3,h4⟩
section
variable {prog:Program} {w:World} {A:Around} {E:Value->Shared->Prop} {s:Shared} {K:Frag}
end
end Att
namespace L2
open PySem PySem.Spec PyProof.Rows
theorem ach:∀ {vs:List Value} {ns:List Int},IntsAre vs ns->Vals (ns.map V.int) vs
 | _,_,.nil=>.nil
 | _,_,.cons n t h=>.cons ⟨t,rfl⟩ (ach h)
def amr (H:Hp):Prop:=∀ b,H b=none \/ ∃ o xs,H b=some (.frz o (.lst xs))
theorem aiw {P:Program} {w:World} {K:aol} {mg mb:Str->Option Value} {CX:CXT} {k:Nat} {fa a:Addr} {fd:FuncData} {x:Str} {sp:Sp} {s₁:Shared} {vs:List Value} {ns:List Int}
  (KX:K.In s₁.heap) (hns:s₁.heap.Ns mainGlobals mg) (hb:s₁.heap.Ns builtinsNs mb) (hbb:∀ x:Str,x ≠ "__name__"->mb x=bootBuiltins x) (hlim:s₁.heap.NoLimit) (hg:s₁.gens=#[])
  (ha:s₁.heap.get? a=some { cls:=.type "list",data:=.seq vs.toArray }) (hi:IntsAre vs ns) (hl:ns.length<=sizeLine) (hr:Room k callerA)
  (F:∀ base:Heap,K.In base->base.Ns mainGlobals mg->FnOk P w K mg base CX k fa fd [x] sp) (hbind:∀ (s:Shared) (u:Value),BindsTo s fd ⟨[u],[]⟩ [(x,u)])
  (hsp:∀ H:Hp,amr H->SqL K H a (ns.map V.int)->sp [.ref a] H (fun v _=>v=.bl true) fun _ _ _=>False)
  (hCX:∀ H e s',CX [] H s₁ (fun _ _ _=>False) e s'->False) :
  codeAny (model P w) callerA (.call (.ref fa) ⟨[.ref a],[]⟩) (fun r s'=>r=.ok (.ret (.bool true))/\OldK s₁.heap s'.heap/\s'.os=s₁.os/\AllBare s'.gens) s₁:=by
 have rv:=ach hi
 have lenV:=hi.length
 -- from an abstract heap in which nothing but the script may be tracked
 have core:∀ H:Hp,amr H->SqL K H a (ns.map V.int)->HOk P w H s₁.heap->(∀ b,H b≠none->b=a)->(H a≠none->K.lookup a=none) ->
   codeAny (model P w) callerA (.call (.ref fa) ⟨[.ref a],[]⟩) (fun r s'=>r=.ok (.ret (.bool true))/\OldK s₁.heap s'.heap/\s'.os=s₁.os/\AllBare s'.gens) s₁:=by
  intro H hO hS hok hA hK
  have base_of:∀ {b:Addr} {o:Obj},s₁.heap.get? b=some o->H b=none->(acS s₁.heap H).get? b=some o:=fun e n=>aif e n
  have noA:∀ {b:Addr} {o:Obj} {es:Array DictEntry} {ep:Nat},s₁.heap.get? b=some o->o.data=.dict es ep->H b=none:=fun {b o es ep} e d=>by
   cases q:H b with
   | none=>rfl
   | some u =>
    have e':b=a:=hA b (by rw [q];simp)
    subst e'
    rw [ha] at e;cases e
    have d':Data.seq vs.toArray _=Data.dict es ep:=d
    cases d'
  have nsK:∀ {b:Addr} {m:Str->Option Value},s₁.heap.Ns b m->(acS s₁.heap H).Ns b m:=fun {b m} ⟨o,es,ep,e,d,r⟩=>⟨o,es,ep,base_of e (noA e d),d,r⟩
  have hKb:K.In (acS s₁.heap H):=fun b o e=>base_of (KX b o e) (by
   cases q:H b with
   | none=>rfl
   | some u =>
    have e':b=a:=hA b (by rw [q];simp)
    subst e'
    rw [hK (by rw [q];simp)] at e;cases e)
  have hM:Mod K mg (acS s₁.heap H):=⟨hKb,nsK hns,⟨mb,nsK hb,hbb⟩,let⟨mc,h1,h2⟩:=hlim;⟨mc,nsK h1,h2⟩⟩
  have e0:Env0 P w K mg (acS s₁.heap H) callerA [] s₁ H:=⟨rfl,hM,fun b o e=>akj e,ap5 (ahb _ _),trivial,fun b hb=>absurd (show b∈([]:List Addr) from hb) (by simp),hok,.of_eq hg⟩
  refine codeAny_mono ((F _ hKb (nsK hns)).run callerA [] s₁ H ⟨[.ref a],[]⟩ [.ref a] [.ref a] _ _ hr e0 (hbind s₁ (.ref a)) (.cons rfl .nil) (hsp H hO hS)) fun r s' h=>?_
  cases r with
  | error e=>exact (hCX H e s' h).elim
  | ok fl =>
   cases fl with
   | next=>exact ap3 h
   | brk=>exact ap3 h
   | cont=>exact ap3 h
   | ret u =>
    obtain⟨v,H',os,bare,un,hok',r',q⟩:=h
    have q':v=.bl true:=q
    subst q'
    obtain rfl:u=Value.bool true:=r'
    refine⟨rfl,OldK.of_keep fun b o e=>?_,os,bare⟩
    cases q:H b with
    | none=>exact un.keep b o e q (by intro z;exact absurd (show b∈([]:List Addr) from z) (by simp)) (by simp)
    | some u =>
     rcases hO b with z | ⟨ob,xs,z⟩
     ·rw [q] at z;cases z
     ·have z2:=un.frzs b ob _ z
      obtain⟨e1,_⟩:=hok b _ z
      obtain⟨e2,_⟩:=hok' b _ z2
      rw [e] at e1;cases e1
      exact e2
 cases hk:K.lookup a with
 | some o =>
  -- the script is one of the module's own objects
  have e:=KX a o hk
  rw [ha] at e
  cases e
  refine core (fun _=>none) (fun _=>.inl rfl) (.inr ⟨_,vs.toArray,_,hk,rfl,rfl,rfl,by rw [aoD,lenV];exact hl,by simpa using rv⟩) (fun b u z=>by have z':(none:Option HO)=some u:=z;cases z') (fun b z=>absurd rfl z) fun z=>absurd rfl z
 | none =>
  refine core (fun b=>if b=a then some (.frz { cls:=.type "list",data:=.seq vs.toArray } (.lst (ns.map V.int))) else none) (fun b=>?_) (.inl (.inr ⟨{ cls:=.type "list",data:=.seq vs.toArray },if_pos rfl⟩)) (fun b u z=>?_) (fun b z=>?_) fun _=>hk
  ·by_cases hb:b=a
   ·exact .inr ⟨_,_,if_pos hb⟩
   ·exact .inl (if_neg hb)
  ·by_cases hb:b=a
   ·have z':=(if_pos hb).symm.trans z
    cases z'
    subst hb
    exact⟨ha,by rw [aog];exact hl,vs,_,rv,ha⟩
   ·have z':=(if_neg hb).symm.trans z
    cases z'
  ·by_cases hb:b=a
   ·exact hb
   ·exact absurd (if_neg hb) z
abbrev KOf {K:aol} {h:Heap} (_:K.In h):aol:=K
theorem walk_of {l:PySem.W.OpenLaw} {n k:Nat} {q:Program} {loose:List Str} {XP:(Str->Option Value)->Heap->Prop} {YP:World->Heap->Prop} {d:DefRec} {K:Params->aol} {CX:World->CXT} {sp:World->Sp} {x:Str}
  (hn:l.most=some n) (hn2:n<=sizeLine) (hdf:d.params.defaults=[]) (hr:Room k callerA)
  (hY:∀ (w:World) (h:Heap),YP w h->(K w.params).In h)
  (F:∀ (w:World) (mg:Str->Option Value) (fa:Addr) (h:Heap),(K w.params).In h->h.Ns mainGlobals mg->mg d.name=some (.ref fa) ->
   ∃ fd:FuncData,(∀ (s:Shared) (u:Value),BindsTo s fd ⟨[u],[]⟩ [(x,u)]) /\
    ∀ base:Heap,(K w.params).In base->base.Ns mainGlobals mg->FnOk l.prog w (K w.params) mg base (CX w) k fa fd [x] (sp w))
  (hsp:∀ (w:World) (H:Hp) (a:Addr) (ns:List Int),ns.length<=n->amr H->SqL (K w.params) H a (ns.map V.int)->sp w [.ref a] H (fun v _=>v=.bl true) fun _ _ _=>False)
  (hCX:∀ (w:World) (H:Hp) (s:Shared) (e:Value) (s':Shared),CX w [] H s (fun _ _ _=>False) e s'->False) :
  PySem.W.WalkO q loose XP YP l.row.toRowW d [] (fun f vs=>PySem.call f vs):=by
 refine Att.attach_call hn hdf fun w s₀ s₁ mg mb fa o pm cd doc a vs ns G Y ho hd hcd hmg hobj hints hlen hg=>?_
 have KX:=hY w _ Y
 obtain⟨fd,hb,hF⟩:=F w mg fa _ KX G.T.g hmg
 exact aiw KX G.T.g G.T.b G.T.builtins G.T.nolimit hg hobj hints (aoN hlen hn2) hr hF hb (fun H hO hS=>hsp w H a ns hlen hO hS) fun H e s'=>hCX w H s₁ e s'
end L2
/- THE LAST THEOREM (shape;LID,My.* are yours):
   My.Adr: a structure of the addresses that your layer names (classes,functions);My.Txt K t: a structure (Prop) of the equations over K;
   My.txt_mk:{K} {implicit addresses ..} (e1:nsIn K mainGlobals "law"=some (some (.ref f))) (e2:K.lookup f=some ⟨oc,od,.func (fnOf "law" "law" params body scope dV kV doc pm an cdv ct),sl⟩) (e3:codeIn K cdv "law"=true) ..:∃ t,My.Txt K t
set_option maxRecDepth 100000 in
set_option maxHeartbeats 0 in
theorem PySem.Challenge.cw_LID_holds : PySem.Challenge.rw_LID.Holds := by
 w_on;o_law;k_head;(case hw=>w_witness2)
 k_fill
 refine L2.walk_of (l:=PySem.Challenge.rw_LID) (n:=63) (k:=40) (x:="script") (CX:=fun w=>..) (sp:=fun _=>My.sp_law) rfl (by decide) rfl ⟨rfl,by decide,by decide⟩ (fun w h Y=>PySem.W.kIn_of Y) ?F ?S ?C
 case F =>
  intro w mg fa h KX G hmg
  have T:∃ t,My.Txt (L2.KOf KX) t:=by
   dsimp only [L2.KOf]                          -- K must stand as «<heap const> w.params» for k_is
   refine' My.txt_mk ?e1 ?e2 ?e3 ..
   (case e1=>PySem.W.k_is)                    -- in the order: a name->its address->its object->its parts
   (case e2=>PySem.W.k_is)
   ..
  obtain⟨t,T⟩:=T
  have e0:=hmg.symm.trans (apL KX G T.law)
  cases e0                                       -- fa is the law's own address
  exact⟨_,fun s u=>.of_eq rfl,fun base kb nb=>My.law_fn T kb nb⟩     -- if «.of_eq rfl» comes too early: refine' ⟨_,?b,fun base kb nb=>My.law_fn T kb nb⟩;exact fun s u=>.of_eq rfl
 case S=>exact fun w H a ns hl hO hS=>..
 case C=>exact ..
(the tactic k_is has no namespace: write k_is) -/
namespace L2
open PySem PySem.Spec PyProof.Rows
def qj (s:Stmt):Arguments:=match s with
 | .FunctionDef _ a _ _ _ _ _ _ _ _=>a
 | _=>{ posonlyargs:=[],args:=[],vararg:=none,kwonlyargs:=[],kw_defaults:=[],kwarg:=none,defaults:=[] }
def yK (s:Stmt):List Stmt:=match s with
 | .FunctionDef _ _ b _ _ _ _ _ _ _=>b
 | _=>[]
def zj (s:Stmt):Scope:=match s with
 | .FunctionDef _ _ _ _ _ _ sc _ _ _=>sc
 | _=>{ kind:=.function,names:=[],isGenerator:=false,isCoroutine:=false }
abbrev CX0:CXT:=fun _ _ _ _ _ _=>False
abbrev E0:XK:=fun _ _ _=>False
theorem anv {X:Cx}:Passes CX0 X E0:=fun _ _ _ _ _ _ _ h=>h.elim
structure Fun (K:aol) (x qual:Str) (st:Stmt) (f:Addr) (fd:FuncData):Prop where
 ex:∃ (oc:Value) (od:Option Addr) (kV doc pm:Value) (an:Option Addr) (cdv ct:Value) (osl:Array (Option Value)),
  fd=apV x qual (qj st) (yK st) (zj st) .none kV doc pm an cdv ct/\K.lookup f=some ⟨oc,od,.func fd,osl⟩/\aq5 K cdv qual=true
 kp:apm K (.ref f)=true
section
variable {P:Program} {w:World} {K:aol} {mg:Str->Option Value} {base:Heap}
theorem Fun.ok {x qual:Str} {st:Stmt} {f:Addr} {fd:FuncData} {N ps:List Str} {k:Nat} {sp:Sp} (F:Fun K x qual st f fd) (S:FnScope N ps (zj st)) (len:∀ vs H Q E,sp vs H Q E->vs.length=ps.length)
  (hbody:∀ (cdv:Value) (A:Around) (outer:List Env) (s:Shared) (H:Hp) (vs:List V) (Q:VK) (E:XK),Room k (A.deeper (envOfC qual (zj st) s.heap.objs.size f cdv))->sp vs H Q E ->
   ∃ t,PSs (z5 CX0 P w K mg base N qual (zj st) f cdv A outer s H E).nox (yK st) t/\t { nx:=fun _ H'=>Q .non H',rt:=Q } (start N vs) H):FnOk P w K mg base CX0 (k+1) f fd ps sp:=by
 obtain⟨oc,od,kV,doc,pm,an,cdv,ct,osl,rfl,lk,hcd⟩:=F.ex
 refine ans lk hcd S len fun A outer s H vs Q E hr hsp=>?_
 obtain⟨t,h,q⟩:=hbody cdv A outer s H vs Q E hr hsp
 exact⟨t,h.nox,q⟩
theorem Fun.binds {x qual:Str} {st:Stmt} {f:Addr} {fd:FuncData} {ps:List Str} (F:Fun K x qual st f fd)
  (h:∀ (kV doc pm:Value) (an:Option Addr) (cdv ct:Value) (us:List Value),us.length=ps.length->bindArgs (apV x qual (qj st) (yK st) (zj st) .none kV doc pm an cdv ct) ⟨us,[]⟩=pure (ps.zip us)):Binds K fd ps []:=by
 obtain⟨oc,od,kV,doc,pm,an,cdv,ct,osl,rfl,lk,hcd⟩:=F.ex
 exact .all (h kV doc pm an cdv ct)
theorem afc {x qual:Str} {st:Stmt} {f:Addr} {oc:Value} {od an:Option Addr} {osl:Array (Option Value)} {kV doc pm cdv ct:Value} (l:K.lookup f=some ⟨oc,od,.func (apV x qual (qj st) (yK st) (zj st) .none kV doc pm an cdv ct),osl⟩)
  (c:aq5 K cdv qual=true) (k:apm K (.ref f)=true):Fun K x qual st f (apV x qual (qj st) (yK st) (zj st) .none kV doc pm an cdv ct):=⟨⟨oc,od,kV,doc,pm,an,cdv,ct,osl,rfl,l,c⟩,k⟩
end
theorem z7 {n:Nat} (h:n<=1000):n<sizeLine:=Nat.lt_of_le_of_lt h (by decide)
section
variable {X:Cx}
theorem pv (i:Nat) {x:Str} {pos:Pos} (hN:X.N[i]?=some x:=by rfl) (hv:Vis X.env.scope x:=by first | exact Or.inl rfl | exact Or.inr (Or.inl rfl) | exact Or.inr (Or.inr rfl)) (hd:(x == ("__debug__":Str))=false:=by decide)
  (hcd:(x == ("__classdict__":Str))=false:=by decide):PE X (.Name x pos) (yn i):=al8 hN hv hd hcd
end
def Same (H H':Hp):Prop:=∀ b o,H b=some o->H' b=some o
theorem Same.refl (H:Hp):Same H H:=fun _ _ h=>h
theorem Same.trans {H H1 H2:Hp} (a:Same H H1) (b:Same H1 H2):Same H H2:=fun c o h=>b c o (a c o h)
theorem Same.free {H H':Hp} (e:Same H H') {l:Addr} (h:H' l=Option.none):H l=Option.none:=by
 cases q:H l with
 | none=>rfl
 | some o =>
  rw [e l o q] at h
  cases h
theorem Same.seq {K:aol} {H H':Hp} {a:Addr} {xs:List V} (e:Same H H') (h:SqL K H a xs):SqL K H' a xs:=by
 rcases h with (h | ⟨o,h⟩) | h
 ·exact .inl (.inl (e _ _ h))
 ·exact .inl (.inr ⟨o,e _ _ h⟩)
 ·exact .inr h
def z8 (env:Env):List (Str×NameKind)->List (Str×Addr)->List (Str×Addr)
 | [],acc=>acc
 | (x,k) :: r,acc=>if k == .free then z8 env r ((x,(env.cells.lookup x).getD 0) :: acc) else z8 env r acc
theorem afd {sc:Scope} {env:Env} (h:∀ x,(x,NameKind.free)∈sc.names->∃ c,env.cells.lookup x=some c):closureFor sc env=pure (z8 env sc.names []):=by
 have key:∀ (names:List (Str×NameKind)) (acc:List (Str×Addr)),(∀ x,(x,NameKind.free)∈names->∃ c,env.cells.lookup x=some c) ->
   (forIn names acc fun (x:Str×NameKind) (cs:List (Str×Addr))=>if (x.2 == NameKind.free)=true then (do let c <- cellOf env x.1;pure (ForInStep.yield ((x.1,c) :: cs))) else pure (ForInStep.yield cs))=(pure (z8 env names acc):Sem (List (Str×Addr))):=by
  intro names
  induction names with
  | nil=>intro acc _;rfl
  | cons p r ih =>
   intro acc hh
   obtain⟨x,k⟩:=p
   rw [aqb]
   unfold z8
   by_cases hk:(k == NameKind.free)=true
   ·have hk':k=.free:=by simpa using hk
    subst hk'
    obtain⟨c,hc⟩:=hh x aom
    simp only [beq_self_eq_true,if_true]
    rw [<-ih _ fun y hy=>hh y (aon _ hy)]
    have:cellOf env x=pure c:=by unfold cellOf;rw [hc]
    rw [this,hc]
    rfl
   ·simp only [hk,aoY,if_false]
    rw [<-ih _ fun y hy=>hh y (aon _ hy)]
    rfl
 simp only [closureFor]
 have q:=key sc.names [] h
 refine Eq.trans ?_ (Eq.trans (congrArg (fun z=>z >>= fun r=>pure r) q) ?_)
 ·rfl
 ·rfl
theorem qk {env:Env}:∀ {names:List (Str×NameKind)} {acc:List (Str×Addr)} {p:Str×Addr},p∈z8 env names acc->p∈acc \/ ((p.1,NameKind.free)∈names/\p.2=(env.cells.lookup p.1).getD 0)
 | [],acc,p,h=>.inl h
 | (x,k) :: r,acc,p,h=>by
  unfold z8 at h
  split at h
  ·rename_i hk
   have hk':k=.free:=by simpa using hk
   subst hk'
   rcases qk h with q | ⟨q,e⟩
   ·rcases aor.mp q with q | q
    ·subst q;exact .inr ⟨aom,rfl⟩
    ·exact .inl q
   ·exact .inr ⟨aon _ q,e⟩
  ·rcases qk h with q | ⟨q,e⟩
   ·exact .inl q
   ·exact .inr ⟨aon _ q,e⟩
theorem qE {α:Type}:∀ {l:List (Str×α)} {x:Str} {v:α},(x,v)∈l->∃ u,l.lookup x=some u
 | (y,u) :: r,x,v,h=>by
  rw [apg]
  cases hb:x == y with
  | true=>exact⟨u,rfl⟩
  | false =>
   rcases aor.mp h with e | h
   ·have:x=y:=congrArg Prod.fst e
    subst this
    simp at hb
   ·exact qE h
theorem vN {env:Env}:∀ {names:List (Str×NameKind)} {acc:List (Str×Addr)} {x:Str},(x,NameKind.free)∈names->(x,(env.cells.lookup x).getD 0)∈z8 env names acc
 | (y,k) :: r,acc,x,h=>by
  have mono:∀ (names:List (Str×NameKind)) (acc:List (Str×Addr)) (p:Str×Addr),p∈acc->p∈z8 env names acc:=by
   intro names
   induction names with
   | nil=>intro acc p hp;exact hp
   | cons q r ih =>
    intro acc p hp
    obtain⟨a,b⟩:=q
    unfold z8
    split
    ·exact ih _ _ (aon _ hp)
    ·exact ih _ _ hp
  unfold z8
  rcases aor.mp h with e | h
  ·cases e
   simp only [beq_self_eq_true,if_true]
   exact mono _ _ _ aom
  ·split
   ·exact vN h
   ·exact vN h
theorem vw {env:Env} {names:List (Str×NameKind)} {x:Str} {c:Addr} (h:∀ x,(x,NameKind.free)∈names->∃ c,env.cells.lookup x=some c) (e:(z8 env names []).lookup x=some c):env.cells.lookup x=some c/\(x,NameKind.free)∈names:=by
 rcases qk (mem_of_lookup e) with q | ⟨q,e'⟩
 ·cases q
 ·obtain⟨c',hc⟩:=h _ q
  dsimp only at hc e'
  rw [hc] at e'
  exact⟨by rw [hc];exact congrArg some e'.symm,q⟩
theorem aaC {env:Env} {names:List (Str×NameKind)} {x:Str} {c:Addr} (h:∀ x,(x,NameKind.free)∈names->∃ c,env.cells.lookup x=some c) (hx:(x,NameKind.free)∈names) (e:env.cells.lookup x=some c):(z8 env names []).lookup x=some c:=by
 obtain⟨u,hu⟩:=qE (vN (env:=env) (acc:=[]) hx)
 have:=(vw h hu).1
 rw [this] at e
 rw [hu,e]
theorem yY:∀ {names:List (Str×NameKind)} {n:Nat} {acc:List (Str×Addr)} {x:Str} {c:Addr},(cellsFrom n names acc).lookup x=some c->(n<=c/\c<n+names.length/\(x,NameKind.cell)∈names) \/ (acc.lookup x=some c/\(x,NameKind.cell)∉names)
 | [],n,acc,x,c,h=>.inr ⟨h,by simp⟩
 | (y,k) :: r,n,acc,x,c,h=>by
  unfold cellsFrom at h
  split at h
  ·rename_i hk
   have hk':k=.cell:=by simpa using hk
   subst hk'
   rcases yY h with⟨q1,q2,q3⟩ | ⟨q1,q2⟩
   ·exact .inl ⟨aqC q1,aoL q2 (by rw [aoE];omega),aon _ q3⟩
   ·rw [apg] at q1
    cases hb:x == y with
    | true =>
     rw [hb] at q1
     cases q1
     have:x=y:=by simpa using hb
     subst this
     exact .inl ⟨aop _,by rw [aoE];exact Nat.lt_add_of_pos_right (aqD _),aom⟩
    | false =>
     rw [hb] at q1
     refine .inr ⟨q1,fun z=>?_⟩
     rcases aor.mp z with e | z
     ·have:x=y:=congrArg Prod.fst e
      subst this
      simp at hb
     ·exact q2 z
  ·rename_i hk
   rcases yY h with⟨q1,q2,q3⟩ | ⟨q1,q2⟩
   ·exact .inl ⟨q1,aoL q2 (by rw [aoE];omega),aon _ q3⟩
   ·refine .inr ⟨q1,fun z=>?_⟩
    rcases aor.mp z with e | z
    ·have:k=.cell:=(congrArg Prod.snd e).symm
     subst this
     simp at hk
    ·exact q2 z
theorem je:∀ (names:List (Str×NameKind)) (n:Nat) (acc:List (Str×Addr)),(acc.Pairwise fun x y=>x.2≠y.2)->(∀ p∈acc,p.2<n)->(cellsFrom n names acc).Pairwise fun x y=>x.2≠y.2
 | [],n,acc,h,_=>h
 | (y,k) :: r,n,acc,h,hl=>by
  unfold cellsFrom
  split
  ·refine je r (n+1) _ (apt.mpr ⟨fun p hp=>?_,h⟩) fun p hp=>?_
   ·exact aq1 (hl p hp)
   ·rcases aor.mp hp with e | hp
    ·subst e;exact arx _
    ·exact apD (hl p hp)
  ·exact je r n acc h hl
theorem abU {names:List (Str×NameKind)} {n:Nat} {acc:List (Str×Addr)} {x:Str} (h:names.lookup x=some .cell):∃ c,(cellsFrom n names acc).lookup x=some c :=
 aqr.mp (ap4 names n acc (.inl h))
theorem vy {names:List (Str×NameKind)} {n:Nat} {acc:List (Str×Addr)} {x:Str} (h:(acc.lookup x).isSome=true):∃ c,(cellsFrom n names acc).lookup x=some c :=
 aqr.mp (ap4 names n acc (.inr h))
theorem jS:∀ (names:List (Str×NameKind)) (h:Heap) (acc:List (Str×Addr)) (x:Str) (c:Addr),(cellsFrom h.objs.size names acc).lookup x=some c->h.objs.size<=c->(∀ p∈acc,p.2<h.objs.size)->(pushCells h names).IsCell c none
 | [],h,acc,x,c,e,hc,hl=>absurd (hl _ (mem_of_lookup e)) (Nat.not_lt.mpr hc)
 | (y,k) :: r,h,acc,x,c,e,hc,hl=>by
  unfold cellsFrom at e
  unfold pushCells
  split at e
  ·rename_i hk
   rw [if_pos hk]
   by_cases hcc:c=h.objs.size
   ·subst hcc
    exact⟨_,pushCells_keeps _ _ _ _ (aoM _ rfl),rfl⟩
   ·have es:(h.push { cls:=.type "cell",data:=.cell none }).objs.size=h.objs.size+1:=aq6 ..
    refine jS r _ ((y,h.objs.size) :: acc) x c (by rw [es];exact e) (by rw [es];exact Nat.lt_of_le_of_ne hc (apC hcc)) fun p hp=>?_
    rw [es]
    rcases aor.mp hp with e | hp
    ·subst e;exact arx _
    ·exact apD (hl p hp)
  ·rename_i hk
   rw [if_neg hk]
   exact jS r h acc x c e hc hl
def zl (X:Cx) (sc:Scope) (N:List Str) (s₀:Shared) (H₀:Hp) (ex:List Addr) (pn:List (Addr×Obj)):Cx :=
 { X with N:=N,s₀:=s₀,H₀:=H₀,env:=compEnvC sc (cellsFrom (s₀.heap.objs.size+1) sc.names (z8 X.env sc.names [])) s₀.heap.objs.size X.env,
          outer:=X.stack,ex:=ex,fn:=fun x=>decide (sc.names.lookup x=some .cell),pn:=pn,xe:=fun _ _=>False }
structure CompScope (NO:List Str) (scO:Scope) (N:List Str) (sc:Scope) (own:Nat) (fr:List Nat):Prop where
 kind:sc.kind=.function
 nd:N.Nodup
 snd:(sc.names.map (·.1)).Nodup
 free:∀ p∈sc.names,p.2=.free->scO.names.lookup p.1=some .cell \/ scO.names.lookup p.1=some .free
 frn:∀ p∈(N.drop own).zip fr,NO[p.2]?=some p.1/\sc.names.lookup p.1=some .free
 len:N.length=own+fr.length
def jf (own:Nat) (fr:List Nat) (σ:St):St:=apN own none++fr.map fun j=>(σ[j]?).getD none
theorem yc {α:Type}:∀ {l:List (Str×α)} {x:Str} {k:α},(l.map (·.1)).Nodup->(x,k)∈l->l.lookup x=some k
 | (y,u) :: r,x,k,nd,h=>by
  rw [aoI] at nd
  obtain⟨h1,h2⟩:=ao7.mp nd
  rw [apg]
  rcases aor.mp h with e | h'
  ·cases e;simp
  ·have:x≠y:=by
    intro e
    subst e
    exact h1 (aoC.mpr ⟨(x,k),h',rfl⟩)
   rw [beq_eq_false_iff_ne.mpr this]
   exact yc h2 h'
theorem jw {env:Env}:∀ {names:List (Str×NameKind)} {x:Str} {k:NameKind},names.lookup x=some k ->
  (names.map fun (n,k)=>if (k == NameKind.free && env.scope.kind == .function && env.kindOf n == some .cell) then (n,NameKind.cell) else (n,k)).lookup x=some (if (k == NameKind.free && env.scope.kind == .function && env.kindOf x == some .cell) then .cell else k)
 | (n,k') :: r,x,k,h=>by
  have ih:=@jw env r x k
  show List.lookup x ((if (k' == NameKind.free && env.scope.kind == .function && env.kindOf n == some .cell)=true then (n,NameKind.cell) else (n,k')) :: _)=_
  cases hx:x == n with
  | true =>
   have:x=n:=by simpa using hx
   subst this
   simp only [apg,hx] at h
   cases h
   split <;> simp [apg]
  | false =>
   simp only [apg,hx] at h
   split
   ·simp only [apg,hx];exact ih h
   ·simp only [apg,hx];exact ih h
theorem jj {env:Env}:∀ {names:List (Str×NameKind)} {x:Str},names.lookup x=none ->
  (names.map fun (n,k)=>if (k == NameKind.free && env.scope.kind == .function && env.kindOf n == some .cell) then (n,NameKind.cell) else (n,k)).lookup x=none
 | [],_,_=>rfl
 | (n,k') :: r,x,h=>by
  have ih:=@jj env r x
  show List.lookup x ((if (k' == NameKind.free && env.scope.kind == .function && env.kindOf n == some .cell)=true then (n,NameKind.cell) else (n,k')) :: _)=_
  cases hx:x == n with
  | true=>simp only [apg,hx] at h;cases h
  | false =>
   simp only [apg,hx] at h
   split
   ·simp only [apg,hx];exact ih h
   ·simp only [apg,hx];exact ih h
section
variable {X:Cx} {pins:List (Addr×Obj)} {σ:St} {H:Hp} {s:Shared} {NO N:List Str} {scO sc:Scope} {own:Nat} {fr:List Nat} {fp:List Addr}
theorem aix {tk:Nat} (S:CompScope NO scO N sc own fr) (hN:X.N=NO) (hsc:X.env.scope=scO) (I:Inv X pins σ H s) (hf:∀ b∈fp,vZ X pins H b) (ho:∀ b∈fp,∃ o,s.heap.get? b=some o/\∀ v,o.data≠.cell v) :
  Inv (zl X sc N s H fp (X.pn++pins)) [] (jf own fr σ) H { s with heap:=pushCells (s.heap.push { cls:=.type "dict",data:=.dict #[] }) sc.names,toks:=tk }:=by
 have hfree:∀ x,(x,NameKind.free)∈sc.names->∃ c,X.env.cells.lookup x=some c:=fun x hx=>I.ok.has x (by
  show X.env.scope.names.lookup x=_ \/ X.env.scope.names.lookup x=_
  rw [hsc]
  exact S.free _ hx rfl)
 have hclt:∀ p∈z8 X.env sc.names [],p.2<s.heap.objs.size:=fun p hp=>by
  rcases qk hp with q | ⟨q,e⟩
  ·cases q
  ·obtain⟨c,hc⟩:=hfree _ q
   rw [e,hc]
   obtain⟨v,o,ho,_⟩:=I.cell _ c hc
   exact aoB ho
 have hsz:(s.heap.push { cls:=.type "dict",data:=.dict #[] }).objs.size=s.heap.objs.size+1:=aq6 ..
 have hk:∀ b o,s.heap.get? b=some o->(pushCells (s.heap.push { cls:=.type "dict",data:=.dict #[] }) sc.names).get? b=some o:=fun b o e=>pushCells_keeps _ _ _ _ (aot _ e)
 have hcase:∀ {x:Str} {c:Addr},(cellsFrom (s.heap.objs.size+1) sc.names (z8 X.env sc.names [])).lookup x=some c->(s.heap.objs.size+1<=c/\(x,NameKind.cell)∈sc.names) \/ (X.env.cells.lookup x=some c/\(x,NameKind.free)∈sc.names):=fun {x c} e=>by
  rcases yY e with⟨q1,_,q3⟩ | ⟨q1,_⟩
  ·exact .inl ⟨q1,q3⟩
  ·exact .inr (vw hfree q1)
 have clap:(z8 X.env sc.names []).Pairwise fun x y=>x.2≠y.2:=by
  have key:∀ (names:List (Str×NameKind)) (acc:List (Str×Addr)),(∀ p∈acc,X.env.cells.lookup p.1=some p.2)->(∀ x,(x,NameKind.free)∈names->∃ c,X.env.cells.lookup x=some c)->(acc.Pairwise fun x y=>x.2≠y.2)->(∀ p∈acc,(p.1,NameKind.free)∉names)->(names.map (·.1)).Nodup ->
    (z8 X.env names acc).Pairwise fun x y=>x.2≠y.2:=by
   intro names
   induction names with
   | nil=>intro acc _ _ h _ _;exact h
   | cons p r ih =>
    intro acc h1 h2 h3 h4 h5
    obtain⟨y,k⟩:=p
    rw [aoI] at h5
    obtain⟨n1,n2⟩:=ao7.mp h5
    unfold z8
    split
    ·rename_i hk
     have hk':k=.free:=by simpa using hk
     subst hk'
     obtain⟨c,hc⟩:=h2 y aom
     rw [hc]
     refine ih _ (fun p hp=>?_) (fun x hx=>h2 x (aon _ hx)) (apt.mpr ⟨fun p hp=>?_,h3⟩) (fun p hp=>?_) n2
     ·rcases aor.mp hp with e | hp
      ·subst e;exact hc
      ·exact h1 p hp
     ·intro e
      have e':p.2=c:=e.symm
      have:=I.ok.inj _ _ _ hc (e'▸h1 p hp)
      exact h4 p hp (this▸aom)
     ·rcases aor.mp hp with e | hp
      ·subst e
       intro z
       exact n1 (aoC.mpr ⟨_,z,rfl⟩)
      ·intro z;exact h4 p hp (aon _ z)
    ·exact ih acc h1 (fun x hx=>h2 x (aon _ hx)) h3 (fun p hp z=>h4 p hp (aon _ z)) n2
  exact key sc.names [] (fun p hp=>by cases hp) hfree List.Pairwise.nil (fun p hp=>by cases hp) S.snd
 have apart:=je sc.names (s.heap.objs.size+1) _ clap fun p hp=>apD (hclt p hp)
 have hkd:∀ x,(zl X sc N s H fp (X.pn++pins)).env.kindOf x=some .cell \/ (zl X sc N s H fp (X.pn++pins)).env.kindOf x=some .free->(x,NameKind.cell)∈sc.names \/ (x,NameKind.free)∈sc.names:=fun x hx=>by
  cases q:sc.names.lookup x with
  | none =>
   have e:(zl X sc N s H fp (X.pn++pins)).env.kindOf x=none:=jj q
   rw [e] at hx
   rcases hx with z | z <;> cases z
  | some k =>
   have e:(zl X sc N s H fp (X.pn++pins)).env.kindOf x=some _:=jw (env:=X.env) q
   rw [e] at hx
   have hm:=mem_of_lookup q
   cases k <;> first | exact .inl hm | exact .inr hm | (rcases hx with z | z <;> cases z)
 have cellAt:∀ x c,(cellsFrom (s.heap.objs.size+1) sc.names (z8 X.env sc.names [])).lookup x=some c->∃ v,(pushCells (s.heap.push { cls:=.type "dict",data:=.dict #[] }) sc.names).IsCell c v:=fun x c e=>by
  rcases hcase e with⟨q,_⟩ | ⟨q,_⟩
  ·exact⟨none,jS _ _ _ x c (by rw [hsz];exact e) (by rw [hsz];exact q) fun p hp=>by rw [hsz];exact apD (hclt p hp)⟩
  ·obtain⟨v,o,ho,hd⟩:=I.cell x c q
   exact⟨v,o,hk _ _ ho,hd⟩
 have lt_of_cell:∀ x c,X.env.cells.lookup x=some c->c<s.heap.objs.size:=fun x c e=>by
  obtain⟨v,o,ho,hd⟩:=I.cell x c e
  exact aoB ho
 have lt_of_fp:∀ b∈fp,b<s.heap.objs.size:=fun b hb=>by
  obtain⟨o,e,_⟩:=ho b hb
  exact aoB e
 have okX:(zl X sc N s H fp (X.pn++pins)).Ok:=by
  refine⟨I.mod,S.kind,I.ok.glob,I.ok.blt,aop _,fun x y c h1 h2=>name_of_addr apart (mem_of_lookup h1) (mem_of_lookup h2),fun x hx=>?_,fun x c hx hc=>?_,I.ok.hd,I.ok.frames,.inl rfl,fun b hb=>⟨aoR (lt_of_fp b hb),fun x c e=>?_⟩,I.bs,aoN I.ok.bsz I.sz,fun b o e hb=>?_,fun b hb z=>?_,I.stack,I.stkFree⟩
  ·rcases hkd x hx with q | q
   ·exact abU (yc S.snd q)
   ·obtain⟨c,hc⟩:=hfree x q
    exact vy (by rw [aaC hfree q hc];rfl)
  ·have hx':sc.names.lookup x=some .cell:=of_decide_eq_true hx
   rcases hcase hc with⟨q,_⟩ | ⟨_,q⟩
   ·exact aqC q
   ·rw [yc S.snd q] at hx';cases hx'
  ·rcases hcase e with⟨q,_⟩ | ⟨q,_⟩
   ·exact aq1 (aoL (lt_of_fp b hb) (aqC q))
   ·exact (hf b hb).2.2.2.2.1 x c q
  ·rcases (hf b hb).2.2.2.1 with z | z
   ·exact I.ok.noex b o e z
   ·exact absurd (aoB e) (Nat.not_lt.mpr (aoN I.ok.bsz z))
  ·rcases aor.mp (I.stkSub b z) with q | q
   ·exact (hf b hb).2.1 q
   ·exact (hf b hb).2.2.1 q
 refine⟨okX,rfl,I.bare,Un.kept hk,⟨fun _=>none,(Heap.Ns.new s.heap (.type "dict")).keeps (pushCells_keeps _ _),fun i x v h1 h2 h3=>?_⟩,cellAt,I.hok.fresh (aop _),fun x c e=>?_,fun p hp=>?_,I.hok.kept hk,?_⟩
 ·obtain⟨m,_,hl⟩:=id I.loc
  have h2':(jf own fr σ)[i]?=some (some v):=h2
  have hio:own<=i:=by
   unfold jf at h2'
   refine Nat.le_of_not_lt fun hi=>?_
   rw [aov (by simpa using hi),ap1] at h2'
   split at h2' <;> cases h2'
  obtain⟨k,rfl⟩:=Nat.exists_eq_add_of_le hio
  have h1':N[own+k]?=some x:=h1
  unfold jf at h2'
  rw [aoG (by simp)] at h2'
  simp only [aqJ,Nat.add_sub_cancel_left,aoq] at h2'
  cases hj:fr[k]? with
  | none=>rw [hj] at h2';cases h2'
  | some j =>
   rw [hj] at h2'
   have h2'':(σ[j]?).getD none=some v:=Option.some.inj h2'
   have hp:(x,j)∈(N.drop own).zip fr:=by
    refine aoj (i:=k) ?_
    rw [List.getElem?_zip_eq_some]
    exact⟨by rw [aqx];exact h1',hj⟩
   obtain⟨f1,f2⟩:=S.frn _ hp
   have hσ:σ[j]?=some (some v):=by
    cases q:σ[j]? with
    | none=>rw [q] at h2'';cases h2''
    | some w=>rw [q] at h2'';exact congrArg some h2''
   have hxf:(x,NameKind.free)∈sc.names:=mem_of_lookup f2
   have hko:=S.free _ hxf rfl
   have hvis:Vis X.env.scope x:=by rw [hsc];exact .inr hko
   obtain⟨u,ru,q⟩:=hl j x v (by rw [hN];exact f1) hσ hvis
   refine⟨u,ru,.inr ⟨?_,?_⟩⟩
   ·have e:(zl X sc N s H fp (X.pn++pins)).env.kindOf x=some _:=jw (env:=X.env) f2
    rw [e]
    split
    ·exact .inl rfl
    ·exact .inr rfl
   ·rcases q with⟨k1,_⟩ | ⟨_,c,hc,z⟩
    ·have k1':X.env.scope.names.lookup x=some .local:=k1
     rw [hsc] at k1'
     rcases hko with z | z <;> rw [z] at k1' <;> cases k1'
    ·obtain⟨o,ho,hd⟩:=z
     refine⟨c,?_,o,hk _ _ ho,hd⟩
     have hcl:=aaC hfree hxf hc
     obtain⟨c',hc'⟩:=vy (names:=sc.names) (n:=s.heap.objs.size+1) (acc:=z8 X.env sc.names []) (x:=x) (by rw [hcl];rfl)
     rcases hcase hc' with⟨_,z⟩ | ⟨z,_⟩
     ·have:=yc S.snd z
      rw [f2] at this;cases this
     ·rw [hc] at z;cases z;exact hc'
 ·rcases hcase e with⟨q,_⟩ | ⟨q,_⟩
  ·exact I.hok.fresh (aqC q)
  ·exact I.freeC x c q
 ·have hp':p∈X.pn++pins:=by simpa [zl] using hp
  obtain⟨e,n,ne,nf,d⟩:=I.pin p hp'
  refine⟨hk _ _ e,n,aoR (aoB e),fun z=>?_,d⟩
  rcases aor.mp (I.stkSub _ z) with q | q
  ·exact ne q
  ·exact nf q
 ·show (jf own fr σ).length=N.length
  unfold jf
  rw [S.len]
  simp
end
abbrev TB:=St->Hp->(St->Hp->Prop)->Prop
def PB (X:Cx) (act:Sem Unit) (t:TB):Prop :=
 ∀ (pins:List (Addr×Obj)) (s:Shared) (σ:St) (H:Hp) (Q:St->Hp->Prop),Inv X pins σ H s->t σ H Q->wpAny (model X.prog X.w) X.A act (fun _ s'=>∃ σ' H',Inv X pins σ' H' s'/\Q σ' H') X.xe s
def PTs (X:Cx) (ifs:List Expr) (t:TT):Prop :=
 ∀ (pins:List (Addr×Obj)) (s:Shared) (σ:St) (H:Hp) (Q:Bool->Hp->Prop),Inv X pins σ H s->t σ H Q ->
  wpAny (model X.prog X.w) X.A (forIn ifs true fun c r=>if r=true then do let ok <- isTrue c X.env (eval c X.env);pure (ForInStep.yield ok) else pure (ForInStep.yield r)) (TP X pins σ Q) X.xe s
def ams:TT:=fun _ H Q=>Q true H
theorem y4 {X:Cx}:PTs X [] ams:=fun pins s σ H Q I h=>wpAny_tests_nil ⟨H,I,h⟩
theorem yS {X:Cx} {c:Expr} {t:TT} (hc:PT X c t):PTs X [c] t:=fun pins s σ H Q I h=>wpAny_tests_one (hc pins s σ H Q I h)
def adX (J:It) (g:TG) (tt:TT) (tb:TB):TB:=fun σ H Q=>∃ W:Nat->Nat->St->Hp->Prop,(∃ m,W 0 m σ H)/\∀ i m σ H,W i m σ H ->
 (J.stop i H/\Q σ H) \/ (J.go i H/\∀ x H',J.yld i H x H'->g x σ H' fun σ2 H2=>tt σ2 H2 fun b H3=>if b=true then tb σ2 H3 fun σ' H'=>∃ m',m'<m/\W (i+1) m' σ' H' else ∃ m',m'<m/\W (i+1) m' σ2 H3)
section
variable {X:Cx} {pins:List (Addr×Obj)} {s:Shared} {σ:St} {H:Hp} {tg:Expr} {e:Expr} {d:Nat} {acc:Value} {ifs:List Expr} {g:TG} {tt:TT} {tb:TB} {act:Sem Unit} {pos:Pos}
theorem adY (hx:∀ e s,X.xe e s->False) (hc:X.calm=true) (hg:PG X tg g) (ht:PTs X ifs tt) (hb:PB X act tb)
  (heq:∀ it,compTurn e d it acc X.env=(do
   standAt pos
   match <- pyNext it with
   | none=>pure (.done .next)
   | some v =>
    letOwnedTupleGo tg it v
    assign tg X.env v
    let mut ok:=true
    for c in ifs do
     if ok then ok <- isTrue c X.env (eval c X.env)
    if ok then
     act
    again (.compLoop e d it acc X.env)))
  (hqt:∀ it,(Code.compLoop e d it acc X.env).quiet=true)
  (hden:∀ it,(model X.prog X.w).den (.compLoop e d it acc X.env)=(compTurn e d it acc X.env).onRaise (fun x=>do noteFrame x X.env;theTreesLotGoes x))
  (hund:∀ it,X.A.under (.compLoop e d it acc X.env)=X.A)
  {it:Addr} {fp:List Addr} {tn:Nat->Heap->Prop} {J:It} {Q:St->Hp->Prop} {R:Result->Shared->Prop} (I:Inv X pins σ H s) (T:Turn X.prog X.w X.K tg J fp it tn) (st:tn 0 s.heap) (f:∀ b∈fp,vZ X pins H b)
  (h:adX J g tt tb σ H Q) (hR:∀ σ' H' s',Inv X pins σ' H' s'->(∀ b∈fp,H' b=none)->Q σ' H'->R (.ok .next) s'):codeAny (model X.prog X.w) X.A (.compLoop e d (.ref it) acc X.env) R s:=by
 obtain⟨W,⟨m0,w0⟩,turn⟩:=h
 have stat:∀ {H':Hp},(∀ b∈fp,H' b=none)->∀ b∈fp,vZ X pins H' b:=fun hn b hb=>⟨hn b hb,(f b hb).2⟩
 refine codeAny_loop (hqt _) (fun n s'=>∃ i σ' H',Inv X pins σ' H' s'/\tn i s'.heap/\(∀ b∈fp,H' b=none)/\W i n σ' H') ?_ m0 ⟨0,σ,H,I,st,fun b hb=>(f b hb).1,w0⟩
 rintro n s3 ⟨i,σ3,H3,I3,st3,fr3,w3⟩
 rw [hden,hund]
 refine wpAny_noted ?_
 rw [heq]
 have nox:∀ e' s',X.xe e' s'->notedBy (model X.prog X.w) X.A X.env (fun e s'=>R (.error e) s') e' s':=fun e' s' z=>(hx e' s' z).elim
 refine wpAny_bind (wpAny_standAt (wpAny_bind ?_))
 rcases turn i n σ3 H3 w3 with⟨stop,qn⟩ | ⟨go,step⟩
 ·refine wpAny_mono (T.done X rfl rfl rfl hc i pins s3 σ3 H3 X.xe I3 (stat fr3) st3 stop) (fun r s4 hr4=>?_) nox
  obtain⟨hr,I4⟩:=hr4
  subst hr
  exact wpAny_pure (hR σ3 H3 s4 I4 fr3 qn)
 ·refine wpAny_mono (T.item X rfl rfl rfl hc i pins s3 σ3 H3 X.xe I3 (stat fr3) st3 go) (fun r s4 hr4=>?_) nox
  obtain⟨u,hr,h4⟩:=hr4
  subst hr
  refine wpAny_bind (wpAny_mono h4 (fun _ s5 h5=>?_) nox)
  obtain⟨x,H5,I5,r5,y5,st5,fr5⟩:=h5
  have I5':=I5.pinned (stat fr5) (T.obj _ _ st5)
  refine wpAny_bind (wpAny_mono (hg _ s5 σ3 H5 x u _ I5' r5 (step x H5 y5)) (fun _ s6 h6=>?_) nox)
  obtain⟨σ6,H6,I6,q6⟩:=h6
  refine wpAny_bind (wpAny_mono (ht _ s6 σ6 H6 _ I6 q6) (fun ok s7 h7=>?_) nox)
  obtain⟨H7,I7,q7⟩:=h7
  have again:∀ {σ7:St} {H7:Hp} {s7:Shared},Inv X (pins++aa8 fp s5.heap) σ7 H7 s7->(∃ m',m'<n/\W (i+1) m' σ7 H7)->∃ m,m<n/\∃ i σ' H',Inv X pins σ' H' s7/\tn i s7.heap/\(∀ b∈fp,H' b=none)/\W i m σ' H':=fun {σ7 H7 s7} I7 n7=>by
   obtain⟨m',hm,w7⟩:=n7
   refine⟨m',hm,i+1,σ7,H7,I7.unpinned,T.keep _ _ _ st5 fun b hb o e=>(I7.pin (b,o) (aoA _ (aoA _ (qh hb e)))).1,fun b hb=>?_,w7⟩
   obtain⟨o,e,d⟩:=T.obj _ _ st5 b hb
   exact (I7.pin (b,o) (aoA _ (aoA _ (qh hb e)))).2.1
  cases ok with
  | false =>
   rw [if_neg aoi] at q7
   exact wpAny_pure ⟨rfl,again I7 q7⟩
  | true =>
   rw [if_pos rfl] at q7
   refine wpAny_bind (wpAny_mono (hb _ s7 σ6 H7 _ I7 q7) (fun _ s8 h8=>?_) nox)
   obtain⟨σ8,H8,I8,q8⟩:=h8
   exact wpAny_pure ⟨rfl,again I8 q8⟩
theorem acY {D:Addr} {elt:Expr} {te:TE} (he:PE X elt te):PB X (do let _ <- call (.builtin "list.append") [.ref D,<- eval elt X.env]) (fun σ H Q=>te σ H fun y H1=>∃ xs,H1 D=some (.lst xs)/\xs.length<sizeLine/\Q σ (upd H1 D (.lst (xs++[y])))):=by
 intro pins s σ H Q I h
 refine wpAny_bind (thn (he pins s σ H _ I h) fun v s1 h1=>?_)
 obtain⟨y,H1,I1,r1,xs,hD,hz,q⟩:=h1
 obtain⟨z,its,n,r,hl,e⟩:=I1.lstM hD
 refine wpAny_bind ?_
 refine call_meets F.slot_list_append ⟨_,e,rfl⟩ arW (arO _ _) (PySem.list_append D its.toArray n v (by rw [aoD];omega)) ⟨e,?_⟩
 refine wpAny_pure ⟨σ,_,I1.lset (its':=its++[v]) hD e (by simp) (r.append (.cons r1 .nil)) ?_,q⟩
 rw [aox,ao4]
 omega
theorem adZ {M:Model} {A:Around} {E:Value->Shared->Prop} {sc:Scope} {gl:Addr} {cl:List (Str×Addr)} {qual:Str} {env:Env} {Q:Env->Shared->Prop} {s:Shared}
  (h:Q { scope:=sc,locals:=s.heap.objs.size,globals:=gl,cells:=cellsFrom (s.heap.objs.size+1) sc.names cl,qual:=qual,func:=none,code:=env.code,frame:=env.frame,builtins:=env.builtins } { s with heap:=pushCells (s.heap.push { cls:=.type "dict",data:=.dict #[] }) sc.names }) :
  wpAny M A (newFunctionEnv sc gl cl [] qual none .none (some env)) Q E s:=by
 simp only [newFunctionEnv,Option.isSome_some,if_true]
 refine wpAny_bind (wpAny_alloc ?_)
 refine wpAny_bind (wpAny_layCells _ (fun name kind cells=>by cases hkc:kind == NameKind.cell <;> simp [hkc]) _ _ _ _ ?_)
 rw [show ({ s with heap:=s.heap.push { cls:=.type "dict",data:=.dict #[] } }:Shared).heap.objs.size=s.heap.objs.size+1 from aq6 ..]
 refine wpAny_bind ?_
 rw [aqi]
 exact wpAny_pure (wpAny_pure h)
theorem comp_back {sc:Scope} {N:List Str} {fp:List Addr} {σ':St} {H':Hp} {s':Shared} {h':Heap} (I:Inv X pins σ H s) (hf:∀ b∈fp,vZ X pins H b) (J:Inv (zl X sc N s H fp (X.pn++pins)) [] σ' H' s') (hs:apU s.heap.objs.size s'.heap h') :
  Inv X pins σ H' { s' with heap:=h' }:=by
 have u:Un (frs X.stack) fp H H' s.heap s'.heap:=J.base
 have ne:∀ b o,s.heap.get? b=some o->b≠s.heap.objs.size:=fun b o e=>aoR (aoB e)
 have hfree:H' s.heap.objs.size=none:=J.free
 refine I.call' (s':={ s' with heap:=h' }) (ch:=fp) J.os ⟨fun b o e n h1 h2=>(hs.2 b (ne b o e)).trans (u.keep b o e n h1 h2),fun b o e n h1 h2=>?_,u.free,fun b o e h2=>?_,u.tups,u.frzs,u.tbls⟩ (fun a o e=>?_) J.bare fun b hb=>?_
 ·obtain⟨sl,q⟩:=u.slot b o e n h1 h2
  exact⟨sl,(hs.2 b (ne b o e)).trans q⟩
 ·obtain⟨o',q⟩:=u.there b o e h2
  exact⟨o',(hs.2 b (ne b o e)).trans q⟩
 ·refine (J.hok a o e).stay (fun c v hc q=>(hs.2 c ?_).trans q) (fun _ q=>q) fun _ _ q=>q
  intro z
  subst z
  rcases hc with hc | hc
  ·rw [<-hc] at e
   rw [hfree] at e;cases e
  ·rw [hfree] at hc;cases hc
 ·exact⟨(hf b hb).2.2.2.1,(hf b hb).2.1,(hf b hb).2.2.2.2⟩
end
def vz (D:Addr) (te:TE):TB:=fun σ H Q=>te σ H fun y H1=>∃ xs,H1 D=some (.lst xs)/\xs.length<sizeLine/\Q σ (upd H1 D (.lst (xs++[y])))
def jX (wi:TI) (own:Nat) (fr:List Nat) (g:TG) (tt:TT) (tb:Addr->TB):TE:=fun σ H Q=>wi σ H fun J H1=>∀ D,H1 D=none ->
 adX J g tt (tb D) (jf own fr σ) (upd H1 D (.lst [])) fun _ H2=>Q (.ref D) H2
section
variable {X:Cx} {pins:List (Addr×Obj)} {s:Shared} {σ:St} {H:Hp} {tg elt iter:Expr} {ifs:List Expr} {rest:List Comprehension} {sc scO:Scope} {NO N:List Str} {own:Nat} {fr:List Nat} {wi:TI} {g:TG} {tt:TT} {tb:Addr->TB} {pos:Pos}
theorem ad0 {RR:Value->Addr->Result->Shared->Prop} {it:Addr} {fp:List Addr} {tn:Nat->Heap->Prop} {J:It} {Q:VK} (S:CompScope NO scO N sc own fr) (hN:X.N=NO) (hsc:X.env.scope=scO) (hc:X.calm=true)
  (hg:∀ s₀ H₀ ex pn,PG (zl X sc N s₀ H₀ ex pn) tg g) (ht:∀ s₀ H₀ ex pn,PTs (zl X sc N s₀ H₀ ex pn) ifs tt)
  (hb:∀ D s₀ H₀ ex pn,∃ act,PB (zl X sc N s₀ H₀ ex pn) act (tb D)/\∀ it,compTurn (.ListComp elt (⟨tg,iter,ifs,0⟩ :: rest) sc pos) 0 it (.ref D) (zl X sc N s₀ H₀ ex pn).env=(do
   standAt iter.pos
   match <- pyNext it with
   | none=>pure (.done .next)
   | some v =>
    letOwnedTupleGo tg it v
    assign tg (zl X sc N s₀ H₀ ex pn).env v
    let mut ok:=true
    for c in ifs do
     if ok then ok <- isTrue c (zl X sc N s₀ H₀ ex pn).env (eval c (zl X sc N s₀ H₀ ex pn).env)
    if ok then
     act
    again (.compLoop (.ListComp elt (⟨tg,iter,ifs,0⟩ :: rest) sc pos) 0 it (.ref D) (zl X sc N s₀ H₀ ex pn).env)))
  (I:Inv X pins σ H s) (T:Turn X.prog X.w X.K tg J fp it tn) (st:tn 0 s.heap) (f:∀ b∈fp,vZ X pins H b)
  (h:∀ D,H D=none->adX J g tt (tb D) (jf own fr σ) (upd H D (.lst [])) fun _ H2=>Q (.ref D) H2)
  (hRR:∀ (D C:Addr) (s':Shared) (H':Hp),(∃ m,s'.heap.Ns C m)->C≠X.env.locals->(∀ x c,X.env.cells.lookup x=some c->c≠C)->H' C=none->X.s₀.heap.objs.size<=C->(∀ p∈X.pn++pins,p.1≠C)->Inv X pins σ H' s'->Q (.ref D) H'->RR (.ref D) C (.ok .next) s') :
  wpAny (model X.prog X.w) X.A (newList []) (fun acc s₃=>wpAny (model X.prog X.w) X.A (newFunctionEnv sc X.env.globals (z8 X.env sc.names []) [] X.env.qual none .none (some X.env)) (fun cenv s₄ =>
   codeAny (model X.prog X.w) X.A (.compStart (.ListComp elt (⟨tg,iter,ifs,0⟩ :: rest) sc pos) 0 (.ref it) acc { cenv with scope:=relabel sc X.env }) (RR acc cenv.locals) s₄) X.xe s₃) X.xe s:=by
 refine wpAny_newObj_type (adZ ?_)
 have fpsz:∀ b∈fp,b<s.heap.objs.size:=fun b hb=>by
  obtain⟨o,e,_⟩:=T.obj _ _ st b hb
  exact aoB e
 have I3:=I.lnew (its:=[]) (ys:=[]) (t':=s.toks) .nil (ao2 _)
 have f3:∀ b∈fp,vZ X pins (upd H s.heap.objs.size (.lst [])) b:=fun b hb=>⟨by rw [zu (aoR (fpsz b hb))];exact (f b hb).1,(f b hb).2⟩
 have st3:tn 0 (s.heap.push { cls:=.type "list",data:=.seq ([]:List Value).toArray }):=T.keep _ _ _ st fun b _ o e=>aot _ e
 have I4:=aix (tk:=s.toks) S hN hsc I3 f3 (T.obj _ _ st3)
 obtain⟨act,pb,heq⟩:=hb s.heap.objs.size _ _ _ _
 have st4:=T.keep _ _ (pushCells ((s.heap.push { cls:=.type "list",data:=.seq ([]:List Value).toArray }).push { cls:=.type "dict",data:=.dict #[] }) sc.names) st3 fun b _ o e=>pushCells_keeps _ _ _ _ (aot _ e)
 have cells_lt:∀ x c,X.env.cells.lookup x=some c->c<s.heap.objs.size:=fun x c e=>by
  obtain⟨v,o,ho,hd⟩:=I.cell x c e
  exact aoB ho
 have esz:(s.heap.push { cls:=.type "list",data:=.seq ([]:List Value).toArray }).objs.size=s.heap.objs.size+1:=aq6 ..
 have loop:=adY (X:=zl X sc N { s with heap:=s.heap.push { cls:=.type "list",data:=.seq ([]:List Value).toArray } } (upd H s.heap.objs.size (.lst [])) fp (X.pn++pins)) (R:=RR (.ref s.heap.objs.size) (s.heap.push { cls:=.type "list",data:=.seq ([]:List Value).toArray }).objs.size) (fun _ _ z=>z) hc (hg _ _ _ _) (ht _ _ _ _) pb heq (fun _=>rfl) (fun _=>rfl) (fun _=>rfl) I4 T st4
  (fun b hb=>⟨(f3 b hb).1,I4.ok.exf b hb |>.1,I4.ok.exfs b hb,.inl hb,I4.ok.exf b hb |>.2,fun p hp=>by
   have hp':p∈X.pn++pins:=by simpa [zl] using hp
   exact (f b hb).2.2.2.2.2 p hp'⟩) (h _ I.fresh)
  (fun σ' H' s' J' fr' q'=>hRR _ _ s' H' (let⟨m,hm,_⟩:=J'.loc;⟨m,hm⟩) (by rw [esz];exact aq1 (apD I.lt)) (fun x c e=>by rw [esz];exact aoR (apD (cells_lt x c e))) J'.free (by rw [esz];exact Nat.le_succ_of_le I.sz) (fun p hp=>by rw [esz];exact aoR (apD (aoB (I.pin p hp).1))) (comp_back (h':=s'.heap) I3 f3 J' (Heap.SameBut.refl ..)) q')
 exact codeAny_compStart_list loop (T.self X.A 0 _ _ _ st4 loop)
theorem Inv.touch {C:Addr} {h':Heap} (I:Inv X pins σ H s) (hs:apU C s.heap h') (hn:H C=none) (h0:C≠X.env.locals) (h1:∀ x c,X.env.cells.lookup x=some c->c≠C) (h2:X.s₀.heap.objs.size<=C) (h3:∀ p∈X.pn++pins,p.1≠C) :
  Inv X pins σ H { s with heap:=h' } :=
 I.turned (t':=s.toks) (fun b o hb e=>(hs.2 b hb).trans e) hn h0 (.inr h2) h1 h3
theorem abV {prog:Program} {w:World} {A:Around} {R:Result->Shared->Prop} {s:Shared} {elt':Expr} {g0:Comprehension} {tg' it':Expr} {ifs':List Expr} {sc':Scope} {pos':Pos} {itv acc:Value} {env:Env}
  (here:codeAny (model prog w) A (.compLoop (.ListComp elt' [g0,⟨tg',it',ifs',0⟩] sc' pos') 1 itv acc env) R s)
  (once:wpAny (model prog w) A (pyIter itv) (fun j s1=>codeAny (model prog w) A (.compLoop (.ListComp elt' [g0,⟨tg',it',ifs',0⟩] sc' pos') 1 j acc env) R s1) (notedBy (model prog w) A env fun x s1=>R (.error x) s1) s) :
  codeAny (model prog w) A (.compStart (.ListComp elt' [g0,⟨tg',it',ifs',0⟩] sc' pos') 1 itv acc env) R s:=by
 apply codeAny_of_tree
 show wpAny _ _ ((compStart (.ListComp elt' [g0,⟨tg',it',ifs',0⟩] sc' pos') 1 itv acc env).onRaise (fun z=>do noteFrame z env;standAt theWindowsPlace)) _ _ s
 apply wpAny_notedAt
 unfold compStart
 show wpAny _ _ (ask >>= _) _ _ s
 apply wpAny_bind
 apply wpAny_askSetting
 apply wpAny_ite
 split
 ·first
   | exact wpAny_bind (wpAny_pure (wpAny_pure (And.intro rfl here)))
   | exact wpAny_pure (And.intro rfl here)
 ·apply wpAny_bind
  apply wpAny_rule
  show wpAny _ _ (standAt it'.pos >>= _) _ _ s
  exact wpAny_bind (wpAny_standAt (wpAny_bind (wpAny_mono once (fun j s1 q=>wpAny_pure (And.intro rfl q)) fun _ _ z=>z)))
section
variable {elt2:Expr} {te:TE} {tg2 iter2:Expr} {ifs2:List Expr} {wi2:TI} {g2:TG} {tt2:TT} {tb2:TB} {y:Str} {i:Nat} {py spos:Pos}
def tIn (wi2:TI) (g2:TG) (tt2:TT) (tb2:TB):TB:=fun σ H Q=>wi2 σ H fun J H1=>adX J g2 tt2 tb2 σ H1 Q
theorem alN {D:Addr} (hx:∀ e s,X.xe e s->False) (hc:X.calm=true) (hi:PI X tg2 iter2 wi2) (hg:PG X tg2 g2) (ht:PTs X ifs2 tt2) (he:PE X elt te)
  (hs:∀ x,foldedSetIterable iter2 X.env x=pure x) :
  PB X (do
   let x <- eval iter2 X.env
   standAt iter2.pos
   let x <- foldedSetIterable iter2 X.env x
   let _ <- runOwn (.compStart (.ListComp elt [⟨tg,iter,ifs,0⟩,⟨tg2,iter2,ifs2,0⟩] sc pos) 1 (<- holding [x] (pyIter x)) (.ref D) X.env) X.env) (tIn wi2 g2 tt2 (vz D te)):=by
 intro pins s σ H Q I h
 refine wpAny_bind (thn (hi pins s σ H _ I h) fun v s1 h1=>?_)
 refine wpAny_bind (wpAny_standAt ?_)
 refine wpAny_bind (wpAny_of_eq (hs v) ?_)
 refine wpAny_bind (wpAny_holding (thn h1 fun itv s2 h2=>?_))
 obtain⟨it,fp,tn,J,H2,e,I2,T,st2,f2,q⟩:=h2
 subst e
 refine wpAny_bind (wpAny_runOwn ?_)
 have loop:=adY (e:=.ListComp elt [⟨tg,iter,ifs,0⟩,⟨tg2,iter2,ifs2,0⟩] sc pos) (d:=1) (pos:=iter2.pos)
  (R:=fun r s'=>match r with | .ok f=>wpAny (model X.prog X.w) X.A (pure ()) (fun _ s'=>∃ σ' H',Inv X pins σ' H' s'/\Q σ' H') X.xe s' | .error e=>cameBackBy (model X.prog X.w) X.A X.env X.xe e s')
  hx hc hg ht (acY (D:=D) he) (fun _=>rfl) (fun _=>rfl) (fun _=>rfl) (fun _=>rfl) I2 T st2 f2 q (fun σ' H' s' J' _ q'=>wpAny_pure ⟨σ',H',J',q'⟩)
 exact abV loop (T.self X.A 0 _ _ _ st2 loop)
theorem af9 (S:CompScope NO scO N sc own fr) (hsc:X.env.scope=scO) (ok:X.Ok):closureFor sc X.env=pure (z8 X.env sc.names []) :=
 afd fun x hx=>ok.has x (by
  show X.env.scope.names.lookup x=_ \/ X.env.scope.names.lookup x=_
  rw [hsc]
  exact S.free _ hx rfl)
theorem aga (S:CompScope NO scO N sc own fr) (hc:X.calm=true) (hi:PI X tg iter wi) (hg:∀ s₀ H₀ ex pn,PG (zl X sc N s₀ H₀ ex pn) tg g) (ht:∀ s₀ H₀ ex pn,PTs (zl X sc N s₀ H₀ ex pn) ifs tt)
  (hb:∀ D s₀ H₀ ex pn,∃ act,PB (zl X sc N s₀ H₀ ex pn) act (tb D)/\∀ it,compTurn (.ListComp elt (⟨tg,iter,ifs,0⟩ :: rest) sc pos) 0 it (.ref D) (zl X sc N s₀ H₀ ex pn).env=(do
   standAt iter.pos
   match <- pyNext it with
   | none=>pure (.done .next)
   | some v =>
    letOwnedTupleGo tg it v
    assign tg (zl X sc N s₀ H₀ ex pn).env v
    let mut ok:=true
    for c in ifs do
     if ok then ok <- isTrue c (zl X sc N s₀ H₀ ex pn).env (eval c (zl X sc N s₀ H₀ ex pn).env)
    if ok then
     act
    again (.compLoop (.ListComp elt (⟨tg,iter,ifs,0⟩ :: rest) sc pos) 0 it (.ref D) (zl X sc N s₀ H₀ ex pn).env)))
  (hN:X.N=NO) (hsc:X.env.scope=scO) (hs:∀ x,foldedSetIterable iter X.env x=pure x) :
  PE X (.ListComp elt (⟨tg,iter,ifs,0⟩ :: rest) sc pos) (jX wi own fr g tt tb):=by
 intro pins s σ H Q I h
 rw [eval_ListComp]
 refine wpAny_comprehension_free (use:=none) rfl hs (af9 S hsc I.ok) S.kind (fun p hp hl=>yc S.snd (k:=.local) (by rw [<-hl];exact hp)) (thn (hi pins s σ H _ I h) fun v s1 h1=>thn h1 fun itv s2 h2=>?_)
 obtain⟨it,fp,tn,J,H2,e,I2,T,st2,f2,q⟩:=h2
 subst e
 refine ad0 (RR:=fun acc C=>compPost (model X.prog X.w) X.A X.xe none (EP X pins σ Q) acc C) S hN hsc hc hg ht hb I2 T st2 f2 q ?_
 rintro D C s' H' ⟨m,hm⟩ c0 c1 c2 c3 c4 J' q'
 exact⟨m,hm,fun h' hs'=>⟨.ref D,H',J'.touch hs' c2 c0 c1 c3 c4,rfl,q'⟩⟩
theorem abg (S:CompScope NO scO N sc own fr) (hc:X.calm=true) (hNd:X.N.Nodup) (hiN:X.N[i]?=some y) (hy:Loc X.env.scope y) (hi:PI X tg iter wi) (hg:∀ s₀ H₀ ex pn,PG (zl X sc N s₀ H₀ ex pn) tg g) (ht:∀ s₀ H₀ ex pn,PTs (zl X sc N s₀ H₀ ex pn) ifs tt)
  (hb:∀ D s₀ H₀ ex pn,∃ act,PB (zl X sc N s₀ H₀ ex pn) act (tb D)/\∀ it,compTurn (.ListComp elt (⟨tg,iter,ifs,0⟩ :: rest) sc pos) 0 it (.ref D) (zl X sc N s₀ H₀ ex pn).env=(do
   standAt iter.pos
   match <- pyNext it with
   | none=>pure (.done .next)
   | some v =>
    letOwnedTupleGo tg it v
    assign tg (zl X sc N s₀ H₀ ex pn).env v
    let mut ok:=true
    for c in ifs do
     if ok then ok <- isTrue c (zl X sc N s₀ H₀ ex pn).env (eval c (zl X sc N s₀ H₀ ex pn).env)
    if ok then
     act
    again (.compLoop (.ListComp elt (⟨tg,iter,ifs,0⟩ :: rest) sc pos) 0 it (.ref D) (zl X sc N s₀ H₀ ex pn).env)))
  (hN:X.N=NO) (hsc:X.env.scope=scO) (hs:∀ x,foldedSetIterable iter X.env x=pure x) (hf:X.fn y=true \/ X.env.scope.names.lookup y=some .local)
  (hsw:swapsWith (.ListComp elt (⟨tg,iter,ifs,0⟩ :: rest) sc pos) (some (.Name y py)) spos.line X.env=pure true) :
  PS X (.Assign [.Name y py] (.ListComp elt (⟨tg,iter,ifs,0⟩ :: rest) sc pos) spos) (jR (jX wi own fr g tt tb) (yW i)):=by
 intro pins s σ H D I h
 rw [exec_Assign_Name_used _ _ _ _ hsw]
 refine wpAny_bind (wpAny_standAt (wpAny_bind ?_))
 show wpAny _ X.A (do let _ <- comprehension (.ListComp elt (⟨tg,iter,ifs,0⟩ :: rest) sc pos) sc X.env _ (newList []) false (eval iter X.env) (some (assign (.Name y py) X.env))) _ _ s
 refine wpAny_bind (wpAny_mono (wpAny_comprehension_free (use:=some (assign (.Name y py) X.env)) (Q:=fun _ s'=>SP X pins D .next s') rfl hs (af9 S hsc I.ok) S.kind (fun p hp hl=>yc S.snd (k:=.local) (by rw [<-hl];exact hp))
  (thn (hi pins s σ H _ I h) fun v s1 h1=>thn h1 fun itv s2 h2=>?_)) (fun _ s' hq=>wpAny_pure (wpAny_pure hq)) fun _ _ e=>e)
 obtain⟨it,fp,tn,J,H2,e,I2,T,st2,f2,q⟩:=h2
 subst e
 refine ad0 (Q:=fun x H1=>yW i x σ H1 D.nx) (RR:=fun acc C=>compPost (model X.prog X.w) X.A X.xe (some (assign (.Name y py) X.env)) (fun _ s'=>SP X pins D .next s') acc C) S hN hsc hc hg ht hb I2 T st2 f2 q ?_
 rintro A' C s' H' ⟨m,hm⟩ c0 c1 c2 c3 c4 J' q'
 show wpAny _ X.A (assign (.Name y py) X.env (.ref A')) _ _ _
 refine wpAny_assign_Name (ab7 (v:=.ref A') J' hNd hiN hy rfl (fun s2' I2' hsb=>?_) hf)
 obtain⟨a,hs2,ha⟩:=hsb
 have hCa:C≠a:=by
  rcases ha with ha | ha
  ·rw [ha];exact c0
  ·exact apC (c1 _ _ ha)
 exact⟨m,hm.sameBut hs2 hCa,fun h' hs'=>⟨_,H',I2'.touch hs' c2 c0 c1 c3 c4,q'⟩⟩
end
end
section
variable {X:Cx} {tg elt iter tg2 iter2:Expr} {ifs ifs2:List Expr} {sc scO:Scope} {NO N:List Str} {own:Nat} {fr:List Nat} {wi wi2:TI} {g g2:TG} {tt tt2:TT} {te:TE} {pos py spos:Pos} {y:Str} {i:Nat}
theorem ye (S:CompScope NO scO N sc own fr) (hc:X.calm=true) (hi:PI X tg iter wi) (hg:∀ s₀ H₀ ex pn,PG (zl X sc N s₀ H₀ ex pn) tg g) (ht:∀ s₀ H₀ ex pn,PTs (zl X sc N s₀ H₀ ex pn) ifs tt) (he:∀ s₀ H₀ ex pn,PE (zl X sc N s₀ H₀ ex pn) elt te)
  (hN:X.N=NO) (hsc:X.env.scope=scO) (hs:∀ x,foldedSetIterable iter X.env x=pure x):PE X (.ListComp elt [⟨tg,iter,ifs,0⟩] sc pos) (jX wi own fr g tt fun D=>vz D te) :=
 aga S hc hi hg ht (fun D s₀ H₀ ex pn=>⟨_,acY (D:=D) (he s₀ H₀ ex pn),fun _=>rfl⟩) hN hsc hs
theorem qM (S:CompScope NO scO N sc own fr) (hc:X.calm=true) (hNd:X.N.Nodup) (hiN:X.N[i]?=some y) (hy:Loc X.env.scope y) (hi:PI X tg iter wi) (hg:∀ s₀ H₀ ex pn,PG (zl X sc N s₀ H₀ ex pn) tg g) (ht:∀ s₀ H₀ ex pn,PTs (zl X sc N s₀ H₀ ex pn) ifs tt) (he:∀ s₀ H₀ ex pn,PE (zl X sc N s₀ H₀ ex pn) elt te)
  (hN:X.N=NO) (hsc:X.env.scope=scO) (hs:∀ x,foldedSetIterable iter X.env x=pure x) (hf:X.fn y=true \/ X.env.scope.names.lookup y=some .local)
  (hsw:swapsWith (.ListComp elt [⟨tg,iter,ifs,0⟩] sc pos) (some (.Name y py)) spos.line X.env=pure true) :
  PS X (.Assign [.Name y py] (.ListComp elt [⟨tg,iter,ifs,0⟩] sc pos) spos) (jR (jX wi own fr g tt fun D=>vz D te) (yW i)) :=
 abg S hc hNd hiN hy hi hg ht (fun D s₀ H₀ ex pn=>⟨_,acY (D:=D) (he s₀ H₀ ex pn),fun _=>rfl⟩) hN hsc hs hf hsw
end
theorem ad1 {elt tg iter tg2 iter2:Expr} {ifs ifs2:List Expr} {sc:Scope} {pos:Pos} {it acc:Value} {env:Env} :
  compTurn (.ListComp elt [⟨tg,iter,ifs,0⟩,⟨tg2,iter2,ifs2,0⟩] sc pos) 0 it acc env=(do
   standAt iter.pos
   match <- pyNext it with
   | none=>pure (.done .next)
   | some v =>
    letOwnedTupleGo tg it v
    assign tg env v
    let mut ok:=true
    for c in ifs do
     if ok then ok <- isTrue c env (eval c env)
    if ok then
     (do
      let x <- eval iter2 env
      standAt iter2.pos
      let x <- foldedSetIterable iter2 env x
      let _ <- runOwn (.compStart (.ListComp elt [⟨tg,iter,ifs,0⟩,⟨tg2,iter2,ifs2,0⟩] sc pos) 1 (<- holding [x] (pyIter x)) acc env) env)
    again (.compLoop (.ListComp elt [⟨tg,iter,ifs,0⟩,⟨tg2,iter2,ifs2,0⟩] sc pos) 0 it acc env)):=by
 unfold compTurn
 simp only [bind_assoc,pure_bind]
 rfl
section
variable {X:Cx} {tg elt iter tg2 iter2:Expr} {ifs ifs2:List Expr} {sc scO:Scope} {NO N:List Str} {own:Nat} {fr:List Nat} {wi wi2:TI} {g g2:TG} {tt tt2:TT} {te:TE} {pos py spos:Pos} {y:Str} {i:Nat}
theorem aiy (S:CompScope NO scO N sc own fr) (hc:X.calm=true) (hi:PI X tg iter wi) (hg:∀ s₀ H₀ ex pn,PG (zl X sc N s₀ H₀ ex pn) tg g) (ht:∀ s₀ H₀ ex pn,PTs (zl X sc N s₀ H₀ ex pn) ifs tt)
  (hi2:∀ s₀ H₀ ex pn,PI (zl X sc N s₀ H₀ ex pn) tg2 iter2 wi2) (hg2:∀ s₀ H₀ ex pn,PG (zl X sc N s₀ H₀ ex pn) tg2 g2) (ht2:∀ s₀ H₀ ex pn,PTs (zl X sc N s₀ H₀ ex pn) ifs2 tt2)
  (he:∀ s₀ H₀ ex pn,PE (zl X sc N s₀ H₀ ex pn) elt te) (hN:X.N=NO) (hsc:X.env.scope=scO) (hs:∀ x,foldedSetIterable iter X.env x=pure x) (hs2:∀ s₀ H₀ ex pn x,foldedSetIterable iter2 (zl X sc N s₀ H₀ ex pn).env x=pure x) :
  PE X (.ListComp elt [⟨tg,iter,ifs,0⟩,⟨tg2,iter2,ifs2,0⟩] sc pos) (jX wi own fr g tt fun D=>tIn wi2 g2 tt2 (vz D te)) :=
 aga S hc hi hg ht (fun D s₀ H₀ ex pn=>⟨_,alN (D:=D) (fun _ _ z=>z) hc (hi2 s₀ H₀ ex pn) (hg2 s₀ H₀ ex pn) (ht2 s₀ H₀ ex pn) (he s₀ H₀ ex pn) (hs2 s₀ H₀ ex pn),fun it=>ad1⟩) hN hsc hs
theorem ad2 (S:CompScope NO scO N sc own fr) (hc:X.calm=true) (hNd:X.N.Nodup) (hiN:X.N[i]?=some y) (hy:Loc X.env.scope y) (hi:PI X tg iter wi) (hg:∀ s₀ H₀ ex pn,PG (zl X sc N s₀ H₀ ex pn) tg g) (ht:∀ s₀ H₀ ex pn,PTs (zl X sc N s₀ H₀ ex pn) ifs tt)
  (hi2:∀ s₀ H₀ ex pn,PI (zl X sc N s₀ H₀ ex pn) tg2 iter2 wi2) (hg2:∀ s₀ H₀ ex pn,PG (zl X sc N s₀ H₀ ex pn) tg2 g2) (ht2:∀ s₀ H₀ ex pn,PTs (zl X sc N s₀ H₀ ex pn) ifs2 tt2)
  (he:∀ s₀ H₀ ex pn,PE (zl X sc N s₀ H₀ ex pn) elt te) (hN:X.N=NO) (hsc:X.env.scope=scO) (hs:∀ x,foldedSetIterable iter X.env x=pure x) (hs2:∀ s₀ H₀ ex pn x,foldedSetIterable iter2 (zl X sc N s₀ H₀ ex pn).env x=pure x)
  (hf:X.fn y=true \/ X.env.scope.names.lookup y=some .local)
  (hsw:swapsWith (.ListComp elt [⟨tg,iter,ifs,0⟩,⟨tg2,iter2,ifs2,0⟩] sc pos) (some (.Name y py)) spos.line X.env=pure true) :
  PS X (.Assign [.Name y py] (.ListComp elt [⟨tg,iter,ifs,0⟩,⟨tg2,iter2,ifs2,0⟩] sc pos) spos) (jR (jX wi own fr g tt fun D=>tIn wi2 g2 tt2 (vz D te)) (yW i)) :=
 abg S hc hNd hiN hy hi hg ht (fun D s₀ H₀ ex pn=>⟨_,alN (D:=D) (fun _ _ z=>z) hc (hi2 s₀ H₀ ex pn) (hg2 s₀ H₀ ex pn) (ht2 s₀ H₀ ex pn) (he s₀ H₀ ex pn) (hs2 s₀ H₀ ex pn),fun it=>ad1⟩) hN hsc hs hf hsw
end
section
variable {X:Cx} {pins:List (Addr×Obj)} {σ:St} {H:Hp} {s:Shared} {h':Heap} {fp:List Addr}
theorem Inv.turnedAll {t':Nat} (I:Inv X pins σ H s) (hf:∀ b∈fp,vZ X pins H b) (k:∀ b o,b∉fp->s.heap.get? b=some o->h'.get? b=some o):Inv X pins σ H { s with heap:=h',toks:=t' }:=by
 refine I.step (g':=s.gens) (d':=s.drawn) (ch:=fp) (fun b hb=>⟨(hf b hb).2.2.2.1,(hf b hb).2.1,(hf b hb).2.2.2.2⟩) (fun b o _ _ hc e _=>k b o hc e) (fun b o _ _ hc e _=>⟨o.slots,k b o hc e⟩) (fun _ _ _ _ n=>n)
  (fun b o hc e=>⟨o,k b o hc e⟩) (fun _ _ e=>e) (fun _ _ _ e=>e) (fun b ps e=>⟨#[],by rw [e];simp⟩) (fun m hm=>?_) (fun b u e=>?_) I.bare
 ·obtain⟨o,es,ep,ho,r⟩:=hm
  exact⟨o,es,ep,k _ o (fun z=>(hf _ z).2.1 rfl) ho,r⟩
 ·refine (I.hok b u e).stay (fun c v hc q=>k c v (fun z=>?_) q) (fun _ q=>q) fun _ _ q=>q
  have hn:=(hf c z).1
  rcases hc with hc | hc
  ·subst hc;rw [e] at hn;cases hn
  ·rw [hc] at hn;cases hn
theorem Inv.turnedNew {t':Nat} {t:Addr} {o:HO} (I:Inv X pins σ H s) (hf:∀ b∈fp,vZ X pins H b) (k:∀ b o,b∉fp->s.heap.get? b=some o->h'.get? b=some o) (ht:s.heap.objs.size<=t) (new:ObjOk X.prog X.w (upd H t o) h' t o) :
  Inv X pins σ (upd H t o) { s with heap:=h',toks:=t' }:=by
 have hn:H t=none:=I.hok.fresh ht
 have ne:∀ b ob,s.heap.get? b=some ob->b≠t:=fun b ob e=>aoR (aoL (aoB e) ht)
 refine I.step (g':=s.gens) (d':=s.drawn) (ch:=fp) (fun b hb=>⟨(hf b hb).2.2.2.1,(hf b hb).2.1,(hf b hb).2.2.2.2⟩) (fun b o _ _ hc e _=>k b o hc e) (fun b o _ _ hc e _=>⟨o.slots,k b o hc e⟩) (fun b ob _ e n=>by rw [zu (ne b ob e)];exact n)
  (fun b o hc e=>⟨o,k b o hc e⟩) (fun b xs e=>by rw [zu (zE e hn)];exact e) (fun b ob u e=>by rw [zu (zE e hn)];exact e) (fun b ps e=>⟨#[],by rw [zu (zE e hn),e];simp⟩) (fun m hm=>?_) (fun b u e=>?_) I.bare
 ·obtain⟨o,es,ep,ho,r⟩:=hm
  exact⟨o,es,ep,k _ o (fun z=>(hf _ z).2.1 rfl) ho,r⟩
 ·by_cases hb:b=t
  ·subst hb;rw [zy] at e;cases e;exact new
  ·rw [zu hb] at e
   refine (I.hok b u e).stay (fun c v hc q=>k c v (fun z=>?_) q) (fun c q=>by rw [zu (zE q hn)];exact q) fun c xs q=>by rw [zu (zE q hn)];exact q
   have hn':=(hf c z).1
   rcases hc with hc | hc
   ·subst hc;rw [e] at hn';cases hn'
   ·rw [hc] at hn';cases hn'
end
def Ite (K:aol) (a:Addr):It :=
 ⟨fun i H=>∃ xs x,SqL K H a xs/\xs[i]?=some x,fun i H x H'=>∃ t y,x=.ref t/\H t=none/\H'=upd H t (.tup [.int i,y])/\∀ xs,SqL K H a xs->xs[i]?=some y,fun i H=>∃ xs,SqL K H a xs/\xs.length<=i⟩
theorem ahj {P:Program} {w:World} {K:aol} {es:List Expr} {k:Nat} {pos:Pos} (a e it:Addr) (hne:e≠it):Turn P w K (.Tuple es k pos) (Ite K a) [e,it] e (fun i h=>(∃ old,IsEnum h e it i old)/\h.IsListIter it a i) where
 mem:=by simp
 obj:=fun i h st b hb=>by
  obtain⟨⟨old,se⟩,o,eo,c,d⟩:=st
  rcases aor.mp hb with z | z
  ·subst z
   exact⟨_,se,fun v z=>by
    have z':Data.fields _=Data.cell v:=z
    cases z'⟩
  ·have z:b=it:=by simpa using z
   subst z
   exact⟨o,eo,fun v z=>by rw [d] at z;cases z⟩
 keep:=fun i h h' st kk=>⟨let⟨old,se⟩:=st.1;⟨old,kk e (by simp) _ se⟩,st.2.at fun o eo=>kk it (by simp) o eo⟩
 item:=by
  intro X hP hw hK hc i pins s σ H E I hf st hg
  subst hP hw hK
  obtain⟨xs,x,hq,hx⟩:=hg
  obtain⟨its,rv,p,hz⟩:=I.list hq
  obtain⟨u,hu,ru⟩:=rv.get hx
  obtain⟨⟨old,se⟩,si⟩:=st
  refine wpAny_pyNext_enum_item se si p.isList (x:=u) (by simpa using hu) hne fun h' so si' tp sz kp=>?_
  refine⟨_,rfl,?_⟩
  refine wpAny_letOwnedTupleGo_enum (s:={ s with heap:=h',toks:=s.toks+1 }) so fun h2 se2 sb=>?_
  have hlt:e<s.heap.objs.size:=aoB se
  obtain⟨oi,eoi,_,_⟩:=id si
  have hlt2:it<s.heap.objs.size:=aoB eoi
  have kk:∀ b o,b∉[e,it]->s.heap.get? b=some o->h2.get? b=some o:=fun b o hb eb=>by
   have h1:b≠e:=fun z=>hb (by simp [z])
   have h2':b≠it:=fun z=>hb (by simp [z])
   exact (sb.2 b h1).trans (kp b o h1 h2' eb)
  have I2:Inv X pins σ (upd H s.heap.objs.size (.tup [.int i,x])) { s with heap:=h2,toks:=s.toks+1 }:=I.turnedNew hf kk (aop _)
   ⟨by show 2<=sizeLine;decide,[.int i s.toks,u],.cons ⟨_,rfl⟩ (.cons ru .nil),⟨_,(sb.2 _ (aq1 hlt)).trans tp,rfl,_,rfl⟩⟩
  refine⟨.ref s.heap.objs.size,_,I2,rfl,⟨_,x,rfl,I.fresh,rfl,fun ys hy=>by rw [I.list_inj hy hq];exact hx⟩,⟨⟨_,se2⟩,?_⟩,fun b hb=>?_⟩
  ·exact si'.at fun o eo=>(sb.2 it (apC hne)).trans eo
  ·rw [zu]
   ·exact (hf b hb).1
   ·rcases aor.mp hb with z | z
    ·subst z;exact aoR hlt
    ·have z:b=it:=by simpa using z
     subst z;exact aoR hlt2
 done:=by
  intro X hP hw hK hc i pins s σ H E I hf st hg
  subst hP hw hK
  obtain⟨xs,hq,hx⟩:=hg
  obtain⟨its,rv,p,hz⟩:=I.list hq
  obtain⟨⟨old,se⟩,si⟩:=st
  have hl:=rv.length
  exact wpAny_pyNext_enum_end (I.ok.hd hc) se si p.isList (by simp;omega) fun h' eb=>⟨rfl,I.turnedAll (t':=s.toks) hf fun b o hb e'=>eb b o (fun z=>hb (by simp [z])) e'⟩
 self:=fun _ _ _ _ _ st h=>let⟨_,se⟩:=st.1;wpAny_pyIter_enum se h
section
variable {X:Cx} {es:List Expr} {k:Nat} {tpos:Pos}
def agb (K:aol) (ta:TA):TI:=fun σ H R=>ta σ H fun vs H1=>∃ a,vs=[.ref a]/\(∃ xs,SqL K H1 a xs)/\R (Ite K a) H1
theorem aky {a:Expr} {ta:TA} {p pos:Pos} (hg:Gl X "enumerate") (hm:X.mg "enumerate"=none) (ha:PA X [a] ta) (hs:starEach [a] X.env=[(false,eval a X.env)]:=by rfl):PI X (.Tuple es k tpos) (.Call (.Name "enumerate" p) [a] [] pos) (agb X.K ta):=by
 intro pins s σ H R I h
 refine Call_ (aa5 I hg hm boot_enumerate (aqe (thn (ha pos pins s σ H _ I h) fun us s1 ⟨vs,H1,I1,r1,q1⟩=>?_) hs rfl))
 obtain⟨l,e,⟨xs,hq⟩,q⟩:=q1
 subst e
 cases r1 with
 | cons r rr =>
  cases rr
  cases r
  obtain⟨its,rv,p,hz⟩:=I1.list hq
  refine call_enumerate_list p.isList fun h' he hi hsz kp=>?_
  refine wpAny_pyIter_enum he ?_
  have hne:s1.heap.objs.size+1≠s1.heap.objs.size:=Nat.succ_ne_self _
  refine⟨s1.heap.objs.size+1,[s1.heap.objs.size+1,s1.heap.objs.size],_,_,H1,rfl,I1.kept (t':=s1.toks) kp,ahj l _ _ hne,⟨⟨_,he⟩,hi⟩,fun b hb=>?_,q⟩
  rcases aor.mp hb with z | z
  ·subst z;exact I1.fpOk (asa _) (I1.hok.fresh (asa _))
  ·have z:b=s1.heap.objs.size:=by simpa using z
   subst z;exact I1.fpOk (aop _) (I1.hok.fresh (aop _))
end
theorem aiz {K:aol} {a:Addr} {xs:List V} {g:TG} {tb:TS} {D:Ends} {σ:St} {H:Hp} (Pv:Nat->St->Hp->Prop) (h0:Pv 0 σ H) (hl:∀ i σ H,i<=xs.length->Pv i σ H->SqL K H a xs)
  (hs:∀ i x σ H t,xs[i]?=some x->Pv i σ H->H t=none->g (.ref t) σ (upd H t (.tup [.int i,x])) fun σ2 H2=>tb { D with nx:=Pv (i+1),ct:=Pv (i+1),bk:=D.nx } σ2 H2) (hd:∀ σ H,Pv xs.length σ H->D.nx σ H) :
  ∃ W:Nat->Nat->St->Hp->Prop,(∃ m,W 0 m σ H)/\∀ i m σ H,W i m σ H ->
   ((Ite K a).stop i H/\D.nx σ H) \/ ((Ite K a).go i H/\∃ N:St->Hp->Prop,(∀ σ' H',N σ' H'->∃ m',m'<m/\W (i+1) m' σ' H')/\∀ x H',(Ite K a).yld i H x H'->g x σ H' fun σ2 H2=>tb { D with nx:=N,ct:=N,bk:=D.nx } σ2 H2):=by
 refine⟨fun i m σ H=>Pv i σ H/\i<=xs.length/\m+i=xs.length,⟨xs.length,h0,ao2 _,rfl⟩,fun i m σ H ⟨p,hi,hm⟩=>?_⟩
 have q:=hl i σ H hi p
 by_cases hlt:i<xs.length
 ·refine .inr ⟨⟨xs,xs[i],q,aof hlt⟩,Pv (i+1),fun σ' H' n=>⟨m - 1,by omega,n,hlt,by omega⟩,fun x H' hy=>?_⟩
  obtain⟨t,y,rfl,ht,rfl,hy⟩:=hy
  exact hs i y σ H t (hy xs q) p ht
 ·have e:i=xs.length:=by omega
  subst e
  exact .inl ⟨⟨xs,q,aop _⟩,hd σ H p⟩
mutual
def Rep (K:aol) (H:Hp):PyData->V->Prop
 | .none,v=>v=.non
 | .bool b,v=>v=.bl b
 | .int i,v=>v=.int i
 | .str x,v=>v=.str x
 | .list ds,v=>∃ a xs,v=.ref a/\SqL K H a xs/\Reps K H ds xs
 | .tuple ds,v=>∃ a xs,v=.ref a/\SqT K H a xs/\Reps K H ds xs
 | .dict _,_=>False
def Reps (K:aol) (H:Hp):List PyData->List V->Prop
 | [],xs=>xs=[]
 | d :: ds,xs=>∃ x r,xs=x :: r/\Rep K H d x/\Reps K H ds r
end
theorem Same.seqT {K:aol} {H H':Hp} {a:Addr} {xs:List V} (e:Same H H') (h:SqT K H a xs):SqT K H' a xs:=by
 rcases h with (h | ⟨o,h⟩) | h
 ·exact .inl (.inl (e _ _ h))
 ·exact .inl (.inr ⟨o,e _ _ h⟩)
 ·exact .inr h
mutual
theorem Rep.mono {K:aol} {H H':Hp} (e:Same H H'):∀ (d:PyData) (v:V),Rep K H d v->Rep K H' d v
 | .none,_,h=>by rw [Rep] at h ⊢;exact h
 | .bool _,_,h=>by rw [Rep] at h ⊢;exact h
 | .int _,_,h=>by rw [Rep] at h ⊢;exact h
 | .str _,_,h=>by rw [Rep] at h ⊢;exact h
 | .list ds,v,h=>by
  rw [Rep] at h ⊢
  obtain⟨a,xs,h1,h2,h3⟩:=h
  exact⟨a,xs,h1,e.seq h2,Reps.mono e ds xs h3⟩
 | .tuple ds,v,h=>by
  rw [Rep] at h ⊢
  obtain⟨a,xs,h1,h2,h3⟩:=h
  exact⟨a,xs,h1,e.seqT h2,Reps.mono e ds xs h3⟩
 | .dict _,_,h=>by rw [Rep] at h;exact h.elim
theorem Reps.mono {K:aol} {H H':Hp} (e:Same H H'):∀ (ds:List PyData) (xs:List V),Reps K H ds xs->Reps K H' ds xs
 | [],_,h=>by rw [Reps] at h ⊢;exact h
 | d :: ds,xs,h=>by
  rw [Reps] at h ⊢
  obtain⟨x,r,h1,h2,h3⟩:=h
  exact⟨x,r,h1,Rep.mono e d x h2,Reps.mono e ds r h3⟩
end
theorem rep_int {K:aol} {H:Hp} {i:Int} {v:V}:Rep K H (.int i) v↔v=.int i:=by rw [Rep]
theorem rep_bool {K:aol} {H:Hp} {b:Bool} {v:V}:Rep K H (.bool b) v↔v=.bl b:=by rw [Rep]
theorem rep_none {K:aol} {H:Hp} {v:V}:Rep K H .none v↔v=.non:=by rw [Rep]
theorem rep_str {K:aol} {H:Hp} {x:Str} {v:V}:Rep K H (.str x) v↔v=.str x:=by rw [Rep]
theorem rep_list {K:aol} {H:Hp} {ds:List PyData} {v:V}:Rep K H (.list ds) v↔∃ a xs,v=.ref a/\SqL K H a xs/\Reps K H ds xs:=by rw [Rep]
theorem rep_tuple {K:aol} {H:Hp} {ds:List PyData} {v:V}:Rep K H (.tuple ds) v↔∃ a xs,v=.ref a/\SqT K H a xs/\Reps K H ds xs:=by rw [Rep]
theorem reps_nil {K:aol} {H:Hp} {xs:List V}:Reps K H [] xs↔xs=[]:=by rw [Reps]
theorem reps_cons {K:aol} {H:Hp} {d:PyData} {ds:List PyData} {xs:List V}:Reps K H (d :: ds) xs↔∃ x r,xs=x :: r/\Rep K H d x/\Reps K H ds r:=by rw [Reps]
theorem Reps.nil' {K:aol} {H:Hp}:Reps K H [] []:=reps_nil.mpr rfl
theorem Reps.cons' {K:aol} {H:Hp} {d:PyData} {ds:List PyData} {x:V} {r:List V} (h:Rep K H d x) (t:Reps K H ds r):Reps K H (d :: ds) (x :: r):=reps_cons.mpr ⟨x,r,rfl,h,t⟩
theorem Reps.length {K:aol} {H:Hp}:∀ {ds:List PyData} {xs:List V},Reps K H ds xs->xs.length=ds.length
 | [],xs,h=>by rw [reps_nil.mp h];rfl
 | d :: ds,xs,h=>by
  obtain⟨x,r,rfl,_,h3⟩:=reps_cons.mp h
  rw [aoE,aoE,Reps.length h3]
theorem Reps.get {K:aol} {H:Hp}:∀ {ds:List PyData} {xs:List V} {i:Nat} {d:PyData},Reps K H ds xs->ds[i]?=some d->∃ x,xs[i]?=some x/\Rep K H d x
 | [],_,_,_,_,e=>by simp at e
 | d :: ds,xs,0,d',h,e=>by
  obtain⟨x,r,rfl,h2,_⟩:=reps_cons.mp h
  simp at e;subst e
  exact⟨x,rfl,h2⟩
 | d :: ds,xs,i+1,d',h,e=>by
  obtain⟨x,r,rfl,_,h3⟩:=reps_cons.mp h
  obtain⟨y,h1,h2⟩:=Reps.get (i:=i) h3 (by simpa using e)
  exact⟨y,by simpa using h1,h2⟩
theorem Reps.snoc {K:aol} {H:Hp} {d:PyData} {x:V} (h:Rep K H d x):∀ {ds:List PyData} {xs:List V},Reps K H ds xs->Reps K H (ds++[d]) (xs++[x])
 | [],xs,t=>by rw [reps_nil.mp t];exact .cons' h .nil'
 | d' :: ds,xs,t=>by
  obtain⟨y,r,rfl,h2,h3⟩:=reps_cons.mp t
  exact .cons' h2 (Reps.snoc h h3)
theorem Reps.append {K:aol} {H:Hp}:∀ {ds es:List PyData} {xs ys:List V},Reps K H ds xs->Reps K H es ys->Reps K H (ds++es) (xs++ys)
 | [],es,xs,ys,t,u=>by rw [reps_nil.mp t];exact u
 | d' :: ds,es,xs,ys,t,u=>by
  obtain⟨y,r,rfl,h2,h3⟩:=reps_cons.mp t
  exact .cons' h2 (Reps.append h3 u)
theorem Reps.ints {K:aol} {H:Hp}:∀ {ns:List Int} {xs:List V},Reps K H (ns.map .int) xs->xs=ns.map V.int
 | [],xs,h=>reps_nil.mp h
 | n :: ns,xs,h=>by
  obtain⟨x,r,rfl,h2,h3⟩:=reps_cons.mp h
  rw [rep_int.mp h2,Reps.ints h3];rfl
theorem Reps.ints' {K:aol} {H:Hp}:∀ (ns:List Int),Reps K H (ns.map .int) (ns.map V.int)
 | []=>.nil'
 | n :: ns=>.cons' (rep_int.mpr rfl) (Reps.ints' ns)
section
variable {X:Cx} {pins:List (Addr×Obj)} {σ:St} {H:Hp} {s:Shared}
mutual
theorem yC (I:Inv X pins σ H s):∀ (d:PyData) (v:V) (u:Value),Rep X.K H d v->RelV v u->∃ as,Reads s.heap u d as
 | .none,v,u,h,r=>by rw [rep_none.mp h] at r;cases r;exact⟨_,.none⟩
 | .bool b,v,u,h,r=>by rw [rep_bool.mp h] at r;cases r;exact⟨_,.bool b⟩
 | .int i,v,u,h,r=>by rw [rep_int.mp h] at r;obtain⟨t,rfl⟩:=r;exact⟨_,.int i t⟩
 | .str x,v,u,h,r=>by rw [rep_str.mp h] at r;obtain⟨t,rfl⟩:=r;exact⟨_,.str x t⟩
 | .list ds,v,u,h,r=>by
  obtain⟨a,xs,rfl,h2,h3⟩:=rep_list.mp h
  cases r
  obtain⟨its,rv,p,_⟩:=I.list h2
  obtain⟨o,ho,hc,n,hd⟩:=p.isList
  obtain⟨as,ra⟩:=jc I ds xs its h3 rv
  exact⟨_,.list ho hc hd (by simpa using ra)⟩
 | .tuple ds,v,u,h,r=>by
  obtain⟨a,xs,rfl,h2,h3⟩:=rep_tuple.mp h
  cases r
  obtain⟨its,rv,p,_⟩:=I.tuple h2
  obtain⟨o,ho,hc,n,hd⟩:=p
  obtain⟨as,ra⟩:=jc I ds xs its h3 rv
  exact⟨_,.tuple ho hc hd (by simpa using ra)⟩
 | .dict _,_,_,h,_=>by rw [Rep] at h;exact h.elim
theorem jc (I:Inv X pins σ H s):∀ (ds:List PyData) (xs:List V) (us:List Value),Reps X.K H ds xs->Vals xs us->∃ as,ReadsAll s.heap us ds as
 | [],xs,us,h,r=>by rw [reps_nil.mp h] at r;cases r;exact⟨_,.nil⟩
 | d :: ds,xs,us,h,r=>by
  obtain⟨x,q,rfl,h2,h3⟩:=reps_cons.mp h
  cases r with
  | cons r1 r2 =>
   obtain⟨as,ra⟩:=yC I d x _ h2 r1
   obtain⟨bs,rb⟩:=jc I ds q _ h3 r2
   exact⟨_,.cons ra rb⟩
end
def aiA (K:aol) (neg:Bool):R2:=fun x y H Q=>∃ d d',Rep K H d x/\Rep K H d' y/\d.canLay0=true/\d'.canLay0=true/\min d.depth d'.depth<=60/\Q (.bl (if neg then !aoH d d' else aoH d d')) H
theorem amt (hu:X.A.units+64<cLine):OpR X (compareOp .Eq) (aiA X.K false):=by
 intro pins s σ H x y v u Q I rx ry h
 obtain⟨d,d',h1,h2,c1,c2,hm,q⟩:=h
 obtain⟨as,ra⟩:=yC I d x v h1 rx
 obtain⟨bs,rb⟩:=yC I d' y u h2 ry
 exact SeqAt.compareEq_reads ra rb c1 c2 (by omega) ⟨.bl (aoH d d'),H,I,rfl,q⟩
theorem amu (hu:X.A.units+64<cLine):OpR X (compareOp .NotEq) (aiA X.K true):=by
 intro pins s σ H x y v u Q I rx ry h
 obtain⟨d,d',h1,h2,c1,c2,hm,q⟩:=h
 obtain⟨as,ra⟩:=yC I d x v h1 rx
 obtain⟨bs,rb⟩:=yC I d' y u h2 ry
 exact SeqAt.compareNe_reads ra rb c1 c2 (by omega) ⟨.bl (!aoH d d'),H,I,rfl,q⟩
theorem ahk (hc:X.calm=true):yy X (.builtin "min") (fun xs H Q=>∃ a ns,xs=[.ref a]/\SqL X.K H a (ns.map V.int)/\ns≠[]/\∀ M,M∈ns->(∀ b∈ns,M<=b)->Q (.int M) H):=by
 intro pins s σ H xs us Q I r h
 obtain⟨a,ns,rfl,hq,hne,q⟩:=h
 obtain⟨u,rfl,r1⟩:=vals1 r
 cases r1
 obtain⟨its,rv,p,_⟩:=I.list hq
 obtain⟨m,F⟩:=I.fr
 have hi:=intsAre_of rv
 obtain⟨ys,e⟩:=hi.allInts.items
 have hns:ns=ys.toList.map (·.1):=by rw [<-hi.numsOf,<- nums_intItems,<- e]
 have hsz:0<ys.size:=by
  have h3:0<ns.length:=arX.mpr hne
  rw [hns,aog,aoz] at h3;exact h3
 have hl:=p.isList
 rw [e] at hl
 refine min_intList (I.ok.hd hc) hl hsz fun v h' tk hv hk=>?_
 obtain⟨t,rfl⟩:=intItems_at hv
 obtain⟨_,h2⟩:=argBest_lt (numAt ys) (ys.size - 1)
 refine⟨.int _,H,I.kept (t':=tk) hk,⟨t,rfl⟩,q _ ?_ fun b hb=>?_⟩
 ·rw [hns,numAt_eq];exact getD_mem (by rw [aog,aoz];omega)
 ·rw [hns] at hb
  obtain⟨j,hj,rfl⟩:=mem_getD hb
  rw [aog,aoz] at hj
  rw [<-numAt_eq];exact h2 j (by omega)
theorem ahl (hc:X.calm=true):yy X (.builtin "max") (fun xs H Q=>∃ a ns,xs=[.ref a]/\SqL X.K H a (ns.map V.int)/\ns≠[]/\∀ M,M∈ns->(∀ b∈ns,b<=M)->Q (.int M) H):=by
 intro pins s σ H xs us Q I r h
 obtain⟨a,ns,rfl,hq,hne,q⟩:=h
 obtain⟨u,rfl,r1⟩:=vals1 r
 cases r1
 obtain⟨its,rv,p,_⟩:=I.list hq
 have hi:=intsAre_of rv
 obtain⟨ys,e⟩:=hi.allInts.items
 have hns:ns=ys.toList.map (·.1):=by rw [<-hi.numsOf,<- nums_intItems,<- e]
 have hsz:0<ys.size:=by
  have h3:0<ns.length:=arX.mpr hne
  rw [hns,aog,aoz] at h3;exact h3
 have hl:=p.isList
 rw [e] at hl
 refine max_intList (I.ok.hd hc) hl hsz fun v h' tk hv hk=>?_
 obtain⟨t,rfl⟩:=intItems_at hv
 obtain⟨_,h2⟩:=argBest_gt (numAt ys) (ys.size - 1)
 refine⟨.int _,H,I.kept (t':=tk) hk,⟨t,rfl⟩,q _ ?_ fun b hb=>?_⟩
 ·rw [hns,numAt_eq];exact getD_mem (by rw [aog,aoz];omega)
 ·rw [hns] at hb
  obtain⟨j,hj,rfl⟩:=mem_getD hb
  rw [aog,aoz] at hj
  rw [<-numAt_eq];exact h2 j (by omega)
end
inductive DV where
 | dat (d:PyData)
 | feed
 | own (k:Nat)
 | exc (C:Value)
 | mon (φ:Hp->V->Prop)
abbrev zq:=List (Option DV)
structure Fx where
 f:Option Addr
 M:List Addr
def hide (H:Hp) (f:Fx):Hp:=fun b=>if f.f=some b \/ b∈f.M then none else H b
structure FOk (f:Fx) (H:Hp):Prop where
 fd:∀ p,f.f=some p->∃ a b:Int,H p=some (.lst [.int a,.int b])/\0<=a/\0<=b/\b<2147483647
 mm:∀ b∈f.M,∃ o,H b=some o
 nm:∀ p,f.f=some p->p∉f.M
def RepV (K:aol) (f:Fx) (H:Hp):DV->V->Prop
 | .dat d,v=>Rep K (hide H f) d v
 | .feed,v=>∃ p,f.f=some p/\v=.ref p
 | .own k,v=>∃ p,f.M.reverse[k]?=some p/\v=.ref p
 | .exc C,v=>∃ a,v=.ref a/\hide H f a=some (.ext fun h=>∃ o,h.get? a=some o/\o.cls=C)
 | .mon φ,v=>∀ H',Same (hide H f) H'->φ H' v
structure Goes (f:Fx) (H H':Hp):Prop where
 sm:Same (hide H f) (hide H' f)
 ok:FOk f H'
 kp:∀ b∈f.M,H' b=H b
structure EnvOk (K:aol) (f:Fx) (ρ:zq) (σ:St) (H:Hp):Prop where
 len:ρ.length=σ.length
 get:∀ (i:Nat) x,ρ[i]?=some (some x)->∃ v,σ[i]?=some (some v)/\RepV K f H x v
 fd:FOk f H
theorem yQ (H:Hp):hide H ⟨none,[]⟩=H:=by funext b;unfold hide;rw [if_neg (by rintro (h | h) <;> cases h)]
theorem zk (H:Hp) (f:Fx):Same (hide H f) H:=fun b o h=>by
 unfold hide at h
 split at h
 ·cases h
 ·exact h
theorem zN {H:Hp} {f:Fx} {b:Addr} {o:HO} (h:hide H f b=some o):¬ (f.f=some b \/ b∈f.M)/\H b=some o:=by
 unfold hide at h
 split at h
 ·cases h
 ·rename_i n;exact⟨n,h⟩
theorem zF {H:Hp} {f:Fx} {b:Addr} {o:HO} (n:¬ (f.f=some b \/ b∈f.M)) (h:H b=some o):hide H f b=some o:=by unfold hide;rw [if_neg n];exact h
theorem Goes.refl {f:Fx} {H:Hp} (h:FOk f H):Goes f H H:=⟨Same.refl _,h,fun _ _=>rfl⟩
theorem Goes.trans {f:Fx} {H H1 H2:Hp} (a:Goes f H H1) (b:Goes f H1 H2):Goes f H H2:=⟨a.1.trans b.1,b.2,fun x hx=>(b.kp x hx).trans (a.kp x hx)⟩
theorem Goes.of_same {f:Fx} {H H':Hp} (s:Same H H') (h:FOk f H):Goes f H H' :=
 ⟨fun b o e=>zF (zN e).1 (s b o (zN e).2),⟨fun p e=>let⟨a,b,h1,h2⟩:=h.fd p e;⟨a,b,s _ _ h1,h2⟩,fun b hb=>let⟨o,e⟩:=h.mm b hb;⟨o,s _ _ e⟩,h.nm⟩,fun b hb=>let⟨o,e⟩:=h.mm b hb;(s _ _ e).trans e.symm⟩
theorem z9 {H:Hp} {p:Addr} (h:H p=none) (o:HO):Same H (upd H p o):=fun b u q=>by rw [zu (zE q h)];exact q
theorem RepV.mono {K:aol} {f:Fx} {H H':Hp} (g:Goes f H H'):∀ {x:DV} {v:V},RepV K f H x v->RepV K f H' x v
 | .dat d,v,h=>Rep.mono g.1 d v h
 | .feed,v,h=>h
 | .own _,v,h=>h
 | .exc _,v,h=>let⟨a,e,q⟩:=h;⟨a,e,g.1 _ _ q⟩
 | .mon _,v,h=>fun H' s=>h H' (g.1.trans s)
theorem EnvOk.mono {K:aol} {f:Fx} {ρ:zq} {σ:St} {H H':Hp} (e:EnvOk K f ρ σ H) (g:Goes f H H'):EnvOk K f ρ σ H' :=
 ⟨e.len,fun i x h=>let⟨v,h1,h2⟩:=e.get i x h;⟨v,h1,h2.mono g⟩,g.2⟩
theorem EnvOk.set {K:aol} {f:Fx} {ρ:zq} {σ:St} {H:Hp} {x:DV} {v:V} (e:EnvOk K f ρ σ H) (i:Nat) (r:RepV K f H x v):EnvOk K f (ρ.set i (some x)) (σ.set i (some v)) H:=by
 refine⟨by rw [aqv,aqv];exact e.len,fun j y h=>?_,e.fd⟩
 by_cases hj:i=j
 ·subst hj
  by_cases hi:i<ρ.length
  ·rw [apG hi] at h
   cases h
   exact⟨v,by rw [apG (by rw [<-e.len];exact hi)],r⟩
  ·rw [aoP (by rw [aqv];omega)] at h;cases h
 ·rw [aqg hj] at h ⊢
  exact e.get j y h
theorem fresh_ne {f:Fx} {H:Hp} {p:Addr} (h:FOk f H) (n:H p=none):¬ (f.f=some p \/ p∈f.M):=fun e=>by
 rcases e with e | e
 ·obtain⟨a,b,h1,_⟩:=h.fd p e
  rw [n] at h1;cases h1
 ·obtain⟨o,h1⟩:=h.mm p e
  rw [n] at h1;cases h1
inductive RepVs (K:aol) (f:Fx) (H:Hp):List DV->List V->Prop where
 | nil:RepVs K f H [] []
 | cons {x v xs vs}:RepV K f H x v->RepVs K f H xs vs->RepVs K f H (x :: xs) (v :: vs)
theorem RepVs.mono {K:aol} {f:Fx} {H H':Hp} (g:Goes f H H'):∀ {xs:List DV} {vs:List V},RepVs K f H xs vs->RepVs K f H' xs vs
 | _,_,.nil=>.nil
 | _,_,.cons r t=>.cons (r.mono g) (t.mono g)
theorem RepVs.length {K:aol} {f:Fx} {H:Hp}:∀ {xs:List DV} {vs:List V},RepVs K f H xs vs->vs.length=xs.length
 | _,_,.nil=>rfl
 | _,_,.cons _ t=>by rw [aoE,aoE,t.length]
section
variable (K:aol) (f:Fx)
def PEd (te:TE) (ρ:zq) (P:PyData->Prop):Prop:=∀ (σ:St) (H:Hp) (Q:VK),EnvOk K f ρ σ H->(∀ d v H',Goes f H H'->Rep K (hide H' f) d v->P d->Q v H')->te σ H Q
def PTd (tt:TT) (ρ:zq) (P:Bool->Prop):Prop:=∀ (σ:St) (H:Hp) (Q:Bool->Hp->Prop),EnvOk K f ρ σ H->(∀ b H',Goes f H H'->P b->Q b H')->tt σ H Q
def PAd (ta:TA) (ρ:zq) (P:List DV->Prop):Prop:=∀ (σ:St) (H:Hp) (Q:List V->Hp->Prop),EnvOk K f ρ σ H->(∀ xs vs H',Goes f H H'->RepVs K f H' xs vs->P xs->Q vs H')->ta σ H Q
structure DEnds where
 nx:zq->Prop
 rt:PyData->Prop
 bk:zq->Prop:=fun _=>False
 ct:zq->Prop:=fun _=>False
def PSd (ts:TS) (ρ:zq) (D:DEnds):Prop:=∀ (σ:St) (H:Hp) (E:Ends),EnvOk K f ρ σ H->(∀ ρ' σ' H',Goes f H H'->EnvOk K f ρ' σ' H'->D.nx ρ'->E.nx σ' H')->(∀ d v H',Goes f H H'->Rep K (hide H' f) d v->D.rt d->E.rt v H') ->
 (∀ ρ' σ' H',Goes f H H'->EnvOk K f ρ' σ' H'->D.bk ρ'->E.bk σ' H')->(∀ ρ' σ' H',Goes f H H'->EnvOk K f ρ' σ' H'->D.ct ρ'->E.ct σ' H')->ts E σ H
def spD {γ:Type} (n:Nat) (pre:γ->List DV->Prop) (post:γ->PyData->Prop):Sp:=fun vs H Q _=>∃ f xs c,RepVs K f H xs vs/\xs.length=n/\FOk f H/\pre c xs/\∀ r v H',Goes f H H'->Rep K (hide H' f) r v->post c r->Q v H'
end
section
variable {K:aol} {f:Fx} {ρ:zq} {P:PyData->Prop} {te ta tb tc:TE}
theorem zm {i:Nat} {d:PyData} (h:ρ[i]?=some (some (.dat d))) (p:P d):PEd K f (yn i) ρ P:=fun σ H Q e q=>by
 obtain⟨v,h1,h2⟩:=e.get i _ h
 exact⟨v,h1,q d v H (.refl e.fd) h2 p⟩
theorem yR {i:Int} (p:P (.int i)):PEd K f (tC (.int i)) ρ P:=fun σ H Q e q=>q (.int i) _ H (.refl e.fd) (rep_int.mpr rfl) p
theorem ahm {i:Bool} (p:P (.bool i)):PEd K f (tC (.bl i)) ρ P:=fun σ H Q e q=>q (.bool i) _ H (.refl e.fd) (rep_bool.mpr rfl) p
theorem aiB {i:Str} (p:P (.str i)):PEd K f (tC (.str i)) ρ P:=fun σ H Q e q=>q (.str i) _ H (.refl e.fd) (rep_str.mpr rfl) p
theorem alO (p:P .none):PEd K f (tC .non) ρ P:=fun σ H Q e q=>q .none _ H (.refl e.fd) (rep_none.mpr rfl) p
theorem PEd.imp {P':PyData->Prop} (h:PEd K f te ρ P) (i:∀ d,P d->P' d):PEd K f te ρ P':=fun σ H Q e q=>h σ H Q e fun d v H' g r p=>q d v H' g r (i d p)
theorem ahn {r:R2} (h:PEd K f ta ρ fun x=>PEd K f tb ρ fun y=>∀ (v w:V) (H:Hp) (Q:VK),FOk f H->Rep K (hide H f) x v->Rep K (hide H f) y w->(∀ d u H',Goes f H H'->Rep K (hide H' f) d u->P d->Q u H')->r v w H Q):PEd K f (tOp r ta tb) ρ P:=fun σ H Q e q =>
 h σ H _ e fun x v H1 g1 r1 p1=>p1 σ H1 _ (e.mono g1) fun y w H2 g2 r2 p2=>p2 v w H2 Q g2.2 (Rep.mono g2.1 x v r1) r2 fun d u H' g' r' p'=>q d u H' (g1.trans (g2.trans g')) r' p'
theorem ad3 {g:Int->Int->Int} (h:PEd K f ta ρ fun x=>∃ i,x=.int i/\PEd K f tb ρ fun y=>∃ j,y=.int j/\P (.int (g i j))):PEd K f (tOp (rI0 fun i j=>.int (g i j)) ta tb) ρ P :=
 ahn (h.imp fun x ⟨i,ex,h2⟩=>h2.imp fun y ⟨j,ey,p⟩ v w H Q fo rx ry q=>by
  subst ex ey
  exact⟨i,j,rep_int.mp rx,rep_int.mp ry,q _ _ H (.refl fo) (rep_int.mpr rfl) p⟩)
theorem afe {C:Int->Int->Prop} {g:Int->Int->Int} (h:PEd K f ta ρ fun x=>∃ i,x=.int i/\PEd K f tb ρ fun y=>∃ j,y=.int j/\C i j/\P (.int (g i j))):PEd K f (tOp (rI C fun i j=>.int (g i j)) ta tb) ρ P :=
 ahn (h.imp fun x ⟨i,ex,h2⟩=>h2.imp fun y ⟨j,ey,c,p⟩ v w H Q fo rx ry q=>by
  subst ex ey
  exact⟨i,j,rep_int.mp rx,rep_int.mp ry,c,q _ _ H (.refl fo) (rep_int.mpr rfl) p⟩)
theorem aiC {g:Int->Int->Bool} (h:PEd K f ta ρ fun x=>∃ i,x=.int i/\PEd K f tb ρ fun y=>∃ j,y=.int j/\P (.bool (g i j))):PEd K f (tOp (rI0 fun i j=>.bl (g i j)) ta tb) ρ P :=
 ahn (h.imp fun x ⟨i,ex,h2⟩=>h2.imp fun y ⟨j,ey,p⟩ v w H Q fo rx ry q=>by
  subst ex ey
  exact⟨i,j,rep_int.mp rx,rep_int.mp ry,q _ _ H (.refl fo) (rep_bool.mpr rfl) p⟩)
theorem jC {neg:Bool} (h:PEd K f ta ρ fun x=>PEd K f tb ρ fun y=>x.canLay0=true/\y.canLay0=true/\min x.depth y.depth<=60/\P (.bool (if neg then !aoH x y else aoH x y))):PEd K f (tOp (aiA K neg) ta tb) ρ P :=
 ahn (h.imp fun x h2=>h2.imp fun y ⟨c1,c2,c3,p⟩ v w H Q fo rx ry q =>
  ⟨x,y,Rep.mono (zk _ _) x v rx,Rep.mono (zk _ _) y w ry,c1,c2,c3,q _ _ H (.refl fo) (rep_bool.mpr rfl) p⟩)
theorem jD (h:PEd K f ta ρ fun x=>∃ ds,x=.list ds/\PEd K f tb ρ fun y=>∃ k,y=.int k/\∃ d,atI ds k=some d/\P d):PEd K f (tOp (ahg K) ta tb) ρ P :=
 ahn (h.imp fun x ⟨ds,ex,h2⟩=>h2.imp fun y ⟨k,ey,d,a,p⟩ v w H Q fo rx ry q=>by
  subst ex ey
  obtain⟨l,xs,rfl,hs,hr⟩:=rep_list.mp rx
  unfold atI at a
  cases hi:ixN ds.length k with
  | none=>rw [hi] at a;cases a
  | some j =>
   rw [hi] at a
   obtain⟨u,hu,ru⟩:=hr.get a
   exact⟨l,xs,k,u,rfl,rep_int.mp ry,(zk H f).seq hs,by unfold atI;rw [hr.length,hi];exact hu,q d u H (.refl fo) ru p⟩)
theorem vA (h:PEd K f ta ρ fun x=>∃ ds,x=.tuple ds/\PEd K f tb ρ fun y=>∃ k,y=.int k/\∃ d,atI ds k=some d/\P d):PEd K f (tOp (aml K) ta tb) ρ P :=
 ahn (h.imp fun x ⟨ds,ex,h2⟩=>h2.imp fun y ⟨k,ey,d,a,p⟩ v w H Q fo rx ry q=>by
  subst ex ey
  obtain⟨l,xs,rfl,hs,hr⟩:=rep_tuple.mp rx
  unfold atI at a
  cases hi:ixN ds.length k with
  | none=>rw [hi] at a;cases a
  | some j =>
   rw [hi] at a
   obtain⟨u,hu,ru⟩:=hr.get a
   exact⟨l,xs,k,u,rfl,rep_int.mp ry,(zk H f).seqT hs,by unfold atI;rw [hr.length,hi];exact hu,q d u H (.refl fo) ru p⟩)
theorem alP {i:Nat} (hi:ρ[i]?=some (some .feed)) (h:PEd K f tb ρ fun y=>(y=.int 0/\∀ a:Int,0<=a->P (.int a)) \/ (y=.int 1/\∀ b:Int,0<=b->b<2147483647->P (.int b))):PEd K f (tOp (ahg K) (yn i) tb) ρ P:=fun σ H Q e q=>by
 obtain⟨v,h1,p,ef,ev⟩:=e.get i _ hi
 refine⟨v,h1,h σ H _ e fun y w H' g r c=>?_⟩
 obtain⟨a,b,hf,c1,c2,c3⟩:=g.2.fd p ef
 rcases c with⟨rfl,c⟩ | ⟨rfl,c⟩
 ·exact⟨p,_,0,.int a,ev,rep_int.mp r,SqL.of hf,rfl,q (.int a) _ H' g (rep_int.mpr rfl) (c a c1)⟩
 ·exact⟨p,_,1,.int b,ev,rep_int.mp r,SqL.of hf,rfl,q (.int b) _ H' g (rep_int.mpr rfl) (c b c2 c3)⟩
theorem yj {R:List DV->Prop} (p:R []):PAd K f vt ρ R:=fun σ H Q e q=>q [] [] H (.refl e.fd) .nil p
theorem zx {R:List DV->Prop} {u:TA} (h:PEd K f te ρ fun x=>PAd K f u ρ fun xs=>R (.dat x :: xs)):PAd K f (yO te u) ρ R:=fun σ H Q e q =>
 h σ H _ e fun x v H1 g1 r1 p1=>p1 σ H1 _ (e.mono g1) fun xs vs H2 g2 r2 p2=>q (.dat x :: xs) (v :: vs) H2 (g1.trans g2) (.cons (RepV.mono (x:=.dat x) g2 r1) r2) p2
theorem aiD {R:List DV->Prop} {u:TA} {i:Nat} (hi:ρ[i]?=some (some .feed)) (h:PAd K f u ρ fun xs=>R (.feed :: xs)):PAd K f (yO (yn i) u) ρ R:=fun σ H Q e q=>by
 obtain⟨v,h1,h2⟩:=e.get i _ hi
 exact⟨v,h1,h σ H _ e fun xs vs H2 g2 r2 p2=>q (.feed :: xs) (v :: vs) H2 g2 (.cons (RepV.mono (x:=.feed) g2 h2) r2) p2⟩
def ql:List DV->Option (List PyData)
 | []=>some []
 | .dat d :: r=>(ql r).map (d :: ·)
 | .feed :: _=>none
 | .own _ :: _=>none
 | .exc _ :: _=>none
 | .mon _ :: _=>none
theorem qY {H:Hp}:∀ {xs:List DV} {vs:List V} {ds:List PyData},RepVs K f H xs vs->ql xs=some ds->Reps K (hide H f) ds vs
 | _,_,ds,.nil,e=>by cases e;exact .nil'
 | .dat d :: xs,v :: vs,ds,.cons r t,e=>by
  unfold ql at e
  cases q:ql xs with
  | none=>rw [q] at e;cases e
  | some es=>rw [q] at e;cases e;exact .cons' r (qY t q)
 | .feed :: xs,_,ds,.cons r t,e=>by cases e
 | .own _ :: xs,_,ds,.cons r t,e=>by cases e
 | .exc _ :: xs,_,ds,.cons r t,e=>by cases e
 | .mon _ :: xs,_,ds,.cons r t,e=>by cases e
theorem agc {t:TA} (h:PAd K f t ρ fun xs=>∃ ds,ql xs=some ds/\ds.length<=1000/\P (.list ds)):PEd K f (ait t) ρ P:=fun σ H Q e q =>
 h σ H _ e fun xs vs H1 g1 r1 ⟨ds,ea,hl,p⟩=>by
  have rs:=qY r1 ea
  refine⟨by rw [rs.length];exact aps (z7 hl),fun l hn=>?_⟩
  have sm:=z9 hn (.lst vs)
  have g2:Goes f H1 (upd H1 l (.lst vs)):=.of_same sm g1.2
  exact q (.list ds) _ _ (g1.trans g2) (rep_list.mpr ⟨l,vs,rfl,.of (zF (fresh_ne g1.2 hn) zy),Reps.mono g2.1 ds vs rs⟩) p
theorem vB {t:TA} (h:PAd K f t ρ fun xs=>∃ ds,ql xs=some ds/\ds.length<=1000/\P (.tuple ds)):PEd K f (anr t) ρ P:=fun σ H Q e q =>
 h σ H _ e fun xs vs H1 g1 r1 ⟨ds,ea,hl,p⟩=>by
  have rs:=qY r1 ea
  refine⟨by rw [rs.length];exact aps (z7 hl),fun l hn=>?_⟩
  have sm:=z9 hn (.tup vs)
  have g2:Goes f H1 (upd H1 l (.tup vs)):=.of_same sm g1.2
  exact q (.tuple ds) _ _ (g1.trans g2) (rep_tuple.mpr ⟨l,vs,rfl,.of (zF (fresh_ne g1.2 hn) zy),Reps.mono g2.1 ds vs rs⟩) p
theorem zp {γ:Type} {n:Nat} {pre:γ->List DV->Prop} {post:γ->PyData->Prop} {E:XK} {t:TA} (c:γ) (h:PAd K f t ρ fun xs=>xs.length=n/\pre c xs/\∀ r,post c r->P r):PEd K f (acb (spD K n pre post) [] E t) ρ P:=fun σ H Q e q =>
 h σ H _ e fun xs vs H1 g1 r1 ⟨hl,hp,k⟩=>by
  refine⟨f,xs,c,by rw [apf];exact r1,hl,g1.2,hp,fun r v H' g' r' p'=>q r v H' (g1.trans g') r' (k r p')⟩
theorem aho {r:List V->Hp->VK->Prop} {t:TA} (h:PAd K f t ρ fun xs=>∃ ds,ql xs=some ds/\∀ (vs:List V) (H:Hp) (Q:VK),FOk f H->Reps K (hide H f) ds vs->(∀ d u H',Goes f H H'->Rep K (hide H' f) d u->P d->Q u H')->r vs H Q):PEd K f (tCB r t) ρ P:=fun σ H Q e q =>
 h σ H _ e fun xs vs H1 g1 r1 ⟨ds,ea,k⟩=>k vs H1 Q g1.2 (qY r1 ea) fun d u H' g' r' p'=>q d u H' (g1.trans g') r' p'
end
section
variable {K:aol} {f:Fx} {ρ:zq} {P:PyData->Prop} {B:Bool->Prop} {te ta tb tc:TE} {tt tu:TT}
theorem PTd.imp {B':Bool->Prop} (h:PTd K f tt ρ B) (i:∀ d,B d->B' d):PTd K f tt ρ B':=fun σ H Q e q=>h σ H Q e fun d H' g p=>q d H' g (i d p)
theorem yq (h:PEd K f te ρ fun d=>∃ k,d=.bool k/\B k):PTd K f (ab9 te) ρ B:=fun σ H Q e q=>h σ H _ e fun d v H' g r ⟨k,ed,p⟩=>by
 subst ed
 exact⟨k,rep_bool.mp r,q k H' g p⟩
theorem aci (h:PTd K f tt ρ fun c=>if c=true then PTd K f tu ρ B else B false):PTd K f (akm tt tu) ρ B:=fun σ H Q e q=>h σ H _ e fun c H1 g p=>by
 cases c with
 | true =>
  rw [if_pos rfl] at p ⊢
  exact p σ H1 Q (e.mono g) fun b H2 g2 p2=>q b H2 (g.trans g2) p2
 | false =>
  rw [if_neg aoi] at p ⊢
  exact q false H1 g p
theorem amv (h:PTd K f tt ρ fun c=>if c=true then B true else PTd K f tu ρ B):PTd K f (tOr tt tu) ρ B:=fun σ H Q e q=>h σ H _ e fun c H1 g p=>by
 cases c with
 | true =>
  rw [if_pos rfl] at p ⊢
  exact q true H1 g p
 | false =>
  rw [if_neg aoi] at p ⊢
  exact p σ H1 Q (e.mono g) fun b H2 g2 p2=>q b H2 (g.trans g2) p2
theorem ad4 (h:PTd K f tt ρ fun c=>B (!c)):PTd K f (anp tt) ρ B:=fun σ H Q e q=>h σ H _ e fun c H1 g p=>q (!c) H1 g p
def an0:PyData->Option Bool
 | .none=>some false
 | .bool b=>some b
 | .int i=>some (i != 0)
 | .list ds=>some (!ds.isEmpty)
 | .tuple ds=>some (!ds.isEmpty)
 | _=>none
def amw (K:aol) (ta:TE):TT:=fun σ H Q=>ta σ H fun x H'=>∃ k,ami K x H' k/\Q k H'
theorem amx {X:Cx} {a:Expr} (ha:PE X a ta) (he:∀ whole,isTrue a X.env whole=(do let v <- whole;standAt a.pos;holding [v] (truthy v))):PT X a (amw X.K ta):=air ha he
theorem yH (h:PEd K f ta ρ fun d=>∃ k,an0 d=some k/\B k):PTd K f (amw K ta) ρ B:=fun σ H Q e q=>h σ H _ e fun d v H' g r ⟨k,ed,p⟩=>by
 refine⟨k,?_,q k H' g p⟩
 cases d with
 | none=>rw [rep_none.mp r];cases ed;rfl
 | bool b=>rw [rep_bool.mp r];cases ed;rfl
 | int i=>rw [rep_int.mp r];cases ed;rfl
 | str x=>cases ed
 | list ds =>
  obtain⟨a,xs,rfl,h1,h2⟩:=rep_list.mp r
  cases ed
  refine .inl ⟨xs,(zk _ _).seq h1,?_⟩
  cases ds with
  | nil=>rw [reps_nil.mp h2];rfl
  | cons d ds=>obtain⟨x,r,rfl,_⟩:=reps_cons.mp h2;rfl
 | tuple ds =>
  obtain⟨a,xs,rfl,h1,h2⟩:=rep_tuple.mp r
  cases ed
  refine .inr (.inl ⟨xs,(zk _ _).seqT h1,?_⟩)
  cases ds with
  | nil=>rw [reps_nil.mp h2];rfl
  | cons d ds=>obtain⟨x,r,rfl,_⟩:=reps_cons.mp h2;rfl
 | dict _=>cases ed
theorem aiE (h:PTd K f tt ρ fun c=>if c=true then PEd K f ta ρ P else PEd K f tb ρ P):PEd K f (tIf tt ta tb) ρ P:=fun σ H Q e q=>h σ H _ e fun c H1 g p=>by
 cases c with
 | true=>rw [if_pos rfl] at p ⊢;exact p σ H1 Q (e.mono g) fun d v H2 g2 r2 p2=>q d v H2 (g.trans g2) r2 p2
 | false=>rw [if_neg aoi] at p ⊢;exact p σ H1 Q (e.mono g) fun d v H2 g2 r2 p2=>q d v H2 (g.trans g2) r2 p2
theorem abh (h:PEd K f ta ρ fun x=>∃ c,x=.bool c/\if c=true then PEd K f tb ρ P else P (.bool false)):PEd K f (aii ta tb) ρ P:=fun σ H Q e q=>h σ H _ e fun x v H1 g r ⟨c,ex,p⟩=>by
 subst ex
 refine⟨c,rep_bool.mp r,?_⟩
 cases c with
 | true=>rw [if_pos rfl] at p ⊢;exact p σ H1 Q (e.mono g) fun d v H2 g2 r2 p2=>q d v H2 (g.trans g2) r2 p2
 | false=>rw [if_neg aoi] at p ⊢;exact q _ _ H1 g (rep_bool.mpr rfl) p
theorem aiF (h:PEd K f ta ρ fun x=>∃ c,x=.bool c/\P (.bool !c)):PEd K f (alK ta) ρ P:=fun σ H Q e q=>h σ H _ e fun x v H1 g r ⟨c,ex,p⟩=>by
 subst ex
 exact⟨c,rep_bool.mp r,q _ _ H1 g (rep_bool.mpr rfl) p⟩
theorem agd {g g':Int->Int->Bool} (h:PEd K f ta ρ fun x=>∃ i,x=.int i/\PEd K f tb ρ fun y=>∃ j,y=.int j/\if g i j=true then PEd K f tc ρ fun z=>∃ k,z=.int k/\P (.bool (g' j k)) else P (.bool false)) :
  PEd K f (aiq (rI0 fun i j=>.bl (g i j)) (rI0 fun i j=>.bl (g' i j)) ta tb tc) ρ P:=fun σ H Q e q=>h σ H _ e fun x v H1 g1 r1 ⟨i,ex,p1⟩=>p1 σ H1 _ (e.mono g1) fun y w H2 g2 r2 ⟨j,ey,p2⟩=>by
 subst ex ey
 refine⟨i,j,rep_int.mp r1,rep_int.mp r2,g i j,rfl,?_⟩
 by_cases hg:g i j=true
 ·rw [if_pos hg] at p2 ⊢
  exact p2 σ H2 _ ((e.mono g1).mono g2) fun z u H3 g3 r3 ⟨k,ez,p3⟩=>by
   subst ez
   exact⟨j,k,rep_int.mp r2,rep_int.mp r3,q _ _ H3 (g1.trans (g2.trans g3)) (rep_bool.mpr rfl) p3⟩
 ·rw [if_neg hg] at p2 ⊢
  exact q _ _ H2 (g1.trans g2) (rep_bool.mpr rfl) p2
theorem qN {t:TA} (h:PAd K f t ρ fun xs=>(∃ ds,xs=[.dat (.list ds)]/\P (.int ds.length)) \/ (∃ ds,xs=[.dat (.tuple ds)]/\P (.int ds.length))) :
  PEd K f (tCB (fun xs H Q=>∃ p ys,xs=[.ref p]/\(SqL K H p ys \/ SqT K H p ys)/\Q (.int ys.length) H) t) ρ P :=
 aho fun σ H Q e q=>h σ H Q e fun xs vs H' g r p=>by
  rcases p with⟨ds,rfl,p⟩ | ⟨ds,rfl,p⟩
  ·refine q _ vs H' g r ⟨_,rfl,fun vs H Q fo rs k=>?_⟩
   obtain⟨x,r,rfl,h2,h3⟩:=reps_cons.mp rs
   rw [reps_nil.mp h3]
   obtain⟨a,ys,rfl,s1,s2⟩:=rep_list.mp h2
   exact⟨a,ys,rfl,.inl ((zk _ _).seq s1),k (.int ds.length) _ H (.refl fo) (rep_int.mpr (by rw [s2.length])) p⟩
  ·refine q _ vs H' g r ⟨_,rfl,fun vs H Q fo rs k=>?_⟩
   obtain⟨x,r,rfl,h2,h3⟩:=reps_cons.mp rs
   rw [reps_nil.mp h3]
   obtain⟨a,ys,rfl,s1,s2⟩:=rep_tuple.mp h2
   exact⟨a,ys,rfl,.inr ((zk _ _).seqT s1),k (.int ds.length) _ H (.refl fo) (rep_int.mpr (by rw [s2.length])) p⟩
theorem aiG {t:TA} (h:PAd K f t ρ fun xs=>∃ ns:List Int,xs=[.dat (.list (ns.map .int))]/\ns≠[]/\∀ M,M∈ns->(∀ b∈ns,M<=b)->P (.int M)) :
  PEd K f (tCB (fun xs H Q=>∃ a ns,xs=[.ref a]/\SqL K H a (ns.map V.int)/\ns≠[]/\∀ M,M∈ns->(∀ b∈ns,M<=b)->Q (.int M) H) t) ρ P :=
 aho fun σ H Q e q=>h σ H Q e fun xs vs H' g r ⟨ns,ex,hne,p⟩=>by
  subst ex
  refine q _ vs H' g r ⟨_,rfl,fun vs H Q fo rs k=>?_⟩
  obtain⟨x,r,rfl,h2,h3⟩:=reps_cons.mp rs
  rw [reps_nil.mp h3]
  obtain⟨a,ys,rfl,s1,s2⟩:=rep_list.mp h2
  rw [s2.ints] at s1
  exact⟨a,ns,rfl,(zk _ _).seq s1,hne,fun M h1 h2=>k (.int M) _ H (.refl fo) (rep_int.mpr rfl) (p M h1 h2)⟩
theorem aiH {t:TA} (h:PAd K f t ρ fun xs=>∃ ns:List Int,xs=[.dat (.list (ns.map .int))]/\ns≠[]/\∀ M,M∈ns->(∀ b∈ns,b<=M)->P (.int M)) :
  PEd K f (tCB (fun xs H Q=>∃ a ns,xs=[.ref a]/\SqL K H a (ns.map V.int)/\ns≠[]/\∀ M,M∈ns->(∀ b∈ns,b<=M)->Q (.int M) H) t) ρ P :=
 aho fun σ H Q e q=>h σ H Q e fun xs vs H' g r ⟨ns,ex,hne,p⟩=>by
  subst ex
  refine q _ vs H' g r ⟨_,rfl,fun vs H Q fo rs k=>?_⟩
  obtain⟨x,r,rfl,h2,h3⟩:=reps_cons.mp rs
  rw [reps_nil.mp h3]
  obtain⟨a,ys,rfl,s1,s2⟩:=rep_list.mp h2
  rw [s2.ints] at s1
  exact⟨a,ns,rfl,(zk _ _).seq s1,hne,fun M h1 h2=>k (.int M) _ H (.refl fo) (rep_int.mpr rfl) (p M h1 h2)⟩
theorem aiI {g:Int->Int->Int} {t:TA} (h:PAd K f t ρ fun xs=>∃ i j,xs=[.dat (.int i),.dat (.int j)]/\P (.int (g i j))):PEd K f (tCB (fun xs H Q=>∃ i j,xs=[.int i,.int j]/\Q (.int (g i j)) H) t) ρ P :=
 aho fun σ H Q e q=>h σ H Q e fun xs vs H' g' r ⟨i,j,ex,p⟩=>by
  subst ex
  refine q _ vs H' g' r ⟨_,rfl,fun vs H Q fo rs k=>?_⟩
  obtain⟨x,r,rfl,h2,h3⟩:=reps_cons.mp rs
  obtain⟨y,r',rfl,h4,h5⟩:=reps_cons.mp h3
  rw [reps_nil.mp h5,rep_int.mp h2,rep_int.mp h4]
  exact⟨i,j,rfl,k _ _ H (.refl fo) (rep_int.mpr rfl) p⟩
theorem aiJ {g:Int->Int} {t:TA} (h:PAd K f t ρ fun xs=>∃ i,xs=[.dat (.int i)]/\P (.int (g i))):PEd K f (tCB (fun xs H Q=>∃ i,xs=[.int i]/\Q (.int (g i)) H) t) ρ P :=
 aho fun σ H Q e q=>h σ H Q e fun xs vs H' g' r ⟨i,ex,p⟩=>by
  subst ex
  refine q _ vs H' g' r ⟨_,rfl,fun vs H Q fo rs k=>?_⟩
  obtain⟨x,r,rfl,h2,h3⟩:=reps_cons.mp rs
  rw [reps_nil.mp h3,rep_int.mp h2]
  exact⟨i,rfl,k _ _ H (.refl fo) (rep_int.mpr rfl) p⟩
end
section
variable {K:aol} {f:Fx} {ρ:zq} {D:DEnds} {te ta tb:TE} {tt:TT} {ts tu:TS}
theorem vC (p:D.nx ρ):PSd K f afY ρ D:=fun σ H E e n _ _ _=>n ρ σ H (.refl e.fd) e p
theorem z6 (h:PSd K f ts ρ { D with nx:=fun ρ'=>PSd K f tu ρ' D }):PSd K f (qL ts tu) ρ D:=fun σ H E e n r b c =>
 h σ H { E with nx:=tu E } e (fun ρ' σ' H' g e' p=>p σ' H' E e' (fun ρ'' σ'' H'' g' e'' p'=>n ρ'' σ'' H'' (g.trans g') e'' p') (fun d v H'' g' r' p'=>r d v H'' (g.trans g') r' p') (fun ρ'' σ'' H'' g' e'' p'=>b ρ'' σ'' H'' (g.trans g') e'' p') (fun ρ'' σ'' H'' g' e'' p'=>c ρ'' σ'' H'' (g.trans g') e'' p')) r b c
theorem yT (h:PEd K f te ρ D.rt):PSd K f (adQ te) ρ D:=fun σ H E e n r b c=>h σ H _ e r
theorem vO (h:PEd K f te ρ fun _=>D.nx ρ):PSd K f (afZ te) ρ D:=fun σ H E e n r b c=>h σ H _ e fun d v H' g _ p=>n ρ σ H' g (e.mono g) p
theorem abW (h:PTd K f tt ρ fun b=>if b=true then PSd K f ts ρ D else PSd K f tu ρ D):PSd K f (akn tt ts tu) ρ D:=fun σ H E e n r b c=>h σ H _ e fun k H1 g p=>by
 cases k with
 | true =>
  rw [if_pos rfl] at p ⊢
  exact p σ H1 E (e.mono g) (fun ρ'' σ'' H'' g' e'' p'=>n ρ'' σ'' H'' (g.trans g') e'' p') (fun d v H'' g' r' p'=>r d v H'' (g.trans g') r' p') (fun ρ'' σ'' H'' g' e'' p'=>b ρ'' σ'' H'' (g.trans g') e'' p') (fun ρ'' σ'' H'' g' e'' p'=>c ρ'' σ'' H'' (g.trans g') e'' p')
 | false =>
  rw [if_neg aoi] at p ⊢
  exact p σ H1 E (e.mono g) (fun ρ'' σ'' H'' g' e'' p'=>n ρ'' σ'' H'' (g.trans g') e'' p') (fun d v H'' g' r' p'=>r d v H'' (g.trans g') r' p') (fun ρ'' σ'' H'' g' e'' p'=>b ρ'' σ'' H'' (g.trans g') e'' p') (fun ρ'' σ'' H'' g' e'' p'=>c ρ'' σ'' H'' (g.trans g') e'' p')
def PGd (K:aol) (f:Fx) (g:TG) (d:PyData) (ρ:zq) (R:zq->Prop):Prop:=∀ (σ:St) (H:Hp) (v:V) (Q:St->Hp->Prop),EnvOk K f ρ σ H->Rep K (hide H f) d v->(∀ ρ' σ' H',Goes f H H'->EnvOk K f ρ' σ' H'->R ρ'->Q σ' H')->g v σ H Q
def aiK (K:aol) (f:Fx) (g:TGs) (ds:List PyData) (ρ:zq) (R:zq->Prop):Prop:=∀ (σ:St) (H:Hp) (vs:List V) (Q:St->Hp->Prop),EnvOk K f ρ σ H->Reps K (hide H f) ds vs->(∀ ρ' σ' H',Goes f H H'->EnvOk K f ρ' σ' H'->R ρ'->Q σ' H')->g vs σ H Q
theorem zi {i:Nat} {d:PyData} {R:zq->Prop} (h:R (ρ.set i (some (.dat d)))):PGd K f (yW i) d ρ R:=fun σ H v Q e r q=>q _ _ H (.refl e.fd) (e.set i (x:=.dat d) r) h
theorem zT {R:zq->Prop} (h:R ρ):aiK K f amc [] ρ R:=fun σ H vs Q e r q=>⟨reps_nil.mp r,q ρ σ H (.refl e.fd) e h⟩
theorem zo {g:TG} {gs:TGs} {d:PyData} {ds:List PyData} {R:zq->Prop} (h:PGd K f g d ρ fun ρ'=>aiK K f gs ds ρ' R):aiK K f (af0 g gs) (d :: ds) ρ R:=fun σ H vs Q e r q=>by
 obtain⟨x,r',rfl,h2,h3⟩:=reps_cons.mp r
 exact⟨x,r',rfl,h σ H x _ e h2 fun ρ' σ' H' g' e' p=>p σ' H' r' Q e' (Reps.mono g'.1 ds r' h3) fun ρ'' σ'' H'' g'' e'' p'=>q ρ'' σ'' H'' (g'.trans g'') e'' p'⟩
theorem yt {n:Nat} {gs:TGs} {ds:List PyData} {R:zq->Prop} (hn:ds.length=n) (h:aiK K f gs ds ρ R):PGd K f (akp K n gs) (.tuple ds) ρ R:=fun σ H v Q e r q=>by
 obtain⟨a,xs,rfl,h1,h2⟩:=rep_tuple.mp r
 exact⟨a,xs,rfl,(zk _ _).seqT h1,by rw [h2.length];exact hn,h σ H xs Q e h2 q⟩
theorem zP {g:TG} (h:PEd K f te ρ fun d=>PGd K f g d ρ D.nx):PSd K f (jR te g) ρ D:=fun σ H E e n r b c =>
 h σ H _ e fun d v H1 g1 r1 p1=>p1 σ H1 v _ (e.mono g1) r1 fun ρ' σ' H' g' e' p'=>n ρ' σ' H' (g1.trans g') e' p'
end
section
variable {K:aol} {f:Fx} {ρ:zq} {D:DEnds} {te ta tb:TE} {tt:TT} {ts tu:TS} {g:TG}
theorem aff {t:TA} (h:PAd K f t ρ fun xs=>∃ ds,xs=[.dat (.list ds)]/\∃ J:Nat->zq->Prop,J 0 ρ /\
   (∀ (i:Nat) d ρ',ds[i]?=some d->J i ρ'->PGd K f g (.tuple [.int i,d]) ρ' fun ρ2=>PSd K f ts ρ2 { D with nx:=J (i+1),ct:=J (i+1),bk:=D.nx })/\∀ ρ',J ds.length ρ'->D.nx ρ') :
  PSd K f (akr (agb K t) g ts) ρ D:=fun σ H E e n r b c=>h σ H _ e fun xs vs H1 g1 r1 ⟨ds,ex,J,j0,js,jd⟩=>by
 subst ex
 cases r1 with
 | cons rx r' =>
  cases r'
  obtain⟨a,xs,rfl,h1,h2⟩:=rep_list.mp rx
  have hl:=h2.length
  refine⟨a,rfl,⟨xs,(zk _ _).seq h1⟩,aiz (K:=K) (a:=a) (xs:=xs) (fun i σ' H'=>∃ ρ',EnvOk K f ρ' σ' H'/\Goes f H H'/\Goes f H1 H'/\J i ρ') ⟨ρ,e.mono g1,g1,.refl g1.2,j0⟩ (fun i σ' H' _ ⟨ρ',e',g',g1',p⟩=>(zk _ _).seq (g1'.1.seq h1)) (fun i y σ' H' tp hy ⟨ρ',e',g',g1',p⟩ hn=>?_) fun σ' H' ⟨ρ',e',g',_,p⟩=>n ρ' σ' H' g' e' (jd ρ' (by rw [<-hl];exact p))⟩
  have hi:i<ds.length:=by rw [<-hl];exact (aoh.mp hy).1
  obtain⟨z,hz,rz⟩:=h2.get (aof hi)
  rw [hy] at hz
  cases hz
  have gn:Goes f H' (upd H' tp (.tup [.int i,y])):=.of_same (z9 hn _) e'.fd
  have rt:Rep K (hide (upd H' tp (.tup [.int i,y])) f) (.tuple [.int i,ds[i]]) (.ref tp):=rep_tuple.mpr ⟨tp,_,rfl,.of (zF (fresh_ne e'.fd hn) zy),.cons' (rep_int.mpr rfl) (.cons' (Rep.mono gn.1 _ _ (Rep.mono g1'.1 _ _ rz)) .nil')⟩
  refine js i _ ρ' (aof hi) p σ' _ _ _ (e'.mono gn) rt fun ρ2 σ2 H2 g2' e2 p2=>?_
  have g2:=gn.trans g2'
  exact p2 σ2 H2 _ e2 (fun ρ3 σ3 H3 g3 e3 p3=>⟨ρ3,e3,g'.trans (g2.trans g3),g1'.trans (g2.trans g3),p3⟩) (fun d v H3 g3 r3 p3=>r d v H3 (g'.trans (g2.trans g3)) r3 p3) (fun ρ3 σ3 H3 g3 e3 p3=>n ρ3 σ3 H3 (g'.trans (g2.trans g3)) e3 p3) (fun ρ3 σ3 H3 g3 e3 p3=>⟨ρ3,e3,g'.trans (g2.trans g3),g1'.trans (g2.trans g3),p3⟩)
end
def frD (fr:List Nat) (ρ:zq):zq:=fr.map fun j=>(ρ[j]?).getD none
def aap (own:Nat) (fr:List Nat) (ρ:zq):zq:=apN own none++frD fr ρ
abbrev Fx.with (f:Fx) (D:Addr):Fx:=⟨f.f,D :: f.M⟩
section
variable {K:aol} {f:Fx} {ρ:zq} {σ:St} {H H':Hp} {D:Addr} {o:HO}
theorem ahp {own:Nat} {fr:List Nat} (e:EnvOk K f ρ σ H):EnvOk K f (aap own fr ρ) (jf own fr σ) H:=by
 refine⟨by unfold aap jf frD;simp,fun i x h=>?_,e.fd⟩
 unfold aap frD at h
 unfold jf
 by_cases hi:i<own
 ·rw [aov (by simpa using hi),ap1] at h
  split at h <;> cases h
 ·rw [aoG (by simpa using hi)] at h ⊢
  simp only [aqJ,aoq] at h ⊢
  cases hj:fr[i - own]? with
  | none=>rw [hj] at h;cases h
  | some j =>
   rw [hj] at h
   have h':(ρ[j]?).getD none=some x:=Option.some.inj h
   have hρ:ρ[j]?=some (some x):=by
    cases q:ρ[j]? with
    | none=>rw [q] at h';cases h'
    | some w=>rw [q] at h';exact congrArg some h'
   obtain⟨v,h1,h2⟩:=e.get j x hρ
   exact⟨v,by simp [h1],h2⟩
theorem yw:hide (upd H D o) (f.with D)=hide H (f.with D):=by
 funext b
 unfold hide
 by_cases hb:f.f=some b \/ b∈D :: f.M
 ·rw [if_pos hb,if_pos hb]
 ·rw [if_neg hb,if_neg hb]
  have:b≠D:=fun z=>hb (.inr (z▸aom))
  exact zu this
theorem jY:Same (hide H (f.with D)) (hide H f):=fun b o h=>by
 obtain⟨h1,h2⟩:=zN h
 exact zF (fun z=>h1 (z.elim .inl fun z=>.inr (aon _ z))) h2
theorem qZ (hn:H D=none):Same (hide H f) (hide (upd H D o) (f.with D)):=fun b u h=>by
 obtain⟨h1,h2⟩:=zN h
 have hb:b≠D:=zE h2 hn
 exact zF (fun z=>z.elim (fun z=>h1 (.inl z)) fun z=>(aor.mp z).elim hb fun z=>h1 (.inr z)) (by rw [zu hb];exact h2)
theorem amy (h:FOk f H) (hn:H D=none):FOk (f.with D) (upd H D o) :=
 ⟨fun p e=>let⟨a,b,h1,h2⟩:=h.fd p e;⟨a,b,by rw [zu (zE h1 hn)];exact h1,h2⟩,fun b hb=>by
  rcases aor.mp hb with rfl | hb
  ·exact⟨_,zy⟩
  ·obtain⟨o',h1⟩:=h.mm b hb
   exact⟨o',by rw [zu (zE h1 hn)];exact h1⟩,fun p e hp=>by
  rcases aor.mp hp with rfl | hp
  ·exact fresh_ne h hn (.inl e)
  ·exact h.nm p e hp⟩
theorem aiL (e:EnvOk K f ρ σ H) (hn:H D=none):EnvOk K (f.with D) ρ σ (upd H D o) :=
 ⟨e.len,fun i x h=>let⟨v,h1,h2⟩:=e.get i x h;⟨v,h1,by
  cases x with
  | dat d=>exact Rep.mono (qZ hn) d v h2
  | feed=>exact h2
  | own k =>
   obtain⟨p,h3,h4⟩:=h2
   refine⟨p,?_,h4⟩
   show (D :: f.M).reverse[k]?=some p
   rw [arn,aov (aoh.mp h3).1]
   exact h3
  | exc C =>
   obtain⟨a,h3,h4⟩:=h2
   exact⟨a,h3,qZ hn _ _ h4⟩
  | mon φ=>exact fun H' s=>h2 H' ((qZ hn).trans s)⟩,amy e.fd hn⟩
theorem akz (hD:f.f≠some D) (e:EnvOk K (f.with D) ρ σ H):EnvOk K (f.with D) ρ σ (upd H D o) :=
 ⟨e.len,fun i x h=>let⟨v,h1,h2⟩:=e.get i x h;⟨v,h1,by
  cases x with
  | dat d =>
   have h2':Rep K (hide H (f.with D)) d v:=h2
   show Rep K (hide (upd H D o) (f.with D)) d v
   rw [yw];exact h2'
  | feed=>exact h2
  | own k=>exact h2
  | exc C =>
   obtain⟨a,h3,h4⟩:=h2
   refine⟨a,h3,?_⟩
   rw [yw]
   exact h4
  | mon φ =>
   intro H' s
   rw [yw] at s
   exact h2 H' s⟩,⟨fun p ep=>let⟨a,b,h1,h2⟩:=e.fd.fd p ep;⟨a,b,by rw [zu (fun z=>hD (by rw [<-z];exact ep))];exact h1,h2⟩,fun b hb=>by
   by_cases hb':b=D
   ·subst hb';exact⟨_,zy⟩
   ·rw [zu hb'];exact e.fd.mm b hb,e.fd.nm⟩⟩
end
section
variable {K:aol} {f:Fx} {ρ:zq} {P:PyData->Prop} {te tl:TE} {tt:TT} {g:TG} {own:Nat} {fr:List Nat}
structure CSt (K:aol) (f:Fx) (D:Addr) (H2:Hp) (ρ':zq) (es:List PyData) (σ:St) (H:Hp):Prop where
 env:EnvOk K (f.with D) ρ' σ H
 sm:Same (hide H2 (f.with D)) (hide H (f.with D))
 kp:∀ b∈f.M,H b=H2 b
 lst:∃ vs,H D=some (.lst vs)/\Reps K (hide H (f.with D)) es vs
theorem CSt.go {D:Addr} {H2 H H':Hp} {ρ':zq} {es:List PyData} {σ:St} (c:CSt K f D H2 ρ' es σ H) (gg:Goes (f.with D) H H') {ρ2:zq} {σ2:St} (e2:EnvOk K (f.with D) ρ2 σ2 H'):CSt K f D H2 ρ2 es σ2 H' :=
 ⟨e2,c.sm.trans gg.sm,fun b hb=>(gg.kp b (aon _ hb)).trans (c.kp b hb),let⟨vs,h1,h2⟩:=c.lst;⟨vs,(gg.kp D aom).trans h1,Reps.mono gg.sm es vs h2⟩⟩
theorem CSt.put {D:Addr} {H2 H:Hp} {ρ':zq} {es:List PyData} {σ:St} {d:PyData} {v:V} {vs:List V} (hD:f.f≠some D) (hM:D∉f.M) (c:CSt K f D H2 ρ' es σ H) (h1:H D=some (.lst vs)) (h2:Reps K (hide H (f.with D)) es vs) (r:Rep K (hide H (f.with D)) d v) :
  CSt K f D H2 ρ' (es++[d]) σ (upd H D (.lst (vs++[v]))) :=
 ⟨akz hD c.env,by rw [yw];exact c.sm,fun b hb=>(zu (fun (z:b=D)=>hM (z▸hb))).trans (c.kp b hb),⟨_,zy,by rw [yw];exact h2.snoc r⟩⟩
theorem ahq {D:Addr} {H2 H:Hp} {ρ':zq} {es:List PyData} {σ:St} {d:PyData} {v:V} {W:St->Hp->Prop} {R:zq->List PyData->Prop} (hD:f.f≠some D) (hM:D∉f.M) (c:CSt K f D H2 ρ' es σ H) (hl:es.length<1000) (r:Rep K (hide H (f.with D)) d v)
  (h:PGd K (f.with D) g d ρ' fun ρ2=>PTd K (f.with D) tt ρ2 fun b=>if b=true then PEd K (f.with D) te ρ2 fun e=>R ρ2 (es++[e]) else R ρ2 es)
  (hW:∀ ρ2 es2 σ2 H',CSt K f D H2 ρ2 es2 σ2 H'->R ρ2 es2->W σ2 H') :
  g v σ H fun σ2 H3=>tt σ2 H3 fun b H4=>if b=true then vz D te σ2 H4 W else W σ2 H4:=by
 refine h σ H v _ c.env r fun ρ2 σ2 H3 g3 e3 p3=>?_
 have c3:=c.go g3 e3
 refine p3 σ2 H3 _ e3 fun b H4 g4 p4=>?_
 have c4:=c3.go g4 (e3.mono g4)
 cases b with
 | false =>
  rw [if_neg aoi] at p4 ⊢
  exact hW _ _ _ _ c4 p4
 | true =>
  rw [if_pos rfl] at p4 ⊢
  refine p4 σ2 H4 _ (e3.mono g4) fun e u H5 g5 r5 p5=>?_
  have c5:=c4.go g5 ((e3.mono g4).mono g5)
  obtain⟨vs,h1,h2⟩:=c5.lst
  exact⟨vs,h1,z7 (by rw [h2.length];omega),hW _ _ _ _ (c5.put hD hM h1 h2 r5) p5⟩
theorem ad5 {D:Addr} {H1 H:Hp} {ρ':zq} {es:List PyData} {σ σ':St} (hn:H1 D=none) (fo:FOk f H1) (c:CSt K f D (upd H1 D (.lst [])) ρ' es σ H):Goes f H1 H/\Rep K (hide H f) (.list es) (.ref D):=by
 obtain⟨vs,h1,h2⟩:=c.lst
 have nD:=fresh_ne fo hn
 refine⟨⟨((qZ hn).trans c.sm).trans jY,⟨c.env.fd.fd,fun b hb=>c.env.fd.mm b (aon _ hb),fun p e hp=>c.env.fd.nm p e (aon _ hp)⟩,fun b hb=>?_⟩,rep_list.mpr ⟨D,vs,rfl,.of (zF nD h1),Reps.mono jY es vs h2⟩⟩
 rw [c.kp b hb,zu]
 obtain⟨o,h3⟩:=fo.mm b hb
 exact zE h3 hn
theorem abi {D:Addr} {H1:Hp} {σ:St} (hn:H1 D=none) (e:EnvOk K f ρ σ H1):CSt K f D (upd H1 D (.lst [])) (aap own fr ρ) [] (jf own fr σ) (upd H1 D (.lst [])) :=
 ⟨aiL (ahp e) hn,Same.refl _,fun _ _=>rfl,⟨[],zy,.nil'⟩⟩
theorem akA {t:TA} (h:PAd K f t ρ fun xs=>∃ j:Int,xs=[.dat (.int j)]/\j<=1000/\-1000<=j/\∃ R:Nat->zq->List PyData->Prop,R 0 (aap own fr ρ) [] /\
   (∀ D (i:Nat) ρ' es,(i:Int)<j->R i ρ' es->PGd K (f.with D) g (.int i) ρ' fun ρ2=>PTd K (f.with D) tt ρ2 fun b=>if b=true then PEd K (f.with D) te ρ2 fun e=>R (i+1) ρ2 (es++[e]) else R (i+1) ρ2 es) /\
   (∀ i ρ' es,R i ρ' es->es.length<=i)/\∀ ρ' es,R j.toNat ρ' es->P (.list es)) :
  PEd K f (jX (af1 t) own fr g tt fun D=>vz D te) ρ P:=fun σ H Q e q=>h σ H _ e fun xs vs H1 g1 r1 ⟨j,ex,b1,b2,R,r0,rs,rl,re⟩=>by
 subst ex
 cases r1 with
 | @cons _ v0 _ _ rx r' =>
  cases r'
  have rx':Rep K (hide H1 f) (.int j) v0:=rx
  refine⟨j,by rw [rep_int.mp rx'],by omega,by omega,fun D hn=>?_⟩
  have nD:=fresh_ne g1.2 hn
  have hD:f.f≠some D:=fun z=>nD (.inl z)
  have hM:D∉f.M:=fun z=>nD (.inr z)
  have e1:=e.mono g1
  refine⟨fun i m σ' H'=>∃ ρ' es,CSt K f D (upd H1 D (.lst [])) ρ' es σ' H'/\R i ρ' es/\i<=j.toNat/\m+i=j.toNat,⟨j.toNat,_,[],abi hn e1,r0,ao2 _,rfl⟩,fun i m σ' H' ⟨ρ',es,c,p,hi,hm⟩=>?_⟩
  by_cases hlt:i<j.toNat
  ·refine .inr ⟨hlt,fun x H3 hy=>?_⟩
   obtain⟨rfl,rfl⟩:=hy
   have hz:(0:Int)+(i:Int)=(i:Int):=Int.zero_add _
   rw [hz]
   refine ahq (R:=R (i+1)) hD hM c (by have:=rl i ρ' es p;omega) ((rep_int (K:=K)).mpr rfl) (rs D i ρ' es (by omega) p) fun ρ2 es2 σ2 H4 c2 p2=>?_
   exact⟨m - 1,by omega,ρ2,es2,c2,p2,by omega,by omega⟩
  ·have ei:i=j.toNat:=by omega
   subst ei
   obtain⟨ge,rep⟩:=ad5 (σ':=σ') hn g1.2 c
   exact .inl ⟨aop _,q _ _ H' (g1.trans ge) rep (re ρ' es p)⟩
theorem ad6 {t:TA} (h:PAd K f t ρ fun xs=>∃ j:Int,xs=[.dat (.int j)]/\j<=1000/\-1000<=j/\∃ R:Nat->PyData->Prop,
   (∀ D (i:Nat),(i:Int)<j->PEd K (f.with D) te (some (.dat (.int i)) :: frD fr ρ) (R i))/\∀ es:List PyData,es.length=j.toNat->(∀ (i:Nat) e,es[i]?=some e->R i e)->P (.list es)) :
  PEd K f (jX (af1 t) 1 fr (yW 0) ams fun D=>vz D te) ρ P :=
 akA fun σ H Q e q=>h σ H Q e fun xs vs H' g' r' ⟨j,ex,b1,b2,R,rs,re⟩=>by
  refine q xs vs H' g' r' ⟨j,ex,b1,b2,fun i ρ' es=>(∃ x,ρ'=x :: frD fr ρ)/\es.length=i/\∀ (k:Nat) e,es[k]?=some e->R k e,⟨⟨none,rfl⟩,rfl,fun k e h=>by simp at h⟩,fun D i ρ' es hi p=>?_,fun i ρ' es p=>ap5 p.2.1,fun ρ' es p=>re es p.2.1 p.2.2⟩
  obtain⟨⟨x,rfl⟩,hl,hp⟩:=p
  refine zi ?_
  intro σ H Q e q
  refine q true H (.refl e.fd) ?_
  dsimp only
  rw [if_pos rfl]
  refine (rs D i hi).imp fun d hd=>⟨⟨_,rfl⟩,by rw [aox,hl];rfl,fun k e hk=>?_⟩
  by_cases hkl:k<es.length
  ·rw [aov hkl] at hk;exact hp k e hk
  ·rw [aoG (by omega)] at hk
   have hk0:k - es.length=0:=by
    have:=(aoh.mp hk).1
    simp at this;omega
   rw [hk0] at hk
   cases hk
   have:k=i:=by omega
   subst this
   exact hd
end
section
variable {K:aol} {f:Fx} {ρ:zq} {D:DEnds} {te:TE} {i:Nat}
theorem ad7 {σ:St} {H:Hp} {p:Addr} {a b:Int} (e:EnvOk K f ρ σ H) (ef:f.f=some p) (h0:0<=a) (h1:0<=b) (h2:b<2147483647):Goes f H (upd H p (.lst [.int a,.int b])) :=
 have hM:=e.fd.nm p ef
 ⟨fun x o h=>by
  obtain⟨n,hx⟩:=zN h
  exact zF n (by rw [zu (fun z=>n (.inl (by rw [z];exact ef)))];exact hx),
 ⟨fun q eq=>by
   rw [ef] at eq;cases eq
   exact⟨a,b,zy,h0,h1,h2⟩,fun x hx=>by
   by_cases hxp:x=p
   ·subst hxp;exact absurd hx hM
   ·rw [zu hxp];exact e.fd.mm x hx,e.fd.nm⟩,
fun x hx=>zu (fun z=>hM (z▸hx))⟩
theorem age (hi:ρ[i]?=some (some .feed)) (h:PEd K f te ρ fun d=>∃ a:Int,d=.int a/\0<=a/\D.nx ρ):PSd K f (jR te (adS (yn i) (tC (.int 0)) abe)) ρ D:=fun σ H E e n r b c=>h σ H _ e fun d v H1 g1 r1 ⟨a,ed,h0,p⟩=>by
 subst ed
 obtain⟨u,h1,q,ef,eu⟩:=e.get i _ hi
 obtain⟨a',b',hf,c1,c2,c3⟩:=g1.2.fd q ef
 refine⟨u,h1,q,_,0,0,eu,rfl,hf,rfl,?_⟩
 rw [rep_int.mp r1]
 have g2:Goes f H1 (upd H1 q (.lst [.int a,.int b'])):=ad7 (e.mono g1) ef h0 c2 c3
 exact n ρ σ _ (g1.trans g2) ((e.mono g1).mono g2) p
theorem agf (hi:ρ[i]?=some (some .feed)) (h:PEd K f te ρ fun d=>∃ a:Int,d=.int a/\0<=a/\a<2147483647/\D.nx ρ):PSd K f (jR te (adS (yn i) (tC (.int 1)) abe)) ρ D:=fun σ H E e n r b c=>h σ H _ e fun d v H1 g1 r1 ⟨a,ed,h0,h0',p⟩=>by
 subst ed
 obtain⟨u,h1,q,ef,eu⟩:=e.get i _ hi
 obtain⟨a',b',hf,c1,c2,c3⟩:=g1.2.fd q ef
 refine⟨u,h1,q,_,1,1,eu,rfl,hf,rfl,?_⟩
 rw [rep_int.mp r1]
 have g2:Goes f H1 (upd H1 q (.lst [.int a',.int a])):=ad7 (e.mono g1) ef c1 h0 h0'
 exact n ρ σ _ (g1.trans g2) ((e.mono g1).mono g2) p
end
theorem v3 {X:Cx} {x:Str} {i:Int} {t:Tok} {pos:Pos} (hg:Gl X x) (hm:X.mg x=some (.int i t)) (hd:(x == ("__debug__":Str))=false:=by decide):PE X (.Name x pos) (tC (.int i)):=akl hg hm ⟨t,rfl⟩ hd
def qm (N:List Str) (xs:List DV):zq:=xs.map some++apN (N.length - xs.length) none
theorem jZ {K:aol} {f:Fx} {H:Hp} {N:List Str} {xs:List DV} {vs:List V} (r:RepVs K f H xs vs) (fo:FOk f H):EnvOk K f (qm N xs) (start N vs) H:=by
 have hl:=r.length
 refine⟨by unfold qm start;simp [hl],fun i x h=>?_,fo⟩
 unfold qm at h
 unfold start
 have get:∀ {xs:List DV} {vs:List V} {i:Nat} {x:DV},RepVs K f H xs vs->xs[i]?=some x->∃ v,vs[i]?=some v/\RepV K f H x v:=by
  intro xs vs i x r
  induction r generalizing i with
  | nil=>intro h;simp at h
  | cons r1 r2 ih =>
   intro h
   cases i with
   | zero=>simp at h;subst h;exact⟨_,rfl,r1⟩
   | succ i=>simp at h;obtain⟨v,h1,h2⟩:=ih h;exact⟨v,by simpa using h1,h2⟩
 by_cases hi:i<xs.length
 ·rw [aov (by simpa using hi),aoq] at h
  cases q:xs[i]? with
  | none=>rw [q] at h;cases h
  | some y =>
   rw [q] at h
   cases h
   obtain⟨v,h1,h2⟩:=get r q
   exact⟨v,by rw [aov (by simp;omega),aoq,h1];rfl,h2⟩
 ·rw [aoG (by simpa using hi),ap1] at h
  split at h <;> cases h
structure Def (K:aol) (mg:Str->Option Value) (x:Str) (st:Stmt) (ps:List Str):Prop where
 ex:∃ (f:Addr) (fd:FuncData),Fun K x x st f fd/\Binds K fd ps []/\mg x=some (.ref f)
structure FnIn (P:Program) (w:World) (K:aol) (mg:Str->Option Value) (base:Heap) (k:Nat) (x:Str) (ps:List Str) (sp:Sp):Prop where
 ex:∃ (f:Addr) (fd:FuncData),FnOk P w K mg base CX0 k f fd ps sp/\mg x=some (.ref f)/\apm K (.ref f)=true/\Binds K fd ps []
section
variable {P:Program} {w:World} {K:aol} {mg:Str->Option Value} {base:Heap} {j k n:Nat} {x:Str} {st:Stmt} {ps N:List Str} {γ:Type} {pre:γ->List DV->Prop} {post:γ->PyData->Prop} {sp:Sp}
theorem FnIn.mono (h:FnIn P w K mg base j x ps sp) (hk:j<=k):FnIn P w K mg base k x ps sp :=
 let⟨f,fd,a,b,c,d⟩:=h.ex;⟨f,fd,a.mono hk,b,c,d⟩
theorem Def.ok (F:Def K mg x st ps) (S:FnScope N ps (zj st)) (hn:ps.length=n)
  (h:∀ (fa:Addr) (cdv:Value) (A:Around) (outer:List Env) (s:Shared) (H:Hp) (E:XK),Room k (A.deeper (envOfC x (zj st) s.heap.objs.size fa cdv)) ->
   ∃ t,PSs (z5 CX0 P w K mg base N x (zj st) fa cdv A outer s H E).nox (yK st) t/\∀ (f:Fx) (xs:List DV) (c:γ),xs.length=n->pre c xs->PSd K f t (qm N xs) { nx:=fun _=>post c .none,rt:=post c }) :
  FnIn P w K mg base (k+1) x ps (spD K n pre post):=by
 obtain⟨fa,fd,F1,F2,F3⟩:=F.ex
 refine⟨fa,fd,F1.ok S (fun vs H Q E h=>?_) (fun cdv A outer s H vs Q E hr hs=>?_),F3,F1.kp,F2⟩
 ·obtain⟨f,xs,c,r,hl,_⟩:=h
  rw [r.length,hl,hn]
 ·obtain⟨f,xs,c,r,hl,fo,hp,q⟩:=hs
  obtain⟨t,h1,h2⟩:=h fa cdv A outer s H E hr
  exact⟨t,h1,h2 f xs c hl hp (start N vs) H _ (jZ r fo) (fun _ _ H' g _ p=>q .none _ H' g (rep_none.mpr rfl) p) (fun d v H' g r p=>q d v H' g r p) (fun _ _ _ _ _ z=>z.elim) (fun _ _ _ _ _ z=>z.elim)⟩
theorem Def.raw (F:Def K mg x st ps) (S:FnScope N ps (zj st)) (len:∀ vs H Q E,sp vs H Q E->vs.length=ps.length)
  (h:∀ (fa:Addr) (cdv:Value) (A:Around) (outer:List Env) (s:Shared) (H:Hp) (vs:List V) (Q:VK) (E:XK),Room k (A.deeper (envOfC x (zj st) s.heap.objs.size fa cdv))->sp vs H Q E ->
   ∃ t,PSs (z5 CX0 P w K mg base N x (zj st) fa cdv A outer s H E).nox (yK st) t/\t { nx:=fun _ H'=>Q .non H',rt:=Q } (start N vs) H) :
  FnIn P w K mg base (k+1) x ps sp:=by
 obtain⟨fa,fd,F1,F2,F3⟩:=F.ex
 exact⟨fa,fd,F1.ok S len (fun cdv A outer s H vs Q E hr hs=>h fa cdv A outer s H vs Q E hr hs),F3,F1.kp,F2⟩
theorem zd {X:Cx} {e:Expr} {es:List Expr} {t:TA} {p pos:Pos} (G:FnIn X.prog X.w X.K X.mg X.base k x ps sp) (hr:Room k X.A) (hg:Gl X x) (ha:PA X (e :: es) t) (hdb:(x == ("__debug__":Str))=false:=by decide)
  (he:starEach (e :: es) X.env=(false,eval e X.env) :: starEach es X.env:=by rfl) (hpl:(backTo pos (starEach es X.env)).any (·.1)=false:=by rfl):PE X (.Call (.Name x p) (e :: es) [] pos) (acb sp [] E0 t):=by
 obtain⟨f,fd,a,b,c,d⟩:=G.ex
 exact aku a hr hg b c d .nil anv ha hdb he hpl
end
section
variable {K:aol} {f:Fx} {ρ:zq} {σ:St} {H:Hp} {E:Ends} {ts tu:TS} {D:DEnds}
theorem aiM (h:PSd K f ts ρ D) (e:EnvOk K f ρ σ H) (hn:∀ ρ' σ' H',Goes f H H'->EnvOk K f ρ' σ' H'->D.nx ρ'->tu E σ' H') (hr:∀ d v H',Goes f H H'->Rep K (hide H' f) d v->D.rt d->E.rt v H') (hb:∀ ρ,¬ D.bk ρ) (hc:∀ ρ,¬ D.ct ρ):qL ts tu E σ H :=
 h σ H { E with nx:=tu E } e hn hr (fun ρ' _ _ _ _ p=>(hb ρ' p).elim) (fun ρ' _ _ _ _ p=>(hc ρ' p).elim)
theorem aiN {ta:TA} {Q:VK} {R:List PyData->Prop} (h:PAd K f ta ρ fun xs=>∃ ds,ql xs=some ds/\ds.length<=1000/\R ds) (e:EnvOk K f ρ σ H)
  (q:∀ p ds vs H1,Goes f H H1->H1 p=none->Reps K (hide H1 f) ds vs->R ds->Q (.ref p) (upd H1 p (.lst vs))):ait ta σ H Q :=
 h σ H _ e fun xs vs H1 g1 r1 ⟨ds,ea,hl,p⟩=>by
  have rs:=qY r1 ea
  exact⟨by rw [rs.length];exact aps (z7 hl),fun l hn=>q l ds vs H1 g1 hn rs p⟩
end
section
variable {K:aol} {f:Fx} {ρ:zq}
theorem Goes.free {H H':Hp} {p:Addr} (g:Goes f H H') (fo:FOk f H) (h:H' p=none):H p=none:=by
 cases q:H p with
 | none=>rfl
 | some o =>
  by_cases hh:f.f=some p \/ p∈f.M
  ·rcases hh with hh | hh
   ·obtain⟨a,b,h1,_⟩:=g.ok.fd p hh
    rw [h] at h1;cases h1
   ·rw [g.kp p hh,q] at h;cases h
  ·have:=zN (g.sm p o (zF hh q))
   rw [h] at this;cases this.2
def PEdL (K:aol) (f:Fx) (te:TE) (ρ:zq) (P:List PyData->Prop):Prop:=∀ (σ:St) (H:Hp) (Q:VK),EnvOk K f ρ σ H ->
 (∀ es D vs H',Goes f H H'->H D=none->H' D=some (.lst vs)->Reps K (hide H' f) es vs->P es->Q (.ref D) H')->te σ H Q
theorem PEdL.ped {te:TE} {P:PyData->Prop} (h:PEdL K f te ρ fun es=>P (.list es)):PEd K f te ρ P:=fun σ H Q e q=>h σ H Q e fun es D vs H' g n h1 r p =>
 q (.list es) _ H' g (rep_list.mpr ⟨D,vs,rfl,.of (zF (fresh_ne e.fd n) h1),r⟩) p
end
structure TabAt (H:Hp) (a:Addr) (as:List Addr) (rows:List (List Int)):Prop where
 top:H a=some (.lst (as.map .ref))
 nd:(a :: as).Nodup
 len:as.length=rows.length
 row:∀ (i:Nat) x r,as[i]?=some x->rows[i]?=some r->H x=some (.lst (r.map .int))
end L2
end
section
namespace L2
open PySem PySem.Spec PyProof.Rows
section
variable {X:Cx} {K:aol}
theorem zz (hK:X.K=K):IxR X (ahg K):=hK▸akv
theorem yf (hK:X.K=K):IxR X (aml K):=hK▸amm
theorem zM (hK:X.K=K):yy X (.builtin "len") (fun xs H Q=>∃ p ys,xs=[.ref p]/\(SqL K H p ys \/ SqT K H p ys)/\Q (.int ys.length) H):=hK▸acX
theorem qO (hK:X.K=K):yy X (.type "tuple") (fun xs H Q=>∃ p ys,xs=[.ref p]/\((SqL K H p ys/\∀ l,H l=none->Q (.ref l) (upd H l (.tup ys))) \/ (SqT K H p ys/\Q (.ref p) H))):=hK▸abT
theorem ahr (hK:X.K=K) (hc:X.calm=true):yy X (.builtin "min") (fun xs H Q=>∃ a ns,xs=[.ref a]/\SqL K H a (ns.map V.int)/\ns≠[]/\∀ M,M∈ns->(∀ b∈ns,M<=b)->Q (.int M) H):=hK▸ahk hc
theorem ahs (hK:X.K=K) (hc:X.calm=true):yy X (.builtin "max") (fun xs H Q=>∃ a ns,xs=[.ref a]/\SqL K H a (ns.map V.int)/\ns≠[]/\∀ M,M∈ns->(∀ b∈ns,b<=M)->Q (.int M) H):=hK▸ahl hc
theorem jT (hK:X.K=K) (hu:X.A.units+64<cLine):OpR X (compareOp .Eq) (aiA K false):=hK▸amt hu
theorem qo (hK:X.K=K) (hu:X.A.units+64<cLine):OpR X (compareOp .NotEq) (aiA K true):=hK▸amu hu
variable {tg l e st:Expr} {tl te ts:TE} {ta:TA} {p pos p2:Pos}
theorem zW (hK:X.K=K) (hl:PE X l tl):PI X tg l (ail K tl):=hK▸akq hl
theorem qq (hK:X.K=K) (hl:PE X l tl):PI X tg l (ame K tl):=hK▸amf hl
theorem abj {es:List Expr} {k:Nat} {tpos:Pos} (hK:X.K=K) (hg:Gl X "enumerate") (hm:X.mg "enumerate"=none) (ha:PA X [l] ta) (hs:starEach [l] X.env=[(false,eval l X.env)]:=by rfl):PI X (.Tuple es k tpos) (.Call (.Name "enumerate" p) [l] [] pos) (agb K ta):=hK▸aky hg hm ha hs
theorem z4 (hK:X.K=K) (ha:PE X e te) (he:∀ whole,isTrue e X.env whole=(do let v <- whole;standAt e.pos;holding [v] (truthy v))):PT X e (amw K te):=hK▸amx ha he
theorem zL {es:List Expr} {k:Nat} {t:TGs} {n:Nat} (hK:X.K=K) (hc:X.calm=true) (h:PGs X es t) (hn:(assignEach es X.env).length=n:=by rfl) (hst:(assignEach es X.env).findIdx? (·.1)=none:=by rfl):PG X (.Tuple es k pos) (akp K n t):=hK▸amd hc h hn hst
end
structure ItD (K:aol) (f:Fx) (ds:List PyData) (J:It) (H1:Hp):Prop where
 go:∀ (f':Fx) (H':Hp) (i:Nat) d,FOk f' H'->Same (hide H1 f) (hide H' f')->ds[i]?=some d->J.go i H'/\∀ x H3,J.yld i H' x H3->Goes f' H' H3/\Rep K (hide H3 f') d x
 st:∀ (f':Fx) (H':Hp),FOk f' H'->Same (hide H1 f) (hide H' f')->J.stop ds.length H'
def PId (K:aol) (f:Fx) (wi:TI) (ρ:zq) (R:List PyData->Prop):Prop:=∀ (σ:St) (H:Hp) (C:It->Hp->Prop),EnvOk K f ρ σ H ->
 (∀ ds J H1,Goes f H H1->ItD K f ds J H1->R ds->C J H1)->wi σ H C
def jU (n:Nat):List PyData:=(aow n).map fun (i:Nat)=>.int (i:Int)
def vE (ds:List PyData):List PyData:=ds.mapIdx fun i d=>.tuple [.int (i:Int),d]
section
variable {K:aol} {f:Fx} {ρ:zq} {R:List PyData->Prop} {tl:TE} {t:TA}
theorem PId.imp {wi:TI} {R':List PyData->Prop} (h:PId K f wi ρ R) (i:∀ ds,R ds->R' ds):PId K f wi ρ R':=fun σ H C e q=>h σ H C e fun ds J H1 g it r=>q ds J H1 g it (i ds r)
theorem jE (h:PAd K f t ρ fun xs=>∃ j:Int,xs=[.dat (.int j)]/\-(2 ^ 62)<=j/\j<2 ^ 62/\R (jU j.toNat)):PId K f (af1 t) ρ R:=fun σ H C e q=>h σ H _ e fun xs vs H1 g1 r1 ⟨j,ex,q1,q2,p⟩=>by
 subst ex
 cases r1 with
 | @cons _ v0 _ _ rx r' =>
  cases r'
  have rx':Rep K (hide H1 f) (.int j) v0:=rx
  refine⟨j,by rw [rep_int.mp rx'],q1,q2,q _ _ H1 g1 ⟨fun f' H' i d fo _ hd=>?_,fun f' H' _ _=>?_⟩ p⟩
  ·unfold jU at hd
   rw [aoq] at hd
   by_cases hi:i<j.toNat
   ·rw [apF hi] at hd
    cases hd
    refine⟨hi,fun x H3 hy=>?_⟩
    obtain⟨rfl,rfl⟩:=hy
    exact⟨.refl fo,rep_int.mpr (by rw [Int.zero_add])⟩
   ·rw [aoP (by rw [aoU];omega)] at hd
    cases hd
  ·show j.toNat<=(jU j.toNat).length
   unfold jU
   rw [aog,aoU]
   exact aop _
theorem yx (h:PEd K f tl ρ fun x=>∃ ds,x=.list ds/\R ds):PId K f (ail K tl) ρ R:=fun σ H C e q=>h σ H _ e fun x v H1 g1 r1 ⟨ds,ex,p⟩=>by
 subst ex
 obtain⟨a,xs,rfl,h1,h2⟩:=rep_list.mp r1
 have hl:=h2.length
 refine⟨a,rfl,⟨xs,(zk _ _).seq h1⟩,q ds _ H1 g1 ⟨fun f' H' i d fo sm hd=>?_,fun f' H' _ sm=>⟨xs,(zk _ _).seq (sm.seq h1),ap5 hl⟩⟩ p⟩
 obtain⟨z,hz,rz⟩:=h2.get hd
 have sq:SqL K H' a xs:=(zk _ _).seq (sm.seq h1)
 refine⟨⟨xs,z,sq,hz⟩,fun x H3 hy=>?_⟩
 obtain⟨rfl,hy⟩:=hy
 have ez:=hy xs sq
 rw [hz] at ez
 cases ez
 exact⟨.refl fo,Rep.mono sm _ _ rz⟩
theorem abk (h:PEd K f tl ρ fun x=>∃ ds,x=.tuple ds/\R ds):PId K f (ame K tl) ρ R:=fun σ H C e q=>h σ H _ e fun x v H1 g1 r1 ⟨ds,ex,p⟩=>by
 subst ex
 obtain⟨a,xs,rfl,h1,h2⟩:=rep_tuple.mp r1
 have hl:=h2.length
 refine⟨a,rfl,⟨xs,(zk _ _).seqT h1⟩,q ds _ H1 g1 ⟨fun f' H' i d fo sm hd=>?_,fun f' H' _ sm=>⟨xs,(zk _ _).seqT (sm.seqT h1),ap5 hl⟩⟩ p⟩
 obtain⟨z,hz,rz⟩:=h2.get hd
 have sq:SqT K H' a xs:=(zk _ _).seqT (sm.seqT h1)
 refine⟨⟨xs,z,sq,hz⟩,fun x H3 hy=>?_⟩
 obtain⟨rfl,hy⟩:=hy
 have ez:=hy xs sq
 rw [hz] at ez
 cases ez
 exact⟨.refl fo,Rep.mono sm _ _ rz⟩
theorem aiO (h:PAd K f t ρ fun xs=>∃ ds,xs=[.dat (.list ds)]/\R (vE ds)):PId K f (agb K t) ρ R:=fun σ H C e q=>h σ H _ e fun xs vs H1 g1 r1 ⟨ds,ex,p⟩=>by
 subst ex
 cases r1 with
 | cons rx r' =>
  cases r'
  obtain⟨a,xs,rfl,h1,h2⟩:=rep_list.mp rx
  have hl:=h2.length
  refine⟨a,rfl,⟨xs,(zk _ _).seq h1⟩,q (vE ds) _ H1 g1 ⟨fun f' H' i d fo sm hd=>?_,fun f' H' _ sm=>⟨xs,(zk _ _).seq (sm.seq h1),by unfold vE;rw [List.length_mapIdx];exact ap5 hl⟩⟩ p⟩
  unfold vE at hd
  rw [arP] at hd
  cases eq:ds[i]? with
  | none=>rw [eq] at hd;cases hd
  | some d0 =>
   rw [eq] at hd
   cases hd
   obtain⟨z,hz,rz⟩:=h2.get eq
   have sq:SqL K H' a xs:=(zk _ _).seq (sm.seq h1)
   refine⟨⟨xs,z,sq,hz⟩,fun x H3 hy=>?_⟩
   obtain⟨tp,y,rfl,hn,rfl,hy⟩:=hy
   have ez:=hy xs sq
   rw [hz] at ez
   cases ez
   have gn:Goes f' H' (upd H' tp (.tup [.int i,z])):=.of_same (z9 hn _) fo
   exact⟨gn,rep_tuple.mpr ⟨tp,_,rfl,.of (zF (fresh_ne fo hn) zy),.cons' (rep_int.mpr rfl) (.cons' (Rep.mono gn.1 _ _ (Rep.mono sm _ _ rz)) .nil')⟩⟩
end
section
variable {K:aol} {f:Fx} {ρ:zq} {D:DEnds} {wi:TI} {g:TG} {ts:TS}
theorem ad8 (h:PId K f wi ρ fun ds=>∃ J:Nat->zq->Prop,J 0 ρ /\
   (∀ (i:Nat) d ρ',ds[i]?=some d->J i ρ'->PGd K f g d ρ' fun ρ2=>PSd K f ts ρ2 { D with nx:=J (i+1),ct:=J (i+1),bk:=D.nx })/\∀ ρ',J ds.length ρ'->D.nx ρ') :
  PSd K f (akr wi g ts) ρ D:=fun σ H E e n r b c=>h σ H _ e fun ds J H1 g1 it ⟨Jv,j0,js,jd⟩=>by
 refine⟨fun i m σ' H'=>∃ ρ',EnvOk K f ρ' σ' H'/\Goes f H1 H'/\Jv i ρ'/\m+i=ds.length,⟨ds.length,ρ,e.mono g1,.refl g1.2,j0,rfl⟩,fun i m σ' H' ⟨ρ',e',g',p,hm⟩=>?_⟩
 by_cases hi:i<ds.length
 ·obtain⟨hgo,hy⟩:=it.go f H' i _ e'.fd g'.sm (aof hi)
  refine .inr ⟨hgo,fun σ2 H2=>∃ ρ2,EnvOk K f ρ2 σ2 H2/\Goes f H1 H2/\Jv (i+1) ρ2,fun σ2 H2 ⟨ρ2,e2,g2,p2⟩=>⟨m - 1,by omega,ρ2,e2,g2,p2,by omega⟩,fun x H3 hx=>?_⟩
  obtain⟨g3,r3⟩:=hy x H3 hx
  refine js i _ ρ' (aof hi) p σ' H3 x _ (e'.mono g3) r3 fun ρ2 σ2 H4 g4 e4 p4=>?_
  have gg:=g'.trans (g3.trans g4)
  exact p4 σ2 H4 _ e4 (fun ρ5 σ5 H5 g5 e5 p5=>⟨ρ5,e5,gg.trans g5,p5⟩) (fun d v H5 g5 r5 p5=>r d v H5 (g1.trans (gg.trans g5)) r5 p5) (fun ρ5 σ5 H5 g5 e5 p5=>n ρ5 σ5 H5 (g1.trans (gg.trans g5)) e5 p5) (fun ρ5 σ5 H5 g5 e5 p5=>⟨ρ5,e5,gg.trans g5,p5⟩)
 ·have ei:i=ds.length:=by omega
  subst ei
  exact .inl ⟨it.st f H' e'.fd g'.sm,n ρ' σ' H' (g1.trans g') e' (jd ρ' p)⟩
end
section
variable {K:aol} {f:Fx} {ρ:zq} {D:Addr} {wi:TI} {g:TG} {tt:TT} {te:TE}
theorem CSt.self {H2 H:Hp} {es:List PyData} {σ:St} (c:CSt K f D H2 ρ es σ H):CSt K f D H ρ es σ H:=⟨c.env,Same.refl _,fun _ _=>rfl,c.lst⟩
theorem CSt.trans {H2 H H':Hp} {es es':List PyData} {ρ':zq} {σ σ':St} (c:CSt K f D H2 ρ es σ H) (d:CSt K f D H ρ' es' σ' H'):CSt K f D H2 ρ' es' σ' H':=⟨d.env,c.sm.trans d.sm,fun b hb=>(d.kp b hb).trans (c.kp b hb),d.lst⟩
def PBd (K:aol) (f:Fx) (D:Addr) (tb:TB) (ρ:zq) (es:List PyData) (R:zq->List PyData->Prop):Prop:=f.f≠some D->D∉f.M->∀ (σ:St) (H H2:Hp) (W:St->Hp->Prop),CSt K f D H2 ρ es σ H ->
 (∀ ρ2 es2 σ2 H',CSt K f D H2 ρ2 es2 σ2 H'->R ρ2 es2->W σ2 H')->tb σ H W
theorem yl {es:List PyData} {R:zq->List PyData->Prop} (hl:es.length<1000) (h:PEd K (f.with D) te ρ fun e=>R ρ (es++[e])):PBd K f D (vz D te) ρ es R:=fun hD hM σ H H2 W c q =>
 h σ H _ c.env fun e u H5 g5 r5 p5=>by
  have c5:=c.go g5 (c.env.mono g5)
  obtain⟨vs,h1,h2⟩:=c5.lst
  exact⟨vs,h1,z7 (by rw [h2.length];omega),q _ _ _ _ (c5.put hD hM h1 h2 r5) p5⟩
theorem aiP {fi:Fx} {Hi H2 H:Hp} {ds es:List PyData} {J:It} {tb:TB} {σ:St} {W:St->Hp->Prop} (it:ItD K fi ds J Hi) (hD:f.f≠some D) (hM:D∉f.M) (c:CSt K f D H2 ρ es σ H) (sm:Same (hide Hi fi) (hide H (f.with D)))
  (Jv:Nat->zq->List PyData->Prop) (j0:Jv 0 ρ es)
  (js:∀ (i:Nat) d ρ' es',ds[i]?=some d->Jv i ρ' es'->PGd K (f.with D) g d ρ' fun ρ2=>PTd K (f.with D) tt ρ2 fun b=>if b=true then PBd K f D tb ρ2 es' (Jv (i+1)) else Jv (i+1) ρ2 es')
  (hW:∀ ρ' es' σ' H',CSt K f D H2 ρ' es' σ' H'->Jv ds.length ρ' es'->W σ' H'):adX J g tt tb σ H W:=by
 refine⟨fun i m σ' H'=>∃ ρ' es',CSt K f D H2 ρ' es' σ' H'/\Same (hide Hi fi) (hide H' (f.with D))/\Jv i ρ' es'/\m+i=ds.length,⟨ds.length,ρ,es,c,sm,j0,rfl⟩,fun i m σ' H' ⟨ρ',es',c',sm',p,hm⟩=>?_⟩
 by_cases hi:i<ds.length
 ·obtain⟨hgo,hy⟩:=it.go (f.with D) H' i _ c'.env.fd sm' (aof hi)
  refine .inr ⟨hgo,fun x H3 hx=>?_⟩
  obtain⟨g3,r3⟩:=hy x H3 hx
  have c3:=c'.go g3 (c'.env.mono g3)
  refine js i _ ρ' es' (aof hi) p σ' H3 x _ c3.env r3 fun ρ2 σ2 H4 g4 e4 p4=>?_
  have c4:=c3.go g4 e4
  refine p4 σ2 H4 _ e4 fun b H5 g5 p5=>?_
  have c5:=c4.go g5 (e4.mono g5)
  have sm5:=((sm'.trans g3.sm).trans g4.sm).trans g5.sm
  cases b with
  | false =>
   rw [if_neg aoi] at p5 ⊢
   exact⟨m - 1,by omega,ρ2,es',c5,sm5,p5,by omega⟩
  | true =>
   rw [if_pos rfl] at p5 ⊢
   exact p5 hD hM σ2 H5 H5 _ c5.self fun ρ6 es6 σ6 H6 c6 p6=>⟨m - 1,by omega,ρ6,es6,c5.trans c6,sm5.trans c6.sm,p6,by omega⟩
 ·have ei:i=ds.length:=by omega
  subst ei
  exact .inl ⟨it.st (f.with D) H' c'.env.fd sm',hW ρ' es' σ' H' c' p⟩
theorem anw {es:List PyData} {tb:TB} {R:zq->List PyData->Prop} (h:PId K (f.with D) wi ρ fun ds=>∃ Jv:Nat->zq->List PyData->Prop,Jv 0 ρ es /\
   (∀ (i:Nat) d ρ' es',ds[i]?=some d->Jv i ρ' es'->PGd K (f.with D) g d ρ' fun ρ2=>PTd K (f.with D) tt ρ2 fun b=>if b=true then PBd K f D tb ρ2 es' (Jv (i+1)) else Jv (i+1) ρ2 es') /\
   ∀ ρ' es',Jv ds.length ρ' es'->R ρ' es'):PBd K f D (tIn wi g tt tb) ρ es R:=fun hD hM σ H H2 W c q =>
 h σ H _ c.env fun ds J H1 g1 it ⟨Jv,j0,js,jd⟩ =>
  aiP it hD hM (c.go g1 (c.env.mono g1)) (Same.refl _) Jv j0 js fun ρ' es' σ' H' c' p=>q ρ' es' σ' H' c' (jd ρ' es' p)
def PEdO (K:aol) (f:Fx) (te:TE) (ρ:zq) (P:List PyData->Prop):Prop:=∀ (σ:St) (H:Hp) (Q:VK),EnvOk K f ρ σ H ->
 (∀ es D vs H',Goes f H H'->H D=none->H' D=some (.lst vs)->Reps K (hide H' (f.with D)) es vs->P es->Q (.ref D) H')->te σ H Q
theorem PEdO.pedl {P:List PyData->Prop} (h:PEdO K f te ρ P):PEdL K f te ρ P:=fun σ H Q e q=>h σ H Q e fun es D vs H' g n h1 r p=>q es D vs H' g n h1 (Reps.mono jY es vs r) p
theorem PEdO.ped {P:PyData->Prop} (h:PEdO K f te ρ fun es=>P (.list es)):PEd K f te ρ P:=h.pedl.ped
theorem aiQ {P:List PyData->Prop} (h:P []):PEdO K f (ait vt) ρ P:=fun σ H Q e q=>⟨ao2 _,fun p hn=>q [] p [] _ (.of_same (z9 hn _) e.fd) hn zy .nil' h⟩
theorem qP {own:Nat} {fr:List Nat} {tb:Addr->TB} {P:List PyData->Prop} (h:PId K f wi ρ fun ds=>∃ Jv:Nat->zq->List PyData->Prop,Jv 0 (aap own fr ρ) [] /\
   (∀ D (i:Nat) d ρ' es',ds[i]?=some d->Jv i ρ' es'->PGd K (f.with D) g d ρ' fun ρ2=>PTd K (f.with D) tt ρ2 fun b=>if b=true then PBd K f D (tb D) ρ2 es' (Jv (i+1)) else Jv (i+1) ρ2 es') /\
   ∀ ρ' es',Jv ds.length ρ' es'->P es'):PEdO K f (jX wi own fr g tt tb) ρ P:=fun σ H Q e q =>
 h σ H _ e fun ds J H1 g1 it ⟨Jv,j0,js,jd⟩ D hn=>by
  have nD:=fresh_ne g1.2 hn
  have hD:f.f≠some D:=fun z=>nD (.inl z)
  have hM:D∉f.M:=fun z=>nD (.inr z)
  refine aiP it hD hM (abi hn (e.mono g1)) (qZ hn) Jv j0 (js D) fun ρ' es' σ' H' c' p=>?_
  obtain⟨ge,rep⟩:=ad5 (σ':=σ') hn g1.2 c'
  obtain⟨vs,h1,h2⟩:=c'.lst
  exact q es' D vs H' (g1.trans ge) (g1.free e.fd hn) h1 h2 (jd ρ' es' p)
end
section
variable {K:aol} {f:Fx} {ρ:zq} {D:Addr} {wi:TI} {g:TG} {tt:TT} {te:TE}
theorem aaq {F:PyData->List PyData} {ds:List PyData} {i:Nat} {d:PyData} (h:ds[i]?=some d):(ds.take (i+1)).flatMap F=(ds.take i).flatMap F++F d:=by
 rw [apk,h,apy]
 simp
theorem akB {F:PyData->List PyData} {ds:List PyData} {i:Nat}:((ds.take i).flatMap F).length<=(ds.flatMap F).length:=by
 conv=>rhs;rw [<-aqd i ds,apy,aox]
 omega
def OwnE (own:Nat) (ρ0:zq) (ρ':zq):Prop:=∃ us:zq,us.length=own/\ρ'=us++ρ0
theorem OwnE.one {ρ0 ρ':zq} (h:OwnE 1 ρ0 ρ'):∃ u,ρ'=u :: ρ0:=by
 obtain⟨us,h1,rfl⟩:=h
 match us,h1 with
 | [u],_=>exact⟨u,rfl⟩
theorem OwnE.two {ρ0 ρ':zq} (h:OwnE 2 ρ0 ρ'):∃ u v,ρ'=u :: v :: ρ0:=by
 obtain⟨us,h1,rfl⟩:=h
 match us,h1 with
 | [u,v],_=>exact⟨u,v,rfl⟩
theorem OwnE.mk1 {ρ0:zq} {u:Option DV}:OwnE 1 ρ0 (u :: ρ0):=⟨[u],rfl,rfl⟩
theorem OwnE.mk2 {ρ0:zq} {u v:Option DV}:OwnE 2 ρ0 (u :: v :: ρ0):=⟨[u,v],rfl,rfl⟩
theorem amz {own:Nat} {fr:List Nat} {tb:Addr->TB} {P:List PyData->Prop} (h:PId K f wi ρ fun ds=>∃ F:PyData->List PyData,(ds.flatMap F).length<=1000 /\
   (∀ D d ρ' es,d∈ds->OwnE own (frD fr ρ) ρ'->es.length+(F d).length<=1000->PGd K (f.with D) g d ρ' fun ρ2=>PTd K (f.with D) tt ρ2 fun b=>if b=true then PBd K f D (tb D) ρ2 es fun ρ3 es3=>OwnE own (frD fr ρ) ρ3/\es3=es++F d else OwnE own (frD fr ρ) ρ2/\F d=[]) /\
   P (ds.flatMap F)):PEdO K f (jX wi own fr g tt tb) ρ P :=
 qP (h.imp fun ds ⟨F,hl,hs,hp⟩=>by
  refine⟨fun i ρ' es=>OwnE own (frD fr ρ) ρ'/\es=(ds.take i).flatMap F,⟨⟨apN own none,by simp,rfl⟩,by simp⟩,fun D i d ρ' es hd ⟨ho,he⟩=>?_,fun ρ' es ⟨_,he⟩=>?_⟩
  ·have hb:es.length+(F d).length<=1000:=by
    rw [he,<- aox,<- aaq hd]
    exact aoN akB hl
   have:=hs D d ρ' es (aoj hd) ho hb
   intro σ H v Q e r q
   refine this σ H v Q e r fun ρ2 σ2 H2 g2 e2 p2=>q ρ2 σ2 H2 g2 e2 (p2.imp fun b hb2=>?_)
   cases b with
   | false =>
    rw [if_neg aoi] at hb2 ⊢
    exact⟨hb2.1,by rw [aaq hd,hb2.2,apf];exact he⟩
   | true =>
    rw [if_pos rfl] at hb2 ⊢
    intro h1 h2 σ3 H3 H4 W c k
    exact hb2 h1 h2 σ3 H3 H4 W c fun ρ5 es5 σ5 H5 c5 ⟨o5,p5⟩=>k ρ5 es5 σ5 H5 c5 ⟨o5,by rw [p5,aaq hd,he]⟩
  ·rw [he,aoZ]
   exact hp)
theorem vF {B:Bool->Prop} (h:B true):PTd K f ams ρ B:=fun σ H Q e q=>q true H (.refl e.fd) h
end
structure OEnds where
 nx:zq->List PyData->Prop
 rt:PyData->Prop
 bk:zq->List PyData->Prop:=fun _ _=>False
 ct:zq->List PyData->Prop:=fun _ _=>False
section
variable {K:aol} {f:Fx} {ρ:zq} {D:Addr} {wi:TI} {g:TG} {tt:TT} {te:TE} {ts tu:TS} {es:List PyData} {O:OEnds} {i:Nat}
def aaM (n:Nat):Option DV->Option DV
 | some (.own k)=>if k<n then some (.own k) else none
 | x=>x
end
section
variable {K:aol} {f:Fx} {ρ:zq} {P:PyData->Prop} {te ta tb:TE} {t:TA}
theorem Reps.drop {H:Hp}:∀ {ds:List PyData} {xs:List V} (n:Nat),Reps K H ds xs->Reps K H (ds.drop n) (xs.drop n)
 | _,_,0,r=>r
 | [],xs,n+1,r=>by
  rw [reps_nil.mp r]
  exact .nil'
 | d :: ds,xs,n+1,r=>by
  obtain⟨x,r',rfl,_,h⟩:=reps_cons.mp r
  exact Reps.drop n h
theorem Reps.take {H:Hp}:∀ {ds:List PyData} {xs:List V} (n:Nat),Reps K H ds xs->Reps K H (ds.take n) (xs.take n)
 | _,_,0,r=>.nil'
 | [],xs,n+1,r=>by
  rw [reps_nil.mp r]
  exact .nil'
 | d :: ds,xs,n+1,r=>by
  obtain⟨x,r',rfl,h0,h⟩:=reps_cons.mp r
  exact .cons' h0 (Reps.take n h)
def cutD (ds:List PyData) (lo hi:Option Int):List PyData:=(ds.drop (HT.sIx ds.length 0 lo)).take (HT.sIx ds.length ds.length hi - HT.sIx ds.length 0 lo)
theorem Reps.cut {H:Hp} {ds:List PyData} {xs:List V} {lo hi:Option Int} (r:Reps K H ds xs):Reps K H (cutD ds lo hi) (ae9 xs lo hi):=by
 unfold cutD ae9
 rw [r.length]
 exact (r.drop _).take _
theorem cut_from {ds:List PyData} {n:Nat}:cutD ds (some (n:Int)) none=ds.drop n:=by
 unfold cutD
 rw [HT.sIx_nat,HT.sIx_none]
 by_cases h:n<=ds.length
 ·rw [arI h]
  exact ap6 (by rw [aqk];exact aop _)
 ·rw [Nat.min_eq_right (by omega),ap7,ap2,List.drop_eq_nil_of_le (by omega)]
theorem cut_upto {ds:List PyData} {n:Nat}:cutD ds none (some (n:Int))=ds.take n:=by
 unfold cutD
 rw [HT.sIx_nat,HT.sIx_none,List.drop_zero,Nat.sub_zero]
 by_cases h:n<=ds.length
 ·rw [arI h]
 ·rw [Nat.min_eq_right (by omega),ap6 (aop _),ap6 (by omega)]
def POd (K:aol) (f:Fx) (t:TO) (ρ:zq) (R:Option Int->Prop):Prop:=∀ (σ:St) (H:Hp) (Q:Option Int->Hp->Prop),EnvOk K f ρ σ H->(∀ o H',Goes f H H'->R o->Q o H')->t σ H Q
theorem aiR {R:Option Int->Prop} (h:R none):POd K f af2 ρ R:=fun σ H Q e q=>q none H (.refl e.fd) h
theorem aiS {R:Option Int->Prop} (h:PEd K f te ρ fun d=>∃ i:Int,d=.int i/\R (some i)):POd K f (alM te) ρ R:=fun σ H Q e q=>h σ H _ e fun d v H1 g1 r1 ⟨i,ed,p⟩=>by
 subst ed
 exact⟨i,rep_int.mp r1,q (some i) H1 g1 p⟩
theorem anx {tl th:TO} {P:List PyData->Prop} (h:PEd K f te ρ fun x=>∃ ds,x=.list ds/\POd K f tl ρ fun lo=>POd K f th ρ fun hi=>P (cutD ds lo hi)):PEdL K f (tSl (akw K) te tl th) ρ P:=fun σ H Q e q =>
 h σ H _ e fun x v H1 g1 r1 ⟨ds,ex,p1⟩=>p1 σ H1 _ (e.mono g1) fun lo H2 g2 p2=>p2 σ H2 _ ((e.mono g1).mono g2) fun hi H3 g3 p3=>by
  subst ex
  have gg:=g1.trans (g2.trans g3)
  obtain⟨a,xs,rfl,h1,h2⟩:=rep_list.mp (Rep.mono (g2.trans g3).sm _ _ r1)
  refine⟨a,xs,rfl,(zk _ _).seq h1,fun p hn=>?_⟩
  have g4:Goes f H3 (upd H3 p (.lst (ae9 xs lo hi))):=.of_same (z9 hn _) g3.ok
  exact q _ p _ _ (gg.trans g4) (gg.free e.fd hn) zy (Reps.mono g4.sm _ _ h2.cut) p3
theorem aiT {tl th:TO} (h:PEd K f te ρ fun x=>∃ ds,x=.list ds/\POd K f tl ρ fun lo=>POd K f th ρ fun hi=>P (.list (cutD ds lo hi))):PEd K f (tSl (akw K) te tl th) ρ P:=(anx h).ped
theorem agg (h:PAd K f t ρ fun xs=>(∃ ds,xs=[.dat (.list ds)]/\P (.tuple ds)) \/ (∃ ds,xs=[.dat (.tuple ds)]/\P (.tuple ds))) :
  PEd K f (tCB (fun xs H Q=>∃ p ys,xs=[.ref p]/\((SqL K H p ys/\∀ l,H l=none->Q (.ref l) (upd H l (.tup ys))) \/ (SqT K H p ys/\Q (.ref p) H))) t) ρ P :=
 aho fun σ H Q e q=>h σ H Q e fun xs vs H' g r p=>by
  rcases p with⟨ds,rfl,p⟩ | ⟨ds,rfl,p⟩
  ·refine q _ vs H' g r ⟨_,rfl,fun vs H Q fo rs k=>?_⟩
   obtain⟨x,r,rfl,h2,h3⟩:=reps_cons.mp rs
   rw [reps_nil.mp h3]
   obtain⟨a,ys,rfl,s1,s2⟩:=rep_list.mp h2
   refine⟨a,ys,rfl,.inl ⟨(zk _ _).seq s1,fun l hn=>?_⟩⟩
   have g2:Goes f H (upd H l (.tup ys)):=.of_same (z9 hn _) fo
   exact k (.tuple ds) _ _ g2 (rep_tuple.mpr ⟨l,ys,rfl,.of (zF (fresh_ne fo hn) zy),Reps.mono g2.1 ds ys s2⟩) p
  ·refine q _ vs H' g r ⟨_,rfl,fun vs H Q fo rs k=>?_⟩
   obtain⟨x,r,rfl,h2,h3⟩:=reps_cons.mp rs
   rw [reps_nil.mp h3]
   obtain⟨a,ys,rfl,s1,s2⟩:=rep_tuple.mp h2
   exact⟨a,ys,rfl,.inr ⟨(zk _ _).seqT s1,k (.tuple ds) _ H (.refl fo) (rep_tuple.mpr ⟨a,ys,rfl,s1,s2⟩) p⟩⟩
end
abbrev f0:Fx:=⟨none,[]⟩
theorem fok0 (H:Hp):FOk f0 H:=⟨(fun p e=>by cases e),(fun b hb=>by cases hb),(fun p e=>by cases e)⟩
theorem anz {H H':Hp} (s:Same H H'):Goes f0 H H':=.of_same s (fok0 H)
theorem same0 {H H':Hp} (g:Goes f0 H H'):Same H H':=fun b o h=>(zN (g.sm b o (by rw [yQ];exact h))).2
def acZ:Option DV->Option DV
 | some (.dat d)=>some (.dat d)
 | _=>none
section
variable {K:aol} {ρ:zq} {te:TE} {tu:TS} {i:Nat}
theorem abl {p:Addr} {σ:St} {H:Hp} (e:EnvOk K ⟨some p,[]⟩ ρ σ H):EnvOk K f0 (ρ.map acZ) σ H:=by
 refine⟨by rw [aog];exact e.len,fun i x h=>?_,fok0 H⟩
 rw [aoq] at h
 cases eq:ρ[i]? with
 | none=>rw [eq] at h;cases h
 | some y =>
  rw [eq] at h
  cases y with
  | none=>cases h
  | some y =>
   obtain⟨v,h1,h2⟩:=e.get i y eq
   cases y with
   | dat d =>
    cases h
    refine⟨v,h1,?_⟩
    show Rep K (hide H f0) d v
    rw [yQ]
    exact Rep.mono (zk _ _) d v h2
   | feed=>cases h
   | own k=>cases h
   | exc C=>cases h
   | mon φ=>cases h
theorem amA {Dn:DEnds} (h:∀ (σ:St) (H:Hp) (Q:VK),EnvOk K f0 ρ σ H->(∀ (p:Addr) (x y:Int) (H':Hp),Same H H'->H p=none->H' p=some (.lst [.int x,.int y])->0<=x->0<=y->y<2147483647->Q (.ref p) H')->te σ H Q)
  (hr:∀ p,PSd K ⟨some p,[]⟩ tu (ρ.set i (some .feed)) { nx:=fun ρ'=>Dn.nx (ρ'.map acZ),rt:=Dn.rt,bk:=fun ρ'=>Dn.bk (ρ'.map acZ),ct:=fun ρ'=>Dn.ct (ρ'.map acZ) }) :
  PSd K f0 (qL (jR te (yW i)) tu) ρ Dn:=fun σ H E e n r b k=>h σ H _ e fun p x y H1 sm hn hp x0 y0 y1=>by
 have fo:FOk ⟨some p,[]⟩ H1:=⟨fun p' e=>by cases e;exact⟨x,y,hp,x0,y0,y1⟩,(fun b hb=>by cases hb),fun _ _ hb=>by cases hb⟩
 have sm0:Same H (hide H1 ⟨some p,[]⟩):=fun b o hb=>by
  have nb:b≠p:=fun e=>by rw [e,hn] at hb;cases hb
  refine zF (fun z=>?_) (sm b o hb)
  rcases z with z | z
  ·cases z;exact nb rfl
  ·cases z
 have e1:EnvOk K ⟨some p,[]⟩ ρ σ H1:=by
  refine⟨e.len,fun j z hz=>?_,fo⟩
  obtain⟨v,a1,a2⟩:=e.get j z hz
  refine⟨v,a1,?_⟩
  cases z with
  | dat d =>
   have a2':Rep K (hide H f0) d v:=a2
   rw [yQ] at a2'
   exact Rep.mono sm0 d v a2'
  | feed=>obtain⟨q,hq,_⟩:=a2;cases hq
  | own k=>obtain⟨q,hq,_⟩:=a2;cases hq
  | exc C =>
   obtain⟨q,h3,h4⟩:=a2
   refine⟨q,h3,sm0 _ _ ?_⟩
   rw [yQ] at h4
   exact h4
  | mon φ =>
   intro H' s
   refine a2 H' (Same.trans ?_ s)
   rw [yQ]
   exact sm0
 have gg:∀ {H':Hp},Goes ⟨some p,[]⟩ H1 H'->Goes f0 H H':=fun g=>anz fun b o hb=>zk _ _ b o (g.sm b o (sm0 b o hb))
 refine hr p _ H1 E (e1.set i (x:=.feed) ⟨p,rfl,rfl⟩) (fun ρ' σ' H' g' e' p'=>n _ σ' H' (gg g') (abl e') p') (fun d v H' g' r' p'=>r d v H' (gg g') ?_ p') (fun ρ' σ' H' g' e' p'=>b _ σ' H' (gg g') (abl e') p') (fun ρ' σ' H' g' e' p'=>k _ σ' H' (gg g') (abl e') p')
 rw [yQ]
 exact Rep.mono (zk _ _) d v r'
end
section
variable {X:Cx} {K:aol}
def anA (i j:Int):Prop:=0<j/\j<1152921504606846976
theorem ad9:OpR X (binaryOp .FloorDiv) (rI anA fun i j=>.int (i / j)):=opI fun i j _ _ _ _ _ hc q=>by
 obtain⟨h1,h2⟩:=hc
 rw [<-Int.fdiv_eq_ediv_of_nonneg i (Int.le_of_lt h1)] at q
 refine floordiv_int (by omega) q (.inl (PyProof.noPylong_of_log2 ?_))
 have h0:j.natAbs≠0:=by omega
 have:j.natAbs.log2<60:=(Nat.log2_lt h0).mpr (by omega)
 omega
theorem aea (hK:X.K=K):SlR X (akw K):=hK▸akx
end
section
variable {K:aol} {f:Fx} {ρ:zq} {wi:TI} {g:TG} {tt:TT} {own:Nat} {fr:List Nat} {tb:Addr->TB} {P:List PyData->Prop}
theorem agh {α:Type} {A B:α->PyData} (xs:List α) (h:PId K f wi ρ fun ds=>ds=xs.map A/\xs.length<=1000 /\
   (∀ D x ρ' es,x∈xs->OwnE own (frD fr ρ) ρ'->es.length<1000->PGd K (f.with D) g (A x) ρ' fun ρ2=>PTd K (f.with D) tt ρ2 fun b=>if b=true then PBd K f D (tb D) ρ2 es fun ρ3 es3=>OwnE own (frD fr ρ) ρ3/\es3=es++[B x] else False)/\P (xs.map B)) :
  PEdO K f (jX wi own fr g tt tb) ρ P :=
 qP (h.imp fun ds ⟨ed,hl,hs,hp⟩=>by
  subst ed
  refine⟨fun i ρ' es=>OwnE own (frD fr ρ) ρ'/\es=(xs.take i).map B,⟨⟨apN own none,by simp,rfl⟩,by simp⟩,fun D i d ρ' es hd ⟨ho,he⟩=>?_,fun ρ' es ⟨_,he⟩=>?_⟩
  ·rw [aoq] at hd
   cases eq:xs[i]? with
   | none=>rw [eq] at hd;cases hd
   | some x =>
    rw [eq] at hd
    cases hd
    have hi:i<xs.length:=(aoh.mp eq).1
    have hb:es.length<1000:=by
     rw [he,aog,aoX]
     omega
    intro σ H v Q e r q
    refine hs D x ρ' es (aoj eq) ho hb σ H v Q e r fun ρ2 σ2 H2 g2 e2 p2=>q ρ2 σ2 H2 g2 e2 (p2.imp fun b hb2=>?_)
    cases b with
    | false =>
     rw [if_neg aoi] at hb2
     exact hb2.elim
    | true =>
     rw [if_pos rfl] at hb2 ⊢
     intro h1 h2 σ3 H3 H4 W c k
     exact hb2 h1 h2 σ3 H3 H4 W c fun ρ5 es5 σ5 H5 c5 ⟨o5,p5⟩=>k ρ5 es5 σ5 H5 c5 ⟨o5,by rw [p5,he,apk,eq,aoF];rfl⟩
  ·rw [he,aog,aoZ]
   exact hp)
end
structure XLie (P:Program) (w:World) (outer:List Env) (H:Hp) (s:Shared) (e:Addr) (C:Value) (H':Hp) (s':Shared):Prop where
 os:s'.os=s.os
 bare:AllBare s'.gens
 un:Un (frs outer) [] H H' s.heap s'.heap
 hok:HOk P w H' s'.heap
 fly:∃ B a0,Heap.FlyingW B outer e C a0 s'.heap/\(∀ b o,s.heap.get? b=some o->b∉frs outer->∃ o',B.get? b=some o')/\∀ b o,H' b=some o->∃ o',B.get? b=some o'
 new:s.heap.get? e=none
 free:H' e=none
def CXe (P:Program) (w:World):CXT:=fun outer H s E e s'=>∃ a C H',e=.ref a/\XLie P w outer H s a C H' s'/\E C none H'
end L2
end
section
namespace L2
open PySem PySem.Spec PyProof.Rows
end L2
end
section
namespace L2
open PySem PySem.Spec PySem.W PyProof.Rows PySem.Calls PySem.Builtin Builtin Builtin.ObjectAttr Builtin.Getset_descriptor
section
variable {prog:Program} {w:World} {A:Around} {E:Value->Shared->Prop} {s:Shared} {K:aol} {a C:Addr}
structure ExcWays (K:aol) (C:Addr):Prop where
 ga:findIn K (.ref C) "__getattribute__"=some (some (.builtin "BaseException.__getattribute__"))
 gt:findIn K (.ref C) "__getattr__"=some none
 cl:findIn K (.ref C) "__class__"=some (some (.builtin "object.__class__"))
 gs:specialIn K (.builtin "object.__class__") "__get__"=some (some (.builtin "getset_descriptor.__get__"))
 tk:takesIn K (.builtin "object.__class__")=some true
 ob:mroIn K C (.type "object")=some true
 be:mroIn K C (.type "BaseException")=some true
 iz:(clsIn K C).isSome=true
end
structure FnInX (P:Program) (w:World) (K:aol) (mg:Str->Option Value) (base:Heap) (k:Nat) (x:Str) (ps:List Str) (sp:Sp):Prop where
 ex:∃ (f:Addr) (fd:FuncData),FnOk P w K mg base (CXe P w) k f fd ps sp/\mg x=some (.ref f)/\apm K (.ref f)=true/\Binds K fd ps []
end L2
end
section
namespace L2
open PySem PySem.Spec PyProof.Rows
def amB (K:aol):List V->Hp->VK->Prop:=fun xs H Q=>∃ (a:Addr) (bs:List Bool),xs=[.ref a]/\SqL K H a (bs.map V.bl)/\Q (.bl (bs.all id)) H
theorem aeb:∀ {bs:List Bool} {us:List Value},Vals (bs.map V.bl) us->us=bs.map Value.bool
 | [],us,r=>by
  cases r
  rfl
 | b :: bs,us,r=>by
  cases r with
  | cons h t =>
   rw [aeb t]
   cases (show _=Value.bool b from h)
   rfl
theorem range_all (bs:List Bool):(aow bs.length).all (fun i=>bs.getD i false)=bs.all id:=by
 rw [aqW,aqM,aqM]
 constructor
 ·intro h b hb
  obtain⟨i,hi,rfl⟩:=List.mem_iff_getElem.mp hb
  have:=h i (aoK.mpr hi)
  rwa [aok,aof hi] at this
 ·intro h i hi
  have hi':=aoK.mp hi
  rw [aok,aof hi']
  exact h _ (aoQ hi')
theorem aec (prog:Program) (w:World) (A:Around) (bs:List Bool):TruthOf prog w A (fun i v=>(bs.map Value.bool).toArray[i]?=some v) (fun i=>bs.getD i false):=by
 intro i v s Q E hv hq
 rw [List.getElem?_toArray,aoq] at hv
 cases eb:bs[i]? with
 | none=>rw [eb] at hv;cases hv
 | some b =>
  rw [eb] at hv
  cases hv
  dsimp only at hq
  rw [aok,eb] at hq
  exact wpAny_pure hq
theorem aht {X:Cx} (hc:X.calm=true):yy X (.builtin "all") (amB X.K):=by
 intro pins s σ H xs us Q I r h
 obtain⟨a,bs,rfl,hq,q⟩:=h
 obtain⟨u,rfl,r1⟩:=vals1 r
 cases r1
 obtain⟨its,rv,p,_⟩:=I.list hq
 have hl:=p.isList
 rw [aeb rv] at hl
 have ha:a<s.heap.objs.size:=by
  obtain⟨o,ho,_⟩:=hl
  exact aoB ho
 refine call_all_walk (wpAny_pyIter_list hl ?_)
 have hne:a≠s.heap.objs.size:=aoR ha
 refine⟨s.heap.objs.size,_,_,_,_,_,_,rfl,Walks.list (show (X.A.in1).handled=none from I.ok.hd hc) _ a hne _,⟨?_,?_⟩,aec _ _ _ bs,fun h' tk hk=>?_⟩
 ·exact⟨_,aoM _ rfl,rfl,rfl⟩
 ·exact hl.at fun o e=>aot _ e
 ·have kp:∀ b o,s.heap.get? b=some o->h'.get? b=some o:=fun b o e=>hk b o (by
   intro z
   have:=aoB e
   rw [aos.mp z] at this
   exact apK _ this) (aot _ e)
  refine⟨.bl _,H,I.kept (t':=tk) kp,?_,q⟩
  show Value.bool _=Value.bool _
  rw [aoD,aog,range_all]
theorem acj {X:Cx} {K:aol} (hK:X.K=K) (hc:X.calm=true):yy X (.builtin "all") (amB K):=hK▸aht hc
section
variable {K:aol} {f:Fx} {ρ:zq} {P:PyData->Prop} {te:TE}
theorem abm {H:Hp}:∀ {bs:List Bool} {xs:List V},Reps K H (bs.map .bool) xs->xs=bs.map V.bl
 | [],xs,r=>reps_nil.mp r
 | b :: bs,xs,r=>by
  obtain⟨x,r',rfl,h1,h2⟩:=reps_cons.mp r
  rw [abm h2,rep_bool.mp h1]
  rfl
theorem alQ (h:PEd K f te ρ fun x=>∃ bs:List Bool,x=.list (bs.map .bool)/\P (.bool (bs.all id))):PEd K f (tCB (amB K) (yO te vt)) ρ P:=fun σ H Q e q=>h σ H _ e fun x v H1 g1 r1 ⟨bs,ex,p⟩=>by
 subst ex
 obtain⟨a,xs,rfl,h1,h2⟩:=rep_list.mp r1
 rw [abm h2] at h1
 exact⟨a,bs,rfl,(zk _ _).seq h1,q _ _ H1 g1 (rep_bool.mpr rfl) p⟩
end
section
variable {prog:Program} {w:World} {A:Around} {E:Value->Shared->Prop}
theorem ack {I:Addr} {fp wr:List Addr} {n:Nat} {P:Nat->Value->Prop} {St:Nat->Heap->Prop} (W:Walks prog w A I fp wr n P St):∀ (k i:Nat) (s:Shared) (Q:List Value->Shared->Prop),i+k<=n->St i s.heap ->
  (∀ vs h' tk,vs.length=k->(∀ (j:Nat) v,vs[j]?=some v->P (i+j) v)->St (i+k) h'->(∀ b o,b∉wr->s.heap.get? b=some o->h'.get? b=some o)->Q vs { s with heap:=h',toks:=tk })->wpAny (model prog w) A (draw (.ref I) k) Q E s
 | 0,i,s,Q,_,st,hQ=>wpAny_pure (hQ [] s.heap s.toks rfl (fun j v e=>by simp at e) st fun _ _ _ e=>e)
 | k+1,i,s,Q,hle,st,hQ=>by
  show wpAny _ _ (pyNext (.ref I) >>= _) Q E s
  refine wpAny_bind (W.item i s _ E (by omega) st fun v h1 tk1 hv st1 k1=>?_)
  refine wpAny_bind (wpAny_holding (ack W k (i+1) _ _ (by omega) st1 fun vs h2 tk2 hl hp st2 k2=>wpAny_pure ?_))
  refine hQ (v :: vs) h2 tk2 (by rw [aoE,hl]) (fun j u e=>?_) (by rw [show i+(k+1)=i+1+k by omega];exact st2) fun b o hb e=>k2 b o hb (k1 b o hb e)
  cases j with
  | zero=>cases e;exact hv
  | succ j =>
   have:=hp j u e
   rwa [show i+(j+1)=i+1+j by omega]
theorem afg {s:Shared} {a:Addr} {items:Array Value} {targets:List (Bool×(Value->Sem Unit))} {Q:Unit->Shared->Prop} (hh:A.handled=none) (hl:s.heap.IsList a items)
  (hn:targets.length=items.size) (hstar:targets.findIdx? (·.1)=none)
  (h:∀ h' tk,(∀ b o,s.heap.get? b=some o->h'.get? b=some o)->wpAny (model prog w) A (assignInOrder (targets.map (·.2)) items.toList) Q E { s with heap:=h',toks:=tk }):wpAny (model prog w) A (unpack (.ref a) targets) Q E s:=by
 have ha:a<s.heap.objs.size:=by
  obtain⟨o,ho,_⟩:=hl
  exact aoB ho
 unfold unpack
 rw [hn,hstar]
 refine wpAny_bind (wpAny_holding ?_)
 unfold unpackItems
 refine wpAny_bind ?_
 unfold notIterableAtAll
 refine wpAny_bind (wpAny_specialOf hl.typeIs slot_list_iter.lookup (wpAny_pure ?_))
 simp only [aoY,if_false]
 refine wpAny_bind (wpAny_holding (wpAny_pyIter_list hl ?_))
 have W:=Walks.list (prog:=prog) (w:=w) hh s.heap.objs.size a (aoR ha) items
 have fr:∀ b o,s.heap.get? b=some o->b∉[s.heap.objs.size]:=fun b o e z=>by
  have:=aoB e
  rw [aos.mp z] at this
  exact apK _ this
 refine wpAny_bind (wpAny_holding (ack W items.size 0 _ _ (by omega) ⟨⟨_,aoM _ rfl,rfl,rfl⟩,hl.at fun o e=>aot _ e⟩ fun vs h1 tk1 hvl hp st1 k1=>?_))
 have ev:vs=items.toList:=by
  refine aqf fun j=>?_
  by_cases hj:j<vs.length
  ·have:=hp j _ (aof hj)
   rw [arC] at this
   rw [aof hj,<- this,apQ]
  ·rw [aoP (by omega),aoP (by rw [aoz];omega)]
 subst ev
 rw [if_neg (by simp)]
 rw [arC] at st1
 refine wpAny_bind (wpAny_holding (W.done _ _ _ st1 fun h2 tk2 k2=>?_))
 simp only [Option.isSome_none,aoY,if_false]
 exact wpAny_pure (h h2 tk2 fun b o e=>k2 b o (fr b o e) (k1 b o (fr b o e) (aot _ e)))
end
def anB (K:aol) (n:Nat) (gs:TGs):TG:=fun v σ H Q=>∃ a xs,v=.ref a/\SqL K H a xs/\xs.length=n/\gs xs σ H Q
theorem ac0 {X:Cx} {K:aol} {es:List Expr} {k:Nat} {t:TGs} {n:Nat} {pos:Pos} (hK:X.K=K) (hc:X.calm=true) (h:PGs X es t)
  (hn:(assignEach es X.env).length=n:=by rfl) (hst:(assignEach es X.env).findIdx? (·.1)=none:=by rfl):PG X (.Tuple es k pos) (anB K n t):=by
 subst hK
 intro pins s σ H v u Q I r hw
 obtain⟨a,xs,e1,hq,hl,hw⟩:=hw
 subst e1
 cases r
 obtain⟨its,rv,p,hz⟩:=I.list hq
 rw [assign_Tuple]
 refine wpAny_bind (wpAny_standAt (afg (I.ok.hd hc) p.isList (by rw [hn,<- hl,rv.length,aoD]) hst fun h' tk kp=>?_))
 exact h pins _ σ H xs _ Q (I.kept (t':=tk) kp) rv hw
section
variable {K:aol} {f:Fx} {ρ:zq}
theorem aiU {n:Nat} {gs:TGs} {ds:List PyData} {R:zq->Prop} (hn:ds.length=n) (h:aiK K f gs ds ρ R):PGd K f (anB K n gs) (.list ds) ρ R:=fun σ H v Q e r q=>by
 obtain⟨a,xs,rfl,h1,h2⟩:=rep_list.mp r
 exact⟨a,xs,rfl,(zk _ _).seq h1,by rw [h2.length];exact hn,h σ H xs Q e h2 q⟩
end
def aed (K:aol) (neg:Bool):R2:=fun x y H Q=>∃ d ds,Rep K H d x/\Rep K H (.list ds) y/\d.canLay0=true/\(∀ e∈ds,e.canLay0=true)/\d.depth<=50/\Q (.bl (if neg then !ds.any (fun e=>aoH e d) else ds.any (fun e=>aoH e d))) H
open Classical in
noncomputable def eqR (h:Heap) (d:PyData) (u:Value):Bool:=if z:∃ e as,Reads h u e as/\e.canLay0=true then aoH z.choose d else false
theorem aiV {h:Heap} {d e:PyData} {u:Value} {as:List Addr} (r:Reads h u e as) (c:e.canLay0=true):eqR h d u=aoH e d:=by
 have z:∃ e as,Reads h u e as/\e.canLay0=true:=⟨e,as,r,c⟩
 unfold eqR
 rw [dif_pos z]
 obtain⟨as',r',c'⟩:=z.choose_spec
 rw [SeqAt.Reads.unique _ _ _ _ _ c' r' r]
section
variable {X:Cx} {pins:List (Addr×Obj)} {σ:St} {H:Hp} {s:Shared}
theorem aaN (I:Inv X pins σ H s) {d:PyData}:∀ {ds:List PyData} {xs:List V} {us:List Value},Reps X.K H ds xs->Vals xs us->(∀ e∈ds,e.canLay0=true)->us.any (eqR s.heap d)=ds.any (fun e=>aoH e d)
 | [],xs,us,r,v,_=>by
  rw [reps_nil.mp r] at v
  cases v
  rfl
 | e :: ds,xs,us,r,v,c=>by
  obtain⟨x,xs',rfl,h1,h2⟩:=reps_cons.mp r
  cases v with
  | cons r1 r2 =>
   obtain⟨as,ra⟩:=yC I e x _ h1 r1
   rw [aqs,aqs,aiV ra (c e aom),aaN I h2 r2 fun e he=>c e (aon _ he)]
theorem v5 (I:Inv X pins σ H s) {A:Around} {d:PyData} {v:Value} {bs:List Addr} (rb:Reads s.heap v d bs) (cd:d.canLay0=true) (dd:d.depth<=50) (hu:A.units+60<cLine):∀ {ds:List PyData} {xs:List V} {us:List Value},Reps X.K H ds xs->Vals xs us->(∀ e∈ds,e.canLay0=true)->∀ u∈us,SeqAt.EqAt A s u v (eqR s.heap d u)
 | [],xs,us,r,w,_=>by
  rw [reps_nil.mp r] at w
  cases w
  intro u hu
  cases hu
 | e :: ds,xs,us,r,w,c=>by
  obtain⟨x,xs',rfl,h1,h2⟩:=reps_cons.mp r
  cases w with
  | cons r1 r2 =>
   intro u hm
   rcases aor.mp hm with rfl | hm
   ·obtain⟨as,ra⟩:=yC I e x _ h1 r1
    rw [aiV ra (c e aom)]
    refine SeqAt.eqAt_reads e d A s _ v as bs ra rb (c e aom) cd ?_
    have:=ary e.depth d.depth
    omega
   ·exact v5 I rb cd dd hu h2 r2 (fun e he=>c e (aon _ he)) u hm
theorem amC (hu:X.A.units+64<cLine):OpR X (compareOp .In) (aed X.K false):=by
 intro pins s σ H x y v u Q I rx ry h
 obtain⟨d,ds,h1,h2,c1,c2,dd,q⟩:=h
 obtain⟨a,xs,rfl,hq,hr⟩:=rep_list.mp h2
 cases ry
 obtain⟨bs,rb⟩:=yC I d x v h1 rx
 obtain⟨its,r,pl,hz⟩:=I.list hq
 refine SeqAt.in_listAt (eqR s.heap d) pl.isList (fun w hw=>v5 I rb c1 dd (show X.A.in1.units+60<cLine from by show X.A.units+1+60<cLine;omega) hr r c2 w (by simpa using hw)) ⟨.bl _,H,I,rfl,?_⟩
 rw [show its.toArray.any (eqR s.heap d)=its.any (eqR s.heap d) by simp,aaN I hr r c2]
 exact q
theorem q9 {K:aol} (hK:X.K=K) (hu:X.A.units+64<cLine):OpR X (compareOp .In) (aed K false):=hK▸amC hu
theorem ahu {K:aol} (hK:X.K=K):OpR X (compareOp .NotIn) (rIn K true):=hK▸acW
end
section
variable {K:aol} {f:Fx} {ρ:zq} {P:PyData->Prop} {te ta tb:TE} {t:TA} {D:DEnds} {i j:Nat}
theorem aee (h:PEd K f ta ρ fun d=>PEd K f tb ρ fun y=>∃ ds,y=.list ds/\d.canLay0=true/\(∀ e∈ds,e.canLay0=true)/\d.depth<=50/\P (.bool (ds.any fun e=>aoH e d))):PEd K f (tOp (aed K false) ta tb) ρ P:=fun σ H Q e q =>
 h σ H _ e fun d v H1 g1 r1 p1=>p1 σ H1 _ (e.mono g1) fun y w H2 g2 r2 ⟨ds,ey,c1,c2,dd,p2⟩=>by
  subst ey
  exact⟨d,ds,Rep.mono (zk _ _) _ _ (Rep.mono g2.sm _ _ r1),Rep.mono (zk _ _) _ _ r2,c1,c2,dd,q _ _ H2 (g1.trans g2) (rep_bool.mpr rfl) p2⟩
theorem aiW (h:PEd K f ta ρ fun d=>∃ n:Int,d=.int n/\PEd K f tb ρ fun y=>∃ ns:List Int,y=.tuple (ns.map .int)/\P (.bool (!ns.contains n))):PEd K f (tOp (rIn K true) ta tb) ρ P:=fun σ H Q e q =>
 h σ H _ e fun d v H1 g1 r1 ⟨n,ed,p1⟩=>p1 σ H1 _ (e.mono g1) fun y w H2 g2 r2 ⟨ns,ey,p2⟩=>by
  subst ed ey
  obtain⟨a,xs,rfl,h1,h2⟩:=rep_tuple.mp r2
  have ex:=h2.ints
  subst ex
  rw [rep_int.mp r1]
  have e1:inV (.int n) (ns.map V.int)=ns.contains n:=by
   unfold inV
   rw [List.any_map,List.contains_eq_any_beq]
   congr 1
   funext m
   show (m == n)=(n == m)
   exact BEq.comm
  refine⟨a,_,rfl,.inr ((zk _ _).seqT h1),rfl,?_,?_⟩
  ·rw [List.all_map]
   exact aqM.mpr fun _ _=>rfl
  ·rw [if_pos rfl,e1]
   exact q _ _ H2 (g1.trans g2) (rep_bool.mpr rfl) p2
end
end L2
end
section
namespace L2
open PySem PySem.Spec PyProof.Rows
section
variable {X:Cx}
theorem ahv (hu:X.A.units+64<cLine):OpR X (compareOp .NotIn) (aed X.K true):=by
 intro pins s σ H x y v u Q I rx ry h
 obtain⟨d,ds,h1,h2,c1,c2,dd,q⟩:=h
 obtain⟨a,xs,rfl,hq,hr⟩:=rep_list.mp h2
 cases ry
 obtain⟨bs,rb⟩:=yC I d x v h1 rx
 obtain⟨its,r,pl,hz⟩:=I.list hq
 refine SeqAt.notIn_listAt (eqR s.heap d) pl.isList (fun w hw=>v5 I rb c1 dd (show X.A.in1.units+60<cLine from by show X.A.units+1+60<cLine;omega) hr r c2 w (by simpa using hw)) ⟨.bl _,H,I,rfl,?_⟩
 rw [show its.toArray.any (eqR s.heap d)=its.any (eqR s.heap d) by simp,aaN I hr r c2]
 exact q
theorem abn {K:aol} (hK:X.K=K) (hu:X.A.units+64<cLine):OpR X (compareOp .NotIn) (aed K true):=hK▸ahv hu
end
section
variable {K:aol} {f:Fx} {ρ:zq} {P:PyData->Prop} {te ta tb:TE}
theorem aiX (h:PEd K f ta ρ fun d=>PEd K f tb ρ fun y=>∃ ds,y=.list ds/\d.canLay0=true/\(∀ e∈ds,e.canLay0=true)/\d.depth<=50/\P (.bool (!ds.any fun e=>aoH e d))):PEd K f (tOp (aed K true) ta tb) ρ P:=fun σ H Q e q =>
 h σ H _ e fun d v H1 g1 r1 p1=>p1 σ H1 _ (e.mono g1) fun y w H2 g2 r2 ⟨ds,ey,c1,c2,dd,p2⟩=>by
  subst ey
  exact⟨d,ds,Rep.mono (zk _ _) _ _ (Rep.mono g2.sm _ _ r1),Rep.mono (zk _ _) _ _ r2,c1,c2,dd,q _ _ H2 (g1.trans g2) (rep_bool.mpr rfl) p2⟩
end
end L2
end
section
namespace L2
open PySem PySem.Spec PyProof.Rows
def amD (K:aol):List V->Hp->VK->Prop:=fun xs H Q=>∃ (a:Addr) (ns:List Int),xs=[.ref a]/\SqL K H a (ns.map V.int)/\Q (.int ns.sum) H
theorem ahw {X:Cx} (hc:X.calm=true):yy X (.builtin "sum") (amD X.K):=by
 intro pins s σ H xs us Q I r h
 obtain⟨a,ns,rfl,hq,q⟩:=h
 obtain⟨u,rfl,r1⟩:=vals1 r
 cases r1
 obtain⟨its,rv,p,_⟩:=I.list hq
 have hl:=p.isList
 have hi:IntsAre its ns:=intsAre_of rv
 obtain⟨zs,ez⟩:=hi.allInts.items
 rw [ez] at hl
 refine sum_intListG (show (X.A).handled=none from I.ok.hd hc) hl fun h' tk t' kp=>⟨.int _,H,I.kept (t':=tk) kp,⟨_,rfl⟩,?_⟩
 have e:preSum (numAt zs) zs.size=ns.sum:=by
  rw [<-hi.numsOf,show its=its.toArray.toList from rfl,ez,nums_intItems,preSum_eq,ap6 (by simp)]
 rw [e]
 exact q
theorem afh {X:Cx} {K:aol} (hK:X.K=K) (hc:X.calm=true):yy X (.builtin "sum") (amD K):=hK▸ahw hc
section
variable {K:aol} {f:Fx} {ρ:zq} {P:PyData->Prop} {te:TE}
theorem anC (h:PEd K f te ρ fun x=>∃ ns:List Int,x=.list (ns.map .int)/\P (.int ns.sum)):PEd K f (tCB (amD K) (yO te vt)) ρ P:=fun σ H Q e q=>h σ H _ e fun x v H1 g1 r1 ⟨ns,ex,p⟩=>by
 subst ex
 obtain⟨a,xs,rfl,h1,h2⟩:=rep_list.mp r1
 rw [h2.ints] at h1
 exact⟨a,ns,rfl,(zk _ _).seq h1,q _ _ H1 g1 (rep_int.mpr rfl) p⟩
end
section
variable {prog:Program} {w:World} {A:Around} {E:Value->Shared->Prop} {s:Shared}
theorem akC {t b:Addr} {vs ws:List Value} {Q:Value->Shared->Prop} (ht:PlainL s.heap t vs.toArray) (hb:PlainL s.heap b ws.toArray)
  (h2:Q (.ref s.heap.objs.size) { s with heap:=s.heap.push { cls:=.type "list",data:=.seq (vs++ws).toArray } })
  (hsz:vs.length+ws.length<=sizeLine):wpAny (model prog w) A (binaryOp .Add (.ref t) (.ref b)) Q E s:=by
 obtain⟨⟨cls,dd,data,sl⟩,n,ho,hc,_,hd⟩:=ht
 obtain⟨⟨cls2,dd2,data2,sl2⟩,n2,ho2,hc2,_,hd2⟩:=hb
 simp only at hc hd hc2 hd2
 subst hc hd hc2 hd2
 have e:vs.toArray++ws.toArray=(vs++ws).toArray:=by simp
 refine concat_meets ⟨_,ho,rfl⟩ ⟨_,ho2,rfl⟩ noFill_list_add seq_list_add PySem.F.slot_list_add PySem.F.entry_list_add (PySem.F.args_list_add_2 _ _) (list_addW t b vs.toArray ws.toArray n n2 dd dd2 sl sl2 (by rw [aoD,aoD];exact hsz)) ⟨ho,ho2,?_⟩
 rw [e]
 exact h2
end
def aiY (K:aol):R2:=fun x y H Q=>∃ l b xs zs,x=.ref l/\y=.ref b/\SqL K H l xs/\SqL K H b zs/\xs.length+zs.length<=sizeLine/\∀ p,H p=none->Q (.ref p) (upd H p (.lst (xs++zs)))
section
variable {X:Cx}
theorem akD:OpR X (binaryOp .Add) (aiY X.K):=by
 intro pins s σ H x y v u Q I rx ry h
 obtain⟨l,b,xs,zs,rfl,rfl,ha,hb,hz,q⟩:=h
 cases rx
 cases ry
 obtain⟨its,r1,p1,_⟩:=I.list ha
 obtain⟨its2,r2,p2,_⟩:=I.list hb
 refine akC p1 p2 ?_ (by rw [<-r1.length,<- r2.length];exact hz)
 exact⟨.ref _,_,I.lnew (t':=s.toks) (r1.append r2) (by rw [aox];omega),rfl,q _ I.fresh⟩
theorem abo {K:aol} (hK:X.K=K):OpR X (binaryOp .Add) (aiY K):=hK▸akD
end
section
variable {K:aol} {f:Fx} {ρ:zq} {P:PyData->Prop} {te ta tb:TE} {t:TA}
theorem afi (h:PEd K f ta ρ fun x=>∃ ds,x=.list ds/\PEd K f tb ρ fun y=>∃ es,y=.list es/\ds.length+es.length<=1000/\P (.list (ds++es))):PEd K f (tOp (aiY K) ta tb) ρ P:=fun σ H Q e q =>
 h σ H _ e fun x v H1 g1 r1 ⟨ds,ex,p1⟩=>p1 σ H1 _ (e.mono g1) fun y w H2 g2 r2 ⟨es,ey,hl,p2⟩=>by
  subst ex ey
  obtain⟨a,xs,rfl,h1,h2⟩:=rep_list.mp (Rep.mono g2.sm _ _ r1)
  obtain⟨b,ys,rfl,h3,h4⟩:=rep_list.mp r2
  have l1:=h2.length
  have l2:=h4.length
  refine⟨a,b,xs,ys,rfl,rfl,(zk _ _).seq h1,(zk _ _).seq h3,by rw [l1,l2];exact aps (z7 hl),fun p hn=>?_⟩
  have g3:Goes f H2 (upd H2 p (.lst (xs++ys))):=.of_same (z9 hn _) g2.ok
  exact q (.list (ds++es)) _ _ (g1.trans (g2.trans g3)) (rep_list.mpr ⟨p,_,rfl,.of (zF (fresh_ne g2.ok hn) zy),Reps.mono g3.sm _ _ (h2.append h4)⟩) p2
theorem abp {R:List PyData->Prop} (h:PAd K f t ρ fun xs=>∃ ds,ql xs=some ds/\ds.length<=1000/\R ds):PEdO K f (ait t) ρ R:=fun σ H Q e q =>
 h σ H _ e fun xs vs H1 g1 r1 ⟨ds,ea,hl,p⟩=>by
  have rs:=qY r1 ea
  refine⟨by rw [rs.length];exact aps (z7 hl),fun l hn=>?_⟩
  have g2:Goes f H1 (upd H1 l (.lst vs)):=.of_same (z9 hn _) g1.2
  have nl:=fresh_ne g1.2 hn
  refine q ds l vs _ (g1.trans g2) (g1.free e.fd hn) zy (Reps.mono (fun b o hb=>?_) _ _ rs) p
  have hb':=zN hb
  have hbl:b≠l:=fun z=>by
   have:=hb'.2
   rw [z,hn] at this
   cases this
  refine zF (fun z=>?_) (by rw [zu hbl];exact hb'.2)
  rcases z with z | z
  ·exact hb'.1 (.inl z)
  ·rcases aor.mp z with z | z
   ·exact hbl z
   ·exact hb'.1 (.inr z)
end
def spN {γ:Type} (K:aol) (n:Nat) (pre:γ->List DV->Prop) (post:γ->List PyData->Prop):Sp:=fun vs H Q _=>∃ f xs c,RepVs K f H xs vs/\xs.length=n/\FOk f H/\pre c xs /\
 ∀ es D vs' H',Goes f H H'->H D=none->H' D=some (.lst vs')->Reps K (hide H' (f.with D)) es vs'->post c es->Q (.ref D) H'
def PSn (K:aol) (f:Fx) (ts:TS) (ρ:zq) (R:List PyData->Prop):Prop:=∀ (σ:St) (H:Hp) (E:Ends),EnvOk K f ρ σ H ->
 (∀ es D vs H',Goes f H H'->H D=none->H' D=some (.lst vs)->Reps K (hide H' (f.with D)) es vs->R es->E.rt (.ref D) H')->ts E σ H
section
variable {K:aol} {f:Fx} {ρ:zq} {R:List PyData->Prop} {te:TE} {ts tu:TS} {tt:TT} {t:TA} {i:Nat} {D:Addr} {es:List PyData} {O:OEnds}
theorem acm (h:PEdO K f te ρ R):PSn K f (adQ te) ρ R:=fun σ H E e q=>h σ H E.rt e q
theorem qG (h:PSd K f ts ρ { nx:=fun ρ'=>PSn K f tu ρ' R,rt:=fun _=>False }):PSn K f (qL ts tu) ρ R:=fun σ H E e q =>
 h σ H _ e (fun ρ' σ' H' g' e' p=>p σ' H' E e' fun es D vs H2 g2 hn h1 rs r=>q es D vs H2 (g'.trans g2) (g'.free e.fd hn) h1 rs r) (fun _ _ _ _ _ z=>z.elim) (fun _ _ _ _ _ z=>z.elim) (fun _ _ _ _ _ z=>z.elim)
theorem alR (h:PTd K f tt ρ fun b=>if b=true then PEdO K f te ρ R else PSn K f tu ρ R):PSn K f (qL (akn tt (adQ te) afY) tu) ρ R:=fun σ H E e q =>
 h σ H _ e fun b H1 g1 p=>by
  have q1:∀ es D vs H',Goes f H1 H'->H1 D=none->H' D=some (.lst vs)->Reps K (hide H' (f.with D)) es vs->R es->E.rt (.ref D) H':=fun es D vs H' g' hn=>q es D vs H' (g1.trans g') (g1.free e.fd hn)
  cases b with
  | true=>rw [if_pos rfl] at p ⊢;exact p σ H1 E.rt (e.mono g1) q1
  | false=>rw [if_neg aoi] at p ⊢;exact p σ H1 E (e.mono g1) q1
theorem jg {γ:Type} {n:Nat} {pre:γ->List DV->Prop} {post:γ->List PyData->Prop} {E:XK} (c:γ) (h:PAd K f t ρ fun xs=>xs.length=n/\pre c xs/\∀ es,post c es->R es):PEdO K f (acb (spN K n pre post) [] E t) ρ R:=fun σ H Q e q =>
 h σ H _ e fun xs vs H1 g1 r1 ⟨hl,hp,k⟩=>⟨f,xs,c,by rw [apf];exact r1,hl,g1.2,hp,fun es D vs' H' g' hn h1 rs p=>q es D vs' H' (g1.trans g') (g1.free e.fd hn) h1 rs (k es p)⟩
theorem alS {ta tb:TE} (h:PTd K f tt ρ fun b=>if b=true then PEdO K f ta ρ R else PEdO K f tb ρ R):PEdO K f (tIf tt ta tb) ρ R:=fun σ H Q e q =>
 h σ H _ e fun b H1 g1 p=>by
  have q1:∀ es D vs H',Goes f H1 H'->H1 D=none->H' D=some (.lst vs)->Reps K (hide H' (f.with D)) es vs->R es->Q (.ref D) H':=fun es D vs H' g' hn=>q es D vs H' (g1.trans g') (g1.free e.fd hn)
  cases b with
  | true=>rw [if_pos rfl] at p ⊢;exact p σ H1 Q (e.mono g1) q1
  | false=>rw [if_neg aoi] at p ⊢;exact p σ H1 Q (e.mono g1) q1
end
section
variable {P:Program} {w:World} {K:aol} {mg:Str->Option Value} {base:Heap} {k:Nat} {x:Str} {st:Stmt} {ps:List Str} {N:List Str} {n:Nat} {γ:Type} {pre:γ->List DV->Prop} {post:γ->List PyData->Prop}
theorem Def.okN (F:Def K mg x st ps) (S:FnScope N ps (zj st)) (hn:ps.length=n)
  (h:∀ (fa:Addr) (cdv:Value) (A:Around) (outer:List Env) (s:Shared) (H:Hp) (E:XK),Room k (A.deeper (envOfC x (zj st) s.heap.objs.size fa cdv)) ->
   ∃ t,PSs (z5 CX0 P w K mg base N x (zj st) fa cdv A outer s H E).nox (yK st) t/\∀ (f:Fx) (xs:List DV) (c:γ),xs.length=n->pre c xs->PSn K f t (qm N xs) (post c)) :
  FnIn P w K mg base (k+1) x ps (spN K n pre post):=by
 obtain⟨fa,fd,F1,F2,F3⟩:=F.ex
 refine⟨fa,fd,F1.ok S (fun vs H Q E h=>?_) (fun cdv A outer s H vs Q E hr hs=>?_),F3,F1.kp,F2⟩
 ·obtain⟨f,xs,c,r,hl,_⟩:=h
  rw [r.length,hl,hn]
 ·obtain⟨f,xs,c,r,hl,fo,hp,q⟩:=hs
  obtain⟨t,h1,h2⟩:=h fa cdv A outer s H E hr
  exact⟨t,h1,h2 f xs c hl hp (start N vs) H _ (jZ r fo) (fun es D vs' H' g hn' h1' rs p=>q es D vs' H' g hn' h1' rs p)⟩
end
section
variable {X:Cx} {pins:List (Addr×Obj)} {σ:St} {H:Hp} {s:Shared} {h':Heap}
theorem Inv.laidL {t':Nat} {D:Addr} {o:HO} (I:Inv X pins σ H s) (k:∀ b u,b≠X.env.locals->s.heap.get? b=some u->h'.get? b=some u) (hL:∃ o,h'.get? X.env.locals=some o) (ns:∀ m,s.heap.Ns X.env.locals m->h'.Ns X.env.locals m)
  (nD:∀ b u,s.heap.get? b=some u->b≠D) (hD:H D=none) (new:ObjOk X.prog X.w (upd H D o) h' D o):Inv X pins σ (upd H D o) { s with heap:=h',toks:=t' }:=by
 have fL:H X.env.locals=none:=I.free
 refine I.step (g':=s.gens) (d':=s.drawn) (ch:=[]) (fun _ z=>nomatch z) (fun b o n _ _ e _=>k b o n e) (fun b o n _ _ e _=>⟨o.slots,k b o n e⟩) (fun b u _ e n=>by rw [zu (nD b u e)];exact n) (fun b o _ e=>?_) (fun b xs e=>by rw [zu (zE e hD)];exact e) (fun b u v e=>by rw [zu (zE e hD)];exact e) (fun b ps e=>⟨#[],by rw [zu (zE e hD),Array.append_empty];exact e⟩) ns (fun a u e=>?_) I.bare
 ·by_cases hb:b=X.env.locals
  ·subst hb;exact hL
  ·exact⟨o,k b o hb e⟩
 ·by_cases ha:a=D
  ·subst ha
   rw [zy] at e
   cases e
   exact new
  ·rw [zu ha] at e
   refine (I.hok a u e).stay (fun b v hb q=>k b v (fun z=>?_) q) (fun c q=>by rw [zu (zE q hD)];exact q) fun c xs q=>by rw [zu (zE q hD)];exact q
   rcases hb with hb | hb
   ·rw [<-hb,z,fL] at e;cases e
   ·rw [z,fL] at hb;cases hb
end
end L2
end
section
namespace L2
open PySem PySem.W PyProof.Rows
structure Tot (n:Nat) (lt:Nat->Nat->Bool):Prop where
 tri:∀ i j,i<n->j<n->i≠j->lt i j=!lt j i
 tra:∀ i j k,i<n->j<n->k<n->lt i j=true->lt j k=true->lt i k=true
def Ans (cmp:Nat->Nat->(Bool->Shared->Prop)->Shared->Prop) (n:Nat) (lt:Nat->Nat->Bool) (s:Shared):Prop:=∀ i j C,i<n->j<n->C (lt i j) s->cmp i j C s
def Pm (n:Nat) (p:Array Nat):Prop:=p.toList.Perm (aow n)
def Up (lt:Nat->Nat->Bool) (p:Array Nat) (m:Nat):Prop:=∀ i j,i<j->j<m->lt (p.getD i 0) (p.getD j 0)=true
def Dn (lt:Nat->Nat->Bool) (p:Array Nat) (m:Nat):Prop:=∀ i j,i<j->j<m->lt (p.getD j 0) (p.getD i 0)=true
theorem Pm.size {n:Nat} {p:Array Nat} (h:Pm n p):p.size=n:=by
 have:=h.length_eq
 rwa [aoz,aoU] at this
theorem jF (p:Array Nat) (i:Nat):p.getD i 0=p.toList.getD i 0:=by
 by_cases h:i<p.size <;> simp [ap8,h,List.getD]
theorem Pm.lt {n:Nat} {p:Array Nat} (h:Pm n p) {i:Nat} (hi:i<n):p.getD i 0<n:=by
 have hs:=h.size
 have hl:i<p.toList.length:=by rw [aoz,hs];exact hi
 rw [jF,aok,aof hl]
 exact aoK.mp (h.mem_iff.mp (aoQ hl))
theorem Pm.ne {n:Nat} {p:Array Nat} (h:Pm n p) {i j:Nat} (hi:i<n) (hj:j<n) (ne:i≠j):p.getD i 0≠p.getD j 0:=by
 have hs:=h.size
 have nd:p.toList.Nodup:=h.nodup_iff.mpr aqN
 have li:i<p.toList.length:=by rw [aoz,hs];exact hi
 have lj:j<p.toList.length:=by rw [aoz,hs];exact hj
 rw [jF,jF,aok,aok,aof li,aof lj]
 intro e
 exact ne ((aqL nd).mp e)
theorem Pm.range (n:Nat):Pm n (apo (aow n)):=List.Perm.refl _
theorem Pm.of {n:Nat} {p q:Array Nat} (h:Pm n p) (e:q.Perm p):Pm n q:=(Array.perm_iff_toList_perm.mp e).trans h
theorem agi {p q:Array Nat} {i j:Nat} (h:p[i]?=q[j]?):p.getD i 0=q.getD j 0:=by
 rw [apI,apI,h]
section
variable {cmp:Nat->Nat->(Bool->Shared->Prop)->Shared->Prop} {n:Nat} {lt:Nat->Nat->Bool} {s:Shared} {p:Array Nat}
theorem Up.more (T:Tot n lt) (hp:Pm n p) {m:Nat} (h1:1<=m) (hm:m<n) (u:Up lt p m) (h:lt (p.getD (m - 1) 0) (p.getD m 0)=true):Up lt p (m+1):=fun i j hij hj=>by
 by_cases e:j=m
 ·subst e
  by_cases e2:i=j - 1
  ·subst e2;exact h
  ·exact T.tra _ _ _ (hp.lt (by omega)) (hp.lt (by omega)) (hp.lt hm) (u i (j - 1) (by omega) (by omega)) h
 ·exact u i j hij (by omega)
theorem Dn.more (T:Tot n lt) (hp:Pm n p) {m:Nat} (h1:1<=m) (hm:m<n) (u:Dn lt p m) (h:lt (p.getD m 0) (p.getD (m - 1) 0)=true):Dn lt p (m+1):=fun i j hij hj=>by
 by_cases e:j=m
 ·subst e
  by_cases e2:i=j - 1
  ·subst e2;exact h
  ·exact T.tra _ _ _ (hp.lt hm) (hp.lt (by omega)) (hp.lt (by omega)) h (u i (j - 1) (by omega) (by omega))
 ·exact u i j hij (by omega)
theorem aaO (T:Tot n lt) (W:Ans cmp n lt s) (hp:Pm n p) {Q:Nat->Shared->Prop}:∀ f m,1<=m->m+f<=n->Up lt p m->(∀ m',m<=m'->m'<=m+f->Up lt p m'->(m'=m+f \/ lt (p.getD m' 0) (p.getD (m' - 1) 0)=true)->Q m' s)->(kas_asc p f m).kasWp cmp Q s
 | 0,m,h1,hf,u,q=>q m (aop _) (aop _) u (.inl rfl)
 | f+1,m,h1,hf,u,q=>by
  refine W _ _ _ (hp.lt (by omega)) (hp.lt (by omega)) ?_
  cases e:lt (p.getD m 0) (p.getD (m - 1) 0) with
  | true=>exact q m (aop _) (by omega) u (.inr e)
  | false =>
   have e2:lt (p.getD (m - 1) 0) (p.getD m 0)=true:=by
    rw [T.tri _ _ (hp.lt (by omega)) (hp.lt (by omega)) (hp.ne (by omega) (by omega) (by omega)),e]
    rfl
   exact aaO T W hp f (m+1) (by omega) (by omega) (u.more T hp h1 (by omega) e2) fun m' a b c d=>q m' (by omega) (by omega) c (d.imp (fun z=>by omega) id)
theorem aef (T:Tot n lt) (W:Ans cmp n lt s) (hp:Pm n p) {Q:Array Nat×Nat×Nat->Shared->Prop}:∀ f m,1<=m->m+f<=n->Dn lt p m->(∀ m',m<=m'->m'<=m+f->Dn lt p m'->Q (p,m',0) s)->(kas_desc f p m 0).kasWp cmp Q s
 | 0,m,h1,hf,u,q=>q m (aop _) (aop _) u
 | f+1,m,h1,hf,u,q=>by
  refine W _ _ _ (hp.lt (by omega)) (hp.lt (by omega)) ?_
  cases e:lt (p.getD m 0) (p.getD (m - 1) 0) with
  | true=>exact aef T W hp f (m+1) (by omega) (by omega) (u.more T hp h1 (by omega) e) fun m' a b c=>q m' (by omega) (by omega) c
  | false =>
   have e2:lt (p.getD (m - 1) 0) (p.getD m 0)=true:=by
    rw [T.tri _ _ (hp.lt (by omega)) (hp.lt (by omega)) (hp.ne (by omega) (by omega) (by omega)),e]
    rfl
   refine W _ _ _ (hp.lt (by omega)) (hp.lt (by omega)) ?_
   rw [e2]
   exact q m (aop _) (by omega) u
theorem amE {m:Nat} (hm:m<=p.size) (d:Dn lt p m):Up lt (kas_rev p 0 m) m:=fun i j hij hj=>by
 have g:∀ k,k<m->(kas_rev p 0 m).getD k 0=p.getD (m - 1 - k) 0:=fun k hk=>agi (by
  unfold kas_rev
  rw [getElem?_mirror_all hm,if_pos ⟨ao2 _,hk⟩,arC])
 rw [g i (by omega),g j hj]
 exact d _ _ (by omega) (by omega)
theorem ahx (T:Tot n lt) (W:Ans cmp n lt s) (hp:Pm n p) (hn:1<=n) {Q:Nat×Array Nat->Shared->Prop} (q:∀ m p',1<=m->m<=n->Pm n p'->Up lt p' m->Q (m,p') s):(kas_count n p).kasWp cmp Q s:=by
 unfold kas_count
 rw [KasT.kasWp_bind]
 refine aaO T W hp (n - 1) 1 (aop _) (by omega) (fun i j a b=>by omega) fun m h1 h2 u c=>?_
 by_cases e:(m == n)=true
 ·rw [if_pos e]
  exact q m p h1 (by omega) hp u
 ·rw [if_neg e]
  have hm:m<n:=by
   have:m≠n:=fun z=>e (by rw [z];exact beq_self_eq_true _)
   omega
  by_cases e2:m > 1
  ·rw [if_pos e2]
   refine W _ _ _ (hp.lt (by omega)) (hp.lt (by omega)) ?_
   rw [u 0 (m - 1) (by omega) (by omega)]
   exact q m p h1 (by omega) hp u
  ·rw [if_neg e2]
   obtain rfl:m=1:=by omega
   have c':lt (p.getD 1 0) (p.getD (1 - 1) 0)=true:=c.resolve_left (by omega)
   unfold kas_descPart
   rw [KasT.kasWp_bind]
   refine aef T W hp (n - (1+1)) (1+1) (by omega) (by omega) (Dn.more T hp (aop 1) hm (fun i j a b=>by omega) c') fun m' a b d=>?_
   rw [if_neg (by show ¬ (0 > 0);omega)]
   unfold kas_tail3
   rw [KasT.kasWp_bind]
   have hp2:Pm n (kas_rev p 0 m'):=hp.of (mirror_perm _ _ _ _)
   exact aaO T W hp2 (n - m') m' (by omega) (by omega) (amE (by rw [hp.size];omega) d) fun m2 a2 b2 u2 _=>q m2 _ (by omega) (by omega) hp2 u2
theorem aar (T:Tot n lt) (W:Ans cmp n lt s) (hp:Pm n p) {k:Nat} (hk:k<n) (u:Up lt p k) {Q:Nat->Shared->Prop}:∀ f l r,r - l<=f->l<=r->r<=k->(∀ i,i<l->lt (p.getD i 0) (p.getD k 0)=true)->(∀ i,r<=i->i<k->lt (p.getD k 0) (p.getD i 0)=true) ->
  (∀ m,m<=k->(∀ i,i<m->lt (p.getD i 0) (p.getD k 0)=true)->(∀ i,m<=i->i<k->lt (p.getD k 0) (p.getD i 0)=true)->Q m s)->(kas_place p k f l r).kasWp cmp Q s
 | 0,l,r,hf,hlr,hr,lo,hi,q=>by
  obtain rfl:l=r:=by omega
  exact q l hr lo hi
 | f+1,l,r,hf,hlr,hr,lo,hi,q=>by
  unfold kas_place
  by_cases e:l >= r
  ·rw [if_pos e]
   obtain rfl:l=r:=by omega
   exact q l hr lo hi
  ·rw [if_neg e]
   refine W _ _ _ (hp.lt hk) (hp.lt (by omega)) ?_
   have hm:(l+r) / 2<k:=by omega
   cases e2:lt (p.getD k 0) (p.getD ((l+r) / 2) 0) with
   | true =>
    refine aar T W hp hk u f l ((l+r) / 2) (by omega) (by omega) (by omega) lo (fun i h1 h2=>?_) q
    by_cases e3:i=(l+r) / 2
    ·rw [e3];exact e2
    ·exact T.tra _ _ _ (hp.lt hk) (hp.lt (by omega)) (hp.lt (by omega)) e2 (u _ _ (by omega) h2)
   | false =>
    have e4:lt (p.getD ((l+r) / 2) 0) (p.getD k 0)=true:=by
     rw [T.tri _ _ (hp.lt (by omega)) (hp.lt hk) (hp.ne (by omega) hk (by omega)),e2]
     rfl
    refine aar T W hp hk u f ((l+r) / 2+1) r (by omega) (by omega) hr (fun i h1=>?_) hi q
    by_cases e3:i=(l+r) / 2
    ·rw [e3];exact e4
    ·exact T.tra _ _ _ (hp.lt (by omega)) (hp.lt (by omega)) (hp.lt hk) (u _ _ (by omega) hm) e4
theorem amF {k m:Nat} (hk:k<p.size) (hm:m<=k) (u:Up lt p k) (lo:∀ i,i<m->lt (p.getD i 0) (p.getD k 0)=true) (hi:∀ i,m<=i->i<k->lt (p.getD k 0) (p.getD i 0)=true):Up lt (bubble p k (k - m)) (k+1):=fun i j hij hj=>by
 have g:∀ t,t<=k->(bubble p k (k - m)).getD t 0=p.getD (if t=m then k else if t<m then t else t - 1) 0:=fun t ht=>agi (by
  rw [getElem?_bubble hk (k - m) (by omega),show k - (k - m)=m by omega]
  by_cases e1:t=m
  ·rw [if_pos e1,if_pos e1]
  ·rw [if_neg e1,if_neg e1]
   by_cases e2:t<m
   ·rw [if_neg (by omega),if_pos e2]
   ·rw [if_pos (by omega),if_neg e2])
 rw [g i (by omega),g j (by omega)]
 by_cases a1:i=m
 ·rw [if_pos a1,if_neg (by omega),if_neg (by omega)]
  exact hi _ (by omega) (by omega)
 ·rw [if_neg a1]
  by_cases a2:j=m
  ·rw [if_pos a2,if_pos (by omega)]
   exact lo _ (by omega)
  ·rw [if_neg a2]
   by_cases a3:i<m
   ·rw [if_pos a3]
    by_cases a4:j<m
    ·rw [if_pos a4];exact u _ _ hij (by omega)
    ·rw [if_neg a4];exact u _ _ (by omega) (by omega)
   ·rw [if_neg a3,if_neg (by omega)]
    exact u _ _ (by omega) (by omega)
theorem agj (T:Tot n lt) (W:Ans cmp n lt s) {Q:Array Nat->Shared->Prop}:∀ f k (p:Array Nat),Pm n p->k+f=n->Up lt p k->(∀ p',Pm n p'->Up lt p' n->Q p' s)->(kas_bin f p k).kasWp cmp Q s
 | 0,k,p,hp,hf,u,q=>by
  obtain rfl:k=n:=by omega
  exact q p hp u
 | f+1,k,p,hp,hf,u,q=>by
  unfold kas_bin
  rw [KasT.kasWp_bind]
  refine aar T W hp (by omega) u k 0 k (by omega) (ao2 _) (aop _) (fun i hi=>by omega) (fun i a b=>by omega) fun m h1 lo hi=>?_
  exact agj T W f (k+1) _ (hp.of (bubble_perm _ _ _)) (by omega) (amF (by rw [hp.size];omega) h1 u lo hi) q
theorem aiZ (T:Tot n lt) (W:Ans cmp n lt s) (hn:1<=n) {Q:Array Nat->Shared->Prop} (q:∀ p,Pm n p->Up lt p n->Q p s):(kas_sort n).kasWp cmp Q s:=by
 unfold kas_sort
 rw [KasT.kasWp_bind]
 refine ahx T W (Pm.range n) hn fun m p h1 h2 hp u=>?_
 by_cases e:m<n
 ·show (if m<n then _ else _:KasT (Array Nat)).kasWp cmp Q s
  rw [if_pos e,show max m 1=m by omega]
  exact agj T W (n - m) m p hp (by omega) u q
 ·show (if m<n then _ else _:KasT (Array Nat)).kasWp cmp Q s
  rw [if_neg e]
  obtain rfl:m=n:=by omega
  exact q p hp u
end
end L2
end
section
namespace L2
open PySem PySem.W PySem.Calls PyProof.Rows
theorem acn:∀ f n r,r<=1->minRun' f n r<=n+1
 | 0,n,r,h=>by show n+r<=n+1;omega
 | f+1,n,r,h=>by
  rw [minRun'_succ]
  by_cases e:n<64
  ·rw [if_pos e];omega
  ·rw [if_neg e]
   have:=acn f (n / 2) (max r (n % 2)) (by omega)
   omega
theorem afj {n:Nat} (h:1<=n):minRun' n n 0<=n:=by
 obtain⟨f,rfl⟩:∃ f,n=f+1:=⟨n - 1,by omega⟩
 rw [minRun'_succ]
 by_cases e:f+1<64
 ·rw [if_pos e];omega
 ·rw [if_neg e]
  have:=acn f ((f+1) / 2) (max 0 ((f+1) % 2)) (by omega)
  omega
section
variable {P:Program} {w:World} {A:Around} {X:Value->Shared->Prop} {s:Shared} {κ:SortKind} {it:Array Keyed} {n:Nat} {lt:Nat->Nat->Bool} {Q:SortSt->Shared->Prop}
theorem akE (W:Ans (kas_cmp P w A κ it) n lt s) (T:Tot n lt) (h2:2<=n) (up:∀ i,i+1<n->lt (i+1) i=false)
  (q:∀ st',arrOf st'=(apo (aow n)).map (kas_item it)->failedOf st'=none->Q st' s):kasC (model P w) A X sortRuns' (fun _ st' s'=>Q st' s') (kas_st κ it (apo (aow n))) s:=by
 obtain⟨r,rfl⟩:∃ r,n=r+2:=⟨n - 2,by omega⟩
 have sz:(apo (aow (r+2))).size=r+2:=by simp
 have szA:(arrOf (kas_st κ it (apo (aow (r+2))))).size=r+2:=by
  show (Array.map _ _).size=_
  rw [arQ,sz]
 have mr:=afj (n:=r+2) (by omega)
 have at_:∀ i,i<r+2->(apo (aow (r+2))).getD i 0=i:=fun i hi=>by simp [ap8,hi]
 have cnt:(kas_count (r+2) (apo (aow (r+2)))).kasWp (kas_cmp P w A κ it) (fun z s'=>z=(r+2,apo (aow (r+2)))/\s'=s) s:=by
  unfold kas_count
  rw [KasT.kasWp_bind]
  refine aaO T W (Pm.range _) (r+2 - 1) 1 (aop _) (by omega) (fun i j a b=>by omega) fun m a b u c=>?_
  have e:m=r+2:=by
   rcases c with c | c
   ·omega
   ·by_cases hm:m<r+2
    ·rw [at_ m hm,at_ (m - 1) (by omega)] at c
     have:=up (m - 1) (by omega)
     rw [show m - 1+1=m by omega,c] at this
     cases this
    ·omega
  subst e
  rw [if_pos (beq_self_eq_true _)]
  exact⟨rfl,rfl⟩
 rw [sortRuns'_eq]
 apply kasC_bind;apply kasC_get
 simp only [szA]
 apply kasC_bind;apply kasC_range
 change kasC _ _ _ (forIn (0 :: 1 :: List.range' 2 r) _ _) _ _ _
 apply kasC_cons
 simp only [Nat.sub_zero,arC,show ¬ (0 >= r+2) by omega,if_false]
 refine kasC_bind (kas_count_ (by omega) (ap5 sz.symm) (fun m p' s' _ _ _ z=>?_) cnt)
 obtain⟨z,rfl⟩:=z
 cases z
 simp only [show ¬ (r+2<minRun' (r+2) (r+2) 0) by omega,if_false]
 apply kasC_bind;apply kasC_get
 change kasC _ _ _ (modify (fun st=>setPending st ((pendingOf st).push (0,r+2,0))) >>= _) _ _ _
 apply kasC_bind;apply kasC_modify;apply kasC_pure
 apply kasC_cons
 simp only [show r+2 >= r+2 from aop _,if_true]
 apply kasC_pure
 apply kasC_bind;apply kasC_range
 change kasC _ _ _ (forIn (0 :: 1 :: List.range' 2 r) _ _) _ _ _
 apply kasC_cons
 apply kasC_bind;apply kasC_get
 rw [if_pos (show (pendingOf (setPending (kas_st κ it (apo (aow (r+2)))) ((pendingOf (kas_st κ it (apo (aow (r+2))))).push (0,r+2,0)))).size<=1 from aop 1)]
 apply kasC_pure
 exact kasC_pure (q _ rfl rfl)
theorem ai0 (W:Ans (kas_cmp P w A κ it) n lt s) (T:Tot n lt) (h2:2<=n) (hs:n<64 \/ ∀ i,i+1<n->lt (i+1) i=false)
  (q:∀ st' p,Pm n p->Up lt p n->arrOf st'=p.map (kas_item it)->failedOf st'=none->Q st' s):kasC (model P w) A X sortRuns' (fun _ st' s'=>Q st' s') (kas_st κ it (apo (aow n))) s:=by
 rcases hs with hs | hs
 ·exact kas_runs h2 hs (G:=fun p s'=>s'=s/\Pm n p/\Up lt p n) (fun p st' s' _ e f ⟨z,a,b⟩=>by subst z;exact q st' p a b e f) (aiZ T W (by omega) fun p a b=>⟨rfl,a,b⟩)
 ·refine akE W T h2 hs fun st' e f=>q st' _ (Pm.range n) (fun i j hij hj=>?_) e f
  have at_:∀ i,i<n->(apo (aow n)).getD i 0=i:=fun i hi=>by simp [ap8,hi]
  rw [at_ i (by omega),at_ j hj]
  have key:∀ d,i+d+1<n->lt i (i+d+1)=true:=fun d=>by
   induction d with
   | zero=>intro hd;rw [T.tri _ _ (by omega) hd (by omega),hs i hd];rfl
   | succ d ih =>
    intro hd
    refine T.tra _ (i+d+1) _ (by omega) (by omega) hd (ih (by omega)) ?_
    rw [T.tri _ _ (by omega) hd (by omega),show i+(d+1)+1=i+d+1+1 by omega,hs (i+d+1) (by omega)]
    rfl
  have:=key (j - i - 1) (by omega)
  rwa [show i+(j - i - 1)+1=j by omega] at this
end
section
variable {P:Program} {w:World} {A:Around} {X:Value->Shared->Prop} {s:Shared} {κ:SortKind} {vs:List Value} {lt:Nat->Nat->Bool}
structure Asks (P:Program) (w:World) (A:Around) (s:Shared) (κ:SortKind) (vs:List Value) (lt:Nat->Nat->Bool):Prop where
 kind:2<=vs.length->∀ (h':Heap),(∀ b o,s.heap.get? b=some o->h'.get? b=some o)->∀ R:SortKind->Shared->Prop,R κ { s with heap:=h' }->wpAny (model P w) A (keyKind' vs.toArray) R (fun _ _=>False) { s with heap:=h' }
 less:∀ (h':Heap),(∀ b o,s.heap.get? b=some o->h'.get? b=some o)->Ans (kas_ask P w A κ vs) vs.length lt { s with heap:=h' }
 ord:Tot vs.length lt
 few:vs.length<64 \/ ∀ i,i+1<vs.length->lt (i+1) i=false
theorem agk {a:Addr} {e:Nat} {R:PySem.Fin->Shared->Prop} (hz:vs.length<=sizeLine) (ha:s.heap.get? a=some (seqObj "list" vs.toArray e)) {h0:Heap} (h0s:∀ b o,h0.get? b=some o->b≠a/\s.heap.get? b=some o) (K:Asks P w A { s with heap:=h0 } κ vs lt)
  (q:∀ (h':Heap) p c,Pm vs.length p->Up lt p vs.length->(∀ b o,b≠a->s.heap.get? b=some o->h'.get? b=some o)->h'.get? a=some (seqObj "list" (p.toList.map fun i=>vs.getD i Value.none).toArray c)->R (.done (.ret .none)) { s with heap:=h' }) :
  wpAny (model P w) A (Builtin.«list.sort» ⟨[.ref a],[]⟩) R X s:=by
 let h1:=s.heap.update a (aqh fun _=>(#[]:Array Value))
 obtain⟨e1,a1⟩:∃ e1,h1.get? a=some (seqObj "list" #[] e1):=⟨_,get?_update_seq ha fun _=>#[]⟩
 let h2':=(h1.push (seqObj "tuple" vs.toArray 0)).push (seqObj "list" #[] 0)
 have a2:h2'.get? a=some (seqObj "list" #[] e1):=aot _ (aot _ a1)
 have k2:∀ b o,b≠a->s.heap.get? b=some o->h2'.get? b=some o:=fun b o nb eb=>aot _ (aot _ ((apH _ _ (apC nb)).trans eb))
 have kz:∀ b o,h0.get? b=some o->h2'.get? b=some o:=fun b o eb=>k2 b o (h0s b o eb).1 (h0s b o eb).2
 rw [list_sort_plain]
 apply wpAny_bind;apply listItems_at ha rfl
 apply wpAny_bind;refine listUpdate_at ha rfl ?_ (by simpa using hz) (ao2 _)
 apply wpAny_bind;apply seqEpoch_at a1 rfl
 apply wpAny_bind;refine wpAny_newTuple ?_ (by simpa using hz)
 apply wpAny_bind;refine wpAny_newList ?_ (ao2 _)
 apply wpAny_holding
 dsimp only
 change wpAny _ A _ _ _ { s with heap:=h2' }
 have st0:SortSt.mk' κ (vs.toArray.zip vs.toArray) #[] 7 none=kas_st κ (pairsOf vs) (apo (aow vs.length)):=by
  have z:=kas_range (pairsOf vs)
  rw [pairsOf_size] at z
  unfold kas_st
  rw [z]
  rfl
 have fin:∀ (st':SortSt) (p:Array Nat),Pm vs.length p->Up lt p vs.length->arrOf st'=p.map (kas_item (pairsOf vs))->failedOf st'=none->wpAny (model P w) A (do
   let sorted:=(arrOf st').map (·.2)
   let touched:=(<- seqEpoch a) != e1
   Builtin.List.listUpdate (.ref a) fun _=>sorted
   if let some e:=failedOf st' then rule "list.sort.comparison-raised";throw e
   if touched then rule "list.sort.modified";raiseError "ValueError" "list modified during sort"
   ret .none) R X { s with heap:=h2' }:=fun st' p x1 x2 x3 x4=>by
  have out:(arrOf st').map (·.2)=(p.toList.map fun i=>vs.getD i Value.none).toArray:=by
   apply Array.toList_inj.mp
   rw [x3,Array.map_map,Array.toList_map]
   refine aqn fun i _=>?_
   show (kas_item (pairsOf vs) i).2=_
   rw [kas_item_eq]
  dsimp only
  rw [out,x4]
  obtain⟨c,a3⟩:∃ c,(h2'.update a (aqh fun _=>(p.toList.map fun i=>vs.getD i Value.none).toArray)).get? a=some (seqObj "list" (p.toList.map fun i=>vs.getD i Value.none).toArray c):=⟨_,get?_update_seq a2 fun _=>(p.toList.map fun i=>vs.getD i Value.none).toArray⟩
  apply wpAny_bind;apply seqEpoch_at a2 rfl
  apply wpAny_bind
  refine listUpdate_at a2 rfl ?_ (ao2 _) (by
   rw [aoD,aog,aoz,x1.size];omega)
  simp only [bne_self_eq_false,aoY,if_false]
  exact wpAny_pure (q _ p c x1 x2 (fun b o nb eb=>(apH _ _ (apC nb)).trans (k2 b o nb eb)) a3)
 by_cases h2:vs.length<2
 ·have two:vs.toArray.size<2:=by rw [aoD];exact h2
  rw [if_pos two,if_pos two]
  apply wpAny_bind;apply wpAny_pure
  apply wpAny_bind
  rw [StateT.run_pure]
  apply wpAny_pure
  have z:=kas_range (pairsOf vs)
  rw [pairsOf_size] at z
  exact fin _ (apo (aow vs.length)) (Pm.range _) (fun i j x y=>by omega) z.symm rfl
 have two:¬ vs.toArray.size<2:=by rw [aoD];exact h2
 rw [if_neg two,if_neg two]
 apply wpAny_bind
 refine wpAny_mono (K.kind (by omega) h2' kz (fun κ' s'=>κ'=κ/\s'={ s with heap:=h2' }) ⟨rfl,rfl⟩) ?_ fun _ _ z=>z.elim
 rintro κ' s' ⟨eκ,es⟩
 rw [eκ,es]
 have W:=K.less h2' kz
 rw [kas_ask_eq] at W
 rw [st0]
 apply wpAny_bind
 refine wpAny_mono (ai0 (Q:=fun st' s'=>s'={ s with heap:=h2' }/\∃ p,Pm vs.length p/\Up lt p vs.length/\arrOf st'=p.map (kas_item (pairsOf vs))/\failedOf st'=none) W K.ord (by omega) K.few fun st' p x1 x2 x3 x4=>⟨rfl,p,x1,x2,x3,x4⟩) ?_ fun _ _ z=>z
 rintro⟨⟨⟩,st'⟩ s' ⟨rfl,p,x1,x2,x3,x4⟩
 exact fin st' p x1 x2 x3 x4
theorem aeg {l:Addr} {Q:Value->Shared->Prop} (hz:vs.length<=sizeLine) (hl:s.heap.IsList l vs.toArray) (K:Asks P w A.in1.in1 s κ vs lt)
  (q:∀ (h':Heap) D p c,Pm vs.length p->Up lt p vs.length->s.heap.objs.size<=D->(∀ b o,s.heap.get? b=some o->h'.get? b=some o)->h'.get? D=some (seqObj "list" (p.toList.map fun i=>vs.getD i Value.none).toArray c)->Q (.ref D) { s with heap:=h' }) :
  wpAny (model P w) A (call (.builtin "sorted") [.ref l]) Q X s:=by
 let h1:=(s.heap.push (seqObj "list" #[] 0)).update s.heap.objs.size (aqh (·++vs.toArray))
 have s1:h1.objs.size=s.heap.objs.size+1:=by rw [Heap.size_update,size_push']
 let h2':=h1.push (seqObj "list" vs.toArray 0)
 have at2:h2'.get? (s.heap.objs.size+1)=some (seqObj "list" vs.toArray 0):=by rw [<-s1];exact aoM _ rfl
 have keep:∀ b o,s.heap.get? b=some o->b≠s.heap.objs.size+1/\h2'.get? b=some o:=fun b o eb=>by
  have lb:=aoB eb
  refine⟨fun z=>?_,aot _ ((apH _ _ fun z=>?_).trans (aot _ eb))⟩
  ·rw [z] at lb;exact apK _ (ar4 lb (arx _))
  ·rw [<-z] at lb;exact apK _ lb
 refine arf kind_sorted plain_sorted entry_sorted (args_sorted1 _) ?_
 unfold Builtin.«sorted»
 apply wpAny_bind (m:=checkCount "sorted" 1 1 _);apply wpAny_pure
 apply wpAny_bind;refine collect_list hl ?_ hz
 apply wpAny_bind;refine wpAny_newList ?_ hz
 change wpAny _ _ _ _ _ { s with heap:=h2' }
 rw [show Value.ref ((s.heap.push (seqObj "list" #[] 0)).update s.heap.objs.size (aqh (·++vs.toArray))).objs.size=Value.ref (s.heap.objs.size+1) from congrArg Value.ref s1]
 apply wpAny_bind;apply wpAny_holding
 refine wpAny_call_entry slot_list_sort ⟨_,at2,rfl⟩ entry_list_sort ?_ (args_list_sort _)
 refine agk (s:={ s with heap:=h2' }) hz at2 (h0:=s.heap) keep K fun h' p c x1 x2 x3 x4=>⟨_,rfl,wpAny_pure ⟨_,rfl,?_⟩⟩
 exact q h' _ p c x1 x2 (asa _) (fun b o eb=>x3 b o (keep b o eb).1 (keep b o eb).2) x4
end
mutual
def zv:PyData->Bool
 | .int _=>true
 | .str s=>(PyData.str s).canLay0
 | .tuple xs=>zK xs
 | _=>false
def zK:List PyData->Bool
 | []=>true
 | x :: xs=>zv x && zK xs
end
mutual
def ltD:PyData->PyData->Bool
 | .int a,.int b=>decide (a<b)
 | .str a,.str b=>decide (a.cps.toList<b.cps.toList)
 | .tuple xs,.tuple ys=>ltL xs ys
 | .int _,.str _=>true
 | .int _,.tuple _=>true
 | .str _,.tuple _=>true
 | _,_=>false
def ltL:List PyData->List PyData->Bool
 | [],[]=>false
 | [],_ :: _=>true
 | _ :: _,[]=>false
 | x :: xs,y :: ys=>if aoH x y=true then ltL xs ys else ltD x y
end
mutual
def v7:PyData->PyData->Bool
 | .int _,.int _=>true
 | .str _,.str _=>true
 | .tuple xs,.tuple ys=>vP xs ys
 | _,_=>false
def vP:List PyData->List PyData->Bool
 | [],_=>true
 | _ :: _,[]=>true
 | x :: xs,y :: ys=>if aoH x y=true then vP xs ys else v7 x y
end
mutual
theorem yE:∀ d:PyData,zv d=true->d.canLay0=true
 | .int _,_=>rfl
 | .str _,h=>h
 | .tuple xs,h=>by rw [PyData.canLay0];exact abq xs (by rw [zv] at h;exact h)
 | .none,h=>by cases h
 | .bool _,h=>by cases h
 | .list _,h=>by cases h
 | .dict _,h=>by cases h
theorem abq:∀ xs:List PyData,zK xs=true->aqE xs=true
 | [],_=>rfl
 | x :: xs,h=>by
  rw [zK,aoo] at h
  rw [aqE,yE x h.1,abq xs h.2]
  rfl
end
mutual
theorem ai1:∀ a b:PyData,zv a=true->zv b=true->aoH a b=true->a=b
 | .int a,.int b,_,_,h=>by simpa [aoH] using h
 | .str a,.str b,_,_,h=>by simpa [aoH] using h
 | .tuple xs,.tuple ys,h1,h2,h=>by rw [agl xs ys (by rw [zv] at h1;exact h1) (by rw [zv] at h2;exact h2) (by rw [aoH] at h;exact h)]
 | .int _,.str _,_,_,h=>by simp [aoH] at h
 | .int _,.tuple _,_,_,h=>by simp [aoH] at h
 | .str _,.int _,_,_,h=>by simp [aoH] at h
 | .str _,.tuple _,_,_,h=>by simp [aoH] at h
 | .tuple _,.int _,_,_,h=>by simp [aoH] at h
 | .tuple _,.str _,_,_,h=>by simp [aoH] at h
 | .none,_,h,_,_=>by cases h
 | .bool _,_,h,_,_=>by cases h
 | .list _,_,h,_,_=>by cases h
 | .dict _,_,h,_,_=>by cases h
 | .int _,.none,_,h,_=>by cases h
 | .int _,.bool _,_,h,_=>by cases h
 | .int _,.list _,_,h,_=>by cases h
 | .int _,.dict _,_,h,_=>by cases h
 | .str _,.none,_,h,_=>by cases h
 | .str _,.bool _,_,h,_=>by cases h
 | .str _,.list _,_,h,_=>by cases h
 | .str _,.dict _,_,h,_=>by cases h
 | .tuple _,.none,_,h,_=>by cases h
 | .tuple _,.bool _,_,h,_=>by cases h
 | .tuple _,.list _,_,h,_=>by cases h
 | .tuple _,.dict _,_,h,_=>by cases h
theorem agl:∀ xs ys:List PyData,zK xs=true->zK ys=true->arq xs ys=true->xs=ys
 | [],[],_,_,_=>rfl
 | [],_ :: _,_,_,h=>by simp [arq] at h
 | _ :: _,[],_,_,h=>by simp [arq] at h
 | x :: xs,y :: ys,h1,h2,h=>by
  rw [zK,aoo] at h1 h2
  rw [arq,aoo] at h
  rw [ai1 x y h1.1 h2.1 h.1,agl xs ys h1.2 h2.2 h.2]
end
theorem aaP {a b:PyData} (ha:zv a=true) (hb:zv b=true):aoH a b=true↔a=b :=
 ⟨ai1 a b ha hb,fun h=>by subst h;exact aqF a (yE a ha)⟩
theorem j7 {x y:PyData} {xs ys:List PyData} (hx:zv x=true) (hy:zv y=true) [Decidable (x=y)]:ltL (x :: xs) (y :: ys)=if x=y then ltL xs ys else ltD x y:=by
 rw [ltL]
 by_cases h:x=y
 ·rw [if_pos ((aaP hx hy).mpr h),if_pos h]
 ·rw [if_neg (fun z=>h ((aaP hx hy).mp z)),if_neg h]
theorem ai2 {a b:List Nat} (h:a≠b):decide (a<b)=!decide (b<a):=by
 by_cases h1:a<b
 ·rw [decide_eq_true h1,decide_eq_false (fun z=>List.lt_irrefl a (List.lt_trans h1 z))]
  rfl
 ·have h2:b<a:=by
   have:b<=a:=List.not_lt.mp h1
   rcases List.le_iff_lt_or_eq.mp this with z | z
   ·exact z
   ·exact absurd z.symm h
  rw [decide_eq_false h1,decide_eq_true h2]
  rfl
theorem amG {a b:Str} (h:a≠b):a.cps.toList≠b.cps.toList:=fun z=>h (by
 cases a;cases b
 simp only [Str.mk.injEq] at *
 exact Array.toList_inj.mp z)
mutual
theorem afk:∀ a b:PyData,zv a=true->zv b=true->a≠b->ltD a b=!ltD b a
 | .int a,b,ha,hb,ne=>by
  cases b with
  | int b =>
   rw [ltD,ltD]
   have:a≠b:=fun z=>ne (by rw [z])
   by_cases h:a<b
   ·rw [decide_eq_true h,decide_eq_false (by omega)];rfl
   ·rw [decide_eq_false h,decide_eq_true (by omega)];rfl
  | str b=>simp [ltD]
  | tuple ys=>simp [ltD]
  | none=>cases hb
  | bool _=>cases hb
  | list _=>cases hb
  | dict _=>cases hb
 | .str a,b,ha,hb,ne=>by
  cases b with
  | int b=>simp [ltD]
  | str b =>
   rw [ltD,ltD]
   exact ai2 (amG fun z=>ne (by rw [z]))
  | tuple ys=>simp [ltD]
  | none=>cases hb
  | bool _=>cases hb
  | list _=>cases hb
  | dict _=>cases hb
 | .tuple xs,b,ha,hb,ne=>by
  cases b with
  | int b=>simp [ltD]
  | str b=>simp [ltD]
  | tuple ys =>
   rw [ltD,ltD]
   rw [zv] at ha hb
   exact agm xs ys ha hb fun z=>ne (by rw [z])
  | none=>cases hb
  | bool _=>cases hb
  | list _=>cases hb
  | dict _=>cases hb
 | .none,_,h,_,_=>by cases h
 | .bool _,_,h,_,_=>by cases h
 | .list _,_,h,_,_=>by cases h
 | .dict _,_,h,_,_=>by cases h
theorem agm:∀ xs ys:List PyData,zK xs=true->zK ys=true->xs≠ys->ltL xs ys=!ltL ys xs
 | [],[],_,_,ne=>absurd rfl ne
 | [],_ :: _,_,_,_=>by simp [ltL]
 | _ :: _,[],_,_,_=>by simp [ltL]
 | x :: xs,y :: ys,h1,h2,ne=>by
  rw [zK,aoo] at h1 h2
  have:=apl (x=y)
  have:=apl (y=x)
  rw [j7 h1.1 h2.1,j7 h2.1 h1.1]
  by_cases e:x=y
  ·rw [if_pos e,if_pos e.symm]
   exact agm xs ys h1.2 h2.2 fun z=>ne (by rw [e,z])
  ·rw [if_neg e,if_neg (apC e)]
   exact afk x y h1.1 h2.1 e
end
mutual
theorem jV:∀ a:PyData,zv a=true->ltD a a=false
 | .int a,_=>by rw [ltD];exact decide_eq_false (Int.lt_irrefl a)
 | .str a,_=>by rw [ltD];exact decide_eq_false (List.lt_irrefl _)
 | .tuple xs,h=>by rw [ltD];rw [zv] at h;exact agn xs h
 | .none,h=>by cases h
 | .bool _,h=>by cases h
 | .list _,h=>by cases h
 | .dict _,h=>by cases h
theorem agn:∀ xs:List PyData,zK xs=true->ltL xs xs=false
 | [],_=>by rw [ltL]
 | x :: xs,h=>by
  rw [zK,aoo] at h
  have:=apl (x=x)
  rw [j7 h.1 h.1,if_pos rfl]
  exact agn xs h.2
end
theorem lt_asymm {a b:PyData} (ha:zv a=true) (hb:zv b=true) (h:ltD a b=true):a≠b:=fun z=>by
 subst z
 rw [jV a ha] at h
 cases h
mutual
theorem abr:∀ a b c:PyData,zv a=true->zv b=true->zv c=true->ltD a b=true->ltD b c=true->ltD a c=true
 | .int a,b,c,ha,hb,hc,h1,h2=>by
  cases b <;> first | (cases hb;done) | skip
  all_goals cases c <;> first | (cases hc;done) | skip
  all_goals first | (simp [ltD] at h1 h2 ⊢;omega) | (simp [ltD] at h1 h2 ⊢;done) | (simp [ltD] at h1;done) | (simp [ltD] at h2;done)
 | .str a,b,c,ha,hb,hc,h1,h2=>by
  cases b <;> first | (cases hb;done) | skip
  all_goals cases c <;> first | (cases hc;done) | skip
  all_goals first | (simp [ltD] at h1;done) | (simp [ltD] at h2;done) | (rw [ltD] at h1 h2 ⊢;exact decide_eq_true (List.lt_trans (of_decide_eq_true h1) (of_decide_eq_true h2))) | (simp [ltD] at h1 h2 ⊢;done)
 | .tuple xs,b,c,ha,hb,hc,h1,h2=>by
  cases b with
  | tuple ys =>
   cases c with
   | tuple zs =>
    rw [ltD] at h1 h2 ⊢
    rw [zv] at ha hb hc
    exact ago xs ys zs ha hb hc h1 h2
   | int _=>simp [ltD] at h2
   | str _=>simp [ltD] at h2
   | none=>cases hc
   | bool _=>cases hc
   | list _=>cases hc
   | dict _=>cases hc
  | int _=>simp [ltD] at h1
  | str _=>simp [ltD] at h1
  | none=>cases hb
  | bool _=>cases hb
  | list _=>cases hb
  | dict _=>cases hb
 | .none,_,_,h,_,_,_,_=>by cases h
 | .bool _,_,_,h,_,_,_,_=>by cases h
 | .list _,_,_,h,_,_,_,_=>by cases h
 | .dict _,_,_,h,_,_,_,_=>by cases h
theorem ago:∀ xs ys zs:List PyData,zK xs=true->zK ys=true->zK zs=true->ltL xs ys=true->ltL ys zs=true->ltL xs zs=true
 | [],ys,[],_,_,_,h1,h2=>by
  cases ys with
  | nil=>exact h1
  | cons y ys=>simp [ltL] at h2
 | [],_,_ :: _,_,_,_,_,_=>by rw [ltL]
 | _ :: _,[],_,_,_,_,h1,_=>by simp [ltL] at h1
 | _ :: _,_ :: _,[],_,_,_,_,h2=>by simp [ltL] at h2
 | x :: xs,y :: ys,z :: zs,p1,p2,p3,h1,h2=>by
  rw [zK,aoo] at p1 p2 p3
  have:=apl (x=y)
  have:=apl (y=z)
  have:=apl (x=z)
  rw [j7 p1.1 p2.1] at h1
  rw [j7 p2.1 p3.1] at h2
  rw [j7 p1.1 p3.1]
  by_cases e1:x=y
  ·rw [if_pos e1] at h1
   by_cases e2:y=z
   ·rw [if_pos e2] at h2
    rw [if_pos (e1.trans e2)]
    exact ago xs ys zs p1.2 p2.2 p3.2 h1 h2
   ·rw [if_neg e2] at h2
    rw [if_neg (fun q=>e2 (e1.symm.trans q)),e1]
    exact h2
  ·rw [if_neg e1] at h1
   by_cases e2:y=z
   ·rw [if_neg (fun q=>e1 (q.trans e2.symm)),<- e2]
    exact h1
   ·rw [if_neg e2] at h2
    have h3:=abr x y z p1.1 p2.1 p3.1 h1 h2
    rw [if_neg (lt_asymm p1.1 p3.1 h3)]
    exact h3
end
end L2
end
section
namespace L2
open PySem PySem.Spec PyProof.Rows PySem.SeqAt
open PySem.AutoSeq1 (wpAny_loadPart')
open PySem.MeetsSeq PySem.MeetsSeq2 PySem.MeetsSeq3
def anD (A:Around) (s:Shared) (y x:Value) (b:Bool):Prop :=
 ∀ (prog:Program) (w:World) (E:Value->Shared->Prop) (Q:Value->Shared->Prop),Q (.bool b) s->wpAny (model prog w) A (richCompare .Lt y x) Q E s
inductive Lex (A:Around) (s:Shared):List Value->List Value->Bool->Prop where
 | nn:Lex A s [] [] false
 | nc {w ws}:Lex A s [] (w :: ws) true
 | cn {v vs}:Lex A s (v :: vs) [] false
 | eq {v w vs ws b}:EqAt A s v w true->Lex A s vs ws b->Lex A s (v :: vs) (w :: ws) b
 | lt {v w vs ws b}:EqAt A s v w false->anD A s v w b->Lex A s (v :: vs) (w :: ws) b
theorem ac1 (l m:Addr) (xs ys:Array Value) (n n2:Nat) (dd dd2:Option Addr) (sl sl2:Array (Option Value)) (c:Bool) :
  Meets (Builtin.«tuple.__lt__» ⟨[.ref l,.ref m],[]⟩)
   (fun A R s=>s.heap.get? l=some { cls:=.type "tuple",dict:=dd,data:=.seq xs n,slots:=sl }/\s.heap.get? m=some { cls:=.type "tuple",dict:=dd2,data:=.seq ys n2,slots:=sl2 } /\
    Lex A.in1 s xs.toList ys.toList c/\R (.ok (.ret (.bool c))) s) :=
 .of_wp fun prog w A R s h=>by
  obtain⟨hp,g,d,tk,os⟩:=s;obtain⟨hl,hb,hx,h⟩:=h
  have f2:=AutoSeq1.sub_tuple_tuple
  wp_walk using wpAny_loadPart' hl,wpAny_loadPart' hb,wpAny_forIn_list _ (fun rest b s'=>b.1=none/\s'=⟨hp,g,d,tk,os⟩/\∃ (vs ws:List Value),rest=vs.zip ws/\Lex A.in1 ⟨hp,g,d,tk,os⟩ vs ws c/\vs.length+ys.size=ws.length+xs.size) _
  case turn =>
   rintro⟨y,x⟩ rest b s' ⟨hb',rfl,vs,ws,hz,lx,hn⟩
   cases lx with
   | nn=>cases hz
   | nc=>cases hz
   | cn=>cases hz
   | eq he lx' =>
    rw [ap9] at hz
    cases hz
    refine wpAny_bind (he prog w _ _ ?_)
    wp_walk
    exact⟨rfl,rfl,_,_,rfl,lx',by simp only [aoE] at hn;omega⟩
   | lt he hlt =>
    rw [ap9] at hz
    cases hz
    refine wpAny_bind (he prog w _ _ ?_)
    have hri:=hlt prog w
    wp_walk using hri
    exact⟨_,rfl,h⟩
  case fin =>
   rintro⟨b1,b2⟩ s' ⟨hb',rfl,vs,ws,hz,lx,hn⟩
   simp only at hb'
   subst hb'
   have hv:decide (xs.size<ys.size)=c:=by
    cases lx with
    | nn=>simp only [apT] at hn;exact decide_eq_false (by omega)
    | nc=>simp only [apT,aoE] at hn;exact decide_eq_true (by omega)
    | cn=>simp only [apT,aoE] at hn;exact decide_eq_false (by omega)
    | eq _ _=>cases hz
    | lt _ _=>cases hz
   wp_walk
   rw [<-hv] at h
   exact⟨_,rfl,by simpa [Builtin.Tuple.tupleCompareSizes] using h⟩
  case h=>exact⟨rfl,rfl,_,_,rfl,hx,by simp only [aoz];omega⟩
mutual
theorem aeh:∀ (da db:PyData) (A:Around) (s:Shared) (a b:Value) (as bs:List Addr),Reads s.heap a da as->Reads s.heap b db bs->zv da=true->zv db=true->v7 da db=true ->
  A.units+max da.depth db.depth<cLine->anD A s a b (ltD da db)
 | .int x,db,A,s,_,_,_,_,ra,rb,_,_,hc,hu=>by
  cases ra with
  | int _ t =>
   cases db with
   | int y =>
    cases rb with
    | int _ u =>
     intro prog w E Q q
     exact HT.rcLt_int A s x t y u prog w E Q (by rw [ltD] at q;exact q)
   | _=>cases hc
 | .str x,db,A,s,_,_,_,_,ra,rb,_,_,hc,hu=>by
  cases ra with
  | str _ t =>
   cases db with
   | str y =>
    cases rb with
    | str _ u =>
     intro prog w E Q q
     exact (PyProof.Rows.lt_str (by rw [ltD] at q;exact q):wpAny (model prog w) A (compareOp .Lt (.str x t) (.str y u)) Q E s)
   | _=>cases hc
 | .tuple xs,db,A,s,_,_,_,_,ra,rb,pa,pb,hc,hu=>by
  cases ra with
  | @tuple l o vs n _ as h1 h2 h3 h4 =>
   cases db with
   | tuple ys =>
    cases rb with
    | @tuple m o2 ws n2 _ bs k1 k2 k3 k4 =>
     intro prog w E Q q
     obtain⟨cls,dd,data,sl⟩:=o
     obtain⟨cls2,dd2,data2,sl2⟩:=o2
     simp only at h2 h3 k2 k3
     subst h2 h3 k2 k3
     rw [zv] at pa pb
     rw [v7] at hc
     rw [ltD] at q
     have hd:A.in1.units+max (aoy xs) (aoy ys)<cLine:=by
      have e1:(PyData.tuple xs).depth=aoy xs+1:=rfl
      have e2:(PyData.tuple ys).depth=aoy ys+1:=rfl
      have e3:A.in1.units=A.units+1:=rfl
      rw [e1,e2] at hu
      omega
     have lx:=aco xs ys A.in1 s _ _ _ _ h4 k4 pa pb hc hd
     exact richCompare_meets_room (op:=.Lt) ⟨_,h1,rfl⟩ ⟨_,k1,rfl⟩ PySem.F.slot_tuple_lt PySem.F.entry_tuple_lt (PySem.F.args_tuple_lt_2 _ _) (ac1 l m vs ws n n2 dd dd2 sl sl2 (ltL xs ys))
      ⟨h1,k1,lx,show Value.bool (ltL xs ys)≠Value.notImplemented/\Q (.bool (ltL xs ys)) s from⟨(fun x=>nomatch x),q⟩⟩ (by omega)
   | _=>cases hc
 | .none,_,_,_,_,_,_,_,_,_,h,_,_,_=>by cases h
 | .bool _,_,_,_,_,_,_,_,_,_,h,_,_,_=>by cases h
 | .list _,_,_,_,_,_,_,_,_,_,h,_,_,_=>by cases h
 | .dict _,_,_,_,_,_,_,_,_,_,h,_,_,_=>by cases h
theorem aco:∀ (xs ys:List PyData) (A:Around) (s:Shared) (vs ws:List Value) (as bs:List Addr),ReadsAll s.heap vs xs as->ReadsAll s.heap ws ys bs->zK xs=true->zK ys=true->vP xs ys=true ->
  A.units+max (aoy xs) (aoy ys)<cLine->Lex A s vs ws (ltL xs ys)
 | [],[],_,_,_,_,_,_,ra,rb,_,_,_,_=>by cases ra;cases rb;rw [ltL];exact .nn
 | [],_ :: _,_,_,_,_,_,_,ra,rb,_,_,_,_=>by cases ra;cases rb;rw [ltL];exact .nc
 | _ :: _,[],_,_,_,_,_,_,ra,rb,_,_,_,_=>by cases ra;cases rb;rw [ltL];exact .cn
 | x :: xs,y :: ys,A,s,_,_,_,_,ra,rb,pa,pb,hc,hu=>by
  cases ra with
  | cons r rs =>
   cases rb with
   | cons r' rs' =>
    rw [zK,aoo] at pa pb
    rw [vP] at hc
    rw [ltL]
    have e1:aoy (x :: xs)=max x.depth (aoy xs):=rfl
    have e2:aoy (y :: ys)=max y.depth (aoy ys):=rfl
    rw [e1,e2] at hu
    have eq:=eqAt_reads x y A s _ _ _ _ r r' (yE x pa.1) (yE y pb.1) (by omega)
    by_cases e:aoH x y=true
    ·rw [if_pos e] at hc ⊢
     rw [e] at eq
     exact .eq eq (aco xs ys A s _ _ _ _ rs rs' pa.2 pb.2 hc (by omega))
    ·rw [if_neg e] at hc ⊢
     rw [Bool.not_eq_true] at e
     rw [e] at eq
     exact .lt eq (aeh x y A s _ _ _ _ r r' pa.1 pb.1 hc (by omega))
end
end L2
end
section
namespace L2
open PySem PySem.Spec PyProof.Rows PySem.SeqAt PySem.W
section
variable {P:Program} {w:World} {A:Around} {s:Shared} {b:Bool} {Q:Bool->Shared->Prop}
theorem ac2 {fin:Bool} {x y:PyData} {p q:Value} {r:List (Value×Value)} {i:Nat} {as bs:List Addr} {c:Bool} (rx:Reads s.heap p x as) (ry:Reads s.heap q y bs) (px:zv x=true) (py:zv y=true) (hu:A.units+max x.depth y.depth<cLine)
  (h1:aoH x y=true->KatLex P w A b fin Q r (i+1) s) (h2:aoH x y=false->wpAny (model P w) A (oneLt' (b && i == 0) p q) Q (fun _ _=>False) s):KatLex P w A b fin Q ((p,q) :: r) i s:=by
 refine kat_cons (eqAt_reads x y A s _ _ _ _ rx ry (yE x px) (yE y py) (by omega) P w _ _ ?_)
 exact kat_go (fun e=>kat_yes (h1 e)) fun e=>kat_no (h2 e)
theorem v8 {m n:Nat}:∀ (xs ys:List PyData) (vs ws:List Value) (as bs:List Addr) (i:Nat),(1<=i \/ b=false)->ReadsAll s.heap vs xs as->ReadsAll s.heap ws ys bs->zK xs=true->zK ys=true->vP xs ys=true ->
  A.units+max (aoy xs) (aoy ys)<cLine->xs.length+n=ys.length+m->Q (ltL xs ys) s->KatLex P w A b (decide (m<n)) Q (vs.zip ws) i s
 | [],[],_,_,_,_,i,_,ra,rb,_,_,_,_,hl,q=>by
  cases ra;cases rb
  rw [ltL] at q
  simp only [apT] at hl
  rw [decide_eq_false (show ¬ m<n by omega)]
  exact kat_nil q
 | [],y :: ys,_,_,_,_,i,_,ra,rb,_,_,_,_,hl,q=>by
  cases ra;cases rb
  rw [ltL] at q
  simp only [apT,aoE] at hl
  rw [decide_eq_true (show m<n by omega)]
  exact kat_nil q
 | x :: xs,[],_,_,_,_,i,_,ra,rb,_,_,_,_,hl,q=>by
  cases ra;cases rb
  rw [ltL] at q
  simp only [apT,aoE] at hl
  rw [decide_eq_false (show ¬ m<n by omega),List.zip_nil_right]
  exact kat_nil q
 | x :: xs,y :: ys,_,_,_,_,i,hi,ra,rb,pa,pb,hc,hu,hl,q=>by
  cases ra with
  | cons r rs =>
   cases rb with
   | cons r' rs' =>
    rw [zK,aoo] at pa pb
    rw [vP] at hc
    rw [ltL] at q
    have e1:aoy (x :: xs)=max x.depth (aoy xs):=rfl
    have e2:aoy (y :: ys)=max y.depth (aoy ys):=rfl
    rw [e1,e2] at hu
    simp only [aoE] at hl
    rw [ap9]
    refine ac2 (c:=true) r r' pa.1 pb.1 (by omega) (fun e=>?_) fun e=>?_
    ·rw [if_pos e] at hc q
     exact v8 xs ys _ _ _ _ (i+1) (.inl (by omega)) rs rs' pa.2 pb.2 hc (by omega) (by omega) q
    ·rw [if_neg (by rw [e];exact aoi)] at hc q
     have ef:(b && i == 0)=false:=by
      rcases hi with hi | hi
      ·rw [show (i == 0)=false from beq_eq_false_iff_ne.mpr (by omega),aq7]
      ·rw [hi];rfl
     rw [ef]
     exact kat_one _ _ (aeh x y A s _ _ _ _ r r' pa.1 pb.1 hc (by omega) P w _ _ q)
end
def j8:PyData->Option String
 | .tuple (.int _ :: _)=>some "int"
 | .tuple (.str _ :: _)=>some "str"
 | .tuple (.tuple _ :: _)=>some "tuple"
 | _=>none
structure SortOk (T:String) (ds:List PyData):Prop where
 plain:∀ d∈ds,zv d=true
 head:∀ d∈ds,j8 d=some T
 cmp:∀ d∈ds,∀ e∈ds,v7 d e=true
 depth:∀ d∈ds,d.depth<=50
 nd:ds.Nodup
theorem qQ {d:PyData} {T:String} (h:j8 d=some T):∃ x xs,d=.tuple (x :: xs)/\((T="int"/\∃ n,x=.int n) \/ (T="str"/\∃ n,x=.str n) \/ (T="tuple"/\∃ n,x=.tuple n)):=by
 unfold j8 at h
 split at h
 ·cases h;exact⟨_,_,rfl,.inl ⟨rfl,_,rfl⟩⟩
 ·cases h;exact⟨_,_,rfl,.inr (.inl ⟨rfl,_,rfl⟩)⟩
 ·cases h;exact⟨_,_,rfl,.inr (.inr ⟨rfl,_,rfl⟩)⟩
 ·cases h
section
variable {P:Program} {w:World} {A:Around} {s:Shared} {T:String}
theorem amH {d e:PyData} {v u:Value} {as bs:List Addr} {C:Bool->Shared->Prop} (rd:Reads s.heap v d as) (re:Reads s.heap u e bs) (pd:zv d=true) (pe:zv e=true) (hd:j8 d=some T) (he:j8 e=some T) (hc:v7 d e=true)
  (hu:A.units+60<cLine) (d1:d.depth<=50) (d2:e.depth<=50) (q:C (ltD d e) s):wpAny (model P w) A (keyLt' (tuples' (Value.type T != Value.type "tuple")) v u) C (fun _ _=>False) s:=by
 obtain⟨x,xs,rfl,hx⟩:=qQ hd
 obtain⟨y,ys,rfl,hy⟩:=qQ he
 cases rd with
 | @tuple l o vs n _ as h1 h2 h3 h4 =>
  cases re with
  | @tuple m o2 ws n2 _ bs k1 k2 k3 k4 =>
   have l1:=aqK _ _ _ h4
   have l2:=aqK _ _ _ k4
   rw [aoz] at l1 l2
   refine kat_lt h1 h3 k1 k3 ?_
   rw [zv] at pd pe
   rw [v7] at hc
   rw [ltD] at q
   have e1:(PyData.tuple (x :: xs)).depth=aoy (x :: xs)+1:=rfl
   have e2:(PyData.tuple (y :: ys)).depth=aoy (y :: ys)+1:=rfl
   have e3:aoy (x :: xs)=max x.depth (aoy xs):=rfl
   have e4:aoy (y :: ys)=max y.depth (aoy ys):=rfl
   rcases hx with⟨rfl,nx,rfl⟩ | ⟨rfl,nx,rfl⟩ | ⟨rfl,nx,rfl⟩
   ·obtain⟨ny,rfl⟩:∃ ny,y=.int ny:=by
     rcases hy with⟨_,h⟩ | ⟨z,_⟩ | ⟨z,_⟩
     ·exact h
     ·exact absurd z (by decide)
     ·exact absurd z (by decide)
    obtain⟨vl⟩:=vs
    obtain⟨wl⟩:=ws
    cases h4 with
    | cons r rs =>
     cases k4 with
     | cons r' rs' =>
      rw [zK,aoo] at pd pe
      rw [vP] at hc
      rw [ltL] at q
      rw [ap9]
      refine ac2 (c:=true) r r' rfl rfl (by omega) (fun e=>?_) fun e=>?_
      ·rw [if_pos e] at hc q
       exact v8 xs ys _ _ _ _ 1 (.inl (aop 1)) rs rs' pd.2 pe.2 hc (by omega) (by simp only [aoE] at l1 l2;omega) q
      ·rw [if_neg (by rw [e];exact aoi)] at q
       rw [show ((Value.type "int" != Value.type "tuple") && (0 == 0))=true by decide]
       cases r
       cases r'
       rw [ltD] at q
       exact oneLt_int q
   ·obtain⟨ny,rfl⟩:∃ ny,y=.str ny:=by
     rcases hy with⟨z,_⟩ | ⟨_,h⟩ | ⟨z,_⟩
     ·exact absurd z (by decide)
     ·exact h
     ·exact absurd z (by decide)
    obtain⟨vl⟩:=vs
    obtain⟨wl⟩:=ws
    cases h4 with
    | cons r rs =>
     cases k4 with
     | cons r' rs' =>
      rw [zK,aoo] at pd pe
      rw [vP] at hc
      rw [ltL] at q
      rw [ap9]
      refine ac2 (c:=true) r r' pd.1 pe.1 (by omega) (fun e=>?_) fun e=>?_
      ·rw [if_pos e] at hc q
       exact v8 xs ys _ _ _ _ 1 (.inl (aop 1)) rs rs' pd.2 pe.2 hc (by omega) (by simp only [aoE] at l1 l2;omega) q
      ·rw [if_neg (by rw [e];exact aoi)] at q
       rw [show ((Value.type "str" != Value.type "tuple") && (0 == 0))=true by decide]
       cases r
       cases r'
       rw [ltD] at q
       exact oneLt_str q
   ·exact v8 _ _ _ _ _ _ 0 (.inr (by decide)) h4 k4 pd pe hc (by omega) (by rw [l1,l2];omega) q
theorem ReadsAll.at {h:Heap}:∀ {vs:List Value} {ds:List PyData} {as:List Addr},ReadsAll h vs ds as->∀ i,i<ds.length->∃ bs,Reads h (vs.getD i Value.none) (ds.getD i .none) bs
 | _,_,_,.nil,i,hi=>absurd hi (apz _)
 | _,_,_,.cons r rs,0,_=>⟨_,r⟩
 | _,_,_,.cons r rs,i+1,hi=>ReadsAll.at rs i (Nat.lt_of_succ_lt_succ hi)
theorem ReadsAll.keep {h h':Heap} (k:∀ b o,h.get? b=some o->h'.get? b=some o):∀ {vs:List Value} {ds:List PyData} {as:List Addr},ReadsAll h vs ds as->ReadsAll h' vs ds as
 | _,_,_,.nil=>.nil
 | _,_,_,.cons r rs=>.cons (PyProof.Rows.Reads.keeps k r) (ReadsAll.keep k rs)
theorem agp {h:Heap}:∀ {vs:List Value} {ds:List PyData} {as:List Addr},ReadsAll h vs ds as->(∀ d∈ds,j8 d=some T)->∃ fs,KatTups h vs fs/\fs.length=vs.length/\∀ v∈fs,Looks (model P w) h (typeOf v) (.type T)
 | _,_,_,.nil,_=>⟨[],.nil,rfl,fun _ h=>nomatch h⟩
 | _,d :: ds,_,.cons r rs,hh=>by
  obtain⟨fs,h1,h2,h3⟩:=agp rs fun d hd=>hh d (aon _ hd)
  obtain⟨x,xs,rfl,hx⟩:=qQ (hh d aom)
  cases r with
  | @tuple l o vs n _ as k1 k2 k3 k4 =>
   obtain⟨vl⟩:=vs
   cases k4 with
   | @cons v0 vs0 _ _ _ _ r0 rs0 =>
    refine⟨v0 :: fs,.cons k1 k2 k3 rfl h1,by simp [h2],fun v hv=>?_⟩
    rcases aor.mp hv with rfl | hv
    ·rcases hx with⟨rfl,nx,rfl⟩ | ⟨rfl,nx,rfl⟩ | ⟨rfl,nx,rfl⟩
     ·cases r0;exact Looks.of_pure rfl
     ·cases r0;exact Looks.of_pure rfl
     ·cases r0 with
      | tuple q1 q2 q3 q4=>rw [<-q2];exact (Looks.ld q1).andThen .now
    ·exact h3 v hv
theorem amI {ds:List PyData} (ok:SortOk T ds):Tot ds.length fun i j=>ltD (ds.getD i .none) (ds.getD j .none):=by
 have mem:∀ i,i<ds.length->ds.getD i .none∈ds:=fun i hi=>by
  rw [aok,aof hi]
  exact aoQ hi
 refine⟨fun i j hi hj ne=>afk _ _ (ok.plain _ (mem i hi)) (ok.plain _ (mem j hj)) fun z=>ne ?_,fun i j k hi hj hk=>abr _ _ _ (ok.plain _ (mem i hi)) (ok.plain _ (mem j hj)) (ok.plain _ (mem k hk))⟩
 rw [aok,aok,aof hi,aof hj] at z
 exact (aqL ok.nd).mp z
theorem agq {vs:List Value} {ds:List PyData} {as:List Addr} (ra:ReadsAll s.heap vs ds as) (ok:SortOk T ds) (hu:A.units+60<cLine) (few:ds.length<64 \/ ds.Pairwise fun d e=>ltD d e=true) :
  Asks P w A s (tuples' (Value.type T != Value.type "tuple")) vs fun i j=>ltD (ds.getD i .none) (ds.getD j .none):=by
 have len:=aqK _ _ _ ra
 have mem:∀ i,i<ds.length->ds.getD i .none∈ds:=fun i hi=>by
  rw [aok,aof hi]
  exact aoQ hi
 refine⟨fun h2 h' k R q=>?_,fun h' k i j C hi hj q=>?_,by rw [len];exact amI ok,?_⟩
 ·obtain⟨fs,f1,f2,f3⟩:=agp (P:=P) (w:=w) (ReadsAll.keep k ra) ok.head
  exact kat_kind f1 (by omega) f3 (beq_self_eq_true _) q
 ·rw [len] at hi hj
  obtain⟨b1,r1⟩:=ReadsAll.at (ReadsAll.keep k ra) i hi
  obtain⟨b2,r2⟩:=ReadsAll.at (ReadsAll.keep k ra) j hj
  exact amH r1 r2 (ok.plain _ (mem i hi)) (ok.plain _ (mem j hj)) (ok.head _ (mem i hi)) (ok.head _ (mem j hj)) (ok.cmp _ (mem i hi) _ (mem j hj)) hu (ok.depth _ (mem i hi)) (ok.depth _ (mem j hj)) q
 ·rw [len]
  refine few.imp id fun pw i hi=>?_
  have h1:=apq.mp pw i (i+1) (by omega) hi (by omega)
  have g:∀ j (hj:j<ds.length),ds.getD j .none=ds[j]:=fun j hj=>by rw [aok,aof hj];rfl
  rw [g _ hi,g i (by omega)]
  have ne:=lt_asymm (ok.plain _ (aoQ _)) (ok.plain _ (aoQ _)) h1
  have:=afk _ _ (ok.plain _ (aoQ _)) (ok.plain _ (aoQ _)) ne
  rw [h1] at this
  revert this
  cases ltD ds[i+1] ds[i] <;> simp
end
def pick {α:Type} (d:α) (p:Array Nat) (xs:List α):List α:=p.toList.map fun i=>xs.getD i d
theorem agr:∀ {xs:List V} {us:List Value},Vals xs us->∀ i,RelV (xs.getD i .non) (us.getD i Value.none)
 | _,_,.nil,i=>rfl
 | _,_,.cons r t,0=>r
 | _,_,.cons r t,i+1=>agr t i
theorem acp {xs:List V} {us:List Value} (r:Vals xs us) (p:Array Nat):Vals (pick .non p xs) (pick Value.none p us):=by
 unfold pick
 induction p.toList with
 | nil=>exact .nil
 | cons i l ih=>exact .cons (agr r i) ih
theorem ags {K:aol} {H:Hp}:∀ {ds:List PyData} {xs:List V},Reps K H ds xs->∀ i,Rep K H (ds.getD i .none) (xs.getD i .non)
 | [],xs,r,i=>by
  rw [reps_nil.mp r]
  exact rep_none.mpr rfl
 | d :: ds,xs,r,i=>by
  obtain⟨x,xs',rfl,r1,r2⟩:=reps_cons.mp r
  cases i with
  | zero=>exact r1
  | succ i=>exact ags r2 i
theorem acq {K:aol} {H:Hp} {ds:List PyData} {xs:List V} (r:Reps K H ds xs) (p:Array Nat):Reps K H (pick .none p ds) (pick .non p xs):=by
 unfold pick
 induction p.toList with
 | nil=>exact .nil'
 | cons i l ih=>exact .cons' (ags r i) ih
theorem acr {α:Type} {d:α} {n:Nat} {p:Array Nat} {xs:List α} (h:Pm n p) (hn:n=xs.length):(pick d p xs).Perm xs:=by
 have e:(aow n).map (fun i=>xs.getD i d)=xs:=by
  subst hn
  refine aqf fun i=>?_
  rw [aoq]
  by_cases hi:i<xs.length
  ·rw [apF hi,aof hi]
   simp [hi]
  ·rw [aoP (by simp;omega),aoP (by omega)]
   rfl
 have:=h.map fun i=>xs.getD i d
 rw [e] at this
 exact this
theorem agt {n:Nat} {p:Array Nat} {ds:List PyData} (h:Pm n p) (u:Up (fun i j=>ltD (ds.getD i .none) (ds.getD j .none)) p n):(pick .none p ds).Pairwise fun d e=>ltD d e=true:=by
 unfold pick
 rw [apr]
 refine apq.mpr fun i j hi hj hij=>?_
 have hs:=h.size
 rw [aoz] at hi hj
 have:=u i j hij (by omega)
 have g:∀ k (hk:k<p.toList.length),p.getD k 0=p.toList[k]:=fun k hk=>by
  rw [jF,aok,aof hk]
  rfl
 rw [g i (by simpa using hi),g j (by simpa using hj)] at this
 exact this
def ac3 (K:aol):List V->Hp->VK->Prop:=fun xs H Q=>∃ (a:Addr) (vs:List V) (ds:List PyData) (T:String),xs=[.ref a]/\SqL K H a vs/\Reps K H ds vs/\SortOk T ds/\ds.length<=1000/\(ds.length<64 \/ ds.Pairwise fun d e=>ltD d e=true) /\
 ∀ l p,H l=none->Pm ds.length p->Up (fun i j=>ltD (ds.getD i .none) (ds.getD j .none)) p ds.length->Q (.ref l) (upd H l (.lst (pick .non p vs)))
theorem ac4 {X:Cx} (hu:X.A.units+64<cLine):yy X (.builtin "sorted") (ac3 X.K):=by
 intro pins s σ H xs us Q I r h
 obtain⟨a,vs,ds,T,rfl,ha,rd,ok,hl,few,q⟩:=h
 obtain⟨u,rfl,rx⟩:=vals1 r
 cases rx
 obtain⟨its,rv,pl,hz⟩:=I.list ha
 have le:=rv.length
 have ld:=rd.length
 obtain⟨as,ra⟩:=jc I ds vs its rd rv
 have e2:X.A.in1.in1.units=X.A.units+1+1:=rfl
 have lt':its.length=ds.length:=by omega
 refine aeg (by omega) pl.isList (agq ra ok (by omega) few) fun h' D p c x1 x2 x3 x4 x5=>?_
 rw [lt'] at x1 x2
 have hD:H D=none:=I.hok.fresh x3
 have lp:p.toList.length=ds.length:=by rw [aoz];exact x1.size
 exact⟨.ref D,upd H D (.lst (pick .non p vs)),I.laid (t':=s.toks) x4 x3 ⟨by unfold pick;rw [aog];omega,pick Value.none p its,c,acp rv p,x5⟩,rfl,q D p hD x1 x2⟩
theorem ac5 {X:Cx} {K:aol} (hK:X.K=K) (hu:X.A.units+64<cLine):yy X (.builtin "sorted") (ac3 K):=hK▸ac4 hu
section
variable {K:aol} {f:Fx} {ρ:zq} {P:List PyData->Prop} {te:TE}
theorem ai3 (T:String) (h:PEd K f te ρ fun x=>∃ ds,x=.list ds/\SortOk T ds/\ds.length<=1000/\(ds.length<64 \/ ds.Pairwise fun d e=>ltD d e=true)/\∀ es,es.Perm ds->(es.Pairwise fun d e=>ltD d e=true)->P es) :
  PEdO K f (tCB (ac3 K) (yO te vt)) ρ P:=fun σ H Q e q=>h σ H _ e fun x v H1 g1 r1 ⟨ds,ex,ok,hl,few,p⟩=>by
 subst ex
 obtain⟨a,xs,rfl,h1,h2⟩:=rep_list.mp r1
 refine⟨a,xs,ds,T,rfl,(zk _ _).seq h1,Reps.mono (zk _ _) _ _ h2,ok,hl,few,fun l pm hn m u=>?_⟩
 have g2:Goes f H1 (upd H1 l (.lst (pick .non pm xs))):=.of_same (z9 hn _) g1.2
 refine q (pick .none pm ds) l _ _ (g1.trans g2) (g1.free e.fd hn) zy (Reps.mono (fun b o hb=>?_) _ _ (acq h2 pm)) (p _ (acr m rfl) (agt m u))
 have hb':=zN hb
 have hbl:b≠l:=fun z=>by
  have:=hb'.2
  rw [z,hn] at this
  cases this
 refine zF (fun z=>?_) (by rw [zu hbl];exact hb'.2)
 rcases z with z | z
 ·exact hb'.1 (.inl z)
 ·rcases aor.mp z with z | z
  ·exact hbl z
  ·exact hb'.1 (.inr z)
end
end L2
end
section
namespace L2.ST
open PySem PySem.SetTable
def aei (xs:Array Nat):Prop:=∀ i j,i<j->j<xs.size->xs.getD i 0<xs.getD j 0
theorem ai4 {xs:Array Nat} {i d e:Nat} (h:i<xs.size):xs.getD i d=xs.getD i e:=by simp [ap8,h]
theorem abt {xs:Array Nat} {j:Nat}:∀ f lo hi,hi - lo<=f->lo<=hi->hi<=xs.size->(∀ i,i<lo->xs.getD i 0<j)->(∀ i,hi<=i->i<xs.size->j<=xs.getD i 0)->aei xs ->
  lo<=below.go xs j f lo hi/\below.go xs j f lo hi<=hi/\(∀ i,i<below.go xs j f lo hi->xs.getD i 0<j)/\(∀ i,below.go xs j f lo hi<=i->i<xs.size->j<=xs.getD i 0)
 | 0,lo,hi,hf,hl,hh,a,b,r=>by
  obtain rfl:lo=hi:=by omega
  exact⟨aop _,aop _,a,b⟩
 | f+1,lo,hi,hf,hl,hh,a,b,r=>by
  unfold below.go
  by_cases h:lo<hi
  ·rw [if_pos h]
   have hm:(lo+hi) / 2<xs.size:=by omega
   simp only
   rw [ai4 (e:=0) hm]
   by_cases h2:xs.getD ((lo+hi) / 2) 0<j
   ·rw [if_pos h2]
    have:=abt f ((lo+hi) / 2+1) hi (by omega) (by omega) hh (fun i hi'=>by
     by_cases e:i=(lo+hi) / 2
     ·rw [e];exact h2
     ·exact ar4 (r i _ (by omega) hm) h2) b r
    exact⟨by omega,this.2.1,this.2.2⟩
   ·rw [if_neg h2]
    have:=abt f lo ((lo+hi) / 2) (by omega) (by omega) (by omega) a (fun i hi' hs=>by
     by_cases e:i=(lo+hi) / 2
     ·rw [e];omega
     ·have:=r ((lo+hi) / 2) i (by omega) hs;omega) r
    exact⟨this.1,by omega,this.2.2⟩
  ·rw [if_neg h]
   obtain rfl:lo=hi:=by omega
   exact⟨aop _,aop _,a,b⟩
theorem aej {xs:Array Nat} (r:aei xs) (j:Nat):below xs j<=xs.size/\(∀ i,i<below xs j->xs.getD i 0<j)/\(∀ i,below xs j<=i->i<xs.size->j<=xs.getD i 0):=by
 have:=abt (xs:=xs) (j:=j) xs.size 0 xs.size (by omega) (ao2 _) (aop _) (fun i hi=>absurd hi (apz _)) (fun i a b=>by omega) r
 exact this.2
theorem below_at {xs:Array Nat} (r:aei xs) {i:Nat} (hi:i<xs.size):below xs (xs.getD i 0)=i:=by
 obtain⟨a,b,c⟩:=aej r (xs.getD i 0)
 by_cases h:below xs (xs.getD i 0)<i
 ·have h1:=c _ (aop _) (by omega)
  have h2:=r _ i h hi
  omega
 ·by_cases h2:i<below xs (xs.getD i 0)
  ·have:=b i h2;omega
  ·omega
def Tk (t:SetTable) (j:Nat):Prop:=∃ i,i<t.place.size/\t.place.getD i 0=j
theorem slot_live {t:SetTable} (r:aei t.place) {i:Nat} (hi:i<t.place.size):t.slot (t.place.getD i 0)=.live i:=by
 unfold slot
 simp only
 rw [below_at r hi]
 have:(t.place[i]? == some (t.place.getD i 0))=true:=by simp [ap8,hi]
 rw [if_pos this]
theorem ahy {t:SetTable} (d:t.dummies=#[]) {j:Nat} (h:¬ Tk t j):t.slot j=.empty:=by
 unfold slot
 simp only
 have h1:¬ (t.place[below t.place j]? == some j)=true:=fun e=>h (by
  have e2:=eq_of_beq e
  obtain⟨hl,e3⟩:=Array.getElem?_eq_some_iff.mp e2
  exact⟨_,hl,by simp [ap8,hl,e3]⟩)
 rw [if_neg h1]
 have h2:has t.dummies j=false:=by rw [d];rfl
 rw [h2]
 rfl
def road (mask:Nat) (h:Int):Nat->Probe
 | 0=>{ j:=bits h % (mask+1),more:=runEnd mask (bits h % (mask+1)) - bits h % (mask+1),i:=bits h % (mask+1),perturb:=bits h,dummy:=none }
 | k+1=>if (road mask h k).more > 0 then { road mask h k with j:=(road mask h k).j+1,more:=(road mask h k).more - 1 } else
  { road mask h k with j:=(leap mask (road mask h k).i (road mask h k).perturb).1,more:=runEnd mask (leap mask (road mask h k).i (road mask h k).perturb).1 - (leap mask (road mask h k).i (road mask h k).perturb).1,i:=(leap mask (road mask h k).i (road mask h k).perturb).1,perturb:=(leap mask (road mask h k).i (road mask h k).perturb).2 }
theorem road_start (t:SetTable) (h:Int):t.probeStart h=road t.mask h 0:=rfl
theorem vQ (mask:Nat) (h:Int):∀ k,(road mask h k).dummy=none
 | 0=>rfl
 | k+1=>by
  unfold road
  split
  ·exact vQ mask h k
  ·exact vQ mask h k
abbrev pos (mask:Nat) (h:Int) (k:Nat):Nat:=(road mask h k).j
def lp (mask:Nat) (h:Int):Nat->Nat×Nat
 | 0=>(bits h % (mask+1),bits h)
 | r+1=>leap mask (lp mask h r).1 (lp mask h r).2
theorem aas (mask i:Nat) (h:i<=mask):i<=runEnd mask i/\runEnd mask i<=mask/\runEnd mask i - i<=9:=by
 unfold runEnd
 split <;> omega
theorem aek (mask:Nat) (h:Int):∀ r,(lp mask h r).1<=mask
 | 0=>aqX.mp (Nat.mod_lt _ (aqD _))
 | r+1=>aqX.mp (Nat.mod_lt _ (aqD _))
def At (mask:Nat) (h:Int) (k r d:Nat):Prop:=d<=runEnd mask (lp mask h r).1 - (lp mask h r).1/\road mask h k={ j:=(lp mask h r).1+d,more:=runEnd mask (lp mask h r).1 - (lp mask h r).1 - d,i:=(lp mask h r).1,perturb:=(lp mask h r).2,dummy:=none }
theorem ac6 (mask:Nat) (h:Int):At mask h 0 0 0:=⟨ao2 _,rfl⟩
theorem agu {mask:Nat} {h:Int} {k r d:Nat} (a:At mask h k r d) (hd:d<runEnd mask (lp mask h r).1 - (lp mask h r).1):At mask h (k+1) r (d+1):=by
 obtain⟨a1,a2⟩:=a
 refine⟨hd,?_⟩
 unfold road
 rw [a2]
 simp only
 rw [if_pos (by omega)]
 simp only [Probe.mk.injEq,and_true]
 omega
theorem ac7 {mask:Nat} {h:Int} {k r d:Nat} (a:At mask h k r d) (hd:d=runEnd mask (lp mask h r).1 - (lp mask h r).1):At mask h (k+1) (r+1) 0:=by
 obtain⟨a1,a2⟩:=a
 refine⟨ao2 _,?_⟩
 unfold road
 rw [a2]
 simp only
 rw [if_neg (by omega)]
 rfl
theorem ac8 {mask:Nat} {h:Int} {k r:Nat} (a:At mask h k r 0):∀ d,d<=runEnd mask (lp mask h r).1 - (lp mask h r).1->At mask h (k+d) r d
 | 0,_=>a
 | d+1,hd=>agu (ac8 a d (by omega)) (by omega)
theorem ael (mask:Nat) (h:Int):∀ r,∃ k,k<=10 * r/\At mask h k r 0
 | 0=>⟨0,aop _,ac6 mask h⟩
 | r+1=>by
  obtain⟨k,hk,a⟩:=ael mask h r
  have:=(aas mask _ (aek mask h r)).2.2
  exact⟨_,by omega,ac7 (ac8 a _ (aop _)) rfl⟩
theorem ai5 (mask:Nat) (h:Int):∀ k,∃ r d,At mask h k r d
 | 0=>⟨0,0,ac6 mask h⟩
 | k+1=>by
  obtain⟨r,d,a⟩:=ai5 mask h k
  by_cases e:d<runEnd mask (lp mask h r).1 - (lp mask h r).1
  ·exact⟨r,d+1,agu a e⟩
  ·exact⟨r+1,0,ac7 a (Nat.le_antisymm a.1 (by omega))⟩
theorem ac9 (mask:Nat) (h:Int) (k:Nat):pos mask h k<=mask:=by
 obtain⟨r,d,a1,a2⟩:=ai5 mask h k
 unfold pos
 rw [a2]
 have:=aas mask _ (aek mask h r)
 show (lp mask h r).1+d<=mask
 omega
def stp (m i:Nat):Nat:=(i * 5+1) % m
def itr (m:Nat):Nat->Nat->Nat
 | 0,i=>i
 | r+1,i=>stp m (itr m r i)
theorem v9 (m:Nat) (a:Nat):∀ b i,itr m (a+b) i=itr m b (itr m a i)
 | 0,i=>rfl
 | b+1,i=>by show stp m (itr m (a+b) i)=stp m (itr m b (itr m a i));rw [v9 m a b i]
def orb (m:Nat):Nat->Nat->List Nat
 | 0,_=>[]
 | f+1,i=>i :: orb m f (stp m i)
theorem ai6 (m:Nat):∀ f i r,r<f->(orb m f i)[r]?=some (itr m r i)
 | 0,_,_,h=>absurd h (apz _)
 | f+1,i,0,_=>rfl
 | f+1,i,r+1,h=>by
  show (orb m f (stp m i))[r]?=_
  rw [ai6 m f (stp m i) r (by omega),show r+1=1+r by omega,v9 m 1 r i]
  rfl
def jx (m:Nat):Bool:=(aow m).all (fun j=>(orb m m 0).contains j) && itr m m 0 == 0
theorem agv:jx 8=true:=by decide +kernel
theorem aem:jx 32=true:=by decide +kernel
theorem acs:jx 128=true:=by decide +kernel
theorem acu:jx 512=true:=by decide +kernel
theorem ada (m:Nat):∀ f i,(orb m f i).length=f
 | 0,_=>rfl
 | f+1,i=>by show (orb m f (stp m i)).length+1=f+1;rw [ada m f]
theorem aen {m:Nat} (h:jx m=true) {j:Nat} (hj:j<m):∃ r,r<m/\itr m r 0=j:=by
 unfold jx at h
 rw [aoo] at h
 have:=aqM.mp h.1 j (aoK.mpr hj)
 have hm:j∈orb m m 0:=by simpa using this
 obtain⟨r,hr,e⟩:=apZ hm
 rw [ada] at hr
 have e2:=ai6 m m 0 r hr
 rw [aof (by rw [ada];exact hr),e] at e2
 exact⟨r,hr,(Option.some.inj e2).symm⟩
theorem agw {m:Nat} (h:jx m=true) {i j:Nat} (hi:i<m) (hj:j<m):∃ r,r<m/\itr m r i=j:=by
 obtain⟨a,ha,ea⟩:=aen h hi
 obtain⟨b,hb,eb⟩:=aen h hj
 have e0:itr m m 0=0:=by
  unfold jx at h
  rw [aoo] at h
  exact eq_of_beq h.2
 by_cases hab:a<=b
 ·exact⟨b - a,by omega,by rw [<-ea,<- v9,show a+(b - a)=b by omega];exact eb⟩
 ·refine⟨m - a+b,by omega,?_⟩
  rw [<-ea,<- v9,show a+(m - a+b)=m+b by omega,v9,e0]
  exact eb
theorem agx (mask:Nat) (h:Int):∀ r,(lp mask h r).2=bits h / 32 ^ r
 | 0=>by simp [lp]
 | r+1=>by
  show (lp mask h r).2 / 32=_
  rw [agx mask h r,Nat.div_div_eq_div_mul,Nat.pow_succ]
theorem akF (h:Int):bits h<2 ^ 64:=by
 unfold bits
 have:=apO h (show (0:Int)<2 ^ 64 by decide)
 have:=aqY h (show (2 ^ 64:Int)≠0 by decide)
 omega
theorem akG (mask:Nat) (h:Int) (r:Nat) (hr:13<=r):(lp mask h r).2=0:=by
 rw [agx]
 refine Nat.div_eq_of_lt (aoL (akF h) ?_)
 exact aoN (show 2 ^ 64<=32 ^ 13 by decide) (Nat.pow_le_pow_right (by decide) hr)
theorem afl (mask:Nat) (h:Int):∀ r,(lp mask h (13+r)).1=itr (mask+1) r (lp mask h 13).1
 | 0=>rfl
 | r+1=>by
  show (leap mask (lp mask h (13+r)).1 (lp mask h (13+r)).2).1=stp (mask+1) (itr (mask+1) r (lp mask h 13).1)
  rw [akG mask h (13+r) (by omega),afl mask h r]
  rfl
theorem ai7 {mask:Nat} (g:jx (mask+1)=true) (h:Int) {j:Nat} (hj:j<=mask):∃ k,k<10 * turns mask/\pos mask h k=j:=by
 obtain⟨r,hr,e⟩:=agw g (i:=(lp mask h 13).1) (j:=j) (aqG (aek mask h 13)) (aqG hj)
 obtain⟨k,hk,a1,a2⟩:=ael mask h (13+r)
 refine⟨k,by unfold turns;omega,?_⟩
 unfold pos
 rw [a2]
 show (lp mask h (13+r)).1+0=j
 rw [afl,e]
 rfl
end L2.ST
end
section
namespace L2.ST
open PySem PySem.SetTable
structure TB (t:SetTable) (hs:List Int):Prop where
 mask:t.mask=7 \/ t.mask=31 \/ t.mask=127 \/ t.mask=511
 dum:t.dummies=#[]
 rise:aei t.place
 le:∀ i,i<t.place.size->t.place.getD i 0<=t.mask
 size:t.place.size=hs.length
 most:hs.length<=t.mask
 reach:∀ i,i<hs.length->∃ k,pos t.mask (hs.getD i 0) k=t.place.getD i 0/\∀ k',k'<k->Tk t (pos t.mask (hs.getD i 0) k')
structure TOk (t:SetTable) (hs:List Int):Prop extends TB t hs where
 room:hs.length * 5<t.mask * 3
theorem adb {t:SetTable} {hs:List Int} (o:TB t hs):jx (t.mask+1)=true:=by
 rcases o.mask with e | e | e | e <;> rw [e]
 ·exact agv
 ·exact aem
 ·exact acs
 ·exact acu
theorem ahz {t:SetTable} (r:aei t.place) (hs:t.place.size<=t.mask):∃ j,j<=t.mask/\¬ Tk t j:=by
 refine aoV fun no=>?_
 have all:∀ j,j<=t.mask->Tk t j:=fun j hj=>aoV fun z=>no ⟨j,hj,z⟩
 have up:∀ j,j<=t.mask->j<=below t.place j/\below t.place j<t.place.size:=fun j=>by
  induction j with
  | zero =>
   intro hj
   obtain⟨i,hi,e⟩:=all 0 hj
   have:=below_at r hi
   rw [e] at this
   exact⟨ao2 _,by omega⟩
  | succ j ih =>
   intro hj
   obtain⟨i,hi,e⟩:=all (j+1) hj
   obtain⟨i',hi',e'⟩:=all j (by omega)
   have b1:=below_at r hi
   have b2:=below_at r hi'
   rw [e] at b1
   rw [e'] at b2
   have lt:i'<i:=by
    by_cases h:i'<i
    ·exact h
    ·by_cases h2:i'=i
     ·subst h2;omega
     ·have:=r i i' (by omega) hi';omega
   have:=ih (by omega)
   omega
 have:=up t.mask (aop _)
 omega
structure First (t:SetTable) (h:Int) (E:Nat):Prop where
 lt:E<10 * turns t.mask
 free:¬ Tk t (pos t.mask h E)
 ahead:∀ k,k<E->Tk t (pos t.mask h k)
theorem least {p:Nat->Prop}:∀ n,p n->∃ m,m<=n/\p m/\∀ k,k<m->¬ p k:=fun n=>by
 induction n using Nat.strongRecOn with
 | ind n ih =>
  intro h
  by_cases q:∃ k,k<n/\p k
  ·obtain⟨k,hk,pk⟩:=q
   obtain⟨m,a,b⟩:=ih k hk pk
   exact⟨m,by omega,b⟩
  ·exact⟨n,aop _,h,fun k hk z=>q ⟨k,hk,z⟩⟩
theorem ahA {t:SetTable} (g:jx (t.mask+1)=true) (r:aei t.place) (hs:t.place.size<=t.mask) (h:Int):∃ E,First t h E:=by
 obtain⟨j,hj,nj⟩:=ahz r hs
 obtain⟨k,hk,e⟩:=ai7 g h hj
 obtain⟨m,a,b,c⟩:=least (p:=fun k=>¬ Tk t (pos t.mask h k)) k (by show ¬ Tk t (pos t.mask h k);rw [e];exact nj)
 exact⟨m,by omega,b,fun q hq=>aoV (c q hq)⟩
theorem first_of {t:SetTable} {hs:List Int} (o:TB t hs) (h:Int):∃ E,First t h E:=ahA (adb o) o.rise (by have:=o.size;have:=o.most;omega) h
theorem probe_go {t:SetTable} (d:t.dummies=#[]) (r:aei t.place) {hashAt:Nat->Int} {h:Int} {E:Nat} (F:First t h E):∀ f k,k<=E->E<k+f ->
  (probe.go t hashAt h f (road t.mask h k)=some (.empty (pos t.mask h E) none)/\∀ q i,k<=q->q<E->i<t.place.size->pos t.mask h q=t.place.getD i 0->hashAt i≠h) \/
  ∃ q i,k<=q/\q<E/\i<t.place.size/\pos t.mask h q=t.place.getD i 0/\hashAt i=h/\probe.go t hashAt h f (road t.mask h k)=some (.candidate (pos t.mask h q) i (road t.mask h (q+1)))/\∀ q' i',k<=q'->q'<q->i'<t.place.size->pos t.mask h q'=t.place.getD i' 0->hashAt i'≠h
 | 0,k,h1,h2=>by omega
 | f+1,k,h1,h2=>by
  unfold probe.go
  by_cases e:k=E
  ·subst e
   refine .inl ⟨?_,fun q i a b=>by omega⟩
   rw [ahy d F.free]
   show some (Met.empty _ _)=_
   rw [vQ]
  ·obtain⟨i,hi,ei⟩:=F.ahead k (by omega)
   have sl:t.slot (road t.mask h k).j=.live i:=by
    have:=slot_live r hi
    rw [ei] at this
    exact this
   rw [sl]
   show (if (hashAt i == h)=true then _ else _:Option Met)=_/\_ \/ _
   have uniq:∀ i',i'<t.place.size->pos t.mask h k=t.place.getD i' 0->i'=i:=fun i' hi' e'=>by
    have b1:=below_at r hi
    have b2:=below_at r hi'
    rw [ei] at b1
    rw [<-e'] at b2
    omega
   by_cases hh:(hashAt i == h)=true
   ·rw [if_pos hh]
    refine .inr ⟨k,i,aop _,by omega,hi,ei.symm,eq_of_beq hh,?_,fun q' i' a b=>by omega⟩
    show (if (hashAt i == h)=true then _ else _:Option Met)=_
    rw [if_pos hh]
    rfl
   ·rw [if_neg hh]
    have hne:hashAt i≠h:=fun z=>hh (by rw [z];exact beq_self_eq_true _)
    rcases probe_go d r (hashAt:=hashAt) F f (k+1) (by omega) (by omega) with⟨a,b⟩ | ⟨q,i2,a1,a2,a3,a4,a5,a6,a7⟩
    ·refine .inl ⟨a,fun q i' c1 c2 c3 c4=>?_⟩
     by_cases eq:q=k
     ·subst eq;rw [uniq i' c3 c4];exact hne
     ·exact b q i' (by omega) c2 c3 c4
    ·refine .inr ⟨q,i2,by omega,a2,a3,a4,a5,?_,fun q' i' c1 c2 c3 c4=>?_⟩
     ·show (if (hashAt i == h)=true then _ else _:Option Met)=_
      rw [if_neg hh]
      exact a6
     ·by_cases eq:q'=k
      ·subst eq;rw [uniq i' c3 c4];exact hne
      ·exact a7 q' i' (by omega) c2 c3 c4
end L2.ST
end
section
namespace L2.ST
open PySem PySem.SetTable
theorem aaa {α:Type} (xs:Array α) (i:Nat) (d:α):xs.getD i d=xs.toList.getD i d:=by
 by_cases h:i<xs.size <;> simp [ap8,h,List.getD]
theorem aeo {α:Type} (l:List α) (p:Nat) (x d:α) (hp:p<=l.length) (i:Nat):(l.take p++x :: l.drop p).getD i d=if i<p then l.getD i d else if i=p then x else l.getD (i - 1) d:=by
 have lt:(l.take p).length=p:=by rw [aoX];omega
 by_cases h1:i<p
 ·rw [if_pos h1,aok,aov (by omega),apX h1,aok]
 ·rw [if_neg h1,aok,aoG (by omega),lt]
  by_cases h2:i=p
  ·rw [if_pos h2,h2,ap7]
   rfl
  ·rw [if_neg h2,show i - p=(i - p - 1)+1 by omega,aqz,aqx,show p+(i - p - 1)=i - 1 by omega,aok]
section
variable {t:SetTable} {hs:List Int} {h:Int} {E:Nat}
theorem put_tb (o:TB t hs) (F:First t h E) (more:hs.length+1<=t.mask):below t.place (pos t.mask h E)<=hs.length/\TB (t.put (pos t.mask h E)).1 (hs.take (below t.place (pos t.mask h E))++h :: hs.drop (below t.place (pos t.mask h E))):=by
 obtain⟨b1,b2,b3⟩:=aej o.rise (pos t.mask h E)
 have sz:=o.size
 generalize hp:below t.place (pos t.mask h E)=p at *
 have hpl:p<=t.place.toList.length:=by rw [aoz];exact b1
 have pl:∀ i,(t.put (pos t.mask h E)).1.place.getD i 0=if i<p then t.place.getD i 0 else if i=p then pos t.mask h E else t.place.getD (i - 1) 0:=fun i=>by
  show (insertAt t.place (below t.place (pos t.mask h E)) (pos t.mask h E)).getD i 0=_
  rw [hp,aaa,aqt,aeo _ _ _ _ hpl,aaa,aaa]
 have psz:(t.put (pos t.mask h E)).1.place.size=t.place.size+1:=by
  show (insertAt t.place (below t.place (pos t.mask h E)) (pos t.mask h E)).size=_
  rw [<-aoz,aqt,hp,aox,aoE,aoX,aqk,aoz]
  omega
 have ne:∀ i,i<t.place.size->t.place.getD i 0≠pos t.mask h E:=fun i hi e=>F.free ⟨i,hi,e⟩
 have b3':∀ i,p<=i->i<t.place.size->pos t.mask h E<t.place.getD i 0:=fun i a b=>by
  have:=b3 i a b
  have:=ne i b
  omega
 have hm:(t.put (pos t.mask h E)).1.mask=t.mask:=rfl
 have tk:∀ j,Tk t j->Tk (t.put (pos t.mask h E)).1 j:=fun j ⟨i,hi,e⟩=>by
  by_cases q:i<p
  ·exact⟨i,by omega,by rw [pl,if_pos q];exact e⟩
  ·exact⟨i+1,by omega,by rw [pl,if_neg (by omega),if_neg (by omega),Nat.add_sub_cancel];exact e⟩
 have hl:∀ i,(hs.take p++h :: hs.drop p).getD i 0=if i<p then hs.getD i 0 else if i=p then h else hs.getD (i - 1) 0:=fun i=>aeo hs p h 0 (by omega) i
 have ln:(hs.take p++h :: hs.drop p).length=hs.length+1:=by
  rw [aox,aoE,aoX,aqk]
  omega
 refine⟨by omega,⟨o.mask,?_,fun i j hij hj=>?_,fun i hi=>?_,by rw [psz,ln,sz],by rw [ln,hm];exact more,fun i hi=>?_⟩⟩
 ·show (if has t.dummies (pos t.mask h E)=true then _ else t.dummies)=#[]
  rw [o.dum]
  rfl
 ·rw [pl,pl]
  rw [psz] at hj
  by_cases c1:i<p
  ·rw [if_pos c1]
   by_cases c2:j<p
   ·rw [if_pos c2];exact o.rise i j hij (by omega)
   ·rw [if_neg c2]
    by_cases c3:j=p
    ·rw [if_pos c3];exact b2 i c1
    ·rw [if_neg c3];exact o.rise i (j - 1) (by omega) (by omega)
  ·rw [if_neg c1,if_neg (show ¬ j<p by omega)]
   by_cases c3:i=p
   ·rw [if_pos c3,if_neg (by omega)];exact b3' (j - 1) (by omega) (by omega)
   ·rw [if_neg c3,if_neg (by omega)];exact o.rise (i - 1) (j - 1) (by omega) (by omega)
 ·rw [pl,hm]
  rw [psz] at hi
  by_cases c1:i<p
  ·rw [if_pos c1];exact o.le i (by omega)
  ·rw [if_neg c1]
   by_cases c3:i=p
   ·rw [if_pos c3];exact ac9 _ _ _
   ·rw [if_neg c3];exact o.le (i - 1) (by omega)
 ·rw [hl,pl,hm]
  rw [ln] at hi
  by_cases c1:i<p
  ·rw [if_pos c1,if_pos c1]
   obtain⟨k,e,a⟩:=o.reach i (by omega)
   exact⟨k,e,fun k' hk=>tk _ (a k' hk)⟩
  ·rw [if_neg c1,if_neg c1]
   by_cases c3:i=p
   ·rw [if_pos c3,if_pos c3]
    exact⟨E,rfl,fun k' hk=>tk _ (F.ahead k' hk)⟩
   ·rw [if_neg c3,if_neg c3]
    obtain⟨k,e,a⟩:=o.reach (i - 1) (by omega)
    exact⟨k,e,fun k' hk=>tk _ (a k' hk)⟩
end
def Occ (ow:Array (Option Nat)) (j:Nat):Prop:=ow.getD j (some 0)≠none
theorem agy {mask:Nat} {ow:Array (Option Nat)} {h:Int}:∀ f r k,At mask h k r 0->(∃ r',r<=r'/\r'<r+f/\¬ Occ ow (lp mask h r').1) ->
  ∃ E,k<=E/\(∀ q,k<=q->q<E->Occ ow (pos mask h q))/\¬ Occ ow (pos mask h E)/\layClean.free mask ow f (lp mask h r).1 (lp mask h r).2=some (pos mask h E)
 | 0,r,k,a,⟨r',h1,h2,_⟩=>by omega
 | f+1,r,k,a,⟨r',h1,h2,h3⟩=>by
  have re:=aas mask _ (aek mask h r)
  have at_:∀ d,d<=runEnd mask (lp mask h r).1 - (lp mask h r).1->pos mask h (k+d)=(lp mask h r).1+d:=fun d hd=>by
   have:=(ac8 a d hd).2
   unfold pos
   rw [this]
  unfold layClean.free
  cases hf:(aow (runEnd mask (lp mask h r).1+1 - (lp mask h r).1)).find? fun k=>(ow.getD ((lp mask h r).1+k) (some 0)).isNone with
  | some d =>
   have hm:=List.mem_of_find?_eq_some hf
   have hd:=aoK.mp hm
   have hs:=List.find?_some hf
   have bef:∀ d',d'<d->¬ (ow.getD ((lp mask h r).1+d') (some 0)).isNone=true:=fun d' hd'=>by
    obtain⟨_,as,bs,e,al⟩:=List.find?_eq_some_iff_append.mp hf
    have:as=aow d:=by
     have l1:(aow (runEnd mask (lp mask h r).1+1 - (lp mask h r).1))[as.length]?=some d:=by
      rw [e,aoG (aop _),ap7]
      rfl
     have lt:as.length<runEnd mask (lp mask h r).1+1 - (lp mask h r).1:=by
      have:=congrArg List.length e
      simp at this
      omega
     rw [apF lt] at l1
     have el:as.length=d:=Option.some.inj l1
     have:as=(aow (runEnd mask (lp mask h r).1+1 - (lp mask h r).1)).take as.length:=by
      rw [e,List.take_append_of_le_length (aop _),aoZ]
     rw [this,List.take_range,arI (by omega),el]
    have al2:=al d' (by rw [this];exact aoK.mpr hd')
    intro z
    have z2:(!(ow.getD ((lp mask h r).1+d') (some 0)).isNone)=true:=al2
    rw [z] at z2
    cases z2
   refine⟨k+d,by omega,fun q hq1 hq2=>?_,?_,?_⟩
   ·have:=bef (q - k) (by omega)
    rw [show q=k+(q - k) by omega,at_ (q - k) (by omega)]
    intro z
    rw [z] at this
    exact this rfl
   ·rw [at_ d (by omega)]
    intro z
    have hs':(ow.getD ((lp mask h r).1+d) (some 0)).isNone=true:=hs
    exact z (Option.isNone_iff_eq_none.mp hs')
   ·rw [at_ d (by omega)]
  | none =>
   have all:∀ d,d<runEnd mask (lp mask h r).1+1 - (lp mask h r).1->Occ ow ((lp mask h r).1+d):=fun d hd z=>by
    have:=aq8.mp hf d (aoK.mpr hd)
    simp [z] at this
   have ne:r'≠r:=fun z=>by
    rw [z] at h3
    exact h3 (by have:=all 0 (by omega);rwa [ar5] at this)
   have a2:=ac7 (ac8 a _ (aop _)) rfl
   obtain⟨E,e1,e2,e3,e4⟩:=agy f (r+1) _ a2 ⟨r',by omega,by omega,h3⟩
   refine⟨E,by omega,fun q hq1 hq2=>?_,e3,e4⟩
   by_cases hq:q<k+(runEnd mask (lp mask h r).1 - (lp mask h r).1)+1
   ·rw [show q=k+(q - k) by omega,at_ (q - k) (by omega)]
    exact all _ (by omega)
   ·exact e2 q (by omega) hq2
end L2.ST
end
section
namespace L2.ST
open PySem PySem.SetTable
structure OwnT (mask:Nat) (ow:Array (Option Nat)) (hs:List Int) (sl:List Nat):Prop where
 size:ow.size=mask+1
 len:sl.length=hs.length
 nd:sl.Nodup
 le:∀ j∈sl,j<=mask
 own:∀ j,j<=mask->∀ i,ow.getD j none=some i↔sl[i]?=some j
 reach:∀ i,i<hs.length->∃ q,pos mask (hs.getD i 0) q=sl.getD i 0/\∀ q',q'<q->pos mask (hs.getD i 0) q'∈sl
theorem OwnT.occ {mask:Nat} {ow:Array (Option Nat)} {hs:List Int} {sl:List Nat} (o:OwnT mask ow hs sl) {j:Nat} (hj:j<=mask):Occ ow j↔j∈sl:=by
 have hs':j<ow.size:=by rw [o.size];omega
 have e:ow.getD j (some 0)=ow.getD j none:=by simp [ap8,hs']
 unfold Occ
 rw [e]
 constructor
 ·intro h
  obtain⟨i,hi⟩:=Option.ne_none_iff_exists'.mp h
  exact aoj ((o.own j hj i).mp hi)
 ·intro h z
  obtain⟨i,hi,e2⟩:=apZ h
  have:=(o.own j hj i).mpr (by rw [aof hi,e2])
  rw [z] at this
  cases this
def agz (mask:Nat):Option (Array (Option Nat)×Nat)->Int->Option (Array (Option Nat)×Nat):=fun acc h=>do
  let (owner,k) <- acc
  let j <- layClean.free mask owner (turns mask) (bits h % (mask+1)) (bits h)
  pure (owner.setIfInBounds j (some k),k+1)
theorem ai8 {mask:Nat} (g:jx (mask+1)=true) {ow:Array (Option Nat)} {hs:List Int} {sl:List Nat} (o:OwnT mask ow hs sl) (hm:hs.length<=mask) (h:Int) :
  ∃ ow' sl',agz mask (some (ow,hs.length)) h=some (ow',hs.length+1)/\OwnT mask ow' (hs++[h]) sl':=by
 obtain⟨j,hj,nj⟩:∃ j,j<=mask/\j∉sl:=by
  refine aoV fun no=>?_
  have sub:aow (mask+1) ⊆ sl:=fun j hj=>aoV fun z=>no ⟨j,aqX.mp (aoK.mp hj),z⟩
  have:=List.Nodup.length_le_of_subset aqN sub
  rw [aoU,o.len] at this
  omega
 obtain⟨r,hr,e⟩:=agw g (i:=(lp mask h 13).1) (j:=j) (aqG (aek mask h 13)) (aqG hj)
 obtain⟨E,_,e2,e3,e4⟩:=agy (ow:=ow) (turns mask) 0 0 (ac6 mask h) ⟨13+r,ao2 _,by unfold turns;omega,by rw [afl,e,o.occ hj];exact nj⟩
 have e3':pos mask h E∉sl:=fun z=>e3 ((o.occ (ac9 mask h E)).mpr z)
 have e2':∀ q,q<E->pos mask h q∈sl:=fun q hq=>(o.occ (ac9 mask h q)).mp (e2 q (ao2 _) hq)
 have e4':layClean.free mask ow (turns mask) (bits h % (mask+1)) (bits h)=some (pos mask h E):=e4
 refine⟨ow.setIfInBounds (pos mask h E) (some hs.length),sl++[pos mask h E],?_,?_⟩
 ·show (layClean.free mask ow (turns mask) (bits h % (mask+1)) (bits h) >>= fun j=>pure (ow.setIfInBounds j (some hs.length),hs.length+1))=_
  rw [e4']
  rfl
 ·have ls:∀ i,(sl++[pos mask h E])[i]?=if i<sl.length then sl[i]? else if i=sl.length then some (pos mask h E) else none:=fun i=>by
   by_cases c:i<sl.length
   ·rw [if_pos c,aov c]
   ·rw [if_neg c,aoG (by omega)]
    by_cases c2:i=sl.length
    ·rw [if_pos c2,c2,ap7];rfl
    ·rw [if_neg c2];exact aoP (by simp;omega)
  refine⟨by rw [Array.size_setIfInBounds];exact o.size,by simp [o.len],?_,fun j hj=>?_,fun j hj i=>?_,fun i hi=>?_⟩
  ·rw [ao8]
   refine⟨o.nd,by simp,fun a ha b hb=>?_⟩
   rw [aos.mp hb]
   intro z
   rw [z] at ha
   exact e3' ha
  ·rcases aou.mp hj with hj | hj
   ·exact o.le j hj
   ·rw [aos.mp hj];exact ac9 _ _ _
  ·have hsz:j<ow.size:=by rw [o.size];omega
   rw [ls]
   by_cases c:j=pos mask h E
   ·subst c
    have:(ow.setIfInBounds (pos mask h E) (some hs.length)).getD (pos mask h E) none=some hs.length:=by simp [ap8,hsz]
    rw [this]
    constructor
    ·intro z
     have z':hs.length=i:=Option.some.inj z
     rw [if_neg (by rw [o.len];omega),if_pos (by rw [o.len];omega)]
    ·intro z
     by_cases c2:i<sl.length
     ·rw [if_pos c2] at z
      exact absurd (aoj z) e3'
     ·rw [if_neg c2] at z
      by_cases c3:i=sl.length
      ·rw [c3,o.len]
      ·rw [if_neg c3] at z;cases z
   ·have:(ow.setIfInBounds (pos mask h E) (some hs.length)).getD j none=ow.getD j none:=by
     rw [apI,apI,Array.getElem?_setIfInBounds_ne (apC c)]
    rw [this,o.own j hj i]
    by_cases c2:i<sl.length
    ·rw [if_pos c2]
    ·rw [if_neg c2]
     constructor
     ·intro z
      rw [aoP (by omega)] at z
      cases z
     ·intro z
      by_cases c3:i=sl.length
      ·rw [if_pos c3] at z
       exact absurd (Option.some.inj z).symm c
      ·rw [if_neg c3] at z;cases z
  ·have gl:∀ i,(hs++[h]).getD i 0=if i<hs.length then hs.getD i 0 else if i=hs.length then h else 0:=fun i=>by
    by_cases c:i<hs.length
    ·rw [if_pos c,aok,aov c,aok]
    ·rw [if_neg c,aok,aoG (by omega)]
     by_cases c2:i=hs.length
     ·rw [if_pos c2,c2,ap7];rfl
     ·rw [if_neg c2,aoP (by simp;omega)];rfl
   rw [aox,ao4] at hi
   have gs:(sl++[pos mask h E]).getD i 0=((sl++[pos mask h E])[i]?).getD 0:=aok ..
   rw [gl,gs,ls]
   by_cases c:i<hs.length
   ·rw [if_pos c,if_pos (by rw [o.len];exact c)]
    obtain⟨q,a,b⟩:=o.reach i c
    exact⟨q,by rw [<-aok];exact a,fun q' hq=>aoJ _ (b q' hq)⟩
   ·rw [if_neg c,if_pos (by omega),if_neg (by rw [o.len];omega),if_pos (by rw [o.len];omega)]
    exact⟨E,rfl,fun q' hq=>aoJ _ (e2' q' hq)⟩
theorem agA {mask:Nat} (g:jx (mask+1)=true):∀ (l:List Int) (ow:Array (Option Nat)) (hs:List Int) (sl:List Nat),OwnT mask ow hs sl->hs.length+l.length<=mask+1 ->
  ∃ ow' sl',l.foldl (agz mask) (some (ow,hs.length))=some (ow',hs.length+l.length)/\OwnT mask ow' (hs++l) sl'
 | [],ow,hs,sl,o,_=>⟨ow,sl,rfl,by rw [apf];exact o⟩
 | h :: l,ow,hs,sl,o,hm=>by
  rw [aoE] at hm
  obtain⟨ow1,sl1,e1,o1⟩:=ai8 g o (by omega) h
  obtain⟨ow2,sl2,e2,o2⟩:=agA g l ow1 (hs++[h]) sl1 o1 (by rw [aox,ao4];omega)
  refine⟨ow2,sl2,?_,by rw [apx] at o2;exact o2⟩
  rw [List.foldl_cons,e1]
  rw [aox,ao4] at e2
  rw [e2,aoE,ars,Nat.add_comm 1]
theorem akH (mask:Nat):OwnT mask (aqZ (mask+1) none) [] [] where
 size:=by simp
 len:=rfl
 nd:=.nil
 le:=fun _ h=>nomatch h
 own:=fun j hj i=>by
  have:(aqZ (mask+1) (none:Option Nat)).getD j none=none:=by simp [ap8]
  rw [this]
  constructor <;> intro z <;> cases z
 reach:=fun i hi=>absurd hi (apz _)
theorem ai9 {mask:Nat} (g:jx (mask+1)=true) (hs:Array Int) (hm:hs.size<=mask+1):∃ ow sl,layClean mask hs=some ow/\OwnT mask ow hs.toList sl:=by
 obtain⟨ow,sl,e,o⟩:=agA g hs.toList _ [] [] (akH mask) (by simpa using hm)
 refine⟨ow,sl,?_,by simpa using o⟩
 unfold layClean
 rw [<-Array.foldl_toList]
 have:hs.toList.foldl (agz mask) (some (aqZ (mask+1) none,0))=some (ow,0+hs.toList.length):=e
 show Option.map _ (hs.toList.foldl (agz mask) (some (aqZ (mask+1) none,0)))=_
 rw [this]
 rfl
theorem laid_ok {mask:Nat} (mk:mask=7 \/ mask=31 \/ mask=127 \/ mask=511) (hs:Array Int) (hm:hs.size<=mask) (finger moves:Nat) (led plain:Bool) :
  ∃ t ord,laid mask finger moves led plain hs=some (t,ord)/\t.mask=mask/\t.plain=plain/\t.led=led/\ord.toList.Perm (aow hs.size)/\TB t (ord.toList.map fun i=>hs.toList.getD i 0):=by
 have g:jx (mask+1)=true:=by
  rcases mk with rfl | rfl | rfl | rfl
  ·exact agv
  ·exact aem
  ·exact acs
  ·exact acu
 obtain⟨ow,sl,e,o⟩:=ai9 g hs (by omega)
 let live:=(aow (mask+1)).filterMap fun j=>(ow.getD j none).map (j,·)
 have mem:∀ p:Nat×Nat,p∈live↔p.1<=mask/\sl[p.2]?=some p.1:=fun⟨j,i⟩=>by
  show (j,i)∈List.filterMap _ _↔_
  rw [aq4]
  constructor
  ·rintro⟨j',hj,e⟩
   have hj':=aqX.mp (aoK.mp hj)
   cases e2:ow.getD j' none with
   | none=>rw [e2] at e;cases e
   | some i' =>
    rw [e2] at e
    cases e
    exact⟨hj',(o.own _ hj' _).mp e2⟩
  ·rintro⟨h1,h2⟩
   refine⟨j,aoK.mpr (by omega),?_⟩
   rw [(o.own j h1 i).mpr h2]
   rfl
 have up:(live.map (·.1)).Pairwise (·<·):=by
  rw [apr]
  show (List.filterMap _ _).Pairwise _
  rw [List.pairwise_filterMap]
  refine arD.imp fun {a b} hab p hp q hq=>?_
  cases e1:ow.getD a none with
  | none=>rw [e1] at hp;cases hp
  | some i =>
   cases e2:ow.getD b none with
   | none=>rw [e2] at hq;cases hq
   | some i2 =>
    rw [e1] at hp
    rw [e2] at hq
    cases hp
    cases hq
    exact hab
 have nd2:(live.map (·.2)).Nodup:=by
  show List.Pairwise _ _
  rw [apr]
  have u2:=apr.mp up
  refine u2.imp_of_mem fun {p q} hp hq hlt hz=>?_
  have a1:=((mem p).mp hp).2
  have a2:=((mem q).mp hq).2
  rw [hz,a2] at a1
  have:=Option.some.inj a1
  omega
 have pm:(live.map (·.2)).Perm (aow hs.size):=by
  refine (List.perm_ext_iff_of_nodup nd2 aqN).mpr fun i=>?_
  have ls:sl.length=hs.size:=by rw [o.len,aoz]
  constructor
  ·intro hi
   obtain⟨p,hp,rfl⟩:=aoC.mp hi
   have:=(aoh.mp ((mem p).mp hp).2).1
   exact aoK.mpr (by omega)
  ·intro hi
   have hi':=aoK.mp hi
   have hl:i<sl.length:=by omega
   exact aoC.mpr ⟨(sl[i],i),(mem _).mpr ⟨o.le _ (aoQ hl),aof hl⟩,rfl⟩
 refine⟨_,_,by unfold laid;rw [e];rfl,rfl,rfl,rfl,pm,?_⟩
 have ln:live.length=hs.size:=by have:=pm.length_eq;rwa [aog,aoU] at this
 have tk:∀ j,j∈sl->∃ i,i<live.length/\(live.map (·.1)).getD i 0=j:=fun j hj=>by
  obtain⟨i,hi,e2⟩:=apZ hj
  have:(j,i)∈live:=(mem _).mpr ⟨o.le j hj,by rw [aof hi,e2]⟩
  obtain⟨q,hq,e3⟩:=apZ this
  exact⟨q,hq,by rw [aok,aoq,aof hq,e3];rfl⟩
 have gd:∀ i,(live.map (·.1)).toArray.getD i 0=(live.map (·.1)).getD i 0:=fun i=>by rw [aaa]
 refine⟨mk,rfl,fun i j hij hj=>?_,fun i hi=>?_,?_,?_,fun i hi=>?_⟩
 ·show (live.map (·.1)).toArray.getD i 0<(live.map (·.1)).toArray.getD j 0
  have hj':j<(live.map (·.1)).length:=by
   have h2:j<(live.map (·.1)).toArray.size:=hj
   rwa [aoD] at h2
  rw [gd,gd,aok,aok,aof hj',aof (show i<(live.map (·.1)).length by omega)]
  exact apq.mp up i j (by omega) hj' hij
 ·show (live.map (·.1)).toArray.getD i 0<=mask
  have hi':i<(live.map (·.1)).length:=by
   have h2:i<(live.map (·.1)).toArray.size:=hi
   rwa [aoD] at h2
  rw [gd,aok,aof hi']
  obtain⟨p,hp,e2⟩:=aoC.mp (aoQ hi')
  show (live.map (·.1))[i]<=mask
  rw [<-e2]
  exact ((mem p).mp hp).1
 ·show (live.map (·.1)).toArray.size=_
  simp
 ·show (aqQ _ (live.map (·.2))).length<=mask
  rw [aog,aog,ln]
  exact hm
 ·have hi':i<live.length:=by
   have hi2:i<(aqQ (fun i=>hs.toList.getD i 0) (live.map (·.2))).length:=hi
   rwa [aog,aog] at hi2
  have pl:(live.map (·.1)).toArray.getD i 0=live[i].1:=by
   rw [gd,aok,aoq,aof hi']
   rfl
  have hh:(aqQ (fun i=>hs.toList.getD i 0) (live.map (·.2))).getD i 0=hs.toList.getD live[i].2 0:=by
   rw [aok,aoq,aoq,aof hi']
   rfl
  have m2:=(mem live[i]).mp (aoQ hi')
  have l2:=(aoh.mp m2.2).1
  obtain⟨q,a,b⟩:=o.reach live[i].2 (by rw [<-o.len];exact l2)
  refine⟨q,?_,fun q' hq=>?_⟩
  ·show pos mask ((aqQ (fun i=>hs.toList.getD i 0) (live.map (·.2))).getD i 0) q=(live.map (·.1)).toArray.getD i 0
   rw [hh,pl,a,aok,m2.2]
   rfl
  ·show Tk _ (pos mask ((aqQ (fun i=>hs.toList.getD i 0) (live.map (·.2))).getD i 0) q')
   rw [hh]
   obtain⟨z,hz,ez⟩:=tk _ (b q' hq)
   exact⟨z,by show z<(live.map (·.1)).toArray.size;simpa using hz,by show (live.map (·.1)).toArray.getD z 0=_;rw [gd];exact ez⟩
end L2.ST
end
section
namespace L2
open PySem PySem.Spec PyProof.Rows
mutual
def zr (w:World):PyData->Int
 | .int i=>hashInt i
 | .str x=>hashStr w x
 | .tuple xs=>reduceHash (apR (qH w xs))
 | _=>0
def qH (w:World):List PyData->List Int
 | []=>[]
 | x :: xs=>zr w x :: qH w xs
end
mutual
def zZ:PyData->Nat
 | .int _=>1
 | .str _=>1
 | .tuple xs=>abu xs+1
 | _=>0
def abu:List PyData->Nat
 | []=>0
 | x :: xs=>zZ x+abu xs
end
mutual
theorem abv {P:Program} {w:World}:∀ (d:PyData) (A:Around) (s:Shared) (v:Value) (as:List Addr) (E:Value->Shared->Prop) (Q:Int->Shared->Prop),Reads s.heap v d as->zv d=true->A.units+4 * d.depth<cLine ->
  Q (zr w d) { s with toks:=s.toks+zZ d }->wpAny (model P w) A (pyHash v) Q E s
 | .int i,A,s,_,_,E,Q,r,_,_,q=>by
  cases r
  rw [zr,zZ] at q
  exact wpAny_pyHash_int q
 | .str x,A,s,_,_,E,Q,r,_,_,q=>by
  cases r
  rw [zr,zZ] at q
  exact wpAny_pyHash_str q
 | .tuple xs,A,s,_,_,E,Q,r,p,hu,q=>by
  cases r with
  | @tuple a o vs n _ as h1 h2 h3 h4 =>
   rw [zv] at p
   rw [zr,zZ] at q
   have hT:s.TypeIs (.ref a) "tuple":=⟨o,h1,h2⟩
   have e1:(PyData.tuple xs).depth=aoy xs+1:=rfl
   rw [e1] at hu
   show wpAny _ A (pyHashByItsType (.ref a)) Q E s
   unfold pyHashByItsType
   apply wpAny_bind;apply wpAny_cRoomFor_or (.inr (by omega))
   apply wpAny_bind;apply wpAny_specialOf hT apE.lookup
   show wpAny _ _ (if (some (Value.builtin "tuple.__hash__") == some Value.none)=true then _ else _) Q E s
   rw [if_neg (by rw [beq_builtin_none];exact aoi)]
   apply wpAny_bind;apply wpAny_specialOf hT apE.lookup
   show wpAny _ _ (callSpecialIfBoundUnlessNone? (.ref a) "__hash__" _ >>= _) Q E s
   apply wpAny_bind
   refine wpAny_callSpecialIfBoundUnlessNone?_slot hT apE (wpAny_call_entry apE hT PySem.F.entry_tuple_hash ?_ (PySem.F.args_tuple_hash_1 _))
   show wpAny _ _ (Builtin.Tuple.tupleItemsOf (.ref a) >>= _) _ _ s
   apply wpAny_bind;apply wpAny_tupleItemsOf h1 h3
   apply wpAny_bind
   rw [<-aqy]
   have hu1:A.in1.units=A.units+1:=rfl
   refine abw xs A.in1 s vs.toList _ #[] _ _ h4 p (by omega) ?_
   simp only [apf,List.nil_append]
   show wpAny _ _ (retInt (apR (#[]++(qH w xs).toArray).toList)) _ _ _
   rw [show (#[]++(qH w xs).toArray:Array Int).toList=qH w xs by simp]
   refine wpAny_ret_mkInt ?_
   show wpAny _ _ (pyHashByItsType.reduced _) Q E _
   unfold reduceHash at q
   unfold pyHashByItsType.reduced
   by_cases hr:(decide (-(2:Int) ^ 63<=apR (qH w xs)) && decide (apR (qH w xs)<2 ^ 63))=true
   ·rw [if_pos hr] at q ⊢
    exact wpAny_pure (by simpa [ars] using q)
   ·rw [if_neg hr] at q ⊢
    exact wpAny_bind (wpAny_rule (wpAny_pure (by simpa [ars] using q)))
 | .none,_,_,_,_,_,_,_,h,_,_=>by cases h
 | .bool _,_,_,_,_,_,_,_,h,_,_=>by cases h
 | .list _,_,_,_,_,_,_,_,h,_,_=>by cases h
 | .dict _,_,_,_,_,_,_,_,h,_,_=>by cases h
theorem abw {P:Program} {w:World}:∀ (xs:List PyData) (A:Around) (s:Shared) (vs:List Value) (as:List Addr) (acc:Array Int) (E:Value->Shared->Prop) (Q:Array Int->Shared->Prop),ReadsAll s.heap vs xs as->zK xs=true->A.units+4 * aoy xs<cLine ->
  Q (acc++(qH w xs).toArray) { s with toks:=s.toks+abu xs }->wpAny (model P w) A (forIn vs acc fun x r=>do
   let h <- pyHash x
   pure (ForInStep.yield (r.push h))) Q E s
 | [],A,s,_,_,acc,E,Q,r,_,_,q=>by
  cases r
  rw [aqi]
  rw [qH,abu] at q
  exact wpAny_pure (by simpa using q)
 | x :: xs,A,s,_,_,acc,E,Q,r,p,hu,q=>by
  cases r with
  | cons r1 r2 =>
   rw [zK,aoo] at p
   rw [qH,abu] at q
   have e1:aoy (x :: xs)=max x.depth (aoy xs):=rfl
   rw [e1] at hu
   rw [aqb]
   apply wpAny_bind;apply wpAny_bind
   refine abv x A s _ _ _ _ r1 p.1 (by omega) (wpAny_pure ?_)
   refine abw xs A { s with toks:=s.toks+zZ x } _ _ _ _ _ r2 p.2 (by omega) ?_
   have e2:acc.push (zr w x)++(qH w xs).toArray=acc++(zr w x :: qH w xs).toArray:=by simp
   rw [e2]
   rw [<-ars] at q
   exact q
end
mutual
theorem jG {P:Program} {w:World}:∀ (d:PyData) (n:Nat) (A:Around) (s:Shared) (v:Value) (as:List Addr) (E:Value->Shared->Prop) (Q:Bool->Shared->Prop),Reads s.heap v d as->zv d=true->d.depth<=n->Q true s->wpAny (model P w) A (eqIsQuiet n v) Q E s
 | .int i,n,A,s,_,_,E,Q,r,_,_,q=>by
  cases r
  rw [eqIsQuiet_byValue n rfl]
  exact wpAny_pure q
 | .str x,n,A,s,_,_,E,Q,r,_,_,q=>by
  cases r
  rw [eqIsQuiet_byValue n rfl]
  exact wpAny_pure q
 | .tuple xs,n,A,s,_,_,E,Q,r,p,hn,q=>by
  cases r with
  | @tuple a o vs n' _ as h1 h2 h3 h4 =>
   rw [zv] at p
   have e1:(PyData.tuple xs).depth=aoy xs+1:=rfl
   rw [e1] at hn
   obtain⟨m,rfl⟩:∃ m,n=m+1:=⟨n - 1,by omega⟩
   have hT:s.TypeIs (.ref a) "tuple":=⟨o,h1,h2⟩
   unfold eqIsQuiet
   apply wpAny_bind;apply wpAny_specialOf hT PySem.F.slot_tuple_eq.lookup
   show wpAny _ _ (isInstance (.ref a) (.type "tuple") >>= _) _ _ s
   apply wpAny_bind;apply wpAny_isInstance hT isSubtype_tuple_tuple
   simp only [apn,aoY,if_false]
   apply wpAny_bind;apply wpAny_seqItems h1 h3
   apply wpAny_bind
   show wpAny _ _ (forIn vs _ _) _ _ s
   rw [<-aqy]
   exact aaD xs m A s _ _ _ _ h4 p (by omega) (wpAny_pure q)
 | .none,_,_,_,_,_,_,_,_,h,_,_=>by cases h
 | .bool _,_,_,_,_,_,_,_,_,h,_,_=>by cases h
 | .list _,_,_,_,_,_,_,_,_,h,_,_=>by cases h
 | .dict _,_,_,_,_,_,_,_,_,h,_,_=>by cases h
theorem aaD {P:Program} {w:World}:∀ (xs:List PyData) (m:Nat) (A:Around) (s:Shared) (vs:List Value) (as:List Addr) (E:Value->Shared->Prop) (Q:Option Bool×Unit->Shared->Prop),ReadsAll s.heap vs xs as->zK xs=true->aoy xs<=m->Q (none,()) s ->
  wpAny (model P w) A (forIn vs ((none,()):Option Bool×Unit) fun y _=>do
   let b <- eqIsQuiet m y
   if (!b)=true then pure (ForInStep.done (some false,())) else pure (ForInStep.yield (none,()))) Q E s
 | [],m,A,s,_,_,E,Q,r,_,_,q=>by
  cases r
  rw [aqi]
  exact wpAny_pure q
 | x :: xs,m,A,s,_,_,E,Q,r,p,hn,q=>by
  cases r with
  | cons r1 r2 =>
   rw [zK,aoo] at p
   have e1:aoy (x :: xs)=max x.depth (aoy xs):=rfl
   rw [e1] at hn
   rw [aqb]
   apply wpAny_bind;apply wpAny_bind
   refine jG x m A s _ _ _ _ r1 p.1 (by omega) ?_
   simp only [apn,aoY,if_false]
   exact wpAny_pure (aaD xs m A s _ _ _ _ r2 p.2 (by omega) q)
end
mutual
theorem aat {P:Program} {w:World}:∀ (d:PyData) (n:Nat) (A:Around) (s:Shared) (v:Value) (as:List Addr) (E:Value->Shared->Prop) (Q:Bool->Shared->Prop),Reads s.heap v d as->zv d=true->d.depth<=n->Q false s->wpAny (model P w) A (ofAClassStatement n v) Q E s
 | .int i,n,A,s,_,_,E,Q,r,_,_,q=>by
  cases r
  unfold ofAClassStatement
  exact wpAny_pure q
 | .str x,n,A,s,_,_,E,Q,r,_,_,q=>by
  cases r
  unfold ofAClassStatement
  exact wpAny_pure q
 | .tuple xs,n,A,s,_,_,E,Q,r,p,hn,q=>by
  cases r with
  | @tuple a o vs n' _ as h1 h2 h3 h4 =>
   rw [zv] at p
   have e1:(PyData.tuple xs).depth=aoy xs+1:=rfl
   rw [e1] at hn
   obtain⟨m,rfl⟩:∃ m,n=m+1:=⟨n - 1,by omega⟩
   have hT:s.TypeIs (.ref a) "tuple":=⟨o,h1,h2⟩
   unfold ofAClassStatement
   apply wpAny_bind;apply wpAny_typeOf hT
   dsimp only
   rw [if_pos (show ("tuple" == "tuple")=true from rfl)]
   apply wpAny_bind;apply wpAny_pure
   simp only [apn,aoY,if_false]
   apply wpAny_bind;apply wpAny_seqItems h1 h3
   dsimp only
   apply wpAny_bind
   rw [<-aqy]
   exact acv xs m A s _ _ _ _ h4 p (by omega) (wpAny_pure q)
 | .none,_,_,_,_,_,_,_,_,h,_,_=>by cases h
 | .bool _,_,_,_,_,_,_,_,_,h,_,_=>by cases h
 | .list _,_,_,_,_,_,_,_,_,h,_,_=>by cases h
 | .dict _,_,_,_,_,_,_,_,_,h,_,_=>by cases h
theorem acv {P:Program} {w:World}:∀ (xs:List PyData) (m:Nat) (A:Around) (s:Shared) (vs:List Value) (as:List Addr) (E:Value->Shared->Prop) (Q:Option Bool×Unit->Shared->Prop),ReadsAll s.heap vs xs as->zK xs=true->aoy xs<=m->Q (none,()) s ->
  wpAny (model P w) A (forIn vs ((none,()):Option Bool×Unit) fun y _=>do
   let b <- ofAClassStatement m y
   if b=true then pure (ForInStep.done (some true,())) else pure (ForInStep.yield (none,()))) Q E s
 | [],m,A,s,_,_,E,Q,r,_,_,q=>by
  cases r
  rw [aqi]
  exact wpAny_pure q
 | x :: xs,m,A,s,_,_,E,Q,r,p,hn,q=>by
  cases r with
  | cons r1 r2 =>
   rw [zK,aoo] at p
   have e1:aoy (x :: xs)=max x.depth (aoy xs):=rfl
   rw [e1] at hn
   rw [aqb]
   apply wpAny_bind;apply wpAny_bind
   refine aat x m A s _ _ _ _ r1 p.1 (by omega) ?_
   simp only [aoY,if_false]
   exact wpAny_pure (acv xs m A s _ _ _ _ r2 p.2 (by omega) q)
end
mutual
theorem aaE {P:Program} {w:World}:∀ (d:PyData) (n:Nat) (A:Around) (s:Shared) (v:Value) (as:List Addr) (E:Value->Shared->Prop) (Q:Bool->Shared->Prop),Reads s.heap v d as->zv d=true->(∀ b,Q b s)->wpAny (model P w) A (hashByValue n v) Q E s
 | .int i,n,A,s,_,_,E,Q,r,_,q=>by
  cases r
  unfold hashByValue
  exact wpAny_pure (q _)
 | .str x,n,A,s,_,_,E,Q,r,_,q=>by
  cases r
  unfold hashByValue
  exact wpAny_pure (q _)
 | .tuple xs,n,A,s,_,_,E,Q,r,p,q=>by
  cases r with
  | @tuple a o vs n' _ as h1 h2 h3 h4 =>
   rw [zv] at p
   have hT:s.TypeIs (.ref a) "tuple":=⟨o,h1,h2⟩
   cases n with
   | zero =>
    unfold hashByValue
    exact wpAny_pure (q _)
   | succ m =>
    unfold hashByValue
    apply wpAny_bind;apply wpAny_specialOf hT apE.lookup
    show wpAny _ _ (seqItems? (.ref a) >>= _) _ _ s
    apply wpAny_bind;apply wpAny_seqItems h1 h3
    apply wpAny_bind
    show wpAny _ _ (forIn vs _ _) _ _ s
    rw [<-aqy]
    exact aaF xs m A s _ _ _ _ h4 p (wpAny_pure (q _)) fun b=>wpAny_pure (q b)
 | .none,_,_,_,_,_,_,_,_,h,_=>by cases h
 | .bool _,_,_,_,_,_,_,_,_,h,_=>by cases h
 | .list _,_,_,_,_,_,_,_,_,h,_=>by cases h
 | .dict _,_,_,_,_,_,_,_,_,h,_=>by cases h
theorem aaF {P:Program} {w:World}:∀ (xs:List PyData) (m:Nat) (A:Around) (s:Shared) (vs:List Value) (as:List Addr) (E:Value->Shared->Prop) (Q:Option Bool×Unit->Shared->Prop),ReadsAll s.heap vs xs as->zK xs=true->Q (none,()) s->(∀ b,Q (some b,()) s) ->
  wpAny (model P w) A (forIn vs ((none,()):Option Bool×Unit) fun y _=>do
   let b <- hashByValue m y
   if (!b)=true then pure (ForInStep.done (some false,())) else pure (ForInStep.yield (none,()))) Q E s
 | [],m,A,s,_,_,E,Q,r,_,q,_=>by
  cases r
  rw [aqi]
  exact wpAny_pure q
 | x :: xs,m,A,s,_,_,E,Q,r,p,q,q2=>by
  cases r with
  | cons r1 r2 =>
   rw [zK,aoo] at p
   rw [aqb]
   apply wpAny_bind;apply wpAny_bind
   refine aaE x m A s _ _ _ _ r1 p.1 fun b=>?_
   cases b with
   | true =>
    simp only [apn,aoY,if_false]
    exact wpAny_pure (aaF xs m A s _ _ _ _ r2 p.2 q q2)
   | false =>
    simp only [aq9,if_true]
    exact wpAny_pure (wpAny_pure (q2 false))
end
noncomputable instance decPy:DecidableEq PyData:=fun a b=>apl _
structure KeyAt (h:Heap) (d:PyData) (a:Addr):Prop where
 rd:∃ as,Reads h (.ref a) d as
 pl:zv d=true
 dp:d.depth<=8
theorem KeyAt.keep {h h':Heap} {d:PyData} {a:Addr} (x:KeyAt h d a) (k:∀ b o,h.get? b=some o->(∀ es ep,o.data≠.dict es ep)->(∀ es ep t,o.data≠.set es ep t)->h'.get? b=some o):KeyAt h' d a:=by
 obtain⟨⟨as,r⟩,p,q⟩:=x
 refine⟨?_,p,q⟩
 have go:(∀ (d:PyData) (v:Value) (as:List Addr),Reads h v d as->zv d=true->Reads h' v d as):=by
  intro d v as r
  refine Reads.rec (motive_1:=fun v d as _=>zv d=true->Reads h' v d as) (motive_2:=fun vs ds as _=>zK ds=true->ReadsAll h' vs ds as) ?_ ?_ ?_ ?_ ?_ ?_ ?_ ?_ ?_ r
  ·intro p;cases p
  ·intro b p;cases p
  ·intro i t p;exact .int i t
  ·intro x t p;exact .str x t
  ·intro a o vs n xs as h1 h2 h3 h4 ih p;cases p
  ·intro a o vs n xs as h1 h2 h3 h4 ih p
   rw [zv] at p
   exact .tuple (k a o h1 (fun es ep z=>by rw [h3] at z;cases z) (fun es ep t z=>by rw [h3] at z;cases z)) h2 h3 (ih p)
  ·intros;rename_i p;cases p
  ·intro p;exact .nil
  ·intro v vs d ds as bs r rs ih1 ih2 p
   rw [zK,aoo] at p
   exact .cons (ih1 p.1) (ih2 p.2)
 exact⟨as,go d _ as r p⟩
noncomputable def aaQ (P:Program) (w:World):HeapKind P w PyData where
 is:=KeyAt
 hash:=zr w
 draws:=zZ
 room:=fun A=>A.units+40<cLine
 inj:=fun {h a x y} hx hy=>by
  obtain⟨⟨as,r⟩,p,_⟩:=hx
  obtain⟨⟨bs,r'⟩,p',_⟩:=hy
  exact SeqAt.Reads.unique _ _ _ _ _ (yE x p) r r'
 keeps:=fun {h h' k a d o es ep} x ho hd sb=>x.keep fun b u hb n1 n2=>by
  have:b≠d:=fun z=>by
   rw [z,ho] at hb
   cases hb
   exact n1 es ep hd
  exact (sb.2 b this).trans hb
 pyHash:=fun {A E s k a Q} hu x q=>by
  obtain⟨⟨as,r⟩,p,hd⟩:=x
  exact abv k A s _ as E Q r p (by omega) q
 eqBool:=fun {A E s x y a b Q} hu hx hy q=>by
  obtain⟨⟨as,r⟩,p,hd⟩:=hx
  obtain⟨⟨bs,r'⟩,p',hd'⟩:=hy
  refine SeqAt.eqAt_reads x y A s _ _ _ _ r r' (yE x p) (yE y p') (by omega) P w E Q ?_
  have:aoH x y=decide (x=y):=by
   by_cases e:x=y
   ·rw [decide_eq_true e];exact (aaP p p').mpr e
   ·rw [decide_eq_false e]
    cases z:aoH x y with
    | false=>rfl
    | true=>exact absurd ((aaP p p').mp z) e
  rw [this]
  exact q
 quiet:=fun {A E s k a Q} x q=>by
  obtain⟨⟨as,r⟩,p,hd⟩:=x
  exact jG k 8 A s _ as E Q r p hd q
end L2
end
section
namespace L2
open PySem PySem.Spec PyProof.Rows PySem.SetTable
section
variable {P:Program} {w:World} {A:Around} {E:Value->Shared->Prop} {s:Shared}
theorem akI {b:Addr} {d:PyData} {Q:Bool->Shared->Prop} (kb:KeyAt s.heap d b):∀ l:List Value,(∀ y∈l,∃ d' b',y=.ref b'/\KeyAt s.heap d' b')->Q false s->wpAny (model P w) A (searchCouldBeSeen (.ref b) l) Q E s:=by
 intro l hl q
 unfold searchCouldBeSeen
 apply wpAny_bind
 refine wpAny_forIn_list _ (fun rest r s'=>r=(none,())/\s'=s/\∀ y∈rest,y∈l) _ ?_ ?_ _ _ ⟨rfl,rfl,fun _ h=>h⟩
 ·rintro y rest r s' ⟨rfl,rfl,hm⟩
  obtain⟨d',b',rfl,kb'⟩:=hl y (hm y aom)
  obtain⟨⟨as,rd⟩,pd,dd⟩:=id kb
  obtain⟨⟨bs,rd'⟩,pd',dd'⟩:=id kb'
  have more:∀ z∈rest,z∈l:=fun z hz=>hm z (aon _ hz)
  dsimp only
  split
  ·exact wpAny_pure ⟨rfl,rfl,more⟩
  ·apply wpAny_bind
   refine jG d 8 A _ _ as _ _ rd pd dd ?_
   simp only [apn,aoY,if_false]
   apply wpAny_bind
   refine jG d' 8 A _ _ bs _ _ rd' pd' dd' ?_
   simp only [apn,aoY,if_false]
   apply wpAny_bind
   refine aat d 8 A _ _ as _ _ rd pd dd ?_
   simp only [aoY,if_false]
   apply wpAny_bind
   refine aat d' 8 A _ _ bs _ _ rd' pd' dd' ?_
   simp only [aoY,if_false]
   exact wpAny_pure ⟨rfl,rfl,more⟩
 ·rintro r s' ⟨rfl,rfl,_⟩
  exact wpAny_pure q
structure SetObj (w:World) (h:Heap) (a:Addr) (xs:List (PyData×Addr)) (o:Obj) (es:Array (Int×Value)) (ep:Nat) (t:SetTable):Prop where
 ob:h.get? a=some o
 ex:o.ExactSet
 da:o.data=.set es ep t
 el:es.toList=xs.map fun x=>(zr w x.1,Value.ref x.2)
 ok:ST.TOk t (xs.map fun x=>zr w x.1)
theorem SetObj.size {h:Heap} {a:Addr} {xs:List (PyData×Addr)} {o:Obj} {es:Array (Int×Value)} {ep:Nat} {t:SetTable} (x:SetObj w h a xs o es ep t):es.size=xs.length:=by
 rw [<-aoz,x.el,aog]
theorem SetObj.fits {h:Heap} {a:Addr} {xs:List (PyData×Addr)} {o:Obj} {es:Array (Int×Value)} {ep:Nat} {t:SetTable} (x:SetObj w h a xs o es ep t):t.fits es.size=true:=by
 unfold SetTable.fits ar0
 have h1:=x.ok.size
 have h2:=x.ok.most
 rw [aog] at h1 h2
 rw [x.size,h1,x.ok.dum]
 simp
 exact h2
theorem SetObj.at {h:Heap} {a:Addr} {xs:List (PyData×Addr)} {o:Obj} {es:Array (Int×Value)} {ep:Nat} {t:SetTable} (x:SetObj w h a xs o es ep t) {i:Nat} (hi:i<xs.length):es[i]?=some (zr w xs[i].1,Value.ref xs[i].2):=by
 rw [<-apQ,x.el,aoq,aof hi]
 rfl
theorem aja {t:SetTable} {hs:List Int} (o:ST.TOk t hs):t.gaveWay=false:=by
 unfold SetTable.gaveWay
 rcases o.mask with e | e | e | e <;> rw [e] <;> rfl
theorem ajb {α:Type} {M:Model} {c:Bool} {m:Sem Bool} {u:Sem Unit} {r:Sem α} {Q:α->Shared->Prop} (hr:wpAny M A r Q E s) (hm:∀ R:Bool->Shared->Prop,R false s->wpAny M A m R E s) :
  wpAny M A (if c=true then (do
   let b <- m
   if b=true then do
    u
    r
   else r) else r) Q E s:=by
 cases c with
 | false=>rw [if_neg aoi];exact hr
 | true =>
  rw [if_pos rfl]
  apply wpAny_bind
  refine hm _ ?_
  rw [if_neg aoi]
  exact hr
theorem aep {M:Model} {a:Addr} {Q:Bool->Shared->Prop} (q:Q true s):wpAny M A (isSame (.ref a) (.ref a)) Q E s:=by
 unfold isSame
 simp only [beq_self_eq_true]
 exact wpAny_pure q
theorem aau {a b:Addr} {d:PyData} {xs:List (PyData×Addr)} {o:Obj} {es:Array (Int×Value)} {ep:Nat} {t:SetTable} {adding:Bool} {Q:SetFound->Shared->Prop} (S:SetObj w s.heap a xs o es ep t) (ks:∀ x∈xs,KeyAt s.heap x.1 x.2)
  (kb:KeyAt s.heap d b) (hu:A.units+40<cLine) {F:Nat} (hF:ST.First t (zr w d) F) (yes:d∈xs.map (·.1)->∀ r:Option Nat,(adding=false->r.isSome=true)->Q (.there r) s) (no:d∉xs.map (·.1)->Q (.free (ST.pos t.mask (zr w d) F) false) s) :
  ∀ f k stand,k<=F->F<k+f->stand.getD (t.probeStart (zr w d))=ST.road t.mask (zr w d) k ->
   (∀ q i,q<k->i<xs.length->ST.pos t.mask (zr w d) q=t.place.getD i 0->(xs.getD i (.none,0)).1≠d) ->
   wpAny (model P w) A (setSearchFrom a (.ref b) (zr w d) adding f stand) Q E s
 | 0,k,stand,h1,h2,_,_=>by omega
 | f+1,k,stand,h1,h2,hst,past=>by
  have sz:=S.ok.size
  rw [aog] at sz
  have key:∀ g:Nat->Int,(∀ i,g i=(es[i]?.map (·.1)).getD 0) ->
    (t.probe g (zr w d) (ST.road t.mask (zr w d) k)=some (.empty (ST.pos t.mask (zr w d) F) none)/\∀ q i,k<=q->q<F->i<t.place.size->ST.pos t.mask (zr w d) q=t.place.getD i 0->g i≠zr w d) \/
    ∃ q i,k<=q/\q<F/\i<t.place.size/\ST.pos t.mask (zr w d) q=t.place.getD i 0/\g i=zr w d/\t.probe g (zr w d) (ST.road t.mask (zr w d) k)=some (.candidate (ST.pos t.mask (zr w d) q) i (ST.road t.mask (zr w d) (q+1)))/\∀ q' i',k<=q'->q'<q->i'<t.place.size->ST.pos t.mask (zr w d) q'=t.place.getD i' 0->g i'≠zr w d :=
   fun g _=>ST.probe_go S.ok.dum S.ok.rise hF (10 * turns t.mask) k h1 (by have:=hF.lt;omega)
  have gat:∀ i (hi:i<xs.length),(es[i]?.map (·.1)).getD 0=zr w xs[i].1:=fun i hi=>by rw [S.at hi];rfl
  unfold setSearchFrom
  apply wpAny_bind
  refine wpAny_setState_of S.ob S.da S.fits ?_
  dsimp only
  rw [aja S.ok,if_neg aoi,hst]
  have reach:∀ i (hi:i<xs.length),xs[i].1=d->∃ q,q<F/\ST.pos t.mask (zr w d) q=t.place.getD i 0:=fun i hi ed=>by
   obtain⟨q,a1,a2⟩:=S.ok.reach i (by rw [aog];exact hi)
   have eh:(xs.map fun x=>zr w x.1).getD i 0=zr w d:=by
    rw [aok,aoq,aof hi,<- ed]
    rfl
   rw [eh] at a1 a2
   refine⟨q,?_,a1⟩
   by_cases c:q<F
   ·exact c
   ·by_cases c2:q=F
    ·subst c2
     exact absurd ⟨i,by omega,a1.symm⟩ hF.free
    ·exact absurd (a2 F (by omega)) hF.free
  have ggd:∀ i (hi:i<xs.length),xs.getD i (.none,0)=xs[i]:=fun i hi=>by rw [aok,aof hi];rfl
  rcases key (fun i=>(es[i]?.map (·.1)).getD 0) (fun i=>rfl) with⟨e,none_⟩ | ⟨q,i,q1,q2,q3,q4,q5,e,none_⟩
  ·have ee:∀ g:Nat->Int,(∀ i,g i=(es[i]?.map (·.1)).getD 0)->t.probe g (zr w d) (ST.road t.mask (zr w d) k)=some (.empty (ST.pos t.mask (zr w d) F) none):=fun g hg=>by
    rw [show g=fun i=>(es[i]?.map (·.1)).getD 0 from funext hg]
    exact e
   rw [ee]
   rotate_left
   ·exact fun i=>rfl
   dsimp only
   refine wpAny_pure (no fun hd=>?_)
   obtain⟨x,hx,ex⟩:=aoC.mp hd
   obtain⟨i,hi,ei⟩:=apZ hx
   have ed:xs[i].1=d:=by rw [ei];exact ex
   obtain⟨q,qF,qp⟩:=reach i hi ed
   by_cases c:q<k
   ·exact past q i c hi qp (by rw [ggd i hi];exact ed)
   ·exact none_ q i (by omega) qF (by omega) qp (by rw [gat i hi,ed])
  ·have ee:∀ g:Nat->Int,(∀ i,g i=(es[i]?.map (·.1)).getD 0)->t.probe g (zr w d) (ST.road t.mask (zr w d) k)=some (.candidate (ST.pos t.mask (zr w d) q) i (ST.road t.mask (zr w d) (q+1))):=fun g hg=>by
    rw [show g=fun i=>(es[i]?.map (·.1)).getD 0 from funext hg]
    exact e
   have hi:i<xs.length:=by omega
   have mi:xs[i]∈xs:=aoQ hi
   have ki:=ks _ mi
   rw [ee]
   rotate_left
   ·exact fun i=>rfl
   dsimp only
   refine ajb ?_ fun R hR=>akI kb _ (fun y hy=>?_) hR
   rotate_left
   ·obtain⟨p,hp,rfl⟩:=aoC.mp hy
    have hp2:p∈es.toList:=by
     have:=aqR.mp hp
     exact aqR.mpr (Array.mem_filter.mp this).1
    rw [S.el] at hp2
    obtain⟨x,hx,rfl⟩:=aoC.mp hp2
    exact⟨x.1,x.2,rfl,ks x hx⟩
   rw [S.at hi]
   dsimp only
   apply wpAny_bind;apply wpAny_holding
   refine (aaQ P w).eqBool (A:=A) hu ki kb ?_
   apply wpAny_bind
   refine wpAny_setState_of S.ob S.da S.fits ?_
   dsimp only
   have same:t.sameMemory t.moves t.mask=some true:=by
    unfold SetTable.sameMemory
    rw [if_pos (beq_self_eq_true _)]
   have live:t.slot (ST.pos t.mask (zr w d) q)=.live i:=by rw [q4];exact ST.slot_live S.ok.rise q3
   by_cases ed:xs[i].1=d
   ·have y2:=yes (aoC.mpr ⟨_,mi,ed⟩)
    rw [decide_eq_true ed]
    cases adding with
    | true=>exact wpAny_pure (y2 _ fun z=>nomatch z)
    | false =>
     rw [apw,if_neg aoi,same]
     dsimp only
     rw [if_pos rfl,live]
     dsimp only
     rw [S.at hi]
     dsimp only
     apply wpAny_bind
     refine aep ?_
     apply wpAny_bind;apply wpAny_pure
     rw [if_pos rfl]
     dsimp only
     rw [if_pos rfl]
     exact wpAny_pure (y2 _ fun _=>rfl)
   ·rw [decide_eq_false ed,aq7,if_neg aoi,same]
    dsimp only
    rw [if_pos rfl,live]
    dsimp only
    rw [S.at hi]
    dsimp only
    apply wpAny_bind
    refine aep ?_
    apply wpAny_bind;apply wpAny_pure
    rw [if_pos rfl]
    dsimp only
    rw [if_neg aoi]
    refine aau S ks kb hu hF yes no f (q+1) _ (by omega) (by omega) rfl fun q' i' c1 c2 c3=>?_
    rw [ggd i' c2]
    intro z
    by_cases c4:q'<k
    ·exact past q' i' c4 c2 c3 (by rw [ggd i' c2];exact z)
    ·by_cases c5:q'=q
     ·subst c5
      have ii:i'=i:=by
       have b1:=ST.below_at S.ok.rise (i:=i) (by omega)
       have b2:=ST.below_at S.ok.rise (i:=i') (by omega)
       rw [<-q4] at b1
       rw [<-c3] at b2
       omega
      subst ii
      exact ed z
     ·exact none_ q' i' (by omega) (by omega) (by omega) c3 (by rw [gat i' c2,z])
end
end L2
end
section
namespace L2
open PySem PySem.Spec PyProof.Rows PySem.SetTable
section
variable {P:Program} {w:World} {A:Around} {E:Value->Shared->Prop} {s:Shared} {a b:Addr} {d:PyData} {xs:List (PyData×Addr)} {o:Obj} {es:Array (Int×Value)} {ep:Nat} {t:SetTable}
theorem SetObj.type (S:SetObj w s.heap a xs o es ep t):s.TypeIs (.ref a) "set":=⟨o,S.ob,S.ex.1⟩
theorem agB (b:Addr) (es:Array (Int×Value)):byScan (.ref b) es=false:=rfl
theorem aeq {Q:Bool->Shared->Prop} (S:SetObj w s.heap a xs o es ep t) (ks:∀ x∈xs,KeyAt s.heap x.1 x.2) (kb:KeyAt s.heap d b) (hu:A.units+60<cLine) (q:Q (decide (d∈xs.map (·.1))) { s with toks:=s.toks+zZ d }) :
  wpAny (model P w) A (contains (.ref a) (.ref b)) Q E s:=by
 obtain⟨F,hF⟩:=ST.first_of S.ok.toTB (zr w d)
 have hl:=hF.lt
 have ht:turns t.mask<=526:=by
  unfold turns
  rcases S.ok.mask with e | e | e | e <;> omega
 unfold contains
 try with_reducible refine wpAny_holding ?_
 apply wpAny_bind;apply wpAny_specialOf S.type aql.lookup
 show wpAny _ _ (if (some (Value.builtin "set.__contains__") == some Value.none)=true then _ else _) _ E s
 rw [if_neg (by rw [beq_builtin_none];exact aoi)]
 apply wpAny_bind
 refine wpAny_callSpecialUnlessNone?_slot (name:=ar6 "__contains__") S.type aql (wpAny_call_entry aql S.type entry_set_contains ?_ (PySem.F.args_set_contains_2 _ _))
 unfold Builtin.«frozenset.__contains__» ara
 simp only [List.isEmpty_nil,bind_assoc]
 unfold art Builtin.Frozenset.withSetAsKey setContains
 apply wpAny_bind;apply wpAny_pure
 dsimp only
 apply wpAny_bind;apply wpAny_pure
 dsimp only
 apply wpAny_bind;apply wpAny_tryCatch;apply wpAny_holding
 apply wpAny_bind
 have hu1:A.in1.units=A.units+1:=rfl
 have hu2:A.in1.in1.units=A.units+1+1:=rfl
 refine (aaQ P w).pyHash (by show _+40<cLine;omega) kb ?_
 apply wpAny_bind
 unfold setFind setFindIn
 apply wpAny_bind
 refine wpAny_setState_of (s:={ s with toks:=s.toks+zZ d }) S.ob S.da S.fits ?_
 dsimp only
 rw [agB,if_neg aoi]
 apply wpAny_bind
 unfold setSearch
 have fin:∀ r:Option Nat,r.isSome=decide (d∈xs.map (·.1))->∀ R:Value->Shared->Prop,R (.bool (decide (d∈xs.map (·.1)))) { s with toks:=s.toks+zZ d }->R (.bool r.isSome) { s with toks:=s.toks+zZ d }:=fun r e R hR=>by rw [e];exact hR
 refine aau (s:={ s with toks:=s.toks+zZ d }) (adding:=false) S ks kb (by omega) hF (fun hd r hr=>?_) (fun hd=>?_) 100000 0 none (ao2 _) (by omega) (ST.road_start t _) (fun q i c=>by omega)
 ·refine wpAny_pure (wpAny_pure ?_)
  show wpAny _ _ (ret (Value.bool r.isSome)) _ _ _
  rw [hr rfl]
  rw [decide_eq_true hd] at q
  exact wpAny_pure ⟨_,rfl,wpAny_truthy_bool q⟩
 ·refine wpAny_pure (wpAny_pure ?_)
  show wpAny _ _ (ret (Value.bool false)) _ _ _
  rw [decide_eq_false hd] at q
  exact wpAny_pure ⟨_,rfl,wpAny_truthy_bool q⟩
def agC (es:Array (Int×Value)) (laid:Option (SetTable×Array Nat)):Sem (Array (Int×Value)×SetTable):=do
 let some (t,order):=laid | unsupported "internal:set-table-without-room"
 let es':=order.filterMap (es[·]?)
 if es'.size != es.size then unsupported "internal:set-table-lost-an-element"
 pure (es',t)
theorem ajc (a:Addr) (wanted:Nat):setRelay a wanted=(do
  let (es,_,t) <- setState a
  if arb wanted > sizeLine then unsupported "set:memory"
  let (es,t) <- agC es (t.relaid (es.map (·.1)) wanted)
  storeSet a es t):=rfl
theorem vG {α:Type} (es:Array α):∀ l:List Nat,(∀ i∈l,i<es.size)->∀ dflt:α,l.filterMap (fun i=>es[i]?)=l.map fun i=>es.toList.getD i dflt
 | [],_,_=>rfl
 | i :: l,h,dflt=>by
  have hi:=h i aom
  rw [aqm,apB hi,aoI,vG es l (fun j hj=>h j (aon _ hj)) dflt]
  simp [hi]
theorem ajd {Q:Unit->Shared->Prop} {mask wanted:Nat} (S0:s.heap.get? a=some o) (ex:o.ExactSet) (da:o.data=.set es ep t) (el:es.toList=xs.map fun x=>(zr w x.1,Value.ref x.2)) (tb:ST.TB t (xs.map fun x=>zr w x.1)) (mk:mask=31 \/ mask=127 \/ mask=511) (hw:arb wanted=mask+1)
  (room:xs.length * 5<mask * 3) (q:∀ xs' o' es' ep' t' h',xs'.Perm xs->apU a s.heap h'->SetObj w h' a xs' o' es' ep' t'->Q () { s with heap:=h' }):wpAny (model P w) A (setRelay a wanted) Q E s:=by
 have sz:es.size=xs.length:=by rw [<-aoz,el,aog]
 have fits:t.fits es.size=true:=by
  unfold SetTable.fits ar0
  have h1:=tb.size
  have h2:=tb.most
  rw [aog] at h1 h2
  rw [sz,h1,tb.dum]
  simp
  exact h2
 have mk2:mask=7 \/ mask=31 \/ mask=127 \/ mask=511:=.inr mk
 obtain⟨t2,ord,e1,e2,_,_,pm,tb2⟩:=ST.laid_ok mk2 (es.map (·.1)) (by rw [arQ,sz];omega) t.finger (t.movedTo mask) t.led t.plain
 rw [arQ] at pm
 have hlt:∀ i∈ord.toList,i<es.size:=fun i hi=>aoK.mp (pm.mem_iff.mp hi)
 let xs':=ord.toList.map fun i=>xs.getD i (.none,0)
 have px:xs'.Perm xs:=by
  have e:(aow es.size).map (fun i=>xs.getD i (.none,0))=xs:=by
   rw [sz]
   refine aqf fun i=>?_
   rw [aoq]
   by_cases hi:i<xs.length
   ·rw [apF hi,aof hi]
    simp [hi]
   ·rw [aoP (by simp;omega),aoP (by omega)]
    rfl
  have:=pm.map fun i=>xs.getD i (.none,0)
  rw [e] at this
  exact this
 have ee:(ord.filterMap (es[·]?)).toList=xs'.map fun x=>(zr w x.1,Value.ref x.2):=by
  rw [Array.toList_filterMap,vG es ord.toList hlt (0,Value.none),apJ]
  refine aqn fun i hi=>?_
  have h2:=hlt i hi
  have h3:i<xs.length:=by omega
  rw [el,aok,aoq,aof h3]
  show _=(zr w (xs.getD i (.none,0)).1,Value.ref (xs.getD i (.none,0)).2)
  rw [aok,aof h3]
  rfl
 have es_sz:(ord.filterMap (es[·]?)).size=es.size:=by
  rw [<-aoz,ee,aog,px.length_eq,sz]
 have tok:ST.TOk t2 (xs'.map fun x=>zr w x.1):=by
  have eh:(ord.toList.map fun i=>(es.map (·.1)).toList.getD i 0)=xs'.map fun x=>zr w x.1:=by
   rw [apJ]
   refine aqn fun i hi=>?_
   have h3:i<xs.length:=by have:=hlt i hi;omega
   rw [Array.toList_map,el,apJ,aok,aoq,aof h3]
   show zr w xs[i].1=zr w (xs.getD i (.none,0)).1
   rw [aok,aof h3]
   rfl
  rw [eh] at tb2
  refine⟨tb2,?_⟩
  rw [aog,px.length_eq,e2]
  exact room
 rw [ajc]
 apply wpAny_bind
 refine wpAny_setState_of S0 da fits ?_
 dsimp only
 rw [hw,if_neg (by rw [sizeLine_eq];omega)]
 have e1':t.relaid (es.map (·.1)) wanted=some (t2,ord):=by
  unfold SetTable.relaid
  rw [hw]
  exact e1
 unfold agC
 rw [e1']
 apply wpAny_bind
 dsimp only
 rw [es_sz,bne_self_eq_false,if_neg aoi]
 apply wpAny_pure
 dsimp only
 refine wpAny_storeSet_of S0 da ?_ (by rw [es_sz,sz,sizeLine_eq];omega)
 refine q xs' { o with data:=.set (ord.filterMap (es[·]?)) (ep+1) t2 } (ord.filterMap (es[·]?)) (ep+1) t2 _ px (aqo _ _ _) ⟨?_,ex,rfl,ee,tok⟩
 have:=aqc (arE (ord.filterMap (es[·]?)) t2) S0 (by rw [putSet_of _ _ da];rfl)
 rw [putSet_of _ _ da] at this
 exact this
theorem aje {t:SetTable} {hs:List Int} {p:Bool} (x:ST.TB t hs):ST.TB { t with plain:=p } hs:=⟨x.mask,x.dum,x.rise,x.le,x.size,x.most,x.reach⟩
theorem akJ {Q:Shared->Prop} (S:SetObj w s.heap a xs o es ep t) (ks:∀ x∈xs,KeyAt s.heap x.1 x.2) (kb:KeyAt s.heap d b) (hu:A.units+59<cLine) (few:xs.length<300)
  (old:d∈xs.map (·.1)->Q { s with toks:=s.toks+zZ d })
  (new:d∉xs.map (·.1)->∀ xs' o' es' ep' t' h',xs'.Perm ((d,b) :: xs)->apU a s.heap h'->SetObj w h' a xs' o' es' ep' t'->Q { s with heap:=h',toks:=s.toks+zZ d }) :
  wpAny (model P w) A (setAdd a (.ref b)) (fun _ s'=>Q s') E s:=by
 obtain⟨F,hF⟩:=ST.first_of S.ok.toTB (zr w d)
 have hl:=hF.lt
 have ht:turns t.mask<=526:=by
  unfold turns
  rcases S.ok.mask with e | e | e | e <;> omega
 have room:=S.ok.room
 rw [aog] at room
 unfold setAdd
 apply wpAny_holding
 apply wpAny_bind
 refine (aaQ P w).pyHash (by show _+40<cLine;omega) kb ?_
 show wpAny _ _ (setAddHashed a (.ref b) (zr w d)) _ _ _
 unfold setAddHashed setAddHashedIn
 apply wpAny_holding
 apply wpAny_bind
 refine wpAny_setState_of (s:={ s with toks:=s.toks+zZ d }) S.ob S.da S.fits ?_
 dsimp only
 rw [agB,if_neg aoi]
 apply wpAny_bind
 unfold setSearch
 refine aau (s:={ s with toks:=s.toks+zZ d }) (adding:=true) S ks kb (by omega) hF (fun hd r _=>?_) (fun hd=>?_) 100000 0 none (ao2 _) (by omega) (ST.road_start t _) (fun q i c=>by omega)
 ·exact wpAny_pure (old hd)
 ·dsimp only
  apply wpAny_bind
  refine wpAny_setState_of (s:={ s with toks:=s.toks+zZ d }) S.ob S.da S.fits ?_
  dsimp only
  obtain⟨hp,tb⟩:=ST.put_tb S.ok.toTB hF (by rw [aog];rcases S.ok.mask with e | e | e | e <;> rw [e] at room ⊢ <;> omega)
  rw [aog] at hp
  have ep2:(t.put (ST.pos t.mask (zr w d) F)).2=below t.place (ST.pos t.mask (zr w d) F):=rfl
  rw [ep2]
  generalize below t.place (ST.pos t.mask (zr w d) F)=p at *
  have pm:(xs.take p++(d,b) :: xs.drop p).Perm ((d,b) :: xs):=by
   refine List.perm_middle.trans ?_
   rw [aqd]
  have el:(insertAt es p (zr w d,Value.ref b)).toList=(xs.take p++(d,b) :: xs.drop p).map fun x=>(zr w x.1,Value.ref x.2):=by
   rw [aqt,S.el,aoF,aoI,ar1,ar2]
  have eh:(xs.map fun x=>zr w x.1).take p++zr w d :: (xs.map fun x=>zr w x.1).drop p=(xs.take p++(d,b) :: xs.drop p).map fun x=>zr w x.1:=by
   rw [aoF,aoI,ar1,ar2]
  rw [eh] at tb
  have ln:(xs.take p++(d,b) :: xs.drop p).length=xs.length+1:=by rw [pm.length_eq];rfl
  have sze:(insertAt es p (zr w d,Value.ref b)).size=xs.length+1:=by rw [<-aoz,el,aog,ln]
  have step:∀ bv:Bool,∀ t2,t2=(if bv=true then (t.put (ST.pos t.mask (zr w d) F)).1 else { (t.put (ST.pos t.mask (zr w d) F)).1 with plain:=false }) ->
    ST.TB t2 ((xs.take p++(d,b) :: xs.drop p).map fun x=>zr w x.1)/\t2.mask=t.mask:=fun bv t2 e=>by
   subst e
   cases bv with
   | true=>exact⟨tb,rfl⟩
   | false=>exact⟨aje tb,rfl⟩
  have tail:∀ bv:Bool,wpAny (model P w) A (do
    storeSet a (insertAt es p (zr w d,Value.ref b)) (if bv=true then (t.put (ST.pos t.mask (zr w d) F)).1 else { (t.put (ST.pos t.mask (zr w d) F)).1 with plain:=false })
    if (!false && (if bv=true then (t.put (ST.pos t.mask (zr w d) F)).1 else { (t.put (ST.pos t.mask (zr w d) F)).1 with plain:=false }).tooFull)=true then do
     setRelay a (SetTable.grown (es.size+1))
     pure true
    else pure true) (fun _ s'=>Q s') E { s with toks:=s.toks+zZ d }:=fun bv=>by
   obtain⟨tb2,em⟩:=step bv _ rfl
   generalize (if bv=true then (t.put (ST.pos t.mask (zr w d) F)).1 else { (t.put (ST.pos t.mask (zr w d) F)).1 with plain:=false })=t2 at *
   apply wpAny_bind
   refine wpAny_storeSet_of (s:={ s with toks:=s.toks+zZ d }) S.ob S.da ?_ (by rw [sze,sizeLine_eq];omega)
   have g:(s.heap.update a (arE (insertAt es p (zr w d,Value.ref b)) t2)).get? a=some { o with data:=.set (insertAt es p (zr w d,Value.ref b)) (ep+1) t2 }:=by
    have:=aqc (arE (insertAt es p (zr w d,Value.ref b)) t2) S.ob (by rw [putSet_of _ _ S.da];rfl)
    rw [putSet_of _ _ S.da] at this
    exact this
   have sb:=aqo s.heap a (arE (insertAt es p (zr w d,Value.ref b)) t2)
   have fill:t2.tooFull=decide ((xs.length+1) * 5 >= t.mask * 3):=by
    unfold SetTable.tooFull ar0
    have h1:=tb2.size
    rw [aog,ln] at h1
    rw [h1,tb2.dum,em]
    rfl
   rw [aq9,apv,fill]
   by_cases full:(xs.length+1) * 5 >= t.mask * 3
   ·rw [if_pos (decide_eq_true full),S.size]
    have:∃ mask,(mask=31 \/ mask=127 \/ mask=511)/\arb (SetTable.grown (xs.length+1))=mask+1/\(xs.length+1) * 5<mask * 3:=by
     rcases S.ok.mask with e | e | e | e
     ·rw [e] at room full
      have:xs.length=4:=by omega
      rw [this]
      exact⟨31,.inl rfl,by decide,by decide⟩
     ·rw [e] at room full
      have:xs.length=18:=by omega
      rw [this]
      exact⟨127,.inr (.inl rfl),by decide,by decide⟩
     ·rw [e] at room full
      have:xs.length=76:=by omega
      rw [this]
      exact⟨511,.inr (.inr rfl),by decide,by decide⟩
     ·rw [e] at room full
      omega
    obtain⟨mask,mk,hw,rm⟩:=this
    apply wpAny_bind
    refine ajd (s:={ s with heap:=s.heap.update a (arE (insertAt es p (zr w d,Value.ref b)) t2),toks:=s.toks+zZ d }) (o:={ o with data:=.set (insertAt es p (zr w d,Value.ref b)) (ep+1) t2 }) g S.ex rfl el tb2 mk hw (by rw [ln];exact rm) fun xs' o' es' ep' t' h' px sb' S'=>wpAny_pure ?_
    exact new hd xs' o' es' ep' t' h' (px.trans pm) (sb.trans sb') S'
   ·rw [if_neg (by rw [decide_eq_false full];exact aoi)]
    refine wpAny_pure (new hd _ _ _ _ _ _ pm sb ⟨g,S.ex,rfl,el,⟨tb2,?_⟩⟩)
    rw [aog,ln,em]
    omega
  obtain⟨as,rd⟩:=kb.rd
  split
  ·apply wpAny_bind
   exact aaE d 8 _ { s with toks:=s.toks+zZ d } _ as _ _ rd kb.pl fun bv=>tail bv
  ·apply wpAny_bind;apply wpAny_pure
   exact tail true
theorem amJ {Q:Value->Shared->Prop} (S:SetObj w s.heap a xs o es ep t) (ks:∀ x∈xs,KeyAt s.heap x.1 x.2) (kb:KeyAt s.heap d b) (hu:A.units+60<cLine) (few:xs.length<300)
  (old:d∈xs.map (·.1)->Q .none { s with toks:=s.toks+zZ d })
  (new:d∉xs.map (·.1)->∀ xs' o' es' ep' t' h',xs'.Perm ((d,b) :: xs)->apU a s.heap h'->SetObj w h' a xs' o' es' ep' t'->Q .none { s with heap:=h',toks:=s.toks+zZ d }) :
  wpAny (model P w) A (call (.builtin "set.add") [.ref a,.ref b]) Q E s:=by
 refine wpAny_call_entry aqS S.type PySem.F.entry_set_add ?_ (PySem.F.args_set_add_2 _ _)
 unfold Builtin.«set.add» ara
 simp only [List.isEmpty_nil,bind_assoc]
 unfold art
 apply wpAny_bind;apply wpAny_pure
 try dsimp only
 apply wpAny_bind;apply wpAny_pure
 try dsimp only
 apply wpAny_bind
 have hu1:A.in1.units=A.units+1:=rfl
 refine akJ (Q:=fun s'=>wpAny (model P w) A.in1 (ret Value.none) (fun fin s'=>∃ r,fin=.done (.ret r)/\Q r s') E s') S ks kb (by omega) few (fun hd=>wpAny_pure ⟨_,rfl,old hd⟩) fun hd xs' o' es' ep' t' h' p1 p2 p3=>wpAny_pure ⟨_,rfl,new hd xs' o' es' ep' t' h' p1 p2 p3⟩
end
inductive OC where
 | lst (es:List PyData)
 | set (ks:List PyData)
 | dic (kvs:List (PyData×PyData))
def SetO (w:World) (a:Addr) (xs:List (PyData×Addr)):HO:=.ext fun h=>∃ o es ep t,SetObj w h a xs o es ep t
structure DicObj (w:World) (h:Heap) (a:Addr) (xs:List (PyData×Addr×Value)) (o:Obj) (es:Array DictEntry) (ep:Nat):Prop where
 ob:h.get? a=some o
 ex:o.ExactDict
 da:o.data=.dict es ep
 el:es.toList=xs.map fun x=>(⟨zr w x.1,.ref x.2.1,x.2.2⟩:DictEntry)
 nd:(xs.map (·.1)).Nodup
 ns:(a == sysModules)=false
def DicO (w:World) (a:Addr) (xs:List (PyData×Addr×Value)):HO:=.ext fun h=>∃ o es ep,DicObj w h a xs o es ep
def vR (d:PyData):Prop:=zv d=true/\d.depth<=8
def EntR (K:aol) (Hh:Hp) (x:PyData×Addr×Value) (p:PyData×PyData):Prop:=x.1=p.1/\vR x.1/\Rep K Hh x.1 (.ref x.2.1)/\∃ v,Rep K Hh p.2 v/\RelV v x.2.2
theorem EntR.mono {K:aol} {Hh Hh':Hp} (s:Same Hh Hh'):∀ {xs:List (PyData×Addr×Value)} {kvs:List (PyData×PyData)},Paired (EntR K Hh) xs kvs->Paired (EntR K Hh') xs kvs
 | _,_,.nil=>.nil
 | _,_,.cons ⟨h1,h2,h3,v,h4,h5⟩ t=>.cons ⟨h1,h2,Rep.mono s _ _ h3,v,Rep.mono s _ _ h4,h5⟩ (EntR.mono s t)
def OwnAt (w:World) (K:aol) (Hh H:Hp) (D:Addr):OC->Prop
 | .lst es=>∃ vs,H D=some (.lst vs)/\Reps K Hh es vs
 | .set ks=>∃ xs:List (PyData×Addr),H D=some (SetO w D xs)/\(∀ x∈xs,vR x.1/\Rep K Hh x.1 (.ref x.2))/\(∀ d,d∈xs.map (·.1)↔d∈ks)/\xs.length<=ks.length
 | .dic kvs=>∃ xs:List (PyData×Addr×Value),H D=some (DicO w D xs)/\Paired (EntR K Hh) xs kvs
theorem OwnAt.mono {w:World} {K:aol} {Hh Hh' H H':Hp} {D:Addr} (e:H' D=H D) (s:Same Hh Hh'):∀ {c:OC},OwnAt w K Hh H D c->OwnAt w K Hh' H' D c
 | .lst es,⟨vs,h1,h2⟩=>⟨vs,e.trans h1,Reps.mono s es vs h2⟩
 | .set ks,⟨xs,h1,h2,h3⟩=>⟨xs,e.trans h1,fun x hx=>⟨(h2 x hx).1,Rep.mono s _ _ (h2 x hx).2⟩,h3⟩
 | .dic kvs,⟨xs,h1,h2⟩=>⟨xs,e.trans h1,EntR.mono s h2⟩
def Fx.withs (f:Fx) (Ds:List Addr):Fx:={ f with M:=Ds.reverse++f.M }
theorem yr (f:Fx) (Ds:List Addr) (D:Addr):f.withs (Ds++[D])=(f.withs Ds).with D:=by
 unfold Fx.withs Fx.with
 rw [aqp]
 rfl
structure CM (w:World) (K:aol) (f:Fx) (Ds:List Addr) (H2:Hp) (ρ:zq) (cs:List OC) (σ:St) (H:Hp):Prop where
 env:EnvOk K (f.withs Ds) ρ σ H
 sm:Same (hide H2 (f.withs Ds)) (hide H (f.withs Ds))
 kp:∀ b∈f.M,H b=H2 b
 len:cs.length=Ds.length
 own:∀ (i:Nat) D c,Ds[i]?=some D->cs[i]?=some c->OwnAt w K (hide H (f.withs Ds)) H D c
structure Sep (f:Fx) (Ds:List Addr):Prop where
 nd:Ds.Nodup
 nf:∀ D∈Ds,f.f≠some D
 nm:∀ D∈Ds,D∉f.M
section
variable {w:World} {K:aol} {f:Fx} {Ds:List Addr} {H H' H2:Hp} {ρ ρ2:zq} {cs:List OC} {σ σ2:St} {i:Nat} {D:Addr} {c:OC} {o:HO}
theorem jv (hD:D∈Ds):D∈(f.withs Ds).M:=aoJ _ (apM.mpr hD)
theorem ym (hD:D∈Ds):hide (upd H D o) (f.withs Ds)=hide H (f.withs Ds):=by
 funext b
 unfold hide
 by_cases h:(f.withs Ds).f=some b \/ b∈(f.withs Ds).M
 ·rw [if_pos h,if_pos h]
 ·rw [if_neg h,if_neg h,zu fun (z:b=D)=>h (.inr (z▸jv hD))]
theorem CM.go (x:CM w K f Ds H2 ρ cs σ H) (g:Goes (f.withs Ds) H H') (e2:EnvOk K (f.withs Ds) ρ2 σ2 H'):CM w K f Ds H2 ρ2 cs σ2 H' :=
 ⟨e2,x.sm.trans g.sm,fun b hb=>(g.kp b (aoA _ hb)).trans (x.kp b hb),x.len,fun i D c h1 h2=>(x.own i D c h1 h2).mono (g.kp D (jv (aoj h1))) g.sm⟩
theorem CM.self (x:CM w K f Ds H2 ρ cs σ H):CM w K f Ds H ρ cs σ H:=⟨x.env,Same.refl _,fun _ _=>rfl,x.len,x.own⟩
theorem CM.trans {cs':List OC} {ρ':zq} {σ':St} (x:CM w K f Ds H2 ρ cs σ H) (y:CM w K f Ds H ρ' cs' σ' H'):CM w K f Ds H2 ρ' cs' σ' H':=⟨y.env,x.sm.trans y.sm,fun b hb=>(y.kp b hb).trans (x.kp b hb),y.len,y.own⟩
theorem akK (se:Sep f Ds) (hD:D∈Ds) (h:FOk (f.withs Ds) H):FOk (f.withs Ds) (upd H D o) :=
 ⟨fun p e=>let⟨a,b,h1,h2⟩:=h.fd p e;⟨a,b,by rw [zu (fun (z:p=D)=>se.nf D hD (z▸e))];exact h1,h2⟩,fun b hb=>by
  by_cases e:b=D
  ·exact⟨o,by rw [e];exact zy⟩
  ·obtain⟨u,hu⟩:=h.mm b hb
   exact⟨u,by rw [zu e];exact hu⟩,h.nm⟩
theorem akL (se:Sep f Ds) (hD:D∈Ds) (e:EnvOk K (f.withs Ds) ρ σ H):EnvOk K (f.withs Ds) ρ σ (upd H D o) :=
 ⟨e.len,fun i x h=>by
  obtain⟨v,h1,h2⟩:=e.get i x h
  refine⟨v,h1,?_⟩
  cases x with
  | dat d =>
   show Rep K (hide (upd H D o) (f.withs Ds)) d v
   rw [ym hD]
   exact h2
  | feed=>exact h2
  | own k=>exact h2
  | exc C =>
   obtain⟨a,e1,q⟩:=h2
   exact⟨a,e1,by rw [ym hD];exact q⟩
  | mon φ =>
   intro H' s
   rw [ym hD] at s
   exact h2 H' s,akK se hD e.fd⟩
theorem CM.put {c':OC} (se:Sep f Ds) (x:CM w K f Ds H2 ρ cs σ H) (hi:Ds[i]?=some D) (ho:OwnAt w K (hide H (f.withs Ds)) (upd H D o) D c'):CM w K f Ds H2 ρ (cs.set i c') σ (upd H D o):=by
 have hD:=aoj hi
 refine⟨akL se hD x.env,by rw [ym hD];exact x.sm,fun b hb=>(zu (fun (z:b=D)=>se.nm D hD (z▸hb))).trans (x.kp b hb),by rw [aqv];exact x.len,fun j D' c h1 h2=>?_⟩
 rw [ym hD]
 by_cases e:i=j
 ·subst e
  rw [hi] at h1
  cases h1
  have hl:i<cs.length:=by rw [x.len];exact (aoh.mp hi).1
  rw [apG hl] at h2
  cases h2
  exact ho
 ·rw [aqg e] at h2
  have ne:D'≠D:=fun z=>by
   subst z
   obtain⟨l1,e1⟩:=aoh.mp hi
   obtain⟨l2,e2⟩:=aoh.mp h1
   exact e ((aqL se.nd).mp (e1.trans e2.symm))
  exact (x.own j D' c h1 h2).mono (zu ne) (Same.refl _)
end
structure MEnds where
 nx:zq->List OC->Prop
 rt:PyData->Prop
 bk:zq->List OC->Prop:=fun _ _=>False
 ct:zq->List OC->Prop:=fun _ _=>False
def PSm (w:World) (K:aol) (f:Fx) (Ds:List Addr) (ts:TS) (ρ:zq) (cs:List OC) (O:MEnds):Prop:=Sep f Ds->∀ (σ:St) (H H2:Hp) (E:Ends),CM w K f Ds H2 ρ cs σ H ->
 (∀ ρ' cs' σ' H',CM w K f Ds H2 ρ' cs' σ' H'->O.nx ρ' cs'->E.nx σ' H')->(∀ d v ρ' cs' σ' H',CM w K f Ds H2 ρ' cs' σ' H'->Rep K (hide H' f) d v->O.rt d->E.rt v H') ->
 (∀ ρ' cs' σ' H',CM w K f Ds H2 ρ' cs' σ' H'->O.bk ρ' cs'->E.bk σ' H')->(∀ ρ' cs' σ' H',CM w K f Ds H2 ρ' cs' σ' H'->O.ct ρ' cs'->E.ct σ' H')->ts E σ H
def PTm (w:World) (K:aol) (f:Fx) (Ds:List Addr) (tt:TT) (ρ:zq) (cs:List OC) (B:Bool->Prop):Prop:=Sep f Ds->∀ (σ:St) (H H2:Hp) (Q:Bool->Hp->Prop),CM w K f Ds H2 ρ cs σ H->(∀ b H',Goes (f.withs Ds) H H'->B b->Q b H')->tt σ H Q
def PEm (w:World) (K:aol) (f:Fx) (Ds:List Addr) (te:TE) (ρ:zq) (cs:List OC) (P:PyData->Prop):Prop:=Sep f Ds->∀ (σ:St) (H H2:Hp) (Q:VK),CM w K f Ds H2 ρ cs σ H->(∀ d v H',Goes (f.withs Ds) H H'->Rep K (hide H' (f.withs Ds)) d v->P d->Q v H')->te σ H Q
def ade (w:World) (K:aol) (f:Fx) (te:TE) (ρ:zq) (P:OC->Prop):Prop:=∀ (σ:St) (H:Hp) (Q:VK),EnvOk K f ρ σ H ->
 (∀ c D H',Goes f H H'->H D=none->OwnAt w K (hide H' (f.with D)) H' D c->P c->Q (.ref D) H')->te σ H Q
section
variable {w:World} {K:aol} {f:Fx} {Ds:List Addr} {ρ:zq} {cs:List OC} {ts tu:TS} {tt:TT} {te:TE} {wi:TI} {g:TG} {O:MEnds} {i j:Nat}
theorem same_withs {H:Hp}:Same (hide H (f.withs Ds)) (hide H f):=fun b o h=>by
 obtain⟨h1,h2⟩:=zN h
 exact zF (fun z=>h1 (z.elim .inl fun z=>.inr (aoA _ z))) h2
theorem afm {D:DEnds} (h:PSm w K f [] ts ρ [] { nx:=fun ρ' _=>D.nx ρ',rt:=D.rt,bk:=fun ρ' _=>D.bk ρ',ct:=fun ρ' _=>D.ct ρ' }):PSd K f ts ρ D:=fun σ H E e n r b k=>by
 have gg:∀ {ρ':zq} {cs':List OC} {σ':St} {H':Hp},CM w K f [] H ρ' cs' σ' H'->Goes f H H':=fun x=>⟨x.sm,x.env.fd,x.kp⟩
 exact h ⟨apj,(fun _ z=>nomatch z),(fun _ z=>nomatch z)⟩ σ H H E ⟨e,Same.refl _,fun _ _=>rfl,rfl,(fun i D c z=>nomatch z)⟩
  (fun ρ' cs' σ' H' x p=>n ρ' σ' H' (gg x) x.env p) (fun d v ρ' cs' σ' H' x r' p=>r d v H' (gg x) r' p) (fun ρ' cs' σ' H' x p=>b ρ' σ' H' (gg x) x.env p) (fun ρ' cs' σ' H' x p=>k ρ' σ' H' (gg x) x.env p)
theorem abx (h:PSd K (f.withs Ds) ts ρ { nx:=fun ρ'=>O.nx ρ' cs,rt:=O.rt,bk:=fun ρ'=>O.bk ρ' cs,ct:=fun ρ'=>O.ct ρ' cs }):PSm w K f Ds ts ρ cs O:=fun se σ H H2 E x n r b k =>
 h σ H E x.env (fun ρ' σ' H' g' e' p=>n ρ' cs σ' H' (x.go g' e') p) (fun d v H' g' r' p=>r d v ρ cs σ H' (x.go g' (x.env.mono g')) (Rep.mono same_withs d v r') p) (fun ρ' σ' H' g' e' p=>b ρ' cs σ' H' (x.go g' e') p) (fun ρ' σ' H' g' e' p=>k ρ' cs σ' H' (x.go g' e') p)
theorem vH (h:PSm w K f Ds ts ρ cs { O with nx:=fun ρ' cs'=>PSm w K f Ds tu ρ' cs' O }):PSm w K f Ds (qL ts tu) ρ cs O:=fun se σ H H2 E x n r b k =>
 h se σ H H2 _ x (fun ρ' cs' σ' H' x' p=>p se σ' H' H2 E x' n r b k) r b k
theorem aby (h:O.nx ρ cs):PSm w K f Ds afY ρ cs O:=fun _ σ H H2 E x n r b k=>n ρ cs σ H x h
theorem anE {B:Bool->Prop} (h:PTd K (f.withs Ds) tt ρ B):PTm w K f Ds tt ρ cs B:=fun se σ H H2 Q x q=>h σ H Q x.env q
theorem aab {P:PyData->Prop} (h:PEd K (f.withs Ds) te ρ P):PEm w K f Ds te ρ cs P:=fun se σ H H2 Q x q=>h σ H Q x.env q
theorem ahB (h:PTm w K f Ds tt ρ cs fun b=>if b=true then PSm w K f Ds ts ρ cs O else PSm w K f Ds tu ρ cs O):PSm w K f Ds (akn tt ts tu) ρ cs O:=fun se σ H H2 E x n r b k =>
 h se σ H H2 _ x fun q H1 g1 p=>by
  have x1:=x.go g1 (x.env.mono g1)
  cases q with
  | false =>
   rw [if_neg aoi] at p ⊢
   exact p se σ H1 H2 E x1 n r b k
  | true =>
   rw [if_pos rfl] at p ⊢
   exact p se σ H1 H2 E x1 n r b k
theorem qR (h:PId K (f.withs Ds) wi ρ fun ds=>∃ J:Nat->zq->List OC->Prop,J 0 ρ cs /\
   (∀ (i:Nat) d ρ' cs',ds[i]?=some d->J i ρ' cs'->PGd K (f.withs Ds) g d ρ' fun ρ2=>PSm w K f Ds ts ρ2 cs' { O with nx:=J (i+1),ct:=J (i+1),bk:=O.nx })/\∀ ρ' cs',J ds.length ρ' cs'->O.nx ρ' cs') :
  PSm w K f Ds (akr wi g ts) ρ cs O:=fun se σ H H2 E x n r b k=>h σ H _ x.env fun ds J H1 g1 it ⟨Jv,j0,js,jd⟩=>by
 have x1:=x.go g1 (x.env.mono g1)
 refine⟨fun i m σ' H'=>∃ ρ' cs',CM w K f Ds H2 ρ' cs' σ' H'/\Same (hide H1 (f.withs Ds)) (hide H' (f.withs Ds))/\Jv i ρ' cs'/\m+i=ds.length,⟨ds.length,ρ,cs,x1,Same.refl _,j0,rfl⟩,fun i m σ' H' ⟨ρ',cs',x',sm',p,hm⟩=>?_⟩
 by_cases hi:i<ds.length
 ·obtain⟨hgo,hy⟩:=it.go (f.withs Ds) H' i _ x'.env.fd sm' (aof hi)
  refine .inr ⟨hgo,fun σ2 H3=>∃ ρ2 cs2,CM w K f Ds H2 ρ2 cs2 σ2 H3/\Same (hide H1 (f.withs Ds)) (hide H3 (f.withs Ds))/\Jv (i+1) ρ2 cs2,fun σ2 H3 ⟨ρ2,cs2,e2,g2,p2⟩=>⟨m - 1,by omega,ρ2,cs2,e2,g2,p2,by omega⟩,fun v H3 hx=>?_⟩
  obtain⟨g3,r3⟩:=hy v H3 hx
  have x3:=x'.go g3 (x'.env.mono g3)
  refine js i _ ρ' cs' (aof hi) p σ' H3 v _ x3.env r3 fun ρ2 σ2 H4 g4 e4 p4=>?_
  have x4:=x3.go g4 e4
  have sm4:=(sm'.trans g3.sm).trans g4.sm
  exact p4 se σ2 H4 H4 _ x4.self (fun ρ5 cs5 σ5 H5 x5 p5=>⟨ρ5,cs5,x4.trans x5,sm4.trans x5.sm,p5⟩) (fun d v ρ5 cs5 σ5 H5 x5 r5 p5=>r d v ρ5 cs5 σ5 H5 (x4.trans x5) r5 p5) (fun ρ5 cs5 σ5 H5 x5 p5=>n ρ5 cs5 σ5 H5 (x4.trans x5) p5) (fun ρ5 cs5 σ5 H5 x5 p5=>⟨ρ5,cs5,x4.trans x5,sm4.trans x5.sm,p5⟩)
 ·have ei:i=ds.length:=by omega
  subst ei
  exact .inl ⟨it.st (f.withs Ds) H' x'.env.fd sm',n ρ' cs' σ' H' x' (jd ρ' cs' p)⟩
theorem agD {tb:TS} (J:zq->List OC->Prop) (μ:zq->List OC->Nat) (h0:J ρ cs)
  (hs:∀ ρ' cs',J ρ' cs'->PTm w K f Ds tt ρ' cs' fun b=>if b=true then PSm w K f Ds tb ρ' cs' { O with nx:=fun r c=>J r c/\μ r c<μ ρ' cs',ct:=fun r c=>J r c/\μ r c<μ ρ' cs',bk:=O.nx } else O.nx ρ' cs'):PSm w K f Ds (aij tt tb) ρ cs O:=fun se σ H H2 E x n r b k=>by
 refine⟨fun m σ' H'=>∃ ρ' cs',CM w K f Ds H2 ρ' cs' σ' H'/\J ρ' cs'/\m=μ ρ' cs',⟨_,ρ,cs,x,h0,rfl⟩,?_⟩
 rintro m σ1 H1 ⟨ρ1,cs1,x1,j1,rfl⟩
 refine hs ρ1 cs1 j1 se σ1 H1 H2 _ x1 fun t H3 g3 p=>?_
 have x3:=x1.go g3 (x1.env.mono g3)
 cases t with
 | true =>
  rw [if_pos rfl] at p ⊢
  refine⟨fun σ' H'=>∃ ρ' cs',CM w K f Ds H2 ρ' cs' σ' H'/\J ρ' cs'/\μ ρ' cs'<μ ρ1 cs1,fun σ' H' ⟨ρ',cs',x',j',l'⟩=>⟨_,l',ρ',cs',x',j',rfl⟩,?_⟩
  exact p se σ1 H3 H2 _ x3 (fun ρ5 cs5 σ5 H5 x5 p5=>⟨ρ5,cs5,x5,p5⟩) r (fun ρ5 cs5 σ5 H5 x5 p5=>n ρ5 cs5 σ5 H5 x5 p5) (fun ρ5 cs5 σ5 H5 x5 p5=>⟨ρ5,cs5,x5,p5⟩)
 | false =>
  rw [if_neg aoi] at p ⊢
  exact n ρ1 cs1 σ1 H3 x3 p
theorem y6 {σ:St} {H H2:Hp} {D:Addr} (hi:ρ[i]?=some (some (.own (f.M.length+j)))) (x:CM w K f Ds H2 ρ cs σ H) (hD:Ds[j]?=some D):σ[i]?=some (some (.ref D)):=by
 obtain⟨v,h1,p,h2,rfl⟩:=x.env.get i _ hi
 have e:(f.withs Ds).M.reverse[f.M.length+j]?=some D:=by
  show (Ds.reverse++f.M).reverse[f.M.length+j]?=some D
  rw [aqp,arR,aoG (by simp)]
  simpa using hD
 rw [e] at h2
 cases h2
 exact h1
theorem aaG {es:List PyData} (hi:ρ[i]?=some (some (.own (f.M.length+j)))) (hc:cs[j]?=some (.lst es)) (hl:es.length<1000) (h:PEm w K f Ds te ρ cs fun d=>O.nx ρ (cs.set j (.lst (es++[d])))):PSm w K f Ds (afZ (tBM K "list" af8 (yn i) (yO te vt))) ρ cs O:=fun se σ H H2 E x n r b k=>by
 have hj:j<Ds.length:=by rw [<-x.len];exact (aoh.mp hc).1
 have hD:Ds[j]?=some Ds[j]:=aof hj
 obtain⟨vs0,h0,_⟩:=x.own j _ _ hD hc
 refine⟨_,y6 hi x hD,Or.inl ⟨rfl,vs0,.of h0⟩,?_⟩
 refine h se σ H H2 _ x fun d v H1 g1 r1 p1=>?_
 have x1:=x.go g1 (x.env.mono g1)
 obtain⟨vs,h1,h2⟩:=x1.own j _ _ hD hc
 refine⟨_,vs,v,rfl,rfl,h1,z7 (by rw [h2.length];omega),n _ _ _ _ (x1.put se hD (o:=.lst (vs++[v])) (c':=.lst (es++[d])) ⟨vs++[v],zy,h2.snoc r1⟩) p1⟩
theorem CM.more {σ:St} {H H1 H2:Hp} {D:Addr} {c:OC} (x:CM w K f Ds H2 ρ cs σ H) (g:Goes (f.withs Ds) H H1) (hn:H D=none) (ho:OwnAt w K (hide H1 ((f.withs Ds).with D)) H1 D c) (hi:i<ρ.length) :
  CM w K f (Ds++[D]) H1 (ρ.set i (some (.own (f.M.length+Ds.length)))) (cs++[c]) (σ.set i (some (.ref D))) H1:=by
 have nD:¬ ((f.withs Ds).f=some D \/ D∈(f.withs Ds).M):=fresh_ne x.env.fd hn
 have sm0:Same (hide H (f.withs Ds)) (hide H1 (f.withs (Ds++[D]))):=fun b o hb=>by
  have hb1:=g.sm b o hb
  rw [yr]
  refine zF (fun z=>?_) (zN hb1).2
  rcases z with z | z
  ·exact (zN hb1).1 (.inl z)
  ·rcases aor.mp z with rfl | z
   ·have:=(zN hb).2
    rw [hn] at this
    cases this
   ·exact (zN hb1).1 (.inr z)
 have hD1:∃ o,H1 D=some o:=by
  cases c with
  | lst es=>exact⟨_,ho.choose_spec.1⟩
  | set ks=>exact⟨_,ho.choose_spec.1⟩
  | dic kvs=>exact⟨_,ho.choose_spec.1⟩
 have fo1:FOk (f.withs (Ds++[D])) H1:=by
  rw [yr]
  refine⟨g.ok.fd,fun b hb=>?_,fun q eq hq=>?_⟩
  ·rcases aor.mp hb with rfl | hb
   ·exact hD1
   ·exact g.ok.mm b hb
  ·rcases aor.mp hq with rfl | hq
   ·exact nD (.inl eq)
   ·exact g.ok.nm q eq hq
 have rev:(f.withs (Ds++[D])).M.reverse=(f.withs Ds).M.reverse++[D]:=by
  rw [yr]
  show (D :: (f.withs Ds).M).reverse=_
  rw [arn]
 have lenr:(f.withs Ds).M.reverse.length=f.M.length+Ds.length:=by
  show (Ds.reverse++f.M).reverse.length=_
  simp
 have e1:EnvOk K (f.withs (Ds++[D])) ρ σ H1:=⟨x.env.len,fun q y hy=>by
  obtain⟨v,a1,a2⟩:=x.env.get q y hy
  refine⟨v,a1,?_⟩
  cases y with
  | dat d=>exact Rep.mono sm0 d v a2
  | feed=>exact a2
  | exc C =>
   obtain⟨b,h3,h4⟩:=a2
   exact⟨b,h3,sm0 _ _ h4⟩
  | mon φ=>exact fun H' s=>a2 H' (sm0.trans s)
  | own k =>
   obtain⟨b,h3,h4⟩:=a2
   refine⟨b,?_,h4⟩
   rw [rev,aov (aoh.mp h3).1]
   exact h3,fo1⟩
 have rv:RepV K (f.withs (Ds++[D])) H1 (.own (f.M.length+Ds.length)) (.ref D):=⟨D,by
  rw [rev,aoG (by omega),lenr,ap7]
  rfl,rfl⟩
 refine⟨e1.set i rv,Same.refl _,fun _ _=>rfl,by simp [x.len],fun q D' c' h1 h2=>?_⟩
 by_cases hq:q<Ds.length
 ·rw [aov hq] at h1
  rw [aov (by rw [x.len];exact hq)] at h2
  exact (x.own q D' c' h1 h2).mono (g.kp D' (jv (aoj h1))) sm0
 ·by_cases hq2:q=Ds.length
  ·subst hq2
   rw [aoG (aop _),ap7] at h1
   rw [aoG (by rw [x.len];exact aop _),x.len,ap7] at h2
   cases h1
   cases h2
   rw [yr]
   exact ho
  ·rw [aoP (by simp;omega)] at h1
   cases h1
theorem Sep.more {H:Hp} {D:Addr} (se:Sep f Ds) (fo:FOk (f.withs Ds) H) (hn:H D=none):Sep f (Ds++[D]):=by
 have nD:=fresh_ne fo hn
 refine⟨ao8.mpr ⟨se.nd,by simp,fun a ha b hb=>?_⟩,fun D' h=>?_,fun D' h=>?_⟩
 ·rw [aos.mp hb]
  intro z
  exact nD (.inr (jv (z▸ha)))
 ·rcases aou.mp h with h | h
  ·exact se.nf D' h
  ·rw [aos.mp h];exact fun z=>nD (.inl z)
 ·rcases aou.mp h with h | h
  ·exact se.nm D' h
  ·rw [aos.mp h];exact fun z=>nD (.inr (aoA _ z))
theorem CM.less {σ σ':St} {H H1 H2 H':Hp} {D:Addr} {ρ':zq} {cs':List OC} (x:CM w K f Ds H2 ρ cs σ H) (g:Goes (f.withs Ds) H H1) (hn:H D=none) (y:CM w K f (Ds++[D]) H1 ρ' cs' σ' H') :
  CM w K f Ds H2 (ρ'.map (aaM (f.M.length+Ds.length))) (cs'.take Ds.length) σ' H':=by
 have sub:Same (hide H' (f.withs (Ds++[D]))) (hide H' (f.withs Ds)):=by rw [yr];exact jY
 have sm1:Same (hide H (f.withs Ds)) (hide H1 (f.withs (Ds++[D]))):=fun b o hb=>by
  have hb1:=g.sm b o hb
  rw [yr]
  refine zF (fun z=>?_) (zN hb1).2
  rcases z with z | z
  ·exact (zN hb1).1 (.inl z)
  ·rcases aor.mp z with rfl | z
   ·have:=(zN hb).2
    rw [hn] at this
    cases this
   ·exact (zN hb1).1 (.inr z)
 have lenr:(f.withs Ds).M.reverse.length=f.M.length+Ds.length:=by
  show (Ds.reverse++f.M).reverse.length=_
  simp
 have rev:(f.withs (Ds++[D])).M.reverse=(f.withs Ds).M.reverse++[D]:=by
  rw [yr]
  show (D :: (f.withs Ds).M).reverse=_
  rw [arn]
 have fo:FOk (f.withs Ds) H':=by
  have h:=y.env.fd
  rw [yr] at h
  exact⟨h.fd,fun b hb=>h.mm b (aon _ hb),fun p e hp=>h.nm p e (aon _ hp)⟩
 refine⟨⟨by rw [aog];exact y.env.len,fun q z hz=>?_,fo⟩,(x.sm.trans sm1).trans (y.sm.trans sub),fun b hb=>(y.kp b hb).trans ((g.kp b (aoA _ hb)).trans (x.kp b hb)),?_,fun q D' c' h1 h2=>?_⟩
 ·rw [aoq] at hz
  cases e:ρ'[q]? with
  | none=>rw [e] at hz;cases hz
  | some z0 =>
   rw [e] at hz
   cases z0 with
   | none=>cases hz
   | some z0 =>
    obtain⟨v,a1,a2⟩:=y.env.get q z0 e
    cases z0 with
    | dat d =>
     cases hz
     exact⟨v,a1,Rep.mono sub d v a2⟩
    | feed =>
     cases hz
     rw [yr] at a2
     exact⟨v,a1,a2⟩
    | exc C =>
     cases hz
     obtain⟨b,h3,h4⟩:=a2
     exact⟨v,a1,b,h3,sub _ _ h4⟩
    | mon φ =>
     cases hz
     exact⟨v,a1,fun H' s=>a2 H' (sub.trans s)⟩
    | own k =>
     have hz':(if k<f.M.length+Ds.length then some (DV.own k) else none)=some z:=Option.some.inj hz
     by_cases hk:k<f.M.length+Ds.length
     ·rw [if_pos hk] at hz'
      cases hz'
      obtain⟨b,h3,h4⟩:=a2
      refine⟨v,a1,b,?_,h4⟩
      rw [rev,aov (by omega)] at h3
      exact h3
     ·rw [if_neg hk] at hz'
      cases hz'
 ·rw [aoX,y.len]
  simp
 ·have hq:q<Ds.length:=(aoh.mp h1).1
  rw [apX hq] at h2
  exact (y.own q D' c' (by rw [aov hq];exact h1) h2).mono rfl sub
theorem agE (h:ade w K (f.withs Ds) te ρ fun c=>i<ρ.length/\∀ D,PSm w K f (Ds++[D]) ts (ρ.set i (some (.own (f.M.length+Ds.length)))) (cs++[c]) { nx:=fun ρ' cs'=>O.nx (ρ'.map (aaM (f.M.length+Ds.length))) (cs'.take Ds.length),rt:=O.rt,bk:=fun ρ' cs'=>O.bk (ρ'.map (aaM (f.M.length+Ds.length))) (cs'.take Ds.length),ct:=fun ρ' cs'=>O.ct (ρ'.map (aaM (f.M.length+Ds.length))) (cs'.take Ds.length) }) :
  PSm w K f Ds (qL (jR te (yW i)) ts) ρ cs O:=fun se σ H H2 E x n r b k =>
 h σ H _ x.env fun c D H1 g1 hn ho ⟨hi,p⟩ =>
  p D (se.more x.env.fd hn) _ H1 H1 E (x.more g1 hn ho hi) (fun ρ' cs' σ' H' y q=>n _ _ σ' H' (x.less g1 hn y) q) (fun d v ρ' cs' σ' H' y r' q=>r d v _ _ σ' H' (x.less g1 hn y) r' q) (fun ρ' cs' σ' H' y q=>b _ _ σ' H' (x.less g1 hn y) q) (fun ρ' cs' σ' H' y q=>k _ _ σ' H' (x.less g1 hn y) q)
theorem vb {P:OC->Prop} (h:PEdO K f te ρ fun es=>P (.lst es)):ade w K f te ρ P:=fun σ H Q e q=>h σ H Q e fun es D vs H' g hn h1 rs p=>q (.lst es) D H' g hn ⟨vs,h1,rs⟩ p
def freed (n:Nat) (cs:List OC):Option DV->Option DV
 | some (.own k)=>if k<n then some (.own k) else match cs[k - n]? with
  | some (.lst es)=>some (.dat (.list es))
  | _=>none
 | x=>x
theorem CM.free {σ:St} {H H2:Hp} (se:Sep f Ds) (x:CM w K f Ds H2 ρ cs σ H):EnvOk K f (ρ.map (freed f.M.length cs)) σ H:=by
 have fo:FOk f H:=⟨x.env.fd.fd,fun b hb=>x.env.fd.mm b (aoA _ hb),fun p e hp=>x.env.fd.nm p e (aoA _ hp)⟩
 refine⟨by rw [aog];exact x.env.len,fun q z hz=>?_,fo⟩
 rw [aoq] at hz
 cases e:ρ[q]? with
 | none=>rw [e] at hz;cases hz
 | some z0 =>
  rw [e] at hz
  cases z0 with
  | none=>cases hz
  | some z0 =>
   obtain⟨v,a1,a2⟩:=x.env.get q z0 e
   cases z0 with
   | dat d =>
    cases hz
    exact⟨v,a1,Rep.mono same_withs d v a2⟩
   | feed =>
    cases hz
    exact⟨v,a1,a2⟩
   | exc C =>
    cases hz
    obtain⟨b,h3,h4⟩:=a2
    exact⟨v,a1,b,h3,same_withs _ _ h4⟩
   | mon φ =>
    cases hz
    exact⟨v,a1,fun H' s=>a2 H' (same_withs.trans s)⟩
   | own k =>
    obtain⟨b,h3,h4⟩:=a2
    have h3':(Ds.reverse++f.M).reverse[k]?=some b:=h3
    rw [aqp,arR] at h3'
    have hz':(if k<f.M.length then some (DV.own k) else match cs[k - f.M.length]? with | some (.lst es)=>some (.dat (.list es)) | _=>none)=some z:=Option.some.inj hz
    by_cases hk:k<f.M.length
    ·rw [if_pos hk] at hz'
     cases hz'
     rw [aov (by simpa using hk)] at h3'
     exact⟨v,a1,b,h3',h4⟩
    ·rw [if_neg hk] at hz'
     rw [aoG (by simpa using Nat.not_lt.mp hk),arY] at h3'
     cases ec:cs[k - f.M.length]? with
     | none=>rw [ec] at hz';cases hz'
     | some c =>
      rw [ec] at hz'
      cases c with
      | lst es =>
       cases hz'
       obtain⟨vs,h5,h6⟩:=x.own _ _ _ h3' ec
       have hb:=aoj h3'
       exact⟨v,a1,rep_list.mpr ⟨b,vs,h4,.of (zF (fun z=>z.elim (se.nf b hb) (se.nm b hb)) h5),Reps.mono same_withs es vs h6⟩⟩
      | set ks=>cases hz'
      | dic kvs=>cases hz'
theorem CM.goF {σ:St} {H H2 H':Hp} (se:Sep f Ds) (x:CM w K f Ds H2 ρ cs σ H) (g:Goes f H H'):CM w K f Ds H2 ρ cs σ H':=by
 have keep:∀ b∈Ds,H' b=H b:=fun b hb=>by
  obtain⟨o,ho⟩:=x.env.fd.mm b (jv hb)
  rw [ho]
  exact (zN (g.sm b o (zF (fun z=>z.elim (se.nf b hb) (se.nm b hb)) ho))).2
 have g2:Goes (f.withs Ds) H H':=⟨fun b o hb=>by
   have hb':=zN hb
   have:=zN (g.sm b o (same_withs b o hb))
   exact zF hb'.1 this.2,⟨g.ok.fd,fun b hb=>by
   rcases aou.mp hb with hb | hb
   ·obtain⟨o,ho⟩:=x.env.fd.mm b (aoJ _ hb)
    exact⟨o,by rw [keep b (apM.mp hb)];exact ho⟩
   ·exact g.ok.mm b hb,x.env.fd.nm⟩,fun b hb=>by
   rcases aou.mp hb with hb | hb
   ·exact keep b (apM.mp hb)
   ·exact g.kp b hb⟩
 exact x.go g2 (x.env.mono g2)
theorem ajf (h:PSd K f ts (ρ.map (freed f.M.length cs)) { nx:=fun _=>False,rt:=O.rt }):PSm w K f Ds ts ρ cs O:=fun se σ H H2 E x n r b k =>
 h σ H E (x.free se) (fun _ _ _ _ _ z=>z.elim) (fun d v H' g' r' p=>r d v ρ cs σ H' (x.goF se g') r' p) (fun _ _ _ _ _ z=>z.elim) (fun _ _ _ _ _ z=>z.elim)
end
def ahD (w:World) (K:aol) (f:Fx) (Ds:List Addr) (ts:TS) (ρ:zq) (cs:List OC) (R:List PyData->Prop):Prop:=Sep f Ds->∀ (σ:St) (H H2:Hp) (E:Ends),CM w K f Ds H2 ρ cs σ H ->
 (∀ es D vs ρ' cs' σ' H0 H',CM w K f Ds H2 ρ' cs' σ' H0->Goes f H0 H'->H0 D=none->H' D=some (.lst vs)->Reps K (hide H' (f.with D)) es vs->R es->E.rt (.ref D) H')->ts E σ H
section
variable {w:World} {K:aol} {f:Fx} {Ds:List Addr} {ρ:zq} {cs:List OC} {ts tu:TS} {te:TE} {R:List PyData->Prop} {i:Nat}
theorem akM (h:ahD w K f [] ts ρ [] R):PSn K f ts ρ R:=fun σ H E e q=>by
 refine h ⟨apj,(fun _ z=>nomatch z),(fun _ z=>nomatch z)⟩ σ H H E ⟨e,Same.refl _,fun _ _=>rfl,rfl,(fun i D c z=>nomatch z)⟩ fun es D vs ρ' cs' σ' H0 H' x g hn h1 rs p=>?_
 have g0:Goes f H H0:=⟨x.sm,x.env.fd,x.kp⟩
 exact q es D vs H' (g0.trans g) (g0.free e.fd hn) h1 rs p
theorem amK (h:PSm w K f Ds ts ρ cs { nx:=fun ρ' cs'=>ahD w K f Ds tu ρ' cs' R,rt:=fun _=>False }):ahD w K f Ds (qL ts tu) ρ cs R:=fun se σ H H2 E x q =>
 h se σ H H2 _ x (fun ρ' cs' σ' H' x' p=>p se σ' H' H2 E x' q) (fun _ _ _ _ _ _ _ _ z=>z.elim) (fun _ _ _ _ _ z=>z.elim) (fun _ _ _ _ _ z=>z.elim)
theorem ajg (h:ade w K (f.withs Ds) te ρ fun c=>i<ρ.length/\∀ D,ahD w K f (Ds++[D]) ts (ρ.set i (some (.own (f.M.length+Ds.length)))) (cs++[c]) R) :
  ahD w K f Ds (qL (jR te (yW i)) ts) ρ cs R:=fun se σ H H2 E x q =>
 h σ H _ x.env fun c D H1 g1 hn ho ⟨hi,p⟩ =>
  p D (se.more x.env.fd hn) _ H1 H1 E (x.more g1 hn ho hi) fun es D' vs ρ' cs' σ' H0 H' y g hn' h1 rs pr=>q es D' vs _ _ σ' H0 H' (x.less g1 hn y) g hn' h1 rs pr
theorem akN (h:PSn K f ts (ρ.map (freed f.M.length cs)) R):ahD w K f Ds ts ρ cs R:=fun se σ H H2 E x q =>
 h σ H E (x.free se) fun es D vs H' g hn h1 rs p=>q es D vs ρ cs σ H H' x g hn h1 rs p
end
theorem SetO.ok {P:Program} {w:World} {H:Hp} {h:Heap} {a:Addr} {xs:List (PyData×Addr)} {o:Obj} {es:Array (Int×Value)} {ep:Nat} {t:SetTable} (S:SetObj w h a xs o es ep t):ObjOk P w H h a (SetO w a xs) :=
 ⟨⟨o,es,ep,t,S⟩,⟨o,S.ob⟩,fun h1 h2 ⟨o,es,ep,t,S⟩ k=>⟨o,es,ep,t,⟨k o S.ob,S.ex,S.da,S.el,S.ok⟩⟩⟩
theorem ahE (led:Bool):ST.TOk (SetTable.fresh 0 0 led) [] where
 mask:=.inl rfl
 dum:=rfl
 rise:=fun i j _ hj=>absurd hj (apz _)
 le:=fun i hi=>absurd hi (apz _)
 size:=rfl
 most:=ao2 _
 reach:=fun i hi=>absurd hi (apz _)
 room:=by show 0 * 5<7 * 3;decide
def adf (w:World):List V->Hp->VK->Prop:=fun xs H Q=>xs=[]/\∀ a,H a=none->Q (.ref a) (upd H a (SetO w a []))
theorem aer {X:Cx}:yy X (.type "set") (adf X.w):=by
 intro pins s σ H xs us Q I r h
 obtain⟨rfl,q⟩:=h
 cases r
 refine call_set_0 fun led=>?_
 refine⟨.ref s.heap.objs.size,_,I.laid (t':=s.toks) (fun b u e=>aot _ e) (aop _) (SetO.ok (xs:=[]) (o:={ cls:=.type "set",dict:=none,data:=.set #[] 0 (.fresh 0 0 led) }) (es:=#[]) (ep:=0) (t:=.fresh 0 0 led) ⟨aoM _ rfl,⟨rfl,rfl,rfl⟩,rfl,rfl,ahE led⟩),rfl,q _ (I.hok.fresh (aop _))⟩
def abX (d:PyData):Prop:=vR d/\∃ xs,d=.tuple xs
theorem qr {K:aol} {H:Hp} {d:PyData} {v:V} (k:abX d) (r:Rep K H d v):∃ b,v=.ref b:=by
 obtain⟨_,xs,rfl⟩:=k
 obtain⟨a,_,e,_⟩:=rep_tuple.mp r
 exact⟨a,e⟩
theorem qt {X:Cx} {pins:List (Addr×Obj)} {σ:St} {H:Hp} {s:Shared} {d:PyData} {b:Addr} (I:Inv X pins σ H s) (k:vR d) (r:Rep X.K H d (.ref b)):KeyAt s.heap d b:=by
 obtain⟨as,ra⟩:=yC I d (.ref b) (.ref b) r rfl
 exact⟨⟨as,ra⟩,k.1,k.2⟩
def amL (w:World) (K:aol) (neg:Bool):R2:=fun x y H Q=>∃ a b d xs,x=.ref b/\y=.ref a/\H a=some (SetO w a xs)/\(∀ z∈xs,vR z.1/\Rep K H z.1 (.ref z.2))/\vR d/\Rep K H d (.ref b)/\Q (.bl (if neg then !decide (d∈xs.map (·.1)) else decide (d∈xs.map (·.1)))) H
theorem akO {X:Cx} (hu:X.A.units+64<cLine) {pins:List (Addr×Obj)} {s:Shared} {σ:St} {H:Hp} {a b:Addr} {d:PyData} {xs:List (PyData×Addr)} (I:Inv X pins σ H s) (hS:H a=some (SetO X.w a xs)) (ks:∀ z∈xs,vR z.1/\Rep X.K H z.1 (.ref z.2)) (kd:vR d) (rd:Rep X.K H d (.ref b)) {Q:Bool->Shared->Prop} {E:Value->Shared->Prop}
  (q:Q (decide (d∈xs.map (·.1))) { s with toks:=s.toks+zZ d }):wpAny (model X.prog X.w) X.A (contains (.ref a) (.ref b)) Q E s:=by
 obtain⟨⟨o,es,ep,t,S⟩,_⟩:=I.hok a _ hS
 exact aeq S (fun x hx=>qt I (ks x hx).1 (ks x hx).2) (qt I kd rd) (by omega) q
theorem ahF {X:Cx} (hu:X.A.units+64<cLine):OpR X (compareOp .NotIn) (amL X.w X.K true):=by
 intro pins s σ H x y v u Q I rx ry h
 obtain⟨a,b,d,xs,rfl,rfl,hS,ks,kd,rd,q⟩:=h
 cases rx
 cases ry
 show wpAny _ _ (do return Value.bool (!(<- contains (.ref a) (.ref b)))) _ _ s
 apply wpAny_bind
 exact akO hu I hS ks kd rd (wpAny_pure ⟨.bl _,H,I.tok _,rfl,q⟩)
theorem abz {X:Cx} {K:aol} {w:World} (hw:X.w=w) (hK:X.K=K) (hu:X.A.units+64<cLine):OpR X (compareOp .NotIn) (amL w K true):=hw▸hK▸ahF hu
def ajh (w:World) (K:aol):V->List V->Hp->VK->Prop:=fun x ys H Q=>∃ a b d xs,x=.ref a/\ys=[.ref b]/\H a=some (SetO w a xs)/\(∀ z∈xs,vR z.1/\Rep K H z.1 (.ref z.2))/\vR d/\Rep K H d (.ref b)/\xs.length<300 /\
 (d∈xs.map (·.1)->Q .non H)/\(d∉xs.map (·.1)->∀ xs',xs'.Perm ((d,b) :: xs)->Q .non (upd H a (SetO w a xs')))
theorem akP {X:Cx} (hu:X.A.units+64<cLine):MtR X "set.add" (ajh X.w X.K):=by
 intro pins s σ H x ys v us Q I rx ry h
 obtain⟨a,b,d,xs,rfl,rfl,hS,ks,kd,rd,few,q1,q2⟩:=h
 obtain⟨u,rfl,ru⟩:=vals1 ry
 cases rx
 cases ru
 obtain⟨⟨o,es,ep,t,S⟩,_⟩:=I.hok a _ hS
 refine amJ S (fun x hx=>qt I (ks x hx).1 (ks x hx).2) (qt I kd rd) (by omega) few (fun hd=>⟨.non,H,I.tok _,rfl,q1 hd⟩) fun hd xs' o' es' ep' t' h' pm sb S'=>?_
 refine⟨.non,_,I.write (t':=s.toks+zZ d) (x:=a) (e:=a) (by rw [hS];exact trivial) (.inl rfl) (fun b u nb e=>(sb.2 b nb).trans e) ⟨o',S'.ob⟩ (SetO.ok S'),rfl,q2 hd xs' pm⟩
theorem aes {X:Cx} {K:aol} {w:World} (hw:X.w=w) (hK:X.K=K) (hu:X.A.units+64<cLine):MtR X "set.add" (ajh w K):=hw▸hK▸akP hu
theorem aac {X:Cx} {w:World} (hw:X.w=w):yy X (.type "set") (adf w):=hw▸aer
def anF (w:World) (r:V->List V->Hp->VK->Prop) (to:TE) (t:TA):TE:=fun σ H Q=>to σ H fun x H1=>(∃ a xs,x=.ref a/\H1 a=some (SetO w a xs))/\t σ H1 fun xs H2=>r x xs H2 Q
theorem aji {X:Cx} {w:World} {o e:Expr} {es:List Expr} {to:TE} {t:TA} {name:Str} {apos cpos:Pos} {id:String} {r:V->List V->Hp->VK->Prop} (hw:X.w=w) (slot:Slot "set" name id) (hty:typeOf (.builtin id)=pure (.type "method_descriptor")) (hm:MtR X id r) (ho:PE X o to) (ha:PA X (e :: es) t)
  (hbase:attributeBase o name X.env (eval o X.env)=eval o X.env:=by rfl)
  (hfew:((backTo cpos (starEach (e :: es) X.env)).all (fun x=>!x.1) && (backToKw cpos (keywordEach [] X.env)).all (fun x=>x.1.isSome)
   && decide ((e :: es).length+([]:List Keyword).length+(if ([]:List Keyword).isEmpty then 0 else 1)<30))=true:=by rfl)
  (hline:(apos.endLine == cpos.line)=true:=by rfl) (hs:starEach (e :: es) X.env=(false,eval e X.env) :: starEach es X.env:=by rfl) (hplain:(backTo cpos (starEach es X.env)).any (·.1)=false:=by rfl) :
  PE X (.Call (.Attribute o name apos) (e :: es) [] cpos) (anF w r to t):=by
 subst hw
 intro pins s σ H Q I h
 refine wpAny_Call_method_late hbase hfew hline rfl (thn (ho pins s σ H _ I h) fun v s1 ⟨x,H1,I1,r1,ty,q1⟩=>?_)
 obtain⟨a,xs,rfl,hS⟩:=ty
 cases r1
 obtain⟨⟨ob,es',ep,t',S⟩,_⟩:=I1.hok a _ hS
 refine⟨"set",id,PySem.F.plainAttrs_set,slot,hty,⟨ob,S.ob,S.ex.1⟩,fun b e=>?_,?_⟩
 ·cases e
  exact⟨ob,S.ob,S.ex.2.1⟩
 have hA:=ha cpos pins s1 σ H1 _ I1 q1
 rw [hs] at hA ⊢
 refine aqB (by show (false || (backTo cpos (starEach es X.env)).any (·.1))=false;rw [hplain] <;> rfl) (arN ?_)
 exact thn hA fun us s2 ⟨vs,H2,I2,r2,q2⟩=>hm pins s2 σ H2 (.ref a) vs (.ref a) us Q I2 rfl r2 q2
section
variable {w:World} {K:aol} {f:Fx} {Ds:List Addr} {ρ:zq} {cs:List OC} {te:TE} {O:MEnds} {i j:Nat} {ks:List PyData}
theorem ajj {P:OC->Prop} (p:P (.set [])):ade w K f (tCB (adf w) vt) ρ P:=fun σ H Q e q =>
 ⟨rfl,fun a hn=>q (.set []) a _ (.of_same (z9 hn _) e.fd) hn ⟨[],zy,(fun _ z=>nomatch z),(fun d=>Iff.rfl),aop 0⟩ p⟩
theorem alT {neg:Bool} {B:Bool->Prop} (hi:ρ[i]?=some (some (.own (f.M.length+j)))) (hc:cs[j]?=some (.set ks)) (h:PEm w K f Ds te ρ cs fun d=>abX d/\B (if neg then !decide (d∈ks) else decide (d∈ks))) :
  PTm w K f Ds (ab9 (tOp (amL w K neg) te (yn i))) ρ cs B:=fun se σ H H2 Q x q=>by
 have hj:j<Ds.length:=by rw [<-x.len];exact (aoh.mp hc).1
 have hD:Ds[j]?=some Ds[j]:=aof hj
 refine h se σ H H2 _ x fun d v H1 g1 r1 ⟨kd,p⟩=>?_
 have x1:=x.go g1 (x.env.mono g1)
 obtain⟨b,rfl⟩:=qr kd r1
 obtain⟨xs,h1,h2,h3,_⟩:=x1.own j _ _ hD hc
 refine⟨_,y6 hi x1 hD,Ds[j],b,d,xs,rfl,rfl,h1,fun z hz=>⟨(h2 z hz).1,Rep.mono (zk _ _) _ _ (h2 z hz).2⟩,kd.1,Rep.mono (zk _ _) _ _ r1,_,rfl,?_⟩
 have:decide (d∈xs.map (·.1))=decide (d∈ks):=decide_eq_decide.mpr (h3 d)
 rw [this]
 exact q _ H1 g1 p
theorem alU (hi:ρ[i]?=some (some (.own (f.M.length+j)))) (hc:cs[j]?=some (.set ks)) (hl:ks.length<300) (h:PEm w K f Ds te ρ cs fun d=>abX d/\(d∈ks->O.nx ρ cs)/\(d∉ks->O.nx ρ (cs.set j (.set (d :: ks))))) :
  PSm w K f Ds (afZ (anF w (ajh w K) (yn i) (yO te vt))) ρ cs O:=fun se σ H H2 E x n r b k=>by
 have hj:j<Ds.length:=by rw [<-x.len];exact (aoh.mp hc).1
 have hD:Ds[j]?=some Ds[j]:=aof hj
 obtain⟨xs0,h0,_⟩:=x.own j _ _ hD hc
 refine⟨_,y6 hi x hD,⟨Ds[j],xs0,rfl,h0⟩,?_⟩
 refine h se σ H H2 _ x fun d v H1 g1 r1 ⟨kd,p1,p2⟩=>?_
 have x1:=x.go g1 (x.env.mono g1)
 obtain⟨b,rfl⟩:=qr kd r1
 obtain⟨xs,h1,h2,h3,h4⟩:=x1.own j _ _ hD hc
 refine⟨Ds[j],b,d,xs,rfl,rfl,h1,fun z hz=>⟨(h2 z hz).1,Rep.mono (zk _ _) _ _ (h2 z hz).2⟩,kd.1,Rep.mono (zk _ _) _ _ r1,by omega,fun hd=>n _ _ _ _ x1 (p1 ((h3 d).mp hd)),fun hd xs' pm=>n _ _ _ _ (x1.put se hD (c':=.set (d :: ks)) ⟨xs',zy,fun z hz=>?_,fun e=>?_,?_⟩) (p2 fun z=>hd ((h3 d).mpr z))⟩
 ·rcases aor.mp (pm.mem_iff.mp hz) with rfl | hz
  ·exact⟨kd.1,r1⟩
  ·exact h2 z hz
 ·rw [(pm.map (·.1)).mem_iff,aoI,aor,aor,h3 e]
 ·rw [pm.length_eq,aoE,aoE]
  omega
end
theorem DicO.ok {P:Program} {w:World} {H:Hp} {h:Heap} {a:Addr} {xs:List (PyData×Addr×Value)} {o:Obj} {es:Array DictEntry} {ep:Nat} (S:DicObj w h a xs o es ep):ObjOk P w H h a (DicO w a xs) :=
 ⟨⟨o,es,ep,S⟩,⟨o,S.ob⟩,fun h1 h2 ⟨o,es,ep,S⟩ k=>⟨o,es,ep,⟨k o S.ob,S.ex,S.da,S.el,S.nd,S.ns⟩⟩⟩
theorem agF {X:Cx} {pins:List (Addr×Obj)} {σ:St} {H:Hp} {s:Shared} (I:Inv X pins σ H s):sysModules<s.heap.objs.size :=
 ar4 (by decide) (I.ok.mod.glob.keeps I.bk).lt
def agG (w:World):TE:=fun _ H Q=>∀ p,H p=none->Q (.ref p) (upd H p (DicO w p []))
theorem acw {X:Cx} {w:World} {pos:Pos} (hw:X.w=w):PE X (.Dict [] [] pos) (agG w):=by
 subst hw
 intro pins s σ H Q I h
 refine wpAny_Dict_empty ⟨.ref s.heap.objs.size,_,I.laid (a:=s.heap.objs.size) (t':=s.toks) (fun _ _ q=>aot _ q) (aop _) (DicO.ok (xs:=[]) (o:={ cls:=.type "dict",data:=.dict #[] }) (es:=#[]) (ep:=0) ⟨aoM _ rfl,⟨rfl,rfl,rfl⟩,rfl,rfl,apj,beq_eq_false_iff_ne.mpr (apC (aoR (agF I)))⟩),rfl,h _ (I.hok.fresh (aop _))⟩
abbrev vS (K:aol) (H:Hp) (xs:List (PyData×Addr×Value)):Prop:=∀ z∈xs,vR z.1/\Rep K H z.1 (.ref z.2.1)
theorem adg {X:Cx} {pins:List (Addr×Obj)} {σ:St} {H:Hp} {s:Shared} {a:Addr} {xs:List (PyData×Addr×Value)} (I:Inv X pins σ H s) (hS:H a=some (DicO X.w a xs)) (ks:vS X.K H xs):s.heap.DictOfH (aaQ X.prog X.w) a xs/\(a == sysModules)=false:=by
 obtain⟨⟨o,es,ep,S⟩,_⟩:=I.hok a _ hS
 exact⟨⟨o,es,ep,S.ob,S.ex,S.da,S.el,fun x hx=>qt I (ks x hx).1 (ks x hx).2,S.nd⟩,S.ns⟩
def aaR (w:World) (K:aol):V->V->V->Hp->(Hp->Prop)->Prop:=fun o i v H Q=>∃ a b d xs,o=.ref a/\i=.ref b/\H a=some (DicO w a xs)/\vS K H xs/\vR d/\Rep K H d (.ref b)/\xs.length<=1000/\∀ u,RelV v u->Q (upd H a (DicO w a (storedH xs d b u)))
theorem akQ {X:Cx} (hu:X.A.units+64<cLine):ako X (aaR X.w X.K):=by
 intro pins s σ H o i v ov iv u Q I ro ri rv h
 obtain⟨a,b,d,xs,rfl,rfl,hS,ks,kd,rd,hl,q⟩:=h
 cases ro
 cases ri
 obtain⟨hm,ns⟩:=adg I hS ks
 have hu1:X.A.in1.units=X.A.units+1:=rfl
 refine wpAny_setItem_heap (by show _+40<cLine;omega) (qt I kd rd) hm (fun h' hm' sb=>?_) (aps (z7 hl))
 obtain⟨o',es',ep',x1,x2,x3,x4,x5,x6⟩:=hm'
 exact⟨_,I.write (t':=s.toks+zZ d) (x:=a) (e:=a) (by rw [hS];exact trivial) (.inl rfl) (fun b u nb e=>(sb.2 b nb).trans e) ⟨o',x1⟩ (DicO.ok ⟨x1,x2,x3,x4,x6,ns⟩),q u rv⟩
theorem aad {X:Cx} {K:aol} {w:World} (hw:X.w=w) (hK:X.K=K) (hu:X.A.units+64<cLine):ako X (aaR w K):=hw▸hK▸akQ hu
def adh (w:World) (K:aol):R2:=fun x y H Q=>∃ a b d xs p v,x=.ref a/\y=.ref b/\H a=some (DicO w a xs)/\vS K H xs/\vR d/\Rep K H d (.ref b)/\atKey xs d=some p/\RelV v p.2/\Q v H
theorem amM {X:Cx} (hu:X.A.units+64<cLine):IxR X (adh X.w X.K):=by
 intro value slice pins s σ H x y v u Q I rx ry h hs
 obtain⟨a,b,d,xs,p,z,rfl,rfl,hS,ks,kd,rd,hp,rz,q⟩:=h
 cases rx
 cases ry
 obtain⟨hm,ns⟩:=adg I hS ks
 have hu1:X.A.in1.units=X.A.units+1:=rfl
 refine subscriptTail_builtinR (x:=p.2) hm.typeIs arh.lookup ?_ hs
 exact wpAny_getItem_heap (by show _+40<cLine;omega) (qt I kd rd) hm hp ⟨rfl,z,H,I.tok _,rz,q⟩
theorem aae {X:Cx} {K:aol} {w:World} (hw:X.w=w) (hK:X.K=K) (hu:X.A.units+64<cLine):IxR X (adh w K):=hw▸hK▸amM hu
def afn (w:World) (K:aol) (neg:Bool):R2:=fun x y H Q=>∃ a b d xs,x=.ref b/\y=.ref a/\H a=some (DicO w a xs)/\vS K H xs/\vR d/\Rep K H d (.ref b)/\Q (.bl (if neg then !(atKey xs d).isSome else (atKey xs d).isSome)) H
noncomputable def dput (k v:PyData) (kvs:List (PyData×PyData)):List (PyData×PyData):=if k∈kvs.map (·.1) then kvs.map (fun p=>if p.1=k then (p.1,v) else p) else kvs++[(k,v)]
noncomputable def jh (k:PyData) (kvs:List (PyData×PyData)):Option PyData:=(kvs.find? fun p=>decide (p.1=k)).map (·.2)
section
variable {K:aol} {Hh:Hp}
theorem adi:∀ {xs:List (PyData×Addr×Value)} {kvs:List (PyData×PyData)},Paired (EntR K Hh) xs kvs->xs.length=kvs.length
 | _,_,.nil=>rfl
 | _,_,.cons _ t=>by rw [aoE,aoE,adi t]
theorem yI:∀ {xs:List (PyData×Addr×Value)} {kvs:List (PyData×PyData)},Paired (EntR K Hh) xs kvs->vS K Hh xs
 | _,_,.nil=>fun z hz=>nomatch hz
 | _,_,.cons h t=>fun z hz=>by
  rcases aor.mp hz with rfl | hz
  ·exact⟨h.2.1,h.2.2.1⟩
  ·exact yI t z hz
theorem aaf (k:PyData):∀ {xs:List (PyData×Addr×Value)} {kvs:List (PyData×PyData)},Paired (EntR K Hh) xs kvs->(atKey xs k=none/\jh k kvs=none/\k∉kvs.map (·.1)) \/ ∃ p d v,atKey xs k=some p/\jh k kvs=some d/\Rep K Hh d v/\RelV v p.2/\k∈kvs.map (·.1)
 | _,_,.nil=>.inl ⟨rfl,rfl,fun z=>nomatch z⟩
 | x :: xs,p :: kvs,.cons ⟨h1,h2,h3,v,h4,h5⟩ t=>by
  by_cases e:x.1=k
  ·refine .inr ⟨x.2,p.2,v,?_,?_,h4,h5,?_⟩
   ·unfold atKey;rw [apA,decide_eq_true e];rfl
   ·unfold jh;rw [apA,decide_eq_true (h1▸e)];rfl
   ·rw [aoI];exact aor.mpr (.inl (h1▸e).symm)
  ·have e':¬ p.1=k:=fun z=>e (h1.trans z)
   have a1:atKey (x :: xs) k=atKey xs k:=by unfold atKey;rw [apA,decide_eq_false e]
   have a2:jh k (p :: kvs)=jh k kvs:=by unfold jh;rw [apA,decide_eq_false e']
   rw [a1,a2,aoI]
   rcases aaf k t with⟨b1,b2,b3⟩ | ⟨q,d,u,b1,b2,b3,b4,b5⟩
   ·exact .inl ⟨b1,b2,fun z=>(aor.mp z).elim (fun z=>e' z.symm) b3⟩
   ·exact .inr ⟨q,d,u,b1,b2,b3,b4,aon _ b5⟩
theorem agH (k:PyData) {d:PyData} {v:V} {u:Value} (rd:Rep K Hh d v) (rv:RelV v u):∀ {xs:List (PyData×Addr×Value)} {kvs:List (PyData×PyData)},Paired (EntR K Hh) xs kvs->Paired (EntR K Hh) (xs.map (putAt k u)) (kvs.map fun p=>if p.1=k then (p.1,d) else p)
 | _,_,.nil=>.nil
 | x :: xs,p :: kvs,.cons ⟨h1,h2,h3,w,h4,h5⟩ t=>by
  rw [aoI,aoI]
  refine .cons ?_ (agH k rd rv t)
  unfold putAt
  by_cases e:x.1=k
  ·rw [if_pos e,if_pos (h1▸e)]
   exact⟨h1,h2,h3,v,rd,rv⟩
  ·rw [if_neg e,if_neg (fun z=>e (h1.trans z))]
   exact⟨h1,h2,h3,w,h4,h5⟩
theorem agI {x:PyData×Addr×Value} {p:PyData×PyData} (h:EntR K Hh x p):∀ {xs:List (PyData×Addr×Value)} {kvs:List (PyData×PyData)},Paired (EntR K Hh) xs kvs->Paired (EntR K Hh) (xs++[x]) (kvs++[p])
 | _,_,.nil=>.cons h .nil
 | _,_,.cons h' t=>.cons h' (agI h t)
theorem agJ {k d:PyData} {b:Addr} {v:V} {u:Value} (kk:vR k) (rk:Rep K Hh k (.ref b)) (rd:Rep K Hh d v) (rv:RelV v u) {xs:List (PyData×Addr×Value)} {kvs:List (PyData×PyData)} (t:Paired (EntR K Hh) xs kvs):Paired (EntR K Hh) (storedH xs k b u) (dput k d kvs):=by
 unfold storedH dput
 rcases aaf k t with⟨b1,b2,b3⟩ | ⟨q,d',v',b1,b2,b3,b4,b5⟩
 ·rw [b1,if_neg (by simp),if_neg b3]
  exact agI ⟨rfl,kk,rk,v,rd,rv⟩ t
 ·rw [b1,if_pos (show (some q).isSome=true from rfl),if_pos b5]
  exact agH k rd rv t
end
section
variable {w:World} {K:aol} {f:Fx} {Ds:List Addr} {ρ:zq} {cs:List OC} {te tk:TE} {O:MEnds} {i j:Nat} {kvs:List (PyData×PyData)}
theorem ajk {P:OC->Prop} (p:P (.dic [])):ade w K f (agG w) ρ P:=fun σ H Q e q =>
 fun a hn=>q (.dic []) a _ (.of_same (z9 hn _) e.fd) hn ⟨[],zy,.nil⟩ p
theorem agK (hi:ρ[i]?=some (some (.own (f.M.length+j)))) (hc:cs[j]?=some (.dic kvs)) (hl:kvs.length<=1000)
  (h:PEd K (f.withs Ds) te ρ fun v=>PEd K (f.withs Ds) tk ρ fun k=>abX k/\O.nx ρ (cs.set j (.dic (dput k v kvs)))) :
  PSm w K f Ds (jR te (adS (yn i) tk (aaR w K))) ρ cs O:=fun se σ H H2 E x n r b k=>by
 have hj:j<Ds.length:=by rw [<-x.len];exact (aoh.mp hc).1
 have hD:Ds[j]?=some Ds[j]:=aof hj
 refine h σ H _ x.env fun v vv H1 g1 r1 p1=>?_
 have x1:=x.go g1 (x.env.mono g1)
 refine⟨_,y6 hi x1 hD,?_⟩
 refine p1 σ H1 _ x1.env fun kd kv H3 g3 r3 ⟨kt,p3⟩=>?_
 have x3:=x1.go g3 (x1.env.mono g3)
 obtain⟨b',rfl⟩:=qr kt r3
 obtain⟨xs,h1,h2⟩:=x3.own j _ _ hD hc
 have rv:=Rep.mono g3.sm _ _ r1
 refine⟨Ds[j],b',kd,xs,rfl,rfl,h1,fun z hz=>⟨(yI h2 z hz).1,Rep.mono (zk _ _) _ _ (yI h2 z hz).2⟩,kt.1,Rep.mono (zk _ _) _ _ r3,by rw [adi h2];exact hl,fun u ru=>?_⟩
 exact n _ _ _ _ (x3.put se hD (c':=.dic (dput kd v kvs)) ⟨_,zy,agJ kt.1 r3 rv ru h2⟩) p3
theorem anG {P:PyData->Prop} (hi:ρ[i]?=some (some (.own (f.M.length+j)))) (hc:cs[j]?=some (.dic kvs)) (h:PEm w K f Ds tk ρ cs fun k=>abX k/\∃ d,jh k kvs=some d/\P d):PEm w K f Ds (tOp (adh w K) (yn i) tk) ρ cs P:=fun se σ H H2 Q x q=>by
 have hj:j<Ds.length:=by rw [<-x.len];exact (aoh.mp hc).1
 have hD:Ds[j]?=some Ds[j]:=aof hj
 refine⟨_,y6 hi x hD,?_⟩
 refine h se σ H H2 _ x fun k v H1 g1 r1 ⟨kt,d,hd,p⟩=>?_
 have x1:=x.go g1 (x.env.mono g1)
 obtain⟨b,rfl⟩:=qr kt r1
 obtain⟨xs,h1,h2⟩:=x1.own j _ _ hD hc
 rcases aaf k h2 with⟨b1,b2,b3⟩ | ⟨pp,d',v',b1,b2,b3,b4,b5⟩
 ·rw [b2] at hd;cases hd
 ·rw [b2] at hd
  cases hd
  exact⟨Ds[j],b,k,xs,pp,v',rfl,rfl,h1,fun z hz=>⟨(yI h2 z hz).1,Rep.mono (zk _ _) _ _ (yI h2 z hz).2⟩,kt.1,Rep.mono (zk _ _) _ _ r1,b1,b4,q _ _ H1 g1 b3 p⟩
theorem alV (h:PEm w K f Ds te ρ cs O.rt):PSm w K f Ds (adQ te) ρ cs O:=fun se σ H H2 E x n r b k =>
 h se σ H H2 _ x fun d v H' g' r' p=>r d v ρ cs σ H' (x.go g' (x.env.mono g')) (Rep.mono same_withs d v r') p
end
def akR (K:aol) (ns:List Int) (v:Value):Bool:=match v with
 | .ref t=>(match K.lookup t with
  | some o=>o.cls == .type "tuple" && (match o.data with
   | .seq its _=>KTD.intsLook its.toList ns && decide (its.size<=1000)
   | _=>false)
  | none=>false)
 | _=>false
def ahG (K:aol) (a:Addr) (D:List (Str×List Int)):Bool:=!(a == sysModules) && (match K.lookup a with
 | some o=>o.cls == .type "dict" && o.dict.isNone && o.slots.isEmpty && (match o.data with
  | .dict es _=>KTD.rowsLook (akR K) es.toList D
  | _=>false)
 | none=>false)
theorem acx:∀ {vs:List Value} {ns:List Int},IntsAre vs ns->Vals (ns.map V.int) vs
 | _,_,.nil=>.nil
 | _,_,.cons n t h=>.cons ⟨t,rfl⟩ (acx h)
theorem amN {K:aol} {ns:List Int} {v:Value} (h:akR K ns v=true):∃ t,v=.ref t/\∀ H,SqT K H t (ns.map V.int):=by
 unfold akR at h
 split at h
 ·rename_i t
  split at h
  ·rename_i o ho
   rw [aoo] at h
   obtain⟨h1,h2⟩:=h
   split at h2
   ·rename_i its n hd
    rw [aoo] at h2
    exact⟨t,rfl,fun H=>.inr ⟨o,its,n,ho,beq_iff_eq.mp h1,hd,aps (z7 (of_decide_eq_true h2.2)),acx (KTD.ints_of_look h2.1)⟩⟩
   ·cases h2
  ·cases h
 ·cases h
def anH (K:aol) (D:List (Str×List Int)) (tk:TE):TE:=fun σ H Q=>tk σ H fun y H1=>∃ x ns,y=.str x/\arS x D=some ns/\∀ t,(∀ H',SqT K H' t (ns.map V.int))->Q (.ref t) H1
theorem ajl {X:Cx} {K:aol} {x:Str} {a:Addr} {D:List (Str×List Int)} {key:Expr} {tk:TE} {p pos:Pos} (hK:X.K=K) (hg:Gl X x) (hm:X.mg x=some (.ref a)) (hT:ahG K a D=true) (hk:PE X key tk) (hs:af7 key) (hd:(x == ("__debug__":Str))=false:=by decide) :
  PE X (.Subscript (.Name x p) key pos) (anH K D tk):=by
 subst hK
 intro pins s σ H Q I h
 unfold ahG at hT
 rw [aoo] at hT
 obtain⟨h0,hT⟩:=hT
 split at hT
 case h_2=>cases hT
 case h_1 o ho =>
  simp only [aoo] at hT
  obtain⟨⟨⟨e1,e2⟩,e3⟩,e4⟩:=hT
  split at e4
  case h_2=>cases e4
  case h_1 es ep hdat =>
   have rows:KTD.Rows (fun ns v=>akR X.K ns v=true) es.toList D:=KTD.rows_of_look (fun _ _ z=>z) e4
   refine Subscript_ (acT I hg hm ?_ hd)
   refine thn (hk pins s σ H _ I h) fun u s1 ⟨y,H1,I1,ry,z,ns,ey,dat,q⟩=>?_
   subst ey
   obtain⟨tk',rfl⟩:=ry
   have ho1:s1.heap.get? a=some o:=I1.kIn a o ho
   have hT1:s1.TypeIs (.ref a) "dict":=⟨o,ho1,beq_iff_eq.mp e1⟩
   obtain⟨v,hv,hr⟩:=rows.find_some dat
   obtain⟨t,rfl,sq⟩:=amN hr
   refine subscriptTail_builtinR (x:=.ref t) hT1 arh.lookup ?_ (hs _ _)
   unfold getItem
   try with_reducible refine wpAny_holding ?_
   apply wpAny_bind;refine wpAny_sequenceKey hT1 (by decide) ?_
   apply wpAny_bind
   refine wpAny_callSpecial?_slot (name:=ar6 "__getitem__") hT1 slot_dict_getitem (wpAny_call_entry slot_dict_getitem hT1 entry_dict_getitem ?_ (args_dict_getitem _ _))
   show wpAny _ _ (dictGet a (.str z tk') >>= _) _ _ s1
   apply wpAny_bind
   unfold dictGet
   try with_reducible refine wpAny_holding ?_
   apply wpAny_bind;apply wpAny_pyHash_str
   apply wpAny_bind
   refine KTD.kt_dictFind_strs (s:={ s1 with toks:=s1.toks+1 }) ho1 hdat (by obtain⟨l⟩:=es;simpa using rows.exact) ?_
   cases hi:es.findIdx? fun e=>e.key.isStr z with
   | none =>
    exfalso
    have hn:es.toList.find? (fun e=>e.key.isStr z)=none:=by
     rw [aq8]
     intro e he
     have:=Array.findIdx?_eq_none_iff.mp hi e (aqR.mp he)
     simpa using this
    rw [hn] at hv
    cases hv
   | some i =>
    obtain⟨hlt,hi1,hi2⟩:=Array.findIdx?_eq_some_iff_getElem.mp hi
    have hval:es[i].val=.ref t:=by
     have hf:es.toList.find? (fun e=>e.key.isStr z)=some es[i]:=by
      rw [List.find?_eq_some_iff_getElem]
      refine⟨hi1,i,by simpa using hlt,by simp,fun j hj=>?_⟩
      have:=hi2 j hj
      simpa using this
     rw [hf] at hv
     exact Option.some.inj hv
    apply wpAny_bind
    refine wpAny_dictEntries (s:={ s1 with toks:=s1.toks+1 }) ho1 hdat (wpAny_pure ?_)
    rw [apB hlt]
    refine wpAny_pure ⟨es[i].val,rfl,wpAny_pure ?_⟩
    rw [hval]
    exact⟨rfl,.ref t,H1,I1.tok _,rfl,q t sq⟩
section
variable {K:aol} {f:Fx} {ρ:zq} {P:PyData->Prop} {tk:TE} {D:List (Str×List Int)}
theorem alW (h:PEd K f tk ρ fun y=>∃ x ns,y=.str x/\arS x D=some ns/\P (.tuple (ns.map .int))):PEd K f (anH K D tk) ρ P:=fun σ H Q e q =>
 h σ H _ e fun y v H1 g1 r1 ⟨x,ns,ey,hd,p⟩=>by
  subst ey
  exact⟨x,ns,rep_str.mp r1,hd,fun t sq=>q _ _ H1 g1 (rep_tuple.mpr ⟨t,ns.map V.int,rfl,sq _,Reps.ints' ns⟩) p⟩
end
structure MinAt (h0:Heap) (its:List Value) (ds:List PyData) (as:List Addr):Prop where
 ra:ReadsAll h0 its ds as
 pl:∀ d∈ds,zv d=true
 cp:∀ d∈ds,∀ e∈ds,v7 d e=true
 dp:∀ d∈ds,d.depth<=50
section
variable {w:World} {K:aol} {f:Fx} {Ds:List Addr} {ρ:zq} {cs:List OC} {O:MEnds} {tt:TT} {te:TE} {i j n:Nat}
theorem ahH {H H' H2:Hp} {σ:St} (se:Sep f Ds) (x:CM w K f Ds H2 ρ cs σ H) (g:Goes f H H'):Goes (f.withs Ds) H H':=by
 have kp:∀ D∈Ds,H' D=H D:=fun D hD=>by
  obtain⟨o,ho⟩:=x.env.fd.mm D (jv hD)
  have h1:hide H f D=some o:=zF (fun z=>z.elim (se.nf D hD) (se.nm D hD)) ho
  rw [ho,(zN (g.sm D o h1)).2]
 refine⟨fun b o hb=>?_,⟨fun p e=>?_,fun b hb=>?_,x.env.fd.nm⟩,fun b hb=>?_⟩
 ·obtain⟨n1,n2⟩:=zN hb
  have h1:hide H f b=some o:=zF (fun z=>n1 (z.elim .inl fun z=>.inr (aoA _ z))) n2
  exact zF n1 (zN (g.sm b o h1)).2
 ·exact g.2.fd p e
 ·rcases aou.mp hb with h | h
  ·rw [kp b (apM.mp h)]
   exact x.env.fd.mm b hb
  ·exact g.2.mm b h
 ·rcases aou.mp hb with h | h
  ·exact kp b (apM.mp h)
  ·exact g.kp b h
theorem aaS {B:Bool->Prop} (h:PTd K f tt (ρ.map (freed f.M.length cs)) B):PTm w K f Ds tt ρ cs B:=fun se σ H H2 Q x q =>
 h σ H Q (x.free se) fun b H' g p=>q b H' (ahH se x g) p
end
end L2
end
section
namespace L2
open PySem PySem.Spec PyProof.Rows
structure TM (K:aol) (f:Fx) (a:Addr) (as:List Addr) (H2:Hp) (ρ:zq) (rows:List (List Int)) (σ:St) (H:Hp):Prop where
 env:EnvOk K (f.withs (a :: as)) ρ σ H
 sm:Same (hide H2 (f.withs (a :: as))) (hide H (f.withs (a :: as)))
 kp:∀ b∈f.M,H b=H2 b
 tab:TabAt H a as rows
section
variable {P:Program} {w:World} {A:Around} {E:Value->Shared->Prop} {s:Shared} {I d:Addr} {o:Obj} {es:Array DictEntry} {ep i:Nat}
theorem afo {Q:Value->Shared->Prop} (nd:(d == sysModules)=false) (g:s.heap.get? d=some o) (x:o.ExactDict) (y:o.data=.dict es ep)
  (q:Q (.ref s.heap.objs.size) { s with heap:=s.heap.push { cls:=.type "dict_keyiterator",data:=.fields #[.ref d,.int 0 0,.int es.size 0,.int ep 0] } }):wpAny (model P w) A (pyIter (.ref d)) Q E s:=by
 have T:s.TypeIs (.ref d) "dict":=⟨o,g,x.1⟩
 refine wpAny_pyIter_slot T arF (wpAny_call_entry arF T PySem.F.entry_dict_iter ?_ (PySem.F.args_dict_iter_1 _))
 unfold Builtin.«dict.__iter__» Builtin.Dict.dictSlotNone Builtin.Dict.showsAll
 apply wpAny_bind
 apply wpAny_bind
 apply wpAny_notOrdered_dict T
 apply wpAny_pure
 apply wpAny_bind
 refine wpAny_pure (a:=d) ?_
 apply wpAny_bind
 rw [if_neg (fun z=>aoi (nd.symm.trans z))]
 apply wpAny_pure
 apply wpAny_bind
 apply wpAny_dictEntries g y
 apply wpAny_bind
 apply wpAny_dictEpoch g y
 apply wpAny_bind
 refine wpAny_newObj_type ?_ (by size_fits)
 exact wpAny_pure ⟨_,rfl, "dict_keyiterator",_,⟨_,aoM _ rfl,rfl⟩,apP.lookup,q⟩
theorem acy {Q:Option Value->Shared->Prop} (hh:A.handled=none) (t:s.heap.IsKeyIter I d i es.size ep) (g:s.heap.get? d=some o) (y:o.data=.dict es ep)
  (q1:∀ e h',es[i]?=some e->h'.IsKeyIter I d (i+1) es.size ep->apU I s.heap h'->Q (some e.key) { s with heap:=h' })
  (q2:es[i]?=none->∀ h',Heap.ExtBut I s.heap h'->Q none { s with heap:=h' }):wpAny (model P w) A (pyNext (.ref I)) Q E s:=by
 obtain⟨oi,gi,ci,di⟩:=id t
 have T:=t.typeIs
 have own:Builtin.Dict_items.ownsTuple "dict_keyiterator"=false:=by decide
 have nn:¬ ((Value.ref d == Value.none)=true):=aoi
 have pos:¬ ((i:Int)<0):=by omega
 unfold pyNext
 apply wpAny_bind
 apply wpAny_attempt
 refine wpAny_callSpecial?_slot (name:=ar6 "__next__") T apP (wpAny_call_entry apP T PySem.F.entry_dict_keyiterator_next ?_ (PySem.F.args_dict_keyiterator_next_1 _))
 apply wpAny_bind
 apply wpAny_pure
 apply wpAny_bind
 apply wpAny_bind
 apply wpAny_bind
 apply wpAny_typeNameOfWhole_keyiter T
 apply wpAny_pure
 apply wpAny_bind
 apply wpAny_fieldsOf gi di
 simp only [own,aoY,if_false]
 show wpAny _ _ (if (Value.ref d == Value.none)=true then _ else _) _ _ s
 rw [if_neg nn]
 apply wpAny_bind
 apply wpAny_pure
 apply wpAny_bind
 apply wpAny_dictEntries g y
 rw [if_neg (by simp)]
 apply wpAny_bind
 apply wpAny_pure
 apply wpAny_bind
 apply wpAny_dictEpoch g y
 rw [if_neg (by simp)]
 apply wpAny_pure
 cases hx:es[i]? with
 | some e =>
  simp only [pos,if_false,apW,hx]
  apply wpAny_bind
  apply wpAny_bind
  apply wpAny_typeNameOfWhole_keyiter T
  apply wpAny_pure
  apply wpAny_bind
  apply wpAny_isOneOf_keyiter T
  apply wpAny_bind (m:=setField (.ref I) 1 (rawInt ((i:Int)+1)))
  refine wpAny_setField gi di (by simp) ?_
  have t':(s.heap.update I (Obj.mapFields (·.setIfInBounds 1 (rawInt ((i:Int)+1))))).IsKeyIter I d (i+1) es.size ep:=by
   refine⟨_,aqc _ gi (Obj.isFreed_of_fields (Obj.data_mapFields di _)),?_,?_⟩
   ·rw [Obj.cls_mapFields];exact ci
   ·rw [Obj.data_mapFields di];simp [rawInt]
  apply wpAny_bind
  apply wpAny_holding
  apply wpAny_bind
  refine wpAny_isOneOf_keyiter (s:={ s with heap:=s.heap.update I (Obj.mapFields (·.setIfInBounds 1 (rawInt ((i:Int)+1)))) }) t'.typeIs ?_
  exact wpAny_pure (wpAny_pure ⟨_,rfl,wpAny_pure (q1 e _ hx t' (aqo ..))⟩)
 | none =>
  simp only [pos,if_false,apW,hx]
  apply wpAny_bind
  apply wpAny_bind
  apply wpAny_typeNameOfWhole_keyiter T
  apply wpAny_pure
  apply wpAny_bind (m:=setField (.ref I) 0 .none)
  refine wpAny_setField gi di (by simp) ?_
  apply wpAny_bind (m:=newExc (.type "StopIteration") [])
  simp only [newExc,newTuple]
  apply wpAny_bind
  refine wpAny_newObj_type ?_ (by size_fits)
  apply wpAny_bind (m:=firstArgMember _ _)
  refine wpAny_of_eq (a:=Value.none) rfl ?_
  refine wpAny_newObj_type ?_ (by size_fits)
  simp only [raiseNew]
  apply wpAny_bind
  apply wpAny_handled
  rw [show A.in1.handled=none from hh]
  refine wpAny_bind (wpAny_pure ?_)
  apply wpAny_throw
  apply wpAny_bind
  refine wpAny_isInstance (T:="StopIteration") (b:=true) ⟨_,aoM _ rfl,rfl⟩ isSubtype_stop ?_
  exact wpAny_pure (q2 hx _ (((aqo ..).extBut.push _).push _))
end
section
variable {P:Program} {w:World} {A:Around} {E:Value->Shared->Prop} {s:Shared} {d:Addr} {o:Obj} {es:Array DictEntry} {ep:Nat}
theorem ahI (hh:A.handled=none) (I:Addr) (ne:d≠I) (y:o.data=.dict es ep) :
  Walks P w A I [I,d] [I] es.size (fun i v=>∃ e,es[i]?=some e/\v=e.key) (fun i h=>h.IsKeyIter I d i es.size ep/\h.get? d=some o) where
 sub:=fun b hb=>by rw [aos.mp hb];exact aom ..
 frame:=fun i h h' ⟨t,g⟩ k=>⟨t.at (k I (aom ..)),k d (aon _ (aom ..)) o g⟩
 item:=fun i s Q E hi ⟨t,g⟩ q=>acy hh t g y (fun e h' he t' sb=>q e.key h' s.toks ⟨e,he,rfl⟩ ⟨t',(sb.2 d ne).trans g⟩ fun b u hb hu=>(sb.2 b fun z=>hb (by rw [z];exact aom ..)).trans hu) fun z=>by
  rw [apB hi] at z
  cases z
 done:=fun s Q E ⟨t,g⟩ q=>acy hh t g y (fun e h' he=>by
  rw [aqH (aop _)] at he
  cases he) fun _ h' eb=>q h' s.toks fun b u hb hu=>eb b u (fun z=>hb (by rw [z];exact aom ..)) hu
 self:=fun i s Q E st q=>wpAny_pyIter_keyiter st.1 q
theorem ajm (nd:(d == sysModules)=false) (x:o.ExactDict) (y:o.data=.dict es ep):PySem.W.KdlSrc P w "dict" d d es.size (fun i v=>∃ e,es[i]?=some e/\v=e.key) (fun h=>h.get? d=some o) where
 type:=fun s g=>⟨o,g,x.1⟩
 there:=fun h g=>⟨aoB g,aoB g⟩
 keep:=fun h h' g k=>k d (.inl rfl) o g
 notList:=rfl
 notTuple:=rfl
 hint:=fun A E s Q g q=>PySem.W.kdl_hint_dict ⟨o,g,x.1⟩ q
 iter:=fun A s hh g=>⟨_,_,fun E Q q=>afo nd g x y q,ahI hh _ (aoR (aoB g)) y,⟨_,aoM _ rfl,rfl,rfl⟩,aot _ g⟩
theorem aaL {vs:List Value} {κ:SortKind} {lt:Nat->Nat->Bool} {Q:Value->Shared->Prop} (hh:A.handled=none) (nd:(d == sysModules)=false) (g:s.heap.get? d=some o) (x:o.ExactDict) (y:o.data=.dict es ep) (ev:vs=es.toList.map (·.key)) (hz:vs.length<=sizeLine)
  (K:∀ tk,Asks P w A.in1.in1 { s with toks:=tk } κ vs lt)
  (q:∀ (h':Heap) tk D p c,Pm vs.length p->Up lt p vs.length->(∃ h1:Heap,(∀ b u,s.heap.get? b=some u->h1.get? b=some u)/\h1.objs.size<=D)->(∀ b u,s.heap.get? b=some u->h'.get? b=some u)->h'.get? D=some (seqObj "list" (p.toList.map fun i=>vs.getD i Value.none).toArray c)->Q (.ref D) { s with heap:=h',toks:=tk }) :
  wpAny (model P w) A (call (.builtin "sorted") [.ref d]) Q E s:=by
 have hn:es.size<=sizeLine:=by rw [ev,aog,aoz] at hz;exact hz
 refine arf kind_sorted plain_sorted entry_sorted (args_sorted1 _) ?_
 unfold Builtin.«sorted»
 apply wpAny_bind (m:=checkCount "sorted" 1 1 _);apply wpAny_pure
 apply wpAny_bind;refine PySem.W.kdu_collect (A:=A.in1) (ajm nd x y) hh g hn fun h1 tk acc k1 hacc=>?_
 have ea:acc.toList=vs:=by
  rw [ev]
  refine aqf fun i=>?_
  rw [aoq,apQ,apQ]
  by_cases hi:i<acc.size
  ·obtain⟨e,he,hv⟩:=hacc.2 i _ (apB hi)
   rw [apB hi,he,hv]
   rfl
  ·rw [aqH (by omega),aqH (by rw [<-hacc.1];omega)]
   rfl
 rw [ea]
 let h2':=h1.push (seqObj "list" vs.toArray 0)
 have at2:h2'.get? h1.objs.size=some (seqObj "list" vs.toArray 0):=aoM _ rfl
 have keep:∀ b u,s.heap.get? b=some u->b≠h1.objs.size/\h2'.get? b=some u:=fun b u eb =>
  ⟨aoR (aoB (k1 b u eb)),aot _ (k1 b u eb)⟩
 apply wpAny_bind;refine wpAny_newList ?_ hz
 change wpAny _ _ _ _ _ { s with heap:=h2',toks:=tk }
 apply wpAny_bind;apply wpAny_holding
 refine wpAny_call_entry slot_list_sort ⟨_,at2,rfl⟩ entry_list_sort ?_ (args_list_sort _)
 refine agk (s:={ s with heap:=h2',toks:=tk }) hz at2 (h0:=s.heap) keep (K tk) fun h' p c x1 x2 x3 x4=>⟨_,rfl,wpAny_pure ⟨_,rfl,?_⟩⟩
 exact q h' tk _ p c x1 x2 ⟨h1,k1,aop _⟩ (fun b u eb=>x3 b u (keep b u eb).1 (keep b u eb).2) x4
end
def afp (w:World) (K:aol):List V->Hp->VK->Prop:=fun xs H Q=>∃ (a:Addr) (es:List (PyData×Addr×Value)) (T:String),xs=[.ref a]/\H a=some (DicO w a es)/\vS K H es/\SortOk T (es.map (·.1))/\es.length<64 /\
 ∀ l p,H l=none->Pm es.length p->Up (fun i j=>ltD ((es.map (·.1)).getD i .none) ((es.map (·.1)).getD j .none)) p es.length->Q (.ref l) (upd H l (.lst (pick .non p (es.map fun x=>.ref x.2.1))))
theorem aav {K:aol} {H:Hp}:∀ {es:List (PyData×Addr×Value)},vS K H es->Reps K H (es.map (·.1)) (es.map fun x=>V.ref x.2.1)
 | [],_=>.nil'
 | x :: es,h=>.cons' (h x (aom ..)).2 (aav fun z hz=>h z (aon _ hz))
theorem aaw:∀ es:List (PyData×Addr×Value),Vals (es.map fun x=>V.ref x.2.1) (es.map fun x=>Value.ref x.2.1)
 | []=>.nil
 | x :: es=>.cons rfl (aaw es)
theorem afq {X:Cx} (hc:X.calm=true) (hu:X.A.units+64<cLine):yy X (.builtin "sorted") (afp X.w X.K):=by
 intro pins s σ H xs us Q I r h
 obtain⟨a,es,T,rfl,hS,ks,ok,few,q⟩:=h
 obtain⟨u,rfl,rx⟩:=vals1 r
 cases rx
 obtain⟨⟨o,es',ep,S⟩,_⟩:=I.hok a _ hS
 obtain⟨as,ra⟩:=jc I _ _ _ (aav ks) (aaw es)
 have e2:X.A.in1.in1.units=X.A.units+1+1:=rfl
 have ev:(es.map fun x=>Value.ref x.2.1)=es'.toList.map (·.key):=by
  rw [S.el,apJ]
  rfl
 have lm:(es.map fun x=>Value.ref x.2.1).length=es.length:=aog _
 have lm2:(es.map (·.1)).length=es.length:=aog _
 refine aaL (I.ok.hd hc) S.ns S.ob S.ex S.da ev (by rw [lm];exact aps (z7 (by omega))) (fun tk=>agq (s:={ s with toks:=tk }) ra ok (by omega) (.inl (by rw [lm2];exact few))) fun h' tk D p c x1 x2 x3 x4 x5=>?_
 rw [lm] at x1 x2
 obtain⟨h1,k1,l1⟩:=x3
 have hD:H D=none:=(I.hok.kept k1).fresh l1
 have x3:∀ b u,s.heap.get? b=some u->b≠D:=fun b u e=>aoR (aoL (aoB (k1 b u e)) l1)
 have lp:p.toList.length=es.length:=by rw [aoz];exact x1.size
 obtain⟨m,hm,_⟩:=I.loc
 refine⟨.ref D,upd H D (.lst (pick .non p (es.map fun x=>.ref x.2.1))),I.laidL (t':=tk) (fun b u _ e=>x4 b u e) ?_ (fun m hm=>hm.keeps x4) x3 hD ⟨by unfold pick;rw [aog];exact aps (z7 (by omega)),_,c,acp (aaw es) p,x5⟩,rfl,q D p hD x1 x2⟩
 obtain⟨o2,g2⟩:∃ o2,s.heap.get? X.env.locals=some o2:=let⟨u,_,_,hu,_⟩:=hm;⟨u,hu⟩
 exact⟨o2,x4 _ _ g2⟩
theorem aet {X:Cx} {K:aol} {w:World} (hc:X.calm=true) (hw:X.w=w) (hK:X.K=K) (hu:X.A.units+64<cLine):yy X (.builtin "sorted") (afp w K):=hw▸hK▸afq hc hu
def alX (w:World) (K:aol) (tk tv:TE):TE:=fun σ H Q=>∀ p,H p=none->tk σ (upd H p (DicO w p [])) fun kx H1=>tv σ H1 fun vx H2=>aaR w K (.ref p) kx vx H2 fun H3=>Q (.ref p) H3
theorem aeu {X:Cx} (hu:X.A.units+64<cLine):OpR X (compareOp .NotIn) (afn X.w X.K true):=by
 intro pins s σ H x y v u Q I rx ry h
 obtain⟨a,b,d,xs,rfl,rfl,hS,ks,kd,rd,q⟩:=h
 cases rx
 cases ry
 obtain⟨hm,ns⟩:=adg I hS ks
 have hu1:X.A.in1.units=X.A.units+1:=rfl
 exact wpAny_notIn_heap (by show _+40<cLine;omega) (qt I kd rd) ns hm ⟨.bl _,H,I.tok _,rfl,q⟩
theorem adj {X:Cx} {K:aol} {w:World} (hw:X.w=w) (hK:X.K=K) (hu:X.A.units+64<cLine):OpR X (compareOp .NotIn) (afn w K true):=hw▸hK▸aeu hu
theorem akS {X:Cx} {w:World} {K:aol} {pos:Pos} {k v:Expr} {tk tv:TE} (hw:X.w=w) (hK:X.K=K) (hu:X.A.units+64<cLine) (hk:PE X k tk) (hv:PE X v tv):PE X (.Dict [some k] [v] pos) (alX w K tk tv):=by
 subst hw hK
 intro pins s σ H Q I h
 refine wpAny_Dict_any rfl rfl (by simp) (aoS rfl) ?_
 have I0:=I.laid (a:=s.heap.objs.size) (t':=s.toks) (fun _ _ q=>aot _ q) (aop _) (DicO.ok (xs:=[]) (o:={ cls:=.type "dict",data:=.dict #[] }) (es:=#[]) (ep:=0) ⟨aoM _ rfl,⟨rfl,rfl,rfl⟩,rfl,rfl,apj,beq_eq_false_iff_ne.mpr (apC (aoR (agF I)))⟩)
 refine pairTrees_cons_walk (thn (hk pins _ σ _ _ I0 (h _ (I.hok.fresh (aop _)))) fun kv s1 ⟨kx,H1,I1,r1,q1⟩=>?_)
 refine thn (hv pins s1 σ H1 _ I1 q1) fun vv s2 ⟨vx,H2,I2,r2,q2⟩=>?_
 refine pairTrees_nil_walk ?_
 obtain⟨a,b,d,xs,ea,rfl,hS,ks,kd,rd,hl,q⟩:=q2
 cases ea
 cases r1
 obtain⟨hm,ns⟩:=adg I2 hS ks
 unfold storeAll
 rw [aqb]
 refine wpAny_bind (wpAny_bind (wpAny_dictSet_heap (by show _+40<cLine;omega) (qt I2 kd rd) hm (fun h' hm' sb=>?_) (aps (z7 hl))))
 refine wpAny_pure ?_
 show wpAny _ _ (forIn [] _ _) _ _ _
 rw [aqi]
 refine wpAny_pure ?_
 obtain⟨o',es',ep',x1,x2,x3,x4,x5,x6⟩:=hm'
 exact⟨.ref _,_,I2.write (t':=s2.toks+zZ d) (x:=s.heap.objs.size) (e:=s.heap.objs.size) (by rw [hS];exact trivial) (.inl rfl) (fun b u nb e=>(sb.2 b nb).trans e) ⟨o',x1⟩ (DicO.ok ⟨x1,x2,x3,x4,x6,ns⟩),rfl,q _ r2⟩
section
variable {w:World} {K:aol} {f:Fx} {Ds:List Addr} {ρ:zq} {cs:List OC} {te tk tv:TE} {O:MEnds} {i j n:Nat} {kvs:List (PyData×PyData)}
theorem anI {es:List PyData} {d:PyData} (hi:ρ[i]?=some (some (.own (f.M.length+j)))) (hc:cs[j]?=some (.lst (es++[d]))) (h:O.nx (ρ.set n (some (.dat d))) (cs.set j (.lst es))):PSm w K f Ds (jR (ant K "list" anu (yn i)) (yW n)) ρ cs O:=fun se σ H H2 E x nn r b k=>by
 have hj:j<Ds.length:=by rw [<-x.len];exact (aoh.mp hc).1
 have hD:Ds[j]?=some Ds[j]:=aof hj
 obtain⟨vs,h0,rs⟩:=x.own j _ _ hD hc
 obtain⟨vs',v,rfl,rs',rv⟩:∃ vs' v,vs=vs'++[v]/\Reps K (hide H (f.withs Ds)) es vs'/\Rep K (hide H (f.withs Ds)) d v:=by
  have key:∀ (es:List PyData) (vs:List V),Reps K (hide H (f.withs Ds)) (es++[d]) vs->∃ vs' v,vs=vs'++[v]/\Reps K (hide H (f.withs Ds)) es vs'/\Rep K (hide H (f.withs Ds)) d v:=fun es=>by
   induction es with
   | nil =>
    intro vs q
    obtain⟨v,vs',rfl,r1,r2⟩:=reps_cons.mp q
    rw [reps_nil.mp r2]
    exact⟨[],v,rfl,.nil',r1⟩
   | cons e es ih =>
    intro vs q
    obtain⟨v,vs',rfl,r1,r2⟩:=reps_cons.mp q
    obtain⟨us,z,rfl,r3,r4⟩:=ih vs' r2
    exact⟨v :: us,z,rfl,.cons' r1 r3,r4⟩
  exact key es vs rs
 refine⟨_,y6 hi x hD,Or.inl ⟨rfl,_,.of h0⟩,Ds[j],vs'++[v],v,rfl,rfl,h0,by simp,?_⟩
 rw [List.dropLast_concat]
 have x1:=x.put se hD (o:=.lst vs') (c':=.lst es) ⟨vs',zy,rs'⟩
 have hm:=aoj hD
 refine nn _ _ _ _ ⟨x1.env.set n (x:=.dat d) ?_,x1.sm,x1.kp,x1.len,x1.own⟩ h
 show Rep K (hide (upd H Ds[j] (.lst vs')) (f.withs Ds)) d v
 rw [ym hm]
 exact rv
theorem akT {neg:Bool} {B:Bool->Prop} (hi:ρ[i]?=some (some (.own (f.M.length+j)))) (hc:cs[j]?=some (.dic kvs)) (h:PEm w K f Ds te ρ cs fun d=>abX d/\B (if neg then !decide (d∈kvs.map (·.1)) else decide (d∈kvs.map (·.1)))) :
  PTm w K f Ds (ab9 (tOp (afn w K neg) te (yn i))) ρ cs B:=fun se σ H H2 Q x q=>by
 have hj:j<Ds.length:=by rw [<-x.len];exact (aoh.mp hc).1
 have hD:Ds[j]?=some Ds[j]:=aof hj
 refine h se σ H H2 _ x fun d v H1 g1 r1 ⟨kd,p⟩=>?_
 have x1:=x.go g1 (x.env.mono g1)
 obtain⟨b,rfl⟩:=qr kd r1
 obtain⟨xs,h1,h2⟩:=x1.own j _ _ hD hc
 refine⟨_,y6 hi x1 hD,Ds[j],b,d,xs,rfl,rfl,h1,fun z hz=>⟨(yI h2 z hz).1,Rep.mono (zk _ _) _ _ (yI h2 z hz).2⟩,kd.1,Rep.mono (zk _ _) _ _ r1,_,rfl,?_⟩
 have:(atKey xs d).isSome=decide (d∈kvs.map (·.1)):=by
  rcases aaf d h2 with⟨a1,_,a3⟩ | ⟨p',_,_,a1,_,_,_,a3⟩
  ·rw [a1,decide_eq_false a3];rfl
  ·rw [a1,decide_eq_true a3];rfl
 rw [this]
 exact q _ H1 g1 p
theorem akU {P:OC->Prop} (h:∀ p,PEd K (f.with p) tk ρ fun k=>abX k/\PEd K (f.with p) tv ρ fun v=>P (.dic [(k,v)])):ade w K f (alX w K tk tv) ρ P:=fun σ H Q e q p hp=>by
 have np:=fresh_ne e.fd hp
 have e0:EnvOk K (f.with p) ρ σ (upd H p (DicO w p [])):=aiL e hp
 have top:(upd H p (DicO w p [])) p=some (DicO w p []):=zy
 refine h p σ _ _ e0 fun k kx H1 g1 r1 ⟨kt,h2⟩=>h2 σ H1 _ (e0.mono g1) fun v vx H2 g2 r2 pv=>?_
 obtain⟨b,rfl⟩:=qr kt r1
 have g12:=g1.trans g2
 have hp2:H2 p=some (DicO w p []):=(g12.kp p (aom ..)).trans top
 have rk:=Rep.mono g2.sm _ _ r1
 refine⟨p,b,k,[],rfl,rfl,hp2,(fun z hz=>nomatch hz),kt.1,Rep.mono (zk _ _) _ _ rk,ao2 _,fun u ru=>?_⟩
 have hw:hide (upd H2 p (DicO w p (storedH [] k b u))) (f.with p)=hide H2 (f.with p):=yw
 have fo:FOk f (upd H2 p (DicO w p (storedH [] k b u))):=by
  have fo2:=g12.ok
  refine⟨fun c ec=>?_,fun c hc=>?_,fun c ec hc=>fo2.nm c ec (aon _ hc)⟩
  ·obtain⟨a1,a2,a3,a4⟩:=fo2.fd c ec
   exact⟨a1,a2,by rw [zu (fun (z:c=p)=>np (.inl (z▸ec)))];exact a3,a4⟩
  ·obtain⟨o,ho⟩:=fo2.mm c (aon _ hc)
   exact⟨o,by rw [zu (fun (z:c=p)=>np (.inr (z▸hc)))];exact ho⟩
 have sm:Same (hide H f) (hide (upd H2 p (DicO w p (storedH [] k b u))) (f.with p)):=by
  rw [hw]
  exact (qZ hp).trans g12.sm
 refine q (.dic [(k,v)]) p _ ⟨sm.trans jY,fo,fun c hc=>?_⟩ hp ⟨_,zy,?_⟩ pv
 ·have ncp:c≠p:=fun z=>np (.inr (z▸hc))
  rw [zu ncp,g12.kp c (aon _ hc),zu ncp]
 ·rw [hw]
  exact agJ (xs:=[]) (kvs:=[]) kt.1 rk r2 ru .nil
abbrev amO (K:aol):List V->Hp->VK->Prop:=fun xs H Q=>∃ p ys,xs=[V.ref p]/\((SqL K H p ys/\∀ l,H l=none->Q (V.ref l) (upd H l (HO.tup ys))) \/ (SqT K H p ys/\Q (V.ref p) H))
theorem amP {P:PyData->Prop} (T:String) (hi:ρ[i]?=some (some (.own (f.M.length+j)))) (hc:cs[j]?=some (.dic kvs)) (ok:SortOk T (kvs.map (·.1))) (few:kvs.length<64) (h:∀ es,es.Perm (kvs.map (·.1))->(es.Pairwise fun d e=>ltD d e=true)->P (.tuple es)) :
  PEm w K f Ds (tCB (amO K) (yO (tCB (afp w K) (yO (yn i) vt)) vt)) ρ cs P:=fun se σ H H2 Q x q=>by
 have hj:j<Ds.length:=by rw [<-x.len];exact (aoh.mp hc).1
 have hD:Ds[j]?=some Ds[j]:=aof hj
 obtain⟨xs,h1,h2⟩:=x.own j _ _ hD hc
 have ek:xs.map (·.1)=kvs.map (·.1):=by
  have key:∀ {xs:List (PyData×Addr×Value)} {kvs:List (PyData×PyData)},Paired (EntR K (hide H (f.withs Ds))) xs kvs->xs.map (·.1)=kvs.map (·.1):=fun {xs kvs} t=>by
   induction t with
   | nil=>rfl
   | cons a _ ih=>rw [aoI,aoI,ih,a.1]
  exact key h2
 have el:=adi h2
 have ko:=yI h2
 refine⟨_,y6 hi x hD,Ds[j],xs,T,rfl,h1,fun z hz=>⟨(ko z hz).1,Rep.mono (zk _ _) _ _ (ko z hz).2⟩,by rw [ek];exact ok,by rw [el];exact few,fun l p hl pm up=>?_⟩
 have nl:=fresh_ne x.env.fd hl
 have g1:Goes (f.withs Ds) H (upd H l (.lst (pick .non p (xs.map fun z=>.ref z.2.1)))):=.of_same (z9 hl _) x.env.fd
 refine⟨l,_,rfl,.inl ⟨.inl (.inl zy),fun l2 hl2=>?_⟩⟩
 have g2:Goes (f.withs Ds) (upd H l (.lst (pick .non p (xs.map fun z=>.ref z.2.1)))) (upd (upd H l (.lst (pick .non p (xs.map fun z=>.ref z.2.1)))) l2 (.tup (pick .non p (xs.map fun z=>.ref z.2.1)))):=.of_same (z9 hl2 _) g1.ok
 have rr:Reps K (hide H (f.withs Ds)) (pick .none p (xs.map (·.1))) (pick .non p (xs.map fun z=>.ref z.2.1)):=acq (aav ko) p
 have pr:(pick .none p (xs.map (·.1))).Perm (xs.map (·.1)):=acr pm (by rw [aog])
 have pu:=agt (ds:=xs.map (·.1)) pm (fun a b hab hb=>up a b hab hb)
 refine q (.tuple (pick .none p (xs.map (·.1)))) _ _ (g1.trans g2) (rep_tuple.mpr ⟨l2,_,rfl,.of (zF (fresh_ne g1.ok hl2) zy),Reps.mono (g1.trans g2).sm _ _ rr⟩) (h _ ?_ pu)
 rw [<-ek]
 exact pr
end
section
variable {K:aol} {f:Fx} {ρ:zq} {ts tu:TS} {O:DEnds} {te:TE} {i:Nat}
theorem acz (J:zq->Prop) (h1:PSd K f ts ρ { O with nx:=J }) (h2:∀ ρ',J ρ'->PSd K f tu ρ' O):PSd K f (qL ts tu) ρ O :=
 z6 fun σ H E e n r b k=>h1 σ H E e (fun ρ' σ' H' g' e' p=>n ρ' σ' H' g' e' (h2 ρ' p)) r b k
theorem aev {w:World} {Ds:List Addr} {cs:List OC} {O:MEnds} (J:zq->List OC->Prop) (h1:PSm w K f Ds ts ρ cs { O with nx:=J }) (h2:∀ ρ' cs',J ρ' cs'->PSm w K f Ds tu ρ' cs' O):PSm w K f Ds (qL ts tu) ρ cs O :=
 vH fun se σ H H2 E x n r b k=>h1 se σ H H2 E x (fun ρ' cs' σ' H' x' p=>n ρ' cs' σ' H' x' (h2 ρ' cs' p)) r b k
end
section
variable {K:aol} {f:Fx} {ρ:zq} {wi:TI} {g:TG} {tt:TT} {own:Nat} {fr:List Nat} {tb:Addr->TB} {P:List PyData->Prop}
theorem qu {α:Type} {A B:α->PyData} (p:α->Bool) (xs:List α) (h:PId K f wi ρ fun ds=>ds=xs.map A/\xs.length<=1000 /\
   (∀ D x ρ' es,x∈xs->OwnE own (frD fr ρ) ρ'->es.length<1000->PGd K (f.with D) g (A x) ρ' fun ρ2=>PTd K (f.with D) tt ρ2 fun b=>b=p x/\if b=true then PBd K f D (tb D) ρ2 es fun ρ3 es3=>OwnE own (frD fr ρ) ρ3/\es3=es++[B x] else OwnE own (frD fr ρ) ρ2)/\P ((xs.filter p).map B)) :
  PEdO K f (jX wi own fr g tt tb) ρ P :=
 qP (h.imp fun ds ⟨ed,hl,hs,hp⟩=>by
  subst ed
  refine⟨fun i ρ' es=>OwnE own (frD fr ρ) ρ'/\es=((xs.take i).filter p).map B,⟨⟨apN own none,by simp,rfl⟩,by simp⟩,fun D i d ρ' es hd ⟨ho,he⟩=>?_,fun ρ' es ⟨_,he⟩=>?_⟩
  ·rw [aoq] at hd
   cases eq:xs[i]? with
   | none=>rw [eq] at hd;cases hd
   | some x =>
    rw [eq] at hd
    cases hd
    have hi:i<xs.length:=(aoh.mp eq).1
    have tk:xs.take (i+1)=xs.take i++[x]:=by rw [apk,eq];rfl
    have hb:es.length<1000:=by
     have:=ao5 p (xs.take i)
     rw [aoX] at this
     rw [he,aog]
     omega
    intro σ H v Q e r q
    refine hs D x ρ' es (aoj eq) ho hb σ H v Q e r fun ρ2 σ2 H2 g2 e2 p2=>q ρ2 σ2 H2 g2 e2 (p2.imp fun b hb2=>?_)
    obtain⟨eb,hb2⟩:=hb2
    cases b with
    | false =>
     rw [if_neg aoi] at hb2 ⊢
     refine⟨hb2,?_⟩
     rw [tk,api,aoF,ao0,<- eb,if_neg aoi,he]
     simp
    | true =>
     rw [if_pos rfl] at hb2 ⊢
     intro h1 h2 σ3 H3 H4 W c k
     exact hb2 h1 h2 σ3 H3 H4 W c fun ρ5 es5 σ5 H5 c5 ⟨o5,p5⟩=>k ρ5 es5 σ5 H5 c5 ⟨o5,by rw [p5,he,tk,api,aoF,ao0,<- eb,if_pos rfl];rfl⟩
  ·rw [he,aog,aoZ]
   exact hp)
end
end L2
end
section
namespace L2
open PySem PySem.Spec PyProof.Rows
def afr (w:World) (K:aol) (kvs:List (PyData×PyData)):Hp->V->Prop:=fun Hh v=>∃ a xs,v=.ref a/\Hh a=some (DicO w a xs)/\Paired (EntR K Hh) xs kvs
def PEv (K:aol) (f:Fx) (te:TE) (ρ:zq) (P:DV->Prop):Prop:=∀ (σ:St) (H:Hp) (Q:VK),EnvOk K f ρ σ H->(∀ x v H',Goes f H H'->RepV K f H' x v->P x->Q v H')->te σ H Q
def spV {γ:Type} (K:aol) (n:Nat) (pre:γ->List DV->Prop) (post:γ->DV->Prop):Sp:=fun vs H Q _=>∃ f xs c,RepVs K f H xs vs/\xs.length=n/\FOk f H/\pre c xs/\∀ r v H',Goes f H H'->RepV K f H' r v->post c r->Q v H'
def PSv (K:aol) (f:Fx) (ts:TS) (ρ:zq) (R:DV->Prop):Prop:=∀ (σ:St) (H:Hp) (E:Ends),EnvOk K f ρ σ H->(∀ x v H',Goes f H H'->RepV K f H' x v->R x->E.rt v H')->ts E σ H
def akV (w:World) (K:aol) (f:Fx) (Ds:List Addr) (ts:TS) (ρ:zq) (cs:List OC) (j:Nat) (R:OC->Prop):Prop:=Sep f Ds->∀ (σ:St) (H H2:Hp) (E:Ends),CM w K f Ds H2 ρ cs σ H ->
 (∀ D c ρ' cs' σ' H',CM w K f Ds H2 ρ' cs' σ' H'->Ds[j]?=some D->cs'[j]?=some c->R c->E.rt (.ref D) H')->ts E σ H
section
variable {w:World} {K:aol} {f:Fx} {ρ:zq} {Ds:List Addr} {cs:List OC} {te ta tk:TE} {ts tu:TS} {t:TA} {O:DEnds} {i j:Nat} {R:OC->Prop}
theorem v_var {P:DV->Prop} {x:DV} (h:ρ[i]?=some (some x)) (p:P x):PEv K f (yn i) ρ P:=fun σ H Q e q=>by
 obtain⟨v,h1,h2⟩:=e.get i x h
 exact⟨v,h1,q x v H (.refl e.fd) h2 p⟩
theorem amQ {P:DV->Prop} {γ:Type} {n:Nat} {pre:γ->List DV->Prop} {post:γ->DV->Prop} {E:XK} (c:γ) (h:PAd K f t ρ fun xs=>xs.length=n/\pre c xs/\∀ r,post c r->P r):PEv K f (acb (spV K n pre post) [] E t) ρ P:=fun σ H Q e q =>
 h σ H _ e fun xs vs H1 g1 r1 ⟨hl,hp,k⟩=>⟨f,xs,c,by rw [apf];exact r1,hl,g1.2,hp,fun r v H' g' r' p'=>q r v H' (g1.trans g') r' (k r p')⟩
theorem amR (h:PEv K f te ρ fun x=>O.nx (ρ.set i (some x))):PSd K f (jR te (yW i)) ρ O:=fun σ H E e n r b k =>
 h σ H _ e fun x v H1 g1 r1 p=>n _ _ H1 g1 ((e.mono g1).set i (x:=x) r1) p
theorem agL {P:PyData->Prop} (h:PEv K f ta ρ fun x=>∃ kvs,x=.mon (afr w K kvs)/\PEd K f tk ρ fun k=>abX k/\∃ d,jh k kvs=some d/\P d):PEd K f (tOp (adh w K) ta tk) ρ P:=fun σ H Q e q =>
 h σ H _ e fun x v H1 g1 r1 ⟨kvs,ex,h2⟩=>h2 σ H1 _ (e.mono g1) fun k kv H2 g2 r2 ⟨kt,d,hd,p⟩=>by
  subst ex
  obtain⟨b,rfl⟩:=qr kt r2
  obtain⟨a,xs,rfl,h3,h4⟩:=(RepV.mono g2 r1:RepV K f H2 (.mon (afr w K kvs)) v) (hide H2 f) (Same.refl _)
  rcases aaf k h4 with⟨_,a2,_⟩ | ⟨p',d',v',a1,a2,a3,a4,_⟩
  ·rw [hd] at a2
   cases a2
  ·rw [hd] at a2
   cases a2
   exact⟨a,b,k,xs,p',v',rfl,rfl,(zN h3).2,fun z hz=>⟨(yI h4 z hz).1,Rep.mono (zk _ _) _ _ (yI h4 z hz).2⟩,kt.1,Rep.mono (zk _ _) _ _ r2,a1,a4,q d v' H2 (g1.trans g2) a3 p⟩
theorem amS (h:PSm w K f Ds ts ρ cs { nx:=fun ρ' cs'=>akV w K f Ds tu ρ' cs' j R,rt:=fun _=>False }):akV w K f Ds (qL ts tu) ρ cs j R:=fun se σ H H2 E x q =>
 h se σ H H2 _ x (fun ρ' cs' σ' H' x' p=>p se σ' H' H2 E x' q) (fun _ _ _ _ _ _ _ _ z=>z.elim) (fun _ _ _ _ _ z=>z.elim) (fun _ _ _ _ _ z=>z.elim)
theorem amT {c:OC} (hi:ρ[i]?=some (some (.own (f.M.length+j)))) (hc:cs[j]?=some c) (h:R c):akV w K f Ds (adQ (yn i)) ρ cs j R:=fun se σ H H2 E x q=>by
 have hj:j<Ds.length:=by rw [<-x.len];exact (aoh.mp hc).1
 have hD:Ds[j]?=some Ds[j]:=aof hj
 exact⟨_,y6 hi x hD,q _ c ρ cs σ H x hD hc h⟩
theorem amU {R:DV->Prop} (h:ade w K f te ρ fun c=>i<ρ.length/\∀ D,akV w K f [D] ts (ρ.set i (some (.own (f.M.length+0)))) [c] 0 fun c=>∃ kvs,c=.dic kvs/\R (.mon (afr w K kvs))):PSv K f (qL (jR te (yW i)) ts) ρ R:=fun σ H E e q=>by
 have se0:Sep f []:=⟨apj,(fun _ z=>nomatch z),(fun _ z=>nomatch z)⟩
 have x0:CM w K f [] H ρ [] σ H:=⟨e,Same.refl _,fun _ _=>rfl,rfl,(fun i D c z=>nomatch z)⟩
 refine h σ H _ e fun c D H1 g1 hn ho ⟨hi,p⟩=>?_
 have nD:=fresh_ne e.fd hn
 refine p D (se0.more e.fd hn) _ H1 H1 E (x0.more g1 hn ho hi) fun D' c' ρ' cs' σ' H' y h1 h2 ⟨kvs,ec,r⟩=>?_
 cases h1
 subst ec
 have z:=x0.less g1 hn y
 obtain⟨xs,h3,h4⟩:=y.own 0 D _ rfl h2
 exact q (.mon (afr w K kvs)) _ H' ⟨z.sm,z.env.fd,z.kp⟩ (fun H'' s=>⟨D,xs,rfl,s D _ (zF nD h3),EntR.mono (same_withs.trans s) h4⟩) r
end
theorem ahJ (k v:PyData) (kvs:List (PyData×PyData)):jh k (dput k v kvs)=some v:=by
 unfold dput jh
 by_cases h:k∈kvs.map (·.1)
 ·rw [if_pos h]
  induction kvs with
  | nil=>cases h
  | cons p kvs ih =>
   rw [aoI,apA]
   by_cases e:p.1=k
   ·rw [if_pos e,decide_eq_true (show p.1=k from e)]
    rfl
   ·rw [if_neg e,decide_eq_false (show ¬ p.1=k from e)]
    rw [aoI,aor] at h
    exact ih (h.resolve_left fun z=>e z.symm)
 ·rw [if_neg h,List.find?_append,aq8.mpr,Option.none_or,apA,decide_eq_true rfl]
  ·rfl
  ·intro p hp
   have:p.1≠k:=fun z=>h (aoC.mpr ⟨p,hp,z⟩)
   simpa using this
theorem abA {k k':PyData} (v:PyData) (ne:k'≠k) (kvs:List (PyData×PyData)):jh k' (dput k v kvs)=jh k' kvs:=by
 unfold dput jh
 split
 ·rename_i hk
  clear hk
  congr 1
  induction kvs with
  | nil=>rfl
  | cons p kvs ih =>
   rw [aoI,apA,apA]
   by_cases e:p.1=k
   ·rw [if_pos e,decide_eq_false (show ¬ (p.1,v).1=k' from fun z=>ne (z.symm.trans e))]
    exact ih
   ·rw [if_neg e]
    cases decide (p.1=k')
    ·exact ih
    ·rfl
 ·rw [List.find?_append,apA,decide_eq_false (show ¬ (k,v).1=k' from fun z=>ne z.symm)]
  simp
section
variable {γ:Type} {P:Program} {w:World} {K:aol} {mg:Str->Option Value} {base:Heap} {k:Nat} {x:Str} {st:Stmt} {N:List Str} {ps:List Str} {n:Nat} {pre:γ->List DV->Prop} {post:γ->DV->Prop}
theorem Def.okV (F:Def K mg x st ps) (S:FnScope N ps (zj st)) (hn:ps.length=n)
  (h:∀ (fa:Addr) (cdv:Value) (A:Around) (outer:List Env) (s:Shared) (H:Hp) (E:XK),Room k (A.deeper (envOfC x (zj st) s.heap.objs.size fa cdv)) ->
   ∃ t,PSs (z5 CX0 P w K mg base N x (zj st) fa cdv A outer s H E).nox (yK st) t/\∀ (f:Fx) (xs:List DV) (c:γ),xs.length=n->pre c xs->PSv K f t (qm N xs) (post c)) :
  FnIn P w K mg base (k+1) x ps (spV K n pre post):=by
 obtain⟨fa,fd,F1,F2,F3⟩:=F.ex
 refine⟨fa,fd,F1.ok S (fun vs H Q E h=>?_) (fun cdv A outer s H vs Q E hr hs=>?_),F3,F1.kp,F2⟩
 ·obtain⟨f,xs,c,r,hl,_⟩:=h
  rw [r.length,hl,hn]
 ·obtain⟨f,xs,c,r,hl,fo,hp,q⟩:=hs
  obtain⟨t,h1,h2⟩:=h fa cdv A outer s H E hr
  exact⟨t,h1,h2 f xs c hl hp (start N vs) H _ (jZ r fo) fun x v H' g r p=>q x v H' g r p⟩
end
end L2
end
section
namespace L2
open PySem PySem.Spec PyProof.Rows
end L2
end
section
namespace L2
open PySem PySem.Spec PyProof.Rows
open PySem.SeqAt
open PySem.AutoSeq1 (wpAny_loadPart')
def aoa (A:Around) (s:Shared) (y x:Value) (b:Bool):Prop :=
 ∀ (prog:Program) (w:World) (E:Value->Shared->Prop) (Q:Value->Shared->Prop),Q (.bool b) s->wpAny (model prog w) A (richCompare .GtE y x) Q E s
inductive Gex (A:Around) (s:Shared):List Value->List Value->Bool->Prop where
 | nn:Gex A s [] [] true
 | eq {v w vs ws b}:EqAt A s v w true->Gex A s vs ws b->Gex A s (v :: vs) (w :: ws) b
 | ge {v w vs ws b}:EqAt A s v w false->aoa A s v w b->vs.length=ws.length->Gex A s (v :: vs) (w :: ws) b
def aob (o:Obj):Option Value:=match o.data with
 | .fields vs=>vs[2]?
 | _=>none
local macro_rules | `(tactic| walk_at "kd")=>`(tactic| with_reducible first
  | assumption
  | exact kd_pure _
  | exact kd_uns _
  | exact kd_load _
  | exact kd_loadPart _ _
  | exact kd_stack
  | exact kd_alloc _
  | exact kd_reg _
  | apply kd_ite
  | apply kd_bind
  | intro _
  | split)
def Dct (a:Addr) (o:Option Addr) (h:Heap):Prop:=∃ u,h.get? a=some u/\aob u=some .none/\∀ dx,o=some dx->u.dict=some dx
def CXf (P:Program) (w:World):CXT:=fun outer H s E e s'=>∃ a C o H',e=.ref a/\XLie P w outer H s a C H' s'/\Dct a o s'.heap/\E C o H'
def alY (a:Addr) (C:Value) (o:Option Addr) (h:Heap):Prop:=∃ t,h.get? a=some { cls:=C,dict:=o,data:=.fields #[.ref t,.none,.none,.none,.bool false,.none] }
end L2
end
section
namespace L2
open PySem PySem.Spec PyProof.Rows PySem.Builtin Builtin Builtin.ObjectAttr
def ajn (K:aol) (C f:Addr) (bmB:List Value) (newId:String):Bool :=
 match K.lookup C with
 | some ⟨c0,_,.cls cd,sl⟩=>c0 == .type "type" && cd.mro.head? == some (.ref C) && cd.hasDel == false && cd.hasDict && PySem.W.tailIn K bmB cd.mro.tail && PySem.W.nsOkIn K cd.ns && ao9 K cd.ns "__init__" == some (some (.ref f))
   && sl.toList.length == 6 && sl.toList[4]? == some (some (.builtin newId))
 | _=>false
structure XCls (h:Heap) (C f:Addr) (bmB:List Value) (newId:String):Prop where
 ex:∃ nm q N bs bm sn sub ab col dd k0 k1 k2 k3 k5 mN,h.get? C=some (excClassObj nm q C N bs bm true sn sub ab col dd k0 k1 k2 k3 k5 newId)/\h.Ns N mN/\mN "__init__"=some (.ref f)/\OwnTail h bmB bm
end L2
end
section
namespace L2
open PySem PySem.Spec PySem.W PyProof.Rows PySem.Calls PySem.Builtin Builtin Builtin.ObjectAttr
abbrev bare (C:Addr) (o:Option Addr) (t:Addr):Obj:={ cls:=.ref C,dict:=o,data:=.fields #[.ref t,.none,.none,.none,.bool false,.none] }
abbrev bmV:List Value:=[.type "ValueError",.type "Exception",.type "BaseException",.type "object"]
structure FldC (K:aol) (C f D:Addr) (name:Str):Prop where
 wi:ajn K C f bmV "ValueError.__new__"=true
 fn:PySem.W.typeIn K (.ref f)=some (.type "function")
 ob:PySem.W.mroIn K C (.type "object")=some true
 sa:ap0 K (.ref C) "__setattr__"=some (some (.builtin "object.__setattr__"))
 na:ap0 K (.ref C) name=some none
 rd:PySem.W.readsIn K D (.type "type")=true
 sp:arl K (.ref D) "__getattribute__"=some (some (.builtin "type.__getattribute__"))
 kp:apm K (.ref C)=true
 fi:PySem.W.findCls K (.ref D) (.type "type") "__init__"=some (.val (.builtin "ValueError.__init__"))
section
variable {X:Cx} {pins:List (Addr×Obj)} {σ:St} {H H':Hp} {s s':Shared} {h':Heap} {a b dx C D f:Addr} {o:HO} {t':Nat} {name:Str}
def amV (C:Addr) (name:Str):Sp:=fun vs H Q _=>∃ a y,vs=[.ref a,y]/\H a=some (.ext (alY a (.ref C) none))/\∀ dx,H dx=none->dx≠a->Q .non (upd (upd H dx (.xd [(name,y)])) a (.ext (alY a (.ref C) (some dx))))
end
end L2
end
section
namespace L2
open PySem PySem.Spec PyProof.Rows
end L2
end
section
namespace L2
open PySem PySem.Spec PySem.W PyProof.Rows PySem.Calls PySem.Builtin Builtin Builtin.ObjectAttr Builtin.Getset_descriptor
abbrev XD:=Option (Str×PyData)
structure FnInF (P:Program) (w:World) (K:aol) (mg:Str->Option Value) (base:Heap) (k:Nat) (x:Str) (ps:List Str) (sp:Sp):Prop where
 ex:∃ (f:Addr) (fd:FuncData),FnOk P w K mg base (CXf P w) k f fd ps sp/\mg x=some (.ref f)/\apm K (.ref f)=true/\Binds K fd ps []
structure FCls (K:aol) (mg:Str->Option Value) (x base:Str) (C:Addr) (name:Str) (st:Stmt) (ps:List Str):Prop where
 ex:∃ (f D:Addr) (fd:FuncData),FldC K C f D name/\mg x=some (.ref C)/\mg base=some (.ref D)/\Fun K "__init__" (x ++ ".__init__") st f fd/\Binds K fd ps []
structure InitOk (P:Program) (w:World) (K:aol) (mg:Str->Option Value) (base:Heap) (k:Nat) (C:Addr) (name:Str):Prop where
 ex:∃ (f D:Addr) (fd:FuncData) (ps:List Str),FldC K C f D name/\FnOk P w K mg base CX0 k f fd ps (amV C name)/\Binds K fd ps []
end L2
end
section
namespace L2
open PySem PySem.Spec PyProof.Rows
structure RoomM (k:Nat) (A:Around):Prop where
 dp:A.depth+3 * k+5<recursionLimit
 un:A.units+16 * k+200<cLine
structure FnOkM (P:Program) (w:World) (K:aol) (mg:Str->Option Value) (base:Heap) (k:Nat) (f:Addr) (fd:FuncData) (ps:List Str) (sp:Addr->Sp):Prop where
 len:∀ a vs H Q E,sp a vs H Q E->vs.length=ps.length
 run:∀ (A:Around) (outer:List Env) (s:Shared) (H:Hp) (args:Args) (us:List Value) (vs:List V) (Q:VK) (a:Addr),A.handled=some (.ref a)->RoomM k A->Env0 P w K mg base A outer s H->BindsTo s fd args (ps.zip us)->Vals vs us->sp a vs H Q E0 ->
  codeAny (model P w) A (.call (.ref f) args) (CR CX0 outer P w H s Q E0) s
structure FnInM (P:Program) (w:World) (K:aol) (mg:Str->Option Value) (base:Heap) (k:Nat) (x:Str) (ps:List Str) (sp:Addr->Sp):Prop where
 ex:∃ (f:Addr) (fd:FuncData),FnOkM P w K mg base k f fd ps sp/\mg x=some (.ref f)/\apm K (.ref f)=true/\Binds K fd ps []
structure TN (K:aol) (f:Fx) (a:Addr) (as:List Addr) (H2:Hp) (ρ:zq) (R:Option (List (List Int))) (σ:St) (H:Hp):Prop where
 env:EnvOk K (f.withs (a :: as)) ρ σ H
 sm:Same (hide H2 (f.withs (a :: as))) (hide H (f.withs (a :: as)))
 kp:∀ b∈f.M,H b=H2 b
 tab:∀ rows,R=some rows->TabAt H a as rows
end L2
end
section
namespace L2
open PySem PySem.Spec PyProof.Rows
structure GoesW (f:Fx) (As:List Addr) (H2 H':Hp):Prop where
 sm:Same (hide H2 (f.withs As)) (hide H' f)
 ok:FOk f H'
 kp:∀ b∈f.M,H' b=H2 b
structure FnAt (P:Program) (w:World) (K:aol) (mg:Str->Option Value) (base:Heap) (CX:CXT) (k:Nat) (a:Addr) (sp:Sp):Prop where
 ex:∃ (fd:FuncData) (ps:List Str),FnOk P w K mg base CX k a fd ps sp/\apm K (.ref a)=true/\Binds K fd ps []
end L2
end
section
namespace L2
open PySem PySem.Spec PyProof.Rows
def ajo (K:aol):R2:=fun x y H Q=>∃ d ds,Rep K H d x/\Rep K H (.tuple ds) y/\d.canLay0=true/\(∀ e∈ds,e.canLay0=true)/\d.depth<=50/\Q (.bl (ds.any fun e=>aoH e d)) H
theorem akW {X:Cx} (hu:X.A.units+64<cLine):OpR X (compareOp .In) (ajo X.K):=by
 intro pins s σ H x y v u Q I rx ry ⟨d,ds,h1,h2,c1,c2,dd,q⟩
 obtain⟨a,xs,rfl,hq,hr⟩:=rep_tuple.mp h2
 cases ry
 obtain⟨bs,rb⟩:=yC I d x v h1 rx
 obtain⟨its,r,pl,_⟩:=I.tuple hq
 have hu':X.A.in1.units+60<cLine:=by show X.A.units+1+60<cLine;omega
 refine SeqAt.in_tupleAt (eqR s.heap d) pl (fun w hw=>v5 I rb c1 dd hu' hr r c2 w (by simpa using hw)) ⟨.bl _,H,I,rfl,?_⟩
 rw [show its.toArray.any (eqR s.heap d)=its.any (eqR s.heap d) by simp,aaN I hr r c2]
 exact q
theorem abB {X:Cx} {K:aol} (hK:X.K=K) (hu:X.A.units+64<cLine):OpR X (compareOp .In) (ajo K):=hK▸akW hu
theorem afs {K:aol} {f:Fx} {ρ:zq} {P:PyData->Prop} {ta tb:TE} (h:PEd K f ta ρ fun d=>PEd K f tb ρ fun y=>∃ ds,y=.tuple ds/\d.canLay0=true/\(∀ e∈ds,e.canLay0=true)/\d.depth<=50/\P (.bool (ds.any fun e=>aoH e d))):PEd K f (tOp (ajo K) ta tb) ρ P:=fun σ H Q e q =>
 h σ H _ e fun d v H1 g1 r1 p1=>p1 σ H1 _ (e.mono g1) fun y w H2 g2 r2 ⟨ds,ey,c1,c2,dd,p2⟩=>by
  subst ey
  exact⟨d,ds,Rep.mono ((g2.sm).trans (zk _ _)) _ _ r1,Rep.mono (zk _ _) _ _ r2,c1,c2,dd,q _ _ H2 (g1.trans g2) (rep_bool.mpr rfl) p2⟩
end L2
end
section
namespace L2
open PySem PySem.Spec PyProof.Rows
structure Src (prog:Program) (w:World) (j:Addr) (xs:Array Value) (dep:List Addr) (St:Nat->Heap->Prop):Prop where
 own:j∈dep
 keep:∀ {k:Nat} {h h':Heap},St k h->(∀ c∈dep,∀ o,h.get? c=some o->h'.get? c=some o)->St k h'
 there:∀ {k:Nat} {h:Heap},St k h->∃ o,h.get? j=some o
 item:∀ {A:Around} {E:Value->Shared->Prop} {s:Shared} {k:Nat} {x:Value} {Q:Value->Shared->Prop},St k s.heap->xs[k]?=some x->(∀ h',St (k+1) h'->apU j s.heap h'->Q x { s with heap:=h' })->wpAny (model prog w) A (ari (.ref j)) Q E s
 stop:∀ {A:Around} {E:Value->Shared->Prop} {s:Shared} {k:Nat} {Q:Value->Shared->Prop},A.handled=none->St k s.heap->xs[k]?=none->(∀ h' e,Heap.ExtBut j s.heap h'->(∃ o,h'.get? e=some o/\o.cls=.type "StopIteration")->E (.ref e) { s with heap:=h' })->wpAny (model prog w) A (ari (.ref j)) Q E s
section
variable {prog:Program} {w:World} {A:Around} {E:Value->Shared->Prop} {s:Shared}
structure Far (z q1 q2 j1 j2:Addr) (e1 e2:List Addr):Prop where
 q1z:q1≠z
 q2z:q2≠z
 q12:q1≠q2
 j12:j1≠j2
 q1j1:q1≠j1
 q1j2:q1≠j2
 z1:z∉e1
 z2:z∉e2
 o1:q2∉e1
 o2:q2∉e2
 d12:j2∉e1
 d21:j1∉e2
end
end L2
end
section
namespace L2
open PySem PySem.Spec PyProof.Rows
end L2
end
section
namespace L2
open PySem PySem.Spec PyProof.Rows
section
variable {K:aol} {f:Fx} {ρ:zq} {R:List DV->Prop} {i j m n:Nat} {d0 d1 d2 d3:PyData}
theorem aew (h0:ρ[i]?=some (some (.dat d0))) (h:R [.dat d0]):PAd K f (yO (yn i) vt) ρ R:=zx (zm h0 (yj h))
theorem ajp (h0:ρ[i]?=some (some (.dat d0))) (h1:ρ[j]?=some (some (.dat d1))) (h:R [.dat d0,.dat d1]):PAd K f (yO (yn i) (yO (yn j) vt)) ρ R:=zx (zm h0 (aew h1 h))
theorem aoc (h0:ρ[i]?=some (some (.dat d0))) (h1:ρ[j]?=some (some (.dat d1))) (h2:ρ[m]?=some (some (.dat d2))) (h:R [.dat d0,.dat d1,.dat d2]):PAd K f (yO (yn i) (yO (yn j) (yO (yn m) vt))) ρ R:=zx (zm h0 (ajp h1 h2 h))
end
theorem qv {α β:Type} {F:α->β} {l:List β} {m:List α} (h:l.Perm (m.map F)):∃ m':List α,m'.Perm m/\l=m'.map F:=by
 generalize e:m.map F=k at h
 induction h generalizing m with
 | nil=>exact⟨m,.refl _,e.symm⟩
 | cons x _ ih =>
  cases m with
  | nil=>cases e
  | cons a m =>
   injection e with e1 e2
   obtain⟨m',p,r⟩:=ih e2
   exact⟨a :: m',p.cons a,by rw [aoI,e1,r]⟩
 | swap x y l =>
  cases m with
  | nil=>cases e
  | cons a m =>
   cases m with
   | nil=>injection e with _ e;cases e
   | cons b m =>
    injection e with e1 e2
    injection e2 with e2 e3
    exact⟨b :: a :: m,.swap a b m,by rw [aoI,aoI,e1,e2,e3]⟩
 | trans _ _ ih1 ih2 =>
  obtain⟨m',p,r⟩:=ih2 e
  obtain⟨m'',p',r'⟩:=ih1 r.symm
  exact⟨m'',p'.trans p,r'⟩
abbrev FD (K:aol) (x:Str) (st:Stmt) (f:Addr) (od an:Option Addr) (sl:Array (Option Value)) (oc kV dc pm cd ct:Value):Prop:=ao9 K mainGlobals x=some (some (.ref f))/\K.lookup f=some ⟨oc,od,.func (apV x x (qj st) (yK st) (zj st) .none kV dc pm an cd ct),sl⟩/\aq5 K cd x=true/\apm K (.ref f)=true
theorem yg {K:aol} {h:Heap} {mg:Str->Option Value} {x:Str} {st:Stmt} {f:Addr} {od an:Option Addr} {sl:Array (Option Value)} {oc kV dc pm cd ct:Value} (X:K.In h) (G:h.Ns mainGlobals mg) (a:FD K x st f od an sl oc kV dc pm cd ct) {ps:List Str}
  (hb:∀ (kV doc pm:Value) (an:Option Addr) (cdv ct:Value) (us:List Value),us.length=ps.length->bindArgs (apV x x (qj st) (yK st) (zj st) .none kV doc pm an cdv ct) ⟨us,[]⟩=pure (ps.zip us)):Def K mg x st ps :=
 ⟨f,_,afc a.2.1 a.2.2.1 a.2.2.2,(afc (st:=st) a.2.1 a.2.2.1 a.2.2.2).binds hb,apL X G a.1⟩
end L2
end
section
namespace L2
open PySem PySem.Spec PyProof.Rows
section
variable {K:aol} {f:Fx} {ρ:zq} {R:zq->Prop} {P:PyData->Prop} {i j m:Nat}
theorem anJ {a b:PyData} (h:R ((ρ.set i (some (.dat a))).set j (some (.dat b)))):PGd K f (akp K 2 (af0 (yW i) (af0 (yW j) amc))) (.tuple [a,b]) ρ R:=yt rfl (zo (zi (zo (zi (zT h)))))
end
end L2
end
section
open PySem PySem.Spec PyProof.Rows
namespace L2
end L2
end
section
namespace L2
open PySem PySem.Spec PyProof.Rows
end L2
end
section
namespace L2
open PySem PySem.Spec PyProof.Rows
end L2
end
section
namespace L2
open PySem PySem.Spec PyProof.Rows
structure TQ (K:aol) (f:Fx) (a:Addr) (as:List Addr) (H2:Hp) (ρ:zq) (rows:List (List PyData)) (σ:St) (H:Hp):Prop where
 env:EnvOk K (f.withs (a :: as)) ρ σ H
 sm:Same (hide H2 (f.withs (a :: as))) (hide H (f.withs (a :: as)))
 kp:∀ b∈f.M,H b=H2 b
 top:H a=some (.lst (as.map .ref))
 nd:(a :: as).Nodup
 len:as.length=rows.length
 row:∀ (i:Nat) x r,as[i]?=some x->rows[i]?=some r->∃ vs,H x=some (.lst vs)/\Reps K (hide H (f.withs (a :: as))) r vs
end L2
end
section
namespace My
open PySem PySem.Spec PyProof.Rows L2
abbrev pf:List Str:=["rows","cut"]
abbrev ph:List Str:=["rows","cut","gate"]
abbrev pj:List Str:=["rows","x","y"]
abbrev pq:List Str:=["rows","cut","cell"]
abbrev pz:List Str:=["rows"]
abbrev pA:List Str:=["rows","cut","point"]
abbrev pB:List Str:=["line","x","y"]
abbrev pC:List Str:=["rows","cut","start"]
abbrev pE:List Str:=["a","b","rows"]
abbrev pF:List Str:=["gate","rows","cut"]
abbrev pG:List Str:=["things"]
abbrev pH:List Str:=["_law_feed_here","_law_many"]
abbrev pI:List Str:=["x","y"]
abbrev pJ:List Str:=["rows","gate"]
abbrev pK:List Str:=["_law_feed_here","_law_far","_law_base"]
abbrev pL:List Str:=["some","at"]
abbrev pM:List Str:=["_law_script","_law_k"]
abbrev pN:List Str:=["_law_feed_here"]
abbrev pO:List Str:=["_law_feed_here","_law_rows"]
abbrev pP:List Str:=["_law_many","_law_pairs","_law_start"]
abbrev pQ:List Str:=["_law_rows","_law_region"]
abbrev pR:List Str:=["_law_rows","_law_some","_law_pairs","_law_at","_law_line","_law_within"]
abbrev pS:List Str:=["_law_script"]
abbrev pV:List Str:=["x","y","way"]
abbrev pW:List Str:=["k","row","way","x","y"]
abbrev pX:List Str:=["a","b","rows","cut","x","y","high"]
abbrev pY:List Str:=["k","other","at","x","y"]
abbrev pZ:List Str:=["_law_x","_law_y","_law_wide","_law_high"]
abbrev qa:List Str:=["rows","cut","gate","across","down"]
abbrev qb:List Str:=["_law_y","_law_feed_here","_law_wide","_law_far","_law_base"]
abbrev qc:List Str:=["_law_x","_law_feed_here","_law_far","_law_base"]
local macro_rules | `(tactic| walk_at "w")=>`(tactic| repeat walk_at "dl")
local macro_rules | `(tactic| walk_at "s")=>`(tactic| exact⟨rfl,rfl,rfl,by decide +kernel,rfl,by decide +kernel,by decide +kernel⟩)
def top (i:Nat):Stmt:=PySem.Challenge.pw_heightrings_k26_whole_rings_by_the_tree.main.body.getD i (.Pass ⟨0,0,0,0⟩)
abbrev adk:=top 1
abbrev amW:List Str:=pz
theorem akX:FnScope amW pz (zj adk):=by walk_at "s"
abbrev aag:=top 2
abbrev ajq:List Str:=["rows","wide","tall"]
theorem sc_points:FnScope ajq pz (zj aag):=by walk_at "s"
abbrev jH:=top 3
abbrev aex:List Str:=["rows","x","y","wide","tall"]
theorem sc_has_point:FnScope aex pj (zj jH):=by walk_at "s"
abbrev jk:=top 4
abbrev adl:List Str:=["rows","x","y","beside"]
theorem sc_neighbours:FnScope adl pj (zj jk):=by walk_at "s"
abbrev qw:=top 5
abbrev aft:List Str:=pj
theorem aey:FnScope aft pj (zj qw):=by walk_at "s"
abbrev vc:=top 6
abbrev ahK:List Str:=pI
theorem afu:FnScope ahK pI (zj vc):=by walk_at "s"
abbrev qx:=top 7
abbrev afv:List Str:=["rows","x","y","around"]
theorem sc_cells_at:FnScope afv pj (zj qx):=by walk_at "s"
abbrev jI:=top 16
abbrev aez:List Str:=["rows","at","row"]
theorem sc_ask_table:FnScope aez pz (zj jI):=by walk_at "s"
abbrev adm:=top 17
abbrev amX:List Str:=pG
theorem akY:FnScope amX pG (zj adm):=by walk_at "s"
abbrev aah:=top 18
abbrev ajr:List Str:=["row"]
theorem ahL:FnScope ajr ["row"] (zj aah):=by walk_at "s"
abbrev aaT:=top 22
abbrev akZ:List Str:=["rows","cut","sides"]
theorem sc_gates:FnScope akZ pf (zj aaT):=by walk_at "s"
abbrev y7:=top 23
abbrev abY:List Str:=["rows","cut","point","x","y"]
theorem sc_stands_high:FnScope abY pA (zj y7):=by walk_at "s"
abbrev y8:=top 24
abbrev abZ:List Str:=["gate","x","y","way"]
theorem sc_gate_points:FnScope abZ ["gate"] (zj y8):=by walk_at "s"
abbrev qy:=top 25
abbrev afw:List Str:=pJ
theorem aeA:FnScope afw pJ (zj qy):=by walk_at "s"
abbrev vd:=top 26
abbrev ahM:List Str:=["rows","cut","gate","first","second"]
theorem sc_is_open:FnScope ahM ph (zj vd):=by walk_at "s"
abbrev jl:=top 27
abbrev adn:List Str:=["cell","x","y"]
theorem sc_cell_gates:FnScope adn ["cell"] (zj jl):=by walk_at "s"
abbrev jm:=top 28
abbrev ado:List Str:=pq
theorem ab0:FnScope ado pq (zj jm):=by walk_at "s"
abbrev yz:=top 29
abbrev aai:List Str:=["rows","cut","cell","x","y"]
theorem sc_has_high_middle:FnScope aai pq (zj yz):=by walk_at "s"
abbrev jJ:=top 30
abbrev aeB:List Str:=["rows","cut","cell","through"]
theorem sc_cell_ties:FnScope aeB pq (zj jJ):=by walk_at "s"
abbrev yU:=top 31
abbrev abC:List Str:=["rows","cut","cell","above","left","below","right"]
theorem sc_crossed_ties:FnScope abC pq (zj yU):=by walk_at "s"
abbrev ve:=top 32
abbrev ahN:List Str:=["rows","cut","gate","x","y","way","near_is_high"]
theorem sc_heading:FnScope ahN ph (zj ve):=by walk_at "s"
abbrev jn:=top 33
abbrev adp:List Str:=qa
theorem sc_cell_ahead:FnScope adp ph (zj jn):=by walk_at "s"
abbrev qz:=top 34
abbrev afx:List Str:=qa
theorem sc_comes_in:FnScope afx ph (zj qz):=by walk_at "s"
abbrev jo:=top 35
abbrev adq:List Str:=["rows","cut","gate","x","y","partners","one","other"]
theorem sc_gate_ahead:FnScope adq ph (zj jo):=by walk_at "s"
abbrev aaU:=top 37
abbrev ak0:List Str:=["rows","cut","through","starts","told","passed","start","line","gate"]
theorem sc_lines:FnScope ak0 pf (zj aaU):=by walk_at "s"
abbrev jK:=top 38
abbrev aeC:List Str:=["rows","cut","start","path","gate"]
theorem sc_line_from:FnScope aeC pC (zj jK):=by walk_at "s"
abbrev vf:=top 40
abbrev ahO:List Str:=["line","x","y","word","path"]
theorem sc_crossed:FnScope ahO pB (zj vf):=by walk_at "s"
abbrev aaV:=top 41
abbrev ak1:List Str:=pB
theorem ajs:FnScope ak1 pB (zj aaV):=by walk_at "s"
abbrev vg:=top 42
abbrev ahP:List Str:=["rows","cut","told"]
theorem sc_lies_in:FnScope ahP pf (zj vg):=by walk_at "s"
abbrev y9:=top 43
abbrev ab1:List Str:=["some","at","x","y","way"]
theorem sc_rings_round:FnScope ab1 pL (zj y9):=by walk_at "s"
abbrev vh:=top 45
abbrev ahQ:List Str:=["rows","cut","told","placed","point","within","other"]
theorem sc_regions:FnScope ahQ pf (zj vh):=by walk_at "s"
abbrev aaW:=top 46
abbrev ak2:List Str:=["rows","cut","places","told","word","path","first","second"]
theorem sc_sides:FnScope ak2 pf (zj aaW):=by walk_at "s"
abbrev vi:=top 47
abbrev ahR:List Str:=["rows","cut","places","at","word","within","point"]
theorem sc_indexes:FnScope ahR pf (zj vi):=by walk_at "s"
abbrev jq:=top 48
abbrev ads:List Str:=["rows","cut","start","found","waiting","point","other"]
theorem sc_all_joined:FnScope ads pC (zj jq):=by walk_at "s"
abbrev aaj:=top 49
abbrev ajt:List Str:=["rows","cut","point","x","y","high","beside","aslant"]
theorem sc_joined:FnScope ajt pA (zj aaj):=by walk_at "s"
abbrev qA:=top 51
abbrev vT:List Str:=["_law_script","_law_k","_law_cell"]
theorem sc_law_feed:FnScope vT pM (zj qA):=by walk_at "s"
abbrev qB:=top 52
abbrev afy:List Str:=["_law_feed_here","_law_many","_law_found"]
theorem sc_law_draw:FnScope afy pH (zj qB):=by walk_at "s"
abbrev jr:=top 53
abbrev adt:List Str:=pK
theorem ab2:FnScope adt pK (zj jr):=by walk_at "s"
abbrev jL:=top 54
abbrev aeD:List Str:=["_law_feed_here","_law_wide","_law_high","_law_far","_law_base"]
theorem sc_law_table:FnScope aeD pN (zj jL):=by walk_at "s"
abbrev vj:=top 55
abbrev ahS:List Str:=["_law_feed_here","_law_rows","_law_row"]
theorem sc_law_cut:FnScope ahS pO (zj vj):=by walk_at "s"
abbrev ja:=top 56
abbrev ab3:List Str:=["_law_many","_law_pairs","_law_start","_law_seen","_law_turn","_law_one","_law_other"]
theorem sc_law_reached:FnScope ab3 pP (zj ja):=by walk_at "s"
abbrev jb:=top 57
abbrev ab4:List Str:=["_law_rows","_law_region","_law_wide","_law_high"]
theorem sc_law_at_edge:FnScope ab4 pQ (zj jb):=by walk_at "s"
abbrev jM:=top 58
abbrev aeE:List Str:=["_law_rows","_law_some","_law_pairs","_law_at","_law_line","_law_within","_law_rest","_law_inner","_law_k","_law_x","_law_y","_law_j"]
theorem sc_law_right:FnScope aeE pR (zj jM):=by walk_at "s"
abbrev aaH:=top 59
abbrev agM:List Str:=["_law_script","_law_k","_law_feed_here","_law_rows","_law_cut_here","_law_some","_law_there","_law_pairs","_law_within","_law_at"]
theorem sc_law:FnScope agM pS (zj aaH):=by walk_at "s"
def tab (rows:List (List Int)):PyData:=.list (rows.map fun r=>.list (r.map .int))
structure Good (w:Nat) (rows:List (List Int)):Prop where
 h1:2<=rows.length
 h2:rows.length<=7
 w1:2<=w
 w2:w<=7
 row:∀ r∈rows,r.length=w
 hgt:∀ r∈rows,∀ n∈r,-1000000000<=n/\n<=1000000000
theorem Good.ne {w:Nat} {rows:List (List Int)} (g:Good w rows):∃ r rs,rows=r :: rs:=by
 cases rows with
 | nil=>have:=g.h1;simp at this
 | cons r rs=>exact⟨r,rs,rfl⟩
theorem yL {α β:Type} {F:α->β} {xs:List α} {k:Int} {j:Nat} (hk:(j:Int)=k) (h:j<xs.length):atI (xs.map F) k=some (F xs[j]):=by
 subst hk
 exact qi (by rw [aoq,aof h];rfl)
local macro_rules | `(tactic| walk_at "dl")=>`(tactic| first
 | (with_reducible show PSd _ _ (jR _ (adS (yn _) (tC (V.int 0)) abe)) _ _;refine age rfl ?_)
 | (with_reducible show PSd _ _ (jR _ (adS (yn _) (tC (V.int 1)) abe)) _ _;refine agf rfl ?_)
 | with_reducible refine z6 ?_ | with_reducible refine abW ?_ | with_reducible refine yT ?_ | with_reducible refine zP ?_ | with_reducible refine vO ?_ | with_reducible refine vC ?_
 | with_reducible refine zi ?_ | with_reducible refine yt rfl ?_ | with_reducible refine zo ?_ | with_reducible refine zT ?_
 | with_reducible refine yq ?_ | with_reducible refine t_b ?_ | with_reducible refine aci ?_ | with_reducible refine amv ?_ | with_reducible refine ad4 ?_ | with_reducible refine yH ?_
 | with_reducible refine agd ?_ | with_reducible refine aiC ?_ | with_reducible refine ad3 ?_ | with_reducible refine afe ?_ | with_reducible refine jC ?_
 | with_reducible refine aiE ?_ | with_reducible refine abh ?_ | with_reducible refine d_orV ?_ | with_reducible refine aiF ?_
 | with_reducible refine yR ?_ | with_reducible refine ahm ?_ | with_reducible refine aiB ?_ | with_reducible refine alO ?_
 | (with_reducible show PEd _ _ (yn _) _ _;refine zm rfl ?_)
 | (with_reducible show PEd _ _ (tOp (ahg _) (yn _) _) _ _;refine alP rfl ?_)
 | with_reducible refine jD ?_ | with_reducible refine vA ?_
 | (with_reducible show PAd _ _ (yO (yn _) _) _ _;refine aiD rfl ?_)
 | with_reducible refine zx ?_ | with_reducible refine yj ?_
 | with_reducible refine vB ?_ | with_reducible refine agc ?_ | with_reducible refine qN ?_ | with_reducible refine aiG ?_ | with_reducible refine aiH ?_ | with_reducible refine aiI ?_ | with_reducible refine aiJ ?_
 | (with_reducible show (∃ _,_) \/ (∃ _,_);refine Or.inl ⟨_,rfl,?_⟩) | refine⟨_,rfl,?_⟩ | refine⟨_,_,rfl,?_⟩
 | (with_reducible show (_=_/\∀ _,_) \/ _;first | refine Or.inl ⟨rfl,fun a ha=>?_⟩ | refine Or.inr ⟨rfl,fun b hb hb'=>?_⟩)
 | refine⟨rfl,?_⟩
 | (refine And.intro ?side ?_;(case side=>first | omega | exact Int.ediv_nonneg (by omega) (by omega) | exact aqY _ (by omega) | exact apO _ (by omega) | decide | exact⟨by decide,by decide,by decide⟩ | exact⟨by omega,by omega⟩ | exact Or.inl ⟨by omega,by omega⟩ | exact Or.inr ⟨by omega,by omega⟩ | (refine aoN (ap5 (by rfl)) (show _<=1000 by decide)) | ((repeat' apply And.intro) <;> first | rfl | omega | decide | assumption) | (simp [ar7]))))
section
variable {P:Program} {w:World} {K:aol} {mg:Str->Option Value} {base:Heap} {k:Nat}
theorem ak3 (F:Def K mg "size" adk pz) (uaa:mg "len"=none):FnIn P w K mg base (k+1) "size" pz (spD K 1 (fun (c:List (List Int)×Nat) xs=>xs=[.dat (tab c.1)]/\Good c.2 c.1) fun c r=>r=.tuple [.int c.2,.int c.1.length]):=by
 refine F.ok akX rfl fun fa cdv A outer s H E hr=>⟨_,(zg (zt (zC (za (zA (zM (K:=K) rfl) rfl uaa aoW (za (zI (zz (K:=K) rfl) (pv 0) ze (fun _ _=>rfl)) zb)) (za (zA (zM (K:=K) rfl) rfl uaa aoW (za (pv 0) zb)) zb))))),?_⟩
 rintro f xs ⟨rows,wd⟩ hl ⟨rfl,g⟩
 try dsimp only [z5,zl]
 obtain⟨r,rs,rfl⟩:=g.ne
 walk_at "w"
 refine⟨_,yL (j:=0) rfl (by simp),?_⟩
 walk_at "w"
 have hw:=g.row r aom
 show PyData.tuple [.int _,.int _]=_
 rw [aog,aog]
 show PyData.tuple [.int (r.length:Nat),_]=_
 rw [hw]
theorem ak4 (F:Def K mg "fits" adm pG) (uaa:mg "len"=none) (uan:∃ t,mg "FEWEST"=some (.int 2 t)) (uao:∃ t,mg "MOST"=some (.int 7 t)) :
  FnIn P w K mg base (k+1) "fits" pG (spD K 1 (fun (c:List PyData) xs=>xs=[.dat (.list c)]) fun c r=>r=.bool (decide (2<=c.length/\c.length<=7))):=by
 obtain⟨_,uan⟩:=uan
 obtain⟨_,uao⟩:=uao
 refine F.ok akY rfl fun fa cdv A outer s H E hr=>⟨_,(zg (zt (aba ab8 ab8 (v3 rfl uan) (zA (zM (K:=K) rfl) rfl uaa aoW (za (pv 0) zb)) (v3 rfl uao)))),?_⟩
 rintro f xs ds hl rfl
 try dsimp only [z5,zl]
 walk_at "w"
 by_cases h:2<=ds.length
 ·rw [if_pos (by simp;omega)]
  walk_at "w"
  show PyData.bool _=_
  congr 1
  by_cases h7:ds.length<=7 <;> simp [h,h7] <;> omega
 ·rw [if_neg (by simp;omega)]
  show PyData.bool _=_
  congr 1
  simp [h]
theorem ahT (F:Def K mg "is_row" aah ["row"]) (uae:mg "min"=none) (uai:mg "max"=none) (uap:∃ t,mg "LEAST"=some (.int (-1000000000) t)) (uaq:∃ t,mg "GREATEST"=some (.int 1000000000 t))
  (uaA:FnIn P w K mg base k "fits" pG (spD K 1 (fun (c:List PyData) xs=>xs=[.dat (.list c)]) fun c r=>r=.bool (decide (2<=c.length/\c.length<=7)))) :
  FnIn P w K mg base (k+1) "is_row" ["row"] (spD K 1 (fun (c:List Int) xs=>xs=[.dat (.list (c.map .int))]) fun c r=>r=.bool (decide (2<=c.length/\c.length<=7/\∀ n∈c,-1000000000<=n/\n<=1000000000))):=by
 obtain⟨_,uap⟩:=uap
 obtain⟨_,uaq⟩:=uaq
 refine F.ok ahL rfl fun fa cdv A outer s H E hr=>⟨_,(zg (zt (vK (zd uaA hr rfl (za (pv 0) zb)) (vK (yD ab8 (v3 rfl uap) (zA (ahr (K:=K) rfl rfl) rfl uae boot_min (za (pv 0) zb)) (zQ _)) (aa7 (yD ab8 (zA (ahs (K:=K) rfl rfl) rfl uai boot_max (za (pv 0) zb)) (v3 rfl uaq) (zQ _))))))),?_⟩
 rintro f xs c hl rfl
 try dsimp only [z5,zl]
 walk_at "w"
 refine zp (c.map .int) ?_
 walk_at "w"
 rintro r rfl
 rw [aog]
 walk_at "w"
 by_cases h:2<=c.length/\c.length<=7
 ·have hne:c≠[]:=by rintro rfl;simp at h
  rw [if_pos (by simpa using h)]
  walk_at "w"
  intro M hM hM'
  walk_at "w"
  by_cases h2:-1000000000<=M
  ·rw [if_pos (by simpa using h2)]
   walk_at "w"
   intro M' hN hN'
   walk_at "w"
   show PyData.bool _=_
   congr 1
   rw [decide_eq_decide]
   refine⟨fun q=>⟨h.1,h.2,fun n hn=>⟨Int.le_trans h2 (hM' n hn),Int.le_trans (hN' n hn) q⟩⟩,fun q=>(q.2.2 M' hN).2⟩
  ·rw [if_neg (by simpa using h2)]
   show PyData.bool _=_
   congr 1
   symm
   rw [decide_eq_false_iff_not]
   exact fun q=>h2 (q.2.2 M hM).1
 ·rw [if_neg (by simpa using h)]
  show PyData.bool _=_
  congr 1
  symm
  rw [decide_eq_false_iff_not]
  exact fun q=>h ⟨q.1,q.2.1⟩
abbrev acA (K:aol):Sp:=spD K 1 (fun (c:List (List Int)×Nat) xs=>xs=[.dat (tab c.1)]/\Good c.2 c.1) fun _ r=>r=.bool true
theorem amY (F:Def K mg "ask_table" jI pz) (uaa:mg "len"=none) (uaf:mg "enumerate"=none)
  (uaA:FnIn P w K mg base k "fits" pG (spD K 1 (fun (c:List PyData) xs=>xs=[.dat (.list c)]) fun c r=>r=.bool (decide (2<=c.length/\c.length<=7))))
  (ua6:FnIn P w K mg base k "is_row" ["row"] (spD K 1 (fun (c:List Int) xs=>xs=[.dat (.list (c.map .int))]) fun c r=>r=.bool (decide (2<=c.length/\c.length<=7/\∀ n∈c,-1000000000<=n/\n<=1000000000)))) :
  FnIn P w K mg base (k+1) "ask_table" pz (acA K):=by
 refine F.ok sc_ask_table rfl fun fa cdv A outer s H E hr=>⟨_,(zc (yA (aa6 (z4 (K:=K) rfl (zd uaA hr rfl (za (pv 0) zb)) (fun _=>rfl))) (zg adR) zV) (zc (yB aoT rfl (abj (K:=K) rfl rfl uaf (za (pv 0) zb)) (zL (K:=K) (n:=2) rfl rfl (zh (zf (i:=1) sc_ask_table.nd rfl (Or.inl rfl) (Or.inr rfl)) (zh (zf (i:=2) sc_ask_table.nd rfl (Or.inl rfl) (Or.inr rfl)) zH))) (zg (yA (PW.pt (alJ (zJ (qo (K:=K) rfl hr.units) (zA (zM (K:=K) rfl) rfl uaa aoW (za (pv 2) zb)) (zA (zM (K:=K) rfl) rfl uaa aoW (za (zI (zz (K:=K) rfl) (pv 0) ze (fun _ _=>rfl)) zb)) (zQ _)) (aih (aa6 (z4 (K:=K) rfl (zd ua6 hr rfl (za (pv 2) zb)) (fun _=>rfl)))))) (zg adR) zV))) (zg (zt qJ)))),?_⟩
 rintro f xs ⟨rows,wd⟩ hl ⟨rfl,g⟩
 try dsimp only [z5,zl]
 have g1:=g.h1
 have g2:=g.h2
 walk_at "w"
 refine zp (rows.map fun r=>.list (r.map .int)) ?_
 walk_at "w"
 rintro r rfl
 dsimp only at g1 g2
 refine⟨_,rfl,?_⟩
 rw [aog,decide_eq_true ⟨g1,g2⟩,apn,if_neg aoi]
 walk_at "w"
 refine aff ?_
 walk_at "w"
 refine⟨fun i ρ=>∃ a b,ρ=[some (.dat (tab rows)),a,b],⟨_,_,rfl⟩,?_,?_⟩
 ·rintro i d ρ hd ⟨a,b,rfl⟩
  rw [aoq] at hd
  cases hr:rows[i]? with
  | none=>rw [hr] at hd;cases hd
  | some r =>
   rw [hr] at hd
   cases hd
   have hm:=aoj hr
   have hw:=g.row r hm
   obtain⟨r0,rs,hrs⟩:=g.ne
   dsimp only at hrs
   subst hrs
   have hw0:=g.row r0 aom
   walk_at "w"
   refine⟨_,yL (j:=0) rfl (by simp),?_⟩
   walk_at "w"
   dsimp only at hw hw0
   rw [if_pos rfl,aog,aog]
   show (if (!(((r.length:Nat):Int) == ((r0.length:Nat):Int)))=true then _ else _)
   rw [hw,hw0,beq_self_eq_true,apn,if_neg aoi]
   walk_at "w"
   refine zp r ?_
   walk_at "w"
   rintro _ rfl
   refine⟨_,rfl,?_⟩
   have w1:=g.w1
   have w2:=g.w2
   dsimp only at w1 w2
   rw [decide_eq_true ⟨by omega,by omega,g.hgt r hm⟩,apn,if_neg aoi]
   walk_at "w"
   exact⟨_,_,rfl⟩
 ·rintro ρ ⟨a,b,rfl⟩
  walk_at "w"
  rfl
theorem ak5 (F:Def K mg "_law_draw" qB pH):FnIn P w K mg base (k+1) "_law_draw" pH (spD K 2 (fun (c:Int) xs=>xs=[.feed,.dat (.int c)]/\0<c/\c<1152921504606846976) fun c r=>∃ i:Int,r=.int i/\0<=i/\i<c):=by
 refine F.ok sc_law_draw rfl fun fa cdv A outer s H E hr=>⟨_,(zc (yA (zJ alL (zI (zz (K:=K) rfl) (pv 0) ze (fun _ _=>rfl)) (zw aa9 ze ze) (zQ _)) (zc (zB (i:=2) sc_law_draw.nd rfl (Or.inl rfl) (zw vM (zI (zz (K:=K) rfl) (pv 0) ze (fun _ _=>rfl)) (pv 1))) (zc (ya (zw ad9 (zI (zz (K:=K) rfl) (pv 0) ze (fun _ _=>rfl)) (pv 1)) (aan (pv 0) ze set_list)) (zg (zt (pv 2))))) zV) (zc (ya (zw vM (zw zY (zw zY (zw vL (zI (zz (K:=K) rfl) (pv 0) ze (fun _ _=>rfl)) ze) (zw vM (zI (zz (K:=K) rfl) (pv 0) ze (fun _ _=>rfl)) ze)) ze) ze) (aan (pv 0) ze set_list)) (zg (zt (zw vM (zw ad9 (zw vM (zw vL (zI (zz (K:=K) rfl) (pv 0) ze (fun _ _=>rfl)) ze) ze) ze) (pv 1)))))),?_⟩
 rintro f xs c hl ⟨rfl,c0,c1⟩
 try dsimp only [z5,zl]
 walk_at "w"
 split
 ·walk_at "w"
  exact apO _ c0
 ·walk_at "w"
  exact apO _ c0
abbrev afz (K:aol):Sp:=spD K 2 (fun (c:Int) xs=>xs=[.feed,.dat (.int c)]/\0<c/\c<1152921504606846976) fun c r=>∃ i:Int,r=.int i/\0<=i/\i<c
abbrev aeF (K:aol):Sp:=spD K 3 (fun (c:Int×Int) xs=>xs=[.feed,.dat (.int c.1),.dat (.int c.2)]/\0<=c.1/\c.1<=10/\-1000000000<=c.2/\c.2<=999999991) fun c r=>∃ i:Int,r=.int i/\-1000000000<=i/\i<=1000000000
theorem ahU (F:Def K mg "_law_height" jr pK) (uae:mg "min"=none) (uad:FnIn P w K mg base k "_law_draw" pH (afz K)) :
  FnIn P w K mg base (k+1) "_law_height" pK (aeF K):=by
 refine F.ok ab2 rfl fun fa cdv A outer s H E hr=>⟨_,(zc (yA (zJ aip (pv 1) ze (zQ _)) (zg (zt (zw zY (pv 2) (zd uad hr rfl (za (pv 0) (za (pv 1) zb)))))) zV) (zg (zt (zA (aca rfl) rfl uae boot_min (za (zw aa9 ze ze) (za (zw yM (zw zY (zw vL (zd uad hr rfl (za (pv 0) (za ze zb))) ze) (zd uad hr rfl (za (pv 0) (za ze zb)))) (zw aa9 ze ze)) zb)))))),?_⟩
 rintro f xs ⟨far,bs⟩ hl ⟨rfl,c0,c1,c2,c3⟩
 dsimp only at c0 c1 c2 c3
 try dsimp only [z5,zl]
 walk_at "w"
 by_cases h:0<far
 ·rw [if_pos (by simpa using h)]
  walk_at "w"
  refine zp far ?_
  walk_at "w"
  rintro r ⟨i,rfl,h1,h2⟩
  walk_at "w"
  show bs+i<=1000000000
  omega
 ·rw [if_neg (by simpa using h)]
  walk_at "w"
  refine zp 20001 ?_
  walk_at "w"
  rintro r ⟨i,rfl,h1,h2⟩
  walk_at "w"
  refine zp 100000 ?_
  walk_at "w"
  rintro r ⟨j,rfl,h3,h4⟩
  walk_at "w"
  have e9:(10:Int) ^ Int.toNat 9=1000000000:=by decide
  rw [e9]
  omega
abbrev agN (K:aol):Sp:=spD K 1 (fun (_:Unit) xs=>xs=[.feed]) fun _ r=>∃ wd rows,r=tab rows/\Good wd rows
theorem menu {ds:List PyData} {i n:Int} (h0:0<=i) (h1:i<n) (hn:n=(ds.length:Int)):∃ d,atI ds i=some d/\d∈ds:=by
 have hi:i.toNat<ds.length:=by omega
 have e:i=((i.toNat:Nat):Int):=by omega
 have q:=qi (aof hi)
 rw [<-e] at q
 exact⟨_,q,aoQ hi⟩
theorem agO:∀ {es:List PyData} {p:Int->Prop},(∀ (i:Nat) e,es[i]?=some e->∃ n:Int,e=.int n/\p n)->∃ ns:List Int,es=ns.map .int/\∀ n∈ns,p n
 | [],p,_=>⟨[],rfl,fun n h=>by cases h⟩
 | e :: es,p,h=>by
  obtain⟨n,rfl,hn⟩:=h 0 e rfl
  obtain⟨ns,rfl,hs⟩:=agO (es:=es) (p:=p) fun i e' he=>h (i+1) e' (by simpa using he)
  exact⟨n :: ns,rfl,fun m hm=>by
   rcases aor.mp hm with rfl | hm
   ·exact hn
   ·exact hs m hm⟩
theorem agP:∀ {es:List PyData} {p:List Int->Prop},(∀ (i:Nat) e,es[i]?=some e->∃ r:List Int,e=.list (r.map .int)/\p r)->∃ rows:List (List Int),es=rows.map (fun r=>.list (r.map .int))/\∀ r∈rows,p r
 | [],p,_=>⟨[],rfl,fun n h=>by cases h⟩
 | e :: es,p,h=>by
  obtain⟨n,rfl,hn⟩:=h 0 e rfl
  obtain⟨ns,rfl,hs⟩:=agP (es:=es) (p:=p) fun i e' he=>h (i+1) e' (by simpa using he)
  exact⟨n :: ns,rfl,fun m hm=>by
   rcases aor.mp hm with rfl | hm
   ·exact hn
   ·exact hs m hm⟩
theorem aju (F:Def K mg "_law_table" jL pN) (uab:mg "range"=none) (uad:FnIn P w K mg base k "_law_draw" pH (afz K)) (ua7:FnIn P w K mg base k "_law_height" pK (aeF K)) :
  FnIn P w K mg base (k+1) "_law_table" pN (agN K):=by
 refine F.ok sc_law_table rfl fun fa cdv A outer s H E hr=>⟨_,(zc (zB (i:=1) sc_law_table.nd rfl (Or.inr rfl) (zw zY ze (zd uad hr rfl (za (pv 0) (za ze zb))))) (zc (zB (i:=2) sc_law_table.nd rfl (Or.inl rfl) (zw zY ze (zd uad hr rfl (za (pv 0) (za ze zb))))) (zc (zB (i:=3) sc_law_table.nd rfl (Or.inr rfl) (zI (zz (K:=K) rfl) (yh (za ze (za ze (za ze (za ze (za ze (za ze (za ze zb)))))))) (zd uad hr rfl (za (pv 0) (za ze zb))) (fun _ _=>rfl))) (zc (zB (i:=4) sc_law_table.nd rfl (Or.inr rfl) (zI (zz (K:=K) rfl) (yh (za ze (za (zw yM ze ze) (za (zw yM (zw aa9 ze ze) ze) (za (zw yM ze (zw aa9 ze ze)) zb))))) (zd uad hr rfl (za (pv 0) (za ze zb))) (fun _ _=>rfl))) (zg (zt (ye (N:=qb) (own:=1) (fr:=[0,1,3,4]) ⟨rfl,by decide +kernel,of_decide_eq_true (by kernel_rfl),of_decide_eq_true (by kernel_rfl),of_decide_eq_true (by kernel_rfl),rfl⟩ rfl (yv rfl uab (za (pv 2) zb)) (fun _ _ _ _=>(zf (i:=0) (show (qb:List Str).Nodup by decide +kernel) rfl (Or.inl rfl) (Or.inr rfl))) (fun _ _ _ _=>y4) (fun _ _ _ _=>(ye (N:=qc) (own:=1) (fr:=[1,3,4]) ⟨rfl,by decide +kernel,of_decide_eq_true (by kernel_rfl),of_decide_eq_true (by kernel_rfl),of_decide_eq_true (by kernel_rfl),rfl⟩ rfl (yv rfl uab (za (pv 2) zb)) (fun _ _ _ _=>(zf (i:=0) (show (qc:List Str).Nodup by decide +kernel) rfl (Or.inl rfl) (Or.inr rfl))) (fun _ _ _ _=>y4) (fun _ _ _ _=>(zd ua7 hr rfl (za (pv 1) (za (pv 2) (za (pv 3) zb))))) rfl rfl (fun _=>rfl))) rfl rfl (fun _=>rfl)))))))),?_⟩
 rintro f xs ⟨⟩ hl rfl
 try dsimp only [z5,zl]
 walk_at "w"
 refine zp 6 ?_
 walk_at "w"
 rintro r ⟨i1,rfl,h1,h2⟩
 walk_at "w"
 refine zp 6 ?_
 walk_at "w"
 rintro r ⟨i2,rfl,h3,h4⟩
 walk_at "w"
 refine zp 7 ?_
 walk_at "w"
 rintro r ⟨i3,rfl,h5,h6⟩
 refine⟨_,rfl,?_⟩
 obtain⟨d3,e3,m3⟩:=menu (ds:=[.int 2,.int 3,.int 5,.int 10,.int 2,.int 3,.int 0]) h5 h6 (by simp)
 obtain⟨far,rfl,f0,f1⟩:∃ n:Int,d3=.int n/\0<=n/\n<=10:=by
  simp only [aor,aph,or_false] at m3
  rcases m3 with rfl | rfl | rfl | rfl | rfl | rfl | rfl <;> exact⟨_,rfl,by decide,by decide⟩
 refine⟨_,e3,?_⟩
 walk_at "w"
 refine zp 4 ?_
 walk_at "w"
 rintro r ⟨i4,rfl,h7,h8⟩
 refine⟨_,rfl,?_⟩
 obtain⟨d4,e4,m4⟩:=menu (ds:=[.int 0,.int (0 - 3),.int (10 ^ Int.toNat 9 - 9),.int (0 - 10 ^ Int.toNat 9)]) h7 h8 (by simp)
 obtain⟨bs,rfl,b0,b1⟩:∃ n:Int,d4=.int n/\-1000000000<=n/\n<=999999991:=by
  simp only [aor,aph,or_false] at m4
  rcases m4 with rfl | rfl | rfl | rfl <;> exact⟨_,rfl,by decide,by decide⟩
 refine⟨_,e4,?_⟩
 walk_at "w"
 refine ad6 ?_
 walk_at "w"
 refine⟨fun _ e=>∃ r:List Int,e=.list (r.map .int)/\r.length=(2+i1).toNat/\∀ n∈r,-1000000000<=n/\n<=1000000000,fun D i hi=>?_,fun es hes hR=>?_⟩
 ·refine ad6 ?_
  walk_at "w"
  refine⟨fun _ e=>∃ n:Int,e=.int n/\-1000000000<=n/\n<=1000000000,fun D' i' hi'=>?_,fun es hes hR=>?_⟩
  ·refine zp (far,bs) ?_
   walk_at "w"
   rintro r ⟨n,rfl,n0,n1⟩
   exact⟨n,rfl,n0,n1⟩
  ·obtain⟨ns,rfl,hs⟩:=agO (p:=fun n=>-1000000000<=n/\n<=1000000000) hR
   exact⟨ns,rfl,by rw [aog] at hes;exact hes,hs⟩
 ·obtain⟨rows,rfl,hs⟩:=agP (p:=fun r=>r.length=(2+i1).toNat/\∀ n∈r,-1000000000<=n/\n<=1000000000) hR
  rw [aog] at hes
  exact⟨(2+i1).toNat,rows,rfl,by omega,by omega,by omega,by omega,fun r hr=>(hs r hr).1,fun r hr=>(hs r hr).2⟩
abbrev alZ (K:aol):Sp:=spD K 2 (fun (c:List (List Int)×Nat) xs=>xs=[.feed,.dat (tab c.1)]/\Good c.2 c.1) fun _ r=>∃ n:Int,r=.int n/\-1000000001<=n/\n<=1000000000
local macro_rules | `(tactic| walk_at "dl")=>`(tactic| first
 | (with_reducible show PSd _ _ (jR _ (adS (yn _) (tC (V.int 0)) abe)) _ _;refine age rfl ?_)
 | (with_reducible show PSd _ _ (jR _ (adS (yn _) (tC (V.int 1)) abe)) _ _;refine agf rfl ?_)
 | with_reducible refine z6 ?_ | with_reducible refine abW ?_ | with_reducible refine yT ?_ | with_reducible refine zP ?_ | with_reducible refine vO ?_ | with_reducible refine vC ?_
 | with_reducible refine zi ?_ | with_reducible refine yt rfl ?_ | with_reducible refine zo ?_ | with_reducible refine zT ?_
 | with_reducible refine yq ?_ | with_reducible refine t_b ?_ | with_reducible refine aci ?_ | with_reducible refine amv ?_ | with_reducible refine ad4 ?_ | with_reducible refine yH ?_
 | with_reducible refine agd ?_ | with_reducible refine aiC ?_ | with_reducible refine ad3 ?_ | with_reducible refine afe ?_ | with_reducible refine jC ?_
 | with_reducible refine aiE ?_ | with_reducible refine abh ?_ | with_reducible refine d_orV ?_ | with_reducible refine aiF ?_
 | with_reducible refine yR ?_ | with_reducible refine ahm ?_ | with_reducible refine aiB ?_ | with_reducible refine alO ?_
 | (with_reducible show PEd _ _ (yn _) _ _;refine zm rfl ?_)
 | (with_reducible show PEd _ _ (tOp (ahg _) (yn _) _) _ _;refine alP rfl ?_)
 | with_reducible refine jD ?_ | with_reducible refine vA ?_
 | (with_reducible show PAd _ _ (yO (yn _) _) _ _;refine aiD rfl ?_)
 | with_reducible refine zx ?_ | with_reducible refine yj ?_
 | with_reducible refine d_catT ?_ | with_reducible refine aiT ?_ | with_reducible refine aiR ?_ | with_reducible refine aiS ?_ | with_reducible refine d_int1 ?_ | with_reducible refine agg ?_ | with_reducible refine vF ?_
 | with_reducible refine vB ?_ | with_reducible refine agc ?_ | with_reducible refine qN ?_ | with_reducible refine aiG ?_ | with_reducible refine aiH ?_ | with_reducible refine aiI ?_ | with_reducible refine aiJ ?_
 | (with_reducible show (∃ _,_) \/ (∃ _,_);first | refine Or.inl ⟨_,rfl,?_⟩ | refine Or.inr ⟨_,rfl,?_⟩) | refine⟨_,rfl,?_⟩ | refine⟨_,_,rfl,?_⟩
 | (with_reducible show (_=_/\∀ _,_) \/ _;first | refine Or.inl ⟨rfl,fun a ha=>?_⟩ | refine Or.inr ⟨rfl,fun b hb hb'=>?_⟩)
 | (with_reducible show PyData.canLay0 _=true/\_;refine And.intro (by first | rfl | assumption | decide +kernel) ?_)
 | (with_reducible show min _ _<=60/\_;refine And.intro (by first | assumption | (simp [ar7,aoy];done)) ?_)
 | refine⟨rfl,?_⟩
 | (refine And.intro ?side ?_;(case side=>first | omega | exact Int.ediv_nonneg (by omega) (by omega) | exact aqY _ (by omega) | exact apO _ (by omega) | decide | exact⟨by decide,by decide,by decide⟩ | exact⟨by omega,by omega⟩ | exact Or.inl ⟨by omega,by omega⟩ | exact Or.inr ⟨by omega,by omega⟩ | (refine aoN (ap5 (by rfl)) (show _<=1000 by decide)) | ((repeat' apply And.intro) <;> first | rfl | omega | decide | assumption) | (simp [ar7]))))
theorem zS {b:Bool} {p q:Prop} (h1:b=true->p) (h2:b=false->q):if b=true then p else q:=by
 cases b with
 | true=>rw [if_pos rfl];exact h1 rfl
 | false=>rw [if_neg aoi];exact h2 rfl
def zO (rows:List (List Int)) (wd:Nat) (x y:Int):Bool:=decide (0<=x/\x<wd) && decide (0<=y/\y<rows.length)
def yJ (rows:List (List Int)) (x y:Int):Int:=(rows.getD y.toNat []).getD x.toNat 0
theorem yi {rows:List (List Int)} {wd:Nat} {x y:Int} (h:zO rows wd x y=true):0<=x/\x<wd/\0<=y/\y<rows.length:=by
 unfold zO at h
 rw [aoo] at h
 have h1:=of_decide_eq_true h.1
 have h2:=of_decide_eq_true h.2
 omega
def jN (x y w:Int):PyData:=.tuple [.int x,.int y,.int w]
def px (x:Int) (w:Int):Int:=if w=0 then x+1 else x
def py (y:Int) (w:Int):Int:=if w=0 then y else y+1
def qI (rows:List (List Int)) (wd:Nat) (x y w:Int):Bool:=decide (w=0 \/ w=1) && (zO rows wd x y && zO rows wd (px x w) (py y w))
def yu (rows:List (List Int)) (wd:Nat) (cut x y w:Int):Bool:=qI rows wd x y w && (decide (cut<yJ rows x y) != decide (cut<yJ rows (px x w) (py y w)))
def acB (rows:List (List Int)) (cut x y w:Int):Str:=if w=0 then (if cut<yJ rows x y then "up" else "down") else (if cut<yJ rows x y then "right" else "left")
theorem aak (a b:Int):aoH (.int a) (.int b)=decide (a=b):=rfl
theorem aeG (a b:Bool):aoH (.bool a) (.bool b)=(a == b):=rfl
abbrev ajv (K:aol):Sp:=spD K 1 (fun (c:List (List Int)×Nat) xs=>xs=[.dat (tab c.1)]/\Good c.2 c.1) fun c r=>r=.tuple [.int c.2,.int c.1.length]
abbrev agQ (K:aol):Sp:=spD K 3 (fun (c:List (List Int)×Nat×Int×Int) xs=>xs=[.dat (tab c.1),.dat (.int c.2.2.1),.dat (.int c.2.2.2)]/\Good c.2.1 c.1) fun c r=>r=.bool (zO c.1 c.2.1 c.2.2.1 c.2.2.2)
theorem amZ (F:Def K mg "has_point" jH pj) (uaB:FnIn P w K mg base k "size" pz (ajv K)):FnIn P w K mg base (k+1) "has_point" pj (agQ K):=by
 refine F.ok sc_has_point rfl fun fa cdv A outer s H E hr=>⟨_,(zc (ya (zd uaB hr rfl (za (pv 0) zb)) (zL (K:=K) (n:=2) rfl rfl (zh (zf (i:=3) sc_has_point.nd rfl (Or.inl rfl) (Or.inr rfl)) (zh (zf (i:=4) sc_has_point.nd rfl (Or.inl rfl) (Or.inr rfl)) zH)))) (zg (zt (vK (aba ab8 aio ze (pv 1) (pv 3)) (aa7 (aba ab8 aio ze (pv 2) (pv 4))))))),?_⟩
 rintro f xs ⟨rows,wd,x,y⟩ hl ⟨rfl,g⟩
 try dsimp only [z5,zl]
 dsimp only at *
 refine z6 (zP (zp (rows,wd) ?_))
 walk_at "w"
 rintro _ rfl
 walk_at "w"
 have fin:∀ b:Bool,b=zO rows wd x y->PyData.bool b=PyData.bool (zO rows wd x y):=fun b h=>by rw [h]
 refine zS (fun h1=>?_) fun h1=>?_
 ·have h1':=of_decide_eq_true h1
  walk_at "w"
  refine zS (fun h2=>?_) fun h2=>?_
  ·have h2':=of_decide_eq_true h2
   walk_at "w"
   refine zS (fun h3=>?_) fun h3=>?_
   ·have h3':=of_decide_eq_true h3
    walk_at "w"
    refine fin _ ?_
    unfold zO
    dsimp only at h2' ⊢
    rw [decide_eq_true (p:=(0<=x/\x<(wd:Int))) (by omega),apv]
    exact decide_eq_decide.mpr (by omega)
   ·have h3':=of_decide_eq_false h3
    refine fin _ ?_
    unfold zO
    rw [decide_eq_false (p:=(0<=y/\y<(rows.length:Int))) (by omega),aq7]
  ·have h2':=of_decide_eq_false h2
   refine fin _ ?_
   unfold zO
   dsimp only at h2'
   rw [decide_eq_false (p:=(0<=x/\x<(wd:Int))) (by omega),apw]
 ·have h1':=of_decide_eq_false h1
  refine⟨_,rfl,?_⟩
  rw [if_neg aoi]
  refine fin _ ?_
  unfold zO
  rw [decide_eq_false (p:=(0<=x/\x<(wd:Int))) (by omega),apw]
abbrev vU (K:aol):Sp:=spD K 3 (fun (c:List (List Int)×Nat×Int×Int×Int) xs=>xs=[.dat (tab c.1),.dat (.int c.2.2.1),.dat (.tuple [.int c.2.2.2.1,.int c.2.2.2.2])]/\Good c.2.1 c.1/\zO c.1 c.2.1 c.2.2.2.1 c.2.2.2.2=true) fun c r=>r=.bool (decide (c.2.2.1<yJ c.1 c.2.2.2.1 c.2.2.2.2))
theorem aeH {rows:List (List Int)} {wd:Nat} {x y:Int} (g:Good wd rows) (h:zO rows wd x y=true):∃ r:List Int,atI (rows.map fun q=>PyData.list (q.map .int)) y=some (.list (r.map .int))/\atI (r.map PyData.int) x=some (.int (yJ rows x y)):=by
 obtain⟨x0,x1,y0,y1⟩:=yi h
 have hy:y.toNat<rows.length:=by omega
 have hr:=g.row _ (aoQ hy)
 have hx:x.toNat<rows[y.toNat].length:=by omega
 refine⟨rows[y.toNat],yL (F:=fun q:List Int=>PyData.list (q.map .int)) (by omega) hy,?_⟩
 rw [yL (j:=x.toNat) (by omega) hx]
 unfold yJ
 rw [aok,aok,aof hy,arz,aof hx]
 rfl
theorem ak6 (F:Def K mg "stands_high" y7 pA):FnIn P w K mg base (k+1) "stands_high" pA (vU K):=by
 refine F.ok sc_stands_high rfl fun fa cdv A outer s H E hr=>⟨_,(zc (ya (pv 2) (zL (K:=K) (n:=2) rfl rfl (zh (zf (i:=3) sc_stands_high.nd rfl (Or.inl rfl) (Or.inr rfl)) (zh (zf (i:=4) sc_stands_high.nd rfl (Or.inl rfl) (Or.inr rfl)) zH)))) (zg (zt (yD aip (zI (zz (K:=K) rfl) (zI (zz (K:=K) rfl) (pv 0) (pv 4) (fun _ _=>rfl)) (pv 3) (fun _ _=>rfl)) (pv 1) (zQ _))))),?_⟩
 rintro f xs ⟨rows,wd,cut,x,y⟩ hl ⟨rfl,g,hi⟩
 try dsimp only [z5,zl]
 dsimp only at *
 obtain⟨r,h1,h2⟩:=aeH g hi
 unfold tab
 walk_at "w"
 refine⟨_,h1,?_⟩
 walk_at "w"
 refine⟨_,h2,?_⟩
 walk_at "w"
 rfl
abbrev agR (K:aol):Sp:=spD K 1 (fun (c:Int×Int×Int) xs=>xs=[.dat (jN c.1 c.2.1 c.2.2)]) fun c r=>r=.list [.tuple [.int c.1,.int c.2.1],.tuple [.int (px c.1 c.2.2),.int (py c.2.1 c.2.2)]]
theorem am0 (F:Def K mg "gate_points" y8 ["gate"]):FnIn P w K mg base (k+1) "gate_points" ["gate"] (agR K):=by
 refine F.ok sc_gate_points rfl fun fa cdv A outer s H E hr=>⟨_,(zc (ya (pv 0) (zL (K:=K) (n:=3) rfl rfl (zh (zf (i:=1) sc_gate_points.nd rfl (Or.inl rfl) (Or.inr rfl)) (zh (zf (i:=2) sc_gate_points.nd rfl (Or.inl rfl) (Or.inr rfl)) (zh (zf (i:=3) sc_gate_points.nd rfl (Or.inl rfl) (Or.inr rfl)) zH))))) (zc (yA (zJ (jT (K:=K) rfl hr.units) (pv 3) ze (zQ _)) (zg (zt (yh (za (zC (za (pv 1) (za (pv 2) zb))) (za (zC (za (zw zY (pv 1) ze) (za (pv 2) zb))) zb))))) zV) (zg (zt (yh (za (zC (za (pv 1) (za (pv 2) zb))) (za (zC (za (pv 1) (za (zw zY (pv 2) ze) zb))) zb))))))),?_⟩
 rintro f xs ⟨x,y,w⟩ hl rfl
 try dsimp only [z5,zl]
 dsimp only at *
 unfold jN
 walk_at "w"
 rw [if_neg aoi,aak]
 refine zS (fun h=>?_) fun h=>?_
 ·have h':=of_decide_eq_true h
  walk_at "w"
  unfold px py
  rw [if_pos h',if_pos h']
 ·have h':=of_decide_eq_false h
  walk_at "w"
  unfold px py
  rw [if_neg h',if_neg h']
abbrev ajw (K:aol):Sp:=spD K 2 (fun (c:List (List Int)×Nat×Int×Int×Int) xs=>xs=[.dat (tab c.1),.dat (jN c.2.2.1 c.2.2.2.1 c.2.2.2.2)]/\Good c.2.1 c.1) fun c r=>r=.bool (qI c.1 c.2.1 c.2.2.1 c.2.2.2.1 c.2.2.2.2)
theorem ak7 (F:Def K mg "has_gate" qy pJ) (uaj:mg "all"=none) (uak:FnIn P w K mg base k "has_point" pj (agQ K)) (uar:FnIn P w K mg base k "gate_points" ["gate"] (agR K)):FnIn P w K mg base (k+1) "has_gate" pJ (ajw K):=by
 refine F.ok aeA rfl fun fa cdv A outer s H E hr=>⟨_,(zc (yA (zJ (ahu (K:=K) rfl) (zI (yf (K:=K) rfl) (pv 1) ze (fun _ _=>rfl)) (zC (za ze (za ze zb))) rfl) (zg (zt qJ)) zV) (zg (zt (zA (acj (K:=K) rfl rfl) rfl uaj arK (za (ye (N:=["x","y","rows"]) (own:=2) (fr:=[0]) ⟨rfl,by decide +kernel,of_decide_eq_true (by kernel_rfl),of_decide_eq_true (by kernel_rfl),of_decide_eq_true (by kernel_rfl),rfl⟩ rfl (zW (K:=K) rfl (zd uar hr rfl (za (pv 1) zb))) (fun _ _ _ _=>(zL (K:=K) (n:=2) rfl rfl (zh (zf (i:=0) (show (["x","y","rows"]:List Str).Nodup by decide +kernel) rfl (Or.inl rfl) (Or.inr rfl)) (zh (zf (i:=1) (show (["x","y","rows"]:List Str).Nodup by decide +kernel) rfl (Or.inl rfl) (Or.inr rfl)) zH)))) (fun _ _ _ _=>y4) (fun _ _ _ _=>(zd uak hr rfl (za (pv 2) (za (pv 0) (za (pv 1) zb))))) rfl rfl (fun _=>rfl)) zb))))),?_⟩
 rintro f xs ⟨rows,wd,x,y,w⟩ hl ⟨rfl,g⟩
 try dsimp only [z5,zl]
 dsimp only at *
 refine z6 (abW (yq (aiW ?_)))
 unfold jN
 walk_at "w"
 refine⟨[0,1],rfl,_,rfl,?_⟩
 have hc:(([0,1]:List Int).contains w)=decide (w=0 \/ w=1):=by
  rw [aqW]
  simp
 rw [hc]
 by_cases h:w=0 \/ w=1
 ·rw [decide_eq_true h,apn,if_neg aoi]
  refine vC (yT (alQ (PEdO.ped (agh (A:=fun p:Int×Int=>PyData.tuple [.int p.1,.int p.2]) (B:=fun p:Int×Int=>PyData.bool (zO rows wd p.1 p.2)) [(x,y),(px x w,py y w)] (yx (zp (x,y,w) ?_))))))
  walk_at "w"
  rintro _ rfl
  refine⟨_,rfl,rfl,show 2<=1000 by decide,?_,?_⟩
  ·rintro D p ρ' es hp ho hes
   obtain⟨u,v,rfl⟩:=ho.two
   refine yt rfl (zo (zi (zo (zi (zT (vF ?_))))))
   rw [if_pos rfl]
   refine yl hes (zp (rows,wd,p.1,p.2) ?_)
   walk_at "w"
   rintro _ rfl
   exact⟨.mk2,rfl⟩
  ·refine⟨[zO rows wd x y,zO rows wd (px x w) (py y w)],rfl,?_⟩
   show PyData.bool _=PyData.bool _
   unfold qI
   rw [decide_eq_true h,apv]
   show PyData.bool (zO rows wd x y && (zO rows wd (px x w) (py y w) && true))=_
   rw [aru]
 ·rw [decide_eq_false h,aq9,if_pos rfl]
  walk_at "w"
  unfold qI
  rw [decide_eq_false h]
  rfl
abbrev adu (K:aol):Sp:=spD K 3 (fun (c:List (List Int)×Nat×Int×Int×Int×Int) xs=>xs=[.dat (tab c.1),.dat (.int c.2.2.1),.dat (jN c.2.2.2.1 c.2.2.2.2.1 c.2.2.2.2.2)]/\Good c.2.1 c.1) fun c r=>r=.bool (yu c.1 c.2.1 c.2.2.1 c.2.2.2.1 c.2.2.2.2.1 c.2.2.2.2.2)
theorem ajx {rows:List (List Int)} {wd:Nat} {x y w:Int} (h:qI rows wd x y w=true):zO rows wd x y=true/\zO rows wd (px x w) (py y w)=true:=by
 unfold qI at h
 rw [aoo,aoo] at h
 exact h.2
theorem ak8 (F:Def K mg "is_open" vd ph) (ua8:FnIn P w K mg base k "has_gate" pJ (ajw K)) (uar:FnIn P w K mg base k "gate_points" ["gate"] (agR K)) (uac:FnIn P w K mg base k "stands_high" pA (vU K)):FnIn P w K mg base (k+1) "is_open" ph (adu K):=by
 refine F.ok sc_is_open rfl fun fa cdv A outer s H E hr=>⟨_,(zc (yA (aa6 (z4 (K:=K) rfl (zd ua8 hr rfl (za (pv 0) (za (pv 2) zb))) (fun _=>rfl))) (zg (zt qJ)) zV) (zc (ya (zd uar hr rfl (za (pv 2) zb)) (ac0 (K:=K) (n:=2) rfl rfl (zh (zf (i:=3) sc_is_open.nd rfl (Or.inl rfl) (Or.inr rfl)) (zh (zf (i:=4) sc_is_open.nd rfl (Or.inl rfl) (Or.inr rfl)) zH)))) (zg (zt (yD (qo (K:=K) rfl hr.units) (zd uac hr rfl (za (pv 0) (za (pv 1) (za (pv 3) zb)))) (zd uac hr rfl (za (pv 0) (za (pv 1) (za (pv 4) zb)))) (zQ _)))))),?_⟩
 rintro f xs ⟨rows,wd,cut,x,y,w⟩ hl ⟨rfl,g⟩
 try dsimp only [z5,zl]
 dsimp only at *
 refine z6 (abW (ad4 (yH (zp (rows,wd,x,y,w) ?_))))
 walk_at "w"
 rintro _ rfl
 refine⟨_,rfl,?_⟩
 dsimp only
 cases h:qI rows wd x y w with
 | false =>
  rw [aq9,if_pos rfl]
  walk_at "w"
  unfold yu
  rw [h]
  rfl
 | true =>
  rw [apn,if_neg aoi]
  obtain⟨i1,i2⟩:=ajx h
  refine vC (z6 (zP (zp (x,y,w) ?_)))
  walk_at "w"
  rintro _ rfl
  dsimp only
  refine aiU rfl (zo (zi (zo (zi (zT ?_)))))
  refine yT (jC (zp (rows,wd,cut,x,y) ?_))
  walk_at "w"
  rintro _ rfl
  refine zp (rows,wd,cut,px x w,py y w) ?_
  walk_at "w"
  rintro _ rfl
  dsimp only
  walk_at "w"
  show PyData.bool _=PyData.bool _
  unfold yu
  rw [h,apv,if_pos rfl,aeG]
  rfl
theorem am1 (F:Def K mg "_law_cut" vj pO) (uaa:mg "len"=none) (uad:FnIn P w K mg base k "_law_draw" pH (afz K)):FnIn P w K mg base (k+1) "_law_cut" pO (alZ K):=by
 refine F.ok sc_law_cut rfl fun fa cdv A outer s H E hr=>⟨_,(zc (zB (i:=2) sc_law_cut.nd rfl (Or.inl rfl) (zI (zz (K:=K) rfl) (pv 1) (zd uad hr rfl (za (pv 0) (za (zA (zM (K:=K) rfl) rfl uaa aoW (za (pv 1) zb)) zb))) (fun _ _=>rfl))) (zg (zt (zw yM (zI (zz (K:=K) rfl) (pv 2) (zd uad hr rfl (za (pv 0) (za (zA (zM (K:=K) rfl) rfl uaa aoW (za (pv 2) zb)) zb))) (fun _ _=>rfl)) (zd uad hr rfl (za (pv 0) (za ze zb))))))),?_⟩
 rintro f xs ⟨rows,wd⟩ hl ⟨rfl,g⟩
 try dsimp only [z5,zl]
 dsimp only at *
 have g1:=g.h1
 have g2:=g.h2
 have w1:=g.w1
 have w2:=g.w2
 have ml:(rows.map fun r=>PyData.list (r.map .int)).length=rows.length:=aog _
 have ml1:2<=(rows.map fun r=>PyData.list (r.map .int)).length:=by omega
 have ml2:(rows.map fun r=>PyData.list (r.map .int)).length<=7:=by omega
 refine z6 (zP (jD ?_))
 unfold tab
 walk_at "w"
 refine zp (((rows.map fun r=>PyData.list (r.map .int)).length:Nat):Int) ?_
 walk_at "w"
 rintro _ ⟨i,rfl,i0,i1⟩
 have hi:i.toNat<rows.length:=by omega
 have hr:=g.row _ (aoQ hi)
 have hh:=g.hgt _ (aoQ hi)
 refine⟨_,rfl,_,yL (F:=fun q:List Int=>PyData.list (q.map .int)) (j:=i.toNat) (by omega) hi,?_⟩
 generalize rows[i.toNat]=row at hr hh
 have rl:(row.map PyData.int).length=row.length:=aog _
 have rl1:2<=(row.map PyData.int).length:=by omega
 have rl2:(row.map PyData.int).length<=7:=by omega
 walk_at "w"
 refine zp (((row.map PyData.int).length:Nat):Int) ?_
 walk_at "w"
 rintro _ ⟨q,rfl,q0,q1⟩
 have hq:q.toNat<row.length:=by omega
 refine⟨_,rfl,_,yL (F:=PyData.int) (j:=q.toNat) (by omega) hq,?_⟩
 have hb:=hh _ (aoQ hq)
 generalize row[q.toNat]=v at hb
 walk_at "w"
 refine zp 2 ?_
 walk_at "w"
 rintro _ ⟨u,rfl,u0,u1⟩
 walk_at "w"
 omega
theorem jy {n i:Nat} {d:PyData} (h:(jU n)[i]?=some d):i<n/\d=.int (i:Int):=by
 unfold jU at h
 rw [aoq] at h
 by_cases hi:i<n
 ·rw [apF hi] at h
  cases h
  exact⟨hi,rfl⟩
 ·rw [aoP (by rw [aoU];omega)] at h
  cases h
theorem acC (n:Nat):(jU n).length=n:=by unfold jU;simp
def ak9 (x y:Nat):PyData:=.tuple [.int x,.int y]
def j9 (t n:Nat):List PyData:=(aow n).flatMap fun x=>(aow t).map (ak9 x)
theorem aeI (t n:Nat):j9 t (n+1)=j9 t n++(aow t).map (ak9 n):=by
 unfold j9
 rw [aqw,apy]
 simp
theorem agS (t:Nat):∀ n,(j9 t n).length=t * n
 | 0=>rfl
 | n+1=>by rw [aeI,aox,agS t n,aog,aoU,ar8]
abbrev abD (K:aol):Sp:=spD K 1 (fun (c:List (List Int)×Nat) xs=>xs=[.dat (tab c.1)]/\Good c.2 c.1) fun c r=>r=.list (j9 c.1.length c.2)
theorem ahV (F:Def K mg "points" aag pz) (uab:mg "range"=none) (uaB:FnIn P w K mg base k "size" pz (ajv K)):FnIn P w K mg base (k+1) "points" pz (abD K):=by
 refine F.ok sc_points rfl fun fa cdv A outer s H E hr=>⟨_,(zc (ya (zd uaB hr rfl (za (pv 0) zb)) (zL (K:=K) (n:=2) rfl rfl (zh (zf (i:=1) sc_points.nd rfl (Or.inl rfl) (Or.inr rfl)) (zh (zf (i:=2) sc_points.nd rfl (Or.inr rfl) (Or.inl rfl)) zH)))) (zg (zt (aiy (N:=["x","y","tall"]) (own:=2) (fr:=[2]) ⟨rfl,by decide +kernel,of_decide_eq_true (by kernel_rfl),of_decide_eq_true (by kernel_rfl),of_decide_eq_true (by kernel_rfl),rfl⟩ rfl (yv rfl uab (za (pv 1) zb)) (fun _ _ _ _=>(zf (i:=0) (show (["x","y","tall"]:List Str).Nodup by decide +kernel) rfl (Or.inl rfl) (Or.inr rfl))) (fun _ _ _ _=>y4) (fun _ _ _ _=>(yv rfl uab (za (pv 2) zb))) (fun _ _ _ _=>(zf (i:=1) (show (["x","y","tall"]:List Str).Nodup by decide +kernel) rfl (Or.inl rfl) (Or.inr rfl))) (fun _ _ _ _=>y4) (fun _ _ _ _=>(zC (za (pv 0) (za (pv 1) zb)))) rfl rfl (fun _=>rfl) (fun _ _ _ _ _=>rfl))))),?_⟩
 rintro f xs ⟨rows,wd⟩ hl ⟨rfl,g⟩
 try dsimp only [z5,zl]
 dsimp only at *
 have g2:=g.h2
 have w2:=g.w2
 refine z6 (zP (zp (rows,wd) ?_))
 walk_at "w"
 rintro _ rfl
 refine yt rfl (zo (zi (zo (zi (zT ?_)))))
 refine yT (PEdO.ped (qP (jE (zx (zm rfl (yj ⟨_,rfl,by dsimp only;omega,by dsimp only;omega,fun n ρ es=>(∃ u v,ρ=[u,v,some (.dat (.int rows.length))])/\es=j9 rows.length n,⟨⟨_,_,rfl⟩,rfl⟩,?_,?_⟩))))))
 ·rintro D n d ρ' es hd ⟨⟨u,v,rfl⟩,rfl⟩
  obtain⟨hn,rfl⟩:=jy hd
  have hn':n<wd:=by have:n<((wd:Int)).toNat:=hn;omega
  have l1:rows.length * n<=7 * 7:=arc g2 (by omega)
  refine zi (vF ?_)
  rw [if_pos rfl]
  refine anw (jE (zx (zm rfl (yj ⟨_,rfl,by omega,by omega,fun m ρ es=>(∃ v,ρ=[some (.dat (.int n)),v,some (.dat (.int rows.length))])/\es=j9 rows.length n++(aow m).map (ak9 n),⟨⟨_,rfl⟩,by simp⟩,?_,?_⟩))))
  ·rintro m d ρ2 es2 hd2 ⟨⟨v,rfl⟩,rfl⟩
   obtain⟨hm,rfl⟩:=jy hd2
   have hm':m<rows.length:=by have:m<((rows.length:Int)).toNat:=hm;omega
   refine zi (vF ?_)
   rw [if_pos rfl]
   refine yl (by rw [aox,agS,aog,aoU];omega) ?_
   walk_at "w"
   rw [aqw,aoF,apx]
   rfl
  ·rintro ρ2 es2 ⟨⟨v,rfl⟩,rfl⟩
   rw [acC,apW]
   exact⟨⟨_,_,rfl⟩,by rw [aeI]⟩
 ·rintro ρ' es ⟨_,rfl⟩
  rw [acC,apW]
def F2:PyData->List PyData
 | .tuple [.int x,.int y]=>[jN x y 0,jN x y 1]
 | _=>[]
def gD3 (g:Int×Int×Int):PyData:=jN g.1 g.2.1 g.2.2
def opG (rows:List (List Int)) (wd:Nat) (cut:Int) (g:Int×Int×Int):Bool:=yu rows wd cut g.1 g.2.1 g.2.2
def yF (t n:Nat):List (Int×Int×Int):=(aow n).flatMap fun (x:Nat)=>(aow t).flatMap fun (y:Nat)=>[((x:Int),(y:Int),(0:Int)),((x:Int),(y:Int),(1:Int))]
theorem aeJ (t n:Nat):(j9 t n).flatMap F2=(yF t n).map gD3:=by
 unfold j9 yF
 rw [List.flatMap_assoc,arA]
 congr 1
 funext x
 rw [List.flatMap_map,arA]
 rfl
theorem ala {t n:Nat} {d:PyData} (h:d∈j9 t n):∃ x y:Nat,d=ak9 x y:=by
 obtain⟨x,_,h⟩:=ao3.mp h
 obtain⟨y,_,rfl⟩:=aoC.mp h
 exact⟨x,y,rfl⟩
theorem abE {α:Type} {F:Nat->List α} {b:Nat} (h:∀ n,(F n).length<=b):∀ n,((aow n).flatMap F).length<=b * n
 | 0=>by simp
 | n+1=>by
  rw [aqw,apy,aox]
  have:=abE h n
  have:=h n
  simp only [aro,List.flatMap_nil,apf]
  rw [ar8]
  omega
theorem acD {t n:Nat} (ht:t<=7) (hn:n<=7):(yF t n).length<=98:=by
 have h:=abE (F:=fun (x:Nat)=>(aow t).flatMap fun (y:Nat)=>[((x:Int),(y:Int),(0:Int)),((x:Int),(y:Int),(1:Int))]) (b:=2 * t) (fun x=>abE (F:=fun (y:Nat)=>[((x:Int),(y:Int),(0:Int)),((x:Int),(y:Int),(1:Int))]) (b:=2) (fun y=>aop 2) t) n
 exact aoN h (arc (show 2 * t<=14 by omega) hn)
def am2 (rows:List (List Int)) (wd:Nat) (cut:Int) (x y:Nat):List (Int×Int×Int):=(if yu rows wd cut x y 0=true then [((x:Int),(y:Int),(0:Int))] else [])++if yu rows wd cut x y 1=true then [((x:Int),(y:Int),(1:Int))] else []
def yb (rows:List (List Int)) (wd:Nat) (cut:Int):List (Int×Int×Int):=(aow wd).flatMap fun x=>(aow rows.length).flatMap fun y=>am2 rows wd cut x y
theorem ahW {α:Type} {F:Nat->List α} (n:Nat):(aow (n+1)).flatMap F=(aow n).flatMap F++F n:=by
 rw [aqw,apy]
 simp
theorem alb (rows:List (List Int)) (wd:Nat) (cut:Int) (x y:Nat):am2 rows wd cut x y=[((x:Int),(y:Int),(0:Int)),((x:Int),(y:Int),(1:Int))].filter (opG rows wd cut):=by
 unfold am2 opG
 simp only [ao0,arJ]
 cases yu rows wd cut x y 0 <;> cases yu rows wd cut x y 1 <;> rfl
theorem qS (rows:List (List Int)) (wd:Nat) (cut:Int):yb rows wd cut=(yF rows.length wd).filter (opG rows wd cut):=by
 unfold yb yF
 rw [arZ]
 congr 1
 funext x
 rw [arZ]
 congr 1
 funext y
 exact alb rows wd cut x y
def gLt (a b:Int×Int×Int):Prop:=a.1<b.1 \/ (a.1=b.1/\(a.2.1<b.2.1 \/ (a.2.1=b.2.1/\a.2.2<b.2.2)))
theorem adv {α:Type} {R:α->α->Prop} {F:Nat->List α} (n:Nat) (h1:∀ i,i<n->(F i).Pairwise R) (h2:∀ i j,i<j->j<n->∀ a∈F i,∀ b∈F j,R a b):((aow n).flatMap F).Pairwise R:=by
 induction n with
 | zero=>simp
 | succ n ih =>
  rw [ahW,aqT]
  refine⟨ih (fun i hi=>h1 i (by omega)) (fun i j hij hj=>h2 i j hij (by omega)),h1 n (by omega),fun a ha b hb=>?_⟩
  obtain⟨i,hi,ha⟩:=ao3.mp ha
  exact h2 i n (aoK.mp hi) (by omega) a ha b hb
theorem aeK (t n:Nat):(yF t n).Pairwise gLt:=by
 unfold yF
 refine adv n (fun x _=>adv t (fun y _=>?_) fun y y' hy _ a ha b hb=>?_) fun x x' hx _ a ha b hb=>?_
 ·simp [gLt]
 ·simp only [aor,aph,or_false] at ha hb
  rcases ha with rfl | rfl <;> rcases hb with rfl | rfl <;> (unfold gLt;dsimp only;omega)
 ·obtain⟨y,_,ha⟩:=ao3.mp ha
  obtain⟨y',_,hb⟩:=ao3.mp hb
  simp only [aor,aph,or_false] at ha hb
  rcases ha with rfl | rfl <;> rcases hb with rfl | rfl <;> (unfold gLt;dsimp only;omega)
theorem acE {rows:List (List Int)} {wd:Nat} {cut:Int} (g:Good wd rows):(yb rows wd cut).length<=98:=by
 rw [qS]
 exact aoN (ao5 _ _) (acD g.h2 g.w2)
abbrev agT (K:aol):Sp:=spN K 2 (fun (c:List (List Int)×Nat×Int) xs=>xs=[.dat (tab c.1),.dat (.int c.2.2)]/\Good c.2.1 c.1) fun c es=>es=((yF c.1.length c.2.1).filter (opG c.1 c.2.1 c.2.2)).map gD3
theorem ajy (F:Def K mg "gates" aaT pf) (uag:FnIn P w K mg base k "ask_table" pz (acA K)) (uaC:FnIn P w K mg base k "points" pz (abD K)) (uas:FnIn P w K mg base k "is_open" ph (adu K)):FnIn P w K mg base (k+1) "gates" pf (agT K):=by
 refine F.okN sc_gates rfl fun fa cdv A outer s H E hr=>⟨_,(zc (yp (zd uag hr rfl (za (pv 0) zb))) (zc (ad2 (i:=2) (N:=pV) (own:=3) (fr:=[]) ⟨rfl,by decide +kernel,of_decide_eq_true (by kernel_rfl),of_decide_eq_true (by kernel_rfl),of_decide_eq_true (by kernel_rfl),rfl⟩ rfl sc_gates.nd rfl (Or.inl rfl) (zW (K:=K) rfl (zd uaC hr rfl (za (pv 0) zb))) (fun _ _ _ _=>(zL (K:=K) (n:=2) rfl rfl (zh (zf (i:=0) (show (pV:List Str).Nodup by decide +kernel) rfl (Or.inl rfl) (Or.inr rfl)) (zh (zf (i:=1) (show (pV:List Str).Nodup by decide +kernel) rfl (Or.inl rfl) (Or.inr rfl)) zH)))) (fun _ _ _ _=>y4) (fun _ _ _ _=>(qq (K:=K) rfl (zC (za ze (za ze zb))))) (fun _ _ _ _=>(zf (i:=2) (show (pV:List Str).Nodup by decide +kernel) rfl (Or.inl rfl) (Or.inr rfl))) (fun _ _ _ _=>y4) (fun _ _ _ _=>(zC (za (pv 0) (za (pv 1) (za (pv 2) zb))))) rfl rfl (fun _=>rfl) (fun _ _ _ _ _=>rfl) (Or.inl rfl) rfl) (zg (zt (ye (N:=pF) (own:=1) (fr:=[0,1]) ⟨rfl,by decide +kernel,of_decide_eq_true (by kernel_rfl),of_decide_eq_true (by kernel_rfl),of_decide_eq_true (by kernel_rfl),rfl⟩ rfl (zW (K:=K) rfl (pv 2)) (fun _ _ _ _=>(zf (i:=0) (show (pF:List Str).Nodup by decide +kernel) rfl (Or.inl rfl) (Or.inr rfl))) (fun _ _ _ _=>(yS (z4 (K:=K) rfl (zd uas hr rfl (za (pv 1) (za (pv 2) (za (pv 0) zb)))) (fun _=>rfl)))) (fun _ _ _ _=>(pv 0)) rfl rfl (fun _=>rfl)))))),?_⟩
 rintro f xs ⟨rows,wd,cut⟩ hl ⟨rfl,g⟩
 try dsimp only [z5,zl]
 dsimp only at *
 have sl:=acD g.h2 g.w2
 refine qG (vO (zp (rows,wd) ?_))
 walk_at "w"
 rintro _ rfl
 refine qG (zP (PEdO.ped (amz (yx (zp (rows,wd) ?_)))))
 walk_at "w"
 rintro _ rfl
 refine⟨_,rfl,F2,by rw [aeJ,aog];exact aoN sl (by decide),?_,?_⟩
 ·rintro D d ρ' es hd ho hes
  obtain⟨x,y,rfl⟩:=ala hd
  obtain⟨us,hus,rfl⟩:=ho
  match us,hus with
  | [u1,u2,u3],_ =>
   refine yt rfl (zo (zi (zo (zi (zT (vF ?_))))))
   rw [if_pos rfl]
   have hes':es.length+2<=1000:=hes
   refine anw (abk (vB (zx (yR (zx (yR (yj ⟨_,rfl,by simp,_,rfl,fun m ρ es2=>(∃ v,ρ=[some (.dat (.int x)),some (.dat (.int y)),v])/\es2=es++[jN x y 0,jN x y 1].take m,⟨⟨_,rfl⟩,by simp⟩,?_,?_⟩)))))))
   ·rintro m d ρ2 es2 hd2 ⟨⟨v,rfl⟩,rfl⟩
    have hm:(m=0/\d=.int 0) \/ (m=1/\d=.int 1):=by
     match m,hd2 with
     | 0,h=>cases h;exact .inl ⟨rfl,rfl⟩
     | 1,h=>cases h;exact .inr ⟨rfl,rfl⟩
     | (q+2),h=>cases h
    rcases hm with⟨rfl,rfl⟩ | ⟨rfl,rfl⟩
    ·refine zi (vF ?_)
     rw [if_pos rfl]
     refine yl (by simp;omega) ?_
     walk_at "w"
     simp
     rfl
    ·refine zi (vF ?_)
     rw [if_pos rfl]
     refine yl (by simp;omega) ?_
     walk_at "w"
     simp
     rfl
   ·rintro ρ2 es2 ⟨⟨v,rfl⟩,rfl⟩
    exact⟨⟨[_,_,_],rfl,rfl⟩,rfl⟩
 ·rw [show List.flatMap F2 (j9 (rows,wd).1.length (rows,wd).2)=(yF rows.length wd).map gD3 from aeJ _ _]
  refine zi (acm (qP (yx (zm rfl ⟨_,rfl,fun n ρ es=>(∃ u,ρ=[u,some (.dat (tab rows)),some (.dat (.int cut))])/\es=(((yF rows.length wd).take n).filter (opG rows wd cut)).map gD3,⟨⟨_,rfl⟩,rfl⟩,?_,?_⟩))))
  ·rintro D n d ρ' es hd ⟨⟨u,rfl⟩,rfl⟩
   rw [aoq] at hd
   cases hq:(yF rows.length wd)[n]? with
   | none=>rw [hq] at hd;cases hd
   | some q =>
    rw [hq] at hd
    cases hd
    have tk:(yF rows.length wd).take (n+1)=(yF rows.length wd).take n++[q]:=by
     rw [aqI,hq]
     rfl
    have len:((((yF rows.length wd).take n).filter (opG rows wd cut)).map gD3).length<1000:=by
     rw [aog]
     have a1:=ao5 (opG rows wd cut) ((yF rows.length wd).take n)
     rw [aoX] at a1
     omega
    refine zi (yH (zp (rows,wd,cut,q.1,q.2.1,q.2.2) ?_))
    unfold gD3 at *
    walk_at "w"
    rintro _ rfl
    dsimp only
    refine⟨_,rfl,?_⟩
    refine zS (fun h=>?_) fun h=>?_
    ·refine yl len ?_
     walk_at "w"
     rw [tk,api,aoF,ao0,show opG rows wd cut q=true from h,if_pos rfl]
     rfl
    ·refine⟨⟨_,rfl⟩,?_⟩
     rw [tk,api,aoF,ao0,show opG rows wd cut q=false from h,if_neg aoi]
     simp
  ·rintro ρ' es ⟨_,rfl⟩
   rw [aog,aoZ]
abbrev CC:=List (List Int)×Nat×Int×Int×Int
def zD (rows:List (List Int)) (wd:Nat) (x y:Int):Bool:=zO rows wd x y && zO rows wd (x+1) (y+1)
def hiB (rows:List (List Int)) (cut x y:Int):Bool:=decide (cut<yJ rows x y)
theorem cell_in {rows:List (List Int)} {wd:Nat} {x y:Int} (h:zD rows wd x y=true):zO rows wd x y=true/\zO rows wd (x+1) y=true/\zO rows wd (x+1) (y+1)=true/\zO rows wd x (y+1)=true:=by
 unfold zD at h
 rw [aoo] at h
 obtain⟨a0,a1,a2,a3⟩:=yi h.1
 obtain⟨b0,b1,b2,b3⟩:=yi h.2
 refine⟨h.1,?_,h.2,?_⟩ <;> unfold zO <;> rw [decide_eq_true (by omega),decide_eq_true (by omega)] <;> rfl
section
variable {rows:List (List Int)} {wd:Nat} {cut x y:Int}
theorem aaX (h:zD rows wd x y=true):yu rows wd cut x y 0=(hiB rows cut x y != hiB rows cut (x+1) y):=by
 obtain⟨a,b,c,d⟩:=cell_in h
 unfold yu qI
 show (decide ((0:Int)=0 \/ (0:Int)=1) && (zO rows wd x y && zO rows wd (x+1) y) && _)=_
 rw [a,b]
 rfl
theorem adw (h:zD rows wd x y=true):yu rows wd cut x y 1=(hiB rows cut x y != hiB rows cut x (y+1)):=by
 obtain⟨a,b,c,d⟩:=cell_in h
 unfold yu qI
 show (decide ((1:Int)=0 \/ (1:Int)=1) && (zO rows wd x y && zO rows wd x (y+1)) && _)=_
 rw [a,d]
 rfl
theorem aaY (h:zD rows wd x y=true):yu rows wd cut x (y+1) 0=(hiB rows cut x (y+1) != hiB rows cut (x+1) (y+1)):=by
 obtain⟨a,b,c,d⟩:=cell_in h
 unfold yu qI
 show (decide ((0:Int)=0 \/ (0:Int)=1) && (zO rows wd x (y+1) && zO rows wd (x+1) (y+1)) && _)=_
 rw [c,d]
 rfl
theorem aaZ (h:zD rows wd x y=true):yu rows wd cut (x+1) y 1=(hiB rows cut (x+1) y != hiB rows cut (x+1) (y+1)):=by
 obtain⟨a,b,c,d⟩:=cell_in h
 unfold yu qI
 show (decide ((1:Int)=0 \/ (1:Int)=1) && (zO rows wd (x+1) y && zO rows wd (x+1) (y+1)) && _)=_
 rw [b,c]
 rfl
end
def cg (x y:Int):List (Int×Int×Int):=[(x,y,0),(x,y,1),(x,y+1,0),(x+1,y,1)]
def yN (rows:List (List Int)) (wd:Nat) (cut x y:Int):Bool:=(cg x y).all (opG rows wd cut)
def anK (rows:List (List Int)) (x y:Int):Int:=yJ rows x y+(yJ rows (x+1) y+(yJ rows (x+1) (y+1)+(yJ rows x (y+1)+0)))
def jz (rows:List (List Int)) (cut x y:Int):Bool:=decide (4 * cut+2<=anK rows x y)
def pairD (g h:Int×Int×Int):PyData:=.tuple [gD3 g,gD3 h]
abbrev adx (K:aol):Sp:=spD K 3 (fun (c:List (List Int)×Nat×Int×Int) xs=>xs=[.dat (tab c.1),.dat (.int c.2.2.1),.dat (.int c.2.2.2)]/\Good c.2.1 c.1) fun c r=>r=.bool (zD c.1 c.2.1 c.2.2.1 c.2.2.2)
theorem alc (F:Def K mg "has_cell" qw pj) (uak:FnIn P w K mg base k "has_point" pj (agQ K)):FnIn P w K mg base (k+1) "has_cell" pj (adx K):=by
 refine F.ok aey rfl fun fa cdv A outer s H E hr=>⟨_,(zg (zt (vK (zd uak hr rfl (za (pv 0) (za (pv 1) (za (pv 2) zb)))) (aa7 (zd uak hr rfl (za (pv 0) (za (zw zY (pv 1) ze) (za (zw zY (pv 2) ze) zb)))))))),?_⟩
 rintro f xs ⟨rows,wd,x,y⟩ hl ⟨rfl,g⟩
 try dsimp only [z5,zl]
 dsimp only at *
 refine yT (abh (zp (rows,wd,x,y) ?_))
 walk_at "w"
 rintro _ rfl
 dsimp only
 refine⟨_,rfl,?_⟩
 refine zS (fun h=>?_) fun h=>?_
 ·refine zp (rows,wd,x+1,y+1) ?_
  walk_at "w"
  rintro _ rfl
  dsimp only
  unfold zD
  rw [h,apv]
 ·unfold zD
  rw [h,apw]
abbrev acF (K:aol):Sp:=spD K 2 (fun (c:Int×Int) xs=>xs=[.dat (.int c.1),.dat (.int c.2)]) fun c r=>r=.list [.tuple [.int c.1,.int c.2],.tuple [.int (c.1+1),.int c.2],.tuple [.int (c.1+1),.int (c.2+1)],.tuple [.int c.1,.int (c.2+1)]]
theorem afA (F:Def K mg "corners" vc pI):FnIn P w K mg base (k+1) "corners" pI (acF K):=by
 refine F.ok afu rfl fun fa cdv A outer s H E hr=>⟨_,(zg (zt (yh (za (zC (za (pv 0) (za (pv 1) zb))) (za (zC (za (zw zY (pv 0) ze) (za (pv 1) zb))) (za (zC (za (zw zY (pv 0) ze) (za (zw zY (pv 1) ze) zb))) (za (zC (za (pv 0) (za (zw zY (pv 1) ze) zb))) zb))))))),?_⟩
 rintro f xs ⟨x,y⟩ hl rfl
 try dsimp only [z5,zl]
 dsimp only at *
 walk_at "w"
 rfl
abbrev aal (K:aol):Sp:=spD K 1 (fun (c:Int×Int) xs=>xs=[.dat (.tuple [.int c.1,.int c.2])]) fun c r=>r=.list ((cg c.1 c.2).map gD3)
theorem ahX (F:Def K mg "cell_gates" jl ["cell"]):FnIn P w K mg base (k+1) "cell_gates" ["cell"] (aal K):=by
 refine F.ok sc_cell_gates rfl fun fa cdv A outer s H E hr=>⟨_,(zc (ya (pv 0) (zL (K:=K) (n:=2) rfl rfl (zh (zf (i:=1) sc_cell_gates.nd rfl (Or.inl rfl) (Or.inr rfl)) (zh (zf (i:=2) sc_cell_gates.nd rfl (Or.inl rfl) (Or.inr rfl)) zH)))) (zg (zt (yh (za (zC (za (pv 1) (za (pv 2) (za ze zb)))) (za (zC (za (pv 1) (za (pv 2) (za ze zb)))) (za (zC (za (pv 1) (za (zw zY (pv 2) ze) (za ze zb)))) (za (zC (za (zw zY (pv 1) ze) (za (pv 2) (za ze zb)))) zb)))))))),?_⟩
 rintro f xs ⟨x,y⟩ hl rfl
 try dsimp only [z5,zl]
 dsimp only at *
 walk_at "w"
 rfl
abbrev ald (c:CC) (xs:List DV):Prop:=xs=[.dat (tab c.1),.dat (.int c.2.2.1),.dat (.tuple [.int c.2.2.2.1,.int c.2.2.2.2])]/\Good c.2.1 c.1/\zD c.1 c.2.1 c.2.2.2.1 c.2.2.2.2=true
abbrev aax (K:aol):Sp:=spD K 3 ald fun c r=>r=.bool (yN c.1 c.2.1 c.2.2.1 c.2.2.2.1 c.2.2.2.2)
theorem afB (F:Def K mg "is_crossed" jm pq) (uaj:mg "all"=none) (uas:FnIn P w K mg base k "is_open" ph (adu K)) (uat:FnIn P w K mg base k "cell_gates" ["cell"] (aal K)):FnIn P w K mg base (k+1) "is_crossed" pq (aax K):=by
 refine F.ok ab0 rfl fun fa cdv A outer s H E hr=>⟨_,(zg (zt (zA (acj (K:=K) rfl rfl) rfl uaj arK (za (ye (N:=pF) (own:=1) (fr:=[0,1]) ⟨rfl,by decide +kernel,of_decide_eq_true (by kernel_rfl),of_decide_eq_true (by kernel_rfl),of_decide_eq_true (by kernel_rfl),rfl⟩ rfl (zW (K:=K) rfl (zd uat hr rfl (za (pv 2) zb))) (fun _ _ _ _=>(zf (i:=0) (show (pF:List Str).Nodup by decide +kernel) rfl (Or.inl rfl) (Or.inr rfl))) (fun _ _ _ _=>y4) (fun _ _ _ _=>(zd uas hr rfl (za (pv 1) (za (pv 2) (za (pv 0) zb))))) rfl rfl (fun _=>rfl)) zb)))),?_⟩
 rintro f xs ⟨rows,wd,cut,x,y⟩ hl ⟨rfl,g,hc⟩
 try dsimp only [z5,zl]
 dsimp only at *
 refine yT (alQ (PEdO.ped (agh (A:=gD3) (B:=fun q=>PyData.bool (opG rows wd cut q)) (cg x y) (yx (zp (x,y) ?_)))))
 walk_at "w"
 rintro _ rfl
 refine⟨_,rfl,rfl,show 4<=1000 by decide,?_,?_⟩
 ·rintro D q ρ' es hq ho hes
  obtain⟨u,rfl⟩:=ho.one
  refine zi (vF ?_)
  rw [if_pos rfl]
  refine yl hes (zp (rows,wd,cut,q.1,q.2.1,q.2.2) ?_)
  unfold gD3
  walk_at "w"
  rintro _ rfl
  exact⟨.mk1,rfl⟩
 ·refine⟨(cg x y).map (opG rows wd cut),by rw [apJ];rfl,?_⟩
  show PyData.bool _=PyData.bool _
  unfold yN
  rw [List.all_map]
  rfl
abbrev ajz (K:aol):Sp:=spD K 3 ald fun c r=>r=.bool (jz c.1 c.2.2.1 c.2.2.2.1 c.2.2.2.2)
theorem am3 (F:Def K mg "has_high_middle" yz pq) (uaD:mg "sum"=none) (ua9:FnIn P w K mg base k "corners" pI (acF K)):FnIn P w K mg base (k+1) "has_high_middle" pq (ajz K):=by
 refine F.ok sc_has_high_middle rfl fun fa cdv A outer s H E hr=>⟨_,(zc (ya (pv 2) (zL (K:=K) (n:=2) rfl rfl (zh (zf (i:=3) sc_has_high_middle.nd rfl (Or.inl rfl) (Or.inr rfl)) (zh (zf (i:=4) sc_has_high_middle.nd rfl (Or.inl rfl) (Or.inr rfl)) zH)))) (zg (zt (yD alL (zA (afh (K:=K) rfl rfl) rfl uaD PyProof.Rows.boot_sum (za (ye (N:=pE) (own:=2) (fr:=[0]) ⟨rfl,by decide +kernel,of_decide_eq_true (by kernel_rfl),of_decide_eq_true (by kernel_rfl),of_decide_eq_true (by kernel_rfl),rfl⟩ rfl (zW (K:=K) rfl (zd ua9 hr rfl (za (pv 3) (za (pv 4) zb)))) (fun _ _ _ _=>(zL (K:=K) (n:=2) rfl rfl (zh (zf (i:=0) (show (pE:List Str).Nodup by decide +kernel) rfl (Or.inl rfl) (Or.inr rfl)) (zh (zf (i:=1) (show (pE:List Str).Nodup by decide +kernel) rfl (Or.inl rfl) (Or.inr rfl)) zH)))) (fun _ _ _ _=>y4) (fun _ _ _ _=>(zI (zz (K:=K) rfl) (zI (zz (K:=K) rfl) (pv 2) (pv 1) (fun _ _=>rfl)) (pv 0) (fun _ _=>rfl))) rfl rfl (fun _=>rfl)) zb)) (zw zY (zw vL ze (pv 1)) ze) (zQ _))))),?_⟩
 rintro f xs ⟨rows,wd,cut,x,y⟩ hl ⟨rfl,g,hc⟩
 try dsimp only [z5,zl]
 dsimp only at *
 obtain⟨i1,i2,i3,i4⟩:=cell_in hc
 refine z6 (zP (zm rfl (yt rfl (zo (zi (zo (zi (zT ?_))))))))
 refine yT (aiC (anC (PEdO.ped (agh (A:=fun p:Int×Int=>PyData.tuple [.int p.1,.int p.2]) (B:=fun p:Int×Int=>PyData.int (yJ rows p.1 p.2)) [(x,y),(x+1,y),(x+1,y+1),(x,y+1)] (yx (zp (x,y) ?_))))))
 walk_at "w"
 rintro _ rfl
 refine⟨_,rfl,rfl,show 4<=1000 by decide,?_,?_⟩
 ·rintro D p ρ' es hp ho hes
  obtain⟨u,v,rfl⟩:=ho.two
  have hi:zO rows wd p.1 p.2=true:=by
   simp only [aor,aph,or_false] at hp
   rcases hp with rfl | rfl | rfl | rfl
   ·exact i1
   ·exact i2
   ·exact i3
   ·exact i4
  obtain⟨r,h1,h2⟩:=aeH g hi
  refine yt rfl (zo (zi (zo (zi (zT (vF ?_))))))
  rw [if_pos rfl]
  refine yl hes ?_
  unfold tab
  walk_at "w"
  refine⟨_,h1,?_⟩
  walk_at "w"
  refine⟨_,h2,?_⟩
  exact⟨.mk2,rfl⟩
 ·refine⟨[yJ rows x y,yJ rows (x+1) y,yJ rows (x+1) (y+1),yJ rows x (y+1)],rfl,?_⟩
  walk_at "w"
  rfl
def ady (rows:List (List Int)) (cut x y:Int):List PyData:=if (hiB rows cut x y == jz rows cut x y)=true then [pairD (x,y,0) (x+1,y,1),pairD (x,y,1) (x,y+1,0)] else [pairD (x,y,0) (x,y,1),pairD (x,y+1,0) (x+1,y,1)]
def thr (rows:List (List Int)) (wd:Nat) (cut x y:Int):List (Int×Int×Int):=(cg x y).filter (opG rows wd cut)
def ajA:List (Int×Int×Int)->List PyData
 | a :: b :: _=>[pairD a b]
 | _=>[]
def agU (rows:List (List Int)) (wd:Nat) (cut x y:Int):List PyData:=if yN rows wd cut x y=true then ady rows cut x y else ajA (thr rows wd cut x y)
theorem ale {rows:List (List Int)} {wd:Nat} {cut x y:Int} (h:zD rows wd x y=true):thr rows wd cut x y=[] \/ ∃ a b r,thr rows wd cut x y=a :: b :: r:=by
 have e1:opG rows wd cut (x,y,0)=_:=aaX (cut:=cut) h
 have e2:opG rows wd cut (x,y,1)=_:=adw (cut:=cut) h
 have e3:opG rows wd cut (x,y+1,0)=_:=aaY (cut:=cut) h
 have e4:opG rows wd cut (x+1,y,1)=_:=aaZ (cut:=cut) h
 unfold thr cg
 simp only [ao0,e1,e2,e3,e4,arJ]
 cases hiB rows cut x y <;> cases hiB rows cut (x+1) y <;> cases hiB rows cut (x+1) (y+1) <;> cases hiB rows cut x (y+1) <;> simp
abbrev aeL (K:aol):Sp:=spN K 3 ald fun c es=>es=ady c.1 c.2.2.1 c.2.2.2.1 c.2.2.2.2
theorem ahY (F:Def K mg "crossed_ties" yU pq) (uat:FnIn P w K mg base k "cell_gates" ["cell"] (aal K)) (uac:FnIn P w K mg base k "stands_high" pA (vU K)) (uaE:FnIn P w K mg base k "has_high_middle" pq (ajz K)):FnIn P w K mg base (k+1) "crossed_ties" pq (aeL K):=by
 refine F.okN sc_crossed_ties rfl fun fa cdv A outer s H E hr=>⟨_,(zc (ya (zd uat hr rfl (za (pv 2) zb)) (ac0 (K:=K) (n:=4) rfl rfl (zh (zf (i:=3) sc_crossed_ties.nd rfl (Or.inl rfl) (Or.inr rfl)) (zh (zf (i:=4) sc_crossed_ties.nd rfl (Or.inl rfl) (Or.inr rfl)) (zh (zf (i:=5) sc_crossed_ties.nd rfl (Or.inl rfl) (Or.inr rfl)) (zh (zf (i:=6) sc_crossed_ties.nd rfl (Or.inl rfl) (Or.inr rfl)) zH)))))) (zc (yA (zJ (jT (K:=K) rfl hr.units) (zd uac hr rfl (za (pv 0) (za (pv 1) (za (pv 2) zb)))) (zd uaE hr rfl (za (pv 0) (za (pv 1) (za (pv 2) zb)))) (zQ _)) (zg (zt (yh (za (zC (za (pv 3) (za (pv 6) zb))) (za (zC (za (pv 4) (za (pv 5) zb))) zb))))) zV) (zg (zt (yh (za (zC (za (pv 3) (za (pv 4) zb))) (za (zC (za (pv 5) (za (pv 6) zb))) zb))))))),?_⟩
 rintro f xs ⟨rows,wd,cut,x,y⟩ hl ⟨rfl,g,hc⟩
 try dsimp only [z5,zl]
 dsimp only at *
 have hi:=(cell_in hc).1
 refine qG (zP (zp (x,y) ?_))
 walk_at "w"
 rintro _ rfl
 refine aiU rfl (zo (zi (zo (zi (zo (zi (zo (zi (zT ?_)))))))))
 refine alR (yq (jC (zp (rows,wd,cut,x,y) ?_)))
 walk_at "w"
 rintro _ rfl
 refine zp (rows,wd,cut,x,y) ?_
 walk_at "w"
 rintro _ rfl
 dsimp only
 walk_at "w"
 rw [if_neg aoi,aeG]
 unfold ady
 refine zS (fun h=>?_) fun h=>?_
 ·rw [if_pos (show (hiB rows cut x y == jz rows cut x y)=true from h)]
  refine abp ?_
  walk_at "w"
  rfl
 ·rw [if_neg (show ¬ (hiB rows cut x y == jz rows cut x y)=true from by rw [show (hiB rows cut x y == jz rows cut x y)=false from h];exact aoi)]
  refine acm (abp ?_)
  walk_at "w"
  rfl
abbrev agV (K:aol):Sp:=spN K 3 ald fun c es=>es=agU c.1 c.2.1 c.2.2.1 c.2.2.2.1 c.2.2.2.2
theorem ajB (F:Def K mg "cell_ties" jJ pq) (uaF:FnIn P w K mg base k "is_crossed" pq (aax K)) (uba:FnIn P w K mg base k "crossed_ties" pq (aeL K)) (uat:FnIn P w K mg base k "cell_gates" ["cell"] (aal K)) (uas:FnIn P w K mg base k "is_open" ph (adu K)):FnIn P w K mg base (k+1) "cell_ties" pq (agV K):=by
 refine F.okN sc_cell_ties rfl fun fa cdv A outer s H E hr=>⟨_,(zc (yA (z4 (K:=K) rfl (zd uaF hr rfl (za (pv 0) (za (pv 1) (za (pv 2) zb)))) (fun _=>rfl)) (zg (zt (zd uba hr rfl (za (pv 0) (za (pv 1) (za (pv 2) zb)))))) zV) (zc (qM (i:=3) (N:=pF) (own:=1) (fr:=[0,1]) ⟨rfl,by decide +kernel,of_decide_eq_true (by kernel_rfl),of_decide_eq_true (by kernel_rfl),of_decide_eq_true (by kernel_rfl),rfl⟩ rfl sc_cell_ties.nd rfl (Or.inl rfl) (zW (K:=K) rfl (zd uat hr rfl (za (pv 2) zb))) (fun _ _ _ _=>(zf (i:=0) (show (pF:List Str).Nodup by decide +kernel) rfl (Or.inl rfl) (Or.inr rfl))) (fun _ _ _ _=>(yS (z4 (K:=K) rfl (zd uas hr rfl (za (pv 1) (za (pv 2) (za (pv 0) zb)))) (fun _=>rfl)))) (fun _ _ _ _=>(pv 0)) rfl rfl (fun _=>rfl) (Or.inl rfl) rfl) (zg (zt (qK (z4 (K:=K) rfl (pv 3) (fun _=>rfl)) (yh (za (zC (za (zI (zz (K:=K) rfl) (pv 3) ze (fun _ _=>rfl)) (za (zI (zz (K:=K) rfl) (pv 3) ze (fun _ _=>rfl)) zb))) zb)) (yh zb)))))),?_⟩
 rintro f xs ⟨rows,wd,cut,x,y⟩ hl ⟨rfl,g,hc⟩
 try dsimp only [z5,zl]
 dsimp only at *
 refine alR (yH (zp (rows,wd,cut,x,y) ?_))
 walk_at "w"
 rintro _ rfl
 dsimp only
 refine⟨_,rfl,?_⟩
 unfold agU
 refine zS (fun h=>?_) fun h=>?_
 ·rw [if_pos h]
  refine jg (rows,wd,cut,x,y) ?_
  walk_at "w"
  exact fun es he=>he
 ·rw [if_neg (by rw [h];exact aoi)]
  refine qG (zP (PEdO.ped (qP (yx (zp (x,y) ?_)))))
  walk_at "w"
  rintro _ rfl
  refine⟨_,rfl,fun n ρ es=>(∃ u,ρ=[u,some (.dat (tab rows)),some (.dat (.int cut))])/\es=(((cg x y).take n).filter (opG rows wd cut)).map gD3,⟨⟨_,rfl⟩,rfl⟩,?_,?_⟩
  ·rintro D n d ρ' es hd ⟨⟨u,rfl⟩,rfl⟩
   rw [aoq] at hd
   cases hq:(cg x y)[n]? with
   | none=>rw [hq] at hd;cases hd
   | some q =>
    rw [hq] at hd
    cases hd
    have hn:n<(cg x y).length:=(aoh.mp hq).1
    have n4:n<4:=hn
    have tk:(cg x y).take (n+1)=(cg x y).take n++[q]:=by
     rw [aqI,hq]
     rfl
    have len:((((cg x y).take n).filter (opG rows wd cut)).map gD3).length<1000:=by
     rw [aog]
     have a1:=ao5 (opG rows wd cut) ((cg x y).take n)
     rw [aoX] at a1
     omega
    refine zi (yH (zp (rows,wd,cut,q.1,q.2.1,q.2.2) ?_))
    unfold gD3 at *
    walk_at "w"
    rintro _ rfl
    dsimp only
    refine⟨_,rfl,?_⟩
    refine zS (fun h=>?_) fun h=>?_
    ·refine yl len ?_
     walk_at "w"
     rw [tk,api,aoF,ao0,show opG rows wd cut q=true from h,if_pos rfl]
     rfl
    ·refine⟨⟨_,rfl⟩,?_⟩
     rw [tk,api,aoF,ao0,show opG rows wd cut q=false from h,if_neg aoi]
     simp
  ·rintro ρ' es ⟨_,rfl⟩
   rw [aog,aoZ]
   rw [show List.filter (opG rows wd cut) (cg (x,y).1 (x,y).2)=thr rows wd cut x y from rfl]
   rcases ale (cut:=cut) hc with e | ⟨a,b,r,e⟩
   ·rw [e]
    refine zi (acm (alS (yH (zm rfl ⟨false,rfl,?_⟩))))
    rw [if_neg aoi]
    exact aiQ rfl
   ·rw [e]
    have h0:atI ((a :: b :: r).map gD3) 0=some (gD3 a):=yL (xs:=a :: b :: r) (j:=0) rfl (aqD _)
    have h1:atI ((a :: b :: r).map gD3) 1=some (gD3 b):=yL (xs:=a :: b :: r) (j:=1) rfl (Nat.succ_lt_succ (aqD _))
    refine zi (acm (alS (yH (zm rfl ⟨true,rfl,?_⟩))))
    rw [if_pos rfl]
    refine abp ?_
    walk_at "w"
    refine⟨_,h0,?_⟩
    walk_at "w"
    refine⟨_,h1,?_⟩
    walk_at "w"
    rfl
def opF (A B C D:Bool) (i:Fin 4):Bool:=match i with
 | 0=>A != B
 | 1=>A != D
 | 2=>D != C
 | 3=>B != C
def enF (A B C D:Bool) (i:Fin 4):Bool:=match i with
 | 0=>!A
 | 1=>A
 | 2=>D
 | 3=>!B
def qT (A B C D M:Bool):List (Fin 4×Fin 4) :=
 if (opF A B C D 0 && opF A B C D 1 && opF A B C D 2 && opF A B C D 3)=true then (if (A == M)=true then [(0,3),(1,2)] else [(0,1),(2,3)]) else
 match ([0,1,2,3]:List (Fin 4)).filter (opF A B C D) with
 | a :: b :: _=>[(a,b)]
 | _=>[]
def prt {α:Type} [DecidableEq α] (l:List (α×α)) (g:α):Option α:=l.findSome? fun p=>if p.1=g then some p.2 else if p.2=g then some p.1 else none
theorem alf:∀ (A B C D M:Bool) (i:Fin 4),opF A B C D i=true->∃ j,prt (qT A B C D M) i=some j/\j≠i/\opF A B C D j=true/\prt (qT A B C D M) j=some i/\enF A B C D j=!enF A B C D i:=by decide
theorem aeM:∀ (A B C D M:Bool),qT A B C D M=[] \/ (∃ a b,a≠b/\qT A B C D M=[(a,b)]) \/ ∃ a b c d,a≠b/\a≠c/\a≠d/\b≠c/\b≠d/\c≠d/\qT A B C D M=[(a,b),(c,d)]:=by decide
abbrev Gt:=Int×Int×Int
def gt (x y:Int) (i:Fin 4):Gt:=match i with
 | 0=>(x,y,0)
 | 1=>(x,y,1)
 | 2=>(x,y+1,0)
 | 3=>(x+1,y,1)
theorem vV {x y:Int} {i j:Fin 4} (h:gt x y i=gt x y j):i=j:=by
 have h1:(gt x y i).1=(gt x y j).1:=by rw [h]
 have h2:(gt x y i).2.1=(gt x y j).2.1:=by rw [h]
 have h3:(gt x y i).2.2=(gt x y j).2.2:=by rw [h]
 revert h1 h2 h3
 clear h
 match i,j with
 | 0,0=>intros;rfl
 | 0,1=>intro _ _ h;simp [gt] at h
 | 0,2=>intro _ h _;simp [gt] at h;omega
 | 0,3=>intro _ _ h;simp [gt] at h
 | 1,0=>intro _ _ h;simp [gt] at h
 | 1,1=>intros;rfl
 | 1,2=>intro _ _ h;simp [gt] at h
 | 1,3=>intro h _ _;simp [gt] at h;omega
 | 2,0=>intro _ h _;simp [gt] at h;omega
 | 2,1=>intro _ _ h;simp [gt] at h
 | 2,2=>intros;rfl
 | 2,3=>intro _ _ h;simp [gt] at h
 | 3,0=>intro _ _ h;simp [gt] at h
 | 3,1=>intro h _ _;simp [gt] at h;omega
 | 3,2=>intro _ _ h;simp [gt] at h
 | 3,3=>intros;rfl
theorem aam {α β:Type} [DecidableEq α] [DecidableEq β] {f:α->β} (inj:∀ i j,f i=f j->i=j) (l:List (α×α)) (i:α):prt (l.map fun p=>(f p.1,f p.2)) (f i)=(prt l i).map f:=by
 unfold prt
 induction l with
 | nil=>rfl
 | cons p l ih =>
  rw [aoI,aqq,aqq]
  have e1:(f p.1=f i)↔p.1=i:=⟨inj _ _,fun z=>by rw [z]⟩
  have e2:(f p.2=f i)↔p.2=i:=⟨inj _ _,fun z=>by rw [z]⟩
  by_cases h1:p.1=i
  ·rw [if_pos h1,if_pos (e1.mpr h1)];rfl
  ·rw [if_neg h1,if_neg (fun z=>h1 (e1.mp z))]
   by_cases h2:p.2=i
   ·rw [if_pos h2,if_pos (e2.mpr h2)];rfl
   ·rw [if_neg h2,if_neg (fun z=>h2 (e2.mp z))];exact ih
section
variable (rows:List (List Int)) (wd:Nat) (cut:Int)
def t4 (x y:Int):List (Fin 4×Fin 4):=qT (hiB rows cut x y) (hiB rows cut (x+1) y) (hiB rows cut (x+1) (y+1)) (hiB rows cut x (y+1)) (jz rows cut x y)
def ji (x y:Int):List (Gt×Gt):=(t4 rows cut x y).map fun p=>(gt x y p.1,gt x y p.2)
def jt (w:Int) (h:Bool):Int×Int:=if w=0 then (if h=true then (0,-1) else (0,0)) else (if h=true then (0,0) else (-1,0))
def ju (w:Int) (h:Bool):Int×Int:=if w=0 then (if h=true then (0,0) else (0,-1)) else (if h=true then (-1,0) else (0,0))
def ahC (g:Gt):Int×Int:=(g.1+(jt g.2.2 (hiB rows cut g.1 g.2.1)).1,g.2.1+(jt g.2.2 (hiB rows cut g.1 g.2.1)).2)
def bhC (g:Gt):Int×Int:=(g.1+(ju g.2.2 (hiB rows cut g.1 g.2.1)).1,g.2.1+(ju g.2.2 (hiB rows cut g.1 g.2.1)).2)
def z3 (g:Gt):Option Gt:=if zD rows wd (ahC rows cut g).1 (ahC rows cut g).2=true then prt (ji rows cut (ahC rows cut g).1 (ahC rows cut g).2) g else none
def yo (g:Gt):Option Gt:=if zD rows wd (bhC rows cut g).1 (bhC rows cut g).2=true then prt (ji rows cut (bhC rows cut g).1 (bhC rows cut g).2) g else none
end
section
variable {rows:List (List Int)} {wd:Nat} {cut x y:Int}
theorem qU (h:zD rows wd x y=true) (i:Fin 4):opG rows wd cut (gt x y i)=opF (hiB rows cut x y) (hiB rows cut (x+1) y) (hiB rows cut (x+1) (y+1)) (hiB rows cut x (y+1)) i:=by
 match i with
 | 0=>exact aaX h
 | 1=>exact adw h
 | 2=>exact aaY h
 | 3=>exact aaZ h
theorem aaI (i:Fin 4):(ahC rows cut (gt x y i)=(x,y)↔enF (hiB rows cut x y) (hiB rows cut (x+1) y) (hiB rows cut (x+1) (y+1)) (hiB rows cut x (y+1)) i=true)/\(bhC rows cut (gt x y i)=(x,y)↔enF (hiB rows cut x y) (hiB rows cut (x+1) y) (hiB rows cut (x+1) (y+1)) (hiB rows cut x (y+1)) i=false):=by
 unfold ahC bhC
 match i with
 | 0 =>
  show ((x+(jt 0 (hiB rows cut x y)).1,y+(jt 0 (hiB rows cut x y)).2)=(x,y)↔(!hiB rows cut x y)=true)/\((x+(ju 0 (hiB rows cut x y)).1,y+(ju 0 (hiB rows cut x y)).2)=(x,y)↔(!hiB rows cut x y)=false)
  cases hiB rows cut x y <;> simp [jt,ju] <;> omega
 | 1 =>
  show ((x+(jt 1 (hiB rows cut x y)).1,y+(jt 1 (hiB rows cut x y)).2)=(x,y)↔hiB rows cut x y=true)/\((x+(ju 1 (hiB rows cut x y)).1,y+(ju 1 (hiB rows cut x y)).2)=(x,y)↔hiB rows cut x y=false)
  cases hiB rows cut x y <;> simp [jt,ju] <;> omega
 | 2 =>
  show ((x+(jt 0 (hiB rows cut x (y+1))).1,y+1+(jt 0 (hiB rows cut x (y+1))).2)=(x,y)↔hiB rows cut x (y+1)=true)/\((x+(ju 0 (hiB rows cut x (y+1))).1,y+1+(ju 0 (hiB rows cut x (y+1))).2)=(x,y)↔hiB rows cut x (y+1)=false)
  cases hiB rows cut x (y+1) <;> simp [jt,ju] <;> omega
 | 3 =>
  show ((x+1+(jt 1 (hiB rows cut (x+1) y)).1,y+(jt 1 (hiB rows cut (x+1) y)).2)=(x,y)↔(!hiB rows cut (x+1) y)=true)/\((x+1+(ju 1 (hiB rows cut (x+1) y)).1,y+(ju 1 (hiB rows cut (x+1) y)).2)=(x,y)↔(!hiB rows cut (x+1) y)=false)
  cases hiB rows cut (x+1) y <;> simp [jt,ju] <;> omega
theorem agW (h:zD rows wd x y=true) {i:Fin 4} (o:opG rows wd cut (gt x y i)=true):∃ j,prt (ji rows cut x y) (gt x y i)=some (gt x y j)/\j≠i/\opG rows wd cut (gt x y j)=true/\prt (ji rows cut x y) (gt x y j)=some (gt x y i) /\
  (ahC rows cut (gt x y i)=(x,y)->bhC rows cut (gt x y j)=(x,y))/\(bhC rows cut (gt x y i)=(x,y)->ahC rows cut (gt x y j)=(x,y)):=by
 rw [qU h] at o
 obtain⟨j,h1,h2,h3,h4,h5⟩:=alf _ _ _ _ (jz rows cut x y) i o
 have inj:∀ i j,gt x y i=gt x y j->i=j:=fun _ _=>vV
 refine⟨j,?_,h2,by rw [qU h];exact h3,?_,fun z=>?_,fun z=>?_⟩
 ·unfold ji t4
  rw [aam inj,h1]
  rfl
 ·unfold ji t4
  rw [aam inj,h4]
  rfl
 ·rw [(aaI j).2,h5,(aaI i).1.mp z]
  rfl
 ·rw [(aaI j).1,h5,(aaI i).2.mp z]
  rfl
theorem aeN (g:Gt) (hw:g.2.2=0 \/ g.2.2=1):∃ i,g=gt (ahC rows cut g).1 (ahC rows cut g).2 i:=by
 obtain⟨x,y,w⟩:=g
 unfold ahC
 dsimp only at hw ⊢
 rcases hw with rfl | rfl
 ·cases hiB rows cut x y
  ·exact⟨0,by simp [jt,gt]⟩
  ·exact⟨2,by simp [jt,gt];omega⟩
 ·cases hiB rows cut x y
  ·exact⟨3,by simp [jt,gt];omega⟩
  ·exact⟨1,by simp [jt,gt]⟩
theorem ahZ (g:Gt) (hw:g.2.2=0 \/ g.2.2=1):∃ i,g=gt (bhC rows cut g).1 (bhC rows cut g).2 i:=by
 obtain⟨x,y,w⟩:=g
 unfold bhC
 dsimp only at hw ⊢
 rcases hw with rfl | rfl
 ·cases hiB rows cut x y
  ·exact⟨2,by simp [ju,gt];omega⟩
  ·exact⟨0,by simp [ju,gt]⟩
 ·cases hiB rows cut x y
  ·exact⟨1,by simp [ju,gt]⟩
  ·exact⟨3,by simp [ju,gt];omega⟩
theorem qV {g:Gt} (o:opG rows wd cut g=true):g.2.2=0 \/ g.2.2=1:=by
 unfold opG yu qI at o
 rw [aoo,aoo] at o
 exact of_decide_eq_true o.1.1
theorem vk {g:Gt} (o:opG rows wd cut g=true) (h:zD rows wd (ahC rows cut g).1 (ahC rows cut g).2=true):∃ n,z3 rows wd cut g=some n/\n≠g/\opG rows wd cut n=true/\bhC rows cut n=ahC rows cut g/\yo rows wd cut n=some g:=by
 obtain⟨i,ei⟩:=aeN (rows:=rows) (cut:=cut) g (qV o)
 have o':=o
 rw [ei] at o'
 obtain⟨j,h1,h2,h3,h4,h5,_⟩:=agW h o'
 rw [<-ei] at h1 h4 h5
 have hb:=h5 rfl
 refine⟨gt (ahC rows cut g).1 (ahC rows cut g).2 j,?_,fun z=>h2 (vV (z.trans ei)),h3,hb,?_⟩
 ·unfold z3
  rw [if_pos h]
  exact h1
 ·unfold yo
  rw [hb,if_pos h]
  exact h4
theorem aa0 {g:Gt} (o:opG rows wd cut g=true) (h:zD rows wd (bhC rows cut g).1 (bhC rows cut g).2=true):∃ n,yo rows wd cut g=some n/\n≠g/\opG rows wd cut n=true/\ahC rows cut n=bhC rows cut g/\z3 rows wd cut n=some g:=by
 obtain⟨i,ei⟩:=ahZ (rows:=rows) (cut:=cut) g (qV o)
 have o':=o
 rw [ei] at o'
 obtain⟨j,h1,h2,h3,h4,_,h5⟩:=agW h o'
 rw [<-ei] at h1 h4 h5
 have hb:=h5 rfl
 refine⟨gt (bhC rows cut g).1 (bhC rows cut g).2 j,?_,fun z=>h2 (vV (z.trans ei)),h3,hb,?_⟩
 ·unfold yo
  rw [if_pos h]
  exact h1
 ·unfold z3
  rw [hb,if_pos h]
  exact h4
theorem abF {g g' n:Gt} (o:opG rows wd cut g=true) (o':opG rows wd cut g'=true) (h:z3 rows wd cut g=some n) (h':z3 rows wd cut g'=some n):g=g':=by
 have c:zD rows wd (ahC rows cut g).1 (ahC rows cut g).2=true:=by
  unfold z3 at h
  by_cases z:zD rows wd (ahC rows cut g).1 (ahC rows cut g).2=true
  ·exact z
  ·rw [if_neg z] at h;cases h
 have c':zD rows wd (ahC rows cut g').1 (ahC rows cut g').2=true:=by
  unfold z3 at h'
  by_cases z:zD rows wd (ahC rows cut g').1 (ahC rows cut g').2=true
  ·exact z
  ·rw [if_neg z] at h';cases h'
 obtain⟨m,a1,_,_,_,a2⟩:=vk o c
 obtain⟨m',b1,_,_,_,b2⟩:=vk o' c'
 rw [h] at a1
 rw [h'] at b1
 cases a1
 cases b1
 rw [a2] at b2
 exact Option.some.inj b2
theorem aay {g n:Gt} (o:opG rows wd cut g=true) (h:z3 rows wd cut g=some n):opG rows wd cut n=true/\n≠g:=by
 have c:zD rows wd (ahC rows cut g).1 (ahC rows cut g).2=true:=by
  unfold z3 at h
  by_cases z:zD rows wd (ahC rows cut g).1 (ahC rows cut g).2=true
  ·exact z
  ·rw [if_neg z] at h;cases h
 obtain⟨m,a1,a2,a3,_,_⟩:=vk o c
 rw [h] at a1
 cases a1
 exact⟨a3,a2⟩
end
abbrev afC (K:aol):Sp:=spD K 3 (fun (c:List (List Int)×Nat×Int×Int×Int×Int) xs=>xs=[.dat (tab c.1),.dat (.int c.2.2.1),.dat (jN c.2.2.2.1 c.2.2.2.2.1 c.2.2.2.2.2)]/\Good c.2.1 c.1/\zO c.1 c.2.1 c.2.2.2.1 c.2.2.2.2.1=true) fun c r=>r=.str (acB c.1 c.2.2.1 c.2.2.2.1 c.2.2.2.2.1 c.2.2.2.2.2)
theorem afD (F:Def K mg "heading" ve ph) (uac:FnIn P w K mg base k "stands_high" pA (vU K)):FnIn P w K mg base (k+1) "heading" ph (afC K):=by
 refine F.ok sc_heading rfl fun fa cdv A outer s H E hr=>⟨_,(zc (ya (pv 2) (zL (K:=K) (n:=3) rfl rfl (zh (zf (i:=3) sc_heading.nd rfl (Or.inl rfl) (Or.inr rfl)) (zh (zf (i:=4) sc_heading.nd rfl (Or.inl rfl) (Or.inr rfl)) (zh (zf (i:=5) sc_heading.nd rfl (Or.inl rfl) (Or.inr rfl)) zH))))) (zc (zB (i:=6) sc_heading.nd rfl (Or.inl rfl) (zd uac hr rfl (za (pv 0) (za (pv 1) (za (zC (za (pv 3) (za (pv 4) zb))) zb))))) (zc (yA (zJ (jT (K:=K) rfl hr.units) (pv 5) ze (zQ _)) (zg (zt (qK (z4 (K:=K) rfl (pv 6) (fun _=>rfl)) jQ jQ))) zV) (zg (zt (qK (z4 (K:=K) rfl (pv 6) (fun _=>rfl)) jQ jQ)))))),?_⟩
 rintro f xs ⟨rows,wd,cut,x,y,w⟩ hl ⟨rfl,g,hi⟩
 try dsimp only [z5,zl]
 dsimp only at *
 unfold jN
 refine z6 (zP (zm rfl (yt rfl (zo (zi (zo (zi (zo (zi (zT ?_))))))))))
 refine z6 (zP (zp (rows,wd,cut,x,y) ?_))
 walk_at "w"
 rintro _ rfl
 dsimp only
 walk_at "w"
 rw [if_neg aoi,aak]
 unfold acB
 refine zS (fun h=>?_) fun h=>?_
 ·have h':=of_decide_eq_true h
  rw [if_pos h']
  walk_at "w"
  refine zS (fun h2=>?_) fun h2=>?_
  ·walk_at "w"
   rw [if_pos (of_decide_eq_true h2)]
  ·walk_at "w"
   rw [if_neg (of_decide_eq_false h2)]
 ·have h':=of_decide_eq_false h
  rw [if_neg h']
  walk_at "w"
  refine zS (fun h2=>?_) fun h2=>?_
  ·walk_at "w"
   rw [if_pos (of_decide_eq_true h2)]
  ·walk_at "w"
   rw [if_neg (of_decide_eq_false h2)]
abbrev am4:List (Str×List Int):=[("down",[0,0]),("up",[0,-1]),("right",[0,0]),("left",[-1,0])]
abbrev ajC:List (Str×List Int):=[("down",[0,-1]),("up",[0,0]),("right",[-1,0]),("left",[0,0])]
theorem am5 {rows:List (List Int)} {cut x y w:Int} (hw:w=0 \/ w=1):arS (acB rows cut x y w) am4=some [(jt w (hiB rows cut x y)).1,(jt w (hiB rows cut x y)).2]:=by
 unfold acB jt hiB
 rcases hw with rfl | rfl
 ·by_cases h:cut<yJ rows x y
  ·rw [if_pos rfl,if_pos h,if_pos rfl,decide_eq_true h,if_pos rfl];decide +kernel
  ·rw [if_pos rfl,if_neg h,if_pos rfl,decide_eq_false h,if_neg aoi];decide +kernel
 ·have e:¬ ((1:Int)=0):=by decide
  by_cases h:cut<yJ rows x y
  ·rw [if_neg e,if_pos h,if_neg e,decide_eq_true h,if_pos rfl];decide +kernel
  ·rw [if_neg e,if_neg h,if_neg e,decide_eq_false h,if_neg aoi];decide +kernel
theorem am6 {rows:List (List Int)} {cut x y w:Int} (hw:w=0 \/ w=1):arS (acB rows cut x y w) ajC=some [(ju w (hiB rows cut x y)).1,(ju w (hiB rows cut x y)).2]:=by
 unfold acB ju hiB
 rcases hw with rfl | rfl
 ·by_cases h:cut<yJ rows x y
  ·rw [if_pos rfl,if_pos h,if_pos rfl,decide_eq_true h,if_pos rfl];decide +kernel
  ·rw [if_pos rfl,if_neg h,if_pos rfl,decide_eq_false h,if_neg aoi];decide +kernel
 ·have e:¬ ((1:Int)=0):=by decide
  by_cases h:cut<yJ rows x y
  ·rw [if_neg e,if_pos h,if_neg e,decide_eq_true h,if_pos rfl];decide +kernel
  ·rw [if_neg e,if_neg h,if_neg e,decide_eq_false h,if_neg aoi];decide +kernel
theorem ajD {rows:List (List Int)} {wd:Nat} {cut:Int} {g:Gt} (o:opG rows wd cut g=true):zO rows wd g.1 g.2.1=true:=by
 unfold opG yu qI at o
 rw [aoo,aoo,aoo] at o
 exact o.1.2.1
abbrev GO:=List (List Int)×Nat×Int×Gt
abbrev alg (c:GO) (xs:List DV):Prop:=xs=[.dat (tab c.1),.dat (.int c.2.2.1),.dat (gD3 c.2.2.2)]/\Good c.2.1 c.1/\opG c.1 c.2.1 c.2.2.1 c.2.2.2=true
abbrev aeO (K:aol):Sp:=spD K 3 alg fun c r=>r=.tuple [.int (ahC c.1 c.2.2.1 c.2.2.2).1,.int (ahC c.1 c.2.2.1 c.2.2.2).2]
theorem ah0 {uau:Addr} (F:Def K mg "cell_ahead" jn ph) (uaG:mg "AHEAD"=some (.ref uau)) (uav:ahG K uau am4=true) (uaH:FnIn P w K mg base k "heading" ph (afC K)):FnIn P w K mg base (k+1) "cell_ahead" ph (aeO K):=by
 refine F.ok sc_cell_ahead rfl fun fa cdv A outer s H E hr=>⟨_,(zc (ya (ajl (K:=K) rfl rfl uaG uav (zd uaH hr rfl (za (pv 0) (za (pv 1) (za (pv 2) zb)))) (fun _ _=>rfl)) (zL (K:=K) (n:=2) rfl rfl (zh (zf (i:=3) sc_cell_ahead.nd rfl (Or.inl rfl) (Or.inr rfl)) (zh (zf (i:=4) sc_cell_ahead.nd rfl (Or.inl rfl) (Or.inr rfl)) zH)))) (zg (zt (zC (za (zw zY (zI (yf (K:=K) rfl) (pv 2) ze (fun _ _=>rfl)) (pv 3)) (za (zw zY (zI (yf (K:=K) rfl) (pv 2) ze (fun _ _=>rfl)) (pv 4)) zb)))))),?_⟩
 rintro f xs ⟨rows,wd,cut,x,y,w⟩ hl ⟨rfl,g,o⟩
 try dsimp only [z5,zl]
 dsimp only at *
 have hw:=qV o
 have hin:=ajD o
 refine z6 (zP (alW (zp (rows,wd,cut,x,y,w) ?_)))
 unfold gD3 at *
 walk_at "w"
 rintro _ rfl
 refine⟨_,_,rfl,am5 hw,?_⟩
 refine yt rfl (zo (zi (zo (zi (zT ?_)))))
 walk_at "w"
 rfl
abbrev agX (K:aol):Sp:=spD K 3 alg fun c r=>r=.bool (!zD c.1 c.2.1 (bhC c.1 c.2.2.1 c.2.2.2).1 (bhC c.1 c.2.2.1 c.2.2.2).2)
theorem ajE {uaw:Addr} (F:Def K mg "comes_in" qz ph) (uaI:mg "BEHIND"=some (.ref uaw)) (uax:ahG K uaw ajC=true) (uaH:FnIn P w K mg base k "heading" ph (afC K)) (uay:FnIn P w K mg base k "has_cell" pj (adx K)):FnIn P w K mg base (k+1) "comes_in" ph (agX K):=by
 refine F.ok sc_comes_in rfl fun fa cdv A outer s H E hr=>⟨_,(zc (ya (ajl (K:=K) rfl rfl uaI uax (zd uaH hr rfl (za (pv 0) (za (pv 1) (za (pv 2) zb)))) (fun _ _=>rfl)) (zL (K:=K) (n:=2) rfl rfl (zh (zf (i:=3) sc_comes_in.nd rfl (Or.inl rfl) (Or.inr rfl)) (zh (zf (i:=4) sc_comes_in.nd rfl (Or.inl rfl) (Or.inr rfl)) zH)))) (zg (zt (al9 (zd uay hr rfl (za (pv 0) (za (zw zY (zI (yf (K:=K) rfl) (pv 2) ze (fun _ _=>rfl)) (pv 3)) (za (zw zY (zI (yf (K:=K) rfl) (pv 2) ze (fun _ _=>rfl)) (pv 4)) zb)))))))),?_⟩
 rintro f xs ⟨rows,wd,cut,x,y,w⟩ hl ⟨rfl,g,o⟩
 try dsimp only [z5,zl]
 dsimp only at *
 have hw:=qV o
 have hin:=ajD o
 refine z6 (zP (alW (zp (rows,wd,cut,x,y,w) ?_)))
 unfold gD3 at *
 walk_at "w"
 rintro _ rfl
 refine⟨_,_,rfl,am6 hw,?_⟩
 refine yt rfl (zo (zi (zo (zi (zT ?_)))))
 walk_at "w"
 refine zp (rows,wd,(bhC rows cut (x,y,w)).1,(bhC rows cut (x,y,w)).2) ?_
 walk_at "w"
 rintro _ rfl
 exact⟨_,rfl,rfl⟩
noncomputable def vI:List (Gt×Gt)->List (PyData×PyData)->List (PyData×PyData)
 | [],kvs=>kvs
 | p :: l,kvs=>vI l (dput (gD3 p.2) (gD3 p.1) (dput (gD3 p.1) (gD3 p.2) kvs))
theorem afE (l:List (Gt×Gt)) (p:Gt×Gt):∀ kvs,vI (l++[p]) kvs=dput (gD3 p.2) (gD3 p.1) (dput (gD3 p.1) (gD3 p.2) (vI l kvs)):=by
 induction l with
 | nil=>intro kvs;rfl
 | cons q l ih=>intro kvs;exact ih _
theorem abG (a b:PyData) (kvs:List (PyData×PyData)):(dput a b kvs).length<=kvs.length+1:=by
 unfold dput
 split
 ·rw [aog];omega
 ·rw [aox];exact aop _
theorem ah1 (l:List (Gt×Gt)):∀ kvs,(vI l kvs).length<=kvs.length+2 * l.length:=by
 induction l with
 | nil=>intro kvs;exact aop _
 | cons q l ih =>
  intro kvs
  have h1:=ih (dput (gD3 q.2) (gD3 q.1) (dput (gD3 q.1) (gD3 q.2) kvs))
  have h2:=abG (gD3 q.2) (gD3 q.1) (dput (gD3 q.1) (gD3 q.2) kvs)
  have h3:=abG (gD3 q.1) (gD3 q.2) kvs
  show (vI l _).length<=_
  rw [aoE]
  omega
theorem adz {a b:Gt} (h:gD3 a=gD3 b):a=b:=by
 obtain⟨x,y,w⟩:=a
 obtain⟨x',y',w'⟩:=b
 unfold gD3 jN at h
 simp at h
 simp [h]
theorem ajF {rows:List (List Int)} {wd:Nat} {cut x y:Int} (h:zD rows wd x y=true):agU rows wd cut x y=(ji rows cut x y).map fun p=>pairD p.1 p.2:=by
 have e0:opG rows wd cut (x,y,0)=_:=qU (cut:=cut) h 0
 have e1:opG rows wd cut (x,y,1)=_:=qU (cut:=cut) h 1
 have e2:opG rows wd cut (x,y+1,0)=_:=qU (cut:=cut) h 2
 have e3:opG rows wd cut (x+1,y,1)=_:=qU (cut:=cut) h 3
 unfold agU ji t4 yN ady thr cg qT
 simp only [aqP,ar9,ao0,arJ,e0,e1,e2,e3,aru]
 generalize jz rows cut x y=M
 generalize hiB rows cut x y=A
 generalize hiB rows cut (x+1) y=B
 generalize hiB rows cut (x+1) (y+1)=C
 generalize hiB rows cut x (y+1)=D
 cases A <;> cases B <;> cases C <;> cases D <;> cases M <;> rfl
theorem ajG {rows:List (List Int)} {cut x y:Int} {g n:Gt} (h:prt (ji rows cut x y) g=some n):jh (gD3 g) (vI (ji rows cut x y) [])=some (gD3 n):=by
 have key:∀ a b:Gt,a≠b->gD3 a≠gD3 b:=fun a b ne z=>ne (adz z)
 have inj:∀ i j:Fin 4,i≠j->gt x y i≠gt x y j:=fun i j ne z=>ne (vV z)
 unfold ji t4 at h ⊢
 rcases aeM (hiB rows cut x y) (hiB rows cut (x+1) y) (hiB rows cut (x+1) (y+1)) (hiB rows cut x (y+1)) (jz rows cut x y) with e | ⟨a,b,n1,e⟩ | ⟨a,b,c,d,n1,n2,n3,n4,n5,n6,e⟩
 ·rw [e] at h;cases h
 ·rw [e] at h ⊢
  have k1:=key _ _ (inj a b n1)
  have k1':=apC k1
  simp only [aoI,aq2,vI] at h ⊢
  unfold prt at h
  simp only [aqq,List.findSome?_nil] at h
  by_cases c1:gt x y a=g
  ·rw [if_pos c1] at h
   cases h
   simp [dput,jh,k1,k1',<- c1]
  ·rw [if_neg c1] at h
   by_cases c2:gt x y b=g
   ·rw [if_pos c2] at h
    cases h
    simp [dput,jh,k1,k1',<- c2]
   ·rw [if_neg c2] at h;cases h
 ·rw [e] at h ⊢
  have k1:=key _ _ (inj a b n1)
  have k2:=key _ _ (inj a c n2)
  have k3:=key _ _ (inj a d n3)
  have k4:=key _ _ (inj b c n4)
  have k5:=key _ _ (inj b d n5)
  have k6:=key _ _ (inj c d n6)
  have j1:=apC k1
  have j2:=apC k2
  have j3:=apC k3
  have j4:=apC k4
  have j5:=apC k5
  have j6:=apC k6
  simp only [aoI,aq2,vI] at h ⊢
  unfold prt at h
  simp only [aqq,List.findSome?_nil] at h
  by_cases c1:gt x y a=g
  ·rw [if_pos c1] at h
   cases h
   simp [dput,jh,k1,k2,k3,k4,k5,k6,j1,j2,j3,j4,j5,j6,<- c1]
  ·rw [if_neg c1] at h
   by_cases c2:gt x y b=g
   ·rw [if_pos c2] at h
    cases h
    simp [dput,jh,k1,k2,k3,k4,k5,k6,j1,j2,j3,j4,j5,j6,<- c2]
   ·rw [if_neg c2] at h
    by_cases c3:gt x y c=g
    ·rw [if_pos c3] at h
     cases h
     simp [dput,jh,k1,k2,k3,k4,k5,k6,j1,j2,j3,j4,j5,j6,<- c3]
    ·rw [if_neg c3] at h
     by_cases c4:gt x y d=g
     ·rw [if_pos c4] at h
      cases h
      simp [dput,jh,k1,k2,k3,k4,k5,k6,j1,j2,j3,j4,j5,j6,<- c4]
     ·rw [if_neg c4] at h;cases h
def adA:Option Gt->PyData
 | none=>.none
 | some g=>gD3 g
abbrev ajH (K:aol):Sp:=spD K 3 alg fun c r=>r=adA (z3 c.1 c.2.1 c.2.2.1 c.2.2.2)
theorem qW (g:Gt):abX (gD3 g):=⟨⟨rfl,aoS rfl⟩,_,rfl⟩
theorem alh (F:Def K mg "gate_ahead" jo ph) (ubb:FnIn P w K mg base k "cell_ahead" ph (aeO K)) (uay:FnIn P w K mg base k "has_cell" pj (adx K)) (ubc:FnIn P w K mg base k "cell_ties" pq (agV K)) :
  FnIn P w K mg base (k+1) "gate_ahead" ph (ajH K):=by
 refine F.ok sc_gate_ahead rfl fun fa cdv A outer s H E hr=>⟨_,(zc (ya (zd ubb hr rfl (za (pv 0) (za (pv 1) (za (pv 2) zb)))) (zL (K:=K) (n:=2) rfl rfl (zh (zf (i:=3) sc_gate_ahead.nd rfl (Or.inl rfl) (Or.inr rfl)) (zh (zf (i:=4) sc_gate_ahead.nd rfl (Or.inl rfl) (Or.inr rfl)) zH)))) (zc (yA (aa6 (z4 (K:=K) rfl (zd uay hr rfl (za (pv 0) (za (pv 3) (za (pv 4) zb)))) (fun _=>rfl))) (zg (zt ae5)) zV) (zc (zB (i:=5) sc_gate_ahead.nd rfl (Or.inl rfl) (acw (w:=w) rfl)) (zc (yB aoT rfl (zW (K:=K) rfl (zd ubc hr rfl (za (pv 0) (za (pv 1) (za (zC (za (pv 3) (za (pv 4) zb))) zb))))) (zL (K:=K) (n:=2) rfl rfl (zh (zf (i:=6) sc_gate_ahead.nd rfl (Or.inl rfl) (Or.inr rfl)) (zh (zf (i:=7) sc_gate_ahead.nd rfl (Or.inl rfl) (Or.inr rfl)) zH))) (zc (ya (pv 7) (aan (pv 5) (pv 6) (aad (w:=w) (K:=K) rfl rfl hr.units))) (zg (ya (pv 6) (aan (pv 5) (pv 7) (aad (w:=w) (K:=K) rfl rfl hr.units)))))) (zg (zt (zI (aae (w:=w) (K:=K) rfl rfl hr.units) (pv 5) (pv 2) (fun _ _=>rfl)))))))),?_⟩
 rintro f xs ⟨rows,wd,cut,g⟩ hl ⟨rfl,gd,o⟩
 try dsimp only [z5,zl]
 dsimp only at *
 refine z6 (zP (zp (rows,wd,cut,g) ?_))
 walk_at "w"
 rintro _ rfl
 dsimp only
 refine yt rfl (zo (zi (zo (zi (zT ?_)))))
 refine z6 (abW (ad4 (yH (zp (rows,wd,(ahC rows cut g).1,(ahC rows cut g).2) ?_))))
 walk_at "w"
 rintro _ rfl
 refine⟨_,rfl,?_⟩
 dsimp only
 refine zS (fun h=>?_) fun h=>?_
 ·have hc:zD rows wd (ahC rows cut g).1 (ahC rows cut g).2=false:=by simpa using h
  walk_at "w"
  unfold z3
  rw [hc,if_neg aoi]
  rfl
 ·have hc:zD rows wd (ahC rows cut g).1 (ahC rows cut g).2=true:=by simpa using h
  obtain⟨n,hn,_⟩:=vk o hc
  have hp:prt (ji rows cut (ahC rows cut g).1 (ahC rows cut g).2) g=some n:=by
   unfold z3 at hn
   rw [if_pos hc] at hn
   exact hn
  have tl:(ji rows cut (ahC rows cut g).1 (ahC rows cut g).2).length<=2:=by
   unfold ji t4
   rw [aog]
   rcases aeM (hiB rows cut (ahC rows cut g).1 (ahC rows cut g).2) (hiB rows cut ((ahC rows cut g).1+1) (ahC rows cut g).2) (hiB rows cut ((ahC rows cut g).1+1) ((ahC rows cut g).2+1)) (hiB rows cut (ahC rows cut g).1 ((ahC rows cut g).2+1)) (jz rows cut (ahC rows cut g).1 (ahC rows cut g).2) with e | ⟨a,b,n1,e⟩ | ⟨a,b,c,d,n1,n2,n3,n4,n5,n6,e⟩ <;> rw [e] <;> simp
  refine vC (afm (w:=w) (agE (ajk ⟨show 5<8 by decide,fun D=>?_⟩)))
  refine vH (qR (yx (PEdO.ped (jg (rows,wd,cut,(ahC rows cut g).1,(ahC rows cut g).2) ?_))))
  walk_at "w"
  rintro _ rfl
  dsimp only
  rw [ajF hc]
  refine⟨_,rfl,fun i ρ cs=>(∃ u v,ρ=[some (.dat (tab rows)),some (.dat (.int cut)),some (.dat (gD3 g)),some (.dat (.int (ahC rows cut g).1)),some (.dat (.int (ahC rows cut g).2)),some (.own (f.M.length+0)),u,v])/\cs=[.dic (vI ((ji rows cut (ahC rows cut g).1 (ahC rows cut g).2).take i) [])],⟨⟨_,_,rfl⟩,rfl⟩,?_,?_⟩
  ·rintro i d _ _ hd ⟨⟨u,v,rfl⟩,rfl⟩
   rw [aoq] at hd
   cases hq:(ji rows cut (ahC rows cut g).1 (ahC rows cut g).2)[i]? with
   | none=>rw [hq] at hd;cases hd
   | some q =>
    rw [hq] at hd
    cases hd
    have tk:(ji rows cut (ahC rows cut g).1 (ahC rows cut g).2).take (i+1)=(ji rows cut (ahC rows cut g).1 (ahC rows cut g).2).take i++[q]:=by
     rw [aqI,hq]
     rfl
    have hl:=ah1 ((ji rows cut (ahC rows cut g).1 (ahC rows cut g).2).take i) []
    rw [aoX] at hl
    simp only [apT] at hl
    refine yt rfl (zo (zi (zo (zi (zT ?_)))))
    refine vH (agK (i:=5) (j:=0) rfl rfl (by omega) ?_)
    walk_at "w"
    refine⟨qW _,?_⟩
    have hl2:=abG (gD3 q.1) (gD3 q.2) (vI ((ji rows cut (ahC rows cut g).1 (ahC rows cut g).2).take i) [])
    refine agK (i:=5) (j:=0) rfl rfl (by omega) ?_
    walk_at "w"
    refine⟨qW _,⟨_,_,rfl⟩,?_⟩
    rw [tk,afE]
    rfl
  ·rintro _ _ ⟨⟨u,v,rfl⟩,rfl⟩
   rw [aog,aoZ]
   refine alV (anG (i:=5) (j:=0) rfl rfl (aab (zm rfl ⟨qW _,_,ajG hp,?_⟩)))
   show gD3 n=adA (z3 rows wd cut g)
   rw [hn]
   rfl
theorem agY {α:Type} [DecidableEq α]:∀ (l m:List α),l.Nodup->(∀ x∈l,x∈m)->m.length<=l.length->∀ x∈m,x∈l
 | [],m,_,_,hl,x,hx=>by
  have:m=[]:=List.length_eq_zero_iff.mp (Nat.le_zero.mp hl)
  rw [this] at hx
  exact hx
 | a :: l,m,nd,sub,hl,x,hx=>by
  have ha:=sub a (aom ..)
  have hn:=ao7.mp nd
  have le:=aqu ha
  rw [aoE] at hl
  by_cases e:x=a
  ·rw [e];exact aom ..
  ·refine aon _ (agY l (m.erase a) hn.2 (fun y hy=>?_) (by omega) x ((aqj e).mpr hx))
   exact (aqj (fun (z:y=a)=>hn.1 (z▸hy))).mpr (sub y (aon _ hy))
theorem len_sub {α:Type} [DecidableEq α]:∀ (l m:List α),l.Nodup->(∀ x∈l,x∈m)->l.length<=m.length
 | [],m,_,_=>ao2 _
 | a :: l,m,nd,sub=>by
  have ha:=sub a (aom ..)
  have hn:=ao7.mp nd
  have le:=aqu ha
  have hp:0<m.length:=aqa ha
  have:=len_sub l (m.erase a) hn.2 (fun y hy=>(aqj (fun (z:y=a)=>hn.1 (z▸hy))).mpr (sub y (aon _ hy)))
  rw [aoE]
  omega
theorem qv {α β:Type} {f:α->β} {l1 l2:List β} (h:l1.Perm l2):∀ ts:List α,l2=ts.map f->∃ us:List α,us.Perm ts/\l1=us.map f:=by
 induction h with
 | nil=>intro ts e;exact⟨ts,.refl _,e⟩
 | cons x _ ih =>
  intro ts e
  cases ts with
  | nil=>cases e
  | cons t ts =>
   rw [aoI] at e
   injection e with e1 e2
   obtain⟨us,p,q⟩:=ih ts e2
   exact⟨t :: us,.cons t p,by rw [aoI,<- q,e1]⟩
 | swap x y l =>
  intro ts e
  match ts,e with
  | [],e=>cases e
  | [_],e=>cases e
  | a :: b :: ts,e =>
   simp only [aoI] at e
   injection e with e1 e2
   injection e2 with e2 e3
   exact⟨b :: a :: ts,.swap a b ts,by rw [aoI,aoI,e1,e2,e3]⟩
 | trans _ _ ih1 ih2 =>
  intro ts e
  obtain⟨us,p,q⟩:=ih2 ts e
  obtain⟨vs,p2,q2⟩:=ih1 us q
  exact⟨vs,p2.trans p,q2⟩
section
variable (rows:List (List Int)) (wd:Nat) (cut:Int)
structure LineOk (ring:Bool) (l:List Gt):Prop where
 op:∀ g∈l,opG rows wd cut g=true
 nd:l.Nodup
 ch:∀ (i:Nat) a b,l[i]?=some a->l[i+1]?=some b->z3 rows wd cut a=some b
 ne:l≠[]
 last:∀ g,l.getLast?=some g->z3 rows wd cut g=if ring=true then l.head? else none
structure WalkOk (s:Gt) (l:List Gt):Prop where
 op:∀ g∈l,opG rows wd cut g=true
 nd:l.Nodup
 ch:∀ (i:Nat) a b,l[i]?=some a->l[i+1]?=some b->z3 rows wd cut a=some b
 hd:l.head?=some s
end
section
variable {rows:List (List Int)} {wd:Nat} {cut:Int}
theorem ah2 {t n:Nat} {x y w:Int} (hx:0<=x/\x<n) (hy:0<=y/\y<t) (hw:w=0 \/ w=1):(x,y,w)∈yF t n:=by
 obtain⟨a,rfl⟩:=apu hx.1
 obtain⟨b,rfl⟩:=apu hy.1
 refine ao3.mpr ⟨a,aoK.mpr (by omega),ao3.mpr ⟨b,aoK.mpr (by omega),?_⟩⟩
 rcases hw with rfl | rfl
 ·exact aom ..
 ·exact aon _ (aom ..)
theorem qC {g:Gt} (o:opG rows wd cut g=true):zO rows wd g.1 g.2.1=true:=by
 unfold opG yu qI at o
 rw [aoo,aoo,aoo] at o
 exact o.1.2.1
theorem mem_gates {g:Gt}:g∈yb rows wd cut↔opG rows wd cut g=true:=by
 rw [qS,ao6]
 refine⟨fun h=>h.2,fun o=>⟨?_,o⟩⟩
 obtain⟨x,y,w⟩:=g
 have hw:=qV o
 obtain⟨a,b,c,d⟩:=yi (qC o)
 exact ah2 ⟨a,b⟩ ⟨c,d⟩ hw
theorem gates_nd:(yb rows wd cut).Nodup:=by
 rw [qS]
 refine ((aeK _ _).filter _).imp fun {a b} h e=>?_
 subst e
 unfold gLt at h
 omega
theorem qX {l:List Gt} (gd:Good wd rows) (o:∀ g∈l,opG rows wd cut g=true) (nd:l.Nodup):l.length<=98 :=
 aoN (len_sub l (yb rows wd cut) nd fun x hx=>mem_gates.mpr (o x hx)) (acE gd)
theorem ajI {s:Gt} (o:opG rows wd cut s=true):WalkOk rows wd cut s [s] :=
 ⟨fun g hg=>by rw [aos.mp hg];exact o,ao7.mpr ⟨aph,apj⟩,fun i a b _ h=>(nomatch h),rfl⟩
theorem ah3 {s n g:Gt} {l:List Gt} (W:WalkOk rows wd cut s l) (hl:l.getLast?=some g) (hn:z3 rows wd cut g=some n) (ne:n≠s):WalkOk rows wd cut s (l++[n]):=by
 have hg:g∈l:=arT hl
 have hli:l[l.length - 1]?=some g:=by rw [<-apS];exact hl
 have pos:0<l.length:=aqa hg
 have hnew:n∉l:=fun hm=>by
  obtain⟨i,hi⟩:=aoO hm
  match i,hi with
  | 0,hi =>
   have:=W.hd
   rw [ao1,hi] at this
   exact ne (Option.some.inj this)
  | i+1,hi =>
   obtain⟨hlt,_⟩:=aoh.mp hi
   have hi':l[i]?=some l[i]:=aof (by omega)
   have hc:=W.ch i _ _ hi' hi
   have e:=abF (W.op _ (aoj hi')) (W.op _ hg) hc hn
   rw [e,<- hli] at hi'
   have:=(arp (by omega) W.nd).mp hi'
   omega
 refine⟨fun x hx=>?_,?_,fun i a b ha hb=>?_,?_⟩
 ·rcases aou.mp hx with h | h
  ·exact W.op x h
  ·rw [aos.mp h];exact (aay (W.op g hg) hn).1
 ·refine ao8.mpr ⟨W.nd,ao7.mpr ⟨aph,apj⟩,fun a ha b hb e=>?_⟩
  rw [aos.mp hb] at e
  exact hnew (e▸ha)
 ·by_cases h:i+1<l.length
  ·rw [aov (by omega)] at ha
   rw [aov h] at hb
   exact W.ch i a b ha hb
  ·obtain⟨hlt,_⟩:=aoh.mp hb
   rw [aox,ao4] at hlt
   have e:i=l.length - 1:=by omega
   rw [aov (by omega),e,hli] at ha
   rw [aoG (by omega),show i+1 - l.length=0 by omega] at hb
   cases ha
   cases hb
   exact hn
 ·cases l with
  | nil=>cases pos
  | cons a l=>exact W.hd
theorem acG {s g:Gt} {l:List Gt} (W:WalkOk rows wd cut s l) (hl:l.getLast?=some g) {ring:Bool} (h:z3 rows wd cut g=if ring=true then some s else none):LineOk rows wd cut ring l where
 op:=W.op
 nd:=W.nd
 ch:=W.ch
 ne:=fun z=>by rw [z] at hl;cases hl
 last:=fun g' hg'=>by
  rw [hl] at hg'
  cases hg'
  rw [h,W.hd]
def yZ (rows:List (List Int)) (wd:Nat) (cut:Int) (t:Bool×List Gt):Prop:=t.1=false->∀ h,t.2.head?=some h->yo rows wd cut h=none
theorem next_prev {g n:Gt} (o:opG rows wd cut g=true) (h:z3 rows wd cut g=some n):yo rows wd cut n=some g:=by
 have c:zD rows wd (ahC rows cut g).1 (ahC rows cut g).2=true:=by
  unfold z3 at h
  by_cases z:zD rows wd (ahC rows cut g).1 (ahC rows cut g).2=true
  ·exact z
  ·rw [if_neg z] at h;cases h
 obtain⟨m,a1,_,_,_,a2⟩:=vk o c
 rw [h] at a1
 cases a1
 exact a2
theorem prev_next {g n:Gt} (o:opG rows wd cut g=true) (h:yo rows wd cut g=some n):opG rows wd cut n=true/\z3 rows wd cut n=some g:=by
 have c:zD rows wd (bhC rows cut g).1 (bhC rows cut g).2=true:=by
  unfold yo at h
  by_cases z:zD rows wd (bhC rows cut g).1 (bhC rows cut g).2=true
  ·exact z
  ·rw [if_neg z] at h;cases h
 obtain⟨m,a1,_,a3,_,a2⟩:=aa0 o c
 rw [h] at a1
 cases a1
 exact⟨a3,a2⟩
theorem aa1 {t:Bool×List Gt} (ne:t.2≠[]):∃ z,t.2.getLast?=some z/\z∈t.2:=⟨t.2.getLast ne,List.getLast?_eq_some_getLast ne,List.getLast_mem ne⟩
theorem jO {t:Bool×List Gt} (L:LineOk rows wd cut t.1 t.2) (st:yZ rows wd cut t) {g n:Gt} (o:opG rows wd cut g=true) (hn:n∈t.2) (h:z3 rows wd cut g=some n):g∈t.2:=by
 obtain⟨i,hi⟩:=aoO hn
 match i,hi with
 | 0,hi =>
  have hh:t.2.head?=some n:=by rw [ao1];exact hi
  cases hr:t.1 with
  | false =>
   have:=st hr n hh
   rw [next_prev o h] at this
   cases this
  | true =>
   obtain⟨z,hz,hm⟩:=aa1 L.ne
   have:=L.last z hz
   rw [hr,if_pos rfl,hh] at this
   rw [abF o (L.op z hm) h this]
   exact hm
 | i+1,hi =>
  obtain⟨hlt,_⟩:=aoh.mp hi
  have hi':t.2[i]?=some t.2[i]:=aof (by omega)
  have hc:=L.ch i _ _ hi' hi
  have hm:=aoj hi'
  rw [abF o (L.op _ hm) h hc]
  exact hm
theorem jP {t:Bool×List Gt} (L:LineOk rows wd cut t.1 t.2) {g n:Gt} (hg:g∈t.2) (h:z3 rows wd cut g=some n):n∈t.2:=by
 obtain⟨i,hi⟩:=aoO hg
 obtain⟨hlt,_⟩:=aoh.mp hi
 by_cases hl:i+1<t.2.length
 ·have hi':t.2[i+1]?=some t.2[i+1]:=aof hl
  have hc:=L.ch i _ _ hi hi'
  rw [h] at hc
  rw [Option.some.inj hc]
  exact aoj hi'
 ·have e:i=t.2.length - 1:=by omega
  have hz:t.2.getLast?=some g:=by rw [apS,<- e];exact hi
  have:=L.last g hz
  rw [h] at this
  by_cases hr:t.1=true
  ·rw [if_pos hr] at this
   exact apb this.symm
  ·rw [if_neg hr] at this
   cases this
theorem ali (gd:Good wd rows) {g:Gt} (o:opG rows wd cut g=true):zD rows wd (ahC rows cut g).1 (ahC rows cut g).2=true \/ zD rows wd (bhC rows cut g).1 (bhC rows cut g).2=true:=by
 have hw:=qV o
 obtain⟨x,y,w⟩:=g
 have o':yu rows wd cut x y w=true:=o
 unfold yu qI at o'
 rw [aoo,aoo,aoo] at o'
 obtain⟨a0,a1,a2,a3⟩:=yi o'.1.2.1
 obtain⟨b0,b1,b2,b3⟩:=yi o'.1.2.2
 have h1:=gd.h1
 have w1:=gd.w1
 have cb:∀ {u v:Int},0<=u->u+1<wd->0<=v->v+1<rows.length->zD rows wd u v=true:=fun p q r s=>by
  unfold zD zO
  rw [decide_eq_true (by omega),decide_eq_true (by omega),decide_eq_true (by omega),decide_eq_true (by omega)]
  rfl
 unfold ahC bhC jt ju
 dsimp only at hw ⊢
 rcases hw with rfl | rfl
 ·have e1:px x 0=x+1:=rfl
  rw [e1] at b1
  cases hiB rows cut x y
  ·by_cases h:y+1<rows.length
   ·left;exact cb (by simp;omega) (by simp;omega) (by simp;omega) (by simp;omega)
   ·right;exact cb (by simp;omega) (by simp;omega) (by simp;omega) (by simp;omega)
  ·by_cases h:y+1<rows.length
   ·right;exact cb (by simp;omega) (by simp;omega) (by simp;omega) (by simp;omega)
   ·left;exact cb (by simp;omega) (by simp;omega) (by simp;omega) (by simp;omega)
 ·have e1:py y 1=y+1:=rfl
  rw [e1] at b3
  cases hiB rows cut x y
  ·by_cases h:x+1<wd
   ·right;exact cb (by simp;omega) (by simp;omega) (by simp;omega) (by simp;omega)
   ·left;exact cb (by simp;omega) (by simp;omega) (by simp;omega) (by simp;omega)
  ·by_cases h:x+1<wd
   ·left;exact cb (by simp;omega) (by simp;omega) (by simp;omega) (by simp;omega)
   ·right;exact cb (by simp;omega) (by simp;omega) (by simp;omega) (by simp;omega)
theorem am7 (gd:Good wd rows) {t:Bool×List Gt} (L:LineOk rows wd cut t.1 t.2) (st:yZ rows wd cut t):2<=t.2.length:=by
 obtain⟨r,l⟩:=t
 match l,L,st with
 | [],L,_=>exact absurd rfl L.ne
 | [g],L,st =>
  have o:=L.op g (aom ..)
  have hl:=L.last g rfl
  cases r with
  | true =>
   exact absurd rfl (aay o hl).2
  | false =>
   have hp:yo rows wd cut g=none:=st rfl g rfl
   have hl:z3 rows wd cut g=none:=hl
   rcases ali gd o with c | c
   ·obtain⟨n,h,_⟩:=vk o c
    rw [hl] at h;cases h
   ·obtain⟨n,h,_⟩:=aa0 o c
    rw [hp] at h;cases h
 | _ :: _ :: _,_,_=>exact Nat.le_add_left 2 _
end
section
variable (rows:List (List Int)) (wd:Nat) (cut:Int)
def flat (ts:List (Bool×List Gt)):List Gt:=ts.flatMap (·.2)
structure Told (ts:List (Bool×List Gt)):Prop where
 line:∀ t∈ts,LineOk rows wd cut t.1 t.2
 st:∀ t∈ts,yZ rows wd cut t
 nd:(flat ts).Nodup
 least:∀ t∈ts,t.1=true->∀ h,t.2.head?=some h->∀ g∈t.2,g=h \/ gLt h g
end
section
variable {rows:List (List Int)} {wd:Nat} {cut:Int} {ts:List (Bool×List Gt)}
theorem Told.op (T:Told rows wd cut ts) {g:Gt} (h:g∈flat ts):opG rows wd cut g=true:=by
 obtain⟨t,ht,hg⟩:=ao3.mp h
 exact (T.line t ht).op g hg
theorem Told.len (T:Told rows wd cut ts) (gd:Good wd rows):(flat ts).length<=98:=qX gd (fun g hg=>T.op hg) T.nd
theorem aeP:∀ (ts:List (Bool×List Gt)),(∀ t∈ts,2<=t.2.length)->2 * ts.length<=(flat ts).length
 | [],_=>aop _
 | t :: ts,h=>by
  have h1:=h t (aom ..)
  have h2:=aeP ts fun u hu=>h u (aon _ hu)
  show 2 * (ts.length+1)<=(t.2++flat ts).length
  rw [aox]
  omega
theorem Told.few (T:Told rows wd cut ts) (gd:Good wd rows):ts.length<=49:=by
 have h1:=aeP ts fun t ht=>am7 gd (T.line t ht) (T.st t ht)
 have h2:=T.len gd
 omega
theorem vm (ts:List (Bool×List Gt)) (t:Bool×List Gt):flat (ts++[t])=flat ts++t.2:=by
 unfold flat
 rw [apy]
 simp
theorem Told.fresh (T:Told rows wd cut ts) {r:Bool} {l:List Gt} (L:LineOk rows wd cut r l) {s:Gt} (hs:l.head?=some s) (hn:s∉flat ts):∀ g∈l,g∉flat ts:=by
 have key:∀ (i:Nat) g,l[i]?=some g->g∉flat ts:=fun i=>by
  induction i with
  | zero =>
   intro g hg
   rw [ao1,hg] at hs
   rw [Option.some.inj hs]
   exact hn
  | succ i ih =>
   intro g hg hm
   obtain⟨hlt,_⟩:=aoh.mp hg
   have hi':l[i]?=some l[i]:=aof (by omega)
   have hc:=L.ch i _ _ hi' hg
   obtain⟨t,ht,hgt⟩:=ao3.mp hm
   exact ih _ hi' (ao3.mpr ⟨t,ht,jO (T.line t ht) (T.st t ht) (L.op _ (aoj hi')) hgt hc⟩)
 intro g hg
 obtain⟨i,hi⟩:=aoO hg
 exact key i g hi
theorem Told.more (T:Told rows wd cut ts) {r:Bool} {l:List Gt} (L:LineOk rows wd cut r l) {s:Gt} (hs:l.head?=some s) (hn:s∉flat ts) (st:r=false->yo rows wd cut s=none) (le:r=true->∀ g∈l,g=s \/ gLt s g):Told rows wd cut (ts++[(r,l)]) where
 line:=fun t ht=>by
  rcases aou.mp ht with h | h
  ·exact T.line t h
  ·rw [aos.mp h];exact L
 st:=fun t ht=>by
  rcases aou.mp ht with h | h
  ·exact T.st t h
  ·rw [aos.mp h]
   intro hr h hh
   rw [show (r,l).2.head?=some s from hs] at hh
   rw [<-Option.some.inj hh]
   exact st hr
 nd:=by
  rw [vm]
  refine ao8.mpr ⟨T.nd,L.nd,fun a ha b hb e=>?_⟩
  exact T.fresh L hs hn b hb (e▸ha)
 least:=fun t ht=>by
  rcases aou.mp ht with h | h
  ·exact T.least t h
  ·rw [aos.mp h]
   intro hr h hh
   rw [show (r,l).2.head?=some s from hs] at hh
   rw [<-Option.some.inj hh]
   exact le hr
theorem am8 {r:Bool} {l:List Gt} (L:LineOk rows wd cut r l) {s:Gt} (hs:l.head?=some s) (hp:yo rows wd cut s=none):r=false:=by
 cases r with
 | false=>rfl
 | true =>
  obtain⟨z,hz,hm⟩:=aa1 (t:=(true,l)) L.ne
  have:=L.last z hz
  rw [if_pos rfl,hs] at this
  have:=next_prev (L.op z hm) this
  rw [hp] at this
  cases this
theorem alj (T:Told rows wd cut ts) (all:∀ g,opG rows wd cut g=true->yo rows wd cut g=none->g∈flat ts) {r:Bool} {l:List Gt} (L:LineOk rows wd cut r l) {s:Gt} (hs:l.head?=some s) (hn:s∉flat ts):r=true:=by
 cases r with
 | true=>rfl
 | false =>
  obtain⟨z,hz,hm⟩:=aa1 (t:=(false,l)) L.ne
  have hnone:z3 rows wd cut z=none:=L.last z hz
  let U:=(yb rows wd cut).filter fun g=>decide (g∉flat ts)
  have memU:∀ g,g∈U↔opG rows wd cut g=true/\g∉flat ts:=fun g=>by
   show g∈List.filter _ _↔_
   rw [ao6,mem_gates,decide_eq_true_eq]
  let pr:Gt->Gt:=fun g=>(yo rows wd cut g).getD g
  have prU:∀ g∈U,yo rows wd cut g=some (pr g)/\z3 rows wd cut (pr g)=some g/\pr g∈U:=fun g hg=>by
   obtain⟨o,nf⟩:=(memU g).mp hg
   cases hp:yo rows wd cut g with
   | none=>exact absurd (all g o hp) nf
   | some p =>
    have e:pr g=p:=by show (yo rows wd cut g).getD g=p;rw [hp];rfl
    obtain⟨op,hnx⟩:=prev_next o hp
    rw [e]
    refine⟨rfl,hnx,(memU p).mpr ⟨op,fun hm=>?_⟩⟩
    obtain⟨t,ht,hpt⟩:=ao3.mp hm
    exact nf (ao3.mpr ⟨t,ht,jP (T.line t ht) hpt hnx⟩)
  have ndU:U.Nodup:=gates_nd.filter _
  have ndP:(U.map pr).Nodup:=by
   refine apr.mpr (ndU.imp_of_mem fun {a b} ha hb ne e=>ne ?_)
   have h1:=(prU a ha).2.1
   have h2:=(prU b hb).2.1
   rw [e,h2] at h1
   exact (Option.some.inj h1).symm
  have zU:z∈U:=(memU z).mpr ⟨L.op z hm,T.fresh L hs hn z hm⟩
  have:=agY (U.map pr) U ndP (fun x hx=>by obtain⟨g,hg,rfl⟩:=aoC.mp hx;exact (prU g hg).2.2) (by rw [aog];exact aop _) z zU
  obtain⟨g,hg,rfl⟩:=aoC.mp this
  rw [(prU g hg).2.1] at hnone
  cases hnone
def zX (t:Bool×List Gt):PyData:=.tuple [.str (if t.1=true then "ring" else "run"),.tuple (t.2.map gD3)]
theorem aeQ (l:List Gt):zK (l.map gD3)=true:=by
 induction l with
 | nil=>rfl
 | cons g l ih=>show (zv (gD3 g) && zK (l.map gD3))=true;rw [ih];rfl
theorem abH (t:Bool×List Gt):zv (zX t)=true:=by
 show (zv (.str _) && (zv (.tuple (t.2.map gD3)) && true))=true
 rw [show zv (.tuple (t.2.map gD3))=zK (t.2.map gD3) from rfl,aeQ]
 cases t.1 <;> decide +kernel
theorem acH:∀ l m:List Gt,vP (l.map gD3) (m.map gD3)=true
 | [],m=>by rw [aq2,vP]
 | g :: l,[]=>rfl
 | (x,y,w) :: l,(x',y',w') :: m=>by
  rw [aoI,aoI,vP]
  split
  ·exact acH l m
  ·show v7 (.tuple [.int x,.int y,.int w]) (.tuple [.int x',.int y',.int w'])=true
   simp only [v7,vP]
   split
   ·split
    ·split <;> rfl
    ·rfl
   ·rfl
theorem ajJ (t u:Bool×List Gt):v7 (zX t) (zX u)=true:=by
 unfold zX
 generalize (if t.1=true then ("ring":Str) else "run")=a
 generalize (if u.1=true then ("ring":Str) else "run")=b
 rw [v7,vP]
 split
 ·rw [vP]
  split
  ·rfl
  ·rw [v7];exact acH _ _
 ·rfl
theorem aeR (l:List Gt):aoy (l.map gD3)<=1:=by
 induction l with
 | nil=>exact ao2 _
 | cons g l ih=>exact Nat.max_le.mpr ⟨aop 1,ih⟩
theorem afF (t:Bool×List Gt):(zX t).depth<=3:=by
 show max 0 (max (aoy (t.2.map gD3)+1) 0)+1<=3
 have:=aeR t.2
 omega
theorem aeS {a b:Gt} (h:gD3 a=gD3 b):a=b:=by
 obtain⟨x,y,w⟩:=a
 obtain⟨x',y',w'⟩:=b
 unfold gD3 jN at h
 simp at h
 simp [h]
theorem ajK (T:Told rows wd cut ts):SortOk "str" (ts.map zX) where
 plain:=fun d hd=>by obtain⟨t,_,rfl⟩:=aoC.mp hd;exact abH t
 head:=fun d hd=>by obtain⟨t,_,rfl⟩:=aoC.mp hd;rfl
 cmp:=fun d hd e he=>by
  obtain⟨t,_,rfl⟩:=aoC.mp hd
  obtain⟨u,_,rfl⟩:=aoC.mp he
  exact ajJ t u
 depth:=fun d hd=>by obtain⟨t,_,rfl⟩:=aoC.mp hd;exact aoN (afF t) (by decide)
 nd:=by
  have h:=(arL.mp T.nd).2
  refine apr.mpr (h.imp_of_mem fun {a b} ha hb hd e=>?_)
  unfold zX at e
  have e2:a.2.map gD3=b.2.map gD3:=by
   injection e with e
   injection e with _ e
   injection e with e _
   injection e
  cases ha2:a.2 with
  | nil=>exact (T.line a ha).ne ha2
  | cons g l =>
   cases hb2:b.2 with
   | nil=>exact (T.line b hb).ne hb2
   | cons g' l' =>
    rw [ha2,hb2,aoI,aoI] at e2
    injection e2 with e2 _
    exact hd g (by rw [ha2];exact aom ..) g' (by rw [hb2];exact aom ..) (aeS e2)
theorem Told.perm {us:List (Bool×List Gt)} (T:Told rows wd cut ts) (p:us.Perm ts):Told rows wd cut us where
 line:=fun t ht=>T.line t (p.mem_iff.mp ht)
 st:=fun t ht=>T.st t (p.mem_iff.mp ht)
 nd:=(p.flatMap_right _).nodup_iff.mpr T.nd
 least:=fun t ht=>T.least t (p.mem_iff.mp ht)
end
def yV (x y:Int) (g:Gt):Bool:=decide (g.2.2=0) && (decide (g.2.1=y) && decide (g.1<x))
def ab5 (l:List Gt) (x y:Int):Nat:=(l.filter (yV x y)).length
def y3 (l:List Gt) (x y:Int):Bool:=decide (ab5 l x y % 2=1)
theorem ajL (l:List Gt) (pos:∀ g∈l,0<=g.1) (y:Int):ab5 l 0 y=0:=by
 unfold ab5
 rw [arG.mpr]
 ·rfl
 intro g hg
 have:=pos g hg
 unfold yV
 rw [decide_eq_false (p:=g.1<0) (by omega)]
 simp
theorem ajM {l:List Gt} (nd:l.Nodup) (x y:Int):ab5 l (x+1) y=ab5 l x y+if (x,y,0)∈l then 1 else 0:=by
 induction l with
 | nil=>rfl
 | cons g l ih =>
  obtain⟨hn,nd'⟩:=ao7.mp nd
  have ih:=ih nd'
  unfold ab5 at ih ⊢
  rw [ao0,ao0]
  obtain⟨a,b,w⟩:=g
  by_cases e:(a,b,w)=(x,y,0)
  ·rw [e] at hn ⊢
   rw [if_neg hn] at ih
   have h1:yV (x+1) y (x,y,0)=true:=by simp [yV];omega
   have h2:yV x y (x,y,0)=false:=by simp [yV]
   rw [h1,h2,if_pos rfl,if_neg aoi,if_pos (aom ..),aoE,ih]
  ·have hm:(x,y,0)∈(a,b,w) :: l↔(x,y,0)∈l:=by
    rw [aor]
    exact⟨fun z=>z.resolve_left fun q=>e q.symm,.inr⟩
   have ht:yV (x+1) y (a,b,w)=yV x y (a,b,w):=by
    unfold yV
    dsimp only
    by_cases h1:w=0
    ·by_cases h2:b=y
     ·have h3:a≠x:=fun q=>e (by rw [h1,h2,q])
      congr 2
      exact decide_eq_decide.mpr (by omega)
     ·rw [decide_eq_false h2,apw,apw]
    ·rw [decide_eq_false h1,apw,apw]
   rw [ht]
   simp only [hm]
   split
   ·rw [aoE,aoE,ih];omega
   ·exact ih
theorem qd (l:List Gt) (pos:∀ g∈l,0<=g.1) (y:Int):y3 l 0 y=false:=by
 unfold y3
 rw [ajL l pos]
 rfl
theorem abI {l:List Gt} (nd:l.Nodup) (x y:Int):y3 l (x+1) y=(y3 l x y != decide ((x,y,0)∈l)):=by
 unfold y3
 rw [ajM nd]
 by_cases h:(x,y,0)∈l
 ·rw [if_pos h,decide_eq_true h]
  rcases Nat.mod_two_eq_zero_or_one (ab5 l x y) with z | z
  ·rw [decide_eq_true (by omega),decide_eq_false (by omega)];rfl
  ·rw [decide_eq_false (by omega),decide_eq_true (by omega)];rfl
 ·rw [if_neg h,decide_eq_false h,ar5]
  simp
section
variable {rows:List (List Int)} {wd:Nat} {cut:Int} {r:List Gt}
theorem acI (L:LineOk rows wd cut true r) {g:Gt} (hg:g∈r):zD rows wd (ahC rows cut g).1 (ahC rows cut g).2=true/\zD rows wd (bhC rows cut g).1 (bhC rows cut g).2=true:=by
 have o:=L.op g hg
 constructor
 ·have hn:∃ n,z3 rows wd cut g=some n:=by
   obtain⟨i,hi⟩:=aoO hg
   obtain⟨hlt,_⟩:=aoh.mp hi
   by_cases hl:i+1<r.length
   ·exact⟨_,L.ch i _ _ hi (aof hl)⟩
   ·have e:i=r.length - 1:=by omega
    have hz:r.getLast?=some g:=by rw [apS,<- e];exact hi
    have:=L.last g hz
    rw [if_pos rfl] at this
    cases hh:r.head? with
    | none=>exact absurd (List.head?_eq_none_iff.mp hh) L.ne
    | some h=>exact⟨h,this.trans hh⟩
  obtain⟨n,hn⟩:=hn
  unfold z3 at hn
  by_cases z:zD rows wd (ahC rows cut g).1 (ahC rows cut g).2=true
  ·exact z
  ·rw [if_neg z] at hn;cases hn
 ·have hp:∃ p,opG rows wd cut p=true/\z3 rows wd cut p=some g:=by
   obtain⟨i,hi⟩:=aoO hg
   obtain⟨hlt,_⟩:=aoh.mp hi
   match i,hi with
   | 0,hi =>
    obtain⟨z,hz,hzm⟩:=aa1 (t:=(true,r)) L.ne
    have:=L.last z hz
    rw [if_pos rfl,ao1] at this
    exact⟨z,L.op z hzm,this.trans hi⟩
   | i+1,hi =>
    have hi':r[i]?=some r[i]:=aof (by omega)
    exact⟨_,L.op _ (aoj hi'),L.ch i _ _ hi' hi⟩
  obtain⟨p,op,hp⟩:=hp
  have hq:=next_prev op hp
  unfold yo at hq
  by_cases z:zD rows wd (bhC rows cut g).1 (bhC rows cut g).2=true
  ·exact z
  ·rw [if_neg z] at hq;cases hq
theorem vn (L:LineOk rows wd cut true r) {x y w:Int} (hg:(x,y,w)∈r):(w=0->1<=y/\y+1<rows.length)/\(w=1->1<=x/\x+1<wd):=by
 obtain⟨h1,h2⟩:=acI L hg
 unfold zD at h1 h2
 rw [aoo] at h1 h2
 obtain⟨a0,a1,a2,a3⟩:=yi h1.1
 obtain⟨b0,b1,b2,b3⟩:=yi h1.2
 obtain⟨c0,c1,c2,c3⟩:=yi h2.1
 obtain⟨d0,d1,d2,d3⟩:=yi h2.2
 unfold ahC at a0 a1 a2 a3 b0 b1 b2 b3
 unfold bhC at c0 c1 c2 c3 d0 d1 d2 d3
 dsimp only at *
 revert a0 a1 a2 a3 b0 b1 b2 b3 c0 c1 c2 c3 d0 d1 d2 d3
 generalize hiB rows cut x y=hb
 intro a0 a1 a2 a3 b0 b1 b2 b3 c0 c1 c2 c3 d0 d1 d2 d3
 constructor
 ·rintro rfl
  cases hb <;> simp [jt,ju] at * <;> omega
 ·rintro rfl
  cases hb <;> simp [jt,ju] at * <;> omega
theorem ah4 (L:LineOk rows wd cut true r) {x y:Int} (hc:zD rows wd x y=true) {i j:Fin 4} (h:prt (t4 rows cut x y) i=some j) (hm:gt x y i∈r):gt x y j∈r:=by
 have o:=L.op _ hm
 have inj:∀ i j,gt x y i=gt x y j->i=j:=fun _ _=>vV
 have hp:prt (ji rows cut x y) (gt x y i)=some (gt x y j):=by
  unfold ji
  rw [aam inj,h]
  rfl
 cases he:enF (hiB rows cut x y) (hiB rows cut (x+1) y) (hiB rows cut (x+1) (y+1)) (hiB rows cut x (y+1)) i with
 | true =>
  have ha:=(aaI (rows:=rows) (cut:=cut) (x:=x) (y:=y) i).1.mpr he
  refine jP (t:=(true,r)) L hm ?_
  unfold z3
  rw [ha,if_pos hc]
  exact hp
 | false =>
  have hb:=(aaI (rows:=rows) (cut:=cut) (x:=x) (y:=y) i).2.mpr he
  have hq:yo rows wd cut (gt x y i)=some (gt x y j):=by
   unfold yo
   rw [hb,if_pos hc]
   exact hp
  obtain⟨oj,hn⟩:=prev_next o hq
  exact jO (t:=(true,r)) L (fun z=>by cases z) oj hm hn
def mB (r:List Gt) (g:Gt):Bool:=decide (g∈r)
theorem acJ:∀ (A B C D M m0 m1 m2 m3:Bool),(∀ i j:Fin 4,prt (qT A B C D M) i=some j->(match i with | 0=>m0 | 1=>m1 | 2=>m2 | 3=>m3)=true->(match j with | 0=>m0 | 1=>m1 | 2=>m2 | 3=>m3)=true) ->
  (∀ i:Fin 4,(match i with | 0=>m0 | 1=>m1 | 2=>m2 | 3=>m3)=true->opF A B C D i=true)->(m0 != (m1 != (m2 != m3)))=false:=by decide +kernel
theorem ah5 (L:LineOk rows wd cut true r) {x y:Int} (hc:zD rows wd x y=true):(mB r (gt x y 0) != (mB r (gt x y 1) != (mB r (gt x y 2) != mB r (gt x y 3))))=false:=by
 have key:∀ i:Fin 4,(match i with | 0=>mB r (gt x y 0) | 1=>mB r (gt x y 1) | 2=>mB r (gt x y 2) | 3=>mB r (gt x y 3))=mB r (gt x y i):=fun i=>match i with | 0=>rfl | 1=>rfl | 2=>rfl | 3=>rfl
 refine acJ (hiB rows cut x y) (hiB rows cut (x+1) y) (hiB rows cut (x+1) (y+1)) (hiB rows cut x (y+1)) (jz rows cut x y) _ _ _ _ (fun i j h hm=>?_) fun i hm=>?_
 ·rw [key] at hm ⊢
  exact decide_eq_true (ah4 L hc h (of_decide_eq_true hm))
 ·rw [key] at hm
  rw [<-qU hc]
  exact L.op _ (of_decide_eq_true hm)
theorem ajN (L:LineOk rows wd cut true r) {y:Int} (hy:0<=y) (hy':y+1<rows.length):∀ n:Nat,n<wd->y3 r n (y+1)=(y3 r n y != mB r ((n:Int),y,1)):=by
 have pos:∀ g∈r,0<=g.1:=fun g hg=>(yi (qC (L.op g hg))).1
 intro n
 induction n with
 | zero =>
  intro _
  have hm:mB r (((0:Nat):Int),y,1)=false:=decide_eq_false fun z=>by
   have:=(vn L z).2 rfl
   omega
  rw [hm]
  show y3 r 0 (y+1)=(y3 r 0 y != false)
  rw [qd r pos,qd r pos]
  rfl
 | succ n ih =>
  intro hn
  have ih:=ih (by omega)
  have hc:zD rows wd (n:Int) y=true:=by
   unfold zD zO
   rw [decide_eq_true (by omega),decide_eq_true (by omega),decide_eq_true (by omega),decide_eq_true (by omega)]
   rfl
  have ev:(mB r ((n:Int),y,0) != (mB r ((n:Int),y,1) != (mB r ((n:Int),y+1,0) != mB r ((n:Int)+1,y,1))))=false:=ah5 L hc
  have e:((n+1:Nat):Int)=(n:Int)+1:=by omega
  rw [e,abI L.nd,abI L.nd,ih]
  show ((y3 r n y != mB r ((n:Int),y,1)) != mB r ((n:Int),y+1,0))=((y3 r n y != mB r ((n:Int),y,0)) != mB r ((n:Int)+1,y,1))
  revert ev
  generalize y3 r n y=a
  generalize mB r ((n:Int),y,0)=b
  generalize mB r ((n:Int),y,1)=c
  generalize mB r ((n:Int),y+1,0)=d
  generalize mB r ((n:Int)+1,y,1)=e'
  revert a b c d e'
  decide
end
section
variable {rows:List (List Int)} {wd:Nat} {cut:Int} {r:List Gt}
theorem adB {y:Int} (h:∀ g∈r,g.2.2=0->g.2.1≠y) (x:Int):y3 r x y=false:=by
 unfold y3 ab5
 rw [arG.mpr]
 ·rfl
 intro g hg
 unfold yV
 by_cases h1:g.2.2=0
 ·rw [decide_eq_false (h g hg h1)];simp
 ·rw [decide_eq_false h1];simp
theorem ah6 (L:LineOk rows wd cut true r) (hw:0<wd):∀ n:Nat,n<rows.length->y3 r (((wd - 1:Nat)):Int) n=false:=by
 intro n
 induction n with
 | zero =>
  intro _
  refine adB (fun g hg h0 e=>?_) _
  obtain⟨x,y,w⟩:=g
  have:=(vn L hg).1 h0
  dsimp only at e
  omega
 | succ n ih =>
  intro hn
  have:=ajN L (y:=(n:Int)) (by omega) (by omega) (wd - 1) (by omega)
  rw [ih (by omega),show mB r (((wd - 1:Nat):Int),(n:Int),1)=false from decide_eq_false fun z=>by
   have:=(vn L z).2 rfl
   omega] at this
  exact this
end
def vW (ts:List (Bool×List Gt)) (a:Nat) (x y:Int) (k:Nat):Bool:=decide (k≠a) && ((ts.getD k (false,[])).1 && y3 (ts.getD k (false,[])).2 x y)
def yG (ts:List (Bool×List Gt)) (a:Nat) (x y:Int):List Nat:=(aow ts.length).filter (vW ts a x y)
section
variable {rows:List (List Int)} {wd:Nat} {cut:Int} {ts:List (Bool×List Gt)}
theorem apart {ts:List (Bool×List Gt)} (nd:(flat ts).Nodup) {a k:Nat} {s t:Bool×List Gt} (ha:ts[a]?=some s) (hk:ts[k]?=some t) (ne:k≠a):∀ g∈s.2,g∉t.2:=by
 have pw:=(arL.mp nd).2
 obtain⟨l1,e1⟩:=aoh.mp ha
 obtain⟨l2,e2⟩:=aoh.mp hk
 intro g hs ht
 rcases Nat.lt_or_gt_of_ne ne with h | h
 ·have:=apq.mp pw k a l2 l1 h
  rw [e1,e2] at this
  exact this g ht g hs rfl
 ·have:=apq.mp pw a k l1 l2 h
  rw [e1,e2] at this
  exact this g hs g ht rfl
end
section
variable {K:aol} {f:Fx} {ρ:zq} {ta:TE} {P:PyData->Prop}
def abJ:PyData->Bool
 | .none=>true
 | _=>false
theorem acK {H:Hp} {d:PyData} {v:V} (r:Rep K H d v) (h:d=.none \/ ∃ ds,d=.tuple ds):decide (v=.non)=abJ d:=by
 rcases h with rfl | ⟨ds,rfl⟩
 ·rw [show v=.non from r];rfl
 ·obtain⟨a,xs,rfl,_⟩:=rep_tuple.mp r
  rfl
theorem am9 (h:PEd K f ta ρ fun d=>(d=.none \/ ∃ ds,d=.tuple ds)/\P (.bool (!abJ d))):PEd K f (tOp (fun x y H Q=>y=.non/\Q (.bl (!decide (x=.non))) H) ta (tC .non)) ρ P:=fun σ H Q e q =>
 h σ H _ e fun d v H1 g1 r1 ⟨hd,p⟩=>⟨rfl,q _ _ H1 g1 (by show Rep K _ (.bool _) (.bl _);rw [acK r1 hd];rfl) p⟩
theorem al0 (h:PEd K f ta ρ fun d=>(d=.none \/ ∃ ds,d=.tuple ds)/\P (.bool (abJ d))):PEd K f (tOp (fun x y H Q=>y=.non/\Q (.bl (decide (x=.non))) H) ta (tC .non)) ρ P:=fun σ H Q e q =>
 h σ H _ e fun d v H1 g1 r1 ⟨hd,p⟩=>⟨rfl,q _ _ H1 g1 (by show Rep K _ (.bool _) (.bl _);rw [acK r1 hd];rfl) p⟩
end
abbrev ajO (K:aol):Sp:=spD K 3 alg fun c r=>∃ ring l,r=zX (ring,l)/\LineOk c.1 c.2.1 c.2.2.1 ring l/\l.head?=some c.2.2.2
theorem ana (a b:Gt):aoH (gD3 a) (gD3 b)=decide (a=b):=by
 obtain⟨x,y,w⟩:=a
 obtain⟨x',y',w'⟩:=b
 show (decide (x=x') && (decide (y=y') && (decide (w=w') && true)))=_
 by_cases h1:x=x' <;> by_cases h2:y=y' <;> by_cases h3:w=w' <;> simp [h1,h2,h3]
theorem afG (q:Option Gt):adA q=.none \/ ∃ ds,adA q=.tuple ds:=by
 cases q with
 | none=>exact .inl rfl
 | some g=>exact .inr ⟨_,rfl⟩
theorem alk (F:Def K mg "line_from" jK pC) (uah:mg "tuple"=none) (ua3:FnIn P w K mg base k "gate_ahead" ph (ajH K)) :
  FnIn P w K mg base (k+1) "line_from" pC (ajO K):=by
 refine F.ok sc_line_from rfl fun fa cdv A outer s H E hr=>⟨_,(zc (zB (i:=3) sc_line_from.nd rfl (Or.inl rfl) (yh (za (pv 2) zb))) (zc (zB (i:=4) sc_line_from.nd rfl (Or.inl rfl) (zd ua3 hr rfl (za (pv 0) (za (pv 1) (za (pv 2) zb))))) (zc (adT aoT (PW.pt (qg (zJ akt (pv 4) ae5 (zQ _)) (jB (zJ (qo (K:=K) rfl hr.units) (pv 4) (pv 2) (zQ _))))) (zc (yp (aaB apa apc apd yP (pv 3) (za (pv 4) zb))) (zg (zB (i:=4) sc_line_from.nd rfl (Or.inl rfl) (zd ua3 hr rfl (za (pv 0) (za (pv 1) (za (pv 4) zb)))))))) (zg (zt (zC (za (qK (zJ amh (pv 4) ae5 (zQ _)) jQ jQ) (za (aao (qO (K:=K) rfl) rfl uah aqA (za (pv 3) zb)) zb)))))))),?_⟩
 rintro f xs ⟨rows,wd,cut,g⟩ hl ⟨rfl,gd,o⟩
 try dsimp only [z5,zl]
 dsimp only at *
 refine afm (w:=w) (agE (vb (abp ?_)))
 walk_at "w"
 refine⟨show 3<5 by decide,fun D=>?_⟩
 refine vH (abx (zP (zp (rows,wd,cut,g) ?_)))
 walk_at "w"
 rintro _ rfl
 refine zi ?_
 refine vH (agD (fun ρ cs=>∃ l z,ρ=[some (.dat (tab rows)),some (.dat (.int cut)),some (.dat (gD3 g)),some (.own (f.M.length+0)),some (.dat (adA (z3 rows wd cut z)))]/\cs=[.lst (l.map gD3)]/\WalkOk rows wd cut g l/\l.getLast?=some z) (fun _ cs=>match cs with | [.lst es]=>200 - es.length | _=>0) ⟨[g],g,rfl,rfl,ajI o,rfl⟩ ?_)
 rintro _ _ ⟨l,z,rfl,rfl,W,hz⟩
 have oz:=W.op z (arT hz)
 have wl:=qX gd W.op W.nd
 have ml:(l.map gD3).length=l.length:=aog ..
 refine anE (aci (yq (am9 (zm rfl ⟨afG _,?_⟩))))
 refine⟨_,rfl,?_⟩
 have fr:∀ x:PyData,aqQ (freed f.M.length [OC.lst (l.map gD3)]) [some (DV.dat (tab rows)),some (.dat (.int cut)),some (.dat (gD3 g)),some (.own (f.M.length+0)),some (.dat x)]=[some (.dat (tab rows)),some (.dat (.int cut)),some (.dat (gD3 g)),some (.dat (.list (l.map gD3))),some (.dat x)]:=fun x=>by simp [freed]
 cases hn:z3 rows wd cut z with
 | none =>
  rw [show (!abJ (adA none))=false from rfl,if_neg aoi,if_neg aoi]
  refine ajf ?_
  rw [fr]
  refine yT (vB (zx (aiE (yq (al0 (zm rfl ⟨.inl rfl,_,rfl,?_⟩))))))
  rw [show abJ (adA none)=true from rfl,if_pos rfl]
  walk_at "w"
  exact⟨false,l,rfl,acG W hz (by rw [hn];rfl),W.hd⟩
 | some n =>
  rw [show (!abJ (adA (some n)))=true from rfl,if_pos rfl]
  rw [show adA (some n)=gD3 n from rfl]
  refine yq (jC (zm rfl (zm rfl ⟨rfl,rfl,aoS rfl,_,rfl,?_⟩)))
  rw [if_pos rfl,ana]
  by_cases ng:n=g
  ·rw [decide_eq_true ng,show (!true)=false from rfl,if_neg aoi]
   refine ajf ?_
   rw [fr]
   refine yT (vB (zx (aiE (yq (al0 (zm rfl ⟨.inr ⟨_,rfl⟩,_,rfl,?_⟩))))))
   rw [show abJ (gD3 n)=false from rfl,if_neg aoi]
   walk_at "w"
   exact⟨true,l,rfl,acG W hz (by rw [hn,ng];rfl),W.hd⟩
  ·rw [decide_eq_false ng,show (!false)=true from rfl,if_pos rfl]
   have W2:=ah3 W hz hn ng
   have wl2:=qX gd W2.op W2.nd
   rw [aox,ao4] at wl2
   refine vH (aaG (i:=3) (j:=0) rfl rfl (by omega) (aab (zm rfl ?_)))
   refine abx (zP (zp (rows,wd,cut,n) ?_))
   have on:=(aay oz hn).1
   walk_at "w"
   rintro _ rfl
   refine zi ⟨⟨l++[n],n,rfl,?_,W2,by simp⟩,?_⟩
   ·show [OC.lst (l.map gD3++[gD3 n])]=[OC.lst ((l++[n]).map gD3)]
    rw [aoF]
    rfl
   ·show 200 - (l.map gD3++[gD3 n]).length<200 - (l.map gD3).length
    rw [aox,ao4]
    omega
abbrev aa2 (K:aol):Sp:=spN K 2 (fun (c:List (List Int)×Nat×Int) xs=>xs=[.dat (tab c.1),.dat (.int c.2.2)]/\Good c.2.1 c.1) fun c es=>∃ ts,es=ts.map zX/\Told c.1 c.2.1 c.2.2 ts/\(∀ g,opG c.1 c.2.1 c.2.2 g=true->g∈flat ts)/\es.Pairwise fun d e=>ltD d e=true
def inB (rows:List (List Int)) (wd:Nat) (cut:Int) (g:Gt):Bool:=!zD rows wd (bhC rows cut g).1 (bhC rows cut g).2
theorem ajP {rows:List (List Int)} {wd:Nat} {cut:Int} {g:Gt} (o:opG rows wd cut g=true):inB rows wd cut g=true↔yo rows wd cut g=none:=by
 unfold inB
 by_cases h:zD rows wd (bhC rows cut g).1 (bhC rows cut g).2=true
 ·obtain⟨n,hn,_⟩:=aa0 o h
  rw [h,hn]
  simp
 ·rw [Bool.not_eq_true] at h
  unfold yo
  rw [h]
  simp
theorem ajQ (F:Def K mg "lines" aaU pf) (ual:mg "set"=none) (uam:mg "sorted"=none) (uag:FnIn P w K mg base k "ask_table" pz (acA K)) (ubd:FnIn P w K mg base k "gates" pf (agT K)) (ube:FnIn P w K mg base k "comes_in" ph (agX K)) (ubf:FnIn P w K mg base k "line_from" pC (ajO K)):FnIn P w K mg base (k+1) "lines" pf (aa2 K):=by
 refine F.okN sc_lines rfl fun fa cdv A outer s H E hr=>⟨_,(zc (yp (zd uag hr rfl (za (pv 0) zb))) (zc (zB (i:=2) sc_lines.nd rfl (Or.inl rfl) (zd ubd hr rfl (za (pv 0) (za (pv 1) zb)))) (zc (zB (i:=3) sc_lines.nd rfl (Or.inl rfl) (zw (abo (K:=K) rfl) (ye (N:=pF) (own:=1) (fr:=[0,1]) ⟨rfl,by decide +kernel,of_decide_eq_true (by kernel_rfl),of_decide_eq_true (by kernel_rfl),of_decide_eq_true (by kernel_rfl),rfl⟩ rfl (zW (K:=K) rfl (pv 2)) (fun _ _ _ _=>(zf (i:=0) (show (pF:List Str).Nodup by decide +kernel) rfl (Or.inl rfl) (Or.inr rfl))) (fun _ _ _ _=>(yS (z4 (K:=K) rfl (zd ube hr rfl (za (pv 1) (za (pv 2) (za (pv 0) zb)))) (fun _=>rfl)))) (fun _ _ _ _=>(pv 0)) rfl rfl (fun _=>rfl)) (pv 2))) (zc (zB (i:=4) sc_lines.nd rfl (Or.inl rfl) (yh zb)) (zc (zB (i:=5) sc_lines.nd rfl (Or.inl rfl) (abd (aac (w:=w) rfl) rfl ual arM)) (zc (yB aoT rfl (zW (K:=K) rfl (pv 3)) (zf (i:=6) sc_lines.nd rfl (Or.inl rfl) (Or.inr rfl)) (zg (yA (zJ (abz (w:=w) (K:=K) rfl rfl hr.units) (pv 6) (pv 5) rfl) (zc (zB (i:=7) sc_lines.nd rfl (Or.inl rfl) (zd ubf hr rfl (za (pv 0) (za (pv 1) (za (pv 6) zb))))) (zc (yp (aaB apa apc apd yP (pv 4) (za (pv 7) zb))) (zg (yB aoT rfl (qq (K:=K) rfl (zI (yf (K:=K) rfl) (pv 7) ze (fun _ _=>rfl))) (zf (i:=8) sc_lines.nd rfl (Or.inl rfl) (Or.inr rfl)) (zg (yp (aji (w:=w) rfl aqS arU (aes (w:=w) (K:=K) rfl rfl hr.units) (pv 5) (za (pv 8) zb)))))))) zV))) (zg (zt (zA (ac5 (K:=K) rfl hr.units) rfl uam arv (za (pv 4) zb)))))))))),?_⟩
 rintro f xs ⟨rows,wd,cut⟩ hl ⟨rfl,gd⟩
 try dsimp only [z5,zl]
 dsimp only at *
 have gl:=acE (cut:=cut) gd
 refine qG (vO (zp (rows,wd) ?_))
 walk_at "w"
 rintro _ rfl
 refine qG (zP (PEdO.ped (jg (rows,wd,cut) ?_)))
 walk_at "w"
 rintro _ rfl
 dsimp only
 rw [<-qS]
 refine zi ?_
 refine qG (zP (afi (PEdO.ped (qP (yx (zm rfl ⟨_,rfl,fun n ρ es=>(∃ u,ρ=[u,some (.dat (tab rows)),some (.dat (.int cut))])/\es=(((yb rows wd cut).take n).filter (inB rows wd cut)).map gD3,⟨⟨_,rfl⟩,rfl⟩,?_,?_⟩))))))
 ·rintro D n d ρ' es hd ⟨⟨u,rfl⟩,rfl⟩
  rw [aoq] at hd
  cases hq:(yb rows wd cut)[n]? with
  | none=>rw [hq] at hd;cases hd
  | some q =>
   rw [hq] at hd
   cases hd
   have oq:=mem_gates.mp (aoj hq)
   have tk:(yb rows wd cut).take (n+1)=(yb rows wd cut).take n++[q]:=by
    rw [aqI,hq]
    rfl
   have len:((((yb rows wd cut).take n).filter (inB rows wd cut)).map gD3).length<1000:=by
    rw [aog]
    have a1:=ao5 (inB rows wd cut) ((yb rows wd cut).take n)
    rw [aoX] at a1
    omega
   refine zi (yH (zp (rows,wd,cut,q) ?_))
   walk_at "w"
   rintro _ rfl
   dsimp only
   refine⟨_,rfl,?_⟩
   refine zS (fun h=>?_) fun h=>?_
   ·refine yl len ?_
    walk_at "w"
    rw [tk,api,aoF,ao0,show inB rows wd cut q=true from h,if_pos rfl]
    rfl
   ·refine⟨⟨_,rfl⟩,?_⟩
    rw [tk,api,aoF,ao0,show inB rows wd cut q=false from h,if_neg aoi]
    simp
 ·rintro ρ' es ⟨_,rfl⟩
  rw [aog,aoZ]
  have il:((yb rows wd cut).filter (inB rows wd cut)).length<=98:=aoN (ao5 _ _) gl
  refine⟨_,rfl,zm rfl ⟨_,rfl,by rw [aog,aog];omega,?_⟩⟩
  refine zi ?_
  dsimp only
  rw [<-aoF]
  refine akM (w:=w) (ajg (vb (abp ?_)))
  walk_at "w"
  refine⟨show 4<9 by decide,fun D1=>?_⟩
  refine ajg (ajj ⟨show 5<9 by decide,fun D2=>?_⟩)
  refine amK (qR (yx (zm rfl ?_)))
  generalize hS:(yb rows wd cut).filter (inB rows wd cut)++yb rows wd cut=S
  generalize hG:PyData.list (aqQ gD3 (yb rows wd cut))=G
  refine⟨_,rfl,fun i ρ cs=>∃ ts u v x,ρ=[some (.dat (tab rows)),some (.dat (.int cut)),some (.dat G),some (.dat (.list (S.map gD3))),some (.own (f.M.length+0)),some (.own (f.M.length+1)),u,v,x]/\cs=[.lst (ts.map zX),.set ((flat ts).map gD3).reverse]/\Told rows wd cut ts/\∀ j g,j<i->S[j]?=some g->g∈flat ts,?_,?_,?_⟩
  ·exact⟨[],_,_,_,rfl,rfl,⟨(fun _ h=>nomatch h),(fun _ h=>nomatch h),apj,(fun _ h=>nomatch h)⟩,fun j g h=>absurd h (apz _)⟩
  ·rintro i d _ _ hd ⟨ts,u,v,x,rfl,rfl,T,past⟩
   rw [aoq] at hd
   cases hq:S[i]? with
   | none=>rw [hq] at hd;cases hd
   | some q =>
    rw [hq] at hd
    cases hd
    have oq:opG rows wd cut q=true:=by
     have hm:=aoj hq
     rw [<-hS] at hm
     rcases aou.mp hm with h | h
     ·exact mem_gates.mp (ao6.mp h).1
     ·exact mem_gates.mp h
    have memk:(gD3 q∈((flat ts).map gD3).reverse)↔q∈flat ts:=by
     rw [apM,aoC]
     exact⟨fun⟨a,ha,e⟩=>adz e▸ha,fun h=>⟨q,h,rfl⟩⟩
    refine zi (ahB (alT (i:=5) (j:=1) rfl rfl (aab (zm rfl ⟨qW _,?_⟩))))
    rw [if_pos rfl]
    by_cases hin:q∈flat ts
    ·rw [decide_eq_true (memk.mpr hin),show (!true)=false from rfl,if_neg aoi]
     refine aby ⟨ts,_,_,_,rfl,rfl,T,fun j g hj hg=>?_⟩
     rcases arw.mp hj with h | h
     ·exact past j g h hg
     ·rw [h,hq] at hg
      cases hg
      exact hin
    ·rw [decide_eq_false (fun z=>hin (memk.mp z)),show (!false)=true from rfl,if_pos rfl]
     refine vH (abx (zP (zp (rows,wd,cut,q) ?_)))
     walk_at "w"
     rintro _ ⟨ring,l,rfl,L,hh⟩
     dsimp only at L hh
     have T2:Told rows wd cut (ts++[(ring,l)]):=by
      by_cases hi:i<((yb rows wd cut).filter (inB rows wd cut)).length
      ·have hp:yo rows wd cut q=none:=by
        rw [<-hS,aov hi] at hq
        exact (ajP oq).mp (ao6.mp (aoj hq)).2
       have r0:=am8 L hh hp
       exact T.more L hh hin (fun _=>hp) fun z=>by rw [r0] at z;cases z
      ·have all:∀ g,opG rows wd cut g=true->yo rows wd cut g=none->g∈flat ts:=fun g og hp=>by
        have hm:g∈(yb rows wd cut).filter (inB rows wd cut):=ao6.mpr ⟨mem_gates.mpr og,(ajP og).mpr hp⟩
        obtain⟨j,hj⟩:=aoO hm
        obtain⟨hlt,_⟩:=aoh.mp hj
        refine past j g (by omega) ?_
        rw [<-hS,aov hlt]
        exact hj
       have r1:=alj T all L hh hin
       refine T.more L hh hin (fun z=>by rw [r1] at z;cases z) fun _ g hg=>?_
       have fr:=T.fresh L hh hin g hg
       obtain⟨j,hj⟩:=aoO (mem_gates.mpr (L.op g hg))
       have hq':=hq
       rw [<-hS,aoG (by omega)] at hq'
       have pw:(yb rows wd cut).Pairwise gLt:=by rw [qS];exact (aeK _ _).filter _
       obtain⟨l1,e1⟩:=aoh.mp hj
       obtain⟨l2,e2⟩:=aoh.mp hq'
       rcases Nat.lt_trichotomy j (i - ((yb rows wd cut).filter (inB rows wd cut)).length) with h | h | h
       ·refine absurd (past (j+((yb rows wd cut).filter (inB rows wd cut)).length) g (by omega) ?_) fr
        rw [<-hS,aoG (by omega),Nat.add_sub_cancel]
        exact hj
       ·left
        rw [<-e1,<- e2]
        congr 1
       ·right
        rw [<-e1,<- e2]
        exact apq.mp pw _ _ l2 l1 h
     have hf:=T2.len gd
     have nd2:=T2.nd
     rw [vm] at nd2 hf
     have few:=T.few gd
     refine zi ?_
     refine vH (aaG (i:=4) (j:=0) rfl rfl (by rw [aog];omega) (aab (zm rfl ?_)))
     refine qR (abk (vA (zm rfl ?_)))
     walk_at "w"
     refine⟨fun m ρ cs=>∃ x,ρ=[some (.dat (tab rows)),some (.dat (.int cut)),some (.dat G),some (.dat (.list (S.map gD3))),some (.own (f.M.length+0)),some (.own (f.M.length+1)),some (.dat (gD3 q)),some (.dat (zX (ring,l))),x]/\cs=[.lst ((ts++[(ring,l)]).map zX),.set ((flat ts++l.take m).map gD3).reverse],?_,?_,?_⟩
     ·refine⟨_,rfl,?_⟩
      rw [ap2,apf,aoF]
      rfl
     ·rintro m d _ _ hd ⟨x,rfl,rfl⟩
      rw [aoq] at hd
      cases hg:l[m]? with
      | none=>rw [show (ring,l).2[m]?=none from hg] at hd;cases hd
      | some g =>
       rw [show (ring,l).2[m]?=some g from hg] at hd
       cases hd
       have tk:l.take (m+1)=l.take m++[g]:=by
        rw [aqI,hg]
        rfl
       have sp:l=l.take m++g :: l.drop (m+1):=by
        obtain⟨hlt,e⟩:=aoh.mp hg
        rw [<-e,<- arj hlt,aqd]
       have hnew:g∉flat ts++l.take m:=fun z=>by
        have nd3:(flat ts++l).Nodup:=nd2
        rw [sp,<- apx] at nd3
        exact (ao8.mp nd3).2.2 g z g (aom ..) rfl
       have len:(((flat ts++l.take m).map gD3).reverse).length<300:=by
        rw [arY,aog,aox,aoX]
        have:(flat ts++l).length<=98:=hf
        rw [aox] at this
        omega
       refine zi (alU (i:=5) (j:=1) rfl rfl len (aab (zm rfl ⟨qW _,fun z=>?_,fun _=>?_⟩)))
       ·rw [apM,aoC] at z
        obtain⟨a,ha,e⟩:=z
        exact absurd (adz e▸ha) hnew
       ·refine⟨_,rfl,?_⟩
        show [OC.lst _,OC.set (gD3 g :: ((flat ts++l.take m).map gD3).reverse)]=_
        rw [tk,<- apx,aoF (l₁:=flat ts++l.take m),aqp]
        rfl
     ·rintro _ _ ⟨x,rfl,rfl⟩
      refine⟨ts++[(ring,l)],_,_,_,rfl,?_,T2,fun j g hj hg=>?_⟩
      ·rw [aog,show (ring,l).2.length=l.length from rfl,aoZ,vm]
      ·rw [vm]
       rcases arw.mp hj with h | h
       ·exact aoJ _ (past j g h hg)
       ·rw [h,hq] at hg
        cases hg
        exact aoA _ (apb hh)
  ·rintro _ _ ⟨ts,u,v,x,rfl,rfl,T,past⟩
   have few:=T.few gd
   refine akN (acm (ai3 "str" (zm (i:=4) (d:=.list (ts.map zX)) ?_ ⟨_,rfl,ajK T,by rw [aog];omega,.inl (by rw [aog];omega),fun es pm up=>?_⟩)))
   ·show some (freed _ _ _)=_
    simp [freed]
   ·obtain⟨us,p,rfl⟩:=qv pm ts rfl
    refine⟨us,rfl,T.perm p,fun g og=>?_,up⟩
    have hm:g∈S:=by rw [<-hS];exact aoA _ (mem_gates.mpr og)
    obtain⟨j,hj⟩:=aoO hm
    obtain⟨hlt,_⟩:=aoh.mp hj
    exact (p.flatMap_right _).mem_iff.mpr (past j g (by rw [aog];exact hlt) hj)
section
variable {rows:List (List Int)} {wd:Nat} {cut:Int}
theorem aeT {q:Bool} {l m:List Gt} (L:LineOk rows wd cut q l) (M:LineOk rows wd cut q m) (hh:l.head?=m.head?):∀ i,i<l.length->i<m.length/\l[i]?=m[i]?:=by
 intro i
 induction i with
 | zero =>
  intro hi
  rw [ao1,ao1] at hh
  refine⟨?_,hh⟩
  rw [aof hi] at hh
  exact (aoh.mp hh.symm).1
 | succ i ih =>
  intro hi
  obtain⟨h1,h2⟩:=ih (by omega)
  have a1:l[i]?=some l[i]:=aof (by omega)
  have a2:l[i+1]?=some l[i+1]:=aof hi
  have hn:=L.ch i _ _ a1 a2
  rw [a1] at h2
  by_cases hm:i+1<m.length
  ·have b2:m[i+1]?=some m[i+1]:=aof hm
   have hn':=M.ch i _ _ h2.symm b2
   rw [hn] at hn'
   exact⟨hm,by rw [a2,b2,hn']⟩
  ·have hz:m.getLast?=some l[i]:=by rw [apS,show m.length - 1=i by omega];exact h2.symm
   have hl:=M.last _ hz
   rw [hn] at hl
   cases q with
   | false=>cases hl
   | true =>
    rw [if_pos rfl,<- hh,ao1,<- a2] at hl
    have:=(arp hi L.nd).mp hl
    omega
theorem ajR {q:Bool} {l m:List Gt} (L:LineOk rows wd cut q l) (M:LineOk rows wd cut q m) (hh:l.head?=m.head?):l=m:=by
 refine aqf fun i=>?_
 by_cases h:i<l.length
 ·exact (aeT L M hh i h).2
 ·by_cases h2:i<m.length
  ·exact ((aeT M L hh.symm i h2).2).symm
  ·rw [aoP (by omega),aoP (by omega)]
theorem adb {q:Bool} {l:List Gt} (L:LineOk rows wd cut q l) {t:Bool×List Gt} (T:LineOk rows wd cut t.1 t.2) (st:yZ rows wd cut t) {h:Gt} (hl:h∈l) (ht:h∈t.2):∀ g∈l,g∈t.2:=by
 obtain⟨j,hj⟩:=aoO hl
 obtain⟨hlt,_⟩:=aoh.mp hj
 have up:∀ n i,i=j+n->∀ g,l[i]?=some g->g∈t.2:=fun n=>by
  induction n with
  | zero =>
   intro i hi g hg
   rw [hi,ar5,hj] at hg
   cases hg
   exact ht
  | succ n ih =>
   intro i hi g hg
   obtain⟨hl2,_⟩:=aoh.mp hg
   have a1:l[j+n]?=some l[j+n]:=aof (by omega)
   rw [show i=j+n+1 by omega] at hg
   exact jP T (ih _ rfl _ a1) (L.ch _ _ _ a1 hg)
 have dn:∀ n i,i+n=j->∀ g,l[i]?=some g->g∈t.2:=fun n=>by
  induction n with
  | zero =>
   intro i hi g hg
   rw [show i=j by omega,hj] at hg
   cases hg
   exact ht
  | succ n ih =>
   intro i hi g hg
   have a1:l[i+1]?=some l[i+1]:=aof (by omega)
   exact jO T st (L.op g (aoj hg)) (ih (i+1) (by omega) _ a1) (L.ch i _ _ hg a1)
 intro g hg
 obtain⟨i,hi⟩:=aoO hg
 by_cases h':j<=i
 ·exact up (i - j) i (by omega) g hi
 ·exact dn (j - i) i (by omega) g hi
theorem ajS {a b:Gt} (h:gLt a b) (h':gLt b a):False:=by
 unfold gLt at h h'
 omega
theorem aeU {ts us:List (Bool×List Gt)} (T:Told rows wd cut ts) (U:Told rows wd cut us) (all:∀ g,opG rows wd cut g=true->g∈flat us) {t:Bool×List Gt} (ht:t∈ts):t∈us:=by
 have L:=T.line t ht
 obtain⟨h,hh⟩:∃ h,t.2.head?=some h:=by
  cases q:t.2 with
  | nil=>exact absurd q L.ne
  | cons x l=>exact⟨x,rfl⟩
 have hm:=apb hh
 obtain⟨u,hu,hmu⟩:=ao3.mp (all h (L.op h hm))
 have M:=U.line u hu
 have s1:=adb L M (U.st u hu) hm hmu
 have s2:=adb M L (T.st t ht) hmu hm
 obtain⟨k,hk⟩:∃ k,u.2.head?=some k:=by
  cases q:u.2 with
  | nil=>exact absurd q M.ne
  | cons x l=>exact⟨x,rfl⟩
 have hkm:=apb hk
 have noPrev:∀ {r:List Gt} {g:Gt},LineOk rows wd cut true r->g∈r->yo rows wd cut g≠none:=fun R hg z=>by
  obtain⟨n,hn,_⟩:=aa0 (R.op _ hg) (acI R hg).2
  rw [z] at hn
  cases hn
 have kind:t.1=u.1:=by
  cases h1:t.1 with
  | true =>
   cases h2:u.1 with
   | true=>rfl
   | false =>
    rw [h1] at L
    exact absurd (U.st u hu h2 k hk) (noPrev L (s2 k hkm))
  | false =>
   cases h2:u.1 with
   | false=>rfl
   | true =>
    rw [h2] at M
    exact absurd (T.st t ht h1 h hh) (noPrev M hmu)
 have hd:h=k:=by
  cases h1:t.1 with
  | true =>
   rcases T.least t ht h1 h hh k (s2 k hkm) with e | e
   ·exact e.symm
   ·rcases U.least u hu (kind▸h1) k hk h hmu with e' | e'
    ·exact e'
    ·exact (ajS e e').elim
  | false =>
   have hp:=T.st t ht h1 h hh
   obtain⟨i,hi⟩:=aoO hmu
   match i,hi with
   | 0,hi =>
    rw [ao1,hi] at hk
    exact Option.some.inj hk
   | i+1,hi =>
    obtain⟨hlt,_⟩:=aoh.mp hi
    have a1:u.2[i]?=some u.2[i]:=aof (by omega)
    have:=next_prev (M.op _ (aoj a1)) (M.ch i _ _ a1 hi)
    rw [hp] at this
    cases this
 have e2:t.2=u.2:=by
  rw [<-kind] at M
  exact ajR L M (by rw [hh,hk,hd])
 have:t=u:=Prod.ext kind e2
 rw [this]
 exact hu
theorem ah7 {t u:Bool×List Gt} (h:zX t=zX u):t=u:=by
 unfold zX at h
 injection h with h
 injection h with h1 h2
 injection h2 with h2 _
 injection h2 with h2
 refine Prod.ext ?_ ?_
 ·have ne:PyData.str "ring"≠PyData.str "run":=fun z=>by
   have:=aqF (PyData.str "ring") (by decide +kernel)
   rw [show aoH (.str "ring") (.str "ring")=aoH (.str "ring") (.str "run") by rw [<-z]] at this
   exact absurd this (by decide +kernel)
  cases h3:t.1 <;> cases h4:u.1
  ·rfl
  ·rw [h3,h4] at h1;exact absurd h1.symm ne
  ·rw [h3,h4] at h1;exact absurd h1 ne
  ·rfl
 ·exact ard (fun _ _=>aeS) |>.mp h2
theorem vX:∀ {l m:List PyData},(∀ d∈l,zv d=true)->(l.Pairwise fun d e=>ltD d e=true)->(m.Pairwise fun d e=>ltD d e=true)->(∀ d,d∈l↔d∈m)->l=m
 | [],[],_,_,_,_=>rfl
 | [],b :: m,_,_,_,h=>nomatch (h b).mpr (aom ..)
 | a :: l,[],_,_,_,h=>nomatch (h a).mp (aom ..)
 | a :: l,b :: m,pl,p,q,h=>by
  obtain⟨p1,p2⟩:=apt.mp p
  obtain⟨q1,q2⟩:=apt.mp q
  have pa:=pl a (aom ..)
  have pb:=pl b ((h b).mpr (aom ..))
  have ab:a=b:=by
   rcases aor.mp ((h a).mp (aom ..)) with e | e
   ·exact e
   ·rcases aor.mp ((h b).mpr (aom ..)) with e' | e'
    ·exact e'.symm
    ·have:=abr _ _ _ pa pb pa (p1 b e') (q1 a e)
     rw [jV a pa] at this
     cases this
  subst ab
  rw [vX (fun d hd=>pl d (aon _ hd)) p2 q2 fun d=>?_]
  constructor
  ·intro hd
   rcases aor.mp ((h d).mp (aon _ hd)) with e | e
   ·have:=p1 d hd
    rw [e,jV a pa] at this
    cases this
   ·exact e
  ·intro hd
   rcases aor.mp ((h d).mpr (aon _ hd)) with e | e
   ·have:=q1 d hd
    rw [e,jV a pa] at this
    cases this
   ·exact e
theorem aeV {ts us:List (Bool×List Gt)} (T:Told rows wd cut ts) (U:Told rows wd cut us) (aT:∀ g,opG rows wd cut g=true->g∈flat ts) (aU:∀ g,opG rows wd cut g=true->g∈flat us)
  (pT:(ts.map zX).Pairwise fun d e=>ltD d e=true) (pU:(us.map zX).Pairwise fun d e=>ltD d e=true):ts=us:=by
 have e:ts.map zX=us.map zX:=vX (fun d hd=>by obtain⟨t,_,rfl⟩:=aoC.mp hd;exact abH t) pT pU fun d=>by
  constructor
  ·intro hd
   obtain⟨t,ht,rfl⟩:=aoC.mp hd
   exact aoC.mpr ⟨t,aeU T U aU ht,rfl⟩
  ·intro hd
   obtain⟨t,ht,rfl⟩:=aoC.mp hd
   exact aoC.mpr ⟨t,aeU U T aT ht,rfl⟩
 exact (ard fun _ _=>ah7).mp e
end
abbrev Pt:=Int×Int
def pD (p:Pt):PyData:=.tuple [.int p.1,.int p.2]
theorem aaz {a b:Pt} (h:pD a=pD b):a=b:=by
 obtain⟨x,y⟩:=a
 obtain⟨x',y'⟩:=b
 unfold pD at h
 simp at h
 simp [h]
theorem jW (p:Pt):abX (pD p):=⟨⟨rfl,aoS rfl⟩,_,rfl⟩
theorem mem_pD {l:List Pt} {p:Pt}:pD p∈l.map pD↔p∈l:=by
 rw [aoC]
 exact⟨fun⟨q,hq,e⟩=>aaz e▸hq,fun h=>⟨p,h,rfl⟩⟩
theorem anb {l:List Pt} (nd:l.Nodup):SortOk "int" (l.map pD) where
 plain:=fun d hd=>by obtain⟨g,_,rfl⟩:=aoC.mp hd;rfl
 head:=fun d hd=>by obtain⟨g,_,rfl⟩:=aoC.mp hd;rfl
 cmp:=fun d hd e he=>by
  obtain⟨⟨x,y⟩,_,rfl⟩:=aoC.mp hd
  obtain⟨⟨x',y'⟩,_,rfl⟩:=aoC.mp he
  show v7 (.tuple [.int x,.int y]) (.tuple [.int x',.int y'])=true
  simp only [v7,vP]
  split
  ·split <;> rfl
  ·rfl
 depth:=fun d hd=>by obtain⟨g,_,rfl⟩:=aoC.mp hd;exact aoS rfl
 nd:=apr.mpr (nd.imp fun {a b} h e=>h (aaz e))
theorem ah8 (l:List Pt):∀ d∈l.map pD,zv d=true:=fun d hd=>by obtain⟨g,_,rfl⟩:=aoC.mp hd;rfl
theorem alm {l m:List Pt} (p:(l.map pD).Pairwise fun d e=>ltD d e=true) (q:(m.map pD).Pairwise fun d e=>ltD d e=true) (h:∀ x,x∈l↔x∈m):l=m:=by
 have e:l.map pD=m.map pD:=vX (ah8 l) p q fun d=>by
  constructor
  ·intro hd
   obtain⟨x,hx,rfl⟩:=aoC.mp hd
   exact mem_pD.mpr ((h x).mp hx)
  ·intro hd
   obtain⟨x,hx,rfl⟩:=aoC.mp hd
   exact mem_pD.mpr ((h x).mpr hx)
 exact (ard fun _ _=>aaz).mp e
section
variable (rows:List (List Int)) (wd:Nat) (cut:Int)
def inP (p:Pt):Bool:=zO rows wd p.1 p.2
def hiP (p:Pt):Bool:=hiB rows cut p.1 p.2
def nbL (p:Pt):List Pt:=[(p.1 - 1,p.2),(p.1,p.2 - 1),(p.1,p.2+1),(p.1+1,p.2)]
def caL (p:Pt):List Pt:=[(p.1 - 1,p.2 - 1),(p.1 - 1,p.2),(p.1,p.2 - 1),(p.1,p.2)]
def asl (p c:Pt):Pt:=(2 * c.1+1 - p.1,2 * c.2+1 - p.2)
def aaJ (c:Pt):Bool:=zD rows wd c.1 c.2
def yX (p:Pt):List Pt:=(((nbL p).filter (inP rows wd)).filter fun q=>hiP rows cut q == hiP rows cut p)++((((caL p).filter (aaJ rows wd)).filter fun c=>yN rows wd cut c.1 c.2 && (jz rows cut c.1 c.2 == hiP rows cut p)).map (asl p))
inductive Reach (s:Pt):Pt->Prop where
 | refl:Reach s s
 | step {p q:Pt}:Reach s p->q∈yX rows wd cut p->Reach s q
end
section
variable {rows:List (List Int)} {wd:Nat} {cut:Int}
theorem aeW {a b:Int} (c:zD rows wd a b=true) (h:yN rows wd cut a b=true):hiB rows cut (a+1) b=!hiB rows cut a b/\hiB rows cut a (b+1)=!hiB rows cut a b/\hiB rows cut (a+1) (b+1)=hiB rows cut a b:=by
 unfold yN cg opG at h
 simp only [aqP,ar9,aru,aoo] at h
 rw [aaX c,adw c,aaY c,aaZ c] at h
 revert h
 cases hiB rows cut a b <;> cases hiB rows cut (a+1) b <;> cases hiB rows cut a (b+1) <;> cases hiB rows cut (a+1) (b+1) <;> decide
theorem adC {p q:Pt}:q∈nbL p↔(q=(p.1 - 1,p.2) \/ q=(p.1,p.2 - 1) \/ q=(p.1,p.2+1) \/ q=(p.1+1,p.2)):=by
 unfold nbL
 simp only [aor,aph,or_false]
theorem aln {p q:Pt} (h:q∈nbL p):p∈nbL q:=by
 rw [adC] at h ⊢
 obtain⟨x,y⟩:=p
 rcases h with rfl | rfl | rfl | rfl
 ·exact .inr (.inr (.inr (by simp)))
 ·exact .inr (.inr (.inl (by simp)))
 ·exact .inr (.inl (by simp))
 ·exact .inl (by simp)
theorem anc {p c:Pt}:c∈caL p↔(c=(p.1 - 1,p.2 - 1) \/ c=(p.1 - 1,p.2) \/ c=(p.1,p.2 - 1) \/ c=(p.1,p.2)):=by
 unfold caL
 simp only [aor,aph,or_false]
theorem adD {p c:Pt}:c∈caL p↔((p.1=c.1 \/ p.1=c.1+1)/\(p.2=c.2 \/ p.2=c.2+1)):=by
 rw [anc]
 obtain⟨x,y⟩:=p
 obtain⟨a,b⟩:=c
 simp only [Prod.mk.injEq]
 omega
theorem alo (p c:Pt):asl (asl p c) c=p:=by
 obtain⟨x,y⟩:=p
 unfold asl
 simp only [Prod.mk.injEq]
 omega
theorem ane {p c:Pt} (h:c∈caL p):c∈caL (asl p c):=by
 rw [adD] at h ⊢
 unfold asl
 dsimp only
 omega
theorem afH {p c:Pt} (h:c∈caL p) (cc:aaJ rows wd c=true) (x:yN rows wd cut c.1 c.2=true):hiP rows cut (asl p c)=hiP rows cut p/\inP rows wd (asl p c)=true:=by
 obtain⟨h1,h2,h3⟩:=aeW cc x
 obtain⟨i1,i2,i3,i4⟩:=cell_in cc
 obtain⟨a,b⟩:=c
 obtain⟨u,v⟩:=p
 rw [adD] at h
 dsimp only at h h1 h2 h3 i1 i2 i3 i4
 unfold hiP inP asl
 dsimp only
 obtain⟨hu,hv⟩:=h
 rcases hu with rfl | rfl <;> rcases hv with rfl | rfl
 ·rw [show 2 * u+1 - u=u+1 by omega,show 2 * v+1 - v=v+1 by omega]
  exact⟨h3,i3⟩
 ·rw [show 2 * u+1 - u=u+1 by omega,show 2 * b+1 - (b+1)=b by omega]
  exact⟨by rw [h1,h2],i2⟩
 ·rw [show 2 * a+1 - (a+1)=a by omega,show 2 * v+1 - v=v+1 by omega]
  exact⟨by rw [h1,h2],i4⟩
 ·rw [show 2 * a+1 - (a+1)=a by omega,show 2 * b+1 - (b+1)=b by omega]
  exact⟨h3.symm,i1⟩
theorem mem_join {p q:Pt}:q∈yX rows wd cut p↔((q∈nbL p/\inP rows wd q=true/\hiP rows cut q=hiP rows cut p) \/ ∃ c,c∈caL p/\aaJ rows wd c=true/\yN rows wd cut c.1 c.2=true/\jz rows cut c.1 c.2=hiP rows cut p/\q=asl p c):=by
 unfold yX
 rw [aou,ao6,ao6,aoC]
 constructor
 ·rintro (⟨⟨h1,h2⟩,h3⟩ | ⟨c,hc,rfl⟩)
  ·exact .inl ⟨h1,h2,by simpa using h3⟩
  ·obtain⟨h1,h2⟩:=ao6.mp hc
   obtain⟨h3,h4⟩:=ao6.mp h1
   rw [aoo] at h2
   exact .inr ⟨c,h3,h4,h2.1,by simpa using h2.2,rfl⟩
 ·rintro (⟨h1,h2,h3⟩ | ⟨c,h1,h2,h3,h4,rfl⟩)
  ·exact .inl ⟨⟨h1,h2⟩,by simpa using h3⟩
  ·refine .inr ⟨c,ao6.mpr ⟨ao6.mpr ⟨h1,h2⟩,?_⟩,rfl⟩
   rw [h3,h4]
   simp
theorem adE {p q:Pt} (h:q∈yX rows wd cut p):inP rows wd q=true/\hiP rows cut q=hiP rows cut p:=by
 rcases mem_join.mp h with⟨_,h2,h3⟩ | ⟨c,h1,h2,h3,_,rfl⟩
 ·exact⟨h2,h3⟩
 ·exact⟨(afH h1 h2 h3).2,(afH h1 h2 h3).1⟩
theorem ah9 {p q:Pt} (hp:inP rows wd p=true) (h:q∈yX rows wd cut p):p∈yX rows wd cut q:=by
 rcases mem_join.mp h with⟨h1,h2,h3⟩ | ⟨c,h1,h2,h3,h4,rfl⟩
 ·exact mem_join.mpr (.inl ⟨aln h1,hp,h3.symm⟩)
 ·exact mem_join.mpr (.inr ⟨c,ane h1,h2,h3,h4.trans (afH h1 h2 h3).1.symm,(alo p c).symm⟩)
theorem Reach.trans {s p q:Pt} (h:Reach rows wd cut s p) (h':Reach rows wd cut p q):Reach rows wd cut s q:=by
 induction h' with
 | refl=>exact h
 | step _ hq ih=>exact ih.step hq
theorem Reach.ins {s p:Pt} (hs:inP rows wd s=true) (h:Reach rows wd cut s p):inP rows wd p=true/\hiP rows cut p=hiP rows cut s:=by
 induction h with
 | refl=>exact⟨hs,rfl⟩
 | step _ hq ih=>exact⟨(adE hq).1,(adE hq).2.trans ih.2⟩
theorem Reach.symm {s p:Pt} (hs:inP rows wd s=true) (h:Reach rows wd cut s p):Reach rows wd cut p s:=by
 induction h with
 | refl=>exact .refl
 | step h1 hq ih=>exact (Reach.refl.step (ah9 (h1.ins hs).1 hq)).trans ih
structure Reg (rows:List (List Int)) (wd:Nat) (cut:Int) (r:Bool×List Pt) (h:Pt):Prop where
 hd:r.2.head?=some h
 up:(r.2.map pD).Pairwise fun d e=>ltD d e=true
 mem:∀ q,q∈r.2↔Reach rows wd cut h q
 inn:inP rows wd h=true
 hi:r.1=hiP rows cut h
structure Regs (rows:List (List Int)) (wd:Nat) (cut:Int) (rs:List (Bool×List Pt)):Prop where
 reg:∀ r∈rs,∃ h,Reg rows wd cut r h
 all:∀ p,inP rows wd p=true->∃ r∈rs,p∈r.2
 ord:rs.Pairwise fun a b=>∀ p q,a.2.head?=some p->b.2.head?=some q->ltD (pD p) (pD q)=true
theorem agZ {r r':Bool×List Pt} {h h':Pt} (R:Reg rows wd cut r h) (R':Reg rows wd cut r' h') {p:Pt} (hp:p∈r.2) (hp':p∈r'.2):r=r':=by
 have a1:=(R.mem p).mp hp
 have a2:=(R'.mem p).mp hp'
 have e:r.2=r'.2:=alm R.up R'.up fun x=>by
  rw [R.mem,R'.mem]
  exact⟨fun z=>a2.trans ((a1.symm R.inn).trans z),fun z=>a1.trans ((a2.symm R'.inn).trans z)⟩
 have eh:h=h':=by
  have:=R.hd
  rw [e,R'.hd] at this
  exact (Option.some.inj this).symm
 exact Prod.ext (by rw [R.hi,R'.hi,eh]) e
def hdP (r:Bool×List Pt):Pt:=r.2.headD (0,0)
theorem Reg.hdP {r:Bool×List Pt} {h:Pt} (R:Reg rows wd cut r h):My.hdP r=h:=by
 unfold My.hdP
 rw [List.headD_eq_head?_getD,R.hd]
 rfl
theorem ajT {rs us:List (Bool×List Pt)} (A:Regs rows wd cut rs) (B:Regs rows wd cut us):rs=us:=by
 have mem:∀ {rs us:List (Bool×List Pt)},Regs rows wd cut rs->Regs rows wd cut us->∀ r∈rs,r∈us:=fun A B r hr=>by
  obtain⟨h,R⟩:=A.reg r hr
  have hm:h∈r.2:=apb R.hd
  obtain⟨u,hu,hmu⟩:=B.all h R.inn
  obtain⟨h',U⟩:=B.reg u hu
  rw [agZ R U hm hmu]
  exact hu
 have key:∀ (rs us:List (Bool×List Pt)),(∀ r∈rs,∃ h,Reg rows wd cut r h)->(∀ r∈us,∃ h,Reg rows wd cut r h)->(rs.Pairwise fun a b=>∀ p q,a.2.head?=some p->b.2.head?=some q->ltD (pD p) (pD q)=true)->(us.Pairwise fun a b=>∀ p q,a.2.head?=some p->b.2.head?=some q->ltD (pD p) (pD q)=true)->(∀ r,r∈rs↔r∈us)->rs=us:=fun rs=>by
  induction rs with
  | nil =>
   intro us _ _ _ _ h
   cases us with
   | nil=>rfl
   | cons u us=>exact nomatch (h u).mpr (aom ..)
  | cons r rs ih =>
   intro us ra rb pa pb h
   cases us with
   | nil=>exact nomatch (h r).mp (aom ..)
   | cons u us =>
    obtain⟨a1,a2⟩:=apt.mp pa
    obtain⟨b1,b2⟩:=apt.mp pb
    obtain⟨hr,R⟩:=ra r (aom ..)
    obtain⟨hu,U⟩:=rb u (aom ..)
    have e:r=u:=by
     rcases aor.mp ((h r).mp (aom ..)) with e | e
     ·exact e
     ·rcases aor.mp ((h u).mpr (aom ..)) with e' | e'
      ·exact e'.symm
      ·have:=abr (pD hr) (pD hu) (pD hr) rfl rfl rfl (a1 u e' _ _ R.hd U.hd) (b1 r e _ _ U.hd R.hd)
       rw [jV _ rfl] at this
       cases this
    subst e
    have no:∀ {l:List (Bool×List Pt)},(∀ x∈l,∀ p q,r.2.head?=some p->x.2.head?=some q->ltD (pD p) (pD q)=true)->r∉l:=fun hl hm=>by
     have:=hl r hm _ _ R.hd R.hd
     rw [jV _ rfl] at this
     cases this
    rw [ih us (fun x hx=>ra x (aon _ hx)) (fun x hx=>rb x (aon _ hx)) a2 b2 fun x=>?_]
    constructor
    ·intro hx
     rcases aor.mp ((h x).mp (aon _ hx)) with e | e
     ·exact absurd (e▸hx) (no a1)
     ·exact e
    ·intro hx
     rcases aor.mp ((h x).mpr (aon _ hx)) with e | e
     ·exact absurd (e▸hx) (no b1)
     ·exact e
 exact key rs us A.reg B.reg A.ord B.ord fun r=>⟨mem A B r,mem B A r⟩
def qe (t n:Nat):List Pt:=(aow n).flatMap fun (x:Nat)=>(aow t).map fun (y:Nat)=>((x:Int),(y:Int))
theorem alp (t n:Nat):j9 t n=(qe t n).map pD:=by
 unfold j9 qe
 rw [arA]
 congr 1
 funext x
 rw [apJ]
 rfl
theorem mem_pts {p:Pt}:p∈qe rows.length wd↔inP rows wd p=true:=by
 unfold qe inP zO
 rw [ao3]
 constructor
 ·rintro⟨x,hx,h⟩
  obtain⟨y,hy,rfl⟩:=aoC.mp h
  rw [aoK] at hx hy
  simp only [aoo,decide_eq_true_eq]
  omega
 ·intro h
  simp only [aoo,decide_eq_true_eq] at h
  obtain⟨u,v⟩:=p
  dsimp only at h
  refine⟨u.toNat,aoK.mpr (by omega),aoC.mpr ⟨v.toNat,aoK.mpr (by omega),?_⟩⟩
  simp only [Prod.mk.injEq]
  omega
theorem abK (t:Nat):∀ n,(qe t n).length=t * n
 | 0=>rfl
 | n+1=>by
  unfold qe
  rw [aqw,apy,aox]
  have:=abK t n
  unfold qe at this
  rw [this]
  simp only [aro,List.flatMap_nil,apf,aog,aoU]
  rw [ar8]
theorem ajU {a b:Pt} (h:a.1<b.1 \/ (a.1=b.1/\a.2<b.2)):ltD (pD a) (pD b)=true:=by
 obtain⟨x,y⟩:=a
 obtain⟨x',y'⟩:=b
 dsimp only at h
 show ltD (.tuple [.int x,.int y]) (.tuple [.int x',.int y'])=true
 have e:∀ i j:Int,aoH (.int i) (.int j)=(i == j):=fun i j=>rfl
 simp only [ltD,ltL,e,beq_iff_eq]
 by_cases h1:x=x'
 ·rw [if_pos h1,if_neg (by omega)]
  exact decide_eq_true (by omega)
 ·rw [if_neg h1]
  exact decide_eq_true (by omega)
theorem alq (t n:Nat):((qe t n).map pD).Pairwise fun d e=>ltD d e=true:=by
 rw [apr]
 unfold qe
 refine adv n (fun x _=>?_) fun x x' hx _ a ha b hb=>?_
 ·rw [apr]
  refine List.Pairwise.imp (fun {a b} h=>?_) arD
  exact ajU (a:=((x:Int),(a:Int))) (b:=((x:Int),(b:Int))) (.inr ⟨rfl,by show (a:Int)<b;omega⟩)
 ·obtain⟨y,_,rfl⟩:=aoC.mp ha
  obtain⟨y',_,rfl⟩:=aoC.mp hb
  exact ajU (.inl (by show (x:Int)<x';omega))
theorem vo (g:Good wd rows) {l:List Pt} (nd:l.Nodup) (h:∀ p∈l,inP rows wd p=true):l.length<=49:=by
 have key:∀ (l m:List Pt),l.Nodup->(∀ x∈l,x∈m)->l.length<=m.length:=fun l=>by
  induction l with
  | nil=>intro m _ _;exact ao2 _
  | cons a l ih =>
   intro m nd sub
   have ha:=sub a (aom ..)
   have hn:=ao7.mp nd
   have le:=aqu ha
   have hp:0<m.length:=aqa ha
   have:=ih (m.erase a) hn.2 (fun y hy=>(aqj (fun (z:y=a)=>hn.1 (z▸hy))).mpr (sub y (aon _ hy)))
   rw [aoE]
   omega
 have h1:=key l (qe rows.length wd) nd fun p hp=>mem_pts.mpr (h p hp)
 rw [abK] at h1
 exact aoN h1 (arc g.h2 g.w2)
end
structure Seek (rows:List (List Int)) (wd:Nat) (cut:Int) (st:Pt) (fs ws:List Pt):Prop where
 nd:fs.Nodup
 wn:ws.Nodup
 fst:st∈fs
 re:∀ p∈fs,Reach rows wd cut st p
 sub:∀ p∈ws,p∈fs
 cl:∀ p∈fs,p∉ws->∀ q∈yX rows wd cut p,q∈fs
theorem Seek.done {rows:List (List Int)} {wd:Nat} {cut:Int} {st:Pt} {fs:List Pt} (S:Seek rows wd cut st fs []) (q:Pt):q∈fs↔Reach rows wd cut st q:=by
 refine⟨S.re q,fun h=>?_⟩
 induction h with
 | refl=>exact S.fst
 | step _ hq ih=>exact S.cl _ ih aph _ hq
theorem Seek.turn {rows:List (List Int)} {wd:Nat} {cut:Int} {st p:Pt} {fs ws new:List Pt} (S:Seek rows wd cut st fs (ws++[p])) (nd:(fs++new).Nodup) (hn:∀ q∈new,q∈yX rows wd cut p) (all:∀ q∈yX rows wd cut p,q∈fs++new):Seek rows wd cut st (fs++new) (ws++new) where
 nd:=nd
 wn:=by
  obtain⟨n1,n2,n3⟩:=ao8.mp nd
  obtain⟨m1,_,_⟩:=ao8.mp S.wn
  exact ao8.mpr ⟨m1,n2,fun a ha b hb=>n3 a (S.sub a (aoJ _ ha)) b hb⟩
 fst:=aoJ _ S.fst
 re:=fun q hq=>by
  rcases aou.mp hq with h | h
  ·exact S.re q h
  ·exact (S.re p (S.sub p (by simp))).step (hn q h)
 sub:=fun q hq=>by
  rcases aou.mp hq with h | h
  ·exact aoJ _ (S.sub q (aoJ _ h))
  ·exact aoA _ h
 cl:=fun r hr nw q hq=>by
  by_cases e:r=p
  ·rw [e] at hq
   exact all q hq
  ·rcases aou.mp hr with h | h
   ·refine aoJ _ (S.cl r h (fun z=>?_) q hq)
    rcases aou.mp z with z | z
    ·exact nw (aoJ _ z)
    ·exact e (aos.mp z)
   ·exact absurd (aoA _ h) nw
theorem Seek.few {rows:List (List Int)} {wd:Nat} {cut:Int} {st:Pt} {fs ws:List Pt} (S:Seek rows wd cut st fs ws) (g:Good wd rows) (hi:inP rows wd st=true):fs.length<=49:=vo g S.nd fun p hp=>((S.re p hp).ins hi).1
abbrev ab6 (fs:List Pt):List (PyData×PyData):=fs.map fun p=>(pD p,.bool true)
theorem vp (fs:List Pt):(ab6 fs).map (·.1)=fs.map pD:=by rw [apJ];rfl
theorem ajV {fs:List Pt} {q:Pt} (h:q∉fs):dput (pD q) (.bool true) (ab6 fs)=ab6 (fs++[q]):=by
 unfold dput
 rw [if_neg (by rw [vp,mem_pD];exact h)]
 unfold ab6
 rw [aoF]
 rfl
def qf (r:Bool×List Pt):PyData:=.tuple [.str (if r.1=true then "high" else "low"),.tuple (r.2.map pD)]
abbrev TP:=List (List Int)×Nat×Int×Int
abbrev anL (K:aol):Sp:=spD K 3 (fun (c:TP) xs=>xs=[.dat (tab c.1),.dat (.int c.2.2.1),.dat (.int c.2.2.2)]/\Good c.2.1 c.1) fun c r=>r=.list (((nbL (c.2.2.1,c.2.2.2)).filter (inP c.1 c.2.1)).map pD)
theorem anM (F:Def K mg "neighbours" jk pj) (uak:FnIn P w K mg base k "has_point" pj (agQ K)):FnIn P w K mg base (k+1) "neighbours" pj (anL K):=by
 refine F.ok sc_neighbours rfl fun fa cdv A outer s H E hr=>⟨_,(zc (zB (i:=3) sc_neighbours.nd rfl (Or.inl rfl) (yh (za (zC (za (zw yM (pv 1) ze) (za (pv 2) zb))) (za (zC (za (pv 1) (za (zw yM (pv 2) ze) zb))) (za (zC (za (pv 1) (za (zw zY (pv 2) ze) zb))) (za (zC (za (zw zY (pv 1) ze) (za (pv 2) zb))) zb)))))) (zg (zt (ye (N:=pE) (own:=2) (fr:=[0]) ⟨rfl,by decide +kernel,of_decide_eq_true (by kernel_rfl),of_decide_eq_true (by kernel_rfl),of_decide_eq_true (by kernel_rfl),rfl⟩ rfl (zW (K:=K) rfl (pv 3)) (fun _ _ _ _=>(zL (K:=K) (n:=2) rfl rfl (zh (zf (i:=0) (show (pE:List Str).Nodup by decide +kernel) rfl (Or.inl rfl) (Or.inr rfl)) (zh (zf (i:=1) (show (pE:List Str).Nodup by decide +kernel) rfl (Or.inl rfl) (Or.inr rfl)) zH)))) (fun _ _ _ _=>(yS (z4 (K:=K) rfl (zd uak hr rfl (za (pv 2) (za (pv 0) (za (pv 1) zb)))) (fun _=>rfl)))) (fun _ _ _ _=>(zC (za (pv 0) (za (pv 1) zb)))) rfl rfl (fun _=>rfl))))),?_⟩
 rintro f xs ⟨rows,wd,x,y⟩ hl ⟨rfl,g⟩
 try dsimp only [z5,zl]
 dsimp only at *
 refine acz (fun ρ=>ρ=[some (.dat (tab rows)),some (.dat (.int x)),some (.dat (.int y)),some (.dat (.list ((nbL (x,y)).map pD)))]) ?_ ?_
 ·walk_at "w"
  rfl
 rintro _ rfl
 refine yT (PEdO.ped (qu (A:=pD) (B:=pD) (inP rows wd) (nbL (x,y)) (yx (zm rfl ⟨_,rfl,rfl,aoS rfl,?_,rfl⟩))))
 rintro D ⟨a,b⟩ ρ' es hg ho hes
 obtain⟨us,hus,rfl⟩:=ho
 match us,hus with
 | [u1,u2],_ =>
  refine yt rfl (zo (zi (zo (zi (zT (yH (zp (rows,wd,a,b) ?_)))))))
  walk_at "w"
  rintro _ rfl
  refine⟨_,rfl,rfl,zS (fun h=>?_) fun h=>?_⟩
  ·refine yl hes ?_
   walk_at "w"
   exact⟨⟨[_,_],rfl,rfl⟩,rfl⟩
  ·exact⟨[_,_],rfl,rfl⟩
abbrev anN (K:aol):Sp:=spD K 3 (fun (c:TP) xs=>xs=[.dat (tab c.1),.dat (.int c.2.2.1),.dat (.int c.2.2.2)]/\Good c.2.1 c.1) fun c r=>r=.list (((caL (c.2.2.1,c.2.2.2)).filter (aaJ c.1 c.2.1)).map pD)
theorem anO (F:Def K mg "cells_at" qx pj) (uay:FnIn P w K mg base k "has_cell" pj (adx K)):FnIn P w K mg base (k+1) "cells_at" pj (anN K):=by
 refine F.ok sc_cells_at rfl fun fa cdv A outer s H E hr=>⟨_,(zc (zB (i:=3) sc_cells_at.nd rfl (Or.inl rfl) (yh (za (zC (za (zw yM (pv 1) ze) (za (zw yM (pv 2) ze) zb))) (za (zC (za (zw yM (pv 1) ze) (za (pv 2) zb))) (za (zC (za (pv 1) (za (zw yM (pv 2) ze) zb))) (za (zC (za (pv 1) (za (pv 2) zb))) zb)))))) (zg (zt (ye (N:=pE) (own:=2) (fr:=[0]) ⟨rfl,by decide +kernel,of_decide_eq_true (by kernel_rfl),of_decide_eq_true (by kernel_rfl),of_decide_eq_true (by kernel_rfl),rfl⟩ rfl (zW (K:=K) rfl (pv 3)) (fun _ _ _ _=>(zL (K:=K) (n:=2) rfl rfl (zh (zf (i:=0) (show (pE:List Str).Nodup by decide +kernel) rfl (Or.inl rfl) (Or.inr rfl)) (zh (zf (i:=1) (show (pE:List Str).Nodup by decide +kernel) rfl (Or.inl rfl) (Or.inr rfl)) zH)))) (fun _ _ _ _=>(yS (z4 (K:=K) rfl (zd uay hr rfl (za (pv 2) (za (pv 0) (za (pv 1) zb)))) (fun _=>rfl)))) (fun _ _ _ _=>(zC (za (pv 0) (za (pv 1) zb)))) rfl rfl (fun _=>rfl))))),?_⟩
 rintro f xs ⟨rows,wd,x,y⟩ hl ⟨rfl,g⟩
 try dsimp only [z5,zl]
 dsimp only at *
 refine acz (fun ρ=>ρ=[some (.dat (tab rows)),some (.dat (.int x)),some (.dat (.int y)),some (.dat (.list ((caL (x,y)).map pD)))]) ?_ ?_
 ·walk_at "w"
  rfl
 rintro _ rfl
 refine yT (PEdO.ped (qu (A:=pD) (B:=pD) (aaJ rows wd) (caL (x,y)) (yx (zm rfl ⟨_,rfl,rfl,aoS rfl,?_,rfl⟩))))
 rintro D ⟨a,b⟩ ρ' es hg ho hes
 obtain⟨us,hus,rfl⟩:=ho
 match us,hus with
 | [u1,u2],_ =>
  refine yt rfl (zo (zi (zo (zi (zT (yH (zp (rows,wd,a,b) ?_)))))))
  walk_at "w"
  rintro _ rfl
  refine⟨_,rfl,rfl,zS (fun h=>?_) fun h=>?_⟩
  ·refine yl hes ?_
   walk_at "w"
   exact⟨⟨[_,_],rfl,rfl⟩,rfl⟩
  ·exact⟨[_,_],rfl,rfl⟩
abbrev TC:=List (List Int)×Nat×Int×Pt
abbrev anP (c:TC) (xs:List DV):Prop:=xs=[.dat (tab c.1),.dat (.int c.2.2.1),.dat (pD c.2.2.2)]/\Good c.2.1 c.1/\inP c.1 c.2.1 c.2.2.2=true
abbrev ajW (K:aol):Sp:=spD K 3 anP fun c r=>r=.list ((yX c.1 c.2.1 c.2.2.1 c.2.2.2).map pD)
theorem aeX {α:Type} {p q:α->Bool} {l:List α} {n:Nat} (h:l.length<=n):((l.filter p).filter q).length<=n:=aoN (ao5 _ _) (aoN (ao5 _ _) h)
theorem alr (F:Def K mg "joined" aaj pA) (uac:FnIn P w K mg base k "stands_high" pA (vU K)) (ubg:FnIn P w K mg base k "neighbours" pj (anL K)) (ubh:FnIn P w K mg base k "cells_at" pj (anN K))
  (uaF:FnIn P w K mg base k "is_crossed" pq (aax K)) (uaE:FnIn P w K mg base k "has_high_middle" pq (ajz K)):FnIn P w K mg base (k+1) "joined" pA (ajW K):=by
 refine F.ok sc_joined rfl fun fa cdv A outer s H E hr=>⟨_,(zc (ya (pv 2) (zL (K:=K) (n:=2) rfl rfl (zh (zf (i:=3) sc_joined.nd rfl (Or.inr rfl) (Or.inl rfl)) (zh (zf (i:=4) sc_joined.nd rfl (Or.inr rfl) (Or.inl rfl)) zH)))) (zc (zB (i:=5) sc_joined.nd rfl (Or.inr rfl) (zd uac hr rfl (za (pv 0) (za (pv 1) (za (pv 2) zb))))) (zc (qM (i:=6) (N:=["other","rows","cut","high"]) (own:=1) (fr:=[0,1,5]) ⟨rfl,by decide +kernel,of_decide_eq_true (by kernel_rfl),of_decide_eq_true (by kernel_rfl),of_decide_eq_true (by kernel_rfl),rfl⟩ rfl sc_joined.nd rfl (Or.inl rfl) (zW (K:=K) rfl (zd ubg hr rfl (za (pv 0) (za (pv 3) (za (pv 4) zb))))) (fun _ _ _ _=>(zf (i:=0) (show (["other","rows","cut","high"]:List Str).Nodup by decide +kernel) rfl (Or.inl rfl) (Or.inr rfl))) (fun _ _ _ _=>(yS (zJ (jT (K:=K) rfl hr.units) (zd uac hr rfl (za (pv 1) (za (pv 2) (za (pv 0) zb)))) (pv 3) (zQ _)))) (fun _ _ _ _=>(pv 0)) rfl rfl (fun _=>rfl) (Or.inl rfl) rfl) (zc (qM (i:=7) (N:=pX) (own:=2) (fr:=[0,1,3,4,5]) ⟨rfl,by decide +kernel,of_decide_eq_true (by kernel_rfl),of_decide_eq_true (by kernel_rfl),of_decide_eq_true (by kernel_rfl),rfl⟩ rfl sc_joined.nd rfl (Or.inl rfl) (zW (K:=K) rfl (zd ubh hr rfl (za (pv 0) (za (pv 3) (za (pv 4) zb))))) (fun _ _ _ _=>(zL (K:=K) (n:=2) rfl rfl (zh (zf (i:=0) (show (pX:List Str).Nodup by decide +kernel) rfl (Or.inl rfl) (Or.inr rfl)) (zh (zf (i:=1) (show (pX:List Str).Nodup by decide +kernel) rfl (Or.inl rfl) (Or.inr rfl)) zH)))) (fun _ _ _ _=>(yS (PW.pt (qg (z4 (K:=K) rfl (zd uaF hr rfl (za (pv 2) (za (pv 3) (za (zC (za (pv 0) (za (pv 1) zb))) zb)))) (fun _=>rfl)) (jB (zJ (jT (K:=K) rfl hr.units) (zd uaE hr rfl (za (pv 2) (za (pv 3) (za (zC (za (pv 0) (za (pv 1) zb))) zb)))) (pv 6) (zQ _))))))) (fun _ _ _ _=>(zC (za (zw yM (zw zY (zw vL ze (pv 0)) ze) (pv 4)) (za (zw yM (zw zY (zw vL ze (pv 1)) ze) (pv 5)) zb)))) rfl rfl (fun _=>rfl) (Or.inl rfl) rfl) (zg (zt (zw (abo (K:=K) rfl) (pv 6) (pv 7)))))))),?_⟩
 rintro f xs ⟨rows,wd,cut,⟨x,y⟩⟩ hl ⟨rfl,g,ip⟩
 try dsimp only [z5,zl]
 dsimp only at *
 refine z6 (zP (zm rfl (yt rfl (zo (zi (zo (zi (zT ?_))))))))
 refine acz (fun ρ=>ρ=[some (.dat (tab rows)),some (.dat (.int cut)),some (.dat (pD (x,y))),some (.dat (.int x)),some (.dat (.int y)),some (.dat (.bool (hiP rows cut (x,y)))),none,none]) (zP (zp (rows,wd,cut,x,y) ?_)) ?_
 ·walk_at "w"
  rintro _ rfl
  exact zi rfl
 rintro _ rfl
 refine acz (fun ρ=>ρ=[some (.dat (tab rows)),some (.dat (.int cut)),some (.dat (pD (x,y))),some (.dat (.int x)),some (.dat (.int y)),some (.dat (.bool (hiP rows cut (x,y)))),some (.dat (.list ((((nbL (x,y)).filter (inP rows wd)).filter fun q=>hiP rows cut q == hiP rows cut (x,y)).map pD))),none])
  (zP (PEdO.ped (qu (A:=pD) (B:=pD) (fun q=>hiP rows cut q == hiP rows cut (x,y)) ((nbL (x,y)).filter (inP rows wd)) (yx (zp (rows,wd,x,y) ?_))))) ?_
 ·walk_at "w"
  rintro _ rfl
  refine⟨_,rfl,rfl,aoN (ao5 _ _) (aoS rfl),?_,zi rfl⟩
  rintro D ⟨a,b⟩ ρ' es hg ho hes
  have hi:inP rows wd (a,b)=true:=(ao6.mp hg).2
  obtain⟨us,hus,rfl⟩:=ho
  match us,hus with
  | [u1],_ =>
   refine zi (yq (jC (zp (rows,wd,cut,a,b) ?_)))
   walk_at "w"
   rintro _ rfl
   walk_at "w"
   refine zS (fun h=>?_) fun h=>?_
   ·refine yl hes ?_
    walk_at "w"
    exact⟨⟨[_],rfl,rfl⟩,rfl⟩
   ·exact⟨[_],rfl,rfl⟩
 rintro _ rfl
 refine acz (fun ρ=>ρ=[some (.dat (tab rows)),some (.dat (.int cut)),some (.dat (pD (x,y))),some (.dat (.int x)),some (.dat (.int y)),some (.dat (.bool (hiP rows cut (x,y)))),some (.dat (.list ((((nbL (x,y)).filter (inP rows wd)).filter fun q=>hiP rows cut q == hiP rows cut (x,y)).map pD))),some (.dat (.list (((((caL (x,y)).filter (aaJ rows wd)).filter fun c=>yN rows wd cut c.1 c.2 && (jz rows cut c.1 c.2 == hiP rows cut (x,y))).map (asl (x,y))).map pD)))])
  (zP (PEdO.ped (qu (A:=pD) (B:=fun c=>pD (asl (x,y) c)) (fun c=>yN rows wd cut c.1 c.2 && (jz rows cut c.1 c.2 == hiP rows cut (x,y))) ((caL (x,y)).filter (aaJ rows wd)) (yx (zp (rows,wd,x,y) ?_))))) ?_
 ·walk_at "w"
  rintro _ rfl
  refine⟨_,rfl,rfl,aoN (ao5 _ _) (aoS rfl),?_,zi (by rw [apJ];rfl)⟩
  rintro D ⟨a,b⟩ ρ' es hg ho hes
  have hi:zD rows wd a b=true:=(ao6.mp hg).2
  obtain⟨us,hus,rfl⟩:=ho
  match us,hus with
  | [u1,u2],_ =>
   refine yt rfl (zo (zi (zo (zi (zT (aci (yH (zp (rows,wd,cut,a,b) ?_))))))))
   walk_at "w"
   rintro _ rfl
   refine⟨_,rfl,zS (fun h1=>?_) fun h1=>?_⟩
   ·have h1:yN rows wd cut a b=true:=h1
    refine yq (jC (zp (rows,wd,cut,a,b) ?_))
    walk_at "w"
    rintro _ rfl
    walk_at "w"
    refine⟨by dsimp only;rw [h1,apv];rfl,zS (fun h=>?_) fun h=>?_⟩
    ·refine yl hes ?_
     walk_at "w"
     exact⟨⟨[_,_],rfl,rfl⟩,rfl⟩
    ·exact⟨[_,_],rfl,rfl⟩
   ·have h1:yN rows wd cut a b=false:=h1
    exact⟨by dsimp only;rw [h1,apw],⟨[_,_],rfl,rfl⟩⟩
 rintro _ rfl
 refine yT (afi (zm rfl ⟨_,rfl,zm rfl ⟨_,rfl,?_,?_⟩⟩))
 ·rw [aog,aog,aog]
  have h1:=aeX (p:=inP rows wd) (q:=fun q=>hiP rows cut q == hiP rows cut (x,y)) (l:=nbL (x,y)) (n:=4) (aop 4)
  have h2:=aeX (p:=aaJ rows wd) (q:=fun c=>yN rows wd cut c.1 c.2 && (jz rows cut c.1 c.2 == hiP rows cut (x,y))) (l:=caL (x,y)) (n:=4) (aop 4)
  omega
 ·rw [<-aoF]
  rfl
def anQ (cs:List OC):Nat:=match cs with
 | [.dic kvs,.lst es]=>2 * (100 - kvs.length)+es.length
 | _=>0
abbrev ajX (K:aol):Sp:=spD K 3 anP fun c r=>∃ l:List Pt,r=.tuple (l.map pD)/\((l.map pD).Pairwise fun d e=>ltD d e=true)/\∀ q,q∈l↔Reach c.1 c.2.1 c.2.2.1 c.2.2.2 q
theorem als (F:Def K mg "all_joined" jq pC) (uam:mg "sorted"=none) (uah:mg "tuple"=none) (ubi:FnIn P w K mg base k "joined" pA (ajW K)):FnIn P w K mg base (k+1) "all_joined" pC (ajX K):=by
 refine F.ok sc_all_joined rfl fun fa cdv A outer s H E hr=>⟨_,(zc (zB (i:=3) sc_all_joined.nd rfl (Or.inl rfl) (akS (w:=w) (K:=K) rfl rfl hr.units (pv 2) qJ)) (zc (zB (i:=4) sc_all_joined.nd rfl (Or.inl rfl) (yh (za (pv 2) zb))) (zc (adT aoT (z4 (K:=K) rfl (pv 4) (fun _=>rfl)) (zc (zB (i:=5) sc_all_joined.nd rfl (Or.inl rfl) (amo apa PySem.F.slot_list_pop PySem.F.type_list_pop amq (pv 4))) (zg (yB aoT rfl (zW (K:=K) rfl (zd ubi hr rfl (za (pv 0) (za (pv 1) (za (pv 5) zb))))) (zf (i:=6) sc_all_joined.nd rfl (Or.inl rfl) (Or.inr rfl)) (zg (yA (zJ (adj (w:=w) (K:=K) rfl rfl hr.units) (pv 6) (pv 3) rfl) (zc (ya qJ (aan (pv 3) (pv 6) (aad (w:=w) (K:=K) rfl rfl hr.units))) (zg (yp (aaB apa apc apd yP (pv 4) (za (pv 6) zb))))) zV)))))) (zg (zt (aao (qO (K:=K) rfl) rfl uah aqA (za (zA (aet (w:=w) (K:=K) rfl rfl rfl hr.units) rfl uam arv (za (pv 3) zb)) zb))))))),?_⟩
 rintro f xs ⟨rows,wd,cut,st⟩ hl ⟨rfl,g,ip⟩
 try dsimp only [z5,zl]
 dsimp only at *
 refine afm (w:=w) (agE (akU fun p=>zm rfl ⟨jW st,ahm ⟨show 3<7 by decide,fun D0=>?_⟩⟩))
 refine agE (vb (abp (zx (zm rfl (yj ⟨[pD st],rfl,aoS rfl,show 4<7 by decide,fun D1=>?_⟩)))))
 refine aev (fun ρ cs=>∃ (u5 u6:Option DV) (fs:List Pt),ρ=[some (.dat (tab rows)),some (.dat (.int cut)),some (.dat (pD st)),some (.own (f.M.length+0)),some (.own (f.M.length+1)),u5,u6]/\cs=[.dic (ab6 fs),.lst []]/\Seek rows wd cut st fs [])
  (agD (fun ρ cs=>∃ (u5 u6:Option DV) (fs ws:List Pt),ρ=[some (.dat (tab rows)),some (.dat (.int cut)),some (.dat (pD st)),some (.own (f.M.length+0)),some (.own (f.M.length+1)),u5,u6]/\cs=[.dic (ab6 fs),.lst (ws.map pD)]/\Seek rows wd cut st fs ws) (fun _ cs=>anQ cs) ⟨none,none,[st],[st],rfl,rfl,?_⟩ ?_) ?_
 ·exact⟨by simp,by simp,aos.mpr rfl,fun p hp=>by rw [aos.mp hp];exact .refl,fun p hp=>hp,fun p hp nw=>absurd hp nw⟩
 ·rintro _ _ ⟨u5,u6,fs,ws,rfl,rfl,S⟩
  have few:=S.few g ip
  rcases List.eq_nil_or_concat ws with rfl | ⟨ws',p,rfl⟩
  ·refine aaS (yH (zm (i:=4) (d:=.list []) ?_ ⟨false,rfl,?_⟩))
   ·show some (freed _ _ _)=_
    simp [freed]
   ·rw [if_neg aoi]
    exact⟨u5,u6,fs,rfl,rfl,S⟩
  ·rw [List.concat_eq_append] at S ⊢
   have hp:=S.sub p (by simp)
   have ipp:=((S.re p hp).ins ip).1
   have fw:(ws'++[p]).length<=49:=vo g S.wn fun q hq=>((S.re q (S.sub q hq)).ins ip).1
   rw [aox] at fw
   refine aaS (yH (zm (i:=4) (d:=.list ((ws'++[p]).map pD)) ?_ ⟨true,?_,?_⟩))
   ·show some (freed _ _ _)=_
    simp [freed]
   ·rw [aoF]
    show some _=some _
    simp
   ·rw [if_pos rfl]
    refine vH (anI (i:=4) (j:=1) (es:=ws'.map pD) (d:=pD p) rfl (by rw [aoF];rfl) ?_)
    refine qR (yx (zp (rows,wd,cut,p) ?_))
    walk_at "w"
    rintro _ rfl
    refine⟨_,rfl,fun i ρ cs=>∃ (u6:Option DV) (new:List Pt),ρ=[some (.dat (tab rows)),some (.dat (.int cut)),some (.dat (pD st)),some (.own (f.M.length+0)),some (.own (f.M.length+1)),some (.dat (pD p)),u6]/\cs=[.dic (ab6 (fs++new)),.lst ((ws'++new).map pD)]/\(fs++new).Nodup/\(∀ q∈new,q∈yX rows wd cut p)/\∀ q∈(yX rows wd cut p).take i,q∈fs++new,⟨u6,[],rfl,?_,?_,?_,?_⟩,?_,?_⟩
    ·rw [apf,apf]
     rfl
    ·rw [apf]
     exact S.nd
    ·exact fun q hq=>nomatch hq
    ·exact fun q hq=>by rw [ap2] at hq;cases hq
    ·rintro i d _ _ hd ⟨u6,new,rfl,rfl,nd,hn,tk⟩
     rw [aoq] at hd
     cases eq:(yX rows wd cut p)[i]? with
     | none=>rw [eq] at hd;cases hd
     | some q =>
      rw [eq] at hd
      cases hd
      have hq:q∈yX rows wd cut p:=aoj eq
      have few2:(fs++new).length<=49:=vo g nd fun r hr=>by
       rcases aou.mp hr with h | h
       ·exact ((S.re r h).ins ip).1
       ·exact (adE (hn r h)).1
      rw [aox] at few2
      have tk':(yX rows wd cut p).take (i+1)=(yX rows wd cut p).take i++[q]:=by rw [apk,eq];rfl
      have dec:decide (pD q∈(ab6 (fs++new)).map (·.1))=decide (q∈fs++new):=by
       rw [vp]
       exact decide_eq_decide.mpr mem_pD
      refine zi (ahB (akT (neg:=true) (i:=3) (j:=0) rfl rfl (aab (zm rfl ⟨jW q,?_⟩))))
      rw [if_pos rfl,dec]
      refine zS (fun h=>?_) fun h=>?_
      ·have hq':q∉fs++new:=by simpa using h
       refine vH (agK (i:=3) (j:=0) rfl rfl (by rw [aog,aox];omega) (ahm (zm rfl ⟨jW q,?_⟩)))
       refine aaG (i:=4) (j:=1) rfl rfl (by rw [aog,aox];omega) (aab (zm rfl ?_))
       refine⟨_,new++[q],rfl,?_,?_,?_,?_⟩
       ·rw [ajV hq',apx,<- apx ws',aoF (l₁:=ws'++new)]
        rfl
       ·rw [<-apx]
        exact ao8.mpr ⟨nd,by simp,fun a ha b hb e=>hq' (by rw [aos.mp hb] at e;exact e▸ha)⟩
       ·intro r hr
        rcases aou.mp hr with h | h
        ·exact hn r h
        ·rw [aos.mp h];exact hq
       ·intro r hr
        rw [tk'] at hr
        rw [<-apx]
        rcases aou.mp hr with h | h
        ·exact aoJ _ (tk r h)
        ·exact aoA _ h
      ·have hq':q∈fs++new:=aoV fun z=>by rw [decide_eq_false z] at h;cases h
       refine aby ⟨_,new,rfl,rfl,nd,hn,fun r hr=>?_⟩
       rw [tk'] at hr
       rcases aou.mp hr with h | h
       ·exact tk r h
       ·rw [aos.mp h];exact hq'
    ·rintro _ _ ⟨u6,new,rfl,rfl,nd,hn,tk⟩
     rw [aog] at tk
     rw [aoZ] at tk
     refine⟨⟨_,u6,fs++new,ws'++new,rfl,rfl,S.turn nd hn tk⟩,?_⟩
     have few2:=(S.turn nd hn tk).few g ip
     show 2 * (100 - (ab6 (fs++new)).length)+((ws'++new).map pD).length<2 * (100 - (ab6 fs).length)+((ws'++[p]).map pD).length
     simp only [aog,aox,ao4] at few2 ⊢
     omega
 rintro _ _ ⟨u5,u6,fs,rfl,rfl,S⟩
 have few:=S.few g ip
 refine alV (amP "int" (i:=3) (j:=0) rfl rfl (by rw [vp];exact anb S.nd) (by rw [aog];omega) fun es pm up=>?_)
 rw [vp] at pm
 obtain⟨l,pl,rfl⟩:=qv pm fs rfl
 exact⟨l,rfl,up,fun q=>by rw [pl.mem_iff];exact S.done q⟩
theorem aia {rows:List (List Int)} {wd:Nat} {cut:Int} {st:Pt} {l:List Pt} (up:(l.map pD).Pairwise fun d e=>ltD d e=true) (mem:∀ q,q∈l↔Reach rows wd cut st q) (least:∀ q,Reach rows wd cut st q->q=st \/ ltD (pD st) (pD q)=true):l.head?=some st:=by
 have hs:st∈l:=(mem st).mpr .refl
 cases l with
 | nil=>cases hs
 | cons a l =>
  rcases aor.mp hs with e | e
  ·rw [e];rfl
  ·have h1:=(apt.mp up).1 (pD st) (mem_pD.mpr e)
   rcases least a ((mem a).mp (aom ..)) with e' | e'
   ·rw [e'];rfl
   ·have:=abr (pD a) (pD st) (pD a) rfl rfl rfl h1 e'
    rw [jV _ rfl] at this
    cases this
structure Sofar (rows:List (List Int)) (wd:Nat) (cut:Int) (ps:List Pt) (rs:List (Bool×List Pt)) (ks:List PyData):Prop where
 reg:∀ r∈rs,∃ h,Reg rows wd cut r h/\h∈ps
 all:∀ p∈ps,∃ r∈rs,p∈r.2
 ord:rs.Pairwise fun a b=>∀ p q,a.2.head?=some p->b.2.head?=some q->ltD (pD p) (pD q)=true
 key:∀ p,pD p∈ks↔∃ r∈rs,p∈r.2
theorem Sofar.done {rows:List (List Int)} {wd:Nat} {cut:Int} {rs:List (Bool×List Pt)} {ks:List PyData} (S:Sofar rows wd cut (qe rows.length wd) rs ks):Regs rows wd cut rs :=
 ⟨fun r hr=>let⟨h,R,_⟩:=S.reg r hr;⟨h,R⟩,fun p hp=>S.all p (mem_pts.mpr hp),S.ord⟩
theorem Sofar.more {rows:List (List Int)} {wd:Nat} {cut:Int} {ps:List Pt} {rs:List (Bool×List Pt)} {ks:List PyData} (S:Sofar rows wd cut ps rs ks) {p:Pt} {qs:List Pt} (e:qe rows.length wd=ps++p :: qs) (hn:pD p∉ks) {l:List Pt} (up:(l.map pD).Pairwise fun d e=>ltD d e=true) (mem:∀ q,q∈l↔Reach rows wd cut p q) :
  Sofar rows wd cut (ps++[p]) (rs++[(hiP rows cut p,l)]) (l.map pD++ks):=by
 have ip:inP rows wd p=true:=mem_pts.mp (by rw [e];simp)
 have hup:=alq rows.length wd
 rw [e,aoF,aoI,aqT] at hup
 obtain⟨_,u2,u3⟩:=hup
 obtain⟨u4,_⟩:=apt.mp u2
 have free:∀ q,Reach rows wd cut p q->∀ r∈rs,q∉r.2:=fun q hq r hr hm=>by
  obtain⟨h,R,_⟩:=S.reg r hr
  exact hn ((S.key p).mpr ⟨r,hr,(R.mem p).mpr (((R.mem q).mp hm).trans (hq.symm ip))⟩)
 have least:∀ q,Reach rows wd cut p q->q=p \/ ltD (pD p) (pD q)=true:=fun q hq=>by
  have iq:=(hq.ins ip).1
  have hm:=mem_pts.mpr iq
  rw [e,aou,aor] at hm
  rcases hm with h | h | h
  ·obtain⟨r,hr,hm⟩:=S.all q h
   exact absurd hm (free q hq r hr)
  ·exact .inl h
  ·exact .inr (u4 _ (mem_pD.mpr h))
 have hd:=aia up mem least
 have R:Reg rows wd cut (hiP rows cut p,l) p:=⟨hd,up,mem,ip,rfl⟩
 refine⟨fun r hr=>?_,fun q hq=>?_,?_,fun q=>?_⟩
 ·rcases aou.mp hr with h | h
  ·obtain⟨h',R',m⟩:=S.reg r h
   exact⟨h',R',aoJ _ m⟩
  ·rw [aos.mp h]
   exact⟨p,R,by simp⟩
 ·rcases aou.mp hq with h | h
  ·obtain⟨r,hr,hm⟩:=S.all q h
   exact⟨r,aoJ _ hr,hm⟩
  ·rw [aos.mp h]
   exact⟨_,aoA _ (aos.mpr rfl),(mem p).mpr .refl⟩
 ·refine aqT.mpr ⟨S.ord,by simp,fun a ha b hb x y hx hy=>?_⟩
  rw [aos.mp hb,hd] at hy
  cases hy
  obtain⟨h,R',m⟩:=S.reg a ha
  rw [R'.hd] at hx
  cases hx
  exact u3 _ (mem_pD.mpr m) _ (aom ..)
 ·rw [aou,mem_pD,S.key]
  constructor
  ·rintro (h | ⟨r,hr,hm⟩)
   ·exact⟨_,aoA _ (aos.mpr rfl),h⟩
   ·exact⟨r,aoJ _ hr,hm⟩
  ·rintro⟨r,hr,hm⟩
   rcases aou.mp hr with h | h
   ·exact .inr ⟨r,h,hm⟩
   ·rw [aos.mp h] at hm
    exact .inl hm
theorem Sofar.skip {rows:List (List Int)} {wd:Nat} {cut:Int} {ps:List Pt} {rs:List (Bool×List Pt)} {ks:List PyData} (S:Sofar rows wd cut ps rs ks) {p:Pt} (h:pD p∈ks):Sofar rows wd cut (ps++[p]) rs ks :=
 ⟨fun r hr=>let⟨h,R,m⟩:=S.reg r hr;⟨h,R,aoJ _ m⟩,fun q hq=>by
  rcases aou.mp hq with h' | h'
  ·exact S.all q h'
  ·rw [aos.mp h']
   exact (S.key p).mp h,S.ord,S.key⟩
theorem Sofar.keys {rows:List (List Int)} {wd:Nat} {cut:Int} {ps:List Pt} {rs:List (Bool×List Pt)} {ks ks':List PyData} (S:Sofar rows wd cut ps rs ks) (h:∀ p,pD p∈ks'↔pD p∈ks):Sofar rows wd cut ps rs ks':=⟨S.reg,S.all,S.ord,fun p=>(h p).trans (S.key p)⟩
theorem Sofar.nil {rows:List (List Int)} {wd:Nat} {cut:Int}:Sofar rows wd cut [] [] []:=⟨fun _ h=>(nomatch h),fun _ h=>(nomatch h),List.Pairwise.nil,fun p=>⟨fun h=>(nomatch h),fun⟨_,h,_⟩=>(nomatch h)⟩⟩
def aib (w:World) (K:aol) (f:Fx) (Ds:List Addr) (ts:TS) (ρ:zq) (cs:List OC) (j:Nat) (R:List PyData->Prop):Prop:=Sep f Ds->∀ (σ:L2.St) (H H2:Hp) (E:Ends),CM w K f Ds H2 ρ cs σ H ->
 (∀ D es ρ' cs' σ' H',CM w K f Ds H2 ρ' cs' σ' H'->Ds[j]?=some D->cs'[j]?=some (.lst es)->R es->E.rt (.ref D) H')->ts E σ H
section
variable {w:World} {K:aol} {f:Fx} {Ds:List Addr} {ρ:zq} {cs:List OC} {ts tu:TS} {te:TE} {R:List PyData->Prop} {i j:Nat}
theorem afI (h:PSm w K f Ds ts ρ cs { nx:=fun ρ' cs'=>aib w K f Ds tu ρ' cs' j R,rt:=fun _=>False }):aib w K f Ds (qL ts tu) ρ cs j R:=fun se σ H H2 E x q =>
 h se σ H H2 _ x (fun ρ' cs' σ' H' x' p=>p se σ' H' H2 E x' q) (fun _ _ _ _ _ _ _ _ z=>z.elim) (fun _ _ _ _ _ z=>z.elim) (fun _ _ _ _ _ z=>z.elim)
theorem anf (hj:j<Ds.length) (h:ade w K (f.withs Ds) te ρ fun c=>i<ρ.length/\∀ D,aib w K f (Ds++[D]) ts (ρ.set i (some (.own (f.M.length+Ds.length)))) (cs++[c]) j R):aib w K f Ds (qL (jR te (yW i)) ts) ρ cs j R:=fun se σ H H2 E x q =>
 h σ H _ x.env fun c D H1 g1 hn ho ⟨hi,p⟩ =>
  p D (se.more x.env.fd hn) _ H1 H1 E (x.more g1 hn ho hi) fun D' es ρ' cs' σ' H' y h1 h2 r=>by
   rw [aov hj] at h1
   exact q D' es _ _ σ' H' (x.less g1 hn y) h1 (by rw [apX hj];exact h2) r
theorem afJ {es:List PyData} (hi:ρ[i]?=some (some (.own (f.M.length+j)))) (hc:cs[j]?=some (.lst es)) (h:R es):aib w K f Ds (adQ (yn i)) ρ cs j R:=fun se σ H H2 E x q=>by
 have hj:j<Ds.length:=by rw [<-x.len];exact (aoh.mp hc).1
 have hD:Ds[j]?=some Ds[j]:=aof hj
 exact⟨_,y6 hi x hD,q _ es ρ cs σ H x hD hc h⟩
theorem afK (h:ade w K f te ρ fun c=>i<ρ.length/\∀ D,aib w K f [D] ts (ρ.set i (some (.own (f.M.length+0)))) [c] 0 R):PSn K f (qL (jR te (yW i)) ts) ρ R:=fun σ H E e q=>by
 have se0:Sep f []:=⟨apj,(fun _ z=>nomatch z),(fun _ z=>nomatch z)⟩
 have x0:CM w K f [] H ρ [] σ H:=⟨e,Same.refl _,fun _ _=>rfl,rfl,(fun i D c z=>nomatch z)⟩
 refine h σ H _ e fun c D H1 g1 hn ho ⟨hi,p⟩=>?_
 refine p D (se0.more e.fd hn) _ H1 H1 E (x0.more g1 hn ho hi) fun D' es ρ' cs' σ' H' y h1 h2 r=>?_
 cases h1
 have z:=x0.less g1 hn y
 obtain⟨vs,h3,h4⟩:=y.own 0 D _ rfl h2
 exact q es D vs H' ⟨z.sm,z.env.fd,z.kp⟩ hn h3 h4 r
end
theorem aeY {rows:List (List Int)} {wd:Nat} (g:Good wd rows) {ks:List PyData} (nd:ks.Nodup) (h:∀ d∈ks,∃ p,d=pD p/\inP rows wd p=true):ks.length<=49:=by
 have key:∀ ks:List PyData,(∀ d∈ks,∃ p,d=pD p/\inP rows wd p=true)->∃ l:List Pt,ks=l.map pD/\∀ p∈l,inP rows wd p=true:=fun ks=>by
  induction ks with
  | nil=>exact fun _=>⟨[],rfl,(fun _ z=>nomatch z)⟩
  | cons d ks ih =>
   intro h
   obtain⟨p,rfl,hp⟩:=h d (aom ..)
   obtain⟨l,rfl,hl⟩:=ih fun e he=>h e (aon _ he)
   exact⟨p :: l,rfl,fun q hq=>by
    rcases aor.mp hq with rfl | hq
    ·exact hp
    ·exact hl q hq⟩
 obtain⟨l,rfl,hl⟩:=key ks h
 rw [aog]
 exact vo g (aqU _ (fun a b z e=>z (by rw [e])) nd) hl
abbrev ang (c:List (List Int)×Nat×Int) (xs:List DV):Prop:=xs=[.dat (tab c.1),.dat (.int c.2.2)]/\Good c.2.1 c.1
abbrev afL (K:aol):Sp:=spN K 2 ang fun c es=>∃ rs,es=rs.map qf/\Regs c.1 c.2.1 c.2.2 rs/\rs.length<=49
theorem alu (F:Def K mg "regions" vh pf) (ual:mg "set"=none) (uag:FnIn P w K mg base k "ask_table" pz (acA K)) (uaC:FnIn P w K mg base k "points" pz (abD K)) (ubj:FnIn P w K mg base k "all_joined" pC (ajX K)) (uac:FnIn P w K mg base k "stands_high" pA (vU K)):FnIn P w K mg base (k+1) "regions" pf (afL K):=by
 refine F.okN sc_regions rfl fun fa cdv A outer s H E hr=>⟨_,(zc (yp (zd uag hr rfl (za (pv 0) zb))) (zc (zB (i:=2) sc_regions.nd rfl (Or.inl rfl) (yh zb)) (zc (zB (i:=3) sc_regions.nd rfl (Or.inl rfl) (abd (aac (w:=w) rfl) rfl ual arM)) (zc (yB aoT rfl (zW (K:=K) rfl (zd uaC hr rfl (za (pv 0) zb))) (zf (i:=4) sc_regions.nd rfl (Or.inl rfl) (Or.inr rfl)) (zg (yA (zJ (abz (w:=w) (K:=K) rfl rfl hr.units) (pv 4) (pv 3) rfl) (zc (zB (i:=5) sc_regions.nd rfl (Or.inl rfl) (zd ubj hr rfl (za (pv 0) (za (pv 1) (za (pv 4) zb))))) (zc (yp (aaB apa apc apd yP (pv 2) (za (zC (za (qK (z4 (K:=K) rfl (zd uac hr rfl (za (pv 0) (za (pv 1) (za (pv 4) zb)))) (fun _=>rfl)) jQ jQ) (za (pv 5) zb))) zb))) (zg (yB aoT rfl (qq (K:=K) rfl (pv 5)) (zf (i:=6) sc_regions.nd rfl (Or.inl rfl) (Or.inr rfl)) (zg (yp (aji (w:=w) rfl aqS arU (aes (w:=w) (K:=K) rfl rfl hr.units) (pv 3) (za (pv 6) zb)))))))) zV))) (zg (zt (pv 2))))))),?_⟩
 rintro f xs ⟨rows,wd,cut⟩ hl ⟨rfl,g⟩
 try dsimp only [z5,zl]
 dsimp only at *
 refine qG (vO (zp (rows,wd) ?_))
 walk_at "w"
 rintro _ rfl
 refine afK (w:=w) (vb (aiQ ⟨show 2<7 by decide,fun D0=>?_⟩))
 refine anf (show 0<1 by decide) (ajj ⟨show 3<7 by decide,fun D1=>?_⟩)
 refine afI (qR (yx (zp (rows,wd) ?_)))
 walk_at "w"
 rintro _ rfl
 dsimp only
 rw [alp]
 have pl:(qe rows.length wd).length<=49:=by rw [abK];exact arc g.h2 g.w2
 refine⟨_,rfl,fun i ρ cs=>∃ (u4 u5 u6:Option DV) (rs:List (Bool×List Pt)) (ks:List PyData),ρ=[some (.dat (tab rows)),some (.dat (.int cut)),some (.own (f.M.length+0)),some (.own (f.M.length+1)),u4,u5,u6]/\cs=[.lst (rs.map qf),.set ks]/\Sofar rows wd cut ((qe rows.length wd).take i) rs ks/\rs.length<=i/\ks.Nodup/\∀ d∈ks,∃ p,d=pD p/\inP rows wd p=true,⟨_,_,_,[],[],rfl,rfl,by rw [ap2];exact .nil,aop 0,apj,(fun _ z=>nomatch z)⟩,?_,?_⟩
 ·rintro i d _ _ hd ⟨u4,u5,u6,rs,ks,rfl,rfl,S,rl,kl,kp⟩
  rw [aoq] at hd
  cases eq:(qe rows.length wd)[i]? with
  | none=>rw [eq] at hd;cases hd
  | some p =>
   rw [eq] at hd
   cases hd
   have hil:=(aoh.mp eq).1
   have ip:inP rows wd p=true:=mem_pts.mp (aoj eq)
   have tk:(qe rows.length wd).take (i+1)=(qe rows.length wd).take i++[p]:=by rw [apk,eq];rfl
   have sp:qe rows.length wd=(qe rows.length wd).take i++p :: (qe rows.length wd).drop (i+1):=by
    have:=aoh.mp eq
    rw [<-this.2,<- arj this.1,aqd]
   refine zi (ahB (alT (neg:=true) (i:=3) (j:=1) rfl rfl (aab (zm rfl ⟨jW p,?_⟩))))
   rw [if_pos rfl]
   refine zS (fun h=>?_) fun h=>?_
   ·have hn:pD p∉ks:=by simpa using h
    refine aev (fun ρ cs=>∃ l:List Pt,ρ=[some (.dat (tab rows)),some (.dat (.int cut)),some (.own (f.M.length+0)),some (.own (f.M.length+1)),some (.dat (pD p)),some (.dat (.tuple (l.map pD))),u6]/\cs=[.lst (rs.map qf),.set ks]/\((l.map pD).Pairwise fun d e=>ltD d e=true)/\∀ q,q∈l↔Reach rows wd cut p q) (abx (zP (zp (rows,wd,cut,p) ?_))) ?_
    ·walk_at "w"
     rintro _ ⟨l,rfl,up,mem⟩
     exact zi ⟨l,rfl,rfl,up,mem⟩
    rintro _ _ ⟨l,rfl,rfl,up,mem⟩
    have S':=S.more sp hn up mem
    rw [<-tk] at S'
    have nd:l.Nodup:=aqU _ (fun a b (z:ltD (pD a) (pD b)=true) e=>by rw [e,jV _ rfl] at z;cases z) up
    have ll:l.length<=49:=vo g nd fun q hq=>(((mem q).mp hq).ins ip).1
    refine aev (fun ρ cs=>ρ=[some (.dat (tab rows)),some (.dat (.int cut)),some (.own (f.M.length+0)),some (.own (f.M.length+1)),some (.dat (pD p)),some (.dat (.tuple (l.map pD))),u6]/\cs=[.lst ((rs++[(hiP rows cut p,l)]).map qf),.set ks]) (aaG (i:=2) (j:=0) rfl rfl (by rw [aog];omega) (aab (vB (zx (aiE (yH (zp (rows,wd,cut,p.1,p.2) ?_)))))))  ?_
    ·walk_at "w"
     rintro _ rfl
     refine⟨_,rfl,zS (fun h1=>?_) fun h1=>?_⟩
     ·have h1:hiP rows cut p=true:=h1
      walk_at "w"
      rw [h1,aoF]
      rfl
     ·have h1:hiP rows cut p=false:=h1
      walk_at "w"
      rw [h1,aoF]
      rfl
    rintro _ _ ⟨rfl,rfl⟩
    refine qR (abk (zm rfl ⟨_,rfl,fun j ρ cs=>∃ (u6:Option DV) (ks':List PyData),ρ=[some (.dat (tab rows)),some (.dat (.int cut)),some (.own (f.M.length+0)),some (.own (f.M.length+1)),some (.dat (pD p)),some (.dat (.tuple (l.map pD))),u6]/\cs=[.lst ((rs++[(hiP rows cut p,l)]).map qf),.set ks']/\ks'.Nodup/\(∀ d∈ks',∃ p,d=pD p/\inP rows wd p=true)/\∀ q,pD q∈ks'↔(q∈l.take j \/ pD q∈ks),⟨_,ks,rfl,rfl,kl,kp,fun q=>⟨.inr,fun z=>z.elim (fun z=>by rw [ap2] at z;cases z) id⟩⟩,?_,?_⟩))
    ·rintro j d _ _ hd ⟨u6,ks',rfl,rfl,nd',kp',mk⟩
     rw [aoq] at hd
     cases eq':l[j]? with
     | none=>rw [eq'] at hd;cases hd
     | some q =>
      rw [eq'] at hd
      cases hd
      have hq:q∈l:=aoj eq'
      have iq:=(((mem q).mp hq).ins ip).1
      have tk':l.take (j+1)=l.take j++[q]:=by rw [apk,eq'];rfl
      have kl':=aeY g nd' kp'
      refine zi (alU (i:=3) (j:=1) rfl rfl (by omega) (aab (zm rfl ⟨jW q,fun h=>?_,fun h=>?_⟩)))
      ·refine⟨_,ks',rfl,rfl,nd',kp',fun r=>?_⟩
       rw [tk',aou,aos,mk]
       constructor
       ·rintro (z | z)
        ·exact .inl (.inl z)
        ·exact .inr z
       ·rintro ((z | z) | z)
        ·exact .inl z
        ·rw [z];exact (mk q).mp h
        ·exact .inr z
      ·refine⟨_,pD q :: ks',rfl,rfl,ao7.mpr ⟨h,nd'⟩,fun d hd=>?_,fun r=>?_⟩
       ·rcases aor.mp hd with rfl | hd
        ·exact⟨q,rfl,iq⟩
        ·exact kp' d hd
       ·rw [tk',aou,aos,aor,mk]
        constructor
        ·rintro (z | z | z)
         ·exact .inl (.inr (aaz z))
         ·exact .inl (.inl z)
         ·exact .inr z
        ·rintro ((z | z) | z)
         ·exact .inr (.inl z)
         ·exact .inl (by rw [z])
         ·exact .inr (.inr z)
    ·rintro _ _ ⟨u6,ks',rfl,rfl,nd',kp',mk⟩
     rw [aog,aoZ] at mk
     refine⟨_,_,_,rs++[(hiP rows cut p,l)],ks',rfl,rfl,S'.keys fun q=>?_,by rw [aox,ao4];omega,nd',kp'⟩
     rw [mk,aou,mem_pD]
   ·have hm:pD p∈ks:=aoV fun z=>by rw [decide_eq_false z] at h;cases h
    refine aby ⟨_,_,_,rs,ks,rfl,rfl,?_,by omega,kl,kp⟩
    rw [tk]
    exact S.skip hm
 ·rintro _ _ ⟨u4,u5,u6,rs,ks,rfl,rfl,S,rl,kl,kp⟩
  rw [aog,aoZ] at S
  rw [aog] at rl
  exact afJ (i:=2) (j:=0) rfl rfl ⟨rs,rfl,S.done,by omega⟩
theorem ajY {rows:List (List Int)} {wd:Nat} {cut:Int} {rs:List (Bool×List Pt)} (R:Regs rows wd cut rs) {i j:Nat} {r r':Bool×List Pt} (hi:rs[i]?=some r) (hj:rs[j]?=some r') {p:Pt} (h:p∈r.2) (h':p∈r'.2):i=j:=by
 obtain⟨x,X⟩:=R.reg r (aoj hi)
 obtain⟨y,Y⟩:=R.reg r' (aoj hj)
 have e:=agZ X Y h h'
 have nd:rs.Nodup:=R.ord.imp_of_mem fun {a b} ha hb z e=>by
  obtain⟨x,X⟩:=R.reg a ha
  have:=z x x X.hd (e▸X.hd)
  rw [jV _ rfl] at this
  cases this
 rw [<-e] at hj
 exact (arp (aoh.mp hi).1 nd).mp (hi.trans hj.symm)
theorem vq {k v:PyData} {kvs:List (PyData×PyData)}:(dput k v kvs).map (·.1)=if k∈kvs.map (·.1) then kvs.map (·.1) else kvs.map (·.1)++[k]:=by
 unfold dput
 by_cases h:k∈kvs.map (·.1)
 ·rw [if_pos h,if_pos h,apJ]
  refine aqn fun p _=>?_
  show (if p.1=k then (p.1,v) else p).1=p.1
  split <;> rfl
 ·rw [if_neg h,if_neg h,aoF]
  rfl
structure Keyed (rows:List (List Int)) (wd:Nat) (kvs:List (PyData×PyData)):Prop where
 nd:(kvs.map (·.1)).Nodup
 pt:∀ d∈kvs.map (·.1),∃ p,d=pD p/\inP rows wd p=true
theorem Keyed.put {rows:List (List Int)} {wd:Nat} {kvs:List (PyData×PyData)} (h:Keyed rows wd kvs) {p:Pt} (ip:inP rows wd p=true) (v:PyData):Keyed rows wd (dput (pD p) v kvs):=by
 by_cases z:pD p∈kvs.map (·.1)
 ·exact⟨by rw [vq,if_pos z];exact h.nd,by rw [vq,if_pos z];exact h.pt⟩
 ·refine⟨?_,?_⟩
  ·rw [vq,if_neg z]
   exact ao8.mpr ⟨h.nd,by simp,fun a ha b hb e=>z (by rw [aos.mp hb] at e;exact e▸ha)⟩
  ·rw [vq,if_neg z]
   intro d hd
   rcases aou.mp hd with hd | hd
   ·exact h.pt d hd
   ·rw [aos.mp hd];exact⟨p,rfl,ip⟩
theorem Keyed.few {rows:List (List Int)} {wd:Nat} {kvs:List (PyData×PyData)} (g:Good wd rows) (h:Keyed rows wd kvs):kvs.length<=49:=by
 have:=aeY g h.nd h.pt
 rw [aog] at this
 exact this
theorem ajZ {rows:List (List Int)} {wd:Nat} {cut:Int} {rs:List (Bool×List Pt)} (R:Regs rows wd cut rs) {r:Bool×List Pt} (hr:r∈rs) {p:Pt} (h:p∈r.2):inP rows wd p=true:=by
 obtain⟨x,X⟩:=R.reg r hr
 exact (((X.mem p).mp h).ins X.inn).1
def told (rs:List (Bool×List Pt)) (kvs:List (PyData×PyData)):Prop:=∀ (n:Nat) r p,rs[n]?=some r->p∈r.2->jh (pD p) kvs=some (.int n)
def anR (b:Bool):PyData:=.str (if b=true then "high" else "low")
theorem alv {rs:List (Bool×List Pt)} {n:Nat} {d:PyData} (h:(vE (rs.map qf))[n]?=some d):∃ r,rs[n]?=some r/\d=.tuple [.int n,qf r]:=by
 unfold vE at h
 rw [arP,aoq] at h
 cases e:rs[n]? with
 | none=>rw [e] at h;cases h
 | some r =>
  rw [e] at h
  cases h
  exact⟨r,rfl,rfl⟩
theorem aj0 (ds:List PyData):(vE ds).length=ds.length:=by
 unfold vE
 simp
abbrev acL (w:World) (K:aol):Sp:=spV K 2 ang fun c x=>∃ rs kvs,x=.mon (afr w K kvs)/\Regs c.1 c.2.1 c.2.2 rs/\rs.length<=49/\told rs kvs
theorem afM (F:Def K mg "indexes" vi pf) (uaf:mg "enumerate"=none) (uaJ:FnIn P w K mg base k "regions" pf (afL K)):FnIn P w K mg base (k+1) "indexes" pf (acL w K):=by
 refine F.okV sc_indexes rfl fun fa cdv A outer s H E hr=>⟨_,(zc (zB (i:=2) sc_indexes.nd rfl (Or.inl rfl) (acw (w:=w) rfl)) (zc (yB aoT rfl (abj (K:=K) rfl rfl uaf (za (zd uaJ hr rfl (za (pv 0) (za (pv 1) zb))) zb)) (zL (K:=K) (n:=2) rfl rfl (zh (zf (i:=3) sc_indexes.nd rfl (Or.inl rfl) (Or.inr rfl)) (zh (zL (K:=K) (n:=2) rfl rfl (zh (zf (i:=4) sc_indexes.nd rfl (Or.inl rfl) (Or.inr rfl)) (zh (zf (i:=5) sc_indexes.nd rfl (Or.inl rfl) (Or.inr rfl)) zH))) zH))) (zg (yB aoT rfl (qq (K:=K) rfl (pv 5)) (zf (i:=6) sc_indexes.nd rfl (Or.inl rfl) (Or.inr rfl)) (zg (ya (pv 3) (aan (pv 2) (pv 6) (aad (w:=w) (K:=K) rfl rfl hr.units))))))) (zg (zt (pv 2))))),?_⟩
 rintro f xs ⟨rows,wd,cut⟩ hl ⟨rfl,g⟩
 try dsimp only [z5,zl]
 dsimp only at *
 refine amU (w:=w) (ajk ⟨show 2<7 by decide,fun D0=>?_⟩)
 refine amS (qR (aiO (zx (PEdO.ped (jg (rows,wd,cut) ?_)))))
 walk_at "w"
 rintro _ ⟨rs,rfl,R,rl⟩
 dsimp only at R
 refine yj ⟨_,rfl,fun n ρ cs=>∃ (u3 u4 u5 u6:Option DV) (kvs:List (PyData×PyData)),ρ=[some (.dat (tab rows)),some (.dat (.int cut)),some (.own (f.M.length+0)),u3,u4,u5,u6]/\cs=[.dic kvs]/\Keyed rows wd kvs/\∀ (m:Nat) r p,m<n->rs[m]?=some r->p∈r.2->jh (pD p) kvs=some (.int m),⟨_,_,_,_,[],rfl,rfl,⟨apj,(fun _ z=>nomatch z)⟩,(fun m r p z=>absurd z (apz _))⟩,?_,?_⟩
 ·rintro n d _ _ hd ⟨u3,u4,u5,u6,kvs,rfl,rfl,ky,tl⟩
  obtain⟨r,hrn,rfl⟩:∃ r,rs[n]?=some r/\d=.tuple [.int n,qf r]:=alv hd
  have hm:=aoj hrn
  refine yt rfl (zo (zi (zo (yt rfl (zo (zi (zo (zi (zT (zT ?_))))))))))
  refine qR (abk (zm rfl ⟨_,rfl,fun j ρ cs=>∃ (u6:Option DV) (kvs:List (PyData×PyData)),ρ=[some (.dat (tab rows)),some (.dat (.int cut)),some (.own (f.M.length+0)),some (.dat (.int n)),some (.dat (anR r.1)),some (.dat (.tuple (r.2.map pD))),u6]/\cs=[.dic kvs]/\Keyed rows wd kvs/\(∀ (m:Nat) r p,m<n->rs[m]?=some r->p∈r.2->jh (pD p) kvs=some (.int m))/\∀ p∈r.2.take j,jh (pD p) kvs=some (.int n),⟨_,kvs,rfl,rfl,ky,tl,fun p hp=>by rw [ap2] at hp;cases hp⟩,?_,?_⟩))
  ·rintro j d _ _ hd ⟨u6,kvs,rfl,rfl,ky,tl,tk⟩
   rw [aoq] at hd
   cases eq:r.2[j]? with
   | none=>rw [eq] at hd;cases hd
   | some q =>
    rw [eq] at hd
    cases hd
    have hq:=aoj eq
    have few:=ky.few g
    refine zi (agK (i:=2) (j:=0) rfl rfl (by omega) (zm rfl (zm rfl ⟨jW q,?_⟩)))
    refine⟨_,_,rfl,rfl,ky.put (ajZ R hm hq) _,fun m r' p hmn hr hp=>?_,fun p hp=>?_⟩
    ·rw [abA _ (fun z=>?_)]
     ·exact tl m r' p hmn hr hp
     ·have:=ajY R hr hrn hp (aaz z▸hq)
      omega
    ·rw [apk,eq] at hp
     by_cases e:p=q
     ·rw [e];exact ahJ ..
     ·rw [abA _ (fun z=>e (aaz z))]
      rcases aou.mp hp with h | h
      ·exact tk p h
      ·exact absurd (aos.mp h) e
  ·rintro _ _ ⟨u6,kvs,rfl,rfl,ky,tl,tk⟩
   rw [aog,aoZ] at tk
   refine⟨_,_,_,_,kvs,rfl,rfl,ky,fun m r' p hmn hr hp=>?_⟩
   by_cases e:m=n
   ·subst e
    rw [hrn] at hr
    cases hr
    exact tk p hp
   ·exact tl m r' p (by omega) hr hp
 ·rintro _ _ ⟨u3,u4,u5,u6,kvs,rfl,rfl,ky,tl⟩
  refine amT (i:=2) (j:=0) rfl rfl ⟨kvs,rfl,rs,kvs,rfl,R,rl,fun n r p hr hp=>tl n r p ?_ hr hp⟩
  have:=(aoh.mp hr).1
  rw [aj0,aog]
  exact this
def gA (i:Fin 4):Fin 4:=match i with
 | 0=>0
 | 1=>0
 | 2=>3
 | 3=>1
def gB (i:Fin 4):Fin 4:=match i with
 | 0=>1
 | 1=>3
 | 2=>2
 | 3=>2
def aj1 (A B C D:Bool) (c:Fin 4):Bool:=match c with
 | 0=>A
 | 1=>B
 | 2=>C
 | 3=>D
def alw (c d:Fin 4):Bool:=(c.val+d.val) % 2 == 1
def jnF (A B C D M:Bool) (c d:Fin 4):Bool:=(aj1 A B C D c == aj1 A B C D d) && (alw c d || (c != d && ((opF A B C D 0 && (opF A B C D 1 && (opF A B C D 2 && opF A B C D 3))) && (M == aj1 A B C D c))))
def upF (h A B C D:Bool) (i:Fin 4):Fin 4:=if aj1 A B C D (gA i)=h then gA i else gB i
theorem aj2:∀ (h A B C D M:Bool) (i j:Fin 4),prt (qT A B C D M) i=some j->upF h A B C D i=upF h A B C D j \/ jnF A B C D M (upF h A B C D i) (upF h A B C D j)=true \/ ∃ e,jnF A B C D M (upF h A B C D i) e=true/\jnF A B C D M e (upF h A B C D j)=true:=by decide +kernel
def cor (x y:Int) (c:Fin 4):Pt:=match c with
 | 0=>(x,y)
 | 1=>(x+1,y)
 | 2=>(x+1,y+1)
 | 3=>(x,y+1)
theorem anh (x y:Int):∀ c d:Fin 4,alw c d=true->cor x y d∈nbL (cor x y c)
 | 0,1,_ | 1,0,_ | 1,2,_ | 2,1,_ | 2,3,_ | 3,2,_ | 0,3,_ | 3,0,_=>by
  rw [adC]
  simp [cor]
 | 0,0,h | 0,2,h | 1,1,h | 1,3,h | 2,0,h | 2,2,h | 3,1,h | 3,3,h=>absurd h (by decide)
theorem alx (x y:Int):∀ c d:Fin 4,alw c d=false->c≠d->cor x y d=asl (cor x y c) (x,y)
 | 0,2,_,_ | 2,0,_,_ | 1,3,_,_ | 3,1,_,_=>by
  unfold asl cor
  simp only [Prod.mk.injEq]
  omega
 | 0,0,_,h | 1,1,_,h | 2,2,_,h | 3,3,_,h=>absurd rfl h
 | 0,1,h,_ | 0,3,h,_ | 1,0,h,_ | 1,2,h,_ | 2,1,h,_ | 2,3,h,_ | 3,0,h,_ | 3,2,h,_=>absurd h (by decide)
theorem ani (x y:Int) (c:Fin 4):(x,y)∈caL (cor x y c):=by
 rw [adD]
 match c with
 | 0=>exact⟨.inl rfl,.inl rfl⟩
 | 1=>exact⟨.inr rfl,.inl rfl⟩
 | 2=>exact⟨.inr rfl,.inr rfl⟩
 | 3=>exact⟨.inl rfl,.inr rfl⟩
section
variable {rows:List (List Int)} {wd:Nat} {cut x y:Int}
abbrev aod (rows:List (List Int)) (cut x y:Int) (c:Fin 4):Bool:=aj1 (hiB rows cut x y) (hiB rows cut (x+1) y) (hiB rows cut (x+1) (y+1)) (hiB rows cut x (y+1)) c
theorem afN (c:Fin 4):hiP rows cut (cor x y c)=aod rows cut x y c:=by
 match c with
 | 0=>rfl
 | 1=>rfl
 | 2=>rfl
 | 3=>rfl
theorem anj (h:zD rows wd x y=true) (c:Fin 4):inP rows wd (cor x y c)=true:=by
 obtain⟨i1,i2,i3,i4⟩:=cell_in h
 match c with
 | 0=>exact i1
 | 1=>exact i2
 | 2=>exact i3
 | 3=>exact i4
theorem adF (h:zD rows wd x y=true) {c d:Fin 4} (j:jnF (hiB rows cut x y) (hiB rows cut (x+1) y) (hiB rows cut (x+1) (y+1)) (hiB rows cut x (y+1)) (jz rows cut x y) c d=true):cor x y d∈yX rows wd cut (cor x y c):=by
 unfold jnF at j
 rw [aoo] at j
 obtain⟨j1,j2⟩:=j
 have e:hiP rows cut (cor x y d)=hiP rows cut (cor x y c):=by
  rw [afN,afN]
  exact (eq_of_beq j1).symm
 cases b:alw c d with
 | true=>exact mem_join.mpr (.inl ⟨anh x y c d b,anj h d,e⟩)
 | false =>
  rw [b,ar3,aoo,aoo] at j2
  obtain⟨j3,j4,j5⟩:=j2
  refine mem_join.mpr (.inr ⟨(x,y),ani x y c,h,?_,?_,alx x y c d b (by simpa using j3)⟩)
  ·unfold yN cg opG
   simp only [aqP,ar9,aru]
   rw [aaX h,adw h,aaY h,aaZ h]
   exact j4
  ·rw [afN]
   exact eq_of_beq j5
end
def hpt (rows:List (List Int)) (cut:Int) (h:Bool) (g:Gt):Pt:=if hiB rows cut g.1 g.2.1=h then (g.1,g.2.1) else (px g.1 g.2.2,py g.2.1 g.2.2)
section
variable {rows:List (List Int)} {wd:Nat} {cut:Int} {h:Bool}
theorem aj3 (x y:Int) (i:Fin 4):hpt rows cut h (gt x y i)=cor x y (upF h (hiB rows cut x y) (hiB rows cut (x+1) y) (hiB rows cut (x+1) (y+1)) (hiB rows cut x (y+1)) i):=by
 unfold hpt upF
 match i with
 | 0 =>
  show (if hiB rows cut x y=h then (x,y) else (x+1,y))=cor x y (if hiB rows cut x y=h then 0 else 1)
  split <;> rfl
 | 1 =>
  show (if hiB rows cut x y=h then (x,y) else (x,y+1))=cor x y (if hiB rows cut x y=h then 0 else 3)
  split <;> rfl
 | 2 =>
  show (if hiB rows cut x (y+1)=h then (x,y+1) else (x+1,y+1))=cor x y (if hiB rows cut x (y+1)=h then 3 else 2)
  split <;> rfl
 | 3 =>
  show (if hiB rows cut (x+1) y=h then (x+1,y) else (x+1,y+1))=cor x y (if hiB rows cut (x+1) y=h then 1 else 2)
  split <;> rfl
theorem afO {g n:Gt} (o:opG rows wd cut g=true) (hn:z3 rows wd cut g=some n):Reach rows wd cut (hpt rows cut h g) (hpt rows cut h n):=by
 unfold z3 at hn
 by_cases c:zD rows wd (ahC rows cut g).1 (ahC rows cut g).2=true
 ·rw [if_pos c] at hn
  obtain⟨i,ei⟩:=aeN (rows:=rows) (cut:=cut) g (qV o)
  generalize (ahC rows cut g).1=x at *
  generalize (ahC rows cut g).2=y at *
  subst ei
  unfold ji t4 at hn
  rw [aam (fun _ _=>vV)] at hn
  cases hj:prt (qT (hiB rows cut x y) (hiB rows cut (x+1) y) (hiB rows cut (x+1) (y+1)) (hiB rows cut x (y+1)) (jz rows cut x y)) i with
  | none=>rw [hj] at hn;cases hn
  | some j =>
   rw [hj] at hn
   cases hn
   rw [aj3,aj3]
   rcases aj2 h _ _ _ _ _ i j hj with e | e | ⟨d,e1,e2⟩
   ·rw [e];exact .refl
   ·exact Reach.refl.step (adF c e)
   ·exact (Reach.refl.step (adF c e1)).step (adF c e2)
 ·rw [if_neg c] at hn
  cases hn
theorem qD {g:Gt} (o:opG rows wd cut g=true):inP rows wd (hpt rows cut h g)=true/\hiP rows cut (hpt rows cut h g)=h:=by
 unfold opG yu qI at o
 rw [aoo,aoo,aoo] at o
 obtain⟨⟨_,i1,i2⟩,ne⟩:=o
 unfold hpt
 by_cases e:hiB rows cut g.1 g.2.1=h
 ·rw [if_pos e];exact⟨i1,e⟩
 ·rw [if_neg e]
  refine⟨i2,?_⟩
  have ne':(hiB rows cut g.1 g.2.1 != hiB rows cut (px g.1 g.2.2) (py g.2.1 g.2.2))=true:=ne
  show hiB rows cut (px g.1 g.2.2) (py g.2.1 g.2.2)=h
  revert e ne'
  cases hiB rows cut g.1 g.2.1 <;> cases hiB rows cut (px g.1 g.2.2) (py g.2.1 g.2.2) <;> cases h <;> decide
theorem afP {q:Bool} {l:List Gt} (L:LineOk rows wd cut q l) {g0:Gt} (h0:l.head?=some g0):∀ (i:Nat) g,l[i]?=some g->Reach rows wd cut (hpt rows cut h g0) (hpt rows cut h g):=by
 intro i
 induction i with
 | zero =>
  intro g hg
  rw [ao1,hg] at h0
  cases h0
  exact .refl
 | succ i ih =>
  intro g hg
  have hlt:=(aoh.mp hg).1
  have a1:l[i]?=some l[i]:=aof (by omega)
  exact (ih _ a1).trans (afO (L.op _ (aoj a1)) (L.ch i _ _ a1 hg))
theorem aly {rs:List (Bool×List Pt)} (R:Regs rows wd cut rs) {q:Bool} {l:List Gt} (L:LineOk rows wd cut q l) {g0:Gt} (h0:l.head?=some g0) {rr:Bool×List Pt} (hr:rr∈rs) (hm:hpt rows cut h g0∈rr.2):rr.1=h/\∀ g∈l,hpt rows cut h g∈rr.2:=by
 obtain⟨p,X⟩:=R.reg rr hr
 have hp:=(X.mem _).mp hm
 have o0:=L.op g0 (apb h0)
 refine⟨?_,fun g hg=>?_⟩
 ·rw [X.hi,<- (hp.ins X.inn).2]
  exact (qD o0).2
 ·obtain⟨i,hi⟩:=aoO hg
  exact (X.mem _).mpr (hp.trans (afP L h0 i g hi))
end
def ixR (rs:List (Bool×List Pt)) (p:Pt):Nat:=rs.findIdx fun r=>decide (p∈r.2)
theorem vJ {rows:List (List Int)} {wd:Nat} {cut:Int} {rs:List (Bool×List Pt)} (R:Regs rows wd cut rs) {p:Pt} (ip:inP rows wd p=true):∃ rr,rs[ixR rs p]?=some rr/\p∈rr.2:=by
 obtain⟨r,hr,hp⟩:=R.all p ip
 have hlt:ixR rs p<rs.length:=List.findIdx_lt_length_of_exists ⟨r,hr,decide_eq_true hp⟩
 exact⟨_,aof hlt,of_decide_eq_true (List.findIdx_getElem (w:=hlt))⟩
def hdG (t:Bool×List Gt):Gt:=t.2.headD (0,0,0)
def acM (rows:List (List Int)) (cut:Int) (rs:List (Bool×List Pt)) (t:Bool×List Gt):PyData:=.tuple [.int (ixR rs (hpt rows cut true (hdG t))),.int (ixR rs (hpt rows cut false (hdG t)))]
theorem aa3 {rows:List (List Int)} {wd:Nat} {cut:Int} {q:Bool} {l:List Gt} (L:LineOk rows wd cut q l):l.head?=some (hdG (q,l)):=by
 cases l with
 | nil=>exact absurd rfl L.ne
 | cons a l=>rfl
def alz (c:List (List Int)×Nat×Int) (es:List PyData):Prop:=∃ ts rs,es=ts.map (acM c.1 c.2.2 rs)/\Told c.1 c.2.1 c.2.2 ts/\(∀ g,opG c.1 c.2.1 c.2.2 g=true->g∈flat ts)/\((ts.map zX).Pairwise fun d e=>ltD d e=true)/\Regs c.1 c.2.1 c.2.2 rs/\rs.length<=49
abbrev ag0 (K:aol):Sp:=spN K 2 ang alz
theorem aj4 (F:Def K mg "sides" aaW pf) (uag:FnIn P w K mg base k "ask_table" pz (acA K)) (ubk:FnIn P w K mg base k "indexes" pf (acL w K)) (uaz:FnIn P w K mg base k "lines" pf (aa2 K)) (uar:FnIn P w K mg base k "gate_points" ["gate"] (agR K)) (uac:FnIn P w K mg base k "stands_high" pA (vU K)):FnIn P w K mg base (k+1) "sides" pf (ag0 K):=by
 refine F.okN sc_sides rfl fun fa cdv A outer s H E hr=>⟨_,(zc (yp (zd uag hr rfl (za (pv 0) zb))) (zc (zB (i:=2) sc_sides.nd rfl (Or.inl rfl) (zd ubk hr rfl (za (pv 0) (za (pv 1) zb)))) (zc (zB (i:=3) sc_sides.nd rfl (Or.inl rfl) (yh zb)) (zc (yB aoT rfl (zW (K:=K) rfl (zd uaz hr rfl (za (pv 0) (za (pv 1) zb)))) (zL (K:=K) (n:=2) rfl rfl (zh (zf (i:=4) sc_sides.nd rfl (Or.inl rfl) (Or.inr rfl)) (zh (zf (i:=5) sc_sides.nd rfl (Or.inl rfl) (Or.inr rfl)) zH))) (zc (ya (zd uar hr rfl (za (zI (yf (K:=K) rfl) (pv 5) ze (fun _ _=>rfl)) zb)) (ac0 (K:=K) (n:=2) rfl rfl (zh (zf (i:=6) sc_sides.nd rfl (Or.inl rfl) (Or.inr rfl)) (zh (zf (i:=7) sc_sides.nd rfl (Or.inl rfl) (Or.inr rfl)) zH)))) (zg (yA (z4 (K:=K) rfl (zd uac hr rfl (za (pv 0) (za (pv 1) (za (pv 6) zb)))) (fun _=>rfl)) (zg (yp (aaB apa apc apd yP (pv 3) (za (zC (za (zI (aae (w:=w) (K:=K) rfl rfl hr.units) (pv 2) (pv 6) (fun _ _=>rfl)) (za (zI (aae (w:=w) (K:=K) rfl rfl hr.units) (pv 2) (pv 7) (fun _ _=>rfl)) zb))) zb)))) (zg (yp (aaB apa apc apd yP (pv 3) (za (zC (za (zI (aae (w:=w) (K:=K) rfl rfl hr.units) (pv 2) (pv 7) (fun _ _=>rfl)) (za (zI (aae (w:=w) (K:=K) rfl rfl hr.units) (pv 2) (pv 6) (fun _ _=>rfl)) zb))) zb)))))))) (zg (zt (pv 3))))))),?_⟩
 rintro f xs ⟨rows,wd,cut⟩ hl ⟨rfl,g⟩
 try dsimp only [z5,zl]
 dsimp only at *
 refine qG (vO (zp (rows,wd) ?_))
 walk_at "w"
 rintro _ rfl
 refine qG (amR (amQ (rows,wd,cut) ?_))
 walk_at "w"
 rintro _ ⟨rs,kvs,rfl,R,rl,tl⟩
 dsimp only at R
 refine afK (w:=w) (vb (aiQ ⟨show 3<8 by decide,fun D0=>?_⟩))
 refine afI (qR (yx (PEdO.ped (jg (rows,wd,cut) ?_))))
 walk_at "w"
 rintro _ ⟨ts,rfl,T,al,pw⟩
 dsimp only at T al pw
 have few:=T.few g
 refine⟨_,rfl,fun n ρ cs=>∃ (u4 u5 u6 u7:Option DV),ρ=[some (.dat (tab rows)),some (.dat (.int cut)),some (.mon (afr w K kvs)),some (.own (f.M.length+0)),u4,u5,u6,u7]/\cs=[.lst ((ts.take n).map (acM rows cut rs))],⟨_,_,_,_,rfl,by rw [ap2];rfl⟩,?_,?_⟩
 ·rintro n d _ _ hd ⟨u4,u5,u6,u7,rfl,rfl⟩
  rw [aoq] at hd
  cases eq:ts[n]? with
  | none=>rw [eq] at hd;cases hd
  | some t =>
   rw [eq] at hd
   cases hd
   obtain⟨q,l⟩:=t
   have L:=T.line _ (aoj eq)
   have h0:=aa3 L
   have o0:=L.op _ (apb h0)
   have tk:ts.take (n+1)=ts.take n++[(q,l)]:=by rw [apk,eq];rfl
   have atz:atI (l.map gD3) 0=some (gD3 (hdG (q,l))):=qi (j:=0) (by rw [aoq,<- ao1,h0];rfl)
   have hs:acM rows cut rs (q,l)=.tuple [.int (ixR rs (hpt rows cut true (hdG (q,l)))),.int (ixR rs (hpt rows cut false (hdG (q,l))))]:=rfl
   have key:∀ h,jh (pD (hpt rows cut h (hdG (q,l)))) kvs=some (.int (ixR rs (hpt rows cut h (hdG (q,l))))):=fun h=>by
    obtain⟨rr,e1,e2⟩:=vJ R (qD (h:=h) o0).1
    exact tl _ rr _ e1 e2
   have i1:=qC o0
   generalize hdG (q,l)=g0 at *
   obtain⟨x,y,v⟩:=g0
   have ll:((ts.take n).map (acM rows cut rs)).length<1000:=by
    rw [aog,aoX]
    omega
   refine yt rfl (zo (zi (zo (zi (zT ?_)))))
   refine aev (fun ρ cs=>ρ=[some (.dat (tab rows)),some (.dat (.int cut)),some (.mon (afr w K kvs)),some (.own (f.M.length+0)),some (.dat (.str (if q=true then "ring" else "run"))),some (.dat (.tuple (l.map gD3))),some (.dat (pD (x,y))),some (.dat (pD (px x v,py y v)))]/\cs=[.lst ((ts.take n).map (acM rows cut rs))]) (abx (zP (zp (x,y,v) ?_))) ?_
   ·walk_at "w"
    refine⟨_,atz,?_⟩
    walk_at "w"
    rintro _ rfl
    exact aiU rfl (zo (zi (zo (zi (zT ⟨rfl,rfl⟩)))))
   rintro _ _ ⟨rfl,rfl⟩
   refine ahB (anE (yH (zp (rows,wd,cut,x,y) ?_)))
   walk_at "w"
   rintro _ rfl
   refine⟨_,rfl,zS (fun h=>?_) fun h=>?_⟩
   ·have h:hiB rows cut x y=true:=h
    have e1:hpt rows cut true (x,y,v)=(x,y):=if_pos h
    have e2:hpt rows cut false (x,y,v)=(px x v,py y v):=if_neg (by show ¬ hiB rows cut x y=false;rw [h];exact arB)
    refine aaG (i:=3) (j:=0) rfl rfl ll (aab (vB (zx (agL (w:=w) (v_var rfl ⟨kvs,rfl,zm rfl ⟨jW (x,y),_,e1▸key true,zx (agL (w:=w) (v_var rfl ⟨kvs,rfl,zm rfl ⟨jW (px x v,py y v),_,e2▸key false,yj ⟨_,rfl,aoS rfl,?_⟩⟩⟩))⟩⟩)))))
    refine⟨_,_,_,_,rfl,?_⟩
    rw [tk,aoF,List.map_singleton,hs,e1,e2]
    rfl
   ·have h:hiB rows cut x y=false:=h
    have e1:hpt rows cut false (x,y,v)=(x,y):=if_pos h
    have e2:hpt rows cut true (x,y,v)=(px x v,py y v):=if_neg (by show ¬ hiB rows cut x y=true;rw [h];exact arB)
    refine aaG (i:=3) (j:=0) rfl rfl ll (aab (vB (zx (agL (w:=w) (v_var rfl ⟨kvs,rfl,zm rfl ⟨jW (px x v,py y v),_,e2▸key true,zx (agL (w:=w) (v_var rfl ⟨kvs,rfl,zm rfl ⟨jW (x,y),_,e1▸key false,yj ⟨_,rfl,aoS rfl,?_⟩⟩⟩))⟩⟩)))))
    refine⟨_,_,_,_,rfl,?_⟩
    rw [tk,aoF,List.map_singleton,hs,e1,e2]
    rfl
 ·rintro _ _ ⟨u4,u5,u6,u7,rfl,rfl⟩
  rw [aog,aoZ]
  exact afJ (i:=3) (j:=0) rfl rfl ⟨ts,rs,rfl,T,al,pw,R,rl⟩
section
variable {K:aol} {f:Fx} {ρ:zq} {wi:TI} {g:TG} {tt:TT} {own:Nat} {fr:List Nat} {tb:Addr->TB} {P:List PyData->Prop}
theorem qu {α:Type} {A B:α->PyData} (p:α->Bool) (xs:List α) (h:PId K f wi ρ fun ds=>ds=xs.map A/\xs.length<=1000 /\
   (∀ D x ρ' es,x∈xs->OwnE own (frD fr ρ) ρ'->es.length<1000->PGd K (f.with D) g (A x) ρ' fun ρ2=>PTd K (f.with D) tt ρ2 fun b=>b=p x/\if b=true then PBd K f D (tb D) ρ2 es fun ρ3 es3=>OwnE own (frD fr ρ) ρ3/\es3=es++[B x] else OwnE own (frD fr ρ) ρ2)/\P ((xs.filter p).map B)) :
  PEdO K f (jX wi own fr g tt tb) ρ P :=
 qP (h.imp fun ds ⟨ed,hl,hs,hp⟩=>by
  subst ed
  refine⟨fun i ρ' es=>OwnE own (frD fr ρ) ρ'/\es=((xs.take i).filter p).map B,⟨⟨apN own none,by simp,rfl⟩,by simp⟩,fun D i d ρ' es hd ⟨ho,he⟩=>?_,fun ρ' es ⟨_,he⟩=>?_⟩
  ·rw [aoq] at hd
   cases eq:xs[i]? with
   | none=>rw [eq] at hd;cases hd
   | some x =>
    rw [eq] at hd
    cases hd
    have hi:i<xs.length:=(aoh.mp eq).1
    have tk:xs.take (i+1)=xs.take i++[x]:=by rw [apk,eq];rfl
    have hb:es.length<1000:=by
     have:=ao5 p (xs.take i)
     rw [aoX] at this
     rw [he,aog]
     omega
    intro σ H v Q e r q
    refine hs D x ρ' es (aoj eq) ho hb σ H v Q e r fun ρ2 σ2 H2 g2 e2 p2=>q ρ2 σ2 H2 g2 e2 (p2.imp fun b hb2=>?_)
    obtain⟨eb,hb2⟩:=hb2
    cases b with
    | false =>
     rw [if_neg aoi] at hb2 ⊢
     refine⟨hb2,?_⟩
     rw [tk,api,aoF,ao0,<- eb,if_neg aoi,he]
     simp
    | true =>
     rw [if_pos rfl] at hb2 ⊢
     intro h1 h2 σ3 H3 H4 W c k
     exact hb2 h1 h2 σ3 H3 H4 W c fun ρ5 es5 σ5 H5 c5 ⟨o5,p5⟩=>k ρ5 es5 σ5 H5 c5 ⟨o5,by rw [p5,he,tk,api,aoF,ao0,<- eb,if_pos rfl];rfl⟩
  ·rw [he,aog,aoZ]
   exact hp)
end
abbrev LX:=(Bool×List Gt)×Int×Int
abbrev anS (c:LX) (xs:List DV):Prop:=xs=[.dat (zX c.1),.dat (.int c.2.1),.dat (.int c.2.2)]/\c.1.2.length<=98
abbrev al1 (K:aol):Sp:=spD K 3 anS fun c r=>r=.int (ab5 c.1.2 c.2.1 c.2.2:Nat)
theorem ank (F:Def K mg "crossed" vf pB) (uaa:mg "len"=none):FnIn P w K mg base (k+1) "crossed" pB (al1 K):=by
 refine F.ok sc_crossed rfl fun fa cdv A outer s H E hr=>⟨_,(zc (ya (pv 0) (zL (K:=K) (n:=2) rfl rfl (zh (zf (i:=3) sc_crossed.nd rfl (Or.inl rfl) (Or.inr rfl)) (zh (zf (i:=4) sc_crossed.nd rfl (Or.inl rfl) (Or.inr rfl)) zH)))) (zg (zt (zA (zM (K:=K) rfl) rfl uaa aoW (za (ye (N:=pW) (own:=3) (fr:=[1,2]) ⟨rfl,by decide +kernel,of_decide_eq_true (by kernel_rfl),of_decide_eq_true (by kernel_rfl),of_decide_eq_true (by kernel_rfl),rfl⟩ rfl (qq (K:=K) rfl (pv 4)) (fun _ _ _ _=>(zL (K:=K) (n:=3) rfl rfl (zh (zf (i:=0) (show (pW:List Str).Nodup by decide +kernel) rfl (Or.inl rfl) (Or.inr rfl)) (zh (zf (i:=1) (show (pW:List Str).Nodup by decide +kernel) rfl (Or.inl rfl) (Or.inr rfl)) (zh (zf (i:=2) (show (pW:List Str).Nodup by decide +kernel) rfl (Or.inl rfl) (Or.inr rfl)) zH))))) (fun _ _ _ _=>(yS (PW.pt (qg (zJ (jT (K:=K) rfl hr.units) (pv 2) ze (zQ _)) (qg (zJ (jT (K:=K) rfl hr.units) (pv 1) (pv 4) (zQ _)) (jB (zJ aio (pv 0) (pv 3) (zQ _)))))))) (fun _ _ _ _=>(pv 0)) rfl rfl (fun _=>rfl)) zb))))),?_⟩
 rintro f xs ⟨⟨ring,l⟩,x,y⟩ hl ⟨rfl,ln⟩
 try dsimp only [z5,zl]
 dsimp only at *
 refine z6 (zP (zm rfl (yt rfl (zo (zi (zo (zi (zT ?_)))))))) 
 refine yT (qN (zx (PEdO.ped (qu (A:=gD3) (B:=fun g=>.int g.1) (yV x y) l (abk (zm rfl ⟨_,rfl,rfl,by omega,?_,?_⟩))))))
 ·rintro D ⟨a,b,w⟩ ρ' es hg ho hes
  obtain⟨us,hus,rfl⟩:=ho
  match us,hus with
  | [u1,u2,u3],_ =>
   refine yt rfl (zo (zi (zo (zi (zo (zi (zT ?_)))))))
   walk_at "w"
   refine zS (fun h1=>?_) fun h1=>?_
   ·have h1:decide (w=0)=true:=h1
    walk_at "w"
    refine zS (fun h2=>?_) fun h2=>?_
    ·have h2:decide (b=y)=true:=h2
     walk_at "w"
     refine⟨by unfold yV;dsimp only;rw [h1,h2];rfl,?_⟩
     refine zS (fun h3=>?_) fun h3=>?_
     ·refine yl hes ?_
      walk_at "w"
      exact⟨⟨[_,_,_],rfl,rfl⟩,rfl⟩
     ·exact⟨[_,_,_],rfl,rfl⟩
    ·have h2:decide (b=y)=false:=h2
     exact⟨by unfold yV;dsimp only;rw [h1,h2];rfl,⟨[_,_,_],rfl,rfl⟩⟩
   ·have h1:decide (w=0)=false:=h1
    exact⟨by unfold yV;dsimp only;rw [h1];rfl,⟨[_,_,_],rfl,rfl⟩⟩
 ·refine yj (.inl ⟨_,rfl,?_⟩)
  show PyData.int _=.int _
  rw [aog]
  rfl
theorem aj5 (b:Bool):(PyData.str (if b=true then "ring" else "run")).canLay0=true:=by cases b <;> decide +kernel
abbrev adG (K:aol):Sp:=spD K 3 anS fun c r=>r=.bool (c.1.1 && y3 c.1.2 c.2.1 c.2.2)
theorem aj6 (F:Def K mg "holds" aaV pB) (ubl:FnIn P w K mg base k "crossed" pB (al1 K)):FnIn P w K mg base (k+1) "holds" pB (adG K):=by
 refine F.ok ajs rfl fun fa cdv A outer s H E hr=>⟨_,(zg (zt (vK (yD (jT (K:=K) rfl hr.units) (zI (yf (K:=K) rfl) (pv 0) ze (fun _ _=>rfl)) jQ (zQ _)) (aa7 (yD (jT (K:=K) rfl hr.units) (zw vM (zd ubl hr rfl (za (pv 0) (za (pv 1) (za (pv 2) zb)))) ze) ze (zQ _)))))),?_⟩
 rintro f xs ⟨⟨ring,l⟩,x,y⟩ hl ⟨rfl,ln⟩
 try dsimp only [z5,zl]
 dsimp only at *
 refine yT (abh ?_)
 walk_at "w"
 refine⟨aj5 ring,by decide +kernel,aoN (Nat.min_le_left _ _) (ao2 60),_,rfl,?_⟩
 cases ring with
 | false=>refine zS (fun h=>absurd (show aoH (.str "run") (.str "ring")=true from h) (by decide +kernel)) fun _=>rfl
 | true =>
  refine zS (fun _=>?_) fun h=>absurd (show aoH (.str "ring") (.str "ring")=false from h) (by rw [aqF _ (by decide +kernel)];exact arB)
  refine jC (afe (zp ((true,l),x,y) ?_))
  walk_at "w"
  rintro _ rfl
  dsimp only
  walk_at "w"
  show PyData.bool (aoH (.int ((ab5 l x y:Int) % 2)) (.int 1))=.bool (true && y3 l x y)
  rw [aak,apv]
  unfold y3
  congr 1
  exact decide_eq_decide.mpr (by omega)
def abL (ks:List Nat):PyData:=.tuple (ks.map fun k:Nat=>.int k)
def zG (ts:List (Bool×List Gt)) (a:Nat):Gt:=(ts.getD a (false,[])).2.headD (0,0,0)
theorem ag1 {rows:List (List Int)} {wd:Nat} {cut:Int} {ts:List (Bool×List Gt)} (T:Told rows wd cut ts) {a:Nat} (ha:a<ts.length):ts[a]?=some ts[a]/\ts[a].2.head?=some (zG ts a):=by
 refine⟨aof ha,?_⟩
 have L:=T.line _ (aoQ ha)
 unfold zG
 rw [aok,aof ha]
 show _=some (ts[a].2.headD (0,0,0))
 cases q:ts[a].2 with
 | nil=>exact absurd q L.ne
 | cons x l=>rfl
theorem afQ (ts:List (Bool×List Gt)):vE (ts.map zX)=(aow ts.length).map fun k:Nat=>PyData.tuple [.int k,zX (ts.getD k (false,[]))]:=by
 unfold vE
 refine List.ext_getElem (by simp) fun i h1 h2=>?_
 simp only [List.length_mapIdx,aog] at h1
 simp [aok,h1]
abbrev TA2:=List (List Int)×Nat×Int×List (Bool×List Gt)×Nat
abbrev aoe (c:TA2) (xs:List DV):Prop:=xs=[.dat (.list (c.2.2.2.1.map zX)),.dat (.int (c.2.2.2.2:Nat))]/\Good c.2.1 c.1/\Told c.1 c.2.1 c.2.2.1 c.2.2.2.1/\c.2.2.2.2<c.2.2.2.1.length
abbrev postA (c:TA2) (r:PyData):Prop:=∀ s h,c.2.2.2.1[c.2.2.2.2]?=some s->s.2.head?=some h->r=abL (yG c.2.2.2.1 c.2.2.2.2 h.1 h.2.1)
abbrev ag2 (K:aol):Sp:=spD K 2 aoe postA
theorem aj7 (F:Def K mg "rings_round" y9 pL) (uah:mg "tuple"=none) (uaf:mg "enumerate"=none) (uaK:FnIn P w K mg base k "holds" pB (adG K)):FnIn P w K mg base (k+1) "rings_round" pL (ag2 K):=by
 refine F.ok sc_rings_round rfl fun fa cdv A outer s H E hr=>⟨_,(zc (ya (zI (yf (K:=K) rfl) (zI (yf (K:=K) rfl) (zI (zz (K:=K) rfl) (pv 0) (pv 1) (fun _ _=>rfl)) ze (fun _ _=>rfl)) ze (fun _ _=>rfl)) (zL (K:=K) (n:=3) rfl rfl (zh (zf (i:=2) sc_rings_round.nd rfl (Or.inr rfl) (Or.inl rfl)) (zh (zf (i:=3) sc_rings_round.nd rfl (Or.inr rfl) (Or.inl rfl)) (zh (zf (i:=4) sc_rings_round.nd rfl (Or.inl rfl) (Or.inr rfl)) zH))))) (zg (zt (aao (qO (K:=K) rfl) rfl uah aqA (za (ye (N:=pY) (own:=2) (fr:=[1,2,3]) ⟨rfl,by decide +kernel,of_decide_eq_true (by kernel_rfl),of_decide_eq_true (by kernel_rfl),of_decide_eq_true (by kernel_rfl),rfl⟩ rfl (abj (K:=K) rfl rfl uaf (za (pv 0) zb)) (fun _ _ _ _=>(zL (K:=K) (n:=2) rfl rfl (zh (zf (i:=0) (show (pY:List Str).Nodup by decide +kernel) rfl (Or.inl rfl) (Or.inr rfl)) (zh (zf (i:=1) (show (pY:List Str).Nodup by decide +kernel) rfl (Or.inl rfl) (Or.inr rfl)) zH)))) (fun _ _ _ _=>(yS (PW.pt (qg (zJ (qo (K:=K) rfl hr.units) (pv 0) (pv 2) (zQ _)) (jB (z4 (K:=K) rfl (zd uaK hr rfl (za (pv 1) (za (pv 3) (za (pv 4) zb)))) (fun _=>rfl))))))) (fun _ _ _ _=>(pv 0)) rfl rfl (fun _=>rfl)) zb))))),?_⟩
 rintro f xs ⟨rows,wd,cut,ts,a⟩ hl ⟨rfl,gd,T,ha⟩
 try dsimp only [z5,zl]
 dsimp only at *
 have few:=T.few gd
 have es:ts[a]?=some ts[a]:=aof ha
 have L:=T.line _ (aoQ ha)
 obtain⟨h,hh⟩:∃ h,ts[a].2.head?=some h:=by
  cases q:ts[a].2 with
  | nil=>exact absurd q L.ne
  | cons x l=>exact⟨x,rfl⟩
 have t1:atI (ts.map zX) (a:Int)=some (zX ts[a]):=yL (j:=a) rfl ha
 have t2:atI (ts[a].2.map gD3) 0=some (gD3 h):=by
  have p:0<ts[a].2.length:=aqa (apb hh)
  have e:ts[a].2[0]=h:=by
   rw [ao1,aof p] at hh
   exact Option.some.inj hh
  rw [<-e]
  exact yL (k:=0) (j:=0) rfl p
 refine z6 (zP ?_)
 walk_at "w"
 refine⟨_,t1,?_⟩
 walk_at "w"
 refine⟨_,t2,?_⟩
 refine yt rfl (zo (zi (zo (zi (zo (zi (zT ?_)))))))
 refine yT (agg (zx (PEdO.ped (qu (A:=fun k:Nat=>PyData.tuple [.int k,zX (ts.getD k (false,[]))]) (B:=fun k:Nat=>.int k) (vW ts a h.1 h.2.1) (aow ts.length) (aiO (zx (zm rfl (yj ⟨_,rfl,?_,?_,?_,?_⟩)))))))) 
 ·exact afQ ts
 ·rw [aoU];omega
 ·rintro D n ρ' es hn ho hes
  obtain⟨us,hus,rfl⟩:=ho
  match us,hus with
  | [u1,u2],_ =>
   refine yt rfl (zo (zi (zo (zi (zT ?_)))))
   walk_at "w"
   have hn':=aoK.mp hn
   have e:ts.getD n (false,[])=ts[n]:=by rw [aok,aof hn'];rfl
   have Ln:=T.line _ (aoQ hn')
   have lenN:=qX gd Ln.op Ln.nd
   refine zS (fun h1=>?_) fun h1=>?_
   ·have h1:(!decide ((n:Int)=(a:Int)))=true:=h1
    have na:decide (n≠a)=true:=decide_eq_true fun z=>by rw [decide_eq_true (by omega)] at h1;cases h1
    rw [e]
    refine yH (zp (ts[n],h.1,h.2.1) ?_)
    walk_at "w"
    rintro _ rfl
    refine⟨_,rfl,?_,?_⟩
    ·unfold vW
     rw [e,na]
     rfl
    ·refine zS (fun h3=>?_) fun h3=>?_
     ·refine yl hes ?_
      walk_at "w"
      exact⟨⟨[_,_],rfl,rfl⟩,rfl⟩
     ·exact⟨[_,_],rfl,rfl⟩
   ·have h1:(!decide ((n:Int)=(a:Int)))=false:=h1
    have na:decide (n≠a)=false:=decide_eq_false fun z=>by rw [decide_eq_false (by omega)] at h1;cases h1
    refine⟨by unfold vW;rw [na];rfl,⟨[_,_],rfl,rfl⟩⟩
 ·walk_at "w"
  intro s' h' e1 e2
  dsimp only at e1
  rw [es] at e1
  cases e1
  rw [hh] at e2
  cases e2
  rfl
abbrev aj8 (K:aol):Sp:=spN K 2 (fun (c:List (List Int)×Nat×Int) xs=>xs=[.dat (tab c.1),.dat (.int c.2.2)]/\Good c.2.1 c.1) fun c es=>∃ ts,Told c.1 c.2.1 c.2.2 ts/\(∀ g,opG c.1 c.2.1 c.2.2 g=true->g∈flat ts)/\((ts.map zX).Pairwise fun d e=>ltD d e=true)/\es=(aow ts.length).map fun a=>abL (yG ts a (zG ts a).1 (zG ts a).2.1)
theorem alA (F:Def K mg "lies_in" vg pf) (uaa:mg "len"=none) (uab:mg "range"=none) (uag:FnIn P w K mg base k "ask_table" pz (acA K)) (uaz:FnIn P w K mg base k "lines" pf (aa2 K)) (ubm:FnIn P w K mg base k "rings_round" pL (ag2 K)):FnIn P w K mg base (k+1) "lies_in" pf (aj8 K):=by
 refine F.okN sc_lies_in rfl fun fa cdv A outer s H E hr=>⟨_,(zc (yp (zd uag hr rfl (za (pv 0) zb))) (zc (zB (i:=2) sc_lies_in.nd rfl (Or.inr rfl) (zd uaz hr rfl (za (pv 0) (za (pv 1) zb)))) (zg (zt (ye (N:=["at","told"]) (own:=1) (fr:=[2]) ⟨rfl,by decide +kernel,of_decide_eq_true (by kernel_rfl),of_decide_eq_true (by kernel_rfl),of_decide_eq_true (by kernel_rfl),rfl⟩ rfl (yv rfl uab (za (zA (zM (K:=K) rfl) rfl uaa aoW (za (pv 2) zb)) zb)) (fun _ _ _ _=>(zf (i:=0) (show (["at","told"]:List Str).Nodup by decide +kernel) rfl (Or.inl rfl) (Or.inr rfl))) (fun _ _ _ _=>y4) (fun _ _ _ _=>(zd ubm hr rfl (za (pv 1) (za (pv 0) zb)))) rfl rfl (fun _=>rfl)))))),?_⟩
 rintro f xs ⟨rows,wd,cut⟩ hl ⟨rfl,gd⟩
 try dsimp only [z5,zl]
 dsimp only at *
 refine qG (vO (zp (rows,wd) ?_))
 walk_at "w"
 rintro _ rfl
 refine qG (zP (PEdO.ped (jg (rows,wd,cut) ?_)))
 walk_at "w"
 rintro _ ⟨ts,rfl,T,all,up⟩
 dsimp only at T all
 have few:=T.few gd
 refine zi (acm (agh (A:=fun a:Nat=>PyData.int a) (B:=fun a=>abL (yG ts a (zG ts a).1 (zG ts a).2.1)) (aow ts.length) (jE (zx (qN (zx (zm rfl (yj (.inl ⟨_,rfl,yj ⟨_,rfl,by rw [aog];omega,by rw [aog];omega,?_⟩⟩)))))))))
 rw [aog]
 refine⟨rfl,by rw [aoU];omega,?_,?_⟩
 ·rintro D n ρ' es hn ho hes
  obtain⟨us,hus,rfl⟩:=ho
  match us,hus with
  | [u1],_ =>
   have hn':=aoK.mp hn
   refine zi (vF ?_)
   rw [if_pos rfl]
   refine yl hes (zp (rows,wd,cut,ts,n) ?_)
   walk_at "w"
   intro r hr
   refine⟨⟨[_],rfl,rfl⟩,?_⟩
   obtain⟨e1,e2⟩:=ag1 T hn'
   rw [hr _ _ e1 e2]
 ·exact⟨ts,T,all,up,rfl⟩
section
variable {rows:List (List Int)} {wd:Nat} {cut:Int} {t:Bool×List Gt}
theorem aeZ (L:LineOk rows wd cut t.1 t.2) (st:yZ rows wd cut t) {x y:Int} (hc:zD rows wd x y=true) {i j:Fin 4} (h:prt (t4 rows cut x y) i=some j) (hm:gt x y i∈t.2):gt x y j∈t.2:=by
 have o:=L.op _ hm
 have inj:∀ i j,gt x y i=gt x y j->i=j:=fun _ _=>vV
 have hp:prt (ji rows cut x y) (gt x y i)=some (gt x y j):=by
  unfold ji
  rw [aam inj,h]
  rfl
 cases he:enF (hiB rows cut x y) (hiB rows cut (x+1) y) (hiB rows cut (x+1) (y+1)) (hiB rows cut x (y+1)) i with
 | true =>
  have ha:=(aaI (rows:=rows) (cut:=cut) (x:=x) (y:=y) i).1.mpr he
  refine jP L hm ?_
  unfold z3
  rw [ha,if_pos hc]
  exact hp
 | false =>
  have hb:=(aaI (rows:=rows) (cut:=cut) (x:=x) (y:=y) i).2.mpr he
  have hq:yo rows wd cut (gt x y i)=some (gt x y j):=by
   unfold yo
   rw [hb,if_pos hc]
   exact hp
  obtain⟨oj,hn⟩:=prev_next o hq
  exact jO L st oj hm hn
theorem aic:∀ (A B C D M m0 m1 m2 m3:Bool),(∀ i j:Fin 4,prt (qT A B C D M) i=some j->(match i with | 0=>m0 | 1=>m1 | 2=>m2 | 3=>m3)=true->(match j with | 0=>m0 | 1=>m1 | 2=>m2 | 3=>m3)=true) ->
  ((A != B) && (A != D) && (D != C) && (B != C))=true->(if (M == A)=true then m0=m3 else m0=m1):=by decide +kernel
theorem acN (L:LineOk rows wd cut t.1 t.2) (st:yZ rows wd cut t) {x y:Int} (hc:zD rows wd x y=true) (s:Bool):(mB t.2 (gt x y 0) != (mB t.2 (gt x y 1) != (mB t.2 (gt x y 2) != mB t.2 (gt x y 3))))=false /\
  ((hiB rows cut x y != hiB rows cut (x+1) y)=true->(hiB rows cut x y != hiB rows cut x (y+1))=true->(hiB rows cut x (y+1) != hiB rows cut (x+1) (y+1))=true->(hiB rows cut (x+1) y != hiB rows cut (x+1) (y+1))=true->(jz rows cut x y=hiB rows cut x y->((s != mB t.2 (gt x y 0)) != mB t.2 (gt x y 3))=s)/\(jz rows cut x y=hiB rows cut (x+1) y->(s != mB t.2 (gt x y 0))=(s != mB t.2 (gt x y 1)))):=by
 have key:∀ i:Fin 4,(match i with | 0=>mB t.2 (gt x y 0) | 1=>mB t.2 (gt x y 1) | 2=>mB t.2 (gt x y 2) | 3=>mB t.2 (gt x y 3))=mB t.2 (gt x y i):=fun i=>match i with | 0=>rfl | 1=>rfl | 2=>rfl | 3=>rfl
 refine⟨acJ (hiB rows cut x y) (hiB rows cut (x+1) y) (hiB rows cut (x+1) (y+1)) (hiB rows cut x (y+1)) (jz rows cut x y) _ _ _ _ (fun i j h hm=>?_) fun i hm=>?_,fun c0 c1 c2 c3=>?_⟩
 ·have hm:mB t.2 (gt x y i)=true:=(key i).symm.trans hm
  exact (key j).trans (decide_eq_true (aeZ L st hc h (of_decide_eq_true hm)))
 ·have hm:mB t.2 (gt x y i)=true:=(key i).symm.trans hm
  rw [<-qU hc]
  exact L.op _ (of_decide_eq_true hm)
 ·have four:=aic (hiB rows cut x y) (hiB rows cut (x+1) y) (hiB rows cut (x+1) (y+1)) (hiB rows cut x (y+1)) (jz rows cut x y) (mB t.2 (gt x y 0)) (mB t.2 (gt x y 1)) (mB t.2 (gt x y 2)) (mB t.2 (gt x y 3)) (fun i j h hm=>by
   have hm:mB t.2 (gt x y i)=true:=(key i).symm.trans hm
   exact (key j).trans (decide_eq_true (aeZ L st hc h (of_decide_eq_true hm)))) (by rw [c0,c1,c2,c3];rfl)
  constructor
  ·intro e
   rw [e,beq_self_eq_true,if_pos rfl] at four
   rw [four]
   cases s <;> cases mB t.2 (gt x y 3) <;> rfl
  ·intro e
   rw [e,if_neg (by revert c0;cases hiB rows cut x y <;> cases hiB rows cut (x+1) y <;> decide)] at four
   rw [four]
def sdN (l:List Gt):Nat->Nat->Bool
 | 0,0=>false
 | 0,y+1=>sdN l 0 y != mB l (0,(y:Int),1)
 | x+1,y=>sdN l x y != mB l ((x:Int),(y:Int),0)
def sdP (l:List Gt) (p:Pt):Bool:=sdN l p.1.toNat p.2.toNat
theorem ae0 {l:List Gt} {x y:Int} (hx:0<=x) (hy:0<=y):sdP l (x+1,y)=(sdP l (x,y) != mB l (x,y,0)):=by
 obtain⟨x,rfl⟩:=apu hx
 obtain⟨y,rfl⟩:=apu hy
 show sdN l ((x:Int)+1).toNat _=_
 rw [show ((x:Int)+1).toNat=x+1 by omega]
 simp only [sdN,sdP,apW]
theorem ae1 (L:LineOk rows wd cut t.1 t.2) (st:yZ rows wd cut t) {y:Nat} (hy:y+1<rows.length):∀ x:Nat,x<wd->sdN t.2 x (y+1)=(sdN t.2 x y != mB t.2 ((x:Int),(y:Int),1))
 | 0,_=>by simp only [sdN];rfl
 | x+1,hx=>by
  have ih:=ae1 L st hy x (by omega)
  have hc:zD rows wd (x:Int) (y:Int)=true:=by
   unfold zD zO
   rw [decide_eq_true (by omega),decide_eq_true (by omega),decide_eq_true (by omega),decide_eq_true (by omega)]
   rfl
  have ev:(mB t.2 ((x:Int),(y:Int),0) != (mB t.2 ((x:Int),(y:Int),1) != (mB t.2 ((x:Int),(y:Int)+1,0) != mB t.2 ((x:Int)+1,(y:Int),1))))=false:=(acN L st hc false).1
  simp only [sdN]
  rw [ih,show ((x+1:Nat):Int)=(x:Int)+1 by omega,show ((y+1:Nat):Int)=(y:Int)+1 by omega]
  revert ev
  generalize sdN t.2 x y=a
  generalize mB t.2 ((x:Int),(y:Int),0)=b
  generalize mB t.2 ((x:Int),(y:Int),1)=c
  generalize mB t.2 ((x:Int),(y:Int)+1,0)=d
  generalize mB t.2 ((x:Int)+1,(y:Int),1)=e'
  revert a b c d e'
  decide
theorem adH (L:LineOk rows wd cut t.1 t.2) (st:yZ rows wd cut t) {x y:Int} (hx:0<=x) (hx':x<wd) (hy:0<=y) (hy':y+1<rows.length):sdP t.2 (x,y+1)=(sdP t.2 (x,y) != mB t.2 (x,y,1)):=by
 obtain⟨x,rfl⟩:=apu hx
 obtain⟨y,rfl⟩:=apu hy
 have:=ae1 L st (y:=y) (by omega) x (by omega)
 show sdN t.2 _ ((y:Int)+1).toNat=_
 rw [show ((y:Int)+1).toNat=y+1 by omega]
 exact this
theorem ag3 (L:LineOk rows wd cut t.1 t.2) (st:yZ rows wd cut t) {x y w:Int} (hw:w=0 \/ w=1) (h1:zO rows wd x y=true) (h2:zO rows wd (px x w) (py y w)=true):sdP t.2 (px x w,py y w)=(sdP t.2 (x,y) != mB t.2 (x,y,w)):=by
 obtain⟨a0,a1,a2,a3⟩:=yi h1
 obtain⟨b0,b1,b2,b3⟩:=yi h2
 rcases hw with rfl | rfl
 ·exact ae0 a0 a2
 ·exact adH L st a0 a1 a2 (by have:py y 1=y+1:=rfl;omega)
theorem aa4 (L:LineOk rows wd cut t.1 t.2) (st:yZ rows wd cut t) {x y w:Int} (hw:w=0 \/ w=1) (h1:zO rows wd x y=true) (h2:zO rows wd (px x w) (py y w)=true) (h:hiB rows cut (px x w) (py y w)=hiB rows cut x y):sdP t.2 (px x w,py y w)=sdP t.2 (x,y):=by
 have:mB t.2 (x,y,w)=false:=decide_eq_false fun z=>by
  have o:=L.op _ z
  unfold opG yu at o
  rw [aoo] at o
  have ne:(hiB rows cut x y != hiB rows cut (px x w) (py y w))=true:=o.2
  rw [h] at ne
  revert ne
  cases hiB rows cut x y <;> decide
 rw [ag3 L st hw h1 h2,this]
 cases sdP t.2 (x,y) <;> rfl
theorem alB (L:LineOk rows wd cut t.1 t.2) (st:yZ rows wd cut t) {p q:Pt} (hp:inP rows wd p=true) (h:q∈yX rows wd cut p):sdP t.2 q=sdP t.2 p:=by
 obtain⟨x,y⟩:=p
 rcases mem_join.mp h with⟨h1,h2,h3⟩ | ⟨c,h1,h2,h3,h4,rfl⟩
 ·rw [adC] at h1
  rcases h1 with rfl | rfl | rfl | rfl
  ·have:=aa4 L st (x:=x - 1) (y:=y) (w:=0) (.inl rfl) h2 (by show zO rows wd (x - 1+1) y=true;rw [show x - 1+1=x by omega];exact hp) (by show hiB rows cut (x - 1+1) y=_;rw [show x - 1+1=x by omega];exact h3.symm)
   have e:((px (x - 1) 0,py y 0):Pt)=(x,y):=by show ((x - 1+1,y):Pt)=_;rw [show x - 1+1=x by omega]
   rw [e] at this
   exact this.symm
  ·have:=aa4 L st (x:=x) (y:=y - 1) (w:=1) (.inr rfl) h2 (by show zO rows wd x (y - 1+1)=true;rw [show y - 1+1=y by omega];exact hp) (by show hiB rows cut x (y - 1+1)=_;rw [show y - 1+1=y by omega];exact h3.symm)
   have e:((px x 1,py (y - 1) 1):Pt)=(x,y):=by show ((x,y - 1+1):Pt)=_;rw [show y - 1+1=y by omega]
   rw [e] at this
   exact this.symm
  ·exact aa4 L st (x:=x) (y:=y) (w:=1) (.inr rfl) hp h2 h3
  ·exact aa4 L st (x:=x) (y:=y) (w:=0) (.inl rfl) hp h2 h3
 ·obtain⟨a,b⟩:=c
  have cc:zD rows wd a b=true:=h2
  obtain⟨i1,i2,i3,i4⟩:=cell_in cc
  obtain⟨a0,a1,a2,a3⟩:=yi i1
  obtain⟨b0,b1,b2,b3⟩:=yi i3
  obtain⟨c1,c2,c3⟩:=aeW cc h3
  have cs:=(acN L st cc (sdP t.2 (a,b))).2 (by rw [c1];cases hiB rows cut a b <;> rfl) (by rw [c2];cases hiB rows cut a b <;> rfl) (by rw [c2,c3];cases hiB rows cut a b <;> rfl) (by rw [c1,c3];cases hiB rows cut a b <;> rfl)
  have r1:sdP t.2 (a+1,b)=(sdP t.2 (a,b) != mB t.2 (gt a b 0)):=ae0 a0 a2
  have r2:sdP t.2 (a,b+1)=(sdP t.2 (a,b) != mB t.2 (gt a b 1)):=adH L st a0 a1 a2 b3
  have r3:sdP t.2 (a+1,b+1)=(sdP t.2 (a+1,b) != mB t.2 (gt a b 3)):=adH L st b0 b1 a2 b3
  rw [adD] at h1
  dsimp only at h1
  have h4:jz rows cut a b=hiB rows cut x y:=h4
  obtain⟨hu,hv⟩:=h1
  unfold asl
  dsimp only
  rcases hu with rfl | rfl <;> rcases hv with rfl | rfl
  ·rw [show 2 * x+1 - x=x+1 by omega,show 2 * y+1 - y=y+1 by omega,r3,r1]
   exact cs.1 h4
  ·rw [show 2 * x+1 - x=x+1 by omega,show 2 * b+1 - (b+1)=b by omega,r1,r2]
   exact cs.2 (by rw [h4,c2,c1])
  ·rw [show 2 * a+1 - (a+1)=a by omega,show 2 * y+1 - y=y+1 by omega,r1,r2]
   exact (cs.2 h4).symm
  ·rw [show 2 * a+1 - (a+1)=a by omega,show 2 * b+1 - (b+1)=b by omega,r3,r1]
   exact (cs.1 (by rw [h4,c3])).symm
theorem aj9 (L:LineOk rows wd cut t.1 t.2) (st:yZ rows wd cut t) {p q:Pt} (hp:inP rows wd p=true) (h:Reach rows wd cut p q):sdP t.2 q=sdP t.2 p:=by
 induction h with
 | refl=>rfl
 | step h1 hq ih=>exact (alB L st (h1.ins hp).1 hq).trans ih
end
structure Tree (V:Nat) (es:List (Nat×Nat)) (f:Nat->Nat->Bool):Prop where
 bd:∀ e∈es,e.1<V/\e.2<V
 part:∀ (i j:Nat) e,i<es.length->es[j]?=some e->(f i e.1≠f i e.2↔i=j)
 conn:∀ Q:Nat->Prop,(∀ e∈es,Q e.1↔Q e.2)->∀ u v,u<V->v<V->(Q u↔Q v)
section
variable {V:Nat} {es:List (Nat×Nat)} {f:Nat->Nat->Bool}
structure Lot (V:Nat) (es:List (Nat×Nat)) (s:Nat) (S:List Nat):Prop where
 nd:S.Nodup
 st:s∈S
 bd:∀ v∈S,v<V
 cl:∀ e∈es,e.1∈S↔e.2∈S
 le:∀ Q:Nat->Prop,Q s->(∀ e∈es,Q e.1↔Q e.2)->∀ v∈S,Q v
theorem aka {S:List Nat} (nd:S.Nodup) (bd:∀ v∈S,v<V) (all:∀ v,v<V->v∈S):S.length=V:=by
 have h1:=len_sub S (aow V) nd fun v hv=>aoK.mpr (bd v hv)
 have h2:=len_sub (aow V) S aqN fun v hv=>all v (aoK.mp hv)
 rw [aoU] at h1 h2
 omega
theorem Tree.apart (T:Tree V es f) {j:Nat} {e:Nat×Nat} (he:es[j]?=some e) {A B:List Nat} (LA:Lot V (es.take j++es.drop (j+1)) e.1 A) (LB:Lot V (es.take j++es.drop (j+1)) e.2 B):A.length+B.length=V/\(∀ v∈A,v∉B)/\(∀ v∈A,f j v=f j e.1)/\(∀ v∈B,f j v=f j e.2)/\∀ v,v<V->v∈A \/ v∈B:=by
 have hj:=(aoh.mp he).1
 have rest:∀ e'∈es.take j++es.drop (j+1),∃ i,i≠j/\es[i]?=some e':=fun e' h=>by
  rcases aou.mp h with h | h
  ·obtain⟨i,hi⟩:=aoO h
   rw [List.getElem?_take] at hi
   by_cases z:i<j
   ·rw [if_pos z] at hi;exact⟨i,by omega,hi⟩
   ·rw [if_neg z] at hi;cases hi
  ·obtain⟨i,hi⟩:=aoO h
   rw [aqx] at hi
   exact⟨j+1+i,by omega,hi⟩
 have inr:∀ i,i≠j->∀ e',es[i]?=some e'->e'∈es.take j++es.drop (j+1):=fun i ne e' h=>by
  by_cases z:i<j
  ·refine aoJ _ (aoj (i:=i) ?_)
   rw [List.getElem?_take,if_pos z]
   exact h
  ·refine aoA _ (aoj (i:=i - (j+1)) ?_)
   rw [aqx,show j+1+(i - (j+1))=i by omega]
   exact h
 have cst:∀ e'∈es.take j++es.drop (j+1),f j e'.1=f j e'.2:=fun e' h=>by
  obtain⟨i,ne,hi⟩:=rest e' h
  exact aoV fun z=>ne ((T.part j i e' hj hi).mp z).symm
 have fA:∀ v∈A,f j v=f j e.1:=LA.le (fun v=>f j v=f j e.1) rfl fun e' h=>by rw [cst e' h]
 have fB:∀ v∈B,f j v=f j e.2:=LB.le (fun v=>f j v=f j e.2) rfl fun e' h=>by rw [cst e' h]
 have ne:=(T.part j j e hj he).mpr rfl
 have dis:∀ v∈A,v∉B:=fun v ha hb=>ne (by rw [<-fA v ha,fB v hb])
 have all:∀ v,v<V->v∈A \/ v∈B:=fun v hv=>by
  refine (T.conn (fun v=>v∈A \/ v∈B) (fun e' h=>?_) e.1 v (LA.bd _ LA.st) hv).mp (.inl LA.st)
  obtain⟨i,hi⟩:=aoO h
  by_cases z:i=j
  ·subst z
   rw [he] at hi
   cases hi
   exact⟨fun _=>.inr LB.st,fun _=>.inl LA.st⟩
  ·have m:=inr i z e' hi
   rw [LA.cl e' m,LB.cl e' m]
 refine⟨?_,dis,fA,fB,all⟩
 have:=aka (V:=V) (S:=A++B) (ao8.mpr ⟨LA.nd,LB.nd,fun a ha b hb e'=>dis a ha (e'▸hb)⟩) (fun v hv=>(aou.mp hv).elim (LA.bd v) (LB.bd v)) fun v hv=>aou.mpr (all v hv)
 rwa [aox] at this
end
theorem ae2 {ts:List (Bool×List Gt)} (nd:(flat ts).Nodup) {i j:Nat} {a b:Bool×List Gt} (hi:ts[i]?=some a) (hj:ts[j]?=some b) {g:Gt} (ha:g∈a.2) (hb:g∈b.2):i=j:=by
 have key:∀ (ts:List (Bool×List Gt)) (i j:Nat) (a b:Bool×List Gt),(flat ts).Nodup->i<j->ts[i]?=some a->ts[j]?=some b->g∈a.2->g∈b.2->False:=fun ts=>by
  induction ts with
  | nil=>intro i j a b _ _ h;cases h
  | cons t ts ih =>
   intro i j a b nd lt h1 h2 g1 g2
   unfold flat at nd
   rw [aro] at nd
   obtain⟨n1,n2,n3⟩:=ao8.mp nd
   cases j with
   | zero=>omega
   | succ j =>
    rw [aqz] at h2
    cases i with
    | zero =>
     cases h1
     exact n3 g g1 g (ao3.mpr ⟨b,aoj h2,g2⟩) rfl
    | succ i =>
     rw [aqz] at h1
     exact ih i j a b n2 (by omega) h1 h2 g1 g2
 rcases Nat.lt_trichotomy i j with h | h | h
 ·exact (key ts i j a b nd h hi hj ha hb).elim
 ·exact h
 ·exact (key ts j i b a nd h hj hi hb ha).elim
section
variable {rows:List (List Int)} {wd:Nat} {cut:Int} {rs:List (Bool×List Pt)} {ts:List (Bool×List Gt)}
def yk (rows:List (List Int)) (cut:Int) (rs:List (Bool×List Pt)) (t:Bool×List Gt):Nat×Nat:=(ixR rs (hpt rows cut true (hdG t)),ixR rs (hpt rows cut false (hdG t)))
def fSd (ts:List (Bool×List Gt)) (rs:List (Bool×List Pt)) (i v:Nat):Bool:=sdP (ts.getD i (false,[])).2 (hdP (rs.getD v (false,[])))
theorem abM (T:Told rows wd cut ts) (R:Regs rows wd cut rs) {i:Nat} {t:Bool×List Gt} (hi:ts[i]?=some t) {v:Nat} {r:Bool×List Pt} (hv:rs[v]?=some r) {p:Pt} (hp:p∈r.2):fSd ts rs i v=sdP t.2 p:=by
 obtain⟨h,G⟩:=R.reg r (aoj hv)
 have ht:=aoj hi
 unfold fSd
 rw [aok,hi,aok,hv,arz,arz,G.hdP]
 exact (aj9 (T.line t ht) (T.st t ht) G.inn ((G.mem p).mp hp)).symm
theorem adI (R:Regs rows wd cut rs) {v:Nat} {r:Bool×List Pt} (hv:rs[v]?=some r) {p:Pt} (hp:p∈r.2):ixR rs p=v:=by
 obtain⟨h,G⟩:=R.reg r (aoj hv)
 obtain⟨rr,h1,h2⟩:=vJ R (((G.mem p).mp hp).ins G.inn).1
 exact ajY R h1 hv h2 hp
theorem al3 (R:Regs rows wd cut rs) {p:Pt} (ip:inP rows wd p=true):ixR rs p<rs.length:=by
 obtain⟨rr,h1,_⟩:=vJ R ip
 exact (aoh.mp h1).1
theorem abN {t:Bool×List Gt} (L:LineOk rows wd cut t.1 t.2):hdG t∈t.2:=apb (aa3 L)
theorem akb {t:Bool×List Gt} (L:LineOk rows wd cut t.1 t.2) (st:yZ rows wd cut t) {g:Gt} (o:opG rows wd cut g=true):(sdP t.2 (hpt rows cut true g)≠sdP t.2 (hpt rows cut false g))↔g∈t.2:=by
 obtain⟨x,y,w⟩:=g
 have hw:=qV o
 unfold opG yu qI at o
 rw [aoo,aoo,aoo] at o
 have sg:=ag3 L st hw o.1.2.1 o.1.2.2
 dsimp only at sg
 have e:(sdP t.2 (x,y)≠sdP t.2 (px x w,py y w))↔(x,y,w)∈t.2:=by
  rw [sg]
  unfold mB
  by_cases z:(x,y,w)∈t.2
  ·rw [decide_eq_true z]
   refine⟨fun _=>z,fun _=>?_⟩
   cases sdP t.2 (x,y) <;> decide
  ·rw [decide_eq_false z]
   refine⟨fun h=>absurd ?_ h,fun h=>absurd h z⟩
   cases sdP t.2 (x,y) <;> rfl
 unfold hpt
 dsimp only
 cases hh:hiB rows cut x y with
 | true =>
  rw [if_pos rfl,if_neg (by decide)]
  exact e
 | false =>
  rw [if_neg (by decide),if_pos rfl]
  exact⟨fun z=>e.mp fun z'=>z z'.symm,fun z z'=>e.mpr z z'.symm⟩
theorem alC {x y w:Int} (P:Pt->Prop):(P (hpt rows cut true (x,y,w))↔P (hpt rows cut false (x,y,w)))↔(P (x,y)↔P (px x w,py y w)):=by
 unfold hpt
 dsimp only
 cases hiB rows cut x y with
 | true=>rw [if_pos rfl,if_neg (by decide)]
 | false=>rw [if_neg (by decide),if_pos rfl];exact⟨fun h=>h.symm,fun h=>h.symm⟩
theorem abO (gd:Good wd rows) (T:Told rows wd cut ts) (all:∀ g,opG rows wd cut g=true->g∈flat ts) (R:Regs rows wd cut rs):Tree rs.length (ts.map (yk rows cut rs)) (fSd ts rs) where
 bd:=fun e he=>by
  obtain⟨t,ht,rfl⟩:=aoC.mp he
  have o:=(T.line t ht).op _ (abN (T.line t ht))
  exact⟨al3 R (qD o).1,al3 R (qD o).1⟩
 part:=fun i j e hi he=>by
  rw [aog] at hi
  rw [aoq] at he
  cases ej:ts[j]? with
  | none=>rw [ej] at he;cases he
  | some t =>
   rw [ej] at he
   cases he
   have ei:ts[i]?=some ts[i]:=aof hi
   have Lj:=T.line t (aoj ej)
   have Li:=T.line _ (aoj ei)
   have si:=T.st _ (aoj ei)
   have o:=Lj.op _ (abN Lj)
   obtain⟨r1,a1,b1⟩:=vJ R (qD (h:=true) o).1
   obtain⟨r2,a2,b2⟩:=vJ R (qD (h:=false) o).1
   unfold yk
   dsimp only
   rw [abM T R ei a1 b1,abM T R ei a2 b2,akb Li si o]
   exact⟨fun h=>ae2 T.nd ei ej h (abN Lj),fun h=>by subst h;rw [ei] at ej;cases ej;exact abN Li⟩
 conn:=fun Q hQ u v hu hv=>by
  have nb:∀ x y w:Int,(w=0 \/ w=1)->zO rows wd x y=true->zO rows wd (px x w) (py y w)=true->(Q (ixR rs (x,y))↔Q (ixR rs (px x w,py y w))):=fun x y w hw h1 h2=>by
   by_cases h:hiB rows cut (px x w) (py y w)=hiB rows cut x y
   ·obtain⟨r,a,b⟩:=vJ R (p:=(x,y)) h1
    obtain⟨z,G⟩:=R.reg r (aoj a)
    have:(px x w,py y w)∈r.2:=(G.mem _).mpr (((G.mem _).mp b).step (mem_join.mpr (.inl ⟨by
     rw [adC]
     rcases hw with rfl | rfl
     ·exact .inr (.inr (.inr rfl))
     ·exact .inr (.inr (.inl rfl)),h2,h⟩)))
    rw [adI R a this]
   ·have o:opG rows wd cut (x,y,w)=true:=by
     unfold opG yu qI
     rw [aoo,aoo,aoo]
     refine⟨⟨decide_eq_true hw,h1,h2⟩,?_⟩
     revert h
     show ¬ hiB rows cut (px x w) (py y w)=hiB rows cut x y->(hiB rows cut x y != hiB rows cut (px x w) (py y w))=true
     cases hiB rows cut (px x w) (py y w) <;> cases hiB rows cut x y <;> decide
    obtain⟨t,ht,hg⟩:=ao3.mp (all _ o)
    have L:=T.line t ht
    have o0:=L.op _ (abN L)
    have ix:∀ h,ixR rs (hpt rows cut h (x,y,w))=ixR rs (hpt rows cut h (hdG t)):=fun h=>by
     obtain⟨rr,a,b⟩:=vJ R (qD (h:=h) o0).1
     exact adI R a ((aly R L (aa3 L) (aoj a) b).2 _ hg)
    have:=hQ (yk rows cut rs t) (aoC.mpr ⟨t,ht,rfl⟩)
    unfold yk at this
    dsimp only at this
    rw [<-ix true,<- ix false] at this
    exact (alC (rows:=rows) (cut:=cut) fun p=>Q (ixR rs p)).mp this
  have goX:∀ (x y:Nat),x<wd->y<rows.length->(Q (ixR rs ((x:Int),(y:Int)))↔Q (ixR rs (0,(y:Int)))):=fun x=>by
   induction x with
   | zero=>exact fun y _ _=>Iff.rfl
   | succ x ih =>
    intro y hx hy
    have i1:zO rows wd (x:Int) (y:Int)=true:=by unfold zO;rw [decide_eq_true (by omega),decide_eq_true (by omega)];rfl
    have i2:zO rows wd ((x:Int)+1) (y:Int)=true:=by unfold zO;rw [decide_eq_true (by omega),decide_eq_true (by omega)];rfl
    have:=nb x y 0 (.inl rfl) i1 i2
    rw [show ((x+1:Nat):Int)=(x:Int)+1 by omega]
    exact Iff.trans this.symm (ih y (by omega) hy)
  have goY:∀ (y:Nat),y<rows.length->(Q (ixR rs (0,(y:Int)))↔Q (ixR rs (0,0))):=fun y=>by
   induction y with
   | zero=>exact fun _=>Iff.rfl
   | succ y ih =>
    intro hy
    have w1:=gd.w1
    have i1:zO rows wd 0 (y:Int)=true:=by unfold zO;rw [decide_eq_true (by omega),decide_eq_true (by omega)];rfl
    have i2:zO rows wd 0 ((y:Int)+1)=true:=by unfold zO;rw [decide_eq_true (by omega),decide_eq_true (by omega)];rfl
    have:=nb 0 y 1 (.inr rfl) i1 i2
    rw [show ((y+1:Nat):Int)=(y:Int)+1 by omega]
    exact Iff.trans this.symm (ih (by omega))
  have one:∀ u,u<rs.length->(Q u↔Q (ixR rs (0,0))):=fun u hu=>by
   have hr:=aof hu
   obtain⟨h,G⟩:=R.reg _ (aoj hr)
   have e:=adI R hr (apb G.hd)
   obtain⟨x0,x1,y0,y1⟩:=yi G.inn
   have h1:=goX h.1.toNat h.2.toNat (by omega) (by omega)
   have h2:=goY h.2.toNat (by omega)
   rw [show ((h.1.toNat:Nat):Int)=h.1 by omega,show ((h.2.toNat:Nat):Int)=h.2 by omega] at h1
   rw [show ((h.2.toNat:Nat):Int)=h.2 by omega] at h2
   rw [<-e]
   exact h1.trans h2
  exact (one u hu).trans (one v hv).symm
end
abbrev scr (ns:List Int):PyData:=.list (ns.map .int)
theorem ag4 {K:aol} {H:Hp} {a:Addr} {ns:List Int} (h:SqL K H a (ns.map V.int)):Rep K (hide H L2.f0) (scr ns) (.ref a):=by
 rw [yQ]
 exact rep_list.mpr ⟨a,_,rfl,h,Reps.ints' ns⟩
theorem alD {K:aol} {H:Hp} {v:V} {ns:List Int} (h:Rep K (hide H L2.f0) (scr ns) v):∃ a,v=.ref a/\SqL K H a (ns.map V.int):=by
 rw [yQ] at h
 obtain⟨a,xs,rfl,h1,h2⟩:=rep_list.mp h
 rw [h2.ints] at h1
 exact⟨a,rfl,h1⟩
def afR (K:aol):Sp:=fun vs H Q _=>∃ (a:Addr) (ns:List Int) (i:Int),vs=[.ref a,.int i]/\SqL K H a (ns.map V.int)/\ns.length<=63/\0<=i/\i<=63 /\
 ∀ (p:Addr) (x y:Int) (H':Hp),Same H H'->H p=none->H' p=some (.lst [.int x,.int y])->0<=x->0<=y->y<2147483647->Q (.ref p) H'
def ag5 (K:aol):Sp:=fun vs H Q _=>∃ (a:Addr) (ns:List Int),vs=[.ref a]/\SqL K H a (ns.map V.int)/\ns.length<=63/\∀ H',Q (.bl true) H'
theorem alE {K:aol} {f:Fx} {t:TA} {ρ:zq} {R R':List DV->Prop} (h:PAd K f t ρ R) (i:∀ xs,R xs->R' xs):PAd K f t ρ R':=fun σ H Q e q=>h σ H Q e fun xs vs H' g r p=>q xs vs H' g r (i xs p)
theorem anl {K:aol} {ρ:zq} {ns:List Int} {i:Int} {E2:XK} (h0:ρ[0]?=some (some (.dat (scr ns)))) (h1:ρ[1]?=some (some (.dat (.int i)))) (hl:ns.length<=63) (i0:0<=i) (i1:i<=63) :
  ∀ (σ:L2.St) (H:Hp) (Q:VK),EnvOk K L2.f0 ρ σ H->(∀ (p:Addr) (x y:Int) (H':Hp),Same H H'->H p=none->H' p=some (.lst [.int x,.int y])->0<=x->0<=y->y<2147483647->Q (.ref p) H')->acb (afR K) [] E2 (yO (yn 0) (yO (yn 1) vt)) σ H Q:=by
 intro σ H Q e q
 obtain⟨v0,hv0,r0⟩:=e.get 0 _ h0
 obtain⟨v1,hv1,r1⟩:=e.get 1 _ h1
 obtain⟨a,rfl,hS⟩:=alD r0
 have e1:v1=.int i:=rep_int.mp (show Rep K (hide H L2.f0) (.int i) v1 from r1)
 subst e1
 exact⟨_,hv0,_,hv1,a,ns,i,rfl,hS,hl,i0,i1,q⟩
theorem alF (F:Def K mg "_law_feed" qA pM) (uaa:mg "len"=none) (uaL:mg "abs"=none):FnIn P w K mg base (k+1) "_law_feed" pM (afR K):=by
 refine F.raw sc_law_feed (fun vs H Q E h=>?_) fun fa cdv A outer s H vs Q E hr hs=>⟨_,(zc (zB (i:=2) sc_law_feed.nd rfl (Or.inl rfl) ze) (zc (yA (zJ aip (zA (zM (K:=K) rfl) rfl uaa aoW (za (pv 0) zb)) ze (zQ _)) (zg (zB (i:=2) sc_law_feed.nd rfl (Or.inl rfl) (zI (zz (K:=K) rfl) (pv 0) (zw vM (pv 1) (zA (zM (K:=K) rfl) rfl uaa aoW (za (pv 0) zb))) (fun _ _=>rfl)))) zV) (zg (zt (yh (za (zA (ais) rfl uaL PyProof.Rows.boot_abs (za (pv 2) zb)) (za (zw zY (zw vL ze (pv 1)) ze) zb))))))),?_⟩
 ·obtain⟨a,ns,i,rfl,_⟩:=h
  rfl
 obtain⟨a,ns,i,rfl,hS,h63,i0,i1,q⟩:=hs
 have e0:EnvOk K L2.f0 (qm vT [.dat (scr ns),.dat (.int i)]) (start vT [.ref a,.int i]) H:=jZ (.cons (ag4 hS) (.cons (show RepV K L2.f0 H (.dat (.int i)) (.int i) from (rep_int (K:=K) (H:=hide H L2.f0)).mpr rfl) .nil)) (L2.fok0 H)
 refine aiM (D:={ nx:=fun ρ=>ρ=[some (.dat (scr ns)),some (.dat (.int i)),some (.dat (.int 0))],rt:=fun _=>False }) ?_ e0 ?_ (fun _ _ _ _ _ z=>z.elim) (fun _ z=>z) (fun _ z=>z)
 ·walk_at "w"
  rfl
 rintro _ σ1 H1 g1 e1 rfl
 refine aiM (D:={ nx:=fun ρ=>∃ c:Int,ρ=[some (.dat (scr ns)),some (.dat (.int i)),some (.dat (.int c))],rt:=fun _=>False }) ?_ e1 ?_ (fun _ _ _ _ _ z=>z.elim) (fun _ z=>z) (fun _ z=>z)
 ·walk_at "w"
  rw [aog]
  by_cases h:0<ns.length
  ·rw [if_pos (by simpa using h)]
   walk_at "w"
   rw [aog]
   have z0:=aqY i (b:=(ns.length:Int)) (by omega)
   have z1:=apO i (b:=(ns.length:Int)) (by omega)
   refine⟨by omega,_,rfl,_,yL (j:=(i % (ns.length:Int)).toNat) (by omega) (by omega),?_⟩
   walk_at "w"
   exact⟨_,rfl⟩
  ·rw [if_neg (by simpa using h)]
   walk_at "w"
   exact⟨_,rfl⟩
 rintro _ σ2 H2 g2 e2 ⟨c,rfl⟩
 unfold adQ
 have ss:Same H H2:=(L2.same0 g1).trans (L2.same0 g2)
 refine aiN (R:=fun ds=>∃ x y:Int,ds=[.int x,.int y]/\0<=x/\0<=y/\y<2147483647) ?_ e2 ?_
 ·walk_at "w"
  omega
 ·rintro p ds vs H3 g3 hn rs ⟨x,y,rfl,hx,hy,hy'⟩
  have sf:Same H H3:=ss.trans (L2.same0 g3)
  have ev:vs=[.int x,.int y]:=Reps.ints (ns:=[x,y]) rs
  subst ev
  exact q p x y _ (sf.trans (z9 hn _)) (sf.free hn) zy hx hy hy'
def jA (S:List Nat) (e:Nat×Nat):List Nat:=if e.1∈S/\e.2∉S then S++[e.2] else S
def zR (S:List Nat) (e:Nat×Nat):List Nat:=jA (jA S e) (e.2,e.1)
def itE (es:List (Nat×Nat)) (s:Nat):Nat->List Nat
 | 0=>[s]
 | n+1=>es.foldl zR (itE es s n)
def vD (v:Nat):PyData:=.int v
def eD (e:Nat×Nat):PyData:=.tuple [.int e.1,.int e.2]
theorem ag6 (S:List Nat) (e:Nat×Nat):∀ v∈S,v∈jA S e:=fun v hv=>by
 unfold jA
 split
 ·exact aoJ _ hv
 ·exact hv
theorem afS {S:List Nat} (nd:S.Nodup) (e:Nat×Nat):(jA S e).Nodup:=by
 unfold jA
 split
 ·next h=>exact ao8.mpr ⟨nd,ao7.mpr ⟨aph,apj⟩,fun a ha b hb e=>h.2 (by rw [aos.mp hb] at e;exact e▸ha)⟩
 ·exact nd
theorem abP {S:List Nat} {e:Nat×Nat} (Q:Nat->Prop) (hQ:Q e.1->Q e.2) (h:∀ v∈S,Q v):∀ v∈jA S e,Q v:=fun v hv=>by
 unfold jA at hv
 split at hv
 ·next z =>
  rcases aou.mp hv with hv | hv
  ·exact h v hv
  ·rw [aos.mp hv];exact hQ (h _ z.1)
 ·exact h v hv
theorem ag7 (S:List Nat) (e:Nat×Nat):S.length<=(jA S e).length/\((jA S e).length=S.length->jA S e=S/\(e.1∈S->e.2∈S)):=by
 unfold jA
 split
 ·rw [aox,ao4]
  exact⟨by omega,fun z=>by omega⟩
 ·next z =>
  exact⟨aop _,fun _=>⟨rfl,fun h1=>aoV fun h2=>z ⟨h1,h2⟩⟩⟩
theorem akc (S:List Nat) (e:Nat×Nat):S.length<=(zR S e).length/\((zR S e).length=S.length->zR S e=S/\(e.1∈S↔e.2∈S)):=by
 unfold zR
 obtain⟨a1,a2⟩:=ag7 S e
 obtain⟨b1,b2⟩:=ag7 (jA S e) (e.2,e.1)
 refine⟨by omega,fun z=>?_⟩
 obtain⟨c1,c2⟩:=a2 (by omega)
 obtain⟨d1,d2⟩:=b2 (by omega)
 rw [c1] at d1 d2 ⊢
 exact⟨d1,c2,d2⟩
theorem acO:∀ (es:List (Nat×Nat)) (S:List Nat),S.length<=(es.foldl zR S).length/\((es.foldl zR S).length=S.length->es.foldl zR S=S/\∀ e∈es,e.1∈S↔e.2∈S)
 | [],S=>⟨aop _,fun _=>⟨rfl,fun _ h=>(nomatch h)⟩⟩
 | e :: es,S=>by
  obtain⟨a1,a2⟩:=akc S e
  obtain⟨b1,b2⟩:=acO es (zR S e)
  show S.length<=(es.foldl zR (zR S e)).length/\((es.foldl zR (zR S e)).length=S.length->es.foldl zR (zR S e)=S/\_)
  refine⟨by omega,fun z=>?_⟩
  obtain⟨c1,c2⟩:=a2 (by omega)
  obtain⟨d1,d2⟩:=b2 (by omega)
  rw [c1] at d1 d2 ⊢
  refine⟨d1,fun e' h=>?_⟩
  rcases aor.mp h with rfl | h
  ·exact c2
  ·exact d2 e' h
theorem aid {P:List Nat->Prop} {es:List (Nat×Nat)} (h:∀ e∈es,∀ S,P S->P (zR S e)):∀ S,P S->P (es.foldl zR S):=by
 induction es with
 | nil=>exact fun S z=>z
 | cons e es ih=>exact fun S z=>ih (fun e' h'=>h e' (aon _ h')) _ (h e aom S z)
section
variable {V:Nat} {es:List (Nat×Nat)} {s:Nat}
theorem ae3 (bd:∀ e∈es,e.1<V/\e.2<V) {us:List (Nat×Nat)} (hu:∀ e∈us,e∈es) {S:List Nat} (h:S.Nodup/\s∈S/\(∀ v∈S,v<V)/\∀ Q:Nat->Prop,Q s->(∀ e∈es,Q e.1↔Q e.2)->∀ v∈S,Q v):(us.foldl zR S).Nodup/\s∈us.foldl zR S/\(∀ v∈us.foldl zR S,v<V)/\∀ Q:Nat->Prop,Q s->(∀ e∈es,Q e.1↔Q e.2)->∀ v∈us.foldl zR S,Q v:=by
 refine aid (P:=fun S=>S.Nodup/\s∈S/\(∀ v∈S,v<V)/\∀ Q:Nat->Prop,Q s->(∀ e∈es,Q e.1↔Q e.2)->∀ v∈S,Q v) (fun e he S ⟨h1,h2,h3,h4⟩=>?_) S h
 have he:=hu e he
 refine⟨afS (afS h1 _) _,ag6 _ _ _ (ag6 _ _ _ h2),?_,fun Q q0 q1=>?_⟩
 ·exact abP (·<V) (fun _=>(bd e he).1) (abP (·<V) (fun _=>(bd e he).2) h3)
 ·exact abP Q (q1 e he).mpr (abP Q (q1 e he).mp (h4 Q q0 q1))
theorem afT (bd:∀ e∈es,e.1<V/\e.2<V) (hs:s<V):∀ n,(itE es s n).Nodup/\s∈itE es s n/\(∀ v∈itE es s n,v<V)/\∀ Q:Nat->Prop,Q s->(∀ e∈es,Q e.1↔Q e.2)->∀ v∈itE es s n,Q v
 | 0=>⟨ao7.mpr ⟨aph,apj⟩,aos.mpr rfl,fun v hv=>by rw [aos.mp hv];exact hs,fun Q q0 _ v hv=>by rw [aos.mp hv];exact q0⟩
 | n+1=>ae3 bd (fun _ h=>h) (afT bd hs n)
theorem akd:∀ n,n+1<=(itE es s n).length \/ ((∀ e∈es,e.1∈itE es s n↔e.2∈itE es s n))
 | 0=>.inl (aop _)
 | n+1=>by
  obtain⟨a,b⟩:=acO es (itE es s n)
  show n+1+1<=(es.foldl zR (itE es s n)).length \/ ∀ e∈es,e.1∈es.foldl zR (itE es s n)↔e.2∈es.foldl zR (itE es s n)
  by_cases z:(es.foldl zR (itE es s n)).length=(itE es s n).length
  ·obtain⟨c1,c2⟩:=b z
   exact .inr (by rw [c1];exact c2)
  ·rcases akd n with h | h
   ·exact .inl (by omega)
   ·refine absurd ?_ z
    have:∀ us:List (Nat×Nat),(∀ e∈us,e∈es)->us.foldl zR (itE es s n)=itE es s n:=fun us=>by
     induction us with
     | nil=>exact fun _=>rfl
     | cons e us ih =>
      intro hu
      have he:=h e (hu e aom)
      have:zR (itE es s n) e=itE es s n:=by
       have h1:jA (itE es s n) e=itE es s n:=if_neg fun z=>z.2 (he.mp z.1)
       have h2:jA (itE es s n) (e.2,e.1)=itE es s n:=if_neg fun z=>z.2 (he.mpr z.1)
       unfold zR
       rw [h1,h2]
      show us.foldl zR (zR (itE es s n) e)=_
      rw [this]
      exact ih fun e' h'=>hu e' (aon _ h')
    rw [this es fun _ h=>h]
theorem afU (bd:∀ e∈es,e.1<V/\e.2<V) (hs:s<V):Lot V es s (itE es s V):=by
 obtain⟨h1,h2,h3,h4⟩:=afT bd hs V
 refine⟨h1,h2,h3,?_,h4⟩
 rcases akd (es:=es) (s:=s) V with h | h
 ·have:=len_sub _ (aow V) h1 fun v hv=>aoK.mpr (h3 v hv)
  rw [aoU] at this
  omega
 ·exact h
end
theorem abQ (S:List Nat) (v:Nat):((S.map vD).any fun e=>aoH e (.int (v:Int)))=decide (v∈S):=by
 rw [aqW,aqO,decide_eq_true_iff]
 constructor
 ·rintro⟨e,he,q⟩
  obtain⟨u,hu,rfl⟩:=aoC.mp he
  have q:decide ((u:Int)=(v:Int))=true:=q
  have:=of_decide_eq_true q
  rw [show v=u by omega]
  exact hu
 ·intro h
  exact⟨vD v,aoC.mpr ⟨v,h,rfl⟩,decide_eq_true rfl⟩
theorem acP (S:List Nat):∀ e∈S.map vD,e.canLay0=true:=fun e he=>by
 obtain⟨v,_,rfl⟩:=aoC.mp he
 rfl
abbrev TRc:=Nat×List (Nat×Nat)×Nat
abbrev acQ (K:aol):Sp:=spN K 3 (fun (c:TRc) xs=>xs=[.dat (.int c.1),.dat (.list (c.2.1.map eD)),.dat (.int c.2.2)]/\c.2.2<c.1/\c.1<=60/\∀ e∈c.2.1,e.1<c.1/\e.2<c.1) fun c es=>∃ S,es=S.map vD/\Lot c.1 c.2.1 c.2.2 S
theorem afV (F:Def K mg "_law_reached" ja pP) (uab:mg "range"=none):FnIn P w K mg base (k+1) "_law_reached" pP (acQ K):=by
 refine F.okN sc_law_reached rfl fun fa cdv A outer s H E hr=>⟨_,(zc (zB (i:=3) sc_law_reached.nd rfl (Or.inl rfl) (yh (za (pv 2) zb))) (zc (yB aoT rfl (yv rfl uab (za (pv 0) zb)) (zf (i:=4) sc_law_reached.nd rfl (Or.inl rfl) (Or.inr rfl)) (zg (yB aoT rfl (zW (K:=K) rfl (pv 1)) (zL (K:=K) (n:=2) rfl rfl (zh (zf (i:=5) sc_law_reached.nd rfl (Or.inl rfl) (Or.inr rfl)) (zh (zf (i:=6) sc_law_reached.nd rfl (Or.inl rfl) (Or.inr rfl)) zH))) (zc (yA (PW.pt (qg (zJ (q9 (K:=K) rfl hr.units) (pv 5) (pv 3) rfl) (jB (zJ (abn (K:=K) rfl hr.units) (pv 6) (pv 3) rfl)))) (zg (yp (aaB apa apc apd yP (pv 3) (za (pv 6) zb)))) zV) (zg (yA (PW.pt (qg (zJ (q9 (K:=K) rfl hr.units) (pv 6) (pv 3) rfl) (jB (zJ (abn (K:=K) rfl hr.units) (pv 5) (pv 3) rfl)))) (zg (yp (aaB apa apc apd yP (pv 3) (za (pv 5) zb)))) zV)))))) (zg (zt (pv 3))))),?_⟩
 rintro f xs ⟨V,es,st⟩ hl ⟨rfl,hs,hV,bd⟩
 try dsimp only [z5,zl]
 dsimp only at *
 refine afK (w:=w) (vb (abp (zx (zm rfl (yj ⟨[vD st],rfl,aoS rfl,show 3<7 by decide,fun D0=>?_⟩)))))
 refine afI (qR (jE (aew rfl ⟨V,rfl,by omega,by omega,fun n ρ cs=>(∃ u4 u5 u6,ρ=[some (.dat (.int V)),some (.dat (.list (es.map eD))),some (.dat (.int st)),some (.own (f.M.length+0)),u4,u5,u6])/\cs=[.lst ((itE es st n).map vD)],⟨⟨_,_,_,rfl⟩,rfl⟩,?_,?_⟩)))
 ·rintro n d _ _ hd ⟨⟨u4,u5,u6,rfl⟩,rfl⟩
  obtain⟨hn,rfl⟩:=jy hd
  have iv:=afT (V:=V) (s:=st) bd hs n
  refine zi (qR (yx (zm rfl ⟨_,rfl,fun m ρ cs=>(∃ u4 u5 u6,ρ=[some (.dat (.int V)),some (.dat (.list (es.map eD))),some (.dat (.int st)),some (.own (f.M.length+0)),u4,u5,u6])/\cs=[.lst (((es.take m).foldl zR (itE es st n)).map vD)],⟨⟨_,_,_,rfl⟩,rfl⟩,?_,?_⟩)))
  ·rintro m d _ _ hd ⟨⟨u4,u5,u6,rfl⟩,rfl⟩
   rw [aoq] at hd
   cases he:es[m]? with
   | none=>rw [he] at hd;cases hd
   | some e =>
    rw [he] at hd
    cases hd
    have iv2:=ae3 bd (us:=es.take m) (fun e h=>aqV h) iv
    have tk:es.take (m+1)=es.take m++[e]:=by rw [apk,he];rfl
    have fe:(es.take (m+1)).foldl zR (itE es st n)=zR ((es.take m).foldl zR (itE es st n)) e:=by rw [tk,List.foldl_append];rfl
    have few:∀ S:List Nat,S.Nodup->(∀ v∈S,v<V)->S.length<=60:=fun S nd b=>by
     have:=len_sub S (aow V) nd fun v hv=>aoK.mpr (b v hv)
     rw [aoU] at this
     omega
    generalize (es.take m).foldl zR (itE es st n)=S at *
    have hb:=bd e (aoj he)
    obtain⟨a,b⟩:=e
    dsimp only at hb
    have f1:=few S iv2.1 iv2.2.2.1
    have nd1:=afS iv2.1 (a,b)
    have b1:=abP (S:=S) (e:=(a,b)) (·<V) (fun _=>hb.2) iv2.2.2.1
    have f2:=few (jA S (a,b)) nd1 b1
    refine yt rfl (zo (zi (zo (zi (zT ?_)))))
    have tst:∀ (S:List Nat) (a b:Nat) (ta tb:Nat) (ρ:zq) (B:Bool->Prop),ρ[3]?=some (some (.dat (.list (S.map vD))))->ρ[ta]?=some (some (.dat (.int a)))->ρ[tb]?=some (some (.dat (.int b)))->B (decide (a∈S/\b∉S))->PTd K f (akm (ab9 (tOp (aed K false) (yn ta) (yn 3))) (ab9 (tOp (aed K true) (yn tb) (yn 3)))) ρ B:=fun S a b ta tb ρ B h3 ha hb hB=>by
     refine aci (yq (aee (zm ha (zm h3 ⟨_,rfl,rfl,acP S,by show 0<=50;decide,_,rfl,?_⟩))))
     rw [abQ]
     by_cases z:a∈S
     ·rw [decide_eq_true z,if_pos rfl]
      refine yq (aiX (zm hb (zm h3 ⟨_,rfl,rfl,acP S,by show 0<=50;decide,_,rfl,?_⟩)))
      rw [abQ]
      have:(!decide (b∈S))=decide (a∈S/\b∉S):=by
       by_cases y:b∈S
       ·rw [decide_eq_true y,decide_eq_false (fun q=>q.2 y)];rfl
       ·rw [decide_eq_false y,decide_eq_true ⟨z,y⟩];rfl
      rw [this]
      exact hB
     ·rw [decide_eq_false z,if_neg aoi]
      rw [decide_eq_false (fun q=>z q.1)] at hB
      exact hB
    refine aev (fun ρ cs=>ρ=[some (.dat (.int V)),some (.dat (.list (es.map eD))),some (.dat (.int st)),some (.own (f.M.length+0)),u4,some (.dat (.int a)),some (.dat (.int b))]/\cs=[.lst ((jA S (a,b)).map vD)]) (ahB (aaS (tst S a b 5 6 _ _ ?_ rfl rfl (zS (fun h=>?_) fun h=>?_)))) ?_
    ·show some (freed _ _ _)=_
     simp [freed]
    ·have h:=of_decide_eq_true h
     refine aaG (i:=3) (j:=0) rfl rfl (by rw [aog];omega) (aab (zm rfl ⟨rfl,?_⟩))
     unfold jA
     rw [if_pos h,aoF]
     rfl
    ·have h:=of_decide_eq_false h
     refine aby ⟨rfl,?_⟩
     unfold jA
     rw [if_neg h]
    rintro _ _ ⟨rfl,rfl⟩
    refine ahB (aaS (tst (jA S (a,b)) b a 6 5 _ _ ?_ rfl rfl (zS (fun h=>?_) fun h=>?_)))
    ·show some (freed _ _ _)=_
     simp [freed]
    ·have h:=of_decide_eq_true h
     refine aaG (i:=3) (j:=0) rfl rfl (by rw [aog];omega) (aab (zm rfl ⟨⟨_,_,_,rfl⟩,?_⟩))
     show _=[OC.lst (aqQ vD ((es.take (m+1)).foldl zR (itE es st n)))]
     rw [fe,show zR S (a,b)=jA S (a,b)++[a] from if_pos h,aoF]
     rfl
    ·have h:=of_decide_eq_false h
     refine aby ⟨⟨_,_,_,rfl⟩,?_⟩
     show _=[OC.lst (aqQ vD ((es.take (m+1)).foldl zR (itE es st n)))]
     rw [fe,show zR S (a,b)=jA S (a,b) from if_neg h]
  ·rintro _ _ ⟨⟨u4,u5,u6,rfl⟩,rfl⟩
   refine⟨⟨_,_,_,rfl⟩,?_⟩
   rw [aog,aoZ]
   rfl
 ·rintro _ _ ⟨⟨u4,u5,u6,rfl⟩,rfl⟩
  rw [show (jU (V:Int).toNat).length=V by unfold jU;simp]
  exact afJ (i:=3) (j:=0) rfl rfl ⟨itE es st V,rfl,afU bd hs⟩
section
variable {rows:List (List Int)} {wd:Nat} {cut:Int} {rs:List (Bool×List Pt)} {ts:List (Bool×List Gt)} {r:List Gt}
theorem adJ (L:LineOk rows wd cut true r):∀ x y:Nat,sdN r x y=y3 r (x:Int) (y:Int)
 | 0,0=>by
  have pos:∀ g∈r,0<=g.1:=fun g hg=>(yi (qC (L.op g hg))).1
  simp only [sdN]
  exact (qd r pos _).symm
 | 0,y+1=>by
  have pos:∀ g∈r,0<=g.1:=fun g hg=>(yi (qC (L.op g hg))).1
  have ih:=adJ L 0 y
  have hm:mB r (0,(y:Int),1)=false:=decide_eq_false fun z=>by
   have:=(vn L z).2 rfl
   omega
  simp only [sdN]
  rw [ih,hm,show ((0:Nat):Int)=0 from rfl,qd r pos,qd r pos]
  rfl
 | x+1,y=>by
  have ih:=adJ L x y
  simp only [sdN]
  rw [ih,show ((x+1:Nat):Int)=(x:Int)+1 by omega,abI L.nd]
  rfl
theorem afW (L:LineOk rows wd cut true r) {p:Pt} (hp:inP rows wd p=true):sdP r p=y3 r p.1 p.2:=by
 obtain⟨x0,_,y0,_⟩:=yi hp
 have:=adJ L p.1.toNat p.2.toNat
 rw [aq0 x0,aq0 y0] at this
 exact this
def vY (rows:List (List Int)) (wd:Nat) (p:Pt):Bool:=(decide (p.1=0) || decide (p.1=(wd:Int) - 1)) || (decide (p.2=0) || decide (p.2=(rows.length:Int) - 1))
theorem ag8 (gd:Good wd rows) (L:LineOk rows wd cut true r) {p:Pt} (hp:inP rows wd p=true) (he:vY rows wd p=true):y3 r p.1 p.2=false:=by
 obtain⟨x0,x1,y0,y1⟩:=yi hp
 have pos:∀ g∈r,0<=g.1:=fun g hg=>(yi (qC (L.op g hg))).1
 have w1:=gd.w1
 unfold vY at he
 simp only [Bool.or_eq_true,decide_eq_true_eq] at he
 rcases he with (h | h) | (h | h)
 ·rw [h];exact qd r pos _
 ·have:=ah6 L (by omega) p.2.toNat (by omega)
  rw [aq0 y0,show ((wd - 1:Nat):Int)=p.1 by omega] at this
  exact this
 ·refine adB (fun g hg h0 e=>?_) _
  obtain⟨x',y',w'⟩:=g
  have:=(vn L hg).1 h0
  dsimp only at e
  omega
 ·refine adB (fun g hg h0 e=>?_) _
  obtain⟨x',y',w'⟩:=g
  have:=(vn L hg).1 h0
  dsimp only at e
  omega
theorem adK (T:Told rows wd cut ts) (R:Regs rows wd cut rs) {a:Nat} (ha:ts[a]?=some (true,r)) {v:Nat} {rr:Bool×List Pt} (hv:rs[v]?=some rr) {p:Pt} (hp:p∈rr.2):fSd ts rs a v=y3 r p.1 p.2:=by
 obtain⟨h,G⟩:=R.reg rr (aoj hv)
 rw [abM T R ha hv hp]
 exact afW (T.line _ (aoj ha)) (((G.mem p).mp hp).ins G.inn).1
theorem ag9 (gd:Good wd rows) (T:Told rows wd cut ts) (R:Regs rows wd cut rs) {a:Nat} (ha:ts[a]?=some (true,r)) {v:Nat} {rr:Bool×List Pt} (hv:rs[v]?=some rr) (hf:fSd ts rs a v=true):rr.2.any (vY rows wd)=false:=by
 rw [List.any_eq_false]
 intro p hp he
 obtain⟨h,G⟩:=R.reg rr (aoj hv)
 rw [adK T R ha hv hp,ag8 gd (T.line _ (aoj ha)) (((G.mem p).mp hp).ins G.inn).1 he] at hf
 cases hf
def Inner (ts:List (Bool×List Gt)) (rs:List (Bool×List Pt)) (a:Nat) (S:List Nat):Prop:=∀ v,v∈S↔v<rs.length/\fSd ts rs a v=true
theorem abR {a:Nat} {S:List Nat} (I:Inner ts rs a S) {v:Nat} (hv:v<rs.length):decide (v∈S)=fSd ts rs a v:=by
 cases h:fSd ts rs a v with
 | true=>exact decide_eq_true ((I v).mpr ⟨hv,h⟩)
 | false=>exact decide_eq_false fun z=>by rw [((I v).mp z).2] at h;cases h
theorem afX (gd:Good wd rows) (T:Told rows wd cut ts) (R:Regs rows wd cut rs) {a:Nat} (ha:ts[a]?=some (true,r)):∃ v rr,rs[v]?=some rr/\rr.2.any (vY rows wd)=true/\fSd ts rs a v=false:=by
 have h1:=gd.h1
 have w1:=gd.w1
 have ip:inP rows wd (0,0)=true:=by
  show zO rows wd 0 0=true
  unfold zO
  rw [decide_eq_true (by omega),decide_eq_true (by omega)]
  rfl
 obtain⟨rr,e1,e2⟩:=vJ R ip
 refine⟨_,rr,e1,aqO.mpr ⟨_,e2,rfl⟩,?_⟩
 rw [adK T R ha e1 e2]
 exact ag8 gd (T.line _ (aoj ha)) ip rfl
theorem aie (gd:Good wd rows) (T:Told rows wd cut ts) (all:∀ g,opG rows wd cut g=true->g∈flat ts) (R:Regs rows wd cut rs) {a:Nat} (ha:ts[a]?=some (true,r)) {e:Nat×Nat} (he:(ts.map (yk rows cut rs))[a]?=some e) {A:List Nat}
  (LA:Lot rs.length ((ts.map (yk rows cut rs)).take a++(ts.map (yk rows cut rs)).drop (a+1)) e.1 A):(fSd ts rs a e.1=true->Inner ts rs a A)/\(fSd ts rs a e.1=false->(∃ v∈A,∃ rr,rs[v]?=some rr/\rr.2.any (vY rows wd)=true)/\∀ B,Lot rs.length ((ts.map (yk rows cut rs)).take a++(ts.map (yk rows cut rs)).drop (a+1)) e.2 B->Inner ts rs a B):=by
 have tree:=abO gd T all R
 have be:=tree.bd e (aoj he)
 have ne:=(tree.part a a e (aoh.mp he).1 he).mpr rfl
 have bdr:∀ e'∈(ts.map (yk rows cut rs)).take a++(ts.map (yk rows cut rs)).drop (a+1),e'.1<rs.length/\e'.2<rs.length:=fun e' h=>by
  rcases aou.mp h with h | h
  ·exact tree.bd e' (aqV h)
  ·exact tree.bd e' (arV h)
 constructor
 ·intro h
  have LB:=afU (s:=e.2) bdr be.2
  obtain⟨_,dis,fA,fB,al⟩:=tree.apart he LA LB
  intro v
  constructor
  ·intro hv
   exact⟨LA.bd v hv,by rw [fA v hv,h]⟩
  ·rintro⟨hv,hf⟩
   rcases al v hv with z | z
   ·exact z
   ·rw [fB v z] at hf
    exact absurd (h.trans hf.symm) ne
 ·intro h
  constructor
  ·have LB:=afU (s:=e.2) bdr be.2
   obtain⟨_,dis,fA,fB,al⟩:=tree.apart he LA LB
   obtain⟨v,rr,hv,hh,hf⟩:=afX gd T R ha
   rcases al v (aoh.mp hv).1 with z | z
   ·exact⟨v,z,rr,hv,hh⟩
   ·rw [fB v z] at hf
    exact absurd (h.trans hf.symm) ne
  ·intro B LB
   obtain⟨_,dis,fA,fB,al⟩:=tree.apart he LA LB
   have h2:fSd ts rs a e.2=true:=by
    cases z:fSd ts rs a e.2 with
    | true=>rfl
    | false=>exact absurd (h.trans z.symm) ne
   intro v
   constructor
   ·intro hv
    exact⟨LB.bd v hv,by rw [fB v hv,h2]⟩
   ·rintro⟨hv,hf⟩
    rcases al v hv with z | z
    ·rw [fA v z,h] at hf;cases hf
    ·exact z
theorem ae4 (T:Told rows wd cut ts) (R:Regs rows wd cut rs) {a:Nat} (ha:ts[a]?=some (true,r)) {S:List Nat} (I:Inner ts rs a S) {j:Nat} (hj:j<ts.length):decide (a∈yG ts j (zG ts j).1 (zG ts j).2.1)=(decide (j≠a) && (decide ((yk rows cut rs ts[j]).1∈S) && decide ((yk rows cut rs ts[j]).2∈S))):=by
 obtain⟨e1,e2⟩:=ag1 T hj
 have Lj:=T.line _ (aoj e1)
 have La:=T.line _ (aoj ha)
 have sa:=T.st _ (aoj ha)
 have hh:hdG ts[j]=zG ts j:=by
  have:=aa3 Lj
  exact Option.some.inj (this.symm.trans e2)
 have o:=Lj.op _ (apb e2)
 have ipt:inP rows wd ((zG ts j).1,(zG ts j).2.1)=true:=qC o
 unfold yk
 rw [hh]
 dsimp only
 obtain⟨r1,a1,b1⟩:=vJ R (qD (h:=true) o).1
 obtain⟨r2,a2,b2⟩:=vJ R (qD (h:=false) o).1
 rw [abR I (aoh.mp a1).1,abR I (aoh.mp a2).1,abM T R ha a1 b1,abM T R ha a2 b2]
 have mem:decide (a∈yG ts j (zG ts j).1 (zG ts j).2.1)=(decide (j≠a) && y3 r (zG ts j).1 (zG ts j).2.1):=by
  have:a∈yG ts j (zG ts j).1 (zG ts j).2.1↔vW ts j (zG ts j).1 (zG ts j).2.1 a=true:=by
   unfold yG
   rw [ao6]
   exact⟨fun z=>z.2,fun z=>⟨aoK.mpr (aoh.mp ha).1,z⟩⟩
  have e:vW ts j (zG ts j).1 (zG ts j).2.1 a=(decide (j≠a) && y3 r (zG ts j).1 (zG ts j).2.1):=by
   unfold vW
   rw [aok,ha]
   show (decide (a≠j) && (true && y3 r _ _))=_
   rw [apv]
   congr 1
   exact decide_eq_decide.mpr ⟨fun z z'=>z z'.symm,fun z z'=>z z'.symm⟩
  rw [aqW,decide_eq_true_iff,this,e]
 rw [mem]
 by_cases z:j=a
 ·rw [decide_eq_false (fun h=>h z)];rfl
 ·rw [decide_eq_true z,apv,apv]
  have nin:zG ts j∉r:=fun hm=>z (ae2 T.nd e1 ha (apb e2) hm)
  have same:sdP r (hpt rows cut true (zG ts j))=sdP r (hpt rows cut false (zG ts j)):=aoV fun h=>nin ((akb (t:=(true,r)) La sa o).mp h)
  have one:sdP r (hpt rows cut true (zG ts j))=y3 r (zG ts j).1 (zG ts j).2.1:=by
   have hx:hpt rows cut true (zG ts j)=((zG ts j).1,(zG ts j).2.1) \/ hpt rows cut false (zG ts j)=((zG ts j).1,(zG ts j).2.1):=by
    unfold hpt
    cases hiB rows cut (zG ts j).1 (zG ts j).2.1 with
    | true=>exact .inl (if_pos rfl)
    | false=>exact .inr (if_pos rfl)
   rcases hx with h | h
   ·rw [h];exact afW La ipt
   ·rw [same,h];exact afW La ipt
  show _=(sdP r _ && sdP r _)
  rw [<-same,one,Bool.and_self]
end
theorem adL (x a b:Int):(([.int a,.int b]:List PyData).any fun e=>aoH e (.int x))=(decide (x=a) || decide (x=b)):=by
 simp only [aqs,List.any_nil,Bool.or_false,aak]
 rw [decide_eq_decide.mpr (show a=x↔x=a from eq_comm),decide_eq_decide.mpr (show b=x↔x=b from eq_comm)]
theorem anT (l:List Nat) (a:Nat):((l.map fun k:Nat=>PyData.int k).any fun e=>aoH e (.int (a:Int)))=decide (a∈l):=abQ l a
theorem aha {α:Type} (F:α->PyData) (l:List α):aoH (.list (l.map F)) (.list [])=l.isEmpty:=by cases l <;> rfl
theorem adM {α:Type} (p:α->Bool):∀ l:List α,(!(l.filter p).isEmpty)=l.any p
 | []=>rfl
 | a :: l=>by
  rw [ao0,aqs]
  cases h:p a with
  | true=>rw [if_pos rfl];rfl
  | false=>rw [if_neg aoi,adM p l,ar3]
theorem adN {α:Type} (F:α->Int):∀ l:List α,(PyData.list (l.map fun x=>.int (F x))).canLay0=true
 | []=>rfl
 | a :: l=>by
  have h:aqE (l.map fun x=>.int (F x))=true:=adN F l
  show (true && aqE (l.map fun x=>.int (F x)))=true
  rw [h]
  rfl
section
variable {K:aol} {f:Fx} {ρ:zq} {ta tb:TE} {tt tu:TT} {P:PyData->Prop} {B:Bool->Prop}
theorem ake (b c:Bool) (h1:PEd K f ta ρ fun x=>x=.bool b) (h2:b=true->PEd K f tb ρ fun x=>x=.bool c) (p:P (.bool (b && c))):PEd K f (aii ta tb) ρ P:=by
 refine abh (h1.imp fun x ex=>⟨b,ex,?_⟩)
 cases b with
 | true=>rw [if_pos rfl];exact (h2 rfl).imp fun y ey=>by subst ey;exact p
 | false=>rw [if_neg aoi];exact p
theorem akf (b c:Bool) (h1:PTd K f tt ρ fun x=>x=b) (h2:b=true->PTd K f tu ρ fun x=>x=c) (p:B (b && c)):PTd K f (akm tt tu) ρ B:=by
 refine aci (h1.imp fun x ex=>?_)
 subst ex
 cases x with
 | true=>rw [if_pos rfl];exact (h2 rfl).imp fun y ey=>by subst ey;exact p
 | false=>rw [if_neg aoi];exact p
end
theorem alG {rows:List (List Int)} {wd:Nat} {cut:Int} {rs:List (Bool×List Pt)} (g:Good wd rows) (R:Regs rows wd cut rs) {v:Nat} {r:Bool×List Pt} (hv:rs[v]?=some r):r.2.length<=49:=by
 obtain⟨h,G⟩:=R.reg r (aoj hv)
 exact vo g (aqU _ (fun a b (z:ltD (pD a) (pD b)=true) e=>by rw [e,jV _ rfl] at z;cases z) G.up) fun q hq=>ajZ R (aoj hv) hq
abbrev TEg:=List (List Int)×Nat×(Bool×List Pt)
abbrev akg (K:aol):Sp:=spD K 2 (fun (c:TEg) xs=>xs=[.dat (tab c.1),.dat (qf c.2.2)]/\Good c.2.1 c.1/\c.2.2.2.length<=49) fun c r=>r=.bool (c.2.2.2.any (vY c.1 c.2.1))
theorem alH (F:Def K mg "_law_at_edge" jb pQ) (uaa:mg "len"=none):FnIn P w K mg base (k+1) "_law_at_edge" pQ (akg K):=by
 refine F.ok sc_law_at_edge rfl fun fa cdv A outer s H E hr=>⟨_,(zc (zB (i:=2) sc_law_at_edge.nd rfl (Or.inr rfl) (zA (zM (K:=K) rfl) rfl uaa aoW (za (zI (zz (K:=K) rfl) (pv 0) ze (fun _ _=>rfl)) zb))) (zc (zB (i:=3) sc_law_at_edge.nd rfl (Or.inr rfl) (zA (zM (K:=K) rfl) rfl uaa aoW (za (pv 0) zb))) (zg (zt (yD (qo (K:=K) rfl hr.units) (ye (N:=pZ) (own:=2) (fr:=[2,3]) ⟨rfl,by decide +kernel,of_decide_eq_true (by kernel_rfl),of_decide_eq_true (by kernel_rfl),of_decide_eq_true (by kernel_rfl),rfl⟩ rfl (qq (K:=K) rfl (zI (yf (K:=K) rfl) (pv 1) ze (fun _ _=>rfl))) (fun _ _ _ _=>(zL (K:=K) (n:=2) rfl rfl (zh (zf (i:=0) (show (pZ:List Str).Nodup by decide +kernel) rfl (Or.inl rfl) (Or.inr rfl)) (zh (zf (i:=1) (show (pZ:List Str).Nodup by decide +kernel) rfl (Or.inl rfl) (Or.inr rfl)) zH)))) (fun _ _ _ _=>(yS (PW.pt (alJ (zJ (abB (K:=K) rfl hr.units) (pv 0) (zC (za ze (za (zw yM (pv 2) ze) zb))) rfl) (aih (zJ (abB (K:=K) rfl hr.units) (pv 1) (zC (za ze (za (zw yM (pv 3) ze) zb))) rfl)))))) (fun _ _ _ _=>ze) rfl rfl (fun _=>rfl)) (yh zb) (zQ _)))))),?_⟩
 rintro f xs ⟨rows,wd,b,l⟩ hl ⟨rfl,g,ll⟩
 try dsimp only [z5,zl]
 dsimp only at *
 obtain⟨r0,rs0,er⟩:=g.ne
 have hr0:r0.length=wd:=g.row r0 (by rw [er];exact aom)
 have hat0:atI (rows.map fun q=>PyData.list (q.map .int)) 0=some (.list (r0.map .int)):=by
  rw [er]
  exact yL (F:=fun q:List Int=>PyData.list (q.map .int)) (xs:=r0 :: rs0) (j:=0) rfl (aqD _)
 refine z6 (zP (qN (zx (jD (zm rfl ⟨_,rfl,yR ⟨_,rfl,_,hat0,yj (.inl ⟨_,rfl,zi (z6 (zP (qN (aew rfl (.inl ⟨_,rfl,zi ?_⟩)))))⟩)⟩⟩)))))
 rw [aog,aog,hr0]
 unfold qf
 refine yT (jC (PEdO.ped (qu (A:=pD) (B:=fun _=>.int 1) (vY rows wd) l (abk (vA (zm rfl ⟨_,rfl,yR ⟨_,rfl,_,rfl,_,rfl,rfl,by omega,?_,?_⟩⟩))))))
 ·rintro D ⟨x,y⟩ ρ' es hg ho hes
  obtain⟨us,hus,rfl⟩:=ho
  match us,hus with
  | [u1,u2],_ =>
   refine anJ (amv (yq (afs (zm rfl (vB (zx (yR (zx (ad3 (zm rfl ⟨_,rfl,yR ⟨_,rfl,yj ⟨_,rfl,by show 2<=1000;decide,_,rfl,rfl,?_,by show 0<=50;decide,_,rfl,?_⟩⟩⟩))))))))))
   ·intro e he
    rcases aor.mp he with rfl | he
    ·rfl
    ·rw [aos.mp he];rfl
   rw [adL]
   have two:∀ y':Int,(([.int 0,.int ((rows.length:Int) - 1)]:List PyData).any fun e=>aoH e (.int y'))=(decide (y'=0) || decide (y'=(rows.length:Int) - 1)):=fun y'=>adL y' 0 _
   have go:∀ b:Bool,b=vY rows wd (x,y)->(b=vY rows wd (x,y)/\if b=true then PBd K f D (vz D (tC (V.int 1))) [some (.dat (.int x)),some (.dat (.int y)),some (.dat (.int (wd:Nat))),some (.dat (.int (rows.length:Nat)))] es fun ρ3 es3=>OwnE 2 (frD [2,3] [some (.dat (tab rows)),some (.dat (qf (b,l))),some (.dat (.int (wd:Nat))),some (.dat (.int (rows.length:Nat)))]) ρ3/\es3=es++[.int 1] else OwnE 2 (frD [2,3] [some (.dat (tab rows)),some (.dat (qf (b,l))),some (.dat (.int (wd:Nat))),some (.dat (.int (rows.length:Nat)))]) [some (.dat (.int x)),some (.dat (.int y)),some (.dat (.int (wd:Nat))),some (.dat (.int (rows.length:Nat)))]):=fun b hb=>⟨hb,zS (fun _=>yl hes (yR ⟨⟨[_,_],rfl,rfl⟩,rfl⟩)) fun _=>⟨[_,_],rfl,rfl⟩⟩
   refine zS (fun h=>?_) fun h=>?_
   ·refine⟨?_,zS (fun _=>yl hes (yR ⟨⟨[_,_],rfl,rfl⟩,rfl⟩)) fun _=>⟨[_,_],rfl,rfl⟩⟩
    unfold vY
    rw [h]
    rfl
   ·refine yq (afs (zm rfl (vB (zx (yR (zx (ad3 (zm rfl ⟨_,rfl,yR ⟨_,rfl,yj ⟨_,rfl,by show 2<=1000;decide,_,rfl,rfl,?_,by show 0<=50;decide,_,rfl,?_⟩⟩⟩))))))))
    ·intro e he
     rcases aor.mp he with rfl | he
     ·rfl
     ·rw [aos.mp he];rfl
    rw [adL]
    refine⟨?_,zS (fun _=>yl hes (yR ⟨⟨[_,_],rfl,rfl⟩,rfl⟩)) fun _=>⟨[_,_],rfl,rfl⟩⟩
    unfold vY
    rw [h,ar3]
 ·refine agc (yj ⟨[],rfl,by show 0<=1000;decide,adN (fun _=>1) _,rfl,aoN (ary _ _) (by decide),?_⟩)
  rw [aha (fun _:Pt=>PyData.int 1),adM]
  rfl
abbrev TRg:=List (List Int)×Nat×Int×List (Bool×List Pt)×List (Bool×List Gt)×Nat×List Gt
abbrev anU (c:TRg) (xs:List DV):Prop:=xs=[.dat (tab c.1),.dat (.list (c.2.2.2.1.map qf)),.dat (.list ((c.2.2.2.2.1.map (yk c.1 c.2.2.1 c.2.2.2.1)).map eD)),.dat (.int (c.2.2.2.2.2.1:Nat)),.dat (zX (true,c.2.2.2.2.2.2)),.dat (.list ((aow c.2.2.2.2.1.length).map fun a=>abL (yG c.2.2.2.2.1 a (zG c.2.2.2.2.1 a).1 (zG c.2.2.2.2.1 a).2.1)))]/\Good c.2.1 c.1/\Regs c.1 c.2.1 c.2.2.1 c.2.2.2.1/\c.2.2.2.1.length<=49/\Told c.1 c.2.1 c.2.2.1 c.2.2.2.2.1/\(∀ g,opG c.1 c.2.1 c.2.2.1 g=true->g∈flat c.2.2.2.2.1)/\c.2.2.2.2.1[c.2.2.2.2.2.1]?=some (true,c.2.2.2.2.2.2)
abbrev akh (K:aol):Sp:=spD K 6 anU fun _ r=>r=.bool true
theorem aki (F:Def K mg "_law_right" jM pR) (uaa:mg "len"=none) (uab:mg "range"=none) (uaK:FnIn P w K mg base k "holds" pB (adG K)) (ua4:FnIn P w K mg base k "_law_at_edge" pQ (akg K)) (ua5:FnIn P w K mg base k "_law_reached" pP (acQ K)):FnIn P w K mg base (k+1) "_law_right" pR (akh K):=by
 refine F.ok sc_law_right rfl fun fa cdv A outer s H E hr=>⟨_,(zc (zB (i:=6) sc_law_right.nd rfl (Or.inl rfl) (zw (abo (K:=K) rfl) (adV (aea (K:=K) rfl) (pv 2) af3 (af4 (pv 3))) (adV (aea (K:=K) rfl) (pv 2) (af4 (zw zY (pv 3) ze)) af3))) (zc (zB (i:=7) sc_law_right.nd rfl (Or.inl rfl) (zd ua5 hr rfl (za (zA (zM (K:=K) rfl) rfl uaa aoW (za (pv 1) zb)) (za (pv 6) (za (zI (yf (K:=K) rfl) (zI (zz (K:=K) rfl) (pv 2) (pv 3) (fun _ _=>rfl)) ze (fun _ _=>rfl)) zb))))) (zc (yA (zJ (qo (K:=K) rfl hr.units) (ye (N:=["_law_k","_law_rows","_law_some"]) (own:=1) (fr:=[0,1]) ⟨rfl,by decide +kernel,of_decide_eq_true (by kernel_rfl),of_decide_eq_true (by kernel_rfl),of_decide_eq_true (by kernel_rfl),rfl⟩ rfl (zW (K:=K) rfl (pv 7)) (fun _ _ _ _=>(zf (i:=0) (show (["_law_k","_law_rows","_law_some"]:List Str).Nodup by decide +kernel) rfl (Or.inl rfl) (Or.inr rfl))) (fun _ _ _ _=>(yS (z4 (K:=K) rfl (zd ua4 hr rfl (za (pv 1) (za (zI (zz (K:=K) rfl) (pv 2) (pv 0) (fun _ _=>rfl)) zb))) (fun _=>rfl)))) (fun _ _ _ _=>(pv 0)) rfl rfl (fun _=>rfl)) (yh zb) (zQ _)) (zg (zB (i:=7) sc_law_right.nd rfl (Or.inl rfl) (zd ua5 hr rfl (za (zA (zM (K:=K) rfl) rfl uaa aoW (za (pv 1) zb)) (za (pv 6) (za (zI (yf (K:=K) rfl) (zI (zz (K:=K) rfl) (pv 2) (pv 3) (fun _ _=>rfl)) ze (fun _ _=>rfl)) zb)))))) zV) (zc (yB aoT rfl (yv rfl uab (za (zA (zM (K:=K) rfl) rfl uaa aoW (za (pv 1) zb)) zb)) (zf (i:=8) sc_law_right.nd rfl (Or.inl rfl) (Or.inr rfl)) (zc (yA (PW.pt (qg (zJ (q9 (K:=K) rfl hr.units) (pv 8) (pv 7) rfl) (jB (z4 (K:=K) rfl (zd ua4 hr rfl (za (pv 0) (za (zI (zz (K:=K) rfl) (pv 1) (pv 8) (fun _ _=>rfl)) zb))) (fun _=>rfl))))) (zg (zt qJ)) zV) (zg (yB aoT rfl (qq (K:=K) rfl (zI (yf (K:=K) rfl) (zI (zz (K:=K) rfl) (pv 1) (pv 8) (fun _ _=>rfl)) ze (fun _ _=>rfl))) (zL (K:=K) (n:=2) rfl rfl (zh (zf (i:=9) sc_law_right.nd rfl (Or.inl rfl) (Or.inr rfl)) (zh (zf (i:=10) sc_law_right.nd rfl (Or.inl rfl) (Or.inr rfl)) zH))) (zg (yA (zJ (qo (K:=K) rfl hr.units) (zd uaK hr rfl (za (pv 4) (za (pv 9) (za (pv 10) zb)))) (yD (q9 (K:=K) rfl hr.units) (pv 8) (pv 7) rfl) (zQ _)) (zg (zt qJ)) zV)))))) (zc (yB aoT rfl (yv rfl uab (za (zA (zM (K:=K) rfl) rfl uaa aoW (za (pv 2) zb)) zb)) (zf (i:=11) sc_law_right.nd rfl (Or.inl rfl) (Or.inr rfl)) (zg (yA (zJ (qo (K:=K) rfl hr.units) (yD (abB (K:=K) rfl hr.units) (pv 3) (zI (zz (K:=K) rfl) (pv 5) (pv 11) (fun _ _=>rfl)) rfl) (vK (yD (qo (K:=K) rfl hr.units) (pv 11) (pv 3) (zQ _)) (vK (yD (q9 (K:=K) rfl hr.units) (zI (yf (K:=K) rfl) (zI (zz (K:=K) rfl) (pv 2) (pv 11) (fun _ _=>rfl)) ze (fun _ _=>rfl)) (pv 7) rfl) (aa7 (yD (q9 (K:=K) rfl hr.units) (zI (yf (K:=K) rfl) (zI (zz (K:=K) rfl) (pv 2) (pv 11) (fun _ _=>rfl)) ze (fun _ _=>rfl)) (pv 7) rfl)))) (zQ _)) (zg (zt qJ)) zV))) (zg (zt qJ))))))),?_⟩
 rintro f xs ⟨rows,wd,cut,rs,ts,a,r⟩ hl ⟨rfl,g,R,rl,T,al,ha⟩
 try dsimp only [z5,zl]
 dsimp only at *
 have few:=T.few g
 have tree:=abO g T al R
 have hat:a<ts.length:=(aoh.mp ha).1
 have L:=T.line _ (aoj ha)
 have len98:=qX g L.op L.nd
 have ptl:∀ (v:Nat) (rr:Bool×List Pt),rs[v]?=some rr->rr.2.length<=49:=fun v rr hv=>alG g R hv
 have li:=fun {e:Nat×Nat} (he:(ts.map (yk rows cut rs))[a]?=some e) {S:List Nat} LA=>aie (A:=S) g T al R ha he LA
 have ri:=fun {S:List Nat} (I:Inner ts rs a S) {j:Nat} (hj:j<ts.length)=>ae4 T R ha I hj
 have atS:∀ (v:Nat) rr,rs[v]?=some rr->atI (rs.map qf) (v:Int)=some (qf rr):=fun v rr h=>qi (by rw [aoq,h];rfl)
 have el:(ts.map (yk rows cut rs)).length=ts.length:=aog _
 have eat:∀ j (hj:j<ts.length),(ts.map (yk rows cut rs))[j]?=some (yk rows cut rs ts[j]):=fun j hj=>by rw [aoq,aof hj];rfl
 have he:=eat a hat
 have ate:∀ j (hj:j<ts.length),atI ((ts.map (yk rows cut rs)).map eD) (j:Int)=some (eD (yk rows cut rs ts[j])):=fun j hj=>qi (by rw [aoq,eat j hj];rfl)
 have hate:=ate a hat
 have be:=tree.bd _ (aoj he)
 generalize yk rows cut rs ts[a]=e at *
 have bdr:∀ e'∈(ts.map (yk rows cut rs)).take a++(ts.map (yk rows cut rs)).drop (a+1),e'.1<rs.length/\e'.2<rs.length:=fun e' h=>by
  rcases aou.mp h with h | h
  ·exact tree.bd e' (aqV h)
  ·exact tree.bd e' (arV h)
 generalize hes:ts.map (yk rows cut rs)=es at *
 have cut1:L2.cutD (es.map eD) none (some (a:Int))=(es.take a).map eD:=by rw [L2.cut_upto,ar1]
 have cut2:L2.cutD (es.map eD) (some ((a:Int)+1)) none=(es.drop (a+1)).map eD:=by rw [show ((a:Int)+1)=((a+1:Nat):Int) by omega,L2.cut_from,ar2]
 refine z6 (zP (afi (aiT (zm rfl ⟨_,rfl,aiR (aiS (zm rfl ⟨_,rfl,_,rfl,aiT (zm rfl ⟨_,rfl,aiS (ad3 (zm rfl ⟨_,rfl,yR ⟨_,rfl,_,rfl,aiR ⟨_,rfl,?_,?_⟩⟩⟩))⟩)⟩))⟩))))
 ·rw [cut1,cut2,aog,aog,aoX,aqk]
  omega
 rw [cut1,cut2,<- aoF]
 refine zi (z6 (zP (PEdO.ped (jg (rs.length,es.take a++es.drop (a+1),e.1) (zx (qN (aew rfl (.inl ⟨_,rfl,?_⟩))))))))
 rw [aog]
 refine zx (zm rfl (zx (vA (jD (zm rfl ⟨_,rfl,zm rfl ⟨_,rfl,_,hate,_,rfl,yR ⟨_,rfl,_,rfl,yj ⟨rfl,⟨rfl,be.1,by dsimp only;omega,bdr⟩,?_⟩⟩⟩⟩)))))
 rintro _ ⟨SA,rfl,LA⟩
 dsimp only at LA
 obtain⟨l1,l2⟩:=li he LA
 have lenA:SA.length<=60:=by
  have:=len_sub SA (aow rs.length) LA.nd fun v hv=>aoK.mpr (LA.bd v hv)
  rw [aoU] at this
  omega
 have atV:∀ v,v<rs.length->∃ rr,rs[v]?=some rr:=fun v hv=>⟨_,aof hv⟩
 refine zi (acz (fun ρ=>∃ S:List Nat,ρ=[some (.dat (tab rows)),some (.dat (.list (rs.map qf))),some (.dat (.list (es.map eD))),some (.dat (.int (a:Nat))),some (.dat (zX (true,r))),some (.dat (.list ((aow ts.length).map fun a=>abL (yG ts a (zG ts a).1 (zG ts a).2.1)))),some (.dat (.list ((es.take a++es.drop (a+1)).map eD))),some (.dat (.list (S.map vD))),none,none,none,none]/\Inner ts rs a S/\S.length<=60) ?_ ?_)
 ·refine abW (yq (jC (PEdO.ped (qu (A:=vD) (B:=vD) (fun v=>(rs.getD v (false,[])).2.any (vY rows wd)) SA (yx (zm rfl ⟨_,rfl,rfl,by omega,?_,?_⟩))))))
  ·rintro D v ρ' es' hv ho hes'
   obtain⟨rr,hrr⟩:=atV v (LA.bd v hv)
   have hg:rs.getD v (false,[])=rr:=by rw [aok,hrr];rfl
   obtain⟨us,hus,rfl⟩:=ho
   match us,hus with
   | [u1],_ =>
    refine zi (yH (zp (rows,wd,rr) (zx (zm rfl (zx (jD (zm rfl ⟨_,rfl,zm rfl ⟨_,rfl,_,atS v rr hrr,yj ⟨rfl,⟨rfl,g,ptl v rr hrr⟩,?_⟩⟩⟩)))))))
    rintro _ rfl
    refine⟨_,rfl,?_⟩
    rw [hg]
    refine⟨rfl,zS (fun h=>?_) fun h=>⟨[_],rfl,rfl⟩⟩
    exact yl hes' (zm rfl ⟨⟨[_],rfl,rfl⟩,rfl⟩)
  ·refine agc (yj ⟨[],rfl,by show 0<=1000;decide,adN (fun v:Nat=>(v:Int)) _,rfl,aoN (ary _ _) (by decide),_,rfl,?_⟩)
   rw [if_pos rfl,aha vD,adM]
   refine zS (fun h=>?_) fun h=>?_
   ·have fa:fSd ts rs a e.1=false:=by
     cases z:fSd ts rs a e.1 with
     | false=>rfl
     | true =>
      obtain⟨v,hv,h2⟩:=aqO.mp h
      obtain⟨rr,hrr⟩:=atV v (LA.bd v hv)
      have hg:rs.getD v (false,[])=rr:=by rw [aok,hrr];rfl
      rw [hg,ag9 g T R ha hrr ((l1 z v).mp hv).2] at h2
      cases h2
    refine zP (PEdO.ped (jg (rs.length,es.take a++es.drop (a+1),e.2) (zx (qN (aew rfl (.inl ⟨_,rfl,?_⟩))))))
    rw [aog]
    refine zx (zm rfl (zx (vA (jD (zm rfl ⟨_,rfl,zm rfl ⟨_,rfl,_,hate,_,rfl,yR ⟨_,rfl,_,rfl,yj ⟨rfl,⟨rfl,be.2,by dsimp only;omega,bdr⟩,?_⟩⟩⟩⟩)))))
    rintro _ ⟨SB,rfl,LB⟩
    dsimp only at LB
    refine zi ⟨SB,rfl,(l2 fa).2 SB LB,?_⟩
    have:=len_sub SB (aow rs.length) LB.nd fun v hv=>aoK.mpr (LB.bd v hv)
    rw [aoU] at this
    omega
   ·have fa:fSd ts rs a e.1=true:=by
     cases z:fSd ts rs a e.1 with
     | true=>rfl
     | false =>
      obtain⟨v,hv,rr,hrr,h2⟩:=(l2 z).1
      have hg:rs.getD v (false,[])=rr:=by rw [aok,hrr];rfl
      have:SA.any (fun v=>(rs.getD v (false,[])).2.any (vY rows wd))=true:=aqO.mpr ⟨v,hv,by rw [hg];exact h2⟩
      rw [this] at h
      cases h
    exact vC ⟨SA,rfl,l1 fa,lenA⟩
 rintro _ ⟨S,rfl,I,lS⟩
 have inS:=fun {v:Nat} (hv:v<rs.length)=>abR I hv
 refine z6 (ad8 (jE (zx (qN (aew rfl (.inl ⟨_,rfl,yj ⟨_,rfl,by rw [aog];omega,by rw [aog];omega,fun _ ρ=>∃ x8 x9 x10,ρ=[some (.dat (tab rows)),some (.dat (.list (rs.map qf))),some (.dat (.list (es.map eD))),some (.dat (.int (a:Nat))),some (.dat (zX (true,r))),some (.dat (.list ((aow ts.length).map fun a=>abL (yG ts a (zG ts a).1 (zG ts a).2.1)))),some (.dat (.list ((es.take a++es.drop (a+1)).map eD))),some (.dat (.list (S.map vD))),x8,x9,x10,none],⟨_,_,_,rfl⟩,?_,?_⟩⟩))))))
 ·rintro v d _ hd ⟨x8,x9,x10,rfl⟩
  obtain⟨hv,rfl⟩:=jy hd
  rw [aog] at hv
  have hv:v<rs.length:=by omega
  obtain⟨rr,hrr⟩:=atV v hv
  refine zi (z6 (abW (akf (fSd ts rs a v) (rr.2.any (vY rows wd)) (yq (aee (zm rfl (zm rfl ⟨_,rfl,rfl,acP S,by show 0<=50;decide,_,rfl,?_⟩)))) (fun _=>yH (zp (rows,wd,rr) (zx (zm rfl (zx (jD (zm rfl ⟨_,rfl,zm rfl ⟨_,rfl,_,atS v rr hrr,yj ⟨rfl,⟨rfl,g,ptl v rr hrr⟩,?_⟩⟩⟩))))))) ?_)))
  ·rw [abQ];exact inS hv
  ·rintro _ rfl
   exact⟨_,rfl,rfl⟩
  have no:(fSd ts rs a v && rr.2.any (vY rows wd))=false:=by
   cases z:fSd ts rs a v with
   | false=>rfl
   | true=>rw [ag9 g T R ha hrr z];rfl
  rw [no,if_neg aoi]
  refine vC (ad8 (abk (vA (jD (zm rfl ⟨_,rfl,zm rfl ⟨_,rfl,_,atS v rr hrr,_,rfl,yR ⟨_,rfl,_,rfl,_,rfl,fun _ ρ=>∃ x9 x10,ρ=[some (.dat (tab rows)),some (.dat (.list (rs.map qf))),some (.dat (.list (es.map eD))),some (.dat (.int (a:Nat))),some (.dat (zX (true,r))),some (.dat (.list ((aow ts.length).map fun a=>abL (yG ts a (zG ts a).1 (zG ts a).2.1)))),some (.dat (.list ((es.take a++es.drop (a+1)).map eD))),some (.dat (.list (S.map vD))),some (.dat (.int (v:Nat))),x9,x10,none],⟨_,_,rfl⟩,?_,?_⟩⟩⟩)))))
  ·rintro n d _ hd ⟨x9,x10,rfl⟩
   rw [aoq] at hd
   cases hp:rr.2[n]? with
   | none=>rw [hp] at hd;cases hd
   | some p =>
    rw [hp] at hd
    cases hd
    have hm:=aoj hp
    refine anJ (abW (yq (jC (zp ((true,r),p.1,p.2) (aoc rfl rfl rfl ⟨rfl,⟨rfl,len98⟩,?_⟩)))))
    rintro _ rfl
    refine aee (zm rfl (zm rfl ⟨_,rfl,rfl,acP S,by show 0<=50;decide,rfl,rfl,by show min 0 0<=60;decide,_,rfl,?_⟩))
    rw [abQ,inS hv,adK T R ha hrr hm]
    dsimp only
    rw [apv,if_pos rfl,aqF _ rfl,apn,if_neg aoi]
    exact vC ⟨_,_,rfl⟩
  ·rintro _ ⟨x9,x10,rfl⟩
   exact⟨_,_,_,rfl⟩
 rintro _ ⟨x8,x9,x10,rfl⟩
 refine z6 (ad8 (jE (zx (qN (aew rfl (.inl ⟨_,rfl,yj ⟨_,rfl,by rw [aog];omega,by rw [aog];omega,fun _ ρ=>∃ x11,ρ=[some (.dat (tab rows)),some (.dat (.list (rs.map qf))),some (.dat (.list (es.map eD))),some (.dat (.int (a:Nat))),some (.dat (zX (true,r))),some (.dat (.list ((aow ts.length).map fun a=>abL (yG ts a (zG ts a).1 (zG ts a).2.1)))),some (.dat (.list ((es.take a++es.drop (a+1)).map eD))),some (.dat (.list (S.map vD))),x8,x9,x10,x11],⟨_,rfl⟩,?_,?_⟩⟩))))))
 ·rintro j d _ hd ⟨x11,rfl⟩
  obtain⟨hj,rfl⟩:=jy hd
  rw [aog] at hj
  have hj:j<ts.length:=by omega
  have rj:=ri I hj
  have aj:=ate j hj
  have wj:atI ((aow ts.length).map fun a=>abL (yG ts a (zG ts a).1 (zG ts a).2.1)) (j:Int)=some (abL (yG ts j (zG ts j).1 (zG ts j).2.1)):=qi (by rw [aoq,apF hj];rfl)
  generalize yG ts j (zG ts j).1 (zG ts j).2.1=RL at *
  generalize yk rows cut rs ts[j]=ej at *
  refine zi (abW (yq (jC (afs (zm rfl (jD (zm rfl ⟨_,rfl,zm rfl ⟨_,rfl,_,wj,_,rfl,rfl,?_,by show 0<=50;decide,?_⟩⟩)))))))
  ·intro e' he'
   obtain⟨q,_,rfl⟩:=aoC.mp he'
   rfl
  rw [anT,rj]
  refine ake (decide (j≠a)) (decide (ej.1∈S) && decide (ej.2∈S)) (jC (zm rfl (zm rfl ⟨rfl,rfl,by show min 0 0<=60;decide,?_⟩))) (fun _=>ake (decide (ej.1∈S)) (decide (ej.2∈S)) (aee (vA (jD (zm rfl ⟨_,rfl,zm rfl ⟨_,rfl,_,aj,_,rfl,yR ⟨_,rfl,_,rfl,zm rfl ⟨_,rfl,rfl,acP S,by show 0<=50;decide,?_⟩⟩⟩⟩)))) (fun _=>aee (vA (jD (zm rfl ⟨_,rfl,zm rfl ⟨_,rfl,_,aj,_,rfl,yR ⟨_,rfl,_,rfl,zm rfl ⟨_,rfl,rfl,acP S,by show 0<=50;decide,?_⟩⟩⟩⟩)))) rfl) ?_
  ·rw [if_pos rfl,aak]
   by_cases z:j=a
   ·rw [decide_eq_true (show ((j:Nat):Int)=((a:Nat):Int) by omega),decide_eq_false (fun h=>h z)];rfl
   ·rw [decide_eq_false (show ¬ ((j:Nat):Int)=((a:Nat):Int) by omega),decide_eq_true z];rfl
  ·rw [abQ]
  ·rw [abQ]
  ·refine⟨rfl,rfl,by show min 0 0<=60;decide,_,rfl,?_⟩
   rw [if_pos rfl,aqF _ rfl,apn,if_neg aoi]
   exact vC ⟨_,rfl⟩
 rintro _ ⟨x11,rfl⟩
 exact yT (ahm rfl)
theorem anm {f:Addr} {fd:FuncData} (F:Fun K "law" "law" aaH f fd) (uaa:mg "len"=none) (uab:mg "range"=none) (uai:mg "max"=none) (uae:mg "min"=none)
  (ubn:FnIn P w K mg base k "_law_feed" pM (afR K)) (ubo:FnIn P w K mg base k "_law_table" pN (agN K))
  (ubp:FnIn P w K mg base k "_law_cut" pO (alZ K)) (uaJ:FnIn P w K mg base k "regions" pf (afL K)) (uaz:FnIn P w K mg base k "lines" pf (aa2 K)) (ubq:FnIn P w K mg base k "sides" pf (ag0 K)) (ubr:FnIn P w K mg base k "lies_in" pf (aj8 K)) (ubs:FnIn P w K mg base k "_law_right" pR (akh K)) :
  FnOk P w K mg base CX0 (k+1) f fd pS (ag5 K):=by
 refine F.ok sc_law (fun vs H Q E h=>?_) fun cdv A outer s H vs Q E hr hs=>⟨_,(zc (yB aoT rfl (yv rfl uab (za (zA (ahe rfl) rfl uai boot_max (za ze (za (zA (aca rfl) rfl uae boot_min (za ze (za (zA (zM (K:=K) rfl) rfl uaa aoW (za (pv 0) zb)) zb))) zb))) zb)) (zf (i:=1) sc_law.nd rfl (Or.inl rfl) (Or.inr rfl)) (zc (zB (i:=2) sc_law.nd rfl (Or.inl rfl) (zd ubn hr rfl (za (pv 0) (za (pv 1) zb)))) (zc (zB (i:=3) sc_law.nd rfl (Or.inl rfl) (zd ubo hr rfl (za (pv 2) zb))) (zc (zB (i:=4) sc_law.nd rfl (Or.inl rfl) (zd ubp hr rfl (za (pv 2) (za (pv 3) zb)))) (zc (zB (i:=5) sc_law.nd rfl (Or.inl rfl) (zd uaJ hr rfl (za (pv 3) (za (pv 4) zb)))) (zc (zB (i:=6) sc_law.nd rfl (Or.inl rfl) (zd uaz hr rfl (za (pv 3) (za (pv 4) zb)))) (zc (zB (i:=7) sc_law.nd rfl (Or.inl rfl) (zd ubq hr rfl (za (pv 3) (za (pv 4) zb)))) (zc (zB (i:=8) sc_law.nd rfl (Or.inl rfl) (zd ubr hr rfl (za (pv 3) (za (pv 4) zb)))) (zg (yB aoT rfl (yv rfl uab (za (zA (zM (K:=K) rfl) rfl uaa aoW (za (pv 6) zb)) zb)) (zf (i:=9) sc_law.nd rfl (Or.inl rfl) (Or.inr rfl)) (zg (yA (PW.pt (qg (zJ (jT (K:=K) rfl hr.units) (zI (yf (K:=K) rfl) (zI (zz (K:=K) rfl) (pv 6) (pv 9) (fun _ _=>rfl)) ze (fun _ _=>rfl)) jQ (zQ _)) (jB (aa6 (z4 (K:=K) rfl (zd ubs hr rfl (za (pv 3) (za (pv 5) (za (pv 7) (za (pv 9) (za (zI (zz (K:=K) rfl) (pv 6) (pv 9) (fun _ _=>rfl)) (za (pv 8) zb))))))) (fun _=>rfl)))))) (zg (zt qJ)) zV)))))))))))) (zg (zt qJ))),?_⟩
 ·obtain⟨a,ns,rfl,_⟩:=h
  rfl
 obtain⟨a,ns,rfl,hS,h63,q⟩:=hs
 have e0:EnvOk K L2.f0 (qm agM [.dat (scr ns)]) (start agM [.ref a]) H:=jZ (.cons (ag4 hS) .nil) (L2.fok0 H)
 suffices h:PSd K L2.f0 _ (qm agM [.dat (scr ns)]) { nx:=fun _=>False,rt:=fun d=>d=.bool true } from
  h _ H _ e0 (fun _ _ _ _ _ z=>z.elim) (fun d v H' _ r z=>by
   subst z
   rw [rep_bool.mp r]
   exact q H') (fun _ _ _ _ _ z=>z) (fun _ _ _ _ _ z=>z)
 refine z6 (ad8 (jE (alE (R:=fun xs=>∃ j:Int,xs=[.dat (.int j)]/\0<=j/\j<=63) ?_ ?_)))
 ·walk_at "w"
  rw [aog]
  split <;> split <;> omega
 rintro _ ⟨j,rfl,j0,j1⟩
 refine⟨j,rfl,by omega,by omega,fun i ρ=>∃ x1 x2 x3 x4 x5 x6 x7 x8 x9,ρ=[some (.dat (scr ns)),x1,x2,x3,x4,x5,x6,x7,x8,x9],⟨_,_,_,_,_,_,_,_,_,rfl⟩,?_,?_⟩
 ·rintro i d _ hi ⟨x1,x2,x3,x4,x5,x6,x7,x8,x9,rfl⟩
  obtain⟨hi,rfl⟩:=jy hi
  refine zi (amA (anl rfl rfl h63 (by omega) (by omega)) fun p=>?_)
  refine z6 (zP (zp () ?_))
  walk_at "w"
  rintro _ ⟨wd,rows,rfl,g⟩
  refine zi (z6 (zP (zp (rows,wd) ?_)))
  walk_at "w"
  rintro _ ⟨ct,rfl,_,_⟩
  refine zi (z6 (zP (PEdO.ped (jg (rows,wd,ct) (ajp rfl rfl ⟨rfl,⟨rfl,g⟩,?_⟩)))))
  rintro _ ⟨rs,rfl,R,rl⟩
  dsimp only at R
  refine zi (z6 (zP (PEdO.ped (jg (rows,wd,ct) (ajp rfl rfl ⟨rfl,⟨rfl,g⟩,?_⟩)))))
  rintro _ ⟨ts,rfl,T,al,up⟩
  dsimp only at T al
  refine zi (z6 (zP (PEdO.ped (jg (rows,wd,ct) (ajp rfl rfl ⟨rfl,⟨rfl,g⟩,?_⟩)))))
  rintro _ ⟨us,rs',rfl,U,ua,uu,R',_⟩
  dsimp only at U ua R'
  obtain rfl:=ajT R R'
  obtain rfl:=aeV T U al ua up uu
  refine zi (z6 (zP (PEdO.ped (jg (rows,wd,ct) (ajp rfl rfl ⟨rfl,⟨rfl,g⟩,?_⟩)))))
  rintro _ ⟨us,V,va,vu,rfl⟩
  dsimp only at V va
  obtain rfl:=aeV T V al va up vu
  have few:=T.few g
  have ee:ts.map (acM rows ct rs)=(ts.map (yk rows ct rs)).map eD:=by rw [apJ];rfl
  rw [ee]
  refine zi (ad8 (jE (zx (qN (aew rfl (.inl ⟨_,rfl,yj ⟨_,rfl,by rw [aog];omega,by rw [aog];omega,fun _ ρ=>∃ x9,ρ=[some (.dat (scr ns)),some (.dat (.int i)),some .feed,some (.dat (tab rows)),some (.dat (.int ct)),some (.dat (.list (rs.map qf))),some (.dat (.list (ts.map zX))),some (.dat (.list ((ts.map (yk rows ct rs)).map eD))),some (.dat (.list ((aow ts.length).map fun a=>abL (yG ts a (zG ts a).1 (zG ts a).2.1)))),x9],⟨_,rfl⟩,?_,?_⟩⟩))))))
  ·rintro a d _ hd ⟨x9,rfl⟩
   obtain⟨ha,rfl⟩:=jy hd
   rw [aog] at ha
   have ha:a<ts.length:=by omega
   have hat:=aof ha
   have hl:atI (ts.map zX) (a:Int)=some (zX ts[a]):=qi (by rw [aoq,hat];rfl)
   generalize ts[a]=t at *
   obtain⟨b,l⟩:=t
   have wd1:aoH (.str (if b=true then "ring" else "run")) (.str "ring")=b:=by cases b <;> decide +kernel
   refine zi (abW (akf b false ?t1 (fun hb=>?t2) ?t3))
   case t1 =>
    refine yq (jC (vA (jD (zm rfl ⟨_,rfl,zm rfl ⟨_,rfl,_,hl,_,rfl,yR ⟨_,rfl,.str (if b=true then "ring" else "run"),rfl,aiB ⟨?_,?_,?_,_,rfl,wd1⟩⟩⟩⟩))))
    ·cases b <;> decide +kernel
    ·decide +kernel
    ·exact aoN (Nat.min_le_left _ _) (ao2 60)
   case t2 =>
    subst hb
    refine ad4 (yH (zp (rows,wd,ct,rs,ts,a,l) (zx (zm rfl (zx (zm rfl (zx (zm rfl (zx (zm rfl (zx (jD (zm rfl ⟨_,rfl,zm rfl ⟨_,rfl,_,hl,zx (zm rfl (yj ⟨rfl,⟨rfl,g,R,rl,T,al,hat⟩,?_⟩))⟩⟩)))))))))))))
    rintro _ rfl
    exact⟨true,rfl,rfl⟩
   rw [aq7,if_neg aoi]
   exact vC ⟨_,rfl⟩
  ·rintro _ ⟨x9,rfl⟩
   exact⟨_,_,_,_,_,_,_,_,_,rfl⟩
 ·rintro _ ⟨x1,x2,x3,x4,x5,x6,x7,x8,x9,rfl⟩
  exact yT (ahm rfl)
end
theorem _root_.L2.FnIn.m {P w K mg base j k x ps sp} (h:FnIn P w K mg base j x ps sp) (hk:j<=k:=by decide):FnIn P w K mg base k x ps sp:=h.mono hk
local macro_rules | `(tactic| walk_at "f")=>`(tactic| first | exact (fun _ _ _ _ _ _ us hl=>match us,hl with | [_],_=>rfl) | exact (fun _ _ _ _ _ _ us hl=>match us,hl with | [_,_],_=>rfl) | exact (fun _ _ _ _ _ _ us hl=>match us,hl with | [_,_,_],_=>rfl) | exact (fun _ _ _ _ _ _ us hl=>match us,hl with | [_,_,_,_],_=>rfl) | exact (fun _ _ _ _ _ _ us hl=>match us,hl with | [_,_,_,_,_],_=>rfl) | exact (fun _ _ _ _ _ _ us hl=>match us,hl with | [_,_,_,_,_,_],_=>rfl) | exact (fun _ _ _ _ _ _ us hl=>match us,hl with | [_,_,_,_,_,_,_],_=>rfl) | exact (fun _ _ _ _ _ _ us hl=>match us,hl with | [_,_,_,_,_,_,_,_],_=>rfl))
set_option autoImplicit true in
set_option relaxedAutoImplicit true in
theorem all_mk {l:PySem.W.OpenLaw} {w:World} {K:aol} {h:Heap} {mg:Str->Option Value} {fa:Addr} (X:K.In h) (G:h.Ns mainGlobals mg) (hfa:mg "law"=some (.ref fa))
  (a1:FD K "size" adk f1 od1 an1 sl1 oc1 kV1 dc1 pm1 cd1 ct1)
  (a2:FD K "points" aag f2 od2 an2 sl2 oc2 kV2 dc2 pm2 cd2 ct2)
  (a3:FD K "has_point" jH f3 od3 an3 sl3 oc3 kV3 dc3 pm3 cd3 ct3)
  (a4:FD K "neighbours" jk f4 od4 an4 sl4 oc4 kV4 dc4 pm4 cd4 ct4)
  (a5:FD K "has_cell" qw f5 od5 an5 sl5 oc5 kV5 dc5 pm5 cd5 ct5)
  (a6:FD K "corners" vc f6 od6 an6 sl6 oc6 kV6 dc6 pm6 cd6 ct6)
  (a7:FD K "cells_at" qx f7 od7 an7 sl7 oc7 kV7 dc7 pm7 cd7 ct7)
  (a8:FD K "ask_table" jI f8 od8 an8 sl8 oc8 kV8 dc8 pm8 cd8 ct8)
  (a9:FD K "fits" adm f9 od9 an9 sl9 oc9 kV9 dc9 pm9 cd9 ct9)
  (a10:FD K "is_row" aah f10 od10 an10 sl10 oc10 kV10 dc10 pm10 cd10 ct10)
  (a11:FD K "gates" aaT f11 od11 an11 sl11 oc11 kV11 dc11 pm11 cd11 ct11)
  (a12:FD K "stands_high" y7 f12 od12 an12 sl12 oc12 kV12 dc12 pm12 cd12 ct12)
  (a13:FD K "gate_points" y8 f13 od13 an13 sl13 oc13 kV13 dc13 pm13 cd13 ct13)
  (a14:FD K "has_gate" qy f14 od14 an14 sl14 oc14 kV14 dc14 pm14 cd14 ct14)
  (a15:FD K "is_open" vd f15 od15 an15 sl15 oc15 kV15 dc15 pm15 cd15 ct15)
  (a16:FD K "cell_gates" jl f16 od16 an16 sl16 oc16 kV16 dc16 pm16 cd16 ct16)
  (a17:FD K "is_crossed" jm f17 od17 an17 sl17 oc17 kV17 dc17 pm17 cd17 ct17)
  (a18:FD K "has_high_middle" yz f18 od18 an18 sl18 oc18 kV18 dc18 pm18 cd18 ct18)
  (a19:FD K "cell_ties" jJ f19 od19 an19 sl19 oc19 kV19 dc19 pm19 cd19 ct19)
  (a20:FD K "crossed_ties" yU f20 od20 an20 sl20 oc20 kV20 dc20 pm20 cd20 ct20)
  (a21:FD K "heading" ve f21 od21 an21 sl21 oc21 kV21 dc21 pm21 cd21 ct21)
  (a22:FD K "cell_ahead" jn f22 od22 an22 sl22 oc22 kV22 dc22 pm22 cd22 ct22)
  (a23:FD K "comes_in" qz f23 od23 an23 sl23 oc23 kV23 dc23 pm23 cd23 ct23)
  (a24:FD K "gate_ahead" jo f24 od24 an24 sl24 oc24 kV24 dc24 pm24 cd24 ct24)
  (a25:FD K "lines" aaU f25 od25 an25 sl25 oc25 kV25 dc25 pm25 cd25 ct25)
  (a26:FD K "line_from" jK f26 od26 an26 sl26 oc26 kV26 dc26 pm26 cd26 ct26)
  (a27:FD K "crossed" vf f27 od27 an27 sl27 oc27 kV27 dc27 pm27 cd27 ct27)
  (a28:FD K "holds" aaV f28 od28 an28 sl28 oc28 kV28 dc28 pm28 cd28 ct28)
  (a29:FD K "lies_in" vg f29 od29 an29 sl29 oc29 kV29 dc29 pm29 cd29 ct29)
  (a30:FD K "rings_round" y9 f30 od30 an30 sl30 oc30 kV30 dc30 pm30 cd30 ct30)
  (a31:FD K "regions" vh f31 od31 an31 sl31 oc31 kV31 dc31 pm31 cd31 ct31)
  (a32:FD K "sides" aaW f32 od32 an32 sl32 oc32 kV32 dc32 pm32 cd32 ct32)
  (a33:FD K "indexes" vi f33 od33 an33 sl33 oc33 kV33 dc33 pm33 cd33 ct33)
  (a34:FD K "all_joined" jq f34 od34 an34 sl34 oc34 kV34 dc34 pm34 cd34 ct34)
  (a35:FD K "joined" aaj f35 od35 an35 sl35 oc35 kV35 dc35 pm35 cd35 ct35)
  (a36:FD K "_law_feed" qA f36 od36 an36 sl36 oc36 kV36 dc36 pm36 cd36 ct36)
  (a37:FD K "_law_draw" qB f37 od37 an37 sl37 oc37 kV37 dc37 pm37 cd37 ct37)
  (a38:FD K "_law_height" jr f38 od38 an38 sl38 oc38 kV38 dc38 pm38 cd38 ct38)
  (a39:FD K "_law_table" jL f39 od39 an39 sl39 oc39 kV39 dc39 pm39 cd39 ct39)
  (a40:FD K "_law_cut" vj f40 od40 an40 sl40 oc40 kV40 dc40 pm40 cd40 ct40)
  (a41:FD K "_law_reached" ja f41 od41 an41 sl41 oc41 kV41 dc41 pm41 cd41 ct41)
  (a42:FD K "_law_at_edge" jb f42 od42 an42 sl42 oc42 kV42 dc42 pm42 cd42 ct42)
  (a43:FD K "_law_right" jM f43 od43 an43 sl43 oc43 kV43 dc43 pm43 cd43 ct43)
  (a44:FD K "law" aaH f44 od44 an44 sl44 oc44 kV44 dc44 pm44 cd44 ct44)
  {ubt:Tok} (uaM:ao9 K mainGlobals "FEWEST"=some (some (.int (2) ubt)))
  {ubu:Tok} (uaN:ao9 K mainGlobals "MOST"=some (some (.int (7) ubu)))
  {ubv:Tok} (uaO:ao9 K mainGlobals "LEAST"=some (some (.int (-1000000000) ubv)))
  {ubw:Tok} (uaP:ao9 K mainGlobals "GREATEST"=some (some (.int (1000000000) ubw)))
  (uaQ:ao9 K mainGlobals "len"=some none)
  (uaR:ao9 K mainGlobals "min"=some none)
  (uaS:ao9 K mainGlobals "max"=some none)
  (uaT:ao9 K mainGlobals "enumerate"=some none)
  (uaU:ao9 K mainGlobals "range"=some none)
  (uaV:ao9 K mainGlobals "all"=some none)
  (uaW:ao9 K mainGlobals "sum"=some none)
  (uaX:ao9 K mainGlobals "tuple"=some none)
  (uaY:ao9 K mainGlobals "set"=some none)
  (uaZ:ao9 K mainGlobals "sorted"=some none)
  (ua0:ao9 K mainGlobals "abs"=some none)
  {uau:Addr} (ua1:ao9 K mainGlobals "AHEAD"=some (some (.ref uau)))
  {uaw:Addr} (ua2:ao9 K mainGlobals "BEHIND"=some (some (.ref uaw)))
  (uav:ahG K uau am4=true)
  (uax:ahG K uaw ajC=true) :
  ∃ fd:FuncData,(∀ (s:Shared) (v:Value),BindsTo s fd ⟨[v],[]⟩ [("_law_script",v)])/\∀ base:Heap,K.In base->base.Ns mainGlobals mg->FnOk l.prog w K mg base CX0 11 fa fd pS (ag5 K):=by
 have ubx:Def K mg "size" adk pz:=yg X G a1 (by walk_at "f")
 have uby:Def K mg "points" aag pz:=yg X G a2 (by walk_at "f")
 have ubz:Def K mg "has_point" jH pj:=yg X G a3 (by walk_at "f")
 have ubA:Def K mg "neighbours" jk pj:=yg X G a4 (by walk_at "f")
 have ubB:Def K mg "has_cell" qw pj:=yg X G a5 (by walk_at "f")
 have ubC:Def K mg "corners" vc pI:=yg X G a6 (by walk_at "f")
 have ubD:Def K mg "cells_at" qx pj:=yg X G a7 (by walk_at "f")
 have ubE:Def K mg "ask_table" jI pz:=yg X G a8 (by walk_at "f")
 have ubF:Def K mg "fits" adm pG:=yg X G a9 (by walk_at "f")
 have ubG:Def K mg "is_row" aah ["row"]:=yg X G a10 (by walk_at "f")
 have ubH:Def K mg "gates" aaT pf:=yg X G a11 (by walk_at "f")
 have ubI:Def K mg "stands_high" y7 pA:=yg X G a12 (by walk_at "f")
 have ubJ:Def K mg "gate_points" y8 ["gate"]:=yg X G a13 (by walk_at "f")
 have ubK:Def K mg "has_gate" qy pJ:=yg X G a14 (by walk_at "f")
 have ubL:Def K mg "is_open" vd ph:=yg X G a15 (by walk_at "f")
 have ubM:Def K mg "cell_gates" jl ["cell"]:=yg X G a16 (by walk_at "f")
 have ubN:Def K mg "is_crossed" jm pq:=yg X G a17 (by walk_at "f")
 have ubO:Def K mg "has_high_middle" yz pq:=yg X G a18 (by walk_at "f")
 have ubP:Def K mg "cell_ties" jJ pq:=yg X G a19 (by walk_at "f")
 have ubQ:Def K mg "crossed_ties" yU pq:=yg X G a20 (by walk_at "f")
 have ubR:Def K mg "heading" ve ph:=yg X G a21 (by walk_at "f")
 have ubS:Def K mg "cell_ahead" jn ph:=yg X G a22 (by walk_at "f")
 have ubT:Def K mg "comes_in" qz ph:=yg X G a23 (by walk_at "f")
 have ubU:Def K mg "gate_ahead" jo ph:=yg X G a24 (by walk_at "f")
 have ubV:Def K mg "lines" aaU pf:=yg X G a25 (by walk_at "f")
 have ubW:Def K mg "line_from" jK pC:=yg X G a26 (by walk_at "f")
 have ubX:Def K mg "crossed" vf pB:=yg X G a27 (by walk_at "f")
 have ubY:Def K mg "holds" aaV pB:=yg X G a28 (by walk_at "f")
 have ubZ:Def K mg "lies_in" vg pf:=yg X G a29 (by walk_at "f")
 have ub0:Def K mg "rings_round" y9 pL:=yg X G a30 (by walk_at "f")
 have ub1:Def K mg "regions" vh pf:=yg X G a31 (by walk_at "f")
 have ub2:Def K mg "sides" aaW pf:=yg X G a32 (by walk_at "f")
 have ub3:Def K mg "indexes" vi pf:=yg X G a33 (by walk_at "f")
 have ub4:Def K mg "all_joined" jq pC:=yg X G a34 (by walk_at "f")
 have ub5:Def K mg "joined" aaj pA:=yg X G a35 (by walk_at "f")
 have ub6:Def K mg "_law_feed" qA pM:=yg X G a36 (by walk_at "f")
 have ub7:Def K mg "_law_draw" qB pH:=yg X G a37 (by walk_at "f")
 have ub8:Def K mg "_law_height" jr pK:=yg X G a38 (by walk_at "f")
 have ub9:Def K mg "_law_table" jL pN:=yg X G a39 (by walk_at "f")
 have uca:Def K mg "_law_cut" vj pO:=yg X G a40 (by walk_at "f")
 have ucb:Def K mg "_law_reached" ja pP:=yg X G a41 (by walk_at "f")
 have ucc:Def K mg "_law_at_edge" jb pQ:=yg X G a42 (by walk_at "f")
 have ucd:Def K mg "_law_right" jM pR:=yg X G a43 (by walk_at "f")
 have uce:Def K mg "law" aaH pS:=yg X G a44 (by walk_at "f")
 have uan:=apL X G uaM
 have uao:=apL X G uaN
 have uap:=apL X G uaO
 have uaq:=apL X G uaP
 have uaa:=ape X G uaQ
 have uae:=ape X G uaR
 have uai:=ape X G uaS
 have uaf:=ape X G uaT
 have uab:=ape X G uaU
 have uaj:=ape X G uaV
 have uaD:=ape X G uaW
 have uah:=ape X G uaX
 have ual:=ape X G uaY
 have uam:=ape X G uaZ
 have uaL:=ape X G ua0
 have uaG:=apL X G ua1
 have uaI:=apL X G ua2
 have e:=hfa.symm.trans (apL X G a44.1)
 cases e
 have F0:=afc (st:=aaH) a44.2.1 a44.2.2.1 a44.2.2.2
 refine⟨apV "law" "law" (qj aaH) (yK aaH) (zj aaH) .none kV44 dc44 pm44 an44 cd44 ct44,fun s v=>.of_eq rfl,fun base _ _=>?_⟩
 have H0:=alF (P:=l.prog) (w:=w) (base:=base) (k:=0) ub6 uaa uaL
 have H1:=ak5 (P:=l.prog) (w:=w) (base:=base) (k:=0) ub7
 have H2:=ak4 (P:=l.prog) (w:=w) (base:=base) (k:=0) ubF uaa ⟨_,uan⟩ ⟨_,uao⟩
 have H3:=ak3 (P:=l.prog) (w:=w) (base:=base) (k:=0) ubx uaa
 have H4:=ak6 (P:=l.prog) (w:=w) (base:=base) (k:=0) ubI
 have H5:=am0 (P:=l.prog) (w:=w) (base:=base) (k:=0) ubJ
 have H6:=ahX (P:=l.prog) (w:=w) (base:=base) (k:=0) ubM
 have H7:=afA (P:=l.prog) (w:=w) (base:=base) (k:=0) ubC
 have H8:=ank (P:=l.prog) (w:=w) (base:=base) (k:=0) ubX uaa
 have H9:=alH (P:=l.prog) (w:=w) (base:=base) (k:=0) ucc uaa
 have H10:=afV (P:=l.prog) (w:=w) (base:=base) (k:=0) ucb uab
 have H11:=ahU (k:=1) ub8 uae H1.m
 have H12:=am1 (k:=1) uca uaa H1.m
 have H13:=ahT (k:=1) ubG uae uai ⟨_,uap⟩ ⟨_,uaq⟩ H2.m
 have H14:=ahV (k:=1) uby uab H3.m
 have H15:=amZ (k:=1) ubz H3.m
 have H16:=am3 (k:=1) ubO uaD H7.m
 have H17:=afD (k:=1) ubR H4.m
 have H18:=aj6 (k:=1) ubY H8.m
 have H19:=aju (k:=2) ub9 uab H1.m H11.m
 have H20:=amY (k:=2) ubE uaa uaf H2.m H13.m
 have H21:=anM (k:=2) ubA H15.m
 have H22:=alc (k:=2) ubB H15.m
 have H23:=ak7 (k:=2) ubK uaj H15.m H5.m
 have H24:=ah0 (k:=2) ubS uaG uav H17.m
 have H25:=ahY (k:=2) ubQ H6.m H4.m H16.m
 have H26:=aj7 (k:=2) ub0 uah uaf H18.m
 have H27:=aki (k:=2) ucd uaa uab H18.m H9.m H10.m
 have H28:=anO (k:=3) ubD H22.m
 have H29:=ak8 (k:=3) ubL H23.m H5.m H4.m
 have H30:=ajE (k:=3) ubT uaI uax H17.m H22.m
 have H31:=afB (k:=4) ubN uaj H29.m H6.m
 have H32:=ajy (k:=4) ubH H20.m H14.m H29.m
 have H33:=alr (k:=5) ub5 H4.m H21.m H28.m H31.m H16.m
 have H34:=ajB (k:=5) ubP H31.m H25.m H6.m H29.m
 have H35:=als (k:=6) ub4 uam uah H33.m
 have H36:=alh (k:=6) ubU H24.m H22.m H34.m
 have H37:=alu (k:=7) ub1 ual H20.m H14.m H35.m H4.m
 have H38:=alk (k:=7) ubW uah H36.m
 have H39:=ajQ (k:=8) ubV ual uam H20.m H32.m H30.m H38.m
 have H40:=afM (k:=8) ub3 uaf H37.m
 have H41:=aj4 (k:=9) ub2 H20.m H40.m H39.m H5.m H4.m
 have H42:=alA (k:=9) ubZ uaa uab H20.m H39.m H26.m
 exact anm (k:=10) F0 uaa uab uai uae H0.m H19.m H12.m H37.m H39.m H41.m H42.m H27.m
theorem walk {l:PySem.W.OpenLaw} {q:Program} {loose:List Str} {XP:(Str->Option Value)->Heap->Prop} {YP:World->Heap->Prop} {d:DefRec} {K:Params->aol} (hn:l.most=some 63) (hdf:d.params.defaults=[])
  (hY:∀ (w:World) (h:Heap),YP w h->(K w.params).In h)
  (F:∀ (w:World) (mg:Str->Option Value) (fa:Addr) (h:Heap),(K w.params).In h->h.Ns mainGlobals mg->mg d.name=some (.ref fa) ->
   ∃ fd:FuncData,(∀ (s:Shared) (u:Value),BindsTo s fd ⟨[u],[]⟩ [("_law_script",u)])/\∀ base:Heap,(K w.params).In base->base.Ns mainGlobals mg->FnOk l.prog w (K w.params) mg base CX0 11 fa fd pS (ag5 (K w.params))) :
  PySem.W.WalkO q loose XP YP l.row.toRowW d [] (fun f vs=>PySem.call f vs) :=
 L2.walk_of (n:=63) (k:=11) (x:="_law_script") (CX:=fun _=>CX0) (sp:=fun w=>ag5 (K w.params)) hn (by decide) hdf ⟨rfl,by decide,by decide⟩ hY F (fun _ _ a ns hl _ hS=>⟨a,ns,rfl,hS,hl,fun _=>rfl⟩) fun _ _ _ _ _ z=>z
end My
def PySem.W.Fast.tw10067461070415920766:Nat:=0
def PySem.W.Fast.tw10894982664484649282:Nat:=0
def PySem.W.Fast.tw11888152129553784843:Nat:=0
def PySem.W.Fast.tw11927596622756719662:Nat:=0
def PySem.W.Fast.tw12380410629939971185:Nat:=0
def PySem.W.Fast.tw12508088598475058727:Nat:=0
def PySem.W.Fast.tw12628504472377114640:Nat:=0
def PySem.W.Fast.tw13397401241990596711:Nat:=0
def PySem.W.Fast.tw1341530786271781549:Nat:=0
def PySem.W.Fast.tw14272966340355736350:Nat:=0
def PySem.W.Fast.tw143535875502494940:Nat:=0
def PySem.W.Fast.tw14740095302097319406:Nat:=0
def PySem.W.Fast.tw14829374166098980955:Nat:=0
def PySem.W.Fast.tw15209159725734918211:Nat:=0
def PySem.W.Fast.tw15665270406850586836:Nat:=0
def PySem.W.Fast.tw15905454763178412557:Nat:=0
def PySem.W.Fast.tw17930892150387754186:Nat:=0
def PySem.W.Fast.tw18345528152472765805:Nat:=0
def PySem.W.Fast.tw1942822120283403273:Nat:=0
def PySem.W.Fast.tw2889142791569828488:Nat:=0
def PySem.W.Fast.tw2979485485895000327:Nat:=0
def PySem.W.Fast.tw3723615278923921721:Nat:=0
def PySem.W.Fast.tw402417170297068610:Nat:=0
def PySem.W.Fast.tw4440786568539064859:Nat:=0
def PySem.W.Fast.tw4840297126975865665:Nat:=0
def PySem.W.Fast.tw5033753116375999730:Nat:=0
def PySem.W.Fast.tw5329696441339504706:Nat:=0
def PySem.W.Fast.tw5670586436883582565:Nat:=0
def PySem.W.Fast.tw6071176358217390797:Nat:=0
def PySem.W.Fast.tw6415723229772657369:Nat:=0
def PySem.W.Fast.tw7508721016346365255:Nat:=0
def PySem.W.Fast.tw774344207809545414:Nat:=0
def PySem.W.Fast.tw7847239419410450654:Nat:=0
def PySem.W.Fast.tw8350746468185677159:Nat:=0
def PySem.W.Fast.tw9122695520344945567:Nat:=0
def PySem.W.Fast.tw9638917165600407896:Nat:=0
open PySem PySem.W PyProof.Rows
set_option maxRecDepth 100000 in
set_option maxHeartbeats 0 in
theorem PySem.Challenge.cw_heightrings_k26_whole_rings_by_the_tree_holds : PySem.Challenge.rw_heightrings_k26_whole_rings_by_the_tree.Holds := by
 w_on;o_law;k_head;(case hw=>w_witness2)
 k_fill
 refine My.walk (l:=PySem.Challenge.rw_heightrings_k26_whole_rings_by_the_tree) rfl rfl (fun w h Y=>by first | exact PySem.W.kIn_of Y | exact PySem.W.km_in_of Y) ?F
 case F =>
  intro w mg fa h KX G hmg
  refine' My.all_mk KX G hmg ?a1 ?a2 ?a3 ?a4 ?a5 ?a6 ?a7 ?a8 ?a9 ?a10 ?a11 ?a12 ?a13 ?a14 ?a15 ?a16 ?a17 ?a18 ?a19 ?a20 ?a21 ?a22 ?a23 ?a24 ?a25 ?a26 ?a27 ?a28 ?a29 ?a30 ?a31 ?a32 ?a33 ?a34 ?a35 ?a36 ?a37 ?a38 ?a39 ?a40 ?a41 ?a42 ?a43 ?a44 ?uaM ?uaN ?uaO ?uaP ?uaQ ?uaR ?uaS ?uaT ?uaU ?uaV ?uaW ?uaX ?uaY ?uaZ ?ua0 ?ua1 ?ua2 ?uav ?uax
  (case a1=>refine⟨?_,?_,?_,?_⟩ <;> k_is)
  (case a2=>refine⟨?_,?_,?_,?_⟩ <;> k_is)
  (case a3=>refine⟨?_,?_,?_,?_⟩ <;> k_is)
  (case a4=>refine⟨?_,?_,?_,?_⟩ <;> k_is)
  (case a5=>refine⟨?_,?_,?_,?_⟩ <;> k_is)
  (case a6=>refine⟨?_,?_,?_,?_⟩ <;> k_is)
  (case a7=>refine⟨?_,?_,?_,?_⟩ <;> k_is)
  (case a8=>refine⟨?_,?_,?_,?_⟩ <;> k_is)
  (case a9=>refine⟨?_,?_,?_,?_⟩ <;> k_is)
  (case a10=>refine⟨?_,?_,?_,?_⟩ <;> k_is)
  (case a11=>refine⟨?_,?_,?_,?_⟩ <;> k_is)
  (case a12=>refine⟨?_,?_,?_,?_⟩ <;> k_is)
  (case a13=>refine⟨?_,?_,?_,?_⟩ <;> k_is)
  (case a14=>refine⟨?_,?_,?_,?_⟩ <;> k_is)
  (case a15=>refine⟨?_,?_,?_,?_⟩ <;> k_is)
  (case a16=>refine⟨?_,?_,?_,?_⟩ <;> k_is)
  (case a17=>refine⟨?_,?_,?_,?_⟩ <;> k_is)
  (case a18=>refine⟨?_,?_,?_,?_⟩ <;> k_is)
  (case a19=>refine⟨?_,?_,?_,?_⟩ <;> k_is)
  (case a20=>refine⟨?_,?_,?_,?_⟩ <;> k_is)
  (case a21=>refine⟨?_,?_,?_,?_⟩ <;> k_is)
  (case a22=>refine⟨?_,?_,?_,?_⟩ <;> k_is)
  (case a23=>refine⟨?_,?_,?_,?_⟩ <;> k_is)
  (case a24=>refine⟨?_,?_,?_,?_⟩ <;> k_is)
  (case a25=>refine⟨?_,?_,?_,?_⟩ <;> k_is)
  (case a26=>refine⟨?_,?_,?_,?_⟩ <;> k_is)
  (case a27=>refine⟨?_,?_,?_,?_⟩ <;> k_is)
  (case a28=>refine⟨?_,?_,?_,?_⟩ <;> k_is)
  (case a29=>refine⟨?_,?_,?_,?_⟩ <;> k_is)
  (case a30=>refine⟨?_,?_,?_,?_⟩ <;> k_is)
  (case a31=>refine⟨?_,?_,?_,?_⟩ <;> k_is)
  (case a32=>refine⟨?_,?_,?_,?_⟩ <;> k_is)
  (case a33=>refine⟨?_,?_,?_,?_⟩ <;> k_is)
  (case a34=>refine⟨?_,?_,?_,?_⟩ <;> k_is)
  (case a35=>refine⟨?_,?_,?_,?_⟩ <;> k_is)
  (case a36=>refine⟨?_,?_,?_,?_⟩ <;> k_is)
  (case a37=>refine⟨?_,?_,?_,?_⟩ <;> k_is)
  (case a38=>refine⟨?_,?_,?_,?_⟩ <;> k_is)
  (case a39=>refine⟨?_,?_,?_,?_⟩ <;> k_is)
  (case a40=>refine⟨?_,?_,?_,?_⟩ <;> k_is)
  (case a41=>refine⟨?_,?_,?_,?_⟩ <;> k_is)
  (case a42=>refine⟨?_,?_,?_,?_⟩ <;> k_is)
  (case a43=>refine⟨?_,?_,?_,?_⟩ <;> k_is)
  (case a44=>refine⟨?_,?_,?_,?_⟩ <;> k_is)
  (case uaM=>k_is)
  (case uaN=>k_is)
  (case uaO=>k_is)
  (case uaP=>k_is)
  (case uaQ=>k_is)
  (case uaR=>k_is)
  (case uaS=>k_is)
  (case uaT=>k_is)
  (case uaU=>k_is)
  (case uaV=>k_is)
  (case uaW=>k_is)
  (case uaX=>k_is)
  (case uaY=>k_is)
  (case uaZ=>k_is)
  (case ua0=>k_is)
  (case ua1=>k_is)
  (case ua2=>k_is)
  (case uav=>kernel_rfl)
  (case uax=>kernel_rfl)
end
