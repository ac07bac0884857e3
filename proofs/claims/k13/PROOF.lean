import PyProof.Rows.All
import Wide.All
import OpenK.AllK
import Wide.FinOn
import Lean
import PyProof.EqAt
import PyProof.EqKinds
import PyProof.TupleCall
import KE.KTryMore
import PyProof.ExcArgs
import PyProof.ConsumeWalk
import PyProof.P3Eq
import KE.KRevIter
import PyProof.ListRange
import PyProof.Rows.SumAny
import KE.KSortTup
import PyProof.SetScanFacts
import PyProof.TupleKey
import PyProof.DictRoadsH
import PyProof.SetRoads
import KE.KTabLook
import PyProof.Rows.ListMul
import PyProof.InstStoreFacts
import PyProof.Rows.SetFrom
import PyProof.AutoListH
import PyProof.StrCalls2
import PySem.Challenge.RW_heightrings_k13_whole_lines_turned
open List renaming getElem?_eq_getElem → amf,length_map → amg,getElem?_eq_some_iff → ami,getD_eq_getElem?_getD → amj,getElem?_map → aml,mem_cons_self → amm,mem_cons_of_mem → amo,getElem?_append_left → amr,mem_cons → amu,size_toArray → amv,mem_of_getElem? → amw,getElem?_append_right → amx,mem_map → amz,length_cons → amB,range → amC,length_append → amD,getElem_mem → amE,mem_append_right → amF,map_cons → amG,getElem?_of_mem → amK,getElem?_eq_none → amL,mem_singleton → amM,mem_range → amN,map_append → amS,length_take → amW,length_range → amX,length_singleton → amY,length_reverse → amZ,lookup_cons → am0,mem_flatMap → am2,head?_eq_getElem? → am3,mem_append → am4,toArray → am8,map_map → am9,nodup_cons → anc,length_nil → ane,mem_append_left → anf,filter_cons → ang,getElem?_range → ani,append_nil → anj,getLast?_eq_getElem? → anm,take_length → anp,reverse_cons → ans,pairwise_map → ant,flatMap_append → anv,getElem_of_mem → anw,getElem?_set_self → anx,all_eq_true → anD,mem_reverse → anE,not_mem_nil → anG,filter_append → anI,getElem?_reverse → anJ,length_filter_le → anK,pairwise_iff_getElem → anL,mem_filter → anN,map_eq_nil_iff → anT,getElem?_replicate → anV,length_drop → anW,zip_cons_cons → aoc,take_append_drop → aof,ext_getElem? → aog,nodup_append → aoh,append_assoc → aoi,mem_of_head? → aoj,getElem?_set_ne → aok,replicate → aol,nodup_nil → aon,drop_eq_getElem_cons → aoq,filterMap_cons → aor,reverse_append → aot,findSome?_cons → aou,getElem?_take_of_lt → aow,length_set → aoz,forIn_cons → aoA,pairwise_cons → aoB,forIn_nil → aoK,take_of_length_le → aoL,take_succ → aoP,length_replicate → aoQ,perm_append_comm → aoR,getElem_inj → aoS,mem_erase_of_ne → aoY,mem_of_getLast? → aoZ,find?_cons → ao3,range_succ → ao4,length_pos_iff → ao5,map_congr_left → ao6,map_nil → ao8,mem_filterMap → apb,length_erase_of_mem → apq,nodup_range → apt,map → apv,reverse_eq_nil_iff → apy,length_pos_of_mem → apE,of_mem_zip → apF,filter_nil → apG,take_zero → apO,reverse_reverse → apS,filter_flatMap → apW,all_cons → apX,map_take → apZ,map_drop → ap0,length → ap3
open Bool renaming false_ne_true → amh,and_eq_true → ams,false_eq_true → amR,not_true → am5,eq_iff_iff → aod,false_and → aoG,true_and → aoU,not_false → ape,not_eq_true → apu,and_false → apQ
open PySem.W renaming Frag → amk,nsIn → amU,mg_none_of → amV,keepIn → am7,mg_of → anC,fnOf → anP,findIn → anU,cellsFrom_some → anZ,codeIn → apc,methodObj → apk,specialIn → apl
open Nat renaming le_refl → amn,lt_of_lt_of_le → amJ,le_trans → amO,ne_of_lt → amQ,zero_le → amT,le_of_lt → anb,lt_succ_of_lt → anh,not_lt_zero → ank,lt_irrefl → anB,lt_succ_iff_lt_or_eq → anR,le_of_eq → an0,sub_self → aoa,le_of_succ_le → aoH,succ_pos → aoI,lt_trans → aoM,lt_succ_of_le → aoO,lt_succ_self → aoT,lt_succ_iff → ao0,ne_of_gt → ao7,add_assoc → apn,zero_add → apA,lt_of_succ_lt_succ → apB,min_le_left → apH,le_of_ble_eq_true → apL,le_succ → ap4
open PySem.Heap renaming get?_push_of_some → amq,lt_size → amA,get?_push_size → amH,get?_update_other → amP,get?_update_self → ana,SameBut → anO,size_push → aoJ,get?_none_of_le → aoV,ExtBut → ap5
open PySem.PyData renaming depthAll → amt,eqv → amI,canLayAll0 → anQ,eqvAll → apm,depth → ap1
open Array renaming length_toList → amy,getD_eq_getD_getElem? → anA,getD → aob,forIn_toList → aoC,mem_toList_iff → aoW,replicate → ao2,getElem?_eq_some_iff → apd,getElem?_eq_getElem → aph,getElem?_toList → apI,size_map → apP
open PySem renaming boot_len → am1,mem_of_lookup → anS
open Classical renaming propDecidable → am6,byContradiction → anl
open PySem.SeqAt.ReadsAll renaming length → ano
open Ne renaming symm → anq
open Int renaming toNat_natCast → anr,emod_lt_of_pos → anH,emod_nonneg → ao1,eq_ofNat_of_zero_le → apx,le_trans → apD,toNat → ap2
open PySem.F renaming slot_tuple_hash → anu,plain_min_loop → anF,slot_set_contains → aop,plainAttrs_list → aoE,plain_reversed_new → aoX,slot_dict_getitem → api,slot_list_append → apr,type_list_append → aps,entry_min_loop → apw,args_list_append_2 → apN,slot_set_add → apR,slot_tuple_getitem → apU,entry_list_append → apV
open PyProof.Rows renaming callWith_type1 → anz,boot_sorted → aoy,boot_tuple → aoF,boot_all → apK
open PySem.Builtin.Tuple renaming tupleHashOf → anM
open False renaming elim → anY
open PySem.PassesOwn renaming never → aoe
open PySem.Obj renaming mapSeq → aom,data_mapFields → aoD,putSet → apC,isFreed_of_fields → apJ
open PySem.Around renaming under_plainId → aoo
open PySem.Heap.SameBut renaming update → aos
open Option renaming isSome_iff_exists → aov
open PySem.SetTable renaming toList_insertAt → aox,sizeAbove → apg,fill → apY
open PySem.SeqAt renaming eqv_refl → aoN
open PySem.Builtin.Builtins renaming bindParams → ao9
open PySem.Calls renaming Name_function_global → apa,callWith_builtin → apz,evalArgs_plain → apM
open PySem.Builtin.Frozenset renaming oneOther → apf,addrOf → apo
open PySem.Builtin.SmallTypes renaming nextOf → apj
open PyProof.Rows.KTD renaming datumAt → apT
set_option Elab.async false
set_option linter.all false
set_option maxRecDepth 100000
set_option maxHeartbeats 4000000
section
namespace L2
open PySem PySem.Spec PyProof.Rows
abbrev Key:=Sum Int Str
def ajJ:Key->Value->Bool
 | .inl k,v=>Value.isInt k v
 | .inr x,v=>Value.isStrOf x v
def al0 (w:World):Key->Int
 | .inl k=>hashInt k
 | .inr x=>hashStr w x
theorem z6:∀ {k:Key} {v:Value},ajJ k v=true->(∃ i t,k=Sum.inl i/\v=Value.int i t) \/ (∃ x t,k=Sum.inr x/\v=Value.str x t)
 | .inl i,v,h=>by
  obtain⟨t,e⟩:=Value.isInt_shape (k:=i) (v:=v) h
  exact .inl ⟨i,t,rfl,e⟩
 | .inr x,v,h=>by
  obtain⟨t,e⟩:=Value.isStrOf_shape (x:=x) (v:=v) h
  exact .inr ⟨x,t,rfl,e⟩
theorem akc (a b:Int):decide ((Sum.inl a:Key)=Sum.inl b)=(a == b):=by
 by_cases e:a=b
 ·subst e;simp
 ·have h:¬ (Sum.inl a:Key)=Sum.inl b:=fun q=>e (Sum.inl.inj q)
  rw [decide_eq_false h]
  exact (beq_eq_false_iff_ne.mpr e).symm
theorem akd (a b:Str):decide ((Sum.inr a:Key)=Sum.inr b)=decide (a=b):=by
 by_cases e:a=b
 ·subst e;simp
 ·have h:¬ (Sum.inr a:Key)=Sum.inr b:=fun q=>e (Sum.inr.inj q)
  rw [decide_eq_false h,decide_eq_false e]
theorem ake (a:Int) (b:Str):decide ((Sum.inl a:Key)=Sum.inr b)=false:=decide_eq_false (fun q=>nomatch q)
theorem akf (a:Str) (b:Int):decide ((Sum.inr a:Key)=Sum.inl b)=false:=decide_eq_false (fun q=>nomatch q)
def abr (prog:Program) (w:World):PySem.KeyKind prog w Key where
 is:=ajJ
 hash:=al0 w
 inj:=fun v a b ha hb=>by
  rcases z6 ha with⟨i,t,rfl,rfl⟩ | ⟨x,t,rfl,rfl⟩
  ·rcases z6 hb with⟨j,u,rfl,e⟩ | ⟨y,u,rfl,e⟩
   ·injection e with e1 _;rw [e1]
   ·exact nomatch e
  ·rcases z6 hb with⟨j,u,rfl,e⟩ | ⟨y,u,rfl,e⟩
   ·exact nomatch e
   ·injection e with e1 _;rw [e1]
 byValue:=fun k v h=>by
  rcases z6 h with⟨i,t,rfl,rfl⟩ | ⟨x,t,rfl,rfl⟩ <;> rfl
 pyHash:=fun hv h=>by
  rcases z6 hv with⟨i,t,rfl,rfl⟩ | ⟨x,t,rfl,rfl⟩
  ·exact wpAny_pyHash_int h
  ·exact wpAny_pyHash_str h
 eqBool:=fun hu hv h=>by
  rcases z6 hu with⟨i,t,rfl,rfl⟩ | ⟨x,t,rfl,rfl⟩
  ·rcases z6 hv with⟨j,u,rfl,rfl⟩ | ⟨y,u,rfl,rfl⟩
   ·rw [akc] at h;exact wpAny_eqBool_int h
   ·rw [ake] at h;exact SeqAt.EqAt.int_str i t y u _ _ _ _ h
  ·rcases z6 hv with⟨j,u,rfl,rfl⟩ | ⟨y,u,rfl,rfl⟩
   ·rw [akf] at h;exact SeqAt.EqAt.str_int x t j u _ _ _ _ h
   ·rw [akd] at h;exact wpAny_eqBool_str h
 «strs»:=fun k x t v h=>by
  rcases z6 h with⟨i,u,rfl,e⟩ | ⟨y,u,rfl,e⟩
  ·exact nomatch e
  ·injection e with e1 _
   subst e1
   cases v <;> rfl
inductive V where
 | non | bl (b:Bool) | int (i:Int) | str (x:Str) | byt (b:Array UInt8) | flt (b:UInt64) | ref (a:Addr) | ty (n:String)
 deriving DecidableEq
def RelV:V->Value->Prop
 | .non,u=>u=Value.none
 | .bl b,u=>u=Value.bool b
 | .int i,u=>∃ t,u=Value.int i t
 | .str x,u=>∃ t,u=Value.str x t
 | .byt b,u=>∃ t,u=Value.bytes b t
 | .flt b,u=>∃ t,u=Value.float b t
 | .ref a,u=>u=Value.ref a
 | .ty n,u=>u=Value.type n
abbrev Vals:List V->List Value->Prop:=Paired RelV
theorem Vals.length {xs:List V} {us:List Value} (r:Vals xs us):xs.length=us.length:=Paired.length r
theorem Vals.get:∀ {xs:List V} {us:List Value} {i:Nat} {x:V},Vals xs us->xs[i]?=some x->∃ u,us[i]?=some u/\RelV x u
 | _,_,_,_,.nil,e=>by simp at e
 | _,_,0,_,.cons r _,e=>by simp at e;subst e;exact⟨_,rfl,r⟩
 | _,_,i+1,x,.cons _ t,e=>by
  obtain⟨u,h1,h2⟩:=Vals.get (i:=i) (x:=x) t (by simpa using e)
  exact⟨u,by simpa using h1,h2⟩
theorem Vals.set {x:V} {u:Value} (r:RelV x u):∀ {xs:List V} {us:List Value} (i:Nat),Vals xs us->Vals (xs.set i x) (us.set i u)
 | _,_,_,.nil=>.nil
 | _,_,0,.cons _ t=>.cons r t
 | _,_,i+1,.cons q t=>.cons q (Vals.set r i t)
theorem Vals.append:∀ {xs ys:List V} {us ws:List Value},Vals xs us->Vals ys ws->Vals (xs++ys) (us++ws)
 | _,_,_,_,.nil,s=>s
 | _,_,_,_,.cons r t,s=>.cons r (Vals.append t s)
theorem Vals.take:∀ {xs:List V} {us:List Value} (n:Nat),Vals xs us->Vals (xs.take n) (us.take n)
 | _,_,0,_=>.nil
 | _,_,_+1,.nil=>.nil
 | _,_,n+1,.cons r t=>.cons r (Vals.take n t)
theorem Vals.drop:∀ {xs:List V} {us:List Value} (n:Nat),Vals xs us->Vals (xs.drop n) (us.drop n)
 | _,_,0,r=>r
 | _,_,_+1,.nil=>.nil
 | _,_,n+1,.cons _ t=>Vals.drop n t
def alv:Option V->Option Value->Prop
 | some v,some u=>RelV v u
 | none,none=>True
 | _,_=>False
def KV {κ:Type}:List (κ×V)->List (κ×Value)->Prop:=Paired fun (p:κ×V) (q:κ×Value)=>p.1=q.1/\RelV p.2 q.2
def kV:Key->V
 | .inl i=>.int i
 | .inr x=>.str x
inductive HO where
  | lst (xs:List V)
  | tup (xs:List V)
  | dK (kvs:List (Key×V)) | dT (kvs:List (List Key×V))
  | set (S:Int->Bool) (n:Nat)
  | ins (C dx:Addr) (fs:List (Str×V))
  | own (x:Addr)
  | xd (fs:List (Str×V))
  | met (f x:Addr)
  | rng (lo hi:Int)
  | frz (o:Obj) (u:HO)
  | tbl (ps:Array Value)
  | ext (φ:Heap->Prop)
abbrev Hp:=Addr->Option HO
def upd (H:Hp) (a:Addr) (o:HO):Hp:=fun b=>if b=a then some o else H b
theorem zA {H:Hp} {a:Addr} {o:HO}:upd H a o a=some o:=by unfold upd;rw [if_pos rfl]
theorem zy {H:Hp} {a b:Addr} {o:HO} (h:b≠a):upd H a o b=H b:=by unfold upd;rw [if_neg h]
theorem zI {H:Hp} {a b:Addr} {o:HO} (h:H a=some o) (h':H b=none):a≠b:=by
 intro e;subst e;rw [h] at h';cases h'
section
variable (P:Program) (w:World)
def ObjOk (H:Hp) (h:Heap) (a:Addr):HO->Prop
 | .lst xs=>xs.length<=sizeLine/\∃ (its:List Value) (n:Nat),Vals xs its/\h.get? a=some { cls:=.type "list",data:=.seq its.toArray n }
 | .tup xs=>xs.length<=sizeLine/\∃ its:List Value,Vals xs its/\IsTup h a its.toArray
 | .dK kvs=>kvs.length<=sizeLine/\(a == sysModules)=false/\∃ vs,KV kvs vs/\h.DictOf (abr P w) a vs
 | .dT kvs=>kvs.length<=sizeLine/\(a == sysModules)=false/\∃ xs:List (List Key×Addr×Value),
   Paired (fun (p:List Key×V) (q:List Key×Addr×Value)=>p.1=q.1/\H q.2.1=some (.tup (p.1.map kV))/\RelV p.2 q.2.2) kvs xs /\
   ∃ o es ep,h.get? a=some o/\o.ExactDict/\o.data=.dict es ep/\es.toList=xs.map (entryOfKey (tupleKind (abr P w)))/\(xs.map (·.1)).Nodup
 | .set S n=>h.SetOf (intKind P w) a S n
 | .ins C dx fs=>H dx=some (.own a)/\fs.length<=1000/\dx≠a/\h.get? a=some (PySem.W.instObj C dx) /\
   ∃ mA,h.Ns1 dx mA/\(∀ f,alv (fs.lookup f) (mA f))/\PySem.Within mA (fs.map (·.1))
 | .own _=>∃ o,h.get? a=some o
 | .xd fs=>∃ mA,h.Ns1 a mA/\∀ f,alv (fs.lookup f) (mA f)
 | .rng lo hi=>∃ t u v,h.get? a=some { cls:=.type "range",data:=.fields #[.int lo t,.int hi u,.int 1 v] }
 | .frz o u=>h.get? a=some o/\ObjOk H h a u
 | .tbl ps=>h.get? a=some { cls:=.none,data:=.fields ps }
 | .met f x=>h.get? a=some (apk (.ref f) (.ref x))
 | .ext φ=>φ h/\(∃ o,h.get? a=some o)/\∀ h1 h2:Heap,φ h1->(∀ o,h1.get? a=some o->h2.get? a=some o)->φ h2
def HOk (H:Hp) (h:Heap):Prop:=∀ a o,H a=some o->ObjOk P w H h a o
end
section
variable {P:Program} {w:World} {H H':Hp} {h h':Heap} {a:Addr} {o:HO}
theorem ObjOk.lt (x:ObjOk P w H h a o):a<h.objs.size:=by
 cases o with
 | lst xs=>obtain⟨_,_,_,_,e⟩:=x;exact amA e
 | tup xs=>obtain⟨_,_,_,p⟩:=x;exact p.lt
 | dK kvs=>obtain⟨_,_,_,_,o,_,_,e,_⟩:=x;exact amA e
 | dT kvs=>obtain⟨_,_,_,_,o,_,_,e,_⟩:=x;exact amA e
 | set S n=>obtain⟨o,_,_,_,e,_⟩:=x;exact amA e
 | ins C dx fs=>obtain⟨_,_,_,e,_⟩:=x;exact amA e
 | own y=>obtain⟨_,e⟩:=x;exact amA e
 | xd fs=>obtain⟨_,⟨_,_,_,e,_⟩,_⟩:=x;exact amA e
 | rng lo hi=>obtain⟨_,_,_,e⟩:=x;exact amA e
 | frz ob u=>obtain⟨e,_⟩:=x;exact amA e
 | tbl ps=>exact amA (show h.get? a=some _ from x)
 | met f y=>exact amA (show h.get? a=some _ from x)
 | ext φ=>obtain⟨_,⟨_,e⟩,_⟩:=x;exact amA e
theorem Paired.mapP {α β:Type} {F G:α->β->Prop}:∀ {l₁:List α} {l₂:List β},Paired F l₁ l₂->(∀ a b,F a b->G a b)->Paired G l₁ l₂
 | _,_,.nil,_=>.nil
 | _,_,.cons r t,f=>.cons (f _ _ r) (Paired.mapP t f)
theorem ObjOk.stay (x:ObjOk P w H h a o) (k:∀ b u,(b=a \/ H b=some (.own a))->h.get? b=some u->h'.get? b=some u)
  (ho:∀ b,H b=some (.own a)->H' b=some (.own a)) (ht:∀ b xs,H b=some (.tup xs)->H' b=some (.tup xs)):ObjOk P w H' h' a o:=by
 induction o with
 | lst xs=>obtain⟨z,its,n,r,e⟩:=x;exact⟨z,its,n,r,k _ _ (.inl rfl) e⟩
 | tup xs=>obtain⟨z,its,r,ob,e,c⟩:=x;exact⟨z,its,r,ob,k _ _ (.inl rfl) e,c⟩
 | dK kvs=>obtain⟨z,y,vs,r,ob,es,ep,e,c⟩:=x;exact⟨z,y,vs,r,ob,es,ep,k _ _ (.inl rfl) e,c⟩
 | dT kvs =>
  obtain⟨z,y,xs,r,ob,es,ep,e,c⟩:=x
  exact⟨z,y,xs,Paired.mapP r fun p q z=>⟨z.1,ht _ _ z.2.1,z.2.2⟩,ob,es,ep,k _ _ (.inl rfl) e,c⟩
 | set S n=>obtain⟨ob,es,ep,t,e,c⟩:=x;exact⟨ob,es,ep,t,k _ _ (.inl rfl) e,c⟩
 | ins C dx fs =>
  obtain⟨d,z,ne,e,mA,⟨od,es,ep,e2,c⟩,r⟩:=x
  exact⟨ho _ d,z,ne,k _ _ (.inl rfl) e,mA,⟨od,es,ep,k _ _ (.inr d) e2,c⟩,r⟩
 | own y=>obtain⟨ob,e⟩:=x;exact⟨ob,k _ _ (.inl rfl) e⟩
 | xd fs=>obtain⟨mA,⟨od,es,ep,e,c⟩,r⟩:=x;exact⟨mA,⟨od,es,ep,k _ _ (.inl rfl) e,c⟩,r⟩
 | rng lo hi=>obtain⟨t,u,v,e⟩:=x;exact⟨t,u,v,k _ _ (.inl rfl) e⟩
 | frz ob u ih=>obtain⟨e,q⟩:=x;exact⟨k _ _ (.inl rfl) e,ih q⟩
 | tbl ps =>
  have e:h.get? a=some { cls:=.none,data:=.fields ps }:=x
  show h'.get? a=some { cls:=.none,data:=.fields ps }
  exact k a _ (.inl rfl) e
 | met f y =>
  have e:h.get? a=some (apk (.ref f) (.ref y)):=x
  show h'.get? a=some (apk (.ref f) (.ref y))
  exact k a _ (.inl rfl) e
 | ext φ=>obtain⟨p,⟨o,e⟩,st⟩:=x;exact⟨st _ _ p fun o q=>k _ _ (.inl rfl) q,⟨o,k _ _ (.inl rfl) e⟩,st⟩
theorem HOk.lt (x:HOk P w H h) (e:H a=some o):a<h.objs.size:=(x a o e).lt
theorem HOk.fresh (x:HOk P w H h) (e:h.objs.size<=a):H a=none:=by
 cases q:H a with
 | none=>rfl
 | some u=>exact absurd (amJ (x.lt q) e) (anB _)
theorem HOk.kept (x:HOk P w H h) (k:∀ b u,h.get? b=some u->h'.get? b=some u):HOk P w H h':=fun a o e =>
 (x a o e).stay (fun b u _ q=>k b u q) (fun _ q=>q) fun _ _ q=>q
theorem HOk.laid (x:HOk P w H h) (k:∀ b u,h.get? b=some u->h'.get? b=some u) (hp:h.objs.size<=a) (new:ObjOk P w (upd H a o) h' a o):HOk P w (upd H a o) h':=fun b u e=>by
 have hn:=x.fresh hp
 by_cases hb:b=a
 ·subst hb;rw [zA] at e;cases e;exact new
 ·rw [zy hb] at e
  exact (x b u e).stay (fun c v _ q=>k c v q) (fun c q=>by rw [zy (zI q hn)];exact q) fun c xs q=>by rw [zy (zI q hn)];exact q
end
def Rd (H:Hp) (a:Addr) (u:HO):Prop:=H a=some u \/ ∃ o,H a=some (.frz o u)
theorem Rd.ok {P:Program} {w:World} {H:Hp} {h:Heap} {a:Addr} {u:HO} (r:Rd H a u) (x:HOk P w H h):ObjOk P w H h a u:=by
 rcases r with r | ⟨o,r⟩
 ·exact x a u r
 ·obtain⟨_,q⟩:=x a _ r
  exact q
def Mut:Option HO->Prop
 | some (.lst _)=>True
 | some (.dK _)=>True
 | some (.dT _)=>True
 | some (.set _ _)=>True
 | some (.ins _ _ _)=>True
 | some (.ext _)=>True
 | _=>False
section
variable {P:Program} {w:World} {H:Hp} {h h':Heap} {x e:Addr} {o':HO}
theorem HOk.write (ok:HOk P w H h) (mu:Mut (H x)) (he:e=x \/ H e=some (.own x)) (k:∀ b u,b≠e->h.get? b=some u->h'.get? b=some u) (heo:∃ u,h'.get? e=some u)
  (new:ObjOk P w (upd H x o') h' x o'):HOk P w (upd H x o') h':=fun b u q=>by
 have nown:∀ c y,H c=some (.own y)->c≠x:=fun c y r z=>by subst z;rw [r] at mu;exact mu
 have ntup:∀ c xs,H c=some (.tup xs)->c≠x:=fun c xs r z=>by subst z;rw [r] at mu;exact mu
 by_cases hb:b=x
 ·subst hb;rw [zA] at q;cases q;exact new
 ·rw [zy hb] at q
  by_cases hbe:b=e
  ·have q':H b=some (.own x):=by
    rcases he with z | z
    ·exact absurd (hbe.trans z) hb
    ·rw [hbe];exact z
   rw [q] at q';cases q'
   obtain⟨v,hv⟩:=heo
   exact⟨v,by rw [hbe];exact hv⟩
  ·refine (ok b u q).stay (fun c v hc r=>k c v ?_ r) (fun c r=>by rw [zy (nown c b r)];exact r) fun c xs r=>by rw [zy (ntup c xs r)];exact r
   rcases hc with rfl | hc
   ·exact hbe
   ·rintro rfl
    rcases he with z | z
    ·exact nown c b hc z
    ·rw [hc] at z;cases z;exact hb rfl
end
structure Un (fs ex:List Addr) (H H':Hp) (h h':Heap):Prop where
 keep:∀ b o,h.get? b=some o->H b=none->b∉fs->b∉ex->h'.get? b=some o
 slot:∀ b o,h.get? b=some o->H b=none->b∈fs->b∉ex->∃ sl,h'.get? b=some { o with slots:=sl }
 free:∀ b o,h.get? b=some o->H b=none->b∉ex->H' b=none
 there:∀ b o,h.get? b=some o->b∉ex->∃ o',h'.get? b=some o'
 tups:∀ b xs,H b=some (.tup xs)->H' b=some (.tup xs)
 frzs:∀ b o u,H b=some (.frz o u)->H' b=some (.frz o u)
 tbls:∀ b ps,H b=some (.tbl ps)->∃ more,H' b=some (.tbl (ps++more))
section
variable {fs fs' ex ex':List Addr} {H H1 H2:Hp} {h h1 h2 h':Heap} {a x e:Addr} {o:HO}
theorem Un.any (u:Un fs ex H H1 h h1) {b:Addr} {ob:Obj} (q:h.get? b=some ob) (n:H b=none) (hx:b∉ex):∃ sl,h1.get? b=some { ob with slots:=sl }:=by
 by_cases hb:b∈fs
 ·exact u.slot b ob q n hb hx
 ·exact⟨ob.slots,u.keep b ob q n hb hx⟩
theorem Un.kept (k:∀ b u,h.get? b=some u->h'.get? b=some u):Un fs ex H H h h' :=
 ⟨fun b ob q _ _ _=>k b ob q,fun b ob q _ _ _=>⟨ob.slots,k b ob q⟩,fun _ _ _ n _=>n,fun b ob q _=>⟨ob,k b ob q⟩,fun _ _ q=>q,fun _ _ _ q=>q,fun _ ps q=>⟨#[],by rw [q];simp⟩⟩
theorem Un.refl:Un fs ex H H h h:=Un.kept fun _ _ q=>q
theorem Un.laid (k:∀ b u,h.get? b=some u->h'.get? b=some u) (hp:h.objs.size<=a) (hn:H a=none):Un fs ex H (upd H a o) h h' where
 keep:=fun b u q _ _ _=>k b u q
 slot:=fun b u q _ _ _=>⟨u.slots,k b u q⟩
 free:=fun b u q n _=>by rw [zy (amQ (amJ (amA q) hp))];exact n
 there:=fun b u q _=>⟨u,k b u q⟩
 tups:=fun b xs q=>by rw [zy (zI q hn)];exact q
 frzs:=fun b u xs q=>by rw [zy (zI q hn)];exact q
 tbls:=fun b ps q=>⟨#[],by rw [zy (zI q hn),q];simp⟩
theorem Un.write (mu:Mut (H x)) (he:e=x \/ H e=some (.own x)) (k:∀ b u,b≠e->h.get? b=some u->h'.get? b=some u) (heo:∃ u,h'.get? e=some u):Un fs ex H (upd H x o) h h':=by
 have hx:∀ b,H b=none->b≠x:=fun b n z=>by subst z;rw [n] at mu;exact mu
 have hb:∀ b,H b=none->b≠e:=fun b n z=>by
  subst z
  rcases he with r | r
  ·exact hx b n r
  ·rw [n] at r;cases r
 have hm:∀ b u,H b=some u->¬ Mut (some u)->b≠x:=fun b u q nm z=>by subst z;rw [q] at mu;exact nm mu
 refine⟨fun b u q n _ _=>k b u (hb b n) q,fun b u q n _ _=>⟨u.slots,k b u (hb b n) q⟩,fun b u q n _=>by rw [zy (hx b n)];exact n,fun b u q _=>?_,
  fun b xs q=>by rw [zy (hm b _ q fun z=>z)];exact q,fun b u xs q=>by rw [zy (hm b _ q fun z=>z)];exact q,fun b ps q=>⟨#[],by rw [zy (hm b _ q fun z=>z),q];simp⟩⟩
 by_cases hbe:b=e
 ·subst hbe;exact heo
 ·exact⟨u,k b u hbe q⟩
end
def trk (h:Heap) (H:Hp):List Addr:=(amC h.objs.size).filter fun a=>(H a).isSome
def abt (h:Heap) (H:Hp):Heap:=PySem.W.hideAll h (trk h H)
theorem afG (h:Heap) (H:Hp):(abt h H).objs.size=h.objs.size:=PySem.W.hideAll_size _ _
theorem agC {h:Heap} {H:Hp} {b:Addr} {o:Obj} (e:h.get? b=some o) (n:H b=none):(abt h H).get? b=some o :=
 PySem.W.hideAll_get _ e fun hm=>by
  have q:(H b).isSome=true:=(anN.mp hm).2
  rw [n] at q;simp at q
theorem ain {h:Heap} {H:Hp} {b:Addr} {o:Obj} (e:(abt h H).get? b=some o):h.get? b=some o/\H b=none:=by
 have e':h.get? b=some o:=PySem.W.of_hideAll (trk h H) e
 refine⟨e',?_⟩
 cases q:H b with
 | none=>rfl
 | some x =>
  have hm:b∈trk h H:=anN.mpr ⟨amN.mpr (amA e'),by simp [q]⟩
  have z:(abt h H).get? b=none:=PySem.W.hideAll_none (trk h H) hm
  rw [z] at e;cases e
def aio (g h:Heap) (L:Addr):List (Addr×Obj):=(amC h.objs.size).filterMap fun a=>if a=L \/ (g.get? a).isSome=true then none else (h.get? a).map fun o=>(a,o)
def rest (g h:Heap) (L d:Addr):List (Addr×Obj):=(aio g h L).filter fun p=>decide (p.1≠d)
structure Mod (K:amk) (mg:Str->Option Value) (base:Heap):Prop where
 kin:K.In base
 glob:base.Ns mainGlobals mg
 blt:∃ mb,base.Ns builtinsNs mb/\∀ x:Str,x ≠ "__name__"->mb x=bootBuiltins x
 nolimit:base.NoLimit
structure Cx where
 prog:Program
 w:World
 K:amk
 mg:Str->Option Value
 base:Heap
 A:Around
 N:List Str
 s₀:Shared
 H₀:Hp
 env:Env
 outer:List Env
 stack:List Env
 ex:List Addr
 fn:Str->Bool
 calm:Bool
 pn:List (Addr×Obj)
 xe:Value->Shared->Prop
def frs (l:List Env):List Addr:=l.filterMap (·.frame)
abbrev Cx.fs (X:Cx):List Addr:=frs X.outer
def Vis (sc:Scope) (x:Str):Prop:=sc.names.lookup x=some .local \/ sc.names.lookup x=some .cell \/ sc.names.lookup x=some .free
def Loc (sc:Scope) (x:Str):Prop:=sc.names.lookup x=some .local \/ sc.names.lookup x=some .cell
def Look (env:Env) (h:Heap) (m:Str->Option Value) (x:Str) (u:Value):Prop :=
 (env.kindOf x=some .local/\m x=some u) \/ ((env.kindOf x=some .cell \/ env.kindOf x=some .free)/\∃ c,env.cells.lookup x=some c/\h.IsCell c (some u))
structure Cx.Ok (X:Cx):Prop where
 mod:Mod X.K X.mg X.base
 kind:X.env.scope.kind=.function
 glob:X.env.globals=mainGlobals
 blt:X.env.builtins=builtinsNs
 above:X.s₀.heap.objs.size<=X.env.locals
 inj:∀ x y c,X.env.cells.lookup x=some c->X.env.cells.lookup y=some c->x=y
 has:∀ x,(X.env.kindOf x=some .cell \/ X.env.kindOf x=some .free)->∃ c,X.env.cells.lookup x=some c
 cab:∀ x c,X.fn x=true->X.env.cells.lookup x=some c->X.s₀.heap.objs.size<=c
 hd:X.calm=true->X.A.handled=none
 frames:X.A.frames=some X.stack
 stk:X.stack=X.outer \/ (X.stack=X.env :: X.outer/\X.env.frame=some X.env.locals)
 exf:∀ b∈X.ex,b≠X.env.locals/\∀ x c,X.env.cells.lookup x=some c->c≠b
 bs:∀ b o,X.base.get? b=some o->X.s₀.heap.get? b=some o/\X.H₀ b=none
 bsz:X.base.objs.size<=X.s₀.heap.objs.size
 noex:∀ b o,X.base.get? b=some o->b∉X.ex
 exfs:∀ b∈X.ex,b∉X.fs
 funs:X.s₀.heap.FunFrames X.base X.outer
 frf:∀ b∈X.fs,X.H₀ b=none
structure Inv (X:Cx) (pins:List (Addr×Obj)) (σ:List (Option V)) (H:Hp) (s:Shared):Prop where
 ok:X.Ok
 os:s.os=X.s₀.os
 bare:AllBare s.gens
 base:Un X.fs X.ex X.H₀ H X.s₀.heap s.heap
 loc:∃ m,s.heap.Ns X.env.locals m/\∀ (i:Nat) (x:Str) (v:V),X.N[i]?=some x->σ[i]?=some (some v)->Vis X.env.scope x->∃ u,RelV v u/\Look X.env s.heap m x u
 cell:∀ x c,X.env.cells.lookup x=some c->∃ v,s.heap.IsCell c v
 free:H X.env.locals=none
 freeC:∀ x c,X.env.cells.lookup x=some c->H c=none
 pin:∀ p∈X.pn++pins,s.heap.get? p.1=some p.2/\H p.1=none/\p.1≠X.env.locals/\p.1∉X.fs/\∀ v,p.2.data≠.cell v
 hok:HOk X.prog X.w H s.heap
 len:σ.length=X.N.length
section
variable {X:Cx} {pins:List (Addr×Obj)} {σ:List (Option V)} {H H':Hp} {s:Shared} {h':Heap}
theorem Cx.Ok.nofr (ok:X.Ok) {b:Addr} {o:Obj} (e:X.base.get? b=some o):b∉X.fs:=fun hb=>by
 have:=(ok.funs.mem hb).1
 rw [e] at this;cases this
theorem Inv.bs (I:Inv X pins σ H s):∀ b o,X.base.get? b=some o->s.heap.get? b=some o/\H b=none:=fun b o e =>
 ⟨I.base.keep b o (I.ok.bs b o e).1 (I.ok.bs b o e).2 (I.ok.nofr e) (I.ok.noex b o e),I.base.free b o (I.ok.bs b o e).1 (I.ok.bs b o e).2 (I.ok.noex b o e)⟩
theorem Inv.bk (I:Inv X pins σ H s):∀ b o,X.base.get? b=some o->s.heap.get? b=some o:=fun b o e=>(I.bs b o e).1
theorem Inv.mod (I:Inv X pins σ H s):Mod X.K X.mg X.base:=I.ok.mod
theorem Inv.kIn (I:Inv X pins σ H s):X.K.In s.heap:=I.ok.mod.kin.keeps I.bk
theorem Inv.fr (I:Inv X pins σ H s):∃ m,Fr X.base X.env.locals s.heap m :=
 let⟨m,hn,_⟩:=I.loc
 ⟨m,hn,I.bk,amO I.ok.bsz I.ok.above⟩
theorem Inv.lt (I:Inv X pins σ H s):X.env.locals<s.heap.objs.size:=let⟨_,hn,_⟩:=I.loc;hn.lt
theorem Inv.sz (I:Inv X pins σ H s):X.s₀.heap.objs.size<=s.heap.objs.size:=amO I.ok.above (anb I.lt)
theorem Inv.nofs (I:Inv X pins σ H s) {a:Addr} (h:s.heap.objs.size<=a):a∉X.fs:=fun hb=>by
 obtain⟨_,o,ho,_⟩:=I.ok.funs.mem hb
 exact absurd (amJ (amA ho) (amO I.sz h)) (anB _)
theorem Inv.cne (I:Inv X pins σ H s):∀ x c,X.env.cells.lookup x=some c->c≠X.env.locals:=fun x c e z=>by
 obtain⟨v,o,ho,hd⟩:=I.cell x c e
 obtain⟨m,⟨o',es,ep,ho',hd',_⟩,_⟩:=I.loc
 rw [z,ho'] at ho;cases ho;rw [hd'] at hd;cases hd
theorem Inv.funs (I:Inv X pins σ H s):s.heap.FunFrames X.base X.outer:=by
 have all:∀ (l:List Env),(∀ b∈frs l,b∈X.fs)->X.s₀.heap.FunFrames X.base l->s.heap.FunFrames X.base l:=by
  intro l
  induction l with
  | nil=>intro _ _;trivial
  | cons env r ih =>
   intro hs hl
   obtain⟨hk,⟨L,o,hf,hn,ho,hd⟩,hr⟩:=hl
   have hL:L∈X.fs:=hs L (by unfold frs;rw [aor,hf];exact amm)
   obtain⟨sl,e⟩:=I.base.slot L o ho (I.ok.frf L hL) hL fun z=>I.ok.exfs L z hL
   exact⟨hk,⟨L,_,hf,hn,e,hd⟩,ih (fun b hb=>hs b (by unfold frs;rw [aor,hf];exact amo _ hb)) hr⟩
 exact all X.outer (fun _ hb=>hb) I.ok.funs
theorem Inv.stack (I:Inv X pins σ H s):s.heap.FunFrames X.base X.stack:=by
 rcases I.ok.stk with e | ⟨e,hf⟩
 ·rw [e];exact I.funs
 ·rw [e]
  obtain⟨m,hn,_⟩:=I.loc
  refine .cons (by rw [I.ok.kind];decide) hf hn ?_ I.funs
  exact aoV (amO I.ok.bsz I.ok.above)
theorem Inv.stkSub (I:Inv X pins σ H s):∀ b∈frs X.stack,b∈X.env.locals :: X.fs:=fun b hb=>by
 rcases I.ok.stk with e | ⟨e,hf⟩
 ·rw [e] at hb;exact amo _ hb
 ·rw [e] at hb
  unfold frs at hb
  rw [aor,hf] at hb
  exact hb
theorem Inv.stkFree (I:Inv X pins σ H s):∀ b∈frs X.stack,H b=none:=fun b hb=>by
 rcases amu.mp (I.stkSub b hb) with e | hb
 ·rw [e];exact I.free
 ·obtain⟨_,o,ho,_⟩:=I.ok.funs.mem hb
  exact I.base.free b o ho (I.ok.frf b hb) fun z=>I.ok.exfs b z hb
theorem Inv.step {g':Array GenState} {t':Nat} {d':Drawn} {ch:List Addr} (I:Inv X pins σ H s)
  (hch:∀ b∈ch,(b∈X.ex \/ X.s₀.heap.objs.size<=b)/\b≠X.env.locals/\(∀ x c,X.env.cells.lookup x=some c->c≠b)/\∀ p∈X.pn++pins,p.1≠b)
  (keep:∀ b o,b≠X.env.locals->b∉X.fs->b∉ch->s.heap.get? b=some o->H b=none->h'.get? b=some o)
  (slot:∀ b o,b≠X.env.locals->b∈X.fs->b∉ch->s.heap.get? b=some o->H b=none->∃ sl,h'.get? b=some { o with slots:=sl }) (free:∀ b o,b∉ch->s.heap.get? b=some o->H b=none->H' b=none)
  (there:∀ b o,b∉ch->s.heap.get? b=some o->∃ o',h'.get? b=some o')
  (tups:∀ b xs,H b=some (.tup xs)->H' b=some (.tup xs)) (frzs:∀ b o u,H b=some (.frz o u)->H' b=some (.frz o u)) (tbls:∀ b ps,H b=some (.tbl ps)->∃ more,H' b=some (.tbl (ps++more)))
  (ns:∀ m,s.heap.Ns X.env.locals m->h'.Ns X.env.locals m) (hok:HOk X.prog X.w H' h') (hg:AllBare g') :
  Inv X pins σ H' { s with heap:=h',gens:=g',drawn:=d',toks:=t' }:=by
 have neL:∀ b o,X.s₀.heap.get? b=some o->b≠X.env.locals:=fun b o e=>amQ (amJ (amA e) I.ok.above)
 have neC:∀ b o,X.s₀.heap.get? b=some o->b∉X.ex->b∉ch:=fun b o e hx hb=>by
  rcases (hch b hb).1 with z | z
  ·exact hx z
  ·exact absurd (amJ (amA e) z) (anB _)
 have cellK:∀ x c,X.env.cells.lookup x=some c->∀ v,s.heap.IsCell c v->h'.IsCell c v:=fun x c e v ⟨o,ho,hd⟩=>by
  have nch:c∉ch:=fun z=>(hch c z).2.2.1 x c e rfl
  by_cases hc:c∈X.fs
  ·obtain⟨sl,q⟩:=slot c o (I.cne x c e) hc nch ho (I.freeC x c e)
   exact⟨_,q,hd⟩
  ·exact⟨o,keep c o (I.cne x c e) hc nch ho (I.freeC x c e),hd⟩
 refine⟨I.ok,I.os,hg,⟨fun b o e n hb hx=>?_,fun b o e n hb hx=>?_,fun b o e n hx=>?_,fun b o e hx=>?_,fun b xs e=>tups b xs (I.base.tups b xs e),fun b o xs e=>frzs b o xs (I.base.frzs b o xs e),fun b ps e=>?_⟩,?_,fun x c e=>?_,?_,fun x c e=>?_,fun p hp=>?_,hok,I.len⟩
 ·exact keep b o (neL b o e) hb (neC b o e hx) (I.base.keep b o e n hb hx) (I.base.free b o e n hx)
 ·obtain⟨sl,e1⟩:=I.base.slot b o e n hb hx
  obtain⟨sl',e2⟩:=slot b _ (neL b o e) hb (neC b o e hx) e1 (I.base.free b o e n hx)
  exact⟨sl',e2⟩
 ·obtain⟨o',e1⟩:=I.base.there b o e hx
  exact free b o' (neC b o e hx) e1 (I.base.free b o e n hx)
 ·obtain⟨o',e1⟩:=I.base.there b o e hx
  exact there b o' (neC b o e hx) e1
 ·obtain⟨m1,e1⟩:=I.base.tbls b ps e
  obtain⟨m2,e2⟩:=tbls b _ e1
  exact⟨m1++m2,by rw [e2,Array.append_assoc]⟩
 ·obtain⟨m,hn,hl⟩:=I.loc
  refine⟨m,ns m hn,fun i x v e1 e2 e3=>?_⟩
  obtain⟨u,r,l⟩:=hl i x v e1 e2 e3
  refine⟨u,r,?_⟩
  rcases l with l | ⟨k,c,e,z⟩
  ·exact .inl l
  ·exact .inr ⟨k,c,e,cellK x c e _ z⟩
 ·obtain⟨v,z⟩:=I.cell x c e
  exact⟨v,cellK x c e v z⟩
 ·obtain⟨m,⟨o,_,_,ho,_⟩,_⟩:=I.loc
  exact free _ o (fun z=>(hch _ z).2.1 rfl) ho I.free
 ·obtain⟨v,o,ho,hd⟩:=I.cell x c e
  exact free c o (fun z=>(hch c z).2.2.1 x c e rfl) ho (I.freeC x c e)
 ·obtain⟨e,n,ne,nf,d⟩:=I.pin p hp
  have nch:p.1∉ch:=fun z=>(hch p.1 z).2.2.2 p hp rfl
  exact⟨keep p.1 p.2 ne nf nch e n,free p.1 p.2 nch e n,ne,nf,d⟩
theorem Inv.un {t':Nat} (I:Inv X pins σ H s) (u:Un X.fs [] H H' s.heap h') (hok:HOk X.prog X.w H' h'):Inv X pins σ H' { s with heap:=h',toks:=t' }:=by
 obtain⟨m,⟨o,es,ep,ho,r⟩,_⟩:=id I.loc
 obtain⟨sl,hL⟩:=u.any ho I.free (by simp)
 exact I.step (g':=s.gens) (d':=s.drawn) (ch:=[]) (fun _ z=>nomatch z) (fun b o _ hb _ e n=>u.keep b o e n hb (by simp)) (fun b o _ hb _ e n=>u.slot b o e n hb (by simp)) (fun b o _ e n=>u.free b o e n (by simp)) (fun b o _ e=>u.there b o e (by simp)) u.tups u.frzs u.tbls (fun m' hm=>by
  obtain⟨o',es',ep',ho',r'⟩:=hm
  rw [ho] at ho';cases ho'
  exact⟨_,es',ep',hL,r'⟩) hok I.bare
theorem Inv.call {g':Array GenState} {t':Nat} {d':Drawn} {ch:List Addr} (I:Inv X pins σ H s) (u:Un (frs X.stack) ch H H' s.heap h') (hok:HOk X.prog X.w H' h') (hg:AllBare g')
  (hch:∀ b∈ch,(b∈X.ex \/ X.s₀.heap.objs.size<=b)/\b≠X.env.locals/\(∀ x c,X.env.cells.lookup x=some c->c≠b)/\∀ p∈X.pn++pins,p.1≠b) :
  Inv X pins σ H' { s with heap:=h',gens:=g',drawn:=d',toks:=t' }:=by
 obtain⟨m,⟨o,es,ep,ho,r⟩,_⟩:=id I.loc
 obtain⟨sl,hL⟩:=u.any ho I.free fun z=>(hch _ z).2.1 rfl
 exact I.step (ch:=ch) hch (fun b o hL hb hc e n=>u.keep b o e n (fun z=>(amu.mp (I.stkSub b z)).elim hL hb) hc) (fun b o _ _ hc e n=>u.any e n hc) (fun b o hc e n=>u.free b o e n hc) (fun b o hc e=>u.there b o e hc) u.tups u.frzs u.tbls (fun m' hm=>by
  obtain⟨o',es',ep',ho',r'⟩:=hm
  rw [ho] at ho';cases ho'
  exact⟨_,es',ep',hL,r'⟩) hok hg
theorem Inv.turned {t':Nat} {it:Addr} (I:Inv X pins σ H s) (k:∀ b o,b≠it->s.heap.get? b=some o->h'.get? b=some o) (hn:H it=none) (hL:it≠X.env.locals)
  (h1:it∈X.ex \/ X.s₀.heap.objs.size<=it) (h2:∀ x c,X.env.cells.lookup x=some c->c≠it) (h3:∀ p∈X.pn++pins,p.1≠it):Inv X pins σ H { s with heap:=h',toks:=t' }:=by
 have nit:∀ b u,H b=some u->b≠it:=fun b u e z=>by rw [z,hn] at e;cases e
 refine I.step (g':=s.gens) (d':=s.drawn) (ch:=[it]) (fun b hb=>?_) (fun b o _ _ hc e _=>k b o (fun z=>hc (by simp [z])) e) (fun b o _ _ hc e _=>⟨o.slots,k b o (fun z=>hc (by simp [z])) e⟩) (fun _ _ _ _ n=>n)
  (fun b o hc e=>⟨o,k b o (fun z=>hc (by simp [z])) e⟩) (fun _ _ e=>e) (fun _ _ _ e=>e) (fun b ps e=>⟨#[],by rw [e];simp⟩) (fun m hm=>?_) (fun b u e=>?_) I.bare
 ·have e:b=it:=by simpa using hb
  subst e
  exact⟨h1,hL,h2,h3⟩
 ·obtain⟨o,es,ep,ho,r⟩:=hm
  exact⟨o,es,ep,k _ o (anq hL) ho,r⟩
 ·refine (I.hok b u e).stay (fun c v hc q=>k c v ?_ q) (fun _ q=>q) fun _ _ q=>q
  rcases hc with z | z
  ·rw [z];exact nit b u e
  ·exact nit c _ z
theorem Inv.tok (I:Inv X pins σ H s) (t:Nat):Inv X pins σ H { s with toks:=t }:=I.un (h':=s.heap) (t':=t) Un.refl I.hok
theorem Inv.kept {t':Nat} (I:Inv X pins σ H s) (k:∀ b u,s.heap.get? b=some u->h'.get? b=some u):Inv X pins σ H { s with heap:=h',toks:=t' }:=I.un (Un.kept k) (I.hok.kept k)
theorem Inv.laid {a:Addr} {o:HO} {t':Nat} (I:Inv X pins σ H s) (k:∀ b u,s.heap.get? b=some u->h'.get? b=some u) (hp:s.heap.objs.size<=a) (new:ObjOk X.prog X.w (upd H a o) h' a o) :
  Inv X pins σ (upd H a o) { s with heap:=h',toks:=t' }:=I.un (Un.laid k hp (I.hok.fresh hp)) (I.hok.laid k hp new)
theorem Inv.write {x e:Addr} {o:HO} {t':Nat} (I:Inv X pins σ H s) (mu:Mut (H x)) (he:e=x \/ H e=some (.own x)) (k:∀ b u,b≠e->s.heap.get? b=some u->h'.get? b=some u) (heo:∃ u,h'.get? e=some u)
  (new:ObjOk X.prog X.w (upd H x o) h' x o):Inv X pins σ (upd H x o) { s with heap:=h',toks:=t' }:=I.un (Un.write mu he k heo) (I.hok.write mu he k heo new)
theorem Inv.pins_of {pins':List (Addr×Obj)} (I:Inv X pins σ H s) (h:∀ p∈pins',s.heap.get? p.1=some p.2/\H p.1=none/\p.1≠X.env.locals/\p.1∉X.fs/\∀ v,p.2.data≠.cell v):Inv X pins' σ H s :=
 ⟨I.ok,I.os,I.bare,I.base,I.loc,I.cell,I.free,I.freeC,fun p hp=>(am4.mp hp).elim (fun z=>I.pin p (anf _ z)) (h p),I.hok,I.len⟩
theorem aco {N:List Str} (hN:N.Nodup) {i j:Nat} {x:Str} (a:N[i]?=some x) (b:N[j]?=some x):i=j:=by
 obtain⟨h1,e1⟩:=ami.mp a
 obtain⟨h2,e2⟩:=ami.mp b
 exact (aoS hN).mp (e1.trans e2.symm)
theorem aaY {M:Model} {A:Around} {E:Value->Shared->Prop} {i:Nat} {x:Str} {v:V} {u:Value} {Q:Unit->Shared->Prop} (I:Inv X pins σ H s) (hN:X.N.Nodup) (hi:X.N[i]?=some x) (hx:Loc X.env.scope x) (r:RelV v u)
  (h:∀ s',Inv X pins (σ.set i (some v)) H s'->(∃ a,anO a s.heap s'.heap/\(a=X.env.locals \/ X.env.cells.lookup x=some a))->Q () s') (hf:X.fn x=true \/ X.env.scope.names.lookup x=some .local:=by first | exact .inl rfl | exact .inr rfl | assumption):wpAny M A (storeName X.env x u) Q E s:=by
 obtain⟨m,hn,hl⟩:=id I.loc
 have hcls:(X.env.scope.kind == .class || (X.env.scope.kind == .module && X.env.locals != X.env.globals))=false:=by rw [I.ok.kind];rfl
 have hiσ:i<σ.length:=by rw [I.len];exact (ami.mp hi).1
 have cne:=I.cne
 have tracked:∀ {a:Addr} {h':Heap},(∃ o,s.heap.get? a=some o/\H a=none)->anO a s.heap h'->HOk X.prog X.w H h':=fun {a h'} ha hs b ob e=>by
  obtain⟨_,_,hfree⟩:=ha
  refine (I.hok b ob e).stay (fun c w' hc q=>(hs.2 c ?_).trans q) (fun _ q=>q) fun _ _ q=>q
  rintro rfl
  rcases hc with rfl | hc
  ·rw [hfree] at e;cases e
  ·rw [hfree] at hc;cases hc
 rcases hx with hk | hk
 ·refine wpAny_storeName_local hk hn (fun h' hn' hs=>?_) hcls
  obtain⟨oL,_,_,hoL,_⟩:=id hn
  refine h _ ⟨I.ok,I.os,I.bare,⟨fun b o e n hb hx=>?_,fun b o e n hb hx=>?_,I.base.free,fun b o e hx=>?_,I.base.tups,I.base.frzs,I.base.tbls⟩,⟨_,hn',fun j y v' e1 e2 e3=>?_⟩,fun y c e=>?_,I.free,I.freeC,fun p hp=>?_,tracked ⟨oL,hoL,I.free⟩ hs,by simpa using I.len⟩ ⟨_,hs,.inl rfl⟩
  ·exact (hs.2 b (amQ (amJ (amA e) I.ok.above))).trans (I.base.keep b o e n hb hx)
  ·obtain⟨sl,e1⟩:=I.base.slot b o e n hb hx
   exact⟨sl,(hs.2 b (amQ (amJ (amA e) I.ok.above))).trans e1⟩
  ·obtain⟨o',e1⟩:=I.base.there b o e hx
   exact⟨o',(hs.2 b (amQ (amJ (amA e) I.ok.above))).trans e1⟩
  ·by_cases hj:j=i
   ·subst hj
    rw [hi] at e1;cases e1
    rw [anx hiσ] at e2
    cases e2
    exact⟨u,r,.inl ⟨hk,by simp⟩⟩
   ·rw [aok (anq hj)] at e2
    obtain⟨u',r',q⟩:=hl j y v' e1 e2 e3
    refine⟨u',r',?_⟩
    rcases q with⟨k,e⟩ | ⟨k,c,e,z⟩
    ·refine .inl ⟨k,?_⟩
     have:y≠x:=fun e=>hj (aco hN e1 (e▸hi))
     simp [this,e]
    ·exact .inr ⟨k,c,e,z.sameBut hs (cne y c e)⟩
  ·obtain⟨w',z⟩:=I.cell y c e
   exact⟨w',z.sameBut hs (cne y c e)⟩
  ·obtain⟨e,n,ne,nf,d⟩:=I.pin p hp
   exact⟨(hs.2 p.1 ne).trans e,n,ne,nf,d⟩
 ·have hfn:X.fn x=true:=by
   rcases hf with z | z
   ·exact z
   ·rw [z] at hk;cases hk
  obtain⟨c,hc⟩:=I.ok.has x (.inl hk)
  obtain⟨w',z⟩:=I.cell x c hc
  refine wpAny_storeName_cell I.ok.kind hk hc z (fun h' hc' hs=>?_)
  obtain⟨oc,hoc,hocd⟩:=id z
  refine h { s with heap:=h' } ⟨I.ok,I.os,I.bare,⟨fun b o e n hb hx=>?_,fun b o e n hb hx=>?_,I.base.free,fun b o e hx=>?_,I.base.tups,I.base.frzs,I.base.tbls⟩,⟨m,hn.sameBut hs (anq (cne x c hc)),fun j y v' e1 e2 e3=>?_⟩,fun y c' e=>?_,I.free,I.freeC,fun p hp=>?_,tracked ⟨oc,hoc,I.freeC x c hc⟩ hs,by simpa using I.len⟩ ⟨c,hs,.inr hc⟩
  ·exact (hs.2 b (amQ (amJ (amA e) (I.ok.cab x c hfn hc)))).trans (I.base.keep b o e n hb hx)
  ·obtain⟨sl,e1⟩:=I.base.slot b o e n hb hx
   exact⟨sl,(hs.2 b (amQ (amJ (amA e) (I.ok.cab x c hfn hc)))).trans e1⟩
  ·obtain⟨o',e1⟩:=I.base.there b o e hx
   exact⟨o',(hs.2 b (amQ (amJ (amA e) (I.ok.cab x c hfn hc)))).trans e1⟩
  ·by_cases hj:j=i
   ·subst hj
    rw [hi] at e1;cases e1
    rw [anx hiσ] at e2
    cases e2
    exact⟨u,r,.inr ⟨.inl hk,c,hc,hc'⟩⟩
   ·rw [aok (anq hj)] at e2
    obtain⟨u',r',q⟩:=hl j y v' e1 e2 e3
    refine⟨u',r',?_⟩
    rcases q with q | ⟨k,c',e,z'⟩
    ·exact .inl q
    ·refine .inr ⟨k,c',e,z'.sameBut hs ?_⟩
     rintro rfl
     exact hj (aco hN e1 (I.ok.inj _ _ _ e hc▸hi))
  ·by_cases hcc:c'=c
   ·subst hcc;exact⟨_,hc'⟩
   ·obtain⟨w2,z2⟩:=I.cell y c' e
    exact⟨w2,z2.sameBut hs hcc⟩
  ·obtain⟨e,n,ne,nf,d⟩:=I.pin p hp
   refine⟨(hs.2 p.1 ?_).trans e,n,ne,nf,d⟩
   intro q
   rw [q,hoc] at e
   have q':oc=p.2:=Option.some.inj e
   exact d w' (by rw [<-q'];exact hocd)
theorem acp {M:Model} {A:Around} {E:Value->Shared->Prop} {i:Nat} {x:Str} {v:V} {u:Value} {Q:Unit->Shared->Prop} (I:Inv X pins σ H s) (hN:X.N.Nodup) (hi:X.N[i]?=some x) (hx:Loc X.env.scope x) (r:RelV v u)
  (h:∀ s',Inv X pins (σ.set i (some v)) H s'->Q () s') (hf:X.fn x=true \/ X.env.scope.names.lookup x=some .local:=by first | exact .inl rfl | exact .inr rfl | assumption):wpAny M A (storeName X.env x u) Q E s :=
 aaY I hN hi hx r (fun s' I' _=>h s' I') hf
theorem Inv.call' {s':Shared} {ch:List Addr} (I:Inv X pins σ H s) (ho:s'.os=s.os) (u:Un (frs X.stack) ch H H' s.heap s'.heap) (hok:HOk X.prog X.w H' s'.heap) (hg:AllBare s'.gens)
  (hch:∀ b∈ch,(b∈X.ex \/ X.s₀.heap.objs.size<=b)/\b≠X.env.locals/\(∀ x c,X.env.cells.lookup x=some c->c≠b)/\∀ p∈X.pn++pins,p.1≠b):Inv X pins σ H' s':=by
 obtain⟨h',g',d',t',o'⟩:=s'
 have e:o'=s.os:=ho
 subst e
 exact I.call (g':=g') (t':=t') (d':=d') u hok hg hch
end
abbrev XK:=Value->Option Addr->Hp->Prop
abbrev St:=List (Option V)
abbrev VK:=V->Hp->Prop
abbrev TE:=St->Hp->VK->Prop
abbrev TT:=St->Hp->(Bool->Hp->Prop)->Prop
abbrev TA:=St->Hp->(List V->Hp->Prop)->Prop
structure Ends where
 nx:St->Hp->Prop
 rt:VK
 bk:St->Hp->Prop:=fun _ _=>False
 ct:St->Hp->Prop:=fun _ _=>False
abbrev TS:=Ends->St->Hp->Prop
def EP (X:Cx) (pins:List (Addr×Obj)) (σ:St) (Q:VK) (u:Value) (s':Shared):Prop:=∃ v H',Inv X pins σ H' s'/\RelV v u/\Q v H'
def TP (X:Cx) (pins:List (Addr×Obj)) (σ:St) (Q:Bool->Hp->Prop) (b:Bool) (s':Shared):Prop:=∃ H',Inv X pins σ H' s'/\Q b H'
def AP (X:Cx) (pins:List (Addr×Obj)) (σ:St) (Q:List V->Hp->Prop) (us:List Value) (s':Shared):Prop:=∃ vs H',Inv X pins σ H' s'/\Vals vs us/\Q vs H'
def SP (X:Cx) (pins:List (Addr×Obj)) (D:Ends) (f:Flow) (s':Shared):Prop :=
 match f with
 | .next=>∃ σ' H',Inv X pins σ' H' s'/\D.nx σ' H'
 | .brk=>∃ σ' H',Inv X pins σ' H' s'/\D.bk σ' H'
 | .cont=>∃ σ' H',Inv X pins σ' H' s'/\D.ct σ' H'
 | .ret u=>∃ v σ' H',Inv X pins σ' H' s'/\RelV v u/\D.rt v H'
def PE (X:Cx) (e:Expr) (t:TE):Prop :=
 ∀ (pins:List (Addr×Obj)) (s:Shared) (σ:St) (H:Hp) (Q:VK),Inv X pins σ H s->t σ H Q->wpAny (model X.prog X.w) X.A (eval e X.env) (EP X pins σ Q) X.xe s
def PT (X:Cx) (e:Expr) (t:TT):Prop :=
 ∀ (pins:List (Addr×Obj)) (s:Shared) (σ:St) (H:Hp) (Q:Bool->Hp->Prop),Inv X pins σ H s->t σ H Q->wpAny (model X.prog X.w) X.A (isTrue e X.env (eval e X.env)) (TP X pins σ Q) X.xe s
def PW (X:Cx) (e:Expr) (t:TT):Prop :=
 ∀ (whole:Sem Value) (pins:List (Addr×Obj)) (s:Shared) (σ:St) (H:Hp) (Q:Bool->Hp->Prop),Inv X pins σ H s->t σ H Q->wpAny (model X.prog X.w) X.A (isTrue e X.env whole) (TP X pins σ Q) X.xe s
theorem PW.pt {X:Cx} {e:Expr} {t:TT} (h:PW X e t):PT X e t:=h _
def PA (X:Cx) (es:List Expr) (t:TA):Prop :=
 ∀ (pos:Pos) (pins:List (Addr×Obj)) (s:Shared) (σ:St) (H:Hp) (Q:List V->Hp->Prop),Inv X pins σ H s->t σ H Q->wpAny (model X.prog X.w) X.A (spliced (backTo pos (starEach es X.env))) (AP X pins σ Q) X.xe s
def PS (X:Cx) (st:Stmt) (t:TS):Prop :=
 ∀ (pins:List (Addr×Obj)) (s:Shared) (σ:St) (H:Hp) (D:Ends),Inv X pins σ H s->t D σ H->wpAny (model X.prog X.w) X.A (exec st X.env) (SP X pins D) X.xe s
def PSs (X:Cx) (st:List Stmt) (t:TS):Prop :=
 ∀ (pins:List (Addr×Obj)) (s:Shared) (σ:St) (H:Hp) (D:Ends),Inv X pins σ H s->t D σ H->wpAny (model X.prog X.w) X.A (execs st X.env) (SP X pins D) X.xe s
theorem thn {α:Type} {t:Sem α} {Q Q':α->Shared->Prop} {M:Model} {A:Around} {E:Value->Shared->Prop} {s:Shared} (h:wpAny M A t Q E s) (hQ:∀ a s,Q a s->Q' a s):wpAny M A t Q' E s:=wpAny_mono h hQ fun _ _ x=>x
section
variable {X:Cx}
def yH (i:Nat):TE:=fun σ H Q=>∃ v,σ[i]?=some (some v)/\Q v H
def tC (v:V):TE:=fun _ H Q=>Q v H
theorem akg {i:Nat} {x:Str} {pos:Pos} (hN:X.N[i]?=some x) (hv:Vis X.env.scope x) (hd:(x == ("__debug__":Str))=false:=by decide) (hcd:(x == ("__classdict__":Str))=false:=by decide):PE X (.Name x pos) (yH i):=by
 intro pins s σ H Q I h
 obtain⟨v,e,h⟩:=h
 obtain⟨m,hn,hl⟩:=I.loc
 obtain⟨u,r,l⟩:=hl i x v hN e hv
 have fin:EP X pins σ Q u s:=⟨v,H,I,r,h⟩
 rcases l with⟨hk,hm⟩ | ⟨hk,c,hc,hcell⟩
 ·exact wpAny_Name (wpAny_loadName_local I.ok.kind hk hn hm fin) hd
 ·rcases hk with hk | hk
  ·exact wpAny_Name (wpAny_loadName_cell I.ok.kind hk hc hcell fin) hd
  ·exact wpAny_Name (wpAny_loadName_free I.ok.kind hk hc hcell fin hcd) hd
theorem zd {i j pos}:PE X (.Constant (.int i) j pos) (tC (.int i)):=fun _ _ _ H _ I h=>wpAny_Constant_int ⟨.int i,H,I.tok _,⟨_,rfl⟩,h⟩
theorem aad {b j pos}:PE X (.Constant (.bool b) j pos) (tC (.bl b)):=fun _ _ _ H _ I h=>Constant_bool ⟨.bl b,H,I,rfl,h⟩
theorem adI {j pos}:PE X (.Constant .none j pos) (tC .non):=fun _ _ _ H _ I h=>Constant_none ⟨.non,H,I,rfl,h⟩
theorem qI {x j pos}:PE X (.Constant (.str x) j pos) (tC (.str x)):=fun _ _ _ H _ I h=>Calls.Constant_str ⟨.str x,H,I.tok _,⟨_,rfl⟩,h⟩
def Gl (X:Cx) (x:Str):Prop:=X.env.kindOf x=some .globalImplicit
theorem abu {E:Value->Shared->Prop} {pins:List (Addr×Obj)} {s:Shared} {σ:St} {H:Hp} {x:Str} {u:Value} {pos:Pos} {Q:Value->Shared->Prop} (I:Inv X pins σ H s) (hg:Gl X x) (hm:X.mg x=some u) (h:Q u s)
  (hd:(x == ("__debug__":Str))=false:=by decide):wpAny (model X.prog X.w) X.A (eval (.Name x pos) X.env) Q E s :=
 apa I.ok.kind hg (Calls.loadGlobal_global (by rw [I.ok.glob];exact I.mod.glob.keeps I.bk) hm h) hd
theorem vq {E:Value->Shared->Prop} {pins:List (Addr×Obj)} {s:Shared} {σ:St} {H:Hp} {x:Str} {u:Value} {pos:Pos} {Q:Value->Shared->Prop} (I:Inv X pins σ H s) (hg:Gl X x) (hm:X.mg x=none) (hv:bootBuiltins x=some u) (h:Q u s)
  (hn:x ≠ "__name__":=by decide) (hd:(x == ("__debug__":Str))=false:=by decide):wpAny (model X.prog X.w) X.A (eval (.Name x pos) X.env) Q E s:=by
 obtain⟨mb,h1,h2⟩:=I.mod.blt
 exact apa I.ok.kind hg (Calls.loadGlobal_builtin (by rw [I.ok.glob];exact I.mod.glob.keeps I.bk) hm (by rw [I.ok.blt];exact h1.keeps I.bk) ((h2 x hn).trans hv) h) hd
theorem aip {x:Str} {v:V} {u:Value} {pos:Pos} (hg:Gl X x) (hm:X.mg x=some u) (r:RelV v u) (hd:(x == ("__debug__":Str))=false:=by decide):PE X (.Name x pos) (tC v) :=
 fun _ _ _ H _ I h=>abu I hg hm ⟨v,H,I,r,h⟩ hd
variable {a b:Expr} {ta tb:TE} {pos:Pos}
variable {tA tB':TT} {rest:List Expr}
def alw (t u:TT):TT:=fun σ H Q=>t σ H fun c H1=>if c=true then u σ H1 Q else Q false H1
def tOr (t u:TT):TT:=fun σ H Q=>t σ H fun c H1=>if c=true then Q true H1 else u σ H1 Q
def alx (t:TT):TT:=fun σ H Q=>t σ H fun c H1=>Q (!c) H1
theorem aiq (ha:PT X a tA):PW X (.BoolOp .And [a] pos) tA:=by
 intro wh pins s σ H Q I h
 refine isTrue_and (thn (ha pins s σ H Q I h) fun c s1 e=>?_)
 cases c with
 | true=>exact isTrue_and_nil e
 | false=>exact e
theorem akh (ha:PT X a tA):PW X (.BoolOp .Or [a] pos) tA:=by
 intro wh pins s σ H Q I h
 refine isTrue_or (thn (ha pins s σ H Q I h) fun c s1 e=>?_)
 cases c with
 | false=>exact isTrue_or_nil e
 | true=>exact e
theorem aki (ha:PT X a tA) (hb:PW X (.BoolOp .And (b :: rest) pos) tB'):PW X (.BoolOp .And (a :: b :: rest) pos) (alw tA tB'):=by
 intro wh pins s σ H Q I h
 refine isTrue_and (thn (ha pins s σ H _ I h) fun c s1 ⟨H1,I1,q1⟩=>?_)
 cases c with
 | true=>exact hb wh pins s1 σ H1 Q I1 q1
 | false=>exact⟨H1,I1,q1⟩
theorem aly (ha:PT X a tA) (hb:PW X (.BoolOp .Or (b :: rest) pos) tB'):PW X (.BoolOp .Or (a :: b :: rest) pos) (tOr tA tB'):=by
 intro wh pins s σ H Q I h
 refine isTrue_or (thn (ha pins s σ H _ I h) fun c s1 ⟨H1,I1,q1⟩=>?_)
 cases c with
 | true=>exact⟨H1,I1,q1⟩
 | false=>exact hb wh pins s1 σ H1 Q I1 q1
theorem abv (ha:PT X a tA):PT X (.UnaryOp .Not a pos) (alx tA):=by
 intro pins s σ H Q I h
 exact isTrue_not (ha pins s σ H (fun c H1=>Q (!c) H1) I h)
def ajK (ta tb:TE):TE:=fun σ H Q=>ta σ H fun x H1=>∃ c,x=.bl c/\if c=true then tb σ H1 Q else Q (.bl false) H1
def ajL (ta:TE):TE:=fun σ H Q=>ta σ H fun x H1=>∃ c,x=.bl c/\Q (.bl (!c)) H1
theorem adJ {op} {t:TE} (h:PE X a t):PE X (.BoolOp op [a] pos) t:=fun pins s σ H Q I hw=>BoolOp_one (h pins s σ H Q I hw)
theorem abw (ha:PE X a ta) (hb:PE X (.BoolOp .And (b :: rest) pos) tb):PE X (.BoolOp .And (a :: b :: rest) pos) (ajK ta tb):=by
 intro pins s σ H Q I h
 refine BoolOp_and (thn (ha pins s σ H _ I h) fun v s1 ⟨x,H1,I1,r1,q1⟩=>?_)
 obtain⟨c,rfl,q1⟩:=q1
 cases r1
 refine wpAny_truthy_bool ?_
 cases c with
 | true=>exact hb pins s1 σ H1 Q I1 q1
 | false=>exact⟨.bl false,H1,I1,rfl,q1⟩
theorem akj (ha:PE X a ta):PE X (.UnaryOp .Not a pos) (ajL ta):=by
 intro pins s σ H Q I h
 refine UnaryOp_ (thn (ha pins s σ H _ I h) fun v s1 ⟨x,H1,I1,r1,q1⟩=>?_)
 obtain⟨c,rfl,q1⟩:=q1
 cases r1
 exact not_of (wpAny_truthy_bool ⟨.bl (!c),H1,I1,rfl,q1⟩)
def tIf (t:TT) (ta tb:TE):TE:=fun σ H Q=>t σ H fun c H1=>if c=true then ta σ H1 Q else tb σ H1 Q
theorem qT {c:Expr} (hc:PT X c tA) (ha:PE X a ta) (hb:PE X b tb):PE X (.IfExp c a b pos) (tIf tA ta tb):=by
 intro pins s σ H Q I h
 refine wpAny_IfExp (thn (hc pins s σ H _ I h) fun d s1 ⟨H1,I1,q1⟩=>?_)
 cases d with
 | true=>exact ha pins s1 σ H1 Q I1 q1
 | false=>exact hb pins s1 σ H1 Q I1 q1
end
def SqL (K:amk) (H:Hp) (a:Addr) (xs:List V):Prop :=
 Rd H a (.lst xs) \/
  ∃ (o:Obj) (its:Array Value) (n:Nat),K.lookup a=some o/\o.cls=.type "list"/\o.dict=none/\o.data=.seq its n/\its.size<=sizeLine/\Vals xs its.toList
def SqT (K:amk) (H:Hp) (a:Addr) (xs:List V):Prop :=
 Rd H a (.tup xs) \/
  ∃ (o:Obj) (its:Array Value) (n:Nat),K.lookup a=some o/\o.cls=.type "tuple"/\o.data=.seq its n/\its.size<=sizeLine/\Vals xs its.toList
def al1:Value->Option V
 | .none=>some .non
 | .bool b=>some (.bl b)
 | .int i _=>some (.int i)
 | .str x _=>some (.str x)
 | .bytes b _=>some (.byt b)
 | .float b _=>some (.flt b)
 | .ref a=>some (.ref a)
 | .type n=>some (.ty n)
 | _=>none
theorem RelV.abs {x:V} {u:Value} (r:RelV x u):al1 u=some x:=by
 cases x with
 | non=>cases r;rfl
 | bl _=>cases r;rfl
 | int _=>obtain⟨t,rfl⟩:=r;rfl
 | str _=>obtain⟨t,rfl⟩:=r;rfl
 | byt _=>obtain⟨t,rfl⟩:=r;rfl
 | flt _=>obtain⟨t,rfl⟩:=r;rfl
 | ref _=>cases r;rfl
 | ty _=>cases r;rfl
theorem RelV.inj {x y:V} {u:Value} (r:RelV x u) (q:RelV y u):x=y:=Option.some.inj (r.abs.symm.trans q.abs)
theorem Vals.inj:∀ {xs ys:List V} {us:List Value},Vals xs us->Vals ys us->xs=ys
 | _,_,_,.nil,.nil=>rfl
 | _,_,_,.cons r t,.cons r' t'=>by rw [r.inj r',Vals.inj t t']
section
variable {X:Cx} {pins:List (Addr×Obj)} {σ:St} {H:Hp} {s:Shared} {a:Addr} {xs ys:List V}
theorem SqL.of {K:amk} (h:H a=some (.lst xs)):SqL K H a xs:=.inl (.inl h)
theorem SqT.of {K:amk} (h:H a=some (.tup xs)):SqT K H a xs:=.inl (.inl h)
theorem Inv.list (I:Inv X pins σ H s) (h:SqL X.K H a xs):∃ its:List Value,Vals xs its/\PlainL s.heap a its.toArray/\xs.length<=sizeLine:=by
 rcases h with h | ⟨o,its,n,hk,hc,hd,hs,hz,r⟩
 ·obtain⟨z,its,n,r,e⟩:=h.ok I.hok
  exact⟨its,r,⟨_,n,e,rfl,rfl,rfl⟩,z⟩
 ·refine⟨its.toList,r,⟨o,n,I.kIn a o hk,hc,hd,by simpa using hs⟩,?_⟩
  have e:=r.length
  simp only [amy] at e
  omega
theorem Inv.tuple (I:Inv X pins σ H s) (h:SqT X.K H a xs):∃ its:List Value,Vals xs its/\IsTup s.heap a its.toArray/\xs.length<=sizeLine:=by
 rcases h with h | ⟨o,its,n,hk,hc,hs,hz,r⟩
 ·obtain⟨z,its,r,p⟩:=h.ok I.hok
  exact⟨its,r,p,z⟩
 ·refine⟨its.toList,r,⟨o,I.kIn a o hk,hc,n,by simpa using hs⟩,?_⟩
  have e:=r.length
  simp only [amy] at e
  omega
theorem Inv.list_inj (I:Inv X pins σ H s) (h:SqL X.K H a xs) (h':SqL X.K H a ys):xs=ys:=by
 obtain⟨its,r,⟨o,n,e,_,_,d⟩,_⟩:=I.list h
 obtain⟨its',r',⟨o',n',e',_,_,d'⟩,_⟩:=I.list h'
 rw [e] at e';cases e'
 rw [d] at d'
 injection d' with d1 _
 have:its=its':=by simpa using congrArg Array.toList d1
 subst this
 exact r.inj r'
theorem Inv.tuple_inj (I:Inv X pins σ H s) (h:SqT X.K H a xs) (h':SqT X.K H a ys):xs=ys:=by
 obtain⟨its,r,⟨o,e,_,n,d⟩,_⟩:=I.tuple h
 obtain⟨its',r',⟨o',e',_,n',d'⟩,_⟩:=I.tuple h'
 rw [e] at e';cases e'
 rw [d] at d'
 injection d' with d1 _
 have:its=its':=by simpa using congrArg Array.toList d1
 subst this
 exact r.inj r'
end
abbrev Cx.wish (X:Cx) (E:Value->Shared->Prop):Cx:={ X with xe:=E }
abbrev Cx.nox (X:Cx):Cx:=X.wish fun _ _=>False
theorem Cx.Ok.wish {X:Cx} (ok:X.Ok) (E:Value->Shared->Prop):(X.wish E).Ok :=
 ⟨ok.mod,ok.kind,ok.glob,ok.blt,ok.above,ok.inj,ok.has,ok.cab,ok.hd,ok.frames,ok.stk,ok.exf,ok.bs,ok.bsz,ok.noex,ok.exfs,ok.funs,ok.frf⟩
theorem Cx.Ok.unwish {X:Cx} {E:Value->Shared->Prop} (ok:(X.wish E).Ok):X.Ok :=
 ⟨ok.mod,ok.kind,ok.glob,ok.blt,ok.above,ok.inj,ok.has,ok.cab,ok.hd,ok.frames,ok.stk,ok.exf,ok.bs,ok.bsz,ok.noex,ok.exfs,ok.funs,ok.frf⟩
section
variable {X:Cx} {pins:List (Addr×Obj)} {σ:St} {H:Hp} {s:Shared} {E:Value->Shared->Prop}
theorem Inv.wish (I:Inv X pins σ H s) (E:Value->Shared->Prop):Inv (X.wish E) pins σ H s:=⟨I.ok.wish E,I.os,I.bare,I.base,I.loc,I.cell,I.free,I.freeC,I.pin,I.hok,I.len⟩
theorem Inv.unwish (I:Inv (X.wish E) pins σ H s):Inv X pins σ H s:=⟨I.ok.unwish,I.os,I.bare,I.base,I.loc,I.cell,I.free,I.freeC,I.pin,I.hok,I.len⟩
theorem SP.unwish {D:Ends} {f:Flow} {s':Shared} (h:SP (X.wish E) pins D f s'):SP X pins D f s':=by
 cases f with
 | next=>obtain⟨σ',H',I,q⟩:=h;exact⟨σ',H',I.unwish,q⟩
 | brk=>obtain⟨σ',H',I,q⟩:=h;exact⟨σ',H',I.unwish,q⟩
 | cont=>obtain⟨σ',H',I,q⟩:=h;exact⟨σ',H',I.unwish,q⟩
 | ret u=>obtain⟨v,σ',H',I,r,q⟩:=h;exact⟨v,σ',H',I.unwish,r,q⟩
theorem PSs.nox {st:List Stmt} {t:TS} (h:PSs X.nox st t):PSs X st t:=fun pins s σ H D I hw =>
 wpAny_mono (h pins s σ H D (I.wish _) hw) (fun _ _ q=>q.unwish) fun _ _ z=>anY z
end
section
variable {X:Cx} {st:Stmt} {rest:List Stmt} {t u:TS} {e:Expr} {te:TE} {pos:Pos}
def aes:TS:=fun D σ H=>D.nx σ H
def aae (t u:TS):TS:=fun D σ H=>t { D with nx:=u D } σ H
theorem zV:PSs X [] aes:=fun _ _ σ H _ I h=>wpAny_execs_nil ⟨σ,H,I,h⟩
theorem zc (h1:PS X st t) (h2:PSs X rest u):PSs X (st :: rest) (aae t u):=by
 intro pins s σ H D I h
 refine wpAny_execs_cons (thn (h1 pins s σ H { D with nx:=u D } I h) fun f s1 q=>?_)
 cases f with
 | next =>
  obtain⟨σ',H',I',q⟩:=q
  exact h2 pins s1 σ' H' D I' q
 | ret v=>exact q
 | brk=>exact q
 | cont=>exact q
theorem zk (h1:PS X st t):PSs X [st] t:=by
 intro pins s σ H D I h
 refine wpAny_execs_cons (thn (h1 pins s σ H D I h) fun f s1 q=>?_)
 cases f with
 | next=>exact wpAny_execs_nil q
 | ret v=>exact q
 | brk=>exact q
 | cont=>exact q
theorem Inv.quiet {pins:List (Addr×Obj)} {σ:St} {H:Hp} {s:Shared} (I:Inv X pins σ H s):interactive X.env=false:=by simp [interactive,I.ok.kind]
def aet (te:TE):TS:=fun D σ H=>te σ H fun _ H1=>D.nx σ H1
theorem yX (he:PE X e te) (hs:swapsWith e none pos.line X.env=pure false:=by rfl):PS X (.Expr e pos) (aet te):=by
 intro pins s σ H D I h
 exact wpAny_Expr_any (thn (he pins s σ H _ I h) fun v s1 ⟨x,H1,I1,r1,q1⟩=>⟨σ,H1,I1,q1⟩) I.quiet hs
def afH (te:TE):TS:=fun D σ H=>te σ H D.rt
theorem zr (he:PE X e te):PS X (.Return (some e) pos) (afH te):=by
 intro pins s σ H D I h
 exact wpAny_Return_some (thn (he pins s σ H _ I h) fun v s1 ⟨x,H1,I1,r1,q1⟩=>⟨x,σ,H1,I1,r1,q1⟩)
def agD (c:TT) (t u:TS):TS:=fun D σ H=>c σ H fun b H1=>if b=true then t D σ H1 else u D σ H1
theorem yy {c:Expr} {a b:List Stmt} {tc:TT} (hc:PT X c tc) (ha:PSs X a t) (hb:PSs X b u):PS X (.If c a b pos) (agD tc t u):=by
 intro pins s σ H D I h
 refine wpAny_If (thn (hc pins s σ H _ I h) fun d s1 ⟨H1,I1,q1⟩=>?_)
 cases d with
 | true=>exact ha pins s1 σ H1 D I1 q1
 | false=>exact hb pins s1 σ H1 D I1 q1
def akk:TS:=fun _ _ _=>False
theorem acq:PS X st akk:=fun _ _ _ _ _ _ h=>h.elim
end
abbrev TG:=V->St->Hp->(St->Hp->Prop)->Prop
abbrev TGs:=List V->St->Hp->(St->Hp->Prop)->Prop
def PG (X:Cx) (target:Expr) (t:TG):Prop :=
 ∀ (pins:List (Addr×Obj)) (s:Shared) (σ:St) (H:Hp) (v:V) (u:Value) (Q:St->Hp->Prop),Inv X pins σ H s->RelV v u->t v σ H Q ->
  wpAny (model X.prog X.w) X.A (assign target X.env u) (fun _ s'=>∃ σ' H',Inv X pins σ' H' s'/\Q σ' H') X.xe s
def PGs (X:Cx) (ts:List Expr) (t:TGs):Prop :=
 ∀ (pins:List (Addr×Obj)) (s:Shared) (σ:St) (H:Hp) (vs:List V) (us:List Value) (Q:St->Hp->Prop),Inv X pins σ H s->Vals vs us->t vs σ H Q ->
  wpAny (model X.prog X.w) X.A (assignInOrder ((assignEach ts X.env).map (·.2)) us) (fun _ s'=>∃ σ' H',Inv X pins σ' H' s'/\Q σ' H') X.xe s
abbrev akl:=V->V->V->Hp->(Hp->Prop)->Prop
def air (X:Cx) (t:akl):Prop :=
 ∀ (pins:List (Addr×Obj)) (s:Shared) (σ:St) (H:Hp) (o i v:V) (ov iv u:Value) (Q:Hp->Prop),Inv X pins σ H s->RelV o ov->RelV i iv->RelV v u->t o i v H Q ->
  wpAny (model X.prog X.w) X.A (setItem ov iv u) (fun _ s'=>∃ H',Inv X pins σ H' s'/\Q H') X.xe s
section
variable {X:Cx} {pos:Pos}
def jc (i:Nat):TG:=fun v σ H Q=>Q (σ.set i (some v)) H
theorem zg {i:Nat} {x:Str} (hN:X.N.Nodup) (hi:X.N[i]?=some x) (hx:Loc X.env.scope x) (hf:X.fn x=true \/ X.env.scope.names.lookup x=some .local:=by first | exact .inl rfl | exact .inr rfl | assumption):PG X (.Name x pos) (jc i):=by
 intro pins s σ H v u Q I r h
 exact wpAny_assign_Name (acp I hN hi hx r (fun s' I'=>⟨_,H,I',h⟩) hf)
def akm:TGs:=fun vs σ H Q=>vs=[]/\Q σ H
def aeu (t:TG) (u:TGs):TGs:=fun vs σ H Q=>∃ v r,vs=v :: r/\t v σ H fun σ' H'=>u r σ' H' Q
theorem zJ:PGs X [] akm:=by
 intro pins s σ H vs us Q I r h
 obtain⟨e,h⟩:=h
 subst e
 cases r
 exact assignInOrder_nil ⟨σ,H,I,h⟩
theorem zl {e:Expr} {es:List Expr} {t:TG} {u:TGs} (h1:PG X e t) (h2:PGs X es u)
  (hs:(assignEach (e :: es) X.env).map (·.2)=assign e X.env :: (assignEach es X.env).map (·.2):=by rfl):PGs X (e :: es) (aeu t u):=by
 intro pins s σ H vs us Q I r h
 obtain⟨v,vr,e1,h⟩:=h
 subst e1
 cases r with
 | cons r rr =>
  rw [hs]
  refine assignInOrder_cons (thn (h1 pins s σ H _ _ _ I r h) fun _ s1 ⟨σ1,H1,I1,q1⟩=>?_)
  exact h2 pins s1 σ1 H1 _ _ Q I1 rr q1
def ais (K:amk) (n:Nat) (t:TGs):TG:=fun v σ H Q=>∃ a xs,v=.ref a/\SqT K H a xs/\xs.length=n/\t xs σ H Q
theorem akn {es:List Expr} {k:Nat} {t:TGs} {n:Nat} (hc:X.calm=true) (h:PGs X es t)
  (hn:(assignEach es X.env).length=n:=by rfl) (hst:(assignEach es X.env).findIdx? (·.1)=none:=by rfl):PG X (.Tuple es k pos) (ais X.K n t):=by
 intro pins s σ H v u Q I r hw
 obtain⟨a,xs,e1,hq,hl,hw⟩:=hw
 subst e1
 cases r
 obtain⟨its,rv,ht,hz⟩:=I.tuple hq
 refine assign_Tuple_tuple (I.ok.hd hc) ht (by simp [hn,<- hl,rv.length]) hst fun h' hx=>?_
 have I1:Inv X pins σ H { s with heap:=h' }:=I.kept (t':=s.toks) fun b o e=>hx b o (amQ (amA e)) e
 exact h pins _ σ H xs _ Q I1 (by simpa using rv) hw
def acr (to ti:TE) (t:akl):TG:=fun v σ H Q=>to σ H fun o H1=>ti σ H1 fun i H2=>t o i v H2 fun H3=>Q σ H3
theorem abx {o i:Expr} {to ti:TE} {t:akl} (ho:PE X o to) (hi:PE X i ti) (hs:air X t)
  (ha:∀ v,assign (.Subscript o i pos) X.env v=(do
   let ov <- holding [v] (eval o X.env)
   let iv <- holding [v,ov] (eval i X.env)
   standAt pos
   holding [v,ov,iv] (setItem ov iv v)
   release [v,ov,iv] []):=by intro _;rfl):PG X (.Subscript o i pos) (acr to ti t):=by
 intro pins s σ H v u Q I r h
 rw [ha]
 refine wpAny_bind (wpAny_holding (thn (ho pins s σ H _ I h) fun ov s1 ⟨x,H1,I1,r1,q1⟩=>?_))
 refine wpAny_bind (wpAny_holding (thn (hi pins s1 σ H1 _ I1 q1) fun iv s2 ⟨y,H2,I2,r2,q2⟩=>?_))
 refine wpAny_bind (wpAny_standAt (wpAny_bind (wpAny_holding (thn (hs pins s2 σ H2 x y v ov iv u _ I2 r1 r2 r q2) fun _ s3 ⟨H3,I3,q3⟩=>?_))))
 exact wpAny_release ⟨σ,H3,I3,q3⟩
def qA (te:TE) (g:TG):TS:=fun D σ H=>te σ H fun x H1=>g x σ H1 D.nx
theorem yc {tg e:Expr} {te:TE} {g:TG} (he:PE X e te) (hg:PG X tg g) (hs:swapsWithSole [tg] e pos.line X.env=pure false:=by rfl) (hw:swappedStores [tg] e X.env=pure none:=by rfl)
  (h1:(assignEach [tg] X.env).map (·.2)=[assign tg X.env]:=by rfl):PS X (.Assign [tg] e pos) (qA te g):=by
 intro pins s σ H D I h
 refine wpAny_Assign_stores (thn (he pins s σ H _ I h) fun v s1 ⟨x,H1,I1,r1,q1⟩=>?_) hs hw
 rw [h1]
 exact thn (hg pins s1 σ H1 x v _ I1 r1 q1) fun _ s2 q=>q
theorem zM {i:Nat} {x:Str} {e:Expr} {te:TE} {pos':Pos} (hN:X.N.Nodup) (hi:X.N[i]?=some x) (hx:Loc X.env.scope x) (he:PE X e te) (hs:swapsWith e (some (.Name x pos')) pos.line X.env=pure false:=by rfl) (hf:X.fn x=true \/ X.env.scope.names.lookup x=some .local:=by first | exact .inl rfl | exact .inr rfl | assumption) :
  PS X (.Assign [.Name x pos'] e pos) (qA te (jc i)):=by
 intro pins s σ H D I h
 refine wpAny_Assign_Name (thn (he pins s σ H _ I h) fun v s1 ⟨y,H1,I1,r1,q1⟩=>?_) hs
 exact acp I1 hN hi hx r1 (fun s2 I2=>⟨_,H1,I2,q1⟩) hf
end
section
variable {X:Cx} {pos:Pos}
def agE (c:TT) (tb:TS):TS:=fun D σ H=>∃ W:Nat->St->Hp->Prop,(∃ m,W m σ H)/\∀ m σ H,W m σ H ->
 c σ H fun b H1=>if b=true then ∃ N:St->Hp->Prop,(∀ σ' H',N σ' H'->∃ m',m'<m/\W m' σ' H')/\tb { D with nx:=N,ct:=N,bk:=D.nx } σ H1 else D.nx σ H1
theorem agF {c:Expr} {body:List Stmt} {tc:TT} {tb:TS} (hp:PassesOwn (model X.prog X.w) X.A X.env X.xe) (hc:PT X c tc) (hb:PSs X body tb):PS X (.While c body [] pos) (agE tc tb):=by
 intro pins s σ H D I h
 obtain⟨W,⟨m0,w0⟩,turn⟩:=h
 refine wpAny_While (codeAny_whileLoop (fun n s'=>∃ σ' H',Inv X pins σ' H' s'/\W n σ' H') ?_ m0 ⟨σ,H,I,w0⟩)
 rintro n s1 ⟨σ1,H1,I1,w1⟩
 refine wpAny_passesOwn hp (thn (hc pins s1 σ1 H1 _ I1 (turn n σ1 H1 w1)) fun b s2 ⟨H2,I2,q2⟩=>?_)
 cases b with
 | true =>
  obtain⟨N,hN,q2⟩:=q2
  rw [if_pos rfl]
  refine wpAny_passesOwn hp (thn (hb pins s2 σ1 H2 _ I2 q2) fun f s3 q3=>?_)
  cases f with
  | next =>
   obtain⟨σ3,H3,I3,n3⟩:=q3
   obtain⟨m',hm,w3⟩:=hN σ3 H3 n3
   exact⟨m',hm,σ3,H3,I3,w3⟩
  | cont =>
   obtain⟨σ3,H3,I3,n3⟩:=q3
   obtain⟨m',hm,w3⟩:=hN σ3 H3 n3
   exact⟨m',hm,σ3,H3,I3,w3⟩
  | brk=>exact q3
  | ret v=>exact q3
 | false =>
  rw [if_neg amh]
  exact wpAny_execs_nil ⟨σ1,H2,I2,q2⟩
end
structure It where
 go:Nat->Hp->Prop
 yld:Nat->Hp->V->Hp->Prop
 stop:Nat->Hp->Prop
def qU (X:Cx) (pins:List (Addr×Obj)) (H:Hp) (b:Addr):Prop :=
 H b=none/\b≠X.env.locals/\b∉X.fs/\(b∈X.ex \/ X.s₀.heap.objs.size<=b)/\(∀ x c,X.env.cells.lookup x=some c->c≠b)/\∀ p∈X.pn++pins,p.1≠b
theorem Inv.fpOk {X:Cx} {pins:List (Addr×Obj)} {σ:St} {H H':Hp} {s:Shared} {b:Addr} (I:Inv X pins σ H s) (hb:s.heap.objs.size<=b) (hn:H' b=none):qU X pins H' b:=by
 refine⟨hn,ao7 (amJ I.lt hb),I.nofs hb,.inr (amO I.sz hb),fun x c e z=>?_,fun p hp z=>?_⟩
 ·obtain⟨v,q⟩:=I.cell x c e
  exact absurd (amJ q.lt (by rw [z];exact hb)) (anB _)
 ·exact absurd (amJ (amA (I.pin p hp).1) (by rw [z];exact hb)) (anB _)
structure Turn (P:Program) (w:World) (K:amk) (tg:Expr) (J:It) (fp:List Addr) (it:Addr) (tn:Nat->Heap->Prop):Prop where
 mem:it∈fp
 obj:∀ i h,tn i h->∀ b∈fp,∃ o,h.get? b=some o/\∀ v,o.data≠.cell v
 keep:∀ i h h',tn i h->(∀ b∈fp,∀ o,h.get? b=some o->h'.get? b=some o)->tn i h'
 item:∀ (X:Cx),X.prog=P->X.w=w->X.K=K->X.calm=true->∀ (i:Nat) (pins:List (Addr×Obj)) (s:Shared) (σ:St) (H:Hp) (E:Value->Shared->Prop),Inv X pins σ H s->(∀ b∈fp,qU X pins H b)->tn i s.heap->J.go i H ->
  wpAny (model P w) X.A (pyNext (.ref it)) (fun r s1=>∃ u,r=some u /\
   wpAny (model P w) X.A (letOwnedTupleGo tg (.ref it) u) (fun _ s2=>∃ x H',Inv X pins σ H' s2/\RelV x u/\J.yld i H x H'/\tn (i+1) s2.heap/\∀ b∈fp,H' b=none) E s1) E s
 done:∀ (X:Cx),X.prog=P->X.w=w->X.K=K->X.calm=true->∀ (i:Nat) (pins:List (Addr×Obj)) (s:Shared) (σ:St) (H:Hp) (E:Value->Shared->Prop),Inv X pins σ H s->(∀ b∈fp,qU X pins H b)->tn i s.heap->J.stop i H ->
  wpAny (model P w) X.A (pyNext (.ref it)) (fun r s1=>r=none/\Inv X pins σ H s1) E s
 self:∀ (A:Around) (i:Nat) (s:Shared) (Q:Value->Shared->Prop) (E:Value->Shared->Prop),tn i s.heap->Q (.ref it) s->wpAny (model P w) A (pyIter (.ref it)) Q E s
abbrev TI:=St->Hp->(It->Hp->Prop)->Prop
def PIE (X:Cx) (pins:List (Addr×Obj)) (σ:St) (tg:Expr) (R:It->Hp->Prop) (itv:Value) (s2:Shared):Prop :=
 ∃ (it:Addr) (fp:List Addr) (tn:Nat->Heap->Prop) (J:It) (H':Hp),itv=.ref it/\Inv X pins σ H' s2/\Turn X.prog X.w X.K tg J fp it tn/\tn 0 s2.heap/\(∀ b∈fp,qU X pins H' b)/\R J H'
def PI (X:Cx) (tg iter:Expr) (wi:TI):Prop :=
 ∀ (pins:List (Addr×Obj)) (s:Shared) (σ:St) (H:Hp) (R:It->Hp->Prop),Inv X pins σ H s->wi σ H R ->
  wpAny (model X.prog X.w) X.A (eval iter X.env) (fun v s1=>wpAny (model X.prog X.w) X.A (pyIter v) (PIE X pins σ tg R) X.xe s1) X.xe s
theorem aev {M:Model} {A:Around} {E:Value->Shared->Prop} {s:Shared} {tg:Expr} {it:Addr} {u:Value} {o:Obj} {n:String} {vs:Array Value} {Q:Unit->Shared->Prop} (ho:s.heap.get? it=some o) (hc:o.cls=.type n) (hd:o.data=.fields vs)
  (hn:["enumerate","zip","dict_itemiterator","dict_reverseitemiterator","odict_iterator","itertools.zip_longest","itertools.pairwise"].contains n=false) (hQ:Q () s):wpAny M A (letOwnedTupleGo tg (.ref it) u) Q E s:=by
 unfold letOwnedTupleGo
 cases tg <;> first
  | exact wpAny_pure hQ
  | (cases u <;> first
    | exact wpAny_pure hQ
    | (refine wpAny_bind (wpAny_load ho ?_)
       rw [hc,hd]
       show wpAny M A (if (["enumerate","zip","dict_itemiterator","dict_reverseitemiterator","odict_iterator","itertools.zip_longest","itertools.pairwise"].contains n && vs[0]? == some (rawInt _))=true then _ else _) Q E s
       rw [if_neg (by intro h;rw [hn,aoG] at h;cases h)]
       exact wpAny_pure hQ))
def Itl (K:amk) (a:Addr):It :=
 ⟨fun i H=>∃ xs x,SqL K H a xs/\xs[i]?=some x,fun i H x H'=>H'=H/\∀ xs,SqL K H a xs->xs[i]?=some x,fun i H=>∃ xs,SqL K H a xs/\xs.length<=i⟩
def Itt (K:amk) (a:Addr):It :=
 ⟨fun i H=>∃ xs x,SqT K H a xs/\xs[i]?=some x,fun i H x H'=>H'=H/\∀ xs,SqT K H a xs->xs[i]?=some x,fun i H=>∃ xs,SqT K H a xs/\xs.length<=i⟩
def Itr (lo:Int) (n:Nat):It:=⟨fun i _=>i<n,fun i H x H'=>H'=H/\x=.int (lo+i),fun i _=>n<=i⟩
theorem afI {P:Program} {w:World} {K:amk} {tg:Expr} (a it:Addr):Turn P w K tg (Itl K a) [it] it (fun i h=>h.IsListIter it a i) where
 mem:=by simp
 obj:=fun i h st b hb=>by
  have e:b=it:=by simpa using hb
  subst e
  obtain⟨o,e,c,d⟩:=st
  exact⟨o,e,fun v z=>by rw [d] at z;cases z⟩
 keep:=fun i h h' st k=>st.at fun o e=>k it (by simp) o e
 item:=by
  intro X hP hw hK hc i pins s σ H E I hf st hg
  subst hP hw hK
  obtain⟨xs,x,hq,hx⟩:=hg
  obtain⟨its,rv,p,hz⟩:=I.list hq
  obtain⟨u,hu,ru⟩:=rv.get hx
  obtain⟨f0,f1,f2,f3,f4,f5⟩:=hf it (by simp)
  refine wpAny_pyNext_list_item st p.isList (x:=u) (by simpa using hu) fun h' st' sb=>?_
  have I1:Inv X pins σ H { s with heap:=h' }:=I.turned (t':=s.toks) (fun b o hb e=>(sb.2 b hb).trans e) f0 f1 f3 f4 f5
  obtain⟨o,e,c,d⟩:=id st'
  exact⟨u,rfl,aev (s:={ s with heap:=h' }) e c d (by decide) ⟨x,H,I1,ru,⟨rfl,fun ys hy=>by rw [I.list_inj hy hq];exact hx⟩,st',fun b hb=>(hf b hb).1⟩⟩
 done:=by
  intro X hP hw hK hc i pins s σ H E I hf st hg
  subst hP hw hK
  obtain⟨xs,hq,hx⟩:=hg
  obtain⟨its,rv,p,hz⟩:=I.list hq
  obtain⟨f0,f1,f2,f3,f4,f5⟩:=hf it (by simp)
  have hl:=rv.length
  exact wpAny_pyNext_list_end (I.ok.hd hc) st p.isList (by simp;omega) fun h' eb=>⟨rfl,I.turned (t':=s.toks) (fun b o hb e=>eb b o hb e) f0 f1 f3 f4 f5⟩
 self:=fun _ _ _ _ _ st h=>wpAny_pyIter_listiter st h
theorem adK {P:Program} {w:World} {K:amk} {tg:Expr} (a it:Addr):Turn P w K tg (Itt K a) [it] it (fun i h=>h.IsTupleIter it a i) where
 mem:=by simp
 obj:=fun i h st b hb=>by
  have e:b=it:=by simpa using hb
  subst e
  obtain⟨o,e,c,d⟩:=st
  exact⟨o,e,fun v z=>by rw [d] at z;cases z⟩
 keep:=fun i h h' st k=>st.at fun o e=>k it (by simp) o e
 item:=by
  intro X hP hw hK hc i pins s σ H E I hf st hg
  subst hP hw hK
  obtain⟨xs,x,hq,hx⟩:=hg
  obtain⟨its,rv,p,hz⟩:=I.tuple hq
  obtain⟨u,hu,ru⟩:=rv.get hx
  obtain⟨f0,f1,f2,f3,f4,f5⟩:=hf it (by simp)
  refine wpAny_pyNext_tuple_item st (show s.heap.IsTuple a its.toArray from p) (x:=u) (by simpa using hu) fun h' st' sb=>?_
  have I1:Inv X pins σ H { s with heap:=h' }:=I.turned (t':=s.toks) (fun b o hb e=>(sb.2 b hb).trans e) f0 f1 f3 f4 f5
  obtain⟨o,e,c,d⟩:=id st'
  exact⟨u,rfl,aev (s:={ s with heap:=h' }) e c d (by decide) ⟨x,H,I1,ru,⟨rfl,fun ys hy=>by rw [I.tuple_inj hy hq];exact hx⟩,st',fun b hb=>(hf b hb).1⟩⟩
 done:=by
  intro X hP hw hK hc i pins s σ H E I hf st hg
  subst hP hw hK
  obtain⟨xs,hq,hx⟩:=hg
  obtain⟨its,rv,p,hz⟩:=I.tuple hq
  obtain⟨f0,f1,f2,f3,f4,f5⟩:=hf it (by simp)
  have hl:=rv.length
  exact wpAny_pyNext_tuple_end (I.ok.hd hc) st (show s.heap.IsTuple a its.toArray from p) (by simp;omega) fun h' eb=>⟨rfl,I.turned (t':=s.toks) (fun b o hb e=>eb b o hb e) f0 f1 f3 f4 f5⟩
 self:=fun _ _ _ _ _ st h=>wpAny_pyIter_tupleiter st h
theorem adL {P:Program} {w:World} {K:amk} {tg:Expr} (it:Addr) (lo:Int) (n:Nat):Turn P w K tg (Itr lo n) [it] it (fun i h=>IsRangeIter h it (lo+(i:Nat) * 1) ((n:Int) - (i:Nat)) 1) where
 mem:=by simp
 obj:=fun i h st b hb=>by
  have e:b=it:=by simpa using hb
  subst e
  exact⟨_,st,fun v z=>by
   have z':Data.fields _=Data.cell v:=z
   cases z'⟩
 keep:=fun i h h' st k=>k it (by simp) _ st
 item:=by
  intro X hP hw hK hc i pins s σ H E I hf st hg
  subst hP hw hK
  obtain⟨f0,f1,f2,f3,f4,f5⟩:=hf it (by simp)
  have W:=Walks.range (prog:=X.prog) (w:=X.w) (I.ok.hd hc) it lo 1 n
  refine W.item i s _ _ hg st fun v h' tk hv st' kk=>?_
  obtain⟨t,rfl⟩:=hv
  have I1:Inv X pins σ H { s with heap:=h',toks:=tk }:=I.turned (fun b o hb e=>kk b o (by simpa using hb) e) f0 f1 f3 f4 f5
  refine⟨_,rfl,aev (s:={ s with heap:=h',toks:=tk }) (n:="range_iterator") st' rfl rfl (by decide) ⟨.int (lo+i),H,I1,⟨t,?_⟩,⟨rfl,rfl⟩,st',fun b hb=>(hf b hb).1⟩⟩
  rw [Int.mul_one]
 done:=by
  intro X hP hw hK hc i pins s σ H E I hf st hg
  subst hP hw hK
  obtain⟨f0,f1,f2,f3,f4,f5⟩:=hf it (by simp)
  exact wpAny_pyNext_range_end (I.ok.hd hc) st (by have:n<=i:=hg;omega) fun h' eb=>⟨rfl,I.turned (t':=s.toks) (fun b o hb e=>eb b o hb e) f0 f1 f3 f4 f5⟩
 self:=fun _ _ _ _ _ st h=>wpAny_pyIter_rangeiter st h
section
variable {X:Cx} {tg:Expr}
def acs (K:amk) (tl:TE):TI:=fun σ H R=>tl σ H fun x H1=>∃ a,x=.ref a/\(∃ xs,SqL K H1 a xs)/\R (Itl K a) H1
def ako (K:amk) (tl:TE):TI:=fun σ H R=>tl σ H fun x H1=>∃ a,x=.ref a/\(∃ xs,SqT K H1 a xs)/\R (Itt K a) H1
theorem ait {l:Expr} {tl:TE} (hl:PE X l tl):PI X tg l (acs X.K tl):=by
 intro pins s σ H R I h
 refine thn (hl pins s σ H _ I h) fun v s1 ⟨x,H1,I1,r1,q1⟩=>?_
 obtain⟨a,e,⟨xs,hq⟩,q⟩:=q1
 subst e
 cases r1
 obtain⟨its,rv,p,hz⟩:=I1.list hq
 refine wpAny_pyIter_list p.isList ?_
 refine⟨s1.heap.objs.size,[s1.heap.objs.size],_,_,H1,rfl,I1.kept (t':=s1.toks) fun b o e=>amq _ e,afI a _,⟨_,amH _ rfl,rfl,rfl⟩,fun b hb=>?_,q⟩
 have e:b=s1.heap.objs.size:=by simpa using hb
 subst e
 exact I1.fpOk (amn _) (I1.hok.fresh (amn _))
theorem akp {l:Expr} {tl:TE} (hl:PE X l tl):PI X tg l (ako X.K tl):=by
 intro pins s σ H R I h
 refine thn (hl pins s σ H _ I h) fun v s1 ⟨x,H1,I1,r1,q1⟩=>?_
 obtain⟨a,e,⟨xs,hq⟩,q⟩:=q1
 subst e
 cases r1
 obtain⟨its,rv,p,hz⟩:=I1.tuple hq
 refine wpAny_pyIter_tuple (show s1.heap.IsTuple a its.toArray from p) ?_
 refine⟨s1.heap.objs.size,[s1.heap.objs.size],_,_,H1,rfl,I1.kept (t':=s1.toks) fun b o e=>amq _ e,adK a _,⟨_,amH _ rfl,rfl,rfl⟩,fun b hb=>?_,q⟩
 have e:b=s1.heap.objs.size:=by simpa using hb
 subst e
 exact I1.fpOk (amn _) (I1.hok.fresh (amn _))
theorem agG {pins:List (Addr×Obj)} {σ:St} {H:Hp} {s:Shared} {R:It->Hp->Prop} {E:Value->Shared->Prop} {lo hi:Int} {t u v:Tok} {tk:Nat} (I:Inv X pins σ H s) (h1:-(2 ^ 62)<=lo) (h2:lo<2 ^ 62) (h3:-(2 ^ 62)<=hi) (h4:hi<2 ^ 62)
  (q:R (Itr lo (hi - lo).toNat) H):wpAny (model X.prog X.w) X.A (pyIter (.ref s.heap.objs.size)) (PIE X pins σ tg R) E { s with heap:=s.heap.push { cls:=.type "range",data:=.fields #[.int lo t,.int hi u,.int 1 v] },toks:=tk }:=by
 refine wpAny_pyIter_range (IsRange.new ..) (small_one h1 h2 h3 h4) ?_
 have I1:Inv X pins σ H { s with heap:=s.heap.push { cls:=.type "range",data:=.fields #[.int lo t,.int hi u,.int 1 v] },toks:=tk }:=I.kept fun b o e=>amq _ e
 refine⟨(s.heap.push { cls:=.type "range",data:=.fields #[.int lo t,.int hi u,.int 1 v] }).objs.size,[(s.heap.push { cls:=.type "range",data:=.fields #[.int lo t,.int hi u,.int 1 v] }).objs.size],_,_,H,rfl,
  I1.kept (t':=tk) fun b o e=>amq _ e,adL _ lo (hi - lo).toNat,?_,fun b hb=>?_,q⟩
 ·have e1:lo+((0:Nat):Int) * 1=lo:=by simp
  have e2:(((hi - lo).toNat:Nat):Int) - ((0:Nat):Int)=Builtin.Range.rangeSize lo hi 1:=by rw [rangeSize_one];split <;> omega
  show IsRangeIter _ _ (lo+((0:Nat):Int) * 1) ((((hi - lo).toNat:Nat):Int) - ((0:Nat):Int)) 1
  rw [e1,e2]
  exact amH _ rfl
 ·have e:b=(s.heap.push { cls:=.type "range",data:=.fields #[.int lo t,.int hi u,.int 1 v] }).objs.size:=by simpa using hb
  subst e
  exact I1.fpOk (amn _) (I1.hok.fresh (amn _))
def aew (ta:TA):TI:=fun σ H R=>ta σ H fun vs H1=>∃ j:Int,vs=[.int j]/\-(2 ^ 62)<=j/\j<2 ^ 62/\R (Itr 0 j.toNat) H1
theorem yK {a:Expr} {ta:TA} {p pos:Pos} (hg:Gl X "range") (hm:X.mg "range"=none) (ha:PA X [a] ta) (hs:starEach [a] X.env=[(false,eval a X.env)]:=by rfl):PI X tg (.Call (.Name "range" p) [a] [] pos) (aew ta):=by
 intro pins s σ H R I h
 refine Call_ (vq I hg hm boot_range (anz (thn (ha pos pins s σ H _ I h) fun us s1 ⟨vs,H1,I1,r1,q1⟩=>?_) hs rfl))
 obtain⟨j,e,q1,q2,q⟩:=q1
 subst e
 cases r1 with
 | cons r rr =>
  cases rr
  obtain⟨t,rfl⟩:=r
  exact call_range_1 (agG I1 (by omega) (by omega) q1 q2 (by simpa using q))
def aiu (wi:TI) (g:TG) (tb:TS):TS:=fun D σ H=>wi σ H fun J H1=>∃ W:Nat->Nat->St->Hp->Prop,(∃ m,W 0 m σ H1)/\∀ i m σ H,W i m σ H ->
 (J.stop i H/\D.nx σ H) \/ (J.go i H/\∃ N:St->Hp->Prop,(∀ σ' H',N σ' H'->∃ m',m'<m/\W (i+1) m' σ' H')/\∀ x H',J.yld i H x H'->g x σ H' fun σ2 H2=>tb { D with nx:=N,ct:=N,bk:=D.nx } σ2 H2)
def aaf (fp:List Addr) (h:Heap):List (Addr×Obj):=fp.filterMap fun b=>(h.get? b).map fun o=>(b,o)
theorem jB {fp:List Addr} {h:Heap} {b:Addr} {o:Obj} (hb:b∈fp) (e:h.get? b=some o):(b,o)∈aaf fp h:=apb.mpr ⟨b,hb,by rw [e];rfl⟩
theorem afJ {fp:List Addr} {h:Heap} {p:Addr×Obj} (hp:p∈aaf fp h):p.1∈fp/\h.get? p.1=some p.2:=by
 obtain⟨b,hb,e⟩:=apb.mp hp
 cases q:h.get? b with
 | none=>rw [q] at e;cases e
 | some o =>
  rw [q] at e
  have e':(b,o)=p:=Option.some.inj e
  subst e'
  exact⟨hb,q⟩
theorem Inv.pinned {pins:List (Addr×Obj)} {σ:St} {H:Hp} {s:Shared} {fp:List Addr} (I:Inv X pins σ H s) (hf:∀ b∈fp,qU X pins H b) (ho:∀ b∈fp,∃ o,s.heap.get? b=some o/\∀ v,o.data≠.cell v):Inv X (pins++aaf fp s.heap) σ H s :=
 I.pins_of fun p hp=>(am4.mp hp).elim (fun z=>I.pin p (amF _ z)) fun z=>by
  obtain⟨hb,e⟩:=afJ z
  obtain⟨f0,f1,f2,_⟩:=hf p.1 hb
  obtain⟨o,e',d⟩:=ho p.1 hb
  rw [e] at e';cases e'
  exact⟨e,f0,f1,f2,d⟩
theorem Inv.unpinned {pins pl:List (Addr×Obj)} {σ:St} {H:Hp} {s:Shared} (I:Inv X (pins++pl) σ H s):Inv X pins σ H s:=I.pins_of fun p hp=>I.pin p (amF _ (anf _ hp))
theorem aag {iter:Expr} {body:List Stmt} {wi:TI} {g:TG} {tb:TS} {pos:Pos} (hp:PassesOwn (model X.prog X.w) X.A X.env X.xe) (hc:X.calm=true) (hi:PI X tg iter wi) (hg:PG X tg g) (hb:PSs X body tb)
  (hs:∀ x,foldedSetIterable iter X.env x=pure x:=by intro _;rfl):PS X (.For tg iter body [] pos) (aiu wi g tb):=by
 intro pins s σ H D I h
 refine wpAny_For (thn (hi pins s σ H _ I h) fun v s1 h1=>thn h1 fun itv s2 h2=>?_) hs
 obtain⟨it,fp,tn,J,H2,e,I2,T,st2,f2,W,⟨m0,w0⟩,turn⟩:=h2
 subst e
 -- what stays true of the iterator's objects through the loop
 have stat:∀ {H':Hp},(∀ b∈fp,H' b=none)->∀ b∈fp,qU X pins H' b:=fun hn b hb=>⟨hn b hb,(f2 b hb).2⟩
 refine codeAny_forLoop_any (fun n s'=>∃ i σ' H',Inv X pins σ' H' s'/\tn i s'.heap/\(∀ b∈fp,H' b=none)/\W i n σ' H') ?_ m0 ⟨0,σ,H2,I2,st2,fun b hb=>(f2 b hb).1,w0⟩
 rintro n s3 ⟨i,σ3,H3,I3,st3,fr3,w3⟩
 rcases turn i n σ3 H3 w3 with⟨stop,qn⟩ | ⟨go,N,hN,step⟩
 ·refine wpAny_passesOwn hp (thn (T.done X rfl rfl rfl hc i pins s3 σ3 H3 X.xe I3 (stat fr3) st3 stop) fun r s4 ⟨hr,I4⟩=>?_)
  subst hr
  exact wpAny_execs_nil ⟨σ3,H3,I4,qn⟩
 ·refine wpAny_passesOwn hp (thn (T.item X rfl rfl rfl hc i pins s3 σ3 H3 X.xe I3 (stat fr3) st3 go) fun r s4 ⟨u,hr,h4⟩=>?_)
  subst hr
  refine wpAny_passesOwn hp (thn h4 fun _ s5 ⟨x,H5,I5,r5,y5,st5,fr5⟩=>?_)
  have I5':=I5.pinned (stat fr5) (T.obj _ _ st5)
  refine wpAny_passesOwn hp (thn (hg _ s5 σ3 H5 x u _ I5' r5 (step x H5 y5)) fun _ s6 ⟨σ6,H6,I6,q6⟩=>?_)
  refine wpAny_passesOwn hp (thn (hb _ s6 σ6 H6 _ I6 q6) fun f s7 q7=>?_)
  have again:∀ {σ7:St} {H7:Hp},Inv X (pins++aaf fp s5.heap) σ7 H7 s7->N σ7 H7->∃ m,m<n/\∃ i σ' H',Inv X pins σ' H' s7/\tn i s7.heap/\(∀ b∈fp,H' b=none)/\W i m σ' H':=fun {σ7 H7} I7 n7=>by
   obtain⟨m',hm,w7⟩:=hN σ7 H7 n7
   refine⟨m',hm,i+1,σ7,H7,I7.unpinned,T.keep _ _ _ st5 fun b hb o e=>(I7.pin (b,o) (amF _ (amF _ (jB hb e)))).1,fun b hb=>?_,w7⟩
   obtain⟨o,e,d⟩:=T.obj _ _ st5 b hb
   exact (I7.pin (b,o) (amF _ (amF _ (jB hb e)))).2.1
  cases f with
  | next=>obtain⟨σ7,H7,I7,n7⟩:=q7;exact again I7 n7
  | cont=>obtain⟨σ7,H7,I7,n7⟩:=q7;exact again I7 n7
  | brk=>obtain⟨σ7,H7,I7,q7⟩:=q7;exact⟨σ7,H7,I7.unpinned,q7⟩
  | ret v=>obtain⟨x7,σ7,H7,I7,r7,q7⟩:=q7;exact⟨x7,σ7,H7,I7.unpinned,r7,q7⟩
end
abbrev R2:=V->V->Hp->VK->Prop
def OpR (X:Cx) (f:Value->Value->Sem Value) (r:R2):Prop :=
 ∀ (pins:List (Addr×Obj)) (s:Shared) (σ:St) (H:Hp) (x y:V) (v u:Value) (Q:VK),Inv X pins σ H s->RelV x v->RelV y u->r x y H Q ->
  wpAny (model X.prog X.w) X.A (f v u) (EP X pins σ Q) X.xe s
def UnR (X:Cx) (f:Value->Sem Value) (r:V->Hp->VK->Prop):Prop :=
 ∀ (pins:List (Addr×Obj)) (s:Shared) (σ:St) (H:Hp) (x:V) (v:Value) (Q:VK),Inv X pins σ H s->RelV x v->r x H Q ->
  wpAny (model X.prog X.w) X.A (f v) (EP X pins σ Q) X.xe s
def yj (X:Cx) (f:Value) (r:List V->Hp->VK->Prop):Prop :=
 ∀ (pins:List (Addr×Obj)) (s:Shared) (σ:St) (H:Hp) (xs:List V) (us:List Value) (Q:VK),Inv X pins σ H s->Vals xs us->r xs H Q ->
  wpAny (model X.prog X.w) X.A (call f us) (EP X pins σ Q) X.xe s
def al3 (X:Cx) (r:V->Hp->(Bool->Hp->Prop)->Prop):Prop :=
 ∀ (pins:List (Addr×Obj)) (s:Shared) (σ:St) (H:Hp) (x:V) (v:Value) (Q:Bool->Hp->Prop),Inv X pins σ H s->RelV x v->r x H Q ->
  wpAny (model X.prog X.w) X.A (truthy v) (TP X pins σ Q) X.xe s
def tOp (r:R2) (ta tb:TE):TE:=fun σ H Q=>ta σ H fun x H1=>tb σ H1 fun y H2=>r x y H2 Q
def tUn (r:V->Hp->VK->Prop) (ta:TE):TE:=fun σ H Q=>ta σ H fun x H1=>r x H1 Q
def rI (C:Int->Int->Prop) (g:Int->Int->V):R2:=fun x y H Q=>∃ i j,x=.int i/\y=.int j/\C i j/\Q (g i j) H
def rI0 (g:Int->Int->V):R2:=fun x y H Q=>∃ i j,x=.int i/\y=.int j/\Q (g i j) H
def rU (g:Int->V):V->Hp->VK->Prop:=fun x H Q=>∃ i,x=.int i/\Q (g i) H
section
variable {X:Cx} {a b c:Expr} {ta tb tc:TE} {pos:Pos}
theorem akq (ha:PE X a ta) (hb:PE X b tb) {pins:List (Addr×Obj)} {s:Shared} {σ:St} {H:Hp} {R:V->V->Hp->Prop} (I:Inv X pins σ H s)
  (h:ta σ H fun x H1=>tb σ H1 fun y H2=>R x y H2) {Q:Value->Shared->Prop} {f:Value->Value->Sem Value}
  (hf:∀ v u s2 x y H2,Inv X pins σ H2 s2->RelV x v->RelV y u->R x y H2->wpAny (model X.prog X.w) X.A (f v u) Q X.xe s2) :
  wpAny (model X.prog X.w) X.A (eval a X.env) (fun v s₁=>wpAny (model X.prog X.w) X.A (eval b X.env) (fun u s₂=>wpAny (model X.prog X.w) X.A (f v u) Q X.xe s₂) X.xe s₁) X.xe s:=by
 refine thn (ha pins s σ H _ I h) fun v s1 ⟨x,H1,I1,r1,q1⟩=>?_
 refine thn (hb pins s1 σ H1 _ I1 q1) fun u s2 ⟨y,H2,I2,r2,q2⟩=>?_
 exact hf v u s2 x y H2 I2 r1 r2 q2
theorem zu {op:Operator} {r:R2} (ho:OpR X (binaryOp op) r) (ha:PE X a ta) (hb:PE X b tb):PE X (.BinOp a op b pos) (tOp r ta tb):=by
 intro pins s σ H Q I h
 exact wpAny_BinOp (akq ha hb I h fun v u s2 x y H2 I2 rx ry q=>ho pins s2 σ H2 x y v u Q I2 rx ry q)
theorem alz {op:UnaryOp} {r:V->Hp->VK->Prop} (ho:UnR X (unaryOp op) r) (ha:PE X a ta):PE X (.UnaryOp op a pos) (tUn r ta):=by
 intro pins s σ H Q I h
 exact UnaryOp_ (thn (ha pins s σ H _ I h) fun v s1 ⟨x,H1,I1,r1,q1⟩=>ho pins s1 σ H1 x v Q I1 r1 q1)
theorem opI {f:Value->Value->Sem Value} {C:Int->Int->Prop} {g:Int->Int->Int}
  (rule:∀ (i j:Int) (t u:Tok) (s:Shared) (Q:Value->Shared->Prop) (E:Value->Shared->Prop),C i j->Q (.int (g i j) s.toks) { s with toks:=s.toks+1 }->wpAny (model X.prog X.w) X.A (f (.int i t) (.int j u)) Q E s) :
  OpR X f (rI C fun i j=>.int (g i j)):=by
 intro pins s σ H x y v u Q I rx ry h
 obtain⟨i,j,rfl,rfl,hc,q⟩:=h
 obtain⟨t,rfl⟩:=rx
 obtain⟨t',rfl⟩:=ry
 exact rule i j t t' s _ _ hc ⟨.int (g i j),H,I.tok _,⟨_,rfl⟩,q⟩
theorem alA {f:Value->Value->Sem Value} {g:Int->Int->Int}
  (rule:∀ (i j:Int) (t u:Tok) (s:Shared) (Q:Value->Shared->Prop) (E:Value->Shared->Prop),Q (.int (g i j) s.toks) { s with toks:=s.toks+1 }->wpAny (model X.prog X.w) X.A (f (.int i t) (.int j u)) Q E s) :
  OpR X f (rI0 fun i j=>.int (g i j)):=by
 intro pins s σ H x y v u Q I rx ry h
 obtain⟨i,j,rfl,rfl,q⟩:=h
 obtain⟨t,rfl⟩:=rx
 obtain⟨t',rfl⟩:=ry
 exact rule i j t t' s _ _ ⟨.int (g i j),H,I.tok _,⟨_,rfl⟩,q⟩
theorem aiv {f:Value->Value->Sem Value} {g:Int->Int->Bool}
  (rule:∀ (i j:Int) (t u:Tok) (s:Shared) (Q:Value->Shared->Prop) (E:Value->Shared->Prop),Q (.bool (g i j)) s->wpAny (model X.prog X.w) X.A (f (.int i t) (.int j u)) Q E s) :
  OpR X f (rI0 fun i j=>.bl (g i j)):=by
 intro pins s σ H x y v u Q I rx ry h
 obtain⟨i,j,rfl,rfl,q⟩:=h
 obtain⟨t,rfl⟩:=rx
 obtain⟨t',rfl⟩:=ry
 exact rule i j t t' s _ _ ⟨.bl (g i j),H,I,rfl,q⟩
def al4 (i j:Int):Prop:=0<=j/\j<=1000000/\i.natAbs<2 ^ 64
def CMul (i j:Int):Prop:=(-(2 ^ 64)<i/\i<2 ^ 64) \/ (-(2 ^ 64)<j/\j<2 ^ 64)
theorem CMul.ok {i j:Int} (h:CMul i j):IntMulOk i j:=by
 rcases h with⟨h1,h2⟩ | ⟨h1,h2⟩
 ·exact .of_left (intBits_le_64 h1 h2)
 ·exact .of_right (intBits_le_64 h1 h2)
theorem zW:OpR X (binaryOp .Add) (rI0 fun i j=>.int (i+j)):=alA fun _ _ _ _ _ _ _ q=>add_int q
theorem yd:OpR X (binaryOp .Sub) (rI0 fun i j=>.int (i - j)):=alA fun _ _ _ _ _ _ _ q=>sub_int q
theorem aah:OpR X (binaryOp .Mult) (rI CMul fun i j=>.int (i * j)):=opI fun _ _ _ _ _ _ _ hc q=>mul_int q hc.ok
theorem vt:OpR X (binaryOp .Mod) (rI (fun _ j=>0<j) fun i j=>.int (i % j)):=opI fun i j _ _ _ _ _ hc q=>by
 have h1:(0:Int)<j:=hc
 exact mod_int' (by omega) (by rw [Int.fmod_eq_emod_of_nonneg i (by omega)];exact q)
theorem jU:OpR X (binaryOp .Pow) (rI al4 fun i j=>.int (i ^ j.toNat)):=opI fun _ _ _ _ _ _ _ hc q=>pow_int_small hc.1 hc.2.1 hc.2.2 q
theorem unI {f:Value->Sem Value} {g:Int->Int}
  (rule:∀ (i:Int) (t:Tok) (s:Shared) (Q:Value->Shared->Prop) (E:Value->Shared->Prop),Q (.int (g i) s.toks) { s with toks:=s.toks+1 }->wpAny (model X.prog X.w) X.A (f (.int i t)) Q E s) :
  UnR X f (rU fun i=>.int (g i)):=by
 intro pins s σ H x v Q I rx h
 obtain⟨i,rfl,q⟩:=h
 obtain⟨t,rfl⟩:=rx
 exact rule i t s _ _ ⟨.int (g i),H,I.tok _,⟨_,rfl⟩,q⟩
theorem akr:UnR X (unaryOp .USub) (rU fun i=>.int (-i)):=unI fun _ _ _ _ _ q=>neg_int q
end
def al5:V->V->Bool
 | .non,.non=>true | .non,.int _=>true | .int _,.non=>true | .non,.bl _=>true | .bl _,.non=>true | .non,.str _=>true | .str _,.non=>true
 | .int _,.int _=>true | .bl _,.bl _=>true | .str _,.str _=>true | .byt _,.byt _=>true
 | .int _,.str _=>true | .str _,.int _=>true | .bl _,.str _=>true | .str _,.bl _=>true
 | _,_=>false
def rEq:R2:=fun x y H Q=>al5 x y=true/\Q (.bl (decide (x=y))) H
theorem aiw {i j:Int}:decide (V.int i=V.int j)=(i == j):=by
 rw [aod]
 simp
theorem aks {i j:Bool}:decide (V.bl i=V.bl j)=(i == j):=by
 rw [aod]
 simp
theorem aix {i j:Str}:decide (V.str i=V.str j)=(i == j):=by
 rw [aod]
 simp
theorem aiy {i j:Array UInt8}:decide (V.byt i=V.byt j)=(i.toList == j.toList):=by
 rw [aod]
 cases i
 cases j
 simp
section
variable {X:Cx} {a b c:Expr} {ta tb tc:TE} {pos:Pos}
theorem ym {pins:List (Addr×Obj)} {σ:St} {H:Hp} {s:Shared} {Q:VK} {k k':Bool} (I:Inv X pins σ H s) (q:Q (.bl k) H) (e:k=k'):EP X pins σ Q (.bool k') s:=by
 subst e
 exact⟨.bl k,H,I,rfl,q⟩
theorem jQ:OpR X (compareOp .Eq) rEq:=by
 intro pins s σ H x y v u Q I rx ry h
 obtain⟨hs,q⟩:=h
 cases x with
 | non =>
  cases rx
  cases y with
  | non=>cases ry;exact PySem.EqNone.eq_none_none (ym I q (by simp))
  | bl j=>cases ry;exact PySem.EqNone.eq_none_bool (ym I q (by simp))
  | int j=>obtain⟨t',rfl⟩:=ry;exact PySem.EqNone.eq_none_int (ym I q (by simp))
  | str j=>obtain⟨t',rfl⟩:=ry;exact PySem.EqNone.eq_none_str (ym I q (by simp))
  | _=>exact absurd (show false=true from hs) amh
 | bl i =>
  cases rx
  cases y with
  | non=>cases ry;exact PySem.EqNone.eq_bool_none (ym I q (by simp))
  | bl j=>cases ry;exact eq_bool (ym I q aks)
  | str j=>obtain⟨t',rfl⟩:=ry;exact PySem.EqMixed.eq_bool_str (ym I q (by simp))
  | _=>exact absurd (show false=true from hs) amh
 | int i =>
  obtain⟨t,rfl⟩:=rx
  cases y with
  | non=>cases ry;exact PySem.EqNone.eq_int_none (ym I q (by simp))
  | int j=>obtain⟨t',rfl⟩:=ry;exact eq_int (ym I q aiw)
  | str j=>obtain⟨t',rfl⟩:=ry;exact PySem.EqMixed.eq_int_str (ym I q (by simp))
  | _=>exact absurd (show false=true from hs) amh
 | str i =>
  obtain⟨t,rfl⟩:=rx
  cases y with
  | non=>cases ry;exact PySem.EqNone.eq_str_none (ym I q (by simp))
  | bl j=>cases ry;exact PySem.EqMixed.eq_str_bool (ym I q (by simp))
  | int j=>obtain⟨t',rfl⟩:=ry;exact PySem.EqMixed.eq_str_int (ym I q (by simp))
  | str j=>obtain⟨t',rfl⟩:=ry;exact eq_str (ym I q aix)
  | _=>exact absurd (show false=true from hs) amh
 | byt i =>
  obtain⟨t,rfl⟩:=rx
  cases y with
  | byt j=>obtain⟨t',rfl⟩:=ry;exact PySem.W.eq_bytes (ym I q aiy)
  | _=>exact absurd (show false=true from hs) amh
 | _=>cases y <;> exact absurd (show false=true from hs) amh
theorem ajM:OpR X (compareOp .Lt) (rI0 fun i j=>.bl (decide (i<j))):=aiv fun _ _ _ _ _ _ _ q=>lt_int q
theorem aaZ:OpR X (compareOp .LtE) (rI0 fun i j=>.bl (decide (i<=j))):=aiv fun _ _ _ _ _ _ _ q=>le_int q
theorem agH:OpR X (compareOp .Gt) (rI0 fun i j=>.bl (decide (j<i))):=aiv fun _ _ _ _ _ _ _ q=>gt_int q
theorem ajN:OpR X (compareOp .GtE) (rI0 fun i j=>.bl (decide (j<=i))):=aiv fun _ _ _ _ _ _ _ q=>ge_int q
theorem akt:OpR X (compareOp .Is) (fun x y H Q=>y=.non/\Q (.bl (decide (x=.non))) H):=by
 intro pins s σ H x y v u Q I rx ry h
 obtain⟨rfl,q⟩:=h
 cases ry
 refine is_none_gen (ym I q ?_)
 cases x <;> first
  | (cases rx;rfl)
  | (obtain⟨t,rfl⟩:=rx;rfl)
theorem aiz:OpR X (compareOp .IsNot) (fun x y H Q=>y=.non/\Q (.bl (!decide (x=.non))) H):=by
 intro pins s σ H x y v u Q I rx ry h
 obtain⟨rfl,q⟩:=h
 cases ry
 refine isnot_none_gen (ym I q ?_)
 cases x <;> first
  | (cases rx;rfl)
  | (obtain⟨t,rfl⟩:=rx;rfl)
theorem z8 (b:Expr) {op:CmpOp} (h:op≠.In:=by decide) (h2:op≠.NotIn:=by decide):behindInMarks op b=false:=by
 have e1:(op == CmpOp.In)=false:=by cases op <;> first | rfl | exact absurd rfl h
 have e2:(op == CmpOp.NotIn)=false:=by cases op <;> first | rfl | exact absurd rfl h2
 cases b <;> simp [behindInMarks,e1,e2]
theorem qV {op:CmpOp} {r:R2} (ho:OpR X (compareOp op) r) (ha:PE X a ta) (hb:PE X b tb) (hm:behindInMarks op b=false):PE X (.Compare a [op] [b] pos) (tOp r ta tb):=by
 intro pins s σ H Q I h
 exact wpAny_Compare1 (akq ha hb I h fun v u s2 x y H2 I2 rx ry q=>ho pins s2 σ H2 x y v u Q I2 rx ry q) hm
def aex (t:TE):TT:=fun σ H Q=>t σ H fun x H'=>∃ k,x=.bl k/\Q k H'
theorem z3 {op:CmpOp} {r:R2} (ho:OpR X (compareOp op) r) (ha:PE X a ta) (hb:PE X b tb) (hm:behindInMarks op b=false):PT X (.Compare a [op] [b] pos) (aex (tOp r ta tb)):=by
 intro pins s σ H Q I h
 refine wpAny_isTrue_Compare1 (thn (ha pins s σ H _ I h) fun v s1 ⟨x,H1,I1,r1,q1⟩=>thn (hb pins s1 σ H1 _ I1 q1) fun u s2 ⟨y,H2,I2,r2,q2⟩ =>
  thn (ho pins s2 σ H2 x y v u _ I2 r1 r2 q2) fun c s3 ⟨z,H3,I3,r3,k,e,q3⟩=>?_) hm
 subst e
 cases r3
 exact wpAny_truthy_bool ⟨H3,I3,q3⟩
def agI (r r':R2) (ta tb tc:TE):TE:=fun σ H Q=>ta σ H fun x H1=>tb σ H1 fun y H2=>r x y H2 fun z H3=>∃ k,z=.bl k /\
 (if k=true then tc σ H3 fun w' H4=>r' y w' H4 Q else Q (.bl false) H3)
theorem aai {op op':CmpOp} {r r':R2} (ho:OpR X (compareOp op) r) (ho':OpR X (compareOp op') r') (ha:PE X a ta) (hb:PE X b tb) (hc:PE X c tc)
  (hm:lastMarks [op,op'] [b,c]=false:=by with_unfolding_all rfl):PE X (.Compare a [op,op'] [b,c] pos) (agI r r' ta tb tc):=by
 intro pins s σ H Q I h
 refine Compare_chain (thn (ha pins s σ H _ I h) fun v s1 ⟨x,H1,I1,r1,q1⟩=>chain_link (thn (hb pins s1 σ H1 _ I1 q1) fun u s2 ⟨y,H2,I2,r2,q2⟩ =>
  thn (ho pins s2 σ H2 x y v u _ I2 r1 r2 q2) fun d s3 ⟨z,H3,I3,r3,k,e,q3⟩=>?_)) hm
 subst e
 cases r3
 refine wpAny_truthy_bool ?_
 cases k with
 | false=>exact ite_ff ⟨.bl false,H3,I3,rfl,q3⟩
 | true=>exact ite_tt (chain_last (thn (hc pins s3 σ H3 _ I3 q3) fun w' s4 ⟨z',H4,I4,r4,q4⟩=>ho' pins s4 σ H4 y z' u w' Q I4 r2 r4 q4))
def aku (K:amk) (x:V) (H:Hp) (k:Bool):Prop :=
 match x with
 | .non=>k=false
 | .bl b=>k=b
 | .int i=>k=(i != 0)
 | .str y=>y.length<=sizeLine/\k=((y.length:Int) != 0)
 | .byt y=>y.size<=sizeLine/\k=((y.size:Int) != 0)
 | .ref p=>(∃ xs,SqL K H p xs/\k=!xs.isEmpty) \/ (∃ xs,SqT K H p xs/\k=!xs.isEmpty) \/ ∃ kvs,H p=some (.dK kvs)/\k=!kvs.isEmpty
 | _=>False
theorem adM {κ:Type} {kvs:List (κ×V)} {vs:List (κ×Value)} (r:KV kvs vs):(!vs.isEmpty)=!kvs.isEmpty:=by
 cases r <;> rfl
theorem aaj {xs:List V} {its:List Value} (r:Vals xs its):(!its.toArray.isEmpty)=!xs.isEmpty:=by
 cases r <;> simp
theorem aak:(sizeLine:Nat)<2 ^ 63:=by rw [sizeLine_eq];decide
theorem akv:al3 X (fun x H Q=>∃ k,aku X.K x H k/\Q k H):=by
 intro pins s σ H x v Q I rx h
 obtain⟨k,e,q⟩:=h
 have hl:=aak
 have hs:sizeLine=16777216:=sizeLine_eq
 cases x with
 | non =>
  cases rx
  have e':k=false:=e
  subst e'
  exact truthy_none ⟨H,I,q⟩
 | bl b =>
  cases rx
  have e':k=b:=e
  subst e'
  exact wpAny_truthy_bool ⟨H,I,q⟩
 | int i =>
  obtain⟨t,rfl⟩:=rx
  have e':k=(i != 0):=e
  subst e'
  exact PySem.P.truthy_int ⟨H,I,q⟩
 | str y =>
  obtain⟨t,rfl⟩:=rx
  obtain⟨hy,e'⟩:y.length<=sizeLine/\k=((y.length:Int) != 0):=e
  subst e'
  exact PySem.P.truthy_str (by omega) ⟨H,I.tok _,q⟩
 | byt y =>
  obtain⟨t,rfl⟩:=rx
  obtain⟨hy,e'⟩:y.size<=sizeLine/\k=((y.size:Int) != 0):=e
  subst e'
  exact PySem.W.truthy_bytes (by omega) ⟨H,I.tok _,q⟩
 | ref p =>
  cases rx
  have e':(∃ xs,SqL X.K H p xs/\k=!xs.isEmpty) \/ (∃ xs,SqT X.K H p xs/\k=!xs.isEmpty) \/ ∃ kvs,H p=some (.dK kvs)/\k=!kvs.isEmpty:=e
  rcases e' with⟨xs,hx,e'⟩ | ⟨xs,hx,e'⟩ | ⟨kvs,hx,e'⟩
  ·subst e'
   obtain⟨its,r,pl,hz⟩:=I.list hx
   have hlen:=r.length
   exact wpAny_truthy_list pl.isList (by simp only [amv];omega) ⟨H,I.tok _,by rw [aaj r];exact q⟩
  ·subst e'
   obtain⟨its,r,pl,hz⟩:=I.tuple hx
   have hlen:=r.length
   exact truthy_tuple pl (by simp only [amv];omega) ⟨H,I.tok _,by rw [aaj r];exact q⟩
  ·subst e'
   obtain⟨hz,hS,vs,r,m⟩:kvs.length<=sizeLine/\(p == sysModules)=false/\∃ vs,KV kvs vs/\s.heap.DictOf (abr X.prog X.w) p vs:=I.hok p _ hx
   have hlen:kvs.length=vs.length:=Paired.length r
   exact wpAny_truthy_dict hS m (by omega) ⟨H,I.tok _,by rw [adM r];exact q⟩
 | _=>exact (show False from e).elim
theorem agJ (ha:PE X a ta) (he:∀ whole,isTrue a X.env whole=(do let v <- whole;standAt a.pos;holding [v] (truthy v))) :
  PT X a (fun σ H Q=>ta σ H fun x H'=>∃ k,aku X.K x H' k/\Q k H'):=by
 intro pins s σ H Q I h
 exact isTrue_plain (thn (ha pins s σ H _ I h) fun v s1 ⟨x,H1,I1,r1,q1⟩=>akv pins s1 σ H1 x v Q I1 r1 q1) (he _)
theorem vals1 {x:V} {us:List Value} (r:Vals [x] us):∃ u,us=[u]/\RelV x u:=by
 cases r with
 | cons r1 r2=>cases r2;exact⟨_,rfl,r1⟩
theorem vals2 {x y:V} {us:List Value} (r:Vals [x,y] us):∃ u w',us=[u,w']/\RelV x u/\RelV y w':=by
 cases r with
 | cons r1 r2 =>
  cases r2 with
  | cons r3 r4=>cases r4;exact⟨_,_,rfl,r1,r3⟩
theorem agK:yj X (.builtin "abs") (fun xs H Q=>∃ i,xs=[.int i]/\Q (.int (if i<0 then -i else i)) H):=by
 intro pins s σ H xs us Q I r h
 obtain⟨i,rfl,q⟩:=h
 obtain⟨u,rfl,t,rfl⟩:=vals1 r
 exact call_abs_int fun u tk=>⟨.int (if i<0 then -i else i),H,I.tok _,⟨_,rfl⟩,q⟩
theorem afK (hc:X.calm=true):yj X (.builtin "max") (fun xs H Q=>∃ i j,xs=[.int i,.int j]/\Q (.int (if j > i then j else i)) H):=by
 intro pins s σ H xs us Q I r h
 obtain⟨i,j,rfl,q⟩:=h
 obtain⟨u,w',rfl,⟨t,rfl⟩,⟨t',rfl⟩⟩:=vals2 r
 refine max_two_ints (I.ok.hd hc) fun h' tk k=>⟨_,H,I.kept k,?_,q⟩
 by_cases hj:j > i
 ·rw [if_pos hj,if_pos hj];exact⟨_,rfl⟩
 ·rw [if_neg hj,if_neg hj];exact⟨_,rfl⟩
theorem vw (hc:X.calm=true):yj X (.builtin "min") (fun xs H Q=>∃ i j,xs=[.int i,.int j]/\Q (.int (if j<i then j else i)) H):=by
 intro pins s σ H xs us Q I r h
 obtain⟨i,j,rfl,q⟩:=h
 obtain⟨u,w',rfl,⟨t,rfl⟩,⟨t',rfl⟩⟩:=vals2 r
 refine min_two_ints (I.ok.hd hc) fun h' tk k=>⟨_,H,I.kept k,?_,q⟩
 by_cases hj:j<i
 ·rw [if_pos hj,if_pos hj];exact⟨_,rfl⟩
 ·rw [if_neg hj,if_neg hj];exact⟨_,rfl⟩
end
structure ObjM (h:Heap) (x dx C:Addr) (mA:Str->Option Value):Prop where
 obj:h.get? x=some (PySem.W.instObj C dx)
 ns:h.Ns1 dx mA
 ne:dx≠x
section
variable {prog:Program} {w:World} {A:Around} {E:Value->Shared->Prop} {s:Shared} {K:amk} {x dx C f:Addr} {mA:Str->Option Value} {name:Str} {v:Value}
end
structure Cls (K:amk) (C:Addr):Prop where
 pg:PySem.W.plainGet K C Str.empty=true
 hd:PySem.W.hasDictIn K C=true
 po:PySem.W.plainOver K C=true
 sa:anU K (.ref C) "__setattr__"=some (some (.builtin "object.__setattr__"))
structure Con (K:amk) (C:Addr) (f:Str) (v:V) (u:Value):Prop where
 at_:anU K (.ref C) f=some (some u)
 rel:RelV v u
 get:apl K u "__get__"=some none
 cp:PySem.W.copiedNames.contains f=false
structure Meth (K:amk) (C:Addr) (m:Str) (f:Addr):Prop where
 at_:anU K (.ref C) m=some (some (.ref f))
 fn:PySem.W.isFn K (.ref f)=true
 kp:am7 K (.ref f)=true
section
variable {X:Cx} {pins:List (Addr×Obj)} {σ:St} {H:Hp} {s:Shared} {a C dx:Addr} {fs:List (Str×V)} {f:Str} {v:V} {A:Around} {E:Value->Shared->Prop}
end
section
variable {X:Cx} {pins:List (Addr×Obj)} {σ:St} {H:Hp} {s:Shared} {A:Around} {E:Value->Shared->Prop} {Q:Value->Shared->Prop} {c:Value} {b:Bool}
inductive TyOf (K:amk) (H:Hp):V->Value->Prop where
 | non:TyOf K H .non (.type "NoneType")
 | bl (x:Bool):TyOf K H (.bl x) (.type "bool")
 | int (i:Int):TyOf K H (.int i) (.type "int")
 | str (x:Str):TyOf K H (.str x) (.type "str")
 | flt (x:UInt64):TyOf K H (.flt x) (.type "float")
 | lst {a:Addr} {xs:List V} (e:H a=some (.lst xs)):TyOf K H (.ref a) (.type "list")
 | frz {a:Addr} {o:Obj} {xs:List V} (e:H a=some (.frz o (.lst xs))):TyOf K H (.ref a) (.type "list")
 | tup {a:Addr} {xs:List V} (e:H a=some (.tup xs)):TyOf K H (.ref a) (.type "tuple")
 | dK {a:Addr} {kvs:List (Key×V)} (e:H a=some (.dK kvs)):TyOf K H (.ref a) (.type "dict")
 | dT {a:Addr} {kvs:List (List Key×V)} (e:H a=some (.dT kvs)):TyOf K H (.ref a) (.type "dict")
 | ins {a C dx:Addr} {fs:List (Str×V)} (e:H a=some (.ins C dx fs)) (cl:Cls K C) (ha:anU K (.ref C) "__class__"=some (some (.builtin "object.__class__")))
   (hn:apl K (.builtin "object.__class__") "__get__"=some (some (.builtin "getset_descriptor.__get__"))) (htk:PySem.W.takesIn K (.builtin "object.__class__")=some true)
   (hm:PySem.W.mroIn K C (.type "object")=some true):TyOf K H (.ref a) (.ref C)
end
structure Room (k:Nat) (A:Around):Prop where
 hd:A.handled=none
 dp:A.depth+3 * k+5<recursionLimit
 un:A.units+16 * k+200<cLine
theorem Room.mono {j k:Nat} {A:Around} (r:Room k A) (h:j<=k):Room j A:=⟨r.hd,by have:=r.dp;omega,by have:=r.un;omega⟩
theorem Room.deeper {k:Nat} {A:Around} (r:Room (k+1) A) (env:Env):Room k (A.deeper env) :=
 ⟨r.hd,by have:=r.dp;show A.depth+1+3 * k+5<_;omega,by have:=r.un;show A.units+3+16 * k+200<_;omega⟩
theorem Room.depth {k:Nat} {A:Around} (r:Room k A):A.depth<recursionLimit:=by have:=r.dp;omega
theorem Room.units {k:Nat} {A:Around} (r:Room k A):A.units+64<cLine:=by have:=r.un;omega
def qJ:TA:=fun _ H Q=>Q [] H
def yQ (ta:TE) (tr:TA):TA:=fun σ H Q=>ta σ H fun x H1=>tr σ H1 fun xs H2=>Q (x :: xs) H2
section
variable {X:Cx} {e:Expr} {es:List Expr} {te:TE} {t:TA} {pos:Pos}
theorem zb:PA X [] qJ:=fun _ _ _ _ H Q I h=>Calls.spliced_nil ⟨[],H,I,.nil,h⟩
theorem za (ha:PE X e te) (hr:PA X es t) (hs:starEach (e :: es) X.env=(false,eval e X.env) :: starEach es X.env:=by rfl):PA X (e :: es) (yQ te t):=by
 intro pos pins s σ H Q I h
 rw [hs]
 show wpAny _ _ (spliced ((false,eval e X.env) :: backTo pos (starEach es X.env))) _ _ s
 refine Calls.spliced_cons (thn (ha pins s σ H _ I h) fun u s1 ⟨x,H1,I1,r1,q1⟩=>?_)
 exact thn (hr pos pins s1 σ H1 _ I1 q1) fun us s2 ⟨xs,H2,I2,r2,q2⟩=>⟨x :: xs,H2,I2,.cons r1 r2,q2⟩
def alB (t:TA):TE:=fun σ H Q=>t σ H fun xs H1=>xs.length<=sizeLine/\∀ p,H1 p=none->Q (.ref p) (upd H1 p (.tup xs))
def agL (t:TA):TE:=fun σ H Q=>t σ H fun xs H1=>xs.length<=sizeLine/\∀ p,H1 p=none->Q (.ref p) (upd H1 p (.lst xs))
theorem zF {x1} (h:PA X es t):PE X (.Tuple es x1 pos) (alB t):=by
 intro pins s σ H Q I hq
 refine wpAny_Tuple_spliced (thn (h pos pins s σ H _ I hq) fun us s1 ⟨xs,H1,I1,r,z,q⟩=>⟨by rw [<-r.length];exact z,?_⟩)
 have hf:H1 s1.heap.objs.size=none:=I1.hok.fresh (amn _)
 refine⟨.ref s1.heap.objs.size,upd H1 s1.heap.objs.size (.tup xs),I1.laid (t':=s1.toks) (fun b u e=>amq _ e) (amn _) ?_,rfl,q _ hf⟩
 exact⟨z,us,r,⟨_,amH _ rfl,rfl,_,rfl⟩⟩
theorem yz (h:PA X es t):PE X (.List es pos) (agL t):=by
 intro pins s σ H Q I hq
 refine wpAny_List_spliced (thn (h pos pins s σ H _ I hq) fun us s1 ⟨xs,H1,I1,r,z,q⟩=>⟨by rw [<-r.length];exact z,?_⟩)
 have hf:H1 s1.heap.objs.size=none:=I1.hok.fresh (amn _)
 refine⟨.ref s1.heap.objs.size,upd H1 s1.heap.objs.size (.lst xs),I1.laid (t':=s1.toks) (fun b u e=>amq _ e) (amn _) ?_,rfl,q _ hf⟩
 exact⟨z,us,0,r,amH _ rfl⟩
end
abbrev Sp:=List V->Hp->VK->XK->Prop
abbrev CXT:=List Env->Hp->Shared->XK->Value->Shared->Prop
structure Env0 (P:Program) (w:World) (K:amk) (mg:Str->Option Value) (base:Heap) (A:Around) (outer:List Env) (s:Shared) (H:Hp):Prop where
 frames:A.frames=some outer
 mod:Mod K mg base
 bs:∀ b o,base.get? b=some o->s.heap.get? b=some o/\H b=none
 bsz:base.objs.size<=s.heap.objs.size
 funs:s.heap.FunFrames base outer
 frf:∀ b∈frs outer,H b=none
 hok:HOk P w H s.heap
 bare:AllBare s.gens
def CE (outer:List Env) (P:Program) (w:World) (H:Hp) (s:Shared) (Q:VK) (u:Value) (s':Shared):Prop :=
 ∃ v H',s'.os=s.os/\AllBare s'.gens/\Un (frs outer) [] H H' s.heap s'.heap/\HOk P w H' s'.heap/\RelV v u/\Q v H'
def CR (CX:CXT) (outer:List Env) (P:Program) (w:World) (H:Hp) (s:Shared) (Q:VK) (E:XK) (r:Result) (s':Shared):Prop :=
 match r with
 | .ok (.ret u)=>CE outer P w H s Q u s'
 | .ok _=>False
 | .error e=>CX outer H s E e s'
structure FnOk (P:Program) (w:World) (K:amk) (mg:Str->Option Value) (base:Heap) (CX:CXT) (k:Nat) (f:Addr) (fd:FuncData) (ps:List Str) (sp:Sp):Prop where
 len:∀ vs H Q E,sp vs H Q E->vs.length=ps.length
 run:∀ (A:Around) (outer:List Env) (s:Shared) (H:Hp) (args:Args) (us:List Value) (vs:List V) (Q:VK) (E:XK),Room k A->Env0 P w K mg base A outer s H->BindsTo s fd args (ps.zip us)->Vals vs us->sp vs H Q E ->
  codeAny (model P w) A (.call (.ref f) args) (CR CX outer P w H s Q E) s
theorem FnOk.mono {P:Program} {w:World} {K:amk} {mg:Str->Option Value} {base:Heap} {CX:CXT} {j k:Nat} {f:Addr} {fd:FuncData} {ps:List Str} {sp:Sp} (F:FnOk P w K mg base CX j f fd ps sp) (h:j<=k) :
  FnOk P w K mg base CX k f fd ps sp:=⟨F.len,fun A outer s H args us vs Q E hr=>F.run A outer s H args us vs Q E (hr.mono h)⟩
section
variable {X:Cx} {pins:List (Addr×Obj)} {σ:St} {H:Hp} {s s':Shared}
theorem Inv.env0 (I:Inv X pins σ H s):Env0 X.prog X.w X.K X.mg X.base X.A X.stack s H :=
 ⟨I.ok.frames,I.ok.mod,I.bs,amO I.ok.bsz I.sz,I.stack,I.stkFree,I.hok,I.bare⟩
theorem Inv.after {Q:VK} {u:Value} (I:Inv X pins σ H s) (h:CE X.stack X.prog X.w H s Q u s'):EP X pins σ Q u s':=by
 obtain⟨v,H',os,bare,un,hok,r,q⟩:=h
 obtain⟨hh,g,d,t,os'⟩:=s'
 obtain rfl:os'=s.os:=os
 exact⟨v,H',I.call (h':=hh) (g':=g) (d':=d) (t':=t) (ch:=[]) un hok bare (fun b z=>absurd z (by simp)),r,q⟩
end
def acu (sp:Sp) (dvs:List V) (E:XK) (t:TA):TE:=fun σ H Q=>t σ H fun vs H1=>sp (vs++dvs) H1 Q E
def Binds (K:amk) (fd:FuncData) (ps:List Str) (ds:List Value):Prop :=
 ∀ (s:Shared) (us:List Value),K.In s.heap->(us++ds).length=ps.length->BindsTo s fd ⟨us,[]⟩ (ps.zip (us++ds))
theorem Binds.all {K:amk} {fd:FuncData} {ps:List Str} (h:∀ us:List Value,us.length=ps.length->bindArgs fd ⟨us,[]⟩=pure (ps.zip us)):Binds K fd ps []:=fun s us _ hl=>by
 rw [anj] at hl ⊢
 exact .of_eq (h us hl)
def Passes (CX:CXT) (X:Cx) (E:XK):Prop:=∀ (pins:List (Addr×Obj)) (σ:St) (H:Hp) (s:Shared) (e:Value) (s':Shared),Inv X pins σ H s->CX X.stack H s E e s'->X.xe e s'
section
variable {X:Cx} {CX:CXT} {k:Nat} {f C:Addr} {fd:FuncData} {ps:List Str} {sp:Sp} {dvs:List V} {ds:List Value} {E:XK} {x m:Str} {p pos apos:Pos} {e o:Expr} {es:List Expr} {ta:TE} {t:TA}
theorem akw {pins:List (Addr×Obj)} {σ:St} {H:Hp} {s:Shared} {Q:VK} {us:List Value} {vs:List V} (F:FnOk X.prog X.w X.K X.mg X.base CX k f fd ps sp) (hr:Room k X.A) (hb:Binds X.K fd ps ds) (hd:Vals dvs ds) (hx:Passes CX X E)
  (I:Inv X pins σ H s) (r:Vals vs us) (h:sp (vs++dvs) H Q E):wpAny (model X.prog X.w) X.A (call (.ref f) us) (EP X pins σ Q) X.xe s:=by
 have r2:Vals (vs++dvs) (us++ds):=r.append hd
 have hl:(us++ds).length=ps.length:=by rw [<-r2.length];exact F.len _ _ _ _ h
 refine wpAny_call (codeAny_mono (F.run X.A X.stack s H ⟨us,[]⟩ (us++ds) (vs++dvs) Q E hr I.env0 (hb s us I.kIn hl) r2 h) fun r s' hq=>?_)
 cases r with
 | error e=>exact hx pins σ H s e s' I hq
 | ok fl =>
  cases fl with
  | ret u=>exact I.after hq
  | next=>exact anY hq
  | brk=>exact anY hq
  | cont=>exact anY hq
theorem aiA (F:FnOk X.prog X.w X.K X.mg X.base CX k f fd ps sp) (hr:Room k X.A) (hg:Gl X x) (hm:X.mg x=some (.ref f)) (hk:am7 X.K (.ref f)=true) (hb:Binds X.K fd ps ds) (hd:Vals dvs ds) (hx:Passes CX X E)
  (ha:PA X (e :: es) t) (hdb:(x == ("__debug__":Str))=false:=by decide) (he:starEach (e :: es) X.env=(false,eval e X.env) :: starEach es X.env:=by rfl) (hpl:(backTo pos (starEach es X.env)).any (·.1)=false:=by rfl) :
  PE X (.Call (.Name x p) (e :: es) [] pos) (acu sp dvs E t):=by
 intro pins s σ H Q I h
 refine wpAny_Call_Name_kw (abu I hg hm ?_ hdb)
 refine PySem.W.callWith_K (h₀:=X.base) I.ok.mod.kin hk (thn (ha pos pins s σ H _ I h) fun us s1 ⟨vs,H1,I1,r,q⟩=>⟨I1.kIn,?_⟩) he hpl
 exact akw F hr hb hd hx I1 r q
structure Mk (K:amk) (C f:Addr):Prop where
 makes:PySem.W.makesIn K C=true
 init:anU K (.ref C) "__init__"=some (some (.ref f))
 fn:PySem.W.isFn K (.ref f)=true
 kp:am7 K (.ref C)=true
end
section
variable {X:Cx} {CX:CXT} {k:Nat} {f C:Addr} {fd:FuncData} {ps ks:List Str} {sp:Sp} {E:XK} {x m:Str} {p pos apos kpos:Pos} {e o:Expr} {es:List Expr} {kws:List Keyword} {te ta:TE} {t tk:TA} {nm:Option Str}
structure KBinds (K:amk) (fd:FuncData) (ps ks:List Str) (g:List Value->List Value->List Value) (gV:List V->List V->List V):Prop where
 to:∀ (s:Shared) (us ws:List Value),K.In s.heap->(g us ws).length=ps.length->BindsTo s fd ⟨us,ks.zip ws⟩ (ps.zip (g us ws))
 rel:∀ {vs:List V} {us:List Value} {zs:List V} {ws:List Value},Vals vs us->Vals zs ws->Vals (gV vs zs) (g us ws)
variable {g:List Value->List Value->List Value} {gV:List V->List V->List V}
end
structure FnScope (N P:List Str) (sc:Scope):Prop where
 kind:sc.kind=.function
 co:sc.isCoroutine=false
 gen:sc.isGenerator=false
 nd:N.Nodup
 pre:N.take P.length=P
 par:∀ x∈P,sc.names.lookup x=some .local \/ sc.names.lookup x=some .cell
 nofree:∀ y∈sc.names,y.2≠.free
theorem aa0 {kindOf:Str->Option NameKind} {x:Str}:∀ {binds:List (Str×Value)} {m:Str->Option Value},(∀ v,(x,v)∉binds)->bindL kindOf binds m x=m x
 | [],_,_=>rfl
 | (n,v) :: r,m,h=>by
  unfold bindL
  rw [aa0 fun w hw=>h w (amo _ hw)]
  split
  ·have:x≠n:=by rintro rfl;exact h v amm
   simp [this]
  ·rfl
theorem aa1 {kindOf:Str->Option NameKind} {x:Str}:∀ {binds:List (Str×Value)} {m:Str->Option Value},(∀ v,(x,v)∉binds)->bindC kindOf binds m x=m x
 | [],_,_=>rfl
 | (n,v) :: r,m,h=>by
  unfold bindC
  rw [aa1 fun w hw=>h w (amo _ hw)]
  split
  ·rfl
  ·have:x≠n:=by rintro rfl;exact h v amm
   simp [this]
theorem aa2 {kindOf:Str->Option NameKind} {x:Str} {v:Value}:∀ {P:List Str} {vs:List Value} {i:Nat} {m:Str->Option Value},P.Nodup->P[i]?=some x->vs[i]?=some v->kindOf x=some .local ->
  bindL kindOf (P.zip vs) m x=some v
 | [],_,_,_,_,h,_,_=>by simp at h
 | _ :: _,[],_,_,_,_,h,_=>by simp at h
 | p :: P,w :: vs,0,m,nd,h1,h2,hk=>by
  simp at h1 h2;subst h1;subst h2
  show bindL kindOf ((p,w) :: P.zip vs) m p=_
  unfold bindL
  rw [aa0 fun v hv=>(anc.mp nd).1 (apF hv).1,if_pos hk]
  simp
 | p :: P,w :: vs,i+1,m,nd,h1,h2,hk=>by
  show bindL kindOf ((p,w) :: P.zip vs) m x=_
  unfold bindL
  exact aa2 (i:=i) (anc.mp nd).2 (by simpa using h1) (by simpa using h2) hk
theorem aa3 {kindOf:Str->Option NameKind} {x:Str} {v:Value}:∀ {P:List Str} {vs:List Value} {i:Nat} {m:Str->Option Value},P.Nodup->P[i]?=some x->vs[i]?=some v->kindOf x≠some .local ->
  bindC kindOf (P.zip vs) m x=some v
 | [],_,_,_,_,h,_,_=>by simp at h
 | _ :: _,[],_,_,_,_,h,_=>by simp at h
 | p :: P,w :: vs,0,m,nd,h1,h2,hk=>by
  simp at h1 h2;subst h1;subst h2
  show bindC kindOf ((p,w) :: P.zip vs) m p=_
  unfold bindC
  rw [aa1 fun v hv=>(anc.mp nd).1 (apF hv).1,if_neg hk]
  simp
 | p :: P,w :: vs,i+1,m,nd,h1,h2,hk=>by
  show bindC kindOf ((p,w) :: P.zip vs) m x=_
  unfold bindC
  exact aa3 (i:=i) (anc.mp nd).2 (by simpa using h1) (by simpa using h2) hk
def start (N:List Str) (vs:List V):St:=vs.map some++aol (N.length - vs.length) none
def z9 (CX:CXT) (P:Program) (w:World) (K:amk) (mg:Str->Option Value) (base:Heap) (N:List Str) (qual:Str) (scope:Scope) (f:Addr) (cd:Value) (A:Around) (outer:List Env) (s:Shared) (H:Hp) (E:XK):Cx where
 prog:=P
 w:=w
 K:=K
 mg:=mg
 base:=base
 A:=A.deeper (envOfC qual scope s.heap.objs.size f cd)
 N:=N
 s₀:=s
 H₀:=H
 env:=envOfC qual scope s.heap.objs.size f cd
 outer:=outer
 stack:=envOfC qual scope s.heap.objs.size f cd :: outer
 ex:=[]
 calm:=true
 fn:=fun _=>true
 pn:=[]
 xe:=fun e s'=>wpAny (model P w) (A.deeper (envOfC qual scope s.heap.objs.size f cd)) (leaving (envOfC qual scope s.heap.objs.size f cd) e) (fun _ s''=>CX outer H s E e s'') (fun e' s''=>CX outer H s E e' s'') s'
theorem acv {sc:Scope} {n:Nat} {x:Str} (h:sc.names.lookup x=some .cell):∃ c,(cellsFrom n sc.names []).lookup x=some c:=by
 have q:=anZ sc.names n [] (.inl h)
 exact aov.mp q
theorem afL {CX:CXT} {P:Program} {w:World} {K:amk} {mg:Str->Option Value} {base:Heap} {N ps:List Str} {qual:Str} {scope:Scope} {f:Addr} {cd:Value} {A:Around} {outer:List Env} {s s1:Shared} {H:Hp} {E:XK} {us:List Value} {vs:List V}
  (S:FnScope N ps scope) (hd:A.handled=none) (e0:Env0 P w K mg base A outer s H) (hl:vs.length=ps.length) (r:Vals vs us)
  (x:InCallC s s.heap.objs.size (bindL (envOfC qual scope s.heap.objs.size f cd).kindOf (ps.zip us) fun _=>none) (cellsFrom (s.heap.objs.size+1) scope.names []) (bindC (envOfC qual scope s.heap.objs.size f cd).kindOf (ps.zip us) fun _=>none) s1) :
  Inv (z9 CX P w K mg base N qual scope f cd A outer s H E) [] (start N vs) H s1:=by
 have hpl:ps.length<=N.length:=by have:=congrArg ap3 S.pre;rw [amW] at this;omega
 obtain⟨h1,tk,rfl,hk⟩:=x.done
 have noA:∀ b:Addr,b∉(z9 CX P w K mg base N qual scope f cd A outer s H E).ex:=fun b z=>absurd (show b∈([]:List Addr) from z) (by simp)
 refine⟨⟨e0.mod,S.kind,rfl,rfl,amn _,fun y z c h1 h2=>?_,fun y hy=>?_,fun y c _ h=>?_,fun _=>hd,Around.frames_deeper e0.frames,.inr ⟨rfl,rfl⟩,fun b z=>absurd z (noA b),e0.bs,e0.bsz,fun b _ _=>noA b,fun b z=>absurd z (noA b),e0.funs,e0.frf⟩,
  rfl,e0.bare,Un.kept hk,⟨_,x.toInCall.ns,fun i y v h1 h2 h3=>?_⟩,fun y c h=>⟨_,x.cell y c h⟩,e0.hok.fresh (amn _),fun y c h=>?_,fun p hp=>absurd (show p∈([]:List (Addr×Obj)) from hp) (by simp),e0.hok.kept hk,?_⟩
 ·exact name_of_addr x.apart (anS h1) (anS h2)
 ·have hy:scope.names.lookup y=some .cell \/ scope.names.lookup y=some .free:=hy
  rcases hy with hy | hy
  ·exact acv hy
  ·exact absurd rfl (S.nofree _ (anS hy))
 ·exact anb (x.above y c (anS h))
 ·have hi:i<vs.length:=by
   unfold start at h2
   by_cases hi:i<vs.length
   ·exact hi
   ·rw [amx (by simpa using hi)] at h2
    rw [anV] at h2
    split at h2 <;> cases h2
  have ha:vs[i]?=some v:=by
   unfold start at h2
   rw [amr (by simpa using hi),aml] at h2
   cases e:vs[i]? with
   | none=>rw [e] at h2;cases h2
   | some a=>rw [e] at h2;cases h2;rfl
  obtain⟨u,hu,rv⟩:=r.get ha
  have hp:ps[i]?=some y:=by
   rw [<-S.pre,aow (by omega)];exact h1
  have ndP:ps.Nodup:=by rw [<-S.pre];exact S.nd.sublist (List.take_sublist _ _)
  refine⟨u,rv,?_⟩
  rcases S.par y (amw hp) with k | k
  ·exact .inl ⟨k,aa2 ndP hp hu k⟩
  ·obtain⟨c,e⟩:=acv (n:=s.heap.objs.size+1) k
   refine .inr ⟨.inl k,c,e,?_⟩
   have q:=x.cell y c e
   rw [aa3 ndP hp hu (by show scope.names.lookup y≠_;rw [k];decide)] at q
   exact q
 ·exact e0.hok.fresh (anb (x.above y c (anS h)))
 ·unfold start
  show _=N.length
  rw [amD,amg,aoQ]
  omega
theorem alC {CX:CXT} {P:Program} {w:World} {K:amk} {mg:Str->Option Value} {base:Heap} {k:Nat} {f:Addr} {name qual:Str} {params:Arguments} {body:List Stmt} {scope:Scope} {dV kV doc pm cdv ct oc:Value} {an od:Option Addr}
  {osl:Array (Option Value)} {N ps:List Str} {sp:Sp} (lk:K.lookup f=some ⟨oc,od,.func (anP name qual params body scope dV kV doc pm an cdv ct),osl⟩) (hcd:apc K cdv qual=true) (S:FnScope N ps scope)
  (len:∀ vs H Q E,sp vs H Q E->vs.length=ps.length)
  (hbody:∀ (A:Around) (outer:List Env) (s:Shared) (H:Hp) (vs:List V) (Q:VK) (E:XK),Room k (A.deeper (envOfC qual scope s.heap.objs.size f cdv))->sp vs H Q E ->
   ∃ t,PSs (z9 CX P w K mg base N qual scope f cdv A outer s H E) body t/\t { nx:=fun _ H'=>Q .non H',rt:=Q } (start N vs) H) :
  FnOk P w K mg base CX (k+1) f (anP name qual params body scope dV kV doc pm an cdv ct) ps sp:=by
 refine⟨len,fun A outer s H args us vs Q E hr e0 hb r hsp=>?_⟩
 have hl:=len _ _ _ _ hsp
 have KX:K.In s.heap:=e0.mod.kin.keeps fun b o e=>(e0.bs b o e).1
 have lim:s.heap.NoLimit:=e0.mod.nolimit.keeps fun b o e=>(e0.bs b o e).1
 have hkind:∀ y∈ps.zip us,scope.names.lookup y.1=some .local \/ (scope.names.lookup y.1=some .cell/\((cellsFrom (s.heap.objs.size+1) scope.names []).lookup y.1).isSome=true):=fun⟨n,v⟩ hy=>by
  rcases S.par n (apF hy).1 with q | q
  ·exact .inl q
  ·exact .inr ⟨q,anZ _ _ _ (.inl q)⟩
 refine codeAny_call_function hr.depth (KX _ _ lk) rfl S.co S.gen rfl (PySem.W.codeRec_of KX hcd) (hb _ _ _ _ ?_)
 refine wpAny_newFunctionEnv_cells S.kind hkind fun env he s1 x=>?_
 subst he
 refine⟨lim.keeps x.toInCall.keep,codeAny_func ?_⟩
 obtain⟨t,ht,hq⟩:=hbody A outer s H vs Q E (hr.deeper _) hsp
 have I:Inv (z9 CX P w K mg base N qual scope f cdv A outer s H E) [] (start N vs) H s1:=afL S hr.hd e0 hl r x
 refine wpAny_mono (ht [] s1 (start N vs) H _ I hq) (fun fl s' hs=>?_) fun e s' hs=>hs
 have fin:∀ {σ':St} {H':Hp} {v:V} {u:Value},Inv (z9 CX P w K mg base N qual scope f cdv A outer s H E) [] σ' H' s'->RelV v u->Q v H'->CE outer P w H s Q u s' :=
  fun {σ' H' v u} J rv q=>⟨v,H',J.os,J.bare,J.base,J.hok,rv,q⟩
 cases fl with
 | ret u =>
  obtain⟨v,σ',H',J,rv,q⟩:=hs
  exact fin J rv q
 | next =>
  obtain⟨σ',H',J,q⟩:=hs
  exact fin (v:=V.non) (u:=Value.none) J rfl q
 | brk =>
  obtain⟨_,_,_,q⟩:=hs
  exact anY q
 | cont =>
  obtain⟨_,_,_,q⟩:=hs
  exact anY q
section
variable {X:Cx} {x:Str} {p pos:Pos} {e:Expr} {es:List Expr} {t:TA} {id T:String} {r:List V->Hp->VK->Prop}
def tCB (r:List V->Hp->VK->Prop) (t:TA):TE:=fun σ H Q=>t σ H fun vs H1=>r vs H1 Q
theorem zw (hc:yj X (.builtin id) r) (hg:Gl X x) (hm:X.mg x=none) (hv:bootBuiltins x=some (.builtin id)) (ha:PA X (e :: es) t) (hn:x ≠ "__name__":=by decide) (hdb:(x == ("__debug__":Str))=false:=by decide)
  (he:starEach (e :: es) X.env=(false,eval e X.env) :: starEach es X.env:=by rfl) (hpl:(backTo pos (starEach es X.env)).any (·.1)=false:=by rfl):PE X (.Call (.Name x p) (e :: es) [] pos) (tCB r t):=by
 intro pins s σ H Q I h
 refine wpAny_Call_Name_kw (vq I hg hm hv ?_ hn hdb)
 exact PyProof.Rows.callWith_builtin1 (thn (ha pos pins s σ H _ I h) fun us s1 ⟨vs,H1,I1,r1,q1⟩=>hc pins s1 σ H1 vs us Q I1 r1 q1) he hpl
theorem vx (hc:yj X (.type T) r) (hg:Gl X x) (hm:X.mg x=none) (hv:bootBuiltins x=some (.type T)) (ha:PA X (e :: es) t) (hn:x ≠ "__name__":=by decide) (hdb:(x == ("__debug__":Str))=false:=by decide)
  (he:starEach (e :: es) X.env=(false,eval e X.env) :: starEach es X.env:=by rfl) (hpl:(backTo pos (starEach es X.env)).any (·.1)=false:=by rfl):PE X (.Call (.Name x p) (e :: es) [] pos) (tCB r t):=by
 intro pins s σ H Q I h
 refine wpAny_Call_Name_kw (vq I hg hm hv ?_ hn hdb)
 exact anz (thn (ha pos pins s σ H _ I h) fun us s1 ⟨vs,H1,I1,r1,q1⟩=>hc pins s1 σ H1 vs us Q I1 r1 q1) he hpl
theorem adN (hc:yj X (.type T) r) (hg:Gl X x) (hm:X.mg x=none) (hv:bootBuiltins x=some (.type T)) (hn:x ≠ "__name__":=by decide) (hdb:(x == ("__debug__":Str))=false:=by decide) :
  PE X (.Call (.Name x p) [] [] pos) (tCB r qJ):=by
 intro pins s σ H Q I h
 refine wpAny_Call_Name_kw (vq I hg hm hv ?_ hn hdb)
 exact PyProof.Rows.callWith_type0 (hc pins s σ H [] [] Q I .nil h)
end
end L2
namespace HT
open PySem PyProof.Rows
theorem rcLt_int (A:Around) (s:Shared) (a:Int) (t:Tok) (c:Int) (u:Tok) (prog:Program) (w:World) (E:Value->Shared->Prop) (Q:Value->Shared->Prop) (h:Q (.bool (decide (a<c))) s) :
  wpAny (model prog w) A (richCompare .Lt (.int a t) (.int c u)) Q E s :=
 (PyProof.Rows.lt_int h:wpAny (model prog w) A (compareOp .Lt (.int a t) (.int c u)) Q E s)
section
open PySem.SeqAt
open PySem.AutoSeq1 (wpAny_loadPart')
open PySem.MeetsSeq PySem.MeetsSeq2 PySem.MeetsSeq3
end
section
variable {prog:Program} {w:World} {A:Around} {E:Value->Shared->Prop} {s:Shared}
def sIx (n d:Nat):Option Int->Nat
 | none=>d
 | some v=>if v<0 then (v+(n:Int)).toNat else min v.toNat n
theorem sIx_none (n d:Nat):sIx n d none=d:=rfl
theorem sIx_nat (n d k:Nat):sIx n d (some (k:Int))=min k n:=by
 show (if (k:Int)<0 then ((k:Int)+(n:Int)).toNat else min (k:Int).toNat n)=min k n
 rw [if_neg (by omega),anr]
end
end HT
namespace L2
open PySem PySem.Spec PyProof.Rows
abbrev TO:=St->Hp->(Option Int->Hp->Prop)->Prop
def PO (X:Cx) (e:Option Expr) (t:TO):Prop :=
 ∀ (pins:List (Addr×Obj)) (s:Shared) (σ:St) (H:Hp) (Q:Option Int->Hp->Prop),Inv X pins σ H s->t σ H Q ->
  wpAny (model X.prog X.w) X.A (evalPart e X.env) (fun u s'=>∃ o H',Inv X pins σ H' s'/\IsPart u o/\Q o H') X.xe s
def aey:TO:=fun _ H Q=>Q none H
def ajO (t:TE):TO:=fun σ H Q=>t σ H fun x H1=>∃ i,x=.int i/\Q (some i) H1
theorem intsAre_of {ns:List Int}:∀ {us:List Value},Vals (ns.map V.int) us->IntsAre us ns:=by
 induction ns with
 | nil=>intro us r;rw [ao8] at r;cases r;exact .nil
 | cons n ns ih =>
  intro us r
  rw [amG] at r
  cases r with
  | cons r1 r2 =>
   obtain⟨t,e⟩:=r1
   subst e
   exact .cons n t (ih r2)
section
variable {X:Cx} {e:Expr} {te:TE} {lo hi:Option Expr} {tl th:TO} {pos p2:Pos}
theorem aez:PO X none aey:=by
 intro pins s σ H Q I h
 rw [evalPart_none]
 exact wpAny_pure ⟨none,H,I,.none,h⟩
theorem aeA (h:PE X e te):PO X (some e) (ajO te):=by
 intro pins s σ H Q I hw
 rw [evalPart_some]
 refine thn (h pins s σ H _ I hw) fun u s1 ⟨x,H1,I1,r1,q1⟩=>?_
 obtain⟨i,rfl,q⟩:=q1
 obtain⟨t,rfl⟩:=r1
 exact⟨some i,H1,I1,.int i t,q⟩
def SlR (X:Cx) (r:V->Option Int->Option Int->Hp->VK->Prop):Prop :=
 ∀ (pins:List (Addr×Obj)) (s:Shared) (σ:St) (H:Hp) (x:V) (v vl vu:Value) (lo hi:Option Int) (sl:Addr) (Q:VK),Inv X pins σ H s->RelV x v->s.heap.IsSliceOf sl vl vu .none->IsPart vl lo->IsPart vu hi->r x lo hi H Q ->
  ∃ T id,typeLookup (.type T) "__getitem__"=pure (some (.builtin id))/\s.TypeIs v T/\wpAny (model X.prog X.w) X.A (getItem v (.ref sl)) (EP X pins σ Q) X.xe s
def tSl (r:V->Option Int->Option Int->Hp->VK->Prop) (te:TE) (tl th:TO):TE:=fun σ H Q=>te σ H fun x H1=>tl σ H1 fun l H2=>th σ H2 fun u H3=>r x l u H3 Q
theorem acw {r:V->Option Int->Option Int->Hp->VK->Prop} (hr:SlR X r) (he:PE X e te) (hl:PO X lo tl) (hu:PO X hi th):PE X (.Subscript e (.Slice lo hi none p2) pos) (tSl r te tl th):=by
 intro pins s σ H Q I h
 refine Subscript_ (thn (he pins s σ H _ I h) fun v s1 ⟨x,H1,I1,r1,q1⟩=>?_)
 refine wpAny_Slice (thn (hl pins s1 σ H1 _ I1 q1) fun vl s2 ⟨l,H2,I2,pl,q2⟩=>thn (hu pins s2 σ H2 _ I2 q2) fun vu s3 ⟨u,H3,I3,pu,q3⟩=>?_)
 rw [evalPart_none]
 refine wpAny_pure ?_
 have I4:Inv X pins σ H3 { s3 with heap:=s3.heap.push { cls:=.type "slice",data:=.fields #[vl,vu,.none] } }:=I3.kept (t':=s3.toks) fun b ob q=>amq _ q
 obtain⟨T,id,hT,ht,hg⟩:=hr pins { s3 with heap:=s3.heap.push { cls:=.type "slice",data:=.fields #[vl,vu,.none] } } σ H3 x v vl vu l u s3.heap.objs.size Q I4 r1 (Heap.IsSliceOf.new ..) pl pu q3
 show wpAny (model X.prog X.w) X.A (subscriptTail e (.Slice lo hi none p2) v (.ref s3.heap.objs.size)) (EP X pins σ Q) X.xe { s3 with heap:=s3.heap.push { cls:=.type "slice",data:=.fields #[vl,vu,.none] } }
 exact tail_any (ops:=[.ref s3.heap.objs.size,v]) ht hT hg (by with_unfolding_all rfl)
def adO (xs:List V) (lo hi:Option Int):List V:=(xs.drop (HT.sIx xs.length 0 lo)).take (HT.sIx xs.length xs.length hi - HT.sIx xs.length 0 lo)
theorem acx (xs:List V) (lo hi:Option Int):(adO xs lo hi).length<=xs.length:=by
 unfold adO
 rw [amW,anW]
 omega
end
def ixN (n:Nat) (i:Int):Option Nat:=if 0<=i then (if i<n then some i.toNat else none) else if -(n:Int)<=i then some (i+n).toNat else none
def atI {α:Type} (xs:List α) (i:Int):Option α:=(ixN xs.length i).bind fun j=>xs[j]?
theorem aeB {n:Nat} {i:Int} {j:Nat} (h:ixN n i=some j):seqIndex? i n=some j/\j<n/\-(n:Int)<=i/\i<n:=by
 unfold ixN at h
 by_cases h0:0<=i
 ·rw [if_pos h0] at h
  by_cases h1:i<n
  ·rw [if_pos h1] at h
   have e:i.toNat=j:=Option.some.inj h
   exact⟨by rw [seqIndex_of h0 h1,e],by omega,by omega,h1⟩
  ·rw [if_neg h1] at h;cases h
 ·rw [if_neg h0] at h
  by_cases h1:-(n:Int)<=i
  ·rw [if_pos h1] at h
   have e:(i+n).toNat=j:=Option.some.inj h
   exact⟨by rw [seqIndex_neg (by omega) h1,e],by omega,h1,by omega⟩
  ·rw [if_neg h1] at h;cases h
theorem aeC {α:Type} {xs:List α} {i:Int} {v:α} (h:atI xs i=some v):∃ j,seqIndex? i xs.length=some j/\xs[j]?=some v/\j<xs.length/\-(xs.length:Int)<=i/\i<xs.length:=by
 unfold atI at h
 cases e:ixN xs.length i with
 | none=>rw [e] at h;cases h
 | some j =>
  rw [e] at h
  obtain⟨h1,h2,h3,h4⟩:=aeB e
  exact⟨j,h1,h,h2,h3,h4⟩
theorem aeD {α:Type} {xs:List α} {j:Nat} {v:α} (h:xs[j]?=some v):atI xs (j:Int)=some v:=by
 have hj:j<xs.length:=(ami.mp h).1
 have e:ixN xs.length (j:Int)=some j:=by
  unfold ixN
  rw [if_pos (by omega),if_pos (by omega)];simp
 unfold atI;rw [e];exact h
def aeE (b:Expr):Prop:=∀ o i,subscripted b false o i=operate [o,i] (getItem o i)
def IxR (X:Cx) (r:R2):Prop :=
 ∀ (value slice:Expr) (pins:List (Addr×Obj)) (s:Shared) (σ:St) (H:Hp) (x y:V) (v u:Value) (Q:VK),Inv X pins σ H s->RelV x v->RelV y u->r x y H Q ->
  subscripted slice false v u=operate [v,u] (getItem v u)->wpAny (model X.prog X.w) X.A (subscriptTail value slice v u) (EP X pins σ Q) X.xe s
def MtR (X:Cx) (id:String) (r:V->List V->Hp->VK->Prop):Prop :=
 ∀ (pins:List (Addr×Obj)) (s:Shared) (σ:St) (H:Hp) (x:V) (xs:List V) (v:Value) (us:List Value) (Q:VK),Inv X pins σ H s->RelV x v->Vals xs us->r x xs H Q ->
  wpAny (model X.prog X.w) X.A (call (.builtin id) (v :: us)) (EP X pins σ Q) X.xe s
section
variable {X:Cx} {a b:Expr} {ta tb:TE} {pos:Pos}
theorem zX {r:R2} (hr:IxR X r) (ha:PE X a ta) (hb:PE X b tb) (hs:aeE b):PE X (.Subscript a b pos) (tOp r ta tb):=by
 intro pins s σ H Q I h
 exact Subscript_ (akq ha hb I h fun v u s2 x y H2 I2 rx ry q=>hr a b pins s2 σ H2 x y v u Q I2 rx ry q (hs _ _))
def afM (K:amk):R2:=fun x y H Q=>∃ p xs i v,x=.ref p/\y=.int i/\SqL K H p xs/\atI xs i=some v/\Q v H
def akx (K:amk):R2:=fun x y H Q=>∃ p xs i v,x=.ref p/\y=.int i/\SqT K H p xs/\atI xs i=some v/\Q v H
theorem aiB:IxR X (afM X.K):=by
 intro value slice pins s σ H x y v u Q I rx ry h hs
 obtain⟨p,xs,i,z,rfl,rfl,hq,he,q⟩:=h
 cases rx
 obtain⟨t,rfl⟩:=ry
 obtain⟨its,r,pl,hz⟩:=I.list hq
 obtain⟨j,h1,h2,h3,h4,h5⟩:=aeC he
 obtain⟨w,ew,rw'⟩:=r.get h2
 have hl:=r.length
 have hn:=aak
 have fin:EP X pins σ Q w s:=⟨z,H,I,rw',q⟩
 by_cases h0:0<=i
 ·have hj:i.toNat=j:=by
   rw [seqIndex_of h0 h5] at h1
   exact Option.some.inj h1
  exact item_listR pl.isList h0 (by omega) (by rw [hj];simpa using ew) fin hs
 ·have hj:(i+(its.toArray.size:Int)).toNat=j:=by
   rw [seqIndex_neg (by omega) h4] at h1
   rw [amv,<- hl]
   exact Option.some.inj h1
  exact subscriptTail_builtinR (x:=w) pl.isList.typeIs slot_list_getitem.lookup
   (wpAny_getItem_list_neg (Q:=fun r s'=>r=w/\EP X pins σ Q r s') pl.isList (by omega) (by rw [amv] <;> omega) (by omega) (by rw [hj];simpa using ew) ⟨rfl,fin⟩) hs
theorem aky:IxR X (akx X.K):=by
 intro value slice pins s σ H x y v u Q I rx ry h hs
 obtain⟨p,xs,i,z,rfl,rfl,hq,he,q⟩:=h
 cases rx
 obtain⟨t,rfl⟩:=ry
 obtain⟨its,r,pl,hz⟩:=I.tuple hq
 obtain⟨j,h1,h2,h3,h4,h5⟩:=aeC he
 obtain⟨w,ew,rw'⟩:=r.get h2
 have hl:=r.length
 have hn:=aak
 have fin:EP X pins σ Q w s:=⟨z,H,I,rw',q⟩
 exact subscriptTail_builtinR (x:=w) pl.typeIs slot_tuple_getitem.lookup
  (getItem_tuple (j:=j) (Q:=fun r s'=>r=w/\EP X pins σ Q r s') pl (by omega) (by omega) (by rw [amv,<- hl];exact h1) (by simpa using ew) ⟨rfl,fin⟩) hs
theorem adP (its:List Value) (n j:Nat) (u:Value):aom (·.setIfInBounds j u) { cls:=.type "list",data:=.seq its.toArray n }={ cls:=.type "list",data:=.seq (its.set j u).toArray n }:=by
 simp [aom]
theorem Inv.lst {pins:List (Addr×Obj)} {σ:St} {H:Hp} {s:Shared} {p:Addr} {xs:List V} (I:Inv X pins σ H s) (h:H p=some (.lst xs)) :
  ∃ (its:List Value) (n:Nat),Vals xs its/\s.heap.get? p=some { cls:=.type "list",data:=.seq its.toArray n }/\xs.length<=sizeLine:=by
 obtain⟨z,its,n,r,e⟩:=I.hok p _ h
 exact⟨its,n,r,e,z⟩
theorem Inv.lstUpd {pins:List (Addr×Obj)} {σ:St} {H:Hp} {s:Shared} {p:Addr} {xs ys:List V} {its its':List Value} {n n':Nat} {f:Obj->Obj} (I:Inv X pins σ H s) (h:H p=some (.lst xs))
  (ho:s.heap.get? p=some { cls:=.type "list",data:=.seq its.toArray n }) (hf:f { cls:=.type "list",data:=.seq its.toArray n }={ cls:=.type "list",data:=.seq its'.toArray n' }) (r:Vals ys its') (hz:ys.length<=sizeLine) (t:Nat) :
  Inv X pins σ (upd H p (.lst ys)) { s with heap:=s.heap.update p f,toks:=t }:=by
 have e:(s.heap.update p f).get? p=some { cls:=.type "list",data:=.seq its'.toArray n' }:=by
  rw [ana f ho (by rw [hf] <;> rfl),hf]
 refine I.write (x:=p) (e:=p) (by rw [h];trivial) (.inl rfl) (fun b u hb q=>(amP _ _ (anq hb)).trans q) ⟨_,e⟩ ?_
 exact⟨hz,its',n',r,e⟩
def aal:V->V->V->Hp->(Hp->Prop)->Prop:=fun o i v H Q=>∃ p xs k j,o=.ref p/\i=.int k/\H p=some (.lst xs)/\ixN xs.length k=some j/\Q (upd H p (.lst (xs.set j v)))
theorem set_list:air X aal:=by
 intro pins s σ H o i v ov iv u Q I ro ri rv h
 obtain⟨p,xs,k,j,rfl,rfl,hp,hj,q⟩:=h
 cases ro
 obtain⟨t,rfl⟩:=ri
 obtain⟨its,n,r,ho,hz⟩:=I.lst hp
 obtain⟨h1,h2,h3,h4⟩:=aeB hj
 have hl:=r.length
 have hn:=aak
 have I':Inv X pins σ (upd H p (.lst (xs.set j v))) { s with heap:=s.heap.update p (aom (·.setIfInBounds j u)) } :=
  I.lstUpd hp ho (adP its n j u) (r.set rv j) (by rw [aoz];exact hz) s.toks
 by_cases h0:0<=k
 ·have hk:k.toNat=j:=by
   rw [seqIndex_of h0 h4] at h1
   exact Option.some.inj h1
  exact PySem.W.ki_setAt ho h0 (by omega) (by rw [amv,<- hl];exact h4) (by rw [hk];exact⟨_,I',q⟩)
 ·have hk:(k+(its.toArray.size:Int)).toNat=j:=by
   rw [seqIndex_neg (by omega) h3] at h1
   rw [amv,<- hl]
   exact Option.some.inj h1
  exact PySem.W.ki_setBack ho (by omega) (by rw [amv,<- hl];exact h3) (by omega) (by rw [hk];exact⟨_,I',q⟩)
theorem aby (lo hi:Option Int) (n:Nat):(sliceBounds lo hi none n).1=((HT.sIx n 0 lo:Nat):Int)/\(sliceBounds lo hi none n).2.1=((HT.sIx n n hi:Nat):Int)/\(sliceBounds lo hi none n).2.2=1:=by
 refine⟨?_,?_,rfl⟩
 ·cases lo with
  | none=>simp [sliceBounds,HT.sIx]
  | some i =>
   simp only [sliceBounds,HT.sIx,Option.getD_none,show (1:Int) > 0 by decide,if_true]
   by_cases h:i<0
   ·simp only [h,if_true] <;> omega
   ·simp only [h,if_false] <;> omega
 ·cases hi with
  | none=>simp [sliceBounds,HT.sIx]
  | some i =>
   simp only [sliceBounds,HT.sIx,Option.getD_none,show (1:Int) > 0 by decide,if_true]
   by_cases h:i<0
   ·simp only [h,if_true] <;> omega
   ·simp only [h,if_false] <;> omega
theorem aaQ (its:List Value) (lo hi:Option Int):slicePick its.toArray lo hi none=((its.drop (HT.sIx its.length 0 lo)).take (HT.sIx its.length its.length hi - HT.sIx its.length 0 lo)).toArray:=by
 obtain⟨h1,h2,h3⟩:=aby lo hi its.toArray.size
 unfold slicePick
 rw [h1,h2,h3]
 simp only [sliceRange_one,pick_run,amv] <;> rfl
def aiC (K:amk):V->Option Int->Option Int->Hp->VK->Prop:=fun x lo hi H Q=>∃ a xs,x=.ref a/\SqL K H a xs/\∀ p,H p=none->Q (.ref p) (upd H p (.lst (adO xs lo hi)))
theorem aiD:SlR X (aiC X.K):=by
 intro pins s σ H x v vl vu lo hi sl Q I rx hs pl pu h
 obtain⟨a,xs,rfl,hx,q⟩:=h
 cases rx
 obtain⟨its,r,ht,hz⟩:=I.list hx
 have hlen:=r.length
 refine⟨"list",_,slot_list_getitem.lookup,ht.isList.typeIs,?_⟩
 refine wpAny_getItem_list_slice ht.isList hs pl pu .none (by simp) ?_ (by rw [amv] <;> omega)
 rw [aaQ,<- hlen]
 refine⟨.ref s.heap.objs.size,_,I.laid (t':=s.toks) (o:=.lst (adO xs lo hi)) (fun b ob q=>amq _ q) (amn _) ?_,rfl,q _ (I.hok.fresh (amn _))⟩
 exact⟨amO (acx xs lo hi) hz,_,0,(r.drop (HT.sIx xs.length 0 lo)).take (HT.sIx xs.length xs.length hi - HT.sIx xs.length 0 lo),amH _ rfl⟩
def vO:V->Bool
 | .non=>true
 | .bl _=>true
 | .int _=>true
 | .str _=>true
 | _=>false
def eqV:V->V->Bool
 | .non,.non=>true
 | .bl a,.bl b=>a == b
 | .bl a,.int b=>(if a then 1 else 0) == b
 | .int a,.bl b=>a == (if b then 1 else 0)
 | .int a,.int b=>a == b
 | .str a,.str b=>a == b
 | _,_=>false
theorem akz {A:Around} {s:Shared} {y x:V} {u v:Value} (ry:RelV y u) (rx:RelV x v) (fy:vO y=true) (fx:vO x=true):SeqAt.EqAt A s u v (eqV y x):=by
 cases y with
 | non =>
  cases ry
  cases x with
  | non=>cases rx;exact SeqAt.EqAt.same _
  | bl b=>cases rx;exact SeqAt.EqAt.none_bool b
  | int b=>obtain⟨t,rfl⟩:=rx;exact SeqAt.EqAt.none_int b t
  | str b=>obtain⟨t,rfl⟩:=rx;exact SeqAt.EqAt.none_str b t
  | _=>exact absurd (show false=true from fx) amh
 | bl a =>
  cases ry
  cases x with
  | non=>cases rx;exact SeqAt.EqAt.bool_none a
  | bl b=>cases rx;exact SeqAt.EqAt.bool_bool a b
  | int b=>obtain⟨t,rfl⟩:=rx;exact SeqAt.EqAt.bool_int a b t
  | str b=>obtain⟨t,rfl⟩:=rx;exact SeqAt.EqAt.bool_str a b t
  | _=>exact absurd (show false=true from fx) amh
 | int a =>
  obtain⟨t',rfl⟩:=ry
  cases x with
  | non=>cases rx;exact SeqAt.EqAt.int_none a t'
  | bl b=>cases rx;exact SeqAt.EqAt.int_bool a t' b
  | int b=>obtain⟨t,rfl⟩:=rx;exact SeqAt.EqAt.int_int a t' b t
  | str b=>obtain⟨t,rfl⟩:=rx;exact SeqAt.EqAt.int_str a t' b t
  | _=>exact absurd (show false=true from fx) amh
 | str a =>
  obtain⟨t',rfl⟩:=ry
  cases x with
  | non=>cases rx;exact SeqAt.EqAt.str_none a t'
  | bl b=>cases rx;exact SeqAt.EqAt.str_bool a t' b
  | int b=>obtain⟨t,rfl⟩:=rx;exact SeqAt.EqAt.str_int a t' b t
  | str b=>obtain⟨t,rfl⟩:=rx;exact SeqAt.EqAt.str_str a t' b t
  | _=>exact absurd (show false=true from fx) amh
 | _=>exact absurd (show false=true from fy) amh
def eqU (x:V) (u:Value):Bool:=match u with
 | .none=>eqV .non x
 | .bool b=>eqV (.bl b) x
 | .int i _=>eqV (.int i) x
 | .str z _=>eqV (.str z) x
 | _=>false
theorem agM {x y:V} {u:Value} (r:RelV y u) (f:vO y=true):eqU x u=eqV y x:=by
 cases y with
 | non=>cases r;rfl
 | bl b=>cases r;rfl
 | int i=>obtain⟨t,rfl⟩:=r;rfl
 | str z=>obtain⟨t,rfl⟩:=r;rfl
 | _=>exact absurd (show false=true from f) amh
theorem abz {x:V}:∀ {xs:List V} {us:List Value},Vals xs us->xs.all vO=true->us.any (eqU x)=xs.any fun y=>eqV y x
 | _,_,.nil,_=>rfl
 | y :: xs,u :: us,.cons r t,f=>by
  rw [apX,ams] at f
  rw [List.any_cons,List.any_cons,agM r f.1,abz t f.2]
theorem aam {A:Around} {s:Shared} {x:V} {v:Value} (rx:RelV x v) (fx:vO x=true):∀ {xs:List V} {us:List Value},Vals xs us->xs.all vO=true->∀ u∈us,SeqAt.EqAt A s u v (eqU x u)
 | _,_,.nil,_=>fun u hu=>by cases hu
 | y :: xs,u :: us,.cons r t,f=>fun u' hu=>by
  rw [apX,ams] at f
  rcases amu.mp hu with rfl | hu
  ·rw [agM r f.1];exact akz r rx f.1 fx
  ·exact aam rx fx t f.2 u' hu
def inV (x:V) (xs:List V):Bool:=xs.any fun y=>eqV y x
def rIn (K:amk) (neg:Bool):R2:=fun x y H Q=>∃ p xs,y=.ref p/\(SqL K H p xs \/ SqT K H p xs)/\vO x=true/\xs.all vO=true/\Q (.bl (if neg then !inV x xs else inV x xs)) H
theorem abA:OpR X (compareOp .NotIn) (rIn X.K true):=by
 intro pins s σ H x y v u Q I rx ry h
 obtain⟨p,xs,rfl,hq,fx,fs,q⟩:=h
 cases ry
 rcases hq with hq | hq
 ·obtain⟨its,r,pl,hz⟩:=I.list hq
  refine SeqAt.notIn_listAt (eqU x) pl.isList (fun w hw=>aam rx fx r fs w (by simpa using hw)) ⟨.bl _,H,I,rfl,?_⟩
  rw [show its.toArray.any (eqU x)=its.any (eqU x) by simp,abz r fs]
  exact q
 ·obtain⟨its,r,pl,hz⟩:=I.tuple hq
  refine SeqAt.notIn_tupleAt (eqU x) pl (fun w hw=>aam rx fx r fs w (by simpa using hw)) ⟨.bl _,H,I,rfl,?_⟩
  rw [show its.toArray.any (eqU x)=its.any (eqU x) by simp,abz r fs]
  exact q
theorem abB:yj X (.builtin "len") (fun xs H Q=>∃ p ys,xs=[.ref p]/\(SqL X.K H p ys \/ SqT X.K H p ys)/\Q (.int ys.length) H):=by
 intro pins s σ H xs us Q I r h
 obtain⟨p,ys,rfl,hq,q⟩:=h
 obtain⟨u,rfl,rx⟩:=vals1 r
 cases rx
 have hn:=aak
 rcases hq with hq | hq
 ·obtain⟨its,r',pl,hz⟩:=I.list hq
  have hlen:=r'.length
  exact Calls.call_len_list pl.isList (by simp only [amv] <;> omega) ⟨.int ys.length,H,I.tok _,⟨s.toks+1,by rw [amv,hlen]⟩,q⟩
 ·obtain⟨its,r',pl,hz⟩:=I.tuple hq
  have hlen:=r'.length
  exact len_tuple pl (by simp only [amv] <;> omega) ⟨.int ys.length,H,I.tok _,⟨s.toks+1,by rw [amv,hlen]⟩,q⟩
theorem aaR:yj X (.type "tuple") (fun xs H Q=>∃ p ys,xs=[.ref p]/\((SqL X.K H p ys/\∀ l,H l=none->Q (.ref l) (upd H l (.tup ys))) \/ (SqT X.K H p ys/\Q (.ref p) H))):=by
 intro pins s σ H xs us Q I r h
 obtain⟨p,ys,rfl,h⟩:=h
 obtain⟨u,rfl,rx⟩:=vals1 r
 cases rx
 rcases h with⟨hq,q⟩ | ⟨hq,q⟩
 ·obtain⟨its,r',pl,hz⟩:=I.list hq
  have hlen:=r'.length
  refine call_tuple_list pl.isList (fun h' kp=>?_) (by simp only [amv] <;> omega)
  have I1:Inv X pins σ H { s with heap:=h' }:=I.kept (t':=s.toks) kp
  have I2:Inv X pins σ (upd H h'.objs.size (.tup ys)) { s with heap:=h'.push { cls:=.type "tuple",data:=.seq its.toArray } } :=
   I1.laid (t':=s.toks) (fun b o e=>amq _ e) (amn _) (show ObjOk X.prog X.w _ _ _ (.tup ys) from⟨hz,its,r',IsTup.new _ _⟩)
  exact⟨.ref h'.objs.size,_,I2,rfl,q _ (I1.hok.fresh (amn _))⟩
 ·obtain⟨its,r',pl,hz⟩:=I.tuple hq
  exact call_tuple_same pl ⟨.ref p,H,I,rfl,q⟩
def tyV (K:amk) (T:String) (x:V) (H:Hp):Prop:=match x with
 | .str _=>T="str"
 | .int _=>T="int"
 | .ref p=>(T="list"/\∃ xs,SqL K H p xs) \/ (T="tuple"/\∃ o,K.lookup p=some o/\o.cls=.type "tuple"/\o.dict=none) \/
   (T="dict"/\((∃ kvs,H p=some (.dK kvs)) \/ ∃ kvs,H p=some (.dT kvs))) \/ (T="set"/\∃ S n,H p=some (.set S n))
 | _=>False
theorem akA {pins:List (Addr×Obj)} {σ:St} {H:Hp} {s:Shared} {T:String} {x:V} {v:Value} (I:Inv X pins σ H s) (r:RelV x v) (ty:tyV X.K T x H) :
  s.TypeIs v T/\∀ a,v=.ref a->∃ ob,s.heap.get? a=some ob/\ob.dict=none:=by
 cases x with
 | str z =>
  obtain⟨t,rfl⟩:=r
  cases (show T="str" from ty)
  exact⟨typeIs_str s z t,fun _ e=>nomatch e⟩
 | int i =>
  obtain⟨t,rfl⟩:=r
  cases (show T="int" from ty)
  exact⟨typeIs_int s i t,fun _ e=>nomatch e⟩
 | ref p =>
  cases r
  rcases ty with⟨rfl,xs,hq⟩ | ⟨rfl,o,hk,hc,hd⟩ | ⟨rfl,hk⟩ | ⟨rfl,S,n,hk⟩
  ·obtain⟨its,_,pl,_⟩:=I.list hq
   refine⟨pl.isList.typeIs,fun a e=>?_⟩
   cases e
   obtain⟨o,n,e,c,hd,_⟩:=pl
   exact⟨o,e,hd⟩
  ·refine⟨⟨o,I.kIn p o hk,hc⟩,fun a e=>?_⟩
   cases e
   exact⟨o,I.kIn _ o hk,hd⟩
  ·have z:∃ o,s.heap.get? p=some o/\o.ExactDict:=by
    rcases hk with⟨kvs,hk⟩ | ⟨kvs,hk⟩
    ·obtain⟨_,_,_,_,o,_,_,e,ex,_⟩:=I.hok p _ hk
     exact⟨o,e,ex⟩
    ·obtain⟨_,_,_,_,o,_,_,e,ex,_⟩:=I.hok p _ hk
     exact⟨o,e,ex⟩
   obtain⟨o,e,ex⟩:=z
   refine⟨⟨o,e,ex.1⟩,fun a e2=>?_⟩
   cases e2
   exact⟨o,e,ex.2.1⟩
  ·obtain⟨o,_,_,_,e,ex,_⟩:=I.hok p _ hk
   refine⟨⟨o,e,ex.1⟩,fun a e2=>?_⟩
   cases e2
   exact⟨o,e,ex.2.1⟩
 | _=>exact anY ty
def tBM (K:amk) (T:String) (r:V->List V->Hp->VK->Prop) (to:TE) (t:TA):TE:=fun σ H Q=>to σ H fun x H1=>tyV K T x H1/\t σ H1 fun xs H2=>r x xs H2 Q
variable {o e:Expr} {es:List Expr} {to:TE} {t:TA} {name:Str} {apos cpos:Pos} {T id:String} {r:V->List V->Hp->VK->Prop}
theorem agN (pa:PlainAttrs T) (slot:Slot T name id) (hty:typeOf (.builtin id)=pure (.type "method_descriptor")) (hm:MtR X id r) (ho:PE X o to) (ha:PA X (e :: es) t)
  (hbase:attributeBase o name X.env (eval o X.env)=eval o X.env:=by rfl)
  (hfew:((backTo cpos (starEach (e :: es) X.env)).all (fun x=>!x.1) && (backToKw cpos (keywordEach [] X.env)).all (fun x=>x.1.isSome)
   && decide ((e :: es).length+([]:List Keyword).length+(if ([]:List Keyword).isEmpty then 0 else 1)<30))=true:=by rfl)
  (hline:(apos.endLine == cpos.line)=true:=by rfl) (hs:starEach (e :: es) X.env=(false,eval e X.env) :: starEach es X.env:=by rfl) (hplain:(backTo cpos (starEach es X.env)).any (·.1)=false:=by rfl) :
  PE X (.Call (.Attribute o name apos) (e :: es) [] cpos) (tBM X.K T r to t):=by
 intro pins s σ H Q I h
 refine wpAny_Call_method_late hbase hfew hline rfl (thn (ho pins s σ H _ I h) fun v s1 ⟨x,H1,I1,r1,ty,q1⟩=>?_)
 obtain⟨h1,h2⟩:=akA I1 r1 ty
 refine⟨T,id,pa,slot,hty,h1,h2,?_⟩
 have hA:=ha cpos pins s1 σ H1 _ I1 q1
 rw [hs] at hA ⊢
 refine apz (by show (false || (backTo cpos (starEach es X.env)).any (·.1))=false;rw [hplain] <;> rfl) (apM ?_)
 exact thn hA fun us s2 ⟨vs,H2,I2,r2,q2⟩=>hm pins s2 σ H2 x vs v us Q I2 r1 r2 q2
/- xs.append(e),list.index on a module's tuple .. are MtR facts of 06m -/
end
def MtM (X:Cx) (id:String) (r:V->List V->Hp->VK->Prop):Prop :=
 ∀ (pins:List (Addr×Obj)) (s:Shared) (σ:St) (H:Hp) (x:V) (xs:List V) (v:Value) (us:List Value) (Q:VK),Inv X pins σ H s->RelV x v->Vals xs us->r x xs H Q ->
  wpAny (model X.prog X.w) X.A (call (.builtin id) (v :: us)) (EP X pins σ Q) X.xe s
theorem Vals.one:∀ {x:V} {us:List Value},Vals [x] us->∃ u,us=[u]/\RelV x u
 | _,_,.cons r .nil=>⟨_,rfl,r⟩
theorem Vals.reverse {xs:List V} {us:List Value} (h:Vals xs us):Vals xs.reverse us.reverse:=by
 induction h with
 | nil=>exact .nil
 | cons r t ih=>rw [ans,ans];exact Vals.append ih (.cons r .nil)
section
variable {X:Cx} {pins:List (Addr×Obj)} {σ:St} {H:Hp} {s:Shared} {l b:Addr} {xs ys zs:List V}
theorem Inv.lset {its its':List Value} {n:Nat} {f:Array Value->Array Value} {t':Nat} (I:Inv X pins σ H s) (hH:H l=some (.lst xs))
  (e:s.heap.get? l=some { cls:=.type "list",data:=.seq its.toArray n }) (hf:f its.toArray=its'.toArray) (hv:Vals ys its') (hz:ys.length<=sizeLine) :
  Inv X pins σ (upd H l (.lst ys)) { s with heap:=s.heap.update l (aom f),toks:=t' }:=by
 have q:=PySem.IsL.update e f
 rw [hf] at q
 refine I.write (x:=l) (e:=l) (by rw [hH];exact trivial) (.inl rfl) (fun b' u hb hu=>(amP s.heap (aom f) (anq hb)).trans hu) ⟨_,q⟩ ?_
 exact⟨hz,its',_,hv,q⟩
theorem Inv.lnew {its:List Value} {t':Nat} (I:Inv X pins σ H s) (hv:Vals ys its) (hz:ys.length<=sizeLine) :
  Inv X pins σ (upd H s.heap.objs.size (.lst ys)) { s with heap:=s.heap.push { cls:=.type "list",data:=.seq its.toArray },toks:=t' } :=
 I.laid (fun _ _ q=>amq _ q) (amn _) ⟨hz,its,0,hv,amH _ rfl⟩
theorem Inv.fresh (I:Inv X pins σ H s):H s.heap.objs.size=none:=I.hok.fresh (amn _)
theorem Inv.lstM (I:Inv X pins σ H s) (hH:H l=some (.lst xs)):xs.length<=sizeLine/\∃ (its:List Value) (n:Nat),Vals xs its/\xs.length=its.length/\s.heap.get? l=some { cls:=.type "list",data:=.seq its.toArray n }:=by
 obtain⟨z,its,n,r,e⟩:=I.hok l _ hH
 exact⟨z,its,n,r,r.length,e⟩
end
section
variable {X:Cx}
def aeF:V->List V->Hp->VK->Prop:=fun x vs H Q=>∃ l xs y,x=.ref l/\vs=[y]/\H l=some (.lst xs)/\xs.length<sizeLine/\Q .non (upd H l (.lst (xs++[y])))
theorem aa4:MtM X "list.append" aeF:=by
 intro pins s σ H x vs v us Q I rx rv h
 obtain⟨l,xs,y,rfl,rfl,hH,hz,q⟩:=h
 cases rx
 obtain⟨u,rfl,ru⟩:=rv.one
 obtain⟨z,its,n,r,hl,e⟩:=I.lstM hH
 refine call_meets F.slot_list_append ⟨_,e,rfl⟩ apV (apN _ _) (PySem.list_append l its.toArray n u (by rw [amv];omega)) ⟨e,?_⟩
 refine⟨.non,_,I.lset (its':=its++[u]) hH e (by simp) (r.append (.cons ru .nil)) ?_,rfl,q⟩
 rw [amD,amY]
 omega
end
end L2
namespace Att
open PySem PySem.W PySem.Calls PyProof.Rows
theorem vX {P:Params} {h:Heap}:∀ (ns:List Int) (vs:List Value),WellAll P h vs (ns.map WData.int)->IntsAre vs ns:=by
 intro ns
 induction ns with
 | nil =>
  intro vs w
  rw [ao8] at w
  cases w
  exact .nil
 | cons n ns ih =>
  intro vs w
  rw [amG] at w
  cases w with
  | cons a b =>
   cases a
   exact .cons _ _ (ih _ b)
theorem afN {l:OpenLaw} {n:Nat} (hn:l.most=some n) {P:Params} {h:Heap} {args:List WData} {vals:List Value}
  (hpre:l.row.toRowW.claim.pre args=true) (hwl:WellAll P h vals args) :
  ∃ a vs ns,vals=[Value.ref a]/\args=[WData.list (ns.map WData.int)]/\h.get? a=some { cls:=.type "list",data:=.seq vs.toArray }/\IntsAre vs ns/\ns.length<=n:=by
 have hsh:WShape.hasAll [] args [.list .int]=true:=(pre_splitW hpre).1
 have hc:l.pre.holds [] { args:=args }=true:=(pre_splitW hpre).2
 obtain⟨d,r,rfl,h1,h2⟩:=hasAllW_cons hsh
 obtain rfl:=hasAllW_nil h2
 obtain⟨xs,rfl,h3⟩:=hasW_list h1
 obtain⟨ns,rfl⟩:=items_int h3
 have hlen:ns.length<=n:=by
  unfold OpenLaw.pre at hc
  have h4:(WTm.not (.lt (.lit (.int (n:Int))) (.len (.arg 0)))).holds [] { args:=[.list (ns.map .int)] }=true:=by
   have h4:=(holds_andW hc).1
   rw [hn] at h4
   exact h4
  have h5:=condW_of h4 (w_not (w_lt w_lit (w_len_list (w_arg rfl))))
  rw [amg] at h5
  refine Nat.le_of_not_lt fun q=>?_
  have q':(n:Int)<((ns.length:Nat):Int):=by omega
  first
   | (rw [decide_eq_true q'] at h5;exact absurd h5 (by decide))
   | (simp at h5;omega)
 cases hwl with
 | cons w1 w2 =>
  cases w2
  cases w1 with
  | list ho hall=>exact⟨_,_,ns,rfl,rfl,ho,vX ns _ hall,hlen⟩
theorem afO (l:OpenLaw) (args:List WData):l.row.toRowW.claim.post args (.bool true) args=true :=
 postW_of (r:=l.row.toRowW) (X:=(true == true))
  (show WShape.has [] (.bool true) .bool=true by first | rfl | decide | simp [WShape.has,WShape.arms,WShape.armsAll])
  (show (WTm.eq .res (.lit (.bool true))).value [] { args:=args,res:=some (.bool true),after:=args }=some (.bool (true == true)) from w_eq_bool (w_res rfl) w_lit) rfl
theorem attach_call {l:OpenLaw} {n:Nat} {q:Program} {loose:List Str} {XP:(Str->Option Value)->Heap->Prop} {YP:World->Heap->Prop} {d:DefRec}
  (hn:l.most=some n) (hdf:d.params.defaults=[])
  (call:∀ (w:World) (s₀ s₁:Shared) (mg mb:Str->Option Value) (fa:Addr) (o:Obj) (pm cd doc:Value) (a:Addr) (vs:List Value) (ns:List Int),
   Ground q loose [] XP w s₀ mg mb s₁.heap->YP w s₁.heap ->
   s₁.heap.get? fa=some o->o.data=.func (docDef d.name d.params d.body d.scope pm cd doc)->s₁.heap.CodeRec cd d.name->mg d.name=some (.ref fa) ->
   s₁.heap.get? a=some { cls:=.type "list",data:=.seq vs.toArray }->IntsAre vs ns->ns.length<=n->s₁.gens=#[] ->
   codeAny (model l.prog w) callerA (.call (.ref fa) ⟨[.ref a],[]⟩) (fun r s'=>r=.ok (.ret (.bool true))/\OldK s₁.heap s'.heap/\s'.os=s₁.os/\AllBare s'.gens) s₁) :
  WalkO q loose XP YP l.row.toRowW d [] (fun f vs=>PySem.call f vs):=by
 intro w s₀ s₁ mg mb G Y fa o pm cd doc dV kV ho hd hcd hD hmg hg args vals as hpre hlay hrd hwl hlo
 obtain rfl:dV=.none:=Dflts.none hD hdf
 obtain rfl:kV=.none:=Dflts.noKw hD
 obtain⟨a,vs,ns,rfl,rfl,hobj,hints,hlen⟩:=afN hn hpre hwl
 refine enter_call (codeAny_mono (call w s₀ s₁ mg mb fa o pm cd doc a vs ns G Y ho (fd_plain hd) hcd hmg hobj hints hlen hg) fun r s' hq=>?_)
 obtain⟨rfl,h2,h3,h4⟩:=hq
 exact⟨.inl ⟨.bool true,.bool true,[],rfl,fun _=>rfl,.bool true,afO l _,fun _=>⟨List.Pairwise.nil,fun _ hm=>(nomatch hm)⟩⟩,h2,h3,h4⟩
section
variable {prog:Program} {w:World} {A:Around} {E:Value->Shared->Prop} {s:Shared} {K:Frag}
end
end Att
namespace L2
open PySem PySem.Spec PyProof.Rows
theorem aa5:∀ {vs:List Value} {ns:List Int},IntsAre vs ns->Vals (ns.map V.int) vs
 | _,_,.nil=>.nil
 | _,_,.cons n t h=>.cons ⟨t,rfl⟩ (aa5 h)
def akB (H:Hp):Prop:=∀ b,H b=none \/ ∃ o xs,H b=some (.frz o (.lst xs))
theorem agO {P:Program} {w:World} {K:amk} {mg mb:Str->Option Value} {CX:CXT} {k:Nat} {fa a:Addr} {fd:FuncData} {x:Str} {sp:Sp} {s₁:Shared} {vs:List Value} {ns:List Int}
  (KX:K.In s₁.heap) (hns:s₁.heap.Ns mainGlobals mg) (hb:s₁.heap.Ns builtinsNs mb) (hbb:∀ x:Str,x ≠ "__name__"->mb x=bootBuiltins x) (hlim:s₁.heap.NoLimit) (hg:s₁.gens=#[])
  (ha:s₁.heap.get? a=some { cls:=.type "list",data:=.seq vs.toArray }) (hi:IntsAre vs ns) (hl:ns.length<=sizeLine) (hr:Room k callerA)
  (F:∀ base:Heap,K.In base->base.Ns mainGlobals mg->FnOk P w K mg base CX k fa fd [x] sp) (hbind:∀ (s:Shared) (u:Value),BindsTo s fd ⟨[u],[]⟩ [(x,u)])
  (hsp:∀ H:Hp,akB H->SqL K H a (ns.map V.int)->sp [.ref a] H (fun v _=>v=.bl true) fun _ _ _=>False)
  (hCX:∀ H e s',CX [] H s₁ (fun _ _ _=>False) e s'->False) :
  codeAny (model P w) callerA (.call (.ref fa) ⟨[.ref a],[]⟩) (fun r s'=>r=.ok (.ret (.bool true))/\OldK s₁.heap s'.heap/\s'.os=s₁.os/\AllBare s'.gens) s₁:=by
 have rv:=aa5 hi
 have lenV:=hi.length
 -- from an abstract heap in which nothing but the script may be tracked
 have core:∀ H:Hp,akB H->SqL K H a (ns.map V.int)->HOk P w H s₁.heap->(∀ b,H b≠none->b=a)->(H a≠none->K.lookup a=none) ->
   codeAny (model P w) callerA (.call (.ref fa) ⟨[.ref a],[]⟩) (fun r s'=>r=.ok (.ret (.bool true))/\OldK s₁.heap s'.heap/\s'.os=s₁.os/\AllBare s'.gens) s₁:=by
  intro H hO hS hok hA hK
  have base_of:∀ {b:Addr} {o:Obj},s₁.heap.get? b=some o->H b=none->(abt s₁.heap H).get? b=some o:=fun e n=>agC e n
  have noA:∀ {b:Addr} {o:Obj} {es:Array DictEntry} {ep:Nat},s₁.heap.get? b=some o->o.data=.dict es ep->H b=none:=fun {b o es ep} e d=>by
   cases q:H b with
   | none=>rfl
   | some u =>
    have e':b=a:=hA b (by rw [q];simp)
    subst e'
    rw [ha] at e;cases e
    have d':Data.seq vs.toArray _=Data.dict es ep:=d
    cases d'
  have nsK:∀ {b:Addr} {m:Str->Option Value},s₁.heap.Ns b m->(abt s₁.heap H).Ns b m:=fun {b m} ⟨o,es,ep,e,d,r⟩=>⟨o,es,ep,base_of e (noA e d),d,r⟩
  have hKb:K.In (abt s₁.heap H):=fun b o e=>base_of (KX b o e) (by
   cases q:H b with
   | none=>rfl
   | some u =>
    have e':b=a:=hA b (by rw [q];simp)
    subst e'
    rw [hK (by rw [q];simp)] at e;cases e)
  have hM:Mod K mg (abt s₁.heap H):=⟨hKb,nsK hns,⟨mb,nsK hb,hbb⟩,let⟨mc,h1,h2⟩:=hlim;⟨mc,nsK h1,h2⟩⟩
  have e0:Env0 P w K mg (abt s₁.heap H) callerA [] s₁ H:=⟨rfl,hM,fun b o e=>ain e,an0 (afG _ _),trivial,fun b hb=>absurd (show b∈([]:List Addr) from hb) (by simp),hok,.of_eq hg⟩
  refine codeAny_mono ((F _ hKb (nsK hns)).run callerA [] s₁ H ⟨[.ref a],[]⟩ [.ref a] [.ref a] _ _ hr e0 (hbind s₁ (.ref a)) (.cons rfl .nil) (hsp H hO hS)) fun r s' h=>?_
  cases r with
  | error e=>exact (hCX H e s' h).elim
  | ok fl =>
   cases fl with
   | next=>exact anY h
   | brk=>exact anY h
   | cont=>exact anY h
   | ret u =>
    obtain⟨v,H',os,bare,un,hok',r',q⟩:=h
    have q':v=.bl true:=q
    subst q'
    obtain rfl:u=Value.bool true:=r'
    refine⟨rfl,OldK.of_keep fun b o e=>?_,os,bare⟩
    cases q:H b with
    | none=>exact un.keep b o e q (by intro z;exact absurd (show b∈([]:List Addr) from z) (by simp)) (by simp)
    | some u =>
     rcases hO b with z | ⟨ob,xs,z⟩
     ·rw [q] at z;cases z
     ·have z2:=un.frzs b ob _ z
      obtain⟨e1,_⟩:=hok b _ z
      obtain⟨e2,_⟩:=hok' b _ z2
      rw [e] at e1;cases e1
      exact e2
 cases hk:K.lookup a with
 | some o =>
  -- the script is one of the module's own objects
  have e:=KX a o hk
  rw [ha] at e
  cases e
  refine core (fun _=>none) (fun _=>.inl rfl) (.inr ⟨_,vs.toArray,_,hk,rfl,rfl,rfl,by rw [amv,lenV];exact hl,by simpa using rv⟩) (fun b u z=>by have z':(none:Option HO)=some u:=z;cases z') (fun b z=>absurd rfl z) fun z=>absurd rfl z
 | none =>
  refine core (fun b=>if b=a then some (.frz { cls:=.type "list",data:=.seq vs.toArray } (.lst (ns.map V.int))) else none) (fun b=>?_) (.inl (.inr ⟨{ cls:=.type "list",data:=.seq vs.toArray },if_pos rfl⟩)) (fun b u z=>?_) (fun b z=>?_) fun _=>hk
  ·by_cases hb:b=a
   ·exact .inr ⟨_,_,if_pos hb⟩
   ·exact .inl (if_neg hb)
  ·by_cases hb:b=a
   ·have z':=(if_pos hb).symm.trans z
    cases z'
    subst hb
    exact⟨ha,by rw [amg];exact hl,vs,_,rv,ha⟩
   ·have z':=(if_neg hb).symm.trans z
    cases z'
  ·by_cases hb:b=a
   ·exact hb
   ·exact absurd (if_neg hb) z
abbrev KOf {K:amk} {h:Heap} (_:K.In h):amk:=K
theorem walk_of {l:PySem.W.OpenLaw} {n k:Nat} {q:Program} {loose:List Str} {XP:(Str->Option Value)->Heap->Prop} {YP:World->Heap->Prop} {d:DefRec} {K:Params->amk} {CX:World->CXT} {sp:World->Sp} {x:Str}
  (hn:l.most=some n) (hn2:n<=sizeLine) (hdf:d.params.defaults=[]) (hr:Room k callerA)
  (hY:∀ (w:World) (h:Heap),YP w h->(K w.params).In h)
  (F:∀ (w:World) (mg:Str->Option Value) (fa:Addr) (h:Heap),(K w.params).In h->h.Ns mainGlobals mg->mg d.name=some (.ref fa) ->
   ∃ fd:FuncData,(∀ (s:Shared) (u:Value),BindsTo s fd ⟨[u],[]⟩ [(x,u)]) /\
    ∀ base:Heap,(K w.params).In base->base.Ns mainGlobals mg->FnOk l.prog w (K w.params) mg base (CX w) k fa fd [x] (sp w))
  (hsp:∀ (w:World) (H:Hp) (a:Addr) (ns:List Int),ns.length<=n->akB H->SqL (K w.params) H a (ns.map V.int)->sp w [.ref a] H (fun v _=>v=.bl true) fun _ _ _=>False)
  (hCX:∀ (w:World) (H:Hp) (s:Shared) (e:Value) (s':Shared),CX w [] H s (fun _ _ _=>False) e s'->False) :
  PySem.W.WalkO q loose XP YP l.row.toRowW d [] (fun f vs=>PySem.call f vs):=by
 refine Att.attach_call hn hdf fun w s₀ s₁ mg mb fa o pm cd doc a vs ns G Y ho hd hcd hmg hobj hints hlen hg=>?_
 have KX:=hY w _ Y
 obtain⟨fd,hb,hF⟩:=F w mg fa _ KX G.T.g hmg
 exact agO KX G.T.g G.T.b G.T.builtins G.T.nolimit hg hobj hints (amO hlen hn2) hr hF hb (fun H hO hS=>hsp w H a ns hlen hO hS) fun H e s'=>hCX w H s₁ e s'
end L2
/- THE LAST THEOREM (shape;LID,My.* are yours):
   My.Adr: a structure of the addresses that your layer names (classes,functions);My.Txt K t: a structure (Prop) of the equations over K;
   My.txt_mk:{K} {implicit addresses ..} (e1:nsIn K mainGlobals "law"=some (some (.ref f))) (e2:K.lookup f=some ⟨oc,od,.func (fnOf "law" "law" params body scope dV kV doc pm an cdv ct),sl⟩) (e3:codeIn K cdv "law"=true) ..:∃ t,My.Txt K t
set_option maxRecDepth 100000 in
set_option maxHeartbeats 0 in
theorem PySem.Challenge.cw_LID_holds : PySem.Challenge.rw_LID.Holds := by
 w_on;o_law;k_head;(case hw=>w_witness2)
 k_fill
 refine L2.walk_of (l:=PySem.Challenge.rw_LID) (n:=63) (k:=40) (x:="script") (CX:=fun w=>..) (sp:=fun _=>My.sp_law) rfl (by decide) rfl ⟨rfl,by decide,by decide⟩ (fun w h Y=>PySem.W.kIn_of Y) ?F ?S ?C
 case F =>
  intro w mg fa h KX G hmg
  have T:∃ t,My.Txt (L2.KOf KX) t:=by
   dsimp only [L2.KOf]                          -- K must stand as «<heap const> w.params» for k_is
   refine' My.txt_mk ?e1 ?e2 ?e3 ..
   (case e1=>PySem.W.k_is)                    -- in the order: a name->its address->its object->its parts
   (case e2=>PySem.W.k_is)
   ..
  obtain⟨t,T⟩:=T
  have e0:=hmg.symm.trans (anC KX G T.law)
  cases e0                                       -- fa is the law's own address
  exact⟨_,fun s u=>.of_eq rfl,fun base kb nb=>My.law_fn T kb nb⟩     -- if «.of_eq rfl» comes too early: refine' ⟨_,?b,fun base kb nb=>My.law_fn T kb nb⟩;exact fun s u=>.of_eq rfl
 case S=>exact fun w H a ns hl hO hS=>..
 case C=>exact ..
(the tactic k_is has no namespace: write k_is) -/
namespace L2
open PySem PySem.Spec PyProof.Rows
def jC (s:Stmt):Arguments:=match s with
 | .FunctionDef _ a _ _ _ _ _ _ _ _=>a
 | _=>{ posonlyargs:=[],args:=[],vararg:=none,kwonlyargs:=[],kw_defaults:=[],kwarg:=none,defaults:=[] }
def yA (s:Stmt):List Stmt:=match s with
 | .FunctionDef _ _ b _ _ _ _ _ _ _=>b
 | _=>[]
def zi (s:Stmt):Scope:=match s with
 | .FunctionDef _ _ _ _ _ _ sc _ _ _=>sc
 | _=>{ kind:=.function,names:=[],isGenerator:=false,isCoroutine:=false }
abbrev CX0:CXT:=fun _ _ _ _ _ _=>False
abbrev E0:XK:=fun _ _ _=>False
theorem alD {X:Cx}:Passes CX0 X E0:=fun _ _ _ _ _ _ _ h=>h.elim
structure Fun (K:amk) (x qual:Str) (st:Stmt) (f:Addr) (fd:FuncData):Prop where
 ex:∃ (oc:Value) (od:Option Addr) (kV doc pm:Value) (an:Option Addr) (cdv ct:Value) (osl:Array (Option Value)),
  fd=anP x qual (jC st) (yA st) (zi st) .none kV doc pm an cdv ct/\K.lookup f=some ⟨oc,od,.func fd,osl⟩/\apc K cdv qual=true
 kp:am7 K (.ref f)=true
section
variable {P:Program} {w:World} {K:amk} {mg:Str->Option Value} {base:Heap}
theorem Fun.ok {x qual:Str} {st:Stmt} {f:Addr} {fd:FuncData} {N ps:List Str} {k:Nat} {sp:Sp} (F:Fun K x qual st f fd) (S:FnScope N ps (zi st)) (len:∀ vs H Q E,sp vs H Q E->vs.length=ps.length)
  (hbody:∀ (cdv:Value) (A:Around) (outer:List Env) (s:Shared) (H:Hp) (vs:List V) (Q:VK) (E:XK),Room k (A.deeper (envOfC qual (zi st) s.heap.objs.size f cdv))->sp vs H Q E ->
   ∃ t,PSs (z9 CX0 P w K mg base N qual (zi st) f cdv A outer s H E).nox (yA st) t/\t { nx:=fun _ H'=>Q .non H',rt:=Q } (start N vs) H):FnOk P w K mg base CX0 (k+1) f fd ps sp:=by
 obtain⟨oc,od,kV,doc,pm,an,cdv,ct,osl,rfl,lk,hcd⟩:=F.ex
 refine alC lk hcd S len fun A outer s H vs Q E hr hsp=>?_
 obtain⟨t,h,q⟩:=hbody cdv A outer s H vs Q E hr hsp
 exact⟨t,h.nox,q⟩
theorem Fun.binds {x qual:Str} {st:Stmt} {f:Addr} {fd:FuncData} {ps:List Str} (F:Fun K x qual st f fd)
  (h:∀ (kV doc pm:Value) (an:Option Addr) (cdv ct:Value) (us:List Value),us.length=ps.length->bindArgs (anP x qual (jC st) (yA st) (zi st) .none kV doc pm an cdv ct) ⟨us,[]⟩=pure (ps.zip us)):Binds K fd ps []:=by
 obtain⟨oc,od,kV,doc,pm,an,cdv,ct,osl,rfl,lk,hcd⟩:=F.ex
 exact .all (h kV doc pm an cdv ct)
theorem adQ {x qual:Str} {st:Stmt} {f:Addr} {oc:Value} {od an:Option Addr} {osl:Array (Option Value)} {kV doc pm cdv ct:Value} (l:K.lookup f=some ⟨oc,od,.func (anP x qual (jC st) (yA st) (zi st) .none kV doc pm an cdv ct),osl⟩)
  (c:apc K cdv qual=true) (k:am7 K (.ref f)=true):Fun K x qual st f (anP x qual (jC st) (yA st) (zi st) .none kV doc pm an cdv ct):=⟨⟨oc,od,kV,doc,pm,an,cdv,ct,osl,rfl,l,c⟩,k⟩
end
theorem yg {n:Nat} (h:n<=1000):n<sizeLine:=Nat.lt_of_le_of_lt h (by decide)
section
variable {X:Cx}
theorem pv (i:Nat) {x:Str} {pos:Pos} (hN:X.N[i]?=some x:=by rfl) (hv:Vis X.env.scope x:=by first | exact Or.inl rfl | exact Or.inr (Or.inl rfl) | exact Or.inr (Or.inr rfl)) (hd:(x == ("__debug__":Str))=false:=by decide)
  (hcd:(x == ("__classdict__":Str))=false:=by decide):PE X (.Name x pos) (yH i):=akg hN hv hd hcd
end
def Same (H H':Hp):Prop:=∀ b o,H b=some o->H' b=some o
theorem Same.refl (H:Hp):Same H H:=fun _ _ h=>h
theorem Same.trans {H H1 H2:Hp} (a:Same H H1) (b:Same H1 H2):Same H H2:=fun c o h=>b c o (a c o h)
theorem Same.free {H H':Hp} (e:Same H H') {l:Addr} (h:H' l=Option.none):H l=Option.none:=by
 cases q:H l with
 | none=>rfl
 | some o =>
  rw [e l o q] at h
  cases h
theorem Same.seq {K:amk} {H H':Hp} {a:Addr} {xs:List V} (e:Same H H') (h:SqL K H a xs):SqL K H' a xs:=by
 rcases h with (h | ⟨o,h⟩) | h
 ·exact .inl (.inl (e _ _ h))
 ·exact .inl (.inr ⟨o,e _ _ h⟩)
 ·exact .inr h
def zY (env:Env):List (Str×NameKind)->List (Str×Addr)->List (Str×Addr)
 | [],acc=>acc
 | (x,k) :: r,acc=>if k == .free then zY env r ((x,(env.cells.lookup x).getD 0) :: acc) else zY env r acc
theorem adR {sc:Scope} {env:Env} (h:∀ x,(x,NameKind.free)∈sc.names->∃ c,env.cells.lookup x=some c):closureFor sc env=pure (zY env sc.names []):=by
 have key:∀ (names:List (Str×NameKind)) (acc:List (Str×Addr)),(∀ x,(x,NameKind.free)∈names->∃ c,env.cells.lookup x=some c) ->
   (forIn names acc fun (x:Str×NameKind) (cs:List (Str×Addr))=>if (x.2 == NameKind.free)=true then (do let c <- cellOf env x.1;pure (ForInStep.yield ((x.1,c) :: cs))) else pure (ForInStep.yield cs))=(pure (zY env names acc):Sem (List (Str×Addr))):=by
  intro names
  induction names with
  | nil=>intro acc _;rfl
  | cons p r ih =>
   intro acc hh
   obtain⟨x,k⟩:=p
   rw [aoA]
   unfold zY
   by_cases hk:(k == NameKind.free)=true
   ·have hk':k=.free:=by simpa using hk
    subst hk'
    obtain⟨c,hc⟩:=hh x amm
    simp only [beq_self_eq_true,if_true]
    rw [<-ih _ fun y hy=>hh y (amo _ hy)]
    have:cellOf env x=pure c:=by unfold cellOf;rw [hc]
    rw [this,hc]
    rfl
   ·simp only [hk,amR,if_false]
    rw [<-ih _ fun y hy=>hh y (amo _ hy)]
    rfl
 simp only [closureFor]
 have q:=key sc.names [] h
 refine Eq.trans ?_ (Eq.trans (congrArg (fun z=>z >>= fun r=>pure r) q) ?_)
 ·rfl
 ·rfl
theorem jD {env:Env}:∀ {names:List (Str×NameKind)} {acc:List (Str×Addr)} {p:Str×Addr},p∈zY env names acc->p∈acc \/ ((p.1,NameKind.free)∈names/\p.2=(env.cells.lookup p.1).getD 0)
 | [],acc,p,h=>.inl h
 | (x,k) :: r,acc,p,h=>by
  unfold zY at h
  split at h
  ·rename_i hk
   have hk':k=.free:=by simpa using hk
   subst hk'
   rcases jD h with q | ⟨q,e⟩
   ·rcases amu.mp q with q | q
    ·subst q;exact .inr ⟨amm,rfl⟩
    ·exact .inl q
   ·exact .inr ⟨amo _ q,e⟩
  ·rcases jD h with q | ⟨q,e⟩
   ·exact .inl q
   ·exact .inr ⟨amo _ q,e⟩
theorem jR {α:Type}:∀ {l:List (Str×α)} {x:Str} {v:α},(x,v)∈l->∃ u,l.lookup x=some u
 | (y,u) :: r,x,v,h=>by
  rw [am0]
  cases hb:x == y with
  | true=>exact⟨u,rfl⟩
  | false =>
   rcases amu.mp h with e | h
   ·have:x=y:=congrArg Prod.fst e
    subst this
    simp at hb
   ·exact jR h
theorem qK {env:Env}:∀ {names:List (Str×NameKind)} {acc:List (Str×Addr)} {x:Str},(x,NameKind.free)∈names->(x,(env.cells.lookup x).getD 0)∈zY env names acc
 | (y,k) :: r,acc,x,h=>by
  have mono:∀ (names:List (Str×NameKind)) (acc:List (Str×Addr)) (p:Str×Addr),p∈acc->p∈zY env names acc:=by
   intro names
   induction names with
   | nil=>intro acc p hp;exact hp
   | cons q r ih =>
    intro acc p hp
    obtain⟨a,b⟩:=q
    unfold zY
    split
    ·exact ih _ _ (amo _ hp)
    ·exact ih _ _ hp
  unfold zY
  rcases amu.mp h with e | h
  ·cases e
   simp only [beq_self_eq_true,if_true]
   exact mono _ _ _ amm
  ·split
   ·exact qK h
   ·exact qK h
theorem qC {env:Env} {names:List (Str×NameKind)} {x:Str} {c:Addr} (h:∀ x,(x,NameKind.free)∈names->∃ c,env.cells.lookup x=some c) (e:(zY env names []).lookup x=some c):env.cells.lookup x=some c/\(x,NameKind.free)∈names:=by
 rcases jD (mem_of_lookup e) with q | ⟨q,e'⟩
 ·cases q
 ·obtain⟨c',hc⟩:=h _ q
  dsimp only at hc e'
  rw [hc] at e'
  exact⟨by rw [hc];exact congrArg some e'.symm,q⟩
theorem vP {env:Env} {names:List (Str×NameKind)} {x:Str} {c:Addr} (h:∀ x,(x,NameKind.free)∈names->∃ c,env.cells.lookup x=some c) (hx:(x,NameKind.free)∈names) (e:env.cells.lookup x=some c):(zY env names []).lookup x=some c:=by
 obtain⟨u,hu⟩:=jR (qK (env:=env) (acc:=[]) hx)
 have:=(qC h hu).1
 rw [this] at e
 rw [hu,e]
theorem yL:∀ {names:List (Str×NameKind)} {n:Nat} {acc:List (Str×Addr)} {x:Str} {c:Addr},(cellsFrom n names acc).lookup x=some c->(n<=c/\c<n+names.length/\(x,NameKind.cell)∈names) \/ (acc.lookup x=some c/\(x,NameKind.cell)∉names)
 | [],n,acc,x,c,h=>.inr ⟨h,by simp⟩
 | (y,k) :: r,n,acc,x,c,h=>by
  unfold cellsFrom at h
  split at h
  ·rename_i hk
   have hk':k=.cell:=by simpa using hk
   subst hk'
   rcases yL h with⟨q1,q2,q3⟩ | ⟨q1,q2⟩
   ·exact .inl ⟨aoH q1,amJ q2 (by rw [amB];omega),amo _ q3⟩
   ·rw [am0] at q1
    cases hb:x == y with
    | true =>
     rw [hb] at q1
     cases q1
     have:x=y:=by simpa using hb
     subst this
     exact .inl ⟨amn _,by rw [amB];exact Nat.lt_add_of_pos_right (aoI _),amm⟩
    | false =>
     rw [hb] at q1
     refine .inr ⟨q1,fun z=>?_⟩
     rcases amu.mp z with e | z
     ·have:x=y:=congrArg Prod.fst e
      subst this
      simp at hb
     ·exact q2 z
  ·rename_i hk
   rcases yL h with⟨q1,q2,q3⟩ | ⟨q1,q2⟩
   ·exact .inl ⟨q1,amJ q2 (by rw [amB];omega),amo _ q3⟩
   ·refine .inr ⟨q1,fun z=>?_⟩
    rcases amu.mp z with e | z
    ·have:k=.cell:=(congrArg Prod.snd e).symm
     subst this
     simp at hk
    ·exact q2 z
theorem yS:∀ (names:List (Str×NameKind)) (n:Nat) (acc:List (Str×Addr)),(acc.Pairwise fun x y=>x.2≠y.2)->(∀ p∈acc,p.2<n)->(cellsFrom n names acc).Pairwise fun x y=>x.2≠y.2
 | [],n,acc,h,_=>h
 | (y,k) :: r,n,acc,h,hl=>by
  unfold cellsFrom
  split
  ·refine yS r (n+1) _ (aoB.mpr ⟨fun p hp=>?_,h⟩) fun p hp=>?_
   ·exact ao7 (hl p hp)
   ·rcases amu.mp hp with e | hp
    ·subst e;exact aoT _
    ·exact anh (hl p hp)
  ·exact yS r n acc h hl
theorem aaS {names:List (Str×NameKind)} {n:Nat} {acc:List (Str×Addr)} {x:Str} (h:names.lookup x=some .cell):∃ c,(cellsFrom n names acc).lookup x=some c :=
 aov.mp (anZ names n acc (.inl h))
theorem qD {names:List (Str×NameKind)} {n:Nat} {acc:List (Str×Addr)} {x:Str} (h:(acc.lookup x).isSome=true):∃ c,(cellsFrom n names acc).lookup x=some c :=
 aov.mp (anZ names n acc (.inr h))
theorem jr:∀ (names:List (Str×NameKind)) (h:Heap) (acc:List (Str×Addr)) (x:Str) (c:Addr),(cellsFrom h.objs.size names acc).lookup x=some c->h.objs.size<=c->(∀ p∈acc,p.2<h.objs.size)->(pushCells h names).IsCell c none
 | [],h,acc,x,c,e,hc,hl=>absurd (hl _ (mem_of_lookup e)) (Nat.not_lt.mpr hc)
 | (y,k) :: r,h,acc,x,c,e,hc,hl=>by
  unfold cellsFrom at e
  unfold pushCells
  split at e
  ·rename_i hk
   rw [if_pos hk]
   by_cases hcc:c=h.objs.size
   ·subst hcc
    exact⟨_,pushCells_keeps _ _ _ _ (amH _ rfl),rfl⟩
   ·have es:(h.push { cls:=.type "cell",data:=.cell none }).objs.size=h.objs.size+1:=aoJ ..
    refine jr r _ ((y,h.objs.size) :: acc) x c (by rw [es];exact e) (by rw [es];exact Nat.lt_of_le_of_ne hc (anq hcc)) fun p hp=>?_
    rw [es]
    rcases amu.mp hp with e | hp
    ·subst e;exact aoT _
    ·exact anh (hl p hp)
  ·rename_i hk
   rw [if_neg hk]
   exact jr r h acc x c e hc hl
def zh (X:Cx) (sc:Scope) (N:List Str) (s₀:Shared) (H₀:Hp) (ex:List Addr) (pn:List (Addr×Obj)):Cx :=
 { X with N:=N,s₀:=s₀,H₀:=H₀,env:=compEnvC sc (cellsFrom (s₀.heap.objs.size+1) sc.names (zY X.env sc.names [])) s₀.heap.objs.size X.env,
          outer:=X.stack,ex:=ex,fn:=fun x=>decide (sc.names.lookup x=some .cell),pn:=pn,xe:=fun _ _=>False }
structure CompScope (NO:List Str) (scO:Scope) (N:List Str) (sc:Scope) (own:Nat) (fr:List Nat):Prop where
 kind:sc.kind=.function
 nd:N.Nodup
 snd:(sc.names.map (·.1)).Nodup
 free:∀ p∈sc.names,p.2=.free->scO.names.lookup p.1=some .cell \/ scO.names.lookup p.1=some .free
 frn:∀ p∈(N.drop own).zip fr,NO[p.2]?=some p.1/\sc.names.lookup p.1=some .free
 len:N.length=own+fr.length
def yT (own:Nat) (fr:List Nat) (σ:St):St:=aol own none++fr.map fun j=>(σ[j]?).getD none
theorem z5 {α:Type}:∀ {l:List (Str×α)} {x:Str} {k:α},(l.map (·.1)).Nodup->(x,k)∈l->l.lookup x=some k
 | (y,u) :: r,x,k,nd,h=>by
  rw [amG] at nd
  obtain⟨h1,h2⟩:=anc.mp nd
  rw [am0]
  rcases amu.mp h with e | h'
  ·cases e;simp
  ·have:x≠y:=by
    intro e
    subst e
    exact h1 (amz.mpr ⟨(x,k),h',rfl⟩)
   rw [beq_eq_false_iff_ne.mpr this]
   exact z5 h2 h'
theorem ja {env:Env}:∀ {names:List (Str×NameKind)} {x:Str} {k:NameKind},names.lookup x=some k ->
  (names.map fun (n,k)=>if (k == NameKind.free && env.scope.kind == .function && env.kindOf n == some .cell) then (n,NameKind.cell) else (n,k)).lookup x=some (if (k == NameKind.free && env.scope.kind == .function && env.kindOf x == some .cell) then .cell else k)
 | (n,k') :: r,x,k,h=>by
  have ih:=@ja env r x k
  show List.lookup x ((if (k' == NameKind.free && env.scope.kind == .function && env.kindOf n == some .cell)=true then (n,NameKind.cell) else (n,k')) :: _)=_
  cases hx:x == n with
  | true =>
   have:x=n:=by simpa using hx
   subst this
   simp only [am0,hx] at h
   cases h
   split <;> simp [am0]
  | false =>
   simp only [am0,hx] at h
   split
   ·simp only [am0,hx];exact ih h
   ·simp only [am0,hx];exact ih h
theorem yV {env:Env}:∀ {names:List (Str×NameKind)} {x:Str},names.lookup x=none ->
  (names.map fun (n,k)=>if (k == NameKind.free && env.scope.kind == .function && env.kindOf n == some .cell) then (n,NameKind.cell) else (n,k)).lookup x=none
 | [],_,_=>rfl
 | (n,k') :: r,x,h=>by
  have ih:=@yV env r x
  show List.lookup x ((if (k' == NameKind.free && env.scope.kind == .function && env.kindOf n == some .cell)=true then (n,NameKind.cell) else (n,k')) :: _)=_
  cases hx:x == n with
  | true=>simp only [am0,hx] at h;cases h
  | false =>
   simp only [am0,hx] at h
   split
   ·simp only [am0,hx];exact ih h
   ·simp only [am0,hx];exact ih h
section
variable {X:Cx} {pins:List (Addr×Obj)} {σ:St} {H:Hp} {s:Shared} {NO N:List Str} {scO sc:Scope} {own:Nat} {fr:List Nat} {fp:List Addr}
theorem agP {tk:Nat} (S:CompScope NO scO N sc own fr) (hN:X.N=NO) (hsc:X.env.scope=scO) (I:Inv X pins σ H s) (hf:∀ b∈fp,qU X pins H b) (ho:∀ b∈fp,∃ o,s.heap.get? b=some o/\∀ v,o.data≠.cell v) :
  Inv (zh X sc N s H fp (X.pn++pins)) [] (yT own fr σ) H { s with heap:=pushCells (s.heap.push { cls:=.type "dict",data:=.dict #[] }) sc.names,toks:=tk }:=by
 have hfree:∀ x,(x,NameKind.free)∈sc.names->∃ c,X.env.cells.lookup x=some c:=fun x hx=>I.ok.has x (by
  show X.env.scope.names.lookup x=_ \/ X.env.scope.names.lookup x=_
  rw [hsc]
  exact S.free _ hx rfl)
 have hclt:∀ p∈zY X.env sc.names [],p.2<s.heap.objs.size:=fun p hp=>by
  rcases jD hp with q | ⟨q,e⟩
  ·cases q
  ·obtain⟨c,hc⟩:=hfree _ q
   rw [e,hc]
   obtain⟨v,o,ho,_⟩:=I.cell _ c hc
   exact amA ho
 have hsz:(s.heap.push { cls:=.type "dict",data:=.dict #[] }).objs.size=s.heap.objs.size+1:=aoJ ..
 have hk:∀ b o,s.heap.get? b=some o->(pushCells (s.heap.push { cls:=.type "dict",data:=.dict #[] }) sc.names).get? b=some o:=fun b o e=>pushCells_keeps _ _ _ _ (amq _ e)
 have hcase:∀ {x:Str} {c:Addr},(cellsFrom (s.heap.objs.size+1) sc.names (zY X.env sc.names [])).lookup x=some c->(s.heap.objs.size+1<=c/\(x,NameKind.cell)∈sc.names) \/ (X.env.cells.lookup x=some c/\(x,NameKind.free)∈sc.names):=fun {x c} e=>by
  rcases yL e with⟨q1,_,q3⟩ | ⟨q1,_⟩
  ·exact .inl ⟨q1,q3⟩
  ·exact .inr (qC hfree q1)
 have clap:(zY X.env sc.names []).Pairwise fun x y=>x.2≠y.2:=by
  have key:∀ (names:List (Str×NameKind)) (acc:List (Str×Addr)),(∀ p∈acc,X.env.cells.lookup p.1=some p.2)->(∀ x,(x,NameKind.free)∈names->∃ c,X.env.cells.lookup x=some c)->(acc.Pairwise fun x y=>x.2≠y.2)->(∀ p∈acc,(p.1,NameKind.free)∉names)->(names.map (·.1)).Nodup ->
    (zY X.env names acc).Pairwise fun x y=>x.2≠y.2:=by
   intro names
   induction names with
   | nil=>intro acc _ _ h _ _;exact h
   | cons p r ih =>
    intro acc h1 h2 h3 h4 h5
    obtain⟨y,k⟩:=p
    rw [amG] at h5
    obtain⟨n1,n2⟩:=anc.mp h5
    unfold zY
    split
    ·rename_i hk
     have hk':k=.free:=by simpa using hk
     subst hk'
     obtain⟨c,hc⟩:=h2 y amm
     rw [hc]
     refine ih _ (fun p hp=>?_) (fun x hx=>h2 x (amo _ hx)) (aoB.mpr ⟨fun p hp=>?_,h3⟩) (fun p hp=>?_) n2
     ·rcases amu.mp hp with e | hp
      ·subst e;exact hc
      ·exact h1 p hp
     ·intro e
      have e':p.2=c:=e.symm
      have:=I.ok.inj _ _ _ hc (e'▸h1 p hp)
      exact h4 p hp (this▸amm)
     ·rcases amu.mp hp with e | hp
      ·subst e
       intro z
       exact n1 (amz.mpr ⟨_,z,rfl⟩)
      ·intro z;exact h4 p hp (amo _ z)
    ·exact ih acc h1 (fun x hx=>h2 x (amo _ hx)) h3 (fun p hp z=>h4 p hp (amo _ z)) n2
  exact key sc.names [] (fun p hp=>by cases hp) hfree List.Pairwise.nil (fun p hp=>by cases hp) S.snd
 have apart:=yS sc.names (s.heap.objs.size+1) _ clap fun p hp=>anh (hclt p hp)
 have hkd:∀ x,(zh X sc N s H fp (X.pn++pins)).env.kindOf x=some .cell \/ (zh X sc N s H fp (X.pn++pins)).env.kindOf x=some .free->(x,NameKind.cell)∈sc.names \/ (x,NameKind.free)∈sc.names:=fun x hx=>by
  cases q:sc.names.lookup x with
  | none =>
   have e:(zh X sc N s H fp (X.pn++pins)).env.kindOf x=none:=yV q
   rw [e] at hx
   rcases hx with z | z <;> cases z
  | some k =>
   have e:(zh X sc N s H fp (X.pn++pins)).env.kindOf x=some _:=ja (env:=X.env) q
   rw [e] at hx
   have hm:=mem_of_lookup q
   cases k <;> first | exact .inl hm | exact .inr hm | (rcases hx with z | z <;> cases z)
 have cellAt:∀ x c,(cellsFrom (s.heap.objs.size+1) sc.names (zY X.env sc.names [])).lookup x=some c->∃ v,(pushCells (s.heap.push { cls:=.type "dict",data:=.dict #[] }) sc.names).IsCell c v:=fun x c e=>by
  rcases hcase e with⟨q,_⟩ | ⟨q,_⟩
  ·exact⟨none,jr _ _ _ x c (by rw [hsz];exact e) (by rw [hsz];exact q) fun p hp=>by rw [hsz];exact anh (hclt p hp)⟩
  ·obtain⟨v,o,ho,hd⟩:=I.cell x c q
   exact⟨v,o,hk _ _ ho,hd⟩
 have lt_of_cell:∀ x c,X.env.cells.lookup x=some c->c<s.heap.objs.size:=fun x c e=>by
  obtain⟨v,o,ho,hd⟩:=I.cell x c e
  exact amA ho
 have lt_of_fp:∀ b∈fp,b<s.heap.objs.size:=fun b hb=>by
  obtain⟨o,e,_⟩:=ho b hb
  exact amA e
 have okX:(zh X sc N s H fp (X.pn++pins)).Ok:=by
  refine⟨I.mod,S.kind,I.ok.glob,I.ok.blt,amn _,fun x y c h1 h2=>name_of_addr apart (mem_of_lookup h1) (mem_of_lookup h2),fun x hx=>?_,fun x c hx hc=>?_,I.ok.hd,I.ok.frames,.inl rfl,fun b hb=>⟨amQ (lt_of_fp b hb),fun x c e=>?_⟩,I.bs,amO I.ok.bsz I.sz,fun b o e hb=>?_,fun b hb z=>?_,I.stack,I.stkFree⟩
  ·rcases hkd x hx with q | q
   ·exact aaS (z5 S.snd q)
   ·obtain⟨c,hc⟩:=hfree x q
    exact qD (by rw [vP hfree q hc];rfl)
  ·have hx':sc.names.lookup x=some .cell:=of_decide_eq_true hx
   rcases hcase hc with⟨q,_⟩ | ⟨_,q⟩
   ·exact aoH q
   ·rw [z5 S.snd q] at hx';cases hx'
  ·rcases hcase e with⟨q,_⟩ | ⟨q,_⟩
   ·exact ao7 (amJ (lt_of_fp b hb) (aoH q))
   ·exact (hf b hb).2.2.2.2.1 x c q
  ·rcases (hf b hb).2.2.2.1 with z | z
   ·exact I.ok.noex b o e z
   ·exact absurd (amA e) (Nat.not_lt.mpr (amO I.ok.bsz z))
  ·rcases amu.mp (I.stkSub b z) with q | q
   ·exact (hf b hb).2.1 q
   ·exact (hf b hb).2.2.1 q
 refine⟨okX,rfl,I.bare,Un.kept hk,⟨fun _=>none,(Heap.Ns.new s.heap (.type "dict")).keeps (pushCells_keeps _ _),fun i x v h1 h2 h3=>?_⟩,cellAt,I.hok.fresh (amn _),fun x c e=>?_,fun p hp=>?_,I.hok.kept hk,?_⟩
 ·obtain⟨m,_,hl⟩:=id I.loc
  have h2':(yT own fr σ)[i]?=some (some v):=h2
  have hio:own<=i:=by
   unfold yT at h2'
   refine Nat.le_of_not_lt fun hi=>?_
   rw [amr (by simpa using hi),anV] at h2'
   split at h2' <;> cases h2'
  obtain⟨k,rfl⟩:=Nat.exists_eq_add_of_le hio
  have h1':N[own+k]?=some x:=h1
  unfold yT at h2'
  rw [amx (by simp)] at h2'
  simp only [aoQ,Nat.add_sub_cancel_left,aml] at h2'
  cases hj:fr[k]? with
  | none=>rw [hj] at h2';cases h2'
  | some j =>
   rw [hj] at h2'
   have h2'':(σ[j]?).getD none=some v:=Option.some.inj h2'
   have hp:(x,j)∈(N.drop own).zip fr:=by
    refine amw (i:=k) ?_
    rw [List.getElem?_zip_eq_some]
    exact⟨by rw [List.getElem?_drop];exact h1',hj⟩
   obtain⟨f1,f2⟩:=S.frn _ hp
   have hσ:σ[j]?=some (some v):=by
    cases q:σ[j]? with
    | none=>rw [q] at h2'';cases h2''
    | some w=>rw [q] at h2'';exact congrArg some h2''
   have hxf:(x,NameKind.free)∈sc.names:=mem_of_lookup f2
   have hko:=S.free _ hxf rfl
   have hvis:Vis X.env.scope x:=by rw [hsc];exact .inr hko
   obtain⟨u,ru,q⟩:=hl j x v (by rw [hN];exact f1) hσ hvis
   refine⟨u,ru,.inr ⟨?_,?_⟩⟩
   ·have e:(zh X sc N s H fp (X.pn++pins)).env.kindOf x=some _:=ja (env:=X.env) f2
    rw [e]
    split
    ·exact .inl rfl
    ·exact .inr rfl
   ·rcases q with⟨k1,_⟩ | ⟨_,c,hc,z⟩
    ·have k1':X.env.scope.names.lookup x=some .local:=k1
     rw [hsc] at k1'
     rcases hko with z | z <;> rw [z] at k1' <;> cases k1'
    ·obtain⟨o,ho,hd⟩:=z
     refine⟨c,?_,o,hk _ _ ho,hd⟩
     have hcl:=vP hfree hxf hc
     obtain⟨c',hc'⟩:=qD (names:=sc.names) (n:=s.heap.objs.size+1) (acc:=zY X.env sc.names []) (x:=x) (by rw [hcl];rfl)
     rcases hcase hc' with⟨_,z⟩ | ⟨z,_⟩
     ·have:=z5 S.snd z
      rw [f2] at this;cases this
     ·rw [hc] at z;cases z;exact hc'
 ·rcases hcase e with⟨q,_⟩ | ⟨q,_⟩
  ·exact I.hok.fresh (aoH q)
  ·exact I.freeC x c q
 ·have hp':p∈X.pn++pins:=by simpa [zh] using hp
  obtain⟨e,n,ne,nf,d⟩:=I.pin p hp'
  refine⟨hk _ _ e,n,amQ (amA e),fun z=>?_,d⟩
  rcases amu.mp (I.stkSub _ z) with q | q
  ·exact ne q
  ·exact nf q
 ·show (yT own fr σ).length=N.length
  unfold yT
  rw [S.len]
  simp
end
abbrev TB:=St->Hp->(St->Hp->Prop)->Prop
def PB (X:Cx) (act:Sem Unit) (t:TB):Prop :=
 ∀ (pins:List (Addr×Obj)) (s:Shared) (σ:St) (H:Hp) (Q:St->Hp->Prop),Inv X pins σ H s->t σ H Q->wpAny (model X.prog X.w) X.A act (fun _ s'=>∃ σ' H',Inv X pins σ' H' s'/\Q σ' H') X.xe s
def PTs (X:Cx) (ifs:List Expr) (t:TT):Prop :=
 ∀ (pins:List (Addr×Obj)) (s:Shared) (σ:St) (H:Hp) (Q:Bool->Hp->Prop),Inv X pins σ H s->t σ H Q ->
  wpAny (model X.prog X.w) X.A (forIn ifs true fun c r=>if r=true then do let ok <- isTrue c X.env (eval c X.env);pure (ForInStep.yield ok) else pure (ForInStep.yield r)) (TP X pins σ Q) X.xe s
def aiE:TT:=fun _ H Q=>Q true H
theorem zP {X:Cx}:PTs X [] aiE:=fun pins s σ H Q I h=>wpAny_tests_nil ⟨H,I,h⟩
theorem abC {X:Cx} {c:Expr} {t:TT} (hc:PT X c t):PTs X [c] t:=fun pins s σ H Q I h=>wpAny_tests_one (hc pins s σ H Q I h)
def acy (J:It) (g:TG) (tt:TT) (tb:TB):TB:=fun σ H Q=>∃ W:Nat->Nat->St->Hp->Prop,(∃ m,W 0 m σ H)/\∀ i m σ H,W i m σ H ->
 (J.stop i H/\Q σ H) \/ (J.go i H/\∀ x H',J.yld i H x H'->g x σ H' fun σ2 H2=>tt σ2 H2 fun b H3=>if b=true then tb σ2 H3 fun σ' H'=>∃ m',m'<m/\W (i+1) m' σ' H' else ∃ m',m'<m/\W (i+1) m' σ2 H3)
section
variable {X:Cx} {pins:List (Addr×Obj)} {s:Shared} {σ:St} {H:Hp} {tg:Expr} {e:Expr} {d:Nat} {acc:Value} {ifs:List Expr} {g:TG} {tt:TT} {tb:TB} {act:Sem Unit} {pos:Pos}
theorem acz (hx:∀ e s,X.xe e s->False) (hc:X.calm=true) (hg:PG X tg g) (ht:PTs X ifs tt) (hb:PB X act tb)
  (heq:∀ it,compTurn e d it acc X.env=(do
   standAt pos
   match <- pyNext it with
   | none=>pure (.done .next)
   | some v =>
    letOwnedTupleGo tg it v
    assign tg X.env v
    let mut ok:=true
    for c in ifs do
     if ok then ok <- isTrue c X.env (eval c X.env)
    if ok then
     act
    again (.compLoop e d it acc X.env)))
  (hqt:∀ it,(Code.compLoop e d it acc X.env).quiet=true)
  (hden:∀ it,(model X.prog X.w).den (.compLoop e d it acc X.env)=(compTurn e d it acc X.env).onRaise (fun x=>do noteFrame x X.env;theTreesLotGoes x))
  (hund:∀ it,X.A.under (.compLoop e d it acc X.env)=X.A)
  {it:Addr} {fp:List Addr} {tn:Nat->Heap->Prop} {J:It} {Q:St->Hp->Prop} {R:Result->Shared->Prop} (I:Inv X pins σ H s) (T:Turn X.prog X.w X.K tg J fp it tn) (st:tn 0 s.heap) (f:∀ b∈fp,qU X pins H b)
  (h:acy J g tt tb σ H Q) (hR:∀ σ' H' s',Inv X pins σ' H' s'->(∀ b∈fp,H' b=none)->Q σ' H'->R (.ok .next) s'):codeAny (model X.prog X.w) X.A (.compLoop e d (.ref it) acc X.env) R s:=by
 obtain⟨W,⟨m0,w0⟩,turn⟩:=h
 have stat:∀ {H':Hp},(∀ b∈fp,H' b=none)->∀ b∈fp,qU X pins H' b:=fun hn b hb=>⟨hn b hb,(f b hb).2⟩
 refine codeAny_loop (hqt _) (fun n s'=>∃ i σ' H',Inv X pins σ' H' s'/\tn i s'.heap/\(∀ b∈fp,H' b=none)/\W i n σ' H') ?_ m0 ⟨0,σ,H,I,st,fun b hb=>(f b hb).1,w0⟩
 rintro n s3 ⟨i,σ3,H3,I3,st3,fr3,w3⟩
 rw [hden,hund]
 refine wpAny_noted ?_
 rw [heq]
 have nox:∀ e' s',X.xe e' s'->notedBy (model X.prog X.w) X.A X.env (fun e s'=>R (.error e) s') e' s':=fun e' s' z=>(hx e' s' z).elim
 refine wpAny_bind (wpAny_standAt (wpAny_bind ?_))
 rcases turn i n σ3 H3 w3 with⟨stop,qn⟩ | ⟨go,step⟩
 ·refine wpAny_mono (T.done X rfl rfl rfl hc i pins s3 σ3 H3 X.xe I3 (stat fr3) st3 stop) (fun r s4 hr4=>?_) nox
  obtain⟨hr,I4⟩:=hr4
  subst hr
  exact wpAny_pure (hR σ3 H3 s4 I4 fr3 qn)
 ·refine wpAny_mono (T.item X rfl rfl rfl hc i pins s3 σ3 H3 X.xe I3 (stat fr3) st3 go) (fun r s4 hr4=>?_) nox
  obtain⟨u,hr,h4⟩:=hr4
  subst hr
  refine wpAny_bind (wpAny_mono h4 (fun _ s5 h5=>?_) nox)
  obtain⟨x,H5,I5,r5,y5,st5,fr5⟩:=h5
  have I5':=I5.pinned (stat fr5) (T.obj _ _ st5)
  refine wpAny_bind (wpAny_mono (hg _ s5 σ3 H5 x u _ I5' r5 (step x H5 y5)) (fun _ s6 h6=>?_) nox)
  obtain⟨σ6,H6,I6,q6⟩:=h6
  refine wpAny_bind (wpAny_mono (ht _ s6 σ6 H6 _ I6 q6) (fun ok s7 h7=>?_) nox)
  obtain⟨H7,I7,q7⟩:=h7
  have again:∀ {σ7:St} {H7:Hp} {s7:Shared},Inv X (pins++aaf fp s5.heap) σ7 H7 s7->(∃ m',m'<n/\W (i+1) m' σ7 H7)->∃ m,m<n/\∃ i σ' H',Inv X pins σ' H' s7/\tn i s7.heap/\(∀ b∈fp,H' b=none)/\W i m σ' H':=fun {σ7 H7 s7} I7 n7=>by
   obtain⟨m',hm,w7⟩:=n7
   refine⟨m',hm,i+1,σ7,H7,I7.unpinned,T.keep _ _ _ st5 fun b hb o e=>(I7.pin (b,o) (amF _ (amF _ (jB hb e)))).1,fun b hb=>?_,w7⟩
   obtain⟨o,e,d⟩:=T.obj _ _ st5 b hb
   exact (I7.pin (b,o) (amF _ (amF _ (jB hb e)))).2.1
  cases ok with
  | false =>
   rw [if_neg amh] at q7
   exact wpAny_pure ⟨rfl,again I7 q7⟩
  | true =>
   rw [if_pos rfl] at q7
   refine wpAny_bind (wpAny_mono (hb _ s7 σ6 H7 _ I7 q7) (fun _ s8 h8=>?_) nox)
   obtain⟨σ8,H8,I8,q8⟩:=h8
   exact wpAny_pure ⟨rfl,again I8 q8⟩
theorem abD {D:Addr} {elt:Expr} {te:TE} (he:PE X elt te):PB X (do let _ <- call (.builtin "list.append") [.ref D,<- eval elt X.env]) (fun σ H Q=>te σ H fun y H1=>∃ xs,H1 D=some (.lst xs)/\xs.length<sizeLine/\Q σ (upd H1 D (.lst (xs++[y])))):=by
 intro pins s σ H Q I h
 refine wpAny_bind (thn (he pins s σ H _ I h) fun v s1 h1=>?_)
 obtain⟨y,H1,I1,r1,xs,hD,hz,q⟩:=h1
 obtain⟨z,its,n,r,hl,e⟩:=I1.lstM hD
 refine wpAny_bind ?_
 refine call_meets F.slot_list_append ⟨_,e,rfl⟩ apV (apN _ _) (PySem.list_append D its.toArray n v (by rw [amv];omega)) ⟨e,?_⟩
 refine wpAny_pure ⟨σ,_,I1.lset (its':=its++[v]) hD e (by simp) (r.append (.cons r1 .nil)) ?_,q⟩
 rw [amD,amY]
 omega
theorem acA {M:Model} {A:Around} {E:Value->Shared->Prop} {sc:Scope} {gl:Addr} {cl:List (Str×Addr)} {qual:Str} {env:Env} {Q:Env->Shared->Prop} {s:Shared}
  (h:Q { scope:=sc,locals:=s.heap.objs.size,globals:=gl,cells:=cellsFrom (s.heap.objs.size+1) sc.names cl,qual:=qual,func:=none,code:=env.code,frame:=env.frame,builtins:=env.builtins } { s with heap:=pushCells (s.heap.push { cls:=.type "dict",data:=.dict #[] }) sc.names }) :
  wpAny M A (newFunctionEnv sc gl cl [] qual none .none (some env)) Q E s:=by
 simp only [newFunctionEnv,Option.isSome_some,if_true]
 refine wpAny_bind (wpAny_alloc ?_)
 refine wpAny_bind (wpAny_layCells _ (fun name kind cells=>by cases hkc:kind == NameKind.cell <;> simp [hkc]) _ _ _ _ ?_)
 rw [show ({ s with heap:=s.heap.push { cls:=.type "dict",data:=.dict #[] } }:Shared).heap.objs.size=s.heap.objs.size+1 from aoJ ..]
 refine wpAny_bind ?_
 rw [aoK]
 exact wpAny_pure (wpAny_pure h)
theorem comp_back {sc:Scope} {N:List Str} {fp:List Addr} {σ':St} {H':Hp} {s':Shared} {h':Heap} (I:Inv X pins σ H s) (hf:∀ b∈fp,qU X pins H b) (J:Inv (zh X sc N s H fp (X.pn++pins)) [] σ' H' s') (hs:anO s.heap.objs.size s'.heap h') :
  Inv X pins σ H' { s' with heap:=h' }:=by
 have u:Un (frs X.stack) fp H H' s.heap s'.heap:=J.base
 have ne:∀ b o,s.heap.get? b=some o->b≠s.heap.objs.size:=fun b o e=>amQ (amA e)
 have hfree:H' s.heap.objs.size=none:=J.free
 refine I.call' (s':={ s' with heap:=h' }) (ch:=fp) J.os ⟨fun b o e n h1 h2=>(hs.2 b (ne b o e)).trans (u.keep b o e n h1 h2),fun b o e n h1 h2=>?_,u.free,fun b o e h2=>?_,u.tups,u.frzs,u.tbls⟩ (fun a o e=>?_) J.bare fun b hb=>?_
 ·obtain⟨sl,q⟩:=u.slot b o e n h1 h2
  exact⟨sl,(hs.2 b (ne b o e)).trans q⟩
 ·obtain⟨o',q⟩:=u.there b o e h2
  exact⟨o',(hs.2 b (ne b o e)).trans q⟩
 ·refine (J.hok a o e).stay (fun c v hc q=>(hs.2 c ?_).trans q) (fun _ q=>q) fun _ _ q=>q
  intro z
  subst z
  rcases hc with hc | hc
  ·rw [<-hc] at e
   rw [hfree] at e;cases e
  ·rw [hfree] at hc;cases hc
 ·exact⟨(hf b hb).2.2.2.1,(hf b hb).2.1,(hf b hb).2.2.2.2⟩
end
def jV (D:Addr) (te:TE):TB:=fun σ H Q=>te σ H fun y H1=>∃ xs,H1 D=some (.lst xs)/\xs.length<sizeLine/\Q σ (upd H1 D (.lst (xs++[y])))
def ju (wi:TI) (own:Nat) (fr:List Nat) (g:TG) (tt:TT) (tb:Addr->TB):TE:=fun σ H Q=>wi σ H fun J H1=>∀ D,H1 D=none ->
 acy J g tt (tb D) (yT own fr σ) (upd H1 D (.lst [])) fun _ H2=>Q (.ref D) H2
section
variable {X:Cx} {pins:List (Addr×Obj)} {s:Shared} {σ:St} {H:Hp} {tg elt iter:Expr} {ifs:List Expr} {rest:List Comprehension} {sc scO:Scope} {NO N:List Str} {own:Nat} {fr:List Nat} {wi:TI} {g:TG} {tt:TT} {tb:Addr->TB} {pos:Pos}
theorem acB {RR:Value->Addr->Result->Shared->Prop} {it:Addr} {fp:List Addr} {tn:Nat->Heap->Prop} {J:It} {Q:VK} (S:CompScope NO scO N sc own fr) (hN:X.N=NO) (hsc:X.env.scope=scO) (hc:X.calm=true)
  (hg:∀ s₀ H₀ ex pn,PG (zh X sc N s₀ H₀ ex pn) tg g) (ht:∀ s₀ H₀ ex pn,PTs (zh X sc N s₀ H₀ ex pn) ifs tt)
  (hb:∀ D s₀ H₀ ex pn,∃ act,PB (zh X sc N s₀ H₀ ex pn) act (tb D)/\∀ it,compTurn (.ListComp elt (⟨tg,iter,ifs,0⟩ :: rest) sc pos) 0 it (.ref D) (zh X sc N s₀ H₀ ex pn).env=(do
   standAt iter.pos
   match <- pyNext it with
   | none=>pure (.done .next)
   | some v =>
    letOwnedTupleGo tg it v
    assign tg (zh X sc N s₀ H₀ ex pn).env v
    let mut ok:=true
    for c in ifs do
     if ok then ok <- isTrue c (zh X sc N s₀ H₀ ex pn).env (eval c (zh X sc N s₀ H₀ ex pn).env)
    if ok then
     act
    again (.compLoop (.ListComp elt (⟨tg,iter,ifs,0⟩ :: rest) sc pos) 0 it (.ref D) (zh X sc N s₀ H₀ ex pn).env)))
  (I:Inv X pins σ H s) (T:Turn X.prog X.w X.K tg J fp it tn) (st:tn 0 s.heap) (f:∀ b∈fp,qU X pins H b)
  (h:∀ D,H D=none->acy J g tt (tb D) (yT own fr σ) (upd H D (.lst [])) fun _ H2=>Q (.ref D) H2)
  (hRR:∀ (D C:Addr) (s':Shared) (H':Hp),(∃ m,s'.heap.Ns C m)->C≠X.env.locals->(∀ x c,X.env.cells.lookup x=some c->c≠C)->H' C=none->X.s₀.heap.objs.size<=C->(∀ p∈X.pn++pins,p.1≠C)->Inv X pins σ H' s'->Q (.ref D) H'->RR (.ref D) C (.ok .next) s') :
  wpAny (model X.prog X.w) X.A (newList []) (fun acc s₃=>wpAny (model X.prog X.w) X.A (newFunctionEnv sc X.env.globals (zY X.env sc.names []) [] X.env.qual none .none (some X.env)) (fun cenv s₄ =>
   codeAny (model X.prog X.w) X.A (.compStart (.ListComp elt (⟨tg,iter,ifs,0⟩ :: rest) sc pos) 0 (.ref it) acc { cenv with scope:=relabel sc X.env }) (RR acc cenv.locals) s₄) X.xe s₃) X.xe s:=by
 refine wpAny_newObj_type (acA ?_)
 have fpsz:∀ b∈fp,b<s.heap.objs.size:=fun b hb=>by
  obtain⟨o,e,_⟩:=T.obj _ _ st b hb
  exact amA e
 have I3:=I.lnew (its:=[]) (ys:=[]) (t':=s.toks) .nil (amT _)
 have f3:∀ b∈fp,qU X pins (upd H s.heap.objs.size (.lst [])) b:=fun b hb=>⟨by rw [zy (amQ (fpsz b hb))];exact (f b hb).1,(f b hb).2⟩
 have st3:tn 0 (s.heap.push { cls:=.type "list",data:=.seq ([]:List Value).toArray }):=T.keep _ _ _ st fun b _ o e=>amq _ e
 have I4:=agP (tk:=s.toks) S hN hsc I3 f3 (T.obj _ _ st3)
 obtain⟨act,pb,heq⟩:=hb s.heap.objs.size _ _ _ _
 have st4:=T.keep _ _ (pushCells ((s.heap.push { cls:=.type "list",data:=.seq ([]:List Value).toArray }).push { cls:=.type "dict",data:=.dict #[] }) sc.names) st3 fun b _ o e=>pushCells_keeps _ _ _ _ (amq _ e)
 have cells_lt:∀ x c,X.env.cells.lookup x=some c->c<s.heap.objs.size:=fun x c e=>by
  obtain⟨v,o,ho,hd⟩:=I.cell x c e
  exact amA ho
 have esz:(s.heap.push { cls:=.type "list",data:=.seq ([]:List Value).toArray }).objs.size=s.heap.objs.size+1:=aoJ ..
 have loop:=acz (X:=zh X sc N { s with heap:=s.heap.push { cls:=.type "list",data:=.seq ([]:List Value).toArray } } (upd H s.heap.objs.size (.lst [])) fp (X.pn++pins)) (R:=RR (.ref s.heap.objs.size) (s.heap.push { cls:=.type "list",data:=.seq ([]:List Value).toArray }).objs.size) (fun _ _ z=>z) hc (hg _ _ _ _) (ht _ _ _ _) pb heq (fun _=>rfl) (fun _=>rfl) (fun _=>rfl) I4 T st4
  (fun b hb=>⟨(f3 b hb).1,I4.ok.exf b hb |>.1,I4.ok.exfs b hb,.inl hb,I4.ok.exf b hb |>.2,fun p hp=>by
   have hp':p∈X.pn++pins:=by simpa [zh] using hp
   exact (f b hb).2.2.2.2.2 p hp'⟩) (h _ I.fresh)
  (fun σ' H' s' J' fr' q'=>hRR _ _ s' H' (let⟨m,hm,_⟩:=J'.loc;⟨m,hm⟩) (by rw [esz];exact ao7 (anh I.lt)) (fun x c e=>by rw [esz];exact amQ (anh (cells_lt x c e))) J'.free (by rw [esz];exact Nat.le_succ_of_le I.sz) (fun p hp=>by rw [esz];exact amQ (anh (amA (I.pin p hp).1))) (comp_back (h':=s'.heap) I3 f3 J' (Heap.SameBut.refl ..)) q')
 exact codeAny_compStart_list loop (T.self X.A 0 _ _ _ st4 loop)
theorem Inv.touch {C:Addr} {h':Heap} (I:Inv X pins σ H s) (hs:anO C s.heap h') (hn:H C=none) (h0:C≠X.env.locals) (h1:∀ x c,X.env.cells.lookup x=some c->c≠C) (h2:X.s₀.heap.objs.size<=C) (h3:∀ p∈X.pn++pins,p.1≠C) :
  Inv X pins σ H { s with heap:=h' } :=
 I.turned (t':=s.toks) (fun b o hb e=>(hs.2 b hb).trans e) hn h0 (.inr h2) h1 h3
theorem aaT {prog:Program} {w:World} {A:Around} {R:Result->Shared->Prop} {s:Shared} {elt':Expr} {g0:Comprehension} {tg' it':Expr} {ifs':List Expr} {sc':Scope} {pos':Pos} {itv acc:Value} {env:Env}
  (here:codeAny (model prog w) A (.compLoop (.ListComp elt' [g0,⟨tg',it',ifs',0⟩] sc' pos') 1 itv acc env) R s)
  (once:wpAny (model prog w) A (pyIter itv) (fun j s1=>codeAny (model prog w) A (.compLoop (.ListComp elt' [g0,⟨tg',it',ifs',0⟩] sc' pos') 1 j acc env) R s1) (notedBy (model prog w) A env fun x s1=>R (.error x) s1) s) :
  codeAny (model prog w) A (.compStart (.ListComp elt' [g0,⟨tg',it',ifs',0⟩] sc' pos') 1 itv acc env) R s:=by
 apply codeAny_of_tree
 show wpAny _ _ ((compStart (.ListComp elt' [g0,⟨tg',it',ifs',0⟩] sc' pos') 1 itv acc env).onRaise (fun z=>do noteFrame z env;standAt theWindowsPlace)) _ _ s
 apply wpAny_notedAt
 unfold compStart
 show wpAny _ _ (ask >>= _) _ _ s
 apply wpAny_bind
 apply wpAny_askSetting
 apply wpAny_ite
 split
 ·first
   | exact wpAny_bind (wpAny_pure (wpAny_pure (And.intro rfl here)))
   | exact wpAny_pure (And.intro rfl here)
 ·apply wpAny_bind
  apply wpAny_rule
  show wpAny _ _ (standAt it'.pos >>= _) _ _ s
  exact wpAny_bind (wpAny_standAt (wpAny_bind (wpAny_mono once (fun j s1 q=>wpAny_pure (And.intro rfl q)) fun _ _ z=>z)))
section
variable {elt2:Expr} {te:TE} {tg2 iter2:Expr} {ifs2:List Expr} {wi2:TI} {g2:TG} {tt2:TT} {tb2:TB} {y:Str} {i:Nat} {py spos:Pos}
def tIn (wi2:TI) (g2:TG) (tt2:TT) (tb2:TB):TB:=fun σ H Q=>wi2 σ H fun J H1=>acy J g2 tt2 tb2 σ H1 Q
theorem ajP {D:Addr} (hx:∀ e s,X.xe e s->False) (hc:X.calm=true) (hi:PI X tg2 iter2 wi2) (hg:PG X tg2 g2) (ht:PTs X ifs2 tt2) (he:PE X elt te)
  (hs:∀ x,foldedSetIterable iter2 X.env x=pure x) :
  PB X (do
   let x <- eval iter2 X.env
   standAt iter2.pos
   let x <- foldedSetIterable iter2 X.env x
   let _ <- runOwn (.compStart (.ListComp elt [⟨tg,iter,ifs,0⟩,⟨tg2,iter2,ifs2,0⟩] sc pos) 1 (<- holding [x] (pyIter x)) (.ref D) X.env) X.env) (tIn wi2 g2 tt2 (jV D te)):=by
 intro pins s σ H Q I h
 refine wpAny_bind (thn (hi pins s σ H _ I h) fun v s1 h1=>?_)
 refine wpAny_bind (wpAny_standAt ?_)
 refine wpAny_bind (wpAny_of_eq (hs v) ?_)
 refine wpAny_bind (wpAny_holding (thn h1 fun itv s2 h2=>?_))
 obtain⟨it,fp,tn,J,H2,e,I2,T,st2,f2,q⟩:=h2
 subst e
 refine wpAny_bind (wpAny_runOwn ?_)
 have loop:=acz (e:=.ListComp elt [⟨tg,iter,ifs,0⟩,⟨tg2,iter2,ifs2,0⟩] sc pos) (d:=1) (pos:=iter2.pos)
  (R:=fun r s'=>match r with | .ok f=>wpAny (model X.prog X.w) X.A (pure ()) (fun _ s'=>∃ σ' H',Inv X pins σ' H' s'/\Q σ' H') X.xe s' | .error e=>cameBackBy (model X.prog X.w) X.A X.env X.xe e s')
  hx hc hg ht (abD (D:=D) he) (fun _=>rfl) (fun _=>rfl) (fun _=>rfl) (fun _=>rfl) I2 T st2 f2 q (fun σ' H' s' J' _ q'=>wpAny_pure ⟨σ',H',J',q'⟩)
 exact aaT loop (T.self X.A 0 _ _ _ st2 loop)
theorem aeG (S:CompScope NO scO N sc own fr) (hsc:X.env.scope=scO) (ok:X.Ok):closureFor sc X.env=pure (zY X.env sc.names []) :=
 adR fun x hx=>ok.has x (by
  show X.env.scope.names.lookup x=_ \/ X.env.scope.names.lookup x=_
  rw [hsc]
  exact S.free _ hx rfl)
theorem aeH (S:CompScope NO scO N sc own fr) (hc:X.calm=true) (hi:PI X tg iter wi) (hg:∀ s₀ H₀ ex pn,PG (zh X sc N s₀ H₀ ex pn) tg g) (ht:∀ s₀ H₀ ex pn,PTs (zh X sc N s₀ H₀ ex pn) ifs tt)
  (hb:∀ D s₀ H₀ ex pn,∃ act,PB (zh X sc N s₀ H₀ ex pn) act (tb D)/\∀ it,compTurn (.ListComp elt (⟨tg,iter,ifs,0⟩ :: rest) sc pos) 0 it (.ref D) (zh X sc N s₀ H₀ ex pn).env=(do
   standAt iter.pos
   match <- pyNext it with
   | none=>pure (.done .next)
   | some v =>
    letOwnedTupleGo tg it v
    assign tg (zh X sc N s₀ H₀ ex pn).env v
    let mut ok:=true
    for c in ifs do
     if ok then ok <- isTrue c (zh X sc N s₀ H₀ ex pn).env (eval c (zh X sc N s₀ H₀ ex pn).env)
    if ok then
     act
    again (.compLoop (.ListComp elt (⟨tg,iter,ifs,0⟩ :: rest) sc pos) 0 it (.ref D) (zh X sc N s₀ H₀ ex pn).env)))
  (hN:X.N=NO) (hsc:X.env.scope=scO) (hs:∀ x,foldedSetIterable iter X.env x=pure x) :
  PE X (.ListComp elt (⟨tg,iter,ifs,0⟩ :: rest) sc pos) (ju wi own fr g tt tb):=by
 intro pins s σ H Q I h
 rw [eval_ListComp]
 refine wpAny_comprehension_free (use:=none) rfl hs (aeG S hsc I.ok) S.kind (fun p hp hl=>z5 S.snd (k:=.local) (by rw [<-hl];exact hp)) (thn (hi pins s σ H _ I h) fun v s1 h1=>thn h1 fun itv s2 h2=>?_)
 obtain⟨it,fp,tn,J,H2,e,I2,T,st2,f2,q⟩:=h2
 subst e
 refine acB (RR:=fun acc C=>compPost (model X.prog X.w) X.A X.xe none (EP X pins σ Q) acc C) S hN hsc hc hg ht hb I2 T st2 f2 q ?_
 rintro D C s' H' ⟨m,hm⟩ c0 c1 c2 c3 c4 J' q'
 exact⟨m,hm,fun h' hs'=>⟨.ref D,H',J'.touch hs' c2 c0 c1 c3 c4,rfl,q'⟩⟩
theorem aan (S:CompScope NO scO N sc own fr) (hc:X.calm=true) (hNd:X.N.Nodup) (hiN:X.N[i]?=some y) (hy:Loc X.env.scope y) (hi:PI X tg iter wi) (hg:∀ s₀ H₀ ex pn,PG (zh X sc N s₀ H₀ ex pn) tg g) (ht:∀ s₀ H₀ ex pn,PTs (zh X sc N s₀ H₀ ex pn) ifs tt)
  (hb:∀ D s₀ H₀ ex pn,∃ act,PB (zh X sc N s₀ H₀ ex pn) act (tb D)/\∀ it,compTurn (.ListComp elt (⟨tg,iter,ifs,0⟩ :: rest) sc pos) 0 it (.ref D) (zh X sc N s₀ H₀ ex pn).env=(do
   standAt iter.pos
   match <- pyNext it with
   | none=>pure (.done .next)
   | some v =>
    letOwnedTupleGo tg it v
    assign tg (zh X sc N s₀ H₀ ex pn).env v
    let mut ok:=true
    for c in ifs do
     if ok then ok <- isTrue c (zh X sc N s₀ H₀ ex pn).env (eval c (zh X sc N s₀ H₀ ex pn).env)
    if ok then
     act
    again (.compLoop (.ListComp elt (⟨tg,iter,ifs,0⟩ :: rest) sc pos) 0 it (.ref D) (zh X sc N s₀ H₀ ex pn).env)))
  (hN:X.N=NO) (hsc:X.env.scope=scO) (hs:∀ x,foldedSetIterable iter X.env x=pure x) (hf:X.fn y=true \/ X.env.scope.names.lookup y=some .local)
  (hsw:swapsWith (.ListComp elt (⟨tg,iter,ifs,0⟩ :: rest) sc pos) (some (.Name y py)) spos.line X.env=pure true) :
  PS X (.Assign [.Name y py] (.ListComp elt (⟨tg,iter,ifs,0⟩ :: rest) sc pos) spos) (qA (ju wi own fr g tt tb) (jc i)):=by
 intro pins s σ H D I h
 rw [exec_Assign_Name_used _ _ _ _ hsw]
 refine wpAny_bind (wpAny_standAt (wpAny_bind ?_))
 show wpAny _ X.A (do let _ <- comprehension (.ListComp elt (⟨tg,iter,ifs,0⟩ :: rest) sc pos) sc X.env _ (newList []) false (eval iter X.env) (some (assign (.Name y py) X.env))) _ _ s
 refine wpAny_bind (wpAny_mono (wpAny_comprehension_free (use:=some (assign (.Name y py) X.env)) (Q:=fun _ s'=>SP X pins D .next s') rfl hs (aeG S hsc I.ok) S.kind (fun p hp hl=>z5 S.snd (k:=.local) (by rw [<-hl];exact hp))
  (thn (hi pins s σ H _ I h) fun v s1 h1=>thn h1 fun itv s2 h2=>?_)) (fun _ s' hq=>wpAny_pure (wpAny_pure hq)) fun _ _ e=>e)
 obtain⟨it,fp,tn,J,H2,e,I2,T,st2,f2,q⟩:=h2
 subst e
 refine acB (Q:=fun x H1=>jc i x σ H1 D.nx) (RR:=fun acc C=>compPost (model X.prog X.w) X.A X.xe (some (assign (.Name y py) X.env)) (fun _ s'=>SP X pins D .next s') acc C) S hN hsc hc hg ht hb I2 T st2 f2 q ?_
 rintro A' C s' H' ⟨m,hm⟩ c0 c1 c2 c3 c4 J' q'
 show wpAny _ X.A (assign (.Name y py) X.env (.ref A')) _ _ _
 refine wpAny_assign_Name (aaY (v:=.ref A') J' hNd hiN hy rfl (fun s2' I2' hsb=>?_) hf)
 obtain⟨a,hs2,ha⟩:=hsb
 have hCa:C≠a:=by
  rcases ha with ha | ha
  ·rw [ha];exact c0
  ·exact anq (c1 _ _ ha)
 exact⟨m,hm.sameBut hs2 hCa,fun h' hs'=>⟨_,H',I2'.touch hs' c2 c0 c1 c3 c4,q'⟩⟩
end
end
section
variable {X:Cx} {tg elt iter tg2 iter2:Expr} {ifs ifs2:List Expr} {sc scO:Scope} {NO N:List Str} {own:Nat} {fr:List Nat} {wi wi2:TI} {g g2:TG} {tt tt2:TT} {te:TE} {pos py spos:Pos} {y:Str} {i:Nat}
theorem zZ (S:CompScope NO scO N sc own fr) (hc:X.calm=true) (hi:PI X tg iter wi) (hg:∀ s₀ H₀ ex pn,PG (zh X sc N s₀ H₀ ex pn) tg g) (ht:∀ s₀ H₀ ex pn,PTs (zh X sc N s₀ H₀ ex pn) ifs tt) (he:∀ s₀ H₀ ex pn,PE (zh X sc N s₀ H₀ ex pn) elt te)
  (hN:X.N=NO) (hsc:X.env.scope=scO) (hs:∀ x,foldedSetIterable iter X.env x=pure x):PE X (.ListComp elt [⟨tg,iter,ifs,0⟩] sc pos) (ju wi own fr g tt fun D=>jV D te) :=
 aeH S hc hi hg ht (fun D s₀ H₀ ex pn=>⟨_,abD (D:=D) (he s₀ H₀ ex pn),fun _=>rfl⟩) hN hsc hs
theorem je (S:CompScope NO scO N sc own fr) (hc:X.calm=true) (hNd:X.N.Nodup) (hiN:X.N[i]?=some y) (hy:Loc X.env.scope y) (hi:PI X tg iter wi) (hg:∀ s₀ H₀ ex pn,PG (zh X sc N s₀ H₀ ex pn) tg g) (ht:∀ s₀ H₀ ex pn,PTs (zh X sc N s₀ H₀ ex pn) ifs tt) (he:∀ s₀ H₀ ex pn,PE (zh X sc N s₀ H₀ ex pn) elt te)
  (hN:X.N=NO) (hsc:X.env.scope=scO) (hs:∀ x,foldedSetIterable iter X.env x=pure x) (hf:X.fn y=true \/ X.env.scope.names.lookup y=some .local)
  (hsw:swapsWith (.ListComp elt [⟨tg,iter,ifs,0⟩] sc pos) (some (.Name y py)) spos.line X.env=pure true) :
  PS X (.Assign [.Name y py] (.ListComp elt [⟨tg,iter,ifs,0⟩] sc pos) spos) (qA (ju wi own fr g tt fun D=>jV D te) (jc i)) :=
 aan S hc hNd hiN hy hi hg ht (fun D s₀ H₀ ex pn=>⟨_,abD (D:=D) (he s₀ H₀ ex pn),fun _=>rfl⟩) hN hsc hs hf hsw
end
theorem acC {elt tg iter tg2 iter2:Expr} {ifs ifs2:List Expr} {sc:Scope} {pos:Pos} {it acc:Value} {env:Env} :
  compTurn (.ListComp elt [⟨tg,iter,ifs,0⟩,⟨tg2,iter2,ifs2,0⟩] sc pos) 0 it acc env=(do
   standAt iter.pos
   match <- pyNext it with
   | none=>pure (.done .next)
   | some v =>
    letOwnedTupleGo tg it v
    assign tg env v
    let mut ok:=true
    for c in ifs do
     if ok then ok <- isTrue c env (eval c env)
    if ok then
     (do
      let x <- eval iter2 env
      standAt iter2.pos
      let x <- foldedSetIterable iter2 env x
      let _ <- runOwn (.compStart (.ListComp elt [⟨tg,iter,ifs,0⟩,⟨tg2,iter2,ifs2,0⟩] sc pos) 1 (<- holding [x] (pyIter x)) acc env) env)
    again (.compLoop (.ListComp elt [⟨tg,iter,ifs,0⟩,⟨tg2,iter2,ifs2,0⟩] sc pos) 0 it acc env)):=by
 unfold compTurn
 simp only [bind_assoc,pure_bind]
 rfl
section
variable {X:Cx} {tg elt iter tg2 iter2:Expr} {ifs ifs2:List Expr} {sc scO:Scope} {NO N:List Str} {own:Nat} {fr:List Nat} {wi wi2:TI} {g g2:TG} {tt tt2:TT} {te:TE} {pos py spos:Pos} {y:Str} {i:Nat}
theorem agQ (S:CompScope NO scO N sc own fr) (hc:X.calm=true) (hi:PI X tg iter wi) (hg:∀ s₀ H₀ ex pn,PG (zh X sc N s₀ H₀ ex pn) tg g) (ht:∀ s₀ H₀ ex pn,PTs (zh X sc N s₀ H₀ ex pn) ifs tt)
  (hi2:∀ s₀ H₀ ex pn,PI (zh X sc N s₀ H₀ ex pn) tg2 iter2 wi2) (hg2:∀ s₀ H₀ ex pn,PG (zh X sc N s₀ H₀ ex pn) tg2 g2) (ht2:∀ s₀ H₀ ex pn,PTs (zh X sc N s₀ H₀ ex pn) ifs2 tt2)
  (he:∀ s₀ H₀ ex pn,PE (zh X sc N s₀ H₀ ex pn) elt te) (hN:X.N=NO) (hsc:X.env.scope=scO) (hs:∀ x,foldedSetIterable iter X.env x=pure x) (hs2:∀ s₀ H₀ ex pn x,foldedSetIterable iter2 (zh X sc N s₀ H₀ ex pn).env x=pure x) :
  PE X (.ListComp elt [⟨tg,iter,ifs,0⟩,⟨tg2,iter2,ifs2,0⟩] sc pos) (ju wi own fr g tt fun D=>tIn wi2 g2 tt2 (jV D te)) :=
 aeH S hc hi hg ht (fun D s₀ H₀ ex pn=>⟨_,ajP (D:=D) (fun _ _ z=>z) hc (hi2 s₀ H₀ ex pn) (hg2 s₀ H₀ ex pn) (ht2 s₀ H₀ ex pn) (he s₀ H₀ ex pn) (hs2 s₀ H₀ ex pn),fun it=>acC⟩) hN hsc hs
theorem acD (S:CompScope NO scO N sc own fr) (hc:X.calm=true) (hNd:X.N.Nodup) (hiN:X.N[i]?=some y) (hy:Loc X.env.scope y) (hi:PI X tg iter wi) (hg:∀ s₀ H₀ ex pn,PG (zh X sc N s₀ H₀ ex pn) tg g) (ht:∀ s₀ H₀ ex pn,PTs (zh X sc N s₀ H₀ ex pn) ifs tt)
  (hi2:∀ s₀ H₀ ex pn,PI (zh X sc N s₀ H₀ ex pn) tg2 iter2 wi2) (hg2:∀ s₀ H₀ ex pn,PG (zh X sc N s₀ H₀ ex pn) tg2 g2) (ht2:∀ s₀ H₀ ex pn,PTs (zh X sc N s₀ H₀ ex pn) ifs2 tt2)
  (he:∀ s₀ H₀ ex pn,PE (zh X sc N s₀ H₀ ex pn) elt te) (hN:X.N=NO) (hsc:X.env.scope=scO) (hs:∀ x,foldedSetIterable iter X.env x=pure x) (hs2:∀ s₀ H₀ ex pn x,foldedSetIterable iter2 (zh X sc N s₀ H₀ ex pn).env x=pure x)
  (hf:X.fn y=true \/ X.env.scope.names.lookup y=some .local)
  (hsw:swapsWith (.ListComp elt [⟨tg,iter,ifs,0⟩,⟨tg2,iter2,ifs2,0⟩] sc pos) (some (.Name y py)) spos.line X.env=pure true) :
  PS X (.Assign [.Name y py] (.ListComp elt [⟨tg,iter,ifs,0⟩,⟨tg2,iter2,ifs2,0⟩] sc pos) spos) (qA (ju wi own fr g tt fun D=>tIn wi2 g2 tt2 (jV D te)) (jc i)) :=
 aan S hc hNd hiN hy hi hg ht (fun D s₀ H₀ ex pn=>⟨_,ajP (D:=D) (fun _ _ z=>z) hc (hi2 s₀ H₀ ex pn) (hg2 s₀ H₀ ex pn) (ht2 s₀ H₀ ex pn) (he s₀ H₀ ex pn) (hs2 s₀ H₀ ex pn),fun it=>acC⟩) hN hsc hs hf hsw
end
section
variable {X:Cx} {pins:List (Addr×Obj)} {σ:St} {H:Hp} {s:Shared} {h':Heap} {fp:List Addr}
theorem Inv.turnedAll {t':Nat} (I:Inv X pins σ H s) (hf:∀ b∈fp,qU X pins H b) (k:∀ b o,b∉fp->s.heap.get? b=some o->h'.get? b=some o):Inv X pins σ H { s with heap:=h',toks:=t' }:=by
 refine I.step (g':=s.gens) (d':=s.drawn) (ch:=fp) (fun b hb=>⟨(hf b hb).2.2.2.1,(hf b hb).2.1,(hf b hb).2.2.2.2⟩) (fun b o _ _ hc e _=>k b o hc e) (fun b o _ _ hc e _=>⟨o.slots,k b o hc e⟩) (fun _ _ _ _ n=>n)
  (fun b o hc e=>⟨o,k b o hc e⟩) (fun _ _ e=>e) (fun _ _ _ e=>e) (fun b ps e=>⟨#[],by rw [e];simp⟩) (fun m hm=>?_) (fun b u e=>?_) I.bare
 ·obtain⟨o,es,ep,ho,r⟩:=hm
  exact⟨o,es,ep,k _ o (fun z=>(hf _ z).2.1 rfl) ho,r⟩
 ·refine (I.hok b u e).stay (fun c v hc q=>k c v (fun z=>?_) q) (fun _ q=>q) fun _ _ q=>q
  have hn:=(hf c z).1
  rcases hc with hc | hc
  ·subst hc;rw [e] at hn;cases hn
  ·rw [hc] at hn;cases hn
theorem Inv.turnedNew {t':Nat} {t:Addr} {o:HO} (I:Inv X pins σ H s) (hf:∀ b∈fp,qU X pins H b) (k:∀ b o,b∉fp->s.heap.get? b=some o->h'.get? b=some o) (ht:s.heap.objs.size<=t) (new:ObjOk X.prog X.w (upd H t o) h' t o) :
  Inv X pins σ (upd H t o) { s with heap:=h',toks:=t' }:=by
 have hn:H t=none:=I.hok.fresh ht
 have ne:∀ b ob,s.heap.get? b=some ob->b≠t:=fun b ob e=>amQ (amJ (amA e) ht)
 refine I.step (g':=s.gens) (d':=s.drawn) (ch:=fp) (fun b hb=>⟨(hf b hb).2.2.2.1,(hf b hb).2.1,(hf b hb).2.2.2.2⟩) (fun b o _ _ hc e _=>k b o hc e) (fun b o _ _ hc e _=>⟨o.slots,k b o hc e⟩) (fun b ob _ e n=>by rw [zy (ne b ob e)];exact n)
  (fun b o hc e=>⟨o,k b o hc e⟩) (fun b xs e=>by rw [zy (zI e hn)];exact e) (fun b ob u e=>by rw [zy (zI e hn)];exact e) (fun b ps e=>⟨#[],by rw [zy (zI e hn),e];simp⟩) (fun m hm=>?_) (fun b u e=>?_) I.bare
 ·obtain⟨o,es,ep,ho,r⟩:=hm
  exact⟨o,es,ep,k _ o (fun z=>(hf _ z).2.1 rfl) ho,r⟩
 ·by_cases hb:b=t
  ·subst hb;rw [zA] at e;cases e;exact new
  ·rw [zy hb] at e
   refine (I.hok b u e).stay (fun c v hc q=>k c v (fun z=>?_) q) (fun c q=>by rw [zy (zI q hn)];exact q) fun c xs q=>by rw [zy (zI q hn)];exact q
   have hn':=(hf c z).1
   rcases hc with hc | hc
   ·subst hc;rw [e] at hn';cases hn'
   ·rw [hc] at hn';cases hn'
end
def Ite (K:amk) (a:Addr):It :=
 ⟨fun i H=>∃ xs x,SqL K H a xs/\xs[i]?=some x,fun i H x H'=>∃ t y,x=.ref t/\H t=none/\H'=upd H t (.tup [.int i,y])/\∀ xs,SqL K H a xs->xs[i]?=some y,fun i H=>∃ xs,SqL K H a xs/\xs.length<=i⟩
theorem afP {P:Program} {w:World} {K:amk} {es:List Expr} {k:Nat} {pos:Pos} (a e it:Addr) (hne:e≠it):Turn P w K (.Tuple es k pos) (Ite K a) [e,it] e (fun i h=>(∃ old,IsEnum h e it i old)/\h.IsListIter it a i) where
 mem:=by simp
 obj:=fun i h st b hb=>by
  obtain⟨⟨old,se⟩,o,eo,c,d⟩:=st
  rcases amu.mp hb with z | z
  ·subst z
   exact⟨_,se,fun v z=>by
    have z':Data.fields _=Data.cell v:=z
    cases z'⟩
  ·have z:b=it:=by simpa using z
   subst z
   exact⟨o,eo,fun v z=>by rw [d] at z;cases z⟩
 keep:=fun i h h' st kk=>⟨let⟨old,se⟩:=st.1;⟨old,kk e (by simp) _ se⟩,st.2.at fun o eo=>kk it (by simp) o eo⟩
 item:=by
  intro X hP hw hK hc i pins s σ H E I hf st hg
  subst hP hw hK
  obtain⟨xs,x,hq,hx⟩:=hg
  obtain⟨its,rv,p,hz⟩:=I.list hq
  obtain⟨u,hu,ru⟩:=rv.get hx
  obtain⟨⟨old,se⟩,si⟩:=st
  refine wpAny_pyNext_enum_item se si p.isList (x:=u) (by simpa using hu) hne fun h' so si' tp sz kp=>?_
  refine⟨_,rfl,?_⟩
  refine wpAny_letOwnedTupleGo_enum (s:={ s with heap:=h',toks:=s.toks+1 }) so fun h2 se2 sb=>?_
  have hlt:e<s.heap.objs.size:=amA se
  obtain⟨oi,eoi,_,_⟩:=id si
  have hlt2:it<s.heap.objs.size:=amA eoi
  have kk:∀ b o,b∉[e,it]->s.heap.get? b=some o->h2.get? b=some o:=fun b o hb eb=>by
   have h1:b≠e:=fun z=>hb (by simp [z])
   have h2':b≠it:=fun z=>hb (by simp [z])
   exact (sb.2 b h1).trans (kp b o h1 h2' eb)
  have I2:Inv X pins σ (upd H s.heap.objs.size (.tup [.int i,x])) { s with heap:=h2,toks:=s.toks+1 }:=I.turnedNew hf kk (amn _)
   ⟨by show 2<=sizeLine;decide,[.int i s.toks,u],.cons ⟨_,rfl⟩ (.cons ru .nil),⟨_,(sb.2 _ (ao7 hlt)).trans tp,rfl,_,rfl⟩⟩
  refine⟨.ref s.heap.objs.size,_,I2,rfl,⟨_,x,rfl,I.fresh,rfl,fun ys hy=>by rw [I.list_inj hy hq];exact hx⟩,⟨⟨_,se2⟩,?_⟩,fun b hb=>?_⟩
  ·exact si'.at fun o eo=>(sb.2 it (anq hne)).trans eo
  ·rw [zy]
   ·exact (hf b hb).1
   ·rcases amu.mp hb with z | z
    ·subst z;exact amQ hlt
    ·have z:b=it:=by simpa using z
     subst z;exact amQ hlt2
 done:=by
  intro X hP hw hK hc i pins s σ H E I hf st hg
  subst hP hw hK
  obtain⟨xs,hq,hx⟩:=hg
  obtain⟨its,rv,p,hz⟩:=I.list hq
  obtain⟨⟨old,se⟩,si⟩:=st
  have hl:=rv.length
  exact wpAny_pyNext_enum_end (I.ok.hd hc) se si p.isList (by simp;omega) fun h' eb=>⟨rfl,I.turnedAll (t':=s.toks) hf fun b o hb e'=>eb b o (fun z=>hb (by simp [z])) e'⟩
 self:=fun _ _ _ _ _ st h=>let⟨_,se⟩:=st.1;wpAny_pyIter_enum se h
section
variable {X:Cx} {es:List Expr} {k:Nat} {tpos:Pos}
def agR (K:amk) (ta:TA):TI:=fun σ H R=>ta σ H fun vs H1=>∃ a,vs=[.ref a]/\(∃ xs,SqL K H1 a xs)/\R (Ite K a) H1
theorem aiF {a:Expr} {ta:TA} {p pos:Pos} (hg:Gl X "enumerate") (hm:X.mg "enumerate"=none) (ha:PA X [a] ta) (hs:starEach [a] X.env=[(false,eval a X.env)]:=by rfl):PI X (.Tuple es k tpos) (.Call (.Name "enumerate" p) [a] [] pos) (agR X.K ta):=by
 intro pins s σ H R I h
 refine Call_ (vq I hg hm boot_enumerate (anz (thn (ha pos pins s σ H _ I h) fun us s1 ⟨vs,H1,I1,r1,q1⟩=>?_) hs rfl))
 obtain⟨l,e,⟨xs,hq⟩,q⟩:=q1
 subst e
 cases r1 with
 | cons r rr =>
  cases rr
  cases r
  obtain⟨its,rv,p,hz⟩:=I1.list hq
  refine call_enumerate_list p.isList fun h' he hi hsz kp=>?_
  refine wpAny_pyIter_enum he ?_
  have hne:s1.heap.objs.size+1≠s1.heap.objs.size:=Nat.succ_ne_self _
  refine⟨s1.heap.objs.size+1,[s1.heap.objs.size+1,s1.heap.objs.size],_,_,H1,rfl,I1.kept (t':=s1.toks) kp,afP l _ _ hne,⟨⟨_,he⟩,hi⟩,fun b hb=>?_,q⟩
  rcases amu.mp hb with z | z
  ·subst z;exact I1.fpOk (ap4 _) (I1.hok.fresh (ap4 _))
  ·have z:b=s1.heap.objs.size:=by simpa using z
   subst z;exact I1.fpOk (amn _) (I1.hok.fresh (amn _))
end
theorem agS {K:amk} {a:Addr} {xs:List V} {g:TG} {tb:TS} {D:Ends} {σ:St} {H:Hp} (Pv:Nat->St->Hp->Prop) (h0:Pv 0 σ H) (hl:∀ i σ H,i<=xs.length->Pv i σ H->SqL K H a xs)
  (hs:∀ i x σ H t,xs[i]?=some x->Pv i σ H->H t=none->g (.ref t) σ (upd H t (.tup [.int i,x])) fun σ2 H2=>tb { D with nx:=Pv (i+1),ct:=Pv (i+1),bk:=D.nx } σ2 H2) (hd:∀ σ H,Pv xs.length σ H->D.nx σ H) :
  ∃ W:Nat->Nat->St->Hp->Prop,(∃ m,W 0 m σ H)/\∀ i m σ H,W i m σ H ->
   ((Ite K a).stop i H/\D.nx σ H) \/ ((Ite K a).go i H/\∃ N:St->Hp->Prop,(∀ σ' H',N σ' H'->∃ m',m'<m/\W (i+1) m' σ' H')/\∀ x H',(Ite K a).yld i H x H'->g x σ H' fun σ2 H2=>tb { D with nx:=N,ct:=N,bk:=D.nx } σ2 H2):=by
 refine⟨fun i m σ H=>Pv i σ H/\i<=xs.length/\m+i=xs.length,⟨xs.length,h0,amT _,rfl⟩,fun i m σ H ⟨p,hi,hm⟩=>?_⟩
 have q:=hl i σ H hi p
 by_cases hlt:i<xs.length
 ·refine .inr ⟨⟨xs,xs[i],q,amf hlt⟩,Pv (i+1),fun σ' H' n=>⟨m - 1,by omega,n,hlt,by omega⟩,fun x H' hy=>?_⟩
  obtain⟨t,y,rfl,ht,rfl,hy⟩:=hy
  exact hs i y σ H t (hy xs q) p ht
 ·have e:i=xs.length:=by omega
  subst e
  exact .inl ⟨⟨xs,q,amn _⟩,hd σ H p⟩
mutual
def Rep (K:amk) (H:Hp):PyData->V->Prop
 | .none,v=>v=.non
 | .bool b,v=>v=.bl b
 | .int i,v=>v=.int i
 | .str x,v=>v=.str x
 | .list ds,v=>∃ a xs,v=.ref a/\SqL K H a xs/\Reps K H ds xs
 | .tuple ds,v=>∃ a xs,v=.ref a/\SqT K H a xs/\Reps K H ds xs
 | .dict _,_=>False
def Reps (K:amk) (H:Hp):List PyData->List V->Prop
 | [],xs=>xs=[]
 | d :: ds,xs=>∃ x r,xs=x :: r/\Rep K H d x/\Reps K H ds r
end
theorem Same.seqT {K:amk} {H H':Hp} {a:Addr} {xs:List V} (e:Same H H') (h:SqT K H a xs):SqT K H' a xs:=by
 rcases h with (h | ⟨o,h⟩) | h
 ·exact .inl (.inl (e _ _ h))
 ·exact .inl (.inr ⟨o,e _ _ h⟩)
 ·exact .inr h
mutual
theorem Rep.mono {K:amk} {H H':Hp} (e:Same H H'):∀ (d:PyData) (v:V),Rep K H d v->Rep K H' d v
 | .none,_,h=>by rw [Rep] at h ⊢;exact h
 | .bool _,_,h=>by rw [Rep] at h ⊢;exact h
 | .int _,_,h=>by rw [Rep] at h ⊢;exact h
 | .str _,_,h=>by rw [Rep] at h ⊢;exact h
 | .list ds,v,h=>by
  rw [Rep] at h ⊢
  obtain⟨a,xs,h1,h2,h3⟩:=h
  exact⟨a,xs,h1,e.seq h2,Reps.mono e ds xs h3⟩
 | .tuple ds,v,h=>by
  rw [Rep] at h ⊢
  obtain⟨a,xs,h1,h2,h3⟩:=h
  exact⟨a,xs,h1,e.seqT h2,Reps.mono e ds xs h3⟩
 | .dict _,_,h=>by rw [Rep] at h;exact h.elim
theorem Reps.mono {K:amk} {H H':Hp} (e:Same H H'):∀ (ds:List PyData) (xs:List V),Reps K H ds xs->Reps K H' ds xs
 | [],_,h=>by rw [Reps] at h ⊢;exact h
 | d :: ds,xs,h=>by
  rw [Reps] at h ⊢
  obtain⟨x,r,h1,h2,h3⟩:=h
  exact⟨x,r,h1,Rep.mono e d x h2,Reps.mono e ds r h3⟩
end
theorem rep_int {K:amk} {H:Hp} {i:Int} {v:V}:Rep K H (.int i) v↔v=.int i:=by rw [Rep]
theorem rep_bool {K:amk} {H:Hp} {b:Bool} {v:V}:Rep K H (.bool b) v↔v=.bl b:=by rw [Rep]
theorem rep_none {K:amk} {H:Hp} {v:V}:Rep K H .none v↔v=.non:=by rw [Rep]
theorem rep_str {K:amk} {H:Hp} {x:Str} {v:V}:Rep K H (.str x) v↔v=.str x:=by rw [Rep]
theorem rep_list {K:amk} {H:Hp} {ds:List PyData} {v:V}:Rep K H (.list ds) v↔∃ a xs,v=.ref a/\SqL K H a xs/\Reps K H ds xs:=by rw [Rep]
theorem rep_tuple {K:amk} {H:Hp} {ds:List PyData} {v:V}:Rep K H (.tuple ds) v↔∃ a xs,v=.ref a/\SqT K H a xs/\Reps K H ds xs:=by rw [Rep]
theorem reps_nil {K:amk} {H:Hp} {xs:List V}:Reps K H [] xs↔xs=[]:=by rw [Reps]
theorem reps_cons {K:amk} {H:Hp} {d:PyData} {ds:List PyData} {xs:List V}:Reps K H (d :: ds) xs↔∃ x r,xs=x :: r/\Rep K H d x/\Reps K H ds r:=by rw [Reps]
theorem Reps.nil' {K:amk} {H:Hp}:Reps K H [] []:=reps_nil.mpr rfl
theorem Reps.cons' {K:amk} {H:Hp} {d:PyData} {ds:List PyData} {x:V} {r:List V} (h:Rep K H d x) (t:Reps K H ds r):Reps K H (d :: ds) (x :: r):=reps_cons.mpr ⟨x,r,rfl,h,t⟩
theorem Reps.length {K:amk} {H:Hp}:∀ {ds:List PyData} {xs:List V},Reps K H ds xs->xs.length=ds.length
 | [],xs,h=>by rw [reps_nil.mp h];rfl
 | d :: ds,xs,h=>by
  obtain⟨x,r,rfl,_,h3⟩:=reps_cons.mp h
  rw [amB,amB,Reps.length h3]
theorem Reps.get {K:amk} {H:Hp}:∀ {ds:List PyData} {xs:List V} {i:Nat} {d:PyData},Reps K H ds xs->ds[i]?=some d->∃ x,xs[i]?=some x/\Rep K H d x
 | [],_,_,_,_,e=>by simp at e
 | d :: ds,xs,0,d',h,e=>by
  obtain⟨x,r,rfl,h2,_⟩:=reps_cons.mp h
  simp at e;subst e
  exact⟨x,rfl,h2⟩
 | d :: ds,xs,i+1,d',h,e=>by
  obtain⟨x,r,rfl,_,h3⟩:=reps_cons.mp h
  obtain⟨y,h1,h2⟩:=Reps.get (i:=i) h3 (by simpa using e)
  exact⟨y,by simpa using h1,h2⟩
theorem Reps.snoc {K:amk} {H:Hp} {d:PyData} {x:V} (h:Rep K H d x):∀ {ds:List PyData} {xs:List V},Reps K H ds xs->Reps K H (ds++[d]) (xs++[x])
 | [],xs,t=>by rw [reps_nil.mp t];exact .cons' h .nil'
 | d' :: ds,xs,t=>by
  obtain⟨y,r,rfl,h2,h3⟩:=reps_cons.mp t
  exact .cons' h2 (Reps.snoc h h3)
theorem Reps.append {K:amk} {H:Hp}:∀ {ds es:List PyData} {xs ys:List V},Reps K H ds xs->Reps K H es ys->Reps K H (ds++es) (xs++ys)
 | [],es,xs,ys,t,u=>by rw [reps_nil.mp t];exact u
 | d' :: ds,es,xs,ys,t,u=>by
  obtain⟨y,r,rfl,h2,h3⟩:=reps_cons.mp t
  exact .cons' h2 (Reps.append h3 u)
theorem Reps.ints {K:amk} {H:Hp}:∀ {ns:List Int} {xs:List V},Reps K H (ns.map .int) xs->xs=ns.map V.int
 | [],xs,h=>reps_nil.mp h
 | n :: ns,xs,h=>by
  obtain⟨x,r,rfl,h2,h3⟩:=reps_cons.mp h
  rw [rep_int.mp h2,Reps.ints h3];rfl
theorem Reps.ints' {K:amk} {H:Hp}:∀ (ns:List Int),Reps K H (ns.map .int) (ns.map V.int)
 | []=>.nil'
 | n :: ns=>.cons' (rep_int.mpr rfl) (Reps.ints' ns)
section
variable {X:Cx} {pins:List (Addr×Obj)} {σ:St} {H:Hp} {s:Shared}
mutual
theorem yB (I:Inv X pins σ H s):∀ (d:PyData) (v:V) (u:Value),Rep X.K H d v->RelV v u->∃ as,Reads s.heap u d as
 | .none,v,u,h,r=>by rw [rep_none.mp h] at r;cases r;exact⟨_,.none⟩
 | .bool b,v,u,h,r=>by rw [rep_bool.mp h] at r;cases r;exact⟨_,.bool b⟩
 | .int i,v,u,h,r=>by rw [rep_int.mp h] at r;obtain⟨t,rfl⟩:=r;exact⟨_,.int i t⟩
 | .str x,v,u,h,r=>by rw [rep_str.mp h] at r;obtain⟨t,rfl⟩:=r;exact⟨_,.str x t⟩
 | .list ds,v,u,h,r=>by
  obtain⟨a,xs,rfl,h2,h3⟩:=rep_list.mp h
  cases r
  obtain⟨its,rv,p,_⟩:=I.list h2
  obtain⟨o,ho,hc,n,hd⟩:=p.isList
  obtain⟨as,ra⟩:=yR I ds xs its h3 rv
  exact⟨_,.list ho hc hd (by simpa using ra)⟩
 | .tuple ds,v,u,h,r=>by
  obtain⟨a,xs,rfl,h2,h3⟩:=rep_tuple.mp h
  cases r
  obtain⟨its,rv,p,_⟩:=I.tuple h2
  obtain⟨o,ho,hc,n,hd⟩:=p
  obtain⟨as,ra⟩:=yR I ds xs its h3 rv
  exact⟨_,.tuple ho hc hd (by simpa using ra)⟩
 | .dict _,_,_,h,_=>by rw [Rep] at h;exact h.elim
theorem yR (I:Inv X pins σ H s):∀ (ds:List PyData) (xs:List V) (us:List Value),Reps X.K H ds xs->Vals xs us->∃ as,ReadsAll s.heap us ds as
 | [],xs,us,h,r=>by rw [reps_nil.mp h] at r;cases r;exact⟨_,.nil⟩
 | d :: ds,xs,us,h,r=>by
  obtain⟨x,q,rfl,h2,h3⟩:=reps_cons.mp h
  cases r with
  | cons r1 r2 =>
   obtain⟨as,ra⟩:=yB I d x _ h2 r1
   obtain⟨bs,rb⟩:=yR I ds q _ h3 r2
   exact⟨_,.cons ra rb⟩
end
def afQ (K:amk) (neg:Bool):R2:=fun x y H Q=>∃ d d',Rep K H d x/\Rep K H d' y/\d.canLay0=true/\d'.canLay0=true/\min d.depth d'.depth<=60/\Q (.bl (if neg then !amI d d' else amI d d')) H
theorem akC (hu:X.A.units+64<cLine):OpR X (compareOp .Eq) (afQ X.K false):=by
 intro pins s σ H x y v u Q I rx ry h
 obtain⟨d,d',h1,h2,c1,c2,hm,q⟩:=h
 obtain⟨as,ra⟩:=yB I d x v h1 rx
 obtain⟨bs,rb⟩:=yB I d' y u h2 ry
 exact SeqAt.compareEq_reads ra rb c1 c2 (by omega) ⟨.bl (amI d d'),H,I,rfl,q⟩
theorem akD (hu:X.A.units+64<cLine):OpR X (compareOp .NotEq) (afQ X.K true):=by
 intro pins s σ H x y v u Q I rx ry h
 obtain⟨d,d',h1,h2,c1,c2,hm,q⟩:=h
 obtain⟨as,ra⟩:=yB I d x v h1 rx
 obtain⟨bs,rb⟩:=yB I d' y u h2 ry
 exact SeqAt.compareNe_reads ra rb c1 c2 (by omega) ⟨.bl (!amI d d'),H,I,rfl,q⟩
theorem afR (hc:X.calm=true):yj X (.builtin "min") (fun xs H Q=>∃ a ns,xs=[.ref a]/\SqL X.K H a (ns.map V.int)/\ns≠[]/\∀ M,M∈ns->(∀ b∈ns,M<=b)->Q (.int M) H):=by
 intro pins s σ H xs us Q I r h
 obtain⟨a,ns,rfl,hq,hne,q⟩:=h
 obtain⟨u,rfl,r1⟩:=vals1 r
 cases r1
 obtain⟨its,rv,p,_⟩:=I.list hq
 obtain⟨m,F⟩:=I.fr
 have hi:=intsAre_of rv
 obtain⟨ys,e⟩:=hi.allInts.items
 have hns:ns=ys.toList.map (·.1):=by rw [<-hi.numsOf,<- nums_intItems,<- e]
 have hsz:0<ys.size:=by
  have h3:0<ns.length:=ao5.mpr hne
  rw [hns,amg,amy] at h3;exact h3
 have hl:=p.isList
 rw [e] at hl
 refine min_intList (I.ok.hd hc) hl hsz fun v h' tk hv hk=>?_
 obtain⟨t,rfl⟩:=intItems_at hv
 obtain⟨_,h2⟩:=argBest_lt (numAt ys) (ys.size - 1)
 refine⟨.int _,H,I.kept (t':=tk) hk,⟨t,rfl⟩,q _ ?_ fun b hb=>?_⟩
 ·rw [hns,numAt_eq];exact getD_mem (by rw [amg,amy];omega)
 ·rw [hns] at hb
  obtain⟨j,hj,rfl⟩:=mem_getD hb
  rw [amg,amy] at hj
  rw [<-numAt_eq];exact h2 j (by omega)
theorem afS (hc:X.calm=true):yj X (.builtin "max") (fun xs H Q=>∃ a ns,xs=[.ref a]/\SqL X.K H a (ns.map V.int)/\ns≠[]/\∀ M,M∈ns->(∀ b∈ns,b<=M)->Q (.int M) H):=by
 intro pins s σ H xs us Q I r h
 obtain⟨a,ns,rfl,hq,hne,q⟩:=h
 obtain⟨u,rfl,r1⟩:=vals1 r
 cases r1
 obtain⟨its,rv,p,_⟩:=I.list hq
 have hi:=intsAre_of rv
 obtain⟨ys,e⟩:=hi.allInts.items
 have hns:ns=ys.toList.map (·.1):=by rw [<-hi.numsOf,<- nums_intItems,<- e]
 have hsz:0<ys.size:=by
  have h3:0<ns.length:=ao5.mpr hne
  rw [hns,amg,amy] at h3;exact h3
 have hl:=p.isList
 rw [e] at hl
 refine max_intList (I.ok.hd hc) hl hsz fun v h' tk hv hk=>?_
 obtain⟨t,rfl⟩:=intItems_at hv
 obtain⟨_,h2⟩:=argBest_gt (numAt ys) (ys.size - 1)
 refine⟨.int _,H,I.kept (t':=tk) hk,⟨t,rfl⟩,q _ ?_ fun b hb=>?_⟩
 ·rw [hns,numAt_eq];exact getD_mem (by rw [amg,amy];omega)
 ·rw [hns] at hb
  obtain⟨j,hj,rfl⟩:=mem_getD hb
  rw [amg,amy] at hj
  rw [<-numAt_eq];exact h2 j (by omega)
end
inductive DV where
 | dat (d:PyData)
 | feed
 | own (k:Nat)
 | exc (C:Value)
 | mon (φ:Hp->V->Prop)
abbrev zp:=List (Option DV)
structure Fx where
 f:Option Addr
 M:List Addr
def hide (H:Hp) (f:Fx):Hp:=fun b=>if f.f=some b \/ b∈f.M then none else H b
structure FOk (f:Fx) (H:Hp):Prop where
 fd:∀ p,f.f=some p->∃ a b:Int,H p=some (.lst [.int a,.int b])/\0<=a/\0<=b/\b<2147483647
 mm:∀ b∈f.M,∃ o,H b=some o
 nm:∀ p,f.f=some p->p∉f.M
def RepV (K:amk) (f:Fx) (H:Hp):DV->V->Prop
 | .dat d,v=>Rep K (hide H f) d v
 | .feed,v=>∃ p,f.f=some p/\v=.ref p
 | .own k,v=>∃ p,f.M.reverse[k]?=some p/\v=.ref p
 | .exc C,v=>∃ a,v=.ref a/\hide H f a=some (.ext fun h=>∃ o,h.get? a=some o/\o.cls=C)
 | .mon φ,v=>∀ H',Same (hide H f) H'->φ H' v
structure Goes (f:Fx) (H H':Hp):Prop where
 sm:Same (hide H f) (hide H' f)
 ok:FOk f H'
 kp:∀ b∈f.M,H' b=H b
structure EnvOk (K:amk) (f:Fx) (ρ:zp) (σ:St) (H:Hp):Prop where
 len:ρ.length=σ.length
 get:∀ (i:Nat) x,ρ[i]?=some (some x)->∃ v,σ[i]?=some (some v)/\RepV K f H x v
 fd:FOk f H
theorem yv (H:Hp):hide H ⟨none,[]⟩=H:=by funext b;unfold hide;rw [if_neg (by rintro (h | h) <;> cases h)]
theorem zf (H:Hp) (f:Fx):Same (hide H f) H:=fun b o h=>by
 unfold hide at h
 split at h
 ·cases h
 ·exact h
theorem zL {H:Hp} {f:Fx} {b:Addr} {o:HO} (h:hide H f b=some o):¬ (f.f=some b \/ b∈f.M)/\H b=some o:=by
 unfold hide at h
 split at h
 ·cases h
 ·rename_i n;exact⟨n,h⟩
theorem zG {H:Hp} {f:Fx} {b:Addr} {o:HO} (n:¬ (f.f=some b \/ b∈f.M)) (h:H b=some o):hide H f b=some o:=by unfold hide;rw [if_neg n];exact h
theorem Goes.refl {f:Fx} {H:Hp} (h:FOk f H):Goes f H H:=⟨Same.refl _,h,fun _ _=>rfl⟩
theorem Goes.trans {f:Fx} {H H1 H2:Hp} (a:Goes f H H1) (b:Goes f H1 H2):Goes f H H2:=⟨a.1.trans b.1,b.2,fun x hx=>(b.kp x hx).trans (a.kp x hx)⟩
theorem Goes.of_same {f:Fx} {H H':Hp} (s:Same H H') (h:FOk f H):Goes f H H' :=
 ⟨fun b o e=>zG (zL e).1 (s b o (zL e).2),⟨fun p e=>let⟨a,b,h1,h2⟩:=h.fd p e;⟨a,b,s _ _ h1,h2⟩,fun b hb=>let⟨o,e⟩:=h.mm b hb;⟨o,s _ _ e⟩,h.nm⟩,fun b hb=>let⟨o,e⟩:=h.mm b hb;(s _ _ e).trans e.symm⟩
theorem ya {H:Hp} {p:Addr} (h:H p=none) (o:HO):Same H (upd H p o):=fun b u q=>by rw [zy (zI q h)];exact q
theorem RepV.mono {K:amk} {f:Fx} {H H':Hp} (g:Goes f H H'):∀ {x:DV} {v:V},RepV K f H x v->RepV K f H' x v
 | .dat d,v,h=>Rep.mono g.1 d v h
 | .feed,v,h=>h
 | .own _,v,h=>h
 | .exc _,v,h=>let⟨a,e,q⟩:=h;⟨a,e,g.1 _ _ q⟩
 | .mon _,v,h=>fun H' s=>h H' (g.1.trans s)
theorem EnvOk.mono {K:amk} {f:Fx} {ρ:zp} {σ:St} {H H':Hp} (e:EnvOk K f ρ σ H) (g:Goes f H H'):EnvOk K f ρ σ H' :=
 ⟨e.len,fun i x h=>let⟨v,h1,h2⟩:=e.get i x h;⟨v,h1,h2.mono g⟩,g.2⟩
theorem EnvOk.set {K:amk} {f:Fx} {ρ:zp} {σ:St} {H:Hp} {x:DV} {v:V} (e:EnvOk K f ρ σ H) (i:Nat) (r:RepV K f H x v):EnvOk K f (ρ.set i (some x)) (σ.set i (some v)) H:=by
 refine⟨by rw [aoz,aoz];exact e.len,fun j y h=>?_,e.fd⟩
 by_cases hj:i=j
 ·subst hj
  by_cases hi:i<ρ.length
  ·rw [anx hi] at h
   cases h
   exact⟨v,by rw [anx (by rw [<-e.len];exact hi)],r⟩
  ·rw [amL (by rw [aoz];omega)] at h;cases h
 ·rw [aok hj] at h ⊢
  exact e.get j y h
theorem fresh_ne {f:Fx} {H:Hp} {p:Addr} (h:FOk f H) (n:H p=none):¬ (f.f=some p \/ p∈f.M):=fun e=>by
 rcases e with e | e
 ·obtain⟨a,b,h1,_⟩:=h.fd p e
  rw [n] at h1;cases h1
 ·obtain⟨o,h1⟩:=h.mm p e
  rw [n] at h1;cases h1
inductive RepVs (K:amk) (f:Fx) (H:Hp):List DV->List V->Prop where
 | nil:RepVs K f H [] []
 | cons {x v xs vs}:RepV K f H x v->RepVs K f H xs vs->RepVs K f H (x :: xs) (v :: vs)
theorem RepVs.mono {K:amk} {f:Fx} {H H':Hp} (g:Goes f H H'):∀ {xs:List DV} {vs:List V},RepVs K f H xs vs->RepVs K f H' xs vs
 | _,_,.nil=>.nil
 | _,_,.cons r t=>.cons (r.mono g) (t.mono g)
theorem RepVs.length {K:amk} {f:Fx} {H:Hp}:∀ {xs:List DV} {vs:List V},RepVs K f H xs vs->vs.length=xs.length
 | _,_,.nil=>rfl
 | _,_,.cons _ t=>by rw [amB,amB,t.length]
section
variable (K:amk) (f:Fx)
def PEd (te:TE) (ρ:zp) (P:PyData->Prop):Prop:=∀ (σ:St) (H:Hp) (Q:VK),EnvOk K f ρ σ H->(∀ d v H',Goes f H H'->Rep K (hide H' f) d v->P d->Q v H')->te σ H Q
def PTd (tt:TT) (ρ:zp) (P:Bool->Prop):Prop:=∀ (σ:St) (H:Hp) (Q:Bool->Hp->Prop),EnvOk K f ρ σ H->(∀ b H',Goes f H H'->P b->Q b H')->tt σ H Q
def PAd (ta:TA) (ρ:zp) (P:List DV->Prop):Prop:=∀ (σ:St) (H:Hp) (Q:List V->Hp->Prop),EnvOk K f ρ σ H->(∀ xs vs H',Goes f H H'->RepVs K f H' xs vs->P xs->Q vs H')->ta σ H Q
structure DEnds where
 nx:zp->Prop
 rt:PyData->Prop
 bk:zp->Prop:=fun _=>False
 ct:zp->Prop:=fun _=>False
def PSd (ts:TS) (ρ:zp) (D:DEnds):Prop:=∀ (σ:St) (H:Hp) (E:Ends),EnvOk K f ρ σ H->(∀ ρ' σ' H',Goes f H H'->EnvOk K f ρ' σ' H'->D.nx ρ'->E.nx σ' H')->(∀ d v H',Goes f H H'->Rep K (hide H' f) d v->D.rt d->E.rt v H') ->
 (∀ ρ' σ' H',Goes f H H'->EnvOk K f ρ' σ' H'->D.bk ρ'->E.bk σ' H')->(∀ ρ' σ' H',Goes f H H'->EnvOk K f ρ' σ' H'->D.ct ρ'->E.ct σ' H')->ts E σ H
def spD {γ:Type} (n:Nat) (pre:γ->List DV->Prop) (post:γ->PyData->Prop):Sp:=fun vs H Q _=>∃ f xs c,RepVs K f H xs vs/\xs.length=n/\FOk f H/\pre c xs/\∀ r v H',Goes f H H'->Rep K (hide H' f) r v->post c r->Q v H'
end
section
variable {K:amk} {f:Fx} {ρ:zp} {P:PyData->Prop} {te ta tb tc:TE}
theorem zt {i:Nat} {d:PyData} (h:ρ[i]?=some (some (.dat d))) (p:P d):PEd K f (yH i) ρ P:=fun σ H Q e q=>by
 obtain⟨v,h1,h2⟩:=e.get i _ h
 exact⟨v,h1,q d v H (.refl e.fd) h2 p⟩
theorem qW {i:Int} (p:P (.int i)):PEd K f (tC (.int i)) ρ P:=fun σ H Q e q=>q (.int i) _ H (.refl e.fd) (rep_int.mpr rfl) p
theorem akE {i:Bool} (p:P (.bool i)):PEd K f (tC (.bl i)) ρ P:=fun σ H Q e q=>q (.bool i) _ H (.refl e.fd) (rep_bool.mpr rfl) p
theorem aeI {i:Str} (p:P (.str i)):PEd K f (tC (.str i)) ρ P:=fun σ H Q e q=>q (.str i) _ H (.refl e.fd) (rep_str.mpr rfl) p
theorem ajQ (p:P .none):PEd K f (tC .non) ρ P:=fun σ H Q e q=>q .none _ H (.refl e.fd) (rep_none.mpr rfl) p
theorem PEd.imp {P':PyData->Prop} (h:PEd K f te ρ P) (i:∀ d,P d->P' d):PEd K f te ρ P':=fun σ H Q e q=>h σ H Q e fun d v H' g r p=>q d v H' g r (i d p)
theorem afT {r:R2} (h:PEd K f ta ρ fun x=>PEd K f tb ρ fun y=>∀ (v w:V) (H:Hp) (Q:VK),FOk f H->Rep K (hide H f) x v->Rep K (hide H f) y w->(∀ d u H',Goes f H H'->Rep K (hide H' f) d u->P d->Q u H')->r v w H Q):PEd K f (tOp r ta tb) ρ P:=fun σ H Q e q =>
 h σ H _ e fun x v H1 g1 r1 p1=>p1 σ H1 _ (e.mono g1) fun y w H2 g2 r2 p2=>p2 v w H2 Q g2.2 (Rep.mono g2.1 x v r1) r2 fun d u H' g' r' p'=>q d u H' (g1.trans (g2.trans g')) r' p'
theorem al6 {r:V->Hp->VK->Prop} (h:PEd K f ta ρ fun x=>∀ (v:V) (H:Hp) (Q:VK),FOk f H->Rep K (hide H f) x v->(∀ d u H',Goes f H H'->Rep K (hide H' f) d u->P d->Q u H')->r v H Q):PEd K f (tUn r ta) ρ P:=fun σ H Q e q =>
 h σ H _ e fun x v H1 g1 r1 p1=>p1 v H1 Q g1.2 r1 fun d u H' g' r' p'=>q d u H' (g1.trans g') r' p'
theorem jf {g:Int->Int->Int} (h:PEd K f ta ρ fun x=>∃ i,x=.int i/\PEd K f tb ρ fun y=>∃ j,y=.int j/\P (.int (g i j))):PEd K f (tOp (rI0 fun i j=>.int (g i j)) ta tb) ρ P :=
 afT (h.imp fun x ⟨i,ex,h2⟩=>h2.imp fun y ⟨j,ey,p⟩ v w H Q fo rx ry q=>by
  subst ex ey
  exact⟨i,j,rep_int.mp rx,rep_int.mp ry,q _ _ H (.refl fo) (rep_int.mpr rfl) p⟩)
theorem agT {C:Int->Int->Prop} {g:Int->Int->Int} (h:PEd K f ta ρ fun x=>∃ i,x=.int i/\PEd K f tb ρ fun y=>∃ j,y=.int j/\C i j/\P (.int (g i j))):PEd K f (tOp (rI C fun i j=>.int (g i j)) ta tb) ρ P :=
 afT (h.imp fun x ⟨i,ex,h2⟩=>h2.imp fun y ⟨j,ey,c,p⟩ v w H Q fo rx ry q=>by
  subst ex ey
  exact⟨i,j,rep_int.mp rx,rep_int.mp ry,c,q _ _ H (.refl fo) (rep_int.mpr rfl) p⟩)
theorem agU {g:Int->Int->Bool} (h:PEd K f ta ρ fun x=>∃ i,x=.int i/\PEd K f tb ρ fun y=>∃ j,y=.int j/\P (.bool (g i j))):PEd K f (tOp (rI0 fun i j=>.bl (g i j)) ta tb) ρ P :=
 afT (h.imp fun x ⟨i,ex,h2⟩=>h2.imp fun y ⟨j,ey,p⟩ v w H Q fo rx ry q=>by
  subst ex ey
  exact⟨i,j,rep_int.mp rx,rep_int.mp ry,q _ _ H (.refl fo) (rep_bool.mpr rfl) p⟩)
theorem jW {neg:Bool} (h:PEd K f ta ρ fun x=>PEd K f tb ρ fun y=>x.canLay0=true/\y.canLay0=true/\min x.depth y.depth<=60/\P (.bool (if neg then !amI x y else amI x y))):PEd K f (tOp (afQ K neg) ta tb) ρ P :=
 afT (h.imp fun x h2=>h2.imp fun y ⟨c1,c2,c3,p⟩ v w H Q fo rx ry q =>
  ⟨x,y,Rep.mono (zf _ _) x v rx,Rep.mono (zf _ _) y w ry,c1,c2,c3,q _ _ H (.refl fo) (rep_bool.mpr rfl) p⟩)
theorem vQ (h:PEd K f ta ρ fun x=>∃ ds,x=.list ds/\PEd K f tb ρ fun y=>∃ k,y=.int k/\∃ d,atI ds k=some d/\P d):PEd K f (tOp (afM K) ta tb) ρ P :=
 afT (h.imp fun x ⟨ds,ex,h2⟩=>h2.imp fun y ⟨k,ey,d,a,p⟩ v w H Q fo rx ry q=>by
  subst ex ey
  obtain⟨l,xs,rfl,hs,hr⟩:=rep_list.mp rx
  unfold atI at a
  cases hi:ixN ds.length k with
  | none=>rw [hi] at a;cases a
  | some j =>
   rw [hi] at a
   obtain⟨u,hu,ru⟩:=hr.get a
   exact⟨l,xs,k,u,rfl,rep_int.mp ry,(zf H f).seq hs,by unfold atI;rw [hr.length,hi];exact hu,q d u H (.refl fo) ru p⟩)
theorem agV (h:PEd K f ta ρ fun x=>∃ ds,x=.tuple ds/\PEd K f tb ρ fun y=>∃ k,y=.int k/\∃ d,atI ds k=some d/\P d):PEd K f (tOp (akx K) ta tb) ρ P :=
 afT (h.imp fun x ⟨ds,ex,h2⟩=>h2.imp fun y ⟨k,ey,d,a,p⟩ v w H Q fo rx ry q=>by
  subst ex ey
  obtain⟨l,xs,rfl,hs,hr⟩:=rep_tuple.mp rx
  unfold atI at a
  cases hi:ixN ds.length k with
  | none=>rw [hi] at a;cases a
  | some j =>
   rw [hi] at a
   obtain⟨u,hu,ru⟩:=hr.get a
   exact⟨l,xs,k,u,rfl,rep_int.mp ry,(zf H f).seqT hs,by unfold atI;rw [hr.length,hi];exact hu,q d u H (.refl fo) ru p⟩)
theorem ajR {i:Nat} (hi:ρ[i]?=some (some .feed)) (h:PEd K f tb ρ fun y=>(y=.int 0/\∀ a:Int,0<=a->P (.int a)) \/ (y=.int 1/\∀ b:Int,0<=b->b<2147483647->P (.int b))):PEd K f (tOp (afM K) (yH i) tb) ρ P:=fun σ H Q e q=>by
 obtain⟨v,h1,p,ef,ev⟩:=e.get i _ hi
 refine⟨v,h1,h σ H _ e fun y w H' g r c=>?_⟩
 obtain⟨a,b,hf,c1,c2,c3⟩:=g.2.fd p ef
 rcases c with⟨rfl,c⟩ | ⟨rfl,c⟩
 ·exact⟨p,_,0,.int a,ev,rep_int.mp r,SqL.of hf,rfl,q (.int a) _ H' g (rep_int.mpr rfl) (c a c1)⟩
 ·exact⟨p,_,1,.int b,ev,rep_int.mp r,SqL.of hf,rfl,q (.int b) _ H' g (rep_int.mpr rfl) (c b c2 c3)⟩
theorem yw {R:List DV->Prop} (p:R []):PAd K f qJ ρ R:=fun σ H Q e q=>q [] [] H (.refl e.fd) .nil p
theorem zE {R:List DV->Prop} {u:TA} (h:PEd K f te ρ fun x=>PAd K f u ρ fun xs=>R (.dat x :: xs)):PAd K f (yQ te u) ρ R:=fun σ H Q e q =>
 h σ H _ e fun x v H1 g1 r1 p1=>p1 σ H1 _ (e.mono g1) fun xs vs H2 g2 r2 p2=>q (.dat x :: xs) (v :: vs) H2 (g1.trans g2) (.cons (RepV.mono (x:=.dat x) g2 r1) r2) p2
theorem agW {R:List DV->Prop} {u:TA} {i:Nat} (hi:ρ[i]?=some (some .feed)) (h:PAd K f u ρ fun xs=>R (.feed :: xs)):PAd K f (yQ (yH i) u) ρ R:=fun σ H Q e q=>by
 obtain⟨v,h1,h2⟩:=e.get i _ hi
 exact⟨v,h1,h σ H _ e fun xs vs H2 g2 r2 p2=>q (.feed :: xs) (v :: vs) H2 g2 (.cons (RepV.mono (x:=.feed) g2 h2) r2) p2⟩
def jE:List DV->Option (List PyData)
 | []=>some []
 | .dat d :: r=>(jE r).map (d :: ·)
 | .feed :: _=>none
 | .own _ :: _=>none
 | .exc _ :: _=>none
 | .mon _ :: _=>none
theorem ql {H:Hp}:∀ {xs:List DV} {vs:List V} {ds:List PyData},RepVs K f H xs vs->jE xs=some ds->Reps K (hide H f) ds vs
 | _,_,ds,.nil,e=>by cases e;exact .nil'
 | .dat d :: xs,v :: vs,ds,.cons r t,e=>by
  unfold jE at e
  cases q:jE xs with
  | none=>rw [q] at e;cases e
  | some es=>rw [q] at e;cases e;exact .cons' r (ql t q)
 | .feed :: xs,_,ds,.cons r t,e=>by cases e
 | .own _ :: xs,_,ds,.cons r t,e=>by cases e
 | .exc _ :: xs,_,ds,.cons r t,e=>by cases e
 | .mon _ :: xs,_,ds,.cons r t,e=>by cases e
theorem ajS {t:TA} (h:PAd K f t ρ fun xs=>∃ ds,jE xs=some ds/\ds.length<=1000/\P (.list ds)):PEd K f (agL t) ρ P:=fun σ H Q e q =>
 h σ H _ e fun xs vs H1 g1 r1 ⟨ds,ea,hl,p⟩=>by
  have rs:=ql r1 ea
  refine⟨by rw [rs.length];exact anb (yg hl),fun l hn=>?_⟩
  have sm:=ya hn (.lst vs)
  have g2:Goes f H1 (upd H1 l (.lst vs)):=.of_same sm g1.2
  exact q (.list ds) _ _ (g1.trans g2) (rep_list.mpr ⟨l,vs,rfl,.of (zG (fresh_ne g1.2 hn) zA),Reps.mono g2.1 ds vs rs⟩) p
theorem jX {t:TA} (h:PAd K f t ρ fun xs=>∃ ds,jE xs=some ds/\ds.length<=1000/\P (.tuple ds)):PEd K f (alB t) ρ P:=fun σ H Q e q =>
 h σ H _ e fun xs vs H1 g1 r1 ⟨ds,ea,hl,p⟩=>by
  have rs:=ql r1 ea
  refine⟨by rw [rs.length];exact anb (yg hl),fun l hn=>?_⟩
  have sm:=ya hn (.tup vs)
  have g2:Goes f H1 (upd H1 l (.tup vs)):=.of_same sm g1.2
  exact q (.tuple ds) _ _ (g1.trans g2) (rep_tuple.mpr ⟨l,vs,rfl,.of (zG (fresh_ne g1.2 hn) zA),Reps.mono g2.1 ds vs rs⟩) p
theorem zm {γ:Type} {n:Nat} {pre:γ->List DV->Prop} {post:γ->PyData->Prop} {E:XK} {t:TA} (c:γ) (h:PAd K f t ρ fun xs=>xs.length=n/\pre c xs/\∀ r,post c r->P r):PEd K f (acu (spD K n pre post) [] E t) ρ P:=fun σ H Q e q =>
 h σ H _ e fun xs vs H1 g1 r1 ⟨hl,hp,k⟩=>by
  refine⟨f,xs,c,by rw [anj];exact r1,hl,g1.2,hp,fun r v H' g' r' p'=>q r v H' (g1.trans g') r' (k r p')⟩
theorem afU {r:List V->Hp->VK->Prop} {t:TA} (h:PAd K f t ρ fun xs=>∃ ds,jE xs=some ds/\∀ (vs:List V) (H:Hp) (Q:VK),FOk f H->Reps K (hide H f) ds vs->(∀ d u H',Goes f H H'->Rep K (hide H' f) d u->P d->Q u H')->r vs H Q):PEd K f (tCB r t) ρ P:=fun σ H Q e q =>
 h σ H _ e fun xs vs H1 g1 r1 ⟨ds,ea,k⟩=>k vs H1 Q g1.2 (ql r1 ea) fun d u H' g' r' p'=>q d u H' (g1.trans g') r' p'
end
section
variable {K:amk} {f:Fx} {ρ:zp} {P:PyData->Prop} {B:Bool->Prop} {te ta tb tc:TE} {tt tu:TT}
theorem PTd.imp {B':Bool->Prop} (h:PTd K f tt ρ B) (i:∀ d,B d->B' d):PTd K f tt ρ B':=fun σ H Q e q=>h σ H Q e fun d H' g p=>q d H' g (i d p)
theorem yC (h:PEd K f te ρ fun d=>∃ k,d=.bool k/\B k):PTd K f (aex te) ρ B:=fun σ H Q e q=>h σ H _ e fun d v H' g r ⟨k,ed,p⟩=>by
 subst ed
 exact⟨k,rep_bool.mp r,q k H' g p⟩
theorem agX (h:PTd K f tt ρ fun c=>if c=true then PTd K f tu ρ B else B false):PTd K f (alw tt tu) ρ B:=fun σ H Q e q=>h σ H _ e fun c H1 g p=>by
 cases c with
 | true =>
  rw [if_pos rfl] at p ⊢
  exact p σ H1 Q (e.mono g) fun b H2 g2 p2=>q b H2 (g.trans g2) p2
 | false =>
  rw [if_neg amh] at p ⊢
  exact q false H1 g p
theorem alE (h:PTd K f tt ρ fun c=>if c=true then B true else PTd K f tu ρ B):PTd K f (tOr tt tu) ρ B:=fun σ H Q e q=>h σ H _ e fun c H1 g p=>by
 cases c with
 | true =>
  rw [if_pos rfl] at p ⊢
  exact q true H1 g p
 | false =>
  rw [if_neg amh] at p ⊢
  exact p σ H1 Q (e.mono g) fun b H2 g2 p2=>q b H2 (g.trans g2) p2
theorem aeJ (h:PTd K f tt ρ fun c=>B (!c)):PTd K f (alx tt) ρ B:=fun σ H Q e q=>h σ H _ e fun c H1 g p=>q (!c) H1 g p
def al7:PyData->Option Bool
 | .none=>some false
 | .bool b=>some b
 | .int i=>some (i != 0)
 | .list ds=>some (!ds.isEmpty)
 | .tuple ds=>some (!ds.isEmpty)
 | _=>none
def akF (K:amk) (ta:TE):TT:=fun σ H Q=>ta σ H fun x H'=>∃ k,aku K x H' k/\Q k H'
theorem akG {X:Cx} {a:Expr} (ha:PE X a ta) (he:∀ whole,isTrue a X.env whole=(do let v <- whole;standAt a.pos;holding [v] (truthy v))):PT X a (akF X.K ta):=agJ ha he
theorem qE (h:PEd K f ta ρ fun d=>∃ k,al7 d=some k/\B k):PTd K f (akF K ta) ρ B:=fun σ H Q e q=>h σ H _ e fun d v H' g r ⟨k,ed,p⟩=>by
 refine⟨k,?_,q k H' g p⟩
 cases d with
 | none=>rw [rep_none.mp r];cases ed;rfl
 | bool b=>rw [rep_bool.mp r];cases ed;rfl
 | int i=>rw [rep_int.mp r];cases ed;rfl
 | str x=>cases ed
 | list ds =>
  obtain⟨a,xs,rfl,h1,h2⟩:=rep_list.mp r
  cases ed
  refine .inl ⟨xs,(zf _ _).seq h1,?_⟩
  cases ds with
  | nil=>rw [reps_nil.mp h2];rfl
  | cons d ds=>obtain⟨x,r,rfl,_⟩:=reps_cons.mp h2;rfl
 | tuple ds =>
  obtain⟨a,xs,rfl,h1,h2⟩:=rep_tuple.mp r
  cases ed
  refine .inr (.inl ⟨xs,(zf _ _).seqT h1,?_⟩)
  cases ds with
  | nil=>rw [reps_nil.mp h2];rfl
  | cons d ds=>obtain⟨x,r,rfl,_⟩:=reps_cons.mp h2;rfl
 | dict _=>cases ed
theorem aiG (h:PTd K f tt ρ fun c=>if c=true then PEd K f ta ρ P else PEd K f tb ρ P):PEd K f (tIf tt ta tb) ρ P:=fun σ H Q e q=>h σ H _ e fun c H1 g p=>by
 cases c with
 | true=>rw [if_pos rfl] at p ⊢;exact p σ H1 Q (e.mono g) fun d v H2 g2 r2 p2=>q d v H2 (g.trans g2) r2 p2
 | false=>rw [if_neg amh] at p ⊢;exact p σ H1 Q (e.mono g) fun d v H2 g2 r2 p2=>q d v H2 (g.trans g2) r2 p2
theorem adS (h:PEd K f ta ρ fun x=>∃ c,x=.bool c/\if c=true then PEd K f tb ρ P else P (.bool false)):PEd K f (ajK ta tb) ρ P:=fun σ H Q e q=>h σ H _ e fun x v H1 g r ⟨c,ex,p⟩=>by
 subst ex
 refine⟨c,rep_bool.mp r,?_⟩
 cases c with
 | true=>rw [if_pos rfl] at p ⊢;exact p σ H1 Q (e.mono g) fun d v H2 g2 r2 p2=>q d v H2 (g.trans g2) r2 p2
 | false=>rw [if_neg amh] at p ⊢;exact q _ _ H1 g (rep_bool.mpr rfl) p
theorem agY (h:PEd K f ta ρ fun x=>∃ c,x=.bool c/\P (.bool !c)):PEd K f (ajL ta) ρ P:=fun σ H Q e q=>h σ H _ e fun x v H1 g r ⟨c,ex,p⟩=>by
 subst ex
 exact⟨c,rep_bool.mp r,q _ _ H1 g (rep_bool.mpr rfl) p⟩
theorem aeK {g g':Int->Int->Bool} (h:PEd K f ta ρ fun x=>∃ i,x=.int i/\PEd K f tb ρ fun y=>∃ j,y=.int j/\if g i j=true then PEd K f tc ρ fun z=>∃ k,z=.int k/\P (.bool (g' j k)) else P (.bool false)) :
  PEd K f (agI (rI0 fun i j=>.bl (g i j)) (rI0 fun i j=>.bl (g' i j)) ta tb tc) ρ P:=fun σ H Q e q=>h σ H _ e fun x v H1 g1 r1 ⟨i,ex,p1⟩=>p1 σ H1 _ (e.mono g1) fun y w H2 g2 r2 ⟨j,ey,p2⟩=>by
 subst ex ey
 refine⟨i,j,rep_int.mp r1,rep_int.mp r2,g i j,rfl,?_⟩
 by_cases hg:g i j=true
 ·rw [if_pos hg] at p2 ⊢
  exact p2 σ H2 _ ((e.mono g1).mono g2) fun z u H3 g3 r3 ⟨k,ez,p3⟩=>by
   subst ez
   exact⟨j,k,rep_int.mp r2,rep_int.mp r3,q _ _ H3 (g1.trans (g2.trans g3)) (rep_bool.mpr rfl) p3⟩
 ·rw [if_neg hg] at p2 ⊢
  exact q _ _ H2 (g1.trans g2) (rep_bool.mpr rfl) p2
theorem aa6 {t:TA} (h:PAd K f t ρ fun xs=>(∃ ds,xs=[.dat (.list ds)]/\P (.int ds.length)) \/ (∃ ds,xs=[.dat (.tuple ds)]/\P (.int ds.length))) :
  PEd K f (tCB (fun xs H Q=>∃ p ys,xs=[.ref p]/\(SqL K H p ys \/ SqT K H p ys)/\Q (.int ys.length) H) t) ρ P :=
 afU fun σ H Q e q=>h σ H Q e fun xs vs H' g r p=>by
  rcases p with⟨ds,rfl,p⟩ | ⟨ds,rfl,p⟩
  ·refine q _ vs H' g r ⟨_,rfl,fun vs H Q fo rs k=>?_⟩
   obtain⟨x,r,rfl,h2,h3⟩:=reps_cons.mp rs
   rw [reps_nil.mp h3]
   obtain⟨a,ys,rfl,s1,s2⟩:=rep_list.mp h2
   exact⟨a,ys,rfl,.inl ((zf _ _).seq s1),k (.int ds.length) _ H (.refl fo) (rep_int.mpr (by rw [s2.length])) p⟩
  ·refine q _ vs H' g r ⟨_,rfl,fun vs H Q fo rs k=>?_⟩
   obtain⟨x,r,rfl,h2,h3⟩:=reps_cons.mp rs
   rw [reps_nil.mp h3]
   obtain⟨a,ys,rfl,s1,s2⟩:=rep_tuple.mp h2
   exact⟨a,ys,rfl,.inr ((zf _ _).seqT s1),k (.int ds.length) _ H (.refl fo) (rep_int.mpr (by rw [s2.length])) p⟩
theorem abE {t:TA} (h:PAd K f t ρ fun xs=>∃ ns:List Int,xs=[.dat (.list (ns.map .int))]/\ns≠[]/\∀ M,M∈ns->(∀ b∈ns,M<=b)->P (.int M)) :
  PEd K f (tCB (fun xs H Q=>∃ a ns,xs=[.ref a]/\SqL K H a (ns.map V.int)/\ns≠[]/\∀ M,M∈ns->(∀ b∈ns,M<=b)->Q (.int M) H) t) ρ P :=
 afU fun σ H Q e q=>h σ H Q e fun xs vs H' g r ⟨ns,ex,hne,p⟩=>by
  subst ex
  refine q _ vs H' g r ⟨_,rfl,fun vs H Q fo rs k=>?_⟩
  obtain⟨x,r,rfl,h2,h3⟩:=reps_cons.mp rs
  rw [reps_nil.mp h3]
  obtain⟨a,ys,rfl,s1,s2⟩:=rep_list.mp h2
  rw [s2.ints] at s1
  exact⟨a,ns,rfl,(zf _ _).seq s1,hne,fun M h1 h2=>k (.int M) _ H (.refl fo) (rep_int.mpr rfl) (p M h1 h2)⟩
theorem abF {t:TA} (h:PAd K f t ρ fun xs=>∃ ns:List Int,xs=[.dat (.list (ns.map .int))]/\ns≠[]/\∀ M,M∈ns->(∀ b∈ns,b<=M)->P (.int M)) :
  PEd K f (tCB (fun xs H Q=>∃ a ns,xs=[.ref a]/\SqL K H a (ns.map V.int)/\ns≠[]/\∀ M,M∈ns->(∀ b∈ns,b<=M)->Q (.int M) H) t) ρ P :=
 afU fun σ H Q e q=>h σ H Q e fun xs vs H' g r ⟨ns,ex,hne,p⟩=>by
  subst ex
  refine q _ vs H' g r ⟨_,rfl,fun vs H Q fo rs k=>?_⟩
  obtain⟨x,r,rfl,h2,h3⟩:=reps_cons.mp rs
  rw [reps_nil.mp h3]
  obtain⟨a,ys,rfl,s1,s2⟩:=rep_list.mp h2
  rw [s2.ints] at s1
  exact⟨a,ns,rfl,(zf _ _).seq s1,hne,fun M h1 h2=>k (.int M) _ H (.refl fo) (rep_int.mpr rfl) (p M h1 h2)⟩
theorem agZ {g:Int->Int->Int} {t:TA} (h:PAd K f t ρ fun xs=>∃ i j,xs=[.dat (.int i),.dat (.int j)]/\P (.int (g i j))):PEd K f (tCB (fun xs H Q=>∃ i j,xs=[.int i,.int j]/\Q (.int (g i j)) H) t) ρ P :=
 afU fun σ H Q e q=>h σ H Q e fun xs vs H' g' r ⟨i,j,ex,p⟩=>by
  subst ex
  refine q _ vs H' g' r ⟨_,rfl,fun vs H Q fo rs k=>?_⟩
  obtain⟨x,r,rfl,h2,h3⟩:=reps_cons.mp rs
  obtain⟨y,r',rfl,h4,h5⟩:=reps_cons.mp h3
  rw [reps_nil.mp h5,rep_int.mp h2,rep_int.mp h4]
  exact⟨i,j,rfl,k _ _ H (.refl fo) (rep_int.mpr rfl) p⟩
theorem ag0 {g:Int->Int} {t:TA} (h:PAd K f t ρ fun xs=>∃ i,xs=[.dat (.int i)]/\P (.int (g i))):PEd K f (tCB (fun xs H Q=>∃ i,xs=[.int i]/\Q (.int (g i)) H) t) ρ P :=
 afU fun σ H Q e q=>h σ H Q e fun xs vs H' g' r ⟨i,ex,p⟩=>by
  subst ex
  refine q _ vs H' g' r ⟨_,rfl,fun vs H Q fo rs k=>?_⟩
  obtain⟨x,r,rfl,h2,h3⟩:=reps_cons.mp rs
  rw [reps_nil.mp h3,rep_int.mp h2]
  exact⟨i,rfl,k _ _ H (.refl fo) (rep_int.mpr rfl) p⟩
end
section
variable {K:amk} {f:Fx} {ρ:zp} {D:DEnds} {te ta tb:TE} {tt:TT} {ts tu:TS}
theorem jY (p:D.nx ρ):PSd K f aes ρ D:=fun σ H E e n _ _ _=>n ρ σ H (.refl e.fd) e p
theorem zN (h:PSd K f ts ρ { D with nx:=fun ρ'=>PSd K f tu ρ' D }):PSd K f (aae ts tu) ρ D:=fun σ H E e n r b c =>
 h σ H { E with nx:=tu E } e (fun ρ' σ' H' g e' p=>p σ' H' E e' (fun ρ'' σ'' H'' g' e'' p'=>n ρ'' σ'' H'' (g.trans g') e'' p') (fun d v H'' g' r' p'=>r d v H'' (g.trans g') r' p') (fun ρ'' σ'' H'' g' e'' p'=>b ρ'' σ'' H'' (g.trans g') e'' p') (fun ρ'' σ'' H'' g' e'' p'=>c ρ'' σ'' H'' (g.trans g') e'' p')) r b c
theorem yx (h:PEd K f te ρ D.rt):PSd K f (afH te) ρ D:=fun σ H E e n r b c=>h σ H _ e r
theorem jZ (h:PEd K f te ρ fun _=>D.nx ρ):PSd K f (aet te) ρ D:=fun σ H E e n r b c=>h σ H _ e fun d v H' g _ p=>n ρ σ H' g (e.mono g) p
theorem aao (h:PTd K f tt ρ fun b=>if b=true then PSd K f ts ρ D else PSd K f tu ρ D):PSd K f (agD tt ts tu) ρ D:=fun σ H E e n r b c=>h σ H _ e fun k H1 g p=>by
 cases k with
 | true =>
  rw [if_pos rfl] at p ⊢
  exact p σ H1 E (e.mono g) (fun ρ'' σ'' H'' g' e'' p'=>n ρ'' σ'' H'' (g.trans g') e'' p') (fun d v H'' g' r' p'=>r d v H'' (g.trans g') r' p') (fun ρ'' σ'' H'' g' e'' p'=>b ρ'' σ'' H'' (g.trans g') e'' p') (fun ρ'' σ'' H'' g' e'' p'=>c ρ'' σ'' H'' (g.trans g') e'' p')
 | false =>
  rw [if_neg amh] at p ⊢
  exact p σ H1 E (e.mono g) (fun ρ'' σ'' H'' g' e'' p'=>n ρ'' σ'' H'' (g.trans g') e'' p') (fun d v H'' g' r' p'=>r d v H'' (g.trans g') r' p') (fun ρ'' σ'' H'' g' e'' p'=>b ρ'' σ'' H'' (g.trans g') e'' p') (fun ρ'' σ'' H'' g' e'' p'=>c ρ'' σ'' H'' (g.trans g') e'' p')
def PGd (K:amk) (f:Fx) (g:TG) (d:PyData) (ρ:zp) (R:zp->Prop):Prop:=∀ (σ:St) (H:Hp) (v:V) (Q:St->Hp->Prop),EnvOk K f ρ σ H->Rep K (hide H f) d v->(∀ ρ' σ' H',Goes f H H'->EnvOk K f ρ' σ' H'->R ρ'->Q σ' H')->g v σ H Q
def ag1 (K:amk) (f:Fx) (g:TGs) (ds:List PyData) (ρ:zp) (R:zp->Prop):Prop:=∀ (σ:St) (H:Hp) (vs:List V) (Q:St->Hp->Prop),EnvOk K f ρ σ H->Reps K (hide H f) ds vs->(∀ ρ' σ' H',Goes f H H'->EnvOk K f ρ' σ' H'->R ρ'->Q σ' H')->g vs σ H Q
theorem zj {i:Nat} {d:PyData} {R:zp->Prop} (h:R (ρ.set i (some (.dat d)))):PGd K f (jc i) d ρ R:=fun σ H v Q e r q=>q _ _ H (.refl e.fd) (e.set i (x:=.dat d) r) h
theorem yh {R:zp->Prop} (h:R ρ):ag1 K f akm [] ρ R:=fun σ H vs Q e r q=>⟨reps_nil.mp r,q ρ σ H (.refl e.fd) e h⟩
theorem zv {g:TG} {gs:TGs} {d:PyData} {ds:List PyData} {R:zp->Prop} (h:PGd K f g d ρ fun ρ'=>ag1 K f gs ds ρ' R):ag1 K f (aeu g gs) (d :: ds) ρ R:=fun σ H vs Q e r q=>by
 obtain⟨x,r',rfl,h2,h3⟩:=reps_cons.mp r
 exact⟨x,r',rfl,h σ H x _ e h2 fun ρ' σ' H' g' e' p=>p σ' H' r' Q e' (Reps.mono g'.1 ds r' h3) fun ρ'' σ'' H'' g'' e'' p'=>q ρ'' σ'' H'' (g'.trans g'') e'' p'⟩
theorem yW {n:Nat} {gs:TGs} {ds:List PyData} {R:zp->Prop} (hn:ds.length=n) (h:ag1 K f gs ds ρ R):PGd K f (ais K n gs) (.tuple ds) ρ R:=fun σ H v Q e r q=>by
 obtain⟨a,xs,rfl,h1,h2⟩:=rep_tuple.mp r
 exact⟨a,xs,rfl,(zf _ _).seqT h1,by rw [h2.length];exact hn,h σ H xs Q e h2 q⟩
theorem zS {g:TG} (h:PEd K f te ρ fun d=>PGd K f g d ρ D.nx):PSd K f (qA te g) ρ D:=fun σ H E e n r b c =>
 h σ H _ e fun d v H1 g1 r1 p1=>p1 σ H1 v _ (e.mono g1) r1 fun ρ' σ' H' g' e' p'=>n ρ' σ' H' (g1.trans g') e' p'
end
section
variable {K:amk} {f:Fx} {ρ:zp} {D:DEnds} {te ta tb:TE} {tt:TT} {ts tu:TS} {g:TG}
theorem adT {t:TA} (h:PAd K f t ρ fun xs=>∃ ds,xs=[.dat (.list ds)]/\∃ J:Nat->zp->Prop,J 0 ρ /\
   (∀ (i:Nat) d ρ',ds[i]?=some d->J i ρ'->PGd K f g (.tuple [.int i,d]) ρ' fun ρ2=>PSd K f ts ρ2 { D with nx:=J (i+1),ct:=J (i+1),bk:=D.nx })/\∀ ρ',J ds.length ρ'->D.nx ρ') :
  PSd K f (aiu (agR K t) g ts) ρ D:=fun σ H E e n r b c=>h σ H _ e fun xs vs H1 g1 r1 ⟨ds,ex,J,j0,js,jd⟩=>by
 subst ex
 cases r1 with
 | cons rx r' =>
  cases r'
  obtain⟨a,xs,rfl,h1,h2⟩:=rep_list.mp rx
  have hl:=h2.length
  refine⟨a,rfl,⟨xs,(zf _ _).seq h1⟩,agS (K:=K) (a:=a) (xs:=xs) (fun i σ' H'=>∃ ρ',EnvOk K f ρ' σ' H'/\Goes f H H'/\Goes f H1 H'/\J i ρ') ⟨ρ,e.mono g1,g1,.refl g1.2,j0⟩ (fun i σ' H' _ ⟨ρ',e',g',g1',p⟩=>(zf _ _).seq (g1'.1.seq h1)) (fun i y σ' H' tp hy ⟨ρ',e',g',g1',p⟩ hn=>?_) fun σ' H' ⟨ρ',e',g',_,p⟩=>n ρ' σ' H' g' e' (jd ρ' (by rw [<-hl];exact p))⟩
  have hi:i<ds.length:=by rw [<-hl];exact (ami.mp hy).1
  obtain⟨z,hz,rz⟩:=h2.get (amf hi)
  rw [hy] at hz
  cases hz
  have gn:Goes f H' (upd H' tp (.tup [.int i,y])):=.of_same (ya hn _) e'.fd
  have rt:Rep K (hide (upd H' tp (.tup [.int i,y])) f) (.tuple [.int i,ds[i]]) (.ref tp):=rep_tuple.mpr ⟨tp,_,rfl,.of (zG (fresh_ne e'.fd hn) zA),.cons' (rep_int.mpr rfl) (.cons' (Rep.mono gn.1 _ _ (Rep.mono g1'.1 _ _ rz)) .nil')⟩
  refine js i _ ρ' (amf hi) p σ' _ _ _ (e'.mono gn) rt fun ρ2 σ2 H2 g2' e2 p2=>?_
  have g2:=gn.trans g2'
  exact p2 σ2 H2 _ e2 (fun ρ3 σ3 H3 g3 e3 p3=>⟨ρ3,e3,g'.trans (g2.trans g3),g1'.trans (g2.trans g3),p3⟩) (fun d v H3 g3 r3 p3=>r d v H3 (g'.trans (g2.trans g3)) r3 p3) (fun ρ3 σ3 H3 g3 e3 p3=>n ρ3 σ3 H3 (g'.trans (g2.trans g3)) e3 p3) (fun ρ3 σ3 H3 g3 e3 p3=>⟨ρ3,e3,g'.trans (g2.trans g3),g1'.trans (g2.trans g3),p3⟩)
end
def frD (fr:List Nat) (ρ:zp):zp:=fr.map fun j=>(ρ[j]?).getD none
def qL (own:Nat) (fr:List Nat) (ρ:zp):zp:=aol own none++frD fr ρ
abbrev Fx.with (f:Fx) (D:Addr):Fx:=⟨f.f,D :: f.M⟩
section
variable {K:amk} {f:Fx} {ρ:zp} {σ:St} {H H':Hp} {D:Addr} {o:HO}
theorem afV {own:Nat} {fr:List Nat} (e:EnvOk K f ρ σ H):EnvOk K f (qL own fr ρ) (yT own fr σ) H:=by
 refine⟨by unfold qL yT frD;simp,fun i x h=>?_,e.fd⟩
 unfold qL frD at h
 unfold yT
 by_cases hi:i<own
 ·rw [amr (by simpa using hi),anV] at h
  split at h <;> cases h
 ·rw [amx (by simpa using hi)] at h ⊢
  simp only [aoQ,aml] at h ⊢
  cases hj:fr[i - own]? with
  | none=>rw [hj] at h;cases h
  | some j =>
   rw [hj] at h
   have h':(ρ[j]?).getD none=some x:=Option.some.inj h
   have hρ:ρ[j]?=some (some x):=by
    cases q:ρ[j]? with
    | none=>rw [q] at h';cases h'
    | some w=>rw [q] at h';exact congrArg some h'
   obtain⟨v,h1,h2⟩:=e.get j x hρ
   exact⟨v,by simp [h1],h2⟩
theorem yt:hide (upd H D o) (f.with D)=hide H (f.with D):=by
 funext b
 unfold hide
 by_cases hb:f.f=some b \/ b∈D :: f.M
 ·rw [if_pos hb,if_pos hb]
 ·rw [if_neg hb,if_neg hb]
  have:b≠D:=fun z=>hb (.inr (z▸amm))
  exact zy this
theorem qm:Same (hide H (f.with D)) (hide H f):=fun b o h=>by
 obtain⟨h1,h2⟩:=zL h
 exact zG (fun z=>h1 (z.elim .inl fun z=>.inr (amo _ z))) h2
theorem qo (hn:H D=none):Same (hide H f) (hide (upd H D o) (f.with D)):=fun b u h=>by
 obtain⟨h1,h2⟩:=zL h
 have hb:b≠D:=zI h2 hn
 exact zG (fun z=>z.elim (fun z=>h1 (.inl z)) fun z=>(amu.mp z).elim hb fun z=>h1 (.inr z)) (by rw [zy hb];exact h2)
theorem akH (h:FOk f H) (hn:H D=none):FOk (f.with D) (upd H D o) :=
 ⟨fun p e=>let⟨a,b,h1,h2⟩:=h.fd p e;⟨a,b,by rw [zy (zI h1 hn)];exact h1,h2⟩,fun b hb=>by
  rcases amu.mp hb with rfl | hb
  ·exact⟨_,zA⟩
  ·obtain⟨o',h1⟩:=h.mm b hb
   exact⟨o',by rw [zy (zI h1 hn)];exact h1⟩,fun p e hp=>by
  rcases amu.mp hp with rfl | hp
  ·exact fresh_ne h hn (.inl e)
  ·exact h.nm p e hp⟩
theorem akI (e:EnvOk K f ρ σ H) (hn:H D=none):EnvOk K (f.with D) ρ σ (upd H D o) :=
 ⟨e.len,fun i x h=>let⟨v,h1,h2⟩:=e.get i x h;⟨v,h1,by
  cases x with
  | dat d=>exact Rep.mono (qo hn) d v h2
  | feed=>exact h2
  | own k =>
   obtain⟨p,h3,h4⟩:=h2
   refine⟨p,?_,h4⟩
   show (D :: f.M).reverse[k]?=some p
   rw [ans,amr (ami.mp h3).1]
   exact h3
  | exc C =>
   obtain⟨a,h3,h4⟩:=h2
   exact⟨a,h3,qo hn _ _ h4⟩
  | mon φ=>exact fun H' s=>h2 H' ((qo hn).trans s)⟩,akH e.fd hn⟩
theorem aiH (hD:f.f≠some D) (e:EnvOk K (f.with D) ρ σ H):EnvOk K (f.with D) ρ σ (upd H D o) :=
 ⟨e.len,fun i x h=>let⟨v,h1,h2⟩:=e.get i x h;⟨v,h1,by
  cases x with
  | dat d =>
   have h2':Rep K (hide H (f.with D)) d v:=h2
   show Rep K (hide (upd H D o) (f.with D)) d v
   rw [yt];exact h2'
  | feed=>exact h2
  | own k=>exact h2
  | exc C =>
   obtain⟨a,h3,h4⟩:=h2
   refine⟨a,h3,?_⟩
   rw [yt]
   exact h4
  | mon φ =>
   intro H' s
   rw [yt] at s
   exact h2 H' s⟩,⟨fun p ep=>let⟨a,b,h1,h2⟩:=e.fd.fd p ep;⟨a,b,by rw [zy (fun z=>hD (by rw [<-z];exact ep))];exact h1,h2⟩,fun b hb=>by
   by_cases hb':b=D
   ·subst hb';exact⟨_,zA⟩
   ·rw [zy hb'];exact e.fd.mm b hb,e.fd.nm⟩⟩
end
section
variable {K:amk} {f:Fx} {ρ:zp} {P:PyData->Prop} {te tl:TE} {tt:TT} {g:TG} {own:Nat} {fr:List Nat}
structure CSt (K:amk) (f:Fx) (D:Addr) (H2:Hp) (ρ':zp) (es:List PyData) (σ:St) (H:Hp):Prop where
 env:EnvOk K (f.with D) ρ' σ H
 sm:Same (hide H2 (f.with D)) (hide H (f.with D))
 kp:∀ b∈f.M,H b=H2 b
 lst:∃ vs,H D=some (.lst vs)/\Reps K (hide H (f.with D)) es vs
theorem CSt.go {D:Addr} {H2 H H':Hp} {ρ':zp} {es:List PyData} {σ:St} (c:CSt K f D H2 ρ' es σ H) (gg:Goes (f.with D) H H') {ρ2:zp} {σ2:St} (e2:EnvOk K (f.with D) ρ2 σ2 H'):CSt K f D H2 ρ2 es σ2 H' :=
 ⟨e2,c.sm.trans gg.sm,fun b hb=>(gg.kp b (amo _ hb)).trans (c.kp b hb),let⟨vs,h1,h2⟩:=c.lst;⟨vs,(gg.kp D amm).trans h1,Reps.mono gg.sm es vs h2⟩⟩
theorem CSt.put {D:Addr} {H2 H:Hp} {ρ':zp} {es:List PyData} {σ:St} {d:PyData} {v:V} {vs:List V} (hD:f.f≠some D) (hM:D∉f.M) (c:CSt K f D H2 ρ' es σ H) (h1:H D=some (.lst vs)) (h2:Reps K (hide H (f.with D)) es vs) (r:Rep K (hide H (f.with D)) d v) :
  CSt K f D H2 ρ' (es++[d]) σ (upd H D (.lst (vs++[v]))) :=
 ⟨aiH hD c.env,by rw [yt];exact c.sm,fun b hb=>(zy (fun (z:b=D)=>hM (z▸hb))).trans (c.kp b hb),⟨_,zA,by rw [yt];exact h2.snoc r⟩⟩
theorem aa7 {D:Addr} {H2 H:Hp} {ρ':zp} {es:List PyData} {σ:St} {d:PyData} {v:V} {W:St->Hp->Prop} {R:zp->List PyData->Prop} (hD:f.f≠some D) (hM:D∉f.M) (c:CSt K f D H2 ρ' es σ H) (hl:es.length<1000) (r:Rep K (hide H (f.with D)) d v)
  (h:PGd K (f.with D) g d ρ' fun ρ2=>PTd K (f.with D) tt ρ2 fun b=>if b=true then PEd K (f.with D) te ρ2 fun e=>R ρ2 (es++[e]) else R ρ2 es)
  (hW:∀ ρ2 es2 σ2 H',CSt K f D H2 ρ2 es2 σ2 H'->R ρ2 es2->W σ2 H') :
  g v σ H fun σ2 H3=>tt σ2 H3 fun b H4=>if b=true then jV D te σ2 H4 W else W σ2 H4:=by
 refine h σ H v _ c.env r fun ρ2 σ2 H3 g3 e3 p3=>?_
 have c3:=c.go g3 e3
 refine p3 σ2 H3 _ e3 fun b H4 g4 p4=>?_
 have c4:=c3.go g4 (e3.mono g4)
 cases b with
 | false =>
  rw [if_neg amh] at p4 ⊢
  exact hW _ _ _ _ c4 p4
 | true =>
  rw [if_pos rfl] at p4 ⊢
  refine p4 σ2 H4 _ (e3.mono g4) fun e u H5 g5 r5 p5=>?_
  have c5:=c4.go g5 ((e3.mono g4).mono g5)
  obtain⟨vs,h1,h2⟩:=c5.lst
  exact⟨vs,h1,yg (by rw [h2.length];omega),hW _ _ _ _ (c5.put hD hM h1 h2 r5) p5⟩
theorem aap {D:Addr} {H1 H:Hp} {ρ':zp} {es:List PyData} {σ σ':St} (hn:H1 D=none) (fo:FOk f H1) (c:CSt K f D (upd H1 D (.lst [])) ρ' es σ H):Goes f H1 H/\Rep K (hide H f) (.list es) (.ref D):=by
 obtain⟨vs,h1,h2⟩:=c.lst
 have nD:=fresh_ne fo hn
 refine⟨⟨((qo hn).trans c.sm).trans qm,⟨c.env.fd.fd,fun b hb=>c.env.fd.mm b (amo _ hb),fun p e hp=>c.env.fd.nm p e (amo _ hp)⟩,fun b hb=>?_⟩,rep_list.mpr ⟨D,vs,rfl,.of (zG nD h1),Reps.mono qm es vs h2⟩⟩
 rw [c.kp b hb,zy]
 obtain⟨o,h3⟩:=fo.mm b hb
 exact zI h3 hn
theorem qM {D:Addr} {H1:Hp} {σ:St} (hn:H1 D=none) (e:EnvOk K f ρ σ H1):CSt K f D (upd H1 D (.lst [])) (qL own fr ρ) [] (yT own fr σ) (upd H1 D (.lst [])) :=
 ⟨akI (afV e) hn,Same.refl _,fun _ _=>rfl,⟨[],zA,.nil'⟩⟩
theorem aiI {t:TA} (h:PAd K f t ρ fun xs=>∃ j:Int,xs=[.dat (.int j)]/\j<=1000/\-1000<=j/\∃ R:Nat->zp->List PyData->Prop,R 0 (qL own fr ρ) [] /\
   (∀ D (i:Nat) ρ' es,(i:Int)<j->R i ρ' es->PGd K (f.with D) g (.int i) ρ' fun ρ2=>PTd K (f.with D) tt ρ2 fun b=>if b=true then PEd K (f.with D) te ρ2 fun e=>R (i+1) ρ2 (es++[e]) else R (i+1) ρ2 es) /\
   (∀ i ρ' es,R i ρ' es->es.length<=i)/\∀ ρ' es,R j.toNat ρ' es->P (.list es)) :
  PEd K f (ju (aew t) own fr g tt fun D=>jV D te) ρ P:=fun σ H Q e q=>h σ H _ e fun xs vs H1 g1 r1 ⟨j,ex,b1,b2,R,r0,rs,rl,re⟩=>by
 subst ex
 cases r1 with
 | @cons _ v0 _ _ rx r' =>
  cases r'
  have rx':Rep K (hide H1 f) (.int j) v0:=rx
  refine⟨j,by rw [rep_int.mp rx'],by omega,by omega,fun D hn=>?_⟩
  have nD:=fresh_ne g1.2 hn
  have hD:f.f≠some D:=fun z=>nD (.inl z)
  have hM:D∉f.M:=fun z=>nD (.inr z)
  have e1:=e.mono g1
  refine⟨fun i m σ' H'=>∃ ρ' es,CSt K f D (upd H1 D (.lst [])) ρ' es σ' H'/\R i ρ' es/\i<=j.toNat/\m+i=j.toNat,⟨j.toNat,_,[],qM hn e1,r0,amT _,rfl⟩,fun i m σ' H' ⟨ρ',es,c,p,hi,hm⟩=>?_⟩
  by_cases hlt:i<j.toNat
  ·refine .inr ⟨hlt,fun x H3 hy=>?_⟩
   obtain⟨rfl,rfl⟩:=hy
   have hz:(0:Int)+(i:Int)=(i:Int):=Int.zero_add _
   rw [hz]
   refine aa7 (R:=R (i+1)) hD hM c (by have:=rl i ρ' es p;omega) ((rep_int (K:=K)).mpr rfl) (rs D i ρ' es (by omega) p) fun ρ2 es2 σ2 H4 c2 p2=>?_
   exact⟨m - 1,by omega,ρ2,es2,c2,p2,by omega,by omega⟩
  ·have ei:i=j.toNat:=by omega
   subst ei
   obtain⟨ge,rep⟩:=aap (σ':=σ') hn g1.2 c
   exact .inl ⟨amn _,q _ _ H' (g1.trans ge) rep (re ρ' es p)⟩
theorem akJ (h:PEd K f tl ρ fun x=>∃ ds,x=.list ds/\ds.length<=1000/\∃ R:Nat->zp->List PyData->Prop,R 0 (qL own fr ρ) [] /\
   (∀ D (i:Nat) d ρ' es,ds[i]?=some d->R i ρ' es->PGd K (f.with D) g d ρ' fun ρ2=>PTd K (f.with D) tt ρ2 fun b=>if b=true then PEd K (f.with D) te ρ2 fun e=>R (i+1) ρ2 (es++[e]) else R (i+1) ρ2 es) /\
   (∀ i ρ' es,R i ρ' es->es.length<=i)/\∀ ρ' es,R ds.length ρ' es->P (.list es)) :
  PEd K f (ju (acs K tl) own fr g tt fun D=>jV D te) ρ P:=fun σ H Q e q=>h σ H _ e fun x v H1 g1 r1 ⟨ds,ex,hz,R,r0,rs,rl,re⟩=>by
 subst ex
 obtain⟨a,xs,rfl,s1,s2⟩:=rep_list.mp r1
 have hl:=s2.length
 refine⟨a,rfl,⟨xs,(zf _ _).seq s1⟩,fun D hn=>?_⟩
 have nD:=fresh_ne g1.2 hn
 have hD:f.f≠some D:=fun z=>nD (.inl z)
 have hM:D∉f.M:=fun z=>nD (.inr z)
 have e1:=e.mono g1
 have keep:∀ {ρ':zp} {es:List PyData} {σ':St} {H':Hp},CSt K f D (upd H1 D (.lst [])) ρ' es σ' H'->Same (hide H1 f) (hide H' (f.with D)):=fun c=>(qo hn).trans c.sm
 refine⟨fun i m σ' H'=>∃ ρ' es,CSt K f D (upd H1 D (.lst [])) ρ' es σ' H'/\R i ρ' es/\i<=ds.length/\m+i=ds.length,⟨ds.length,_,[],qM hn e1,r0,amT _,rfl⟩,fun i m σ' H' ⟨ρ',es,c,p,hi,hm⟩=>?_⟩
 have sq:SqL K H' a xs:=(zf _ _).seq ((keep c).seq s1)
 by_cases hlt:i<ds.length
 ·obtain⟨z,hzz,rz⟩:=s2.get (amf hlt)
  refine .inr ⟨⟨xs,z,sq,hzz⟩,fun x H3 hy=>?_⟩
  obtain⟨rfl,hy⟩:=hy
  have ez:=hy xs sq
  rw [hzz] at ez
  cases ez
  refine aa7 (R:=R (i+1)) hD hM c (by have:=rl i ρ' es p;omega) (Rep.mono (keep c) _ _ rz) (rs D i _ ρ' es (amf hlt) p) fun ρ2 es2 σ2 H4 c2 p2=>?_
  exact⟨m - 1,by omega,ρ2,es2,c2,p2,by omega,by omega⟩
 ·have ei:i=ds.length:=by omega
  subst ei
  obtain⟨ge,rep⟩:=aap (σ':=σ') hn g1.2 c
  exact .inl ⟨⟨xs,sq,by omega⟩,q _ _ H' (g1.trans ge) rep (re ρ' es p)⟩
theorem acE {t:TA} (h:PAd K f t ρ fun xs=>∃ j:Int,xs=[.dat (.int j)]/\j<=1000/\-1000<=j/\∃ R:Nat->PyData->Prop,
   (∀ D (i:Nat),(i:Int)<j->PEd K (f.with D) te (some (.dat (.int i)) :: frD fr ρ) (R i))/\∀ es:List PyData,es.length=j.toNat->(∀ (i:Nat) e,es[i]?=some e->R i e)->P (.list es)) :
  PEd K f (ju (aew t) 1 fr (jc 0) aiE fun D=>jV D te) ρ P :=
 aiI fun σ H Q e q=>h σ H Q e fun xs vs H' g' r' ⟨j,ex,b1,b2,R,rs,re⟩=>by
  refine q xs vs H' g' r' ⟨j,ex,b1,b2,fun i ρ' es=>(∃ x,ρ'=x :: frD fr ρ)/\es.length=i/\∀ (k:Nat) e,es[k]?=some e->R k e,⟨⟨none,rfl⟩,rfl,fun k e h=>by simp at h⟩,fun D i ρ' es hi p=>?_,fun i ρ' es p=>an0 p.2.1,fun ρ' es p=>re es p.2.1 p.2.2⟩
  obtain⟨⟨x,rfl⟩,hl,hp⟩:=p
  refine zj ?_
  intro σ H Q e q
  refine q true H (.refl e.fd) ?_
  dsimp only
  rw [if_pos rfl]
  refine (rs D i hi).imp fun d hd=>⟨⟨_,rfl⟩,by rw [amD,hl];rfl,fun k e hk=>?_⟩
  by_cases hkl:k<es.length
  ·rw [amr hkl] at hk;exact hp k e hk
  ·rw [amx (by omega)] at hk
   have hk0:k - es.length=0:=by
    have:=(ami.mp hk).1
    simp at this;omega
   rw [hk0] at hk
   cases hk
   have:k=i:=by omega
   subst this
   exact hd
theorem aeL (h:PEd K f tl ρ fun x=>∃ ds,x=.list ds/\ds.length<=1000/\∃ R:Nat->PyData->Prop,
   (∀ D (i:Nat) d,ds[i]?=some d->PEd K (f.with D) te (some (.dat d) :: frD fr ρ) (R i))/\∀ es:List PyData,es.length=ds.length->(∀ (i:Nat) e,es[i]?=some e->R i e)->P (.list es)) :
  PEd K f (ju (acs K tl) 1 fr (jc 0) aiE fun D=>jV D te) ρ P :=
 akJ (h.imp fun x ⟨ds,ex,hz,R,rs,re⟩=>by
  refine⟨ds,ex,hz,fun i ρ' es=>(∃ x,ρ'=x :: frD fr ρ)/\es.length=i/\∀ (k:Nat) e,es[k]?=some e->R k e,⟨⟨none,rfl⟩,rfl,fun k e h=>by simp at h⟩,fun D i d ρ' es hi p=>?_,fun i ρ' es p=>an0 p.2.1,fun ρ' es p=>re es p.2.1 p.2.2⟩
  obtain⟨⟨x,rfl⟩,hl,hp⟩:=p
  refine zj ?_
  intro σ H Q e q
  refine q true H (.refl e.fd) ?_
  dsimp only
  rw [if_pos rfl]
  refine (rs D i d hi).imp fun d hd=>⟨⟨_,rfl⟩,by rw [amD,hl];rfl,fun k e hk=>?_⟩
  by_cases hkl:k<es.length
  ·rw [amr hkl] at hk;exact hp k e hk
  ·rw [amx (by omega)] at hk
   have hk0:k - es.length=0:=by
    have:=(ami.mp hk).1
    simp at this;omega
   rw [hk0] at hk
   cases hk
   have:k=i:=by omega
   subst this
   exact hd)
end
section
variable {K:amk} {f:Fx} {ρ:zp} {D:DEnds} {te:TE} {i:Nat}
theorem acF {σ:St} {H:Hp} {p:Addr} {a b:Int} (e:EnvOk K f ρ σ H) (ef:f.f=some p) (h0:0<=a) (h1:0<=b) (h2:b<2147483647):Goes f H (upd H p (.lst [.int a,.int b])) :=
 have hM:=e.fd.nm p ef
 ⟨fun x o h=>by
  obtain⟨n,hx⟩:=zL h
  exact zG n (by rw [zy (fun z=>n (.inl (by rw [z];exact ef)))];exact hx),
 ⟨fun q eq=>by
   rw [ef] at eq;cases eq
   exact⟨a,b,zA,h0,h1,h2⟩,fun x hx=>by
   by_cases hxp:x=p
   ·subst hxp;exact absurd hx hM
   ·rw [zy hxp];exact e.fd.mm x hx,e.fd.nm⟩,
fun x hx=>zy (fun z=>hM (z▸hx))⟩
theorem aeM (hi:ρ[i]?=some (some .feed)) (h:PEd K f te ρ fun d=>∃ a:Int,d=.int a/\0<=a/\D.nx ρ):PSd K f (qA te (acr (yH i) (tC (.int 0)) aal)) ρ D:=fun σ H E e n r b c=>h σ H _ e fun d v H1 g1 r1 ⟨a,ed,h0,p⟩=>by
 subst ed
 obtain⟨u,h1,q,ef,eu⟩:=e.get i _ hi
 obtain⟨a',b',hf,c1,c2,c3⟩:=g1.2.fd q ef
 refine⟨u,h1,q,_,0,0,eu,rfl,hf,rfl,?_⟩
 rw [rep_int.mp r1]
 have g2:Goes f H1 (upd H1 q (.lst [.int a,.int b'])):=acF (e.mono g1) ef h0 c2 c3
 exact n ρ σ _ (g1.trans g2) ((e.mono g1).mono g2) p
theorem aeN (hi:ρ[i]?=some (some .feed)) (h:PEd K f te ρ fun d=>∃ a:Int,d=.int a/\0<=a/\a<2147483647/\D.nx ρ):PSd K f (qA te (acr (yH i) (tC (.int 1)) aal)) ρ D:=fun σ H E e n r b c=>h σ H _ e fun d v H1 g1 r1 ⟨a,ed,h0,h0',p⟩=>by
 subst ed
 obtain⟨u,h1,q,ef,eu⟩:=e.get i _ hi
 obtain⟨a',b',hf,c1,c2,c3⟩:=g1.2.fd q ef
 refine⟨u,h1,q,_,1,1,eu,rfl,hf,rfl,?_⟩
 rw [rep_int.mp r1]
 have g2:Goes f H1 (upd H1 q (.lst [.int a',.int a])):=acF (e.mono g1) ef c1 h0 h0'
 exact n ρ σ _ (g1.trans g2) ((e.mono g1).mono g2) p
end
theorem qX {X:Cx} {x:Str} {i:Int} {t:Tok} {pos:Pos} (hg:Gl X x) (hm:X.mg x=some (.int i t)) (hd:(x == ("__debug__":Str))=false:=by decide):PE X (.Name x pos) (tC (.int i)):=aip hg hm ⟨t,rfl⟩ hd
def j7 (N:List Str) (xs:List DV):zp:=xs.map some++aol (N.length - xs.length) none
theorem qq {K:amk} {f:Fx} {H:Hp} {N:List Str} {xs:List DV} {vs:List V} (r:RepVs K f H xs vs) (fo:FOk f H):EnvOk K f (j7 N xs) (start N vs) H:=by
 have hl:=r.length
 refine⟨by unfold j7 start;simp [hl],fun i x h=>?_,fo⟩
 unfold j7 at h
 unfold start
 have get:∀ {xs:List DV} {vs:List V} {i:Nat} {x:DV},RepVs K f H xs vs->xs[i]?=some x->∃ v,vs[i]?=some v/\RepV K f H x v:=by
  intro xs vs i x r
  induction r generalizing i with
  | nil=>intro h;simp at h
  | cons r1 r2 ih =>
   intro h
   cases i with
   | zero=>simp at h;subst h;exact⟨_,rfl,r1⟩
   | succ i=>simp at h;obtain⟨v,h1,h2⟩:=ih h;exact⟨v,by simpa using h1,h2⟩
 by_cases hi:i<xs.length
 ·rw [amr (by simpa using hi),aml] at h
  cases q:xs[i]? with
  | none=>rw [q] at h;cases h
  | some y =>
   rw [q] at h
   cases h
   obtain⟨v,h1,h2⟩:=get r q
   exact⟨v,by rw [amr (by simp;omega),aml,h1];rfl,h2⟩
 ·rw [amx (by simpa using hi),anV] at h
  split at h <;> cases h
structure Def (K:amk) (mg:Str->Option Value) (x:Str) (st:Stmt) (ps:List Str):Prop where
 ex:∃ (f:Addr) (fd:FuncData),Fun K x x st f fd/\Binds K fd ps []/\mg x=some (.ref f)
structure FnIn (P:Program) (w:World) (K:amk) (mg:Str->Option Value) (base:Heap) (k:Nat) (x:Str) (ps:List Str) (sp:Sp):Prop where
 ex:∃ (f:Addr) (fd:FuncData),FnOk P w K mg base CX0 k f fd ps sp/\mg x=some (.ref f)/\am7 K (.ref f)=true/\Binds K fd ps []
section
variable {P:Program} {w:World} {K:amk} {mg:Str->Option Value} {base:Heap} {j k n:Nat} {x:Str} {st:Stmt} {ps N:List Str} {γ:Type} {pre:γ->List DV->Prop} {post:γ->PyData->Prop} {sp:Sp}
theorem FnIn.mono (h:FnIn P w K mg base j x ps sp) (hk:j<=k):FnIn P w K mg base k x ps sp :=
 let⟨f,fd,a,b,c,d⟩:=h.ex;⟨f,fd,a.mono hk,b,c,d⟩
theorem Def.ok (F:Def K mg x st ps) (S:FnScope N ps (zi st)) (hn:ps.length=n)
  (h:∀ (fa:Addr) (cdv:Value) (A:Around) (outer:List Env) (s:Shared) (H:Hp) (E:XK),Room k (A.deeper (envOfC x (zi st) s.heap.objs.size fa cdv)) ->
   ∃ t,PSs (z9 CX0 P w K mg base N x (zi st) fa cdv A outer s H E).nox (yA st) t/\∀ (f:Fx) (xs:List DV) (c:γ),xs.length=n->pre c xs->PSd K f t (j7 N xs) { nx:=fun _=>post c .none,rt:=post c }) :
  FnIn P w K mg base (k+1) x ps (spD K n pre post):=by
 obtain⟨fa,fd,F1,F2,F3⟩:=F.ex
 refine⟨fa,fd,F1.ok S (fun vs H Q E h=>?_) (fun cdv A outer s H vs Q E hr hs=>?_),F3,F1.kp,F2⟩
 ·obtain⟨f,xs,c,r,hl,_⟩:=h
  rw [r.length,hl,hn]
 ·obtain⟨f,xs,c,r,hl,fo,hp,q⟩:=hs
  obtain⟨t,h1,h2⟩:=h fa cdv A outer s H E hr
  exact⟨t,h1,h2 f xs c hl hp (start N vs) H _ (qq r fo) (fun _ _ H' g _ p=>q .none _ H' g (rep_none.mpr rfl) p) (fun d v H' g r p=>q d v H' g r p) (fun _ _ _ _ _ z=>z.elim) (fun _ _ _ _ _ z=>z.elim)⟩
theorem Def.raw (F:Def K mg x st ps) (S:FnScope N ps (zi st)) (len:∀ vs H Q E,sp vs H Q E->vs.length=ps.length)
  (h:∀ (fa:Addr) (cdv:Value) (A:Around) (outer:List Env) (s:Shared) (H:Hp) (vs:List V) (Q:VK) (E:XK),Room k (A.deeper (envOfC x (zi st) s.heap.objs.size fa cdv))->sp vs H Q E ->
   ∃ t,PSs (z9 CX0 P w K mg base N x (zi st) fa cdv A outer s H E).nox (yA st) t/\t { nx:=fun _ H'=>Q .non H',rt:=Q } (start N vs) H) :
  FnIn P w K mg base (k+1) x ps sp:=by
 obtain⟨fa,fd,F1,F2,F3⟩:=F.ex
 exact⟨fa,fd,F1.ok S len (fun cdv A outer s H vs Q E hr hs=>h fa cdv A outer s H vs Q E hr hs),F3,F1.kp,F2⟩
theorem ze {X:Cx} {e:Expr} {es:List Expr} {t:TA} {p pos:Pos} (G:FnIn X.prog X.w X.K X.mg X.base k x ps sp) (hr:Room k X.A) (hg:Gl X x) (ha:PA X (e :: es) t) (hdb:(x == ("__debug__":Str))=false:=by decide)
  (he:starEach (e :: es) X.env=(false,eval e X.env) :: starEach es X.env:=by rfl) (hpl:(backTo pos (starEach es X.env)).any (·.1)=false:=by rfl):PE X (.Call (.Name x p) (e :: es) [] pos) (acu sp [] E0 t):=by
 obtain⟨f,fd,a,b,c,d⟩:=G.ex
 exact aiA a hr hg b c d .nil alD ha hdb he hpl
end
section
variable {K:amk} {f:Fx} {ρ:zp} {σ:St} {H:Hp} {E:Ends} {ts tu:TS} {D:DEnds}
theorem ag2 (h:PSd K f ts ρ D) (e:EnvOk K f ρ σ H) (hn:∀ ρ' σ' H',Goes f H H'->EnvOk K f ρ' σ' H'->D.nx ρ'->tu E σ' H') (hr:∀ d v H',Goes f H H'->Rep K (hide H' f) d v->D.rt d->E.rt v H') (hb:∀ ρ,¬ D.bk ρ) (hc:∀ ρ,¬ D.ct ρ):aae ts tu E σ H :=
 h σ H { E with nx:=tu E } e hn hr (fun ρ' _ _ _ _ p=>(hb ρ' p).elim) (fun ρ' _ _ _ _ p=>(hc ρ' p).elim)
theorem ag3 {ta:TA} {Q:VK} {R:List PyData->Prop} (h:PAd K f ta ρ fun xs=>∃ ds,jE xs=some ds/\ds.length<=1000/\R ds) (e:EnvOk K f ρ σ H)
  (q:∀ p ds vs H1,Goes f H H1->H1 p=none->Reps K (hide H1 f) ds vs->R ds->Q (.ref p) (upd H1 p (.lst vs))):agL ta σ H Q :=
 h σ H _ e fun xs vs H1 g1 r1 ⟨ds,ea,hl,p⟩=>by
  have rs:=ql r1 ea
  exact⟨by rw [rs.length];exact anb (yg hl),fun l hn=>q l ds vs H1 g1 hn rs p⟩
end
section
variable {X:Cx} {e st:Expr} {te ts:TE} {pos p2:Pos}
def akK (K:amk) (te ts:TE):TE:=fun σ H Q=>te σ H fun x H1=>ts σ H1 fun y H2=>∃ a xs,x=.ref a/\y=.int (-1)/\SqL K H2 a xs/\∀ p,H2 p=none->Q (.ref p) (upd H2 p (.lst xs.reverse))
theorem akL (he:PE X e te) (hst:PE X st ts):PE X (.Subscript e (.Slice none none (some st) p2) pos) (akK X.K te ts):=by
 intro pins s σ H Q I h
 refine Subscript_ (thn (he pins s σ H _ I h) fun v s1 ⟨x,H1,I1,r1,q1⟩=>?_)
 refine wpAny_Slice ?_
 rw [evalPart_none]
 refine wpAny_pure (wpAny_pure ?_)
 rw [evalPart_some]
 refine thn (hst pins s1 σ H1 _ I1 q1) fun vs s3 ⟨y,H3,I3,r3,a,xs,ex,ey,hq,q⟩=>?_
 subst ex ey
 cases r1
 obtain⟨t,rfl⟩:=r3
 have I4:Inv X pins σ H3 { s3 with heap:=s3.heap.push { cls:=.type "slice",data:=.fields #[.none,.none,.int (-1) t] } }:=I3.kept (t':=s3.toks) fun b ob q=>amq _ q
 show wpAny (model X.prog X.w) X.A (subscriptTail e (.Slice none none (some st) p2) (.ref a) (.ref s3.heap.objs.size)) (EP X pins σ Q) X.xe { s3 with heap:=s3.heap.push { cls:=.type "slice",data:=.fields #[.none,.none,.int (-1) t] } }
 obtain⟨its,r,ht,hz⟩:=I4.list hq
 have hlen:=r.length
 refine tail_any (ops:=[.ref a,.ref s3.heap.objs.size]) ht.isList.typeIs slot_list_getitem.lookup (wpAny_getItem_list_slice ht.isList (Heap.IsSliceOf.new ..) .none .none (.int (-1) t) (by simp) ?_ (by rw [amv] <;> omega)) (by with_unfolding_all rfl)
 rw [PySem.W.krv_pick]
 refine⟨.ref _,_,I4.laid (t':=s3.toks) (o:=.lst xs.reverse) (fun b ob q=>amq _ q) (amn _) ?_,rfl,q _ (I4.hok.fresh (amn _))⟩
 exact⟨by rw [amZ];exact hz,its.reverse,0,Vals.reverse r,amH _ rfl⟩
end
section
variable {K:amk} {f:Fx} {ρ:zp}
theorem Goes.free {H H':Hp} {p:Addr} (g:Goes f H H') (fo:FOk f H) (h:H' p=none):H p=none:=by
 cases q:H p with
 | none=>rfl
 | some o =>
  by_cases hh:f.f=some p \/ p∈f.M
  ·rcases hh with hh | hh
   ·obtain⟨a,b,h1,_⟩:=g.ok.fd p hh
    rw [h] at h1;cases h1
   ·rw [g.kp p hh,q] at h;cases h
  ·have:=zL (g.sm p o (zG hh q))
   rw [h] at this;cases this.2
def PEdL (K:amk) (f:Fx) (te:TE) (ρ:zp) (P:List PyData->Prop):Prop:=∀ (σ:St) (H:Hp) (Q:VK),EnvOk K f ρ σ H ->
 (∀ es D vs H',Goes f H H'->H D=none->H' D=some (.lst vs)->Reps K (hide H' f) es vs->P es->Q (.ref D) H')->te σ H Q
theorem PEdL.ped {te:TE} {P:PyData->Prop} (h:PEdL K f te ρ fun es=>P (.list es)):PEd K f te ρ P:=fun σ H Q e q=>h σ H Q e fun es D vs H' g n h1 r p =>
 q (.list es) _ H' g (rep_list.mpr ⟨D,vs,rfl,.of (zG (fresh_ne e.fd n) h1),r⟩) p
theorem alF {te ts:TE} {P:List PyData->Prop} (h:PEd K f te ρ fun x=>∃ ds,x=.list ds/\PEd K f ts ρ fun y=>y=.int (-1)/\P ds.reverse):PEdL K f (akK K te ts) ρ P:=fun σ H Q e q =>
 h σ H _ e fun x v H1 g1 r1 ⟨ds,ex,p1⟩=>p1 σ H1 _ (e.mono g1) fun y u H2 g2 r2 ⟨ey,p2⟩=>by
  subst ex ey
  obtain⟨a,xs,rfl,h1,h2⟩:=rep_list.mp r1
  refine⟨a,xs,rfl,rep_int.mp r2,(zf _ _).seq (g2.1.seq h1),fun l hn=>?_⟩
  have g3:Goes f H2 (upd H2 l (.lst xs.reverse)):=.of_same (ya hn _) g2.2
  have rr:∀ {ds:List PyData} {xs:List V},Reps K (hide (upd H2 l (.lst xs.reverse)) f) ds xs->True:=fun _=>trivial
  have rev:∀ (H:Hp) (ds:List PyData) (xs:List V),Reps K H ds xs->Reps K H ds.reverse xs.reverse:=by
   intro H ds
   induction ds with
   | nil=>intro xs h;rw [reps_nil.mp h];exact .nil'
   | cons d ds ih =>
    intro xs h
    obtain⟨x,r,rfl,h2,h3⟩:=reps_cons.mp h
    rw [ans,ans]
    exact (ih r h3).snoc h2
  exact q ds.reverse l _ _ (g1.trans (g2.trans g3)) ((g1.trans g2).free e.fd hn) zA (Reps.mono g3.1 _ _ (rev _ _ _ (Reps.mono g2.1 _ _ h2))) p2
end
structure TabAt (H:Hp) (a:Addr) (as:List Addr) (rows:List (List Int)):Prop where
 top:H a=some (.lst (as.map .ref))
 nd:(a :: as).Nodup
 len:as.length=rows.length
 row:∀ (i:Nat) x r,as[i]?=some x->rows[i]?=some r->H x=some (.lst (r.map .int))
end L2
end
section
namespace L2
open PySem PySem.Spec PyProof.Rows
section
variable {X:Cx} {K:amk}
theorem zC (hK:X.K=K):IxR X (afM K):=hK▸aiB
theorem qr (hK:X.K=K):IxR X (akx K):=hK▸aky
theorem zQ (hK:X.K=K):yj X (.builtin "len") (fun xs H Q=>∃ p ys,xs=[.ref p]/\(SqL K H p ys \/ SqT K H p ys)/\Q (.int ys.length) H):=hK▸abB
theorem j8 (hK:X.K=K):yj X (.type "tuple") (fun xs H Q=>∃ p ys,xs=[.ref p]/\((SqL K H p ys/\∀ l,H l=none->Q (.ref l) (upd H l (.tup ys))) \/ (SqT K H p ys/\Q (.ref p) H))):=hK▸aaR
theorem vy (hK:X.K=K) (hc:X.calm=true):yj X (.builtin "min") (fun xs H Q=>∃ a ns,xs=[.ref a]/\SqL K H a (ns.map V.int)/\ns≠[]/\∀ M,M∈ns->(∀ b∈ns,M<=b)->Q (.int M) H):=hK▸afR hc
theorem vz (hK:X.K=K) (hc:X.calm=true):yj X (.builtin "max") (fun xs H Q=>∃ a ns,xs=[.ref a]/\SqL K H a (ns.map V.int)/\ns≠[]/\∀ M,M∈ns->(∀ b∈ns,b<=M)->Q (.int M) H):=hK▸afS hc
theorem vA (hK:X.K=K) (hu:X.A.units+64<cLine):OpR X (compareOp .Eq) (afQ K false):=hK▸akC hu
theorem vB (hK:X.K=K) (hu:X.A.units+64<cLine):OpR X (compareOp .NotEq) (afQ K true):=hK▸akD hu
variable {tg l e st:Expr} {tl te ts:TE} {ta:TA} {p pos p2:Pos}
theorem zT (hK:X.K=K) (hl:PE X l tl):PI X tg l (acs K tl):=hK▸ait hl
theorem abG (hK:X.K=K) (hl:PE X l tl):PI X tg l (ako K tl):=hK▸akp hl
theorem ag4 {es:List Expr} {k:Nat} {tpos:Pos} (hK:X.K=K) (hg:Gl X "enumerate") (hm:X.mg "enumerate"=none) (ha:PA X [l] ta) (hs:starEach [l] X.env=[(false,eval l X.env)]:=by rfl):PI X (.Tuple es k tpos) (.Call (.Name "enumerate" p) [l] [] pos) (agR K ta):=hK▸aiF hg hm ha hs
theorem yD (hK:X.K=K) (ha:PE X e te) (he:∀ whole,isTrue e X.env whole=(do let v <- whole;standAt e.pos;holding [v] (truthy v))):PT X e (akF K te):=hK▸akG ha he
theorem aiJ (hK:X.K=K) (he:PE X e te) (hst:PE X st ts):PE X (.Subscript e (.Slice none none (some st) p2) pos) (akK K te ts):=hK▸akL he hst
theorem zR {es:List Expr} {k:Nat} {t:TGs} {n:Nat} (hK:X.K=K) (hc:X.calm=true) (h:PGs X es t) (hn:(assignEach es X.env).length=n:=by rfl) (hst:(assignEach es X.env).findIdx? (·.1)=none:=by rfl):PG X (.Tuple es k pos) (ais K n t):=hK▸akn hc h hn hst
end
structure ItD (K:amk) (f:Fx) (ds:List PyData) (J:It) (H1:Hp):Prop where
 go:∀ (f':Fx) (H':Hp) (i:Nat) d,FOk f' H'->Same (hide H1 f) (hide H' f')->ds[i]?=some d->J.go i H'/\∀ x H3,J.yld i H' x H3->Goes f' H' H3/\Rep K (hide H3 f') d x
 st:∀ (f':Fx) (H':Hp),FOk f' H'->Same (hide H1 f) (hide H' f')->J.stop ds.length H'
def PId (K:amk) (f:Fx) (wi:TI) (ρ:zp) (R:List PyData->Prop):Prop:=∀ (σ:St) (H:Hp) (C:It->Hp->Prop),EnvOk K f ρ σ H ->
 (∀ ds J H1,Goes f H H1->ItD K f ds J H1->R ds->C J H1)->wi σ H C
def jt (n:Nat):List PyData:=(amC n).map fun (i:Nat)=>.int (i:Int)
section
variable {K:amk} {f:Fx} {ρ:zp} {R:List PyData->Prop} {tl:TE} {t:TA}
theorem PId.imp {wi:TI} {R':List PyData->Prop} (h:PId K f wi ρ R) (i:∀ ds,R ds->R' ds):PId K f wi ρ R':=fun σ H C e q=>h σ H C e fun ds J H1 g it r=>q ds J H1 g it (i ds r)
theorem qY (h:PAd K f t ρ fun xs=>∃ j:Int,xs=[.dat (.int j)]/\-(2 ^ 62)<=j/\j<2 ^ 62/\R (jt j.toNat)):PId K f (aew t) ρ R:=fun σ H C e q=>h σ H _ e fun xs vs H1 g1 r1 ⟨j,ex,q1,q2,p⟩=>by
 subst ex
 cases r1 with
 | @cons _ v0 _ _ rx r' =>
  cases r'
  have rx':Rep K (hide H1 f) (.int j) v0:=rx
  refine⟨j,by rw [rep_int.mp rx'],q1,q2,q _ _ H1 g1 ⟨fun f' H' i d fo _ hd=>?_,fun f' H' _ _=>?_⟩ p⟩
  ·unfold jt at hd
   rw [aml] at hd
   by_cases hi:i<j.toNat
   ·rw [ani hi] at hd
    cases hd
    refine⟨hi,fun x H3 hy=>?_⟩
    obtain⟨rfl,rfl⟩:=hy
    exact⟨.refl fo,rep_int.mpr (by rw [Int.zero_add])⟩
   ·rw [amL (by rw [amX];omega)] at hd
    cases hd
  ·show j.toNat<=(jt j.toNat).length
   unfold jt
   rw [amg,amX]
   exact amn _
theorem yE (h:PEd K f tl ρ fun x=>∃ ds,x=.list ds/\R ds):PId K f (acs K tl) ρ R:=fun σ H C e q=>h σ H _ e fun x v H1 g1 r1 ⟨ds,ex,p⟩=>by
 subst ex
 obtain⟨a,xs,rfl,h1,h2⟩:=rep_list.mp r1
 have hl:=h2.length
 refine⟨a,rfl,⟨xs,(zf _ _).seq h1⟩,q ds _ H1 g1 ⟨fun f' H' i d fo sm hd=>?_,fun f' H' _ sm=>⟨xs,(zf _ _).seq (sm.seq h1),an0 hl⟩⟩ p⟩
 obtain⟨z,hz,rz⟩:=h2.get hd
 have sq:SqL K H' a xs:=(zf _ _).seq (sm.seq h1)
 refine⟨⟨xs,z,sq,hz⟩,fun x H3 hy=>?_⟩
 obtain⟨rfl,hy⟩:=hy
 have ez:=hy xs sq
 rw [hz] at ez
 cases ez
 exact⟨.refl fo,Rep.mono sm _ _ rz⟩
theorem ag5 (h:PEd K f tl ρ fun x=>∃ ds,x=.tuple ds/\R ds):PId K f (ako K tl) ρ R:=fun σ H C e q=>h σ H _ e fun x v H1 g1 r1 ⟨ds,ex,p⟩=>by
 subst ex
 obtain⟨a,xs,rfl,h1,h2⟩:=rep_tuple.mp r1
 have hl:=h2.length
 refine⟨a,rfl,⟨xs,(zf _ _).seqT h1⟩,q ds _ H1 g1 ⟨fun f' H' i d fo sm hd=>?_,fun f' H' _ sm=>⟨xs,(zf _ _).seqT (sm.seqT h1),an0 hl⟩⟩ p⟩
 obtain⟨z,hz,rz⟩:=h2.get hd
 have sq:SqT K H' a xs:=(zf _ _).seqT (sm.seqT h1)
 refine⟨⟨xs,z,sq,hz⟩,fun x H3 hy=>?_⟩
 obtain⟨rfl,hy⟩:=hy
 have ez:=hy xs sq
 rw [hz] at ez
 cases ez
 exact⟨.refl fo,Rep.mono sm _ _ rz⟩
end
section
variable {K:amk} {f:Fx} {ρ:zp} {D:DEnds} {wi:TI} {g:TG} {ts:TS}
theorem alG (h:PId K f wi ρ fun ds=>∃ J:Nat->zp->Prop,J 0 ρ /\
   (∀ (i:Nat) d ρ',ds[i]?=some d->J i ρ'->PGd K f g d ρ' fun ρ2=>PSd K f ts ρ2 { D with nx:=J (i+1),ct:=J (i+1),bk:=D.nx })/\∀ ρ',J ds.length ρ'->D.nx ρ') :
  PSd K f (aiu wi g ts) ρ D:=fun σ H E e n r b c=>h σ H _ e fun ds J H1 g1 it ⟨Jv,j0,js,jd⟩=>by
 refine⟨fun i m σ' H'=>∃ ρ',EnvOk K f ρ' σ' H'/\Goes f H1 H'/\Jv i ρ'/\m+i=ds.length,⟨ds.length,ρ,e.mono g1,.refl g1.2,j0,rfl⟩,fun i m σ' H' ⟨ρ',e',g',p,hm⟩=>?_⟩
 by_cases hi:i<ds.length
 ·obtain⟨hgo,hy⟩:=it.go f H' i _ e'.fd g'.sm (amf hi)
  refine .inr ⟨hgo,fun σ2 H2=>∃ ρ2,EnvOk K f ρ2 σ2 H2/\Goes f H1 H2/\Jv (i+1) ρ2,fun σ2 H2 ⟨ρ2,e2,g2,p2⟩=>⟨m - 1,by omega,ρ2,e2,g2,p2,by omega⟩,fun x H3 hx=>?_⟩
  obtain⟨g3,r3⟩:=hy x H3 hx
  refine js i _ ρ' (amf hi) p σ' H3 x _ (e'.mono g3) r3 fun ρ2 σ2 H4 g4 e4 p4=>?_
  have gg:=g'.trans (g3.trans g4)
  exact p4 σ2 H4 _ e4 (fun ρ5 σ5 H5 g5 e5 p5=>⟨ρ5,e5,gg.trans g5,p5⟩) (fun d v H5 g5 r5 p5=>r d v H5 (g1.trans (gg.trans g5)) r5 p5) (fun ρ5 σ5 H5 g5 e5 p5=>n ρ5 σ5 H5 (g1.trans (gg.trans g5)) e5 p5) (fun ρ5 σ5 H5 g5 e5 p5=>⟨ρ5,e5,gg.trans g5,p5⟩)
 ·have ei:i=ds.length:=by omega
  subst ei
  exact .inl ⟨it.st f H' e'.fd g'.sm,n ρ' σ' H' (g1.trans g') e' (jd ρ' p)⟩
end
section
variable {K:amk} {f:Fx} {ρ:zp} {D:Addr} {wi:TI} {g:TG} {tt:TT} {te:TE}
theorem CSt.self {H2 H:Hp} {es:List PyData} {σ:St} (c:CSt K f D H2 ρ es σ H):CSt K f D H ρ es σ H:=⟨c.env,Same.refl _,fun _ _=>rfl,c.lst⟩
theorem CSt.trans {H2 H H':Hp} {es es':List PyData} {ρ':zp} {σ σ':St} (c:CSt K f D H2 ρ es σ H) (d:CSt K f D H ρ' es' σ' H'):CSt K f D H2 ρ' es' σ' H':=⟨d.env,c.sm.trans d.sm,fun b hb=>(d.kp b hb).trans (c.kp b hb),d.lst⟩
def PBd (K:amk) (f:Fx) (D:Addr) (tb:TB) (ρ:zp) (es:List PyData) (R:zp->List PyData->Prop):Prop:=f.f≠some D->D∉f.M->∀ (σ:St) (H H2:Hp) (W:St->Hp->Prop),CSt K f D H2 ρ es σ H ->
 (∀ ρ2 es2 σ2 H',CSt K f D H2 ρ2 es2 σ2 H'->R ρ2 es2->W σ2 H')->tb σ H W
theorem yi {es:List PyData} {R:zp->List PyData->Prop} (hl:es.length<1000) (h:PEd K (f.with D) te ρ fun e=>R ρ (es++[e])):PBd K f D (jV D te) ρ es R:=fun hD hM σ H H2 W c q =>
 h σ H _ c.env fun e u H5 g5 r5 p5=>by
  have c5:=c.go g5 (c.env.mono g5)
  obtain⟨vs,h1,h2⟩:=c5.lst
  exact⟨vs,h1,yg (by rw [h2.length];omega),q _ _ _ _ (c5.put hD hM h1 h2 r5) p5⟩
theorem ag6 {fi:Fx} {Hi H2 H:Hp} {ds es:List PyData} {J:It} {tb:TB} {σ:St} {W:St->Hp->Prop} (it:ItD K fi ds J Hi) (hD:f.f≠some D) (hM:D∉f.M) (c:CSt K f D H2 ρ es σ H) (sm:Same (hide Hi fi) (hide H (f.with D)))
  (Jv:Nat->zp->List PyData->Prop) (j0:Jv 0 ρ es)
  (js:∀ (i:Nat) d ρ' es',ds[i]?=some d->Jv i ρ' es'->PGd K (f.with D) g d ρ' fun ρ2=>PTd K (f.with D) tt ρ2 fun b=>if b=true then PBd K f D tb ρ2 es' (Jv (i+1)) else Jv (i+1) ρ2 es')
  (hW:∀ ρ' es' σ' H',CSt K f D H2 ρ' es' σ' H'->Jv ds.length ρ' es'->W σ' H'):acy J g tt tb σ H W:=by
 refine⟨fun i m σ' H'=>∃ ρ' es',CSt K f D H2 ρ' es' σ' H'/\Same (hide Hi fi) (hide H' (f.with D))/\Jv i ρ' es'/\m+i=ds.length,⟨ds.length,ρ,es,c,sm,j0,rfl⟩,fun i m σ' H' ⟨ρ',es',c',sm',p,hm⟩=>?_⟩
 by_cases hi:i<ds.length
 ·obtain⟨hgo,hy⟩:=it.go (f.with D) H' i _ c'.env.fd sm' (amf hi)
  refine .inr ⟨hgo,fun x H3 hx=>?_⟩
  obtain⟨g3,r3⟩:=hy x H3 hx
  have c3:=c'.go g3 (c'.env.mono g3)
  refine js i _ ρ' es' (amf hi) p σ' H3 x _ c3.env r3 fun ρ2 σ2 H4 g4 e4 p4=>?_
  have c4:=c3.go g4 e4
  refine p4 σ2 H4 _ e4 fun b H5 g5 p5=>?_
  have c5:=c4.go g5 (e4.mono g5)
  have sm5:=((sm'.trans g3.sm).trans g4.sm).trans g5.sm
  cases b with
  | false =>
   rw [if_neg amh] at p5 ⊢
   exact⟨m - 1,by omega,ρ2,es',c5,sm5,p5,by omega⟩
  | true =>
   rw [if_pos rfl] at p5 ⊢
   exact p5 hD hM σ2 H5 H5 _ c5.self fun ρ6 es6 σ6 H6 c6 p6=>⟨m - 1,by omega,ρ6,es6,c5.trans c6,sm5.trans c6.sm,p6,by omega⟩
 ·have ei:i=ds.length:=by omega
  subst ei
  exact .inl ⟨it.st (f.with D) H' c'.env.fd sm',hW ρ' es' σ' H' c' p⟩
theorem alH {es:List PyData} {tb:TB} {R:zp->List PyData->Prop} (h:PId K (f.with D) wi ρ fun ds=>∃ Jv:Nat->zp->List PyData->Prop,Jv 0 ρ es /\
   (∀ (i:Nat) d ρ' es',ds[i]?=some d->Jv i ρ' es'->PGd K (f.with D) g d ρ' fun ρ2=>PTd K (f.with D) tt ρ2 fun b=>if b=true then PBd K f D tb ρ2 es' (Jv (i+1)) else Jv (i+1) ρ2 es') /\
   ∀ ρ' es',Jv ds.length ρ' es'->R ρ' es'):PBd K f D (tIn wi g tt tb) ρ es R:=fun hD hM σ H H2 W c q =>
 h σ H _ c.env fun ds J H1 g1 it ⟨Jv,j0,js,jd⟩ =>
  ag6 it hD hM (c.go g1 (c.env.mono g1)) (Same.refl _) Jv j0 js fun ρ' es' σ' H' c' p=>q ρ' es' σ' H' c' (jd ρ' es' p)
def PEdO (K:amk) (f:Fx) (te:TE) (ρ:zp) (P:List PyData->Prop):Prop:=∀ (σ:St) (H:Hp) (Q:VK),EnvOk K f ρ σ H ->
 (∀ es D vs H',Goes f H H'->H D=none->H' D=some (.lst vs)->Reps K (hide H' (f.with D)) es vs->P es->Q (.ref D) H')->te σ H Q
theorem PEdO.pedl {P:List PyData->Prop} (h:PEdO K f te ρ P):PEdL K f te ρ P:=fun σ H Q e q=>h σ H Q e fun es D vs H' g n h1 r p=>q es D vs H' g n h1 (Reps.mono qm es vs r) p
theorem PEdO.ped {P:PyData->Prop} (h:PEdO K f te ρ fun es=>P (.list es)):PEd K f te ρ P:=h.pedl.ped
theorem alI {P:List PyData->Prop} (h:P []):PEdO K f (agL qJ) ρ P:=fun σ H Q e q=>⟨amT _,fun p hn=>q [] p [] _ (.of_same (ya hn _) e.fd) hn zA .nil' h⟩
theorem vC {own:Nat} {fr:List Nat} {tb:Addr->TB} {P:List PyData->Prop} (h:PId K f wi ρ fun ds=>∃ Jv:Nat->zp->List PyData->Prop,Jv 0 (qL own fr ρ) [] /\
   (∀ D (i:Nat) d ρ' es',ds[i]?=some d->Jv i ρ' es'->PGd K (f.with D) g d ρ' fun ρ2=>PTd K (f.with D) tt ρ2 fun b=>if b=true then PBd K f D (tb D) ρ2 es' (Jv (i+1)) else Jv (i+1) ρ2 es') /\
   ∀ ρ' es',Jv ds.length ρ' es'->P es'):PEdO K f (ju wi own fr g tt tb) ρ P:=fun σ H Q e q =>
 h σ H _ e fun ds J H1 g1 it ⟨Jv,j0,js,jd⟩ D hn=>by
  have nD:=fresh_ne g1.2 hn
  have hD:f.f≠some D:=fun z=>nD (.inl z)
  have hM:D∉f.M:=fun z=>nD (.inr z)
  refine ag6 it hD hM (qM hn (e.mono g1)) (qo hn) Jv j0 (js D) fun ρ' es' σ' H' c' p=>?_
  obtain⟨ge,rep⟩:=aap (σ':=σ') hn g1.2 c'
  obtain⟨vs,h1,h2⟩:=c'.lst
  exact q es' D vs H' (g1.trans ge) (g1.free e.fd hn) h1 h2 (jd ρ' es' p)
end
section
variable {K:amk} {f:Fx} {ρ:zp} {D:Addr} {wi:TI} {g:TG} {tt:TT} {te:TE}
theorem vD {F:PyData->List PyData} {ds:List PyData} {i:Nat} {d:PyData} (h:ds[i]?=some d):(ds.take (i+1)).flatMap F=(ds.take i).flatMap F++F d:=by
 rw [List.take_add_one,h,anv]
 simp
theorem aiK {F:PyData->List PyData} {ds:List PyData} {i:Nat}:((ds.take i).flatMap F).length<=(ds.flatMap F).length:=by
 conv=>rhs;rw [<-aof i ds,anv,amD]
 omega
def OwnE (own:Nat) (ρ0:zp) (ρ':zp):Prop:=∃ us:zp,us.length=own/\ρ'=us++ρ0
theorem OwnE.one {ρ0 ρ':zp} (h:OwnE 1 ρ0 ρ'):∃ u,ρ'=u :: ρ0:=by
 obtain⟨us,h1,rfl⟩:=h
 match us,h1 with
 | [u],_=>exact⟨u,rfl⟩
theorem OwnE.two {ρ0 ρ':zp} (h:OwnE 2 ρ0 ρ'):∃ u v,ρ'=u :: v :: ρ0:=by
 obtain⟨us,h1,rfl⟩:=h
 match us,h1 with
 | [u,v],_=>exact⟨u,v,rfl⟩
theorem OwnE.mk1 {ρ0:zp} {u:Option DV}:OwnE 1 ρ0 (u :: ρ0):=⟨[u],rfl,rfl⟩
theorem OwnE.mk2 {ρ0:zp} {u v:Option DV}:OwnE 2 ρ0 (u :: v :: ρ0):=⟨[u,v],rfl,rfl⟩
theorem akM {own:Nat} {fr:List Nat} {tb:Addr->TB} {P:List PyData->Prop} (h:PId K f wi ρ fun ds=>∃ F:PyData->List PyData,(ds.flatMap F).length<=1000 /\
   (∀ D d ρ' es,d∈ds->OwnE own (frD fr ρ) ρ'->es.length+(F d).length<=1000->PGd K (f.with D) g d ρ' fun ρ2=>PTd K (f.with D) tt ρ2 fun b=>if b=true then PBd K f D (tb D) ρ2 es fun ρ3 es3=>OwnE own (frD fr ρ) ρ3/\es3=es++F d else OwnE own (frD fr ρ) ρ2/\F d=[]) /\
   P (ds.flatMap F)):PEdO K f (ju wi own fr g tt tb) ρ P :=
 vC (h.imp fun ds ⟨F,hl,hs,hp⟩=>by
  refine⟨fun i ρ' es=>OwnE own (frD fr ρ) ρ'/\es=(ds.take i).flatMap F,⟨⟨aol own none,by simp,rfl⟩,by simp⟩,fun D i d ρ' es hd ⟨ho,he⟩=>?_,fun ρ' es ⟨_,he⟩=>?_⟩
  ·have hb:es.length+(F d).length<=1000:=by
    rw [he,<- amD,<- vD hd]
    exact amO aiK hl
   have:=hs D d ρ' es (amw hd) ho hb
   intro σ H v Q e r q
   refine this σ H v Q e r fun ρ2 σ2 H2 g2 e2 p2=>q ρ2 σ2 H2 g2 e2 (p2.imp fun b hb2=>?_)
   cases b with
   | false =>
    rw [if_neg amh] at hb2 ⊢
    exact⟨hb2.1,by rw [vD hd,hb2.2,anj];exact he⟩
   | true =>
    rw [if_pos rfl] at hb2 ⊢
    intro h1 h2 σ3 H3 H4 W c k
    exact hb2 h1 h2 σ3 H3 H4 W c fun ρ5 es5 σ5 H5 c5 ⟨o5,p5⟩=>k ρ5 es5 σ5 H5 c5 ⟨o5,by rw [p5,vD hd,he]⟩
  ·rw [he,anp]
   exact hp)
theorem yJ {B:Bool->Prop} (h:B true):PTd K f aiE ρ B:=fun σ H Q e q=>q true H (.refl e.fd) h
end
structure OEnds where
 nx:zp->List PyData->Prop
 rt:PyData->Prop
 bk:zp->List PyData->Prop:=fun _ _=>False
 ct:zp->List PyData->Prop:=fun _ _=>False
section
variable {K:amk} {f:Fx} {ρ:zp} {D:Addr} {wi:TI} {g:TG} {tt:TT} {te:TE} {ts tu:TS} {es:List PyData} {O:OEnds} {i:Nat}
def vY (n:Nat):Option DV->Option DV
 | some (.own k)=>if k<n then some (.own k) else none
 | x=>x
end
section
variable {K:amk} {f:Fx} {ρ:zp} {P:PyData->Prop} {te ta tb:TE} {t:TA}
theorem Reps.drop {H:Hp}:∀ {ds:List PyData} {xs:List V} (n:Nat),Reps K H ds xs->Reps K H (ds.drop n) (xs.drop n)
 | _,_,0,r=>r
 | [],xs,n+1,r=>by
  rw [reps_nil.mp r]
  exact .nil'
 | d :: ds,xs,n+1,r=>by
  obtain⟨x,r',rfl,_,h⟩:=reps_cons.mp r
  exact Reps.drop n h
theorem Reps.take {H:Hp}:∀ {ds:List PyData} {xs:List V} (n:Nat),Reps K H ds xs->Reps K H (ds.take n) (xs.take n)
 | _,_,0,r=>.nil'
 | [],xs,n+1,r=>by
  rw [reps_nil.mp r]
  exact .nil'
 | d :: ds,xs,n+1,r=>by
  obtain⟨x,r',rfl,h0,h⟩:=reps_cons.mp r
  exact .cons' h0 (Reps.take n h)
def cutD (ds:List PyData) (lo hi:Option Int):List PyData:=(ds.drop (HT.sIx ds.length 0 lo)).take (HT.sIx ds.length ds.length hi - HT.sIx ds.length 0 lo)
theorem Reps.cut {H:Hp} {ds:List PyData} {xs:List V} {lo hi:Option Int} (r:Reps K H ds xs):Reps K H (cutD ds lo hi) (adO xs lo hi):=by
 unfold cutD adO
 rw [r.length]
 exact (r.drop _).take _
theorem acG {ds:List PyData} {n:Nat}:cutD ds (some (n:Int)) none=ds.drop n:=by
 unfold cutD
 rw [HT.sIx_nat,HT.sIx_none]
 by_cases h:n<=ds.length
 ·rw [Nat.min_eq_left h]
  exact aoL (by rw [anW];exact amn _)
 ·rw [Nat.min_eq_right (by omega),aoa,apO,List.drop_eq_nil_of_le (by omega)]
def POd (K:amk) (f:Fx) (t:TO) (ρ:zp) (R:Option Int->Prop):Prop:=∀ (σ:St) (H:Hp) (Q:Option Int->Hp->Prop),EnvOk K f ρ σ H->(∀ o H',Goes f H H'->R o->Q o H')->t σ H Q
theorem ag7 {R:Option Int->Prop} (h:R none):POd K f aey ρ R:=fun σ H Q e q=>q none H (.refl e.fd) h
theorem ag8 {R:Option Int->Prop} (h:PEd K f te ρ fun d=>∃ i:Int,d=.int i/\R (some i)):POd K f (ajO te) ρ R:=fun σ H Q e q=>h σ H _ e fun d v H1 g1 r1 ⟨i,ed,p⟩=>by
 subst ed
 exact⟨i,rep_int.mp r1,q (some i) H1 g1 p⟩
theorem alJ {tl th:TO} {P:List PyData->Prop} (h:PEd K f te ρ fun x=>∃ ds,x=.list ds/\POd K f tl ρ fun lo=>POd K f th ρ fun hi=>P (cutD ds lo hi)):PEdL K f (tSl (aiC K) te tl th) ρ P:=fun σ H Q e q =>
 h σ H _ e fun x v H1 g1 r1 ⟨ds,ex,p1⟩=>p1 σ H1 _ (e.mono g1) fun lo H2 g2 p2=>p2 σ H2 _ ((e.mono g1).mono g2) fun hi H3 g3 p3=>by
  subst ex
  have gg:=g1.trans (g2.trans g3)
  obtain⟨a,xs,rfl,h1,h2⟩:=rep_list.mp (Rep.mono (g2.trans g3).sm _ _ r1)
  refine⟨a,xs,rfl,(zf _ _).seq h1,fun p hn=>?_⟩
  have g4:Goes f H3 (upd H3 p (.lst (adO xs lo hi))):=.of_same (ya hn _) g3.ok
  exact q _ p _ _ (gg.trans g4) (gg.free e.fd hn) zA (Reps.mono g4.sm _ _ h2.cut) p3
theorem ag9 {tl th:TO} (h:PEd K f te ρ fun x=>∃ ds,x=.list ds/\POd K f tl ρ fun lo=>POd K f th ρ fun hi=>P (.list (cutD ds lo hi))):PEd K f (tSl (aiC K) te tl th) ρ P:=(alJ h).ped
theorem abH (h:PAd K f t ρ fun xs=>(∃ ds,xs=[.dat (.list ds)]/\P (.tuple ds)) \/ (∃ ds,xs=[.dat (.tuple ds)]/\P (.tuple ds))) :
  PEd K f (tCB (fun xs H Q=>∃ p ys,xs=[.ref p]/\((SqL K H p ys/\∀ l,H l=none->Q (.ref l) (upd H l (.tup ys))) \/ (SqT K H p ys/\Q (.ref p) H))) t) ρ P :=
 afU fun σ H Q e q=>h σ H Q e fun xs vs H' g r p=>by
  rcases p with⟨ds,rfl,p⟩ | ⟨ds,rfl,p⟩
  ·refine q _ vs H' g r ⟨_,rfl,fun vs H Q fo rs k=>?_⟩
   obtain⟨x,r,rfl,h2,h3⟩:=reps_cons.mp rs
   rw [reps_nil.mp h3]
   obtain⟨a,ys,rfl,s1,s2⟩:=rep_list.mp h2
   refine⟨a,ys,rfl,.inl ⟨(zf _ _).seq s1,fun l hn=>?_⟩⟩
   have g2:Goes f H (upd H l (.tup ys)):=.of_same (ya hn _) fo
   exact k (.tuple ds) _ _ g2 (rep_tuple.mpr ⟨l,ys,rfl,.of (zG (fresh_ne fo hn) zA),Reps.mono g2.1 ds ys s2⟩) p
  ·refine q _ vs H' g r ⟨_,rfl,fun vs H Q fo rs k=>?_⟩
   obtain⟨x,r,rfl,h2,h3⟩:=reps_cons.mp rs
   rw [reps_nil.mp h3]
   obtain⟨a,ys,rfl,s1,s2⟩:=rep_tuple.mp h2
   exact⟨a,ys,rfl,.inr ⟨(zf _ _).seqT s1,k (.tuple ds) _ H (.refl fo) (rep_tuple.mpr ⟨a,ys,rfl,s1,s2⟩) p⟩⟩
end
abbrev f0:Fx:=⟨none,[]⟩
theorem fok0 (H:Hp):FOk f0 H:=⟨(fun p e=>by cases e),(fun b hb=>by cases hb),(fun p e=>by cases e)⟩
theorem alK {H H':Hp} (s:Same H H'):Goes f0 H H':=.of_same s (fok0 H)
theorem same0 {H H':Hp} (g:Goes f0 H H'):Same H H':=fun b o h=>(zL (g.sm b o (by rw [yv];exact h))).2
def abI:Option DV->Option DV
 | some (.dat d)=>some (.dat d)
 | _=>none
section
variable {K:amk} {ρ:zp} {te:TE} {tu:TS} {i:Nat}
theorem aaq {p:Addr} {σ:St} {H:Hp} (e:EnvOk K ⟨some p,[]⟩ ρ σ H):EnvOk K f0 (ρ.map abI) σ H:=by
 refine⟨by rw [amg];exact e.len,fun i x h=>?_,fok0 H⟩
 rw [aml] at h
 cases eq:ρ[i]? with
 | none=>rw [eq] at h;cases h
 | some y =>
  rw [eq] at h
  cases y with
  | none=>cases h
  | some y =>
   obtain⟨v,h1,h2⟩:=e.get i y eq
   cases y with
   | dat d =>
    cases h
    refine⟨v,h1,?_⟩
    show Rep K (hide H f0) d v
    rw [yv]
    exact Rep.mono (zf _ _) d v h2
   | feed=>cases h
   | own k=>cases h
   | exc C=>cases h
   | mon φ=>cases h
theorem akN {Dn:DEnds} (h:∀ (σ:St) (H:Hp) (Q:VK),EnvOk K f0 ρ σ H->(∀ (p:Addr) (x y:Int) (H':Hp),Same H H'->H p=none->H' p=some (.lst [.int x,.int y])->0<=x->0<=y->y<2147483647->Q (.ref p) H')->te σ H Q)
  (hr:∀ p,PSd K ⟨some p,[]⟩ tu (ρ.set i (some .feed)) { nx:=fun ρ'=>Dn.nx (ρ'.map abI),rt:=Dn.rt,bk:=fun ρ'=>Dn.bk (ρ'.map abI),ct:=fun ρ'=>Dn.ct (ρ'.map abI) }) :
  PSd K f0 (aae (qA te (jc i)) tu) ρ Dn:=fun σ H E e n r b k=>h σ H _ e fun p x y H1 sm hn hp x0 y0 y1=>by
 have fo:FOk ⟨some p,[]⟩ H1:=⟨fun p' e=>by cases e;exact⟨x,y,hp,x0,y0,y1⟩,(fun b hb=>by cases hb),fun _ _ hb=>by cases hb⟩
 have sm0:Same H (hide H1 ⟨some p,[]⟩):=fun b o hb=>by
  have nb:b≠p:=fun e=>by rw [e,hn] at hb;cases hb
  refine zG (fun z=>?_) (sm b o hb)
  rcases z with z | z
  ·cases z;exact nb rfl
  ·cases z
 have e1:EnvOk K ⟨some p,[]⟩ ρ σ H1:=by
  refine⟨e.len,fun j z hz=>?_,fo⟩
  obtain⟨v,a1,a2⟩:=e.get j z hz
  refine⟨v,a1,?_⟩
  cases z with
  | dat d =>
   have a2':Rep K (hide H f0) d v:=a2
   rw [yv] at a2'
   exact Rep.mono sm0 d v a2'
  | feed=>obtain⟨q,hq,_⟩:=a2;cases hq
  | own k=>obtain⟨q,hq,_⟩:=a2;cases hq
  | exc C =>
   obtain⟨q,h3,h4⟩:=a2
   refine⟨q,h3,sm0 _ _ ?_⟩
   rw [yv] at h4
   exact h4
  | mon φ =>
   intro H' s
   refine a2 H' (Same.trans ?_ s)
   rw [yv]
   exact sm0
 have gg:∀ {H':Hp},Goes ⟨some p,[]⟩ H1 H'->Goes f0 H H':=fun g=>alK fun b o hb=>zf _ _ b o (g.sm b o (sm0 b o hb))
 refine hr p _ H1 E (e1.set i (x:=.feed) ⟨p,rfl,rfl⟩) (fun ρ' σ' H' g' e' p'=>n _ σ' H' (gg g') (aaq e') p') (fun d v H' g' r' p'=>r d v H' (gg g') ?_ p') (fun ρ' σ' H' g' e' p'=>b _ σ' H' (gg g') (aaq e') p') (fun ρ' σ' H' g' e' p'=>k _ σ' H' (gg g') (aaq e') p')
 rw [yv]
 exact Rep.mono (zf _ _) d v r'
end
section
variable {X:Cx} {K:amk}
def alL (i j:Int):Prop:=0<j/\j<1152921504606846976
theorem acH:OpR X (binaryOp .FloorDiv) (rI alL fun i j=>.int (i / j)):=opI fun i j _ _ _ _ _ hc q=>by
 obtain⟨h1,h2⟩:=hc
 rw [<-Int.fdiv_eq_ediv_of_nonneg i (Int.le_of_lt h1)] at q
 refine floordiv_int (by omega) q (.inl (PyProof.noPylong_of_log2 ?_))
 have h0:j.natAbs≠0:=by omega
 have:j.natAbs.log2<60:=(Nat.log2_lt h0).mpr (by omega)
 omega
theorem acI (hK:X.K=K):SlR X (aiC K):=hK▸aiD
end
section
variable {K:amk} {f:Fx} {ρ:zp} {wi:TI} {g:TG} {tt:TT} {own:Nat} {fr:List Nat} {tb:Addr->TB} {P:List PyData->Prop}
theorem jS {α:Type} {A B:α->PyData} (xs:List α) (h:PId K f wi ρ fun ds=>ds=xs.map A/\xs.length<=1000 /\
   (∀ D x ρ' es,x∈xs->OwnE own (frD fr ρ) ρ'->es.length<1000->PGd K (f.with D) g (A x) ρ' fun ρ2=>PTd K (f.with D) tt ρ2 fun b=>if b=true then PBd K f D (tb D) ρ2 es fun ρ3 es3=>OwnE own (frD fr ρ) ρ3/\es3=es++[B x] else False)/\P (xs.map B)) :
  PEdO K f (ju wi own fr g tt tb) ρ P :=
 vC (h.imp fun ds ⟨ed,hl,hs,hp⟩=>by
  subst ed
  refine⟨fun i ρ' es=>OwnE own (frD fr ρ) ρ'/\es=(xs.take i).map B,⟨⟨aol own none,by simp,rfl⟩,by simp⟩,fun D i d ρ' es hd ⟨ho,he⟩=>?_,fun ρ' es ⟨_,he⟩=>?_⟩
  ·rw [aml] at hd
   cases eq:xs[i]? with
   | none=>rw [eq] at hd;cases hd
   | some x =>
    rw [eq] at hd
    cases hd
    have hi:i<xs.length:=(ami.mp eq).1
    have hb:es.length<1000:=by
     rw [he,amg,amW]
     omega
    intro σ H v Q e r q
    refine hs D x ρ' es (amw eq) ho hb σ H v Q e r fun ρ2 σ2 H2 g2 e2 p2=>q ρ2 σ2 H2 g2 e2 (p2.imp fun b hb2=>?_)
    cases b with
    | false =>
     rw [if_neg amh] at hb2
     exact hb2.elim
    | true =>
     rw [if_pos rfl] at hb2 ⊢
     intro h1 h2 σ3 H3 H4 W c k
     exact hb2 h1 h2 σ3 H3 H4 W c fun ρ5 es5 σ5 H5 c5 ⟨o5,p5⟩=>k ρ5 es5 σ5 H5 c5 ⟨o5,by rw [p5,he,List.take_add_one,eq,amS];rfl⟩
  ·rw [he,amg,anp]
   exact hp)
end
structure XLie (P:Program) (w:World) (outer:List Env) (H:Hp) (s:Shared) (e:Addr) (C:Value) (H':Hp) (s':Shared):Prop where
 os:s'.os=s.os
 bare:AllBare s'.gens
 un:Un (frs outer) [] H H' s.heap s'.heap
 hok:HOk P w H' s'.heap
 fly:∃ B a0,Heap.FlyingW B outer e C a0 s'.heap/\(∀ b o,s.heap.get? b=some o->b∉frs outer->∃ o',B.get? b=some o')/\∀ b o,H' b=some o->∃ o',B.get? b=some o'
 new:s.heap.get? e=none
 free:H' e=none
def CXe (P:Program) (w:World):CXT:=fun outer H s E e s'=>∃ a C H',e=.ref a/\XLie P w outer H s a C H' s'/\E C none H'
end L2
end
section
namespace L2
open PySem PySem.Spec PyProof.Rows
end L2
end
section
namespace L2
open PySem PySem.Spec PySem.W PyProof.Rows PySem.Calls PySem.Builtin Builtin Builtin.ObjectAttr Builtin.Getset_descriptor
section
variable {prog:Program} {w:World} {A:Around} {E:Value->Shared->Prop} {s:Shared} {K:amk} {a C:Addr}
structure ExcWays (K:amk) (C:Addr):Prop where
 ga:findIn K (.ref C) "__getattribute__"=some (some (.builtin "BaseException.__getattribute__"))
 gt:findIn K (.ref C) "__getattr__"=some none
 cl:findIn K (.ref C) "__class__"=some (some (.builtin "object.__class__"))
 gs:specialIn K (.builtin "object.__class__") "__get__"=some (some (.builtin "getset_descriptor.__get__"))
 tk:takesIn K (.builtin "object.__class__")=some true
 ob:mroIn K C (.type "object")=some true
 be:mroIn K C (.type "BaseException")=some true
 iz:(clsIn K C).isSome=true
end
structure FnInX (P:Program) (w:World) (K:amk) (mg:Str->Option Value) (base:Heap) (k:Nat) (x:Str) (ps:List Str) (sp:Sp):Prop where
 ex:∃ (f:Addr) (fd:FuncData),FnOk P w K mg base (CXe P w) k f fd ps sp/\mg x=some (.ref f)/\am7 K (.ref f)=true/\Binds K fd ps []
end L2
end
section
namespace L2
open PySem PySem.Spec PyProof.Rows
def akO (K:amk):List V->Hp->VK->Prop:=fun xs H Q=>∃ (a:Addr) (bs:List Bool),xs=[.ref a]/\SqL K H a (bs.map V.bl)/\Q (.bl (bs.all id)) H
theorem acJ:∀ {bs:List Bool} {us:List Value},Vals (bs.map V.bl) us->us=bs.map Value.bool
 | [],us,r=>by
  cases r
  rfl
 | b :: bs,us,r=>by
  cases r with
  | cons h t =>
   rw [acJ t]
   cases (show _=Value.bool b from h)
   rfl
theorem range_all (bs:List Bool):(amC bs.length).all (fun i=>bs.getD i false)=bs.all id:=by
 rw [aod,anD,anD]
 constructor
 ·intro h b hb
  obtain⟨i,hi,rfl⟩:=List.mem_iff_getElem.mp hb
  have:=h i (amN.mpr hi)
  rwa [amj,amf hi] at this
 ·intro h i hi
  have hi':=amN.mp hi
  rw [amj,amf hi']
  exact h _ (amE hi')
theorem acK (prog:Program) (w:World) (A:Around) (bs:List Bool):TruthOf prog w A (fun i v=>(bs.map Value.bool).toArray[i]?=some v) (fun i=>bs.getD i false):=by
 intro i v s Q E hv hq
 rw [List.getElem?_toArray,aml] at hv
 cases eb:bs[i]? with
 | none=>rw [eb] at hv;cases hv
 | some b =>
  rw [eb] at hv
  cases hv
  dsimp only at hq
  rw [amj,eb] at hq
  exact wpAny_pure hq
theorem afW {X:Cx} (hc:X.calm=true):yj X (.builtin "all") (akO X.K):=by
 intro pins s σ H xs us Q I r h
 obtain⟨a,bs,rfl,hq,q⟩:=h
 obtain⟨u,rfl,r1⟩:=vals1 r
 cases r1
 obtain⟨its,rv,p,_⟩:=I.list hq
 have hl:=p.isList
 rw [acJ rv] at hl
 have ha:a<s.heap.objs.size:=by
  obtain⟨o,ho,_⟩:=hl
  exact amA ho
 refine call_all_walk (wpAny_pyIter_list hl ?_)
 have hne:a≠s.heap.objs.size:=amQ ha
 refine⟨s.heap.objs.size,_,_,_,_,_,_,rfl,Walks.list (show (X.A.in1).handled=none from I.ok.hd hc) _ a hne _,⟨?_,?_⟩,acK _ _ _ bs,fun h' tk hk=>?_⟩
 ·exact⟨_,amH _ rfl,rfl,rfl⟩
 ·exact hl.at fun o e=>amq _ e
 ·have kp:∀ b o,s.heap.get? b=some o->h'.get? b=some o:=fun b o e=>hk b o (by
   intro z
   have:=amA e
   rw [amM.mp z] at this
   exact anB _ this) (amq _ e)
  refine⟨.bl _,H,I.kept (t':=tk) kp,?_,q⟩
  show Value.bool _=Value.bool _
  rw [amv,amg,range_all]
theorem aa8 {X:Cx} {K:amk} (hK:X.K=K) (hc:X.calm=true):yj X (.builtin "all") (akO K):=hK▸afW hc
section
variable {K:amk} {f:Fx} {ρ:zp} {P:PyData->Prop} {te:TE}
theorem aar {H:Hp}:∀ {bs:List Bool} {xs:List V},Reps K H (bs.map .bool) xs->xs=bs.map V.bl
 | [],xs,r=>reps_nil.mp r
 | b :: bs,xs,r=>by
  obtain⟨x,r',rfl,h1,h2⟩:=reps_cons.mp r
  rw [aar h2,rep_bool.mp h1]
  rfl
theorem ajT (h:PEd K f te ρ fun x=>∃ bs:List Bool,x=.list (bs.map .bool)/\P (.bool (bs.all id))):PEd K f (tCB (akO K) (yQ te qJ)) ρ P:=fun σ H Q e q=>h σ H _ e fun x v H1 g1 r1 ⟨bs,ex,p⟩=>by
 subst ex
 obtain⟨a,xs,rfl,h1,h2⟩:=rep_list.mp r1
 rw [aar h2] at h1
 exact⟨a,bs,rfl,(zf _ _).seq h1,q _ _ H1 g1 (rep_bool.mpr rfl) p⟩
end
section
variable {prog:Program} {w:World} {A:Around} {E:Value->Shared->Prop}
theorem aa9 {I:Addr} {fp wr:List Addr} {n:Nat} {P:Nat->Value->Prop} {St:Nat->Heap->Prop} (W:Walks prog w A I fp wr n P St):∀ (k i:Nat) (s:Shared) (Q:List Value->Shared->Prop),i+k<=n->St i s.heap ->
  (∀ vs h' tk,vs.length=k->(∀ (j:Nat) v,vs[j]?=some v->P (i+j) v)->St (i+k) h'->(∀ b o,b∉wr->s.heap.get? b=some o->h'.get? b=some o)->Q vs { s with heap:=h',toks:=tk })->wpAny (model prog w) A (draw (.ref I) k) Q E s
 | 0,i,s,Q,_,st,hQ=>wpAny_pure (hQ [] s.heap s.toks rfl (fun j v e=>by simp at e) st fun _ _ _ e=>e)
 | k+1,i,s,Q,hle,st,hQ=>by
  show wpAny _ _ (pyNext (.ref I) >>= _) Q E s
  refine wpAny_bind (W.item i s _ E (by omega) st fun v h1 tk1 hv st1 k1=>?_)
  refine wpAny_bind (wpAny_holding (aa9 W k (i+1) _ _ (by omega) st1 fun vs h2 tk2 hl hp st2 k2=>wpAny_pure ?_))
  refine hQ (v :: vs) h2 tk2 (by rw [amB,hl]) (fun j u e=>?_) (by rw [show i+(k+1)=i+1+k by omega];exact st2) fun b o hb e=>k2 b o hb (k1 b o hb e)
  cases j with
  | zero=>cases e;exact hv
  | succ j =>
   have:=hp j u e
   rwa [show i+(j+1)=i+1+j by omega]
theorem adU {s:Shared} {a:Addr} {items:Array Value} {targets:List (Bool×(Value->Sem Unit))} {Q:Unit->Shared->Prop} (hh:A.handled=none) (hl:s.heap.IsList a items)
  (hn:targets.length=items.size) (hstar:targets.findIdx? (·.1)=none)
  (h:∀ h' tk,(∀ b o,s.heap.get? b=some o->h'.get? b=some o)->wpAny (model prog w) A (assignInOrder (targets.map (·.2)) items.toList) Q E { s with heap:=h',toks:=tk }):wpAny (model prog w) A (unpack (.ref a) targets) Q E s:=by
 have ha:a<s.heap.objs.size:=by
  obtain⟨o,ho,_⟩:=hl
  exact amA ho
 unfold unpack
 rw [hn,hstar]
 refine wpAny_bind (wpAny_holding ?_)
 unfold unpackItems
 refine wpAny_bind ?_
 unfold notIterableAtAll
 refine wpAny_bind (wpAny_specialOf hl.typeIs slot_list_iter.lookup (wpAny_pure ?_))
 simp only [amR,if_false]
 refine wpAny_bind (wpAny_holding (wpAny_pyIter_list hl ?_))
 have W:=Walks.list (prog:=prog) (w:=w) hh s.heap.objs.size a (amQ ha) items
 have fr:∀ b o,s.heap.get? b=some o->b∉[s.heap.objs.size]:=fun b o e z=>by
  have:=amA e
  rw [amM.mp z] at this
  exact anB _ this
 refine wpAny_bind (wpAny_holding (aa9 W items.size 0 _ _ (by omega) ⟨⟨_,amH _ rfl,rfl,rfl⟩,hl.at fun o e=>amq _ e⟩ fun vs h1 tk1 hvl hp st1 k1=>?_))
 have ev:vs=items.toList:=by
  refine aog fun j=>?_
  by_cases hj:j<vs.length
  ·have:=hp j _ (amf hj)
   rw [apA] at this
   rw [amf hj,<- this,apI]
  ·rw [amL (by omega),amL (by rw [amy];omega)]
 subst ev
 rw [if_neg (by simp)]
 rw [apA] at st1
 refine wpAny_bind (wpAny_holding (W.done _ _ _ st1 fun h2 tk2 k2=>?_))
 simp only [Option.isSome_none,amR,if_false]
 exact wpAny_pure (h h2 tk2 fun b o e=>k2 b o (fr b o e) (k1 b o (fr b o e) (amq _ e)))
end
def alM (K:amk) (n:Nat) (gs:TGs):TG:=fun v σ H Q=>∃ a xs,v=.ref a/\SqL K H a xs/\xs.length=n/\gs xs σ H Q
theorem aeO {X:Cx} {K:amk} {es:List Expr} {k:Nat} {t:TGs} {n:Nat} {pos:Pos} (hK:X.K=K) (hc:X.calm=true) (h:PGs X es t)
  (hn:(assignEach es X.env).length=n:=by rfl) (hst:(assignEach es X.env).findIdx? (·.1)=none:=by rfl):PG X (.Tuple es k pos) (alM K n t):=by
 subst hK
 intro pins s σ H v u Q I r hw
 obtain⟨a,xs,e1,hq,hl,hw⟩:=hw
 subst e1
 cases r
 obtain⟨its,rv,p,hz⟩:=I.list hq
 rw [assign_Tuple]
 refine wpAny_bind (wpAny_standAt (adU (I.ok.hd hc) p.isList (by rw [hn,<- hl,rv.length,amv]) hst fun h' tk kp=>?_))
 exact h pins _ σ H xs _ Q (I.kept (t':=tk) kp) rv hw
section
variable {K:amk} {f:Fx} {ρ:zp}
theorem ajU {n:Nat} {gs:TGs} {ds:List PyData} {R:zp->Prop} (hn:ds.length=n) (h:ag1 K f gs ds ρ R):PGd K f (alM K n gs) (.list ds) ρ R:=fun σ H v Q e r q=>by
 obtain⟨a,xs,rfl,h1,h2⟩:=rep_list.mp r
 exact⟨a,xs,rfl,(zf _ _).seq h1,by rw [h2.length];exact hn,h σ H xs Q e h2 q⟩
end
open Classical in
noncomputable def eqR (h:Heap) (d:PyData) (u:Value):Bool:=if z:∃ e as,Reads h u e as/\e.canLay0=true then amI z.choose d else false
theorem aha {h:Heap} {d e:PyData} {u:Value} {as:List Addr} (r:Reads h u e as) (c:e.canLay0=true):eqR h d u=amI e d:=by
 have z:∃ e as,Reads h u e as/\e.canLay0=true:=⟨e,as,r,c⟩
 unfold eqR
 rw [dif_pos z]
 obtain⟨as',r',c'⟩:=z.choose_spec
 rw [SeqAt.Reads.unique _ _ _ _ _ c' r' r]
section
variable {X:Cx} {pins:List (Addr×Obj)} {σ:St} {H:Hp} {s:Shared}
theorem acL (I:Inv X pins σ H s) {A:Around} {d:PyData} {v:Value} {bs:List Addr} (rb:Reads s.heap v d bs) (cd:d.canLay0=true) (dd:d.depth<=50) (hu:A.units+60<cLine):∀ {ds:List PyData} {xs:List V} {us:List Value},Reps X.K H ds xs->Vals xs us->(∀ e∈ds,e.canLay0=true)->∀ u∈us,SeqAt.EqAt A s u v (eqR s.heap d u)
 | [],xs,us,r,w,_=>by
  rw [reps_nil.mp r] at w
  cases w
  intro u hu
  cases hu
 | e :: ds,xs,us,r,w,c=>by
  obtain⟨x,xs',rfl,h1,h2⟩:=reps_cons.mp r
  cases w with
  | cons r1 r2 =>
   intro u hm
   rcases amu.mp hm with rfl | hm
   ·obtain⟨as,ra⟩:=yB I e x _ h1 r1
    rw [aha ra (c e amm)]
    refine SeqAt.eqAt_reads e d A s _ v as bs ra rb (c e amm) cd ?_
    have:=Nat.min_le_right e.depth d.depth
    omega
   ·exact acL I rb cd dd hu h2 r2 (fun e he=>c e (amo _ he)) u hm
theorem afX {K:amk} (hK:X.K=K):OpR X (compareOp .NotIn) (rIn K true):=hK▸abA
end
section
variable {K:amk} {f:Fx} {ρ:zp} {P:PyData->Prop} {te ta tb:TE} {t:TA} {D:DEnds} {i j:Nat}
theorem ahb (h:PEd K f ta ρ fun d=>∃ n:Int,d=.int n/\PEd K f tb ρ fun y=>∃ ns:List Int,y=.tuple (ns.map .int)/\P (.bool (!ns.contains n))):PEd K f (tOp (rIn K true) ta tb) ρ P:=fun σ H Q e q =>
 h σ H _ e fun d v H1 g1 r1 ⟨n,ed,p1⟩=>p1 σ H1 _ (e.mono g1) fun y w H2 g2 r2 ⟨ns,ey,p2⟩=>by
  subst ed ey
  obtain⟨a,xs,rfl,h1,h2⟩:=rep_tuple.mp r2
  have ex:=h2.ints
  subst ex
  rw [rep_int.mp r1]
  have e1:inV (.int n) (ns.map V.int)=ns.contains n:=by
   unfold inV
   rw [List.any_map,List.contains_eq_any_beq]
   congr 1
   funext m
   show (m == n)=(n == m)
   exact BEq.comm
  refine⟨a,_,rfl,.inr ((zf _ _).seqT h1),rfl,?_,?_⟩
  ·rw [List.all_map]
   exact anD.mpr fun _ _=>rfl
  ·rw [if_pos rfl,e1]
   exact q _ _ H2 (g1.trans g2) (rep_bool.mpr rfl) p2
end
end L2
end
section
namespace L2
open PySem PySem.Spec PyProof.Rows
section
variable {K:amk} {f:Fx} {ρ:zp} {E:XK} {te:TE} {ts tu:TS} {tt:TT} {t:TA} {P:PyData->Prop} {D:DEnds}
theorem alN (h:PEd K f te ρ fun x=>∃ i,x=.int i/\P (.int (-i))):PEd K f (tUn (rU fun i=>.int (-i)) te) ρ P :=
 al6 (h.imp fun x ⟨i,ex,p⟩ v H Q fo r q=>by
  subst ex
  exact⟨i,rep_int.mp r,q _ _ H (.refl fo) (rep_int.mpr rfl) p⟩)
end
end L2
end
section
namespace L2
open PySem PySem.Spec PyProof.Rows
end L2
end
section
namespace L2
open PySem PySem.Spec PyProof.Rows
def akP (K:amk):List V->Hp->VK->Prop:=fun xs H Q=>∃ (a:Addr) (ns:List Int),xs=[.ref a]/\SqL K H a (ns.map V.int)/\Q (.int ns.sum) H
theorem afY {X:Cx} (hc:X.calm=true):yj X (.builtin "sum") (akP X.K):=by
 intro pins s σ H xs us Q I r h
 obtain⟨a,ns,rfl,hq,q⟩:=h
 obtain⟨u,rfl,r1⟩:=vals1 r
 cases r1
 obtain⟨its,rv,p,_⟩:=I.list hq
 have hl:=p.isList
 have hi:IntsAre its ns:=intsAre_of rv
 obtain⟨zs,ez⟩:=hi.allInts.items
 rw [ez] at hl
 refine sum_intListG (show (X.A).handled=none from I.ok.hd hc) hl fun h' tk t' kp=>⟨.int _,H,I.kept (t':=tk) kp,⟨_,rfl⟩,?_⟩
 have e:preSum (numAt zs) zs.size=ns.sum:=by
  rw [<-hi.numsOf,show its=its.toArray.toList from rfl,ez,nums_intItems,preSum_eq,aoL (by simp)]
 rw [e]
 exact q
theorem adV {X:Cx} {K:amk} (hK:X.K=K) (hc:X.calm=true):yj X (.builtin "sum") (akP K):=hK▸afY hc
section
variable {K:amk} {f:Fx} {ρ:zp} {P:PyData->Prop} {te:TE}
theorem alO (h:PEd K f te ρ fun x=>∃ ns:List Int,x=.list (ns.map .int)/\P (.int ns.sum)):PEd K f (tCB (akP K) (yQ te qJ)) ρ P:=fun σ H Q e q=>h σ H _ e fun x v H1 g1 r1 ⟨ns,ex,p⟩=>by
 subst ex
 obtain⟨a,xs,rfl,h1,h2⟩:=rep_list.mp r1
 rw [h2.ints] at h1
 exact⟨a,ns,rfl,(zf _ _).seq h1,q _ _ H1 g1 (rep_int.mpr rfl) p⟩
end
section
variable {prog:Program} {w:World} {A:Around} {E:Value->Shared->Prop} {s:Shared}
theorem aiL {t b:Addr} {vs ws:List Value} {Q:Value->Shared->Prop} (ht:PlainL s.heap t vs.toArray) (hb:PlainL s.heap b ws.toArray)
  (h2:Q (.ref s.heap.objs.size) { s with heap:=s.heap.push { cls:=.type "list",data:=.seq (vs++ws).toArray } })
  (hsz:vs.length+ws.length<=sizeLine):wpAny (model prog w) A (binaryOp .Add (.ref t) (.ref b)) Q E s:=by
 obtain⟨⟨cls,dd,data,sl⟩,n,ho,hc,_,hd⟩:=ht
 obtain⟨⟨cls2,dd2,data2,sl2⟩,n2,ho2,hc2,_,hd2⟩:=hb
 simp only at hc hd hc2 hd2
 subst hc hd hc2 hd2
 have e:vs.toArray++ws.toArray=(vs++ws).toArray:=by simp
 refine concat_meets ⟨_,ho,rfl⟩ ⟨_,ho2,rfl⟩ noFill_list_add seq_list_add PySem.F.slot_list_add PySem.F.entry_list_add (PySem.F.args_list_add_2 _ _) (list_addW t b vs.toArray ws.toArray n n2 dd dd2 sl sl2 (by rw [amv,amv];exact hsz)) ⟨ho,ho2,?_⟩
 rw [e]
 exact h2
end
def ahc (K:amk):R2:=fun x y H Q=>∃ l b xs zs,x=.ref l/\y=.ref b/\SqL K H l xs/\SqL K H b zs/\xs.length+zs.length<=sizeLine/\∀ p,H p=none->Q (.ref p) (upd H p (.lst (xs++zs)))
section
variable {X:Cx}
theorem aiM:OpR X (binaryOp .Add) (ahc X.K):=by
 intro pins s σ H x y v u Q I rx ry h
 obtain⟨l,b,xs,zs,rfl,rfl,ha,hb,hz,q⟩:=h
 cases rx
 cases ry
 obtain⟨its,r1,p1,_⟩:=I.list ha
 obtain⟨its2,r2,p2,_⟩:=I.list hb
 refine aiL p1 p2 ?_ (by rw [<-r1.length,<- r2.length];exact hz)
 exact⟨.ref _,_,I.lnew (t':=s.toks) (r1.append r2) (by rw [amD];omega),rfl,q _ I.fresh⟩
theorem acM {K:amk} (hK:X.K=K):OpR X (binaryOp .Add) (ahc K):=hK▸aiM
end
section
variable {K:amk} {f:Fx} {ρ:zp} {P:PyData->Prop} {te ta tb:TE} {t:TA}
theorem ahd (h:PEd K f ta ρ fun x=>∃ ds,x=.list ds/\PEd K f tb ρ fun y=>∃ es,y=.list es/\ds.length+es.length<=1000/\P (.list (ds++es))):PEd K f (tOp (ahc K) ta tb) ρ P:=fun σ H Q e q =>
 h σ H _ e fun x v H1 g1 r1 ⟨ds,ex,p1⟩=>p1 σ H1 _ (e.mono g1) fun y w H2 g2 r2 ⟨es,ey,hl,p2⟩=>by
  subst ex ey
  obtain⟨a,xs,rfl,h1,h2⟩:=rep_list.mp (Rep.mono g2.sm _ _ r1)
  obtain⟨b,ys,rfl,h3,h4⟩:=rep_list.mp r2
  have l1:=h2.length
  have l2:=h4.length
  refine⟨a,b,xs,ys,rfl,rfl,(zf _ _).seq h1,(zf _ _).seq h3,by rw [l1,l2];exact anb (yg hl),fun p hn=>?_⟩
  have g3:Goes f H2 (upd H2 p (.lst (xs++ys))):=.of_same (ya hn _) g2.ok
  exact q (.list (ds++es)) _ _ (g1.trans (g2.trans g3)) (rep_list.mpr ⟨p,_,rfl,.of (zG (fresh_ne g2.ok hn) zA),Reps.mono g3.sm _ _ (h2.append h4)⟩) p2
theorem acN {R:List PyData->Prop} (h:PAd K f t ρ fun xs=>∃ ds,jE xs=some ds/\ds.length<=1000/\R ds):PEdO K f (agL t) ρ R:=fun σ H Q e q =>
 h σ H _ e fun xs vs H1 g1 r1 ⟨ds,ea,hl,p⟩=>by
  have rs:=ql r1 ea
  refine⟨by rw [rs.length];exact anb (yg hl),fun l hn=>?_⟩
  have g2:Goes f H1 (upd H1 l (.lst vs)):=.of_same (ya hn _) g1.2
  have nl:=fresh_ne g1.2 hn
  refine q ds l vs _ (g1.trans g2) (g1.free e.fd hn) zA (Reps.mono (fun b o hb=>?_) _ _ rs) p
  have hb':=zL hb
  have hbl:b≠l:=fun z=>by
   have:=hb'.2
   rw [z,hn] at this
   cases this
  refine zG (fun z=>?_) (by rw [zy hbl];exact hb'.2)
  rcases z with z | z
  ·exact hb'.1 (.inl z)
  ·rcases amu.mp z with z | z
   ·exact hbl z
   ·exact hb'.1 (.inr z)
end
def spN {γ:Type} (K:amk) (n:Nat) (pre:γ->List DV->Prop) (post:γ->List PyData->Prop):Sp:=fun vs H Q _=>∃ f xs c,RepVs K f H xs vs/\xs.length=n/\FOk f H/\pre c xs /\
 ∀ es D vs' H',Goes f H H'->H D=none->H' D=some (.lst vs')->Reps K (hide H' (f.with D)) es vs'->post c es->Q (.ref D) H'
def PSn (K:amk) (f:Fx) (ts:TS) (ρ:zp) (R:List PyData->Prop):Prop:=∀ (σ:St) (H:Hp) (E:Ends),EnvOk K f ρ σ H ->
 (∀ es D vs H',Goes f H H'->H D=none->H' D=some (.lst vs)->Reps K (hide H' (f.with D)) es vs->R es->E.rt (.ref D) H')->ts E σ H
section
variable {K:amk} {f:Fx} {ρ:zp} {R:List PyData->Prop} {te:TE} {ts tu:TS} {tt:TT} {t:TA} {i:Nat} {D:Addr} {es:List PyData} {O:OEnds}
theorem acO (h:PEdO K f te ρ R):PSn K f (afH te) ρ R:=fun σ H E e q=>h σ H E.rt e q
theorem aas (h:PSd K f ts ρ { nx:=fun ρ'=>PSn K f tu ρ' R,rt:=fun _=>False }):PSn K f (aae ts tu) ρ R:=fun σ H E e q =>
 h σ H _ e (fun ρ' σ' H' g' e' p=>p σ' H' E e' fun es D vs H2 g2 hn h1 rs r=>q es D vs H2 (g'.trans g2) (g'.free e.fd hn) h1 rs r) (fun _ _ _ _ _ z=>z.elim) (fun _ _ _ _ _ z=>z.elim) (fun _ _ _ _ _ z=>z.elim)
theorem ajV (h:PTd K f tt ρ fun b=>if b=true then PEdO K f te ρ R else PSn K f tu ρ R):PSn K f (aae (agD tt (afH te) aes) tu) ρ R:=fun σ H E e q =>
 h σ H _ e fun b H1 g1 p=>by
  have q1:∀ es D vs H',Goes f H1 H'->H1 D=none->H' D=some (.lst vs)->Reps K (hide H' (f.with D)) es vs->R es->E.rt (.ref D) H':=fun es D vs H' g' hn=>q es D vs H' (g1.trans g') (g1.free e.fd hn)
  cases b with
  | true=>rw [if_pos rfl] at p ⊢;exact p σ H1 E.rt (e.mono g1) q1
  | false=>rw [if_neg amh] at p ⊢;exact p σ H1 E (e.mono g1) q1
theorem qN {γ:Type} {n:Nat} {pre:γ->List DV->Prop} {post:γ->List PyData->Prop} {E:XK} (c:γ) (h:PAd K f t ρ fun xs=>xs.length=n/\pre c xs/\∀ es,post c es->R es):PEdO K f (acu (spN K n pre post) [] E t) ρ R:=fun σ H Q e q =>
 h σ H _ e fun xs vs H1 g1 r1 ⟨hl,hp,k⟩=>⟨f,xs,c,by rw [anj];exact r1,hl,g1.2,hp,fun es D vs' H' g' hn h1 rs p=>q es D vs' H' (g1.trans g') (g1.free e.fd hn) h1 rs (k es p)⟩
theorem ajW {ta tb:TE} (h:PTd K f tt ρ fun b=>if b=true then PEdO K f ta ρ R else PEdO K f tb ρ R):PEdO K f (tIf tt ta tb) ρ R:=fun σ H Q e q =>
 h σ H _ e fun b H1 g1 p=>by
  have q1:∀ es D vs H',Goes f H1 H'->H1 D=none->H' D=some (.lst vs)->Reps K (hide H' (f.with D)) es vs->R es->Q (.ref D) H':=fun es D vs H' g' hn=>q es D vs H' (g1.trans g') (g1.free e.fd hn)
  cases b with
  | true=>rw [if_pos rfl] at p ⊢;exact p σ H1 Q (e.mono g1) q1
  | false=>rw [if_neg amh] at p ⊢;exact p σ H1 Q (e.mono g1) q1
end
section
variable {P:Program} {w:World} {K:amk} {mg:Str->Option Value} {base:Heap} {k:Nat} {x:Str} {st:Stmt} {ps:List Str} {N:List Str} {n:Nat} {γ:Type} {pre:γ->List DV->Prop} {post:γ->List PyData->Prop}
theorem Def.okN (F:Def K mg x st ps) (S:FnScope N ps (zi st)) (hn:ps.length=n)
  (h:∀ (fa:Addr) (cdv:Value) (A:Around) (outer:List Env) (s:Shared) (H:Hp) (E:XK),Room k (A.deeper (envOfC x (zi st) s.heap.objs.size fa cdv)) ->
   ∃ t,PSs (z9 CX0 P w K mg base N x (zi st) fa cdv A outer s H E).nox (yA st) t/\∀ (f:Fx) (xs:List DV) (c:γ),xs.length=n->pre c xs->PSn K f t (j7 N xs) (post c)) :
  FnIn P w K mg base (k+1) x ps (spN K n pre post):=by
 obtain⟨fa,fd,F1,F2,F3⟩:=F.ex
 refine⟨fa,fd,F1.ok S (fun vs H Q E h=>?_) (fun cdv A outer s H vs Q E hr hs=>?_),F3,F1.kp,F2⟩
 ·obtain⟨f,xs,c,r,hl,_⟩:=h
  rw [r.length,hl,hn]
 ·obtain⟨f,xs,c,r,hl,fo,hp,q⟩:=hs
  obtain⟨t,h1,h2⟩:=h fa cdv A outer s H E hr
  exact⟨t,h1,h2 f xs c hl hp (start N vs) H _ (qq r fo) (fun es D vs' H' g hn' h1' rs p=>q es D vs' H' g hn' h1' rs p)⟩
end
end L2
end
section
namespace L2
open PySem PySem.W PyProof.Rows
structure Tot (n:Nat) (lt:Nat->Nat->Bool):Prop where
 tri:∀ i j,i<n->j<n->i≠j->lt i j=!lt j i
 tra:∀ i j k,i<n->j<n->k<n->lt i j=true->lt j k=true->lt i k=true
def Ans (cmp:Nat->Nat->(Bool->Shared->Prop)->Shared->Prop) (n:Nat) (lt:Nat->Nat->Bool) (s:Shared):Prop:=∀ i j C,i<n->j<n->C (lt i j) s->cmp i j C s
def Pm (n:Nat) (p:Array Nat):Prop:=p.toList.Perm (amC n)
def Up (lt:Nat->Nat->Bool) (p:Array Nat) (m:Nat):Prop:=∀ i j,i<j->j<m->lt (p.getD i 0) (p.getD j 0)=true
def Dn (lt:Nat->Nat->Bool) (p:Array Nat) (m:Nat):Prop:=∀ i j,i<j->j<m->lt (p.getD j 0) (p.getD i 0)=true
theorem Pm.size {n:Nat} {p:Array Nat} (h:Pm n p):p.size=n:=by
 have:=h.length_eq
 rwa [amy,amX] at this
theorem jg (p:Array Nat) (i:Nat):p.getD i 0=p.toList.getD i 0:=by
 by_cases h:i<p.size <;> simp [aob,h,List.getD]
theorem Pm.lt {n:Nat} {p:Array Nat} (h:Pm n p) {i:Nat} (hi:i<n):p.getD i 0<n:=by
 have hs:=h.size
 have hl:i<p.toList.length:=by rw [amy,hs];exact hi
 rw [jg,amj,amf hl]
 exact amN.mp (h.mem_iff.mp (amE hl))
theorem Pm.ne {n:Nat} {p:Array Nat} (h:Pm n p) {i j:Nat} (hi:i<n) (hj:j<n) (ne:i≠j):p.getD i 0≠p.getD j 0:=by
 have hs:=h.size
 have nd:p.toList.Nodup:=h.nodup_iff.mpr apt
 have li:i<p.toList.length:=by rw [amy,hs];exact hi
 have lj:j<p.toList.length:=by rw [amy,hs];exact hj
 rw [jg,jg,amj,amj,amf li,amf lj]
 intro e
 exact ne ((aoS nd).mp e)
theorem Pm.range (n:Nat):Pm n (am8 (amC n)):=List.Perm.refl _
theorem Pm.of {n:Nat} {p q:Array Nat} (h:Pm n p) (e:q.Perm p):Pm n q:=(Array.perm_iff_toList_perm.mp e).trans h
theorem aeP {p q:Array Nat} {i j:Nat} (h:p[i]?=q[j]?):p.getD i 0=q.getD j 0:=by
 rw [anA,anA,h]
section
variable {cmp:Nat->Nat->(Bool->Shared->Prop)->Shared->Prop} {n:Nat} {lt:Nat->Nat->Bool} {s:Shared} {p:Array Nat}
theorem Up.more (T:Tot n lt) (hp:Pm n p) {m:Nat} (h1:1<=m) (hm:m<n) (u:Up lt p m) (h:lt (p.getD (m - 1) 0) (p.getD m 0)=true):Up lt p (m+1):=fun i j hij hj=>by
 by_cases e:j=m
 ·subst e
  by_cases e2:i=j - 1
  ·subst e2;exact h
  ·exact T.tra _ _ _ (hp.lt (by omega)) (hp.lt (by omega)) (hp.lt hm) (u i (j - 1) (by omega) (by omega)) h
 ·exact u i j hij (by omega)
theorem Dn.more (T:Tot n lt) (hp:Pm n p) {m:Nat} (h1:1<=m) (hm:m<n) (u:Dn lt p m) (h:lt (p.getD m 0) (p.getD (m - 1) 0)=true):Dn lt p (m+1):=fun i j hij hj=>by
 by_cases e:j=m
 ·subst e
  by_cases e2:i=j - 1
  ·subst e2;exact h
  ·exact T.tra _ _ _ (hp.lt hm) (hp.lt (by omega)) (hp.lt (by omega)) h (u i (j - 1) (by omega) (by omega))
 ·exact u i j hij (by omega)
theorem vZ (T:Tot n lt) (W:Ans cmp n lt s) (hp:Pm n p) {Q:Nat->Shared->Prop}:∀ f m,1<=m->m+f<=n->Up lt p m->(∀ m',m<=m'->m'<=m+f->Up lt p m'->(m'=m+f \/ lt (p.getD m' 0) (p.getD (m' - 1) 0)=true)->Q m' s)->(kas_asc p f m).kasWp cmp Q s
 | 0,m,h1,hf,u,q=>q m (amn _) (amn _) u (.inl rfl)
 | f+1,m,h1,hf,u,q=>by
  refine W _ _ _ (hp.lt (by omega)) (hp.lt (by omega)) ?_
  cases e:lt (p.getD m 0) (p.getD (m - 1) 0) with
  | true=>exact q m (amn _) (by omega) u (.inr e)
  | false =>
   have e2:lt (p.getD (m - 1) 0) (p.getD m 0)=true:=by
    rw [T.tri _ _ (hp.lt (by omega)) (hp.lt (by omega)) (hp.ne (by omega) (by omega) (by omega)),e]
    rfl
   exact vZ T W hp f (m+1) (by omega) (by omega) (u.more T hp h1 (by omega) e2) fun m' a b c d=>q m' (by omega) (by omega) c (d.imp (fun z=>by omega) id)
theorem acP (T:Tot n lt) (W:Ans cmp n lt s) (hp:Pm n p) {Q:Array Nat×Nat×Nat->Shared->Prop}:∀ f m,1<=m->m+f<=n->Dn lt p m->(∀ m',m<=m'->m'<=m+f->Dn lt p m'->Q (p,m',0) s)->(kas_desc f p m 0).kasWp cmp Q s
 | 0,m,h1,hf,u,q=>q m (amn _) (amn _) u
 | f+1,m,h1,hf,u,q=>by
  refine W _ _ _ (hp.lt (by omega)) (hp.lt (by omega)) ?_
  cases e:lt (p.getD m 0) (p.getD (m - 1) 0) with
  | true=>exact acP T W hp f (m+1) (by omega) (by omega) (u.more T hp h1 (by omega) e) fun m' a b c=>q m' (by omega) (by omega) c
  | false =>
   have e2:lt (p.getD (m - 1) 0) (p.getD m 0)=true:=by
    rw [T.tri _ _ (hp.lt (by omega)) (hp.lt (by omega)) (hp.ne (by omega) (by omega) (by omega)),e]
    rfl
   refine W _ _ _ (hp.lt (by omega)) (hp.lt (by omega)) ?_
   rw [e2]
   exact q m (amn _) (by omega) u
theorem akQ {m:Nat} (hm:m<=p.size) (d:Dn lt p m):Up lt (kas_rev p 0 m) m:=fun i j hij hj=>by
 have g:∀ k,k<m->(kas_rev p 0 m).getD k 0=p.getD (m - 1 - k) 0:=fun k hk=>aeP (by
  unfold kas_rev
  rw [getElem?_mirror_all hm,if_pos ⟨amT _,hk⟩,apA])
 rw [g i (by omega),g j hj]
 exact d _ _ (by omega) (by omega)
theorem afZ (T:Tot n lt) (W:Ans cmp n lt s) (hp:Pm n p) (hn:1<=n) {Q:Nat×Array Nat->Shared->Prop} (q:∀ m p',1<=m->m<=n->Pm n p'->Up lt p' m->Q (m,p') s):(kas_count n p).kasWp cmp Q s:=by
 unfold kas_count
 rw [KasT.kasWp_bind]
 refine vZ T W hp (n - 1) 1 (amn _) (by omega) (fun i j a b=>by omega) fun m h1 h2 u c=>?_
 by_cases e:(m == n)=true
 ·rw [if_pos e]
  exact q m p h1 (by omega) hp u
 ·rw [if_neg e]
  have hm:m<n:=by
   have:m≠n:=fun z=>e (by rw [z];exact beq_self_eq_true _)
   omega
  by_cases e2:m > 1
  ·rw [if_pos e2]
   refine W _ _ _ (hp.lt (by omega)) (hp.lt (by omega)) ?_
   rw [u 0 (m - 1) (by omega) (by omega)]
   exact q m p h1 (by omega) hp u
  ·rw [if_neg e2]
   obtain rfl:m=1:=by omega
   have c':lt (p.getD 1 0) (p.getD (1 - 1) 0)=true:=c.resolve_left (by omega)
   unfold kas_descPart
   rw [KasT.kasWp_bind]
   refine acP T W hp (n - (1+1)) (1+1) (by omega) (by omega) (Dn.more T hp (amn 1) hm (fun i j a b=>by omega) c') fun m' a b d=>?_
   rw [if_neg (by show ¬ (0 > 0);omega)]
   unfold kas_tail3
   rw [KasT.kasWp_bind]
   have hp2:Pm n (kas_rev p 0 m'):=hp.of (mirror_perm _ _ _ _)
   exact vZ T W hp2 (n - m') m' (by omega) (by omega) (akQ (by rw [hp.size];omega) d) fun m2 a2 b2 u2 _=>q m2 _ (by omega) (by omega) hp2 u2
theorem vE (T:Tot n lt) (W:Ans cmp n lt s) (hp:Pm n p) {k:Nat} (hk:k<n) (u:Up lt p k) {Q:Nat->Shared->Prop}:∀ f l r,r - l<=f->l<=r->r<=k->(∀ i,i<l->lt (p.getD i 0) (p.getD k 0)=true)->(∀ i,r<=i->i<k->lt (p.getD k 0) (p.getD i 0)=true) ->
  (∀ m,m<=k->(∀ i,i<m->lt (p.getD i 0) (p.getD k 0)=true)->(∀ i,m<=i->i<k->lt (p.getD k 0) (p.getD i 0)=true)->Q m s)->(kas_place p k f l r).kasWp cmp Q s
 | 0,l,r,hf,hlr,hr,lo,hi,q=>by
  obtain rfl:l=r:=by omega
  exact q l hr lo hi
 | f+1,l,r,hf,hlr,hr,lo,hi,q=>by
  unfold kas_place
  by_cases e:l >= r
  ·rw [if_pos e]
   obtain rfl:l=r:=by omega
   exact q l hr lo hi
  ·rw [if_neg e]
   refine W _ _ _ (hp.lt hk) (hp.lt (by omega)) ?_
   have hm:(l+r) / 2<k:=by omega
   cases e2:lt (p.getD k 0) (p.getD ((l+r) / 2) 0) with
   | true =>
    refine vE T W hp hk u f l ((l+r) / 2) (by omega) (by omega) (by omega) lo (fun i h1 h2=>?_) q
    by_cases e3:i=(l+r) / 2
    ·rw [e3];exact e2
    ·exact T.tra _ _ _ (hp.lt hk) (hp.lt (by omega)) (hp.lt (by omega)) e2 (u _ _ (by omega) h2)
   | false =>
    have e4:lt (p.getD ((l+r) / 2) 0) (p.getD k 0)=true:=by
     rw [T.tri _ _ (hp.lt (by omega)) (hp.lt hk) (hp.ne (by omega) hk (by omega)),e2]
     rfl
    refine vE T W hp hk u f ((l+r) / 2+1) r (by omega) (by omega) hr (fun i h1=>?_) hi q
    by_cases e3:i=(l+r) / 2
    ·rw [e3];exact e4
    ·exact T.tra _ _ _ (hp.lt (by omega)) (hp.lt (by omega)) (hp.lt hk) (u _ _ (by omega) hm) e4
theorem akR {k m:Nat} (hk:k<p.size) (hm:m<=k) (u:Up lt p k) (lo:∀ i,i<m->lt (p.getD i 0) (p.getD k 0)=true) (hi:∀ i,m<=i->i<k->lt (p.getD k 0) (p.getD i 0)=true):Up lt (bubble p k (k - m)) (k+1):=fun i j hij hj=>by
 have g:∀ t,t<=k->(bubble p k (k - m)).getD t 0=p.getD (if t=m then k else if t<m then t else t - 1) 0:=fun t ht=>aeP (by
  rw [getElem?_bubble hk (k - m) (by omega),show k - (k - m)=m by omega]
  by_cases e1:t=m
  ·rw [if_pos e1,if_pos e1]
  ·rw [if_neg e1,if_neg e1]
   by_cases e2:t<m
   ·rw [if_neg (by omega),if_pos e2]
   ·rw [if_pos (by omega),if_neg e2])
 rw [g i (by omega),g j (by omega)]
 by_cases a1:i=m
 ·rw [if_pos a1,if_neg (by omega),if_neg (by omega)]
  exact hi _ (by omega) (by omega)
 ·rw [if_neg a1]
  by_cases a2:j=m
  ·rw [if_pos a2,if_pos (by omega)]
   exact lo _ (by omega)
  ·rw [if_neg a2]
   by_cases a3:i<m
   ·rw [if_pos a3]
    by_cases a4:j<m
    ·rw [if_pos a4];exact u _ _ hij (by omega)
    ·rw [if_neg a4];exact u _ _ (by omega) (by omega)
   ·rw [if_neg a3,if_neg (by omega)]
    exact u _ _ (by omega) (by omega)
theorem aeQ (T:Tot n lt) (W:Ans cmp n lt s) {Q:Array Nat->Shared->Prop}:∀ f k (p:Array Nat),Pm n p->k+f=n->Up lt p k->(∀ p',Pm n p'->Up lt p' n->Q p' s)->(kas_bin f p k).kasWp cmp Q s
 | 0,k,p,hp,hf,u,q=>by
  obtain rfl:k=n:=by omega
  exact q p hp u
 | f+1,k,p,hp,hf,u,q=>by
  unfold kas_bin
  rw [KasT.kasWp_bind]
  refine vE T W hp (by omega) u k 0 k (by omega) (amT _) (amn _) (fun i hi=>by omega) (fun i a b=>by omega) fun m h1 lo hi=>?_
  exact aeQ T W f (k+1) _ (hp.of (bubble_perm _ _ _)) (by omega) (akR (by rw [hp.size];omega) h1 u lo hi) q
theorem ahe (T:Tot n lt) (W:Ans cmp n lt s) (hn:1<=n) {Q:Array Nat->Shared->Prop} (q:∀ p,Pm n p->Up lt p n->Q p s):(kas_sort n).kasWp cmp Q s:=by
 unfold kas_sort
 rw [KasT.kasWp_bind]
 refine afZ T W (Pm.range n) hn fun m p h1 h2 hp u=>?_
 by_cases e:m<n
 ·show (if m<n then _ else _:KasT (Array Nat)).kasWp cmp Q s
  rw [if_pos e,show max m 1=m by omega]
  exact aeQ T W (n - m) m p hp (by omega) u q
 ·show (if m<n then _ else _:KasT (Array Nat)).kasWp cmp Q s
  rw [if_neg e]
  obtain rfl:m=n:=by omega
  exact q p hp u
end
end L2
end
section
namespace L2
open PySem PySem.W PySem.Calls PyProof.Rows
theorem aba:∀ f n r,r<=1->minRun' f n r<=n+1
 | 0,n,r,h=>by show n+r<=n+1;omega
 | f+1,n,r,h=>by
  rw [minRun'_succ]
  by_cases e:n<64
  ·rw [if_pos e];omega
  ·rw [if_neg e]
   have:=aba f (n / 2) (max r (n % 2)) (by omega)
   omega
theorem adW {n:Nat} (h:1<=n):minRun' n n 0<=n:=by
 obtain⟨f,rfl⟩:∃ f,n=f+1:=⟨n - 1,by omega⟩
 rw [minRun'_succ]
 by_cases e:f+1<64
 ·rw [if_pos e];omega
 ·rw [if_neg e]
  have:=aba f ((f+1) / 2) (max 0 ((f+1) % 2)) (by omega)
  omega
section
variable {P:Program} {w:World} {A:Around} {X:Value->Shared->Prop} {s:Shared} {κ:SortKind} {it:Array Keyed} {n:Nat} {lt:Nat->Nat->Bool} {Q:SortSt->Shared->Prop}
theorem aiN (W:Ans (kas_cmp P w A κ it) n lt s) (T:Tot n lt) (h2:2<=n) (up:∀ i,i+1<n->lt (i+1) i=false)
  (q:∀ st',arrOf st'=(am8 (amC n)).map (kas_item it)->failedOf st'=none->Q st' s):kasC (model P w) A X sortRuns' (fun _ st' s'=>Q st' s') (kas_st κ it (am8 (amC n))) s:=by
 obtain⟨r,rfl⟩:∃ r,n=r+2:=⟨n - 2,by omega⟩
 have sz:(am8 (amC (r+2))).size=r+2:=by simp
 have szA:(arrOf (kas_st κ it (am8 (amC (r+2))))).size=r+2:=by
  show (Array.map _ _).size=_
  rw [apP,sz]
 have mr:=adW (n:=r+2) (by omega)
 have at_:∀ i,i<r+2->(am8 (amC (r+2))).getD i 0=i:=fun i hi=>by simp [aob,hi]
 have cnt:(kas_count (r+2) (am8 (amC (r+2)))).kasWp (kas_cmp P w A κ it) (fun z s'=>z=(r+2,am8 (amC (r+2)))/\s'=s) s:=by
  unfold kas_count
  rw [KasT.kasWp_bind]
  refine vZ T W (Pm.range _) (r+2 - 1) 1 (amn _) (by omega) (fun i j a b=>by omega) fun m a b u c=>?_
  have e:m=r+2:=by
   rcases c with c | c
   ·omega
   ·by_cases hm:m<r+2
    ·rw [at_ m hm,at_ (m - 1) (by omega)] at c
     have:=up (m - 1) (by omega)
     rw [show m - 1+1=m by omega,c] at this
     cases this
    ·omega
  subst e
  rw [if_pos (beq_self_eq_true _)]
  exact⟨rfl,rfl⟩
 rw [sortRuns'_eq]
 apply kasC_bind;apply kasC_get
 simp only [szA]
 apply kasC_bind;apply kasC_range
 change kasC _ _ _ (forIn (0 :: 1 :: List.range' 2 r) _ _) _ _ _
 apply kasC_cons
 simp only [Nat.sub_zero,apA,show ¬ (0 >= r+2) by omega,if_false]
 refine kasC_bind (kas_count_ (by omega) (an0 sz.symm) (fun m p' s' _ _ _ z=>?_) cnt)
 obtain⟨z,rfl⟩:=z
 cases z
 simp only [show ¬ (r+2<minRun' (r+2) (r+2) 0) by omega,if_false]
 apply kasC_bind;apply kasC_get
 change kasC _ _ _ (modify (fun st=>setPending st ((pendingOf st).push (0,r+2,0))) >>= _) _ _ _
 apply kasC_bind;apply kasC_modify;apply kasC_pure
 apply kasC_cons
 simp only [show r+2 >= r+2 from amn _,if_true]
 apply kasC_pure
 apply kasC_bind;apply kasC_range
 change kasC _ _ _ (forIn (0 :: 1 :: List.range' 2 r) _ _) _ _ _
 apply kasC_cons
 apply kasC_bind;apply kasC_get
 rw [if_pos (show (pendingOf (setPending (kas_st κ it (am8 (amC (r+2)))) ((pendingOf (kas_st κ it (am8 (amC (r+2))))).push (0,r+2,0)))).size<=1 from amn 1)]
 apply kasC_pure
 exact kasC_pure (q _ rfl rfl)
theorem ahf (W:Ans (kas_cmp P w A κ it) n lt s) (T:Tot n lt) (h2:2<=n) (hs:n<64 \/ ∀ i,i+1<n->lt (i+1) i=false)
  (q:∀ st' p,Pm n p->Up lt p n->arrOf st'=p.map (kas_item it)->failedOf st'=none->Q st' s):kasC (model P w) A X sortRuns' (fun _ st' s'=>Q st' s') (kas_st κ it (am8 (amC n))) s:=by
 rcases hs with hs | hs
 ·exact kas_runs h2 hs (G:=fun p s'=>s'=s/\Pm n p/\Up lt p n) (fun p st' s' _ e f ⟨z,a,b⟩=>by subst z;exact q st' p a b e f) (ahe T W (by omega) fun p a b=>⟨rfl,a,b⟩)
 ·refine aiN W T h2 hs fun st' e f=>q st' _ (Pm.range n) (fun i j hij hj=>?_) e f
  have at_:∀ i,i<n->(am8 (amC n)).getD i 0=i:=fun i hi=>by simp [aob,hi]
  rw [at_ i (by omega),at_ j hj]
  have key:∀ d,i+d+1<n->lt i (i+d+1)=true:=fun d=>by
   induction d with
   | zero=>intro hd;rw [T.tri _ _ (by omega) hd (by omega),hs i hd];rfl
   | succ d ih =>
    intro hd
    refine T.tra _ (i+d+1) _ (by omega) (by omega) hd (ih (by omega)) ?_
    rw [T.tri _ _ (by omega) hd (by omega),show i+(d+1)+1=i+d+1+1 by omega,hs (i+d+1) (by omega)]
    rfl
  have:=key (j - i - 1) (by omega)
  rwa [show i+(j - i - 1)+1=j by omega] at this
end
section
variable {P:Program} {w:World} {A:Around} {X:Value->Shared->Prop} {s:Shared} {κ:SortKind} {vs:List Value} {lt:Nat->Nat->Bool}
structure Asks (P:Program) (w:World) (A:Around) (s:Shared) (κ:SortKind) (vs:List Value) (lt:Nat->Nat->Bool):Prop where
 kind:2<=vs.length->∀ (h':Heap),(∀ b o,s.heap.get? b=some o->h'.get? b=some o)->∀ R:SortKind->Shared->Prop,R κ { s with heap:=h' }->wpAny (model P w) A (keyKind' vs.toArray) R (fun _ _=>False) { s with heap:=h' }
 less:∀ (h':Heap),(∀ b o,s.heap.get? b=some o->h'.get? b=some o)->Ans (kas_ask P w A κ vs) vs.length lt { s with heap:=h' }
 ord:Tot vs.length lt
 few:vs.length<64 \/ ∀ i,i+1<vs.length->lt (i+1) i=false
theorem aiO {a:Addr} {e:Nat} {R:PySem.Fin->Shared->Prop} (hz:vs.length<=sizeLine) (ha:s.heap.get? a=some (seqObj "list" vs.toArray e)) {h0:Heap} (h0s:∀ b o,h0.get? b=some o->b≠a/\s.heap.get? b=some o) (K:Asks P w A { s with heap:=h0 } κ vs lt)
  (q:∀ (h':Heap) p c,Pm vs.length p->Up lt p vs.length->(∀ b o,b≠a->s.heap.get? b=some o->h'.get? b=some o)->h'.get? a=some (seqObj "list" (p.toList.map fun i=>vs.getD i Value.none).toArray c)->R (.done (.ret .none)) { s with heap:=h' }) :
  wpAny (model P w) A (Builtin.«list.sort» ⟨[.ref a],[]⟩) R X s:=by
 let h1:=s.heap.update a (aom fun _=>(#[]:Array Value))
 obtain⟨e1,a1⟩:∃ e1,h1.get? a=some (seqObj "list" #[] e1):=⟨_,get?_update_seq ha fun _=>#[]⟩
 let h2':=(h1.push (seqObj "tuple" vs.toArray 0)).push (seqObj "list" #[] 0)
 have a2:h2'.get? a=some (seqObj "list" #[] e1):=amq _ (amq _ a1)
 have k2:∀ b o,b≠a->s.heap.get? b=some o->h2'.get? b=some o:=fun b o nb eb=>amq _ (amq _ ((amP _ _ (anq nb)).trans eb))
 have kz:∀ b o,h0.get? b=some o->h2'.get? b=some o:=fun b o eb=>k2 b o (h0s b o eb).1 (h0s b o eb).2
 rw [list_sort_plain]
 apply wpAny_bind;apply listItems_at ha rfl
 apply wpAny_bind;refine listUpdate_at ha rfl ?_ (by simpa using hz) (amT _)
 apply wpAny_bind;apply seqEpoch_at a1 rfl
 apply wpAny_bind;refine wpAny_newTuple ?_ (by simpa using hz)
 apply wpAny_bind;refine wpAny_newList ?_ (amT _)
 apply wpAny_holding
 dsimp only
 change wpAny _ A _ _ _ { s with heap:=h2' }
 have st0:SortSt.mk' κ (vs.toArray.zip vs.toArray) #[] 7 none=kas_st κ (pairsOf vs) (am8 (amC vs.length)):=by
  have z:=kas_range (pairsOf vs)
  rw [pairsOf_size] at z
  unfold kas_st
  rw [z]
  rfl
 have fin:∀ (st':SortSt) (p:Array Nat),Pm vs.length p->Up lt p vs.length->arrOf st'=p.map (kas_item (pairsOf vs))->failedOf st'=none->wpAny (model P w) A (do
   let sorted:=(arrOf st').map (·.2)
   let touched:=(<- seqEpoch a) != e1
   Builtin.List.listUpdate (.ref a) fun _=>sorted
   if let some e:=failedOf st' then rule "list.sort.comparison-raised";throw e
   if touched then rule "list.sort.modified";raiseError "ValueError" "list modified during sort"
   ret .none) R X { s with heap:=h2' }:=fun st' p x1 x2 x3 x4=>by
  have out:(arrOf st').map (·.2)=(p.toList.map fun i=>vs.getD i Value.none).toArray:=by
   apply Array.toList_inj.mp
   rw [x3,Array.map_map,Array.toList_map]
   refine ao6 fun i _=>?_
   show (kas_item (pairsOf vs) i).2=_
   rw [kas_item_eq]
  dsimp only
  rw [out,x4]
  obtain⟨c,a3⟩:∃ c,(h2'.update a (aom fun _=>(p.toList.map fun i=>vs.getD i Value.none).toArray)).get? a=some (seqObj "list" (p.toList.map fun i=>vs.getD i Value.none).toArray c):=⟨_,get?_update_seq a2 fun _=>(p.toList.map fun i=>vs.getD i Value.none).toArray⟩
  apply wpAny_bind;apply seqEpoch_at a2 rfl
  apply wpAny_bind
  refine listUpdate_at a2 rfl ?_ (amT _) (by
   rw [amv,amg,amy,x1.size];omega)
  simp only [bne_self_eq_false,amR,if_false]
  exact wpAny_pure (q _ p c x1 x2 (fun b o nb eb=>(amP _ _ (anq nb)).trans (k2 b o nb eb)) a3)
 by_cases h2:vs.length<2
 ·have two:vs.toArray.size<2:=by rw [amv];exact h2
  rw [if_pos two,if_pos two]
  apply wpAny_bind;apply wpAny_pure
  apply wpAny_bind
  rw [StateT.run_pure]
  apply wpAny_pure
  have z:=kas_range (pairsOf vs)
  rw [pairsOf_size] at z
  exact fin _ (am8 (amC vs.length)) (Pm.range _) (fun i j x y=>by omega) z.symm rfl
 have two:¬ vs.toArray.size<2:=by rw [amv];exact h2
 rw [if_neg two,if_neg two]
 apply wpAny_bind
 refine wpAny_mono (K.kind (by omega) h2' kz (fun κ' s'=>κ'=κ/\s'={ s with heap:=h2' }) ⟨rfl,rfl⟩) ?_ fun _ _ z=>z.elim
 rintro κ' s' ⟨eκ,es⟩
 rw [eκ,es]
 have W:=K.less h2' kz
 rw [kas_ask_eq] at W
 rw [st0]
 apply wpAny_bind
 refine wpAny_mono (ahf (Q:=fun st' s'=>s'={ s with heap:=h2' }/\∃ p,Pm vs.length p/\Up lt p vs.length/\arrOf st'=p.map (kas_item (pairsOf vs))/\failedOf st'=none) W K.ord (by omega) K.few fun st' p x1 x2 x3 x4=>⟨rfl,p,x1,x2,x3,x4⟩) ?_ fun _ _ z=>z
 rintro⟨⟨⟩,st'⟩ s' ⟨rfl,p,x1,x2,x3,x4⟩
 exact fin st' p x1 x2 x3 x4
theorem acQ {l:Addr} {Q:Value->Shared->Prop} (hz:vs.length<=sizeLine) (hl:s.heap.IsList l vs.toArray) (K:Asks P w A.in1.in1 s κ vs lt)
  (q:∀ (h':Heap) D p c,Pm vs.length p->Up lt p vs.length->s.heap.objs.size<=D->(∀ b o,s.heap.get? b=some o->h'.get? b=some o)->h'.get? D=some (seqObj "list" (p.toList.map fun i=>vs.getD i Value.none).toArray c)->Q (.ref D) { s with heap:=h' }) :
  wpAny (model P w) A (call (.builtin "sorted") [.ref l]) Q X s:=by
 let h1:=(s.heap.push (seqObj "list" #[] 0)).update s.heap.objs.size (aom (·++vs.toArray))
 have s1:h1.objs.size=s.heap.objs.size+1:=by rw [Heap.size_update,size_push']
 let h2':=h1.push (seqObj "list" vs.toArray 0)
 have at2:h2'.get? (s.heap.objs.size+1)=some (seqObj "list" vs.toArray 0):=by rw [<-s1];exact amH _ rfl
 have keep:∀ b o,s.heap.get? b=some o->b≠s.heap.objs.size+1/\h2'.get? b=some o:=fun b o eb=>by
  have lb:=amA eb
  refine⟨fun z=>?_,amq _ ((amP _ _ fun z=>?_).trans (amq _ eb))⟩
  ·rw [z] at lb;exact anB _ (aoM lb (aoT _))
  ·rw [<-z] at lb;exact anB _ lb
 refine Calls.call_function_entry kind_sorted plain_sorted entry_sorted (args_sorted1 _) ?_
 unfold Builtin.«sorted»
 apply wpAny_bind (m:=checkCount "sorted" 1 1 _);apply wpAny_pure
 apply wpAny_bind;refine collect_list hl ?_ hz
 apply wpAny_bind;refine wpAny_newList ?_ hz
 change wpAny _ _ _ _ _ { s with heap:=h2' }
 rw [show Value.ref ((s.heap.push (seqObj "list" #[] 0)).update s.heap.objs.size (aom (·++vs.toArray))).objs.size=Value.ref (s.heap.objs.size+1) from congrArg Value.ref s1]
 apply wpAny_bind;apply wpAny_holding
 refine wpAny_call_entry slot_list_sort ⟨_,at2,rfl⟩ entry_list_sort ?_ (args_list_sort _)
 refine aiO (s:={ s with heap:=h2' }) hz at2 (h0:=s.heap) keep K fun h' p c x1 x2 x3 x4=>⟨_,rfl,wpAny_pure ⟨_,rfl,?_⟩⟩
 exact q h' _ p c x1 x2 (ap4 _) (fun b o eb=>x3 b o (keep b o eb).1 (keep b o eb).2) x4
end
mutual
def zq:PyData->Bool
 | .int _=>true
 | .str s=>(PyData.str s).canLay0
 | .tuple xs=>zB xs
 | _=>false
def zB:List PyData->Bool
 | []=>true
 | x :: xs=>zq x && zB xs
end
mutual
def ltD:PyData->PyData->Bool
 | .int a,.int b=>decide (a<b)
 | .str a,.str b=>decide (a.cps.toList<b.cps.toList)
 | .tuple xs,.tuple ys=>ltL xs ys
 | .int _,.str _=>true
 | .int _,.tuple _=>true
 | .str _,.tuple _=>true
 | _,_=>false
def ltL:List PyData->List PyData->Bool
 | [],[]=>false
 | [],_ :: _=>true
 | _ :: _,[]=>false
 | x :: xs,y :: ys=>if amI x y=true then ltL xs ys else ltD x y
end
mutual
def j9:PyData->PyData->Bool
 | .int _,.int _=>true
 | .str _,.str _=>true
 | .tuple xs,.tuple ys=>qB xs ys
 | _,_=>false
def qB:List PyData->List PyData->Bool
 | [],_=>true
 | _ :: _,[]=>true
 | x :: xs,y :: ys=>if amI x y=true then qB xs ys else j9 x y
end
mutual
theorem yp:∀ d:PyData,zq d=true->d.canLay0=true
 | .int _,_=>rfl
 | .str _,h=>h
 | .tuple xs,h=>by rw [PyData.canLay0];exact aat xs (by rw [zq] at h;exact h)
 | .none,h=>by cases h
 | .bool _,h=>by cases h
 | .list _,h=>by cases h
 | .dict _,h=>by cases h
theorem aat:∀ xs:List PyData,zB xs=true->anQ xs=true
 | [],_=>rfl
 | x :: xs,h=>by
  rw [zB,ams] at h
  rw [anQ,yp x h.1,aat xs h.2]
  rfl
end
mutual
theorem ahg:∀ a b:PyData,zq a=true->zq b=true->amI a b=true->a=b
 | .int a,.int b,_,_,h=>by simpa [amI] using h
 | .str a,.str b,_,_,h=>by simpa [amI] using h
 | .tuple xs,.tuple ys,h1,h2,h=>by rw [aeR xs ys (by rw [zq] at h1;exact h1) (by rw [zq] at h2;exact h2) (by rw [amI] at h;exact h)]
 | .int _,.str _,_,_,h=>by simp [amI] at h
 | .int _,.tuple _,_,_,h=>by simp [amI] at h
 | .str _,.int _,_,_,h=>by simp [amI] at h
 | .str _,.tuple _,_,_,h=>by simp [amI] at h
 | .tuple _,.int _,_,_,h=>by simp [amI] at h
 | .tuple _,.str _,_,_,h=>by simp [amI] at h
 | .none,_,h,_,_=>by cases h
 | .bool _,_,h,_,_=>by cases h
 | .list _,_,h,_,_=>by cases h
 | .dict _,_,h,_,_=>by cases h
 | .int _,.none,_,h,_=>by cases h
 | .int _,.bool _,_,h,_=>by cases h
 | .int _,.list _,_,h,_=>by cases h
 | .int _,.dict _,_,h,_=>by cases h
 | .str _,.none,_,h,_=>by cases h
 | .str _,.bool _,_,h,_=>by cases h
 | .str _,.list _,_,h,_=>by cases h
 | .str _,.dict _,_,h,_=>by cases h
 | .tuple _,.none,_,h,_=>by cases h
 | .tuple _,.bool _,_,h,_=>by cases h
 | .tuple _,.list _,_,h,_=>by cases h
 | .tuple _,.dict _,_,h,_=>by cases h
theorem aeR:∀ xs ys:List PyData,zB xs=true->zB ys=true->apm xs ys=true->xs=ys
 | [],[],_,_,_=>rfl
 | [],_ :: _,_,_,h=>by simp [apm] at h
 | _ :: _,[],_,_,h=>by simp [apm] at h
 | x :: xs,y :: ys,h1,h2,h=>by
  rw [zB,ams] at h1 h2
  rw [apm,ams] at h
  rw [ahg x y h1.1 h2.1 h.1,aeR xs ys h1.2 h2.2 h.2]
end
theorem v3 {a b:PyData} (ha:zq a=true) (hb:zq b=true):amI a b=true↔a=b :=
 ⟨ahg a b ha hb,fun h=>by subst h;exact aoN a (yp a ha)⟩
theorem jv {x y:PyData} {xs ys:List PyData} (hx:zq x=true) (hy:zq y=true) [Decidable (x=y)]:ltL (x :: xs) (y :: ys)=if x=y then ltL xs ys else ltD x y:=by
 rw [ltL]
 by_cases h:x=y
 ·rw [if_pos ((v3 hx hy).mpr h),if_pos h]
 ·rw [if_neg (fun z=>h ((v3 hx hy).mp z)),if_neg h]
theorem ahh {a b:List Nat} (h:a≠b):decide (a<b)=!decide (b<a):=by
 by_cases h1:a<b
 ·rw [decide_eq_true h1,decide_eq_false (fun z=>List.lt_irrefl a (List.lt_trans h1 z))]
  rfl
 ·have h2:b<a:=by
   have:b<=a:=List.not_lt.mp h1
   rcases List.le_iff_lt_or_eq.mp this with z | z
   ·exact z
   ·exact absurd z.symm h
  rw [decide_eq_false h1,decide_eq_true h2]
  rfl
theorem akS {a b:Str} (h:a≠b):a.cps.toList≠b.cps.toList:=fun z=>h (by
 cases a;cases b
 simp only [Str.mk.injEq] at *
 exact Array.toList_inj.mp z)
mutual
theorem adX:∀ a b:PyData,zq a=true->zq b=true->a≠b->ltD a b=!ltD b a
 | .int a,b,ha,hb,ne=>by
  cases b with
  | int b =>
   rw [ltD,ltD]
   have:a≠b:=fun z=>ne (by rw [z])
   by_cases h:a<b
   ·rw [decide_eq_true h,decide_eq_false (by omega)];rfl
   ·rw [decide_eq_false h,decide_eq_true (by omega)];rfl
  | str b=>simp [ltD]
  | tuple ys=>simp [ltD]
  | none=>cases hb
  | bool _=>cases hb
  | list _=>cases hb
  | dict _=>cases hb
 | .str a,b,ha,hb,ne=>by
  cases b with
  | int b=>simp [ltD]
  | str b =>
   rw [ltD,ltD]
   exact ahh (akS fun z=>ne (by rw [z]))
  | tuple ys=>simp [ltD]
  | none=>cases hb
  | bool _=>cases hb
  | list _=>cases hb
  | dict _=>cases hb
 | .tuple xs,b,ha,hb,ne=>by
  cases b with
  | int b=>simp [ltD]
  | str b=>simp [ltD]
  | tuple ys =>
   rw [ltD,ltD]
   rw [zq] at ha hb
   exact aeS xs ys ha hb fun z=>ne (by rw [z])
  | none=>cases hb
  | bool _=>cases hb
  | list _=>cases hb
  | dict _=>cases hb
 | .none,_,h,_,_=>by cases h
 | .bool _,_,h,_,_=>by cases h
 | .list _,_,h,_,_=>by cases h
 | .dict _,_,h,_,_=>by cases h
theorem aeS:∀ xs ys:List PyData,zB xs=true->zB ys=true->xs≠ys->ltL xs ys=!ltL ys xs
 | [],[],_,_,ne=>absurd rfl ne
 | [],_ :: _,_,_,_=>by simp [ltL]
 | _ :: _,[],_,_,_=>by simp [ltL]
 | x :: xs,y :: ys,h1,h2,ne=>by
  rw [zB,ams] at h1 h2
  have:=am6 (x=y)
  have:=am6 (y=x)
  rw [jv h1.1 h2.1,jv h2.1 h1.1]
  by_cases e:x=y
  ·rw [if_pos e,if_pos e.symm]
   exact aeS xs ys h1.2 h2.2 fun z=>ne (by rw [e,z])
  ·rw [if_neg e,if_neg (anq e)]
   exact adX x y h1.1 h2.1 e
end
mutual
theorem vF:∀ a:PyData,zq a=true->ltD a a=false
 | .int a,_=>by rw [ltD];exact decide_eq_false (Int.lt_irrefl a)
 | .str a,_=>by rw [ltD];exact decide_eq_false (List.lt_irrefl _)
 | .tuple xs,h=>by rw [ltD];rw [zq] at h;exact aeT xs h
 | .none,h=>by cases h
 | .bool _,h=>by cases h
 | .list _,h=>by cases h
 | .dict _,h=>by cases h
theorem aeT:∀ xs:List PyData,zB xs=true->ltL xs xs=false
 | [],_=>by rw [ltL]
 | x :: xs,h=>by
  rw [zB,ams] at h
  have:=am6 (x=x)
  rw [jv h.1 h.1,if_pos rfl]
  exact aeT xs h.2
end
theorem lt_asymm {a b:PyData} (ha:zq a=true) (hb:zq b=true) (h:ltD a b=true):a≠b:=fun z=>by
 subst z
 rw [vF a ha] at h
 cases h
mutual
theorem abJ:∀ a b c:PyData,zq a=true->zq b=true->zq c=true->ltD a b=true->ltD b c=true->ltD a c=true
 | .int a,b,c,ha,hb,hc,h1,h2=>by
  cases b <;> first | (cases hb;done) | skip
  all_goals cases c <;> first | (cases hc;done) | skip
  all_goals first | (simp [ltD] at h1 h2 ⊢;omega) | (simp [ltD] at h1 h2 ⊢;done) | (simp [ltD] at h1;done) | (simp [ltD] at h2;done)
 | .str a,b,c,ha,hb,hc,h1,h2=>by
  cases b <;> first | (cases hb;done) | skip
  all_goals cases c <;> first | (cases hc;done) | skip
  all_goals first | (simp [ltD] at h1;done) | (simp [ltD] at h2;done) | (rw [ltD] at h1 h2 ⊢;exact decide_eq_true (List.lt_trans (of_decide_eq_true h1) (of_decide_eq_true h2))) | (simp [ltD] at h1 h2 ⊢;done)
 | .tuple xs,b,c,ha,hb,hc,h1,h2=>by
  cases b with
  | tuple ys =>
   cases c with
   | tuple zs =>
    rw [ltD] at h1 h2 ⊢
    rw [zq] at ha hb hc
    exact aeU xs ys zs ha hb hc h1 h2
   | int _=>simp [ltD] at h2
   | str _=>simp [ltD] at h2
   | none=>cases hc
   | bool _=>cases hc
   | list _=>cases hc
   | dict _=>cases hc
  | int _=>simp [ltD] at h1
  | str _=>simp [ltD] at h1
  | none=>cases hb
  | bool _=>cases hb
  | list _=>cases hb
  | dict _=>cases hb
 | .none,_,_,h,_,_,_,_=>by cases h
 | .bool _,_,_,h,_,_,_,_=>by cases h
 | .list _,_,_,h,_,_,_,_=>by cases h
 | .dict _,_,_,h,_,_,_,_=>by cases h
theorem aeU:∀ xs ys zs:List PyData,zB xs=true->zB ys=true->zB zs=true->ltL xs ys=true->ltL ys zs=true->ltL xs zs=true
 | [],ys,[],_,_,_,h1,h2=>by
  cases ys with
  | nil=>exact h1
  | cons y ys=>simp [ltL] at h2
 | [],_,_ :: _,_,_,_,_,_=>by rw [ltL]
 | _ :: _,[],_,_,_,_,h1,_=>by simp [ltL] at h1
 | _ :: _,_ :: _,[],_,_,_,_,h2=>by simp [ltL] at h2
 | x :: xs,y :: ys,z :: zs,p1,p2,p3,h1,h2=>by
  rw [zB,ams] at p1 p2 p3
  have:=am6 (x=y)
  have:=am6 (y=z)
  have:=am6 (x=z)
  rw [jv p1.1 p2.1] at h1
  rw [jv p2.1 p3.1] at h2
  rw [jv p1.1 p3.1]
  by_cases e1:x=y
  ·rw [if_pos e1] at h1
   by_cases e2:y=z
   ·rw [if_pos e2] at h2
    rw [if_pos (e1.trans e2)]
    exact aeU xs ys zs p1.2 p2.2 p3.2 h1 h2
   ·rw [if_neg e2] at h2
    rw [if_neg (fun q=>e2 (e1.symm.trans q)),e1]
    exact h2
  ·rw [if_neg e1] at h1
   by_cases e2:y=z
   ·rw [if_neg (fun q=>e1 (q.trans e2.symm)),<- e2]
    exact h1
   ·rw [if_neg e2] at h2
    have h3:=abJ x y z p1.1 p2.1 p3.1 h1 h2
    rw [if_neg (lt_asymm p1.1 p3.1 h3)]
    exact h3
end
end L2
end
section
namespace L2
open PySem PySem.Spec PyProof.Rows PySem.SeqAt
open PySem.AutoSeq1 (wpAny_loadPart')
open PySem.MeetsSeq PySem.MeetsSeq2 PySem.MeetsSeq3
def alP (A:Around) (s:Shared) (y x:Value) (b:Bool):Prop :=
 ∀ (prog:Program) (w:World) (E:Value->Shared->Prop) (Q:Value->Shared->Prop),Q (.bool b) s->wpAny (model prog w) A (richCompare .Lt y x) Q E s
inductive Lex (A:Around) (s:Shared):List Value->List Value->Bool->Prop where
 | nn:Lex A s [] [] false
 | nc {w ws}:Lex A s [] (w :: ws) true
 | cn {v vs}:Lex A s (v :: vs) [] false
 | eq {v w vs ws b}:EqAt A s v w true->Lex A s vs ws b->Lex A s (v :: vs) (w :: ws) b
 | lt {v w vs ws b}:EqAt A s v w false->alP A s v w b->Lex A s (v :: vs) (w :: ws) b
theorem abK (l m:Addr) (xs ys:Array Value) (n n2:Nat) (dd dd2:Option Addr) (sl sl2:Array (Option Value)) (c:Bool) :
  Meets (Builtin.«tuple.__lt__» ⟨[.ref l,.ref m],[]⟩)
   (fun A R s=>s.heap.get? l=some { cls:=.type "tuple",dict:=dd,data:=.seq xs n,slots:=sl }/\s.heap.get? m=some { cls:=.type "tuple",dict:=dd2,data:=.seq ys n2,slots:=sl2 } /\
    Lex A.in1 s xs.toList ys.toList c/\R (.ok (.ret (.bool c))) s) :=
 .of_wp fun prog w A R s h=>by
  obtain⟨hp,g,d,tk,os⟩:=s;obtain⟨hl,hb,hx,h⟩:=h
  have f2:=AutoSeq1.sub_tuple_tuple
  wp_walk using wpAny_loadPart' hl,wpAny_loadPart' hb,wpAny_forIn_list _ (fun rest b s'=>b.1=none/\s'=⟨hp,g,d,tk,os⟩/\∃ (vs ws:List Value),rest=vs.zip ws/\Lex A.in1 ⟨hp,g,d,tk,os⟩ vs ws c/\vs.length+ys.size=ws.length+xs.size) _
  case turn =>
   rintro⟨y,x⟩ rest b s' ⟨hb',rfl,vs,ws,hz,lx,hn⟩
   cases lx with
   | nn=>cases hz
   | nc=>cases hz
   | cn=>cases hz
   | eq he lx' =>
    rw [aoc] at hz
    cases hz
    refine wpAny_bind (he prog w _ _ ?_)
    wp_walk
    exact⟨rfl,rfl,_,_,rfl,lx',by simp only [amB] at hn;omega⟩
   | lt he hlt =>
    rw [aoc] at hz
    cases hz
    refine wpAny_bind (he prog w _ _ ?_)
    have hri:=hlt prog w
    wp_walk using hri
    exact⟨_,rfl,h⟩
  case fin =>
   rintro⟨b1,b2⟩ s' ⟨hb',rfl,vs,ws,hz,lx,hn⟩
   simp only at hb'
   subst hb'
   have hv:decide (xs.size<ys.size)=c:=by
    cases lx with
    | nn=>simp only [ane] at hn;exact decide_eq_false (by omega)
    | nc=>simp only [ane,amB] at hn;exact decide_eq_true (by omega)
    | cn=>simp only [ane,amB] at hn;exact decide_eq_false (by omega)
    | eq _ _=>cases hz
    | lt _ _=>cases hz
   wp_walk
   rw [<-hv] at h
   exact⟨_,rfl,by simpa [Builtin.Tuple.tupleCompareSizes] using h⟩
  case h=>exact⟨rfl,rfl,_,_,rfl,hx,by simp only [amy];omega⟩
mutual
theorem aau:∀ (da db:PyData) (A:Around) (s:Shared) (a b:Value) (as bs:List Addr),Reads s.heap a da as->Reads s.heap b db bs->zq da=true->zq db=true->j9 da db=true ->
  A.units+max da.depth db.depth<cLine->alP A s a b (ltD da db)
 | .int x,db,A,s,_,_,_,_,ra,rb,_,_,hc,hu=>by
  cases ra with
  | int _ t =>
   cases db with
   | int y =>
    cases rb with
    | int _ u =>
     intro prog w E Q q
     exact HT.rcLt_int A s x t y u prog w E Q (by rw [ltD] at q;exact q)
   | _=>cases hc
 | .str x,db,A,s,_,_,_,_,ra,rb,_,_,hc,hu=>by
  cases ra with
  | str _ t =>
   cases db with
   | str y =>
    cases rb with
    | str _ u =>
     intro prog w E Q q
     exact (PyProof.Rows.lt_str (by rw [ltD] at q;exact q):wpAny (model prog w) A (compareOp .Lt (.str x t) (.str y u)) Q E s)
   | _=>cases hc
 | .tuple xs,db,A,s,_,_,_,_,ra,rb,pa,pb,hc,hu=>by
  cases ra with
  | @tuple l o vs n _ as h1 h2 h3 h4 =>
   cases db with
   | tuple ys =>
    cases rb with
    | @tuple m o2 ws n2 _ bs k1 k2 k3 k4 =>
     intro prog w E Q q
     obtain⟨cls,dd,data,sl⟩:=o
     obtain⟨cls2,dd2,data2,sl2⟩:=o2
     simp only at h2 h3 k2 k3
     subst h2 h3 k2 k3
     rw [zq] at pa pb
     rw [j9] at hc
     rw [ltD] at q
     have hd:A.in1.units+max (amt xs) (amt ys)<cLine:=by
      have e1:(PyData.tuple xs).depth=amt xs+1:=rfl
      have e2:(PyData.tuple ys).depth=amt ys+1:=rfl
      have e3:A.in1.units=A.units+1:=rfl
      rw [e1,e2] at hu
      omega
     have lx:=abb xs ys A.in1 s _ _ _ _ h4 k4 pa pb hc hd
     exact richCompare_meets_room (op:=.Lt) ⟨_,h1,rfl⟩ ⟨_,k1,rfl⟩ PySem.F.slot_tuple_lt PySem.F.entry_tuple_lt (PySem.F.args_tuple_lt_2 _ _) (abK l m vs ws n n2 dd dd2 sl sl2 (ltL xs ys))
      ⟨h1,k1,lx,show Value.bool (ltL xs ys)≠Value.notImplemented/\Q (.bool (ltL xs ys)) s from⟨(fun x=>nomatch x),q⟩⟩ (by omega)
   | _=>cases hc
 | .none,_,_,_,_,_,_,_,_,_,h,_,_,_=>by cases h
 | .bool _,_,_,_,_,_,_,_,_,_,h,_,_,_=>by cases h
 | .list _,_,_,_,_,_,_,_,_,_,h,_,_,_=>by cases h
 | .dict _,_,_,_,_,_,_,_,_,_,h,_,_,_=>by cases h
theorem abb:∀ (xs ys:List PyData) (A:Around) (s:Shared) (vs ws:List Value) (as bs:List Addr),ReadsAll s.heap vs xs as->ReadsAll s.heap ws ys bs->zB xs=true->zB ys=true->qB xs ys=true ->
  A.units+max (amt xs) (amt ys)<cLine->Lex A s vs ws (ltL xs ys)
 | [],[],_,_,_,_,_,_,ra,rb,_,_,_,_=>by cases ra;cases rb;rw [ltL];exact .nn
 | [],_ :: _,_,_,_,_,_,_,ra,rb,_,_,_,_=>by cases ra;cases rb;rw [ltL];exact .nc
 | _ :: _,[],_,_,_,_,_,_,ra,rb,_,_,_,_=>by cases ra;cases rb;rw [ltL];exact .cn
 | x :: xs,y :: ys,A,s,_,_,_,_,ra,rb,pa,pb,hc,hu=>by
  cases ra with
  | cons r rs =>
   cases rb with
   | cons r' rs' =>
    rw [zB,ams] at pa pb
    rw [qB] at hc
    rw [ltL]
    have e1:amt (x :: xs)=max x.depth (amt xs):=rfl
    have e2:amt (y :: ys)=max y.depth (amt ys):=rfl
    rw [e1,e2] at hu
    have eq:=eqAt_reads x y A s _ _ _ _ r r' (yp x pa.1) (yp y pb.1) (by omega)
    by_cases e:amI x y=true
    ·rw [if_pos e] at hc ⊢
     rw [e] at eq
     exact .eq eq (abb xs ys A s _ _ _ _ rs rs' pa.2 pb.2 hc (by omega))
    ·rw [if_neg e] at hc ⊢
     rw [apu] at e
     rw [e] at eq
     exact .lt eq (aau x y A s _ _ _ _ r r' pa.1 pb.1 hc (by omega))
end
end L2
end
section
namespace L2
open PySem PySem.Spec PyProof.Rows PySem.SeqAt PySem.W
section
variable {P:Program} {w:World} {A:Around} {s:Shared} {b:Bool} {Q:Bool->Shared->Prop}
theorem abL {fin:Bool} {x y:PyData} {p q:Value} {r:List (Value×Value)} {i:Nat} {as bs:List Addr} {c:Bool} (rx:Reads s.heap p x as) (ry:Reads s.heap q y bs) (px:zq x=true) (py:zq y=true) (hu:A.units+max x.depth y.depth<cLine)
  (h1:amI x y=true->KatLex P w A b fin Q r (i+1) s) (h2:amI x y=false->wpAny (model P w) A (oneLt' (b && i == 0) p q) Q (fun _ _=>False) s):KatLex P w A b fin Q ((p,q) :: r) i s:=by
 refine kat_cons (eqAt_reads x y A s _ _ _ _ rx ry (yp x px) (yp y py) (by omega) P w _ _ ?_)
 exact kat_go (fun e=>kat_yes (h1 e)) fun e=>kat_no (h2 e)
theorem qZ {m n:Nat}:∀ (xs ys:List PyData) (vs ws:List Value) (as bs:List Addr) (i:Nat),(1<=i \/ b=false)->ReadsAll s.heap vs xs as->ReadsAll s.heap ws ys bs->zB xs=true->zB ys=true->qB xs ys=true ->
  A.units+max (amt xs) (amt ys)<cLine->xs.length+n=ys.length+m->Q (ltL xs ys) s->KatLex P w A b (decide (m<n)) Q (vs.zip ws) i s
 | [],[],_,_,_,_,i,_,ra,rb,_,_,_,_,hl,q=>by
  cases ra;cases rb
  rw [ltL] at q
  simp only [ane] at hl
  rw [decide_eq_false (show ¬ m<n by omega)]
  exact kat_nil q
 | [],y :: ys,_,_,_,_,i,_,ra,rb,_,_,_,_,hl,q=>by
  cases ra;cases rb
  rw [ltL] at q
  simp only [ane,amB] at hl
  rw [decide_eq_true (show m<n by omega)]
  exact kat_nil q
 | x :: xs,[],_,_,_,_,i,_,ra,rb,_,_,_,_,hl,q=>by
  cases ra;cases rb
  rw [ltL] at q
  simp only [ane,amB] at hl
  rw [decide_eq_false (show ¬ m<n by omega),List.zip_nil_right]
  exact kat_nil q
 | x :: xs,y :: ys,_,_,_,_,i,hi,ra,rb,pa,pb,hc,hu,hl,q=>by
  cases ra with
  | cons r rs =>
   cases rb with
   | cons r' rs' =>
    rw [zB,ams] at pa pb
    rw [qB] at hc
    rw [ltL] at q
    have e1:amt (x :: xs)=max x.depth (amt xs):=rfl
    have e2:amt (y :: ys)=max y.depth (amt ys):=rfl
    rw [e1,e2] at hu
    simp only [amB] at hl
    rw [aoc]
    refine abL (c:=true) r r' pa.1 pb.1 (by omega) (fun e=>?_) fun e=>?_
    ·rw [if_pos e] at hc q
     exact qZ xs ys _ _ _ _ (i+1) (.inl (by omega)) rs rs' pa.2 pb.2 hc (by omega) (by omega) q
    ·rw [if_neg (by rw [e];exact amh)] at hc q
     have ef:(b && i == 0)=false:=by
      rcases hi with hi | hi
      ·rw [show (i == 0)=false from beq_eq_false_iff_ne.mpr (by omega),apQ]
      ·rw [hi];rfl
     rw [ef]
     exact kat_one _ _ (aau x y A s _ _ _ _ r r' pa.1 pb.1 hc (by omega) P w _ _ q)
end
def jw:PyData->Option String
 | .tuple (.int _ :: _)=>some "int"
 | .tuple (.str _ :: _)=>some "str"
 | .tuple (.tuple _ :: _)=>some "tuple"
 | _=>none
structure SortOk (T:String) (ds:List PyData):Prop where
 plain:∀ d∈ds,zq d=true
 head:∀ d∈ds,jw d=some T
 cmp:∀ d∈ds,∀ e∈ds,j9 d e=true
 depth:∀ d∈ds,d.depth<=50
 nd:ds.Nodup
theorem qa {d:PyData} {T:String} (h:jw d=some T):∃ x xs,d=.tuple (x :: xs)/\((T="int"/\∃ n,x=.int n) \/ (T="str"/\∃ n,x=.str n) \/ (T="tuple"/\∃ n,x=.tuple n)):=by
 unfold jw at h
 split at h
 ·cases h;exact⟨_,_,rfl,.inl ⟨rfl,_,rfl⟩⟩
 ·cases h;exact⟨_,_,rfl,.inr (.inl ⟨rfl,_,rfl⟩)⟩
 ·cases h;exact⟨_,_,rfl,.inr (.inr ⟨rfl,_,rfl⟩)⟩
 ·cases h
section
variable {P:Program} {w:World} {A:Around} {s:Shared} {T:String}
theorem akT {d e:PyData} {v u:Value} {as bs:List Addr} {C:Bool->Shared->Prop} (rd:Reads s.heap v d as) (re:Reads s.heap u e bs) (pd:zq d=true) (pe:zq e=true) (hd:jw d=some T) (he:jw e=some T) (hc:j9 d e=true)
  (hu:A.units+60<cLine) (d1:d.depth<=50) (d2:e.depth<=50) (q:C (ltD d e) s):wpAny (model P w) A (keyLt' (tuples' (Value.type T != Value.type "tuple")) v u) C (fun _ _=>False) s:=by
 obtain⟨x,xs,rfl,hx⟩:=qa hd
 obtain⟨y,ys,rfl,hy⟩:=qa he
 cases rd with
 | @tuple l o vs n _ as h1 h2 h3 h4 =>
  cases re with
  | @tuple m o2 ws n2 _ bs k1 k2 k3 k4 =>
   have l1:=ano _ _ _ h4
   have l2:=ano _ _ _ k4
   rw [amy] at l1 l2
   refine kat_lt h1 h3 k1 k3 ?_
   rw [zq] at pd pe
   rw [j9] at hc
   rw [ltD] at q
   have e1:(PyData.tuple (x :: xs)).depth=amt (x :: xs)+1:=rfl
   have e2:(PyData.tuple (y :: ys)).depth=amt (y :: ys)+1:=rfl
   have e3:amt (x :: xs)=max x.depth (amt xs):=rfl
   have e4:amt (y :: ys)=max y.depth (amt ys):=rfl
   rcases hx with⟨rfl,nx,rfl⟩ | ⟨rfl,nx,rfl⟩ | ⟨rfl,nx,rfl⟩
   ·obtain⟨ny,rfl⟩:∃ ny,y=.int ny:=by
     rcases hy with⟨_,h⟩ | ⟨z,_⟩ | ⟨z,_⟩
     ·exact h
     ·exact absurd z (by decide)
     ·exact absurd z (by decide)
    obtain⟨vl⟩:=vs
    obtain⟨wl⟩:=ws
    cases h4 with
    | cons r rs =>
     cases k4 with
     | cons r' rs' =>
      rw [zB,ams] at pd pe
      rw [qB] at hc
      rw [ltL] at q
      rw [aoc]
      refine abL (c:=true) r r' rfl rfl (by omega) (fun e=>?_) fun e=>?_
      ·rw [if_pos e] at hc q
       exact qZ xs ys _ _ _ _ 1 (.inl (amn 1)) rs rs' pd.2 pe.2 hc (by omega) (by simp only [amB] at l1 l2;omega) q
      ·rw [if_neg (by rw [e];exact amh)] at q
       rw [show ((Value.type "int" != Value.type "tuple") && (0 == 0))=true by decide]
       cases r
       cases r'
       rw [ltD] at q
       exact oneLt_int q
   ·obtain⟨ny,rfl⟩:∃ ny,y=.str ny:=by
     rcases hy with⟨z,_⟩ | ⟨_,h⟩ | ⟨z,_⟩
     ·exact absurd z (by decide)
     ·exact h
     ·exact absurd z (by decide)
    obtain⟨vl⟩:=vs
    obtain⟨wl⟩:=ws
    cases h4 with
    | cons r rs =>
     cases k4 with
     | cons r' rs' =>
      rw [zB,ams] at pd pe
      rw [qB] at hc
      rw [ltL] at q
      rw [aoc]
      refine abL (c:=true) r r' pd.1 pe.1 (by omega) (fun e=>?_) fun e=>?_
      ·rw [if_pos e] at hc q
       exact qZ xs ys _ _ _ _ 1 (.inl (amn 1)) rs rs' pd.2 pe.2 hc (by omega) (by simp only [amB] at l1 l2;omega) q
      ·rw [if_neg (by rw [e];exact amh)] at q
       rw [show ((Value.type "str" != Value.type "tuple") && (0 == 0))=true by decide]
       cases r
       cases r'
       rw [ltD] at q
       exact oneLt_str q
   ·exact qZ _ _ _ _ _ _ 0 (.inr (by decide)) h4 k4 pd pe hc (by omega) (by rw [l1,l2];omega) q
theorem ReadsAll.at {h:Heap}:∀ {vs:List Value} {ds:List PyData} {as:List Addr},ReadsAll h vs ds as->∀ i,i<ds.length->∃ bs,Reads h (vs.getD i Value.none) (ds.getD i .none) bs
 | _,_,_,.nil,i,hi=>absurd hi (ank _)
 | _,_,_,.cons r rs,0,_=>⟨_,r⟩
 | _,_,_,.cons r rs,i+1,hi=>ReadsAll.at rs i (apB hi)
theorem ReadsAll.keep {h h':Heap} (k:∀ b o,h.get? b=some o->h'.get? b=some o):∀ {vs:List Value} {ds:List PyData} {as:List Addr},ReadsAll h vs ds as->ReadsAll h' vs ds as
 | _,_,_,.nil=>.nil
 | _,_,_,.cons r rs=>.cons (PyProof.Rows.Reads.keeps k r) (ReadsAll.keep k rs)
theorem aeV {h:Heap}:∀ {vs:List Value} {ds:List PyData} {as:List Addr},ReadsAll h vs ds as->(∀ d∈ds,jw d=some T)->∃ fs,KatTups h vs fs/\fs.length=vs.length/\∀ v∈fs,Looks (model P w) h (typeOf v) (.type T)
 | _,_,_,.nil,_=>⟨[],.nil,rfl,fun _ h=>nomatch h⟩
 | _,d :: ds,_,.cons r rs,hh=>by
  obtain⟨fs,h1,h2,h3⟩:=aeV rs fun d hd=>hh d (amo _ hd)
  obtain⟨x,xs,rfl,hx⟩:=qa (hh d amm)
  cases r with
  | @tuple l o vs n _ as k1 k2 k3 k4 =>
   obtain⟨vl⟩:=vs
   cases k4 with
   | @cons v0 vs0 _ _ _ _ r0 rs0 =>
    refine⟨v0 :: fs,.cons k1 k2 k3 rfl h1,by simp [h2],fun v hv=>?_⟩
    rcases amu.mp hv with rfl | hv
    ·rcases hx with⟨rfl,nx,rfl⟩ | ⟨rfl,nx,rfl⟩ | ⟨rfl,nx,rfl⟩
     ·cases r0;exact Looks.of_pure rfl
     ·cases r0;exact Looks.of_pure rfl
     ·cases r0 with
      | tuple q1 q2 q3 q4=>rw [<-q2];exact (Looks.ld q1).andThen .now
    ·exact h3 v hv
theorem akU {ds:List PyData} (ok:SortOk T ds):Tot ds.length fun i j=>ltD (ds.getD i .none) (ds.getD j .none):=by
 have mem:∀ i,i<ds.length->ds.getD i .none∈ds:=fun i hi=>by
  rw [amj,amf hi]
  exact amE hi
 refine⟨fun i j hi hj ne=>adX _ _ (ok.plain _ (mem i hi)) (ok.plain _ (mem j hj)) fun z=>ne ?_,fun i j k hi hj hk=>abJ _ _ _ (ok.plain _ (mem i hi)) (ok.plain _ (mem j hj)) (ok.plain _ (mem k hk))⟩
 rw [amj,amj,amf hi,amf hj] at z
 exact (aoS ok.nd).mp z
theorem aiP {vs:List Value} {ds:List PyData} {as:List Addr} (ra:ReadsAll s.heap vs ds as) (ok:SortOk T ds) (hu:A.units+60<cLine) (few:ds.length<64 \/ ds.Pairwise fun d e=>ltD d e=true) :
  Asks P w A s (tuples' (Value.type T != Value.type "tuple")) vs fun i j=>ltD (ds.getD i .none) (ds.getD j .none):=by
 have len:=ano _ _ _ ra
 have mem:∀ i,i<ds.length->ds.getD i .none∈ds:=fun i hi=>by
  rw [amj,amf hi]
  exact amE hi
 refine⟨fun h2 h' k R q=>?_,fun h' k i j C hi hj q=>?_,by rw [len];exact akU ok,?_⟩
 ·obtain⟨fs,f1,f2,f3⟩:=aeV (P:=P) (w:=w) (ReadsAll.keep k ra) ok.head
  exact kat_kind f1 (by omega) f3 (beq_self_eq_true _) q
 ·rw [len] at hi hj
  obtain⟨b1,r1⟩:=ReadsAll.at (ReadsAll.keep k ra) i hi
  obtain⟨b2,r2⟩:=ReadsAll.at (ReadsAll.keep k ra) j hj
  exact akT r1 r2 (ok.plain _ (mem i hi)) (ok.plain _ (mem j hj)) (ok.head _ (mem i hi)) (ok.head _ (mem j hj)) (ok.cmp _ (mem i hi) _ (mem j hj)) hu (ok.depth _ (mem i hi)) (ok.depth _ (mem j hj)) q
 ·rw [len]
  refine few.imp id fun pw i hi=>?_
  have h1:=anL.mp pw i (i+1) (by omega) hi (by omega)
  have g:∀ j (hj:j<ds.length),ds.getD j .none=ds[j]:=fun j hj=>by rw [amj,amf hj];rfl
  rw [g _ hi,g i (by omega)]
  have ne:=lt_asymm (ok.plain _ (amE _)) (ok.plain _ (amE _)) h1
  have:=adX _ _ (ok.plain _ (amE _)) (ok.plain _ (amE _)) ne
  rw [h1] at this
  revert this
  cases ltD ds[i+1] ds[i] <;> simp
end
def pick {α:Type} (d:α) (p:Array Nat) (xs:List α):List α:=p.toList.map fun i=>xs.getD i d
theorem aeW:∀ {xs:List V} {us:List Value},Vals xs us->∀ i,RelV (xs.getD i .non) (us.getD i Value.none)
 | _,_,.nil,i=>rfl
 | _,_,.cons r t,0=>r
 | _,_,.cons r t,i+1=>aeW t i
theorem af0 {xs:List V} {us:List Value} (r:Vals xs us) (p:Array Nat):Vals (pick .non p xs) (pick Value.none p us):=by
 unfold pick
 induction p.toList with
 | nil=>exact .nil
 | cons i l ih=>exact .cons (aeW r i) ih
theorem aeX {K:amk} {H:Hp}:∀ {ds:List PyData} {xs:List V},Reps K H ds xs->∀ i,Rep K H (ds.getD i .none) (xs.getD i .non)
 | [],xs,r,i=>by
  rw [reps_nil.mp r]
  exact rep_none.mpr rfl
 | d :: ds,xs,r,i=>by
  obtain⟨x,xs',rfl,r1,r2⟩:=reps_cons.mp r
  cases i with
  | zero=>exact r1
  | succ i=>exact aeX r2 i
theorem af1 {K:amk} {H:Hp} {ds:List PyData} {xs:List V} (r:Reps K H ds xs) (p:Array Nat):Reps K H (pick .none p ds) (pick .non p xs):=by
 unfold pick
 induction p.toList with
 | nil=>exact .nil'
 | cons i l ih=>exact .cons' (aeX r i) ih
theorem af2 {α:Type} {d:α} {n:Nat} {p:Array Nat} {xs:List α} (h:Pm n p) (hn:n=xs.length):(pick d p xs).Perm xs:=by
 have e:(amC n).map (fun i=>xs.getD i d)=xs:=by
  subst hn
  refine aog fun i=>?_
  rw [aml]
  by_cases hi:i<xs.length
  ·rw [ani hi,amf hi]
   simp [hi]
  ·rw [amL (by simp;omega),amL (by omega)]
   rfl
 have:=h.map fun i=>xs.getD i d
 rw [e] at this
 exact this
theorem aiQ {n:Nat} {p:Array Nat} {ds:List PyData} (h:Pm n p) (u:Up (fun i j=>ltD (ds.getD i .none) (ds.getD j .none)) p n):(pick .none p ds).Pairwise fun d e=>ltD d e=true:=by
 unfold pick
 rw [ant]
 refine anL.mpr fun i j hi hj hij=>?_
 have hs:=h.size
 rw [amy] at hi hj
 have:=u i j hij (by omega)
 have g:∀ k (hk:k<p.toList.length),p.getD k 0=p.toList[k]:=fun k hk=>by
  rw [jg,amj,amf hk]
  rfl
 rw [g i (by simpa using hi),g j (by simpa using hj)] at this
 exact this
def abM (K:amk):List V->Hp->VK->Prop:=fun xs H Q=>∃ (a:Addr) (vs:List V) (ds:List PyData) (T:String),xs=[.ref a]/\SqL K H a vs/\Reps K H ds vs/\SortOk T ds/\ds.length<=1000/\(ds.length<64 \/ ds.Pairwise fun d e=>ltD d e=true) /\
 ∀ l p,H l=none->Pm ds.length p->Up (fun i j=>ltD (ds.getD i .none) (ds.getD j .none)) p ds.length->Q (.ref l) (upd H l (.lst (pick .non p vs)))
theorem abN {X:Cx} (hu:X.A.units+64<cLine):yj X (.builtin "sorted") (abM X.K):=by
 intro pins s σ H xs us Q I r h
 obtain⟨a,vs,ds,T,rfl,ha,rd,ok,hl,few,q⟩:=h
 obtain⟨u,rfl,rx⟩:=vals1 r
 cases rx
 obtain⟨its,rv,pl,hz⟩:=I.list ha
 have le:=rv.length
 have ld:=rd.length
 obtain⟨as,ra⟩:=yR I ds vs its rd rv
 have e2:X.A.in1.in1.units=X.A.units+1+1:=rfl
 have lt':its.length=ds.length:=by omega
 refine acQ (by omega) pl.isList (aiP ra ok (by omega) few) fun h' D p c x1 x2 x3 x4 x5=>?_
 rw [lt'] at x1 x2
 have hD:H D=none:=I.hok.fresh x3
 have lp:p.toList.length=ds.length:=by rw [amy];exact x1.size
 exact⟨.ref D,upd H D (.lst (pick .non p vs)),I.laid (t':=s.toks) x4 x3 ⟨by unfold pick;rw [amg];omega,pick Value.none p its,c,af0 rv p,x5⟩,rfl,q D p hD x1 x2⟩
theorem jF {X:Cx} {K:amk} (hK:X.K=K) (hu:X.A.units+64<cLine):yj X (.builtin "sorted") (abM K):=hK▸abN hu
section
variable {K:amk} {f:Fx} {ρ:zp} {P:List PyData->Prop} {te:TE}
theorem aav (T:String) (h:PEd K f te ρ fun x=>∃ ds,x=.list ds/\SortOk T ds/\ds.length<=1000/\(ds.length<64 \/ ds.Pairwise fun d e=>ltD d e=true)/\∀ es,es.Perm ds->(es.Pairwise fun d e=>ltD d e=true)->P es) :
  PEdO K f (tCB (abM K) (yQ te qJ)) ρ P:=fun σ H Q e q=>h σ H _ e fun x v H1 g1 r1 ⟨ds,ex,ok,hl,few,p⟩=>by
 subst ex
 obtain⟨a,xs,rfl,h1,h2⟩:=rep_list.mp r1
 refine⟨a,xs,ds,T,rfl,(zf _ _).seq h1,Reps.mono (zf _ _) _ _ h2,ok,hl,few,fun l pm hn m u=>?_⟩
 have g2:Goes f H1 (upd H1 l (.lst (pick .non pm xs))):=.of_same (ya hn _) g1.2
 refine q (pick .none pm ds) l _ _ (g1.trans g2) (g1.free e.fd hn) zA (Reps.mono (fun b o hb=>?_) _ _ (af1 h2 pm)) (p _ (af2 m rfl) (aiQ m u))
 have hb':=zL hb
 have hbl:b≠l:=fun z=>by
  have:=hb'.2
  rw [z,hn] at this
  cases this
 refine zG (fun z=>?_) (by rw [zy hbl];exact hb'.2)
 rcases z with z | z
 ·exact hb'.1 (.inl z)
 ·rcases amu.mp z with z | z
  ·exact hbl z
  ·exact hb'.1 (.inr z)
end
end L2
end
section
namespace L2.ST
open PySem PySem.SetTable
def acR (xs:Array Nat):Prop:=∀ i j,i<j->j<xs.size->xs.getD i 0<xs.getD j 0
theorem ahi {xs:Array Nat} {i d e:Nat} (h:i<xs.size):xs.getD i d=xs.getD i e:=by simp [aob,h]
theorem aaw {xs:Array Nat} {j:Nat}:∀ f lo hi,hi - lo<=f->lo<=hi->hi<=xs.size->(∀ i,i<lo->xs.getD i 0<j)->(∀ i,hi<=i->i<xs.size->j<=xs.getD i 0)->acR xs ->
  lo<=below.go xs j f lo hi/\below.go xs j f lo hi<=hi/\(∀ i,i<below.go xs j f lo hi->xs.getD i 0<j)/\(∀ i,below.go xs j f lo hi<=i->i<xs.size->j<=xs.getD i 0)
 | 0,lo,hi,hf,hl,hh,a,b,r=>by
  obtain rfl:lo=hi:=by omega
  exact⟨amn _,amn _,a,b⟩
 | f+1,lo,hi,hf,hl,hh,a,b,r=>by
  unfold below.go
  by_cases h:lo<hi
  ·rw [if_pos h]
   have hm:(lo+hi) / 2<xs.size:=by omega
   simp only
   rw [ahi (e:=0) hm]
   by_cases h2:xs.getD ((lo+hi) / 2) 0<j
   ·rw [if_pos h2]
    have:=aaw f ((lo+hi) / 2+1) hi (by omega) (by omega) hh (fun i hi'=>by
     by_cases e:i=(lo+hi) / 2
     ·rw [e];exact h2
     ·exact aoM (r i _ (by omega) hm) h2) b r
    exact⟨by omega,this.2.1,this.2.2⟩
   ·rw [if_neg h2]
    have:=aaw f lo ((lo+hi) / 2) (by omega) (by omega) (by omega) a (fun i hi' hs=>by
     by_cases e:i=(lo+hi) / 2
     ·rw [e];omega
     ·have:=r ((lo+hi) / 2) i (by omega) hs;omega) r
    exact⟨this.1,by omega,this.2.2⟩
  ·rw [if_neg h]
   obtain rfl:lo=hi:=by omega
   exact⟨amn _,amn _,a,b⟩
theorem acS {xs:Array Nat} (r:acR xs) (j:Nat):below xs j<=xs.size/\(∀ i,i<below xs j->xs.getD i 0<j)/\(∀ i,below xs j<=i->i<xs.size->j<=xs.getD i 0):=by
 have:=aaw (xs:=xs) (j:=j) xs.size 0 xs.size (by omega) (amT _) (amn _) (fun i hi=>absurd hi (ank _)) (fun i a b=>by omega) r
 exact this.2
theorem below_at {xs:Array Nat} (r:acR xs) {i:Nat} (hi:i<xs.size):below xs (xs.getD i 0)=i:=by
 obtain⟨a,b,c⟩:=acS r (xs.getD i 0)
 by_cases h:below xs (xs.getD i 0)<i
 ·have h1:=c _ (amn _) (by omega)
  have h2:=r _ i h hi
  omega
 ·by_cases h2:i<below xs (xs.getD i 0)
  ·have:=b i h2;omega
  ·omega
def Tk (t:SetTable) (j:Nat):Prop:=∃ i,i<t.place.size/\t.place.getD i 0=j
theorem slot_live {t:SetTable} (r:acR t.place) {i:Nat} (hi:i<t.place.size):t.slot (t.place.getD i 0)=.live i:=by
 unfold slot
 simp only
 rw [below_at r hi]
 have:(t.place[i]? == some (t.place.getD i 0))=true:=by simp [aob,hi]
 rw [if_pos this]
theorem af3 {t:SetTable} (d:t.dummies=#[]) {j:Nat} (h:¬ Tk t j):t.slot j=.empty:=by
 unfold slot
 simp only
 have h1:¬ (t.place[below t.place j]? == some j)=true:=fun e=>h (by
  have e2:=eq_of_beq e
  obtain⟨hl,e3⟩:=apd.mp e2
  exact⟨_,hl,by simp [aob,hl,e3]⟩)
 rw [if_neg h1]
 have h2:has t.dummies j=false:=by rw [d];rfl
 rw [h2]
 rfl
def road (mask:Nat) (h:Int):Nat->Probe
 | 0=>{ j:=bits h % (mask+1),more:=runEnd mask (bits h % (mask+1)) - bits h % (mask+1),i:=bits h % (mask+1),perturb:=bits h,dummy:=none }
 | k+1=>if (road mask h k).more > 0 then { road mask h k with j:=(road mask h k).j+1,more:=(road mask h k).more - 1 } else
  { road mask h k with j:=(leap mask (road mask h k).i (road mask h k).perturb).1,more:=runEnd mask (leap mask (road mask h k).i (road mask h k).perturb).1 - (leap mask (road mask h k).i (road mask h k).perturb).1,i:=(leap mask (road mask h k).i (road mask h k).perturb).1,perturb:=(leap mask (road mask h k).i (road mask h k).perturb).2 }
theorem road_start (t:SetTable) (h:Int):t.probeStart h=road t.mask h 0:=rfl
theorem qO (mask:Nat) (h:Int):∀ k,(road mask h k).dummy=none
 | 0=>rfl
 | k+1=>by
  unfold road
  split
  ·exact qO mask h k
  ·exact qO mask h k
abbrev pos (mask:Nat) (h:Int) (k:Nat):Nat:=(road mask h k).j
def lp (mask:Nat) (h:Int):Nat->Nat×Nat
 | 0=>(bits h % (mask+1),bits h)
 | r+1=>leap mask (lp mask h r).1 (lp mask h r).2
theorem vG (mask i:Nat) (h:i<=mask):i<=runEnd mask i/\runEnd mask i<=mask/\runEnd mask i - i<=9:=by
 unfold runEnd
 split <;> omega
theorem acT (mask:Nat) (h:Int):∀ r,(lp mask h r).1<=mask
 | 0=>ao0.mp (Nat.mod_lt _ (aoI _))
 | r+1=>ao0.mp (Nat.mod_lt _ (aoI _))
def At (mask:Nat) (h:Int) (k r d:Nat):Prop:=d<=runEnd mask (lp mask h r).1 - (lp mask h r).1/\road mask h k={ j:=(lp mask h r).1+d,more:=runEnd mask (lp mask h r).1 - (lp mask h r).1 - d,i:=(lp mask h r).1,perturb:=(lp mask h r).2,dummy:=none }
theorem abO (mask:Nat) (h:Int):At mask h 0 0 0:=⟨amT _,rfl⟩
theorem aeY {mask:Nat} {h:Int} {k r d:Nat} (a:At mask h k r d) (hd:d<runEnd mask (lp mask h r).1 - (lp mask h r).1):At mask h (k+1) r (d+1):=by
 obtain⟨a1,a2⟩:=a
 refine⟨hd,?_⟩
 unfold road
 rw [a2]
 simp only
 rw [if_pos (by omega)]
 simp only [Probe.mk.injEq,and_true]
 omega
theorem abP {mask:Nat} {h:Int} {k r d:Nat} (a:At mask h k r d) (hd:d=runEnd mask (lp mask h r).1 - (lp mask h r).1):At mask h (k+1) (r+1) 0:=by
 obtain⟨a1,a2⟩:=a
 refine⟨amT _,?_⟩
 unfold road
 rw [a2]
 simp only
 rw [if_neg (by omega)]
 rfl
theorem abQ {mask:Nat} {h:Int} {k r:Nat} (a:At mask h k r 0):∀ d,d<=runEnd mask (lp mask h r).1 - (lp mask h r).1->At mask h (k+d) r d
 | 0,_=>a
 | d+1,hd=>aeY (abQ a d (by omega)) (by omega)
theorem acU (mask:Nat) (h:Int):∀ r,∃ k,k<=10 * r/\At mask h k r 0
 | 0=>⟨0,amn _,abO mask h⟩
 | r+1=>by
  obtain⟨k,hk,a⟩:=acU mask h r
  have:=(vG mask _ (acT mask h r)).2.2
  exact⟨_,by omega,abP (abQ a _ (amn _)) rfl⟩
theorem ahj (mask:Nat) (h:Int):∀ k,∃ r d,At mask h k r d
 | 0=>⟨0,0,abO mask h⟩
 | k+1=>by
  obtain⟨r,d,a⟩:=ahj mask h k
  by_cases e:d<runEnd mask (lp mask h r).1 - (lp mask h r).1
  ·exact⟨r,d+1,aeY a e⟩
  ·exact⟨r+1,0,abP a (Nat.le_antisymm a.1 (by omega))⟩
theorem abR (mask:Nat) (h:Int) (k:Nat):pos mask h k<=mask:=by
 obtain⟨r,d,a1,a2⟩:=ahj mask h k
 unfold pos
 rw [a2]
 have:=vG mask _ (acT mask h r)
 show (lp mask h r).1+d<=mask
 omega
def stp (m i:Nat):Nat:=(i * 5+1) % m
def itr (m:Nat):Nat->Nat->Nat
 | 0,i=>i
 | r+1,i=>stp m (itr m r i)
theorem q9 (m:Nat) (a:Nat):∀ b i,itr m (a+b) i=itr m b (itr m a i)
 | 0,i=>rfl
 | b+1,i=>by show stp m (itr m (a+b) i)=stp m (itr m b (itr m a i));rw [q9 m a b i]
def orb (m:Nat):Nat->Nat->List Nat
 | 0,_=>[]
 | f+1,i=>i :: orb m f (stp m i)
theorem ahk (m:Nat):∀ f i r,r<f->(orb m f i)[r]?=some (itr m r i)
 | 0,_,_,h=>absurd h (ank _)
 | f+1,i,0,_=>rfl
 | f+1,i,r+1,h=>by
  show (orb m f (stp m i))[r]?=_
  rw [ahk m f (stp m i) r (by omega),show r+1=1+r by omega,q9 m 1 r i]
  rfl
def jb (m:Nat):Bool:=(amC m).all (fun j=>(orb m m 0).contains j) && itr m m 0 == 0
theorem aeZ:jb 8=true:=by decide +kernel
theorem acV:jb 32=true:=by decide +kernel
theorem abc:jb 128=true:=by decide +kernel
theorem abd:jb 512=true:=by decide +kernel
theorem abS (m:Nat):∀ f i,(orb m f i).length=f
 | 0,_=>rfl
 | f+1,i=>by show (orb m f (stp m i)).length+1=f+1;rw [abS m f]
theorem acW {m:Nat} (h:jb m=true) {j:Nat} (hj:j<m):∃ r,r<m/\itr m r 0=j:=by
 unfold jb at h
 rw [ams] at h
 have:=anD.mp h.1 j (amN.mpr hj)
 have hm:j∈orb m m 0:=by simpa using this
 obtain⟨r,hr,e⟩:=anw hm
 rw [abS] at hr
 have e2:=ahk m m 0 r hr
 rw [amf (by rw [abS];exact hr),e] at e2
 exact⟨r,hr,(Option.some.inj e2).symm⟩
theorem ae0 {m:Nat} (h:jb m=true) {i j:Nat} (hi:i<m) (hj:j<m):∃ r,r<m/\itr m r i=j:=by
 obtain⟨a,ha,ea⟩:=acW h hi
 obtain⟨b,hb,eb⟩:=acW h hj
 have e0:itr m m 0=0:=by
  unfold jb at h
  rw [ams] at h
  exact eq_of_beq h.2
 by_cases hab:a<=b
 ·exact⟨b - a,by omega,by rw [<-ea,<- q9,show a+(b - a)=b by omega];exact eb⟩
 ·refine⟨m - a+b,by omega,?_⟩
  rw [<-ea,<- q9,show a+(m - a+b)=m+b by omega,q9,e0]
  exact eb
theorem ae1 (mask:Nat) (h:Int):∀ r,(lp mask h r).2=bits h / 32 ^ r
 | 0=>by simp [lp]
 | r+1=>by
  show (lp mask h r).2 / 32=_
  rw [ae1 mask h r,Nat.div_div_eq_div_mul,Nat.pow_succ]
theorem aiR (h:Int):bits h<2 ^ 64:=by
 unfold bits
 have:=anH h (show (0:Int)<2 ^ 64 by decide)
 have:=ao1 h (show (2 ^ 64:Int)≠0 by decide)
 omega
theorem aiS (mask:Nat) (h:Int) (r:Nat) (hr:13<=r):(lp mask h r).2=0:=by
 rw [ae1]
 refine Nat.div_eq_of_lt (amJ (aiR h) ?_)
 exact amO (show 2 ^ 64<=32 ^ 13 by decide) (Nat.pow_le_pow_right (by decide) hr)
theorem adY (mask:Nat) (h:Int):∀ r,(lp mask h (13+r)).1=itr (mask+1) r (lp mask h 13).1
 | 0=>rfl
 | r+1=>by
  show (leap mask (lp mask h (13+r)).1 (lp mask h (13+r)).2).1=stp (mask+1) (itr (mask+1) r (lp mask h 13).1)
  rw [aiS mask h (13+r) (by omega),adY mask h r]
  rfl
theorem ahl {mask:Nat} (g:jb (mask+1)=true) (h:Int) {j:Nat} (hj:j<=mask):∃ k,k<10 * turns mask/\pos mask h k=j:=by
 obtain⟨r,hr,e⟩:=ae0 g (i:=(lp mask h 13).1) (j:=j) (aoO (acT mask h 13)) (aoO hj)
 obtain⟨k,hk,a1,a2⟩:=acU mask h (13+r)
 refine⟨k,by unfold turns;omega,?_⟩
 unfold pos
 rw [a2]
 show (lp mask h (13+r)).1+0=j
 rw [adY,e]
 rfl
end L2.ST
end
section
namespace L2.ST
open PySem PySem.SetTable
structure TB (t:SetTable) (hs:List Int):Prop where
 mask:t.mask=7 \/ t.mask=31 \/ t.mask=127 \/ t.mask=511
 dum:t.dummies=#[]
 rise:acR t.place
 le:∀ i,i<t.place.size->t.place.getD i 0<=t.mask
 size:t.place.size=hs.length
 most:hs.length<=t.mask
 reach:∀ i,i<hs.length->∃ k,pos t.mask (hs.getD i 0) k=t.place.getD i 0/\∀ k',k'<k->Tk t (pos t.mask (hs.getD i 0) k')
structure TOk (t:SetTable) (hs:List Int):Prop extends TB t hs where
 room:hs.length * 5<t.mask * 3
theorem abT {t:SetTable} {hs:List Int} (o:TB t hs):jb (t.mask+1)=true:=by
 rcases o.mask with e | e | e | e <;> rw [e]
 ·exact aeZ
 ·exact acV
 ·exact abc
 ·exact abd
theorem af4 {t:SetTable} (r:acR t.place) (hs:t.place.size<=t.mask):∃ j,j<=t.mask/\¬ Tk t j:=by
 refine anl fun no=>?_
 have all:∀ j,j<=t.mask->Tk t j:=fun j hj=>anl fun z=>no ⟨j,hj,z⟩
 have up:∀ j,j<=t.mask->j<=below t.place j/\below t.place j<t.place.size:=fun j=>by
  induction j with
  | zero =>
   intro hj
   obtain⟨i,hi,e⟩:=all 0 hj
   have:=below_at r hi
   rw [e] at this
   exact⟨amT _,by omega⟩
  | succ j ih =>
   intro hj
   obtain⟨i,hi,e⟩:=all (j+1) hj
   obtain⟨i',hi',e'⟩:=all j (by omega)
   have b1:=below_at r hi
   have b2:=below_at r hi'
   rw [e] at b1
   rw [e'] at b2
   have lt:i'<i:=by
    by_cases h:i'<i
    ·exact h
    ·by_cases h2:i'=i
     ·subst h2;omega
     ·have:=r i i' (by omega) hi';omega
   have:=ih (by omega)
   omega
 have:=up t.mask (amn _)
 omega
structure First (t:SetTable) (h:Int) (E:Nat):Prop where
 lt:E<10 * turns t.mask
 free:¬ Tk t (pos t.mask h E)
 ahead:∀ k,k<E->Tk t (pos t.mask h k)
theorem least {p:Nat->Prop}:∀ n,p n->∃ m,m<=n/\p m/\∀ k,k<m->¬ p k:=fun n=>by
 induction n using Nat.strongRecOn with
 | ind n ih =>
  intro h
  by_cases q:∃ k,k<n/\p k
  ·obtain⟨k,hk,pk⟩:=q
   obtain⟨m,a,b⟩:=ih k hk pk
   exact⟨m,by omega,b⟩
  ·exact⟨n,amn _,h,fun k hk z=>q ⟨k,hk,z⟩⟩
theorem af5 {t:SetTable} (g:jb (t.mask+1)=true) (r:acR t.place) (hs:t.place.size<=t.mask) (h:Int):∃ E,First t h E:=by
 obtain⟨j,hj,nj⟩:=af4 r hs
 obtain⟨k,hk,e⟩:=ahl g h hj
 obtain⟨m,a,b,c⟩:=least (p:=fun k=>¬ Tk t (pos t.mask h k)) k (by show ¬ Tk t (pos t.mask h k);rw [e];exact nj)
 exact⟨m,by omega,b,fun q hq=>anl (c q hq)⟩
theorem first_of {t:SetTable} {hs:List Int} (o:TB t hs) (h:Int):∃ E,First t h E:=af5 (abT o) o.rise (by have:=o.size;have:=o.most;omega) h
theorem probe_go {t:SetTable} (d:t.dummies=#[]) (r:acR t.place) {hashAt:Nat->Int} {h:Int} {E:Nat} (F:First t h E):∀ f k,k<=E->E<k+f ->
  (probe.go t hashAt h f (road t.mask h k)=some (.empty (pos t.mask h E) none)/\∀ q i,k<=q->q<E->i<t.place.size->pos t.mask h q=t.place.getD i 0->hashAt i≠h) \/
  ∃ q i,k<=q/\q<E/\i<t.place.size/\pos t.mask h q=t.place.getD i 0/\hashAt i=h/\probe.go t hashAt h f (road t.mask h k)=some (.candidate (pos t.mask h q) i (road t.mask h (q+1)))/\∀ q' i',k<=q'->q'<q->i'<t.place.size->pos t.mask h q'=t.place.getD i' 0->hashAt i'≠h
 | 0,k,h1,h2=>by omega
 | f+1,k,h1,h2=>by
  unfold probe.go
  by_cases e:k=E
  ·subst e
   refine .inl ⟨?_,fun q i a b=>by omega⟩
   rw [af3 d F.free]
   show some (Met.empty _ _)=_
   rw [qO]
  ·obtain⟨i,hi,ei⟩:=F.ahead k (by omega)
   have sl:t.slot (road t.mask h k).j=.live i:=by
    have:=slot_live r hi
    rw [ei] at this
    exact this
   rw [sl]
   show (if (hashAt i == h)=true then _ else _:Option Met)=_/\_ \/ _
   have uniq:∀ i',i'<t.place.size->pos t.mask h k=t.place.getD i' 0->i'=i:=fun i' hi' e'=>by
    have b1:=below_at r hi
    have b2:=below_at r hi'
    rw [ei] at b1
    rw [<-e'] at b2
    omega
   by_cases hh:(hashAt i == h)=true
   ·rw [if_pos hh]
    refine .inr ⟨k,i,amn _,by omega,hi,ei.symm,eq_of_beq hh,?_,fun q' i' a b=>by omega⟩
    show (if (hashAt i == h)=true then _ else _:Option Met)=_
    rw [if_pos hh]
    rfl
   ·rw [if_neg hh]
    have hne:hashAt i≠h:=fun z=>hh (by rw [z];exact beq_self_eq_true _)
    rcases probe_go d r (hashAt:=hashAt) F f (k+1) (by omega) (by omega) with⟨a,b⟩ | ⟨q,i2,a1,a2,a3,a4,a5,a6,a7⟩
    ·refine .inl ⟨a,fun q i' c1 c2 c3 c4=>?_⟩
     by_cases eq:q=k
     ·subst eq;rw [uniq i' c3 c4];exact hne
     ·exact b q i' (by omega) c2 c3 c4
    ·refine .inr ⟨q,i2,by omega,a2,a3,a4,a5,?_,fun q' i' c1 c2 c3 c4=>?_⟩
     ·show (if (hashAt i == h)=true then _ else _:Option Met)=_
      rw [if_neg hh]
      exact a6
     ·by_cases eq:q'=k
      ·subst eq;rw [uniq i' c3 c4];exact hne
      ·exact a7 q' i' (by omega) c2 c3 c4
end L2.ST
end
section
namespace L2.ST
open PySem PySem.SetTable
theorem va {α:Type} (xs:Array α) (i:Nat) (d:α):xs.getD i d=xs.toList.getD i d:=by
 by_cases h:i<xs.size <;> simp [aob,h,List.getD]
theorem acX {α:Type} (l:List α) (p:Nat) (x d:α) (hp:p<=l.length) (i:Nat):(l.take p++x :: l.drop p).getD i d=if i<p then l.getD i d else if i=p then x else l.getD (i - 1) d:=by
 have lt:(l.take p).length=p:=by rw [amW];omega
 by_cases h1:i<p
 ·rw [if_pos h1,amj,amr (by omega),aow h1,amj]
 ·rw [if_neg h1,amj,amx (by omega),lt]
  by_cases h2:i=p
  ·rw [if_pos h2,h2,aoa]
   rfl
  ·rw [if_neg h2,show i - p=(i - p - 1)+1 by omega,List.getElem?_cons_succ,List.getElem?_drop,show p+(i - p - 1)=i - 1 by omega,amj]
section
variable {t:SetTable} {hs:List Int} {h:Int} {E:Nat}
theorem put_tb (o:TB t hs) (F:First t h E) (more:hs.length+1<=t.mask):below t.place (pos t.mask h E)<=hs.length/\TB (t.put (pos t.mask h E)).1 (hs.take (below t.place (pos t.mask h E))++h :: hs.drop (below t.place (pos t.mask h E))):=by
 obtain⟨b1,b2,b3⟩:=acS o.rise (pos t.mask h E)
 have sz:=o.size
 generalize hp:below t.place (pos t.mask h E)=p at *
 have hpl:p<=t.place.toList.length:=by rw [amy];exact b1
 have pl:∀ i,(t.put (pos t.mask h E)).1.place.getD i 0=if i<p then t.place.getD i 0 else if i=p then pos t.mask h E else t.place.getD (i - 1) 0:=fun i=>by
  show (insertAt t.place (below t.place (pos t.mask h E)) (pos t.mask h E)).getD i 0=_
  rw [hp,va,aox,acX _ _ _ _ hpl,va,va]
 have psz:(t.put (pos t.mask h E)).1.place.size=t.place.size+1:=by
  show (insertAt t.place (below t.place (pos t.mask h E)) (pos t.mask h E)).size=_
  rw [<-amy,aox,hp,amD,amB,amW,anW,amy]
  omega
 have ne:∀ i,i<t.place.size->t.place.getD i 0≠pos t.mask h E:=fun i hi e=>F.free ⟨i,hi,e⟩
 have b3':∀ i,p<=i->i<t.place.size->pos t.mask h E<t.place.getD i 0:=fun i a b=>by
  have:=b3 i a b
  have:=ne i b
  omega
 have hm:(t.put (pos t.mask h E)).1.mask=t.mask:=rfl
 have tk:∀ j,Tk t j->Tk (t.put (pos t.mask h E)).1 j:=fun j ⟨i,hi,e⟩=>by
  by_cases q:i<p
  ·exact⟨i,by omega,by rw [pl,if_pos q];exact e⟩
  ·exact⟨i+1,by omega,by rw [pl,if_neg (by omega),if_neg (by omega),Nat.add_sub_cancel];exact e⟩
 have hl:∀ i,(hs.take p++h :: hs.drop p).getD i 0=if i<p then hs.getD i 0 else if i=p then h else hs.getD (i - 1) 0:=fun i=>acX hs p h 0 (by omega) i
 have ln:(hs.take p++h :: hs.drop p).length=hs.length+1:=by
  rw [amD,amB,amW,anW]
  omega
 refine⟨by omega,⟨o.mask,?_,fun i j hij hj=>?_,fun i hi=>?_,by rw [psz,ln,sz],by rw [ln,hm];exact more,fun i hi=>?_⟩⟩
 ·show (if has t.dummies (pos t.mask h E)=true then _ else t.dummies)=#[]
  rw [o.dum]
  rfl
 ·rw [pl,pl]
  rw [psz] at hj
  by_cases c1:i<p
  ·rw [if_pos c1]
   by_cases c2:j<p
   ·rw [if_pos c2];exact o.rise i j hij (by omega)
   ·rw [if_neg c2]
    by_cases c3:j=p
    ·rw [if_pos c3];exact b2 i c1
    ·rw [if_neg c3];exact o.rise i (j - 1) (by omega) (by omega)
  ·rw [if_neg c1,if_neg (show ¬ j<p by omega)]
   by_cases c3:i=p
   ·rw [if_pos c3,if_neg (by omega)];exact b3' (j - 1) (by omega) (by omega)
   ·rw [if_neg c3,if_neg (by omega)];exact o.rise (i - 1) (j - 1) (by omega) (by omega)
 ·rw [pl,hm]
  rw [psz] at hi
  by_cases c1:i<p
  ·rw [if_pos c1];exact o.le i (by omega)
  ·rw [if_neg c1]
   by_cases c3:i=p
   ·rw [if_pos c3];exact abR _ _ _
   ·rw [if_neg c3];exact o.le (i - 1) (by omega)
 ·rw [hl,pl,hm]
  rw [ln] at hi
  by_cases c1:i<p
  ·rw [if_pos c1,if_pos c1]
   obtain⟨k,e,a⟩:=o.reach i (by omega)
   exact⟨k,e,fun k' hk=>tk _ (a k' hk)⟩
  ·rw [if_neg c1,if_neg c1]
   by_cases c3:i=p
   ·rw [if_pos c3,if_pos c3]
    exact⟨E,rfl,fun k' hk=>tk _ (F.ahead k' hk)⟩
   ·rw [if_neg c3,if_neg c3]
    obtain⟨k,e,a⟩:=o.reach (i - 1) (by omega)
    exact⟨k,e,fun k' hk=>tk _ (a k' hk)⟩
end
def Occ (ow:Array (Option Nat)) (j:Nat):Prop:=ow.getD j (some 0)≠none
theorem ae2 {mask:Nat} {ow:Array (Option Nat)} {h:Int}:∀ f r k,At mask h k r 0->(∃ r',r<=r'/\r'<r+f/\¬ Occ ow (lp mask h r').1) ->
  ∃ E,k<=E/\(∀ q,k<=q->q<E->Occ ow (pos mask h q))/\¬ Occ ow (pos mask h E)/\layClean.free mask ow f (lp mask h r).1 (lp mask h r).2=some (pos mask h E)
 | 0,r,k,a,⟨r',h1,h2,_⟩=>by omega
 | f+1,r,k,a,⟨r',h1,h2,h3⟩=>by
  have re:=vG mask _ (acT mask h r)
  have at_:∀ d,d<=runEnd mask (lp mask h r).1 - (lp mask h r).1->pos mask h (k+d)=(lp mask h r).1+d:=fun d hd=>by
   have:=(abQ a d hd).2
   unfold pos
   rw [this]
  unfold layClean.free
  cases hf:(amC (runEnd mask (lp mask h r).1+1 - (lp mask h r).1)).find? fun k=>(ow.getD ((lp mask h r).1+k) (some 0)).isNone with
  | some d =>
   have hm:=List.mem_of_find?_eq_some hf
   have hd:=amN.mp hm
   have hs:=List.find?_some hf
   have bef:∀ d',d'<d->¬ (ow.getD ((lp mask h r).1+d') (some 0)).isNone=true:=fun d' hd'=>by
    obtain⟨_,as,bs,e,al⟩:=List.find?_eq_some_iff_append.mp hf
    have:as=amC d:=by
     have l1:(amC (runEnd mask (lp mask h r).1+1 - (lp mask h r).1))[as.length]?=some d:=by
      rw [e,amx (amn _),aoa]
      rfl
     have lt:as.length<runEnd mask (lp mask h r).1+1 - (lp mask h r).1:=by
      have:=congrArg ap3 e
      simp at this
      omega
     rw [ani lt] at l1
     have el:as.length=d:=Option.some.inj l1
     have:as=(amC (runEnd mask (lp mask h r).1+1 - (lp mask h r).1)).take as.length:=by
      rw [e,List.take_append_of_le_length (amn _),anp]
     rw [this,List.take_range,Nat.min_eq_left (by omega),el]
    have al2:=al d' (by rw [this];exact amN.mpr hd')
    intro z
    have z2:(!(ow.getD ((lp mask h r).1+d') (some 0)).isNone)=true:=al2
    rw [z] at z2
    cases z2
   refine⟨k+d,by omega,fun q hq1 hq2=>?_,?_,?_⟩
   ·have:=bef (q - k) (by omega)
    rw [show q=k+(q - k) by omega,at_ (q - k) (by omega)]
    intro z
    rw [z] at this
    exact this rfl
   ·rw [at_ d (by omega)]
    intro z
    have hs':(ow.getD ((lp mask h r).1+d) (some 0)).isNone=true:=hs
    exact z (Option.isNone_iff_eq_none.mp hs')
   ·rw [at_ d (by omega)]
  | none =>
   have all:∀ d,d<runEnd mask (lp mask h r).1+1 - (lp mask h r).1->Occ ow ((lp mask h r).1+d):=fun d hd z=>by
    have:=List.find?_eq_none.mp hf d (amN.mpr hd)
    simp [z] at this
   have ne:r'≠r:=fun z=>by
    rw [z] at h3
    exact h3 (by have:=all 0 (by omega);rwa [Nat.add_zero] at this)
   have a2:=abP (abQ a _ (amn _)) rfl
   obtain⟨E,e1,e2,e3,e4⟩:=ae2 f (r+1) _ a2 ⟨r',by omega,by omega,h3⟩
   refine⟨E,by omega,fun q hq1 hq2=>?_,e3,e4⟩
   by_cases hq:q<k+(runEnd mask (lp mask h r).1 - (lp mask h r).1)+1
   ·rw [show q=k+(q - k) by omega,at_ (q - k) (by omega)]
    exact all _ (by omega)
   ·exact e2 q (by omega) hq2
end L2.ST
end
section
namespace L2.ST
open PySem PySem.SetTable
structure OwnT (mask:Nat) (ow:Array (Option Nat)) (hs:List Int) (sl:List Nat):Prop where
 size:ow.size=mask+1
 len:sl.length=hs.length
 nd:sl.Nodup
 le:∀ j∈sl,j<=mask
 own:∀ j,j<=mask->∀ i,ow.getD j none=some i↔sl[i]?=some j
 reach:∀ i,i<hs.length->∃ q,pos mask (hs.getD i 0) q=sl.getD i 0/\∀ q',q'<q->pos mask (hs.getD i 0) q'∈sl
theorem OwnT.occ {mask:Nat} {ow:Array (Option Nat)} {hs:List Int} {sl:List Nat} (o:OwnT mask ow hs sl) {j:Nat} (hj:j<=mask):Occ ow j↔j∈sl:=by
 have hs':j<ow.size:=by rw [o.size];omega
 have e:ow.getD j (some 0)=ow.getD j none:=by simp [aob,hs']
 unfold Occ
 rw [e]
 constructor
 ·intro h
  obtain⟨i,hi⟩:=Option.ne_none_iff_exists'.mp h
  exact amw ((o.own j hj i).mp hi)
 ·intro h z
  obtain⟨i,hi,e2⟩:=anw h
  have:=(o.own j hj i).mpr (by rw [amf hi,e2])
  rw [z] at this
  cases this
def ae3 (mask:Nat):Option (Array (Option Nat)×Nat)->Int->Option (Array (Option Nat)×Nat):=fun acc h=>do
  let (owner,k) <- acc
  let j <- layClean.free mask owner (turns mask) (bits h % (mask+1)) (bits h)
  pure (owner.setIfInBounds j (some k),k+1)
theorem ahm {mask:Nat} (g:jb (mask+1)=true) {ow:Array (Option Nat)} {hs:List Int} {sl:List Nat} (o:OwnT mask ow hs sl) (hm:hs.length<=mask) (h:Int) :
  ∃ ow' sl',ae3 mask (some (ow,hs.length)) h=some (ow',hs.length+1)/\OwnT mask ow' (hs++[h]) sl':=by
 obtain⟨j,hj,nj⟩:∃ j,j<=mask/\j∉sl:=by
  refine anl fun no=>?_
  have sub:amC (mask+1) ⊆ sl:=fun j hj=>anl fun z=>no ⟨j,ao0.mp (amN.mp hj),z⟩
  have:=List.Nodup.length_le_of_subset apt sub
  rw [amX,o.len] at this
  omega
 obtain⟨r,hr,e⟩:=ae0 g (i:=(lp mask h 13).1) (j:=j) (aoO (acT mask h 13)) (aoO hj)
 obtain⟨E,_,e2,e3,e4⟩:=ae2 (ow:=ow) (turns mask) 0 0 (abO mask h) ⟨13+r,amT _,by unfold turns;omega,by rw [adY,e,o.occ hj];exact nj⟩
 have e3':pos mask h E∉sl:=fun z=>e3 ((o.occ (abR mask h E)).mpr z)
 have e2':∀ q,q<E->pos mask h q∈sl:=fun q hq=>(o.occ (abR mask h q)).mp (e2 q (amT _) hq)
 have e4':layClean.free mask ow (turns mask) (bits h % (mask+1)) (bits h)=some (pos mask h E):=e4
 refine⟨ow.setIfInBounds (pos mask h E) (some hs.length),sl++[pos mask h E],?_,?_⟩
 ·show (layClean.free mask ow (turns mask) (bits h % (mask+1)) (bits h) >>= fun j=>pure (ow.setIfInBounds j (some hs.length),hs.length+1))=_
  rw [e4']
  rfl
 ·have ls:∀ i,(sl++[pos mask h E])[i]?=if i<sl.length then sl[i]? else if i=sl.length then some (pos mask h E) else none:=fun i=>by
   by_cases c:i<sl.length
   ·rw [if_pos c,amr c]
   ·rw [if_neg c,amx (by omega)]
    by_cases c2:i=sl.length
    ·rw [if_pos c2,c2,aoa];rfl
    ·rw [if_neg c2];exact amL (by simp;omega)
  refine⟨by rw [Array.size_setIfInBounds];exact o.size,by simp [o.len],?_,fun j hj=>?_,fun j hj i=>?_,fun i hi=>?_⟩
  ·rw [aoh]
   refine⟨o.nd,by simp,fun a ha b hb=>?_⟩
   rw [amM.mp hb]
   intro z
   rw [z] at ha
   exact e3' ha
  ·rcases am4.mp hj with hj | hj
   ·exact o.le j hj
   ·rw [amM.mp hj];exact abR _ _ _
  ·have hsz:j<ow.size:=by rw [o.size];omega
   rw [ls]
   by_cases c:j=pos mask h E
   ·subst c
    have:(ow.setIfInBounds (pos mask h E) (some hs.length)).getD (pos mask h E) none=some hs.length:=by simp [aob,hsz]
    rw [this]
    constructor
    ·intro z
     have z':hs.length=i:=Option.some.inj z
     rw [if_neg (by rw [o.len];omega),if_pos (by rw [o.len];omega)]
    ·intro z
     by_cases c2:i<sl.length
     ·rw [if_pos c2] at z
      exact absurd (amw z) e3'
     ·rw [if_neg c2] at z
      by_cases c3:i=sl.length
      ·rw [c3,o.len]
      ·rw [if_neg c3] at z;cases z
   ·have:(ow.setIfInBounds (pos mask h E) (some hs.length)).getD j none=ow.getD j none:=by
     rw [anA,anA,Array.getElem?_setIfInBounds_ne (anq c)]
    rw [this,o.own j hj i]
    by_cases c2:i<sl.length
    ·rw [if_pos c2]
    ·rw [if_neg c2]
     constructor
     ·intro z
      rw [amL (by omega)] at z
      cases z
     ·intro z
      by_cases c3:i=sl.length
      ·rw [if_pos c3] at z
       exact absurd (Option.some.inj z).symm c
      ·rw [if_neg c3] at z;cases z
  ·have gl:∀ i,(hs++[h]).getD i 0=if i<hs.length then hs.getD i 0 else if i=hs.length then h else 0:=fun i=>by
    by_cases c:i<hs.length
    ·rw [if_pos c,amj,amr c,amj]
    ·rw [if_neg c,amj,amx (by omega)]
     by_cases c2:i=hs.length
     ·rw [if_pos c2,c2,aoa];rfl
     ·rw [if_neg c2,amL (by simp;omega)];rfl
   rw [amD,amY] at hi
   have gs:(sl++[pos mask h E]).getD i 0=((sl++[pos mask h E])[i]?).getD 0:=amj ..
   rw [gl,gs,ls]
   by_cases c:i<hs.length
   ·rw [if_pos c,if_pos (by rw [o.len];exact c)]
    obtain⟨q,a,b⟩:=o.reach i c
    exact⟨q,by rw [<-amj];exact a,fun q' hq=>anf _ (b q' hq)⟩
   ·rw [if_neg c,if_pos (by omega),if_neg (by rw [o.len];omega),if_pos (by rw [o.len];omega)]
    exact⟨E,rfl,fun q' hq=>anf _ (e2' q' hq)⟩
theorem ae4 {mask:Nat} (g:jb (mask+1)=true):∀ (l:List Int) (ow:Array (Option Nat)) (hs:List Int) (sl:List Nat),OwnT mask ow hs sl->hs.length+l.length<=mask+1 ->
  ∃ ow' sl',l.foldl (ae3 mask) (some (ow,hs.length))=some (ow',hs.length+l.length)/\OwnT mask ow' (hs++l) sl'
 | [],ow,hs,sl,o,_=>⟨ow,sl,rfl,by rw [anj];exact o⟩
 | h :: l,ow,hs,sl,o,hm=>by
  rw [amB] at hm
  obtain⟨ow1,sl1,e1,o1⟩:=ahm g o (by omega) h
  obtain⟨ow2,sl2,e2,o2⟩:=ae4 g l ow1 (hs++[h]) sl1 o1 (by rw [amD,amY];omega)
  refine⟨ow2,sl2,?_,by rw [aoi] at o2;exact o2⟩
  rw [List.foldl_cons,e1]
  rw [amD,amY] at e2
  rw [e2,amB,apn,Nat.add_comm 1]
theorem aiT (mask:Nat):OwnT mask (ao2 (mask+1) none) [] [] where
 size:=by simp
 len:=rfl
 nd:=.nil
 le:=fun _ h=>nomatch h
 own:=fun j hj i=>by
  have:(ao2 (mask+1) (none:Option Nat)).getD j none=none:=by simp [aob]
  rw [this]
  constructor <;> intro z <;> cases z
 reach:=fun i hi=>absurd hi (ank _)
theorem ahn {mask:Nat} (g:jb (mask+1)=true) (hs:Array Int) (hm:hs.size<=mask+1):∃ ow sl,layClean mask hs=some ow/\OwnT mask ow hs.toList sl:=by
 obtain⟨ow,sl,e,o⟩:=ae4 g hs.toList _ [] [] (aiT mask) (by simpa using hm)
 refine⟨ow,sl,?_,by simpa using o⟩
 unfold layClean
 rw [<-Array.foldl_toList]
 have:hs.toList.foldl (ae3 mask) (some (ao2 (mask+1) none,0))=some (ow,0+hs.toList.length):=e
 show Option.map _ (hs.toList.foldl (ae3 mask) (some (ao2 (mask+1) none,0)))=_
 rw [this]
 rfl
theorem laid_ok {mask:Nat} (mk:mask=7 \/ mask=31 \/ mask=127 \/ mask=511) (hs:Array Int) (hm:hs.size<=mask) (finger moves:Nat) (led plain:Bool) :
  ∃ t ord,laid mask finger moves led plain hs=some (t,ord)/\t.mask=mask/\t.plain=plain/\t.led=led/\ord.toList.Perm (amC hs.size)/\TB t (ord.toList.map fun i=>hs.toList.getD i 0):=by
 have g:jb (mask+1)=true:=by
  rcases mk with rfl | rfl | rfl | rfl
  ·exact aeZ
  ·exact acV
  ·exact abc
  ·exact abd
 obtain⟨ow,sl,e,o⟩:=ahn g hs (by omega)
 let live:=(amC (mask+1)).filterMap fun j=>(ow.getD j none).map (j,·)
 have mem:∀ p:Nat×Nat,p∈live↔p.1<=mask/\sl[p.2]?=some p.1:=fun⟨j,i⟩=>by
  show (j,i)∈List.filterMap _ _↔_
  rw [apb]
  constructor
  ·rintro⟨j',hj,e⟩
   have hj':=ao0.mp (amN.mp hj)
   cases e2:ow.getD j' none with
   | none=>rw [e2] at e;cases e
   | some i' =>
    rw [e2] at e
    cases e
    exact⟨hj',(o.own _ hj' _).mp e2⟩
  ·rintro⟨h1,h2⟩
   refine⟨j,amN.mpr (by omega),?_⟩
   rw [(o.own j h1 i).mpr h2]
   rfl
 have up:(live.map (·.1)).Pairwise (·<·):=by
  rw [ant]
  show (List.filterMap _ _).Pairwise _
  rw [List.pairwise_filterMap]
  refine List.pairwise_lt_range.imp fun {a b} hab p hp q hq=>?_
  cases e1:ow.getD a none with
  | none=>rw [e1] at hp;cases hp
  | some i =>
   cases e2:ow.getD b none with
   | none=>rw [e2] at hq;cases hq
   | some i2 =>
    rw [e1] at hp
    rw [e2] at hq
    cases hp
    cases hq
    exact hab
 have nd2:(live.map (·.2)).Nodup:=by
  show List.Pairwise _ _
  rw [ant]
  have u2:=ant.mp up
  refine u2.imp_of_mem fun {p q} hp hq hlt hz=>?_
  have a1:=((mem p).mp hp).2
  have a2:=((mem q).mp hq).2
  rw [hz,a2] at a1
  have:=Option.some.inj a1
  omega
 have pm:(live.map (·.2)).Perm (amC hs.size):=by
  refine (List.perm_ext_iff_of_nodup nd2 apt).mpr fun i=>?_
  have ls:sl.length=hs.size:=by rw [o.len,amy]
  constructor
  ·intro hi
   obtain⟨p,hp,rfl⟩:=amz.mp hi
   have:=(ami.mp ((mem p).mp hp).2).1
   exact amN.mpr (by omega)
  ·intro hi
   have hi':=amN.mp hi
   have hl:i<sl.length:=by omega
   exact amz.mpr ⟨(sl[i],i),(mem _).mpr ⟨o.le _ (amE hl),amf hl⟩,rfl⟩
 refine⟨_,_,by unfold laid;rw [e];rfl,rfl,rfl,rfl,pm,?_⟩
 have ln:live.length=hs.size:=by have:=pm.length_eq;rwa [amg,amX] at this
 have tk:∀ j,j∈sl->∃ i,i<live.length/\(live.map (·.1)).getD i 0=j:=fun j hj=>by
  obtain⟨i,hi,e2⟩:=anw hj
  have:(j,i)∈live:=(mem _).mpr ⟨o.le j hj,by rw [amf hi,e2]⟩
  obtain⟨q,hq,e3⟩:=anw this
  exact⟨q,hq,by rw [amj,aml,amf hq,e3];rfl⟩
 have gd:∀ i,(live.map (·.1)).toArray.getD i 0=(live.map (·.1)).getD i 0:=fun i=>by rw [va]
 refine⟨mk,rfl,fun i j hij hj=>?_,fun i hi=>?_,?_,?_,fun i hi=>?_⟩
 ·show (live.map (·.1)).toArray.getD i 0<(live.map (·.1)).toArray.getD j 0
  have hj':j<(live.map (·.1)).length:=by
   have h2:j<(live.map (·.1)).toArray.size:=hj
   rwa [amv] at h2
  rw [gd,gd,amj,amj,amf hj',amf (show i<(live.map (·.1)).length by omega)]
  exact anL.mp up i j (by omega) hj' hij
 ·show (live.map (·.1)).toArray.getD i 0<=mask
  have hi':i<(live.map (·.1)).length:=by
   have h2:i<(live.map (·.1)).toArray.size:=hi
   rwa [amv] at h2
  rw [gd,amj,amf hi']
  obtain⟨p,hp,e2⟩:=amz.mp (amE hi')
  show (live.map (·.1))[i]<=mask
  rw [<-e2]
  exact ((mem p).mp hp).1
 ·show (live.map (·.1)).toArray.size=_
  simp
 ·show (apv _ (live.map (·.2))).length<=mask
  rw [amg,amg,ln]
  exact hm
 ·have hi':i<live.length:=by
   have hi2:i<(apv (fun i=>hs.toList.getD i 0) (live.map (·.2))).length:=hi
   rwa [amg,amg] at hi2
  have pl:(live.map (·.1)).toArray.getD i 0=live[i].1:=by
   rw [gd,amj,aml,amf hi']
   rfl
  have hh:(apv (fun i=>hs.toList.getD i 0) (live.map (·.2))).getD i 0=hs.toList.getD live[i].2 0:=by
   rw [amj,aml,aml,amf hi']
   rfl
  have m2:=(mem live[i]).mp (amE hi')
  have l2:=(ami.mp m2.2).1
  obtain⟨q,a,b⟩:=o.reach live[i].2 (by rw [<-o.len];exact l2)
  refine⟨q,?_,fun q' hq=>?_⟩
  ·show pos mask ((apv (fun i=>hs.toList.getD i 0) (live.map (·.2))).getD i 0) q=(live.map (·.1)).toArray.getD i 0
   rw [hh,pl,a,amj,m2.2]
   rfl
  ·show Tk _ (pos mask ((apv (fun i=>hs.toList.getD i 0) (live.map (·.2))).getD i 0) q')
   rw [hh]
   obtain⟨z,hz,ez⟩:=tk _ (b q' hq)
   exact⟨z,by show z<(live.map (·.1)).toArray.size;simpa using hz,by show (live.map (·.1)).toArray.getD z 0=_;rw [gd];exact ez⟩
end L2.ST
end
section
namespace L2
open PySem PySem.Spec PyProof.Rows
mutual
def zo (w:World):PyData->Int
 | .int i=>hashInt i
 | .str x=>hashStr w x
 | .tuple xs=>reduceHash (anM (jT w xs))
 | _=>0
def jT (w:World):List PyData->List Int
 | []=>[]
 | x :: xs=>zo w x :: jT w xs
end
mutual
def zO:PyData->Nat
 | .int _=>1
 | .str _=>1
 | .tuple xs=>aax xs+1
 | _=>0
def aax:List PyData->Nat
 | []=>0
 | x :: xs=>zO x+aax xs
end
mutual
theorem aay {P:Program} {w:World}:∀ (d:PyData) (A:Around) (s:Shared) (v:Value) (as:List Addr) (E:Value->Shared->Prop) (Q:Int->Shared->Prop),Reads s.heap v d as->zq d=true->A.units+4 * d.depth<cLine ->
  Q (zo w d) { s with toks:=s.toks+zO d }->wpAny (model P w) A (pyHash v) Q E s
 | .int i,A,s,_,_,E,Q,r,_,_,q=>by
  cases r
  rw [zo,zO] at q
  exact wpAny_pyHash_int q
 | .str x,A,s,_,_,E,Q,r,_,_,q=>by
  cases r
  rw [zo,zO] at q
  exact wpAny_pyHash_str q
 | .tuple xs,A,s,_,_,E,Q,r,p,hu,q=>by
  cases r with
  | @tuple a o vs n _ as h1 h2 h3 h4 =>
   rw [zq] at p
   rw [zo,zO] at q
   have hT:s.TypeIs (.ref a) "tuple":=⟨o,h1,h2⟩
   have e1:(PyData.tuple xs).depth=amt xs+1:=rfl
   rw [e1] at hu
   show wpAny _ A (pyHashByItsType (.ref a)) Q E s
   unfold pyHashByItsType
   apply wpAny_bind;apply wpAny_cRoomFor_or (.inr (by omega))
   apply wpAny_bind;apply wpAny_specialOf hT anu.lookup
   show wpAny _ _ (if (some (Value.builtin "tuple.__hash__") == some Value.none)=true then _ else _) Q E s
   rw [if_neg (by rw [beq_builtin_none];exact amh)]
   apply wpAny_bind;apply wpAny_specialOf hT anu.lookup
   show wpAny _ _ (callSpecialIfBoundUnlessNone? (.ref a) "__hash__" _ >>= _) Q E s
   apply wpAny_bind
   refine wpAny_callSpecialIfBoundUnlessNone?_slot hT anu (wpAny_call_entry anu hT PySem.F.entry_tuple_hash ?_ (PySem.F.args_tuple_hash_1 _))
   show wpAny _ _ (Builtin.Tuple.tupleItemsOf (.ref a) >>= _) _ _ s
   apply wpAny_bind;apply wpAny_tupleItemsOf h1 h3
   apply wpAny_bind
   rw [<-aoC]
   have hu1:A.in1.units=A.units+1:=rfl
   refine aaz xs A.in1 s vs.toList _ #[] _ _ h4 p (by omega) ?_
   simp only [anj,List.nil_append]
   show wpAny _ _ (retInt (anM (#[]++(jT w xs).toArray).toList)) _ _ _
   rw [show (#[]++(jT w xs).toArray:Array Int).toList=jT w xs by simp]
   refine wpAny_ret_mkInt ?_
   show wpAny _ _ (pyHashByItsType.reduced _) Q E _
   unfold reduceHash at q
   unfold pyHashByItsType.reduced
   by_cases hr:(decide (-(2:Int) ^ 63<=anM (jT w xs)) && decide (anM (jT w xs)<2 ^ 63))=true
   ·rw [if_pos hr] at q ⊢
    exact wpAny_pure (by simpa [apn] using q)
   ·rw [if_neg hr] at q ⊢
    exact wpAny_bind (wpAny_rule (wpAny_pure (by simpa [apn] using q)))
 | .none,_,_,_,_,_,_,_,h,_,_=>by cases h
 | .bool _,_,_,_,_,_,_,_,h,_,_=>by cases h
 | .list _,_,_,_,_,_,_,_,h,_,_=>by cases h
 | .dict _,_,_,_,_,_,_,_,h,_,_=>by cases h
theorem aaz {P:Program} {w:World}:∀ (xs:List PyData) (A:Around) (s:Shared) (vs:List Value) (as:List Addr) (acc:Array Int) (E:Value->Shared->Prop) (Q:Array Int->Shared->Prop),ReadsAll s.heap vs xs as->zB xs=true->A.units+4 * amt xs<cLine ->
  Q (acc++(jT w xs).toArray) { s with toks:=s.toks+aax xs }->wpAny (model P w) A (forIn vs acc fun x r=>do
   let h <- pyHash x
   pure (ForInStep.yield (r.push h))) Q E s
 | [],A,s,_,_,acc,E,Q,r,_,_,q=>by
  cases r
  rw [aoK]
  rw [jT,aax] at q
  exact wpAny_pure (by simpa using q)
 | x :: xs,A,s,_,_,acc,E,Q,r,p,hu,q=>by
  cases r with
  | cons r1 r2 =>
   rw [zB,ams] at p
   rw [jT,aax] at q
   have e1:amt (x :: xs)=max x.depth (amt xs):=rfl
   rw [e1] at hu
   rw [aoA]
   apply wpAny_bind;apply wpAny_bind
   refine aay x A s _ _ _ _ r1 p.1 (by omega) (wpAny_pure ?_)
   refine aaz xs A { s with toks:=s.toks+zO x } _ _ _ _ _ r2 p.2 (by omega) ?_
   have e2:acc.push (zo w x)++(jT w xs).toArray=acc++(zo w x :: jT w xs).toArray:=by simp
   rw [e2]
   rw [<-apn] at q
   exact q
end
mutual
theorem jh {P:Program} {w:World}:∀ (d:PyData) (n:Nat) (A:Around) (s:Shared) (v:Value) (as:List Addr) (E:Value->Shared->Prop) (Q:Bool->Shared->Prop),Reads s.heap v d as->zq d=true->d.depth<=n->Q true s->wpAny (model P w) A (eqIsQuiet n v) Q E s
 | .int i,n,A,s,_,_,E,Q,r,_,_,q=>by
  cases r
  rw [eqIsQuiet_byValue n rfl]
  exact wpAny_pure q
 | .str x,n,A,s,_,_,E,Q,r,_,_,q=>by
  cases r
  rw [eqIsQuiet_byValue n rfl]
  exact wpAny_pure q
 | .tuple xs,n,A,s,_,_,E,Q,r,p,hn,q=>by
  cases r with
  | @tuple a o vs n' _ as h1 h2 h3 h4 =>
   rw [zq] at p
   have e1:(PyData.tuple xs).depth=amt xs+1:=rfl
   rw [e1] at hn
   obtain⟨m,rfl⟩:∃ m,n=m+1:=⟨n - 1,by omega⟩
   have hT:s.TypeIs (.ref a) "tuple":=⟨o,h1,h2⟩
   unfold eqIsQuiet
   apply wpAny_bind;apply wpAny_specialOf hT PySem.F.slot_tuple_eq.lookup
   show wpAny _ _ (isInstance (.ref a) (.type "tuple") >>= _) _ _ s
   apply wpAny_bind;apply wpAny_isInstance hT isSubtype_tuple_tuple
   simp only [am5,amR,if_false]
   apply wpAny_bind;apply wpAny_seqItems h1 h3
   apply wpAny_bind
   show wpAny _ _ (forIn vs _ _) _ _ s
   rw [<-aoC]
   exact vR xs m A s _ _ _ _ h4 p (by omega) (wpAny_pure q)
 | .none,_,_,_,_,_,_,_,_,h,_,_=>by cases h
 | .bool _,_,_,_,_,_,_,_,_,h,_,_=>by cases h
 | .list _,_,_,_,_,_,_,_,_,h,_,_=>by cases h
 | .dict _,_,_,_,_,_,_,_,_,h,_,_=>by cases h
theorem vR {P:Program} {w:World}:∀ (xs:List PyData) (m:Nat) (A:Around) (s:Shared) (vs:List Value) (as:List Addr) (E:Value->Shared->Prop) (Q:Option Bool×Unit->Shared->Prop),ReadsAll s.heap vs xs as->zB xs=true->amt xs<=m->Q (none,()) s ->
  wpAny (model P w) A (forIn vs ((none,()):Option Bool×Unit) fun y _=>do
   let b <- eqIsQuiet m y
   if (!b)=true then pure (ForInStep.done (some false,())) else pure (ForInStep.yield (none,()))) Q E s
 | [],m,A,s,_,_,E,Q,r,_,_,q=>by
  cases r
  rw [aoK]
  exact wpAny_pure q
 | x :: xs,m,A,s,_,_,E,Q,r,p,hn,q=>by
  cases r with
  | cons r1 r2 =>
   rw [zB,ams] at p
   have e1:amt (x :: xs)=max x.depth (amt xs):=rfl
   rw [e1] at hn
   rw [aoA]
   apply wpAny_bind;apply wpAny_bind
   refine jh x m A s _ _ _ _ r1 p.1 (by omega) ?_
   simp only [am5,amR,if_false]
   exact wpAny_pure (vR xs m A s _ _ _ _ r2 p.2 (by omega) q)
end
mutual
theorem vH {P:Program} {w:World}:∀ (d:PyData) (n:Nat) (A:Around) (s:Shared) (v:Value) (as:List Addr) (E:Value->Shared->Prop) (Q:Bool->Shared->Prop),Reads s.heap v d as->zq d=true->d.depth<=n->Q false s->wpAny (model P w) A (ofAClassStatement n v) Q E s
 | .int i,n,A,s,_,_,E,Q,r,_,_,q=>by
  cases r
  unfold ofAClassStatement
  exact wpAny_pure q
 | .str x,n,A,s,_,_,E,Q,r,_,_,q=>by
  cases r
  unfold ofAClassStatement
  exact wpAny_pure q
 | .tuple xs,n,A,s,_,_,E,Q,r,p,hn,q=>by
  cases r with
  | @tuple a o vs n' _ as h1 h2 h3 h4 =>
   rw [zq] at p
   have e1:(PyData.tuple xs).depth=amt xs+1:=rfl
   rw [e1] at hn
   obtain⟨m,rfl⟩:∃ m,n=m+1:=⟨n - 1,by omega⟩
   have hT:s.TypeIs (.ref a) "tuple":=⟨o,h1,h2⟩
   unfold ofAClassStatement
   apply wpAny_bind;apply wpAny_typeOf hT
   dsimp only
   rw [if_pos (show ("tuple" == "tuple")=true from rfl)]
   apply wpAny_bind;apply wpAny_pure
   simp only [am5,amR,if_false]
   apply wpAny_bind;apply wpAny_seqItems h1 h3
   dsimp only
   apply wpAny_bind
   rw [<-aoC]
   exact abe xs m A s _ _ _ _ h4 p (by omega) (wpAny_pure q)
 | .none,_,_,_,_,_,_,_,_,h,_,_=>by cases h
 | .bool _,_,_,_,_,_,_,_,_,h,_,_=>by cases h
 | .list _,_,_,_,_,_,_,_,_,h,_,_=>by cases h
 | .dict _,_,_,_,_,_,_,_,_,h,_,_=>by cases h
theorem abe {P:Program} {w:World}:∀ (xs:List PyData) (m:Nat) (A:Around) (s:Shared) (vs:List Value) (as:List Addr) (E:Value->Shared->Prop) (Q:Option Bool×Unit->Shared->Prop),ReadsAll s.heap vs xs as->zB xs=true->amt xs<=m->Q (none,()) s ->
  wpAny (model P w) A (forIn vs ((none,()):Option Bool×Unit) fun y _=>do
   let b <- ofAClassStatement m y
   if b=true then pure (ForInStep.done (some true,())) else pure (ForInStep.yield (none,()))) Q E s
 | [],m,A,s,_,_,E,Q,r,_,_,q=>by
  cases r
  rw [aoK]
  exact wpAny_pure q
 | x :: xs,m,A,s,_,_,E,Q,r,p,hn,q=>by
  cases r with
  | cons r1 r2 =>
   rw [zB,ams] at p
   have e1:amt (x :: xs)=max x.depth (amt xs):=rfl
   rw [e1] at hn
   rw [aoA]
   apply wpAny_bind;apply wpAny_bind
   refine vH x m A s _ _ _ _ r1 p.1 (by omega) ?_
   simp only [amR,if_false]
   exact wpAny_pure (abe xs m A s _ _ _ _ r2 p.2 (by omega) q)
end
mutual
theorem vS {P:Program} {w:World}:∀ (d:PyData) (n:Nat) (A:Around) (s:Shared) (v:Value) (as:List Addr) (E:Value->Shared->Prop) (Q:Bool->Shared->Prop),Reads s.heap v d as->zq d=true->(∀ b,Q b s)->wpAny (model P w) A (hashByValue n v) Q E s
 | .int i,n,A,s,_,_,E,Q,r,_,q=>by
  cases r
  unfold hashByValue
  exact wpAny_pure (q _)
 | .str x,n,A,s,_,_,E,Q,r,_,q=>by
  cases r
  unfold hashByValue
  exact wpAny_pure (q _)
 | .tuple xs,n,A,s,_,_,E,Q,r,p,q=>by
  cases r with
  | @tuple a o vs n' _ as h1 h2 h3 h4 =>
   rw [zq] at p
   have hT:s.TypeIs (.ref a) "tuple":=⟨o,h1,h2⟩
   cases n with
   | zero =>
    unfold hashByValue
    exact wpAny_pure (q _)
   | succ m =>
    unfold hashByValue
    apply wpAny_bind;apply wpAny_specialOf hT anu.lookup
    show wpAny _ _ (seqItems? (.ref a) >>= _) _ _ s
    apply wpAny_bind;apply wpAny_seqItems h1 h3
    apply wpAny_bind
    show wpAny _ _ (forIn vs _ _) _ _ s
    rw [<-aoC]
    exact vT xs m A s _ _ _ _ h4 p (wpAny_pure (q _)) fun b=>wpAny_pure (q b)
 | .none,_,_,_,_,_,_,_,_,h,_=>by cases h
 | .bool _,_,_,_,_,_,_,_,_,h,_=>by cases h
 | .list _,_,_,_,_,_,_,_,_,h,_=>by cases h
 | .dict _,_,_,_,_,_,_,_,_,h,_=>by cases h
theorem vT {P:Program} {w:World}:∀ (xs:List PyData) (m:Nat) (A:Around) (s:Shared) (vs:List Value) (as:List Addr) (E:Value->Shared->Prop) (Q:Option Bool×Unit->Shared->Prop),ReadsAll s.heap vs xs as->zB xs=true->Q (none,()) s->(∀ b,Q (some b,()) s) ->
  wpAny (model P w) A (forIn vs ((none,()):Option Bool×Unit) fun y _=>do
   let b <- hashByValue m y
   if (!b)=true then pure (ForInStep.done (some false,())) else pure (ForInStep.yield (none,()))) Q E s
 | [],m,A,s,_,_,E,Q,r,_,q,_=>by
  cases r
  rw [aoK]
  exact wpAny_pure q
 | x :: xs,m,A,s,_,_,E,Q,r,p,q,q2=>by
  cases r with
  | cons r1 r2 =>
   rw [zB,ams] at p
   rw [aoA]
   apply wpAny_bind;apply wpAny_bind
   refine vS x m A s _ _ _ _ r1 p.1 fun b=>?_
   cases b with
   | true =>
    simp only [am5,amR,if_false]
    exact wpAny_pure (vT xs m A s _ _ _ _ r2 p.2 q q2)
   | false =>
    simp only [ape,if_true]
    exact wpAny_pure (wpAny_pure (q2 false))
end
noncomputable instance decPy:DecidableEq PyData:=fun a b=>am6 _
structure KeyAt (h:Heap) (d:PyData) (a:Addr):Prop where
 rd:∃ as,Reads h (.ref a) d as
 pl:zq d=true
 dp:d.depth<=8
theorem KeyAt.keep {h h':Heap} {d:PyData} {a:Addr} (x:KeyAt h d a) (k:∀ b o,h.get? b=some o->(∀ es ep,o.data≠.dict es ep)->(∀ es ep t,o.data≠.set es ep t)->h'.get? b=some o):KeyAt h' d a:=by
 obtain⟨⟨as,r⟩,p,q⟩:=x
 refine⟨?_,p,q⟩
 have go:(∀ (d:PyData) (v:Value) (as:List Addr),Reads h v d as->zq d=true->Reads h' v d as):=by
  intro d v as r
  refine Reads.rec (motive_1:=fun v d as _=>zq d=true->Reads h' v d as) (motive_2:=fun vs ds as _=>zB ds=true->ReadsAll h' vs ds as) ?_ ?_ ?_ ?_ ?_ ?_ ?_ ?_ ?_ r
  ·intro p;cases p
  ·intro b p;cases p
  ·intro i t p;exact .int i t
  ·intro x t p;exact .str x t
  ·intro a o vs n xs as h1 h2 h3 h4 ih p;cases p
  ·intro a o vs n xs as h1 h2 h3 h4 ih p
   rw [zq] at p
   exact .tuple (k a o h1 (fun es ep z=>by rw [h3] at z;cases z) (fun es ep t z=>by rw [h3] at z;cases z)) h2 h3 (ih p)
  ·intros;rename_i p;cases p
  ·intro p;exact .nil
  ·intro v vs d ds as bs r rs ih1 ih2 p
   rw [zB,ams] at p
   exact .cons (ih1 p.1) (ih2 p.2)
 exact⟨as,go d _ as r p⟩
noncomputable def v5 (P:Program) (w:World):HeapKind P w PyData where
 is:=KeyAt
 hash:=zo w
 draws:=zO
 room:=fun A=>A.units+40<cLine
 inj:=fun {h a x y} hx hy=>by
  obtain⟨⟨as,r⟩,p,_⟩:=hx
  obtain⟨⟨bs,r'⟩,p',_⟩:=hy
  exact SeqAt.Reads.unique _ _ _ _ _ (yp x p) r r'
 keeps:=fun {h h' k a d o es ep} x ho hd sb=>x.keep fun b u hb n1 n2=>by
  have:b≠d:=fun z=>by
   rw [z,ho] at hb
   cases hb
   exact n1 es ep hd
  exact (sb.2 b this).trans hb
 pyHash:=fun {A E s k a Q} hu x q=>by
  obtain⟨⟨as,r⟩,p,hd⟩:=x
  exact aay k A s _ as E Q r p (by omega) q
 eqBool:=fun {A E s x y a b Q} hu hx hy q=>by
  obtain⟨⟨as,r⟩,p,hd⟩:=hx
  obtain⟨⟨bs,r'⟩,p',hd'⟩:=hy
  refine SeqAt.eqAt_reads x y A s _ _ _ _ r r' (yp x p) (yp y p') (by omega) P w E Q ?_
  have:amI x y=decide (x=y):=by
   by_cases e:x=y
   ·rw [decide_eq_true e];exact (v3 p p').mpr e
   ·rw [decide_eq_false e]
    cases z:amI x y with
    | false=>rfl
    | true=>exact absurd ((v3 p p').mp z) e
  rw [this]
  exact q
 quiet:=fun {A E s k a Q} x q=>by
  obtain⟨⟨as,r⟩,p,hd⟩:=x
  exact jh k 8 A s _ as E Q r p hd q
end L2
end
section
namespace L2
open PySem PySem.Spec PyProof.Rows PySem.SetTable
section
variable {P:Program} {w:World} {A:Around} {E:Value->Shared->Prop} {s:Shared}
theorem aiU {b:Addr} {d:PyData} {Q:Bool->Shared->Prop} (kb:KeyAt s.heap d b):∀ l:List Value,(∀ y∈l,∃ d' b',y=.ref b'/\KeyAt s.heap d' b')->Q false s->wpAny (model P w) A (searchCouldBeSeen (.ref b) l) Q E s:=by
 intro l hl q
 unfold searchCouldBeSeen
 apply wpAny_bind
 refine wpAny_forIn_list _ (fun rest r s'=>r=(none,())/\s'=s/\∀ y∈rest,y∈l) _ ?_ ?_ _ _ ⟨rfl,rfl,fun _ h=>h⟩
 ·rintro y rest r s' ⟨rfl,rfl,hm⟩
  obtain⟨d',b',rfl,kb'⟩:=hl y (hm y amm)
  obtain⟨⟨as,rd⟩,pd,dd⟩:=id kb
  obtain⟨⟨bs,rd'⟩,pd',dd'⟩:=id kb'
  have more:∀ z∈rest,z∈l:=fun z hz=>hm z (amo _ hz)
  dsimp only
  split
  ·exact wpAny_pure ⟨rfl,rfl,more⟩
  ·apply wpAny_bind
   refine jh d 8 A _ _ as _ _ rd pd dd ?_
   simp only [am5,amR,if_false]
   apply wpAny_bind
   refine jh d' 8 A _ _ bs _ _ rd' pd' dd' ?_
   simp only [am5,amR,if_false]
   apply wpAny_bind
   refine vH d 8 A _ _ as _ _ rd pd dd ?_
   simp only [amR,if_false]
   apply wpAny_bind
   refine vH d' 8 A _ _ bs _ _ rd' pd' dd' ?_
   simp only [amR,if_false]
   exact wpAny_pure ⟨rfl,rfl,more⟩
 ·rintro r s' ⟨rfl,rfl,_⟩
  exact wpAny_pure q
structure SetObj (w:World) (h:Heap) (a:Addr) (xs:List (PyData×Addr)) (o:Obj) (es:Array (Int×Value)) (ep:Nat) (t:SetTable):Prop where
 ob:h.get? a=some o
 ex:o.ExactSet
 da:o.data=.set es ep t
 el:es.toList=xs.map fun x=>(zo w x.1,Value.ref x.2)
 ok:ST.TOk t (xs.map fun x=>zo w x.1)
theorem SetObj.size {h:Heap} {a:Addr} {xs:List (PyData×Addr)} {o:Obj} {es:Array (Int×Value)} {ep:Nat} {t:SetTable} (x:SetObj w h a xs o es ep t):es.size=xs.length:=by
 rw [<-amy,x.el,amg]
theorem SetObj.fits {h:Heap} {a:Addr} {xs:List (PyData×Addr)} {o:Obj} {es:Array (Int×Value)} {ep:Nat} {t:SetTable} (x:SetObj w h a xs o es ep t):t.fits es.size=true:=by
 unfold SetTable.fits apY
 have h1:=x.ok.size
 have h2:=x.ok.most
 rw [amg] at h1 h2
 rw [x.size,h1,x.ok.dum]
 simp
 exact h2
theorem SetObj.at {h:Heap} {a:Addr} {xs:List (PyData×Addr)} {o:Obj} {es:Array (Int×Value)} {ep:Nat} {t:SetTable} (x:SetObj w h a xs o es ep t) {i:Nat} (hi:i<xs.length):es[i]?=some (zo w xs[i].1,Value.ref xs[i].2):=by
 rw [<-apI,x.el,aml,amf hi]
 rfl
theorem aho {t:SetTable} {hs:List Int} (o:ST.TOk t hs):t.gaveWay=false:=by
 unfold SetTable.gaveWay
 rcases o.mask with e | e | e | e <;> rw [e] <;> rfl
theorem ahp {α:Type} {M:Model} {c:Bool} {m:Sem Bool} {u:Sem Unit} {r:Sem α} {Q:α->Shared->Prop} (hr:wpAny M A r Q E s) (hm:∀ R:Bool->Shared->Prop,R false s->wpAny M A m R E s) :
  wpAny M A (if c=true then (do
   let b <- m
   if b=true then do
    u
    r
   else r) else r) Q E s:=by
 cases c with
 | false=>rw [if_neg amh];exact hr
 | true =>
  rw [if_pos rfl]
  apply wpAny_bind
  refine hm _ ?_
  rw [if_neg amh]
  exact hr
theorem acY {M:Model} {a:Addr} {Q:Bool->Shared->Prop} (q:Q true s):wpAny M A (isSame (.ref a) (.ref a)) Q E s:=by
 unfold isSame
 simp only [beq_self_eq_true]
 exact wpAny_pure q
theorem vI {a b:Addr} {d:PyData} {xs:List (PyData×Addr)} {o:Obj} {es:Array (Int×Value)} {ep:Nat} {t:SetTable} {adding:Bool} {Q:SetFound->Shared->Prop} (S:SetObj w s.heap a xs o es ep t) (ks:∀ x∈xs,KeyAt s.heap x.1 x.2)
  (kb:KeyAt s.heap d b) (hu:A.units+40<cLine) {F:Nat} (hF:ST.First t (zo w d) F) (yes:d∈xs.map (·.1)->∀ r:Option Nat,(adding=false->r.isSome=true)->Q (.there r) s) (no:d∉xs.map (·.1)->Q (.free (ST.pos t.mask (zo w d) F) false) s) :
  ∀ f k stand,k<=F->F<k+f->stand.getD (t.probeStart (zo w d))=ST.road t.mask (zo w d) k ->
   (∀ q i,q<k->i<xs.length->ST.pos t.mask (zo w d) q=t.place.getD i 0->(xs.getD i (.none,0)).1≠d) ->
   wpAny (model P w) A (setSearchFrom a (.ref b) (zo w d) adding f stand) Q E s
 | 0,k,stand,h1,h2,_,_=>by omega
 | f+1,k,stand,h1,h2,hst,past=>by
  have sz:=S.ok.size
  rw [amg] at sz
  have key:∀ g:Nat->Int,(∀ i,g i=(es[i]?.map (·.1)).getD 0) ->
    (t.probe g (zo w d) (ST.road t.mask (zo w d) k)=some (.empty (ST.pos t.mask (zo w d) F) none)/\∀ q i,k<=q->q<F->i<t.place.size->ST.pos t.mask (zo w d) q=t.place.getD i 0->g i≠zo w d) \/
    ∃ q i,k<=q/\q<F/\i<t.place.size/\ST.pos t.mask (zo w d) q=t.place.getD i 0/\g i=zo w d/\t.probe g (zo w d) (ST.road t.mask (zo w d) k)=some (.candidate (ST.pos t.mask (zo w d) q) i (ST.road t.mask (zo w d) (q+1)))/\∀ q' i',k<=q'->q'<q->i'<t.place.size->ST.pos t.mask (zo w d) q'=t.place.getD i' 0->g i'≠zo w d :=
   fun g _=>ST.probe_go S.ok.dum S.ok.rise hF (10 * turns t.mask) k h1 (by have:=hF.lt;omega)
  have gat:∀ i (hi:i<xs.length),(es[i]?.map (·.1)).getD 0=zo w xs[i].1:=fun i hi=>by rw [S.at hi];rfl
  unfold setSearchFrom
  apply wpAny_bind
  refine wpAny_setState_of S.ob S.da S.fits ?_
  dsimp only
  rw [aho S.ok,if_neg amh,hst]
  have reach:∀ i (hi:i<xs.length),xs[i].1=d->∃ q,q<F/\ST.pos t.mask (zo w d) q=t.place.getD i 0:=fun i hi ed=>by
   obtain⟨q,a1,a2⟩:=S.ok.reach i (by rw [amg];exact hi)
   have eh:(xs.map fun x=>zo w x.1).getD i 0=zo w d:=by
    rw [amj,aml,amf hi,<- ed]
    rfl
   rw [eh] at a1 a2
   refine⟨q,?_,a1⟩
   by_cases c:q<F
   ·exact c
   ·by_cases c2:q=F
    ·subst c2
     exact absurd ⟨i,by omega,a1.symm⟩ hF.free
    ·exact absurd (a2 F (by omega)) hF.free
  have ggd:∀ i (hi:i<xs.length),xs.getD i (.none,0)=xs[i]:=fun i hi=>by rw [amj,amf hi];rfl
  rcases key (fun i=>(es[i]?.map (·.1)).getD 0) (fun i=>rfl) with⟨e,none_⟩ | ⟨q,i,q1,q2,q3,q4,q5,e,none_⟩
  ·have ee:∀ g:Nat->Int,(∀ i,g i=(es[i]?.map (·.1)).getD 0)->t.probe g (zo w d) (ST.road t.mask (zo w d) k)=some (.empty (ST.pos t.mask (zo w d) F) none):=fun g hg=>by
    rw [show g=fun i=>(es[i]?.map (·.1)).getD 0 from funext hg]
    exact e
   rw [ee]
   rotate_left
   ·exact fun i=>rfl
   dsimp only
   refine wpAny_pure (no fun hd=>?_)
   obtain⟨x,hx,ex⟩:=amz.mp hd
   obtain⟨i,hi,ei⟩:=anw hx
   have ed:xs[i].1=d:=by rw [ei];exact ex
   obtain⟨q,qF,qp⟩:=reach i hi ed
   by_cases c:q<k
   ·exact past q i c hi qp (by rw [ggd i hi];exact ed)
   ·exact none_ q i (by omega) qF (by omega) qp (by rw [gat i hi,ed])
  ·have ee:∀ g:Nat->Int,(∀ i,g i=(es[i]?.map (·.1)).getD 0)->t.probe g (zo w d) (ST.road t.mask (zo w d) k)=some (.candidate (ST.pos t.mask (zo w d) q) i (ST.road t.mask (zo w d) (q+1))):=fun g hg=>by
    rw [show g=fun i=>(es[i]?.map (·.1)).getD 0 from funext hg]
    exact e
   have hi:i<xs.length:=by omega
   have mi:xs[i]∈xs:=amE hi
   have ki:=ks _ mi
   rw [ee]
   rotate_left
   ·exact fun i=>rfl
   dsimp only
   refine ahp ?_ fun R hR=>aiU kb _ (fun y hy=>?_) hR
   rotate_left
   ·obtain⟨p,hp,rfl⟩:=amz.mp hy
    have hp2:p∈es.toList:=by
     have:=aoW.mp hp
     exact aoW.mpr (Array.mem_filter.mp this).1
    rw [S.el] at hp2
    obtain⟨x,hx,rfl⟩:=amz.mp hp2
    exact⟨x.1,x.2,rfl,ks x hx⟩
   rw [S.at hi]
   dsimp only
   apply wpAny_bind;apply wpAny_holding
   refine (v5 P w).eqBool (A:=A) hu ki kb ?_
   apply wpAny_bind
   refine wpAny_setState_of S.ob S.da S.fits ?_
   dsimp only
   have same:t.sameMemory t.moves t.mask=some true:=by
    unfold SetTable.sameMemory
    rw [if_pos (beq_self_eq_true _)]
   have live:t.slot (ST.pos t.mask (zo w d) q)=.live i:=by rw [q4];exact ST.slot_live S.ok.rise q3
   by_cases ed:xs[i].1=d
   ·have y2:=yes (amz.mpr ⟨_,mi,ed⟩)
    rw [decide_eq_true ed]
    cases adding with
    | true=>exact wpAny_pure (y2 _ fun z=>nomatch z)
    | false =>
     rw [aoG,if_neg amh,same]
     dsimp only
     rw [if_pos rfl,live]
     dsimp only
     rw [S.at hi]
     dsimp only
     apply wpAny_bind
     refine acY ?_
     apply wpAny_bind;apply wpAny_pure
     rw [if_pos rfl]
     dsimp only
     rw [if_pos rfl]
     exact wpAny_pure (y2 _ fun _=>rfl)
   ·rw [decide_eq_false ed,apQ,if_neg amh,same]
    dsimp only
    rw [if_pos rfl,live]
    dsimp only
    rw [S.at hi]
    dsimp only
    apply wpAny_bind
    refine acY ?_
    apply wpAny_bind;apply wpAny_pure
    rw [if_pos rfl]
    dsimp only
    rw [if_neg amh]
    refine vI S ks kb hu hF yes no f (q+1) _ (by omega) (by omega) rfl fun q' i' c1 c2 c3=>?_
    rw [ggd i' c2]
    intro z
    by_cases c4:q'<k
    ·exact past q' i' c4 c2 c3 (by rw [ggd i' c2];exact z)
    ·by_cases c5:q'=q
     ·subst c5
      have ii:i'=i:=by
       have b1:=ST.below_at S.ok.rise (i:=i) (by omega)
       have b2:=ST.below_at S.ok.rise (i:=i') (by omega)
       rw [<-q4] at b1
       rw [<-c3] at b2
       omega
      subst ii
      exact ed z
     ·exact none_ q' i' (by omega) (by omega) (by omega) c3 (by rw [gat i' c2,z])
end
end L2
end
section
namespace L2
open PySem PySem.Spec PyProof.Rows PySem.SetTable
section
variable {P:Program} {w:World} {A:Around} {E:Value->Shared->Prop} {s:Shared} {a b:Addr} {d:PyData} {xs:List (PyData×Addr)} {o:Obj} {es:Array (Int×Value)} {ep:Nat} {t:SetTable}
theorem SetObj.type (S:SetObj w s.heap a xs o es ep t):s.TypeIs (.ref a) "set":=⟨o,S.ob,S.ex.1⟩
theorem ae5 (b:Addr) (es:Array (Int×Value)):byScan (.ref b) es=false:=rfl
theorem acZ {Q:Bool->Shared->Prop} (S:SetObj w s.heap a xs o es ep t) (ks:∀ x∈xs,KeyAt s.heap x.1 x.2) (kb:KeyAt s.heap d b) (hu:A.units+60<cLine) (q:Q (decide (d∈xs.map (·.1))) { s with toks:=s.toks+zO d }) :
  wpAny (model P w) A (contains (.ref a) (.ref b)) Q E s:=by
 obtain⟨F,hF⟩:=ST.first_of S.ok.toTB (zo w d)
 have hl:=hF.lt
 have ht:turns t.mask<=526:=by
  unfold turns
  rcases S.ok.mask with e | e | e | e <;> omega
 unfold contains
 try with_reducible refine wpAny_holding ?_
 apply wpAny_bind;apply wpAny_specialOf S.type aop.lookup
 show wpAny _ _ (if (some (Value.builtin "set.__contains__") == some Value.none)=true then _ else _) _ E s
 rw [if_neg (by rw [beq_builtin_none];exact amh)]
 apply wpAny_bind
 refine wpAny_callSpecialUnlessNone?_slot (name:=Str.ofString "__contains__") S.type aop (wpAny_call_entry aop S.type entry_set_contains ?_ (PySem.F.args_set_contains_2 _ _))
 unfold Builtin.«frozenset.__contains__» apf
 simp only [List.isEmpty_nil,bind_assoc]
 unfold apo Builtin.Frozenset.withSetAsKey setContains
 apply wpAny_bind;apply wpAny_pure
 dsimp only
 apply wpAny_bind;apply wpAny_pure
 dsimp only
 apply wpAny_bind;apply wpAny_tryCatch;apply wpAny_holding
 apply wpAny_bind
 have hu1:A.in1.units=A.units+1:=rfl
 have hu2:A.in1.in1.units=A.units+1+1:=rfl
 refine (v5 P w).pyHash (by show _+40<cLine;omega) kb ?_
 apply wpAny_bind
 unfold setFind setFindIn
 apply wpAny_bind
 refine wpAny_setState_of (s:={ s with toks:=s.toks+zO d }) S.ob S.da S.fits ?_
 dsimp only
 rw [ae5,if_neg amh]
 apply wpAny_bind
 unfold setSearch
 have fin:∀ r:Option Nat,r.isSome=decide (d∈xs.map (·.1))->∀ R:Value->Shared->Prop,R (.bool (decide (d∈xs.map (·.1)))) { s with toks:=s.toks+zO d }->R (.bool r.isSome) { s with toks:=s.toks+zO d }:=fun r e R hR=>by rw [e];exact hR
 refine vI (s:={ s with toks:=s.toks+zO d }) (adding:=false) S ks kb (by omega) hF (fun hd r hr=>?_) (fun hd=>?_) 100000 0 none (amT _) (by omega) (ST.road_start t _) (fun q i c=>by omega)
 ·refine wpAny_pure (wpAny_pure ?_)
  show wpAny _ _ (ret (Value.bool r.isSome)) _ _ _
  rw [hr rfl]
  rw [decide_eq_true hd] at q
  exact wpAny_pure ⟨_,rfl,wpAny_truthy_bool q⟩
 ·refine wpAny_pure (wpAny_pure ?_)
  show wpAny _ _ (ret (Value.bool false)) _ _ _
  rw [decide_eq_false hd] at q
  exact wpAny_pure ⟨_,rfl,wpAny_truthy_bool q⟩
def ae6 (es:Array (Int×Value)) (laid:Option (SetTable×Array Nat)):Sem (Array (Int×Value)×SetTable):=do
 let some (t,order):=laid | unsupported "internal:set-table-without-room"
 let es':=order.filterMap (es[·]?)
 if es'.size != es.size then unsupported "internal:set-table-lost-an-element"
 pure (es',t)
theorem ahq (a:Addr) (wanted:Nat):setRelay a wanted=(do
  let (es,_,t) <- setState a
  if apg wanted > sizeLine then unsupported "set:memory"
  let (es,t) <- ae6 es (t.relaid (es.map (·.1)) wanted)
  storeSet a es t):=rfl
theorem qG {α:Type} (es:Array α):∀ l:List Nat,(∀ i∈l,i<es.size)->∀ dflt:α,l.filterMap (fun i=>es[i]?)=l.map fun i=>es.toList.getD i dflt
 | [],_,_=>rfl
 | i :: l,h,dflt=>by
  have hi:=h i amm
  rw [aor,aph hi,amG,qG es l (fun j hj=>h j (amo _ hj)) dflt]
  simp [hi]
theorem ahr {Q:Unit->Shared->Prop} {mask wanted:Nat} (S0:s.heap.get? a=some o) (ex:o.ExactSet) (da:o.data=.set es ep t) (el:es.toList=xs.map fun x=>(zo w x.1,Value.ref x.2)) (tb:ST.TB t (xs.map fun x=>zo w x.1)) (mk:mask=31 \/ mask=127 \/ mask=511) (hw:apg wanted=mask+1)
  (room:xs.length * 5<mask * 3) (q:∀ xs' o' es' ep' t' h',xs'.Perm xs->anO a s.heap h'->SetObj w h' a xs' o' es' ep' t'->Q () { s with heap:=h' }):wpAny (model P w) A (setRelay a wanted) Q E s:=by
 have sz:es.size=xs.length:=by rw [<-amy,el,amg]
 have fits:t.fits es.size=true:=by
  unfold SetTable.fits apY
  have h1:=tb.size
  have h2:=tb.most
  rw [amg] at h1 h2
  rw [sz,h1,tb.dum]
  simp
  exact h2
 have mk2:mask=7 \/ mask=31 \/ mask=127 \/ mask=511:=.inr mk
 obtain⟨t2,ord,e1,e2,_,_,pm,tb2⟩:=ST.laid_ok mk2 (es.map (·.1)) (by rw [apP,sz];omega) t.finger (t.movedTo mask) t.led t.plain
 rw [apP] at pm
 have hlt:∀ i∈ord.toList,i<es.size:=fun i hi=>amN.mp (pm.mem_iff.mp hi)
 let xs':=ord.toList.map fun i=>xs.getD i (.none,0)
 have px:xs'.Perm xs:=by
  have e:(amC es.size).map (fun i=>xs.getD i (.none,0))=xs:=by
   rw [sz]
   refine aog fun i=>?_
   rw [aml]
   by_cases hi:i<xs.length
   ·rw [ani hi,amf hi]
    simp [hi]
   ·rw [amL (by simp;omega),amL (by omega)]
    rfl
  have:=pm.map fun i=>xs.getD i (.none,0)
  rw [e] at this
  exact this
 have ee:(ord.filterMap (es[·]?)).toList=xs'.map fun x=>(zo w x.1,Value.ref x.2):=by
  rw [Array.toList_filterMap,qG es ord.toList hlt (0,Value.none),am9]
  refine ao6 fun i hi=>?_
  have h2:=hlt i hi
  have h3:i<xs.length:=by omega
  rw [el,amj,aml,amf h3]
  show _=(zo w (xs.getD i (.none,0)).1,Value.ref (xs.getD i (.none,0)).2)
  rw [amj,amf h3]
  rfl
 have es_sz:(ord.filterMap (es[·]?)).size=es.size:=by
  rw [<-amy,ee,amg,px.length_eq,sz]
 have tok:ST.TOk t2 (xs'.map fun x=>zo w x.1):=by
  have eh:(ord.toList.map fun i=>(es.map (·.1)).toList.getD i 0)=xs'.map fun x=>zo w x.1:=by
   rw [am9]
   refine ao6 fun i hi=>?_
   have h3:i<xs.length:=by have:=hlt i hi;omega
   rw [Array.toList_map,el,am9,amj,aml,amf h3]
   show zo w xs[i].1=zo w (xs.getD i (.none,0)).1
   rw [amj,amf h3]
   rfl
  rw [eh] at tb2
  refine⟨tb2,?_⟩
  rw [amg,px.length_eq,e2]
  exact room
 rw [ahq]
 apply wpAny_bind
 refine wpAny_setState_of S0 da fits ?_
 dsimp only
 rw [hw,if_neg (by rw [sizeLine_eq];omega)]
 have e1':t.relaid (es.map (·.1)) wanted=some (t2,ord):=by
  unfold SetTable.relaid
  rw [hw]
  exact e1
 unfold ae6
 rw [e1']
 apply wpAny_bind
 dsimp only
 rw [es_sz,bne_self_eq_false,if_neg amh]
 apply wpAny_pure
 dsimp only
 refine wpAny_storeSet_of S0 da ?_ (by rw [es_sz,sz,sizeLine_eq];omega)
 refine q xs' { o with data:=.set (ord.filterMap (es[·]?)) (ep+1) t2 } (ord.filterMap (es[·]?)) (ep+1) t2 _ px (aos _ _ _) ⟨?_,ex,rfl,ee,tok⟩
 have:=ana (apC (ord.filterMap (es[·]?)) t2) S0 (by rw [putSet_of _ _ da];rfl)
 rw [putSet_of _ _ da] at this
 exact this
theorem ahs {t:SetTable} {hs:List Int} {p:Bool} (x:ST.TB t hs):ST.TB { t with plain:=p } hs:=⟨x.mask,x.dum,x.rise,x.le,x.size,x.most,x.reach⟩
theorem aiV {Q:Shared->Prop} (S:SetObj w s.heap a xs o es ep t) (ks:∀ x∈xs,KeyAt s.heap x.1 x.2) (kb:KeyAt s.heap d b) (hu:A.units+59<cLine) (few:xs.length<300)
  (old:d∈xs.map (·.1)->Q { s with toks:=s.toks+zO d })
  (new:d∉xs.map (·.1)->∀ xs' o' es' ep' t' h',xs'.Perm ((d,b) :: xs)->anO a s.heap h'->SetObj w h' a xs' o' es' ep' t'->Q { s with heap:=h',toks:=s.toks+zO d }) :
  wpAny (model P w) A (setAdd a (.ref b)) (fun _ s'=>Q s') E s:=by
 obtain⟨F,hF⟩:=ST.first_of S.ok.toTB (zo w d)
 have hl:=hF.lt
 have ht:turns t.mask<=526:=by
  unfold turns
  rcases S.ok.mask with e | e | e | e <;> omega
 have room:=S.ok.room
 rw [amg] at room
 unfold setAdd
 apply wpAny_holding
 apply wpAny_bind
 refine (v5 P w).pyHash (by show _+40<cLine;omega) kb ?_
 show wpAny _ _ (setAddHashed a (.ref b) (zo w d)) _ _ _
 unfold setAddHashed setAddHashedIn
 apply wpAny_holding
 apply wpAny_bind
 refine wpAny_setState_of (s:={ s with toks:=s.toks+zO d }) S.ob S.da S.fits ?_
 dsimp only
 rw [ae5,if_neg amh]
 apply wpAny_bind
 unfold setSearch
 refine vI (s:={ s with toks:=s.toks+zO d }) (adding:=true) S ks kb (by omega) hF (fun hd r _=>?_) (fun hd=>?_) 100000 0 none (amT _) (by omega) (ST.road_start t _) (fun q i c=>by omega)
 ·exact wpAny_pure (old hd)
 ·dsimp only
  apply wpAny_bind
  refine wpAny_setState_of (s:={ s with toks:=s.toks+zO d }) S.ob S.da S.fits ?_
  dsimp only
  obtain⟨hp,tb⟩:=ST.put_tb S.ok.toTB hF (by rw [amg];rcases S.ok.mask with e | e | e | e <;> rw [e] at room ⊢ <;> omega)
  rw [amg] at hp
  have ep2:(t.put (ST.pos t.mask (zo w d) F)).2=below t.place (ST.pos t.mask (zo w d) F):=rfl
  rw [ep2]
  generalize below t.place (ST.pos t.mask (zo w d) F)=p at *
  have pm:(xs.take p++(d,b) :: xs.drop p).Perm ((d,b) :: xs):=by
   refine List.perm_middle.trans ?_
   rw [aof]
  have el:(insertAt es p (zo w d,Value.ref b)).toList=(xs.take p++(d,b) :: xs.drop p).map fun x=>(zo w x.1,Value.ref x.2):=by
   rw [aox,S.el,amS,amG,apZ,ap0]
  have eh:(xs.map fun x=>zo w x.1).take p++zo w d :: (xs.map fun x=>zo w x.1).drop p=(xs.take p++(d,b) :: xs.drop p).map fun x=>zo w x.1:=by
   rw [amS,amG,apZ,ap0]
  rw [eh] at tb
  have ln:(xs.take p++(d,b) :: xs.drop p).length=xs.length+1:=by rw [pm.length_eq];rfl
  have sze:(insertAt es p (zo w d,Value.ref b)).size=xs.length+1:=by rw [<-amy,el,amg,ln]
  have step:∀ bv:Bool,∀ t2,t2=(if bv=true then (t.put (ST.pos t.mask (zo w d) F)).1 else { (t.put (ST.pos t.mask (zo w d) F)).1 with plain:=false }) ->
    ST.TB t2 ((xs.take p++(d,b) :: xs.drop p).map fun x=>zo w x.1)/\t2.mask=t.mask:=fun bv t2 e=>by
   subst e
   cases bv with
   | true=>exact⟨tb,rfl⟩
   | false=>exact⟨ahs tb,rfl⟩
  have tail:∀ bv:Bool,wpAny (model P w) A (do
    storeSet a (insertAt es p (zo w d,Value.ref b)) (if bv=true then (t.put (ST.pos t.mask (zo w d) F)).1 else { (t.put (ST.pos t.mask (zo w d) F)).1 with plain:=false })
    if (!false && (if bv=true then (t.put (ST.pos t.mask (zo w d) F)).1 else { (t.put (ST.pos t.mask (zo w d) F)).1 with plain:=false }).tooFull)=true then do
     setRelay a (SetTable.grown (es.size+1))
     pure true
    else pure true) (fun _ s'=>Q s') E { s with toks:=s.toks+zO d }:=fun bv=>by
   obtain⟨tb2,em⟩:=step bv _ rfl
   generalize (if bv=true then (t.put (ST.pos t.mask (zo w d) F)).1 else { (t.put (ST.pos t.mask (zo w d) F)).1 with plain:=false })=t2 at *
   apply wpAny_bind
   refine wpAny_storeSet_of (s:={ s with toks:=s.toks+zO d }) S.ob S.da ?_ (by rw [sze,sizeLine_eq];omega)
   have g:(s.heap.update a (apC (insertAt es p (zo w d,Value.ref b)) t2)).get? a=some { o with data:=.set (insertAt es p (zo w d,Value.ref b)) (ep+1) t2 }:=by
    have:=ana (apC (insertAt es p (zo w d,Value.ref b)) t2) S.ob (by rw [putSet_of _ _ S.da];rfl)
    rw [putSet_of _ _ S.da] at this
    exact this
   have sb:=aos s.heap a (apC (insertAt es p (zo w d,Value.ref b)) t2)
   have fill:t2.tooFull=decide ((xs.length+1) * 5 >= t.mask * 3):=by
    unfold SetTable.tooFull apY
    have h1:=tb2.size
    rw [amg,ln] at h1
    rw [h1,tb2.dum,em]
    rfl
   rw [ape,aoU,fill]
   by_cases full:(xs.length+1) * 5 >= t.mask * 3
   ·rw [if_pos (decide_eq_true full),S.size]
    have:∃ mask,(mask=31 \/ mask=127 \/ mask=511)/\apg (SetTable.grown (xs.length+1))=mask+1/\(xs.length+1) * 5<mask * 3:=by
     rcases S.ok.mask with e | e | e | e
     ·rw [e] at room full
      have:xs.length=4:=by omega
      rw [this]
      exact⟨31,.inl rfl,by decide,by decide⟩
     ·rw [e] at room full
      have:xs.length=18:=by omega
      rw [this]
      exact⟨127,.inr (.inl rfl),by decide,by decide⟩
     ·rw [e] at room full
      have:xs.length=76:=by omega
      rw [this]
      exact⟨511,.inr (.inr rfl),by decide,by decide⟩
     ·rw [e] at room full
      omega
    obtain⟨mask,mk,hw,rm⟩:=this
    apply wpAny_bind
    refine ahr (s:={ s with heap:=s.heap.update a (apC (insertAt es p (zo w d,Value.ref b)) t2),toks:=s.toks+zO d }) (o:={ o with data:=.set (insertAt es p (zo w d,Value.ref b)) (ep+1) t2 }) g S.ex rfl el tb2 mk hw (by rw [ln];exact rm) fun xs' o' es' ep' t' h' px sb' S'=>wpAny_pure ?_
    exact new hd xs' o' es' ep' t' h' (px.trans pm) (sb.trans sb') S'
   ·rw [if_neg (by rw [decide_eq_false full];exact amh)]
    refine wpAny_pure (new hd _ _ _ _ _ _ pm sb ⟨g,S.ex,rfl,el,⟨tb2,?_⟩⟩)
    rw [amg,ln,em]
    omega
  obtain⟨as,rd⟩:=kb.rd
  split
  ·apply wpAny_bind
   exact vS d 8 _ { s with toks:=s.toks+zO d } _ as _ _ rd kb.pl fun bv=>tail bv
  ·apply wpAny_bind;apply wpAny_pure
   exact tail true
theorem akV {Q:Value->Shared->Prop} (S:SetObj w s.heap a xs o es ep t) (ks:∀ x∈xs,KeyAt s.heap x.1 x.2) (kb:KeyAt s.heap d b) (hu:A.units+60<cLine) (few:xs.length<300)
  (old:d∈xs.map (·.1)->Q .none { s with toks:=s.toks+zO d })
  (new:d∉xs.map (·.1)->∀ xs' o' es' ep' t' h',xs'.Perm ((d,b) :: xs)->anO a s.heap h'->SetObj w h' a xs' o' es' ep' t'->Q .none { s with heap:=h',toks:=s.toks+zO d }) :
  wpAny (model P w) A (call (.builtin "set.add") [.ref a,.ref b]) Q E s:=by
 refine wpAny_call_entry apR S.type PySem.F.entry_set_add ?_ (PySem.F.args_set_add_2 _ _)
 unfold Builtin.«set.add» apf
 simp only [List.isEmpty_nil,bind_assoc]
 unfold apo
 apply wpAny_bind;apply wpAny_pure
 try dsimp only
 apply wpAny_bind;apply wpAny_pure
 try dsimp only
 apply wpAny_bind
 have hu1:A.in1.units=A.units+1:=rfl
 refine aiV (Q:=fun s'=>wpAny (model P w) A.in1 (ret Value.none) (fun fin s'=>∃ r,fin=.done (.ret r)/\Q r s') E s') S ks kb (by omega) few (fun hd=>wpAny_pure ⟨_,rfl,old hd⟩) fun hd xs' o' es' ep' t' h' p1 p2 p3=>wpAny_pure ⟨_,rfl,new hd xs' o' es' ep' t' h' p1 p2 p3⟩
end
inductive OC where
 | lst (es:List PyData)
 | set (ks:List PyData)
 | dic (kvs:List (PyData×PyData))
def SetO (w:World) (a:Addr) (xs:List (PyData×Addr)):HO:=.ext fun h=>∃ o es ep t,SetObj w h a xs o es ep t
structure DicObj (w:World) (h:Heap) (a:Addr) (xs:List (PyData×Addr×Value)) (o:Obj) (es:Array DictEntry) (ep:Nat):Prop where
 ob:h.get? a=some o
 ex:o.ExactDict
 da:o.data=.dict es ep
 el:es.toList=xs.map fun x=>(⟨zo w x.1,.ref x.2.1,x.2.2⟩:DictEntry)
 nd:(xs.map (·.1)).Nodup
 ns:(a == sysModules)=false
def DicO (w:World) (a:Addr) (xs:List (PyData×Addr×Value)):HO:=.ext fun h=>∃ o es ep,DicObj w h a xs o es ep
def vb (d:PyData):Prop:=zq d=true/\d.depth<=8
def EntR (K:amk) (Hh:Hp) (x:PyData×Addr×Value) (p:PyData×PyData):Prop:=x.1=p.1/\vb x.1/\Rep K Hh x.1 (.ref x.2.1)/\∃ v,Rep K Hh p.2 v/\RelV v x.2.2
theorem EntR.mono {K:amk} {Hh Hh':Hp} (s:Same Hh Hh'):∀ {xs:List (PyData×Addr×Value)} {kvs:List (PyData×PyData)},Paired (EntR K Hh) xs kvs->Paired (EntR K Hh') xs kvs
 | _,_,.nil=>.nil
 | _,_,.cons ⟨h1,h2,h3,v,h4,h5⟩ t=>.cons ⟨h1,h2,Rep.mono s _ _ h3,v,Rep.mono s _ _ h4,h5⟩ (EntR.mono s t)
def OwnAt (w:World) (K:amk) (Hh H:Hp) (D:Addr):OC->Prop
 | .lst es=>∃ vs,H D=some (.lst vs)/\Reps K Hh es vs
 | .set ks=>∃ xs:List (PyData×Addr),H D=some (SetO w D xs)/\(∀ x∈xs,vb x.1/\Rep K Hh x.1 (.ref x.2))/\(∀ d,d∈xs.map (·.1)↔d∈ks)/\xs.length<=ks.length
 | .dic kvs=>∃ xs:List (PyData×Addr×Value),H D=some (DicO w D xs)/\Paired (EntR K Hh) xs kvs
theorem OwnAt.mono {w:World} {K:amk} {Hh Hh' H H':Hp} {D:Addr} (e:H' D=H D) (s:Same Hh Hh'):∀ {c:OC},OwnAt w K Hh H D c->OwnAt w K Hh' H' D c
 | .lst es,⟨vs,h1,h2⟩=>⟨vs,e.trans h1,Reps.mono s es vs h2⟩
 | .set ks,⟨xs,h1,h2,h3⟩=>⟨xs,e.trans h1,fun x hx=>⟨(h2 x hx).1,Rep.mono s _ _ (h2 x hx).2⟩,h3⟩
 | .dic kvs,⟨xs,h1,h2⟩=>⟨xs,e.trans h1,EntR.mono s h2⟩
def Fx.withs (f:Fx) (Ds:List Addr):Fx:={ f with M:=Ds.reverse++f.M }
theorem ye (f:Fx) (Ds:List Addr) (D:Addr):f.withs (Ds++[D])=(f.withs Ds).with D:=by
 unfold Fx.withs Fx.with
 rw [aot]
 rfl
structure CM (w:World) (K:amk) (f:Fx) (Ds:List Addr) (H2:Hp) (ρ:zp) (cs:List OC) (σ:St) (H:Hp):Prop where
 env:EnvOk K (f.withs Ds) ρ σ H
 sm:Same (hide H2 (f.withs Ds)) (hide H (f.withs Ds))
 kp:∀ b∈f.M,H b=H2 b
 len:cs.length=Ds.length
 own:∀ (i:Nat) D c,Ds[i]?=some D->cs[i]?=some c->OwnAt w K (hide H (f.withs Ds)) H D c
structure Sep (f:Fx) (Ds:List Addr):Prop where
 nd:Ds.Nodup
 nf:∀ D∈Ds,f.f≠some D
 nm:∀ D∈Ds,D∉f.M
section
variable {w:World} {K:amk} {f:Fx} {Ds:List Addr} {H H' H2:Hp} {ρ ρ2:zp} {cs:List OC} {σ σ2:St} {i:Nat} {D:Addr} {c:OC} {o:HO}
theorem jx (hD:D∈Ds):D∈(f.withs Ds).M:=anf _ (anE.mpr hD)
theorem yn (hD:D∈Ds):hide (upd H D o) (f.withs Ds)=hide H (f.withs Ds):=by
 funext b
 unfold hide
 by_cases h:(f.withs Ds).f=some b \/ b∈(f.withs Ds).M
 ·rw [if_pos h,if_pos h]
 ·rw [if_neg h,if_neg h,zy fun (z:b=D)=>h (.inr (z▸jx hD))]
theorem CM.go (x:CM w K f Ds H2 ρ cs σ H) (g:Goes (f.withs Ds) H H') (e2:EnvOk K (f.withs Ds) ρ2 σ2 H'):CM w K f Ds H2 ρ2 cs σ2 H' :=
 ⟨e2,x.sm.trans g.sm,fun b hb=>(g.kp b (amF _ hb)).trans (x.kp b hb),x.len,fun i D c h1 h2=>(x.own i D c h1 h2).mono (g.kp D (jx (amw h1))) g.sm⟩
theorem CM.self (x:CM w K f Ds H2 ρ cs σ H):CM w K f Ds H ρ cs σ H:=⟨x.env,Same.refl _,fun _ _=>rfl,x.len,x.own⟩
theorem CM.trans {cs':List OC} {ρ':zp} {σ':St} (x:CM w K f Ds H2 ρ cs σ H) (y:CM w K f Ds H ρ' cs' σ' H'):CM w K f Ds H2 ρ' cs' σ' H':=⟨y.env,x.sm.trans y.sm,fun b hb=>(y.kp b hb).trans (x.kp b hb),y.len,y.own⟩
theorem aiW (se:Sep f Ds) (hD:D∈Ds) (h:FOk (f.withs Ds) H):FOk (f.withs Ds) (upd H D o) :=
 ⟨fun p e=>let⟨a,b,h1,h2⟩:=h.fd p e;⟨a,b,by rw [zy (fun (z:p=D)=>se.nf D hD (z▸e))];exact h1,h2⟩,fun b hb=>by
  by_cases e:b=D
  ·exact⟨o,by rw [e];exact zA⟩
  ·obtain⟨u,hu⟩:=h.mm b hb
   exact⟨u,by rw [zy e];exact hu⟩,h.nm⟩
theorem aiX (se:Sep f Ds) (hD:D∈Ds) (e:EnvOk K (f.withs Ds) ρ σ H):EnvOk K (f.withs Ds) ρ σ (upd H D o) :=
 ⟨e.len,fun i x h=>by
  obtain⟨v,h1,h2⟩:=e.get i x h
  refine⟨v,h1,?_⟩
  cases x with
  | dat d =>
   show Rep K (hide (upd H D o) (f.withs Ds)) d v
   rw [yn hD]
   exact h2
  | feed=>exact h2
  | own k=>exact h2
  | exc C =>
   obtain⟨a,e1,q⟩:=h2
   exact⟨a,e1,by rw [yn hD];exact q⟩
  | mon φ =>
   intro H' s
   rw [yn hD] at s
   exact h2 H' s,aiW se hD e.fd⟩
theorem CM.put {c':OC} (se:Sep f Ds) (x:CM w K f Ds H2 ρ cs σ H) (hi:Ds[i]?=some D) (ho:OwnAt w K (hide H (f.withs Ds)) (upd H D o) D c'):CM w K f Ds H2 ρ (cs.set i c') σ (upd H D o):=by
 have hD:=amw hi
 refine⟨aiX se hD x.env,by rw [yn hD];exact x.sm,fun b hb=>(zy (fun (z:b=D)=>se.nm D hD (z▸hb))).trans (x.kp b hb),by rw [aoz];exact x.len,fun j D' c h1 h2=>?_⟩
 rw [yn hD]
 by_cases e:i=j
 ·subst e
  rw [hi] at h1
  cases h1
  have hl:i<cs.length:=by rw [x.len];exact (ami.mp hi).1
  rw [anx hl] at h2
  cases h2
  exact ho
 ·rw [aok e] at h2
  have ne:D'≠D:=fun z=>by
   subst z
   obtain⟨l1,e1⟩:=ami.mp hi
   obtain⟨l2,e2⟩:=ami.mp h1
   exact e ((aoS se.nd).mp (e1.trans e2.symm))
  exact (x.own j D' c h1 h2).mono (zy ne) (Same.refl _)
end
structure MEnds where
 nx:zp->List OC->Prop
 rt:PyData->Prop
 bk:zp->List OC->Prop:=fun _ _=>False
 ct:zp->List OC->Prop:=fun _ _=>False
def PSm (w:World) (K:amk) (f:Fx) (Ds:List Addr) (ts:TS) (ρ:zp) (cs:List OC) (O:MEnds):Prop:=Sep f Ds->∀ (σ:St) (H H2:Hp) (E:Ends),CM w K f Ds H2 ρ cs σ H ->
 (∀ ρ' cs' σ' H',CM w K f Ds H2 ρ' cs' σ' H'->O.nx ρ' cs'->E.nx σ' H')->(∀ d v ρ' cs' σ' H',CM w K f Ds H2 ρ' cs' σ' H'->Rep K (hide H' f) d v->O.rt d->E.rt v H') ->
 (∀ ρ' cs' σ' H',CM w K f Ds H2 ρ' cs' σ' H'->O.bk ρ' cs'->E.bk σ' H')->(∀ ρ' cs' σ' H',CM w K f Ds H2 ρ' cs' σ' H'->O.ct ρ' cs'->E.ct σ' H')->ts E σ H
def PTm (w:World) (K:amk) (f:Fx) (Ds:List Addr) (tt:TT) (ρ:zp) (cs:List OC) (B:Bool->Prop):Prop:=Sep f Ds->∀ (σ:St) (H H2:Hp) (Q:Bool->Hp->Prop),CM w K f Ds H2 ρ cs σ H->(∀ b H',Goes (f.withs Ds) H H'->B b->Q b H')->tt σ H Q
def PEm (w:World) (K:amk) (f:Fx) (Ds:List Addr) (te:TE) (ρ:zp) (cs:List OC) (P:PyData->Prop):Prop:=Sep f Ds->∀ (σ:St) (H H2:Hp) (Q:VK),CM w K f Ds H2 ρ cs σ H->(∀ d v H',Goes (f.withs Ds) H H'->Rep K (hide H' (f.withs Ds)) d v->P d->Q v H')->te σ H Q
def aht (w:World) (K:amk) (f:Fx) (te:TE) (ρ:zp) (P:OC->Prop):Prop:=∀ (σ:St) (H:Hp) (Q:VK),EnvOk K f ρ σ H ->
 (∀ c D H',Goes f H H'->H D=none->OwnAt w K (hide H' (f.with D)) H' D c->P c->Q (.ref D) H')->te σ H Q
section
variable {w:World} {K:amk} {f:Fx} {Ds:List Addr} {ρ:zp} {cs:List OC} {ts tu:TS} {tt:TT} {te:TE} {wi:TI} {g:TG} {O:MEnds} {i j:Nat}
theorem same_withs {H:Hp}:Same (hide H (f.withs Ds)) (hide H f):=fun b o h=>by
 obtain⟨h1,h2⟩:=zL h
 exact zG (fun z=>h1 (z.elim .inl fun z=>.inr (amF _ z))) h2
theorem ahu {D:DEnds} (h:PSm w K f [] ts ρ [] { nx:=fun ρ' _=>D.nx ρ',rt:=D.rt,bk:=fun ρ' _=>D.bk ρ',ct:=fun ρ' _=>D.ct ρ' }):PSd K f ts ρ D:=fun σ H E e n r b k=>by
 have gg:∀ {ρ':zp} {cs':List OC} {σ':St} {H':Hp},CM w K f [] H ρ' cs' σ' H'->Goes f H H':=fun x=>⟨x.sm,x.env.fd,x.kp⟩
 exact h ⟨aon,(fun _ z=>nomatch z),(fun _ z=>nomatch z)⟩ σ H H E ⟨e,Same.refl _,fun _ _=>rfl,rfl,(fun i D c z=>nomatch z)⟩
  (fun ρ' cs' σ' H' x p=>n ρ' σ' H' (gg x) x.env p) (fun d v ρ' cs' σ' H' x r' p=>r d v H' (gg x) r' p) (fun ρ' cs' σ' H' x p=>b ρ' σ' H' (gg x) x.env p) (fun ρ' cs' σ' H' x p=>k ρ' σ' H' (gg x) x.env p)
theorem adZ (h:PSd K (f.withs Ds) ts ρ { nx:=fun ρ'=>O.nx ρ' cs,rt:=O.rt,bk:=fun ρ'=>O.bk ρ' cs,ct:=fun ρ'=>O.ct ρ' cs }):PSm w K f Ds ts ρ cs O:=fun se σ H H2 E x n r b k =>
 h σ H E x.env (fun ρ' σ' H' g' e' p=>n ρ' cs σ' H' (x.go g' e') p) (fun d v H' g' r' p=>r d v ρ cs σ H' (x.go g' (x.env.mono g')) (Rep.mono same_withs d v r') p) (fun ρ' σ' H' g' e' p=>b ρ' cs σ' H' (x.go g' e') p) (fun ρ' σ' H' g' e' p=>k ρ' cs σ' H' (x.go g' e') p)
theorem aaA (h:PSm w K f Ds ts ρ cs { O with nx:=fun ρ' cs'=>PSm w K f Ds tu ρ' cs' O }):PSm w K f Ds (aae ts tu) ρ cs O:=fun se σ H H2 E x n r b k =>
 h se σ H H2 _ x (fun ρ' cs' σ' H' x' p=>p se σ' H' H2 E x' n r b k) r b k
theorem akW (h:O.nx ρ cs):PSm w K f Ds aes ρ cs O:=fun _ σ H H2 E x n r b k=>n ρ cs σ H x h
theorem al8 {B:Bool->Prop} (h:PTd K (f.withs Ds) tt ρ B):PTm w K f Ds tt ρ cs B:=fun se σ H H2 Q x q=>h σ H Q x.env q
theorem ahv {P:PyData->Prop} (h:PEd K (f.withs Ds) te ρ P):PEm w K f Ds te ρ cs P:=fun se σ H H2 Q x q=>h σ H Q x.env q
theorem al9 (h:PTm w K f Ds tt ρ cs fun b=>if b=true then PSm w K f Ds ts ρ cs O else PSm w K f Ds tu ρ cs O):PSm w K f Ds (agD tt ts tu) ρ cs O:=fun se σ H H2 E x n r b k =>
 h se σ H H2 _ x fun q H1 g1 p=>by
  have x1:=x.go g1 (x.env.mono g1)
  cases q with
  | false =>
   rw [if_neg amh] at p ⊢
   exact p se σ H1 H2 E x1 n r b k
  | true =>
   rw [if_pos rfl] at p ⊢
   exact p se σ H1 H2 E x1 n r b k
theorem ahw (h:PId K (f.withs Ds) wi ρ fun ds=>∃ J:Nat->zp->List OC->Prop,J 0 ρ cs /\
   (∀ (i:Nat) d ρ' cs',ds[i]?=some d->J i ρ' cs'->PGd K (f.withs Ds) g d ρ' fun ρ2=>PSm w K f Ds ts ρ2 cs' { O with nx:=J (i+1),ct:=J (i+1),bk:=O.nx })/\∀ ρ' cs',J ds.length ρ' cs'->O.nx ρ' cs') :
  PSm w K f Ds (aiu wi g ts) ρ cs O:=fun se σ H H2 E x n r b k=>h σ H _ x.env fun ds J H1 g1 it ⟨Jv,j0,js,jd⟩=>by
 have x1:=x.go g1 (x.env.mono g1)
 refine⟨fun i m σ' H'=>∃ ρ' cs',CM w K f Ds H2 ρ' cs' σ' H'/\Same (hide H1 (f.withs Ds)) (hide H' (f.withs Ds))/\Jv i ρ' cs'/\m+i=ds.length,⟨ds.length,ρ,cs,x1,Same.refl _,j0,rfl⟩,fun i m σ' H' ⟨ρ',cs',x',sm',p,hm⟩=>?_⟩
 by_cases hi:i<ds.length
 ·obtain⟨hgo,hy⟩:=it.go (f.withs Ds) H' i _ x'.env.fd sm' (amf hi)
  refine .inr ⟨hgo,fun σ2 H3=>∃ ρ2 cs2,CM w K f Ds H2 ρ2 cs2 σ2 H3/\Same (hide H1 (f.withs Ds)) (hide H3 (f.withs Ds))/\Jv (i+1) ρ2 cs2,fun σ2 H3 ⟨ρ2,cs2,e2,g2,p2⟩=>⟨m - 1,by omega,ρ2,cs2,e2,g2,p2,by omega⟩,fun v H3 hx=>?_⟩
  obtain⟨g3,r3⟩:=hy v H3 hx
  have x3:=x'.go g3 (x'.env.mono g3)
  refine js i _ ρ' cs' (amf hi) p σ' H3 v _ x3.env r3 fun ρ2 σ2 H4 g4 e4 p4=>?_
  have x4:=x3.go g4 e4
  have sm4:=(sm'.trans g3.sm).trans g4.sm
  exact p4 se σ2 H4 H4 _ x4.self (fun ρ5 cs5 σ5 H5 x5 p5=>⟨ρ5,cs5,x4.trans x5,sm4.trans x5.sm,p5⟩) (fun d v ρ5 cs5 σ5 H5 x5 r5 p5=>r d v ρ5 cs5 σ5 H5 (x4.trans x5) r5 p5) (fun ρ5 cs5 σ5 H5 x5 p5=>n ρ5 cs5 σ5 H5 (x4.trans x5) p5) (fun ρ5 cs5 σ5 H5 x5 p5=>⟨ρ5,cs5,x4.trans x5,sm4.trans x5.sm,p5⟩)
 ·have ei:i=ds.length:=by omega
  subst ei
  exact .inl ⟨it.st (f.withs Ds) H' x'.env.fd sm',n ρ' cs' σ' H' x' (jd ρ' cs' p)⟩
theorem aiY {tb:TS} (J:zp->List OC->Prop) (μ:zp->List OC->Nat) (h0:J ρ cs)
  (hs:∀ ρ' cs',J ρ' cs'->PTm w K f Ds tt ρ' cs' fun b=>if b=true then PSm w K f Ds tb ρ' cs' { O with nx:=fun r c=>J r c/\μ r c<μ ρ' cs',ct:=fun r c=>J r c/\μ r c<μ ρ' cs',bk:=O.nx } else O.nx ρ' cs'):PSm w K f Ds (agE tt tb) ρ cs O:=fun se σ H H2 E x n r b k=>by
 refine⟨fun m σ' H'=>∃ ρ' cs',CM w K f Ds H2 ρ' cs' σ' H'/\J ρ' cs'/\m=μ ρ' cs',⟨_,ρ,cs,x,h0,rfl⟩,?_⟩
 rintro m σ1 H1 ⟨ρ1,cs1,x1,j1,rfl⟩
 refine hs ρ1 cs1 j1 se σ1 H1 H2 _ x1 fun t H3 g3 p=>?_
 have x3:=x1.go g3 (x1.env.mono g3)
 cases t with
 | true =>
  rw [if_pos rfl] at p ⊢
  refine⟨fun σ' H'=>∃ ρ' cs',CM w K f Ds H2 ρ' cs' σ' H'/\J ρ' cs'/\μ ρ' cs'<μ ρ1 cs1,fun σ' H' ⟨ρ',cs',x',j',l'⟩=>⟨_,l',ρ',cs',x',j',rfl⟩,?_⟩
  exact p se σ1 H3 H2 _ x3 (fun ρ5 cs5 σ5 H5 x5 p5=>⟨ρ5,cs5,x5,p5⟩) r (fun ρ5 cs5 σ5 H5 x5 p5=>n ρ5 cs5 σ5 H5 x5 p5) (fun ρ5 cs5 σ5 H5 x5 p5=>⟨ρ5,cs5,x5,p5⟩)
 | false =>
  rw [if_neg amh] at p ⊢
  exact n ρ1 cs1 σ1 H3 x3 p
theorem vc {σ:St} {H H2:Hp} {D:Addr} (hi:ρ[i]?=some (some (.own (f.M.length+j)))) (x:CM w K f Ds H2 ρ cs σ H) (hD:Ds[j]?=some D):σ[i]?=some (some (.ref D)):=by
 obtain⟨v,h1,p,h2,rfl⟩:=x.env.get i _ hi
 have e:(f.withs Ds).M.reverse[f.M.length+j]?=some D:=by
  show (Ds.reverse++f.M).reverse[f.M.length+j]?=some D
  rw [aot,apS,amx (by simp)]
  simpa using hD
 rw [e] at h2
 cases h2
 exact h1
theorem ajX {es:List PyData} (hi:ρ[i]?=some (some (.own (f.M.length+j)))) (hc:cs[j]?=some (.lst es)) (hl:es.length<1000) (h:PEm w K f Ds te ρ cs fun d=>O.nx ρ (cs.set j (.lst (es++[d])))):PSm w K f Ds (aet (tBM K "list" aeF (yH i) (yQ te qJ))) ρ cs O:=fun se σ H H2 E x n r b k=>by
 have hj:j<Ds.length:=by rw [<-x.len];exact (ami.mp hc).1
 have hD:Ds[j]?=some Ds[j]:=amf hj
 obtain⟨vs0,h0,_⟩:=x.own j _ _ hD hc
 refine⟨_,vc hi x hD,Or.inl ⟨rfl,vs0,.of h0⟩,?_⟩
 refine h se σ H H2 _ x fun d v H1 g1 r1 p1=>?_
 have x1:=x.go g1 (x.env.mono g1)
 obtain⟨vs,h1,h2⟩:=x1.own j _ _ hD hc
 refine⟨_,vs,v,rfl,rfl,h1,yg (by rw [h2.length];omega),n _ _ _ _ (x1.put se hD (o:=.lst (vs++[v])) (c':=.lst (es++[d])) ⟨vs++[v],zA,h2.snoc r1⟩) p1⟩
theorem CM.more {σ:St} {H H1 H2:Hp} {D:Addr} {c:OC} (x:CM w K f Ds H2 ρ cs σ H) (g:Goes (f.withs Ds) H H1) (hn:H D=none) (ho:OwnAt w K (hide H1 ((f.withs Ds).with D)) H1 D c) (hi:i<ρ.length) :
  CM w K f (Ds++[D]) H1 (ρ.set i (some (.own (f.M.length+Ds.length)))) (cs++[c]) (σ.set i (some (.ref D))) H1:=by
 have nD:¬ ((f.withs Ds).f=some D \/ D∈(f.withs Ds).M):=fresh_ne x.env.fd hn
 have sm0:Same (hide H (f.withs Ds)) (hide H1 (f.withs (Ds++[D]))):=fun b o hb=>by
  have hb1:=g.sm b o hb
  rw [ye]
  refine zG (fun z=>?_) (zL hb1).2
  rcases z with z | z
  ·exact (zL hb1).1 (.inl z)
  ·rcases amu.mp z with rfl | z
   ·have:=(zL hb).2
    rw [hn] at this
    cases this
   ·exact (zL hb1).1 (.inr z)
 have hD1:∃ o,H1 D=some o:=by
  cases c with
  | lst es=>exact⟨_,ho.choose_spec.1⟩
  | set ks=>exact⟨_,ho.choose_spec.1⟩
  | dic kvs=>exact⟨_,ho.choose_spec.1⟩
 have fo1:FOk (f.withs (Ds++[D])) H1:=by
  rw [ye]
  refine⟨g.ok.fd,fun b hb=>?_,fun q eq hq=>?_⟩
  ·rcases amu.mp hb with rfl | hb
   ·exact hD1
   ·exact g.ok.mm b hb
  ·rcases amu.mp hq with rfl | hq
   ·exact nD (.inl eq)
   ·exact g.ok.nm q eq hq
 have rev:(f.withs (Ds++[D])).M.reverse=(f.withs Ds).M.reverse++[D]:=by
  rw [ye]
  show (D :: (f.withs Ds).M).reverse=_
  rw [ans]
 have lenr:(f.withs Ds).M.reverse.length=f.M.length+Ds.length:=by
  show (Ds.reverse++f.M).reverse.length=_
  simp
 have e1:EnvOk K (f.withs (Ds++[D])) ρ σ H1:=⟨x.env.len,fun q y hy=>by
  obtain⟨v,a1,a2⟩:=x.env.get q y hy
  refine⟨v,a1,?_⟩
  cases y with
  | dat d=>exact Rep.mono sm0 d v a2
  | feed=>exact a2
  | exc C =>
   obtain⟨b,h3,h4⟩:=a2
   exact⟨b,h3,sm0 _ _ h4⟩
  | mon φ=>exact fun H' s=>a2 H' (sm0.trans s)
  | own k =>
   obtain⟨b,h3,h4⟩:=a2
   refine⟨b,?_,h4⟩
   rw [rev,amr (ami.mp h3).1]
   exact h3,fo1⟩
 have rv:RepV K (f.withs (Ds++[D])) H1 (.own (f.M.length+Ds.length)) (.ref D):=⟨D,by
  rw [rev,amx (by omega),lenr,aoa]
  rfl,rfl⟩
 refine⟨e1.set i rv,Same.refl _,fun _ _=>rfl,by simp [x.len],fun q D' c' h1 h2=>?_⟩
 by_cases hq:q<Ds.length
 ·rw [amr hq] at h1
  rw [amr (by rw [x.len];exact hq)] at h2
  exact (x.own q D' c' h1 h2).mono (g.kp D' (jx (amw h1))) sm0
 ·by_cases hq2:q=Ds.length
  ·subst hq2
   rw [amx (amn _),aoa] at h1
   rw [amx (by rw [x.len];exact amn _),x.len,aoa] at h2
   cases h1
   cases h2
   rw [ye]
   exact ho
  ·rw [amL (by simp;omega)] at h1
   cases h1
theorem Sep.more {H:Hp} {D:Addr} (se:Sep f Ds) (fo:FOk (f.withs Ds) H) (hn:H D=none):Sep f (Ds++[D]):=by
 have nD:=fresh_ne fo hn
 refine⟨aoh.mpr ⟨se.nd,by simp,fun a ha b hb=>?_⟩,fun D' h=>?_,fun D' h=>?_⟩
 ·rw [amM.mp hb]
  intro z
  exact nD (.inr (jx (z▸ha)))
 ·rcases am4.mp h with h | h
  ·exact se.nf D' h
  ·rw [amM.mp h];exact fun z=>nD (.inl z)
 ·rcases am4.mp h with h | h
  ·exact se.nm D' h
  ·rw [amM.mp h];exact fun z=>nD (.inr (amF _ z))
theorem CM.less {σ σ':St} {H H1 H2 H':Hp} {D:Addr} {ρ':zp} {cs':List OC} (x:CM w K f Ds H2 ρ cs σ H) (g:Goes (f.withs Ds) H H1) (hn:H D=none) (y:CM w K f (Ds++[D]) H1 ρ' cs' σ' H') :
  CM w K f Ds H2 (ρ'.map (vY (f.M.length+Ds.length))) (cs'.take Ds.length) σ' H':=by
 have sub:Same (hide H' (f.withs (Ds++[D]))) (hide H' (f.withs Ds)):=by rw [ye];exact qm
 have sm1:Same (hide H (f.withs Ds)) (hide H1 (f.withs (Ds++[D]))):=fun b o hb=>by
  have hb1:=g.sm b o hb
  rw [ye]
  refine zG (fun z=>?_) (zL hb1).2
  rcases z with z | z
  ·exact (zL hb1).1 (.inl z)
  ·rcases amu.mp z with rfl | z
   ·have:=(zL hb).2
    rw [hn] at this
    cases this
   ·exact (zL hb1).1 (.inr z)
 have lenr:(f.withs Ds).M.reverse.length=f.M.length+Ds.length:=by
  show (Ds.reverse++f.M).reverse.length=_
  simp
 have rev:(f.withs (Ds++[D])).M.reverse=(f.withs Ds).M.reverse++[D]:=by
  rw [ye]
  show (D :: (f.withs Ds).M).reverse=_
  rw [ans]
 have fo:FOk (f.withs Ds) H':=by
  have h:=y.env.fd
  rw [ye] at h
  exact⟨h.fd,fun b hb=>h.mm b (amo _ hb),fun p e hp=>h.nm p e (amo _ hp)⟩
 refine⟨⟨by rw [amg];exact y.env.len,fun q z hz=>?_,fo⟩,(x.sm.trans sm1).trans (y.sm.trans sub),fun b hb=>(y.kp b hb).trans ((g.kp b (amF _ hb)).trans (x.kp b hb)),?_,fun q D' c' h1 h2=>?_⟩
 ·rw [aml] at hz
  cases e:ρ'[q]? with
  | none=>rw [e] at hz;cases hz
  | some z0 =>
   rw [e] at hz
   cases z0 with
   | none=>cases hz
   | some z0 =>
    obtain⟨v,a1,a2⟩:=y.env.get q z0 e
    cases z0 with
    | dat d =>
     cases hz
     exact⟨v,a1,Rep.mono sub d v a2⟩
    | feed =>
     cases hz
     rw [ye] at a2
     exact⟨v,a1,a2⟩
    | exc C =>
     cases hz
     obtain⟨b,h3,h4⟩:=a2
     exact⟨v,a1,b,h3,sub _ _ h4⟩
    | mon φ =>
     cases hz
     exact⟨v,a1,fun H' s=>a2 H' (sub.trans s)⟩
    | own k =>
     have hz':(if k<f.M.length+Ds.length then some (DV.own k) else none)=some z:=Option.some.inj hz
     by_cases hk:k<f.M.length+Ds.length
     ·rw [if_pos hk] at hz'
      cases hz'
      obtain⟨b,h3,h4⟩:=a2
      refine⟨v,a1,b,?_,h4⟩
      rw [rev,amr (by omega)] at h3
      exact h3
     ·rw [if_neg hk] at hz'
      cases hz'
 ·rw [amW,y.len]
  simp
 ·have hq:q<Ds.length:=(ami.mp h1).1
  rw [aow hq] at h2
  exact (y.own q D' c' (by rw [amr hq];exact h1) h2).mono rfl sub
theorem ajY (h:aht w K (f.withs Ds) te ρ fun c=>i<ρ.length/\∀ D,PSm w K f (Ds++[D]) ts (ρ.set i (some (.own (f.M.length+Ds.length)))) (cs++[c]) { nx:=fun ρ' cs'=>O.nx (ρ'.map (vY (f.M.length+Ds.length))) (cs'.take Ds.length),rt:=O.rt,bk:=fun ρ' cs'=>O.bk (ρ'.map (vY (f.M.length+Ds.length))) (cs'.take Ds.length),ct:=fun ρ' cs'=>O.ct (ρ'.map (vY (f.M.length+Ds.length))) (cs'.take Ds.length) }) :
  PSm w K f Ds (aae (qA te (jc i)) ts) ρ cs O:=fun se σ H H2 E x n r b k =>
 h σ H _ x.env fun c D H1 g1 hn ho ⟨hi,p⟩ =>
  p D (se.more x.env.fd hn) _ H1 H1 E (x.more g1 hn ho hi) (fun ρ' cs' σ' H' y q=>n _ _ σ' H' (x.less g1 hn y) q) (fun d v ρ' cs' σ' H' y r' q=>r d v _ _ σ' H' (x.less g1 hn y) r' q) (fun ρ' cs' σ' H' y q=>b _ _ σ' H' (x.less g1 hn y) q) (fun ρ' cs' σ' H' y q=>k _ _ σ' H' (x.less g1 hn y) q)
theorem ae7 {P:OC->Prop} (h:PEdO K f te ρ fun es=>P (.lst es)):aht w K f te ρ P:=fun σ H Q e q=>h σ H Q e fun es D vs H' g hn h1 rs p=>q (.lst es) D H' g hn ⟨vs,h1,rs⟩ p
def freed (n:Nat) (cs:List OC):Option DV->Option DV
 | some (.own k)=>if k<n then some (.own k) else match cs[k - n]? with
  | some (.lst es)=>some (.dat (.list es))
  | _=>none
 | x=>x
theorem CM.free {σ:St} {H H2:Hp} (se:Sep f Ds) (x:CM w K f Ds H2 ρ cs σ H):EnvOk K f (ρ.map (freed f.M.length cs)) σ H:=by
 have fo:FOk f H:=⟨x.env.fd.fd,fun b hb=>x.env.fd.mm b (amF _ hb),fun p e hp=>x.env.fd.nm p e (amF _ hp)⟩
 refine⟨by rw [amg];exact x.env.len,fun q z hz=>?_,fo⟩
 rw [aml] at hz
 cases e:ρ[q]? with
 | none=>rw [e] at hz;cases hz
 | some z0 =>
  rw [e] at hz
  cases z0 with
  | none=>cases hz
  | some z0 =>
   obtain⟨v,a1,a2⟩:=x.env.get q z0 e
   cases z0 with
   | dat d =>
    cases hz
    exact⟨v,a1,Rep.mono same_withs d v a2⟩
   | feed =>
    cases hz
    exact⟨v,a1,a2⟩
   | exc C =>
    cases hz
    obtain⟨b,h3,h4⟩:=a2
    exact⟨v,a1,b,h3,same_withs _ _ h4⟩
   | mon φ =>
    cases hz
    exact⟨v,a1,fun H' s=>a2 H' (same_withs.trans s)⟩
   | own k =>
    obtain⟨b,h3,h4⟩:=a2
    have h3':(Ds.reverse++f.M).reverse[k]?=some b:=h3
    rw [aot,apS] at h3'
    have hz':(if k<f.M.length then some (DV.own k) else match cs[k - f.M.length]? with | some (.lst es)=>some (.dat (.list es)) | _=>none)=some z:=Option.some.inj hz
    by_cases hk:k<f.M.length
    ·rw [if_pos hk] at hz'
     cases hz'
     rw [amr (by simpa using hk)] at h3'
     exact⟨v,a1,b,h3',h4⟩
    ·rw [if_neg hk] at hz'
     rw [amx (by simpa using Nat.not_lt.mp hk),amZ] at h3'
     cases ec:cs[k - f.M.length]? with
     | none=>rw [ec] at hz';cases hz'
     | some c =>
      rw [ec] at hz'
      cases c with
      | lst es =>
       cases hz'
       obtain⟨vs,h5,h6⟩:=x.own _ _ _ h3' ec
       have hb:=amw h3'
       exact⟨v,a1,rep_list.mpr ⟨b,vs,h4,.of (zG (fun z=>z.elim (se.nf b hb) (se.nm b hb)) h5),Reps.mono same_withs es vs h6⟩⟩
      | set ks=>cases hz'
      | dic kvs=>cases hz'
theorem CM.goF {σ:St} {H H2 H':Hp} (se:Sep f Ds) (x:CM w K f Ds H2 ρ cs σ H) (g:Goes f H H'):CM w K f Ds H2 ρ cs σ H':=by
 have keep:∀ b∈Ds,H' b=H b:=fun b hb=>by
  obtain⟨o,ho⟩:=x.env.fd.mm b (jx hb)
  rw [ho]
  exact (zL (g.sm b o (zG (fun z=>z.elim (se.nf b hb) (se.nm b hb)) ho))).2
 have g2:Goes (f.withs Ds) H H':=⟨fun b o hb=>by
   have hb':=zL hb
   have:=zL (g.sm b o (same_withs b o hb))
   exact zG hb'.1 this.2,⟨g.ok.fd,fun b hb=>by
   rcases am4.mp hb with hb | hb
   ·obtain⟨o,ho⟩:=x.env.fd.mm b (anf _ hb)
    exact⟨o,by rw [keep b (anE.mp hb)];exact ho⟩
   ·exact g.ok.mm b hb,x.env.fd.nm⟩,fun b hb=>by
   rcases am4.mp hb with hb | hb
   ·exact keep b (anE.mp hb)
   ·exact g.kp b hb⟩
 exact x.go g2 (x.env.mono g2)
theorem ahx (h:PSd K f ts (ρ.map (freed f.M.length cs)) { nx:=fun _=>False,rt:=O.rt }):PSm w K f Ds ts ρ cs O:=fun se σ H H2 E x n r b k =>
 h σ H E (x.free se) (fun _ _ _ _ _ z=>z.elim) (fun d v H' g' r' p=>r d v ρ cs σ H' (x.goF se g') r' p) (fun _ _ _ _ _ z=>z.elim) (fun _ _ _ _ _ z=>z.elim)
end
def af6 (w:World) (K:amk) (f:Fx) (Ds:List Addr) (ts:TS) (ρ:zp) (cs:List OC) (R:List PyData->Prop):Prop:=Sep f Ds->∀ (σ:St) (H H2:Hp) (E:Ends),CM w K f Ds H2 ρ cs σ H ->
 (∀ es D vs ρ' cs' σ' H0 H',CM w K f Ds H2 ρ' cs' σ' H0->Goes f H0 H'->H0 D=none->H' D=some (.lst vs)->Reps K (hide H' (f.with D)) es vs->R es->E.rt (.ref D) H')->ts E σ H
section
variable {w:World} {K:amk} {f:Fx} {Ds:List Addr} {ρ:zp} {cs:List OC} {ts tu:TS} {te:TE} {R:List PyData->Prop} {i:Nat}
theorem aiZ (h:af6 w K f [] ts ρ [] R):PSn K f ts ρ R:=fun σ H E e q=>by
 refine h ⟨aon,(fun _ z=>nomatch z),(fun _ z=>nomatch z)⟩ σ H H E ⟨e,Same.refl _,fun _ _=>rfl,rfl,(fun i D c z=>nomatch z)⟩ fun es D vs ρ' cs' σ' H0 H' x g hn h1 rs p=>?_
 have g0:Goes f H H0:=⟨x.sm,x.env.fd,x.kp⟩
 exact q es D vs H' (g0.trans g) (g0.free e.fd hn) h1 rs p
theorem akX (h:PSm w K f Ds ts ρ cs { nx:=fun ρ' cs'=>af6 w K f Ds tu ρ' cs' R,rt:=fun _=>False }):af6 w K f Ds (aae ts tu) ρ cs R:=fun se σ H H2 E x q =>
 h se σ H H2 _ x (fun ρ' cs' σ' H' x' p=>p se σ' H' H2 E x' q) (fun _ _ _ _ _ _ _ _ z=>z.elim) (fun _ _ _ _ _ z=>z.elim) (fun _ _ _ _ _ z=>z.elim)
theorem ahy (h:aht w K (f.withs Ds) te ρ fun c=>i<ρ.length/\∀ D,af6 w K f (Ds++[D]) ts (ρ.set i (some (.own (f.M.length+Ds.length)))) (cs++[c]) R) :
  af6 w K f Ds (aae (qA te (jc i)) ts) ρ cs R:=fun se σ H H2 E x q =>
 h σ H _ x.env fun c D H1 g1 hn ho ⟨hi,p⟩ =>
  p D (se.more x.env.fd hn) _ H1 H1 E (x.more g1 hn ho hi) fun es D' vs ρ' cs' σ' H0 H' y g hn' h1 rs pr=>q es D' vs _ _ σ' H0 H' (x.less g1 hn y) g hn' h1 rs pr
theorem ai0 (h:PSn K f ts (ρ.map (freed f.M.length cs)) R):af6 w K f Ds ts ρ cs R:=fun se σ H H2 E x q =>
 h σ H E (x.free se) fun es D vs H' g hn h1 rs p=>q es D vs ρ cs σ H H' x g hn h1 rs p
end
theorem SetO.ok {P:Program} {w:World} {H:Hp} {h:Heap} {a:Addr} {xs:List (PyData×Addr)} {o:Obj} {es:Array (Int×Value)} {ep:Nat} {t:SetTable} (S:SetObj w h a xs o es ep t):ObjOk P w H h a (SetO w a xs) :=
 ⟨⟨o,es,ep,t,S⟩,⟨o,S.ob⟩,fun h1 h2 ⟨o,es,ep,t,S⟩ k=>⟨o,es,ep,t,⟨k o S.ob,S.ex,S.da,S.el,S.ok⟩⟩⟩
theorem af7 (led:Bool):ST.TOk (SetTable.fresh 0 0 led) [] where
 mask:=.inl rfl
 dum:=rfl
 rise:=fun i j _ hj=>absurd hj (ank _)
 le:=fun i hi=>absurd hi (ank _)
 size:=rfl
 most:=amT _
 reach:=fun i hi=>absurd hi (ank _)
 room:=by show 0 * 5<7 * 3;decide
def abU (w:World):List V->Hp->VK->Prop:=fun xs H Q=>xs=[]/\∀ a,H a=none->Q (.ref a) (upd H a (SetO w a []))
theorem ac0 {X:Cx}:yj X (.type "set") (abU X.w):=by
 intro pins s σ H xs us Q I r h
 obtain⟨rfl,q⟩:=h
 cases r
 refine call_set_0 fun led=>?_
 refine⟨.ref s.heap.objs.size,_,I.laid (t':=s.toks) (fun b u e=>amq _ e) (amn _) (SetO.ok (xs:=[]) (o:={ cls:=.type "set",dict:=none,data:=.set #[] 0 (.fresh 0 0 led) }) (es:=#[]) (ep:=0) (t:=.fresh 0 0 led) ⟨amH _ rfl,⟨rfl,rfl,rfl⟩,rfl,rfl,af7 led⟩),rfl,q _ (I.hok.fresh (amn _))⟩
def af8 (d:PyData):Prop:=vb d/\∃ xs,d=.tuple xs
theorem v7 {K:amk} {H:Hp} {d:PyData} {v:V} (k:af8 d) (r:Rep K H d v):∃ b,v=.ref b:=by
 obtain⟨_,xs,rfl⟩:=k
 obtain⟨a,_,e,_⟩:=rep_tuple.mp r
 exact⟨a,e⟩
theorem qP {X:Cx} {pins:List (Addr×Obj)} {σ:St} {H:Hp} {s:Shared} {d:PyData} {b:Addr} (I:Inv X pins σ H s) (k:vb d) (r:Rep X.K H d (.ref b)):KeyAt s.heap d b:=by
 obtain⟨as,ra⟩:=yB I d (.ref b) (.ref b) r rfl
 exact⟨⟨as,ra⟩,k.1,k.2⟩
def akY (w:World) (K:amk) (neg:Bool):R2:=fun x y H Q=>∃ a b d xs,x=.ref b/\y=.ref a/\H a=some (SetO w a xs)/\(∀ z∈xs,vb z.1/\Rep K H z.1 (.ref z.2))/\vb d/\Rep K H d (.ref b)/\Q (.bl (if neg then !decide (d∈xs.map (·.1)) else decide (d∈xs.map (·.1)))) H
theorem ai1 {X:Cx} (hu:X.A.units+64<cLine) {pins:List (Addr×Obj)} {s:Shared} {σ:St} {H:Hp} {a b:Addr} {d:PyData} {xs:List (PyData×Addr)} (I:Inv X pins σ H s) (hS:H a=some (SetO X.w a xs)) (ks:∀ z∈xs,vb z.1/\Rep X.K H z.1 (.ref z.2)) (kd:vb d) (rd:Rep X.K H d (.ref b)) {Q:Bool->Shared->Prop} {E:Value->Shared->Prop}
  (q:Q (decide (d∈xs.map (·.1))) { s with toks:=s.toks+zO d }):wpAny (model X.prog X.w) X.A (contains (.ref a) (.ref b)) Q E s:=by
 obtain⟨⟨o,es,ep,t,S⟩,_⟩:=I.hok a _ hS
 exact acZ S (fun x hx=>qP I (ks x hx).1 (ks x hx).2) (qP I kd rd) (by omega) q
theorem af9 {X:Cx} (hu:X.A.units+64<cLine):OpR X (compareOp .NotIn) (akY X.w X.K true):=by
 intro pins s σ H x y v u Q I rx ry h
 obtain⟨a,b,d,xs,rfl,rfl,hS,ks,kd,rd,q⟩:=h
 cases rx
 cases ry
 show wpAny _ _ (do return Value.bool (!(<- contains (.ref a) (.ref b)))) _ _ s
 apply wpAny_bind
 exact ai1 hu I hS ks kd rd (wpAny_pure ⟨.bl _,H,I.tok _,rfl,q⟩)
theorem ad0 {X:Cx} {K:amk} {w:World} (hw:X.w=w) (hK:X.K=K) (hu:X.A.units+64<cLine):OpR X (compareOp .NotIn) (akY w K true):=hw▸hK▸af9 hu
def ahz (w:World) (K:amk):V->List V->Hp->VK->Prop:=fun x ys H Q=>∃ a b d xs,x=.ref a/\ys=[.ref b]/\H a=some (SetO w a xs)/\(∀ z∈xs,vb z.1/\Rep K H z.1 (.ref z.2))/\vb d/\Rep K H d (.ref b)/\xs.length<300 /\
 (d∈xs.map (·.1)->Q .non H)/\(d∉xs.map (·.1)->∀ xs',xs'.Perm ((d,b) :: xs)->Q .non (upd H a (SetO w a xs')))
theorem ai2 {X:Cx} (hu:X.A.units+64<cLine):MtR X "set.add" (ahz X.w X.K):=by
 intro pins s σ H x ys v us Q I rx ry h
 obtain⟨a,b,d,xs,rfl,rfl,hS,ks,kd,rd,few,q1,q2⟩:=h
 obtain⟨u,rfl,ru⟩:=vals1 ry
 cases rx
 cases ru
 obtain⟨⟨o,es,ep,t,S⟩,_⟩:=I.hok a _ hS
 refine akV S (fun x hx=>qP I (ks x hx).1 (ks x hx).2) (qP I kd rd) (by omega) few (fun hd=>⟨.non,H,I.tok _,rfl,q1 hd⟩) fun hd xs' o' es' ep' t' h' pm sb S'=>?_
 refine⟨.non,_,I.write (t':=s.toks+zO d) (x:=a) (e:=a) (by rw [hS];exact trivial) (.inl rfl) (fun b u nb e=>(sb.2 b nb).trans e) ⟨o',S'.ob⟩ (SetO.ok S'),rfl,q2 hd xs' pm⟩
theorem ahA {X:Cx} {K:amk} {w:World} (hw:X.w=w) (hK:X.K=K) (hu:X.A.units+64<cLine):MtR X "set.add" (ahz w K):=hw▸hK▸ai2 hu
theorem abV {X:Cx} {w:World} (hw:X.w=w):yj X (.type "set") (abU w):=hw▸ac0
def alQ (w:World) (r:V->List V->Hp->VK->Prop) (to:TE) (t:TA):TE:=fun σ H Q=>to σ H fun x H1=>(∃ a xs,x=.ref a/\H1 a=some (SetO w a xs))/\t σ H1 fun xs H2=>r x xs H2 Q
theorem akZ {X:Cx} {w:World} {o e:Expr} {es:List Expr} {to:TE} {t:TA} {name:Str} {apos cpos:Pos} {id:String} {r:V->List V->Hp->VK->Prop} (hw:X.w=w) (slot:Slot "set" name id) (hty:typeOf (.builtin id)=pure (.type "method_descriptor")) (hm:MtR X id r) (ho:PE X o to) (ha:PA X (e :: es) t)
  (hbase:attributeBase o name X.env (eval o X.env)=eval o X.env:=by rfl)
  (hfew:((backTo cpos (starEach (e :: es) X.env)).all (fun x=>!x.1) && (backToKw cpos (keywordEach [] X.env)).all (fun x=>x.1.isSome)
   && decide ((e :: es).length+([]:List Keyword).length+(if ([]:List Keyword).isEmpty then 0 else 1)<30))=true:=by rfl)
  (hline:(apos.endLine == cpos.line)=true:=by rfl) (hs:starEach (e :: es) X.env=(false,eval e X.env) :: starEach es X.env:=by rfl) (hplain:(backTo cpos (starEach es X.env)).any (·.1)=false:=by rfl) :
  PE X (.Call (.Attribute o name apos) (e :: es) [] cpos) (alQ w r to t):=by
 subst hw
 intro pins s σ H Q I h
 refine wpAny_Call_method_late hbase hfew hline rfl (thn (ho pins s σ H _ I h) fun v s1 ⟨x,H1,I1,r1,ty,q1⟩=>?_)
 obtain⟨a,xs,rfl,hS⟩:=ty
 cases r1
 obtain⟨⟨ob,es',ep,t',S⟩,_⟩:=I1.hok a _ hS
 refine⟨"set",id,PySem.F.plainAttrs_set,slot,hty,⟨ob,S.ob,S.ex.1⟩,fun b e=>?_,?_⟩
 ·cases e
  exact⟨ob,S.ob,S.ex.2.1⟩
 have hA:=ha cpos pins s1 σ H1 _ I1 q1
 rw [hs] at hA ⊢
 refine apz (by show (false || (backTo cpos (starEach es X.env)).any (·.1))=false;rw [hplain] <;> rfl) (apM ?_)
 exact thn hA fun us s2 ⟨vs,H2,I2,r2,q2⟩=>hm pins s2 σ H2 (.ref a) vs (.ref a) us Q I2 rfl r2 q2
section
variable {w:World} {K:amk} {f:Fx} {Ds:List Addr} {ρ:zp} {cs:List OC} {te:TE} {O:MEnds} {i j:Nat} {ks:List PyData}
theorem ak0 {P:OC->Prop} (p:P (.set [])):aht w K f (tCB (abU w) qJ) ρ P:=fun σ H Q e q =>
 ⟨rfl,fun a hn=>q (.set []) a _ (.of_same (ya hn _) e.fd) hn ⟨[],zA,(fun _ z=>nomatch z),(fun d=>Iff.rfl),amn 0⟩ p⟩
theorem alR {neg:Bool} {B:Bool->Prop} (hi:ρ[i]?=some (some (.own (f.M.length+j)))) (hc:cs[j]?=some (.set ks)) (h:PEm w K f Ds te ρ cs fun d=>af8 d/\B (if neg then !decide (d∈ks) else decide (d∈ks))) :
  PTm w K f Ds (aex (tOp (akY w K neg) te (yH i))) ρ cs B:=fun se σ H H2 Q x q=>by
 have hj:j<Ds.length:=by rw [<-x.len];exact (ami.mp hc).1
 have hD:Ds[j]?=some Ds[j]:=amf hj
 refine h se σ H H2 _ x fun d v H1 g1 r1 ⟨kd,p⟩=>?_
 have x1:=x.go g1 (x.env.mono g1)
 obtain⟨b,rfl⟩:=v7 kd r1
 obtain⟨xs,h1,h2,h3,_⟩:=x1.own j _ _ hD hc
 refine⟨_,vc hi x1 hD,Ds[j],b,d,xs,rfl,rfl,h1,fun z hz=>⟨(h2 z hz).1,Rep.mono (zf _ _) _ _ (h2 z hz).2⟩,kd.1,Rep.mono (zf _ _) _ _ r1,_,rfl,?_⟩
 have:decide (d∈xs.map (·.1))=decide (d∈ks):=decide_eq_decide.mpr (h3 d)
 rw [this]
 exact q _ H1 g1 p
theorem alS (hi:ρ[i]?=some (some (.own (f.M.length+j)))) (hc:cs[j]?=some (.set ks)) (hl:ks.length<300) (h:PEm w K f Ds te ρ cs fun d=>af8 d/\(d∈ks->O.nx ρ cs)/\(d∉ks->O.nx ρ (cs.set j (.set (d :: ks))))) :
  PSm w K f Ds (aet (alQ w (ahz w K) (yH i) (yQ te qJ))) ρ cs O:=fun se σ H H2 E x n r b k=>by
 have hj:j<Ds.length:=by rw [<-x.len];exact (ami.mp hc).1
 have hD:Ds[j]?=some Ds[j]:=amf hj
 obtain⟨xs0,h0,_⟩:=x.own j _ _ hD hc
 refine⟨_,vc hi x hD,⟨Ds[j],xs0,rfl,h0⟩,?_⟩
 refine h se σ H H2 _ x fun d v H1 g1 r1 ⟨kd,p1,p2⟩=>?_
 have x1:=x.go g1 (x.env.mono g1)
 obtain⟨b,rfl⟩:=v7 kd r1
 obtain⟨xs,h1,h2,h3,h4⟩:=x1.own j _ _ hD hc
 refine⟨Ds[j],b,d,xs,rfl,rfl,h1,fun z hz=>⟨(h2 z hz).1,Rep.mono (zf _ _) _ _ (h2 z hz).2⟩,kd.1,Rep.mono (zf _ _) _ _ r1,by omega,fun hd=>n _ _ _ _ x1 (p1 ((h3 d).mp hd)),fun hd xs' pm=>n _ _ _ _ (x1.put se hD (c':=.set (d :: ks)) ⟨xs',zA,fun z hz=>?_,fun e=>?_,?_⟩) (p2 fun z=>hd ((h3 d).mpr z))⟩
 ·rcases amu.mp (pm.mem_iff.mp hz) with rfl | hz
  ·exact⟨kd.1,r1⟩
  ·exact h2 z hz
 ·rw [(pm.map (·.1)).mem_iff,amG,amu,amu,h3 e]
 ·rw [pm.length_eq,amB,amB]
  omega
end
theorem DicO.ok {P:Program} {w:World} {H:Hp} {h:Heap} {a:Addr} {xs:List (PyData×Addr×Value)} {o:Obj} {es:Array DictEntry} {ep:Nat} (S:DicObj w h a xs o es ep):ObjOk P w H h a (DicO w a xs) :=
 ⟨⟨o,es,ep,S⟩,⟨o,S.ob⟩,fun h1 h2 ⟨o,es,ep,S⟩ k=>⟨o,es,ep,⟨k o S.ob,S.ex,S.da,S.el,S.nd,S.ns⟩⟩⟩
theorem ai3 {X:Cx} {pins:List (Addr×Obj)} {σ:St} {H:Hp} {s:Shared} (I:Inv X pins σ H s):sysModules<s.heap.objs.size :=
 aoM (by decide) (I.ok.mod.glob.keeps I.bk).lt
def ae8 (w:World):TE:=fun _ H Q=>∀ p,H p=none->Q (.ref p) (upd H p (DicO w p []))
theorem aga {X:Cx} {w:World} {pos:Pos} (hw:X.w=w):PE X (.Dict [] [] pos) (ae8 w):=by
 subst hw
 intro pins s σ H Q I h
 refine wpAny_Dict_empty ⟨.ref s.heap.objs.size,_,I.laid (a:=s.heap.objs.size) (t':=s.toks) (fun _ _ q=>amq _ q) (amn _) (DicO.ok (xs:=[]) (o:={ cls:=.type "dict",data:=.dict #[] }) (es:=#[]) (ep:=0) ⟨amH _ rfl,⟨rfl,rfl,rfl⟩,rfl,rfl,aon,beq_eq_false_iff_ne.mpr (anq (amQ (ai3 I)))⟩),rfl,h _ (I.hok.fresh (amn _))⟩
abbrev abW (K:amk) (H:Hp) (xs:List (PyData×Addr×Value)):Prop:=∀ z∈xs,vb z.1/\Rep K H z.1 (.ref z.2.1)
theorem ahB {X:Cx} {pins:List (Addr×Obj)} {σ:St} {H:Hp} {s:Shared} {a:Addr} {xs:List (PyData×Addr×Value)} (I:Inv X pins σ H s) (hS:H a=some (DicO X.w a xs)) (ks:abW X.K H xs):s.heap.DictOfH (v5 X.prog X.w) a xs/\(a == sysModules)=false:=by
 obtain⟨⟨o,es,ep,S⟩,_⟩:=I.hok a _ hS
 exact⟨⟨o,es,ep,S.ob,S.ex,S.da,S.el,fun x hx=>qP I (ks x hx).1 (ks x hx).2,S.nd⟩,S.ns⟩
def abX (w:World) (K:amk):V->V->V->Hp->(Hp->Prop)->Prop:=fun o i v H Q=>∃ a b d xs,o=.ref a/\i=.ref b/\H a=some (DicO w a xs)/\abW K H xs/\vb d/\Rep K H d (.ref b)/\xs.length<=1000/\∀ u,RelV v u->Q (upd H a (DicO w a (storedH xs d b u)))
theorem ai4 {X:Cx} (hu:X.A.units+64<cLine):air X (abX X.w X.K):=by
 intro pins s σ H o i v ov iv u Q I ro ri rv h
 obtain⟨a,b,d,xs,rfl,rfl,hS,ks,kd,rd,hl,q⟩:=h
 cases ro
 cases ri
 obtain⟨hm,ns⟩:=ahB I hS ks
 have hu1:X.A.in1.units=X.A.units+1:=rfl
 refine wpAny_setItem_heap (by show _+40<cLine;omega) (qP I kd rd) hm (fun h' hm' sb=>?_) (anb (yg hl))
 obtain⟨o',es',ep',x1,x2,x3,x4,x5,x6⟩:=hm'
 exact⟨_,I.write (t':=s.toks+zO d) (x:=a) (e:=a) (by rw [hS];exact trivial) (.inl rfl) (fun b u nb e=>(sb.2 b nb).trans e) ⟨o',x1⟩ (DicO.ok ⟨x1,x2,x3,x4,x6,ns⟩),q u rv⟩
theorem ac1 {X:Cx} {K:amk} {w:World} (hw:X.w=w) (hK:X.K=K) (hu:X.A.units+64<cLine):air X (abX w K):=hw▸hK▸ai4 hu
def ad1 (w:World) (K:amk):R2:=fun x y H Q=>∃ a b d xs p v,x=.ref a/\y=.ref b/\H a=some (DicO w a xs)/\abW K H xs/\vb d/\Rep K H d (.ref b)/\atKey xs d=some p/\RelV v p.2/\Q v H
theorem ak1 {X:Cx} (hu:X.A.units+64<cLine):IxR X (ad1 X.w X.K):=by
 intro value slice pins s σ H x y v u Q I rx ry h hs
 obtain⟨a,b,d,xs,p,z,rfl,rfl,hS,ks,kd,rd,hp,rz,q⟩:=h
 cases rx
 cases ry
 obtain⟨hm,ns⟩:=ahB I hS ks
 have hu1:X.A.in1.units=X.A.units+1:=rfl
 refine subscriptTail_builtinR (x:=p.2) hm.typeIs api.lookup ?_ hs
 exact wpAny_getItem_heap (by show _+40<cLine;omega) (qP I kd rd) hm hp ⟨rfl,z,H,I.tok _,rz,q⟩
theorem ai5 {X:Cx} {K:amk} {w:World} (hw:X.w=w) (hK:X.K=K) (hu:X.A.units+64<cLine):IxR X (ad1 w K):=hw▸hK▸ak1 hu
noncomputable def dput (k v:PyData) (kvs:List (PyData×PyData)):List (PyData×PyData):=if k∈kvs.map (·.1) then kvs.map (fun p=>if p.1=k then (p.1,v) else p) else kvs++[(k,v)]
noncomputable def vd (k:PyData) (kvs:List (PyData×PyData)):Option PyData:=(kvs.find? fun p=>decide (p.1=k)).map (·.2)
section
variable {K:amk} {Hh:Hp}
theorem ae9:∀ {xs:List (PyData×Addr×Value)} {kvs:List (PyData×PyData)},Paired (EntR K Hh) xs kvs->xs.length=kvs.length
 | _,_,.nil=>rfl
 | _,_,.cons _ t=>by rw [amB,amB,ae9 t]
theorem qb:∀ {xs:List (PyData×Addr×Value)} {kvs:List (PyData×PyData)},Paired (EntR K Hh) xs kvs->abW K Hh xs
 | _,_,.nil=>fun z hz=>nomatch hz
 | _,_,.cons h t=>fun z hz=>by
  rcases amu.mp hz with rfl | hz
  ·exact⟨h.2.1,h.2.2.1⟩
  ·exact qb t z hz
theorem abY (k:PyData):∀ {xs:List (PyData×Addr×Value)} {kvs:List (PyData×PyData)},Paired (EntR K Hh) xs kvs->(atKey xs k=none/\vd k kvs=none/\k∉kvs.map (·.1)) \/ ∃ p d v,atKey xs k=some p/\vd k kvs=some d/\Rep K Hh d v/\RelV v p.2/\k∈kvs.map (·.1)
 | _,_,.nil=>.inl ⟨rfl,rfl,fun z=>nomatch z⟩
 | x :: xs,p :: kvs,.cons ⟨h1,h2,h3,v,h4,h5⟩ t=>by
  by_cases e:x.1=k
  ·refine .inr ⟨x.2,p.2,v,?_,?_,h4,h5,?_⟩
   ·unfold atKey;rw [ao3,decide_eq_true e];rfl
   ·unfold vd;rw [ao3,decide_eq_true (h1▸e)];rfl
   ·rw [amG];exact amu.mpr (.inl (h1▸e).symm)
  ·have e':¬ p.1=k:=fun z=>e (h1.trans z)
   have a1:atKey (x :: xs) k=atKey xs k:=by unfold atKey;rw [ao3,decide_eq_false e]
   have a2:vd k (p :: kvs)=vd k kvs:=by unfold vd;rw [ao3,decide_eq_false e']
   rw [a1,a2,amG]
   rcases abY k t with⟨b1,b2,b3⟩ | ⟨q,d,u,b1,b2,b3,b4,b5⟩
   ·exact .inl ⟨b1,b2,fun z=>(amu.mp z).elim (fun z=>e' z.symm) b3⟩
   ·exact .inr ⟨q,d,u,b1,b2,b3,b4,amo _ b5⟩
theorem afa (k:PyData) {d:PyData} {v:V} {u:Value} (rd:Rep K Hh d v) (rv:RelV v u):∀ {xs:List (PyData×Addr×Value)} {kvs:List (PyData×PyData)},Paired (EntR K Hh) xs kvs->Paired (EntR K Hh) (xs.map (putAt k u)) (kvs.map fun p=>if p.1=k then (p.1,d) else p)
 | _,_,.nil=>.nil
 | x :: xs,p :: kvs,.cons ⟨h1,h2,h3,w,h4,h5⟩ t=>by
  rw [amG,amG]
  refine .cons ?_ (afa k rd rv t)
  unfold putAt
  by_cases e:x.1=k
  ·rw [if_pos e,if_pos (h1▸e)]
   exact⟨h1,h2,h3,v,rd,rv⟩
  ·rw [if_neg e,if_neg (fun z=>e (h1.trans z))]
   exact⟨h1,h2,h3,w,h4,h5⟩
theorem afb {x:PyData×Addr×Value} {p:PyData×PyData} (h:EntR K Hh x p):∀ {xs:List (PyData×Addr×Value)} {kvs:List (PyData×PyData)},Paired (EntR K Hh) xs kvs->Paired (EntR K Hh) (xs++[x]) (kvs++[p])
 | _,_,.nil=>.cons h .nil
 | _,_,.cons h' t=>.cons h' (afb h t)
theorem ai6 {k d:PyData} {b:Addr} {v:V} {u:Value} (kk:vb k) (rk:Rep K Hh k (.ref b)) (rd:Rep K Hh d v) (rv:RelV v u) {xs:List (PyData×Addr×Value)} {kvs:List (PyData×PyData)} (t:Paired (EntR K Hh) xs kvs):Paired (EntR K Hh) (storedH xs k b u) (dput k d kvs):=by
 unfold storedH dput
 rcases abY k t with⟨b1,b2,b3⟩ | ⟨q,d',v',b1,b2,b3,b4,b5⟩
 ·rw [b1,if_neg (by simp),if_neg b3]
  exact afb ⟨rfl,kk,rk,v,rd,rv⟩ t
 ·rw [b1,if_pos (show (some q).isSome=true from rfl),if_pos b5]
  exact afa k rd rv t
end
section
variable {w:World} {K:amk} {f:Fx} {Ds:List Addr} {ρ:zp} {cs:List OC} {te tk:TE} {O:MEnds} {i j:Nat} {kvs:List (PyData×PyData)}
theorem ak2 {P:OC->Prop} (p:P (.dic [])):aht w K f (ae8 w) ρ P:=fun σ H Q e q =>
 fun a hn=>q (.dic []) a _ (.of_same (ya hn _) e.fd) hn ⟨[],zA,.nil⟩ p
theorem ajZ (hi:ρ[i]?=some (some (.own (f.M.length+j)))) (hc:cs[j]?=some (.dic kvs)) (hl:kvs.length<=1000)
  (h:PEd K (f.withs Ds) te ρ fun v=>PEd K (f.withs Ds) tk ρ fun k=>af8 k/\O.nx ρ (cs.set j (.dic (dput k v kvs)))) :
  PSm w K f Ds (qA te (acr (yH i) tk (abX w K))) ρ cs O:=fun se σ H H2 E x n r b k=>by
 have hj:j<Ds.length:=by rw [<-x.len];exact (ami.mp hc).1
 have hD:Ds[j]?=some Ds[j]:=amf hj
 refine h σ H _ x.env fun v vv H1 g1 r1 p1=>?_
 have x1:=x.go g1 (x.env.mono g1)
 refine⟨_,vc hi x1 hD,?_⟩
 refine p1 σ H1 _ x1.env fun kd kv H3 g3 r3 ⟨kt,p3⟩=>?_
 have x3:=x1.go g3 (x1.env.mono g3)
 obtain⟨b',rfl⟩:=v7 kt r3
 obtain⟨xs,h1,h2⟩:=x3.own j _ _ hD hc
 have rv:=Rep.mono g3.sm _ _ r1
 refine⟨Ds[j],b',kd,xs,rfl,rfl,h1,fun z hz=>⟨(qb h2 z hz).1,Rep.mono (zf _ _) _ _ (qb h2 z hz).2⟩,kt.1,Rep.mono (zf _ _) _ _ r3,by rw [ae9 h2];exact hl,fun u ru=>?_⟩
 exact n _ _ _ _ (x3.put se hD (c':=.dic (dput kd v kvs)) ⟨_,zA,ai6 kt.1 r3 rv ru h2⟩) p3
theorem alT {P:PyData->Prop} (hi:ρ[i]?=some (some (.own (f.M.length+j)))) (hc:cs[j]?=some (.dic kvs)) (h:PEm w K f Ds tk ρ cs fun k=>af8 k/\∃ d,vd k kvs=some d/\P d):PEm w K f Ds (tOp (ad1 w K) (yH i) tk) ρ cs P:=fun se σ H H2 Q x q=>by
 have hj:j<Ds.length:=by rw [<-x.len];exact (ami.mp hc).1
 have hD:Ds[j]?=some Ds[j]:=amf hj
 refine⟨_,vc hi x hD,?_⟩
 refine h se σ H H2 _ x fun k v H1 g1 r1 ⟨kt,d,hd,p⟩=>?_
 have x1:=x.go g1 (x.env.mono g1)
 obtain⟨b,rfl⟩:=v7 kt r1
 obtain⟨xs,h1,h2⟩:=x1.own j _ _ hD hc
 rcases abY k h2 with⟨b1,b2,b3⟩ | ⟨pp,d',v',b1,b2,b3,b4,b5⟩
 ·rw [b2] at hd;cases hd
 ·rw [b2] at hd
  cases hd
  exact⟨Ds[j],b,k,xs,pp,v',rfl,rfl,h1,fun z hz=>⟨(qb h2 z hz).1,Rep.mono (zf _ _) _ _ (qb h2 z hz).2⟩,kt.1,Rep.mono (zf _ _) _ _ r1,b1,b4,q _ _ H1 g1 b3 p⟩
theorem alU (h:PEm w K f Ds te ρ cs O.rt):PSm w K f Ds (afH te) ρ cs O:=fun se σ H H2 E x n r b k =>
 h se σ H H2 _ x fun d v H' g' r' p=>r d v ρ cs σ H' (x.go g' (x.env.mono g')) (Rep.mono same_withs d v r') p
end
def ai7 (K:amk) (ns:List Int) (v:Value):Bool:=match v with
 | .ref t=>(match K.lookup t with
  | some o=>o.cls == .type "tuple" && (match o.data with
   | .seq its _=>KTD.intsLook its.toList ns && decide (its.size<=1000)
   | _=>false)
  | none=>false)
 | _=>false
def agb (K:amk) (a:Addr) (D:List (Str×List Int)):Bool:=!(a == sysModules) && (match K.lookup a with
 | some o=>o.cls == .type "dict" && o.dict.isNone && o.slots.isEmpty && (match o.data with
  | .dict es _=>KTD.rowsLook (ai7 K) es.toList D
  | _=>false)
 | none=>false)
theorem abf:∀ {vs:List Value} {ns:List Int},IntsAre vs ns->Vals (ns.map V.int) vs
 | _,_,.nil=>.nil
 | _,_,.cons n t h=>.cons ⟨t,rfl⟩ (abf h)
theorem ak3 {K:amk} {ns:List Int} {v:Value} (h:ai7 K ns v=true):∃ t,v=.ref t/\∀ H,SqT K H t (ns.map V.int):=by
 unfold ai7 at h
 split at h
 ·rename_i t
  split at h
  ·rename_i o ho
   rw [ams] at h
   obtain⟨h1,h2⟩:=h
   split at h2
   ·rename_i its n hd
    rw [ams] at h2
    exact⟨t,rfl,fun H=>.inr ⟨o,its,n,ho,beq_iff_eq.mp h1,hd,anb (yg (of_decide_eq_true h2.2)),abf (KTD.ints_of_look h2.1)⟩⟩
   ·cases h2
  ·cases h
 ·cases h
def alV (K:amk) (D:List (Str×List Int)) (tk:TE):TE:=fun σ H Q=>tk σ H fun y H1=>∃ x ns,y=.str x/\apT x D=some ns/\∀ t,(∀ H',SqT K H' t (ns.map V.int))->Q (.ref t) H1
theorem ahD {X:Cx} {K:amk} {x:Str} {a:Addr} {D:List (Str×List Int)} {key:Expr} {tk:TE} {p pos:Pos} (hK:X.K=K) (hg:Gl X x) (hm:X.mg x=some (.ref a)) (hT:agb K a D=true) (hk:PE X key tk) (hs:aeE key) (hd:(x == ("__debug__":Str))=false:=by decide) :
  PE X (.Subscript (.Name x p) key pos) (alV K D tk):=by
 subst hK
 intro pins s σ H Q I h
 unfold agb at hT
 rw [ams] at hT
 obtain⟨h0,hT⟩:=hT
 split at hT
 case h_2=>cases hT
 case h_1 o ho =>
  simp only [ams] at hT
  obtain⟨⟨⟨e1,e2⟩,e3⟩,e4⟩:=hT
  split at e4
  case h_2=>cases e4
  case h_1 es ep hdat =>
   have rows:KTD.Rows (fun ns v=>ai7 X.K ns v=true) es.toList D:=KTD.rows_of_look (fun _ _ z=>z) e4
   refine Subscript_ (abu I hg hm ?_ hd)
   refine thn (hk pins s σ H _ I h) fun u s1 ⟨y,H1,I1,ry,z,ns,ey,dat,q⟩=>?_
   subst ey
   obtain⟨tk',rfl⟩:=ry
   have ho1:s1.heap.get? a=some o:=I1.kIn a o ho
   have hT1:s1.TypeIs (.ref a) "dict":=⟨o,ho1,beq_iff_eq.mp e1⟩
   obtain⟨v,hv,hr⟩:=rows.find_some dat
   obtain⟨t,rfl,sq⟩:=ak3 hr
   refine subscriptTail_builtinR (x:=.ref t) hT1 api.lookup ?_ (hs _ _)
   unfold getItem
   try with_reducible refine wpAny_holding ?_
   apply wpAny_bind;refine wpAny_sequenceKey hT1 (by decide) ?_
   apply wpAny_bind
   refine wpAny_callSpecial?_slot (name:=Str.ofString "__getitem__") hT1 slot_dict_getitem (wpAny_call_entry slot_dict_getitem hT1 entry_dict_getitem ?_ (args_dict_getitem _ _))
   show wpAny _ _ (dictGet a (.str z tk') >>= _) _ _ s1
   apply wpAny_bind
   unfold dictGet
   try with_reducible refine wpAny_holding ?_
   apply wpAny_bind;apply wpAny_pyHash_str
   apply wpAny_bind
   refine KTD.kt_dictFind_strs (s:={ s1 with toks:=s1.toks+1 }) ho1 hdat (by obtain⟨l⟩:=es;simpa using rows.exact) ?_
   cases hi:es.findIdx? fun e=>e.key.isStr z with
   | none =>
    exfalso
    have hn:es.toList.find? (fun e=>e.key.isStr z)=none:=by
     rw [List.find?_eq_none]
     intro e he
     have:=Array.findIdx?_eq_none_iff.mp hi e (aoW.mp he)
     simpa using this
    rw [hn] at hv
    cases hv
   | some i =>
    obtain⟨hlt,hi1,hi2⟩:=Array.findIdx?_eq_some_iff_getElem.mp hi
    have hval:es[i].val=.ref t:=by
     have hf:es.toList.find? (fun e=>e.key.isStr z)=some es[i]:=by
      rw [List.find?_eq_some_iff_getElem]
      refine⟨hi1,i,by simpa using hlt,by simp,fun j hj=>?_⟩
      have:=hi2 j hj
      simpa using this
     rw [hf] at hv
     exact Option.some.inj hv
    apply wpAny_bind
    refine wpAny_dictEntries (s:={ s1 with toks:=s1.toks+1 }) ho1 hdat (wpAny_pure ?_)
    rw [aph hlt]
    refine wpAny_pure ⟨es[i].val,rfl,wpAny_pure ?_⟩
    rw [hval]
    exact⟨rfl,.ref t,H1,I1.tok _,rfl,q t sq⟩
section
variable {K:amk} {f:Fx} {ρ:zp} {P:PyData->Prop} {tk:TE} {D:List (Str×List Int)}
theorem aj0 (h:PEd K f tk ρ fun y=>∃ x ns,y=.str x/\apT x D=some ns/\P (.tuple (ns.map .int))):PEd K f (alV K D tk) ρ P:=fun σ H Q e q =>
 h σ H _ e fun y v H1 g1 r1 ⟨x,ns,ey,hd,p⟩=>by
  subst ey
  exact⟨x,ns,rep_str.mp r1,hd,fun t sq=>q _ _ H1 g1 (rep_tuple.mpr ⟨t,ns.map V.int,rfl,sq _,Reps.ints' ns⟩) p⟩
end
section
variable {X:Cx}
theorem afc {pins:List (Addr×Obj)} {s:Shared} {σ:St} {H:Hp} (I:Inv X pins σ H s) {d:PyData}:∀ {ds:List PyData} {xs:List V} {us:List Value},Reps X.K H ds xs->Vals xs us->(∀ e∈ds,e.canLay0=true)->us.map (eqR s.heap d)=ds.map fun e=>amI e d
 | [],xs,us,r,v,_=>by
  cases reps_nil.mp r
  cases v
  rfl
 | e :: ds,xs,us,r,v,c=>by
  obtain⟨x,xs',rfl,h1,h2⟩:=reps_cons.mp r
  cases v with
  | cons a b =>
   obtain⟨as,ra⟩:=yB I e x _ h1 a
   rw [amG,amG,aha ra (c e amm),afc I h2 b fun e he=>c e (amo _ he)]
def abZ (K:amk):V->List V->Hp->VK->Prop:=fun x ys H Q=>∃ d ds y,∃ j:Nat,ys=[y]/\Rep K H d y/\Rep K H (.list ds) x/\d.canLay0=true/\(∀ e∈ds,e.canLay0=true)/\d.depth<=50/\ds.length<=1000 /\
 (ds.map fun e=>amI e d)[j]?=some true/\(∀ m,m<j->(ds.map fun e=>amI e d)[m]?=some false)/\Q (.int j) H
theorem agc (hu:X.A.units+64<cLine):MtR X "list.index" (abZ X.K):=by
 intro pins s σ H x xs v us Q I rx rv h
 obtain⟨d,ds,y,j,rfl,hd,hl,c1,c2,dd,few,hit,miss,q⟩:=h
 obtain⟨a,zs,rfl,hq,hr⟩:=rep_list.mp hl
 cases rx
 obtain⟨u,rfl,ru⟩:=rv.one
 obtain⟨bs,rb⟩:=yB I d y u hd ru
 obtain⟨its,r,pl,hz⟩:=I.list hq
 obtain⟨⟨cl,dd',da,sl⟩,n,e,e1,e2,e3⟩:=pl
 dsimp only at e1 e2 e3
 subst e1 e3
 have key:=afc I (d:=d) hr r c2
 rw [<-key] at hit miss
 have hj:j<its.length:=by
  obtain⟨hlt,_⟩:=ami.mp hit
  rw [amg] at hlt
  exact hlt
 have len:its.length=ds.length:=by have:=congrArg ap3 key;rw [amg,amg] at this;exact this
 refine call_meets F.slot_list_index ⟨_,e,rfl⟩ F.entry_list_index (F.args_list_index_2 _ _) (SeqAt.list_indexAt a its.toArray n dd' sl u (eqR s.heap d) j (by rw [amv];exact hj) (by omega) ?_ ?_)
  ⟨e,fun w hw=>acL I rb c1 dd (show X.A.in1.units+60<cLine from by show X.A.units+1+60<cLine;omega) hr r c2 w (by simpa using hw),?_⟩
 ·rw [aml,amf hj] at hit
  simpa using hit
 ·intro m hm hlt
  rw [amv] at hm
  have:=miss m hlt
  rw [aml,amf hm] at this
  simpa using this
 ·exact⟨.int j,H,I.tok _,⟨_,rfl⟩,q⟩
theorem ad2 {K:amk} (hK:X.K=K) (hu:X.A.units+64<cLine):MtR X "list.index" (abZ K):=hK▸agc hu
end
abbrev Kp (h h':Heap):Prop:=∀ b o,h.get? b=some o->h'.get? b=some o
structure MinAt (h0:Heap) (its:List Value) (ds:List PyData) (as:List Addr):Prop where
 ra:ReadsAll h0 its ds as
 pl:∀ d∈ds,zq d=true
 cp:∀ d∈ds,∀ e∈ds,j9 d e=true
 dp:∀ d∈ds,d.depth<=50
abbrev alW (v:Value) (c:Nat):Obj:={ cls:=.type "list",dict:=none,data:=.seq #[v,v] c,slots:=#[] }
def ve (ds:List PyData) (i b:Nat):Prop:=b<i/\∀ m,m<i->ltD (ds.getD m .none) (ds.getD b .none)=false
theorem yo {ds:List PyData} {i:Nat} (h:i<ds.length):ds.getD i .none∈ds:=by
 rw [amj,amf h]
 exact amE h
theorem ad3 {ds:List PyData} (pl:∀ d∈ds,zq d=true) {i b:Nat} (hi:i<ds.length) (L:ve ds i b):ve ds (i+1) (if ltD (ds.getD i .none) (ds.getD b .none)=true then i else b):=by
 obtain⟨hb,hl⟩:=L
 have pi:=pl _ (yo hi)
 have pb:=pl _ (yo (aoM hb hi))
 by_cases h:ltD (ds.getD i .none) (ds.getD b .none)=true
 ·rw [if_pos h]
  refine⟨aoT i,fun m hm=>?_⟩
  rcases anR.mp hm with z | rfl
  ·rw [Bool.eq_false_iff]
   intro y
   have:=abJ _ _ _ (pl _ (yo (aoM z hi))) pi pb y h
   rw [hl m z] at this
   cases this
  ·exact vF _ pi
 ·rw [if_neg h]
  refine⟨anh hb,fun m hm=>?_⟩
  rcases anR.mp hm with z | rfl
  ·exact hl m z
  ·exact Bool.eq_false_iff.mpr h
section
variable {X:Cx}
theorem ac2:∀ {xs:List V} {us:List Value},Vals xs us->∀ b,b<xs.length->∃ v,xs[b]?=some v/\RelV v (us.getD b Value.none)
 | _,_,.nil,b,hb=>absurd hb (ank _)
 | _,_,.cons a c,0,_=>⟨_,rfl,a⟩
 | _,_,.cons a c,b+1,hb=>ac2 c b (apB hb)
theorem aaB {K:amk} {H:Hp}:∀ {ds:List PyData} {xs:List V},Reps K H ds xs->xs.length=ds.length/\∀ b v,xs[b]?=some v->Rep K H (ds.getD b .none) v
 | [],_,r=>by
  cases reps_nil.mp r
  exact⟨rfl,fun b v h=>nomatch h⟩
 | d :: ds,xs,r=>by
  obtain⟨x,xs',rfl,h1,h2⟩:=reps_cons.mp r
  obtain⟨h3,h4⟩:=aaB h2
  refine⟨by rw [amB,amB,h3],fun b v h=>?_⟩
  match b,h with
  | 0,h=>cases h;exact h1
  | b+1,h=>exact h4 b v h
end
section
variable {K:amk} {f:Fx} {ρ:zp} {P:PyData->Prop} {te ta tb:TE}
theorem ahE (h:PEd K f ta ρ fun x=>∃ ds,x=.list ds/\PEd K f tb ρ fun d=>∃ j:Nat,d.canLay0=true/\(∀ e∈ds,e.canLay0=true)/\d.depth<=50/\ds.length<=1000/\(ds.map fun e=>amI e d)[j]?=some true/\(∀ m,m<j->(ds.map fun e=>amI e d)[m]?=some false)/\P (.int j)) :
  PEd K f (tBM K "list" (abZ K) ta (yQ tb qJ)) ρ P:=fun σ H Q e q =>
 h σ H _ e fun x v H1 g1 r1 ⟨ds,ex,p1⟩=>by
  subst ex
  refine⟨?_,p1 σ H1 _ (e.mono g1) fun d u H2 g2 r2 ⟨j,c1,c2,dd,fw,hit,miss,p⟩=>⟨d,ds,u,j,rfl,Rep.mono (zf _ _) _ _ r2,Rep.mono (zf _ _) _ _ (Rep.mono g2.sm _ _ r1),c1,c2,dd,fw,hit,miss,q _ _ H2 (g1.trans g2) (rep_int.mpr rfl) p⟩⟩
  obtain⟨a,zs,rfl,h1,_⟩:=rep_list.mp r1
  exact .inl ⟨rfl,zs,(zf _ _).seq h1⟩
end
end L2
end
section
namespace L2
open PySem PySem.Spec PyProof.Rows
structure TM (K:amk) (f:Fx) (a:Addr) (as:List Addr) (H2:Hp) (ρ:zp) (rows:List (List Int)) (σ:St) (H:Hp):Prop where
 env:EnvOk K (f.withs (a :: as)) ρ σ H
 sm:Same (hide H2 (f.withs (a :: as))) (hide H (f.withs (a :: as)))
 kp:∀ b∈f.M,H b=H2 b
 tab:TabAt H a as rows
end L2
end
section
namespace L2
open PySem PySem.Spec PyProof.Rows
section
variable {K:amk} {f:Fx} {ρ:zp} {ts tu:TS} {O:DEnds} {te:TE} {i:Nat}
theorem ac3 (J:zp->Prop) (h1:PSd K f ts ρ { O with nx:=J }) (h2:∀ ρ',J ρ'->PSd K f tu ρ' O):PSd K f (aae ts tu) ρ O :=
 zN fun σ H E e n r b k=>h1 σ H E e (fun ρ' σ' H' g' e' p=>n ρ' σ' H' g' e' (h2 ρ' p)) r b k
end
end L2
end
section
namespace L2
open PySem PySem.Spec PyProof.Rows
end L2
end
section
namespace L2
open PySem PySem.Spec PyProof.Rows
end L2
end
section
namespace L2
open PySem PySem.Spec PyProof.Rows
open PySem.SeqAt
open PySem.AutoSeq1 (wpAny_loadPart')
def ama (A:Around) (s:Shared) (y x:Value) (b:Bool):Prop :=
 ∀ (prog:Program) (w:World) (E:Value->Shared->Prop) (Q:Value->Shared->Prop),Q (.bool b) s->wpAny (model prog w) A (richCompare .GtE y x) Q E s
inductive Gex (A:Around) (s:Shared):List Value->List Value->Bool->Prop where
 | nn:Gex A s [] [] true
 | eq {v w vs ws b}:EqAt A s v w true->Gex A s vs ws b->Gex A s (v :: vs) (w :: ws) b
 | ge {v w vs ws b}:EqAt A s v w false->ama A s v w b->vs.length=ws.length->Gex A s (v :: vs) (w :: ws) b
def amb (o:Obj):Option Value:=match o.data with
 | .fields vs=>vs[2]?
 | _=>none
local macro_rules | `(tactic| walk_at "kd")=>`(tactic| with_reducible first
  | assumption
  | exact kd_pure _
  | exact kd_uns _
  | exact kd_load _
  | exact kd_loadPart _ _
  | exact kd_stack
  | exact kd_alloc _
  | exact kd_reg _
  | apply kd_ite
  | apply kd_bind
  | intro _
  | split)
def Dct (a:Addr) (o:Option Addr) (h:Heap):Prop:=∃ u,h.get? a=some u/\amb u=some .none/\∀ dx,o=some dx->u.dict=some dx
def CXf (P:Program) (w:World):CXT:=fun outer H s E e s'=>∃ a C o H',e=.ref a/\XLie P w outer H s a C H' s'/\Dct a o s'.heap/\E C o H'
def aj1 (a:Addr) (C:Value) (o:Option Addr) (h:Heap):Prop:=∃ t,h.get? a=some { cls:=C,dict:=o,data:=.fields #[.ref t,.none,.none,.none,.bool false,.none] }
end L2
end
section
namespace L2
open PySem PySem.Spec PyProof.Rows PySem.Builtin Builtin Builtin.ObjectAttr
def ahF (K:amk) (C f:Addr) (bmB:List Value) (newId:String):Bool :=
 match K.lookup C with
 | some ⟨c0,_,.cls cd,sl⟩=>c0 == .type "type" && cd.mro.head? == some (.ref C) && cd.hasDel == false && cd.hasDict && PySem.W.tailIn K bmB cd.mro.tail && PySem.W.nsOkIn K cd.ns && amU K cd.ns "__init__" == some (some (.ref f))
   && sl.toList.length == 6 && sl.toList[4]? == some (some (.builtin newId))
 | _=>false
structure XCls (h:Heap) (C f:Addr) (bmB:List Value) (newId:String):Prop where
 ex:∃ nm q N bs bm sn sub ab col dd k0 k1 k2 k3 k5 mN,h.get? C=some (excClassObj nm q C N bs bm true sn sub ab col dd k0 k1 k2 k3 k5 newId)/\h.Ns N mN/\mN "__init__"=some (.ref f)/\OwnTail h bmB bm
end L2
end
section
namespace L2
open PySem PySem.Spec PySem.W PyProof.Rows PySem.Calls PySem.Builtin Builtin Builtin.ObjectAttr
abbrev bare (C:Addr) (o:Option Addr) (t:Addr):Obj:={ cls:=.ref C,dict:=o,data:=.fields #[.ref t,.none,.none,.none,.bool false,.none] }
abbrev bmV:List Value:=[.type "ValueError",.type "Exception",.type "BaseException",.type "object"]
structure FldC (K:amk) (C f D:Addr) (name:Str):Prop where
 wi:ahF K C f bmV "ValueError.__new__"=true
 fn:PySem.W.typeIn K (.ref f)=some (.type "function")
 ob:PySem.W.mroIn K C (.type "object")=some true
 sa:anU K (.ref C) "__setattr__"=some (some (.builtin "object.__setattr__"))
 na:anU K (.ref C) name=some none
 rd:PySem.W.readsIn K D (.type "type")=true
 sp:apl K (.ref D) "__getattribute__"=some (some (.builtin "type.__getattribute__"))
 kp:am7 K (.ref C)=true
 fi:PySem.W.findCls K (.ref D) (.type "type") "__init__"=some (.val (.builtin "ValueError.__init__"))
section
variable {X:Cx} {pins:List (Addr×Obj)} {σ:St} {H H':Hp} {s s':Shared} {h':Heap} {a b dx C D f:Addr} {o:HO} {t':Nat} {name:Str}
def ak4 (C:Addr) (name:Str):Sp:=fun vs H Q _=>∃ a y,vs=[.ref a,y]/\H a=some (.ext (aj1 a (.ref C) none))/\∀ dx,H dx=none->dx≠a->Q .non (upd (upd H dx (.xd [(name,y)])) a (.ext (aj1 a (.ref C) (some dx))))
end
end L2
end
section
namespace L2
open PySem PySem.Spec PyProof.Rows
end L2
end
section
namespace L2
open PySem PySem.Spec PySem.W PyProof.Rows PySem.Calls PySem.Builtin Builtin Builtin.ObjectAttr Builtin.Getset_descriptor
abbrev XD:=Option (Str×PyData)
structure FnInF (P:Program) (w:World) (K:amk) (mg:Str->Option Value) (base:Heap) (k:Nat) (x:Str) (ps:List Str) (sp:Sp):Prop where
 ex:∃ (f:Addr) (fd:FuncData),FnOk P w K mg base (CXf P w) k f fd ps sp/\mg x=some (.ref f)/\am7 K (.ref f)=true/\Binds K fd ps []
structure FCls (K:amk) (mg:Str->Option Value) (x base:Str) (C:Addr) (name:Str) (st:Stmt) (ps:List Str):Prop where
 ex:∃ (f D:Addr) (fd:FuncData),FldC K C f D name/\mg x=some (.ref C)/\mg base=some (.ref D)/\Fun K "__init__" (x ++ ".__init__") st f fd/\Binds K fd ps []
structure InitOk (P:Program) (w:World) (K:amk) (mg:Str->Option Value) (base:Heap) (k:Nat) (C:Addr) (name:Str):Prop where
 ex:∃ (f D:Addr) (fd:FuncData) (ps:List Str),FldC K C f D name/\FnOk P w K mg base CX0 k f fd ps (ak4 C name)/\Binds K fd ps []
theorem aj2 {K:amk} {f:Fx} {ρ:zp} {D:DEnds} {tt:TT} {ts tu:TS} (p:Prop) [Decidable p] (h:PTd K f tt ρ fun b=>b=decide p) (h1:p->PSd K f ts ρ D) (h2:¬ p->PSd K f tu ρ D):PSd K f (agD tt ts tu) ρ D:=aao fun σ H Q e q=>h σ H Q e fun b H' g z=>q b H' g (by
 subst z
 by_cases hp:p
 ·rw [decide_eq_true hp,if_pos rfl];exact h1 hp
 ·rw [decide_eq_false hp,if_neg amh];exact h2 hp)
structure RoomM (k:Nat) (A:Around):Prop where
 dp:A.depth+3 * k+5<recursionLimit
 un:A.units+16 * k+200<cLine
structure FnOkM (P:Program) (w:World) (K:amk) (mg:Str->Option Value) (base:Heap) (k:Nat) (f:Addr) (fd:FuncData) (ps:List Str) (sp:Addr->Sp):Prop where
 len:∀ a vs H Q E,sp a vs H Q E->vs.length=ps.length
 run:∀ (A:Around) (outer:List Env) (s:Shared) (H:Hp) (args:Args) (us:List Value) (vs:List V) (Q:VK) (a:Addr),A.handled=some (.ref a)->RoomM k A->Env0 P w K mg base A outer s H->BindsTo s fd args (ps.zip us)->Vals vs us->sp a vs H Q E0 ->
  codeAny (model P w) A (.call (.ref f) args) (CR CX0 outer P w H s Q E0) s
structure FnInM (P:Program) (w:World) (K:amk) (mg:Str->Option Value) (base:Heap) (k:Nat) (x:Str) (ps:List Str) (sp:Addr->Sp):Prop where
 ex:∃ (f:Addr) (fd:FuncData),FnOkM P w K mg base k f fd ps sp/\mg x=some (.ref f)/\am7 K (.ref f)=true/\Binds K fd ps []
structure TN (K:amk) (f:Fx) (a:Addr) (as:List Addr) (H2:Hp) (ρ:zp) (R:Option (List (List Int))) (σ:St) (H:Hp):Prop where
 env:EnvOk K (f.withs (a :: as)) ρ σ H
 sm:Same (hide H2 (f.withs (a :: as))) (hide H (f.withs (a :: as)))
 kp:∀ b∈f.M,H b=H2 b
 tab:∀ rows,R=some rows->TabAt H a as rows
end L2
end
section
namespace L2
open PySem PySem.Spec PyProof.Rows
structure GoesW (f:Fx) (As:List Addr) (H2 H':Hp):Prop where
 sm:Same (hide H2 (f.withs As)) (hide H' f)
 ok:FOk f H'
 kp:∀ b∈f.M,H' b=H2 b
structure FnAt (P:Program) (w:World) (K:amk) (mg:Str->Option Value) (base:Heap) (CX:CXT) (k:Nat) (a:Addr) (sp:Sp):Prop where
 ex:∃ (fd:FuncData) (ps:List Str),FnOk P w K mg base CX k a fd ps sp/\am7 K (.ref a)=true/\Binds K fd ps []
end L2
end
section
namespace L2
open PySem PySem.Spec PyProof.Rows
end L2
end
section
namespace L2
open PySem PySem.Spec PyProof.Rows
structure Src (prog:Program) (w:World) (j:Addr) (xs:Array Value) (dep:List Addr) (St:Nat->Heap->Prop):Prop where
 own:j∈dep
 keep:∀ {k:Nat} {h h':Heap},St k h->(∀ c∈dep,∀ o,h.get? c=some o->h'.get? c=some o)->St k h'
 there:∀ {k:Nat} {h:Heap},St k h->∃ o,h.get? j=some o
 item:∀ {A:Around} {E:Value->Shared->Prop} {s:Shared} {k:Nat} {x:Value} {Q:Value->Shared->Prop},St k s.heap->xs[k]?=some x->(∀ h',St (k+1) h'->anO j s.heap h'->Q x { s with heap:=h' })->wpAny (model prog w) A (apj (.ref j)) Q E s
 stop:∀ {A:Around} {E:Value->Shared->Prop} {s:Shared} {k:Nat} {Q:Value->Shared->Prop},A.handled=none->St k s.heap->xs[k]?=none->(∀ h' e,ap5 j s.heap h'->(∃ o,h'.get? e=some o/\o.cls=.type "StopIteration")->E (.ref e) { s with heap:=h' })->wpAny (model prog w) A (apj (.ref j)) Q E s
section
variable {prog:Program} {w:World} {A:Around} {E:Value->Shared->Prop} {s:Shared}
structure Far (z q1 q2 j1 j2:Addr) (e1 e2:List Addr):Prop where
 q1z:q1≠z
 q2z:q2≠z
 q12:q1≠q2
 j12:j1≠j2
 q1j1:q1≠j1
 q1j2:q1≠j2
 z1:z∉e1
 z2:z∉e2
 o1:q2∉e1
 o2:q2∉e2
 d12:j2∉e1
 d21:j1∉e2
end
end L2
end
section
namespace L2
open PySem PySem.Spec PyProof.Rows
end L2
end
section
namespace L2
open PySem PySem.Spec PyProof.Rows
section
variable {K:amk} {f:Fx} {ρ:zp} {R:List DV->Prop} {i j m n:Nat} {d0 d1 d2 d3:PyData}
theorem vf (h0:ρ[i]?=some (some (.dat d0))) (h:R [.dat d0]):PAd K f (yQ (yH i) qJ) ρ R:=zE (zt h0 (yw h))
theorem ai8 (h0:ρ[i]?=some (some (.dat d0))) (h1:ρ[j]?=some (some (.dat d1))) (h:R [.dat d0,.dat d1]):PAd K f (yQ (yH i) (yQ (yH j) qJ)) ρ R:=zE (zt h0 (vf h1 h))
end
theorem perm_map_inv {α β:Type} {F:α->β} {l:List β} {m:List α} (h:l.Perm (m.map F)):∃ m':List α,m'.Perm m/\l=m'.map F:=by
 generalize e:m.map F=k at h
 induction h generalizing m with
 | nil=>exact⟨m,.refl _,e.symm⟩
 | cons x _ ih =>
  cases m with
  | nil=>cases e
  | cons a m =>
   injection e with e1 e2
   obtain⟨m',p,r⟩:=ih e2
   exact⟨a :: m',p.cons a,by rw [amG,e1,r]⟩
 | swap x y l =>
  cases m with
  | nil=>cases e
  | cons a m =>
   cases m with
   | nil=>injection e with _ e;cases e
   | cons b m =>
    injection e with e1 e2
    injection e2 with e2 e3
    exact⟨b :: a :: m,.swap a b m,by rw [amG,amG,e1,e2,e3]⟩
 | trans _ _ ih1 ih2 =>
  obtain⟨m',p,r⟩:=ih2 e
  obtain⟨m'',p',r'⟩:=ih1 r.symm
  exact⟨m'',p'.trans p,r'⟩
abbrev FD (K:amk) (x:Str) (st:Stmt) (f:Addr) (od an:Option Addr) (sl:Array (Option Value)) (oc kV dc pm cd ct:Value):Prop:=amU K mainGlobals x=some (some (.ref f))/\K.lookup f=some ⟨oc,od,.func (anP x x (jC st) (yA st) (zi st) .none kV dc pm an cd ct),sl⟩/\apc K cd x=true/\am7 K (.ref f)=true
theorem yl {K:amk} {h:Heap} {mg:Str->Option Value} {x:Str} {st:Stmt} {f:Addr} {od an:Option Addr} {sl:Array (Option Value)} {oc kV dc pm cd ct:Value} (X:K.In h) (G:h.Ns mainGlobals mg) (a:FD K x st f od an sl oc kV dc pm cd ct) {ps:List Str}
  (hb:∀ (kV doc pm:Value) (an:Option Addr) (cdv ct:Value) (us:List Value),us.length=ps.length->bindArgs (anP x x (jC st) (yA st) (zi st) .none kV doc pm an cdv ct) ⟨us,[]⟩=pure (ps.zip us)):Def K mg x st ps :=
 ⟨f,_,adQ a.2.1 a.2.2.1 a.2.2.2,(adQ (st:=st) a.2.1 a.2.2.1 a.2.2.2).binds hb,anC X G a.1⟩
section
variable {w:World} {K:amk} {f:Fx} {Ds:List Addr} {ρ:zp} {cs:List OC} {O:MEnds} {i:Nat}
theorem aj3 {v k:Int} (hi:ρ[i]?=some (some (.dat (.int v)))):PTd K f (aex (tOp (afQ K false) (yH i) (tC (.int k)))) ρ fun b=>b=decide (v=k) :=
 yC (jW (zt hi (qW ⟨rfl,rfl,by show min 0 0<=60;decide,_,rfl,rfl⟩)))
end
end L2
end
section
namespace L2
open PySem PySem.Spec PyProof.Rows
section
variable {K:amk} {f:Fx} {ρ:zp} {R:zp->Prop} {P:PyData->Prop} {i j m:Nat}
theorem alX {a b:PyData} (h:R ((ρ.set i (some (.dat a))).set j (some (.dat b)))):PGd K f (ais K 2 (aeu (jc i) (aeu (jc j) akm))) (.tuple [a,b]) ρ R:=yW rfl (zv (zj (zv (zj (yh h)))))
end
end L2
end
section
open PySem PySem.Spec PyProof.Rows
namespace L2
end L2
end
section
namespace L2
open PySem PySem.Spec PyProof.Rows
end L2
end
section
namespace L2
open PySem PySem.Spec PyProof.Rows
section
variable {prog:Program} {w:World} {A:Around} {R:Result->Shared->Prop} {h0:Heap} {its:List Value} {ds:List PyData} {as:List Addr} {I S T:Addr} {s0:Shared}
theorem agd (M:MinAt h0 its ds as) (hu:A.units+60<cLine) (hh:A.handled=none) (tu:h0.IsList T its.toArray) (nI:h0.get? I=none) (nS:h0.get? S=none) (dif:S≠I)
  (fin:∀ b h' tk,ve ds its.length b->Kp h0 h'->R (.ok (.ret (its.getD b Value.none))) { s0 with heap:=h',toks:=tk }) :
  ∀ (k i b:Nat) (h:Heap) (t c:Nat),i+k=its.length->ve ds i b->h.IsListIter I T i->Kp h0 h->h.get? S=some (alW (its.getD b Value.none) c) ->
   codeAny (model prog w) A (.builtin "min.loop" ⟨[.ref I,.none,.ref S],[]⟩) R { s0 with heap:=h,toks:=t }:=by
 have len:=ano _ _ _ M.ra
 have nT:T≠I:=fun z=>by
  obtain⟨o,ho,_⟩:=tu
  rw [z,nI] at ho
  cases ho
 have nK:∀ {b:Addr} {o:Obj},h0.get? b=some o->b≠I/\b≠S:=fun {b o} e=>⟨(fun z=>nomatch (nI.symm.trans (z▸e):none=some o)),(fun z=>nomatch (nS.symm.trans (z▸e):none=some o))⟩
 intro k
 induction k with
 | zero =>
  intro i b h t c hk L it kp hS
  rw [show i=its.length from hk] at L it
  refine codeAny_builtin apw ?_
  rw [aoo anF _]
  refine wpAny_bind (wpAny_seqItems hS rfl (wpAny_bind (wpAny_tryCatch (wpAny_pyNext_list_end hh it (tu.at fun o e=>kp T o e) (by simp) fun h2 e2=>?_))))
  refine wpAny_bind (wpAny_updateSeq (e2 S _ dif hS) rfl (wpAny_bind (wpAny_letGo (wpAny_pure (fin b _ t L fun a o e=>?_)))))
  obtain⟨n1,n2⟩:=nK e
  exact (amP _ _ n2.symm).trans (e2 a o n1 (kp a o e))
 | succ k ih =>
  intro i b h t c hk L it kp hS
  have hi:i<its.length:=by omega
  have hid:i<ds.length:=by omega
  have hbd:b<ds.length:=aoM L.1 hid
  have L2:=ad3 M.pl hid L
  refine codeAny_builtin apw ?_
  rw [aoo anF _]
  refine wpAny_bind (wpAny_seqItems hS rfl (wpAny_bind (wpAny_tryCatch (wpAny_pyNext_list_item it (tu.at fun o e=>kp T o e) (x:=its.getD i Value.none) (by rw [amj,amf hi];simp [hi]) fun h2 it2 sb=>?_))))
  have e2:∀ a o,a≠I->h.get? a=some o->h2.get? a=some o:=fun a o n e=>sb.extBut a o n e
  have kp2:Kp h0 h2:=fun a o e=>e2 a o (nK e).1 (kp a o e)
  obtain⟨b1,r1⟩:=ReadsAll.at (ReadsAll.keep kp2 M.ra) i hid
  obtain⟨b2,r2⟩:=ReadsAll.at (ReadsAll.keep kp2 M.ra) b hbd
  have d1:=M.dp _ (yo hid)
  have d2:=M.dp _ (yo hbd)
  have lt:=aau _ _ A.in1 { s0 with heap:=h2,toks:=t } _ _ _ _ r1 r2 (M.pl _ (yo hid)) (M.pl _ (yo hbd)) (M.cp _ (yo hid) _ (yo hbd)) (by show A.units+1+max _ _<cLine;omega)
  refine wpAny_bind (wpAny_pure ?_)
  show wpAny _ A.in1 (tryCatch (holding _ (richCompare CmpOp.Lt (its.getD i Value.none) (its.getD b Value.none) >>= _)) _ >>= _) _ _ _
  refine wpAny_bind (wpAny_tryCatch (wpAny_holding (wpAny_bind (lt prog w _ _ (wpAny_bind (wpAny_holding (wpAny_truthy_bool (wpAny_bind (wpAny_letGo (wpAny_pure ?_))))))))))
  have nm:(toString "min"++toString ".loop":String)="min.loop":=by decide
  have hS2:=e2 S _ dif hS
  by_cases q:ltD (ds.getD i .none) (ds.getD b .none)=true
  ·rw [if_pos q] at L2
   rw [q]
   refine wpAny_bind (wpAny_updateSeq hS2 rfl (wpAny_bind (wpAny_letGo ?_)))
   rw [nm]
   refine wpAny_pure ⟨plainId_quiet anF _,ih (i+1) i _ t _ (by omega) L2 (it2.at fun o e=>(amP _ _ dif).trans e) (fun a o e=>(amP _ _ (nK e).2.symm).trans (kp2 a o e)) (ana _ hS2 rfl)⟩
  ·rw [if_neg q] at L2
   rw [apu] at q
   rw [q]
   refine wpAny_bind (wpAny_letGo ?_)
   rw [nm]
   exact (wpAny_pure ⟨plainId_quiet anF _,ih (i+1) b _ t c (by omega) L2 it2 kp2 hS2⟩)
theorem ai9 {Q:Value->Shared->Prop} {E:Value->Shared->Prop} {s:Shared} (M:MinAt s.heap its ds as) (hu:A.units+61<cLine) (hh:A.handled=none) (tu:s.heap.IsList T its.toArray) (ne:0<its.length)
  (q:∀ b h' tk,ve ds its.length b->Kp s.heap h'->Q (its.getD b Value.none) { s with heap:=h',toks:=tk }):wpAny (model prog w) A (call (.builtin "min") [.ref T]) Q E s:=by
 have nm:(toString "min"++toString ".loop":String)="min.loop":=by decide
 have len:=ano _ _ _ M.ra
 refine call_function_tree F.kind_min F.plain_min F.entry_min (F.args_min1 _) ?_
 show wpAny _ A.in1 (ao9 "min" ["key","default"] 0 ⟨[],[]⟩ >>= _) _ _ s
 refine wpAny_bind (wpAny_of_eq (show ao9 "min" ["key","default"] 0 ⟨[],[]⟩=pure [none,none] from rfl) (wpAny_bind (wpAny_pure (wpAny_bind (wpAny_pyIter_list tu (wpAny_bind (wpAny_newObj_type ?_)))))))
 rw [nm]
 generalize hp1:s.heap.push { cls:=.type "list_iterator",data:=.fields #[.ref T,.int 0 0] }=h1
 have z1:h1.objs.size=s.heap.objs.size+1:=by rw [<-hp1];exact aoJ ..
 have i1:h1.IsListIter s.heap.objs.size T 0:=by rw [<-hp1];exact⟨_,amH _ rfl,rfl,rfl⟩
 have k1:Kp s.heap h1:=fun b o e=>by rw [<-hp1];exact amq _ e
 have dif:h1.objs.size≠s.heap.objs.size:=by omega
 have nI:s.heap.get? s.heap.objs.size=none:=aoV (amn _)
 have nS:s.heap.get? h1.objs.size=none:=aoV (by omega)
 refine wpAny_pure ⟨plainId_quiet anF _,codeAny_builtin apw ?_⟩
 rw [aoo anF _]
 have kS:∀ (u:Obj),Kp s.heap (h1.push u):=fun u b o e=>amq _ (k1 b o e)
 refine wpAny_bind (wpAny_seqItems (amH _ rfl) rfl (wpAny_bind (wpAny_tryCatch (wpAny_pyNext_list_item (i1.at fun o e=>amq _ e) (tu.at fun o e=>kS _ T o e) (x:=its.getD 0 Value.none) (by rw [amj,amf ne];simp [ne]) fun h2 it2 sb=>?_))))
 refine wpAny_bind (wpAny_pure ?_)
 have hS2:=sb.extBut _ _ dif (amH h1 rfl)
 have kp2:Kp s.heap h2:=fun a o e=>sb.extBut a o (fun z=>nomatch (nI.symm.trans (z▸e):none=some o)) (kS _ a o e)
 refine wpAny_bind (wpAny_updateSeq hS2 rfl ?_)
 rw [nm]
 refine wpAny_pure ⟨plainId_quiet anF _,agd (s0:=s) (its:=its) (T:=T) M (by omega) hh tu nI nS dif ?_ (its.length - 1) 1 0 _ _ _ (by omega) ⟨Nat.one_pos,fun m hm=>?_⟩ (it2.at fun o e=>(amP _ _ dif).trans e) (fun a o e=>(amP _ _ (fun (z:h1.objs.size=a)=>nomatch (nS.symm.trans (z▸e):none=some o))).trans (kp2 a o e)) (ana _ hS2 rfl)⟩
 ·intro b h' tk L k
  exact q b h' tk L k
 ·rw [show m=0 by omega]
  exact vF _ (M.pl _ (yo (by omega)))
end
section
variable {X:Cx}
def ahG (K:amk):List V->Hp->VK->Prop:=fun xs H Q=>∃ ds a zs,xs=[.ref a]/\SqL K H a zs/\Reps K H ds zs/\ds≠[]/\(∀ d∈ds,zq d=true)/\(∀ d∈ds,∀ e∈ds,j9 d e=true)/\(∀ d∈ds,d.depth<=50)/\∀ b v,b<ds.length->zs[b]?=some v->(∀ e∈ds,ltD e (ds.getD b .none)=false)->Q v H
theorem age (hc:X.calm=true) (hu:X.A.units+64<cLine):yj X (.builtin "min") (ahG X.K):=by
 intro pins s σ H xs us Q I r h
 obtain⟨ds,a,zs,rfl,hq,hr,ne,pl,cp,dp,q⟩:=h
 obtain⟨u,rfl,r1⟩:=vals1 r
 cases r1
 obtain⟨its,rv,p,_⟩:=I.list hq
 obtain⟨as,ra⟩:=yR I ds zs its hr rv
 have len:=ano _ _ _ ra
 have pos:0<ds.length:=ao5.mpr ne
 refine ai9 ⟨ra,pl,cp,dp⟩ (by omega) (I.ok.hd hc) p.isList (by omega) fun b h' tk L k=>?_
 have hb:b<ds.length:=by have:=L.1;omega
 obtain⟨v,hv,rel⟩:=ac2 rv b (by rw [(aaB hr).1];exact hb)
 refine⟨v,H,I.kept (t':=tk) k,rel,q b v hb hv fun e he=>?_⟩
 obtain⟨m,hm,rfl⟩:=anw he
 have:=L.2 m (by omega)
 rw [amj,amf hm] at this
 exact this
theorem ad4 {K:amk} (hK:X.K=K) (hc:X.calm=true) (hu:X.A.units+64<cLine):yj X (.builtin "min") (ahG K):=hK▸age hc hu
end
section
variable {K:amk} {f:Fx} {ρ:zp} {P:PyData->Prop} {te ta tb:TE}
theorem ak5 (h:PEd K f te ρ fun x=>∃ ds,x=.list ds/\ds≠[]/\(∀ d∈ds,zq d=true)/\(∀ d∈ds,∀ e∈ds,j9 d e=true)/\(∀ d∈ds,d.depth<=50)/\∀ d,d∈ds->(∀ e∈ds,ltD e d=false)->P d):PEd K f (tCB (ahG K) (yQ te qJ)) ρ P:=fun σ H Q e q =>
 h σ H _ e fun x v H1 g1 r1 ⟨ds,ex,ne,pl,cp,dp,p⟩=>by
  subst ex
  obtain⟨a,zs,rfl,h1,h2⟩:=rep_list.mp r1
  refine⟨ds,a,zs,rfl,(zf _ _).seq h1,Reps.mono (zf _ _) _ _ h2,ne,pl,cp,dp,fun b u hb hu le=>?_⟩
  exact q (ds.getD b .none) u H1 g1 ((aaB h2).2 b u hu) (p _ (yo hb) le)
end
theorem srv_next:Slot "reversed" "__next__" "reversed.__next__":=Slot.of (owner:="reversed") (n:="__next__") (by rw [typeLookup_type,builtinLookup_eq_fast];kernel_rfl) (by decide +kernel) (by decide +kernel) (by decide +kernel) (.inl (by decide +kernel)) (by rw [isSubtype_type];kernel_rfl)
theorem ac4:Slot "reversed" "__iter__" "reversed.__iter__":=Slot.of (owner:="reversed") (n:="__iter__") (by rw [typeLookup_type,builtinLookup_eq_fast];kernel_rfl) (by decide +kernel) (by decide +kernel) (by decide +kernel) (.inl (by decide +kernel)) (by rw [isSubtype_type];kernel_rfl)
theorem srv_init:Slot "reversed" "__init__" "object.__init__":=Slot.of (owner:="object") (n:="__init__") (by rw [typeLookup_type,builtinLookup_eq_fast];kernel_rfl) (by decide +kernel) (by decide +kernel) (by decide +kernel) (.inl (by decide +kernel)) (by rw [isSubtype_type];kernel_rfl)
theorem ac5:entryFor table "reversed.__next__"=some Builtin.«reversed.__next__»:=entryFor_of_tree (by kernel_rfl)
theorem ahH:entryFor table "reversed.__iter__"=some Builtin.«dict_keyiterator.__iter__»:=entryFor_alias (id':="dict_keyiterator.__iter__") (by kernel_rfl) rfl (by decide +kernel) (by kernel_rfl)
theorem agf:TypeCalled "reversed" "reversed.__new__" "object.__init__" where
 notType:=by decide
 canCreate:=F.create_reversed
 mro:=⟨_,_,F.mro_reversed⟩
 made:=F.made_reversed
 plain:=aoX
 sub:=F.sub_reversed_self
 init:=srv_init
theorem agg:typeLookup (.type "tuple") "__reversed__"=pure none:=by rw [typeLookup_type,builtinLookup_eq_fast];kernel_rfl
abbrev ac6 (t:Addr) (j:Int):Obj:={ cls:=.type "reversed",data:=.fields #[.ref t,rawInt j] }
def ac7 (h:Heap) (it t:Addr) (j:Int):Prop:=∃ o,h.get? it=some o/\o.cls=.type "reversed"/\o.data=.fields #[.ref t,rawInt j]
section
variable {prog:Program} {w:World} {A:Around} {E:Value->Shared->Prop} {s:Shared} {it t:Addr} {items:Array Value}
theorem jG {j:Int} (h:ac7 s.heap it t j):s.TypeIs (.ref it) "reversed":=by
 obtain⟨o,ho,hc,_⟩:=h
 exact⟨o,ho,hc⟩
theorem vg (a:Value):argsOk "reversed.__next__" ⟨[a],[]⟩:=by kernel_rfl
theorem ab0 (a:Value):argsOk "reversed.__iter__" ⟨[a],[]⟩:=by kernel_rfl
theorem afd {j:Int} {Q:Value->Shared->Prop} (h:ac7 s.heap it t j) (q:Q (.ref it) s):wpAny (model prog w) A (pyIter (.ref it)) Q E s:=by
 refine wpAny_pyIter_slot (jG h) ac4 (wpAny_call_entry ac4 (jG h) ahH ?_ (ab0 _))
 exact wpAny_pure ⟨.ref it,rfl, "reversed",.builtin "reversed.__next__",jG h,srv_next.lookup,q⟩
theorem aja {j:Nat} {x:Value} {Q:Option Value->Shared->Prop} (hit:ac7 s.heap it t j) (tu:IsTup s.heap t items) (hx:items[j]?=some x) (small:items.size<2 ^ 62)
  (q:∀ h' tk,ac7 h' it t ((j:Int) - 1)->anO it s.heap h'->Q (some x) { s with heap:=h',toks:=tk }):wpAny (model prog w) A (pyNext (.ref it)) Q E s:=by
 obtain⟨o,ho,hc,hd⟩:=id hit
 have lt:j<items.size:=(apd.mp hx).1
 have dt:items.size<=2 ^ 62:=anb small
 unfold pyNext
 refine wpAny_bind (wpAny_attempt (wpAny_callSpecial?_slot (jG hit) srv_next (wpAny_call_entry srv_next (jG hit) ac5 ?_ (vg _))))
 show wpAny _ A.in1 (field (.ref it) 0 >>= _) _ _ s
 refine wpAny_bind (wpAny_field ho hd (x:=.ref t) rfl ?_)
 show wpAny _ A.in1 (field (.ref it) 1 >>= _) _ _ s
 refine wpAny_bind (wpAny_field ho hd (x:=.int (j:Int) 0) rfl ?_)
 show wpAny _ A.in1 (if ((j:Nat):Int)<0 then _ else _) _ _ s
 rw [if_neg (by omega)]
 refine wpAny_bind (wpAny_specialOf (T:="tuple") tu.typeIs apU.lookup ?_)
 show wpAny _ A.in1 (mkInt (j:Int) >>= _) _ _ s
 refine wpAny_bind (wpAny_mkInt (wpAny_bind (wpAny_attempt ?_)))
 refine getItem_tuple (j:=j) (x:=x) tu (by omega) (by omega) ?_ hx ?_
 ·unfold seqIndex?
  simp
  omega
 show wpAny _ A.in1 (field (.ref it) 1 >>= _) _ _ _
 refine wpAny_bind (wpAny_field ho hd (x:=.int (j:Int) 0) rfl ?_)
 show wpAny _ A.in1 (setField (.ref it) 1 (rawInt ((j:Int) - 1)) >>= _) _ _ _
 refine wpAny_bind (wpAny_setField ho hd (show 1<2 by decide) (wpAny_pure ⟨x,rfl,wpAny_pure ?_⟩))
 refine q _ _ ⟨_,ana _ ho ?_,?_,?_⟩ (aos ..)
 ·exact apJ (aoD hd _)
 ·rw [Obj.cls_mapFields];exact hc
 ·rw [aoD hd];rfl
theorem ak6 {Q:Option Value->Shared->Prop} (hh:A.handled=none) (hit:ac7 s.heap it t (-1)) (q:∀ h',ap5 it s.heap h'->Q none { s with heap:=h' }):wpAny (model prog w) A (pyNext (.ref it)) Q E s:=by
 obtain⟨o,ho,hc,hd⟩:=id hit
 unfold pyNext
 refine wpAny_bind (wpAny_attempt (wpAny_callSpecial?_slot (jG hit) srv_next (wpAny_call_entry srv_next (jG hit) ac5 ?_ (vg _))))
 show wpAny _ A.in1 (field (.ref it) 0 >>= _) _ _ s
 refine wpAny_bind (wpAny_field ho hd (x:=.ref t) rfl ?_)
 show wpAny _ A.in1 (field (.ref it) 1 >>= _) _ _ s
 refine wpAny_bind (wpAny_field ho hd (x:=.int (-1) 0) rfl ?_)
 show wpAny _ A.in1 (if (-1:Int)<0 then _ else _) _ _ s
 rw [if_pos (by decide)]
 refine wpAny_bind (wpAny_rule (wpAny_bind ?_))
 show wpAny _ A.in1 (setField (.ref it) 1 (rawInt (-1)) >>= fun _=>setField (.ref it) 0 .none) _ _ _
 refine wpAny_bind (wpAny_setField ho hd (show 1<2 by decide) ?_)
 have ho2:=ana (Obj.mapFields fun x=>x.setIfInBounds 1 (rawInt (-1))) ho (apJ (aoD hd _))
 have hd2:=aoD hd fun x=>x.setIfInBounds 1 (rawInt (-1))
 refine wpAny_setField ho2 hd2 (show 0<2 by decide) ?_
 refine wpAny_bind ?_
 show wpAny _ A.in1 (newExc (.type "StopIteration") [] >>= _) _ _ _
 refine wpAny_bind ?_
 simp only [newExc,newTuple]
 refine wpAny_bind (wpAny_newObj_type ?_ (by size_fits))
 refine wpAny_bind (m:=firstArgMember _ _) (wpAny_of_eq (a:=Value.none) (by rfl) (wpAny_newObj_type ?_ (by size_fits)))
 simp only [raiseNew]
 refine wpAny_bind (wpAny_handled ?_)
 rw [show A.in1.handled=none from hh]
 refine wpAny_bind (wpAny_pure (wpAny_throw ?_))
 refine wpAny_bind (wpAny_isInstance (T:="StopIteration") (b:=true) ⟨_,amH _ rfl,rfl⟩ isSubtype_stop (wpAny_pure (q _ ?_)))
 have e1:ap5 it s.heap _:=(aos s.heap it (Obj.mapFields fun x=>x.setIfInBounds 1 (rawInt (-1)))).extBut
 refine fun b o' nb hb=>amq _ (amq _ ?_)
 rw [amP _ _ nb.symm]
 exact e1 b o' nb hb
theorem ac8 {Q₁:Value->Shared->Prop} (tu:IsTup s.heap t items) (small:items.size<2 ^ 62) (h:∀ tk,Q₁ (.ref s.heap.objs.size) { s with heap:=s.heap.push (ac6 t ((items.size:Int) - 1)),toks:=tk }) :
  codeAny (model prog w) A (.call (.builtin "reversed.__new__") ⟨[.type "reversed",.ref t],[]⟩) (wants Q₁ E) s:=by
 refine codeAny_of_tree ?_
 show wpAny _ A.in1 (checkBuiltinCall "reversed.__new__" ⟨[.type "reversed",.ref t],[]⟩ >>= _) _ _ s
 refine wpAny_bind (wpAny_of_eq (F.newCall_reversed_1 (.ref t)) (wpAny_pure ⟨plainId_quiet aoX _,codeAny_builtin F.entry_reversed_new ?_⟩))
 rw [aoo aoX _]
 show wpAny _ A.in1 (Builtin.SmallTypes.newClass "reversed" ⟨[.type "reversed",.ref t],[]⟩ >>= _) _ _ s
 refine wpAny_bind (wpAny_of_eq (newClass_reversed (.ref t)) ?_)
 refine wpAny_bind (wpAny_of_eq (show Builtin.SmallTypes.refuseKeywords "reversed" (.type "reversed") ⟨[.type "reversed",.ref t],[]⟩=pure () from rfl) ?_)
 refine wpAny_bind (wpAny_of_eq (show checkCount "reversed" 1 1 [Value.ref t].length=pure () from rfl) ?_)
 refine wpAny_bind (wpAny_specialOf tu.typeIs agg ?_)
 refine wpAny_bind ?_
 show wpAny _ A.in1 (isInstance (.ref t) (.type "dict") >>= _) _ _ s
 refine wpAny_bind (wpAny_isInstance tu.typeIs (b:=false) (by rw [isSubtype_type];kernel_rfl) ?_)
 rw [if_neg amh]
 refine wpAny_bind (wpAny_specialOf tu.typeIs apU.lookup ?_)
 show wpAny _ A.in1 (if (List.contains _ "tuple.__getitem__")=true then _ else _) _ _ s
 rw [if_pos (by decide +kernel)]
 refine wpAny_pure ?_
 rw [if_neg (by decide)]
 refine wpAny_bind (len_tuple tu (by omega) ?_)
 refine wpAny_bind (wpAny_of_eq (show asInt? (.int (items.size:Int) _)=pure (some _) from rfl) ?_)
 show wpAny _ A.in1 (newObj (.type "reversed") (.fields #[.ref t,rawInt ((items.size:Int) - 1)]) >>= _) _ _ _
 exact wpAny_bind (wpAny_newObj_type (wpAny_pure (h _)) (by size_fits))
theorem ajb {Q:Value->Shared->Prop} (tu:IsTup s.heap t items) (small:items.size<2 ^ 62) (h:∀ tk,Q (.ref s.heap.objs.size) { s with heap:=s.heap.push (ac6 t ((items.size:Int) - 1)),toks:=tk }):wpAny (model prog w) A (call (.type "reversed") [.ref t]) Q E s:=by
 refine callType_codes (Q₁:=fun v s1=>∃ tk,v=.ref s.heap.objs.size/\s1={ s with heap:=s.heap.push (ac6 t ((items.size:Int) - 1)),toks:=tk }) agf (F.typeCall_reversed_1 _) F.entry_object_init (ac8 tu small fun tk=>⟨tk,rfl,rfl⟩) ?_
 rintro _ _ ⟨tk,rfl,rfl⟩
 have ty:({ s with heap:=s.heap.push (ac6 t ((items.size:Int) - 1)),toks:=tk }:Shared).TypeIs (.ref s.heap.objs.size) "reversed":=⟨_,amH _ rfl,rfl⟩
 refine⟨ty,F.args_object_init_2 _ _,?_⟩
 exact object_init_meets srv_init.lookup F.made_reversed (by decide) prog w A.in1 _ _ ⟨ty,rfl,h tk⟩
end
def Irv (K:amk) (a:Addr) (n:Nat):It where
 go:=fun i H=>∃ xs x,SqT K H a xs/\xs.length=n/\xs.reverse[i]?=some x
 yld:=fun i H x H'=>H'=H/\∀ xs,SqT K H a xs->xs.reverse[i]?=some x
 stop:=fun i H=>∃ xs,SqT K H a xs/\xs.length=n/\i=n
theorem ajc {P:Program} {w:World} {K:amk} {tg:Expr} (a it:Addr) (n:Nat):Turn P w K tg (Irv K a n) [it] it (fun i h=>ac7 h it a ((n:Int) - 1 - (i:Nat))) where
 mem:=amm
 obj:=fun i h st b hb=>by
  cases amM.mp hb
  obtain⟨o,e,c,d⟩:=st
  exact⟨o,e,fun v z=>by rw [d] at z;cases z⟩
 keep:=fun i h h' ⟨o,e,r⟩ k=>⟨o,k it amm o e,r⟩
 item:=by
  intro X hP hw hK hc i pins s σ H E I hf st hg
  subst hP hw hK
  obtain⟨xs,x,hq,hn,hx⟩:=hg
  obtain⟨its,rv,p,hz⟩:=I.tuple hq
  have hl:=rv.length
  have hi:i<xs.length:=by
   have:=(ami.mp hx).1
   rw [amZ] at this
   exact this
  have hx':=hx
  rw [anJ hi] at hx
  obtain⟨u,hu,ru⟩:=rv.get hx
  obtain⟨f0,f1,f2,f3,f4,f5⟩:=hf it amm
  have hs:sizeLine=16777216:=sizeLine_eq
  have ej:(n:Int) - 1 - (i:Nat)=((xs.length - 1 - i:Nat):Int):=by omega
  rw [ej] at st
  refine aja (items:=its.toArray) st p (x:=u) (by simpa using hu) (by rw [amv,<- hl];omega) fun h' tk st' sb=>?_
  have I1:Inv X pins σ H { s with heap:=h',toks:=tk }:=I.turned (t':=tk) (fun b o hb e=>(sb.2 b hb).trans e) f0 f1 f3 f4 f5
  obtain⟨o,e,c,d⟩:=id st'
  refine⟨u,rfl,aev (s:={ s with heap:=h',toks:=tk }) e c d (by decide) ⟨x,H,I1,ru,⟨rfl,fun ys hy=>by rw [I.tuple_inj hy hq];exact hx'⟩,?_,fun b hb=>(hf b hb).1⟩⟩
  rw [show (n:Int) - 1 - ((i+1:Nat):Int)=((xs.length - 1 - i:Nat):Int) - 1 by omega]
  exact st'
 done:=by
  intro X hP hw hK hc i pins s σ H E I hf st hg
  subst hP hw hK
  obtain⟨xs,hq,hn,rfl⟩:=hg
  obtain⟨f0,f1,f2,f3,f4,f5⟩:=hf it amm
  rw [show (i:Int) - 1 - (i:Nat)=-1 by omega] at st
  exact ak6 (I.ok.hd hc) st fun h' eb=>⟨rfl,I.turned (t':=s.toks) (fun b o hb e=>eb b o hb e) f0 f1 f3 f4 f5⟩
 self:=fun _ _ _ _ _ st h=>afd st h
def iRv (K:amk) (t:TA):TI:=fun σ H R=>t σ H fun vs H1=>∃ a xs,vs=[.ref a]/\SqT K H1 a xs/\R (Irv K a xs.length) H1
theorem ak7 {X:Cx} {K:amk} {tg e:Expr} {te:TA} {p pos:Pos} (hK:X.K=K) (hg:Gl X "reversed") (hm:X.mg "reversed"=none) (ha:PA X [e] te) (hs:starEach [e] X.env=(false,eval e X.env) :: starEach [] X.env:=by rfl):PI X tg (.Call (.Name "reversed" p) [e] [] pos) (iRv K te):=by
 subst hK
 intro pins s σ H R I h
 refine wpAny_Call_Name_kw (vq I hg hm boot_reversed ?_ (by decide) (by decide))
 refine anz (thn (ha pos pins s σ H _ I h) fun us s1 ⟨vs,H1,I1,r1,q1⟩=>?_) hs rfl
 obtain⟨a,xs,rfl,hq,q⟩:=q1
 obtain⟨u,rfl,rx⟩:=vals1 r1
 cases rx
 obtain⟨its,rv,p,hz⟩:=I1.tuple hq
 have hl:=rv.length
 have hs:sizeLine=16777216:=sizeLine_eq
 refine ajb p (by rw [amv,<- hl];omega) fun tk=>?_
 have st:ac7 (s1.heap.push (ac6 a ((its.toArray.size:Int) - 1))) s1.heap.objs.size a ((its.toArray.size:Int) - 1):=⟨_,amH _ rfl,rfl,rfl⟩
 refine afd st ?_
 refine⟨s1.heap.objs.size,[s1.heap.objs.size],_,_,H1,rfl,I1.kept (t':=tk) fun b o e=>amq _ e,ajc a _ xs.length,?_,fun b hb=>?_,q⟩
 ·show ac7 _ _ _ _
  rw [show (xs.length:Int) - 1 - ((0:Nat):Int)=(its.toArray.size:Int) - 1 by rw [amv,hl];omega]
  exact st
 ·cases amM.mp hb
  exact I1.fpOk (amn _) (I1.hok.fresh (amn _))
section
variable {K:amk} {f:Fx} {ρ:zp} {R:List PyData->Prop} {t:TA}
theorem amc (h:PAd K f t ρ fun xs=>∃ ds,xs=[.dat (.tuple ds)]/\R ds.reverse):PId K f (iRv K t) ρ R:=fun σ H C e q=>h σ H _ e fun xs vs H1 g1 r1 ⟨ds,ex,p⟩=>by
 subst ex
 cases r1 with
 | cons rx r' =>
  cases r'
  obtain⟨a,xs,rfl,h1,h2⟩:=rep_tuple.mp rx
  have hl:=h2.length
  refine⟨a,xs,rfl,(zf _ _).seqT h1,q ds.reverse _ H1 g1 ⟨fun f' H' i d fo sm hd=>?_,fun f' H' _ sm=>⟨xs,(zf _ _).seqT (sm.seqT h1),rfl,by rw [amZ];exact hl.symm⟩⟩ p⟩
  have hi:i<ds.length:=by
   have:=(ami.mp hd).1
   rw [amZ] at this
   exact this
  rw [anJ hi] at hd
  obtain⟨z,hz,rz⟩:=h2.get hd
  have sq:SqT K H' a xs:=(zf _ _).seqT (sm.seqT h1)
  have hz':xs.reverse[i]?=some z:=by rw [anJ (by omega),show xs.length - 1 - i=ds.length - 1 - i by omega];exact hz
  refine⟨⟨xs,z,sq,rfl,hz'⟩,fun x H3 hy=>?_⟩
  obtain⟨rfl,hy⟩:=hy
  have ez:=hy xs sq
  rw [hz'] at ez
  cases ez
  exact⟨.refl fo,Rep.mono sm _ _ rz⟩
end
end L2
end
section
namespace My
open PySem PySem.Spec PyProof.Rows L2
abbrev pf:List Str:=["rows"]
abbrev ph:List Str:=["rows","cut","gate"]
abbrev pj:List Str:=["rows","cut","cell"]
abbrev pq:List Str:=["rows","x","y"]
abbrev pz:List Str:=["rows","cut"]
abbrev pA:List Str:=["_law_rows","_law_gate"]
abbrev pB:List Str:=["_law_feed_here","_law_many"]
abbrev pC:List Str:=["gate","rows","cut"]
abbrev pD:List Str:=["things"]
abbrev pE:List Str:=["rows","cut","point"]
abbrev pF:List Str:=["x","y"]
abbrev pG:List Str:=["rows","gate"]
abbrev pH:List Str:=["_law_feed_here","_law_far","_law_base"]
abbrev pI:List Str:=["_law_word","_law_some","_law_rows"]
abbrev pJ:List Str:=["rows","by"]
abbrev pK:List Str:=["rows","cut","start"]
abbrev pL:List Str:=["_law_script","_law_k"]
abbrev pM:List Str:=["_law_feed_here"]
abbrev pN:List Str:=["_law_feed_here","_law_rows"]
abbrev pO:List Str:=["_law_word","_law_some"]
abbrev pP:List Str:=["_law_script"]
abbrev pQ:List Str:=["x","y","way"]
abbrev pR:List Str:=["_law_gate","_law_rows"]
abbrev pS:List Str:=["rows","cut","gate","across","down"]
abbrev pV:List Str:=["_law_rows","_law_gate","_law_x","_law_y","_law_way"]
abbrev pW:List Str:=["_law_y","_law_feed_here","_law_wide","_law_far","_law_base"]
abbrev pX:List Str:=["_law_x","_law_feed_here","_law_far","_law_base"]
local macro_rules | `(tactic| walk_at "w")=>`(tactic| repeat walk_at "dl")
local macro_rules | `(tactic| walk_at "s")=>`(tactic| exact⟨rfl,rfl,rfl,by decide +kernel,rfl,by decide +kernel,by decide +kernel⟩)
def top (i:Nat):Stmt:=PySem.Challenge.pw_heightrings_k13_whole_lines_turned.main.body.getD i (.Pass ⟨0,0,0,0⟩)
abbrev ab1:=top 1
abbrev ak8:List Str:=pf
theorem ajd:FnScope ak8 pf (zi ab1):=by walk_at "s"
abbrev vh:=top 2
abbrev ahI:List Str:=["rows","wide","tall"]
theorem sc_points:FnScope ahI pf (zi vh):=by walk_at "s"
abbrev ji:=top 3
abbrev ac9:List Str:=["rows","x","y","wide","tall"]
theorem sc_has_point:FnScope ac9 pq (zi ji):=by walk_at "s"
abbrev jH:=top 4
abbrev ad5:List Str:=pq
theorem ada:FnScope ad5 pq (zi jH):=by walk_at "s"
abbrev qs:=top 5
abbrev agh:List Str:=pF
theorem ad6:FnScope agh pF (zi qs):=by walk_at "s"
abbrev jj:=top 14
abbrev adb:List Str:=["rows","at","row"]
theorem sc_ask_table:FnScope adb pf (zi jj):=by walk_at "s"
abbrev ab2:=top 15
abbrev ak9:List Str:=pD
theorem aje:FnScope ak9 pD (zi ab2):=by walk_at "s"
abbrev vi:=top 16
abbrev ahJ:List Str:=["row"]
theorem agi:FnScope ahJ ["row"] (zi vi):=by walk_at "s"
abbrev vj:=top 17
abbrev ahK:List Str:=["rows","wide","tall"]
theorem sc_turned:FnScope ahK pf (zi vj):=by walk_at "s"
abbrev jI:=top 18
abbrev ad7:List Str:=pf
theorem ade:FnScope ad7 pf (zi jI):=by walk_at "s"
abbrev vk:=top 19
abbrev ahL:List Str:=["rows","by","higher"]
theorem sc_raised:FnScope ahL pJ (zi vk):=by walk_at "s"
abbrev v8:=top 23
abbrev ajf:List Str:=["rows","cut","sides"]
theorem sc_gates:FnScope ajf pz (zi v8):=by walk_at "s"
abbrev yN:=top 24
abbrev aaU:List Str:=["rows","cut","point","x","y"]
theorem sc_stands_high:FnScope aaU pE (zi yN):=by walk_at "s"
abbrev yO:=top 25
abbrev aaV:List Str:=["gate","x","y","way"]
theorem sc_gate_points:FnScope aaV ["gate"] (zi yO):=by walk_at "s"
abbrev jJ:=top 26
abbrev ad8:List Str:=pG
theorem adf:FnScope ad8 pG (zi jJ):=by walk_at "s"
abbrev qt:=top 27
abbrev agj:List Str:=["rows","cut","gate","first","second"]
theorem sc_is_open:FnScope agj ph (zi qt):=by walk_at "s"
abbrev yY:=top 28
abbrev ab3:List Str:=["cell","x","y"]
theorem sc_cell_gates:FnScope ab3 ["cell"] (zi yY):=by walk_at "s"
abbrev yZ:=top 29
abbrev ab4:List Str:=pj
theorem aaW:FnScope ab4 pj (zi yZ):=by walk_at "s"
abbrev yk:=top 30
abbrev vm:List Str:=["rows","cut","cell","x","y"]
theorem sc_has_high_middle:FnScope vm pj (zi yk):=by walk_at "s"
abbrev jk:=top 31
abbrev adg:List Str:=["rows","cut","cell","through"]
theorem sc_cell_ties:FnScope adg pj (zi jk):=by walk_at "s"
abbrev yF:=top 32
abbrev aaC:List Str:=["rows","cut","cell","above","left","below","right"]
theorem sc_crossed_ties:FnScope aaC pj (zi yF):=by walk_at "s"
abbrev qu:=top 33
abbrev agk:List Str:=["rows","cut","gate","x","y","way","near_is_high"]
theorem sc_heading:FnScope agk ph (zi qu):=by walk_at "s"
abbrev y4:=top 34
abbrev ab5:List Str:=pS
theorem sc_cell_ahead:FnScope ab5 ph (zi y4):=by walk_at "s"
abbrev jK:=top 35
abbrev ad9:List Str:=pS
theorem sc_comes_in:FnScope ad9 ph (zi jK):=by walk_at "s"
abbrev y6:=top 36
abbrev ab6:List Str:=["rows","cut","gate","x","y","partners","one","other"]
theorem sc_gate_ahead:FnScope ab6 ph (zi y6):=by walk_at "s"
abbrev v9:=top 38
abbrev ajg:List Str:=["rows","cut","through","starts","told","passed","start","line","gate"]
theorem sc_lines:FnScope ajg pz (zi v9):=by walk_at "s"
abbrev jl:=top 39
abbrev adh:List Str:=["rows","cut","start","path","gate"]
theorem sc_line_from:FnScope adh pK (zi jl):=by walk_at "s"
abbrev jL:=top 41
abbrev qQ:List Str:=["_law_script","_law_k","_law_cell"]
theorem sc_law_feed:FnScope qQ pL (zi jL):=by walk_at "s"
abbrev jM:=top 42
abbrev aea:List Str:=["_law_feed_here","_law_many","_law_found"]
theorem sc_law_draw:FnScope aea pB (zi jM):=by walk_at "s"
abbrev y7:=top 43
abbrev ab7:List Str:=pH
theorem aaX:FnScope ab7 pH (zi y7):=by walk_at "s"
abbrev jm:=top 44
abbrev adi:List Str:=["_law_feed_here","_law_wide","_law_high","_law_far","_law_base"]
theorem sc_law_table:FnScope adi pM (zi jm):=by walk_at "s"
abbrev qv:=top 45
abbrev agl:List Str:=["_law_feed_here","_law_rows","_law_row"]
theorem sc_law_cut:FnScope agl pN (zi qv):=by walk_at "s"
abbrev jn:=top 46
abbrev adj:List Str:=["_law_word","_law_some","_law_at"]
theorem sc_law_begun:FnScope adj pO (zi jn):=by walk_at "s"
abbrev y8:=top 47
abbrev ab8:List Str:=pV
theorem sc_law_turned:FnScope ab8 pA (zi y8):=by walk_at "s"
abbrev yG:=top 48
abbrev aaD:List Str:=pV
theorem sc_law_mirrored:FnScope aaD pA (zi yG):=by walk_at "s"
abbrev vU:=top 49
abbrev afe:List Str:=["_law_script","_law_k","_law_feed_here","_law_rows","_law_cut_here","_law_found","_law_one","_law_other","_law_top","_law_low","_law_by"]
theorem sc_law:FnScope afe pP (zi vU):=by walk_at "s"
def tab (rows:List (List Int)):PyData:=.list (rows.map fun r=>.list (r.map .int))
structure Good (w:Nat) (rows:List (List Int)):Prop where
 h1:2<=rows.length
 h2:rows.length<=7
 w1:2<=w
 w2:w<=7
 row:∀ r∈rows,r.length=w
 hgt:∀ r∈rows,∀ n∈r,-1000000000<=n/\n<=1000000000
theorem Good.ne {w:Nat} {rows:List (List Int)} (g:Good w rows):∃ r rs,rows=r :: rs:=by
 cases rows with
 | nil=>have:=g.h1;simp at this
 | cons r rs=>exact⟨r,rs,rfl⟩
theorem yP {α β:Type} {F:α->β} {xs:List α} {k:Int} {j:Nat} (hk:(j:Int)=k) (h:j<xs.length):atI (xs.map F) k=some (F xs[j]):=by
 subst hk
 exact aeD (by rw [aml,amf h];rfl)
local macro_rules | `(tactic| walk_at "dl")=>`(tactic| first
 | (with_reducible show PSd _ _ (qA _ (acr (yH _) (tC (V.int 0)) aal)) _ _;refine aeM rfl ?_)
 | (with_reducible show PSd _ _ (qA _ (acr (yH _) (tC (V.int 1)) aal)) _ _;refine aeN rfl ?_)
 | with_reducible refine zN ?_ | with_reducible refine aao ?_ | with_reducible refine yx ?_ | with_reducible refine zS ?_ | with_reducible refine jZ ?_ | with_reducible refine jY ?_
 | with_reducible refine zj ?_ | with_reducible refine yW rfl ?_ | with_reducible refine zv ?_ | with_reducible refine yh ?_
 | with_reducible refine yC ?_ | with_reducible refine t_b ?_ | with_reducible refine agX ?_ | with_reducible refine alE ?_ | with_reducible refine aeJ ?_ | with_reducible refine qE ?_
 | with_reducible refine aeK ?_ | with_reducible refine agU ?_ | with_reducible refine jf ?_ | with_reducible refine agT ?_ | with_reducible refine jW ?_
 | with_reducible refine aiG ?_ | with_reducible refine adS ?_ | with_reducible refine d_orV ?_ | with_reducible refine agY ?_
 | with_reducible refine qW ?_ | with_reducible refine akE ?_ | with_reducible refine aeI ?_ | with_reducible refine ajQ ?_
 | (with_reducible show PEd _ _ (yH _) _ _;refine zt rfl ?_)
 | (with_reducible show PEd _ _ (tOp (afM _) (yH _) _) _ _;refine ajR rfl ?_)
 | with_reducible refine vQ ?_ | with_reducible refine agV ?_
 | (with_reducible show PAd _ _ (yQ (yH _) _) _ _;refine agW rfl ?_)
 | with_reducible refine zE ?_ | with_reducible refine yw ?_
 | with_reducible refine jX ?_ | with_reducible refine ajS ?_ | with_reducible refine aa6 ?_ | with_reducible refine abE ?_ | with_reducible refine abF ?_ | with_reducible refine agZ ?_ | with_reducible refine ag0 ?_
 | (with_reducible show (∃ _,_) \/ (∃ _,_);refine Or.inl ⟨_,rfl,?_⟩) | refine⟨_,rfl,?_⟩ | refine⟨_,_,rfl,?_⟩
 | (with_reducible show (_=_/\∀ _,_) \/ _;first | refine Or.inl ⟨rfl,fun a ha=>?_⟩ | refine Or.inr ⟨rfl,fun b hb hb'=>?_⟩)
 | refine⟨rfl,?_⟩
 | (refine And.intro ?side ?_;(case side=>first | omega | exact Int.ediv_nonneg (by omega) (by omega) | exact ao1 _ (by omega) | exact anH _ (by omega) | decide | exact⟨by decide,by decide,by decide⟩ | exact⟨by omega,by omega⟩ | exact Or.inl ⟨by omega,by omega⟩ | exact Or.inr ⟨by omega,by omega⟩ | (refine amO (an0 (by rfl)) (show _<=1000 by decide)) | ((repeat' apply And.intro) <;> first | rfl | omega | decide | assumption) | (simp [ap1]))))
section
variable {P:Program} {w:World} {K:amk} {mg:Str->Option Value} {base:Heap} {k:Nat}
theorem ajh (F:Def K mg "size" ab1 pf) (uaa:mg "len"=none):FnIn P w K mg base (k+1) "size" pf (spD K 1 (fun (c:List (List Int)×Nat) xs=>xs=[.dat (tab c.1)]/\Good c.2 c.1) fun c r=>r=.tuple [.int c.2,.int c.1.length]):=by
 refine F.ok ajd rfl fun fa cdv A outer s H E hr=>⟨_,(zk (zr (zF (za (zw (zQ (K:=K) rfl) rfl uaa am1 (za (zX (zC (K:=K) rfl) (pv 0) zd (fun _ _=>rfl)) zb)) (za (zw (zQ (K:=K) rfl) rfl uaa am1 (za (pv 0) zb)) zb))))),?_⟩
 rintro f xs ⟨rows,wd⟩ hl ⟨rfl,g⟩
 try dsimp only [z9,zh]
 obtain⟨r,rs,rfl⟩:=g.ne
 walk_at "w"
 refine⟨_,yP (j:=0) rfl (by simp),?_⟩
 walk_at "w"
 have hw:=g.row r amm
 show PyData.tuple [.int _,.int _]=_
 rw [amg,amg]
 show PyData.tuple [.int (r.length:Nat),_]=_
 rw [hw]
theorem aji (F:Def K mg "fits" ab2 pD) (uaa:mg "len"=none) (uak:∃ t,mg "FEWEST"=some (.int 2 t)) (ual:∃ t,mg "MOST"=some (.int 7 t)) :
  FnIn P w K mg base (k+1) "fits" pD (spD K 1 (fun (c:List PyData) xs=>xs=[.dat (.list c)]) fun c r=>r=.bool (decide (2<=c.length/\c.length<=7))):=by
 obtain⟨_,uak⟩:=uak
 obtain⟨_,ual⟩:=ual
 refine F.ok aje rfl fun fa cdv A outer s H E hr=>⟨_,(zk (zr (aai aaZ aaZ (qX rfl uak) (zw (zQ (K:=K) rfl) rfl uaa am1 (za (pv 0) zb)) (qX rfl ual)))),?_⟩
 rintro f xs ds hl rfl
 try dsimp only [z9,zh]
 walk_at "w"
 by_cases h:2<=ds.length
 ·rw [if_pos (by simp;omega)]
  walk_at "w"
  show PyData.bool _=_
  congr 1
  by_cases h7:ds.length<=7 <;> simp [h,h7] <;> omega
 ·rw [if_neg (by simp;omega)]
  show PyData.bool _=_
  congr 1
  simp [h]
theorem agm (F:Def K mg "is_row" vi ["row"]) (uab:mg "min"=none) (uaf:mg "max"=none) (uam:∃ t,mg "LEAST"=some (.int (-1000000000) t)) (uan:∃ t,mg "GREATEST"=some (.int 1000000000 t))
  (uax:FnIn P w K mg base k "fits" pD (spD K 1 (fun (c:List PyData) xs=>xs=[.dat (.list c)]) fun c r=>r=.bool (decide (2<=c.length/\c.length<=7)))) :
  FnIn P w K mg base (k+1) "is_row" ["row"] (spD K 1 (fun (c:List Int) xs=>xs=[.dat (.list (c.map .int))]) fun c r=>r=.bool (decide (2<=c.length/\c.length<=7/\∀ n∈c,-1000000000<=n/\n<=1000000000))):=by
 obtain⟨_,uam⟩:=uam
 obtain⟨_,uan⟩:=uan
 refine F.ok agi rfl fun fa cdv A outer s H E hr=>⟨_,(zk (zr (abw (ze uax hr rfl (za (pv 0) zb)) (abw (qV aaZ (qX rfl uam) (zw (vy (K:=K) rfl rfl) rfl uab boot_min (za (pv 0) zb)) (z8 _)) (adJ (qV aaZ (zw (vz (K:=K) rfl rfl) rfl uaf boot_max (za (pv 0) zb)) (qX rfl uan) (z8 _))))))),?_⟩
 rintro f xs c hl rfl
 try dsimp only [z9,zh]
 walk_at "w"
 refine zm (c.map .int) ?_
 walk_at "w"
 rintro r rfl
 rw [amg]
 walk_at "w"
 by_cases h:2<=c.length/\c.length<=7
 ·have hne:c≠[]:=by rintro rfl;simp at h
  rw [if_pos (by simpa using h)]
  walk_at "w"
  intro M hM hM'
  walk_at "w"
  by_cases h2:-1000000000<=M
  ·rw [if_pos (by simpa using h2)]
   walk_at "w"
   intro M' hN hN'
   walk_at "w"
   show PyData.bool _=_
   congr 1
   rw [decide_eq_decide]
   refine⟨fun q=>⟨h.1,h.2,fun n hn=>⟨apD h2 (hM' n hn),apD (hN' n hn) q⟩⟩,fun q=>(q.2.2 M' hN).2⟩
  ·rw [if_neg (by simpa using h2)]
   show PyData.bool _=_
   congr 1
   symm
   rw [decide_eq_false_iff_not]
   exact fun q=>h2 (q.2.2 M hM).1
 ·rw [if_neg (by simpa using h)]
  show PyData.bool _=_
  congr 1
  symm
  rw [decide_eq_false_iff_not]
  exact fun q=>h ⟨q.1,q.2.1⟩
abbrev abg (K:amk):Sp:=spD K 1 (fun (c:List (List Int)×Nat) xs=>xs=[.dat (tab c.1)]/\Good c.2 c.1) fun _ r=>r=.bool true
theorem ala (F:Def K mg "ask_table" jj pf) (uaa:mg "len"=none) (uay:mg "enumerate"=none)
  (uax:FnIn P w K mg base k "fits" pD (spD K 1 (fun (c:List PyData) xs=>xs=[.dat (.list c)]) fun c r=>r=.bool (decide (2<=c.length/\c.length<=7))))
  (ua2:FnIn P w K mg base k "is_row" ["row"] (spD K 1 (fun (c:List Int) xs=>xs=[.dat (.list (c.map .int))]) fun c r=>r=.bool (decide (2<=c.length/\c.length<=7/\∀ n∈c,-1000000000<=n/\n<=1000000000)))) :
  FnIn P w K mg base (k+1) "ask_table" pf (abg K):=by
 refine F.ok sc_ask_table rfl fun fa cdv A outer s H E hr=>⟨_,(zc (yy (abv (yD (K:=K) rfl (ze uax hr rfl (za (pv 0) zb)) (fun _=>rfl))) (zk acq) zV) (zc (aag aoe rfl (ag4 (K:=K) rfl rfl uay (za (pv 0) zb)) (zR (K:=K) (n:=2) rfl rfl (zl (zg (i:=1) sc_ask_table.nd rfl (Or.inl rfl) (Or.inr rfl)) (zl (zg (i:=2) sc_ask_table.nd rfl (Or.inl rfl) (Or.inr rfl)) zJ))) (zk (yy (PW.pt (aly (z3 (vB (K:=K) rfl hr.units) (zw (zQ (K:=K) rfl) rfl uaa am1 (za (pv 2) zb)) (zw (zQ (K:=K) rfl) rfl uaa am1 (za (zX (zC (K:=K) rfl) (pv 0) zd (fun _ _=>rfl)) zb)) (z8 _)) (akh (abv (yD (K:=K) rfl (ze ua2 hr rfl (za (pv 2) zb)) (fun _=>rfl)))))) (zk acq) zV))) (zk (zr aad)))),?_⟩
 rintro f xs ⟨rows,wd⟩ hl ⟨rfl,g⟩
 try dsimp only [z9,zh]
 have g1:=g.h1
 have g2:=g.h2
 walk_at "w"
 refine zm (rows.map fun r=>.list (r.map .int)) ?_
 walk_at "w"
 rintro r rfl
 dsimp only at g1 g2
 refine⟨_,rfl,?_⟩
 rw [amg,decide_eq_true ⟨g1,g2⟩,am5,if_neg amh]
 walk_at "w"
 refine adT ?_
 walk_at "w"
 refine⟨fun i ρ=>∃ a b,ρ=[some (.dat (tab rows)),a,b],⟨_,_,rfl⟩,?_,?_⟩
 ·rintro i d ρ hd ⟨a,b,rfl⟩
  rw [aml] at hd
  cases hr:rows[i]? with
  | none=>rw [hr] at hd;cases hd
  | some r =>
   rw [hr] at hd
   cases hd
   have hm:=amw hr
   have hw:=g.row r hm
   obtain⟨r0,rs,hrs⟩:=g.ne
   dsimp only at hrs
   subst hrs
   have hw0:=g.row r0 amm
   walk_at "w"
   refine⟨_,yP (j:=0) rfl (by simp),?_⟩
   walk_at "w"
   dsimp only at hw hw0
   rw [if_pos rfl,amg,amg]
   show (if (!(((r.length:Nat):Int) == ((r0.length:Nat):Int)))=true then _ else _)
   rw [hw,hw0,beq_self_eq_true,am5,if_neg amh]
   walk_at "w"
   refine zm r ?_
   walk_at "w"
   rintro _ rfl
   refine⟨_,rfl,?_⟩
   have w1:=g.w1
   have w2:=g.w2
   dsimp only at w1 w2
   rw [decide_eq_true ⟨by omega,by omega,g.hgt r hm⟩,am5,if_neg amh]
   walk_at "w"
   exact⟨_,_,rfl⟩
 ·rintro ρ ⟨a,b,rfl⟩
  walk_at "w"
  rfl
theorem ajj (F:Def K mg "_law_draw" jM pB):FnIn P w K mg base (k+1) "_law_draw" pB (spD K 2 (fun (c:Int) xs=>xs=[.feed,.dat (.int c)]/\0<c/\c<1152921504606846976) fun c r=>∃ i:Int,r=.int i/\0<=i/\i<c):=by
 refine F.ok sc_law_draw rfl fun fa cdv A outer s H E hr=>⟨_,(zc (yy (z3 ajN (zX (zC (K:=K) rfl) (pv 0) zd (fun _ _=>rfl)) (zu jU zd zd) (z8 _)) (zc (zM (i:=2) sc_law_draw.nd rfl (Or.inl rfl) (zu vt (zX (zC (K:=K) rfl) (pv 0) zd (fun _ _=>rfl)) (pv 1))) (zc (yc (zu acH (zX (zC (K:=K) rfl) (pv 0) zd (fun _ _=>rfl)) (pv 1)) (abx (pv 0) zd set_list)) (zk (zr (pv 2))))) zV) (zc (yc (zu vt (zu zW (zu zW (zu aah (zX (zC (K:=K) rfl) (pv 0) zd (fun _ _=>rfl)) zd) (zu vt (zX (zC (K:=K) rfl) (pv 0) zd (fun _ _=>rfl)) zd)) zd) zd) (abx (pv 0) zd set_list)) (zk (zr (zu vt (zu acH (zu vt (zu aah (zX (zC (K:=K) rfl) (pv 0) zd (fun _ _=>rfl)) zd) zd) zd) (pv 1)))))),?_⟩
 rintro f xs c hl ⟨rfl,c0,c1⟩
 try dsimp only [z9,zh]
 walk_at "w"
 split
 ·walk_at "w"
  exact anH _ c0
 ·walk_at "w"
  exact anH _ c0
abbrev ab9 (K:amk):Sp:=spD K 2 (fun (c:Int) xs=>xs=[.feed,.dat (.int c)]/\0<c/\c<1152921504606846976) fun c r=>∃ i:Int,r=.int i/\0<=i/\i<c
abbrev adk (K:amk):Sp:=spD K 3 (fun (c:Int×Int) xs=>xs=[.feed,.dat (.int c.1),.dat (.int c.2)]/\0<=c.1/\c.1<=10/\-1000000000<=c.2/\c.2<=999999991) fun c r=>∃ i:Int,r=.int i/\-1000000000<=i/\i<=1000000000
theorem agn (F:Def K mg "_law_height" y7 pH) (uab:mg "min"=none) (uad:FnIn P w K mg base k "_law_draw" pB (ab9 K)) :
  FnIn P w K mg base (k+1) "_law_height" pH (adk K):=by
 refine F.ok aaX rfl fun fa cdv A outer s H E hr=>⟨_,(zc (yy (z3 agH (pv 1) zd (z8 _)) (zk (zr (zu zW (pv 2) (ze uad hr rfl (za (pv 0) (za (pv 1) zb)))))) zV) (zk (zr (zw (vw rfl) rfl uab boot_min (za (zu jU zd zd) (za (zu yd (zu zW (zu aah (ze uad hr rfl (za (pv 0) (za zd zb))) zd) (ze uad hr rfl (za (pv 0) (za zd zb)))) (zu jU zd zd)) zb)))))),?_⟩
 rintro f xs ⟨far,bs⟩ hl ⟨rfl,c0,c1,c2,c3⟩
 dsimp only at c0 c1 c2 c3
 try dsimp only [z9,zh]
 walk_at "w"
 by_cases h:0<far
 ·rw [if_pos (by simpa using h)]
  walk_at "w"
  refine zm far ?_
  walk_at "w"
  rintro r ⟨i,rfl,h1,h2⟩
  walk_at "w"
  show bs+i<=1000000000
  omega
 ·rw [if_neg (by simpa using h)]
  walk_at "w"
  refine zm 20001 ?_
  walk_at "w"
  rintro r ⟨i,rfl,h1,h2⟩
  walk_at "w"
  refine zm 100000 ?_
  walk_at "w"
  rintro r ⟨j,rfl,h3,h4⟩
  walk_at "w"
  have e9:(10:Int) ^ ap2 9=1000000000:=by decide
  rw [e9]
  omega
abbrev aff (K:amk):Sp:=spD K 1 (fun (_:Unit) xs=>xs=[.feed]) fun _ r=>∃ wd rows,r=tab rows/\Good wd rows
theorem menu {ds:List PyData} {i n:Int} (h0:0<=i) (h1:i<n) (hn:n=(ds.length:Int)):∃ d,atI ds i=some d/\d∈ds:=by
 have hi:i.toNat<ds.length:=by omega
 have e:i=((i.toNat:Nat):Int):=by omega
 have q:=aeD (amf hi)
 rw [<-e] at q
 exact⟨_,q,amE hi⟩
theorem afg:∀ {es:List PyData} {p:Int->Prop},(∀ (i:Nat) e,es[i]?=some e->∃ n:Int,e=.int n/\p n)->∃ ns:List Int,es=ns.map .int/\∀ n∈ns,p n
 | [],p,_=>⟨[],rfl,fun n h=>by cases h⟩
 | e :: es,p,h=>by
  obtain⟨n,rfl,hn⟩:=h 0 e rfl
  obtain⟨ns,rfl,hs⟩:=afg (es:=es) (p:=p) fun i e' he=>h (i+1) e' (by simpa using he)
  exact⟨n :: ns,rfl,fun m hm=>by
   rcases amu.mp hm with rfl | hm
   ·exact hn
   ·exact hs m hm⟩
theorem afh:∀ {es:List PyData} {p:List Int->Prop},(∀ (i:Nat) e,es[i]?=some e->∃ r:List Int,e=.list (r.map .int)/\p r)->∃ rows:List (List Int),es=rows.map (fun r=>.list (r.map .int))/\∀ r∈rows,p r
 | [],p,_=>⟨[],rfl,fun n h=>by cases h⟩
 | e :: es,p,h=>by
  obtain⟨n,rfl,hn⟩:=h 0 e rfl
  obtain⟨ns,rfl,hs⟩:=afh (es:=es) (p:=p) fun i e' he=>h (i+1) e' (by simpa using he)
  exact⟨n :: ns,rfl,fun m hm=>by
   rcases amu.mp hm with rfl | hm
   ·exact hn
   ·exact hs m hm⟩
theorem ahM (F:Def K mg "_law_table" jm pM) (uac:mg "range"=none) (uad:FnIn P w K mg base k "_law_draw" pB (ab9 K)) (ua3:FnIn P w K mg base k "_law_height" pH (adk K)) :
  FnIn P w K mg base (k+1) "_law_table" pM (aff K):=by
 refine F.ok sc_law_table rfl fun fa cdv A outer s H E hr=>⟨_,(zc (zM (i:=1) sc_law_table.nd rfl (Or.inr rfl) (zu zW zd (ze uad hr rfl (za (pv 0) (za zd zb))))) (zc (zM (i:=2) sc_law_table.nd rfl (Or.inl rfl) (zu zW zd (ze uad hr rfl (za (pv 0) (za zd zb))))) (zc (zM (i:=3) sc_law_table.nd rfl (Or.inr rfl) (zX (zC (K:=K) rfl) (yz (za zd (za zd (za zd (za zd (za zd (za zd (za zd zb)))))))) (ze uad hr rfl (za (pv 0) (za zd zb))) (fun _ _=>rfl))) (zc (zM (i:=4) sc_law_table.nd rfl (Or.inr rfl) (zX (zC (K:=K) rfl) (yz (za zd (za (zu yd zd zd) (za (zu yd (zu jU zd zd) zd) (za (zu yd zd (zu jU zd zd)) zb))))) (ze uad hr rfl (za (pv 0) (za zd zb))) (fun _ _=>rfl))) (zk (zr (zZ (N:=pW) (own:=1) (fr:=[0,1,3,4]) ⟨rfl,by decide +kernel,of_decide_eq_true (by kernel_rfl),of_decide_eq_true (by kernel_rfl),of_decide_eq_true (by kernel_rfl),rfl⟩ rfl (yK rfl uac (za (pv 2) zb)) (fun _ _ _ _=>(zg (i:=0) (show (pW:List Str).Nodup by decide +kernel) rfl (Or.inl rfl) (Or.inr rfl))) (fun _ _ _ _=>zP) (fun _ _ _ _=>(zZ (N:=pX) (own:=1) (fr:=[1,3,4]) ⟨rfl,by decide +kernel,of_decide_eq_true (by kernel_rfl),of_decide_eq_true (by kernel_rfl),of_decide_eq_true (by kernel_rfl),rfl⟩ rfl (yK rfl uac (za (pv 2) zb)) (fun _ _ _ _=>(zg (i:=0) (show (pX:List Str).Nodup by decide +kernel) rfl (Or.inl rfl) (Or.inr rfl))) (fun _ _ _ _=>zP) (fun _ _ _ _=>(ze ua3 hr rfl (za (pv 1) (za (pv 2) (za (pv 3) zb))))) rfl rfl (fun _=>rfl))) rfl rfl (fun _=>rfl)))))))),?_⟩
 rintro f xs ⟨⟩ hl rfl
 try dsimp only [z9,zh]
 walk_at "w"
 refine zm 6 ?_
 walk_at "w"
 rintro r ⟨i1,rfl,h1,h2⟩
 walk_at "w"
 refine zm 6 ?_
 walk_at "w"
 rintro r ⟨i2,rfl,h3,h4⟩
 walk_at "w"
 refine zm 7 ?_
 walk_at "w"
 rintro r ⟨i3,rfl,h5,h6⟩
 refine⟨_,rfl,?_⟩
 obtain⟨d3,e3,m3⟩:=menu (ds:=[.int 2,.int 3,.int 5,.int 10,.int 2,.int 3,.int 0]) h5 h6 (by simp)
 obtain⟨far,rfl,f0,f1⟩:∃ n:Int,d3=.int n/\0<=n/\n<=10:=by
  simp only [amu,anG,or_false] at m3
  rcases m3 with rfl | rfl | rfl | rfl | rfl | rfl | rfl <;> exact⟨_,rfl,by decide,by decide⟩
 refine⟨_,e3,?_⟩
 walk_at "w"
 refine zm 4 ?_
 walk_at "w"
 rintro r ⟨i4,rfl,h7,h8⟩
 refine⟨_,rfl,?_⟩
 obtain⟨d4,e4,m4⟩:=menu (ds:=[.int 0,.int (0 - 3),.int (10 ^ ap2 9 - 9),.int (0 - 10 ^ ap2 9)]) h7 h8 (by simp)
 obtain⟨bs,rfl,b0,b1⟩:∃ n:Int,d4=.int n/\-1000000000<=n/\n<=999999991:=by
  simp only [amu,anG,or_false] at m4
  rcases m4 with rfl | rfl | rfl | rfl <;> exact⟨_,rfl,by decide,by decide⟩
 refine⟨_,e4,?_⟩
 walk_at "w"
 refine acE ?_
 walk_at "w"
 refine⟨fun _ e=>∃ r:List Int,e=.list (r.map .int)/\r.length=(2+i1).toNat/\∀ n∈r,-1000000000<=n/\n<=1000000000,fun D i hi=>?_,fun es hes hR=>?_⟩
 ·refine acE ?_
  walk_at "w"
  refine⟨fun _ e=>∃ n:Int,e=.int n/\-1000000000<=n/\n<=1000000000,fun D' i' hi'=>?_,fun es hes hR=>?_⟩
  ·refine zm (far,bs) ?_
   walk_at "w"
   rintro r ⟨n,rfl,n0,n1⟩
   exact⟨n,rfl,n0,n1⟩
  ·obtain⟨ns,rfl,hs⟩:=afg (p:=fun n=>-1000000000<=n/\n<=1000000000) hR
   exact⟨ns,rfl,by rw [amg] at hes;exact hes,hs⟩
 ·obtain⟨rows,rfl,hs⟩:=afh (p:=fun r=>r.length=(2+i1).toNat/\∀ n∈r,-1000000000<=n/\n<=1000000000) hR
  rw [amg] at hes
  exact⟨(2+i1).toNat,rows,rfl,by omega,by omega,by omega,by omega,fun r hr=>(hs r hr).1,fun r hr=>(hs r hr).2⟩
abbrev aj4 (K:amk):Sp:=spD K 2 (fun (c:List (List Int)×Nat) xs=>xs=[.feed,.dat (tab c.1)]/\Good c.2 c.1) fun _ r=>∃ n:Int,r=.int n/\-1000000001<=n/\n<=1000000000
local macro_rules | `(tactic| walk_at "dl")=>`(tactic| first
 | (with_reducible show PSd _ _ (qA _ (acr (yH _) (tC (V.int 0)) aal)) _ _;refine aeM rfl ?_)
 | (with_reducible show PSd _ _ (qA _ (acr (yH _) (tC (V.int 1)) aal)) _ _;refine aeN rfl ?_)
 | with_reducible refine zN ?_ | with_reducible refine aao ?_ | with_reducible refine yx ?_ | with_reducible refine zS ?_ | with_reducible refine jZ ?_ | with_reducible refine jY ?_
 | with_reducible refine zj ?_ | with_reducible refine yW rfl ?_ | with_reducible refine zv ?_ | with_reducible refine yh ?_
 | with_reducible refine yC ?_ | with_reducible refine t_b ?_ | with_reducible refine agX ?_ | with_reducible refine alE ?_ | with_reducible refine aeJ ?_ | with_reducible refine qE ?_
 | with_reducible refine aeK ?_ | with_reducible refine agU ?_ | with_reducible refine jf ?_ | with_reducible refine agT ?_ | with_reducible refine jW ?_
 | with_reducible refine aiG ?_ | with_reducible refine adS ?_ | with_reducible refine d_orV ?_ | with_reducible refine agY ?_
 | with_reducible refine qW ?_ | with_reducible refine akE ?_ | with_reducible refine aeI ?_ | with_reducible refine ajQ ?_
 | (with_reducible show PEd _ _ (yH _) _ _;refine zt rfl ?_)
 | (with_reducible show PEd _ _ (tOp (afM _) (yH _) _) _ _;refine ajR rfl ?_)
 | with_reducible refine vQ ?_ | with_reducible refine agV ?_
 | (with_reducible show PAd _ _ (yQ (yH _) _) _ _;refine agW rfl ?_)
 | with_reducible refine zE ?_ | with_reducible refine yw ?_
 | with_reducible refine d_catT ?_ | with_reducible refine ag9 ?_ | with_reducible refine ag7 ?_ | with_reducible refine ag8 ?_ | with_reducible refine d_int1 ?_ | with_reducible refine abH ?_ | with_reducible refine yJ ?_
 | with_reducible refine jX ?_ | with_reducible refine ajS ?_ | with_reducible refine aa6 ?_ | with_reducible refine abE ?_ | with_reducible refine abF ?_ | with_reducible refine agZ ?_ | with_reducible refine ag0 ?_
 | (with_reducible show (∃ _,_) \/ (∃ _,_);first | refine Or.inl ⟨_,rfl,?_⟩ | refine Or.inr ⟨_,rfl,?_⟩) | refine⟨_,rfl,?_⟩ | refine⟨_,_,rfl,?_⟩
 | (with_reducible show (_=_/\∀ _,_) \/ _;first | refine Or.inl ⟨rfl,fun a ha=>?_⟩ | refine Or.inr ⟨rfl,fun b hb hb'=>?_⟩)
 | (with_reducible show PyData.canLay0 _=true/\_;refine And.intro (by first | rfl | assumption | decide +kernel) ?_)
 | (with_reducible show min _ _<=60/\_;refine And.intro (by first | assumption | (simp [ap1,amt];done)) ?_)
 | refine⟨rfl,?_⟩
 | (refine And.intro ?side ?_;(case side=>first | omega | exact Int.ediv_nonneg (by omega) (by omega) | exact ao1 _ (by omega) | exact anH _ (by omega) | decide | exact⟨by decide,by decide,by decide⟩ | exact⟨by omega,by omega⟩ | exact Or.inl ⟨by omega,by omega⟩ | exact Or.inr ⟨by omega,by omega⟩ | (refine amO (an0 (by rfl)) (show _<=1000 by decide)) | ((repeat' apply And.intro) <;> first | rfl | omega | decide | assumption) | (simp [ap1]))))
theorem jo {b:Bool} {p q:Prop} (h1:b=true->p) (h2:b=false->q):if b=true then p else q:=by
 cases b with
 | true=>rw [if_pos rfl];exact h1 rfl
 | false=>rw [if_neg amh];exact h2 rfl
def zx (rows:List (List Int)) (wd:Nat) (x y:Int):Bool:=decide (0<=x/\x<wd) && decide (0<=y/\y<rows.length)
def zK (rows:List (List Int)) (x y:Int):Int:=(rows.getD y.toNat []).getD x.toNat 0
theorem jN {rows:List (List Int)} {wd:Nat} {x y:Int} (h:zx rows wd x y=true):0<=x/\x<wd/\0<=y/\y<rows.length:=by
 unfold zx at h
 rw [ams] at h
 have h1:=of_decide_eq_true h.1
 have h2:=of_decide_eq_true h.2
 omega
def jq (x y w:Int):PyData:=.tuple [.int x,.int y,.int w]
def px (x:Int) (w:Int):Int:=if w=0 then x+1 else x
def py (y:Int) (w:Int):Int:=if w=0 then y else y+1
def qR (rows:List (List Int)) (wd:Nat) (x y w:Int):Bool:=decide (w=0 \/ w=1) && (zx rows wd x y && zx rows wd (px x w) (py y w))
def yu (rows:List (List Int)) (wd:Nat) (cut x y w:Int):Bool:=qR rows wd x y w && (decide (cut<zK rows x y) != decide (cut<zK rows (px x w) (py y w)))
def abh (rows:List (List Int)) (cut x y w:Int):Str:=if w=0 then (if cut<zK rows x y then "up" else "down") else (if cut<zK rows x y then "right" else "left")
theorem afi (a b:Int):amI (.int a) (.int b)=decide (a=b):=rfl
theorem adl (a b:Bool):amI (.bool a) (.bool b)=(a == b):=rfl
abbrev aeb (K:amk):Sp:=spD K 1 (fun (c:List (List Int)×Nat) xs=>xs=[.dat (tab c.1)]/\Good c.2 c.1) fun c r=>r=.tuple [.int c.2,.int c.1.length]
abbrev ahN (K:amk):Sp:=spD K 3 (fun (c:List (List Int)×Nat×Int×Int) xs=>xs=[.dat (tab c.1),.dat (.int c.2.2.1),.dat (.int c.2.2.2)]/\Good c.2.1 c.1) fun c r=>r=.bool (zx c.1 c.2.1 c.2.2.1 c.2.2.2)
theorem alb (F:Def K mg "has_point" ji pq) (uao:FnIn P w K mg base k "size" pf (aeb K)):FnIn P w K mg base (k+1) "has_point" pq (ahN K):=by
 refine F.ok sc_has_point rfl fun fa cdv A outer s H E hr=>⟨_,(zc (yc (ze uao hr rfl (za (pv 0) zb)) (zR (K:=K) (n:=2) rfl rfl (zl (zg (i:=3) sc_has_point.nd rfl (Or.inl rfl) (Or.inr rfl)) (zl (zg (i:=4) sc_has_point.nd rfl (Or.inl rfl) (Or.inr rfl)) zJ)))) (zk (zr (abw (aai aaZ ajM zd (pv 1) (pv 3)) (adJ (aai aaZ ajM zd (pv 2) (pv 4))))))),?_⟩
 rintro f xs ⟨rows,wd,x,y⟩ hl ⟨rfl,g⟩
 try dsimp only [z9,zh]
 dsimp only at *
 refine zN (zS (zm (rows,wd) ?_))
 walk_at "w"
 rintro _ rfl
 walk_at "w"
 have fin:∀ b:Bool,b=zx rows wd x y->PyData.bool b=PyData.bool (zx rows wd x y):=fun b h=>by rw [h]
 refine jo (fun h1=>?_) fun h1=>?_
 ·have h1':=of_decide_eq_true h1
  walk_at "w"
  refine jo (fun h2=>?_) fun h2=>?_
  ·have h2':=of_decide_eq_true h2
   walk_at "w"
   refine jo (fun h3=>?_) fun h3=>?_
   ·have h3':=of_decide_eq_true h3
    walk_at "w"
    refine fin _ ?_
    unfold zx
    dsimp only at h2' ⊢
    rw [decide_eq_true (p:=(0<=x/\x<(wd:Int))) (by omega),aoU]
    exact decide_eq_decide.mpr (by omega)
   ·have h3':=of_decide_eq_false h3
    refine fin _ ?_
    unfold zx
    rw [decide_eq_false (p:=(0<=y/\y<(rows.length:Int))) (by omega),apQ]
  ·have h2':=of_decide_eq_false h2
   refine fin _ ?_
   unfold zx
   dsimp only at h2'
   rw [decide_eq_false (p:=(0<=x/\x<(wd:Int))) (by omega),aoG]
 ·have h1':=of_decide_eq_false h1
  refine⟨_,rfl,?_⟩
  rw [if_neg amh]
  refine fin _ ?_
  unfold zx
  rw [decide_eq_false (p:=(0<=x/\x<(wd:Int))) (by omega),aoG]
abbrev aca (K:amk):Sp:=spD K 3 (fun (c:List (List Int)×Nat×Int×Int×Int) xs=>xs=[.dat (tab c.1),.dat (.int c.2.2.1),.dat (.tuple [.int c.2.2.2.1,.int c.2.2.2.2])]/\Good c.2.1 c.1/\zx c.1 c.2.1 c.2.2.2.1 c.2.2.2.2=true) fun c r=>r=.bool (decide (c.2.2.1<zK c.1 c.2.2.2.1 c.2.2.2.2))
theorem aaE {rows:List (List Int)} {wd:Nat} {x y:Int} (g:Good wd rows) (h:zx rows wd x y=true):∃ r:List Int,atI (rows.map fun q=>PyData.list (q.map .int)) y=some (.list (r.map .int))/\atI (r.map PyData.int) x=some (.int (zK rows x y)):=by
 obtain⟨x0,x1,y0,y1⟩:=jN h
 have hy:y.toNat<rows.length:=by omega
 have hr:=g.row _ (amE hy)
 have hx:x.toNat<rows[y.toNat].length:=by omega
 refine⟨rows[y.toNat],yP (F:=fun q:List Int=>PyData.list (q.map .int)) (by omega) hy,?_⟩
 rw [yP (j:=x.toNat) (by omega) hx]
 unfold zK
 rw [amj,amj,amf hy,Option.getD_some,amf hx]
 rfl
theorem ajk (F:Def K mg "stands_high" yN pE):FnIn P w K mg base (k+1) "stands_high" pE (aca K):=by
 refine F.ok sc_stands_high rfl fun fa cdv A outer s H E hr=>⟨_,(zc (yc (pv 2) (zR (K:=K) (n:=2) rfl rfl (zl (zg (i:=3) sc_stands_high.nd rfl (Or.inl rfl) (Or.inr rfl)) (zl (zg (i:=4) sc_stands_high.nd rfl (Or.inl rfl) (Or.inr rfl)) zJ)))) (zk (zr (qV agH (zX (zC (K:=K) rfl) (zX (zC (K:=K) rfl) (pv 0) (pv 4) (fun _ _=>rfl)) (pv 3) (fun _ _=>rfl)) (pv 1) (z8 _))))),?_⟩
 rintro f xs ⟨rows,wd,cut,x,y⟩ hl ⟨rfl,g,hi⟩
 try dsimp only [z9,zh]
 dsimp only at *
 obtain⟨r,h1,h2⟩:=aaE g hi
 unfold tab
 walk_at "w"
 refine⟨_,h1,?_⟩
 walk_at "w"
 refine⟨_,h2,?_⟩
 walk_at "w"
 rfl
abbrev ahO (K:amk):Sp:=spD K 1 (fun (c:Int×Int×Int) xs=>xs=[.dat (jq c.1 c.2.1 c.2.2)]) fun c r=>r=.list [.tuple [.int c.1,.int c.2.1],.tuple [.int (px c.1 c.2.2),.int (py c.2.1 c.2.2)]]
theorem alc (F:Def K mg "gate_points" yO ["gate"]):FnIn P w K mg base (k+1) "gate_points" ["gate"] (ahO K):=by
 refine F.ok sc_gate_points rfl fun fa cdv A outer s H E hr=>⟨_,(zc (yc (pv 0) (zR (K:=K) (n:=3) rfl rfl (zl (zg (i:=1) sc_gate_points.nd rfl (Or.inl rfl) (Or.inr rfl)) (zl (zg (i:=2) sc_gate_points.nd rfl (Or.inl rfl) (Or.inr rfl)) (zl (zg (i:=3) sc_gate_points.nd rfl (Or.inl rfl) (Or.inr rfl)) zJ))))) (zc (yy (z3 (vA (K:=K) rfl hr.units) (pv 3) zd (z8 _)) (zk (zr (yz (za (zF (za (pv 1) (za (pv 2) zb))) (za (zF (za (zu zW (pv 1) zd) (za (pv 2) zb))) zb))))) zV) (zk (zr (yz (za (zF (za (pv 1) (za (pv 2) zb))) (za (zF (za (pv 1) (za (zu zW (pv 2) zd) zb))) zb))))))),?_⟩
 rintro f xs ⟨x,y,w⟩ hl rfl
 try dsimp only [z9,zh]
 dsimp only at *
 unfold jq
 walk_at "w"
 rw [if_neg amh,afi]
 refine jo (fun h=>?_) fun h=>?_
 ·have h':=of_decide_eq_true h
  walk_at "w"
  unfold px py
  rw [if_pos h',if_pos h']
 ·have h':=of_decide_eq_false h
  walk_at "w"
  unfold px py
  rw [if_neg h',if_neg h']
abbrev ahP (K:amk):Sp:=spD K 2 (fun (c:List (List Int)×Nat×Int×Int×Int) xs=>xs=[.dat (tab c.1),.dat (jq c.2.2.1 c.2.2.2.1 c.2.2.2.2)]/\Good c.2.1 c.1) fun c r=>r=.bool (qR c.1 c.2.1 c.2.2.1 c.2.2.2.1 c.2.2.2.2)
theorem ajl (F:Def K mg "has_gate" jJ pG) (uai:mg "all"=none) (uav:FnIn P w K mg base k "has_point" pq (ahN K)) (uaz:FnIn P w K mg base k "gate_points" ["gate"] (ahO K)):FnIn P w K mg base (k+1) "has_gate" pG (ahP K):=by
 refine F.ok adf rfl fun fa cdv A outer s H E hr=>⟨_,(zc (yy (z3 (afX (K:=K) rfl) (zX (qr (K:=K) rfl) (pv 1) zd (fun _ _=>rfl)) (zF (za zd (za zd zb))) rfl) (zk (zr aad)) zV) (zk (zr (zw (aa8 (K:=K) rfl rfl) rfl uai apK (za (zZ (N:=["x","y","rows"]) (own:=2) (fr:=[0]) ⟨rfl,by decide +kernel,of_decide_eq_true (by kernel_rfl),of_decide_eq_true (by kernel_rfl),of_decide_eq_true (by kernel_rfl),rfl⟩ rfl (zT (K:=K) rfl (ze uaz hr rfl (za (pv 1) zb))) (fun _ _ _ _=>(zR (K:=K) (n:=2) rfl rfl (zl (zg (i:=0) (show (["x","y","rows"]:List Str).Nodup by decide +kernel) rfl (Or.inl rfl) (Or.inr rfl)) (zl (zg (i:=1) (show (["x","y","rows"]:List Str).Nodup by decide +kernel) rfl (Or.inl rfl) (Or.inr rfl)) zJ)))) (fun _ _ _ _=>zP) (fun _ _ _ _=>(ze uav hr rfl (za (pv 2) (za (pv 0) (za (pv 1) zb))))) rfl rfl (fun _=>rfl)) zb))))),?_⟩
 rintro f xs ⟨rows,wd,x,y,w⟩ hl ⟨rfl,g⟩
 try dsimp only [z9,zh]
 dsimp only at *
 refine zN (aao (yC (ahb ?_)))
 unfold jq
 walk_at "w"
 refine⟨[0,1],rfl,_,rfl,?_⟩
 have hc:(([0,1]:List Int).contains w)=decide (w=0 \/ w=1):=by
  rw [aod]
  simp
 rw [hc]
 by_cases h:w=0 \/ w=1
 ·rw [decide_eq_true h,am5,if_neg amh]
  refine jY (yx (ajT (PEdO.ped (jS (A:=fun p:Int×Int=>PyData.tuple [.int p.1,.int p.2]) (B:=fun p:Int×Int=>PyData.bool (zx rows wd p.1 p.2)) [(x,y),(px x w,py y w)] (yE (zm (x,y,w) ?_))))))
  walk_at "w"
  rintro _ rfl
  refine⟨_,rfl,rfl,show 2<=1000 by decide,?_,?_⟩
  ·rintro D p ρ' es hp ho hes
   obtain⟨u,v,rfl⟩:=ho.two
   refine yW rfl (zv (zj (zv (zj (yh (yJ ?_))))))
   rw [if_pos rfl]
   refine yi hes (zm (rows,wd,p.1,p.2) ?_)
   walk_at "w"
   rintro _ rfl
   exact⟨.mk2,rfl⟩
  ·refine⟨[zx rows wd x y,zx rows wd (px x w) (py y w)],rfl,?_⟩
   show PyData.bool _=PyData.bool _
   unfold qR
   rw [decide_eq_true h,aoU]
   show PyData.bool (zx rows wd x y && (zx rows wd (px x w) (py y w) && true))=_
   rw [Bool.and_true]
 ·rw [decide_eq_false h,ape,if_pos rfl]
  walk_at "w"
  unfold qR
  rw [decide_eq_false h]
  rfl
abbrev acb (K:amk):Sp:=spD K 3 (fun (c:List (List Int)×Nat×Int×Int×Int×Int) xs=>xs=[.dat (tab c.1),.dat (.int c.2.2.1),.dat (jq c.2.2.2.1 c.2.2.2.2.1 c.2.2.2.2.2)]/\Good c.2.1 c.1) fun c r=>r=.bool (yu c.1 c.2.1 c.2.2.1 c.2.2.2.1 c.2.2.2.2.1 c.2.2.2.2.2)
theorem ahQ {rows:List (List Int)} {wd:Nat} {x y w:Int} (h:qR rows wd x y w=true):zx rows wd x y=true/\zx rows wd (px x w) (py y w)=true:=by
 unfold qR at h
 rw [ams,ams] at h
 exact h.2
theorem ajm (F:Def K mg "is_open" qt ph) (ua4:FnIn P w K mg base k "has_gate" pG (ahP K)) (uaz:FnIn P w K mg base k "gate_points" ["gate"] (ahO K)) (uaj:FnIn P w K mg base k "stands_high" pE (aca K)):FnIn P w K mg base (k+1) "is_open" ph (acb K):=by
 refine F.ok sc_is_open rfl fun fa cdv A outer s H E hr=>⟨_,(zc (yy (abv (yD (K:=K) rfl (ze ua4 hr rfl (za (pv 0) (za (pv 2) zb))) (fun _=>rfl))) (zk (zr aad)) zV) (zc (yc (ze uaz hr rfl (za (pv 2) zb)) (aeO (K:=K) (n:=2) rfl rfl (zl (zg (i:=3) sc_is_open.nd rfl (Or.inl rfl) (Or.inr rfl)) (zl (zg (i:=4) sc_is_open.nd rfl (Or.inl rfl) (Or.inr rfl)) zJ)))) (zk (zr (qV (vB (K:=K) rfl hr.units) (ze uaj hr rfl (za (pv 0) (za (pv 1) (za (pv 3) zb)))) (ze uaj hr rfl (za (pv 0) (za (pv 1) (za (pv 4) zb)))) (z8 _)))))),?_⟩
 rintro f xs ⟨rows,wd,cut,x,y,w⟩ hl ⟨rfl,g⟩
 try dsimp only [z9,zh]
 dsimp only at *
 refine zN (aao (aeJ (qE (zm (rows,wd,x,y,w) ?_))))
 walk_at "w"
 rintro _ rfl
 refine⟨_,rfl,?_⟩
 dsimp only
 cases h:qR rows wd x y w with
 | false =>
  rw [ape,if_pos rfl]
  walk_at "w"
  unfold yu
  rw [h]
  rfl
 | true =>
  rw [am5,if_neg amh]
  obtain⟨i1,i2⟩:=ahQ h
  refine jY (zN (zS (zm (x,y,w) ?_)))
  walk_at "w"
  rintro _ rfl
  dsimp only
  refine ajU rfl (zv (zj (zv (zj (yh ?_)))))
  refine yx (jW (zm (rows,wd,cut,x,y) ?_))
  walk_at "w"
  rintro _ rfl
  refine zm (rows,wd,cut,px x w,py y w) ?_
  walk_at "w"
  rintro _ rfl
  dsimp only
  walk_at "w"
  show PyData.bool _=PyData.bool _
  unfold yu
  rw [h,aoU,if_pos rfl,adl]
  rfl
theorem ald (F:Def K mg "_law_cut" qv pN) (uaa:mg "len"=none) (uad:FnIn P w K mg base k "_law_draw" pB (ab9 K)):FnIn P w K mg base (k+1) "_law_cut" pN (aj4 K):=by
 refine F.ok sc_law_cut rfl fun fa cdv A outer s H E hr=>⟨_,(zc (zM (i:=2) sc_law_cut.nd rfl (Or.inl rfl) (zX (zC (K:=K) rfl) (pv 1) (ze uad hr rfl (za (pv 0) (za (zw (zQ (K:=K) rfl) rfl uaa am1 (za (pv 1) zb)) zb))) (fun _ _=>rfl))) (zk (zr (zu yd (zX (zC (K:=K) rfl) (pv 2) (ze uad hr rfl (za (pv 0) (za (zw (zQ (K:=K) rfl) rfl uaa am1 (za (pv 2) zb)) zb))) (fun _ _=>rfl)) (ze uad hr rfl (za (pv 0) (za zd zb))))))),?_⟩
 rintro f xs ⟨rows,wd⟩ hl ⟨rfl,g⟩
 try dsimp only [z9,zh]
 dsimp only at *
 have g1:=g.h1
 have g2:=g.h2
 have w1:=g.w1
 have w2:=g.w2
 have ml:(rows.map fun r=>PyData.list (r.map .int)).length=rows.length:=amg _
 have ml1:2<=(rows.map fun r=>PyData.list (r.map .int)).length:=by omega
 have ml2:(rows.map fun r=>PyData.list (r.map .int)).length<=7:=by omega
 refine zN (zS (vQ ?_))
 unfold tab
 walk_at "w"
 refine zm (((rows.map fun r=>PyData.list (r.map .int)).length:Nat):Int) ?_
 walk_at "w"
 rintro _ ⟨i,rfl,i0,i1⟩
 have hi:i.toNat<rows.length:=by omega
 have hr:=g.row _ (amE hi)
 have hh:=g.hgt _ (amE hi)
 refine⟨_,rfl,_,yP (F:=fun q:List Int=>PyData.list (q.map .int)) (j:=i.toNat) (by omega) hi,?_⟩
 generalize rows[i.toNat]=row at hr hh
 have rl:(row.map PyData.int).length=row.length:=amg _
 have rl1:2<=(row.map PyData.int).length:=by omega
 have rl2:(row.map PyData.int).length<=7:=by omega
 walk_at "w"
 refine zm (((row.map PyData.int).length:Nat):Int) ?_
 walk_at "w"
 rintro _ ⟨q,rfl,q0,q1⟩
 have hq:q.toNat<row.length:=by omega
 refine⟨_,rfl,_,yP (F:=PyData.int) (j:=q.toNat) (by omega) hq,?_⟩
 have hb:=hh _ (amE hq)
 generalize row[q.toNat]=v at hb
 walk_at "w"
 refine zm 2 ?_
 walk_at "w"
 rintro _ ⟨u,rfl,u0,u1⟩
 walk_at "w"
 omega
theorem aaF {n i:Nat} {d:PyData} (h:(jt n)[i]?=some d):i<n/\d=.int (i:Int):=by
 unfold jt at h
 rw [aml] at h
 by_cases hi:i<n
 ·rw [ani hi] at h
  cases h
  exact⟨hi,rfl⟩
 ·rw [amL (by rw [amX];omega)] at h
  cases h
theorem abi (n:Nat):(jt n).length=n:=by unfold jt;simp
def ajn (x y:Nat):PyData:=.tuple [.int x,.int y]
def qc (t n:Nat):List PyData:=(amC n).flatMap fun x=>(amC t).map (ajn x)
theorem adm (t n:Nat):qc t (n+1)=qc t n++(amC t).map (ajn n):=by
 unfold qc
 rw [ao4,anv]
 simp
theorem afj (t:Nat):∀ n,(qc t n).length=t * n
 | 0=>rfl
 | n+1=>by rw [adm,amD,afj t n,amg,amX,Nat.mul_succ]
abbrev adn (K:amk):Sp:=spD K 1 (fun (c:List (List Int)×Nat) xs=>xs=[.dat (tab c.1)]/\Good c.2 c.1) fun c r=>r=.list (qc c.1.length c.2)
theorem ago (F:Def K mg "points" vh pf) (uac:mg "range"=none) (uao:FnIn P w K mg base k "size" pf (aeb K)):FnIn P w K mg base (k+1) "points" pf (adn K):=by
 refine F.ok sc_points rfl fun fa cdv A outer s H E hr=>⟨_,(zc (yc (ze uao hr rfl (za (pv 0) zb)) (zR (K:=K) (n:=2) rfl rfl (zl (zg (i:=1) sc_points.nd rfl (Or.inl rfl) (Or.inr rfl)) (zl (zg (i:=2) sc_points.nd rfl (Or.inr rfl) (Or.inl rfl)) zJ)))) (zk (zr (agQ (N:=["x","y","tall"]) (own:=2) (fr:=[2]) ⟨rfl,by decide +kernel,of_decide_eq_true (by kernel_rfl),of_decide_eq_true (by kernel_rfl),of_decide_eq_true (by kernel_rfl),rfl⟩ rfl (yK rfl uac (za (pv 1) zb)) (fun _ _ _ _=>(zg (i:=0) (show (["x","y","tall"]:List Str).Nodup by decide +kernel) rfl (Or.inl rfl) (Or.inr rfl))) (fun _ _ _ _=>zP) (fun _ _ _ _=>(yK rfl uac (za (pv 2) zb))) (fun _ _ _ _=>(zg (i:=1) (show (["x","y","tall"]:List Str).Nodup by decide +kernel) rfl (Or.inl rfl) (Or.inr rfl))) (fun _ _ _ _=>zP) (fun _ _ _ _=>(zF (za (pv 0) (za (pv 1) zb)))) rfl rfl (fun _=>rfl) (fun _ _ _ _ _=>rfl))))),?_⟩
 rintro f xs ⟨rows,wd⟩ hl ⟨rfl,g⟩
 try dsimp only [z9,zh]
 dsimp only at *
 have g2:=g.h2
 have w2:=g.w2
 refine zN (zS (zm (rows,wd) ?_))
 walk_at "w"
 rintro _ rfl
 refine yW rfl (zv (zj (zv (zj (yh ?_)))))
 refine yx (PEdO.ped (vC (qY (zE (zt rfl (yw ⟨_,rfl,by dsimp only;omega,by dsimp only;omega,fun n ρ es=>(∃ u v,ρ=[u,v,some (.dat (.int rows.length))])/\es=qc rows.length n,⟨⟨_,_,rfl⟩,rfl⟩,?_,?_⟩))))))
 ·rintro D n d ρ' es hd ⟨⟨u,v,rfl⟩,rfl⟩
  obtain⟨hn,rfl⟩:=aaF hd
  have hn':n<wd:=by have:n<((wd:Int)).toNat:=hn;omega
  have l1:rows.length * n<=7 * 7:=Nat.mul_le_mul g2 (by omega)
  refine zj (yJ ?_)
  rw [if_pos rfl]
  refine alH (qY (zE (zt rfl (yw ⟨_,rfl,by omega,by omega,fun m ρ es=>(∃ v,ρ=[some (.dat (.int n)),v,some (.dat (.int rows.length))])/\es=qc rows.length n++(amC m).map (ajn n),⟨⟨_,rfl⟩,by simp⟩,?_,?_⟩))))
  ·rintro m d ρ2 es2 hd2 ⟨⟨v,rfl⟩,rfl⟩
   obtain⟨hm,rfl⟩:=aaF hd2
   have hm':m<rows.length:=by have:m<((rows.length:Int)).toNat:=hm;omega
   refine zj (yJ ?_)
   rw [if_pos rfl]
   refine yi (by rw [amD,afj,amg,amX];omega) ?_
   walk_at "w"
   rw [ao4,amS,aoi]
   rfl
  ·rintro ρ2 es2 ⟨⟨v,rfl⟩,rfl⟩
   rw [abi,anr]
   exact⟨⟨_,_,rfl⟩,by rw [adm]⟩
 ·rintro ρ' es ⟨_,rfl⟩
  rw [abi,anr]
def F2:PyData->List PyData
 | .tuple [.int x,.int y]=>[jq x y 0,jq x y 1]
 | _=>[]
def gD3 (g:Int×Int×Int):PyData:=jq g.1 g.2.1 g.2.2
def opG (rows:List (List Int)) (wd:Nat) (cut:Int) (g:Int×Int×Int):Bool:=yu rows wd cut g.1 g.2.1 g.2.2
def yq (t n:Nat):List (Int×Int×Int):=(amC n).flatMap fun (x:Nat)=>(amC t).flatMap fun (y:Nat)=>[((x:Int),(y:Int),(0:Int)),((x:Int),(y:Int),(1:Int))]
theorem ado (t n:Nat):(qc t n).flatMap F2=(yq t n).map gD3:=by
 unfold qc yq
 rw [List.flatMap_assoc,List.map_flatMap]
 congr 1
 funext x
 rw [List.flatMap_map,List.map_flatMap]
 rfl
theorem ajo {t n:Nat} {d:PyData} (h:d∈qc t n):∃ x y:Nat,d=ajn x y:=by
 obtain⟨x,_,h⟩:=am2.mp h
 obtain⟨y,_,rfl⟩:=amz.mp h
 exact⟨x,y,rfl⟩
theorem aaG {α:Type} {F:Nat->List α} {b:Nat} (h:∀ n,(F n).length<=b):∀ n,((amC n).flatMap F).length<=b * n
 | 0=>by simp
 | n+1=>by
  rw [ao4,anv,amD]
  have:=aaG h n
  have:=h n
  simp only [List.flatMap_cons,List.flatMap_nil,anj]
  rw [Nat.mul_succ]
  omega
theorem abj {t n:Nat} (ht:t<=7) (hn:n<=7):(yq t n).length<=98:=by
 have h:=aaG (F:=fun (x:Nat)=>(amC t).flatMap fun (y:Nat)=>[((x:Int),(y:Int),(0:Int)),((x:Int),(y:Int),(1:Int))]) (b:=2 * t) (fun x=>aaG (F:=fun (y:Nat)=>[((x:Int),(y:Int),(0:Int)),((x:Int),(y:Int),(1:Int))]) (b:=2) (fun y=>amn 2) t) n
 exact amO h (Nat.mul_le_mul (show 2 * t<=14 by omega) hn)
def ale (rows:List (List Int)) (wd:Nat) (cut:Int) (x y:Nat):List (Int×Int×Int):=(if yu rows wd cut x y 0=true then [((x:Int),(y:Int),(0:Int))] else [])++if yu rows wd cut x y 1=true then [((x:Int),(y:Int),(1:Int))] else []
def z4 (rows:List (List Int)) (wd:Nat) (cut:Int):List (Int×Int×Int):=(amC wd).flatMap fun x=>(amC rows.length).flatMap fun y=>ale rows wd cut x y
theorem agp {α:Type} {F:Nat->List α} (n:Nat):(amC (n+1)).flatMap F=(amC n).flatMap F++F n:=by
 rw [ao4,anv]
 simp
theorem ajp (rows:List (List Int)) (wd:Nat) (cut:Int) (x y:Nat):ale rows wd cut x y=[((x:Int),(y:Int),(0:Int)),((x:Int),(y:Int),(1:Int))].filter (opG rows wd cut):=by
 unfold ale opG
 simp only [ang,apG]
 cases yu rows wd cut x y 0 <;> cases yu rows wd cut x y 1 <;> rfl
theorem qd (rows:List (List Int)) (wd:Nat) (cut:Int):z4 rows wd cut=(yq rows.length wd).filter (opG rows wd cut):=by
 unfold z4 yq
 rw [apW]
 congr 1
 funext x
 rw [apW]
 congr 1
 funext y
 exact ajp rows wd cut x y
def gLt (a b:Int×Int×Int):Prop:=a.1<b.1 \/ (a.1=b.1/\(a.2.1<b.2.1 \/ (a.2.1=b.2.1/\a.2.2<b.2.2)))
theorem ahR {a b:Int×Int×Int} (h:gLt a b):ltD (gD3 a) (gD3 b)=true:=by
 obtain⟨x,y,w⟩:=a
 obtain⟨x',y',w'⟩:=b
 unfold gLt at h
 dsimp only at h
 show ltD (.tuple [.int x,.int y,.int w]) (.tuple [.int x',.int y',.int w'])=true
 have e:∀ i j:Int,amI (.int i) (.int j)=(i == j):=fun i j=>rfl
 simp only [ltD,ltL,e,beq_iff_eq]
 by_cases h1:x=x'
 ·rw [if_pos h1]
  by_cases h2:y=y'
  ·rw [if_pos h2]
   rw [if_neg (by omega)]
   exact decide_eq_true (by omega)
  ·rw [if_neg h2]
   exact decide_eq_true (by omega)
 ·rw [if_neg h1]
  exact decide_eq_true (by omega)
theorem afk {α:Type} {R:α->α->Prop} {F:Nat->List α} (n:Nat) (h1:∀ i,i<n->(F i).Pairwise R) (h2:∀ i j,i<j->j<n->∀ a∈F i,∀ b∈F j,R a b):((amC n).flatMap F).Pairwise R:=by
 induction n with
 | zero=>simp
 | succ n ih =>
  rw [agp,List.pairwise_append]
  refine⟨ih (fun i hi=>h1 i (by omega)) (fun i j hij hj=>h2 i j hij (by omega)),h1 n (by omega),fun a ha b hb=>?_⟩
  obtain⟨i,hi,ha⟩:=am2.mp ha
  exact h2 i n (amN.mp hi) (by omega) a ha b hb
theorem adp (t n:Nat):(yq t n).Pairwise gLt:=by
 unfold yq
 refine afk n (fun x _=>afk t (fun y _=>?_) fun y y' hy _ a ha b hb=>?_) fun x x' hx _ a ha b hb=>?_
 ·simp [gLt]
 ·simp only [amu,anG,or_false] at ha hb
  rcases ha with rfl | rfl <;> rcases hb with rfl | rfl <;> (unfold gLt;dsimp only;omega)
 ·obtain⟨y,_,ha⟩:=am2.mp ha
  obtain⟨y',_,hb⟩:=am2.mp hb
  simp only [amu,anG,or_false] at ha hb
  rcases ha with rfl | rfl <;> rcases hb with rfl | rfl <;> (unfold gLt;dsimp only;omega)
theorem abk {rows:List (List Int)} {wd:Nat} {cut:Int} (g:Good wd rows):(z4 rows wd cut).length<=98:=by
 rw [qd]
 exact amO (anK _ _) (abj g.h2 g.w2)
abbrev afl (K:amk):Sp:=spN K 2 (fun (c:List (List Int)×Nat×Int) xs=>xs=[.dat (tab c.1),.dat (.int c.2.2)]/\Good c.2.1 c.1) fun c es=>es=((yq c.1.length c.2.1).filter (opG c.1 c.2.1 c.2.2)).map gD3
theorem ahS (F:Def K mg "gates" v8 pz) (uae:FnIn P w K mg base k "ask_table" pf (abg K)) (ua5:FnIn P w K mg base k "points" pf (adn K)) (uap:FnIn P w K mg base k "is_open" ph (acb K)):FnIn P w K mg base (k+1) "gates" pz (afl K):=by
 refine F.okN sc_gates rfl fun fa cdv A outer s H E hr=>⟨_,(zc (yX (ze uae hr rfl (za (pv 0) zb))) (zc (acD (i:=2) (N:=pQ) (own:=3) (fr:=[]) ⟨rfl,by decide +kernel,of_decide_eq_true (by kernel_rfl),of_decide_eq_true (by kernel_rfl),of_decide_eq_true (by kernel_rfl),rfl⟩ rfl sc_gates.nd rfl (Or.inl rfl) (zT (K:=K) rfl (ze ua5 hr rfl (za (pv 0) zb))) (fun _ _ _ _=>(zR (K:=K) (n:=2) rfl rfl (zl (zg (i:=0) (show (pQ:List Str).Nodup by decide +kernel) rfl (Or.inl rfl) (Or.inr rfl)) (zl (zg (i:=1) (show (pQ:List Str).Nodup by decide +kernel) rfl (Or.inl rfl) (Or.inr rfl)) zJ)))) (fun _ _ _ _=>zP) (fun _ _ _ _=>(abG (K:=K) rfl (zF (za zd (za zd zb))))) (fun _ _ _ _=>(zg (i:=2) (show (pQ:List Str).Nodup by decide +kernel) rfl (Or.inl rfl) (Or.inr rfl))) (fun _ _ _ _=>zP) (fun _ _ _ _=>(zF (za (pv 0) (za (pv 1) (za (pv 2) zb))))) rfl rfl (fun _=>rfl) (fun _ _ _ _ _=>rfl) (Or.inl rfl) rfl) (zk (zr (zZ (N:=pC) (own:=1) (fr:=[0,1]) ⟨rfl,by decide +kernel,of_decide_eq_true (by kernel_rfl),of_decide_eq_true (by kernel_rfl),of_decide_eq_true (by kernel_rfl),rfl⟩ rfl (zT (K:=K) rfl (pv 2)) (fun _ _ _ _=>(zg (i:=0) (show (pC:List Str).Nodup by decide +kernel) rfl (Or.inl rfl) (Or.inr rfl))) (fun _ _ _ _=>(abC (yD (K:=K) rfl (ze uap hr rfl (za (pv 1) (za (pv 2) (za (pv 0) zb)))) (fun _=>rfl)))) (fun _ _ _ _=>(pv 0)) rfl rfl (fun _=>rfl)))))),?_⟩
 rintro f xs ⟨rows,wd,cut⟩ hl ⟨rfl,g⟩
 try dsimp only [z9,zh]
 dsimp only at *
 have sl:=abj g.h2 g.w2
 refine aas (jZ (zm (rows,wd) ?_))
 walk_at "w"
 rintro _ rfl
 refine aas (zS (PEdO.ped (akM (yE (zm (rows,wd) ?_)))))
 walk_at "w"
 rintro _ rfl
 refine⟨_,rfl,F2,by rw [ado,amg];exact amO sl (by decide),?_,?_⟩
 ·rintro D d ρ' es hd ho hes
  obtain⟨x,y,rfl⟩:=ajo hd
  obtain⟨us,hus,rfl⟩:=ho
  match us,hus with
  | [u1,u2,u3],_ =>
   refine yW rfl (zv (zj (zv (zj (yh (yJ ?_))))))
   rw [if_pos rfl]
   have hes':es.length+2<=1000:=hes
   refine alH (ag5 (jX (zE (qW (zE (qW (yw ⟨_,rfl,by simp,_,rfl,fun m ρ es2=>(∃ v,ρ=[some (.dat (.int x)),some (.dat (.int y)),v])/\es2=es++[jq x y 0,jq x y 1].take m,⟨⟨_,rfl⟩,by simp⟩,?_,?_⟩)))))))
   ·rintro m d ρ2 es2 hd2 ⟨⟨v,rfl⟩,rfl⟩
    have hm:(m=0/\d=.int 0) \/ (m=1/\d=.int 1):=by
     match m,hd2 with
     | 0,h=>cases h;exact .inl ⟨rfl,rfl⟩
     | 1,h=>cases h;exact .inr ⟨rfl,rfl⟩
     | (q+2),h=>cases h
    rcases hm with⟨rfl,rfl⟩ | ⟨rfl,rfl⟩
    ·refine zj (yJ ?_)
     rw [if_pos rfl]
     refine yi (by simp;omega) ?_
     walk_at "w"
     simp
     rfl
    ·refine zj (yJ ?_)
     rw [if_pos rfl]
     refine yi (by simp;omega) ?_
     walk_at "w"
     simp
     rfl
   ·rintro ρ2 es2 ⟨⟨v,rfl⟩,rfl⟩
    exact⟨⟨[_,_,_],rfl,rfl⟩,rfl⟩
 ·rw [show List.flatMap F2 (qc (rows,wd).1.length (rows,wd).2)=(yq rows.length wd).map gD3 from ado _ _]
  refine zj (acO (vC (yE (zt rfl ⟨_,rfl,fun n ρ es=>(∃ u,ρ=[u,some (.dat (tab rows)),some (.dat (.int cut))])/\es=(((yq rows.length wd).take n).filter (opG rows wd cut)).map gD3,⟨⟨_,rfl⟩,rfl⟩,?_,?_⟩))))
  ·rintro D n d ρ' es hd ⟨⟨u,rfl⟩,rfl⟩
   rw [aml] at hd
   cases hq:(yq rows.length wd)[n]? with
   | none=>rw [hq] at hd;cases hd
   | some q =>
    rw [hq] at hd
    cases hd
    have tk:(yq rows.length wd).take (n+1)=(yq rows.length wd).take n++[q]:=by
     rw [aoP,hq]
     rfl
    have len:((((yq rows.length wd).take n).filter (opG rows wd cut)).map gD3).length<1000:=by
     rw [amg]
     have a1:=anK (opG rows wd cut) ((yq rows.length wd).take n)
     rw [amW] at a1
     omega
    refine zj (qE (zm (rows,wd,cut,q.1,q.2.1,q.2.2) ?_))
    unfold gD3 at *
    walk_at "w"
    rintro _ rfl
    dsimp only
    refine⟨_,rfl,?_⟩
    refine jo (fun h=>?_) fun h=>?_
    ·refine yi len ?_
     walk_at "w"
     rw [tk,anI,amS,ang,show opG rows wd cut q=true from h,if_pos rfl]
     rfl
    ·refine⟨⟨_,rfl⟩,?_⟩
     rw [tk,anI,amS,ang,show opG rows wd cut q=false from h,if_neg amh]
     simp
  ·rintro ρ' es ⟨_,rfl⟩
   rw [amg,anp]
abbrev CC:=List (List Int)×Nat×Int×Int×Int
def zz (rows:List (List Int)) (wd:Nat) (x y:Int):Bool:=zx rows wd x y && zx rows wd (x+1) (y+1)
def hiB (rows:List (List Int)) (cut x y:Int):Bool:=decide (cut<zK rows x y)
theorem cell_in {rows:List (List Int)} {wd:Nat} {x y:Int} (h:zz rows wd x y=true):zx rows wd x y=true/\zx rows wd (x+1) y=true/\zx rows wd (x+1) (y+1)=true/\zx rows wd x (y+1)=true:=by
 unfold zz at h
 rw [ams] at h
 obtain⟨a0,a1,a2,a3⟩:=jN h.1
 obtain⟨b0,b1,b2,b3⟩:=jN h.2
 refine⟨h.1,?_,h.2,?_⟩ <;> unfold zx <;> rw [decide_eq_true (by omega),decide_eq_true (by omega)] <;> rfl
section
variable {rows:List (List Int)} {wd:Nat} {cut x y:Int}
theorem afm (h:zz rows wd x y=true):yu rows wd cut x y 0=(hiB rows cut x y != hiB rows cut (x+1) y):=by
 obtain⟨a,b,c,d⟩:=cell_in h
 unfold yu qR
 show (decide ((0:Int)=0 \/ (0:Int)=1) && (zx rows wd x y && zx rows wd (x+1) y) && _)=_
 rw [a,b]
 rfl
theorem ahT (h:zz rows wd x y=true):yu rows wd cut x y 1=(hiB rows cut x y != hiB rows cut x (y+1)):=by
 obtain⟨a,b,c,d⟩:=cell_in h
 unfold yu qR
 show (decide ((1:Int)=0 \/ (1:Int)=1) && (zx rows wd x y && zx rows wd x (y+1)) && _)=_
 rw [a,d]
 rfl
theorem afn (h:zz rows wd x y=true):yu rows wd cut x (y+1) 0=(hiB rows cut x (y+1) != hiB rows cut (x+1) (y+1)):=by
 obtain⟨a,b,c,d⟩:=cell_in h
 unfold yu qR
 show (decide ((0:Int)=0 \/ (0:Int)=1) && (zx rows wd x (y+1) && zx rows wd (x+1) (y+1)) && _)=_
 rw [c,d]
 rfl
theorem afo (h:zz rows wd x y=true):yu rows wd cut (x+1) y 1=(hiB rows cut (x+1) y != hiB rows cut (x+1) (y+1)):=by
 obtain⟨a,b,c,d⟩:=cell_in h
 unfold yu qR
 show (decide ((1:Int)=0 \/ (1:Int)=1) && (zx rows wd (x+1) y && zx rows wd (x+1) (y+1)) && _)=_
 rw [b,c]
 rfl
end
def cg (x y:Int):List (Int×Int×Int):=[(x,y,0),(x,y,1),(x,y+1,0),(x+1,y,1)]
def acd (rows:List (List Int)) (wd:Nat) (cut x y:Int):Bool:=(cg x y).all (opG rows wd cut)
def afp (rows:List (List Int)) (x y:Int):Int:=zK rows x y+(zK rows (x+1) y+(zK rows (x+1) (y+1)+(zK rows x (y+1)+0)))
def jO (rows:List (List Int)) (cut x y:Int):Bool:=decide (4 * cut+2<=afp rows x y)
def pairD (g h:Int×Int×Int):PyData:=.tuple [gD3 g,gD3 h]
abbrev aec (K:amk):Sp:=spD K 3 (fun (c:List (List Int)×Nat×Int×Int) xs=>xs=[.dat (tab c.1),.dat (.int c.2.2.1),.dat (.int c.2.2.2)]/\Good c.2.1 c.1) fun c r=>r=.bool (zz c.1 c.2.1 c.2.2.1 c.2.2.2)
theorem ajq (F:Def K mg "has_cell" jH pq) (uav:FnIn P w K mg base k "has_point" pq (ahN K)):FnIn P w K mg base (k+1) "has_cell" pq (aec K):=by
 refine F.ok ada rfl fun fa cdv A outer s H E hr=>⟨_,(zk (zr (abw (ze uav hr rfl (za (pv 0) (za (pv 1) (za (pv 2) zb)))) (adJ (ze uav hr rfl (za (pv 0) (za (zu zW (pv 1) zd) (za (zu zW (pv 2) zd) zb)))))))),?_⟩
 rintro f xs ⟨rows,wd,x,y⟩ hl ⟨rfl,g⟩
 try dsimp only [z9,zh]
 dsimp only at *
 refine yx (adS (zm (rows,wd,x,y) ?_))
 walk_at "w"
 rintro _ rfl
 dsimp only
 refine⟨_,rfl,?_⟩
 refine jo (fun h=>?_) fun h=>?_
 ·refine zm (rows,wd,x+1,y+1) ?_
  walk_at "w"
  rintro _ rfl
  dsimp only
  unfold zz
  rw [h,aoU]
 ·unfold zz
  rw [h,aoG]
abbrev abl (K:amk):Sp:=spD K 2 (fun (c:Int×Int) xs=>xs=[.dat (.int c.1),.dat (.int c.2)]) fun c r=>r=.list [.tuple [.int c.1,.int c.2],.tuple [.int (c.1+1),.int c.2],.tuple [.int (c.1+1),.int (c.2+1)],.tuple [.int c.1,.int (c.2+1)]]
theorem aed (F:Def K mg "corners" qs pF):FnIn P w K mg base (k+1) "corners" pF (abl K):=by
 refine F.ok ad6 rfl fun fa cdv A outer s H E hr=>⟨_,(zk (zr (yz (za (zF (za (pv 0) (za (pv 1) zb))) (za (zF (za (zu zW (pv 0) zd) (za (pv 1) zb))) (za (zF (za (zu zW (pv 0) zd) (za (zu zW (pv 1) zd) zb))) (za (zF (za (pv 0) (za (zu zW (pv 1) zd) zb))) zb))))))),?_⟩
 rintro f xs ⟨x,y⟩ hl rfl
 try dsimp only [z9,zh]
 dsimp only at *
 walk_at "w"
 rfl
abbrev vn (K:amk):Sp:=spD K 1 (fun (c:Int×Int) xs=>xs=[.dat (.tuple [.int c.1,.int c.2])]) fun c r=>r=.list ((cg c.1 c.2).map gD3)
theorem agq (F:Def K mg "cell_gates" yY ["cell"]):FnIn P w K mg base (k+1) "cell_gates" ["cell"] (vn K):=by
 refine F.ok sc_cell_gates rfl fun fa cdv A outer s H E hr=>⟨_,(zc (yc (pv 0) (zR (K:=K) (n:=2) rfl rfl (zl (zg (i:=1) sc_cell_gates.nd rfl (Or.inl rfl) (Or.inr rfl)) (zl (zg (i:=2) sc_cell_gates.nd rfl (Or.inl rfl) (Or.inr rfl)) zJ)))) (zk (zr (yz (za (zF (za (pv 1) (za (pv 2) (za zd zb)))) (za (zF (za (pv 1) (za (pv 2) (za zd zb)))) (za (zF (za (pv 1) (za (zu zW (pv 2) zd) (za zd zb)))) (za (zF (za (zu zW (pv 1) zd) (za (pv 2) (za zd zb)))) zb)))))))),?_⟩
 rintro f xs ⟨x,y⟩ hl rfl
 try dsimp only [z9,zh]
 dsimp only at *
 walk_at "w"
 rfl
abbrev ajr (c:CC) (xs:List DV):Prop:=xs=[.dat (tab c.1),.dat (.int c.2.2.1),.dat (.tuple [.int c.2.2.2.1,.int c.2.2.2.2])]/\Good c.2.1 c.1/\zz c.1 c.2.1 c.2.2.2.1 c.2.2.2.2=true
abbrev abm (K:amk):Sp:=spD K 3 ajr fun c r=>r=.bool (acd c.1 c.2.1 c.2.2.1 c.2.2.2.1 c.2.2.2.2)
theorem aee (F:Def K mg "is_crossed" yZ pj) (uai:mg "all"=none) (uap:FnIn P w K mg base k "is_open" ph (acb K)) (uaq:FnIn P w K mg base k "cell_gates" ["cell"] (vn K)):FnIn P w K mg base (k+1) "is_crossed" pj (abm K):=by
 refine F.ok aaW rfl fun fa cdv A outer s H E hr=>⟨_,(zk (zr (zw (aa8 (K:=K) rfl rfl) rfl uai apK (za (zZ (N:=pC) (own:=1) (fr:=[0,1]) ⟨rfl,by decide +kernel,of_decide_eq_true (by kernel_rfl),of_decide_eq_true (by kernel_rfl),of_decide_eq_true (by kernel_rfl),rfl⟩ rfl (zT (K:=K) rfl (ze uaq hr rfl (za (pv 2) zb))) (fun _ _ _ _=>(zg (i:=0) (show (pC:List Str).Nodup by decide +kernel) rfl (Or.inl rfl) (Or.inr rfl))) (fun _ _ _ _=>zP) (fun _ _ _ _=>(ze uap hr rfl (za (pv 1) (za (pv 2) (za (pv 0) zb))))) rfl rfl (fun _=>rfl)) zb)))),?_⟩
 rintro f xs ⟨rows,wd,cut,x,y⟩ hl ⟨rfl,g,hc⟩
 try dsimp only [z9,zh]
 dsimp only at *
 refine yx (ajT (PEdO.ped (jS (A:=gD3) (B:=fun q=>PyData.bool (opG rows wd cut q)) (cg x y) (yE (zm (x,y) ?_)))))
 walk_at "w"
 rintro _ rfl
 refine⟨_,rfl,rfl,show 4<=1000 by decide,?_,?_⟩
 ·rintro D q ρ' es hq ho hes
  obtain⟨u,rfl⟩:=ho.one
  refine zj (yJ ?_)
  rw [if_pos rfl]
  refine yi hes (zm (rows,wd,cut,q.1,q.2.1,q.2.2) ?_)
  unfold gD3
  walk_at "w"
  rintro _ rfl
  exact⟨.mk1,rfl⟩
 ·refine⟨(cg x y).map (opG rows wd cut),by rw [am9];rfl,?_⟩
  show PyData.bool _=PyData.bool _
  unfold acd
  rw [List.all_map]
  rfl
abbrev aj5 (K:amk):Sp:=spD K 3 ajr fun c r=>r=.bool (jO c.1 c.2.2.1 c.2.2.2.1 c.2.2.2.2)
theorem alf (F:Def K mg "has_high_middle" yk pj) (uaA:mg "sum"=none) (ua6:FnIn P w K mg base k "corners" pF (abl K)):FnIn P w K mg base (k+1) "has_high_middle" pj (aj5 K):=by
 refine F.ok sc_has_high_middle rfl fun fa cdv A outer s H E hr=>⟨_,(zc (yc (pv 2) (zR (K:=K) (n:=2) rfl rfl (zl (zg (i:=3) sc_has_high_middle.nd rfl (Or.inl rfl) (Or.inr rfl)) (zl (zg (i:=4) sc_has_high_middle.nd rfl (Or.inl rfl) (Or.inr rfl)) zJ)))) (zk (zr (qV ajN (zw (adV (K:=K) rfl rfl) rfl uaA PyProof.Rows.boot_sum (za (zZ (N:=["a","b","rows"]) (own:=2) (fr:=[0]) ⟨rfl,by decide +kernel,of_decide_eq_true (by kernel_rfl),of_decide_eq_true (by kernel_rfl),of_decide_eq_true (by kernel_rfl),rfl⟩ rfl (zT (K:=K) rfl (ze ua6 hr rfl (za (pv 3) (za (pv 4) zb)))) (fun _ _ _ _=>(zR (K:=K) (n:=2) rfl rfl (zl (zg (i:=0) (show (["a","b","rows"]:List Str).Nodup by decide +kernel) rfl (Or.inl rfl) (Or.inr rfl)) (zl (zg (i:=1) (show (["a","b","rows"]:List Str).Nodup by decide +kernel) rfl (Or.inl rfl) (Or.inr rfl)) zJ)))) (fun _ _ _ _=>zP) (fun _ _ _ _=>(zX (zC (K:=K) rfl) (zX (zC (K:=K) rfl) (pv 2) (pv 1) (fun _ _=>rfl)) (pv 0) (fun _ _=>rfl))) rfl rfl (fun _=>rfl)) zb)) (zu zW (zu aah zd (pv 1)) zd) (z8 _))))),?_⟩
 rintro f xs ⟨rows,wd,cut,x,y⟩ hl ⟨rfl,g,hc⟩
 try dsimp only [z9,zh]
 dsimp only at *
 obtain⟨i1,i2,i3,i4⟩:=cell_in hc
 refine zN (zS (zt rfl (yW rfl (zv (zj (zv (zj (yh ?_))))))))
 refine yx (agU (alO (PEdO.ped (jS (A:=fun p:Int×Int=>PyData.tuple [.int p.1,.int p.2]) (B:=fun p:Int×Int=>PyData.int (zK rows p.1 p.2)) [(x,y),(x+1,y),(x+1,y+1),(x,y+1)] (yE (zm (x,y) ?_))))))
 walk_at "w"
 rintro _ rfl
 refine⟨_,rfl,rfl,show 4<=1000 by decide,?_,?_⟩
 ·rintro D p ρ' es hp ho hes
  obtain⟨u,v,rfl⟩:=ho.two
  have hi:zx rows wd p.1 p.2=true:=by
   simp only [amu,anG,or_false] at hp
   rcases hp with rfl | rfl | rfl | rfl
   ·exact i1
   ·exact i2
   ·exact i3
   ·exact i4
  obtain⟨r,h1,h2⟩:=aaE g hi
  refine yW rfl (zv (zj (zv (zj (yh (yJ ?_))))))
  rw [if_pos rfl]
  refine yi hes ?_
  unfold tab
  walk_at "w"
  refine⟨_,h1,?_⟩
  walk_at "w"
  refine⟨_,h2,?_⟩
  exact⟨.mk2,rfl⟩
 ·refine⟨[zK rows x y,zK rows (x+1) y,zK rows (x+1) (y+1),zK rows x (y+1)],rfl,?_⟩
  walk_at "w"
  rfl
def ace (rows:List (List Int)) (cut x y:Int):List PyData:=if (hiB rows cut x y == jO rows cut x y)=true then [pairD (x,y,0) (x+1,y,1),pairD (x,y,1) (x,y+1,0)] else [pairD (x,y,0) (x,y,1),pairD (x,y+1,0) (x+1,y,1)]
def thr (rows:List (List Int)) (wd:Nat) (cut x y:Int):List (Int×Int×Int):=(cg x y).filter (opG rows wd cut)
def ahU:List (Int×Int×Int)->List PyData
 | a :: b :: _=>[pairD a b]
 | _=>[]
def afq (rows:List (List Int)) (wd:Nat) (cut x y:Int):List PyData:=if acd rows wd cut x y=true then ace rows cut x y else ahU (thr rows wd cut x y)
theorem ajs {rows:List (List Int)} {wd:Nat} {cut x y:Int} (h:zz rows wd x y=true):thr rows wd cut x y=[] \/ ∃ a b r,thr rows wd cut x y=a :: b :: r:=by
 have e1:opG rows wd cut (x,y,0)=_:=afm (cut:=cut) h
 have e2:opG rows wd cut (x,y,1)=_:=ahT (cut:=cut) h
 have e3:opG rows wd cut (x,y+1,0)=_:=afn (cut:=cut) h
 have e4:opG rows wd cut (x+1,y,1)=_:=afo (cut:=cut) h
 unfold thr cg
 simp only [ang,e1,e2,e3,e4,apG]
 cases hiB rows cut x y <;> cases hiB rows cut (x+1) y <;> cases hiB rows cut (x+1) (y+1) <;> cases hiB rows cut x (y+1) <;> simp
abbrev adq (K:amk):Sp:=spN K 3 ajr fun c es=>es=ace c.1 c.2.2.1 c.2.2.2.1 c.2.2.2.2
theorem agr (F:Def K mg "crossed_ties" yF pj) (uaq:FnIn P w K mg base k "cell_gates" ["cell"] (vn K)) (uaj:FnIn P w K mg base k "stands_high" pE (aca K)) (ua7:FnIn P w K mg base k "has_high_middle" pj (aj5 K)):FnIn P w K mg base (k+1) "crossed_ties" pj (adq K):=by
 refine F.okN sc_crossed_ties rfl fun fa cdv A outer s H E hr=>⟨_,(zc (yc (ze uaq hr rfl (za (pv 2) zb)) (aeO (K:=K) (n:=4) rfl rfl (zl (zg (i:=3) sc_crossed_ties.nd rfl (Or.inl rfl) (Or.inr rfl)) (zl (zg (i:=4) sc_crossed_ties.nd rfl (Or.inl rfl) (Or.inr rfl)) (zl (zg (i:=5) sc_crossed_ties.nd rfl (Or.inl rfl) (Or.inr rfl)) (zl (zg (i:=6) sc_crossed_ties.nd rfl (Or.inl rfl) (Or.inr rfl)) zJ)))))) (zc (yy (z3 (vA (K:=K) rfl hr.units) (ze uaj hr rfl (za (pv 0) (za (pv 1) (za (pv 2) zb)))) (ze ua7 hr rfl (za (pv 0) (za (pv 1) (za (pv 2) zb)))) (z8 _)) (zk (zr (yz (za (zF (za (pv 3) (za (pv 6) zb))) (za (zF (za (pv 4) (za (pv 5) zb))) zb))))) zV) (zk (zr (yz (za (zF (za (pv 3) (za (pv 4) zb))) (za (zF (za (pv 5) (za (pv 6) zb))) zb))))))),?_⟩
 rintro f xs ⟨rows,wd,cut,x,y⟩ hl ⟨rfl,g,hc⟩
 try dsimp only [z9,zh]
 dsimp only at *
 have hi:=(cell_in hc).1
 refine aas (zS (zm (x,y) ?_))
 walk_at "w"
 rintro _ rfl
 refine ajU rfl (zv (zj (zv (zj (zv (zj (zv (zj (yh ?_)))))))))
 refine ajV (yC (jW (zm (rows,wd,cut,x,y) ?_)))
 walk_at "w"
 rintro _ rfl
 refine zm (rows,wd,cut,x,y) ?_
 walk_at "w"
 rintro _ rfl
 dsimp only
 walk_at "w"
 rw [if_neg amh,adl]
 unfold ace
 refine jo (fun h=>?_) fun h=>?_
 ·rw [if_pos (show (hiB rows cut x y == jO rows cut x y)=true from h)]
  refine acN ?_
  walk_at "w"
  rfl
 ·rw [if_neg (show ¬ (hiB rows cut x y == jO rows cut x y)=true from by rw [show (hiB rows cut x y == jO rows cut x y)=false from h];exact amh)]
  refine acO (acN ?_)
  walk_at "w"
  rfl
abbrev afr (K:amk):Sp:=spN K 3 ajr fun c es=>es=afq c.1 c.2.1 c.2.2.1 c.2.2.2.1 c.2.2.2.2
theorem ahV (F:Def K mg "cell_ties" jk pj) (ua8:FnIn P w K mg base k "is_crossed" pj (abm K)) (ua9:FnIn P w K mg base k "crossed_ties" pj (adq K)) (uaq:FnIn P w K mg base k "cell_gates" ["cell"] (vn K)) (uap:FnIn P w K mg base k "is_open" ph (acb K)):FnIn P w K mg base (k+1) "cell_ties" pj (afr K):=by
 refine F.okN sc_cell_ties rfl fun fa cdv A outer s H E hr=>⟨_,(zc (yy (yD (K:=K) rfl (ze ua8 hr rfl (za (pv 0) (za (pv 1) (za (pv 2) zb)))) (fun _=>rfl)) (zk (zr (ze ua9 hr rfl (za (pv 0) (za (pv 1) (za (pv 2) zb)))))) zV) (zc (je (i:=3) (N:=pC) (own:=1) (fr:=[0,1]) ⟨rfl,by decide +kernel,of_decide_eq_true (by kernel_rfl),of_decide_eq_true (by kernel_rfl),of_decide_eq_true (by kernel_rfl),rfl⟩ rfl sc_cell_ties.nd rfl (Or.inl rfl) (zT (K:=K) rfl (ze uaq hr rfl (za (pv 2) zb))) (fun _ _ _ _=>(zg (i:=0) (show (pC:List Str).Nodup by decide +kernel) rfl (Or.inl rfl) (Or.inr rfl))) (fun _ _ _ _=>(abC (yD (K:=K) rfl (ze uap hr rfl (za (pv 1) (za (pv 2) (za (pv 0) zb)))) (fun _=>rfl)))) (fun _ _ _ _=>(pv 0)) rfl rfl (fun _=>rfl) (Or.inl rfl) rfl) (zk (zr (qT (yD (K:=K) rfl (pv 3) (fun _=>rfl)) (yz (za (zF (za (zX (zC (K:=K) rfl) (pv 3) zd (fun _ _=>rfl)) (za (zX (zC (K:=K) rfl) (pv 3) zd (fun _ _=>rfl)) zb))) zb)) (yz zb)))))),?_⟩
 rintro f xs ⟨rows,wd,cut,x,y⟩ hl ⟨rfl,g,hc⟩
 try dsimp only [z9,zh]
 dsimp only at *
 refine ajV (qE (zm (rows,wd,cut,x,y) ?_))
 walk_at "w"
 rintro _ rfl
 dsimp only
 refine⟨_,rfl,?_⟩
 unfold afq
 refine jo (fun h=>?_) fun h=>?_
 ·rw [if_pos h]
  refine qN (rows,wd,cut,x,y) ?_
  walk_at "w"
  exact fun es he=>he
 ·rw [if_neg (by rw [h];exact amh)]
  refine aas (zS (PEdO.ped (vC (yE (zm (x,y) ?_)))))
  walk_at "w"
  rintro _ rfl
  refine⟨_,rfl,fun n ρ es=>(∃ u,ρ=[u,some (.dat (tab rows)),some (.dat (.int cut))])/\es=(((cg x y).take n).filter (opG rows wd cut)).map gD3,⟨⟨_,rfl⟩,rfl⟩,?_,?_⟩
  ·rintro D n d ρ' es hd ⟨⟨u,rfl⟩,rfl⟩
   rw [aml] at hd
   cases hq:(cg x y)[n]? with
   | none=>rw [hq] at hd;cases hd
   | some q =>
    rw [hq] at hd
    cases hd
    have hn:n<(cg x y).length:=(ami.mp hq).1
    have n4:n<4:=hn
    have tk:(cg x y).take (n+1)=(cg x y).take n++[q]:=by
     rw [aoP,hq]
     rfl
    have len:((((cg x y).take n).filter (opG rows wd cut)).map gD3).length<1000:=by
     rw [amg]
     have a1:=anK (opG rows wd cut) ((cg x y).take n)
     rw [amW] at a1
     omega
    refine zj (qE (zm (rows,wd,cut,q.1,q.2.1,q.2.2) ?_))
    unfold gD3 at *
    walk_at "w"
    rintro _ rfl
    dsimp only
    refine⟨_,rfl,?_⟩
    refine jo (fun h=>?_) fun h=>?_
    ·refine yi len ?_
     walk_at "w"
     rw [tk,anI,amS,ang,show opG rows wd cut q=true from h,if_pos rfl]
     rfl
    ·refine⟨⟨_,rfl⟩,?_⟩
     rw [tk,anI,amS,ang,show opG rows wd cut q=false from h,if_neg amh]
     simp
  ·rintro ρ' es ⟨_,rfl⟩
   rw [amg,anp]
   rw [show List.filter (opG rows wd cut) (cg (x,y).1 (x,y).2)=thr rows wd cut x y from rfl]
   rcases ajs (cut:=cut) hc with e | ⟨a,b,r,e⟩
   ·rw [e]
    refine zj (acO (ajW (qE (zt rfl ⟨false,rfl,?_⟩))))
    rw [if_neg amh]
    exact alI rfl
   ·rw [e]
    have h0:atI ((a :: b :: r).map gD3) 0=some (gD3 a):=yP (xs:=a :: b :: r) (j:=0) rfl (aoI _)
    have h1:atI ((a :: b :: r).map gD3) 1=some (gD3 b):=yP (xs:=a :: b :: r) (j:=1) rfl (Nat.succ_lt_succ (aoI _))
    refine zj (acO (ajW (qE (zt rfl ⟨true,rfl,?_⟩))))
    rw [if_pos rfl]
    refine acN ?_
    walk_at "w"
    refine⟨_,h0,?_⟩
    walk_at "w"
    refine⟨_,h1,?_⟩
    walk_at "w"
    rfl
def opF (A B C D:Bool) (i:Fin 4):Bool:=match i with
 | 0=>A != B
 | 1=>A != D
 | 2=>D != C
 | 3=>B != C
def enF (A B C D:Bool) (i:Fin 4):Bool:=match i with
 | 0=>!A
 | 1=>A
 | 2=>D
 | 3=>!B
def qe (A B C D M:Bool):List (Fin 4×Fin 4) :=
 if (opF A B C D 0 && opF A B C D 1 && opF A B C D 2 && opF A B C D 3)=true then (if (A == M)=true then [(0,3),(1,2)] else [(0,1),(2,3)]) else
 match ([0,1,2,3]:List (Fin 4)).filter (opF A B C D) with
 | a :: b :: _=>[(a,b)]
 | _=>[]
def prt {α:Type} [DecidableEq α] (l:List (α×α)) (g:α):Option α:=l.findSome? fun p=>if p.1=g then some p.2 else if p.2=g then some p.1 else none
theorem ajt:∀ (A B C D M:Bool) (i:Fin 4),opF A B C D i=true->∃ j,prt (qe A B C D M) i=some j/\j≠i/\opF A B C D j=true/\prt (qe A B C D M) j=some i/\enF A B C D j=!enF A B C D i:=by decide
theorem ads:∀ (A B C D M:Bool),qe A B C D M=[] \/ (∃ a b,a≠b/\qe A B C D M=[(a,b)]) \/ ∃ a b c d,a≠b/\a≠c/\a≠d/\b≠c/\b≠d/\c≠d/\qe A B C D M=[(a,b),(c,d)]:=by decide
abbrev Gt:=Int×Int×Int
def gt (x y:Int) (i:Fin 4):Gt:=match i with
 | 0=>(x,y,0)
 | 1=>(x,y,1)
 | 2=>(x,y+1,0)
 | 3=>(x+1,y,1)
theorem vJ {x y:Int} {i j:Fin 4} (h:gt x y i=gt x y j):i=j:=by
 have h1:(gt x y i).1=(gt x y j).1:=by rw [h]
 have h2:(gt x y i).2.1=(gt x y j).2.1:=by rw [h]
 have h3:(gt x y i).2.2=(gt x y j).2.2:=by rw [h]
 revert h1 h2 h3
 clear h
 match i,j with
 | 0,0=>intros;rfl
 | 0,1=>intro _ _ h;simp [gt] at h
 | 0,2=>intro _ h _;simp [gt] at h;omega
 | 0,3=>intro _ _ h;simp [gt] at h
 | 1,0=>intro _ _ h;simp [gt] at h
 | 1,1=>intros;rfl
 | 1,2=>intro _ _ h;simp [gt] at h
 | 1,3=>intro h _ _;simp [gt] at h;omega
 | 2,0=>intro _ h _;simp [gt] at h;omega
 | 2,1=>intro _ _ h;simp [gt] at h
 | 2,2=>intros;rfl
 | 2,3=>intro _ _ h;simp [gt] at h
 | 3,0=>intro _ _ h;simp [gt] at h
 | 3,1=>intro h _ _;simp [gt] at h;omega
 | 3,2=>intro _ _ h;simp [gt] at h
 | 3,3=>intros;rfl
theorem aaa {α β:Type} [DecidableEq α] [DecidableEq β] {f:α->β} (inj:∀ i j,f i=f j->i=j) (l:List (α×α)) (i:α):prt (l.map fun p=>(f p.1,f p.2)) (f i)=(prt l i).map f:=by
 unfold prt
 induction l with
 | nil=>rfl
 | cons p l ih =>
  rw [amG,aou,aou]
  have e1:(f p.1=f i)↔p.1=i:=⟨inj _ _,fun z=>by rw [z]⟩
  have e2:(f p.2=f i)↔p.2=i:=⟨inj _ _,fun z=>by rw [z]⟩
  by_cases h1:p.1=i
  ·rw [if_pos h1,if_pos (e1.mpr h1)];rfl
  ·rw [if_neg h1,if_neg (fun z=>h1 (e1.mp z))]
   by_cases h2:p.2=i
   ·rw [if_pos h2,if_pos (e2.mpr h2)];rfl
   ·rw [if_neg h2,if_neg (fun z=>h2 (e2.mp z))];exact ih
section
variable (rows:List (List Int)) (wd:Nat) (cut:Int)
def t4 (x y:Int):List (Fin 4×Fin 4):=qe (hiB rows cut x y) (hiB rows cut (x+1) y) (hiB rows cut (x+1) (y+1)) (hiB rows cut x (y+1)) (jO rows cut x y)
def y9 (x y:Int):List (Gt×Gt):=(t4 rows cut x y).map fun p=>(gt x y p.1,gt x y p.2)
def yf (w:Int) (h:Bool):Int×Int:=if w=0 then (if h=true then (0,-1) else (0,0)) else (if h=true then (0,0) else (-1,0))
def yI (w:Int) (h:Bool):Int×Int:=if w=0 then (if h=true then (0,0) else (0,-1)) else (if h=true then (-1,0) else (0,0))
def ahC (g:Gt):Int×Int:=(g.1+(yf g.2.2 (hiB rows cut g.1 g.2.1)).1,g.2.1+(yf g.2.2 (hiB rows cut g.1 g.2.1)).2)
def bhC (g:Gt):Int×Int:=(g.1+(yI g.2.2 (hiB rows cut g.1 g.2.1)).1,g.2.1+(yI g.2.2 (hiB rows cut g.1 g.2.1)).2)
def zH (g:Gt):Option Gt:=if zz rows wd (ahC rows cut g).1 (ahC rows cut g).2=true then prt (y9 rows cut (ahC rows cut g).1 (ahC rows cut g).2) g else none
def yb (g:Gt):Option Gt:=if zz rows wd (bhC rows cut g).1 (bhC rows cut g).2=true then prt (y9 rows cut (bhC rows cut g).1 (bhC rows cut g).2) g else none
end
section
variable {rows:List (List Int)} {wd:Nat} {cut x y:Int}
theorem vK (h:zz rows wd x y=true) (i:Fin 4):opG rows wd cut (gt x y i)=opF (hiB rows cut x y) (hiB rows cut (x+1) y) (hiB rows cut (x+1) (y+1)) (hiB rows cut x (y+1)) i:=by
 match i with
 | 0=>exact afm h
 | 1=>exact ahT h
 | 2=>exact afn h
 | 3=>exact afo h
theorem afs (i:Fin 4):(ahC rows cut (gt x y i)=(x,y)↔enF (hiB rows cut x y) (hiB rows cut (x+1) y) (hiB rows cut (x+1) (y+1)) (hiB rows cut x (y+1)) i=true)/\(bhC rows cut (gt x y i)=(x,y)↔enF (hiB rows cut x y) (hiB rows cut (x+1) y) (hiB rows cut (x+1) (y+1)) (hiB rows cut x (y+1)) i=false):=by
 unfold ahC bhC
 match i with
 | 0 =>
  show ((x+(yf 0 (hiB rows cut x y)).1,y+(yf 0 (hiB rows cut x y)).2)=(x,y)↔(!hiB rows cut x y)=true)/\((x+(yI 0 (hiB rows cut x y)).1,y+(yI 0 (hiB rows cut x y)).2)=(x,y)↔(!hiB rows cut x y)=false)
  cases hiB rows cut x y <;> simp [yf,yI] <;> omega
 | 1 =>
  show ((x+(yf 1 (hiB rows cut x y)).1,y+(yf 1 (hiB rows cut x y)).2)=(x,y)↔hiB rows cut x y=true)/\((x+(yI 1 (hiB rows cut x y)).1,y+(yI 1 (hiB rows cut x y)).2)=(x,y)↔hiB rows cut x y=false)
  cases hiB rows cut x y <;> simp [yf,yI] <;> omega
 | 2 =>
  show ((x+(yf 0 (hiB rows cut x (y+1))).1,y+1+(yf 0 (hiB rows cut x (y+1))).2)=(x,y)↔hiB rows cut x (y+1)=true)/\((x+(yI 0 (hiB rows cut x (y+1))).1,y+1+(yI 0 (hiB rows cut x (y+1))).2)=(x,y)↔hiB rows cut x (y+1)=false)
  cases hiB rows cut x (y+1) <;> simp [yf,yI] <;> omega
 | 3 =>
  show ((x+1+(yf 1 (hiB rows cut (x+1) y)).1,y+(yf 1 (hiB rows cut (x+1) y)).2)=(x,y)↔(!hiB rows cut (x+1) y)=true)/\((x+1+(yI 1 (hiB rows cut (x+1) y)).1,y+(yI 1 (hiB rows cut (x+1) y)).2)=(x,y)↔(!hiB rows cut (x+1) y)=false)
  cases hiB rows cut (x+1) y <;> simp [yf,yI] <;> omega
theorem aft (h:zz rows wd x y=true) {i:Fin 4} (o:opG rows wd cut (gt x y i)=true):∃ j,prt (y9 rows cut x y) (gt x y i)=some (gt x y j)/\j≠i/\opG rows wd cut (gt x y j)=true/\prt (y9 rows cut x y) (gt x y j)=some (gt x y i) /\
  (ahC rows cut (gt x y i)=(x,y)->bhC rows cut (gt x y j)=(x,y))/\(bhC rows cut (gt x y i)=(x,y)->ahC rows cut (gt x y j)=(x,y)):=by
 rw [vK h] at o
 obtain⟨j,h1,h2,h3,h4,h5⟩:=ajt _ _ _ _ (jO rows cut x y) i o
 have inj:∀ i j,gt x y i=gt x y j->i=j:=fun _ _=>vJ
 refine⟨j,?_,h2,by rw [vK h];exact h3,?_,fun z=>?_,fun z=>?_⟩
 ·unfold y9 t4
  rw [aaa inj,h1]
  rfl
 ·unfold y9 t4
  rw [aaa inj,h4]
  rfl
 ·rw [(afs j).2,h5,(afs i).1.mp z]
  rfl
 ·rw [(afs j).1,h5,(afs i).2.mp z]
  rfl
theorem adt (g:Gt) (hw:g.2.2=0 \/ g.2.2=1):∃ i,g=gt (ahC rows cut g).1 (ahC rows cut g).2 i:=by
 obtain⟨x,y,w⟩:=g
 unfold ahC
 dsimp only at hw ⊢
 rcases hw with rfl | rfl
 ·cases hiB rows cut x y
  ·exact⟨0,by simp [yf,gt]⟩
  ·exact⟨2,by simp [yf,gt];omega⟩
 ·cases hiB rows cut x y
  ·exact⟨3,by simp [yf,gt];omega⟩
  ·exact⟨1,by simp [yf,gt]⟩
theorem abn (g:Gt) (hw:g.2.2=0 \/ g.2.2=1):∃ i,g=gt (bhC rows cut g).1 (bhC rows cut g).2 i:=by
 obtain⟨x,y,w⟩:=g
 unfold bhC
 dsimp only at hw ⊢
 rcases hw with rfl | rfl
 ·cases hiB rows cut x y
  ·exact⟨2,by simp [yI,gt];omega⟩
  ·exact⟨0,by simp [yI,gt]⟩
 ·cases hiB rows cut x y
  ·exact⟨1,by simp [yI,gt]⟩
  ·exact⟨3,by simp [yI,gt];omega⟩
theorem yr {g:Gt} (o:opG rows wd cut g=true):g.2.2=0 \/ g.2.2=1:=by
 unfold opG yu qR at o
 rw [ams,ams] at o
 exact of_decide_eq_true o.1.1
theorem qw {g:Gt} (o:opG rows wd cut g=true) (h:zz rows wd (ahC rows cut g).1 (ahC rows cut g).2=true):∃ n,zH rows wd cut g=some n/\n≠g/\opG rows wd cut n=true/\bhC rows cut n=ahC rows cut g/\yb rows wd cut n=some g:=by
 obtain⟨i,ei⟩:=adt (rows:=rows) (cut:=cut) g (yr o)
 have o':=o
 rw [ei] at o'
 obtain⟨j,h1,h2,h3,h4,h5,_⟩:=aft h o'
 rw [<-ei] at h1 h4 h5
 have hb:=h5 rfl
 refine⟨gt (ahC rows cut g).1 (ahC rows cut g).2 j,?_,fun z=>h2 (vJ (z.trans ei)),h3,hb,?_⟩
 ·unfold zH
  rw [if_pos h]
  exact h1
 ·unfold yb
  rw [hb,if_pos h]
  exact h4
theorem aab {g:Gt} (o:opG rows wd cut g=true) (h:zz rows wd (bhC rows cut g).1 (bhC rows cut g).2=true):∃ n,yb rows wd cut g=some n/\n≠g/\opG rows wd cut n=true/\ahC rows cut n=bhC rows cut g/\zH rows wd cut n=some g:=by
 obtain⟨i,ei⟩:=abn (rows:=rows) (cut:=cut) g (yr o)
 have o':=o
 rw [ei] at o'
 obtain⟨j,h1,h2,h3,h4,_,h5⟩:=aft h o'
 rw [<-ei] at h1 h4 h5
 have hb:=h5 rfl
 refine⟨gt (bhC rows cut g).1 (bhC rows cut g).2 j,?_,fun z=>h2 (vJ (z.trans ei)),h3,hb,?_⟩
 ·unfold yb
  rw [if_pos h]
  exact h1
 ·unfold zH
  rw [hb,if_pos h]
  exact h4
theorem aaH {g g' n:Gt} (o:opG rows wd cut g=true) (o':opG rows wd cut g'=true) (h:zH rows wd cut g=some n) (h':zH rows wd cut g'=some n):g=g':=by
 have c:zz rows wd (ahC rows cut g).1 (ahC rows cut g).2=true:=by
  unfold zH at h
  by_cases z:zz rows wd (ahC rows cut g).1 (ahC rows cut g).2=true
  ·exact z
  ·rw [if_neg z] at h;cases h
 have c':zz rows wd (ahC rows cut g').1 (ahC rows cut g').2=true:=by
  unfold zH at h'
  by_cases z:zz rows wd (ahC rows cut g').1 (ahC rows cut g').2=true
  ·exact z
  ·rw [if_neg z] at h';cases h'
 obtain⟨m,a1,_,_,_,a2⟩:=qw o c
 obtain⟨m',b1,_,_,_,b2⟩:=qw o' c'
 rw [h] at a1
 rw [h'] at b1
 cases a1
 cases b1
 rw [a2] at b2
 exact Option.some.inj b2
theorem jy {g n:Gt} (o:opG rows wd cut g=true) (h:zH rows wd cut g=some n):opG rows wd cut n=true/\n≠g:=by
 have c:zz rows wd (ahC rows cut g).1 (ahC rows cut g).2=true:=by
  unfold zH at h
  by_cases z:zz rows wd (ahC rows cut g).1 (ahC rows cut g).2=true
  ·exact z
  ·rw [if_neg z] at h;cases h
 obtain⟨m,a1,a2,a3,_,_⟩:=qw o c
 rw [h] at a1
 cases a1
 exact⟨a3,a2⟩
end
abbrev aef (K:amk):Sp:=spD K 3 (fun (c:List (List Int)×Nat×Int×Int×Int×Int) xs=>xs=[.dat (tab c.1),.dat (.int c.2.2.1),.dat (jq c.2.2.2.1 c.2.2.2.2.1 c.2.2.2.2.2)]/\Good c.2.1 c.1/\zx c.1 c.2.1 c.2.2.2.1 c.2.2.2.2.1=true) fun c r=>r=.str (abh c.1 c.2.2.1 c.2.2.2.1 c.2.2.2.2.1 c.2.2.2.2.2)
theorem aeg (F:Def K mg "heading" qu ph) (uaj:FnIn P w K mg base k "stands_high" pE (aca K)):FnIn P w K mg base (k+1) "heading" ph (aef K):=by
 refine F.ok sc_heading rfl fun fa cdv A outer s H E hr=>⟨_,(zc (yc (pv 2) (zR (K:=K) (n:=3) rfl rfl (zl (zg (i:=3) sc_heading.nd rfl (Or.inl rfl) (Or.inr rfl)) (zl (zg (i:=4) sc_heading.nd rfl (Or.inl rfl) (Or.inr rfl)) (zl (zg (i:=5) sc_heading.nd rfl (Or.inl rfl) (Or.inr rfl)) zJ))))) (zc (zM (i:=6) sc_heading.nd rfl (Or.inl rfl) (ze uaj hr rfl (za (pv 0) (za (pv 1) (za (zF (za (pv 3) (za (pv 4) zb))) zb))))) (zc (yy (z3 (vA (K:=K) rfl hr.units) (pv 5) zd (z8 _)) (zk (zr (qT (yD (K:=K) rfl (pv 6) (fun _=>rfl)) qI qI))) zV) (zk (zr (qT (yD (K:=K) rfl (pv 6) (fun _=>rfl)) qI qI)))))),?_⟩
 rintro f xs ⟨rows,wd,cut,x,y,w⟩ hl ⟨rfl,g,hi⟩
 try dsimp only [z9,zh]
 dsimp only at *
 unfold jq
 refine zN (zS (zt rfl (yW rfl (zv (zj (zv (zj (zv (zj (yh ?_))))))))))
 refine zN (zS (zm (rows,wd,cut,x,y) ?_))
 walk_at "w"
 rintro _ rfl
 dsimp only
 walk_at "w"
 rw [if_neg amh,afi]
 unfold abh
 refine jo (fun h=>?_) fun h=>?_
 ·have h':=of_decide_eq_true h
  rw [if_pos h']
  walk_at "w"
  refine jo (fun h2=>?_) fun h2=>?_
  ·walk_at "w"
   rw [if_pos (of_decide_eq_true h2)]
  ·walk_at "w"
   rw [if_neg (of_decide_eq_false h2)]
 ·have h':=of_decide_eq_false h
  rw [if_neg h']
  walk_at "w"
  refine jo (fun h2=>?_) fun h2=>?_
  ·walk_at "w"
   rw [if_pos (of_decide_eq_true h2)]
  ·walk_at "w"
   rw [if_neg (of_decide_eq_false h2)]
abbrev alg:List (Str×List Int):=[("down",[0,0]),("up",[0,-1]),("right",[0,0]),("left",[-1,0])]
abbrev ahW:List (Str×List Int):=[("down",[0,-1]),("up",[0,0]),("right",[-1,0]),("left",[0,0])]
theorem alh {rows:List (List Int)} {cut x y w:Int} (hw:w=0 \/ w=1):apT (abh rows cut x y w) alg=some [(yf w (hiB rows cut x y)).1,(yf w (hiB rows cut x y)).2]:=by
 unfold abh yf hiB
 rcases hw with rfl | rfl
 ·by_cases h:cut<zK rows x y
  ·rw [if_pos rfl,if_pos h,if_pos rfl,decide_eq_true h,if_pos rfl];decide +kernel
  ·rw [if_pos rfl,if_neg h,if_pos rfl,decide_eq_false h,if_neg amh];decide +kernel
 ·have e:¬ ((1:Int)=0):=by decide
  by_cases h:cut<zK rows x y
  ·rw [if_neg e,if_pos h,if_neg e,decide_eq_true h,if_pos rfl];decide +kernel
  ·rw [if_neg e,if_neg h,if_neg e,decide_eq_false h,if_neg amh];decide +kernel
theorem ali {rows:List (List Int)} {cut x y w:Int} (hw:w=0 \/ w=1):apT (abh rows cut x y w) ahW=some [(yI w (hiB rows cut x y)).1,(yI w (hiB rows cut x y)).2]:=by
 unfold abh yI hiB
 rcases hw with rfl | rfl
 ·by_cases h:cut<zK rows x y
  ·rw [if_pos rfl,if_pos h,if_pos rfl,decide_eq_true h,if_pos rfl];decide +kernel
  ·rw [if_pos rfl,if_neg h,if_pos rfl,decide_eq_false h,if_neg amh];decide +kernel
 ·have e:¬ ((1:Int)=0):=by decide
  by_cases h:cut<zK rows x y
  ·rw [if_neg e,if_pos h,if_neg e,decide_eq_true h,if_pos rfl];decide +kernel
  ·rw [if_neg e,if_neg h,if_neg e,decide_eq_false h,if_neg amh];decide +kernel
theorem ahX {rows:List (List Int)} {wd:Nat} {cut:Int} {g:Gt} (o:opG rows wd cut g=true):zx rows wd g.1 g.2.1=true:=by
 unfold opG yu qR at o
 rw [ams,ams,ams] at o
 exact o.1.2.1
abbrev GO:=List (List Int)×Nat×Int×Gt
abbrev aju (c:GO) (xs:List DV):Prop:=xs=[.dat (tab c.1),.dat (.int c.2.2.1),.dat (gD3 c.2.2.2)]/\Good c.2.1 c.1/\opG c.1 c.2.1 c.2.2.1 c.2.2.2=true
abbrev adu (K:amk):Sp:=spD K 3 aju fun c r=>r=.tuple [.int (ahC c.1 c.2.2.1 c.2.2.2).1,.int (ahC c.1 c.2.2.1 c.2.2.2).2]
theorem ags {uar:Addr} (F:Def K mg "cell_ahead" y4 ph) (uaB:mg "AHEAD"=some (.ref uar)) (uas:agb K uar alg=true) (uaC:FnIn P w K mg base k "heading" ph (aef K)):FnIn P w K mg base (k+1) "cell_ahead" ph (adu K):=by
 refine F.ok sc_cell_ahead rfl fun fa cdv A outer s H E hr=>⟨_,(zc (yc (ahD (K:=K) rfl rfl uaB uas (ze uaC hr rfl (za (pv 0) (za (pv 1) (za (pv 2) zb)))) (fun _ _=>rfl)) (zR (K:=K) (n:=2) rfl rfl (zl (zg (i:=3) sc_cell_ahead.nd rfl (Or.inl rfl) (Or.inr rfl)) (zl (zg (i:=4) sc_cell_ahead.nd rfl (Or.inl rfl) (Or.inr rfl)) zJ)))) (zk (zr (zF (za (zu zW (zX (qr (K:=K) rfl) (pv 2) zd (fun _ _=>rfl)) (pv 3)) (za (zu zW (zX (qr (K:=K) rfl) (pv 2) zd (fun _ _=>rfl)) (pv 4)) zb)))))),?_⟩
 rintro f xs ⟨rows,wd,cut,x,y,w⟩ hl ⟨rfl,g,o⟩
 try dsimp only [z9,zh]
 dsimp only at *
 have hw:=yr o
 have hin:=ahX o
 refine zN (zS (aj0 (zm (rows,wd,cut,x,y,w) ?_)))
 unfold gD3 at *
 walk_at "w"
 rintro _ rfl
 refine⟨_,_,rfl,alh hw,?_⟩
 refine yW rfl (zv (zj (zv (zj (yh ?_)))))
 walk_at "w"
 rfl
abbrev afu (K:amk):Sp:=spD K 3 aju fun c r=>r=.bool (!zz c.1 c.2.1 (bhC c.1 c.2.2.1 c.2.2.2).1 (bhC c.1 c.2.2.1 c.2.2.2).2)
theorem ahY {uat:Addr} (F:Def K mg "comes_in" jK ph) (uaD:mg "BEHIND"=some (.ref uat)) (uau:agb K uat ahW=true) (uaC:FnIn P w K mg base k "heading" ph (aef K)) (uaE:FnIn P w K mg base k "has_cell" pq (aec K)):FnIn P w K mg base (k+1) "comes_in" ph (afu K):=by
 refine F.ok sc_comes_in rfl fun fa cdv A outer s H E hr=>⟨_,(zc (yc (ahD (K:=K) rfl rfl uaD uau (ze uaC hr rfl (za (pv 0) (za (pv 1) (za (pv 2) zb)))) (fun _ _=>rfl)) (zR (K:=K) (n:=2) rfl rfl (zl (zg (i:=3) sc_comes_in.nd rfl (Or.inl rfl) (Or.inr rfl)) (zl (zg (i:=4) sc_comes_in.nd rfl (Or.inl rfl) (Or.inr rfl)) zJ)))) (zk (zr (akj (ze uaE hr rfl (za (pv 0) (za (zu zW (zX (qr (K:=K) rfl) (pv 2) zd (fun _ _=>rfl)) (pv 3)) (za (zu zW (zX (qr (K:=K) rfl) (pv 2) zd (fun _ _=>rfl)) (pv 4)) zb)))))))),?_⟩
 rintro f xs ⟨rows,wd,cut,x,y,w⟩ hl ⟨rfl,g,o⟩
 try dsimp only [z9,zh]
 dsimp only at *
 have hw:=yr o
 have hin:=ahX o
 refine zN (zS (aj0 (zm (rows,wd,cut,x,y,w) ?_)))
 unfold gD3 at *
 walk_at "w"
 rintro _ rfl
 refine⟨_,_,rfl,ali hw,?_⟩
 refine yW rfl (zv (zj (zv (zj (yh ?_)))))
 walk_at "w"
 refine zm (rows,wd,(bhC rows cut (x,y,w)).1,(bhC rows cut (x,y,w)).2) ?_
 walk_at "w"
 rintro _ rfl
 exact⟨_,rfl,rfl⟩
noncomputable def qH:List (Gt×Gt)->List (PyData×PyData)->List (PyData×PyData)
 | [],kvs=>kvs
 | p :: l,kvs=>qH l (dput (gD3 p.2) (gD3 p.1) (dput (gD3 p.1) (gD3 p.2) kvs))
theorem aeh (l:List (Gt×Gt)) (p:Gt×Gt):∀ kvs,qH (l++[p]) kvs=dput (gD3 p.2) (gD3 p.1) (dput (gD3 p.1) (gD3 p.2) (qH l kvs)):=by
 induction l with
 | nil=>intro kvs;rfl
 | cons q l ih=>intro kvs;exact ih _
theorem aaI (a b:PyData) (kvs:List (PyData×PyData)):(dput a b kvs).length<=kvs.length+1:=by
 unfold dput
 split
 ·rw [amg];omega
 ·rw [amD];exact amn _
theorem agt (l:List (Gt×Gt)):∀ kvs,(qH l kvs).length<=kvs.length+2 * l.length:=by
 induction l with
 | nil=>intro kvs;exact amn _
 | cons q l ih =>
  intro kvs
  have h1:=ih (dput (gD3 q.2) (gD3 q.1) (dput (gD3 q.1) (gD3 q.2) kvs))
  have h2:=aaI (gD3 q.2) (gD3 q.1) (dput (gD3 q.1) (gD3 q.2) kvs)
  have h3:=aaI (gD3 q.1) (gD3 q.2) kvs
  show (qH l _).length<=_
  rw [amB]
  omega
theorem acf {a b:Gt} (h:gD3 a=gD3 b):a=b:=by
 obtain⟨x,y,w⟩:=a
 obtain⟨x',y',w'⟩:=b
 unfold gD3 jq at h
 simp at h
 simp [h]
theorem ahZ {rows:List (List Int)} {wd:Nat} {cut x y:Int} (h:zz rows wd x y=true):afq rows wd cut x y=(y9 rows cut x y).map fun p=>pairD p.1 p.2:=by
 have e0:opG rows wd cut (x,y,0)=_:=vK (cut:=cut) h 0
 have e1:opG rows wd cut (x,y,1)=_:=vK (cut:=cut) h 1
 have e2:opG rows wd cut (x,y+1,0)=_:=vK (cut:=cut) h 2
 have e3:opG rows wd cut (x+1,y,1)=_:=vK (cut:=cut) h 3
 unfold afq y9 t4 acd ace thr cg qe
 simp only [apX,List.all_nil,ang,apG,e0,e1,e2,e3,Bool.and_true]
 generalize jO rows cut x y=M
 generalize hiB rows cut x y=A
 generalize hiB rows cut (x+1) y=B
 generalize hiB rows cut (x+1) (y+1)=C
 generalize hiB rows cut x (y+1)=D
 cases A <;> cases B <;> cases C <;> cases D <;> cases M <;> rfl
theorem ah0 {rows:List (List Int)} {cut x y:Int} {g n:Gt} (h:prt (y9 rows cut x y) g=some n):vd (gD3 g) (qH (y9 rows cut x y) [])=some (gD3 n):=by
 have key:∀ a b:Gt,a≠b->gD3 a≠gD3 b:=fun a b ne z=>ne (acf z)
 have inj:∀ i j:Fin 4,i≠j->gt x y i≠gt x y j:=fun i j ne z=>ne (vJ z)
 unfold y9 t4 at h ⊢
 rcases ads (hiB rows cut x y) (hiB rows cut (x+1) y) (hiB rows cut (x+1) (y+1)) (hiB rows cut x (y+1)) (jO rows cut x y) with e | ⟨a,b,n1,e⟩ | ⟨a,b,c,d,n1,n2,n3,n4,n5,n6,e⟩
 ·rw [e] at h;cases h
 ·rw [e] at h ⊢
  have k1:=key _ _ (inj a b n1)
  have k1':=anq k1
  simp only [amG,ao8,qH] at h ⊢
  unfold prt at h
  simp only [aou,List.findSome?_nil] at h
  by_cases c1:gt x y a=g
  ·rw [if_pos c1] at h
   cases h
   simp [dput,vd,k1,k1',<- c1]
  ·rw [if_neg c1] at h
   by_cases c2:gt x y b=g
   ·rw [if_pos c2] at h
    cases h
    simp [dput,vd,k1,k1',<- c2]
   ·rw [if_neg c2] at h;cases h
 ·rw [e] at h ⊢
  have k1:=key _ _ (inj a b n1)
  have k2:=key _ _ (inj a c n2)
  have k3:=key _ _ (inj a d n3)
  have k4:=key _ _ (inj b c n4)
  have k5:=key _ _ (inj b d n5)
  have k6:=key _ _ (inj c d n6)
  have j1:=anq k1
  have j2:=anq k2
  have j3:=anq k3
  have j4:=anq k4
  have j5:=anq k5
  have j6:=anq k6
  simp only [amG,ao8,qH] at h ⊢
  unfold prt at h
  simp only [aou,List.findSome?_nil] at h
  by_cases c1:gt x y a=g
  ·rw [if_pos c1] at h
   cases h
   simp [dput,vd,k1,k2,k3,k4,k5,k6,j1,j2,j3,j4,j5,j6,<- c1]
  ·rw [if_neg c1] at h
   by_cases c2:gt x y b=g
   ·rw [if_pos c2] at h
    cases h
    simp [dput,vd,k1,k2,k3,k4,k5,k6,j1,j2,j3,j4,j5,j6,<- c2]
   ·rw [if_neg c2] at h
    by_cases c3:gt x y c=g
    ·rw [if_pos c3] at h
     cases h
     simp [dput,vd,k1,k2,k3,k4,k5,k6,j1,j2,j3,j4,j5,j6,<- c3]
    ·rw [if_neg c3] at h
     by_cases c4:gt x y d=g
     ·rw [if_pos c4] at h
      cases h
      simp [dput,vd,k1,k2,k3,k4,k5,k6,j1,j2,j3,j4,j5,j6,<- c4]
     ·rw [if_neg c4] at h;cases h
def acg:Option Gt->PyData
 | none=>.none
 | some g=>gD3 g
abbrev ah1 (K:amk):Sp:=spD K 3 aju fun c r=>r=acg (zH c.1 c.2.1 c.2.2.1 c.2.2.2)
theorem qf (g:Gt):af8 (gD3 g):=⟨⟨rfl,apL rfl⟩,_,rfl⟩
theorem ajv (F:Def K mg "gate_ahead" y6 ph) (uba:FnIn P w K mg base k "cell_ahead" ph (adu K)) (uaE:FnIn P w K mg base k "has_cell" pq (aec K)) (ubb:FnIn P w K mg base k "cell_ties" pj (afr K)) :
  FnIn P w K mg base (k+1) "gate_ahead" ph (ah1 K):=by
 refine F.ok sc_gate_ahead rfl fun fa cdv A outer s H E hr=>⟨_,(zc (yc (ze uba hr rfl (za (pv 0) (za (pv 1) (za (pv 2) zb)))) (zR (K:=K) (n:=2) rfl rfl (zl (zg (i:=3) sc_gate_ahead.nd rfl (Or.inl rfl) (Or.inr rfl)) (zl (zg (i:=4) sc_gate_ahead.nd rfl (Or.inl rfl) (Or.inr rfl)) zJ)))) (zc (yy (abv (yD (K:=K) rfl (ze uaE hr rfl (za (pv 0) (za (pv 3) (za (pv 4) zb)))) (fun _=>rfl))) (zk (zr adI)) zV) (zc (zM (i:=5) sc_gate_ahead.nd rfl (Or.inl rfl) (aga (w:=w) rfl)) (zc (aag aoe rfl (zT (K:=K) rfl (ze ubb hr rfl (za (pv 0) (za (pv 1) (za (zF (za (pv 3) (za (pv 4) zb))) zb))))) (zR (K:=K) (n:=2) rfl rfl (zl (zg (i:=6) sc_gate_ahead.nd rfl (Or.inl rfl) (Or.inr rfl)) (zl (zg (i:=7) sc_gate_ahead.nd rfl (Or.inl rfl) (Or.inr rfl)) zJ))) (zc (yc (pv 7) (abx (pv 5) (pv 6) (ac1 (w:=w) (K:=K) rfl rfl hr.units))) (zk (yc (pv 6) (abx (pv 5) (pv 7) (ac1 (w:=w) (K:=K) rfl rfl hr.units)))))) (zk (zr (zX (ai5 (w:=w) (K:=K) rfl rfl hr.units) (pv 5) (pv 2) (fun _ _=>rfl)))))))),?_⟩
 rintro f xs ⟨rows,wd,cut,g⟩ hl ⟨rfl,gd,o⟩
 try dsimp only [z9,zh]
 dsimp only at *
 refine zN (zS (zm (rows,wd,cut,g) ?_))
 walk_at "w"
 rintro _ rfl
 dsimp only
 refine yW rfl (zv (zj (zv (zj (yh ?_)))))
 refine zN (aao (aeJ (qE (zm (rows,wd,(ahC rows cut g).1,(ahC rows cut g).2) ?_))))
 walk_at "w"
 rintro _ rfl
 refine⟨_,rfl,?_⟩
 dsimp only
 refine jo (fun h=>?_) fun h=>?_
 ·have hc:zz rows wd (ahC rows cut g).1 (ahC rows cut g).2=false:=by simpa using h
  walk_at "w"
  unfold zH
  rw [hc,if_neg amh]
  rfl
 ·have hc:zz rows wd (ahC rows cut g).1 (ahC rows cut g).2=true:=by simpa using h
  obtain⟨n,hn,_⟩:=qw o hc
  have hp:prt (y9 rows cut (ahC rows cut g).1 (ahC rows cut g).2) g=some n:=by
   unfold zH at hn
   rw [if_pos hc] at hn
   exact hn
  have tl:(y9 rows cut (ahC rows cut g).1 (ahC rows cut g).2).length<=2:=by
   unfold y9 t4
   rw [amg]
   rcases ads (hiB rows cut (ahC rows cut g).1 (ahC rows cut g).2) (hiB rows cut ((ahC rows cut g).1+1) (ahC rows cut g).2) (hiB rows cut ((ahC rows cut g).1+1) ((ahC rows cut g).2+1)) (hiB rows cut (ahC rows cut g).1 ((ahC rows cut g).2+1)) (jO rows cut (ahC rows cut g).1 (ahC rows cut g).2) with e | ⟨a,b,n1,e⟩ | ⟨a,b,c,d,n1,n2,n3,n4,n5,n6,e⟩ <;> rw [e] <;> simp
  refine jY (ahu (w:=w) (ajY (ak2 ⟨show 5<8 by decide,fun D=>?_⟩)))
  refine aaA (ahw (yE (PEdO.ped (qN (rows,wd,cut,(ahC rows cut g).1,(ahC rows cut g).2) ?_))))
  walk_at "w"
  rintro _ rfl
  dsimp only
  rw [ahZ hc]
  refine⟨_,rfl,fun i ρ cs=>(∃ u v,ρ=[some (.dat (tab rows)),some (.dat (.int cut)),some (.dat (gD3 g)),some (.dat (.int (ahC rows cut g).1)),some (.dat (.int (ahC rows cut g).2)),some (.own (f.M.length+0)),u,v])/\cs=[.dic (qH ((y9 rows cut (ahC rows cut g).1 (ahC rows cut g).2).take i) [])],⟨⟨_,_,rfl⟩,rfl⟩,?_,?_⟩
  ·rintro i d _ _ hd ⟨⟨u,v,rfl⟩,rfl⟩
   rw [aml] at hd
   cases hq:(y9 rows cut (ahC rows cut g).1 (ahC rows cut g).2)[i]? with
   | none=>rw [hq] at hd;cases hd
   | some q =>
    rw [hq] at hd
    cases hd
    have tk:(y9 rows cut (ahC rows cut g).1 (ahC rows cut g).2).take (i+1)=(y9 rows cut (ahC rows cut g).1 (ahC rows cut g).2).take i++[q]:=by
     rw [aoP,hq]
     rfl
    have hl:=agt ((y9 rows cut (ahC rows cut g).1 (ahC rows cut g).2).take i) []
    rw [amW] at hl
    simp only [ane] at hl
    refine yW rfl (zv (zj (zv (zj (yh ?_)))))
    refine aaA (ajZ (i:=5) (j:=0) rfl rfl (by omega) ?_)
    walk_at "w"
    refine⟨qf _,?_⟩
    have hl2:=aaI (gD3 q.1) (gD3 q.2) (qH ((y9 rows cut (ahC rows cut g).1 (ahC rows cut g).2).take i) [])
    refine ajZ (i:=5) (j:=0) rfl rfl (by omega) ?_
    walk_at "w"
    refine⟨qf _,⟨_,_,rfl⟩,?_⟩
    rw [tk,aeh]
    rfl
  ·rintro _ _ ⟨⟨u,v,rfl⟩,rfl⟩
   rw [amg,anp]
   refine alU (alT (i:=5) (j:=0) rfl rfl (ahv (zt rfl ⟨qf _,_,ah0 hp,?_⟩)))
   show gD3 n=acg (zH rows wd cut g)
   rw [hn]
   rfl
theorem afv {α:Type} [DecidableEq α]:∀ (l m:List α),l.Nodup->(∀ x∈l,x∈m)->m.length<=l.length->∀ x∈m,x∈l
 | [],m,_,_,hl,x,hx=>by
  have:m=[]:=List.length_eq_zero_iff.mp (Nat.le_zero.mp hl)
  rw [this] at hx
  exact hx
 | a :: l,m,nd,sub,hl,x,hx=>by
  have ha:=sub a (amm ..)
  have hn:=anc.mp nd
  have le:=apq ha
  rw [amB] at hl
  by_cases e:x=a
  ·rw [e];exact amm ..
  ·refine amo _ (afv l (m.erase a) hn.2 (fun y hy=>?_) (by omega) x ((aoY e).mpr hx))
   exact (aoY (fun (z:y=a)=>hn.1 (z▸hy))).mpr (sub y (amo _ hy))
theorem len_sub {α:Type} [DecidableEq α]:∀ (l m:List α),l.Nodup->(∀ x∈l,x∈m)->l.length<=m.length
 | [],m,_,_=>amT _
 | a :: l,m,nd,sub=>by
  have ha:=sub a (amm ..)
  have hn:=anc.mp nd
  have le:=apq ha
  have hp:0<m.length:=apE ha
  have:=len_sub l (m.erase a) hn.2 (fun y hy=>(aoY (fun (z:y=a)=>hn.1 (z▸hy))).mpr (sub y (amo _ hy)))
  rw [amB]
  omega
theorem perm_map_inv {α β:Type} {f:α->β} {l1 l2:List β} (h:l1.Perm l2):∀ ts:List α,l2=ts.map f->∃ us:List α,us.Perm ts/\l1=us.map f:=by
 induction h with
 | nil=>intro ts e;exact⟨ts,.refl _,e⟩
 | cons x _ ih =>
  intro ts e
  cases ts with
  | nil=>cases e
  | cons t ts =>
   rw [amG] at e
   injection e with e1 e2
   obtain⟨us,p,q⟩:=ih ts e2
   exact⟨t :: us,.cons t p,by rw [amG,<- q,e1]⟩
 | swap x y l =>
  intro ts e
  match ts,e with
  | [],e=>cases e
  | [_],e=>cases e
  | a :: b :: ts,e =>
   simp only [amG] at e
   injection e with e1 e2
   injection e2 with e2 e3
   exact⟨b :: a :: ts,.swap a b ts,by rw [amG,amG,e1,e2,e3]⟩
 | trans _ _ ih1 ih2 =>
  intro ts e
  obtain⟨us,p,q⟩:=ih2 ts e
  obtain⟨vs,p2,q2⟩:=ih1 us q
  exact⟨vs,p2.trans p,q2⟩
section
variable (rows:List (List Int)) (wd:Nat) (cut:Int)
structure LineOk (ring:Bool) (l:List Gt):Prop where
 op:∀ g∈l,opG rows wd cut g=true
 nd:l.Nodup
 ch:∀ (i:Nat) a b,l[i]?=some a->l[i+1]?=some b->zH rows wd cut a=some b
 ne:l≠[]
 last:∀ g,l.getLast?=some g->zH rows wd cut g=if ring=true then l.head? else none
structure WalkOk (s:Gt) (l:List Gt):Prop where
 op:∀ g∈l,opG rows wd cut g=true
 nd:l.Nodup
 ch:∀ (i:Nat) a b,l[i]?=some a->l[i+1]?=some b->zH rows wd cut a=some b
 hd:l.head?=some s
end
section
variable {rows:List (List Int)} {wd:Nat} {cut:Int}
theorem agu {t n:Nat} {x y w:Int} (hx:0<=x/\x<n) (hy:0<=y/\y<t) (hw:w=0 \/ w=1):(x,y,w)∈yq t n:=by
 obtain⟨a,rfl⟩:=apx hx.1
 obtain⟨b,rfl⟩:=apx hy.1
 refine am2.mpr ⟨a,amN.mpr (by omega),am2.mpr ⟨b,amN.mpr (by omega),?_⟩⟩
 rcases hw with rfl | rfl
 ·exact amm ..
 ·exact amo _ (amm ..)
theorem afw {g:Gt} (o:opG rows wd cut g=true):zx rows wd g.1 g.2.1=true:=by
 unfold opG yu qR at o
 rw [ams,ams,ams] at o
 exact o.1.2.1
theorem mem_gates {g:Gt}:g∈z4 rows wd cut↔opG rows wd cut g=true:=by
 rw [qd,anN]
 refine⟨fun h=>h.2,fun o=>⟨?_,o⟩⟩
 obtain⟨x,y,w⟩:=g
 have hw:=yr o
 obtain⟨a,b,c,d⟩:=jN (afw o)
 exact agu ⟨a,b⟩ ⟨c,d⟩ hw
theorem gates_nd:(z4 rows wd cut).Nodup:=by
 rw [qd]
 refine ((adp _ _).filter _).imp fun {a b} h e=>?_
 subst e
 unfold gLt at h
 omega
theorem qg {l:List Gt} (gd:Good wd rows) (o:∀ g∈l,opG rows wd cut g=true) (nd:l.Nodup):l.length<=98 :=
 amO (len_sub l (z4 rows wd cut) nd fun x hx=>mem_gates.mpr (o x hx)) (abk gd)
theorem ah2 {s:Gt} (o:opG rows wd cut s=true):WalkOk rows wd cut s [s] :=
 ⟨fun g hg=>by rw [amM.mp hg];exact o,anc.mpr ⟨anG,aon⟩,fun i a b _ h=>(nomatch h),rfl⟩
theorem agv {s n g:Gt} {l:List Gt} (W:WalkOk rows wd cut s l) (hl:l.getLast?=some g) (hn:zH rows wd cut g=some n) (ne:n≠s):WalkOk rows wd cut s (l++[n]):=by
 have hg:g∈l:=aoZ hl
 have hli:l[l.length - 1]?=some g:=by rw [<-anm];exact hl
 have pos:0<l.length:=apE hg
 have hnew:n∉l:=fun hm=>by
  obtain⟨i,hi⟩:=amK hm
  match i,hi with
  | 0,hi =>
   have:=W.hd
   rw [am3,hi] at this
   exact ne (Option.some.inj this)
  | i+1,hi =>
   obtain⟨hlt,_⟩:=ami.mp hi
   have hi':l[i]?=some l[i]:=amf (by omega)
   have hc:=W.ch i _ _ hi' hi
   have e:=aaH (W.op _ (amw hi')) (W.op _ hg) hc hn
   rw [e,<- hli] at hi'
   have:=(List.getElem?_inj (by omega) W.nd).mp hi'
   omega
 refine⟨fun x hx=>?_,?_,fun i a b ha hb=>?_,?_⟩
 ·rcases am4.mp hx with h | h
  ·exact W.op x h
  ·rw [amM.mp h];exact (jy (W.op g hg) hn).1
 ·refine aoh.mpr ⟨W.nd,anc.mpr ⟨anG,aon⟩,fun a ha b hb e=>?_⟩
  rw [amM.mp hb] at e
  exact hnew (e▸ha)
 ·by_cases h:i+1<l.length
  ·rw [amr (by omega)] at ha
   rw [amr h] at hb
   exact W.ch i a b ha hb
  ·obtain⟨hlt,_⟩:=ami.mp hb
   rw [amD,amY] at hlt
   have e:i=l.length - 1:=by omega
   rw [amr (by omega),e,hli] at ha
   rw [amx (by omega),show i+1 - l.length=0 by omega] at hb
   cases ha
   cases hb
   exact hn
 ·cases l with
  | nil=>cases pos
  | cons a l=>exact W.hd
theorem abo {s g:Gt} {l:List Gt} (W:WalkOk rows wd cut s l) (hl:l.getLast?=some g) {ring:Bool} (h:zH rows wd cut g=if ring=true then some s else none):LineOk rows wd cut ring l where
 op:=W.op
 nd:=W.nd
 ch:=W.ch
 ne:=fun z=>by rw [z] at hl;cases hl
 last:=fun g' hg'=>by
  rw [hl] at hg'
  cases hg'
  rw [h,W.hd]
def aaJ (rows:List (List Int)) (wd:Nat) (cut:Int) (t:Bool×List Gt):Prop:=t.1=false->∀ h,t.2.head?=some h->yb rows wd cut h=none
theorem next_prev {g n:Gt} (o:opG rows wd cut g=true) (h:zH rows wd cut g=some n):yb rows wd cut n=some g:=by
 have c:zz rows wd (ahC rows cut g).1 (ahC rows cut g).2=true:=by
  unfold zH at h
  by_cases z:zz rows wd (ahC rows cut g).1 (ahC rows cut g).2=true
  ·exact z
  ·rw [if_neg z] at h;cases h
 obtain⟨m,a1,_,_,_,a2⟩:=qw o c
 rw [h] at a1
 cases a1
 exact a2
theorem prev_next {g n:Gt} (o:opG rows wd cut g=true) (h:yb rows wd cut g=some n):opG rows wd cut n=true/\zH rows wd cut n=some g:=by
 have c:zz rows wd (bhC rows cut g).1 (bhC rows cut g).2=true:=by
  unfold yb at h
  by_cases z:zz rows wd (bhC rows cut g).1 (bhC rows cut g).2=true
  ·exact z
  ·rw [if_neg z] at h;cases h
 obtain⟨m,a1,_,a3,_,a2⟩:=aab o c
 rw [h] at a1
 cases a1
 exact⟨a3,a2⟩
theorem vo {t:Bool×List Gt} (ne:t.2≠[]):∃ z,t.2.getLast?=some z/\z∈t.2:=⟨t.2.getLast ne,List.getLast?_eq_some_getLast ne,List.getLast_mem ne⟩
theorem vV {t:Bool×List Gt} (L:LineOk rows wd cut t.1 t.2) (st:aaJ rows wd cut t) {g n:Gt} (o:opG rows wd cut g=true) (hn:n∈t.2) (h:zH rows wd cut g=some n):g∈t.2:=by
 obtain⟨i,hi⟩:=amK hn
 match i,hi with
 | 0,hi =>
  have hh:t.2.head?=some n:=by rw [am3];exact hi
  cases hr:t.1 with
  | false =>
   have:=st hr n hh
   rw [next_prev o h] at this
   cases this
  | true =>
   obtain⟨z,hz,hm⟩:=vo L.ne
   have:=L.last z hz
   rw [hr,if_pos rfl,hh] at this
   rw [aaH o (L.op z hm) h this]
   exact hm
 | i+1,hi =>
  obtain⟨hlt,_⟩:=ami.mp hi
  have hi':t.2[i]?=some t.2[i]:=amf (by omega)
  have hc:=L.ch i _ _ hi' hi
  have hm:=amw hi'
  rw [aaH o (L.op _ hm) h hc]
  exact hm
theorem vW {t:Bool×List Gt} (L:LineOk rows wd cut t.1 t.2) {g n:Gt} (hg:g∈t.2) (h:zH rows wd cut g=some n):n∈t.2:=by
 obtain⟨i,hi⟩:=amK hg
 obtain⟨hlt,_⟩:=ami.mp hi
 by_cases hl:i+1<t.2.length
 ·have hi':t.2[i+1]?=some t.2[i+1]:=amf hl
  have hc:=L.ch i _ _ hi hi'
  rw [h] at hc
  rw [Option.some.inj hc]
  exact amw hi'
 ·have e:i=t.2.length - 1:=by omega
  have hz:t.2.getLast?=some g:=by rw [anm,<- e];exact hi
  have:=L.last g hz
  rw [h] at this
  by_cases hr:t.1=true
  ·rw [if_pos hr] at this
   exact aoj this.symm
  ·rw [if_neg hr] at this
   cases this
theorem ajw (gd:Good wd rows) {g:Gt} (o:opG rows wd cut g=true):zz rows wd (ahC rows cut g).1 (ahC rows cut g).2=true \/ zz rows wd (bhC rows cut g).1 (bhC rows cut g).2=true:=by
 have hw:=yr o
 obtain⟨x,y,w⟩:=g
 have o':yu rows wd cut x y w=true:=o
 unfold yu qR at o'
 rw [ams,ams,ams] at o'
 obtain⟨a0,a1,a2,a3⟩:=jN o'.1.2.1
 obtain⟨b0,b1,b2,b3⟩:=jN o'.1.2.2
 have h1:=gd.h1
 have w1:=gd.w1
 have cb:∀ {u v:Int},0<=u->u+1<wd->0<=v->v+1<rows.length->zz rows wd u v=true:=fun p q r s=>by
  unfold zz zx
  rw [decide_eq_true (by omega),decide_eq_true (by omega),decide_eq_true (by omega),decide_eq_true (by omega)]
  rfl
 unfold ahC bhC yf yI
 dsimp only at hw ⊢
 rcases hw with rfl | rfl
 ·have e1:px x 0=x+1:=rfl
  rw [e1] at b1
  cases hiB rows cut x y
  ·by_cases h:y+1<rows.length
   ·left;exact cb (by simp;omega) (by simp;omega) (by simp;omega) (by simp;omega)
   ·right;exact cb (by simp;omega) (by simp;omega) (by simp;omega) (by simp;omega)
  ·by_cases h:y+1<rows.length
   ·right;exact cb (by simp;omega) (by simp;omega) (by simp;omega) (by simp;omega)
   ·left;exact cb (by simp;omega) (by simp;omega) (by simp;omega) (by simp;omega)
 ·have e1:py y 1=y+1:=rfl
  rw [e1] at b3
  cases hiB rows cut x y
  ·by_cases h:x+1<wd
   ·right;exact cb (by simp;omega) (by simp;omega) (by simp;omega) (by simp;omega)
   ·left;exact cb (by simp;omega) (by simp;omega) (by simp;omega) (by simp;omega)
  ·by_cases h:x+1<wd
   ·left;exact cb (by simp;omega) (by simp;omega) (by simp;omega) (by simp;omega)
   ·right;exact cb (by simp;omega) (by simp;omega) (by simp;omega) (by simp;omega)
theorem alj (gd:Good wd rows) {t:Bool×List Gt} (L:LineOk rows wd cut t.1 t.2) (st:aaJ rows wd cut t):2<=t.2.length:=by
 obtain⟨r,l⟩:=t
 match l,L,st with
 | [],L,_=>exact absurd rfl L.ne
 | [g],L,st =>
  have o:=L.op g (amm ..)
  have hl:=L.last g rfl
  cases r with
  | true =>
   exact absurd rfl (jy o hl).2
  | false =>
   have hp:yb rows wd cut g=none:=st rfl g rfl
   have hl:zH rows wd cut g=none:=hl
   rcases ajw gd o with c | c
   ·obtain⟨n,h,_⟩:=qw o c
    rw [hl] at h;cases h
   ·obtain⟨n,h,_⟩:=aab o c
    rw [hp] at h;cases h
 | _ :: _ :: _,_,_=>exact Nat.le_add_left 2 _
end
section
variable (rows:List (List Int)) (wd:Nat) (cut:Int)
def flat (ts:List (Bool×List Gt)):List Gt:=ts.flatMap (·.2)
structure Told (ts:List (Bool×List Gt)):Prop where
 line:∀ t∈ts,LineOk rows wd cut t.1 t.2
 st:∀ t∈ts,aaJ rows wd cut t
 nd:(flat ts).Nodup
 least:∀ t∈ts,t.1=true->∀ h,t.2.head?=some h->∀ g∈t.2,g=h \/ gLt h g
end
section
variable {rows:List (List Int)} {wd:Nat} {cut:Int} {ts:List (Bool×List Gt)}
theorem Told.op (T:Told rows wd cut ts) {g:Gt} (h:g∈flat ts):opG rows wd cut g=true:=by
 obtain⟨t,ht,hg⟩:=am2.mp h
 exact (T.line t ht).op g hg
theorem Told.len (T:Told rows wd cut ts) (gd:Good wd rows):(flat ts).length<=98:=qg gd (fun g hg=>T.op hg) T.nd
theorem adv:∀ (ts:List (Bool×List Gt)),(∀ t∈ts,2<=t.2.length)->2 * ts.length<=(flat ts).length
 | [],_=>amn _
 | t :: ts,h=>by
  have h1:=h t (amm ..)
  have h2:=adv ts fun u hu=>h u (amo _ hu)
  show 2 * (ts.length+1)<=(t.2++flat ts).length
  rw [amD]
  omega
theorem Told.few (T:Told rows wd cut ts) (gd:Good wd rows):ts.length<=49:=by
 have h1:=adv ts fun t ht=>alj gd (T.line t ht) (T.st t ht)
 have h2:=T.len gd
 omega
theorem qx (ts:List (Bool×List Gt)) (t:Bool×List Gt):flat (ts++[t])=flat ts++t.2:=by
 unfold flat
 rw [anv]
 simp
theorem Told.fresh (T:Told rows wd cut ts) {r:Bool} {l:List Gt} (L:LineOk rows wd cut r l) {s:Gt} (hs:l.head?=some s) (hn:s∉flat ts):∀ g∈l,g∉flat ts:=by
 have key:∀ (i:Nat) g,l[i]?=some g->g∉flat ts:=fun i=>by
  induction i with
  | zero =>
   intro g hg
   rw [am3,hg] at hs
   rw [Option.some.inj hs]
   exact hn
  | succ i ih =>
   intro g hg hm
   obtain⟨hlt,_⟩:=ami.mp hg
   have hi':l[i]?=some l[i]:=amf (by omega)
   have hc:=L.ch i _ _ hi' hg
   obtain⟨t,ht,hgt⟩:=am2.mp hm
   exact ih _ hi' (am2.mpr ⟨t,ht,vV (T.line t ht) (T.st t ht) (L.op _ (amw hi')) hgt hc⟩)
 intro g hg
 obtain⟨i,hi⟩:=amK hg
 exact key i g hi
theorem Told.more (T:Told rows wd cut ts) {r:Bool} {l:List Gt} (L:LineOk rows wd cut r l) {s:Gt} (hs:l.head?=some s) (hn:s∉flat ts) (st:r=false->yb rows wd cut s=none) (le:r=true->∀ g∈l,g=s \/ gLt s g):Told rows wd cut (ts++[(r,l)]) where
 line:=fun t ht=>by
  rcases am4.mp ht with h | h
  ·exact T.line t h
  ·rw [amM.mp h];exact L
 st:=fun t ht=>by
  rcases am4.mp ht with h | h
  ·exact T.st t h
  ·rw [amM.mp h]
   intro hr h hh
   rw [show (r,l).2.head?=some s from hs] at hh
   rw [<-Option.some.inj hh]
   exact st hr
 nd:=by
  rw [qx]
  refine aoh.mpr ⟨T.nd,L.nd,fun a ha b hb e=>?_⟩
  exact T.fresh L hs hn b hb (e▸ha)
 least:=fun t ht=>by
  rcases am4.mp ht with h | h
  ·exact T.least t h
  ·rw [amM.mp h]
   intro hr h hh
   rw [show (r,l).2.head?=some s from hs] at hh
   rw [<-Option.some.inj hh]
   exact le hr
theorem alk {r:Bool} {l:List Gt} (L:LineOk rows wd cut r l) {s:Gt} (hs:l.head?=some s) (hp:yb rows wd cut s=none):r=false:=by
 cases r with
 | false=>rfl
 | true =>
  obtain⟨z,hz,hm⟩:=vo (t:=(true,l)) L.ne
  have:=L.last z hz
  rw [if_pos rfl,hs] at this
  have:=next_prev (L.op z hm) this
  rw [hp] at this
  cases this
theorem ajx (T:Told rows wd cut ts) (all:∀ g,opG rows wd cut g=true->yb rows wd cut g=none->g∈flat ts) {r:Bool} {l:List Gt} (L:LineOk rows wd cut r l) {s:Gt} (hs:l.head?=some s) (hn:s∉flat ts):r=true:=by
 cases r with
 | true=>rfl
 | false =>
  obtain⟨z,hz,hm⟩:=vo (t:=(false,l)) L.ne
  have hnone:zH rows wd cut z=none:=L.last z hz
  let U:=(z4 rows wd cut).filter fun g=>decide (g∉flat ts)
  have memU:∀ g,g∈U↔opG rows wd cut g=true/\g∉flat ts:=fun g=>by
   show g∈List.filter _ _↔_
   rw [anN,mem_gates,decide_eq_true_eq]
  let pr:Gt->Gt:=fun g=>(yb rows wd cut g).getD g
  have prU:∀ g∈U,yb rows wd cut g=some (pr g)/\zH rows wd cut (pr g)=some g/\pr g∈U:=fun g hg=>by
   obtain⟨o,nf⟩:=(memU g).mp hg
   cases hp:yb rows wd cut g with
   | none=>exact absurd (all g o hp) nf
   | some p =>
    have e:pr g=p:=by show (yb rows wd cut g).getD g=p;rw [hp];rfl
    obtain⟨op,hnx⟩:=prev_next o hp
    rw [e]
    refine⟨rfl,hnx,(memU p).mpr ⟨op,fun hm=>?_⟩⟩
    obtain⟨t,ht,hpt⟩:=am2.mp hm
    exact nf (am2.mpr ⟨t,ht,vW (T.line t ht) hpt hnx⟩)
  have ndU:U.Nodup:=gates_nd.filter _
  have ndP:(U.map pr).Nodup:=by
   refine ant.mpr (ndU.imp_of_mem fun {a b} ha hb ne e=>ne ?_)
   have h1:=(prU a ha).2.1
   have h2:=(prU b hb).2.1
   rw [e,h2] at h1
   exact (Option.some.inj h1).symm
  have zU:z∈U:=(memU z).mpr ⟨L.op z hm,T.fresh L hs hn z hm⟩
  have:=afv (U.map pr) U ndP (fun x hx=>by obtain⟨g,hg,rfl⟩:=amz.mp hx;exact (prU g hg).2.2) (by rw [amg];exact amn _) z zU
  obtain⟨g,hg,rfl⟩:=amz.mp this
  rw [(prU g hg).2.1] at hnone
  cases hnone
def zD (t:Bool×List Gt):PyData:=.tuple [.str (if t.1=true then "ring" else "run"),.tuple (t.2.map gD3)]
theorem adw (l:List Gt):zB (l.map gD3)=true:=by
 induction l with
 | nil=>rfl
 | cons g l ih=>show (zq (gD3 g) && zB (l.map gD3))=true;rw [ih];rfl
theorem aaK (t:Bool×List Gt):zq (zD t)=true:=by
 show (zq (.str _) && (zq (.tuple (t.2.map gD3)) && true))=true
 rw [show zq (.tuple (t.2.map gD3))=zB (t.2.map gD3) from rfl,adw]
 cases t.1 <;> decide +kernel
theorem vL:∀ l m:List Gt,qB (l.map gD3) (m.map gD3)=true
 | [],m=>by rw [ao8,qB]
 | g :: l,[]=>rfl
 | (x,y,w) :: l,(x',y',w') :: m=>by
  rw [amG,amG,qB]
  split
  ·exact vL l m
  ·show j9 (.tuple [.int x,.int y,.int w]) (.tuple [.int x',.int y',.int w'])=true
   simp only [j9,qB]
   split
   ·split
    ·split <;> rfl
    ·rfl
   ·rfl
theorem ah3 (t u:Bool×List Gt):j9 (zD t) (zD u)=true:=by
 unfold zD
 generalize (if t.1=true then ("ring":Str) else "run")=a
 generalize (if u.1=true then ("ring":Str) else "run")=b
 rw [j9,qB]
 split
 ·rw [qB]
  split
  ·rfl
  ·rw [j9];exact vL _ _
 ·rfl
theorem adx (l:List Gt):amt (l.map gD3)<=1:=by
 induction l with
 | nil=>exact amT _
 | cons g l ih=>exact Nat.max_le.mpr ⟨amn 1,ih⟩
theorem aei (t:Bool×List Gt):(zD t).depth<=3:=by
 show max 0 (max (amt (t.2.map gD3)+1) 0)+1<=3
 have:=adx t.2
 omega
theorem ady {a b:Gt} (h:gD3 a=gD3 b):a=b:=by
 obtain⟨x,y,w⟩:=a
 obtain⟨x',y',w'⟩:=b
 unfold gD3 jq at h
 simp at h
 simp [h]
theorem aaL (T:Told rows wd cut ts):SortOk "str" (ts.map zD) where
 plain:=fun d hd=>by obtain⟨t,_,rfl⟩:=amz.mp hd;exact aaK t
 head:=fun d hd=>by obtain⟨t,_,rfl⟩:=amz.mp hd;rfl
 cmp:=fun d hd e he=>by
  obtain⟨t,_,rfl⟩:=amz.mp hd
  obtain⟨u,_,rfl⟩:=amz.mp he
  exact ah3 t u
 depth:=fun d hd=>by obtain⟨t,_,rfl⟩:=amz.mp hd;exact amO (aei t) (by decide)
 nd:=by
  have h:=(List.pairwise_flatMap.mp T.nd).2
  refine ant.mpr (h.imp_of_mem fun {a b} ha hb hd e=>?_)
  unfold zD at e
  have e2:a.2.map gD3=b.2.map gD3:=by
   injection e with e
   injection e with _ e
   injection e with e _
   injection e
  cases ha2:a.2 with
  | nil=>exact (T.line a ha).ne ha2
  | cons g l =>
   cases hb2:b.2 with
   | nil=>exact (T.line b hb).ne hb2
   | cons g' l' =>
    rw [ha2,hb2,amG,amG] at e2
    injection e2 with e2 _
    exact hd g (by rw [ha2];exact amm ..) g' (by rw [hb2];exact amm ..) (ady e2)
theorem Told.perm {us:List (Bool×List Gt)} (T:Told rows wd cut ts) (p:us.Perm ts):Told rows wd cut us where
 line:=fun t ht=>T.line t (p.mem_iff.mp ht)
 st:=fun t ht=>T.st t (p.mem_iff.mp ht)
 nd:=(p.flatMap_right _).nodup_iff.mpr T.nd
 least:=fun t ht=>T.least t (p.mem_iff.mp ht)
end
section
variable {K:amk} {f:Fx} {ρ:zp} {ta:TE} {P:PyData->Prop}
def aaM:PyData->Bool
 | .none=>true
 | _=>false
theorem abp {H:Hp} {d:PyData} {v:V} (r:Rep K H d v) (h:d=.none \/ ∃ ds,d=.tuple ds):decide (v=.non)=aaM d:=by
 rcases h with rfl | ⟨ds,rfl⟩
 ·rw [show v=.non from r];rfl
 ·obtain⟨a,xs,rfl,_⟩:=rep_tuple.mp r
  rfl
theorem alm (h:PEd K f ta ρ fun d=>(d=.none \/ ∃ ds,d=.tuple ds)/\P (.bool (!aaM d))):PEd K f (tOp (fun x y H Q=>y=.non/\Q (.bl (!decide (x=.non))) H) ta (tC .non)) ρ P:=fun σ H Q e q =>
 h σ H _ e fun d v H1 g1 r1 ⟨hd,p⟩=>⟨rfl,q _ _ H1 g1 (by show Rep K _ (.bool _) (.bl _);rw [abp r1 hd];rfl) p⟩
theorem aj6 (h:PEd K f ta ρ fun d=>(d=.none \/ ∃ ds,d=.tuple ds)/\P (.bool (aaM d))):PEd K f (tOp (fun x y H Q=>y=.non/\Q (.bl (decide (x=.non))) H) ta (tC .non)) ρ P:=fun σ H Q e q =>
 h σ H _ e fun d v H1 g1 r1 ⟨hd,p⟩=>⟨rfl,q _ _ H1 g1 (by show Rep K _ (.bool _) (.bl _);rw [abp r1 hd];rfl) p⟩
end
abbrev ah4 (K:amk):Sp:=spD K 3 aju fun c r=>∃ ring l,r=zD (ring,l)/\LineOk c.1 c.2.1 c.2.2.1 ring l/\l.head?=some c.2.2.2
theorem aej (a b:Gt):amI (gD3 a) (gD3 b)=decide (a=b):=by
 obtain⟨x,y,w⟩:=a
 obtain⟨x',y',w'⟩:=b
 show (decide (x=x') && (decide (y=y') && (decide (w=w') && true)))=_
 by_cases h1:x=x' <;> by_cases h2:y=y' <;> by_cases h3:w=w' <;> simp [h1,h2,h3]
theorem aek (q:Option Gt):acg q=.none \/ ∃ ds,acg q=.tuple ds:=by
 cases q with
 | none=>exact .inl rfl
 | some g=>exact .inr ⟨_,rfl⟩
theorem ajy (F:Def K mg "line_from" jl pK) (uag:mg "tuple"=none) (ua0:FnIn P w K mg base k "gate_ahead" ph (ah1 K)) :
  FnIn P w K mg base (k+1) "line_from" pK (ah4 K):=by
 refine F.ok sc_line_from rfl fun fa cdv A outer s H E hr=>⟨_,(zc (zM (i:=3) sc_line_from.nd rfl (Or.inl rfl) (yz (za (pv 2) zb))) (zc (zM (i:=4) sc_line_from.nd rfl (Or.inl rfl) (ze ua0 hr rfl (za (pv 0) (za (pv 1) (za (pv 2) zb))))) (zc (agF aoe (PW.pt (aki (z3 aiz (pv 4) adI (z8 _)) (aiq (z3 (vB (K:=K) rfl hr.units) (pv 4) (pv 2) (z8 _))))) (zc (yX (agN aoE apr aps aa4 (pv 3) (za (pv 4) zb))) (zk (zM (i:=4) sc_line_from.nd rfl (Or.inl rfl) (ze ua0 hr rfl (za (pv 0) (za (pv 1) (za (pv 4) zb)))))))) (zk (zr (zF (za (qT (z3 akt (pv 4) adI (z8 _)) qI qI) (za (vx (j8 (K:=K) rfl) rfl uag aoF (za (pv 3) zb)) zb)))))))),?_⟩
 rintro f xs ⟨rows,wd,cut,g⟩ hl ⟨rfl,gd,o⟩
 try dsimp only [z9,zh]
 dsimp only at *
 refine ahu (w:=w) (ajY (ae7 (acN ?_)))
 walk_at "w"
 refine⟨show 3<5 by decide,fun D=>?_⟩
 refine aaA (adZ (zS (zm (rows,wd,cut,g) ?_)))
 walk_at "w"
 rintro _ rfl
 refine zj ?_
 refine aaA (aiY (fun ρ cs=>∃ l z,ρ=[some (.dat (tab rows)),some (.dat (.int cut)),some (.dat (gD3 g)),some (.own (f.M.length+0)),some (.dat (acg (zH rows wd cut z)))]/\cs=[.lst (l.map gD3)]/\WalkOk rows wd cut g l/\l.getLast?=some z) (fun _ cs=>match cs with | [.lst es]=>200 - es.length | _=>0) ⟨[g],g,rfl,rfl,ah2 o,rfl⟩ ?_)
 rintro _ _ ⟨l,z,rfl,rfl,W,hz⟩
 have oz:=W.op z (aoZ hz)
 have wl:=qg gd W.op W.nd
 have ml:(l.map gD3).length=l.length:=amg ..
 refine al8 (agX (yC (alm (zt rfl ⟨aek _,?_⟩))))
 refine⟨_,rfl,?_⟩
 have fr:∀ x:PyData,apv (freed f.M.length [OC.lst (l.map gD3)]) [some (DV.dat (tab rows)),some (.dat (.int cut)),some (.dat (gD3 g)),some (.own (f.M.length+0)),some (.dat x)]=[some (.dat (tab rows)),some (.dat (.int cut)),some (.dat (gD3 g)),some (.dat (.list (l.map gD3))),some (.dat x)]:=fun x=>by simp [freed]
 cases hn:zH rows wd cut z with
 | none =>
  rw [show (!aaM (acg none))=false from rfl,if_neg amh,if_neg amh]
  refine ahx ?_
  rw [fr]
  refine yx (jX (zE (aiG (yC (aj6 (zt rfl ⟨.inl rfl,_,rfl,?_⟩))))))
  rw [show aaM (acg none)=true from rfl,if_pos rfl]
  walk_at "w"
  exact⟨false,l,rfl,abo W hz (by rw [hn];rfl),W.hd⟩
 | some n =>
  rw [show (!aaM (acg (some n)))=true from rfl,if_pos rfl]
  rw [show acg (some n)=gD3 n from rfl]
  refine yC (jW (zt rfl (zt rfl ⟨rfl,rfl,apL rfl,_,rfl,?_⟩)))
  rw [if_pos rfl,aej]
  by_cases ng:n=g
  ·rw [decide_eq_true ng,show (!true)=false from rfl,if_neg amh]
   refine ahx ?_
   rw [fr]
   refine yx (jX (zE (aiG (yC (aj6 (zt rfl ⟨.inr ⟨_,rfl⟩,_,rfl,?_⟩))))))
   rw [show aaM (gD3 n)=false from rfl,if_neg amh]
   walk_at "w"
   exact⟨true,l,rfl,abo W hz (by rw [hn,ng];rfl),W.hd⟩
  ·rw [decide_eq_false ng,show (!false)=true from rfl,if_pos rfl]
   have W2:=agv W hz hn ng
   have wl2:=qg gd W2.op W2.nd
   rw [amD,amY] at wl2
   refine aaA (ajX (i:=3) (j:=0) rfl rfl (by omega) (ahv (zt rfl ?_)))
   refine adZ (zS (zm (rows,wd,cut,n) ?_))
   have on:=(jy oz hn).1
   walk_at "w"
   rintro _ rfl
   refine zj ⟨⟨l++[n],n,rfl,?_,W2,by simp⟩,?_⟩
   ·show [OC.lst (l.map gD3++[gD3 n])]=[OC.lst ((l++[n]).map gD3)]
    rw [amS]
    rfl
   ·show 200 - (l.map gD3++[gD3 n]).length<200 - (l.map gD3).length
    rw [amD,amY]
    omega
abbrev afx (K:amk):Sp:=spN K 2 (fun (c:List (List Int)×Nat×Int) xs=>xs=[.dat (tab c.1),.dat (.int c.2.2)]/\Good c.2.1 c.1) fun c es=>∃ ts,es=ts.map zD/\Told c.1 c.2.1 c.2.2 ts/\(∀ g,opG c.1 c.2.1 c.2.2 g=true->g∈flat ts)/\es.Pairwise fun d e=>ltD d e=true
def inB (rows:List (List Int)) (wd:Nat) (cut:Int) (g:Gt):Bool:=!zz rows wd (bhC rows cut g).1 (bhC rows cut g).2
theorem ah5 {rows:List (List Int)} {wd:Nat} {cut:Int} {g:Gt} (o:opG rows wd cut g=true):inB rows wd cut g=true↔yb rows wd cut g=none:=by
 unfold inB
 by_cases h:zz rows wd (bhC rows cut g).1 (bhC rows cut g).2=true
 ·obtain⟨n,hn,_⟩:=aab o h
  rw [h,hn]
  simp
 ·rw [apu] at h
  unfold yb
  rw [h]
  simp
theorem ah6 (F:Def K mg "lines" v9 pz) (uaF:mg "set"=none) (uah:mg "sorted"=none) (uae:FnIn P w K mg base k "ask_table" pf (abg K)) (ubc:FnIn P w K mg base k "gates" pz (afl K)) (ubd:FnIn P w K mg base k "comes_in" ph (afu K)) (ube:FnIn P w K mg base k "line_from" pK (ah4 K)):FnIn P w K mg base (k+1) "lines" pz (afx K):=by
 refine F.okN sc_lines rfl fun fa cdv A outer s H E hr=>⟨_,(zc (yX (ze uae hr rfl (za (pv 0) zb))) (zc (zM (i:=2) sc_lines.nd rfl (Or.inl rfl) (ze ubc hr rfl (za (pv 0) (za (pv 1) zb)))) (zc (zM (i:=3) sc_lines.nd rfl (Or.inl rfl) (zu (acM (K:=K) rfl) (zZ (N:=pC) (own:=1) (fr:=[0,1]) ⟨rfl,by decide +kernel,of_decide_eq_true (by kernel_rfl),of_decide_eq_true (by kernel_rfl),of_decide_eq_true (by kernel_rfl),rfl⟩ rfl (zT (K:=K) rfl (pv 2)) (fun _ _ _ _=>(zg (i:=0) (show (pC:List Str).Nodup by decide +kernel) rfl (Or.inl rfl) (Or.inr rfl))) (fun _ _ _ _=>(abC (yD (K:=K) rfl (ze ubd hr rfl (za (pv 1) (za (pv 2) (za (pv 0) zb)))) (fun _=>rfl)))) (fun _ _ _ _=>(pv 0)) rfl rfl (fun _=>rfl)) (pv 2))) (zc (zM (i:=4) sc_lines.nd rfl (Or.inl rfl) (yz zb)) (zc (zM (i:=5) sc_lines.nd rfl (Or.inl rfl) (adN (abV (w:=w) rfl) rfl uaF PyProof.Rows.boot_set)) (zc (aag aoe rfl (zT (K:=K) rfl (pv 3)) (zg (i:=6) sc_lines.nd rfl (Or.inl rfl) (Or.inr rfl)) (zk (yy (z3 (ad0 (w:=w) (K:=K) rfl rfl hr.units) (pv 6) (pv 5) rfl) (zc (zM (i:=7) sc_lines.nd rfl (Or.inl rfl) (ze ube hr rfl (za (pv 0) (za (pv 1) (za (pv 6) zb))))) (zc (yX (agN aoE apr aps aa4 (pv 4) (za (pv 7) zb))) (zk (aag aoe rfl (abG (K:=K) rfl (zX (qr (K:=K) rfl) (pv 7) zd (fun _ _=>rfl))) (zg (i:=8) sc_lines.nd rfl (Or.inl rfl) (Or.inr rfl)) (zk (yX (akZ (w:=w) rfl apR PySem.F.type_set_add (ahA (w:=w) (K:=K) rfl rfl hr.units) (pv 5) (za (pv 8) zb)))))))) zV))) (zk (zr (zw (jF (K:=K) rfl hr.units) rfl uah aoy (za (pv 4) zb)))))))))),?_⟩
 rintro f xs ⟨rows,wd,cut⟩ hl ⟨rfl,gd⟩
 try dsimp only [z9,zh]
 dsimp only at *
 have gl:=abk (cut:=cut) gd
 refine aas (jZ (zm (rows,wd) ?_))
 walk_at "w"
 rintro _ rfl
 refine aas (zS (PEdO.ped (qN (rows,wd,cut) ?_)))
 walk_at "w"
 rintro _ rfl
 dsimp only
 rw [<-qd]
 refine zj ?_
 refine aas (zS (ahd (PEdO.ped (vC (yE (zt rfl ⟨_,rfl,fun n ρ es=>(∃ u,ρ=[u,some (.dat (tab rows)),some (.dat (.int cut))])/\es=(((z4 rows wd cut).take n).filter (inB rows wd cut)).map gD3,⟨⟨_,rfl⟩,rfl⟩,?_,?_⟩))))))
 ·rintro D n d ρ' es hd ⟨⟨u,rfl⟩,rfl⟩
  rw [aml] at hd
  cases hq:(z4 rows wd cut)[n]? with
  | none=>rw [hq] at hd;cases hd
  | some q =>
   rw [hq] at hd
   cases hd
   have oq:=mem_gates.mp (amw hq)
   have tk:(z4 rows wd cut).take (n+1)=(z4 rows wd cut).take n++[q]:=by
    rw [aoP,hq]
    rfl
   have len:((((z4 rows wd cut).take n).filter (inB rows wd cut)).map gD3).length<1000:=by
    rw [amg]
    have a1:=anK (inB rows wd cut) ((z4 rows wd cut).take n)
    rw [amW] at a1
    omega
   refine zj (qE (zm (rows,wd,cut,q) ?_))
   walk_at "w"
   rintro _ rfl
   dsimp only
   refine⟨_,rfl,?_⟩
   refine jo (fun h=>?_) fun h=>?_
   ·refine yi len ?_
    walk_at "w"
    rw [tk,anI,amS,ang,show inB rows wd cut q=true from h,if_pos rfl]
    rfl
   ·refine⟨⟨_,rfl⟩,?_⟩
    rw [tk,anI,amS,ang,show inB rows wd cut q=false from h,if_neg amh]
    simp
 ·rintro ρ' es ⟨_,rfl⟩
  rw [amg,anp]
  have il:((z4 rows wd cut).filter (inB rows wd cut)).length<=98:=amO (anK _ _) gl
  refine⟨_,rfl,zt rfl ⟨_,rfl,by rw [amg,amg];omega,?_⟩⟩
  refine zj ?_
  dsimp only
  rw [<-amS]
  refine aiZ (w:=w) (ahy (ae7 (acN ?_)))
  walk_at "w"
  refine⟨show 4<9 by decide,fun D1=>?_⟩
  refine ahy (ak0 ⟨show 5<9 by decide,fun D2=>?_⟩)
  refine akX (ahw (yE (zt rfl ?_)))
  generalize hS:(z4 rows wd cut).filter (inB rows wd cut)++z4 rows wd cut=S
  generalize hG:PyData.list (apv gD3 (z4 rows wd cut))=G
  refine⟨_,rfl,fun i ρ cs=>∃ ts u v x,ρ=[some (.dat (tab rows)),some (.dat (.int cut)),some (.dat G),some (.dat (.list (S.map gD3))),some (.own (f.M.length+0)),some (.own (f.M.length+1)),u,v,x]/\cs=[.lst (ts.map zD),.set ((flat ts).map gD3).reverse]/\Told rows wd cut ts/\∀ j g,j<i->S[j]?=some g->g∈flat ts,?_,?_,?_⟩
  ·exact⟨[],_,_,_,rfl,rfl,⟨(fun _ h=>nomatch h),(fun _ h=>nomatch h),aon,(fun _ h=>nomatch h)⟩,fun j g h=>absurd h (ank _)⟩
  ·rintro i d _ _ hd ⟨ts,u,v,x,rfl,rfl,T,past⟩
   rw [aml] at hd
   cases hq:S[i]? with
   | none=>rw [hq] at hd;cases hd
   | some q =>
    rw [hq] at hd
    cases hd
    have oq:opG rows wd cut q=true:=by
     have hm:=amw hq
     rw [<-hS] at hm
     rcases am4.mp hm with h | h
     ·exact mem_gates.mp (anN.mp h).1
     ·exact mem_gates.mp h
    have memk:(gD3 q∈((flat ts).map gD3).reverse)↔q∈flat ts:=by
     rw [anE,amz]
     exact⟨fun⟨a,ha,e⟩=>acf e▸ha,fun h=>⟨q,h,rfl⟩⟩
    refine zj (al9 (alR (i:=5) (j:=1) rfl rfl (ahv (zt rfl ⟨qf _,?_⟩))))
    rw [if_pos rfl]
    by_cases hin:q∈flat ts
    ·rw [decide_eq_true (memk.mpr hin),show (!true)=false from rfl,if_neg amh]
     refine akW ⟨ts,_,_,_,rfl,rfl,T,fun j g hj hg=>?_⟩
     rcases anR.mp hj with h | h
     ·exact past j g h hg
     ·rw [h,hq] at hg
      cases hg
      exact hin
    ·rw [decide_eq_false (fun z=>hin (memk.mp z)),show (!false)=true from rfl,if_pos rfl]
     refine aaA (adZ (zS (zm (rows,wd,cut,q) ?_)))
     walk_at "w"
     rintro _ ⟨ring,l,rfl,L,hh⟩
     dsimp only at L hh
     have T2:Told rows wd cut (ts++[(ring,l)]):=by
      by_cases hi:i<((z4 rows wd cut).filter (inB rows wd cut)).length
      ·have hp:yb rows wd cut q=none:=by
        rw [<-hS,amr hi] at hq
        exact (ah5 oq).mp (anN.mp (amw hq)).2
       have r0:=alk L hh hp
       exact T.more L hh hin (fun _=>hp) fun z=>by rw [r0] at z;cases z
      ·have all:∀ g,opG rows wd cut g=true->yb rows wd cut g=none->g∈flat ts:=fun g og hp=>by
        have hm:g∈(z4 rows wd cut).filter (inB rows wd cut):=anN.mpr ⟨mem_gates.mpr og,(ah5 og).mpr hp⟩
        obtain⟨j,hj⟩:=amK hm
        obtain⟨hlt,_⟩:=ami.mp hj
        refine past j g (by omega) ?_
        rw [<-hS,amr hlt]
        exact hj
       have r1:=ajx T all L hh hin
       refine T.more L hh hin (fun z=>by rw [r1] at z;cases z) fun _ g hg=>?_
       have fr:=T.fresh L hh hin g hg
       obtain⟨j,hj⟩:=amK (mem_gates.mpr (L.op g hg))
       have hq':=hq
       rw [<-hS,amx (by omega)] at hq'
       have pw:(z4 rows wd cut).Pairwise gLt:=by rw [qd];exact (adp _ _).filter _
       obtain⟨l1,e1⟩:=ami.mp hj
       obtain⟨l2,e2⟩:=ami.mp hq'
       rcases Nat.lt_trichotomy j (i - ((z4 rows wd cut).filter (inB rows wd cut)).length) with h | h | h
       ·refine absurd (past (j+((z4 rows wd cut).filter (inB rows wd cut)).length) g (by omega) ?_) fr
        rw [<-hS,amx (by omega),Nat.add_sub_cancel]
        exact hj
       ·left
        rw [<-e1,<- e2]
        congr 1
       ·right
        rw [<-e1,<- e2]
        exact anL.mp pw _ _ l2 l1 h
     have hf:=T2.len gd
     have nd2:=T2.nd
     rw [qx] at nd2 hf
     have few:=T.few gd
     refine zj ?_
     refine aaA (ajX (i:=4) (j:=0) rfl rfl (by rw [amg];omega) (ahv (zt rfl ?_)))
     refine ahw (ag5 (agV (zt rfl ?_)))
     walk_at "w"
     refine⟨fun m ρ cs=>∃ x,ρ=[some (.dat (tab rows)),some (.dat (.int cut)),some (.dat G),some (.dat (.list (S.map gD3))),some (.own (f.M.length+0)),some (.own (f.M.length+1)),some (.dat (gD3 q)),some (.dat (zD (ring,l))),x]/\cs=[.lst ((ts++[(ring,l)]).map zD),.set ((flat ts++l.take m).map gD3).reverse],?_,?_,?_⟩
     ·refine⟨_,rfl,?_⟩
      rw [apO,anj,amS]
      rfl
     ·rintro m d _ _ hd ⟨x,rfl,rfl⟩
      rw [aml] at hd
      cases hg:l[m]? with
      | none=>rw [show (ring,l).2[m]?=none from hg] at hd;cases hd
      | some g =>
       rw [show (ring,l).2[m]?=some g from hg] at hd
       cases hd
       have tk:l.take (m+1)=l.take m++[g]:=by
        rw [aoP,hg]
        rfl
       have sp:l=l.take m++g :: l.drop (m+1):=by
        obtain⟨hlt,e⟩:=ami.mp hg
        rw [<-e,<- aoq hlt,aof]
       have hnew:g∉flat ts++l.take m:=fun z=>by
        have nd3:(flat ts++l).Nodup:=nd2
        rw [sp,<- aoi] at nd3
        exact (aoh.mp nd3).2.2 g z g (amm ..) rfl
       have len:(((flat ts++l.take m).map gD3).reverse).length<300:=by
        rw [amZ,amg,amD,amW]
        have:(flat ts++l).length<=98:=hf
        rw [amD] at this
        omega
       refine zj (alS (i:=5) (j:=1) rfl rfl len (ahv (zt rfl ⟨qf _,fun z=>?_,fun _=>?_⟩)))
       ·rw [anE,amz] at z
        obtain⟨a,ha,e⟩:=z
        exact absurd (acf e▸ha) hnew
       ·refine⟨_,rfl,?_⟩
        show [OC.lst _,OC.set (gD3 g :: ((flat ts++l.take m).map gD3).reverse)]=_
        rw [tk,<- aoi,amS (l₁:=flat ts++l.take m),aot]
        rfl
     ·rintro _ _ ⟨x,rfl,rfl⟩
      refine⟨ts++[(ring,l)],_,_,_,rfl,?_,T2,fun j g hj hg=>?_⟩
      ·rw [amg,show (ring,l).2.length=l.length from rfl,anp,qx]
      ·rw [qx]
       rcases anR.mp hj with h | h
       ·exact anf _ (past j g h hg)
       ·rw [h,hq] at hg
        cases hg
        exact amF _ (aoj hh)
  ·rintro _ _ ⟨ts,u,v,x,rfl,rfl,T,past⟩
   have few:=T.few gd
   refine ai0 (acO (aav "str" (zt (i:=4) (d:=.list (ts.map zD)) ?_ ⟨_,rfl,aaL T,by rw [amg];omega,.inl (by rw [amg];omega),fun es pm up=>?_⟩)))
   ·show some (freed _ _ _)=_
    simp [freed]
   ·obtain⟨us,p,rfl⟩:=perm_map_inv pm ts rfl
    refine⟨us,rfl,T.perm p,fun g og=>?_,up⟩
    have hm:g∈S:=by rw [<-hS];exact amF _ (mem_gates.mpr og)
    obtain⟨j,hj⟩:=amK hm
    obtain⟨hlt,_⟩:=ami.mp hj
    exact (p.flatMap_right _).mem_iff.mpr (past j g (by rw [amg];exact hlt) hj)
section
variable {rows:List (List Int)} {wd:Nat} {cut:Int} {r:List Gt}
theorem agw (L:LineOk rows wd cut true r) {g:Gt} (hg:g∈r):zz rows wd (ahC rows cut g).1 (ahC rows cut g).2=true/\zz rows wd (bhC rows cut g).1 (bhC rows cut g).2=true:=by
 have o:=L.op g hg
 constructor
 ·have hn:∃ n,zH rows wd cut g=some n:=by
   obtain⟨i,hi⟩:=amK hg
   obtain⟨hlt,_⟩:=ami.mp hi
   by_cases hl:i+1<r.length
   ·exact⟨_,L.ch i _ _ hi (amf hl)⟩
   ·have e:i=r.length - 1:=by omega
    have hz:r.getLast?=some g:=by rw [anm,<- e];exact hi
    have:=L.last g hz
    rw [if_pos rfl] at this
    cases hh:r.head? with
    | none=>exact absurd (List.head?_eq_none_iff.mp hh) L.ne
    | some h=>exact⟨h,this.trans hh⟩
  obtain⟨n,hn⟩:=hn
  unfold zH at hn
  by_cases z:zz rows wd (ahC rows cut g).1 (ahC rows cut g).2=true
  ·exact z
  ·rw [if_neg z] at hn;cases hn
 ·have hp:∃ p,opG rows wd cut p=true/\zH rows wd cut p=some g:=by
   obtain⟨i,hi⟩:=amK hg
   obtain⟨hlt,_⟩:=ami.mp hi
   match i,hi with
   | 0,hi =>
    obtain⟨z,hz,hzm⟩:=vo (t:=(true,r)) L.ne
    have:=L.last z hz
    rw [if_pos rfl,am3] at this
    exact⟨z,L.op z hzm,this.trans hi⟩
   | i+1,hi =>
    have hi':r[i]?=some r[i]:=amf (by omega)
    exact⟨_,L.op _ (amw hi'),L.ch i _ _ hi' hi⟩
  obtain⟨p,op,hp⟩:=hp
  have hq:=next_prev op hp
  unfold yb at hq
  by_cases z:zz rows wd (bhC rows cut g).1 (bhC rows cut g).2=true
  ·exact z
  ·rw [if_neg z] at hq;cases hq
end
section
variable {rows:List (List Int)} {wd:Nat} {cut:Int}
theorem adz {q:Bool} {l m:List Gt} (L:LineOk rows wd cut q l) (M:LineOk rows wd cut q m) (hh:l.head?=m.head?):∀ i,i<l.length->i<m.length/\l[i]?=m[i]?:=by
 intro i
 induction i with
 | zero =>
  intro hi
  rw [am3,am3] at hh
  refine⟨?_,hh⟩
  rw [amf hi] at hh
  exact (ami.mp hh.symm).1
 | succ i ih =>
  intro hi
  obtain⟨h1,h2⟩:=ih (by omega)
  have a1:l[i]?=some l[i]:=amf (by omega)
  have a2:l[i+1]?=some l[i+1]:=amf hi
  have hn:=L.ch i _ _ a1 a2
  rw [a1] at h2
  by_cases hm:i+1<m.length
  ·have b2:m[i+1]?=some m[i+1]:=amf hm
   have hn':=M.ch i _ _ h2.symm b2
   rw [hn] at hn'
   exact⟨hm,by rw [a2,b2,hn']⟩
  ·have hz:m.getLast?=some l[i]:=by rw [anm,show m.length - 1=i by omega];exact h2.symm
   have hl:=M.last _ hz
   rw [hn] at hl
   cases q with
   | false=>cases hl
   | true =>
    rw [if_pos rfl,<- hh,am3,<- a2] at hl
    have:=(List.getElem?_inj hi L.nd).mp hl
    omega
theorem ah7 {q:Bool} {l m:List Gt} (L:LineOk rows wd cut q l) (M:LineOk rows wd cut q m) (hh:l.head?=m.head?):l=m:=by
 refine aog fun i=>?_
 by_cases h:i<l.length
 ·exact (adz L M hh i h).2
 ·by_cases h2:i<m.length
  ·exact ((adz M L hh.symm i h2).2).symm
  ·rw [amL (by omega),amL (by omega)]
theorem abT {q:Bool} {l:List Gt} (L:LineOk rows wd cut q l) {t:Bool×List Gt} (T:LineOk rows wd cut t.1 t.2) (st:aaJ rows wd cut t) {h:Gt} (hl:h∈l) (ht:h∈t.2):∀ g∈l,g∈t.2:=by
 obtain⟨j,hj⟩:=amK hl
 obtain⟨hlt,_⟩:=ami.mp hj
 have up:∀ n i,i=j+n->∀ g,l[i]?=some g->g∈t.2:=fun n=>by
  induction n with
  | zero =>
   intro i hi g hg
   rw [hi,Nat.add_zero,hj] at hg
   cases hg
   exact ht
  | succ n ih =>
   intro i hi g hg
   obtain⟨hl2,_⟩:=ami.mp hg
   have a1:l[j+n]?=some l[j+n]:=amf (by omega)
   rw [show i=j+n+1 by omega] at hg
   exact vW T (ih _ rfl _ a1) (L.ch _ _ _ a1 hg)
 have dn:∀ n i,i+n=j->∀ g,l[i]?=some g->g∈t.2:=fun n=>by
  induction n with
  | zero =>
   intro i hi g hg
   rw [show i=j by omega,hj] at hg
   cases hg
   exact ht
  | succ n ih =>
   intro i hi g hg
   have a1:l[i+1]?=some l[i+1]:=amf (by omega)
   exact vV T st (L.op g (amw hg)) (ih (i+1) (by omega) _ a1) (L.ch i _ _ hg a1)
 intro g hg
 obtain⟨i,hi⟩:=amK hg
 by_cases h':j<=i
 ·exact up (i - j) i (by omega) g hi
 ·exact dn (j - i) i (by omega) g hi
theorem adA {a b:Gt} (h:gLt a b) (h':gLt b a):False:=by
 unfold gLt at h h'
 omega
theorem adB {ts us:List (Bool×List Gt)} (T:Told rows wd cut ts) (U:Told rows wd cut us) (all:∀ g,opG rows wd cut g=true->g∈flat us) {t:Bool×List Gt} (ht:t∈ts):t∈us:=by
 have L:=T.line t ht
 obtain⟨h,hh⟩:∃ h,t.2.head?=some h:=by
  cases q:t.2 with
  | nil=>exact absurd q L.ne
  | cons x l=>exact⟨x,rfl⟩
 have hm:=aoj hh
 obtain⟨u,hu,hmu⟩:=am2.mp (all h (L.op h hm))
 have M:=U.line u hu
 have s1:=abT L M (U.st u hu) hm hmu
 have s2:=abT M L (T.st t ht) hmu hm
 obtain⟨k,hk⟩:∃ k,u.2.head?=some k:=by
  cases q:u.2 with
  | nil=>exact absurd q M.ne
  | cons x l=>exact⟨x,rfl⟩
 have hkm:=aoj hk
 have noPrev:∀ {r:List Gt} {g:Gt},LineOk rows wd cut true r->g∈r->yb rows wd cut g≠none:=fun R hg z=>by
  obtain⟨n,hn,_⟩:=aab (R.op _ hg) (agw R hg).2
  rw [z] at hn
  cases hn
 have kind:t.1=u.1:=by
  cases h1:t.1 with
  | true =>
   cases h2:u.1 with
   | true=>rfl
   | false =>
    rw [h1] at L
    exact absurd (U.st u hu h2 k hk) (noPrev L (s2 k hkm))
  | false =>
   cases h2:u.1 with
   | false=>rfl
   | true =>
    rw [h2] at M
    exact absurd (T.st t ht h1 h hh) (noPrev M hmu)
 have hd:h=k:=by
  cases h1:t.1 with
  | true =>
   rcases T.least t ht h1 h hh k (s2 k hkm) with e | e
   ·exact e.symm
   ·rcases U.least u hu (kind▸h1) k hk h hmu with e' | e'
    ·exact e'
    ·exact (adA e e').elim
  | false =>
   have hp:=T.st t ht h1 h hh
   obtain⟨i,hi⟩:=amK hmu
   match i,hi with
   | 0,hi =>
    rw [am3,hi] at hk
    exact Option.some.inj hk
   | i+1,hi =>
    obtain⟨hlt,_⟩:=ami.mp hi
    have a1:u.2[i]?=some u.2[i]:=amf (by omega)
    have:=next_prev (M.op _ (amw a1)) (M.ch i _ _ a1 hi)
    rw [hp] at this
    cases this
 have e2:t.2=u.2:=by
  rw [<-kind] at M
  exact ah7 L M (by rw [hh,hk,hd])
 have:t=u:=Prod.ext kind e2
 rw [this]
 exact hu
theorem agx {t u:Bool×List Gt} (h:zD t=zD u):t=u:=by
 unfold zD at h
 injection h with h
 injection h with h1 h2
 injection h2 with h2 _
 injection h2 with h2
 refine Prod.ext ?_ ?_
 ·have ne:PyData.str "ring"≠PyData.str "run":=fun z=>by
   have:=aoN (PyData.str "ring") (by decide +kernel)
   rw [show amI (.str "ring") (.str "ring")=amI (.str "ring") (.str "run") by rw [<-z]] at this
   exact absurd this (by decide +kernel)
  cases h3:t.1 <;> cases h4:u.1
  ·rfl
  ·rw [h3,h4] at h1;exact absurd h1.symm ne
  ·rw [h3,h4] at h1;exact absurd h1 ne
  ·rfl
 ·exact List.map_inj_right (fun _ _=>ady) |>.mp h2
theorem aaN:∀ {l m:List PyData},(∀ d∈l,zq d=true)->(l.Pairwise fun d e=>ltD d e=true)->(m.Pairwise fun d e=>ltD d e=true)->(∀ d,d∈l↔d∈m)->l=m
 | [],[],_,_,_,_=>rfl
 | [],b :: m,_,_,_,h=>nomatch (h b).mpr (amm ..)
 | a :: l,[],_,_,_,h=>nomatch (h a).mp (amm ..)
 | a :: l,b :: m,pl,p,q,h=>by
  obtain⟨p1,p2⟩:=aoB.mp p
  obtain⟨q1,q2⟩:=aoB.mp q
  have pa:=pl a (amm ..)
  have pb:=pl b ((h b).mpr (amm ..))
  have ab:a=b:=by
   rcases amu.mp ((h a).mp (amm ..)) with e | e
   ·exact e
   ·rcases amu.mp ((h b).mpr (amm ..)) with e' | e'
    ·exact e'.symm
    ·have:=abJ _ _ _ pa pb pa (p1 b e') (q1 a e)
     rw [vF a pa] at this
     cases this
  subst ab
  rw [aaN (fun d hd=>pl d (amo _ hd)) p2 q2 fun d=>?_]
  constructor
  ·intro hd
   rcases amu.mp ((h d).mp (amo _ hd)) with e | e
   ·have:=p1 d hd
    rw [e,vF a pa] at this
    cases this
   ·exact e
  ·intro hd
   rcases amu.mp ((h d).mpr (amo _ hd)) with e | e
   ·have:=q1 d hd
    rw [e,vF a pa] at this
    cases this
   ·exact e
theorem aaO {ts us:List (Bool×List Gt)} (T:Told rows wd cut ts) (U:Told rows wd cut us) (aT:∀ g,opG rows wd cut g=true->g∈flat ts) (aU:∀ g,opG rows wd cut g=true->g∈flat us)
  (pT:(ts.map zD).Pairwise fun d e=>ltD d e=true) (pU:(us.map zD).Pairwise fun d e=>ltD d e=true):ts=us:=by
 have e:ts.map zD=us.map zD:=aaN (fun d hd=>by obtain⟨t,_,rfl⟩:=amz.mp hd;exact aaK t) pT pU fun d=>by
  constructor
  ·intro hd
   obtain⟨t,ht,rfl⟩:=amz.mp hd
   exact amz.mpr ⟨t,adB T U aU ht,rfl⟩
  ·intro hd
   obtain⟨t,ht,rfl⟩:=amz.mp hd
   exact amz.mpr ⟨t,adB U T aT ht,rfl⟩
 exact (List.map_inj_right fun _ _=>agx).mp e
end
abbrev scr (ns:List Int):PyData:=.list (ns.map .int)
theorem afy {K:amk} {H:Hp} {a:Addr} {ns:List Int} (h:SqL K H a (ns.map V.int)):Rep K (hide H L2.f0) (scr ns) (.ref a):=by
 rw [yv]
 exact rep_list.mpr ⟨a,_,rfl,h,Reps.ints' ns⟩
theorem ajz {K:amk} {H:Hp} {v:V} {ns:List Int} (h:Rep K (hide H L2.f0) (scr ns) v):∃ a,v=.ref a/\SqL K H a (ns.map V.int):=by
 rw [yv] at h
 obtain⟨a,xs,rfl,h1,h2⟩:=rep_list.mp h
 rw [h2.ints] at h1
 exact⟨a,rfl,h1⟩
def ael (K:amk):Sp:=fun vs H Q _=>∃ (a:Addr) (ns:List Int) (i:Int),vs=[.ref a,.int i]/\SqL K H a (ns.map V.int)/\ns.length<=63/\0<=i/\i<=63 /\
 ∀ (p:Addr) (x y:Int) (H':Hp),Same H H'->H p=none->H' p=some (.lst [.int x,.int y])->0<=x->0<=y->y<2147483647->Q (.ref p) H'
def afz (K:amk):Sp:=fun vs H Q _=>∃ (a:Addr) (ns:List Int),vs=[.ref a]/\SqL K H a (ns.map V.int)/\ns.length<=63/\∀ H',Q (.bl true) H'
theorem ajA {K:amk} {f:Fx} {t:TA} {ρ:zp} {R R':List DV->Prop} (h:PAd K f t ρ R) (i:∀ xs,R xs->R' xs):PAd K f t ρ R':=fun σ H Q e q=>h σ H Q e fun xs vs H' g r p=>q xs vs H' g r (i xs p)
theorem aln {K:amk} {ρ:zp} {ns:List Int} {i:Int} {E2:XK} (h0:ρ[0]?=some (some (.dat (scr ns)))) (h1:ρ[1]?=some (some (.dat (.int i)))) (hl:ns.length<=63) (i0:0<=i) (i1:i<=63) :
  ∀ (σ:L2.St) (H:Hp) (Q:VK),EnvOk K L2.f0 ρ σ H->(∀ (p:Addr) (x y:Int) (H':Hp),Same H H'->H p=none->H' p=some (.lst [.int x,.int y])->0<=x->0<=y->y<2147483647->Q (.ref p) H')->acu (ael K) [] E2 (yQ (yH 0) (yQ (yH 1) qJ)) σ H Q:=by
 intro σ H Q e q
 obtain⟨v0,hv0,r0⟩:=e.get 0 _ h0
 obtain⟨v1,hv1,r1⟩:=e.get 1 _ h1
 obtain⟨a,rfl,hS⟩:=ajz r0
 have e1:v1=.int i:=rep_int.mp (show Rep K (hide H L2.f0) (.int i) v1 from r1)
 subst e1
 exact⟨_,hv0,_,hv1,a,ns,i,rfl,hS,hl,i0,i1,q⟩
theorem ajB (F:Def K mg "_law_feed" jL pL) (uaa:mg "len"=none) (uaG:mg "abs"=none):FnIn P w K mg base (k+1) "_law_feed" pL (ael K):=by
 refine F.raw sc_law_feed (fun vs H Q E h=>?_) fun fa cdv A outer s H vs Q E hr hs=>⟨_,(zc (zM (i:=2) sc_law_feed.nd rfl (Or.inl rfl) zd) (zc (yy (z3 agH (zw (zQ (K:=K) rfl) rfl uaa am1 (za (pv 0) zb)) zd (z8 _)) (zk (zM (i:=2) sc_law_feed.nd rfl (Or.inl rfl) (zX (zC (K:=K) rfl) (pv 0) (zu vt (pv 1) (zw (zQ (K:=K) rfl) rfl uaa am1 (za (pv 0) zb))) (fun _ _=>rfl)))) zV) (zk (zr (yz (za (zw (agK) rfl uaG PyProof.Rows.boot_abs (za (pv 2) zb)) (za (zu zW (zu aah zd (pv 1)) zd) zb))))))),?_⟩
 ·obtain⟨a,ns,i,rfl,_⟩:=h
  rfl
 obtain⟨a,ns,i,rfl,hS,h63,i0,i1,q⟩:=hs
 have e0:EnvOk K L2.f0 (j7 qQ [.dat (scr ns),.dat (.int i)]) (start qQ [.ref a,.int i]) H:=qq (.cons (afy hS) (.cons (show RepV K L2.f0 H (.dat (.int i)) (.int i) from (rep_int (K:=K) (H:=hide H L2.f0)).mpr rfl) .nil)) (L2.fok0 H)
 refine ag2 (D:={ nx:=fun ρ=>ρ=[some (.dat (scr ns)),some (.dat (.int i)),some (.dat (.int 0))],rt:=fun _=>False }) ?_ e0 ?_ (fun _ _ _ _ _ z=>z.elim) (fun _ z=>z) (fun _ z=>z)
 ·walk_at "w"
  rfl
 rintro _ σ1 H1 g1 e1 rfl
 refine ag2 (D:={ nx:=fun ρ=>∃ c:Int,ρ=[some (.dat (scr ns)),some (.dat (.int i)),some (.dat (.int c))],rt:=fun _=>False }) ?_ e1 ?_ (fun _ _ _ _ _ z=>z.elim) (fun _ z=>z) (fun _ z=>z)
 ·walk_at "w"
  rw [amg]
  by_cases h:0<ns.length
  ·rw [if_pos (by simpa using h)]
   walk_at "w"
   rw [amg]
   have z0:=ao1 i (b:=(ns.length:Int)) (by omega)
   have z1:=anH i (b:=(ns.length:Int)) (by omega)
   refine⟨by omega,_,rfl,_,yP (j:=(i % (ns.length:Int)).toNat) (by omega) (by omega),?_⟩
   walk_at "w"
   exact⟨_,rfl⟩
  ·rw [if_neg (by simpa using h)]
   walk_at "w"
   exact⟨_,rfl⟩
 rintro _ σ2 H2 g2 e2 ⟨c,rfl⟩
 unfold afH
 have ss:Same H H2:=(L2.same0 g1).trans (L2.same0 g2)
 refine ag3 (R:=fun ds=>∃ x y:Int,ds=[.int x,.int y]/\0<=x/\0<=y/\y<2147483647) ?_ e2 ?_
 ·walk_at "w"
  omega
 ·rintro p ds vs H3 g3 hn rs ⟨x,y,rfl,hx,hy,hy'⟩
  have sf:Same H H3:=ss.trans (L2.same0 g3)
  have ev:vs=[.int x,.int y]:=Reps.ints (ns:=[x,y]) rs
  subst ev
  exact q p x y _ (sf.trans (ya hn _)) (sf.free hn) zA hx hy hy'
structure Sym (A:List (List Int)) (wa:Nat) (ca:Int) (B:List (List Int)) (wb:Nat) (cb:Int) (τ:Gt->Gt) (N:Gt->Option Gt):Prop where
 op:∀ g,opG A wa ca g=true->opG B wb cb (τ g)=true
 inj:∀ g h,opG A wa ca g=true->opG A wa ca h=true->τ g=τ h->g=h
 sur:∀ h,opG B wb cb h=true->∃ g,opG A wa ca g=true/\τ g=h
 nx:∀ g,opG A wa ca g=true->zH B wb cb (τ g)=(N g).map τ
 opN:∀ g n,opG A wa ca g=true->N g=some n->opG A wa ca n=true
structure Ch (O:Gt->Prop) (N:Gt->Option Gt) (q:Bool) (l:List Gt):Prop where
 op:∀ g∈l,O g
 nd:l.Nodup
 ne:l≠[]
 ch:∀ (i:Nat) a b,l[i]?=some a->l[i+1]?=some b->N a=some b
 last:∀ g,l.getLast?=some g->N g=if q=true then l.head? else none
 first:q=false->∀ h,l.head?=some h->∀ g,O g->N g≠some h
instance gLtDec (a b:Gt):Decidable (gLt a b):=by unfold gLt;infer_instance
def aem (l:List Gt) (i:Nat):List Gt:=l.drop i++l.take i
def jP (l:List Gt):Nat:=l.findIdx fun g=>l.all fun h=>decide (h=g \/ gLt g h)
def qh (q:Bool) (l:List Gt):List Gt:=if q=true then aem l (jP l) else l
theorem ah8 (l:List Gt) (i:Nat):(aem l i).Perm l:=by
 unfold aem
 exact aoR.trans (by rw [aof])
theorem adC (q:Bool) (l:List Gt):(qh q l).Perm l:=by
 unfold qh
 cases q
 ·exact .refl _
 ·exact ah8 _ _
theorem adD:∀ l:List Gt,l≠[]->∃ g∈l,∀ h∈l,h=g \/ gLt g h
 | [],z=>absurd rfl z
 | [a],_=>⟨a,amm,fun h hh=>.inl (amM.mp hh)⟩
 | a :: b :: l,_=>by
  obtain⟨g,hg,hl⟩:=adD (b :: l) (List.cons_ne_nil _ _)
  by_cases z:a=g \/ gLt g a
  ·refine⟨g,amo _ hg,fun h hh=>?_⟩
   rcases amu.mp hh with rfl | hh
   ·exact z
   ·exact hl h hh
  ·refine⟨a,amm,fun h hh=>?_⟩
   have lt:gLt a g:=by
    obtain⟨x,y,w⟩:=a
    obtain⟨x',y',w'⟩:=g
    unfold gLt at z ⊢
    simp only [Prod.mk.injEq,not_or] at z
    dsimp only at z ⊢
    omega
   rcases amu.mp hh with rfl | hh
   ·exact .inl rfl
   ·refine .inr ?_
    rcases hl h hh with rfl | e
    ·exact lt
    ·unfold gLt at lt e ⊢
     omega
theorem vM {l:List Gt} (ne:l≠[]):∃ h:jP l<l.length,∀ g∈l,g=l[jP l] \/ gLt l[jP l] g:=by
 obtain⟨g,hg,hl⟩:=adD l ne
 have lt:jP l<l.length:=List.findIdx_lt_length_of_exists ⟨g,hg,anD.mpr fun h hh=>decide_eq_true (hl h hh)⟩
 have hp:=List.findIdx_getElem (w:=lt)
 exact⟨lt,fun h hh=>of_decide_eq_true (anD.mp hp h hh)⟩
section
variable {rows:List (List Int)} {wd:Nat} {cut:Int}
theorem ajC {a:Gt} {l:List Gt} (L:LineOk rows wd cut true (a :: l)):LineOk rows wd cut true (l++[a]) where
 op:=fun g hg=>L.op g ((aoR (l₁:=[a]) (l₂:=l)).mem_iff.mpr hg)
 nd:=(aoR (l₁:=[a]) (l₂:=l)).nodup_iff.mp L.nd
 ne:=by simp
 ch:=fun i x y hx hy=>by
  by_cases h:i+1<l.length
  ·rw [amr (by omega)] at hx
   rw [amr h] at hy
   exact L.ch (i+1) x y hx hy
  ·obtain⟨hlt,_⟩:=ami.mp hy
   rw [amD,amY] at hlt
   have e:i+1=l.length:=by omega
   rw [amr (by omega)] at hx
   rw [amx (by omega),show i+1 - l.length=0 by omega] at hy
   cases hy
   have:=L.last x (by rw [anm,amB,show l.length+1 - 1=i+1 by omega];exact hx)
   rw [this]
   rfl
 last:=fun g hg=>by
  rw [List.getLast?_append] at hg
  cases hg
  rw [if_pos rfl]
  cases l with
  | nil =>
   exact L.last a rfl
  | cons b l=>exact L.ch 0 a b rfl rfl
theorem ah9 {l:List Gt} (L:LineOk rows wd cut true l):∀ i,i<=l.length->LineOk rows wd cut true (aem l i):=by
 intro i
 induction i with
 | zero =>
  intro _
  unfold aem
  rw [List.drop_zero,apO,anj]
  exact L
 | succ i ih =>
  intro hi
  have L1:=ih (by omega)
  have hl:i<l.length:=by omega
  unfold aem at L1 ⊢
  rw [aoq hl,List.cons_append] at L1
  have:=ajC L1
  rw [aoi] at this
  rw [List.take_succ_eq_append_getElem hl]
  exact this
theorem aia {q:Bool} {l:List Gt} (L:LineOk rows wd cut q l):LineOk rows wd cut q (qh q l):=by
 cases q
 ·exact L
 ·obtain⟨lt,_⟩:=vM L.ne
  exact ah9 L _ (anb lt)
theorem agy {l:List Gt} (ne:l≠[]) {h:Gt} (hh:(qh true l).head?=some h):∀ g∈qh true l,g=h \/ gLt h g:=by
 obtain⟨lt,hl⟩:=vM ne
 have e:h=l[jP l]:=by
  unfold qh aem at hh
  rw [if_pos rfl,aoq lt] at hh
  exact (Option.some.inj hh).symm
 intro g hg
 rw [e]
 exact hl g ((adC true l).mem_iff.mp hg)
end
section
variable {A:List (List Int)} {wa:Nat} {ca:Int} {B:List (List Int)} {wb:Nat} {cb:Int} {τ:Gt->Gt} {N:Gt->Option Gt}
theorem aib {l:List Gt} (S:Sym A wa ca B wb cb τ N) (o:∀ g∈l,opG A wa ca g=true) (nd:l.Nodup):(l.map τ).Nodup :=
 ant.mpr (nd.imp_of_mem fun {a b} ha hb ne e=>ne (S.inj a b (o a ha) (o b hb) e))
theorem afA (S:Sym A wa ca B wb cb τ N) {q:Bool} {l:List Gt} (C:Ch (fun g=>opG A wa ca g=true) N q l):LineOk B wb cb q (l.map τ) where
 op:=fun g hg=>by
  obtain⟨g',h,rfl⟩:=amz.mp hg
  exact S.op _ (C.op _ h)
 nd:=aib S C.op C.nd
 ne:=fun z=>C.ne (anT.mp z)
 ch:=fun i a b ha hb=>by
  rw [aml] at ha hb
  cases h1:l[i]? with
  | none=>rw [h1] at ha;cases ha
  | some x =>
   cases h2:l[i+1]? with
   | none=>rw [h2] at hb;cases hb
   | some y =>
    rw [h1] at ha
    rw [h2] at hb
    cases ha
    cases hb
    rw [S.nx x (C.op x (amw h1)),C.ch i x y h1 h2]
    rfl
 last:=fun g hg=>by
  rw [List.getLast?_map] at hg
  cases h1:l.getLast? with
  | none=>rw [h1] at hg;cases hg
  | some x =>
   rw [h1] at hg
   cases hg
   rw [S.nx x (C.op x (aoZ h1)),C.last x h1,List.head?_map]
   cases q <;> rfl
theorem adE (S:Sym A wa ca B wb cb τ N) {q:Bool} {l:List Gt} (C:Ch (fun g=>opG A wa ca g=true) N q l):aaJ B wb cb (q,l.map τ):=by
 intro hq h' hh'
 dsimp only at hq hh'
 rw [List.head?_map] at hh'
 cases h1:l.head? with
 | none=>rw [h1] at hh';cases hh'
 | some h =>
  rw [h1] at hh'
  cases hh'
  have oh:=C.op h (aoj h1)
  cases hp:yb B wb cb (τ h) with
  | none=>rfl
  | some p =>
   obtain⟨op,hn⟩:=prev_next (S.op h oh) hp
   obtain⟨g,og,rfl⟩:=S.sur p op
   rw [S.nx g og] at hn
   cases hg:N g with
   | none=>rw [hg] at hn;cases hn
   | some n =>
    rw [hg] at hn
    have e:=S.inj n h (S.opN g n og hg) oh (Option.some.inj hn)
    rw [e] at hg
    exact absurd hg (C.first hq h h1 g og)
theorem adF (F:Bool×List Gt->List Gt):∀ ts:List (Bool×List Gt),(∀ t∈ts,(F t).Perm (t.2.map τ))->(flat (ts.map fun t=>(t.1,F t))).Perm ((flat ts).map τ)
 | [],_=>.refl _
 | t :: ts,h=>by
  show (F t++flat (ts.map fun t=>(t.1,F t))).Perm ((t.2++flat ts).map τ)
  rw [amS]
  exact (h t amm).append (adF F ts fun u hu=>h u (amo _ hu))
theorem afB (S:Sym A wa ca B wb cb τ N) {ts:List (Bool×List Gt)} (T:Told A wa ca ts) (all:∀ g,opG A wa ca g=true->g∈flat ts) (d:List Gt->List Gt) (hd:∀ l,(d l).Perm l) (C:∀ t∈ts,Ch (fun g=>opG A wa ca g=true) N t.1 (d t.2)) :
  Told B wb cb (ts.map fun t=>(t.1,qh t.1 ((d t.2).map τ)))/\∀ g,opG B wb cb g=true->g∈flat (ts.map fun t=>(t.1,qh t.1 ((d t.2).map τ))):=by
 have pm:=adF (τ:=τ) (fun t=>qh t.1 ((d t.2).map τ)) ts fun t _=>(adC _ _).trans ((hd t.2).map τ)
 have of:∀ g∈flat ts,opG A wa ca g=true:=fun g hg=>T.op hg
 refine⟨⟨fun t ht=>?_,fun t ht=>?_,pm.nodup_iff.mpr (aib S of T.nd),fun t ht=>?_⟩,fun g hg=>?_⟩
 ·obtain⟨u,hu,rfl⟩:=amz.mp ht
  exact aia (afA S (C u hu))
 ·obtain⟨u,hu,rfl⟩:=amz.mp ht
  have:=adE S (C u hu)
  intro hq
  dsimp only at hq ⊢
  unfold qh
  rw [hq,if_neg amh]
  exact this hq
 ·obtain⟨u,hu,rfl⟩:=amz.mp ht
  intro hq h hh
  dsimp only at hq hh ⊢
  rw [hq] at hh ⊢
  exact agy (fun z=>(C u hu).ne (anT.mp z)) hh
 ·obtain⟨g',og,rfl⟩:=S.sur g hg
  exact pm.mem_iff.mpr (amz.mpr ⟨g',all g' og,rfl⟩)
theorem ach {ts:List (Bool×List Gt)} (T:Told A wa ca ts) {t:Bool×List Gt} (ht:t∈ts):Ch (fun g=>opG A wa ca g=true) (zH A wa ca) t.1 t.2 where
 op:=(T.line t ht).op
 nd:=(T.line t ht).nd
 ne:=(T.line t ht).ne
 ch:=(T.line t ht).ch
 last:=(T.line t ht).last
 first:=fun hq h hh g og z=>by
  have:=T.st t ht hq h hh
  rw [next_prev og z] at this
  cases this
theorem ajD {ts:List (Bool×List Gt)} (T:Told A wa ca ts) {t:Bool×List Gt} (ht:t∈ts):Ch (fun g=>opG A wa ca g=true) (yb A wa ca) t.1 t.2.reverse where
 op:=fun g hg=>(T.line t ht).op g (anE.mp hg)
 nd:=(List.reverse_perm _).nodup_iff.mpr (T.line t ht).nd
 ne:=fun z=>(T.line t ht).ne (apy.mp z)
 ch:=fun i a b ha hb=>by
  obtain⟨h1,_⟩:=ami.mp hb
  rw [amZ] at h1
  rw [anJ (by omega)] at ha hb
  have L:=T.line t ht
  refine next_prev (L.op _ (amw hb)) (L.ch (t.2.length - 1 - (i+1)) b a hb ?_)
  rw [show t.2.length - 1 - (i+1)+1=t.2.length - 1 - i by omega]
  exact ha
 last:=fun g hg=>by
  rw [List.getLast?_reverse] at hg
  rw [List.head?_reverse]
  have L:=T.line t ht
  cases hq:t.1 with
  | false=>exact T.st t ht hq g hg
  | true =>
   rw [if_pos rfl]
   obtain⟨z,hz,hm⟩:=vo L.ne
   rw [hz]
   refine next_prev (L.op z hm) ?_
   rw [L.last z hz,hq,if_pos rfl,hg]
 first:=fun hq h hh g og z=>by
  rw [List.head?_reverse] at hh
  have L:=T.line t ht
  have:=L.last h hh
  rw [hq,if_neg amh,(prev_next og z).2] at this
  cases this
end
def z7 (wd:Nat) (rows:List (List Int)):List (List Int):=(amC wd).map fun (y:Nat)=>(amC rows.length).map fun (x:Nat)=>zK rows y (rows.length - 1 - x:Nat)
def yM (rows:List (List Int)):List (List Int):=rows.map List.reverse
def yU (by_:Int) (rows:List (List Int)):List (List Int):=rows.map fun r=>r.map (·+by_)
theorem aj7 {A:List (List Int)} {ca x y:Int} {B:List (List Int)} {cb x' y':Int} {τ:Gt->Gt} {σ:Fin 4->Fin 4} {b b':Bool} (hb:b'=b) (ht:b=true->∀ i,prt (t4 B cb x' y') (σ i)=(prt (t4 A ca x y) i).map σ) (hg:∀ i,τ (gt x y i)=gt x' y' (σ i)) (i:Fin 4) :
  (if b'=true then prt (y9 B cb x' y') (τ (gt x y i)) else none)=(if b=true then prt (y9 A ca x y) (gt x y i) else none).map τ:=by
 subst hb
 cases b'
 ·rfl
 ·rw [if_pos rfl,if_pos rfl,hg]
  unfold y9
  rw [aaa (f:=gt x' y') (fun _ _=>vJ),aaa (f:=gt x y) (fun _ _=>vJ),ht rfl,Option.map_map,Option.map_map]
  congr 1
  funext j
  exact (hg j).symm
def σT:Fin 4->Fin 4
 | 0=>3
 | 1=>0
 | 2=>1
 | 3=>2
def σM:Fin 4->Fin 4
 | 0=>0
 | 1=>3
 | 2=>2
 | 3=>1
theorem amd:∀ (A B C D M:Bool) (i:Fin 4),prt (qe D A B C M) (σT i)=(prt (qe A B C D M) i).map σT:=by decide
theorem ame:∀ (A B C D M:Bool) (i:Fin 4),prt (qe B A D C M) (σM i)=(prt (qe A B C D M) i).map σM:=by decide
theorem jQ {rows:List (List Int)} {wd:Nat} {cut x y w:Int}:opG rows wd cut (x,y,w)=(decide (w=0 \/ w=1) && (zx rows wd x y && zx rows wd (px x w) (py y w)) && (hiB rows cut x y != hiB rows cut (px x w) (py y w))):=rfl
theorem aic {rows:List (List Int)} {wd:Nat} {cut x y w:Int} (o:opG rows wd cut (x,y,w)=true):(w=0 \/ w=1)/\zx rows wd x y=true/\zx rows wd (px x w) (py y w)=true/\hiB rows cut (px x w) (py y w)=!hiB rows cut x y:=by
 rw [jQ,ams,ams,ams] at o
 refine⟨of_decide_eq_true o.1.1,o.1.2.1,o.1.2.2,?_⟩
 have:=o.2
 revert this
 cases hiB rows cut x y <;> cases hiB rows cut (px x w) (py y w) <;> decide
theorem jz {rows:List (List Int)} {x y:Int} {r:List Int} {n:Int} (hr:rows[y.toNat]?=some r) (hn:r[x.toNat]?=some n):zK rows x y=n:=by
 unfold zK
 rw [show rows.getD y.toNat []=r by rw [amj,hr];rfl,amj,hn]
 rfl
def tT (h:Nat) (g:Gt):Gt:=if g.2.2=0 then ((h:Int) - 1 - g.2.1,g.1,1) else ((h:Int) - 2 - g.2.1,g.1,0)
section
variable {rows:List (List Int)} {wd:Nat} {cut:Int}
theorem aaP:(z7 wd rows).length=wd:=by unfold z7;rw [amg,amX]
theorem abq (g:Good wd rows):Good rows.length (z7 wd rows):=by
 have hl:∀ r∈z7 wd rows,∃ y:Nat,y<wd/\r=(amC rows.length).map fun (x:Nat)=>zK rows y (rows.length - 1 - x:Nat):=fun r hr=>by
  obtain⟨y,hy,rfl⟩:=amz.mp hr
  exact⟨y,amN.mp hy,rfl⟩
 refine⟨by rw [aaP];exact g.w1,by rw [aaP];exact g.w2,g.h1,g.h2,fun r hr=>?_,fun r hr n hn=>?_⟩
 ·obtain⟨y,hy,rfl⟩:=hl r hr
  rw [amg,amX]
 ·obtain⟨y,hy,rfl⟩:=hl r hr
  obtain⟨x,hx,rfl⟩:=amz.mp hn
  have hx:=amN.mp hx
  have hi:rows.length - 1 - x<rows.length:=by omega
  have hm:=amE hi
  have hy':y<rows[rows.length - 1 - x].length:=by rw [g.row _ hm];exact hy
  have e:zK rows y (rows.length - 1 - x:Nat)=rows[rows.length - 1 - x][y]:=jz (by rw [anr];exact amf hi) (by rw [anr];exact amf hy')
  rw [e]
  exact g.hgt _ hm _ (amE hy')
theorem qi {x y:Int}:zx (z7 wd rows) rows.length ((rows.length:Int) - 1 - y) x=zx rows wd x y:=by
 unfold zx
 rw [aaP,Bool.and_comm]
 congr 1
 exact decide_eq_decide.mpr (by omega)
theorem jA {x y:Int} (h:zx rows wd x y=true):zK (z7 wd rows) ((rows.length:Int) - 1 - y) x=zK rows x y:=by
 obtain⟨x0,x1,y0,y1⟩:=jN h
 have e:zK rows x y=zK rows (x.toNat:Nat) (rows.length - 1 - ((rows.length:Int) - 1 - y).toNat:Nat):=by
  congr 1 <;> omega
 rw [e]
 refine jz (r:=(amC rows.length).map fun (z:Nat)=>zK rows x.toNat (rows.length - 1 - z:Nat)) ?_ ?_
 ·unfold z7
  rw [aml,ani (by omega)]
  rfl
 ·rw [aml,ani (by omega)]
  rfl
theorem qy {x y:Int} (h:zx rows wd x y=true):hiB (z7 wd rows) cut ((rows.length:Int) - 1 - y) x=hiB rows cut x y:=by
 unfold hiB
 rw [jA h]
theorem aci {g:Gt} (hw:g.2.2=0 \/ g.2.2=1):opG (z7 wd rows) rows.length cut (tT rows.length g)=opG rows wd cut g:=by
 obtain⟨x,y,w⟩:=g
 dsimp only at hw
 unfold tT
 have a:=qi (rows:=rows) (wd:=wd) (x:=x) (y:=y)
 rcases hw with rfl | rfl
 ·rw [if_pos rfl,jQ,jQ]
  have b:=qi (rows:=rows) (wd:=wd) (x:=x+1) (y:=y)
  show (decide ((1:Int)=0 \/ (1:Int)=1) && (zx (z7 wd rows) rows.length ((rows.length:Int) - 1 - y) x && zx (z7 wd rows) rows.length ((rows.length:Int) - 1 - y) (x+1)) && (hiB (z7 wd rows) cut ((rows.length:Int) - 1 - y) x != hiB (z7 wd rows) cut ((rows.length:Int) - 1 - y) (x+1)))=(decide ((0:Int)=0 \/ (0:Int)=1) && (zx rows wd x y && zx rows wd (x+1) y) && (hiB rows cut x y != hiB rows cut (x+1) y))
  rw [a,b]
  cases h1:zx rows wd x y
  ·simp
  ·cases h2:zx rows wd (x+1) y
   ·simp
   ·rw [qy h1,qy h2]
    rfl
 ·rw [if_neg (show ¬ (1:Int)=0 by decide),jQ,jQ]
  have b:=qi (rows:=rows) (wd:=wd) (x:=x) (y:=y+1)
  have e1:(rows.length:Int) - 1 - (y+1)=rows.length - 2 - y:=by omega
  have e2:(rows.length:Int) - 2 - y+1=rows.length - 1 - y:=by omega
  show (decide ((0:Int)=0 \/ (0:Int)=1) && (zx (z7 wd rows) rows.length ((rows.length:Int) - 2 - y) x && zx (z7 wd rows) rows.length ((rows.length:Int) - 2 - y+1) x) && (hiB (z7 wd rows) cut ((rows.length:Int) - 2 - y) x != hiB (z7 wd rows) cut ((rows.length:Int) - 2 - y+1) x))=(decide ((1:Int)=0 \/ (1:Int)=1) && (zx rows wd x y && zx rows wd x (y+1)) && (hiB rows cut x y != hiB rows cut x (y+1)))
  rw [e2,<- e1,a,b]
  cases h1:zx rows wd x y
  ·simp
  ·cases h2:zx rows wd x (y+1)
   ·simp
   ·rw [qy h1,qy h2]
    cases hiB rows cut x y <;> cases hiB rows cut x (y+1) <;> rfl
theorem ajE {x y:Int} (i:Fin 4):tT rows.length (gt x y i)=gt ((rows.length:Int) - 2 - y) x (σT i):=by
 unfold tT
 match i with
 | 0=>show ((rows.length:Int) - 1 - y,x,(1:Int))=((rows.length:Int) - 2 - y+1,x,1);rw [show (rows.length:Int) - 2 - y+1=rows.length - 1 - y by omega]
 | 1=>rfl
 | 2=>show ((rows.length:Int) - 1 - (y+1),x,(1:Int))=((rows.length:Int) - 2 - y,x,1);rw [show (rows.length:Int) - 1 - (y+1)=rows.length - 2 - y by omega]
 | 3=>rfl
theorem ajF {g:Gt} (o:opG rows wd cut g=true):ahC (z7 wd rows) cut (tT rows.length g)=((rows.length:Int) - 2 - (ahC rows cut g).2,(ahC rows cut g).1):=by
 obtain⟨x,y,w⟩:=g
 obtain⟨hw,i1,i2,hh⟩:=aic o
 have t1:=qy (cut:=cut) i1
 have t2:=qy (cut:=cut) i2
 unfold ahC tT
 rcases hw with rfl | rfl
 ·show ((rows.length:Int) - 1 - y+(yf 1 (hiB (z7 wd rows) cut ((rows.length:Int) - 1 - y) x)).1,x+(yf 1 (hiB (z7 wd rows) cut ((rows.length:Int) - 1 - y) x)).2)=((rows.length:Int) - 2 - (y+(yf 0 (hiB rows cut x y)).2),x+(yf 0 (hiB rows cut x y)).1)
  rw [t1]
  cases hiB rows cut x y <;> simp [yf] <;> omega
 ·have e2:px x 1=x:=rfl
  have e3:py y 1=y+1:=rfl
  rw [e2,e3,show (rows.length:Int) - 1 - (y+1)=rows.length - 2 - y by omega] at t2
  rw [e2,e3] at hh
  show ((rows.length:Int) - 2 - y+(yf 0 (hiB (z7 wd rows) cut ((rows.length:Int) - 2 - y) x)).1,x+(yf 0 (hiB (z7 wd rows) cut ((rows.length:Int) - 2 - y) x)).2)=((rows.length:Int) - 2 - (y+(yf 1 (hiB rows cut x y)).2),x+(yf 1 (hiB rows cut x y)).1)
  rw [t2,hh]
  cases hiB rows cut x y <;> simp [yf]
theorem aid (a b c d:Int):d+(a+(b+(c+0)))=a+(b+(c+(d+0))):=by omega
theorem aen {x y:Int}:zz (z7 wd rows) rows.length ((rows.length:Int) - 2 - y) x=zz rows wd x y:=by
 have a:=qi (rows:=rows) (wd:=wd) (x:=x) (y:=y+1)
 have b:=qi (rows:=rows) (wd:=wd) (x:=x+1) (y:=y)
 rw [show (rows.length:Int) - 1 - (y+1)=rows.length - 2 - y by omega] at a
 rw [show (rows.length:Int) - 1 - y=rows.length - 2 - y+1 by omega] at b
 unfold zz
 rw [a,b]
 unfold zx
 cases h1:decide (0<=x/\x<(wd:Int)) <;> cases h2:decide (0<=y+1/\y+1<(rows.length:Int)) <;> cases h3:decide (0<=x+1/\x+1<(wd:Int)) <;> cases h4:decide (0<=y/\y<(rows.length:Int)) <;> rfl
theorem ajG {x y:Int} (h:zz rows wd x y=true) (i:Fin 4):prt (t4 (z7 wd rows) cut ((rows.length:Int) - 2 - y) x) (σT i)=(prt (t4 rows cut x y) i).map σT:=by
 obtain⟨i1,i2,i3,i4⟩:=cell_in h
 have c1:=jA i1
 have c2:=jA i2
 have c3:=jA i3
 have c4:=jA i4
 have e1:(rows.length:Int) - 1 - (y+1)=rows.length - 2 - y:=by omega
 have e2:(rows.length:Int) - 1 - y=rows.length - 2 - y+1:=by omega
 rw [e1] at c3 c4
 rw [e2] at c1 c2
 have m:jO (z7 wd rows) cut ((rows.length:Int) - 2 - y) x=jO rows cut x y:=by
  unfold jO afp
  rw [c1,c2,c3,c4,aid]
 unfold t4
 rw [m]
 unfold hiB
 rw [c1,c2,c3,c4]
 exact amd _ _ _ _ _ i
theorem alo {h:Nat} {a b:Gt} (ha:a.2.2=0 \/ a.2.2=1) (hb:b.2.2=0 \/ b.2.2=1) (e:tT h a=tT h b):a=b:=by
 obtain⟨x,y,w⟩:=a
 obtain⟨x',y',w'⟩:=b
 dsimp only at ha hb
 unfold tT at e
 rcases ha with rfl | rfl <;> rcases hb with rfl | rfl <;> simp at e ⊢ <;> omega
theorem aie:Sym rows wd cut (z7 wd rows) rows.length cut (tT rows.length) (zH rows wd cut) where
 op:=fun g o=>by rw [aci (yr o)];exact o
 inj:=fun g h o o' e=>alo (yr o) (yr o') e
 sur:=fun h o=>by
  have hw:=yr o
  obtain⟨x,y,w⟩:=h
  rcases hw with e | e
  ·have e:w=0:=e
   subst e
   have z:tT rows.length (y,(rows.length:Int) - 2 - x,1)=(x,y,0):=by
    unfold tT
    rw [if_neg (show ¬ (1:Int)=0 by decide)]
    show ((rows.length:Int) - 2 - ((rows.length:Int) - 2 - x),y,(0:Int))=(x,y,0)
    rw [show (rows.length:Int) - 2 - ((rows.length:Int) - 2 - x)=x by omega]
   exact⟨_,by rw [<-aci (.inr rfl),z];exact o,z⟩
  ·have e:w=1:=e
   subst e
   have z:tT rows.length (y,(rows.length:Int) - 1 - x,0)=(x,y,1):=by
    unfold tT
    rw [if_pos rfl]
    show ((rows.length:Int) - 1 - ((rows.length:Int) - 1 - x),y,(1:Int))=(x,y,1)
    rw [show (rows.length:Int) - 1 - ((rows.length:Int) - 1 - x)=x by omega]
   exact⟨_,by rw [<-aci (.inl rfl),z];exact o,z⟩
 nx:=fun g o=>by
  obtain⟨i,ei⟩:=adt (rows:=rows) (cut:=cut) g (yr o)
  unfold zH
  rw [ajF o]
  generalize ahC rows cut g=c at ei
  subst ei
  exact aj7 aen (fun h=>ajG h) ajE i
 opN:=fun g n o h=>(jy o h).1
end
def tM (wd:Nat) (g:Gt):Gt:=if g.2.2=0 then ((wd:Int) - 2 - g.1,g.2.1,0) else ((wd:Int) - 1 - g.1,g.2.1,1)
section
variable {rows:List (List Int)} {wd:Nat} {cut:Int}
theorem acj:(yM rows).length=rows.length:=amg _
theorem adG (g:Good wd rows):Good wd (yM rows):=by
 refine⟨by rw [acj];exact g.h1,by rw [acj];exact g.h2,g.w1,g.w2,fun r hr=>?_,fun r hr n hn=>?_⟩
 ·obtain⟨q,hq,rfl⟩:=amz.mp hr
  rw [amZ]
  exact g.row q hq
 ·obtain⟨q,hq,rfl⟩:=amz.mp hr
  exact g.hgt q hq n (anE.mp hn)
theorem vp {x y:Int}:zx (yM rows) wd ((wd:Int) - 1 - x) y=zx rows wd x y:=by
 unfold zx
 rw [acj]
 congr 1
 exact decide_eq_decide.mpr (by omega)
theorem qj (g:Good wd rows) {x y:Int} (h:zx rows wd x y=true):zK (yM rows) ((wd:Int) - 1 - x) y=zK rows x y:=by
 obtain⟨x0,x1,y0,y1⟩:=jN h
 have hy:y.toNat<rows.length:=by omega
 have hr:=g.row _ (amE hy)
 have hx:x.toNat<rows[y.toNat].length:=by omega
 rw [jz (rows:=rows) (x:=x) (y:=y) (amf hy) (amf hx)]
 refine jz (r:=rows[y.toNat].reverse) ?_ ?_
 ·unfold yM
  rw [aml,amf hy]
  rfl
 ·rw [anJ (by omega),hr,show wd - 1 - ((wd:Int) - 1 - x).toNat=x.toNat by omega]
  exact amf hx
theorem vN (g:Good wd rows) {x y:Int} (h:zx rows wd x y=true):hiB (yM rows) cut ((wd:Int) - 1 - x) y=hiB rows cut x y:=by
 unfold hiB
 rw [qj g h]
theorem aeo (gd:Good wd rows) {g:Gt} (hw:g.2.2=0 \/ g.2.2=1):opG (yM rows) wd cut (tM wd g)=opG rows wd cut g:=by
 obtain⟨x,y,w⟩:=g
 dsimp only at hw
 unfold tM
 have a:=vp (rows:=rows) (wd:=wd) (x:=x) (y:=y)
 rcases hw with rfl | rfl
 ·rw [if_pos rfl,jQ,jQ]
  have b:=vp (rows:=rows) (wd:=wd) (x:=x+1) (y:=y)
  have e1:(wd:Int) - 1 - (x+1)=wd - 2 - x:=by omega
  have e2:(wd:Int) - 2 - x+1=wd - 1 - x:=by omega
  show (decide ((0:Int)=0 \/ (0:Int)=1) && (zx (yM rows) wd ((wd:Int) - 2 - x) y && zx (yM rows) wd ((wd:Int) - 2 - x+1) y) && (hiB (yM rows) cut ((wd:Int) - 2 - x) y != hiB (yM rows) cut ((wd:Int) - 2 - x+1) y))=(decide ((0:Int)=0 \/ (0:Int)=1) && (zx rows wd x y && zx rows wd (x+1) y) && (hiB rows cut x y != hiB rows cut (x+1) y))
  rw [e2,<- e1,a,b]
  cases h1:zx rows wd x y
  ·simp
  ·cases h2:zx rows wd (x+1) y
   ·simp
   ·rw [vN gd h1,vN gd h2]
    cases hiB rows cut x y <;> cases hiB rows cut (x+1) y <;> rfl
 ·rw [if_neg (show ¬ (1:Int)=0 by decide),jQ,jQ]
  have b:=vp (rows:=rows) (wd:=wd) (x:=x) (y:=y+1)
  show (decide ((1:Int)=0 \/ (1:Int)=1) && (zx (yM rows) wd ((wd:Int) - 1 - x) y && zx (yM rows) wd ((wd:Int) - 1 - x) (y+1)) && (hiB (yM rows) cut ((wd:Int) - 1 - x) y != hiB (yM rows) cut ((wd:Int) - 1 - x) (y+1)))=(decide ((1:Int)=0 \/ (1:Int)=1) && (zx rows wd x y && zx rows wd x (y+1)) && (hiB rows cut x y != hiB rows cut x (y+1)))
  rw [a,b]
  cases h1:zx rows wd x y
  ·simp
  ·cases h2:zx rows wd x (y+1)
   ·simp
   ·rw [vN gd h1,vN gd h2]
theorem alp {x y:Int} (i:Fin 4):tM wd (gt x y i)=gt ((wd:Int) - 2 - x) y (σM i):=by
 unfold tM
 match i with
 | 0=>rfl
 | 1=>show ((wd:Int) - 1 - x,y,(1:Int))=((wd:Int) - 2 - x+1,y,1);rw [show (wd:Int) - 2 - x+1=wd - 1 - x by omega]
 | 2=>rfl
 | 3=>show ((wd:Int) - 1 - (x+1),y,(1:Int))=((wd:Int) - 2 - x,y,1);rw [show (wd:Int) - 1 - (x+1)=wd - 2 - x by omega]
theorem alq (gd:Good wd rows) {g:Gt} (o:opG rows wd cut g=true):ahC (yM rows) cut (tM wd g)=((wd:Int) - 2 - (bhC rows cut g).1,(bhC rows cut g).2):=by
 obtain⟨x,y,w⟩:=g
 obtain⟨hw,i1,i2,hh⟩:=aic o
 have t1:=vN (cut:=cut) gd i1
 have t2:=vN (cut:=cut) gd i2
 unfold ahC bhC tM
 rcases hw with rfl | rfl
 ·have e2:px x 0=x+1:=rfl
  have e3:py y 0=y:=rfl
  rw [e2,e3,show (wd:Int) - 1 - (x+1)=wd - 2 - x by omega] at t2
  rw [e2,e3] at hh
  show ((wd:Int) - 2 - x+(yf 0 (hiB (yM rows) cut ((wd:Int) - 2 - x) y)).1,y+(yf 0 (hiB (yM rows) cut ((wd:Int) - 2 - x) y)).2)=((wd:Int) - 2 - (x+(yI 0 (hiB rows cut x y)).1),y+(yI 0 (hiB rows cut x y)).2)
  rw [t2,hh]
  cases hiB rows cut x y <;> simp [yf,yI]
 ·show ((wd:Int) - 1 - x+(yf 1 (hiB (yM rows) cut ((wd:Int) - 1 - x) y)).1,y+(yf 1 (hiB (yM rows) cut ((wd:Int) - 1 - x) y)).2)=((wd:Int) - 2 - (x+(yI 1 (hiB rows cut x y)).1),y+(yI 1 (hiB rows cut x y)).2)
  rw [t1]
  cases hiB rows cut x y <;> simp [yf,yI] <;> omega
theorem agz {x y:Int}:zz (yM rows) wd ((wd:Int) - 2 - x) y=zz rows wd x y:=by
 have a:=vp (rows:=rows) (wd:=wd) (x:=x+1) (y:=y)
 have b:=vp (rows:=rows) (wd:=wd) (x:=x) (y:=y+1)
 rw [show (wd:Int) - 1 - (x+1)=wd - 2 - x by omega] at a
 rw [show (wd:Int) - 1 - x=wd - 2 - x+1 by omega] at b
 unfold zz
 rw [a,b]
 unfold zx
 cases h1:decide (0<=x/\x<(wd:Int)) <;> cases h2:decide (0<=y+1/\y+1<(rows.length:Int)) <;> cases h3:decide (0<=x+1/\x+1<(wd:Int)) <;> cases h4:decide (0<=y/\y<(rows.length:Int)) <;> rfl
theorem ajH (a b c d:Int):b+(a+(d+(c+0)))=a+(b+(c+(d+0))):=by omega
theorem alr (gd:Good wd rows) {x y:Int} (h:zz rows wd x y=true) (i:Fin 4):prt (t4 (yM rows) cut ((wd:Int) - 2 - x) y) (σM i)=(prt (t4 rows cut x y) i).map σM:=by
 obtain⟨i1,i2,i3,i4⟩:=cell_in h
 have c1:=qj gd i1
 have c2:=qj gd i2
 have c3:=qj gd i3
 have c4:=qj gd i4
 have e1:(wd:Int) - 1 - (x+1)=wd - 2 - x:=by omega
 have e2:(wd:Int) - 1 - x=wd - 2 - x+1:=by omega
 rw [e1] at c2 c3
 rw [e2] at c1 c4
 have m:jO (yM rows) cut ((wd:Int) - 2 - x) y=jO rows cut x y:=by
  unfold jO afp
  rw [c1,c2,c3,c4,ajH]
 unfold t4
 rw [m]
 unfold hiB
 rw [c1,c2,c3,c4]
 exact ame _ _ _ _ _ i
theorem als {a b:Gt} (ha:a.2.2=0 \/ a.2.2=1) (hb:b.2.2=0 \/ b.2.2=1) (e:tM wd a=tM wd b):a=b:=by
 obtain⟨x,y,w⟩:=a
 obtain⟨x',y',w'⟩:=b
 dsimp only at ha hb
 unfold tM at e
 rcases ha with rfl | rfl <;> rcases hb with rfl | rfl <;> simp at e ⊢ <;> omega
theorem ajI (gd:Good wd rows):Sym rows wd cut (yM rows) wd cut (tM wd) (yb rows wd cut) where
 op:=fun g o=>by rw [aeo gd (yr o)];exact o
 inj:=fun g h o o' e=>als (yr o) (yr o') e
 sur:=fun h o=>by
  have hw:=yr o
  obtain⟨x,y,w⟩:=h
  rcases hw with e | e
  ·have e:w=0:=e
   subst e
   have z:tM wd ((wd:Int) - 2 - x,y,0)=(x,y,0):=by
    unfold tM
    rw [if_pos rfl]
    show ((wd:Int) - 2 - ((wd:Int) - 2 - x),y,(0:Int))=(x,y,0)
    rw [show (wd:Int) - 2 - ((wd:Int) - 2 - x)=x by omega]
   exact⟨_,by rw [<-aeo gd (.inl rfl),z];exact o,z⟩
  ·have e:w=1:=e
   subst e
   have z:tM wd ((wd:Int) - 1 - x,y,1)=(x,y,1):=by
    unfold tM
    rw [if_neg (show ¬ (1:Int)=0 by decide)]
    show ((wd:Int) - 1 - ((wd:Int) - 1 - x),y,(1:Int))=(x,y,1)
    rw [show (wd:Int) - 1 - ((wd:Int) - 1 - x)=x by omega]
   exact⟨_,by rw [<-aeo gd (.inr rfl),z];exact o,z⟩
 nx:=fun g o=>by
  obtain⟨i,ei⟩:=abn (rows:=rows) (cut:=cut) g (yr o)
  unfold zH yb
  rw [alq gd o]
  generalize bhC rows cut g=c at ei
  subst ei
  exact aj7 agz (fun h=>alr gd h) alp i
 opN:=fun g n o h=>(prev_next o h).1
end
section
variable {rows:List (List Int)} {wd:Nat} {cut by_:Int}
theorem ack:(yU by_ rows).length=rows.length:=amg _
theorem aac {x y:Int}:zx (yU by_ rows) wd x y=zx rows wd x y:=by
 unfold zx
 rw [ack]
theorem qk (g:Good wd rows) {x y:Int} (h:zx rows wd x y=true):zK (yU by_ rows) x y=zK rows x y+by_:=by
 obtain⟨x0,x1,y0,y1⟩:=jN h
 have hy:y.toNat<rows.length:=by omega
 have hr:=g.row _ (amE hy)
 have hx:x.toNat<rows[y.toNat].length:=by omega
 rw [jz (rows:=rows) (x:=x) (y:=y) (amf hy) (amf hx)]
 refine jz (r:=rows[y.toNat].map (·+by_)) ?_ ?_
 ·unfold yU
  rw [aml,amf hy]
  rfl
 ·rw [aml,amf hx]
  rfl
theorem qS (g:Good wd rows) {x y:Int} (h:zx rows wd x y=true):hiB (yU by_ rows) (cut+by_) x y=hiB rows cut x y:=by
 unfold hiB
 rw [qk g h]
 exact decide_eq_decide.mpr (by omega)
theorem aep (gd:Good wd rows) {g:Gt}:opG (yU by_ rows) wd (cut+by_) g=opG rows wd cut g:=by
 obtain⟨x,y,w⟩:=g
 rw [jQ,jQ,aac,aac]
 cases h1:zx rows wd x y
 ·simp
 ·cases h2:zx rows wd (px x w) (py y w)
  ·simp
  ·rw [qS gd h1,qS gd h2]
theorem aif (gd:Good wd rows) {g:Gt} (o:opG rows wd cut g=true):zH (yU by_ rows) wd (cut+by_) g=zH rows wd cut g:=by
 have hi:hiB (yU by_ rows) (cut+by_) g.1 g.2.1=hiB rows cut g.1 g.2.1:=qS gd (afw o)
 have ea:ahC (yU by_ rows) (cut+by_) g=ahC rows cut g:=by
  unfold ahC
  rw [hi]
 unfold zH
 rw [ea]
 have ec:zz (yU by_ rows) wd (ahC rows cut g).1 (ahC rows cut g).2=zz rows wd (ahC rows cut g).1 (ahC rows cut g).2:=by
  unfold zz
  rw [aac,aac]
 rw [ec]
 by_cases h:zz rows wd (ahC rows cut g).1 (ahC rows cut g).2=true
 ·rw [if_pos h,if_pos h]
  obtain⟨i1,i2,i3,i4⟩:=cell_in h
  have m:jO (yU by_ rows) (cut+by_) (ahC rows cut g).1 (ahC rows cut g).2=jO rows cut (ahC rows cut g).1 (ahC rows cut g).2:=by
   unfold jO afp
   rw [qk gd i1,qk gd i2,qk gd i3,qk gd i4]
   exact decide_eq_decide.mpr (by omega)
  unfold y9 t4
  rw [m,qS gd i1,qS gd i2,qS gd i3,qS gd i4]
 ·rw [if_neg h,if_neg h]
theorem afC (gd:Good wd rows):Sym rows wd cut (yU by_ rows) wd (cut+by_) id (zH rows wd cut) where
 op:=fun g o=>by rw [show opG (yU by_ rows) wd (cut+by_) (id g)=opG rows wd cut g from aep gd];exact o
 inj:=fun g h _ _ e=>e
 sur:=fun h o=>⟨h,by rw [aep gd] at o;exact o,rfl⟩
 nx:=fun g o=>by
  rw [show zH (yU by_ rows) wd (cut+by_) (id g)=zH rows wd cut g from aif gd o,Option.map_id]
  rfl
 opN:=fun g n o h=>(jy o h).1
theorem aih (gd:Good wd rows) {ts:List (Bool×List Gt)} (T:Told rows wd cut ts) (all:∀ g,opG rows wd cut g=true->g∈flat ts):Told (yU by_ rows) wd (cut+by_) ts/\∀ g,opG (yU by_ rows) wd (cut+by_) g=true->g∈flat ts:=by
 refine⟨⟨fun t ht=>?_,fun t ht=>?_,T.nd,T.least⟩,fun g hg=>all g (by rw [aep gd] at hg;exact hg)⟩
 ·have:=afA (afC (by_:=by_) gd) (ach T ht)
  rw [List.map_id] at this
  exact this
 ·have:=adE (afC (by_:=by_) gd) (ach T ht)
  rw [List.map_id] at this
  exact this
end
abbrev aj8 (c:List (List Int)×Nat) (xs:List DV):Prop:=xs=[.dat (tab c.1)]/\Good c.2 c.1
abbrev aii (K:amk):Sp:=spD K 1 aj8 fun c r=>r=tab (z7 c.2 c.1)
theorem agA (F:Def K mg "turned" vj pf) (uac:mg "range"=none) (uae:FnIn P w K mg base k "ask_table" pf (abg K)) (uao:FnIn P w K mg base k "size" pf (aeb K)):FnIn P w K mg base (k+1) "turned" pf (aii K):=by
 refine F.ok sc_turned rfl fun fa cdv A outer s H E hr=>⟨_,(zc (yX (ze uae hr rfl (za (pv 0) zb))) (zc (yc (ze uao hr rfl (za (pv 0) zb)) (zR (K:=K) (n:=2) rfl rfl (zl (zg (i:=1) sc_turned.nd rfl (Or.inl rfl) (Or.inr rfl)) (zl (zg (i:=2) sc_turned.nd rfl (Or.inr rfl) (Or.inl rfl)) zJ)))) (zk (zr (zZ (N:=["y","rows","tall"]) (own:=1) (fr:=[0,2]) ⟨rfl,by decide +kernel,of_decide_eq_true (by kernel_rfl),of_decide_eq_true (by kernel_rfl),of_decide_eq_true (by kernel_rfl),rfl⟩ rfl (yK rfl uac (za (pv 1) zb)) (fun _ _ _ _=>(zg (i:=0) (show (["y","rows","tall"]:List Str).Nodup by decide +kernel) rfl (Or.inr rfl) (Or.inl rfl))) (fun _ _ _ _=>zP) (fun _ _ _ _=>(zZ (N:=["x","y","rows","tall"]) (own:=1) (fr:=[0,1,2]) ⟨rfl,by decide +kernel,of_decide_eq_true (by kernel_rfl),of_decide_eq_true (by kernel_rfl),of_decide_eq_true (by kernel_rfl),rfl⟩ rfl (yK rfl uac (za (pv 2) zb)) (fun _ _ _ _=>(zg (i:=0) (show (["x","y","rows","tall"]:List Str).Nodup by decide +kernel) rfl (Or.inl rfl) (Or.inr rfl))) (fun _ _ _ _=>zP) (fun _ _ _ _=>(zX (zC (K:=K) rfl) (zX (zC (K:=K) rfl) (pv 2) (zu yd (zu yd (pv 3) zd) (pv 0)) (fun _ _=>rfl)) (pv 1) (fun _ _=>rfl))) rfl rfl (fun _=>rfl))) rfl rfl (fun _=>rfl)))))),?_⟩
 rintro f xs ⟨rows,wd⟩ hl ⟨rfl,g⟩
 try dsimp only [z9,zh]
 dsimp only at *
 have g2:=g.h2
 have w2:=g.w2
 refine zN (jZ (zm (rows,wd) (vf rfl ⟨rfl,⟨rfl,g⟩,?_⟩)))
 rintro _ rfl
 refine zN (zS (zm (rows,wd) (vf rfl ⟨rfl,⟨rfl,g⟩,?_⟩)))
 rintro _ rfl
 refine yW rfl (zv (zj (zv (zj (yh ?_)))))
 refine yx (PEdO.ped (jS (A:=fun n:Nat=>.int (n:Int)) (B:=fun y:Nat=>.list (((amC rows.length).map fun (x:Nat)=>zK rows y (rows.length - 1 - x:Nat)).map .int)) (amC wd) (qY (zE (zt rfl (yw ⟨_,rfl,by omega,by omega,?_,by rw [amX];omega,?_,?_⟩))))))
 ·unfold jt;rw [anr]
 ·rintro D y ρ' es hy ho hes
  have hy:=amN.mp hy
  obtain⟨u,rfl⟩:=ho.one
  refine zj (yJ ?_)
  rw [if_pos rfl]
  refine yi hes (PEdO.ped (jS (A:=fun n:Nat=>.int (n:Int)) (B:=fun x:Nat=>.int (zK rows y (rows.length - 1 - x:Nat))) (amC rows.length) (qY (zE (zt rfl (yw ⟨_,rfl,by dsimp only;omega,by dsimp only;omega,?_,by rw [amX];omega,?_,?_⟩))))))
  ·unfold jt;rw [anr]
  ·rintro D2 x ρ2 es2 hx ho2 hes2
   have hx:=amN.mp hx
   obtain⟨u2,rfl⟩:=ho2.one
   refine zj (yJ ?_)
   rw [if_pos rfl]
   have hi:zx rows wd y (rows.length - 1 - x:Nat)=true:=by
    unfold zx
    rw [decide_eq_true (by omega),decide_eq_true (by omega)]
    rfl
   obtain⟨r,h1,h2⟩:=aaE g hi
   rw [show ((rows.length - 1 - x:Nat):Int)=(rows.length:Int) - 1 - (x:Int) by omega] at h1
   refine yi hes2 (vQ (vQ (zt rfl ⟨_,rfl,jf (jf (zt rfl ⟨_,rfl,qW ⟨_,rfl,_,rfl,zt rfl ⟨_,rfl,_,rfl,_,h1,?_⟩⟩⟩))⟩)))
   exact⟨_,rfl,zt rfl ⟨_,rfl,_,h2,.mk1,rfl⟩⟩
  ·exact⟨.mk1,by rw [am9];rfl⟩
 ·unfold tab z7
  rw [am9]
  rfl
abbrev aj9 (K:amk):Sp:=spD K 1 aj8 fun c r=>r=tab (yM c.1)
theorem adH (F:Def K mg "mirrored" jI pf) (uae:FnIn P w K mg base k "ask_table" pf (abg K)):FnIn P w K mg base (k+1) "mirrored" pf (aj9 K):=by
 refine F.ok ade rfl fun fa cdv A outer s H E hr=>⟨_,(zc (yX (ze uae hr rfl (za (pv 0) zb))) (zk (zr (zZ (N:=["row"]) (own:=1) (fr:=[]) ⟨rfl,by decide +kernel,of_decide_eq_true (by kernel_rfl),of_decide_eq_true (by kernel_rfl),of_decide_eq_true (by kernel_rfl),rfl⟩ rfl (zT (K:=K) rfl (pv 0)) (fun _ _ _ _=>(zg (i:=0) (show (["row"]:List Str).Nodup by decide +kernel) rfl (Or.inl rfl) (Or.inr rfl))) (fun _ _ _ _=>zP) (fun _ _ _ _=>(aiJ (K:=K) rfl (pv 0) (alz akr zd))) rfl rfl (fun _=>rfl))))),?_⟩
 rintro f xs ⟨rows,wd⟩ hl ⟨rfl,g⟩
 try dsimp only [z9,zh]
 dsimp only at *
 have g2:=g.h2
 refine zN (jZ (zm (rows,wd) (vf rfl ⟨rfl,⟨rfl,g⟩,?_⟩)))
 rintro _ rfl
 refine yx (PEdO.ped (jS (A:=fun r=>.list (r.map .int)) (B:=fun r:List Int=>.list (r.reverse.map .int)) rows (yE (zt rfl ⟨_,rfl,rfl,by omega,?_,?_⟩))))
 ·rintro D r ρ' es hr' ho hes
  obtain⟨u,rfl⟩:=ho.one
  refine zj (yJ ?_)
  rw [if_pos rfl]
  refine yi hes (PEdL.ped (alF (zt rfl ⟨_,rfl,?_⟩)))
  rw [<-List.map_reverse]
  exact alN (qW ⟨_,rfl,rfl,.mk1,rfl⟩)
 ·unfold tab yM
  rw [am9]
  rfl
abbrev aka (K:amk):Sp:=spD K 2 (fun (c:List (List Int)×Nat×Int) xs=>xs=[.dat (tab c.1),.dat (.int c.2.2)]/\Good c.2.1 c.1/\Good c.2.1 (yU c.2.2 c.1)) fun c r=>r=tab (yU c.2.2 c.1)
theorem agB (F:Def K mg "raised" vk pJ) (uae:FnIn P w K mg base k "ask_table" pf (abg K)):FnIn P w K mg base (k+1) "raised" pJ (aka K):=by
 refine F.ok sc_raised rfl fun fa cdv A outer s H E hr=>⟨_,(zc (yX (ze uae hr rfl (za (pv 0) zb))) (zc (je (i:=2) (N:=["row","by"]) (own:=1) (fr:=[1]) ⟨rfl,by decide +kernel,of_decide_eq_true (by kernel_rfl),of_decide_eq_true (by kernel_rfl),of_decide_eq_true (by kernel_rfl),rfl⟩ rfl sc_raised.nd rfl (Or.inl rfl) (zT (K:=K) rfl (pv 0)) (fun _ _ _ _=>(zg (i:=0) (show (["row","by"]:List Str).Nodup by decide +kernel) rfl (Or.inl rfl) (Or.inr rfl))) (fun _ _ _ _=>zP) (fun _ _ _ _=>(zZ (N:=["height","by"]) (own:=1) (fr:=[1]) ⟨rfl,by decide +kernel,of_decide_eq_true (by kernel_rfl),of_decide_eq_true (by kernel_rfl),of_decide_eq_true (by kernel_rfl),rfl⟩ rfl (zT (K:=K) rfl (pv 0)) (fun _ _ _ _=>(zg (i:=0) (show (["height","by"]:List Str).Nodup by decide +kernel) rfl (Or.inl rfl) (Or.inr rfl))) (fun _ _ _ _=>zP) (fun _ _ _ _=>(zu zW (pv 0) (pv 1))) rfl rfl (fun _=>rfl))) rfl rfl (fun _=>rfl) (Or.inl rfl) rfl) (zc (yX (ze uae hr rfl (za (pv 2) zb))) (zk (zr (pv 2)))))),?_⟩
 rintro f xs ⟨rows,wd,by_⟩ hl ⟨rfl,g,g'⟩
 try dsimp only [z9,zh]
 dsimp only at *
 have g2:=g.h2
 have w2:=g.w2
 refine zN (jZ (zm (rows,wd) (vf rfl ⟨rfl,⟨rfl,g⟩,?_⟩)))
 rintro _ rfl
 refine zN (zS (PEdO.ped (jS (A:=fun r=>.list (r.map .int)) (B:=fun r:List Int=>.list ((r.map (·+by_)).map .int)) rows (yE (zt rfl ⟨_,rfl,rfl,by omega,?_,?_⟩)))))
 ·rintro D r ρ' es hr' ho hes
  have rl:=g.row r hr'
  obtain⟨u,rfl⟩:=ho.one
  refine zj (yJ ?_)
  rw [if_pos rfl]
  refine yi hes (PEdO.ped (jS (A:=.int) (B:=fun n:Int=>.int (n+by_)) r (yE (zt rfl ⟨_,rfl,rfl,by omega,?_,?_⟩))))
  ·rintro D2 n ρ2 es2 hn ho2 hes2
   obtain⟨u2,rfl⟩:=ho2.one
   refine zj (yJ ?_)
   rw [if_pos rfl]
   exact yi hes2 (jf (zt rfl ⟨_,rfl,zt rfl ⟨_,rfl,.mk1,rfl⟩⟩))
  ·exact⟨.mk1,by rw [am9];rfl⟩
 ·rw [show (rows.map fun r:List Int=>PyData.list ((r.map (·+by_)).map .int))=(yU by_ rows).map fun r=>.list (r.map .int) by unfold yU;rw [am9];rfl]
  refine zj (zN (jZ (zm (yU by_ rows,wd) (vf rfl ⟨rfl,⟨rfl,g'⟩,?_⟩))))
  rintro _ rfl
  exact yx (zt rfl rfl)
theorem acm {a b:Gt} (h:ltD (gD3 a) (gD3 b)=false):b=a \/ gLt b a:=by
 by_cases z:gLt a b
 ·rw [ahR z] at h
  cases h
 ·obtain⟨x,y,w⟩:=a
  obtain⟨x',y',w'⟩:=b
  unfold gLt at z ⊢
  simp only [Prod.mk.injEq]
  dsimp only at z ⊢
  omega
def aij (q:Bool):Str:=if q=true then "ring" else "run"
abbrev afD (K:amk):Sp:=spD K 2 (fun (c:Bool×List Gt) xs=>xs=[.dat (.str (aij c.1)),.dat (.list (c.2.map gD3))]/\c.2≠[]/\c.2.length<=98) fun c r=>r=zD (c.1,qh c.1 c.2)
theorem acG {α:Type} {F:α->PyData} {l:List α} {i:Nat} (h:i<=l.length):L2.cutD (l.map F) (some (i:Int)) none=(l.drop i).map F/\L2.cutD (l.map F) none (some (i:Int))=(l.take i).map F:=by
 have s1:∀ d,HT.sIx (l.map F).length d (some (i:Int))=i:=fun d=>by
  rw [HT.sIx_nat,amg]
  omega
 constructor
 ·unfold L2.cutD
  rw [s1,show HT.sIx (l.map F).length (l.map F).length none=(l.map F).length from rfl,aoL (by rw [anW];omega),ap0]
 ·unfold L2.cutD
  rw [s1,show HT.sIx (l.map F).length 0 none=0 from rfl,List.drop_zero,Nat.sub_zero,apZ]
theorem aik (F:Def K mg "_law_begun" jn pO) (uab:mg "min"=none) (uag:mg "tuple"=none):FnIn P w K mg base (k+1) "_law_begun" pO (afD K):=by
 refine F.ok sc_law_begun rfl fun fa cdv A outer s H E hr=>⟨_,(zc (yy (z3 (vA (K:=K) rfl hr.units) (pv 0) qI (z8 _)) (zk (zr (zF (za (pv 0) (za (vx (j8 (K:=K) rfl) rfl uag aoF (za (pv 1) zb)) zb))))) zV) (zc (zM (i:=2) sc_law_begun.nd rfl (Or.inl rfl) (agN aoE PySem.F.slot_list_index PySem.F.type_list_index (ad2 (K:=K) rfl hr.units) (pv 1) (za (zw (ad4 (K:=K) rfl rfl hr.units) rfl uab boot_min (za (pv 1) zb)) zb))) (zk (zr (zF (za (pv 0) (za (vx (j8 (K:=K) rfl) rfl uag aoF (za (zu (acM (K:=K) rfl) (acw (acI (K:=K) rfl) (pv 1) (aeA (pv 2)) aez) (acw (acI (K:=K) rfl) (pv 1) aez (aeA (pv 2)))) zb)) zb))))))),?_⟩
 rintro f xs ⟨q,l⟩ hl ⟨rfl,ne,le⟩
 try dsimp only [z9,zh]
 dsimp only at *
 have c1:(PyData.str "ring").canLay0=true:=by decide +kernel
 have c2:(PyData.str "run").canLay0=true:=by decide +kernel
 cases q with
 | false =>
  refine zN (aao (yC (jW (zt rfl (aeI ⟨c2,c2,by show 0<=60;decide,_,rfl,?_⟩)))))
  rw [if_neg amh,show amI (.str (aij false)) (.str "run")=true by decide +kernel,if_pos rfl]
  exact yx (jX (zE (zt rfl (zE (abH (vf rfl (.inl ⟨_,rfl,yw ⟨_,rfl,by show 2<=1000;decide,rfl⟩⟩)))))))
 | true =>
  refine zN (aao (yC (jW (zt rfl (aeI ⟨c1,c2,by show 0<=60;decide,_,rfl,?_⟩)))))
  rw [if_neg amh,show amI (.str (aij true)) (.str "run")=false by decide +kernel,if_neg amh]
  refine jY ?_
  have pl:∀ d∈l.map gD3,zq d=true:=fun d hd=>by obtain⟨x,_,rfl⟩:=amz.mp hd;rfl
  have lay:∀ d∈l.map gD3,d.canLay0=true:=fun d hd=>by obtain⟨x,_,rfl⟩:=amz.mp hd;rfl
  have dp:∀ d∈l.map gD3,d.depth<=50:=fun d hd=>by obtain⟨x,_,rfl⟩:=amz.mp hd;show 1<=50;decide
  have cp:∀ d∈l.map gD3,∀ e∈l.map gD3,j9 d e=true:=fun d hd e he=>by
   obtain⟨x,_,rfl⟩:=amz.mp hd
   obtain⟨y,_,rfl⟩:=amz.mp he
   have:=vL [x] [y]
   rw [amG,amG,qB] at this
   split at this
   ·next h =>
    obtain⟨x1,x2,x3⟩:=x
    obtain⟨y1,y2,y3⟩:=y
    show j9 (.tuple [.int x1,.int x2,.int x3]) (.tuple [.int y1,.int y2,.int y3])=true
    simp only [j9,qB]
    split
    ·split
     ·split <;> rfl
     ·rfl
    ·rfl
   ·exact this
  refine zN (zS (ahE (zt rfl ⟨_,rfl,ak5 (zt rfl ⟨_,rfl,fun z=>ne (anT.mp z),pl,cp,dp,fun d hd least=>?_⟩)⟩)))
  obtain⟨m,hm,rfl⟩:=amz.mp hd
  have lm:∀ g∈l,g=m \/ gLt m g:=fun g hg=>by
   rcases acm (least _ (amz.mpr ⟨g,hg,rfl⟩)) with e | e
   ·exact .inl e.symm
   ·exact .inr e
  obtain⟨lt,ll⟩:=vM ne
  have em:l[jP l]=m:=by
   rcases lm _ (amE lt) with e | e
   ·exact e
   ·rcases ll m hm with e' | e'
    ·exact e'.symm
    ·exact (adA e e').elim
  refine⟨jP l,rfl,lay,by show 1<=50;decide,by rw [amg];omega,?_,fun j hj=>?_,?_⟩
  ·rw [aml,aml,amf lt]
   show some (amI (gD3 l[jP l]) (gD3 m))=some true
   rw [aej,decide_eq_true em]
  ·have hj':j<l.length:=by omega
   rw [aml,aml,amf hj']
   show some (amI (gD3 l[j]) (gD3 m))=some false
   rw [aej,decide_eq_false]
   intro z
   have:=List.not_of_lt_findIdx hj
   rw [z] at this
   rw [anD.mpr fun h hh=>decide_eq_true (lm h hh)] at this
   cases this
  ·obtain⟨k1,k2⟩:=acG (F:=gD3) (anb lt)
   refine zj (yx (jX (zE (zt rfl (zE (abH (zE (ahd (ag9 (zt rfl ⟨_,rfl,ag8 (zt rfl ⟨_,rfl,ag7 ⟨_,rfl,ag9 (zt rfl ⟨_,rfl,ag7 (ag8 (zt rfl ⟨_,rfl,_,rfl,?_⟩))⟩)⟩⟩)⟩))))))))))
   rw [k1,k2]
   refine⟨by rw [amg,amg,anW,amW];omega,yw (.inl ⟨_,rfl,yw ⟨_,rfl,by show 2<=1000;decide,?_⟩⟩)⟩
   rw [<-amS]
   rfl
abbrev TG2:=List (List Int)×Nat×Gt
abbrev akb (c:TG2) (xs:List DV):Prop:=xs=[.dat (tab c.1),.dat (gD3 c.2.2)]/\Good c.2.1 c.1
abbrev alY (K:amk):Sp:=spD K 2 akb fun c r=>r=gD3 (tT c.1.length c.2.2)
theorem aeq (F:Def K mg "_law_turned" y8 pA) (uaa:mg "len"=none):FnIn P w K mg base (k+1) "_law_turned" pA (alY K):=by
 refine F.ok sc_law_turned rfl fun fa cdv A outer s H E hr=>⟨_,(zc (yc (pv 1) (zR (K:=K) (n:=3) rfl rfl (zl (zg (i:=2) sc_law_turned.nd rfl (Or.inl rfl) (Or.inr rfl)) (zl (zg (i:=3) sc_law_turned.nd rfl (Or.inl rfl) (Or.inr rfl)) (zl (zg (i:=4) sc_law_turned.nd rfl (Or.inl rfl) (Or.inr rfl)) zJ))))) (zc (yy (z3 (vA (K:=K) rfl hr.units) (pv 4) zd (z8 _)) (zk (zr (zF (za (zu yd (zu yd (zw (zQ (K:=K) rfl) rfl uaa am1 (za (pv 0) zb)) zd) (pv 3)) (za (pv 2) (za zd zb)))))) zV) (zk (zr (zF (za (zu yd (zu yd (zw (zQ (K:=K) rfl) rfl uaa am1 (za (pv 0) zb)) zd) (pv 3)) (za (pv 2) (za zd zb)))))))),?_⟩
 rintro f xs ⟨rows,wd,x,y,w⟩ hl ⟨rfl,g⟩
 try dsimp only [z9,zh]
 dsimp only at *
 refine zN (zS (zt rfl (yW rfl (zv (zj (zv (zj (zv (zj (yh ?_))))))))))
 unfold tT
 refine zN (aj2 (w=0) (aj3 rfl) (fun h=>?_) fun h=>jY ?_)
 ·refine yx (jX (zE (jf (jf (aa6 (zE (zt rfl (yw (.inl ⟨_,rfl,?_⟩)))))))))
  rw [amg]
  walk_at "w"
  rw [if_pos h]
  rfl
 ·refine yx (jX (zE (jf (jf (aa6 (zE (zt rfl (yw (.inl ⟨_,rfl,?_⟩)))))))))
  rw [amg]
  walk_at "w"
  rw [if_neg h]
  rfl
abbrev alZ (K:amk):Sp:=spD K 2 akb fun c r=>r=gD3 (tM c.2.1 c.2.2)
theorem acn (F:Def K mg "_law_mirrored" yG pA) (uaa:mg "len"=none):FnIn P w K mg base (k+1) "_law_mirrored" pA (alZ K):=by
 refine F.ok sc_law_mirrored rfl fun fa cdv A outer s H E hr=>⟨_,(zc (yc (pv 1) (zR (K:=K) (n:=3) rfl rfl (zl (zg (i:=2) sc_law_mirrored.nd rfl (Or.inl rfl) (Or.inr rfl)) (zl (zg (i:=3) sc_law_mirrored.nd rfl (Or.inl rfl) (Or.inr rfl)) (zl (zg (i:=4) sc_law_mirrored.nd rfl (Or.inl rfl) (Or.inr rfl)) zJ))))) (zc (yy (z3 (vA (K:=K) rfl hr.units) (pv 4) zd (z8 _)) (zk (zr (zF (za (zu yd (zu yd (zw (zQ (K:=K) rfl) rfl uaa am1 (za (zX (zC (K:=K) rfl) (pv 0) zd (fun _ _=>rfl)) zb)) zd) (pv 2)) (za (pv 3) (za zd zb)))))) zV) (zk (zr (zF (za (zu yd (zu yd (zw (zQ (K:=K) rfl) rfl uaa am1 (za (zX (zC (K:=K) rfl) (pv 0) zd (fun _ _=>rfl)) zb)) zd) (pv 2)) (za (pv 3) (za zd zb)))))))),?_⟩
 rintro f xs ⟨rows,wd,x,y,w⟩ hl ⟨rfl,g⟩
 try dsimp only [z9,zh]
 dsimp only at *
 obtain⟨r0,rs,er⟩:=g.ne
 have hr0:r0.length=wd:=g.row r0 (by rw [er];exact amm)
 have hat0:atI (rows.map fun q=>PyData.list (q.map .int)) 0=some (.list (r0.map .int)):=by
  rw [er]
  exact yP (F:=fun q:List Int=>PyData.list (q.map .int)) (xs:=r0 :: rs) (j:=0) rfl (aoI _)
 refine zN (zS (zt rfl (yW rfl (zv (zj (zv (zj (zv (zj (yh ?_))))))))))
 unfold tM
 refine zN (aj2 (w=0) (aj3 rfl) (fun h=>?_) fun h=>jY ?_)
 ·refine yx (jX (zE (jf (jf (aa6 (zE (vQ (zt rfl ⟨_,rfl,qW ⟨_,rfl,_,hat0,yw (.inl ⟨_,rfl,?_⟩)⟩⟩))))))))
  rw [amg,hr0]
  walk_at "w"
  rw [if_pos h]
  rfl
 ·refine yx (jX (zE (jf (jf (aa6 (zE (vQ (zt rfl ⟨_,rfl,qW ⟨_,rfl,_,hat0,yw (.inl ⟨_,rfl,?_⟩)⟩⟩))))))))
  rw [amg,hr0]
  walk_at "w"
  rw [if_neg h]
  rfl
theorem aer:∀ l:List Gt,anQ (l.map gD3)=true/\amt (l.map gD3)<=1
 | []=>⟨rfl,amT _⟩
 | g :: l=>⟨(aer l).1,Nat.max_le.mpr ⟨amn 1,(aer l).2⟩⟩
theorem ail (t:Bool×List Gt):(zD t).canLay0=true/\(zD t).depth<=3:=by
 obtain⟨r,l⟩:=t
 obtain⟨h1,h2⟩:=aer l
 have hw:(PyData.str (if r=true then "ring" else "run")).canLay0=true:=by cases r <;> decide +kernel
 refine⟨?_,?_⟩
 ·show ((PyData.str (if r=true then "ring" else "run")).canLay0 && (anQ (l.map gD3) && true))=true
  rw [hw,h1]
  rfl
 ·show max 0 (max (amt (l.map gD3)+1) 0)+1<=3
  omega
theorem qz:∀ ts:List (Bool×List Gt),anQ (ts.map zD)=true/\amt (ts.map zD)<=3
 | []=>⟨rfl,amT _⟩
 | t :: ts=>by
  obtain⟨h1,h2⟩:=ail t
  obtain⟨h3,h4⟩:=qz ts
  refine⟨?_,Nat.max_le.mpr ⟨h2,h4⟩⟩
  show ((zD t).canLay0 && anQ (ts.map zD))=true
  rw [h1,h3]
  rfl
theorem afE {Q:Nat->Int->Prop} {es:List PyData} (h:∀ (i:Nat) e,es[i]?=some e->∃ n:Int,e=.int n/\Q i n):∃ ns:List Int,es=ns.map .int/\∀ (i:Nat) n,ns[i]?=some n->Q i n:=by
 let F:PyData->Int:=fun e=>match e with | .int n=>n | _=>0
 refine⟨es.map F,?_,fun i n hn=>?_⟩
 ·rw [am9]
  refine (aog fun i=>?_)
  rw [aml]
  cases he:es[i]? with
  | none=>rfl
  | some e =>
   obtain⟨n,rfl,_⟩:=h i e he
   rfl
 ·rw [aml] at hn
  cases he:es[i]? with
  | none=>rw [he] at hn;cases hn
  | some e =>
   obtain⟨m,rfl,q⟩:=h i e he
   rw [he] at hn
   cases hn
   exact q
theorem aim {wd:Nat} {rows:List (List Int)} {b:Int} (g:Good wd rows) (h:∀ r∈rows,∀ n∈r,-1000000000<=n+b/\n+b<=1000000000):Good wd (yU b rows):=by
 refine⟨by rw [ack];exact g.h1,by rw [ack];exact g.h2,g.w1,g.w2,fun r hr=>?_,fun r hr n hn=>?_⟩
 ·obtain⟨q,hq,rfl⟩:=amz.mp hr
  rw [amg]
  exact g.row q hq
 ·obtain⟨q,hq,rfl⟩:=amz.mp hr
  obtain⟨m,hm,rfl⟩:=amz.mp hn
  exact h q hq m hm
theorem afF {us vs:List (Bool×List Gt)} (p:us.Perm vs) {g:Gt} (h:g∈flat vs):g∈flat us:=(p.flatMap_right _).mem_iff.mpr h
theorem alu {f:Addr} {fd:FuncData} (F:Fun K "law" "law" vU f fd) (uaa:mg "len"=none) (uac:mg "range"=none) (uaf:mg "max"=none) (uab:mg "min"=none) (uah:mg "sorted"=none) (uaH:mg "reversed"=none)
  (ubf:FnIn P w K mg base k "_law_feed" pL (ael K)) (uad:FnIn P w K mg base k "_law_draw" pB (ab9 K)) (ubg:FnIn P w K mg base k "_law_table" pM (aff K)) (ubh:FnIn P w K mg base k "_law_cut" pN (aj4 K)) (uaw:FnIn P w K mg base k "lines" pz (afx K))
  (ua1:FnIn P w K mg base k "_law_begun" pO (afD K)) (ubi:FnIn P w K mg base k "_law_turned" pA (alY K)) (ubj:FnIn P w K mg base k "_law_mirrored" pA (alZ K)) (ubk:FnIn P w K mg base k "turned" pf (aii K)) (ubl:FnIn P w K mg base k "mirrored" pf (aj9 K)) (ubm:FnIn P w K mg base k "raised" pJ (aka K)) :
  FnOk P w K mg base CX0 (k+1) f fd pP (afz K):=by
 refine F.ok sc_law (fun vs H Q E h=>?_) fun cdv A outer s H vs Q E hr hs=>⟨_,(zc (aag aoe rfl (yK rfl uac (za (zw (afK rfl) rfl uaf boot_max (za zd (za (zw (vw rfl) rfl uab boot_min (za zd (za (zw (zQ (K:=K) rfl) rfl uaa am1 (za (pv 0) zb)) zb))) zb))) zb)) (zg (i:=1) sc_law.nd rfl (Or.inl rfl) (Or.inr rfl)) (zc (zM (i:=2) sc_law.nd rfl (Or.inl rfl) (ze ubf hr rfl (za (pv 0) (za (pv 1) zb)))) (zc (zM (i:=3) sc_law.nd rfl (Or.inr rfl) (ze ubg hr rfl (za (pv 2) zb))) (zc (zM (i:=4) sc_law.nd rfl (Or.inl rfl) (ze ubh hr rfl (za (pv 2) (za (pv 3) zb)))) (zc (zM (i:=5) sc_law.nd rfl (Or.inl rfl) (ze uaw hr rfl (za (pv 3) (za (pv 4) zb)))) (zc (je (i:=6) (N:=pI) (own:=2) (fr:=[3]) ⟨rfl,by decide +kernel,of_decide_eq_true (by kernel_rfl),of_decide_eq_true (by kernel_rfl),of_decide_eq_true (by kernel_rfl),rfl⟩ rfl sc_law.nd rfl (Or.inl rfl) (zT (K:=K) rfl (pv 5)) (fun _ _ _ _=>(zR (K:=K) (n:=2) rfl rfl (zl (zg (i:=0) (show (pI:List Str).Nodup by decide +kernel) rfl (Or.inl rfl) (Or.inr rfl)) (zl (zg (i:=1) (show (pI:List Str).Nodup by decide +kernel) rfl (Or.inl rfl) (Or.inr rfl)) zJ)))) (fun _ _ _ _=>zP) (fun _ _ _ _=>(ze ua1 hr rfl (za (pv 0) (za (zZ (N:=pR) (own:=1) (fr:=[2]) ⟨rfl,by decide +kernel,of_decide_eq_true (by kernel_rfl),of_decide_eq_true (by kernel_rfl),of_decide_eq_true (by kernel_rfl),rfl⟩ rfl (abG (K:=K) rfl (pv 1)) (fun _ _ _ _=>(zg (i:=0) (show (pR:List Str).Nodup by decide +kernel) rfl (Or.inl rfl) (Or.inr rfl))) (fun _ _ _ _=>zP) (fun _ _ _ _=>(ze ubi hr rfl (za (pv 1) (za (pv 0) zb)))) rfl rfl (fun _=>rfl)) zb)))) rfl rfl (fun _=>rfl) (Or.inl rfl) rfl) (zc (yy (z3 (vB (K:=K) rfl hr.units) (ze uaw hr rfl (za (ze ubk hr rfl (za (pv 3) zb)) (za (pv 4) zb))) (zw (jF (K:=K) rfl hr.units) rfl uah aoy (za (pv 6) zb)) (z8 _)) (zk (zr aad)) zV) (zc (je (i:=7) (N:=pI) (own:=2) (fr:=[3]) ⟨rfl,by decide +kernel,of_decide_eq_true (by kernel_rfl),of_decide_eq_true (by kernel_rfl),of_decide_eq_true (by kernel_rfl),rfl⟩ rfl sc_law.nd rfl (Or.inl rfl) (zT (K:=K) rfl (pv 5)) (fun _ _ _ _=>(zR (K:=K) (n:=2) rfl rfl (zl (zg (i:=0) (show (pI:List Str).Nodup by decide +kernel) rfl (Or.inl rfl) (Or.inr rfl)) (zl (zg (i:=1) (show (pI:List Str).Nodup by decide +kernel) rfl (Or.inl rfl) (Or.inr rfl)) zJ)))) (fun _ _ _ _=>zP) (fun _ _ _ _=>(ze ua1 hr rfl (za (pv 0) (za (zZ (N:=pR) (own:=1) (fr:=[2]) ⟨rfl,by decide +kernel,of_decide_eq_true (by kernel_rfl),of_decide_eq_true (by kernel_rfl),of_decide_eq_true (by kernel_rfl),rfl⟩ rfl (ak7 (K:=K) rfl rfl uaH (za (pv 1) zb)) (fun _ _ _ _=>(zg (i:=0) (show (pR:List Str).Nodup by decide +kernel) rfl (Or.inl rfl) (Or.inr rfl))) (fun _ _ _ _=>zP) (fun _ _ _ _=>(ze ubj hr rfl (za (pv 1) (za (pv 0) zb)))) rfl rfl (fun _=>rfl)) zb)))) rfl rfl (fun _=>rfl) (Or.inl rfl) rfl) (zc (yy (z3 (vB (K:=K) rfl hr.units) (ze uaw hr rfl (za (ze ubl hr rfl (za (pv 3) zb)) (za (pv 4) zb))) (zw (jF (K:=K) rfl hr.units) rfl uah aoy (za (pv 7) zb)) (z8 _)) (zk (zr aad)) zV) (zc (zM (i:=8) sc_law.nd rfl (Or.inl rfl) (zw (vz (K:=K) rfl rfl) rfl uaf boot_max (za (zZ (N:=["_law_row"]) (own:=1) (fr:=[]) ⟨rfl,by decide +kernel,of_decide_eq_true (by kernel_rfl),of_decide_eq_true (by kernel_rfl),of_decide_eq_true (by kernel_rfl),rfl⟩ rfl (zT (K:=K) rfl (pv 3)) (fun _ _ _ _=>(zg (i:=0) (show (["_law_row"]:List Str).Nodup by decide +kernel) rfl (Or.inl rfl) (Or.inr rfl))) (fun _ _ _ _=>zP) (fun _ _ _ _=>(zw (vz (K:=K) rfl rfl) rfl uaf boot_max (za (pv 0) zb))) rfl rfl (fun _=>rfl)) zb))) (zc (zM (i:=9) sc_law.nd rfl (Or.inl rfl) (zw (vy (K:=K) rfl rfl) rfl uab boot_min (za (zZ (N:=["_law_row"]) (own:=1) (fr:=[]) ⟨rfl,by decide +kernel,of_decide_eq_true (by kernel_rfl),of_decide_eq_true (by kernel_rfl),of_decide_eq_true (by kernel_rfl),rfl⟩ rfl (zT (K:=K) rfl (pv 3)) (fun _ _ _ _=>(zg (i:=0) (show (["_law_row"]:List Str).Nodup by decide +kernel) rfl (Or.inl rfl) (Or.inr rfl))) (fun _ _ _ _=>zP) (fun _ _ _ _=>(zw (vy (K:=K) rfl rfl) rfl uab boot_min (za (pv 0) zb))) rfl rfl (fun _=>rfl)) zb))) (zc (zM (i:=10) sc_law.nd rfl (Or.inl rfl) (zX (zC (K:=K) rfl) (yz (za (zu yd (zu jU zd zd) (pv 8)) (za (zu yd (zu yd zd (zu jU zd zd)) (pv 9)) (za zd (za (zw (vw rfl) rfl uab boot_min (za zd (za (zu yd (zu jU zd zd) (pv 8)) zb))) zb))))) (ze uad hr rfl (za (pv 2) (za zd zb))) (fun _ _=>rfl))) (zk (yy (z3 (vB (K:=K) rfl hr.units) (ze uaw hr rfl (za (ze ubm hr rfl (za (pv 3) (za (pv 10) zb))) (za (zu zW (pv 4) (pv 10)) zb))) (pv 5) (z8 _)) (zk (zr aad)) zV)))))))))))))) (zk (zr aad))),?_⟩
 ·obtain⟨a,ns,rfl,_⟩:=h
  rfl
 obtain⟨a,ns,rfl,hS,h63,q⟩:=hs
 have e0:EnvOk K L2.f0 (j7 afe [.dat (scr ns)]) (start afe [.ref a]) H:=qq (.cons (afy hS) .nil) (L2.fok0 H)
 suffices h:PSd K L2.f0 _ (j7 afe [.dat (scr ns)]) { nx:=fun _=>False,rt:=fun d=>d=.bool true } from
  h _ H _ e0 (fun _ _ _ _ _ z=>z.elim) (fun d v H' _ r z=>by
   subst z
   rw [rep_bool.mp r]
   exact q H') (fun _ _ _ _ _ z=>z) (fun _ _ _ _ _ z=>z)
 refine zN (alG (qY (ajA (R:=fun xs=>∃ j:Int,xs=[.dat (.int j)]/\0<=j/\j<=63) ?_ ?_)))
 ·walk_at "w"
  rw [amg]
  split <;> split <;> omega
 rintro _ ⟨j,rfl,j0,j1⟩
 refine⟨j,rfl,by omega,by omega,fun i ρ=>∃ x1 x2 x3 x4 x5 x6 x7 x8 x9 x10,ρ=[some (.dat (scr ns)),x1,x2,x3,x4,x5,x6,x7,x8,x9,x10],⟨_,_,_,_,_,_,_,_,_,_,rfl⟩,?_,?_⟩
 ·rintro i d _ hi ⟨x1,x2,x3,x4,x5,x6,x7,x8,x9,x10,rfl⟩
  obtain⟨hi,rfl⟩:=aaF hi
  refine zj (akN (aln rfl rfl h63 (by omega) (by omega)) fun p=>?_)
  refine zN (zS (zm () ?_))
  walk_at "w"
  rintro _ ⟨wd,rows,rfl,g⟩
  have g2:=g.h2
  have w2:=g.w2
  refine zj (zN (zS (zm (rows,wd) ?_)))
  walk_at "w"
  rintro _ ⟨cut,rfl,c0,c1⟩
  refine zj (zN (zS (PEdO.ped (qN (rows,wd,cut) (ai8 rfl rfl ⟨rfl,⟨rfl,g⟩,?_⟩)))))
  rintro _ ⟨ts,rfl,T,all,up⟩
  dsimp only at T all
  have fT:=T.few g
  obtain⟨U1,a1⟩:=afB aie T all id (fun l=>.refl l) (fun t ht=>ach T ht)
  obtain⟨U2,a2⟩:=afB (ajI g) T all List.reverse List.reverse_perm (fun t ht=>ajD T ht)
  refine zj (ac3 (fun ρ=>ρ=[some (.dat (scr ns)),some (.dat (.int i)),some .feed,some (.dat (tab rows)),some (.dat (.int cut)),some (.dat (.list (ts.map zD))),some (.dat (.list ((ts.map fun t=>(t.1,qh t.1 ((id t.2).map (tT rows.length)))).map zD))),x7,x8,x9,x10]) (zS (PEdO.ped (jS (A:=zD) (B:=fun t=>zD (t.1,qh t.1 (t.2.map (tT rows.length)))) ts (yE (zt rfl ⟨_,rfl,rfl,by omega,?_,?_⟩))))) ?_)
  ·rintro D t ρ' es ht ho hes
   have L:=T.line t ht
   have fl:=qg g L.op L.nd
   obtain⟨u,v,rfl⟩:=ho.two
   refine alX (yJ ?_)
   rw [if_pos rfl]
   refine yi hes (zm (t.1,t.2.map (tT rows.length)) (zE (zt rfl (zE (PEdO.ped (jS (A:=gD3) (B:=fun q=>gD3 (tT rows.length q)) t.2 (ag5 (zt rfl ⟨_,rfl,rfl,by omega,?_,?_⟩))))))))
   ·rintro D2 q ρ2 es2 hq ho2 hes2
    obtain⟨u2,rfl⟩:=ho2.one
    refine zj (yJ ?_)
    rw [if_pos rfl]
    refine yi hes2 (zm (rows,wd,q) (ai8 rfl rfl ⟨rfl,⟨rfl,g⟩,?_⟩))
    rintro _ rfl
    exact⟨.mk1,rfl⟩
   ·refine yw ⟨rfl,⟨by rw [am9];rfl,fun z=>L.ne (anT.mp z),by rw [amg];exact fl⟩,?_⟩
    rintro _ rfl
    exact⟨.mk2,rfl⟩
  ·refine zj ?_
   rw [am9]
   rfl
  rintro _ rfl
  have fU1:=U1.few (abq g)
  have fU2:=U2.few (adG g)
  generalize (ts.map fun t=>(t.1,qh t.1 ((id t.2).map (tT rows.length))))=us1 at *
  refine zN (aao (yC (jW (PEdO.ped (qN (z7 wd rows,rows.length,cut) (zE (zm (rows,wd) (vf rfl ⟨rfl,⟨rfl,g⟩,?_⟩))))))))
  rintro _ rfl
  refine vf rfl ⟨rfl,⟨rfl,abq g⟩,?_⟩
  rintro _ ⟨vs,rfl,V,aV,uV⟩
  dsimp only at V aV
  refine PEdO.ped (aav "str" (zt rfl ⟨_,rfl,aaL U1,by rw [amg];omega,.inl (by rw [amg];omega),fun es pm u1=>?_⟩))
  obtain⟨ws,pw,rfl⟩:=My.perm_map_inv pm _ rfl
  have ew:vs=ws:=aaO V (U1.perm pw) aV (fun q hq=>afF pw (a1 q hq)) uV u1
  subst ew
  obtain⟨ly,dy⟩:=qz vs
  refine⟨ly,ly,amO (apH _ _) (by show amt _+1<=_;omega),_,rfl,?_⟩
  rw [if_pos rfl,aoN _ (show (PyData.list (vs.map zD)).canLay0=true from ly),am5,if_neg amh]
  refine jY ?_
  clear ly dy pm u1 pw uV aV V
  refine ac3 (fun ρ=>ρ=[some (.dat (scr ns)),some (.dat (.int i)),some .feed,some (.dat (tab rows)),some (.dat (.int cut)),some (.dat (.list (ts.map zD))),some (.dat (.list (us1.map zD))),some (.dat (.list ((ts.map fun t=>(t.1,qh t.1 (t.2.reverse.map (tM wd)))).map zD))),x8,x9,x10]) (zS (PEdO.ped (jS (A:=zD) (B:=fun t=>zD (t.1,qh t.1 (t.2.reverse.map (tM wd)))) ts (yE (zt rfl ⟨_,rfl,rfl,by omega,?_,?_⟩))))) ?_
  ·rintro D t ρ' es ht ho hes
   have L:=T.line t ht
   have fl:=qg g L.op L.nd
   obtain⟨u,v,rfl⟩:=ho.two
   refine alX (yJ ?_)
   rw [if_pos rfl]
   refine yi hes (zm (t.1,t.2.reverse.map (tM wd)) (zE (zt rfl (zE (PEdO.ped (jS (A:=gD3) (B:=fun q=>gD3 (tM wd q)) t.2.reverse (amc (vf rfl ⟨_,rfl,List.map_reverse.symm,by rw [amZ];omega,?_,?_⟩))))))))
   ·rintro D2 q ρ2 es2 hq ho2 hes2
    obtain⟨u2,rfl⟩:=ho2.one
    refine zj (yJ ?_)
    rw [if_pos rfl]
    refine yi hes2 (zm (rows,wd,q) (ai8 rfl rfl ⟨rfl,⟨rfl,g⟩,?_⟩))
    rintro _ rfl
    exact⟨.mk1,rfl⟩
   ·refine yw ⟨rfl,⟨by rw [am9];rfl,fun z=>L.ne (apy.mp (anT.mp z)),by rw [amg,amZ];exact fl⟩,?_⟩
    rintro _ rfl
    exact⟨.mk2,rfl⟩
  ·refine zj ?_
   rw [am9]
   rfl
  rintro _ rfl
  generalize (ts.map fun t=>(t.1,qh t.1 (t.2.reverse.map (tM wd))))=us2 at *
  refine zN (aao (yC (jW (PEdO.ped (qN (yM rows,wd,cut) (zE (zm (rows,wd) (vf rfl ⟨rfl,⟨rfl,g⟩,?_⟩))))))))
  rintro _ rfl
  refine vf rfl ⟨rfl,⟨rfl,adG g⟩,?_⟩
  rintro _ ⟨vs,rfl,V,aV,uV⟩
  dsimp only at V aV
  refine PEdO.ped (aav "str" (zt rfl ⟨_,rfl,aaL U2,by rw [amg];omega,.inl (by rw [amg];omega),fun es pm u1=>?_⟩))
  obtain⟨ws,pw,rfl⟩:=My.perm_map_inv pm _ rfl
  have ew:vs=ws:=aaO V (U2.perm pw) aV (fun q hq=>afF pw (a2 q hq)) uV u1
  subst ew
  obtain⟨ly,dy⟩:=qz vs
  refine⟨ly,ly,amO (apH _ _) (by show amt _+1<=_;omega),_,rfl,?_⟩
  rw [if_pos rfl,aoN _ (show (PyData.list (vs.map zD)).canLay0=true from ly),am5,if_neg amh]
  refine jY ?_
  clear ly dy pm u1 pw uV aV V
  have row_ne:∀ r∈rows,r≠[]:=fun r hr z=>by
   have:=g.row r hr
   have:=g.w1
   rw [z,ane] at *
   omega
  refine ac3 (fun ρ=>∃ top:Int,ρ=[some (.dat (scr ns)),some (.dat (.int i)),some .feed,some (.dat (tab rows)),some (.dat (.int cut)),some (.dat (.list (ts.map zD))),some (.dat (.list (us1.map zD))),some (.dat (.list (us2.map zD))),some (.dat (.int top)),x9,x10]/\-1000000000<=top/\top<=1000000000/\∀ r∈rows,∀ n∈r,n<=top) (zS (abF (zE (aeL (zt rfl ⟨_,rfl,by rw [amg];omega,fun i e=>∃ n:Int,e=.int n/\∃ r,rows[i]?=some r/\n∈r/\∀ m∈r,m<=n,fun D i d hd=>?_,fun es hes hR=>?_⟩))))) ?_
  ·rw [aml] at hd
   cases hq:rows[i]? with
   | none=>rw [hq] at hd;cases hd
   | some r =>
    rw [hq] at hd
    cases hd
    exact abF (vf rfl ⟨r,rfl,row_ne r (amw hq),fun M hM hl=>⟨M,rfl,r,hq,hM,hl⟩⟩)
  ·obtain⟨ms,rfl,hm⟩:=afE hR
   rw [amg,amg] at hes
   refine yw ⟨ms,rfl,fun z=>?_,fun M hM hl=>zj ⟨M,rfl,?_⟩⟩
   ·have:=g.h1
    rw [z,ane] at hes
    omega
   ·obtain⟨i,hi⟩:=amK hM
    obtain⟨r,hr,mr,_⟩:=hm i M hi
    have b:=g.hgt r (amw hr) M mr
    refine⟨b.1,b.2,fun r hr n hn=>?_⟩
    obtain⟨i,hi⟩:=amK hr
    have hil:=(ami.mp hi).1
    obtain⟨r',hr',_,le⟩:=hm i ms[i] (amf (by omega))
    rw [hi] at hr'
    cases hr'
    exact apD (le n hn) (hl _ (amE _))
  rintro _ ⟨top,rfl,t0,t1,tl⟩
  refine ac3 (fun ρ=>∃ low:Int,ρ=[some (.dat (scr ns)),some (.dat (.int i)),some .feed,some (.dat (tab rows)),some (.dat (.int cut)),some (.dat (.list (ts.map zD))),some (.dat (.list (us1.map zD))),some (.dat (.list (us2.map zD))),some (.dat (.int top)),some (.dat (.int low)),x10]/\-1000000000<=low/\low<=1000000000/\∀ r∈rows,∀ n∈r,low<=n) (zS (abE (zE (aeL (zt rfl ⟨_,rfl,by rw [amg];omega,fun i e=>∃ n:Int,e=.int n/\∃ r,rows[i]?=some r/\n∈r/\∀ m∈r,n<=m,fun D i d hd=>?_,fun es hes hR=>?_⟩))))) ?_
  ·rw [aml] at hd
   cases hq:rows[i]? with
   | none=>rw [hq] at hd;cases hd
   | some r =>
    rw [hq] at hd
    cases hd
    exact abE (vf rfl ⟨r,rfl,row_ne r (amw hq),fun M hM hl=>⟨M,rfl,r,hq,hM,hl⟩⟩)
  ·obtain⟨ms,rfl,hm⟩:=afE hR
   rw [amg,amg] at hes
   refine yw ⟨ms,rfl,fun z=>?_,fun M hM hl=>zj ⟨M,rfl,?_⟩⟩
   ·have:=g.h1
    rw [z,ane] at hes
    omega
   ·obtain⟨i,hi⟩:=amK hM
    obtain⟨r,hr,mr,_⟩:=hm i M hi
    have b:=g.hgt r (amw hr) M mr
    refine⟨b.1,b.2,fun r hr n hn=>?_⟩
    obtain⟨i,hi⟩:=amK hr
    have hil:=(ami.mp hi).1
    obtain⟨r',hr',_,le⟩:=hm i ms[i] (amf (by omega))
    rw [hi] at hr'
    cases hr'
    exact apD (hl _ (amE _)) (le n hn)
  rintro _ ⟨low,rfl,l0,l1,ll⟩
  refine ac3 (fun ρ=>∃ b:Int,ρ=[some (.dat (scr ns)),some (.dat (.int i)),some .feed,some (.dat (tab rows)),some (.dat (.int cut)),some (.dat (.list (ts.map zD))),some (.dat (.list (us1.map zD))),some (.dat (.list (us2.map zD))),some (.dat (.int top)),some (.dat (.int low)),some (.dat (.int b))]/\Good wd (yU b rows)) (zS (vQ ?_)) ?_
  ·walk_at "w"
   refine zm 4 ?_
   walk_at "w"
   rintro _ ⟨q,rfl,q0,q1⟩
   have e9:(10:Int) ^ ap2 9=1000000000:=by decide
   have go:∀ b:Int,((b=1000000000 - top \/ b=0 - 1000000000 - low) \/ 0<=b/\b<=1000000000 - top)->Good wd (yU b rows):=fun b hb=>aim g fun r hr n hn=>by
    have h1:=tl r hr n hn
    have h2:=ll r hr n hn
    have h3:=g.hgt r hr n hn
    omega
   have:q=0 \/ q=1 \/ q=2 \/ q=3:=by omega
   rcases this with rfl | rfl | rfl | rfl
   ·exact⟨_,rfl,_,rfl,zj ⟨_,rfl,go _ (.inl (.inl (by rw [e9])))⟩⟩
   ·exact⟨_,rfl,_,rfl,zj ⟨_,rfl,go _ (.inl (.inr (by rw [e9])))⟩⟩
   ·exact⟨_,rfl,_,rfl,zj ⟨0,rfl,go _ (.inr ⟨by omega,by omega⟩)⟩⟩
   ·refine⟨_,rfl,_,rfl,zj ⟨_,rfl,go _ (.inr ?_)⟩⟩
    rw [e9]
    split <;> omega
  rintro _ ⟨b,rfl,gb⟩
  obtain⟨R,aR⟩:=aih (by_:=b) g T all
  refine aao (yC (jW (PEdO.ped (qN (yU b rows,wd,cut+b) (zE (zm (rows,wd,b) (ai8 rfl rfl ⟨rfl,⟨rfl,g,gb⟩,?_⟩)))))))
  rintro _ rfl
  refine zE (jf (zt rfl ⟨_,rfl,zt rfl ⟨_,rfl,yw ⟨rfl,⟨rfl,gb⟩,?_⟩⟩⟩))
  rintro _ ⟨vs,rfl,V,aV,uV⟩
  dsimp only at V aV
  have ew:vs=ts:=aaO V R aV aR uV up
  subst ew
  obtain⟨ly,dy⟩:=qz vs
  refine zt rfl ⟨ly,ly,amO (apH _ _) (by show amt _+1<=_;omega),_,rfl,?_⟩
  rw [if_pos rfl,aoN _ (show (PyData.list (vs.map zD)).canLay0=true from ly),am5,if_neg amh]
  exact jY ⟨_,_,_,_,_,_,_,_,_,_,rfl⟩
 ·rintro _ ⟨x1,x2,x3,x4,x5,x6,x7,x8,x9,x10,rfl⟩
  exact yx (akE rfl)
end
theorem _root_.L2.FnIn.m {P w K mg base j k x ps sp} (h:FnIn P w K mg base j x ps sp) (hk:j<=k:=by decide):FnIn P w K mg base k x ps sp:=h.mono hk
local macro_rules | `(tactic| walk_at "f")=>`(tactic| first | exact (fun _ _ _ _ _ _ us hl=>match us,hl with | [_],_=>rfl) | exact (fun _ _ _ _ _ _ us hl=>match us,hl with | [_,_],_=>rfl) | exact (fun _ _ _ _ _ _ us hl=>match us,hl with | [_,_,_],_=>rfl) | exact (fun _ _ _ _ _ _ us hl=>match us,hl with | [_,_,_,_],_=>rfl) | exact (fun _ _ _ _ _ _ us hl=>match us,hl with | [_,_,_,_,_],_=>rfl))
set_option autoImplicit true in
set_option relaxedAutoImplicit true in
theorem all_mk {l:PySem.W.OpenLaw} {w:World} {K:amk} {h:Heap} {mg:Str->Option Value} {fa:Addr} (X:K.In h) (G:h.Ns mainGlobals mg) (hfa:mg "law"=some (.ref fa))
  (a1:FD K "size" ab1 f1 od1 an1 sl1 oc1 kV1 dc1 pm1 cd1 ct1)
  (a2:FD K "points" vh f2 od2 an2 sl2 oc2 kV2 dc2 pm2 cd2 ct2)
  (a3:FD K "has_point" ji f3 od3 an3 sl3 oc3 kV3 dc3 pm3 cd3 ct3)
  (a4:FD K "has_cell" jH f4 od4 an4 sl4 oc4 kV4 dc4 pm4 cd4 ct4)
  (a5:FD K "corners" qs f5 od5 an5 sl5 oc5 kV5 dc5 pm5 cd5 ct5)
  (a6:FD K "ask_table" jj f6 od6 an6 sl6 oc6 kV6 dc6 pm6 cd6 ct6)
  (a7:FD K "fits" ab2 f7 od7 an7 sl7 oc7 kV7 dc7 pm7 cd7 ct7)
  (a8:FD K "is_row" vi f8 od8 an8 sl8 oc8 kV8 dc8 pm8 cd8 ct8)
  (a9:FD K "turned" vj f9 od9 an9 sl9 oc9 kV9 dc9 pm9 cd9 ct9)
  (a10:FD K "mirrored" jI f10 od10 an10 sl10 oc10 kV10 dc10 pm10 cd10 ct10)
  (a11:FD K "raised" vk f11 od11 an11 sl11 oc11 kV11 dc11 pm11 cd11 ct11)
  (a12:FD K "gates" v8 f12 od12 an12 sl12 oc12 kV12 dc12 pm12 cd12 ct12)
  (a13:FD K "stands_high" yN f13 od13 an13 sl13 oc13 kV13 dc13 pm13 cd13 ct13)
  (a14:FD K "gate_points" yO f14 od14 an14 sl14 oc14 kV14 dc14 pm14 cd14 ct14)
  (a15:FD K "has_gate" jJ f15 od15 an15 sl15 oc15 kV15 dc15 pm15 cd15 ct15)
  (a16:FD K "is_open" qt f16 od16 an16 sl16 oc16 kV16 dc16 pm16 cd16 ct16)
  (a17:FD K "cell_gates" yY f17 od17 an17 sl17 oc17 kV17 dc17 pm17 cd17 ct17)
  (a18:FD K "is_crossed" yZ f18 od18 an18 sl18 oc18 kV18 dc18 pm18 cd18 ct18)
  (a19:FD K "has_high_middle" yk f19 od19 an19 sl19 oc19 kV19 dc19 pm19 cd19 ct19)
  (a20:FD K "cell_ties" jk f20 od20 an20 sl20 oc20 kV20 dc20 pm20 cd20 ct20)
  (a21:FD K "crossed_ties" yF f21 od21 an21 sl21 oc21 kV21 dc21 pm21 cd21 ct21)
  (a22:FD K "heading" qu f22 od22 an22 sl22 oc22 kV22 dc22 pm22 cd22 ct22)
  (a23:FD K "cell_ahead" y4 f23 od23 an23 sl23 oc23 kV23 dc23 pm23 cd23 ct23)
  (a24:FD K "comes_in" jK f24 od24 an24 sl24 oc24 kV24 dc24 pm24 cd24 ct24)
  (a25:FD K "gate_ahead" y6 f25 od25 an25 sl25 oc25 kV25 dc25 pm25 cd25 ct25)
  (a26:FD K "lines" v9 f26 od26 an26 sl26 oc26 kV26 dc26 pm26 cd26 ct26)
  (a27:FD K "line_from" jl f27 od27 an27 sl27 oc27 kV27 dc27 pm27 cd27 ct27)
  (a28:FD K "_law_feed" jL f28 od28 an28 sl28 oc28 kV28 dc28 pm28 cd28 ct28)
  (a29:FD K "_law_draw" jM f29 od29 an29 sl29 oc29 kV29 dc29 pm29 cd29 ct29)
  (a30:FD K "_law_height" y7 f30 od30 an30 sl30 oc30 kV30 dc30 pm30 cd30 ct30)
  (a31:FD K "_law_table" jm f31 od31 an31 sl31 oc31 kV31 dc31 pm31 cd31 ct31)
  (a32:FD K "_law_cut" qv f32 od32 an32 sl32 oc32 kV32 dc32 pm32 cd32 ct32)
  (a33:FD K "_law_begun" jn f33 od33 an33 sl33 oc33 kV33 dc33 pm33 cd33 ct33)
  (a34:FD K "_law_turned" y8 f34 od34 an34 sl34 oc34 kV34 dc34 pm34 cd34 ct34)
  (a35:FD K "_law_mirrored" yG f35 od35 an35 sl35 oc35 kV35 dc35 pm35 cd35 ct35)
  (a36:FD K "law" vU f36 od36 an36 sl36 oc36 kV36 dc36 pm36 cd36 ct36)
  {ubn:Tok} (uaI:amU K mainGlobals "FEWEST"=some (some (.int (2) ubn)))
  {ubo:Tok} (uaJ:amU K mainGlobals "MOST"=some (some (.int (7) ubo)))
  {ubp:Tok} (uaK:amU K mainGlobals "LEAST"=some (some (.int (-1000000000) ubp)))
  {ubq:Tok} (uaL:amU K mainGlobals "GREATEST"=some (some (.int (1000000000) ubq)))
  (uaM:amU K mainGlobals "len"=some none)
  (uaN:amU K mainGlobals "min"=some none)
  (uaO:amU K mainGlobals "max"=some none)
  (uaP:amU K mainGlobals "enumerate"=some none)
  (uaQ:amU K mainGlobals "range"=some none)
  (uaR:amU K mainGlobals "all"=some none)
  (uaS:amU K mainGlobals "sum"=some none)
  (uaT:amU K mainGlobals "tuple"=some none)
  (uaU:amU K mainGlobals "set"=some none)
  (uaV:amU K mainGlobals "sorted"=some none)
  (uaW:amU K mainGlobals "abs"=some none)
  (uaX:amU K mainGlobals "reversed"=some none)
  {uar:Addr} (uaY:amU K mainGlobals "AHEAD"=some (some (.ref uar)))
  {uat:Addr} (uaZ:amU K mainGlobals "BEHIND"=some (some (.ref uat)))
  (uas:agb K uar alg=true)
  (uau:agb K uat ahW=true) :
  ∃ fd:FuncData,(∀ (s:Shared) (v:Value),BindsTo s fd ⟨[v],[]⟩ [("_law_script",v)])/\∀ base:Heap,K.In base->base.Ns mainGlobals mg->FnOk l.prog w K mg base CX0 10 fa fd pP (afz K):=by
 have ubr:Def K mg "size" ab1 pf:=yl X G a1 (by walk_at "f")
 have ubs:Def K mg "points" vh pf:=yl X G a2 (by walk_at "f")
 have ubt:Def K mg "has_point" ji pq:=yl X G a3 (by walk_at "f")
 have ubu:Def K mg "has_cell" jH pq:=yl X G a4 (by walk_at "f")
 have ubv:Def K mg "corners" qs pF:=yl X G a5 (by walk_at "f")
 have ubw:Def K mg "ask_table" jj pf:=yl X G a6 (by walk_at "f")
 have ubx:Def K mg "fits" ab2 pD:=yl X G a7 (by walk_at "f")
 have uby:Def K mg "is_row" vi ["row"]:=yl X G a8 (by walk_at "f")
 have ubz:Def K mg "turned" vj pf:=yl X G a9 (by walk_at "f")
 have ubA:Def K mg "mirrored" jI pf:=yl X G a10 (by walk_at "f")
 have ubB:Def K mg "raised" vk pJ:=yl X G a11 (by walk_at "f")
 have ubC:Def K mg "gates" v8 pz:=yl X G a12 (by walk_at "f")
 have ubD:Def K mg "stands_high" yN pE:=yl X G a13 (by walk_at "f")
 have ubE:Def K mg "gate_points" yO ["gate"]:=yl X G a14 (by walk_at "f")
 have ubF:Def K mg "has_gate" jJ pG:=yl X G a15 (by walk_at "f")
 have ubG:Def K mg "is_open" qt ph:=yl X G a16 (by walk_at "f")
 have ubH:Def K mg "cell_gates" yY ["cell"]:=yl X G a17 (by walk_at "f")
 have ubI:Def K mg "is_crossed" yZ pj:=yl X G a18 (by walk_at "f")
 have ubJ:Def K mg "has_high_middle" yk pj:=yl X G a19 (by walk_at "f")
 have ubK:Def K mg "cell_ties" jk pj:=yl X G a20 (by walk_at "f")
 have ubL:Def K mg "crossed_ties" yF pj:=yl X G a21 (by walk_at "f")
 have ubM:Def K mg "heading" qu ph:=yl X G a22 (by walk_at "f")
 have ubN:Def K mg "cell_ahead" y4 ph:=yl X G a23 (by walk_at "f")
 have ubO:Def K mg "comes_in" jK ph:=yl X G a24 (by walk_at "f")
 have ubP:Def K mg "gate_ahead" y6 ph:=yl X G a25 (by walk_at "f")
 have ubQ:Def K mg "lines" v9 pz:=yl X G a26 (by walk_at "f")
 have ubR:Def K mg "line_from" jl pK:=yl X G a27 (by walk_at "f")
 have ubS:Def K mg "_law_feed" jL pL:=yl X G a28 (by walk_at "f")
 have ubT:Def K mg "_law_draw" jM pB:=yl X G a29 (by walk_at "f")
 have ubU:Def K mg "_law_height" y7 pH:=yl X G a30 (by walk_at "f")
 have ubV:Def K mg "_law_table" jm pM:=yl X G a31 (by walk_at "f")
 have ubW:Def K mg "_law_cut" qv pN:=yl X G a32 (by walk_at "f")
 have ubX:Def K mg "_law_begun" jn pO:=yl X G a33 (by walk_at "f")
 have ubY:Def K mg "_law_turned" y8 pA:=yl X G a34 (by walk_at "f")
 have ubZ:Def K mg "_law_mirrored" yG pA:=yl X G a35 (by walk_at "f")
 have ub0:Def K mg "law" vU pP:=yl X G a36 (by walk_at "f")
 have uak:=anC X G uaI
 have ual:=anC X G uaJ
 have uam:=anC X G uaK
 have uan:=anC X G uaL
 have uaa:=amV X G uaM
 have uab:=amV X G uaN
 have uaf:=amV X G uaO
 have uay:=amV X G uaP
 have uac:=amV X G uaQ
 have uai:=amV X G uaR
 have uaA:=amV X G uaS
 have uag:=amV X G uaT
 have uaF:=amV X G uaU
 have uah:=amV X G uaV
 have uaG:=amV X G uaW
 have uaH:=amV X G uaX
 have uaB:=anC X G uaY
 have uaD:=anC X G uaZ
 have e:=hfa.symm.trans (anC X G a36.1)
 cases e
 have F0:=adQ (st:=vU) a36.2.1 a36.2.2.1 a36.2.2.2
 refine⟨anP "law" "law" (jC vU) (yA vU) (zi vU) .none kV36 dc36 pm36 an36 cd36 ct36,fun s v=>.of_eq rfl,fun base _ _=>?_⟩
 have H0:=ajB (P:=l.prog) (w:=w) (base:=base) (k:=0) ubS uaa uaG
 have H1:=ajj (P:=l.prog) (w:=w) (base:=base) (k:=0) ubT
 have H2:=aji (P:=l.prog) (w:=w) (base:=base) (k:=0) ubx uaa ⟨_,uak⟩ ⟨_,ual⟩
 have H3:=ajh (P:=l.prog) (w:=w) (base:=base) (k:=0) ubr uaa
 have H4:=alc (P:=l.prog) (w:=w) (base:=base) (k:=0) ubE
 have H5:=ajk (P:=l.prog) (w:=w) (base:=base) (k:=0) ubD
 have H6:=agq (P:=l.prog) (w:=w) (base:=base) (k:=0) ubH
 have H7:=aed (P:=l.prog) (w:=w) (base:=base) (k:=0) ubv
 have H8:=aik (P:=l.prog) (w:=w) (base:=base) (k:=0) ubX uab uag
 have H9:=aeq (P:=l.prog) (w:=w) (base:=base) (k:=0) ubY uaa
 have H10:=acn (P:=l.prog) (w:=w) (base:=base) (k:=0) ubZ uaa
 have H11:=agn (k:=1) ubU uab H1.m
 have H12:=ald (k:=1) ubW uaa H1.m
 have H13:=agm (k:=1) uby uab uaf ⟨_,uam⟩ ⟨_,uan⟩ H2.m
 have H14:=ago (k:=1) ubs uac H3.m
 have H15:=alb (k:=1) ubt H3.m
 have H16:=aeg (k:=1) ubM H5.m
 have H17:=alf (k:=1) ubJ uaA H7.m
 have H18:=ahM (k:=2) ubV uac H1.m H11.m
 have H19:=ala (k:=2) ubw uaa uay H2.m H13.m
 have H20:=ajl (k:=2) ubF uai H15.m H4.m
 have H21:=ajq (k:=2) ubu H15.m
 have H22:=ags (k:=2) ubN uaB uas H16.m
 have H23:=agr (k:=2) ubL H6.m H5.m H17.m
 have H24:=ajm (k:=3) ubG H20.m H4.m H5.m
 have H25:=ahY (k:=3) ubO uaD uau H16.m H21.m
 have H26:=agA (k:=3) ubz uac H19.m H3.m
 have H27:=adH (k:=3) ubA H19.m
 have H28:=agB (k:=3) ubB H19.m
 have H29:=ahS (k:=4) ubC H19.m H14.m H24.m
 have H30:=aee (k:=4) ubI uai H24.m H6.m
 have H31:=ahV (k:=5) ubK H30.m H23.m H6.m H24.m
 have H32:=ajv (k:=6) ubP H22.m H21.m H31.m
 have H33:=ajy (k:=7) ubR uag H32.m
 have H34:=ah6 (k:=8) ubQ uaF uah H19.m H29.m H25.m H33.m
 exact alu (k:=9) F0 uaa uac uaf uab uah uaH H0.m H1.m H18.m H12.m H34.m H8.m H9.m H10.m H26.m H27.m H28.m
theorem walk {l:PySem.W.OpenLaw} {q:Program} {loose:List Str} {XP:(Str->Option Value)->Heap->Prop} {YP:World->Heap->Prop} {d:DefRec} {K:Params->amk} (hn:l.most=some 63) (hdf:d.params.defaults=[])
  (hY:∀ (w:World) (h:Heap),YP w h->(K w.params).In h)
  (F:∀ (w:World) (mg:Str->Option Value) (fa:Addr) (h:Heap),(K w.params).In h->h.Ns mainGlobals mg->mg d.name=some (.ref fa) ->
   ∃ fd:FuncData,(∀ (s:Shared) (u:Value),BindsTo s fd ⟨[u],[]⟩ [("_law_script",u)])/\∀ base:Heap,(K w.params).In base->base.Ns mainGlobals mg->FnOk l.prog w (K w.params) mg base CX0 10 fa fd pP (afz (K w.params))) :
  PySem.W.WalkO q loose XP YP l.row.toRowW d [] (fun f vs=>PySem.call f vs) :=
 L2.walk_of (n:=63) (k:=10) (x:="_law_script") (CX:=fun _=>CX0) (sp:=fun w=>afz (K w.params)) hn (by decide) hdf ⟨rfl,by decide,by decide⟩ hY F (fun _ _ a ns hl _ hS=>⟨a,ns,rfl,hS,hl,fun _=>rfl⟩) fun _ _ _ _ _ z=>z
end My
def PySem.W.Fast.tw10362705225945121673:Nat:=0
def PySem.W.Fast.tw11916280169228772642:Nat:=0
def PySem.W.Fast.tw11965067585829224276:Nat:=0
def PySem.W.Fast.tw12596559210857106588:Nat:=0
def PySem.W.Fast.tw12599968189968252438:Nat:=0
def PySem.W.Fast.tw12600109869294290874:Nat:=0
def PySem.W.Fast.tw12660664805521937290:Nat:=0
def PySem.W.Fast.tw13167804707260127570:Nat:=0
def PySem.W.Fast.tw15065277008861486379:Nat:=0
def PySem.W.Fast.tw15809046977393853399:Nat:=0
def PySem.W.Fast.tw17040812129399972845:Nat:=0
def PySem.W.Fast.tw17151064293966390289:Nat:=0
def PySem.W.Fast.tw17436295970318332227:Nat:=0
def PySem.W.Fast.tw17525727697834397491:Nat:=0
def PySem.W.Fast.tw17620568451004321463:Nat:=0
def PySem.W.Fast.tw17877676866337506621:Nat:=0
def PySem.W.Fast.tw18094397376023406509:Nat:=0
def PySem.W.Fast.tw2189383144742674022:Nat:=0
def PySem.W.Fast.tw267723424430844310:Nat:=0
def PySem.W.Fast.tw3896973509707315548:Nat:=0
def PySem.W.Fast.tw433808468175143126:Nat:=0
def PySem.W.Fast.tw5521928555680067725:Nat:=0
def PySem.W.Fast.tw5841295667542555652:Nat:=0
def PySem.W.Fast.tw6273339302113716125:Nat:=0
def PySem.W.Fast.tw8252577469441268297:Nat:=0
open PySem PySem.W PyProof.Rows
set_option maxRecDepth 100000 in
set_option maxHeartbeats 0 in
theorem PySem.Challenge.cw_heightrings_k13_whole_lines_turned_holds : PySem.Challenge.rw_heightrings_k13_whole_lines_turned.Holds := by
 w_on;o_law;k_head;(case hw=>w_witness2)
 k_fill
 refine My.walk (l:=PySem.Challenge.rw_heightrings_k13_whole_lines_turned) rfl rfl (fun w h Y=>by first | exact PySem.W.kIn_of Y | exact PySem.W.km_in_of Y) ?F
 case F =>
  intro w mg fa h KX G hmg
  refine' My.all_mk KX G hmg ?a1 ?a2 ?a3 ?a4 ?a5 ?a6 ?a7 ?a8 ?a9 ?a10 ?a11 ?a12 ?a13 ?a14 ?a15 ?a16 ?a17 ?a18 ?a19 ?a20 ?a21 ?a22 ?a23 ?a24 ?a25 ?a26 ?a27 ?a28 ?a29 ?a30 ?a31 ?a32 ?a33 ?a34 ?a35 ?a36 ?uaI ?uaJ ?uaK ?uaL ?uaM ?uaN ?uaO ?uaP ?uaQ ?uaR ?uaS ?uaT ?uaU ?uaV ?uaW ?uaX ?uaY ?uaZ ?uas ?uau
  (case a1=>refine⟨?_,?_,?_,?_⟩ <;> k_is)
  (case a2=>refine⟨?_,?_,?_,?_⟩ <;> k_is)
  (case a3=>refine⟨?_,?_,?_,?_⟩ <;> k_is)
  (case a4=>refine⟨?_,?_,?_,?_⟩ <;> k_is)
  (case a5=>refine⟨?_,?_,?_,?_⟩ <;> k_is)
  (case a6=>refine⟨?_,?_,?_,?_⟩ <;> k_is)
  (case a7=>refine⟨?_,?_,?_,?_⟩ <;> k_is)
  (case a8=>refine⟨?_,?_,?_,?_⟩ <;> k_is)
  (case a9=>refine⟨?_,?_,?_,?_⟩ <;> k_is)
  (case a10=>refine⟨?_,?_,?_,?_⟩ <;> k_is)
  (case a11=>refine⟨?_,?_,?_,?_⟩ <;> k_is)
  (case a12=>refine⟨?_,?_,?_,?_⟩ <;> k_is)
  (case a13=>refine⟨?_,?_,?_,?_⟩ <;> k_is)
  (case a14=>refine⟨?_,?_,?_,?_⟩ <;> k_is)
  (case a15=>refine⟨?_,?_,?_,?_⟩ <;> k_is)
  (case a16=>refine⟨?_,?_,?_,?_⟩ <;> k_is)
  (case a17=>refine⟨?_,?_,?_,?_⟩ <;> k_is)
  (case a18=>refine⟨?_,?_,?_,?_⟩ <;> k_is)
  (case a19=>refine⟨?_,?_,?_,?_⟩ <;> k_is)
  (case a20=>refine⟨?_,?_,?_,?_⟩ <;> k_is)
  (case a21=>refine⟨?_,?_,?_,?_⟩ <;> k_is)
  (case a22=>refine⟨?_,?_,?_,?_⟩ <;> k_is)
  (case a23=>refine⟨?_,?_,?_,?_⟩ <;> k_is)
  (case a24=>refine⟨?_,?_,?_,?_⟩ <;> k_is)
  (case a25=>refine⟨?_,?_,?_,?_⟩ <;> k_is)
  (case a26=>refine⟨?_,?_,?_,?_⟩ <;> k_is)
  (case a27=>refine⟨?_,?_,?_,?_⟩ <;> k_is)
  (case a28=>refine⟨?_,?_,?_,?_⟩ <;> k_is)
  (case a29=>refine⟨?_,?_,?_,?_⟩ <;> k_is)
  (case a30=>refine⟨?_,?_,?_,?_⟩ <;> k_is)
  (case a31=>refine⟨?_,?_,?_,?_⟩ <;> k_is)
  (case a32=>refine⟨?_,?_,?_,?_⟩ <;> k_is)
  (case a33=>refine⟨?_,?_,?_,?_⟩ <;> k_is)
  (case a34=>refine⟨?_,?_,?_,?_⟩ <;> k_is)
  (case a35=>refine⟨?_,?_,?_,?_⟩ <;> k_is)
  (case a36=>refine⟨?_,?_,?_,?_⟩ <;> k_is)
  (case uaI=>k_is)
  (case uaJ=>k_is)
  (case uaK=>k_is)
  (case uaL=>k_is)
  (case uaM=>k_is)
  (case uaN=>k_is)
  (case uaO=>k_is)
  (case uaP=>k_is)
  (case uaQ=>k_is)
  (case uaR=>k_is)
  (case uaS=>k_is)
  (case uaT=>k_is)
  (case uaU=>k_is)
  (case uaV=>k_is)
  (case uaW=>k_is)
  (case uaX=>k_is)
  (case uaY=>k_is)
  (case uaZ=>k_is)
  (case uas=>kernel_rfl)
  (case uau=>kernel_rfl)
end
