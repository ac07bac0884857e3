import PyProof.Rows.All
import Wide.All
import OpenK.AllK
import Wide.FinOn
import Lean
import PyProof.EqAt
import PyProof.EqKinds
import PyProof.TupleCall
import KE.KTryMore
import PyProof.ExcArgs
import PyProof.ConsumeWalk
import PyProof.P3Eq
import KE.KRevIter
import PyProof.ListRange
import PyProof.Rows.SumAny
import KE.KSortTup
import PyProof.SetScanFacts
import PyProof.TupleKey
import PyProof.DictRoadsH
import PyProof.SetRoads
import KE.KTabLook
import PyProof.Rows.ListMul
import PyProof.InstStoreFacts
import PyProof.Rows.SetFrom
import PyProof.AutoListH
import PyProof.StrCalls2
import PySem.Challenge.RW_heightrings_k11_whole_each_gate_once
open List renaming getElem?_eq_getElem → alb,getElem_mem → alc,length_map → ale,getElem?_eq_some_iff → alf,getD_eq_getElem?_getD → alh,getElem?_append_right → alj,getElem?_append_left → alk,mem_cons_of_mem → alm,range → alo,mem_cons → alp,length_take → alq,length_append → alr,mem_cons_self → als,getElem?_map → alv,mem_append_right → alx,size_toArray → alA,mem_of_getElem? → alB,length_cons → alC,take_append_drop → alE,mem_map → alF,append_assoc → alH,map_cons → alI,getElem_of_mem → alJ,mem_singleton → alK,pairwise_append → alL,mem_append → alM,getElem?_eq_none → alN,take_of_length_le → alO,length_drop → alP,mem_range → alQ,getElem_take → alR,length_range → alS,mem_of_mem_take → alT,mem_of_mem_drop → alU,map_append → alX,getD → alY,pairwise_iff_getElem → alZ,getElem?_of_mem → al0,append_nil → al4,mem_append_left → al8,perm_append_comm → amc,lookup_cons → ame,take_length → amf,mem_reverse → amg,mem_flatMap → ami,toArray → amj,head?_eq_getElem? → amk,nodup_cons → aml,length_singleton → amn,flatMap_append → ams,getElem?_take_of_lt → amt,filter_cons → amv,getElem?_set_self → amw,not_mem_nil → amA,drop_zero → amD,take_append_of_le_length → amE,reverse_cons → amH,pairwise_map → amI,pairwise_cons → amS,filter_append → amV,length_filter_le → amW,getLast?_eq_getElem? → amY,mem_filter → amZ,length_nil → am0,getElem?_set_ne → am1,getElem_drop → am2,take_succ_eq_append_getElem → am3,nodup_append → am4,getElem?_range → am8,reverse_append → am9,getElem?_replicate → ane,getElem?_drop → anj,zip_cons_cons → anl,length_set → ano,drop_sublist → anr,replicate → ant,nodup_nil → anv,getElem_inj → anw,nodup_range → anx,drop_length → anz,getElem_append_right → anB,filterMap_cons → anD,length_reverse → anE,findSome?_cons → anF,forIn_cons → anI,pairwise_singleton → anK,take_sublist → anL,forIn_nil → anO,ext_getElem? → anP,map → anU,take_succ → anV,mem_of_head? → anW,length_replicate → anY,pairwise_reverse → an0,all_eq_true → aob,reverse_reverse → aod,drop_append_of_le_length → aoe,mem_erase_of_ne → aof,nil_append → aog,find?_cons → aok,range_succ → aol,map_congr_left → aon,map_nil → aop,flatMap → aoq,mem_filterMap → aos,perm_ext_iff_of_nodup → aov,drop_eq_getElem_cons → aoz,take_add_one → aoG,reverse_perm → aoH,length_erase_of_mem → aoK,getElem?_cons_succ → aoN,drop_eq_nil_of_le → aoQ,map_map → aoR,length_pos_of_mem → aoU,of_mem_zip → aoW,filter_nil → aoX,take_zero → ao3,mem_of_getLast? → ao9,length_pos_iff → apb,filter_flatMap → apd,all_cons → ape,map_take → apf,map_drop → apg,range' → apn
open Bool renaming false_ne_true → ald,and_eq_true → alu,false_eq_true → al5,not_true → amb,true_and → amm,false_and → ana,not_false → aow,and_false → ao5,and_true → api
open PySem.W renaming Frag → alg,nsIn → al3,mg_none_of → al6,kia_one → amd,keepIn → amr,fnOf → amx,mg_of → amR,findIn → anb,kitOne → anc,cellsFrom_some → anh,codeIn → aot,methodObj → aoD,specialIn → aoE,kitx_list → aoF,instObj → aoV,lookIn → ao0,Frag → apl
open Nat renaming le_refl → ali,zero_le → alD,lt_of_lt_of_le → alG,le_trans → alV,ne_of_lt → al1,add_sub_cancel_left → al9,lt_succ_of_lt → amG,not_lt_zero → amL,le_of_lt → amM,zero_add → amO,lt_irrefl → amQ,le_of_eq → ani,sub_self → ank,le_of_ble_eq_true → anp,le_of_succ_le → anM,succ_pos → anN,eq_zero_of_not_pos → anQ,sub_zero → anR,lt_succ_of_le → anT,add_assoc → aoc,lt_succ_iff → aoh,min_le_left → aom,ne_of_gt → aoo,lt_succ_iff_lt_or_eq → aoL,lt_succ_self → aoM,max_le → aoT,mul_le_mul → ao8,lt_trans → apj,le_succ → apm
open PySem.PyData renaming depthAll → aln,eqv → alW,canLayAll0 → ama,eqvAll → aoI,depth → apk
open PySem.Heap renaming get?_push_of_some → alw,lt_size → alz,get?_push_size → al7,get?_update_other → amN,SameBut → anf,get?_update_self → anZ,size_push → aou
open Array renaming length_toList → aly,getD_eq_getD_getElem? → amP,getD → amT,mem_toList_iff → ans,toList_inj → anA,forIn_toList → anJ,replicate → aoj,getElem?_eq_getElem → aoA,getElem?_toList → aoY,size_map → ao4
open PySem renaming boot_len → amh,mem_of_lookup → am7
open List.Perm renaming append_left → amo
open Classical renaming propDecidable → amq,byContradiction → amz
open PySem.PassesOwn renaming never → amu
open PyProof.Rows.SortSt renaming mk' → amy
open PySem.F renaming slot_list_append → amB,type_list_append → amC,slot_tuple_hash → amJ,plainAttrs_list → amK,slot_set_contains → anC,slot_dict_getitem → aoB,args_list_append_2 → ao2,slot_set_add → ao6,entry_list_append → apa
open Ne renaming symm → amF
open Int renaming emod_lt_of_pos → amU,toNat_natCast → am5,emod_nonneg → aoi,eq_ofNat_of_zero_le → aoO
open PySem.Builtin.Tuple renaming tupleHashOf → amX
open PyProof.Rows renaming boot_sorted → am6,boot_list → anm,callWith_type1 → anq,boot_all → aoZ
open False renaming elim → ang
open PySem.Obj renaming mapSeq → anu,putSet → aoS
open Option renaming isSome_iff_exists → anG
open PySem.SetTable renaming toList_insertAt → anH,sizeAbove → aoy,fill → aph
open PySem.SeqAt renaming eqv_refl → anS
open PySem.SeqAt.ReadsAll renaming length → aoa
open PySem.Calls renaming Name_function_global → aor,callWith_builtin → aoP,evalArgs_plain → ao1
open PySem.Builtin.Frozenset renaming oneOther → aox,addrOf → aoJ
open PySem.Builtin.SmallTypes renaming nextOf → aoC
open PyProof.Rows.KTD renaming datumAt → ao7
open PySem.Heap.SameBut renaming update → apc
set_option Elab.async false
set_option linter.all false
set_option maxRecDepth 100000
set_option maxHeartbeats 4000000
section
namespace L2
open PySem PySem.Spec PyProof.Rows
noncomputable abbrev Key:=Sum Int Str
noncomputable def ai1:Key->Value->Bool
 | .inl k,v=>Value.isInt k v
 | .inr x,v=>Value.isStrOf x v
noncomputable def ak3 (w:World):Key->Int
 | .inl k=>hashInt k
 | .inr x=>hashStr w x
theorem z8:∀ {k:Key} {v:Value},ai1 k v=true->(∃ i t,k=Sum.inl i/\v=Value.int i t) \/ (∃ x t,k=Sum.inr x/\v=Value.str x t)
 | .inl i,v,h=>by
  obtain⟨t,e⟩:=Value.isInt_shape (k:=i) (v:=v) h
  exact .inl ⟨i,t,rfl,e⟩
 | .inr x,v,h=>by
  obtain⟨t,e⟩:=Value.isStrOf_shape (x:=x) (v:=v) h
  exact .inr ⟨x,t,rfl,e⟩
theorem ajp (a b:Int):decide ((Sum.inl a:Key)=Sum.inl b)=(a == b):=by
 by_cases e:a=b
 ·subst e;simp
 ·have h:¬ (Sum.inl a:Key)=Sum.inl b:=fun q=>e (Sum.inl.inj q)
  rw [decide_eq_false h]
  exact (beq_eq_false_iff_ne.mpr e).symm
theorem ajq (a b:Str):decide ((Sum.inr a:Key)=Sum.inr b)=decide (a=b):=by
 by_cases e:a=b
 ·subst e;simp
 ·have h:¬ (Sum.inr a:Key)=Sum.inr b:=fun q=>e (Sum.inr.inj q)
  rw [decide_eq_false h,decide_eq_false e]
theorem ajr (a:Int) (b:Str):decide ((Sum.inl a:Key)=Sum.inr b)=false:=decide_eq_false (fun q=>nomatch q)
theorem ajs (a:Str) (b:Int):decide ((Sum.inr a:Key)=Sum.inl b)=false:=decide_eq_false (fun q=>nomatch q)
noncomputable def abc (prog:Program) (w:World):PySem.KeyKind prog w Key where
 is:=ai1
 hash:=ak3 w
 inj:=fun v a b ha hb=>by
  rcases z8 ha with⟨i,t,rfl,rfl⟩ | ⟨x,t,rfl,rfl⟩
  ·rcases z8 hb with⟨j,u,rfl,e⟩ | ⟨y,u,rfl,e⟩
   ·injection e with e1 _;rw [e1]
   ·exact nomatch e
  ·rcases z8 hb with⟨j,u,rfl,e⟩ | ⟨y,u,rfl,e⟩
   ·exact nomatch e
   ·injection e with e1 _;rw [e1]
 byValue:=fun k v h=>by
  rcases z8 h with⟨i,t,rfl,rfl⟩ | ⟨x,t,rfl,rfl⟩ <;> rfl
 pyHash:=fun hv h=>by
  rcases z8 hv with⟨i,t,rfl,rfl⟩ | ⟨x,t,rfl,rfl⟩
  ·exact wpAny_pyHash_int h
  ·exact wpAny_pyHash_str h
 eqBool:=fun hu hv h=>by
  rcases z8 hu with⟨i,t,rfl,rfl⟩ | ⟨x,t,rfl,rfl⟩
  ·rcases z8 hv with⟨j,u,rfl,rfl⟩ | ⟨y,u,rfl,rfl⟩
   ·rw [ajp] at h;exact wpAny_eqBool_int h
   ·rw [ajr] at h;exact SeqAt.EqAt.int_str i t y u _ _ _ _ h
  ·rcases z8 hv with⟨j,u,rfl,rfl⟩ | ⟨y,u,rfl,rfl⟩
   ·rw [ajs] at h;exact SeqAt.EqAt.str_int x t j u _ _ _ _ h
   ·rw [ajq] at h;exact wpAny_eqBool_str h
 «strs»:=fun k x t v h=>by
  rcases z8 h with⟨i,u,rfl,e⟩ | ⟨y,u,rfl,e⟩
  ·exact nomatch e
  ·injection e with e1 _
   subst e1
   cases v <;> rfl
inductive V where
 | non | bl (b:Bool) | int (i:Int) | str (x:Str) | byt (b:Array UInt8) | flt (b:UInt64) | ref (a:Addr) | ty (n:String)
 deriving DecidableEq
noncomputable def RelV:V->Value->Prop
 | .non,u=>u=Value.none
 | .bl b,u=>u=Value.bool b
 | .int i,u=>∃ t,u=Value.int i t
 | .str x,u=>∃ t,u=Value.str x t
 | .byt b,u=>∃ t,u=Value.bytes b t
 | .flt b,u=>∃ t,u=Value.float b t
 | .ref a,u=>u=Value.ref a
 | .ty n,u=>u=Value.type n
noncomputable abbrev Vals:List V->List Value->Prop:=Paired RelV
theorem Vals.length {xs:List V} {us:List Value} (r:Vals xs us):xs.length=us.length:=Paired.length r
theorem Vals.get:∀ {xs:List V} {us:List Value} {i:Nat} {x:V},Vals xs us->xs[i]?=some x->∃ u,us[i]?=some u/\RelV x u
 | _,_,_,_,.nil,e=>by simp at e
 | _,_,0,_,.cons r _,e=>by simp at e;subst e;exact⟨_,rfl,r⟩
 | _,_,i+1,x,.cons _ t,e=>by
  obtain⟨u,h1,h2⟩:=Vals.get (i:=i) (x:=x) t (by simpa using e)
  exact⟨u,by simpa using h1,h2⟩
theorem Vals.set {x:V} {u:Value} (r:RelV x u):∀ {xs:List V} {us:List Value} (i:Nat),Vals xs us->Vals (xs.set i x) (us.set i u)
 | _,_,_,.nil=>.nil
 | _,_,0,.cons _ t=>.cons r t
 | _,_,i+1,.cons q t=>.cons q (Vals.set r i t)
theorem Vals.append:∀ {xs ys:List V} {us ws:List Value},Vals xs us->Vals ys ws->Vals (xs++ys) (us++ws)
 | _,_,_,_,.nil,s=>s
 | _,_,_,_,.cons r t,s=>.cons r (Vals.append t s)
noncomputable def ajt:Option V->Option Value->Prop
 | some v,some u=>RelV v u
 | none,none=>True
 | _,_=>False
noncomputable def KV {κ:Type}:List (κ×V)->List (κ×Value)->Prop:=Paired fun (p:κ×V) (q:κ×Value)=>p.1=q.1/\RelV p.2 q.2
noncomputable def kV:Key->V
 | .inl i=>.int i
 | .inr x=>.str x
inductive HO where
  | lst (xs:List V)
  | tup (xs:List V)
  | dK (kvs:List (Key×V)) | dT (kvs:List (List Key×V))
  | set (S:Int->Bool) (n:Nat)
  | ins (C dx:Addr) (fs:List (Str×V))
  | own (x:Addr)
  | xd (fs:List (Str×V))
  | met (f x:Addr)
  | rng (lo hi:Int)
  | frz (o:Obj) (u:HO)
  | tbl (ps:Array Value)
  | ext (φ:Heap->Prop)
noncomputable abbrev Hp:=Addr->Option HO
noncomputable def upd (H:Hp) (a:Addr) (o:HO):Hp:=fun b=>if b=a then some o else H b
theorem zB {H:Hp} {a:Addr} {o:HO}:upd H a o a=some o:=by unfold upd;rw [if_pos rfl]
theorem zx {H:Hp} {a b:Addr} {o:HO} (h:b≠a):upd H a o b=H b:=by unfold upd;rw [if_neg h]
theorem zH {H:Hp} {a b:Addr} {o:HO} (h:H a=some o) (h':H b=none):a≠b:=by
 intro e;subst e;rw [h] at h';cases h'
section
variable (P:Program) (w:World)
noncomputable def ObjOk (H:Hp) (h:Heap) (a:Addr):HO->Prop
 | .lst xs=>xs.length<=sizeLine/\∃ (its:List Value) (n:Nat),Vals xs its/\h.get? a=some { cls:=.type "list",data:=.seq its.toArray n }
 | .tup xs=>xs.length<=sizeLine/\∃ its:List Value,Vals xs its/\IsTup h a its.toArray
 | .dK kvs=>kvs.length<=sizeLine/\(a == sysModules)=false/\∃ vs,KV kvs vs/\h.DictOf (abc P w) a vs
 | .dT kvs=>kvs.length<=sizeLine/\(a == sysModules)=false/\∃ xs:List (List Key×Addr×Value),
   Paired (fun (p:List Key×V) (q:List Key×Addr×Value)=>p.1=q.1/\H q.2.1=some (.tup (p.1.map kV))/\RelV p.2 q.2.2) kvs xs /\
   ∃ o es ep,h.get? a=some o/\o.ExactDict/\o.data=.dict es ep/\es.toList=xs.map (entryOfKey (tupleKind (abc P w)))/\(xs.map (·.1)).Nodup
 | .set S n=>h.SetOf (intKind P w) a S n
 | .ins C dx fs=>H dx=some (.own a)/\fs.length<=1000/\dx≠a/\h.get? a=some (aoV C dx) /\
   ∃ mA,h.Ns1 dx mA/\(∀ f,ajt (fs.lookup f) (mA f))/\PySem.Within mA (fs.map (·.1))
 | .own _=>∃ o,h.get? a=some o
 | .xd fs=>∃ mA,h.Ns1 a mA/\∀ f,ajt (fs.lookup f) (mA f)
 | .rng lo hi=>∃ t u v,h.get? a=some { cls:=.type "range",data:=.fields #[.int lo t,.int hi u,.int 1 v] }
 | .frz o u=>h.get? a=some o/\ObjOk H h a u
 | .tbl ps=>h.get? a=some { cls:=.none,data:=.fields ps }
 | .met f x=>h.get? a=some (aoD (.ref f) (.ref x))
 | .ext φ=>φ h/\(∃ o,h.get? a=some o)/\∀ h1 h2:Heap,φ h1->(∀ o,h1.get? a=some o->h2.get? a=some o)->φ h2
noncomputable def HOk (H:Hp) (h:Heap):Prop:=∀ a o,H a=some o->ObjOk P w H h a o
end
section
variable {P:Program} {w:World} {H H':Hp} {h h':Heap} {a:Addr} {o:HO}
theorem ObjOk.lt (x:ObjOk P w H h a o):a<h.objs.size:=by
 cases o with
 | lst xs=>obtain⟨_,_,_,_,e⟩:=x;exact alz e
 | tup xs=>obtain⟨_,_,_,p⟩:=x;exact p.lt
 | dK kvs=>obtain⟨_,_,_,_,o,_,_,e,_⟩:=x;exact alz e
 | dT kvs=>obtain⟨_,_,_,_,o,_,_,e,_⟩:=x;exact alz e
 | set S n=>obtain⟨o,_,_,_,e,_⟩:=x;exact alz e
 | ins C dx fs=>obtain⟨_,_,_,e,_⟩:=x;exact alz e
 | own y=>obtain⟨_,e⟩:=x;exact alz e
 | xd fs=>obtain⟨_,⟨_,_,_,e,_⟩,_⟩:=x;exact alz e
 | rng lo hi=>obtain⟨_,_,_,e⟩:=x;exact alz e
 | frz ob u=>obtain⟨e,_⟩:=x;exact alz e
 | tbl ps=>exact alz (show h.get? a=some _ from x)
 | met f y=>exact alz (show h.get? a=some _ from x)
 | ext φ=>obtain⟨_,⟨_,e⟩,_⟩:=x;exact alz e
theorem Paired.mapP {α β:Type} {F G:α->β->Prop}:∀ {l₁:List α} {l₂:List β},Paired F l₁ l₂->(∀ a b,F a b->G a b)->Paired G l₁ l₂
 | _,_,.nil,_=>.nil
 | _,_,.cons r t,f=>.cons (f _ _ r) (Paired.mapP t f)
theorem ObjOk.stay (x:ObjOk P w H h a o) (k:∀ b u,(b=a \/ H b=some (.own a))->h.get? b=some u->h'.get? b=some u)
  (ho:∀ b,H b=some (.own a)->H' b=some (.own a)) (ht:∀ b xs,H b=some (.tup xs)->H' b=some (.tup xs)):ObjOk P w H' h' a o:=by
 induction o with
 | lst xs=>obtain⟨z,its,n,r,e⟩:=x;exact⟨z,its,n,r,k _ _ (.inl rfl) e⟩
 | tup xs=>obtain⟨z,its,r,ob,e,c⟩:=x;exact⟨z,its,r,ob,k _ _ (.inl rfl) e,c⟩
 | dK kvs=>obtain⟨z,y,vs,r,ob,es,ep,e,c⟩:=x;exact⟨z,y,vs,r,ob,es,ep,k _ _ (.inl rfl) e,c⟩
 | dT kvs =>
  obtain⟨z,y,xs,r,ob,es,ep,e,c⟩:=x
  exact⟨z,y,xs,Paired.mapP r fun p q z=>⟨z.1,ht _ _ z.2.1,z.2.2⟩,ob,es,ep,k _ _ (.inl rfl) e,c⟩
 | set S n=>obtain⟨ob,es,ep,t,e,c⟩:=x;exact⟨ob,es,ep,t,k _ _ (.inl rfl) e,c⟩
 | ins C dx fs =>
  obtain⟨d,z,ne,e,mA,⟨od,es,ep,e2,c⟩,r⟩:=x
  exact⟨ho _ d,z,ne,k _ _ (.inl rfl) e,mA,⟨od,es,ep,k _ _ (.inr d) e2,c⟩,r⟩
 | own y=>obtain⟨ob,e⟩:=x;exact⟨ob,k _ _ (.inl rfl) e⟩
 | xd fs=>obtain⟨mA,⟨od,es,ep,e,c⟩,r⟩:=x;exact⟨mA,⟨od,es,ep,k _ _ (.inl rfl) e,c⟩,r⟩
 | rng lo hi=>obtain⟨t,u,v,e⟩:=x;exact⟨t,u,v,k _ _ (.inl rfl) e⟩
 | frz ob u ih=>obtain⟨e,q⟩:=x;exact⟨k _ _ (.inl rfl) e,ih q⟩
 | tbl ps =>
  have e:h.get? a=some { cls:=.none,data:=.fields ps }:=x
  show h'.get? a=some { cls:=.none,data:=.fields ps }
  exact k a _ (.inl rfl) e
 | met f y =>
  have e:h.get? a=some (aoD (.ref f) (.ref y)):=x
  show h'.get? a=some (aoD (.ref f) (.ref y))
  exact k a _ (.inl rfl) e
 | ext φ=>obtain⟨p,⟨o,e⟩,st⟩:=x;exact⟨st _ _ p fun o q=>k _ _ (.inl rfl) q,⟨o,k _ _ (.inl rfl) e⟩,st⟩
theorem HOk.lt (x:HOk P w H h) (e:H a=some o):a<h.objs.size:=(x a o e).lt
theorem HOk.fresh (x:HOk P w H h) (e:h.objs.size<=a):H a=none:=by
 cases q:H a with
 | none=>rfl
 | some u=>exact absurd (alG (x.lt q) e) (amQ _)
theorem HOk.kept (x:HOk P w H h) (k:∀ b u,h.get? b=some u->h'.get? b=some u):HOk P w H h':=fun a o e =>
 (x a o e).stay (fun b u _ q=>k b u q) (fun _ q=>q) fun _ _ q=>q
theorem HOk.laid (x:HOk P w H h) (k:∀ b u,h.get? b=some u->h'.get? b=some u) (hp:h.objs.size<=a) (new:ObjOk P w (upd H a o) h' a o):HOk P w (upd H a o) h':=fun b u e=>by
 have hn:=x.fresh hp
 by_cases hb:b=a
 ·subst hb;rw [zB] at e;cases e;exact new
 ·rw [zx hb] at e
  exact (x b u e).stay (fun c v _ q=>k c v q) (fun c q=>by rw [zx (zH q hn)];exact q) fun c xs q=>by rw [zx (zH q hn)];exact q
end
noncomputable def Rd (H:Hp) (a:Addr) (u:HO):Prop:=H a=some u \/ ∃ o,H a=some (.frz o u)
theorem Rd.ok {P:Program} {w:World} {H:Hp} {h:Heap} {a:Addr} {u:HO} (r:Rd H a u) (x:HOk P w H h):ObjOk P w H h a u:=by
 rcases r with r | ⟨o,r⟩
 ·exact x a u r
 ·obtain⟨_,q⟩:=x a _ r
  exact q
noncomputable def Mut:Option HO->Prop
 | some (.lst _)=>True
 | some (.dK _)=>True
 | some (.dT _)=>True
 | some (.set _ _)=>True
 | some (.ins _ _ _)=>True
 | some (.ext _)=>True
 | _=>False
section
variable {P:Program} {w:World} {H:Hp} {h h':Heap} {x e:Addr} {o':HO}
theorem HOk.write (ok:HOk P w H h) (mu:Mut (H x)) (he:e=x \/ H e=some (.own x)) (k:∀ b u,b≠e->h.get? b=some u->h'.get? b=some u) (heo:∃ u,h'.get? e=some u)
  (new:ObjOk P w (upd H x o') h' x o'):HOk P w (upd H x o') h':=fun b u q=>by
 have nown:∀ c y,H c=some (.own y)->c≠x:=fun c y r z=>by subst z;rw [r] at mu;exact mu
 have ntup:∀ c xs,H c=some (.tup xs)->c≠x:=fun c xs r z=>by subst z;rw [r] at mu;exact mu
 by_cases hb:b=x
 ·subst hb;rw [zB] at q;cases q;exact new
 ·rw [zx hb] at q
  by_cases hbe:b=e
  ·have q':H b=some (.own x):=by
    rcases he with z | z
    ·exact absurd (hbe.trans z) hb
    ·rw [hbe];exact z
   rw [q] at q';cases q'
   obtain⟨v,hv⟩:=heo
   exact⟨v,by rw [hbe];exact hv⟩
  ·refine (ok b u q).stay (fun c v hc r=>k c v ?_ r) (fun c r=>by rw [zx (nown c b r)];exact r) fun c xs r=>by rw [zx (ntup c xs r)];exact r
   rcases hc with rfl | hc
   ·exact hbe
   ·rintro rfl
    rcases he with z | z
    ·exact nown c b hc z
    ·rw [hc] at z;cases z;exact hb rfl
end
structure Un (fs ex:List Addr) (H H':Hp) (h h':Heap):Prop where
 keep:∀ b o,h.get? b=some o->H b=none->b∉fs->b∉ex->h'.get? b=some o
 slot:∀ b o,h.get? b=some o->H b=none->b∈fs->b∉ex->∃ sl,h'.get? b=some { o with slots:=sl }
 free:∀ b o,h.get? b=some o->H b=none->b∉ex->H' b=none
 there:∀ b o,h.get? b=some o->b∉ex->∃ o',h'.get? b=some o'
 tups:∀ b xs,H b=some (.tup xs)->H' b=some (.tup xs)
 frzs:∀ b o u,H b=some (.frz o u)->H' b=some (.frz o u)
 tbls:∀ b ps,H b=some (.tbl ps)->∃ more,H' b=some (.tbl (ps++more))
section
variable {fs fs' ex ex':List Addr} {H H1 H2:Hp} {h h1 h2 h':Heap} {a x e:Addr} {o:HO}
theorem Un.any (u:Un fs ex H H1 h h1) {b:Addr} {ob:Obj} (q:h.get? b=some ob) (n:H b=none) (hx:b∉ex):∃ sl,h1.get? b=some { ob with slots:=sl }:=by
 by_cases hb:b∈fs
 ·exact u.slot b ob q n hb hx
 ·exact⟨ob.slots,u.keep b ob q n hb hx⟩
theorem Un.kept (k:∀ b u,h.get? b=some u->h'.get? b=some u):Un fs ex H H h h' :=
 ⟨fun b ob q _ _ _=>k b ob q,fun b ob q _ _ _=>⟨ob.slots,k b ob q⟩,fun _ _ _ n _=>n,fun b ob q _=>⟨ob,k b ob q⟩,fun _ _ q=>q,fun _ _ _ q=>q,fun _ ps q=>⟨#[],by rw [q];simp⟩⟩
theorem Un.refl:Un fs ex H H h h:=Un.kept fun _ _ q=>q
theorem Un.laid (k:∀ b u,h.get? b=some u->h'.get? b=some u) (hp:h.objs.size<=a) (hn:H a=none):Un fs ex H (upd H a o) h h' where
 keep:=fun b u q _ _ _=>k b u q
 slot:=fun b u q _ _ _=>⟨u.slots,k b u q⟩
 free:=fun b u q n _=>by rw [zx (al1 (alG (alz q) hp))];exact n
 there:=fun b u q _=>⟨u,k b u q⟩
 tups:=fun b xs q=>by rw [zx (zH q hn)];exact q
 frzs:=fun b u xs q=>by rw [zx (zH q hn)];exact q
 tbls:=fun b ps q=>⟨#[],by rw [zx (zH q hn),q];simp⟩
theorem Un.write (mu:Mut (H x)) (he:e=x \/ H e=some (.own x)) (k:∀ b u,b≠e->h.get? b=some u->h'.get? b=some u) (heo:∃ u,h'.get? e=some u):Un fs ex H (upd H x o) h h':=by
 have hx:∀ b,H b=none->b≠x:=fun b n z=>by subst z;rw [n] at mu;exact mu
 have hb:∀ b,H b=none->b≠e:=fun b n z=>by
  subst z
  rcases he with r | r
  ·exact hx b n r
  ·rw [n] at r;cases r
 have hm:∀ b u,H b=some u->¬ Mut (some u)->b≠x:=fun b u q nm z=>by subst z;rw [q] at mu;exact nm mu
 refine⟨fun b u q n _ _=>k b u (hb b n) q,fun b u q n _ _=>⟨u.slots,k b u (hb b n) q⟩,fun b u q n _=>by rw [zx (hx b n)];exact n,fun b u q _=>?_,
  fun b xs q=>by rw [zx (hm b _ q fun z=>z)];exact q,fun b u xs q=>by rw [zx (hm b _ q fun z=>z)];exact q,fun b ps q=>⟨#[],by rw [zx (hm b _ q fun z=>z),q];simp⟩⟩
 by_cases hbe:b=e
 ·subst hbe;exact heo
 ·exact⟨u,k b u hbe q⟩
end
noncomputable def trk (h:Heap) (H:Hp):List Addr:=(alo h.objs.size).filter fun a=>(H a).isSome
noncomputable def abd (h:Heap) (H:Hp):Heap:=PySem.W.hideAll h (trk h H)
theorem ae7 (h:Heap) (H:Hp):(abd h H).objs.size=h.objs.size:=PySem.W.hideAll_size _ _
theorem af4 {h:Heap} {H:Hp} {b:Addr} {o:Obj} (e:h.get? b=some o) (n:H b=none):(abd h H).get? b=some o :=
 PySem.W.hideAll_get _ e fun hm=>by
  have q:(H b).isSome=true:=(amZ.mp hm).2
  rw [n] at q;simp at q
theorem ahL {h:Heap} {H:Hp} {b:Addr} {o:Obj} (e:(abd h H).get? b=some o):h.get? b=some o/\H b=none:=by
 have e':h.get? b=some o:=PySem.W.of_hideAll (trk h H) e
 refine⟨e',?_⟩
 cases q:H b with
 | none=>rfl
 | some x =>
  have hm:b∈trk h H:=amZ.mpr ⟨alQ.mpr (alz e'),by simp [q]⟩
  have z:(abd h H).get? b=none:=PySem.W.hideAll_none (trk h H) hm
  rw [z] at e;cases e
noncomputable def ahM (g h:Heap) (L:Addr):List (Addr×Obj):=(alo h.objs.size).filterMap fun a=>if a=L \/ (g.get? a).isSome=true then none else (h.get? a).map fun o=>(a,o)
noncomputable def rest (g h:Heap) (L d:Addr):List (Addr×Obj):=(ahM g h L).filter fun p=>decide (p.1≠d)
structure Mod (K:alg) (mg:Str->Option Value) (base:Heap):Prop where
 kin:K.In base
 glob:base.Ns mainGlobals mg
 blt:∃ mb,base.Ns builtinsNs mb/\∀ x:Str,x ≠ "__name__"->mb x=bootBuiltins x
 nolimit:base.NoLimit
structure Cx where
 prog:Program
 w:World
 K:alg
 mg:Str->Option Value
 base:Heap
 A:Around
 N:List Str
 s₀:Shared
 H₀:Hp
 env:Env
 outer:List Env
 stack:List Env
 ex:List Addr
 fn:Str->Bool
 calm:Bool
 pn:List (Addr×Obj)
 xe:Value->Shared->Prop
noncomputable def frs (l:List Env):List Addr:=l.filterMap (·.frame)
noncomputable abbrev Cx.fs (X:Cx):List Addr:=frs X.outer
noncomputable def Vis (sc:Scope) (x:Str):Prop:=sc.names.lookup x=some .local \/ sc.names.lookup x=some .cell \/ sc.names.lookup x=some .free
noncomputable def Loc (sc:Scope) (x:Str):Prop:=sc.names.lookup x=some .local \/ sc.names.lookup x=some .cell
noncomputable def Look (env:Env) (h:Heap) (m:Str->Option Value) (x:Str) (u:Value):Prop :=
 (env.kindOf x=some .local/\m x=some u) \/ ((env.kindOf x=some .cell \/ env.kindOf x=some .free)/\∃ c,env.cells.lookup x=some c/\h.IsCell c (some u))
structure Cx.Ok (X:Cx):Prop where
 mod:Mod X.K X.mg X.base
 kind:X.env.scope.kind=.function
 glob:X.env.globals=mainGlobals
 blt:X.env.builtins=builtinsNs
 above:X.s₀.heap.objs.size<=X.env.locals
 inj:∀ x y c,X.env.cells.lookup x=some c->X.env.cells.lookup y=some c->x=y
 has:∀ x,(X.env.kindOf x=some .cell \/ X.env.kindOf x=some .free)->∃ c,X.env.cells.lookup x=some c
 cab:∀ x c,X.fn x=true->X.env.cells.lookup x=some c->X.s₀.heap.objs.size<=c
 hd:X.calm=true->X.A.handled=none
 frames:X.A.frames=some X.stack
 stk:X.stack=X.outer \/ (X.stack=X.env :: X.outer/\X.env.frame=some X.env.locals)
 exf:∀ b∈X.ex,b≠X.env.locals/\∀ x c,X.env.cells.lookup x=some c->c≠b
 bs:∀ b o,X.base.get? b=some o->X.s₀.heap.get? b=some o/\X.H₀ b=none
 bsz:X.base.objs.size<=X.s₀.heap.objs.size
 noex:∀ b o,X.base.get? b=some o->b∉X.ex
 exfs:∀ b∈X.ex,b∉X.fs
 funs:X.s₀.heap.FunFrames X.base X.outer
 frf:∀ b∈X.fs,X.H₀ b=none
structure Inv (X:Cx) (pins:List (Addr×Obj)) (σ:List (Option V)) (H:Hp) (s:Shared):Prop where
 ok:X.Ok
 os:s.os=X.s₀.os
 bare:AllBare s.gens
 base:Un X.fs X.ex X.H₀ H X.s₀.heap s.heap
 loc:∃ m,s.heap.Ns X.env.locals m/\∀ (i:Nat) (x:Str) (v:V),X.N[i]?=some x->σ[i]?=some (some v)->Vis X.env.scope x->∃ u,RelV v u/\Look X.env s.heap m x u
 cell:∀ x c,X.env.cells.lookup x=some c->∃ v,s.heap.IsCell c v
 free:H X.env.locals=none
 freeC:∀ x c,X.env.cells.lookup x=some c->H c=none
 pin:∀ p∈X.pn++pins,s.heap.get? p.1=some p.2/\H p.1=none/\p.1≠X.env.locals/\p.1∉X.fs/\∀ v,p.2.data≠.cell v
 hok:HOk X.prog X.w H s.heap
 len:σ.length=X.N.length
section
variable {X:Cx} {pins:List (Addr×Obj)} {σ:List (Option V)} {H H':Hp} {s:Shared} {h':Heap}
theorem Cx.Ok.nofr (ok:X.Ok) {b:Addr} {o:Obj} (e:X.base.get? b=some o):b∉X.fs:=fun hb=>by
 have:=(ok.funs.mem hb).1
 rw [e] at this;cases this
theorem Inv.bs (I:Inv X pins σ H s):∀ b o,X.base.get? b=some o->s.heap.get? b=some o/\H b=none:=fun b o e =>
 ⟨I.base.keep b o (I.ok.bs b o e).1 (I.ok.bs b o e).2 (I.ok.nofr e) (I.ok.noex b o e),I.base.free b o (I.ok.bs b o e).1 (I.ok.bs b o e).2 (I.ok.noex b o e)⟩
theorem Inv.bk (I:Inv X pins σ H s):∀ b o,X.base.get? b=some o->s.heap.get? b=some o:=fun b o e=>(I.bs b o e).1
theorem Inv.mod (I:Inv X pins σ H s):Mod X.K X.mg X.base:=I.ok.mod
theorem Inv.kIn (I:Inv X pins σ H s):X.K.In s.heap:=I.ok.mod.kin.keeps I.bk
theorem Inv.fr (I:Inv X pins σ H s):∃ m,Fr X.base X.env.locals s.heap m :=
 let⟨m,hn,_⟩:=I.loc
 ⟨m,hn,I.bk,alV I.ok.bsz I.ok.above⟩
theorem Inv.lt (I:Inv X pins σ H s):X.env.locals<s.heap.objs.size:=let⟨_,hn,_⟩:=I.loc;hn.lt
theorem Inv.sz (I:Inv X pins σ H s):X.s₀.heap.objs.size<=s.heap.objs.size:=alV I.ok.above (amM I.lt)
theorem Inv.nofs (I:Inv X pins σ H s) {a:Addr} (h:s.heap.objs.size<=a):a∉X.fs:=fun hb=>by
 obtain⟨_,o,ho,_⟩:=I.ok.funs.mem hb
 exact absurd (alG (alz ho) (alV I.sz h)) (amQ _)
theorem Inv.cne (I:Inv X pins σ H s):∀ x c,X.env.cells.lookup x=some c->c≠X.env.locals:=fun x c e z=>by
 obtain⟨v,o,ho,hd⟩:=I.cell x c e
 obtain⟨m,⟨o',es,ep,ho',hd',_⟩,_⟩:=I.loc
 rw [z,ho'] at ho;cases ho;rw [hd'] at hd;cases hd
theorem Inv.funs (I:Inv X pins σ H s):s.heap.FunFrames X.base X.outer:=by
 have all:∀ (l:List Env),(∀ b∈frs l,b∈X.fs)->X.s₀.heap.FunFrames X.base l->s.heap.FunFrames X.base l:=by
  intro l
  induction l with
  | nil=>intro _ _;trivial
  | cons env r ih =>
   intro hs hl
   obtain⟨hk,⟨L,o,hf,hn,ho,hd⟩,hr⟩:=hl
   have hL:L∈X.fs:=hs L (by unfold frs;rw [anD,hf];exact als)
   obtain⟨sl,e⟩:=I.base.slot L o ho (I.ok.frf L hL) hL fun z=>I.ok.exfs L z hL
   exact⟨hk,⟨L,_,hf,hn,e,hd⟩,ih (fun b hb=>hs b (by unfold frs;rw [anD,hf];exact alm _ hb)) hr⟩
 exact all X.outer (fun _ hb=>hb) I.ok.funs
theorem Inv.stack (I:Inv X pins σ H s):s.heap.FunFrames X.base X.stack:=by
 rcases I.ok.stk with e | ⟨e,hf⟩
 ·rw [e];exact I.funs
 ·rw [e]
  obtain⟨m,hn,_⟩:=I.loc
  refine .cons (by rw [I.ok.kind];decide) hf hn ?_ I.funs
  exact Heap.get?_none_of_le (alV I.ok.bsz I.ok.above)
theorem Inv.stkSub (I:Inv X pins σ H s):∀ b∈frs X.stack,b∈X.env.locals :: X.fs:=fun b hb=>by
 rcases I.ok.stk with e | ⟨e,hf⟩
 ·rw [e] at hb;exact alm _ hb
 ·rw [e] at hb
  unfold frs at hb
  rw [anD,hf] at hb
  exact hb
theorem Inv.stkFree (I:Inv X pins σ H s):∀ b∈frs X.stack,H b=none:=fun b hb=>by
 rcases alp.mp (I.stkSub b hb) with e | hb
 ·rw [e];exact I.free
 ·obtain⟨_,o,ho,_⟩:=I.ok.funs.mem hb
  exact I.base.free b o ho (I.ok.frf b hb) fun z=>I.ok.exfs b z hb
theorem Inv.step {g':Array GenState} {t':Nat} {d':Drawn} {ch:List Addr} (I:Inv X pins σ H s)
  (hch:∀ b∈ch,(b∈X.ex \/ X.s₀.heap.objs.size<=b)/\b≠X.env.locals/\(∀ x c,X.env.cells.lookup x=some c->c≠b)/\∀ p∈X.pn++pins,p.1≠b)
  (keep:∀ b o,b≠X.env.locals->b∉X.fs->b∉ch->s.heap.get? b=some o->H b=none->h'.get? b=some o)
  (slot:∀ b o,b≠X.env.locals->b∈X.fs->b∉ch->s.heap.get? b=some o->H b=none->∃ sl,h'.get? b=some { o with slots:=sl }) (free:∀ b o,b∉ch->s.heap.get? b=some o->H b=none->H' b=none)
  (there:∀ b o,b∉ch->s.heap.get? b=some o->∃ o',h'.get? b=some o')
  (tups:∀ b xs,H b=some (.tup xs)->H' b=some (.tup xs)) (frzs:∀ b o u,H b=some (.frz o u)->H' b=some (.frz o u)) (tbls:∀ b ps,H b=some (.tbl ps)->∃ more,H' b=some (.tbl (ps++more)))
  (ns:∀ m,s.heap.Ns X.env.locals m->h'.Ns X.env.locals m) (hok:HOk X.prog X.w H' h') (hg:AllBare g') :
  Inv X pins σ H' { s with heap:=h',gens:=g',drawn:=d',toks:=t' }:=by
 have neL:∀ b o,X.s₀.heap.get? b=some o->b≠X.env.locals:=fun b o e=>al1 (alG (alz e) I.ok.above)
 have neC:∀ b o,X.s₀.heap.get? b=some o->b∉X.ex->b∉ch:=fun b o e hx hb=>by
  rcases (hch b hb).1 with z | z
  ·exact hx z
  ·exact absurd (alG (alz e) z) (amQ _)
 have cellK:∀ x c,X.env.cells.lookup x=some c->∀ v,s.heap.IsCell c v->h'.IsCell c v:=fun x c e v ⟨o,ho,hd⟩=>by
  have nch:c∉ch:=fun z=>(hch c z).2.2.1 x c e rfl
  by_cases hc:c∈X.fs
  ·obtain⟨sl,q⟩:=slot c o (I.cne x c e) hc nch ho (I.freeC x c e)
   exact⟨_,q,hd⟩
  ·exact⟨o,keep c o (I.cne x c e) hc nch ho (I.freeC x c e),hd⟩
 refine⟨I.ok,I.os,hg,⟨fun b o e n hb hx=>?_,fun b o e n hb hx=>?_,fun b o e n hx=>?_,fun b o e hx=>?_,fun b xs e=>tups b xs (I.base.tups b xs e),fun b o xs e=>frzs b o xs (I.base.frzs b o xs e),fun b ps e=>?_⟩,?_,fun x c e=>?_,?_,fun x c e=>?_,fun p hp=>?_,hok,I.len⟩
 ·exact keep b o (neL b o e) hb (neC b o e hx) (I.base.keep b o e n hb hx) (I.base.free b o e n hx)
 ·obtain⟨sl,e1⟩:=I.base.slot b o e n hb hx
  obtain⟨sl',e2⟩:=slot b _ (neL b o e) hb (neC b o e hx) e1 (I.base.free b o e n hx)
  exact⟨sl',e2⟩
 ·obtain⟨o',e1⟩:=I.base.there b o e hx
  exact free b o' (neC b o e hx) e1 (I.base.free b o e n hx)
 ·obtain⟨o',e1⟩:=I.base.there b o e hx
  exact there b o' (neC b o e hx) e1
 ·obtain⟨m1,e1⟩:=I.base.tbls b ps e
  obtain⟨m2,e2⟩:=tbls b _ e1
  exact⟨m1++m2,by rw [e2,Array.append_assoc]⟩
 ·obtain⟨m,hn,hl⟩:=I.loc
  refine⟨m,ns m hn,fun i x v e1 e2 e3=>?_⟩
  obtain⟨u,r,l⟩:=hl i x v e1 e2 e3
  refine⟨u,r,?_⟩
  rcases l with l | ⟨k,c,e,z⟩
  ·exact .inl l
  ·exact .inr ⟨k,c,e,cellK x c e _ z⟩
 ·obtain⟨v,z⟩:=I.cell x c e
  exact⟨v,cellK x c e v z⟩
 ·obtain⟨m,⟨o,_,_,ho,_⟩,_⟩:=I.loc
  exact free _ o (fun z=>(hch _ z).2.1 rfl) ho I.free
 ·obtain⟨v,o,ho,hd⟩:=I.cell x c e
  exact free c o (fun z=>(hch c z).2.2.1 x c e rfl) ho (I.freeC x c e)
 ·obtain⟨e,n,ne,nf,d⟩:=I.pin p hp
  have nch:p.1∉ch:=fun z=>(hch p.1 z).2.2.2 p hp rfl
  exact⟨keep p.1 p.2 ne nf nch e n,free p.1 p.2 nch e n,ne,nf,d⟩
theorem Inv.un {t':Nat} (I:Inv X pins σ H s) (u:Un X.fs [] H H' s.heap h') (hok:HOk X.prog X.w H' h'):Inv X pins σ H' { s with heap:=h',toks:=t' }:=by
 obtain⟨m,⟨o,es,ep,ho,r⟩,_⟩:=id I.loc
 obtain⟨sl,hL⟩:=u.any ho I.free (by simp)
 exact I.step (g':=s.gens) (d':=s.drawn) (ch:=[]) (fun _ z=>nomatch z) (fun b o _ hb _ e n=>u.keep b o e n hb (by simp)) (fun b o _ hb _ e n=>u.slot b o e n hb (by simp)) (fun b o _ e n=>u.free b o e n (by simp)) (fun b o _ e=>u.there b o e (by simp)) u.tups u.frzs u.tbls (fun m' hm=>by
  obtain⟨o',es',ep',ho',r'⟩:=hm
  rw [ho] at ho';cases ho'
  exact⟨_,es',ep',hL,r'⟩) hok I.bare
theorem Inv.call {g':Array GenState} {t':Nat} {d':Drawn} {ch:List Addr} (I:Inv X pins σ H s) (u:Un (frs X.stack) ch H H' s.heap h') (hok:HOk X.prog X.w H' h') (hg:AllBare g')
  (hch:∀ b∈ch,(b∈X.ex \/ X.s₀.heap.objs.size<=b)/\b≠X.env.locals/\(∀ x c,X.env.cells.lookup x=some c->c≠b)/\∀ p∈X.pn++pins,p.1≠b) :
  Inv X pins σ H' { s with heap:=h',gens:=g',drawn:=d',toks:=t' }:=by
 obtain⟨m,⟨o,es,ep,ho,r⟩,_⟩:=id I.loc
 obtain⟨sl,hL⟩:=u.any ho I.free fun z=>(hch _ z).2.1 rfl
 exact I.step (ch:=ch) hch (fun b o hL hb hc e n=>u.keep b o e n (fun z=>(alp.mp (I.stkSub b z)).elim hL hb) hc) (fun b o _ _ hc e n=>u.any e n hc) (fun b o hc e n=>u.free b o e n hc) (fun b o hc e=>u.there b o e hc) u.tups u.frzs u.tbls (fun m' hm=>by
  obtain⟨o',es',ep',ho',r'⟩:=hm
  rw [ho] at ho';cases ho'
  exact⟨_,es',ep',hL,r'⟩) hok hg
theorem Inv.turned {t':Nat} {it:Addr} (I:Inv X pins σ H s) (k:∀ b o,b≠it->s.heap.get? b=some o->h'.get? b=some o) (hn:H it=none) (hL:it≠X.env.locals)
  (h1:it∈X.ex \/ X.s₀.heap.objs.size<=it) (h2:∀ x c,X.env.cells.lookup x=some c->c≠it) (h3:∀ p∈X.pn++pins,p.1≠it):Inv X pins σ H { s with heap:=h',toks:=t' }:=by
 have nit:∀ b u,H b=some u->b≠it:=fun b u e z=>by rw [z,hn] at e;cases e
 refine I.step (g':=s.gens) (d':=s.drawn) (ch:=[it]) (fun b hb=>?_) (fun b o _ _ hc e _=>k b o (fun z=>hc (by simp [z])) e) (fun b o _ _ hc e _=>⟨o.slots,k b o (fun z=>hc (by simp [z])) e⟩) (fun _ _ _ _ n=>n)
  (fun b o hc e=>⟨o,k b o (fun z=>hc (by simp [z])) e⟩) (fun _ _ e=>e) (fun _ _ _ e=>e) (fun b ps e=>⟨#[],by rw [e];simp⟩) (fun m hm=>?_) (fun b u e=>?_) I.bare
 ·have e:b=it:=by simpa using hb
  subst e
  exact⟨h1,hL,h2,h3⟩
 ·obtain⟨o,es,ep,ho,r⟩:=hm
  exact⟨o,es,ep,k _ o (amF hL) ho,r⟩
 ·refine (I.hok b u e).stay (fun c v hc q=>k c v ?_ q) (fun _ q=>q) fun _ _ q=>q
  rcases hc with z | z
  ·rw [z];exact nit b u e
  ·exact nit c _ z
theorem Inv.tok (I:Inv X pins σ H s) (t:Nat):Inv X pins σ H { s with toks:=t }:=I.un (h':=s.heap) (t':=t) Un.refl I.hok
theorem Inv.kept {t':Nat} (I:Inv X pins σ H s) (k:∀ b u,s.heap.get? b=some u->h'.get? b=some u):Inv X pins σ H { s with heap:=h',toks:=t' }:=I.un (Un.kept k) (I.hok.kept k)
theorem Inv.laid {a:Addr} {o:HO} {t':Nat} (I:Inv X pins σ H s) (k:∀ b u,s.heap.get? b=some u->h'.get? b=some u) (hp:s.heap.objs.size<=a) (new:ObjOk X.prog X.w (upd H a o) h' a o) :
  Inv X pins σ (upd H a o) { s with heap:=h',toks:=t' }:=I.un (Un.laid k hp (I.hok.fresh hp)) (I.hok.laid k hp new)
theorem Inv.write {x e:Addr} {o:HO} {t':Nat} (I:Inv X pins σ H s) (mu:Mut (H x)) (he:e=x \/ H e=some (.own x)) (k:∀ b u,b≠e->s.heap.get? b=some u->h'.get? b=some u) (heo:∃ u,h'.get? e=some u)
  (new:ObjOk X.prog X.w (upd H x o) h' x o):Inv X pins σ (upd H x o) { s with heap:=h',toks:=t' }:=I.un (Un.write mu he k heo) (I.hok.write mu he k heo new)
theorem Inv.pins_of {pins':List (Addr×Obj)} (I:Inv X pins σ H s) (h:∀ p∈pins',s.heap.get? p.1=some p.2/\H p.1=none/\p.1≠X.env.locals/\p.1∉X.fs/\∀ v,p.2.data≠.cell v):Inv X pins' σ H s :=
 ⟨I.ok,I.os,I.bare,I.base,I.loc,I.cell,I.free,I.freeC,fun p hp=>(alM.mp hp).elim (fun z=>I.pin p (al8 _ z)) (h p),I.hok,I.len⟩
theorem ab2 {N:List Str} (hN:N.Nodup) {i j:Nat} {x:Str} (a:N[i]?=some x) (b:N[j]?=some x):i=j:=by
 obtain⟨h1,e1⟩:=alf.mp a
 obtain⟨h2,e2⟩:=alf.mp b
 exact (anw hN).mp (e1.trans e2.symm)
theorem aaL {M:Model} {A:Around} {E:Value->Shared->Prop} {i:Nat} {x:Str} {v:V} {u:Value} {Q:Unit->Shared->Prop} (I:Inv X pins σ H s) (hN:X.N.Nodup) (hi:X.N[i]?=some x) (hx:Loc X.env.scope x) (r:RelV v u)
  (h:∀ s',Inv X pins (σ.set i (some v)) H s'->(∃ a,anf a s.heap s'.heap/\(a=X.env.locals \/ X.env.cells.lookup x=some a))->Q () s') (hf:X.fn x=true \/ X.env.scope.names.lookup x=some .local:=by first | exact .inl rfl | exact .inr rfl | assumption):wpAny M A (storeName X.env x u) Q E s:=by
 obtain⟨m,hn,hl⟩:=id I.loc
 have hcls:(X.env.scope.kind == .class || (X.env.scope.kind == .module && X.env.locals != X.env.globals))=false:=by rw [I.ok.kind];rfl
 have hiσ:i<σ.length:=by rw [I.len];exact (alf.mp hi).1
 have cne:=I.cne
 have tracked:∀ {a:Addr} {h':Heap},(∃ o,s.heap.get? a=some o/\H a=none)->anf a s.heap h'->HOk X.prog X.w H h':=fun {a h'} ha hs b ob e=>by
  obtain⟨_,_,hfree⟩:=ha
  refine (I.hok b ob e).stay (fun c w' hc q=>(hs.2 c ?_).trans q) (fun _ q=>q) fun _ _ q=>q
  rintro rfl
  rcases hc with rfl | hc
  ·rw [hfree] at e;cases e
  ·rw [hfree] at hc;cases hc
 rcases hx with hk | hk
 ·refine wpAny_storeName_local hk hn (fun h' hn' hs=>?_) hcls
  obtain⟨oL,_,_,hoL,_⟩:=id hn
  refine h _ ⟨I.ok,I.os,I.bare,⟨fun b o e n hb hx=>?_,fun b o e n hb hx=>?_,I.base.free,fun b o e hx=>?_,I.base.tups,I.base.frzs,I.base.tbls⟩,⟨_,hn',fun j y v' e1 e2 e3=>?_⟩,fun y c e=>?_,I.free,I.freeC,fun p hp=>?_,tracked ⟨oL,hoL,I.free⟩ hs,by simpa using I.len⟩ ⟨_,hs,.inl rfl⟩
  ·exact (hs.2 b (al1 (alG (alz e) I.ok.above))).trans (I.base.keep b o e n hb hx)
  ·obtain⟨sl,e1⟩:=I.base.slot b o e n hb hx
   exact⟨sl,(hs.2 b (al1 (alG (alz e) I.ok.above))).trans e1⟩
  ·obtain⟨o',e1⟩:=I.base.there b o e hx
   exact⟨o',(hs.2 b (al1 (alG (alz e) I.ok.above))).trans e1⟩
  ·by_cases hj:j=i
   ·subst hj
    rw [hi] at e1;cases e1
    rw [amw hiσ] at e2
    cases e2
    exact⟨u,r,.inl ⟨hk,by simp⟩⟩
   ·rw [am1 (amF hj)] at e2
    obtain⟨u',r',q⟩:=hl j y v' e1 e2 e3
    refine⟨u',r',?_⟩
    rcases q with⟨k,e⟩ | ⟨k,c,e,z⟩
    ·refine .inl ⟨k,?_⟩
     have:y≠x:=fun e=>hj (ab2 hN e1 (e▸hi))
     simp [this,e]
    ·exact .inr ⟨k,c,e,z.sameBut hs (cne y c e)⟩
  ·obtain⟨w',z⟩:=I.cell y c e
   exact⟨w',z.sameBut hs (cne y c e)⟩
  ·obtain⟨e,n,ne,nf,d⟩:=I.pin p hp
   exact⟨(hs.2 p.1 ne).trans e,n,ne,nf,d⟩
 ·have hfn:X.fn x=true:=by
   rcases hf with z | z
   ·exact z
   ·rw [z] at hk;cases hk
  obtain⟨c,hc⟩:=I.ok.has x (.inl hk)
  obtain⟨w',z⟩:=I.cell x c hc
  refine wpAny_storeName_cell I.ok.kind hk hc z (fun h' hc' hs=>?_)
  obtain⟨oc,hoc,hocd⟩:=id z
  refine h { s with heap:=h' } ⟨I.ok,I.os,I.bare,⟨fun b o e n hb hx=>?_,fun b o e n hb hx=>?_,I.base.free,fun b o e hx=>?_,I.base.tups,I.base.frzs,I.base.tbls⟩,⟨m,hn.sameBut hs (amF (cne x c hc)),fun j y v' e1 e2 e3=>?_⟩,fun y c' e=>?_,I.free,I.freeC,fun p hp=>?_,tracked ⟨oc,hoc,I.freeC x c hc⟩ hs,by simpa using I.len⟩ ⟨c,hs,.inr hc⟩
  ·exact (hs.2 b (al1 (alG (alz e) (I.ok.cab x c hfn hc)))).trans (I.base.keep b o e n hb hx)
  ·obtain⟨sl,e1⟩:=I.base.slot b o e n hb hx
   exact⟨sl,(hs.2 b (al1 (alG (alz e) (I.ok.cab x c hfn hc)))).trans e1⟩
  ·obtain⟨o',e1⟩:=I.base.there b o e hx
   exact⟨o',(hs.2 b (al1 (alG (alz e) (I.ok.cab x c hfn hc)))).trans e1⟩
  ·by_cases hj:j=i
   ·subst hj
    rw [hi] at e1;cases e1
    rw [amw hiσ] at e2
    cases e2
    exact⟨u,r,.inr ⟨.inl hk,c,hc,hc'⟩⟩
   ·rw [am1 (amF hj)] at e2
    obtain⟨u',r',q⟩:=hl j y v' e1 e2 e3
    refine⟨u',r',?_⟩
    rcases q with q | ⟨k,c',e,z'⟩
    ·exact .inl q
    ·refine .inr ⟨k,c',e,z'.sameBut hs ?_⟩
     rintro rfl
     exact hj (ab2 hN e1 (I.ok.inj _ _ _ e hc▸hi))
  ·by_cases hcc:c'=c
   ·subst hcc;exact⟨_,hc'⟩
   ·obtain⟨w2,z2⟩:=I.cell y c' e
    exact⟨w2,z2.sameBut hs hcc⟩
  ·obtain⟨e,n,ne,nf,d⟩:=I.pin p hp
   refine⟨(hs.2 p.1 ?_).trans e,n,ne,nf,d⟩
   intro q
   rw [q,hoc] at e
   have q':oc=p.2:=Option.some.inj e
   exact d w' (by rw [<-q'];exact hocd)
theorem ab3 {M:Model} {A:Around} {E:Value->Shared->Prop} {i:Nat} {x:Str} {v:V} {u:Value} {Q:Unit->Shared->Prop} (I:Inv X pins σ H s) (hN:X.N.Nodup) (hi:X.N[i]?=some x) (hx:Loc X.env.scope x) (r:RelV v u)
  (h:∀ s',Inv X pins (σ.set i (some v)) H s'->Q () s') (hf:X.fn x=true \/ X.env.scope.names.lookup x=some .local:=by first | exact .inl rfl | exact .inr rfl | assumption):wpAny M A (storeName X.env x u) Q E s :=
 aaL I hN hi hx r (fun s' I' _=>h s' I') hf
theorem Inv.call' {s':Shared} {ch:List Addr} (I:Inv X pins σ H s) (ho:s'.os=s.os) (u:Un (frs X.stack) ch H H' s.heap s'.heap) (hok:HOk X.prog X.w H' s'.heap) (hg:AllBare s'.gens)
  (hch:∀ b∈ch,(b∈X.ex \/ X.s₀.heap.objs.size<=b)/\b≠X.env.locals/\(∀ x c,X.env.cells.lookup x=some c->c≠b)/\∀ p∈X.pn++pins,p.1≠b):Inv X pins σ H' s':=by
 obtain⟨h',g',d',t',o'⟩:=s'
 have e:o'=s.os:=ho
 subst e
 exact I.call (g':=g') (t':=t') (d':=d') u hok hg hch
end
noncomputable abbrev XK:=Value->Option Addr->Hp->Prop
noncomputable abbrev St:=List (Option V)
noncomputable abbrev VK:=V->Hp->Prop
noncomputable abbrev TE:=St->Hp->VK->Prop
noncomputable abbrev TT:=St->Hp->(Bool->Hp->Prop)->Prop
noncomputable abbrev TA:=St->Hp->(List V->Hp->Prop)->Prop
structure Ends where
 nx:St->Hp->Prop
 rt:VK
 bk:St->Hp->Prop:=fun _ _=>False
 ct:St->Hp->Prop:=fun _ _=>False
noncomputable abbrev TS:=Ends->St->Hp->Prop
noncomputable def EP (X:Cx) (pins:List (Addr×Obj)) (σ:St) (Q:VK) (u:Value) (s':Shared):Prop:=∃ v H',Inv X pins σ H' s'/\RelV v u/\Q v H'
noncomputable def TP (X:Cx) (pins:List (Addr×Obj)) (σ:St) (Q:Bool->Hp->Prop) (b:Bool) (s':Shared):Prop:=∃ H',Inv X pins σ H' s'/\Q b H'
noncomputable def AP (X:Cx) (pins:List (Addr×Obj)) (σ:St) (Q:List V->Hp->Prop) (us:List Value) (s':Shared):Prop:=∃ vs H',Inv X pins σ H' s'/\Vals vs us/\Q vs H'
noncomputable def SP (X:Cx) (pins:List (Addr×Obj)) (D:Ends) (f:Flow) (s':Shared):Prop :=
 match f with
 | .next=>∃ σ' H',Inv X pins σ' H' s'/\D.nx σ' H'
 | .brk=>∃ σ' H',Inv X pins σ' H' s'/\D.bk σ' H'
 | .cont=>∃ σ' H',Inv X pins σ' H' s'/\D.ct σ' H'
 | .ret u=>∃ v σ' H',Inv X pins σ' H' s'/\RelV v u/\D.rt v H'
noncomputable def PE (X:Cx) (e:Expr) (t:TE):Prop :=
 ∀ (pins:List (Addr×Obj)) (s:Shared) (σ:St) (H:Hp) (Q:VK),Inv X pins σ H s->t σ H Q->wpAny (model X.prog X.w) X.A (eval e X.env) (EP X pins σ Q) X.xe s
noncomputable def PT (X:Cx) (e:Expr) (t:TT):Prop :=
 ∀ (pins:List (Addr×Obj)) (s:Shared) (σ:St) (H:Hp) (Q:Bool->Hp->Prop),Inv X pins σ H s->t σ H Q->wpAny (model X.prog X.w) X.A (isTrue e X.env (eval e X.env)) (TP X pins σ Q) X.xe s
noncomputable def PW (X:Cx) (e:Expr) (t:TT):Prop :=
 ∀ (whole:Sem Value) (pins:List (Addr×Obj)) (s:Shared) (σ:St) (H:Hp) (Q:Bool->Hp->Prop),Inv X pins σ H s->t σ H Q->wpAny (model X.prog X.w) X.A (isTrue e X.env whole) (TP X pins σ Q) X.xe s
theorem PW.pt {X:Cx} {e:Expr} {t:TT} (h:PW X e t):PT X e t:=h _
noncomputable def PA (X:Cx) (es:List Expr) (t:TA):Prop :=
 ∀ (pos:Pos) (pins:List (Addr×Obj)) (s:Shared) (σ:St) (H:Hp) (Q:List V->Hp->Prop),Inv X pins σ H s->t σ H Q->wpAny (model X.prog X.w) X.A (spliced (backTo pos (starEach es X.env))) (AP X pins σ Q) X.xe s
noncomputable def PS (X:Cx) (st:Stmt) (t:TS):Prop :=
 ∀ (pins:List (Addr×Obj)) (s:Shared) (σ:St) (H:Hp) (D:Ends),Inv X pins σ H s->t D σ H->wpAny (model X.prog X.w) X.A (exec st X.env) (SP X pins D) X.xe s
noncomputable def PSs (X:Cx) (st:List Stmt) (t:TS):Prop :=
 ∀ (pins:List (Addr×Obj)) (s:Shared) (σ:St) (H:Hp) (D:Ends),Inv X pins σ H s->t D σ H->wpAny (model X.prog X.w) X.A (execs st X.env) (SP X pins D) X.xe s
theorem thn {α:Type} {t:Sem α} {Q Q':α->Shared->Prop} {M:Model} {A:Around} {E:Value->Shared->Prop} {s:Shared} (h:wpAny M A t Q E s) (hQ:∀ a s,Q a s->Q' a s):wpAny M A t Q' E s:=wpAny_mono h hQ fun _ _ x=>x
section
variable {X:Cx}
noncomputable def yw (i:Nat):TE:=fun σ H Q=>∃ v,σ[i]?=some (some v)/\Q v H
noncomputable def tC (v:V):TE:=fun _ H Q=>Q v H
theorem aju {i:Nat} {x:Str} {pos:Pos} (hN:X.N[i]?=some x) (hv:Vis X.env.scope x) (hd:(x == ("__debug__":Str))=false:=by decide) (hcd:(x == ("__classdict__":Str))=false:=by decide):PE X (.Name x pos) (yw i):=by
 intro pins s σ H Q I h
 obtain⟨v,e,h⟩:=h
 obtain⟨m,hn,hl⟩:=I.loc
 obtain⟨u,r,l⟩:=hl i x v hN e hv
 have fin:EP X pins σ Q u s:=⟨v,H,I,r,h⟩
 rcases l with⟨hk,hm⟩ | ⟨hk,c,hc,hcell⟩
 ·exact wpAny_Name (wpAny_loadName_local I.ok.kind hk hn hm fin) hd
 ·rcases hk with hk | hk
  ·exact wpAny_Name (wpAny_loadName_cell I.ok.kind hk hc hcell fin) hd
  ·exact wpAny_Name (wpAny_loadName_free I.ok.kind hk hc hcell fin hcd) hd
theorem ze {i j pos}:PE X (.Constant (.int i) j pos) (tC (.int i)):=fun _ _ _ H _ I h=>wpAny_Constant_int ⟨.int i,H,I.tok _,⟨_,rfl⟩,h⟩
theorem vZ {b j pos}:PE X (.Constant (.bool b) j pos) (tC (.bl b)):=fun _ _ _ H _ I h=>Constant_bool ⟨.bl b,H,I,rfl,h⟩
theorem adj {j pos}:PE X (.Constant .none j pos) (tC .non):=fun _ _ _ H _ I h=>Constant_none ⟨.non,H,I,rfl,h⟩
theorem qG {x j pos}:PE X (.Constant (.str x) j pos) (tC (.str x)):=fun _ _ _ H _ I h=>Calls.Constant_str ⟨.str x,H,I.tok _,⟨_,rfl⟩,h⟩
noncomputable def Gl (X:Cx) (x:Str):Prop:=X.env.kindOf x=some .globalImplicit
theorem abe {E:Value->Shared->Prop} {pins:List (Addr×Obj)} {s:Shared} {σ:St} {H:Hp} {x:Str} {u:Value} {pos:Pos} {Q:Value->Shared->Prop} (I:Inv X pins σ H s) (hg:Gl X x) (hm:X.mg x=some u) (h:Q u s)
  (hd:(x == ("__debug__":Str))=false:=by decide):wpAny (model X.prog X.w) X.A (eval (.Name x pos) X.env) Q E s :=
 aor I.ok.kind hg (Calls.loadGlobal_global (by rw [I.ok.glob];exact I.mod.glob.keeps I.bk) hm h) hd
theorem vi {E:Value->Shared->Prop} {pins:List (Addr×Obj)} {s:Shared} {σ:St} {H:Hp} {x:Str} {u:Value} {pos:Pos} {Q:Value->Shared->Prop} (I:Inv X pins σ H s) (hg:Gl X x) (hm:X.mg x=none) (hv:bootBuiltins x=some u) (h:Q u s)
  (hn:x ≠ "__name__":=by decide) (hd:(x == ("__debug__":Str))=false:=by decide):wpAny (model X.prog X.w) X.A (eval (.Name x pos) X.env) Q E s:=by
 obtain⟨mb,h1,h2⟩:=I.mod.blt
 exact aor I.ok.kind hg (Calls.loadGlobal_builtin (by rw [I.ok.glob];exact I.mod.glob.keeps I.bk) hm (by rw [I.ok.blt];exact h1.keeps I.bk) ((h2 x hn).trans hv) h) hd
theorem ahN {x:Str} {v:V} {u:Value} {pos:Pos} (hg:Gl X x) (hm:X.mg x=some u) (r:RelV v u) (hd:(x == ("__debug__":Str))=false:=by decide):PE X (.Name x pos) (tC v) :=
 fun _ _ _ H _ I h=>abe I hg hm ⟨v,H,I,r,h⟩ hd
theorem ahO {x:Str} {v:V} {u:Value} {pos:Pos} (hg:Gl X x) (hm:X.mg x=none) (hv:bootBuiltins x=some u) (r:RelV v u) (hn:x ≠ "__name__":=by decide) (hd:(x == ("__debug__":Str))=false:=by decide):PE X (.Name x pos) (tC v) :=
 fun _ _ _ H _ I h=>vi I hg hm hv ⟨v,H,I,r,h⟩ hn hd
variable {a b:Expr} {ta tb:TE} {pos:Pos}
variable {tA tB':TT} {rest:List Expr}
noncomputable def akA (t u:TT):TT:=fun σ H Q=>t σ H fun c H1=>if c=true then u σ H1 Q else Q false H1
noncomputable def tOr (t u:TT):TT:=fun σ H Q=>t σ H fun c H1=>if c=true then Q true H1 else u σ H1 Q
noncomputable def akB (t:TT):TT:=fun σ H Q=>t σ H fun c H1=>Q (!c) H1
theorem abf (ha:PT X a tA):PW X (.BoolOp .And [a] pos) tA:=by
 intro wh pins s σ H Q I h
 refine isTrue_and (thn (ha pins s σ H Q I h) fun c s1 e=>?_)
 cases c with
 | true=>exact isTrue_and_nil e
 | false=>exact e
theorem adk (ha:PT X a tA):PW X (.BoolOp .Or [a] pos) tA:=by
 intro wh pins s σ H Q I h
 refine isTrue_or (thn (ha pins s σ H Q I h) fun c s1 e=>?_)
 cases c with
 | false=>exact isTrue_or_nil e
 | true=>exact e
theorem adl (ha:PT X a tA) (hb:PW X (.BoolOp .And (b :: rest) pos) tB'):PW X (.BoolOp .And (a :: b :: rest) pos) (akA tA tB'):=by
 intro wh pins s σ H Q I h
 refine isTrue_and (thn (ha pins s σ H _ I h) fun c s1 ⟨H1,I1,q1⟩=>?_)
 cases c with
 | true=>exact hb wh pins s1 σ H1 Q I1 q1
 | false=>exact⟨H1,I1,q1⟩
theorem af5 (ha:PT X a tA) (hb:PW X (.BoolOp .Or (b :: rest) pos) tB'):PW X (.BoolOp .Or (a :: b :: rest) pos) (tOr tA tB'):=by
 intro wh pins s σ H Q I h
 refine isTrue_or (thn (ha pins s σ H _ I h) fun c s1 ⟨H1,I1,q1⟩=>?_)
 cases c with
 | true=>exact⟨H1,I1,q1⟩
 | false=>exact hb wh pins s1 σ H1 Q I1 q1
theorem v3 (ha:PT X a tA):PT X (.UnaryOp .Not a pos) (akB tA):=by
 intro pins s σ H Q I h
 exact isTrue_not (ha pins s σ H (fun c H1=>Q (!c) H1) I h)
noncomputable def ai2 (ta tb:TE):TE:=fun σ H Q=>ta σ H fun x H1=>∃ c,x=.bl c/\if c=true then tb σ H1 Q else Q (.bl false) H1
noncomputable def ai3 (ta:TE):TE:=fun σ H Q=>ta σ H fun x H1=>∃ c,x=.bl c/\Q (.bl (!c)) H1
theorem adm {op} {t:TE} (h:PE X a t):PE X (.BoolOp op [a] pos) t:=fun pins s σ H Q I hw=>BoolOp_one (h pins s σ H Q I hw)
theorem abg (ha:PE X a ta) (hb:PE X (.BoolOp .And (b :: rest) pos) tb):PE X (.BoolOp .And (a :: b :: rest) pos) (ai2 ta tb):=by
 intro pins s σ H Q I h
 refine BoolOp_and (thn (ha pins s σ H _ I h) fun v s1 ⟨x,H1,I1,r1,q1⟩=>?_)
 obtain⟨c,rfl,q1⟩:=q1
 cases r1
 refine wpAny_truthy_bool ?_
 cases c with
 | true=>exact hb pins s1 σ H1 Q I1 q1
 | false=>exact⟨.bl false,H1,I1,rfl,q1⟩
theorem ajv (ha:PE X a ta):PE X (.UnaryOp .Not a pos) (ai3 ta):=by
 intro pins s σ H Q I h
 refine UnaryOp_ (thn (ha pins s σ H _ I h) fun v s1 ⟨x,H1,I1,r1,q1⟩=>?_)
 obtain⟨c,rfl,q1⟩:=q1
 cases r1
 exact not_of (wpAny_truthy_bool ⟨.bl (!c),H1,I1,rfl,q1⟩)
noncomputable def tIf (t:TT) (ta tb:TE):TE:=fun σ H Q=>t σ H fun c H1=>if c=true then ta σ H1 Q else tb σ H1 Q
theorem qO {c:Expr} (hc:PT X c tA) (ha:PE X a ta) (hb:PE X b tb):PE X (.IfExp c a b pos) (tIf tA ta tb):=by
 intro pins s σ H Q I h
 refine wpAny_IfExp (thn (hc pins s σ H _ I h) fun d s1 ⟨H1,I1,q1⟩=>?_)
 cases d with
 | true=>exact ha pins s1 σ H1 Q I1 q1
 | false=>exact hb pins s1 σ H1 Q I1 q1
end
noncomputable def SqL (K:alg) (H:Hp) (a:Addr) (xs:List V):Prop :=
 Rd H a (.lst xs) \/
  ∃ (o:Obj) (its:Array Value) (n:Nat),K.lookup a=some o/\o.cls=.type "list"/\o.dict=none/\o.data=.seq its n/\its.size<=sizeLine/\Vals xs its.toList
noncomputable def SqT (K:alg) (H:Hp) (a:Addr) (xs:List V):Prop :=
 Rd H a (.tup xs) \/
  ∃ (o:Obj) (its:Array Value) (n:Nat),K.lookup a=some o/\o.cls=.type "tuple"/\o.data=.seq its n/\its.size<=sizeLine/\Vals xs its.toList
noncomputable def ak4:Value->Option V
 | .none=>some .non
 | .bool b=>some (.bl b)
 | .int i _=>some (.int i)
 | .str x _=>some (.str x)
 | .bytes b _=>some (.byt b)
 | .float b _=>some (.flt b)
 | .ref a=>some (.ref a)
 | .type n=>some (.ty n)
 | _=>none
theorem RelV.abs {x:V} {u:Value} (r:RelV x u):ak4 u=some x:=by
 cases x with
 | non=>cases r;rfl
 | bl _=>cases r;rfl
 | int _=>obtain⟨t,rfl⟩:=r;rfl
 | str _=>obtain⟨t,rfl⟩:=r;rfl
 | byt _=>obtain⟨t,rfl⟩:=r;rfl
 | flt _=>obtain⟨t,rfl⟩:=r;rfl
 | ref _=>cases r;rfl
 | ty _=>cases r;rfl
theorem RelV.inj {x y:V} {u:Value} (r:RelV x u) (q:RelV y u):x=y:=Option.some.inj (r.abs.symm.trans q.abs)
theorem Vals.inj:∀ {xs ys:List V} {us:List Value},Vals xs us->Vals ys us->xs=ys
 | _,_,_,.nil,.nil=>rfl
 | _,_,_,.cons r t,.cons r' t'=>by rw [r.inj r',Vals.inj t t']
section
variable {X:Cx} {pins:List (Addr×Obj)} {σ:St} {H:Hp} {s:Shared} {a:Addr} {xs ys:List V}
theorem SqL.of {K:alg} (h:H a=some (.lst xs)):SqL K H a xs:=.inl (.inl h)
theorem SqT.of {K:alg} (h:H a=some (.tup xs)):SqT K H a xs:=.inl (.inl h)
theorem Inv.list (I:Inv X pins σ H s) (h:SqL X.K H a xs):∃ its:List Value,Vals xs its/\PlainL s.heap a its.toArray/\xs.length<=sizeLine:=by
 rcases h with h | ⟨o,its,n,hk,hc,hd,hs,hz,r⟩
 ·obtain⟨z,its,n,r,e⟩:=h.ok I.hok
  exact⟨its,r,⟨_,n,e,rfl,rfl,rfl⟩,z⟩
 ·refine⟨its.toList,r,⟨o,n,I.kIn a o hk,hc,hd,by simpa using hs⟩,?_⟩
  have e:=r.length
  simp only [aly] at e
  omega
theorem Inv.tuple (I:Inv X pins σ H s) (h:SqT X.K H a xs):∃ its:List Value,Vals xs its/\IsTup s.heap a its.toArray/\xs.length<=sizeLine:=by
 rcases h with h | ⟨o,its,n,hk,hc,hs,hz,r⟩
 ·obtain⟨z,its,r,p⟩:=h.ok I.hok
  exact⟨its,r,p,z⟩
 ·refine⟨its.toList,r,⟨o,I.kIn a o hk,hc,n,by simpa using hs⟩,?_⟩
  have e:=r.length
  simp only [aly] at e
  omega
theorem Inv.list_inj (I:Inv X pins σ H s) (h:SqL X.K H a xs) (h':SqL X.K H a ys):xs=ys:=by
 obtain⟨its,r,⟨o,n,e,_,_,d⟩,_⟩:=I.list h
 obtain⟨its',r',⟨o',n',e',_,_,d'⟩,_⟩:=I.list h'
 rw [e] at e';cases e'
 rw [d] at d'
 injection d' with d1 _
 have:its=its':=by simpa using congrArg Array.toList d1
 subst this
 exact r.inj r'
theorem Inv.tuple_inj (I:Inv X pins σ H s) (h:SqT X.K H a xs) (h':SqT X.K H a ys):xs=ys:=by
 obtain⟨its,r,⟨o,e,_,n,d⟩,_⟩:=I.tuple h
 obtain⟨its',r',⟨o',e',_,n',d'⟩,_⟩:=I.tuple h'
 rw [e] at e';cases e'
 rw [d] at d'
 injection d' with d1 _
 have:its=its':=by simpa using congrArg Array.toList d1
 subst this
 exact r.inj r'
end
noncomputable abbrev Cx.wish (X:Cx) (E:Value->Shared->Prop):Cx:={ X with xe:=E }
noncomputable abbrev Cx.nox (X:Cx):Cx:=X.wish fun _ _=>False
theorem Cx.Ok.wish {X:Cx} (ok:X.Ok) (E:Value->Shared->Prop):(X.wish E).Ok :=
 ⟨ok.mod,ok.kind,ok.glob,ok.blt,ok.above,ok.inj,ok.has,ok.cab,ok.hd,ok.frames,ok.stk,ok.exf,ok.bs,ok.bsz,ok.noex,ok.exfs,ok.funs,ok.frf⟩
theorem Cx.Ok.unwish {X:Cx} {E:Value->Shared->Prop} (ok:(X.wish E).Ok):X.Ok :=
 ⟨ok.mod,ok.kind,ok.glob,ok.blt,ok.above,ok.inj,ok.has,ok.cab,ok.hd,ok.frames,ok.stk,ok.exf,ok.bs,ok.bsz,ok.noex,ok.exfs,ok.funs,ok.frf⟩
section
variable {X:Cx} {pins:List (Addr×Obj)} {σ:St} {H:Hp} {s:Shared} {E:Value->Shared->Prop}
theorem Inv.wish (I:Inv X pins σ H s) (E:Value->Shared->Prop):Inv (X.wish E) pins σ H s:=⟨I.ok.wish E,I.os,I.bare,I.base,I.loc,I.cell,I.free,I.freeC,I.pin,I.hok,I.len⟩
theorem Inv.unwish (I:Inv (X.wish E) pins σ H s):Inv X pins σ H s:=⟨I.ok.unwish,I.os,I.bare,I.base,I.loc,I.cell,I.free,I.freeC,I.pin,I.hok,I.len⟩
theorem SP.unwish {D:Ends} {f:Flow} {s':Shared} (h:SP (X.wish E) pins D f s'):SP X pins D f s':=by
 cases f with
 | next=>obtain⟨σ',H',I,q⟩:=h;exact⟨σ',H',I.unwish,q⟩
 | brk=>obtain⟨σ',H',I,q⟩:=h;exact⟨σ',H',I.unwish,q⟩
 | cont=>obtain⟨σ',H',I,q⟩:=h;exact⟨σ',H',I.unwish,q⟩
 | ret u=>obtain⟨v,σ',H',I,r,q⟩:=h;exact⟨v,σ',H',I.unwish,r,q⟩
theorem PSs.nox {st:List Stmt} {t:TS} (h:PSs X.nox st t):PSs X st t:=fun pins s σ H D I hw =>
 wpAny_mono (h pins s σ H D (I.wish _) hw) (fun _ _ q=>q.unwish) fun _ _ z=>ang z
end
section
variable {X:Cx} {st:Stmt} {rest:List Stmt} {t u:TS} {e:Expr} {te:TE} {pos:Pos}
noncomputable def ab4:TS:=fun D σ H=>D.nx σ H
noncomputable def vj (t u:TS):TS:=fun D σ H=>t { D with nx:=u D } σ H
theorem z5:PSs X [] ab4:=fun _ _ σ H _ I h=>wpAny_execs_nil ⟨σ,H,I,h⟩
theorem zf (h1:PS X st t) (h2:PSs X rest u):PSs X (st :: rest) (vj t u):=by
 intro pins s σ H D I h
 refine wpAny_execs_cons (thn (h1 pins s σ H { D with nx:=u D } I h) fun f s1 q=>?_)
 cases f with
 | next =>
  obtain⟨σ',H',I',q⟩:=q
  exact h2 pins s1 σ' H' D I' q
 | ret v=>exact q
 | brk=>exact q
 | cont=>exact q
theorem zk (h1:PS X st t):PSs X [st] t:=by
 intro pins s σ H D I h
 refine wpAny_execs_cons (thn (h1 pins s σ H D I h) fun f s1 q=>?_)
 cases f with
 | next=>exact wpAny_execs_nil q
 | ret v=>exact q
 | brk=>exact q
 | cont=>exact q
theorem Inv.quiet {pins:List (Addr×Obj)} {σ:St} {H:Hp} {s:Shared} (I:Inv X pins σ H s):interactive X.env=false:=by simp [interactive,I.ok.kind]
noncomputable def ab5 (te:TE):TS:=fun D σ H=>te σ H fun _ H1=>D.nx σ H1
theorem ji (he:PE X e te) (hs:swapsWith e none pos.line X.env=pure false:=by rfl):PS X (.Expr e pos) (ab5 te):=by
 intro pins s σ H D I h
 exact wpAny_Expr_any (thn (he pins s σ H _ I h) fun v s1 ⟨x,H1,I1,r1,q1⟩=>⟨σ,H1,I1,q1⟩) I.quiet hs
noncomputable def ae8 (te:TE):TS:=fun D σ H=>te σ H D.rt
theorem zy (he:PE X e te):PS X (.Return (some e) pos) (ae8 te):=by
 intro pins s σ H D I h
 exact wpAny_Return_some (thn (he pins s σ H _ I h) fun v s1 ⟨x,H1,I1,r1,q1⟩=>⟨x,σ,H1,I1,r1,q1⟩)
noncomputable def af6 (c:TT) (t u:TS):TS:=fun D σ H=>c σ H fun b H1=>if b=true then t D σ H1 else u D σ H1
theorem yG {c:Expr} {a b:List Stmt} {tc:TT} (hc:PT X c tc) (ha:PSs X a t) (hb:PSs X b u):PS X (.If c a b pos) (af6 tc t u):=by
 intro pins s σ H D I h
 refine wpAny_If (thn (hc pins s σ H _ I h) fun d s1 ⟨H1,I1,q1⟩=>?_)
 cases d with
 | true=>exact ha pins s1 σ H1 D I1 q1
 | false=>exact hb pins s1 σ H1 D I1 q1
noncomputable def ajw:TS:=fun _ _ _=>False
theorem ab6:PS X st ajw:=fun _ _ _ _ _ _ h=>h.elim
end
noncomputable abbrev TG:=V->St->Hp->(St->Hp->Prop)->Prop
noncomputable abbrev TGs:=List V->St->Hp->(St->Hp->Prop)->Prop
noncomputable def PG (X:Cx) (target:Expr) (t:TG):Prop :=
 ∀ (pins:List (Addr×Obj)) (s:Shared) (σ:St) (H:Hp) (v:V) (u:Value) (Q:St->Hp->Prop),Inv X pins σ H s->RelV v u->t v σ H Q ->
  wpAny (model X.prog X.w) X.A (assign target X.env u) (fun _ s'=>∃ σ' H',Inv X pins σ' H' s'/\Q σ' H') X.xe s
noncomputable def PGs (X:Cx) (ts:List Expr) (t:TGs):Prop :=
 ∀ (pins:List (Addr×Obj)) (s:Shared) (σ:St) (H:Hp) (vs:List V) (us:List Value) (Q:St->Hp->Prop),Inv X pins σ H s->Vals vs us->t vs σ H Q ->
  wpAny (model X.prog X.w) X.A (assignInOrder ((assignEach ts X.env).map (·.2)) us) (fun _ s'=>∃ σ' H',Inv X pins σ' H' s'/\Q σ' H') X.xe s
noncomputable abbrev ajx:=V->V->V->Hp->(Hp->Prop)->Prop
noncomputable def ahP (X:Cx) (t:ajx):Prop :=
 ∀ (pins:List (Addr×Obj)) (s:Shared) (σ:St) (H:Hp) (o i v:V) (ov iv u:Value) (Q:Hp->Prop),Inv X pins σ H s->RelV o ov->RelV i iv->RelV v u->t o i v H Q ->
  wpAny (model X.prog X.w) X.A (setItem ov iv u) (fun _ s'=>∃ H',Inv X pins σ H' s'/\Q H') X.xe s
section
variable {X:Cx} {pos:Pos}
noncomputable def y7 (i:Nat):TG:=fun v σ H Q=>Q (σ.set i (some v)) H
theorem zl {i:Nat} {x:Str} (hN:X.N.Nodup) (hi:X.N[i]?=some x) (hx:Loc X.env.scope x) (hf:X.fn x=true \/ X.env.scope.names.lookup x=some .local:=by first | exact .inl rfl | exact .inr rfl | assumption):PG X (.Name x pos) (y7 i):=by
 intro pins s σ H v u Q I r h
 exact wpAny_assign_Name (ab3 I hN hi hx r (fun s' I'=>⟨_,H,I',h⟩) hf)
noncomputable def akC:TGs:=fun vs σ H Q=>vs=[]/\Q σ H
noncomputable def ai4 (t:TG) (u:TGs):TGs:=fun vs σ H Q=>∃ v r,vs=v :: r/\t v σ H fun σ' H'=>u r σ' H' Q
theorem z6:PGs X [] akC:=by
 intro pins s σ H vs us Q I r h
 obtain⟨e,h⟩:=h
 subst e
 cases r
 exact assignInOrder_nil ⟨σ,H,I,h⟩
theorem zm {e:Expr} {es:List Expr} {t:TG} {u:TGs} (h1:PG X e t) (h2:PGs X es u)
  (hs:(assignEach (e :: es) X.env).map (·.2)=assign e X.env :: (assignEach es X.env).map (·.2):=by rfl):PGs X (e :: es) (ai4 t u):=by
 intro pins s σ H vs us Q I r h
 obtain⟨v,vr,e1,h⟩:=h
 subst e1
 cases r with
 | cons r rr =>
  rw [hs]
  refine assignInOrder_cons (thn (h1 pins s σ H _ _ _ I r h) fun _ s1 ⟨σ1,H1,I1,q1⟩=>?_)
  exact h2 pins s1 σ1 H1 _ _ Q I1 rr q1
noncomputable def ajy (K:alg) (n:Nat) (t:TGs):TG:=fun v σ H Q=>∃ a xs,v=.ref a/\SqT K H a xs/\xs.length=n/\t xs σ H Q
theorem ajz {es:List Expr} {k:Nat} {t:TGs} {n:Nat} (hc:X.calm=true) (h:PGs X es t)
  (hn:(assignEach es X.env).length=n:=by rfl) (hst:(assignEach es X.env).findIdx? (·.1)=none:=by rfl):PG X (.Tuple es k pos) (ajy X.K n t):=by
 intro pins s σ H v u Q I r hw
 obtain⟨a,xs,e1,hq,hl,hw⟩:=hw
 subst e1
 cases r
 obtain⟨its,rv,ht,hz⟩:=I.tuple hq
 refine assign_Tuple_tuple (I.ok.hd hc) ht (by simp [hn,<- hl,rv.length]) hst fun h' hx=>?_
 have I1:Inv X pins σ H { s with heap:=h' }:=I.kept (t':=s.toks) fun b o e=>hx b o (al1 (alz e)) e
 exact h pins _ σ H xs _ Q I1 (by simpa using rv) hw
noncomputable def ab7 (to ti:TE) (t:ajx):TG:=fun v σ H Q=>to σ H fun o H1=>ti σ H1 fun i H2=>t o i v H2 fun H3=>Q σ H3
theorem abh {o i:Expr} {to ti:TE} {t:ajx} (ho:PE X o to) (hi:PE X i ti) (hs:ahP X t)
  (ha:∀ v,assign (.Subscript o i pos) X.env v=(do
   let ov <- holding [v] (eval o X.env)
   let iv <- holding [v,ov] (eval i X.env)
   standAt pos
   holding [v,ov,iv] (setItem ov iv v)
   release [v,ov,iv] []):=by intro _;rfl):PG X (.Subscript o i pos) (ab7 to ti t):=by
 intro pins s σ H v u Q I r h
 rw [ha]
 refine wpAny_bind (wpAny_holding (thn (ho pins s σ H _ I h) fun ov s1 ⟨x,H1,I1,r1,q1⟩=>?_))
 refine wpAny_bind (wpAny_holding (thn (hi pins s1 σ H1 _ I1 q1) fun iv s2 ⟨y,H2,I2,r2,q2⟩=>?_))
 refine wpAny_bind (wpAny_standAt (wpAny_bind (wpAny_holding (thn (hs pins s2 σ H2 x y v ov iv u _ I2 r1 r2 r q2) fun _ s3 ⟨H3,I3,q3⟩=>?_))))
 exact wpAny_release ⟨σ,H3,I3,q3⟩
noncomputable def jJ (te:TE) (g:TG):TS:=fun D σ H=>te σ H fun x H1=>g x σ H1 D.nx
theorem yt {tg e:Expr} {te:TE} {g:TG} (he:PE X e te) (hg:PG X tg g) (hs:swapsWithSole [tg] e pos.line X.env=pure false:=by rfl) (hw:swappedStores [tg] e X.env=pure none:=by rfl)
  (h1:(assignEach [tg] X.env).map (·.2)=[assign tg X.env]:=by rfl):PS X (.Assign [tg] e pos) (jJ te g):=by
 intro pins s σ H D I h
 refine wpAny_Assign_stores (thn (he pins s σ H _ I h) fun v s1 ⟨x,H1,I1,r1,q1⟩=>?_) hs hw
 rw [h1]
 exact thn (hg pins s1 σ H1 x v _ I1 r1 q1) fun _ s2 q=>q
theorem zW {i:Nat} {x:Str} {e:Expr} {te:TE} {pos':Pos} (hN:X.N.Nodup) (hi:X.N[i]?=some x) (hx:Loc X.env.scope x) (he:PE X e te) (hs:swapsWith e (some (.Name x pos')) pos.line X.env=pure false:=by rfl) (hf:X.fn x=true \/ X.env.scope.names.lookup x=some .local:=by first | exact .inl rfl | exact .inr rfl | assumption) :
  PS X (.Assign [.Name x pos'] e pos) (jJ te (y7 i)):=by
 intro pins s σ H D I h
 refine wpAny_Assign_Name (thn (he pins s σ H _ I h) fun v s1 ⟨y,H1,I1,r1,q1⟩=>?_) hs
 exact ab3 I1 hN hi hx r1 (fun s2 I2=>⟨_,H1,I2,q1⟩) hf
end
section
variable {X:Cx} {pos:Pos}
noncomputable def af7 (c:TT) (tb:TS):TS:=fun D σ H=>∃ W:Nat->St->Hp->Prop,(∃ m,W m σ H)/\∀ m σ H,W m σ H ->
 c σ H fun b H1=>if b=true then ∃ N:St->Hp->Prop,(∀ σ' H',N σ' H'->∃ m',m'<m/\W m' σ' H')/\tb { D with nx:=N,ct:=N,bk:=D.nx } σ H1 else D.nx σ H1
theorem af8 {c:Expr} {body:List Stmt} {tc:TT} {tb:TS} (hp:PassesOwn (model X.prog X.w) X.A X.env X.xe) (hc:PT X c tc) (hb:PSs X body tb):PS X (.While c body [] pos) (af7 tc tb):=by
 intro pins s σ H D I h
 obtain⟨W,⟨m0,w0⟩,turn⟩:=h
 refine wpAny_While (codeAny_whileLoop (fun n s'=>∃ σ' H',Inv X pins σ' H' s'/\W n σ' H') ?_ m0 ⟨σ,H,I,w0⟩)
 rintro n s1 ⟨σ1,H1,I1,w1⟩
 refine wpAny_passesOwn hp (thn (hc pins s1 σ1 H1 _ I1 (turn n σ1 H1 w1)) fun b s2 ⟨H2,I2,q2⟩=>?_)
 cases b with
 | true =>
  obtain⟨N,hN,q2⟩:=q2
  rw [if_pos rfl]
  refine wpAny_passesOwn hp (thn (hb pins s2 σ1 H2 _ I2 q2) fun f s3 q3=>?_)
  cases f with
  | next =>
   obtain⟨σ3,H3,I3,n3⟩:=q3
   obtain⟨m',hm,w3⟩:=hN σ3 H3 n3
   exact⟨m',hm,σ3,H3,I3,w3⟩
  | cont =>
   obtain⟨σ3,H3,I3,n3⟩:=q3
   obtain⟨m',hm,w3⟩:=hN σ3 H3 n3
   exact⟨m',hm,σ3,H3,I3,w3⟩
  | brk=>exact q3
  | ret v=>exact q3
 | false =>
  rw [if_neg ald]
  exact wpAny_execs_nil ⟨σ1,H2,I2,q2⟩
end
structure It where
 go:Nat->Hp->Prop
 yld:Nat->Hp->V->Hp->Prop
 stop:Nat->Hp->Prop
noncomputable def qP (X:Cx) (pins:List (Addr×Obj)) (H:Hp) (b:Addr):Prop :=
 H b=none/\b≠X.env.locals/\b∉X.fs/\(b∈X.ex \/ X.s₀.heap.objs.size<=b)/\(∀ x c,X.env.cells.lookup x=some c->c≠b)/\∀ p∈X.pn++pins,p.1≠b
theorem Inv.fpOk {X:Cx} {pins:List (Addr×Obj)} {σ:St} {H H':Hp} {s:Shared} {b:Addr} (I:Inv X pins σ H s) (hb:s.heap.objs.size<=b) (hn:H' b=none):qP X pins H' b:=by
 refine⟨hn,aoo (alG I.lt hb),I.nofs hb,.inr (alV I.sz hb),fun x c e z=>?_,fun p hp z=>?_⟩
 ·obtain⟨v,q⟩:=I.cell x c e
  exact absurd (alG q.lt (by rw [z];exact hb)) (amQ _)
 ·exact absurd (alG (alz (I.pin p hp).1) (by rw [z];exact hb)) (amQ _)
structure Turn (P:Program) (w:World) (K:alg) (tg:Expr) (J:It) (fp:List Addr) (it:Addr) (tn:Nat->Heap->Prop):Prop where
 mem:it∈fp
 obj:∀ i h,tn i h->∀ b∈fp,∃ o,h.get? b=some o/\∀ v,o.data≠.cell v
 keep:∀ i h h',tn i h->(∀ b∈fp,∀ o,h.get? b=some o->h'.get? b=some o)->tn i h'
 item:∀ (X:Cx),X.prog=P->X.w=w->X.K=K->X.calm=true->∀ (i:Nat) (pins:List (Addr×Obj)) (s:Shared) (σ:St) (H:Hp) (E:Value->Shared->Prop),Inv X pins σ H s->(∀ b∈fp,qP X pins H b)->tn i s.heap->J.go i H ->
  wpAny (model P w) X.A (pyNext (.ref it)) (fun r s1=>∃ u,r=some u /\
   wpAny (model P w) X.A (letOwnedTupleGo tg (.ref it) u) (fun _ s2=>∃ x H',Inv X pins σ H' s2/\RelV x u/\J.yld i H x H'/\tn (i+1) s2.heap/\∀ b∈fp,H' b=none) E s1) E s
 done:∀ (X:Cx),X.prog=P->X.w=w->X.K=K->X.calm=true->∀ (i:Nat) (pins:List (Addr×Obj)) (s:Shared) (σ:St) (H:Hp) (E:Value->Shared->Prop),Inv X pins σ H s->(∀ b∈fp,qP X pins H b)->tn i s.heap->J.stop i H ->
  wpAny (model P w) X.A (pyNext (.ref it)) (fun r s1=>r=none/\Inv X pins σ H s1) E s
 self:∀ (A:Around) (i:Nat) (s:Shared) (Q:Value->Shared->Prop) (E:Value->Shared->Prop),tn i s.heap->Q (.ref it) s->wpAny (model P w) A (pyIter (.ref it)) Q E s
noncomputable abbrev TI:=St->Hp->(It->Hp->Prop)->Prop
noncomputable def PIE (X:Cx) (pins:List (Addr×Obj)) (σ:St) (tg:Expr) (R:It->Hp->Prop) (itv:Value) (s2:Shared):Prop :=
 ∃ (it:Addr) (fp:List Addr) (tn:Nat->Heap->Prop) (J:It) (H':Hp),itv=.ref it/\Inv X pins σ H' s2/\Turn X.prog X.w X.K tg J fp it tn/\tn 0 s2.heap/\(∀ b∈fp,qP X pins H' b)/\R J H'
noncomputable def PI (X:Cx) (tg iter:Expr) (wi:TI):Prop :=
 ∀ (pins:List (Addr×Obj)) (s:Shared) (σ:St) (H:Hp) (R:It->Hp->Prop),Inv X pins σ H s->wi σ H R ->
  wpAny (model X.prog X.w) X.A (eval iter X.env) (fun v s1=>wpAny (model X.prog X.w) X.A (pyIter v) (PIE X pins σ tg R) X.xe s1) X.xe s
theorem af9 {M:Model} {A:Around} {E:Value->Shared->Prop} {s:Shared} {tg:Expr} {it:Addr} {u:Value} {o:Obj} {n:String} {vs:Array Value} {Q:Unit->Shared->Prop} (ho:s.heap.get? it=some o) (hc:o.cls=.type n) (hd:o.data=.fields vs)
  (hn:["enumerate","zip","dict_itemiterator","dict_reverseitemiterator","odict_iterator","itertools.zip_longest","itertools.pairwise"].contains n=false) (hQ:Q () s):wpAny M A (letOwnedTupleGo tg (.ref it) u) Q E s:=by
 unfold letOwnedTupleGo
 cases tg <;> first
  | exact wpAny_pure hQ
  | (cases u <;> first
    | exact wpAny_pure hQ
    | (refine wpAny_bind (wpAny_load ho ?_)
       rw [hc,hd]
       show wpAny M A (if (["enumerate","zip","dict_itemiterator","dict_reverseitemiterator","odict_iterator","itertools.zip_longest","itertools.pairwise"].contains n && vs[0]? == some (rawInt _))=true then _ else _) Q E s
       rw [if_neg (by intro h;rw [hn,ana] at h;cases h)]
       exact wpAny_pure hQ))
noncomputable def Itl (K:alg) (a:Addr):It :=
 ⟨fun i H=>∃ xs x,SqL K H a xs/\xs[i]?=some x,fun i H x H'=>H'=H/\∀ xs,SqL K H a xs->xs[i]?=some x,fun i H=>∃ xs,SqL K H a xs/\xs.length<=i⟩
noncomputable def Itt (K:alg) (a:Addr):It :=
 ⟨fun i H=>∃ xs x,SqT K H a xs/\xs[i]?=some x,fun i H x H'=>H'=H/\∀ xs,SqT K H a xs->xs[i]?=some x,fun i H=>∃ xs,SqT K H a xs/\xs.length<=i⟩
noncomputable def Itr (lo:Int) (n:Nat):It:=⟨fun i _=>i<n,fun i H x H'=>H'=H/\x=.int (lo+i),fun i _=>n<=i⟩
theorem ae9 {P:Program} {w:World} {K:alg} {tg:Expr} (a it:Addr):Turn P w K tg (Itl K a) [it] it (fun i h=>h.IsListIter it a i) where
 mem:=by simp
 obj:=fun i h st b hb=>by
  have e:b=it:=by simpa using hb
  subst e
  obtain⟨o,e,c,d⟩:=st
  exact⟨o,e,fun v z=>by rw [d] at z;cases z⟩
 keep:=fun i h h' st k=>st.at fun o e=>k it (by simp) o e
 item:=by
  intro X hP hw hK hc i pins s σ H E I hf st hg
  subst hP hw hK
  obtain⟨xs,x,hq,hx⟩:=hg
  obtain⟨its,rv,p,hz⟩:=I.list hq
  obtain⟨u,hu,ru⟩:=rv.get hx
  obtain⟨f0,f1,f2,f3,f4,f5⟩:=hf it (by simp)
  refine wpAny_pyNext_list_item st p.isList (x:=u) (by simpa using hu) fun h' st' sb=>?_
  have I1:Inv X pins σ H { s with heap:=h' }:=I.turned (t':=s.toks) (fun b o hb e=>(sb.2 b hb).trans e) f0 f1 f3 f4 f5
  obtain⟨o,e,c,d⟩:=id st'
  exact⟨u,rfl,af9 (s:={ s with heap:=h' }) e c d (by decide) ⟨x,H,I1,ru,⟨rfl,fun ys hy=>by rw [I.list_inj hy hq];exact hx⟩,st',fun b hb=>(hf b hb).1⟩⟩
 done:=by
  intro X hP hw hK hc i pins s σ H E I hf st hg
  subst hP hw hK
  obtain⟨xs,hq,hx⟩:=hg
  obtain⟨its,rv,p,hz⟩:=I.list hq
  obtain⟨f0,f1,f2,f3,f4,f5⟩:=hf it (by simp)
  have hl:=rv.length
  exact wpAny_pyNext_list_end (I.ok.hd hc) st p.isList (by simp;omega) fun h' eb=>⟨rfl,I.turned (t':=s.toks) (fun b o hb e=>eb b o hb e) f0 f1 f3 f4 f5⟩
 self:=fun _ _ _ _ _ st h=>wpAny_pyIter_listiter st h
theorem adn {P:Program} {w:World} {K:alg} {tg:Expr} (a it:Addr):Turn P w K tg (Itt K a) [it] it (fun i h=>h.IsTupleIter it a i) where
 mem:=by simp
 obj:=fun i h st b hb=>by
  have e:b=it:=by simpa using hb
  subst e
  obtain⟨o,e,c,d⟩:=st
  exact⟨o,e,fun v z=>by rw [d] at z;cases z⟩
 keep:=fun i h h' st k=>st.at fun o e=>k it (by simp) o e
 item:=by
  intro X hP hw hK hc i pins s σ H E I hf st hg
  subst hP hw hK
  obtain⟨xs,x,hq,hx⟩:=hg
  obtain⟨its,rv,p,hz⟩:=I.tuple hq
  obtain⟨u,hu,ru⟩:=rv.get hx
  obtain⟨f0,f1,f2,f3,f4,f5⟩:=hf it (by simp)
  refine wpAny_pyNext_tuple_item st (show s.heap.IsTuple a its.toArray from p) (x:=u) (by simpa using hu) fun h' st' sb=>?_
  have I1:Inv X pins σ H { s with heap:=h' }:=I.turned (t':=s.toks) (fun b o hb e=>(sb.2 b hb).trans e) f0 f1 f3 f4 f5
  obtain⟨o,e,c,d⟩:=id st'
  exact⟨u,rfl,af9 (s:={ s with heap:=h' }) e c d (by decide) ⟨x,H,I1,ru,⟨rfl,fun ys hy=>by rw [I.tuple_inj hy hq];exact hx⟩,st',fun b hb=>(hf b hb).1⟩⟩
 done:=by
  intro X hP hw hK hc i pins s σ H E I hf st hg
  subst hP hw hK
  obtain⟨xs,hq,hx⟩:=hg
  obtain⟨its,rv,p,hz⟩:=I.tuple hq
  obtain⟨f0,f1,f2,f3,f4,f5⟩:=hf it (by simp)
  have hl:=rv.length
  exact wpAny_pyNext_tuple_end (I.ok.hd hc) st (show s.heap.IsTuple a its.toArray from p) (by simp;omega) fun h' eb=>⟨rfl,I.turned (t':=s.toks) (fun b o hb e=>eb b o hb e) f0 f1 f3 f4 f5⟩
 self:=fun _ _ _ _ _ st h=>wpAny_pyIter_tupleiter st h
theorem ado {P:Program} {w:World} {K:alg} {tg:Expr} (it:Addr) (lo:Int) (n:Nat):Turn P w K tg (Itr lo n) [it] it (fun i h=>IsRangeIter h it (lo+(i:Nat) * 1) ((n:Int) - (i:Nat)) 1) where
 mem:=by simp
 obj:=fun i h st b hb=>by
  have e:b=it:=by simpa using hb
  subst e
  exact⟨_,st,fun v z=>by
   have z':Data.fields _=Data.cell v:=z
   cases z'⟩
 keep:=fun i h h' st k=>k it (by simp) _ st
 item:=by
  intro X hP hw hK hc i pins s σ H E I hf st hg
  subst hP hw hK
  obtain⟨f0,f1,f2,f3,f4,f5⟩:=hf it (by simp)
  have W:=Walks.range (prog:=X.prog) (w:=X.w) (I.ok.hd hc) it lo 1 n
  refine W.item i s _ _ hg st fun v h' tk hv st' kk=>?_
  obtain⟨t,rfl⟩:=hv
  have I1:Inv X pins σ H { s with heap:=h',toks:=tk }:=I.turned (fun b o hb e=>kk b o (by simpa using hb) e) f0 f1 f3 f4 f5
  refine⟨_,rfl,af9 (s:={ s with heap:=h',toks:=tk }) (n:="range_iterator") st' rfl rfl (by decide) ⟨.int (lo+i),H,I1,⟨t,?_⟩,⟨rfl,rfl⟩,st',fun b hb=>(hf b hb).1⟩⟩
  rw [Int.mul_one]
 done:=by
  intro X hP hw hK hc i pins s σ H E I hf st hg
  subst hP hw hK
  obtain⟨f0,f1,f2,f3,f4,f5⟩:=hf it (by simp)
  exact wpAny_pyNext_range_end (I.ok.hd hc) st (by have:n<=i:=hg;omega) fun h' eb=>⟨rfl,I.turned (t':=s.toks) (fun b o hb e=>eb b o hb e) f0 f1 f3 f4 f5⟩
 self:=fun _ _ _ _ _ st h=>wpAny_pyIter_rangeiter st h
section
variable {X:Cx} {tg:Expr}
noncomputable def ab8 (K:alg) (tl:TE):TI:=fun σ H R=>tl σ H fun x H1=>∃ a,x=.ref a/\(∃ xs,SqL K H1 a xs)/\R (Itl K a) H1
noncomputable def ajA (K:alg) (tl:TE):TI:=fun σ H R=>tl σ H fun x H1=>∃ a,x=.ref a/\(∃ xs,SqT K H1 a xs)/\R (Itt K a) H1
theorem ahQ {l:Expr} {tl:TE} (hl:PE X l tl):PI X tg l (ab8 X.K tl):=by
 intro pins s σ H R I h
 refine thn (hl pins s σ H _ I h) fun v s1 ⟨x,H1,I1,r1,q1⟩=>?_
 obtain⟨a,e,⟨xs,hq⟩,q⟩:=q1
 subst e
 cases r1
 obtain⟨its,rv,p,hz⟩:=I1.list hq
 refine wpAny_pyIter_list p.isList ?_
 refine⟨s1.heap.objs.size,[s1.heap.objs.size],_,_,H1,rfl,I1.kept (t':=s1.toks) fun b o e=>alw _ e,ae9 a _,⟨_,al7 _ rfl,rfl,rfl⟩,fun b hb=>?_,q⟩
 have e:b=s1.heap.objs.size:=by simpa using hb
 subst e
 exact I1.fpOk (ali _) (I1.hok.fresh (ali _))
theorem ajB {l:Expr} {tl:TE} (hl:PE X l tl):PI X tg l (ajA X.K tl):=by
 intro pins s σ H R I h
 refine thn (hl pins s σ H _ I h) fun v s1 ⟨x,H1,I1,r1,q1⟩=>?_
 obtain⟨a,e,⟨xs,hq⟩,q⟩:=q1
 subst e
 cases r1
 obtain⟨its,rv,p,hz⟩:=I1.tuple hq
 refine wpAny_pyIter_tuple (show s1.heap.IsTuple a its.toArray from p) ?_
 refine⟨s1.heap.objs.size,[s1.heap.objs.size],_,_,H1,rfl,I1.kept (t':=s1.toks) fun b o e=>alw _ e,adn a _,⟨_,al7 _ rfl,rfl,rfl⟩,fun b hb=>?_,q⟩
 have e:b=s1.heap.objs.size:=by simpa using hb
 subst e
 exact I1.fpOk (ali _) (I1.hok.fresh (ali _))
theorem aga {pins:List (Addr×Obj)} {σ:St} {H:Hp} {s:Shared} {R:It->Hp->Prop} {E:Value->Shared->Prop} {lo hi:Int} {t u v:Tok} {tk:Nat} (I:Inv X pins σ H s) (h1:-(2 ^ 62)<=lo) (h2:lo<2 ^ 62) (h3:-(2 ^ 62)<=hi) (h4:hi<2 ^ 62)
  (q:R (Itr lo (hi - lo).toNat) H):wpAny (model X.prog X.w) X.A (pyIter (.ref s.heap.objs.size)) (PIE X pins σ tg R) E { s with heap:=s.heap.push { cls:=.type "range",data:=.fields #[.int lo t,.int hi u,.int 1 v] },toks:=tk }:=by
 refine wpAny_pyIter_range (IsRange.new ..) (small_one h1 h2 h3 h4) ?_
 have I1:Inv X pins σ H { s with heap:=s.heap.push { cls:=.type "range",data:=.fields #[.int lo t,.int hi u,.int 1 v] },toks:=tk }:=I.kept fun b o e=>alw _ e
 refine⟨(s.heap.push { cls:=.type "range",data:=.fields #[.int lo t,.int hi u,.int 1 v] }).objs.size,[(s.heap.push { cls:=.type "range",data:=.fields #[.int lo t,.int hi u,.int 1 v] }).objs.size],_,_,H,rfl,
  I1.kept (t':=tk) fun b o e=>alw _ e,ado _ lo (hi - lo).toNat,?_,fun b hb=>?_,q⟩
 ·have e1:lo+((0:Nat):Int) * 1=lo:=by simp
  have e2:(((hi - lo).toNat:Nat):Int) - ((0:Nat):Int)=Builtin.Range.rangeSize lo hi 1:=by rw [rangeSize_one];split <;> omega
  show IsRangeIter _ _ (lo+((0:Nat):Int) * 1) ((((hi - lo).toNat:Nat):Int) - ((0:Nat):Int)) 1
  rw [e1,e2]
  exact al7 _ rfl
 ·have e:b=(s.heap.push { cls:=.type "range",data:=.fields #[.int lo t,.int hi u,.int 1 v] }).objs.size:=by simpa using hb
  subst e
  exact I1.fpOk (ali _) (I1.hok.fresh (ali _))
noncomputable def ad3 (ta:TA):TI:=fun σ H R=>ta σ H fun vs H1=>∃ j:Int,vs=[.int j]/\-(2 ^ 62)<=j/\j<2 ^ 62/\R (Itr 0 j.toNat) H1
theorem yJ {a:Expr} {ta:TA} {p pos:Pos} (hg:Gl X "range") (hm:X.mg "range"=none) (ha:PA X [a] ta) (hs:starEach [a] X.env=[(false,eval a X.env)]:=by rfl):PI X tg (.Call (.Name "range" p) [a] [] pos) (ad3 ta):=by
 intro pins s σ H R I h
 refine Call_ (vi I hg hm boot_range (anq (thn (ha pos pins s σ H _ I h) fun us s1 ⟨vs,H1,I1,r1,q1⟩=>?_) hs rfl))
 obtain⟨j,e,q1,q2,q⟩:=q1
 subst e
 cases r1 with
 | cons r rr =>
  cases rr
  obtain⟨t,rfl⟩:=r
  exact call_range_1 (aga I1 (by omega) (by omega) q1 q2 (by simpa using q))
noncomputable def afa (wi:TI) (g:TG) (tb:TS):TS:=fun D σ H=>wi σ H fun J H1=>∃ W:Nat->Nat->St->Hp->Prop,(∃ m,W 0 m σ H1)/\∀ i m σ H,W i m σ H ->
 (J.stop i H/\D.nx σ H) \/ (J.go i H/\∃ N:St->Hp->Prop,(∀ σ' H',N σ' H'->∃ m',m'<m/\W (i+1) m' σ' H')/\∀ x H',J.yld i H x H'->g x σ H' fun σ2 H2=>tb { D with nx:=N,ct:=N,bk:=D.nx } σ2 H2)
noncomputable def v5 (fp:List Addr) (h:Heap):List (Addr×Obj):=fp.filterMap fun b=>(h.get? b).map fun o=>(b,o)
theorem jK {fp:List Addr} {h:Heap} {b:Addr} {o:Obj} (hb:b∈fp) (e:h.get? b=some o):(b,o)∈v5 fp h:=aos.mpr ⟨b,hb,by rw [e];rfl⟩
theorem afb {fp:List Addr} {h:Heap} {p:Addr×Obj} (hp:p∈v5 fp h):p.1∈fp/\h.get? p.1=some p.2:=by
 obtain⟨b,hb,e⟩:=aos.mp hp
 cases q:h.get? b with
 | none=>rw [q] at e;cases e
 | some o =>
  rw [q] at e
  have e':(b,o)=p:=Option.some.inj e
  subst e'
  exact⟨hb,q⟩
theorem Inv.pinned {pins:List (Addr×Obj)} {σ:St} {H:Hp} {s:Shared} {fp:List Addr} (I:Inv X pins σ H s) (hf:∀ b∈fp,qP X pins H b) (ho:∀ b∈fp,∃ o,s.heap.get? b=some o/\∀ v,o.data≠.cell v):Inv X (pins++v5 fp s.heap) σ H s :=
 I.pins_of fun p hp=>(alM.mp hp).elim (fun z=>I.pin p (alx _ z)) fun z=>by
  obtain⟨hb,e⟩:=afb z
  obtain⟨f0,f1,f2,_⟩:=hf p.1 hb
  obtain⟨o,e',d⟩:=ho p.1 hb
  rw [e] at e';cases e'
  exact⟨e,f0,f1,f2,d⟩
theorem Inv.unpinned {pins pl:List (Addr×Obj)} {σ:St} {H:Hp} {s:Shared} (I:Inv X (pins++pl) σ H s):Inv X pins σ H s:=I.pins_of fun p hp=>I.pin p (alx _ (al8 _ hp))
theorem jL {iter:Expr} {body:List Stmt} {wi:TI} {g:TG} {tb:TS} {pos:Pos} (hp:PassesOwn (model X.prog X.w) X.A X.env X.xe) (hc:X.calm=true) (hi:PI X tg iter wi) (hg:PG X tg g) (hb:PSs X body tb)
  (hs:∀ x,foldedSetIterable iter X.env x=pure x:=by intro _;rfl):PS X (.For tg iter body [] pos) (afa wi g tb):=by
 intro pins s σ H D I h
 refine wpAny_For (thn (hi pins s σ H _ I h) fun v s1 h1=>thn h1 fun itv s2 h2=>?_) hs
 obtain⟨it,fp,tn,J,H2,e,I2,T,st2,f2,W,⟨m0,w0⟩,turn⟩:=h2
 subst e
 -- what stays true of the iterator's objects through the loop
 have stat:∀ {H':Hp},(∀ b∈fp,H' b=none)->∀ b∈fp,qP X pins H' b:=fun hn b hb=>⟨hn b hb,(f2 b hb).2⟩
 refine codeAny_forLoop_any (fun n s'=>∃ i σ' H',Inv X pins σ' H' s'/\tn i s'.heap/\(∀ b∈fp,H' b=none)/\W i n σ' H') ?_ m0 ⟨0,σ,H2,I2,st2,fun b hb=>(f2 b hb).1,w0⟩
 rintro n s3 ⟨i,σ3,H3,I3,st3,fr3,w3⟩
 rcases turn i n σ3 H3 w3 with⟨stop,qn⟩ | ⟨go,N,hN,step⟩
 ·refine wpAny_passesOwn hp (thn (T.done X rfl rfl rfl hc i pins s3 σ3 H3 X.xe I3 (stat fr3) st3 stop) fun r s4 ⟨hr,I4⟩=>?_)
  subst hr
  exact wpAny_execs_nil ⟨σ3,H3,I4,qn⟩
 ·refine wpAny_passesOwn hp (thn (T.item X rfl rfl rfl hc i pins s3 σ3 H3 X.xe I3 (stat fr3) st3 go) fun r s4 ⟨u,hr,h4⟩=>?_)
  subst hr
  refine wpAny_passesOwn hp (thn h4 fun _ s5 ⟨x,H5,I5,r5,y5,st5,fr5⟩=>?_)
  have I5':=I5.pinned (stat fr5) (T.obj _ _ st5)
  refine wpAny_passesOwn hp (thn (hg _ s5 σ3 H5 x u _ I5' r5 (step x H5 y5)) fun _ s6 ⟨σ6,H6,I6,q6⟩=>?_)
  refine wpAny_passesOwn hp (thn (hb _ s6 σ6 H6 _ I6 q6) fun f s7 q7=>?_)
  have again:∀ {σ7:St} {H7:Hp},Inv X (pins++v5 fp s5.heap) σ7 H7 s7->N σ7 H7->∃ m,m<n/\∃ i σ' H',Inv X pins σ' H' s7/\tn i s7.heap/\(∀ b∈fp,H' b=none)/\W i m σ' H':=fun {σ7 H7} I7 n7=>by
   obtain⟨m',hm,w7⟩:=hN σ7 H7 n7
   refine⟨m',hm,i+1,σ7,H7,I7.unpinned,T.keep _ _ _ st5 fun b hb o e=>(I7.pin (b,o) (alx _ (alx _ (jK hb e)))).1,fun b hb=>?_,w7⟩
   obtain⟨o,e,d⟩:=T.obj _ _ st5 b hb
   exact (I7.pin (b,o) (alx _ (alx _ (jK hb e)))).2.1
  cases f with
  | next=>obtain⟨σ7,H7,I7,n7⟩:=q7;exact again I7 n7
  | cont=>obtain⟨σ7,H7,I7,n7⟩:=q7;exact again I7 n7
  | brk=>obtain⟨σ7,H7,I7,q7⟩:=q7;exact⟨σ7,H7,I7.unpinned,q7⟩
  | ret v=>obtain⟨x7,σ7,H7,I7,r7,q7⟩:=q7;exact⟨x7,σ7,H7,I7.unpinned,r7,q7⟩
end
noncomputable abbrev R2:=V->V->Hp->VK->Prop
noncomputable def OpR (X:Cx) (f:Value->Value->Sem Value) (r:R2):Prop :=
 ∀ (pins:List (Addr×Obj)) (s:Shared) (σ:St) (H:Hp) (x y:V) (v u:Value) (Q:VK),Inv X pins σ H s->RelV x v->RelV y u->r x y H Q ->
  wpAny (model X.prog X.w) X.A (f v u) (EP X pins σ Q) X.xe s
noncomputable def yg (X:Cx) (f:Value) (r:List V->Hp->VK->Prop):Prop :=
 ∀ (pins:List (Addr×Obj)) (s:Shared) (σ:St) (H:Hp) (xs:List V) (us:List Value) (Q:VK),Inv X pins σ H s->Vals xs us->r xs H Q ->
  wpAny (model X.prog X.w) X.A (call f us) (EP X pins σ Q) X.xe s
noncomputable def ak5 (X:Cx) (r:V->Hp->(Bool->Hp->Prop)->Prop):Prop :=
 ∀ (pins:List (Addr×Obj)) (s:Shared) (σ:St) (H:Hp) (x:V) (v:Value) (Q:Bool->Hp->Prop),Inv X pins σ H s->RelV x v->r x H Q ->
  wpAny (model X.prog X.w) X.A (truthy v) (TP X pins σ Q) X.xe s
noncomputable def tOp (r:R2) (ta tb:TE):TE:=fun σ H Q=>ta σ H fun x H1=>tb σ H1 fun y H2=>r x y H2 Q
noncomputable def rI (C:Int->Int->Prop) (g:Int->Int->V):R2:=fun x y H Q=>∃ i j,x=.int i/\y=.int j/\C i j/\Q (g i j) H
noncomputable def rI0 (g:Int->Int->V):R2:=fun x y H Q=>∃ i j,x=.int i/\y=.int j/\Q (g i j) H
section
variable {X:Cx} {a b c:Expr} {ta tb tc:TE} {pos:Pos}
theorem ajC (ha:PE X a ta) (hb:PE X b tb) {pins:List (Addr×Obj)} {s:Shared} {σ:St} {H:Hp} {R:V->V->Hp->Prop} (I:Inv X pins σ H s)
  (h:ta σ H fun x H1=>tb σ H1 fun y H2=>R x y H2) {Q:Value->Shared->Prop} {f:Value->Value->Sem Value}
  (hf:∀ v u s2 x y H2,Inv X pins σ H2 s2->RelV x v->RelV y u->R x y H2->wpAny (model X.prog X.w) X.A (f v u) Q X.xe s2) :
  wpAny (model X.prog X.w) X.A (eval a X.env) (fun v s₁=>wpAny (model X.prog X.w) X.A (eval b X.env) (fun u s₂=>wpAny (model X.prog X.w) X.A (f v u) Q X.xe s₂) X.xe s₁) X.xe s:=by
 refine thn (ha pins s σ H _ I h) fun v s1 ⟨x,H1,I1,r1,q1⟩=>?_
 refine thn (hb pins s1 σ H1 _ I1 q1) fun u s2 ⟨y,H2,I2,r2,q2⟩=>?_
 exact hf v u s2 x y H2 I2 r1 r2 q2
theorem zC {op:Operator} {r:R2} (ho:OpR X (binaryOp op) r) (ha:PE X a ta) (hb:PE X b tb):PE X (.BinOp a op b pos) (tOp r ta tb):=by
 intro pins s σ H Q I h
 exact wpAny_BinOp (ajC ha hb I h fun v u s2 x y H2 I2 rx ry q=>ho pins s2 σ H2 x y v u Q I2 rx ry q)
theorem opI {f:Value->Value->Sem Value} {C:Int->Int->Prop} {g:Int->Int->Int}
  (rule:∀ (i j:Int) (t u:Tok) (s:Shared) (Q:Value->Shared->Prop) (E:Value->Shared->Prop),C i j->Q (.int (g i j) s.toks) { s with toks:=s.toks+1 }->wpAny (model X.prog X.w) X.A (f (.int i t) (.int j u)) Q E s) :
  OpR X f (rI C fun i j=>.int (g i j)):=by
 intro pins s σ H x y v u Q I rx ry h
 obtain⟨i,j,rfl,rfl,hc,q⟩:=h
 obtain⟨t,rfl⟩:=rx
 obtain⟨t',rfl⟩:=ry
 exact rule i j t t' s _ _ hc ⟨.int (g i j),H,I.tok _,⟨_,rfl⟩,q⟩
theorem akD {f:Value->Value->Sem Value} {g:Int->Int->Int}
  (rule:∀ (i j:Int) (t u:Tok) (s:Shared) (Q:Value->Shared->Prop) (E:Value->Shared->Prop),Q (.int (g i j) s.toks) { s with toks:=s.toks+1 }->wpAny (model X.prog X.w) X.A (f (.int i t) (.int j u)) Q E s) :
  OpR X f (rI0 fun i j=>.int (g i j)):=by
 intro pins s σ H x y v u Q I rx ry h
 obtain⟨i,j,rfl,rfl,q⟩:=h
 obtain⟨t,rfl⟩:=rx
 obtain⟨t',rfl⟩:=ry
 exact rule i j t t' s _ _ ⟨.int (g i j),H,I.tok _,⟨_,rfl⟩,q⟩
theorem ahR {f:Value->Value->Sem Value} {g:Int->Int->Bool}
  (rule:∀ (i j:Int) (t u:Tok) (s:Shared) (Q:Value->Shared->Prop) (E:Value->Shared->Prop),Q (.bool (g i j)) s->wpAny (model X.prog X.w) X.A (f (.int i t) (.int j u)) Q E s) :
  OpR X f (rI0 fun i j=>.bl (g i j)):=by
 intro pins s σ H x y v u Q I rx ry h
 obtain⟨i,j,rfl,rfl,q⟩:=h
 obtain⟨t,rfl⟩:=rx
 obtain⟨t',rfl⟩:=ry
 exact rule i j t t' s _ _ ⟨.bl (g i j),H,I,rfl,q⟩
noncomputable def ak6 (i j:Int):Prop:=0<=j/\j<=1000000/\i.natAbs<2 ^ 64
noncomputable def CMul (i j:Int):Prop:=(-(2 ^ 64)<i/\i<2 ^ 64) \/ (-(2 ^ 64)<j/\j<2 ^ 64)
theorem CMul.ok {i j:Int} (h:CMul i j):IntMulOk i j:=by
 rcases h with⟨h1,h2⟩ | ⟨h1,h2⟩
 ·exact .of_left (intBits_le_64 h1 h2)
 ·exact .of_right (intBits_le_64 h1 h2)
theorem zQ:OpR X (binaryOp .Add) (rI0 fun i j=>.int (i+j)):=akD fun _ _ _ _ _ _ _ q=>add_int q
theorem vk:OpR X (binaryOp .Sub) (rI0 fun i j=>.int (i - j)):=akD fun _ _ _ _ _ _ _ q=>sub_int q
theorem v7:OpR X (binaryOp .Mult) (rI CMul fun i j=>.int (i * j)):=opI fun _ _ _ _ _ _ _ hc q=>mul_int q hc.ok
theorem vm:OpR X (binaryOp .Mod) (rI (fun _ j=>0<j) fun i j=>.int (i % j)):=opI fun i j _ _ _ _ _ hc q=>by
 have h1:(0:Int)<j:=hc
 exact mod_int' (by omega) (by rw [Int.fmod_eq_emod_of_nonneg i (by omega)];exact q)
theorem qH:OpR X (binaryOp .Pow) (rI ak6 fun i j=>.int (i ^ j.toNat)):=opI fun _ _ _ _ _ _ _ hc q=>pow_int_small hc.1 hc.2.1 hc.2.2 q
end
section
variable {X:Cx} {a b c:Expr} {ta tb tc:TE} {pos:Pos}
theorem agb {pins:List (Addr×Obj)} {σ:St} {H:Hp} {s:Shared} {Q:VK} {k k':Bool} (I:Inv X pins σ H s) (q:Q (.bl k) H) (e:k=k'):EP X pins σ Q (.bool k') s:=by
 subst e
 exact⟨.bl k,H,I,rfl,q⟩
theorem ad4:OpR X (compareOp .Lt) (rI0 fun i j=>.bl (decide (i<j))):=ahR fun _ _ _ _ _ _ _ q=>lt_int q
theorem aaM:OpR X (compareOp .LtE) (rI0 fun i j=>.bl (decide (i<=j))):=ahR fun _ _ _ _ _ _ _ q=>le_int q
theorem v8:OpR X (compareOp .Gt) (rI0 fun i j=>.bl (decide (j<i))):=ahR fun _ _ _ _ _ _ _ q=>gt_int q
theorem ai5:OpR X (compareOp .GtE) (rI0 fun i j=>.bl (decide (j<=i))):=ahR fun _ _ _ _ _ _ _ q=>ge_int q
theorem ajD:OpR X (compareOp .Is) (fun x y H Q=>y=.non/\Q (.bl (decide (x=.non))) H):=by
 intro pins s σ H x y v u Q I rx ry h
 obtain⟨rfl,q⟩:=h
 cases ry
 refine is_none_gen (agb I q ?_)
 cases x <;> first
  | (cases rx;rfl)
  | (obtain⟨t,rfl⟩:=rx;rfl)
theorem ahS:OpR X (compareOp .IsNot) (fun x y H Q=>y=.non/\Q (.bl (!decide (x=.non))) H):=by
 intro pins s σ H x y v u Q I rx ry h
 obtain⟨rfl,q⟩:=h
 cases ry
 refine isnot_none_gen (agb I q ?_)
 cases x <;> first
  | (cases rx;rfl)
  | (obtain⟨t,rfl⟩:=rx;rfl)
theorem zO (b:Expr) {op:CmpOp} (h:op≠.In:=by decide) (h2:op≠.NotIn:=by decide):behindInMarks op b=false:=by
 have e1:(op == CmpOp.In)=false:=by cases op <;> first | rfl | exact absurd rfl h
 have e2:(op == CmpOp.NotIn)=false:=by cases op <;> first | rfl | exact absurd rfl h2
 cases b <;> simp [behindInMarks,e1,e2]
theorem yV {op:CmpOp} {r:R2} (ho:OpR X (compareOp op) r) (ha:PE X a ta) (hb:PE X b tb) (hm:behindInMarks op b=false):PE X (.Compare a [op] [b] pos) (tOp r ta tb):=by
 intro pins s σ H Q I h
 exact wpAny_Compare1 (ajC ha hb I h fun v u s2 x y H2 I2 rx ry q=>ho pins s2 σ H2 x y v u Q I2 rx ry q) hm
noncomputable def agc (t:TE):TT:=fun σ H Q=>t σ H fun x H'=>∃ k,x=.bl k/\Q k H'
theorem zS {op:CmpOp} {r:R2} (ho:OpR X (compareOp op) r) (ha:PE X a ta) (hb:PE X b tb) (hm:behindInMarks op b=false):PT X (.Compare a [op] [b] pos) (agc (tOp r ta tb)):=by
 intro pins s σ H Q I h
 refine wpAny_isTrue_Compare1 (thn (ha pins s σ H _ I h) fun v s1 ⟨x,H1,I1,r1,q1⟩=>thn (hb pins s1 σ H1 _ I1 q1) fun u s2 ⟨y,H2,I2,r2,q2⟩ =>
  thn (ho pins s2 σ H2 x y v u _ I2 r1 r2 q2) fun c s3 ⟨z,H3,I3,r3,k,e,q3⟩=>?_) hm
 subst e
 cases r3
 exact wpAny_truthy_bool ⟨H3,I3,q3⟩
noncomputable def agd (r r':R2) (ta tb tc:TE):TE:=fun σ H Q=>ta σ H fun x H1=>tb σ H1 fun y H2=>r x y H2 fun z H3=>∃ k,z=.bl k /\
 (if k=true then tc σ H3 fun w' H4=>r' y w' H4 Q else Q (.bl false) H3)
theorem v9 {op op':CmpOp} {r r':R2} (ho:OpR X (compareOp op) r) (ho':OpR X (compareOp op') r') (ha:PE X a ta) (hb:PE X b tb) (hc:PE X c tc)
  (hm:lastMarks [op,op'] [b,c]=false:=by with_unfolding_all rfl):PE X (.Compare a [op,op'] [b,c] pos) (agd r r' ta tb tc):=by
 intro pins s σ H Q I h
 refine Compare_chain (thn (ha pins s σ H _ I h) fun v s1 ⟨x,H1,I1,r1,q1⟩=>chain_link (thn (hb pins s1 σ H1 _ I1 q1) fun u s2 ⟨y,H2,I2,r2,q2⟩ =>
  thn (ho pins s2 σ H2 x y v u _ I2 r1 r2 q2) fun d s3 ⟨z,H3,I3,r3,k,e,q3⟩=>?_)) hm
 subst e
 cases r3
 refine wpAny_truthy_bool ?_
 cases k with
 | false=>exact ite_ff ⟨.bl false,H3,I3,rfl,q3⟩
 | true=>exact ite_tt (chain_last (thn (hc pins s3 σ H3 _ I3 q3) fun w' s4 ⟨z',H4,I4,r4,q4⟩=>ho' pins s4 σ H4 y z' u w' Q I4 r2 r4 q4))
noncomputable def ajE (K:alg) (x:V) (H:Hp) (k:Bool):Prop :=
 match x with
 | .non=>k=false
 | .bl b=>k=b
 | .int i=>k=(i != 0)
 | .str y=>y.length<=sizeLine/\k=((y.length:Int) != 0)
 | .byt y=>y.size<=sizeLine/\k=((y.size:Int) != 0)
 | .ref p=>(∃ xs,SqL K H p xs/\k=!xs.isEmpty) \/ (∃ xs,SqT K H p xs/\k=!xs.isEmpty) \/ ∃ kvs,H p=some (.dK kvs)/\k=!kvs.isEmpty
 | _=>False
theorem adp {κ:Type} {kvs:List (κ×V)} {vs:List (κ×Value)} (r:KV kvs vs):(!vs.isEmpty)=!kvs.isEmpty:=by
 cases r <;> rfl
theorem aaa {xs:List V} {its:List Value} (r:Vals xs its):(!its.toArray.isEmpty)=!xs.isEmpty:=by
 cases r <;> simp
theorem aab:(sizeLine:Nat)<2 ^ 63:=by rw [sizeLine_eq];decide
theorem ajF:ak5 X (fun x H Q=>∃ k,ajE X.K x H k/\Q k H):=by
 intro pins s σ H x v Q I rx h
 obtain⟨k,e,q⟩:=h
 have hl:=aab
 have hs:sizeLine=16777216:=sizeLine_eq
 cases x with
 | non =>
  cases rx
  have e':k=false:=e
  subst e'
  exact truthy_none ⟨H,I,q⟩
 | bl b =>
  cases rx
  have e':k=b:=e
  subst e'
  exact wpAny_truthy_bool ⟨H,I,q⟩
 | int i =>
  obtain⟨t,rfl⟩:=rx
  have e':k=(i != 0):=e
  subst e'
  exact PySem.P.truthy_int ⟨H,I,q⟩
 | str y =>
  obtain⟨t,rfl⟩:=rx
  obtain⟨hy,e'⟩:y.length<=sizeLine/\k=((y.length:Int) != 0):=e
  subst e'
  exact PySem.P.truthy_str (by omega) ⟨H,I.tok _,q⟩
 | byt y =>
  obtain⟨t,rfl⟩:=rx
  obtain⟨hy,e'⟩:y.size<=sizeLine/\k=((y.size:Int) != 0):=e
  subst e'
  exact PySem.W.truthy_bytes (by omega) ⟨H,I.tok _,q⟩
 | ref p =>
  cases rx
  have e':(∃ xs,SqL X.K H p xs/\k=!xs.isEmpty) \/ (∃ xs,SqT X.K H p xs/\k=!xs.isEmpty) \/ ∃ kvs,H p=some (.dK kvs)/\k=!kvs.isEmpty:=e
  rcases e' with⟨xs,hx,e'⟩ | ⟨xs,hx,e'⟩ | ⟨kvs,hx,e'⟩
  ·subst e'
   obtain⟨its,r,pl,hz⟩:=I.list hx
   have hlen:=r.length
   exact wpAny_truthy_list pl.isList (by simp only [alA];omega) ⟨H,I.tok _,by rw [aaa r];exact q⟩
  ·subst e'
   obtain⟨its,r,pl,hz⟩:=I.tuple hx
   have hlen:=r.length
   exact truthy_tuple pl (by simp only [alA];omega) ⟨H,I.tok _,by rw [aaa r];exact q⟩
  ·subst e'
   obtain⟨hz,hS,vs,r,m⟩:kvs.length<=sizeLine/\(p == sysModules)=false/\∃ vs,KV kvs vs/\s.heap.DictOf (abc X.prog X.w) p vs:=I.hok p _ hx
   have hlen:kvs.length=vs.length:=Paired.length r
   exact wpAny_truthy_dict hS m (by omega) ⟨H,I.tok _,by rw [adp r];exact q⟩
 | _=>exact (show False from e).elim
theorem age (ha:PE X a ta) (he:∀ whole,isTrue a X.env whole=(do let v <- whole;standAt a.pos;holding [v] (truthy v))) :
  PT X a (fun σ H Q=>ta σ H fun x H'=>∃ k,ajE X.K x H' k/\Q k H'):=by
 intro pins s σ H Q I h
 exact isTrue_plain (thn (ha pins s σ H _ I h) fun v s1 ⟨x,H1,I1,r1,q1⟩=>ajF pins s1 σ H1 x v Q I1 r1 q1) (he _)
theorem vals1 {x:V} {us:List Value} (r:Vals [x] us):∃ u,us=[u]/\RelV x u:=by
 cases r with
 | cons r1 r2=>cases r2;exact⟨_,rfl,r1⟩
theorem vals2 {x y:V} {us:List Value} (r:Vals [x,y] us):∃ u w',us=[u,w']/\RelV x u/\RelV y w':=by
 cases r with
 | cons r1 r2 =>
  cases r2 with
  | cons r3 r4=>cases r4;exact⟨_,_,rfl,r1,r3⟩
theorem agf:yg X (.builtin "abs") (fun xs H Q=>∃ i,xs=[.int i]/\Q (.int (if i<0 then -i else i)) H):=by
 intro pins s σ H xs us Q I r h
 obtain⟨i,rfl,q⟩:=h
 obtain⟨u,rfl,t,rfl⟩:=vals1 r
 exact call_abs_int fun u tk=>⟨.int (if i<0 then -i else i),H,I.tok _,⟨_,rfl⟩,q⟩
theorem afc (hc:X.calm=true):yg X (.builtin "max") (fun xs H Q=>∃ i j,xs=[.int i,.int j]/\Q (.int (if j > i then j else i)) H):=by
 intro pins s σ H xs us Q I r h
 obtain⟨i,j,rfl,q⟩:=h
 obtain⟨u,w',rfl,⟨t,rfl⟩,⟨t',rfl⟩⟩:=vals2 r
 refine max_two_ints (I.ok.hd hc) fun h' tk k=>⟨_,H,I.kept k,?_,q⟩
 by_cases hj:j > i
 ·rw [if_pos hj,if_pos hj];exact⟨_,rfl⟩
 ·rw [if_neg hj,if_neg hj];exact⟨_,rfl⟩
theorem aaN (hc:X.calm=true):yg X (.builtin "min") (fun xs H Q=>∃ i j,xs=[.int i,.int j]/\Q (.int (if j<i then j else i)) H):=by
 intro pins s σ H xs us Q I r h
 obtain⟨i,j,rfl,q⟩:=h
 obtain⟨u,w',rfl,⟨t,rfl⟩,⟨t',rfl⟩⟩:=vals2 r
 refine min_two_ints (I.ok.hd hc) fun h' tk k=>⟨_,H,I.kept k,?_,q⟩
 by_cases hj:j<i
 ·rw [if_pos hj,if_pos hj];exact⟨_,rfl⟩
 ·rw [if_neg hj,if_neg hj];exact⟨_,rfl⟩
end
structure ObjM (h:Heap) (x dx C:Addr) (mA:Str->Option Value):Prop where
 obj:h.get? x=some (aoV C dx)
 ns:h.Ns1 dx mA
 ne:dx≠x
theorem afd {h:Heap} {dx:Addr} {mA:Str->Option Value} (n:h.Ns1 dx mA):∃ od,h.get? dx=some od/\∀ name,ao0 name od=some (mA name):=by
 obtain⟨o,es,ep,ho,hd,hk,_,hm⟩:=n
 refine⟨o,ho,fun name=>?_⟩
 have e:=hm name
 unfold nsFind findBy at e
 rw [<-Array.find?_toList] at e
 unfold ao0
 rw [hd]
 dsimp only
 split
 ·rename_i y q
  rw [q] at e
  exact congrArg some e
 ·rename_i q
  rw [q] at e
  have a:es.toList.any (·.refKey)=false:=by
   rw [List.any_eq_false]
   intro y hy
   obtain⟨z,t,hkey⟩:=hk y (ans.mp hy)
   simp [DictEntry.refKey,hkey]
  have a':¬ es.toList.any (·.refKey)=true:=by rw [a];exact ald
  rw [if_neg a']
  exact congrArg some e
theorem ObjM.look {h:Heap} {x dx C:Addr} {mA:Str->Option Value} (I:ObjM h x dx C mA):∃ od,PySem.W.InstAt h x (aoV C dx) C (some od)/\∀ name,ao0 name od=some (mA name) :=
 let⟨od,ho,hl⟩:=afd I.ns
 ⟨od,⟨I.obj,rfl,rfl,ho⟩,hl⟩
section
variable {prog:Program} {w:World} {A:Around} {E:Value->Shared->Prop} {s:Shared} {K:alg} {x dx C f:Addr} {mA:Str->Option Value} {name:Str} {v:Value}
end
section
variable {P:Program} {w:World} {H H':Hp} {h h':Heap} {a C dx:Addr} {fs fs':List (Str×V)}
theorem ahT (hok:HOk P w H h) (e:H a=some (.ins C dx fs)):∃ mA,ObjM h a dx C mA/\(∀ f,ajt (fs.lookup f) (mA f))/\PySem.Within mA (fs.map (·.1))/\fs.length<=1000/\H dx=some (.own a):=by
 obtain⟨d,z,ne,ob,mA,n,r,q⟩:=(show ObjOk P w H h a (.ins C dx fs) from hok a _ e)
 exact⟨mA,⟨ob,n,ne⟩,r,q,z,d⟩
end
structure Cls (K:alg) (C:Addr):Prop where
 pg:PySem.W.plainGet K C Str.empty=true
 hd:PySem.W.hasDictIn K C=true
 po:PySem.W.plainOver K C=true
 sa:anb K (.ref C) "__setattr__"=some (some (.builtin "object.__setattr__"))
theorem Cls.get {K:alg} {C:Addr} (c:Cls K C) (f:Str):PySem.W.plainGet K C f=true:=c.pg
structure Con (K:alg) (C:Addr) (f:Str) (v:V) (u:Value):Prop where
 at_:anb K (.ref C) f=some (some u)
 rel:RelV v u
 get:aoE K u "__get__"=some none
 cp:PySem.W.copiedNames.contains f=false
structure Meth (K:alg) (C:Addr) (m:Str) (f:Addr):Prop where
 at_:anb K (.ref C) m=some (some (.ref f))
 fn:PySem.W.isFn K (.ref f)=true
 kp:amr K (.ref f)=true
section
variable {X:Cx} {pins:List (Addr×Obj)} {σ:St} {H:Hp} {s:Shared} {a C dx:Addr} {fs:List (Str×V)} {f:Str} {v:V} {A:Around} {E:Value->Shared->Prop}
end
section
variable {X:Cx} {pins:List (Addr×Obj)} {σ:St} {H:Hp} {s:Shared} {A:Around} {E:Value->Shared->Prop} {Q:Value->Shared->Prop} {c:Value} {b:Bool}
inductive TyOf (K:alg) (H:Hp):V->Value->Prop where
 | non:TyOf K H .non (.type "NoneType")
 | bl (x:Bool):TyOf K H (.bl x) (.type "bool")
 | int (i:Int):TyOf K H (.int i) (.type "int")
 | str (x:Str):TyOf K H (.str x) (.type "str")
 | flt (x:UInt64):TyOf K H (.flt x) (.type "float")
 | lst {a:Addr} {xs:List V} (e:H a=some (.lst xs)):TyOf K H (.ref a) (.type "list")
 | frz {a:Addr} {o:Obj} {xs:List V} (e:H a=some (.frz o (.lst xs))):TyOf K H (.ref a) (.type "list")
 | tup {a:Addr} {xs:List V} (e:H a=some (.tup xs)):TyOf K H (.ref a) (.type "tuple")
 | dK {a:Addr} {kvs:List (Key×V)} (e:H a=some (.dK kvs)):TyOf K H (.ref a) (.type "dict")
 | dT {a:Addr} {kvs:List (List Key×V)} (e:H a=some (.dT kvs)):TyOf K H (.ref a) (.type "dict")
 | ins {a C dx:Addr} {fs:List (Str×V)} (e:H a=some (.ins C dx fs)) (cl:Cls K C) (ha:anb K (.ref C) "__class__"=some (some (.builtin "object.__class__")))
   (hn:aoE K (.builtin "object.__class__") "__get__"=some (some (.builtin "getset_descriptor.__get__"))) (htk:PySem.W.takesIn K (.builtin "object.__class__")=some true)
   (hm:PySem.W.mroIn K C (.type "object")=some true):TyOf K H (.ref a) (.ref C)
theorem afe {x:V} {u t:Value} (I:Inv X pins σ H s) (rx:RelV x u) (ty:TyOf X.K H x t) (e:anc X.K t c=some b) (h:∀ tk,Q (.bool b) { s with toks:=tk }) :
  wpAny (model X.prog X.w) A (call (.builtin "isinstance") [u,c]) Q E s:=by
 cases ty with
 | non=>cases (show u=Value.none from rx);exact amd PySem.W.kitx_none I.kIn True.intro e (fun z=>nomatch z) h
 | bl y=>cases (show u=Value.bool y from rx);exact amd PySem.W.kitx_bool I.kIn True.intro e (fun z=>nomatch z) h
 | int i=>obtain⟨t,q⟩:=(show ∃ t,u=Value.int i t from rx);cases q;exact amd PySem.W.kitx_int I.kIn True.intro e (fun z=>nomatch z) h
 | str y=>obtain⟨t,q⟩:=(show ∃ t,u=Value.str y t from rx);cases q;exact amd PySem.W.kitx_str I.kIn True.intro e (fun z=>nomatch z) h
 | flt y=>obtain⟨t,q⟩:=(show ∃ t,u=Value.float y t from rx);cases q;exact amd PySem.W.kitx_float I.kIn True.intro e (fun z=>nomatch z) h
 | @lst a xs ea =>
  cases (show u=Value.ref a from rx)
  obtain⟨_,_,n,_,h1⟩:=(show ObjOk X.prog X.w H s.heap a (.lst xs) from I.hok a _ ea)
  exact amd aoF I.kIn ⟨_,h1,rfl⟩ e (fun z=>nomatch z) h
 | @frz a ob xs ea =>
  cases (show u=Value.ref a from rx)
  obtain⟨_,_,_,n,_,h1⟩:=(show ObjOk X.prog X.w H s.heap a (.frz ob (.lst xs)) from I.hok a _ ea)
  exact amd aoF I.kIn ⟨_,h1,rfl⟩ e (fun z=>nomatch z) h
 | @tup a xs ea =>
  cases (show u=Value.ref a from rx)
  obtain⟨_,_,_,p⟩:=(show ObjOk X.prog X.w H s.heap a (.tup xs) from I.hok a _ ea)
  obtain⟨o,h1,h2,_⟩:=p
  exact amd PySem.W.kitx_tuple I.kIn ⟨o,h1,h2⟩ e (fun z=>nomatch z) h
 | @dK a kvs ea =>
  cases (show u=Value.ref a from rx)
  obtain⟨_,_,vs,_,p⟩:=(show ObjOk X.prog X.w H s.heap a (.dK kvs) from I.hok a _ ea)
  obtain⟨o,es,ep,h1,h2,_⟩:=p
  exact amd PySem.W.kitx_dict I.kIn ⟨o,h1,h2.1⟩ e (fun z=>nomatch z) h
 | @dT a kvs ea =>
  cases (show u=Value.ref a from rx)
  obtain⟨_,_,xs,_,o,es,ep,h1,h2,_⟩:=(show ObjOk X.prog X.w H s.heap a (.dT kvs) from I.hok a _ ea)
  exact amd PySem.W.kitx_dict I.kIn ⟨o,h1,h2.1⟩ e (fun z=>nomatch z) h
 | @ins a C dx fs ea cl ha hn htk hm =>
  cases (show u=Value.ref a from rx)
  obtain⟨mA,O,_⟩:=ahT I.hok ea
  obtain⟨od,J,_⟩:=O.look
  exact amd (PySem.W.kitx_own (cl.get _) cl.hd ha hn htk hm) I.kIn J e (fun z=>nomatch z) h
end
structure Room (k:Nat) (A:Around):Prop where
 hd:A.handled=none
 dp:A.depth+3 * k+5<recursionLimit
 un:A.units+16 * k+200<cLine
theorem Room.mono {j k:Nat} {A:Around} (r:Room k A) (h:j<=k):Room j A:=⟨r.hd,by have:=r.dp;omega,by have:=r.un;omega⟩
theorem Room.deeper {k:Nat} {A:Around} (r:Room (k+1) A) (env:Env):Room k (A.deeper env) :=
 ⟨r.hd,by have:=r.dp;show A.depth+1+3 * k+5<_;omega,by have:=r.un;show A.units+3+16 * k+200<_;omega⟩
theorem Room.depth {k:Nat} {A:Around} (r:Room k A):A.depth<recursionLimit:=by have:=r.dp;omega
theorem Room.units {k:Nat} {A:Around} (r:Room k A):A.units+64<cLine:=by have:=r.un;omega
noncomputable def jZ:TA:=fun _ H Q=>Q [] H
noncomputable def yx (ta:TE) (tr:TA):TA:=fun σ H Q=>ta σ H fun x H1=>tr σ H1 fun xs H2=>Q (x :: xs) H2
section
variable {X:Cx} {e:Expr} {es:List Expr} {te:TE} {t:TA} {pos:Pos}
theorem zb:PA X [] jZ:=fun _ _ _ _ H Q I h=>Calls.spliced_nil ⟨[],H,I,.nil,h⟩
theorem za (ha:PE X e te) (hr:PA X es t) (hs:starEach (e :: es) X.env=(false,eval e X.env) :: starEach es X.env:=by rfl):PA X (e :: es) (yx te t):=by
 intro pos pins s σ H Q I h
 rw [hs]
 show wpAny _ _ (spliced ((false,eval e X.env) :: backTo pos (starEach es X.env))) _ _ s
 refine Calls.spliced_cons (thn (ha pins s σ H _ I h) fun u s1 ⟨x,H1,I1,r1,q1⟩=>?_)
 exact thn (hr pos pins s1 σ H1 _ I1 q1) fun us s2 ⟨xs,H2,I2,r2,q2⟩=>⟨x :: xs,H2,I2,.cons r1 r2,q2⟩
noncomputable def akE (t:TA):TE:=fun σ H Q=>t σ H fun xs H1=>xs.length<=sizeLine/\∀ p,H1 p=none->Q (.ref p) (upd H1 p (.tup xs))
noncomputable def agg (t:TA):TE:=fun σ H Q=>t σ H fun xs H1=>xs.length<=sizeLine/\∀ p,H1 p=none->Q (.ref p) (upd H1 p (.lst xs))
theorem zL {x1} (h:PA X es t):PE X (.Tuple es x1 pos) (akE t):=by
 intro pins s σ H Q I hq
 refine wpAny_Tuple_spliced (thn (h pos pins s σ H _ I hq) fun us s1 ⟨xs,H1,I1,r,z,q⟩=>⟨by rw [<-r.length];exact z,?_⟩)
 have hf:H1 s1.heap.objs.size=none:=I1.hok.fresh (ali _)
 refine⟨.ref s1.heap.objs.size,upd H1 s1.heap.objs.size (.tup xs),I1.laid (t':=s1.toks) (fun b u e=>alw _ e) (ali _) ?_,rfl,q _ hf⟩
 exact⟨z,us,r,⟨_,al7 _ rfl,rfl,_,rfl⟩⟩
theorem yu (h:PA X es t):PE X (.List es pos) (agg t):=by
 intro pins s σ H Q I hq
 refine wpAny_List_spliced (thn (h pos pins s σ H _ I hq) fun us s1 ⟨xs,H1,I1,r,z,q⟩=>⟨by rw [<-r.length];exact z,?_⟩)
 have hf:H1 s1.heap.objs.size=none:=I1.hok.fresh (ali _)
 refine⟨.ref s1.heap.objs.size,upd H1 s1.heap.objs.size (.lst xs),I1.laid (t':=s1.toks) (fun b u e=>alw _ e) (ali _) ?_,rfl,q _ hf⟩
 exact⟨z,us,0,r,al7 _ rfl⟩
end
noncomputable abbrev Sp:=List V->Hp->VK->XK->Prop
noncomputable abbrev CXT:=List Env->Hp->Shared->XK->Value->Shared->Prop
structure Env0 (P:Program) (w:World) (K:alg) (mg:Str->Option Value) (base:Heap) (A:Around) (outer:List Env) (s:Shared) (H:Hp):Prop where
 frames:A.frames=some outer
 mod:Mod K mg base
 bs:∀ b o,base.get? b=some o->s.heap.get? b=some o/\H b=none
 bsz:base.objs.size<=s.heap.objs.size
 funs:s.heap.FunFrames base outer
 frf:∀ b∈frs outer,H b=none
 hok:HOk P w H s.heap
 bare:AllBare s.gens
noncomputable def CE (outer:List Env) (P:Program) (w:World) (H:Hp) (s:Shared) (Q:VK) (u:Value) (s':Shared):Prop :=
 ∃ v H',s'.os=s.os/\AllBare s'.gens/\Un (frs outer) [] H H' s.heap s'.heap/\HOk P w H' s'.heap/\RelV v u/\Q v H'
noncomputable def CR (CX:CXT) (outer:List Env) (P:Program) (w:World) (H:Hp) (s:Shared) (Q:VK) (E:XK) (r:Result) (s':Shared):Prop :=
 match r with
 | .ok (.ret u)=>CE outer P w H s Q u s'
 | .ok _=>False
 | .error e=>CX outer H s E e s'
structure FnOk (P:Program) (w:World) (K:alg) (mg:Str->Option Value) (base:Heap) (CX:CXT) (k:Nat) (f:Addr) (fd:FuncData) (ps:List Str) (sp:Sp):Prop where
 len:∀ vs H Q E,sp vs H Q E->vs.length=ps.length
 run:∀ (A:Around) (outer:List Env) (s:Shared) (H:Hp) (args:Args) (us:List Value) (vs:List V) (Q:VK) (E:XK),Room k A->Env0 P w K mg base A outer s H->BindsTo s fd args (ps.zip us)->Vals vs us->sp vs H Q E ->
  codeAny (model P w) A (.call (.ref f) args) (CR CX outer P w H s Q E) s
theorem FnOk.mono {P:Program} {w:World} {K:alg} {mg:Str->Option Value} {base:Heap} {CX:CXT} {j k:Nat} {f:Addr} {fd:FuncData} {ps:List Str} {sp:Sp} (F:FnOk P w K mg base CX j f fd ps sp) (h:j<=k) :
  FnOk P w K mg base CX k f fd ps sp:=⟨F.len,fun A outer s H args us vs Q E hr=>F.run A outer s H args us vs Q E (hr.mono h)⟩
section
variable {X:Cx} {pins:List (Addr×Obj)} {σ:St} {H:Hp} {s s':Shared}
theorem Inv.env0 (I:Inv X pins σ H s):Env0 X.prog X.w X.K X.mg X.base X.A X.stack s H :=
 ⟨I.ok.frames,I.ok.mod,I.bs,alV I.ok.bsz I.sz,I.stack,I.stkFree,I.hok,I.bare⟩
theorem Inv.after {Q:VK} {u:Value} (I:Inv X pins σ H s) (h:CE X.stack X.prog X.w H s Q u s'):EP X pins σ Q u s':=by
 obtain⟨v,H',os,bare,un,hok,r,q⟩:=h
 obtain⟨hh,g,d,t,os'⟩:=s'
 obtain rfl:os'=s.os:=os
 exact⟨v,H',I.call (h':=hh) (g':=g) (d':=d) (t':=t) (ch:=[]) un hok bare (fun b z=>absurd z (by simp)),r,q⟩
end
noncomputable def ab9 (sp:Sp) (dvs:List V) (E:XK) (t:TA):TE:=fun σ H Q=>t σ H fun vs H1=>sp (vs++dvs) H1 Q E
noncomputable def Binds (K:alg) (fd:FuncData) (ps:List Str) (ds:List Value):Prop :=
 ∀ (s:Shared) (us:List Value),K.In s.heap->(us++ds).length=ps.length->BindsTo s fd ⟨us,[]⟩ (ps.zip (us++ds))
theorem Binds.all {K:alg} {fd:FuncData} {ps:List Str} (h:∀ us:List Value,us.length=ps.length->bindArgs fd ⟨us,[]⟩=pure (ps.zip us)):Binds K fd ps []:=fun s us _ hl=>by
 rw [al4] at hl ⊢
 exact .of_eq (h us hl)
noncomputable def Passes (CX:CXT) (X:Cx) (E:XK):Prop:=∀ (pins:List (Addr×Obj)) (σ:St) (H:Hp) (s:Shared) (e:Value) (s':Shared),Inv X pins σ H s->CX X.stack H s E e s'->X.xe e s'
section
variable {X:Cx} {CX:CXT} {k:Nat} {f C:Addr} {fd:FuncData} {ps:List Str} {sp:Sp} {dvs:List V} {ds:List Value} {E:XK} {x m:Str} {p pos apos:Pos} {e o:Expr} {es:List Expr} {ta:TE} {t:TA}
theorem ajG {pins:List (Addr×Obj)} {σ:St} {H:Hp} {s:Shared} {Q:VK} {us:List Value} {vs:List V} (F:FnOk X.prog X.w X.K X.mg X.base CX k f fd ps sp) (hr:Room k X.A) (hb:Binds X.K fd ps ds) (hd:Vals dvs ds) (hx:Passes CX X E)
  (I:Inv X pins σ H s) (r:Vals vs us) (h:sp (vs++dvs) H Q E):wpAny (model X.prog X.w) X.A (call (.ref f) us) (EP X pins σ Q) X.xe s:=by
 have r2:Vals (vs++dvs) (us++ds):=r.append hd
 have hl:(us++ds).length=ps.length:=by rw [<-r2.length];exact F.len _ _ _ _ h
 refine wpAny_call (codeAny_mono (F.run X.A X.stack s H ⟨us,[]⟩ (us++ds) (vs++dvs) Q E hr I.env0 (hb s us I.kIn hl) r2 h) fun r s' hq=>?_)
 cases r with
 | error e=>exact hx pins σ H s e s' I hq
 | ok fl =>
  cases fl with
  | ret u=>exact I.after hq
  | next=>exact ang hq
  | brk=>exact ang hq
  | cont=>exact ang hq
theorem ahU (F:FnOk X.prog X.w X.K X.mg X.base CX k f fd ps sp) (hr:Room k X.A) (hg:Gl X x) (hm:X.mg x=some (.ref f)) (hk:amr X.K (.ref f)=true) (hb:Binds X.K fd ps ds) (hd:Vals dvs ds) (hx:Passes CX X E)
  (ha:PA X (e :: es) t) (hdb:(x == ("__debug__":Str))=false:=by decide) (he:starEach (e :: es) X.env=(false,eval e X.env) :: starEach es X.env:=by rfl) (hpl:(backTo pos (starEach es X.env)).any (·.1)=false:=by rfl) :
  PE X (.Call (.Name x p) (e :: es) [] pos) (ab9 sp dvs E t):=by
 intro pins s σ H Q I h
 refine wpAny_Call_Name_kw (abe I hg hm ?_ hdb)
 refine PySem.W.callWith_K (h₀:=X.base) I.ok.mod.kin hk (thn (ha pos pins s σ H _ I h) fun us s1 ⟨vs,H1,I1,r,q⟩=>⟨I1.kIn,?_⟩) he hpl
 exact ajG F hr hb hd hx I1 r q
structure Mk (K:alg) (C f:Addr):Prop where
 makes:PySem.W.makesIn K C=true
 init:anb K (.ref C) "__init__"=some (some (.ref f))
 fn:PySem.W.isFn K (.ref f)=true
 kp:amr K (.ref C)=true
end
section
variable {X:Cx} {CX:CXT} {k:Nat} {f C:Addr} {fd:FuncData} {ps ks:List Str} {sp:Sp} {E:XK} {x m:Str} {p pos apos kpos:Pos} {e o:Expr} {es:List Expr} {kws:List Keyword} {te ta:TE} {t tk:TA} {nm:Option Str}
structure KBinds (K:alg) (fd:FuncData) (ps ks:List Str) (g:List Value->List Value->List Value) (gV:List V->List V->List V):Prop where
 to:∀ (s:Shared) (us ws:List Value),K.In s.heap->(g us ws).length=ps.length->BindsTo s fd ⟨us,ks.zip ws⟩ (ps.zip (g us ws))
 rel:∀ {vs:List V} {us:List Value} {zs:List V} {ws:List Value},Vals vs us->Vals zs ws->Vals (gV vs zs) (g us ws)
variable {g:List Value->List Value->List Value} {gV:List V->List V->List V}
end
structure FnScope (N P:List Str) (sc:Scope):Prop where
 kind:sc.kind=.function
 co:sc.isCoroutine=false
 gen:sc.isGenerator=false
 nd:N.Nodup
 pre:N.take P.length=P
 par:∀ x∈P,sc.names.lookup x=some .local \/ sc.names.lookup x=some .cell
 nofree:∀ y∈sc.names,y.2≠.free
theorem aaO {kindOf:Str->Option NameKind} {x:Str}:∀ {binds:List (Str×Value)} {m:Str->Option Value},(∀ v,(x,v)∉binds)->bindL kindOf binds m x=m x
 | [],_,_=>rfl
 | (n,v) :: r,m,h=>by
  unfold bindL
  rw [aaO fun w hw=>h w (alm _ hw)]
  split
  ·have:x≠n:=by rintro rfl;exact h v als
   simp [this]
  ·rfl
theorem aaP {kindOf:Str->Option NameKind} {x:Str}:∀ {binds:List (Str×Value)} {m:Str->Option Value},(∀ v,(x,v)∉binds)->bindC kindOf binds m x=m x
 | [],_,_=>rfl
 | (n,v) :: r,m,h=>by
  unfold bindC
  rw [aaP fun w hw=>h w (alm _ hw)]
  split
  ·rfl
  ·have:x≠n:=by rintro rfl;exact h v als
   simp [this]
theorem aaQ {kindOf:Str->Option NameKind} {x:Str} {v:Value}:∀ {P:List Str} {vs:List Value} {i:Nat} {m:Str->Option Value},P.Nodup->P[i]?=some x->vs[i]?=some v->kindOf x=some .local ->
  bindL kindOf (P.zip vs) m x=some v
 | [],_,_,_,_,h,_,_=>by simp at h
 | _ :: _,[],_,_,_,_,h,_=>by simp at h
 | p :: P,w :: vs,0,m,nd,h1,h2,hk=>by
  simp at h1 h2;subst h1;subst h2
  show bindL kindOf ((p,w) :: P.zip vs) m p=_
  unfold bindL
  rw [aaO fun v hv=>(aml.mp nd).1 (aoW hv).1,if_pos hk]
  simp
 | p :: P,w :: vs,i+1,m,nd,h1,h2,hk=>by
  show bindL kindOf ((p,w) :: P.zip vs) m x=_
  unfold bindL
  exact aaQ (i:=i) (aml.mp nd).2 (by simpa using h1) (by simpa using h2) hk
theorem aaR {kindOf:Str->Option NameKind} {x:Str} {v:Value}:∀ {P:List Str} {vs:List Value} {i:Nat} {m:Str->Option Value},P.Nodup->P[i]?=some x->vs[i]?=some v->kindOf x≠some .local ->
  bindC kindOf (P.zip vs) m x=some v
 | [],_,_,_,_,h,_,_=>by simp at h
 | _ :: _,[],_,_,_,_,h,_=>by simp at h
 | p :: P,w :: vs,0,m,nd,h1,h2,hk=>by
  simp at h1 h2;subst h1;subst h2
  show bindC kindOf ((p,w) :: P.zip vs) m p=_
  unfold bindC
  rw [aaP fun v hv=>(aml.mp nd).1 (aoW hv).1,if_neg hk]
  simp
 | p :: P,w :: vs,i+1,m,nd,h1,h2,hk=>by
  show bindC kindOf ((p,w) :: P.zip vs) m x=_
  unfold bindC
  exact aaR (i:=i) (aml.mp nd).2 (by simpa using h1) (by simpa using h2) hk
noncomputable def start (N:List Str) (vs:List V):St:=vs.map some++ant (N.length - vs.length) none
noncomputable def yj (CX:CXT) (P:Program) (w:World) (K:alg) (mg:Str->Option Value) (base:Heap) (N:List Str) (qual:Str) (scope:Scope) (f:Addr) (cd:Value) (A:Around) (outer:List Env) (s:Shared) (H:Hp) (E:XK):Cx where
 prog:=P
 w:=w
 K:=K
 mg:=mg
 base:=base
 A:=A.deeper (envOfC qual scope s.heap.objs.size f cd)
 N:=N
 s₀:=s
 H₀:=H
 env:=envOfC qual scope s.heap.objs.size f cd
 outer:=outer
 stack:=envOfC qual scope s.heap.objs.size f cd :: outer
 ex:=[]
 calm:=true
 fn:=fun _=>true
 pn:=[]
 xe:=fun e s'=>wpAny (model P w) (A.deeper (envOfC qual scope s.heap.objs.size f cd)) (leaving (envOfC qual scope s.heap.objs.size f cd) e) (fun _ s''=>CX outer H s E e s'') (fun e' s''=>CX outer H s E e' s'') s'
theorem aca {sc:Scope} {n:Nat} {x:Str} (h:sc.names.lookup x=some .cell):∃ c,(cellsFrom n sc.names []).lookup x=some c:=by
 have q:=anh sc.names n [] (.inl h)
 exact anG.mp q
theorem aff {CX:CXT} {P:Program} {w:World} {K:alg} {mg:Str->Option Value} {base:Heap} {N ps:List Str} {qual:Str} {scope:Scope} {f:Addr} {cd:Value} {A:Around} {outer:List Env} {s s1:Shared} {H:Hp} {E:XK} {us:List Value} {vs:List V}
  (S:FnScope N ps scope) (hd:A.handled=none) (e0:Env0 P w K mg base A outer s H) (hl:vs.length=ps.length) (r:Vals vs us)
  (x:InCallC s s.heap.objs.size (bindL (envOfC qual scope s.heap.objs.size f cd).kindOf (ps.zip us) fun _=>none) (cellsFrom (s.heap.objs.size+1) scope.names []) (bindC (envOfC qual scope s.heap.objs.size f cd).kindOf (ps.zip us) fun _=>none) s1) :
  Inv (yj CX P w K mg base N qual scope f cd A outer s H E) [] (start N vs) H s1:=by
 have hpl:ps.length<=N.length:=by have:=congrArg List.length S.pre;rw [alq] at this;omega
 obtain⟨h1,tk,rfl,hk⟩:=x.done
 have noA:∀ b:Addr,b∉(yj CX P w K mg base N qual scope f cd A outer s H E).ex:=fun b z=>absurd (show b∈([]:List Addr) from z) (by simp)
 refine⟨⟨e0.mod,S.kind,rfl,rfl,ali _,fun y z c h1 h2=>?_,fun y hy=>?_,fun y c _ h=>?_,fun _=>hd,Around.frames_deeper e0.frames,.inr ⟨rfl,rfl⟩,fun b z=>absurd z (noA b),e0.bs,e0.bsz,fun b _ _=>noA b,fun b z=>absurd z (noA b),e0.funs,e0.frf⟩,
  rfl,e0.bare,Un.kept hk,⟨_,x.toInCall.ns,fun i y v h1 h2 h3=>?_⟩,fun y c h=>⟨_,x.cell y c h⟩,e0.hok.fresh (ali _),fun y c h=>?_,fun p hp=>absurd (show p∈([]:List (Addr×Obj)) from hp) (by simp),e0.hok.kept hk,?_⟩
 ·exact name_of_addr x.apart (am7 h1) (am7 h2)
 ·have hy:scope.names.lookup y=some .cell \/ scope.names.lookup y=some .free:=hy
  rcases hy with hy | hy
  ·exact aca hy
  ·exact absurd rfl (S.nofree _ (am7 hy))
 ·exact amM (x.above y c (am7 h))
 ·have hi:i<vs.length:=by
   unfold start at h2
   by_cases hi:i<vs.length
   ·exact hi
   ·rw [alj (by simpa using hi)] at h2
    rw [ane] at h2
    split at h2 <;> cases h2
  have ha:vs[i]?=some v:=by
   unfold start at h2
   rw [alk (by simpa using hi),alv] at h2
   cases e:vs[i]? with
   | none=>rw [e] at h2;cases h2
   | some a=>rw [e] at h2;cases h2;rfl
  obtain⟨u,hu,rv⟩:=r.get ha
  have hp:ps[i]?=some y:=by
   rw [<-S.pre,amt (by omega)];exact h1
  have ndP:ps.Nodup:=by rw [<-S.pre];exact S.nd.sublist (anL _ _)
  refine⟨u,rv,?_⟩
  rcases S.par y (alB hp) with k | k
  ·exact .inl ⟨k,aaQ ndP hp hu k⟩
  ·obtain⟨c,e⟩:=aca (n:=s.heap.objs.size+1) k
   refine .inr ⟨.inl k,c,e,?_⟩
   have q:=x.cell y c e
   rw [aaR ndP hp hu (by show scope.names.lookup y≠_;rw [k];decide)] at q
   exact q
 ·exact e0.hok.fresh (amM (x.above y c (am7 h)))
 ·unfold start
  show _=N.length
  rw [alr,ale,anY]
  omega
theorem akF {CX:CXT} {P:Program} {w:World} {K:alg} {mg:Str->Option Value} {base:Heap} {k:Nat} {f:Addr} {name qual:Str} {params:Arguments} {body:List Stmt} {scope:Scope} {dV kV doc pm cdv ct oc:Value} {an od:Option Addr}
  {osl:Array (Option Value)} {N ps:List Str} {sp:Sp} (lk:K.lookup f=some ⟨oc,od,.func (amx name qual params body scope dV kV doc pm an cdv ct),osl⟩) (hcd:aot K cdv qual=true) (S:FnScope N ps scope)
  (len:∀ vs H Q E,sp vs H Q E->vs.length=ps.length)
  (hbody:∀ (A:Around) (outer:List Env) (s:Shared) (H:Hp) (vs:List V) (Q:VK) (E:XK),Room k (A.deeper (envOfC qual scope s.heap.objs.size f cdv))->sp vs H Q E ->
   ∃ t,PSs (yj CX P w K mg base N qual scope f cdv A outer s H E) body t/\t { nx:=fun _ H'=>Q .non H',rt:=Q } (start N vs) H) :
  FnOk P w K mg base CX (k+1) f (amx name qual params body scope dV kV doc pm an cdv ct) ps sp:=by
 refine⟨len,fun A outer s H args us vs Q E hr e0 hb r hsp=>?_⟩
 have hl:=len _ _ _ _ hsp
 have KX:K.In s.heap:=e0.mod.kin.keeps fun b o e=>(e0.bs b o e).1
 have lim:s.heap.NoLimit:=e0.mod.nolimit.keeps fun b o e=>(e0.bs b o e).1
 have hkind:∀ y∈ps.zip us,scope.names.lookup y.1=some .local \/ (scope.names.lookup y.1=some .cell/\((cellsFrom (s.heap.objs.size+1) scope.names []).lookup y.1).isSome=true):=fun⟨n,v⟩ hy=>by
  rcases S.par n (aoW hy).1 with q | q
  ·exact .inl q
  ·exact .inr ⟨q,anh _ _ _ (.inl q)⟩
 refine codeAny_call_function hr.depth (KX _ _ lk) rfl S.co S.gen rfl (PySem.W.codeRec_of KX hcd) (hb _ _ _ _ ?_)
 refine wpAny_newFunctionEnv_cells S.kind hkind fun env he s1 x=>?_
 subst he
 refine⟨lim.keeps x.toInCall.keep,codeAny_func ?_⟩
 obtain⟨t,ht,hq⟩:=hbody A outer s H vs Q E (hr.deeper _) hsp
 have I:Inv (yj CX P w K mg base N qual scope f cdv A outer s H E) [] (start N vs) H s1:=aff S hr.hd e0 hl r x
 refine wpAny_mono (ht [] s1 (start N vs) H _ I hq) (fun fl s' hs=>?_) fun e s' hs=>hs
 have fin:∀ {σ':St} {H':Hp} {v:V} {u:Value},Inv (yj CX P w K mg base N qual scope f cdv A outer s H E) [] σ' H' s'->RelV v u->Q v H'->CE outer P w H s Q u s' :=
  fun {σ' H' v u} J rv q=>⟨v,H',J.os,J.bare,J.base,J.hok,rv,q⟩
 cases fl with
 | ret u =>
  obtain⟨v,σ',H',J,rv,q⟩:=hs
  exact fin J rv q
 | next =>
  obtain⟨σ',H',J,q⟩:=hs
  exact fin (v:=V.non) (u:=Value.none) J rfl q
 | brk =>
  obtain⟨_,_,_,q⟩:=hs
  exact ang q
 | cont =>
  obtain⟨_,_,_,q⟩:=hs
  exact ang q
section
variable {X:Cx} {x:Str} {p pos:Pos} {e:Expr} {es:List Expr} {t:TA} {id T:String} {r:List V->Hp->VK->Prop}
noncomputable def tCB (r:List V->Hp->VK->Prop) (t:TA):TE:=fun σ H Q=>t σ H fun vs H1=>r vs H1 Q
theorem zz (hc:yg X (.builtin id) r) (hg:Gl X x) (hm:X.mg x=none) (hv:bootBuiltins x=some (.builtin id)) (ha:PA X (e :: es) t) (hn:x ≠ "__name__":=by decide) (hdb:(x == ("__debug__":Str))=false:=by decide)
  (he:starEach (e :: es) X.env=(false,eval e X.env) :: starEach es X.env:=by rfl) (hpl:(backTo pos (starEach es X.env)).any (·.1)=false:=by rfl):PE X (.Call (.Name x p) (e :: es) [] pos) (tCB r t):=by
 intro pins s σ H Q I h
 refine wpAny_Call_Name_kw (vi I hg hm hv ?_ hn hdb)
 exact PyProof.Rows.callWith_builtin1 (thn (ha pos pins s σ H _ I h) fun us s1 ⟨vs,H1,I1,r1,q1⟩=>hc pins s1 σ H1 vs us Q I1 r1 q1) he hpl
theorem ql (hc:yg X (.type T) r) (hg:Gl X x) (hm:X.mg x=none) (hv:bootBuiltins x=some (.type T)) (ha:PA X (e :: es) t) (hn:x ≠ "__name__":=by decide) (hdb:(x == ("__debug__":Str))=false:=by decide)
  (he:starEach (e :: es) X.env=(false,eval e X.env) :: starEach es X.env:=by rfl) (hpl:(backTo pos (starEach es X.env)).any (·.1)=false:=by rfl):PE X (.Call (.Name x p) (e :: es) [] pos) (tCB r t):=by
 intro pins s σ H Q I h
 refine wpAny_Call_Name_kw (vi I hg hm hv ?_ hn hdb)
 exact anq (thn (ha pos pins s σ H _ I h) fun us s1 ⟨vs,H1,I1,r1,q1⟩=>hc pins s1 σ H1 vs us Q I1 r1 q1) he hpl
theorem adq (hc:yg X (.type T) r) (hg:Gl X x) (hm:X.mg x=none) (hv:bootBuiltins x=some (.type T)) (hn:x ≠ "__name__":=by decide) (hdb:(x == ("__debug__":Str))=false:=by decide) :
  PE X (.Call (.Name x p) [] [] pos) (tCB r jZ):=by
 intro pins s σ H Q I h
 refine wpAny_Call_Name_kw (vi I hg hm hv ?_ hn hdb)
 exact PyProof.Rows.callWith_type0 (hc pins s σ H [] [] Q I .nil h)
end
end L2
namespace HT
open PySem PyProof.Rows
theorem rcLt_int (A:Around) (s:Shared) (a:Int) (t:Tok) (c:Int) (u:Tok) (prog:Program) (w:World) (E:Value->Shared->Prop) (Q:Value->Shared->Prop) (h:Q (.bool (decide (a<c))) s) :
  wpAny (model prog w) A (richCompare .Lt (.int a t) (.int c u)) Q E s :=
 (PyProof.Rows.lt_int h:wpAny (model prog w) A (compareOp .Lt (.int a t) (.int c u)) Q E s)
section
open PySem.SeqAt
open PySem.AutoSeq1 (wpAny_loadPart')
open PySem.MeetsSeq PySem.MeetsSeq2 PySem.MeetsSeq3
end
section
variable {prog:Program} {w:World} {A:Around} {E:Value->Shared->Prop} {s:Shared}
end
end HT
namespace L2
open PySem PySem.Spec PyProof.Rows
noncomputable abbrev TO:=St->Hp->(Option Int->Hp->Prop)->Prop
theorem intsAre_of {ns:List Int}:∀ {us:List Value},Vals (ns.map V.int) us->IntsAre us ns:=by
 induction ns with
 | nil=>intro us r;rw [aop] at r;cases r;exact .nil
 | cons n ns ih =>
  intro us r
  rw [alI] at r
  cases r with
  | cons r1 r2 =>
   obtain⟨t,e⟩:=r1
   subst e
   exact .cons n t (ih r2)
section
variable {X:Cx} {e:Expr} {te:TE} {lo hi:Option Expr} {tl th:TO} {pos p2:Pos}
end
noncomputable def ixN (n:Nat) (i:Int):Option Nat:=if 0<=i then (if i<n then some i.toNat else none) else if -(n:Int)<=i then some (i+n).toNat else none
noncomputable def atI {α:Type} (xs:List α) (i:Int):Option α:=(ixN xs.length i).bind fun j=>xs[j]?
theorem ad5 {n:Nat} {i:Int} {j:Nat} (h:ixN n i=some j):seqIndex? i n=some j/\j<n/\-(n:Int)<=i/\i<n:=by
 unfold ixN at h
 by_cases h0:0<=i
 ·rw [if_pos h0] at h
  by_cases h1:i<n
  ·rw [if_pos h1] at h
   have e:i.toNat=j:=Option.some.inj h
   exact⟨by rw [seqIndex_of h0 h1,e],by omega,by omega,h1⟩
  ·rw [if_neg h1] at h;cases h
 ·rw [if_neg h0] at h
  by_cases h1:-(n:Int)<=i
  ·rw [if_pos h1] at h
   have e:(i+n).toNat=j:=Option.some.inj h
   exact⟨by rw [seqIndex_neg (by omega) h1,e],by omega,h1,by omega⟩
  ·rw [if_neg h1] at h;cases h
theorem ad6 {α:Type} {xs:List α} {i:Int} {v:α} (h:atI xs i=some v):∃ j,seqIndex? i xs.length=some j/\xs[j]?=some v/\j<xs.length/\-(xs.length:Int)<=i/\i<xs.length:=by
 unfold atI at h
 cases e:ixN xs.length i with
 | none=>rw [e] at h;cases h
 | some j =>
  rw [e] at h
  obtain⟨h1,h2,h3,h4⟩:=ad5 e
  exact⟨j,h1,h,h2,h3,h4⟩
theorem ad7 {α:Type} {xs:List α} {j:Nat} {v:α} (h:xs[j]?=some v):atI xs (j:Int)=some v:=by
 have hj:j<xs.length:=(alf.mp h).1
 have e:ixN xs.length (j:Int)=some j:=by
  unfold ixN
  rw [if_pos (by omega),if_pos (by omega)];simp
 unfold atI;rw [e];exact h
noncomputable def ad8 (b:Expr):Prop:=∀ o i,subscripted b false o i=operate [o,i] (getItem o i)
noncomputable def IxR (X:Cx) (r:R2):Prop :=
 ∀ (value slice:Expr) (pins:List (Addr×Obj)) (s:Shared) (σ:St) (H:Hp) (x y:V) (v u:Value) (Q:VK),Inv X pins σ H s->RelV x v->RelV y u->r x y H Q ->
  subscripted slice false v u=operate [v,u] (getItem v u)->wpAny (model X.prog X.w) X.A (subscriptTail value slice v u) (EP X pins σ Q) X.xe s
noncomputable def MtR (X:Cx) (id:String) (r:V->List V->Hp->VK->Prop):Prop :=
 ∀ (pins:List (Addr×Obj)) (s:Shared) (σ:St) (H:Hp) (x:V) (xs:List V) (v:Value) (us:List Value) (Q:VK),Inv X pins σ H s->RelV x v->Vals xs us->r x xs H Q ->
  wpAny (model X.prog X.w) X.A (call (.builtin id) (v :: us)) (EP X pins σ Q) X.xe s
section
variable {X:Cx} {a b:Expr} {ta tb:TE} {pos:Pos}
theorem zP {r:R2} (hr:IxR X r) (ha:PE X a ta) (hb:PE X b tb) (hs:ad8 b):PE X (.Subscript a b pos) (tOp r ta tb):=by
 intro pins s σ H Q I h
 exact Subscript_ (ajC ha hb I h fun v u s2 x y H2 I2 rx ry q=>hr a b pins s2 σ H2 x y v u Q I2 rx ry q (hs _ _))
noncomputable def afg (K:alg):R2:=fun x y H Q=>∃ p xs i v,x=.ref p/\y=.int i/\SqL K H p xs/\atI xs i=some v/\Q v H
noncomputable def ajH (K:alg):R2:=fun x y H Q=>∃ p xs i v,x=.ref p/\y=.int i/\SqT K H p xs/\atI xs i=some v/\Q v H
theorem ahV:IxR X (afg X.K):=by
 intro value slice pins s σ H x y v u Q I rx ry h hs
 obtain⟨p,xs,i,z,rfl,rfl,hq,he,q⟩:=h
 cases rx
 obtain⟨t,rfl⟩:=ry
 obtain⟨its,r,pl,hz⟩:=I.list hq
 obtain⟨j,h1,h2,h3,h4,h5⟩:=ad6 he
 obtain⟨w,ew,rw'⟩:=r.get h2
 have hl:=r.length
 have hn:=aab
 have fin:EP X pins σ Q w s:=⟨z,H,I,rw',q⟩
 by_cases h0:0<=i
 ·have hj:i.toNat=j:=by
   rw [seqIndex_of h0 h5] at h1
   exact Option.some.inj h1
  exact item_listR pl.isList h0 (by omega) (by rw [hj];simpa using ew) fin hs
 ·have hj:(i+(its.toArray.size:Int)).toNat=j:=by
   rw [seqIndex_neg (by omega) h4] at h1
   rw [alA,<- hl]
   exact Option.some.inj h1
  exact subscriptTail_builtinR (x:=w) pl.isList.typeIs slot_list_getitem.lookup
   (wpAny_getItem_list_neg (Q:=fun r s'=>r=w/\EP X pins σ Q r s') pl.isList (by omega) (by rw [alA] <;> omega) (by omega) (by rw [hj];simpa using ew) ⟨rfl,fin⟩) hs
theorem ajI:IxR X (ajH X.K):=by
 intro value slice pins s σ H x y v u Q I rx ry h hs
 obtain⟨p,xs,i,z,rfl,rfl,hq,he,q⟩:=h
 cases rx
 obtain⟨t,rfl⟩:=ry
 obtain⟨its,r,pl,hz⟩:=I.tuple hq
 obtain⟨j,h1,h2,h3,h4,h5⟩:=ad6 he
 obtain⟨w,ew,rw'⟩:=r.get h2
 have hl:=r.length
 have hn:=aab
 have fin:EP X pins σ Q w s:=⟨z,H,I,rw',q⟩
 exact subscriptTail_builtinR (x:=w) pl.typeIs slot_tuple_getitem.lookup
  (getItem_tuple (j:=j) (Q:=fun r s'=>r=w/\EP X pins σ Q r s') pl (by omega) (by omega) (by rw [alA,<- hl];exact h1) (by simpa using ew) ⟨rfl,fin⟩) hs
theorem ads (its:List Value) (n j:Nat) (u:Value):anu (·.setIfInBounds j u) { cls:=.type "list",data:=.seq its.toArray n }={ cls:=.type "list",data:=.seq (its.set j u).toArray n }:=by
 simp [anu]
theorem Inv.lst {pins:List (Addr×Obj)} {σ:St} {H:Hp} {s:Shared} {p:Addr} {xs:List V} (I:Inv X pins σ H s) (h:H p=some (.lst xs)) :
  ∃ (its:List Value) (n:Nat),Vals xs its/\s.heap.get? p=some { cls:=.type "list",data:=.seq its.toArray n }/\xs.length<=sizeLine:=by
 obtain⟨z,its,n,r,e⟩:=I.hok p _ h
 exact⟨its,n,r,e,z⟩
theorem Inv.lstUpd {pins:List (Addr×Obj)} {σ:St} {H:Hp} {s:Shared} {p:Addr} {xs ys:List V} {its its':List Value} {n n':Nat} {f:Obj->Obj} (I:Inv X pins σ H s) (h:H p=some (.lst xs))
  (ho:s.heap.get? p=some { cls:=.type "list",data:=.seq its.toArray n }) (hf:f { cls:=.type "list",data:=.seq its.toArray n }={ cls:=.type "list",data:=.seq its'.toArray n' }) (r:Vals ys its') (hz:ys.length<=sizeLine) (t:Nat) :
  Inv X pins σ (upd H p (.lst ys)) { s with heap:=s.heap.update p f,toks:=t }:=by
 have e:(s.heap.update p f).get? p=some { cls:=.type "list",data:=.seq its'.toArray n' }:=by
  rw [anZ f ho (by rw [hf] <;> rfl),hf]
 refine I.write (x:=p) (e:=p) (by rw [h];trivial) (.inl rfl) (fun b u hb q=>(amN _ _ (amF hb)).trans q) ⟨_,e⟩ ?_
 exact⟨hz,its',n',r,e⟩
noncomputable def aac:V->V->V->Hp->(Hp->Prop)->Prop:=fun o i v H Q=>∃ p xs k j,o=.ref p/\i=.int k/\H p=some (.lst xs)/\ixN xs.length k=some j/\Q (upd H p (.lst (xs.set j v)))
theorem set_list:ahP X aac:=by
 intro pins s σ H o i v ov iv u Q I ro ri rv h
 obtain⟨p,xs,k,j,rfl,rfl,hp,hj,q⟩:=h
 cases ro
 obtain⟨t,rfl⟩:=ri
 obtain⟨its,n,r,ho,hz⟩:=I.lst hp
 obtain⟨h1,h2,h3,h4⟩:=ad5 hj
 have hl:=r.length
 have hn:=aab
 have I':Inv X pins σ (upd H p (.lst (xs.set j v))) { s with heap:=s.heap.update p (anu (·.setIfInBounds j u)) } :=
  I.lstUpd hp ho (ads its n j u) (r.set rv j) (by rw [ano];exact hz) s.toks
 by_cases h0:0<=k
 ·have hk:k.toNat=j:=by
   rw [seqIndex_of h0 h4] at h1
   exact Option.some.inj h1
  exact PySem.W.ki_setAt ho h0 (by omega) (by rw [alA,<- hl];exact h4) (by rw [hk];exact⟨_,I',q⟩)
 ·have hk:(k+(its.toArray.size:Int)).toNat=j:=by
   rw [seqIndex_neg (by omega) h3] at h1
   rw [alA,<- hl]
   exact Option.some.inj h1
  exact PySem.W.ki_setBack ho (by omega) (by rw [alA,<- hl];exact h3) (by omega) (by rw [hk];exact⟨_,I',q⟩)
noncomputable def vF:V->Bool
 | .non=>true
 | .bl _=>true
 | .int _=>true
 | .str _=>true
 | _=>false
noncomputable def eqV:V->V->Bool
 | .non,.non=>true
 | .bl a,.bl b=>a == b
 | .bl a,.int b=>(if a then 1 else 0) == b
 | .int a,.bl b=>a == (if b then 1 else 0)
 | .int a,.int b=>a == b
 | .str a,.str b=>a == b
 | _,_=>false
theorem ajJ {A:Around} {s:Shared} {y x:V} {u v:Value} (ry:RelV y u) (rx:RelV x v) (fy:vF y=true) (fx:vF x=true):SeqAt.EqAt A s u v (eqV y x):=by
 cases y with
 | non =>
  cases ry
  cases x with
  | non=>cases rx;exact SeqAt.EqAt.same _
  | bl b=>cases rx;exact SeqAt.EqAt.none_bool b
  | int b=>obtain⟨t,rfl⟩:=rx;exact SeqAt.EqAt.none_int b t
  | str b=>obtain⟨t,rfl⟩:=rx;exact SeqAt.EqAt.none_str b t
  | _=>exact absurd (show false=true from fx) ald
 | bl a =>
  cases ry
  cases x with
  | non=>cases rx;exact SeqAt.EqAt.bool_none a
  | bl b=>cases rx;exact SeqAt.EqAt.bool_bool a b
  | int b=>obtain⟨t,rfl⟩:=rx;exact SeqAt.EqAt.bool_int a b t
  | str b=>obtain⟨t,rfl⟩:=rx;exact SeqAt.EqAt.bool_str a b t
  | _=>exact absurd (show false=true from fx) ald
 | int a =>
  obtain⟨t',rfl⟩:=ry
  cases x with
  | non=>cases rx;exact SeqAt.EqAt.int_none a t'
  | bl b=>cases rx;exact SeqAt.EqAt.int_bool a t' b
  | int b=>obtain⟨t,rfl⟩:=rx;exact SeqAt.EqAt.int_int a t' b t
  | str b=>obtain⟨t,rfl⟩:=rx;exact SeqAt.EqAt.int_str a t' b t
  | _=>exact absurd (show false=true from fx) ald
 | str a =>
  obtain⟨t',rfl⟩:=ry
  cases x with
  | non=>cases rx;exact SeqAt.EqAt.str_none a t'
  | bl b=>cases rx;exact SeqAt.EqAt.str_bool a t' b
  | int b=>obtain⟨t,rfl⟩:=rx;exact SeqAt.EqAt.str_int a t' b t
  | str b=>obtain⟨t,rfl⟩:=rx;exact SeqAt.EqAt.str_str a t' b t
  | _=>exact absurd (show false=true from fx) ald
 | _=>exact absurd (show false=true from fy) ald
noncomputable def eqU (x:V) (u:Value):Bool:=match u with
 | .none=>eqV .non x
 | .bool b=>eqV (.bl b) x
 | .int i _=>eqV (.int i) x
 | .str z _=>eqV (.str z) x
 | _=>false
theorem agh {x y:V} {u:Value} (r:RelV y u) (f:vF y=true):eqU x u=eqV y x:=by
 cases y with
 | non=>cases r;rfl
 | bl b=>cases r;rfl
 | int i=>obtain⟨t,rfl⟩:=r;rfl
 | str z=>obtain⟨t,rfl⟩:=r;rfl
 | _=>exact absurd (show false=true from f) ald
theorem abi {x:V}:∀ {xs:List V} {us:List Value},Vals xs us->xs.all vF=true->us.any (eqU x)=xs.any fun y=>eqV y x
 | _,_,.nil,_=>rfl
 | y :: xs,u :: us,.cons r t,f=>by
  rw [ape,alu] at f
  rw [List.any_cons,List.any_cons,agh r f.1,abi t f.2]
theorem aad {A:Around} {s:Shared} {x:V} {v:Value} (rx:RelV x v) (fx:vF x=true):∀ {xs:List V} {us:List Value},Vals xs us->xs.all vF=true->∀ u∈us,SeqAt.EqAt A s u v (eqU x u)
 | _,_,.nil,_=>fun u hu=>by cases hu
 | y :: xs,u :: us,.cons r t,f=>fun u' hu=>by
  rw [ape,alu] at f
  rcases alp.mp hu with rfl | hu
  ·rw [agh r f.1];exact ajJ r rx f.1 fx
  ·exact aad rx fx t f.2 u' hu
noncomputable def inV (x:V) (xs:List V):Bool:=xs.any fun y=>eqV y x
noncomputable def rIn (K:alg) (neg:Bool):R2:=fun x y H Q=>∃ p xs,y=.ref p/\(SqL K H p xs \/ SqT K H p xs)/\vF x=true/\xs.all vF=true/\Q (.bl (if neg then !inV x xs else inV x xs)) H
theorem abj:OpR X (compareOp .NotIn) (rIn X.K true):=by
 intro pins s σ H x y v u Q I rx ry h
 obtain⟨p,xs,rfl,hq,fx,fs,q⟩:=h
 cases ry
 rcases hq with hq | hq
 ·obtain⟨its,r,pl,hz⟩:=I.list hq
  refine SeqAt.notIn_listAt (eqU x) pl.isList (fun w hw=>aad rx fx r fs w (by simpa using hw)) ⟨.bl _,H,I,rfl,?_⟩
  rw [show its.toArray.any (eqU x)=its.any (eqU x) by simp,abi r fs]
  exact q
 ·obtain⟨its,r,pl,hz⟩:=I.tuple hq
  refine SeqAt.notIn_tupleAt (eqU x) pl (fun w hw=>aad rx fx r fs w (by simpa using hw)) ⟨.bl _,H,I,rfl,?_⟩
  rw [show its.toArray.any (eqU x)=its.any (eqU x) by simp,abi r fs]
  exact q
theorem abk:yg X (.builtin "len") (fun xs H Q=>∃ p ys,xs=[.ref p]/\(SqL X.K H p ys \/ SqT X.K H p ys)/\Q (.int ys.length) H):=by
 intro pins s σ H xs us Q I r h
 obtain⟨p,ys,rfl,hq,q⟩:=h
 obtain⟨u,rfl,rx⟩:=vals1 r
 cases rx
 have hn:=aab
 rcases hq with hq | hq
 ·obtain⟨its,r',pl,hz⟩:=I.list hq
  have hlen:=r'.length
  exact Calls.call_len_list pl.isList (by simp only [alA] <;> omega) ⟨.int ys.length,H,I.tok _,⟨s.toks+1,by rw [alA,hlen]⟩,q⟩
 ·obtain⟨its,r',pl,hz⟩:=I.tuple hq
  have hlen:=r'.length
  exact len_tuple pl (by simp only [alA] <;> omega) ⟨.int ys.length,H,I.tok _,⟨s.toks+1,by rw [alA,hlen]⟩,q⟩
theorem abl:yg X (.type "list") (fun xs H Q=>∃ p ys,xs=[.ref p]/\(SqL X.K H p ys \/ SqT X.K H p ys)/\∀ l,H l=none->Q (.ref l) (upd H l (.lst ys))):=by
 intro pins s σ H xs us Q I r h
 obtain⟨p,ys,rfl,hq,q⟩:=h
 obtain⟨u,rfl,rx⟩:=vals1 r
 cases rx
 have fin:∀ (its:List Value),Vals ys its->ys.length<=sizeLine->∀ (h':Heap) (c':Nat),(∀ b o',s.heap.get? b=some o'->h'.get? b=some o') ->
   h'.get? s.heap.objs.size=some { cls:=.type "list",dict:=none,data:=.seq its.toArray c',slots:=#[] }->EP X pins σ Q (.ref s.heap.objs.size) { s with heap:=h' }:=fun its r' hz h' c' kp e =>
  ⟨.ref s.heap.objs.size,_,I.laid (t':=s.toks) kp (ali _) (show ObjOk X.prog X.w _ h' _ (.lst ys) from⟨hz,its,c',r',e⟩),rfl,q _ (I.hok.fresh (ali _))⟩
 rcases hq with hq | hq
 ·obtain⟨its,r',pl,hz⟩:=I.list hq
  have hlen:=r'.length
  obtain⟨o,ho,hc,n,hd⟩:=pl.isList
  exact call_list_seq p (.inl rfl) ho hc hd (fun h' c' kp e=>fin its r' hz h' c' kp e) (by simp only [alA] <;> omega)
 ·obtain⟨its,r',pl,hz⟩:=I.tuple hq
  have hlen:=r'.length
  obtain⟨o,ho,hc,n,hd⟩:=pl
  exact call_list_seq p (.inr rfl) ho hc hd (fun h' c' kp e=>fin its r' hz h' c' kp e) (by simp only [alA] <;> omega)
theorem aaD:yg X (.type "tuple") (fun xs H Q=>∃ p ys,xs=[.ref p]/\((SqL X.K H p ys/\∀ l,H l=none->Q (.ref l) (upd H l (.tup ys))) \/ (SqT X.K H p ys/\Q (.ref p) H))):=by
 intro pins s σ H xs us Q I r h
 obtain⟨p,ys,rfl,h⟩:=h
 obtain⟨u,rfl,rx⟩:=vals1 r
 cases rx
 rcases h with⟨hq,q⟩ | ⟨hq,q⟩
 ·obtain⟨its,r',pl,hz⟩:=I.list hq
  have hlen:=r'.length
  refine call_tuple_list pl.isList (fun h' kp=>?_) (by simp only [alA] <;> omega)
  have I1:Inv X pins σ H { s with heap:=h' }:=I.kept (t':=s.toks) kp
  have I2:Inv X pins σ (upd H h'.objs.size (.tup ys)) { s with heap:=h'.push { cls:=.type "tuple",data:=.seq its.toArray } } :=
   I1.laid (t':=s.toks) (fun b o e=>alw _ e) (ali _) (show ObjOk X.prog X.w _ _ _ (.tup ys) from⟨hz,its,r',IsTup.new _ _⟩)
  exact⟨.ref h'.objs.size,_,I2,rfl,q _ (I1.hok.fresh (ali _))⟩
 ·obtain⟨its,r',pl,hz⟩:=I.tuple hq
  exact call_tuple_same pl ⟨.ref p,H,I,rfl,q⟩
noncomputable def tyV (K:alg) (T:String) (x:V) (H:Hp):Prop:=match x with
 | .str _=>T="str"
 | .int _=>T="int"
 | .ref p=>(T="list"/\∃ xs,SqL K H p xs) \/ (T="tuple"/\∃ o,K.lookup p=some o/\o.cls=.type "tuple"/\o.dict=none) \/
   (T="dict"/\((∃ kvs,H p=some (.dK kvs)) \/ ∃ kvs,H p=some (.dT kvs))) \/ (T="set"/\∃ S n,H p=some (.set S n))
 | _=>False
theorem ajK {pins:List (Addr×Obj)} {σ:St} {H:Hp} {s:Shared} {T:String} {x:V} {v:Value} (I:Inv X pins σ H s) (r:RelV x v) (ty:tyV X.K T x H) :
  s.TypeIs v T/\∀ a,v=.ref a->∃ ob,s.heap.get? a=some ob/\ob.dict=none:=by
 cases x with
 | str z =>
  obtain⟨t,rfl⟩:=r
  cases (show T="str" from ty)
  exact⟨typeIs_str s z t,fun _ e=>nomatch e⟩
 | int i =>
  obtain⟨t,rfl⟩:=r
  cases (show T="int" from ty)
  exact⟨typeIs_int s i t,fun _ e=>nomatch e⟩
 | ref p =>
  cases r
  rcases ty with⟨rfl,xs,hq⟩ | ⟨rfl,o,hk,hc,hd⟩ | ⟨rfl,hk⟩ | ⟨rfl,S,n,hk⟩
  ·obtain⟨its,_,pl,_⟩:=I.list hq
   refine⟨pl.isList.typeIs,fun a e=>?_⟩
   cases e
   obtain⟨o,n,e,c,hd,_⟩:=pl
   exact⟨o,e,hd⟩
  ·refine⟨⟨o,I.kIn p o hk,hc⟩,fun a e=>?_⟩
   cases e
   exact⟨o,I.kIn _ o hk,hd⟩
  ·have z:∃ o,s.heap.get? p=some o/\o.ExactDict:=by
    rcases hk with⟨kvs,hk⟩ | ⟨kvs,hk⟩
    ·obtain⟨_,_,_,_,o,_,_,e,ex,_⟩:=I.hok p _ hk
     exact⟨o,e,ex⟩
    ·obtain⟨_,_,_,_,o,_,_,e,ex,_⟩:=I.hok p _ hk
     exact⟨o,e,ex⟩
   obtain⟨o,e,ex⟩:=z
   refine⟨⟨o,e,ex.1⟩,fun a e2=>?_⟩
   cases e2
   exact⟨o,e,ex.2.1⟩
  ·obtain⟨o,_,_,_,e,ex,_⟩:=I.hok p _ hk
   refine⟨⟨o,e,ex.1⟩,fun a e2=>?_⟩
   cases e2
   exact⟨o,e,ex.2.1⟩
 | _=>exact ang ty
noncomputable def tBM (K:alg) (T:String) (r:V->List V->Hp->VK->Prop) (to:TE) (t:TA):TE:=fun σ H Q=>to σ H fun x H1=>tyV K T x H1/\t σ H1 fun xs H2=>r x xs H2 Q
variable {o e:Expr} {es:List Expr} {to:TE} {t:TA} {name:Str} {apos cpos:Pos} {T id:String} {r:V->List V->Hp->VK->Prop}
theorem acb (pa:PlainAttrs T) (slot:Slot T name id) (hty:typeOf (.builtin id)=pure (.type "method_descriptor")) (hm:MtR X id r) (ho:PE X o to) (ha:PA X (e :: es) t)
  (hbase:attributeBase o name X.env (eval o X.env)=eval o X.env:=by rfl)
  (hfew:((backTo cpos (starEach (e :: es) X.env)).all (fun x=>!x.1) && (backToKw cpos (keywordEach [] X.env)).all (fun x=>x.1.isSome)
   && decide ((e :: es).length+([]:List Keyword).length+(if ([]:List Keyword).isEmpty then 0 else 1)<30))=true:=by rfl)
  (hline:(apos.endLine == cpos.line)=true:=by rfl) (hs:starEach (e :: es) X.env=(false,eval e X.env) :: starEach es X.env:=by rfl) (hplain:(backTo cpos (starEach es X.env)).any (·.1)=false:=by rfl) :
  PE X (.Call (.Attribute o name apos) (e :: es) [] cpos) (tBM X.K T r to t):=by
 intro pins s σ H Q I h
 refine wpAny_Call_method_late hbase hfew hline rfl (thn (ho pins s σ H _ I h) fun v s1 ⟨x,H1,I1,r1,ty,q1⟩=>?_)
 obtain⟨h1,h2⟩:=ajK I1 r1 ty
 refine⟨T,id,pa,slot,hty,h1,h2,?_⟩
 have hA:=ha cpos pins s1 σ H1 _ I1 q1
 rw [hs] at hA ⊢
 refine aoP (by show (false || (backTo cpos (starEach es X.env)).any (·.1))=false;rw [hplain] <;> rfl) (ao1 ?_)
 exact thn hA fun us s2 ⟨vs,H2,I2,r2,q2⟩=>hm pins s2 σ H2 x vs v us Q I2 r1 r2 q2
/- xs.append(e),list.index on a module's tuple .. are MtR facts of 06m -/
end
noncomputable def MtM (X:Cx) (id:String) (r:V->List V->Hp->VK->Prop):Prop :=
 ∀ (pins:List (Addr×Obj)) (s:Shared) (σ:St) (H:Hp) (x:V) (xs:List V) (v:Value) (us:List Value) (Q:VK),Inv X pins σ H s->RelV x v->Vals xs us->r x xs H Q ->
  wpAny (model X.prog X.w) X.A (call (.builtin id) (v :: us)) (EP X pins σ Q) X.xe s
theorem Vals.one:∀ {x:V} {us:List Value},Vals [x] us->∃ u,us=[u]/\RelV x u
 | _,_,.cons r .nil=>⟨_,rfl,r⟩
section
variable {X:Cx} {pins:List (Addr×Obj)} {σ:St} {H:Hp} {s:Shared} {l b:Addr} {xs ys zs:List V}
theorem Inv.lset {its its':List Value} {n:Nat} {f:Array Value->Array Value} {t':Nat} (I:Inv X pins σ H s) (hH:H l=some (.lst xs))
  (e:s.heap.get? l=some { cls:=.type "list",data:=.seq its.toArray n }) (hf:f its.toArray=its'.toArray) (hv:Vals ys its') (hz:ys.length<=sizeLine) :
  Inv X pins σ (upd H l (.lst ys)) { s with heap:=s.heap.update l (anu f),toks:=t' }:=by
 have q:=PySem.IsL.update e f
 rw [hf] at q
 refine I.write (x:=l) (e:=l) (by rw [hH];exact trivial) (.inl rfl) (fun b' u hb hu=>(amN s.heap (anu f) (amF hb)).trans hu) ⟨_,q⟩ ?_
 exact⟨hz,its',_,hv,q⟩
theorem Inv.lnew {its:List Value} {t':Nat} (I:Inv X pins σ H s) (hv:Vals ys its) (hz:ys.length<=sizeLine) :
  Inv X pins σ (upd H s.heap.objs.size (.lst ys)) { s with heap:=s.heap.push { cls:=.type "list",data:=.seq its.toArray },toks:=t' } :=
 I.laid (fun _ _ q=>alw _ q) (ali _) ⟨hz,its,0,hv,al7 _ rfl⟩
theorem Inv.fresh (I:Inv X pins σ H s):H s.heap.objs.size=none:=I.hok.fresh (ali _)
theorem Inv.lstM (I:Inv X pins σ H s) (hH:H l=some (.lst xs)):xs.length<=sizeLine/\∃ (its:List Value) (n:Nat),Vals xs its/\xs.length=its.length/\s.heap.get? l=some { cls:=.type "list",data:=.seq its.toArray n }:=by
 obtain⟨z,its,n,r,e⟩:=I.hok l _ hH
 exact⟨z,its,n,r,r.length,e⟩
end
section
variable {X:Cx}
noncomputable def abm:V->List V->Hp->VK->Prop:=fun x vs H Q=>∃ l xs y,x=.ref l/\vs=[y]/\H l=some (.lst xs)/\xs.length<sizeLine/\Q .non (upd H l (.lst (xs++[y])))
theorem jA:MtM X "list.append" abm:=by
 intro pins s σ H x vs v us Q I rx rv h
 obtain⟨l,xs,y,rfl,rfl,hH,hz,q⟩:=h
 cases rx
 obtain⟨u,rfl,ru⟩:=rv.one
 obtain⟨z,its,n,r,hl,e⟩:=I.lstM hH
 refine call_meets F.slot_list_append ⟨_,e,rfl⟩ apa (ao2 _ _) (PySem.list_append l its.toArray n u (by rw [alA];omega)) ⟨e,?_⟩
 refine⟨.non,_,I.lset (its':=its++[u]) hH e (by simp) (r.append (.cons ru .nil)) ?_,rfl,q⟩
 rw [alr,amn]
 omega
end
end L2
namespace Att
open PySem PySem.W PySem.Calls PyProof.Rows
theorem vO {P:Params} {h:Heap}:∀ (ns:List Int) (vs:List Value),WellAll P h vs (ns.map WData.int)->IntsAre vs ns:=by
 intro ns
 induction ns with
 | nil =>
  intro vs w
  rw [aop] at w
  cases w
  exact .nil
 | cons n ns ih =>
  intro vs w
  rw [alI] at w
  cases w with
  | cons a b =>
   cases a
   exact .cons _ _ (ih _ b)
theorem afh {l:OpenLaw} {n:Nat} (hn:l.most=some n) {P:Params} {h:Heap} {args:List WData} {vals:List Value}
  (hpre:l.row.toRowW.claim.pre args=true) (hwl:WellAll P h vals args) :
  ∃ a vs ns,vals=[Value.ref a]/\args=[WData.list (ns.map WData.int)]/\h.get? a=some { cls:=.type "list",data:=.seq vs.toArray }/\IntsAre vs ns/\ns.length<=n:=by
 have hsh:WShape.hasAll [] args [.list .int]=true:=(pre_splitW hpre).1
 have hc:l.pre.holds [] { args:=args }=true:=(pre_splitW hpre).2
 obtain⟨d,r,rfl,h1,h2⟩:=hasAllW_cons hsh
 obtain rfl:=hasAllW_nil h2
 obtain⟨xs,rfl,h3⟩:=hasW_list h1
 obtain⟨ns,rfl⟩:=items_int h3
 have hlen:ns.length<=n:=by
  unfold OpenLaw.pre at hc
  have h4:(WTm.not (.lt (.lit (.int (n:Int))) (.len (.arg 0)))).holds [] { args:=[.list (ns.map .int)] }=true:=by
   have h4:=(holds_andW hc).1
   rw [hn] at h4
   exact h4
  have h5:=condW_of h4 (w_not (w_lt w_lit (w_len_list (w_arg rfl))))
  rw [ale] at h5
  refine Nat.le_of_not_lt fun q=>?_
  have q':(n:Int)<((ns.length:Nat):Int):=by omega
  first
   | (rw [decide_eq_true q'] at h5;exact absurd h5 (by decide))
   | (simp at h5;omega)
 cases hwl with
 | cons w1 w2 =>
  cases w2
  cases w1 with
  | list ho hall=>exact⟨_,_,ns,rfl,rfl,ho,vO ns _ hall,hlen⟩
theorem afi (l:OpenLaw) (args:List WData):l.row.toRowW.claim.post args (.bool true) args=true :=
 postW_of (r:=l.row.toRowW) (X:=(true == true))
  (show WShape.has [] (.bool true) .bool=true by first | rfl | decide | simp [WShape.has,WShape.arms,WShape.armsAll])
  (show (WTm.eq .res (.lit (.bool true))).value [] { args:=args,res:=some (.bool true),after:=args }=some (.bool (true == true)) from w_eq_bool (w_res rfl) w_lit) rfl
theorem attach_call {l:OpenLaw} {n:Nat} {q:Program} {loose:List Str} {XP:(Str->Option Value)->Heap->Prop} {YP:World->Heap->Prop} {d:DefRec}
  (hn:l.most=some n) (hdf:d.params.defaults=[])
  (call:∀ (w:World) (s₀ s₁:Shared) (mg mb:Str->Option Value) (fa:Addr) (o:Obj) (pm cd doc:Value) (a:Addr) (vs:List Value) (ns:List Int),
   Ground q loose [] XP w s₀ mg mb s₁.heap->YP w s₁.heap ->
   s₁.heap.get? fa=some o->o.data=.func (docDef d.name d.params d.body d.scope pm cd doc)->s₁.heap.CodeRec cd d.name->mg d.name=some (.ref fa) ->
   s₁.heap.get? a=some { cls:=.type "list",data:=.seq vs.toArray }->IntsAre vs ns->ns.length<=n->s₁.gens=#[] ->
   codeAny (model l.prog w) callerA (.call (.ref fa) ⟨[.ref a],[]⟩) (fun r s'=>r=.ok (.ret (.bool true))/\OldK s₁.heap s'.heap/\s'.os=s₁.os/\AllBare s'.gens) s₁) :
  WalkO q loose XP YP l.row.toRowW d [] (fun f vs=>PySem.call f vs):=by
 intro w s₀ s₁ mg mb G Y fa o pm cd doc dV kV ho hd hcd hD hmg hg args vals as hpre hlay hrd hwl hlo
 obtain rfl:dV=.none:=Dflts.none hD hdf
 obtain rfl:kV=.none:=Dflts.noKw hD
 obtain⟨a,vs,ns,rfl,rfl,hobj,hints,hlen⟩:=afh hn hpre hwl
 refine enter_call (codeAny_mono (call w s₀ s₁ mg mb fa o pm cd doc a vs ns G Y ho (fd_plain hd) hcd hmg hobj hints hlen hg) fun r s' hq=>?_)
 obtain⟨rfl,h2,h3,h4⟩:=hq
 exact⟨.inl ⟨.bool true,.bool true,[],rfl,fun _=>rfl,.bool true,afi l _,fun _=>⟨List.Pairwise.nil,fun _ hm=>(nomatch hm)⟩⟩,h2,h3,h4⟩
section
variable {prog:Program} {w:World} {A:Around} {E:Value->Shared->Prop} {s:Shared} {K:Frag}
end
end Att
namespace L2
open PySem PySem.Spec PyProof.Rows
theorem aaS:∀ {vs:List Value} {ns:List Int},IntsAre vs ns->Vals (ns.map V.int) vs
 | _,_,.nil=>.nil
 | _,_,.cons n t h=>.cons ⟨t,rfl⟩ (aaS h)
noncomputable def ajL (H:Hp):Prop:=∀ b,H b=none \/ ∃ o xs,H b=some (.frz o (.lst xs))
theorem agi {P:Program} {w:World} {K:alg} {mg mb:Str->Option Value} {CX:CXT} {k:Nat} {fa a:Addr} {fd:FuncData} {x:Str} {sp:Sp} {s₁:Shared} {vs:List Value} {ns:List Int}
  (KX:K.In s₁.heap) (hns:s₁.heap.Ns mainGlobals mg) (hb:s₁.heap.Ns builtinsNs mb) (hbb:∀ x:Str,x ≠ "__name__"->mb x=bootBuiltins x) (hlim:s₁.heap.NoLimit) (hg:s₁.gens=#[])
  (ha:s₁.heap.get? a=some { cls:=.type "list",data:=.seq vs.toArray }) (hi:IntsAre vs ns) (hl:ns.length<=sizeLine) (hr:Room k callerA)
  (F:∀ base:Heap,K.In base->base.Ns mainGlobals mg->FnOk P w K mg base CX k fa fd [x] sp) (hbind:∀ (s:Shared) (u:Value),BindsTo s fd ⟨[u],[]⟩ [(x,u)])
  (hsp:∀ H:Hp,ajL H->SqL K H a (ns.map V.int)->sp [.ref a] H (fun v _=>v=.bl true) fun _ _ _=>False)
  (hCX:∀ H e s',CX [] H s₁ (fun _ _ _=>False) e s'->False) :
  codeAny (model P w) callerA (.call (.ref fa) ⟨[.ref a],[]⟩) (fun r s'=>r=.ok (.ret (.bool true))/\OldK s₁.heap s'.heap/\s'.os=s₁.os/\AllBare s'.gens) s₁:=by
 have rv:=aaS hi
 have lenV:=hi.length
 -- from an abstract heap in which nothing but the script may be tracked
 have core:∀ H:Hp,ajL H->SqL K H a (ns.map V.int)->HOk P w H s₁.heap->(∀ b,H b≠none->b=a)->(H a≠none->K.lookup a=none) ->
   codeAny (model P w) callerA (.call (.ref fa) ⟨[.ref a],[]⟩) (fun r s'=>r=.ok (.ret (.bool true))/\OldK s₁.heap s'.heap/\s'.os=s₁.os/\AllBare s'.gens) s₁:=by
  intro H hO hS hok hA hK
  have base_of:∀ {b:Addr} {o:Obj},s₁.heap.get? b=some o->H b=none->(abd s₁.heap H).get? b=some o:=fun e n=>af4 e n
  have noA:∀ {b:Addr} {o:Obj} {es:Array DictEntry} {ep:Nat},s₁.heap.get? b=some o->o.data=.dict es ep->H b=none:=fun {b o es ep} e d=>by
   cases q:H b with
   | none=>rfl
   | some u =>
    have e':b=a:=hA b (by rw [q];simp)
    subst e'
    rw [ha] at e;cases e
    have d':Data.seq vs.toArray _=Data.dict es ep:=d
    cases d'
  have nsK:∀ {b:Addr} {m:Str->Option Value},s₁.heap.Ns b m->(abd s₁.heap H).Ns b m:=fun {b m} ⟨o,es,ep,e,d,r⟩=>⟨o,es,ep,base_of e (noA e d),d,r⟩
  have hKb:K.In (abd s₁.heap H):=fun b o e=>base_of (KX b o e) (by
   cases q:H b with
   | none=>rfl
   | some u =>
    have e':b=a:=hA b (by rw [q];simp)
    subst e'
    rw [hK (by rw [q];simp)] at e;cases e)
  have hM:Mod K mg (abd s₁.heap H):=⟨hKb,nsK hns,⟨mb,nsK hb,hbb⟩,let⟨mc,h1,h2⟩:=hlim;⟨mc,nsK h1,h2⟩⟩
  have e0:Env0 P w K mg (abd s₁.heap H) callerA [] s₁ H:=⟨rfl,hM,fun b o e=>ahL e,ani (ae7 _ _),trivial,fun b hb=>absurd (show b∈([]:List Addr) from hb) (by simp),hok,.of_eq hg⟩
  refine codeAny_mono ((F _ hKb (nsK hns)).run callerA [] s₁ H ⟨[.ref a],[]⟩ [.ref a] [.ref a] _ _ hr e0 (hbind s₁ (.ref a)) (.cons rfl .nil) (hsp H hO hS)) fun r s' h=>?_
  cases r with
  | error e=>exact (hCX H e s' h).elim
  | ok fl =>
   cases fl with
   | next=>exact ang h
   | brk=>exact ang h
   | cont=>exact ang h
   | ret u =>
    obtain⟨v,H',os,bare,un,hok',r',q⟩:=h
    have q':v=.bl true:=q
    subst q'
    obtain rfl:u=Value.bool true:=r'
    refine⟨rfl,OldK.of_keep fun b o e=>?_,os,bare⟩
    cases q:H b with
    | none=>exact un.keep b o e q (by intro z;exact absurd (show b∈([]:List Addr) from z) (by simp)) (by simp)
    | some u =>
     rcases hO b with z | ⟨ob,xs,z⟩
     ·rw [q] at z;cases z
     ·have z2:=un.frzs b ob _ z
      obtain⟨e1,_⟩:=hok b _ z
      obtain⟨e2,_⟩:=hok' b _ z2
      rw [e] at e1;cases e1
      exact e2
 cases hk:K.lookup a with
 | some o =>
  -- the script is one of the module's own objects
  have e:=KX a o hk
  rw [ha] at e
  cases e
  refine core (fun _=>none) (fun _=>.inl rfl) (.inr ⟨_,vs.toArray,_,hk,rfl,rfl,rfl,by rw [alA,lenV];exact hl,by simpa using rv⟩) (fun b u z=>by have z':(none:Option HO)=some u:=z;cases z') (fun b z=>absurd rfl z) fun z=>absurd rfl z
 | none =>
  refine core (fun b=>if b=a then some (.frz { cls:=.type "list",data:=.seq vs.toArray } (.lst (ns.map V.int))) else none) (fun b=>?_) (.inl (.inr ⟨{ cls:=.type "list",data:=.seq vs.toArray },if_pos rfl⟩)) (fun b u z=>?_) (fun b z=>?_) fun _=>hk
  ·by_cases hb:b=a
   ·exact .inr ⟨_,_,if_pos hb⟩
   ·exact .inl (if_neg hb)
  ·by_cases hb:b=a
   ·have z':=(if_pos hb).symm.trans z
    cases z'
    subst hb
    exact⟨ha,by rw [ale];exact hl,vs,_,rv,ha⟩
   ·have z':=(if_neg hb).symm.trans z
    cases z'
  ·by_cases hb:b=a
   ·exact hb
   ·exact absurd (if_neg hb) z
noncomputable abbrev KOf {K:alg} {h:Heap} (_:K.In h):alg:=K
theorem walk_of {l:PySem.W.OpenLaw} {n k:Nat} {q:Program} {loose:List Str} {XP:(Str->Option Value)->Heap->Prop} {YP:World->Heap->Prop} {d:DefRec} {K:Params->alg} {CX:World->CXT} {sp:World->Sp} {x:Str}
  (hn:l.most=some n) (hn2:n<=sizeLine) (hdf:d.params.defaults=[]) (hr:Room k callerA)
  (hY:∀ (w:World) (h:Heap),YP w h->(K w.params).In h)
  (F:∀ (w:World) (mg:Str->Option Value) (fa:Addr) (h:Heap),(K w.params).In h->h.Ns mainGlobals mg->mg d.name=some (.ref fa) ->
   ∃ fd:FuncData,(∀ (s:Shared) (u:Value),BindsTo s fd ⟨[u],[]⟩ [(x,u)]) /\
    ∀ base:Heap,(K w.params).In base->base.Ns mainGlobals mg->FnOk l.prog w (K w.params) mg base (CX w) k fa fd [x] (sp w))
  (hsp:∀ (w:World) (H:Hp) (a:Addr) (ns:List Int),ns.length<=n->ajL H->SqL (K w.params) H a (ns.map V.int)->sp w [.ref a] H (fun v _=>v=.bl true) fun _ _ _=>False)
  (hCX:∀ (w:World) (H:Hp) (s:Shared) (e:Value) (s':Shared),CX w [] H s (fun _ _ _=>False) e s'->False) :
  PySem.W.WalkO q loose XP YP l.row.toRowW d [] (fun f vs=>PySem.call f vs):=by
 refine Att.attach_call hn hdf fun w s₀ s₁ mg mb fa o pm cd doc a vs ns G Y ho hd hcd hmg hobj hints hlen hg=>?_
 have KX:=hY w _ Y
 obtain⟨fd,hb,hF⟩:=F w mg fa _ KX G.T.g hmg
 exact agi KX G.T.g G.T.b G.T.builtins G.T.nolimit hg hobj hints (alV hlen hn2) hr hF hb (fun H hO hS=>hsp w H a ns hlen hO hS) fun H e s'=>hCX w H s₁ e s'
end L2
/- THE LAST THEOREM (shape;LID,My.* are yours):
   My.Adr: a structure of the addresses that your layer names (classes,functions);My.Txt K t: a structure (Prop) of the equations over K;
   My.txt_mk:{K} {implicit addresses ..} (e1:nsIn K mainGlobals "law"=some (some (.ref f))) (e2:K.lookup f=some ⟨oc,od,.func (fnOf "law" "law" params body scope dV kV doc pm an cdv ct),sl⟩) (e3:codeIn K cdv "law"=true) ..:∃ t,My.Txt K t
set_option maxRecDepth 100000 in
set_option maxHeartbeats 0 in
theorem PySem.Challenge.cw_LID_holds : PySem.Challenge.rw_LID.Holds := by
 w_on;o_law;k_head;(case hw=>w_witness2)
 k_fill
 refine L2.walk_of (l:=PySem.Challenge.rw_LID) (n:=63) (k:=40) (x:="script") (CX:=fun w=>..) (sp:=fun _=>My.sp_law) rfl (by decide) rfl ⟨rfl,by decide,by decide⟩ (fun w h Y=>PySem.W.kIn_of Y) ?F ?S ?C
 case F =>
  intro w mg fa h KX G hmg
  have T:∃ t,My.Txt (L2.KOf KX) t:=by
   dsimp only [L2.KOf]                          -- K must stand as «<heap const> w.params» for k_is
   refine' My.txt_mk ?e1 ?e2 ?e3 ..
   (case e1=>PySem.W.k_is)                    -- in the order: a name->its address->its object->its parts
   (case e2=>PySem.W.k_is)
   ..
  obtain⟨t,T⟩:=T
  have e0:=hmg.symm.trans (amR KX G T.law)
  cases e0                                       -- fa is the law's own address
  exact⟨_,fun s u=>.of_eq rfl,fun base kb nb=>My.law_fn T kb nb⟩     -- if «.of_eq rfl» comes too early: refine' ⟨_,?b,fun base kb nb=>My.law_fn T kb nb⟩;exact fun s u=>.of_eq rfl
 case S=>exact fun w H a ns hl hO hS=>..
 case C=>exact ..
(the tactic k_is has no namespace: write k_is) -/
namespace L2
open PySem PySem.Spec PyProof.Rows
noncomputable def yL (s:Stmt):Arguments:=match s with
 | .FunctionDef _ a _ _ _ _ _ _ _ _=>a
 | _=>{ posonlyargs:=[],args:=[],vararg:=none,kwonlyargs:=[],kw_defaults:=[],kwarg:=none,defaults:=[] }
noncomputable def yl (s:Stmt):List Stmt:=match s with
 | .FunctionDef _ _ b _ _ _ _ _ _ _=>b
 | _=>[]
noncomputable def zi (s:Stmt):Scope:=match s with
 | .FunctionDef _ _ _ _ _ _ sc _ _ _=>sc
 | _=>{ kind:=.function,names:=[],isGenerator:=false,isCoroutine:=false }
noncomputable abbrev CX0:CXT:=fun _ _ _ _ _ _=>False
noncomputable abbrev E0:XK:=fun _ _ _=>False
theorem akG {X:Cx}:Passes CX0 X E0:=fun _ _ _ _ _ _ _ h=>h.elim
structure Fun (K:alg) (x qual:Str) (st:Stmt) (f:Addr) (fd:FuncData):Prop where
 ex:∃ (oc:Value) (od:Option Addr) (kV doc pm:Value) (an:Option Addr) (cdv ct:Value) (osl:Array (Option Value)),
  fd=amx x qual (yL st) (yl st) (zi st) .none kV doc pm an cdv ct/\K.lookup f=some ⟨oc,od,.func fd,osl⟩/\aot K cdv qual=true
 kp:amr K (.ref f)=true
section
variable {P:Program} {w:World} {K:alg} {mg:Str->Option Value} {base:Heap}
theorem Fun.ok {x qual:Str} {st:Stmt} {f:Addr} {fd:FuncData} {N ps:List Str} {k:Nat} {sp:Sp} (F:Fun K x qual st f fd) (S:FnScope N ps (zi st)) (len:∀ vs H Q E,sp vs H Q E->vs.length=ps.length)
  (hbody:∀ (cdv:Value) (A:Around) (outer:List Env) (s:Shared) (H:Hp) (vs:List V) (Q:VK) (E:XK),Room k (A.deeper (envOfC qual (zi st) s.heap.objs.size f cdv))->sp vs H Q E ->
   ∃ t,PSs (yj CX0 P w K mg base N qual (zi st) f cdv A outer s H E).nox (yl st) t/\t { nx:=fun _ H'=>Q .non H',rt:=Q } (start N vs) H):FnOk P w K mg base CX0 (k+1) f fd ps sp:=by
 obtain⟨oc,od,kV,doc,pm,an,cdv,ct,osl,rfl,lk,hcd⟩:=F.ex
 refine akF lk hcd S len fun A outer s H vs Q E hr hsp=>?_
 obtain⟨t,h,q⟩:=hbody cdv A outer s H vs Q E hr hsp
 exact⟨t,h.nox,q⟩
theorem Fun.binds {x qual:Str} {st:Stmt} {f:Addr} {fd:FuncData} {ps:List Str} (F:Fun K x qual st f fd)
  (h:∀ (kV doc pm:Value) (an:Option Addr) (cdv ct:Value) (us:List Value),us.length=ps.length->bindArgs (amx x qual (yL st) (yl st) (zi st) .none kV doc pm an cdv ct) ⟨us,[]⟩=pure (ps.zip us)):Binds K fd ps []:=by
 obtain⟨oc,od,kV,doc,pm,an,cdv,ct,osl,rfl,lk,hcd⟩:=F.ex
 exact .all (h kV doc pm an cdv ct)
theorem adt {x qual:Str} {st:Stmt} {f:Addr} {oc:Value} {od an:Option Addr} {osl:Array (Option Value)} {kV doc pm cdv ct:Value} (l:K.lookup f=some ⟨oc,od,.func (amx x qual (yL st) (yl st) (zi st) .none kV doc pm an cdv ct),osl⟩)
  (c:aot K cdv qual=true) (k:amr K (.ref f)=true):Fun K x qual st f (amx x qual (yL st) (yl st) (zi st) .none kV doc pm an cdv ct):=⟨⟨oc,od,kV,doc,pm,an,cdv,ct,osl,rfl,l,c⟩,k⟩
end
theorem ye {n:Nat} (h:n<=1000):n<sizeLine:=Nat.lt_of_le_of_lt h (by decide)
section
variable {X:Cx}
theorem pv (i:Nat) {x:Str} {pos:Pos} (hN:X.N[i]?=some x:=by rfl) (hv:Vis X.env.scope x:=by first | exact Or.inl rfl | exact Or.inr (Or.inl rfl) | exact Or.inr (Or.inr rfl)) (hd:(x == ("__debug__":Str))=false:=by decide)
  (hcd:(x == ("__classdict__":Str))=false:=by decide):PE X (.Name x pos) (yw i):=aju hN hv hd hcd
end
noncomputable def Same (H H':Hp):Prop:=∀ b o,H b=some o->H' b=some o
theorem Same.refl (H:Hp):Same H H:=fun _ _ h=>h
theorem Same.trans {H H1 H2:Hp} (a:Same H H1) (b:Same H1 H2):Same H H2:=fun c o h=>b c o (a c o h)
theorem Same.free {H H':Hp} (e:Same H H') {l:Addr} (h:H' l=Option.none):H l=Option.none:=by
 cases q:H l with
 | none=>rfl
 | some o =>
  rw [e l o q] at h
  cases h
theorem Same.seq {K:alg} {H H':Hp} {a:Addr} {xs:List V} (e:Same H H') (h:SqL K H a xs):SqL K H' a xs:=by
 rcases h with (h | ⟨o,h⟩) | h
 ·exact .inl (.inl (e _ _ h))
 ·exact .inl (.inr ⟨o,e _ _ h⟩)
 ·exact .inr h
noncomputable def z3 (env:Env):List (Str×NameKind)->List (Str×Addr)->List (Str×Addr)
 | [],acc=>acc
 | (x,k) :: r,acc=>if k == .free then z3 env r ((x,(env.cells.lookup x).getD 0) :: acc) else z3 env r acc
theorem adu {sc:Scope} {env:Env} (h:∀ x,(x,NameKind.free)∈sc.names->∃ c,env.cells.lookup x=some c):closureFor sc env=pure (z3 env sc.names []):=by
 have key:∀ (names:List (Str×NameKind)) (acc:List (Str×Addr)),(∀ x,(x,NameKind.free)∈names->∃ c,env.cells.lookup x=some c) ->
   (forIn names acc fun (x:Str×NameKind) (cs:List (Str×Addr))=>if (x.2 == NameKind.free)=true then (do let c <- cellOf env x.1;pure (ForInStep.yield ((x.1,c) :: cs))) else pure (ForInStep.yield cs))=(pure (z3 env names acc):Sem (List (Str×Addr))):=by
  intro names
  induction names with
  | nil=>intro acc _;rfl
  | cons p r ih =>
   intro acc hh
   obtain⟨x,k⟩:=p
   rw [anI]
   unfold z3
   by_cases hk:(k == NameKind.free)=true
   ·have hk':k=.free:=by simpa using hk
    subst hk'
    obtain⟨c,hc⟩:=hh x als
    simp only [beq_self_eq_true,if_true]
    rw [<-ih _ fun y hy=>hh y (alm _ hy)]
    have:cellOf env x=pure c:=by unfold cellOf;rw [hc]
    rw [this,hc]
    rfl
   ·simp only [hk,al5,if_false]
    rw [<-ih _ fun y hy=>hh y (alm _ hy)]
    rfl
 simp only [closureFor]
 have q:=key sc.names [] h
 refine Eq.trans ?_ (Eq.trans (congrArg (fun z=>z >>= fun r=>pure r) q) ?_)
 ·rfl
 ·rfl
theorem jM {env:Env}:∀ {names:List (Str×NameKind)} {acc:List (Str×Addr)} {p:Str×Addr},p∈z3 env names acc->p∈acc \/ ((p.1,NameKind.free)∈names/\p.2=(env.cells.lookup p.1).getD 0)
 | [],acc,p,h=>.inl h
 | (x,k) :: r,acc,p,h=>by
  unfold z3 at h
  split at h
  ·rename_i hk
   have hk':k=.free:=by simpa using hk
   subst hk'
   rcases jM h with q | ⟨q,e⟩
   ·rcases alp.mp q with q | q
    ·subst q;exact .inr ⟨als,rfl⟩
    ·exact .inl q
   ·exact .inr ⟨alm _ q,e⟩
  ·rcases jM h with q | ⟨q,e⟩
   ·exact .inl q
   ·exact .inr ⟨alm _ q,e⟩
theorem jW {α:Type}:∀ {l:List (Str×α)} {x:Str} {v:α},(x,v)∈l->∃ u,l.lookup x=some u
 | (y,u) :: r,x,v,h=>by
  rw [ame]
  cases hb:x == y with
  | true=>exact⟨u,rfl⟩
  | false =>
   rcases alp.mp h with e | h
   ·have:x=y:=congrArg Prod.fst e
    subst this
    simp at hb
   ·exact jW h
theorem qI {env:Env}:∀ {names:List (Str×NameKind)} {acc:List (Str×Addr)} {x:Str},(x,NameKind.free)∈names->(x,(env.cells.lookup x).getD 0)∈z3 env names acc
 | (y,k) :: r,acc,x,h=>by
  have mono:∀ (names:List (Str×NameKind)) (acc:List (Str×Addr)) (p:Str×Addr),p∈acc->p∈z3 env names acc:=by
   intro names
   induction names with
   | nil=>intro acc p hp;exact hp
   | cons q r ih =>
    intro acc p hp
    obtain⟨a,b⟩:=q
    unfold z3
    split
    ·exact ih _ _ (alm _ hp)
    ·exact ih _ _ hp
  unfold z3
  rcases alp.mp h with e | h
  ·cases e
   simp only [beq_self_eq_true,if_true]
   exact mono _ _ _ als
  ·split
   ·exact qI h
   ·exact qI h
theorem qy {env:Env} {names:List (Str×NameKind)} {x:Str} {c:Addr} (h:∀ x,(x,NameKind.free)∈names->∃ c,env.cells.lookup x=some c) (e:(z3 env names []).lookup x=some c):env.cells.lookup x=some c/\(x,NameKind.free)∈names:=by
 rcases jM (mem_of_lookup e) with q | ⟨q,e'⟩
 ·cases q
 ·obtain⟨c',hc⟩:=h _ q
  dsimp only at hc e'
  rw [hc] at e'
  exact⟨by rw [hc];exact congrArg some e'.symm,q⟩
theorem vG {env:Env} {names:List (Str×NameKind)} {x:Str} {c:Addr} (h:∀ x,(x,NameKind.free)∈names->∃ c,env.cells.lookup x=some c) (hx:(x,NameKind.free)∈names) (e:env.cells.lookup x=some c):(z3 env names []).lookup x=some c:=by
 obtain⟨u,hu⟩:=jW (qI (env:=env) (acc:=[]) hx)
 have:=(qy h hu).1
 rw [this] at e
 rw [hu,e]
theorem yK:∀ {names:List (Str×NameKind)} {n:Nat} {acc:List (Str×Addr)} {x:Str} {c:Addr},(cellsFrom n names acc).lookup x=some c->(n<=c/\c<n+names.length/\(x,NameKind.cell)∈names) \/ (acc.lookup x=some c/\(x,NameKind.cell)∉names)
 | [],n,acc,x,c,h=>.inr ⟨h,by simp⟩
 | (y,k) :: r,n,acc,x,c,h=>by
  unfold cellsFrom at h
  split at h
  ·rename_i hk
   have hk':k=.cell:=by simpa using hk
   subst hk'
   rcases yK h with⟨q1,q2,q3⟩ | ⟨q1,q2⟩
   ·exact .inl ⟨anM q1,alG q2 (by rw [alC];omega),alm _ q3⟩
   ·rw [ame] at q1
    cases hb:x == y with
    | true =>
     rw [hb] at q1
     cases q1
     have:x=y:=by simpa using hb
     subst this
     exact .inl ⟨ali _,by rw [alC];exact Nat.lt_add_of_pos_right (anN _),als⟩
    | false =>
     rw [hb] at q1
     refine .inr ⟨q1,fun z=>?_⟩
     rcases alp.mp z with e | z
     ·have:x=y:=congrArg Prod.fst e
      subst this
      simp at hb
     ·exact q2 z
  ·rename_i hk
   rcases yK h with⟨q1,q2,q3⟩ | ⟨q1,q2⟩
   ·exact .inl ⟨q1,alG q2 (by rw [alC];omega),alm _ q3⟩
   ·refine .inr ⟨q1,fun z=>?_⟩
    rcases alp.mp z with e | z
    ·have:k=.cell:=(congrArg Prod.snd e).symm
     subst this
     simp at hk
    ·exact q2 z
theorem yR:∀ (names:List (Str×NameKind)) (n:Nat) (acc:List (Str×Addr)),(acc.Pairwise fun x y=>x.2≠y.2)->(∀ p∈acc,p.2<n)->(cellsFrom n names acc).Pairwise fun x y=>x.2≠y.2
 | [],n,acc,h,_=>h
 | (y,k) :: r,n,acc,h,hl=>by
  unfold cellsFrom
  split
  ·refine yR r (n+1) _ (amS.mpr ⟨fun p hp=>?_,h⟩) fun p hp=>?_
   ·exact aoo (hl p hp)
   ·rcases alp.mp hp with e | hp
    ·subst e;exact aoM _
    ·exact amG (hl p hp)
  ·exact yR r n acc h hl
theorem aaE {names:List (Str×NameKind)} {n:Nat} {acc:List (Str×Addr)} {x:Str} (h:names.lookup x=some .cell):∃ c,(cellsFrom n names acc).lookup x=some c :=
 anG.mp (anh names n acc (.inl h))
theorem qz {names:List (Str×NameKind)} {n:Nat} {acc:List (Str×Addr)} {x:Str} (h:(acc.lookup x).isSome=true):∃ c,(cellsFrom n names acc).lookup x=some c :=
 anG.mp (anh names n acc (.inr h))
theorem jy:∀ (names:List (Str×NameKind)) (h:Heap) (acc:List (Str×Addr)) (x:Str) (c:Addr),(cellsFrom h.objs.size names acc).lookup x=some c->h.objs.size<=c->(∀ p∈acc,p.2<h.objs.size)->(pushCells h names).IsCell c none
 | [],h,acc,x,c,e,hc,hl=>absurd (hl _ (mem_of_lookup e)) (Nat.not_lt.mpr hc)
 | (y,k) :: r,h,acc,x,c,e,hc,hl=>by
  unfold cellsFrom at e
  unfold pushCells
  split at e
  ·rename_i hk
   rw [if_pos hk]
   by_cases hcc:c=h.objs.size
   ·subst hcc
    exact⟨_,pushCells_keeps _ _ _ _ (al7 _ rfl),rfl⟩
   ·have es:(h.push { cls:=.type "cell",data:=.cell none }).objs.size=h.objs.size+1:=aou ..
    refine jy r _ ((y,h.objs.size) :: acc) x c (by rw [es];exact e) (by rw [es];exact Nat.lt_of_le_of_ne hc (amF hcc)) fun p hp=>?_
    rw [es]
    rcases alp.mp hp with e | hp
    ·subst e;exact aoM _
    ·exact amG (hl p hp)
  ·rename_i hk
   rw [if_neg hk]
   exact jy r h acc x c e hc hl
noncomputable def zh (X:Cx) (sc:Scope) (N:List Str) (s₀:Shared) (H₀:Hp) (ex:List Addr) (pn:List (Addr×Obj)):Cx :=
 { X with N:=N,s₀:=s₀,H₀:=H₀,env:=compEnvC sc (cellsFrom (s₀.heap.objs.size+1) sc.names (z3 X.env sc.names [])) s₀.heap.objs.size X.env,
          outer:=X.stack,ex:=ex,fn:=fun x=>decide (sc.names.lookup x=some .cell),pn:=pn,xe:=fun _ _=>False }
structure CompScope (NO:List Str) (scO:Scope) (N:List Str) (sc:Scope) (own:Nat) (fr:List Nat):Prop where
 kind:sc.kind=.function
 nd:N.Nodup
 snd:(sc.names.map (·.1)).Nodup
 free:∀ p∈sc.names,p.2=.free->scO.names.lookup p.1=some .cell \/ scO.names.lookup p.1=some .free
 frn:∀ p∈(N.drop own).zip fr,NO[p.2]?=some p.1/\sc.names.lookup p.1=some .free
 len:N.length=own+fr.length
noncomputable def yS (own:Nat) (fr:List Nat) (σ:St):St:=ant own none++fr.map fun j=>(σ[j]?).getD none
theorem z7 {α:Type}:∀ {l:List (Str×α)} {x:Str} {k:α},(l.map (·.1)).Nodup->(x,k)∈l->l.lookup x=some k
 | (y,u) :: r,x,k,nd,h=>by
  rw [alI] at nd
  obtain⟨h1,h2⟩:=aml.mp nd
  rw [ame]
  rcases alp.mp h with e | h'
  ·cases e;simp
  ·have:x≠y:=by
    intro e
    subst e
    exact h1 (alF.mpr ⟨(x,k),h',rfl⟩)
   rw [beq_eq_false_iff_ne.mpr this]
   exact z7 h2 h'
theorem ja {env:Env}:∀ {names:List (Str×NameKind)} {x:Str} {k:NameKind},names.lookup x=some k ->
  (names.map fun (n,k)=>if (k == NameKind.free && env.scope.kind == .function && env.kindOf n == some .cell) then (n,NameKind.cell) else (n,k)).lookup x=some (if (k == NameKind.free && env.scope.kind == .function && env.kindOf x == some .cell) then .cell else k)
 | (n,k') :: r,x,k,h=>by
  have ih:=@ja env r x k
  show List.lookup x ((if (k' == NameKind.free && env.scope.kind == .function && env.kindOf n == some .cell)=true then (n,NameKind.cell) else (n,k')) :: _)=_
  cases hx:x == n with
  | true =>
   have:x=n:=by simpa using hx
   subst this
   simp only [ame,hx] at h
   cases h
   split <;> simp [ame]
  | false =>
   simp only [ame,hx] at h
   split
   ·simp only [ame,hx];exact ih h
   ·simp only [ame,hx];exact ih h
theorem yU {env:Env}:∀ {names:List (Str×NameKind)} {x:Str},names.lookup x=none ->
  (names.map fun (n,k)=>if (k == NameKind.free && env.scope.kind == .function && env.kindOf n == some .cell) then (n,NameKind.cell) else (n,k)).lookup x=none
 | [],_,_=>rfl
 | (n,k') :: r,x,h=>by
  have ih:=@yU env r x
  show List.lookup x ((if (k' == NameKind.free && env.scope.kind == .function && env.kindOf n == some .cell)=true then (n,NameKind.cell) else (n,k')) :: _)=_
  cases hx:x == n with
  | true=>simp only [ame,hx] at h;cases h
  | false =>
   simp only [ame,hx] at h
   split
   ·simp only [ame,hx];exact ih h
   ·simp only [ame,hx];exact ih h
section
variable {X:Cx} {pins:List (Addr×Obj)} {σ:St} {H:Hp} {s:Shared} {NO N:List Str} {scO sc:Scope} {own:Nat} {fr:List Nat} {fp:List Addr}
theorem agj {tk:Nat} (S:CompScope NO scO N sc own fr) (hN:X.N=NO) (hsc:X.env.scope=scO) (I:Inv X pins σ H s) (hf:∀ b∈fp,qP X pins H b) (ho:∀ b∈fp,∃ o,s.heap.get? b=some o/\∀ v,o.data≠.cell v) :
  Inv (zh X sc N s H fp (X.pn++pins)) [] (yS own fr σ) H { s with heap:=pushCells (s.heap.push { cls:=.type "dict",data:=.dict #[] }) sc.names,toks:=tk }:=by
 have hfree:∀ x,(x,NameKind.free)∈sc.names->∃ c,X.env.cells.lookup x=some c:=fun x hx=>I.ok.has x (by
  show X.env.scope.names.lookup x=_ \/ X.env.scope.names.lookup x=_
  rw [hsc]
  exact S.free _ hx rfl)
 have hclt:∀ p∈z3 X.env sc.names [],p.2<s.heap.objs.size:=fun p hp=>by
  rcases jM hp with q | ⟨q,e⟩
  ·cases q
  ·obtain⟨c,hc⟩:=hfree _ q
   rw [e,hc]
   obtain⟨v,o,ho,_⟩:=I.cell _ c hc
   exact alz ho
 have hsz:(s.heap.push { cls:=.type "dict",data:=.dict #[] }).objs.size=s.heap.objs.size+1:=aou ..
 have hk:∀ b o,s.heap.get? b=some o->(pushCells (s.heap.push { cls:=.type "dict",data:=.dict #[] }) sc.names).get? b=some o:=fun b o e=>pushCells_keeps _ _ _ _ (alw _ e)
 have hcase:∀ {x:Str} {c:Addr},(cellsFrom (s.heap.objs.size+1) sc.names (z3 X.env sc.names [])).lookup x=some c->(s.heap.objs.size+1<=c/\(x,NameKind.cell)∈sc.names) \/ (X.env.cells.lookup x=some c/\(x,NameKind.free)∈sc.names):=fun {x c} e=>by
  rcases yK e with⟨q1,_,q3⟩ | ⟨q1,_⟩
  ·exact .inl ⟨q1,q3⟩
  ·exact .inr (qy hfree q1)
 have clap:(z3 X.env sc.names []).Pairwise fun x y=>x.2≠y.2:=by
  have key:∀ (names:List (Str×NameKind)) (acc:List (Str×Addr)),(∀ p∈acc,X.env.cells.lookup p.1=some p.2)->(∀ x,(x,NameKind.free)∈names->∃ c,X.env.cells.lookup x=some c)->(acc.Pairwise fun x y=>x.2≠y.2)->(∀ p∈acc,(p.1,NameKind.free)∉names)->(names.map (·.1)).Nodup ->
    (z3 X.env names acc).Pairwise fun x y=>x.2≠y.2:=by
   intro names
   induction names with
   | nil=>intro acc _ _ h _ _;exact h
   | cons p r ih =>
    intro acc h1 h2 h3 h4 h5
    obtain⟨y,k⟩:=p
    rw [alI] at h5
    obtain⟨n1,n2⟩:=aml.mp h5
    unfold z3
    split
    ·rename_i hk
     have hk':k=.free:=by simpa using hk
     subst hk'
     obtain⟨c,hc⟩:=h2 y als
     rw [hc]
     refine ih _ (fun p hp=>?_) (fun x hx=>h2 x (alm _ hx)) (amS.mpr ⟨fun p hp=>?_,h3⟩) (fun p hp=>?_) n2
     ·rcases alp.mp hp with e | hp
      ·subst e;exact hc
      ·exact h1 p hp
     ·intro e
      have e':p.2=c:=e.symm
      have:=I.ok.inj _ _ _ hc (e'▸h1 p hp)
      exact h4 p hp (this▸als)
     ·rcases alp.mp hp with e | hp
      ·subst e
       intro z
       exact n1 (alF.mpr ⟨_,z,rfl⟩)
      ·intro z;exact h4 p hp (alm _ z)
    ·exact ih acc h1 (fun x hx=>h2 x (alm _ hx)) h3 (fun p hp z=>h4 p hp (alm _ z)) n2
  exact key sc.names [] (fun p hp=>by cases hp) hfree List.Pairwise.nil (fun p hp=>by cases hp) S.snd
 have apart:=yR sc.names (s.heap.objs.size+1) _ clap fun p hp=>amG (hclt p hp)
 have hkd:∀ x,(zh X sc N s H fp (X.pn++pins)).env.kindOf x=some .cell \/ (zh X sc N s H fp (X.pn++pins)).env.kindOf x=some .free->(x,NameKind.cell)∈sc.names \/ (x,NameKind.free)∈sc.names:=fun x hx=>by
  cases q:sc.names.lookup x with
  | none =>
   have e:(zh X sc N s H fp (X.pn++pins)).env.kindOf x=none:=yU q
   rw [e] at hx
   rcases hx with z | z <;> cases z
  | some k =>
   have e:(zh X sc N s H fp (X.pn++pins)).env.kindOf x=some _:=ja (env:=X.env) q
   rw [e] at hx
   have hm:=mem_of_lookup q
   cases k <;> first | exact .inl hm | exact .inr hm | (rcases hx with z | z <;> cases z)
 have cellAt:∀ x c,(cellsFrom (s.heap.objs.size+1) sc.names (z3 X.env sc.names [])).lookup x=some c->∃ v,(pushCells (s.heap.push { cls:=.type "dict",data:=.dict #[] }) sc.names).IsCell c v:=fun x c e=>by
  rcases hcase e with⟨q,_⟩ | ⟨q,_⟩
  ·exact⟨none,jy _ _ _ x c (by rw [hsz];exact e) (by rw [hsz];exact q) fun p hp=>by rw [hsz];exact amG (hclt p hp)⟩
  ·obtain⟨v,o,ho,hd⟩:=I.cell x c q
   exact⟨v,o,hk _ _ ho,hd⟩
 have lt_of_cell:∀ x c,X.env.cells.lookup x=some c->c<s.heap.objs.size:=fun x c e=>by
  obtain⟨v,o,ho,hd⟩:=I.cell x c e
  exact alz ho
 have lt_of_fp:∀ b∈fp,b<s.heap.objs.size:=fun b hb=>by
  obtain⟨o,e,_⟩:=ho b hb
  exact alz e
 have okX:(zh X sc N s H fp (X.pn++pins)).Ok:=by
  refine⟨I.mod,S.kind,I.ok.glob,I.ok.blt,ali _,fun x y c h1 h2=>name_of_addr apart (mem_of_lookup h1) (mem_of_lookup h2),fun x hx=>?_,fun x c hx hc=>?_,I.ok.hd,I.ok.frames,.inl rfl,fun b hb=>⟨al1 (lt_of_fp b hb),fun x c e=>?_⟩,I.bs,alV I.ok.bsz I.sz,fun b o e hb=>?_,fun b hb z=>?_,I.stack,I.stkFree⟩
  ·rcases hkd x hx with q | q
   ·exact aaE (z7 S.snd q)
   ·obtain⟨c,hc⟩:=hfree x q
    exact qz (by rw [vG hfree q hc];rfl)
  ·have hx':sc.names.lookup x=some .cell:=of_decide_eq_true hx
   rcases hcase hc with⟨q,_⟩ | ⟨_,q⟩
   ·exact anM q
   ·rw [z7 S.snd q] at hx';cases hx'
  ·rcases hcase e with⟨q,_⟩ | ⟨q,_⟩
   ·exact aoo (alG (lt_of_fp b hb) (anM q))
   ·exact (hf b hb).2.2.2.2.1 x c q
  ·rcases (hf b hb).2.2.2.1 with z | z
   ·exact I.ok.noex b o e z
   ·exact absurd (alz e) (Nat.not_lt.mpr (alV I.ok.bsz z))
  ·rcases alp.mp (I.stkSub b z) with q | q
   ·exact (hf b hb).2.1 q
   ·exact (hf b hb).2.2.1 q
 refine⟨okX,rfl,I.bare,Un.kept hk,⟨fun _=>none,(Heap.Ns.new s.heap (.type "dict")).keeps (pushCells_keeps _ _),fun i x v h1 h2 h3=>?_⟩,cellAt,I.hok.fresh (ali _),fun x c e=>?_,fun p hp=>?_,I.hok.kept hk,?_⟩
 ·obtain⟨m,_,hl⟩:=id I.loc
  have h2':(yS own fr σ)[i]?=some (some v):=h2
  have hio:own<=i:=by
   unfold yS at h2'
   refine Nat.le_of_not_lt fun hi=>?_
   rw [alk (by simpa using hi),ane] at h2'
   split at h2' <;> cases h2'
  obtain⟨k,rfl⟩:=Nat.exists_eq_add_of_le hio
  have h1':N[own+k]?=some x:=h1
  unfold yS at h2'
  rw [alj (by simp)] at h2'
  simp only [anY,al9,alv] at h2'
  cases hj:fr[k]? with
  | none=>rw [hj] at h2';cases h2'
  | some j =>
   rw [hj] at h2'
   have h2'':(σ[j]?).getD none=some v:=Option.some.inj h2'
   have hp:(x,j)∈(N.drop own).zip fr:=by
    refine alB (i:=k) ?_
    rw [List.getElem?_zip_eq_some]
    exact⟨by rw [anj];exact h1',hj⟩
   obtain⟨f1,f2⟩:=S.frn _ hp
   have hσ:σ[j]?=some (some v):=by
    cases q:σ[j]? with
    | none=>rw [q] at h2'';cases h2''
    | some w=>rw [q] at h2'';exact congrArg some h2''
   have hxf:(x,NameKind.free)∈sc.names:=mem_of_lookup f2
   have hko:=S.free _ hxf rfl
   have hvis:Vis X.env.scope x:=by rw [hsc];exact .inr hko
   obtain⟨u,ru,q⟩:=hl j x v (by rw [hN];exact f1) hσ hvis
   refine⟨u,ru,.inr ⟨?_,?_⟩⟩
   ·have e:(zh X sc N s H fp (X.pn++pins)).env.kindOf x=some _:=ja (env:=X.env) f2
    rw [e]
    split
    ·exact .inl rfl
    ·exact .inr rfl
   ·rcases q with⟨k1,_⟩ | ⟨_,c,hc,z⟩
    ·have k1':X.env.scope.names.lookup x=some .local:=k1
     rw [hsc] at k1'
     rcases hko with z | z <;> rw [z] at k1' <;> cases k1'
    ·obtain⟨o,ho,hd⟩:=z
     refine⟨c,?_,o,hk _ _ ho,hd⟩
     have hcl:=vG hfree hxf hc
     obtain⟨c',hc'⟩:=qz (names:=sc.names) (n:=s.heap.objs.size+1) (acc:=z3 X.env sc.names []) (x:=x) (by rw [hcl];rfl)
     rcases hcase hc' with⟨_,z⟩ | ⟨z,_⟩
     ·have:=z7 S.snd z
      rw [f2] at this;cases this
     ·rw [hc] at z;cases z;exact hc'
 ·rcases hcase e with⟨q,_⟩ | ⟨q,_⟩
  ·exact I.hok.fresh (anM q)
  ·exact I.freeC x c q
 ·have hp':p∈X.pn++pins:=by simpa [zh] using hp
  obtain⟨e,n,ne,nf,d⟩:=I.pin p hp'
  refine⟨hk _ _ e,n,al1 (alz e),fun z=>?_,d⟩
  rcases alp.mp (I.stkSub _ z) with q | q
  ·exact ne q
  ·exact nf q
 ·show (yS own fr σ).length=N.length
  unfold yS
  rw [S.len]
  simp
end
noncomputable abbrev TB:=St->Hp->(St->Hp->Prop)->Prop
noncomputable def PB (X:Cx) (act:Sem Unit) (t:TB):Prop :=
 ∀ (pins:List (Addr×Obj)) (s:Shared) (σ:St) (H:Hp) (Q:St->Hp->Prop),Inv X pins σ H s->t σ H Q->wpAny (model X.prog X.w) X.A act (fun _ s'=>∃ σ' H',Inv X pins σ' H' s'/\Q σ' H') X.xe s
noncomputable def PTs (X:Cx) (ifs:List Expr) (t:TT):Prop :=
 ∀ (pins:List (Addr×Obj)) (s:Shared) (σ:St) (H:Hp) (Q:Bool->Hp->Prop),Inv X pins σ H s->t σ H Q ->
  wpAny (model X.prog X.w) X.A (forIn ifs true fun c r=>if r=true then do let ok <- isTrue c X.env (eval c X.env);pure (ForInStep.yield ok) else pure (ForInStep.yield r)) (TP X pins σ Q) X.xe s
noncomputable def ahW:TT:=fun _ H Q=>Q true H
theorem yM {X:Cx}:PTs X [] ahW:=fun pins s σ H Q I h=>wpAny_tests_nil ⟨H,I,h⟩
theorem abn {X:Cx} {c:Expr} {t:TT} (hc:PT X c t):PTs X [c] t:=fun pins s σ H Q I h=>wpAny_tests_one (hc pins s σ H Q I h)
noncomputable def acd (J:It) (g:TG) (tt:TT) (tb:TB):TB:=fun σ H Q=>∃ W:Nat->Nat->St->Hp->Prop,(∃ m,W 0 m σ H)/\∀ i m σ H,W i m σ H ->
 (J.stop i H/\Q σ H) \/ (J.go i H/\∀ x H',J.yld i H x H'->g x σ H' fun σ2 H2=>tt σ2 H2 fun b H3=>if b=true then tb σ2 H3 fun σ' H'=>∃ m',m'<m/\W (i+1) m' σ' H' else ∃ m',m'<m/\W (i+1) m' σ2 H3)
section
variable {X:Cx} {pins:List (Addr×Obj)} {s:Shared} {σ:St} {H:Hp} {tg:Expr} {e:Expr} {d:Nat} {acc:Value} {ifs:List Expr} {g:TG} {tt:TT} {tb:TB} {act:Sem Unit} {pos:Pos}
theorem ace (hx:∀ e s,X.xe e s->False) (hc:X.calm=true) (hg:PG X tg g) (ht:PTs X ifs tt) (hb:PB X act tb)
  (heq:∀ it,compTurn e d it acc X.env=(do
   standAt pos
   match <- pyNext it with
   | none=>pure (.done .next)
   | some v =>
    letOwnedTupleGo tg it v
    assign tg X.env v
    let mut ok:=true
    for c in ifs do
     if ok then ok <- isTrue c X.env (eval c X.env)
    if ok then
     act
    again (.compLoop e d it acc X.env)))
  (hqt:∀ it,(Code.compLoop e d it acc X.env).quiet=true)
  (hden:∀ it,(model X.prog X.w).den (.compLoop e d it acc X.env)=(compTurn e d it acc X.env).onRaise (fun x=>do noteFrame x X.env;theTreesLotGoes x))
  (hund:∀ it,X.A.under (.compLoop e d it acc X.env)=X.A)
  {it:Addr} {fp:List Addr} {tn:Nat->Heap->Prop} {J:It} {Q:St->Hp->Prop} {R:Result->Shared->Prop} (I:Inv X pins σ H s) (T:Turn X.prog X.w X.K tg J fp it tn) (st:tn 0 s.heap) (f:∀ b∈fp,qP X pins H b)
  (h:acd J g tt tb σ H Q) (hR:∀ σ' H' s',Inv X pins σ' H' s'->(∀ b∈fp,H' b=none)->Q σ' H'->R (.ok .next) s'):codeAny (model X.prog X.w) X.A (.compLoop e d (.ref it) acc X.env) R s:=by
 obtain⟨W,⟨m0,w0⟩,turn⟩:=h
 have stat:∀ {H':Hp},(∀ b∈fp,H' b=none)->∀ b∈fp,qP X pins H' b:=fun hn b hb=>⟨hn b hb,(f b hb).2⟩
 refine codeAny_loop (hqt _) (fun n s'=>∃ i σ' H',Inv X pins σ' H' s'/\tn i s'.heap/\(∀ b∈fp,H' b=none)/\W i n σ' H') ?_ m0 ⟨0,σ,H,I,st,fun b hb=>(f b hb).1,w0⟩
 rintro n s3 ⟨i,σ3,H3,I3,st3,fr3,w3⟩
 rw [hden,hund]
 refine wpAny_noted ?_
 rw [heq]
 have nox:∀ e' s',X.xe e' s'->notedBy (model X.prog X.w) X.A X.env (fun e s'=>R (.error e) s') e' s':=fun e' s' z=>(hx e' s' z).elim
 refine wpAny_bind (wpAny_standAt (wpAny_bind ?_))
 rcases turn i n σ3 H3 w3 with⟨stop,qn⟩ | ⟨go,step⟩
 ·refine wpAny_mono (T.done X rfl rfl rfl hc i pins s3 σ3 H3 X.xe I3 (stat fr3) st3 stop) (fun r s4 hr4=>?_) nox
  obtain⟨hr,I4⟩:=hr4
  subst hr
  exact wpAny_pure (hR σ3 H3 s4 I4 fr3 qn)
 ·refine wpAny_mono (T.item X rfl rfl rfl hc i pins s3 σ3 H3 X.xe I3 (stat fr3) st3 go) (fun r s4 hr4=>?_) nox
  obtain⟨u,hr,h4⟩:=hr4
  subst hr
  refine wpAny_bind (wpAny_mono h4 (fun _ s5 h5=>?_) nox)
  obtain⟨x,H5,I5,r5,y5,st5,fr5⟩:=h5
  have I5':=I5.pinned (stat fr5) (T.obj _ _ st5)
  refine wpAny_bind (wpAny_mono (hg _ s5 σ3 H5 x u _ I5' r5 (step x H5 y5)) (fun _ s6 h6=>?_) nox)
  obtain⟨σ6,H6,I6,q6⟩:=h6
  refine wpAny_bind (wpAny_mono (ht _ s6 σ6 H6 _ I6 q6) (fun ok s7 h7=>?_) nox)
  obtain⟨H7,I7,q7⟩:=h7
  have again:∀ {σ7:St} {H7:Hp} {s7:Shared},Inv X (pins++v5 fp s5.heap) σ7 H7 s7->(∃ m',m'<n/\W (i+1) m' σ7 H7)->∃ m,m<n/\∃ i σ' H',Inv X pins σ' H' s7/\tn i s7.heap/\(∀ b∈fp,H' b=none)/\W i m σ' H':=fun {σ7 H7 s7} I7 n7=>by
   obtain⟨m',hm,w7⟩:=n7
   refine⟨m',hm,i+1,σ7,H7,I7.unpinned,T.keep _ _ _ st5 fun b hb o e=>(I7.pin (b,o) (alx _ (alx _ (jK hb e)))).1,fun b hb=>?_,w7⟩
   obtain⟨o,e,d⟩:=T.obj _ _ st5 b hb
   exact (I7.pin (b,o) (alx _ (alx _ (jK hb e)))).2.1
  cases ok with
  | false =>
   rw [if_neg ald] at q7
   exact wpAny_pure ⟨rfl,again I7 q7⟩
  | true =>
   rw [if_pos rfl] at q7
   refine wpAny_bind (wpAny_mono (hb _ s7 σ6 H7 _ I7 q7) (fun _ s8 h8=>?_) nox)
   obtain⟨σ8,H8,I8,q8⟩:=h8
   exact wpAny_pure ⟨rfl,again I8 q8⟩
theorem abo {D:Addr} {elt:Expr} {te:TE} (he:PE X elt te):PB X (do let _ <- call (.builtin "list.append") [.ref D,<- eval elt X.env]) (fun σ H Q=>te σ H fun y H1=>∃ xs,H1 D=some (.lst xs)/\xs.length<sizeLine/\Q σ (upd H1 D (.lst (xs++[y])))):=by
 intro pins s σ H Q I h
 refine wpAny_bind (thn (he pins s σ H _ I h) fun v s1 h1=>?_)
 obtain⟨y,H1,I1,r1,xs,hD,hz,q⟩:=h1
 obtain⟨z,its,n,r,hl,e⟩:=I1.lstM hD
 refine wpAny_bind ?_
 refine call_meets F.slot_list_append ⟨_,e,rfl⟩ apa (ao2 _ _) (PySem.list_append D its.toArray n v (by rw [alA];omega)) ⟨e,?_⟩
 refine wpAny_pure ⟨σ,_,I1.lset (its':=its++[v]) hD e (by simp) (r.append (.cons r1 .nil)) ?_,q⟩
 rw [alr,amn]
 omega
theorem acf {M:Model} {A:Around} {E:Value->Shared->Prop} {sc:Scope} {gl:Addr} {cl:List (Str×Addr)} {qual:Str} {env:Env} {Q:Env->Shared->Prop} {s:Shared}
  (h:Q { scope:=sc,locals:=s.heap.objs.size,globals:=gl,cells:=cellsFrom (s.heap.objs.size+1) sc.names cl,qual:=qual,func:=none,code:=env.code,frame:=env.frame,builtins:=env.builtins } { s with heap:=pushCells (s.heap.push { cls:=.type "dict",data:=.dict #[] }) sc.names }) :
  wpAny M A (newFunctionEnv sc gl cl [] qual none .none (some env)) Q E s:=by
 simp only [newFunctionEnv,Option.isSome_some,if_true]
 refine wpAny_bind (wpAny_alloc ?_)
 refine wpAny_bind (wpAny_layCells _ (fun name kind cells=>by cases hkc:kind == NameKind.cell <;> simp [hkc]) _ _ _ _ ?_)
 rw [show ({ s with heap:=s.heap.push { cls:=.type "dict",data:=.dict #[] } }:Shared).heap.objs.size=s.heap.objs.size+1 from aou ..]
 refine wpAny_bind ?_
 rw [anO]
 exact wpAny_pure (wpAny_pure h)
theorem comp_back {sc:Scope} {N:List Str} {fp:List Addr} {σ':St} {H':Hp} {s':Shared} {h':Heap} (I:Inv X pins σ H s) (hf:∀ b∈fp,qP X pins H b) (J:Inv (zh X sc N s H fp (X.pn++pins)) [] σ' H' s') (hs:anf s.heap.objs.size s'.heap h') :
  Inv X pins σ H' { s' with heap:=h' }:=by
 have u:Un (frs X.stack) fp H H' s.heap s'.heap:=J.base
 have ne:∀ b o,s.heap.get? b=some o->b≠s.heap.objs.size:=fun b o e=>al1 (alz e)
 have hfree:H' s.heap.objs.size=none:=J.free
 refine I.call' (s':={ s' with heap:=h' }) (ch:=fp) J.os ⟨fun b o e n h1 h2=>(hs.2 b (ne b o e)).trans (u.keep b o e n h1 h2),fun b o e n h1 h2=>?_,u.free,fun b o e h2=>?_,u.tups,u.frzs,u.tbls⟩ (fun a o e=>?_) J.bare fun b hb=>?_
 ·obtain⟨sl,q⟩:=u.slot b o e n h1 h2
  exact⟨sl,(hs.2 b (ne b o e)).trans q⟩
 ·obtain⟨o',q⟩:=u.there b o e h2
  exact⟨o',(hs.2 b (ne b o e)).trans q⟩
 ·refine (J.hok a o e).stay (fun c v hc q=>(hs.2 c ?_).trans q) (fun _ q=>q) fun _ _ q=>q
  intro z
  subst z
  rcases hc with hc | hc
  ·rw [<-hc] at e
   rw [hfree] at e;cases e
  ·rw [hfree] at hc;cases hc
 ·exact⟨(hf b hb).2.2.2.1,(hf b hb).2.1,(hf b hb).2.2.2.2⟩
end
noncomputable def qA (D:Addr) (te:TE):TB:=fun σ H Q=>te σ H fun y H1=>∃ xs,H1 D=some (.lst xs)/\xs.length<sizeLine/\Q σ (upd H1 D (.lst (xs++[y])))
noncomputable def jX (wi:TI) (own:Nat) (fr:List Nat) (g:TG) (tt:TT) (tb:Addr->TB):TE:=fun σ H Q=>wi σ H fun J H1=>∀ D,H1 D=none ->
 acd J g tt (tb D) (yS own fr σ) (upd H1 D (.lst [])) fun _ H2=>Q (.ref D) H2
section
variable {X:Cx} {pins:List (Addr×Obj)} {s:Shared} {σ:St} {H:Hp} {tg elt iter:Expr} {ifs:List Expr} {rest:List Comprehension} {sc scO:Scope} {NO N:List Str} {own:Nat} {fr:List Nat} {wi:TI} {g:TG} {tt:TT} {tb:Addr->TB} {pos:Pos}
theorem acg {RR:Value->Addr->Result->Shared->Prop} {it:Addr} {fp:List Addr} {tn:Nat->Heap->Prop} {J:It} {Q:VK} (S:CompScope NO scO N sc own fr) (hN:X.N=NO) (hsc:X.env.scope=scO) (hc:X.calm=true)
  (hg:∀ s₀ H₀ ex pn,PG (zh X sc N s₀ H₀ ex pn) tg g) (ht:∀ s₀ H₀ ex pn,PTs (zh X sc N s₀ H₀ ex pn) ifs tt)
  (hb:∀ D s₀ H₀ ex pn,∃ act,PB (zh X sc N s₀ H₀ ex pn) act (tb D)/\∀ it,compTurn (.ListComp elt (⟨tg,iter,ifs,0⟩ :: rest) sc pos) 0 it (.ref D) (zh X sc N s₀ H₀ ex pn).env=(do
   standAt iter.pos
   match <- pyNext it with
   | none=>pure (.done .next)
   | some v =>
    letOwnedTupleGo tg it v
    assign tg (zh X sc N s₀ H₀ ex pn).env v
    let mut ok:=true
    for c in ifs do
     if ok then ok <- isTrue c (zh X sc N s₀ H₀ ex pn).env (eval c (zh X sc N s₀ H₀ ex pn).env)
    if ok then
     act
    again (.compLoop (.ListComp elt (⟨tg,iter,ifs,0⟩ :: rest) sc pos) 0 it (.ref D) (zh X sc N s₀ H₀ ex pn).env)))
  (I:Inv X pins σ H s) (T:Turn X.prog X.w X.K tg J fp it tn) (st:tn 0 s.heap) (f:∀ b∈fp,qP X pins H b)
  (h:∀ D,H D=none->acd J g tt (tb D) (yS own fr σ) (upd H D (.lst [])) fun _ H2=>Q (.ref D) H2)
  (hRR:∀ (D C:Addr) (s':Shared) (H':Hp),(∃ m,s'.heap.Ns C m)->C≠X.env.locals->(∀ x c,X.env.cells.lookup x=some c->c≠C)->H' C=none->X.s₀.heap.objs.size<=C->(∀ p∈X.pn++pins,p.1≠C)->Inv X pins σ H' s'->Q (.ref D) H'->RR (.ref D) C (.ok .next) s') :
  wpAny (model X.prog X.w) X.A (newList []) (fun acc s₃=>wpAny (model X.prog X.w) X.A (newFunctionEnv sc X.env.globals (z3 X.env sc.names []) [] X.env.qual none .none (some X.env)) (fun cenv s₄ =>
   codeAny (model X.prog X.w) X.A (.compStart (.ListComp elt (⟨tg,iter,ifs,0⟩ :: rest) sc pos) 0 (.ref it) acc { cenv with scope:=relabel sc X.env }) (RR acc cenv.locals) s₄) X.xe s₃) X.xe s:=by
 refine wpAny_newObj_type (acf ?_)
 have fpsz:∀ b∈fp,b<s.heap.objs.size:=fun b hb=>by
  obtain⟨o,e,_⟩:=T.obj _ _ st b hb
  exact alz e
 have I3:=I.lnew (its:=[]) (ys:=[]) (t':=s.toks) .nil (alD _)
 have f3:∀ b∈fp,qP X pins (upd H s.heap.objs.size (.lst [])) b:=fun b hb=>⟨by rw [zx (al1 (fpsz b hb))];exact (f b hb).1,(f b hb).2⟩
 have st3:tn 0 (s.heap.push { cls:=.type "list",data:=.seq ([]:List Value).toArray }):=T.keep _ _ _ st fun b _ o e=>alw _ e
 have I4:=agj (tk:=s.toks) S hN hsc I3 f3 (T.obj _ _ st3)
 obtain⟨act,pb,heq⟩:=hb s.heap.objs.size _ _ _ _
 have st4:=T.keep _ _ (pushCells ((s.heap.push { cls:=.type "list",data:=.seq ([]:List Value).toArray }).push { cls:=.type "dict",data:=.dict #[] }) sc.names) st3 fun b _ o e=>pushCells_keeps _ _ _ _ (alw _ e)
 have cells_lt:∀ x c,X.env.cells.lookup x=some c->c<s.heap.objs.size:=fun x c e=>by
  obtain⟨v,o,ho,hd⟩:=I.cell x c e
  exact alz ho
 have esz:(s.heap.push { cls:=.type "list",data:=.seq ([]:List Value).toArray }).objs.size=s.heap.objs.size+1:=aou ..
 have loop:=ace (X:=zh X sc N { s with heap:=s.heap.push { cls:=.type "list",data:=.seq ([]:List Value).toArray } } (upd H s.heap.objs.size (.lst [])) fp (X.pn++pins)) (R:=RR (.ref s.heap.objs.size) (s.heap.push { cls:=.type "list",data:=.seq ([]:List Value).toArray }).objs.size) (fun _ _ z=>z) hc (hg _ _ _ _) (ht _ _ _ _) pb heq (fun _=>rfl) (fun _=>rfl) (fun _=>rfl) I4 T st4
  (fun b hb=>⟨(f3 b hb).1,I4.ok.exf b hb |>.1,I4.ok.exfs b hb,.inl hb,I4.ok.exf b hb |>.2,fun p hp=>by
   have hp':p∈X.pn++pins:=by simpa [zh] using hp
   exact (f b hb).2.2.2.2.2 p hp'⟩) (h _ I.fresh)
  (fun σ' H' s' J' fr' q'=>hRR _ _ s' H' (let⟨m,hm,_⟩:=J'.loc;⟨m,hm⟩) (by rw [esz];exact aoo (amG I.lt)) (fun x c e=>by rw [esz];exact al1 (amG (cells_lt x c e))) J'.free (by rw [esz];exact Nat.le_succ_of_le I.sz) (fun p hp=>by rw [esz];exact al1 (amG (alz (I.pin p hp).1))) (comp_back (h':=s'.heap) I3 f3 J' (Heap.SameBut.refl ..)) q')
 exact codeAny_compStart_list loop (T.self X.A 0 _ _ _ st4 loop)
theorem Inv.touch {C:Addr} {h':Heap} (I:Inv X pins σ H s) (hs:anf C s.heap h') (hn:H C=none) (h0:C≠X.env.locals) (h1:∀ x c,X.env.cells.lookup x=some c->c≠C) (h2:X.s₀.heap.objs.size<=C) (h3:∀ p∈X.pn++pins,p.1≠C) :
  Inv X pins σ H { s with heap:=h' } :=
 I.turned (t':=s.toks) (fun b o hb e=>(hs.2 b hb).trans e) hn h0 (.inr h2) h1 h3
theorem aaF {prog:Program} {w:World} {A:Around} {R:Result->Shared->Prop} {s:Shared} {elt':Expr} {g0:Comprehension} {tg' it':Expr} {ifs':List Expr} {sc':Scope} {pos':Pos} {itv acc:Value} {env:Env}
  (here:codeAny (model prog w) A (.compLoop (.ListComp elt' [g0,⟨tg',it',ifs',0⟩] sc' pos') 1 itv acc env) R s)
  (once:wpAny (model prog w) A (pyIter itv) (fun j s1=>codeAny (model prog w) A (.compLoop (.ListComp elt' [g0,⟨tg',it',ifs',0⟩] sc' pos') 1 j acc env) R s1) (notedBy (model prog w) A env fun x s1=>R (.error x) s1) s) :
  codeAny (model prog w) A (.compStart (.ListComp elt' [g0,⟨tg',it',ifs',0⟩] sc' pos') 1 itv acc env) R s:=by
 apply codeAny_of_tree
 show wpAny _ _ ((compStart (.ListComp elt' [g0,⟨tg',it',ifs',0⟩] sc' pos') 1 itv acc env).onRaise (fun z=>do noteFrame z env;standAt theWindowsPlace)) _ _ s
 apply wpAny_notedAt
 unfold compStart
 show wpAny _ _ (ask >>= _) _ _ s
 apply wpAny_bind
 apply wpAny_askSetting
 apply wpAny_ite
 split
 ·first
   | exact wpAny_bind (wpAny_pure (wpAny_pure (And.intro rfl here)))
   | exact wpAny_pure (And.intro rfl here)
 ·apply wpAny_bind
  apply wpAny_rule
  show wpAny _ _ (standAt it'.pos >>= _) _ _ s
  exact wpAny_bind (wpAny_standAt (wpAny_bind (wpAny_mono once (fun j s1 q=>wpAny_pure (And.intro rfl q)) fun _ _ z=>z)))
section
variable {elt2:Expr} {te:TE} {tg2 iter2:Expr} {ifs2:List Expr} {wi2:TI} {g2:TG} {tt2:TT} {tb2:TB} {y:Str} {i:Nat} {py spos:Pos}
noncomputable def tIn (wi2:TI) (g2:TG) (tt2:TT) (tb2:TB):TB:=fun σ H Q=>wi2 σ H fun J H1=>acd J g2 tt2 tb2 σ H1 Q
theorem ai6 {D:Addr} (hx:∀ e s,X.xe e s->False) (hc:X.calm=true) (hi:PI X tg2 iter2 wi2) (hg:PG X tg2 g2) (ht:PTs X ifs2 tt2) (he:PE X elt te)
  (hs:∀ x,foldedSetIterable iter2 X.env x=pure x) :
  PB X (do
   let x <- eval iter2 X.env
   standAt iter2.pos
   let x <- foldedSetIterable iter2 X.env x
   let _ <- runOwn (.compStart (.ListComp elt [⟨tg,iter,ifs,0⟩,⟨tg2,iter2,ifs2,0⟩] sc pos) 1 (<- holding [x] (pyIter x)) (.ref D) X.env) X.env) (tIn wi2 g2 tt2 (qA D te)):=by
 intro pins s σ H Q I h
 refine wpAny_bind (thn (hi pins s σ H _ I h) fun v s1 h1=>?_)
 refine wpAny_bind (wpAny_standAt ?_)
 refine wpAny_bind (wpAny_of_eq (hs v) ?_)
 refine wpAny_bind (wpAny_holding (thn h1 fun itv s2 h2=>?_))
 obtain⟨it,fp,tn,J,H2,e,I2,T,st2,f2,q⟩:=h2
 subst e
 refine wpAny_bind (wpAny_runOwn ?_)
 have loop:=ace (e:=.ListComp elt [⟨tg,iter,ifs,0⟩,⟨tg2,iter2,ifs2,0⟩] sc pos) (d:=1) (pos:=iter2.pos)
  (R:=fun r s'=>match r with | .ok f=>wpAny (model X.prog X.w) X.A (pure ()) (fun _ s'=>∃ σ' H',Inv X pins σ' H' s'/\Q σ' H') X.xe s' | .error e=>cameBackBy (model X.prog X.w) X.A X.env X.xe e s')
  hx hc hg ht (abo (D:=D) he) (fun _=>rfl) (fun _=>rfl) (fun _=>rfl) (fun _=>rfl) I2 T st2 f2 q (fun σ' H' s' J' _ q'=>wpAny_pure ⟨σ',H',J',q'⟩)
 exact aaF loop (T.self X.A 0 _ _ _ st2 loop)
theorem ad9 (S:CompScope NO scO N sc own fr) (hsc:X.env.scope=scO) (ok:X.Ok):closureFor sc X.env=pure (z3 X.env sc.names []) :=
 adu fun x hx=>ok.has x (by
  show X.env.scope.names.lookup x=_ \/ X.env.scope.names.lookup x=_
  rw [hsc]
  exact S.free _ hx rfl)
theorem aea (S:CompScope NO scO N sc own fr) (hc:X.calm=true) (hi:PI X tg iter wi) (hg:∀ s₀ H₀ ex pn,PG (zh X sc N s₀ H₀ ex pn) tg g) (ht:∀ s₀ H₀ ex pn,PTs (zh X sc N s₀ H₀ ex pn) ifs tt)
  (hb:∀ D s₀ H₀ ex pn,∃ act,PB (zh X sc N s₀ H₀ ex pn) act (tb D)/\∀ it,compTurn (.ListComp elt (⟨tg,iter,ifs,0⟩ :: rest) sc pos) 0 it (.ref D) (zh X sc N s₀ H₀ ex pn).env=(do
   standAt iter.pos
   match <- pyNext it with
   | none=>pure (.done .next)
   | some v =>
    letOwnedTupleGo tg it v
    assign tg (zh X sc N s₀ H₀ ex pn).env v
    let mut ok:=true
    for c in ifs do
     if ok then ok <- isTrue c (zh X sc N s₀ H₀ ex pn).env (eval c (zh X sc N s₀ H₀ ex pn).env)
    if ok then
     act
    again (.compLoop (.ListComp elt (⟨tg,iter,ifs,0⟩ :: rest) sc pos) 0 it (.ref D) (zh X sc N s₀ H₀ ex pn).env)))
  (hN:X.N=NO) (hsc:X.env.scope=scO) (hs:∀ x,foldedSetIterable iter X.env x=pure x) :
  PE X (.ListComp elt (⟨tg,iter,ifs,0⟩ :: rest) sc pos) (jX wi own fr g tt tb):=by
 intro pins s σ H Q I h
 rw [eval_ListComp]
 refine wpAny_comprehension_free (use:=none) rfl hs (ad9 S hsc I.ok) S.kind (fun p hp hl=>z7 S.snd (k:=.local) (by rw [<-hl];exact hp)) (thn (hi pins s σ H _ I h) fun v s1 h1=>thn h1 fun itv s2 h2=>?_)
 obtain⟨it,fp,tn,J,H2,e,I2,T,st2,f2,q⟩:=h2
 subst e
 refine acg (RR:=fun acc C=>compPost (model X.prog X.w) X.A X.xe none (EP X pins σ Q) acc C) S hN hsc hc hg ht hb I2 T st2 f2 q ?_
 rintro D C s' H' ⟨m,hm⟩ c0 c1 c2 c3 c4 J' q'
 exact⟨m,hm,fun h' hs'=>⟨.ref D,H',J'.touch hs' c2 c0 c1 c3 c4,rfl,q'⟩⟩
theorem aae (S:CompScope NO scO N sc own fr) (hc:X.calm=true) (hNd:X.N.Nodup) (hiN:X.N[i]?=some y) (hy:Loc X.env.scope y) (hi:PI X tg iter wi) (hg:∀ s₀ H₀ ex pn,PG (zh X sc N s₀ H₀ ex pn) tg g) (ht:∀ s₀ H₀ ex pn,PTs (zh X sc N s₀ H₀ ex pn) ifs tt)
  (hb:∀ D s₀ H₀ ex pn,∃ act,PB (zh X sc N s₀ H₀ ex pn) act (tb D)/\∀ it,compTurn (.ListComp elt (⟨tg,iter,ifs,0⟩ :: rest) sc pos) 0 it (.ref D) (zh X sc N s₀ H₀ ex pn).env=(do
   standAt iter.pos
   match <- pyNext it with
   | none=>pure (.done .next)
   | some v =>
    letOwnedTupleGo tg it v
    assign tg (zh X sc N s₀ H₀ ex pn).env v
    let mut ok:=true
    for c in ifs do
     if ok then ok <- isTrue c (zh X sc N s₀ H₀ ex pn).env (eval c (zh X sc N s₀ H₀ ex pn).env)
    if ok then
     act
    again (.compLoop (.ListComp elt (⟨tg,iter,ifs,0⟩ :: rest) sc pos) 0 it (.ref D) (zh X sc N s₀ H₀ ex pn).env)))
  (hN:X.N=NO) (hsc:X.env.scope=scO) (hs:∀ x,foldedSetIterable iter X.env x=pure x) (hf:X.fn y=true \/ X.env.scope.names.lookup y=some .local)
  (hsw:swapsWith (.ListComp elt (⟨tg,iter,ifs,0⟩ :: rest) sc pos) (some (.Name y py)) spos.line X.env=pure true) :
  PS X (.Assign [.Name y py] (.ListComp elt (⟨tg,iter,ifs,0⟩ :: rest) sc pos) spos) (jJ (jX wi own fr g tt tb) (y7 i)):=by
 intro pins s σ H D I h
 rw [exec_Assign_Name_used _ _ _ _ hsw]
 refine wpAny_bind (wpAny_standAt (wpAny_bind ?_))
 show wpAny _ X.A (do let _ <- comprehension (.ListComp elt (⟨tg,iter,ifs,0⟩ :: rest) sc pos) sc X.env _ (newList []) false (eval iter X.env) (some (assign (.Name y py) X.env))) _ _ s
 refine wpAny_bind (wpAny_mono (wpAny_comprehension_free (use:=some (assign (.Name y py) X.env)) (Q:=fun _ s'=>SP X pins D .next s') rfl hs (ad9 S hsc I.ok) S.kind (fun p hp hl=>z7 S.snd (k:=.local) (by rw [<-hl];exact hp))
  (thn (hi pins s σ H _ I h) fun v s1 h1=>thn h1 fun itv s2 h2=>?_)) (fun _ s' hq=>wpAny_pure (wpAny_pure hq)) fun _ _ e=>e)
 obtain⟨it,fp,tn,J,H2,e,I2,T,st2,f2,q⟩:=h2
 subst e
 refine acg (Q:=fun x H1=>y7 i x σ H1 D.nx) (RR:=fun acc C=>compPost (model X.prog X.w) X.A X.xe (some (assign (.Name y py) X.env)) (fun _ s'=>SP X pins D .next s') acc C) S hN hsc hc hg ht hb I2 T st2 f2 q ?_
 rintro A' C s' H' ⟨m,hm⟩ c0 c1 c2 c3 c4 J' q'
 show wpAny _ X.A (assign (.Name y py) X.env (.ref A')) _ _ _
 refine wpAny_assign_Name (aaL (v:=.ref A') J' hNd hiN hy rfl (fun s2' I2' hsb=>?_) hf)
 obtain⟨a,hs2,ha⟩:=hsb
 have hCa:C≠a:=by
  rcases ha with ha | ha
  ·rw [ha];exact c0
  ·exact amF (c1 _ _ ha)
 exact⟨m,hm.sameBut hs2 hCa,fun h' hs'=>⟨_,H',I2'.touch hs' c2 c0 c1 c3 c4,q'⟩⟩
end
end
section
variable {X:Cx} {tg elt iter tg2 iter2:Expr} {ifs ifs2:List Expr} {sc scO:Scope} {NO N:List Str} {own:Nat} {fr:List Nat} {wi wi2:TI} {g g2:TG} {tt tt2:TT} {te:TE} {pos py spos:Pos} {y:Str} {i:Nat}
theorem jb (S:CompScope NO scO N sc own fr) (hc:X.calm=true) (hi:PI X tg iter wi) (hg:∀ s₀ H₀ ex pn,PG (zh X sc N s₀ H₀ ex pn) tg g) (ht:∀ s₀ H₀ ex pn,PTs (zh X sc N s₀ H₀ ex pn) ifs tt) (he:∀ s₀ H₀ ex pn,PE (zh X sc N s₀ H₀ ex pn) elt te)
  (hN:X.N=NO) (hsc:X.env.scope=scO) (hs:∀ x,foldedSetIterable iter X.env x=pure x):PE X (.ListComp elt [⟨tg,iter,ifs,0⟩] sc pos) (jX wi own fr g tt fun D=>qA D te) :=
 aea S hc hi hg ht (fun D s₀ H₀ ex pn=>⟨_,abo (D:=D) (he s₀ H₀ ex pn),fun _=>rfl⟩) hN hsc hs
theorem vH (S:CompScope NO scO N sc own fr) (hc:X.calm=true) (hNd:X.N.Nodup) (hiN:X.N[i]?=some y) (hy:Loc X.env.scope y) (hi:PI X tg iter wi) (hg:∀ s₀ H₀ ex pn,PG (zh X sc N s₀ H₀ ex pn) tg g) (ht:∀ s₀ H₀ ex pn,PTs (zh X sc N s₀ H₀ ex pn) ifs tt) (he:∀ s₀ H₀ ex pn,PE (zh X sc N s₀ H₀ ex pn) elt te)
  (hN:X.N=NO) (hsc:X.env.scope=scO) (hs:∀ x,foldedSetIterable iter X.env x=pure x) (hf:X.fn y=true \/ X.env.scope.names.lookup y=some .local)
  (hsw:swapsWith (.ListComp elt [⟨tg,iter,ifs,0⟩] sc pos) (some (.Name y py)) spos.line X.env=pure true) :
  PS X (.Assign [.Name y py] (.ListComp elt [⟨tg,iter,ifs,0⟩] sc pos) spos) (jJ (jX wi own fr g tt fun D=>qA D te) (y7 i)) :=
 aae S hc hNd hiN hy hi hg ht (fun D s₀ H₀ ex pn=>⟨_,abo (D:=D) (he s₀ H₀ ex pn),fun _=>rfl⟩) hN hsc hs hf hsw
end
theorem ach {elt tg iter tg2 iter2:Expr} {ifs ifs2:List Expr} {sc:Scope} {pos:Pos} {it acc:Value} {env:Env} :
  compTurn (.ListComp elt [⟨tg,iter,ifs,0⟩,⟨tg2,iter2,ifs2,0⟩] sc pos) 0 it acc env=(do
   standAt iter.pos
   match <- pyNext it with
   | none=>pure (.done .next)
   | some v =>
    letOwnedTupleGo tg it v
    assign tg env v
    let mut ok:=true
    for c in ifs do
     if ok then ok <- isTrue c env (eval c env)
    if ok then
     (do
      let x <- eval iter2 env
      standAt iter2.pos
      let x <- foldedSetIterable iter2 env x
      let _ <- runOwn (.compStart (.ListComp elt [⟨tg,iter,ifs,0⟩,⟨tg2,iter2,ifs2,0⟩] sc pos) 1 (<- holding [x] (pyIter x)) acc env) env)
    again (.compLoop (.ListComp elt [⟨tg,iter,ifs,0⟩,⟨tg2,iter2,ifs2,0⟩] sc pos) 0 it acc env)):=by
 unfold compTurn
 simp only [bind_assoc,pure_bind]
 rfl
section
variable {X:Cx} {tg elt iter tg2 iter2:Expr} {ifs ifs2:List Expr} {sc scO:Scope} {NO N:List Str} {own:Nat} {fr:List Nat} {wi wi2:TI} {g g2:TG} {tt tt2:TT} {te:TE} {pos py spos:Pos} {y:Str} {i:Nat}
theorem agk (S:CompScope NO scO N sc own fr) (hc:X.calm=true) (hi:PI X tg iter wi) (hg:∀ s₀ H₀ ex pn,PG (zh X sc N s₀ H₀ ex pn) tg g) (ht:∀ s₀ H₀ ex pn,PTs (zh X sc N s₀ H₀ ex pn) ifs tt)
  (hi2:∀ s₀ H₀ ex pn,PI (zh X sc N s₀ H₀ ex pn) tg2 iter2 wi2) (hg2:∀ s₀ H₀ ex pn,PG (zh X sc N s₀ H₀ ex pn) tg2 g2) (ht2:∀ s₀ H₀ ex pn,PTs (zh X sc N s₀ H₀ ex pn) ifs2 tt2)
  (he:∀ s₀ H₀ ex pn,PE (zh X sc N s₀ H₀ ex pn) elt te) (hN:X.N=NO) (hsc:X.env.scope=scO) (hs:∀ x,foldedSetIterable iter X.env x=pure x) (hs2:∀ s₀ H₀ ex pn x,foldedSetIterable iter2 (zh X sc N s₀ H₀ ex pn).env x=pure x) :
  PE X (.ListComp elt [⟨tg,iter,ifs,0⟩,⟨tg2,iter2,ifs2,0⟩] sc pos) (jX wi own fr g tt fun D=>tIn wi2 g2 tt2 (qA D te)) :=
 aea S hc hi hg ht (fun D s₀ H₀ ex pn=>⟨_,ai6 (D:=D) (fun _ _ z=>z) hc (hi2 s₀ H₀ ex pn) (hg2 s₀ H₀ ex pn) (ht2 s₀ H₀ ex pn) (he s₀ H₀ ex pn) (hs2 s₀ H₀ ex pn),fun it=>ach⟩) hN hsc hs
theorem aci (S:CompScope NO scO N sc own fr) (hc:X.calm=true) (hNd:X.N.Nodup) (hiN:X.N[i]?=some y) (hy:Loc X.env.scope y) (hi:PI X tg iter wi) (hg:∀ s₀ H₀ ex pn,PG (zh X sc N s₀ H₀ ex pn) tg g) (ht:∀ s₀ H₀ ex pn,PTs (zh X sc N s₀ H₀ ex pn) ifs tt)
  (hi2:∀ s₀ H₀ ex pn,PI (zh X sc N s₀ H₀ ex pn) tg2 iter2 wi2) (hg2:∀ s₀ H₀ ex pn,PG (zh X sc N s₀ H₀ ex pn) tg2 g2) (ht2:∀ s₀ H₀ ex pn,PTs (zh X sc N s₀ H₀ ex pn) ifs2 tt2)
  (he:∀ s₀ H₀ ex pn,PE (zh X sc N s₀ H₀ ex pn) elt te) (hN:X.N=NO) (hsc:X.env.scope=scO) (hs:∀ x,foldedSetIterable iter X.env x=pure x) (hs2:∀ s₀ H₀ ex pn x,foldedSetIterable iter2 (zh X sc N s₀ H₀ ex pn).env x=pure x)
  (hf:X.fn y=true \/ X.env.scope.names.lookup y=some .local)
  (hsw:swapsWith (.ListComp elt [⟨tg,iter,ifs,0⟩,⟨tg2,iter2,ifs2,0⟩] sc pos) (some (.Name y py)) spos.line X.env=pure true) :
  PS X (.Assign [.Name y py] (.ListComp elt [⟨tg,iter,ifs,0⟩,⟨tg2,iter2,ifs2,0⟩] sc pos) spos) (jJ (jX wi own fr g tt fun D=>tIn wi2 g2 tt2 (qA D te)) (y7 i)) :=
 aae S hc hNd hiN hy hi hg ht (fun D s₀ H₀ ex pn=>⟨_,ai6 (D:=D) (fun _ _ z=>z) hc (hi2 s₀ H₀ ex pn) (hg2 s₀ H₀ ex pn) (ht2 s₀ H₀ ex pn) (he s₀ H₀ ex pn) (hs2 s₀ H₀ ex pn),fun it=>ach⟩) hN hsc hs hf hsw
end
section
variable {X:Cx} {pins:List (Addr×Obj)} {σ:St} {H:Hp} {s:Shared} {h':Heap} {fp:List Addr}
theorem Inv.turnedAll {t':Nat} (I:Inv X pins σ H s) (hf:∀ b∈fp,qP X pins H b) (k:∀ b o,b∉fp->s.heap.get? b=some o->h'.get? b=some o):Inv X pins σ H { s with heap:=h',toks:=t' }:=by
 refine I.step (g':=s.gens) (d':=s.drawn) (ch:=fp) (fun b hb=>⟨(hf b hb).2.2.2.1,(hf b hb).2.1,(hf b hb).2.2.2.2⟩) (fun b o _ _ hc e _=>k b o hc e) (fun b o _ _ hc e _=>⟨o.slots,k b o hc e⟩) (fun _ _ _ _ n=>n)
  (fun b o hc e=>⟨o,k b o hc e⟩) (fun _ _ e=>e) (fun _ _ _ e=>e) (fun b ps e=>⟨#[],by rw [e];simp⟩) (fun m hm=>?_) (fun b u e=>?_) I.bare
 ·obtain⟨o,es,ep,ho,r⟩:=hm
  exact⟨o,es,ep,k _ o (fun z=>(hf _ z).2.1 rfl) ho,r⟩
 ·refine (I.hok b u e).stay (fun c v hc q=>k c v (fun z=>?_) q) (fun _ q=>q) fun _ _ q=>q
  have hn:=(hf c z).1
  rcases hc with hc | hc
  ·subst hc;rw [e] at hn;cases hn
  ·rw [hc] at hn;cases hn
theorem Inv.turnedNew {t':Nat} {t:Addr} {o:HO} (I:Inv X pins σ H s) (hf:∀ b∈fp,qP X pins H b) (k:∀ b o,b∉fp->s.heap.get? b=some o->h'.get? b=some o) (ht:s.heap.objs.size<=t) (new:ObjOk X.prog X.w (upd H t o) h' t o) :
  Inv X pins σ (upd H t o) { s with heap:=h',toks:=t' }:=by
 have hn:H t=none:=I.hok.fresh ht
 have ne:∀ b ob,s.heap.get? b=some ob->b≠t:=fun b ob e=>al1 (alG (alz e) ht)
 refine I.step (g':=s.gens) (d':=s.drawn) (ch:=fp) (fun b hb=>⟨(hf b hb).2.2.2.1,(hf b hb).2.1,(hf b hb).2.2.2.2⟩) (fun b o _ _ hc e _=>k b o hc e) (fun b o _ _ hc e _=>⟨o.slots,k b o hc e⟩) (fun b ob _ e n=>by rw [zx (ne b ob e)];exact n)
  (fun b o hc e=>⟨o,k b o hc e⟩) (fun b xs e=>by rw [zx (zH e hn)];exact e) (fun b ob u e=>by rw [zx (zH e hn)];exact e) (fun b ps e=>⟨#[],by rw [zx (zH e hn),e];simp⟩) (fun m hm=>?_) (fun b u e=>?_) I.bare
 ·obtain⟨o,es,ep,ho,r⟩:=hm
  exact⟨o,es,ep,k _ o (fun z=>(hf _ z).2.1 rfl) ho,r⟩
 ·by_cases hb:b=t
  ·subst hb;rw [zB] at e;cases e;exact new
  ·rw [zx hb] at e
   refine (I.hok b u e).stay (fun c v hc q=>k c v (fun z=>?_) q) (fun c q=>by rw [zx (zH q hn)];exact q) fun c xs q=>by rw [zx (zH q hn)];exact q
   have hn':=(hf c z).1
   rcases hc with hc | hc
   ·subst hc;rw [e] at hn';cases hn'
   ·rw [hc] at hn';cases hn'
end
noncomputable def Ite (K:alg) (a:Addr):It :=
 ⟨fun i H=>∃ xs x,SqL K H a xs/\xs[i]?=some x,fun i H x H'=>∃ t y,x=.ref t/\H t=none/\H'=upd H t (.tup [.int i,y])/\∀ xs,SqL K H a xs->xs[i]?=some y,fun i H=>∃ xs,SqL K H a xs/\xs.length<=i⟩
theorem afj {P:Program} {w:World} {K:alg} {es:List Expr} {k:Nat} {pos:Pos} (a e it:Addr) (hne:e≠it):Turn P w K (.Tuple es k pos) (Ite K a) [e,it] e (fun i h=>(∃ old,IsEnum h e it i old)/\h.IsListIter it a i) where
 mem:=by simp
 obj:=fun i h st b hb=>by
  obtain⟨⟨old,se⟩,o,eo,c,d⟩:=st
  rcases alp.mp hb with z | z
  ·subst z
   exact⟨_,se,fun v z=>by
    have z':Data.fields _=Data.cell v:=z
    cases z'⟩
  ·have z:b=it:=by simpa using z
   subst z
   exact⟨o,eo,fun v z=>by rw [d] at z;cases z⟩
 keep:=fun i h h' st kk=>⟨let⟨old,se⟩:=st.1;⟨old,kk e (by simp) _ se⟩,st.2.at fun o eo=>kk it (by simp) o eo⟩
 item:=by
  intro X hP hw hK hc i pins s σ H E I hf st hg
  subst hP hw hK
  obtain⟨xs,x,hq,hx⟩:=hg
  obtain⟨its,rv,p,hz⟩:=I.list hq
  obtain⟨u,hu,ru⟩:=rv.get hx
  obtain⟨⟨old,se⟩,si⟩:=st
  refine wpAny_pyNext_enum_item se si p.isList (x:=u) (by simpa using hu) hne fun h' so si' tp sz kp=>?_
  refine⟨_,rfl,?_⟩
  refine wpAny_letOwnedTupleGo_enum (s:={ s with heap:=h',toks:=s.toks+1 }) so fun h2 se2 sb=>?_
  have hlt:e<s.heap.objs.size:=alz se
  obtain⟨oi,eoi,_,_⟩:=id si
  have hlt2:it<s.heap.objs.size:=alz eoi
  have kk:∀ b o,b∉[e,it]->s.heap.get? b=some o->h2.get? b=some o:=fun b o hb eb=>by
   have h1:b≠e:=fun z=>hb (by simp [z])
   have h2':b≠it:=fun z=>hb (by simp [z])
   exact (sb.2 b h1).trans (kp b o h1 h2' eb)
  have I2:Inv X pins σ (upd H s.heap.objs.size (.tup [.int i,x])) { s with heap:=h2,toks:=s.toks+1 }:=I.turnedNew hf kk (ali _)
   ⟨by show 2<=sizeLine;decide,[.int i s.toks,u],.cons ⟨_,rfl⟩ (.cons ru .nil),⟨_,(sb.2 _ (aoo hlt)).trans tp,rfl,_,rfl⟩⟩
  refine⟨.ref s.heap.objs.size,_,I2,rfl,⟨_,x,rfl,I.fresh,rfl,fun ys hy=>by rw [I.list_inj hy hq];exact hx⟩,⟨⟨_,se2⟩,?_⟩,fun b hb=>?_⟩
  ·exact si'.at fun o eo=>(sb.2 it (amF hne)).trans eo
  ·rw [zx]
   ·exact (hf b hb).1
   ·rcases alp.mp hb with z | z
    ·subst z;exact al1 hlt
    ·have z:b=it:=by simpa using z
     subst z;exact al1 hlt2
 done:=by
  intro X hP hw hK hc i pins s σ H E I hf st hg
  subst hP hw hK
  obtain⟨xs,hq,hx⟩:=hg
  obtain⟨its,rv,p,hz⟩:=I.list hq
  obtain⟨⟨old,se⟩,si⟩:=st
  have hl:=rv.length
  exact wpAny_pyNext_enum_end (I.ok.hd hc) se si p.isList (by simp;omega) fun h' eb=>⟨rfl,I.turnedAll (t':=s.toks) hf fun b o hb e'=>eb b o (fun z=>hb (by simp [z])) e'⟩
 self:=fun _ _ _ _ _ st h=>let⟨_,se⟩:=st.1;wpAny_pyIter_enum se h
section
variable {X:Cx} {es:List Expr} {k:Nat} {tpos:Pos}
noncomputable def agl (K:alg) (ta:TA):TI:=fun σ H R=>ta σ H fun vs H1=>∃ a,vs=[.ref a]/\(∃ xs,SqL K H1 a xs)/\R (Ite K a) H1
theorem ahX {a:Expr} {ta:TA} {p pos:Pos} (hg:Gl X "enumerate") (hm:X.mg "enumerate"=none) (ha:PA X [a] ta) (hs:starEach [a] X.env=[(false,eval a X.env)]:=by rfl):PI X (.Tuple es k tpos) (.Call (.Name "enumerate" p) [a] [] pos) (agl X.K ta):=by
 intro pins s σ H R I h
 refine Call_ (vi I hg hm boot_enumerate (anq (thn (ha pos pins s σ H _ I h) fun us s1 ⟨vs,H1,I1,r1,q1⟩=>?_) hs rfl))
 obtain⟨l,e,⟨xs,hq⟩,q⟩:=q1
 subst e
 cases r1 with
 | cons r rr =>
  cases rr
  cases r
  obtain⟨its,rv,p,hz⟩:=I1.list hq
  refine call_enumerate_list p.isList fun h' he hi hsz kp=>?_
  refine wpAny_pyIter_enum he ?_
  have hne:s1.heap.objs.size+1≠s1.heap.objs.size:=Nat.succ_ne_self _
  refine⟨s1.heap.objs.size+1,[s1.heap.objs.size+1,s1.heap.objs.size],_,_,H1,rfl,I1.kept (t':=s1.toks) kp,afj l _ _ hne,⟨⟨_,he⟩,hi⟩,fun b hb=>?_,q⟩
  rcases alp.mp hb with z | z
  ·subst z;exact I1.fpOk (apm _) (I1.hok.fresh (apm _))
  ·have z:b=s1.heap.objs.size:=by simpa using z
   subst z;exact I1.fpOk (ali _) (I1.hok.fresh (ali _))
end
theorem agm {K:alg} {a:Addr} {xs:List V} {g:TG} {tb:TS} {D:Ends} {σ:St} {H:Hp} (Pv:Nat->St->Hp->Prop) (h0:Pv 0 σ H) (hl:∀ i σ H,i<=xs.length->Pv i σ H->SqL K H a xs)
  (hs:∀ i x σ H t,xs[i]?=some x->Pv i σ H->H t=none->g (.ref t) σ (upd H t (.tup [.int i,x])) fun σ2 H2=>tb { D with nx:=Pv (i+1),ct:=Pv (i+1),bk:=D.nx } σ2 H2) (hd:∀ σ H,Pv xs.length σ H->D.nx σ H) :
  ∃ W:Nat->Nat->St->Hp->Prop,(∃ m,W 0 m σ H)/\∀ i m σ H,W i m σ H ->
   ((Ite K a).stop i H/\D.nx σ H) \/ ((Ite K a).go i H/\∃ N:St->Hp->Prop,(∀ σ' H',N σ' H'->∃ m',m'<m/\W (i+1) m' σ' H')/\∀ x H',(Ite K a).yld i H x H'->g x σ H' fun σ2 H2=>tb { D with nx:=N,ct:=N,bk:=D.nx } σ2 H2):=by
 refine⟨fun i m σ H=>Pv i σ H/\i<=xs.length/\m+i=xs.length,⟨xs.length,h0,alD _,rfl⟩,fun i m σ H ⟨p,hi,hm⟩=>?_⟩
 have q:=hl i σ H hi p
 by_cases hlt:i<xs.length
 ·refine .inr ⟨⟨xs,xs[i],q,alb hlt⟩,Pv (i+1),fun σ' H' n=>⟨m - 1,by omega,n,hlt,by omega⟩,fun x H' hy=>?_⟩
  obtain⟨t,y,rfl,ht,rfl,hy⟩:=hy
  exact hs i y σ H t (hy xs q) p ht
 ·have e:i=xs.length:=by omega
  subst e
  exact .inl ⟨⟨xs,q,ali _⟩,hd σ H p⟩
mutual
noncomputable def Rep (K:alg) (H:Hp):PyData->V->Prop
 | .none,v=>v=.non
 | .bool b,v=>v=.bl b
 | .int i,v=>v=.int i
 | .str x,v=>v=.str x
 | .list ds,v=>∃ a xs,v=.ref a/\SqL K H a xs/\Reps K H ds xs
 | .tuple ds,v=>∃ a xs,v=.ref a/\SqT K H a xs/\Reps K H ds xs
 | .dict _,_=>False
noncomputable def Reps (K:alg) (H:Hp):List PyData->List V->Prop
 | [],xs=>xs=[]
 | d :: ds,xs=>∃ x r,xs=x :: r/\Rep K H d x/\Reps K H ds r
end
theorem Same.seqT {K:alg} {H H':Hp} {a:Addr} {xs:List V} (e:Same H H') (h:SqT K H a xs):SqT K H' a xs:=by
 rcases h with (h | ⟨o,h⟩) | h
 ·exact .inl (.inl (e _ _ h))
 ·exact .inl (.inr ⟨o,e _ _ h⟩)
 ·exact .inr h
mutual
theorem Rep.mono {K:alg} {H H':Hp} (e:Same H H'):∀ (d:PyData) (v:V),Rep K H d v->Rep K H' d v
 | .none,_,h=>by rw [Rep] at h ⊢;exact h
 | .bool _,_,h=>by rw [Rep] at h ⊢;exact h
 | .int _,_,h=>by rw [Rep] at h ⊢;exact h
 | .str _,_,h=>by rw [Rep] at h ⊢;exact h
 | .list ds,v,h=>by
  rw [Rep] at h ⊢
  obtain⟨a,xs,h1,h2,h3⟩:=h
  exact⟨a,xs,h1,e.seq h2,Reps.mono e ds xs h3⟩
 | .tuple ds,v,h=>by
  rw [Rep] at h ⊢
  obtain⟨a,xs,h1,h2,h3⟩:=h
  exact⟨a,xs,h1,e.seqT h2,Reps.mono e ds xs h3⟩
 | .dict _,_,h=>by rw [Rep] at h;exact h.elim
theorem Reps.mono {K:alg} {H H':Hp} (e:Same H H'):∀ (ds:List PyData) (xs:List V),Reps K H ds xs->Reps K H' ds xs
 | [],_,h=>by rw [Reps] at h ⊢;exact h
 | d :: ds,xs,h=>by
  rw [Reps] at h ⊢
  obtain⟨x,r,h1,h2,h3⟩:=h
  exact⟨x,r,h1,Rep.mono e d x h2,Reps.mono e ds r h3⟩
end
theorem rep_int {K:alg} {H:Hp} {i:Int} {v:V}:Rep K H (.int i) v↔v=.int i:=by rw [Rep]
theorem rep_bool {K:alg} {H:Hp} {b:Bool} {v:V}:Rep K H (.bool b) v↔v=.bl b:=by rw [Rep]
theorem rep_none {K:alg} {H:Hp} {v:V}:Rep K H .none v↔v=.non:=by rw [Rep]
theorem rep_str {K:alg} {H:Hp} {x:Str} {v:V}:Rep K H (.str x) v↔v=.str x:=by rw [Rep]
theorem rep_list {K:alg} {H:Hp} {ds:List PyData} {v:V}:Rep K H (.list ds) v↔∃ a xs,v=.ref a/\SqL K H a xs/\Reps K H ds xs:=by rw [Rep]
theorem rep_tuple {K:alg} {H:Hp} {ds:List PyData} {v:V}:Rep K H (.tuple ds) v↔∃ a xs,v=.ref a/\SqT K H a xs/\Reps K H ds xs:=by rw [Rep]
theorem reps_nil {K:alg} {H:Hp} {xs:List V}:Reps K H [] xs↔xs=[]:=by rw [Reps]
theorem reps_cons {K:alg} {H:Hp} {d:PyData} {ds:List PyData} {xs:List V}:Reps K H (d :: ds) xs↔∃ x r,xs=x :: r/\Rep K H d x/\Reps K H ds r:=by rw [Reps]
theorem Reps.nil' {K:alg} {H:Hp}:Reps K H [] []:=reps_nil.mpr rfl
theorem Reps.cons' {K:alg} {H:Hp} {d:PyData} {ds:List PyData} {x:V} {r:List V} (h:Rep K H d x) (t:Reps K H ds r):Reps K H (d :: ds) (x :: r):=reps_cons.mpr ⟨x,r,rfl,h,t⟩
theorem Reps.length {K:alg} {H:Hp}:∀ {ds:List PyData} {xs:List V},Reps K H ds xs->xs.length=ds.length
 | [],xs,h=>by rw [reps_nil.mp h];rfl
 | d :: ds,xs,h=>by
  obtain⟨x,r,rfl,_,h3⟩:=reps_cons.mp h
  rw [alC,alC,Reps.length h3]
theorem Reps.get {K:alg} {H:Hp}:∀ {ds:List PyData} {xs:List V} {i:Nat} {d:PyData},Reps K H ds xs->ds[i]?=some d->∃ x,xs[i]?=some x/\Rep K H d x
 | [],_,_,_,_,e=>by simp at e
 | d :: ds,xs,0,d',h,e=>by
  obtain⟨x,r,rfl,h2,_⟩:=reps_cons.mp h
  simp at e;subst e
  exact⟨x,rfl,h2⟩
 | d :: ds,xs,i+1,d',h,e=>by
  obtain⟨x,r,rfl,_,h3⟩:=reps_cons.mp h
  obtain⟨y,h1,h2⟩:=Reps.get (i:=i) h3 (by simpa using e)
  exact⟨y,by simpa using h1,h2⟩
theorem Reps.snoc {K:alg} {H:Hp} {d:PyData} {x:V} (h:Rep K H d x):∀ {ds:List PyData} {xs:List V},Reps K H ds xs->Reps K H (ds++[d]) (xs++[x])
 | [],xs,t=>by rw [reps_nil.mp t];exact .cons' h .nil'
 | d' :: ds,xs,t=>by
  obtain⟨y,r,rfl,h2,h3⟩:=reps_cons.mp t
  exact .cons' h2 (Reps.snoc h h3)
theorem Reps.append {K:alg} {H:Hp}:∀ {ds es:List PyData} {xs ys:List V},Reps K H ds xs->Reps K H es ys->Reps K H (ds++es) (xs++ys)
 | [],es,xs,ys,t,u=>by rw [reps_nil.mp t];exact u
 | d' :: ds,es,xs,ys,t,u=>by
  obtain⟨y,r,rfl,h2,h3⟩:=reps_cons.mp t
  exact .cons' h2 (Reps.append h3 u)
theorem Reps.ints {K:alg} {H:Hp}:∀ {ns:List Int} {xs:List V},Reps K H (ns.map .int) xs->xs=ns.map V.int
 | [],xs,h=>reps_nil.mp h
 | n :: ns,xs,h=>by
  obtain⟨x,r,rfl,h2,h3⟩:=reps_cons.mp h
  rw [rep_int.mp h2,Reps.ints h3];rfl
theorem Reps.ints' {K:alg} {H:Hp}:∀ (ns:List Int),Reps K H (ns.map .int) (ns.map V.int)
 | []=>.nil'
 | n :: ns=>.cons' (rep_int.mpr rfl) (Reps.ints' ns)
section
variable {X:Cx} {pins:List (Addr×Obj)} {σ:St} {H:Hp} {s:Shared}
mutual
theorem jB (I:Inv X pins σ H s):∀ (d:PyData) (v:V) (u:Value),Rep X.K H d v->RelV v u->∃ as,Reads s.heap u d as
 | .none,v,u,h,r=>by rw [rep_none.mp h] at r;cases r;exact⟨_,.none⟩
 | .bool b,v,u,h,r=>by rw [rep_bool.mp h] at r;cases r;exact⟨_,.bool b⟩
 | .int i,v,u,h,r=>by rw [rep_int.mp h] at r;obtain⟨t,rfl⟩:=r;exact⟨_,.int i t⟩
 | .str x,v,u,h,r=>by rw [rep_str.mp h] at r;obtain⟨t,rfl⟩:=r;exact⟨_,.str x t⟩
 | .list ds,v,u,h,r=>by
  obtain⟨a,xs,rfl,h2,h3⟩:=rep_list.mp h
  cases r
  obtain⟨its,rv,p,_⟩:=I.list h2
  obtain⟨o,ho,hc,n,hd⟩:=p.isList
  obtain⟨as,ra⟩:=jj I ds xs its h3 rv
  exact⟨_,.list ho hc hd (by simpa using ra)⟩
 | .tuple ds,v,u,h,r=>by
  obtain⟨a,xs,rfl,h2,h3⟩:=rep_tuple.mp h
  cases r
  obtain⟨its,rv,p,_⟩:=I.tuple h2
  obtain⟨o,ho,hc,n,hd⟩:=p
  obtain⟨as,ra⟩:=jj I ds xs its h3 rv
  exact⟨_,.tuple ho hc hd (by simpa using ra)⟩
 | .dict _,_,_,h,_=>by rw [Rep] at h;exact h.elim
theorem jj (I:Inv X pins σ H s):∀ (ds:List PyData) (xs:List V) (us:List Value),Reps X.K H ds xs->Vals xs us->∃ as,ReadsAll s.heap us ds as
 | [],xs,us,h,r=>by rw [reps_nil.mp h] at r;cases r;exact⟨_,.nil⟩
 | d :: ds,xs,us,h,r=>by
  obtain⟨x,q,rfl,h2,h3⟩:=reps_cons.mp h
  cases r with
  | cons r1 r2 =>
   obtain⟨as,ra⟩:=jB I d x _ h2 r1
   obtain⟨bs,rb⟩:=jj I ds q _ h3 r2
   exact⟨_,.cons ra rb⟩
end
noncomputable def agn (K:alg) (neg:Bool):R2:=fun x y H Q=>∃ d d',Rep K H d x/\Rep K H d' y/\d.canLay0=true/\d'.canLay0=true/\min d.depth d'.depth<=60/\Q (.bl (if neg then !alW d d' else alW d d')) H
theorem ajM (hu:X.A.units+64<cLine):OpR X (compareOp .Eq) (agn X.K false):=by
 intro pins s σ H x y v u Q I rx ry h
 obtain⟨d,d',h1,h2,c1,c2,hm,q⟩:=h
 obtain⟨as,ra⟩:=jB I d x v h1 rx
 obtain⟨bs,rb⟩:=jB I d' y u h2 ry
 exact SeqAt.compareEq_reads ra rb c1 c2 (by omega) ⟨.bl (alW d d'),H,I,rfl,q⟩
theorem ajN (hu:X.A.units+64<cLine):OpR X (compareOp .NotEq) (agn X.K true):=by
 intro pins s σ H x y v u Q I rx ry h
 obtain⟨d,d',h1,h2,c1,c2,hm,q⟩:=h
 obtain⟨as,ra⟩:=jB I d x v h1 rx
 obtain⟨bs,rb⟩:=jB I d' y u h2 ry
 exact SeqAt.compareNe_reads ra rb c1 c2 (by omega) ⟨.bl (!alW d d'),H,I,rfl,q⟩
theorem afk (hc:X.calm=true):yg X (.builtin "min") (fun xs H Q=>∃ a ns,xs=[.ref a]/\SqL X.K H a (ns.map V.int)/\ns≠[]/\∀ M,M∈ns->(∀ b∈ns,M<=b)->Q (.int M) H):=by
 intro pins s σ H xs us Q I r h
 obtain⟨a,ns,rfl,hq,hne,q⟩:=h
 obtain⟨u,rfl,r1⟩:=vals1 r
 cases r1
 obtain⟨its,rv,p,_⟩:=I.list hq
 obtain⟨m,F⟩:=I.fr
 have hi:=intsAre_of rv
 obtain⟨ys,e⟩:=hi.allInts.items
 have hns:ns=ys.toList.map (·.1):=by rw [<-hi.numsOf,<- nums_intItems,<- e]
 have hsz:0<ys.size:=by
  have h3:0<ns.length:=apb.mpr hne
  rw [hns,ale,aly] at h3;exact h3
 have hl:=p.isList
 rw [e] at hl
 refine min_intList (I.ok.hd hc) hl hsz fun v h' tk hv hk=>?_
 obtain⟨t,rfl⟩:=intItems_at hv
 obtain⟨_,h2⟩:=argBest_lt (numAt ys) (ys.size - 1)
 refine⟨.int _,H,I.kept (t':=tk) hk,⟨t,rfl⟩,q _ ?_ fun b hb=>?_⟩
 ·rw [hns,numAt_eq];exact getD_mem (by rw [ale,aly];omega)
 ·rw [hns] at hb
  obtain⟨j,hj,rfl⟩:=mem_getD hb
  rw [ale,aly] at hj
  rw [<-numAt_eq];exact h2 j (by omega)
theorem afl (hc:X.calm=true):yg X (.builtin "max") (fun xs H Q=>∃ a ns,xs=[.ref a]/\SqL X.K H a (ns.map V.int)/\ns≠[]/\∀ M,M∈ns->(∀ b∈ns,b<=M)->Q (.int M) H):=by
 intro pins s σ H xs us Q I r h
 obtain⟨a,ns,rfl,hq,hne,q⟩:=h
 obtain⟨u,rfl,r1⟩:=vals1 r
 cases r1
 obtain⟨its,rv,p,_⟩:=I.list hq
 have hi:=intsAre_of rv
 obtain⟨ys,e⟩:=hi.allInts.items
 have hns:ns=ys.toList.map (·.1):=by rw [<-hi.numsOf,<- nums_intItems,<- e]
 have hsz:0<ys.size:=by
  have h3:0<ns.length:=apb.mpr hne
  rw [hns,ale,aly] at h3;exact h3
 have hl:=p.isList
 rw [e] at hl
 refine max_intList (I.ok.hd hc) hl hsz fun v h' tk hv hk=>?_
 obtain⟨t,rfl⟩:=intItems_at hv
 obtain⟨_,h2⟩:=argBest_gt (numAt ys) (ys.size - 1)
 refine⟨.int _,H,I.kept (t':=tk) hk,⟨t,rfl⟩,q _ ?_ fun b hb=>?_⟩
 ·rw [hns,numAt_eq];exact getD_mem (by rw [ale,aly];omega)
 ·rw [hns] at hb
  obtain⟨j,hj,rfl⟩:=mem_getD hb
  rw [ale,aly] at hj
  rw [<-numAt_eq];exact h2 j (by omega)
end
inductive DV where
 | dat (d:PyData)
 | feed
 | own (k:Nat)
 | exc (C:Value)
 | mon (φ:Hp->V->Prop)
noncomputable abbrev zp:=List (Option DV)
structure Fx where
 f:Option Addr
 M:List Addr
noncomputable def hide (H:Hp) (f:Fx):Hp:=fun b=>if f.f=some b \/ b∈f.M then none else H b
structure FOk (f:Fx) (H:Hp):Prop where
 fd:∀ p,f.f=some p->∃ a b:Int,H p=some (.lst [.int a,.int b])/\0<=a/\0<=b/\b<2147483647
 mm:∀ b∈f.M,∃ o,H b=some o
 nm:∀ p,f.f=some p->p∉f.M
noncomputable def RepV (K:alg) (f:Fx) (H:Hp):DV->V->Prop
 | .dat d,v=>Rep K (hide H f) d v
 | .feed,v=>∃ p,f.f=some p/\v=.ref p
 | .own k,v=>∃ p,f.M.reverse[k]?=some p/\v=.ref p
 | .exc C,v=>∃ a,v=.ref a/\hide H f a=some (.ext fun h=>∃ o,h.get? a=some o/\o.cls=C)
 | .mon φ,v=>∀ H',Same (hide H f) H'->φ H' v
structure Goes (f:Fx) (H H':Hp):Prop where
 sm:Same (hide H f) (hide H' f)
 ok:FOk f H'
 kp:∀ b∈f.M,H' b=H b
structure EnvOk (K:alg) (f:Fx) (ρ:zp) (σ:St) (H:Hp):Prop where
 len:ρ.length=σ.length
 get:∀ (i:Nat) x,ρ[i]?=some (some x)->∃ v,σ[i]?=some (some v)/\RepV K f H x v
 fd:FOk f H
theorem yD (H:Hp):hide H ⟨none,[]⟩=H:=by funext b;unfold hide;rw [if_neg (by rintro (h | h) <;> cases h)]
theorem zj (H:Hp) (f:Fx):Same (hide H f) H:=fun b o h=>by
 unfold hide at h
 split at h
 ·cases h
 ·exact h
theorem zG {H:Hp} {f:Fx} {b:Addr} {o:HO} (h:hide H f b=some o):¬ (f.f=some b \/ b∈f.M)/\H b=some o:=by
 unfold hide at h
 split at h
 ·cases h
 ·rename_i n;exact⟨n,h⟩
theorem zv {H:Hp} {f:Fx} {b:Addr} {o:HO} (n:¬ (f.f=some b \/ b∈f.M)) (h:H b=some o):hide H f b=some o:=by unfold hide;rw [if_neg n];exact h
theorem Goes.refl {f:Fx} {H:Hp} (h:FOk f H):Goes f H H:=⟨Same.refl _,h,fun _ _=>rfl⟩
theorem Goes.trans {f:Fx} {H H1 H2:Hp} (a:Goes f H H1) (b:Goes f H1 H2):Goes f H H2:=⟨a.1.trans b.1,b.2,fun x hx=>(b.kp x hx).trans (a.kp x hx)⟩
theorem Goes.of_same {f:Fx} {H H':Hp} (s:Same H H') (h:FOk f H):Goes f H H' :=
 ⟨fun b o e=>zv (zG e).1 (s b o (zG e).2),⟨fun p e=>let⟨a,b,h1,h2⟩:=h.fd p e;⟨a,b,s _ _ h1,h2⟩,fun b hb=>let⟨o,e⟩:=h.mm b hb;⟨o,s _ _ e⟩,h.nm⟩,fun b hb=>let⟨o,e⟩:=h.mm b hb;(s _ _ e).trans e.symm⟩
theorem z4 {H:Hp} {p:Addr} (h:H p=none) (o:HO):Same H (upd H p o):=fun b u q=>by rw [zx (zH q h)];exact q
theorem RepV.mono {K:alg} {f:Fx} {H H':Hp} (g:Goes f H H'):∀ {x:DV} {v:V},RepV K f H x v->RepV K f H' x v
 | .dat d,v,h=>Rep.mono g.1 d v h
 | .feed,v,h=>h
 | .own _,v,h=>h
 | .exc _,v,h=>let⟨a,e,q⟩:=h;⟨a,e,g.1 _ _ q⟩
 | .mon _,v,h=>fun H' s=>h H' (g.1.trans s)
theorem EnvOk.mono {K:alg} {f:Fx} {ρ:zp} {σ:St} {H H':Hp} (e:EnvOk K f ρ σ H) (g:Goes f H H'):EnvOk K f ρ σ H' :=
 ⟨e.len,fun i x h=>let⟨v,h1,h2⟩:=e.get i x h;⟨v,h1,h2.mono g⟩,g.2⟩
theorem EnvOk.set {K:alg} {f:Fx} {ρ:zp} {σ:St} {H:Hp} {x:DV} {v:V} (e:EnvOk K f ρ σ H) (i:Nat) (r:RepV K f H x v):EnvOk K f (ρ.set i (some x)) (σ.set i (some v)) H:=by
 refine⟨by rw [ano,ano];exact e.len,fun j y h=>?_,e.fd⟩
 by_cases hj:i=j
 ·subst hj
  by_cases hi:i<ρ.length
  ·rw [amw hi] at h
   cases h
   exact⟨v,by rw [amw (by rw [<-e.len];exact hi)],r⟩
  ·rw [alN (by rw [ano];omega)] at h;cases h
 ·rw [am1 hj] at h ⊢
  exact e.get j y h
theorem fresh_ne {f:Fx} {H:Hp} {p:Addr} (h:FOk f H) (n:H p=none):¬ (f.f=some p \/ p∈f.M):=fun e=>by
 rcases e with e | e
 ·obtain⟨a,b,h1,_⟩:=h.fd p e
  rw [n] at h1;cases h1
 ·obtain⟨o,h1⟩:=h.mm p e
  rw [n] at h1;cases h1
inductive RepVs (K:alg) (f:Fx) (H:Hp):List DV->List V->Prop where
 | nil:RepVs K f H [] []
 | cons {x v xs vs}:RepV K f H x v->RepVs K f H xs vs->RepVs K f H (x :: xs) (v :: vs)
theorem RepVs.mono {K:alg} {f:Fx} {H H':Hp} (g:Goes f H H'):∀ {xs:List DV} {vs:List V},RepVs K f H xs vs->RepVs K f H' xs vs
 | _,_,.nil=>.nil
 | _,_,.cons r t=>.cons (r.mono g) (t.mono g)
theorem RepVs.length {K:alg} {f:Fx} {H:Hp}:∀ {xs:List DV} {vs:List V},RepVs K f H xs vs->vs.length=xs.length
 | _,_,.nil=>rfl
 | _,_,.cons _ t=>by rw [alC,alC,t.length]
section
variable (K:alg) (f:Fx)
noncomputable def PEd (te:TE) (ρ:zp) (P:PyData->Prop):Prop:=∀ (σ:St) (H:Hp) (Q:VK),EnvOk K f ρ σ H->(∀ d v H',Goes f H H'->Rep K (hide H' f) d v->P d->Q v H')->te σ H Q
noncomputable def PTd (tt:TT) (ρ:zp) (P:Bool->Prop):Prop:=∀ (σ:St) (H:Hp) (Q:Bool->Hp->Prop),EnvOk K f ρ σ H->(∀ b H',Goes f H H'->P b->Q b H')->tt σ H Q
noncomputable def PAd (ta:TA) (ρ:zp) (P:List DV->Prop):Prop:=∀ (σ:St) (H:Hp) (Q:List V->Hp->Prop),EnvOk K f ρ σ H->(∀ xs vs H',Goes f H H'->RepVs K f H' xs vs->P xs->Q vs H')->ta σ H Q
structure DEnds where
 nx:zp->Prop
 rt:PyData->Prop
 bk:zp->Prop:=fun _=>False
 ct:zp->Prop:=fun _=>False
noncomputable def PSd (ts:TS) (ρ:zp) (D:DEnds):Prop:=∀ (σ:St) (H:Hp) (E:Ends),EnvOk K f ρ σ H->(∀ ρ' σ' H',Goes f H H'->EnvOk K f ρ' σ' H'->D.nx ρ'->E.nx σ' H')->(∀ d v H',Goes f H H'->Rep K (hide H' f) d v->D.rt d->E.rt v H') ->
 (∀ ρ' σ' H',Goes f H H'->EnvOk K f ρ' σ' H'->D.bk ρ'->E.bk σ' H')->(∀ ρ' σ' H',Goes f H H'->EnvOk K f ρ' σ' H'->D.ct ρ'->E.ct σ' H')->ts E σ H
noncomputable def spD {γ:Type} (n:Nat) (pre:γ->List DV->Prop) (post:γ->PyData->Prop):Sp:=fun vs H Q _=>∃ f xs c,RepVs K f H xs vs/\xs.length=n/\FOk f H/\pre c xs/\∀ r v H',Goes f H H'->Rep K (hide H' f) r v->post c r->Q v H'
end
section
variable {K:alg} {f:Fx} {ρ:zp} {P:PyData->Prop} {te ta tb tc:TE}
theorem zM {i:Nat} {d:PyData} (h:ρ[i]?=some (some (.dat d))) (p:P d):PEd K f (yw i) ρ P:=fun σ H Q e q=>by
 obtain⟨v,h1,h2⟩:=e.get i _ h
 exact⟨v,h1,q d v H (.refl e.fd) h2 p⟩
theorem acj {i:Int} (p:P (.int i)):PEd K f (tC (.int i)) ρ P:=fun σ H Q e q=>q (.int i) _ H (.refl e.fd) (rep_int.mpr rfl) p
theorem akH {i:Bool} (p:P (.bool i)):PEd K f (tC (.bl i)) ρ P:=fun σ H Q e q=>q (.bool i) _ H (.refl e.fd) (rep_bool.mpr rfl) p
theorem ago {i:Str} (p:P (.str i)):PEd K f (tC (.str i)) ρ P:=fun σ H Q e q=>q (.str i) _ H (.refl e.fd) (rep_str.mpr rfl) p
theorem ai7 (p:P .none):PEd K f (tC .non) ρ P:=fun σ H Q e q=>q .none _ H (.refl e.fd) (rep_none.mpr rfl) p
theorem PEd.imp {P':PyData->Prop} (h:PEd K f te ρ P) (i:∀ d,P d->P' d):PEd K f te ρ P':=fun σ H Q e q=>h σ H Q e fun d v H' g r p=>q d v H' g r (i d p)
theorem afm {r:R2} (h:PEd K f ta ρ fun x=>PEd K f tb ρ fun y=>∀ (v w:V) (H:Hp) (Q:VK),FOk f H->Rep K (hide H f) x v->Rep K (hide H f) y w->(∀ d u H',Goes f H H'->Rep K (hide H' f) d u->P d->Q u H')->r v w H Q):PEd K f (tOp r ta tb) ρ P:=fun σ H Q e q =>
 h σ H _ e fun x v H1 g1 r1 p1=>p1 σ H1 _ (e.mono g1) fun y w H2 g2 r2 p2=>p2 v w H2 Q g2.2 (Rep.mono g2.1 x v r1) r2 fun d u H' g' r' p'=>q d u H' (g1.trans (g2.trans g')) r' p'
theorem ai8 {g:Int->Int->Int} (h:PEd K f ta ρ fun x=>∃ i,x=.int i/\PEd K f tb ρ fun y=>∃ j,y=.int j/\P (.int (g i j))):PEd K f (tOp (rI0 fun i j=>.int (g i j)) ta tb) ρ P :=
 afm (h.imp fun x ⟨i,ex,h2⟩=>h2.imp fun y ⟨j,ey,p⟩ v w H Q fo rx ry q=>by
  subst ex ey
  exact⟨i,j,rep_int.mp rx,rep_int.mp ry,q _ _ H (.refl fo) (rep_int.mpr rfl) p⟩)
theorem agp {C:Int->Int->Prop} {g:Int->Int->Int} (h:PEd K f ta ρ fun x=>∃ i,x=.int i/\PEd K f tb ρ fun y=>∃ j,y=.int j/\C i j/\P (.int (g i j))):PEd K f (tOp (rI C fun i j=>.int (g i j)) ta tb) ρ P :=
 afm (h.imp fun x ⟨i,ex,h2⟩=>h2.imp fun y ⟨j,ey,c,p⟩ v w H Q fo rx ry q=>by
  subst ex ey
  exact⟨i,j,rep_int.mp rx,rep_int.mp ry,c,q _ _ H (.refl fo) (rep_int.mpr rfl) p⟩)
theorem agq {g:Int->Int->Bool} (h:PEd K f ta ρ fun x=>∃ i,x=.int i/\PEd K f tb ρ fun y=>∃ j,y=.int j/\P (.bool (g i j))):PEd K f (tOp (rI0 fun i j=>.bl (g i j)) ta tb) ρ P :=
 afm (h.imp fun x ⟨i,ex,h2⟩=>h2.imp fun y ⟨j,ey,p⟩ v w H Q fo rx ry q=>by
  subst ex ey
  exact⟨i,j,rep_int.mp rx,rep_int.mp ry,q _ _ H (.refl fo) (rep_bool.mpr rfl) p⟩)
theorem qQ {neg:Bool} (h:PEd K f ta ρ fun x=>PEd K f tb ρ fun y=>x.canLay0=true/\y.canLay0=true/\min x.depth y.depth<=60/\P (.bool (if neg then !alW x y else alW x y))):PEd K f (tOp (agn K neg) ta tb) ρ P :=
 afm (h.imp fun x h2=>h2.imp fun y ⟨c1,c2,c3,p⟩ v w H Q fo rx ry q =>
  ⟨x,y,Rep.mono (zj _ _) x v rx,Rep.mono (zj _ _) y w ry,c1,c2,c3,q _ _ H (.refl fo) (rep_bool.mpr rfl) p⟩)
theorem aeb (h:PEd K f ta ρ fun x=>∃ ds,x=.list ds/\PEd K f tb ρ fun y=>∃ k,y=.int k/\∃ d,atI ds k=some d/\P d):PEd K f (tOp (afg K) ta tb) ρ P :=
 afm (h.imp fun x ⟨ds,ex,h2⟩=>h2.imp fun y ⟨k,ey,d,a,p⟩ v w H Q fo rx ry q=>by
  subst ex ey
  obtain⟨l,xs,rfl,hs,hr⟩:=rep_list.mp rx
  unfold atI at a
  cases hi:ixN ds.length k with
  | none=>rw [hi] at a;cases a
  | some j =>
   rw [hi] at a
   obtain⟨u,hu,ru⟩:=hr.get a
   exact⟨l,xs,k,u,rfl,rep_int.mp ry,(zj H f).seq hs,by unfold atI;rw [hr.length,hi];exact hu,q d u H (.refl fo) ru p⟩)
theorem agr (h:PEd K f ta ρ fun x=>∃ ds,x=.tuple ds/\PEd K f tb ρ fun y=>∃ k,y=.int k/\∃ d,atI ds k=some d/\P d):PEd K f (tOp (ajH K) ta tb) ρ P :=
 afm (h.imp fun x ⟨ds,ex,h2⟩=>h2.imp fun y ⟨k,ey,d,a,p⟩ v w H Q fo rx ry q=>by
  subst ex ey
  obtain⟨l,xs,rfl,hs,hr⟩:=rep_tuple.mp rx
  unfold atI at a
  cases hi:ixN ds.length k with
  | none=>rw [hi] at a;cases a
  | some j =>
   rw [hi] at a
   obtain⟨u,hu,ru⟩:=hr.get a
   exact⟨l,xs,k,u,rfl,rep_int.mp ry,(zj H f).seqT hs,by unfold atI;rw [hr.length,hi];exact hu,q d u H (.refl fo) ru p⟩)
theorem ai9 {i:Nat} (hi:ρ[i]?=some (some .feed)) (h:PEd K f tb ρ fun y=>(y=.int 0/\∀ a:Int,0<=a->P (.int a)) \/ (y=.int 1/\∀ b:Int,0<=b->b<2147483647->P (.int b))):PEd K f (tOp (afg K) (yw i) tb) ρ P:=fun σ H Q e q=>by
 obtain⟨v,h1,p,ef,ev⟩:=e.get i _ hi
 refine⟨v,h1,h σ H _ e fun y w H' g r c=>?_⟩
 obtain⟨a,b,hf,c1,c2,c3⟩:=g.2.fd p ef
 rcases c with⟨rfl,c⟩ | ⟨rfl,c⟩
 ·exact⟨p,_,0,.int a,ev,rep_int.mp r,SqL.of hf,rfl,q (.int a) _ H' g (rep_int.mpr rfl) (c a c1)⟩
 ·exact⟨p,_,1,.int b,ev,rep_int.mp r,SqL.of hf,rfl,q (.int b) _ H' g (rep_int.mpr rfl) (c b c2 c3)⟩
theorem jk {R:List DV->Prop} (p:R []):PAd K f jZ ρ R:=fun σ H Q e q=>q [] [] H (.refl e.fd) .nil p
theorem yh {R:List DV->Prop} {u:TA} (h:PEd K f te ρ fun x=>PAd K f u ρ fun xs=>R (.dat x :: xs)):PAd K f (yx te u) ρ R:=fun σ H Q e q =>
 h σ H _ e fun x v H1 g1 r1 p1=>p1 σ H1 _ (e.mono g1) fun xs vs H2 g2 r2 p2=>q (.dat x :: xs) (v :: vs) H2 (g1.trans g2) (.cons (RepV.mono (x:=.dat x) g2 r1) r2) p2
theorem ags {R:List DV->Prop} {u:TA} {i:Nat} (hi:ρ[i]?=some (some .feed)) (h:PAd K f u ρ fun xs=>R (.feed :: xs)):PAd K f (yx (yw i) u) ρ R:=fun σ H Q e q=>by
 obtain⟨v,h1,h2⟩:=e.get i _ hi
 exact⟨v,h1,h σ H _ e fun xs vs H2 g2 r2 p2=>q (.feed :: xs) (v :: vs) H2 g2 (.cons (RepV.mono (x:=.feed) g2 h2) r2) p2⟩
noncomputable def jN:List DV->Option (List PyData)
 | []=>some []
 | .dat d :: r=>(jN r).map (d :: ·)
 | .feed :: _=>none
 | .own _ :: _=>none
 | .exc _ :: _=>none
 | .mon _ :: _=>none
theorem qm {H:Hp}:∀ {xs:List DV} {vs:List V} {ds:List PyData},RepVs K f H xs vs->jN xs=some ds->Reps K (hide H f) ds vs
 | _,_,ds,.nil,e=>by cases e;exact .nil'
 | .dat d :: xs,v :: vs,ds,.cons r t,e=>by
  unfold jN at e
  cases q:jN xs with
  | none=>rw [q] at e;cases e
  | some es=>rw [q] at e;cases e;exact .cons' r (qm t q)
 | .feed :: xs,_,ds,.cons r t,e=>by cases e
 | .own _ :: xs,_,ds,.cons r t,e=>by cases e
 | .exc _ :: xs,_,ds,.cons r t,e=>by cases e
 | .mon _ :: xs,_,ds,.cons r t,e=>by cases e
theorem aec {t:TA} (h:PAd K f t ρ fun xs=>∃ ds,jN xs=some ds/\ds.length<=1000/\P (.list ds)):PEd K f (agg t) ρ P:=fun σ H Q e q =>
 h σ H _ e fun xs vs H1 g1 r1 ⟨ds,ea,hl,p⟩=>by
  have rs:=qm r1 ea
  refine⟨by rw [rs.length];exact amM (ye hl),fun l hn=>?_⟩
  have sm:=z4 hn (.lst vs)
  have g2:Goes f H1 (upd H1 l (.lst vs)):=.of_same sm g1.2
  exact q (.list ds) _ _ (g1.trans g2) (rep_list.mpr ⟨l,vs,rfl,.of (zv (fresh_ne g1.2 hn) zB),Reps.mono g2.1 ds vs rs⟩) p
theorem aaf {t:TA} (h:PAd K f t ρ fun xs=>∃ ds,jN xs=some ds/\ds.length<=1000/\P (.tuple ds)):PEd K f (akE t) ρ P:=fun σ H Q e q =>
 h σ H _ e fun xs vs H1 g1 r1 ⟨ds,ea,hl,p⟩=>by
  have rs:=qm r1 ea
  refine⟨by rw [rs.length];exact amM (ye hl),fun l hn=>?_⟩
  have sm:=z4 hn (.tup vs)
  have g2:Goes f H1 (upd H1 l (.tup vs)):=.of_same sm g1.2
  exact q (.tuple ds) _ _ (g1.trans g2) (rep_tuple.mpr ⟨l,vs,rfl,.of (zv (fresh_ne g1.2 hn) zB),Reps.mono g2.1 ds vs rs⟩) p
theorem zu {γ:Type} {n:Nat} {pre:γ->List DV->Prop} {post:γ->PyData->Prop} {E:XK} {t:TA} (c:γ) (h:PAd K f t ρ fun xs=>xs.length=n/\pre c xs/\∀ r,post c r->P r):PEd K f (ab9 (spD K n pre post) [] E t) ρ P:=fun σ H Q e q =>
 h σ H _ e fun xs vs H1 g1 r1 ⟨hl,hp,k⟩=>by
  refine⟨f,xs,c,by rw [al4];exact r1,hl,g1.2,hp,fun r v H' g' r' p'=>q r v H' (g1.trans g') r' (k r p')⟩
theorem adv {r:List V->Hp->VK->Prop} {t:TA} (h:PAd K f t ρ fun xs=>∃ ds,jN xs=some ds/\∀ (vs:List V) (H:Hp) (Q:VK),FOk f H->Reps K (hide H f) ds vs->(∀ d u H',Goes f H H'->Rep K (hide H' f) d u->P d->Q u H')->r vs H Q):PEd K f (tCB r t) ρ P:=fun σ H Q e q =>
 h σ H _ e fun xs vs H1 g1 r1 ⟨ds,ea,k⟩=>k vs H1 Q g1.2 (qm r1 ea) fun d u H' g' r' p'=>q d u H' (g1.trans g') r' p'
end
section
variable {K:alg} {f:Fx} {ρ:zp} {P:PyData->Prop} {B:Bool->Prop} {te ta tb tc:TE} {tt tu:TT}
theorem PTd.imp {B':Bool->Prop} (h:PTd K f tt ρ B) (i:∀ d,B d->B' d):PTd K f tt ρ B':=fun σ H Q e q=>h σ H Q e fun d H' g p=>q d H' g (i d p)
theorem yT (h:PEd K f te ρ fun d=>∃ k,d=.bool k/\B k):PTd K f (agc te) ρ B:=fun σ H Q e q=>h σ H _ e fun d v H' g r ⟨k,ed,p⟩=>by
 subst ed
 exact⟨k,rep_bool.mp r,q k H' g p⟩
theorem agt (h:PTd K f tt ρ fun c=>if c=true then PTd K f tu ρ B else B false):PTd K f (akA tt tu) ρ B:=fun σ H Q e q=>h σ H _ e fun c H1 g p=>by
 cases c with
 | true =>
  rw [if_pos rfl] at p ⊢
  exact p σ H1 Q (e.mono g) fun b H2 g2 p2=>q b H2 (g.trans g2) p2
 | false =>
  rw [if_neg ald] at p ⊢
  exact q false H1 g p
theorem ahY (h:PTd K f tt ρ fun c=>if c=true then B true else PTd K f tu ρ B):PTd K f (tOr tt tu) ρ B:=fun σ H Q e q=>h σ H _ e fun c H1 g p=>by
 cases c with
 | true =>
  rw [if_pos rfl] at p ⊢
  exact q true H1 g p
 | false =>
  rw [if_neg ald] at p ⊢
  exact p σ H1 Q (e.mono g) fun b H2 g2 p2=>q b H2 (g.trans g2) p2
theorem ack (h:PTd K f tt ρ fun c=>B (!c)):PTd K f (akB tt) ρ B:=fun σ H Q e q=>h σ H _ e fun c H1 g p=>q (!c) H1 g p
noncomputable def ak7:PyData->Option Bool
 | .none=>some false
 | .bool b=>some b
 | .int i=>some (i != 0)
 | .list ds=>some (!ds.isEmpty)
 | .tuple ds=>some (!ds.isEmpty)
 | _=>none
noncomputable def ajO (K:alg) (ta:TE):TT:=fun σ H Q=>ta σ H fun x H'=>∃ k,ajE K x H' k/\Q k H'
theorem ajP {X:Cx} {a:Expr} (ha:PE X a ta) (he:∀ whole,isTrue a X.env whole=(do let v <- whole;standAt a.pos;holding [v] (truthy v))):PT X a (ajO X.K ta):=age ha he
theorem j7 (h:PEd K f ta ρ fun d=>∃ k,ak7 d=some k/\B k):PTd K f (ajO K ta) ρ B:=fun σ H Q e q=>h σ H _ e fun d v H' g r ⟨k,ed,p⟩=>by
 refine⟨k,?_,q k H' g p⟩
 cases d with
 | none=>rw [rep_none.mp r];cases ed;rfl
 | bool b=>rw [rep_bool.mp r];cases ed;rfl
 | int i=>rw [rep_int.mp r];cases ed;rfl
 | str x=>cases ed
 | list ds =>
  obtain⟨a,xs,rfl,h1,h2⟩:=rep_list.mp r
  cases ed
  refine .inl ⟨xs,(zj _ _).seq h1,?_⟩
  cases ds with
  | nil=>rw [reps_nil.mp h2];rfl
  | cons d ds=>obtain⟨x,r,rfl,_⟩:=reps_cons.mp h2;rfl
 | tuple ds =>
  obtain⟨a,xs,rfl,h1,h2⟩:=rep_tuple.mp r
  cases ed
  refine .inr (.inl ⟨xs,(zj _ _).seqT h1,?_⟩)
  cases ds with
  | nil=>rw [reps_nil.mp h2];rfl
  | cons d ds=>obtain⟨x,r,rfl,_⟩:=reps_cons.mp h2;rfl
 | dict _=>cases ed
theorem ahZ (h:PTd K f tt ρ fun c=>if c=true then PEd K f ta ρ P else PEd K f tb ρ P):PEd K f (tIf tt ta tb) ρ P:=fun σ H Q e q=>h σ H _ e fun c H1 g p=>by
 cases c with
 | true=>rw [if_pos rfl] at p ⊢;exact p σ H1 Q (e.mono g) fun d v H2 g2 r2 p2=>q d v H2 (g.trans g2) r2 p2
 | false=>rw [if_neg ald] at p ⊢;exact p σ H1 Q (e.mono g) fun d v H2 g2 r2 p2=>q d v H2 (g.trans g2) r2 p2
theorem adw (h:PEd K f ta ρ fun x=>∃ c,x=.bool c/\if c=true then PEd K f tb ρ P else P (.bool false)):PEd K f (ai2 ta tb) ρ P:=fun σ H Q e q=>h σ H _ e fun x v H1 g r ⟨c,ex,p⟩=>by
 subst ex
 refine⟨c,rep_bool.mp r,?_⟩
 cases c with
 | true=>rw [if_pos rfl] at p ⊢;exact p σ H1 Q (e.mono g) fun d v H2 g2 r2 p2=>q d v H2 (g.trans g2) r2 p2
 | false=>rw [if_neg ald] at p ⊢;exact q _ _ H1 g (rep_bool.mpr rfl) p
theorem agu (h:PEd K f ta ρ fun x=>∃ c,x=.bool c/\P (.bool !c)):PEd K f (ai3 ta) ρ P:=fun σ H Q e q=>h σ H _ e fun x v H1 g r ⟨c,ex,p⟩=>by
 subst ex
 exact⟨c,rep_bool.mp r,q _ _ H1 g (rep_bool.mpr rfl) p⟩
theorem aed {g g':Int->Int->Bool} (h:PEd K f ta ρ fun x=>∃ i,x=.int i/\PEd K f tb ρ fun y=>∃ j,y=.int j/\if g i j=true then PEd K f tc ρ fun z=>∃ k,z=.int k/\P (.bool (g' j k)) else P (.bool false)) :
  PEd K f (agd (rI0 fun i j=>.bl (g i j)) (rI0 fun i j=>.bl (g' i j)) ta tb tc) ρ P:=fun σ H Q e q=>h σ H _ e fun x v H1 g1 r1 ⟨i,ex,p1⟩=>p1 σ H1 _ (e.mono g1) fun y w H2 g2 r2 ⟨j,ey,p2⟩=>by
 subst ex ey
 refine⟨i,j,rep_int.mp r1,rep_int.mp r2,g i j,rfl,?_⟩
 by_cases hg:g i j=true
 ·rw [if_pos hg] at p2 ⊢
  exact p2 σ H2 _ ((e.mono g1).mono g2) fun z u H3 g3 r3 ⟨k,ez,p3⟩=>by
   subst ez
   exact⟨j,k,rep_int.mp r2,rep_int.mp r3,q _ _ H3 (g1.trans (g2.trans g3)) (rep_bool.mpr rfl) p3⟩
 ·rw [if_neg hg] at p2 ⊢
  exact q _ _ H2 (g1.trans g2) (rep_bool.mpr rfl) p2
theorem aee {t:TA} (h:PAd K f t ρ fun xs=>(∃ ds,xs=[.dat (.list ds)]/\P (.int ds.length)) \/ (∃ ds,xs=[.dat (.tuple ds)]/\P (.int ds.length))) :
  PEd K f (tCB (fun xs H Q=>∃ p ys,xs=[.ref p]/\(SqL K H p ys \/ SqT K H p ys)/\Q (.int ys.length) H) t) ρ P :=
 adv fun σ H Q e q=>h σ H Q e fun xs vs H' g r p=>by
  rcases p with⟨ds,rfl,p⟩ | ⟨ds,rfl,p⟩
  ·refine q _ vs H' g r ⟨_,rfl,fun vs H Q fo rs k=>?_⟩
   obtain⟨x,r,rfl,h2,h3⟩:=reps_cons.mp rs
   rw [reps_nil.mp h3]
   obtain⟨a,ys,rfl,s1,s2⟩:=rep_list.mp h2
   exact⟨a,ys,rfl,.inl ((zj _ _).seq s1),k (.int ds.length) _ H (.refl fo) (rep_int.mpr (by rw [s2.length])) p⟩
  ·refine q _ vs H' g r ⟨_,rfl,fun vs H Q fo rs k=>?_⟩
   obtain⟨x,r,rfl,h2,h3⟩:=reps_cons.mp rs
   rw [reps_nil.mp h3]
   obtain⟨a,ys,rfl,s1,s2⟩:=rep_tuple.mp h2
   exact⟨a,ys,rfl,.inr ((zj _ _).seqT s1),k (.int ds.length) _ H (.refl fo) (rep_int.mpr (by rw [s2.length])) p⟩
theorem agv {t:TA} (h:PAd K f t ρ fun xs=>∃ ns:List Int,xs=[.dat (.list (ns.map .int))]/\ns≠[]/\∀ M,M∈ns->(∀ b∈ns,M<=b)->P (.int M)) :
  PEd K f (tCB (fun xs H Q=>∃ a ns,xs=[.ref a]/\SqL K H a (ns.map V.int)/\ns≠[]/\∀ M,M∈ns->(∀ b∈ns,M<=b)->Q (.int M) H) t) ρ P :=
 adv fun σ H Q e q=>h σ H Q e fun xs vs H' g r ⟨ns,ex,hne,p⟩=>by
  subst ex
  refine q _ vs H' g r ⟨_,rfl,fun vs H Q fo rs k=>?_⟩
  obtain⟨x,r,rfl,h2,h3⟩:=reps_cons.mp rs
  rw [reps_nil.mp h3]
  obtain⟨a,ys,rfl,s1,s2⟩:=rep_list.mp h2
  rw [s2.ints] at s1
  exact⟨a,ns,rfl,(zj _ _).seq s1,hne,fun M h1 h2=>k (.int M) _ H (.refl fo) (rep_int.mpr rfl) (p M h1 h2)⟩
theorem agw {t:TA} (h:PAd K f t ρ fun xs=>∃ ns:List Int,xs=[.dat (.list (ns.map .int))]/\ns≠[]/\∀ M,M∈ns->(∀ b∈ns,b<=M)->P (.int M)) :
  PEd K f (tCB (fun xs H Q=>∃ a ns,xs=[.ref a]/\SqL K H a (ns.map V.int)/\ns≠[]/\∀ M,M∈ns->(∀ b∈ns,b<=M)->Q (.int M) H) t) ρ P :=
 adv fun σ H Q e q=>h σ H Q e fun xs vs H' g r ⟨ns,ex,hne,p⟩=>by
  subst ex
  refine q _ vs H' g r ⟨_,rfl,fun vs H Q fo rs k=>?_⟩
  obtain⟨x,r,rfl,h2,h3⟩:=reps_cons.mp rs
  rw [reps_nil.mp h3]
  obtain⟨a,ys,rfl,s1,s2⟩:=rep_list.mp h2
  rw [s2.ints] at s1
  exact⟨a,ns,rfl,(zj _ _).seq s1,hne,fun M h1 h2=>k (.int M) _ H (.refl fo) (rep_int.mpr rfl) (p M h1 h2)⟩
theorem agx {g:Int->Int->Int} {t:TA} (h:PAd K f t ρ fun xs=>∃ i j,xs=[.dat (.int i),.dat (.int j)]/\P (.int (g i j))):PEd K f (tCB (fun xs H Q=>∃ i j,xs=[.int i,.int j]/\Q (.int (g i j)) H) t) ρ P :=
 adv fun σ H Q e q=>h σ H Q e fun xs vs H' g' r ⟨i,j,ex,p⟩=>by
  subst ex
  refine q _ vs H' g' r ⟨_,rfl,fun vs H Q fo rs k=>?_⟩
  obtain⟨x,r,rfl,h2,h3⟩:=reps_cons.mp rs
  obtain⟨y,r',rfl,h4,h5⟩:=reps_cons.mp h3
  rw [reps_nil.mp h5,rep_int.mp h2,rep_int.mp h4]
  exact⟨i,j,rfl,k _ _ H (.refl fo) (rep_int.mpr rfl) p⟩
theorem agy {g:Int->Int} {t:TA} (h:PAd K f t ρ fun xs=>∃ i,xs=[.dat (.int i)]/\P (.int (g i))):PEd K f (tCB (fun xs H Q=>∃ i,xs=[.int i]/\Q (.int (g i)) H) t) ρ P :=
 adv fun σ H Q e q=>h σ H Q e fun xs vs H' g' r ⟨i,ex,p⟩=>by
  subst ex
  refine q _ vs H' g' r ⟨_,rfl,fun vs H Q fo rs k=>?_⟩
  obtain⟨x,r,rfl,h2,h3⟩:=reps_cons.mp rs
  rw [reps_nil.mp h3,rep_int.mp h2]
  exact⟨i,rfl,k _ _ H (.refl fo) (rep_int.mpr rfl) p⟩
theorem agz {t:TA} (h:PAd K f t ρ fun xs=>(∃ ds,xs=[.dat (.list ds)]/\P (.list ds)) \/ (∃ ds,xs=[.dat (.tuple ds)]/\P (.list ds))) :
  PEd K f (tCB (fun xs H Q=>∃ p ys,xs=[.ref p]/\(SqL K H p ys \/ SqT K H p ys)/\∀ l,H l=none->Q (.ref l) (upd H l (.lst ys))) t) ρ P :=
 adv fun σ H Q e q=>h σ H Q e fun xs vs H' g r p=>by
  rcases p with⟨ds,rfl,p⟩ | ⟨ds,rfl,p⟩
  ·refine q _ vs H' g r ⟨_,rfl,fun vs H Q fo rs k=>?_⟩
   obtain⟨x,r,rfl,h2,h3⟩:=reps_cons.mp rs
   rw [reps_nil.mp h3]
   obtain⟨a,ys,rfl,s1,s2⟩:=rep_list.mp h2
   refine⟨a,ys,rfl,.inl ((zj _ _).seq s1),fun l hn=>?_⟩
   have g2:Goes f H (upd H l (.lst ys)):=.of_same (z4 hn _) fo
   exact k (.list ds) _ _ g2 (rep_list.mpr ⟨l,ys,rfl,.of (zv (fresh_ne fo hn) zB),Reps.mono g2.1 ds ys s2⟩) p
  ·refine q _ vs H' g r ⟨_,rfl,fun vs H Q fo rs k=>?_⟩
   obtain⟨x,r,rfl,h2,h3⟩:=reps_cons.mp rs
   rw [reps_nil.mp h3]
   obtain⟨a,ys,rfl,s1,s2⟩:=rep_tuple.mp h2
   refine⟨a,ys,rfl,.inr ((zj _ _).seqT s1),fun l hn=>?_⟩
   have g2:Goes f H (upd H l (.lst ys)):=.of_same (z4 hn _) fo
   exact k (.list ds) _ _ g2 (rep_list.mpr ⟨l,ys,rfl,.of (zv (fresh_ne fo hn) zB),Reps.mono g2.1 ds ys s2⟩) p
end
section
variable {K:alg} {f:Fx} {ρ:zp} {D:DEnds} {te ta tb:TE} {tt:TT} {ts tu:TS}
theorem acm (p:D.nx ρ):PSd K f ab4 ρ D:=fun σ H E e n _ _ _=>n ρ σ H (.refl e.fd) e p
theorem yH (h:PSd K f ts ρ { D with nx:=fun ρ'=>PSd K f tu ρ' D }):PSd K f (vj ts tu) ρ D:=fun σ H E e n r b c =>
 h σ H { E with nx:=tu E } e (fun ρ' σ' H' g e' p=>p σ' H' E e' (fun ρ'' σ'' H'' g' e'' p'=>n ρ'' σ'' H'' (g.trans g') e'' p') (fun d v H'' g' r' p'=>r d v H'' (g.trans g') r' p') (fun ρ'' σ'' H'' g' e'' p'=>b ρ'' σ'' H'' (g.trans g') e'' p') (fun ρ'' σ'' H'' g' e'' p'=>c ρ'' σ'' H'' (g.trans g') e'' p')) r b c
theorem qB (h:PEd K f te ρ D.rt):PSd K f (ae8 te) ρ D:=fun σ H E e n r b c=>h σ H _ e r
theorem abp (h:PEd K f te ρ fun _=>D.nx ρ):PSd K f (ab5 te) ρ D:=fun σ H E e n r b c=>h σ H _ e fun d v H' g _ p=>n ρ σ H' g (e.mono g) p
theorem agA (h:PTd K f tt ρ fun b=>if b=true then PSd K f ts ρ D else PSd K f tu ρ D):PSd K f (af6 tt ts tu) ρ D:=fun σ H E e n r b c=>h σ H _ e fun k H1 g p=>by
 cases k with
 | true =>
  rw [if_pos rfl] at p ⊢
  exact p σ H1 E (e.mono g) (fun ρ'' σ'' H'' g' e'' p'=>n ρ'' σ'' H'' (g.trans g') e'' p') (fun d v H'' g' r' p'=>r d v H'' (g.trans g') r' p') (fun ρ'' σ'' H'' g' e'' p'=>b ρ'' σ'' H'' (g.trans g') e'' p') (fun ρ'' σ'' H'' g' e'' p'=>c ρ'' σ'' H'' (g.trans g') e'' p')
 | false =>
  rw [if_neg ald] at p ⊢
  exact p σ H1 E (e.mono g) (fun ρ'' σ'' H'' g' e'' p'=>n ρ'' σ'' H'' (g.trans g') e'' p') (fun d v H'' g' r' p'=>r d v H'' (g.trans g') r' p') (fun ρ'' σ'' H'' g' e'' p'=>b ρ'' σ'' H'' (g.trans g') e'' p') (fun ρ'' σ'' H'' g' e'' p'=>c ρ'' σ'' H'' (g.trans g') e'' p')
noncomputable def PGd (K:alg) (f:Fx) (g:TG) (d:PyData) (ρ:zp) (R:zp->Prop):Prop:=∀ (σ:St) (H:Hp) (v:V) (Q:St->Hp->Prop),EnvOk K f ρ σ H->Rep K (hide H f) d v->(∀ ρ' σ' H',Goes f H H'->EnvOk K f ρ' σ' H'->R ρ'->Q σ' H')->g v σ H Q
noncomputable def agB (K:alg) (f:Fx) (g:TGs) (ds:List PyData) (ρ:zp) (R:zp->Prop):Prop:=∀ (σ:St) (H:Hp) (vs:List V) (Q:St->Hp->Prop),EnvOk K f ρ σ H->Reps K (hide H f) ds vs->(∀ ρ' σ' H',Goes f H H'->EnvOk K f ρ' σ' H'->R ρ'->Q σ' H')->g vs σ H Q
theorem zq {i:Nat} {d:PyData} {R:zp->Prop} (h:R (ρ.set i (some (.dat d)))):PGd K f (y7 i) d ρ R:=fun σ H v Q e r q=>q _ _ H (.refl e.fd) (e.set i (x:=.dat d) r) h
theorem yB {R:zp->Prop} (h:R ρ):agB K f akC [] ρ R:=fun σ H vs Q e r q=>⟨reps_nil.mp r,q ρ σ H (.refl e.fd) e h⟩
theorem zD {g:TG} {gs:TGs} {d:PyData} {ds:List PyData} {R:zp->Prop} (h:PGd K f g d ρ fun ρ'=>agB K f gs ds ρ' R):agB K f (ai4 g gs) (d :: ds) ρ R:=fun σ H vs Q e r q=>by
 obtain⟨x,r',rfl,h2,h3⟩:=reps_cons.mp r
 exact⟨x,r',rfl,h σ H x _ e h2 fun ρ' σ' H' g' e' p=>p σ' H' r' Q e' (Reps.mono g'.1 ds r' h3) fun ρ'' σ'' H'' g'' e'' p'=>q ρ'' σ'' H'' (g'.trans g'') e'' p'⟩
theorem jC {n:Nat} {gs:TGs} {ds:List PyData} {R:zp->Prop} (hn:ds.length=n) (h:agB K f gs ds ρ R):PGd K f (ajy K n gs) (.tuple ds) ρ R:=fun σ H v Q e r q=>by
 obtain⟨a,xs,rfl,h1,h2⟩:=rep_tuple.mp r
 exact⟨a,xs,rfl,(zj _ _).seqT h1,by rw [h2.length];exact hn,h σ H xs Q e h2 q⟩
theorem yo {g:TG} (h:PEd K f te ρ fun d=>PGd K f g d ρ D.nx):PSd K f (jJ te g) ρ D:=fun σ H E e n r b c =>
 h σ H _ e fun d v H1 g1 r1 p1=>p1 σ H1 v _ (e.mono g1) r1 fun ρ' σ' H' g' e' p'=>n ρ' σ' H' (g1.trans g') e' p'
end
section
variable {K:alg} {f:Fx} {ρ:zp} {D:DEnds} {te ta tb:TE} {tt:TT} {ts tu:TS} {g:TG}
theorem adx {t:TA} (h:PAd K f t ρ fun xs=>∃ ds,xs=[.dat (.list ds)]/\∃ J:Nat->zp->Prop,J 0 ρ /\
   (∀ (i:Nat) d ρ',ds[i]?=some d->J i ρ'->PGd K f g (.tuple [.int i,d]) ρ' fun ρ2=>PSd K f ts ρ2 { D with nx:=J (i+1),ct:=J (i+1),bk:=D.nx })/\∀ ρ',J ds.length ρ'->D.nx ρ') :
  PSd K f (afa (agl K t) g ts) ρ D:=fun σ H E e n r b c=>h σ H _ e fun xs vs H1 g1 r1 ⟨ds,ex,J,j0,js,jd⟩=>by
 subst ex
 cases r1 with
 | cons rx r' =>
  cases r'
  obtain⟨a,xs,rfl,h1,h2⟩:=rep_list.mp rx
  have hl:=h2.length
  refine⟨a,rfl,⟨xs,(zj _ _).seq h1⟩,agm (K:=K) (a:=a) (xs:=xs) (fun i σ' H'=>∃ ρ',EnvOk K f ρ' σ' H'/\Goes f H H'/\Goes f H1 H'/\J i ρ') ⟨ρ,e.mono g1,g1,.refl g1.2,j0⟩ (fun i σ' H' _ ⟨ρ',e',g',g1',p⟩=>(zj _ _).seq (g1'.1.seq h1)) (fun i y σ' H' tp hy ⟨ρ',e',g',g1',p⟩ hn=>?_) fun σ' H' ⟨ρ',e',g',_,p⟩=>n ρ' σ' H' g' e' (jd ρ' (by rw [<-hl];exact p))⟩
  have hi:i<ds.length:=by rw [<-hl];exact (alf.mp hy).1
  obtain⟨z,hz,rz⟩:=h2.get (alb hi)
  rw [hy] at hz
  cases hz
  have gn:Goes f H' (upd H' tp (.tup [.int i,y])):=.of_same (z4 hn _) e'.fd
  have rt:Rep K (hide (upd H' tp (.tup [.int i,y])) f) (.tuple [.int i,ds[i]]) (.ref tp):=rep_tuple.mpr ⟨tp,_,rfl,.of (zv (fresh_ne e'.fd hn) zB),.cons' (rep_int.mpr rfl) (.cons' (Rep.mono gn.1 _ _ (Rep.mono g1'.1 _ _ rz)) .nil')⟩
  refine js i _ ρ' (alb hi) p σ' _ _ _ (e'.mono gn) rt fun ρ2 σ2 H2 g2' e2 p2=>?_
  have g2:=gn.trans g2'
  exact p2 σ2 H2 _ e2 (fun ρ3 σ3 H3 g3 e3 p3=>⟨ρ3,e3,g'.trans (g2.trans g3),g1'.trans (g2.trans g3),p3⟩) (fun d v H3 g3 r3 p3=>r d v H3 (g'.trans (g2.trans g3)) r3 p3) (fun ρ3 σ3 H3 g3 e3 p3=>n ρ3 σ3 H3 (g'.trans (g2.trans g3)) e3 p3) (fun ρ3 σ3 H3 g3 e3 p3=>⟨ρ3,e3,g'.trans (g2.trans g3),g1'.trans (g2.trans g3),p3⟩)
end
noncomputable def frD (fr:List Nat) (ρ:zp):zp:=fr.map fun j=>(ρ[j]?).getD none
noncomputable def vn (own:Nat) (fr:List Nat) (ρ:zp):zp:=ant own none++frD fr ρ
noncomputable abbrev Fx.with (f:Fx) (D:Addr):Fx:=⟨f.f,D :: f.M⟩
section
variable {K:alg} {f:Fx} {ρ:zp} {σ:St} {H H':Hp} {D:Addr} {o:HO}
theorem afn {own:Nat} {fr:List Nat} (e:EnvOk K f ρ σ H):EnvOk K f (vn own fr ρ) (yS own fr σ) H:=by
 refine⟨by unfold vn yS frD;simp,fun i x h=>?_,e.fd⟩
 unfold vn frD at h
 unfold yS
 by_cases hi:i<own
 ·rw [alk (by simpa using hi),ane] at h
  split at h <;> cases h
 ·rw [alj (by simpa using hi)] at h ⊢
  simp only [anY,alv] at h ⊢
  cases hj:fr[i - own]? with
  | none=>rw [hj] at h;cases h
  | some j =>
   rw [hj] at h
   have h':(ρ[j]?).getD none=some x:=Option.some.inj h
   have hρ:ρ[j]?=some (some x):=by
    cases q:ρ[j]? with
    | none=>rw [q] at h';cases h'
    | some w=>rw [q] at h';exact congrArg some h'
   obtain⟨v,h1,h2⟩:=e.get j x hρ
   exact⟨v,by simp [h1],h2⟩
theorem yz:hide (upd H D o) (f.with D)=hide H (f.with D):=by
 funext b
 unfold hide
 by_cases hb:f.f=some b \/ b∈D :: f.M
 ·rw [if_pos hb,if_pos hb]
 ·rw [if_neg hb,if_neg hb]
  have:b≠D:=fun z=>hb (.inr (z▸als))
  exact zx this
theorem same_with:Same (hide H (f.with D)) (hide H f):=fun b o h=>by
 obtain⟨h1,h2⟩:=zG h
 exact zv (fun z=>h1 (z.elim .inl fun z=>.inr (alm _ z))) h2
theorem qR (hn:H D=none):Same (hide H f) (hide (upd H D o) (f.with D)):=fun b u h=>by
 obtain⟨h1,h2⟩:=zG h
 have hb:b≠D:=zH h2 hn
 exact zv (fun z=>z.elim (fun z=>h1 (.inl z)) fun z=>(alp.mp z).elim hb fun z=>h1 (.inr z)) (by rw [zx hb];exact h2)
theorem ajQ (h:FOk f H) (hn:H D=none):FOk (f.with D) (upd H D o) :=
 ⟨fun p e=>let⟨a,b,h1,h2⟩:=h.fd p e;⟨a,b,by rw [zx (zH h1 hn)];exact h1,h2⟩,fun b hb=>by
  rcases alp.mp hb with rfl | hb
  ·exact⟨_,zB⟩
  ·obtain⟨o',h1⟩:=h.mm b hb
   exact⟨o',by rw [zx (zH h1 hn)];exact h1⟩,fun p e hp=>by
  rcases alp.mp hp with rfl | hp
  ·exact fresh_ne h hn (.inl e)
  ·exact h.nm p e hp⟩
theorem ajR (e:EnvOk K f ρ σ H) (hn:H D=none):EnvOk K (f.with D) ρ σ (upd H D o) :=
 ⟨e.len,fun i x h=>let⟨v,h1,h2⟩:=e.get i x h;⟨v,h1,by
  cases x with
  | dat d=>exact Rep.mono (qR hn) d v h2
  | feed=>exact h2
  | own k =>
   obtain⟨p,h3,h4⟩:=h2
   refine⟨p,?_,h4⟩
   show (D :: f.M).reverse[k]?=some p
   rw [amH,alk (alf.mp h3).1]
   exact h3
  | exc C =>
   obtain⟨a,h3,h4⟩:=h2
   exact⟨a,h3,qR hn _ _ h4⟩
  | mon φ=>exact fun H' s=>h2 H' ((qR hn).trans s)⟩,ajQ e.fd hn⟩
theorem ah0 (hD:f.f≠some D) (e:EnvOk K (f.with D) ρ σ H):EnvOk K (f.with D) ρ σ (upd H D o) :=
 ⟨e.len,fun i x h=>let⟨v,h1,h2⟩:=e.get i x h;⟨v,h1,by
  cases x with
  | dat d =>
   have h2':Rep K (hide H (f.with D)) d v:=h2
   show Rep K (hide (upd H D o) (f.with D)) d v
   rw [yz];exact h2'
  | feed=>exact h2
  | own k=>exact h2
  | exc C =>
   obtain⟨a,h3,h4⟩:=h2
   refine⟨a,h3,?_⟩
   rw [yz]
   exact h4
  | mon φ =>
   intro H' s
   rw [yz] at s
   exact h2 H' s⟩,⟨fun p ep=>let⟨a,b,h1,h2⟩:=e.fd.fd p ep;⟨a,b,by rw [zx (fun z=>hD (by rw [<-z];exact ep))];exact h1,h2⟩,fun b hb=>by
   by_cases hb':b=D
   ·subst hb';exact⟨_,zB⟩
   ·rw [zx hb'];exact e.fd.mm b hb,e.fd.nm⟩⟩
end
section
variable {K:alg} {f:Fx} {ρ:zp} {P:PyData->Prop} {te tl:TE} {tt:TT} {g:TG} {own:Nat} {fr:List Nat}
structure CSt (K:alg) (f:Fx) (D:Addr) (H2:Hp) (ρ':zp) (es:List PyData) (σ:St) (H:Hp):Prop where
 env:EnvOk K (f.with D) ρ' σ H
 sm:Same (hide H2 (f.with D)) (hide H (f.with D))
 kp:∀ b∈f.M,H b=H2 b
 lst:∃ vs,H D=some (.lst vs)/\Reps K (hide H (f.with D)) es vs
theorem CSt.go {D:Addr} {H2 H H':Hp} {ρ':zp} {es:List PyData} {σ:St} (c:CSt K f D H2 ρ' es σ H) (gg:Goes (f.with D) H H') {ρ2:zp} {σ2:St} (e2:EnvOk K (f.with D) ρ2 σ2 H'):CSt K f D H2 ρ2 es σ2 H' :=
 ⟨e2,c.sm.trans gg.sm,fun b hb=>(gg.kp b (alm _ hb)).trans (c.kp b hb),let⟨vs,h1,h2⟩:=c.lst;⟨vs,(gg.kp D als).trans h1,Reps.mono gg.sm es vs h2⟩⟩
theorem CSt.put {D:Addr} {H2 H:Hp} {ρ':zp} {es:List PyData} {σ:St} {d:PyData} {v:V} {vs:List V} (hD:f.f≠some D) (hM:D∉f.M) (c:CSt K f D H2 ρ' es σ H) (h1:H D=some (.lst vs)) (h2:Reps K (hide H (f.with D)) es vs) (r:Rep K (hide H (f.with D)) d v) :
  CSt K f D H2 ρ' (es++[d]) σ (upd H D (.lst (vs++[v]))) :=
 ⟨ah0 hD c.env,by rw [yz];exact c.sm,fun b hb=>(zx (fun (z:b=D)=>hM (z▸hb))).trans (c.kp b hb),⟨_,zB,by rw [yz];exact h2.snoc r⟩⟩
theorem afo {D:Addr} {H2 H:Hp} {ρ':zp} {es:List PyData} {σ:St} {d:PyData} {v:V} {W:St->Hp->Prop} {R:zp->List PyData->Prop} (hD:f.f≠some D) (hM:D∉f.M) (c:CSt K f D H2 ρ' es σ H) (hl:es.length<1000) (r:Rep K (hide H (f.with D)) d v)
  (h:PGd K (f.with D) g d ρ' fun ρ2=>PTd K (f.with D) tt ρ2 fun b=>if b=true then PEd K (f.with D) te ρ2 fun e=>R ρ2 (es++[e]) else R ρ2 es)
  (hW:∀ ρ2 es2 σ2 H',CSt K f D H2 ρ2 es2 σ2 H'->R ρ2 es2->W σ2 H') :
  g v σ H fun σ2 H3=>tt σ2 H3 fun b H4=>if b=true then qA D te σ2 H4 W else W σ2 H4:=by
 refine h σ H v _ c.env r fun ρ2 σ2 H3 g3 e3 p3=>?_
 have c3:=c.go g3 e3
 refine p3 σ2 H3 _ e3 fun b H4 g4 p4=>?_
 have c4:=c3.go g4 (e3.mono g4)
 cases b with
 | false =>
  rw [if_neg ald] at p4 ⊢
  exact hW _ _ _ _ c4 p4
 | true =>
  rw [if_pos rfl] at p4 ⊢
  refine p4 σ2 H4 _ (e3.mono g4) fun e u H5 g5 r5 p5=>?_
  have c5:=c4.go g5 ((e3.mono g4).mono g5)
  obtain⟨vs,h1,h2⟩:=c5.lst
  exact⟨vs,h1,ye (by rw [h2.length];omega),hW _ _ _ _ (c5.put hD hM h1 h2 r5) p5⟩
theorem acn {D:Addr} {H1 H:Hp} {ρ':zp} {es:List PyData} {σ σ':St} (hn:H1 D=none) (fo:FOk f H1) (c:CSt K f D (upd H1 D (.lst [])) ρ' es σ H):Goes f H1 H/\Rep K (hide H f) (.list es) (.ref D):=by
 obtain⟨vs,h1,h2⟩:=c.lst
 have nD:=fresh_ne fo hn
 refine⟨⟨((qR hn).trans c.sm).trans same_with,⟨c.env.fd.fd,fun b hb=>c.env.fd.mm b (alm _ hb),fun p e hp=>c.env.fd.nm p e (alm _ hp)⟩,fun b hb=>?_⟩,rep_list.mpr ⟨D,vs,rfl,.of (zv nD h1),Reps.mono same_with es vs h2⟩⟩
 rw [c.kp b hb,zx]
 obtain⟨o,h3⟩:=fo.mm b hb
 exact zH h3 hn
theorem aag {D:Addr} {H1:Hp} {σ:St} (hn:H1 D=none) (e:EnvOk K f ρ σ H1):CSt K f D (upd H1 D (.lst [])) (vn own fr ρ) [] (yS own fr σ) (upd H1 D (.lst [])) :=
 ⟨ajR (afn e) hn,Same.refl _,fun _ _=>rfl,⟨[],zB,.nil'⟩⟩
theorem ah1 {t:TA} (h:PAd K f t ρ fun xs=>∃ j:Int,xs=[.dat (.int j)]/\j<=1000/\-1000<=j/\∃ R:Nat->zp->List PyData->Prop,R 0 (vn own fr ρ) [] /\
   (∀ D (i:Nat) ρ' es,(i:Int)<j->R i ρ' es->PGd K (f.with D) g (.int i) ρ' fun ρ2=>PTd K (f.with D) tt ρ2 fun b=>if b=true then PEd K (f.with D) te ρ2 fun e=>R (i+1) ρ2 (es++[e]) else R (i+1) ρ2 es) /\
   (∀ i ρ' es,R i ρ' es->es.length<=i)/\∀ ρ' es,R j.toNat ρ' es->P (.list es)) :
  PEd K f (jX (ad3 t) own fr g tt fun D=>qA D te) ρ P:=fun σ H Q e q=>h σ H _ e fun xs vs H1 g1 r1 ⟨j,ex,b1,b2,R,r0,rs,rl,re⟩=>by
 subst ex
 cases r1 with
 | @cons _ v0 _ _ rx r' =>
  cases r'
  have rx':Rep K (hide H1 f) (.int j) v0:=rx
  refine⟨j,by rw [rep_int.mp rx'],by omega,by omega,fun D hn=>?_⟩
  have nD:=fresh_ne g1.2 hn
  have hD:f.f≠some D:=fun z=>nD (.inl z)
  have hM:D∉f.M:=fun z=>nD (.inr z)
  have e1:=e.mono g1
  refine⟨fun i m σ' H'=>∃ ρ' es,CSt K f D (upd H1 D (.lst [])) ρ' es σ' H'/\R i ρ' es/\i<=j.toNat/\m+i=j.toNat,⟨j.toNat,_,[],aag hn e1,r0,alD _,rfl⟩,fun i m σ' H' ⟨ρ',es,c,p,hi,hm⟩=>?_⟩
  by_cases hlt:i<j.toNat
  ·refine .inr ⟨hlt,fun x H3 hy=>?_⟩
   obtain⟨rfl,rfl⟩:=hy
   have hz:(0:Int)+(i:Int)=(i:Int):=Int.zero_add _
   rw [hz]
   refine afo (R:=R (i+1)) hD hM c (by have:=rl i ρ' es p;omega) ((rep_int (K:=K)).mpr rfl) (rs D i ρ' es (by omega) p) fun ρ2 es2 σ2 H4 c2 p2=>?_
   exact⟨m - 1,by omega,ρ2,es2,c2,p2,by omega,by omega⟩
  ·have ei:i=j.toNat:=by omega
   subst ei
   obtain⟨ge,rep⟩:=acn (σ':=σ') hn g1.2 c
   exact .inl ⟨ali _,q _ _ H' (g1.trans ge) rep (re ρ' es p)⟩
theorem aco {t:TA} (h:PAd K f t ρ fun xs=>∃ j:Int,xs=[.dat (.int j)]/\j<=1000/\-1000<=j/\∃ R:Nat->PyData->Prop,
   (∀ D (i:Nat),(i:Int)<j->PEd K (f.with D) te (some (.dat (.int i)) :: frD fr ρ) (R i))/\∀ es:List PyData,es.length=j.toNat->(∀ (i:Nat) e,es[i]?=some e->R i e)->P (.list es)) :
  PEd K f (jX (ad3 t) 1 fr (y7 0) ahW fun D=>qA D te) ρ P :=
 ah1 fun σ H Q e q=>h σ H Q e fun xs vs H' g' r' ⟨j,ex,b1,b2,R,rs,re⟩=>by
  refine q xs vs H' g' r' ⟨j,ex,b1,b2,fun i ρ' es=>(∃ x,ρ'=x :: frD fr ρ)/\es.length=i/\∀ (k:Nat) e,es[k]?=some e->R k e,⟨⟨none,rfl⟩,rfl,fun k e h=>by simp at h⟩,fun D i ρ' es hi p=>?_,fun i ρ' es p=>ani p.2.1,fun ρ' es p=>re es p.2.1 p.2.2⟩
  obtain⟨⟨x,rfl⟩,hl,hp⟩:=p
  refine zq ?_
  intro σ H Q e q
  refine q true H (.refl e.fd) ?_
  dsimp only
  rw [if_pos rfl]
  refine (rs D i hi).imp fun d hd=>⟨⟨_,rfl⟩,by rw [alr,hl];rfl,fun k e hk=>?_⟩
  by_cases hkl:k<es.length
  ·rw [alk hkl] at hk;exact hp k e hk
  ·rw [alj (by omega)] at hk
   have hk0:k - es.length=0:=by
    have:=(alf.mp hk).1
    simp at this;omega
   rw [hk0] at hk
   cases hk
   have:k=i:=by omega
   subst this
   exact hd
end
section
variable {K:alg} {f:Fx} {ρ:zp} {D:DEnds} {te:TE} {i:Nat}
theorem acp {σ:St} {H:Hp} {p:Addr} {a b:Int} (e:EnvOk K f ρ σ H) (ef:f.f=some p) (h0:0<=a) (h1:0<=b) (h2:b<2147483647):Goes f H (upd H p (.lst [.int a,.int b])) :=
 have hM:=e.fd.nm p ef
 ⟨fun x o h=>by
  obtain⟨n,hx⟩:=zG h
  exact zv n (by rw [zx (fun z=>n (.inl (by rw [z];exact ef)))];exact hx),
 ⟨fun q eq=>by
   rw [ef] at eq;cases eq
   exact⟨a,b,zB,h0,h1,h2⟩,fun x hx=>by
   by_cases hxp:x=p
   ·subst hxp;exact absurd hx hM
   ·rw [zx hxp];exact e.fd.mm x hx,e.fd.nm⟩,
fun x hx=>zx (fun z=>hM (z▸hx))⟩
theorem aef (hi:ρ[i]?=some (some .feed)) (h:PEd K f te ρ fun d=>∃ a:Int,d=.int a/\0<=a/\D.nx ρ):PSd K f (jJ te (ab7 (yw i) (tC (.int 0)) aac)) ρ D:=fun σ H E e n r b c=>h σ H _ e fun d v H1 g1 r1 ⟨a,ed,h0,p⟩=>by
 subst ed
 obtain⟨u,h1,q,ef,eu⟩:=e.get i _ hi
 obtain⟨a',b',hf,c1,c2,c3⟩:=g1.2.fd q ef
 refine⟨u,h1,q,_,0,0,eu,rfl,hf,rfl,?_⟩
 rw [rep_int.mp r1]
 have g2:Goes f H1 (upd H1 q (.lst [.int a,.int b'])):=acp (e.mono g1) ef h0 c2 c3
 exact n ρ σ _ (g1.trans g2) ((e.mono g1).mono g2) p
theorem aeg (hi:ρ[i]?=some (some .feed)) (h:PEd K f te ρ fun d=>∃ a:Int,d=.int a/\0<=a/\a<2147483647/\D.nx ρ):PSd K f (jJ te (ab7 (yw i) (tC (.int 1)) aac)) ρ D:=fun σ H E e n r b c=>h σ H _ e fun d v H1 g1 r1 ⟨a,ed,h0,h0',p⟩=>by
 subst ed
 obtain⟨u,h1,q,ef,eu⟩:=e.get i _ hi
 obtain⟨a',b',hf,c1,c2,c3⟩:=g1.2.fd q ef
 refine⟨u,h1,q,_,1,1,eu,rfl,hf,rfl,?_⟩
 rw [rep_int.mp r1]
 have g2:Goes f H1 (upd H1 q (.lst [.int a',.int a])):=acp (e.mono g1) ef c1 h0 h0'
 exact n ρ σ _ (g1.trans g2) ((e.mono g1).mono g2) p
end
theorem qS {X:Cx} {x:Str} {i:Int} {t:Tok} {pos:Pos} (hg:Gl X x) (hm:X.mg x=some (.int i t)) (hd:(x == ("__debug__":Str))=false:=by decide):PE X (.Name x pos) (tC (.int i)):=ahN hg hm ⟨t,rfl⟩ hd
noncomputable def j8 (N:List Str) (xs:List DV):zp:=xs.map some++ant (N.length - xs.length) none
theorem qo {K:alg} {f:Fx} {H:Hp} {N:List Str} {xs:List DV} {vs:List V} (r:RepVs K f H xs vs) (fo:FOk f H):EnvOk K f (j8 N xs) (start N vs) H:=by
 have hl:=r.length
 refine⟨by unfold j8 start;simp [hl],fun i x h=>?_,fo⟩
 unfold j8 at h
 unfold start
 have get:∀ {xs:List DV} {vs:List V} {i:Nat} {x:DV},RepVs K f H xs vs->xs[i]?=some x->∃ v,vs[i]?=some v/\RepV K f H x v:=by
  intro xs vs i x r
  induction r generalizing i with
  | nil=>intro h;simp at h
  | cons r1 r2 ih =>
   intro h
   cases i with
   | zero=>simp at h;subst h;exact⟨_,rfl,r1⟩
   | succ i=>simp at h;obtain⟨v,h1,h2⟩:=ih h;exact⟨v,by simpa using h1,h2⟩
 by_cases hi:i<xs.length
 ·rw [alk (by simpa using hi),alv] at h
  cases q:xs[i]? with
  | none=>rw [q] at h;cases h
  | some y =>
   rw [q] at h
   cases h
   obtain⟨v,h1,h2⟩:=get r q
   exact⟨v,by rw [alk (by simp;omega),alv,h1];rfl,h2⟩
 ·rw [alj (by simpa using hi),ane] at h
  split at h <;> cases h
structure Def (K:alg) (mg:Str->Option Value) (x:Str) (st:Stmt) (ps:List Str):Prop where
 ex:∃ (f:Addr) (fd:FuncData),Fun K x x st f fd/\Binds K fd ps []/\mg x=some (.ref f)
structure FnIn (P:Program) (w:World) (K:alg) (mg:Str->Option Value) (base:Heap) (k:Nat) (x:Str) (ps:List Str) (sp:Sp):Prop where
 ex:∃ (f:Addr) (fd:FuncData),FnOk P w K mg base CX0 k f fd ps sp/\mg x=some (.ref f)/\amr K (.ref f)=true/\Binds K fd ps []
section
variable {P:Program} {w:World} {K:alg} {mg:Str->Option Value} {base:Heap} {j k n:Nat} {x:Str} {st:Stmt} {ps N:List Str} {γ:Type} {pre:γ->List DV->Prop} {post:γ->PyData->Prop} {sp:Sp}
theorem FnIn.mono (h:FnIn P w K mg base j x ps sp) (hk:j<=k):FnIn P w K mg base k x ps sp :=
 let⟨f,fd,a,b,c,d⟩:=h.ex;⟨f,fd,a.mono hk,b,c,d⟩
theorem Def.ok (F:Def K mg x st ps) (S:FnScope N ps (zi st)) (hn:ps.length=n)
  (h:∀ (fa:Addr) (cdv:Value) (A:Around) (outer:List Env) (s:Shared) (H:Hp) (E:XK),Room k (A.deeper (envOfC x (zi st) s.heap.objs.size fa cdv)) ->
   ∃ t,PSs (yj CX0 P w K mg base N x (zi st) fa cdv A outer s H E).nox (yl st) t/\∀ (f:Fx) (xs:List DV) (c:γ),xs.length=n->pre c xs->PSd K f t (j8 N xs) { nx:=fun _=>post c .none,rt:=post c }) :
  FnIn P w K mg base (k+1) x ps (spD K n pre post):=by
 obtain⟨fa,fd,F1,F2,F3⟩:=F.ex
 refine⟨fa,fd,F1.ok S (fun vs H Q E h=>?_) (fun cdv A outer s H vs Q E hr hs=>?_),F3,F1.kp,F2⟩
 ·obtain⟨f,xs,c,r,hl,_⟩:=h
  rw [r.length,hl,hn]
 ·obtain⟨f,xs,c,r,hl,fo,hp,q⟩:=hs
  obtain⟨t,h1,h2⟩:=h fa cdv A outer s H E hr
  exact⟨t,h1,h2 f xs c hl hp (start N vs) H _ (qo r fo) (fun _ _ H' g _ p=>q .none _ H' g (rep_none.mpr rfl) p) (fun d v H' g r p=>q d v H' g r p) (fun _ _ _ _ _ z=>z.elim) (fun _ _ _ _ _ z=>z.elim)⟩
theorem Def.raw (F:Def K mg x st ps) (S:FnScope N ps (zi st)) (len:∀ vs H Q E,sp vs H Q E->vs.length=ps.length)
  (h:∀ (fa:Addr) (cdv:Value) (A:Around) (outer:List Env) (s:Shared) (H:Hp) (vs:List V) (Q:VK) (E:XK),Room k (A.deeper (envOfC x (zi st) s.heap.objs.size fa cdv))->sp vs H Q E ->
   ∃ t,PSs (yj CX0 P w K mg base N x (zi st) fa cdv A outer s H E).nox (yl st) t/\t { nx:=fun _ H'=>Q .non H',rt:=Q } (start N vs) H) :
  FnIn P w K mg base (k+1) x ps sp:=by
 obtain⟨fa,fd,F1,F2,F3⟩:=F.ex
 exact⟨fa,fd,F1.ok S len (fun cdv A outer s H vs Q E hr hs=>h fa cdv A outer s H vs Q E hr hs),F3,F1.kp,F2⟩
theorem zg {X:Cx} {e:Expr} {es:List Expr} {t:TA} {p pos:Pos} (G:FnIn X.prog X.w X.K X.mg X.base k x ps sp) (hr:Room k X.A) (hg:Gl X x) (ha:PA X (e :: es) t) (hdb:(x == ("__debug__":Str))=false:=by decide)
  (he:starEach (e :: es) X.env=(false,eval e X.env) :: starEach es X.env:=by rfl) (hpl:(backTo pos (starEach es X.env)).any (·.1)=false:=by rfl):PE X (.Call (.Name x p) (e :: es) [] pos) (ab9 sp [] E0 t):=by
 obtain⟨f,fd,a,b,c,d⟩:=G.ex
 exact ahU a hr hg b c d .nil akG ha hdb he hpl
end
section
variable {K:alg} {f:Fx} {ρ:zp} {σ:St} {H:Hp} {E:Ends} {ts tu:TS} {D:DEnds}
theorem agC (h:PSd K f ts ρ D) (e:EnvOk K f ρ σ H) (hn:∀ ρ' σ' H',Goes f H H'->EnvOk K f ρ' σ' H'->D.nx ρ'->tu E σ' H') (hr:∀ d v H',Goes f H H'->Rep K (hide H' f) d v->D.rt d->E.rt v H') (hb:∀ ρ,¬ D.bk ρ) (hc:∀ ρ,¬ D.ct ρ):vj ts tu E σ H :=
 h σ H { E with nx:=tu E } e hn hr (fun ρ' _ _ _ _ p=>(hb ρ' p).elim) (fun ρ' _ _ _ _ p=>(hc ρ' p).elim)
theorem agD {ta:TA} {Q:VK} {R:List PyData->Prop} (h:PAd K f ta ρ fun xs=>∃ ds,jN xs=some ds/\ds.length<=1000/\R ds) (e:EnvOk K f ρ σ H)
  (q:∀ p ds vs H1,Goes f H H1->H1 p=none->Reps K (hide H1 f) ds vs->R ds->Q (.ref p) (upd H1 p (.lst vs))):agg ta σ H Q :=
 h σ H _ e fun xs vs H1 g1 r1 ⟨ds,ea,hl,p⟩=>by
  have rs:=qm r1 ea
  exact⟨by rw [rs.length];exact amM (ye hl),fun l hn=>q l ds vs H1 g1 hn rs p⟩
end
section
variable {K:alg} {f:Fx} {ρ:zp}
theorem Goes.free {H H':Hp} {p:Addr} (g:Goes f H H') (fo:FOk f H) (h:H' p=none):H p=none:=by
 cases q:H p with
 | none=>rfl
 | some o =>
  by_cases hh:f.f=some p \/ p∈f.M
  ·rcases hh with hh | hh
   ·obtain⟨a,b,h1,_⟩:=g.ok.fd p hh
    rw [h] at h1;cases h1
   ·rw [g.kp p hh,q] at h;cases h
  ·have:=zG (g.sm p o (zv hh q))
   rw [h] at this;cases this.2
noncomputable def PEdL (K:alg) (f:Fx) (te:TE) (ρ:zp) (P:List PyData->Prop):Prop:=∀ (σ:St) (H:Hp) (Q:VK),EnvOk K f ρ σ H ->
 (∀ es D vs H',Goes f H H'->H D=none->H' D=some (.lst vs)->Reps K (hide H' f) es vs->P es->Q (.ref D) H')->te σ H Q
theorem PEdL.ped {te:TE} {P:PyData->Prop} (h:PEdL K f te ρ fun es=>P (.list es)):PEd K f te ρ P:=fun σ H Q e q=>h σ H Q e fun es D vs H' g n h1 r p =>
 q (.list es) _ H' g (rep_list.mpr ⟨D,vs,rfl,.of (zv (fresh_ne e.fd n) h1),r⟩) p
end
structure TabAt (H:Hp) (a:Addr) (as:List Addr) (rows:List (List Int)):Prop where
 top:H a=some (.lst (as.map .ref))
 nd:(a :: as).Nodup
 len:as.length=rows.length
 row:∀ (i:Nat) x r,as[i]?=some x->rows[i]?=some r->H x=some (.lst (r.map .int))
noncomputable def ajS (K:alg):List V->Hp->VK->Prop:=fun xs H Q=>∃ x n b,xs=[x,.ty n]/\((∃ a ys,x=.ref a/\SqL K H a ys/\anc K (.type "list") (.type n)=some b) \/ (∃ a ys,x=.ref a/\SqT K H a ys/\anc K (.type "tuple") (.type n)=some b) \/ ∃ t,TyOf K H x t/\anc K t (.type n)=some b)/\Q (.bl b) H
theorem agE {X:Cx}:yg X (.builtin "isinstance") (ajS X.K):=by
 intro pins s σ H xs us Q I r h
 obtain⟨x,n,b,rfl,hx,q⟩:=h
 obtain⟨u,w',rfl,rx,rn⟩:=vals2 r
 cases rn
 rcases hx with⟨a,ys,rfl,hq,hk⟩ | ⟨a,ys,rfl,hq,hk⟩ | ⟨t,ty,hk⟩
 ·cases rx
  obtain⟨its,_,p,_⟩:=I.list hq
  obtain⟨o,ho,hc,_⟩:=p.isList
  exact amd aoF I.kIn ⟨o,ho,hc⟩ hk (fun z=>nomatch z) fun tk=>⟨.bl b,H,I.tok tk,rfl,q⟩
 ·cases rx
  obtain⟨its,_,p,_⟩:=I.tuple hq
  obtain⟨o,ho,hc,_⟩:=p
  exact amd PySem.W.kitx_tuple I.kIn ⟨o,ho,hc⟩ hk (fun z=>nomatch z) fun tk=>⟨.bl b,H,I.tok tk,rfl,q⟩
 ·exact afe I rx ty hk fun tk=>⟨.bl b,H,I.tok tk,rfl,q⟩
section
variable {K:alg} {f:Fx} {ρ:zp} {P:PyData->Prop} {te ta tb:TE}
theorem akI {n:String} {b:Bool} (hk:anc K (.type "list") (.type n)=some b) (h:PEd K f te ρ fun d=>∃ ds,d=.list ds/\P (.bool b)):PEd K f (tCB (ajS K) (yx te (yx (tC (.ty n)) jZ))) ρ P:=fun σ H Q e q=>h σ H _ e fun d v H1 g r ⟨ds,ed,p⟩=>by
 subst ed
 obtain⟨a,xs,rfl,s1,_⟩:=rep_list.mp r
 exact⟨_,n,b,rfl,.inl ⟨a,xs,rfl,(zj _ _).seq s1,hk⟩,q _ _ H1 g (rep_bool.mpr rfl) p⟩
end
section
variable {X:Cx} {K:alg}
theorem zw (hK:X.K=K):IxR X (afg K):=hK▸ahV
theorem qq (hK:X.K=K):IxR X (ajH K):=hK▸ajI
theorem zT (hK:X.K=K):yg X (.builtin "len") (fun xs H Q=>∃ p ys,xs=[.ref p]/\(SqL K H p ys \/ SqT K H p ys)/\Q (.int ys.length) H):=hK▸abk
theorem qJ (hK:X.K=K):yg X (.type "list") (fun xs H Q=>∃ p ys,xs=[.ref p]/\(SqL K H p ys \/ SqT K H p ys)/\∀ l,H l=none->Q (.ref l) (upd H l (.lst ys))):=hK▸abl
theorem acq (hK:X.K=K):yg X (.type "tuple") (fun xs H Q=>∃ p ys,xs=[.ref p]/\((SqL K H p ys/\∀ l,H l=none->Q (.ref l) (upd H l (.tup ys))) \/ (SqT K H p ys/\Q (.ref p) H))):=hK▸aaD
theorem afp (hK:X.K=K) (hc:X.calm=true):yg X (.builtin "min") (fun xs H Q=>∃ a ns,xs=[.ref a]/\SqL K H a (ns.map V.int)/\ns≠[]/\∀ M,M∈ns->(∀ b∈ns,M<=b)->Q (.int M) H):=hK▸afk hc
theorem afq (hK:X.K=K) (hc:X.calm=true):yg X (.builtin "max") (fun xs H Q=>∃ a ns,xs=[.ref a]/\SqL K H a (ns.map V.int)/\ns≠[]/\∀ M,M∈ns->(∀ b∈ns,b<=M)->Q (.int M) H):=hK▸afl hc
theorem ady (hK:X.K=K) (hu:X.A.units+64<cLine):OpR X (compareOp .Eq) (agn K false):=hK▸ajM hu
theorem jO (hK:X.K=K) (hu:X.A.units+64<cLine):OpR X (compareOp .NotEq) (agn K true):=hK▸ajN hu
theorem afr (hK:X.K=K):yg X (.builtin "isinstance") (ajS K):=hK▸agE
variable {tg l e st:Expr} {tl te ts:TE} {ta:TA} {p pos p2:Pos}
theorem yk (hK:X.K=K) (hl:PE X l tl):PI X tg l (ab8 K tl):=hK▸ahQ hl
theorem aeh (hK:X.K=K) (hl:PE X l tl):PI X tg l (ajA K tl):=hK▸ajB hl
theorem agF {es:List Expr} {k:Nat} {tpos:Pos} (hK:X.K=K) (hg:Gl X "enumerate") (hm:X.mg "enumerate"=none) (ha:PA X [l] ta) (hs:starEach [l] X.env=[(false,eval l X.env)]:=by rfl):PI X (.Tuple es k tpos) (.Call (.Name "enumerate" p) [l] [] pos) (agl K ta):=hK▸ahX hg hm ha hs
theorem yA (hK:X.K=K) (ha:PE X e te) (he:∀ whole,isTrue e X.env whole=(do let v <- whole;standAt e.pos;holding [v] (truthy v))):PT X e (ajO K te):=hK▸ajP ha he
theorem yc {es:List Expr} {k:Nat} {t:TGs} {n:Nat} (hK:X.K=K) (hc:X.calm=true) (h:PGs X es t) (hn:(assignEach es X.env).length=n:=by rfl) (hst:(assignEach es X.env).findIdx? (·.1)=none:=by rfl):PG X (.Tuple es k pos) (ajy K n t):=hK▸ajz hc h hn hst
end
structure ItD (K:alg) (f:Fx) (ds:List PyData) (J:It) (H1:Hp):Prop where
 go:∀ (f':Fx) (H':Hp) (i:Nat) d,FOk f' H'->Same (hide H1 f) (hide H' f')->ds[i]?=some d->J.go i H'/\∀ x H3,J.yld i H' x H3->Goes f' H' H3/\Rep K (hide H3 f') d x
 st:∀ (f':Fx) (H':Hp),FOk f' H'->Same (hide H1 f) (hide H' f')->J.stop ds.length H'
noncomputable def PId (K:alg) (f:Fx) (wi:TI) (ρ:zp) (R:List PyData->Prop):Prop:=∀ (σ:St) (H:Hp) (C:It->Hp->Prop),EnvOk K f ρ σ H ->
 (∀ ds J H1,Goes f H H1->ItD K f ds J H1->R ds->C J H1)->wi σ H C
noncomputable def j9 (n:Nat):List PyData:=(alo n).map fun (i:Nat)=>.int (i:Int)
section
variable {K:alg} {f:Fx} {ρ:zp} {R:List PyData->Prop} {tl:TE} {t:TA}
theorem PId.imp {wi:TI} {R':List PyData->Prop} (h:PId K f wi ρ R) (i:∀ ds,R ds->R' ds):PId K f wi ρ R':=fun σ H C e q=>h σ H C e fun ds J H1 g it r=>q ds J H1 g it (i ds r)
theorem qT (h:PAd K f t ρ fun xs=>∃ j:Int,xs=[.dat (.int j)]/\-(2 ^ 62)<=j/\j<2 ^ 62/\R (j9 j.toNat)):PId K f (ad3 t) ρ R:=fun σ H C e q=>h σ H _ e fun xs vs H1 g1 r1 ⟨j,ex,q1,q2,p⟩=>by
 subst ex
 cases r1 with
 | @cons _ v0 _ _ rx r' =>
  cases r'
  have rx':Rep K (hide H1 f) (.int j) v0:=rx
  refine⟨j,by rw [rep_int.mp rx'],q1,q2,q _ _ H1 g1 ⟨fun f' H' i d fo _ hd=>?_,fun f' H' _ _=>?_⟩ p⟩
  ·unfold j9 at hd
   rw [alv] at hd
   by_cases hi:i<j.toNat
   ·rw [am8 hi] at hd
    cases hd
    refine⟨hi,fun x H3 hy=>?_⟩
    obtain⟨rfl,rfl⟩:=hy
    exact⟨.refl fo,rep_int.mpr (by rw [Int.zero_add])⟩
   ·rw [alN (by rw [alS];omega)] at hd
    cases hd
  ·show j.toNat<=(j9 j.toNat).length
   unfold j9
   rw [ale,alS]
   exact ali _
theorem jc (h:PEd K f tl ρ fun x=>∃ ds,x=.list ds/\R ds):PId K f (ab8 K tl) ρ R:=fun σ H C e q=>h σ H _ e fun x v H1 g1 r1 ⟨ds,ex,p⟩=>by
 subst ex
 obtain⟨a,xs,rfl,h1,h2⟩:=rep_list.mp r1
 have hl:=h2.length
 refine⟨a,rfl,⟨xs,(zj _ _).seq h1⟩,q ds _ H1 g1 ⟨fun f' H' i d fo sm hd=>?_,fun f' H' _ sm=>⟨xs,(zj _ _).seq (sm.seq h1),ani hl⟩⟩ p⟩
 obtain⟨z,hz,rz⟩:=h2.get hd
 have sq:SqL K H' a xs:=(zj _ _).seq (sm.seq h1)
 refine⟨⟨xs,z,sq,hz⟩,fun x H3 hy=>?_⟩
 obtain⟨rfl,hy⟩:=hy
 have ez:=hy xs sq
 rw [hz] at ez
 cases ez
 exact⟨.refl fo,Rep.mono sm _ _ rz⟩
theorem aja (h:PEd K f tl ρ fun x=>∃ ds,x=.tuple ds/\R ds):PId K f (ajA K tl) ρ R:=fun σ H C e q=>h σ H _ e fun x v H1 g1 r1 ⟨ds,ex,p⟩=>by
 subst ex
 obtain⟨a,xs,rfl,h1,h2⟩:=rep_tuple.mp r1
 have hl:=h2.length
 refine⟨a,rfl,⟨xs,(zj _ _).seqT h1⟩,q ds _ H1 g1 ⟨fun f' H' i d fo sm hd=>?_,fun f' H' _ sm=>⟨xs,(zj _ _).seqT (sm.seqT h1),ani hl⟩⟩ p⟩
 obtain⟨z,hz,rz⟩:=h2.get hd
 have sq:SqT K H' a xs:=(zj _ _).seqT (sm.seqT h1)
 refine⟨⟨xs,z,sq,hz⟩,fun x H3 hy=>?_⟩
 obtain⟨rfl,hy⟩:=hy
 have ez:=hy xs sq
 rw [hz] at ez
 cases ez
 exact⟨.refl fo,Rep.mono sm _ _ rz⟩
end
section
variable {K:alg} {f:Fx} {ρ:zp} {D:DEnds} {wi:TI} {g:TG} {ts:TS}
theorem ajb (h:PId K f wi ρ fun ds=>∃ J:Nat->zp->Prop,J 0 ρ /\
   (∀ (i:Nat) d ρ',ds[i]?=some d->J i ρ'->PGd K f g d ρ' fun ρ2=>PSd K f ts ρ2 { D with nx:=J (i+1),ct:=J (i+1),bk:=D.nx })/\∀ ρ',J ds.length ρ'->D.nx ρ') :
  PSd K f (afa wi g ts) ρ D:=fun σ H E e n r b c=>h σ H _ e fun ds J H1 g1 it ⟨Jv,j0,js,jd⟩=>by
 refine⟨fun i m σ' H'=>∃ ρ',EnvOk K f ρ' σ' H'/\Goes f H1 H'/\Jv i ρ'/\m+i=ds.length,⟨ds.length,ρ,e.mono g1,.refl g1.2,j0,rfl⟩,fun i m σ' H' ⟨ρ',e',g',p,hm⟩=>?_⟩
 by_cases hi:i<ds.length
 ·obtain⟨hgo,hy⟩:=it.go f H' i _ e'.fd g'.sm (alb hi)
  refine .inr ⟨hgo,fun σ2 H2=>∃ ρ2,EnvOk K f ρ2 σ2 H2/\Goes f H1 H2/\Jv (i+1) ρ2,fun σ2 H2 ⟨ρ2,e2,g2,p2⟩=>⟨m - 1,by omega,ρ2,e2,g2,p2,by omega⟩,fun x H3 hx=>?_⟩
  obtain⟨g3,r3⟩:=hy x H3 hx
  refine js i _ ρ' (alb hi) p σ' H3 x _ (e'.mono g3) r3 fun ρ2 σ2 H4 g4 e4 p4=>?_
  have gg:=g'.trans (g3.trans g4)
  exact p4 σ2 H4 _ e4 (fun ρ5 σ5 H5 g5 e5 p5=>⟨ρ5,e5,gg.trans g5,p5⟩) (fun d v H5 g5 r5 p5=>r d v H5 (g1.trans (gg.trans g5)) r5 p5) (fun ρ5 σ5 H5 g5 e5 p5=>n ρ5 σ5 H5 (g1.trans (gg.trans g5)) e5 p5) (fun ρ5 σ5 H5 g5 e5 p5=>⟨ρ5,e5,gg.trans g5,p5⟩)
 ·have ei:i=ds.length:=by omega
  subst ei
  exact .inl ⟨it.st f H' e'.fd g'.sm,n ρ' σ' H' (g1.trans g') e' (jd ρ' p)⟩
end
section
variable {K:alg} {f:Fx} {ρ:zp} {D:Addr} {wi:TI} {g:TG} {tt:TT} {te:TE}
theorem CSt.self {H2 H:Hp} {es:List PyData} {σ:St} (c:CSt K f D H2 ρ es σ H):CSt K f D H ρ es σ H:=⟨c.env,Same.refl _,fun _ _=>rfl,c.lst⟩
theorem CSt.trans {H2 H H':Hp} {es es':List PyData} {ρ':zp} {σ σ':St} (c:CSt K f D H2 ρ es σ H) (d:CSt K f D H ρ' es' σ' H'):CSt K f D H2 ρ' es' σ' H':=⟨d.env,c.sm.trans d.sm,fun b hb=>(d.kp b hb).trans (c.kp b hb),d.lst⟩
noncomputable def PBd (K:alg) (f:Fx) (D:Addr) (tb:TB) (ρ:zp) (es:List PyData) (R:zp->List PyData->Prop):Prop:=f.f≠some D->D∉f.M->∀ (σ:St) (H H2:Hp) (W:St->Hp->Prop),CSt K f D H2 ρ es σ H ->
 (∀ ρ2 es2 σ2 H',CSt K f D H2 ρ2 es2 σ2 H'->R ρ2 es2->W σ2 H')->tb σ H W
theorem jz {es:List PyData} {R:zp->List PyData->Prop} (hl:es.length<1000) (h:PEd K (f.with D) te ρ fun e=>R ρ (es++[e])):PBd K f D (qA D te) ρ es R:=fun hD hM σ H H2 W c q =>
 h σ H _ c.env fun e u H5 g5 r5 p5=>by
  have c5:=c.go g5 (c.env.mono g5)
  obtain⟨vs,h1,h2⟩:=c5.lst
  exact⟨vs,h1,ye (by rw [h2.length];omega),q _ _ _ _ (c5.put hD hM h1 h2 r5) p5⟩
theorem agG {fi:Fx} {Hi H2 H:Hp} {ds es:List PyData} {J:It} {tb:TB} {σ:St} {W:St->Hp->Prop} (it:ItD K fi ds J Hi) (hD:f.f≠some D) (hM:D∉f.M) (c:CSt K f D H2 ρ es σ H) (sm:Same (hide Hi fi) (hide H (f.with D)))
  (Jv:Nat->zp->List PyData->Prop) (j0:Jv 0 ρ es)
  (js:∀ (i:Nat) d ρ' es',ds[i]?=some d->Jv i ρ' es'->PGd K (f.with D) g d ρ' fun ρ2=>PTd K (f.with D) tt ρ2 fun b=>if b=true then PBd K f D tb ρ2 es' (Jv (i+1)) else Jv (i+1) ρ2 es')
  (hW:∀ ρ' es' σ' H',CSt K f D H2 ρ' es' σ' H'->Jv ds.length ρ' es'->W σ' H'):acd J g tt tb σ H W:=by
 refine⟨fun i m σ' H'=>∃ ρ' es',CSt K f D H2 ρ' es' σ' H'/\Same (hide Hi fi) (hide H' (f.with D))/\Jv i ρ' es'/\m+i=ds.length,⟨ds.length,ρ,es,c,sm,j0,rfl⟩,fun i m σ' H' ⟨ρ',es',c',sm',p,hm⟩=>?_⟩
 by_cases hi:i<ds.length
 ·obtain⟨hgo,hy⟩:=it.go (f.with D) H' i _ c'.env.fd sm' (alb hi)
  refine .inr ⟨hgo,fun x H3 hx=>?_⟩
  obtain⟨g3,r3⟩:=hy x H3 hx
  have c3:=c'.go g3 (c'.env.mono g3)
  refine js i _ ρ' es' (alb hi) p σ' H3 x _ c3.env r3 fun ρ2 σ2 H4 g4 e4 p4=>?_
  have c4:=c3.go g4 e4
  refine p4 σ2 H4 _ e4 fun b H5 g5 p5=>?_
  have c5:=c4.go g5 (e4.mono g5)
  have sm5:=((sm'.trans g3.sm).trans g4.sm).trans g5.sm
  cases b with
  | false =>
   rw [if_neg ald] at p5 ⊢
   exact⟨m - 1,by omega,ρ2,es',c5,sm5,p5,by omega⟩
  | true =>
   rw [if_pos rfl] at p5 ⊢
   exact p5 hD hM σ2 H5 H5 _ c5.self fun ρ6 es6 σ6 H6 c6 p6=>⟨m - 1,by omega,ρ6,es6,c5.trans c6,sm5.trans c6.sm,p6,by omega⟩
 ·have ei:i=ds.length:=by omega
  subst ei
  exact .inl ⟨it.st (f.with D) H' c'.env.fd sm',hW ρ' es' σ' H' c' p⟩
theorem akJ {es:List PyData} {tb:TB} {R:zp->List PyData->Prop} (h:PId K (f.with D) wi ρ fun ds=>∃ Jv:Nat->zp->List PyData->Prop,Jv 0 ρ es /\
   (∀ (i:Nat) d ρ' es',ds[i]?=some d->Jv i ρ' es'->PGd K (f.with D) g d ρ' fun ρ2=>PTd K (f.with D) tt ρ2 fun b=>if b=true then PBd K f D tb ρ2 es' (Jv (i+1)) else Jv (i+1) ρ2 es') /\
   ∀ ρ' es',Jv ds.length ρ' es'->R ρ' es'):PBd K f D (tIn wi g tt tb) ρ es R:=fun hD hM σ H H2 W c q =>
 h σ H _ c.env fun ds J H1 g1 it ⟨Jv,j0,js,jd⟩ =>
  agG it hD hM (c.go g1 (c.env.mono g1)) (Same.refl _) Jv j0 js fun ρ' es' σ' H' c' p=>q ρ' es' σ' H' c' (jd ρ' es' p)
noncomputable def PEdO (K:alg) (f:Fx) (te:TE) (ρ:zp) (P:List PyData->Prop):Prop:=∀ (σ:St) (H:Hp) (Q:VK),EnvOk K f ρ σ H ->
 (∀ es D vs H',Goes f H H'->H D=none->H' D=some (.lst vs)->Reps K (hide H' (f.with D)) es vs->P es->Q (.ref D) H')->te σ H Q
theorem PEdO.pedl {P:List PyData->Prop} (h:PEdO K f te ρ P):PEdL K f te ρ P:=fun σ H Q e q=>h σ H Q e fun es D vs H' g n h1 r p=>q es D vs H' g n h1 (Reps.mono same_with es vs r) p
theorem PEdO.ped {P:PyData->Prop} (h:PEdO K f te ρ fun es=>P (.list es)):PEd K f te ρ P:=h.pedl.ped
theorem ajc {P:List PyData->Prop} (h:P []):PEdO K f (agg jZ) ρ P:=fun σ H Q e q=>⟨alD _,fun p hn=>q [] p [] _ (.of_same (z4 hn _) e.fd) hn zB .nil' h⟩
theorem vo {own:Nat} {fr:List Nat} {tb:Addr->TB} {P:List PyData->Prop} (h:PId K f wi ρ fun ds=>∃ Jv:Nat->zp->List PyData->Prop,Jv 0 (vn own fr ρ) [] /\
   (∀ D (i:Nat) d ρ' es',ds[i]?=some d->Jv i ρ' es'->PGd K (f.with D) g d ρ' fun ρ2=>PTd K (f.with D) tt ρ2 fun b=>if b=true then PBd K f D (tb D) ρ2 es' (Jv (i+1)) else Jv (i+1) ρ2 es') /\
   ∀ ρ' es',Jv ds.length ρ' es'->P es'):PEdO K f (jX wi own fr g tt tb) ρ P:=fun σ H Q e q =>
 h σ H _ e fun ds J H1 g1 it ⟨Jv,j0,js,jd⟩ D hn=>by
  have nD:=fresh_ne g1.2 hn
  have hD:f.f≠some D:=fun z=>nD (.inl z)
  have hM:D∉f.M:=fun z=>nD (.inr z)
  refine agG it hD hM (aag hn (e.mono g1)) (qR hn) Jv j0 (js D) fun ρ' es' σ' H' c' p=>?_
  obtain⟨ge,rep⟩:=acn (σ':=σ') hn g1.2 c'
  obtain⟨vs,h1,h2⟩:=c'.lst
  exact q es' D vs H' (g1.trans ge) (g1.free e.fd hn) h1 h2 (jd ρ' es' p)
end
section
variable {K:alg} {f:Fx} {ρ:zp} {D:Addr} {wi:TI} {g:TG} {tt:TT} {te:TE}
theorem vp {F:PyData->List PyData} {ds:List PyData} {i:Nat} {d:PyData} (h:ds[i]?=some d):(ds.take (i+1)).flatMap F=(ds.take i).flatMap F++F d:=by
 rw [aoG,h,ams]
 simp
theorem abq {F:PyData->List PyData} {ds:List PyData} {i:Nat}:((ds.take i).flatMap F).length<=(ds.flatMap F).length:=by
 conv=>rhs;rw [<-alE i ds,ams,alr]
 omega
noncomputable def OwnE (own:Nat) (ρ0:zp) (ρ':zp):Prop:=∃ us:zp,us.length=own/\ρ'=us++ρ0
theorem OwnE.one {ρ0 ρ':zp} (h:OwnE 1 ρ0 ρ'):∃ u,ρ'=u :: ρ0:=by
 obtain⟨us,h1,rfl⟩:=h
 match us,h1 with
 | [u],_=>exact⟨u,rfl⟩
theorem OwnE.two {ρ0 ρ':zp} (h:OwnE 2 ρ0 ρ'):∃ u v,ρ'=u :: v :: ρ0:=by
 obtain⟨us,h1,rfl⟩:=h
 match us,h1 with
 | [u,v],_=>exact⟨u,v,rfl⟩
theorem OwnE.mk1 {ρ0:zp} {u:Option DV}:OwnE 1 ρ0 (u :: ρ0):=⟨[u],rfl,rfl⟩
theorem OwnE.mk2 {ρ0:zp} {u v:Option DV}:OwnE 2 ρ0 (u :: v :: ρ0):=⟨[u,v],rfl,rfl⟩
theorem ajT {own:Nat} {fr:List Nat} {tb:Addr->TB} {P:List PyData->Prop} (h:PId K f wi ρ fun ds=>∃ F:PyData->List PyData,(ds.flatMap F).length<=1000 /\
   (∀ D d ρ' es,d∈ds->OwnE own (frD fr ρ) ρ'->es.length+(F d).length<=1000->PGd K (f.with D) g d ρ' fun ρ2=>PTd K (f.with D) tt ρ2 fun b=>if b=true then PBd K f D (tb D) ρ2 es fun ρ3 es3=>OwnE own (frD fr ρ) ρ3/\es3=es++F d else OwnE own (frD fr ρ) ρ2/\F d=[]) /\
   P (ds.flatMap F)):PEdO K f (jX wi own fr g tt tb) ρ P :=
 vo (h.imp fun ds ⟨F,hl,hs,hp⟩=>by
  refine⟨fun i ρ' es=>OwnE own (frD fr ρ) ρ'/\es=(ds.take i).flatMap F,⟨⟨ant own none,by simp,rfl⟩,by simp⟩,fun D i d ρ' es hd ⟨ho,he⟩=>?_,fun ρ' es ⟨_,he⟩=>?_⟩
  ·have hb:es.length+(F d).length<=1000:=by
    rw [he,<- alr,<- vp hd]
    exact alV abq hl
   have:=hs D d ρ' es (alB hd) ho hb
   intro σ H v Q e r q
   refine this σ H v Q e r fun ρ2 σ2 H2 g2 e2 p2=>q ρ2 σ2 H2 g2 e2 (p2.imp fun b hb2=>?_)
   cases b with
   | false =>
    rw [if_neg ald] at hb2 ⊢
    exact⟨hb2.1,by rw [vp hd,hb2.2,al4];exact he⟩
   | true =>
    rw [if_pos rfl] at hb2 ⊢
    intro h1 h2 σ3 H3 H4 W c k
    exact hb2 h1 h2 σ3 H3 H4 W c fun ρ5 es5 σ5 H5 c5 ⟨o5,p5⟩=>k ρ5 es5 σ5 H5 c5 ⟨o5,by rw [p5,vp hd,he]⟩
  ·rw [he,amf]
   exact hp)
theorem qC {B:Bool->Prop} (h:B true):PTd K f ahW ρ B:=fun σ H Q e q=>q true H (.refl e.fd) h
end
structure OEnds where
 nx:zp->List PyData->Prop
 rt:PyData->Prop
 bk:zp->List PyData->Prop:=fun _ _=>False
 ct:zp->List PyData->Prop:=fun _ _=>False
noncomputable def PSo (K:alg) (f:Fx) (D:Addr) (ts:TS) (ρ:zp) (es:List PyData) (O:OEnds):Prop:=f.f≠some D->D∉f.M->∀ (σ:St) (H H2:Hp) (E:Ends),CSt K f D H2 ρ es σ H ->
 (∀ ρ' es' σ' H',CSt K f D H2 ρ' es' σ' H'->O.nx ρ' es'->E.nx σ' H')->(∀ d v ρ' es' σ' H',CSt K f D H2 ρ' es' σ' H'->Rep K (hide H' f) d v->O.rt d->E.rt v H') ->
 (∀ ρ' es' σ' H',CSt K f D H2 ρ' es' σ' H'->O.bk ρ' es'->E.bk σ' H')->(∀ ρ' es' σ' H',CSt K f D H2 ρ' es' σ' H'->O.ct ρ' es'->E.ct σ' H')->ts E σ H
section
variable {K:alg} {f:Fx} {ρ:zp} {D:Addr} {wi:TI} {g:TG} {tt:TT} {te:TE} {ts tu:TS} {es:List PyData} {O:OEnds} {i:Nat}
theorem akK (h:PSo K f D ts ρ es { O with nx:=fun ρ' es'=>PSo K f D tu ρ' es' O }):PSo K f D (vj ts tu) ρ es O:=fun hD hM σ H H2 E c n r b k =>
 h hD hM σ H H2 _ c (fun ρ' es' σ' H' c' p=>p hD hM σ' H' H2 E c' n r b k) r b k
theorem abr (h:O.nx ρ es):PSo K f D ab4 ρ es O:=fun _ _ σ H H2 E c n r b k=>n ρ es σ H c h
theorem akL (h:PTd K (f.with D) tt ρ fun b=>if b=true then PSo K f D ts ρ es O else PSo K f D tu ρ es O):PSo K f D (af6 tt ts tu) ρ es O:=fun hD hM σ H H2 E c n r b k =>
 h σ H _ c.env fun q H1 g1 p=>by
  have c1:=c.go g1 (c.env.mono g1)
  cases q with
  | false =>
   rw [if_neg ald] at p ⊢
   exact p hD hM σ H1 H2 E c1 n r b k
  | true =>
   rw [if_pos rfl] at p ⊢
   exact p hD hM σ H1 H2 E c1 n r b k
theorem agH {σ:St} {H H2:Hp} (hi:ρ[i]?=some (some (.own f.M.length))) (c:CSt K f D H2 ρ es σ H):σ[i]?=some (some (.ref D)):=by
 obtain⟨v,h1,p,h2,rfl⟩:=c.env.get i _ hi
 have e:(D :: f.M).reverse[f.M.length]?=some D:=by
  rw [amH,alj (by simp)]
  simp
 have h2':(D :: f.M).reverse[f.M.length]?=some p:=h2
 rw [e] at h2'
 cases h2'
 exact h1
theorem ajd (hi:ρ[i]?=some (some (.own f.M.length))) (hl:es.length<1000) (h:PEd K (f.with D) te ρ fun d=>O.nx ρ (es++[d])):PSo K f D (ab5 (tBM K "list" abm (yw i) (yx te jZ))) ρ es O:=fun hD hM σ H H2 E c n r b k=>by
 obtain⟨vs0,h0,_⟩:=c.lst
 refine⟨_,agH hi c,Or.inl ⟨rfl,vs0,.of h0⟩,?_⟩
 refine h σ H _ c.env fun d v H1 g1 r1 p1=>?_
 have c1:=c.go g1 (c.env.mono g1)
 obtain⟨vs,h1,h2⟩:=c1.lst
 exact⟨D,vs,v,rfl,rfl,h1,ye (by rw [h2.length];omega),n _ _ _ _ (c1.put hD hM h1 h2 r1) p1⟩
theorem aje (h:PId K (f.with D) wi ρ fun ds=>∃ J:Nat->zp->List PyData->Prop,J 0 ρ es /\
   (∀ (i:Nat) d ρ' es',ds[i]?=some d->J i ρ' es'->PGd K (f.with D) g d ρ' fun ρ2=>PSo K f D ts ρ2 es' { O with nx:=J (i+1),ct:=J (i+1),bk:=O.nx })/\∀ ρ' es',J ds.length ρ' es'->O.nx ρ' es') :
  PSo K f D (afa wi g ts) ρ es O:=fun hD hM σ H H2 E c n r b k=>h σ H _ c.env fun ds J H1 g1 it ⟨Jv,j0,js,jd⟩=>by
 have c1:=c.go g1 (c.env.mono g1)
 refine⟨fun i m σ' H'=>∃ ρ' es',CSt K f D H2 ρ' es' σ' H'/\Same (hide H1 (f.with D)) (hide H' (f.with D))/\Jv i ρ' es'/\m+i=ds.length,⟨ds.length,ρ,es,c1,Same.refl _,j0,rfl⟩,fun i m σ' H' ⟨ρ',es',c',sm',p,hm⟩=>?_⟩
 by_cases hi:i<ds.length
 ·obtain⟨hgo,hy⟩:=it.go (f.with D) H' i _ c'.env.fd sm' (alb hi)
  refine .inr ⟨hgo,fun σ2 H3=>∃ ρ2 es2,CSt K f D H2 ρ2 es2 σ2 H3/\Same (hide H1 (f.with D)) (hide H3 (f.with D))/\Jv (i+1) ρ2 es2,fun σ2 H3 ⟨ρ2,es2,e2,g2,p2⟩=>⟨m - 1,by omega,ρ2,es2,e2,g2,p2,by omega⟩,fun x H3 hx=>?_⟩
  obtain⟨g3,r3⟩:=hy x H3 hx
  have c3:=c'.go g3 (c'.env.mono g3)
  refine js i _ ρ' es' (alb hi) p σ' H3 x _ c3.env r3 fun ρ2 σ2 H4 g4 e4 p4=>?_
  have c4:=c3.go g4 e4
  have sm4:=(sm'.trans g3.sm).trans g4.sm
  exact p4 hD hM σ2 H4 H4 _ c4.self (fun ρ5 es5 σ5 H5 c5 p5=>⟨ρ5,es5,c4.trans c5,sm4.trans c5.sm,p5⟩) (fun d v ρ5 es5 σ5 H5 c5 r5 p5=>r d v ρ5 es5 σ5 H5 (c4.trans c5) r5 p5) (fun ρ5 es5 σ5 H5 c5 p5=>n ρ5 es5 σ5 H5 (c4.trans c5) p5) (fun ρ5 es5 σ5 H5 c5 p5=>⟨ρ5,es5,c4.trans c5,sm4.trans c5.sm,p5⟩)
 ·have ei:i=ds.length:=by omega
  subst ei
  exact .inl ⟨it.st (f.with D) H' c'.env.fd sm',n ρ' es' σ' H' c' (jd ρ' es' p)⟩
noncomputable def jm (n:Nat):Option DV->Option DV
 | some (.own k)=>if k<n then some (.own k) else none
 | x=>x
theorem vP {σ:St} {H H2:Hp} (c:CSt K f D H2 ρ es σ H):EnvOk K f (ρ.map (jm f.M.length)) σ H:=by
 refine⟨by rw [ale];exact c.env.len,fun i x h=>?_,⟨c.env.fd.fd,fun b hb=>c.env.fd.mm b (alm _ hb),fun p e hp=>c.env.fd.nm p e (alm _ hp)⟩⟩
 rw [alv] at h
 cases e:ρ[i]? with
 | none=>rw [e] at h;cases h
 | some y =>
  rw [e] at h
  cases y with
  | none=>cases h
  | some y =>
   obtain⟨v,h1,h2⟩:=c.env.get i y e
   cases y with
   | dat d =>
    cases h
    exact⟨v,h1,Rep.mono same_with d v h2⟩
   | feed =>
    cases h
    exact⟨v,h1,h2⟩
   | exc C =>
    cases h
    obtain⟨a,h3,h4⟩:=h2
    exact⟨v,h1,a,h3,same_with _ _ h4⟩
   | mon φ =>
    cases h
    exact⟨v,h1,fun H' s=>h2 H' (same_with.trans s)⟩
   | own k =>
    have h':(if k<f.M.length then some (DV.own k) else none)=some x:=Option.some.inj h
    by_cases hk:k<f.M.length
    ·rw [if_pos hk] at h'
     cases h'
     obtain⟨p,h3,h4⟩:=h2
     refine⟨v,h1,p,?_,h4⟩
     have h3':(D :: f.M).reverse[k]?=some p:=h3
     rw [amH,alk (by simpa using hk)] at h3'
     exact h3'
    ·rw [if_neg hk] at h'
     cases h'
theorem ah2 {σ:St} {H:Hp} {d:PyData} {v:V} (e:EnvOk K f ρ σ H) (hs:σ[i]?=some (some v)) (r:Rep K (hide H f) d v):EnvOk K f (ρ.set i (some (.dat d))) σ H:=by
 refine⟨by rw [ano];exact e.len,fun j y h=>?_,e.fd⟩
 by_cases hj:i=j
 ·subst hj
  have hi:i<ρ.length:=by rw [e.len];exact (alf.mp hs).1
  rw [amw hi] at h
  cases h
  exact⟨v,hs,r⟩
 ·rw [am1 hj] at h
  exact e.get j y h
theorem akM {Dn:DEnds} (h:PEdO K f te ρ fun es0=>i<ρ.length/\∀ D,PSo K f D ts (ρ.set i (some (.own f.M.length))) es0 { nx:=fun ρ' es=>ρ'[i]?=some (some (.own f.M.length))/\PSd K f tu ((ρ'.map (jm f.M.length)).set i (some (.dat (.list es)))) Dn,rt:=Dn.rt,bk:=fun ρ' es=>Dn.bk (ρ'.map (jm f.M.length)),ct:=fun ρ' es=>Dn.ct (ρ'.map (jm f.M.length)) }) :
  PSd K f (vj (jJ te (y7 i)) (vj ts tu)) ρ Dn:=fun σ H E e n r b k=>h σ H _ e fun es0 D vs H1 g1 hn h1 rs ⟨hil,p⟩=>by
 have nD:¬ (f.f=some D \/ D∈f.M):=fresh_ne e.fd hn
 have hD:f.f≠some D:=fun z=>nD (.inl z)
 have hM:D∉f.M:=fun z=>nD (.inr z)
 have sm0:Same (hide H f) (hide H1 (f.with D)):=fun b o hb=>by
  have hb1:=g1.sm b o hb
  refine zv (fun z=>?_) (zG hb1).2
  rcases z with z | z
  ·exact (zG hb1).1 (.inl z)
  ·rcases alp.mp z with rfl | z
   ·have:=(zG hb).2
    rw [hn] at this
    cases this
   ·exact (zG hb1).1 (.inr z)
 have fo1:FOk (f.with D) H1:=⟨g1.ok.fd,fun b hb=>by
  rcases alp.mp hb with rfl | hb
  ·exact⟨_,h1⟩
  ·exact g1.ok.mm b hb,fun q eq hq=>by
  rcases alp.mp hq with rfl | hq
  ·exact hD eq
  ·exact g1.ok.nm q eq hq⟩
 have e1:EnvOk K (f.with D) ρ σ H1:=⟨e.len,fun j x hx=>by
  obtain⟨v,a1,a2⟩:=e.get j x hx
  refine⟨v,a1,?_⟩
  cases x with
  | dat d=>exact Rep.mono sm0 d v a2
  | feed=>exact a2
  | exc C =>
   obtain⟨q,h3,h4⟩:=a2
   exact⟨q,h3,sm0 _ _ h4⟩
  | mon φ=>exact fun H' s=>a2 H' (sm0.trans s)
  | own k =>
   obtain⟨q,h3,h4⟩:=a2
   refine⟨q,?_,h4⟩
   show (D :: f.M).reverse[k]?=some q
   rw [amH,alk (alf.mp h3).1]
   exact h3,fo1⟩
 have rv:RepV K (f.with D) H1 (.own f.M.length) (.ref D):=⟨D,by
  show (D :: f.M).reverse[f.M.length]?=some D
  rw [amH,alj (by simp)]
  simp,rfl⟩
 have c1:CSt K f D H1 (ρ.set i (some (.own f.M.length))) es0 (σ.set i (some (.ref D))) H1:=⟨e1.set i rv,Same.refl _,fun _ _=>rfl,vs,h1,rs⟩
 have gg:∀ {ρ':zp} {es':List PyData} {σ':St} {H':Hp},CSt K f D H1 ρ' es' σ' H'->Goes f H H':=fun c=>by
  refine⟨fun b o hb=>?_,(vP c).fd,fun b hb=>(c.kp b hb).trans (g1.kp b hb)⟩
  exact same_with (D:=D) b o (c.sm b o (sm0 b o hb))
 refine p D hD hM _ H1 H1 _ c1 (fun ρ' es' σ' H' c' ⟨hi,p'⟩=>?_) (fun d v ρ' es' σ' H' c' r' p'=>r d v H' (gg c') r' p') (fun ρ' es' σ' H' c' p'=>b _ σ' H' (gg c') (vP c') p') (fun ρ' es' σ' H' c' p'=>k _ σ' H' (gg c') (vP c') p')
 obtain⟨vs',h1',h2'⟩:=c'.lst
 have rl:Rep K (hide H' f) (.list es') (.ref D):=rep_list.mpr ⟨D,vs',rfl,.of (zv nD h1'),Reps.mono same_with es' vs' h2'⟩
 exact p' σ' H' E (ah2 (vP c') (agH hi c') rl) (fun ρ2 σ2 H2 g2=>n ρ2 σ2 H2 ((gg c').trans g2)) (fun d v H2 g2=>r d v H2 ((gg c').trans g2)) (fun ρ2 σ2 H2 g2=>b ρ2 σ2 H2 ((gg c').trans g2)) (fun ρ2 σ2 H2 g2=>k ρ2 σ2 H2 ((gg c').trans g2))
end
section
variable {K:alg} {f:Fx} {ρ:zp} {P:PyData->Prop} {te ta tb:TE} {t:TA}
theorem ah3 (h:PAd K f t ρ fun xs=>(∃ ds,xs=[.dat (.list ds)]/\P (.tuple ds)) \/ (∃ ds,xs=[.dat (.tuple ds)]/\P (.tuple ds))) :
  PEd K f (tCB (fun xs H Q=>∃ p ys,xs=[.ref p]/\((SqL K H p ys/\∀ l,H l=none->Q (.ref l) (upd H l (.tup ys))) \/ (SqT K H p ys/\Q (.ref p) H))) t) ρ P :=
 adv fun σ H Q e q=>h σ H Q e fun xs vs H' g r p=>by
  rcases p with⟨ds,rfl,p⟩ | ⟨ds,rfl,p⟩
  ·refine q _ vs H' g r ⟨_,rfl,fun vs H Q fo rs k=>?_⟩
   obtain⟨x,r,rfl,h2,h3⟩:=reps_cons.mp rs
   rw [reps_nil.mp h3]
   obtain⟨a,ys,rfl,s1,s2⟩:=rep_list.mp h2
   refine⟨a,ys,rfl,.inl ⟨(zj _ _).seq s1,fun l hn=>?_⟩⟩
   have g2:Goes f H (upd H l (.tup ys)):=.of_same (z4 hn _) fo
   exact k (.tuple ds) _ _ g2 (rep_tuple.mpr ⟨l,ys,rfl,.of (zv (fresh_ne fo hn) zB),Reps.mono g2.1 ds ys s2⟩) p
  ·refine q _ vs H' g r ⟨_,rfl,fun vs H Q fo rs k=>?_⟩
   obtain⟨x,r,rfl,h2,h3⟩:=reps_cons.mp rs
   rw [reps_nil.mp h3]
   obtain⟨a,ys,rfl,s1,s2⟩:=rep_tuple.mp h2
   exact⟨a,ys,rfl,.inr ⟨(zj _ _).seqT s1,k (.tuple ds) _ H (.refl fo) (rep_tuple.mpr ⟨a,ys,rfl,s1,s2⟩) p⟩⟩
end
noncomputable abbrev f0:Fx:=⟨none,[]⟩
theorem fok0 (H:Hp):FOk f0 H:=⟨(fun p e=>by cases e),(fun b hb=>by cases hb),(fun p e=>by cases e)⟩
theorem akN {H H':Hp} (s:Same H H'):Goes f0 H H':=.of_same s (fok0 H)
theorem same0 {H H':Hp} (g:Goes f0 H H'):Same H H':=fun b o h=>(zG (g.sm b o (by rw [yD];exact h))).2
noncomputable def abt:Option DV->Option DV
 | some (.dat d)=>some (.dat d)
 | _=>none
section
variable {K:alg} {ρ:zp} {te:TE} {tu:TS} {i:Nat}
theorem aah {p:Addr} {σ:St} {H:Hp} (e:EnvOk K ⟨some p,[]⟩ ρ σ H):EnvOk K f0 (ρ.map abt) σ H:=by
 refine⟨by rw [ale];exact e.len,fun i x h=>?_,fok0 H⟩
 rw [alv] at h
 cases eq:ρ[i]? with
 | none=>rw [eq] at h;cases h
 | some y =>
  rw [eq] at h
  cases y with
  | none=>cases h
  | some y =>
   obtain⟨v,h1,h2⟩:=e.get i y eq
   cases y with
   | dat d =>
    cases h
    refine⟨v,h1,?_⟩
    show Rep K (hide H f0) d v
    rw [yD]
    exact Rep.mono (zj _ _) d v h2
   | feed=>cases h
   | own k=>cases h
   | exc C=>cases h
   | mon φ=>cases h
theorem ajU {Dn:DEnds} (h:∀ (σ:St) (H:Hp) (Q:VK),EnvOk K f0 ρ σ H->(∀ (p:Addr) (x y:Int) (H':Hp),Same H H'->H p=none->H' p=some (.lst [.int x,.int y])->0<=x->0<=y->y<2147483647->Q (.ref p) H')->te σ H Q)
  (hr:∀ p,PSd K ⟨some p,[]⟩ tu (ρ.set i (some .feed)) { nx:=fun ρ'=>Dn.nx (ρ'.map abt),rt:=Dn.rt,bk:=fun ρ'=>Dn.bk (ρ'.map abt),ct:=fun ρ'=>Dn.ct (ρ'.map abt) }) :
  PSd K f0 (vj (jJ te (y7 i)) tu) ρ Dn:=fun σ H E e n r b k=>h σ H _ e fun p x y H1 sm hn hp x0 y0 y1=>by
 have fo:FOk ⟨some p,[]⟩ H1:=⟨fun p' e=>by cases e;exact⟨x,y,hp,x0,y0,y1⟩,(fun b hb=>by cases hb),fun _ _ hb=>by cases hb⟩
 have sm0:Same H (hide H1 ⟨some p,[]⟩):=fun b o hb=>by
  have nb:b≠p:=fun e=>by rw [e,hn] at hb;cases hb
  refine zv (fun z=>?_) (sm b o hb)
  rcases z with z | z
  ·cases z;exact nb rfl
  ·cases z
 have e1:EnvOk K ⟨some p,[]⟩ ρ σ H1:=by
  refine⟨e.len,fun j z hz=>?_,fo⟩
  obtain⟨v,a1,a2⟩:=e.get j z hz
  refine⟨v,a1,?_⟩
  cases z with
  | dat d =>
   have a2':Rep K (hide H f0) d v:=a2
   rw [yD] at a2'
   exact Rep.mono sm0 d v a2'
  | feed=>obtain⟨q,hq,_⟩:=a2;cases hq
  | own k=>obtain⟨q,hq,_⟩:=a2;cases hq
  | exc C =>
   obtain⟨q,h3,h4⟩:=a2
   refine⟨q,h3,sm0 _ _ ?_⟩
   rw [yD] at h4
   exact h4
  | mon φ =>
   intro H' s
   refine a2 H' (Same.trans ?_ s)
   rw [yD]
   exact sm0
 have gg:∀ {H':Hp},Goes ⟨some p,[]⟩ H1 H'->Goes f0 H H':=fun g=>akN fun b o hb=>zj _ _ b o (g.sm b o (sm0 b o hb))
 refine hr p _ H1 E (e1.set i (x:=.feed) ⟨p,rfl,rfl⟩) (fun ρ' σ' H' g' e' p'=>n _ σ' H' (gg g') (aah e') p') (fun d v H' g' r' p'=>r d v H' (gg g') ?_ p') (fun ρ' σ' H' g' e' p'=>b _ σ' H' (gg g') (aah e') p') (fun ρ' σ' H' g' e' p'=>k _ σ' H' (gg g') (aah e') p')
 rw [yD]
 exact Rep.mono (zj _ _) d v r'
end
section
variable {X:Cx} {K:alg}
noncomputable def akO (i j:Int):Prop:=0<j/\j<1152921504606846976
theorem acr:OpR X (binaryOp .FloorDiv) (rI akO fun i j=>.int (i / j)):=opI fun i j _ _ _ _ _ hc q=>by
 obtain⟨h1,h2⟩:=hc
 rw [<-Int.fdiv_eq_ediv_of_nonneg i (Int.le_of_lt h1)] at q
 refine floordiv_int (by omega) q (.inl (PyProof.noPylong_of_log2 ?_))
 have h0:j.natAbs≠0:=by omega
 have:j.natAbs.log2<60:=(Nat.log2_lt h0).mpr (by omega)
 omega
end
section
variable {K:alg} {f:Fx} {ρ:zp} {wi:TI} {g:TG} {tt:TT} {own:Nat} {fr:List Nat} {tb:Addr->TB} {P:List PyData->Prop}
theorem aei {α:Type} {A B:α->PyData} (xs:List α) (h:PId K f wi ρ fun ds=>ds=xs.map A/\xs.length<=1000 /\
   (∀ D x ρ' es,x∈xs->OwnE own (frD fr ρ) ρ'->es.length<1000->PGd K (f.with D) g (A x) ρ' fun ρ2=>PTd K (f.with D) tt ρ2 fun b=>if b=true then PBd K f D (tb D) ρ2 es fun ρ3 es3=>OwnE own (frD fr ρ) ρ3/\es3=es++[B x] else False)/\P (xs.map B)) :
  PEdO K f (jX wi own fr g tt tb) ρ P :=
 vo (h.imp fun ds ⟨ed,hl,hs,hp⟩=>by
  subst ed
  refine⟨fun i ρ' es=>OwnE own (frD fr ρ) ρ'/\es=(xs.take i).map B,⟨⟨ant own none,by simp,rfl⟩,by simp⟩,fun D i d ρ' es hd ⟨ho,he⟩=>?_,fun ρ' es ⟨_,he⟩=>?_⟩
  ·rw [alv] at hd
   cases eq:xs[i]? with
   | none=>rw [eq] at hd;cases hd
   | some x =>
    rw [eq] at hd
    cases hd
    have hi:i<xs.length:=(alf.mp eq).1
    have hb:es.length<1000:=by
     rw [he,ale,alq]
     omega
    intro σ H v Q e r q
    refine hs D x ρ' es (alB eq) ho hb σ H v Q e r fun ρ2 σ2 H2 g2 e2 p2=>q ρ2 σ2 H2 g2 e2 (p2.imp fun b hb2=>?_)
    cases b with
    | false =>
     rw [if_neg ald] at hb2
     exact hb2.elim
    | true =>
     rw [if_pos rfl] at hb2 ⊢
     intro h1 h2 σ3 H3 H4 W c k
     exact hb2 h1 h2 σ3 H3 H4 W c fun ρ5 es5 σ5 H5 c5 ⟨o5,p5⟩=>k ρ5 es5 σ5 H5 c5 ⟨o5,by rw [p5,he,aoG,eq,alX];rfl⟩
  ·rw [he,ale,amf]
   exact hp)
end
structure XLie (P:Program) (w:World) (outer:List Env) (H:Hp) (s:Shared) (e:Addr) (C:Value) (H':Hp) (s':Shared):Prop where
 os:s'.os=s.os
 bare:AllBare s'.gens
 un:Un (frs outer) [] H H' s.heap s'.heap
 hok:HOk P w H' s'.heap
 fly:∃ B a0,Heap.FlyingW B outer e C a0 s'.heap/\(∀ b o,s.heap.get? b=some o->b∉frs outer->∃ o',B.get? b=some o')/\∀ b o,H' b=some o->∃ o',B.get? b=some o'
 new:s.heap.get? e=none
 free:H' e=none
noncomputable def CXe (P:Program) (w:World):CXT:=fun outer H s E e s'=>∃ a C H',e=.ref a/\XLie P w outer H s a C H' s'/\E C none H'
end L2
end
section
namespace L2
open PySem PySem.Spec PyProof.Rows
end L2
end
section
namespace L2
open PySem PySem.Spec PySem.W PyProof.Rows PySem.Calls PySem.Builtin Builtin Builtin.ObjectAttr Builtin.Getset_descriptor
section
variable {prog:Program} {w:World} {A:Around} {E:Value->Shared->Prop} {s:Shared} {K:alg} {a C:Addr}
structure ExcWays (K:alg) (C:Addr):Prop where
 ga:findIn K (.ref C) "__getattribute__"=some (some (.builtin "BaseException.__getattribute__"))
 gt:findIn K (.ref C) "__getattr__"=some none
 cl:findIn K (.ref C) "__class__"=some (some (.builtin "object.__class__"))
 gs:specialIn K (.builtin "object.__class__") "__get__"=some (some (.builtin "getset_descriptor.__get__"))
 tk:takesIn K (.builtin "object.__class__")=some true
 ob:mroIn K C (.type "object")=some true
 be:mroIn K C (.type "BaseException")=some true
 iz:(clsIn K C).isSome=true
end
structure FnInX (P:Program) (w:World) (K:alg) (mg:Str->Option Value) (base:Heap) (k:Nat) (x:Str) (ps:List Str) (sp:Sp):Prop where
 ex:∃ (f:Addr) (fd:FuncData),FnOk P w K mg base (CXe P w) k f fd ps sp/\mg x=some (.ref f)/\amr K (.ref f)=true/\Binds K fd ps []
end L2
end
section
namespace L2
open PySem PySem.Spec PyProof.Rows
noncomputable def ajV (K:alg):List V->Hp->VK->Prop:=fun xs H Q=>∃ (a:Addr) (bs:List Bool),xs=[.ref a]/\SqL K H a (bs.map V.bl)/\Q (.bl (bs.all id)) H
theorem acs:∀ {bs:List Bool} {us:List Value},Vals (bs.map V.bl) us->us=bs.map Value.bool
 | [],us,r=>by
  cases r
  rfl
 | b :: bs,us,r=>by
  cases r with
  | cons h t =>
   rw [acs t]
   cases (show _=Value.bool b from h)
   rfl
theorem range_all (bs:List Bool):(alo bs.length).all (fun i=>bs.getD i false)=bs.all id:=by
 rw [Bool.eq_iff_iff,aob,aob]
 constructor
 ·intro h b hb
  obtain⟨i,hi,rfl⟩:=List.mem_iff_getElem.mp hb
  have:=h i (alQ.mpr hi)
  rwa [alh,alb hi] at this
 ·intro h i hi
  have hi':=alQ.mp hi
  rw [alh,alb hi']
  exact h _ (alc hi')
theorem acu (prog:Program) (w:World) (A:Around) (bs:List Bool):TruthOf prog w A (fun i v=>(bs.map Value.bool).toArray[i]?=some v) (fun i=>bs.getD i false):=by
 intro i v s Q E hv hq
 rw [List.getElem?_toArray,alv] at hv
 cases eb:bs[i]? with
 | none=>rw [eb] at hv;cases hv
 | some b =>
  rw [eb] at hv
  cases hv
  dsimp only at hq
  rw [alh,eb] at hq
  exact wpAny_pure hq
theorem afs {X:Cx} (hc:X.calm=true):yg X (.builtin "all") (ajV X.K):=by
 intro pins s σ H xs us Q I r h
 obtain⟨a,bs,rfl,hq,q⟩:=h
 obtain⟨u,rfl,r1⟩:=vals1 r
 cases r1
 obtain⟨its,rv,p,_⟩:=I.list hq
 have hl:=p.isList
 rw [acs rv] at hl
 have ha:a<s.heap.objs.size:=by
  obtain⟨o,ho,_⟩:=hl
  exact alz ho
 refine call_all_walk (wpAny_pyIter_list hl ?_)
 have hne:a≠s.heap.objs.size:=al1 ha
 refine⟨s.heap.objs.size,_,_,_,_,_,_,rfl,Walks.list (show (X.A.in1).handled=none from I.ok.hd hc) _ a hne _,⟨?_,?_⟩,acu _ _ _ bs,fun h' tk hk=>?_⟩
 ·exact⟨_,al7 _ rfl,rfl,rfl⟩
 ·exact hl.at fun o e=>alw _ e
 ·have kp:∀ b o,s.heap.get? b=some o->h'.get? b=some o:=fun b o e=>hk b o (by
   intro z
   have:=alz e
   rw [alK.mp z] at this
   exact amQ _ this) (alw _ e)
  refine⟨.bl _,H,I.kept (t':=tk) kp,?_,q⟩
  show Value.bool _=Value.bool _
  rw [alA,ale,range_all]
theorem aaT {X:Cx} {K:alg} (hK:X.K=K) (hc:X.calm=true):yg X (.builtin "all") (ajV K):=hK▸afs hc
section
variable {K:alg} {f:Fx} {ρ:zp} {P:PyData->Prop} {te:TE}
theorem aai {H:Hp}:∀ {bs:List Bool} {xs:List V},Reps K H (bs.map .bool) xs->xs=bs.map V.bl
 | [],xs,r=>reps_nil.mp r
 | b :: bs,xs,r=>by
  obtain⟨x,r',rfl,h1,h2⟩:=reps_cons.mp r
  rw [aai h2,rep_bool.mp h1]
  rfl
theorem ajf (h:PEd K f te ρ fun x=>∃ bs:List Bool,x=.list (bs.map .bool)/\P (.bool (bs.all id))):PEd K f (tCB (ajV K) (yx te jZ)) ρ P:=fun σ H Q e q=>h σ H _ e fun x v H1 g1 r1 ⟨bs,ex,p⟩=>by
 subst ex
 obtain⟨a,xs,rfl,h1,h2⟩:=rep_list.mp r1
 rw [aai h2] at h1
 exact⟨a,bs,rfl,(zj _ _).seq h1,q _ _ H1 g1 (rep_bool.mpr rfl) p⟩
end
section
variable {prog:Program} {w:World} {A:Around} {E:Value->Shared->Prop}
theorem aaU {I:Addr} {fp wr:List Addr} {n:Nat} {P:Nat->Value->Prop} {St:Nat->Heap->Prop} (W:Walks prog w A I fp wr n P St):∀ (k i:Nat) (s:Shared) (Q:List Value->Shared->Prop),i+k<=n->St i s.heap ->
  (∀ vs h' tk,vs.length=k->(∀ (j:Nat) v,vs[j]?=some v->P (i+j) v)->St (i+k) h'->(∀ b o,b∉wr->s.heap.get? b=some o->h'.get? b=some o)->Q vs { s with heap:=h',toks:=tk })->wpAny (model prog w) A (draw (.ref I) k) Q E s
 | 0,i,s,Q,_,st,hQ=>wpAny_pure (hQ [] s.heap s.toks rfl (fun j v e=>by simp at e) st fun _ _ _ e=>e)
 | k+1,i,s,Q,hle,st,hQ=>by
  show wpAny _ _ (pyNext (.ref I) >>= _) Q E s
  refine wpAny_bind (W.item i s _ E (by omega) st fun v h1 tk1 hv st1 k1=>?_)
  refine wpAny_bind (wpAny_holding (aaU W k (i+1) _ _ (by omega) st1 fun vs h2 tk2 hl hp st2 k2=>wpAny_pure ?_))
  refine hQ (v :: vs) h2 tk2 (by rw [alC,hl]) (fun j u e=>?_) (by rw [show i+(k+1)=i+1+k by omega];exact st2) fun b o hb e=>k2 b o hb (k1 b o hb e)
  cases j with
  | zero=>cases e;exact hv
  | succ j =>
   have:=hp j u e
   rwa [show i+(j+1)=i+1+j by omega]
theorem adz {s:Shared} {a:Addr} {items:Array Value} {targets:List (Bool×(Value->Sem Unit))} {Q:Unit->Shared->Prop} (hh:A.handled=none) (hl:s.heap.IsList a items)
  (hn:targets.length=items.size) (hstar:targets.findIdx? (·.1)=none)
  (h:∀ h' tk,(∀ b o,s.heap.get? b=some o->h'.get? b=some o)->wpAny (model prog w) A (assignInOrder (targets.map (·.2)) items.toList) Q E { s with heap:=h',toks:=tk }):wpAny (model prog w) A (unpack (.ref a) targets) Q E s:=by
 have ha:a<s.heap.objs.size:=by
  obtain⟨o,ho,_⟩:=hl
  exact alz ho
 unfold unpack
 rw [hn,hstar]
 refine wpAny_bind (wpAny_holding ?_)
 unfold unpackItems
 refine wpAny_bind ?_
 unfold notIterableAtAll
 refine wpAny_bind (wpAny_specialOf hl.typeIs slot_list_iter.lookup (wpAny_pure ?_))
 simp only [al5,if_false]
 refine wpAny_bind (wpAny_holding (wpAny_pyIter_list hl ?_))
 have W:=Walks.list (prog:=prog) (w:=w) hh s.heap.objs.size a (al1 ha) items
 have fr:∀ b o,s.heap.get? b=some o->b∉[s.heap.objs.size]:=fun b o e z=>by
  have:=alz e
  rw [alK.mp z] at this
  exact amQ _ this
 refine wpAny_bind (wpAny_holding (aaU W items.size 0 _ _ (by omega) ⟨⟨_,al7 _ rfl,rfl,rfl⟩,hl.at fun o e=>alw _ e⟩ fun vs h1 tk1 hvl hp st1 k1=>?_))
 have ev:vs=items.toList:=by
  refine anP fun j=>?_
  by_cases hj:j<vs.length
  ·have:=hp j _ (alb hj)
   rw [amO] at this
   rw [alb hj,<- this,aoY]
  ·rw [alN (by omega),alN (by rw [aly];omega)]
 subst ev
 rw [if_neg (by simp)]
 rw [amO] at st1
 refine wpAny_bind (wpAny_holding (W.done _ _ _ st1 fun h2 tk2 k2=>?_))
 simp only [Option.isSome_none,al5,if_false]
 exact wpAny_pure (h h2 tk2 fun b o e=>k2 b o (fr b o e) (k1 b o (fr b o e) (alw _ e)))
end
noncomputable def akP (K:alg) (n:Nat) (gs:TGs):TG:=fun v σ H Q=>∃ a xs,v=.ref a/\SqL K H a xs/\xs.length=n/\gs xs σ H Q
theorem aej {X:Cx} {K:alg} {es:List Expr} {k:Nat} {t:TGs} {n:Nat} {pos:Pos} (hK:X.K=K) (hc:X.calm=true) (h:PGs X es t)
  (hn:(assignEach es X.env).length=n:=by rfl) (hst:(assignEach es X.env).findIdx? (·.1)=none:=by rfl):PG X (.Tuple es k pos) (akP K n t):=by
 subst hK
 intro pins s σ H v u Q I r hw
 obtain⟨a,xs,e1,hq,hl,hw⟩:=hw
 subst e1
 cases r
 obtain⟨its,rv,p,hz⟩:=I.list hq
 rw [assign_Tuple]
 refine wpAny_bind (wpAny_standAt (adz (I.ok.hd hc) p.isList (by rw [hn,<- hl,rv.length,alA]) hst fun h' tk kp=>?_))
 exact h pins _ σ H xs _ Q (I.kept (t':=tk) kp) rv hw
section
variable {K:alg} {f:Fx} {ρ:zp}
theorem ajg {n:Nat} {gs:TGs} {ds:List PyData} {R:zp->Prop} (hn:ds.length=n) (h:agB K f gs ds ρ R):PGd K f (akP K n gs) (.list ds) ρ R:=fun σ H v Q e r q=>by
 obtain⟨a,xs,rfl,h1,h2⟩:=rep_list.mp r
 exact⟨a,xs,rfl,(zj _ _).seq h1,by rw [h2.length];exact hn,h σ H xs Q e h2 q⟩
end
section
variable {X:Cx} {pins:List (Addr×Obj)} {σ:St} {H:Hp} {s:Shared}
theorem aft {K:alg} (hK:X.K=K):OpR X (compareOp .NotIn) (rIn K true):=hK▸abj
end
section
variable {K:alg} {f:Fx} {ρ:zp} {P:PyData->Prop} {te ta tb:TE} {t:TA} {D:DEnds} {i j:Nat}
theorem agI (h:PEd K f ta ρ fun d=>∃ n:Int,d=.int n/\PEd K f tb ρ fun y=>∃ ns:List Int,y=.tuple (ns.map .int)/\P (.bool (!ns.contains n))):PEd K f (tOp (rIn K true) ta tb) ρ P:=fun σ H Q e q =>
 h σ H _ e fun d v H1 g1 r1 ⟨n,ed,p1⟩=>p1 σ H1 _ (e.mono g1) fun y w H2 g2 r2 ⟨ns,ey,p2⟩=>by
  subst ed ey
  obtain⟨a,xs,rfl,h1,h2⟩:=rep_tuple.mp r2
  have ex:=h2.ints
  subst ex
  rw [rep_int.mp r1]
  have e1:inV (.int n) (ns.map V.int)=ns.contains n:=by
   unfold inV
   rw [List.any_map,List.contains_eq_any_beq]
   congr 1
   funext m
   show (m == n)=(n == m)
   exact BEq.comm
  refine⟨a,_,rfl,.inr ((zj _ _).seqT h1),rfl,?_,?_⟩
  ·rw [List.all_map]
   exact aob.mpr fun _ _=>rfl
  ·rw [if_pos rfl,e1]
   exact q _ _ H2 (g1.trans g2) (rep_bool.mpr rfl) p2
end
end L2
end
section
namespace L2
open PySem PySem.Spec PyProof.Rows
end L2
end
section
namespace L2
open PySem PySem.Spec PyProof.Rows
end L2
end
section
namespace L2
open PySem PySem.Spec PyProof.Rows
noncomputable def ajW (K:alg):List V->Hp->VK->Prop:=fun xs H Q=>∃ (a:Addr) (ns:List Int),xs=[.ref a]/\SqL K H a (ns.map V.int)/\Q (.int ns.sum) H
theorem afu {X:Cx} (hc:X.calm=true):yg X (.builtin "sum") (ajW X.K):=by
 intro pins s σ H xs us Q I r h
 obtain⟨a,ns,rfl,hq,q⟩:=h
 obtain⟨u,rfl,r1⟩:=vals1 r
 cases r1
 obtain⟨its,rv,p,_⟩:=I.list hq
 have hl:=p.isList
 have hi:IntsAre its ns:=intsAre_of rv
 obtain⟨zs,ez⟩:=hi.allInts.items
 rw [ez] at hl
 refine sum_intListG (show (X.A).handled=none from I.ok.hd hc) hl fun h' tk t' kp=>⟨.int _,H,I.kept (t':=tk) kp,⟨_,rfl⟩,?_⟩
 have e:preSum (numAt zs) zs.size=ns.sum:=by
  rw [<-hi.numsOf,show its=its.toArray.toList from rfl,ez,nums_intItems,preSum_eq,alO (by simp)]
 rw [e]
 exact q
theorem adA {X:Cx} {K:alg} (hK:X.K=K) (hc:X.calm=true):yg X (.builtin "sum") (ajW K):=hK▸afu hc
section
variable {K:alg} {f:Fx} {ρ:zp} {P:PyData->Prop} {te:TE}
theorem akQ (h:PEd K f te ρ fun x=>∃ ns:List Int,x=.list (ns.map .int)/\P (.int ns.sum)):PEd K f (tCB (ajW K) (yx te jZ)) ρ P:=fun σ H Q e q=>h σ H _ e fun x v H1 g1 r1 ⟨ns,ex,p⟩=>by
 subst ex
 obtain⟨a,xs,rfl,h1,h2⟩:=rep_list.mp r1
 rw [h2.ints] at h1
 exact⟨a,ns,rfl,(zj _ _).seq h1,q _ _ H1 g1 (rep_int.mpr rfl) p⟩
end
section
variable {prog:Program} {w:World} {A:Around} {E:Value->Shared->Prop} {s:Shared}
theorem ah4 {t b:Addr} {vs ws:List Value} {Q:Value->Shared->Prop} (ht:PlainL s.heap t vs.toArray) (hb:PlainL s.heap b ws.toArray)
  (h2:Q (.ref s.heap.objs.size) { s with heap:=s.heap.push { cls:=.type "list",data:=.seq (vs++ws).toArray } })
  (hsz:vs.length+ws.length<=sizeLine):wpAny (model prog w) A (binaryOp .Add (.ref t) (.ref b)) Q E s:=by
 obtain⟨⟨cls,dd,data,sl⟩,n,ho,hc,_,hd⟩:=ht
 obtain⟨⟨cls2,dd2,data2,sl2⟩,n2,ho2,hc2,_,hd2⟩:=hb
 simp only at hc hd hc2 hd2
 subst hc hd hc2 hd2
 have e:vs.toArray++ws.toArray=(vs++ws).toArray:=by simp
 refine concat_meets ⟨_,ho,rfl⟩ ⟨_,ho2,rfl⟩ noFill_list_add seq_list_add PySem.F.slot_list_add PySem.F.entry_list_add (PySem.F.args_list_add_2 _ _) (list_addW t b vs.toArray ws.toArray n n2 dd dd2 sl sl2 (by rw [alA,alA];exact hsz)) ⟨ho,ho2,?_⟩
 rw [e]
 exact h2
end
noncomputable def agJ (K:alg):R2:=fun x y H Q=>∃ l b xs zs,x=.ref l/\y=.ref b/\SqL K H l xs/\SqL K H b zs/\xs.length+zs.length<=sizeLine/\∀ p,H p=none->Q (.ref p) (upd H p (.lst (xs++zs)))
section
variable {X:Cx}
theorem ah5:OpR X (binaryOp .Add) (agJ X.K):=by
 intro pins s σ H x y v u Q I rx ry h
 obtain⟨l,b,xs,zs,rfl,rfl,ha,hb,hz,q⟩:=h
 cases rx
 cases ry
 obtain⟨its,r1,p1,_⟩:=I.list ha
 obtain⟨its2,r2,p2,_⟩:=I.list hb
 refine ah4 p1 p2 ?_ (by rw [<-r1.length,<- r2.length];exact hz)
 exact⟨.ref _,_,I.lnew (t':=s.toks) (r1.append r2) (by rw [alr];omega),rfl,q _ I.fresh⟩
theorem acv {K:alg} (hK:X.K=K):OpR X (binaryOp .Add) (agJ K):=hK▸ah5
end
section
variable {K:alg} {f:Fx} {ρ:zp} {P:PyData->Prop} {te ta tb:TE} {t:TA}
theorem agK (h:PEd K f ta ρ fun x=>∃ ds,x=.list ds/\PEd K f tb ρ fun y=>∃ es,y=.list es/\ds.length+es.length<=1000/\P (.list (ds++es))):PEd K f (tOp (agJ K) ta tb) ρ P:=fun σ H Q e q =>
 h σ H _ e fun x v H1 g1 r1 ⟨ds,ex,p1⟩=>p1 σ H1 _ (e.mono g1) fun y w H2 g2 r2 ⟨es,ey,hl,p2⟩=>by
  subst ex ey
  obtain⟨a,xs,rfl,h1,h2⟩:=rep_list.mp (Rep.mono g2.sm _ _ r1)
  obtain⟨b,ys,rfl,h3,h4⟩:=rep_list.mp r2
  have l1:=h2.length
  have l2:=h4.length
  refine⟨a,b,xs,ys,rfl,rfl,(zj _ _).seq h1,(zj _ _).seq h3,by rw [l1,l2];exact amM (ye hl),fun p hn=>?_⟩
  have g3:Goes f H2 (upd H2 p (.lst (xs++ys))):=.of_same (z4 hn _) g2.ok
  exact q (.list (ds++es)) _ _ (g1.trans (g2.trans g3)) (rep_list.mpr ⟨p,_,rfl,.of (zv (fresh_ne g2.ok hn) zB),Reps.mono g3.sm _ _ (h2.append h4)⟩) p2
theorem acw {R:List PyData->Prop} (h:PAd K f t ρ fun xs=>∃ ds,jN xs=some ds/\ds.length<=1000/\R ds):PEdO K f (agg t) ρ R:=fun σ H Q e q =>
 h σ H _ e fun xs vs H1 g1 r1 ⟨ds,ea,hl,p⟩=>by
  have rs:=qm r1 ea
  refine⟨by rw [rs.length];exact amM (ye hl),fun l hn=>?_⟩
  have g2:Goes f H1 (upd H1 l (.lst vs)):=.of_same (z4 hn _) g1.2
  have nl:=fresh_ne g1.2 hn
  refine q ds l vs _ (g1.trans g2) (g1.free e.fd hn) zB (Reps.mono (fun b o hb=>?_) _ _ rs) p
  have hb':=zG hb
  have hbl:b≠l:=fun z=>by
   have:=hb'.2
   rw [z,hn] at this
   cases this
  refine zv (fun z=>?_) (by rw [zx hbl];exact hb'.2)
  rcases z with z | z
  ·exact hb'.1 (.inl z)
  ·rcases alp.mp z with z | z
   ·exact hbl z
   ·exact hb'.1 (.inr z)
end
noncomputable def spN {γ:Type} (K:alg) (n:Nat) (pre:γ->List DV->Prop) (post:γ->List PyData->Prop):Sp:=fun vs H Q _=>∃ f xs c,RepVs K f H xs vs/\xs.length=n/\FOk f H/\pre c xs /\
 ∀ es D vs' H',Goes f H H'->H D=none->H' D=some (.lst vs')->Reps K (hide H' (f.with D)) es vs'->post c es->Q (.ref D) H'
noncomputable def PSn (K:alg) (f:Fx) (ts:TS) (ρ:zp) (R:List PyData->Prop):Prop:=∀ (σ:St) (H:Hp) (E:Ends),EnvOk K f ρ σ H ->
 (∀ es D vs H',Goes f H H'->H D=none->H' D=some (.lst vs)->Reps K (hide H' (f.with D)) es vs->R es->E.rt (.ref D) H')->ts E σ H
section
variable {K:alg} {f:Fx} {ρ:zp} {R:List PyData->Prop} {te:TE} {ts tu:TS} {tt:TT} {t:TA} {i:Nat} {D:Addr} {es:List PyData} {O:OEnds}
theorem acx (h:PEdO K f te ρ R):PSn K f (ae8 te) ρ R:=fun σ H E e q=>h σ H E.rt e q
theorem aaj (h:PSd K f ts ρ { nx:=fun ρ'=>PSn K f tu ρ' R,rt:=fun _=>False }):PSn K f (vj ts tu) ρ R:=fun σ H E e q =>
 h σ H _ e (fun ρ' σ' H' g' e' p=>p σ' H' E e' fun es D vs H2 g2 hn h1 rs r=>q es D vs H2 (g'.trans g2) (g'.free e.fd hn) h1 rs r) (fun _ _ _ _ _ z=>z.elim) (fun _ _ _ _ _ z=>z.elim) (fun _ _ _ _ _ z=>z.elim)
theorem ajh (h:PTd K f tt ρ fun b=>if b=true then PEdO K f te ρ R else PSn K f tu ρ R):PSn K f (vj (af6 tt (ae8 te) ab4) tu) ρ R:=fun σ H E e q =>
 h σ H _ e fun b H1 g1 p=>by
  have q1:∀ es D vs H',Goes f H1 H'->H1 D=none->H' D=some (.lst vs)->Reps K (hide H' (f.with D)) es vs->R es->E.rt (.ref D) H':=fun es D vs H' g' hn=>q es D vs H' (g1.trans g') (g1.free e.fd hn)
  cases b with
  | true=>rw [if_pos rfl] at p ⊢;exact p σ H1 E.rt (e.mono g1) q1
  | false=>rw [if_neg ald] at p ⊢;exact p σ H1 E (e.mono g1) q1
theorem aak {γ:Type} {n:Nat} {pre:γ->List DV->Prop} {post:γ->List PyData->Prop} {E:XK} (c:γ) (h:PAd K f t ρ fun xs=>xs.length=n/\pre c xs/\∀ es,post c es->R es):PEdO K f (ab9 (spN K n pre post) [] E t) ρ R:=fun σ H Q e q =>
 h σ H _ e fun xs vs H1 g1 r1 ⟨hl,hp,k⟩=>⟨f,xs,c,by rw [al4];exact r1,hl,g1.2,hp,fun es D vs' H' g' hn h1 rs p=>q es D vs' H' (g1.trans g') (g1.free e.fd hn) h1 rs (k es p)⟩
theorem aji {ta tb:TE} (h:PTd K f tt ρ fun b=>if b=true then PEdO K f ta ρ R else PEdO K f tb ρ R):PEdO K f (tIf tt ta tb) ρ R:=fun σ H Q e q =>
 h σ H _ e fun b H1 g1 p=>by
  have q1:∀ es D vs H',Goes f H1 H'->H1 D=none->H' D=some (.lst vs)->Reps K (hide H' (f.with D)) es vs->R es->Q (.ref D) H':=fun es D vs H' g' hn=>q es D vs H' (g1.trans g') (g1.free e.fd hn)
  cases b with
  | true=>rw [if_pos rfl] at p ⊢;exact p σ H1 Q (e.mono g1) q1
  | false=>rw [if_neg ald] at p ⊢;exact p σ H1 Q (e.mono g1) q1
end
section
variable {P:Program} {w:World} {K:alg} {mg:Str->Option Value} {base:Heap} {k:Nat} {x:Str} {st:Stmt} {ps:List Str} {N:List Str} {n:Nat} {γ:Type} {pre:γ->List DV->Prop} {post:γ->List PyData->Prop}
theorem Def.okN (F:Def K mg x st ps) (S:FnScope N ps (zi st)) (hn:ps.length=n)
  (h:∀ (fa:Addr) (cdv:Value) (A:Around) (outer:List Env) (s:Shared) (H:Hp) (E:XK),Room k (A.deeper (envOfC x (zi st) s.heap.objs.size fa cdv)) ->
   ∃ t,PSs (yj CX0 P w K mg base N x (zi st) fa cdv A outer s H E).nox (yl st) t/\∀ (f:Fx) (xs:List DV) (c:γ),xs.length=n->pre c xs->PSn K f t (j8 N xs) (post c)) :
  FnIn P w K mg base (k+1) x ps (spN K n pre post):=by
 obtain⟨fa,fd,F1,F2,F3⟩:=F.ex
 refine⟨fa,fd,F1.ok S (fun vs H Q E h=>?_) (fun cdv A outer s H vs Q E hr hs=>?_),F3,F1.kp,F2⟩
 ·obtain⟨f,xs,c,r,hl,_⟩:=h
  rw [r.length,hl,hn]
 ·obtain⟨f,xs,c,r,hl,fo,hp,q⟩:=hs
  obtain⟨t,h1,h2⟩:=h fa cdv A outer s H E hr
  exact⟨t,h1,h2 f xs c hl hp (start N vs) H _ (qo r fo) (fun es D vs' H' g hn' h1' rs p=>q es D vs' H' g hn' h1' rs p)⟩
end
end L2
end
section
namespace L2
open PySem PySem.W PyProof.Rows
structure Tot (n:Nat) (lt:Nat->Nat->Bool):Prop where
 tri:∀ i j,i<n->j<n->i≠j->lt i j=!lt j i
 tra:∀ i j k,i<n->j<n->k<n->lt i j=true->lt j k=true->lt i k=true
noncomputable def Ans (cmp:Nat->Nat->(Bool->Shared->Prop)->Shared->Prop) (n:Nat) (lt:Nat->Nat->Bool) (s:Shared):Prop:=∀ i j C,i<n->j<n->C (lt i j) s->cmp i j C s
noncomputable def Pm (n:Nat) (p:Array Nat):Prop:=p.toList.Perm (alo n)
noncomputable def Up (lt:Nat->Nat->Bool) (p:Array Nat) (m:Nat):Prop:=∀ i j,i<j->j<m->lt (p.getD i 0) (p.getD j 0)=true
noncomputable def Dn (lt:Nat->Nat->Bool) (p:Array Nat) (m:Nat):Prop:=∀ i j,i<j->j<m->lt (p.getD j 0) (p.getD i 0)=true
theorem Pm.size {n:Nat} {p:Array Nat} (h:Pm n p):p.size=n:=by
 have:=h.length_eq
 rwa [aly,alS] at this
theorem jn (p:Array Nat) (i:Nat):p.getD i 0=p.toList.getD i 0:=by
 by_cases h:i<p.size <;> simp [amT,h,alY]
theorem Pm.lt {n:Nat} {p:Array Nat} (h:Pm n p) {i:Nat} (hi:i<n):p.getD i 0<n:=by
 have hs:=h.size
 have hl:i<p.toList.length:=by rw [aly,hs];exact hi
 rw [jn,alh,alb hl]
 exact alQ.mp (h.mem_iff.mp (alc hl))
theorem Pm.ne {n:Nat} {p:Array Nat} (h:Pm n p) {i j:Nat} (hi:i<n) (hj:j<n) (ne:i≠j):p.getD i 0≠p.getD j 0:=by
 have hs:=h.size
 have nd:p.toList.Nodup:=h.nodup_iff.mpr anx
 have li:i<p.toList.length:=by rw [aly,hs];exact hi
 have lj:j<p.toList.length:=by rw [aly,hs];exact hj
 rw [jn,jn,alh,alh,alb li,alb lj]
 intro e
 exact ne ((anw nd).mp e)
theorem Pm.range (n:Nat):Pm n (amj (alo n)):=List.Perm.refl _
theorem Pm.of {n:Nat} {p q:Array Nat} (h:Pm n p) (e:q.Perm p):Pm n q:=(Array.perm_iff_toList_perm.mp e).trans h
theorem aek {p q:Array Nat} {i j:Nat} (h:p[i]?=q[j]?):p.getD i 0=q.getD j 0:=by
 rw [amP,amP,h]
section
variable {cmp:Nat->Nat->(Bool->Shared->Prop)->Shared->Prop} {n:Nat} {lt:Nat->Nat->Bool} {s:Shared} {p:Array Nat}
theorem Up.more (T:Tot n lt) (hp:Pm n p) {m:Nat} (h1:1<=m) (hm:m<n) (u:Up lt p m) (h:lt (p.getD (m - 1) 0) (p.getD m 0)=true):Up lt p (m+1):=fun i j hij hj=>by
 by_cases e:j=m
 ·subst e
  by_cases e2:i=j - 1
  ·subst e2;exact h
  ·exact T.tra _ _ _ (hp.lt (by omega)) (hp.lt (by omega)) (hp.lt hm) (u i (j - 1) (by omega) (by omega)) h
 ·exact u i j hij (by omega)
theorem Dn.more (T:Tot n lt) (hp:Pm n p) {m:Nat} (h1:1<=m) (hm:m<n) (u:Dn lt p m) (h:lt (p.getD m 0) (p.getD (m - 1) 0)=true):Dn lt p (m+1):=fun i j hij hj=>by
 by_cases e:j=m
 ·subst e
  by_cases e2:i=j - 1
  ·subst e2;exact h
  ·exact T.tra _ _ _ (hp.lt hm) (hp.lt (by omega)) (hp.lt (by omega)) h (u i (j - 1) (by omega) (by omega))
 ·exact u i j hij (by omega)
theorem vQ (T:Tot n lt) (W:Ans cmp n lt s) (hp:Pm n p) {Q:Nat->Shared->Prop}:∀ f m,1<=m->m+f<=n->Up lt p m->(∀ m',m<=m'->m'<=m+f->Up lt p m'->(m'=m+f \/ lt (p.getD m' 0) (p.getD (m' - 1) 0)=true)->Q m' s)->(kas_asc p f m).kasWp cmp Q s
 | 0,m,h1,hf,u,q=>q m (ali _) (ali _) u (.inl rfl)
 | f+1,m,h1,hf,u,q=>by
  refine W _ _ _ (hp.lt (by omega)) (hp.lt (by omega)) ?_
  cases e:lt (p.getD m 0) (p.getD (m - 1) 0) with
  | true=>exact q m (ali _) (by omega) u (.inr e)
  | false =>
   have e2:lt (p.getD (m - 1) 0) (p.getD m 0)=true:=by
    rw [T.tri _ _ (hp.lt (by omega)) (hp.lt (by omega)) (hp.ne (by omega) (by omega) (by omega)),e]
    rfl
   exact vQ T W hp f (m+1) (by omega) (by omega) (u.more T hp h1 (by omega) e2) fun m' a b c d=>q m' (by omega) (by omega) c (d.imp (fun z=>by omega) id)
theorem acy (T:Tot n lt) (W:Ans cmp n lt s) (hp:Pm n p) {Q:Array Nat×Nat×Nat->Shared->Prop}:∀ f m,1<=m->m+f<=n->Dn lt p m->(∀ m',m<=m'->m'<=m+f->Dn lt p m'->Q (p,m',0) s)->(kas_desc f p m 0).kasWp cmp Q s
 | 0,m,h1,hf,u,q=>q m (ali _) (ali _) u
 | f+1,m,h1,hf,u,q=>by
  refine W _ _ _ (hp.lt (by omega)) (hp.lt (by omega)) ?_
  cases e:lt (p.getD m 0) (p.getD (m - 1) 0) with
  | true=>exact acy T W hp f (m+1) (by omega) (by omega) (u.more T hp h1 (by omega) e) fun m' a b c=>q m' (by omega) (by omega) c
  | false =>
   have e2:lt (p.getD (m - 1) 0) (p.getD m 0)=true:=by
    rw [T.tri _ _ (hp.lt (by omega)) (hp.lt (by omega)) (hp.ne (by omega) (by omega) (by omega)),e]
    rfl
   refine W _ _ _ (hp.lt (by omega)) (hp.lt (by omega)) ?_
   rw [e2]
   exact q m (ali _) (by omega) u
theorem ajX {m:Nat} (hm:m<=p.size) (d:Dn lt p m):Up lt (kas_rev p 0 m) m:=fun i j hij hj=>by
 have g:∀ k,k<m->(kas_rev p 0 m).getD k 0=p.getD (m - 1 - k) 0:=fun k hk=>aek (by
  unfold kas_rev
  rw [getElem?_mirror_all hm,if_pos ⟨alD _,hk⟩,amO])
 rw [g i (by omega),g j hj]
 exact d _ _ (by omega) (by omega)
theorem afv (T:Tot n lt) (W:Ans cmp n lt s) (hp:Pm n p) (hn:1<=n) {Q:Nat×Array Nat->Shared->Prop} (q:∀ m p',1<=m->m<=n->Pm n p'->Up lt p' m->Q (m,p') s):(kas_count n p).kasWp cmp Q s:=by
 unfold kas_count
 rw [KasT.kasWp_bind]
 refine vQ T W hp (n - 1) 1 (ali _) (by omega) (fun i j a b=>by omega) fun m h1 h2 u c=>?_
 by_cases e:(m == n)=true
 ·rw [if_pos e]
  exact q m p h1 (by omega) hp u
 ·rw [if_neg e]
  have hm:m<n:=by
   have:m≠n:=fun z=>e (by rw [z];exact beq_self_eq_true _)
   omega
  by_cases e2:m > 1
  ·rw [if_pos e2]
   refine W _ _ _ (hp.lt (by omega)) (hp.lt (by omega)) ?_
   rw [u 0 (m - 1) (by omega) (by omega)]
   exact q m p h1 (by omega) hp u
  ·rw [if_neg e2]
   obtain rfl:m=1:=by omega
   have c':lt (p.getD 1 0) (p.getD (1 - 1) 0)=true:=c.resolve_left (by omega)
   unfold kas_descPart
   rw [KasT.kasWp_bind]
   refine acy T W hp (n - (1+1)) (1+1) (by omega) (by omega) (Dn.more T hp (ali 1) hm (fun i j a b=>by omega) c') fun m' a b d=>?_
   rw [if_neg (by show ¬ (0 > 0);omega)]
   unfold kas_tail3
   rw [KasT.kasWp_bind]
   have hp2:Pm n (kas_rev p 0 m'):=hp.of (mirror_perm _ _ _ _)
   exact vQ T W hp2 (n - m') m' (by omega) (by omega) (ajX (by rw [hp.size];omega) d) fun m2 a2 b2 u2 _=>q m2 _ (by omega) (by omega) hp2 u2
theorem vq (T:Tot n lt) (W:Ans cmp n lt s) (hp:Pm n p) {k:Nat} (hk:k<n) (u:Up lt p k) {Q:Nat->Shared->Prop}:∀ f l r,r - l<=f->l<=r->r<=k->(∀ i,i<l->lt (p.getD i 0) (p.getD k 0)=true)->(∀ i,r<=i->i<k->lt (p.getD k 0) (p.getD i 0)=true) ->
  (∀ m,m<=k->(∀ i,i<m->lt (p.getD i 0) (p.getD k 0)=true)->(∀ i,m<=i->i<k->lt (p.getD k 0) (p.getD i 0)=true)->Q m s)->(kas_place p k f l r).kasWp cmp Q s
 | 0,l,r,hf,hlr,hr,lo,hi,q=>by
  obtain rfl:l=r:=by omega
  exact q l hr lo hi
 | f+1,l,r,hf,hlr,hr,lo,hi,q=>by
  unfold kas_place
  by_cases e:l >= r
  ·rw [if_pos e]
   obtain rfl:l=r:=by omega
   exact q l hr lo hi
  ·rw [if_neg e]
   refine W _ _ _ (hp.lt hk) (hp.lt (by omega)) ?_
   have hm:(l+r) / 2<k:=by omega
   cases e2:lt (p.getD k 0) (p.getD ((l+r) / 2) 0) with
   | true =>
    refine vq T W hp hk u f l ((l+r) / 2) (by omega) (by omega) (by omega) lo (fun i h1 h2=>?_) q
    by_cases e3:i=(l+r) / 2
    ·rw [e3];exact e2
    ·exact T.tra _ _ _ (hp.lt hk) (hp.lt (by omega)) (hp.lt (by omega)) e2 (u _ _ (by omega) h2)
   | false =>
    have e4:lt (p.getD ((l+r) / 2) 0) (p.getD k 0)=true:=by
     rw [T.tri _ _ (hp.lt (by omega)) (hp.lt hk) (hp.ne (by omega) hk (by omega)),e2]
     rfl
    refine vq T W hp hk u f ((l+r) / 2+1) r (by omega) (by omega) hr (fun i h1=>?_) hi q
    by_cases e3:i=(l+r) / 2
    ·rw [e3];exact e4
    ·exact T.tra _ _ _ (hp.lt (by omega)) (hp.lt (by omega)) (hp.lt hk) (u _ _ (by omega) hm) e4
theorem ajY {k m:Nat} (hk:k<p.size) (hm:m<=k) (u:Up lt p k) (lo:∀ i,i<m->lt (p.getD i 0) (p.getD k 0)=true) (hi:∀ i,m<=i->i<k->lt (p.getD k 0) (p.getD i 0)=true):Up lt (bubble p k (k - m)) (k+1):=fun i j hij hj=>by
 have g:∀ t,t<=k->(bubble p k (k - m)).getD t 0=p.getD (if t=m then k else if t<m then t else t - 1) 0:=fun t ht=>aek (by
  rw [getElem?_bubble hk (k - m) (by omega),show k - (k - m)=m by omega]
  by_cases e1:t=m
  ·rw [if_pos e1,if_pos e1]
  ·rw [if_neg e1,if_neg e1]
   by_cases e2:t<m
   ·rw [if_neg (by omega),if_pos e2]
   ·rw [if_pos (by omega),if_neg e2])
 rw [g i (by omega),g j (by omega)]
 by_cases a1:i=m
 ·rw [if_pos a1,if_neg (by omega),if_neg (by omega)]
  exact hi _ (by omega) (by omega)
 ·rw [if_neg a1]
  by_cases a2:j=m
  ·rw [if_pos a2,if_pos (by omega)]
   exact lo _ (by omega)
  ·rw [if_neg a2]
   by_cases a3:i<m
   ·rw [if_pos a3]
    by_cases a4:j<m
    ·rw [if_pos a4];exact u _ _ hij (by omega)
    ·rw [if_neg a4];exact u _ _ (by omega) (by omega)
   ·rw [if_neg a3,if_neg (by omega)]
    exact u _ _ (by omega) (by omega)
theorem ael (T:Tot n lt) (W:Ans cmp n lt s) {Q:Array Nat->Shared->Prop}:∀ f k (p:Array Nat),Pm n p->k+f=n->Up lt p k->(∀ p',Pm n p'->Up lt p' n->Q p' s)->(kas_bin f p k).kasWp cmp Q s
 | 0,k,p,hp,hf,u,q=>by
  obtain rfl:k=n:=by omega
  exact q p hp u
 | f+1,k,p,hp,hf,u,q=>by
  unfold kas_bin
  rw [KasT.kasWp_bind]
  refine vq T W hp (by omega) u k 0 k (by omega) (alD _) (ali _) (fun i hi=>by omega) (fun i a b=>by omega) fun m h1 lo hi=>?_
  exact ael T W f (k+1) _ (hp.of (bubble_perm _ _ _)) (by omega) (ajY (by rw [hp.size];omega) h1 u lo hi) q
theorem agL (T:Tot n lt) (W:Ans cmp n lt s) (hn:1<=n) {Q:Array Nat->Shared->Prop} (q:∀ p,Pm n p->Up lt p n->Q p s):(kas_sort n).kasWp cmp Q s:=by
 unfold kas_sort
 rw [KasT.kasWp_bind]
 refine afv T W (Pm.range n) hn fun m p h1 h2 hp u=>?_
 by_cases e:m<n
 ·show (if m<n then _ else _:KasT (Array Nat)).kasWp cmp Q s
  rw [if_pos e,show max m 1=m by omega]
  exact ael T W (n - m) m p hp (by omega) u q
 ·show (if m<n then _ else _:KasT (Array Nat)).kasWp cmp Q s
  rw [if_neg e]
  obtain rfl:m=n:=by omega
  exact q p hp u
end
end L2
end
section
set_option maxHeartbeats 400000
namespace L2
open PySem PySem.W PySem.Calls PyProof.Rows
noncomputable def ah6:Bool->Keyed->Array Keyed->Nat->Nat->Nat->StateT SortSt Sem (Option Nat):=sortPriv% PySem.Builtin.gallop
noncomputable def acz:Array Keyed->Array Keyed->StateT SortSt Sem (Array Keyed):=sortPriv% PySem.Builtin.mergeLo
noncomputable def acA:Array Keyed->Array Keyed->StateT SortSt Sem (Array Keyed):=sortPriv% PySem.Builtin.mergeHi
section
variable {P:Program} {w:World} {A:Around} {X:Value->Shared->Prop} {s:Shared} {κ:SortKind} {it:Array Keyed} {n:Nat} {lt:Nat->Nat->Bool}
noncomputable def WS (P:Program) (w:World) (A:Around) (X:Value->Shared->Prop) (s:Shared) {α:Type} (m:StateT SortSt Sem α) (Q:α->SortSt->Prop) (st:SortSt):Prop:=kasC (model P w) A X m (fun a st' s'=>s'=s/\Q a st') st s
theorem zd {α:Type} {a:α} {Q:α->SortSt->Prop} {st:SortSt} (h:Q a st):WS P w A X s (pure a:StateT SortSt Sem α) Q st:=kasC_pure ⟨rfl,h⟩
theorem zc {α β:Type} {m:StateT SortSt Sem α} {f:α->StateT SortSt Sem β} {Q:β->SortSt->Prop} {st:SortSt} (h:WS P w A X s m (fun a st'=>WS P w A X s (f a) Q st') st):WS P w A X s (m >>= f) Q st :=
 kasC_bind (wpAny_mono h (fun r s' ⟨e,q⟩=>by subst e;exact q) fun _ _ e=>e)
theorem z9 {α:Type} {m:StateT SortSt Sem α} {Q R:α->SortSt->Prop} {st:SortSt} (h:WS P w A X s m Q st) (k:∀ a st',Q a st'->R a st'):WS P w A X s m R st:=wpAny_mono h (fun r s' ⟨e,q⟩=>⟨e,k _ _ q⟩) fun _ _ e=>e
theorem yC {Q:SortSt->SortSt->Prop} {st:SortSt} (h:Q st st):WS P w A X s (get:StateT SortSt Sem SortSt) Q st:=kasC_get ⟨rfl,h⟩
theorem yf {f:SortSt->SortSt} {Q:PUnit->SortSt->Prop} {st:SortSt} (h:Q ⟨⟩ (f st)):WS P w A X s (modify f:StateT SortSt Sem PUnit) Q st:=kasC_modify ⟨rfl,h⟩
theorem jP {r:String} {Q:Unit->SortSt->Prop} {st:SortSt} (h:Q () st):WS P w A X s (liftM (rule r):StateT SortSt Sem Unit) Q st:=kasC_lift (wpAny_rule ⟨rfl,h⟩)
theorem agM {β:Type} {f:Nat->β->StateT SortSt Sem (ForInStep β)} {Q:β->SortSt->Prop} (I:Nat->β->SortSt->Prop):∀ (m a:Nat) (b:β) (st:SortSt),I a b st ->
  (∀ k b st,a<=k->k<a+m->I k b st->WS P w A X s (f k b) (fun r st'=>match r with | .done b'=>Q b' st' | .yield b'=>I (k+1) b' st') st)->(∀ b st,I (a+m) b st->Q b st)->WS P w A X s (forIn (apn a m) b f) Q st
 | 0,a,b,st,h,_,q=>kasC_nil ⟨rfl,q b st h⟩
 | m+1,a,b,st,h,step,q=>by
  rw [List.range'_succ]
  refine kasC_cons (wpAny_mono (step a b st (ali _) (by omega) h) (fun r s' hq=>?_) fun _ _ e=>e)
  obtain⟨r,st'⟩:=r
  obtain⟨e,hq⟩:=hq
  obtain rfl:s=s':=Eq.symm e
  cases r with
  | done b'=>exact⟨rfl,hq⟩
  | yield b'=>exact agM I m (a+1) b' st' hq (fun k b st h1 h2=>step k b st (by omega) (by omega)) fun b st h=>q b st (by rw [show a+(m+1)=a+1+m by omega];exact h)
theorem zN {β:Type} {a b:Nat} {c:β} {f:Nat->β->StateT SortSt Sem (ForInStep β)} {Q:β->SortSt->Prop} {st:SortSt} (I:Nat->β->SortSt->Prop) (h:I a c st) (hab:a<=b)
  (step:∀ k b' st,a<=k->k<b->I k b' st->WS P w A X s (f k b') (fun r st'=>match r with | .done b'=>Q b' st' | .yield b'=>I (k+1) b' st') st) (q:∀ b' st,I b b' st->Q b' st):WS P w A X s (forIn [a:b] c f) Q st :=
 kasC_range (agM I (b - a) a c st h (fun k b' st h1 h2=>step k b' st h1 (by omega)) fun b' st h=>q b' st (by rw [show b=a+(b - a) by omega];exact h))
theorem zA {arr:Array Keyed} {i:Nat} {x:Keyed} {Q:Keyed->SortSt->Prop} {st:SortSt} (hi:arr[i]?=some x) (h:Q x st):WS P w A X s (elem' arr i) Q st:=by
 unfold WS
 rw [elem'_eq,hi]
 exact zd h
theorem acB (W:Ans (kas_cmp P w A κ it) n lt s) {i j:Nat} {Q:Option Bool->SortSt->Prop} {st:SortSt} (hk:kindOf st=κ) (hi:i<n) (hj:j<n) (h:Q (some (lt i j)) st):WS P w A X s (lt' (kas_item it i) (kas_item it j)) Q st:=by
 unfold WS
 rw [lt'_eq]
 refine kasC_bind (kasC_get ?_)
 subst hk
 refine kasC_bind (kasC_lift (wpAny_attempt (wpAny_mono (show wpAny (model P w) A (keyLt' (kindOf st) (kas_item it i).1 (kas_item it j).1) (fun b s'=>s'=s/\b=lt i j) (fun _ _=>False) s from W i j _ hi hj ⟨rfl,rfl⟩) (fun c s' hc=>?_) fun _ _ hF=>hF.elim)))
 obtain⟨rfl,rfl⟩:=hc
 exact zd h
theorem ah7 {α:Type} {left:Bool} {m1 m2:StateT SortSt Sem α} {Q:α->SortSt->Prop} {st:SortSt} (h1:WS P w A X s m1 Q st) (h2:WS P w A X s m2 Q st):WS P w A X s (if left=true then m1 else m2) Q st:=by
 cases left with
 | true=>rw [if_pos rfl];exact h1
 | false=>rw [if_neg ald];exact h2
theorem yE (W:Ans (kas_cmp P w A κ it) n lt s) (T:Tot n lt) {left:Bool} {key:Nat} {arr:Array Keyed} {b m h:Nat} {x:Nat->Nat} {Q:Option Nat->SortSt->Prop} {st:SortSt} (hk:kindOf st=κ) (hh:h<m) (hy:key<n)
  (hx:∀ i,i<m->x i<n/\x i≠key/\arr[b+i]?=some (kas_item it (x i))) (up:∀ i j,i<j->j<m->lt (x i) (x j)=true)
  (q:∀ k,k<=m->(∀ i,i<k->lt (x i) key=true)->(∀ i,k<=i->i<m->lt (x i) key=false)->Q (some k) st):WS P w A X s (ah6 left (kas_item it key) arr b m h) Q st:=by
 have mono:∀ i j,i<=j->j<m->lt (x j) key=true->lt (x i) key=true:=fun i j hij hj hl=>by
  by_cases e:i=j
  ·subst e;exact hl
  ·exact T.tra _ _ _ (hx i (by omega)).1 (hx j hj).1 hy (up i j (by omega) hj) hl
 have mono2:∀ i j,i<=j->j<m->lt (x i) key=false->lt (x j) key=false:=fun i j hij hj hl=>by
  cases e:lt (x j) key with
  | false=>rfl
  | true=>rw [mono i j hij hj e] at hl;cases hl
 have ask:∀ {α:Type} {f:Option Bool->StateT SortSt Sem α} {R:α->SortSt->Prop} (i:Nat),i<m->WS P w A X s (f (some (lt (x i) key))) R st->WS P w A X s ((do let z <- elem' arr (b+i);if left=true then lt' z (kas_item it key) else do let r <- lt' (kas_item it key) z;pure (Option.map (fun c=>!c) r)) >>= f) R st:=fun {α f R} i hi hr=>by
  obtain⟨h1,h2,h3⟩:=hx i hi
  refine zc (zc (zA h3 (ah7 (acB W hk h1 hy hr) (zc (acB W hk hy h1 (zd ?_))))))
  have e:(!lt key (x i))=lt (x i) key:=(T.tri (x i) key h1 hy h2).symm
  show WS P w A X s (f (some (!lt key (x i)))) _ _
  rw [e]
  exact hr
 have fin:∀ {f:(Option (Option Nat)×Nat×Nat)->StateT SortSt Sem (Option Nat)} {body:Nat->(Option (Option Nat)×Nat×Nat)->StateT SortSt Sem (ForInStep (Option (Option Nat)×Nat×Nat))} (lo hi:Nat),lo<=hi->hi<=m->(∀ i,i<lo->lt (x i) key=true)->(∀ i,hi<=i->i<m->lt (x i) key=false) ->
   (∀ k,f (none,k,k)=pure (some k))->(∀ k lo hi R,(lo >= hi->R (.done (none,lo,hi)) st)->(lo<hi->lo+(hi - lo) / 2<m->R (.yield (if lt (x (lo+(hi - lo) / 2)) key=true then (none,lo+(hi - lo) / 2+1,hi) else (none,lo,lo+(hi - lo) / 2))) st)->hi<=m->WS P w A X s (body k (none,lo,hi)) R st)->WS P w A X s (forIn [0:m] (none,lo,hi) body >>= f) Q st:=fun {f body} lo hi h1 h2 h3 h4 hf hb=>by
  refine zc (zN (I:=fun k c st'=>st'=st/\∃ lo hi,c=(none,lo,hi)/\lo<=hi/\hi<=m/\(∀ i,i<lo->lt (x i) key=true)/\(∀ i,hi<=i->i<m->lt (x i) key=false)/\hi - lo+k<=m) ⟨rfl,lo,hi,rfl,h1,h2,h3,h4,by omega⟩ (alD _) ?_ ?_)
  ·rintro k _ _ _ hkm ⟨rfl,lo,hi,rfl,a1,a2,a3,a4,a5⟩
   refine hb k lo hi _ (fun hl=>?_) (fun hl hm=>?_) a2
   ·obtain rfl:lo=hi:=by omega
    show WS P w A X s (f (none,lo,lo)) Q _
    rw [hf]
    exact zd (q lo a2 a3 a4)
   ·cases e:lt (x (lo+(hi - lo) / 2)) key with
    | true =>
     rw [if_pos rfl]
     exact⟨rfl,_,_,rfl,by omega,a2,fun i hi'=>mono i _ (by omega) hm e,a4,by omega⟩
    | false =>
     rw [if_neg ald]
     exact⟨rfl,_,_,rfl,by omega,by omega,a3,fun i h1 h2=>mono2 _ i h1 h2 e,by omega⟩
  ·rintro _ _ ⟨rfl,lo,hi,rfl,a1,a2,a3,a4,a5⟩
   obtain rfl:lo=hi:=by omega
   show WS P w A X s (f (none,lo,lo)) Q _
   rw [hf]
   exact zd (q lo a2 a3 a4)
 refine ask h hh ?_
 cases e:lt (x h) key with
 | true =>
  refine zc (z9 (zN (Q:=fun c st'=>st'=st/\∃ la ofs,c=(none,la,ofs)/\la<ofs/\h+la<m/\lt (x (h+la)) key=true/\(m - h<=ofs \/ h+ofs<m/\lt (x (h+ofs)) key=false)) (I:=fun k c st'=>st'=st/\∃ la ofs,c=(none,la,ofs)/\la<ofs/\k+1<=ofs/\h+la<m/\lt (x (h+la)) key=true) ⟨rfl,0,1,rfl,by omega,by omega,by omega,e⟩ (alD _) ?_ ?_) ?_)
  ·rintro k _ _ _ hkm ⟨rfl,la,ofs,rfl,a1,a2,a3,a4⟩
   dsimp only
   by_cases g:ofs >= m - h
   ·rw [if_pos g]
    exact zd ⟨rfl,la,ofs,rfl,a1,a3,a4,.inl g⟩
   ·rw [if_neg g]
    refine ask (h+ofs) (by omega) ?_
    cases e2:lt (x (h+ofs)) key with
    | false=>exact zd ⟨rfl,la,ofs,rfl,a1,a3,a4,.inr ⟨by omega,e2⟩⟩
    | true=>exact zd ⟨rfl,ofs,2 * ofs+1,rfl,by omega,by omega,by omega,e2⟩
  ·rintro _ _ ⟨rfl,la,ofs,rfl,a1,a2,a3,a4⟩
   exact⟨rfl,la,ofs,rfl,a1,a3,a4,.inl (by omega)⟩
  ·rintro _ _ ⟨rfl,la,ofs,rfl,a1,a3,a4,a5⟩
   refine fin (h+la+1) (h+min ofs (m - h)) (by omega) (by omega) (fun i hi=>mono i (h+la) (by omega) a3 a4) (fun i h1 h2=>?_) (fun _=>rfl) fun k lo hi R r1 r2 hm=>?_
   ·rcases a5 with a5 | ⟨a5,a6⟩
    ·omega
    ·exact mono2 (h+ofs) i (by omega) h2 a6
   ·dsimp only
    by_cases g:lo >= hi
    ·rw [if_pos g]
     exact zd (r1 g)
    ·rw [if_neg g]
     refine ask (lo+(hi - lo) / 2) (by omega) ?_
     have r2:=r2 (by omega) (by omega)
     cases e2:lt (x (lo+(hi - lo) / 2)) key with
     | false=>rw [e2] at r2;exact zd r2
     | true=>rw [e2] at r2;exact zd r2
 | false =>
  refine zc (z9 (zN (Q:=fun c st'=>st'=st/\∃ la ofs,c=(none,la,ofs)/\la<ofs/\la<=h/\lt (x (h - la)) key=false/\(h+1<=ofs \/ ofs<=h/\lt (x (h - ofs)) key=true)) (I:=fun k c st'=>st'=st/\∃ la ofs,c=(none,la,ofs)/\la<ofs/\k+1<=ofs/\la<=h/\lt (x (h - la)) key=false) ⟨rfl,0,1,rfl,by omega,by omega,by omega,e⟩ (alD _) ?_ ?_) ?_)
  ·rintro k _ _ _ hkm ⟨rfl,la,ofs,rfl,a1,a2,a3,a4⟩
   dsimp only
   by_cases g:ofs >= h+1
   ·rw [if_pos g]
    exact zd ⟨rfl,la,ofs,rfl,a1,a3,a4,.inl g⟩
   ·rw [if_neg g]
    refine ask (h - ofs) (by omega) ?_
    cases e2:lt (x (h - ofs)) key with
    | true=>exact zd ⟨rfl,la,ofs,rfl,a1,a3,a4,.inr ⟨by omega,e2⟩⟩
    | false=>exact zd ⟨rfl,ofs,2 * ofs+1,rfl,by omega,by omega,by omega,e2⟩
  ·rintro _ _ ⟨rfl,la,ofs,rfl,a1,a2,a3,a4⟩
   exact⟨rfl,la,ofs,rfl,a1,a3,a4,.inl (by omega)⟩
  ·rintro _ _ ⟨rfl,la,ofs,rfl,a1,a3,a4,a5⟩
   refine fin (h+1 - min ofs (h+1)) (h - la) (by omega) (by omega) (fun i hi=>?_) (fun i h1 h2=>mono2 (h - la) i h1 h2 a4) (fun _=>rfl) fun k lo hi R r1 r2 hm=>?_
   ·rcases a5 with a5 | ⟨a5,a6⟩
    ·omega
    ·exact mono i (h - ofs) (by omega) (by omega) a6
   ·dsimp only
    by_cases g:lo >= hi
    ·rw [if_pos g]
     exact zd (r1 g)
    ·rw [if_neg g]
     refine ask (lo+(hi - lo) / 2) (by omega) ?_
     have r2:=r2 (by omega) (by omega)
     cases e2:lt (x (lo+(hi - lo) / 2)) key with
     | false=>rw [e2] at r2;exact zd r2
     | true=>rw [e2] at r2;exact zd r2
end
end L2
end
section
set_option maxHeartbeats 400000
namespace L2
open PySem PySem.W PySem.Calls PyProof.Rows
section
variable {it:Array Keyed} {n:Nat} {lt:Nat->Nat->Bool}
noncomputable def kit (it:Array Keyed) (l:List Nat):Array Keyed:=(l.map (kas_item it)).toArray
theorem je (l:List Nat):(kit it l).size=l.length:=by unfold kit;simp
theorem zE {l:List Nat} {i:Nat} (h:i<l.length):(kit it l)[i]?=some (kas_item it l[i]):=by unfold kit;simp [h]
theorem ym (l m:List Nat):kit it l++kit it m=kit it (l++m):=by unfold kit;simp
theorem yd (l:List Nat) (i j:Nat):(kit it l).extract i j=kit it ((l.drop i).take (j - i)):=by unfold kit;simp [List.extract_eq_take_drop,apf,apg]
theorem zJ (l:List Nat) (x:Nat):(kit it l).push (kas_item it x)=kit it (l++[x]):=by unfold kit;simp
structure MI (lt:Nat->Nat->Bool) (xs ys zs:List Nat) (ia ib:Nat):Prop where
 perm:zs.Perm (xs.take ia++ys.take ib)
 up:zs.Pairwise fun a b=>lt a b=true
 a:∀ z∈zs,∀ r∈xs.drop ia,lt z r=true
 b:∀ z∈zs,∀ r∈ys.drop ib,lt z r=true
theorem MI.swap {xs ys zs:List Nat} {ia ib:Nat} (h:MI lt xs ys zs ia ib):MI lt ys xs zs ib ia:=⟨h.perm.trans amc,h.up,h.b,h.a⟩
theorem MI.takeA {xs ys zs:List Nat} {ia ib:Nat} (h:MI lt xs ys zs ia ib) (px:xs.Pairwise fun a b=>lt a b=true) (k:Nat) (hy:∀ r∈(xs.drop ia).take k,∀ y∈ys.drop ib,lt r y=true):MI lt xs ys (zs++(xs.drop ia).take k) (ia+k) ib:=by
 have pd:(xs.drop ia).Pairwise fun a b=>lt a b=true:=px.sublist (anr _ _)
 have pc:=pd
 rw [<-alE k (xs.drop ia),alL] at pc
 have dd:xs.drop (ia+k)=(xs.drop ia).drop k:=by rw [List.drop_drop]
 refine⟨?_,?_,?_,?_⟩
 ·rw [List.take_add]
  refine (h.perm.append_right _).trans ?_
  rw [alH,alH]
  exact amo _ amc
 ·exact alL.mpr ⟨h.up,pc.1,fun z hz r hr=>h.a z hz r (alT hr)⟩
 ·intro z hz r hr
  rw [dd] at hr
  rcases alM.mp hz with hz | hz
  ·exact h.a z hz r (alU hr)
  ·exact pc.2.2 z hz r hr
 ·intro z hz r hr
  rcases alM.mp hz with hz | hz
  ·exact h.b z hz r hr
  ·exact hy z hz r hr
theorem MI.takeB {xs ys zs:List Nat} {ia ib:Nat} (h:MI lt xs ys zs ia ib) (py:ys.Pairwise fun a b=>lt a b=true) (k:Nat) (hx:∀ r∈(ys.drop ib).take k,∀ x∈xs.drop ia,lt r x=true):MI lt xs ys (zs++(ys.drop ib).take k) ia (ib+k):=(h.swap.takeA py k hx).swap
theorem drop_cons {l:List Nat} {i:Nat} (h:i<l.length):l.drop i=l[i] :: l.drop (i+1):=aoz h
theorem yN (T:Tot n lt) {l:List Nat} (bl:∀ x∈l,x<n) (pl:l.Pairwise fun a b=>lt a b=true) {i:Nat} (h:i<l.length) {z:Nat} (hz:z<n) (hl:lt z l[i]=true):∀ r∈l.drop i,lt z r=true:=fun r hr=>by
 have pd:(l.drop i).Pairwise fun a b=>lt a b=true:=pl.sublist (anr _ _)
 rw [drop_cons h] at hr pd
 rcases alp.mp hr with rfl | hr
 ·exact hl
 ·exact T.tra _ _ _ hz (bl _ (alc h)) (bl r (alU hr)) hl ((amS.mp pd).1 r hr)
theorem MI.pushA (T:Tot n lt) {xs ys zs:List Nat} {ia ib:Nat} (h:MI lt xs ys zs ia ib) (px:xs.Pairwise fun a b=>lt a b=true) (by_:∀ y∈ys,y<n) (bx:∀ x∈xs,x<n) (py:ys.Pairwise fun a b=>lt a b=true) (ha:ia<xs.length) (hy:∀ y∈ys.drop ib,lt xs[ia] y=true):MI lt xs ys (zs++[xs[ia]]) (ia+1) ib:=by
 have e:(xs.drop ia).take 1=[xs[ia]]:=by rw [drop_cons ha];rfl
 have:=h.takeA px 1 (by rw [e];intro r hr y hy';rw [alK.mp hr];exact hy y hy')
 rwa [e] at this
theorem MI.pushB (T:Tot n lt) {xs ys zs:List Nat} {ia ib:Nat} (h:MI lt xs ys zs ia ib) (px:xs.Pairwise fun a b=>lt a b=true) (by_:∀ y∈ys,y<n) (bx:∀ x∈xs,x<n) (py:ys.Pairwise fun a b=>lt a b=true) (hb:ib<ys.length) (hx:∀ x∈xs.drop ia,lt ys[ib] x=true):MI lt xs ys (zs++[ys[ib]]) ia (ib+1):=(h.swap.pushA T py bx by_ px hb hx).swap
theorem MI.done {xs ys zs:List Nat} {ia ib:Nat} (h:MI lt xs ys zs ia ib) (px:xs.Pairwise fun a b=>lt a b=true) (hb:ib=ys.length):(zs++xs.drop ia++ys.drop ib).Perm (xs++ys)/\(zs++xs.drop ia++ys.drop ib).Pairwise fun a b=>lt a b=true:=by
 subst hb
 rw [anz,al4]
 constructor
 ·refine (h.perm.append_right _).trans ?_
  rw [amf]
  refine List.Perm.trans ?_ ((amc (l₁:=xs.take ia++xs.drop ia) (l₂:=ys)).symm.trans (by rw [alE]))
  rw [alH]
  refine List.Perm.trans (amo _ amc) ?_
  rw [<-alH]
  exact amc
 ·exact alL.mpr ⟨h.up,px.sublist (anr _ _),h.a⟩
theorem MI.last {xs ys zs:List Nat} {ia ib:Nat} (h:MI lt xs ys zs ia ib) (px:xs.Pairwise fun a b=>lt a b=true) (py:ys.Pairwise fun a b=>lt a b=true) (hg:∀ y∈ys,∀ x∈xs.drop ia,lt y x=true):(zs++ys.drop ib++xs.drop ia).Perm (xs++ys)/\(zs++ys.drop ib++xs.drop ia).Pairwise fun a b=>lt a b=true:=by
 have h2:=h.takeB py (ys.length - ib) (fun r hr x hx=>hg r (alU (alT hr)) x hx)
 have e:(ys.drop ib).take (ys.length - ib)=ys.drop ib:=alO (by rw [alP];omega)
 rw [e] at h2
 by_cases hb:ib<=ys.length
 ·have:=h2.done px (by omega)
  rwa [show ib+(ys.length - ib)=ys.length by omega,anz,al4] at this
 ·have e0:ys.drop ib=[]:=aoQ (by omega)
  have e1:ys.take (ib+(ys.length - ib))=ys.take ys.length:=by rw [alO (by omega),amf]
  have h3:MI lt xs ys (zs++ys.drop ib) ia ys.length:=⟨by rw [<-e1];exact h2.perm,h2.up,h2.a,fun z _ r hr=>by rw [anz] at hr;cases hr⟩
  have:=h3.done px rfl
  rwa [anz,al4] at this
end
section
variable {P:Program} {w:World} {A:Around} {X:Value->Shared->Prop} {s:Shared} {κ:SortKind} {it:Array Keyed} {n:Nat} {lt:Nat->Nat->Bool}
noncomputable def sg (st:SortSt) (g:Nat):SortSt:=amy (kindOf st) (arrOf st) (pendingOf st) g (failedOf st)
theorem zr {α:Type} {c:Prop} [Decidable c] {m1 m2:StateT SortSt Sem α} {Q:α->SortSt->Prop} {st:SortSt} (h1:c->WS P w A X s m1 Q st) (h2:¬ c->WS P w A X s m2 Q st):WS P w A X s (if c then m1 else m2) Q st:=by
 by_cases h:c
 ·rw [if_pos h];exact h1 h
 ·rw [if_neg h];exact h2 h
theorem vR {st:SortSt} {g0 g:Nat} {Q:Unit->SortSt->Prop} (h:Q () (sg st g)):WS P w A X s ((sortPriv% PySem.Builtin.setMinGallop) g) Q (sg st g0):=yf h
structure Two (n:Nat) (lt:Nat->Nat->Bool) (xs ys:List Nat):Prop where
 bx:∀ x∈xs,x<n
 by_:∀ y∈ys,y<n
 px:xs.Pairwise fun a b=>lt a b=true
 py:ys.Pairwise fun a b=>lt a b=true
 ne:∀ x∈xs,∀ y∈ys,x≠y
theorem qa {l:List Nat} (h:l.Pairwise fun a b=>lt a b=true) {i j:Nat} (hij:i<j) (hj:j<l.length):lt l[i] l[j]=true:=alZ.mp h i j (by omega) hj hij
theorem adB (T:Tot n lt) {l m:List Nat} (bl:∀ x∈l,x<n) (pl:l.Pairwise fun a b=>lt a b=true) (bm:∀ x∈m,x<n) {key:Nat} (hk:key<n) (ne:∀ x∈l,key≠x) (i k:Nat) (hi:i+k<=l.length) (h1:∀ j,j<k->lt (l.getD (i+j) 0) key=true) (h2:∀ j,k<=j->j<l.length - i->lt (l.getD (i+j) 0) key=false) :
  (∀ r∈(l.drop i).take k,lt r key=true)/\∀ r∈l.drop (i+k),lt key r=true:=by
 constructor
 ·intro r hr
  obtain⟨j,hj,rfl⟩:=alJ hr
  rw [alq,alP] at hj
  have:=h1 j (by omega)
  have e:l.getD (i+j) 0=l[i+j]:=by simp [alY,show i+j<l.length by omega]
  rw [e] at this
  simpa using this
 ·intro r hr
  obtain⟨j,hj,rfl⟩:=alJ hr
  rw [alP] at hj
  have:=h2 (k+j) (by omega) (by omega)
  have hl:i+k+j<l.length:=by omega
  have e:l.getD (i+(k+j)) 0=l[i+k+j]:=by rw [<-aoc];simp [alY,hl]
  rw [e] at this
  rw [am2,T.tri _ _ hk (bl _ (alc _)) (ne _ (alc _)),this]
  rfl
theorem adC (W:Ans (kas_cmp P w A κ it) n lt s) (T:Tot n lt) {xs ys:List Nat} {st:SortSt} {g0:Nat} {Q:Array Keyed->SortSt->Prop} (hk:kindOf st=κ) (D:Two n lt xs ys) (hx:0<xs.length) (hy:0<ys.length) (first:lt ys[0] xs[0]=true) (last:∀ y∈ys,lt y xs[xs.length - 1]=true)
  (q:∀ zs g,zs.Perm (xs++ys)->(zs.Pairwise fun a b=>lt a b=true)->Q (kit it zs) (sg st g)):WS P w A X s (acz (kit it xs) (kit it ys)) Q (sg st g0):=by
 have sx:(kit it xs).size=xs.length:=je xs
 have sy:(kit it ys).size=ys.length:=je ys
 have fin:∀ {zs ia ib g},MI lt xs ys zs ia ib->ib=ys.length->Q (kit it zs++(kit it xs).extract ia (kit it xs).size++(kit it ys).extract ib (kit it ys).size) (sg st g):=fun {zs ia ib g} h hb=>by
  obtain⟨h1,h2⟩:=h.done D.px hb
  rw [yd,yd,ym,ym,sx,sy,alO (by rw [alP];omega),alO (by rw [alP];omega)]
  exact q _ g h1 h2
 have fin2:∀ {zs ia ib g},MI lt xs ys zs ia ib->ia+1=xs.length->Q (kit it zs++(kit it ys).extract ib (kit it ys).size++(kit it xs).extract ia (kit it xs).size) (sg st g):=fun {zs ia ib g} h hb=>by
  obtain⟨h1,h2⟩:=h.last D.px D.py (fun y hy x hx=>by
   rw [drop_cons (show ia<xs.length by omega),aoQ (by omega),alK] at hx
   subst hx
   have:=last y hy
   have e:xs.length - 1=ia:=by omega
   simp only [e] at this
   exact this)
  rw [yd,yd,ym,ym,sx,sy,alO (by rw [alP];omega),alO (by rw [alP];omega)]
  exact q _ g h1 h2
 have m0:MI lt xs ys [ys[0]] 0 1:=by
  have:MI lt xs ys [] 0 0:=⟨by simp,.nil,fun z hz=>(nomatch hz),fun z hz=>(nomatch hz)⟩
  exact this.pushB T D.px D.by_ D.bx D.py hy (yN T D.bx D.px hx (D.by_ _ (alc hy)) first)
 refine zc (jP ?_)
 refine zc (zA (zE hy) ?_)
 have k0:#[kas_item it ys[0]]=kit it [ys[0]]:=rfl
 dsimp only
 rw [k0]
 by_cases c1:(1 == (kit it ys).size)=true
 ·rw [if_pos c1]
  rw [sy] at c1
  exact zd (fin m0 (beq_iff_eq.mp c1))
 rw [if_neg c1]
 by_cases c2:(0+1 == (kit it xs).size)=true
 ·rw [if_pos c2]
  rw [sx] at c2
  exact zd (fin2 m0 (beq_iff_eq.mp c2))
 rw [if_neg c2]
 rw [sy] at c1
 rw [sx] at c2
 have d1:1≠ys.length:=fun z=>c1 (beq_iff_eq.mpr z)
 have d2:0+1≠xs.length:=fun z=>c2 (beq_iff_eq.mpr z)
 refine zc (yC ?_)
 refine zc (z9 (zN (Q:=fun c st'=>∃ r out ia ib g g',c=(some r,out,ia,ib,g)/\st'=sg st g'/\Q r (sg st g')) (I:=fun k c st'=>∃ zs ia ib g g',c=(none,kit it zs,ia,ib,g)/\st'=sg st g'/\MI lt xs ys zs ia ib/\ia+1<xs.length/\ib<ys.length/\k+1<=ia+ib) ⟨_,_,_,_,_,rfl,rfl,m0,by omega,by omega,by omega⟩ (alD _) ?_ ?_) ?_)
 ·rintro k _ _ _ hkm ⟨zs,ia,ib,g,g',rfl,rfl,M,la,lb,hs⟩
  dsimp only
  refine zc (z9 (zN (Q:=fun c st'=>∃ r out ia' ib' ac bc,c=(r,out,ia',ib',ac,bc)/\st'=sg st g'/\match r with | some r=>Q r (sg st g') | none=>∃ zs,out=kit it zs/\MI lt xs ys zs ia' ib'/\ia'+1<xs.length/\ib'<ys.length/\ia+ib+1<=ia'+ib') (I:=fun k c st'=>∃ zs ia' ib' ac bc,c=(none,kit it zs,ia',ib',ac,bc)/\st'=sg st g'/\MI lt xs ys zs ia' ib'/\ia'+1<xs.length/\ib'<ys.length/\ia+ib+k<=ia'+ib') ⟨_,_,_,_,_,rfl,rfl,M,la,lb,by omega⟩ (alD _) ?_ ?_) ?_)
  ·rintro k2 _ _ _ hk2 ⟨zs,ia',ib',ac,bc,rfl,rfl,M,la',lb',hs'⟩
   dsimp only
   have xa:xs[ia']<n:=D.bx _ (alc _)
   have yb:ys[ib']<n:=D.by_ _ (alc _)
   refine zc (zA (zE lb') (zc (zA (zE (show ia'<xs.length by omega)) (zc (acB W hk yb xa ?_)))))
   cases e:lt ys[ib'] xs[ia'] with
   | true =>
    refine zc (zA (zE lb') ?_)
    have M2:=M.pushB T D.px D.by_ D.bx D.py lb' (yN T D.bx D.px (by omega) yb e)
    rw [zJ]
    by_cases c:(ib'+1 == (kit it ys).size)=true
    ·rw [if_pos c]
     rw [sy] at c
     exact zd ⟨_,_,_,_,_,_,rfl,rfl,fin M2 (beq_iff_eq.mp c)⟩
    ·rw [if_neg c]
     rw [sy] at c
     have c:ib'+1≠ys.length:=fun z=>c (beq_iff_eq.mpr z)
     split
     ·exact zd ⟨none,_,_,_,_,_,rfl,rfl,_,rfl,M2,la',by omega,by omega⟩
     ·exact zd ⟨_,_,_,_,_,rfl,rfl,M2,la',by omega,by omega⟩
   | false =>
    have e2:lt xs[ia'] ys[ib']=true:=by rw [T.tri _ _ xa yb (D.ne _ (alc _) _ (alc _)),e];rfl
    refine zc (zA (zE (show ia'<xs.length by omega)) ?_)
    have M2:=M.pushA T D.px D.by_ D.bx D.py (by omega) (yN T D.by_ D.py lb' xa e2)
    rw [zJ]
    by_cases c:(ia'+1+1 == (kit it xs).size)=true
    ·rw [if_pos c]
     rw [sx] at c
     exact zd ⟨_,_,_,_,_,_,rfl,rfl,fin2 M2 (beq_iff_eq.mp c)⟩
    ·rw [if_neg c]
     rw [sx] at c
     have c:ia'+1+1≠xs.length:=fun z=>c (beq_iff_eq.mpr z)
     split
     ·exact zd ⟨none,_,_,_,_,_,rfl,rfl,_,rfl,M2,by omega,lb',by omega⟩
     ·exact zd ⟨_,_,_,_,_,rfl,rfl,M2,by omega,lb',by omega⟩
  ·rintro _ _ ⟨zs,ia',ib',ac,bc,rfl,rfl,M,la',lb',hs'⟩
   exact⟨none,_,_,_,_,_,rfl,rfl,_,rfl,M,la',lb',by rw [sx,sy] at hs';omega⟩
  ·rintro _ _ ⟨r,out,ia',ib',ac,bc,rfl,rfl,hr⟩
   cases r with
   | some r=>exact zd ⟨_,_,_,_,_,_,rfl,rfl,hr⟩
   | none =>
    obtain⟨zs,rfl,M,la',lb',hs'⟩:=hr
    dsimp only
    refine zc (jP ?_)
    refine zc (z9 (zN (Q:=fun c st'=>∃ r out i2 j2 g2 ac bc g3,c=(r,out,i2,j2,g2,ac,bc)/\st'=sg st g3/\match r with | some r=>Q r (sg st g3) | none=>∃ zs,out=kit it zs/\MI lt xs ys zs i2 j2/\i2+1<xs.length/\j2<ys.length/\ia+ib+1<=i2+j2) (I:=fun k c st'=>∃ zs i2 j2 g2 ac bc g3,c=(none,kit it zs,i2,j2,g2,ac,bc)/\st'=sg st g3/\MI lt xs ys zs i2 j2/\i2+1<xs.length/\j2<ys.length/\ia+ib+1<=i2+j2) ⟨_,_,_,_,_,_,_,rfl,rfl,M,la',lb',by omega⟩ (alD _) ?_ ?_) ?_)
    ·rintro k3 _ _ _ hk3 ⟨zs,i2,j2,g2,ac,bc,g3,rfl,rfl,M,l1,l2,hs2⟩
     have yb:ys[j2]<n:=D.by_ _ (alc _)
     have jp:∀ {f:Unit->StateT SortSt Sem (ForInStep (Option (Array Keyed)×Array Keyed×Nat×Nat×Nat×Nat×Nat))} {R} (g4:Nat),(∀ g5,WS P w A X s (f ()) R (sg st g5))->WS P w A X s ((sortPriv% PySem.Builtin.setMinGallop) g4 >>= f) R (sg st g3):=fun g4 h=>zc (vR (h g4))
     refine zr (fun _=>jp _ fun g5=>?_) (fun _=>jp _ fun g5=>?_)
     all_goals
      refine zc (zA (zE l2) (zc (yE (b:=i2) (m:=(kit it xs).size - i2) (h:=0) W T hk (x:=fun i=>xs.getD (i2+i) 0) (by rw [sx];omega) yb (fun i hi=>?_) (fun i j hij hj=>?_) fun k hk1 hk2 hk3'=>?_)))
      ·rw [sx] at hi
       have hi':i2+i<xs.length:=by omega
       have e:xs.getD (i2+i) 0=xs[i2+i]:=by simp [alY,hi']
       rw [e]
       exact⟨D.bx _ (alc _),D.ne _ (alc _) _ (alc _),zE hi'⟩
      ·rw [sx] at hj
       have hj':i2+j<xs.length:=by omega
       have e1:xs.getD (i2+i) 0=xs[i2+i]:=by simp [alY,show i2+i<xs.length by omega]
       have e2:xs.getD (i2+j) 0=xs[i2+j]:=by simp [alY,hj']
       rw [e1,e2]
       exact qa D.px (by omega) hj'
      rw [sx] at hk1 hk3'
      obtain⟨s1,s2⟩:=adB T D.bx D.px D.by_ yb (fun x hx=>(D.ne x hx _ (alc _)).symm) i2 k (by omega) hk2 hk3'
      have lk:i2+k<xs.length:=by
       by_cases hc:i2+k<xs.length
       ·exact hc
       ·exfalso
        have h1:=last ys[j2] (alc _)
        have h2:=hk2 (xs.length - 1 - i2) (by omega)
        have e:xs.getD (i2+(xs.length - 1 - i2)) 0=xs[xs.length - 1]:=by
         rw [show i2+(xs.length - 1 - i2)=xs.length - 1 by omega]
         simp [alY,show xs.length - 1<xs.length by omega]
        rw [e,T.tri _ _ (D.bx _ (alc _)) yb (D.ne _ (alc _) _ (alc _)),h1] at h2
        cases h2
      have M1:=M.takeA D.px k (fun r hr=>yN T D.by_ D.py l2 (D.bx r (alU (alT hr))) (s1 r hr))
      have hx1:=s2
      have ho:kit it zs++(kit it xs).extract i2 (i2+k)=kit it (zs++(xs.drop i2).take k):=by rw [yd,ym,al9]
      refine zr (fun hp1=>zr (fun (c:(i2+k+1 == (kit it xs).size)=true)=>zd ⟨some _,_,_,_,_,_,_,_,rfl,rfl,?_⟩) (fun (c:¬ (i2+k+1 == (kit it xs).size)=true)=>zr (fun (c2:(i2+k == (kit it xs).size)=true)=>?_) (fun _=>?_))) (fun hp1=>?_)
      ·rw [sx] at c
       have:=fin2 (g:=g5) M1 (beq_iff_eq.mp c)
       rw [<-ho] at this
       exact this
      ·rw [sx] at c2
       have:=beq_iff_eq.mp c2
       omega
      ·rw [sx] at c
       have c:i2+k+1≠xs.length:=fun z=>c (beq_iff_eq.mpr z)
       have M2:=M1.pushB T D.px D.by_ D.bx D.py l2 hx1
       have hv:(kit it zs++(kit it xs).extract i2 (i2+k)).push (kas_item it ys[j2])=kit it ((zs++(xs.drop i2).take k)++[ys[j2]]):=by rw [ho,zJ]
       have xa:xs[(i2+k)]<n:=D.bx _ (alc _)
       refine zc (zA (zE l2) (zr (fun (c:(j2+1 == (kit it ys).size)=true)=>zd ⟨some _,_,_,_,_,_,_,_,rfl,rfl,?_⟩) (fun (c:¬ (j2+1 == (kit it ys).size)=true)=>?_)))
       ·rw [sy] at c
        have:=fin (g:=g5) M2 (beq_iff_eq.mp c)
        rw [<-hv] at this
        exact this
       rw [sy] at c
       have c:j2+1≠ys.length:=fun z=>c (beq_iff_eq.mpr z)
       refine zc (zA (zE (show (i2+k)<xs.length by omega)) (zc (yE (b:=j2+1) (m:=(kit it ys).size - (j2+1)) (h:=0) W T hk (x:=fun i=>ys.getD (j2+1+i) 0) (by rw [sy];omega) xa (fun i hi=>?_) (fun i j hij hj=>?_) fun k2 hq1 hq2 hq3=>?_)))
       ·rw [sy] at hi
        have hi':j2+1+i<ys.length:=by omega
        have e:ys.getD (j2+1+i) 0=ys[j2+1+i]:=by simp [alY,hi']
        rw [e]
        exact⟨D.by_ _ (alc _),fun z=>D.ne _ (alc _) _ (alc _) z.symm,zE hi'⟩
       ·rw [sy] at hj
        have hj':j2+1+j<ys.length:=by omega
        have e1:ys.getD (j2+1+i) 0=ys[j2+1+i]:=by simp [alY,show j2+1+i<ys.length by omega]
        have e2:ys.getD (j2+1+j) 0=ys[j2+1+j]:=by simp [alY,hj']
        rw [e1,e2]
        exact qa D.py (by omega) hj'
       rw [sy] at hq1 hq3
       obtain⟨t1,t2⟩:=adB T D.by_ D.py D.bx xa (fun y hy=>(D.ne _ (alc _) y hy)) (j2+1) k2 (by omega) hq2 hq3
       have M3:=M2.takeB D.py k2 (fun r hr=>yN T D.bx D.px (by omega) (D.by_ r (alU (alT hr))) (t1 r hr))
       have hx3:=t2
       have hw:(kit it zs++(kit it xs).extract i2 (i2+k)).push (kas_item it ys[j2])++(kit it ys).extract (j2+1) (j2+1+k2)=kit it ((zs++(xs.drop i2).take k)++[ys[j2]]++(ys.drop (j2+1)).take k2):=by rw [hv,yd,ym,al9]
       refine zr (fun hp0=>zr (fun (c3:(j2+1+k2 == (kit it ys).size)=true)=>zd ⟨some _,_,_,_,_,_,_,_,rfl,rfl,?_⟩) (fun (c3:¬ (j2+1+k2 == (kit it ys).size)=true)=>?_)) (fun hp0=>?_)
       ·rw [sy] at c3
        have:=fin (g:=g5) M3 (beq_iff_eq.mp c3)
        rw [<-hw] at this
        exact this
       ·rw [sy] at c3
        have c3:j2+1+k2≠ys.length:=fun z=>c3 (beq_iff_eq.mpr z)
        have M4:=M3.pushA T D.px D.by_ D.bx D.py (show (i2+k)<xs.length by omega) hx3
        have hp:((kit it zs++(kit it xs).extract i2 (i2+k)).push (kas_item it ys[j2])++(kit it ys).extract (j2+1) (j2+1+k2)).push (kas_item it xs[(i2+k)])=kit it ((zs++(xs.drop i2).take k)++[ys[j2]]++(ys.drop (j2+1)).take k2++[xs[(i2+k)]]):=by rw [hw,zJ]
        refine zc (zA (zE (show (i2+k)<xs.length by omega)) (zr (fun (c:((i2+k)+1+1 == (kit it xs).size)=true)=>zd ⟨some _,_,_,_,_,_,_,_,rfl,rfl,?_⟩) (fun (c:¬ ((i2+k)+1+1 == (kit it xs).size)=true)=>zr (fun _=>zd ⟨none,_,_,_,_,_,_,_,rfl,rfl,_,hp,M4,?_,?_,?_⟩) (fun _=>zd ⟨_,_,_,_,_,_,_,(by rw [<-hp]),rfl,M4,?_,?_,?_⟩))))
        ·rw [sx] at c
         have:=fin2 (g:=g5) M4 (beq_iff_eq.mp c)
         rw [<-hp] at this
         exact this
        all_goals
         rw [sx] at c
         have c:(i2+k)+1+1≠xs.length:=fun z=>c (beq_iff_eq.mpr z)
         first | (show (i2+k)+1+1<xs.length;omega) | (show (j2+1+k2)<ys.length;omega) | (show ia+ib+1<=(i2+k)+1+(j2+1+k2);omega)
       ·obtain rfl:k2=0:=anQ hp0
        have M4:=M2.pushA T D.px D.by_ D.bx D.py (show (i2+k)<xs.length by omega) hx3
        have hp:((kit it zs++(kit it xs).extract i2 (i2+k)).push (kas_item it ys[j2])).push (kas_item it xs[(i2+k)])=kit it ((zs++(xs.drop i2).take k)++[ys[j2]]++[xs[(i2+k)]]):=by rw [hv,zJ]
        refine zc (zA (zE (show (i2+k)<xs.length by omega)) (zr (fun (c:((i2+k)+1+1 == (kit it xs).size)=true)=>zd ⟨some _,_,_,_,_,_,_,_,rfl,rfl,?_⟩) (fun (c:¬ ((i2+k)+1+1 == (kit it xs).size)=true)=>zr (fun _=>zd ⟨none,_,_,_,_,_,_,_,rfl,rfl,_,hp,M4,?_,?_,?_⟩) (fun _=>zd ⟨_,_,_,_,_,_,_,(by rw [<-hp]),rfl,M4,?_,?_,?_⟩))))
        ·rw [sx] at c
         have:=fin2 (g:=g5) M4 (beq_iff_eq.mp c)
         rw [<-hp] at this
         exact this
        all_goals
         rw [sx] at c
         have c:(i2+k)+1+1≠xs.length:=fun z=>c (beq_iff_eq.mpr z)
         first | (show (i2+k)+1+1<xs.length;omega) | (show (j2+1)<ys.length;omega) | (show ia+ib+1<=(i2+k)+1+(j2+1);omega)
      ·obtain rfl:k=0:=anQ hp1
       have M2:=M.pushB T D.px D.by_ D.bx D.py l2 hx1
       have hv:(kit it zs).push (kas_item it ys[j2])=kit it (zs++[ys[j2]]):=by rw [(rfl:kit it zs=kit it zs),zJ]
       have xa:xs[i2]<n:=D.bx _ (alc _)
       refine zc (zA (zE l2) (zr (fun (c:(j2+1 == (kit it ys).size)=true)=>zd ⟨some _,_,_,_,_,_,_,_,rfl,rfl,?_⟩) (fun (c:¬ (j2+1 == (kit it ys).size)=true)=>?_)))
       ·rw [sy] at c
        have:=fin (g:=g5) M2 (beq_iff_eq.mp c)
        rw [<-hv] at this
        exact this
       rw [sy] at c
       have c:j2+1≠ys.length:=fun z=>c (beq_iff_eq.mpr z)
       refine zc (zA (zE (show i2<xs.length by omega)) (zc (yE (b:=j2+1) (m:=(kit it ys).size - (j2+1)) (h:=0) W T hk (x:=fun i=>ys.getD (j2+1+i) 0) (by rw [sy];omega) xa (fun i hi=>?_) (fun i j hij hj=>?_) fun k2 hq1 hq2 hq3=>?_)))
       ·rw [sy] at hi
        have hi':j2+1+i<ys.length:=by omega
        have e:ys.getD (j2+1+i) 0=ys[j2+1+i]:=by simp [alY,hi']
        rw [e]
        exact⟨D.by_ _ (alc _),fun z=>D.ne _ (alc _) _ (alc _) z.symm,zE hi'⟩
       ·rw [sy] at hj
        have hj':j2+1+j<ys.length:=by omega
        have e1:ys.getD (j2+1+i) 0=ys[j2+1+i]:=by simp [alY,show j2+1+i<ys.length by omega]
        have e2:ys.getD (j2+1+j) 0=ys[j2+1+j]:=by simp [alY,hj']
        rw [e1,e2]
        exact qa D.py (by omega) hj'
       rw [sy] at hq1 hq3
       obtain⟨t1,t2⟩:=adB T D.by_ D.py D.bx xa (fun y hy=>(D.ne _ (alc _) y hy)) (j2+1) k2 (by omega) hq2 hq3
       have M3:=M2.takeB D.py k2 (fun r hr=>yN T D.bx D.px (by omega) (D.by_ r (alU (alT hr))) (t1 r hr))
       have hx3:=t2
       have hw:(kit it zs).push (kas_item it ys[j2])++(kit it ys).extract (j2+1) (j2+1+k2)=kit it (zs++[ys[j2]]++(ys.drop (j2+1)).take k2):=by rw [hv,yd,ym,al9]
       refine zr (fun hp0=>zr (fun (c3:(j2+1+k2 == (kit it ys).size)=true)=>zd ⟨some _,_,_,_,_,_,_,_,rfl,rfl,?_⟩) (fun (c3:¬ (j2+1+k2 == (kit it ys).size)=true)=>?_)) (fun hp0=>?_)
       ·rw [sy] at c3
        have:=fin (g:=g5) M3 (beq_iff_eq.mp c3)
        rw [<-hw] at this
        exact this
       ·rw [sy] at c3
        have c3:j2+1+k2≠ys.length:=fun z=>c3 (beq_iff_eq.mpr z)
        have M4:=M3.pushA T D.px D.by_ D.bx D.py (show i2<xs.length by omega) hx3
        have hp:((kit it zs).push (kas_item it ys[j2])++(kit it ys).extract (j2+1) (j2+1+k2)).push (kas_item it xs[i2])=kit it (zs++[ys[j2]]++(ys.drop (j2+1)).take k2++[xs[i2]]):=by rw [hw,zJ]
        refine zc (zA (zE (show i2<xs.length by omega)) (zr (fun (c:(i2+1+1 == (kit it xs).size)=true)=>zd ⟨some _,_,_,_,_,_,_,_,rfl,rfl,?_⟩) (fun (c:¬ (i2+1+1 == (kit it xs).size)=true)=>zr (fun _=>zd ⟨none,_,_,_,_,_,_,_,rfl,rfl,_,hp,M4,?_,?_,?_⟩) (fun _=>zd ⟨_,_,_,_,_,_,_,(by rw [<-hp]),rfl,M4,?_,?_,?_⟩))))
        ·rw [sx] at c
         have:=fin2 (g:=g5) M4 (beq_iff_eq.mp c)
         rw [<-hp] at this
         exact this
        all_goals
         rw [sx] at c
         have c:i2+1+1≠xs.length:=fun z=>c (beq_iff_eq.mpr z)
         first | (show i2+1+1<xs.length;omega) | (show (j2+1+k2)<ys.length;omega) | (show ia+ib+1<=i2+1+(j2+1+k2);omega)
       ·obtain rfl:k2=0:=anQ hp0
        have M4:=M2.pushA T D.px D.by_ D.bx D.py (show i2<xs.length by omega) hx3
        have hp:((kit it zs).push (kas_item it ys[j2])).push (kas_item it xs[i2])=kit it (zs++[ys[j2]]++[xs[i2]]):=by rw [hv,zJ]
        refine zc (zA (zE (show i2<xs.length by omega)) (zr (fun (c:(i2+1+1 == (kit it xs).size)=true)=>zd ⟨some _,_,_,_,_,_,_,_,rfl,rfl,?_⟩) (fun (c:¬ (i2+1+1 == (kit it xs).size)=true)=>zr (fun _=>zd ⟨none,_,_,_,_,_,_,_,rfl,rfl,_,hp,M4,?_,?_,?_⟩) (fun _=>zd ⟨_,_,_,_,_,_,_,(by rw [<-hp]),rfl,M4,?_,?_,?_⟩))))
        ·rw [sx] at c
         have:=fin2 (g:=g5) M4 (beq_iff_eq.mp c)
         rw [<-hp] at this
         exact this
        all_goals
         rw [sx] at c
         have c:i2+1+1≠xs.length:=fun z=>c (beq_iff_eq.mpr z)
         first | (show i2+1+1<xs.length;omega) | (show (j2+1)<ys.length;omega) | (show ia+ib+1<=i2+1+(j2+1);omega)
    ·rintro _ _ ⟨zs,i2,j2,g2,ac,bc,g3,rfl,rfl,M,l1,l2,hs2⟩
     exact⟨none,_,_,_,_,_,_,_,rfl,rfl,_,rfl,M,l1,l2,hs2⟩
    ·rintro _ _ ⟨r,out,i2,j2,g2,ac,bc,g3,rfl,rfl,hr⟩
     cases r with
     | some r=>exact zd ⟨_,_,_,_,_,_,rfl,rfl,hr⟩
     | none =>
      obtain⟨zs,rfl,M,l1,l2,hs2⟩:=hr
      refine zc (vR ?_)
      exact zd ⟨_,_,_,_,_,rfl,rfl,M,l1,l2,show k+1+1<=i2+j2 by omega⟩
 ·rintro _ _ ⟨zs,ia,ib,g,g',rfl,rfl,M,la,lb,hs⟩
  rw [sx,sy] at hs
  omega
 ·rintro _ _ ⟨r,out,ia,ib,g,g',rfl,rfl,hq⟩
  exact zd hq
end
end L2
end
section
set_option maxHeartbeats 400000
namespace L2
open PySem PySem.W PySem.Calls PyProof.Rows
section
variable {it:Array Keyed} {n:Nat} {lt:Nat->Nat->Bool}
theorem qU (l:List Nat):(kit it l).reverse=kit it l.reverse:=by unfold kit;simp
structure MH (lt:Nat->Nat->Bool) (xs ys zs:List Nat) (na nb:Nat):Prop where
 perm:zs.Perm (xs.drop na++ys.drop nb)
 dn:zs.Pairwise fun a b=>lt b a=true
 a:∀ z∈zs,∀ r∈xs.take na,lt r z=true
 b:∀ z∈zs,∀ r∈ys.take nb,lt r z=true
theorem MH.swap {xs ys zs:List Nat} {na nb:Nat} (h:MH lt xs ys zs na nb):MH lt ys xs zs nb na:=⟨h.perm.trans amc,h.dn,h.b,h.a⟩
theorem agN {l:List Nat} {i j:Nat} (h:i<=j):l.drop i=(l.drop i).take (j - i)++l.drop j:=by
 have:=alE (j - i) (l.drop i)
 rw [List.drop_drop,show i+(j - i)=j by omega] at this
 exact this.symm
theorem acC {l:List Nat} {i j:Nat} (h:i<=j):l.take j=l.take i++(l.drop i).take (j - i):=by
 have:=List.take_add (l:=l) (i:=i) (j:=j - i)
 rw [show i+(j - i)=j by omega] at this
 exact this
theorem MH.takeA {xs ys zs:List Nat} {na nb:Nat} (h:MH lt xs ys zs na nb) (px:xs.Pairwise fun a b=>lt a b=true) (i:Nat) (hi:i<=na) (hy:∀ r∈(xs.drop i).take (na - i),∀ y∈ys.take nb,lt y r=true):MH lt xs ys (zs++((xs.drop i).take (na - i)).reverse) i nb:=by
 have st:=acC (l:=xs) hi
 have sd:=agN (l:=xs) hi
 have pc:=px.sublist (anL na xs)
 rw [st,alL] at pc
 refine⟨?_,?_,?_,?_⟩
 ·have e:xs.drop i++ys.drop nb=(xs.drop i).take (na - i)++(xs.drop na++ys.drop nb):=by rw [<-alH,<- sd]
  refine List.Perm.trans ?_ (List.Perm.of_eq e.symm)
  refine (h.perm.append_right _).trans ?_
  refine amc.trans ?_
  exact (aoH _).append_right _
 ·refine alL.mpr ⟨h.dn,an0.mpr pc.2.1,fun z hz r hr=>h.a z hz r ?_⟩
  rw [st]
  exact alx _ (amg.mp hr)
 ·intro z hz r hr
  rcases alM.mp hz with hz | hz
  ·exact h.a z hz r (by rw [st];exact al8 _ hr)
  ·exact pc.2.2 r hr z (amg.mp hz)
 ·intro z hz r hr
  rcases alM.mp hz with hz | hz
  ·exact h.b z hz r hr
  ·exact hy z (amg.mp hz) r hr
theorem MH.takeB {xs ys zs:List Nat} {na nb:Nat} (h:MH lt xs ys zs na nb) (py:ys.Pairwise fun a b=>lt a b=true) (i:Nat) (hi:i<=nb) (hx:∀ r∈(ys.drop i).take (nb - i),∀ x∈xs.take na,lt x r=true):MH lt xs ys (zs++((ys.drop i).take (nb - i)).reverse) na i:=(h.swap.takeA py i hi hx).swap
theorem ah8 {l:List Nat} {i:Nat} (h:i<l.length):((l.drop i).take (i+1 - i)).reverse=[l[i]]:=by
 rw [show i+1 - i=1 by omega,drop_cons h]
 rfl
theorem MH.pushA {xs ys zs:List Nat} {i nb:Nat} (h:MH lt xs ys zs (i+1) nb) (px:xs.Pairwise fun a b=>lt a b=true) (hi:i<xs.length) (hy:∀ y∈ys.take nb,lt y xs[i]=true):MH lt xs ys (zs++[xs[i]]) i nb:=by
 have e:=ah8 hi
 have:=h.takeA px i (by omega) (fun r hr y hy'=>by
  have hr:r∈((xs.drop i).take (i+1 - i)).reverse:=amg.mpr hr
  rw [e] at hr
  rw [alK.mp hr]
  exact hy y hy')
 rwa [e] at this
theorem MH.pushB {xs ys zs:List Nat} {na i:Nat} (h:MH lt xs ys zs na (i+1)) (py:ys.Pairwise fun a b=>lt a b=true) (hi:i<ys.length) (hx:∀ x∈xs.take na,lt x ys[i]=true):MH lt xs ys (zs++[ys[i]]) na i:=(h.swap.pushA py hi hx).swap
theorem qV (T:Tot n lt) {l:List Nat} (bl:∀ x∈l,x<n) (pl:l.Pairwise fun a b=>lt a b=true) {i:Nat} (h:i<l.length) {z:Nat} (hz:z<n) (hl:lt l[i] z=true):∀ r∈l.take (i+1),lt r z=true:=fun r hr=>by
 obtain⟨j,hj,rfl⟩:=alJ hr
 rw [alq] at hj
 rw [alR]
 by_cases e:j=i
 ·subst e;exact hl
 ·exact T.tra _ _ _ (bl _ (alc _)) (bl _ (alc _)) hz (qa pl (by omega) h) hl
theorem MH.done {xs ys zs:List Nat} {na nb:Nat} (h:MH lt xs ys zs na nb) (py:ys.Pairwise fun a b=>lt a b=true) (ha:na=0):(xs.take na++ys.take nb++zs.reverse).Perm (xs++ys)/\(xs.take na++ys.take nb++zs.reverse).Pairwise fun a b=>lt a b=true:=by
 subst ha
 rw [ao3,aog]
 constructor
 ·refine (amo _ ((aoH zs).trans h.perm)).trans ?_
  rw [amD]
  refine (amo _ amc).trans ?_
  rw [<-alH,alE]
  exact amc
 ·exact alL.mpr ⟨py.sublist (anL _ _),an0.mpr h.dn,fun r hr z hz=>h.b z (amg.mp hz) r hr⟩
theorem MH.first {xs ys zs:List Nat} {na nb:Nat} (h:MH lt xs ys zs na nb) (px:xs.Pairwise fun a b=>lt a b=true) (py:ys.Pairwise fun a b=>lt a b=true) (hg:∀ y∈ys.take nb,∀ x∈xs,lt y x=true):(ys.take nb++xs.take na++zs.reverse).Perm (xs++ys)/\(ys.take nb++xs.take na++zs.reverse).Pairwise fun a b=>lt a b=true:=by
 have h2:=h.takeA px 0 (alD _) (fun r hr y hy=>hg y hy r (alT hr))
 have:=h2.done py rfl
 rw [ao3,aog,am9,aod,amD,anR,<- alH] at this
 exact this
end
section
variable {P:Program} {w:World} {A:Around} {X:Value->Shared->Prop} {s:Shared} {κ:SortKind} {it:Array Keyed} {n:Nat} {lt:Nat->Nat->Bool}
theorem aal (T:Tot n lt) {l:List Nat} (bl:∀ x∈l,x<n) {key:Nat} (hk:key<n) (ne:∀ x∈l,key≠x) (k m:Nat) (hm:m<=l.length) (hkm:k<=m) (h1:∀ j,j<k->lt (l.getD j 0) key=true) (h2:∀ j,k<=j->j<m->lt (l.getD j 0) key=false) :
  (∀ r∈l.take k,lt r key=true)/\∀ r∈(l.drop k).take (m - k),lt key r=true:=by
 constructor
 ·intro r hr
  obtain⟨j,hj,rfl⟩:=alJ hr
  rw [alq] at hj
  have:=h1 j (by omega)
  have e:l.getD j 0=l[j]:=by simp [alY,show j<l.length by omega]
  rw [e] at this
  simpa using this
 ·intro r hr
  obtain⟨j,hj,rfl⟩:=alJ hr
  rw [alq,alP] at hj
  have:=h2 (k+j) (by omega) (by omega)
  have e:l.getD (k+j) 0=l[k+j]:=by simp [alY,show k+j<l.length by omega]
  rw [e] at this
  rw [alR,am2,T.tri _ _ hk (bl _ (alc _)) (ne _ (alc _)),this]
  rfl
theorem adD (W:Ans (kas_cmp P w A κ it) n lt s) (T:Tot n lt) {xs ys:List Nat} {st:SortSt} {g0:Nat} {Q:Array Keyed->SortSt->Prop} (hk:kindOf st=κ) (D:Two n lt xs ys) (hx:0<xs.length) (hy:0<ys.length) (first:lt ys[0] xs[0]=true) (last:∀ y∈ys,lt y xs[xs.length - 1]=true)
  (q:∀ zs g,zs.Perm (xs++ys)->(zs.Pairwise fun a b=>lt a b=true)->Q (kit it zs) (sg st g)):WS P w A X s (acA (kit it xs) (kit it ys)) Q (sg st g0):=by
 have sx:(kit it xs).size=xs.length:=je xs
 have sy:(kit it ys).size=ys.length:=je ys
 have fin:∀ {zs na nb g},MH lt xs ys zs na nb->na=0->Q ((kit it xs).extract 0 na++(kit it ys).extract 0 nb++(kit it zs).reverse) (sg st g):=fun {zs na nb g} h hb=>by
  obtain⟨h1,h2⟩:=h.done D.py hb
  rw [yd,yd,qU,ym,ym,amD,amD,anR,anR]
  exact q _ g h1 h2
 have fin2:∀ {zs na nb g},MH lt xs ys zs na nb->nb=1->Q ((kit it ys).extract 0 nb++(kit it xs).extract 0 na++(kit it zs).reverse) (sg st g):=fun {zs na nb g} h hb=>by
  obtain⟨h1,h2⟩:=h.first D.px D.py (fun y hy' x hx'=>by
   subst hb
   obtain⟨j,hj,rfl⟩:=alJ hy'
   rw [alq] at hj
   obtain rfl:j=0:=by omega
   rw [alR]
   exact yN T D.bx D.px hx (D.by_ _ (alc hy)) first x (by rw [amD];exact hx'))
  rw [yd,yd,qU,ym,ym,amD,amD,anR,anR]
  exact q _ g h1 h2
 have m0:MH lt xs ys [xs[xs.length - 1]] (xs.length - 1) ys.length:=by
  have h:MH lt xs ys [] (xs.length - 1+1) ys.length:=⟨by rw [show xs.length - 1+1=xs.length by omega];simp,.nil,fun z hz=>(nomatch hz),fun z hz=>(nomatch hz)⟩
  exact h.pushA D.px (by omega) (fun y hy'=>last y (alT hy'))
 refine zc (jP ?_)
 refine zc (zA (x:=kas_item it xs[xs.length - 1]) (by rw [sx];exact zE (by omega)) ?_)
 have k0:#[kas_item it xs[xs.length - 1]]=kit it [xs[xs.length - 1]]:=rfl
 dsimp only
 rw [k0,sx,sy]
 by_cases c1:(xs.length - 1 == 0)=true
 ·rw [if_pos c1]
  exact zd (fin m0 (beq_iff_eq.mp c1))
 rw [if_neg c1]
 by_cases c2:(ys.length == 1)=true
 ·rw [if_pos c2]
  exact zd (fin2 m0 (beq_iff_eq.mp c2))
 rw [if_neg c2]
 have d1:xs.length - 1≠0:=fun z=>c1 (beq_iff_eq.mpr z)
 have d2:ys.length≠1:=fun z=>c2 (beq_iff_eq.mpr z)
 refine zc (yC ?_)
 refine zc (z9 (zN (Q:=fun c st'=>∃ r out na nb g g',c=(some r,na,nb,out,g)/\st'=sg st g'/\Q r (sg st g')) (I:=fun k c st'=>∃ zs na nb g g',c=(none,na,nb,kit it zs,g)/\st'=sg st g'/\MH lt xs ys zs na nb/\1<=na/\2<=nb/\na<=xs.length/\nb<=ys.length/\k+1<=(xs.length - na)+(ys.length - nb)) ⟨_,_,_,_,_,rfl,rfl,m0,by omega,by omega,by omega,by omega,by omega⟩ (alD _) ?_ ?_) ?_)
 ·rintro k _ _ _ hkm ⟨zs,na,nb,g,g',rfl,rfl,M,la,lb,lc,ld,hs⟩
  dsimp only
  refine zc (z9 (zN (Q:=fun c st'=>∃ r out na' nb' ac bc,c=(r,na',nb',out,ac,bc)/\st'=sg st g'/\match r with | some r=>Q r (sg st g') | none=>∃ zs,out=kit it zs/\MH lt xs ys zs na' nb'/\1<=na'/\2<=nb'/\na'<=xs.length/\nb'<=ys.length/\(xs.length - na)+(ys.length - nb)+1<=(xs.length - na')+(ys.length - nb')) (I:=fun k c st'=>∃ zs na' nb' ac bc,c=(none,na',nb',kit it zs,ac,bc)/\st'=sg st g'/\MH lt xs ys zs na' nb'/\1<=na'/\2<=nb'/\na'<=xs.length/\nb'<=ys.length/\(xs.length - na)+(ys.length - nb)+k<=(xs.length - na')+(ys.length - nb')) ⟨_,_,_,_,_,rfl,rfl,M,la,lb,lc,ld,by omega⟩ (alD _) ?_ ?_) ?_)
  ·rintro k2 _ _ _ hk2 ⟨zs,na',nb',ac,bc,rfl,rfl,M,la',lb',lc',ld',hs'⟩
   obtain⟨p,rfl⟩:∃ p,na'=p+1:=⟨na' - 1,by omega⟩
   obtain⟨r,rfl⟩:∃ r,nb'=r+2:=⟨nb' - 2,by omega⟩
   have xa:xs[p]<n:=D.bx _ (alc _)
   have yb:ys[r+1]<n:=D.by_ _ (alc _)
   refine zc (zA (zE (show r+1<ys.length by omega)) (zc (zA (zE (show p<xs.length by omega)) (zc (acB W hk yb xa ?_)))))
   cases e:lt ys[r+1] xs[p] with
   | true =>
    have M2:=M.pushA D.px (by omega) (qV T D.by_ D.py (i:=r+1) (by omega) xa e)
    refine zc (zA (zE (show p<xs.length by omega)) (zr (fun (c:(p+1 - 1 == 0)=true)=>zd ⟨some _,_,_,_,_,_,rfl,rfl,?_⟩) (fun (c:¬ (p+1 - 1 == 0)=true)=>zr (fun _=>zd ⟨none,_,_,_,_,_,rfl,rfl,_,zJ _ _,M2,?_,lb',?_,ld',?_⟩) (fun _=>zd ⟨_,_,_,_,_,(by rw [zJ];rfl),rfl,M2,?_,lb',?_,ld',?_⟩))))
    ·have:=fin (g:=g') M2 (by have:=beq_iff_eq.mp c;omega)
     rw [<-zJ] at this
     exact this
    all_goals
     have c:p+1 - 1≠0:=fun z=>c (beq_iff_eq.mpr z)
     first | (show 1<=p+1 - 1;omega) | (show p+1 - 1<=xs.length;omega) | (show (xs.length - na)+(ys.length - nb)+1<=(xs.length - (p+1 - 1))+(ys.length - (r+2));omega) | (show (xs.length - na)+(ys.length - nb)+(k2+1)<=(xs.length - (p+1 - 1))+(ys.length - (r+2));omega)
   | false =>
    have e2:lt xs[p] ys[r+1]=true:=by rw [T.tri _ _ xa yb (D.ne _ (alc _) _ (alc _)),e];rfl
    have M2:=MH.pushB (i:=r+1) M D.py (by omega) (qV T D.bx D.px (i:=p) (by omega) yb e2)
    refine zc (zA (zE (show r+1<ys.length by omega)) (zr (fun (c:(r+2 - 1 == 1)=true)=>zd ⟨some _,_,_,_,_,_,rfl,rfl,?_⟩) (fun (c:¬ (r+2 - 1 == 1)=true)=>zr (fun _=>zd ⟨none,_,_,_,_,_,rfl,rfl,_,zJ _ _,M2,la',?_,lc',?_,?_⟩) (fun _=>zd ⟨_,_,_,_,_,(by rw [zJ];rfl),rfl,M2,la',?_,lc',?_,?_⟩))))
    ·have:=fin2 (g:=g') M2 (by have:=beq_iff_eq.mp c;omega)
     rw [<-zJ] at this
     exact this
    all_goals
     have c:r+2 - 1≠1:=fun z=>c (beq_iff_eq.mpr z)
     first | (show 2<=r+2 - 1;omega) | (show r+2 - 1<=ys.length;omega) | (show (xs.length - na)+(ys.length - nb)+1<=(xs.length - (p+1))+(ys.length - (r+2 - 1));omega) | (show (xs.length - na)+(ys.length - nb)+(k2+1)<=(xs.length - (p+1))+(ys.length - (r+2 - 1));omega)
  ·rintro _ _ ⟨zs,na',nb',ac,bc,rfl,rfl,M,la',lb',lc',ld',hs'⟩
   exact⟨none,_,_,_,_,_,rfl,rfl,_,rfl,M,la',lb',lc',ld',by omega⟩
  ·rintro _ _ ⟨r,out,na',nb',ac,bc,rfl,rfl,hr⟩
   cases r with
   | some r=>exact zd ⟨_,_,_,_,_,_,rfl,rfl,hr⟩
   | none =>
    obtain⟨zs,rfl,M,la',lb',lc',ld',hs'⟩:=hr
    refine zc (jP ?_)
    refine zc (z9 (zN (Q:=fun c st'=>∃ r out i2 j2 g2 ac bc g3,c=(r,i2,j2,out,g2,ac,bc)/\st'=sg st g3/\match r with | some r=>Q r (sg st g3) | none=>∃ zs,out=kit it zs/\MH lt xs ys zs i2 j2/\1<=i2/\2<=j2/\i2<=xs.length/\j2<=ys.length/\(xs.length - na)+(ys.length - nb)+1<=(xs.length - i2)+(ys.length - j2)) (I:=fun k c st'=>∃ zs i2 j2 g2 ac bc g3,c=(none,i2,j2,kit it zs,g2,ac,bc)/\st'=sg st g3/\MH lt xs ys zs i2 j2/\1<=i2/\2<=j2/\i2<=xs.length/\j2<=ys.length/\(xs.length - na)+(ys.length - nb)+1<=(xs.length - i2)+(ys.length - j2)) ⟨_,_,_,_,_,_,_,rfl,rfl,M,la',lb',lc',ld',hs'⟩ (alD _) ?_ ?_) ?_)
    ·rintro k3 _ _ _ hk3 ⟨zs,i2,j2,g2,ac,bc,g3,rfl,rfl,M,l1,l2,l3,l4,hs2⟩
     obtain⟨p,rfl⟩:∃ p,i2=p+1:=⟨i2 - 1,by omega⟩
     obtain⟨r,rfl⟩:∃ r,j2=r+2:=⟨j2 - 2,by omega⟩
     have yb:ys[r+1]<n:=D.by_ _ (alc _)
     have jp:∀ {f:Unit->StateT SortSt Sem (ForInStep (Option (Array Keyed)×Nat×Nat×Array Keyed×Nat×Nat×Nat))} {R} (g4:Nat),(∀ g5,WS P w A X s (f ()) R (sg st g5))->WS P w A X s ((sortPriv% PySem.Builtin.setMinGallop) g4 >>= f) R (sg st g3):=fun g4 h=>zc (vR (h g4))
     refine zr (fun _=>jp _ fun g5=>?_) (fun _=>jp _ fun g5=>?_)
     all_goals
      refine zc (zA (zE (show r+1<ys.length by omega)) (zc (yE (b:=0) (m:=p+1) (h:=p+1 - 1) W T hk (x:=fun i=>xs.getD i 0) (by omega) yb (fun i hi=>?_) (fun i j hij hj=>?_) fun k hk1 hk2 hk3'=>?_)))
      ·have hi':i<xs.length:=by omega
       have e:xs.getD i 0=xs[i]:=by simp [alY,hi']
       rw [e,amO]
       exact⟨D.bx _ (alc _),D.ne _ (alc _) _ (alc _),zE hi'⟩
      ·have e1:xs.getD i 0=xs[i]:=by simp [alY,show i<xs.length by omega]
       have e2:xs.getD j 0=xs[j]:=by simp [alY,show j<xs.length by omega]
       rw [e1,e2]
       exact qa D.px (by omega) (by omega)
      obtain⟨s1,s2⟩:=aal T D.bx yb (fun x hx=>(D.ne x hx _ (alc _)).symm) k (p+1) (by omega) (by omega) hk2 hk3'
      have M1:=M.takeA D.px k (by omega) (fun z hz=>qV T D.by_ D.py (i:=r+1) (by omega) (D.bx z (alU (alT hz))) (s2 z hz))
      have hx1:=s1
      have ho:kit it zs++((kit it xs).extract k (p+1)).reverse=kit it (zs++((xs.drop k).take (p+1 - k)).reverse):=by rw [yd,qU,ym]
      refine zr (fun hp1=>zr (fun (c:(k == 0)=true)=>zd ⟨some _,_,_,_,_,_,_,_,rfl,rfl,?_⟩) (fun (c:¬ (k == 0)=true)=>?_)) (fun hp1=>?_)
      ·have:=fin (g:=g5) M1 (beq_iff_eq.mp c)
       rw [<-ho] at this
       exact this
      ·have c:k≠0:=fun z=>c (beq_iff_eq.mpr z)
       obtain⟨k0,rfl⟩:∃ k0,k=k0+1:=⟨k - 1,by omega⟩
       have M2:=MH.pushB (i:=r+1) M1 D.py (by omega) hx1
       have hv:(kit it zs++((kit it xs).extract (k0+1) (p+1)).reverse).push (kas_item it ys[r+1])=kit it ((zs++((xs.drop (k0+1)).take (p+1 - (k0+1))).reverse)++[ys[r+1]]):=by rw [ho,zJ]
       have xa:xs[k0]<n:=D.bx _ (alc _)
       refine zc (zA (zE (show r+1<ys.length by omega)) (zr (fun (c:(r+2 - 1 == 1)=true)=>zd ⟨some _,_,_,_,_,_,_,_,rfl,rfl,?_⟩) (fun (c:¬ (r+2 - 1 == 1)=true)=>?_)))
       ·have:=fin2 (g:=g5) M2 (by have:=beq_iff_eq.mp c;omega)
        rw [<-hv] at this
        exact this
       have c:r+2 - 1≠1:=fun z=>c (beq_iff_eq.mpr z)
       refine zc (zA (zE (show k0<xs.length by omega)) (zc (yE (b:=0) (m:=r+2 - 1) (h:=r+2 - 1 - 1) W T hk (x:=fun i=>ys.getD i 0) (by omega) xa (fun i hi=>?_) (fun i j hij hj=>?_) fun k2 hq1 hq2 hq3=>?_)))
       ·have hi':i<ys.length:=by omega
        have e:ys.getD i 0=ys[i]:=by simp [alY,hi']
        rw [e,amO]
        exact⟨D.by_ _ (alc _),fun z=>D.ne _ (alc _) _ (alc _) z.symm,zE hi'⟩
       ·have e1:ys.getD i 0=ys[i]:=by simp [alY,show i<ys.length by omega]
        have e2:ys.getD j 0=ys[j]:=by simp [alY,show j<ys.length by omega]
        rw [e1,e2]
        exact qa D.py (by omega) (by omega)
       obtain⟨t1,t2⟩:=aal T D.by_ xa (fun y hy=>(D.ne _ (alc _) y hy)) k2 (r+1) (by omega) (by omega) hq2 hq3
       have k2p:1<=k2:=by
        by_cases hz:1<=k2
        ·exact hz
        ·exfalso
         have h1:=hq3 0 (by omega) (by omega)
         have e:ys.getD 0 0=ys[0]:=by simp [alY,hy]
         have h2:lt ys[0] xs[k0]=true:=yN T D.bx D.px hx (D.by_ _ (alc hy)) first _ (by rw [amD];exact alc _)
         rw [e,h2] at h1
         cases h1
       have M3:=MH.takeB (nb:=r+1) M2 D.py k2 (by omega) (fun z hz=>qV T D.bx D.px (i:=k0) (by omega) (D.by_ z (alU (alT hz))) (t2 z hz))
       have hw:(kit it zs++((kit it xs).extract (k0+1) (p+1)).reverse).push (kas_item it ys[r+1])++((kit it ys).extract k2 (r+2 - 1)).reverse=kit it ((zs++((xs.drop (k0+1)).take (p+1 - (k0+1))).reverse)++[ys[r+1]]++((ys.drop k2).take (r+1 - k2)).reverse):=by rw [hv,yd,qU,ym,show r+2 - 1=r+1 from rfl]
       have hy3:=t1
       refine zr (fun hp0=>zr (fun (c3:(k2 == 1)=true)=>zd ⟨some _,_,_,_,_,_,_,_,rfl,rfl,?_⟩) (fun (c3:¬ (k2 == 1)=true)=>zr (fun (c4:(k2 == 0)=true)=>?_) (fun _=>?_))) (fun hp0=>?_)
       ·have:=fin2 (g:=g5) M3 (beq_iff_eq.mp c3)
        rw [<-hw] at this
        exact this
       ·have:=beq_iff_eq.mp c4
        omega
       ·have c3:k2≠1:=fun z=>c3 (beq_iff_eq.mpr z)
        have M4:=M3.pushA D.px (show k0<xs.length by omega) hy3
        have hp:((kit it zs++((kit it xs).extract (k0+1) (p+1)).reverse).push (kas_item it ys[r+1])++((kit it ys).extract k2 (r+2 - 1)).reverse).push (kas_item it xs[k0])=kit it (((zs++((xs.drop (k0+1)).take (p+1 - (k0+1))).reverse)++[ys[r+1]]++((ys.drop k2).take (r+1 - k2)).reverse)++[xs[k0]]):=by rw [hw,zJ]
        refine zc (zA (zE (show k0<xs.length by omega)) (zr (fun (c:(k0+1 - 1 == 0)=true)=>zd ⟨some _,_,_,_,_,_,_,_,rfl,rfl,?_⟩) (fun (c:¬ (k0+1 - 1 == 0)=true)=>zr (fun _=>zd ⟨none,_,_,_,_,_,_,_,rfl,rfl,_,hp,M4,?_,?_,?_,?_,?_⟩) (fun _=>zd ⟨_,_,_,_,_,_,_,(by rw [<-hp];rfl),rfl,M4,?_,?_,?_,?_,?_⟩))))
        ·have:=fin (g:=g5) M4 (by have:=beq_iff_eq.mp c;omega)
         rw [<-hp] at this
         exact this
        all_goals
         have c:k0+1 - 1≠0:=fun z=>c (beq_iff_eq.mpr z)
         first | (show 1<=k0+1 - 1;omega) | (show 2<=k2;omega) | (show k0+1 - 1<=xs.length;omega) | (show k2<=ys.length;omega) | (show (xs.length - na)+(ys.length - nb)+1<=(xs.length - (k0+1 - 1))+(ys.length - k2);omega)
       ·have hp0:¬ (r+2 - 1 - k2 > 0):=hp0
        obtain rfl:k2=r+1:=by omega
        have M4:=M2.pushA D.px (show k0<xs.length by omega) hy3
        have hp:((kit it zs++((kit it xs).extract (k0+1) (p+1)).reverse).push (kas_item it ys[r+1])).push (kas_item it xs[k0])=kit it (((zs++((xs.drop (k0+1)).take (p+1 - (k0+1))).reverse)++[ys[r+1]])++[xs[k0]]):=by rw [hv,zJ]
        refine zc (zA (zE (show k0<xs.length by omega)) (zr (fun (c:(k0+1 - 1 == 0)=true)=>zd ⟨some _,_,_,_,_,_,_,_,rfl,rfl,?_⟩) (fun (c:¬ (k0+1 - 1 == 0)=true)=>zr (fun _=>zd ⟨none,_,_,_,_,_,_,_,rfl,rfl,_,hp,M4,?_,?_,?_,?_,?_⟩) (fun _=>zd ⟨_,_,_,_,_,_,_,(by rw [<-hp];rfl),rfl,M4,?_,?_,?_,?_,?_⟩))))
        ·have:=fin (g:=g5) M4 (by have:=beq_iff_eq.mp c;omega)
         rw [<-hp] at this
         exact this
        all_goals
         have c:k0+1 - 1≠0:=fun z=>c (beq_iff_eq.mpr z)
         first | (show 1<=k0+1 - 1;omega) | (show 2<=(r+2 - 1);omega) | (show k0+1 - 1<=xs.length;omega) | (show (r+2 - 1)<=ys.length;omega) | (show (xs.length - na)+(ys.length - nb)+1<=(xs.length - (k0+1 - 1))+(ys.length - (r+2 - 1));omega)
      ·have hp1:¬ (p+1 - k > 0):=hp1
       obtain rfl:k=p+1:=by omega
       have M2:=MH.pushB (i:=r+1) M D.py (by omega) hx1
       have hv:(kit it zs).push (kas_item it ys[r+1])=kit it (zs++[ys[r+1]]):=by rw [(rfl:kit it zs=kit it zs),zJ]
       have xa:xs[p]<n:=D.bx _ (alc _)
       refine zc (zA (zE (show r+1<ys.length by omega)) (zr (fun (c:(r+2 - 1 == 1)=true)=>zd ⟨some _,_,_,_,_,_,_,_,rfl,rfl,?_⟩) (fun (c:¬ (r+2 - 1 == 1)=true)=>?_)))
       ·have:=fin2 (g:=g5) M2 (by have:=beq_iff_eq.mp c;omega)
        rw [<-hv] at this
        exact this
       have c:r+2 - 1≠1:=fun z=>c (beq_iff_eq.mpr z)
       refine zc (zA (zE (show p<xs.length by omega)) (zc (yE (b:=0) (m:=r+2 - 1) (h:=r+2 - 1 - 1) W T hk (x:=fun i=>ys.getD i 0) (by omega) xa (fun i hi=>?_) (fun i j hij hj=>?_) fun k2 hq1 hq2 hq3=>?_)))
       ·have hi':i<ys.length:=by omega
        have e:ys.getD i 0=ys[i]:=by simp [alY,hi']
        rw [e,amO]
        exact⟨D.by_ _ (alc _),fun z=>D.ne _ (alc _) _ (alc _) z.symm,zE hi'⟩
       ·have e1:ys.getD i 0=ys[i]:=by simp [alY,show i<ys.length by omega]
        have e2:ys.getD j 0=ys[j]:=by simp [alY,show j<ys.length by omega]
        rw [e1,e2]
        exact qa D.py (by omega) (by omega)
       obtain⟨t1,t2⟩:=aal T D.by_ xa (fun y hy=>(D.ne _ (alc _) y hy)) k2 (r+1) (by omega) (by omega) hq2 hq3
       have k2p:1<=k2:=by
        by_cases hz:1<=k2
        ·exact hz
        ·exfalso
         have h1:=hq3 0 (by omega) (by omega)
         have e:ys.getD 0 0=ys[0]:=by simp [alY,hy]
         have h2:lt ys[0] xs[p]=true:=yN T D.bx D.px hx (D.by_ _ (alc hy)) first _ (by rw [amD];exact alc _)
         rw [e,h2] at h1
         cases h1
       have M3:=MH.takeB (nb:=r+1) M2 D.py k2 (by omega) (fun z hz=>qV T D.bx D.px (i:=p) (by omega) (D.by_ z (alU (alT hz))) (t2 z hz))
       have hw:(kit it zs).push (kas_item it ys[r+1])++((kit it ys).extract k2 (r+2 - 1)).reverse=kit it (zs++[ys[r+1]]++((ys.drop k2).take (r+1 - k2)).reverse):=by rw [hv,yd,qU,ym,show r+2 - 1=r+1 from rfl]
       have hy3:=t1
       refine zr (fun hp0=>zr (fun (c3:(k2 == 1)=true)=>zd ⟨some _,_,_,_,_,_,_,_,rfl,rfl,?_⟩) (fun (c3:¬ (k2 == 1)=true)=>zr (fun (c4:(k2 == 0)=true)=>?_) (fun _=>?_))) (fun hp0=>?_)
       ·have:=fin2 (g:=g5) M3 (beq_iff_eq.mp c3)
        rw [<-hw] at this
        exact this
       ·have:=beq_iff_eq.mp c4
        omega
       ·have c3:k2≠1:=fun z=>c3 (beq_iff_eq.mpr z)
        have M4:=M3.pushA D.px (show p<xs.length by omega) hy3
        have hp:((kit it zs).push (kas_item it ys[r+1])++((kit it ys).extract k2 (r+2 - 1)).reverse).push (kas_item it xs[p])=kit it ((zs++[ys[r+1]]++((ys.drop k2).take (r+1 - k2)).reverse)++[xs[p]]):=by rw [hw,zJ]
        refine zc (zA (zE (show p<xs.length by omega)) (zr (fun (c:(p+1 - 1 == 0)=true)=>zd ⟨some _,_,_,_,_,_,_,_,rfl,rfl,?_⟩) (fun (c:¬ (p+1 - 1 == 0)=true)=>zr (fun _=>zd ⟨none,_,_,_,_,_,_,_,rfl,rfl,_,hp,M4,?_,?_,?_,?_,?_⟩) (fun _=>zd ⟨_,_,_,_,_,_,_,(by rw [<-hp];rfl),rfl,M4,?_,?_,?_,?_,?_⟩))))
        ·have:=fin (g:=g5) M4 (by have:=beq_iff_eq.mp c;omega)
         rw [<-hp] at this
         exact this
        all_goals
         have c:p+1 - 1≠0:=fun z=>c (beq_iff_eq.mpr z)
         first | (show 1<=p+1 - 1;omega) | (show 2<=k2;omega) | (show p+1 - 1<=xs.length;omega) | (show k2<=ys.length;omega) | (show (xs.length - na)+(ys.length - nb)+1<=(xs.length - (p+1 - 1))+(ys.length - k2);omega)
       ·have hp0:¬ (r+2 - 1 - k2 > 0):=hp0
        obtain rfl:k2=r+1:=by omega
        have M4:=M2.pushA D.px (show p<xs.length by omega) hy3
        have hp:((kit it zs).push (kas_item it ys[r+1])).push (kas_item it xs[p])=kit it ((zs++[ys[r+1]])++[xs[p]]):=by rw [hv,zJ]
        refine zc (zA (zE (show p<xs.length by omega)) (zr (fun (c:(p+1 - 1 == 0)=true)=>zd ⟨some _,_,_,_,_,_,_,_,rfl,rfl,?_⟩) (fun (c:¬ (p+1 - 1 == 0)=true)=>zr (fun _=>zd ⟨none,_,_,_,_,_,_,_,rfl,rfl,_,hp,M4,?_,?_,?_,?_,?_⟩) (fun _=>zd ⟨_,_,_,_,_,_,_,(by rw [<-hp];rfl),rfl,M4,?_,?_,?_,?_,?_⟩))))
        ·have:=fin (g:=g5) M4 (by have:=beq_iff_eq.mp c;omega)
         rw [<-hp] at this
         exact this
        all_goals
         have c:p+1 - 1≠0:=fun z=>c (beq_iff_eq.mpr z)
         first | (show 1<=p+1 - 1;omega) | (show 2<=(r+2 - 1);omega) | (show p+1 - 1<=xs.length;omega) | (show (r+2 - 1)<=ys.length;omega) | (show (xs.length - na)+(ys.length - nb)+1<=(xs.length - (p+1 - 1))+(ys.length - (r+2 - 1));omega)
    ·rintro _ _ ⟨zs,i2,j2,g2,ac,bc,g3,rfl,rfl,M,l1,l2,l3,l4,hs2⟩
     exact⟨none,_,_,_,_,_,_,_,rfl,rfl,_,rfl,M,l1,l2,l3,l4,hs2⟩
    ·rintro _ _ ⟨r,out,i2,j2,g2,ac,bc,g3,rfl,rfl,hr⟩
     cases r with
     | some r=>exact zd ⟨_,_,_,_,_,_,rfl,rfl,hr⟩
     | none =>
      obtain⟨zs,rfl,M,l1,l2,l3,l4,hs2⟩:=hr
      refine zc (vR ?_)
      exact zd ⟨_,_,_,_,_,rfl,rfl,M,l1,l2,l3,l4,show k+1+1<=(xs.length - i2)+(ys.length - j2) by omega⟩
 ·rintro _ _ ⟨zs,na,nb,g,g',rfl,rfl,M,la,lb,lc,ld,hs⟩
  omega
 ·rintro _ _ ⟨r,out,na,nb,g,g',rfl,rfl,hq⟩
  exact zd hq
end
end L2
end
section
set_option maxHeartbeats 400000
namespace L2
open PySem PySem.W PySem.Calls PyProof.Rows
theorem aem {α:Type}:∀ (l:List α) (j b:Nat) (arr:Array α) (P O R:List α),arr.toList=P++O++R->P.length=b+j->O.length=l.length->((l.zipIdx j).foldl (fun a x=>match x with | (p,j)=>a.setIfInBounds (b+j) p) arr).toList=P++l++R
 | [],j,b,arr,P,O,R,h,_,hl=>by
  have:O=[]:=List.eq_nil_of_length_eq_zero hl
  subst this
  exact h
 | x :: l,j,b,arr,P,O,R,h,hp,hl=>by
  cases O with
  | nil=>cases hl
  | cons o O =>
   rw [List.zipIdx_cons,List.foldl_cons]
   have:=aem l (j+1) b (arr.setIfInBounds (b+j) x) (P++[x]) O R (by
    rw [Array.toList_setIfInBounds,h,<- hp]
    simp) (by rw [alr,hp];rfl) (by simpa using hl)
   rw [this]
   simp
section
variable {P:Program} {w:World} {A:Around} {X:Value->Shared->Prop} {s:Shared} {κ:SortKind} {it:Array Keyed} {n:Nat} {lt:Nat->Nat->Bool}
theorem ajZ {st st2:SortSt} {Q:PUnit->SortSt->Prop} (h:Q ⟨⟩ st2):WS P w A X s (set st2:StateT SortSt Sem PUnit) Q st:=by
 unfold WS kasC
 rw [StateT.run_set]
 exact wpAny_pure ⟨rfl,h⟩
theorem aj0 (W:Ans (kas_cmp P w A κ it) n lt s) (T:Tot n lt) {xs ys:List Nat} {st:SortSt} {g0:Nat} {Q:Array Keyed->SortSt->Prop} {a b:Array Keyed} (ha:a=kit it xs) (hb:b=kit it ys) (hk:kindOf st=κ) (D:Two n lt xs ys) (hx:0<xs.length) (hy:0<ys.length) (first:lt ys[0] xs[0]=true) (last:∀ y∈ys,lt y xs[xs.length - 1]=true)
  (q:∀ zs g,zs.Perm (xs++ys)->(zs.Pairwise fun a b=>lt a b=true)->Q (kit it zs) (sg st g)):WS P w A X s (acz a b) Q (sg st g0):=by
 subst ha hb
 exact adC W T hk D hx hy first last q
theorem aj1 (W:Ans (kas_cmp P w A κ it) n lt s) (T:Tot n lt) {xs ys:List Nat} {st:SortSt} {g0:Nat} {Q:Array Keyed->SortSt->Prop} {a b:Array Keyed} (ha:a=kit it xs) (hb:b=kit it ys) (hk:kindOf st=κ) (D:Two n lt xs ys) (hx:0<xs.length) (hy:0<ys.length) (first:lt ys[0] xs[0]=true) (last:∀ y∈ys,lt y xs[xs.length - 1]=true)
  (q:∀ zs g,zs.Perm (xs++ys)->(zs.Pairwise fun a b=>lt a b=true)->Q (kit it zs) (sg st g)):WS P w A X s (acA a b) Q (sg st g0):=by
 subst ha hb
 exact adD W T hk D hx hy first last q
theorem adE (W:Ans (kas_cmp P w A κ it) n lt s) (T:Tot n lt) {g pw:Nat} {Q:Bool->SortSt->Prop} {xs ys:List Nat} (D:Two n lt xs ys) (hx:0<xs.length) (hy:0<ys.length)
  (q:∀ zs g',zs.Perm (xs++ys)->(zs.Pairwise fun a b=>lt a b=true)->Q true (amy κ (kit it zs) #[(0,xs.length+ys.length,pw)] g' none)):WS P w A X s (mergeAt' 0) Q (amy κ (kit it (xs++ys)) #[(0,xs.length,pw),(xs.length,ys.length,0)] g none):=by
 have lx:∀ i,i<xs.length->(kit it (xs++ys))[i]?=some (kas_item it (xs.getD i 0)):=fun i hi=>by
  rw [zE (show i<(xs++ys).length by rw [alr];omega),List.getElem_append_left hi]
  simp [alY,hi]
 have ly:∀ i,i<ys.length->(kit it (xs++ys))[xs.length+i]?=some (kas_item it (ys.getD i 0)):=fun i hi=>by
  rw [zE (show xs.length+i<(xs++ys).length by rw [alr];omega),anB (by omega)]
  simp [alY,hi]
 have gx:∀ i (hi:i<xs.length),xs.getD i 0=xs[i]:=fun i hi=>by simp [alY,hi]
 have gy:∀ i (hi:i<ys.length),ys.getD i 0=ys[i]:=fun i hi=>by simp [alY,hi]
 have y0:ys[0]<n:=D.by_ _ (alc _)
 have xl:xs[xs.length - 1]<n:=D.bx _ (alc _)
 have hpd:(((#[(0,xs.length,pw),(xs.length,ys.length,0)]:Array (Nat×Nat×Nat)).setIfInBounds 0 (0,xs.length+ys.length,pw)).eraseIdxIfInBounds (0+1))=#[(0,xs.length+ys.length,pw)]:=by
  apply anA.mp
  simp [Array.eraseIdxIfInBounds]
 refine zc (yC (zc (ajZ ?_)))
 refine zc (zA (i:=xs.length) (x:=kas_item it ys[0]) (by have:=ly 0 hy;rw [gy 0 hy] at this;exact this) ?_)
 refine zc (yE (b:=0) (m:=xs.length) (h:=0) W T rfl (x:=fun i=>xs.getD i 0) hx y0 (fun i hi=>⟨by rw [gx i hi];exact D.bx _ (alc _),by rw [gx i hi];exact D.ne _ (alc _) _ (alc _),by rw [amO];exact lx i hi⟩) (fun i j hij hj=>by rw [gx i (by omega),gx j hj];exact qa D.px hij hj) fun k hk1 hk2 hk3=>?_)
 obtain⟨s1,s2⟩:=aal T D.bx y0 (fun x hx=>(D.ne x hx _ (alc _)).symm) k xs.length (ali _) hk1 hk2 hk3
 have yy:∀ y∈ys,y=ys[0] \/ lt ys[0] y=true:=fun y hy'=>by
  obtain⟨j,hj,rfl⟩:=alJ hy'
  by_cases e:j=0
  ·subst e;exact .inl rfl
  ·exact .inr (qa D.py (by omega) hj)
 have cross:∀ r∈xs.take k,∀ y∈ys,lt r y=true:=fun r hr y hy'=>by
  rcases yy y hy' with rfl | h
  ·exact s1 r hr
  ·exact T.tra _ _ _ (D.bx r (alT hr)) y0 (D.by_ y hy') (s1 r hr) h
 refine zr (fun (c:(xs.length - k == 0)=true)=>zd ?_) (fun (c:¬ (xs.length - k == 0)=true)=>?_)
 ·have c:=beq_iff_eq.mp c
  obtain rfl:k=xs.length:=by omega
  rw [amf] at cross
  have:=q (xs++ys) g (.refl _) (alL.mpr ⟨D.px,D.py,cross⟩)
  rw [<-hpd] at this
  exact this
 have c:xs.length - k≠0:=fun z=>c (beq_iff_eq.mpr z)
 have kl:k<xs.length:=by omega
 have sk:lt ys[0] xs[k]=true:=s2 _ (by
  rw [drop_cons kl,show xs.length - k=(xs.length - k - 1)+1 by omega,List.take_succ_cons]
  exact als)
 have sl:lt ys[0] xs[xs.length - 1]=true:=yN T D.bx D.px kl y0 sk _ (by
  have e:xs[xs.length - 1]=(xs.drop k)[xs.length - 1 - k]'(by rw [alP];omega):=by
   rw [am2]
   congr 1
   omega
  rw [e]
  exact alc _)
 refine zc (zA (i:=0+k+(xs.length - k) - 1) (x:=kas_item it xs[xs.length - 1]) (by
  rw [show 0+k+(xs.length - k) - 1=xs.length - 1 by omega]
  have:=lx (xs.length - 1) (by omega)
  rw [gx _ (by omega)] at this
  exact this) ?_)
 refine zc (yE (b:=xs.length) (m:=ys.length) (h:=ys.length - 1) W T rfl (x:=fun i=>ys.getD i 0) (by omega) xl (fun i hi=>⟨by rw [gy i hi];exact D.by_ _ (alc _),by rw [gy i hi];exact fun z=>D.ne _ (alc _) _ (alc _) z.symm,ly i hi⟩) (fun i j hij hj=>by rw [gy i (by omega),gy j hj];exact qa D.py hij hj) fun m hm1 hm2 hm3=>?_)
 obtain⟨t1,t2⟩:=aal T D.by_ xl (fun y hy=>D.ne _ (alc _) y hy) m ys.length (ali _) hm1 hm2 hm3
 have mp:0<m:=by
  by_cases hz:0<m
  ·exact hz
  ·exfalso
   have h1:=hm3 0 (by omega) hy
   rw [gy 0 hy,sl] at h1
   cases h1
 refine zr (fun (c:(m == 0)=true)=>by have:=beq_iff_eq.mp c;omega) (fun _=>?_)
 have ex:(kit it (xs++ys)).extract (0+k) xs.length=kit it (xs.drop k):=by
  rw [yd,amO,aoe (by omega),amE (by rw [alP];omega),alO (by rw [alP];omega)]
 have ey:(kit it (xs++ys)).extract xs.length (xs.length+m)=kit it (ys.take m):=by
  rw [yd,al9,aoe (ali _),anz,aog]
 have D2:Two n lt (xs.drop k) (ys.take m):=⟨fun x hx=>D.bx x (alU hx),fun y hy=>D.by_ y (alT hy),D.px.sublist (anr _ _),D.py.sublist (anL _ _),fun x hx y hy=>D.ne x (alU hx) y (alT hy)⟩
 have h1:0<(xs.drop k).length:=by rw [alP];omega
 have h2:0<(ys.take m).length:=by rw [alq];omega
 have f2:lt (ys.take m)[0] (xs.drop k)[0]=true:=by
  rw [alR,am2]
  exact sk
 have l2:∀ y∈ys.take m,lt y (xs.drop k)[(xs.drop k).length - 1]=true:=fun y hy'=>by
  have e:(xs.drop k)[(xs.drop k).length - 1]=xs[xs.length - 1]:=by
   rw [am2]
   congr 1
   rw [alP]
   omega
  rw [e]
  exact t1 y hy'
 have fin:∀ (zs:List Nat) (g':Nat),zs.Perm (xs.drop k++ys.take m)->(zs.Pairwise fun a b=>lt a b=true)->Q true (amy κ ((kit it zs).toList.zipIdx.foldl (fun a x=>match x with | (p,j)=>a.setIfInBounds (0+k+j) p) (kit it (xs++ys))) (((#[(0,xs.length,pw),(xs.length,ys.length,0)]:Array (Nat×Nat×Nat)).setIfInBounds 0 (0,xs.length+ys.length,pw)).eraseIdxIfInBounds (0+1)) g' none):=fun zs g' pz uz=>by
  rw [hpd]
  have ea:(kit it zs).toList.zipIdx.foldl (fun a x=>match x with | (p,j)=>a.setIfInBounds (0+k+j) p) (kit it (xs++ys))=kit it (xs.take k++zs++ys.drop m):=by
   apply anA.mp
   have:=aem ((kit it zs).toList) 0 (0+k) (kit it (xs++ys)) ((xs.take k).map (kas_item it)) ((xs.drop k++ys.take m).map (kas_item it)) ((ys.drop m).map (kas_item it)) (by
    unfold kit
    rw [<-alX,<- alX]
    show (xs++ys).map _=_
    congr 1
    rw [alH,alH,alE,<- alH,alE]) (by rw [ale,alq];omega) (by
    unfold kit
    show _=(zs.map _).length
    rw [ale,ale,pz.length_eq])
   rw [this]
   unfold kit
   simp
  rw [ea]
  have mem:∀ z∈zs,z∈xs.drop k \/ z∈ys.take m:=fun z hz=>alM.mp (pz.mem_iff.mp hz)
  refine q _ g' ?_ ?_
  ·refine (List.Perm.append_right _ (amo _ pz)).trans ?_
   rw [alH,alH,alE,<- alH,alE]
  ·have px:=D.px
   rw [<-alE k xs,alL] at px
   have py:=D.py
   rw [<-alE m ys,alL] at py
   refine alL.mpr ⟨alL.mpr ⟨px.1,uz,fun r hr z hz=>?_⟩,py.2.1,fun r hr z hz=>?_⟩
   ·rcases mem z hz with h | h
    ·exact px.2.2 r hr z h
    ·exact cross r hr z (alT h)
   ·rcases alM.mp hr with h | h
    ·exact cross r h z (alU hz)
    ·rcases mem r h with h | h
     ·have hz2:lt xs[xs.length - 1] z=true:=t2 z (by rw [alO (by rw [alP];omega)];exact hz)
      obtain⟨j,hj,rfl⟩:=alJ (alU h)
      by_cases e:j=xs.length - 1
      ·subst e;exact hz2
      ·exact T.tra _ _ _ (D.bx _ (alc _)) xl (D.by_ z (alU hz)) (qa D.px (by omega) (by omega)) hz2
     ·exact py.2.2 r h z hz
 refine zr (fun _=>zc (aj0 (st:=amy κ (kit it (xs++ys)) (((#[(0,xs.length,pw),(xs.length,ys.length,0)]:Array (Nat×Nat×Nat)).setIfInBounds 0 (0,xs.length+ys.length,pw)).eraseIdxIfInBounds (0+1)) g none) (g0:=g) W T ex ey rfl D2 h1 h2 f2 l2 fun zs g' pz uz=>zc (yf (zc (yC (zd (fin zs g' pz uz))))))) (fun _=>zc (aj1 (st:=amy κ (kit it (xs++ys)) (((#[(0,xs.length,pw),(xs.length,ys.length,0)]:Array (Nat×Nat×Nat)).setIfInBounds 0 (0,xs.length+ys.length,pw)).eraseIdxIfInBounds (0+1)) g none) (g0:=g) W T ex ey rfl D2 h1 h2 f2 l2 fun zs g' pz uz=>zc (yf (zc (yC (zd (fin zs g' pz uz)))))))
end
end L2
end
section
set_option maxHeartbeats 400000
namespace L2
open PySem PySem.W PySem.Calls PyProof.Rows
section
variable {it:Array Keyed} {n:Nat} {lt:Nat->Nat->Bool}
theorem aen (l:List Nat) (k:Nat):(kit it l)[k]?=l[k]?.map (kas_item it):=by unfold kit;simp
theorem ah9 {A B:List Nat} {m:Nat} (hm:m<=B.length):mirror (kit it (A++B)) A.length (A.length+m) ((A.length+m - A.length) / 2)=kit it (A++((B.take m).reverse++B.drop m)):=by
 apply Array.ext_getElem?
 intro k
 rw [getElem?_mirror_all (by rw [je,alr];omega)]
 simp only [aen]
 have lr:(B.take m).reverse.length=m:=by rw [anE,alq];omega
 by_cases h1:k<A.length
 ·rw [if_neg (by omega),alk h1,alk h1]
 ·by_cases h2:k<A.length+m
  ·rw [if_pos ⟨by omega,h2⟩,alj (by omega),alj (by omega),alk (by omega),List.getElem?_reverse (by rw [alq];omega),amt (by rw [alq];omega)]
   congr 2
   rw [alq]
   omega
  ·rw [if_neg (by omega),alj (by omega),alj (by omega),alj (by omega),anj]
   congr 2
   omega
theorem agO {A B:List Nat} {k l:Nat} (hk:k<B.length) (hl:l<=k):bubble (kit it (A++B)) (A.length+k) (A.length+k - (A.length+l))=kit it (A++(B.take l++B[k] :: ((B.drop l).take (k - l)++B.drop (k+1)))):=by
 apply Array.ext_getElem?
 intro j
 rw [getElem?_bubble (by rw [je,alr];omega) _ (by omega)]
 simp only [aen]
 rw [show A.length+k - (A.length+k - (A.length+l))=A.length+l by omega]
 have lt':(B.take l).length=l:=by rw [alq];omega
 by_cases h1:j<A.length
 ·rw [if_neg (by omega),if_neg (by omega),alk h1,alk h1]
 ·obtain⟨j,rfl⟩:∃ i,j=A.length+i:=⟨j - A.length,by omega⟩
  rw [alj (l₁:=A) (l₂:=B.take l++_) (by omega),al9]
  by_cases h2:j=l
  ·subst h2
   rw [if_pos rfl,alj (by omega),al9,alj (by omega),lt',ank,List.getElem?_cons_zero,alb hk]
  ·rw [if_neg (by omega)]
   by_cases h3:j<l
   ·rw [if_neg (by omega),alj (by omega),al9,alk (by omega),amt h3]
   ·rw [alj (l₁:=B.take l) (by omega),lt',show j - l=(j - l - 1)+1 by omega,aoN]
    have ld:((B.drop l).take (k - l)).length=k - l:=by rw [alq,alP];omega
    by_cases h4:j<=k
    ·rw [if_pos (by omega),alj (l₁:=A) (by omega),alk (by omega),amt (by omega),anj]
     congr 2
     omega
    ·rw [if_neg (by omega),alj (l₁:=A) (by omega),al9,alj (by omega),ld,anj]
     congr 2
     omega
end
section
variable {P:Program} {w:World} {A:Around} {X:Value->Shared->Prop} {s:Shared} {κ:SortKind} {it:Array Keyed} {n:Nat} {lt:Nat->Nat->Bool}
noncomputable def sl (κ:SortKind) (it:Array Keyed) (l:List Nat) (pd:Array (Nat×Nat×Nat)) (g:Nat):SortSt:=amy κ (kit it l) pd g none
theorem aia (W:Ans (kas_cmp P w A κ it) n lt s) {l:List Nat} (bl:∀ x∈l,x<n) {pd:Array (Nat×Nat×Nat)} {g i j:Nat} {Q:Option Bool->SortSt->Prop} (hi:i<l.length) (hj:j<l.length) (h:Q (some (lt l[i] l[j])) (sl κ it l pd g)):WS P w A X s (ltAt' i j) Q (sl κ it l pd g):=by
 refine zc (yC (zc (zA (zE hi) (zc (zA (zE hj) ?_)))))
 exact acB W rfl (bl _ (alc _)) (bl _ (alc _)) h
theorem aj2 {B C:List Nat} {pd:Array (Nat×Nat×Nat)} {g m:Nat} {Q:Unit->SortSt->Prop} (hm:m<=C.length) (h:Q () (sl κ it (B++((C.take m).reverse++C.drop m)) pd g)):WS P w A X s (reverseSlice' B.length (B.length+m)) Q (sl κ it (B++C) pd g):=by
 unfold WS
 rw [reverseSlice'_eq]
 refine yf ?_
 have e:setArr (sl κ it (B++C) pd g) (mirror (arrOf (sl κ it (B++C) pd g)) B.length (B.length+m) ((B.length+m - B.length) / 2))=sl κ it (B++((C.take m).reverse++C.drop m)) pd g:=by
  show amy κ (mirror (kit it (B++C)) B.length (B.length+m) ((B.length+m - B.length) / 2)) pd g none=_
  rw [ah9 hm]
  rfl
 rw [e]
 exact h
theorem aib {B C:List Nat} {pd:Array (Nat×Nat×Nat)} {g k l:Nat} {Q:Unit->SortSt->Prop} (hk:k<C.length) (hl:l<=k) (h:Q () (sl κ it (B++(C.take l++C[k] :: ((C.drop l).take (k - l)++C.drop (k+1)))) pd g)):WS P w A X s (moveDown' (B.length+k) (B.length+l)) Q (sl κ it (B++C) pd g):=by
 unfold WS
 rw [moveDown'_eq]
 refine yf ?_
 have e:setArr (sl κ it (B++C) pd g) (bubble (arrOf (sl κ it (B++C) pd g)) (B.length+k) (B.length+k - (B.length+l)))=sl κ it (B++(C.take l++C[k] :: ((C.drop l).take (k - l)++C.drop (k+1)))) pd g:=by
  show amy κ (bubble (kit it (B++C)) (B.length+k) (B.length+k - (B.length+l))) pd g none=_
  rw [agO hk hl]
  rfl
 rw [e]
 exact h
end
end L2
end
section
set_option maxHeartbeats 400000
namespace L2
open PySem PySem.W PySem.Calls PyProof.Rows
section
variable {P:Program} {w:World} {A:Around} {X:Value->Shared->Prop} {s:Shared} {κ:SortKind} {it:Array Keyed} {n:Nat} {lt:Nat->Nat->Bool}
theorem vt (W:Ans (kas_cmp P w A κ it) n lt s) {B C:List Nat} (bl:∀ x∈B++C,x<n) {pd:Array (Nat×Nat×Nat)} {g i j:Nat} {Q:Option Bool->SortSt->Prop} (hi:i<C.length) (hj:j<C.length) (h:Q (some (lt C[i] C[j])) (sl κ it (B++C) pd g)):WS P w A X s (ltAt' (B.length+i) (B.length+j)) Q (sl κ it (B++C) pd g):=by
 refine aia W bl (by rw [alr];omega) (by rw [alr];omega) ?_
 rw [anB (by omega),anB (by omega)]
 simpa using h
theorem aaV (T:Tot n lt) {C:List Nat} (bc:∀ x∈C,x<n) {m:Nat} (hm:m+1<C.length) (u:(C.take (m+1)).Pairwise fun a b=>lt a b=true) (h:lt C[m] C[m+1]=true):(C.take (m+1+1)).Pairwise fun a b=>lt a b=true:=by
 rw [am3 hm]
 refine alL.mpr ⟨u,anK _ _,fun r hr z hz=>?_⟩
 rw [alK.mp hz]
 obtain⟨j,hj,rfl⟩:=alJ hr
 rw [alq] at hj
 by_cases e:j=m
 ·subst e;rw [alR];exact h
 ·have:=alZ.mp u j m (by rw [alq];omega) (by rw [alq];omega) (by omega)
  rw [alR,alR] at this
  rw [alR]
  exact T.tra _ _ _ (bc _ (alc _)) (bc _ (alc _)) (bc _ (alc _)) this h
theorem aaW (T:Tot n lt) {C:List Nat} (bc:∀ x∈C,x<n) {m:Nat} (hm:m+1<C.length) (u:(C.take (m+1)).Pairwise fun a b=>lt b a=true) (h:lt C[m+1] C[m]=true):(C.take (m+1+1)).Pairwise fun a b=>lt b a=true:=by
 rw [am3 hm]
 refine alL.mpr ⟨u,anK _ _,fun r hr z hz=>?_⟩
 rw [alK.mp hz]
 obtain⟨j,hj,rfl⟩:=alJ hr
 rw [alq] at hj
 by_cases e:j=m
 ·subst e;rw [alR];exact h
 ·have:=alZ.mp u j m (by rw [alq];omega) (by rw [alq];omega) (by omega)
  rw [alR,alR] at this
  rw [alR]
  exact T.tra _ _ _ (bc _ (alc _)) (bc _ (alc _)) (bc _ (alc _)) h this
theorem aeo {C:List Nat} (nd:C.Nodup) {i j:Nat} (hi:i<C.length) (hj:j<C.length) (ne:i≠j):C[i]≠C[j]:=fun e=>ne ((anw nd).mp e)
theorem agP (W:Ans (kas_cmp P w A κ it) n lt s) (T:Tot n lt) {B C:List Nat} (bl:∀ x∈B++C,x<n) (nd:C.Nodup) (hc:0<C.length) {pd:Array (Nat×Nat×Nat)} {g:Nat} {Q:Option Nat->SortSt->Prop}
  (q:∀ m C',1<=m->m<=C.length->C'.Perm C->((C'.take m).Pairwise fun a b=>lt a b=true)->Q (some m) (sl κ it (B++C') pd g)):WS P w A X s (countRun' B.length C.length) Q (sl κ it (B++C) pd g):=by
 have bc:∀ x∈C,x<n:=fun x hx=>bl x (alx _ hx)
 have one:∀ {f:Nat->Nat->Prop},(C.take 1).Pairwise f:=fun {f}=>by
  rw [show C.take 1=[C[0]] by rw [am3 hc];rfl]
  exact anK _ _
 refine zc (z9 (zN (Q:=fun c st'=>st'=sl κ it (B++C) pd g/\∃ m,c=(none,m)/\1<=m/\m<=C.length/\((C.take m).Pairwise fun a b=>lt a b=true)/\(m=C.length \/ ∃ p,∃ h:p+1<C.length,m=p+1/\lt C[p+1] C[p]=true)) (I:=fun k c st'=>st'=sl κ it (B++C) pd g/\c=(none,k)/\((C.take k).Pairwise fun a b=>lt a b=true)) ⟨rfl,rfl,one⟩ hc ?_ ?_) ?_)
 ·rintro k _ _ h1 h2 ⟨rfl,rfl,u⟩
  obtain⟨m,rfl⟩:∃ m,k=m+1:=⟨k - 1,by omega⟩
  refine zc (vt W bl (i:=m+1) (j:=m) h2 (by omega) ?_)
  cases e:lt C[m+1] C[m] with
  | true=>exact zd ⟨rfl,m+1,rfl,by omega,by omega,u,.inr ⟨m,h2,rfl,e⟩⟩
  | false=>exact zd ⟨rfl,rfl,aaV T bc h2 u (by rw [T.tri _ _ (bc _ (alc _)) (bc _ (alc _)) (aeo nd (by omega) h2 (by omega)),e];rfl)⟩
 ·rintro _ _ ⟨rfl,rfl,u⟩
  exact⟨rfl,_,rfl,hc,ali _,u,.inl rfl⟩
 ·rintro _ _ ⟨rfl,m,rfl,m1,m2,u,hm⟩
  refine zr (fun (c:(m == C.length)=true)=>zd (q m C m1 m2 (.refl _) u)) (fun (c:¬ (m == C.length)=true)=>?_)
  have c:m≠C.length:=fun z=>c (beq_iff_eq.mpr z)
  refine zr (fun (c2:m > 1)=>?_) (fun (c2:¬ m > 1)=>?_)
  ·obtain⟨m,rfl⟩:∃ m',m=m'+1:=⟨m - 1,by omega⟩
   refine zc (vt W bl (i:=0) (j:=m) hc (by omega) ?_)
   have:=alZ.mp u 0 m (by rw [alq];omega) (by rw [alq];omega) (by omega)
   rw [alR,alR] at this
   rw [this]
   exact zd (q (m+1) C m1 m2 (.refl _) u)
  ·obtain rfl:m=1:=by omega
   obtain⟨p,hp,e,hl⟩:=hm.resolve_left (by omega)
   obtain rfl:p=0:=by omega
   refine zc (jP ?_)
   refine zc (z9 (zN (Q:=fun c st'=>st'=sl κ it (B++C) pd g/\∃ m,c=(none,m,0)/\2<=m/\m<=C.length/\((C.take m).Pairwise fun a b=>lt b a=true)) (I:=fun k c st'=>st'=sl κ it (B++C) pd g/\c=(none,k,0)/\((C.take k).Pairwise fun a b=>lt b a=true)) ⟨rfl,rfl,aaW T bc hp one hl⟩ (show 1+1<=C.length by omega) ?_ ?_) ?_)
   ·rintro k _ _ h1 h2 ⟨rfl,rfl,v⟩
    obtain⟨m,rfl⟩:∃ m,k=m+1:=⟨k - 1,by omega⟩
    refine zc (vt W bl (i:=m+1) (j:=m) h2 (by omega) ?_)
    cases e2:lt C[m+1] C[m] with
    | true=>exact zd ⟨rfl,rfl,aaW T bc h2 v e2⟩
    | false =>
     refine zc (vt W bl (i:=m) (j:=m+1) (by omega) h2 ?_)
     have e3:lt C[m] C[m+1]=true:=by rw [T.tri _ _ (bc _ (alc _)) (bc _ (alc _)) (aeo nd (by omega) h2 (by omega)),e2];rfl
     rw [e3]
     exact zd ⟨rfl,m+1,rfl,h1,by omega,v⟩
   ·rintro _ _ ⟨rfl,rfl,v⟩
    exact⟨rfl,_,rfl,by omega,ali _,v⟩
   ·rintro _ _ ⟨rfl,m,rfl,n1,n2,v⟩
    refine zc (aj2 n2 ?_)
    have pc:((C.take m).reverse++C.drop m).Perm C:=by
     refine ((aoH _).append_right _).trans ?_
     rw [alE]
    have lr:(C.take m).reverse.length=m:=by rw [anE,alq];omega
    have u0:(((C.take m).reverse++C.drop m).take m).Pairwise fun a b=>lt a b=true:=by
     rw [amE (by omega),alO (by omega)]
     exact an0.mpr v
    have ln:=pc.length_eq
    have nd2:=pc.nodup_iff.mpr nd
    have bl2:∀ x∈B++((C.take m).reverse++C.drop m),x<n:=fun x hx=>by
     rcases alM.mp hx with h | h
     ·exact bl x (al8 _ h)
     ·exact bc x (pc.mem_iff.mp h)
    have bc2:∀ x∈(C.take m).reverse++C.drop m,x<n:=fun x hx=>bc x (pc.mem_iff.mp hx)
    generalize (C.take m).reverse++C.drop m=C2 at pc u0 ln nd2 bl2 bc2
    refine zc (z9 (zN (Q:=fun c st'=>st'=sl κ it (B++C2) pd g/\∃ m,c=(none,m)/\1<=m/\m<=C.length/\((C2.take m).Pairwise fun a b=>lt a b=true)) (I:=fun k c st'=>st'=sl κ it (B++C2) pd g/\c=(none,k)/\((C2.take k).Pairwise fun a b=>lt a b=true)) ⟨rfl,rfl,u0⟩ n2 ?_ ?_) ?_)
    ·rintro k _ _ h1 h2 ⟨rfl,rfl,u⟩
     have h1:m<=k:=h1
     obtain⟨m,rfl⟩:∃ m,k=m+1:=⟨k - 1,by omega⟩
     refine zc (vt W bl2 (i:=m+1) (j:=m) (by omega) (by omega) ?_)
     cases e2:lt C2[m+1] C2[m] with
     | true=>exact zd ⟨rfl,m+1,rfl,by omega,by omega,u⟩
     | false=>exact zd ⟨rfl,rfl,aaV T bc2 (by omega) u (by rw [T.tri _ _ (bc2 _ (alc _)) (bc2 _ (alc _)) (aeo nd2 (by omega) (by omega) (by omega)),e2];rfl)⟩
    ·rintro _ _ ⟨rfl,rfl,u⟩
     exact⟨rfl,_,rfl,hc,ali _,u⟩
    ·rintro _ _ ⟨rfl,m,rfl,m1,m2,u⟩
     exact zd (q m C2 m1 m2 pc u)
theorem adF {C:List Nat} {k l:Nat} (hk:k<C.length) (hl:l<=k) (u:(C.take k).Pairwise fun a b=>lt a b=true) (lo:∀ i (h:i<l),lt C[i] C[k]=true) (hi:∀ i (_:l<=i) (h:i<k),lt C[k] C[i]=true) :
  ((C.take l++C[k] :: ((C.drop l).take (k - l)++C.drop (k+1))).take (k+1)).Pairwise (fun a b=>lt a b=true)/\(C.take l++C[k] :: ((C.drop l).take (k - l)++C.drop (k+1))).Perm C:=by
 have e1:(C.take l++C[k] :: ((C.drop l).take (k - l)++C.drop (k+1))).take (k+1)=C.take l++C[k] :: (C.drop l).take (k - l):=by
  rw [show C.take l++C[k] :: ((C.drop l).take (k - l)++C.drop (k+1))=(C.take l++C[k] :: (C.drop l).take (k - l))++C.drop (k+1) by simp]
  have ln:(C.take l++C[k] :: (C.drop l).take (k - l)).length=k+1:=by
   rw [alr,alC,alq,alq,alP]
   omega
  rw [amE (by omega),alO (by omega)]
 have st:=acC (l:=C) hl
 have u2:=u
 rw [st,alL] at u2
 have mem1:∀ r∈C.take l,lt r C[k]=true:=fun r hr=>by
  obtain⟨j,hj,rfl⟩:=alJ hr
  rw [alq] at hj
  rw [alR]
  exact lo j (by omega)
 have mem2:∀ r∈(C.drop l).take (k - l),lt C[k] r=true:=fun r hr=>by
  obtain⟨j,hj,rfl⟩:=alJ hr
  rw [alq,alP] at hj
  rw [alR,am2]
  exact hi (l+j) (by omega) (by omega)
 constructor
 ·rw [e1]
  refine alL.mpr ⟨u2.1,amS.mpr ⟨mem2,u2.2.1⟩,fun r hr z hz=>?_⟩
  rcases alp.mp hz with rfl | hz
  ·exact mem1 r hr
  ·exact u2.2.2 r hr z hz
 ·have e2:C=C.take l++((C.drop l).take (k - l)++C[k] :: C.drop (k+1)):=by
   rw [<-alH,<- st,<- drop_cons hk,alE]
  refine List.Perm.trans ?_ (List.Perm.of_eq e2.symm)
  refine amo _ ?_
  exact List.perm_middle.symm
theorem aj3 (W:Ans (kas_cmp P w A κ it) n lt s) (T:Tot n lt) {B C:List Nat} (bl:∀ x∈B++C,x<n) (nd:C.Nodup) {pd:Array (Nat×Nat×Nat)} {g m k:Nat} (h1:1<=k) (hk:k<=m) (hm:m<=C.length) (u:(C.take k).Pairwise fun a b=>lt a b=true) {Q:Bool->SortSt->Prop}
  (q:∀ C',C'.Perm C->((C'.take m).Pairwise fun a b=>lt a b=true)->Q true (sl κ it (B++C') pd g)):WS P w A X s (binarySort' B.length m k) Q (sl κ it (B++C) pd g):=by
 refine zc (z9 (zN (Q:=fun c st'=>c=(none,())/\∃ C',st'=sl κ it (B++C') pd g/\C'.Perm C/\((C'.take m).Pairwise fun a b=>lt a b=true)) (I:=fun j c st'=>c=(none,())/\∃ C',st'=sl κ it (B++C') pd g/\C'.Perm C/\((C'.take j).Pairwise fun a b=>lt a b=true)) ⟨rfl,C,rfl,.refl _,by rw [show max k 1=k by omega];exact u⟩ (by omega) ?_ ?_) ?_)
 ·rintro j _ _ j1 j2 ⟨rfl,D,rfl,pD,v⟩
  have ln:=pD.length_eq
  have ndD:=pD.nodup_iff.mpr nd
  have blD:∀ x∈B++D,x<n:=fun x hx=>by
   rcases alM.mp hx with h | h
   ·exact bl x (al8 _ h)
   ·exact bl x (alx _ (pD.mem_iff.mp h))
  have bD:∀ x∈D,x<n:=fun x hx=>blD x (alx _ hx)
  have jl:j<D.length:=by omega
  have up:∀ a b (hab:a<b) (hb:b<j),lt D[a] D[b]=true:=fun a b hab hb=>by
   have:=alZ.mp v a b (by rw [alq];omega) (by rw [alq];omega) hab
   rw [alR,alR] at this
   exact this
  refine zc (z9 (zN (Q:=fun c st'=>st'=sl κ it (B++D) pd g/\∃ l,c=(none,l,l)/\l<=j/\(∀ i (h:i<l) (_:l<=j),lt (D.getD i 0) D[j]=true)/\∀ i (_:l<=i) (h:i<j),lt D[j] (D.getD i 0)=true) (I:=fun t c st'=>st'=sl κ it (B++D) pd g/\∃ l r,c=(none,l,r)/\l<=r/\r<=j/\r - l+t<=j/\(∀ i (h:i<l) (_:l<=j),lt (D.getD i 0) D[j]=true)/\∀ i (_:r<=i) (h:i<j),lt D[j] (D.getD i 0)=true) ⟨rfl,0,j,rfl,alD _,ali _,by omega,fun i h=>by omega,fun i h1 h2=>by omega⟩ (alD _) ?_ ?_) ?_)
  ·rintro t _ _ _ t2 ⟨rfl,l,r,rfl,a1,a2,a3,a4,a5⟩
   have gd:∀ i (hi:i<D.length),D.getD i 0=D[i]:=fun i hi=>by simp [alY,hi]
   refine zr (fun (c:l >= r)=>?_) (fun (c:¬ l >= r)=>?_)
   ·obtain rfl:l=r:=by omega
    exact zd ⟨rfl,l,rfl,a2,a4,a5⟩
   ·have ml:(l+r) / 2<j:=by omega
    refine zc (vt W blD (i:=j) (j:=(l+r) / 2) jl (by omega) ?_)
    cases e:lt D[j] D[(l+r) / 2] with
    | true =>
     refine zd ⟨rfl,l,(l+r) / 2,rfl,by omega,by omega,by omega,a4,fun i h1 h2=>?_⟩
     rw [gd i (by omega)]
     by_cases e2:i=(l+r) / 2
     ·subst e2;exact e
     ·exact T.tra _ _ _ (bD _ (alc _)) (bD _ (alc _)) (bD _ (alc _)) e (up _ _ (by omega) h2)
    | false =>
     have e3:lt D[(l+r) / 2] D[j]=true:=by rw [T.tri _ _ (bD _ (alc _)) (bD _ (alc _)) (aeo ndD (by omega) jl (by omega)),e];rfl
     refine zd ⟨rfl,(l+r) / 2+1,r,rfl,by omega,by omega,by omega,fun i h1 _=>?_,a5⟩
     rw [gd i (by omega)]
     by_cases e2:i=(l+r) / 2
     ·subst e2;exact e3
     ·exact T.tra _ _ _ (bD _ (alc _)) (bD _ (alc _)) (bD _ (alc _)) (up _ _ (by omega) ml) e3
  ·rintro _ _ ⟨rfl,l,r,rfl,a1,a2,a3,a4,a5⟩
   obtain rfl:l=r:=by omega
   exact⟨rfl,l,rfl,a2,a4,a5⟩
  ·rintro _ _ ⟨rfl,l,rfl,a2,a4,a5⟩
   have gd:∀ i (hi:i<D.length),D.getD i 0=D[i]:=fun i hi=>by simp [alY,hi]
   obtain⟨z1,z2⟩:=adF jl a2 v (fun i h=>by have:=a4 i h a2;rwa [gd i (by omega)] at this) (fun i h1 h=>by have:=a5 i h1 h;rwa [gd i (by omega)] at this)
   refine zc (aib jl a2 (zd ⟨rfl,_,rfl,z2.trans pD,z1⟩))
 ·rintro _ _ ⟨rfl,D,rfl,pD,v⟩
  exact⟨rfl,D,rfl,pD,v⟩
 ·rintro _ _ ⟨rfl,D,rfl,pD,v⟩
  exact zd (q D pD v)
end
end L2
end
section
set_option maxHeartbeats 400000
namespace L2
open PySem PySem.W PySem.Calls PyProof.Rows
theorem adG {n:Nat} (h1:64<=n) (h2:n<128):n<=2 * minRun' n n 0/\minRun' n n 0<=n:=by
 obtain⟨f,rfl⟩:∃ f,n=f+2:=⟨n - 2,by omega⟩
 have e:minRun' (f+2) (f+2) 0=(f+2) / 2+max 0 ((f+2) % 2):=by
  rw [minRun'_succ,if_neg (by omega),minRun'_succ,if_pos (by omega)]
 rw [e]
 omega
section
variable {P:Program} {w:World} {A:Around} {X:Value->Shared->Prop} {s:Shared} {κ:SortKind} {it:Array Keyed} {n:Nat} {lt:Nat->Nat->Bool}
theorem acD (a b c:Nat×Nat×Nat) (f:Nat×Nat×Nat->Nat×Nat×Nat):((#[a]:Array (Nat×Nat×Nat)).modify ((#[a]:Array (Nat×Nat×Nat)).size - 1) f).push b=#[f a,b]:=by
 apply anA.mp
 simp [Array.toList_modify]
theorem agQ {n:Nat} {l:List Nat} (h:l.Perm (alo n)):l.Nodup:=h.nodup_iff.mpr anx
theorem aaX (W:Ans (kas_cmp P w A κ it) n lt s) (T:Tot n lt) {B C l:List Nat} {lo nrem:Nat} (el:l=B++C) (e1:lo=B.length) (e2:nrem=C.length) (bl:∀ x∈B++C,x<n) (nd:C.Nodup) (hc:0<C.length) {pd:Array (Nat×Nat×Nat)} {g:Nat} {Q:Option Nat->SortSt->Prop}
  (q:∀ m C',1<=m->m<=C.length->C'.Perm C->((C'.take m).Pairwise fun a b=>lt a b=true)->Q (some m) (sl κ it (B++C') pd g)):WS P w A X s (countRun' lo nrem) Q (sl κ it l pd g):=by
 subst el e1 e2
 exact agP W T bl nd hc q
theorem aep (W:Ans (kas_cmp P w A κ it) n lt s) (T:Tot n lt) {B C:List Nat} {lo m':Nat} (e1:lo=B.length) (bl:∀ x∈B++C,x<n) (nd:C.Nodup) {pd:Array (Nat×Nat×Nat)} {g m k:Nat} (em:m'=m) (h1:1<=k) (hk:k<=m) (hm:m<=C.length) (u:(C.take k).Pairwise fun a b=>lt a b=true) {Q:Bool->SortSt->Prop}
  (q:∀ C',C'.Perm C->((C'.take m).Pairwise fun a b=>lt a b=true)->Q true (sl κ it (B++C') pd g)):WS P w A X s (binarySort' lo m' k) Q (sl κ it (B++C) pd g):=by
 subst e1 em
 exact aj3 W T bl nd h1 hk hm u q
theorem aic (W:Ans (kas_cmp P w A κ it) n lt s) (T:Tot n lt) (h1:64<=n) (h2:n<128) {Q:Unit->SortSt->Prop}
  (q:∀ l pd g,l.Perm (alo n)->(l.Pairwise fun a b=>lt a b=true)->Q () (sl κ it l pd g)):WS P w A X s sortRuns' Q (sl κ it (alo n) #[] 7):=by
 obtain⟨m1,m2⟩:=adG h1 h2
 have sz:(arrOf (sl κ it (alo n) #[] 7)).size=n:=by show (kit it (alo n)).size=n;rw [je,alS]
 unfold WS
 rw [sortRuns'_eq]
 refine zc (yC ?_)
 simp only [sz]
 generalize minRun' n n 0=mr at m1 m2
 refine zc (z9 (zN (Q:=fun c st'=>c=(none,n)/\((∃ C pd g,st'=sl κ it C pd g/\pd.size<=1/\C.Perm (alo n)/\(C.Pairwise fun a b=>lt a b=true)) \/ ∃ xs ys pw,st'=sl κ it (xs++ys) #[(0,xs.length,pw),(xs.length,ys.length,0)] 7/\(xs++ys).Perm (alo n)/\(xs.Pairwise fun a b=>lt a b=true)/\(ys.Pairwise fun a b=>lt a b=true)/\0<xs.length/\0<ys.length))
  (I:=fun k c st'=>(k=0/\c=(none,0)/\st'=sl κ it (alo n) #[] 7) \/ (∃ n1 C,c=(none,n1)/\1<=k/\mr<=n1/\n1<=n/\(k=1 \/ n1=n)/\st'=sl κ it C #[(0,n1,0)] 7/\C.Perm (alo n)/\((C.take n1).Pairwise fun a b=>lt a b=true)) \/ (c=(none,n)/\2<=k/\∃ xs ys pw,st'=sl κ it (xs++ys) #[(0,xs.length,pw),(xs.length,ys.length,0)] 7/\(xs++ys).Perm (alo n)/\(xs.Pairwise fun a b=>lt a b=true)/\(ys.Pairwise fun a b=>lt a b=true)/\0<xs.length/\0<ys.length)) (.inl ⟨rfl,rfl,rfl⟩) (alD _) ?_ ?_) ?_)
 ·rintro k _ _ _ hk (⟨rfl,rfl,rfl⟩ | ⟨n1,C,rfl,k1,a1,a2,a3,rfl,pC,u⟩ | ⟨rfl,k2,R⟩)
  ·refine zr (fun (c:0 >= n)=>by omega) (fun _=>?_)
   refine zc (aaX (B:=[]) (C:=alo n) W T rfl rfl (by show n - 0=_;rw [alS];rfl) (fun x hx=>alQ.mp hx) anx (by rw [alS];exact hk) fun m C' p1 p2 pC u=>?_)
   rw [alS] at p2
   have ln:=pC.length_eq
   rw [alS] at ln
   refine zr (fun (c:m<mr)=>?_) (fun (c:¬ m<mr)=>?_)
   ·refine zc (jP (zc (aep (B:=[]) (m:=mr) W T rfl (fun x hx=>alQ.mp (pC.mem_iff.mp hx)) (agQ pC) (show min (n - 0) mr=mr by omega) p1 (by omega) (by omega) u fun C2 p2' u2=>?_)))
    refine zc (yC (zc (yf (zd ?_))))
    refine .inr (.inl ⟨mr,C2,?_,ali _,ali _,m2,.inl rfl,?_,p2'.trans pC,u2⟩)
    ·show (none,0+min (n - 0) mr)=(none,mr)
     rw [show 0+min (n - 0) mr=mr by omega]
    ·show amy κ (kit it C2) #[(0,min (n - 0) mr,0)] 7 none=_
     rw [show min (n - 0) mr=mr by omega]
     rfl
   ·refine zc (yC (zc (yf (zd ?_))))
    refine .inr (.inl ⟨m,C',?_,ali _,by omega,p2,.inl rfl,rfl,pC,u⟩)
    show (none,0+m)=(none,m)
    rw [amO]
  ·refine zr (fun (c:n1 >= n)=>?_) (fun (c:¬ n1 >= n)=>?_)
   ·obtain rfl:n1=n:=by omega
    have ln:=pC.length_eq
    rw [alS] at ln
    refine zd ⟨rfl,.inl ⟨C,_,7,rfl,ali 1,pC,?_⟩⟩
    rwa [alO (by omega)] at u
   have ln:=pC.length_eq
   rw [alS] at ln
   have lx:(C.take n1).length=n1:=by rw [alq];omega
   have ly:(C.drop n1).length=n - n1:=by rw [alP];omega
   have eC:=alE n1 C
   have pX:(C.take n1++C.drop n1).Perm (alo n):=by rw [eC];exact pC
   have ndY:(C.drop n1).Nodup:=(agQ pC).sublist (anr _ _)
   generalize C.take n1=xs at lx u pX eC
   generalize C.drop n1=Y at ly pX ndY eC
   subst eC
   subst lx
   refine zc (aaX (B:=xs) (C:=Y) W T rfl rfl (by show n - xs.length=_;omega) (fun x hx=>alQ.mp (pX.mem_iff.mp hx)) ndY (by omega) fun m Y' p1 p2 pY v=>?_)
   have lY:=pY.length_eq
   have pX':(xs++Y').Perm (alo n):=(amo _ pY).trans pX
   have last:∀ (f:Nat) (Z:List Nat) (c:Option Unit×Nat) (st':SortSt),f=n - xs.length->Z.Perm Y->((Z.take f).Pairwise fun a b=>lt a b=true)->c=(none,xs.length+f)->(∃ pw,st'=sl κ it (xs++Z) #[(0,xs.length,pw),(xs.length,f,0)] 7)->c=(none,n)/\2<=k+1/\∃ xs ys pw,st'=sl κ it (xs++ys) #[(0,xs.length,pw),(xs.length,ys.length,0)] 7/\(xs++ys).Perm (alo n)/\(xs.Pairwise fun a b=>lt a b=true)/\(ys.Pairwise fun a b=>lt a b=true)/\0<xs.length/\0<ys.length:=fun f Z c st' ef pZ w1 e1 ⟨pw,e2⟩=>by
    have lZ:=pZ.length_eq
    refine⟨by rw [e1,ef,show xs.length+(n - xs.length)=n by omega],by omega,xs,Z,pw,?_,(amo _ pZ).trans pX,u,?_,by omega,by omega⟩
    ·rw [e2,show Z.length=f by omega]
    ·rwa [alO (by omega)] at w1
   refine zr (fun (c2:m<mr)=>?_) (fun (c2:¬ m<mr)=>?_)
   ·refine zc (jP (zc (aep (B:=xs) (C:=Y') (m:=n - xs.length) W T rfl (fun x hx=>alQ.mp (pX'.mem_iff.mp hx)) (pY.nodup_iff.mpr ndY) (show min (n - xs.length) mr=n - xs.length by omega) p1 (by omega) (by omega) v fun Z pZ u2=>?_)))
    refine zc (yC ?_)
    refine zc (z9 (zN (Q:=fun c st'=>c=(none,())/\st'=sl κ it (xs++Z) #[(0,xs.length,0)] 7) (I:=fun _ c st'=>c=(none,())/\st'=sl κ it (xs++Z) #[(0,xs.length,0)] 7) ⟨rfl,rfl⟩ (alD _) ?_ (fun _ _ h=>h)) ?_)
    ·rintro _ _ _ _ _ ⟨rfl,rfl⟩
     exact zc (yC (zd ⟨rfl,rfl⟩))
    ·rintro _ _ ⟨rfl,rfl⟩
     refine zc (yf (zc (yf (zd ?_))))
     exact .inr (.inr (last (min (n - xs.length) mr) Z _ _ (by omega) (pZ.trans pY) (by rw [show min (n - xs.length) mr=n - xs.length by omega];exact u2) rfl ⟨_,congrArg (fun pd=>amy κ (kit it (xs++Z)) pd 7 none) (acD _ _ (0,0,0) _)⟩))
   ·have em:m=n - xs.length:=by omega
    refine zc (yC ?_)
    refine zc (z9 (zN (Q:=fun c st'=>c=(none,())/\st'=sl κ it (xs++Y') #[(0,xs.length,0)] 7) (I:=fun _ c st'=>c=(none,())/\st'=sl κ it (xs++Y') #[(0,xs.length,0)] 7) ⟨rfl,rfl⟩ (alD _) ?_ (fun _ _ h=>h)) ?_)
    ·rintro _ _ _ _ _ ⟨rfl,rfl⟩
     exact zc (yC (zd ⟨rfl,rfl⟩))
    ·rintro _ _ ⟨rfl,rfl⟩
     refine zc (yf (zc (yf (zd ?_))))
     exact .inr (.inr (last (m) Y' _ _ em pY v rfl ⟨_,congrArg (fun pd=>amy κ (kit it (xs++Y')) pd 7 none) (acD _ _ (0,0,0) _)⟩))
  ·refine zr (fun _=>zd ⟨rfl,.inr R⟩) (fun (c:¬ n >= n)=>absurd (ali n) c)
 ·rintro _ _ (⟨rfl,_⟩ | ⟨n1,C,rfl,k1,a1,a2,a3,rfl,pC,u⟩ | ⟨rfl,k2,R⟩)
  ·omega
  ·obtain rfl:n1=n:=by omega
   have ln:=pC.length_eq
   rw [alS] at ln
   refine⟨rfl,.inl ⟨C,_,7,rfl,ali 1,pC,?_⟩⟩
   rwa [alO (by omega)] at u
  ·exact⟨rfl,.inr R⟩
 ·rintro _ _ ⟨rfl,R⟩
  refine zc (z9 (zN (Q:=fun c st'=>c=(none,())/\∃ C pd g,st'=sl κ it C pd g/\C.Perm (alo n)/\(C.Pairwise fun a b=>lt a b=true)) (I:=fun k c st'=>c=(none,())/\((∃ C pd g,st'=sl κ it C pd g/\pd.size<=1/\C.Perm (alo n)/\(C.Pairwise fun a b=>lt a b=true)) \/ k=0/\∃ xs ys pw,st'=sl κ it (xs++ys) #[(0,xs.length,pw),(xs.length,ys.length,0)] 7/\(xs++ys).Perm (alo n)/\(xs.Pairwise fun a b=>lt a b=true)/\(ys.Pairwise fun a b=>lt a b=true)/\0<xs.length/\0<ys.length)) ⟨rfl,R.imp id fun z=>⟨rfl,z⟩⟩ (alD _) ?_ ?_) ?_)
  ·rintro k _ _ _ hk ⟨rfl,⟨C,pd,g,rfl,hp,pC,u⟩ | ⟨rfl,xs,ys,pw,rfl,pX,ux,uy,lx,ly⟩⟩
   ·refine zc (yC ?_)
    refine zr (fun _=>zd ⟨rfl,C,pd,g,rfl,pC,u⟩) (fun (c:¬ pd.size<=1)=>absurd hp c)
   ·refine zc (yC ?_)
    have nd:=agQ pX
    have D:Two n lt xs ys:=⟨fun x hx=>alQ.mp (pX.mem_iff.mp (al8 _ hx)),fun x hx=>alQ.mp (pX.mem_iff.mp (alx _ hx)),ux,uy,fun x hx y hy=>(am4.mp nd).2.2 x hx y hy⟩
    refine zr (fun (c:2<=1)=>absurd c (by decide)) (fun _=>?_)
    refine zc (adE W T D lx ly fun zs g' pz uz=>?_)
    exact zd ⟨rfl,.inl ⟨zs,_,g',rfl,ali 1,pz.trans pX,uz⟩⟩
  ·rintro _ _ ⟨rfl,⟨C,pd,g,rfl,hp,pC,u⟩ | ⟨h0,_⟩⟩
   ·exact⟨rfl,C,pd,g,rfl,pC,u⟩
   ·omega
  ·rintro _ _ ⟨rfl,C,pd,g,rfl,pC,u⟩
   exact zd (q C pd g pC u)
end
end L2
end
section
namespace L2
open PySem PySem.W PySem.Calls PyProof.Rows
theorem aaY:∀ f n r,r<=1->minRun' f n r<=n+1
 | 0,n,r,h=>by show n+r<=n+1;omega
 | f+1,n,r,h=>by
  rw [minRun'_succ]
  by_cases e:n<64
  ·rw [if_pos e];omega
  ·rw [if_neg e]
   have:=aaY f (n / 2) (max r (n % 2)) (by omega)
   omega
theorem adH {n:Nat} (h:1<=n):minRun' n n 0<=n:=by
 obtain⟨f,rfl⟩:∃ f,n=f+1:=⟨n - 1,by omega⟩
 rw [minRun'_succ]
 by_cases e:f+1<64
 ·rw [if_pos e];omega
 ·rw [if_neg e]
  have:=aaY f ((f+1) / 2) (max 0 ((f+1) % 2)) (by omega)
  omega
section
variable {P:Program} {w:World} {A:Around} {X:Value->Shared->Prop} {s:Shared} {κ:SortKind} {it:Array Keyed} {n:Nat} {lt:Nat->Nat->Bool} {Q:SortSt->Shared->Prop}
theorem aid (W:Ans (kas_cmp P w A κ it) n lt s) (T:Tot n lt) (h2:2<=n) (up:∀ i,i+1<n->lt (i+1) i=false)
  (q:∀ st',arrOf st'=(amj (alo n)).map (kas_item it)->failedOf st'=none->Q st' s):kasC (model P w) A X sortRuns' (fun _ st' s'=>Q st' s') (kas_st κ it (amj (alo n))) s:=by
 obtain⟨r,rfl⟩:∃ r,n=r+2:=⟨n - 2,by omega⟩
 have sz:(amj (alo (r+2))).size=r+2:=by simp
 have szA:(arrOf (kas_st κ it (amj (alo (r+2))))).size=r+2:=by
  show (Array.map _ _).size=_
  rw [ao4,sz]
 have mr:=adH (n:=r+2) (by omega)
 have at_:∀ i,i<r+2->(amj (alo (r+2))).getD i 0=i:=fun i hi=>by simp [amT,hi]
 have cnt:(kas_count (r+2) (amj (alo (r+2)))).kasWp (kas_cmp P w A κ it) (fun z s'=>z=(r+2,amj (alo (r+2)))/\s'=s) s:=by
  unfold kas_count
  rw [KasT.kasWp_bind]
  refine vQ T W (Pm.range _) (r+2 - 1) 1 (ali _) (by omega) (fun i j a b=>by omega) fun m a b u c=>?_
  have e:m=r+2:=by
   rcases c with c | c
   ·omega
   ·by_cases hm:m<r+2
    ·rw [at_ m hm,at_ (m - 1) (by omega)] at c
     have:=up (m - 1) (by omega)
     rw [show m - 1+1=m by omega,c] at this
     cases this
    ·omega
  subst e
  rw [if_pos (beq_self_eq_true _)]
  exact⟨rfl,rfl⟩
 rw [sortRuns'_eq]
 apply kasC_bind;apply kasC_get
 simp only [szA]
 apply kasC_bind;apply kasC_range
 change kasC _ _ _ (forIn (0 :: 1 :: apn 2 r) _ _) _ _ _
 apply kasC_cons
 simp only [anR,amO,show ¬ (0 >= r+2) by omega,if_false]
 refine kasC_bind (kas_count_ (by omega) (ani sz.symm) (fun m p' s' _ _ _ z=>?_) cnt)
 obtain⟨z,rfl⟩:=z
 cases z
 simp only [show ¬ (r+2<minRun' (r+2) (r+2) 0) by omega,if_false]
 apply kasC_bind;apply kasC_get
 change kasC _ _ _ (modify (fun st=>setPending st ((pendingOf st).push (0,r+2,0))) >>= _) _ _ _
 apply kasC_bind;apply kasC_modify;apply kasC_pure
 apply kasC_cons
 simp only [show r+2 >= r+2 from ali _,if_true]
 apply kasC_pure
 apply kasC_bind;apply kasC_range
 change kasC _ _ _ (forIn (0 :: 1 :: apn 2 r) _ _) _ _ _
 apply kasC_cons
 apply kasC_bind;apply kasC_get
 rw [if_pos (show (pendingOf (setPending (kas_st κ it (amj (alo (r+2)))) ((pendingOf (kas_st κ it (amj (alo (r+2))))).push (0,r+2,0)))).size<=1 from ali 1)]
 apply kasC_pure
 exact kasC_pure (q _ rfl rfl)
theorem agR (W:Ans (kas_cmp P w A κ it) n lt s) (T:Tot n lt) (h2:2<=n) (hs:n<128 \/ ∀ i,i+1<n->lt (i+1) i=false)
  (q:∀ st' p,Pm n p->Up lt p n->arrOf st'=p.map (kas_item it)->failedOf st'=none->Q st' s):kasC (model P w) A X sortRuns' (fun _ st' s'=>Q st' s') (kas_st κ it (amj (alo n))) s:=by
 rcases hs with hs | hs
 ·by_cases h64:64<=n
  ·have e0:kas_st κ it (amj (alo n))=sl κ it (alo n) #[] 7:=by
    show amy κ ((amj (alo n)).map (kas_item it)) #[] 7 none=amy κ (kit it (alo n)) #[] 7 none
    unfold kit
    rw [List.map_toArray]
   rw [e0]
   refine wpAny_mono (aic (Q:=fun _ st'=>Q st' s) W T h64 hs fun l pd g pl ul=>?_) (fun r s' ⟨z,hq⟩=>by subst z;exact hq) fun _ _ e=>e
   have ln:=pl.length_eq
   rw [alS] at ln
   refine q _ l.toArray pl (fun i j hij hj=>?_) ?_ rfl
   ·have:=alZ.mp ul i j (by omega) (by omega) hij
    rw [show l.toArray.getD i 0=l[i] by simp [amT,show i<l.length by omega],show l.toArray.getD j 0=l[j] by simp [amT,show j<l.length by omega]]
    exact this
   ·show kit it l=_
    unfold kit
    rw [List.map_toArray]
  have hs:n<64:=by omega
  exact kas_runs h2 hs (G:=fun p s'=>s'=s/\Pm n p/\Up lt p n) (fun p st' s' _ e f ⟨z,a,b⟩=>by subst z;exact q st' p a b e f) (agL T W (by omega) fun p a b=>⟨rfl,a,b⟩)
 ·refine aid W T h2 hs fun st' e f=>q st' _ (Pm.range n) (fun i j hij hj=>?_) e f
  have at_:∀ i,i<n->(amj (alo n)).getD i 0=i:=fun i hi=>by simp [amT,hi]
  rw [at_ i (by omega),at_ j hj]
  have key:∀ d,i+d+1<n->lt i (i+d+1)=true:=fun d=>by
   induction d with
   | zero=>intro hd;rw [T.tri _ _ (by omega) hd (by omega),hs i hd];rfl
   | succ d ih =>
    intro hd
    refine T.tra _ (i+d+1) _ (by omega) (by omega) hd (ih (by omega)) ?_
    rw [T.tri _ _ (by omega) hd (by omega),show i+(d+1)+1=i+d+1+1 by omega,hs (i+d+1) (by omega)]
    rfl
  have:=key (j - i - 1) (by omega)
  rwa [show i+(j - i - 1)+1=j by omega] at this
end
section
variable {P:Program} {w:World} {A:Around} {X:Value->Shared->Prop} {s:Shared} {κ:SortKind} {vs:List Value} {lt:Nat->Nat->Bool}
structure Asks (P:Program) (w:World) (A:Around) (s:Shared) (κ:SortKind) (vs:List Value) (lt:Nat->Nat->Bool):Prop where
 kind:2<=vs.length->∀ (h':Heap),(∀ b o,s.heap.get? b=some o->h'.get? b=some o)->∀ R:SortKind->Shared->Prop,R κ { s with heap:=h' }->wpAny (model P w) A (keyKind' vs.toArray) R (fun _ _=>False) { s with heap:=h' }
 less:∀ (h':Heap),(∀ b o,s.heap.get? b=some o->h'.get? b=some o)->Ans (kas_ask P w A κ vs) vs.length lt { s with heap:=h' }
 ord:Tot vs.length lt
 few:vs.length<128 \/ ∀ i,i+1<vs.length->lt (i+1) i=false
theorem aie {a:Addr} {e:Nat} {R:PySem.Fin->Shared->Prop} (hz:vs.length<=sizeLine) (ha:s.heap.get? a=some (seqObj "list" vs.toArray e)) {h0:Heap} (h0s:∀ b o,h0.get? b=some o->b≠a/\s.heap.get? b=some o) (K:Asks P w A { s with heap:=h0 } κ vs lt)
  (q:∀ (h':Heap) p c,Pm vs.length p->Up lt p vs.length->(∀ b o,b≠a->s.heap.get? b=some o->h'.get? b=some o)->h'.get? a=some (seqObj "list" (p.toList.map fun i=>vs.getD i Value.none).toArray c)->R (.done (.ret .none)) { s with heap:=h' }) :
  wpAny (model P w) A (Builtin.«list.sort» ⟨[.ref a],[]⟩) R X s:=by
 let h1:=s.heap.update a (anu fun _=>(#[]:Array Value))
 obtain⟨e1,a1⟩:∃ e1,h1.get? a=some (seqObj "list" #[] e1):=⟨_,get?_update_seq ha fun _=>#[]⟩
 let h2':=(h1.push (seqObj "tuple" vs.toArray 0)).push (seqObj "list" #[] 0)
 have a2:h2'.get? a=some (seqObj "list" #[] e1):=alw _ (alw _ a1)
 have k2:∀ b o,b≠a->s.heap.get? b=some o->h2'.get? b=some o:=fun b o nb eb=>alw _ (alw _ ((amN _ _ (amF nb)).trans eb))
 have kz:∀ b o,h0.get? b=some o->h2'.get? b=some o:=fun b o eb=>k2 b o (h0s b o eb).1 (h0s b o eb).2
 rw [list_sort_plain]
 apply wpAny_bind;apply listItems_at ha rfl
 apply wpAny_bind;refine listUpdate_at ha rfl ?_ (by simpa using hz) (alD _)
 apply wpAny_bind;apply seqEpoch_at a1 rfl
 apply wpAny_bind;refine wpAny_newTuple ?_ (by simpa using hz)
 apply wpAny_bind;refine wpAny_newList ?_ (alD _)
 apply wpAny_holding
 dsimp only
 change wpAny _ A _ _ _ { s with heap:=h2' }
 have st0:amy κ (vs.toArray.zip vs.toArray) #[] 7 none=kas_st κ (pairsOf vs) (amj (alo vs.length)):=by
  have z:=kas_range (pairsOf vs)
  rw [pairsOf_size] at z
  unfold kas_st
  rw [z]
  rfl
 have fin:∀ (st':SortSt) (p:Array Nat),Pm vs.length p->Up lt p vs.length->arrOf st'=p.map (kas_item (pairsOf vs))->failedOf st'=none->wpAny (model P w) A (do
   let sorted:=(arrOf st').map (·.2)
   let touched:=(<- seqEpoch a) != e1
   Builtin.List.listUpdate (.ref a) fun _=>sorted
   if let some e:=failedOf st' then rule "list.sort.comparison-raised";throw e
   if touched then rule "list.sort.modified";raiseError "ValueError" "list modified during sort"
   ret .none) R X { s with heap:=h2' }:=fun st' p x1 x2 x3 x4=>by
  have out:(arrOf st').map (·.2)=(p.toList.map fun i=>vs.getD i Value.none).toArray:=by
   apply anA.mp
   rw [x3,Array.map_map,Array.toList_map]
   refine aon fun i _=>?_
   show (kas_item (pairsOf vs) i).2=_
   rw [kas_item_eq]
  dsimp only
  rw [out,x4]
  obtain⟨c,a3⟩:∃ c,(h2'.update a (anu fun _=>(p.toList.map fun i=>vs.getD i Value.none).toArray)).get? a=some (seqObj "list" (p.toList.map fun i=>vs.getD i Value.none).toArray c):=⟨_,get?_update_seq a2 fun _=>(p.toList.map fun i=>vs.getD i Value.none).toArray⟩
  apply wpAny_bind;apply seqEpoch_at a2 rfl
  apply wpAny_bind
  refine listUpdate_at a2 rfl ?_ (alD _) (by
   rw [alA,ale,aly,x1.size];omega)
  simp only [bne_self_eq_false,al5,if_false]
  exact wpAny_pure (q _ p c x1 x2 (fun b o nb eb=>(amN _ _ (amF nb)).trans (k2 b o nb eb)) a3)
 by_cases h2:vs.length<2
 ·have two:vs.toArray.size<2:=by rw [alA];exact h2
  rw [if_pos two,if_pos two]
  apply wpAny_bind;apply wpAny_pure
  apply wpAny_bind
  rw [StateT.run_pure]
  apply wpAny_pure
  have z:=kas_range (pairsOf vs)
  rw [pairsOf_size] at z
  exact fin _ (amj (alo vs.length)) (Pm.range _) (fun i j x y=>by omega) z.symm rfl
 have two:¬ vs.toArray.size<2:=by rw [alA];exact h2
 rw [if_neg two,if_neg two]
 apply wpAny_bind
 refine wpAny_mono (K.kind (by omega) h2' kz (fun κ' s'=>κ'=κ/\s'={ s with heap:=h2' }) ⟨rfl,rfl⟩) ?_ fun _ _ z=>z.elim
 rintro κ' s' ⟨eκ,es⟩
 rw [eκ,es]
 have W:=K.less h2' kz
 rw [kas_ask_eq] at W
 rw [st0]
 apply wpAny_bind
 refine wpAny_mono (agR (Q:=fun st' s'=>s'={ s with heap:=h2' }/\∃ p,Pm vs.length p/\Up lt p vs.length/\arrOf st'=p.map (kas_item (pairsOf vs))/\failedOf st'=none) W K.ord (by omega) K.few fun st' p x1 x2 x3 x4=>⟨rfl,p,x1,x2,x3,x4⟩) ?_ fun _ _ z=>z
 rintro⟨⟨⟩,st'⟩ s' ⟨rfl,p,x1,x2,x3,x4⟩
 exact fin st' p x1 x2 x3 x4
theorem acE {l:Addr} {Q:Value->Shared->Prop} (hz:vs.length<=sizeLine) (hl:s.heap.IsList l vs.toArray) (K:Asks P w A.in1.in1 s κ vs lt)
  (q:∀ (h':Heap) D p c,Pm vs.length p->Up lt p vs.length->s.heap.objs.size<=D->(∀ b o,s.heap.get? b=some o->h'.get? b=some o)->h'.get? D=some (seqObj "list" (p.toList.map fun i=>vs.getD i Value.none).toArray c)->Q (.ref D) { s with heap:=h' }) :
  wpAny (model P w) A (call (.builtin "sorted") [.ref l]) Q X s:=by
 let h1:=(s.heap.push (seqObj "list" #[] 0)).update s.heap.objs.size (anu (·++vs.toArray))
 have s1:h1.objs.size=s.heap.objs.size+1:=by rw [Heap.size_update,size_push']
 let h2':=h1.push (seqObj "list" vs.toArray 0)
 have at2:h2'.get? (s.heap.objs.size+1)=some (seqObj "list" vs.toArray 0):=by rw [<-s1];exact al7 _ rfl
 have keep:∀ b o,s.heap.get? b=some o->b≠s.heap.objs.size+1/\h2'.get? b=some o:=fun b o eb=>by
  have lb:=alz eb
  refine⟨fun z=>?_,alw _ ((amN _ _ fun z=>?_).trans (alw _ eb))⟩
  ·rw [z] at lb;exact amQ _ (apj lb (aoM _))
  ·rw [<-z] at lb;exact amQ _ lb
 refine Calls.call_function_entry kind_sorted plain_sorted entry_sorted (args_sorted1 _) ?_
 unfold Builtin.«sorted»
 apply wpAny_bind (m:=checkCount "sorted" 1 1 _);apply wpAny_pure
 apply wpAny_bind;refine collect_list hl ?_ hz
 apply wpAny_bind;refine wpAny_newList ?_ hz
 change wpAny _ _ _ _ _ { s with heap:=h2' }
 rw [show Value.ref ((s.heap.push (seqObj "list" #[] 0)).update s.heap.objs.size (anu (·++vs.toArray))).objs.size=Value.ref (s.heap.objs.size+1) from congrArg Value.ref s1]
 apply wpAny_bind;apply wpAny_holding
 refine wpAny_call_entry slot_list_sort ⟨_,at2,rfl⟩ entry_list_sort ?_ (args_list_sort _)
 refine aie (s:={ s with heap:=h2' }) hz at2 (h0:=s.heap) keep K fun h' p c x1 x2 x3 x4=>⟨_,rfl,wpAny_pure ⟨_,rfl,?_⟩⟩
 exact q h' _ p c x1 x2 (apm _) (fun b o eb=>x3 b o (keep b o eb).1 (keep b o eb).2) x4
end
mutual
noncomputable def zt:PyData->Bool
 | .int _=>true
 | .str s=>(PyData.str s).canLay0
 | .tuple xs=>zF xs
 | _=>false
noncomputable def zF:List PyData->Bool
 | []=>true
 | x :: xs=>zt x && zF xs
end
mutual
noncomputable def ltD:PyData->PyData->Bool
 | .int a,.int b=>decide (a<b)
 | .str a,.str b=>decide (a.cps.toList<b.cps.toList)
 | .tuple xs,.tuple ys=>ltL xs ys
 | .int _,.str _=>true
 | .int _,.tuple _=>true
 | .str _,.tuple _=>true
 | _,_=>false
noncomputable def ltL:List PyData->List PyData->Bool
 | [],[]=>false
 | [],_ :: _=>true
 | _ :: _,[]=>false
 | x :: xs,y :: ys=>if alW x y=true then ltL xs ys else ltD x y
end
mutual
noncomputable def qW:PyData->PyData->Bool
 | .int _,.int _=>true
 | .str _,.str _=>true
 | .tuple xs,.tuple ys=>qK xs ys
 | _,_=>false
noncomputable def qK:List PyData->List PyData->Bool
 | [],_=>true
 | _ :: _,[]=>true
 | x :: xs,y :: ys=>if alW x y=true then qK xs ys else qW x y
end
mutual
theorem yq:∀ d:PyData,zt d=true->d.canLay0=true
 | .int _,_=>rfl
 | .str _,h=>h
 | .tuple xs,h=>by rw [PyData.canLay0];exact aam xs (by rw [zt] at h;exact h)
 | .none,h=>by cases h
 | .bool _,h=>by cases h
 | .list _,h=>by cases h
 | .dict _,h=>by cases h
theorem aam:∀ xs:List PyData,zF xs=true->ama xs=true
 | [],_=>rfl
 | x :: xs,h=>by
  rw [zF,alu] at h
  rw [ama,yq x h.1,aam xs h.2]
  rfl
end
mutual
theorem agS:∀ a b:PyData,zt a=true->zt b=true->alW a b=true->a=b
 | .int a,.int b,_,_,h=>by simpa [alW] using h
 | .str a,.str b,_,_,h=>by simpa [alW] using h
 | .tuple xs,.tuple ys,h1,h2,h=>by rw [aeq xs ys (by rw [zt] at h1;exact h1) (by rw [zt] at h2;exact h2) (by rw [alW] at h;exact h)]
 | .int _,.str _,_,_,h=>by simp [alW] at h
 | .int _,.tuple _,_,_,h=>by simp [alW] at h
 | .str _,.int _,_,_,h=>by simp [alW] at h
 | .str _,.tuple _,_,_,h=>by simp [alW] at h
 | .tuple _,.int _,_,_,h=>by simp [alW] at h
 | .tuple _,.str _,_,_,h=>by simp [alW] at h
 | .none,_,h,_,_=>by cases h
 | .bool _,_,h,_,_=>by cases h
 | .list _,_,h,_,_=>by cases h
 | .dict _,_,h,_,_=>by cases h
 | .int _,.none,_,h,_=>by cases h
 | .int _,.bool _,_,h,_=>by cases h
 | .int _,.list _,_,h,_=>by cases h
 | .int _,.dict _,_,h,_=>by cases h
 | .str _,.none,_,h,_=>by cases h
 | .str _,.bool _,_,h,_=>by cases h
 | .str _,.list _,_,h,_=>by cases h
 | .str _,.dict _,_,h,_=>by cases h
 | .tuple _,.none,_,h,_=>by cases h
 | .tuple _,.bool _,_,h,_=>by cases h
 | .tuple _,.list _,_,h,_=>by cases h
 | .tuple _,.dict _,_,h,_=>by cases h
theorem aeq:∀ xs ys:List PyData,zF xs=true->zF ys=true->aoI xs ys=true->xs=ys
 | [],[],_,_,_=>rfl
 | [],_ :: _,_,_,h=>by simp [aoI] at h
 | _ :: _,[],_,_,h=>by simp [aoI] at h
 | x :: xs,y :: ys,h1,h2,h=>by
  rw [zF,alu] at h1 h2
  rw [aoI,alu] at h
  rw [agS x y h1.1 h2.1 h.1,aeq xs ys h1.2 h2.2 h.2]
end
theorem vS {a b:PyData} (ha:zt a=true) (hb:zt b=true):alW a b=true↔a=b :=
 ⟨agS a b ha hb,fun h=>by subst h;exact anS a (yq a ha)⟩
theorem jD {x y:PyData} {xs ys:List PyData} (hx:zt x=true) (hy:zt y=true) [Decidable (x=y)]:ltL (x :: xs) (y :: ys)=if x=y then ltL xs ys else ltD x y:=by
 rw [ltL]
 by_cases h:x=y
 ·rw [if_pos ((vS hx hy).mpr h),if_pos h]
 ·rw [if_neg (fun z=>h ((vS hx hy).mp z)),if_neg h]
theorem agT {a b:List Nat} (h:a≠b):decide (a<b)=!decide (b<a):=by
 by_cases h1:a<b
 ·rw [decide_eq_true h1,decide_eq_false (fun z=>List.lt_irrefl a (List.lt_trans h1 z))]
  rfl
 ·have h2:b<a:=by
   have:b<=a:=List.not_lt.mp h1
   rcases List.le_iff_lt_or_eq.mp this with z | z
   ·exact z
   ·exact absurd z.symm h
  rw [decide_eq_false h1,decide_eq_true h2]
  rfl
theorem aj4 {a b:Str} (h:a≠b):a.cps.toList≠b.cps.toList:=fun z=>h (by
 cases a;cases b
 simp only [Str.mk.injEq] at *
 exact anA.mp z)
mutual
theorem adI:∀ a b:PyData,zt a=true->zt b=true->a≠b->ltD a b=!ltD b a
 | .int a,b,ha,hb,ne=>by
  cases b with
  | int b =>
   rw [ltD,ltD]
   have:a≠b:=fun z=>ne (by rw [z])
   by_cases h:a<b
   ·rw [decide_eq_true h,decide_eq_false (by omega)];rfl
   ·rw [decide_eq_false h,decide_eq_true (by omega)];rfl
  | str b=>simp [ltD]
  | tuple ys=>simp [ltD]
  | none=>cases hb
  | bool _=>cases hb
  | list _=>cases hb
  | dict _=>cases hb
 | .str a,b,ha,hb,ne=>by
  cases b with
  | int b=>simp [ltD]
  | str b =>
   rw [ltD,ltD]
   exact agT (aj4 fun z=>ne (by rw [z]))
  | tuple ys=>simp [ltD]
  | none=>cases hb
  | bool _=>cases hb
  | list _=>cases hb
  | dict _=>cases hb
 | .tuple xs,b,ha,hb,ne=>by
  cases b with
  | int b=>simp [ltD]
  | str b=>simp [ltD]
  | tuple ys =>
   rw [ltD,ltD]
   rw [zt] at ha hb
   exact aer xs ys ha hb fun z=>ne (by rw [z])
  | none=>cases hb
  | bool _=>cases hb
  | list _=>cases hb
  | dict _=>cases hb
 | .none,_,h,_,_=>by cases h
 | .bool _,_,h,_,_=>by cases h
 | .list _,_,h,_,_=>by cases h
 | .dict _,_,h,_,_=>by cases h
theorem aer:∀ xs ys:List PyData,zF xs=true->zF ys=true->xs≠ys->ltL xs ys=!ltL ys xs
 | [],[],_,_,ne=>absurd rfl ne
 | [],_ :: _,_,_,_=>by simp [ltL]
 | _ :: _,[],_,_,_=>by simp [ltL]
 | x :: xs,y :: ys,h1,h2,ne=>by
  rw [zF,alu] at h1 h2
  have:=amq (x=y)
  have:=amq (y=x)
  rw [jD h1.1 h2.1,jD h2.1 h1.1]
  by_cases e:x=y
  ·rw [if_pos e,if_pos e.symm]
   exact aer xs ys h1.2 h2.2 fun z=>ne (by rw [e,z])
  ·rw [if_neg e,if_neg (amF e)]
   exact adI x y h1.1 h2.1 e
end
mutual
theorem aan:∀ a:PyData,zt a=true->ltD a a=false
 | .int a,_=>by rw [ltD];exact decide_eq_false (Int.lt_irrefl a)
 | .str a,_=>by rw [ltD];exact decide_eq_false (List.lt_irrefl _)
 | .tuple xs,h=>by rw [ltD];rw [zt] at h;exact aes xs h
 | .none,h=>by cases h
 | .bool _,h=>by cases h
 | .list _,h=>by cases h
 | .dict _,h=>by cases h
theorem aes:∀ xs:List PyData,zF xs=true->ltL xs xs=false
 | [],_=>by rw [ltL]
 | x :: xs,h=>by
  rw [zF,alu] at h
  have:=amq (x=x)
  rw [jD h.1 h.1,if_pos rfl]
  exact aes xs h.2
end
theorem lt_asymm {a b:PyData} (ha:zt a=true) (hb:zt b=true) (h:ltD a b=true):a≠b:=fun z=>by
 subst z
 rw [aan a ha] at h
 cases h
mutual
theorem abu:∀ a b c:PyData,zt a=true->zt b=true->zt c=true->ltD a b=true->ltD b c=true->ltD a c=true
 | .int a,b,c,ha,hb,hc,h1,h2=>by
  cases b <;> first | (cases hb;done) | skip
  all_goals cases c <;> first | (cases hc;done) | skip
  all_goals first | (simp [ltD] at h1 h2 ⊢;omega) | (simp [ltD] at h1 h2 ⊢;done) | (simp [ltD] at h1;done) | (simp [ltD] at h2;done)
 | .str a,b,c,ha,hb,hc,h1,h2=>by
  cases b <;> first | (cases hb;done) | skip
  all_goals cases c <;> first | (cases hc;done) | skip
  all_goals first | (simp [ltD] at h1;done) | (simp [ltD] at h2;done) | (rw [ltD] at h1 h2 ⊢;exact decide_eq_true (List.lt_trans (of_decide_eq_true h1) (of_decide_eq_true h2))) | (simp [ltD] at h1 h2 ⊢;done)
 | .tuple xs,b,c,ha,hb,hc,h1,h2=>by
  cases b with
  | tuple ys =>
   cases c with
   | tuple zs =>
    rw [ltD] at h1 h2 ⊢
    rw [zt] at ha hb hc
    exact aet xs ys zs ha hb hc h1 h2
   | int _=>simp [ltD] at h2
   | str _=>simp [ltD] at h2
   | none=>cases hc
   | bool _=>cases hc
   | list _=>cases hc
   | dict _=>cases hc
  | int _=>simp [ltD] at h1
  | str _=>simp [ltD] at h1
  | none=>cases hb
  | bool _=>cases hb
  | list _=>cases hb
  | dict _=>cases hb
 | .none,_,_,h,_,_,_,_=>by cases h
 | .bool _,_,_,h,_,_,_,_=>by cases h
 | .list _,_,_,h,_,_,_,_=>by cases h
 | .dict _,_,_,h,_,_,_,_=>by cases h
theorem aet:∀ xs ys zs:List PyData,zF xs=true->zF ys=true->zF zs=true->ltL xs ys=true->ltL ys zs=true->ltL xs zs=true
 | [],ys,[],_,_,_,h1,h2=>by
  cases ys with
  | nil=>exact h1
  | cons y ys=>simp [ltL] at h2
 | [],_,_ :: _,_,_,_,_,_=>by rw [ltL]
 | _ :: _,[],_,_,_,_,h1,_=>by simp [ltL] at h1
 | _ :: _,_ :: _,[],_,_,_,_,h2=>by simp [ltL] at h2
 | x :: xs,y :: ys,z :: zs,p1,p2,p3,h1,h2=>by
  rw [zF,alu] at p1 p2 p3
  have:=amq (x=y)
  have:=amq (y=z)
  have:=amq (x=z)
  rw [jD p1.1 p2.1] at h1
  rw [jD p2.1 p3.1] at h2
  rw [jD p1.1 p3.1]
  by_cases e1:x=y
  ·rw [if_pos e1] at h1
   by_cases e2:y=z
   ·rw [if_pos e2] at h2
    rw [if_pos (e1.trans e2)]
    exact aet xs ys zs p1.2 p2.2 p3.2 h1 h2
   ·rw [if_neg e2] at h2
    rw [if_neg (fun q=>e2 (e1.symm.trans q)),e1]
    exact h2
  ·rw [if_neg e1] at h1
   by_cases e2:y=z
   ·rw [if_neg (fun q=>e1 (q.trans e2.symm)),<- e2]
    exact h1
   ·rw [if_neg e2] at h2
    have h3:=abu x y z p1.1 p2.1 p3.1 h1 h2
    rw [if_neg (lt_asymm p1.1 p3.1 h3)]
    exact h3
end
end L2
end
section
namespace L2
open PySem PySem.Spec PyProof.Rows PySem.SeqAt
open PySem.AutoSeq1 (wpAny_loadPart')
open PySem.MeetsSeq PySem.MeetsSeq2 PySem.MeetsSeq3
noncomputable def akR (A:Around) (s:Shared) (y x:Value) (b:Bool):Prop :=
 ∀ (prog:Program) (w:World) (E:Value->Shared->Prop) (Q:Value->Shared->Prop),Q (.bool b) s->wpAny (model prog w) A (richCompare .Lt y x) Q E s
inductive Lex (A:Around) (s:Shared):List Value->List Value->Bool->Prop where
 | nn:Lex A s [] [] false
 | nc {w ws}:Lex A s [] (w :: ws) true
 | cn {v vs}:Lex A s (v :: vs) [] false
 | eq {v w vs ws b}:EqAt A s v w true->Lex A s vs ws b->Lex A s (v :: vs) (w :: ws) b
 | lt {v w vs ws b}:EqAt A s v w false->akR A s v w b->Lex A s (v :: vs) (w :: ws) b
theorem abv (l m:Addr) (xs ys:Array Value) (n n2:Nat) (dd dd2:Option Addr) (sl sl2:Array (Option Value)) (c:Bool) :
  Meets (Builtin.«tuple.__lt__» ⟨[.ref l,.ref m],[]⟩)
   (fun A R s=>s.heap.get? l=some { cls:=.type "tuple",dict:=dd,data:=.seq xs n,slots:=sl }/\s.heap.get? m=some { cls:=.type "tuple",dict:=dd2,data:=.seq ys n2,slots:=sl2 } /\
    Lex A.in1 s xs.toList ys.toList c/\R (.ok (.ret (.bool c))) s) :=
 .of_wp fun prog w A R s h=>by
  obtain⟨hp,g,d,tk,os⟩:=s;obtain⟨hl,hb,hx,h⟩:=h
  have f2:=AutoSeq1.sub_tuple_tuple
  wp_walk using wpAny_loadPart' hl,wpAny_loadPart' hb,wpAny_forIn_list _ (fun rest b s'=>b.1=none/\s'=⟨hp,g,d,tk,os⟩/\∃ (vs ws:List Value),rest=vs.zip ws/\Lex A.in1 ⟨hp,g,d,tk,os⟩ vs ws c/\vs.length+ys.size=ws.length+xs.size) _
  case turn =>
   rintro⟨y,x⟩ rest b s' ⟨hb',rfl,vs,ws,hz,lx,hn⟩
   cases lx with
   | nn=>cases hz
   | nc=>cases hz
   | cn=>cases hz
   | eq he lx' =>
    rw [anl] at hz
    cases hz
    refine wpAny_bind (he prog w _ _ ?_)
    wp_walk
    exact⟨rfl,rfl,_,_,rfl,lx',by simp only [alC] at hn;omega⟩
   | lt he hlt =>
    rw [anl] at hz
    cases hz
    refine wpAny_bind (he prog w _ _ ?_)
    have hri:=hlt prog w
    wp_walk using hri
    exact⟨_,rfl,h⟩
  case fin =>
   rintro⟨b1,b2⟩ s' ⟨hb',rfl,vs,ws,hz,lx,hn⟩
   simp only at hb'
   subst hb'
   have hv:decide (xs.size<ys.size)=c:=by
    cases lx with
    | nn=>simp only [am0] at hn;exact decide_eq_false (by omega)
    | nc=>simp only [am0,alC] at hn;exact decide_eq_true (by omega)
    | cn=>simp only [am0,alC] at hn;exact decide_eq_false (by omega)
    | eq _ _=>cases hz
    | lt _ _=>cases hz
   wp_walk
   rw [<-hv] at h
   exact⟨_,rfl,by simpa [Builtin.Tuple.tupleCompareSizes] using h⟩
  case h=>exact⟨rfl,rfl,_,_,rfl,hx,by simp only [aly];omega⟩
mutual
theorem acF:∀ (da db:PyData) (A:Around) (s:Shared) (a b:Value) (as bs:List Addr),Reads s.heap a da as->Reads s.heap b db bs->zt da=true->zt db=true->qW da db=true ->
  A.units+max da.depth db.depth<cLine->akR A s a b (ltD da db)
 | .int x,db,A,s,_,_,_,_,ra,rb,_,_,hc,hu=>by
  cases ra with
  | int _ t =>
   cases db with
   | int y =>
    cases rb with
    | int _ u =>
     intro prog w E Q q
     exact HT.rcLt_int A s x t y u prog w E Q (by rw [ltD] at q;exact q)
   | _=>cases hc
 | .str x,db,A,s,_,_,_,_,ra,rb,_,_,hc,hu=>by
  cases ra with
  | str _ t =>
   cases db with
   | str y =>
    cases rb with
    | str _ u =>
     intro prog w E Q q
     exact (PyProof.Rows.lt_str (by rw [ltD] at q;exact q):wpAny (model prog w) A (compareOp .Lt (.str x t) (.str y u)) Q E s)
   | _=>cases hc
 | .tuple xs,db,A,s,_,_,_,_,ra,rb,pa,pb,hc,hu=>by
  cases ra with
  | @tuple l o vs n _ as h1 h2 h3 h4 =>
   cases db with
   | tuple ys =>
    cases rb with
    | @tuple m o2 ws n2 _ bs k1 k2 k3 k4 =>
     intro prog w E Q q
     obtain⟨cls,dd,data,sl⟩:=o
     obtain⟨cls2,dd2,data2,sl2⟩:=o2
     simp only at h2 h3 k2 k3
     subst h2 h3 k2 k3
     rw [zt] at pa pb
     rw [qW] at hc
     rw [ltD] at q
     have hd:A.in1.units+max (aln xs) (aln ys)<cLine:=by
      have e1:(PyData.tuple xs).depth=aln xs+1:=rfl
      have e2:(PyData.tuple ys).depth=aln ys+1:=rfl
      have e3:A.in1.units=A.units+1:=rfl
      rw [e1,e2] at hu
      omega
     have lx:=aaZ xs ys A.in1 s _ _ _ _ h4 k4 pa pb hc hd
     exact richCompare_meets_room (op:=.Lt) ⟨_,h1,rfl⟩ ⟨_,k1,rfl⟩ PySem.F.slot_tuple_lt PySem.F.entry_tuple_lt (PySem.F.args_tuple_lt_2 _ _) (abv l m vs ws n n2 dd dd2 sl sl2 (ltL xs ys))
      ⟨h1,k1,lx,show Value.bool (ltL xs ys)≠Value.notImplemented/\Q (.bool (ltL xs ys)) s from⟨(fun x=>nomatch x),q⟩⟩ (by omega)
   | _=>cases hc
 | .none,_,_,_,_,_,_,_,_,_,h,_,_,_=>by cases h
 | .bool _,_,_,_,_,_,_,_,_,_,h,_,_,_=>by cases h
 | .list _,_,_,_,_,_,_,_,_,_,h,_,_,_=>by cases h
 | .dict _,_,_,_,_,_,_,_,_,_,h,_,_,_=>by cases h
theorem aaZ:∀ (xs ys:List PyData) (A:Around) (s:Shared) (vs ws:List Value) (as bs:List Addr),ReadsAll s.heap vs xs as->ReadsAll s.heap ws ys bs->zF xs=true->zF ys=true->qK xs ys=true ->
  A.units+max (aln xs) (aln ys)<cLine->Lex A s vs ws (ltL xs ys)
 | [],[],_,_,_,_,_,_,ra,rb,_,_,_,_=>by cases ra;cases rb;rw [ltL];exact .nn
 | [],_ :: _,_,_,_,_,_,_,ra,rb,_,_,_,_=>by cases ra;cases rb;rw [ltL];exact .nc
 | _ :: _,[],_,_,_,_,_,_,ra,rb,_,_,_,_=>by cases ra;cases rb;rw [ltL];exact .cn
 | x :: xs,y :: ys,A,s,_,_,_,_,ra,rb,pa,pb,hc,hu=>by
  cases ra with
  | cons r rs =>
   cases rb with
   | cons r' rs' =>
    rw [zF,alu] at pa pb
    rw [qK] at hc
    rw [ltL]
    have e1:aln (x :: xs)=max x.depth (aln xs):=rfl
    have e2:aln (y :: ys)=max y.depth (aln ys):=rfl
    rw [e1,e2] at hu
    have eq:=eqAt_reads x y A s _ _ _ _ r r' (yq x pa.1) (yq y pb.1) (by omega)
    by_cases e:alW x y=true
    ·rw [if_pos e] at hc ⊢
     rw [e] at eq
     exact .eq eq (aaZ xs ys A s _ _ _ _ rs rs' pa.2 pb.2 hc (by omega))
    ·rw [if_neg e] at hc ⊢
     rw [Bool.not_eq_true] at e
     rw [e] at eq
     exact .lt eq (acF x y A s _ _ _ _ r r' pa.1 pb.1 hc (by omega))
end
end L2
end
section
namespace L2
open PySem PySem.Spec PyProof.Rows PySem.SeqAt PySem.W
section
variable {P:Program} {w:World} {A:Around} {s:Shared} {b:Bool} {Q:Bool->Shared->Prop}
theorem abw {fin:Bool} {x y:PyData} {p q:Value} {r:List (Value×Value)} {i:Nat} {as bs:List Addr} {c:Bool} (rx:Reads s.heap p x as) (ry:Reads s.heap q y bs) (px:zt x=true) (py:zt y=true) (hu:A.units+max x.depth y.depth<cLine)
  (h1:alW x y=true->KatLex P w A b fin Q r (i+1) s) (h2:alW x y=false->wpAny (model P w) A (oneLt' (b && i == 0) p q) Q (fun _ _=>False) s):KatLex P w A b fin Q ((p,q) :: r) i s:=by
 refine kat_cons (eqAt_reads x y A s _ _ _ _ rx ry (yq x px) (yq y py) (by omega) P w _ _ ?_)
 exact kat_go (fun e=>kat_yes (h1 e)) fun e=>kat_no (h2 e)
theorem qX {m n:Nat}:∀ (xs ys:List PyData) (vs ws:List Value) (as bs:List Addr) (i:Nat),(1<=i \/ b=false)->ReadsAll s.heap vs xs as->ReadsAll s.heap ws ys bs->zF xs=true->zF ys=true->qK xs ys=true ->
  A.units+max (aln xs) (aln ys)<cLine->xs.length+n=ys.length+m->Q (ltL xs ys) s->KatLex P w A b (decide (m<n)) Q (vs.zip ws) i s
 | [],[],_,_,_,_,i,_,ra,rb,_,_,_,_,hl,q=>by
  cases ra;cases rb
  rw [ltL] at q
  simp only [am0] at hl
  rw [decide_eq_false (show ¬ m<n by omega)]
  exact kat_nil q
 | [],y :: ys,_,_,_,_,i,_,ra,rb,_,_,_,_,hl,q=>by
  cases ra;cases rb
  rw [ltL] at q
  simp only [am0,alC] at hl
  rw [decide_eq_true (show m<n by omega)]
  exact kat_nil q
 | x :: xs,[],_,_,_,_,i,_,ra,rb,_,_,_,_,hl,q=>by
  cases ra;cases rb
  rw [ltL] at q
  simp only [am0,alC] at hl
  rw [decide_eq_false (show ¬ m<n by omega),List.zip_nil_right]
  exact kat_nil q
 | x :: xs,y :: ys,_,_,_,_,i,hi,ra,rb,pa,pb,hc,hu,hl,q=>by
  cases ra with
  | cons r rs =>
   cases rb with
   | cons r' rs' =>
    rw [zF,alu] at pa pb
    rw [qK] at hc
    rw [ltL] at q
    have e1:aln (x :: xs)=max x.depth (aln xs):=rfl
    have e2:aln (y :: ys)=max y.depth (aln ys):=rfl
    rw [e1,e2] at hu
    simp only [alC] at hl
    rw [anl]
    refine abw (c:=true) r r' pa.1 pb.1 (by omega) (fun e=>?_) fun e=>?_
    ·rw [if_pos e] at hc q
     exact qX xs ys _ _ _ _ (i+1) (.inl (by omega)) rs rs' pa.2 pb.2 hc (by omega) (by omega) q
    ·rw [if_neg (by rw [e];exact ald)] at hc q
     have ef:(b && i == 0)=false:=by
      rcases hi with hi | hi
      ·rw [show (i == 0)=false from beq_eq_false_iff_ne.mpr (by omega),ao5]
      ·rw [hi];rfl
     rw [ef]
     exact kat_one _ _ (acF x y A s _ _ _ _ r r' pa.1 pb.1 hc (by omega) P w _ _ q)
end
noncomputable def jE:PyData->Option String
 | .tuple (.int _ :: _)=>some "int"
 | .tuple (.str _ :: _)=>some "str"
 | .tuple (.tuple _ :: _)=>some "tuple"
 | _=>none
structure SortOk (T:String) (ds:List PyData):Prop where
 plain:∀ d∈ds,zt d=true
 head:∀ d∈ds,jE d=some T
 cmp:∀ d∈ds,∀ e∈ds,qW d e=true
 depth:∀ d∈ds,d.depth<=50
 nd:ds.Nodup
theorem qb {d:PyData} {T:String} (h:jE d=some T):∃ x xs,d=.tuple (x :: xs)/\((T="int"/\∃ n,x=.int n) \/ (T="str"/\∃ n,x=.str n) \/ (T="tuple"/\∃ n,x=.tuple n)):=by
 unfold jE at h
 split at h
 ·cases h;exact⟨_,_,rfl,.inl ⟨rfl,_,rfl⟩⟩
 ·cases h;exact⟨_,_,rfl,.inr (.inl ⟨rfl,_,rfl⟩)⟩
 ·cases h;exact⟨_,_,rfl,.inr (.inr ⟨rfl,_,rfl⟩)⟩
 ·cases h
section
variable {P:Program} {w:World} {A:Around} {s:Shared} {T:String}
theorem aj5 {d e:PyData} {v u:Value} {as bs:List Addr} {C:Bool->Shared->Prop} (rd:Reads s.heap v d as) (re:Reads s.heap u e bs) (pd:zt d=true) (pe:zt e=true) (hd:jE d=some T) (he:jE e=some T) (hc:qW d e=true)
  (hu:A.units+60<cLine) (d1:d.depth<=50) (d2:e.depth<=50) (q:C (ltD d e) s):wpAny (model P w) A (keyLt' (tuples' (Value.type T != Value.type "tuple")) v u) C (fun _ _=>False) s:=by
 obtain⟨x,xs,rfl,hx⟩:=qb hd
 obtain⟨y,ys,rfl,hy⟩:=qb he
 cases rd with
 | @tuple l o vs n _ as h1 h2 h3 h4 =>
  cases re with
  | @tuple m o2 ws n2 _ bs k1 k2 k3 k4 =>
   have l1:=aoa _ _ _ h4
   have l2:=aoa _ _ _ k4
   rw [aly] at l1 l2
   refine kat_lt h1 h3 k1 k3 ?_
   rw [zt] at pd pe
   rw [qW] at hc
   rw [ltD] at q
   have e1:(PyData.tuple (x :: xs)).depth=aln (x :: xs)+1:=rfl
   have e2:(PyData.tuple (y :: ys)).depth=aln (y :: ys)+1:=rfl
   have e3:aln (x :: xs)=max x.depth (aln xs):=rfl
   have e4:aln (y :: ys)=max y.depth (aln ys):=rfl
   rcases hx with⟨rfl,nx,rfl⟩ | ⟨rfl,nx,rfl⟩ | ⟨rfl,nx,rfl⟩
   ·obtain⟨ny,rfl⟩:∃ ny,y=.int ny:=by
     rcases hy with⟨_,h⟩ | ⟨z,_⟩ | ⟨z,_⟩
     ·exact h
     ·exact absurd z (by decide)
     ·exact absurd z (by decide)
    obtain⟨vl⟩:=vs
    obtain⟨wl⟩:=ws
    cases h4 with
    | cons r rs =>
     cases k4 with
     | cons r' rs' =>
      rw [zF,alu] at pd pe
      rw [qK] at hc
      rw [ltL] at q
      rw [anl]
      refine abw (c:=true) r r' rfl rfl (by omega) (fun e=>?_) fun e=>?_
      ·rw [if_pos e] at hc q
       exact qX xs ys _ _ _ _ 1 (.inl (ali 1)) rs rs' pd.2 pe.2 hc (by omega) (by simp only [alC] at l1 l2;omega) q
      ·rw [if_neg (by rw [e];exact ald)] at q
       rw [show ((Value.type "int" != Value.type "tuple") && (0 == 0))=true by decide]
       cases r
       cases r'
       rw [ltD] at q
       exact oneLt_int q
   ·obtain⟨ny,rfl⟩:∃ ny,y=.str ny:=by
     rcases hy with⟨z,_⟩ | ⟨_,h⟩ | ⟨z,_⟩
     ·exact absurd z (by decide)
     ·exact h
     ·exact absurd z (by decide)
    obtain⟨vl⟩:=vs
    obtain⟨wl⟩:=ws
    cases h4 with
    | cons r rs =>
     cases k4 with
     | cons r' rs' =>
      rw [zF,alu] at pd pe
      rw [qK] at hc
      rw [ltL] at q
      rw [anl]
      refine abw (c:=true) r r' pd.1 pe.1 (by omega) (fun e=>?_) fun e=>?_
      ·rw [if_pos e] at hc q
       exact qX xs ys _ _ _ _ 1 (.inl (ali 1)) rs rs' pd.2 pe.2 hc (by omega) (by simp only [alC] at l1 l2;omega) q
      ·rw [if_neg (by rw [e];exact ald)] at q
       rw [show ((Value.type "str" != Value.type "tuple") && (0 == 0))=true by decide]
       cases r
       cases r'
       rw [ltD] at q
       exact oneLt_str q
   ·exact qX _ _ _ _ _ _ 0 (.inr (by decide)) h4 k4 pd pe hc (by omega) (by rw [l1,l2];omega) q
theorem ReadsAll.at {h:Heap}:∀ {vs:List Value} {ds:List PyData} {as:List Addr},ReadsAll h vs ds as->∀ i,i<ds.length->∃ bs,Reads h (vs.getD i Value.none) (ds.getD i .none) bs
 | _,_,_,.nil,i,hi=>absurd hi (amL _)
 | _,_,_,.cons r rs,0,_=>⟨_,r⟩
 | _,_,_,.cons r rs,i+1,hi=>ReadsAll.at rs i (Nat.lt_of_succ_lt_succ hi)
theorem ReadsAll.keep {h h':Heap} (k:∀ b o,h.get? b=some o->h'.get? b=some o):∀ {vs:List Value} {ds:List PyData} {as:List Addr},ReadsAll h vs ds as->ReadsAll h' vs ds as
 | _,_,_,.nil=>.nil
 | _,_,_,.cons r rs=>.cons (PyProof.Rows.Reads.keeps k r) (ReadsAll.keep k rs)
theorem aeu {h:Heap}:∀ {vs:List Value} {ds:List PyData} {as:List Addr},ReadsAll h vs ds as->(∀ d∈ds,jE d=some T)->∃ fs,KatTups h vs fs/\fs.length=vs.length/\∀ v∈fs,Looks (model P w) h (typeOf v) (.type T)
 | _,_,_,.nil,_=>⟨[],.nil,rfl,fun _ h=>nomatch h⟩
 | _,d :: ds,_,.cons r rs,hh=>by
  obtain⟨fs,h1,h2,h3⟩:=aeu rs fun d hd=>hh d (alm _ hd)
  obtain⟨x,xs,rfl,hx⟩:=qb (hh d als)
  cases r with
  | @tuple l o vs n _ as k1 k2 k3 k4 =>
   obtain⟨vl⟩:=vs
   cases k4 with
   | @cons v0 vs0 _ _ _ _ r0 rs0 =>
    refine⟨v0 :: fs,.cons k1 k2 k3 rfl h1,by simp [h2],fun v hv=>?_⟩
    rcases alp.mp hv with rfl | hv
    ·rcases hx with⟨rfl,nx,rfl⟩ | ⟨rfl,nx,rfl⟩ | ⟨rfl,nx,rfl⟩
     ·cases r0;exact Looks.of_pure rfl
     ·cases r0;exact Looks.of_pure rfl
     ·cases r0 with
      | tuple q1 q2 q3 q4=>rw [<-q2];exact (Looks.ld q1).andThen .now
    ·exact h3 v hv
theorem aj6 {ds:List PyData} (ok:SortOk T ds):Tot ds.length fun i j=>ltD (ds.getD i .none) (ds.getD j .none):=by
 have mem:∀ i,i<ds.length->ds.getD i .none∈ds:=fun i hi=>by
  rw [alh,alb hi]
  exact alc hi
 refine⟨fun i j hi hj ne=>adI _ _ (ok.plain _ (mem i hi)) (ok.plain _ (mem j hj)) fun z=>ne ?_,fun i j k hi hj hk=>abu _ _ _ (ok.plain _ (mem i hi)) (ok.plain _ (mem j hj)) (ok.plain _ (mem k hk))⟩
 rw [alh,alh,alb hi,alb hj] at z
 exact (anw ok.nd).mp z
theorem aif {vs:List Value} {ds:List PyData} {as:List Addr} (ra:ReadsAll s.heap vs ds as) (ok:SortOk T ds) (hu:A.units+60<cLine) (few:ds.length<128 \/ ds.Pairwise fun d e=>ltD d e=true) :
  Asks P w A s (tuples' (Value.type T != Value.type "tuple")) vs fun i j=>ltD (ds.getD i .none) (ds.getD j .none):=by
 have len:=aoa _ _ _ ra
 have mem:∀ i,i<ds.length->ds.getD i .none∈ds:=fun i hi=>by
  rw [alh,alb hi]
  exact alc hi
 refine⟨fun h2 h' k R q=>?_,fun h' k i j C hi hj q=>?_,by rw [len];exact aj6 ok,?_⟩
 ·obtain⟨fs,f1,f2,f3⟩:=aeu (P:=P) (w:=w) (ReadsAll.keep k ra) ok.head
  exact kat_kind f1 (by omega) f3 (beq_self_eq_true _) q
 ·rw [len] at hi hj
  obtain⟨b1,r1⟩:=ReadsAll.at (ReadsAll.keep k ra) i hi
  obtain⟨b2,r2⟩:=ReadsAll.at (ReadsAll.keep k ra) j hj
  exact aj5 r1 r2 (ok.plain _ (mem i hi)) (ok.plain _ (mem j hj)) (ok.head _ (mem i hi)) (ok.head _ (mem j hj)) (ok.cmp _ (mem i hi) _ (mem j hj)) hu (ok.depth _ (mem i hi)) (ok.depth _ (mem j hj)) q
 ·rw [len]
  refine few.imp id fun pw i hi=>?_
  have h1:=alZ.mp pw i (i+1) (by omega) hi (by omega)
  have g:∀ j (hj:j<ds.length),ds.getD j .none=ds[j]:=fun j hj=>by rw [alh,alb hj];rfl
  rw [g _ hi,g i (by omega)]
  have ne:=lt_asymm (ok.plain _ (alc _)) (ok.plain _ (alc _)) h1
  have:=adI _ _ (ok.plain _ (alc _)) (ok.plain _ (alc _)) ne
  rw [h1] at this
  revert this
  cases ltD ds[i+1] ds[i] <;> simp
end
noncomputable def pick {α:Type} (d:α) (p:Array Nat) (xs:List α):List α:=p.toList.map fun i=>xs.getD i d
theorem aev:∀ {xs:List V} {us:List Value},Vals xs us->∀ i,RelV (xs.getD i .non) (us.getD i Value.none)
 | _,_,.nil,i=>rfl
 | _,_,.cons r t,0=>r
 | _,_,.cons r t,i+1=>aev t i
theorem afw {xs:List V} {us:List Value} (r:Vals xs us) (p:Array Nat):Vals (pick .non p xs) (pick Value.none p us):=by
 unfold pick
 induction p.toList with
 | nil=>exact .nil
 | cons i l ih=>exact .cons (aev r i) ih
theorem aew {K:alg} {H:Hp}:∀ {ds:List PyData} {xs:List V},Reps K H ds xs->∀ i,Rep K H (ds.getD i .none) (xs.getD i .non)
 | [],xs,r,i=>by
  rw [reps_nil.mp r]
  exact rep_none.mpr rfl
 | d :: ds,xs,r,i=>by
  obtain⟨x,xs',rfl,r1,r2⟩:=reps_cons.mp r
  cases i with
  | zero=>exact r1
  | succ i=>exact aew r2 i
theorem afx {K:alg} {H:Hp} {ds:List PyData} {xs:List V} (r:Reps K H ds xs) (p:Array Nat):Reps K H (pick .none p ds) (pick .non p xs):=by
 unfold pick
 induction p.toList with
 | nil=>exact .nil'
 | cons i l ih=>exact .cons' (aew r i) ih
theorem afy {α:Type} {d:α} {n:Nat} {p:Array Nat} {xs:List α} (h:Pm n p) (hn:n=xs.length):(pick d p xs).Perm xs:=by
 have e:(alo n).map (fun i=>xs.getD i d)=xs:=by
  subst hn
  refine anP fun i=>?_
  rw [alv]
  by_cases hi:i<xs.length
  ·rw [am8 hi,alb hi]
   simp [hi]
  ·rw [alN (by simp;omega),alN (by omega)]
   rfl
 have:=h.map fun i=>xs.getD i d
 rw [e] at this
 exact this
theorem aih {n:Nat} {p:Array Nat} {ds:List PyData} (h:Pm n p) (u:Up (fun i j=>ltD (ds.getD i .none) (ds.getD j .none)) p n):(pick .none p ds).Pairwise fun d e=>ltD d e=true:=by
 unfold pick
 rw [amI]
 refine alZ.mpr fun i j hi hj hij=>?_
 have hs:=h.size
 rw [aly] at hi hj
 have:=u i j hij (by omega)
 have g:∀ k (hk:k<p.toList.length),p.getD k 0=p.toList[k]:=fun k hk=>by
  rw [jn,alh,alb hk]
  rfl
 rw [g i (by simpa using hi),g j (by simpa using hj)] at this
 exact this
noncomputable def abx (K:alg):List V->Hp->VK->Prop:=fun xs H Q=>∃ (a:Addr) (vs:List V) (ds:List PyData) (T:String),xs=[.ref a]/\SqL K H a vs/\Reps K H ds vs/\SortOk T ds/\ds.length<=1000/\(ds.length<128 \/ ds.Pairwise fun d e=>ltD d e=true) /\
 ∀ l p,H l=none->Pm ds.length p->Up (fun i j=>ltD (ds.getD i .none) (ds.getD j .none)) p ds.length->Q (.ref l) (upd H l (.lst (pick .non p vs)))
theorem aby {X:Cx} (hu:X.A.units+64<cLine):yg X (.builtin "sorted") (abx X.K):=by
 intro pins s σ H xs us Q I r h
 obtain⟨a,vs,ds,T,rfl,ha,rd,ok,hl,few,q⟩:=h
 obtain⟨u,rfl,rx⟩:=vals1 r
 cases rx
 obtain⟨its,rv,pl,hz⟩:=I.list ha
 have le:=rv.length
 have ld:=rd.length
 obtain⟨as,ra⟩:=jj I ds vs its rd rv
 have e2:X.A.in1.in1.units=X.A.units+1+1:=rfl
 have lt':its.length=ds.length:=by omega
 refine acE (by omega) pl.isList (aif ra ok (by omega) few) fun h' D p c x1 x2 x3 x4 x5=>?_
 rw [lt'] at x1 x2
 have hD:H D=none:=I.hok.fresh x3
 have lp:p.toList.length=ds.length:=by rw [aly];exact x1.size
 exact⟨.ref D,upd H D (.lst (pick .non p vs)),I.laid (t':=s.toks) x4 x3 ⟨by unfold pick;rw [ale];omega,pick Value.none p its,c,afw rv p,x5⟩,rfl,q D p hD x1 x2⟩
theorem yW {X:Cx} {K:alg} (hK:X.K=K) (hu:X.A.units+64<cLine):yg X (.builtin "sorted") (abx K):=hK▸aby hu
section
variable {K:alg} {f:Fx} {ρ:zp} {P:List PyData->Prop} {te:TE}
theorem qY (T:String) (h:PEd K f te ρ fun x=>∃ ds,x=.list ds/\SortOk T ds/\ds.length<=1000/\(ds.length<128 \/ ds.Pairwise fun d e=>ltD d e=true)/\∀ es,es.Perm ds->(es.Pairwise fun d e=>ltD d e=true)->P es) :
  PEdO K f (tCB (abx K) (yx te jZ)) ρ P:=fun σ H Q e q=>h σ H _ e fun x v H1 g1 r1 ⟨ds,ex,ok,hl,few,p⟩=>by
 subst ex
 obtain⟨a,xs,rfl,h1,h2⟩:=rep_list.mp r1
 refine⟨a,xs,ds,T,rfl,(zj _ _).seq h1,Reps.mono (zj _ _) _ _ h2,ok,hl,few,fun l pm hn m u=>?_⟩
 have g2:Goes f H1 (upd H1 l (.lst (pick .non pm xs))):=.of_same (z4 hn _) g1.2
 refine q (pick .none pm ds) l _ _ (g1.trans g2) (g1.free e.fd hn) zB (Reps.mono (fun b o hb=>?_) _ _ (afx h2 pm)) (p _ (afy m rfl) (aih m u))
 have hb':=zG hb
 have hbl:b≠l:=fun z=>by
  have:=hb'.2
  rw [z,hn] at this
  cases this
 refine zv (fun z=>?_) (by rw [zx hbl];exact hb'.2)
 rcases z with z | z
 ·exact hb'.1 (.inl z)
 ·rcases alp.mp z with z | z
  ·exact hbl z
  ·exact hb'.1 (.inr z)
theorem qc {ds es:List PyData} (pl:∀ d∈ds,zt d=true) (h:es.Perm ds) (s1:es.Pairwise fun d e=>ltD d e=true) (s2:ds.Pairwise fun d e=>ltD d e=true):es=ds:=by
 refine h.eq_of_pairwise (le:=fun d e=>ltD d e=true) (fun a b ha hb h1 h2=>?_) s1 s2
 have pa:=pl a (h.mem_iff.mp ha)
 have pb:=pl b hb
 have:=abu a b a pa pb pa h1 h2
 rw [aan a pa] at this
 cases this
end
end L2
end
section
namespace L2.ST
open PySem PySem.SetTable
noncomputable def acG (xs:Array Nat):Prop:=∀ i j,i<j->j<xs.size->xs.getD i 0<xs.getD j 0
theorem agU {xs:Array Nat} {i d e:Nat} (h:i<xs.size):xs.getD i d=xs.getD i e:=by simp [amT,h]
theorem aao {xs:Array Nat} {j:Nat}:∀ f lo hi,hi - lo<=f->lo<=hi->hi<=xs.size->(∀ i,i<lo->xs.getD i 0<j)->(∀ i,hi<=i->i<xs.size->j<=xs.getD i 0)->acG xs ->
  lo<=below.go xs j f lo hi/\below.go xs j f lo hi<=hi/\(∀ i,i<below.go xs j f lo hi->xs.getD i 0<j)/\(∀ i,below.go xs j f lo hi<=i->i<xs.size->j<=xs.getD i 0)
 | 0,lo,hi,hf,hl,hh,a,b,r=>by
  obtain rfl:lo=hi:=by omega
  exact⟨ali _,ali _,a,b⟩
 | f+1,lo,hi,hf,hl,hh,a,b,r=>by
  unfold below.go
  by_cases h:lo<hi
  ·rw [if_pos h]
   have hm:(lo+hi) / 2<xs.size:=by omega
   simp only
   rw [agU (e:=0) hm]
   by_cases h2:xs.getD ((lo+hi) / 2) 0<j
   ·rw [if_pos h2]
    have:=aao f ((lo+hi) / 2+1) hi (by omega) (by omega) hh (fun i hi'=>by
     by_cases e:i=(lo+hi) / 2
     ·rw [e];exact h2
     ·exact apj (r i _ (by omega) hm) h2) b r
    exact⟨by omega,this.2.1,this.2.2⟩
   ·rw [if_neg h2]
    have:=aao f lo ((lo+hi) / 2) (by omega) (by omega) (by omega) a (fun i hi' hs=>by
     by_cases e:i=(lo+hi) / 2
     ·rw [e];omega
     ·have:=r ((lo+hi) / 2) i (by omega) hs;omega) r
    exact⟨this.1,by omega,this.2.2⟩
  ·rw [if_neg h]
   obtain rfl:lo=hi:=by omega
   exact⟨ali _,ali _,a,b⟩
theorem acH {xs:Array Nat} (r:acG xs) (j:Nat):below xs j<=xs.size/\(∀ i,i<below xs j->xs.getD i 0<j)/\(∀ i,below xs j<=i->i<xs.size->j<=xs.getD i 0):=by
 have:=aao (xs:=xs) (j:=j) xs.size 0 xs.size (by omega) (alD _) (ali _) (fun i hi=>absurd hi (amL _)) (fun i a b=>by omega) r
 exact this.2
theorem below_at {xs:Array Nat} (r:acG xs) {i:Nat} (hi:i<xs.size):below xs (xs.getD i 0)=i:=by
 obtain⟨a,b,c⟩:=acH r (xs.getD i 0)
 by_cases h:below xs (xs.getD i 0)<i
 ·have h1:=c _ (ali _) (by omega)
  have h2:=r _ i h hi
  omega
 ·by_cases h2:i<below xs (xs.getD i 0)
  ·have:=b i h2;omega
  ·omega
noncomputable def Tk (t:SetTable) (j:Nat):Prop:=∃ i,i<t.place.size/\t.place.getD i 0=j
theorem slot_live {t:SetTable} (r:acG t.place) {i:Nat} (hi:i<t.place.size):t.slot (t.place.getD i 0)=.live i:=by
 unfold slot
 simp only
 rw [below_at r hi]
 have:(t.place[i]? == some (t.place.getD i 0))=true:=by simp [amT,hi]
 rw [if_pos this]
theorem afz {t:SetTable} (d:t.dummies=#[]) {j:Nat} (h:¬ Tk t j):t.slot j=.empty:=by
 unfold slot
 simp only
 have h1:¬ (t.place[below t.place j]? == some j)=true:=fun e=>h (by
  have e2:=eq_of_beq e
  obtain⟨hl,e3⟩:=Array.getElem?_eq_some_iff.mp e2
  exact⟨_,hl,by simp [amT,hl,e3]⟩)
 rw [if_neg h1]
 have h2:has t.dummies j=false:=by rw [d];rfl
 rw [h2]
 rfl
noncomputable def road (mask:Nat) (h:Int):Nat->Probe
 | 0=>{ j:=bits h % (mask+1),more:=runEnd mask (bits h % (mask+1)) - bits h % (mask+1),i:=bits h % (mask+1),perturb:=bits h,dummy:=none }
 | k+1=>if (road mask h k).more > 0 then { road mask h k with j:=(road mask h k).j+1,more:=(road mask h k).more - 1 } else
  { road mask h k with j:=(leap mask (road mask h k).i (road mask h k).perturb).1,more:=runEnd mask (leap mask (road mask h k).i (road mask h k).perturb).1 - (leap mask (road mask h k).i (road mask h k).perturb).1,i:=(leap mask (road mask h k).i (road mask h k).perturb).1,perturb:=(leap mask (road mask h k).i (road mask h k).perturb).2 }
theorem road_start (t:SetTable) (h:Int):t.probeStart h=road t.mask h 0:=rfl
theorem qL (mask:Nat) (h:Int):∀ k,(road mask h k).dummy=none
 | 0=>rfl
 | k+1=>by
  unfold road
  split
  ·exact qL mask h k
  ·exact qL mask h k
noncomputable abbrev pos (mask:Nat) (h:Int) (k:Nat):Nat:=(road mask h k).j
noncomputable def lp (mask:Nat) (h:Int):Nat->Nat×Nat
 | 0=>(bits h % (mask+1),bits h)
 | r+1=>leap mask (lp mask h r).1 (lp mask h r).2
theorem vu (mask i:Nat) (h:i<=mask):i<=runEnd mask i/\runEnd mask i<=mask/\runEnd mask i - i<=9:=by
 unfold runEnd
 split <;> omega
theorem acI (mask:Nat) (h:Int):∀ r,(lp mask h r).1<=mask
 | 0=>aoh.mp (Nat.mod_lt _ (anN _))
 | r+1=>aoh.mp (Nat.mod_lt _ (anN _))
noncomputable def At (mask:Nat) (h:Int) (k r d:Nat):Prop:=d<=runEnd mask (lp mask h r).1 - (lp mask h r).1/\road mask h k={ j:=(lp mask h r).1+d,more:=runEnd mask (lp mask h r).1 - (lp mask h r).1 - d,i:=(lp mask h r).1,perturb:=(lp mask h r).2,dummy:=none }
theorem abz (mask:Nat) (h:Int):At mask h 0 0 0:=⟨alD _,rfl⟩
theorem aex {mask:Nat} {h:Int} {k r d:Nat} (a:At mask h k r d) (hd:d<runEnd mask (lp mask h r).1 - (lp mask h r).1):At mask h (k+1) r (d+1):=by
 obtain⟨a1,a2⟩:=a
 refine⟨hd,?_⟩
 unfold road
 rw [a2]
 simp only
 rw [if_pos (by omega)]
 simp only [Probe.mk.injEq,and_true]
 omega
theorem abA {mask:Nat} {h:Int} {k r d:Nat} (a:At mask h k r d) (hd:d=runEnd mask (lp mask h r).1 - (lp mask h r).1):At mask h (k+1) (r+1) 0:=by
 obtain⟨a1,a2⟩:=a
 refine⟨alD _,?_⟩
 unfold road
 rw [a2]
 simp only
 rw [if_neg (by omega)]
 rfl
theorem abB {mask:Nat} {h:Int} {k r:Nat} (a:At mask h k r 0):∀ d,d<=runEnd mask (lp mask h r).1 - (lp mask h r).1->At mask h (k+d) r d
 | 0,_=>a
 | d+1,hd=>aex (abB a d (by omega)) (by omega)
theorem acJ (mask:Nat) (h:Int):∀ r,∃ k,k<=10 * r/\At mask h k r 0
 | 0=>⟨0,ali _,abz mask h⟩
 | r+1=>by
  obtain⟨k,hk,a⟩:=acJ mask h r
  have:=(vu mask _ (acI mask h r)).2.2
  exact⟨_,by omega,abA (abB a _ (ali _)) rfl⟩
theorem agV (mask:Nat) (h:Int):∀ k,∃ r d,At mask h k r d
 | 0=>⟨0,0,abz mask h⟩
 | k+1=>by
  obtain⟨r,d,a⟩:=agV mask h k
  by_cases e:d<runEnd mask (lp mask h r).1 - (lp mask h r).1
  ·exact⟨r,d+1,aex a e⟩
  ·exact⟨r+1,0,abA a (Nat.le_antisymm a.1 (by omega))⟩
theorem abC (mask:Nat) (h:Int) (k:Nat):pos mask h k<=mask:=by
 obtain⟨r,d,a1,a2⟩:=agV mask h k
 unfold pos
 rw [a2]
 have:=vu mask _ (acI mask h r)
 show (lp mask h r).1+d<=mask
 omega
noncomputable def stp (m i:Nat):Nat:=(i * 5+1) % m
noncomputable def itr (m:Nat):Nat->Nat->Nat
 | 0,i=>i
 | r+1,i=>stp m (itr m r i)
theorem qZ (m:Nat) (a:Nat):∀ b i,itr m (a+b) i=itr m b (itr m a i)
 | 0,i=>rfl
 | b+1,i=>by show stp m (itr m (a+b) i)=stp m (itr m b (itr m a i));rw [qZ m a b i]
noncomputable def orb (m:Nat):Nat->Nat->List Nat
 | 0,_=>[]
 | f+1,i=>i :: orb m f (stp m i)
theorem agW (m:Nat):∀ f i r,r<f->(orb m f i)[r]?=some (itr m r i)
 | 0,_,_,h=>absurd h (amL _)
 | f+1,i,0,_=>rfl
 | f+1,i,r+1,h=>by
  show (orb m f (stp m i))[r]?=_
  rw [agW m f (stp m i) r (by omega),show r+1=1+r by omega,qZ m 1 r i]
  rfl
noncomputable def jf (m:Nat):Bool:=(alo m).all (fun j=>(orb m m 0).contains j) && itr m m 0 == 0
theorem aey:jf 8=true:=by decide +kernel
theorem acK:jf 32=true:=by decide +kernel
theorem aa0:jf 128=true:=by decide +kernel
theorem aa1:jf 512=true:=by decide +kernel
theorem abD (m:Nat):∀ f i,(orb m f i).length=f
 | 0,_=>rfl
 | f+1,i=>by show (orb m f (stp m i)).length+1=f+1;rw [abD m f]
theorem acL {m:Nat} (h:jf m=true) {j:Nat} (hj:j<m):∃ r,r<m/\itr m r 0=j:=by
 unfold jf at h
 rw [alu] at h
 have:=aob.mp h.1 j (alQ.mpr hj)
 have hm:j∈orb m m 0:=by simpa using this
 obtain⟨r,hr,e⟩:=alJ hm
 rw [abD] at hr
 have e2:=agW m m 0 r hr
 rw [alb (by rw [abD];exact hr),e] at e2
 exact⟨r,hr,(Option.some.inj e2).symm⟩
theorem aez {m:Nat} (h:jf m=true) {i j:Nat} (hi:i<m) (hj:j<m):∃ r,r<m/\itr m r i=j:=by
 obtain⟨a,ha,ea⟩:=acL h hi
 obtain⟨b,hb,eb⟩:=acL h hj
 have e0:itr m m 0=0:=by
  unfold jf at h
  rw [alu] at h
  exact eq_of_beq h.2
 by_cases hab:a<=b
 ·exact⟨b - a,by omega,by rw [<-ea,<- qZ,show a+(b - a)=b by omega];exact eb⟩
 ·refine⟨m - a+b,by omega,?_⟩
  rw [<-ea,<- qZ,show a+(m - a+b)=m+b by omega,qZ,e0]
  exact eb
theorem aeA (mask:Nat) (h:Int):∀ r,(lp mask h r).2=bits h / 32 ^ r
 | 0=>by simp [lp]
 | r+1=>by
  show (lp mask h r).2 / 32=_
  rw [aeA mask h r,Nat.div_div_eq_div_mul,Nat.pow_succ]
theorem aii (h:Int):bits h<2 ^ 64:=by
 unfold bits
 have:=amU h (show (0:Int)<2 ^ 64 by decide)
 have:=aoi h (show (2 ^ 64:Int)≠0 by decide)
 omega
theorem aij (mask:Nat) (h:Int) (r:Nat) (hr:13<=r):(lp mask h r).2=0:=by
 rw [aeA]
 refine Nat.div_eq_of_lt (alG (aii h) ?_)
 exact alV (show 2 ^ 64<=32 ^ 13 by decide) (Nat.pow_le_pow_right (by decide) hr)
theorem adJ (mask:Nat) (h:Int):∀ r,(lp mask h (13+r)).1=itr (mask+1) r (lp mask h 13).1
 | 0=>rfl
 | r+1=>by
  show (leap mask (lp mask h (13+r)).1 (lp mask h (13+r)).2).1=stp (mask+1) (itr (mask+1) r (lp mask h 13).1)
  rw [aij mask h (13+r) (by omega),adJ mask h r]
  rfl
theorem agX {mask:Nat} (g:jf (mask+1)=true) (h:Int) {j:Nat} (hj:j<=mask):∃ k,k<10 * turns mask/\pos mask h k=j:=by
 obtain⟨r,hr,e⟩:=aez g (i:=(lp mask h 13).1) (j:=j) (anT (acI mask h 13)) (anT hj)
 obtain⟨k,hk,a1,a2⟩:=acJ mask h (13+r)
 refine⟨k,by unfold turns;omega,?_⟩
 unfold pos
 rw [a2]
 show (lp mask h (13+r)).1+0=j
 rw [adJ,e]
 rfl
end L2.ST
end
section
namespace L2.ST
open PySem PySem.SetTable
structure TB (t:SetTable) (hs:List Int):Prop where
 mask:t.mask=7 \/ t.mask=31 \/ t.mask=127 \/ t.mask=511
 dum:t.dummies=#[]
 rise:acG t.place
 le:∀ i,i<t.place.size->t.place.getD i 0<=t.mask
 size:t.place.size=hs.length
 most:hs.length<=t.mask
 reach:∀ i,i<hs.length->∃ k,pos t.mask (hs.getD i 0) k=t.place.getD i 0/\∀ k',k'<k->Tk t (pos t.mask (hs.getD i 0) k')
structure TOk (t:SetTable) (hs:List Int):Prop extends TB t hs where
 room:hs.length * 5<t.mask * 3
theorem abE {t:SetTable} {hs:List Int} (o:TB t hs):jf (t.mask+1)=true:=by
 rcases o.mask with e | e | e | e <;> rw [e]
 ·exact aey
 ·exact acK
 ·exact aa0
 ·exact aa1
theorem afA {t:SetTable} (r:acG t.place) (hs:t.place.size<=t.mask):∃ j,j<=t.mask/\¬ Tk t j:=by
 refine amz fun no=>?_
 have all:∀ j,j<=t.mask->Tk t j:=fun j hj=>amz fun z=>no ⟨j,hj,z⟩
 have up:∀ j,j<=t.mask->j<=below t.place j/\below t.place j<t.place.size:=fun j=>by
  induction j with
  | zero =>
   intro hj
   obtain⟨i,hi,e⟩:=all 0 hj
   have:=below_at r hi
   rw [e] at this
   exact⟨alD _,by omega⟩
  | succ j ih =>
   intro hj
   obtain⟨i,hi,e⟩:=all (j+1) hj
   obtain⟨i',hi',e'⟩:=all j (by omega)
   have b1:=below_at r hi
   have b2:=below_at r hi'
   rw [e] at b1
   rw [e'] at b2
   have lt:i'<i:=by
    by_cases h:i'<i
    ·exact h
    ·by_cases h2:i'=i
     ·subst h2;omega
     ·have:=r i i' (by omega) hi';omega
   have:=ih (by omega)
   omega
 have:=up t.mask (ali _)
 omega
structure First (t:SetTable) (h:Int) (E:Nat):Prop where
 lt:E<10 * turns t.mask
 free:¬ Tk t (pos t.mask h E)
 ahead:∀ k,k<E->Tk t (pos t.mask h k)
theorem least {p:Nat->Prop}:∀ n,p n->∃ m,m<=n/\p m/\∀ k,k<m->¬ p k:=fun n=>by
 induction n using Nat.strongRecOn with
 | ind n ih =>
  intro h
  by_cases q:∃ k,k<n/\p k
  ·obtain⟨k,hk,pk⟩:=q
   obtain⟨m,a,b⟩:=ih k hk pk
   exact⟨m,by omega,b⟩
  ·exact⟨n,ali _,h,fun k hk z=>q ⟨k,hk,z⟩⟩
theorem afB {t:SetTable} (g:jf (t.mask+1)=true) (r:acG t.place) (hs:t.place.size<=t.mask) (h:Int):∃ E,First t h E:=by
 obtain⟨j,hj,nj⟩:=afA r hs
 obtain⟨k,hk,e⟩:=agX g h hj
 obtain⟨m,a,b,c⟩:=least (p:=fun k=>¬ Tk t (pos t.mask h k)) k (by show ¬ Tk t (pos t.mask h k);rw [e];exact nj)
 exact⟨m,by omega,b,fun q hq=>amz (c q hq)⟩
theorem first_of {t:SetTable} {hs:List Int} (o:TB t hs) (h:Int):∃ E,First t h E:=afB (abE o) o.rise (by have:=o.size;have:=o.most;omega) h
theorem probe_go {t:SetTable} (d:t.dummies=#[]) (r:acG t.place) {hashAt:Nat->Int} {h:Int} {E:Nat} (F:First t h E):∀ f k,k<=E->E<k+f ->
  (probe.go t hashAt h f (road t.mask h k)=some (.empty (pos t.mask h E) none)/\∀ q i,k<=q->q<E->i<t.place.size->pos t.mask h q=t.place.getD i 0->hashAt i≠h) \/
  ∃ q i,k<=q/\q<E/\i<t.place.size/\pos t.mask h q=t.place.getD i 0/\hashAt i=h/\probe.go t hashAt h f (road t.mask h k)=some (.candidate (pos t.mask h q) i (road t.mask h (q+1)))/\∀ q' i',k<=q'->q'<q->i'<t.place.size->pos t.mask h q'=t.place.getD i' 0->hashAt i'≠h
 | 0,k,h1,h2=>by omega
 | f+1,k,h1,h2=>by
  unfold probe.go
  by_cases e:k=E
  ·subst e
   refine .inl ⟨?_,fun q i a b=>by omega⟩
   rw [afz d F.free]
   show some (Met.empty _ _)=_
   rw [qL]
  ·obtain⟨i,hi,ei⟩:=F.ahead k (by omega)
   have sl:t.slot (road t.mask h k).j=.live i:=by
    have:=slot_live r hi
    rw [ei] at this
    exact this
   rw [sl]
   show (if (hashAt i == h)=true then _ else _:Option Met)=_/\_ \/ _
   have uniq:∀ i',i'<t.place.size->pos t.mask h k=t.place.getD i' 0->i'=i:=fun i' hi' e'=>by
    have b1:=below_at r hi
    have b2:=below_at r hi'
    rw [ei] at b1
    rw [<-e'] at b2
    omega
   by_cases hh:(hashAt i == h)=true
   ·rw [if_pos hh]
    refine .inr ⟨k,i,ali _,by omega,hi,ei.symm,eq_of_beq hh,?_,fun q' i' a b=>by omega⟩
    show (if (hashAt i == h)=true then _ else _:Option Met)=_
    rw [if_pos hh]
    rfl
   ·rw [if_neg hh]
    have hne:hashAt i≠h:=fun z=>hh (by rw [z];exact beq_self_eq_true _)
    rcases probe_go d r (hashAt:=hashAt) F f (k+1) (by omega) (by omega) with⟨a,b⟩ | ⟨q,i2,a1,a2,a3,a4,a5,a6,a7⟩
    ·refine .inl ⟨a,fun q i' c1 c2 c3 c4=>?_⟩
     by_cases eq:q=k
     ·subst eq;rw [uniq i' c3 c4];exact hne
     ·exact b q i' (by omega) c2 c3 c4
    ·refine .inr ⟨q,i2,by omega,a2,a3,a4,a5,?_,fun q' i' c1 c2 c3 c4=>?_⟩
     ·show (if (hashAt i == h)=true then _ else _:Option Met)=_
      rw [if_neg hh]
      exact a6
     ·by_cases eq:q'=k
      ·subst eq;rw [uniq i' c3 c4];exact hne
      ·exact a7 q' i' (by omega) c2 c3 c4
end L2.ST
end
section
namespace L2.ST
open PySem PySem.SetTable
theorem q9 {α:Type} (xs:Array α) (i:Nat) (d:α):xs.getD i d=xs.toList.getD i d:=by
 by_cases h:i<xs.size <;> simp [amT,h,alY]
theorem acM {α:Type} (l:List α) (p:Nat) (x d:α) (hp:p<=l.length) (i:Nat):(l.take p++x :: l.drop p).getD i d=if i<p then l.getD i d else if i=p then x else l.getD (i - 1) d:=by
 have lt:(l.take p).length=p:=by rw [alq];omega
 by_cases h1:i<p
 ·rw [if_pos h1,alh,alk (by omega),amt h1,alh]
 ·rw [if_neg h1,alh,alj (by omega),lt]
  by_cases h2:i=p
  ·rw [if_pos h2,h2,ank]
   rfl
  ·rw [if_neg h2,show i - p=(i - p - 1)+1 by omega,aoN,anj,show p+(i - p - 1)=i - 1 by omega,alh]
section
variable {t:SetTable} {hs:List Int} {h:Int} {E:Nat}
theorem put_tb (o:TB t hs) (F:First t h E) (more:hs.length+1<=t.mask):below t.place (pos t.mask h E)<=hs.length/\TB (t.put (pos t.mask h E)).1 (hs.take (below t.place (pos t.mask h E))++h :: hs.drop (below t.place (pos t.mask h E))):=by
 obtain⟨b1,b2,b3⟩:=acH o.rise (pos t.mask h E)
 have sz:=o.size
 generalize hp:below t.place (pos t.mask h E)=p at *
 have hpl:p<=t.place.toList.length:=by rw [aly];exact b1
 have pl:∀ i,(t.put (pos t.mask h E)).1.place.getD i 0=if i<p then t.place.getD i 0 else if i=p then pos t.mask h E else t.place.getD (i - 1) 0:=fun i=>by
  show (insertAt t.place (below t.place (pos t.mask h E)) (pos t.mask h E)).getD i 0=_
  rw [hp,q9,anH,acM _ _ _ _ hpl,q9,q9]
 have psz:(t.put (pos t.mask h E)).1.place.size=t.place.size+1:=by
  show (insertAt t.place (below t.place (pos t.mask h E)) (pos t.mask h E)).size=_
  rw [<-aly,anH,hp,alr,alC,alq,alP,aly]
  omega
 have ne:∀ i,i<t.place.size->t.place.getD i 0≠pos t.mask h E:=fun i hi e=>F.free ⟨i,hi,e⟩
 have b3':∀ i,p<=i->i<t.place.size->pos t.mask h E<t.place.getD i 0:=fun i a b=>by
  have:=b3 i a b
  have:=ne i b
  omega
 have hm:(t.put (pos t.mask h E)).1.mask=t.mask:=rfl
 have tk:∀ j,Tk t j->Tk (t.put (pos t.mask h E)).1 j:=fun j ⟨i,hi,e⟩=>by
  by_cases q:i<p
  ·exact⟨i,by omega,by rw [pl,if_pos q];exact e⟩
  ·exact⟨i+1,by omega,by rw [pl,if_neg (by omega),if_neg (by omega),Nat.add_sub_cancel];exact e⟩
 have hl:∀ i,(hs.take p++h :: hs.drop p).getD i 0=if i<p then hs.getD i 0 else if i=p then h else hs.getD (i - 1) 0:=fun i=>acM hs p h 0 (by omega) i
 have ln:(hs.take p++h :: hs.drop p).length=hs.length+1:=by
  rw [alr,alC,alq,alP]
  omega
 refine⟨by omega,⟨o.mask,?_,fun i j hij hj=>?_,fun i hi=>?_,by rw [psz,ln,sz],by rw [ln,hm];exact more,fun i hi=>?_⟩⟩
 ·show (if has t.dummies (pos t.mask h E)=true then _ else t.dummies)=#[]
  rw [o.dum]
  rfl
 ·rw [pl,pl]
  rw [psz] at hj
  by_cases c1:i<p
  ·rw [if_pos c1]
   by_cases c2:j<p
   ·rw [if_pos c2];exact o.rise i j hij (by omega)
   ·rw [if_neg c2]
    by_cases c3:j=p
    ·rw [if_pos c3];exact b2 i c1
    ·rw [if_neg c3];exact o.rise i (j - 1) (by omega) (by omega)
  ·rw [if_neg c1,if_neg (show ¬ j<p by omega)]
   by_cases c3:i=p
   ·rw [if_pos c3,if_neg (by omega)];exact b3' (j - 1) (by omega) (by omega)
   ·rw [if_neg c3,if_neg (by omega)];exact o.rise (i - 1) (j - 1) (by omega) (by omega)
 ·rw [pl,hm]
  rw [psz] at hi
  by_cases c1:i<p
  ·rw [if_pos c1];exact o.le i (by omega)
  ·rw [if_neg c1]
   by_cases c3:i=p
   ·rw [if_pos c3];exact abC _ _ _
   ·rw [if_neg c3];exact o.le (i - 1) (by omega)
 ·rw [hl,pl,hm]
  rw [ln] at hi
  by_cases c1:i<p
  ·rw [if_pos c1,if_pos c1]
   obtain⟨k,e,a⟩:=o.reach i (by omega)
   exact⟨k,e,fun k' hk=>tk _ (a k' hk)⟩
  ·rw [if_neg c1,if_neg c1]
   by_cases c3:i=p
   ·rw [if_pos c3,if_pos c3]
    exact⟨E,rfl,fun k' hk=>tk _ (F.ahead k' hk)⟩
   ·rw [if_neg c3,if_neg c3]
    obtain⟨k,e,a⟩:=o.reach (i - 1) (by omega)
    exact⟨k,e,fun k' hk=>tk _ (a k' hk)⟩
end
noncomputable def Occ (ow:Array (Option Nat)) (j:Nat):Prop:=ow.getD j (some 0)≠none
theorem aeB {mask:Nat} {ow:Array (Option Nat)} {h:Int}:∀ f r k,At mask h k r 0->(∃ r',r<=r'/\r'<r+f/\¬ Occ ow (lp mask h r').1) ->
  ∃ E,k<=E/\(∀ q,k<=q->q<E->Occ ow (pos mask h q))/\¬ Occ ow (pos mask h E)/\layClean.free mask ow f (lp mask h r).1 (lp mask h r).2=some (pos mask h E)
 | 0,r,k,a,⟨r',h1,h2,_⟩=>by omega
 | f+1,r,k,a,⟨r',h1,h2,h3⟩=>by
  have re:=vu mask _ (acI mask h r)
  have at_:∀ d,d<=runEnd mask (lp mask h r).1 - (lp mask h r).1->pos mask h (k+d)=(lp mask h r).1+d:=fun d hd=>by
   have:=(abB a d hd).2
   unfold pos
   rw [this]
  unfold layClean.free
  cases hf:(alo (runEnd mask (lp mask h r).1+1 - (lp mask h r).1)).find? fun k=>(ow.getD ((lp mask h r).1+k) (some 0)).isNone with
  | some d =>
   have hm:=List.mem_of_find?_eq_some hf
   have hd:=alQ.mp hm
   have hs:=List.find?_some hf
   have bef:∀ d',d'<d->¬ (ow.getD ((lp mask h r).1+d') (some 0)).isNone=true:=fun d' hd'=>by
    obtain⟨_,as,bs,e,al⟩:=List.find?_eq_some_iff_append.mp hf
    have:as=alo d:=by
     have l1:(alo (runEnd mask (lp mask h r).1+1 - (lp mask h r).1))[as.length]?=some d:=by
      rw [e,alj (ali _),ank]
      rfl
     have lt:as.length<runEnd mask (lp mask h r).1+1 - (lp mask h r).1:=by
      have:=congrArg List.length e
      simp at this
      omega
     rw [am8 lt] at l1
     have el:as.length=d:=Option.some.inj l1
     have:as=(alo (runEnd mask (lp mask h r).1+1 - (lp mask h r).1)).take as.length:=by
      rw [e,amE (ali _),amf]
     rw [this,List.take_range,Nat.min_eq_left (by omega),el]
    have al2:=al d' (by rw [this];exact alQ.mpr hd')
    intro z
    have z2:(!(ow.getD ((lp mask h r).1+d') (some 0)).isNone)=true:=al2
    rw [z] at z2
    cases z2
   refine⟨k+d,by omega,fun q hq1 hq2=>?_,?_,?_⟩
   ·have:=bef (q - k) (by omega)
    rw [show q=k+(q - k) by omega,at_ (q - k) (by omega)]
    intro z
    rw [z] at this
    exact this rfl
   ·rw [at_ d (by omega)]
    intro z
    have hs':(ow.getD ((lp mask h r).1+d) (some 0)).isNone=true:=hs
    exact z (Option.isNone_iff_eq_none.mp hs')
   ·rw [at_ d (by omega)]
  | none =>
   have all:∀ d,d<runEnd mask (lp mask h r).1+1 - (lp mask h r).1->Occ ow ((lp mask h r).1+d):=fun d hd z=>by
    have:=List.find?_eq_none.mp hf d (alQ.mpr hd)
    simp [z] at this
   have ne:r'≠r:=fun z=>by
    rw [z] at h3
    exact h3 (by have:=all 0 (by omega);rwa [Nat.add_zero] at this)
   have a2:=abA (abB a _ (ali _)) rfl
   obtain⟨E,e1,e2,e3,e4⟩:=aeB f (r+1) _ a2 ⟨r',by omega,by omega,h3⟩
   refine⟨E,by omega,fun q hq1 hq2=>?_,e3,e4⟩
   by_cases hq:q<k+(runEnd mask (lp mask h r).1 - (lp mask h r).1)+1
   ·rw [show q=k+(q - k) by omega,at_ (q - k) (by omega)]
    exact all _ (by omega)
   ·exact e2 q (by omega) hq2
end L2.ST
end
section
namespace L2.ST
open PySem PySem.SetTable
structure OwnT (mask:Nat) (ow:Array (Option Nat)) (hs:List Int) (sl:List Nat):Prop where
 size:ow.size=mask+1
 len:sl.length=hs.length
 nd:sl.Nodup
 le:∀ j∈sl,j<=mask
 own:∀ j,j<=mask->∀ i,ow.getD j none=some i↔sl[i]?=some j
 reach:∀ i,i<hs.length->∃ q,pos mask (hs.getD i 0) q=sl.getD i 0/\∀ q',q'<q->pos mask (hs.getD i 0) q'∈sl
theorem OwnT.occ {mask:Nat} {ow:Array (Option Nat)} {hs:List Int} {sl:List Nat} (o:OwnT mask ow hs sl) {j:Nat} (hj:j<=mask):Occ ow j↔j∈sl:=by
 have hs':j<ow.size:=by rw [o.size];omega
 have e:ow.getD j (some 0)=ow.getD j none:=by simp [amT,hs']
 unfold Occ
 rw [e]
 constructor
 ·intro h
  obtain⟨i,hi⟩:=Option.ne_none_iff_exists'.mp h
  exact alB ((o.own j hj i).mp hi)
 ·intro h z
  obtain⟨i,hi,e2⟩:=alJ h
  have:=(o.own j hj i).mpr (by rw [alb hi,e2])
  rw [z] at this
  cases this
noncomputable def aeC (mask:Nat):Option (Array (Option Nat)×Nat)->Int->Option (Array (Option Nat)×Nat):=fun acc h=>do
  let (owner,k) <- acc
  let j <- layClean.free mask owner (turns mask) (bits h % (mask+1)) (bits h)
  pure (owner.setIfInBounds j (some k),k+1)
theorem agY {mask:Nat} (g:jf (mask+1)=true) {ow:Array (Option Nat)} {hs:List Int} {sl:List Nat} (o:OwnT mask ow hs sl) (hm:hs.length<=mask) (h:Int) :
  ∃ ow' sl',aeC mask (some (ow,hs.length)) h=some (ow',hs.length+1)/\OwnT mask ow' (hs++[h]) sl':=by
 obtain⟨j,hj,nj⟩:∃ j,j<=mask/\j∉sl:=by
  refine amz fun no=>?_
  have sub:alo (mask+1) ⊆ sl:=fun j hj=>amz fun z=>no ⟨j,aoh.mp (alQ.mp hj),z⟩
  have:=List.Nodup.length_le_of_subset anx sub
  rw [alS,o.len] at this
  omega
 obtain⟨r,hr,e⟩:=aez g (i:=(lp mask h 13).1) (j:=j) (anT (acI mask h 13)) (anT hj)
 obtain⟨E,_,e2,e3,e4⟩:=aeB (ow:=ow) (turns mask) 0 0 (abz mask h) ⟨13+r,alD _,by unfold turns;omega,by rw [adJ,e,o.occ hj];exact nj⟩
 have e3':pos mask h E∉sl:=fun z=>e3 ((o.occ (abC mask h E)).mpr z)
 have e2':∀ q,q<E->pos mask h q∈sl:=fun q hq=>(o.occ (abC mask h q)).mp (e2 q (alD _) hq)
 have e4':layClean.free mask ow (turns mask) (bits h % (mask+1)) (bits h)=some (pos mask h E):=e4
 refine⟨ow.setIfInBounds (pos mask h E) (some hs.length),sl++[pos mask h E],?_,?_⟩
 ·show (layClean.free mask ow (turns mask) (bits h % (mask+1)) (bits h) >>= fun j=>pure (ow.setIfInBounds j (some hs.length),hs.length+1))=_
  rw [e4']
  rfl
 ·have ls:∀ i,(sl++[pos mask h E])[i]?=if i<sl.length then sl[i]? else if i=sl.length then some (pos mask h E) else none:=fun i=>by
   by_cases c:i<sl.length
   ·rw [if_pos c,alk c]
   ·rw [if_neg c,alj (by omega)]
    by_cases c2:i=sl.length
    ·rw [if_pos c2,c2,ank];rfl
    ·rw [if_neg c2];exact alN (by simp;omega)
  refine⟨by rw [Array.size_setIfInBounds];exact o.size,by simp [o.len],?_,fun j hj=>?_,fun j hj i=>?_,fun i hi=>?_⟩
  ·rw [am4]
   refine⟨o.nd,by simp,fun a ha b hb=>?_⟩
   rw [alK.mp hb]
   intro z
   rw [z] at ha
   exact e3' ha
  ·rcases alM.mp hj with hj | hj
   ·exact o.le j hj
   ·rw [alK.mp hj];exact abC _ _ _
  ·have hsz:j<ow.size:=by rw [o.size];omega
   rw [ls]
   by_cases c:j=pos mask h E
   ·subst c
    have:(ow.setIfInBounds (pos mask h E) (some hs.length)).getD (pos mask h E) none=some hs.length:=by simp [amT,hsz]
    rw [this]
    constructor
    ·intro z
     have z':hs.length=i:=Option.some.inj z
     rw [if_neg (by rw [o.len];omega),if_pos (by rw [o.len];omega)]
    ·intro z
     by_cases c2:i<sl.length
     ·rw [if_pos c2] at z
      exact absurd (alB z) e3'
     ·rw [if_neg c2] at z
      by_cases c3:i=sl.length
      ·rw [c3,o.len]
      ·rw [if_neg c3] at z;cases z
   ·have:(ow.setIfInBounds (pos mask h E) (some hs.length)).getD j none=ow.getD j none:=by
     rw [amP,amP,Array.getElem?_setIfInBounds_ne (amF c)]
    rw [this,o.own j hj i]
    by_cases c2:i<sl.length
    ·rw [if_pos c2]
    ·rw [if_neg c2]
     constructor
     ·intro z
      rw [alN (by omega)] at z
      cases z
     ·intro z
      by_cases c3:i=sl.length
      ·rw [if_pos c3] at z
       exact absurd (Option.some.inj z).symm c
      ·rw [if_neg c3] at z;cases z
  ·have gl:∀ i,(hs++[h]).getD i 0=if i<hs.length then hs.getD i 0 else if i=hs.length then h else 0:=fun i=>by
    by_cases c:i<hs.length
    ·rw [if_pos c,alh,alk c,alh]
    ·rw [if_neg c,alh,alj (by omega)]
     by_cases c2:i=hs.length
     ·rw [if_pos c2,c2,ank];rfl
     ·rw [if_neg c2,alN (by simp;omega)];rfl
   rw [alr,amn] at hi
   have gs:(sl++[pos mask h E]).getD i 0=((sl++[pos mask h E])[i]?).getD 0:=alh ..
   rw [gl,gs,ls]
   by_cases c:i<hs.length
   ·rw [if_pos c,if_pos (by rw [o.len];exact c)]
    obtain⟨q,a,b⟩:=o.reach i c
    exact⟨q,by rw [<-alh];exact a,fun q' hq=>al8 _ (b q' hq)⟩
   ·rw [if_neg c,if_pos (by omega),if_neg (by rw [o.len];omega),if_pos (by rw [o.len];omega)]
    exact⟨E,rfl,fun q' hq=>al8 _ (e2' q' hq)⟩
theorem aeD {mask:Nat} (g:jf (mask+1)=true):∀ (l:List Int) (ow:Array (Option Nat)) (hs:List Int) (sl:List Nat),OwnT mask ow hs sl->hs.length+l.length<=mask+1 ->
  ∃ ow' sl',l.foldl (aeC mask) (some (ow,hs.length))=some (ow',hs.length+l.length)/\OwnT mask ow' (hs++l) sl'
 | [],ow,hs,sl,o,_=>⟨ow,sl,rfl,by rw [al4];exact o⟩
 | h :: l,ow,hs,sl,o,hm=>by
  rw [alC] at hm
  obtain⟨ow1,sl1,e1,o1⟩:=agY g o (by omega) h
  obtain⟨ow2,sl2,e2,o2⟩:=aeD g l ow1 (hs++[h]) sl1 o1 (by rw [alr,amn];omega)
  refine⟨ow2,sl2,?_,by rw [alH] at o2;exact o2⟩
  rw [List.foldl_cons,e1]
  rw [alr,amn] at e2
  rw [e2,alC,aoc,Nat.add_comm 1]
theorem aik (mask:Nat):OwnT mask (aoj (mask+1) none) [] [] where
 size:=by simp
 len:=rfl
 nd:=.nil
 le:=fun _ h=>nomatch h
 own:=fun j hj i=>by
  have:(aoj (mask+1) (none:Option Nat)).getD j none=none:=by simp [amT]
  rw [this]
  constructor <;> intro z <;> cases z
 reach:=fun i hi=>absurd hi (amL _)
theorem agZ {mask:Nat} (g:jf (mask+1)=true) (hs:Array Int) (hm:hs.size<=mask+1):∃ ow sl,layClean mask hs=some ow/\OwnT mask ow hs.toList sl:=by
 obtain⟨ow,sl,e,o⟩:=aeD g hs.toList _ [] [] (aik mask) (by simpa using hm)
 refine⟨ow,sl,?_,by simpa using o⟩
 unfold layClean
 rw [<-Array.foldl_toList]
 have:hs.toList.foldl (aeC mask) (some (aoj (mask+1) none,0))=some (ow,0+hs.toList.length):=e
 show Option.map _ (hs.toList.foldl (aeC mask) (some (aoj (mask+1) none,0)))=_
 rw [this]
 rfl
theorem laid_ok {mask:Nat} (mk:mask=7 \/ mask=31 \/ mask=127 \/ mask=511) (hs:Array Int) (hm:hs.size<=mask) (finger moves:Nat) (led plain:Bool) :
  ∃ t ord,laid mask finger moves led plain hs=some (t,ord)/\t.mask=mask/\t.plain=plain/\t.led=led/\ord.toList.Perm (alo hs.size)/\TB t (ord.toList.map fun i=>hs.toList.getD i 0):=by
 have g:jf (mask+1)=true:=by
  rcases mk with rfl | rfl | rfl | rfl
  ·exact aey
  ·exact acK
  ·exact aa0
  ·exact aa1
 obtain⟨ow,sl,e,o⟩:=agZ g hs (by omega)
 let live:=(alo (mask+1)).filterMap fun j=>(ow.getD j none).map (j,·)
 have mem:∀ p:Nat×Nat,p∈live↔p.1<=mask/\sl[p.2]?=some p.1:=fun⟨j,i⟩=>by
  show (j,i)∈List.filterMap _ _↔_
  rw [aos]
  constructor
  ·rintro⟨j',hj,e⟩
   have hj':=aoh.mp (alQ.mp hj)
   cases e2:ow.getD j' none with
   | none=>rw [e2] at e;cases e
   | some i' =>
    rw [e2] at e
    cases e
    exact⟨hj',(o.own _ hj' _).mp e2⟩
  ·rintro⟨h1,h2⟩
   refine⟨j,alQ.mpr (by omega),?_⟩
   rw [(o.own j h1 i).mpr h2]
   rfl
 have up:(live.map (·.1)).Pairwise (·<·):=by
  rw [amI]
  show (List.filterMap _ _).Pairwise _
  rw [List.pairwise_filterMap]
  refine List.pairwise_lt_range.imp fun {a b} hab p hp q hq=>?_
  cases e1:ow.getD a none with
  | none=>rw [e1] at hp;cases hp
  | some i =>
   cases e2:ow.getD b none with
   | none=>rw [e2] at hq;cases hq
   | some i2 =>
    rw [e1] at hp
    rw [e2] at hq
    cases hp
    cases hq
    exact hab
 have nd2:(live.map (·.2)).Nodup:=by
  show List.Pairwise _ _
  rw [amI]
  have u2:=amI.mp up
  refine u2.imp_of_mem fun {p q} hp hq hlt hz=>?_
  have a1:=((mem p).mp hp).2
  have a2:=((mem q).mp hq).2
  rw [hz,a2] at a1
  have:=Option.some.inj a1
  omega
 have pm:(live.map (·.2)).Perm (alo hs.size):=by
  refine (aov nd2 anx).mpr fun i=>?_
  have ls:sl.length=hs.size:=by rw [o.len,aly]
  constructor
  ·intro hi
   obtain⟨p,hp,rfl⟩:=alF.mp hi
   have:=(alf.mp ((mem p).mp hp).2).1
   exact alQ.mpr (by omega)
  ·intro hi
   have hi':=alQ.mp hi
   have hl:i<sl.length:=by omega
   exact alF.mpr ⟨(sl[i],i),(mem _).mpr ⟨o.le _ (alc hl),alb hl⟩,rfl⟩
 refine⟨_,_,by unfold laid;rw [e];rfl,rfl,rfl,rfl,pm,?_⟩
 have ln:live.length=hs.size:=by have:=pm.length_eq;rwa [ale,alS] at this
 have tk:∀ j,j∈sl->∃ i,i<live.length/\(live.map (·.1)).getD i 0=j:=fun j hj=>by
  obtain⟨i,hi,e2⟩:=alJ hj
  have:(j,i)∈live:=(mem _).mpr ⟨o.le j hj,by rw [alb hi,e2]⟩
  obtain⟨q,hq,e3⟩:=alJ this
  exact⟨q,hq,by rw [alh,alv,alb hq,e3];rfl⟩
 have gd:∀ i,(live.map (·.1)).toArray.getD i 0=(live.map (·.1)).getD i 0:=fun i=>by rw [q9]
 refine⟨mk,rfl,fun i j hij hj=>?_,fun i hi=>?_,?_,?_,fun i hi=>?_⟩
 ·show (live.map (·.1)).toArray.getD i 0<(live.map (·.1)).toArray.getD j 0
  have hj':j<(live.map (·.1)).length:=by
   have h2:j<(live.map (·.1)).toArray.size:=hj
   rwa [alA] at h2
  rw [gd,gd,alh,alh,alb hj',alb (show i<(live.map (·.1)).length by omega)]
  exact alZ.mp up i j (by omega) hj' hij
 ·show (live.map (·.1)).toArray.getD i 0<=mask
  have hi':i<(live.map (·.1)).length:=by
   have h2:i<(live.map (·.1)).toArray.size:=hi
   rwa [alA] at h2
  rw [gd,alh,alb hi']
  obtain⟨p,hp,e2⟩:=alF.mp (alc hi')
  show (live.map (·.1))[i]<=mask
  rw [<-e2]
  exact ((mem p).mp hp).1
 ·show (live.map (·.1)).toArray.size=_
  simp
 ·show (anU _ (live.map (·.2))).length<=mask
  rw [ale,ale,ln]
  exact hm
 ·have hi':i<live.length:=by
   have hi2:i<(anU (fun i=>hs.toList.getD i 0) (live.map (·.2))).length:=hi
   rwa [ale,ale] at hi2
  have pl:(live.map (·.1)).toArray.getD i 0=live[i].1:=by
   rw [gd,alh,alv,alb hi']
   rfl
  have hh:(anU (fun i=>hs.toList.getD i 0) (live.map (·.2))).getD i 0=hs.toList.getD live[i].2 0:=by
   rw [alh,alv,alv,alb hi']
   rfl
  have m2:=(mem live[i]).mp (alc hi')
  have l2:=(alf.mp m2.2).1
  obtain⟨q,a,b⟩:=o.reach live[i].2 (by rw [<-o.len];exact l2)
  refine⟨q,?_,fun q' hq=>?_⟩
  ·show pos mask ((anU (fun i=>hs.toList.getD i 0) (live.map (·.2))).getD i 0) q=(live.map (·.1)).toArray.getD i 0
   rw [hh,pl,a,alh,m2.2]
   rfl
  ·show Tk _ (pos mask ((anU (fun i=>hs.toList.getD i 0) (live.map (·.2))).getD i 0) q')
   rw [hh]
   obtain⟨z,hz,ez⟩:=tk _ (b q' hq)
   exact⟨z,by show z<(live.map (·.1)).toArray.size;simpa using hz,by show (live.map (·.1)).toArray.getD z 0=_;rw [gd];exact ez⟩
end L2.ST
end
section
namespace L2
open PySem PySem.Spec PyProof.Rows
mutual
noncomputable def zo (w:World):PyData->Int
 | .int i=>hashInt i
 | .str x=>hashStr w x
 | .tuple xs=>reduceHash (amX (jY w xs))
 | _=>0
noncomputable def jY (w:World):List PyData->List Int
 | []=>[]
 | x :: xs=>zo w x :: jY w xs
end
mutual
noncomputable def zR:PyData->Nat
 | .int _=>1
 | .str _=>1
 | .tuple xs=>aap xs+1
 | _=>0
noncomputable def aap:List PyData->Nat
 | []=>0
 | x :: xs=>zR x+aap xs
end
mutual
theorem aaq {P:Program} {w:World}:∀ (d:PyData) (A:Around) (s:Shared) (v:Value) (as:List Addr) (E:Value->Shared->Prop) (Q:Int->Shared->Prop),Reads s.heap v d as->zt d=true->A.units+4 * d.depth<cLine ->
  Q (zo w d) { s with toks:=s.toks+zR d }->wpAny (model P w) A (pyHash v) Q E s
 | .int i,A,s,_,_,E,Q,r,_,_,q=>by
  cases r
  rw [zo,zR] at q
  exact wpAny_pyHash_int q
 | .str x,A,s,_,_,E,Q,r,_,_,q=>by
  cases r
  rw [zo,zR] at q
  exact wpAny_pyHash_str q
 | .tuple xs,A,s,_,_,E,Q,r,p,hu,q=>by
  cases r with
  | @tuple a o vs n _ as h1 h2 h3 h4 =>
   rw [zt] at p
   rw [zo,zR] at q
   have hT:s.TypeIs (.ref a) "tuple":=⟨o,h1,h2⟩
   have e1:(PyData.tuple xs).depth=aln xs+1:=rfl
   rw [e1] at hu
   show wpAny _ A (pyHashByItsType (.ref a)) Q E s
   unfold pyHashByItsType
   apply wpAny_bind;apply wpAny_cRoomFor_or (.inr (by omega))
   apply wpAny_bind;apply wpAny_specialOf hT amJ.lookup
   show wpAny _ _ (if (some (Value.builtin "tuple.__hash__") == some Value.none)=true then _ else _) Q E s
   rw [if_neg (by rw [beq_builtin_none];exact ald)]
   apply wpAny_bind;apply wpAny_specialOf hT amJ.lookup
   show wpAny _ _ (callSpecialIfBoundUnlessNone? (.ref a) "__hash__" _ >>= _) Q E s
   apply wpAny_bind
   refine wpAny_callSpecialIfBoundUnlessNone?_slot hT amJ (wpAny_call_entry amJ hT PySem.F.entry_tuple_hash ?_ (PySem.F.args_tuple_hash_1 _))
   show wpAny _ _ (Builtin.Tuple.tupleItemsOf (.ref a) >>= _) _ _ s
   apply wpAny_bind;apply wpAny_tupleItemsOf h1 h3
   apply wpAny_bind
   rw [<-anJ]
   have hu1:A.in1.units=A.units+1:=rfl
   refine aar xs A.in1 s vs.toList _ #[] _ _ h4 p (by omega) ?_
   simp only [al4,aog]
   show wpAny _ _ (retInt (amX (#[]++(jY w xs).toArray).toList)) _ _ _
   rw [show (#[]++(jY w xs).toArray:Array Int).toList=jY w xs by simp]
   refine wpAny_ret_mkInt ?_
   show wpAny _ _ (pyHashByItsType.reduced _) Q E _
   unfold reduceHash at q
   unfold pyHashByItsType.reduced
   by_cases hr:(decide (-(2:Int) ^ 63<=amX (jY w xs)) && decide (amX (jY w xs)<2 ^ 63))=true
   ·rw [if_pos hr] at q ⊢
    exact wpAny_pure (by simpa [aoc] using q)
   ·rw [if_neg hr] at q ⊢
    exact wpAny_bind (wpAny_rule (wpAny_pure (by simpa [aoc] using q)))
 | .none,_,_,_,_,_,_,_,h,_,_=>by cases h
 | .bool _,_,_,_,_,_,_,_,h,_,_=>by cases h
 | .list _,_,_,_,_,_,_,_,h,_,_=>by cases h
 | .dict _,_,_,_,_,_,_,_,h,_,_=>by cases h
theorem aar {P:Program} {w:World}:∀ (xs:List PyData) (A:Around) (s:Shared) (vs:List Value) (as:List Addr) (acc:Array Int) (E:Value->Shared->Prop) (Q:Array Int->Shared->Prop),ReadsAll s.heap vs xs as->zF xs=true->A.units+4 * aln xs<cLine ->
  Q (acc++(jY w xs).toArray) { s with toks:=s.toks+aap xs }->wpAny (model P w) A (forIn vs acc fun x r=>do
   let h <- pyHash x
   pure (ForInStep.yield (r.push h))) Q E s
 | [],A,s,_,_,acc,E,Q,r,_,_,q=>by
  cases r
  rw [anO]
  rw [jY,aap] at q
  exact wpAny_pure (by simpa using q)
 | x :: xs,A,s,_,_,acc,E,Q,r,p,hu,q=>by
  cases r with
  | cons r1 r2 =>
   rw [zF,alu] at p
   rw [jY,aap] at q
   have e1:aln (x :: xs)=max x.depth (aln xs):=rfl
   rw [e1] at hu
   rw [anI]
   apply wpAny_bind;apply wpAny_bind
   refine aaq x A s _ _ _ _ r1 p.1 (by omega) (wpAny_pure ?_)
   refine aar xs A { s with toks:=s.toks+zR x } _ _ _ _ _ r2 p.2 (by omega) ?_
   have e2:acc.push (zo w x)++(jY w xs).toArray=acc++(zo w x :: jY w xs).toArray:=by simp
   rw [e2]
   rw [<-aoc] at q
   exact q
end
mutual
theorem jo {P:Program} {w:World}:∀ (d:PyData) (n:Nat) (A:Around) (s:Shared) (v:Value) (as:List Addr) (E:Value->Shared->Prop) (Q:Bool->Shared->Prop),Reads s.heap v d as->zt d=true->d.depth<=n->Q true s->wpAny (model P w) A (eqIsQuiet n v) Q E s
 | .int i,n,A,s,_,_,E,Q,r,_,_,q=>by
  cases r
  rw [eqIsQuiet_byValue n rfl]
  exact wpAny_pure q
 | .str x,n,A,s,_,_,E,Q,r,_,_,q=>by
  cases r
  rw [eqIsQuiet_byValue n rfl]
  exact wpAny_pure q
 | .tuple xs,n,A,s,_,_,E,Q,r,p,hn,q=>by
  cases r with
  | @tuple a o vs n' _ as h1 h2 h3 h4 =>
   rw [zt] at p
   have e1:(PyData.tuple xs).depth=aln xs+1:=rfl
   rw [e1] at hn
   obtain⟨m,rfl⟩:∃ m,n=m+1:=⟨n - 1,by omega⟩
   have hT:s.TypeIs (.ref a) "tuple":=⟨o,h1,h2⟩
   unfold eqIsQuiet
   apply wpAny_bind;apply wpAny_specialOf hT PySem.F.slot_tuple_eq.lookup
   show wpAny _ _ (isInstance (.ref a) (.type "tuple") >>= _) _ _ s
   apply wpAny_bind;apply wpAny_isInstance hT isSubtype_tuple_tuple
   simp only [amb,al5,if_false]
   apply wpAny_bind;apply wpAny_seqItems h1 h3
   apply wpAny_bind
   show wpAny _ _ (forIn vs _ _) _ _ s
   rw [<-anJ]
   exact vI xs m A s _ _ _ _ h4 p (by omega) (wpAny_pure q)
 | .none,_,_,_,_,_,_,_,_,h,_,_=>by cases h
 | .bool _,_,_,_,_,_,_,_,_,h,_,_=>by cases h
 | .list _,_,_,_,_,_,_,_,_,h,_,_=>by cases h
 | .dict _,_,_,_,_,_,_,_,_,h,_,_=>by cases h
theorem vI {P:Program} {w:World}:∀ (xs:List PyData) (m:Nat) (A:Around) (s:Shared) (vs:List Value) (as:List Addr) (E:Value->Shared->Prop) (Q:Option Bool×Unit->Shared->Prop),ReadsAll s.heap vs xs as->zF xs=true->aln xs<=m->Q (none,()) s ->
  wpAny (model P w) A (forIn vs ((none,()):Option Bool×Unit) fun y _=>do
   let b <- eqIsQuiet m y
   if (!b)=true then pure (ForInStep.done (some false,())) else pure (ForInStep.yield (none,()))) Q E s
 | [],m,A,s,_,_,E,Q,r,_,_,q=>by
  cases r
  rw [anO]
  exact wpAny_pure q
 | x :: xs,m,A,s,_,_,E,Q,r,p,hn,q=>by
  cases r with
  | cons r1 r2 =>
   rw [zF,alu] at p
   have e1:aln (x :: xs)=max x.depth (aln xs):=rfl
   rw [e1] at hn
   rw [anI]
   apply wpAny_bind;apply wpAny_bind
   refine jo x m A s _ _ _ _ r1 p.1 (by omega) ?_
   simp only [amb,al5,if_false]
   exact wpAny_pure (vI xs m A s _ _ _ _ r2 p.2 (by omega) q)
end
mutual
theorem vw {P:Program} {w:World}:∀ (d:PyData) (n:Nat) (A:Around) (s:Shared) (v:Value) (as:List Addr) (E:Value->Shared->Prop) (Q:Bool->Shared->Prop),Reads s.heap v d as->zt d=true->d.depth<=n->Q false s->wpAny (model P w) A (ofAClassStatement n v) Q E s
 | .int i,n,A,s,_,_,E,Q,r,_,_,q=>by
  cases r
  unfold ofAClassStatement
  exact wpAny_pure q
 | .str x,n,A,s,_,_,E,Q,r,_,_,q=>by
  cases r
  unfold ofAClassStatement
  exact wpAny_pure q
 | .tuple xs,n,A,s,_,_,E,Q,r,p,hn,q=>by
  cases r with
  | @tuple a o vs n' _ as h1 h2 h3 h4 =>
   rw [zt] at p
   have e1:(PyData.tuple xs).depth=aln xs+1:=rfl
   rw [e1] at hn
   obtain⟨m,rfl⟩:∃ m,n=m+1:=⟨n - 1,by omega⟩
   have hT:s.TypeIs (.ref a) "tuple":=⟨o,h1,h2⟩
   unfold ofAClassStatement
   apply wpAny_bind;apply wpAny_typeOf hT
   dsimp only
   rw [if_pos (show ("tuple" == "tuple")=true from rfl)]
   apply wpAny_bind;apply wpAny_pure
   simp only [amb,al5,if_false]
   apply wpAny_bind;apply wpAny_seqItems h1 h3
   dsimp only
   apply wpAny_bind
   rw [<-anJ]
   exact aa2 xs m A s _ _ _ _ h4 p (by omega) (wpAny_pure q)
 | .none,_,_,_,_,_,_,_,_,h,_,_=>by cases h
 | .bool _,_,_,_,_,_,_,_,_,h,_,_=>by cases h
 | .list _,_,_,_,_,_,_,_,_,h,_,_=>by cases h
 | .dict _,_,_,_,_,_,_,_,_,h,_,_=>by cases h
theorem aa2 {P:Program} {w:World}:∀ (xs:List PyData) (m:Nat) (A:Around) (s:Shared) (vs:List Value) (as:List Addr) (E:Value->Shared->Prop) (Q:Option Bool×Unit->Shared->Prop),ReadsAll s.heap vs xs as->zF xs=true->aln xs<=m->Q (none,()) s ->
  wpAny (model P w) A (forIn vs ((none,()):Option Bool×Unit) fun y _=>do
   let b <- ofAClassStatement m y
   if b=true then pure (ForInStep.done (some true,())) else pure (ForInStep.yield (none,()))) Q E s
 | [],m,A,s,_,_,E,Q,r,_,_,q=>by
  cases r
  rw [anO]
  exact wpAny_pure q
 | x :: xs,m,A,s,_,_,E,Q,r,p,hn,q=>by
  cases r with
  | cons r1 r2 =>
   rw [zF,alu] at p
   have e1:aln (x :: xs)=max x.depth (aln xs):=rfl
   rw [e1] at hn
   rw [anI]
   apply wpAny_bind;apply wpAny_bind
   refine vw x m A s _ _ _ _ r1 p.1 (by omega) ?_
   simp only [al5,if_false]
   exact wpAny_pure (aa2 xs m A s _ _ _ _ r2 p.2 (by omega) q)
end
mutual
theorem vJ {P:Program} {w:World}:∀ (d:PyData) (n:Nat) (A:Around) (s:Shared) (v:Value) (as:List Addr) (E:Value->Shared->Prop) (Q:Bool->Shared->Prop),Reads s.heap v d as->zt d=true->(∀ b,Q b s)->wpAny (model P w) A (hashByValue n v) Q E s
 | .int i,n,A,s,_,_,E,Q,r,_,q=>by
  cases r
  unfold hashByValue
  exact wpAny_pure (q _)
 | .str x,n,A,s,_,_,E,Q,r,_,q=>by
  cases r
  unfold hashByValue
  exact wpAny_pure (q _)
 | .tuple xs,n,A,s,_,_,E,Q,r,p,q=>by
  cases r with
  | @tuple a o vs n' _ as h1 h2 h3 h4 =>
   rw [zt] at p
   have hT:s.TypeIs (.ref a) "tuple":=⟨o,h1,h2⟩
   cases n with
   | zero =>
    unfold hashByValue
    exact wpAny_pure (q _)
   | succ m =>
    unfold hashByValue
    apply wpAny_bind;apply wpAny_specialOf hT amJ.lookup
    show wpAny _ _ (seqItems? (.ref a) >>= _) _ _ s
    apply wpAny_bind;apply wpAny_seqItems h1 h3
    apply wpAny_bind
    show wpAny _ _ (forIn vs _ _) _ _ s
    rw [<-anJ]
    exact vK xs m A s _ _ _ _ h4 p (wpAny_pure (q _)) fun b=>wpAny_pure (q b)
 | .none,_,_,_,_,_,_,_,_,h,_=>by cases h
 | .bool _,_,_,_,_,_,_,_,_,h,_=>by cases h
 | .list _,_,_,_,_,_,_,_,_,h,_=>by cases h
 | .dict _,_,_,_,_,_,_,_,_,h,_=>by cases h
theorem vK {P:Program} {w:World}:∀ (xs:List PyData) (m:Nat) (A:Around) (s:Shared) (vs:List Value) (as:List Addr) (E:Value->Shared->Prop) (Q:Option Bool×Unit->Shared->Prop),ReadsAll s.heap vs xs as->zF xs=true->Q (none,()) s->(∀ b,Q (some b,()) s) ->
  wpAny (model P w) A (forIn vs ((none,()):Option Bool×Unit) fun y _=>do
   let b <- hashByValue m y
   if (!b)=true then pure (ForInStep.done (some false,())) else pure (ForInStep.yield (none,()))) Q E s
 | [],m,A,s,_,_,E,Q,r,_,q,_=>by
  cases r
  rw [anO]
  exact wpAny_pure q
 | x :: xs,m,A,s,_,_,E,Q,r,p,q,q2=>by
  cases r with
  | cons r1 r2 =>
   rw [zF,alu] at p
   rw [anI]
   apply wpAny_bind;apply wpAny_bind
   refine vJ x m A s _ _ _ _ r1 p.1 fun b=>?_
   cases b with
   | true =>
    simp only [amb,al5,if_false]
    exact wpAny_pure (vK xs m A s _ _ _ _ r2 p.2 q q2)
   | false =>
    simp only [aow,if_true]
    exact wpAny_pure (wpAny_pure (q2 false))
end
noncomputable instance decPy:DecidableEq PyData:=fun a b=>amq _
structure KeyAt (h:Heap) (d:PyData) (a:Addr):Prop where
 rd:∃ as,Reads h (.ref a) d as
 pl:zt d=true
 dp:d.depth<=8
theorem KeyAt.keep {h h':Heap} {d:PyData} {a:Addr} (x:KeyAt h d a) (k:∀ b o,h.get? b=some o->(∀ es ep,o.data≠.dict es ep)->(∀ es ep t,o.data≠.set es ep t)->h'.get? b=some o):KeyAt h' d a:=by
 obtain⟨⟨as,r⟩,p,q⟩:=x
 refine⟨?_,p,q⟩
 have go:(∀ (d:PyData) (v:Value) (as:List Addr),Reads h v d as->zt d=true->Reads h' v d as):=by
  intro d v as r
  refine Reads.rec (motive_1:=fun v d as _=>zt d=true->Reads h' v d as) (motive_2:=fun vs ds as _=>zF ds=true->ReadsAll h' vs ds as) ?_ ?_ ?_ ?_ ?_ ?_ ?_ ?_ ?_ r
  ·intro p;cases p
  ·intro b p;cases p
  ·intro i t p;exact .int i t
  ·intro x t p;exact .str x t
  ·intro a o vs n xs as h1 h2 h3 h4 ih p;cases p
  ·intro a o vs n xs as h1 h2 h3 h4 ih p
   rw [zt] at p
   exact .tuple (k a o h1 (fun es ep z=>by rw [h3] at z;cases z) (fun es ep t z=>by rw [h3] at z;cases z)) h2 h3 (ih p)
  ·intros;rename_i p;cases p
  ·intro p;exact .nil
  ·intro v vs d ds as bs r rs ih1 ih2 p
   rw [zF,alu] at p
   exact .cons (ih1 p.1) (ih2 p.2)
 exact⟨as,go d _ as r p⟩
noncomputable def vT (P:Program) (w:World):HeapKind P w PyData where
 is:=KeyAt
 hash:=zo w
 draws:=zR
 room:=fun A=>A.units+40<cLine
 inj:=fun {h a x y} hx hy=>by
  obtain⟨⟨as,r⟩,p,_⟩:=hx
  obtain⟨⟨bs,r'⟩,p',_⟩:=hy
  exact SeqAt.Reads.unique _ _ _ _ _ (yq x p) r r'
 keeps:=fun {h h' k a d o es ep} x ho hd sb=>x.keep fun b u hb n1 n2=>by
  have:b≠d:=fun z=>by
   rw [z,ho] at hb
   cases hb
   exact n1 es ep hd
  exact (sb.2 b this).trans hb
 pyHash:=fun {A E s k a Q} hu x q=>by
  obtain⟨⟨as,r⟩,p,hd⟩:=x
  exact aaq k A s _ as E Q r p (by omega) q
 eqBool:=fun {A E s x y a b Q} hu hx hy q=>by
  obtain⟨⟨as,r⟩,p,hd⟩:=hx
  obtain⟨⟨bs,r'⟩,p',hd'⟩:=hy
  refine SeqAt.eqAt_reads x y A s _ _ _ _ r r' (yq x p) (yq y p') (by omega) P w E Q ?_
  have:alW x y=decide (x=y):=by
   by_cases e:x=y
   ·rw [decide_eq_true e];exact (vS p p').mpr e
   ·rw [decide_eq_false e]
    cases z:alW x y with
    | false=>rfl
    | true=>exact absurd ((vS p p').mp z) e
  rw [this]
  exact q
 quiet:=fun {A E s k a Q} x q=>by
  obtain⟨⟨as,r⟩,p,hd⟩:=x
  exact jo k 8 A s _ as E Q r p hd q
end L2
end
section
namespace L2
open PySem PySem.Spec PyProof.Rows PySem.SetTable
section
variable {P:Program} {w:World} {A:Around} {E:Value->Shared->Prop} {s:Shared}
theorem ail {b:Addr} {d:PyData} {Q:Bool->Shared->Prop} (kb:KeyAt s.heap d b):∀ l:List Value,(∀ y∈l,∃ d' b',y=.ref b'/\KeyAt s.heap d' b')->Q false s->wpAny (model P w) A (searchCouldBeSeen (.ref b) l) Q E s:=by
 intro l hl q
 unfold searchCouldBeSeen
 apply wpAny_bind
 refine wpAny_forIn_list _ (fun rest r s'=>r=(none,())/\s'=s/\∀ y∈rest,y∈l) _ ?_ ?_ _ _ ⟨rfl,rfl,fun _ h=>h⟩
 ·rintro y rest r s' ⟨rfl,rfl,hm⟩
  obtain⟨d',b',rfl,kb'⟩:=hl y (hm y als)
  obtain⟨⟨as,rd⟩,pd,dd⟩:=id kb
  obtain⟨⟨bs,rd'⟩,pd',dd'⟩:=id kb'
  have more:∀ z∈rest,z∈l:=fun z hz=>hm z (alm _ hz)
  dsimp only
  split
  ·exact wpAny_pure ⟨rfl,rfl,more⟩
  ·apply wpAny_bind
   refine jo d 8 A _ _ as _ _ rd pd dd ?_
   simp only [amb,al5,if_false]
   apply wpAny_bind
   refine jo d' 8 A _ _ bs _ _ rd' pd' dd' ?_
   simp only [amb,al5,if_false]
   apply wpAny_bind
   refine vw d 8 A _ _ as _ _ rd pd dd ?_
   simp only [al5,if_false]
   apply wpAny_bind
   refine vw d' 8 A _ _ bs _ _ rd' pd' dd' ?_
   simp only [al5,if_false]
   exact wpAny_pure ⟨rfl,rfl,more⟩
 ·rintro r s' ⟨rfl,rfl,_⟩
  exact wpAny_pure q
structure SetObj (w:World) (h:Heap) (a:Addr) (xs:List (PyData×Addr)) (o:Obj) (es:Array (Int×Value)) (ep:Nat) (t:SetTable):Prop where
 ob:h.get? a=some o
 ex:o.ExactSet
 da:o.data=.set es ep t
 el:es.toList=xs.map fun x=>(zo w x.1,Value.ref x.2)
 ok:ST.TOk t (xs.map fun x=>zo w x.1)
theorem SetObj.size {h:Heap} {a:Addr} {xs:List (PyData×Addr)} {o:Obj} {es:Array (Int×Value)} {ep:Nat} {t:SetTable} (x:SetObj w h a xs o es ep t):es.size=xs.length:=by
 rw [<-aly,x.el,ale]
theorem SetObj.fits {h:Heap} {a:Addr} {xs:List (PyData×Addr)} {o:Obj} {es:Array (Int×Value)} {ep:Nat} {t:SetTable} (x:SetObj w h a xs o es ep t):t.fits es.size=true:=by
 unfold SetTable.fits aph
 have h1:=x.ok.size
 have h2:=x.ok.most
 rw [ale] at h1 h2
 rw [x.size,h1,x.ok.dum]
 simp
 exact h2
theorem SetObj.at {h:Heap} {a:Addr} {xs:List (PyData×Addr)} {o:Obj} {es:Array (Int×Value)} {ep:Nat} {t:SetTable} (x:SetObj w h a xs o es ep t) {i:Nat} (hi:i<xs.length):es[i]?=some (zo w xs[i].1,Value.ref xs[i].2):=by
 rw [<-aoY,x.el,alv,alb hi]
 rfl
theorem ag0 {t:SetTable} {hs:List Int} (o:ST.TOk t hs):t.gaveWay=false:=by
 unfold SetTable.gaveWay
 rcases o.mask with e | e | e | e <;> rw [e] <;> rfl
theorem ag1 {α:Type} {M:Model} {c:Bool} {m:Sem Bool} {u:Sem Unit} {r:Sem α} {Q:α->Shared->Prop} (hr:wpAny M A r Q E s) (hm:∀ R:Bool->Shared->Prop,R false s->wpAny M A m R E s) :
  wpAny M A (if c=true then (do
   let b <- m
   if b=true then do
    u
    r
   else r) else r) Q E s:=by
 cases c with
 | false=>rw [if_neg ald];exact hr
 | true =>
  rw [if_pos rfl]
  apply wpAny_bind
  refine hm _ ?_
  rw [if_neg ald]
  exact hr
theorem acN {M:Model} {a:Addr} {Q:Bool->Shared->Prop} (q:Q true s):wpAny M A (isSame (.ref a) (.ref a)) Q E s:=by
 unfold isSame
 simp only [beq_self_eq_true]
 exact wpAny_pure q
theorem vx {a b:Addr} {d:PyData} {xs:List (PyData×Addr)} {o:Obj} {es:Array (Int×Value)} {ep:Nat} {t:SetTable} {adding:Bool} {Q:SetFound->Shared->Prop} (S:SetObj w s.heap a xs o es ep t) (ks:∀ x∈xs,KeyAt s.heap x.1 x.2)
  (kb:KeyAt s.heap d b) (hu:A.units+40<cLine) {F:Nat} (hF:ST.First t (zo w d) F) (yes:d∈xs.map (·.1)->∀ r:Option Nat,(adding=false->r.isSome=true)->Q (.there r) s) (no:d∉xs.map (·.1)->Q (.free (ST.pos t.mask (zo w d) F) false) s) :
  ∀ f k stand,k<=F->F<k+f->stand.getD (t.probeStart (zo w d))=ST.road t.mask (zo w d) k ->
   (∀ q i,q<k->i<xs.length->ST.pos t.mask (zo w d) q=t.place.getD i 0->(xs.getD i (.none,0)).1≠d) ->
   wpAny (model P w) A (setSearchFrom a (.ref b) (zo w d) adding f stand) Q E s
 | 0,k,stand,h1,h2,_,_=>by omega
 | f+1,k,stand,h1,h2,hst,past=>by
  have sz:=S.ok.size
  rw [ale] at sz
  have key:∀ g:Nat->Int,(∀ i,g i=(es[i]?.map (·.1)).getD 0) ->
    (t.probe g (zo w d) (ST.road t.mask (zo w d) k)=some (.empty (ST.pos t.mask (zo w d) F) none)/\∀ q i,k<=q->q<F->i<t.place.size->ST.pos t.mask (zo w d) q=t.place.getD i 0->g i≠zo w d) \/
    ∃ q i,k<=q/\q<F/\i<t.place.size/\ST.pos t.mask (zo w d) q=t.place.getD i 0/\g i=zo w d/\t.probe g (zo w d) (ST.road t.mask (zo w d) k)=some (.candidate (ST.pos t.mask (zo w d) q) i (ST.road t.mask (zo w d) (q+1)))/\∀ q' i',k<=q'->q'<q->i'<t.place.size->ST.pos t.mask (zo w d) q'=t.place.getD i' 0->g i'≠zo w d :=
   fun g _=>ST.probe_go S.ok.dum S.ok.rise hF (10 * turns t.mask) k h1 (by have:=hF.lt;omega)
  have gat:∀ i (hi:i<xs.length),(es[i]?.map (·.1)).getD 0=zo w xs[i].1:=fun i hi=>by rw [S.at hi];rfl
  unfold setSearchFrom
  apply wpAny_bind
  refine wpAny_setState_of S.ob S.da S.fits ?_
  dsimp only
  rw [ag0 S.ok,if_neg ald,hst]
  have reach:∀ i (hi:i<xs.length),xs[i].1=d->∃ q,q<F/\ST.pos t.mask (zo w d) q=t.place.getD i 0:=fun i hi ed=>by
   obtain⟨q,a1,a2⟩:=S.ok.reach i (by rw [ale];exact hi)
   have eh:(xs.map fun x=>zo w x.1).getD i 0=zo w d:=by
    rw [alh,alv,alb hi,<- ed]
    rfl
   rw [eh] at a1 a2
   refine⟨q,?_,a1⟩
   by_cases c:q<F
   ·exact c
   ·by_cases c2:q=F
    ·subst c2
     exact absurd ⟨i,by omega,a1.symm⟩ hF.free
    ·exact absurd (a2 F (by omega)) hF.free
  have ggd:∀ i (hi:i<xs.length),xs.getD i (.none,0)=xs[i]:=fun i hi=>by rw [alh,alb hi];rfl
  rcases key (fun i=>(es[i]?.map (·.1)).getD 0) (fun i=>rfl) with⟨e,none_⟩ | ⟨q,i,q1,q2,q3,q4,q5,e,none_⟩
  ·have ee:∀ g:Nat->Int,(∀ i,g i=(es[i]?.map (·.1)).getD 0)->t.probe g (zo w d) (ST.road t.mask (zo w d) k)=some (.empty (ST.pos t.mask (zo w d) F) none):=fun g hg=>by
    rw [show g=fun i=>(es[i]?.map (·.1)).getD 0 from funext hg]
    exact e
   rw [ee]
   rotate_left
   ·exact fun i=>rfl
   dsimp only
   refine wpAny_pure (no fun hd=>?_)
   obtain⟨x,hx,ex⟩:=alF.mp hd
   obtain⟨i,hi,ei⟩:=alJ hx
   have ed:xs[i].1=d:=by rw [ei];exact ex
   obtain⟨q,qF,qp⟩:=reach i hi ed
   by_cases c:q<k
   ·exact past q i c hi qp (by rw [ggd i hi];exact ed)
   ·exact none_ q i (by omega) qF (by omega) qp (by rw [gat i hi,ed])
  ·have ee:∀ g:Nat->Int,(∀ i,g i=(es[i]?.map (·.1)).getD 0)->t.probe g (zo w d) (ST.road t.mask (zo w d) k)=some (.candidate (ST.pos t.mask (zo w d) q) i (ST.road t.mask (zo w d) (q+1))):=fun g hg=>by
    rw [show g=fun i=>(es[i]?.map (·.1)).getD 0 from funext hg]
    exact e
   have hi:i<xs.length:=by omega
   have mi:xs[i]∈xs:=alc hi
   have ki:=ks _ mi
   rw [ee]
   rotate_left
   ·exact fun i=>rfl
   dsimp only
   refine ag1 ?_ fun R hR=>ail kb _ (fun y hy=>?_) hR
   rotate_left
   ·obtain⟨p,hp,rfl⟩:=alF.mp hy
    have hp2:p∈es.toList:=by
     have:=ans.mp hp
     exact ans.mpr (Array.mem_filter.mp this).1
    rw [S.el] at hp2
    obtain⟨x,hx,rfl⟩:=alF.mp hp2
    exact⟨x.1,x.2,rfl,ks x hx⟩
   rw [S.at hi]
   dsimp only
   apply wpAny_bind;apply wpAny_holding
   refine (vT P w).eqBool (A:=A) hu ki kb ?_
   apply wpAny_bind
   refine wpAny_setState_of S.ob S.da S.fits ?_
   dsimp only
   have same:t.sameMemory t.moves t.mask=some true:=by
    unfold SetTable.sameMemory
    rw [if_pos (beq_self_eq_true _)]
   have live:t.slot (ST.pos t.mask (zo w d) q)=.live i:=by rw [q4];exact ST.slot_live S.ok.rise q3
   by_cases ed:xs[i].1=d
   ·have y2:=yes (alF.mpr ⟨_,mi,ed⟩)
    rw [decide_eq_true ed]
    cases adding with
    | true=>exact wpAny_pure (y2 _ fun z=>nomatch z)
    | false =>
     rw [ana,if_neg ald,same]
     dsimp only
     rw [if_pos rfl,live]
     dsimp only
     rw [S.at hi]
     dsimp only
     apply wpAny_bind
     refine acN ?_
     apply wpAny_bind;apply wpAny_pure
     rw [if_pos rfl]
     dsimp only
     rw [if_pos rfl]
     exact wpAny_pure (y2 _ fun _=>rfl)
   ·rw [decide_eq_false ed,ao5,if_neg ald,same]
    dsimp only
    rw [if_pos rfl,live]
    dsimp only
    rw [S.at hi]
    dsimp only
    apply wpAny_bind
    refine acN ?_
    apply wpAny_bind;apply wpAny_pure
    rw [if_pos rfl]
    dsimp only
    rw [if_neg ald]
    refine vx S ks kb hu hF yes no f (q+1) _ (by omega) (by omega) rfl fun q' i' c1 c2 c3=>?_
    rw [ggd i' c2]
    intro z
    by_cases c4:q'<k
    ·exact past q' i' c4 c2 c3 (by rw [ggd i' c2];exact z)
    ·by_cases c5:q'=q
     ·subst c5
      have ii:i'=i:=by
       have b1:=ST.below_at S.ok.rise (i:=i) (by omega)
       have b2:=ST.below_at S.ok.rise (i:=i') (by omega)
       rw [<-q4] at b1
       rw [<-c3] at b2
       omega
      subst ii
      exact ed z
     ·exact none_ q' i' (by omega) (by omega) (by omega) c3 (by rw [gat i' c2,z])
end
end L2
end
section
namespace L2
open PySem PySem.Spec PyProof.Rows PySem.SetTable
section
variable {P:Program} {w:World} {A:Around} {E:Value->Shared->Prop} {s:Shared} {a b:Addr} {d:PyData} {xs:List (PyData×Addr)} {o:Obj} {es:Array (Int×Value)} {ep:Nat} {t:SetTable}
theorem SetObj.type (S:SetObj w s.heap a xs o es ep t):s.TypeIs (.ref a) "set":=⟨o,S.ob,S.ex.1⟩
theorem aeE (b:Addr) (es:Array (Int×Value)):byScan (.ref b) es=false:=rfl
theorem acO {Q:Bool->Shared->Prop} (S:SetObj w s.heap a xs o es ep t) (ks:∀ x∈xs,KeyAt s.heap x.1 x.2) (kb:KeyAt s.heap d b) (hu:A.units+60<cLine) (q:Q (decide (d∈xs.map (·.1))) { s with toks:=s.toks+zR d }) :
  wpAny (model P w) A (contains (.ref a) (.ref b)) Q E s:=by
 obtain⟨F,hF⟩:=ST.first_of S.ok.toTB (zo w d)
 have hl:=hF.lt
 have ht:turns t.mask<=526:=by
  unfold turns
  rcases S.ok.mask with e | e | e | e <;> omega
 unfold contains
 try with_reducible refine wpAny_holding ?_
 apply wpAny_bind;apply wpAny_specialOf S.type anC.lookup
 show wpAny _ _ (if (some (Value.builtin "set.__contains__") == some Value.none)=true then _ else _) _ E s
 rw [if_neg (by rw [beq_builtin_none];exact ald)]
 apply wpAny_bind
 refine wpAny_callSpecialUnlessNone?_slot (name:=Str.ofString "__contains__") S.type anC (wpAny_call_entry anC S.type entry_set_contains ?_ (PySem.F.args_set_contains_2 _ _))
 unfold Builtin.«frozenset.__contains__» aox
 simp only [List.isEmpty_nil,bind_assoc]
 unfold aoJ Builtin.Frozenset.withSetAsKey setContains
 apply wpAny_bind;apply wpAny_pure
 dsimp only
 apply wpAny_bind;apply wpAny_pure
 dsimp only
 apply wpAny_bind;apply wpAny_tryCatch;apply wpAny_holding
 apply wpAny_bind
 have hu1:A.in1.units=A.units+1:=rfl
 have hu2:A.in1.in1.units=A.units+1+1:=rfl
 refine (vT P w).pyHash (by show _+40<cLine;omega) kb ?_
 apply wpAny_bind
 unfold setFind setFindIn
 apply wpAny_bind
 refine wpAny_setState_of (s:={ s with toks:=s.toks+zR d }) S.ob S.da S.fits ?_
 dsimp only
 rw [aeE,if_neg ald]
 apply wpAny_bind
 unfold setSearch
 have fin:∀ r:Option Nat,r.isSome=decide (d∈xs.map (·.1))->∀ R:Value->Shared->Prop,R (.bool (decide (d∈xs.map (·.1)))) { s with toks:=s.toks+zR d }->R (.bool r.isSome) { s with toks:=s.toks+zR d }:=fun r e R hR=>by rw [e];exact hR
 refine vx (s:={ s with toks:=s.toks+zR d }) (adding:=false) S ks kb (by omega) hF (fun hd r hr=>?_) (fun hd=>?_) 100000 0 none (alD _) (by omega) (ST.road_start t _) (fun q i c=>by omega)
 ·refine wpAny_pure (wpAny_pure ?_)
  show wpAny _ _ (ret (Value.bool r.isSome)) _ _ _
  rw [hr rfl]
  rw [decide_eq_true hd] at q
  exact wpAny_pure ⟨_,rfl,wpAny_truthy_bool q⟩
 ·refine wpAny_pure (wpAny_pure ?_)
  show wpAny _ _ (ret (Value.bool false)) _ _ _
  rw [decide_eq_false hd] at q
  exact wpAny_pure ⟨_,rfl,wpAny_truthy_bool q⟩
noncomputable def aeF (es:Array (Int×Value)) (laid:Option (SetTable×Array Nat)):Sem (Array (Int×Value)×SetTable):=do
 let some (t,order):=laid | unsupported "internal:set-table-without-room"
 let es':=order.filterMap (es[·]?)
 if es'.size != es.size then unsupported "internal:set-table-lost-an-element"
 pure (es',t)
theorem ag2 (a:Addr) (wanted:Nat):setRelay a wanted=(do
  let (es,_,t) <- setState a
  if aoy wanted > sizeLine then unsupported "set:memory"
  let (es,t) <- aeF es (t.relaid (es.map (·.1)) wanted)
  storeSet a es t):=rfl
theorem qD {α:Type} (es:Array α):∀ l:List Nat,(∀ i∈l,i<es.size)->∀ dflt:α,l.filterMap (fun i=>es[i]?)=l.map fun i=>es.toList.getD i dflt
 | [],_,_=>rfl
 | i :: l,h,dflt=>by
  have hi:=h i als
  rw [anD,aoA hi,alI,qD es l (fun j hj=>h j (alm _ hj)) dflt]
  simp [hi]
theorem ag3 {Q:Unit->Shared->Prop} {mask wanted:Nat} (S0:s.heap.get? a=some o) (ex:o.ExactSet) (da:o.data=.set es ep t) (el:es.toList=xs.map fun x=>(zo w x.1,Value.ref x.2)) (tb:ST.TB t (xs.map fun x=>zo w x.1)) (mk:mask=31 \/ mask=127 \/ mask=511) (hw:aoy wanted=mask+1)
  (room:xs.length * 5<mask * 3) (q:∀ xs' o' es' ep' t' h',xs'.Perm xs->anf a s.heap h'->SetObj w h' a xs' o' es' ep' t'->Q () { s with heap:=h' }):wpAny (model P w) A (setRelay a wanted) Q E s:=by
 have sz:es.size=xs.length:=by rw [<-aly,el,ale]
 have fits:t.fits es.size=true:=by
  unfold SetTable.fits aph
  have h1:=tb.size
  have h2:=tb.most
  rw [ale] at h1 h2
  rw [sz,h1,tb.dum]
  simp
  exact h2
 have mk2:mask=7 \/ mask=31 \/ mask=127 \/ mask=511:=.inr mk
 obtain⟨t2,ord,e1,e2,_,_,pm,tb2⟩:=ST.laid_ok mk2 (es.map (·.1)) (by rw [ao4,sz];omega) t.finger (t.movedTo mask) t.led t.plain
 rw [ao4] at pm
 have hlt:∀ i∈ord.toList,i<es.size:=fun i hi=>alQ.mp (pm.mem_iff.mp hi)
 let xs':=ord.toList.map fun i=>xs.getD i (.none,0)
 have px:xs'.Perm xs:=by
  have e:(alo es.size).map (fun i=>xs.getD i (.none,0))=xs:=by
   rw [sz]
   refine anP fun i=>?_
   rw [alv]
   by_cases hi:i<xs.length
   ·rw [am8 hi,alb hi]
    simp [hi]
   ·rw [alN (by simp;omega),alN (by omega)]
    rfl
  have:=pm.map fun i=>xs.getD i (.none,0)
  rw [e] at this
  exact this
 have ee:(ord.filterMap (es[·]?)).toList=xs'.map fun x=>(zo w x.1,Value.ref x.2):=by
  rw [Array.toList_filterMap,qD es ord.toList hlt (0,Value.none),aoR]
  refine aon fun i hi=>?_
  have h2:=hlt i hi
  have h3:i<xs.length:=by omega
  rw [el,alh,alv,alb h3]
  show _=(zo w (xs.getD i (.none,0)).1,Value.ref (xs.getD i (.none,0)).2)
  rw [alh,alb h3]
  rfl
 have es_sz:(ord.filterMap (es[·]?)).size=es.size:=by
  rw [<-aly,ee,ale,px.length_eq,sz]
 have tok:ST.TOk t2 (xs'.map fun x=>zo w x.1):=by
  have eh:(ord.toList.map fun i=>(es.map (·.1)).toList.getD i 0)=xs'.map fun x=>zo w x.1:=by
   rw [aoR]
   refine aon fun i hi=>?_
   have h3:i<xs.length:=by have:=hlt i hi;omega
   rw [Array.toList_map,el,aoR,alh,alv,alb h3]
   show zo w xs[i].1=zo w (xs.getD i (.none,0)).1
   rw [alh,alb h3]
   rfl
  rw [eh] at tb2
  refine⟨tb2,?_⟩
  rw [ale,px.length_eq,e2]
  exact room
 rw [ag2]
 apply wpAny_bind
 refine wpAny_setState_of S0 da fits ?_
 dsimp only
 rw [hw,if_neg (by rw [sizeLine_eq];omega)]
 have e1':t.relaid (es.map (·.1)) wanted=some (t2,ord):=by
  unfold SetTable.relaid
  rw [hw]
  exact e1
 unfold aeF
 rw [e1']
 apply wpAny_bind
 dsimp only
 rw [es_sz,bne_self_eq_false,if_neg ald]
 apply wpAny_pure
 dsimp only
 refine wpAny_storeSet_of S0 da ?_ (by rw [es_sz,sz,sizeLine_eq];omega)
 refine q xs' { o with data:=.set (ord.filterMap (es[·]?)) (ep+1) t2 } (ord.filterMap (es[·]?)) (ep+1) t2 _ px (apc _ _ _) ⟨?_,ex,rfl,ee,tok⟩
 have:=anZ (aoS (ord.filterMap (es[·]?)) t2) S0 (by rw [putSet_of _ _ da];rfl)
 rw [putSet_of _ _ da] at this
 exact this
theorem ag4 {t:SetTable} {hs:List Int} {p:Bool} (x:ST.TB t hs):ST.TB { t with plain:=p } hs:=⟨x.mask,x.dum,x.rise,x.le,x.size,x.most,x.reach⟩
theorem aim {Q:Shared->Prop} (S:SetObj w s.heap a xs o es ep t) (ks:∀ x∈xs,KeyAt s.heap x.1 x.2) (kb:KeyAt s.heap d b) (hu:A.units+59<cLine) (few:xs.length<300)
  (old:d∈xs.map (·.1)->Q { s with toks:=s.toks+zR d })
  (new:d∉xs.map (·.1)->∀ xs' o' es' ep' t' h',xs'.Perm ((d,b) :: xs)->anf a s.heap h'->SetObj w h' a xs' o' es' ep' t'->Q { s with heap:=h',toks:=s.toks+zR d }) :
  wpAny (model P w) A (setAdd a (.ref b)) (fun _ s'=>Q s') E s:=by
 obtain⟨F,hF⟩:=ST.first_of S.ok.toTB (zo w d)
 have hl:=hF.lt
 have ht:turns t.mask<=526:=by
  unfold turns
  rcases S.ok.mask with e | e | e | e <;> omega
 have room:=S.ok.room
 rw [ale] at room
 unfold setAdd
 apply wpAny_holding
 apply wpAny_bind
 refine (vT P w).pyHash (by show _+40<cLine;omega) kb ?_
 show wpAny _ _ (setAddHashed a (.ref b) (zo w d)) _ _ _
 unfold setAddHashed setAddHashedIn
 apply wpAny_holding
 apply wpAny_bind
 refine wpAny_setState_of (s:={ s with toks:=s.toks+zR d }) S.ob S.da S.fits ?_
 dsimp only
 rw [aeE,if_neg ald]
 apply wpAny_bind
 unfold setSearch
 refine vx (s:={ s with toks:=s.toks+zR d }) (adding:=true) S ks kb (by omega) hF (fun hd r _=>?_) (fun hd=>?_) 100000 0 none (alD _) (by omega) (ST.road_start t _) (fun q i c=>by omega)
 ·exact wpAny_pure (old hd)
 ·dsimp only
  apply wpAny_bind
  refine wpAny_setState_of (s:={ s with toks:=s.toks+zR d }) S.ob S.da S.fits ?_
  dsimp only
  obtain⟨hp,tb⟩:=ST.put_tb S.ok.toTB hF (by rw [ale];rcases S.ok.mask with e | e | e | e <;> rw [e] at room ⊢ <;> omega)
  rw [ale] at hp
  have ep2:(t.put (ST.pos t.mask (zo w d) F)).2=below t.place (ST.pos t.mask (zo w d) F):=rfl
  rw [ep2]
  generalize below t.place (ST.pos t.mask (zo w d) F)=p at *
  have pm:(xs.take p++(d,b) :: xs.drop p).Perm ((d,b) :: xs):=by
   refine List.perm_middle.trans ?_
   rw [alE]
  have el:(insertAt es p (zo w d,Value.ref b)).toList=(xs.take p++(d,b) :: xs.drop p).map fun x=>(zo w x.1,Value.ref x.2):=by
   rw [anH,S.el,alX,alI,apf,apg]
  have eh:(xs.map fun x=>zo w x.1).take p++zo w d :: (xs.map fun x=>zo w x.1).drop p=(xs.take p++(d,b) :: xs.drop p).map fun x=>zo w x.1:=by
   rw [alX,alI,apf,apg]
  rw [eh] at tb
  have ln:(xs.take p++(d,b) :: xs.drop p).length=xs.length+1:=by rw [pm.length_eq];rfl
  have sze:(insertAt es p (zo w d,Value.ref b)).size=xs.length+1:=by rw [<-aly,el,ale,ln]
  have step:∀ bv:Bool,∀ t2,t2=(if bv=true then (t.put (ST.pos t.mask (zo w d) F)).1 else { (t.put (ST.pos t.mask (zo w d) F)).1 with plain:=false }) ->
    ST.TB t2 ((xs.take p++(d,b) :: xs.drop p).map fun x=>zo w x.1)/\t2.mask=t.mask:=fun bv t2 e=>by
   subst e
   cases bv with
   | true=>exact⟨tb,rfl⟩
   | false=>exact⟨ag4 tb,rfl⟩
  have tail:∀ bv:Bool,wpAny (model P w) A (do
    storeSet a (insertAt es p (zo w d,Value.ref b)) (if bv=true then (t.put (ST.pos t.mask (zo w d) F)).1 else { (t.put (ST.pos t.mask (zo w d) F)).1 with plain:=false })
    if (!false && (if bv=true then (t.put (ST.pos t.mask (zo w d) F)).1 else { (t.put (ST.pos t.mask (zo w d) F)).1 with plain:=false }).tooFull)=true then do
     setRelay a (SetTable.grown (es.size+1))
     pure true
    else pure true) (fun _ s'=>Q s') E { s with toks:=s.toks+zR d }:=fun bv=>by
   obtain⟨tb2,em⟩:=step bv _ rfl
   generalize (if bv=true then (t.put (ST.pos t.mask (zo w d) F)).1 else { (t.put (ST.pos t.mask (zo w d) F)).1 with plain:=false })=t2 at *
   apply wpAny_bind
   refine wpAny_storeSet_of (s:={ s with toks:=s.toks+zR d }) S.ob S.da ?_ (by rw [sze,sizeLine_eq];omega)
   have g:(s.heap.update a (aoS (insertAt es p (zo w d,Value.ref b)) t2)).get? a=some { o with data:=.set (insertAt es p (zo w d,Value.ref b)) (ep+1) t2 }:=by
    have:=anZ (aoS (insertAt es p (zo w d,Value.ref b)) t2) S.ob (by rw [putSet_of _ _ S.da];rfl)
    rw [putSet_of _ _ S.da] at this
    exact this
   have sb:=apc s.heap a (aoS (insertAt es p (zo w d,Value.ref b)) t2)
   have fill:t2.tooFull=decide ((xs.length+1) * 5 >= t.mask * 3):=by
    unfold SetTable.tooFull aph
    have h1:=tb2.size
    rw [ale,ln] at h1
    rw [h1,tb2.dum,em]
    rfl
   rw [aow,amm,fill]
   by_cases full:(xs.length+1) * 5 >= t.mask * 3
   ·rw [if_pos (decide_eq_true full),S.size]
    have:∃ mask,(mask=31 \/ mask=127 \/ mask=511)/\aoy (SetTable.grown (xs.length+1))=mask+1/\(xs.length+1) * 5<mask * 3:=by
     rcases S.ok.mask with e | e | e | e
     ·rw [e] at room full
      have:xs.length=4:=by omega
      rw [this]
      exact⟨31,.inl rfl,by decide,by decide⟩
     ·rw [e] at room full
      have:xs.length=18:=by omega
      rw [this]
      exact⟨127,.inr (.inl rfl),by decide,by decide⟩
     ·rw [e] at room full
      have:xs.length=76:=by omega
      rw [this]
      exact⟨511,.inr (.inr rfl),by decide,by decide⟩
     ·rw [e] at room full
      omega
    obtain⟨mask,mk,hw,rm⟩:=this
    apply wpAny_bind
    refine ag3 (s:={ s with heap:=s.heap.update a (aoS (insertAt es p (zo w d,Value.ref b)) t2),toks:=s.toks+zR d }) (o:={ o with data:=.set (insertAt es p (zo w d,Value.ref b)) (ep+1) t2 }) g S.ex rfl el tb2 mk hw (by rw [ln];exact rm) fun xs' o' es' ep' t' h' px sb' S'=>wpAny_pure ?_
    exact new hd xs' o' es' ep' t' h' (px.trans pm) (sb.trans sb') S'
   ·rw [if_neg (by rw [decide_eq_false full];exact ald)]
    refine wpAny_pure (new hd _ _ _ _ _ _ pm sb ⟨g,S.ex,rfl,el,⟨tb2,?_⟩⟩)
    rw [ale,ln,em]
    omega
  obtain⟨as,rd⟩:=kb.rd
  split
  ·apply wpAny_bind
   exact vJ d 8 _ { s with toks:=s.toks+zR d } _ as _ _ rd kb.pl fun bv=>tail bv
  ·apply wpAny_bind;apply wpAny_pure
   exact tail true
theorem aj7 {Q:Value->Shared->Prop} (S:SetObj w s.heap a xs o es ep t) (ks:∀ x∈xs,KeyAt s.heap x.1 x.2) (kb:KeyAt s.heap d b) (hu:A.units+60<cLine) (few:xs.length<300)
  (old:d∈xs.map (·.1)->Q .none { s with toks:=s.toks+zR d })
  (new:d∉xs.map (·.1)->∀ xs' o' es' ep' t' h',xs'.Perm ((d,b) :: xs)->anf a s.heap h'->SetObj w h' a xs' o' es' ep' t'->Q .none { s with heap:=h',toks:=s.toks+zR d }) :
  wpAny (model P w) A (call (.builtin "set.add") [.ref a,.ref b]) Q E s:=by
 refine wpAny_call_entry ao6 S.type PySem.F.entry_set_add ?_ (PySem.F.args_set_add_2 _ _)
 unfold Builtin.«set.add» aox
 simp only [List.isEmpty_nil,bind_assoc]
 unfold aoJ
 apply wpAny_bind;apply wpAny_pure
 try dsimp only
 apply wpAny_bind;apply wpAny_pure
 try dsimp only
 apply wpAny_bind
 have hu1:A.in1.units=A.units+1:=rfl
 refine aim (Q:=fun s'=>wpAny (model P w) A.in1 (ret Value.none) (fun fin s'=>∃ r,fin=.done (.ret r)/\Q r s') E s') S ks kb (by omega) few (fun hd=>wpAny_pure ⟨_,rfl,old hd⟩) fun hd xs' o' es' ep' t' h' p1 p2 p3=>wpAny_pure ⟨_,rfl,new hd xs' o' es' ep' t' h' p1 p2 p3⟩
end
inductive OC where
 | lst (es:List PyData)
 | set (ks:List PyData)
 | dic (kvs:List (PyData×PyData))
noncomputable def SetO (w:World) (a:Addr) (xs:List (PyData×Addr)):HO:=.ext fun h=>∃ o es ep t,SetObj w h a xs o es ep t
structure DicObj (w:World) (h:Heap) (a:Addr) (xs:List (PyData×Addr×Value)) (o:Obj) (es:Array DictEntry) (ep:Nat):Prop where
 ob:h.get? a=some o
 ex:o.ExactDict
 da:o.data=.dict es ep
 el:es.toList=xs.map fun x=>(⟨zo w x.1,.ref x.2.1,x.2.2⟩:DictEntry)
 nd:(xs.map (·.1)).Nodup
 ns:(a == sysModules)=false
noncomputable def DicO (w:World) (a:Addr) (xs:List (PyData×Addr×Value)):HO:=.ext fun h=>∃ o es ep,DicObj w h a xs o es ep
noncomputable def va (d:PyData):Prop:=zt d=true/\d.depth<=8
noncomputable def EntR (K:alg) (Hh:Hp) (x:PyData×Addr×Value) (p:PyData×PyData):Prop:=x.1=p.1/\va x.1/\Rep K Hh x.1 (.ref x.2.1)/\∃ v,Rep K Hh p.2 v/\RelV v x.2.2
theorem EntR.mono {K:alg} {Hh Hh':Hp} (s:Same Hh Hh'):∀ {xs:List (PyData×Addr×Value)} {kvs:List (PyData×PyData)},Paired (EntR K Hh) xs kvs->Paired (EntR K Hh') xs kvs
 | _,_,.nil=>.nil
 | _,_,.cons ⟨h1,h2,h3,v,h4,h5⟩ t=>.cons ⟨h1,h2,Rep.mono s _ _ h3,v,Rep.mono s _ _ h4,h5⟩ (EntR.mono s t)
noncomputable def OwnAt (w:World) (K:alg) (Hh H:Hp) (D:Addr):OC->Prop
 | .lst es=>∃ vs,H D=some (.lst vs)/\Reps K Hh es vs
 | .set ks=>∃ xs:List (PyData×Addr),H D=some (SetO w D xs)/\(∀ x∈xs,va x.1/\Rep K Hh x.1 (.ref x.2))/\(∀ d,d∈xs.map (·.1)↔d∈ks)/\xs.length<=ks.length
 | .dic kvs=>∃ xs:List (PyData×Addr×Value),H D=some (DicO w D xs)/\Paired (EntR K Hh) xs kvs
theorem OwnAt.mono {w:World} {K:alg} {Hh Hh' H H':Hp} {D:Addr} (e:H' D=H D) (s:Same Hh Hh'):∀ {c:OC},OwnAt w K Hh H D c->OwnAt w K Hh' H' D c
 | .lst es,⟨vs,h1,h2⟩=>⟨vs,e.trans h1,Reps.mono s es vs h2⟩
 | .set ks,⟨xs,h1,h2,h3⟩=>⟨xs,e.trans h1,fun x hx=>⟨(h2 x hx).1,Rep.mono s _ _ (h2 x hx).2⟩,h3⟩
 | .dic kvs,⟨xs,h1,h2⟩=>⟨xs,e.trans h1,EntR.mono s h2⟩
noncomputable def Fx.withs (f:Fx) (Ds:List Addr):Fx:={ f with M:=Ds.reverse++f.M }
theorem yi (f:Fx) (Ds:List Addr) (D:Addr):f.withs (Ds++[D])=(f.withs Ds).with D:=by
 unfold Fx.withs Fx.with
 rw [am9]
 rfl
structure CM (w:World) (K:alg) (f:Fx) (Ds:List Addr) (H2:Hp) (ρ:zp) (cs:List OC) (σ:St) (H:Hp):Prop where
 env:EnvOk K (f.withs Ds) ρ σ H
 sm:Same (hide H2 (f.withs Ds)) (hide H (f.withs Ds))
 kp:∀ b∈f.M,H b=H2 b
 len:cs.length=Ds.length
 own:∀ (i:Nat) D c,Ds[i]?=some D->cs[i]?=some c->OwnAt w K (hide H (f.withs Ds)) H D c
structure Sep (f:Fx) (Ds:List Addr):Prop where
 nd:Ds.Nodup
 nf:∀ D∈Ds,f.f≠some D
 nm:∀ D∈Ds,D∉f.M
section
variable {w:World} {K:alg} {f:Fx} {Ds:List Addr} {H H' H2:Hp} {ρ ρ2:zp} {cs:List OC} {σ σ2:St} {i:Nat} {D:Addr} {c:OC} {o:HO}
theorem y6 (hD:D∈Ds):D∈(f.withs Ds).M:=al8 _ (amg.mpr hD)
theorem yp (hD:D∈Ds):hide (upd H D o) (f.withs Ds)=hide H (f.withs Ds):=by
 funext b
 unfold hide
 by_cases h:(f.withs Ds).f=some b \/ b∈(f.withs Ds).M
 ·rw [if_pos h,if_pos h]
 ·rw [if_neg h,if_neg h,zx fun (z:b=D)=>h (.inr (z▸y6 hD))]
theorem CM.go (x:CM w K f Ds H2 ρ cs σ H) (g:Goes (f.withs Ds) H H') (e2:EnvOk K (f.withs Ds) ρ2 σ2 H'):CM w K f Ds H2 ρ2 cs σ2 H' :=
 ⟨e2,x.sm.trans g.sm,fun b hb=>(g.kp b (alx _ hb)).trans (x.kp b hb),x.len,fun i D c h1 h2=>(x.own i D c h1 h2).mono (g.kp D (y6 (alB h1))) g.sm⟩
theorem CM.self (x:CM w K f Ds H2 ρ cs σ H):CM w K f Ds H ρ cs σ H:=⟨x.env,Same.refl _,fun _ _=>rfl,x.len,x.own⟩
theorem CM.trans {cs':List OC} {ρ':zp} {σ':St} (x:CM w K f Ds H2 ρ cs σ H) (y:CM w K f Ds H ρ' cs' σ' H'):CM w K f Ds H2 ρ' cs' σ' H':=⟨y.env,x.sm.trans y.sm,fun b hb=>(y.kp b hb).trans (x.kp b hb),y.len,y.own⟩
theorem ain (se:Sep f Ds) (hD:D∈Ds) (h:FOk (f.withs Ds) H):FOk (f.withs Ds) (upd H D o) :=
 ⟨fun p e=>let⟨a,b,h1,h2⟩:=h.fd p e;⟨a,b,by rw [zx (fun (z:p=D)=>se.nf D hD (z▸e))];exact h1,h2⟩,fun b hb=>by
  by_cases e:b=D
  ·exact⟨o,by rw [e];exact zB⟩
  ·obtain⟨u,hu⟩:=h.mm b hb
   exact⟨u,by rw [zx e];exact hu⟩,h.nm⟩
theorem aio (se:Sep f Ds) (hD:D∈Ds) (e:EnvOk K (f.withs Ds) ρ σ H):EnvOk K (f.withs Ds) ρ σ (upd H D o) :=
 ⟨e.len,fun i x h=>by
  obtain⟨v,h1,h2⟩:=e.get i x h
  refine⟨v,h1,?_⟩
  cases x with
  | dat d =>
   show Rep K (hide (upd H D o) (f.withs Ds)) d v
   rw [yp hD]
   exact h2
  | feed=>exact h2
  | own k=>exact h2
  | exc C =>
   obtain⟨a,e1,q⟩:=h2
   exact⟨a,e1,by rw [yp hD];exact q⟩
  | mon φ =>
   intro H' s
   rw [yp hD] at s
   exact h2 H' s,ain se hD e.fd⟩
theorem CM.put {c':OC} (se:Sep f Ds) (x:CM w K f Ds H2 ρ cs σ H) (hi:Ds[i]?=some D) (ho:OwnAt w K (hide H (f.withs Ds)) (upd H D o) D c'):CM w K f Ds H2 ρ (cs.set i c') σ (upd H D o):=by
 have hD:=alB hi
 refine⟨aio se hD x.env,by rw [yp hD];exact x.sm,fun b hb=>(zx (fun (z:b=D)=>se.nm D hD (z▸hb))).trans (x.kp b hb),by rw [ano];exact x.len,fun j D' c h1 h2=>?_⟩
 rw [yp hD]
 by_cases e:i=j
 ·subst e
  rw [hi] at h1
  cases h1
  have hl:i<cs.length:=by rw [x.len];exact (alf.mp hi).1
  rw [amw hl] at h2
  cases h2
  exact ho
 ·rw [am1 e] at h2
  have ne:D'≠D:=fun z=>by
   subst z
   obtain⟨l1,e1⟩:=alf.mp hi
   obtain⟨l2,e2⟩:=alf.mp h1
   exact e ((anw se.nd).mp (e1.trans e2.symm))
  exact (x.own j D' c h1 h2).mono (zx ne) (Same.refl _)
end
structure MEnds where
 nx:zp->List OC->Prop
 rt:PyData->Prop
 bk:zp->List OC->Prop:=fun _ _=>False
 ct:zp->List OC->Prop:=fun _ _=>False
noncomputable def PSm (w:World) (K:alg) (f:Fx) (Ds:List Addr) (ts:TS) (ρ:zp) (cs:List OC) (O:MEnds):Prop:=Sep f Ds->∀ (σ:St) (H H2:Hp) (E:Ends),CM w K f Ds H2 ρ cs σ H ->
 (∀ ρ' cs' σ' H',CM w K f Ds H2 ρ' cs' σ' H'->O.nx ρ' cs'->E.nx σ' H')->(∀ d v ρ' cs' σ' H',CM w K f Ds H2 ρ' cs' σ' H'->Rep K (hide H' f) d v->O.rt d->E.rt v H') ->
 (∀ ρ' cs' σ' H',CM w K f Ds H2 ρ' cs' σ' H'->O.bk ρ' cs'->E.bk σ' H')->(∀ ρ' cs' σ' H',CM w K f Ds H2 ρ' cs' σ' H'->O.ct ρ' cs'->E.ct σ' H')->ts E σ H
noncomputable def PTm (w:World) (K:alg) (f:Fx) (Ds:List Addr) (tt:TT) (ρ:zp) (cs:List OC) (B:Bool->Prop):Prop:=Sep f Ds->∀ (σ:St) (H H2:Hp) (Q:Bool->Hp->Prop),CM w K f Ds H2 ρ cs σ H->(∀ b H',Goes (f.withs Ds) H H'->B b->Q b H')->tt σ H Q
noncomputable def PEm (w:World) (K:alg) (f:Fx) (Ds:List Addr) (te:TE) (ρ:zp) (cs:List OC) (P:PyData->Prop):Prop:=Sep f Ds->∀ (σ:St) (H H2:Hp) (Q:VK),CM w K f Ds H2 ρ cs σ H->(∀ d v H',Goes (f.withs Ds) H H'->Rep K (hide H' (f.withs Ds)) d v->P d->Q v H')->te σ H Q
noncomputable def ag5 (w:World) (K:alg) (f:Fx) (te:TE) (ρ:zp) (P:OC->Prop):Prop:=∀ (σ:St) (H:Hp) (Q:VK),EnvOk K f ρ σ H ->
 (∀ c D H',Goes f H H'->H D=none->OwnAt w K (hide H' (f.with D)) H' D c->P c->Q (.ref D) H')->te σ H Q
section
variable {w:World} {K:alg} {f:Fx} {Ds:List Addr} {ρ:zp} {cs:List OC} {ts tu:TS} {tt:TT} {te:TE} {wi:TI} {g:TG} {O:MEnds} {i j:Nat}
theorem same_withs {H:Hp}:Same (hide H (f.withs Ds)) (hide H f):=fun b o h=>by
 obtain⟨h1,h2⟩:=zG h
 exact zv (fun z=>h1 (z.elim .inl fun z=>.inr (alx _ z))) h2
theorem adK {D:DEnds} (h:PSm w K f [] ts ρ [] { nx:=fun ρ' _=>D.nx ρ',rt:=D.rt,bk:=fun ρ' _=>D.bk ρ',ct:=fun ρ' _=>D.ct ρ' }):PSd K f ts ρ D:=fun σ H E e n r b k=>by
 have gg:∀ {ρ':zp} {cs':List OC} {σ':St} {H':Hp},CM w K f [] H ρ' cs' σ' H'->Goes f H H':=fun x=>⟨x.sm,x.env.fd,x.kp⟩
 exact h ⟨anv,(fun _ z=>nomatch z),(fun _ z=>nomatch z)⟩ σ H H E ⟨e,Same.refl _,fun _ _=>rfl,rfl,(fun i D c z=>nomatch z)⟩
  (fun ρ' cs' σ' H' x p=>n ρ' σ' H' (gg x) x.env p) (fun d v ρ' cs' σ' H' x r' p=>r d v H' (gg x) r' p) (fun ρ' cs' σ' H' x p=>b ρ' σ' H' (gg x) x.env p) (fun ρ' cs' σ' H' x p=>k ρ' σ' H' (gg x) x.env p)
theorem abF (h:PSd K (f.withs Ds) ts ρ { nx:=fun ρ'=>O.nx ρ' cs,rt:=O.rt,bk:=fun ρ'=>O.bk ρ' cs,ct:=fun ρ'=>O.ct ρ' cs }):PSm w K f Ds ts ρ cs O:=fun se σ H H2 E x n r b k =>
 h σ H E x.env (fun ρ' σ' H' g' e' p=>n ρ' cs σ' H' (x.go g' e') p) (fun d v H' g' r' p=>r d v ρ cs σ H' (x.go g' (x.env.mono g')) (Rep.mono same_withs d v r') p) (fun ρ' σ' H' g' e' p=>b ρ' cs σ' H' (x.go g' e') p) (fun ρ' σ' H' g' e' p=>k ρ' cs σ' H' (x.go g' e') p)
theorem jF (h:PSm w K f Ds ts ρ cs { O with nx:=fun ρ' cs'=>PSm w K f Ds tu ρ' cs' O }):PSm w K f Ds (vj ts tu) ρ cs O:=fun se σ H H2 E x n r b k =>
 h se σ H H2 _ x (fun ρ' cs' σ' H' x' p=>p se σ' H' H2 E x' n r b k) r b k
theorem abG (h:O.nx ρ cs):PSm w K f Ds ab4 ρ cs O:=fun _ σ H H2 E x n r b k=>n ρ cs σ H x h
theorem akS {B:Bool->Prop} (h:PTd K (f.withs Ds) tt ρ B):PTm w K f Ds tt ρ cs B:=fun se σ H H2 Q x q=>h σ H Q x.env q
theorem adL {P:PyData->Prop} (h:PEd K (f.withs Ds) te ρ P):PEm w K f Ds te ρ cs P:=fun se σ H H2 Q x q=>h σ H Q x.env q
theorem aip (h:PTm w K f Ds tt ρ cs fun b=>if b=true then PSm w K f Ds ts ρ cs O else PSm w K f Ds tu ρ cs O):PSm w K f Ds (af6 tt ts tu) ρ cs O:=fun se σ H H2 E x n r b k =>
 h se σ H H2 _ x fun q H1 g1 p=>by
  have x1:=x.go g1 (x.env.mono g1)
  cases q with
  | false =>
   rw [if_neg ald] at p ⊢
   exact p se σ H1 H2 E x1 n r b k
  | true =>
   rw [if_pos rfl] at p ⊢
   exact p se σ H1 H2 E x1 n r b k
theorem ag6 (h:PId K (f.withs Ds) wi ρ fun ds=>∃ J:Nat->zp->List OC->Prop,J 0 ρ cs /\
   (∀ (i:Nat) d ρ' cs',ds[i]?=some d->J i ρ' cs'->PGd K (f.withs Ds) g d ρ' fun ρ2=>PSm w K f Ds ts ρ2 cs' { O with nx:=J (i+1),ct:=J (i+1),bk:=O.nx })/\∀ ρ' cs',J ds.length ρ' cs'->O.nx ρ' cs') :
  PSm w K f Ds (afa wi g ts) ρ cs O:=fun se σ H H2 E x n r b k=>h σ H _ x.env fun ds J H1 g1 it ⟨Jv,j0,js,jd⟩=>by
 have x1:=x.go g1 (x.env.mono g1)
 refine⟨fun i m σ' H'=>∃ ρ' cs',CM w K f Ds H2 ρ' cs' σ' H'/\Same (hide H1 (f.withs Ds)) (hide H' (f.withs Ds))/\Jv i ρ' cs'/\m+i=ds.length,⟨ds.length,ρ,cs,x1,Same.refl _,j0,rfl⟩,fun i m σ' H' ⟨ρ',cs',x',sm',p,hm⟩=>?_⟩
 by_cases hi:i<ds.length
 ·obtain⟨hgo,hy⟩:=it.go (f.withs Ds) H' i _ x'.env.fd sm' (alb hi)
  refine .inr ⟨hgo,fun σ2 H3=>∃ ρ2 cs2,CM w K f Ds H2 ρ2 cs2 σ2 H3/\Same (hide H1 (f.withs Ds)) (hide H3 (f.withs Ds))/\Jv (i+1) ρ2 cs2,fun σ2 H3 ⟨ρ2,cs2,e2,g2,p2⟩=>⟨m - 1,by omega,ρ2,cs2,e2,g2,p2,by omega⟩,fun v H3 hx=>?_⟩
  obtain⟨g3,r3⟩:=hy v H3 hx
  have x3:=x'.go g3 (x'.env.mono g3)
  refine js i _ ρ' cs' (alb hi) p σ' H3 v _ x3.env r3 fun ρ2 σ2 H4 g4 e4 p4=>?_
  have x4:=x3.go g4 e4
  have sm4:=(sm'.trans g3.sm).trans g4.sm
  exact p4 se σ2 H4 H4 _ x4.self (fun ρ5 cs5 σ5 H5 x5 p5=>⟨ρ5,cs5,x4.trans x5,sm4.trans x5.sm,p5⟩) (fun d v ρ5 cs5 σ5 H5 x5 r5 p5=>r d v ρ5 cs5 σ5 H5 (x4.trans x5) r5 p5) (fun ρ5 cs5 σ5 H5 x5 p5=>n ρ5 cs5 σ5 H5 (x4.trans x5) p5) (fun ρ5 cs5 σ5 H5 x5 p5=>⟨ρ5,cs5,x4.trans x5,sm4.trans x5.sm,p5⟩)
 ·have ei:i=ds.length:=by omega
  subst ei
  exact .inl ⟨it.st (f.withs Ds) H' x'.env.fd sm',n ρ' cs' σ' H' x' (jd ρ' cs' p)⟩
theorem aiq {tb:TS} (J:zp->List OC->Prop) (μ:zp->List OC->Nat) (h0:J ρ cs)
  (hs:∀ ρ' cs',J ρ' cs'->PTm w K f Ds tt ρ' cs' fun b=>if b=true then PSm w K f Ds tb ρ' cs' { O with nx:=fun r c=>J r c/\μ r c<μ ρ' cs',ct:=fun r c=>J r c/\μ r c<μ ρ' cs',bk:=O.nx } else O.nx ρ' cs'):PSm w K f Ds (af7 tt tb) ρ cs O:=fun se σ H H2 E x n r b k=>by
 refine⟨fun m σ' H'=>∃ ρ' cs',CM w K f Ds H2 ρ' cs' σ' H'/\J ρ' cs'/\m=μ ρ' cs',⟨_,ρ,cs,x,h0,rfl⟩,?_⟩
 rintro m σ1 H1 ⟨ρ1,cs1,x1,j1,rfl⟩
 refine hs ρ1 cs1 j1 se σ1 H1 H2 _ x1 fun t H3 g3 p=>?_
 have x3:=x1.go g3 (x1.env.mono g3)
 cases t with
 | true =>
  rw [if_pos rfl] at p ⊢
  refine⟨fun σ' H'=>∃ ρ' cs',CM w K f Ds H2 ρ' cs' σ' H'/\J ρ' cs'/\μ ρ' cs'<μ ρ1 cs1,fun σ' H' ⟨ρ',cs',x',j',l'⟩=>⟨_,l',ρ',cs',x',j',rfl⟩,?_⟩
  exact p se σ1 H3 H2 _ x3 (fun ρ5 cs5 σ5 H5 x5 p5=>⟨ρ5,cs5,x5,p5⟩) r (fun ρ5 cs5 σ5 H5 x5 p5=>n ρ5 cs5 σ5 H5 x5 p5) (fun ρ5 cs5 σ5 H5 x5 p5=>⟨ρ5,cs5,x5,p5⟩)
 | false =>
  rw [if_neg ald] at p ⊢
  exact n ρ1 cs1 σ1 H3 x3 p
theorem jQ {σ:St} {H H2:Hp} {D:Addr} (hi:ρ[i]?=some (some (.own (f.M.length+j)))) (x:CM w K f Ds H2 ρ cs σ H) (hD:Ds[j]?=some D):σ[i]?=some (some (.ref D)):=by
 obtain⟨v,h1,p,h2,rfl⟩:=x.env.get i _ hi
 have e:(f.withs Ds).M.reverse[f.M.length+j]?=some D:=by
  show (Ds.reverse++f.M).reverse[f.M.length+j]?=some D
  rw [am9,aod,alj (by simp)]
  simpa using hD
 rw [e] at h2
 cases h2
 exact h1
theorem ag7 {es:List PyData} (hi:ρ[i]?=some (some (.own (f.M.length+j)))) (hc:cs[j]?=some (.lst es)) (hl:es.length<1000) (h:PEm w K f Ds te ρ cs fun d=>O.nx ρ (cs.set j (.lst (es++[d])))):PSm w K f Ds (ab5 (tBM K "list" abm (yw i) (yx te jZ))) ρ cs O:=fun se σ H H2 E x n r b k=>by
 have hj:j<Ds.length:=by rw [<-x.len];exact (alf.mp hc).1
 have hD:Ds[j]?=some Ds[j]:=alb hj
 obtain⟨vs0,h0,_⟩:=x.own j _ _ hD hc
 refine⟨_,jQ hi x hD,Or.inl ⟨rfl,vs0,.of h0⟩,?_⟩
 refine h se σ H H2 _ x fun d v H1 g1 r1 p1=>?_
 have x1:=x.go g1 (x.env.mono g1)
 obtain⟨vs,h1,h2⟩:=x1.own j _ _ hD hc
 refine⟨_,vs,v,rfl,rfl,h1,ye (by rw [h2.length];omega),n _ _ _ _ (x1.put se hD (o:=.lst (vs++[v])) (c':=.lst (es++[d])) ⟨vs++[v],zB,h2.snoc r1⟩) p1⟩
theorem CM.more {σ:St} {H H1 H2:Hp} {D:Addr} {c:OC} (x:CM w K f Ds H2 ρ cs σ H) (g:Goes (f.withs Ds) H H1) (hn:H D=none) (ho:OwnAt w K (hide H1 ((f.withs Ds).with D)) H1 D c) (hi:i<ρ.length) :
  CM w K f (Ds++[D]) H1 (ρ.set i (some (.own (f.M.length+Ds.length)))) (cs++[c]) (σ.set i (some (.ref D))) H1:=by
 have nD:¬ ((f.withs Ds).f=some D \/ D∈(f.withs Ds).M):=fresh_ne x.env.fd hn
 have sm0:Same (hide H (f.withs Ds)) (hide H1 (f.withs (Ds++[D]))):=fun b o hb=>by
  have hb1:=g.sm b o hb
  rw [yi]
  refine zv (fun z=>?_) (zG hb1).2
  rcases z with z | z
  ·exact (zG hb1).1 (.inl z)
  ·rcases alp.mp z with rfl | z
   ·have:=(zG hb).2
    rw [hn] at this
    cases this
   ·exact (zG hb1).1 (.inr z)
 have hD1:∃ o,H1 D=some o:=by
  cases c with
  | lst es=>exact⟨_,ho.choose_spec.1⟩
  | set ks=>exact⟨_,ho.choose_spec.1⟩
  | dic kvs=>exact⟨_,ho.choose_spec.1⟩
 have fo1:FOk (f.withs (Ds++[D])) H1:=by
  rw [yi]
  refine⟨g.ok.fd,fun b hb=>?_,fun q eq hq=>?_⟩
  ·rcases alp.mp hb with rfl | hb
   ·exact hD1
   ·exact g.ok.mm b hb
  ·rcases alp.mp hq with rfl | hq
   ·exact nD (.inl eq)
   ·exact g.ok.nm q eq hq
 have rev:(f.withs (Ds++[D])).M.reverse=(f.withs Ds).M.reverse++[D]:=by
  rw [yi]
  show (D :: (f.withs Ds).M).reverse=_
  rw [amH]
 have lenr:(f.withs Ds).M.reverse.length=f.M.length+Ds.length:=by
  show (Ds.reverse++f.M).reverse.length=_
  simp
 have e1:EnvOk K (f.withs (Ds++[D])) ρ σ H1:=⟨x.env.len,fun q y hy=>by
  obtain⟨v,a1,a2⟩:=x.env.get q y hy
  refine⟨v,a1,?_⟩
  cases y with
  | dat d=>exact Rep.mono sm0 d v a2
  | feed=>exact a2
  | exc C =>
   obtain⟨b,h3,h4⟩:=a2
   exact⟨b,h3,sm0 _ _ h4⟩
  | mon φ=>exact fun H' s=>a2 H' (sm0.trans s)
  | own k =>
   obtain⟨b,h3,h4⟩:=a2
   refine⟨b,?_,h4⟩
   rw [rev,alk (alf.mp h3).1]
   exact h3,fo1⟩
 have rv:RepV K (f.withs (Ds++[D])) H1 (.own (f.M.length+Ds.length)) (.ref D):=⟨D,by
  rw [rev,alj (by omega),lenr,ank]
  rfl,rfl⟩
 refine⟨e1.set i rv,Same.refl _,fun _ _=>rfl,by simp [x.len],fun q D' c' h1 h2=>?_⟩
 by_cases hq:q<Ds.length
 ·rw [alk hq] at h1
  rw [alk (by rw [x.len];exact hq)] at h2
  exact (x.own q D' c' h1 h2).mono (g.kp D' (y6 (alB h1))) sm0
 ·by_cases hq2:q=Ds.length
  ·subst hq2
   rw [alj (ali _),ank] at h1
   rw [alj (by rw [x.len];exact ali _),x.len,ank] at h2
   cases h1
   cases h2
   rw [yi]
   exact ho
  ·rw [alN (by simp;omega)] at h1
   cases h1
theorem Sep.more {H:Hp} {D:Addr} (se:Sep f Ds) (fo:FOk (f.withs Ds) H) (hn:H D=none):Sep f (Ds++[D]):=by
 have nD:=fresh_ne fo hn
 refine⟨am4.mpr ⟨se.nd,by simp,fun a ha b hb=>?_⟩,fun D' h=>?_,fun D' h=>?_⟩
 ·rw [alK.mp hb]
  intro z
  exact nD (.inr (y6 (z▸ha)))
 ·rcases alM.mp h with h | h
  ·exact se.nf D' h
  ·rw [alK.mp h];exact fun z=>nD (.inl z)
 ·rcases alM.mp h with h | h
  ·exact se.nm D' h
  ·rw [alK.mp h];exact fun z=>nD (.inr (alx _ z))
theorem CM.less {σ σ':St} {H H1 H2 H':Hp} {D:Addr} {ρ':zp} {cs':List OC} (x:CM w K f Ds H2 ρ cs σ H) (g:Goes (f.withs Ds) H H1) (hn:H D=none) (y:CM w K f (Ds++[D]) H1 ρ' cs' σ' H') :
  CM w K f Ds H2 (ρ'.map (jm (f.M.length+Ds.length))) (cs'.take Ds.length) σ' H':=by
 have sub:Same (hide H' (f.withs (Ds++[D]))) (hide H' (f.withs Ds)):=by rw [yi];exact same_with
 have sm1:Same (hide H (f.withs Ds)) (hide H1 (f.withs (Ds++[D]))):=fun b o hb=>by
  have hb1:=g.sm b o hb
  rw [yi]
  refine zv (fun z=>?_) (zG hb1).2
  rcases z with z | z
  ·exact (zG hb1).1 (.inl z)
  ·rcases alp.mp z with rfl | z
   ·have:=(zG hb).2
    rw [hn] at this
    cases this
   ·exact (zG hb1).1 (.inr z)
 have lenr:(f.withs Ds).M.reverse.length=f.M.length+Ds.length:=by
  show (Ds.reverse++f.M).reverse.length=_
  simp
 have rev:(f.withs (Ds++[D])).M.reverse=(f.withs Ds).M.reverse++[D]:=by
  rw [yi]
  show (D :: (f.withs Ds).M).reverse=_
  rw [amH]
 have fo:FOk (f.withs Ds) H':=by
  have h:=y.env.fd
  rw [yi] at h
  exact⟨h.fd,fun b hb=>h.mm b (alm _ hb),fun p e hp=>h.nm p e (alm _ hp)⟩
 refine⟨⟨by rw [ale];exact y.env.len,fun q z hz=>?_,fo⟩,(x.sm.trans sm1).trans (y.sm.trans sub),fun b hb=>(y.kp b hb).trans ((g.kp b (alx _ hb)).trans (x.kp b hb)),?_,fun q D' c' h1 h2=>?_⟩
 ·rw [alv] at hz
  cases e:ρ'[q]? with
  | none=>rw [e] at hz;cases hz
  | some z0 =>
   rw [e] at hz
   cases z0 with
   | none=>cases hz
   | some z0 =>
    obtain⟨v,a1,a2⟩:=y.env.get q z0 e
    cases z0 with
    | dat d =>
     cases hz
     exact⟨v,a1,Rep.mono sub d v a2⟩
    | feed =>
     cases hz
     rw [yi] at a2
     exact⟨v,a1,a2⟩
    | exc C =>
     cases hz
     obtain⟨b,h3,h4⟩:=a2
     exact⟨v,a1,b,h3,sub _ _ h4⟩
    | mon φ =>
     cases hz
     exact⟨v,a1,fun H' s=>a2 H' (sub.trans s)⟩
    | own k =>
     have hz':(if k<f.M.length+Ds.length then some (DV.own k) else none)=some z:=Option.some.inj hz
     by_cases hk:k<f.M.length+Ds.length
     ·rw [if_pos hk] at hz'
      cases hz'
      obtain⟨b,h3,h4⟩:=a2
      refine⟨v,a1,b,?_,h4⟩
      rw [rev,alk (by omega)] at h3
      exact h3
     ·rw [if_neg hk] at hz'
      cases hz'
 ·rw [alq,y.len]
  simp
 ·have hq:q<Ds.length:=(alf.mp h1).1
  rw [amt hq] at h2
  exact (y.own q D' c' (by rw [alk hq];exact h1) h2).mono rfl sub
theorem ag8 (h:ag5 w K (f.withs Ds) te ρ fun c=>i<ρ.length/\∀ D,PSm w K f (Ds++[D]) ts (ρ.set i (some (.own (f.M.length+Ds.length)))) (cs++[c]) { nx:=fun ρ' cs'=>O.nx (ρ'.map (jm (f.M.length+Ds.length))) (cs'.take Ds.length),rt:=O.rt,bk:=fun ρ' cs'=>O.bk (ρ'.map (jm (f.M.length+Ds.length))) (cs'.take Ds.length),ct:=fun ρ' cs'=>O.ct (ρ'.map (jm (f.M.length+Ds.length))) (cs'.take Ds.length) }) :
  PSm w K f Ds (vj (jJ te (y7 i)) ts) ρ cs O:=fun se σ H H2 E x n r b k =>
 h σ H _ x.env fun c D H1 g1 hn ho ⟨hi,p⟩ =>
  p D (se.more x.env.fd hn) _ H1 H1 E (x.more g1 hn ho hi) (fun ρ' cs' σ' H' y q=>n _ _ σ' H' (x.less g1 hn y) q) (fun d v ρ' cs' σ' H' y r' q=>r d v _ _ σ' H' (x.less g1 hn y) r' q) (fun ρ' cs' σ' H' y q=>b _ _ σ' H' (x.less g1 hn y) q) (fun ρ' cs' σ' H' y q=>k _ _ σ' H' (x.less g1 hn y) q)
theorem abH {P:OC->Prop} (h:PEdO K f te ρ fun es=>P (.lst es)):ag5 w K f te ρ P:=fun σ H Q e q=>h σ H Q e fun es D vs H' g hn h1 rs p=>q (.lst es) D H' g hn ⟨vs,h1,rs⟩ p
noncomputable def freed (n:Nat) (cs:List OC):Option DV->Option DV
 | some (.own k)=>if k<n then some (.own k) else match cs[k - n]? with
  | some (.lst es)=>some (.dat (.list es))
  | _=>none
 | x=>x
theorem CM.free {σ:St} {H H2:Hp} (se:Sep f Ds) (x:CM w K f Ds H2 ρ cs σ H):EnvOk K f (ρ.map (freed f.M.length cs)) σ H:=by
 have fo:FOk f H:=⟨x.env.fd.fd,fun b hb=>x.env.fd.mm b (alx _ hb),fun p e hp=>x.env.fd.nm p e (alx _ hp)⟩
 refine⟨by rw [ale];exact x.env.len,fun q z hz=>?_,fo⟩
 rw [alv] at hz
 cases e:ρ[q]? with
 | none=>rw [e] at hz;cases hz
 | some z0 =>
  rw [e] at hz
  cases z0 with
  | none=>cases hz
  | some z0 =>
   obtain⟨v,a1,a2⟩:=x.env.get q z0 e
   cases z0 with
   | dat d =>
    cases hz
    exact⟨v,a1,Rep.mono same_withs d v a2⟩
   | feed =>
    cases hz
    exact⟨v,a1,a2⟩
   | exc C =>
    cases hz
    obtain⟨b,h3,h4⟩:=a2
    exact⟨v,a1,b,h3,same_withs _ _ h4⟩
   | mon φ =>
    cases hz
    exact⟨v,a1,fun H' s=>a2 H' (same_withs.trans s)⟩
   | own k =>
    obtain⟨b,h3,h4⟩:=a2
    have h3':(Ds.reverse++f.M).reverse[k]?=some b:=h3
    rw [am9,aod] at h3'
    have hz':(if k<f.M.length then some (DV.own k) else match cs[k - f.M.length]? with | some (.lst es)=>some (.dat (.list es)) | _=>none)=some z:=Option.some.inj hz
    by_cases hk:k<f.M.length
    ·rw [if_pos hk] at hz'
     cases hz'
     rw [alk (by simpa using hk)] at h3'
     exact⟨v,a1,b,h3',h4⟩
    ·rw [if_neg hk] at hz'
     rw [alj (by simpa using Nat.not_lt.mp hk),anE] at h3'
     cases ec:cs[k - f.M.length]? with
     | none=>rw [ec] at hz';cases hz'
     | some c =>
      rw [ec] at hz'
      cases c with
      | lst es =>
       cases hz'
       obtain⟨vs,h5,h6⟩:=x.own _ _ _ h3' ec
       have hb:=alB h3'
       exact⟨v,a1,rep_list.mpr ⟨b,vs,h4,.of (zv (fun z=>z.elim (se.nf b hb) (se.nm b hb)) h5),Reps.mono same_withs es vs h6⟩⟩
      | set ks=>cases hz'
      | dic kvs=>cases hz'
theorem CM.goF {σ:St} {H H2 H':Hp} (se:Sep f Ds) (x:CM w K f Ds H2 ρ cs σ H) (g:Goes f H H'):CM w K f Ds H2 ρ cs σ H':=by
 have keep:∀ b∈Ds,H' b=H b:=fun b hb=>by
  obtain⟨o,ho⟩:=x.env.fd.mm b (y6 hb)
  rw [ho]
  exact (zG (g.sm b o (zv (fun z=>z.elim (se.nf b hb) (se.nm b hb)) ho))).2
 have g2:Goes (f.withs Ds) H H':=⟨fun b o hb=>by
   have hb':=zG hb
   have:=zG (g.sm b o (same_withs b o hb))
   exact zv hb'.1 this.2,⟨g.ok.fd,fun b hb=>by
   rcases alM.mp hb with hb | hb
   ·obtain⟨o,ho⟩:=x.env.fd.mm b (al8 _ hb)
    exact⟨o,by rw [keep b (amg.mp hb)];exact ho⟩
   ·exact g.ok.mm b hb,x.env.fd.nm⟩,fun b hb=>by
   rcases alM.mp hb with hb | hb
   ·exact keep b (amg.mp hb)
   ·exact g.kp b hb⟩
 exact x.go g2 (x.env.mono g2)
theorem ag9 (h:PSd K f ts (ρ.map (freed f.M.length cs)) { nx:=fun _=>False,rt:=O.rt }):PSm w K f Ds ts ρ cs O:=fun se σ H H2 E x n r b k =>
 h σ H E (x.free se) (fun _ _ _ _ _ z=>z.elim) (fun d v H' g' r' p=>r d v ρ cs σ H' (x.goF se g') r' p) (fun _ _ _ _ _ z=>z.elim) (fun _ _ _ _ _ z=>z.elim)
end
noncomputable def afC (w:World) (K:alg) (f:Fx) (Ds:List Addr) (ts:TS) (ρ:zp) (cs:List OC) (R:List PyData->Prop):Prop:=Sep f Ds->∀ (σ:St) (H H2:Hp) (E:Ends),CM w K f Ds H2 ρ cs σ H ->
 (∀ es D vs ρ' cs' σ' H0 H',CM w K f Ds H2 ρ' cs' σ' H0->Goes f H0 H'->H0 D=none->H' D=some (.lst vs)->Reps K (hide H' (f.with D)) es vs->R es->E.rt (.ref D) H')->ts E σ H
section
variable {w:World} {K:alg} {f:Fx} {Ds:List Addr} {ρ:zp} {cs:List OC} {ts tu:TS} {te:TE} {R:List PyData->Prop} {i:Nat}
theorem air (h:afC w K f [] ts ρ [] R):PSn K f ts ρ R:=fun σ H E e q=>by
 refine h ⟨anv,(fun _ z=>nomatch z),(fun _ z=>nomatch z)⟩ σ H H E ⟨e,Same.refl _,fun _ _=>rfl,rfl,(fun i D c z=>nomatch z)⟩ fun es D vs ρ' cs' σ' H0 H' x g hn h1 rs p=>?_
 have g0:Goes f H H0:=⟨x.sm,x.env.fd,x.kp⟩
 exact q es D vs H' (g0.trans g) (g0.free e.fd hn) h1 rs p
theorem aj8 (h:PSm w K f Ds ts ρ cs { nx:=fun ρ' cs'=>afC w K f Ds tu ρ' cs' R,rt:=fun _=>False }):afC w K f Ds (vj ts tu) ρ cs R:=fun se σ H H2 E x q =>
 h se σ H H2 _ x (fun ρ' cs' σ' H' x' p=>p se σ' H' H2 E x' q) (fun _ _ _ _ _ _ _ _ z=>z.elim) (fun _ _ _ _ _ z=>z.elim) (fun _ _ _ _ _ z=>z.elim)
theorem aha (h:ag5 w K (f.withs Ds) te ρ fun c=>i<ρ.length/\∀ D,afC w K f (Ds++[D]) ts (ρ.set i (some (.own (f.M.length+Ds.length)))) (cs++[c]) R) :
  afC w K f Ds (vj (jJ te (y7 i)) ts) ρ cs R:=fun se σ H H2 E x q =>
 h σ H _ x.env fun c D H1 g1 hn ho ⟨hi,p⟩ =>
  p D (se.more x.env.fd hn) _ H1 H1 E (x.more g1 hn ho hi) fun es D' vs ρ' cs' σ' H0 H' y g hn' h1 rs pr=>q es D' vs _ _ σ' H0 H' (x.less g1 hn y) g hn' h1 rs pr
theorem ais (h:PSn K f ts (ρ.map (freed f.M.length cs)) R):afC w K f Ds ts ρ cs R:=fun se σ H H2 E x q =>
 h σ H E (x.free se) fun es D vs H' g hn h1 rs p=>q es D vs ρ cs σ H H' x g hn h1 rs p
end
theorem SetO.ok {P:Program} {w:World} {H:Hp} {h:Heap} {a:Addr} {xs:List (PyData×Addr)} {o:Obj} {es:Array (Int×Value)} {ep:Nat} {t:SetTable} (S:SetObj w h a xs o es ep t):ObjOk P w H h a (SetO w a xs) :=
 ⟨⟨o,es,ep,t,S⟩,⟨o,S.ob⟩,fun h1 h2 ⟨o,es,ep,t,S⟩ k=>⟨o,es,ep,t,⟨k o S.ob,S.ex,S.da,S.el,S.ok⟩⟩⟩
theorem afD (led:Bool):ST.TOk (SetTable.fresh 0 0 led) [] where
 mask:=.inl rfl
 dum:=rfl
 rise:=fun i j _ hj=>absurd hj (amL _)
 le:=fun i hi=>absurd hi (amL _)
 size:=rfl
 most:=alD _
 reach:=fun i hi=>absurd hi (amL _)
 room:=by show 0 * 5<7 * 3;decide
noncomputable def abI (w:World):List V->Hp->VK->Prop:=fun xs H Q=>xs=[]/\∀ a,H a=none->Q (.ref a) (upd H a (SetO w a []))
theorem acP {X:Cx}:yg X (.type "set") (abI X.w):=by
 intro pins s σ H xs us Q I r h
 obtain⟨rfl,q⟩:=h
 cases r
 refine call_set_0 fun led=>?_
 refine⟨.ref s.heap.objs.size,_,I.laid (t':=s.toks) (fun b u e=>alw _ e) (ali _) (SetO.ok (xs:=[]) (o:={ cls:=.type "set",dict:=none,data:=.set #[] 0 (.fresh 0 0 led) }) (es:=#[]) (ep:=0) (t:=.fresh 0 0 led) ⟨al7 _ rfl,⟨rfl,rfl,rfl⟩,rfl,rfl,afD led⟩),rfl,q _ (I.hok.fresh (ali _))⟩
noncomputable def afE (d:PyData):Prop:=va d/\∃ xs,d=.tuple xs
theorem vU {K:alg} {H:Hp} {d:PyData} {v:V} (k:afE d) (r:Rep K H d v):∃ b,v=.ref b:=by
 obtain⟨_,xs,rfl⟩:=k
 obtain⟨a,_,e,_⟩:=rep_tuple.mp r
 exact⟨a,e⟩
theorem qM {X:Cx} {pins:List (Addr×Obj)} {σ:St} {H:Hp} {s:Shared} {d:PyData} {b:Addr} (I:Inv X pins σ H s) (k:va d) (r:Rep X.K H d (.ref b)):KeyAt s.heap d b:=by
 obtain⟨as,ra⟩:=jB I d (.ref b) (.ref b) r rfl
 exact⟨⟨as,ra⟩,k.1,k.2⟩
noncomputable def aj9 (w:World) (K:alg) (neg:Bool):R2:=fun x y H Q=>∃ a b d xs,x=.ref b/\y=.ref a/\H a=some (SetO w a xs)/\(∀ z∈xs,va z.1/\Rep K H z.1 (.ref z.2))/\va d/\Rep K H d (.ref b)/\Q (.bl (if neg then !decide (d∈xs.map (·.1)) else decide (d∈xs.map (·.1)))) H
theorem ait {X:Cx} (hu:X.A.units+64<cLine) {pins:List (Addr×Obj)} {s:Shared} {σ:St} {H:Hp} {a b:Addr} {d:PyData} {xs:List (PyData×Addr)} (I:Inv X pins σ H s) (hS:H a=some (SetO X.w a xs)) (ks:∀ z∈xs,va z.1/\Rep X.K H z.1 (.ref z.2)) (kd:va d) (rd:Rep X.K H d (.ref b)) {Q:Bool->Shared->Prop} {E:Value->Shared->Prop}
  (q:Q (decide (d∈xs.map (·.1))) { s with toks:=s.toks+zR d }):wpAny (model X.prog X.w) X.A (contains (.ref a) (.ref b)) Q E s:=by
 obtain⟨⟨o,es,ep,t,S⟩,_⟩:=I.hok a _ hS
 exact acO S (fun x hx=>qM I (ks x hx).1 (ks x hx).2) (qM I kd rd) (by omega) q
theorem afF {X:Cx} (hu:X.A.units+64<cLine):OpR X (compareOp .NotIn) (aj9 X.w X.K true):=by
 intro pins s σ H x y v u Q I rx ry h
 obtain⟨a,b,d,xs,rfl,rfl,hS,ks,kd,rd,q⟩:=h
 cases rx
 cases ry
 show wpAny _ _ (do return Value.bool (!(<- contains (.ref a) (.ref b)))) _ _ s
 apply wpAny_bind
 exact ait hu I hS ks kd rd (wpAny_pure ⟨.bl _,H,I.tok _,rfl,q⟩)
theorem adM {X:Cx} {K:alg} {w:World} (hw:X.w=w) (hK:X.K=K) (hu:X.A.units+64<cLine):OpR X (compareOp .NotIn) (aj9 w K true):=hw▸hK▸afF hu
noncomputable def ahb (w:World) (K:alg):V->List V->Hp->VK->Prop:=fun x ys H Q=>∃ a b d xs,x=.ref a/\ys=[.ref b]/\H a=some (SetO w a xs)/\(∀ z∈xs,va z.1/\Rep K H z.1 (.ref z.2))/\va d/\Rep K H d (.ref b)/\xs.length<300 /\
 (d∈xs.map (·.1)->Q .non H)/\(d∉xs.map (·.1)->∀ xs',xs'.Perm ((d,b) :: xs)->Q .non (upd H a (SetO w a xs')))
theorem aiu {X:Cx} (hu:X.A.units+64<cLine):MtR X "set.add" (ahb X.w X.K):=by
 intro pins s σ H x ys v us Q I rx ry h
 obtain⟨a,b,d,xs,rfl,rfl,hS,ks,kd,rd,few,q1,q2⟩:=h
 obtain⟨u,rfl,ru⟩:=vals1 ry
 cases rx
 cases ru
 obtain⟨⟨o,es,ep,t,S⟩,_⟩:=I.hok a _ hS
 refine aj7 S (fun x hx=>qM I (ks x hx).1 (ks x hx).2) (qM I kd rd) (by omega) few (fun hd=>⟨.non,H,I.tok _,rfl,q1 hd⟩) fun hd xs' o' es' ep' t' h' pm sb S'=>?_
 refine⟨.non,_,I.write (t':=s.toks+zR d) (x:=a) (e:=a) (by rw [hS];exact trivial) (.inl rfl) (fun b u nb e=>(sb.2 b nb).trans e) ⟨o',S'.ob⟩ (SetO.ok S'),rfl,q2 hd xs' pm⟩
theorem ahc {X:Cx} {K:alg} {w:World} (hw:X.w=w) (hK:X.K=K) (hu:X.A.units+64<cLine):MtR X "set.add" (ahb w K):=hw▸hK▸aiu hu
theorem abJ {X:Cx} {w:World} (hw:X.w=w):yg X (.type "set") (abI w):=hw▸acP
noncomputable def akT (w:World) (r:V->List V->Hp->VK->Prop) (to:TE) (t:TA):TE:=fun σ H Q=>to σ H fun x H1=>(∃ a xs,x=.ref a/\H1 a=some (SetO w a xs))/\t σ H1 fun xs H2=>r x xs H2 Q
theorem aka {X:Cx} {w:World} {o e:Expr} {es:List Expr} {to:TE} {t:TA} {name:Str} {apos cpos:Pos} {id:String} {r:V->List V->Hp->VK->Prop} (hw:X.w=w) (slot:Slot "set" name id) (hty:typeOf (.builtin id)=pure (.type "method_descriptor")) (hm:MtR X id r) (ho:PE X o to) (ha:PA X (e :: es) t)
  (hbase:attributeBase o name X.env (eval o X.env)=eval o X.env:=by rfl)
  (hfew:((backTo cpos (starEach (e :: es) X.env)).all (fun x=>!x.1) && (backToKw cpos (keywordEach [] X.env)).all (fun x=>x.1.isSome)
   && decide ((e :: es).length+([]:List Keyword).length+(if ([]:List Keyword).isEmpty then 0 else 1)<30))=true:=by rfl)
  (hline:(apos.endLine == cpos.line)=true:=by rfl) (hs:starEach (e :: es) X.env=(false,eval e X.env) :: starEach es X.env:=by rfl) (hplain:(backTo cpos (starEach es X.env)).any (·.1)=false:=by rfl) :
  PE X (.Call (.Attribute o name apos) (e :: es) [] cpos) (akT w r to t):=by
 subst hw
 intro pins s σ H Q I h
 refine wpAny_Call_method_late hbase hfew hline rfl (thn (ho pins s σ H _ I h) fun v s1 ⟨x,H1,I1,r1,ty,q1⟩=>?_)
 obtain⟨a,xs,rfl,hS⟩:=ty
 cases r1
 obtain⟨⟨ob,es',ep,t',S⟩,_⟩:=I1.hok a _ hS
 refine⟨"set",id,PySem.F.plainAttrs_set,slot,hty,⟨ob,S.ob,S.ex.1⟩,fun b e=>?_,?_⟩
 ·cases e
  exact⟨ob,S.ob,S.ex.2.1⟩
 have hA:=ha cpos pins s1 σ H1 _ I1 q1
 rw [hs] at hA ⊢
 refine aoP (by show (false || (backTo cpos (starEach es X.env)).any (·.1))=false;rw [hplain] <;> rfl) (ao1 ?_)
 exact thn hA fun us s2 ⟨vs,H2,I2,r2,q2⟩=>hm pins s2 σ H2 (.ref a) vs (.ref a) us Q I2 rfl r2 q2
section
variable {w:World} {K:alg} {f:Fx} {Ds:List Addr} {ρ:zp} {cs:List OC} {te:TE} {O:MEnds} {i j:Nat} {ks:List PyData}
theorem akb {P:OC->Prop} (p:P (.set [])):ag5 w K f (tCB (abI w) jZ) ρ P:=fun σ H Q e q =>
 ⟨rfl,fun a hn=>q (.set []) a _ (.of_same (z4 hn _) e.fd) hn ⟨[],zB,(fun _ z=>nomatch z),(fun d=>Iff.rfl),ali 0⟩ p⟩
theorem akU {neg:Bool} {B:Bool->Prop} (hi:ρ[i]?=some (some (.own (f.M.length+j)))) (hc:cs[j]?=some (.set ks)) (h:PEm w K f Ds te ρ cs fun d=>afE d/\B (if neg then !decide (d∈ks) else decide (d∈ks))) :
  PTm w K f Ds (agc (tOp (aj9 w K neg) te (yw i))) ρ cs B:=fun se σ H H2 Q x q=>by
 have hj:j<Ds.length:=by rw [<-x.len];exact (alf.mp hc).1
 have hD:Ds[j]?=some Ds[j]:=alb hj
 refine h se σ H H2 _ x fun d v H1 g1 r1 ⟨kd,p⟩=>?_
 have x1:=x.go g1 (x.env.mono g1)
 obtain⟨b,rfl⟩:=vU kd r1
 obtain⟨xs,h1,h2,h3,_⟩:=x1.own j _ _ hD hc
 refine⟨_,jQ hi x1 hD,Ds[j],b,d,xs,rfl,rfl,h1,fun z hz=>⟨(h2 z hz).1,Rep.mono (zj _ _) _ _ (h2 z hz).2⟩,kd.1,Rep.mono (zj _ _) _ _ r1,_,rfl,?_⟩
 have:decide (d∈xs.map (·.1))=decide (d∈ks):=decide_eq_decide.mpr (h3 d)
 rw [this]
 exact q _ H1 g1 p
theorem akV (hi:ρ[i]?=some (some (.own (f.M.length+j)))) (hc:cs[j]?=some (.set ks)) (hl:ks.length<300) (h:PEm w K f Ds te ρ cs fun d=>afE d/\(d∈ks->O.nx ρ cs)/\(d∉ks->O.nx ρ (cs.set j (.set (d :: ks))))) :
  PSm w K f Ds (ab5 (akT w (ahb w K) (yw i) (yx te jZ))) ρ cs O:=fun se σ H H2 E x n r b k=>by
 have hj:j<Ds.length:=by rw [<-x.len];exact (alf.mp hc).1
 have hD:Ds[j]?=some Ds[j]:=alb hj
 obtain⟨xs0,h0,_⟩:=x.own j _ _ hD hc
 refine⟨_,jQ hi x hD,⟨Ds[j],xs0,rfl,h0⟩,?_⟩
 refine h se σ H H2 _ x fun d v H1 g1 r1 ⟨kd,p1,p2⟩=>?_
 have x1:=x.go g1 (x.env.mono g1)
 obtain⟨b,rfl⟩:=vU kd r1
 obtain⟨xs,h1,h2,h3,h4⟩:=x1.own j _ _ hD hc
 refine⟨Ds[j],b,d,xs,rfl,rfl,h1,fun z hz=>⟨(h2 z hz).1,Rep.mono (zj _ _) _ _ (h2 z hz).2⟩,kd.1,Rep.mono (zj _ _) _ _ r1,by omega,fun hd=>n _ _ _ _ x1 (p1 ((h3 d).mp hd)),fun hd xs' pm=>n _ _ _ _ (x1.put se hD (c':=.set (d :: ks)) ⟨xs',zB,fun z hz=>?_,fun e=>?_,?_⟩) (p2 fun z=>hd ((h3 d).mpr z))⟩
 ·rcases alp.mp (pm.mem_iff.mp hz) with rfl | hz
  ·exact⟨kd.1,r1⟩
  ·exact h2 z hz
 ·rw [(pm.map (·.1)).mem_iff,alI,alp,alp,h3 e]
 ·rw [pm.length_eq,alC,alC]
  omega
end
theorem DicO.ok {P:Program} {w:World} {H:Hp} {h:Heap} {a:Addr} {xs:List (PyData×Addr×Value)} {o:Obj} {es:Array DictEntry} {ep:Nat} (S:DicObj w h a xs o es ep):ObjOk P w H h a (DicO w a xs) :=
 ⟨⟨o,es,ep,S⟩,⟨o,S.ob⟩,fun h1 h2 ⟨o,es,ep,S⟩ k=>⟨o,es,ep,⟨k o S.ob,S.ex,S.da,S.el,S.nd,S.ns⟩⟩⟩
theorem aiv {X:Cx} {pins:List (Addr×Obj)} {σ:St} {H:Hp} {s:Shared} (I:Inv X pins σ H s):sysModules<s.heap.objs.size :=
 apj (by decide) (I.ok.mod.glob.keeps I.bk).lt
noncomputable def aeG (w:World):TE:=fun _ H Q=>∀ p,H p=none->Q (.ref p) (upd H p (DicO w p []))
theorem afG {X:Cx} {w:World} {pos:Pos} (hw:X.w=w):PE X (.Dict [] [] pos) (aeG w):=by
 subst hw
 intro pins s σ H Q I h
 refine wpAny_Dict_empty ⟨.ref s.heap.objs.size,_,I.laid (a:=s.heap.objs.size) (t':=s.toks) (fun _ _ q=>alw _ q) (ali _) (DicO.ok (xs:=[]) (o:={ cls:=.type "dict",data:=.dict #[] }) (es:=#[]) (ep:=0) ⟨al7 _ rfl,⟨rfl,rfl,rfl⟩,rfl,rfl,anv,beq_eq_false_iff_ne.mpr (amF (al1 (aiv I)))⟩),rfl,h _ (I.hok.fresh (ali _))⟩
noncomputable abbrev abK (K:alg) (H:Hp) (xs:List (PyData×Addr×Value)):Prop:=∀ z∈xs,va z.1/\Rep K H z.1 (.ref z.2.1)
theorem ahd {X:Cx} {pins:List (Addr×Obj)} {σ:St} {H:Hp} {s:Shared} {a:Addr} {xs:List (PyData×Addr×Value)} (I:Inv X pins σ H s) (hS:H a=some (DicO X.w a xs)) (ks:abK X.K H xs):s.heap.DictOfH (vT X.prog X.w) a xs/\(a == sysModules)=false:=by
 obtain⟨⟨o,es,ep,S⟩,_⟩:=I.hok a _ hS
 exact⟨⟨o,es,ep,S.ob,S.ex,S.da,S.el,fun x hx=>qM I (ks x hx).1 (ks x hx).2,S.nd⟩,S.ns⟩
noncomputable def abL (w:World) (K:alg):V->V->V->Hp->(Hp->Prop)->Prop:=fun o i v H Q=>∃ a b d xs,o=.ref a/\i=.ref b/\H a=some (DicO w a xs)/\abK K H xs/\va d/\Rep K H d (.ref b)/\xs.length<=1000/\∀ u,RelV v u->Q (upd H a (DicO w a (storedH xs d b u)))
theorem aiw {X:Cx} (hu:X.A.units+64<cLine):ahP X (abL X.w X.K):=by
 intro pins s σ H o i v ov iv u Q I ro ri rv h
 obtain⟨a,b,d,xs,rfl,rfl,hS,ks,kd,rd,hl,q⟩:=h
 cases ro
 cases ri
 obtain⟨hm,ns⟩:=ahd I hS ks
 have hu1:X.A.in1.units=X.A.units+1:=rfl
 refine wpAny_setItem_heap (by show _+40<cLine;omega) (qM I kd rd) hm (fun h' hm' sb=>?_) (amM (ye hl))
 obtain⟨o',es',ep',x1,x2,x3,x4,x5,x6⟩:=hm'
 exact⟨_,I.write (t':=s.toks+zR d) (x:=a) (e:=a) (by rw [hS];exact trivial) (.inl rfl) (fun b u nb e=>(sb.2 b nb).trans e) ⟨o',x1⟩ (DicO.ok ⟨x1,x2,x3,x4,x6,ns⟩),q u rv⟩
theorem acQ {X:Cx} {K:alg} {w:World} (hw:X.w=w) (hK:X.K=K) (hu:X.A.units+64<cLine):ahP X (abL w K):=hw▸hK▸aiw hu
noncomputable def adN (w:World) (K:alg):R2:=fun x y H Q=>∃ a b d xs p v,x=.ref a/\y=.ref b/\H a=some (DicO w a xs)/\abK K H xs/\va d/\Rep K H d (.ref b)/\atKey xs d=some p/\RelV v p.2/\Q v H
theorem akc {X:Cx} (hu:X.A.units+64<cLine):IxR X (adN X.w X.K):=by
 intro value slice pins s σ H x y v u Q I rx ry h hs
 obtain⟨a,b,d,xs,p,z,rfl,rfl,hS,ks,kd,rd,hp,rz,q⟩:=h
 cases rx
 cases ry
 obtain⟨hm,ns⟩:=ahd I hS ks
 have hu1:X.A.in1.units=X.A.units+1:=rfl
 refine subscriptTail_builtinR (x:=p.2) hm.typeIs aoB.lookup ?_ hs
 exact wpAny_getItem_heap (by show _+40<cLine;omega) (qM I kd rd) hm hp ⟨rfl,z,H,I.tok _,rz,q⟩
theorem aix {X:Cx} {K:alg} {w:World} (hw:X.w=w) (hK:X.K=K) (hu:X.A.units+64<cLine):IxR X (adN w K):=hw▸hK▸akc hu
noncomputable def dput (k v:PyData) (kvs:List (PyData×PyData)):List (PyData×PyData):=if k∈kvs.map (·.1) then kvs.map (fun p=>if p.1=k then (p.1,v) else p) else kvs++[(k,v)]
noncomputable def vb (k:PyData) (kvs:List (PyData×PyData)):Option PyData:=(kvs.find? fun p=>decide (p.1=k)).map (·.2)
section
variable {K:alg} {Hh:Hp}
theorem aeH:∀ {xs:List (PyData×Addr×Value)} {kvs:List (PyData×PyData)},Paired (EntR K Hh) xs kvs->xs.length=kvs.length
 | _,_,.nil=>rfl
 | _,_,.cons _ t=>by rw [alC,alC,aeH t]
theorem qd:∀ {xs:List (PyData×Addr×Value)} {kvs:List (PyData×PyData)},Paired (EntR K Hh) xs kvs->abK K Hh xs
 | _,_,.nil=>fun z hz=>nomatch hz
 | _,_,.cons h t=>fun z hz=>by
  rcases alp.mp hz with rfl | hz
  ·exact⟨h.2.1,h.2.2.1⟩
  ·exact qd t z hz
theorem abM (k:PyData):∀ {xs:List (PyData×Addr×Value)} {kvs:List (PyData×PyData)},Paired (EntR K Hh) xs kvs->(atKey xs k=none/\vb k kvs=none/\k∉kvs.map (·.1)) \/ ∃ p d v,atKey xs k=some p/\vb k kvs=some d/\Rep K Hh d v/\RelV v p.2/\k∈kvs.map (·.1)
 | _,_,.nil=>.inl ⟨rfl,rfl,fun z=>nomatch z⟩
 | x :: xs,p :: kvs,.cons ⟨h1,h2,h3,v,h4,h5⟩ t=>by
  by_cases e:x.1=k
  ·refine .inr ⟨x.2,p.2,v,?_,?_,h4,h5,?_⟩
   ·unfold atKey;rw [aok,decide_eq_true e];rfl
   ·unfold vb;rw [aok,decide_eq_true (h1▸e)];rfl
   ·rw [alI];exact alp.mpr (.inl (h1▸e).symm)
  ·have e':¬ p.1=k:=fun z=>e (h1.trans z)
   have a1:atKey (x :: xs) k=atKey xs k:=by unfold atKey;rw [aok,decide_eq_false e]
   have a2:vb k (p :: kvs)=vb k kvs:=by unfold vb;rw [aok,decide_eq_false e']
   rw [a1,a2,alI]
   rcases abM k t with⟨b1,b2,b3⟩ | ⟨q,d,u,b1,b2,b3,b4,b5⟩
   ·exact .inl ⟨b1,b2,fun z=>(alp.mp z).elim (fun z=>e' z.symm) b3⟩
   ·exact .inr ⟨q,d,u,b1,b2,b3,b4,alm _ b5⟩
theorem aeI (k:PyData) {d:PyData} {v:V} {u:Value} (rd:Rep K Hh d v) (rv:RelV v u):∀ {xs:List (PyData×Addr×Value)} {kvs:List (PyData×PyData)},Paired (EntR K Hh) xs kvs->Paired (EntR K Hh) (xs.map (putAt k u)) (kvs.map fun p=>if p.1=k then (p.1,d) else p)
 | _,_,.nil=>.nil
 | x :: xs,p :: kvs,.cons ⟨h1,h2,h3,w,h4,h5⟩ t=>by
  rw [alI,alI]
  refine .cons ?_ (aeI k rd rv t)
  unfold putAt
  by_cases e:x.1=k
  ·rw [if_pos e,if_pos (h1▸e)]
   exact⟨h1,h2,h3,v,rd,rv⟩
  ·rw [if_neg e,if_neg (fun z=>e (h1.trans z))]
   exact⟨h1,h2,h3,w,h4,h5⟩
theorem aeJ {x:PyData×Addr×Value} {p:PyData×PyData} (h:EntR K Hh x p):∀ {xs:List (PyData×Addr×Value)} {kvs:List (PyData×PyData)},Paired (EntR K Hh) xs kvs->Paired (EntR K Hh) (xs++[x]) (kvs++[p])
 | _,_,.nil=>.cons h .nil
 | _,_,.cons h' t=>.cons h' (aeJ h t)
theorem aiy {k d:PyData} {b:Addr} {v:V} {u:Value} (kk:va k) (rk:Rep K Hh k (.ref b)) (rd:Rep K Hh d v) (rv:RelV v u) {xs:List (PyData×Addr×Value)} {kvs:List (PyData×PyData)} (t:Paired (EntR K Hh) xs kvs):Paired (EntR K Hh) (storedH xs k b u) (dput k d kvs):=by
 unfold storedH dput
 rcases abM k t with⟨b1,b2,b3⟩ | ⟨q,d',v',b1,b2,b3,b4,b5⟩
 ·rw [b1,if_neg (by simp),if_neg b3]
  exact aeJ ⟨rfl,kk,rk,v,rd,rv⟩ t
 ·rw [b1,if_pos (show (some q).isSome=true from rfl),if_pos b5]
  exact aeI k rd rv t
end
section
variable {w:World} {K:alg} {f:Fx} {Ds:List Addr} {ρ:zp} {cs:List OC} {te tk:TE} {O:MEnds} {i j:Nat} {kvs:List (PyData×PyData)}
theorem akd {P:OC->Prop} (p:P (.dic [])):ag5 w K f (aeG w) ρ P:=fun σ H Q e q =>
 fun a hn=>q (.dic []) a _ (.of_same (z4 hn _) e.fd) hn ⟨[],zB,.nil⟩ p
theorem ajj (hi:ρ[i]?=some (some (.own (f.M.length+j)))) (hc:cs[j]?=some (.dic kvs)) (hl:kvs.length<=1000)
  (h:PEd K (f.withs Ds) te ρ fun v=>PEd K (f.withs Ds) tk ρ fun k=>afE k/\O.nx ρ (cs.set j (.dic (dput k v kvs)))) :
  PSm w K f Ds (jJ te (ab7 (yw i) tk (abL w K))) ρ cs O:=fun se σ H H2 E x n r b k=>by
 have hj:j<Ds.length:=by rw [<-x.len];exact (alf.mp hc).1
 have hD:Ds[j]?=some Ds[j]:=alb hj
 refine h σ H _ x.env fun v vv H1 g1 r1 p1=>?_
 have x1:=x.go g1 (x.env.mono g1)
 refine⟨_,jQ hi x1 hD,?_⟩
 refine p1 σ H1 _ x1.env fun kd kv H3 g3 r3 ⟨kt,p3⟩=>?_
 have x3:=x1.go g3 (x1.env.mono g3)
 obtain⟨b',rfl⟩:=vU kt r3
 obtain⟨xs,h1,h2⟩:=x3.own j _ _ hD hc
 have rv:=Rep.mono g3.sm _ _ r1
 refine⟨Ds[j],b',kd,xs,rfl,rfl,h1,fun z hz=>⟨(qd h2 z hz).1,Rep.mono (zj _ _) _ _ (qd h2 z hz).2⟩,kt.1,Rep.mono (zj _ _) _ _ r3,by rw [aeH h2];exact hl,fun u ru=>?_⟩
 exact n _ _ _ _ (x3.put se hD (c':=.dic (dput kd v kvs)) ⟨_,zB,aiy kt.1 r3 rv ru h2⟩) p3
theorem akW {P:PyData->Prop} (hi:ρ[i]?=some (some (.own (f.M.length+j)))) (hc:cs[j]?=some (.dic kvs)) (h:PEm w K f Ds tk ρ cs fun k=>afE k/\∃ d,vb k kvs=some d/\P d):PEm w K f Ds (tOp (adN w K) (yw i) tk) ρ cs P:=fun se σ H H2 Q x q=>by
 have hj:j<Ds.length:=by rw [<-x.len];exact (alf.mp hc).1
 have hD:Ds[j]?=some Ds[j]:=alb hj
 refine⟨_,jQ hi x hD,?_⟩
 refine h se σ H H2 _ x fun k v H1 g1 r1 ⟨kt,d,hd,p⟩=>?_
 have x1:=x.go g1 (x.env.mono g1)
 obtain⟨b,rfl⟩:=vU kt r1
 obtain⟨xs,h1,h2⟩:=x1.own j _ _ hD hc
 rcases abM k h2 with⟨b1,b2,b3⟩ | ⟨pp,d',v',b1,b2,b3,b4,b5⟩
 ·rw [b2] at hd;cases hd
 ·rw [b2] at hd
  cases hd
  exact⟨Ds[j],b,k,xs,pp,v',rfl,rfl,h1,fun z hz=>⟨(qd h2 z hz).1,Rep.mono (zj _ _) _ _ (qd h2 z hz).2⟩,kt.1,Rep.mono (zj _ _) _ _ r1,b1,b4,q _ _ H1 g1 b3 p⟩
theorem akX (h:PEm w K f Ds te ρ cs O.rt):PSm w K f Ds (ae8 te) ρ cs O:=fun se σ H H2 E x n r b k =>
 h se σ H H2 _ x fun d v H' g' r' p=>r d v ρ cs σ H' (x.go g' (x.env.mono g')) (Rep.mono same_withs d v r') p
end
noncomputable def aiz (K:alg) (ns:List Int) (v:Value):Bool:=match v with
 | .ref t=>(match K.lookup t with
  | some o=>o.cls == .type "tuple" && (match o.data with
   | .seq its _=>KTD.intsLook its.toList ns && decide (its.size<=1000)
   | _=>false)
  | none=>false)
 | _=>false
noncomputable def afH (K:alg) (a:Addr) (D:List (Str×List Int)):Bool:=!(a == sysModules) && (match K.lookup a with
 | some o=>o.cls == .type "dict" && o.dict.isNone && o.slots.isEmpty && (match o.data with
  | .dict es _=>KTD.rowsLook (aiz K) es.toList D
  | _=>false)
 | none=>false)
theorem aa3:∀ {vs:List Value} {ns:List Int},IntsAre vs ns->Vals (ns.map V.int) vs
 | _,_,.nil=>.nil
 | _,_,.cons n t h=>.cons ⟨t,rfl⟩ (aa3 h)
theorem ake {K:alg} {ns:List Int} {v:Value} (h:aiz K ns v=true):∃ t,v=.ref t/\∀ H,SqT K H t (ns.map V.int):=by
 unfold aiz at h
 split at h
 ·rename_i t
  split at h
  ·rename_i o ho
   rw [alu] at h
   obtain⟨h1,h2⟩:=h
   split at h2
   ·rename_i its n hd
    rw [alu] at h2
    exact⟨t,rfl,fun H=>.inr ⟨o,its,n,ho,beq_iff_eq.mp h1,hd,amM (ye (of_decide_eq_true h2.2)),aa3 (KTD.ints_of_look h2.1)⟩⟩
   ·cases h2
  ·cases h
 ·cases h
noncomputable def akY (K:alg) (D:List (Str×List Int)) (tk:TE):TE:=fun σ H Q=>tk σ H fun y H1=>∃ x ns,y=.str x/\ao7 x D=some ns/\∀ t,(∀ H',SqT K H' t (ns.map V.int))->Q (.ref t) H1
theorem ahe {X:Cx} {K:alg} {x:Str} {a:Addr} {D:List (Str×List Int)} {key:Expr} {tk:TE} {p pos:Pos} (hK:X.K=K) (hg:Gl X x) (hm:X.mg x=some (.ref a)) (hT:afH K a D=true) (hk:PE X key tk) (hs:ad8 key) (hd:(x == ("__debug__":Str))=false:=by decide) :
  PE X (.Subscript (.Name x p) key pos) (akY K D tk):=by
 subst hK
 intro pins s σ H Q I h
 unfold afH at hT
 rw [alu] at hT
 obtain⟨h0,hT⟩:=hT
 split at hT
 case h_2=>cases hT
 case h_1 o ho =>
  simp only [alu] at hT
  obtain⟨⟨⟨e1,e2⟩,e3⟩,e4⟩:=hT
  split at e4
  case h_2=>cases e4
  case h_1 es ep hdat =>
   have rows:KTD.Rows (fun ns v=>aiz X.K ns v=true) es.toList D:=KTD.rows_of_look (fun _ _ z=>z) e4
   refine Subscript_ (abe I hg hm ?_ hd)
   refine thn (hk pins s σ H _ I h) fun u s1 ⟨y,H1,I1,ry,z,ns,ey,dat,q⟩=>?_
   subst ey
   obtain⟨tk',rfl⟩:=ry
   have ho1:s1.heap.get? a=some o:=I1.kIn a o ho
   have hT1:s1.TypeIs (.ref a) "dict":=⟨o,ho1,beq_iff_eq.mp e1⟩
   obtain⟨v,hv,hr⟩:=rows.find_some dat
   obtain⟨t,rfl,sq⟩:=ake hr
   refine subscriptTail_builtinR (x:=.ref t) hT1 aoB.lookup ?_ (hs _ _)
   unfold getItem
   try with_reducible refine wpAny_holding ?_
   apply wpAny_bind;refine wpAny_sequenceKey hT1 (by decide) ?_
   apply wpAny_bind
   refine wpAny_callSpecial?_slot (name:=Str.ofString "__getitem__") hT1 slot_dict_getitem (wpAny_call_entry slot_dict_getitem hT1 entry_dict_getitem ?_ (args_dict_getitem _ _))
   show wpAny _ _ (dictGet a (.str z tk') >>= _) _ _ s1
   apply wpAny_bind
   unfold dictGet
   try with_reducible refine wpAny_holding ?_
   apply wpAny_bind;apply wpAny_pyHash_str
   apply wpAny_bind
   refine KTD.kt_dictFind_strs (s:={ s1 with toks:=s1.toks+1 }) ho1 hdat (by obtain⟨l⟩:=es;simpa using rows.exact) ?_
   cases hi:es.findIdx? fun e=>e.key.isStr z with
   | none =>
    exfalso
    have hn:es.toList.find? (fun e=>e.key.isStr z)=none:=by
     rw [List.find?_eq_none]
     intro e he
     have:=Array.findIdx?_eq_none_iff.mp hi e (ans.mp he)
     simpa using this
    rw [hn] at hv
    cases hv
   | some i =>
    obtain⟨hlt,hi1,hi2⟩:=Array.findIdx?_eq_some_iff_getElem.mp hi
    have hval:es[i].val=.ref t:=by
     have hf:es.toList.find? (fun e=>e.key.isStr z)=some es[i]:=by
      rw [List.find?_eq_some_iff_getElem]
      refine⟨hi1,i,by simpa using hlt,by simp,fun j hj=>?_⟩
      have:=hi2 j hj
      simpa using this
     rw [hf] at hv
     exact Option.some.inj hv
    apply wpAny_bind
    refine wpAny_dictEntries (s:={ s1 with toks:=s1.toks+1 }) ho1 hdat (wpAny_pure ?_)
    rw [aoA hlt]
    refine wpAny_pure ⟨es[i].val,rfl,wpAny_pure ?_⟩
    rw [hval]
    exact⟨rfl,.ref t,H1,I1.tok _,rfl,q t sq⟩
section
variable {K:alg} {f:Fx} {ρ:zp} {P:PyData->Prop} {tk:TE} {D:List (Str×List Int)}
theorem ajk (h:PEd K f tk ρ fun y=>∃ x ns,y=.str x/\ao7 x D=some ns/\P (.tuple (ns.map .int))):PEd K f (akY K D tk) ρ P:=fun σ H Q e q =>
 h σ H _ e fun y v H1 g1 r1 ⟨x,ns,ey,hd,p⟩=>by
  subst ey
  exact⟨x,ns,rep_str.mp r1,hd,fun t sq=>q _ _ H1 g1 (rep_tuple.mpr ⟨t,ns.map V.int,rfl,sq _,Reps.ints' ns⟩) p⟩
end
structure MinAt (h0:Heap) (its:List Value) (ds:List PyData) (as:List Addr):Prop where
 ra:ReadsAll h0 its ds as
 pl:∀ d∈ds,zt d=true
 cp:∀ d∈ds,∀ e∈ds,qW d e=true
 dp:∀ d∈ds,d.depth<=50
section
variable {w:World} {K:alg} {f:Fx} {Ds:List Addr} {ρ:zp} {cs:List OC} {O:MEnds} {tt:TT} {te:TE} {i j n:Nat}
theorem afI {H H' H2:Hp} {σ:St} (se:Sep f Ds) (x:CM w K f Ds H2 ρ cs σ H) (g:Goes f H H'):Goes (f.withs Ds) H H':=by
 have kp:∀ D∈Ds,H' D=H D:=fun D hD=>by
  obtain⟨o,ho⟩:=x.env.fd.mm D (y6 hD)
  have h1:hide H f D=some o:=zv (fun z=>z.elim (se.nf D hD) (se.nm D hD)) ho
  rw [ho,(zG (g.sm D o h1)).2]
 refine⟨fun b o hb=>?_,⟨fun p e=>?_,fun b hb=>?_,x.env.fd.nm⟩,fun b hb=>?_⟩
 ·obtain⟨n1,n2⟩:=zG hb
  have h1:hide H f b=some o:=zv (fun z=>n1 (z.elim .inl fun z=>.inr (alx _ z))) n2
  exact zv n1 (zG (g.sm b o h1)).2
 ·exact g.2.fd p e
 ·rcases alM.mp hb with h | h
  ·rw [kp b (amg.mp h)]
   exact x.env.fd.mm b hb
  ·exact g.2.mm b h
 ·rcases alM.mp hb with h | h
  ·exact kp b (amg.mp h)
  ·exact g.kp b h
theorem aeK {B:Bool->Prop} (h:PTd K f tt (ρ.map (freed f.M.length cs)) B):PTm w K f Ds tt ρ cs B:=fun se σ H H2 Q x q =>
 h σ H Q (x.free se) fun b H' g p=>q b H' (afI se x g) p
noncomputable abbrev aeL (K:alg):List V->Hp->VK->Prop:=fun xs H Q=>∃ p ys,xs=[V.ref p]/\(SqL K H p ys \/ SqT K H p ys)/\∀ l,H l=none->Q (V.ref l) (upd H l (HO.lst ys))
theorem akf {es:List PyData} (hi:ρ[i]?=some (some (.own (f.M.length+j)))) (hc:cs[j]?=some (.lst es)) (hn:n<ρ.length) (h:O.nx (ρ.set n (some (.dat (.list es)))) cs):PSm w K f Ds (jJ (tCB (aeL K) (yx (yw i) jZ)) (y7 n)) ρ cs O:=fun se σ H H2 E x nn r b k=>by
 have hj:j<Ds.length:=by
  rw [<-x.len]
  exact (alf.mp hc).1
 have hD:Ds[j]?=some Ds[j]:=alb hj
 have hs:=jQ hi x hD
 obtain⟨vs,h1,h2⟩:=x.own j _ _ hD hc
 refine⟨_,hs,Ds[j],vs,rfl,.inl (.inl (.inl h1)),fun l hl=>?_⟩
 have g2:Goes (f.withs Ds) H (upd H l (.lst vs)):=.of_same (z4 hl _) x.env.fd
 refine nn _ cs _ _ (x.go g2 ?_) h
 refine (x.env.mono g2).set n (x:=.dat (.list es)) ?_
 show Rep K (hide (upd H l (.lst vs)) (f.withs Ds)) (.list es) (.ref l)
 refine rep_list.mpr ⟨l,vs,rfl,.inl (.inl ?_),Reps.mono g2.sm _ _ h2⟩
 refine zv (fun z=>?_) zB
 obtain⟨o,ho⟩:∃ o,H l=some o:=z.elim (fun e=>let⟨a,b,h3,_⟩:=x.env.fd.fd l e;⟨_,h3⟩) fun e=>x.env.fd.mm l e
 rw [hl] at ho
 cases ho
end
end L2
end
section
namespace L2
open PySem PySem.Spec PyProof.Rows
structure TM (K:alg) (f:Fx) (a:Addr) (as:List Addr) (H2:Hp) (ρ:zp) (rows:List (List Int)) (σ:St) (H:Hp):Prop where
 env:EnvOk K (f.withs (a :: as)) ρ σ H
 sm:Same (hide H2 (f.withs (a :: as))) (hide H (f.withs (a :: as)))
 kp:∀ b∈f.M,H b=H2 b
 tab:TabAt H a as rows
end L2
end
section
namespace L2
open PySem PySem.Spec PyProof.Rows
end L2
end
section
namespace L2
open PySem PySem.Spec PyProof.Rows
end L2
end
section
namespace L2
open PySem PySem.Spec PyProof.Rows
end L2
end
section
namespace L2
open PySem PySem.Spec PyProof.Rows
open PySem.SeqAt
open PySem.AutoSeq1 (wpAny_loadPart')
noncomputable def ak8 (A:Around) (s:Shared) (y x:Value) (b:Bool):Prop :=
 ∀ (prog:Program) (w:World) (E:Value->Shared->Prop) (Q:Value->Shared->Prop),Q (.bool b) s->wpAny (model prog w) A (richCompare .GtE y x) Q E s
inductive Gex (A:Around) (s:Shared):List Value->List Value->Bool->Prop where
 | nn:Gex A s [] [] true
 | eq {v w vs ws b}:EqAt A s v w true->Gex A s vs ws b->Gex A s (v :: vs) (w :: ws) b
 | ge {v w vs ws b}:EqAt A s v w false->ak8 A s v w b->vs.length=ws.length->Gex A s (v :: vs) (w :: ws) b
noncomputable def ak9 (o:Obj):Option Value:=match o.data with
 | .fields vs=>vs[2]?
 | _=>none
local macro_rules | `(tactic| walk_at "kd")=>`(tactic| with_reducible first
  | assumption
  | exact kd_pure _
  | exact kd_uns _
  | exact kd_load _
  | exact kd_loadPart _ _
  | exact kd_stack
  | exact kd_alloc _
  | exact kd_reg _
  | apply kd_ite
  | apply kd_bind
  | intro _
  | split)
noncomputable def Dct (a:Addr) (o:Option Addr) (h:Heap):Prop:=∃ u,h.get? a=some u/\ak9 u=some .none/\∀ dx,o=some dx->u.dict=some dx
noncomputable def CXf (P:Program) (w:World):CXT:=fun outer H s E e s'=>∃ a C o H',e=.ref a/\XLie P w outer H s a C H' s'/\Dct a o s'.heap/\E C o H'
noncomputable def ajl (a:Addr) (C:Value) (o:Option Addr) (h:Heap):Prop:=∃ t,h.get? a=some { cls:=C,dict:=o,data:=.fields #[.ref t,.none,.none,.none,.bool false,.none] }
end L2
end
section
namespace L2
open PySem PySem.Spec PyProof.Rows PySem.Builtin Builtin Builtin.ObjectAttr
noncomputable def ahf (K:alg) (C f:Addr) (bmB:List Value) (newId:String):Bool :=
 match K.lookup C with
 | some ⟨c0,_,.cls cd,sl⟩=>c0 == .type "type" && cd.mro.head? == some (.ref C) && cd.hasDel == false && cd.hasDict && PySem.W.tailIn K bmB cd.mro.tail && PySem.W.nsOkIn K cd.ns && al3 K cd.ns "__init__" == some (some (.ref f))
   && sl.toList.length == 6 && sl.toList[4]? == some (some (.builtin newId))
 | _=>false
structure XCls (h:Heap) (C f:Addr) (bmB:List Value) (newId:String):Prop where
 ex:∃ nm q N bs bm sn sub ab col dd k0 k1 k2 k3 k5 mN,h.get? C=some (excClassObj nm q C N bs bm true sn sub ab col dd k0 k1 k2 k3 k5 newId)/\h.Ns N mN/\mN "__init__"=some (.ref f)/\OwnTail h bmB bm
end L2
end
section
namespace L2
open PySem PySem.Spec PySem.W PyProof.Rows PySem.Calls PySem.Builtin Builtin Builtin.ObjectAttr
noncomputable abbrev bare (C:Addr) (o:Option Addr) (t:Addr):Obj:={ cls:=.ref C,dict:=o,data:=.fields #[.ref t,.none,.none,.none,.bool false,.none] }
noncomputable abbrev bmV:List Value:=[.type "ValueError",.type "Exception",.type "BaseException",.type "object"]
structure FldC (K:alg) (C f D:Addr) (name:Str):Prop where
 wi:ahf K C f bmV "ValueError.__new__"=true
 fn:PySem.W.typeIn K (.ref f)=some (.type "function")
 ob:PySem.W.mroIn K C (.type "object")=some true
 sa:anb K (.ref C) "__setattr__"=some (some (.builtin "object.__setattr__"))
 na:anb K (.ref C) name=some none
 rd:PySem.W.readsIn K D (.type "type")=true
 sp:aoE K (.ref D) "__getattribute__"=some (some (.builtin "type.__getattribute__"))
 kp:amr K (.ref C)=true
 fi:PySem.W.findCls K (.ref D) (.type "type") "__init__"=some (.val (.builtin "ValueError.__init__"))
section
variable {X:Cx} {pins:List (Addr×Obj)} {σ:St} {H H':Hp} {s s':Shared} {h':Heap} {a b dx C D f:Addr} {o:HO} {t':Nat} {name:Str}
noncomputable def akg (C:Addr) (name:Str):Sp:=fun vs H Q _=>∃ a y,vs=[.ref a,y]/\H a=some (.ext (ajl a (.ref C) none))/\∀ dx,H dx=none->dx≠a->Q .non (upd (upd H dx (.xd [(name,y)])) a (.ext (ajl a (.ref C) (some dx))))
end
end L2
end
section
namespace L2
open PySem PySem.Spec PyProof.Rows
end L2
end
section
namespace L2
open PySem PySem.Spec PySem.W PyProof.Rows PySem.Calls PySem.Builtin Builtin Builtin.ObjectAttr Builtin.Getset_descriptor
noncomputable abbrev XD:=Option (Str×PyData)
structure FnInF (P:Program) (w:World) (K:alg) (mg:Str->Option Value) (base:Heap) (k:Nat) (x:Str) (ps:List Str) (sp:Sp):Prop where
 ex:∃ (f:Addr) (fd:FuncData),FnOk P w K mg base (CXf P w) k f fd ps sp/\mg x=some (.ref f)/\amr K (.ref f)=true/\Binds K fd ps []
structure FCls (K:alg) (mg:Str->Option Value) (x base:Str) (C:Addr) (name:Str) (st:Stmt) (ps:List Str):Prop where
 ex:∃ (f D:Addr) (fd:FuncData),FldC K C f D name/\mg x=some (.ref C)/\mg base=some (.ref D)/\Fun K "__init__" (x ++ ".__init__") st f fd/\Binds K fd ps []
structure InitOk (P:Program) (w:World) (K:alg) (mg:Str->Option Value) (base:Heap) (k:Nat) (C:Addr) (name:Str):Prop where
 ex:∃ (f D:Addr) (fd:FuncData) (ps:List Str),FldC K C f D name/\FnOk P w K mg base CX0 k f fd ps (akg C name)/\Binds K fd ps []
section
variable {w:World} {K:alg} {f:Fx} {Ds:List Addr} {ts:TS} {te tk:TE} {ρ:zp} {cs:List OC} {O:MEnds} {i j n:Nat}
theorem akZ (h:PEm w K f Ds te ρ cs fun d=>O.nx (ρ.set n (some (.dat d))) cs):PSm w K f Ds (jJ te (y7 n)) ρ cs O:=fun se σ H H2 E x nn r b k =>
 h se σ H H2 _ x fun d v H1 g1 r1 p1=>by
  have x1:=x.go g1 (x.env.mono g1)
  exact nn _ cs _ H1 ⟨x1.env.set n (x:=.dat d) r1,x1.sm,x1.kp,x1.len,x1.own⟩ p1
end
structure RoomM (k:Nat) (A:Around):Prop where
 dp:A.depth+3 * k+5<recursionLimit
 un:A.units+16 * k+200<cLine
structure FnOkM (P:Program) (w:World) (K:alg) (mg:Str->Option Value) (base:Heap) (k:Nat) (f:Addr) (fd:FuncData) (ps:List Str) (sp:Addr->Sp):Prop where
 len:∀ a vs H Q E,sp a vs H Q E->vs.length=ps.length
 run:∀ (A:Around) (outer:List Env) (s:Shared) (H:Hp) (args:Args) (us:List Value) (vs:List V) (Q:VK) (a:Addr),A.handled=some (.ref a)->RoomM k A->Env0 P w K mg base A outer s H->BindsTo s fd args (ps.zip us)->Vals vs us->sp a vs H Q E0 ->
  codeAny (model P w) A (.call (.ref f) args) (CR CX0 outer P w H s Q E0) s
structure FnInM (P:Program) (w:World) (K:alg) (mg:Str->Option Value) (base:Heap) (k:Nat) (x:Str) (ps:List Str) (sp:Addr->Sp):Prop where
 ex:∃ (f:Addr) (fd:FuncData),FnOkM P w K mg base k f fd ps sp/\mg x=some (.ref f)/\amr K (.ref f)=true/\Binds K fd ps []
structure TN (K:alg) (f:Fx) (a:Addr) (as:List Addr) (H2:Hp) (ρ:zp) (R:Option (List (List Int))) (σ:St) (H:Hp):Prop where
 env:EnvOk K (f.withs (a :: as)) ρ σ H
 sm:Same (hide H2 (f.withs (a :: as))) (hide H (f.withs (a :: as)))
 kp:∀ b∈f.M,H b=H2 b
 tab:∀ rows,R=some rows->TabAt H a as rows
end L2
end
section
namespace L2
open PySem PySem.Spec PyProof.Rows
section
variable {w:World} {K:alg} {f:Fx} {Ds:List Addr} {ρ:zp} {cs:List OC} {g:TG} {ts:TS} {O:MEnds} {i j:Nat}
theorem akh {es:List PyData} (hi:ρ[i]?=some (some (.own (f.M.length+j)))) (hc:cs[j]?=some (.lst es)) (J:Nat->zp->Prop) (j0:J 0 ρ)
  (js:∀ (n:Nat) e ρ',es[n]?=some e->J n ρ'->PGd K (f.withs Ds) g e ρ' fun ρ2=>PSm w K f Ds ts ρ2 cs { O with nx:=fun ρ3 cs3=>cs3=cs/\J (n+1) ρ3,ct:=fun ρ3 cs3=>cs3=cs/\J (n+1) ρ3,bk:=O.nx }) (jd:∀ ρ',J es.length ρ'->O.nx ρ' cs) :
  PSm w K f Ds (afa (ab8 K (yw i)) g ts) ρ cs O:=fun se σ H H2 E x n r b k=>by
 have hj:j<Ds.length:=by rw [<-x.len];exact (alf.mp hc).1
 have hD:Ds[j]?=some Ds[j]:=alb hj
 obtain⟨vs0,h0,_⟩:=x.own j _ _ hD hc
 refine⟨_,jQ hi x hD,Ds[j],rfl,⟨vs0,.of h0⟩,?_⟩
 refine⟨fun q m σ' H'=>∃ ρ',CM w K f Ds H ρ' cs σ' H'/\J q ρ'/\m+q=es.length,⟨es.length,ρ,x.self,j0,rfl⟩,fun q m σ' H' ⟨ρ',x',p,hm⟩=>?_⟩
 obtain⟨vs,g1,g2⟩:=x'.own j _ _ hD hc
 have hl2:=g2.length
 by_cases hq:q<es.length
 ·obtain⟨z2,hz2,rz2⟩:=g2.get (alb hq)
  refine .inr ⟨⟨vs,z2,.of g1,hz2⟩,fun σ3 H3=>∃ ρ3,CM w K f Ds H ρ3 cs σ3 H3/\J (q+1) ρ3,fun σ3 H3 ⟨ρ3,x3,p3⟩=>⟨m - 1,by omega,ρ3,x3,p3,by omega⟩,fun v H3 hy=>?_⟩
  obtain⟨rfl,hy2⟩:=hy
  have e2:=hy2 vs (.of g1)
  rw [hz2] at e2
  cases e2
  refine js q _ ρ' (alb hq) p σ' _ _ _ x'.env rz2 fun ρ4 σ4 H4 g4 e4 p4=>?_
  have x4:=x'.go g4 e4
  exact p4 se σ4 H4 H _ x4 (fun ρ5 cs5 σ5 H5 x5 ⟨ec,p5⟩=>⟨ρ5,ec▸x5,p5⟩) (fun d v ρ5 cs5 σ5 H5 x5=>r d v ρ5 cs5 σ5 H5 (x.trans x5)) (fun ρ5 cs5 σ5 H5 x5=>n ρ5 cs5 σ5 H5 (x.trans x5)) (fun ρ5 cs5 σ5 H5 x5 ⟨ec,p5⟩=>⟨ρ5,ec▸x5,p5⟩)
 ·have ei:q=es.length:=by omega
  subst ei
  exact .inl ⟨⟨vs,.of g1,ani hl2⟩,n ρ' cs σ' H' (x.trans x') (jd ρ' p)⟩
end
structure GoesW (f:Fx) (As:List Addr) (H2 H':Hp):Prop where
 sm:Same (hide H2 (f.withs As)) (hide H' f)
 ok:FOk f H'
 kp:∀ b∈f.M,H' b=H2 b
structure FnAt (P:Program) (w:World) (K:alg) (mg:Str->Option Value) (base:Heap) (CX:CXT) (k:Nat) (a:Addr) (sp:Sp):Prop where
 ex:∃ (fd:FuncData) (ps:List Str),FnOk P w K mg base CX k a fd ps sp/\amr K (.ref a)=true/\Binds K fd ps []
end L2
end
section
namespace L2
open PySem PySem.Spec PyProof.Rows
end L2
end
section
namespace L2
open PySem PySem.Spec PyProof.Rows
structure Src (prog:Program) (w:World) (j:Addr) (xs:Array Value) (dep:List Addr) (St:Nat->Heap->Prop):Prop where
 own:j∈dep
 keep:∀ {k:Nat} {h h':Heap},St k h->(∀ c∈dep,∀ o,h.get? c=some o->h'.get? c=some o)->St k h'
 there:∀ {k:Nat} {h:Heap},St k h->∃ o,h.get? j=some o
 item:∀ {A:Around} {E:Value->Shared->Prop} {s:Shared} {k:Nat} {x:Value} {Q:Value->Shared->Prop},St k s.heap->xs[k]?=some x->(∀ h',St (k+1) h'->anf j s.heap h'->Q x { s with heap:=h' })->wpAny (model prog w) A (aoC (.ref j)) Q E s
 stop:∀ {A:Around} {E:Value->Shared->Prop} {s:Shared} {k:Nat} {Q:Value->Shared->Prop},A.handled=none->St k s.heap->xs[k]?=none->(∀ h' e,Heap.ExtBut j s.heap h'->(∃ o,h'.get? e=some o/\o.cls=.type "StopIteration")->E (.ref e) { s with heap:=h' })->wpAny (model prog w) A (aoC (.ref j)) Q E s
section
variable {prog:Program} {w:World} {A:Around} {E:Value->Shared->Prop} {s:Shared}
structure Far (z q1 q2 j1 j2:Addr) (e1 e2:List Addr):Prop where
 q1z:q1≠z
 q2z:q2≠z
 q12:q1≠q2
 j12:j1≠j2
 q1j1:q1≠j1
 q1j2:q1≠j2
 z1:z∉e1
 z2:z∉e2
 o1:q2∉e1
 o2:q2∉e2
 d12:j2∉e1
 d21:j1∉e2
end
end L2
end
section
namespace L2
open PySem PySem.Spec PyProof.Rows
end L2
end
section
namespace L2
open PySem PySem.Spec PyProof.Rows
section
variable {K:alg} {f:Fx} {ρ:zp} {R:List DV->Prop} {i j m n:Nat} {d0 d1 d2 d3:PyData}
theorem ala (h0:ρ[i]?=some (some (.dat d0))) (h:R [.dat d0]):PAd K f (yx (yw i) jZ) ρ R:=yh (zM h0 (jk h))
theorem ak0 (h0:ρ[i]?=some (some (.dat d0))) (h1:ρ[j]?=some (some (.dat d1))) (h:R [.dat d0,.dat d1]):PAd K f (yx (yw i) (yx (yw j) jZ)) ρ R:=yh (zM h0 (ala h1 h))
end
section
variable {w:World} {K:alg} {f:Fx} {Ds:List Addr} {ρ:zp} {cs:List OC} {ts tu:TS} {tt:TT} {te:TE} {R:List PyData->Prop} {i j:Nat}
theorem ahg (h:PEd K f te ρ fun x=>∃ ds,(x=.list ds \/ x=.tuple ds)/\R ds):PEdO K f (tCB (aeL K) (yx te jZ)) ρ R:=fun σ H Q e q =>
 h σ H _ e fun x v H1 g1 r1 ⟨ds,hx,p⟩=>by
  have key:∃ a xs,v=.ref a/\(SqL K H1 a xs \/ SqT K H1 a xs)/\Reps K (hide H1 f) ds xs:=by
   rcases hx with rfl | rfl
   ·obtain⟨a,xs,rfl,h1,h2⟩:=rep_list.mp r1
    exact⟨a,xs,rfl,.inl ((zj _ _).seq h1),h2⟩
   ·obtain⟨a,xs,rfl,h1,h2⟩:=rep_tuple.mp r1
    exact⟨a,xs,rfl,.inr ((zj _ _).seqT h1),h2⟩
  obtain⟨a,xs,rfl,h1,h2⟩:=key
  refine⟨a,xs,rfl,h1,fun l hn=>?_⟩
  have g2:Goes f H1 (upd H1 l (.lst xs)):=.of_same (z4 hn _) g1.ok
  refine q ds l xs _ (g1.trans g2) (g1.free e.fd hn) zB (Reps.mono (fun b o hb=>?_) ds xs h2) p
  obtain⟨n1,n2⟩:=zG hb
  have nl:b≠l:=fun z=>by rw [z,hn] at n2;cases n2
  refine zv (fun z=>?_) (by rw [zx nl];exact n2)
  rcases z with z | z
  ·exact n1 (.inl z)
  ·rcases alp.mp z with z | z
   ·exact nl z
   ·exact n1 (.inr z)
end
theorem vc {α β:Type} {F:α->β} {l:List β} {m:List α} (h:l.Perm (m.map F)):∃ m':List α,m'.Perm m/\l=m'.map F:=by
 generalize e:m.map F=k at h
 induction h generalizing m with
 | nil=>exact⟨m,.refl _,e.symm⟩
 | cons x _ ih =>
  cases m with
  | nil=>cases e
  | cons a m =>
   injection e with e1 e2
   obtain⟨m',p,r⟩:=ih e2
   exact⟨a :: m',p.cons a,by rw [alI,e1,r]⟩
 | swap x y l =>
  cases m with
  | nil=>cases e
  | cons a m =>
   cases m with
   | nil=>injection e with _ e;cases e
   | cons b m =>
    injection e with e1 e2
    injection e2 with e2 e3
    exact⟨b :: a :: m,.swap a b m,by rw [alI,alI,e1,e2,e3]⟩
 | trans _ _ ih1 ih2 =>
  obtain⟨m',p,r⟩:=ih2 e
  obtain⟨m'',p',r'⟩:=ih1 r.symm
  exact⟨m'',p'.trans p,r'⟩
noncomputable abbrev FD (K:alg) (x:Str) (st:Stmt) (f:Addr) (od an:Option Addr) (sl:Array (Option Value)) (oc kV dc pm cd ct:Value):Prop:=al3 K mainGlobals x=some (some (.ref f))/\K.lookup f=some ⟨oc,od,.func (amx x x (yL st) (yl st) (zi st) .none kV dc pm an cd ct),sl⟩/\aot K cd x=true/\amr K (.ref f)=true
theorem aki {K:alg} {h:Heap} {mg:Str->Option Value} {x:Str} {st:Stmt} {f:Addr} {od an:Option Addr} {sl:Array (Option Value)} {oc kV dc pm cd ct:Value} (X:K.In h) (G:h.Ns mainGlobals mg) (a:FD K x st f od an sl oc kV dc pm cd ct) {ps:List Str}
  (hb:∀ (kV doc pm:Value) (an:Option Addr) (cdv ct:Value) (us:List Value),us.length=ps.length->bindArgs (amx x x (yL st) (yl st) (zi st) .none kV doc pm an cdv ct) ⟨us,[]⟩=pure (ps.zip us)):Def K mg x st ps :=
 ⟨f,_,adt a.2.1 a.2.2.1 a.2.2.2,(adt (st:=st) a.2.1 a.2.2.1 a.2.2.2).binds hb,amR X G a.1⟩
end L2
end
section
namespace L2
open PySem PySem.Spec PyProof.Rows
end L2
end
section
open PySem PySem.Spec PyProof.Rows
namespace L2
end L2
end
section
namespace L2
open PySem PySem.Spec PyProof.Rows
end L2
end
section
namespace L2
open PySem PySem.Spec PyProof.Rows
end L2
end
section
namespace L2
open PySem PySem.Spec PyProof.Rows
structure TQ (K:alg) (f:Fx) (a:Addr) (as:List Addr) (H2:Hp) (ρ:zp) (rows:List (List PyData)) (σ:St) (H:Hp):Prop where
 env:EnvOk K (f.withs (a :: as)) ρ σ H
 sm:Same (hide H2 (f.withs (a :: as))) (hide H (f.withs (a :: as)))
 kp:∀ b∈f.M,H b=H2 b
 top:H a=some (.lst (as.map .ref))
 nd:(a :: as).Nodup
 len:as.length=rows.length
 row:∀ (i:Nat) x r,as[i]?=some x->rows[i]?=some r->∃ vs,H x=some (.lst vs)/\Reps K (hide H (f.withs (a :: as))) r vs
end L2
end
section
namespace My
open PySem PySem.Spec PyProof.Rows L2
noncomputable abbrev pf:List Str:=["rows","cut","gate"]
noncomputable abbrev ph:List Str:=["rows","cut","cell"]
noncomputable abbrev pj:List Str:=["rows"]
noncomputable abbrev pq:List Str:=["rows","x","y"]
noncomputable abbrev pA:List Str:=["rows","cut"]
noncomputable abbrev pB:List Str:=["gate","rows","cut"]
noncomputable abbrev pE:List Str:=["things"]
noncomputable abbrev pF:List Str:=["rows","cut","point"]
noncomputable abbrev pG:List Str:=["_law_feed_here","_law_many"]
noncomputable abbrev pH:List Str:=["x","y"]
noncomputable abbrev pI:List Str:=["rows","gate"]
noncomputable abbrev pJ:List Str:=["_law_feed_here","_law_far","_law_base"]
noncomputable abbrev pK:List Str:=["rows","cut","start"]
noncomputable abbrev pL:List Str:=["_law_script","_law_k"]
noncomputable abbrev pM:List Str:=["_law_feed_here"]
noncomputable abbrev pN:List Str:=["_law_feed_here","_law_rows"]
noncomputable abbrev pO:List Str:=["_law_rows","_law_cut_here"]
noncomputable abbrev pP:List Str:=["_law_script"]
noncomputable abbrev pQ:List Str:=["x","y","way"]
noncomputable abbrev pR:List Str:=["rows","cut","gate","across","down"]
noncomputable abbrev pS:List Str:=["_law_y","_law_feed_here","_law_wide","_law_far","_law_base"]
noncomputable abbrev pV:List Str:=["_law_x","_law_feed_here","_law_far","_law_base"]
local macro_rules | `(tactic| walk_at "w")=>`(tactic| repeat walk_at "dl")
local macro_rules | `(tactic| walk_at "s")=>`(tactic| exact⟨rfl,rfl,rfl,by decide +kernel,rfl,by decide +kernel,by decide +kernel⟩)
noncomputable def top (i:Nat):Stmt:=PySem.Challenge.pw_heightrings_k11_whole_each_gate_once.main.body.getD i (.Pass ⟨0,0,0,0⟩)
noncomputable abbrev abN:=top 1
noncomputable abbrev akj:List Str:=pj
theorem aiA:FnScope akj pj (zi abN):=by walk_at "s"
noncomputable abbrev vd:=top 2
noncomputable abbrev ahh:List Str:=["rows","wide","tall"]
theorem sc_points:FnScope ahh pj (zi vd):=by walk_at "s"
noncomputable abbrev jq:=top 3
noncomputable abbrev acR:List Str:=["rows","x","y","wide","tall"]
theorem sc_has_point:FnScope acR pq (zi jq):=by walk_at "s"
noncomputable abbrev jR:=top 4
noncomputable abbrev adO:List Str:=pq
theorem acS:FnScope adO pq (zi jR):=by walk_at "s"
noncomputable abbrev qr:=top 5
noncomputable abbrev afJ:List Str:=pH
theorem adP:FnScope afJ pH (zi qr):=by walk_at "s"
noncomputable abbrev jr:=top 14
noncomputable abbrev acT:List Str:=["rows","at","row"]
theorem sc_ask_table:FnScope acT pj (zi jr):=by walk_at "s"
noncomputable abbrev abO:=top 15
noncomputable abbrev akk:List Str:=pE
theorem aiB:FnScope akk pE (zi abO):=by walk_at "s"
noncomputable abbrev ve:=top 16
noncomputable abbrev ahi:List Str:=["row"]
theorem afK:FnScope ahi ["row"] (zi ve):=by walk_at "s"
noncomputable abbrev vV:=top 20
noncomputable abbrev aiC:List Str:=["rows","cut","sides"]
theorem sc_gates:FnScope aiC pA (zi vV):=by walk_at "s"
noncomputable abbrev yO:=top 21
noncomputable abbrev aaG:List Str:=["rows","cut","point","x","y"]
theorem sc_stands_high:FnScope aaG pF (zi yO):=by walk_at "s"
noncomputable abbrev yP:=top 22
noncomputable abbrev aaH:List Str:=["gate","x","y","way"]
theorem sc_gate_points:FnScope aaH ["gate"] (zi yP):=by walk_at "s"
noncomputable abbrev jS:=top 23
noncomputable abbrev adQ:List Str:=pI
theorem acU:FnScope adQ pI (zi jS):=by walk_at "s"
noncomputable abbrev qs:=top 24
noncomputable abbrev afL:List Str:=["rows","cut","gate","first","second"]
theorem sc_is_open:FnScope afL pf (zi qs):=by walk_at "s"
noncomputable abbrev yX:=top 25
noncomputable abbrev abP:List Str:=["cell","x","y"]
theorem sc_cell_gates:FnScope abP ["cell"] (zi yX):=by walk_at "s"
noncomputable abbrev yY:=top 26
noncomputable abbrev abQ:List Str:=ph
theorem aaI:FnScope abQ ph (zi yY):=by walk_at "s"
noncomputable abbrev yn:=top 27
noncomputable abbrev vf:List Str:=["rows","cut","cell","x","y"]
theorem sc_has_high_middle:FnScope vf ph (zi yn):=by walk_at "s"
noncomputable abbrev jt:=top 28
noncomputable abbrev acV:List Str:=["rows","cut","cell","through"]
theorem sc_cell_ties:FnScope acV ph (zi jt):=by walk_at "s"
noncomputable abbrev yF:=top 29
noncomputable abbrev aas:List Str:=["rows","cut","cell","above","left","below","right"]
theorem sc_crossed_ties:FnScope aas ph (zi yF):=by walk_at "s"
noncomputable abbrev qt:=top 30
noncomputable abbrev afM:List Str:=["rows","cut","gate","x","y","way","near_is_high"]
theorem sc_heading:FnScope afM pf (zi qt):=by walk_at "s"
noncomputable abbrev yZ:=top 31
noncomputable abbrev abR:List Str:=pR
theorem sc_cell_ahead:FnScope abR pf (zi yZ):=by walk_at "s"
noncomputable abbrev jT:=top 32
noncomputable abbrev adR:List Str:=pR
theorem sc_comes_in:FnScope adR pf (zi jT):=by walk_at "s"
noncomputable abbrev y3:=top 33
noncomputable abbrev abS:List Str:=["rows","cut","gate","x","y","partners","one","other"]
theorem sc_gate_ahead:FnScope abS pf (zi y3):=by walk_at "s"
noncomputable abbrev vW:=top 35
noncomputable abbrev aiD:List Str:=["rows","cut","through","starts","told","passed","start","line","gate"]
theorem sc_lines:FnScope aiD pA (zi vW):=by walk_at "s"
noncomputable abbrev ju:=top 36
noncomputable abbrev acW:List Str:=["rows","cut","start","path","gate"]
theorem sc_line_from:FnScope acW pK (zi ju):=by walk_at "s"
noncomputable abbrev jU:=top 38
noncomputable abbrev qN:List Str:=["_law_script","_law_k","_law_cell"]
theorem sc_law_feed:FnScope qN pL (zi jU):=by walk_at "s"
noncomputable abbrev jV:=top 39
noncomputable abbrev adS:List Str:=["_law_feed_here","_law_many","_law_found"]
theorem sc_law_draw:FnScope adS pG (zi jV):=by walk_at "s"
noncomputable abbrev y4:=top 40
noncomputable abbrev abT:List Str:=pJ
theorem aaJ:FnScope abT pJ (zi y4):=by walk_at "s"
noncomputable abbrev jv:=top 41
noncomputable abbrev acX:List Str:=["_law_feed_here","_law_wide","_law_high","_law_far","_law_base"]
theorem sc_law_table:FnScope acX pM (zi jv):=by walk_at "s"
noncomputable abbrev qu:=top 42
noncomputable abbrev afN:List Str:=["_law_feed_here","_law_rows","_law_row"]
theorem sc_law_cut:FnScope afN pN (zi qu):=by walk_at "s"
noncomputable abbrev jw:=top 44
noncomputable abbrev acY:List Str:=["_law_rows","_law_cut_here","_law_found","_law_x","_law_y"]
theorem sc_law_gates:FnScope acY pO (zi jw):=by walk_at "s"
noncomputable abbrev vL:=top 45
noncomputable abbrev aeM:List Str:=["_law_script","_law_k","_law_feed_here","_law_rows","_law_kept","_law_cut_here","_law_found","_law_some","_law_word","_law_path","_law_due"]
theorem sc_law:FnScope aeM pP (zi vL):=by walk_at "s"
noncomputable def tab (rows:List (List Int)):PyData:=.list (rows.map fun r=>.list (r.map .int))
structure Good (w:Nat) (rows:List (List Int)):Prop where
 h1:2<=rows.length
 h2:rows.length<=7
 w1:2<=w
 w2:w<=7
 row:∀ r∈rows,r.length=w
 hgt:∀ r∈rows,∀ n∈r,-1000000000<=n/\n<=1000000000
theorem Good.ne {w:Nat} {rows:List (List Int)} (g:Good w rows):∃ r rs,rows=r :: rs:=by
 cases rows with
 | nil=>have:=g.h1;simp at this
 | cons r rs=>exact⟨r,rs,rfl⟩
theorem yQ {α β:Type} {F:α->β} {xs:List α} {k:Int} {j:Nat} (hk:(j:Int)=k) (h:j<xs.length):atI (xs.map F) k=some (F xs[j]):=by
 subst hk
 exact ad7 (by rw [alv,alb h];rfl)
local macro_rules | `(tactic| walk_at "dl")=>`(tactic| first
 | (with_reducible show PSd _ _ (jJ _ (ab7 (yw _) (tC (V.int 0)) aac)) _ _;refine aef rfl ?_)
 | (with_reducible show PSd _ _ (jJ _ (ab7 (yw _) (tC (V.int 1)) aac)) _ _;refine aeg rfl ?_)
 | with_reducible refine yH ?_ | with_reducible refine agA ?_ | with_reducible refine qB ?_ | with_reducible refine yo ?_ | with_reducible refine abp ?_ | with_reducible refine acm ?_
 | with_reducible refine zq ?_ | with_reducible refine jC rfl ?_ | with_reducible refine zD ?_ | with_reducible refine yB ?_
 | with_reducible refine yT ?_ | with_reducible refine t_b ?_ | with_reducible refine agt ?_ | with_reducible refine ahY ?_ | with_reducible refine ack ?_ | with_reducible refine j7 ?_
 | with_reducible refine aed ?_ | with_reducible refine agq ?_ | with_reducible refine ai8 ?_ | with_reducible refine agp ?_ | with_reducible refine qQ ?_
 | with_reducible refine ahZ ?_ | with_reducible refine adw ?_ | with_reducible refine d_orV ?_ | with_reducible refine agu ?_
 | with_reducible refine acj ?_ | with_reducible refine akH ?_ | with_reducible refine ago ?_ | with_reducible refine ai7 ?_
 | (with_reducible show PEd _ _ (yw _) _ _;refine zM rfl ?_)
 | (with_reducible show PEd _ _ (tOp (afg _) (yw _) _) _ _;refine ai9 rfl ?_)
 | with_reducible refine aeb ?_ | with_reducible refine agr ?_
 | (with_reducible show PAd _ _ (yx (yw _) _) _ _;refine ags rfl ?_)
 | with_reducible refine yh ?_ | with_reducible refine jk ?_
 | with_reducible refine aaf ?_ | with_reducible refine aec ?_ | with_reducible refine aee ?_ | with_reducible refine agv ?_ | with_reducible refine agw ?_ | with_reducible refine agx ?_ | with_reducible refine agy ?_
 | (with_reducible show (∃ _,_) \/ (∃ _,_);refine Or.inl ⟨_,rfl,?_⟩) | refine⟨_,rfl,?_⟩ | refine⟨_,_,rfl,?_⟩
 | (with_reducible show (_=_/\∀ _,_) \/ _;first | refine Or.inl ⟨rfl,fun a ha=>?_⟩ | refine Or.inr ⟨rfl,fun b hb hb'=>?_⟩)
 | refine⟨rfl,?_⟩
 | (refine And.intro ?side ?_;(case side=>first | omega | exact Int.ediv_nonneg (by omega) (by omega) | exact aoi _ (by omega) | exact amU _ (by omega) | decide | exact⟨by decide,by decide,by decide⟩ | exact⟨by omega,by omega⟩ | exact Or.inl ⟨by omega,by omega⟩ | exact Or.inr ⟨by omega,by omega⟩ | (refine alV (ani (by rfl)) (show _<=1000 by decide)) | ((repeat' apply And.intro) <;> first | rfl | omega | decide | assumption) | (simp [apk]))))
section
variable {P:Program} {w:World} {K:alg} {mg:Str->Option Value} {base:Heap} {k:Nat}
theorem aiE (F:Def K mg "size" abN pj) (uaa:mg "len"=none):FnIn P w K mg base (k+1) "size" pj (spD K 1 (fun (c:List (List Int)×Nat) xs=>xs=[.dat (tab c.1)]/\Good c.2 c.1) fun c r=>r=.tuple [.int c.2,.int c.1.length]):=by
 refine F.ok aiA rfl fun fa cdv A outer s H E hr=>⟨_,(zk (zy (zL (za (zz (zT (K:=K) rfl) rfl uaa amh (za (zP (zw (K:=K) rfl) (pv 0) ze (fun _ _=>rfl)) zb)) (za (zz (zT (K:=K) rfl) rfl uaa amh (za (pv 0) zb)) zb))))),?_⟩
 rintro f xs ⟨rows,wd⟩ hl ⟨rfl,g⟩
 try dsimp only [yj,zh]
 obtain⟨r,rs,rfl⟩:=g.ne
 walk_at "w"
 refine⟨_,yQ (j:=0) rfl (by simp),?_⟩
 walk_at "w"
 have hw:=g.row r als
 show PyData.tuple [.int _,.int _]=_
 rw [ale,ale]
 show PyData.tuple [.int (r.length:Nat),_]=_
 rw [hw]
theorem aiF (F:Def K mg "fits" abO pE) (uaa:mg "len"=none) (uaj:∃ t,mg "FEWEST"=some (.int 2 t)) (uak:∃ t,mg "MOST"=some (.int 7 t)) :
  FnIn P w K mg base (k+1) "fits" pE (spD K 1 (fun (c:List PyData) xs=>xs=[.dat (.list c)]) fun c r=>r=.bool (decide (2<=c.length/\c.length<=7))):=by
 obtain⟨_,uaj⟩:=uaj
 obtain⟨_,uak⟩:=uak
 refine F.ok aiB rfl fun fa cdv A outer s H E hr=>⟨_,(zk (zy (v9 aaM aaM (qS rfl uaj) (zz (zT (K:=K) rfl) rfl uaa amh (za (pv 0) zb)) (qS rfl uak)))),?_⟩
 rintro f xs ds hl rfl
 try dsimp only [yj,zh]
 walk_at "w"
 by_cases h:2<=ds.length
 ·rw [if_pos (by simp;omega)]
  walk_at "w"
  show PyData.bool _=_
  congr 1
  by_cases h7:ds.length<=7 <;> simp [h,h7] <;> omega
 ·rw [if_neg (by simp;omega)]
  show PyData.bool _=_
  congr 1
  simp [h]
theorem afO (F:Def K mg "is_row" ve ["row"]) (uad:mg "min"=none) (uaf:mg "max"=none) (ual:∃ t,mg "LEAST"=some (.int (-1000000000) t)) (uam:∃ t,mg "GREATEST"=some (.int 1000000000 t))
  (uau:FnIn P w K mg base k "fits" pE (spD K 1 (fun (c:List PyData) xs=>xs=[.dat (.list c)]) fun c r=>r=.bool (decide (2<=c.length/\c.length<=7)))) :
  FnIn P w K mg base (k+1) "is_row" ["row"] (spD K 1 (fun (c:List Int) xs=>xs=[.dat (.list (c.map .int))]) fun c r=>r=.bool (decide (2<=c.length/\c.length<=7/\∀ n∈c,-1000000000<=n/\n<=1000000000))):=by
 obtain⟨_,ual⟩:=ual
 obtain⟨_,uam⟩:=uam
 refine F.ok afK rfl fun fa cdv A outer s H E hr=>⟨_,(zk (zy (abg (zg uau hr rfl (za (pv 0) zb)) (abg (yV aaM (qS rfl ual) (zz (afp (K:=K) rfl rfl) rfl uad boot_min (za (pv 0) zb)) (zO _)) (adm (yV aaM (zz (afq (K:=K) rfl rfl) rfl uaf boot_max (za (pv 0) zb)) (qS rfl uam) (zO _))))))),?_⟩
 rintro f xs c hl rfl
 try dsimp only [yj,zh]
 walk_at "w"
 refine zu (c.map .int) ?_
 walk_at "w"
 rintro r rfl
 rw [ale]
 walk_at "w"
 by_cases h:2<=c.length/\c.length<=7
 ·have hne:c≠[]:=by rintro rfl;simp at h
  rw [if_pos (by simpa using h)]
  walk_at "w"
  intro M hM hM'
  walk_at "w"
  by_cases h2:-1000000000<=M
  ·rw [if_pos (by simpa using h2)]
   walk_at "w"
   intro M' hN hN'
   walk_at "w"
   show PyData.bool _=_
   congr 1
   rw [decide_eq_decide]
   refine⟨fun q=>⟨h.1,h.2,fun n hn=>⟨Int.le_trans h2 (hM' n hn),Int.le_trans (hN' n hn) q⟩⟩,fun q=>(q.2.2 M' hN).2⟩
  ·rw [if_neg (by simpa using h2)]
   show PyData.bool _=_
   congr 1
   symm
   rw [decide_eq_false_iff_not]
   exact fun q=>h2 (q.2.2 M hM).1
 ·rw [if_neg (by simpa using h)]
  show PyData.bool _=_
  congr 1
  symm
  rw [decide_eq_false_iff_not]
  exact fun q=>h ⟨q.1,q.2.1⟩
noncomputable abbrev ahj (K:alg):Sp:=spD K 1 (fun (c:List (List Int)×Nat) xs=>xs=[.dat (tab c.1)]/\Good c.2 c.1) fun _ r=>r=.bool true
theorem akl (F:Def K mg "ask_table" jr pj) (uaa:mg "len"=none) (uav:mg "enumerate"=none)
  (uau:FnIn P w K mg base k "fits" pE (spD K 1 (fun (c:List PyData) xs=>xs=[.dat (.list c)]) fun c r=>r=.bool (decide (2<=c.length/\c.length<=7))))
  (ua4:FnIn P w K mg base k "is_row" ["row"] (spD K 1 (fun (c:List Int) xs=>xs=[.dat (.list (c.map .int))]) fun c r=>r=.bool (decide (2<=c.length/\c.length<=7/\∀ n∈c,-1000000000<=n/\n<=1000000000)))) :
  FnIn P w K mg base (k+1) "ask_table" pj (ahj K):=by
 refine F.ok sc_ask_table rfl fun fa cdv A outer s H E hr=>⟨_,(zf (yG (v3 (yA (K:=K) rfl (zg uau hr rfl (za (pv 0) zb)) (fun _=>rfl))) (zk ab6) z5) (zf (jL amu rfl (agF (K:=K) rfl rfl uav (za (pv 0) zb)) (yc (K:=K) (n:=2) rfl rfl (zm (zl (i:=1) sc_ask_table.nd rfl (Or.inl rfl) (Or.inr rfl)) (zm (zl (i:=2) sc_ask_table.nd rfl (Or.inl rfl) (Or.inr rfl)) z6))) (zk (yG (PW.pt (af5 (zS (jO (K:=K) rfl hr.units) (zz (zT (K:=K) rfl) rfl uaa amh (za (pv 2) zb)) (zz (zT (K:=K) rfl) rfl uaa amh (za (zP (zw (K:=K) rfl) (pv 0) ze (fun _ _=>rfl)) zb)) (zO _)) (adk (v3 (yA (K:=K) rfl (zg ua4 hr rfl (za (pv 2) zb)) (fun _=>rfl)))))) (zk ab6) z5))) (zk (zy vZ)))),?_⟩
 rintro f xs ⟨rows,wd⟩ hl ⟨rfl,g⟩
 try dsimp only [yj,zh]
 have g1:=g.h1
 have g2:=g.h2
 walk_at "w"
 refine zu (rows.map fun r=>.list (r.map .int)) ?_
 walk_at "w"
 rintro r rfl
 dsimp only at g1 g2
 refine⟨_,rfl,?_⟩
 rw [ale,decide_eq_true ⟨g1,g2⟩,amb,if_neg ald]
 walk_at "w"
 refine adx ?_
 walk_at "w"
 refine⟨fun i ρ=>∃ a b,ρ=[some (.dat (tab rows)),a,b],⟨_,_,rfl⟩,?_,?_⟩
 ·rintro i d ρ hd ⟨a,b,rfl⟩
  rw [alv] at hd
  cases hr:rows[i]? with
  | none=>rw [hr] at hd;cases hd
  | some r =>
   rw [hr] at hd
   cases hd
   have hm:=alB hr
   have hw:=g.row r hm
   obtain⟨r0,rs,hrs⟩:=g.ne
   dsimp only at hrs
   subst hrs
   have hw0:=g.row r0 als
   walk_at "w"
   refine⟨_,yQ (j:=0) rfl (by simp),?_⟩
   walk_at "w"
   dsimp only at hw hw0
   rw [if_pos rfl,ale,ale]
   show (if (!(((r.length:Nat):Int) == ((r0.length:Nat):Int)))=true then _ else _)
   rw [hw,hw0,beq_self_eq_true,amb,if_neg ald]
   walk_at "w"
   refine zu r ?_
   walk_at "w"
   rintro _ rfl
   refine⟨_,rfl,?_⟩
   have w1:=g.w1
   have w2:=g.w2
   dsimp only at w1 w2
   rw [decide_eq_true ⟨by omega,by omega,g.hgt r hm⟩,amb,if_neg ald]
   walk_at "w"
   exact⟨_,_,rfl⟩
 ·rintro ρ ⟨a,b,rfl⟩
  walk_at "w"
  rfl
theorem aiG (F:Def K mg "_law_draw" jV pG):FnIn P w K mg base (k+1) "_law_draw" pG (spD K 2 (fun (c:Int) xs=>xs=[.feed,.dat (.int c)]/\0<c/\c<1152921504606846976) fun c r=>∃ i:Int,r=.int i/\0<=i/\i<c):=by
 refine F.ok sc_law_draw rfl fun fa cdv A outer s H E hr=>⟨_,(zf (yG (zS ai5 (zP (zw (K:=K) rfl) (pv 0) ze (fun _ _=>rfl)) (zC qH ze ze) (zO _)) (zf (zW (i:=2) sc_law_draw.nd rfl (Or.inl rfl) (zC vm (zP (zw (K:=K) rfl) (pv 0) ze (fun _ _=>rfl)) (pv 1))) (zf (yt (zC acr (zP (zw (K:=K) rfl) (pv 0) ze (fun _ _=>rfl)) (pv 1)) (abh (pv 0) ze set_list)) (zk (zy (pv 2))))) z5) (zf (yt (zC vm (zC zQ (zC zQ (zC v7 (zP (zw (K:=K) rfl) (pv 0) ze (fun _ _=>rfl)) ze) (zC vm (zP (zw (K:=K) rfl) (pv 0) ze (fun _ _=>rfl)) ze)) ze) ze) (abh (pv 0) ze set_list)) (zk (zy (zC vm (zC acr (zC vm (zC v7 (zP (zw (K:=K) rfl) (pv 0) ze (fun _ _=>rfl)) ze) ze) ze) (pv 1)))))),?_⟩
 rintro f xs c hl ⟨rfl,c0,c1⟩
 try dsimp only [yj,zh]
 walk_at "w"
 split
 ·walk_at "w"
  exact amU _ c0
 ·walk_at "w"
  exact amU _ c0
noncomputable abbrev adT (K:alg):Sp:=spD K 2 (fun (c:Int) xs=>xs=[.feed,.dat (.int c)]/\0<c/\c<1152921504606846976) fun c r=>∃ i:Int,r=.int i/\0<=i/\i<c
noncomputable abbrev acZ (K:alg):Sp:=spD K 3 (fun (c:Int×Int) xs=>xs=[.feed,.dat (.int c.1),.dat (.int c.2)]/\0<=c.1/\c.1<=10/\-1000000000<=c.2/\c.2<=999999991) fun c r=>∃ i:Int,r=.int i/\-1000000000<=i/\i<=1000000000
theorem afP (F:Def K mg "_law_height" y4 pJ) (uad:mg "min"=none) (uac:FnIn P w K mg base k "_law_draw" pG (adT K)) :
  FnIn P w K mg base (k+1) "_law_height" pJ (acZ K):=by
 refine F.ok aaJ rfl fun fa cdv A outer s H E hr=>⟨_,(zf (yG (zS v8 (pv 1) ze (zO _)) (zk (zy (zC zQ (pv 2) (zg uac hr rfl (za (pv 0) (za (pv 1) zb)))))) z5) (zk (zy (zz (aaN rfl) rfl uad boot_min (za (zC qH ze ze) (za (zC vk (zC zQ (zC v7 (zg uac hr rfl (za (pv 0) (za ze zb))) ze) (zg uac hr rfl (za (pv 0) (za ze zb)))) (zC qH ze ze)) zb)))))),?_⟩
 rintro f xs ⟨far,bs⟩ hl ⟨rfl,c0,c1,c2,c3⟩
 dsimp only at c0 c1 c2 c3
 try dsimp only [yj,zh]
 walk_at "w"
 by_cases h:0<far
 ·rw [if_pos (by simpa using h)]
  walk_at "w"
  refine zu far ?_
  walk_at "w"
  rintro r ⟨i,rfl,h1,h2⟩
  walk_at "w"
  show bs+i<=1000000000
  omega
 ·rw [if_neg (by simpa using h)]
  walk_at "w"
  refine zu 20001 ?_
  walk_at "w"
  rintro r ⟨i,rfl,h1,h2⟩
  walk_at "w"
  refine zu 100000 ?_
  walk_at "w"
  rintro r ⟨j,rfl,h3,h4⟩
  walk_at "w"
  have e9:(10:Int) ^ Int.toNat 9=1000000000:=by decide
  rw [e9]
  omega
noncomputable abbrev aeN (K:alg):Sp:=spD K 1 (fun (_:Unit) xs=>xs=[.feed]) fun _ r=>∃ wd rows,r=tab rows/\Good wd rows
theorem menu {ds:List PyData} {i n:Int} (h0:0<=i) (h1:i<n) (hn:n=(ds.length:Int)):∃ d,atI ds i=some d/\d∈ds:=by
 have hi:i.toNat<ds.length:=by omega
 have e:i=((i.toNat:Nat):Int):=by omega
 have q:=ad7 (alb hi)
 rw [<-e] at q
 exact⟨_,q,alc hi⟩
theorem aeO:∀ {es:List PyData} {p:Int->Prop},(∀ (i:Nat) e,es[i]?=some e->∃ n:Int,e=.int n/\p n)->∃ ns:List Int,es=ns.map .int/\∀ n∈ns,p n
 | [],p,_=>⟨[],rfl,fun n h=>by cases h⟩
 | e :: es,p,h=>by
  obtain⟨n,rfl,hn⟩:=h 0 e rfl
  obtain⟨ns,rfl,hs⟩:=aeO (es:=es) (p:=p) fun i e' he=>h (i+1) e' (by simpa using he)
  exact⟨n :: ns,rfl,fun m hm=>by
   rcases alp.mp hm with rfl | hm
   ·exact hn
   ·exact hs m hm⟩
theorem aeP:∀ {es:List PyData} {p:List Int->Prop},(∀ (i:Nat) e,es[i]?=some e->∃ r:List Int,e=.list (r.map .int)/\p r)->∃ rows:List (List Int),es=rows.map (fun r=>.list (r.map .int))/\∀ r∈rows,p r
 | [],p,_=>⟨[],rfl,fun n h=>by cases h⟩
 | e :: es,p,h=>by
  obtain⟨n,rfl,hn⟩:=h 0 e rfl
  obtain⟨ns,rfl,hs⟩:=aeP (es:=es) (p:=p) fun i e' he=>h (i+1) e' (by simpa using he)
  exact⟨n :: ns,rfl,fun m hm=>by
   rcases alp.mp hm with rfl | hm
   ·exact hn
   ·exact hs m hm⟩
theorem ahk (F:Def K mg "_law_table" jv pM) (uab:mg "range"=none) (uac:FnIn P w K mg base k "_law_draw" pG (adT K)) (ua5:FnIn P w K mg base k "_law_height" pJ (acZ K)) :
  FnIn P w K mg base (k+1) "_law_table" pM (aeN K):=by
 refine F.ok sc_law_table rfl fun fa cdv A outer s H E hr=>⟨_,(zf (zW (i:=1) sc_law_table.nd rfl (Or.inr rfl) (zC zQ ze (zg uac hr rfl (za (pv 0) (za ze zb))))) (zf (zW (i:=2) sc_law_table.nd rfl (Or.inl rfl) (zC zQ ze (zg uac hr rfl (za (pv 0) (za ze zb))))) (zf (zW (i:=3) sc_law_table.nd rfl (Or.inr rfl) (zP (zw (K:=K) rfl) (yu (za ze (za ze (za ze (za ze (za ze (za ze (za ze zb)))))))) (zg uac hr rfl (za (pv 0) (za ze zb))) (fun _ _=>rfl))) (zf (zW (i:=4) sc_law_table.nd rfl (Or.inr rfl) (zP (zw (K:=K) rfl) (yu (za ze (za (zC vk ze ze) (za (zC vk (zC qH ze ze) ze) (za (zC vk ze (zC qH ze ze)) zb))))) (zg uac hr rfl (za (pv 0) (za ze zb))) (fun _ _=>rfl))) (zk (zy (jb (N:=pS) (own:=1) (fr:=[0,1,3,4]) ⟨rfl,by decide +kernel,of_decide_eq_true (by kernel_rfl),of_decide_eq_true (by kernel_rfl),of_decide_eq_true (by kernel_rfl),rfl⟩ rfl (yJ rfl uab (za (pv 2) zb)) (fun _ _ _ _=>(zl (i:=0) (show (pS:List Str).Nodup by decide +kernel) rfl (Or.inl rfl) (Or.inr rfl))) (fun _ _ _ _=>yM) (fun _ _ _ _=>(jb (N:=pV) (own:=1) (fr:=[1,3,4]) ⟨rfl,by decide +kernel,of_decide_eq_true (by kernel_rfl),of_decide_eq_true (by kernel_rfl),of_decide_eq_true (by kernel_rfl),rfl⟩ rfl (yJ rfl uab (za (pv 2) zb)) (fun _ _ _ _=>(zl (i:=0) (show (pV:List Str).Nodup by decide +kernel) rfl (Or.inl rfl) (Or.inr rfl))) (fun _ _ _ _=>yM) (fun _ _ _ _=>(zg ua5 hr rfl (za (pv 1) (za (pv 2) (za (pv 3) zb))))) rfl rfl (fun _=>rfl))) rfl rfl (fun _=>rfl)))))))),?_⟩
 rintro f xs ⟨⟩ hl rfl
 try dsimp only [yj,zh]
 walk_at "w"
 refine zu 6 ?_
 walk_at "w"
 rintro r ⟨i1,rfl,h1,h2⟩
 walk_at "w"
 refine zu 6 ?_
 walk_at "w"
 rintro r ⟨i2,rfl,h3,h4⟩
 walk_at "w"
 refine zu 7 ?_
 walk_at "w"
 rintro r ⟨i3,rfl,h5,h6⟩
 refine⟨_,rfl,?_⟩
 obtain⟨d3,e3,m3⟩:=menu (ds:=[.int 2,.int 3,.int 5,.int 10,.int 2,.int 3,.int 0]) h5 h6 (by simp)
 obtain⟨far,rfl,f0,f1⟩:∃ n:Int,d3=.int n/\0<=n/\n<=10:=by
  simp only [alp,amA,or_false] at m3
  rcases m3 with rfl | rfl | rfl | rfl | rfl | rfl | rfl <;> exact⟨_,rfl,by decide,by decide⟩
 refine⟨_,e3,?_⟩
 walk_at "w"
 refine zu 4 ?_
 walk_at "w"
 rintro r ⟨i4,rfl,h7,h8⟩
 refine⟨_,rfl,?_⟩
 obtain⟨d4,e4,m4⟩:=menu (ds:=[.int 0,.int (0 - 3),.int (10 ^ Int.toNat 9 - 9),.int (0 - 10 ^ Int.toNat 9)]) h7 h8 (by simp)
 obtain⟨bs,rfl,b0,b1⟩:∃ n:Int,d4=.int n/\-1000000000<=n/\n<=999999991:=by
  simp only [alp,amA,or_false] at m4
  rcases m4 with rfl | rfl | rfl | rfl <;> exact⟨_,rfl,by decide,by decide⟩
 refine⟨_,e4,?_⟩
 walk_at "w"
 refine aco ?_
 walk_at "w"
 refine⟨fun _ e=>∃ r:List Int,e=.list (r.map .int)/\r.length=(2+i1).toNat/\∀ n∈r,-1000000000<=n/\n<=1000000000,fun D i hi=>?_,fun es hes hR=>?_⟩
 ·refine aco ?_
  walk_at "w"
  refine⟨fun _ e=>∃ n:Int,e=.int n/\-1000000000<=n/\n<=1000000000,fun D' i' hi'=>?_,fun es hes hR=>?_⟩
  ·refine zu (far,bs) ?_
   walk_at "w"
   rintro r ⟨n,rfl,n0,n1⟩
   exact⟨n,rfl,n0,n1⟩
  ·obtain⟨ns,rfl,hs⟩:=aeO (p:=fun n=>-1000000000<=n/\n<=1000000000) hR
   exact⟨ns,rfl,by rw [ale] at hes;exact hes,hs⟩
 ·obtain⟨rows,rfl,hs⟩:=aeP (p:=fun r=>r.length=(2+i1).toNat/\∀ n∈r,-1000000000<=n/\n<=1000000000) hR
  rw [ale] at hes
  exact⟨(2+i1).toNat,rows,rfl,by omega,by omega,by omega,by omega,fun r hr=>(hs r hr).1,fun r hr=>(hs r hr).2⟩
noncomputable abbrev ajm (K:alg):Sp:=spD K 2 (fun (c:List (List Int)×Nat) xs=>xs=[.feed,.dat (tab c.1)]/\Good c.2 c.1) fun _ r=>∃ n:Int,r=.int n/\-1000000001<=n/\n<=1000000000
local macro_rules | `(tactic| walk_at "dl")=>`(tactic| first
 | (with_reducible show PSd _ _ (jJ _ (ab7 (yw _) (tC (V.int 0)) aac)) _ _;refine aef rfl ?_)
 | (with_reducible show PSd _ _ (jJ _ (ab7 (yw _) (tC (V.int 1)) aac)) _ _;refine aeg rfl ?_)
 | with_reducible refine yH ?_ | with_reducible refine agA ?_ | with_reducible refine qB ?_ | with_reducible refine yo ?_ | with_reducible refine abp ?_ | with_reducible refine acm ?_
 | with_reducible refine zq ?_ | with_reducible refine jC rfl ?_ | with_reducible refine zD ?_ | with_reducible refine yB ?_
 | with_reducible refine yT ?_ | with_reducible refine t_b ?_ | with_reducible refine agt ?_ | with_reducible refine ahY ?_ | with_reducible refine ack ?_ | with_reducible refine j7 ?_
 | with_reducible refine aed ?_ | with_reducible refine agq ?_ | with_reducible refine ai8 ?_ | with_reducible refine agp ?_ | with_reducible refine qQ ?_
 | with_reducible refine ahZ ?_ | with_reducible refine adw ?_ | with_reducible refine d_orV ?_ | with_reducible refine agu ?_
 | with_reducible refine acj ?_ | with_reducible refine akH ?_ | with_reducible refine ago ?_ | with_reducible refine ai7 ?_
 | (with_reducible show PEd _ _ (yw _) _ _;refine zM rfl ?_)
 | (with_reducible show PEd _ _ (tOp (afg _) (yw _) _) _ _;refine ai9 rfl ?_)
 | with_reducible refine aeb ?_ | with_reducible refine agr ?_
 | (with_reducible show PAd _ _ (yx (yw _) _) _ _;refine ags rfl ?_)
 | with_reducible refine yh ?_ | with_reducible refine jk ?_
 | with_reducible refine d_catT ?_ | with_reducible refine d_cut ?_ | with_reducible refine po_no ?_ | with_reducible refine po_at ?_ | with_reducible refine d_int1 ?_ | with_reducible refine ah3 ?_ | with_reducible refine qC ?_
 | with_reducible refine aaf ?_ | with_reducible refine aec ?_ | with_reducible refine aee ?_ | with_reducible refine agv ?_ | with_reducible refine agw ?_ | with_reducible refine agx ?_ | with_reducible refine agy ?_
 | (with_reducible show (∃ _,_) \/ (∃ _,_);first | refine Or.inl ⟨_,rfl,?_⟩ | refine Or.inr ⟨_,rfl,?_⟩) | refine⟨_,rfl,?_⟩ | refine⟨_,_,rfl,?_⟩
 | (with_reducible show (_=_/\∀ _,_) \/ _;first | refine Or.inl ⟨rfl,fun a ha=>?_⟩ | refine Or.inr ⟨rfl,fun b hb hb'=>?_⟩)
 | (with_reducible show PyData.canLay0 _=true/\_;refine And.intro (by first | rfl | assumption | decide +kernel) ?_)
 | (with_reducible show min _ _<=60/\_;refine And.intro (by first | assumption | (simp [apk,aln];done)) ?_)
 | refine⟨rfl,?_⟩
 | (refine And.intro ?side ?_;(case side=>first | omega | exact Int.ediv_nonneg (by omega) (by omega) | exact aoi _ (by omega) | exact amU _ (by omega) | decide | exact⟨by decide,by decide,by decide⟩ | exact⟨by omega,by omega⟩ | exact Or.inl ⟨by omega,by omega⟩ | exact Or.inr ⟨by omega,by omega⟩ | (refine alV (ani (by rfl)) (show _<=1000 by decide)) | ((repeat' apply And.intro) <;> first | rfl | omega | decide | assumption) | (simp [apk]))))
theorem yI {b:Bool} {p q:Prop} (h1:b=true->p) (h2:b=false->q):if b=true then p else q:=by
 cases b with
 | true=>rw [if_pos rfl];exact h1 rfl
 | false=>rw [if_neg ald];exact h2 rfl
noncomputable def zX (rows:List (List Int)) (wd:Nat) (x y:Int):Bool:=decide (0<=x/\x<wd) && decide (0<=y/\y<rows.length)
noncomputable def ya (rows:List (List Int)) (x y:Int):Int:=(rows.getD y.toNat []).getD x.toNat 0
theorem vy {rows:List (List Int)} {wd:Nat} {x y:Int} (h:zX rows wd x y=true):0<=x/\x<wd/\0<=y/\y<rows.length:=by
 unfold zX at h
 rw [alu] at h
 have h1:=of_decide_eq_true h.1
 have h2:=of_decide_eq_true h.2
 omega
noncomputable def jx (x y w:Int):PyData:=.tuple [.int x,.int y,.int w]
noncomputable def px (x:Int) (w:Int):Int:=if w=0 then x+1 else x
noncomputable def py (y:Int) (w:Int):Int:=if w=0 then y else y+1
noncomputable def qe (rows:List (List Int)) (wd:Nat) (x y w:Int):Bool:=decide (w=0 \/ w=1) && (zX rows wd x y && zX rows wd (px x w) (py y w))
noncomputable def zY (rows:List (List Int)) (wd:Nat) (cut x y w:Int):Bool:=qe rows wd x y w && (decide (cut<ya rows x y) != decide (cut<ya rows (px x w) (py y w)))
noncomputable def aa4 (rows:List (List Int)) (cut x y w:Int):Str:=if w=0 then (if cut<ya rows x y then "up" else "down") else (if cut<ya rows x y then "right" else "left")
theorem aeQ (a b:Int):alW (.int a) (.int b)=decide (a=b):=rfl
theorem vg (a b:Bool):alW (.bool a) (.bool b)=(a == b):=rfl
noncomputable abbrev ahl (K:alg):Sp:=spD K 1 (fun (c:List (List Int)×Nat) xs=>xs=[.dat (tab c.1)]/\Good c.2 c.1) fun c r=>r=.tuple [.int c.2,.int c.1.length]
noncomputable abbrev ahm (K:alg):Sp:=spD K 3 (fun (c:List (List Int)×Nat×Int×Int) xs=>xs=[.dat (tab c.1),.dat (.int c.2.2.1),.dat (.int c.2.2.2)]/\Good c.2.1 c.1) fun c r=>r=.bool (zX c.1 c.2.1 c.2.2.1 c.2.2.2)
theorem akm (F:Def K mg "has_point" jq pq) (uaw:FnIn P w K mg base k "size" pj (ahl K)):FnIn P w K mg base (k+1) "has_point" pq (ahm K):=by
 refine F.ok sc_has_point rfl fun fa cdv A outer s H E hr=>⟨_,(zf (yt (zg uaw hr rfl (za (pv 0) zb)) (yc (K:=K) (n:=2) rfl rfl (zm (zl (i:=3) sc_has_point.nd rfl (Or.inl rfl) (Or.inr rfl)) (zm (zl (i:=4) sc_has_point.nd rfl (Or.inl rfl) (Or.inr rfl)) z6)))) (zk (zy (abg (v9 aaM ad4 ze (pv 1) (pv 3)) (adm (v9 aaM ad4 ze (pv 2) (pv 4))))))),?_⟩
 rintro f xs ⟨rows,wd,x,y⟩ hl ⟨rfl,g⟩
 try dsimp only [yj,zh]
 dsimp only at *
 refine yH (yo (zu (rows,wd) ?_))
 walk_at "w"
 rintro _ rfl
 walk_at "w"
 have fin:∀ b:Bool,b=zX rows wd x y->PyData.bool b=PyData.bool (zX rows wd x y):=fun b h=>by rw [h]
 refine yI (fun h1=>?_) fun h1=>?_
 ·have h1':=of_decide_eq_true h1
  walk_at "w"
  refine yI (fun h2=>?_) fun h2=>?_
  ·have h2':=of_decide_eq_true h2
   walk_at "w"
   refine yI (fun h3=>?_) fun h3=>?_
   ·have h3':=of_decide_eq_true h3
    walk_at "w"
    refine fin _ ?_
    unfold zX
    dsimp only at h2' ⊢
    rw [decide_eq_true (p:=(0<=x/\x<(wd:Int))) (by omega),amm]
    exact decide_eq_decide.mpr (by omega)
   ·have h3':=of_decide_eq_false h3
    refine fin _ ?_
    unfold zX
    rw [decide_eq_false (p:=(0<=y/\y<(rows.length:Int))) (by omega),ao5]
  ·have h2':=of_decide_eq_false h2
   refine fin _ ?_
   unfold zX
   dsimp only at h2'
   rw [decide_eq_false (p:=(0<=x/\x<(wd:Int))) (by omega),ana]
 ·have h1':=of_decide_eq_false h1
  refine⟨_,rfl,?_⟩
  rw [if_neg ald]
  refine fin _ ?_
  unfold zX
  rw [decide_eq_false (p:=(0<=x/\x<(wd:Int))) (by omega),ana]
noncomputable abbrev abU (K:alg):Sp:=spD K 3 (fun (c:List (List Int)×Nat×Int×Int×Int) xs=>xs=[.dat (tab c.1),.dat (.int c.2.2.1),.dat (.tuple [.int c.2.2.2.1,.int c.2.2.2.2])]/\Good c.2.1 c.1/\zX c.1 c.2.1 c.2.2.2.1 c.2.2.2.2=true) fun c r=>r=.bool (decide (c.2.2.1<ya c.1 c.2.2.2.1 c.2.2.2.2))
theorem qf {rows:List (List Int)} {wd:Nat} {x y:Int} (g:Good wd rows) (h:zX rows wd x y=true):∃ r:List Int,atI (rows.map fun q=>PyData.list (q.map .int)) y=some (.list (r.map .int))/\atI (r.map PyData.int) x=some (.int (ya rows x y)):=by
 obtain⟨x0,x1,y0,y1⟩:=vy h
 have hy:y.toNat<rows.length:=by omega
 have hr:=g.row _ (alc hy)
 have hx:x.toNat<rows[y.toNat].length:=by omega
 refine⟨rows[y.toNat],yQ (F:=fun q:List Int=>PyData.list (q.map .int)) (by omega) hy,?_⟩
 rw [yQ (j:=x.toNat) (by omega) hx]
 unfold ya
 rw [alh,alh,alb hy,Option.getD_some,alb hx]
 rfl
theorem aiH (F:Def K mg "stands_high" yO pF):FnIn P w K mg base (k+1) "stands_high" pF (abU K):=by
 refine F.ok sc_stands_high rfl fun fa cdv A outer s H E hr=>⟨_,(zf (yt (pv 2) (yc (K:=K) (n:=2) rfl rfl (zm (zl (i:=3) sc_stands_high.nd rfl (Or.inl rfl) (Or.inr rfl)) (zm (zl (i:=4) sc_stands_high.nd rfl (Or.inl rfl) (Or.inr rfl)) z6)))) (zk (zy (yV v8 (zP (zw (K:=K) rfl) (zP (zw (K:=K) rfl) (pv 0) (pv 4) (fun _ _=>rfl)) (pv 3) (fun _ _=>rfl)) (pv 1) (zO _))))),?_⟩
 rintro f xs ⟨rows,wd,cut,x,y⟩ hl ⟨rfl,g,hi⟩
 try dsimp only [yj,zh]
 dsimp only at *
 obtain⟨r,h1,h2⟩:=qf g hi
 unfold tab
 walk_at "w"
 refine⟨_,h1,?_⟩
 walk_at "w"
 refine⟨_,h2,?_⟩
 walk_at "w"
 rfl
noncomputable abbrev ahn (K:alg):Sp:=spD K 1 (fun (c:Int×Int×Int) xs=>xs=[.dat (jx c.1 c.2.1 c.2.2)]) fun c r=>r=.list [.tuple [.int c.1,.int c.2.1],.tuple [.int (px c.1 c.2.2),.int (py c.2.1 c.2.2)]]
theorem akn (F:Def K mg "gate_points" yP ["gate"]):FnIn P w K mg base (k+1) "gate_points" ["gate"] (ahn K):=by
 refine F.ok sc_gate_points rfl fun fa cdv A outer s H E hr=>⟨_,(zf (yt (pv 0) (yc (K:=K) (n:=3) rfl rfl (zm (zl (i:=1) sc_gate_points.nd rfl (Or.inl rfl) (Or.inr rfl)) (zm (zl (i:=2) sc_gate_points.nd rfl (Or.inl rfl) (Or.inr rfl)) (zm (zl (i:=3) sc_gate_points.nd rfl (Or.inl rfl) (Or.inr rfl)) z6))))) (zf (yG (zS (ady (K:=K) rfl hr.units) (pv 3) ze (zO _)) (zk (zy (yu (za (zL (za (pv 1) (za (pv 2) zb))) (za (zL (za (zC zQ (pv 1) ze) (za (pv 2) zb))) zb))))) z5) (zk (zy (yu (za (zL (za (pv 1) (za (pv 2) zb))) (za (zL (za (pv 1) (za (zC zQ (pv 2) ze) zb))) zb))))))),?_⟩
 rintro f xs ⟨x,y,w⟩ hl rfl
 try dsimp only [yj,zh]
 dsimp only at *
 unfold jx
 walk_at "w"
 rw [if_neg ald,aeQ]
 refine yI (fun h=>?_) fun h=>?_
 ·have h':=of_decide_eq_true h
  walk_at "w"
  unfold px py
  rw [if_pos h',if_pos h']
 ·have h':=of_decide_eq_false h
  walk_at "w"
  unfold px py
  rw [if_neg h',if_neg h']
noncomputable abbrev aho (K:alg):Sp:=spD K 2 (fun (c:List (List Int)×Nat×Int×Int×Int) xs=>xs=[.dat (tab c.1),.dat (jx c.2.2.1 c.2.2.2.1 c.2.2.2.2)]/\Good c.2.1 c.1) fun c r=>r=.bool (qe c.1 c.2.1 c.2.2.1 c.2.2.2.1 c.2.2.2.2)
theorem aiI (F:Def K mg "has_gate" jS pI) (uag:mg "all"=none) (uat:FnIn P w K mg base k "has_point" pq (ahm K)) (uax:FnIn P w K mg base k "gate_points" ["gate"] (ahn K)):FnIn P w K mg base (k+1) "has_gate" pI (aho K):=by
 refine F.ok acU rfl fun fa cdv A outer s H E hr=>⟨_,(zf (yG (zS (aft (K:=K) rfl) (zP (qq (K:=K) rfl) (pv 1) ze (fun _ _=>rfl)) (zL (za ze (za ze zb))) rfl) (zk (zy vZ)) z5) (zk (zy (zz (aaT (K:=K) rfl rfl) rfl uag aoZ (za (jb (N:=["x","y","rows"]) (own:=2) (fr:=[0]) ⟨rfl,by decide +kernel,of_decide_eq_true (by kernel_rfl),of_decide_eq_true (by kernel_rfl),of_decide_eq_true (by kernel_rfl),rfl⟩ rfl (yk (K:=K) rfl (zg uax hr rfl (za (pv 1) zb))) (fun _ _ _ _=>(yc (K:=K) (n:=2) rfl rfl (zm (zl (i:=0) (show (["x","y","rows"]:List Str).Nodup by decide +kernel) rfl (Or.inl rfl) (Or.inr rfl)) (zm (zl (i:=1) (show (["x","y","rows"]:List Str).Nodup by decide +kernel) rfl (Or.inl rfl) (Or.inr rfl)) z6)))) (fun _ _ _ _=>yM) (fun _ _ _ _=>(zg uat hr rfl (za (pv 2) (za (pv 0) (za (pv 1) zb))))) rfl rfl (fun _=>rfl)) zb))))),?_⟩
 rintro f xs ⟨rows,wd,x,y,w⟩ hl ⟨rfl,g⟩
 try dsimp only [yj,zh]
 dsimp only at *
 refine yH (agA (yT (agI ?_)))
 unfold jx
 walk_at "w"
 refine⟨[0,1],rfl,_,rfl,?_⟩
 have hc:(([0,1]:List Int).contains w)=decide (w=0 \/ w=1):=by
  rw [Bool.eq_iff_iff]
  simp
 rw [hc]
 by_cases h:w=0 \/ w=1
 ·rw [decide_eq_true h,amb,if_neg ald]
  refine acm (qB (ajf (PEdO.ped (aei (A:=fun p:Int×Int=>PyData.tuple [.int p.1,.int p.2]) (B:=fun p:Int×Int=>PyData.bool (zX rows wd p.1 p.2)) [(x,y),(px x w,py y w)] (jc (zu (x,y,w) ?_))))))
  walk_at "w"
  rintro _ rfl
  refine⟨_,rfl,rfl,show 2<=1000 by decide,?_,?_⟩
  ·rintro D p ρ' es hp ho hes
   obtain⟨u,v,rfl⟩:=ho.two
   refine jC rfl (zD (zq (zD (zq (yB (qC ?_))))))
   rw [if_pos rfl]
   refine jz hes (zu (rows,wd,p.1,p.2) ?_)
   walk_at "w"
   rintro _ rfl
   exact⟨.mk2,rfl⟩
  ·refine⟨[zX rows wd x y,zX rows wd (px x w) (py y w)],rfl,?_⟩
   show PyData.bool _=PyData.bool _
   unfold qe
   rw [decide_eq_true h,amm]
   show PyData.bool (zX rows wd x y && (zX rows wd (px x w) (py y w) && true))=_
   rw [api]
 ·rw [decide_eq_false h,aow,if_pos rfl]
  walk_at "w"
  unfold qe
  rw [decide_eq_false h]
  rfl
noncomputable abbrev abV (K:alg):Sp:=spD K 3 (fun (c:List (List Int)×Nat×Int×Int×Int×Int) xs=>xs=[.dat (tab c.1),.dat (.int c.2.2.1),.dat (jx c.2.2.2.1 c.2.2.2.2.1 c.2.2.2.2.2)]/\Good c.2.1 c.1) fun c r=>r=.bool (zY c.1 c.2.1 c.2.2.1 c.2.2.2.1 c.2.2.2.2.1 c.2.2.2.2.2)
theorem ahp {rows:List (List Int)} {wd:Nat} {x y w:Int} (h:qe rows wd x y w=true):zX rows wd x y=true/\zX rows wd (px x w) (py y w)=true:=by
 unfold qe at h
 rw [alu,alu] at h
 exact h.2
theorem aiJ (F:Def K mg "is_open" qs pf) (ua6:FnIn P w K mg base k "has_gate" pI (aho K)) (uax:FnIn P w K mg base k "gate_points" ["gate"] (ahn K)) (uah:FnIn P w K mg base k "stands_high" pF (abU K)):FnIn P w K mg base (k+1) "is_open" pf (abV K):=by
 refine F.ok sc_is_open rfl fun fa cdv A outer s H E hr=>⟨_,(zf (yG (v3 (yA (K:=K) rfl (zg ua6 hr rfl (za (pv 0) (za (pv 2) zb))) (fun _=>rfl))) (zk (zy vZ)) z5) (zf (yt (zg uax hr rfl (za (pv 2) zb)) (aej (K:=K) (n:=2) rfl rfl (zm (zl (i:=3) sc_is_open.nd rfl (Or.inl rfl) (Or.inr rfl)) (zm (zl (i:=4) sc_is_open.nd rfl (Or.inl rfl) (Or.inr rfl)) z6)))) (zk (zy (yV (jO (K:=K) rfl hr.units) (zg uah hr rfl (za (pv 0) (za (pv 1) (za (pv 3) zb)))) (zg uah hr rfl (za (pv 0) (za (pv 1) (za (pv 4) zb)))) (zO _)))))),?_⟩
 rintro f xs ⟨rows,wd,cut,x,y,w⟩ hl ⟨rfl,g⟩
 try dsimp only [yj,zh]
 dsimp only at *
 refine yH (agA (ack (j7 (zu (rows,wd,x,y,w) ?_))))
 walk_at "w"
 rintro _ rfl
 refine⟨_,rfl,?_⟩
 dsimp only
 cases h:qe rows wd x y w with
 | false =>
  rw [aow,if_pos rfl]
  walk_at "w"
  unfold zY
  rw [h]
  rfl
 | true =>
  rw [amb,if_neg ald]
  obtain⟨i1,i2⟩:=ahp h
  refine acm (yH (yo (zu (x,y,w) ?_)))
  walk_at "w"
  rintro _ rfl
  dsimp only
  refine ajg rfl (zD (zq (zD (zq (yB ?_)))))
  refine qB (qQ (zu (rows,wd,cut,x,y) ?_))
  walk_at "w"
  rintro _ rfl
  refine zu (rows,wd,cut,px x w,py y w) ?_
  walk_at "w"
  rintro _ rfl
  dsimp only
  walk_at "w"
  show PyData.bool _=PyData.bool _
  unfold zY
  rw [h,amm,if_pos rfl,vg]
  rfl
theorem ako (F:Def K mg "_law_cut" qu pN) (uaa:mg "len"=none) (uac:FnIn P w K mg base k "_law_draw" pG (adT K)):FnIn P w K mg base (k+1) "_law_cut" pN (ajm K):=by
 refine F.ok sc_law_cut rfl fun fa cdv A outer s H E hr=>⟨_,(zf (zW (i:=2) sc_law_cut.nd rfl (Or.inl rfl) (zP (zw (K:=K) rfl) (pv 1) (zg uac hr rfl (za (pv 0) (za (zz (zT (K:=K) rfl) rfl uaa amh (za (pv 1) zb)) zb))) (fun _ _=>rfl))) (zk (zy (zC vk (zP (zw (K:=K) rfl) (pv 2) (zg uac hr rfl (za (pv 0) (za (zz (zT (K:=K) rfl) rfl uaa amh (za (pv 2) zb)) zb))) (fun _ _=>rfl)) (zg uac hr rfl (za (pv 0) (za ze zb))))))),?_⟩
 rintro f xs ⟨rows,wd⟩ hl ⟨rfl,g⟩
 try dsimp only [yj,zh]
 dsimp only at *
 have g1:=g.h1
 have g2:=g.h2
 have w1:=g.w1
 have w2:=g.w2
 have ml:(rows.map fun r=>PyData.list (r.map .int)).length=rows.length:=ale _
 have ml1:2<=(rows.map fun r=>PyData.list (r.map .int)).length:=by omega
 have ml2:(rows.map fun r=>PyData.list (r.map .int)).length<=7:=by omega
 refine yH (yo (aeb ?_))
 unfold tab
 walk_at "w"
 refine zu (((rows.map fun r=>PyData.list (r.map .int)).length:Nat):Int) ?_
 walk_at "w"
 rintro _ ⟨i,rfl,i0,i1⟩
 have hi:i.toNat<rows.length:=by omega
 have hr:=g.row _ (alc hi)
 have hh:=g.hgt _ (alc hi)
 refine⟨_,rfl,_,yQ (F:=fun q:List Int=>PyData.list (q.map .int)) (j:=i.toNat) (by omega) hi,?_⟩
 generalize rows[i.toNat]=row at hr hh
 have rl:(row.map PyData.int).length=row.length:=ale _
 have rl1:2<=(row.map PyData.int).length:=by omega
 have rl2:(row.map PyData.int).length<=7:=by omega
 walk_at "w"
 refine zu (((row.map PyData.int).length:Nat):Int) ?_
 walk_at "w"
 rintro _ ⟨q,rfl,q0,q1⟩
 have hq:q.toNat<row.length:=by omega
 refine⟨_,rfl,_,yQ (F:=PyData.int) (j:=q.toNat) (by omega) hq,?_⟩
 have hb:=hh _ (alc hq)
 generalize row[q.toNat]=v at hb
 walk_at "w"
 refine zu 2 ?_
 walk_at "w"
 rintro _ ⟨u,rfl,u0,u1⟩
 walk_at "w"
 omega
theorem qg {n i:Nat} {d:PyData} (h:(j9 n)[i]?=some d):i<n/\d=.int (i:Int):=by
 unfold j9 at h
 rw [alv] at h
 by_cases hi:i<n
 ·rw [am8 hi] at h
  cases h
  exact⟨hi,rfl⟩
 ·rw [alN (by rw [alS];omega)] at h
  cases h
theorem qv (n:Nat):(j9 n).length=n:=by unfold j9;simp
noncomputable def aiK (x y:Nat):PyData:=.tuple [.int x,.int y]
noncomputable def qh (t n:Nat):List PyData:=(alo n).flatMap fun x=>(alo t).map (aiK x)
theorem ac0 (t n:Nat):qh t (n+1)=qh t n++(alo t).map (aiK n):=by
 unfold qh
 rw [aol,ams]
 simp
theorem aeR (t:Nat):∀ n,(qh t n).length=t * n
 | 0=>rfl
 | n+1=>by rw [ac0,alr,aeR t n,ale,alS,Nat.mul_succ]
noncomputable abbrev ac1 (K:alg):Sp:=spD K 1 (fun (c:List (List Int)×Nat) xs=>xs=[.dat (tab c.1)]/\Good c.2 c.1) fun c r=>r=.list (qh c.1.length c.2)
theorem afQ (F:Def K mg "points" vd pj) (uab:mg "range"=none) (uaw:FnIn P w K mg base k "size" pj (ahl K)):FnIn P w K mg base (k+1) "points" pj (ac1 K):=by
 refine F.ok sc_points rfl fun fa cdv A outer s H E hr=>⟨_,(zf (yt (zg uaw hr rfl (za (pv 0) zb)) (yc (K:=K) (n:=2) rfl rfl (zm (zl (i:=1) sc_points.nd rfl (Or.inl rfl) (Or.inr rfl)) (zm (zl (i:=2) sc_points.nd rfl (Or.inr rfl) (Or.inl rfl)) z6)))) (zk (zy (agk (N:=["x","y","tall"]) (own:=2) (fr:=[2]) ⟨rfl,by decide +kernel,of_decide_eq_true (by kernel_rfl),of_decide_eq_true (by kernel_rfl),of_decide_eq_true (by kernel_rfl),rfl⟩ rfl (yJ rfl uab (za (pv 1) zb)) (fun _ _ _ _=>(zl (i:=0) (show (["x","y","tall"]:List Str).Nodup by decide +kernel) rfl (Or.inl rfl) (Or.inr rfl))) (fun _ _ _ _=>yM) (fun _ _ _ _=>(yJ rfl uab (za (pv 2) zb))) (fun _ _ _ _=>(zl (i:=1) (show (["x","y","tall"]:List Str).Nodup by decide +kernel) rfl (Or.inl rfl) (Or.inr rfl))) (fun _ _ _ _=>yM) (fun _ _ _ _=>(zL (za (pv 0) (za (pv 1) zb)))) rfl rfl (fun _=>rfl) (fun _ _ _ _ _=>rfl))))),?_⟩
 rintro f xs ⟨rows,wd⟩ hl ⟨rfl,g⟩
 try dsimp only [yj,zh]
 dsimp only at *
 have g2:=g.h2
 have w2:=g.w2
 refine yH (yo (zu (rows,wd) ?_))
 walk_at "w"
 rintro _ rfl
 refine jC rfl (zD (zq (zD (zq (yB ?_)))))
 refine qB (PEdO.ped (vo (qT (yh (zM rfl (jk ⟨_,rfl,by dsimp only;omega,by dsimp only;omega,fun n ρ es=>(∃ u v,ρ=[u,v,some (.dat (.int rows.length))])/\es=qh rows.length n,⟨⟨_,_,rfl⟩,rfl⟩,?_,?_⟩))))))
 ·rintro D n d ρ' es hd ⟨⟨u,v,rfl⟩,rfl⟩
  obtain⟨hn,rfl⟩:=qg hd
  have hn':n<wd:=by have:n<((wd:Int)).toNat:=hn;omega
  have l1:rows.length * n<=7 * 7:=ao8 g2 (by omega)
  refine zq (qC ?_)
  rw [if_pos rfl]
  refine akJ (qT (yh (zM rfl (jk ⟨_,rfl,by omega,by omega,fun m ρ es=>(∃ v,ρ=[some (.dat (.int n)),v,some (.dat (.int rows.length))])/\es=qh rows.length n++(alo m).map (aiK n),⟨⟨_,rfl⟩,by simp⟩,?_,?_⟩))))
  ·rintro m d ρ2 es2 hd2 ⟨⟨v,rfl⟩,rfl⟩
   obtain⟨hm,rfl⟩:=qg hd2
   have hm':m<rows.length:=by have:m<((rows.length:Int)).toNat:=hm;omega
   refine zq (qC ?_)
   rw [if_pos rfl]
   refine jz (by rw [alr,aeR,ale,alS];omega) ?_
   walk_at "w"
   rw [aol,alX,alH]
   rfl
  ·rintro ρ2 es2 ⟨⟨v,rfl⟩,rfl⟩
   rw [qv,am5]
   exact⟨⟨_,_,rfl⟩,by rw [ac0]⟩
 ·rintro ρ' es ⟨_,rfl⟩
  rw [qv,am5]
noncomputable def F2:PyData->List PyData
 | .tuple [.int x,.int y]=>[jx x y 0,jx x y 1]
 | _=>[]
noncomputable def gD3 (g:Int×Int×Int):PyData:=jx g.1 g.2.1 g.2.2
noncomputable def opG (rows:List (List Int)) (wd:Nat) (cut:Int) (g:Int×Int×Int):Bool:=zY rows wd cut g.1 g.2.1 g.2.2
noncomputable def yv (t n:Nat):List (Int×Int×Int):=(alo n).flatMap fun (x:Nat)=>(alo t).flatMap fun (y:Nat)=>[((x:Int),(y:Int),(0:Int)),((x:Int),(y:Int),(1:Int))]
theorem ac2 (t n:Nat):(qh t n).flatMap F2=(yv t n).map gD3:=by
 unfold qh yv
 rw [List.flatMap_assoc,List.map_flatMap]
 congr 1
 funext x
 rw [List.flatMap_map,List.map_flatMap]
 rfl
theorem aiL {t n:Nat} {d:PyData} (h:d∈qh t n):∃ x y:Nat,d=aiK x y:=by
 obtain⟨x,_,h⟩:=ami.mp h
 obtain⟨y,_,rfl⟩:=alF.mp h
 exact⟨x,y,rfl⟩
theorem jG {α:Type} {F:Nat->List α} {b:Nat} (h:∀ n,(F n).length<=b):∀ n,((alo n).flatMap F).length<=b * n
 | 0=>by simp
 | n+1=>by
  rw [aol,ams,alr]
  have:=jG h n
  have:=h n
  simp only [List.flatMap_cons,List.flatMap_nil,al4]
  rw [Nat.mul_succ]
  omega
theorem aa5 {t n:Nat} (ht:t<=7) (hn:n<=7):(yv t n).length<=98:=by
 have h:=jG (F:=fun (x:Nat)=>(alo t).flatMap fun (y:Nat)=>[((x:Int),(y:Int),(0:Int)),((x:Int),(y:Int),(1:Int))]) (b:=2 * t) (fun x=>jG (F:=fun (y:Nat)=>[((x:Int),(y:Int),(0:Int)),((x:Int),(y:Int),(1:Int))]) (b:=2) (fun y=>ali 2) t) n
 exact alV h (ao8 (show 2 * t<=14 by omega) hn)
noncomputable def qi (rows:List (List Int)) (wd:Nat) (cut:Int) (x y:Nat):List (Int×Int×Int):=(if zY rows wd cut x y 0=true then [((x:Int),(y:Int),(0:Int))] else [])++if zY rows wd cut x y 1=true then [((x:Int),(y:Int),(1:Int))] else []
noncomputable def zI (rows:List (List Int)) (wd:Nat) (cut:Int):List (Int×Int×Int):=(alo wd).flatMap fun x=>(alo rows.length).flatMap fun y=>qi rows wd cut x y
theorem ac3 (rows:List (List Int)) (wd:Nat) (cut:Int) (x y:Nat):(qi rows wd cut x y).length<=2:=by
 unfold qi
 rw [alr]
 split <;> split <;> simp
theorem vz {α:Type} {F:Nat->List α} (n:Nat):(alo (n+1)).flatMap F=(alo n).flatMap F++F n:=by
 rw [aol,ams]
 simp
theorem aiM (rows:List (List Int)) (wd:Nat) (cut:Int) (x y:Nat):qi rows wd cut x y=[((x:Int),(y:Int),(0:Int)),((x:Int),(y:Int),(1:Int))].filter (opG rows wd cut):=by
 unfold qi opG
 simp only [amv,aoX]
 cases zY rows wd cut x y 0 <;> cases zY rows wd cut x y 1 <;> rfl
theorem jH (rows:List (List Int)) (wd:Nat) (cut:Int):zI rows wd cut=(yv rows.length wd).filter (opG rows wd cut):=by
 unfold zI yv
 rw [apd]
 congr 1
 funext x
 rw [apd]
 congr 1
 funext y
 exact aiM rows wd cut x y
noncomputable def gLt (a b:Int×Int×Int):Prop:=a.1<b.1 \/ (a.1=b.1/\(a.2.1<b.2.1 \/ (a.2.1=b.2.1/\a.2.2<b.2.2)))
theorem ahq {a b:Int×Int×Int} (h:gLt a b):ltD (gD3 a) (gD3 b)=true:=by
 obtain⟨x,y,w⟩:=a
 obtain⟨x',y',w'⟩:=b
 unfold gLt at h
 dsimp only at h
 show ltD (.tuple [.int x,.int y,.int w]) (.tuple [.int x',.int y',.int w'])=true
 have e:∀ i j:Int,alW (.int i) (.int j)=(i == j):=fun i j=>rfl
 simp only [ltD,ltL,e,beq_iff_eq]
 by_cases h1:x=x'
 ·rw [if_pos h1]
  by_cases h2:y=y'
  ·rw [if_pos h2]
   rw [if_neg (by omega)]
   exact decide_eq_true (by omega)
  ·rw [if_neg h2]
   exact decide_eq_true (by omega)
 ·rw [if_neg h1]
  exact decide_eq_true (by omega)
theorem aeS {α:Type} {R:α->α->Prop} {F:Nat->List α} (n:Nat) (h1:∀ i,i<n->(F i).Pairwise R) (h2:∀ i j,i<j->j<n->∀ a∈F i,∀ b∈F j,R a b):((alo n).flatMap F).Pairwise R:=by
 induction n with
 | zero=>simp
 | succ n ih =>
  rw [vz,alL]
  refine⟨ih (fun i hi=>h1 i (by omega)) (fun i j hij hj=>h2 i j hij (by omega)),h1 n (by omega),fun a ha b hb=>?_⟩
  obtain⟨i,hi,ha⟩:=ami.mp ha
  exact h2 i n (alQ.mp hi) (by omega) a ha b hb
theorem aat (t n:Nat):(yv t n).Pairwise gLt:=by
 unfold yv
 refine aeS n (fun x _=>aeS t (fun y _=>?_) fun y y' hy _ a ha b hb=>?_) fun x x' hx _ a ha b hb=>?_
 ·simp [gLt]
 ·simp only [alp,amA,or_false] at ha hb
  rcases ha with rfl | rfl <;> rcases hb with rfl | rfl <;> (unfold gLt;dsimp only;omega)
 ·obtain⟨y,_,ha⟩:=ami.mp ha
  obtain⟨y',_,hb⟩:=ami.mp hb
  simp only [alp,amA,or_false] at ha hb
  rcases ha with rfl | rfl <;> rcases hb with rfl | rfl <;> (unfold gLt;dsimp only;omega)
theorem ac4 (rows:List (List Int)) (wd:Nat) (cut:Int):((zI rows wd cut).map gD3).Pairwise fun d e=>ltD d e=true:=by
 rw [jH,amI]
 exact ((aat _ _).filter _).imp ahq
theorem qj (rows:List (List Int)) (wd:Nat) (cut:Int):SortOk "int" ((zI rows wd cut).map gD3) where
 plain:=fun d hd=>by obtain⟨g,_,rfl⟩:=alF.mp hd;rfl
 head:=fun d hd=>by obtain⟨g,_,rfl⟩:=alF.mp hd;rfl
 cmp:=fun d hd e he=>by
  obtain⟨⟨x,y,w⟩,_,rfl⟩:=alF.mp hd
  obtain⟨⟨x',y',w'⟩,_,rfl⟩:=alF.mp he
  show qW (.tuple [.int x,.int y,.int w]) (.tuple [.int x',.int y',.int w'])=true
  simp only [qW,qK]
  split
  ·split
   ·split <;> rfl
   ·rfl
  ·rfl
 depth:=fun d hd=>by obtain⟨g,_,rfl⟩:=alF.mp hd;exact anp rfl
 nd:=(ac4 rows wd cut).imp_of_mem fun {a b} ha hb h=>by
  obtain⟨g,_,rfl⟩:=alF.mp ha
  obtain⟨g',_,rfl⟩:=alF.mp hb
  exact lt_asymm rfl rfl h
theorem vA {rows:List (List Int)} {wd:Nat} {cut:Int} (g:Good wd rows):(zI rows wd cut).length<=98:=by
 rw [jH]
 exact alV (amW _ _) (aa5 g.h2 g.w2)
theorem afR (rows:List (List Int)) (wd:Nat) (cut:Int):(PyData.list ((zI rows wd cut).map gD3)).canLay0=true/\(PyData.list ((zI rows wd cut).map gD3)).depth<=60:=by
 constructor
 ·show ama _=true
  induction zI rows wd cut with
  | nil=>rfl
  | cons g l ih=>exact ih
 ·show aln _+1<=60
  have:aln ((zI rows wd cut).map gD3)<=1:=by
   induction zI rows wd cut with
   | nil=>exact alD _
   | cons g l ih=>exact aoT.mpr ⟨ali 1,ih⟩
  omega
theorem aiN (rows:List (List Int)):(tab rows).canLay0=true/\(tab rows).depth<=60:=by
 have intz:∀ r:List Int,ama (r.map .int)=true/\aln (r.map .int)=0:=fun r=>by
  induction r with
  | nil=>exact⟨rfl,rfl⟩
  | cons n r ih=>exact⟨ih.1,by show max 0 (aln (r.map .int))=0;rw [ih.2];rfl⟩
 have all:ama (rows.map fun r=>PyData.list (r.map .int))=true/\aln (rows.map fun r=>PyData.list (r.map .int))<=1:=by
  induction rows with
  | nil=>exact⟨rfl,alD _⟩
  | cons r rows ih =>
   refine⟨?_,?_⟩
   ·show (ama (r.map .int) && ama (rows.map fun r=>PyData.list (r.map .int)))=true
    rw [(intz r).1,ih.1]
    rfl
   ·show max (aln (r.map .int)+1) (aln (rows.map fun r=>PyData.list (r.map .int)))<=1
    rw [(intz r).2]
    exact aoT.mpr ⟨ali _,ih.2⟩
 exact⟨all.1,alV (Nat.succ_le_succ all.2) (by decide)⟩
noncomputable abbrev aeT (K:alg):Sp:=spN K 2 (fun (c:List (List Int)×Nat×Int) xs=>xs=[.dat (tab c.1),.dat (.int c.2.2)]/\Good c.2.1 c.1) fun c es=>es=((yv c.1.length c.2.1).filter (opG c.1 c.2.1 c.2.2)).map gD3
theorem ahr (F:Def K mg "gates" vV pA) (uay:FnIn P w K mg base k "ask_table" pj (ahj K)) (ua7:FnIn P w K mg base k "points" pj (ac1 K)) (uan:FnIn P w K mg base k "is_open" pf (abV K)):FnIn P w K mg base (k+1) "gates" pA (aeT K):=by
 refine F.okN sc_gates rfl fun fa cdv A outer s H E hr=>⟨_,(zf (ji (zg uay hr rfl (za (pv 0) zb))) (zf (aci (i:=2) (N:=pQ) (own:=3) (fr:=[]) ⟨rfl,by decide +kernel,of_decide_eq_true (by kernel_rfl),of_decide_eq_true (by kernel_rfl),of_decide_eq_true (by kernel_rfl),rfl⟩ rfl sc_gates.nd rfl (Or.inl rfl) (yk (K:=K) rfl (zg ua7 hr rfl (za (pv 0) zb))) (fun _ _ _ _=>(yc (K:=K) (n:=2) rfl rfl (zm (zl (i:=0) (show (pQ:List Str).Nodup by decide +kernel) rfl (Or.inl rfl) (Or.inr rfl)) (zm (zl (i:=1) (show (pQ:List Str).Nodup by decide +kernel) rfl (Or.inl rfl) (Or.inr rfl)) z6)))) (fun _ _ _ _=>yM) (fun _ _ _ _=>(aeh (K:=K) rfl (zL (za ze (za ze zb))))) (fun _ _ _ _=>(zl (i:=2) (show (pQ:List Str).Nodup by decide +kernel) rfl (Or.inl rfl) (Or.inr rfl))) (fun _ _ _ _=>yM) (fun _ _ _ _=>(zL (za (pv 0) (za (pv 1) (za (pv 2) zb))))) rfl rfl (fun _=>rfl) (fun _ _ _ _ _=>rfl) (Or.inl rfl) rfl) (zk (zy (jb (N:=pB) (own:=1) (fr:=[0,1]) ⟨rfl,by decide +kernel,of_decide_eq_true (by kernel_rfl),of_decide_eq_true (by kernel_rfl),of_decide_eq_true (by kernel_rfl),rfl⟩ rfl (yk (K:=K) rfl (pv 2)) (fun _ _ _ _=>(zl (i:=0) (show (pB:List Str).Nodup by decide +kernel) rfl (Or.inl rfl) (Or.inr rfl))) (fun _ _ _ _=>(abn (yA (K:=K) rfl (zg uan hr rfl (za (pv 1) (za (pv 2) (za (pv 0) zb)))) (fun _=>rfl)))) (fun _ _ _ _=>(pv 0)) rfl rfl (fun _=>rfl)))))),?_⟩
 rintro f xs ⟨rows,wd,cut⟩ hl ⟨rfl,g⟩
 try dsimp only [yj,zh]
 dsimp only at *
 have sl:=aa5 g.h2 g.w2
 refine aaj (abp (zu (rows,wd) ?_))
 walk_at "w"
 rintro _ rfl
 refine aaj (yo (PEdO.ped (ajT (jc (zu (rows,wd) ?_)))))
 walk_at "w"
 rintro _ rfl
 refine⟨_,rfl,F2,by rw [ac2,ale];exact alV sl (by decide),?_,?_⟩
 ·rintro D d ρ' es hd ho hes
  obtain⟨x,y,rfl⟩:=aiL hd
  obtain⟨us,hus,rfl⟩:=ho
  match us,hus with
  | [u1,u2,u3],_ =>
   refine jC rfl (zD (zq (zD (zq (yB (qC ?_))))))
   rw [if_pos rfl]
   have hes':es.length+2<=1000:=hes
   refine akJ (aja (aaf (yh (acj (yh (acj (jk ⟨_,rfl,by simp,_,rfl,fun m ρ es2=>(∃ v,ρ=[some (.dat (.int x)),some (.dat (.int y)),v])/\es2=es++[jx x y 0,jx x y 1].take m,⟨⟨_,rfl⟩,by simp⟩,?_,?_⟩)))))))
   ·rintro m d ρ2 es2 hd2 ⟨⟨v,rfl⟩,rfl⟩
    have hm:(m=0/\d=.int 0) \/ (m=1/\d=.int 1):=by
     match m,hd2 with
     | 0,h=>cases h;exact .inl ⟨rfl,rfl⟩
     | 1,h=>cases h;exact .inr ⟨rfl,rfl⟩
     | (q+2),h=>cases h
    rcases hm with⟨rfl,rfl⟩ | ⟨rfl,rfl⟩
    ·refine zq (qC ?_)
     rw [if_pos rfl]
     refine jz (by simp;omega) ?_
     walk_at "w"
     simp
     rfl
    ·refine zq (qC ?_)
     rw [if_pos rfl]
     refine jz (by simp;omega) ?_
     walk_at "w"
     simp
     rfl
   ·rintro ρ2 es2 ⟨⟨v,rfl⟩,rfl⟩
    exact⟨⟨[_,_,_],rfl,rfl⟩,rfl⟩
 ·rw [show aoq F2 (qh (rows,wd).1.length (rows,wd).2)=(yv rows.length wd).map gD3 from ac2 _ _]
  refine zq (acx (vo (jc (zM rfl ⟨_,rfl,fun n ρ es=>(∃ u,ρ=[u,some (.dat (tab rows)),some (.dat (.int cut))])/\es=(((yv rows.length wd).take n).filter (opG rows wd cut)).map gD3,⟨⟨_,rfl⟩,rfl⟩,?_,?_⟩))))
  ·rintro D n d ρ' es hd ⟨⟨u,rfl⟩,rfl⟩
   rw [alv] at hd
   cases hq:(yv rows.length wd)[n]? with
   | none=>rw [hq] at hd;cases hd
   | some q =>
    rw [hq] at hd
    cases hd
    have tk:(yv rows.length wd).take (n+1)=(yv rows.length wd).take n++[q]:=by
     rw [anV,hq]
     rfl
    have len:((((yv rows.length wd).take n).filter (opG rows wd cut)).map gD3).length<1000:=by
     rw [ale]
     have a1:=amW (opG rows wd cut) ((yv rows.length wd).take n)
     rw [alq] at a1
     omega
    refine zq (j7 (zu (rows,wd,cut,q.1,q.2.1,q.2.2) ?_))
    unfold gD3 at *
    walk_at "w"
    rintro _ rfl
    dsimp only
    refine⟨_,rfl,?_⟩
    refine yI (fun h=>?_) fun h=>?_
    ·refine jz len ?_
     walk_at "w"
     rw [tk,amV,alX,amv,show opG rows wd cut q=true from h,if_pos rfl]
     rfl
    ·refine⟨⟨_,rfl⟩,?_⟩
     rw [tk,amV,alX,amv,show opG rows wd cut q=false from h,if_neg ald]
     simp
  ·rintro ρ' es ⟨_,rfl⟩
   rw [ale,amf]
noncomputable abbrev CC:=List (List Int)×Nat×Int×Int×Int
noncomputable def zK (rows:List (List Int)) (wd:Nat) (x y:Int):Bool:=zX rows wd x y && zX rows wd (x+1) (y+1)
noncomputable def hiB (rows:List (List Int)) (cut x y:Int):Bool:=decide (cut<ya rows x y)
theorem cell_in {rows:List (List Int)} {wd:Nat} {x y:Int} (h:zK rows wd x y=true):zX rows wd x y=true/\zX rows wd (x+1) y=true/\zX rows wd (x+1) (y+1)=true/\zX rows wd x (y+1)=true:=by
 unfold zK at h
 rw [alu] at h
 obtain⟨a0,a1,a2,a3⟩:=vy h.1
 obtain⟨b0,b1,b2,b3⟩:=vy h.2
 refine⟨h.1,?_,h.2,?_⟩ <;> unfold zX <;> rw [decide_eq_true (by omega),decide_eq_true (by omega)] <;> rfl
section
variable {rows:List (List Int)} {wd:Nat} {cut x y:Int}
theorem aeU (h:zK rows wd x y=true):zY rows wd cut x y 0=(hiB rows cut x y != hiB rows cut (x+1) y):=by
 obtain⟨a,b,c,d⟩:=cell_in h
 unfold zY qe
 show (decide ((0:Int)=0 \/ (0:Int)=1) && (zX rows wd x y && zX rows wd (x+1) y) && _)=_
 rw [a,b]
 rfl
theorem ahs (h:zK rows wd x y=true):zY rows wd cut x y 1=(hiB rows cut x y != hiB rows cut x (y+1)):=by
 obtain⟨a,b,c,d⟩:=cell_in h
 unfold zY qe
 show (decide ((1:Int)=0 \/ (1:Int)=1) && (zX rows wd x y && zX rows wd x (y+1)) && _)=_
 rw [a,d]
 rfl
theorem aeV (h:zK rows wd x y=true):zY rows wd cut x (y+1) 0=(hiB rows cut x (y+1) != hiB rows cut (x+1) (y+1)):=by
 obtain⟨a,b,c,d⟩:=cell_in h
 unfold zY qe
 show (decide ((0:Int)=0 \/ (0:Int)=1) && (zX rows wd x (y+1) && zX rows wd (x+1) (y+1)) && _)=_
 rw [c,d]
 rfl
theorem aeW (h:zK rows wd x y=true):zY rows wd cut (x+1) y 1=(hiB rows cut (x+1) y != hiB rows cut (x+1) (y+1)):=by
 obtain⟨a,b,c,d⟩:=cell_in h
 unfold zY qe
 show (decide ((1:Int)=0 \/ (1:Int)=1) && (zX rows wd (x+1) y && zX rows wd (x+1) (y+1)) && _)=_
 rw [b,c]
 rfl
end
noncomputable def cg (x y:Int):List (Int×Int×Int):=[(x,y,0),(x,y,1),(x,y+1,0),(x+1,y,1)]
noncomputable def abW (rows:List (List Int)) (wd:Nat) (cut x y:Int):Bool:=(cg x y).all (opG rows wd cut)
noncomputable def ak1 (rows:List (List Int)) (x y:Int):Int:=ya rows x y+(ya rows (x+1) y+(ya rows (x+1) (y+1)+(ya rows x (y+1)+0)))
noncomputable def aaK (rows:List (List Int)) (cut x y:Int):Bool:=decide (4 * cut+2<=ak1 rows x y)
noncomputable def pairD (g h:Int×Int×Int):PyData:=.tuple [gD3 g,gD3 h]
noncomputable abbrev adU (K:alg):Sp:=spD K 3 (fun (c:List (List Int)×Nat×Int×Int) xs=>xs=[.dat (tab c.1),.dat (.int c.2.2.1),.dat (.int c.2.2.2)]/\Good c.2.1 c.1) fun c r=>r=.bool (zK c.1 c.2.1 c.2.2.1 c.2.2.2)
theorem aiO (F:Def K mg "has_cell" jR pq) (uat:FnIn P w K mg base k "has_point" pq (ahm K)):FnIn P w K mg base (k+1) "has_cell" pq (adU K):=by
 refine F.ok acS rfl fun fa cdv A outer s H E hr=>⟨_,(zk (zy (abg (zg uat hr rfl (za (pv 0) (za (pv 1) (za (pv 2) zb)))) (adm (zg uat hr rfl (za (pv 0) (za (zC zQ (pv 1) ze) (za (zC zQ (pv 2) ze) zb)))))))),?_⟩
 rintro f xs ⟨rows,wd,x,y⟩ hl ⟨rfl,g⟩
 try dsimp only [yj,zh]
 dsimp only at *
 refine qB (adw (zu (rows,wd,x,y) ?_))
 walk_at "w"
 rintro _ rfl
 dsimp only
 refine⟨_,rfl,?_⟩
 refine yI (fun h=>?_) fun h=>?_
 ·refine zu (rows,wd,x+1,y+1) ?_
  walk_at "w"
  rintro _ rfl
  dsimp only
  unfold zK
  rw [h,amm]
 ·unfold zK
  rw [h,ana]
noncomputable abbrev aa6 (K:alg):Sp:=spD K 2 (fun (c:Int×Int) xs=>xs=[.dat (.int c.1),.dat (.int c.2)]) fun c r=>r=.list [.tuple [.int c.1,.int c.2],.tuple [.int (c.1+1),.int c.2],.tuple [.int (c.1+1),.int (c.2+1)],.tuple [.int c.1,.int (c.2+1)]]
theorem adV (F:Def K mg "corners" qr pH):FnIn P w K mg base (k+1) "corners" pH (aa6 K):=by
 refine F.ok adP rfl fun fa cdv A outer s H E hr=>⟨_,(zk (zy (yu (za (zL (za (pv 0) (za (pv 1) zb))) (za (zL (za (zC zQ (pv 0) ze) (za (pv 1) zb))) (za (zL (za (zC zQ (pv 0) ze) (za (zC zQ (pv 1) ze) zb))) (za (zL (za (pv 0) (za (zC zQ (pv 1) ze) zb))) zb))))))),?_⟩
 rintro f xs ⟨x,y⟩ hl rfl
 try dsimp only [yj,zh]
 dsimp only at *
 walk_at "w"
 rfl
noncomputable abbrev vh (K:alg):Sp:=spD K 1 (fun (c:Int×Int) xs=>xs=[.dat (.tuple [.int c.1,.int c.2])]) fun c r=>r=.list ((cg c.1 c.2).map gD3)
theorem afS (F:Def K mg "cell_gates" yX ["cell"]):FnIn P w K mg base (k+1) "cell_gates" ["cell"] (vh K):=by
 refine F.ok sc_cell_gates rfl fun fa cdv A outer s H E hr=>⟨_,(zf (yt (pv 0) (yc (K:=K) (n:=2) rfl rfl (zm (zl (i:=1) sc_cell_gates.nd rfl (Or.inl rfl) (Or.inr rfl)) (zm (zl (i:=2) sc_cell_gates.nd rfl (Or.inl rfl) (Or.inr rfl)) z6)))) (zk (zy (yu (za (zL (za (pv 1) (za (pv 2) (za ze zb)))) (za (zL (za (pv 1) (za (pv 2) (za ze zb)))) (za (zL (za (pv 1) (za (zC zQ (pv 2) ze) (za ze zb)))) (za (zL (za (zC zQ (pv 1) ze) (za (pv 2) (za ze zb)))) zb)))))))),?_⟩
 rintro f xs ⟨x,y⟩ hl rfl
 try dsimp only [yj,zh]
 dsimp only at *
 walk_at "w"
 rfl
noncomputable abbrev aiP (c:CC) (xs:List DV):Prop:=xs=[.dat (tab c.1),.dat (.int c.2.2.1),.dat (.tuple [.int c.2.2.2.1,.int c.2.2.2.2])]/\Good c.2.1 c.1/\zK c.1 c.2.1 c.2.2.2.1 c.2.2.2.2=true
noncomputable abbrev aa7 (K:alg):Sp:=spD K 3 aiP fun c r=>r=.bool (abW c.1 c.2.1 c.2.2.1 c.2.2.2.1 c.2.2.2.2)
theorem adW (F:Def K mg "is_crossed" yY ph) (uag:mg "all"=none) (uan:FnIn P w K mg base k "is_open" pf (abV K)) (uao:FnIn P w K mg base k "cell_gates" ["cell"] (vh K)):FnIn P w K mg base (k+1) "is_crossed" ph (aa7 K):=by
 refine F.ok aaI rfl fun fa cdv A outer s H E hr=>⟨_,(zk (zy (zz (aaT (K:=K) rfl rfl) rfl uag aoZ (za (jb (N:=pB) (own:=1) (fr:=[0,1]) ⟨rfl,by decide +kernel,of_decide_eq_true (by kernel_rfl),of_decide_eq_true (by kernel_rfl),of_decide_eq_true (by kernel_rfl),rfl⟩ rfl (yk (K:=K) rfl (zg uao hr rfl (za (pv 2) zb))) (fun _ _ _ _=>(zl (i:=0) (show (pB:List Str).Nodup by decide +kernel) rfl (Or.inl rfl) (Or.inr rfl))) (fun _ _ _ _=>yM) (fun _ _ _ _=>(zg uan hr rfl (za (pv 1) (za (pv 2) (za (pv 0) zb))))) rfl rfl (fun _=>rfl)) zb)))),?_⟩
 rintro f xs ⟨rows,wd,cut,x,y⟩ hl ⟨rfl,g,hc⟩
 try dsimp only [yj,zh]
 dsimp only at *
 refine qB (ajf (PEdO.ped (aei (A:=gD3) (B:=fun q=>PyData.bool (opG rows wd cut q)) (cg x y) (jc (zu (x,y) ?_)))))
 walk_at "w"
 rintro _ rfl
 refine⟨_,rfl,rfl,show 4<=1000 by decide,?_,?_⟩
 ·rintro D q ρ' es hq ho hes
  obtain⟨u,rfl⟩:=ho.one
  refine zq (qC ?_)
  rw [if_pos rfl]
  refine jz hes (zu (rows,wd,cut,q.1,q.2.1,q.2.2) ?_)
  unfold gD3
  walk_at "w"
  rintro _ rfl
  exact⟨.mk1,rfl⟩
 ·refine⟨(cg x y).map (opG rows wd cut),by rw [aoR];rfl,?_⟩
  show PyData.bool _=PyData.bool _
  unfold abW
  rw [List.all_map]
  rfl
noncomputable abbrev ajn (K:alg):Sp:=spD K 3 aiP fun c r=>r=.bool (aaK c.1 c.2.2.1 c.2.2.2.1 c.2.2.2.2)
theorem akp (F:Def K mg "has_high_middle" yn ph) (uaz:mg "sum"=none) (ua8:FnIn P w K mg base k "corners" pH (aa6 K)):FnIn P w K mg base (k+1) "has_high_middle" ph (ajn K):=by
 refine F.ok sc_has_high_middle rfl fun fa cdv A outer s H E hr=>⟨_,(zf (yt (pv 2) (yc (K:=K) (n:=2) rfl rfl (zm (zl (i:=3) sc_has_high_middle.nd rfl (Or.inl rfl) (Or.inr rfl)) (zm (zl (i:=4) sc_has_high_middle.nd rfl (Or.inl rfl) (Or.inr rfl)) z6)))) (zk (zy (yV ai5 (zz (adA (K:=K) rfl rfl) rfl uaz PyProof.Rows.boot_sum (za (jb (N:=["a","b","rows"]) (own:=2) (fr:=[0]) ⟨rfl,by decide +kernel,of_decide_eq_true (by kernel_rfl),of_decide_eq_true (by kernel_rfl),of_decide_eq_true (by kernel_rfl),rfl⟩ rfl (yk (K:=K) rfl (zg ua8 hr rfl (za (pv 3) (za (pv 4) zb)))) (fun _ _ _ _=>(yc (K:=K) (n:=2) rfl rfl (zm (zl (i:=0) (show (["a","b","rows"]:List Str).Nodup by decide +kernel) rfl (Or.inl rfl) (Or.inr rfl)) (zm (zl (i:=1) (show (["a","b","rows"]:List Str).Nodup by decide +kernel) rfl (Or.inl rfl) (Or.inr rfl)) z6)))) (fun _ _ _ _=>yM) (fun _ _ _ _=>(zP (zw (K:=K) rfl) (zP (zw (K:=K) rfl) (pv 2) (pv 1) (fun _ _=>rfl)) (pv 0) (fun _ _=>rfl))) rfl rfl (fun _=>rfl)) zb)) (zC zQ (zC v7 ze (pv 1)) ze) (zO _))))),?_⟩
 rintro f xs ⟨rows,wd,cut,x,y⟩ hl ⟨rfl,g,hc⟩
 try dsimp only [yj,zh]
 dsimp only at *
 obtain⟨i1,i2,i3,i4⟩:=cell_in hc
 refine yH (yo (zM rfl (jC rfl (zD (zq (zD (zq (yB ?_))))))))
 refine qB (agq (akQ (PEdO.ped (aei (A:=fun p:Int×Int=>PyData.tuple [.int p.1,.int p.2]) (B:=fun p:Int×Int=>PyData.int (ya rows p.1 p.2)) [(x,y),(x+1,y),(x+1,y+1),(x,y+1)] (jc (zu (x,y) ?_))))))
 walk_at "w"
 rintro _ rfl
 refine⟨_,rfl,rfl,show 4<=1000 by decide,?_,?_⟩
 ·rintro D p ρ' es hp ho hes
  obtain⟨u,v,rfl⟩:=ho.two
  have hi:zX rows wd p.1 p.2=true:=by
   simp only [alp,amA,or_false] at hp
   rcases hp with rfl | rfl | rfl | rfl
   ·exact i1
   ·exact i2
   ·exact i3
   ·exact i4
  obtain⟨r,h1,h2⟩:=qf g hi
  refine jC rfl (zD (zq (zD (zq (yB (qC ?_))))))
  rw [if_pos rfl]
  refine jz hes ?_
  unfold tab
  walk_at "w"
  refine⟨_,h1,?_⟩
  walk_at "w"
  refine⟨_,h2,?_⟩
  exact⟨.mk2,rfl⟩
 ·refine⟨[ya rows x y,ya rows (x+1) y,ya rows (x+1) (y+1),ya rows x (y+1)],rfl,?_⟩
  walk_at "w"
  rfl
noncomputable def abX (rows:List (List Int)) (cut x y:Int):List PyData:=if (hiB rows cut x y == aaK rows cut x y)=true then [pairD (x,y,0) (x+1,y,1),pairD (x,y,1) (x,y+1,0)] else [pairD (x,y,0) (x,y,1),pairD (x,y+1,0) (x+1,y,1)]
noncomputable def thr (rows:List (List Int)) (wd:Nat) (cut x y:Int):List (Int×Int×Int):=(cg x y).filter (opG rows wd cut)
noncomputable def aht:List (Int×Int×Int)->List PyData
 | a :: b :: _=>[pairD a b]
 | _=>[]
noncomputable def aeX (rows:List (List Int)) (wd:Nat) (cut x y:Int):List PyData:=if abW rows wd cut x y=true then abX rows cut x y else aht (thr rows wd cut x y)
theorem aiQ {rows:List (List Int)} {wd:Nat} {cut x y:Int} (h:zK rows wd x y=true):thr rows wd cut x y=[] \/ ∃ a b r,thr rows wd cut x y=a :: b :: r:=by
 have e1:opG rows wd cut (x,y,0)=_:=aeU (cut:=cut) h
 have e2:opG rows wd cut (x,y,1)=_:=ahs (cut:=cut) h
 have e3:opG rows wd cut (x,y+1,0)=_:=aeV (cut:=cut) h
 have e4:opG rows wd cut (x+1,y,1)=_:=aeW (cut:=cut) h
 unfold thr cg
 simp only [amv,e1,e2,e3,e4,aoX]
 cases hiB rows cut x y <;> cases hiB rows cut (x+1) y <;> cases hiB rows cut (x+1) (y+1) <;> cases hiB rows cut x (y+1) <;> simp
noncomputable abbrev ac5 (K:alg):Sp:=spN K 3 aiP fun c es=>es=abX c.1 c.2.2.1 c.2.2.2.1 c.2.2.2.2
theorem afT (F:Def K mg "crossed_ties" yF ph) (uao:FnIn P w K mg base k "cell_gates" ["cell"] (vh K)) (uah:FnIn P w K mg base k "stands_high" pF (abU K)) (ua9:FnIn P w K mg base k "has_high_middle" ph (ajn K)):FnIn P w K mg base (k+1) "crossed_ties" ph (ac5 K):=by
 refine F.okN sc_crossed_ties rfl fun fa cdv A outer s H E hr=>⟨_,(zf (yt (zg uao hr rfl (za (pv 2) zb)) (aej (K:=K) (n:=4) rfl rfl (zm (zl (i:=3) sc_crossed_ties.nd rfl (Or.inl rfl) (Or.inr rfl)) (zm (zl (i:=4) sc_crossed_ties.nd rfl (Or.inl rfl) (Or.inr rfl)) (zm (zl (i:=5) sc_crossed_ties.nd rfl (Or.inl rfl) (Or.inr rfl)) (zm (zl (i:=6) sc_crossed_ties.nd rfl (Or.inl rfl) (Or.inr rfl)) z6)))))) (zf (yG (zS (ady (K:=K) rfl hr.units) (zg uah hr rfl (za (pv 0) (za (pv 1) (za (pv 2) zb)))) (zg ua9 hr rfl (za (pv 0) (za (pv 1) (za (pv 2) zb)))) (zO _)) (zk (zy (yu (za (zL (za (pv 3) (za (pv 6) zb))) (za (zL (za (pv 4) (za (pv 5) zb))) zb))))) z5) (zk (zy (yu (za (zL (za (pv 3) (za (pv 4) zb))) (za (zL (za (pv 5) (za (pv 6) zb))) zb))))))),?_⟩
 rintro f xs ⟨rows,wd,cut,x,y⟩ hl ⟨rfl,g,hc⟩
 try dsimp only [yj,zh]
 dsimp only at *
 have hi:=(cell_in hc).1
 refine aaj (yo (zu (x,y) ?_))
 walk_at "w"
 rintro _ rfl
 refine ajg rfl (zD (zq (zD (zq (zD (zq (zD (zq (yB ?_)))))))))
 refine ajh (yT (qQ (zu (rows,wd,cut,x,y) ?_)))
 walk_at "w"
 rintro _ rfl
 refine zu (rows,wd,cut,x,y) ?_
 walk_at "w"
 rintro _ rfl
 dsimp only
 walk_at "w"
 rw [if_neg ald,vg]
 unfold abX
 refine yI (fun h=>?_) fun h=>?_
 ·rw [if_pos (show (hiB rows cut x y == aaK rows cut x y)=true from h)]
  refine acw ?_
  walk_at "w"
  rfl
 ·rw [if_neg (show ¬ (hiB rows cut x y == aaK rows cut x y)=true from by rw [show (hiB rows cut x y == aaK rows cut x y)=false from h];exact ald)]
  refine acx (acw ?_)
  walk_at "w"
  rfl
noncomputable abbrev aeY (K:alg):Sp:=spN K 3 aiP fun c es=>es=aeX c.1 c.2.1 c.2.2.1 c.2.2.2.1 c.2.2.2.2
theorem ahu (F:Def K mg "cell_ties" jt ph) (uba:FnIn P w K mg base k "is_crossed" ph (aa7 K)) (ubb:FnIn P w K mg base k "crossed_ties" ph (ac5 K)) (uao:FnIn P w K mg base k "cell_gates" ["cell"] (vh K)) (uan:FnIn P w K mg base k "is_open" pf (abV K)):FnIn P w K mg base (k+1) "cell_ties" ph (aeY K):=by
 refine F.okN sc_cell_ties rfl fun fa cdv A outer s H E hr=>⟨_,(zf (yG (yA (K:=K) rfl (zg uba hr rfl (za (pv 0) (za (pv 1) (za (pv 2) zb)))) (fun _=>rfl)) (zk (zy (zg ubb hr rfl (za (pv 0) (za (pv 1) (za (pv 2) zb)))))) z5) (zf (vH (i:=3) (N:=pB) (own:=1) (fr:=[0,1]) ⟨rfl,by decide +kernel,of_decide_eq_true (by kernel_rfl),of_decide_eq_true (by kernel_rfl),of_decide_eq_true (by kernel_rfl),rfl⟩ rfl sc_cell_ties.nd rfl (Or.inl rfl) (yk (K:=K) rfl (zg uao hr rfl (za (pv 2) zb))) (fun _ _ _ _=>(zl (i:=0) (show (pB:List Str).Nodup by decide +kernel) rfl (Or.inl rfl) (Or.inr rfl))) (fun _ _ _ _=>(abn (yA (K:=K) rfl (zg uan hr rfl (za (pv 1) (za (pv 2) (za (pv 0) zb)))) (fun _=>rfl)))) (fun _ _ _ _=>(pv 0)) rfl rfl (fun _=>rfl) (Or.inl rfl) rfl) (zk (zy (qO (yA (K:=K) rfl (pv 3) (fun _=>rfl)) (yu (za (zL (za (zP (zw (K:=K) rfl) (pv 3) ze (fun _ _=>rfl)) (za (zP (zw (K:=K) rfl) (pv 3) ze (fun _ _=>rfl)) zb))) zb)) (yu zb)))))),?_⟩
 rintro f xs ⟨rows,wd,cut,x,y⟩ hl ⟨rfl,g,hc⟩
 try dsimp only [yj,zh]
 dsimp only at *
 refine ajh (j7 (zu (rows,wd,cut,x,y) ?_))
 walk_at "w"
 rintro _ rfl
 dsimp only
 refine⟨_,rfl,?_⟩
 unfold aeX
 refine yI (fun h=>?_) fun h=>?_
 ·rw [if_pos h]
  refine aak (rows,wd,cut,x,y) ?_
  walk_at "w"
  exact fun es he=>he
 ·rw [if_neg (by rw [h];exact ald)]
  refine aaj (yo (PEdO.ped (vo (jc (zu (x,y) ?_)))))
  walk_at "w"
  rintro _ rfl
  refine⟨_,rfl,fun n ρ es=>(∃ u,ρ=[u,some (.dat (tab rows)),some (.dat (.int cut))])/\es=(((cg x y).take n).filter (opG rows wd cut)).map gD3,⟨⟨_,rfl⟩,rfl⟩,?_,?_⟩
  ·rintro D n d ρ' es hd ⟨⟨u,rfl⟩,rfl⟩
   rw [alv] at hd
   cases hq:(cg x y)[n]? with
   | none=>rw [hq] at hd;cases hd
   | some q =>
    rw [hq] at hd
    cases hd
    have hn:n<(cg x y).length:=(alf.mp hq).1
    have n4:n<4:=hn
    have tk:(cg x y).take (n+1)=(cg x y).take n++[q]:=by
     rw [anV,hq]
     rfl
    have len:((((cg x y).take n).filter (opG rows wd cut)).map gD3).length<1000:=by
     rw [ale]
     have a1:=amW (opG rows wd cut) ((cg x y).take n)
     rw [alq] at a1
     omega
    refine zq (j7 (zu (rows,wd,cut,q.1,q.2.1,q.2.2) ?_))
    unfold gD3 at *
    walk_at "w"
    rintro _ rfl
    dsimp only
    refine⟨_,rfl,?_⟩
    refine yI (fun h=>?_) fun h=>?_
    ·refine jz len ?_
     walk_at "w"
     rw [tk,amV,alX,amv,show opG rows wd cut q=true from h,if_pos rfl]
     rfl
    ·refine⟨⟨_,rfl⟩,?_⟩
     rw [tk,amV,alX,amv,show opG rows wd cut q=false from h,if_neg ald]
     simp
  ·rintro ρ' es ⟨_,rfl⟩
   rw [ale,amf]
   rw [show List.filter (opG rows wd cut) (cg (x,y).1 (x,y).2)=thr rows wd cut x y from rfl]
   rcases aiQ (cut:=cut) hc with e | ⟨a,b,r,e⟩
   ·rw [e]
    refine zq (acx (aji (j7 (zM rfl ⟨false,rfl,?_⟩))))
    rw [if_neg ald]
    exact ajc rfl
   ·rw [e]
    have h0:atI ((a :: b :: r).map gD3) 0=some (gD3 a):=yQ (xs:=a :: b :: r) (j:=0) rfl (anN _)
    have h1:atI ((a :: b :: r).map gD3) 1=some (gD3 b):=yQ (xs:=a :: b :: r) (j:=1) rfl (Nat.succ_lt_succ (anN _))
    refine zq (acx (aji (j7 (zM rfl ⟨true,rfl,?_⟩))))
    rw [if_pos rfl]
    refine acw ?_
    walk_at "w"
    refine⟨_,h0,?_⟩
    walk_at "w"
    refine⟨_,h1,?_⟩
    walk_at "w"
    rfl
noncomputable def opF (A B C D:Bool) (i:Fin 4):Bool:=match i with
 | 0=>A != B
 | 1=>A != D
 | 2=>D != C
 | 3=>B != C
noncomputable def enF (A B C D:Bool) (i:Fin 4):Bool:=match i with
 | 0=>!A
 | 1=>A
 | 2=>D
 | 3=>!B
noncomputable def aau (A B C D M:Bool):List (Fin 4×Fin 4) :=
 if (opF A B C D 0 && opF A B C D 1 && opF A B C D 2 && opF A B C D 3)=true then (if (A == M)=true then [(0,3),(1,2)] else [(0,1),(2,3)]) else
 match ([0,1,2,3]:List (Fin 4)).filter (opF A B C D) with
 | a :: b :: _=>[(a,b)]
 | _=>[]
noncomputable def prt {α:Type} [DecidableEq α] (l:List (α×α)) (g:α):Option α:=l.findSome? fun p=>if p.1=g then some p.2 else if p.2=g then some p.1 else none
theorem aiR:∀ (A B C D M:Bool) (i:Fin 4),opF A B C D i=true->∃ j,prt (aau A B C D M) i=some j/\j≠i/\opF A B C D j=true/\prt (aau A B C D M) j=some i/\enF A B C D j=!enF A B C D i:=by decide
theorem ac6:∀ (A B C D M:Bool),aau A B C D M=[] \/ (∃ a b,a≠b/\aau A B C D M=[(a,b)]) \/ ∃ a b c d,a≠b/\a≠c/\a≠d/\b≠c/\b≠d/\c≠d/\aau A B C D M=[(a,b),(c,d)]:=by decide
noncomputable abbrev Gt:=Int×Int×Int
noncomputable def gt (x y:Int) (i:Fin 4):Gt:=match i with
 | 0=>(x,y,0)
 | 1=>(x,y,1)
 | 2=>(x,y+1,0)
 | 3=>(x+1,y,1)
theorem abY {x y:Int} {i j:Fin 4} (h:gt x y i=gt x y j):i=j:=by
 have h1:(gt x y i).1=(gt x y j).1:=by rw [h]
 have h2:(gt x y i).2.1=(gt x y j).2.1:=by rw [h]
 have h3:(gt x y i).2.2=(gt x y j).2.2:=by rw [h]
 revert h1 h2 h3
 clear h
 match i,j with
 | 0,0=>intros;rfl
 | 0,1=>intro _ _ h;simp [gt] at h
 | 0,2=>intro _ h _;simp [gt] at h;omega
 | 0,3=>intro _ _ h;simp [gt] at h
 | 1,0=>intro _ _ h;simp [gt] at h
 | 1,1=>intros;rfl
 | 1,2=>intro _ _ h;simp [gt] at h
 | 1,3=>intro h _ _;simp [gt] at h;omega
 | 2,0=>intro _ h _;simp [gt] at h;omega
 | 2,1=>intro _ _ h;simp [gt] at h
 | 2,2=>intros;rfl
 | 2,3=>intro _ _ h;simp [gt] at h
 | 3,0=>intro _ _ h;simp [gt] at h
 | 3,1=>intro h _ _;simp [gt] at h;omega
 | 3,2=>intro _ _ h;simp [gt] at h
 | 3,3=>intros;rfl
theorem aeZ {α β:Type} [DecidableEq α] [DecidableEq β] {f:α->β} (inj:∀ i j,f i=f j->i=j) (l:List (α×α)) (i:α):prt (l.map fun p=>(f p.1,f p.2)) (f i)=(prt l i).map f:=by
 unfold prt
 induction l with
 | nil=>rfl
 | cons p l ih =>
  rw [alI,anF,anF]
  have e1:(f p.1=f i)↔p.1=i:=⟨inj _ _,fun z=>by rw [z]⟩
  have e2:(f p.2=f i)↔p.2=i:=⟨inj _ _,fun z=>by rw [z]⟩
  by_cases h1:p.1=i
  ·rw [if_pos h1,if_pos (e1.mpr h1)];rfl
  ·rw [if_neg h1,if_neg (fun z=>h1 (e1.mp z))]
   by_cases h2:p.2=i
   ·rw [if_pos h2,if_pos (e2.mpr h2)];rfl
   ·rw [if_neg h2,if_neg (fun z=>h2 (e2.mp z))];exact ih
section
variable (rows:List (List Int)) (wd:Nat) (cut:Int)
noncomputable def t4 (x y:Int):List (Fin 4×Fin 4):=aau (hiB rows cut x y) (hiB rows cut (x+1) y) (hiB rows cut (x+1) (y+1)) (hiB rows cut x (y+1)) (aaK rows cut x y)
noncomputable def jI (x y:Int):List (Gt×Gt):=(t4 rows cut x y).map fun p=>(gt x y p.1,gt x y p.2)
noncomputable def jg (w:Int) (h:Bool):Int×Int:=if w=0 then (if h=true then (0,-1) else (0,0)) else (if h=true then (0,0) else (-1,0))
noncomputable def jh (w:Int) (h:Bool):Int×Int:=if w=0 then (if h=true then (0,0) else (0,-1)) else (if h=true then (-1,0) else (0,0))
noncomputable def ahC (g:Gt):Int×Int:=(g.1+(jg g.2.2 (hiB rows cut g.1 g.2.1)).1,g.2.1+(jg g.2.2 (hiB rows cut g.1 g.2.1)).2)
noncomputable def bhC (g:Gt):Int×Int:=(g.1+(jh g.2.2 (hiB rows cut g.1 g.2.1)).1,g.2.1+(jh g.2.2 (hiB rows cut g.1 g.2.1)).2)
noncomputable def zZ (g:Gt):Option Gt:=if zK rows wd (ahC rows cut g).1 (ahC rows cut g).2=true then prt (jI rows cut (ahC rows cut g).1 (ahC rows cut g).2) g else none
noncomputable def yr (g:Gt):Option Gt:=if zK rows wd (bhC rows cut g).1 (bhC rows cut g).2=true then prt (jI rows cut (bhC rows cut g).1 (bhC rows cut g).2) g else none
end
section
variable {rows:List (List Int)} {wd:Nat} {cut x y:Int}
theorem vB (h:zK rows wd x y=true) (i:Fin 4):opG rows wd cut (gt x y i)=opF (hiB rows cut x y) (hiB rows cut (x+1) y) (hiB rows cut (x+1) (y+1)) (hiB rows cut x (y+1)) i:=by
 match i with
 | 0=>exact aeU h
 | 1=>exact ahs h
 | 2=>exact aeV h
 | 3=>exact aeW h
theorem ae0 (i:Fin 4):(ahC rows cut (gt x y i)=(x,y)↔enF (hiB rows cut x y) (hiB rows cut (x+1) y) (hiB rows cut (x+1) (y+1)) (hiB rows cut x (y+1)) i=true)/\(bhC rows cut (gt x y i)=(x,y)↔enF (hiB rows cut x y) (hiB rows cut (x+1) y) (hiB rows cut (x+1) (y+1)) (hiB rows cut x (y+1)) i=false):=by
 unfold ahC bhC
 match i with
 | 0 =>
  show ((x+(jg 0 (hiB rows cut x y)).1,y+(jg 0 (hiB rows cut x y)).2)=(x,y)↔(!hiB rows cut x y)=true)/\((x+(jh 0 (hiB rows cut x y)).1,y+(jh 0 (hiB rows cut x y)).2)=(x,y)↔(!hiB rows cut x y)=false)
  cases hiB rows cut x y <;> simp [jg,jh] <;> omega
 | 1 =>
  show ((x+(jg 1 (hiB rows cut x y)).1,y+(jg 1 (hiB rows cut x y)).2)=(x,y)↔hiB rows cut x y=true)/\((x+(jh 1 (hiB rows cut x y)).1,y+(jh 1 (hiB rows cut x y)).2)=(x,y)↔hiB rows cut x y=false)
  cases hiB rows cut x y <;> simp [jg,jh] <;> omega
 | 2 =>
  show ((x+(jg 0 (hiB rows cut x (y+1))).1,y+1+(jg 0 (hiB rows cut x (y+1))).2)=(x,y)↔hiB rows cut x (y+1)=true)/\((x+(jh 0 (hiB rows cut x (y+1))).1,y+1+(jh 0 (hiB rows cut x (y+1))).2)=(x,y)↔hiB rows cut x (y+1)=false)
  cases hiB rows cut x (y+1) <;> simp [jg,jh] <;> omega
 | 3 =>
  show ((x+1+(jg 1 (hiB rows cut (x+1) y)).1,y+(jg 1 (hiB rows cut (x+1) y)).2)=(x,y)↔(!hiB rows cut (x+1) y)=true)/\((x+1+(jh 1 (hiB rows cut (x+1) y)).1,y+(jh 1 (hiB rows cut (x+1) y)).2)=(x,y)↔(!hiB rows cut (x+1) y)=false)
  cases hiB rows cut (x+1) y <;> simp [jg,jh] <;> omega
theorem ae1 (h:zK rows wd x y=true) {i:Fin 4} (o:opG rows wd cut (gt x y i)=true):∃ j,prt (jI rows cut x y) (gt x y i)=some (gt x y j)/\j≠i/\opG rows wd cut (gt x y j)=true/\prt (jI rows cut x y) (gt x y j)=some (gt x y i) /\
  (ahC rows cut (gt x y i)=(x,y)->bhC rows cut (gt x y j)=(x,y))/\(bhC rows cut (gt x y i)=(x,y)->ahC rows cut (gt x y j)=(x,y)):=by
 rw [vB h] at o
 obtain⟨j,h1,h2,h3,h4,h5⟩:=aiR _ _ _ _ (aaK rows cut x y) i o
 have inj:∀ i j,gt x y i=gt x y j->i=j:=fun _ _=>abY
 refine⟨j,?_,h2,by rw [vB h];exact h3,?_,fun z=>?_,fun z=>?_⟩
 ·unfold jI t4
  rw [aeZ inj,h1]
  rfl
 ·unfold jI t4
  rw [aeZ inj,h4]
  rfl
 ·rw [(ae0 j).2,h5,(ae0 i).1.mp z]
  rfl
 ·rw [(ae0 j).1,h5,(ae0 i).2.mp z]
  rfl
theorem ahv (g:Gt) (hw:g.2.2=0 \/ g.2.2=1):∃ i,g=gt (ahC rows cut g).1 (ahC rows cut g).2 i:=by
 obtain⟨x,y,w⟩:=g
 unfold ahC
 dsimp only at hw ⊢
 rcases hw with rfl | rfl
 ·cases hiB rows cut x y
  ·exact⟨0,by simp [jg,gt]⟩
  ·exact⟨2,by simp [jg,gt];omega⟩
 ·cases hiB rows cut x y
  ·exact⟨3,by simp [jg,gt];omega⟩
  ·exact⟨1,by simp [jg,gt]⟩
theorem afU (g:Gt) (hw:g.2.2=0 \/ g.2.2=1):∃ i,g=gt (bhC rows cut g).1 (bhC rows cut g).2 i:=by
 obtain⟨x,y,w⟩:=g
 unfold bhC
 dsimp only at hw ⊢
 rcases hw with rfl | rfl
 ·cases hiB rows cut x y
  ·exact⟨2,by simp [jh,gt];omega⟩
  ·exact⟨0,by simp [jh,gt]⟩
 ·cases hiB rows cut x y
  ·exact⟨1,by simp [jh,gt]⟩
  ·exact⟨3,by simp [jh,gt];omega⟩
theorem vC {g:Gt} (o:opG rows wd cut g=true):g.2.2=0 \/ g.2.2=1:=by
 unfold opG zY qe at o
 rw [alu,alu] at o
 exact of_decide_eq_true o.1.1
theorem qw {g:Gt} (o:opG rows wd cut g=true) (h:zK rows wd (ahC rows cut g).1 (ahC rows cut g).2=true):∃ n,zZ rows wd cut g=some n/\n≠g/\opG rows wd cut n=true/\bhC rows cut n=ahC rows cut g/\yr rows wd cut n=some g:=by
 obtain⟨i,ei⟩:=ahv (rows:=rows) (cut:=cut) g (vC o)
 have o':=o
 rw [ei] at o'
 obtain⟨j,h1,h2,h3,h4,h5,_⟩:=ae1 h o'
 rw [<-ei] at h1 h4 h5
 have hb:=h5 rfl
 refine⟨gt (ahC rows cut g).1 (ahC rows cut g).2 j,?_,fun z=>h2 (abY (z.trans ei)),h3,hb,?_⟩
 ·unfold zZ
  rw [if_pos h]
  exact h1
 ·unfold yr
  rw [hb,if_pos h]
  exact h4
theorem vX {g:Gt} (o:opG rows wd cut g=true) (h:zK rows wd (bhC rows cut g).1 (bhC rows cut g).2=true):∃ n,yr rows wd cut g=some n/\n≠g/\opG rows wd cut n=true/\ahC rows cut n=bhC rows cut g/\zZ rows wd cut n=some g:=by
 obtain⟨i,ei⟩:=afU (rows:=rows) (cut:=cut) g (vC o)
 have o':=o
 rw [ei] at o'
 obtain⟨j,h1,h2,h3,h4,_,h5⟩:=ae1 h o'
 rw [<-ei] at h1 h4 h5
 have hb:=h5 rfl
 refine⟨gt (bhC rows cut g).1 (bhC rows cut g).2 j,?_,fun z=>h2 (abY (z.trans ei)),h3,hb,?_⟩
 ·unfold yr
  rw [if_pos h]
  exact h1
 ·unfold zZ
  rw [hb,if_pos h]
  exact h4
theorem aav {g g' n:Gt} (o:opG rows wd cut g=true) (o':opG rows wd cut g'=true) (h:zZ rows wd cut g=some n) (h':zZ rows wd cut g'=some n):g=g':=by
 have c:zK rows wd (ahC rows cut g).1 (ahC rows cut g).2=true:=by
  unfold zZ at h
  by_cases z:zK rows wd (ahC rows cut g).1 (ahC rows cut g).2=true
  ·exact z
  ·rw [if_neg z] at h;cases h
 have c':zK rows wd (ahC rows cut g').1 (ahC rows cut g').2=true:=by
  unfold zZ at h'
  by_cases z:zK rows wd (ahC rows cut g').1 (ahC rows cut g').2=true
  ·exact z
  ·rw [if_neg z] at h';cases h'
 obtain⟨m,a1,_,_,_,a2⟩:=qw o c
 obtain⟨m',b1,_,_,_,b2⟩:=qw o' c'
 rw [h] at a1
 rw [h'] at b1
 cases a1
 cases b1
 rw [a2] at b2
 exact Option.some.inj b2
theorem vD {g n:Gt} (o:opG rows wd cut g=true) (h:zZ rows wd cut g=some n):opG rows wd cut n=true/\n≠g:=by
 have c:zK rows wd (ahC rows cut g).1 (ahC rows cut g).2=true:=by
  unfold zZ at h
  by_cases z:zK rows wd (ahC rows cut g).1 (ahC rows cut g).2=true
  ·exact z
  ·rw [if_neg z] at h;cases h
 obtain⟨m,a1,a2,a3,_,_⟩:=qw o c
 rw [h] at a1
 cases a1
 exact⟨a3,a2⟩
end
noncomputable abbrev adX (K:alg):Sp:=spD K 3 (fun (c:List (List Int)×Nat×Int×Int×Int×Int) xs=>xs=[.dat (tab c.1),.dat (.int c.2.2.1),.dat (jx c.2.2.2.1 c.2.2.2.2.1 c.2.2.2.2.2)]/\Good c.2.1 c.1/\zX c.1 c.2.1 c.2.2.2.1 c.2.2.2.2.1=true) fun c r=>r=.str (aa4 c.1 c.2.2.1 c.2.2.2.1 c.2.2.2.2.1 c.2.2.2.2.2)
theorem adY (F:Def K mg "heading" qt pf) (uah:FnIn P w K mg base k "stands_high" pF (abU K)):FnIn P w K mg base (k+1) "heading" pf (adX K):=by
 refine F.ok sc_heading rfl fun fa cdv A outer s H E hr=>⟨_,(zf (yt (pv 2) (yc (K:=K) (n:=3) rfl rfl (zm (zl (i:=3) sc_heading.nd rfl (Or.inl rfl) (Or.inr rfl)) (zm (zl (i:=4) sc_heading.nd rfl (Or.inl rfl) (Or.inr rfl)) (zm (zl (i:=5) sc_heading.nd rfl (Or.inl rfl) (Or.inr rfl)) z6))))) (zf (zW (i:=6) sc_heading.nd rfl (Or.inl rfl) (zg uah hr rfl (za (pv 0) (za (pv 1) (za (zL (za (pv 3) (za (pv 4) zb))) zb))))) (zf (yG (zS (ady (K:=K) rfl hr.units) (pv 5) ze (zO _)) (zk (zy (qO (yA (K:=K) rfl (pv 6) (fun _=>rfl)) qG qG))) z5) (zk (zy (qO (yA (K:=K) rfl (pv 6) (fun _=>rfl)) qG qG)))))),?_⟩
 rintro f xs ⟨rows,wd,cut,x,y,w⟩ hl ⟨rfl,g,hi⟩
 try dsimp only [yj,zh]
 dsimp only at *
 unfold jx
 refine yH (yo (zM rfl (jC rfl (zD (zq (zD (zq (zD (zq (yB ?_))))))))))
 refine yH (yo (zu (rows,wd,cut,x,y) ?_))
 walk_at "w"
 rintro _ rfl
 dsimp only
 walk_at "w"
 rw [if_neg ald,aeQ]
 unfold aa4
 refine yI (fun h=>?_) fun h=>?_
 ·have h':=of_decide_eq_true h
  rw [if_pos h']
  walk_at "w"
  refine yI (fun h2=>?_) fun h2=>?_
  ·walk_at "w"
   rw [if_pos (of_decide_eq_true h2)]
  ·walk_at "w"
   rw [if_neg (of_decide_eq_false h2)]
 ·have h':=of_decide_eq_false h
  rw [if_neg h']
  walk_at "w"
  refine yI (fun h2=>?_) fun h2=>?_
  ·walk_at "w"
   rw [if_pos (of_decide_eq_true h2)]
  ·walk_at "w"
   rw [if_neg (of_decide_eq_false h2)]
noncomputable abbrev akq:List (Str×List Int):=[("down",[0,0]),("up",[0,-1]),("right",[0,0]),("left",[-1,0])]
noncomputable abbrev ahw:List (Str×List Int):=[("down",[0,-1]),("up",[0,0]),("right",[-1,0]),("left",[0,0])]
theorem akr {rows:List (List Int)} {cut x y w:Int} (hw:w=0 \/ w=1):ao7 (aa4 rows cut x y w) akq=some [(jg w (hiB rows cut x y)).1,(jg w (hiB rows cut x y)).2]:=by
 unfold aa4 jg hiB
 rcases hw with rfl | rfl
 ·by_cases h:cut<ya rows x y
  ·rw [if_pos rfl,if_pos h,if_pos rfl,decide_eq_true h,if_pos rfl];decide +kernel
  ·rw [if_pos rfl,if_neg h,if_pos rfl,decide_eq_false h,if_neg ald];decide +kernel
 ·have e:¬ ((1:Int)=0):=by decide
  by_cases h:cut<ya rows x y
  ·rw [if_neg e,if_pos h,if_neg e,decide_eq_true h,if_pos rfl];decide +kernel
  ·rw [if_neg e,if_neg h,if_neg e,decide_eq_false h,if_neg ald];decide +kernel
theorem aks {rows:List (List Int)} {cut x y w:Int} (hw:w=0 \/ w=1):ao7 (aa4 rows cut x y w) ahw=some [(jh w (hiB rows cut x y)).1,(jh w (hiB rows cut x y)).2]:=by
 unfold aa4 jh hiB
 rcases hw with rfl | rfl
 ·by_cases h:cut<ya rows x y
  ·rw [if_pos rfl,if_pos h,if_pos rfl,decide_eq_true h,if_pos rfl];decide +kernel
  ·rw [if_pos rfl,if_neg h,if_pos rfl,decide_eq_false h,if_neg ald];decide +kernel
 ·have e:¬ ((1:Int)=0):=by decide
  by_cases h:cut<ya rows x y
  ·rw [if_neg e,if_pos h,if_neg e,decide_eq_true h,if_pos rfl];decide +kernel
  ·rw [if_neg e,if_neg h,if_neg e,decide_eq_false h,if_neg ald];decide +kernel
theorem ahx {rows:List (List Int)} {wd:Nat} {cut:Int} {g:Gt} (o:opG rows wd cut g=true):zX rows wd g.1 g.2.1=true:=by
 unfold opG zY qe at o
 rw [alu,alu,alu] at o
 exact o.1.2.1
noncomputable abbrev GO:=List (List Int)×Nat×Int×Gt
noncomputable abbrev aiS (c:GO) (xs:List DV):Prop:=xs=[.dat (tab c.1),.dat (.int c.2.2.1),.dat (gD3 c.2.2.2)]/\Good c.2.1 c.1/\opG c.1 c.2.1 c.2.2.1 c.2.2.2=true
noncomputable abbrev ac7 (K:alg):Sp:=spD K 3 aiS fun c r=>r=.tuple [.int (ahC c.1 c.2.2.1 c.2.2.2).1,.int (ahC c.1 c.2.2.1 c.2.2.2).2]
theorem afV {uap:Addr} (F:Def K mg "cell_ahead" yZ pf) (uaA:mg "AHEAD"=some (.ref uap)) (uaq:afH K uap akq=true) (uaB:FnIn P w K mg base k "heading" pf (adX K)):FnIn P w K mg base (k+1) "cell_ahead" pf (ac7 K):=by
 refine F.ok sc_cell_ahead rfl fun fa cdv A outer s H E hr=>⟨_,(zf (yt (ahe (K:=K) rfl rfl uaA uaq (zg uaB hr rfl (za (pv 0) (za (pv 1) (za (pv 2) zb)))) (fun _ _=>rfl)) (yc (K:=K) (n:=2) rfl rfl (zm (zl (i:=3) sc_cell_ahead.nd rfl (Or.inl rfl) (Or.inr rfl)) (zm (zl (i:=4) sc_cell_ahead.nd rfl (Or.inl rfl) (Or.inr rfl)) z6)))) (zk (zy (zL (za (zC zQ (zP (qq (K:=K) rfl) (pv 2) ze (fun _ _=>rfl)) (pv 3)) (za (zC zQ (zP (qq (K:=K) rfl) (pv 2) ze (fun _ _=>rfl)) (pv 4)) zb)))))),?_⟩
 rintro f xs ⟨rows,wd,cut,x,y,w⟩ hl ⟨rfl,g,o⟩
 try dsimp only [yj,zh]
 dsimp only at *
 have hw:=vC o
 have hin:=ahx o
 refine yH (yo (ajk (zu (rows,wd,cut,x,y,w) ?_)))
 unfold gD3 at *
 walk_at "w"
 rintro _ rfl
 refine⟨_,_,rfl,akr hw,?_⟩
 refine jC rfl (zD (zq (zD (zq (yB ?_)))))
 walk_at "w"
 rfl
noncomputable abbrev ae2 (K:alg):Sp:=spD K 3 aiS fun c r=>r=.bool (!zK c.1 c.2.1 (bhC c.1 c.2.2.1 c.2.2.2).1 (bhC c.1 c.2.2.1 c.2.2.2).2)
theorem ahy {uar:Addr} (F:Def K mg "comes_in" jT pf) (uaC:mg "BEHIND"=some (.ref uar)) (uas:afH K uar ahw=true) (uaB:FnIn P w K mg base k "heading" pf (adX K)) (uaD:FnIn P w K mg base k "has_cell" pq (adU K)):FnIn P w K mg base (k+1) "comes_in" pf (ae2 K):=by
 refine F.ok sc_comes_in rfl fun fa cdv A outer s H E hr=>⟨_,(zf (yt (ahe (K:=K) rfl rfl uaC uas (zg uaB hr rfl (za (pv 0) (za (pv 1) (za (pv 2) zb)))) (fun _ _=>rfl)) (yc (K:=K) (n:=2) rfl rfl (zm (zl (i:=3) sc_comes_in.nd rfl (Or.inl rfl) (Or.inr rfl)) (zm (zl (i:=4) sc_comes_in.nd rfl (Or.inl rfl) (Or.inr rfl)) z6)))) (zk (zy (ajv (zg uaD hr rfl (za (pv 0) (za (zC zQ (zP (qq (K:=K) rfl) (pv 2) ze (fun _ _=>rfl)) (pv 3)) (za (zC zQ (zP (qq (K:=K) rfl) (pv 2) ze (fun _ _=>rfl)) (pv 4)) zb)))))))),?_⟩
 rintro f xs ⟨rows,wd,cut,x,y,w⟩ hl ⟨rfl,g,o⟩
 try dsimp only [yj,zh]
 dsimp only at *
 have hw:=vC o
 have hin:=ahx o
 refine yH (yo (ajk (zu (rows,wd,cut,x,y,w) ?_)))
 unfold gD3 at *
 walk_at "w"
 rintro _ rfl
 refine⟨_,_,rfl,aks hw,?_⟩
 refine jC rfl (zD (zq (zD (zq (yB ?_)))))
 walk_at "w"
 refine zu (rows,wd,(bhC rows cut (x,y,w)).1,(bhC rows cut (x,y,w)).2) ?_
 walk_at "w"
 rintro _ rfl
 exact⟨_,rfl,rfl⟩
noncomputable def qE:List (Gt×Gt)->List (PyData×PyData)->List (PyData×PyData)
 | [],kvs=>kvs
 | p :: l,kvs=>qE l (dput (gD3 p.2) (gD3 p.1) (dput (gD3 p.1) (gD3 p.2) kvs))
theorem adZ (l:List (Gt×Gt)) (p:Gt×Gt):∀ kvs,qE (l++[p]) kvs=dput (gD3 p.2) (gD3 p.1) (dput (gD3 p.1) (gD3 p.2) (qE l kvs)):=by
 induction l with
 | nil=>intro kvs;rfl
 | cons q l ih=>intro kvs;exact ih _
theorem aaw (a b:PyData) (kvs:List (PyData×PyData)):(dput a b kvs).length<=kvs.length+1:=by
 unfold dput
 split
 ·rw [ale];omega
 ·rw [alr];exact ali _
theorem afW (l:List (Gt×Gt)):∀ kvs,(qE l kvs).length<=kvs.length+2 * l.length:=by
 induction l with
 | nil=>intro kvs;exact ali _
 | cons q l ih =>
  intro kvs
  have h1:=ih (dput (gD3 q.2) (gD3 q.1) (dput (gD3 q.1) (gD3 q.2) kvs))
  have h2:=aaw (gD3 q.2) (gD3 q.1) (dput (gD3 q.1) (gD3 q.2) kvs)
  have h3:=aaw (gD3 q.1) (gD3 q.2) kvs
  show (qE l _).length<=_
  rw [alC]
  omega
theorem abZ {a b:Gt} (h:gD3 a=gD3 b):a=b:=by
 obtain⟨x,y,w⟩:=a
 obtain⟨x',y',w'⟩:=b
 unfold gD3 jx at h
 simp at h
 simp [h]
theorem ahz {rows:List (List Int)} {wd:Nat} {cut x y:Int} (h:zK rows wd x y=true):aeX rows wd cut x y=(jI rows cut x y).map fun p=>pairD p.1 p.2:=by
 have e0:opG rows wd cut (x,y,0)=_:=vB (cut:=cut) h 0
 have e1:opG rows wd cut (x,y,1)=_:=vB (cut:=cut) h 1
 have e2:opG rows wd cut (x,y+1,0)=_:=vB (cut:=cut) h 2
 have e3:opG rows wd cut (x+1,y,1)=_:=vB (cut:=cut) h 3
 unfold aeX jI t4 abW abX thr cg aau
 simp only [ape,List.all_nil,amv,aoX,e0,e1,e2,e3,api]
 generalize aaK rows cut x y=M
 generalize hiB rows cut x y=A
 generalize hiB rows cut (x+1) y=B
 generalize hiB rows cut (x+1) (y+1)=C
 generalize hiB rows cut x (y+1)=D
 cases A <;> cases B <;> cases C <;> cases D <;> cases M <;> rfl
theorem ahA {rows:List (List Int)} {cut x y:Int} {g n:Gt} (h:prt (jI rows cut x y) g=some n):vb (gD3 g) (qE (jI rows cut x y) [])=some (gD3 n):=by
 have key:∀ a b:Gt,a≠b->gD3 a≠gD3 b:=fun a b ne z=>ne (abZ z)
 have inj:∀ i j:Fin 4,i≠j->gt x y i≠gt x y j:=fun i j ne z=>ne (abY z)
 unfold jI t4 at h ⊢
 rcases ac6 (hiB rows cut x y) (hiB rows cut (x+1) y) (hiB rows cut (x+1) (y+1)) (hiB rows cut x (y+1)) (aaK rows cut x y) with e | ⟨a,b,n1,e⟩ | ⟨a,b,c,d,n1,n2,n3,n4,n5,n6,e⟩
 ·rw [e] at h;cases h
 ·rw [e] at h ⊢
  have k1:=key _ _ (inj a b n1)
  have k1':=amF k1
  simp only [alI,aop,qE] at h ⊢
  unfold prt at h
  simp only [anF,List.findSome?_nil] at h
  by_cases c1:gt x y a=g
  ·rw [if_pos c1] at h
   cases h
   simp [dput,vb,k1,k1',<- c1]
  ·rw [if_neg c1] at h
   by_cases c2:gt x y b=g
   ·rw [if_pos c2] at h
    cases h
    simp [dput,vb,k1,k1',<- c2]
   ·rw [if_neg c2] at h;cases h
 ·rw [e] at h ⊢
  have k1:=key _ _ (inj a b n1)
  have k2:=key _ _ (inj a c n2)
  have k3:=key _ _ (inj a d n3)
  have k4:=key _ _ (inj b c n4)
  have k5:=key _ _ (inj b d n5)
  have k6:=key _ _ (inj c d n6)
  have j1:=amF k1
  have j2:=amF k2
  have j3:=amF k3
  have j4:=amF k4
  have j5:=amF k5
  have j6:=amF k6
  simp only [alI,aop,qE] at h ⊢
  unfold prt at h
  simp only [anF,List.findSome?_nil] at h
  by_cases c1:gt x y a=g
  ·rw [if_pos c1] at h
   cases h
   simp [dput,vb,k1,k2,k3,k4,k5,k6,j1,j2,j3,j4,j5,j6,<- c1]
  ·rw [if_neg c1] at h
   by_cases c2:gt x y b=g
   ·rw [if_pos c2] at h
    cases h
    simp [dput,vb,k1,k2,k3,k4,k5,k6,j1,j2,j3,j4,j5,j6,<- c2]
   ·rw [if_neg c2] at h
    by_cases c3:gt x y c=g
    ·rw [if_pos c3] at h
     cases h
     simp [dput,vb,k1,k2,k3,k4,k5,k6,j1,j2,j3,j4,j5,j6,<- c3]
    ·rw [if_neg c3] at h
     by_cases c4:gt x y d=g
     ·rw [if_pos c4] at h
      cases h
      simp [dput,vb,k1,k2,k3,k4,k5,k6,j1,j2,j3,j4,j5,j6,<- c4]
     ·rw [if_neg c4] at h;cases h
noncomputable def ab0:Option Gt->PyData
 | none=>.none
 | some g=>gD3 g
noncomputable abbrev ahB (K:alg):Sp:=spD K 3 aiS fun c r=>r=ab0 (zZ c.1 c.2.1 c.2.2.1 c.2.2.2)
theorem qk (g:Gt):afE (gD3 g):=⟨⟨rfl,anp rfl⟩,_,rfl⟩
theorem aiT (F:Def K mg "gate_ahead" y3 pf) (ubc:FnIn P w K mg base k "cell_ahead" pf (ac7 K)) (uaD:FnIn P w K mg base k "has_cell" pq (adU K)) (ubd:FnIn P w K mg base k "cell_ties" ph (aeY K)) :
  FnIn P w K mg base (k+1) "gate_ahead" pf (ahB K):=by
 refine F.ok sc_gate_ahead rfl fun fa cdv A outer s H E hr=>⟨_,(zf (yt (zg ubc hr rfl (za (pv 0) (za (pv 1) (za (pv 2) zb)))) (yc (K:=K) (n:=2) rfl rfl (zm (zl (i:=3) sc_gate_ahead.nd rfl (Or.inl rfl) (Or.inr rfl)) (zm (zl (i:=4) sc_gate_ahead.nd rfl (Or.inl rfl) (Or.inr rfl)) z6)))) (zf (yG (v3 (yA (K:=K) rfl (zg uaD hr rfl (za (pv 0) (za (pv 3) (za (pv 4) zb)))) (fun _=>rfl))) (zk (zy adj)) z5) (zf (zW (i:=5) sc_gate_ahead.nd rfl (Or.inl rfl) (afG (w:=w) rfl)) (zf (jL amu rfl (yk (K:=K) rfl (zg ubd hr rfl (za (pv 0) (za (pv 1) (za (zL (za (pv 3) (za (pv 4) zb))) zb))))) (yc (K:=K) (n:=2) rfl rfl (zm (zl (i:=6) sc_gate_ahead.nd rfl (Or.inl rfl) (Or.inr rfl)) (zm (zl (i:=7) sc_gate_ahead.nd rfl (Or.inl rfl) (Or.inr rfl)) z6))) (zf (yt (pv 7) (abh (pv 5) (pv 6) (acQ (w:=w) (K:=K) rfl rfl hr.units))) (zk (yt (pv 6) (abh (pv 5) (pv 7) (acQ (w:=w) (K:=K) rfl rfl hr.units)))))) (zk (zy (zP (aix (w:=w) (K:=K) rfl rfl hr.units) (pv 5) (pv 2) (fun _ _=>rfl)))))))),?_⟩
 rintro f xs ⟨rows,wd,cut,g⟩ hl ⟨rfl,gd,o⟩
 try dsimp only [yj,zh]
 dsimp only at *
 refine yH (yo (zu (rows,wd,cut,g) ?_))
 walk_at "w"
 rintro _ rfl
 dsimp only
 refine jC rfl (zD (zq (zD (zq (yB ?_)))))
 refine yH (agA (ack (j7 (zu (rows,wd,(ahC rows cut g).1,(ahC rows cut g).2) ?_))))
 walk_at "w"
 rintro _ rfl
 refine⟨_,rfl,?_⟩
 dsimp only
 refine yI (fun h=>?_) fun h=>?_
 ·have hc:zK rows wd (ahC rows cut g).1 (ahC rows cut g).2=false:=by simpa using h
  walk_at "w"
  unfold zZ
  rw [hc,if_neg ald]
  rfl
 ·have hc:zK rows wd (ahC rows cut g).1 (ahC rows cut g).2=true:=by simpa using h
  obtain⟨n,hn,_⟩:=qw o hc
  have hp:prt (jI rows cut (ahC rows cut g).1 (ahC rows cut g).2) g=some n:=by
   unfold zZ at hn
   rw [if_pos hc] at hn
   exact hn
  have tl:(jI rows cut (ahC rows cut g).1 (ahC rows cut g).2).length<=2:=by
   unfold jI t4
   rw [ale]
   rcases ac6 (hiB rows cut (ahC rows cut g).1 (ahC rows cut g).2) (hiB rows cut ((ahC rows cut g).1+1) (ahC rows cut g).2) (hiB rows cut ((ahC rows cut g).1+1) ((ahC rows cut g).2+1)) (hiB rows cut (ahC rows cut g).1 ((ahC rows cut g).2+1)) (aaK rows cut (ahC rows cut g).1 (ahC rows cut g).2) with e | ⟨a,b,n1,e⟩ | ⟨a,b,c,d,n1,n2,n3,n4,n5,n6,e⟩ <;> rw [e] <;> simp
  refine acm (adK (w:=w) (ag8 (akd ⟨show 5<8 by decide,fun D=>?_⟩)))
  refine jF (ag6 (jc (PEdO.ped (aak (rows,wd,cut,(ahC rows cut g).1,(ahC rows cut g).2) ?_))))
  walk_at "w"
  rintro _ rfl
  dsimp only
  rw [ahz hc]
  refine⟨_,rfl,fun i ρ cs=>(∃ u v,ρ=[some (.dat (tab rows)),some (.dat (.int cut)),some (.dat (gD3 g)),some (.dat (.int (ahC rows cut g).1)),some (.dat (.int (ahC rows cut g).2)),some (.own (f.M.length+0)),u,v])/\cs=[.dic (qE ((jI rows cut (ahC rows cut g).1 (ahC rows cut g).2).take i) [])],⟨⟨_,_,rfl⟩,rfl⟩,?_,?_⟩
  ·rintro i d _ _ hd ⟨⟨u,v,rfl⟩,rfl⟩
   rw [alv] at hd
   cases hq:(jI rows cut (ahC rows cut g).1 (ahC rows cut g).2)[i]? with
   | none=>rw [hq] at hd;cases hd
   | some q =>
    rw [hq] at hd
    cases hd
    have tk:(jI rows cut (ahC rows cut g).1 (ahC rows cut g).2).take (i+1)=(jI rows cut (ahC rows cut g).1 (ahC rows cut g).2).take i++[q]:=by
     rw [anV,hq]
     rfl
    have hl:=afW ((jI rows cut (ahC rows cut g).1 (ahC rows cut g).2).take i) []
    rw [alq] at hl
    simp only [am0] at hl
    refine jC rfl (zD (zq (zD (zq (yB ?_)))))
    refine jF (ajj (i:=5) (j:=0) rfl rfl (by omega) ?_)
    walk_at "w"
    refine⟨qk _,?_⟩
    have hl2:=aaw (gD3 q.1) (gD3 q.2) (qE ((jI rows cut (ahC rows cut g).1 (ahC rows cut g).2).take i) [])
    refine ajj (i:=5) (j:=0) rfl rfl (by omega) ?_
    walk_at "w"
    refine⟨qk _,⟨_,_,rfl⟩,?_⟩
    rw [tk,adZ]
    rfl
  ·rintro _ _ ⟨⟨u,v,rfl⟩,rfl⟩
   rw [ale,amf]
   refine akX (akW (i:=5) (j:=0) rfl rfl (adL (zM rfl ⟨qk _,_,ahA hp,?_⟩)))
   show gD3 n=ab0 (zZ rows wd cut g)
   rw [hn]
   rfl
theorem ae3 {α:Type} [DecidableEq α]:∀ (l m:List α),l.Nodup->(∀ x∈l,x∈m)->m.length<=l.length->∀ x∈m,x∈l
 | [],m,_,_,hl,x,hx=>by
  have:m=[]:=List.length_eq_zero_iff.mp (Nat.le_zero.mp hl)
  rw [this] at hx
  exact hx
 | a :: l,m,nd,sub,hl,x,hx=>by
  have ha:=sub a (als ..)
  have hn:=aml.mp nd
  have le:=aoK ha
  rw [alC] at hl
  by_cases e:x=a
  ·rw [e];exact als ..
  ·refine alm _ (ae3 l (m.erase a) hn.2 (fun y hy=>?_) (by omega) x ((aof e).mpr hx))
   exact (aof (fun (z:y=a)=>hn.1 (z▸hy))).mpr (sub y (alm _ hy))
theorem len_sub {α:Type} [DecidableEq α]:∀ (l m:List α),l.Nodup->(∀ x∈l,x∈m)->l.length<=m.length
 | [],m,_,_=>alD _
 | a :: l,m,nd,sub=>by
  have ha:=sub a (als ..)
  have hn:=aml.mp nd
  have le:=aoK ha
  have hp:0<m.length:=aoU ha
  have:=len_sub l (m.erase a) hn.2 (fun y hy=>(aof (fun (z:y=a)=>hn.1 (z▸hy))).mpr (sub y (alm _ hy)))
  rw [alC]
  omega
theorem vc {α β:Type} {f:α->β} {l1 l2:List β} (h:l1.Perm l2):∀ ts:List α,l2=ts.map f->∃ us:List α,us.Perm ts/\l1=us.map f:=by
 induction h with
 | nil=>intro ts e;exact⟨ts,.refl _,e⟩
 | cons x _ ih =>
  intro ts e
  cases ts with
  | nil=>cases e
  | cons t ts =>
   rw [alI] at e
   injection e with e1 e2
   obtain⟨us,p,q⟩:=ih ts e2
   exact⟨t :: us,.cons t p,by rw [alI,<- q,e1]⟩
 | swap x y l =>
  intro ts e
  match ts,e with
  | [],e=>cases e
  | [_],e=>cases e
  | a :: b :: ts,e =>
   simp only [alI] at e
   injection e with e1 e2
   injection e2 with e2 e3
   exact⟨b :: a :: ts,.swap a b ts,by rw [alI,alI,e1,e2,e3]⟩
 | trans _ _ ih1 ih2 =>
  intro ts e
  obtain⟨us,p,q⟩:=ih2 ts e
  obtain⟨vs,p2,q2⟩:=ih1 us q
  exact⟨vs,p2.trans p,q2⟩
section
variable (rows:List (List Int)) (wd:Nat) (cut:Int)
structure LineOk (ring:Bool) (l:List Gt):Prop where
 op:∀ g∈l,opG rows wd cut g=true
 nd:l.Nodup
 ch:∀ (i:Nat) a b,l[i]?=some a->l[i+1]?=some b->zZ rows wd cut a=some b
 ne:l≠[]
 last:∀ g,l.getLast?=some g->zZ rows wd cut g=if ring=true then l.head? else none
structure WalkOk (s:Gt) (l:List Gt):Prop where
 op:∀ g∈l,opG rows wd cut g=true
 nd:l.Nodup
 ch:∀ (i:Nat) a b,l[i]?=some a->l[i+1]?=some b->zZ rows wd cut a=some b
 hd:l.head?=some s
end
section
variable {rows:List (List Int)} {wd:Nat} {cut:Int}
theorem afX {t n:Nat} {x y w:Int} (hx:0<=x/\x<n) (hy:0<=y/\y<t) (hw:w=0 \/ w=1):(x,y,w)∈yv t n:=by
 obtain⟨a,rfl⟩:=aoO hx.1
 obtain⟨b,rfl⟩:=aoO hy.1
 refine ami.mpr ⟨a,alQ.mpr (by omega),ami.mpr ⟨b,alQ.mpr (by omega),?_⟩⟩
 rcases hw with rfl | rfl
 ·exact als ..
 ·exact alm _ (als ..)
theorem aiU {g:Gt} (o:opG rows wd cut g=true):zX rows wd g.1 g.2.1=true:=by
 unfold opG zY qe at o
 rw [alu,alu,alu] at o
 exact o.1.2.1
theorem mem_gates {g:Gt}:g∈zI rows wd cut↔opG rows wd cut g=true:=by
 rw [jH,amZ]
 refine⟨fun h=>h.2,fun o=>⟨?_,o⟩⟩
 obtain⟨x,y,w⟩:=g
 have hw:=vC o
 obtain⟨a,b,c,d⟩:=vy (aiU o)
 exact afX ⟨a,b⟩ ⟨c,d⟩ hw
theorem gates_nd:(zI rows wd cut).Nodup:=by
 rw [jH]
 refine ((aat _ _).filter _).imp fun {a b} h e=>?_
 subst e
 unfold gLt at h
 omega
theorem aax {l:List Gt} (gd:Good wd rows) (o:∀ g∈l,opG rows wd cut g=true) (nd:l.Nodup):l.length<=98 :=
 alV (len_sub l (zI rows wd cut) nd fun x hx=>mem_gates.mpr (o x hx)) (vA gd)
theorem ahD {s:Gt} (o:opG rows wd cut s=true):WalkOk rows wd cut s [s] :=
 ⟨fun g hg=>by rw [alK.mp hg];exact o,aml.mpr ⟨amA,anv⟩,fun i a b _ h=>(nomatch h),rfl⟩
theorem afY {s n g:Gt} {l:List Gt} (W:WalkOk rows wd cut s l) (hl:l.getLast?=some g) (hn:zZ rows wd cut g=some n) (ne:n≠s):WalkOk rows wd cut s (l++[n]):=by
 have hg:g∈l:=ao9 hl
 have hli:l[l.length - 1]?=some g:=by rw [<-amY];exact hl
 have pos:0<l.length:=aoU hg
 have hnew:n∉l:=fun hm=>by
  obtain⟨i,hi⟩:=al0 hm
  match i,hi with
  | 0,hi =>
   have:=W.hd
   rw [amk,hi] at this
   exact ne (Option.some.inj this)
  | i+1,hi =>
   obtain⟨hlt,_⟩:=alf.mp hi
   have hi':l[i]?=some l[i]:=alb (by omega)
   have hc:=W.ch i _ _ hi' hi
   have e:=aav (W.op _ (alB hi')) (W.op _ hg) hc hn
   rw [e,<- hli] at hi'
   have:=(List.getElem?_inj (by omega) W.nd).mp hi'
   omega
 refine⟨fun x hx=>?_,?_,fun i a b ha hb=>?_,?_⟩
 ·rcases alM.mp hx with h | h
  ·exact W.op x h
  ·rw [alK.mp h];exact (vD (W.op g hg) hn).1
 ·refine am4.mpr ⟨W.nd,aml.mpr ⟨amA,anv⟩,fun a ha b hb e=>?_⟩
  rw [alK.mp hb] at e
  exact hnew (e▸ha)
 ·by_cases h:i+1<l.length
  ·rw [alk (by omega)] at ha
   rw [alk h] at hb
   exact W.ch i a b ha hb
  ·obtain⟨hlt,_⟩:=alf.mp hb
   rw [alr,amn] at hlt
   have e:i=l.length - 1:=by omega
   rw [alk (by omega),e,hli] at ha
   rw [alj (by omega),show i+1 - l.length=0 by omega] at hb
   cases ha
   cases hb
   exact hn
 ·cases l with
  | nil=>cases pos
  | cons a l=>exact W.hd
theorem aa8 {s g:Gt} {l:List Gt} (W:WalkOk rows wd cut s l) (hl:l.getLast?=some g) {ring:Bool} (h:zZ rows wd cut g=if ring=true then some s else none):LineOk rows wd cut ring l where
 op:=W.op
 nd:=W.nd
 ch:=W.ch
 ne:=fun z=>by rw [z] at hl;cases hl
 last:=fun g' hg'=>by
  rw [hl] at hg'
  cases hg'
  rw [h,W.hd]
noncomputable def ab1 (rows:List (List Int)) (wd:Nat) (cut:Int) (t:Bool×List Gt):Prop:=t.1=false->∀ h,t.2.head?=some h->yr rows wd cut h=none
theorem next_prev {g n:Gt} (o:opG rows wd cut g=true) (h:zZ rows wd cut g=some n):yr rows wd cut n=some g:=by
 have c:zK rows wd (ahC rows cut g).1 (ahC rows cut g).2=true:=by
  unfold zZ at h
  by_cases z:zK rows wd (ahC rows cut g).1 (ahC rows cut g).2=true
  ·exact z
  ·rw [if_neg z] at h;cases h
 obtain⟨m,a1,_,_,_,a2⟩:=qw o c
 rw [h] at a1
 cases a1
 exact a2
theorem prev_next {g n:Gt} (o:opG rows wd cut g=true) (h:yr rows wd cut g=some n):opG rows wd cut n=true/\zZ rows wd cut n=some g:=by
 have c:zK rows wd (bhC rows cut g).1 (bhC rows cut g).2=true:=by
  unfold yr at h
  by_cases z:zK rows wd (bhC rows cut g).1 (bhC rows cut g).2=true
  ·exact z
  ·rw [if_neg z] at h;cases h
 obtain⟨m,a1,_,a3,_,a2⟩:=vX o c
 rw [h] at a1
 cases a1
 exact⟨a3,a2⟩
theorem vY {t:Bool×List Gt} (ne:t.2≠[]):∃ z,t.2.getLast?=some z/\z∈t.2:=⟨t.2.getLast ne,List.getLast?_eq_some_getLast ne,List.getLast_mem ne⟩
theorem vM {t:Bool×List Gt} (L:LineOk rows wd cut t.1 t.2) (st:ab1 rows wd cut t) {g n:Gt} (o:opG rows wd cut g=true) (hn:n∈t.2) (h:zZ rows wd cut g=some n):g∈t.2:=by
 obtain⟨i,hi⟩:=al0 hn
 match i,hi with
 | 0,hi =>
  have hh:t.2.head?=some n:=by rw [amk];exact hi
  cases hr:t.1 with
  | false =>
   have:=st hr n hh
   rw [next_prev o h] at this
   cases this
  | true =>
   obtain⟨z,hz,hm⟩:=vY L.ne
   have:=L.last z hz
   rw [hr,if_pos rfl,hh] at this
   rw [aav o (L.op z hm) h this]
   exact hm
 | i+1,hi =>
  obtain⟨hlt,_⟩:=alf.mp hi
  have hi':t.2[i]?=some t.2[i]:=alb (by omega)
  have hc:=L.ch i _ _ hi' hi
  have hm:=alB hi'
  rw [aav o (L.op _ hm) h hc]
  exact hm
theorem vN {t:Bool×List Gt} (L:LineOk rows wd cut t.1 t.2) {g n:Gt} (hg:g∈t.2) (h:zZ rows wd cut g=some n):n∈t.2:=by
 obtain⟨i,hi⟩:=al0 hg
 obtain⟨hlt,_⟩:=alf.mp hi
 by_cases hl:i+1<t.2.length
 ·have hi':t.2[i+1]?=some t.2[i+1]:=alb hl
  have hc:=L.ch i _ _ hi hi'
  rw [h] at hc
  rw [Option.some.inj hc]
  exact alB hi'
 ·have e:i=t.2.length - 1:=by omega
  have hz:t.2.getLast?=some g:=by rw [amY,<- e];exact hi
  have:=L.last g hz
  rw [h] at this
  by_cases hr:t.1=true
  ·rw [if_pos hr] at this
   exact anW this.symm
  ·rw [if_neg hr] at this
   cases this
theorem aiV (gd:Good wd rows) {g:Gt} (o:opG rows wd cut g=true):zK rows wd (ahC rows cut g).1 (ahC rows cut g).2=true \/ zK rows wd (bhC rows cut g).1 (bhC rows cut g).2=true:=by
 have hw:=vC o
 obtain⟨x,y,w⟩:=g
 have o':zY rows wd cut x y w=true:=o
 unfold zY qe at o'
 rw [alu,alu,alu] at o'
 obtain⟨a0,a1,a2,a3⟩:=vy o'.1.2.1
 obtain⟨b0,b1,b2,b3⟩:=vy o'.1.2.2
 have h1:=gd.h1
 have w1:=gd.w1
 have cb:∀ {u v:Int},0<=u->u+1<wd->0<=v->v+1<rows.length->zK rows wd u v=true:=fun p q r s=>by
  unfold zK zX
  rw [decide_eq_true (by omega),decide_eq_true (by omega),decide_eq_true (by omega),decide_eq_true (by omega)]
  rfl
 unfold ahC bhC jg jh
 dsimp only at hw ⊢
 rcases hw with rfl | rfl
 ·have e1:px x 0=x+1:=rfl
  rw [e1] at b1
  cases hiB rows cut x y
  ·by_cases h:y+1<rows.length
   ·left;exact cb (by simp;omega) (by simp;omega) (by simp;omega) (by simp;omega)
   ·right;exact cb (by simp;omega) (by simp;omega) (by simp;omega) (by simp;omega)
  ·by_cases h:y+1<rows.length
   ·right;exact cb (by simp;omega) (by simp;omega) (by simp;omega) (by simp;omega)
   ·left;exact cb (by simp;omega) (by simp;omega) (by simp;omega) (by simp;omega)
 ·have e1:py y 1=y+1:=rfl
  rw [e1] at b3
  cases hiB rows cut x y
  ·by_cases h:x+1<wd
   ·right;exact cb (by simp;omega) (by simp;omega) (by simp;omega) (by simp;omega)
   ·left;exact cb (by simp;omega) (by simp;omega) (by simp;omega) (by simp;omega)
  ·by_cases h:x+1<wd
   ·left;exact cb (by simp;omega) (by simp;omega) (by simp;omega) (by simp;omega)
   ·right;exact cb (by simp;omega) (by simp;omega) (by simp;omega) (by simp;omega)
theorem akt (gd:Good wd rows) {t:Bool×List Gt} (L:LineOk rows wd cut t.1 t.2) (st:ab1 rows wd cut t):2<=t.2.length:=by
 obtain⟨r,l⟩:=t
 match l,L,st with
 | [],L,_=>exact absurd rfl L.ne
 | [g],L,st =>
  have o:=L.op g (als ..)
  have hl:=L.last g rfl
  cases r with
  | true =>
   exact absurd rfl (vD o hl).2
  | false =>
   have hp:yr rows wd cut g=none:=st rfl g rfl
   have hl:zZ rows wd cut g=none:=hl
   rcases aiV gd o with c | c
   ·obtain⟨n,h,_⟩:=qw o c
    rw [hl] at h;cases h
   ·obtain⟨n,h,_⟩:=vX o c
    rw [hp] at h;cases h
 | _ :: _ :: _,_,_=>exact Nat.le_add_left 2 _
end
section
variable (rows:List (List Int)) (wd:Nat) (cut:Int)
noncomputable def flat (ts:List (Bool×List Gt)):List Gt:=ts.flatMap (·.2)
structure Told (ts:List (Bool×List Gt)):Prop where
 line:∀ t∈ts,LineOk rows wd cut t.1 t.2
 st:∀ t∈ts,ab1 rows wd cut t
 nd:(flat ts).Nodup
 least:∀ t∈ts,t.1=true->∀ h,t.2.head?=some h->∀ g∈t.2,g=h \/ gLt h g
end
section
variable {rows:List (List Int)} {wd:Nat} {cut:Int} {ts:List (Bool×List Gt)}
theorem Told.op (T:Told rows wd cut ts) {g:Gt} (h:g∈flat ts):opG rows wd cut g=true:=by
 obtain⟨t,ht,hg⟩:=ami.mp h
 exact (T.line t ht).op g hg
theorem Told.len (T:Told rows wd cut ts) (gd:Good wd rows):(flat ts).length<=98:=aax gd (fun g hg=>T.op hg) T.nd
theorem ac8:∀ (ts:List (Bool×List Gt)),(∀ t∈ts,2<=t.2.length)->2 * ts.length<=(flat ts).length
 | [],_=>ali _
 | t :: ts,h=>by
  have h1:=h t (als ..)
  have h2:=ac8 ts fun u hu=>h u (alm _ hu)
  show 2 * (ts.length+1)<=(t.2++flat ts).length
  rw [alr]
  omega
theorem Told.few (T:Told rows wd cut ts) (gd:Good wd rows):ts.length<=49:=by
 have h1:=ac8 ts fun t ht=>akt gd (T.line t ht) (T.st t ht)
 have h2:=T.len gd
 omega
theorem qx (ts:List (Bool×List Gt)) (t:Bool×List Gt):flat (ts++[t])=flat ts++t.2:=by
 unfold flat
 rw [ams]
 simp
theorem Told.fresh (T:Told rows wd cut ts) {r:Bool} {l:List Gt} (L:LineOk rows wd cut r l) {s:Gt} (hs:l.head?=some s) (hn:s∉flat ts):∀ g∈l,g∉flat ts:=by
 have key:∀ (i:Nat) g,l[i]?=some g->g∉flat ts:=fun i=>by
  induction i with
  | zero =>
   intro g hg
   rw [amk,hg] at hs
   rw [Option.some.inj hs]
   exact hn
  | succ i ih =>
   intro g hg hm
   obtain⟨hlt,_⟩:=alf.mp hg
   have hi':l[i]?=some l[i]:=alb (by omega)
   have hc:=L.ch i _ _ hi' hg
   obtain⟨t,ht,hgt⟩:=ami.mp hm
   exact ih _ hi' (ami.mpr ⟨t,ht,vM (T.line t ht) (T.st t ht) (L.op _ (alB hi')) hgt hc⟩)
 intro g hg
 obtain⟨i,hi⟩:=al0 hg
 exact key i g hi
theorem Told.more (T:Told rows wd cut ts) {r:Bool} {l:List Gt} (L:LineOk rows wd cut r l) {s:Gt} (hs:l.head?=some s) (hn:s∉flat ts) (st:r=false->yr rows wd cut s=none) (le:r=true->∀ g∈l,g=s \/ gLt s g):Told rows wd cut (ts++[(r,l)]) where
 line:=fun t ht=>by
  rcases alM.mp ht with h | h
  ·exact T.line t h
  ·rw [alK.mp h];exact L
 st:=fun t ht=>by
  rcases alM.mp ht with h | h
  ·exact T.st t h
  ·rw [alK.mp h]
   intro hr h hh
   rw [show (r,l).2.head?=some s from hs] at hh
   rw [<-Option.some.inj hh]
   exact st hr
 nd:=by
  rw [qx]
  refine am4.mpr ⟨T.nd,L.nd,fun a ha b hb e=>?_⟩
  exact T.fresh L hs hn b hb (e▸ha)
 least:=fun t ht=>by
  rcases alM.mp ht with h | h
  ·exact T.least t h
  ·rw [alK.mp h]
   intro hr h hh
   rw [show (r,l).2.head?=some s from hs] at hh
   rw [<-Option.some.inj hh]
   exact le hr
theorem aku {r:Bool} {l:List Gt} (L:LineOk rows wd cut r l) {s:Gt} (hs:l.head?=some s) (hp:yr rows wd cut s=none):r=false:=by
 cases r with
 | false=>rfl
 | true =>
  obtain⟨z,hz,hm⟩:=vY (t:=(true,l)) L.ne
  have:=L.last z hz
  rw [if_pos rfl,hs] at this
  have:=next_prev (L.op z hm) this
  rw [hp] at this
  cases this
theorem aiW (T:Told rows wd cut ts) (all:∀ g,opG rows wd cut g=true->yr rows wd cut g=none->g∈flat ts) {r:Bool} {l:List Gt} (L:LineOk rows wd cut r l) {s:Gt} (hs:l.head?=some s) (hn:s∉flat ts):r=true:=by
 cases r with
 | true=>rfl
 | false =>
  obtain⟨z,hz,hm⟩:=vY (t:=(false,l)) L.ne
  have hnone:zZ rows wd cut z=none:=L.last z hz
  let U:=(zI rows wd cut).filter fun g=>decide (g∉flat ts)
  have memU:∀ g,g∈U↔opG rows wd cut g=true/\g∉flat ts:=fun g=>by
   show g∈List.filter _ _↔_
   rw [amZ,mem_gates,decide_eq_true_eq]
  let pr:Gt->Gt:=fun g=>(yr rows wd cut g).getD g
  have prU:∀ g∈U,yr rows wd cut g=some (pr g)/\zZ rows wd cut (pr g)=some g/\pr g∈U:=fun g hg=>by
   obtain⟨o,nf⟩:=(memU g).mp hg
   cases hp:yr rows wd cut g with
   | none=>exact absurd (all g o hp) nf
   | some p =>
    have e:pr g=p:=by show (yr rows wd cut g).getD g=p;rw [hp];rfl
    obtain⟨op,hnx⟩:=prev_next o hp
    rw [e]
    refine⟨rfl,hnx,(memU p).mpr ⟨op,fun hm=>?_⟩⟩
    obtain⟨t,ht,hpt⟩:=ami.mp hm
    exact nf (ami.mpr ⟨t,ht,vN (T.line t ht) hpt hnx⟩)
  have ndU:U.Nodup:=gates_nd.filter _
  have ndP:(U.map pr).Nodup:=by
   refine amI.mpr (ndU.imp_of_mem fun {a b} ha hb ne e=>ne ?_)
   have h1:=(prU a ha).2.1
   have h2:=(prU b hb).2.1
   rw [e,h2] at h1
   exact (Option.some.inj h1).symm
  have zU:z∈U:=(memU z).mpr ⟨L.op z hm,T.fresh L hs hn z hm⟩
  have:=ae3 (U.map pr) U ndP (fun x hx=>by obtain⟨g,hg,rfl⟩:=alF.mp hx;exact (prU g hg).2.2) (by rw [ale];exact ali _) z zU
  obtain⟨g,hg,rfl⟩:=alF.mp this
  rw [(prU g hg).2.1] at hnone
  cases hnone
noncomputable def zV (t:Bool×List Gt):PyData:=.tuple [.str (if t.1=true then "ring" else "run"),.tuple (t.2.map gD3)]
theorem ac9 (l:List Gt):zF (l.map gD3)=true:=by
 induction l with
 | nil=>rfl
 | cons g l ih=>show (zt (gD3 g) && zF (l.map gD3))=true;rw [ih];rfl
theorem aay (t:Bool×List Gt):zt (zV t)=true:=by
 show (zt (.str _) && (zt (.tuple (t.2.map gD3)) && true))=true
 rw [show zt (.tuple (t.2.map gD3))=zF (t.2.map gD3) from rfl,ac9]
 cases t.1 <;> decide +kernel
theorem aa9:∀ l m:List Gt,qK (l.map gD3) (m.map gD3)=true
 | [],m=>by rw [aop,qK]
 | g :: l,[]=>rfl
 | (x,y,w) :: l,(x',y',w') :: m=>by
  rw [alI,alI,qK]
  split
  ·exact aa9 l m
  ·show qW (.tuple [.int x,.int y,.int w]) (.tuple [.int x',.int y',.int w'])=true
   simp only [qW,qK]
   split
   ·split
    ·split <;> rfl
    ·rfl
   ·rfl
theorem ahE (t u:Bool×List Gt):qW (zV t) (zV u)=true:=by
 unfold zV
 generalize (if t.1=true then ("ring":Str) else "run")=a
 generalize (if u.1=true then ("ring":Str) else "run")=b
 rw [qW,qK]
 split
 ·rw [qK]
  split
  ·rfl
  ·rw [qW];exact aa9 _ _
 ·rfl
theorem ada (l:List Gt):aln (l.map gD3)<=1:=by
 induction l with
 | nil=>exact alD _
 | cons g l ih=>exact aoT.mpr ⟨ali 1,ih⟩
theorem aaz (t:Bool×List Gt):(zV t).depth<=3:=by
 show max 0 (max (aln (t.2.map gD3)+1) 0)+1<=3
 have:=ada t.2
 omega
theorem adb {a b:Gt} (h:gD3 a=gD3 b):a=b:=by
 obtain⟨x,y,w⟩:=a
 obtain⟨x',y',w'⟩:=b
 unfold gD3 jx at h
 simp at h
 simp [h]
theorem aaA (T:Told rows wd cut ts):SortOk "str" (ts.map zV) where
 plain:=fun d hd=>by obtain⟨t,_,rfl⟩:=alF.mp hd;exact aay t
 head:=fun d hd=>by obtain⟨t,_,rfl⟩:=alF.mp hd;rfl
 cmp:=fun d hd e he=>by
  obtain⟨t,_,rfl⟩:=alF.mp hd
  obtain⟨u,_,rfl⟩:=alF.mp he
  exact ahE t u
 depth:=fun d hd=>by obtain⟨t,_,rfl⟩:=alF.mp hd;exact alV (aaz t) (by decide)
 nd:=by
  have h:=(List.pairwise_flatMap.mp T.nd).2
  refine amI.mpr (h.imp_of_mem fun {a b} ha hb hd e=>?_)
  unfold zV at e
  have e2:a.2.map gD3=b.2.map gD3:=by
   injection e with e
   injection e with _ e
   injection e with e _
   injection e
  cases ha2:a.2 with
  | nil=>exact (T.line a ha).ne ha2
  | cons g l =>
   cases hb2:b.2 with
   | nil=>exact (T.line b hb).ne hb2
   | cons g' l' =>
    rw [ha2,hb2,alI,alI] at e2
    injection e2 with e2 _
    exact hd g (by rw [ha2];exact als ..) g' (by rw [hb2];exact als ..) (adb e2)
theorem Told.perm {us:List (Bool×List Gt)} (T:Told rows wd cut ts) (p:us.Perm ts):Told rows wd cut us where
 line:=fun t ht=>T.line t (p.mem_iff.mp ht)
 st:=fun t ht=>T.st t (p.mem_iff.mp ht)
 nd:=(p.flatMap_right _).nodup_iff.mpr T.nd
 least:=fun t ht=>T.least t (p.mem_iff.mp ht)
end
section
variable {K:alg} {f:Fx} {ρ:zp} {ta:TE} {P:PyData->Prop}
noncomputable def aaB:PyData->Bool
 | .none=>true
 | _=>false
theorem aba {H:Hp} {d:PyData} {v:V} (r:Rep K H d v) (h:d=.none \/ ∃ ds,d=.tuple ds):decide (v=.non)=aaB d:=by
 rcases h with rfl | ⟨ds,rfl⟩
 ·rw [show v=.non from r];rfl
 ·obtain⟨a,xs,rfl,_⟩:=rep_tuple.mp r
  rfl
theorem akv (h:PEd K f ta ρ fun d=>(d=.none \/ ∃ ds,d=.tuple ds)/\P (.bool (!aaB d))):PEd K f (tOp (fun x y H Q=>y=.non/\Q (.bl (!decide (x=.non))) H) ta (tC .non)) ρ P:=fun σ H Q e q =>
 h σ H _ e fun d v H1 g1 r1 ⟨hd,p⟩=>⟨rfl,q _ _ H1 g1 (by show Rep K _ (.bool _) (.bl _);rw [aba r1 hd];rfl) p⟩
theorem ajo (h:PEd K f ta ρ fun d=>(d=.none \/ ∃ ds,d=.tuple ds)/\P (.bool (aaB d))):PEd K f (tOp (fun x y H Q=>y=.non/\Q (.bl (decide (x=.non))) H) ta (tC .non)) ρ P:=fun σ H Q e q =>
 h σ H _ e fun d v H1 g1 r1 ⟨hd,p⟩=>⟨rfl,q _ _ H1 g1 (by show Rep K _ (.bool _) (.bl _);rw [aba r1 hd];rfl) p⟩
end
noncomputable abbrev ahF (K:alg):Sp:=spD K 3 aiS fun c r=>∃ ring l,r=zV (ring,l)/\LineOk c.1 c.2.1 c.2.2.1 ring l/\l.head?=some c.2.2.2
theorem akw (a b:Gt):alW (gD3 a) (gD3 b)=decide (a=b):=by
 obtain⟨x,y,w⟩:=a
 obtain⟨x',y',w'⟩:=b
 show (decide (x=x') && (decide (y=y') && (decide (w=w') && true)))=_
 by_cases h1:x=x' <;> by_cases h2:y=y' <;> by_cases h3:w=w' <;> simp [h1,h2,h3]
theorem ad0 (q:Option Gt):ab0 q=.none \/ ∃ ds,ab0 q=.tuple ds:=by
 cases q with
 | none=>exact .inl rfl
 | some g=>exact .inr ⟨_,rfl⟩
theorem aiX (F:Def K mg "line_from" ju pK) (uaE:mg "tuple"=none) (ua1:FnIn P w K mg base k "gate_ahead" pf (ahB K)) :
  FnIn P w K mg base (k+1) "line_from" pK (ahF K):=by
 refine F.ok sc_line_from rfl fun fa cdv A outer s H E hr=>⟨_,(zf (zW (i:=3) sc_line_from.nd rfl (Or.inl rfl) (yu (za (pv 2) zb))) (zf (zW (i:=4) sc_line_from.nd rfl (Or.inl rfl) (zg ua1 hr rfl (za (pv 0) (za (pv 1) (za (pv 2) zb))))) (zf (af8 amu (PW.pt (adl (zS ahS (pv 4) adj (zO _)) (abf (zS (jO (K:=K) rfl hr.units) (pv 4) (pv 2) (zO _))))) (zf (ji (acb amK amB amC jA (pv 3) (za (pv 4) zb))) (zk (zW (i:=4) sc_line_from.nd rfl (Or.inl rfl) (zg ua1 hr rfl (za (pv 0) (za (pv 1) (za (pv 4) zb)))))))) (zk (zy (zL (za (qO (zS ajD (pv 4) adj (zO _)) qG qG) (za (ql (acq (K:=K) rfl) rfl uaE PyProof.Rows.boot_tuple (za (pv 3) zb)) zb)))))))),?_⟩
 rintro f xs ⟨rows,wd,cut,g⟩ hl ⟨rfl,gd,o⟩
 try dsimp only [yj,zh]
 dsimp only at *
 refine adK (w:=w) (ag8 (abH (acw ?_)))
 walk_at "w"
 refine⟨show 3<5 by decide,fun D=>?_⟩
 refine jF (abF (yo (zu (rows,wd,cut,g) ?_)))
 walk_at "w"
 rintro _ rfl
 refine zq ?_
 refine jF (aiq (fun ρ cs=>∃ l z,ρ=[some (.dat (tab rows)),some (.dat (.int cut)),some (.dat (gD3 g)),some (.own (f.M.length+0)),some (.dat (ab0 (zZ rows wd cut z)))]/\cs=[.lst (l.map gD3)]/\WalkOk rows wd cut g l/\l.getLast?=some z) (fun _ cs=>match cs with | [.lst es]=>200 - es.length | _=>0) ⟨[g],g,rfl,rfl,ahD o,rfl⟩ ?_)
 rintro _ _ ⟨l,z,rfl,rfl,W,hz⟩
 have oz:=W.op z (ao9 hz)
 have wl:=aax gd W.op W.nd
 have ml:(l.map gD3).length=l.length:=ale ..
 refine akS (agt (yT (akv (zM rfl ⟨ad0 _,?_⟩))))
 refine⟨_,rfl,?_⟩
 have fr:∀ x:PyData,anU (freed f.M.length [OC.lst (l.map gD3)]) [some (DV.dat (tab rows)),some (.dat (.int cut)),some (.dat (gD3 g)),some (.own (f.M.length+0)),some (.dat x)]=[some (.dat (tab rows)),some (.dat (.int cut)),some (.dat (gD3 g)),some (.dat (.list (l.map gD3))),some (.dat x)]:=fun x=>by simp [freed]
 cases hn:zZ rows wd cut z with
 | none =>
  rw [show (!aaB (ab0 none))=false from rfl,if_neg ald,if_neg ald]
  refine ag9 ?_
  rw [fr]
  refine qB (aaf (yh (ahZ (yT (ajo (zM rfl ⟨.inl rfl,_,rfl,?_⟩))))))
  rw [show aaB (ab0 none)=true from rfl,if_pos rfl]
  walk_at "w"
  exact⟨false,l,rfl,aa8 W hz (by rw [hn];rfl),W.hd⟩
 | some n =>
  rw [show (!aaB (ab0 (some n)))=true from rfl,if_pos rfl]
  rw [show ab0 (some n)=gD3 n from rfl]
  refine yT (qQ (zM rfl (zM rfl ⟨rfl,rfl,anp rfl,_,rfl,?_⟩)))
  rw [if_pos rfl,akw]
  by_cases ng:n=g
  ·rw [decide_eq_true ng,show (!true)=false from rfl,if_neg ald]
   refine ag9 ?_
   rw [fr]
   refine qB (aaf (yh (ahZ (yT (ajo (zM rfl ⟨.inr ⟨_,rfl⟩,_,rfl,?_⟩))))))
   rw [show aaB (gD3 n)=false from rfl,if_neg ald]
   walk_at "w"
   exact⟨true,l,rfl,aa8 W hz (by rw [hn,ng];rfl),W.hd⟩
  ·rw [decide_eq_false ng,show (!false)=true from rfl,if_pos rfl]
   have W2:=afY W hz hn ng
   have wl2:=aax gd W2.op W2.nd
   rw [alr,amn] at wl2
   refine jF (ag7 (i:=3) (j:=0) rfl rfl (by omega) (adL (zM rfl ?_)))
   refine abF (yo (zu (rows,wd,cut,n) ?_))
   have on:=(vD oz hn).1
   walk_at "w"
   rintro _ rfl
   refine zq ⟨⟨l++[n],n,rfl,?_,W2,by simp⟩,?_⟩
   ·show [OC.lst (l.map gD3++[gD3 n])]=[OC.lst ((l++[n]).map gD3)]
    rw [alX]
    rfl
   ·show 200 - (l.map gD3++[gD3 n]).length<200 - (l.map gD3).length
    rw [alr,amn]
    omega
noncomputable abbrev ae4 (K:alg):Sp:=spN K 2 (fun (c:List (List Int)×Nat×Int) xs=>xs=[.dat (tab c.1),.dat (.int c.2.2)]/\Good c.2.1 c.1) fun c es=>∃ ts,es=ts.map zV/\Told c.1 c.2.1 c.2.2 ts/\(∀ g,opG c.1 c.2.1 c.2.2 g=true->g∈flat ts)/\es.Pairwise fun d e=>ltD d e=true
noncomputable def inB (rows:List (List Int)) (wd:Nat) (cut:Int) (g:Gt):Bool:=!zK rows wd (bhC rows cut g).1 (bhC rows cut g).2
theorem ahG {rows:List (List Int)} {wd:Nat} {cut:Int} {g:Gt} (o:opG rows wd cut g=true):inB rows wd cut g=true↔yr rows wd cut g=none:=by
 unfold inB
 by_cases h:zK rows wd (bhC rows cut g).1 (bhC rows cut g).2=true
 ·obtain⟨n,hn,_⟩:=vX o h
  rw [h,hn]
  simp
 ·rw [Bool.not_eq_true] at h
  unfold yr
  rw [h]
  simp
theorem ahH (F:Def K mg "lines" vW pA) (uaF:mg "set"=none) (uae:mg "sorted"=none) (uay:FnIn P w K mg base k "ask_table" pj (ahj K)) (ube:FnIn P w K mg base k "gates" pA (aeT K)) (ubf:FnIn P w K mg base k "comes_in" pf (ae2 K)) (ubg:FnIn P w K mg base k "line_from" pK (ahF K)):FnIn P w K mg base (k+1) "lines" pA (ae4 K):=by
 refine F.okN sc_lines rfl fun fa cdv A outer s H E hr=>⟨_,(zf (ji (zg uay hr rfl (za (pv 0) zb))) (zf (zW (i:=2) sc_lines.nd rfl (Or.inl rfl) (zg ube hr rfl (za (pv 0) (za (pv 1) zb)))) (zf (zW (i:=3) sc_lines.nd rfl (Or.inl rfl) (zC (acv (K:=K) rfl) (jb (N:=pB) (own:=1) (fr:=[0,1]) ⟨rfl,by decide +kernel,of_decide_eq_true (by kernel_rfl),of_decide_eq_true (by kernel_rfl),of_decide_eq_true (by kernel_rfl),rfl⟩ rfl (yk (K:=K) rfl (pv 2)) (fun _ _ _ _=>(zl (i:=0) (show (pB:List Str).Nodup by decide +kernel) rfl (Or.inl rfl) (Or.inr rfl))) (fun _ _ _ _=>(abn (yA (K:=K) rfl (zg ubf hr rfl (za (pv 1) (za (pv 2) (za (pv 0) zb)))) (fun _=>rfl)))) (fun _ _ _ _=>(pv 0)) rfl rfl (fun _=>rfl)) (pv 2))) (zf (zW (i:=4) sc_lines.nd rfl (Or.inl rfl) (yu zb)) (zf (zW (i:=5) sc_lines.nd rfl (Or.inl rfl) (adq (abJ (w:=w) rfl) rfl uaF PyProof.Rows.boot_set)) (zf (jL amu rfl (yk (K:=K) rfl (pv 3)) (zl (i:=6) sc_lines.nd rfl (Or.inl rfl) (Or.inr rfl)) (zk (yG (zS (adM (w:=w) (K:=K) rfl rfl hr.units) (pv 6) (pv 5) rfl) (zf (zW (i:=7) sc_lines.nd rfl (Or.inl rfl) (zg ubg hr rfl (za (pv 0) (za (pv 1) (za (pv 6) zb))))) (zf (ji (acb amK amB amC jA (pv 4) (za (pv 7) zb))) (zk (jL amu rfl (aeh (K:=K) rfl (zP (qq (K:=K) rfl) (pv 7) ze (fun _ _=>rfl))) (zl (i:=8) sc_lines.nd rfl (Or.inl rfl) (Or.inr rfl)) (zk (ji (aka (w:=w) rfl ao6 PySem.F.type_set_add (ahc (w:=w) (K:=K) rfl rfl hr.units) (pv 5) (za (pv 8) zb)))))))) z5))) (zk (zy (zz (yW (K:=K) rfl hr.units) rfl uae am6 (za (pv 4) zb)))))))))),?_⟩
 rintro f xs ⟨rows,wd,cut⟩ hl ⟨rfl,gd⟩
 try dsimp only [yj,zh]
 dsimp only at *
 have gl:=vA (cut:=cut) gd
 refine aaj (abp (zu (rows,wd) ?_))
 walk_at "w"
 rintro _ rfl
 refine aaj (yo (PEdO.ped (aak (rows,wd,cut) ?_)))
 walk_at "w"
 rintro _ rfl
 dsimp only
 rw [<-jH]
 refine zq ?_
 refine aaj (yo (agK (PEdO.ped (vo (jc (zM rfl ⟨_,rfl,fun n ρ es=>(∃ u,ρ=[u,some (.dat (tab rows)),some (.dat (.int cut))])/\es=(((zI rows wd cut).take n).filter (inB rows wd cut)).map gD3,⟨⟨_,rfl⟩,rfl⟩,?_,?_⟩))))))
 ·rintro D n d ρ' es hd ⟨⟨u,rfl⟩,rfl⟩
  rw [alv] at hd
  cases hq:(zI rows wd cut)[n]? with
  | none=>rw [hq] at hd;cases hd
  | some q =>
   rw [hq] at hd
   cases hd
   have oq:=mem_gates.mp (alB hq)
   have tk:(zI rows wd cut).take (n+1)=(zI rows wd cut).take n++[q]:=by
    rw [anV,hq]
    rfl
   have len:((((zI rows wd cut).take n).filter (inB rows wd cut)).map gD3).length<1000:=by
    rw [ale]
    have a1:=amW (inB rows wd cut) ((zI rows wd cut).take n)
    rw [alq] at a1
    omega
   refine zq (j7 (zu (rows,wd,cut,q) ?_))
   walk_at "w"
   rintro _ rfl
   dsimp only
   refine⟨_,rfl,?_⟩
   refine yI (fun h=>?_) fun h=>?_
   ·refine jz len ?_
    walk_at "w"
    rw [tk,amV,alX,amv,show inB rows wd cut q=true from h,if_pos rfl]
    rfl
   ·refine⟨⟨_,rfl⟩,?_⟩
    rw [tk,amV,alX,amv,show inB rows wd cut q=false from h,if_neg ald]
    simp
 ·rintro ρ' es ⟨_,rfl⟩
  rw [ale,amf]
  have il:((zI rows wd cut).filter (inB rows wd cut)).length<=98:=alV (amW _ _) gl
  refine⟨_,rfl,zM rfl ⟨_,rfl,by rw [ale,ale];omega,?_⟩⟩
  refine zq ?_
  dsimp only
  rw [<-alX]
  refine air (w:=w) (aha (abH (acw ?_)))
  walk_at "w"
  refine⟨show 4<9 by decide,fun D1=>?_⟩
  refine aha (akb ⟨show 5<9 by decide,fun D2=>?_⟩)
  refine aj8 (ag6 (jc (zM rfl ?_)))
  generalize hS:(zI rows wd cut).filter (inB rows wd cut)++zI rows wd cut=S
  generalize hG:PyData.list (anU gD3 (zI rows wd cut))=G
  refine⟨_,rfl,fun i ρ cs=>∃ ts u v x,ρ=[some (.dat (tab rows)),some (.dat (.int cut)),some (.dat G),some (.dat (.list (S.map gD3))),some (.own (f.M.length+0)),some (.own (f.M.length+1)),u,v,x]/\cs=[.lst (ts.map zV),.set ((flat ts).map gD3).reverse]/\Told rows wd cut ts/\∀ j g,j<i->S[j]?=some g->g∈flat ts,?_,?_,?_⟩
  ·exact⟨[],_,_,_,rfl,rfl,⟨(fun _ h=>nomatch h),(fun _ h=>nomatch h),anv,(fun _ h=>nomatch h)⟩,fun j g h=>absurd h (amL _)⟩
  ·rintro i d _ _ hd ⟨ts,u,v,x,rfl,rfl,T,past⟩
   rw [alv] at hd
   cases hq:S[i]? with
   | none=>rw [hq] at hd;cases hd
   | some q =>
    rw [hq] at hd
    cases hd
    have oq:opG rows wd cut q=true:=by
     have hm:=alB hq
     rw [<-hS] at hm
     rcases alM.mp hm with h | h
     ·exact mem_gates.mp (amZ.mp h).1
     ·exact mem_gates.mp h
    have memk:(gD3 q∈((flat ts).map gD3).reverse)↔q∈flat ts:=by
     rw [amg,alF]
     exact⟨fun⟨a,ha,e⟩=>abZ e▸ha,fun h=>⟨q,h,rfl⟩⟩
    refine zq (aip (akU (i:=5) (j:=1) rfl rfl (adL (zM rfl ⟨qk _,?_⟩))))
    rw [if_pos rfl]
    by_cases hin:q∈flat ts
    ·rw [decide_eq_true (memk.mpr hin),show (!true)=false from rfl,if_neg ald]
     refine abG ⟨ts,_,_,_,rfl,rfl,T,fun j g hj hg=>?_⟩
     rcases aoL.mp hj with h | h
     ·exact past j g h hg
     ·rw [h,hq] at hg
      cases hg
      exact hin
    ·rw [decide_eq_false (fun z=>hin (memk.mp z)),show (!false)=true from rfl,if_pos rfl]
     refine jF (abF (yo (zu (rows,wd,cut,q) ?_)))
     walk_at "w"
     rintro _ ⟨ring,l,rfl,L,hh⟩
     dsimp only at L hh
     have T2:Told rows wd cut (ts++[(ring,l)]):=by
      by_cases hi:i<((zI rows wd cut).filter (inB rows wd cut)).length
      ·have hp:yr rows wd cut q=none:=by
        rw [<-hS,alk hi] at hq
        exact (ahG oq).mp (amZ.mp (alB hq)).2
       have r0:=aku L hh hp
       exact T.more L hh hin (fun _=>hp) fun z=>by rw [r0] at z;cases z
      ·have all:∀ g,opG rows wd cut g=true->yr rows wd cut g=none->g∈flat ts:=fun g og hp=>by
        have hm:g∈(zI rows wd cut).filter (inB rows wd cut):=amZ.mpr ⟨mem_gates.mpr og,(ahG og).mpr hp⟩
        obtain⟨j,hj⟩:=al0 hm
        obtain⟨hlt,_⟩:=alf.mp hj
        refine past j g (by omega) ?_
        rw [<-hS,alk hlt]
        exact hj
       have r1:=aiW T all L hh hin
       refine T.more L hh hin (fun z=>by rw [r1] at z;cases z) fun _ g hg=>?_
       have fr:=T.fresh L hh hin g hg
       obtain⟨j,hj⟩:=al0 (mem_gates.mpr (L.op g hg))
       have hq':=hq
       rw [<-hS,alj (by omega)] at hq'
       have pw:(zI rows wd cut).Pairwise gLt:=by rw [jH];exact (aat _ _).filter _
       obtain⟨l1,e1⟩:=alf.mp hj
       obtain⟨l2,e2⟩:=alf.mp hq'
       rcases Nat.lt_trichotomy j (i - ((zI rows wd cut).filter (inB rows wd cut)).length) with h | h | h
       ·refine absurd (past (j+((zI rows wd cut).filter (inB rows wd cut)).length) g (by omega) ?_) fr
        rw [<-hS,alj (by omega),Nat.add_sub_cancel]
        exact hj
       ·left
        rw [<-e1,<- e2]
        congr 1
       ·right
        rw [<-e1,<- e2]
        exact alZ.mp pw _ _ l2 l1 h
     have hf:=T2.len gd
     have nd2:=T2.nd
     rw [qx] at nd2 hf
     have few:=T.few gd
     refine zq ?_
     refine jF (ag7 (i:=4) (j:=0) rfl rfl (by rw [ale];omega) (adL (zM rfl ?_)))
     refine ag6 (aja (agr (zM rfl ?_)))
     walk_at "w"
     refine⟨fun m ρ cs=>∃ x,ρ=[some (.dat (tab rows)),some (.dat (.int cut)),some (.dat G),some (.dat (.list (S.map gD3))),some (.own (f.M.length+0)),some (.own (f.M.length+1)),some (.dat (gD3 q)),some (.dat (zV (ring,l))),x]/\cs=[.lst ((ts++[(ring,l)]).map zV),.set ((flat ts++l.take m).map gD3).reverse],?_,?_,?_⟩
     ·refine⟨_,rfl,?_⟩
      rw [ao3,al4,alX]
      rfl
     ·rintro m d _ _ hd ⟨x,rfl,rfl⟩
      rw [alv] at hd
      cases hg:l[m]? with
      | none=>rw [show (ring,l).2[m]?=none from hg] at hd;cases hd
      | some g =>
       rw [show (ring,l).2[m]?=some g from hg] at hd
       cases hd
       have tk:l.take (m+1)=l.take m++[g]:=by
        rw [anV,hg]
        rfl
       have sp:l=l.take m++g :: l.drop (m+1):=by
        obtain⟨hlt,e⟩:=alf.mp hg
        rw [<-e,<- aoz hlt,alE]
       have hnew:g∉flat ts++l.take m:=fun z=>by
        have nd3:(flat ts++l).Nodup:=nd2
        rw [sp,<- alH] at nd3
        exact (am4.mp nd3).2.2 g z g (als ..) rfl
       have len:(((flat ts++l.take m).map gD3).reverse).length<300:=by
        rw [anE,ale,alr,alq]
        have:(flat ts++l).length<=98:=hf
        rw [alr] at this
        omega
       refine zq (akV (i:=5) (j:=1) rfl rfl len (adL (zM rfl ⟨qk _,fun z=>?_,fun _=>?_⟩)))
       ·rw [amg,alF] at z
        obtain⟨a,ha,e⟩:=z
        exact absurd (abZ e▸ha) hnew
       ·refine⟨_,rfl,?_⟩
        show [OC.lst _,OC.set (gD3 g :: ((flat ts++l.take m).map gD3).reverse)]=_
        rw [tk,<- alH,alX (l₁:=flat ts++l.take m),am9]
        rfl
     ·rintro _ _ ⟨x,rfl,rfl⟩
      refine⟨ts++[(ring,l)],_,_,_,rfl,?_,T2,fun j g hj hg=>?_⟩
      ·rw [ale,show (ring,l).2.length=l.length from rfl,amf,qx]
      ·rw [qx]
       rcases aoL.mp hj with h | h
       ·exact al8 _ (past j g h hg)
       ·rw [h,hq] at hg
        cases hg
        exact alx _ (anW hh)
  ·rintro _ _ ⟨ts,u,v,x,rfl,rfl,T,past⟩
   have few:=T.few gd
   refine ais (acx (qY "str" (zM (i:=4) (d:=.list (ts.map zV)) ?_ ⟨_,rfl,aaA T,by rw [ale];omega,.inl (by rw [ale];omega),fun es pm up=>?_⟩)))
   ·show some (freed _ _ _)=_
    simp [freed]
   ·obtain⟨us,p,rfl⟩:=vc pm ts rfl
    refine⟨us,rfl,T.perm p,fun g og=>?_,up⟩
    have hm:g∈S:=by rw [<-hS];exact alx _ (mem_gates.mpr og)
    obtain⟨j,hj⟩:=al0 hm
    obtain⟨hlt,_⟩:=alf.mp hj
    exact (p.flatMap_right _).mem_iff.mpr (past j g (by rw [ale];exact hlt) hj)
section
variable {rows:List (List Int)} {wd:Nat} {cut:Int} {r:List Gt}
theorem afZ (L:LineOk rows wd cut true r) {g:Gt} (hg:g∈r):zK rows wd (ahC rows cut g).1 (ahC rows cut g).2=true/\zK rows wd (bhC rows cut g).1 (bhC rows cut g).2=true:=by
 have o:=L.op g hg
 constructor
 ·have hn:∃ n,zZ rows wd cut g=some n:=by
   obtain⟨i,hi⟩:=al0 hg
   obtain⟨hlt,_⟩:=alf.mp hi
   by_cases hl:i+1<r.length
   ·exact⟨_,L.ch i _ _ hi (alb hl)⟩
   ·have e:i=r.length - 1:=by omega
    have hz:r.getLast?=some g:=by rw [amY,<- e];exact hi
    have:=L.last g hz
    rw [if_pos rfl] at this
    cases hh:r.head? with
    | none=>exact absurd (List.head?_eq_none_iff.mp hh) L.ne
    | some h=>exact⟨h,this.trans hh⟩
  obtain⟨n,hn⟩:=hn
  unfold zZ at hn
  by_cases z:zK rows wd (ahC rows cut g).1 (ahC rows cut g).2=true
  ·exact z
  ·rw [if_neg z] at hn;cases hn
 ·have hp:∃ p,opG rows wd cut p=true/\zZ rows wd cut p=some g:=by
   obtain⟨i,hi⟩:=al0 hg
   obtain⟨hlt,_⟩:=alf.mp hi
   match i,hi with
   | 0,hi =>
    obtain⟨z,hz,hzm⟩:=vY (t:=(true,r)) L.ne
    have:=L.last z hz
    rw [if_pos rfl,amk] at this
    exact⟨z,L.op z hzm,this.trans hi⟩
   | i+1,hi =>
    have hi':r[i]?=some r[i]:=alb (by omega)
    exact⟨_,L.op _ (alB hi'),L.ch i _ _ hi' hi⟩
  obtain⟨p,op,hp⟩:=hp
  have hq:=next_prev op hp
  unfold yr at hq
  by_cases z:zK rows wd (bhC rows cut g).1 (bhC rows cut g).2=true
  ·exact z
  ·rw [if_neg z] at hq;cases hq
end
section
variable {rows:List (List Int)} {wd:Nat} {cut:Int}
theorem ade {q:Bool} {l m:List Gt} (L:LineOk rows wd cut q l) (M:LineOk rows wd cut q m) (hh:l.head?=m.head?):∀ i,i<l.length->i<m.length/\l[i]?=m[i]?:=by
 intro i
 induction i with
 | zero =>
  intro hi
  rw [amk,amk] at hh
  refine⟨?_,hh⟩
  rw [alb hi] at hh
  exact (alf.mp hh.symm).1
 | succ i ih =>
  intro hi
  obtain⟨h1,h2⟩:=ih (by omega)
  have a1:l[i]?=some l[i]:=alb (by omega)
  have a2:l[i+1]?=some l[i+1]:=alb hi
  have hn:=L.ch i _ _ a1 a2
  rw [a1] at h2
  by_cases hm:i+1<m.length
  ·have b2:m[i+1]?=some m[i+1]:=alb hm
   have hn':=M.ch i _ _ h2.symm b2
   rw [hn] at hn'
   exact⟨hm,by rw [a2,b2,hn']⟩
  ·have hz:m.getLast?=some l[i]:=by rw [amY,show m.length - 1=i by omega];exact h2.symm
   have hl:=M.last _ hz
   rw [hn] at hl
   cases q with
   | false=>cases hl
   | true =>
    rw [if_pos rfl,<- hh,amk,<- a2] at hl
    have:=(List.getElem?_inj hi L.nd).mp hl
    omega
theorem ahI {q:Bool} {l m:List Gt} (L:LineOk rows wd cut q l) (M:LineOk rows wd cut q m) (hh:l.head?=m.head?):l=m:=by
 refine anP fun i=>?_
 by_cases h:i<l.length
 ·exact (ade L M hh i h).2
 ·by_cases h2:i<m.length
  ·exact ((ade M L hh.symm i h2).2).symm
  ·rw [alN (by omega),alN (by omega)]
theorem abE {q:Bool} {l:List Gt} (L:LineOk rows wd cut q l) {t:Bool×List Gt} (T:LineOk rows wd cut t.1 t.2) (st:ab1 rows wd cut t) {h:Gt} (hl:h∈l) (ht:h∈t.2):∀ g∈l,g∈t.2:=by
 obtain⟨j,hj⟩:=al0 hl
 obtain⟨hlt,_⟩:=alf.mp hj
 have up:∀ n i,i=j+n->∀ g,l[i]?=some g->g∈t.2:=fun n=>by
  induction n with
  | zero =>
   intro i hi g hg
   rw [hi,Nat.add_zero,hj] at hg
   cases hg
   exact ht
  | succ n ih =>
   intro i hi g hg
   obtain⟨hl2,_⟩:=alf.mp hg
   have a1:l[j+n]?=some l[j+n]:=alb (by omega)
   rw [show i=j+n+1 by omega] at hg
   exact vN T (ih _ rfl _ a1) (L.ch _ _ _ a1 hg)
 have dn:∀ n i,i+n=j->∀ g,l[i]?=some g->g∈t.2:=fun n=>by
  induction n with
  | zero =>
   intro i hi g hg
   rw [show i=j by omega,hj] at hg
   cases hg
   exact ht
  | succ n ih =>
   intro i hi g hg
   have a1:l[i+1]?=some l[i+1]:=alb (by omega)
   exact vM T st (L.op g (alB hg)) (ih (i+1) (by omega) _ a1) (L.ch i _ _ hg a1)
 intro g hg
 obtain⟨i,hi⟩:=al0 hg
 by_cases h':j<=i
 ·exact up (i - j) i (by omega) g hi
 ·exact dn (j - i) i (by omega) g hi
theorem ahJ {a b:Gt} (h:gLt a b) (h':gLt b a):False:=by
 unfold gLt at h h'
 omega
theorem adf {ts us:List (Bool×List Gt)} (T:Told rows wd cut ts) (U:Told rows wd cut us) (all:∀ g,opG rows wd cut g=true->g∈flat us) {t:Bool×List Gt} (ht:t∈ts):t∈us:=by
 have L:=T.line t ht
 obtain⟨h,hh⟩:∃ h,t.2.head?=some h:=by
  cases q:t.2 with
  | nil=>exact absurd q L.ne
  | cons x l=>exact⟨x,rfl⟩
 have hm:=anW hh
 obtain⟨u,hu,hmu⟩:=ami.mp (all h (L.op h hm))
 have M:=U.line u hu
 have s1:=abE L M (U.st u hu) hm hmu
 have s2:=abE M L (T.st t ht) hmu hm
 obtain⟨k,hk⟩:∃ k,u.2.head?=some k:=by
  cases q:u.2 with
  | nil=>exact absurd q M.ne
  | cons x l=>exact⟨x,rfl⟩
 have hkm:=anW hk
 have noPrev:∀ {r:List Gt} {g:Gt},LineOk rows wd cut true r->g∈r->yr rows wd cut g≠none:=fun R hg z=>by
  obtain⟨n,hn,_⟩:=vX (R.op _ hg) (afZ R hg).2
  rw [z] at hn
  cases hn
 have kind:t.1=u.1:=by
  cases h1:t.1 with
  | true =>
   cases h2:u.1 with
   | true=>rfl
   | false =>
    rw [h1] at L
    exact absurd (U.st u hu h2 k hk) (noPrev L (s2 k hkm))
  | false =>
   cases h2:u.1 with
   | false=>rfl
   | true =>
    rw [h2] at M
    exact absurd (T.st t ht h1 h hh) (noPrev M hmu)
 have hd:h=k:=by
  cases h1:t.1 with
  | true =>
   rcases T.least t ht h1 h hh k (s2 k hkm) with e | e
   ·exact e.symm
   ·rcases U.least u hu (kind▸h1) k hk h hmu with e' | e'
    ·exact e'
    ·exact (ahJ e e').elim
  | false =>
   have hp:=T.st t ht h1 h hh
   obtain⟨i,hi⟩:=al0 hmu
   match i,hi with
   | 0,hi =>
    rw [amk,hi] at hk
    exact Option.some.inj hk
   | i+1,hi =>
    obtain⟨hlt,_⟩:=alf.mp hi
    have a1:u.2[i]?=some u.2[i]:=alb (by omega)
    have:=next_prev (M.op _ (alB a1)) (M.ch i _ _ a1 hi)
    rw [hp] at this
    cases this
 have e2:t.2=u.2:=by
  rw [<-kind] at M
  exact ahI L M (by rw [hh,hk,hd])
 have:t=u:=Prod.ext kind e2
 rw [this]
 exact hu
theorem af0 {t u:Bool×List Gt} (h:zV t=zV u):t=u:=by
 unfold zV at h
 injection h with h
 injection h with h1 h2
 injection h2 with h2 _
 injection h2 with h2
 refine Prod.ext ?_ ?_
 ·have ne:PyData.str "ring"≠PyData.str "run":=fun z=>by
   have:=anS (PyData.str "ring") (by decide +kernel)
   rw [show alW (.str "ring") (.str "ring")=alW (.str "ring") (.str "run") by rw [<-z]] at this
   exact absurd this (by decide +kernel)
  cases h3:t.1 <;> cases h4:u.1
  ·rfl
  ·rw [h3,h4] at h1;exact absurd h1.symm ne
  ·rw [h3,h4] at h1;exact absurd h1 ne
  ·rfl
 ·exact List.map_inj_right (fun _ _=>adb) |>.mp h2
theorem aaC:∀ {l m:List PyData},(∀ d∈l,zt d=true)->(l.Pairwise fun d e=>ltD d e=true)->(m.Pairwise fun d e=>ltD d e=true)->(∀ d,d∈l↔d∈m)->l=m
 | [],[],_,_,_,_=>rfl
 | [],b :: m,_,_,_,h=>nomatch (h b).mpr (als ..)
 | a :: l,[],_,_,_,h=>nomatch (h a).mp (als ..)
 | a :: l,b :: m,pl,p,q,h=>by
  obtain⟨p1,p2⟩:=amS.mp p
  obtain⟨q1,q2⟩:=amS.mp q
  have pa:=pl a (als ..)
  have pb:=pl b ((h b).mpr (als ..))
  have ab:a=b:=by
   rcases alp.mp ((h a).mp (als ..)) with e | e
   ·exact e
   ·rcases alp.mp ((h b).mpr (als ..)) with e' | e'
    ·exact e'.symm
    ·have:=abu _ _ _ pa pb pa (p1 b e') (q1 a e)
     rw [aan a pa] at this
     cases this
  subst ab
  rw [aaC (fun d hd=>pl d (alm _ hd)) p2 q2 fun d=>?_]
  constructor
  ·intro hd
   rcases alp.mp ((h d).mp (alm _ hd)) with e | e
   ·have:=p1 d hd
    rw [e,aan a pa] at this
    cases this
   ·exact e
  ·intro hd
   rcases alp.mp ((h d).mpr (alm _ hd)) with e | e
   ·have:=q1 d hd
    rw [e,aan a pa] at this
    cases this
   ·exact e
theorem ahK {ts us:List (Bool×List Gt)} (T:Told rows wd cut ts) (U:Told rows wd cut us) (aT:∀ g,opG rows wd cut g=true->g∈flat ts) (aU:∀ g,opG rows wd cut g=true->g∈flat us)
  (pT:(ts.map zV).Pairwise fun d e=>ltD d e=true) (pU:(us.map zV).Pairwise fun d e=>ltD d e=true):ts=us:=by
 have e:ts.map zV=us.map zV:=aaC (fun d hd=>by obtain⟨t,_,rfl⟩:=alF.mp hd;exact aay t) pT pU fun d=>by
  constructor
  ·intro hd
   obtain⟨t,ht,rfl⟩:=alF.mp hd
   exact alF.mpr ⟨t,adf T U aU ht,rfl⟩
  ·intro hd
   obtain⟨t,ht,rfl⟩:=alF.mp hd
   exact alF.mpr ⟨t,adf U T aT ht,rfl⟩
 exact (List.map_inj_right fun _ _=>af0).mp e
end
theorem ak2 {K:alg} {f:Fx} {D:Addr} {ts:TS} {ρ:zp} {es:List PyData} {O O':OEnds} (h:PSo K f D ts ρ es O) (h1:∀ r e,O.nx r e->O'.nx r e) (h2:∀ d,O.rt d->O'.rt d) (h3:∀ r e,O.bk r e->O'.bk r e) (h4:∀ r e,O.ct r e->O'.ct r e):PSo K f D ts ρ es O' :=
 fun hD hM σ H H2 E c n r b k=>h hD hM σ H H2 E c (fun a b c d e z=>n a b c d e (h1 _ _ z)) (fun a b c d e f g h z=>r a b c d e f g h (h2 _ z)) (fun a b' c d e z=>b a b' c d e (h3 _ _ z)) (fun a b c d e z=>k a b c d e (h4 _ _ z))
noncomputable abbrev adg (K:alg):Sp:=spD K 2 (fun (c:List (List Int)×Nat×Int) xs=>xs=[.dat (tab c.1),.dat (.int c.2.2)]/\Good c.2.1 c.1) fun c r=>r=.list ((zI c.1 c.2.1 c.2.2).map gD3)
theorem af1 (F:Def K mg "_law_gates" jw pO) (uaa:mg "len"=none) (uab:mg "range"=none):FnIn P w K mg base (k+1) "_law_gates" pO (adg K):=by
 refine F.ok sc_law_gates rfl fun fa cdv A outer s H E hr=>⟨_,(zf (zW (i:=2) sc_law_gates.nd rfl (Or.inl rfl) (yu zb)) (zf (jL amu rfl (yJ rfl uab (za (zz (zT (K:=K) rfl) rfl uaa amh (za (zP (zw (K:=K) rfl) (pv 0) ze (fun _ _=>rfl)) zb)) zb)) (zl (i:=3) sc_law_gates.nd rfl (Or.inl rfl) (Or.inr rfl)) (zk (jL amu rfl (yJ rfl uab (za (zz (zT (K:=K) rfl) rfl uaa amh (za (pv 0) zb)) zb)) (zl (i:=4) sc_law_gates.nd rfl (Or.inl rfl) (Or.inr rfl)) (zf (yG (PW.pt (adl (zS ad4 (zC zQ (pv 3) ze) (zz (zT (K:=K) rfl) rfl uaa amh (za (zP (zw (K:=K) rfl) (pv 0) ze (fun _ _=>rfl)) zb)) (zO _)) (abf (zS (jO (K:=K) rfl hr.units) (yV v8 (zP (zw (K:=K) rfl) (zP (zw (K:=K) rfl) (pv 0) (pv 4) (fun _ _=>rfl)) (pv 3) (fun _ _=>rfl)) (pv 1) (zO _)) (yV v8 (zP (zw (K:=K) rfl) (zP (zw (K:=K) rfl) (pv 0) (pv 4) (fun _ _=>rfl)) (zC zQ (pv 3) ze) (fun _ _=>rfl)) (pv 1) (zO _)) (zO _))))) (zk (ji (acb amK amB amC jA (pv 2) (za (zL (za (pv 3) (za (pv 4) (za ze zb)))) zb)))) z5) (zk (yG (PW.pt (adl (zS ad4 (zC zQ (pv 4) ze) (zz (zT (K:=K) rfl) rfl uaa amh (za (pv 0) zb)) (zO _)) (abf (zS (jO (K:=K) rfl hr.units) (yV v8 (zP (zw (K:=K) rfl) (zP (zw (K:=K) rfl) (pv 0) (pv 4) (fun _ _=>rfl)) (pv 3) (fun _ _=>rfl)) (pv 1) (zO _)) (yV v8 (zP (zw (K:=K) rfl) (zP (zw (K:=K) rfl) (pv 0) (zC zQ (pv 4) ze) (fun _ _=>rfl)) (pv 3) (fun _ _=>rfl)) (pv 1) (zO _)) (zO _))))) (zk (ji (acb amK amB amC jA (pv 2) (za (zL (za (pv 3) (za (pv 4) (za ze zb)))) zb)))) z5)))))) (zk (zy (pv 2))))),?_⟩
 rintro f xs ⟨rows,wd,cut⟩ hl ⟨rfl,g⟩
 try dsimp only [yj,zh]
 dsimp only at *
 have g1:=g.h1
 have g2:=g.h2
 have w1:=g.w1
 have w2:=g.w2
 obtain⟨r0,rs,er⟩:=g.ne
 have hr0:r0.length=wd:=g.row r0 (by rw [er];exact als)
 have hat0:atI (rows.map fun q=>PyData.list (q.map .int)) 0=some (.list (r0.map .int)):=by
  rw [er]
  exact yQ (F:=fun q:List Int=>PyData.list (q.map .int)) (xs:=r0 :: rs) (j:=0) rfl (anN _)
 have ml:(rows.map fun r=>PyData.list (r.map .int)).length=rows.length:=ale _
 refine akM (ajc ⟨show 2<5 by decide,fun D=>?_⟩)
 refine aje (qT (yh (aee (yh (aeb (zM rfl ⟨_,rfl,acj ⟨_,rfl,_,hat0,jk (Or.inl ⟨_,rfl,jk ⟨_,rfl,by rw [ale];omega,by rw [ale];omega,fun n ρ es=>(∃ x3 x4,ρ=[some (.dat (tab rows)),some (.dat (.int cut)),some (.own f.M.length),x3,x4])/\es=((alo n).flatMap fun x=>(alo rows.length).flatMap fun y=>qi rows wd cut x y).map gD3,⟨⟨_,_,rfl⟩,rfl⟩,?_,?_⟩⟩)⟩⟩))))))
 ·rintro x d _ _ hd ⟨⟨x3,x4,rfl⟩,rfl⟩
  obtain⟨hx,rfl⟩:=qg hd
  rw [am5,ale,hr0] at hx
  have lx:=jG (F:=fun x=>(alo rows.length).flatMap fun y=>qi rows wd cut x y) (b:=2 * rows.length) (fun x=>jG (fun y=>ac3 rows wd cut x y) _) x
  have lx2:2 * rows.length * x<=14 * 7:=ao8 (by omega) (by omega)
  refine zq (aje (qT (yh (aee (yh (zM rfl (jk (Or.inl ⟨_,rfl,jk ⟨_,rfl,by omega,by omega,fun n ρ es=>(∃ x4,ρ=[some (.dat (tab rows)),some (.dat (.int cut)),some (.own f.M.length),some (.dat (.int x)),x4])/\es=(((alo x).flatMap fun x=>(alo rows.length).flatMap fun y=>qi rows wd cut x y)++(alo n).flatMap fun y=>qi rows wd cut x y).map gD3,⟨⟨_,rfl⟩,by simp⟩,?_,?_⟩⟩))))))))
  ·rintro y d _ _ hd ⟨⟨x4,rfl⟩,rfl⟩
   obtain⟨hy,rfl⟩:=qg hd
   rw [am5,ml] at hy
   have ly:=jG (F:=fun y=>qi rows wd cut x y) (b:=2) (fun y=>ac3 rows wd cut x y) y
   have hin:zX rows wd x y=true:=by
    unfold zX
    rw [decide_eq_true (by omega),decide_eq_true (by omega)]
    rfl
   obtain⟨rr,ha1,ha2⟩:=qf g hin
   have op0:zY rows wd cut x y 0=(decide ((x:Int)+1<wd) && (decide (cut<ya rows x y) != decide (cut<ya rows (x+1) y))):=by
    unfold zY qe
    rw [hin]
    show (decide ((0:Int)=0 \/ (0:Int)=1) && (true && zX rows wd (x+1) y) && (decide (cut<ya rows x y) != decide (cut<ya rows (x+1) y)))=_
    congr 1
    unfold zX
    rw [decide_eq_true (p:=(0<=(y:Int)/\(y:Int)<rows.length)) (by omega),api,amm,decide_eq_true (p:=((0:Int)=0 \/ (0:Int)=1)) (.inl rfl),amm]
    exact decide_eq_decide.mpr (by omega)
   have op1:zY rows wd cut x y 1=(decide ((y:Int)+1<rows.length) && (decide (cut<ya rows x y) != decide (cut<ya rows x (y+1)))):=by
    unfold zY qe
    rw [hin]
    show (decide ((1:Int)=0 \/ (1:Int)=1) && (true && zX rows wd x (y+1)) && (decide (cut<ya rows x y) != decide (cut<ya rows x (y+1))))=_
    congr 1
    unfold zX
    rw [decide_eq_true (p:=(0<=(x:Int)/\(x:Int)<wd)) (by omega),amm,amm,decide_eq_true (p:=((1:Int)=0 \/ (1:Int)=1)) (.inr rfl),amm]
    exact decide_eq_decide.mpr (by omega)
   generalize hbase:((alo x).flatMap fun x=>(alo rows.length).flatMap fun y=>qi rows wd cut x y)++(alo y).flatMap (fun y=>qi rows wd cut x y)=bse
   have lb:bse.length<=200:=by
    rw [<-hbase,alr]
    omega
   have nxt:(((alo x).flatMap fun x=>(alo rows.length).flatMap fun y=>qi rows wd cut x y)++(alo (y+1)).flatMap (fun y=>qi rows wd cut x y))=bse++qi rows wd cut x y:=by
    rw [vz,<- alH,hbase]
   generalize he1:(if zY rows wd cut x y 0=true then [((x:Int),(y:Int),(0:Int))] else [])=es1
   have l1:es1.length<=1:=by
    rw [<-he1]
    split <;> simp
   have cnd:qi rows wd cut x y=es1++if zY rows wd cut x y 1=true then [((x:Int),(y:Int),(1:Int))] else []:=by
    unfold qi
    rw [he1]
   refine zq (akK (ak2 (O:={ nx:=fun ρ' es'=>ρ'=[some (.dat (tab rows)),some (.dat (.int cut)),some (.own f.M.length),some (.dat (.int x)),some (.dat (.int y))]/\es'=(bse++es1).map gD3,rt:=fun _=>False }) ?_ ?_ (fun _ z=>z.elim) (fun _ _ z=>z.elim) (fun _ _ z=>z.elim)))
   ·refine akL ?_
    unfold tab
    walk_at "w"
    refine⟨_,hat0,?_⟩
    walk_at "w"
    rw [ale,hr0]
    refine yI (fun h=>?_) fun h=>?_
    ·have h':=of_decide_eq_true h
     have hin2:zX rows wd (x+1) y=true:=by
      unfold zX
      rw [decide_eq_true (by omega),decide_eq_true (by omega)]
      rfl
     obtain⟨rr2,hb1,hb2⟩:=qf g hin2
     walk_at "w"
     refine⟨_,ha1,?_⟩
     walk_at "w"
     refine⟨_,ha2,?_⟩
     walk_at "w"
     refine⟨_,hb1,?_⟩
     walk_at "w"
     refine⟨_,hb2,?_⟩
     walk_at "w"
     rw [if_pos rfl,vg]
     refine yI (fun h2=>?_) fun h2=>?_
     ·have ho:zY rows wd cut x y 0=true:=by
       rw [op0,h,amm]
       exact h2
      refine ajd rfl (by rw [ale];omega) ?_
      walk_at "w"
      rw [<-he1,if_pos ho,alX]
      rfl
     ·have ho:zY rows wd cut x y 0=false:=by
       rw [op0,h,amm]
       exact h2
      refine abr ⟨rfl,?_⟩
      rw [<-he1,ho,if_neg ald,al4]
    ·have ho:zY rows wd cut x y 0=false:=by
      rw [op0,h,ana]
     refine abr ⟨rfl,?_⟩
     rw [<-he1,ho,if_neg ald,al4]
   ·rintro _ _ ⟨rfl,rfl⟩
    refine akL ?_
    unfold tab
    walk_at "w"
    rw [ml]
    refine yI (fun h=>?_) fun h=>?_
    ·have h':=of_decide_eq_true h
     have hin2:zX rows wd x (y+1)=true:=by
      unfold zX
      rw [decide_eq_true (by omega),decide_eq_true (by omega)]
      rfl
     obtain⟨rr2,hb1,hb2⟩:=qf g hin2
     walk_at "w"
     refine⟨_,ha1,?_⟩
     walk_at "w"
     refine⟨_,ha2,?_⟩
     walk_at "w"
     refine⟨_,hb1,?_⟩
     walk_at "w"
     refine⟨_,hb2,?_⟩
     walk_at "w"
     rw [if_pos rfl,vg]
     refine yI (fun h2=>?_) fun h2=>?_
     ·have ho:zY rows wd cut x y 1=true:=by
       rw [op1,h,amm]
       exact h2
      refine ajd rfl (by rw [ale,alr];omega) ?_
      walk_at "w"
      rw [nxt,cnd,if_pos ho]
      simp only [alX,alH]
      rfl
     ·have ho:zY rows wd cut x y 1=false:=by
       rw [op1,h,amm]
       exact h2
      refine abr ⟨⟨_,rfl⟩,?_⟩
      rw [nxt,cnd,ho,if_neg ald,al4]
    ·have ho:zY rows wd cut x y 1=false:=by
      rw [op1,h,ana]
     refine abr ⟨⟨_,rfl⟩,?_⟩
     rw [nxt,cnd,ho,if_neg ald,al4]
  ·rintro _ _ ⟨⟨x4,rfl⟩,rfl⟩
   refine⟨⟨_,_,rfl⟩,?_⟩
   rw [qv,am5,ml,vz]
 ·rintro _ _ ⟨⟨x3,x4,rfl⟩,rfl⟩
  refine⟨rfl,?_⟩
  rw [qv,am5,ale,hr0]
  walk_at "w"
  rfl
noncomputable abbrev scr (ns:List Int):PyData:=.list (ns.map .int)
theorem ae5 {K:alg} {H:Hp} {a:Addr} {ns:List Int} (h:SqL K H a (ns.map V.int)):Rep K (hide H L2.f0) (scr ns) (.ref a):=by
 rw [yD]
 exact rep_list.mpr ⟨a,_,rfl,h,Reps.ints' ns⟩
theorem aiY {K:alg} {H:Hp} {v:V} {ns:List Int} (h:Rep K (hide H L2.f0) (scr ns) v):∃ a,v=.ref a/\SqL K H a (ns.map V.int):=by
 rw [yD] at h
 obtain⟨a,xs,rfl,h1,h2⟩:=rep_list.mp h
 rw [h2.ints] at h1
 exact⟨a,rfl,h1⟩
noncomputable def ad1 (K:alg):Sp:=fun vs H Q _=>∃ (a:Addr) (ns:List Int) (i:Int),vs=[.ref a,.int i]/\SqL K H a (ns.map V.int)/\ns.length<=63/\0<=i/\i<=63 /\
 ∀ (p:Addr) (x y:Int) (H':Hp),Same H H'->H p=none->H' p=some (.lst [.int x,.int y])->0<=x->0<=y->y<2147483647->Q (.ref p) H'
noncomputable def ae6 (K:alg):Sp:=fun vs H Q _=>∃ (a:Addr) (ns:List Int),vs=[.ref a]/\SqL K H a (ns.map V.int)/\ns.length<=63/\∀ H',Q (.bl true) H'
theorem aiZ {K:alg} {f:Fx} {t:TA} {ρ:zp} {R R':List DV->Prop} (h:PAd K f t ρ R) (i:∀ xs,R xs->R' xs):PAd K f t ρ R':=fun σ H Q e q=>h σ H Q e fun xs vs H' g r p=>q xs vs H' g r (i xs p)
theorem akx {K:alg} {ρ:zp} {ns:List Int} {i:Int} {E2:XK} (h0:ρ[0]?=some (some (.dat (scr ns)))) (h1:ρ[1]?=some (some (.dat (.int i)))) (hl:ns.length<=63) (i0:0<=i) (i1:i<=63) :
  ∀ (σ:L2.St) (H:Hp) (Q:VK),EnvOk K L2.f0 ρ σ H->(∀ (p:Addr) (x y:Int) (H':Hp),Same H H'->H p=none->H' p=some (.lst [.int x,.int y])->0<=x->0<=y->y<2147483647->Q (.ref p) H')->ab9 (ad1 K) [] E2 (yx (yw 0) (yx (yw 1) jZ)) σ H Q:=by
 intro σ H Q e q
 obtain⟨v0,hv0,r0⟩:=e.get 0 _ h0
 obtain⟨v1,hv1,r1⟩:=e.get 1 _ h1
 obtain⟨a,rfl,hS⟩:=aiY r0
 have e1:v1=.int i:=rep_int.mp (show Rep K (hide H L2.f0) (.int i) v1 from r1)
 subst e1
 exact⟨_,hv0,_,hv1,a,ns,i,rfl,hS,hl,i0,i1,q⟩
theorem aky {K:alg} {f:Fx} {ρ:zp} {P:PyData->Prop} {i:Nat} {rows:List (List Int)} (hi:ρ[i]?=some (some (.dat (tab rows)))) (hl:rows.length<=1000) (p:P (tab rows)) :
  PEd K f (jX (ab8 K (yw i)) 1 [] (y7 0) ahW fun D=>qA D (tCB (fun xs H Q=>∃ p ys,xs=[V.ref p]/\(SqL K H p ys \/ SqT K H p ys)/\∀ l,H l=none->Q (V.ref l) (upd H l (HO.lst ys))) (yx (yw 0) jZ))) ρ P:=by
 refine PEdO.ped (aei (A:=fun r:List Int=>PyData.list (r.map .int)) (B:=fun r:List Int=>PyData.list (r.map .int)) rows (jc (zM hi ⟨_,rfl,rfl,hl,?_,p⟩)))
 rintro D r ρ' es hr ho hes
 obtain⟨u,rfl⟩:=ho.one
 refine zq (qC ?_)
 rw [if_pos rfl]
 exact jz hes (agz (yh (zM rfl (jk (.inl ⟨_,rfl,.mk1,rfl⟩)))))
theorem ai0 (F:Def K mg "_law_feed" jU pL) (uaa:mg "len"=none) (uaG:mg "abs"=none):FnIn P w K mg base (k+1) "_law_feed" pL (ad1 K):=by
 refine F.raw sc_law_feed (fun vs H Q E h=>?_) fun fa cdv A outer s H vs Q E hr hs=>⟨_,(zf (zW (i:=2) sc_law_feed.nd rfl (Or.inl rfl) ze) (zf (yG (zS v8 (zz (zT (K:=K) rfl) rfl uaa amh (za (pv 0) zb)) ze (zO _)) (zk (zW (i:=2) sc_law_feed.nd rfl (Or.inl rfl) (zP (zw (K:=K) rfl) (pv 0) (zC vm (pv 1) (zz (zT (K:=K) rfl) rfl uaa amh (za (pv 0) zb))) (fun _ _=>rfl)))) z5) (zk (zy (yu (za (zz (agf) rfl uaG PyProof.Rows.boot_abs (za (pv 2) zb)) (za (zC zQ (zC v7 ze (pv 1)) ze) zb))))))),?_⟩
 ·obtain⟨a,ns,i,rfl,_⟩:=h
  rfl
 obtain⟨a,ns,i,rfl,hS,h63,i0,i1,q⟩:=hs
 have e0:EnvOk K L2.f0 (j8 qN [.dat (scr ns),.dat (.int i)]) (start qN [.ref a,.int i]) H:=qo (.cons (ae5 hS) (.cons (show RepV K L2.f0 H (.dat (.int i)) (.int i) from (rep_int (K:=K) (H:=hide H L2.f0)).mpr rfl) .nil)) (L2.fok0 H)
 refine agC (D:={ nx:=fun ρ=>ρ=[some (.dat (scr ns)),some (.dat (.int i)),some (.dat (.int 0))],rt:=fun _=>False }) ?_ e0 ?_ (fun _ _ _ _ _ z=>z.elim) (fun _ z=>z) (fun _ z=>z)
 ·walk_at "w"
  rfl
 rintro _ σ1 H1 g1 e1 rfl
 refine agC (D:={ nx:=fun ρ=>∃ c:Int,ρ=[some (.dat (scr ns)),some (.dat (.int i)),some (.dat (.int c))],rt:=fun _=>False }) ?_ e1 ?_ (fun _ _ _ _ _ z=>z.elim) (fun _ z=>z) (fun _ z=>z)
 ·walk_at "w"
  rw [ale]
  by_cases h:0<ns.length
  ·rw [if_pos (by simpa using h)]
   walk_at "w"
   rw [ale]
   have z0:=aoi i (b:=(ns.length:Int)) (by omega)
   have z1:=amU i (b:=(ns.length:Int)) (by omega)
   refine⟨by omega,_,rfl,_,yQ (j:=(i % (ns.length:Int)).toNat) (by omega) (by omega),?_⟩
   walk_at "w"
   exact⟨_,rfl⟩
  ·rw [if_neg (by simpa using h)]
   walk_at "w"
   exact⟨_,rfl⟩
 rintro _ σ2 H2 g2 e2 ⟨c,rfl⟩
 unfold ae8
 have ss:Same H H2:=(L2.same0 g1).trans (L2.same0 g2)
 refine agD (R:=fun ds=>∃ x y:Int,ds=[.int x,.int y]/\0<=x/\0<=y/\y<2147483647) ?_ e2 ?_
 ·walk_at "w"
  omega
 ·rintro p ds vs H3 g3 hn rs ⟨x,y,rfl,hx,hy,hy'⟩
  have sf:Same H H3:=ss.trans (L2.same0 g3)
  have ev:vs=[.int x,.int y]:=Reps.ints (ns:=[x,y]) rs
  subst ev
  exact q p x y _ (sf.trans (z4 hn _)) (sf.free hn) zB hx hy hy'
theorem ad2:∀ l:List Gt,ama (l.map gD3)=true/\aln (l.map gD3)<=1
 | []=>⟨rfl,by decide⟩
 | g :: l=>⟨(ad2 l).1,aoT.mpr ⟨ali 1,(ad2 l).2⟩⟩
theorem adh (t:Bool×List Gt):(zV t).canLay0=true/\(zV t).depth<=3:=by
 obtain⟨q,l⟩:=t
 obtain⟨h1,h2⟩:=ad2 l
 refine⟨?_,aaz _⟩
 cases q with
 | true =>
  show ((PyData.str "ring").canLay0 && (ama (l.map gD3) && true))=true
  rw [h1]
  decide +kernel
 | false =>
  show ((PyData.str "run").canLay0 && (ama (l.map gD3) && true))=true
  rw [h1]
  decide +kernel
theorem vE:∀ ts:List (Bool×List Gt),ama (ts.map zV)=true/\aln (ts.map zV)<=3
 | []=>⟨rfl,by decide⟩
 | t :: ts=>⟨by
   show ((zV t).canLay0 && ama (ts.map zV))=true
   rw [(adh t).1,(vE ts).1]
   rfl,aoT.mpr ⟨(adh t).2,(vE ts).2⟩⟩
theorem adi {T:String} {ds es:List PyData} (h:SortOk T ds) (p:es.Perm ds):SortOk T es where
 plain:=fun d hd=>h.plain d (p.mem_iff.mp hd)
 head:=fun d hd=>h.head d (p.mem_iff.mp hd)
 cmp:=fun d hd e he=>h.cmp d (p.mem_iff.mp hd) e (p.mem_iff.mp he)
 depth:=fun d hd=>h.depth d (p.mem_iff.mp hd)
 nd:=p.nodup_iff.mpr h.nd
theorem abb {α β:Type} {F:α->β}:∀ {l:List α},(l.map F).Nodup->l.Nodup
 | [],_=>.nil
 | a :: l,h=>by
  have h:(F a :: l.map F).Nodup:=h
  obtain⟨h1,h2⟩:=aml.mp h
  exact aml.mpr ⟨fun z=>h1 (List.mem_map_of_mem z),abb h2⟩
theorem af2 {rows:List (List Int)} {wd:Nat} {ct:Int} {ts:List (Bool×List Gt)} (T:Told rows wd ct ts) (aT:∀ g,opG rows wd ct g=true->g∈flat ts):((flat ts).map gD3).Perm ((zI rows wd ct).map gD3) :=
 .map _ ((aov T.nd (abb (qj rows wd ct).nd)).mpr fun g=>⟨fun h=>mem_gates.mpr (T.op h),fun h=>aT g (mem_gates.mp h)⟩)
theorem af3 {ts:List (Bool×List Gt)} {n:Nat} {t:Bool×List Gt} (h:ts[n]?=some t):flat (ts.take (n+1))=flat (ts.take n)++t.2:=by
 rw [aoG,h]
 show aoq _ _=_
 rw [ams]
 show _++(t.2++[])=_
 rw [al4]
 rfl
theorem abq (ts:List (Bool×List Gt)) (n:Nat):(flat (ts.take n)).length<=(flat ts).length:=by
 have h:flat ts=flat (ts.take n)++flat (ts.drop n):=by
  show aoq _ _=aoq _ _++aoq _ _
  rw [<-ams,alE]
 rw [h,alr]
 omega
theorem akz {f:Addr} {fd:FuncData} (F:Fun K "law" "law" vL f fd) (uaa:mg "len"=none) (uab:mg "range"=none) (uaf:mg "max"=none) (uad:mg "min"=none) (uaH:mg "isinstance"=none) (uai:mg "list"=none) (uae:mg "sorted"=none) (kL:anc K (.type "list") (.type "list")=some true)
  (ubh:FnIn P w K mg base k "_law_feed" pL (ad1 K)) (ubi:FnIn P w K mg base k "_law_table" pM (aeN K))
  (ua2:FnIn P w K mg base k "_law_cut" pN (ajm K)) (ubj:FnIn P w K mg base k "_law_gates" pO (adg K)) (ua3:FnIn P w K mg base k "lines" pA (ae4 K)) :
  FnOk P w K mg base CX0 (k+1) f fd pP (ae6 K):=by
 refine F.ok sc_law (fun vs H Q E h=>?_) fun cdv A outer s H vs Q E hr hs=>⟨_,(zf (jL amu rfl (yJ rfl uab (za (zz (afc rfl) rfl uaf boot_max (za ze (za (zz (aaN rfl) rfl uad boot_min (za ze (za (zz (zT (K:=K) rfl) rfl uaa amh (za (pv 0) zb)) zb))) zb))) zb)) (zl (i:=1) sc_law.nd rfl (Or.inl rfl) (Or.inr rfl)) (zf (zW (i:=2) sc_law.nd rfl (Or.inl rfl) (zg ubh hr rfl (za (pv 0) (za (pv 1) zb)))) (zf (zW (i:=3) sc_law.nd rfl (Or.inl rfl) (zg ubi hr rfl (za (pv 2) zb))) (zf (vH (i:=4) (N:=["_law_row"]) (own:=1) (fr:=[]) ⟨rfl,by decide +kernel,of_decide_eq_true (by kernel_rfl),of_decide_eq_true (by kernel_rfl),of_decide_eq_true (by kernel_rfl),rfl⟩ rfl sc_law.nd rfl (Or.inl rfl) (yk (K:=K) rfl (pv 3)) (fun _ _ _ _=>(zl (i:=0) (show (["_law_row"]:List Str).Nodup by decide +kernel) rfl (Or.inl rfl) (Or.inr rfl))) (fun _ _ _ _=>yM) (fun _ _ _ _=>(ql (qJ (K:=K) rfl) rfl uai anm (za (pv 0) zb))) rfl rfl (fun _=>rfl) (Or.inl rfl) rfl) (zk (jL amu rfl (yk (K:=K) rfl (yu (za (zg ua2 hr rfl (za (pv 2) (za (pv 3) zb))) (za (zg ua2 hr rfl (za (pv 2) (za (pv 3) zb))) (za (zC qH ze ze) (za (zC vk ze (zC qH ze ze)) zb)))))) (zl (i:=5) sc_law.nd rfl (Or.inl rfl) (Or.inr rfl)) (zf (zW (i:=6) sc_law.nd rfl (Or.inl rfl) (zg ua3 hr rfl (za (pv 3) (za (pv 5) zb)))) (zf (yG (PW.pt (af5 (v3 (yA (K:=K) rfl (zz (afr (K:=K) rfl) rfl uaH boot_isinstance (za (pv 6) (za (ahO (v:=.ty "list") rfl uai anm rfl) zb))) (fun _=>rfl))) (adk (zS (jO (K:=K) rfl hr.units) (pv 6) (zz (yW (K:=K) rfl hr.units) rfl uae am6 (za (pv 6) zb)) (zO _))))) (zk (zy vZ)) z5) (zf (zW (i:=7) sc_law.nd rfl (Or.inl rfl) (yu zb)) (zf (jL amu rfl (yk (K:=K) rfl (pv 6)) (yc (K:=K) (n:=2) rfl rfl (zm (zl (i:=8) sc_law.nd rfl (Or.inl rfl) (Or.inr rfl)) (zm (zl (i:=9) sc_law.nd rfl (Or.inl rfl) (Or.inr rfl)) z6))) (zk (zW (i:=7) sc_law.nd rfl (Or.inl rfl) (zC (acv (K:=K) rfl) (pv 7) (ql (qJ (K:=K) rfl) rfl uai anm (za (pv 9) zb)))))) (zf (yG (PW.pt (af5 (zS (jO (K:=K) rfl hr.units) (zz (yW (K:=K) rfl hr.units) rfl uae am6 (za (pv 7) zb)) (zz (yW (K:=K) rfl hr.units) rfl uae am6 (za (zg ubj hr rfl (za (pv 3) (za (pv 5) zb))) zb)) (zO _)) (adk (zS (jO (K:=K) rfl hr.units) (pv 3) (pv 4) (zO _))))) (zk (zy vZ)) z5) (zf (zW (i:=10) sc_law.nd rfl (Or.inl rfl) (ql (qJ (K:=K) rfl) rfl uai anm (za (pv 6) zb))) (zf (ji (acb amK amB amC jA (pv 6) (za (zL (za qG (za (zL zb) zb))) zb))) (zk (yG (zS (jO (K:=K) rfl hr.units) (zg ua3 hr rfl (za (pv 3) (za (pv 5) zb))) (pv 10) (zO _)) (zk (zy vZ)) z5))))))))))))))) (zk (zy vZ))),?_⟩
 ·obtain⟨a,ns,rfl,_⟩:=h
  rfl
 obtain⟨a,ns,rfl,hS,h63,q⟩:=hs
 have e0:EnvOk K L2.f0 (j8 aeM [.dat (scr ns)]) (start aeM [.ref a]) H:=qo (.cons (ae5 hS) .nil) (L2.fok0 H)
 suffices h:PSd K L2.f0 _ (j8 aeM [.dat (scr ns)]) { nx:=fun _=>False,rt:=fun d=>d=.bool true } from
  h _ H _ e0 (fun _ _ _ _ _ z=>z.elim) (fun d v H' _ r z=>by
   subst z
   rw [rep_bool.mp r]
   exact q H') (fun _ _ _ _ _ z=>z) (fun _ _ _ _ _ z=>z)
 refine yH (ajb (qT (aiZ (R:=fun xs=>∃ j:Int,xs=[.dat (.int j)]/\0<=j/\j<=63) ?_ ?_)))
 ·walk_at "w"
  rw [ale]
  split <;> split <;> omega
 rintro _ ⟨j,rfl,j0,j1⟩
 refine⟨j,rfl,by omega,by omega,fun i ρ=>∃ x1 x2 x3 x4 x5 x6 x7 x8 x9 x10,ρ=[some (.dat (scr ns)),x1,x2,x3,x4,x5,x6,x7,x8,x9,x10],⟨_,_,_,_,_,_,_,_,_,_,rfl⟩,?_,?_⟩
 ·rintro i d _ hi ⟨x1,x2,x3,x4,x5,x6,x7,x8,x9,x10,rfl⟩
  obtain⟨hi,rfl⟩:=qg hi
  refine zq (ajU (akx rfl rfl h63 (by omega) (by omega)) fun p=>?_)
  refine yH (yo (zu () ?_))
  walk_at "w"
  rintro _ ⟨wd,rows,rfl,g⟩
  have g1:=g.h1
  have g2:=g.h2
  refine zq (yH (yo (aky rfl (by omega) (zq (ajb (jc (aec ?_)))))))
  refine yh (zu (rows,wd) ?_)
  walk_at "w"
  rintro _ ⟨cut,rfl,c0,c1⟩
  refine yh (zu (rows,wd) ?_)
  walk_at "w"
  rintro _ ⟨cut',rfl,c0',c1'⟩
  walk_at "w"
  refine⟨fun n ρ=>∃ x5 x6 x7 x8 x9 x10,ρ=[some (.dat (scr ns)),some (.dat (.int i)),some .feed,some (.dat (tab rows)),some (.dat (tab rows)),x5,x6,x7,x8,x9,x10],⟨_,_,_,_,_,_,rfl⟩,?_,?_⟩
  ·rintro n d _ hd ⟨x5,x6,x7,x8,x9,x10,rfl⟩
   obtain⟨ct,rfl⟩:∃ ct:Int,d=.int ct:=by
    have hm:=alB hd
    simp only [alp,amA,or_false] at hm
    rcases hm with rfl | rfl | rfl | rfl <;> exact⟨_,rfl⟩
   have hgl:=vA (cut:=ct) g
   obtain⟨lg,dg⟩:=afR rows wd ct
   obtain⟨lt,dt⟩:=aiN rows
   refine zq (adK (w:=w) (ag8 (abH (aak (rows,wd,ct) ?_))))
   walk_at "w"
   rintro _ ⟨ts,rfl,T,aT,pT⟩
   dsimp only at T aT
   have fT:=T.few g
   have lT:=T.len g
   refine⟨show 6<11 by decide,fun D=>?_⟩
   obtain⟨ll,dl⟩:=vE ts
   have dd:(PyData.list (ts.map zV)).depth<=60:=by show aln (ts.map zV)+1<=60;omega
   have eL:alW (.list (ts.map zV)) (.list (ts.map zV))=true:=anS _ ll
   have fr:∀ (es:List PyData) (x7 x8 x9 x10:Option DV),anU (freed (Fx.M ⟨some p,[]⟩).length [OC.lst es]) [some (DV.dat (scr ns)),some (.dat (.int i)),some .feed,some (.dat (tab rows)),some (.dat (tab rows)),some (.dat (.int ct)),some (.own 0),x7,x8,x9,x10]=[some (DV.dat (scr ns)),some (.dat (.int i)),some .feed,some (.dat (tab rows)),some (.dat (tab rows)),some (.dat (.int ct)),some (.dat (.list es)),freed 0 [OC.lst es] x7,freed 0 [OC.lst es] x8,freed 0 [OC.lst es] x9,freed 0 [OC.lst es] x10]:=fun es x7 x8 x9 x10=>by simp [freed]
   refine jF (aip (aeK ?_))
   show PTd K _ _ (anU (freed (Fx.M ⟨some p,[]⟩).length [OC.lst (ts.map zV)]) [some (DV.dat (scr ns)),some (.dat (.int i)),some .feed,some (.dat (tab rows)),some (.dat (tab rows)),some (.dat (.int ct)),some (.own 0),x7,x8,x9,x10]) _
   rw [fr]
   refine ahY (ack (j7 (akI kL (zM rfl ⟨_,rfl,_,rfl,?_⟩))))
   rw [amb,if_neg ald]
   refine yT (qQ (zM rfl (PEdO.ped (qY "str" (zM rfl ⟨_,rfl,aaA T,by rw [ale];omega,.inr pT,fun es hp hu=>?_⟩)))))
   obtain rfl:=qc (aaA T).plain hp hu pT
   refine⟨ll,ll,alV (aom _ _) dd,_,rfl,?_⟩
   rw [if_pos rfl,eL,amb,if_neg ald]
   refine abG ?_
   show PSm w K ⟨some p,[]⟩ [D] _ [some (DV.dat (scr ns)),some (.dat (.int i)),some .feed,some (.dat (tab rows)),some (.dat (tab rows)),some (.dat (.int ct)),some (.own 0),x7,x8,x9,x10] [OC.lst (ts.map zV)] _
   refine jF (abF (yo (aec (jk ⟨_,rfl,alD _,zq ?_⟩))))
   refine jF (akh (i:=6) (j:=0) rfl rfl (fun n ρ=>∃ y8 y9,ρ=[some (DV.dat (scr ns)),some (.dat (.int i)),some .feed,some (.dat (tab rows)),some (.dat (tab rows)),some (.dat (.int ct)),some (.own 0),some (.dat (.list ((flat (ts.take n)).map gD3))),y8,y9,x10]) ⟨_,_,rfl⟩ ?_ ?_)
   ·rintro n d _ hd ⟨y8,y9,rfl⟩
    rw [alv] at hd
    cases et:ts[n]? with
    | none=>rw [et] at hd;cases hd
    | some t =>
     rw [et] at hd
     cases hd
     have f1:=af3 et
     have f2:=abq ts (n+1)
     rw [f1,alr] at f2
     obtain⟨q,l⟩:=t
     refine jC rfl (zD (zq (zD (zq (yB ?_)))))
     refine akZ (adL (agK (zM rfl ⟨_,rfl,PEdO.ped (ahg (zM rfl ⟨l.map gD3,.inr rfl,_,rfl,?_,rfl,?_⟩))⟩)))
     ·rw [ale,ale]
      dsimp only at f2
      omega
     ·show ∃ y8 y9,_=[some (DV.dat (scr ns)),some (.dat (.int i)),some .feed,some (.dat (tab rows)),some (.dat (tab rows)),some (.dat (.int ct)),some (.own 0),some (.dat (.list ((flat (ts.take (n+1))).map gD3))),y8,y9,x10]
      rw [f1,alX]
      exact⟨_,_,rfl⟩
   rintro _ ⟨y8,y9,rfl⟩
   rw [ale,amf]
   have fp:=af2 T aT
   have gu:=ac4 rows wd ct
   refine jF (aip (aeK ?_))
   show PTd K _ _ (anU (freed (Fx.M ⟨some p,[]⟩).length [OC.lst (ts.map zV)]) [some (DV.dat (scr ns)),some (.dat (.int i)),some .feed,some (.dat (tab rows)),some (.dat (tab rows)),some (.dat (.int ct)),some (.own 0),some (.dat (.list ((flat ts).map gD3))),y8,y9,x10]) _
   rw [fr]
   refine ahY (yT (qQ (PEdO.ped (qY "int" (zM rfl ⟨_,rfl,adi (qj rows wd ct) fp,by rw [ale];omega,.inl (by rw [ale];omega),fun es hp hu=>?_⟩)))))
   obtain rfl:=qc (qj rows wd ct).plain (hp.trans fp) hu gu
   refine PEdO.ped (qY "int" (zu (rows,wd,ct) (ak0 rfl rfl ⟨rfl,⟨rfl,g⟩,?_⟩)))
   rintro _ rfl
   refine⟨_,rfl,qj rows wd ct,by rw [ale];exact alV hgl (by decide),.inr gu,fun es hp hu=>?_⟩
   obtain rfl:=qc (qj rows wd ct).plain hp hu gu
   refine⟨lg,lg,alV (aom _ _) dg,_,rfl,?_⟩
   rw [if_pos rfl,anS _ lg,amb,if_neg ald]
   refine yT (qQ (zM rfl (zM rfl ⟨lt,lt,alV (aom _ _) dt,_,rfl,?_⟩)))
   rw [if_pos rfl,anS _ lt,amb,if_neg ald]
   refine abG ?_
   show PSm w K ⟨some p,[]⟩ [D] _ [some (DV.dat (scr ns)),some (.dat (.int i)),some .feed,some (.dat (tab rows)),some (.dat (tab rows)),some (.dat (.int ct)),some (.own 0),some (.dat (.list ((flat ts).map gD3))),y8,y9,x10] [OC.lst (ts.map zV)] _
   refine jF (akf (j:=0) rfl rfl (show 10<11 by decide) ?_)
   refine jF (ag7 (j:=0) rfl rfl (by rw [ale];omega) (adL (aaf (yh (ago (yh (aaf (jk ⟨_,rfl,alD _,jk ⟨_,rfl,anp rfl,?_⟩⟩))))))))
   refine aip (akS (yT (qQ (PEdO.ped (aak (rows,wd,ct) (ak0 rfl rfl ⟨rfl,⟨rfl,g⟩,?_⟩))))))
   rintro _ ⟨ts',rfl,T',aT',pT'⟩
   obtain rfl:=ahK T' T aT' aT pT' pT
   refine zM rfl ⟨ll,ll,alV (aom _ _) dd,_,rfl,?_⟩
   rw [if_pos rfl,eL,amb,if_neg ald]
   exact abG ⟨_,_,_,_,_,_,rfl⟩
  ·rintro _ ⟨x5,x6,x7,x8,x9,x10,rfl⟩
   exact⟨_,_,_,_,_,_,_,_,_,_,rfl⟩
 ·rintro _ ⟨x1,x2,x3,x4,x5,x6,x7,x8,x9,x10,rfl⟩
  walk_at "w"
  rfl
end
theorem _root_.L2.FnIn.m {P w K mg base j k x ps sp} (h:FnIn P w K mg base j x ps sp) (hk:j<=k:=by decide):FnIn P w K mg base k x ps sp:=h.mono hk
theorem xf1 {K:apl} {h:Heap} {mg:Str->Option Value} {x:Str} {st:Stmt} {f:Addr} {od an:Option Addr} {sl:Array (Option Value)} {oc kV dc pm cd ct:Value} (X:K.In h) (G:h.Ns mainGlobals mg) (a:FD K x st f od an sl oc kV dc pm cd ct) {p0:Str} (hb:∀ (kV doc pm:Value) (an:Option Addr) (cdv ct:Value) (u0:Value),bindArgs (amx x x (yL st) (yl st) (zi st) .none kV doc pm an cdv ct) ⟨[u0],[]⟩=pure ([p0].zip [u0])):Def K mg x st [p0]:=aki X G a (fun _ _ _ _ _ _ us hl=>match us,hl with | [u0],_=>hb _ _ _ _ _ _ u0)
theorem xf2 {K:apl} {h:Heap} {mg:Str->Option Value} {x:Str} {st:Stmt} {f:Addr} {od an:Option Addr} {sl:Array (Option Value)} {oc kV dc pm cd ct:Value} (X:K.In h) (G:h.Ns mainGlobals mg) (a:FD K x st f od an sl oc kV dc pm cd ct) {p0 p1:Str} (hb:∀ (kV doc pm:Value) (an:Option Addr) (cdv ct:Value) (u0 u1:Value),bindArgs (amx x x (yL st) (yl st) (zi st) .none kV doc pm an cdv ct) ⟨[u0,u1],[]⟩=pure ([p0,p1].zip [u0,u1])):Def K mg x st [p0,p1]:=aki X G a (fun _ _ _ _ _ _ us hl=>match us,hl with | [u0,u1],_=>hb _ _ _ _ _ _ u0 u1)
theorem xf3 {K:apl} {h:Heap} {mg:Str->Option Value} {x:Str} {st:Stmt} {f:Addr} {od an:Option Addr} {sl:Array (Option Value)} {oc kV dc pm cd ct:Value} (X:K.In h) (G:h.Ns mainGlobals mg) (a:FD K x st f od an sl oc kV dc pm cd ct) {p0 p1 p2:Str} (hb:∀ (kV doc pm:Value) (an:Option Addr) (cdv ct:Value) (u0 u1 u2:Value),bindArgs (amx x x (yL st) (yl st) (zi st) .none kV doc pm an cdv ct) ⟨[u0,u1,u2],[]⟩=pure ([p0,p1,p2].zip [u0,u1,u2])):Def K mg x st [p0,p1,p2]:=aki X G a (fun _ _ _ _ _ _ us hl=>match us,hl with | [u0,u1,u2],_=>hb _ _ _ _ _ _ u0 u1 u2)
set_option autoImplicit true in
set_option relaxedAutoImplicit true in
theorem all_mk {l:PySem.W.OpenLaw} {w:World} {K:alg} {h:Heap} {mg:Str->Option Value} {fa:Addr} (X:K.In h) (G:h.Ns mainGlobals mg) (hfa:mg "law"=some (.ref fa))
  (a1:FD K "size" abN f1 od1 an1 sl1 oc1 kV1 dc1 pm1 cd1 ct1)
  (a2:FD K "points" vd f2 od2 an2 sl2 oc2 kV2 dc2 pm2 cd2 ct2)
  (a3:FD K "has_point" jq f3 od3 an3 sl3 oc3 kV3 dc3 pm3 cd3 ct3)
  (a4:FD K "has_cell" jR f4 od4 an4 sl4 oc4 kV4 dc4 pm4 cd4 ct4)
  (a5:FD K "corners" qr f5 od5 an5 sl5 oc5 kV5 dc5 pm5 cd5 ct5)
  (a6:FD K "ask_table" jr f6 od6 an6 sl6 oc6 kV6 dc6 pm6 cd6 ct6)
  (a7:FD K "fits" abO f7 od7 an7 sl7 oc7 kV7 dc7 pm7 cd7 ct7)
  (a8:FD K "is_row" ve f8 od8 an8 sl8 oc8 kV8 dc8 pm8 cd8 ct8)
  (a9:FD K "gates" vV f9 od9 an9 sl9 oc9 kV9 dc9 pm9 cd9 ct9)
  (a10:FD K "stands_high" yO f10 od10 an10 sl10 oc10 kV10 dc10 pm10 cd10 ct10)
  (a11:FD K "gate_points" yP f11 od11 an11 sl11 oc11 kV11 dc11 pm11 cd11 ct11)
  (a12:FD K "has_gate" jS f12 od12 an12 sl12 oc12 kV12 dc12 pm12 cd12 ct12)
  (a13:FD K "is_open" qs f13 od13 an13 sl13 oc13 kV13 dc13 pm13 cd13 ct13)
  (a14:FD K "cell_gates" yX f14 od14 an14 sl14 oc14 kV14 dc14 pm14 cd14 ct14)
  (a15:FD K "is_crossed" yY f15 od15 an15 sl15 oc15 kV15 dc15 pm15 cd15 ct15)
  (a16:FD K "has_high_middle" yn f16 od16 an16 sl16 oc16 kV16 dc16 pm16 cd16 ct16)
  (a17:FD K "cell_ties" jt f17 od17 an17 sl17 oc17 kV17 dc17 pm17 cd17 ct17)
  (a18:FD K "crossed_ties" yF f18 od18 an18 sl18 oc18 kV18 dc18 pm18 cd18 ct18)
  (a19:FD K "heading" qt f19 od19 an19 sl19 oc19 kV19 dc19 pm19 cd19 ct19)
  (a20:FD K "cell_ahead" yZ f20 od20 an20 sl20 oc20 kV20 dc20 pm20 cd20 ct20)
  (a21:FD K "comes_in" jT f21 od21 an21 sl21 oc21 kV21 dc21 pm21 cd21 ct21)
  (a22:FD K "gate_ahead" y3 f22 od22 an22 sl22 oc22 kV22 dc22 pm22 cd22 ct22)
  (a23:FD K "lines" vW f23 od23 an23 sl23 oc23 kV23 dc23 pm23 cd23 ct23)
  (a24:FD K "line_from" ju f24 od24 an24 sl24 oc24 kV24 dc24 pm24 cd24 ct24)
  (a25:FD K "_law_feed" jU f25 od25 an25 sl25 oc25 kV25 dc25 pm25 cd25 ct25)
  (a26:FD K "_law_draw" jV f26 od26 an26 sl26 oc26 kV26 dc26 pm26 cd26 ct26)
  (a27:FD K "_law_height" y4 f27 od27 an27 sl27 oc27 kV27 dc27 pm27 cd27 ct27)
  (a28:FD K "_law_table" jv f28 od28 an28 sl28 oc28 kV28 dc28 pm28 cd28 ct28)
  (a29:FD K "_law_cut" qu f29 od29 an29 sl29 oc29 kV29 dc29 pm29 cd29 ct29)
  (a31:FD K "_law_gates" jw f31 od31 an31 sl31 oc31 kV31 dc31 pm31 cd31 ct31)
  (a32:FD K "law" vL f32 od32 an32 sl32 oc32 kV32 dc32 pm32 cd32 ct32)
  {ubk:Tok} (uaI:al3 K mainGlobals "FEWEST"=some (some (.int (2) ubk)))
  {ubl:Tok} (uaJ:al3 K mainGlobals "MOST"=some (some (.int (7) ubl)))
  {ubm:Tok} (uaK:al3 K mainGlobals "LEAST"=some (some (.int (-1000000000) ubm)))
  {ubn:Tok} (uaL:al3 K mainGlobals "GREATEST"=some (some (.int (1000000000) ubn)))
  (uaM:al3 K mainGlobals "len"=some none)
  (uaN:al3 K mainGlobals "min"=some none)
  (uaO:al3 K mainGlobals "max"=some none)
  (uaP:al3 K mainGlobals "enumerate"=some none)
  (uaQ:al3 K mainGlobals "range"=some none)
  (uaR:al3 K mainGlobals "all"=some none)
  (uaS:al3 K mainGlobals "sum"=some none)
  (uaT:al3 K mainGlobals "tuple"=some none)
  (uaU:al3 K mainGlobals "set"=some none)
  (uaV:al3 K mainGlobals "sorted"=some none)
  (uaW:al3 K mainGlobals "abs"=some none)
  (uaX:al3 K mainGlobals "isinstance"=some none)
  (uaY:al3 K mainGlobals "list"=some none)
  {uap:Addr} (uaZ:al3 K mainGlobals "AHEAD"=some (some (.ref uap)))
  {uar:Addr} (ua0:al3 K mainGlobals "BEHIND"=some (some (.ref uar)))
  (uaq:afH K uap akq=true)
  (uas:afH K uar ahw=true)
  (kL:anc K (.type "list") (.type "list")=some true) :
  ∃ fd:FuncData,(∀ (s:Shared) (v:Value),BindsTo s fd ⟨[v],[]⟩ [("_law_script",v)])/\∀ base:Heap,K.In base->base.Ns mainGlobals mg->FnOk l.prog w K mg base CX0 10 fa fd pP (ae6 K):=by
 have ubo:Def K mg "size" abN pj:=xf1 X G a1 (fun _ _ _ _ _ _ _=>rfl)
 have ubp:Def K mg "points" vd pj:=xf1 X G a2 (fun _ _ _ _ _ _ _=>rfl)
 have ubq:Def K mg "has_point" jq pq:=xf3 X G a3 (fun _ _ _ _ _ _ _ _ _=>rfl)
 have ubr:Def K mg "has_cell" jR pq:=xf3 X G a4 (fun _ _ _ _ _ _ _ _ _=>rfl)
 have ubs:Def K mg "corners" qr pH:=xf2 X G a5 (fun _ _ _ _ _ _ _ _=>rfl)
 have ubt:Def K mg "ask_table" jr pj:=xf1 X G a6 (fun _ _ _ _ _ _ _=>rfl)
 have ubu:Def K mg "fits" abO pE:=xf1 X G a7 (fun _ _ _ _ _ _ _=>rfl)
 have ubv:Def K mg "is_row" ve ["row"]:=xf1 X G a8 (fun _ _ _ _ _ _ _=>rfl)
 have ubw:Def K mg "gates" vV pA:=xf2 X G a9 (fun _ _ _ _ _ _ _ _=>rfl)
 have ubx:Def K mg "stands_high" yO pF:=xf3 X G a10 (fun _ _ _ _ _ _ _ _ _=>rfl)
 have uby:Def K mg "gate_points" yP ["gate"]:=xf1 X G a11 (fun _ _ _ _ _ _ _=>rfl)
 have ubz:Def K mg "has_gate" jS pI:=xf2 X G a12 (fun _ _ _ _ _ _ _ _=>rfl)
 have ubA:Def K mg "is_open" qs pf:=xf3 X G a13 (fun _ _ _ _ _ _ _ _ _=>rfl)
 have ubB:Def K mg "cell_gates" yX ["cell"]:=xf1 X G a14 (fun _ _ _ _ _ _ _=>rfl)
 have ubC:Def K mg "is_crossed" yY ph:=xf3 X G a15 (fun _ _ _ _ _ _ _ _ _=>rfl)
 have ubD:Def K mg "has_high_middle" yn ph:=xf3 X G a16 (fun _ _ _ _ _ _ _ _ _=>rfl)
 have ubE:Def K mg "cell_ties" jt ph:=xf3 X G a17 (fun _ _ _ _ _ _ _ _ _=>rfl)
 have ubF:Def K mg "crossed_ties" yF ph:=xf3 X G a18 (fun _ _ _ _ _ _ _ _ _=>rfl)
 have ubG:Def K mg "heading" qt pf:=xf3 X G a19 (fun _ _ _ _ _ _ _ _ _=>rfl)
 have ubH:Def K mg "cell_ahead" yZ pf:=xf3 X G a20 (fun _ _ _ _ _ _ _ _ _=>rfl)
 have ubI:Def K mg "comes_in" jT pf:=xf3 X G a21 (fun _ _ _ _ _ _ _ _ _=>rfl)
 have ubJ:Def K mg "gate_ahead" y3 pf:=xf3 X G a22 (fun _ _ _ _ _ _ _ _ _=>rfl)
 have ubK:Def K mg "lines" vW pA:=xf2 X G a23 (fun _ _ _ _ _ _ _ _=>rfl)
 have ubL:Def K mg "line_from" ju pK:=xf3 X G a24 (fun _ _ _ _ _ _ _ _ _=>rfl)
 have ubM:Def K mg "_law_feed" jU pL:=xf2 X G a25 (fun _ _ _ _ _ _ _ _=>rfl)
 have ubN:Def K mg "_law_draw" jV pG:=xf2 X G a26 (fun _ _ _ _ _ _ _ _=>rfl)
 have ubO:Def K mg "_law_height" y4 pJ:=xf3 X G a27 (fun _ _ _ _ _ _ _ _ _=>rfl)
 have ubP:Def K mg "_law_table" jv pM:=xf1 X G a28 (fun _ _ _ _ _ _ _=>rfl)
 have ubQ:Def K mg "_law_cut" qu pN:=xf2 X G a29 (fun _ _ _ _ _ _ _ _=>rfl)
 have ubR:Def K mg "_law_gates" jw pO:=xf2 X G a31 (fun _ _ _ _ _ _ _ _=>rfl)
 have ubS:Def K mg "law" vL pP:=xf1 X G a32 (fun _ _ _ _ _ _ _=>rfl)
 have uaj:=amR X G uaI
 have uak:=amR X G uaJ
 have ual:=amR X G uaK
 have uam:=amR X G uaL
 have uaa:=al6 X G uaM
 have uad:=al6 X G uaN
 have uaf:=al6 X G uaO
 have uav:=al6 X G uaP
 have uab:=al6 X G uaQ
 have uag:=al6 X G uaR
 have uaz:=al6 X G uaS
 have uaE:=al6 X G uaT
 have uaF:=al6 X G uaU
 have uae:=al6 X G uaV
 have uaG:=al6 X G uaW
 have uaH:=al6 X G uaX
 have uai:=al6 X G uaY
 have uaA:=amR X G uaZ
 have uaC:=amR X G ua0
 have e:=hfa.symm.trans (amR X G a32.1)
 cases e
 have F0:=adt (st:=vL) a32.2.1 a32.2.2.1 a32.2.2.2
 refine⟨amx "law" "law" (yL vL) (yl vL) (zi vL) .none kV32 dc32 pm32 an32 cd32 ct32,fun s v=>.of_eq rfl,fun base _ _=>?_⟩
 have H0:=ai0 (P:=l.prog) (w:=w) (base:=base) (k:=0) ubM uaa uaG
 have H1:=aiG (P:=l.prog) (w:=w) (base:=base) (k:=0) ubN
 have H2:=af1 (P:=l.prog) (w:=w) (base:=base) (k:=0) ubR uaa uab
 have H3:=aiF (P:=l.prog) (w:=w) (base:=base) (k:=0) ubu uaa ⟨_,uaj⟩ ⟨_,uak⟩
 have H4:=aiE (P:=l.prog) (w:=w) (base:=base) (k:=0) ubo uaa
 have H5:=akn (P:=l.prog) (w:=w) (base:=base) (k:=0) uby
 have H6:=aiH (P:=l.prog) (w:=w) (base:=base) (k:=0) ubx
 have H7:=afS (P:=l.prog) (w:=w) (base:=base) (k:=0) ubB
 have H8:=adV (P:=l.prog) (w:=w) (base:=base) (k:=0) ubs
 have H9:=afP (k:=1) ubO uad H1.m
 have H10:=ako (k:=1) ubQ uaa H1.m
 have H11:=afO (k:=1) ubv uad uaf ⟨_,ual⟩ ⟨_,uam⟩ H3.m
 have H12:=afQ (k:=1) ubp uab H4.m
 have H13:=akm (k:=1) ubq H4.m
 have H14:=adY (k:=1) ubG H6.m
 have H15:=akp (k:=1) ubD uaz H8.m
 have H16:=ahk (k:=2) ubP uab H1.m H9.m
 have H17:=akl (k:=2) ubt uaa uav H3.m H11.m
 have H18:=aiI (k:=2) ubz uag H13.m H5.m
 have H19:=aiO (k:=2) ubr H13.m
 have H20:=afV (k:=2) ubH uaA uaq H14.m
 have H21:=afT (k:=2) ubF H7.m H6.m H15.m
 have H22:=aiJ (k:=3) ubA H18.m H5.m H6.m
 have H23:=ahy (k:=3) ubI uaC uas H14.m H19.m
 have H24:=ahr (k:=4) ubw H17.m H12.m H22.m
 have H25:=adW (k:=4) ubC uag H22.m H7.m
 have H26:=ahu (k:=5) ubE H25.m H21.m H7.m H22.m
 have H27:=aiT (k:=6) ubJ H20.m H19.m H26.m
 have H28:=aiX (k:=7) ubL uaE H27.m
 have H29:=ahH (k:=8) ubK uaF uae H17.m H24.m H23.m H28.m
 exact akz (k:=9) F0 uaa uab uaf uad uaH uai uae kL H0.m H16.m H10.m H2.m H29.m
theorem walk {l:PySem.W.OpenLaw} {q:Program} {loose:List Str} {XP:(Str->Option Value)->Heap->Prop} {YP:World->Heap->Prop} {d:DefRec} {K:Params->alg} (hn:l.most=some 63) (hdf:d.params.defaults=[])
  (hY:∀ (w:World) (h:Heap),YP w h->(K w.params).In h)
  (F:∀ (w:World) (mg:Str->Option Value) (fa:Addr) (h:Heap),(K w.params).In h->h.Ns mainGlobals mg->mg d.name=some (.ref fa) ->
   ∃ fd:FuncData,(∀ (s:Shared) (u:Value),BindsTo s fd ⟨[u],[]⟩ [("_law_script",u)])/\∀ base:Heap,(K w.params).In base->base.Ns mainGlobals mg->FnOk l.prog w (K w.params) mg base CX0 10 fa fd pP (ae6 (K w.params))) :
  PySem.W.WalkO q loose XP YP l.row.toRowW d [] (fun f vs=>PySem.call f vs) :=
 L2.walk_of (n:=63) (k:=10) (x:="_law_script") (CX:=fun _=>CX0) (sp:=fun w=>ae6 (K w.params)) hn (by decide) hdf ⟨rfl,by decide,by decide⟩ hY F (fun _ _ a ns hl _ hS=>⟨a,ns,rfl,hS,hl,fun _=>rfl⟩) fun _ _ _ _ _ z=>z
end My
noncomputable def PySem.W.Fast.tw10035181038069694937:Nat:=0
noncomputable def PySem.W.Fast.tw10285177052372675631:Nat:=0
noncomputable def PySem.W.Fast.tw10350244331984001579:Nat:=0
noncomputable def PySem.W.Fast.tw10646611717867876939:Nat:=0
noncomputable def PySem.W.Fast.tw10709982281880300634:Nat:=0
noncomputable def PySem.W.Fast.tw10735242321142668062:Nat:=0
noncomputable def PySem.W.Fast.tw10752724308670080059:Nat:=0
noncomputable def PySem.W.Fast.tw11122449202269134304:Nat:=0
noncomputable def PySem.W.Fast.tw11422432513976113547:Nat:=0
noncomputable def PySem.W.Fast.tw11992304432288609785:Nat:=0
noncomputable def PySem.W.Fast.tw12004291231516840667:Nat:=0
noncomputable def PySem.W.Fast.tw12136206680222478134:Nat:=0
noncomputable def PySem.W.Fast.tw12309872523792826683:Nat:=0
noncomputable def PySem.W.Fast.tw12337064773371556861:Nat:=0
noncomputable def PySem.W.Fast.tw12340544334476545928:Nat:=0
noncomputable def PySem.W.Fast.tw12574378861960650506:Nat:=0
noncomputable def PySem.W.Fast.tw12580620666950658309:Nat:=0
noncomputable def PySem.W.Fast.tw12605774370125214339:Nat:=0
noncomputable def PySem.W.Fast.tw12672583053332561990:Nat:=0
noncomputable def PySem.W.Fast.tw12702724950563096832:Nat:=0
noncomputable def PySem.W.Fast.tw1315728220926056208:Nat:=0
noncomputable def PySem.W.Fast.tw13195552642108442120:Nat:=0
noncomputable def PySem.W.Fast.tw13201860064153712067:Nat:=0
noncomputable def PySem.W.Fast.tw13260522407192418899:Nat:=0
noncomputable def PySem.W.Fast.tw14341249518003275673:Nat:=0
noncomputable def PySem.W.Fast.tw14348295560136233748:Nat:=0
noncomputable def PySem.W.Fast.tw14471292464201120680:Nat:=0
noncomputable def PySem.W.Fast.tw14570657024087337160:Nat:=0
noncomputable def PySem.W.Fast.tw14650432982318690073:Nat:=0
noncomputable def PySem.W.Fast.tw14874471098954603143:Nat:=0
noncomputable def PySem.W.Fast.tw14918863801761763510:Nat:=0
noncomputable def PySem.W.Fast.tw14973191938203153622:Nat:=0
noncomputable def PySem.W.Fast.tw1506161008913872343:Nat:=0
noncomputable def PySem.W.Fast.tw15176303302849169380:Nat:=0
noncomputable def PySem.W.Fast.tw15527634379058722754:Nat:=0
noncomputable def PySem.W.Fast.tw15541531713071215014:Nat:=0
noncomputable def PySem.W.Fast.tw15629951939088096362:Nat:=0
noncomputable def PySem.W.Fast.tw16206709589092795158:Nat:=0
noncomputable def PySem.W.Fast.tw16242662395120175753:Nat:=0
noncomputable def PySem.W.Fast.tw16836933498658113363:Nat:=0
noncomputable def PySem.W.Fast.tw16899429367397976072:Nat:=0
noncomputable def PySem.W.Fast.tw17274167256091008692:Nat:=0
noncomputable def PySem.W.Fast.tw17514144191551934125:Nat:=0
noncomputable def PySem.W.Fast.tw17637893634038528995:Nat:=0
noncomputable def PySem.W.Fast.tw1774061926895450830:Nat:=0
noncomputable def PySem.W.Fast.tw17859687665980911697:Nat:=0
noncomputable def PySem.W.Fast.tw18223567508673417261:Nat:=0
noncomputable def PySem.W.Fast.tw2184509433848331556:Nat:=0
noncomputable def PySem.W.Fast.tw2431227087665620091:Nat:=0
noncomputable def PySem.W.Fast.tw292147381738016573:Nat:=0
noncomputable def PySem.W.Fast.tw2935393183889267780:Nat:=0
noncomputable def PySem.W.Fast.tw2974287091749477242:Nat:=0
noncomputable def PySem.W.Fast.tw3153967391981435558:Nat:=0
noncomputable def PySem.W.Fast.tw3179753525701090578:Nat:=0
noncomputable def PySem.W.Fast.tw3433169808961692026:Nat:=0
noncomputable def PySem.W.Fast.tw3517082193134382392:Nat:=0
noncomputable def PySem.W.Fast.tw3649399123620376301:Nat:=0
noncomputable def PySem.W.Fast.tw3687856418973850990:Nat:=0
noncomputable def PySem.W.Fast.tw3771128303397670954:Nat:=0
noncomputable def PySem.W.Fast.tw3880913631664067333:Nat:=0
noncomputable def PySem.W.Fast.tw3943612477312076835:Nat:=0
noncomputable def PySem.W.Fast.tw399740527316561906:Nat:=0
noncomputable def PySem.W.Fast.tw4054202799551932376:Nat:=0
noncomputable def PySem.W.Fast.tw4301167492639928857:Nat:=0
noncomputable def PySem.W.Fast.tw434743474628363256:Nat:=0
noncomputable def PySem.W.Fast.tw4375833055857975509:Nat:=0
noncomputable def PySem.W.Fast.tw463801841794332096:Nat:=0
noncomputable def PySem.W.Fast.tw5083012157468518337:Nat:=0
noncomputable def PySem.W.Fast.tw5528401664407127674:Nat:=0
noncomputable def PySem.W.Fast.tw5938876924730034056:Nat:=0
noncomputable def PySem.W.Fast.tw6023903718012845554:Nat:=0
noncomputable def PySem.W.Fast.tw6213876189395386061:Nat:=0
noncomputable def PySem.W.Fast.tw6597726048454964400:Nat:=0
noncomputable def PySem.W.Fast.tw6663657451782118907:Nat:=0
noncomputable def PySem.W.Fast.tw708828621101656169:Nat:=0
noncomputable def PySem.W.Fast.tw7194352825018972483:Nat:=0
noncomputable def PySem.W.Fast.tw7195278479290199161:Nat:=0
noncomputable def PySem.W.Fast.tw7608505741466861213:Nat:=0
noncomputable def PySem.W.Fast.tw7954614691240819625:Nat:=0
noncomputable def PySem.W.Fast.tw8375955692014970800:Nat:=0
noncomputable def PySem.W.Fast.tw8762649821395457479:Nat:=0
noncomputable def PySem.W.Fast.tw8788092984541294811:Nat:=0
noncomputable def PySem.W.Fast.tw8892592986300207892:Nat:=0
noncomputable def PySem.W.Fast.tw8892703277910410612:Nat:=0
noncomputable def PySem.W.Fast.tw8898156916845415023:Nat:=0
noncomputable def PySem.W.Fast.tw8929597567262523185:Nat:=0
noncomputable def PySem.W.Fast.tw9351799278996577540:Nat:=0
noncomputable def PySem.W.Fast.tw9457638031057317642:Nat:=0
noncomputable def PySem.W.Fast.tw9689481906277108402:Nat:=0
noncomputable def PySem.W.Fast.tw9815428458087941092:Nat:=0
noncomputable def PySem.W.Fast.tw989471816686147222:Nat:=0
open PySem PySem.W PyProof.Rows
set_option maxRecDepth 100000 in
set_option maxHeartbeats 0 in
theorem PySem.Challenge.cw_heightrings_k11_whole_each_gate_once_holds : PySem.Challenge.rw_heightrings_k11_whole_each_gate_once.Holds := by
 w_on;o_law;k_head;(case hw=>w_witness2)
 k_fill
 refine My.walk (l:=PySem.Challenge.rw_heightrings_k11_whole_each_gate_once) rfl rfl (fun w h Y=>by first | exact PySem.W.kIn_of Y | exact PySem.W.km_in_of Y) ?F
 case F =>
  intro w mg fa h KX G hmg
  refine' My.all_mk KX G hmg ?a1 ?a2 ?a3 ?a4 ?a5 ?a6 ?a7 ?a8 ?a9 ?a10 ?a11 ?a12 ?a13 ?a14 ?a15 ?a16 ?a17 ?a18 ?a19 ?a20 ?a21 ?a22 ?a23 ?a24 ?a25 ?a26 ?a27 ?a28 ?a29 ?a31 ?a32 ?uaI ?uaJ ?uaK ?uaL ?uaM ?uaN ?uaO ?uaP ?uaQ ?uaR ?uaS ?uaT ?uaU ?uaV ?uaW ?uaX ?uaY ?uaZ ?ua0 ?uaq ?uas ?kL
  (case a1=>refine⟨?_,?_,?_,?_⟩ <;> k_is)
  (case a2=>refine⟨?_,?_,?_,?_⟩ <;> k_is)
  (case a3=>refine⟨?_,?_,?_,?_⟩ <;> k_is)
  (case a4=>refine⟨?_,?_,?_,?_⟩ <;> k_is)
  (case a5=>refine⟨?_,?_,?_,?_⟩ <;> k_is)
  (case a6=>refine⟨?_,?_,?_,?_⟩ <;> k_is)
  (case a7=>refine⟨?_,?_,?_,?_⟩ <;> k_is)
  (case a8=>refine⟨?_,?_,?_,?_⟩ <;> k_is)
  (case a9=>refine⟨?_,?_,?_,?_⟩ <;> k_is)
  (case a10=>refine⟨?_,?_,?_,?_⟩ <;> k_is)
  (case a11=>refine⟨?_,?_,?_,?_⟩ <;> k_is)
  (case a12=>refine⟨?_,?_,?_,?_⟩ <;> k_is)
  (case a13=>refine⟨?_,?_,?_,?_⟩ <;> k_is)
  (case a14=>refine⟨?_,?_,?_,?_⟩ <;> k_is)
  (case a15=>refine⟨?_,?_,?_,?_⟩ <;> k_is)
  (case a16=>refine⟨?_,?_,?_,?_⟩ <;> k_is)
  (case a17=>refine⟨?_,?_,?_,?_⟩ <;> k_is)
  (case a18=>refine⟨?_,?_,?_,?_⟩ <;> k_is)
  (case a19=>refine⟨?_,?_,?_,?_⟩ <;> k_is)
  (case a20=>refine⟨?_,?_,?_,?_⟩ <;> k_is)
  (case a21=>refine⟨?_,?_,?_,?_⟩ <;> k_is)
  (case a22=>refine⟨?_,?_,?_,?_⟩ <;> k_is)
  (case a23=>refine⟨?_,?_,?_,?_⟩ <;> k_is)
  (case a24=>refine⟨?_,?_,?_,?_⟩ <;> k_is)
  (case a25=>refine⟨?_,?_,?_,?_⟩ <;> k_is)
  (case a26=>refine⟨?_,?_,?_,?_⟩ <;> k_is)
  (case a27=>refine⟨?_,?_,?_,?_⟩ <;> k_is)
  (case a28=>refine⟨?_,?_,?_,?_⟩ <;> k_is)
  (case a29=>refine⟨?_,?_,?_,?_⟩ <;> k_is)
  (case a31=>refine⟨?_,?_,?_,?_⟩ <;> k_is)
  (case a32=>refine⟨?_,?_,?_,?_⟩ <;> k_is)
  (case uaI=>k_is)
  (case uaJ=>k_is)
  (case uaK=>k_is)
  (case uaL=>k_is)
  (case uaM=>k_is)
  (case uaN=>k_is)
  (case uaO=>k_is)
  (case uaP=>k_is)
  (case uaQ=>k_is)
  (case uaR=>k_is)
  (case uaS=>k_is)
  (case uaT=>k_is)
  (case uaU=>k_is)
  (case uaV=>k_is)
  (case uaW=>k_is)
  (case uaX=>k_is)
  (case uaY=>k_is)
  (case uaZ=>k_is)
  (case ua0=>k_is)
  (case uaq=>kernel_rfl)
  (case uas=>kernel_rfl)
  (case kL=>kernel_rfl)
end
