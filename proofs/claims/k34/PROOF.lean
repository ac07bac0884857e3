import PyProof.Rows.All
import Wide.All
import OpenK.AllK
import Wide.FinOn
import Lean
import PyProof.EqAt
import PyProof.EqKinds
import PyProof.TupleCall
import KE.KTryMore
import PyProof.ExcArgs
import PyProof.ConsumeWalk
import PyProof.P3Eq
import KE.KRevIter
import PyProof.ListRange
import PyProof.Rows.SumAny
import KE.KSortTup
import PyProof.SetScanFacts
import PyProof.TupleKey
import PyProof.DictRoadsH
import PyProof.SetRoads
import KE.KTabLook
import PyProof.Rows.ListMul
import PyProof.InstStoreFacts
import PyProof.Rows.SetFrom
import PyProof.AutoListH
import PyProof.StrCalls2
import PyProof.MeetsSeq
import PySem.Challenge.RW_heightrings_k34_areas_in_one_cell
open List renaming getElem?_eq_getElem → aph,length_map → api,mem_cons_of_mem → apl,getElem?_eq_some_iff → apm,getD_eq_getElem?_getD → apn,mem_cons_self → apo,mem_cons → apq,getElem?_map → apt,mem_of_getElem? → apv,getElem?_append_left → apx,mem_append_right → apy,getElem?_append_right → apz,length_append → apA,mem_singleton → apB,mem_append → apC,size_toArray → apH,mem_map → apJ,range → apK,length_cons → apL,mem_append_left → apN,map_append → apQ,getElem?_eq_none → apR,getElem_mem → apS,map_cons → apT,mem_range → apV,length_take → apX,append_nil → apY,not_mem_nil → ap0,map_map → ap1,length_singleton → ap3,getElem?_set_self → ap7,mem_filter → ap9,length_range → aqa,replicate → aqb,lookup_cons → aqg,take_add_one → aqh,getElem?_set_ne → aqi,take_length → aqk,map_congr_left → aql,length_filter_le → aqm,nodup_cons → aqq,toArray → aqr,mem_flatMap → aqs,append_assoc → aqu,length_set → aqy,pairwise_cons → aqA,mem_of_mem_take → aqC,nodup_append → aqF,getElem?_range → aqJ,forIn_cons → aqK,find?_cons → aqL,mem_reverse → aqO,filter_cons → aqP,forIn_nil → aqT,nodup_nil → aqU,reverse_cons → aqW,pairwise_map → aqX,getElem_of_mem → aq0,flatMap_append → aq1,ext_getElem? → ari,getElem?_take_of_lt → arj,reverse_append → arn,getElem?_replicate → arq,length_drop → ars,take_of_length_le → arx,zip_cons_cons → arz,length_nil → arC,range_succ → arD,dropLast_concat_getLast → arF,map_take → arI,length_replicate → arJ,flatMap_cons → arM,reverse_reverse → arN,all_eq_true → arO,pairwise_iff_getElem → arR,filterMap_cons → arU,length_pos_iff → arV,of_mem_zip → ar1,getElem?_cons_zero → ar4,length_eq_zero_iff → ar5,take_zero → asb,getElem_inj → ase,map_drop → asi,pairwise_append → asm,mem_filterMap → asx,map → asA,filter_append → asE,foldl_append → asI,all_cons → asK,any_cons → asL,nodup_range → asT,flatMap_nil → asW,pairwise_lt_range → as1,foldl_cons → as7,filter_nil → as9,take_append_drop → atb,getElem?_zipWith → atc,getElem?_mapIdx → atj,getElem?_of_mem → atn,length_reverse → atr,replicate_succ → ats,filter_flatMap → att,map_eq_nil_iff → atu,map_nil → aty,any_map → atA,getD → atH
open PySem.W renaming Frag → apj,mg_none_of → ap6,nsIn → aqc,keepIn → aqo,fnOf → aqx,findIn → arp,cellsFrom_some → aru,mg_of → arH,codeIn → asy,methodObj → asF,specialIn → asG,Frag → as6
open Bool renaming false_ne_true → apk,and_eq_true → apu,false_eq_true → apZ,not_true → aqv,false_and → aro,true_and → ar0,and_false → asz,not_false → asB,and_true → asS
open Nat renaming le_refl → apr,lt_of_lt_of_le → apF,le_trans → apO,ne_of_lt → apU,le_of_ble_eq_true → apW,zero_le → ap2,pow_lt_pow_right → ap8,pow_le_pow_right → aqe,le_of_lt → aqj,mul_le_mul → aqp,lt_of_le_of_lt → aqN,lt_succ_of_lt → aqV,not_lt_zero → aqZ,ne_of_gt → aq3,sub_self → aq4,lt_trans → aq6,le_of_eq → arw,lt_irrefl → arG,le_of_succ_le → ar7,lt_succ_of_le → ar8,gcd → asj,lt_succ_iff → aso,pow_succ → asv,pow_add → asJ,add_assoc → asO,succ_pos → asY,zero_add → as0,not_lt → atw,mod_lt → atx,sub_zero → atz,add_comm → atB,mul_succ → atE,mul_zero → atG,log2_lt → atJ,one_mul → atL,mul_one → atO,mul_pos → atP
open PySem.Heap renaming get?_push_of_some → aps,lt_size → apw,get?_push_size → apI,size_push → aqS,SameBut → aq2,get?_update_self → ara,get?_update_other → arv,IsList → atM
open Array renaming length_toList → apD,getD_eq_getD_getElem? → aq5,getElem?_toList → arb,getElem?_eq_getElem → arf,getD → ary,forIn_toList → ar3,getElem?_eq_none → ar9,replicate → asq,toList_inj → asU,size_map → atk,mem_toList_iff → atl
open PySem.PyData renaming depthAll → apE,eqv → apP,eqvAll → asN,depth → atD
open Rat renaming divInt → apG,divInt_eq_div → apM,intCast_mul → ap5,num_divInt_den → arA,add_zero → arB,intCast_add → arE,intCast_sub → asu,intCast_eq_zero_iff → asX,le_iff → as4,zero_add → as5,zero_mul → atF
open PySem.PassesOwn renaming never → ap4
open Classical renaming byContradiction → aqd,propDecidable → aqn
open Int renaming natAbs_natCast → aqf,gcd → aqz,eq_ofNat_of_zero_le → aqD,sign_eq_neg_one_of_neg → aqG,sign_eq_one_of_pos → aqH,emod_lt_of_pos → aq7,natAbs_mul → aq9,toNat_natCast → arL,lt_trichotomy → asa,mul_pos → asn,emod_nonneg → asp,gcd_pos_of_ne_zero_right → asr,one_mul → asH,mul_ediv_cancel_left → asR,le_of_lt → asZ,mul_ne_zero → as8,natCast_mul → ata,mul_nonneg → atp
open PySem.Builtin.SmallTypes renaming nextOf → aqt,ownedTupleIsFree → aqw,ownedTupleHandOut → arX
open PySem.F renaming plainAttrs_list → aqB,slot_list_append → aqQ,type_list_append → aqR,slot_tuple_hash → aqY,slot_dict_keyiterator_next → aq8,slot_set_contains → arT,slot_zip_next → ass,slot_dict_iter → as3,args_list_append_2 → ath,slot_set_add → atm,entry_list_append → atq
open PyProof.Rows renaming callWith_type1 → aqE,boot_abs → aqM,boot_all → ate,boot_sum → atf
open PySem renaming boot_len → aqI,mem_of_lookup → ark
open PySem.Builtin.Tuple renaming tupleHashOf → ard
open Ne renaming symm → arh
open PySem.Heap.SameBut renaming update → arl
open False renaming elim → art
open PySem.Builtin.Int renaming intBits → arW,intTooBig → atd
open Option renaming isSome_iff_exists → arY,getD_some → ash
open PySem.SetTable renaming toList_insertAt → arZ,sizeAbove → asD,fill → atv
open PySem.Obj renaming mapSeq → ar2,putSet → as2
open PySem.Calls renaming callWith_builtin → ar6,Name_function_global → asw,evalArgs_plain → atg
open PySem.SeqAt.ReadsAll renaming length → asd
open PySem.Builtin.Frozenset renaming oneOther → asC,addrOf → asP
open PyProof renaming noPylong_of_log2 → asM
open PySem.Builtin.List renaming listTooLong → asQ
open PySem.Heap.IsList renaming push → asV
open List.Pairwise renaming of_map → ato
open PySem.Shared renaming heap → atN
set_option Elab.async false
set_option linter.all false
set_option maxRecDepth 100000
set_option maxHeartbeats 4000000
section
namespace L2
open PySem PySem.Spec PyProof.Rows
noncomputable abbrev Key:=Sum Int Str
noncomputable def alv:Key->Value->Bool
 | .inl k,v=>Value.isInt k v
 | .inr x,v=>Value.isStrOf x v
noncomputable def ao3 (w:World):Key->Int
 | .inl k=>hashInt k
 | .inr x=>hashStr w x
theorem yv:∀ {k:Key} {v:Value},alv k v=true->(∃ i t,k=Sum.inl i/\v=Value.int i t) \/ (∃ x t,k=Sum.inr x/\v=Value.str x t)
 | .inl i,v,h=>by
  obtain⟨t,e⟩:=Value.isInt_shape (k:=i) (v:=v) h
  exact .inl ⟨i,t,rfl,e⟩
 | .inr x,v,h=>by
  obtain⟨t,e⟩:=Value.isStrOf_shape (x:=x) (v:=v) h
  exact .inr ⟨x,t,rfl,e⟩
theorem al3 (a b:Int):decide ((Sum.inl a:Key)=Sum.inl b)=(a == b):=by
 by_cases e:a=b
 ·subst e;simp
 ·have h:¬ (Sum.inl a:Key)=Sum.inl b:=fun q=>e (Sum.inl.inj q)
  rw [decide_eq_false h]
  exact (beq_eq_false_iff_ne.mpr e).symm
theorem al4 (a b:Str):decide ((Sum.inr a:Key)=Sum.inr b)=decide (a=b):=by
 by_cases e:a=b
 ·subst e;simp
 ·have h:¬ (Sum.inr a:Key)=Sum.inr b:=fun q=>e (Sum.inr.inj q)
  rw [decide_eq_false h,decide_eq_false e]
theorem al5 (a:Int) (b:Str):decide ((Sum.inl a:Key)=Sum.inr b)=false:=decide_eq_false (fun q=>nomatch q)
theorem al6 (a:Str) (b:Int):decide ((Sum.inr a:Key)=Sum.inl b)=false:=decide_eq_false (fun q=>nomatch q)
noncomputable def acD (prog:Program) (w:World):PySem.KeyKind prog w Key where
 is:=alv
 hash:=ao3 w
 inj:=fun v a b ha hb=>by
  rcases yv ha with⟨i,t,rfl,rfl⟩ | ⟨x,t,rfl,rfl⟩
  ·rcases yv hb with⟨j,u,rfl,e⟩ | ⟨y,u,rfl,e⟩
   ·injection e with e1 _;rw [e1]
   ·exact nomatch e
  ·rcases yv hb with⟨j,u,rfl,e⟩ | ⟨y,u,rfl,e⟩
   ·exact nomatch e
   ·injection e with e1 _;rw [e1]
 byValue:=fun k v h=>by
  rcases yv h with⟨i,t,rfl,rfl⟩ | ⟨x,t,rfl,rfl⟩ <;> rfl
 pyHash:=fun hv h=>by
  rcases yv hv with⟨i,t,rfl,rfl⟩ | ⟨x,t,rfl,rfl⟩
  ·exact wpAny_pyHash_int h
  ·exact wpAny_pyHash_str h
 eqBool:=fun hu hv h=>by
  rcases yv hu with⟨i,t,rfl,rfl⟩ | ⟨x,t,rfl,rfl⟩
  ·rcases yv hv with⟨j,u,rfl,rfl⟩ | ⟨y,u,rfl,rfl⟩
   ·rw [al3] at h;exact wpAny_eqBool_int h
   ·rw [al5] at h;exact SeqAt.EqAt.int_str i t y u _ _ _ _ h
  ·rcases yv hv with⟨j,u,rfl,rfl⟩ | ⟨y,u,rfl,rfl⟩
   ·rw [al6] at h;exact SeqAt.EqAt.str_int x t j u _ _ _ _ h
   ·rw [al4] at h;exact wpAny_eqBool_str h
 «strs»:=fun k x t v h=>by
  rcases yv h with⟨i,u,rfl,e⟩ | ⟨y,u,rfl,e⟩
  ·exact nomatch e
  ·injection e with e1 _
   subst e1
   cases v <;> rfl
inductive V where
 | non | bl (b:Bool) | int (i:Int) | str (x:Str) | byt (b:Array UInt8) | flt (b:UInt64) | ref (a:Addr) | ty (n:String)
 deriving DecidableEq
noncomputable def RelV:V->Value->Prop
 | .non,u=>u=Value.none
 | .bl b,u=>u=Value.bool b
 | .int i,u=>∃ t,u=Value.int i t
 | .str x,u=>∃ t,u=Value.str x t
 | .byt b,u=>∃ t,u=Value.bytes b t
 | .flt b,u=>∃ t,u=Value.float b t
 | .ref a,u=>u=Value.ref a
 | .ty n,u=>u=Value.type n
noncomputable abbrev Vals:List V->List Value->Prop:=Paired RelV
theorem Vals.length {xs:List V} {us:List Value} (r:Vals xs us):xs.length=us.length:=Paired.length r
theorem Vals.get:∀ {xs:List V} {us:List Value} {i:Nat} {x:V},Vals xs us->xs[i]?=some x->∃ u,us[i]?=some u/\RelV x u
 | _,_,_,_,.nil,e=>by simp at e
 | _,_,0,_,.cons r _,e=>by simp at e;subst e;exact⟨_,rfl,r⟩
 | _,_,i+1,x,.cons _ t,e=>by
  obtain⟨u,h1,h2⟩:=Vals.get (i:=i) (x:=x) t (by simpa using e)
  exact⟨u,by simpa using h1,h2⟩
theorem Vals.set {x:V} {u:Value} (r:RelV x u):∀ {xs:List V} {us:List Value} (i:Nat),Vals xs us->Vals (xs.set i x) (us.set i u)
 | _,_,_,.nil=>.nil
 | _,_,0,.cons _ t=>.cons r t
 | _,_,i+1,.cons q t=>.cons q (Vals.set r i t)
theorem Vals.append:∀ {xs ys:List V} {us ws:List Value},Vals xs us->Vals ys ws->Vals (xs++ys) (us++ws)
 | _,_,_,_,.nil,s=>s
 | _,_,_,_,.cons r t,s=>.cons r (Vals.append t s)
theorem Vals.take:∀ {xs:List V} {us:List Value} (n:Nat),Vals xs us->Vals (xs.take n) (us.take n)
 | _,_,0,_=>.nil
 | _,_,_+1,.nil=>.nil
 | _,_,n+1,.cons r t=>.cons r (Vals.take n t)
theorem Vals.drop:∀ {xs:List V} {us:List Value} (n:Nat),Vals xs us->Vals (xs.drop n) (us.drop n)
 | _,_,0,r=>r
 | _,_,_+1,.nil=>.nil
 | _,_,n+1,.cons _ t=>Vals.drop n t
noncomputable def anL:Option V->Option Value->Prop
 | some v,some u=>RelV v u
 | none,none=>True
 | _,_=>False
noncomputable def KV {κ:Type}:List (κ×V)->List (κ×Value)->Prop:=Paired fun (p:κ×V) (q:κ×Value)=>p.1=q.1/\RelV p.2 q.2
noncomputable def kV:Key->V
 | .inl i=>.int i
 | .inr x=>.str x
inductive HO where
  | lst (xs:List V)
  | tup (xs:List V)
  | dK (kvs:List (Key×V)) | dT (kvs:List (List Key×V))
  | set (S:Int->Bool) (n:Nat)
  | ins (C dx:Addr) (fs:List (Str×V))
  | own (x:Addr)
  | xd (fs:List (Str×V))
  | met (f x:Addr)
  | rng (lo hi:Int)
  | frz (o:Obj) (u:HO)
  | tbl (ps:Array Value)
  | ext (φ:Heap->Prop)
noncomputable abbrev Hp:=Addr->Option HO
noncomputable def upd (H:Hp) (a:Addr) (o:HO):Hp:=fun b=>if b=a then some o else H b
theorem zw {H:Hp} {a:Addr} {o:HO}:upd H a o a=some o:=by unfold upd;rw [if_pos rfl]
theorem zv {H:Hp} {a b:Addr} {o:HO} (h:b≠a):upd H a o b=H b:=by unfold upd;rw [if_neg h]
theorem ajY {H:Hp} {a:Addr} {o u:HO}:upd (upd H a o) a u=upd H a u:=by
 funext b;unfold upd;split <;> rfl
theorem vm {H:Hp} {a b:Addr} {o u:HO} (h:H a=some o) (h':H b=some u) (d:o≠u):a≠b:=by
 intro e;subst e;rw [h] at h';exact d (Option.some.inj h')
theorem zJ {H:Hp} {a b:Addr} {o:HO} (h:H a=some o) (h':H b=none):a≠b:=by
 intro e;subst e;rw [h] at h';cases h'
section
variable (P:Program) (w:World)
noncomputable def ObjOk (H:Hp) (h:Heap) (a:Addr):HO->Prop
 | .lst xs=>xs.length<=sizeLine/\∃ (its:List Value) (n:Nat),Vals xs its/\h.get? a=some { cls:=.type "list",data:=.seq its.toArray n }
 | .tup xs=>xs.length<=sizeLine/\∃ its:List Value,Vals xs its/\IsTup h a its.toArray
 | .dK kvs=>kvs.length<=sizeLine/\(a == sysModules)=false/\∃ vs,KV kvs vs/\h.DictOf (acD P w) a vs
 | .dT kvs=>kvs.length<=sizeLine/\(a == sysModules)=false/\∃ xs:List (List Key×Addr×Value),
   Paired (fun (p:List Key×V) (q:List Key×Addr×Value)=>p.1=q.1/\H q.2.1=some (.tup (p.1.map kV))/\RelV p.2 q.2.2) kvs xs /\
   ∃ o es ep,h.get? a=some o/\o.ExactDict/\o.data=.dict es ep/\es.toList=xs.map (entryOfKey (tupleKind (acD P w)))/\(xs.map (·.1)).Nodup
 | .set S n=>h.SetOf (intKind P w) a S n
 | .ins C dx fs=>H dx=some (.own a)/\fs.length<=1000/\dx≠a/\h.get? a=some (PySem.W.instObj C dx) /\
   ∃ mA,h.Ns1 dx mA/\(∀ f,anL (fs.lookup f) (mA f))/\PySem.Within mA (fs.map (·.1))
 | .own _=>∃ o,h.get? a=some o
 | .xd fs=>∃ mA,h.Ns1 a mA/\∀ f,anL (fs.lookup f) (mA f)
 | .rng lo hi=>∃ t u v,h.get? a=some { cls:=.type "range",data:=.fields #[.int lo t,.int hi u,.int 1 v] }
 | .frz o u=>h.get? a=some o/\ObjOk H h a u
 | .tbl ps=>h.get? a=some { cls:=.none,data:=.fields ps }
 | .met f x=>h.get? a=some (asF (.ref f) (.ref x))
 | .ext φ=>φ h/\(∃ o,h.get? a=some o)/\∀ h1 h2:Heap,φ h1->(∀ o,h1.get? a=some o->h2.get? a=some o)->φ h2
noncomputable def HOk (H:Hp) (h:Heap):Prop:=∀ a o,H a=some o->ObjOk P w H h a o
end
section
variable {P:Program} {w:World} {H H':Hp} {h h':Heap} {a:Addr} {o:HO}
theorem ObjOk.lt (x:ObjOk P w H h a o):a<h.objs.size:=by
 cases o with
 | lst xs=>obtain⟨_,_,_,_,e⟩:=x;exact apw e
 | tup xs=>obtain⟨_,_,_,p⟩:=x;exact p.lt
 | dK kvs=>obtain⟨_,_,_,_,o,_,_,e,_⟩:=x;exact apw e
 | dT kvs=>obtain⟨_,_,_,_,o,_,_,e,_⟩:=x;exact apw e
 | set S n=>obtain⟨o,_,_,_,e,_⟩:=x;exact apw e
 | ins C dx fs=>obtain⟨_,_,_,e,_⟩:=x;exact apw e
 | own y=>obtain⟨_,e⟩:=x;exact apw e
 | xd fs=>obtain⟨_,⟨_,_,_,e,_⟩,_⟩:=x;exact apw e
 | rng lo hi=>obtain⟨_,_,_,e⟩:=x;exact apw e
 | frz ob u=>obtain⟨e,_⟩:=x;exact apw e
 | tbl ps=>exact apw (show h.get? a=some _ from x)
 | met f y=>exact apw (show h.get? a=some _ from x)
 | ext φ=>obtain⟨_,⟨_,e⟩,_⟩:=x;exact apw e
theorem Paired.mapP {α β:Type} {F G:α->β->Prop}:∀ {l₁:List α} {l₂:List β},Paired F l₁ l₂->(∀ a b,F a b->G a b)->Paired G l₁ l₂
 | _,_,.nil,_=>.nil
 | _,_,.cons r t,f=>.cons (f _ _ r) (Paired.mapP t f)
theorem ObjOk.stay (x:ObjOk P w H h a o) (k:∀ b u,(b=a \/ H b=some (.own a))->h.get? b=some u->h'.get? b=some u)
  (ho:∀ b,H b=some (.own a)->H' b=some (.own a)) (ht:∀ b xs,H b=some (.tup xs)->H' b=some (.tup xs)):ObjOk P w H' h' a o:=by
 induction o with
 | lst xs=>obtain⟨z,its,n,r,e⟩:=x;exact⟨z,its,n,r,k _ _ (.inl rfl) e⟩
 | tup xs=>obtain⟨z,its,r,ob,e,c⟩:=x;exact⟨z,its,r,ob,k _ _ (.inl rfl) e,c⟩
 | dK kvs=>obtain⟨z,y,vs,r,ob,es,ep,e,c⟩:=x;exact⟨z,y,vs,r,ob,es,ep,k _ _ (.inl rfl) e,c⟩
 | dT kvs =>
  obtain⟨z,y,xs,r,ob,es,ep,e,c⟩:=x
  exact⟨z,y,xs,Paired.mapP r fun p q z=>⟨z.1,ht _ _ z.2.1,z.2.2⟩,ob,es,ep,k _ _ (.inl rfl) e,c⟩
 | set S n=>obtain⟨ob,es,ep,t,e,c⟩:=x;exact⟨ob,es,ep,t,k _ _ (.inl rfl) e,c⟩
 | ins C dx fs =>
  obtain⟨d,z,ne,e,mA,⟨od,es,ep,e2,c⟩,r⟩:=x
  exact⟨ho _ d,z,ne,k _ _ (.inl rfl) e,mA,⟨od,es,ep,k _ _ (.inr d) e2,c⟩,r⟩
 | own y=>obtain⟨ob,e⟩:=x;exact⟨ob,k _ _ (.inl rfl) e⟩
 | xd fs=>obtain⟨mA,⟨od,es,ep,e,c⟩,r⟩:=x;exact⟨mA,⟨od,es,ep,k _ _ (.inl rfl) e,c⟩,r⟩
 | rng lo hi=>obtain⟨t,u,v,e⟩:=x;exact⟨t,u,v,k _ _ (.inl rfl) e⟩
 | frz ob u ih=>obtain⟨e,q⟩:=x;exact⟨k _ _ (.inl rfl) e,ih q⟩
 | tbl ps =>
  have e:h.get? a=some { cls:=.none,data:=.fields ps }:=x
  show h'.get? a=some { cls:=.none,data:=.fields ps }
  exact k a _ (.inl rfl) e
 | met f y =>
  have e:h.get? a=some (asF (.ref f) (.ref y)):=x
  show h'.get? a=some (asF (.ref f) (.ref y))
  exact k a _ (.inl rfl) e
 | ext φ=>obtain⟨p,⟨o,e⟩,st⟩:=x;exact⟨st _ _ p fun o q=>k _ _ (.inl rfl) q,⟨o,k _ _ (.inl rfl) e⟩,st⟩
theorem HOk.lt (x:HOk P w H h) (e:H a=some o):a<h.objs.size:=(x a o e).lt
theorem HOk.fresh (x:HOk P w H h) (e:h.objs.size<=a):H a=none:=by
 cases q:H a with
 | none=>rfl
 | some u=>exact absurd (apF (x.lt q) e) (arG _)
theorem HOk.kept (x:HOk P w H h) (k:∀ b u,h.get? b=some u->h'.get? b=some u):HOk P w H h':=fun a o e =>
 (x a o e).stay (fun b u _ q=>k b u q) (fun _ q=>q) fun _ _ q=>q
theorem HOk.laid (x:HOk P w H h) (k:∀ b u,h.get? b=some u->h'.get? b=some u) (hp:h.objs.size<=a) (new:ObjOk P w (upd H a o) h' a o):HOk P w (upd H a o) h':=fun b u e=>by
 have hn:=x.fresh hp
 by_cases hb:b=a
 ·subst hb;rw [zw] at e;cases e;exact new
 ·rw [zv hb] at e
  exact (x b u e).stay (fun c v _ q=>k c v q) (fun c q=>by rw [zv (zJ q hn)];exact q) fun c xs q=>by rw [zv (zJ q hn)];exact q
end
noncomputable def Rd (H:Hp) (a:Addr) (u:HO):Prop:=H a=some u \/ ∃ o,H a=some (.frz o u)
theorem Rd.ok {P:Program} {w:World} {H:Hp} {h:Heap} {a:Addr} {u:HO} (r:Rd H a u) (x:HOk P w H h):ObjOk P w H h a u:=by
 rcases r with r | ⟨o,r⟩
 ·exact x a u r
 ·obtain⟨_,q⟩:=x a _ r
  exact q
noncomputable def Mut:Option HO->Prop
 | some (.lst _)=>True
 | some (.dK _)=>True
 | some (.dT _)=>True
 | some (.set _ _)=>True
 | some (.ins _ _ _)=>True
 | some (.ext _)=>True
 | _=>False
section
variable {P:Program} {w:World} {H:Hp} {h h':Heap} {x e:Addr} {o':HO}
theorem HOk.write (ok:HOk P w H h) (mu:Mut (H x)) (he:e=x \/ H e=some (.own x)) (k:∀ b u,b≠e->h.get? b=some u->h'.get? b=some u) (heo:∃ u,h'.get? e=some u)
  (new:ObjOk P w (upd H x o') h' x o'):HOk P w (upd H x o') h':=fun b u q=>by
 have nown:∀ c y,H c=some (.own y)->c≠x:=fun c y r z=>by subst z;rw [r] at mu;exact mu
 have ntup:∀ c xs,H c=some (.tup xs)->c≠x:=fun c xs r z=>by subst z;rw [r] at mu;exact mu
 by_cases hb:b=x
 ·subst hb;rw [zw] at q;cases q;exact new
 ·rw [zv hb] at q
  by_cases hbe:b=e
  ·have q':H b=some (.own x):=by
    rcases he with z | z
    ·exact absurd (hbe.trans z) hb
    ·rw [hbe];exact z
   rw [q] at q';cases q'
   obtain⟨v,hv⟩:=heo
   exact⟨v,by rw [hbe];exact hv⟩
  ·refine (ok b u q).stay (fun c v hc r=>k c v ?_ r) (fun c r=>by rw [zv (nown c b r)];exact r) fun c xs r=>by rw [zv (ntup c xs r)];exact r
   rcases hc with rfl | hc
   ·exact hbe
   ·rintro rfl
    rcases he with z | z
    ·exact nown c b hc z
    ·rw [hc] at z;cases z;exact hb rfl
end
structure Un (fs ex:List Addr) (H H':Hp) (h h':Heap):Prop where
 keep:∀ b o,h.get? b=some o->H b=none->b∉fs->b∉ex->h'.get? b=some o
 slot:∀ b o,h.get? b=some o->H b=none->b∈fs->b∉ex->∃ sl,h'.get? b=some { o with slots:=sl }
 free:∀ b o,h.get? b=some o->H b=none->b∉ex->H' b=none
 there:∀ b o,h.get? b=some o->b∉ex->∃ o',h'.get? b=some o'
 tups:∀ b xs,H b=some (.tup xs)->H' b=some (.tup xs)
 frzs:∀ b o u,H b=some (.frz o u)->H' b=some (.frz o u)
 tbls:∀ b ps,H b=some (.tbl ps)->∃ more,H' b=some (.tbl (ps++more))
section
variable {fs fs' ex ex':List Addr} {H H1 H2:Hp} {h h1 h2 h':Heap} {a x e:Addr} {o:HO}
theorem Un.any (u:Un fs ex H H1 h h1) {b:Addr} {ob:Obj} (q:h.get? b=some ob) (n:H b=none) (hx:b∉ex):∃ sl,h1.get? b=some { ob with slots:=sl }:=by
 by_cases hb:b∈fs
 ·exact u.slot b ob q n hb hx
 ·exact⟨ob.slots,u.keep b ob q n hb hx⟩
theorem Un.kept (k:∀ b u,h.get? b=some u->h'.get? b=some u):Un fs ex H H h h' :=
 ⟨fun b ob q _ _ _=>k b ob q,fun b ob q _ _ _=>⟨ob.slots,k b ob q⟩,fun _ _ _ n _=>n,fun b ob q _=>⟨ob,k b ob q⟩,fun _ _ q=>q,fun _ _ _ q=>q,fun _ ps q=>⟨#[],by rw [q];simp⟩⟩
theorem Un.refl:Un fs ex H H h h:=Un.kept fun _ _ q=>q
theorem Un.laid (k:∀ b u,h.get? b=some u->h'.get? b=some u) (hp:h.objs.size<=a) (hn:H a=none):Un fs ex H (upd H a o) h h' where
 keep:=fun b u q _ _ _=>k b u q
 slot:=fun b u q _ _ _=>⟨u.slots,k b u q⟩
 free:=fun b u q n _=>by rw [zv (apU (apF (apw q) hp))];exact n
 there:=fun b u q _=>⟨u,k b u q⟩
 tups:=fun b xs q=>by rw [zv (zJ q hn)];exact q
 frzs:=fun b u xs q=>by rw [zv (zJ q hn)];exact q
 tbls:=fun b ps q=>⟨#[],by rw [zv (zJ q hn),q];simp⟩
theorem Un.write (mu:Mut (H x)) (he:e=x \/ H e=some (.own x)) (k:∀ b u,b≠e->h.get? b=some u->h'.get? b=some u) (heo:∃ u,h'.get? e=some u):Un fs ex H (upd H x o) h h':=by
 have hx:∀ b,H b=none->b≠x:=fun b n z=>by subst z;rw [n] at mu;exact mu
 have hb:∀ b,H b=none->b≠e:=fun b n z=>by
  subst z
  rcases he with r | r
  ·exact hx b n r
  ·rw [n] at r;cases r
 have hm:∀ b u,H b=some u->¬ Mut (some u)->b≠x:=fun b u q nm z=>by subst z;rw [q] at mu;exact nm mu
 refine⟨fun b u q n _ _=>k b u (hb b n) q,fun b u q n _ _=>⟨u.slots,k b u (hb b n) q⟩,fun b u q n _=>by rw [zv (hx b n)];exact n,fun b u q _=>?_,
  fun b xs q=>by rw [zv (hm b _ q fun z=>z)];exact q,fun b u xs q=>by rw [zv (hm b _ q fun z=>z)];exact q,fun b ps q=>⟨#[],by rw [zv (hm b _ q fun z=>z),q];simp⟩⟩
 by_cases hbe:b=e
 ·subst hbe;exact heo
 ·exact⟨u,k b u hbe q⟩
end
noncomputable def trk (h:Heap) (H:Hp):List Addr:=(apK h.objs.size).filter fun a=>(H a).isSome
noncomputable def acE (h:Heap) (H:Hp):Heap:=PySem.W.hideAll h (trk h H)
theorem agS (h:Heap) (H:Hp):(acE h H).objs.size=h.objs.size:=PySem.W.hideAll_size _ _
theorem ahW {h:Heap} {H:Hp} {b:Addr} {o:Obj} (e:h.get? b=some o) (n:H b=none):(acE h H).get? b=some o :=
 PySem.W.hideAll_get _ e fun hm=>by
  have q:(H b).isSome=true:=(ap9.mp hm).2
  rw [n] at q;simp at q
theorem ajZ {h:Heap} {H:Hp} {b:Addr} {o:Obj} (e:(acE h H).get? b=some o):h.get? b=some o/\H b=none:=by
 have e':h.get? b=some o:=PySem.W.of_hideAll (trk h H) e
 refine⟨e',?_⟩
 cases q:H b with
 | none=>rfl
 | some x =>
  have hm:b∈trk h H:=ap9.mpr ⟨apV.mpr (apw e'),by simp [q]⟩
  have z:(acE h H).get? b=none:=PySem.W.hideAll_none (trk h H) hm
  rw [z] at e;cases e
noncomputable def aj0 (g h:Heap) (L:Addr):List (Addr×Obj):=(apK h.objs.size).filterMap fun a=>if a=L \/ (g.get? a).isSome=true then none else (h.get? a).map fun o=>(a,o)
noncomputable def rest (g h:Heap) (L d:Addr):List (Addr×Obj):=(aj0 g h L).filter fun p=>decide (p.1≠d)
structure Mod (K:apj) (mg:Str->Option Value) (base:Heap):Prop where
 kin:K.In base
 glob:base.Ns mainGlobals mg
 blt:∃ mb,base.Ns builtinsNs mb/\∀ x:Str,x ≠ "__name__"->mb x=bootBuiltins x
 nolimit:base.NoLimit
structure Cx where
 prog:Program
 w:World
 K:apj
 mg:Str->Option Value
 base:Heap
 A:Around
 N:List Str
 s₀:Shared
 H₀:Hp
 env:Env
 outer:List Env
 stack:List Env
 ex:List Addr
 fn:Str->Bool
 calm:Bool
 pn:List (Addr×Obj)
 xe:Value->Shared->Prop
noncomputable def frs (l:List Env):List Addr:=l.filterMap (·.frame)
noncomputable abbrev Cx.fs (X:Cx):List Addr:=frs X.outer
noncomputable def Vis (sc:Scope) (x:Str):Prop:=sc.names.lookup x=some .local \/ sc.names.lookup x=some .cell \/ sc.names.lookup x=some .free
noncomputable def Loc (sc:Scope) (x:Str):Prop:=sc.names.lookup x=some .local \/ sc.names.lookup x=some .cell
noncomputable def Look (env:Env) (h:Heap) (m:Str->Option Value) (x:Str) (u:Value):Prop :=
 (env.kindOf x=some .local/\m x=some u) \/ ((env.kindOf x=some .cell \/ env.kindOf x=some .free)/\∃ c,env.cells.lookup x=some c/\h.IsCell c (some u))
structure Cx.Ok (X:Cx):Prop where
 mod:Mod X.K X.mg X.base
 kind:X.env.scope.kind=.function
 glob:X.env.globals=mainGlobals
 blt:X.env.builtins=builtinsNs
 above:X.s₀.heap.objs.size<=X.env.locals
 inj:∀ x y c,X.env.cells.lookup x=some c->X.env.cells.lookup y=some c->x=y
 has:∀ x,(X.env.kindOf x=some .cell \/ X.env.kindOf x=some .free)->∃ c,X.env.cells.lookup x=some c
 cab:∀ x c,X.fn x=true->X.env.cells.lookup x=some c->X.s₀.heap.objs.size<=c
 hd:X.calm=true->X.A.handled=none
 frames:X.A.frames=some X.stack
 stk:X.stack=X.outer \/ (X.stack=X.env :: X.outer/\X.env.frame=some X.env.locals)
 exf:∀ b∈X.ex,b≠X.env.locals/\∀ x c,X.env.cells.lookup x=some c->c≠b
 bs:∀ b o,X.base.get? b=some o->X.s₀.heap.get? b=some o/\X.H₀ b=none
 bsz:X.base.objs.size<=X.s₀.heap.objs.size
 noex:∀ b o,X.base.get? b=some o->b∉X.ex
 exfs:∀ b∈X.ex,b∉X.fs
 funs:X.s₀.heap.FunFrames X.base X.outer
 frf:∀ b∈X.fs,X.H₀ b=none
structure Inv (X:Cx) (pins:List (Addr×Obj)) (σ:List (Option V)) (H:Hp) (s:Shared):Prop where
 ok:X.Ok
 os:s.os=X.s₀.os
 bare:AllBare s.gens
 base:Un X.fs X.ex X.H₀ H X.s₀.heap s.heap
 loc:∃ m,s.heap.Ns X.env.locals m/\∀ (i:Nat) (x:Str) (v:V),X.N[i]?=some x->σ[i]?=some (some v)->Vis X.env.scope x->∃ u,RelV v u/\Look X.env s.heap m x u
 cell:∀ x c,X.env.cells.lookup x=some c->∃ v,s.heap.IsCell c v
 free:H X.env.locals=none
 freeC:∀ x c,X.env.cells.lookup x=some c->H c=none
 pin:∀ p∈X.pn++pins,s.heap.get? p.1=some p.2/\H p.1=none/\p.1≠X.env.locals/\p.1∉X.fs/\∀ v,p.2.data≠.cell v
 hok:HOk X.prog X.w H s.heap
 len:σ.length=X.N.length
section
variable {X:Cx} {pins:List (Addr×Obj)} {σ:List (Option V)} {H H':Hp} {s:Shared} {h':Heap}
theorem Cx.Ok.nofr (ok:X.Ok) {b:Addr} {o:Obj} (e:X.base.get? b=some o):b∉X.fs:=fun hb=>by
 have:=(ok.funs.mem hb).1
 rw [e] at this;cases this
theorem Inv.bs (I:Inv X pins σ H s):∀ b o,X.base.get? b=some o->s.heap.get? b=some o/\H b=none:=fun b o e =>
 ⟨I.base.keep b o (I.ok.bs b o e).1 (I.ok.bs b o e).2 (I.ok.nofr e) (I.ok.noex b o e),I.base.free b o (I.ok.bs b o e).1 (I.ok.bs b o e).2 (I.ok.noex b o e)⟩
theorem Inv.bk (I:Inv X pins σ H s):∀ b o,X.base.get? b=some o->s.heap.get? b=some o:=fun b o e=>(I.bs b o e).1
theorem Inv.mod (I:Inv X pins σ H s):Mod X.K X.mg X.base:=I.ok.mod
theorem Inv.kIn (I:Inv X pins σ H s):X.K.In s.heap:=I.ok.mod.kin.keeps I.bk
theorem Inv.fr (I:Inv X pins σ H s):∃ m,Fr X.base X.env.locals s.heap m :=
 let⟨m,hn,_⟩:=I.loc
 ⟨m,hn,I.bk,apO I.ok.bsz I.ok.above⟩
theorem Inv.lt (I:Inv X pins σ H s):X.env.locals<s.heap.objs.size:=let⟨_,hn,_⟩:=I.loc;hn.lt
theorem Inv.sz (I:Inv X pins σ H s):X.s₀.heap.objs.size<=s.heap.objs.size:=apO I.ok.above (aqj I.lt)
theorem Inv.nofs (I:Inv X pins σ H s) {a:Addr} (h:s.heap.objs.size<=a):a∉X.fs:=fun hb=>by
 obtain⟨_,o,ho,_⟩:=I.ok.funs.mem hb
 exact absurd (apF (apw ho) (apO I.sz h)) (arG _)
theorem Inv.cne (I:Inv X pins σ H s):∀ x c,X.env.cells.lookup x=some c->c≠X.env.locals:=fun x c e z=>by
 obtain⟨v,o,ho,hd⟩:=I.cell x c e
 obtain⟨m,⟨o',es,ep,ho',hd',_⟩,_⟩:=I.loc
 rw [z,ho'] at ho;cases ho;rw [hd'] at hd;cases hd
theorem Inv.funs (I:Inv X pins σ H s):s.heap.FunFrames X.base X.outer:=by
 have all:∀ (l:List Env),(∀ b∈frs l,b∈X.fs)->X.s₀.heap.FunFrames X.base l->s.heap.FunFrames X.base l:=by
  intro l
  induction l with
  | nil=>intro _ _;trivial
  | cons env r ih =>
   intro hs hl
   obtain⟨hk,⟨L,o,hf,hn,ho,hd⟩,hr⟩:=hl
   have hL:L∈X.fs:=hs L (by unfold frs;rw [arU,hf];exact apo)
   obtain⟨sl,e⟩:=I.base.slot L o ho (I.ok.frf L hL) hL fun z=>I.ok.exfs L z hL
   exact⟨hk,⟨L,_,hf,hn,e,hd⟩,ih (fun b hb=>hs b (by unfold frs;rw [arU,hf];exact apl _ hb)) hr⟩
 exact all X.outer (fun _ hb=>hb) I.ok.funs
theorem Inv.stack (I:Inv X pins σ H s):s.heap.FunFrames X.base X.stack:=by
 rcases I.ok.stk with e | ⟨e,hf⟩
 ·rw [e];exact I.funs
 ·rw [e]
  obtain⟨m,hn,_⟩:=I.loc
  refine .cons (by rw [I.ok.kind];decide) hf hn ?_ I.funs
  exact Heap.get?_none_of_le (apO I.ok.bsz I.ok.above)
theorem Inv.stkSub (I:Inv X pins σ H s):∀ b∈frs X.stack,b∈X.env.locals :: X.fs:=fun b hb=>by
 rcases I.ok.stk with e | ⟨e,hf⟩
 ·rw [e] at hb;exact apl _ hb
 ·rw [e] at hb
  unfold frs at hb
  rw [arU,hf] at hb
  exact hb
theorem Inv.stkFree (I:Inv X pins σ H s):∀ b∈frs X.stack,H b=none:=fun b hb=>by
 rcases apq.mp (I.stkSub b hb) with e | hb
 ·rw [e];exact I.free
 ·obtain⟨_,o,ho,_⟩:=I.ok.funs.mem hb
  exact I.base.free b o ho (I.ok.frf b hb) fun z=>I.ok.exfs b z hb
theorem Inv.step {g':Array GenState} {t':Nat} {d':Drawn} {ch:List Addr} (I:Inv X pins σ H s)
  (hch:∀ b∈ch,(b∈X.ex \/ X.s₀.heap.objs.size<=b)/\b≠X.env.locals/\(∀ x c,X.env.cells.lookup x=some c->c≠b)/\∀ p∈X.pn++pins,p.1≠b)
  (keep:∀ b o,b≠X.env.locals->b∉X.fs->b∉ch->s.heap.get? b=some o->H b=none->h'.get? b=some o)
  (slot:∀ b o,b≠X.env.locals->b∈X.fs->b∉ch->s.heap.get? b=some o->H b=none->∃ sl,h'.get? b=some { o with slots:=sl }) (free:∀ b o,b∉ch->s.heap.get? b=some o->H b=none->H' b=none)
  (there:∀ b o,b∉ch->s.heap.get? b=some o->∃ o',h'.get? b=some o')
  (tups:∀ b xs,H b=some (.tup xs)->H' b=some (.tup xs)) (frzs:∀ b o u,H b=some (.frz o u)->H' b=some (.frz o u)) (tbls:∀ b ps,H b=some (.tbl ps)->∃ more,H' b=some (.tbl (ps++more)))
  (ns:∀ m,s.heap.Ns X.env.locals m->h'.Ns X.env.locals m) (hok:HOk X.prog X.w H' h') (hg:AllBare g') :
  Inv X pins σ H' { s with heap:=h',gens:=g',drawn:=d',toks:=t' }:=by
 have neL:∀ b o,X.s₀.heap.get? b=some o->b≠X.env.locals:=fun b o e=>apU (apF (apw e) I.ok.above)
 have neC:∀ b o,X.s₀.heap.get? b=some o->b∉X.ex->b∉ch:=fun b o e hx hb=>by
  rcases (hch b hb).1 with z | z
  ·exact hx z
  ·exact absurd (apF (apw e) z) (arG _)
 have cellK:∀ x c,X.env.cells.lookup x=some c->∀ v,s.heap.IsCell c v->h'.IsCell c v:=fun x c e v ⟨o,ho,hd⟩=>by
  have nch:c∉ch:=fun z=>(hch c z).2.2.1 x c e rfl
  by_cases hc:c∈X.fs
  ·obtain⟨sl,q⟩:=slot c o (I.cne x c e) hc nch ho (I.freeC x c e)
   exact⟨_,q,hd⟩
  ·exact⟨o,keep c o (I.cne x c e) hc nch ho (I.freeC x c e),hd⟩
 refine⟨I.ok,I.os,hg,⟨fun b o e n hb hx=>?_,fun b o e n hb hx=>?_,fun b o e n hx=>?_,fun b o e hx=>?_,fun b xs e=>tups b xs (I.base.tups b xs e),fun b o xs e=>frzs b o xs (I.base.frzs b o xs e),fun b ps e=>?_⟩,?_,fun x c e=>?_,?_,fun x c e=>?_,fun p hp=>?_,hok,I.len⟩
 ·exact keep b o (neL b o e) hb (neC b o e hx) (I.base.keep b o e n hb hx) (I.base.free b o e n hx)
 ·obtain⟨sl,e1⟩:=I.base.slot b o e n hb hx
  obtain⟨sl',e2⟩:=slot b _ (neL b o e) hb (neC b o e hx) e1 (I.base.free b o e n hx)
  exact⟨sl',e2⟩
 ·obtain⟨o',e1⟩:=I.base.there b o e hx
  exact free b o' (neC b o e hx) e1 (I.base.free b o e n hx)
 ·obtain⟨o',e1⟩:=I.base.there b o e hx
  exact there b o' (neC b o e hx) e1
 ·obtain⟨m1,e1⟩:=I.base.tbls b ps e
  obtain⟨m2,e2⟩:=tbls b _ e1
  exact⟨m1++m2,by rw [e2,Array.append_assoc]⟩
 ·obtain⟨m,hn,hl⟩:=I.loc
  refine⟨m,ns m hn,fun i x v e1 e2 e3=>?_⟩
  obtain⟨u,r,l⟩:=hl i x v e1 e2 e3
  refine⟨u,r,?_⟩
  rcases l with l | ⟨k,c,e,z⟩
  ·exact .inl l
  ·exact .inr ⟨k,c,e,cellK x c e _ z⟩
 ·obtain⟨v,z⟩:=I.cell x c e
  exact⟨v,cellK x c e v z⟩
 ·obtain⟨m,⟨o,_,_,ho,_⟩,_⟩:=I.loc
  exact free _ o (fun z=>(hch _ z).2.1 rfl) ho I.free
 ·obtain⟨v,o,ho,hd⟩:=I.cell x c e
  exact free c o (fun z=>(hch c z).2.2.1 x c e rfl) ho (I.freeC x c e)
 ·obtain⟨e,n,ne,nf,d⟩:=I.pin p hp
  have nch:p.1∉ch:=fun z=>(hch p.1 z).2.2.2 p hp rfl
  exact⟨keep p.1 p.2 ne nf nch e n,free p.1 p.2 nch e n,ne,nf,d⟩
theorem Inv.un {t':Nat} (I:Inv X pins σ H s) (u:Un X.fs [] H H' s.heap h') (hok:HOk X.prog X.w H' h'):Inv X pins σ H' { s with heap:=h',toks:=t' }:=by
 obtain⟨m,⟨o,es,ep,ho,r⟩,_⟩:=id I.loc
 obtain⟨sl,hL⟩:=u.any ho I.free (by simp)
 exact I.step (g':=s.gens) (d':=s.drawn) (ch:=[]) (fun _ z=>nomatch z) (fun b o _ hb _ e n=>u.keep b o e n hb (by simp)) (fun b o _ hb _ e n=>u.slot b o e n hb (by simp)) (fun b o _ e n=>u.free b o e n (by simp)) (fun b o _ e=>u.there b o e (by simp)) u.tups u.frzs u.tbls (fun m' hm=>by
  obtain⟨o',es',ep',ho',r'⟩:=hm
  rw [ho] at ho';cases ho'
  exact⟨_,es',ep',hL,r'⟩) hok I.bare
theorem Inv.call {g':Array GenState} {t':Nat} {d':Drawn} {ch:List Addr} (I:Inv X pins σ H s) (u:Un (frs X.stack) ch H H' s.heap h') (hok:HOk X.prog X.w H' h') (hg:AllBare g')
  (hch:∀ b∈ch,(b∈X.ex \/ X.s₀.heap.objs.size<=b)/\b≠X.env.locals/\(∀ x c,X.env.cells.lookup x=some c->c≠b)/\∀ p∈X.pn++pins,p.1≠b) :
  Inv X pins σ H' { s with heap:=h',gens:=g',drawn:=d',toks:=t' }:=by
 obtain⟨m,⟨o,es,ep,ho,r⟩,_⟩:=id I.loc
 obtain⟨sl,hL⟩:=u.any ho I.free fun z=>(hch _ z).2.1 rfl
 exact I.step (ch:=ch) hch (fun b o hL hb hc e n=>u.keep b o e n (fun z=>(apq.mp (I.stkSub b z)).elim hL hb) hc) (fun b o _ _ hc e n=>u.any e n hc) (fun b o hc e n=>u.free b o e n hc) (fun b o hc e=>u.there b o e hc) u.tups u.frzs u.tbls (fun m' hm=>by
  obtain⟨o',es',ep',ho',r'⟩:=hm
  rw [ho] at ho';cases ho'
  exact⟨_,es',ep',hL,r'⟩) hok hg
theorem Inv.turned {t':Nat} {it:Addr} (I:Inv X pins σ H s) (k:∀ b o,b≠it->s.heap.get? b=some o->h'.get? b=some o) (hn:H it=none) (hL:it≠X.env.locals)
  (h1:it∈X.ex \/ X.s₀.heap.objs.size<=it) (h2:∀ x c,X.env.cells.lookup x=some c->c≠it) (h3:∀ p∈X.pn++pins,p.1≠it):Inv X pins σ H { s with heap:=h',toks:=t' }:=by
 have nit:∀ b u,H b=some u->b≠it:=fun b u e z=>by rw [z,hn] at e;cases e
 refine I.step (g':=s.gens) (d':=s.drawn) (ch:=[it]) (fun b hb=>?_) (fun b o _ _ hc e _=>k b o (fun z=>hc (by simp [z])) e) (fun b o _ _ hc e _=>⟨o.slots,k b o (fun z=>hc (by simp [z])) e⟩) (fun _ _ _ _ n=>n)
  (fun b o hc e=>⟨o,k b o (fun z=>hc (by simp [z])) e⟩) (fun _ _ e=>e) (fun _ _ _ e=>e) (fun b ps e=>⟨#[],by rw [e];simp⟩) (fun m hm=>?_) (fun b u e=>?_) I.bare
 ·have e:b=it:=by simpa using hb
  subst e
  exact⟨h1,hL,h2,h3⟩
 ·obtain⟨o,es,ep,ho,r⟩:=hm
  exact⟨o,es,ep,k _ o (arh hL) ho,r⟩
 ·refine (I.hok b u e).stay (fun c v hc q=>k c v ?_ q) (fun _ q=>q) fun _ _ q=>q
  rcases hc with z | z
  ·rw [z];exact nit b u e
  ·exact nit c _ z
theorem Inv.tok (I:Inv X pins σ H s) (t:Nat):Inv X pins σ H { s with toks:=t }:=I.un (h':=s.heap) (t':=t) Un.refl I.hok
theorem Inv.kept {t':Nat} (I:Inv X pins σ H s) (k:∀ b u,s.heap.get? b=some u->h'.get? b=some u):Inv X pins σ H { s with heap:=h',toks:=t' }:=I.un (Un.kept k) (I.hok.kept k)
theorem Inv.laid {a:Addr} {o:HO} {t':Nat} (I:Inv X pins σ H s) (k:∀ b u,s.heap.get? b=some u->h'.get? b=some u) (hp:s.heap.objs.size<=a) (new:ObjOk X.prog X.w (upd H a o) h' a o) :
  Inv X pins σ (upd H a o) { s with heap:=h',toks:=t' }:=I.un (Un.laid k hp (I.hok.fresh hp)) (I.hok.laid k hp new)
theorem Inv.write {x e:Addr} {o:HO} {t':Nat} (I:Inv X pins σ H s) (mu:Mut (H x)) (he:e=x \/ H e=some (.own x)) (k:∀ b u,b≠e->s.heap.get? b=some u->h'.get? b=some u) (heo:∃ u,h'.get? e=some u)
  (new:ObjOk X.prog X.w (upd H x o) h' x o):Inv X pins σ (upd H x o) { s with heap:=h',toks:=t' }:=I.un (Un.write mu he k heo) (I.hok.write mu he k heo new)
theorem Inv.pins_of {pins':List (Addr×Obj)} (I:Inv X pins σ H s) (h:∀ p∈pins',s.heap.get? p.1=some p.2/\H p.1=none/\p.1≠X.env.locals/\p.1∉X.fs/\∀ v,p.2.data≠.cell v):Inv X pins' σ H s :=
 ⟨I.ok,I.os,I.bare,I.base,I.loc,I.cell,I.free,I.freeC,fun p hp=>(apC.mp hp).elim (fun z=>I.pin p (apN _ z)) (h p),I.hok,I.len⟩
theorem adM {N:List Str} (hN:N.Nodup) {i j:Nat} {x:Str} (a:N[i]?=some x) (b:N[j]?=some x):i=j:=by
 obtain⟨h1,e1⟩:=apm.mp a
 obtain⟨h2,e2⟩:=apm.mp b
 exact (ase hN).mp (e1.trans e2.symm)
theorem ab3 {M:Model} {A:Around} {E:Value->Shared->Prop} {i:Nat} {x:Str} {v:V} {u:Value} {Q:Unit->Shared->Prop} (I:Inv X pins σ H s) (hN:X.N.Nodup) (hi:X.N[i]?=some x) (hx:Loc X.env.scope x) (r:RelV v u)
  (h:∀ s',Inv X pins (σ.set i (some v)) H s'->(∃ a,aq2 a s.heap s'.heap/\(a=X.env.locals \/ X.env.cells.lookup x=some a))->Q () s') (hf:X.fn x=true \/ X.env.scope.names.lookup x=some .local:=by first | exact .inl rfl | exact .inr rfl | assumption):wpAny M A (storeName X.env x u) Q E s:=by
 obtain⟨m,hn,hl⟩:=id I.loc
 have hcls:(X.env.scope.kind == .class || (X.env.scope.kind == .module && X.env.locals != X.env.globals))=false:=by rw [I.ok.kind];rfl
 have hiσ:i<σ.length:=by rw [I.len];exact (apm.mp hi).1
 have cne:=I.cne
 have tracked:∀ {a:Addr} {h':Heap},(∃ o,s.heap.get? a=some o/\H a=none)->aq2 a s.heap h'->HOk X.prog X.w H h':=fun {a h'} ha hs b ob e=>by
  obtain⟨_,_,hfree⟩:=ha
  refine (I.hok b ob e).stay (fun c w' hc q=>(hs.2 c ?_).trans q) (fun _ q=>q) fun _ _ q=>q
  rintro rfl
  rcases hc with rfl | hc
  ·rw [hfree] at e;cases e
  ·rw [hfree] at hc;cases hc
 rcases hx with hk | hk
 ·refine wpAny_storeName_local hk hn (fun h' hn' hs=>?_) hcls
  obtain⟨oL,_,_,hoL,_⟩:=id hn
  refine h _ ⟨I.ok,I.os,I.bare,⟨fun b o e n hb hx=>?_,fun b o e n hb hx=>?_,I.base.free,fun b o e hx=>?_,I.base.tups,I.base.frzs,I.base.tbls⟩,⟨_,hn',fun j y v' e1 e2 e3=>?_⟩,fun y c e=>?_,I.free,I.freeC,fun p hp=>?_,tracked ⟨oL,hoL,I.free⟩ hs,by simpa using I.len⟩ ⟨_,hs,.inl rfl⟩
  ·exact (hs.2 b (apU (apF (apw e) I.ok.above))).trans (I.base.keep b o e n hb hx)
  ·obtain⟨sl,e1⟩:=I.base.slot b o e n hb hx
   exact⟨sl,(hs.2 b (apU (apF (apw e) I.ok.above))).trans e1⟩
  ·obtain⟨o',e1⟩:=I.base.there b o e hx
   exact⟨o',(hs.2 b (apU (apF (apw e) I.ok.above))).trans e1⟩
  ·by_cases hj:j=i
   ·subst hj
    rw [hi] at e1;cases e1
    rw [ap7 hiσ] at e2
    cases e2
    exact⟨u,r,.inl ⟨hk,by simp⟩⟩
   ·rw [aqi (arh hj)] at e2
    obtain⟨u',r',q⟩:=hl j y v' e1 e2 e3
    refine⟨u',r',?_⟩
    rcases q with⟨k,e⟩ | ⟨k,c,e,z⟩
    ·refine .inl ⟨k,?_⟩
     have:y≠x:=fun e=>hj (adM hN e1 (e▸hi))
     simp [this,e]
    ·exact .inr ⟨k,c,e,z.sameBut hs (cne y c e)⟩
  ·obtain⟨w',z⟩:=I.cell y c e
   exact⟨w',z.sameBut hs (cne y c e)⟩
  ·obtain⟨e,n,ne,nf,d⟩:=I.pin p hp
   exact⟨(hs.2 p.1 ne).trans e,n,ne,nf,d⟩
 ·have hfn:X.fn x=true:=by
   rcases hf with z | z
   ·exact z
   ·rw [z] at hk;cases hk
  obtain⟨c,hc⟩:=I.ok.has x (.inl hk)
  obtain⟨w',z⟩:=I.cell x c hc
  refine wpAny_storeName_cell I.ok.kind hk hc z (fun h' hc' hs=>?_)
  obtain⟨oc,hoc,hocd⟩:=id z
  refine h { s with heap:=h' } ⟨I.ok,I.os,I.bare,⟨fun b o e n hb hx=>?_,fun b o e n hb hx=>?_,I.base.free,fun b o e hx=>?_,I.base.tups,I.base.frzs,I.base.tbls⟩,⟨m,hn.sameBut hs (arh (cne x c hc)),fun j y v' e1 e2 e3=>?_⟩,fun y c' e=>?_,I.free,I.freeC,fun p hp=>?_,tracked ⟨oc,hoc,I.freeC x c hc⟩ hs,by simpa using I.len⟩ ⟨c,hs,.inr hc⟩
  ·exact (hs.2 b (apU (apF (apw e) (I.ok.cab x c hfn hc)))).trans (I.base.keep b o e n hb hx)
  ·obtain⟨sl,e1⟩:=I.base.slot b o e n hb hx
   exact⟨sl,(hs.2 b (apU (apF (apw e) (I.ok.cab x c hfn hc)))).trans e1⟩
  ·obtain⟨o',e1⟩:=I.base.there b o e hx
   exact⟨o',(hs.2 b (apU (apF (apw e) (I.ok.cab x c hfn hc)))).trans e1⟩
  ·by_cases hj:j=i
   ·subst hj
    rw [hi] at e1;cases e1
    rw [ap7 hiσ] at e2
    cases e2
    exact⟨u,r,.inr ⟨.inl hk,c,hc,hc'⟩⟩
   ·rw [aqi (arh hj)] at e2
    obtain⟨u',r',q⟩:=hl j y v' e1 e2 e3
    refine⟨u',r',?_⟩
    rcases q with q | ⟨k,c',e,z'⟩
    ·exact .inl q
    ·refine .inr ⟨k,c',e,z'.sameBut hs ?_⟩
     rintro rfl
     exact hj (adM hN e1 (I.ok.inj _ _ _ e hc▸hi))
  ·by_cases hcc:c'=c
   ·subst hcc;exact⟨_,hc'⟩
   ·obtain⟨w2,z2⟩:=I.cell y c' e
    exact⟨w2,z2.sameBut hs hcc⟩
  ·obtain⟨e,n,ne,nf,d⟩:=I.pin p hp
   refine⟨(hs.2 p.1 ?_).trans e,n,ne,nf,d⟩
   intro q
   rw [q,hoc] at e
   have q':oc=p.2:=Option.some.inj e
   exact d w' (by rw [<-q'];exact hocd)
theorem vI {M:Model} {A:Around} {E:Value->Shared->Prop} {i:Nat} {x:Str} {v:V} {u:Value} {Q:Unit->Shared->Prop} (I:Inv X pins σ H s) (hN:X.N.Nodup) (hi:X.N[i]?=some x) (hx:Loc X.env.scope x) (r:RelV v u)
  (h:∀ s',Inv X pins (σ.set i (some v)) H s'->Q () s') (hf:X.fn x=true \/ X.env.scope.names.lookup x=some .local:=by first | exact .inl rfl | exact .inr rfl | assumption):wpAny M A (storeName X.env x u) Q E s :=
 ab3 I hN hi hx r (fun s' I' _=>h s' I') hf
theorem Inv.call' {s':Shared} {ch:List Addr} (I:Inv X pins σ H s) (ho:s'.os=s.os) (u:Un (frs X.stack) ch H H' s.heap s'.heap) (hok:HOk X.prog X.w H' s'.heap) (hg:AllBare s'.gens)
  (hch:∀ b∈ch,(b∈X.ex \/ X.s₀.heap.objs.size<=b)/\b≠X.env.locals/\(∀ x c,X.env.cells.lookup x=some c->c≠b)/\∀ p∈X.pn++pins,p.1≠b):Inv X pins σ H' s':=by
 obtain⟨h',g',d',t',o'⟩:=s'
 have e:o'=s.os:=ho
 subst e
 exact I.call (g':=g') (t':=t') (d':=d') u hok hg hch
end
noncomputable abbrev XK:=Value->Option Addr->Hp->Prop
noncomputable abbrev St:=List (Option V)
noncomputable abbrev VK:=V->Hp->Prop
noncomputable abbrev TE:=St->Hp->VK->Prop
noncomputable abbrev TT:=St->Hp->(Bool->Hp->Prop)->Prop
noncomputable abbrev TA:=St->Hp->(List V->Hp->Prop)->Prop
structure Ends where
 nx:St->Hp->Prop
 rt:VK
 bk:St->Hp->Prop:=fun _ _=>False
 ct:St->Hp->Prop:=fun _ _=>False
noncomputable abbrev TS:=Ends->St->Hp->Prop
noncomputable def EP (X:Cx) (pins:List (Addr×Obj)) (σ:St) (Q:VK) (u:Value) (s':Shared):Prop:=∃ v H',Inv X pins σ H' s'/\RelV v u/\Q v H'
noncomputable def TP (X:Cx) (pins:List (Addr×Obj)) (σ:St) (Q:Bool->Hp->Prop) (b:Bool) (s':Shared):Prop:=∃ H',Inv X pins σ H' s'/\Q b H'
noncomputable def AP (X:Cx) (pins:List (Addr×Obj)) (σ:St) (Q:List V->Hp->Prop) (us:List Value) (s':Shared):Prop:=∃ vs H',Inv X pins σ H' s'/\Vals vs us/\Q vs H'
noncomputable def SP (X:Cx) (pins:List (Addr×Obj)) (D:Ends) (f:Flow) (s':Shared):Prop :=
 match f with
 | .next=>∃ σ' H',Inv X pins σ' H' s'/\D.nx σ' H'
 | .brk=>∃ σ' H',Inv X pins σ' H' s'/\D.bk σ' H'
 | .cont=>∃ σ' H',Inv X pins σ' H' s'/\D.ct σ' H'
 | .ret u=>∃ v σ' H',Inv X pins σ' H' s'/\RelV v u/\D.rt v H'
noncomputable def PE (X:Cx) (e:Expr) (t:TE):Prop :=
 ∀ (pins:List (Addr×Obj)) (s:Shared) (σ:St) (H:Hp) (Q:VK),Inv X pins σ H s->t σ H Q->wpAny (model X.prog X.w) X.A (eval e X.env) (EP X pins σ Q) X.xe s
noncomputable def PT (X:Cx) (e:Expr) (t:TT):Prop :=
 ∀ (pins:List (Addr×Obj)) (s:Shared) (σ:St) (H:Hp) (Q:Bool->Hp->Prop),Inv X pins σ H s->t σ H Q->wpAny (model X.prog X.w) X.A (isTrue e X.env (eval e X.env)) (TP X pins σ Q) X.xe s
noncomputable def PW (X:Cx) (e:Expr) (t:TT):Prop :=
 ∀ (whole:Sem Value) (pins:List (Addr×Obj)) (s:Shared) (σ:St) (H:Hp) (Q:Bool->Hp->Prop),Inv X pins σ H s->t σ H Q->wpAny (model X.prog X.w) X.A (isTrue e X.env whole) (TP X pins σ Q) X.xe s
theorem PW.pt {X:Cx} {e:Expr} {t:TT} (h:PW X e t):PT X e t:=h _
noncomputable def PA (X:Cx) (es:List Expr) (t:TA):Prop :=
 ∀ (pos:Pos) (pins:List (Addr×Obj)) (s:Shared) (σ:St) (H:Hp) (Q:List V->Hp->Prop),Inv X pins σ H s->t σ H Q->wpAny (model X.prog X.w) X.A (spliced (backTo pos (starEach es X.env))) (AP X pins σ Q) X.xe s
noncomputable def PS (X:Cx) (st:Stmt) (t:TS):Prop :=
 ∀ (pins:List (Addr×Obj)) (s:Shared) (σ:St) (H:Hp) (D:Ends),Inv X pins σ H s->t D σ H->wpAny (model X.prog X.w) X.A (exec st X.env) (SP X pins D) X.xe s
noncomputable def PSs (X:Cx) (st:List Stmt) (t:TS):Prop :=
 ∀ (pins:List (Addr×Obj)) (s:Shared) (σ:St) (H:Hp) (D:Ends),Inv X pins σ H s->t D σ H->wpAny (model X.prog X.w) X.A (execs st X.env) (SP X pins D) X.xe s
theorem thn {α:Type} {t:Sem α} {Q Q':α->Shared->Prop} {M:Model} {A:Around} {E:Value->Shared->Prop} {s:Shared} (h:wpAny M A t Q E s) (hQ:∀ a s,Q a s->Q' a s):wpAny M A t Q' E s:=wpAny_mono h hQ fun _ _ x=>x
section
variable {X:Cx}
noncomputable def yj (i:Nat):TE:=fun σ H Q=>∃ v,σ[i]?=some (some v)/\Q v H
noncomputable def tC (v:V):TE:=fun _ H Q=>Q v H
theorem al7 {i:Nat} {x:Str} {pos:Pos} (hN:X.N[i]?=some x) (hv:Vis X.env.scope x) (hd:(x == ("__debug__":Str))=false:=by decide) (hcd:(x == ("__classdict__":Str))=false:=by decide):PE X (.Name x pos) (yj i):=by
 intro pins s σ H Q I h
 obtain⟨v,e,h⟩:=h
 obtain⟨m,hn,hl⟩:=I.loc
 obtain⟨u,r,l⟩:=hl i x v hN e hv
 have fin:EP X pins σ Q u s:=⟨v,H,I,r,h⟩
 rcases l with⟨hk,hm⟩ | ⟨hk,c,hc,hcell⟩
 ·exact wpAny_Name (wpAny_loadName_local I.ok.kind hk hn hm fin) hd
 ·rcases hk with hk | hk
  ·exact wpAny_Name (wpAny_loadName_cell I.ok.kind hk hc hcell fin) hd
  ·exact wpAny_Name (wpAny_loadName_free I.ok.kind hk hc hcell fin hcd) hd
theorem zc {i j pos}:PE X (.Constant (.int i) j pos) (tC (.int i)):=fun _ _ _ H _ I h=>wpAny_Constant_int ⟨.int i,H,I.tok _,⟨_,rfl⟩,h⟩
theorem vJ {b j pos}:PE X (.Constant (.bool b) j pos) (tC (.bl b)):=fun _ _ _ H _ I h=>Constant_bool ⟨.bl b,H,I,rfl,h⟩
theorem ahX {j pos}:PE X (.Constant .none j pos) (tC .non):=fun _ _ _ H _ I h=>Constant_none ⟨.non,H,I,rfl,h⟩
theorem ahY {x j pos}:PE X (.Constant (.str x) j pos) (tC (.str x)):=fun _ _ _ H _ I h=>Calls.Constant_str ⟨.str x,H,I.tok _,⟨_,rfl⟩,h⟩
noncomputable def Gl (X:Cx) (x:Str):Prop:=X.env.kindOf x=some .globalImplicit
theorem afJ {E:Value->Shared->Prop} {pins:List (Addr×Obj)} {s:Shared} {σ:St} {H:Hp} {x:Str} {u:Value} {pos:Pos} {Q:Value->Shared->Prop} (I:Inv X pins σ H s) (hg:Gl X x) (hm:X.mg x=some u) (h:Q u s)
  (hd:(x == ("__debug__":Str))=false:=by decide):wpAny (model X.prog X.w) X.A (eval (.Name x pos) X.env) Q E s :=
 asw I.ok.kind hg (Calls.loadGlobal_global (by rw [I.ok.glob];exact I.mod.glob.keeps I.bk) hm h) hd
theorem vw {E:Value->Shared->Prop} {pins:List (Addr×Obj)} {s:Shared} {σ:St} {H:Hp} {x:Str} {u:Value} {pos:Pos} {Q:Value->Shared->Prop} (I:Inv X pins σ H s) (hg:Gl X x) (hm:X.mg x=none) (hv:bootBuiltins x=some u) (h:Q u s)
  (hn:x ≠ "__name__":=by decide) (hd:(x == ("__debug__":Str))=false:=by decide):wpAny (model X.prog X.w) X.A (eval (.Name x pos) X.env) Q E s:=by
 obtain⟨mb,h1,h2⟩:=I.mod.blt
 exact asw I.ok.kind hg (Calls.loadGlobal_builtin (by rw [I.ok.glob];exact I.mod.glob.keeps I.bk) hm (by rw [I.ok.blt];exact h1.keeps I.bk) ((h2 x hn).trans hv) h) hd
theorem aj1 {x:Str} {v:V} {u:Value} {pos:Pos} (hg:Gl X x) (hm:X.mg x=some u) (r:RelV v u) (hd:(x == ("__debug__":Str))=false:=by decide):PE X (.Name x pos) (tC v) :=
 fun _ _ _ H _ I h=>afJ I hg hm ⟨v,H,I,r,h⟩ hd
variable {a b:Expr} {ta tb:TE} {pos:Pos}
noncomputable def tB (t:TE):TT:=fun σ H Q=>t σ H fun x H1=>∃ c,x=.bl c/\Q c H1
variable {tA tB':TT} {rest:List Expr}
noncomputable def al8 (t u:TT):TT:=fun σ H Q=>t σ H fun c H1=>if c=true then u σ H1 Q else Q false H1
noncomputable def tOr (t u:TT):TT:=fun σ H Q=>t σ H fun c H1=>if c=true then Q true H1 else u σ H1 Q
noncomputable def al9 (t:TT):TT:=fun σ H Q=>t σ H fun c H1=>Q (!c) H1
theorem aaN (ha:PT X a tA):PW X (.BoolOp .And [a] pos) tA:=by
 intro wh pins s σ H Q I h
 refine isTrue_and (thn (ha pins s σ H Q I h) fun c s1 e=>?_)
 cases c with
 | true=>exact isTrue_and_nil e
 | false=>exact e
theorem acF (ha:PT X a tA):PW X (.BoolOp .Or [a] pos) tA:=by
 intro wh pins s σ H Q I h
 refine isTrue_or (thn (ha pins s σ H Q I h) fun c s1 e=>?_)
 cases c with
 | false=>exact isTrue_or_nil e
 | true=>exact e
theorem aac (ha:PT X a tA) (hb:PW X (.BoolOp .And (b :: rest) pos) tB'):PW X (.BoolOp .And (a :: b :: rest) pos) (al8 tA tB'):=by
 intro wh pins s σ H Q I h
 refine isTrue_and (thn (ha pins s σ H _ I h) fun c s1 ⟨H1,I1,q1⟩=>?_)
 cases c with
 | true=>exact hb wh pins s1 σ H1 Q I1 q1
 | false=>exact⟨H1,I1,q1⟩
theorem afK (ha:PT X a tA) (hb:PW X (.BoolOp .Or (b :: rest) pos) tB'):PW X (.BoolOp .Or (a :: b :: rest) pos) (tOr tA tB'):=by
 intro wh pins s σ H Q I h
 refine isTrue_or (thn (ha pins s σ H _ I h) fun c s1 ⟨H1,I1,q1⟩=>?_)
 cases c with
 | true=>exact⟨H1,I1,q1⟩
 | false=>exact hb wh pins s1 σ H1 Q I1 q1
theorem vy (ha:PT X a tA):PT X (.UnaryOp .Not a pos) (al9 tA):=by
 intro pins s σ H Q I h
 exact isTrue_not (ha pins s σ H (fun c H1=>Q (!c) H1) I h)
noncomputable def ahZ (ta tb:TE):TE:=fun σ H Q=>ta σ H fun x H1=>∃ c,x=.bl c/\if c=true then tb σ H1 Q else Q (.bl false) H1
theorem acG {op} {t:TE} (h:PE X a t):PE X (.BoolOp op [a] pos) t:=fun pins s σ H Q I hw=>BoolOp_one (h pins s σ H Q I hw)
theorem aa3 (ha:PE X a ta) (hb:PE X (.BoolOp .And (b :: rest) pos) tb):PE X (.BoolOp .And (a :: b :: rest) pos) (ahZ ta tb):=by
 intro pins s σ H Q I h
 refine BoolOp_and (thn (ha pins s σ H _ I h) fun v s1 ⟨x,H1,I1,r1,q1⟩=>?_)
 obtain⟨c,rfl,q1⟩:=q1
 cases r1
 refine wpAny_truthy_bool ?_
 cases c with
 | true=>exact hb pins s1 σ H1 Q I1 q1
 | false=>exact⟨.bl false,H1,I1,rfl,q1⟩
noncomputable def tIf (t:TT) (ta tb:TE):TE:=fun σ H Q=>t σ H fun c H1=>if c=true then ta σ H1 Q else tb σ H1 Q
theorem ah0 {c:Expr} (hc:PT X c tA) (ha:PE X a ta) (hb:PE X b tb):PE X (.IfExp c a b pos) (tIf tA ta tb):=by
 intro pins s σ H Q I h
 refine wpAny_IfExp (thn (hc pins s σ H _ I h) fun d s1 ⟨H1,I1,q1⟩=>?_)
 cases d with
 | true=>exact ha pins s1 σ H1 Q I1 q1
 | false=>exact hb pins s1 σ H1 Q I1 q1
end
noncomputable def SqL (K:apj) (H:Hp) (a:Addr) (xs:List V):Prop :=
 Rd H a (.lst xs) \/
  ∃ (o:Obj) (its:Array Value) (n:Nat),K.lookup a=some o/\o.cls=.type "list"/\o.dict=none/\o.data=.seq its n/\its.size<=sizeLine/\Vals xs its.toList
noncomputable def SqT (K:apj) (H:Hp) (a:Addr) (xs:List V):Prop :=
 Rd H a (.tup xs) \/
  ∃ (o:Obj) (its:Array Value) (n:Nat),K.lookup a=some o/\o.cls=.type "tuple"/\o.data=.seq its n/\its.size<=sizeLine/\Vals xs its.toList
noncomputable def ao4:Value->Option V
 | .none=>some .non
 | .bool b=>some (.bl b)
 | .int i _=>some (.int i)
 | .str x _=>some (.str x)
 | .bytes b _=>some (.byt b)
 | .float b _=>some (.flt b)
 | .ref a=>some (.ref a)
 | .type n=>some (.ty n)
 | _=>none
theorem RelV.abs {x:V} {u:Value} (r:RelV x u):ao4 u=some x:=by
 cases x with
 | non=>cases r;rfl
 | bl _=>cases r;rfl
 | int _=>obtain⟨t,rfl⟩:=r;rfl
 | str _=>obtain⟨t,rfl⟩:=r;rfl
 | byt _=>obtain⟨t,rfl⟩:=r;rfl
 | flt _=>obtain⟨t,rfl⟩:=r;rfl
 | ref _=>cases r;rfl
 | ty _=>cases r;rfl
theorem RelV.inj {x y:V} {u:Value} (r:RelV x u) (q:RelV y u):x=y:=Option.some.inj (r.abs.symm.trans q.abs)
theorem Vals.inj:∀ {xs ys:List V} {us:List Value},Vals xs us->Vals ys us->xs=ys
 | _,_,_,.nil,.nil=>rfl
 | _,_,_,.cons r t,.cons r' t'=>by rw [r.inj r',Vals.inj t t']
section
variable {X:Cx} {pins:List (Addr×Obj)} {σ:St} {H:Hp} {s:Shared} {a:Addr} {xs ys:List V}
theorem SqL.of {K:apj} (h:H a=some (.lst xs)):SqL K H a xs:=.inl (.inl h)
theorem SqT.of {K:apj} (h:H a=some (.tup xs)):SqT K H a xs:=.inl (.inl h)
theorem Inv.list (I:Inv X pins σ H s) (h:SqL X.K H a xs):∃ its:List Value,Vals xs its/\PlainL s.heap a its.toArray/\xs.length<=sizeLine:=by
 rcases h with h | ⟨o,its,n,hk,hc,hd,hs,hz,r⟩
 ·obtain⟨z,its,n,r,e⟩:=h.ok I.hok
  exact⟨its,r,⟨_,n,e,rfl,rfl,rfl⟩,z⟩
 ·refine⟨its.toList,r,⟨o,n,I.kIn a o hk,hc,hd,by simpa using hs⟩,?_⟩
  have e:=r.length
  simp only [apD] at e
  omega
theorem Inv.tuple (I:Inv X pins σ H s) (h:SqT X.K H a xs):∃ its:List Value,Vals xs its/\IsTup s.heap a its.toArray/\xs.length<=sizeLine:=by
 rcases h with h | ⟨o,its,n,hk,hc,hs,hz,r⟩
 ·obtain⟨z,its,r,p⟩:=h.ok I.hok
  exact⟨its,r,p,z⟩
 ·refine⟨its.toList,r,⟨o,I.kIn a o hk,hc,n,by simpa using hs⟩,?_⟩
  have e:=r.length
  simp only [apD] at e
  omega
theorem Inv.list_inj (I:Inv X pins σ H s) (h:SqL X.K H a xs) (h':SqL X.K H a ys):xs=ys:=by
 obtain⟨its,r,⟨o,n,e,_,_,d⟩,_⟩:=I.list h
 obtain⟨its',r',⟨o',n',e',_,_,d'⟩,_⟩:=I.list h'
 rw [e] at e';cases e'
 rw [d] at d'
 injection d' with d1 _
 have:its=its':=by simpa using congrArg Array.toList d1
 subst this
 exact r.inj r'
theorem Inv.tuple_inj (I:Inv X pins σ H s) (h:SqT X.K H a xs) (h':SqT X.K H a ys):xs=ys:=by
 obtain⟨its,r,⟨o,e,_,n,d⟩,_⟩:=I.tuple h
 obtain⟨its',r',⟨o',e',_,n',d'⟩,_⟩:=I.tuple h'
 rw [e] at e';cases e'
 rw [d] at d'
 injection d' with d1 _
 have:its=its':=by simpa using congrArg Array.toList d1
 subst this
 exact r.inj r'
end
noncomputable abbrev Cx.wish (X:Cx) (E:Value->Shared->Prop):Cx:={ X with xe:=E }
noncomputable abbrev Cx.nox (X:Cx):Cx:=X.wish fun _ _=>False
theorem Cx.Ok.wish {X:Cx} (ok:X.Ok) (E:Value->Shared->Prop):(X.wish E).Ok :=
 ⟨ok.mod,ok.kind,ok.glob,ok.blt,ok.above,ok.inj,ok.has,ok.cab,ok.hd,ok.frames,ok.stk,ok.exf,ok.bs,ok.bsz,ok.noex,ok.exfs,ok.funs,ok.frf⟩
theorem Cx.Ok.unwish {X:Cx} {E:Value->Shared->Prop} (ok:(X.wish E).Ok):X.Ok :=
 ⟨ok.mod,ok.kind,ok.glob,ok.blt,ok.above,ok.inj,ok.has,ok.cab,ok.hd,ok.frames,ok.stk,ok.exf,ok.bs,ok.bsz,ok.noex,ok.exfs,ok.funs,ok.frf⟩
section
variable {X:Cx} {pins:List (Addr×Obj)} {σ:St} {H:Hp} {s:Shared} {E:Value->Shared->Prop}
theorem Inv.wish (I:Inv X pins σ H s) (E:Value->Shared->Prop):Inv (X.wish E) pins σ H s:=⟨I.ok.wish E,I.os,I.bare,I.base,I.loc,I.cell,I.free,I.freeC,I.pin,I.hok,I.len⟩
theorem Inv.unwish (I:Inv (X.wish E) pins σ H s):Inv X pins σ H s:=⟨I.ok.unwish,I.os,I.bare,I.base,I.loc,I.cell,I.free,I.freeC,I.pin,I.hok,I.len⟩
theorem SP.unwish {D:Ends} {f:Flow} {s':Shared} (h:SP (X.wish E) pins D f s'):SP X pins D f s':=by
 cases f with
 | next=>obtain⟨σ',H',I,q⟩:=h;exact⟨σ',H',I.unwish,q⟩
 | brk=>obtain⟨σ',H',I,q⟩:=h;exact⟨σ',H',I.unwish,q⟩
 | cont=>obtain⟨σ',H',I,q⟩:=h;exact⟨σ',H',I.unwish,q⟩
 | ret u=>obtain⟨v,σ',H',I,r,q⟩:=h;exact⟨v,σ',H',I.unwish,r,q⟩
theorem PSs.nox {st:List Stmt} {t:TS} (h:PSs X.nox st t):PSs X st t:=fun pins s σ H D I hw =>
 wpAny_mono (h pins s σ H D (I.wish _) hw) (fun _ _ q=>q.unwish) fun _ _ z=>art z
end
section
variable {X:Cx} {st:Stmt} {rest:List Stmt} {t u:TS} {e:Expr} {te:TE} {pos:Pos}
noncomputable def afL:TS:=fun D σ H=>D.nx σ H
noncomputable def qt (t u:TS):TS:=fun D σ H=>t { D with nx:=u D } σ H
theorem yk:PSs X [] afL:=fun _ _ σ H _ I h=>wpAny_execs_nil ⟨σ,H,I,h⟩
theorem zd (h1:PS X st t) (h2:PSs X rest u):PSs X (st :: rest) (qt t u):=by
 intro pins s σ H D I h
 refine wpAny_execs_cons (thn (h1 pins s σ H { D with nx:=u D } I h) fun f s1 q=>?_)
 cases f with
 | next =>
  obtain⟨σ',H',I',q⟩:=q
  exact h2 pins s1 σ' H' D I' q
 | ret v=>exact q
 | brk=>exact q
 | cont=>exact q
theorem zm (h1:PS X st t):PSs X [st] t:=by
 intro pins s σ H D I h
 refine wpAny_execs_cons (thn (h1 pins s σ H D I h) fun f s1 q=>?_)
 cases f with
 | next=>exact wpAny_execs_nil q
 | ret v=>exact q
 | brk=>exact q
 | cont=>exact q
theorem Inv.quiet {pins:List (Addr×Obj)} {σ:St} {H:Hp} {s:Shared} (I:Inv X pins σ H s):interactive X.env=false:=by simp [interactive,I.ok.kind]
noncomputable def ab4 (te:TE):TS:=fun D σ H=>te σ H fun _ H1=>D.nx σ H1
theorem jQ (he:PE X e te) (hs:swapsWith e none pos.line X.env=pure false:=by rfl):PS X (.Expr e pos) (ab4 te):=by
 intro pins s σ H D I h
 exact wpAny_Expr_any (thn (he pins s σ H _ I h) fun v s1 ⟨x,H1,I1,r1,q1⟩=>⟨σ,H1,I1,q1⟩) I.quiet hs
noncomputable def aeS (te:TE):TS:=fun D σ H=>te σ H D.rt
theorem zC (he:PE X e te):PS X (.Return (some e) pos) (aeS te):=by
 intro pins s σ H D I h
 exact wpAny_Return_some (thn (he pins s σ H _ I h) fun v s1 ⟨x,H1,I1,r1,q1⟩=>⟨x,σ,H1,I1,r1,q1⟩)
noncomputable def ah1 (c:TT) (t u:TS):TS:=fun D σ H=>c σ H fun b H1=>if b=true then t D σ H1 else u D σ H1
theorem y6 {c:Expr} {a b:List Stmt} {tc:TT} (hc:PT X c tc) (ha:PSs X a t) (hb:PSs X b u):PS X (.If c a b pos) (ah1 tc t u):=by
 intro pins s σ H D I h
 refine wpAny_If (thn (hc pins s σ H _ I h) fun d s1 ⟨H1,I1,q1⟩=>?_)
 cases d with
 | true=>exact ha pins s1 σ H1 D I1 q1
 | false=>exact hb pins s1 σ H1 D I1 q1
noncomputable def ama:TS:=fun _ _ _=>False
theorem adN:PS X st ama:=fun _ _ _ _ _ _ h=>h.elim
end
noncomputable abbrev TG:=V->St->Hp->(St->Hp->Prop)->Prop
noncomputable abbrev TGs:=List V->St->Hp->(St->Hp->Prop)->Prop
noncomputable def PG (X:Cx) (target:Expr) (t:TG):Prop :=
 ∀ (pins:List (Addr×Obj)) (s:Shared) (σ:St) (H:Hp) (v:V) (u:Value) (Q:St->Hp->Prop),Inv X pins σ H s->RelV v u->t v σ H Q ->
  wpAny (model X.prog X.w) X.A (assign target X.env u) (fun _ s'=>∃ σ' H',Inv X pins σ' H' s'/\Q σ' H') X.xe s
noncomputable def PGs (X:Cx) (ts:List Expr) (t:TGs):Prop :=
 ∀ (pins:List (Addr×Obj)) (s:Shared) (σ:St) (H:Hp) (vs:List V) (us:List Value) (Q:St->Hp->Prop),Inv X pins σ H s->Vals vs us->t vs σ H Q ->
  wpAny (model X.prog X.w) X.A (assignInOrder ((assignEach ts X.env).map (·.2)) us) (fun _ s'=>∃ σ' H',Inv X pins σ' H' s'/\Q σ' H') X.xe s
noncomputable abbrev amb:=V->V->V->Hp->(Hp->Prop)->Prop
noncomputable def aj2 (X:Cx) (t:amb):Prop :=
 ∀ (pins:List (Addr×Obj)) (s:Shared) (σ:St) (H:Hp) (o i v:V) (ov iv u:Value) (Q:Hp->Prop),Inv X pins σ H s->RelV o ov->RelV i iv->RelV v u->t o i v H Q ->
  wpAny (model X.prog X.w) X.A (setItem ov iv u) (fun _ s'=>∃ H',Inv X pins σ H' s'/\Q H') X.xe s
section
variable {X:Cx} {pos:Pos}
noncomputable def yG (i:Nat):TG:=fun v σ H Q=>Q (σ.set i (some v)) H
theorem zf {i:Nat} {x:Str} (hN:X.N.Nodup) (hi:X.N[i]?=some x) (hx:Loc X.env.scope x) (hf:X.fn x=true \/ X.env.scope.names.lookup x=some .local:=by first | exact .inl rfl | exact .inr rfl | assumption):PG X (.Name x pos) (yG i):=by
 intro pins s σ H v u Q I r h
 exact wpAny_assign_Name (vI I hN hi hx r (fun s' I'=>⟨_,H,I',h⟩) hf)
noncomputable def aj3:TGs:=fun vs σ H Q=>vs=[]/\Q σ H
noncomputable def aa4 (t:TG) (u:TGs):TGs:=fun vs σ H Q=>∃ v r,vs=v :: r/\t v σ H fun σ' H'=>u r σ' H' Q
theorem zL:PGs X [] aj3:=by
 intro pins s σ H vs us Q I r h
 obtain⟨e,h⟩:=h
 subst e
 cases r
 exact assignInOrder_nil ⟨σ,H,I,h⟩
theorem zh {e:Expr} {es:List Expr} {t:TG} {u:TGs} (h1:PG X e t) (h2:PGs X es u)
  (hs:(assignEach (e :: es) X.env).map (·.2)=assign e X.env :: (assignEach es X.env).map (·.2):=by rfl):PGs X (e :: es) (aa4 t u):=by
 intro pins s σ H vs us Q I r h
 obtain⟨v,vr,e1,h⟩:=h
 subst e1
 cases r with
 | cons r rr =>
  rw [hs]
  refine assignInOrder_cons (thn (h1 pins s σ H _ _ _ I r h) fun _ s1 ⟨σ1,H1,I1,q1⟩=>?_)
  exact h2 pins s1 σ1 H1 _ _ Q I1 rr q1
noncomputable def ah2 (K:apj) (n:Nat) (t:TGs):TG:=fun v σ H Q=>∃ a xs,v=.ref a/\SqT K H a xs/\xs.length=n/\t xs σ H Q
theorem amc {es:List Expr} {k:Nat} {t:TGs} {n:Nat} (hc:X.calm=true) (h:PGs X es t)
  (hn:(assignEach es X.env).length=n:=by rfl) (hst:(assignEach es X.env).findIdx? (·.1)=none:=by rfl):PG X (.Tuple es k pos) (ah2 X.K n t):=by
 intro pins s σ H v u Q I r hw
 obtain⟨a,xs,e1,hq,hl,hw⟩:=hw
 subst e1
 cases r
 obtain⟨its,rv,ht,hz⟩:=I.tuple hq
 refine assign_Tuple_tuple (I.ok.hd hc) ht (by simp [hn,<- hl,rv.length]) hst fun h' hx=>?_
 have I1:Inv X pins σ H { s with heap:=h' }:=I.kept (t':=s.toks) fun b o e=>hx b o (apU (apw e)) e
 exact h pins _ σ H xs _ Q I1 (by simpa using rv) hw
noncomputable def acH (to ti:TE) (t:amb):TG:=fun v σ H Q=>to σ H fun o H1=>ti σ H1 fun i H2=>t o i v H2 fun H3=>Q σ H3
theorem vz {o i:Expr} {to ti:TE} {t:amb} (ho:PE X o to) (hi:PE X i ti) (hs:aj2 X t)
  (ha:∀ v,assign (.Subscript o i pos) X.env v=(do
   let ov <- holding [v] (eval o X.env)
   let iv <- holding [v,ov] (eval i X.env)
   standAt pos
   holding [v,ov,iv] (setItem ov iv v)
   release [v,ov,iv] []):=by intro _;rfl):PG X (.Subscript o i pos) (acH to ti t):=by
 intro pins s σ H v u Q I r h
 rw [ha]
 refine wpAny_bind (wpAny_holding (thn (ho pins s σ H _ I h) fun ov s1 ⟨x,H1,I1,r1,q1⟩=>?_))
 refine wpAny_bind (wpAny_holding (thn (hi pins s1 σ H1 _ I1 q1) fun iv s2 ⟨y,H2,I2,r2,q2⟩=>?_))
 refine wpAny_bind (wpAny_standAt (wpAny_bind (wpAny_holding (thn (hs pins s2 σ H2 x y v ov iv u _ I2 r1 r2 r q2) fun _ s3 ⟨H3,I3,q3⟩=>?_))))
 exact wpAny_release ⟨σ,H3,I3,q3⟩
noncomputable def jD (te:TE) (g:TG):TS:=fun D σ H=>te σ H fun x H1=>g x σ H1 D.nx
theorem yg {tg e:Expr} {te:TE} {g:TG} (he:PE X e te) (hg:PG X tg g) (hs:swapsWithSole [tg] e pos.line X.env=pure false:=by rfl) (hw:swappedStores [tg] e X.env=pure none:=by rfl)
  (h1:(assignEach [tg] X.env).map (·.2)=[assign tg X.env]:=by rfl):PS X (.Assign [tg] e pos) (jD te g):=by
 intro pins s σ H D I h
 refine wpAny_Assign_stores (thn (he pins s σ H _ I h) fun v s1 ⟨x,H1,I1,r1,q1⟩=>?_) hs hw
 rw [h1]
 exact thn (hg pins s1 σ H1 x v _ I1 r1 q1) fun _ s2 q=>q
theorem zK {i:Nat} {x:Str} {e:Expr} {te:TE} {pos':Pos} (hN:X.N.Nodup) (hi:X.N[i]?=some x) (hx:Loc X.env.scope x) (he:PE X e te) (hs:swapsWith e (some (.Name x pos')) pos.line X.env=pure false:=by rfl) (hf:X.fn x=true \/ X.env.scope.names.lookup x=some .local:=by first | exact .inl rfl | exact .inr rfl | assumption) :
  PS X (.Assign [.Name x pos'] e pos) (jD te (yG i)):=by
 intro pins s σ H D I h
 refine wpAny_Assign_Name (thn (he pins s σ H _ I h) fun v s1 ⟨y,H1,I1,r1,q1⟩=>?_) hs
 exact vI I1 hN hi hx r1 (fun s2 I2=>⟨_,H1,I2,q1⟩) hf
noncomputable def anM (i j:Nat) (ta:TA):TS:=fun D σ H=>ta σ H fun vs H1=>∃ v w,vs=[v,w]/\D.nx ((σ.set i (some v)).set j (some w)) H1
theorem aeT {i j:Nat} {x y:Str} {a b:Expr} {ta:TA} {px py pt:Pos} {kt k2 pt2} (hc:X.calm=true) (hN:X.N.Nodup) (hi:X.N[i]?=some x) (hj:X.N[j]?=some y) (hij:i≠j)
  (hx:X.env.scope.names.lookup x=some .local) (hy:X.env.scope.names.lookup y=some .local) (ha:PA X [a,b] ta)
  (hw:swappedStores [.Tuple [.Name x px,.Name y py] kt pt] (.Tuple [a,b] k2 pt2) X.env=pure (some [x,y]))
  (hs:swapsWithSole [.Tuple [.Name x px,.Name y py] kt pt] (.Tuple [a,b] k2 pt2) pos.line X.env=pure false:=by rfl) :
  PS X (.Assign [.Tuple [.Name x px,.Name y py] kt pt] (.Tuple [a,b] k2 pt2) pos) (anM i j ta):=by
 intro pins s σ H D I h
 rw [exec_Assign_arm]
 refine wpAny_bind (wpAny_standAt ?_)
 rw [hs]
 refine wpAny_bind (wpAny_pure ?_)
 rw [if_neg (by decide)]
 refine wpAny_bind (Tuple_ (thn (ha _ pins s σ H _ I h) fun us s1 ⟨vs,H1,I1,r1,q1⟩=>?_))
 obtain⟨v,w,e1,q1⟩:=q1
 subst e1
 obtain⟨u1,u2,rfl,rv,rw'⟩:∃ u1 u2,us=[u1,u2]/\RelV v u1/\RelV w u2:=by
  cases r1 with
  | cons p q =>
   cases q with
   | cons p' q' =>
    cases q'
    exact⟨_,_,rfl,p,p'⟩
 refine wpAny_newObj_type ?_ (by show 2<=sizeLine;decide)
 have I2:Inv X pins σ H1 { s1 with heap:=s1.heap.push { cls:=.type "tuple",data:=.seq [u1,u2].toArray } }:=I1.kept (t':=s1.toks) fun b o e=>aps _ e
 rw [hw]
 refine wpAny_bind (wpAny_pure ?_)
 show wpAny (model X.prog X.w) X.A (do rule "assign.swapped-stores";let items <- unpackItems (.ref s1.heap.objs.size) 2 none;assignInOrder [fun v=>bindName X.env y v,fun v=>bindName X.env x v] items.reverse;pure Flow.next) _ _ _
 refine wpAny_bind (wpAny_rule (wpAny_bind (unpackItems_tuple (items:=#[u1,u2]) (I.ok.hd hc) (IsTup.new s1.heap _) fun h' hx'=>?_)))
 have I3:=I2.kept (h':=h') (t':=s1.toks) fun b o e=>hx' b o (apU (apw e)) e
 show wpAny _ _ (assignInOrder [fun v=>bindName X.env y v,fun v=>bindName X.env x v] [u2,u1] >>= fun _=>pure Flow.next) _ _ _
 refine wpAny_bind (assignInOrder_cons (wpAny_bindName (vI I3 hN hj (.inl hy) rw' (fun s2 I4=>?_) (.inr hy))))
 refine assignInOrder_cons (wpAny_bindName (vI I4 hN hi (.inl hx) rv (fun s3 I5=>assignInOrder_nil (wpAny_pure ?_)) (.inr hx)))
 rw [List.set_comm _ _ (arh hij)] at I5
 exact⟨_,H1,I5,q1⟩
end
section
variable {X:Cx} {pos:Pos}
noncomputable def aeU (c:TT) (tb:TS):TS:=fun D σ H=>∃ W:Nat->St->Hp->Prop,(∃ m,W m σ H)/\∀ m σ H,W m σ H ->
 c σ H fun b H1=>if b=true then ∃ N:St->Hp->Prop,(∀ σ' H',N σ' H'->∃ m',m'<m/\W m' σ' H')/\tb { D with nx:=N,ct:=N,bk:=D.nx } σ H1 else D.nx σ H1
theorem aa5 {c:Expr} {body:List Stmt} {tc:TT} {tb:TS} (hp:PassesOwn (model X.prog X.w) X.A X.env X.xe) (hc:PT X c tc) (hb:PSs X body tb):PS X (.While c body [] pos) (aeU tc tb):=by
 intro pins s σ H D I h
 obtain⟨W,⟨m0,w0⟩,turn⟩:=h
 refine wpAny_While (codeAny_whileLoop (fun n s'=>∃ σ' H',Inv X pins σ' H' s'/\W n σ' H') ?_ m0 ⟨σ,H,I,w0⟩)
 rintro n s1 ⟨σ1,H1,I1,w1⟩
 refine wpAny_passesOwn hp (thn (hc pins s1 σ1 H1 _ I1 (turn n σ1 H1 w1)) fun b s2 ⟨H2,I2,q2⟩=>?_)
 cases b with
 | true =>
  obtain⟨N,hN,q2⟩:=q2
  rw [if_pos rfl]
  refine wpAny_passesOwn hp (thn (hb pins s2 σ1 H2 _ I2 q2) fun f s3 q3=>?_)
  cases f with
  | next =>
   obtain⟨σ3,H3,I3,n3⟩:=q3
   obtain⟨m',hm,w3⟩:=hN σ3 H3 n3
   exact⟨m',hm,σ3,H3,I3,w3⟩
  | cont =>
   obtain⟨σ3,H3,I3,n3⟩:=q3
   obtain⟨m',hm,w3⟩:=hN σ3 H3 n3
   exact⟨m',hm,σ3,H3,I3,w3⟩
  | brk=>exact q3
  | ret v=>exact q3
 | false =>
  rw [if_neg apk]
  exact wpAny_execs_nil ⟨σ1,H2,I2,q2⟩
end
structure It where
 go:Nat->Hp->Prop
 yld:Nat->Hp->V->Hp->Prop
 stop:Nat->Hp->Prop
noncomputable def vK (X:Cx) (pins:List (Addr×Obj)) (H:Hp) (b:Addr):Prop :=
 H b=none/\b≠X.env.locals/\b∉X.fs/\(b∈X.ex \/ X.s₀.heap.objs.size<=b)/\(∀ x c,X.env.cells.lookup x=some c->c≠b)/\∀ p∈X.pn++pins,p.1≠b
theorem Inv.fpOk {X:Cx} {pins:List (Addr×Obj)} {σ:St} {H H':Hp} {s:Shared} {b:Addr} (I:Inv X pins σ H s) (hb:s.heap.objs.size<=b) (hn:H' b=none):vK X pins H' b:=by
 refine⟨hn,aq3 (apF I.lt hb),I.nofs hb,.inr (apO I.sz hb),fun x c e z=>?_,fun p hp z=>?_⟩
 ·obtain⟨v,q⟩:=I.cell x c e
  exact absurd (apF q.lt (by rw [z];exact hb)) (arG _)
 ·exact absurd (apF (apw (I.pin p hp).1) (by rw [z];exact hb)) (arG _)
structure Turn (P:Program) (w:World) (K:apj) (tg:Expr) (J:It) (fp:List Addr) (it:Addr) (tn:Nat->Heap->Prop):Prop where
 mem:it∈fp
 obj:∀ i h,tn i h->∀ b∈fp,∃ o,h.get? b=some o/\∀ v,o.data≠.cell v
 keep:∀ i h h',tn i h->(∀ b∈fp,∀ o,h.get? b=some o->h'.get? b=some o)->tn i h'
 item:∀ (X:Cx),X.prog=P->X.w=w->X.K=K->X.calm=true->∀ (i:Nat) (pins:List (Addr×Obj)) (s:Shared) (σ:St) (H:Hp) (E:Value->Shared->Prop),Inv X pins σ H s->(∀ b∈fp,vK X pins H b)->tn i s.heap->J.go i H ->
  wpAny (model P w) X.A (pyNext (.ref it)) (fun r s1=>∃ u,r=some u /\
   wpAny (model P w) X.A (letOwnedTupleGo tg (.ref it) u) (fun _ s2=>∃ x H',Inv X pins σ H' s2/\RelV x u/\J.yld i H x H'/\tn (i+1) s2.heap/\∀ b∈fp,H' b=none) E s1) E s
 done:∀ (X:Cx),X.prog=P->X.w=w->X.K=K->X.calm=true->∀ (i:Nat) (pins:List (Addr×Obj)) (s:Shared) (σ:St) (H:Hp) (E:Value->Shared->Prop),Inv X pins σ H s->(∀ b∈fp,vK X pins H b)->tn i s.heap->J.stop i H ->
  wpAny (model P w) X.A (pyNext (.ref it)) (fun r s1=>r=none/\Inv X pins σ H s1) E s
 self:∀ (A:Around) (i:Nat) (s:Shared) (Q:Value->Shared->Prop) (E:Value->Shared->Prop),tn i s.heap->Q (.ref it) s->wpAny (model P w) A (pyIter (.ref it)) Q E s
noncomputable abbrev TI:=St->Hp->(It->Hp->Prop)->Prop
noncomputable def PIE (X:Cx) (pins:List (Addr×Obj)) (σ:St) (tg:Expr) (R:It->Hp->Prop) (itv:Value) (s2:Shared):Prop :=
 ∃ (it:Addr) (fp:List Addr) (tn:Nat->Heap->Prop) (J:It) (H':Hp),itv=.ref it/\Inv X pins σ H' s2/\Turn X.prog X.w X.K tg J fp it tn/\tn 0 s2.heap/\(∀ b∈fp,vK X pins H' b)/\R J H'
noncomputable def PI (X:Cx) (tg iter:Expr) (wi:TI):Prop :=
 ∀ (pins:List (Addr×Obj)) (s:Shared) (σ:St) (H:Hp) (R:It->Hp->Prop),Inv X pins σ H s->wi σ H R ->
  wpAny (model X.prog X.w) X.A (eval iter X.env) (fun v s1=>wpAny (model X.prog X.w) X.A (pyIter v) (PIE X pins σ tg R) X.xe s1) X.xe s
theorem ah3 {M:Model} {A:Around} {E:Value->Shared->Prop} {s:Shared} {tg:Expr} {it:Addr} {u:Value} {o:Obj} {n:String} {vs:Array Value} {Q:Unit->Shared->Prop} (ho:s.heap.get? it=some o) (hc:o.cls=.type n) (hd:o.data=.fields vs)
  (hn:["enumerate","zip","dict_itemiterator","dict_reverseitemiterator","odict_iterator","itertools.zip_longest","itertools.pairwise"].contains n=false) (hQ:Q () s):wpAny M A (letOwnedTupleGo tg (.ref it) u) Q E s:=by
 unfold letOwnedTupleGo
 cases tg <;> first
  | exact wpAny_pure hQ
  | (cases u <;> first
    | exact wpAny_pure hQ
    | (refine wpAny_bind (wpAny_load ho ?_)
       rw [hc,hd]
       show wpAny M A (if (["enumerate","zip","dict_itemiterator","dict_reverseitemiterator","odict_iterator","itertools.zip_longest","itertools.pairwise"].contains n && vs[0]? == some (rawInt _))=true then _ else _) Q E s
       rw [if_neg (by intro h;rw [hn,aro] at h;cases h)]
       exact wpAny_pure hQ))
noncomputable def Itl (K:apj) (a:Addr):It :=
 ⟨fun i H=>∃ xs x,SqL K H a xs/\xs[i]?=some x,fun i H x H'=>H'=H/\∀ xs,SqL K H a xs->xs[i]?=some x,fun i H=>∃ xs,SqL K H a xs/\xs.length<=i⟩
noncomputable def Itt (K:apj) (a:Addr):It :=
 ⟨fun i H=>∃ xs x,SqT K H a xs/\xs[i]?=some x,fun i H x H'=>H'=H/\∀ xs,SqT K H a xs->xs[i]?=some x,fun i H=>∃ xs,SqT K H a xs/\xs.length<=i⟩
noncomputable def Itr (lo:Int) (n:Nat):It:=⟨fun i _=>i<n,fun i H x H'=>H'=H/\x=.int (lo+i),fun i _=>n<=i⟩
theorem agT {P:Program} {w:World} {K:apj} {tg:Expr} (a it:Addr):Turn P w K tg (Itl K a) [it] it (fun i h=>h.IsListIter it a i) where
 mem:=by simp
 obj:=fun i h st b hb=>by
  have e:b=it:=by simpa using hb
  subst e
  obtain⟨o,e,c,d⟩:=st
  exact⟨o,e,fun v z=>by rw [d] at z;cases z⟩
 keep:=fun i h h' st k=>st.at fun o e=>k it (by simp) o e
 item:=by
  intro X hP hw hK hc i pins s σ H E I hf st hg
  subst hP hw hK
  obtain⟨xs,x,hq,hx⟩:=hg
  obtain⟨its,rv,p,hz⟩:=I.list hq
  obtain⟨u,hu,ru⟩:=rv.get hx
  obtain⟨f0,f1,f2,f3,f4,f5⟩:=hf it (by simp)
  refine wpAny_pyNext_list_item st p.isList (x:=u) (by simpa using hu) fun h' st' sb=>?_
  have I1:Inv X pins σ H { s with heap:=h' }:=I.turned (t':=s.toks) (fun b o hb e=>(sb.2 b hb).trans e) f0 f1 f3 f4 f5
  obtain⟨o,e,c,d⟩:=id st'
  exact⟨u,rfl,ah3 (s:={ s with heap:=h' }) e c d (by decide) ⟨x,H,I1,ru,⟨rfl,fun ys hy=>by rw [I.list_inj hy hq];exact hx⟩,st',fun b hb=>(hf b hb).1⟩⟩
 done:=by
  intro X hP hw hK hc i pins s σ H E I hf st hg
  subst hP hw hK
  obtain⟨xs,hq,hx⟩:=hg
  obtain⟨its,rv,p,hz⟩:=I.list hq
  obtain⟨f0,f1,f2,f3,f4,f5⟩:=hf it (by simp)
  have hl:=rv.length
  exact wpAny_pyNext_list_end (I.ok.hd hc) st p.isList (by simp;omega) fun h' eb=>⟨rfl,I.turned (t':=s.toks) (fun b o hb e=>eb b o hb e) f0 f1 f3 f4 f5⟩
 self:=fun _ _ _ _ _ st h=>wpAny_pyIter_listiter st h
theorem aeV {P:Program} {w:World} {K:apj} {tg:Expr} (a it:Addr):Turn P w K tg (Itt K a) [it] it (fun i h=>h.IsTupleIter it a i) where
 mem:=by simp
 obj:=fun i h st b hb=>by
  have e:b=it:=by simpa using hb
  subst e
  obtain⟨o,e,c,d⟩:=st
  exact⟨o,e,fun v z=>by rw [d] at z;cases z⟩
 keep:=fun i h h' st k=>st.at fun o e=>k it (by simp) o e
 item:=by
  intro X hP hw hK hc i pins s σ H E I hf st hg
  subst hP hw hK
  obtain⟨xs,x,hq,hx⟩:=hg
  obtain⟨its,rv,p,hz⟩:=I.tuple hq
  obtain⟨u,hu,ru⟩:=rv.get hx
  obtain⟨f0,f1,f2,f3,f4,f5⟩:=hf it (by simp)
  refine wpAny_pyNext_tuple_item st (show s.heap.IsTuple a its.toArray from p) (x:=u) (by simpa using hu) fun h' st' sb=>?_
  have I1:Inv X pins σ H { s with heap:=h' }:=I.turned (t':=s.toks) (fun b o hb e=>(sb.2 b hb).trans e) f0 f1 f3 f4 f5
  obtain⟨o,e,c,d⟩:=id st'
  exact⟨u,rfl,ah3 (s:={ s with heap:=h' }) e c d (by decide) ⟨x,H,I1,ru,⟨rfl,fun ys hy=>by rw [I.tuple_inj hy hq];exact hx⟩,st',fun b hb=>(hf b hb).1⟩⟩
 done:=by
  intro X hP hw hK hc i pins s σ H E I hf st hg
  subst hP hw hK
  obtain⟨xs,hq,hx⟩:=hg
  obtain⟨its,rv,p,hz⟩:=I.tuple hq
  obtain⟨f0,f1,f2,f3,f4,f5⟩:=hf it (by simp)
  have hl:=rv.length
  exact wpAny_pyNext_tuple_end (I.ok.hd hc) st (show s.heap.IsTuple a its.toArray from p) (by simp;omega) fun h' eb=>⟨rfl,I.turned (t':=s.toks) (fun b o hb e=>eb b o hb e) f0 f1 f3 f4 f5⟩
 self:=fun _ _ _ _ _ st h=>wpAny_pyIter_tupleiter st h
theorem aeW {P:Program} {w:World} {K:apj} {tg:Expr} (it:Addr) (lo:Int) (n:Nat):Turn P w K tg (Itr lo n) [it] it (fun i h=>IsRangeIter h it (lo+(i:Nat) * 1) ((n:Int) - (i:Nat)) 1) where
 mem:=by simp
 obj:=fun i h st b hb=>by
  have e:b=it:=by simpa using hb
  subst e
  exact⟨_,st,fun v z=>by
   have z':Data.fields _=Data.cell v:=z
   cases z'⟩
 keep:=fun i h h' st k=>k it (by simp) _ st
 item:=by
  intro X hP hw hK hc i pins s σ H E I hf st hg
  subst hP hw hK
  obtain⟨f0,f1,f2,f3,f4,f5⟩:=hf it (by simp)
  have W:=Walks.range (prog:=X.prog) (w:=X.w) (I.ok.hd hc) it lo 1 n
  refine W.item i s _ _ hg st fun v h' tk hv st' kk=>?_
  obtain⟨t,rfl⟩:=hv
  have I1:Inv X pins σ H { s with heap:=h',toks:=tk }:=I.turned (fun b o hb e=>kk b o (by simpa using hb) e) f0 f1 f3 f4 f5
  refine⟨_,rfl,ah3 (s:={ s with heap:=h',toks:=tk }) (n:="range_iterator") st' rfl rfl (by decide) ⟨.int (lo+i),H,I1,⟨t,?_⟩,⟨rfl,rfl⟩,st',fun b hb=>(hf b hb).1⟩⟩
  rw [Int.mul_one]
 done:=by
  intro X hP hw hK hc i pins s σ H E I hf st hg
  subst hP hw hK
  obtain⟨f0,f1,f2,f3,f4,f5⟩:=hf it (by simp)
  exact wpAny_pyNext_range_end (I.ok.hd hc) st (by have:n<=i:=hg;omega) fun h' eb=>⟨rfl,I.turned (t':=s.toks) (fun b o hb e=>eb b o hb e) f0 f1 f3 f4 f5⟩
 self:=fun _ _ _ _ _ st h=>wpAny_pyIter_rangeiter st h
section
variable {X:Cx} {tg:Expr}
noncomputable def afM (K:apj) (tl:TE):TI:=fun σ H R=>tl σ H fun x H1=>∃ a,x=.ref a/\(∃ xs,SqL K H1 a xs)/\R (Itl K a) H1
noncomputable def amd (K:apj) (tl:TE):TI:=fun σ H R=>tl σ H fun x H1=>∃ a,x=.ref a/\(∃ xs,SqT K H1 a xs)/\R (Itt K a) H1
theorem aj4 {l:Expr} {tl:TE} (hl:PE X l tl):PI X tg l (afM X.K tl):=by
 intro pins s σ H R I h
 refine thn (hl pins s σ H _ I h) fun v s1 ⟨x,H1,I1,r1,q1⟩=>?_
 obtain⟨a,e,⟨xs,hq⟩,q⟩:=q1
 subst e
 cases r1
 obtain⟨its,rv,p,hz⟩:=I1.list hq
 refine wpAny_pyIter_list p.isList ?_
 refine⟨s1.heap.objs.size,[s1.heap.objs.size],_,_,H1,rfl,I1.kept (t':=s1.toks) fun b o e=>aps _ e,agT a _,⟨_,apI _ rfl,rfl,rfl⟩,fun b hb=>?_,q⟩
 have e:b=s1.heap.objs.size:=by simpa using hb
 subst e
 exact I1.fpOk (apr _) (I1.hok.fresh (apr _))
theorem ame {l:Expr} {tl:TE} (hl:PE X l tl):PI X tg l (amd X.K tl):=by
 intro pins s σ H R I h
 refine thn (hl pins s σ H _ I h) fun v s1 ⟨x,H1,I1,r1,q1⟩=>?_
 obtain⟨a,e,⟨xs,hq⟩,q⟩:=q1
 subst e
 cases r1
 obtain⟨its,rv,p,hz⟩:=I1.tuple hq
 refine wpAny_pyIter_tuple (show s1.heap.IsTuple a its.toArray from p) ?_
 refine⟨s1.heap.objs.size,[s1.heap.objs.size],_,_,H1,rfl,I1.kept (t':=s1.toks) fun b o e=>aps _ e,aeV a _,⟨_,apI _ rfl,rfl,rfl⟩,fun b hb=>?_,q⟩
 have e:b=s1.heap.objs.size:=by simpa using hb
 subst e
 exact I1.fpOk (apr _) (I1.hok.fresh (apr _))
theorem ah4 {pins:List (Addr×Obj)} {σ:St} {H:Hp} {s:Shared} {R:It->Hp->Prop} {E:Value->Shared->Prop} {lo hi:Int} {t u v:Tok} {tk:Nat} (I:Inv X pins σ H s) (h1:-(2 ^ 62)<=lo) (h2:lo<2 ^ 62) (h3:-(2 ^ 62)<=hi) (h4:hi<2 ^ 62)
  (q:R (Itr lo (hi - lo).toNat) H):wpAny (model X.prog X.w) X.A (pyIter (.ref s.heap.objs.size)) (PIE X pins σ tg R) E { s with heap:=s.heap.push { cls:=.type "range",data:=.fields #[.int lo t,.int hi u,.int 1 v] },toks:=tk }:=by
 refine wpAny_pyIter_range (IsRange.new ..) (small_one h1 h2 h3 h4) ?_
 have I1:Inv X pins σ H { s with heap:=s.heap.push { cls:=.type "range",data:=.fields #[.int lo t,.int hi u,.int 1 v] },toks:=tk }:=I.kept fun b o e=>aps _ e
 refine⟨(s.heap.push { cls:=.type "range",data:=.fields #[.int lo t,.int hi u,.int 1 v] }).objs.size,[(s.heap.push { cls:=.type "range",data:=.fields #[.int lo t,.int hi u,.int 1 v] }).objs.size],_,_,H,rfl,
  I1.kept (t':=tk) fun b o e=>aps _ e,aeW _ lo (hi - lo).toNat,?_,fun b hb=>?_,q⟩
 ·have e1:lo+((0:Nat):Int) * 1=lo:=by simp
  have e2:(((hi - lo).toNat:Nat):Int) - ((0:Nat):Int)=Builtin.Range.rangeSize lo hi 1:=by rw [rangeSize_one];split <;> omega
  show IsRangeIter _ _ (lo+((0:Nat):Int) * 1) ((((hi - lo).toNat:Nat):Int) - ((0:Nat):Int)) 1
  rw [e1,e2]
  exact apI _ rfl
 ·have e:b=(s.heap.push { cls:=.type "range",data:=.fields #[.int lo t,.int hi u,.int 1 v] }).objs.size:=by simpa using hb
  subst e
  exact I1.fpOk (apr _) (I1.hok.fresh (apr _))
noncomputable def afN (ta:TA):TI:=fun σ H R=>ta σ H fun vs H1=>∃ j:Int,vs=[.int j]/\-(2 ^ 62)<=j/\j<2 ^ 62/\R (Itr 0 j.toNat) H1
theorem y7 {a:Expr} {ta:TA} {p pos:Pos} (hg:Gl X "range") (hm:X.mg "range"=none) (ha:PA X [a] ta) (hs:starEach [a] X.env=[(false,eval a X.env)]:=by rfl):PI X tg (.Call (.Name "range" p) [a] [] pos) (afN ta):=by
 intro pins s σ H R I h
 refine Call_ (vw I hg hm boot_range (aqE (thn (ha pos pins s σ H _ I h) fun us s1 ⟨vs,H1,I1,r1,q1⟩=>?_) hs rfl))
 obtain⟨j,e,q1,q2,q⟩:=q1
 subst e
 cases r1 with
 | cons r rr =>
  cases rr
  obtain⟨t,rfl⟩:=r
  exact call_range_1 (ah4 I1 (by omega) (by omega) q1 q2 (by simpa using q))
noncomputable def agU (wi:TI) (g:TG) (tb:TS):TS:=fun D σ H=>wi σ H fun J H1=>∃ W:Nat->Nat->St->Hp->Prop,(∃ m,W 0 m σ H1)/\∀ i m σ H,W i m σ H ->
 (J.stop i H/\D.nx σ H) \/ (J.go i H/\∃ N:St->Hp->Prop,(∀ σ' H',N σ' H'->∃ m',m'<m/\W (i+1) m' σ' H')/\∀ x H',J.yld i H x H'->g x σ H' fun σ2 H2=>tb { D with nx:=N,ct:=N,bk:=D.nx } σ2 H2)
noncomputable def aa6 (fp:List Addr) (h:Heap):List (Addr×Obj):=fp.filterMap fun b=>(h.get? b).map fun o=>(b,o)
theorem qu {fp:List Addr} {h:Heap} {b:Addr} {o:Obj} (hb:b∈fp) (e:h.get? b=some o):(b,o)∈aa6 fp h:=asx.mpr ⟨b,hb,by rw [e];rfl⟩
theorem agV {fp:List Addr} {h:Heap} {p:Addr×Obj} (hp:p∈aa6 fp h):p.1∈fp/\h.get? p.1=some p.2:=by
 obtain⟨b,hb,e⟩:=asx.mp hp
 cases q:h.get? b with
 | none=>rw [q] at e;cases e
 | some o =>
  rw [q] at e
  have e':(b,o)=p:=Option.some.inj e
  subst e'
  exact⟨hb,q⟩
theorem Inv.pinned {pins:List (Addr×Obj)} {σ:St} {H:Hp} {s:Shared} {fp:List Addr} (I:Inv X pins σ H s) (hf:∀ b∈fp,vK X pins H b) (ho:∀ b∈fp,∃ o,s.heap.get? b=some o/\∀ v,o.data≠.cell v):Inv X (pins++aa6 fp s.heap) σ H s :=
 I.pins_of fun p hp=>(apC.mp hp).elim (fun z=>I.pin p (apy _ z)) fun z=>by
  obtain⟨hb,e⟩:=agV z
  obtain⟨f0,f1,f2,_⟩:=hf p.1 hb
  obtain⟨o,e',d⟩:=ho p.1 hb
  rw [e] at e';cases e'
  exact⟨e,f0,f1,f2,d⟩
theorem Inv.unpinned {pins pl:List (Addr×Obj)} {σ:St} {H:Hp} {s:Shared} (I:Inv X (pins++pl) σ H s):Inv X pins σ H s:=I.pins_of fun p hp=>I.pin p (apy _ (apN _ hp))
theorem jo {iter:Expr} {body:List Stmt} {wi:TI} {g:TG} {tb:TS} {pos:Pos} (hp:PassesOwn (model X.prog X.w) X.A X.env X.xe) (hc:X.calm=true) (hi:PI X tg iter wi) (hg:PG X tg g) (hb:PSs X body tb)
  (hs:∀ x,foldedSetIterable iter X.env x=pure x:=by intro _;rfl):PS X (.For tg iter body [] pos) (agU wi g tb):=by
 intro pins s σ H D I h
 refine wpAny_For (thn (hi pins s σ H _ I h) fun v s1 h1=>thn h1 fun itv s2 h2=>?_) hs
 obtain⟨it,fp,tn,J,H2,e,I2,T,st2,f2,W,⟨m0,w0⟩,turn⟩:=h2
 subst e
 -- what stays true of the iterator's objects through the loop
 have stat:∀ {H':Hp},(∀ b∈fp,H' b=none)->∀ b∈fp,vK X pins H' b:=fun hn b hb=>⟨hn b hb,(f2 b hb).2⟩
 refine codeAny_forLoop_any (fun n s'=>∃ i σ' H',Inv X pins σ' H' s'/\tn i s'.heap/\(∀ b∈fp,H' b=none)/\W i n σ' H') ?_ m0 ⟨0,σ,H2,I2,st2,fun b hb=>(f2 b hb).1,w0⟩
 rintro n s3 ⟨i,σ3,H3,I3,st3,fr3,w3⟩
 rcases turn i n σ3 H3 w3 with⟨stop,qn⟩ | ⟨go,N,hN,step⟩
 ·refine wpAny_passesOwn hp (thn (T.done X rfl rfl rfl hc i pins s3 σ3 H3 X.xe I3 (stat fr3) st3 stop) fun r s4 ⟨hr,I4⟩=>?_)
  subst hr
  exact wpAny_execs_nil ⟨σ3,H3,I4,qn⟩
 ·refine wpAny_passesOwn hp (thn (T.item X rfl rfl rfl hc i pins s3 σ3 H3 X.xe I3 (stat fr3) st3 go) fun r s4 ⟨u,hr,h4⟩=>?_)
  subst hr
  refine wpAny_passesOwn hp (thn h4 fun _ s5 ⟨x,H5,I5,r5,y5,st5,fr5⟩=>?_)
  have I5':=I5.pinned (stat fr5) (T.obj _ _ st5)
  refine wpAny_passesOwn hp (thn (hg _ s5 σ3 H5 x u _ I5' r5 (step x H5 y5)) fun _ s6 ⟨σ6,H6,I6,q6⟩=>?_)
  refine wpAny_passesOwn hp (thn (hb _ s6 σ6 H6 _ I6 q6) fun f s7 q7=>?_)
  have again:∀ {σ7:St} {H7:Hp},Inv X (pins++aa6 fp s5.heap) σ7 H7 s7->N σ7 H7->∃ m,m<n/\∃ i σ' H',Inv X pins σ' H' s7/\tn i s7.heap/\(∀ b∈fp,H' b=none)/\W i m σ' H':=fun {σ7 H7} I7 n7=>by
   obtain⟨m',hm,w7⟩:=hN σ7 H7 n7
   refine⟨m',hm,i+1,σ7,H7,I7.unpinned,T.keep _ _ _ st5 fun b hb o e=>(I7.pin (b,o) (apy _ (apy _ (qu hb e)))).1,fun b hb=>?_,w7⟩
   obtain⟨o,e,d⟩:=T.obj _ _ st5 b hb
   exact (I7.pin (b,o) (apy _ (apy _ (qu hb e)))).2.1
  cases f with
  | next=>obtain⟨σ7,H7,I7,n7⟩:=q7;exact again I7 n7
  | cont=>obtain⟨σ7,H7,I7,n7⟩:=q7;exact again I7 n7
  | brk=>obtain⟨σ7,H7,I7,q7⟩:=q7;exact⟨σ7,H7,I7.unpinned,q7⟩
  | ret v=>obtain⟨x7,σ7,H7,I7,r7,q7⟩:=q7;exact⟨x7,σ7,H7,I7.unpinned,r7,q7⟩
end
noncomputable abbrev R2:=V->V->Hp->VK->Prop
noncomputable def OpR (X:Cx) (f:Value->Value->Sem Value) (r:R2):Prop :=
 ∀ (pins:List (Addr×Obj)) (s:Shared) (σ:St) (H:Hp) (x y:V) (v u:Value) (Q:VK),Inv X pins σ H s->RelV x v->RelV y u->r x y H Q ->
  wpAny (model X.prog X.w) X.A (f v u) (EP X pins σ Q) X.xe s
noncomputable def UnR (X:Cx) (f:Value->Sem Value) (r:V->Hp->VK->Prop):Prop :=
 ∀ (pins:List (Addr×Obj)) (s:Shared) (σ:St) (H:Hp) (x:V) (v:Value) (Q:VK),Inv X pins σ H s->RelV x v->r x H Q ->
  wpAny (model X.prog X.w) X.A (f v) (EP X pins σ Q) X.xe s
noncomputable def yN (X:Cx) (f:Value) (r:List V->Hp->VK->Prop):Prop :=
 ∀ (pins:List (Addr×Obj)) (s:Shared) (σ:St) (H:Hp) (xs:List V) (us:List Value) (Q:VK),Inv X pins σ H s->Vals xs us->r xs H Q ->
  wpAny (model X.prog X.w) X.A (call f us) (EP X pins σ Q) X.xe s
noncomputable def ao5 (X:Cx) (r:V->Hp->(Bool->Hp->Prop)->Prop):Prop :=
 ∀ (pins:List (Addr×Obj)) (s:Shared) (σ:St) (H:Hp) (x:V) (v:Value) (Q:Bool->Hp->Prop),Inv X pins σ H s->RelV x v->r x H Q ->
  wpAny (model X.prog X.w) X.A (truthy v) (TP X pins σ Q) X.xe s
noncomputable def tOp (r:R2) (ta tb:TE):TE:=fun σ H Q=>ta σ H fun x H1=>tb σ H1 fun y H2=>r x y H2 Q
noncomputable def tUn (r:V->Hp->VK->Prop) (ta:TE):TE:=fun σ H Q=>ta σ H fun x H1=>r x H1 Q
noncomputable def rI (C:Int->Int->Prop) (g:Int->Int->V):R2:=fun x y H Q=>∃ i j,x=.int i/\y=.int j/\C i j/\Q (g i j) H
noncomputable def rI0 (g:Int->Int->V):R2:=fun x y H Q=>∃ i j,x=.int i/\y=.int j/\Q (g i j) H
noncomputable def rU (g:Int->V):V->Hp->VK->Prop:=fun x H Q=>∃ i,x=.int i/\Q (g i) H
section
variable {X:Cx} {a b c:Expr} {ta tb tc:TE} {pos:Pos}
theorem amf (ha:PE X a ta) (hb:PE X b tb) {pins:List (Addr×Obj)} {s:Shared} {σ:St} {H:Hp} {R:V->V->Hp->Prop} (I:Inv X pins σ H s)
  (h:ta σ H fun x H1=>tb σ H1 fun y H2=>R x y H2) {Q:Value->Shared->Prop} {f:Value->Value->Sem Value}
  (hf:∀ v u s2 x y H2,Inv X pins σ H2 s2->RelV x v->RelV y u->R x y H2->wpAny (model X.prog X.w) X.A (f v u) Q X.xe s2) :
  wpAny (model X.prog X.w) X.A (eval a X.env) (fun v s₁=>wpAny (model X.prog X.w) X.A (eval b X.env) (fun u s₂=>wpAny (model X.prog X.w) X.A (f v u) Q X.xe s₂) X.xe s₁) X.xe s:=by
 refine thn (ha pins s σ H _ I h) fun v s1 ⟨x,H1,I1,r1,q1⟩=>?_
 refine thn (hb pins s1 σ H1 _ I1 q1) fun u s2 ⟨y,H2,I2,r2,q2⟩=>?_
 exact hf v u s2 x y H2 I2 r1 r2 q2
theorem zl {op:Operator} {r:R2} (ho:OpR X (binaryOp op) r) (ha:PE X a ta) (hb:PE X b tb):PE X (.BinOp a op b pos) (tOp r ta tb):=by
 intro pins s σ H Q I h
 exact wpAny_BinOp (amf ha hb I h fun v u s2 x y H2 I2 rx ry q=>ho pins s2 σ H2 x y v u Q I2 rx ry q)
theorem anN {op:UnaryOp} {r:V->Hp->VK->Prop} (ho:UnR X (unaryOp op) r) (ha:PE X a ta):PE X (.UnaryOp op a pos) (tUn r ta):=by
 intro pins s σ H Q I h
 exact UnaryOp_ (thn (ha pins s σ H _ I h) fun v s1 ⟨x,H1,I1,r1,q1⟩=>ho pins s1 σ H1 x v Q I1 r1 q1)
theorem opI {f:Value->Value->Sem Value} {C:Int->Int->Prop} {g:Int->Int->Int}
  (rule:∀ (i j:Int) (t u:Tok) (s:Shared) (Q:Value->Shared->Prop) (E:Value->Shared->Prop),C i j->Q (.int (g i j) s.toks) { s with toks:=s.toks+1 }->wpAny (model X.prog X.w) X.A (f (.int i t) (.int j u)) Q E s) :
  OpR X f (rI C fun i j=>.int (g i j)):=by
 intro pins s σ H x y v u Q I rx ry h
 obtain⟨i,j,rfl,rfl,hc,q⟩:=h
 obtain⟨t,rfl⟩:=rx
 obtain⟨t',rfl⟩:=ry
 exact rule i j t t' s _ _ hc ⟨.int (g i j),H,I.tok _,⟨_,rfl⟩,q⟩
theorem anO {f:Value->Value->Sem Value} {g:Int->Int->Int}
  (rule:∀ (i j:Int) (t u:Tok) (s:Shared) (Q:Value->Shared->Prop) (E:Value->Shared->Prop),Q (.int (g i j) s.toks) { s with toks:=s.toks+1 }->wpAny (model X.prog X.w) X.A (f (.int i t) (.int j u)) Q E s) :
  OpR X f (rI0 fun i j=>.int (g i j)):=by
 intro pins s σ H x y v u Q I rx ry h
 obtain⟨i,j,rfl,rfl,q⟩:=h
 obtain⟨t,rfl⟩:=rx
 obtain⟨t',rfl⟩:=ry
 exact rule i j t t' s _ _ ⟨.int (g i j),H,I.tok _,⟨_,rfl⟩,q⟩
theorem aj5 {f:Value->Value->Sem Value} {g:Int->Int->Bool}
  (rule:∀ (i j:Int) (t u:Tok) (s:Shared) (Q:Value->Shared->Prop) (E:Value->Shared->Prop),Q (.bool (g i j)) s->wpAny (model X.prog X.w) X.A (f (.int i t) (.int j u)) Q E s) :
  OpR X f (rI0 fun i j=>.bl (g i j)):=by
 intro pins s σ H x y v u Q I rx ry h
 obtain⟨i,j,rfl,rfl,q⟩:=h
 obtain⟨t,rfl⟩:=rx
 obtain⟨t',rfl⟩:=ry
 exact rule i j t t' s _ _ ⟨.bl (g i j),H,I,rfl,q⟩
noncomputable def ao6 (i j:Int):Prop:=0<=j/\j<=1000000/\i.natAbs<2 ^ 64
noncomputable def CMul (i j:Int):Prop:=(-(2 ^ 64)<i/\i<2 ^ 64) \/ (-(2 ^ 64)<j/\j<2 ^ 64)
theorem CMul.ok {i j:Int} (h:CMul i j):IntMulOk i j:=by
 rcases h with⟨h1,h2⟩ | ⟨h1,h2⟩
 ·exact .of_left (intBits_le_64 h1 h2)
 ·exact .of_right (intBits_le_64 h1 h2)
theorem zO:OpR X (binaryOp .Add) (rI0 fun i j=>.int (i+j)):=anO fun _ _ _ _ _ _ _ q=>add_int q
theorem yh:OpR X (binaryOp .Sub) (rI0 fun i j=>.int (i - j)):=anO fun _ _ _ _ _ _ _ q=>sub_int q
theorem vA:OpR X (binaryOp .Mult) (rI CMul fun i j=>.int (i * j)):=opI fun _ _ _ _ _ _ _ hc q=>mul_int q hc.ok
theorem yV:OpR X (binaryOp .Mod) (rI (fun _ j=>0<j) fun i j=>.int (i % j)):=opI fun i j _ _ _ _ _ hc q=>by
 have h1:(0:Int)<j:=hc
 exact mod_int' (by omega) (by rw [Int.fmod_eq_emod_of_nonneg i (by omega)];exact q)
theorem aa7:OpR X (binaryOp .Pow) (rI ao6 fun i j=>.int (i ^ j.toNat)):=opI fun _ _ _ _ _ _ _ hc q=>pow_int_small hc.1 hc.2.1 hc.2.2 q
theorem unI {f:Value->Sem Value} {g:Int->Int}
  (rule:∀ (i:Int) (t:Tok) (s:Shared) (Q:Value->Shared->Prop) (E:Value->Shared->Prop),Q (.int (g i) s.toks) { s with toks:=s.toks+1 }->wpAny (model X.prog X.w) X.A (f (.int i t)) Q E s) :
  UnR X f (rU fun i=>.int (g i)):=by
 intro pins s σ H x v Q I rx h
 obtain⟨i,rfl,q⟩:=h
 obtain⟨t,rfl⟩:=rx
 exact rule i t s _ _ ⟨.int (g i),H,I.tok _,⟨_,rfl⟩,q⟩
theorem amg:UnR X (unaryOp .USub) (rU fun i=>.int (-i)):=unI fun _ _ _ _ _ q=>neg_int q
end
section
variable {X:Cx} {a b c:Expr} {ta tb tc:TE} {pos:Pos}
theorem amh {pins:List (Addr×Obj)} {σ:St} {H:Hp} {s:Shared} {Q:VK} {k k':Bool} (I:Inv X pins σ H s) (q:Q (.bl k) H) (e:k=k'):EP X pins σ Q (.bool k') s:=by
 subst e
 exact⟨.bl k,H,I,rfl,q⟩
theorem ah5:OpR X (compareOp .Lt) (rI0 fun i j=>.bl (decide (i<j))):=aj5 fun _ _ _ _ _ _ _ q=>lt_int q
theorem ab5:OpR X (compareOp .LtE) (rI0 fun i j=>.bl (decide (i<=j))):=aj5 fun _ _ _ _ _ _ _ q=>le_int q
theorem adO:OpR X (compareOp .Gt) (rI0 fun i j=>.bl (decide (j<i))):=aj5 fun _ _ _ _ _ _ _ q=>gt_int q
theorem ah6:OpR X (compareOp .GtE) (rI0 fun i j=>.bl (decide (j<=i))):=aj5 fun _ _ _ _ _ _ _ q=>ge_int q
theorem aj6:OpR X (compareOp .IsNot) (fun x y H Q=>y=.non/\Q (.bl (!decide (x=.non))) H):=by
 intro pins s σ H x y v u Q I rx ry h
 obtain⟨rfl,q⟩:=h
 cases ry
 refine isnot_none_gen (amh I q ?_)
 cases x <;> first
  | (cases rx;rfl)
  | (obtain⟨t,rfl⟩:=rx;rfl)
theorem yo (b:Expr) {op:CmpOp} (h:op≠.In:=by decide) (h2:op≠.NotIn:=by decide):behindInMarks op b=false:=by
 have e1:(op == CmpOp.In)=false:=by cases op <;> first | rfl | exact absurd rfl h
 have e2:(op == CmpOp.NotIn)=false:=by cases op <;> first | rfl | exact absurd rfl h2
 cases b <;> simp [behindInMarks,e1,e2]
theorem jt {op:CmpOp} {r:R2} (ho:OpR X (compareOp op) r) (ha:PE X a ta) (hb:PE X b tb) (hm:behindInMarks op b=false):PE X (.Compare a [op] [b] pos) (tOp r ta tb):=by
 intro pins s σ H Q I h
 exact wpAny_Compare1 (amf ha hb I h fun v u s2 x y H2 I2 rx ry q=>ho pins s2 σ H2 x y v u Q I2 rx ry q) hm
noncomputable def adP (t:TE):TT:=fun σ H Q=>t σ H fun x H'=>∃ k,x=.bl k/\Q k H'
theorem ye {op:CmpOp} {r:R2} (ho:OpR X (compareOp op) r) (ha:PE X a ta) (hb:PE X b tb) (hm:behindInMarks op b=false):PT X (.Compare a [op] [b] pos) (adP (tOp r ta tb)):=by
 intro pins s σ H Q I h
 refine wpAny_isTrue_Compare1 (thn (ha pins s σ H _ I h) fun v s1 ⟨x,H1,I1,r1,q1⟩=>thn (hb pins s1 σ H1 _ I1 q1) fun u s2 ⟨y,H2,I2,r2,q2⟩ =>
  thn (ho pins s2 σ H2 x y v u _ I2 r1 r2 q2) fun c s3 ⟨z,H3,I3,r3,k,e,q3⟩=>?_) hm
 subst e
 cases r3
 exact wpAny_truthy_bool ⟨H3,I3,q3⟩
noncomputable def ah7 (r r':R2) (ta tb tc:TE):TE:=fun σ H Q=>ta σ H fun x H1=>tb σ H1 fun y H2=>r x y H2 fun z H3=>∃ k,z=.bl k /\
 (if k=true then tc σ H3 fun w' H4=>r' y w' H4 Q else Q (.bl false) H3)
theorem aa8 {op op':CmpOp} {r r':R2} (ho:OpR X (compareOp op) r) (ho':OpR X (compareOp op') r') (ha:PE X a ta) (hb:PE X b tb) (hc:PE X c tc)
  (hm:lastMarks [op,op'] [b,c]=false:=by with_unfolding_all rfl):PE X (.Compare a [op,op'] [b,c] pos) (ah7 r r' ta tb tc):=by
 intro pins s σ H Q I h
 refine Compare_chain (thn (ha pins s σ H _ I h) fun v s1 ⟨x,H1,I1,r1,q1⟩=>chain_link (thn (hb pins s1 σ H1 _ I1 q1) fun u s2 ⟨y,H2,I2,r2,q2⟩ =>
  thn (ho pins s2 σ H2 x y v u _ I2 r1 r2 q2) fun d s3 ⟨z,H3,I3,r3,k,e,q3⟩=>?_)) hm
 subst e
 cases r3
 refine wpAny_truthy_bool ?_
 cases k with
 | false=>exact ite_ff ⟨.bl false,H3,I3,rfl,q3⟩
 | true=>exact ite_tt (chain_last (thn (hc pins s3 σ H3 _ I3 q3) fun w' s4 ⟨z',H4,I4,r4,q4⟩=>ho' pins s4 σ H4 y z' u w' Q I4 r2 r4 q4))
noncomputable def ami (K:apj) (x:V) (H:Hp) (k:Bool):Prop :=
 match x with
 | .non=>k=false
 | .bl b=>k=b
 | .int i=>k=(i != 0)
 | .str y=>y.length<=sizeLine/\k=((y.length:Int) != 0)
 | .byt y=>y.size<=sizeLine/\k=((y.size:Int) != 0)
 | .ref p=>(∃ xs,SqL K H p xs/\k=!xs.isEmpty) \/ (∃ xs,SqT K H p xs/\k=!xs.isEmpty) \/ ∃ kvs,H p=some (.dK kvs)/\k=!kvs.isEmpty
 | _=>False
theorem aeX {κ:Type} {kvs:List (κ×V)} {vs:List (κ×Value)} (r:KV kvs vs):(!vs.isEmpty)=!kvs.isEmpty:=by
 cases r <;> rfl
theorem aa9 {xs:List V} {its:List Value} (r:Vals xs its):(!its.toArray.isEmpty)=!xs.isEmpty:=by
 cases r <;> simp
theorem aba:(sizeLine:Nat)<2 ^ 63:=by rw [sizeLine_eq];decide
theorem amj:ao5 X (fun x H Q=>∃ k,ami X.K x H k/\Q k H):=by
 intro pins s σ H x v Q I rx h
 obtain⟨k,e,q⟩:=h
 have hl:=aba
 have hs:sizeLine=16777216:=sizeLine_eq
 cases x with
 | non =>
  cases rx
  have e':k=false:=e
  subst e'
  exact truthy_none ⟨H,I,q⟩
 | bl b =>
  cases rx
  have e':k=b:=e
  subst e'
  exact wpAny_truthy_bool ⟨H,I,q⟩
 | int i =>
  obtain⟨t,rfl⟩:=rx
  have e':k=(i != 0):=e
  subst e'
  exact PySem.P.truthy_int ⟨H,I,q⟩
 | str y =>
  obtain⟨t,rfl⟩:=rx
  obtain⟨hy,e'⟩:y.length<=sizeLine/\k=((y.length:Int) != 0):=e
  subst e'
  exact PySem.P.truthy_str (by omega) ⟨H,I.tok _,q⟩
 | byt y =>
  obtain⟨t,rfl⟩:=rx
  obtain⟨hy,e'⟩:y.size<=sizeLine/\k=((y.size:Int) != 0):=e
  subst e'
  exact PySem.W.truthy_bytes (by omega) ⟨H,I.tok _,q⟩
 | ref p =>
  cases rx
  have e':(∃ xs,SqL X.K H p xs/\k=!xs.isEmpty) \/ (∃ xs,SqT X.K H p xs/\k=!xs.isEmpty) \/ ∃ kvs,H p=some (.dK kvs)/\k=!kvs.isEmpty:=e
  rcases e' with⟨xs,hx,e'⟩ | ⟨xs,hx,e'⟩ | ⟨kvs,hx,e'⟩
  ·subst e'
   obtain⟨its,r,pl,hz⟩:=I.list hx
   have hlen:=r.length
   exact wpAny_truthy_list pl.isList (by simp only [apH];omega) ⟨H,I.tok _,by rw [aa9 r];exact q⟩
  ·subst e'
   obtain⟨its,r,pl,hz⟩:=I.tuple hx
   have hlen:=r.length
   exact truthy_tuple pl (by simp only [apH];omega) ⟨H,I.tok _,by rw [aa9 r];exact q⟩
  ·subst e'
   obtain⟨hz,hS,vs,r,m⟩:kvs.length<=sizeLine/\(p == sysModules)=false/\∃ vs,KV kvs vs/\s.heap.DictOf (acD X.prog X.w) p vs:=I.hok p _ hx
   have hlen:kvs.length=vs.length:=Paired.length r
   exact wpAny_truthy_dict hS m (by omega) ⟨H,I.tok _,by rw [aeX r];exact q⟩
 | _=>exact (show False from e).elim
theorem ah8 (ha:PE X a ta) (he:∀ whole,isTrue a X.env whole=(do let v <- whole;standAt a.pos;holding [v] (truthy v))) :
  PT X a (fun σ H Q=>ta σ H fun x H'=>∃ k,ami X.K x H' k/\Q k H'):=by
 intro pins s σ H Q I h
 exact isTrue_plain (thn (ha pins s σ H _ I h) fun v s1 ⟨x,H1,I1,r1,q1⟩=>amj pins s1 σ H1 x v Q I1 r1 q1) (he _)
theorem vals1 {x:V} {us:List Value} (r:Vals [x] us):∃ u,us=[u]/\RelV x u:=by
 cases r with
 | cons r1 r2=>cases r2;exact⟨_,rfl,r1⟩
theorem vals2 {x y:V} {us:List Value} (r:Vals [x,y] us):∃ u w',us=[u,w']/\RelV x u/\RelV y w':=by
 cases r with
 | cons r1 r2 =>
  cases r2 with
  | cons r3 r4=>cases r4;exact⟨_,_,rfl,r1,r3⟩
theorem j9:yN X (.builtin "abs") (fun xs H Q=>∃ i,xs=[.int i]/\Q (.int (if i<0 then -i else i)) H):=by
 intro pins s σ H xs us Q I r h
 obtain⟨i,rfl,q⟩:=h
 obtain⟨u,rfl,t,rfl⟩:=vals1 r
 exact call_abs_int fun u tk=>⟨.int (if i<0 then -i else i),H,I.tok _,⟨_,rfl⟩,q⟩
theorem agW (hc:X.calm=true):yN X (.builtin "max") (fun xs H Q=>∃ i j,xs=[.int i,.int j]/\Q (.int (if j > i then j else i)) H):=by
 intro pins s σ H xs us Q I r h
 obtain⟨i,j,rfl,q⟩:=h
 obtain⟨u,w',rfl,⟨t,rfl⟩,⟨t',rfl⟩⟩:=vals2 r
 refine max_two_ints (I.ok.hd hc) fun h' tk k=>⟨_,H,I.kept k,?_,q⟩
 by_cases hj:j > i
 ·rw [if_pos hj,if_pos hj];exact⟨_,rfl⟩
 ·rw [if_neg hj,if_neg hj];exact⟨_,rfl⟩
theorem ab6 (hc:X.calm=true):yN X (.builtin "min") (fun xs H Q=>∃ i j,xs=[.int i,.int j]/\Q (.int (if j<i then j else i)) H):=by
 intro pins s σ H xs us Q I r h
 obtain⟨i,j,rfl,q⟩:=h
 obtain⟨u,w',rfl,⟨t,rfl⟩,⟨t',rfl⟩⟩:=vals2 r
 refine min_two_ints (I.ok.hd hc) fun h' tk k=>⟨_,H,I.kept k,?_,q⟩
 by_cases hj:j<i
 ·rw [if_pos hj,if_pos hj];exact⟨_,rfl⟩
 ·rw [if_neg hj,if_neg hj];exact⟨_,rfl⟩
theorem agX:yN X (.type "int") (fun xs H Q=>(∃ i,xs=[.int i]/\Q (.int i) H) \/ ∃ k,xs=[.bl k]/\Q (.int (if k then 1 else 0)) H):=by
 intro pins s σ H xs us Q I r h
 rcases h with⟨i,rfl,q⟩ | ⟨k,rfl,q⟩
 ·obtain⟨u,rfl,t,rfl⟩:=vals1 r
  exact call_int_int ⟨.int i,H,I,⟨_,rfl⟩,q⟩
 ·obtain⟨u,rfl,r1⟩:=vals1 r
  cases r1
  exact call_int_bool ⟨.int (if k then 1 else 0),H,I.tok _,⟨_,rfl⟩,q⟩
end
structure ObjM (h:Heap) (x dx C:Addr) (mA:Str->Option Value):Prop where
 obj:h.get? x=some (PySem.W.instObj C dx)
 ns:h.Ns1 dx mA
 ne:dx≠x
section
variable {prog:Program} {w:World} {A:Around} {E:Value->Shared->Prop} {s:Shared} {K:apj} {x dx C f:Addr} {mA:Str->Option Value} {name:Str} {v:Value}
end
structure Cls (K:apj) (C:Addr):Prop where
 pg:PySem.W.plainGet K C Str.empty=true
 hd:PySem.W.hasDictIn K C=true
 po:PySem.W.plainOver K C=true
 sa:arp K (.ref C) "__setattr__"=some (some (.builtin "object.__setattr__"))
structure Con (K:apj) (C:Addr) (f:Str) (v:V) (u:Value):Prop where
 at_:arp K (.ref C) f=some (some u)
 rel:RelV v u
 get:asG K u "__get__"=some none
 cp:PySem.W.copiedNames.contains f=false
structure Meth (K:apj) (C:Addr) (m:Str) (f:Addr):Prop where
 at_:arp K (.ref C) m=some (some (.ref f))
 fn:PySem.W.isFn K (.ref f)=true
 kp:aqo K (.ref f)=true
section
variable {X:Cx} {pins:List (Addr×Obj)} {σ:St} {H:Hp} {s:Shared} {a C dx:Addr} {fs:List (Str×V)} {f:Str} {v:V} {A:Around} {E:Value->Shared->Prop}
end
section
variable {X:Cx} {pins:List (Addr×Obj)} {σ:St} {H:Hp} {s:Shared} {A:Around} {E:Value->Shared->Prop} {Q:Value->Shared->Prop} {c:Value} {b:Bool}
inductive TyOf (K:apj) (H:Hp):V->Value->Prop where
 | non:TyOf K H .non (.type "NoneType")
 | bl (x:Bool):TyOf K H (.bl x) (.type "bool")
 | int (i:Int):TyOf K H (.int i) (.type "int")
 | str (x:Str):TyOf K H (.str x) (.type "str")
 | flt (x:UInt64):TyOf K H (.flt x) (.type "float")
 | lst {a:Addr} {xs:List V} (e:H a=some (.lst xs)):TyOf K H (.ref a) (.type "list")
 | frz {a:Addr} {o:Obj} {xs:List V} (e:H a=some (.frz o (.lst xs))):TyOf K H (.ref a) (.type "list")
 | tup {a:Addr} {xs:List V} (e:H a=some (.tup xs)):TyOf K H (.ref a) (.type "tuple")
 | dK {a:Addr} {kvs:List (Key×V)} (e:H a=some (.dK kvs)):TyOf K H (.ref a) (.type "dict")
 | dT {a:Addr} {kvs:List (List Key×V)} (e:H a=some (.dT kvs)):TyOf K H (.ref a) (.type "dict")
 | ins {a C dx:Addr} {fs:List (Str×V)} (e:H a=some (.ins C dx fs)) (cl:Cls K C) (ha:arp K (.ref C) "__class__"=some (some (.builtin "object.__class__")))
   (hn:asG K (.builtin "object.__class__") "__get__"=some (some (.builtin "getset_descriptor.__get__"))) (htk:PySem.W.takesIn K (.builtin "object.__class__")=some true)
   (hm:PySem.W.mroIn K C (.type "object")=some true):TyOf K H (.ref a) (.ref C)
end
structure Room (k:Nat) (A:Around):Prop where
 hd:A.handled=none
 dp:A.depth+3 * k+5<recursionLimit
 un:A.units+16 * k+200<cLine
theorem Room.mono {j k:Nat} {A:Around} (r:Room k A) (h:j<=k):Room j A:=⟨r.hd,by have:=r.dp;omega,by have:=r.un;omega⟩
theorem Room.deeper {k:Nat} {A:Around} (r:Room (k+1) A) (env:Env):Room k (A.deeper env) :=
 ⟨r.hd,by have:=r.dp;show A.depth+1+3 * k+5<_;omega,by have:=r.un;show A.units+3+16 * k+200<_;omega⟩
theorem Room.depth {k:Nat} {A:Around} (r:Room k A):A.depth<recursionLimit:=by have:=r.dp;omega
theorem Room.units {k:Nat} {A:Around} (r:Room k A):A.units+64<cLine:=by have:=r.un;omega
noncomputable def jz:TA:=fun _ H Q=>Q [] H
noncomputable def yb (ta:TE) (tr:TA):TA:=fun σ H Q=>ta σ H fun x H1=>tr σ H1 fun xs H2=>Q (x :: xs) H2
section
variable {X:Cx} {e:Expr} {es:List Expr} {te:TE} {t:TA} {pos:Pos}
theorem zb:PA X [] jz:=fun _ _ _ _ H Q I h=>Calls.spliced_nil ⟨[],H,I,.nil,h⟩
theorem za (ha:PE X e te) (hr:PA X es t) (hs:starEach (e :: es) X.env=(false,eval e X.env) :: starEach es X.env:=by rfl):PA X (e :: es) (yb te t):=by
 intro pos pins s σ H Q I h
 rw [hs]
 show wpAny _ _ (spliced ((false,eval e X.env) :: backTo pos (starEach es X.env))) _ _ s
 refine Calls.spliced_cons (thn (ha pins s σ H _ I h) fun u s1 ⟨x,H1,I1,r1,q1⟩=>?_)
 exact thn (hr pos pins s1 σ H1 _ I1 q1) fun us s2 ⟨xs,H2,I2,r2,q2⟩=>⟨x :: xs,H2,I2,.cons r1 r2,q2⟩
noncomputable def acI (t:TA):TE:=fun σ H Q=>t σ H fun xs H1=>xs.length<=sizeLine/\∀ p,H1 p=none->Q (.ref p) (upd H1 p (.tup xs))
noncomputable def agY (t:TA):TE:=fun σ H Q=>t σ H fun xs H1=>xs.length<=sizeLine/\∀ p,H1 p=none->Q (.ref p) (upd H1 p (.lst xs))
theorem zG {x1} (h:PA X es t):PE X (.Tuple es x1 pos) (acI t):=by
 intro pins s σ H Q I hq
 refine wpAny_Tuple_spliced (thn (h pos pins s σ H _ I hq) fun us s1 ⟨xs,H1,I1,r,z,q⟩=>⟨by rw [<-r.length];exact z,?_⟩)
 have hf:H1 s1.heap.objs.size=none:=I1.hok.fresh (apr _)
 refine⟨.ref s1.heap.objs.size,upd H1 s1.heap.objs.size (.tup xs),I1.laid (t':=s1.toks) (fun b u e=>aps _ e) (apr _) ?_,rfl,q _ hf⟩
 exact⟨z,us,r,⟨_,apI _ rfl,rfl,_,rfl⟩⟩
theorem yt (h:PA X es t):PE X (.List es pos) (agY t):=by
 intro pins s σ H Q I hq
 refine wpAny_List_spliced (thn (h pos pins s σ H _ I hq) fun us s1 ⟨xs,H1,I1,r,z,q⟩=>⟨by rw [<-r.length];exact z,?_⟩)
 have hf:H1 s1.heap.objs.size=none:=I1.hok.fresh (apr _)
 refine⟨.ref s1.heap.objs.size,upd H1 s1.heap.objs.size (.lst xs),I1.laid (t':=s1.toks) (fun b u e=>aps _ e) (apr _) ?_,rfl,q _ hf⟩
 exact⟨z,us,0,r,apI _ rfl⟩
end
noncomputable abbrev Sp:=List V->Hp->VK->XK->Prop
noncomputable abbrev CXT:=List Env->Hp->Shared->XK->Value->Shared->Prop
structure Env0 (P:Program) (w:World) (K:apj) (mg:Str->Option Value) (base:Heap) (A:Around) (outer:List Env) (s:Shared) (H:Hp):Prop where
 frames:A.frames=some outer
 mod:Mod K mg base
 bs:∀ b o,base.get? b=some o->s.heap.get? b=some o/\H b=none
 bsz:base.objs.size<=s.heap.objs.size
 funs:s.heap.FunFrames base outer
 frf:∀ b∈frs outer,H b=none
 hok:HOk P w H s.heap
 bare:AllBare s.gens
noncomputable def CE (outer:List Env) (P:Program) (w:World) (H:Hp) (s:Shared) (Q:VK) (u:Value) (s':Shared):Prop :=
 ∃ v H',s'.os=s.os/\AllBare s'.gens/\Un (frs outer) [] H H' s.heap s'.heap/\HOk P w H' s'.heap/\RelV v u/\Q v H'
noncomputable def CR (CX:CXT) (outer:List Env) (P:Program) (w:World) (H:Hp) (s:Shared) (Q:VK) (E:XK) (r:Result) (s':Shared):Prop :=
 match r with
 | .ok (.ret u)=>CE outer P w H s Q u s'
 | .ok _=>False
 | .error e=>CX outer H s E e s'
structure FnOk (P:Program) (w:World) (K:apj) (mg:Str->Option Value) (base:Heap) (CX:CXT) (k:Nat) (f:Addr) (fd:FuncData) (ps:List Str) (sp:Sp):Prop where
 len:∀ vs H Q E,sp vs H Q E->vs.length=ps.length
 run:∀ (A:Around) (outer:List Env) (s:Shared) (H:Hp) (args:Args) (us:List Value) (vs:List V) (Q:VK) (E:XK),Room k A->Env0 P w K mg base A outer s H->BindsTo s fd args (ps.zip us)->Vals vs us->sp vs H Q E ->
  codeAny (model P w) A (.call (.ref f) args) (CR CX outer P w H s Q E) s
theorem FnOk.mono {P:Program} {w:World} {K:apj} {mg:Str->Option Value} {base:Heap} {CX:CXT} {j k:Nat} {f:Addr} {fd:FuncData} {ps:List Str} {sp:Sp} (F:FnOk P w K mg base CX j f fd ps sp) (h:j<=k) :
  FnOk P w K mg base CX k f fd ps sp:=⟨F.len,fun A outer s H args us vs Q E hr=>F.run A outer s H args us vs Q E (hr.mono h)⟩
section
variable {X:Cx} {pins:List (Addr×Obj)} {σ:St} {H:Hp} {s s':Shared}
theorem Inv.env0 (I:Inv X pins σ H s):Env0 X.prog X.w X.K X.mg X.base X.A X.stack s H :=
 ⟨I.ok.frames,I.ok.mod,I.bs,apO I.ok.bsz I.sz,I.stack,I.stkFree,I.hok,I.bare⟩
theorem Inv.after {Q:VK} {u:Value} (I:Inv X pins σ H s) (h:CE X.stack X.prog X.w H s Q u s'):EP X pins σ Q u s':=by
 obtain⟨v,H',os,bare,un,hok,r,q⟩:=h
 obtain⟨hh,g,d,t,os'⟩:=s'
 obtain rfl:os'=s.os:=os
 exact⟨v,H',I.call (h':=hh) (g':=g) (d':=d) (t':=t) (ch:=[]) un hok bare (fun b z=>absurd z (by simp)),r,q⟩
end
noncomputable def ab7 (sp:Sp) (dvs:List V) (E:XK) (t:TA):TE:=fun σ H Q=>t σ H fun vs H1=>sp (vs++dvs) H1 Q E
noncomputable def Binds (K:apj) (fd:FuncData) (ps:List Str) (ds:List Value):Prop :=
 ∀ (s:Shared) (us:List Value),K.In s.heap->(us++ds).length=ps.length->BindsTo s fd ⟨us,[]⟩ (ps.zip (us++ds))
theorem Binds.all {K:apj} {fd:FuncData} {ps:List Str} (h:∀ us:List Value,us.length=ps.length->bindArgs fd ⟨us,[]⟩=pure (ps.zip us)):Binds K fd ps []:=fun s us _ hl=>by
 rw [apY] at hl ⊢
 exact .of_eq (h us hl)
noncomputable def Passes (CX:CXT) (X:Cx) (E:XK):Prop:=∀ (pins:List (Addr×Obj)) (σ:St) (H:Hp) (s:Shared) (e:Value) (s':Shared),Inv X pins σ H s->CX X.stack H s E e s'->X.xe e s'
section
variable {X:Cx} {CX:CXT} {k:Nat} {f C:Addr} {fd:FuncData} {ps:List Str} {sp:Sp} {dvs:List V} {ds:List Value} {E:XK} {x m:Str} {p pos apos:Pos} {e o:Expr} {es:List Expr} {ta:TE} {t:TA}
theorem amk {pins:List (Addr×Obj)} {σ:St} {H:Hp} {s:Shared} {Q:VK} {us:List Value} {vs:List V} (F:FnOk X.prog X.w X.K X.mg X.base CX k f fd ps sp) (hr:Room k X.A) (hb:Binds X.K fd ps ds) (hd:Vals dvs ds) (hx:Passes CX X E)
  (I:Inv X pins σ H s) (r:Vals vs us) (h:sp (vs++dvs) H Q E):wpAny (model X.prog X.w) X.A (call (.ref f) us) (EP X pins σ Q) X.xe s:=by
 have r2:Vals (vs++dvs) (us++ds):=r.append hd
 have hl:(us++ds).length=ps.length:=by rw [<-r2.length];exact F.len _ _ _ _ h
 refine wpAny_call (codeAny_mono (F.run X.A X.stack s H ⟨us,[]⟩ (us++ds) (vs++dvs) Q E hr I.env0 (hb s us I.kIn hl) r2 h) fun r s' hq=>?_)
 cases r with
 | error e=>exact hx pins σ H s e s' I hq
 | ok fl =>
  cases fl with
  | ret u=>exact I.after hq
  | next=>exact art hq
  | brk=>exact art hq
  | cont=>exact art hq
theorem aj7 (F:FnOk X.prog X.w X.K X.mg X.base CX k f fd ps sp) (hr:Room k X.A) (hg:Gl X x) (hm:X.mg x=some (.ref f)) (hk:aqo X.K (.ref f)=true) (hb:Binds X.K fd ps ds) (hd:Vals dvs ds) (hx:Passes CX X E)
  (ha:PA X (e :: es) t) (hdb:(x == ("__debug__":Str))=false:=by decide) (he:starEach (e :: es) X.env=(false,eval e X.env) :: starEach es X.env:=by rfl) (hpl:(backTo pos (starEach es X.env)).any (·.1)=false:=by rfl) :
  PE X (.Call (.Name x p) (e :: es) [] pos) (ab7 sp dvs E t):=by
 intro pins s σ H Q I h
 refine wpAny_Call_Name_kw (afJ I hg hm ?_ hdb)
 refine PySem.W.callWith_K (h₀:=X.base) I.ok.mod.kin hk (thn (ha pos pins s σ H _ I h) fun us s1 ⟨vs,H1,I1,r,q⟩=>⟨I1.kIn,?_⟩) he hpl
 exact amk F hr hb hd hx I1 r q
structure Mk (K:apj) (C f:Addr):Prop where
 makes:PySem.W.makesIn K C=true
 init:arp K (.ref C) "__init__"=some (some (.ref f))
 fn:PySem.W.isFn K (.ref f)=true
 kp:aqo K (.ref C)=true
end
section
variable {X:Cx} {CX:CXT} {k:Nat} {f C:Addr} {fd:FuncData} {ps ks:List Str} {sp:Sp} {E:XK} {x m:Str} {p pos apos kpos:Pos} {e o:Expr} {es:List Expr} {kws:List Keyword} {te ta:TE} {t tk:TA} {nm:Option Str}
structure KBinds (K:apj) (fd:FuncData) (ps ks:List Str) (g:List Value->List Value->List Value) (gV:List V->List V->List V):Prop where
 to:∀ (s:Shared) (us ws:List Value),K.In s.heap->(g us ws).length=ps.length->BindsTo s fd ⟨us,ks.zip ws⟩ (ps.zip (g us ws))
 rel:∀ {vs:List V} {us:List Value} {zs:List V} {ws:List Value},Vals vs us->Vals zs ws->Vals (gV vs zs) (g us ws)
variable {g:List Value->List Value->List Value} {gV:List V->List V->List V}
end
structure FnScope (N P:List Str) (sc:Scope):Prop where
 kind:sc.kind=.function
 co:sc.isCoroutine=false
 gen:sc.isGenerator=false
 nd:N.Nodup
 pre:N.take P.length=P
 par:∀ x∈P,sc.names.lookup x=some .local \/ sc.names.lookup x=some .cell
 nofree:∀ y∈sc.names,y.2≠.free
theorem ab8 {kindOf:Str->Option NameKind} {x:Str}:∀ {binds:List (Str×Value)} {m:Str->Option Value},(∀ v,(x,v)∉binds)->bindL kindOf binds m x=m x
 | [],_,_=>rfl
 | (n,v) :: r,m,h=>by
  unfold bindL
  rw [ab8 fun w hw=>h w (apl _ hw)]
  split
  ·have:x≠n:=by rintro rfl;exact h v apo
   simp [this]
  ·rfl
theorem ab9 {kindOf:Str->Option NameKind} {x:Str}:∀ {binds:List (Str×Value)} {m:Str->Option Value},(∀ v,(x,v)∉binds)->bindC kindOf binds m x=m x
 | [],_,_=>rfl
 | (n,v) :: r,m,h=>by
  unfold bindC
  rw [ab9 fun w hw=>h w (apl _ hw)]
  split
  ·rfl
  ·have:x≠n:=by rintro rfl;exact h v apo
   simp [this]
theorem aca {kindOf:Str->Option NameKind} {x:Str} {v:Value}:∀ {P:List Str} {vs:List Value} {i:Nat} {m:Str->Option Value},P.Nodup->P[i]?=some x->vs[i]?=some v->kindOf x=some .local ->
  bindL kindOf (P.zip vs) m x=some v
 | [],_,_,_,_,h,_,_=>by simp at h
 | _ :: _,[],_,_,_,_,h,_=>by simp at h
 | p :: P,w :: vs,0,m,nd,h1,h2,hk=>by
  simp at h1 h2;subst h1;subst h2
  show bindL kindOf ((p,w) :: P.zip vs) m p=_
  unfold bindL
  rw [ab8 fun v hv=>(aqq.mp nd).1 (ar1 hv).1,if_pos hk]
  simp
 | p :: P,w :: vs,i+1,m,nd,h1,h2,hk=>by
  show bindL kindOf ((p,w) :: P.zip vs) m x=_
  unfold bindL
  exact aca (i:=i) (aqq.mp nd).2 (by simpa using h1) (by simpa using h2) hk
theorem acb {kindOf:Str->Option NameKind} {x:Str} {v:Value}:∀ {P:List Str} {vs:List Value} {i:Nat} {m:Str->Option Value},P.Nodup->P[i]?=some x->vs[i]?=some v->kindOf x≠some .local ->
  bindC kindOf (P.zip vs) m x=some v
 | [],_,_,_,_,h,_,_=>by simp at h
 | _ :: _,[],_,_,_,_,h,_=>by simp at h
 | p :: P,w :: vs,0,m,nd,h1,h2,hk=>by
  simp at h1 h2;subst h1;subst h2
  show bindC kindOf ((p,w) :: P.zip vs) m p=_
  unfold bindC
  rw [ab9 fun v hv=>(aqq.mp nd).1 (ar1 hv).1,if_neg hk]
  simp
 | p :: P,w :: vs,i+1,m,nd,h1,h2,hk=>by
  show bindC kindOf ((p,w) :: P.zip vs) m x=_
  unfold bindC
  exact acb (i:=i) (aqq.mp nd).2 (by simpa using h1) (by simpa using h2) hk
noncomputable def start (N:List Str) (vs:List V):St:=vs.map some++aqb (N.length - vs.length) none
noncomputable def yn (CX:CXT) (P:Program) (w:World) (K:apj) (mg:Str->Option Value) (base:Heap) (N:List Str) (qual:Str) (scope:Scope) (f:Addr) (cd:Value) (A:Around) (outer:List Env) (s:Shared) (H:Hp) (E:XK):Cx where
 prog:=P
 w:=w
 K:=K
 mg:=mg
 base:=base
 A:=A.deeper (envOfC qual scope s.heap.objs.size f cd)
 N:=N
 s₀:=s
 H₀:=H
 env:=envOfC qual scope s.heap.objs.size f cd
 outer:=outer
 stack:=envOfC qual scope s.heap.objs.size f cd :: outer
 ex:=[]
 calm:=true
 fn:=fun _=>true
 pn:=[]
 xe:=fun e s'=>wpAny (model P w) (A.deeper (envOfC qual scope s.heap.objs.size f cd)) (leaving (envOfC qual scope s.heap.objs.size f cd) e) (fun _ s''=>CX outer H s E e s'') (fun e' s''=>CX outer H s E e' s'') s'
theorem adQ {sc:Scope} {n:Nat} {x:Str} (h:sc.names.lookup x=some .cell):∃ c,(cellsFrom n sc.names []).lookup x=some c:=by
 have q:=aru sc.names n [] (.inl h)
 exact arY.mp q
theorem agZ {CX:CXT} {P:Program} {w:World} {K:apj} {mg:Str->Option Value} {base:Heap} {N ps:List Str} {qual:Str} {scope:Scope} {f:Addr} {cd:Value} {A:Around} {outer:List Env} {s s1:Shared} {H:Hp} {E:XK} {us:List Value} {vs:List V}
  (S:FnScope N ps scope) (hd:A.handled=none) (e0:Env0 P w K mg base A outer s H) (hl:vs.length=ps.length) (r:Vals vs us)
  (x:InCallC s s.heap.objs.size (bindL (envOfC qual scope s.heap.objs.size f cd).kindOf (ps.zip us) fun _=>none) (cellsFrom (s.heap.objs.size+1) scope.names []) (bindC (envOfC qual scope s.heap.objs.size f cd).kindOf (ps.zip us) fun _=>none) s1) :
  Inv (yn CX P w K mg base N qual scope f cd A outer s H E) [] (start N vs) H s1:=by
 have hpl:ps.length<=N.length:=by have:=congrArg List.length S.pre;rw [apX] at this;omega
 obtain⟨h1,tk,rfl,hk⟩:=x.done
 have noA:∀ b:Addr,b∉(yn CX P w K mg base N qual scope f cd A outer s H E).ex:=fun b z=>absurd (show b∈([]:List Addr) from z) (by simp)
 refine⟨⟨e0.mod,S.kind,rfl,rfl,apr _,fun y z c h1 h2=>?_,fun y hy=>?_,fun y c _ h=>?_,fun _=>hd,Around.frames_deeper e0.frames,.inr ⟨rfl,rfl⟩,fun b z=>absurd z (noA b),e0.bs,e0.bsz,fun b _ _=>noA b,fun b z=>absurd z (noA b),e0.funs,e0.frf⟩,
  rfl,e0.bare,Un.kept hk,⟨_,x.toInCall.ns,fun i y v h1 h2 h3=>?_⟩,fun y c h=>⟨_,x.cell y c h⟩,e0.hok.fresh (apr _),fun y c h=>?_,fun p hp=>absurd (show p∈([]:List (Addr×Obj)) from hp) (by simp),e0.hok.kept hk,?_⟩
 ·exact name_of_addr x.apart (ark h1) (ark h2)
 ·have hy:scope.names.lookup y=some .cell \/ scope.names.lookup y=some .free:=hy
  rcases hy with hy | hy
  ·exact adQ hy
  ·exact absurd rfl (S.nofree _ (ark hy))
 ·exact aqj (x.above y c (ark h))
 ·have hi:i<vs.length:=by
   unfold start at h2
   by_cases hi:i<vs.length
   ·exact hi
   ·rw [apz (by simpa using hi)] at h2
    rw [arq] at h2
    split at h2 <;> cases h2
  have ha:vs[i]?=some v:=by
   unfold start at h2
   rw [apx (by simpa using hi),apt] at h2
   cases e:vs[i]? with
   | none=>rw [e] at h2;cases h2
   | some a=>rw [e] at h2;cases h2;rfl
  obtain⟨u,hu,rv⟩:=r.get ha
  have hp:ps[i]?=some y:=by
   rw [<-S.pre,arj (by omega)];exact h1
  have ndP:ps.Nodup:=by rw [<-S.pre];exact S.nd.sublist (List.take_sublist _ _)
  refine⟨u,rv,?_⟩
  rcases S.par y (apv hp) with k | k
  ·exact .inl ⟨k,aca ndP hp hu k⟩
  ·obtain⟨c,e⟩:=adQ (n:=s.heap.objs.size+1) k
   refine .inr ⟨.inl k,c,e,?_⟩
   have q:=x.cell y c e
   rw [acb ndP hp hu (by show scope.names.lookup y≠_;rw [k];decide)] at q
   exact q
 ·exact e0.hok.fresh (aqj (x.above y c (ark h)))
 ·unfold start
  show _=N.length
  rw [apA,api,arJ]
  omega
theorem anP {CX:CXT} {P:Program} {w:World} {K:apj} {mg:Str->Option Value} {base:Heap} {k:Nat} {f:Addr} {name qual:Str} {params:Arguments} {body:List Stmt} {scope:Scope} {dV kV doc pm cdv ct oc:Value} {an od:Option Addr}
  {osl:Array (Option Value)} {N ps:List Str} {sp:Sp} (lk:K.lookup f=some ⟨oc,od,.func (aqx name qual params body scope dV kV doc pm an cdv ct),osl⟩) (hcd:asy K cdv qual=true) (S:FnScope N ps scope)
  (len:∀ vs H Q E,sp vs H Q E->vs.length=ps.length)
  (hbody:∀ (A:Around) (outer:List Env) (s:Shared) (H:Hp) (vs:List V) (Q:VK) (E:XK),Room k (A.deeper (envOfC qual scope s.heap.objs.size f cdv))->sp vs H Q E ->
   ∃ t,PSs (yn CX P w K mg base N qual scope f cdv A outer s H E) body t/\t { nx:=fun _ H'=>Q .non H',rt:=Q } (start N vs) H) :
  FnOk P w K mg base CX (k+1) f (aqx name qual params body scope dV kV doc pm an cdv ct) ps sp:=by
 refine⟨len,fun A outer s H args us vs Q E hr e0 hb r hsp=>?_⟩
 have hl:=len _ _ _ _ hsp
 have KX:K.In s.heap:=e0.mod.kin.keeps fun b o e=>(e0.bs b o e).1
 have lim:s.heap.NoLimit:=e0.mod.nolimit.keeps fun b o e=>(e0.bs b o e).1
 have hkind:∀ y∈ps.zip us,scope.names.lookup y.1=some .local \/ (scope.names.lookup y.1=some .cell/\((cellsFrom (s.heap.objs.size+1) scope.names []).lookup y.1).isSome=true):=fun⟨n,v⟩ hy=>by
  rcases S.par n (ar1 hy).1 with q | q
  ·exact .inl q
  ·exact .inr ⟨q,aru _ _ _ (.inl q)⟩
 refine codeAny_call_function hr.depth (KX _ _ lk) rfl S.co S.gen rfl (PySem.W.codeRec_of KX hcd) (hb _ _ _ _ ?_)
 refine wpAny_newFunctionEnv_cells S.kind hkind fun env he s1 x=>?_
 subst he
 refine⟨lim.keeps x.toInCall.keep,codeAny_func ?_⟩
 obtain⟨t,ht,hq⟩:=hbody A outer s H vs Q E (hr.deeper _) hsp
 have I:Inv (yn CX P w K mg base N qual scope f cdv A outer s H E) [] (start N vs) H s1:=agZ S hr.hd e0 hl r x
 refine wpAny_mono (ht [] s1 (start N vs) H _ I hq) (fun fl s' hs=>?_) fun e s' hs=>hs
 have fin:∀ {σ':St} {H':Hp} {v:V} {u:Value},Inv (yn CX P w K mg base N qual scope f cdv A outer s H E) [] σ' H' s'->RelV v u->Q v H'->CE outer P w H s Q u s' :=
  fun {σ' H' v u} J rv q=>⟨v,H',J.os,J.bare,J.base,J.hok,rv,q⟩
 cases fl with
 | ret u =>
  obtain⟨v,σ',H',J,rv,q⟩:=hs
  exact fin J rv q
 | next =>
  obtain⟨σ',H',J,q⟩:=hs
  exact fin (v:=V.non) (u:=Value.none) J rfl q
 | brk =>
  obtain⟨_,_,_,q⟩:=hs
  exact art q
 | cont =>
  obtain⟨_,_,_,q⟩:=hs
  exact art q
section
variable {X:Cx} {x:Str} {p pos:Pos} {e:Expr} {es:List Expr} {t:TA} {id T:String} {r:List V->Hp->VK->Prop}
noncomputable def tCB (r:List V->Hp->VK->Prop) (t:TA):TE:=fun σ H Q=>t σ H fun vs H1=>r vs H1 Q
theorem zM (hc:yN X (.builtin id) r) (hg:Gl X x) (hm:X.mg x=none) (hv:bootBuiltins x=some (.builtin id)) (ha:PA X (e :: es) t) (hn:x ≠ "__name__":=by decide) (hdb:(x == ("__debug__":Str))=false:=by decide)
  (he:starEach (e :: es) X.env=(false,eval e X.env) :: starEach es X.env:=by rfl) (hpl:(backTo pos (starEach es X.env)).any (·.1)=false:=by rfl):PE X (.Call (.Name x p) (e :: es) [] pos) (tCB r t):=by
 intro pins s σ H Q I h
 refine wpAny_Call_Name_kw (vw I hg hm hv ?_ hn hdb)
 exact PyProof.Rows.callWith_builtin1 (thn (ha pos pins s σ H _ I h) fun us s1 ⟨vs,H1,I1,r1,q1⟩=>hc pins s1 σ H1 vs us Q I1 r1 q1) he hpl
theorem acd (hc:yN X (.type T) r) (hg:Gl X x) (hm:X.mg x=none) (hv:bootBuiltins x=some (.type T)) (ha:PA X (e :: es) t) (hn:x ≠ "__name__":=by decide) (hdb:(x == ("__debug__":Str))=false:=by decide)
  (he:starEach (e :: es) X.env=(false,eval e X.env) :: starEach es X.env:=by rfl) (hpl:(backTo pos (starEach es X.env)).any (·.1)=false:=by rfl):PE X (.Call (.Name x p) (e :: es) [] pos) (tCB r t):=by
 intro pins s σ H Q I h
 refine wpAny_Call_Name_kw (vw I hg hm hv ?_ hn hdb)
 exact aqE (thn (ha pos pins s σ H _ I h) fun us s1 ⟨vs,H1,I1,r1,q1⟩=>hc pins s1 σ H1 vs us Q I1 r1 q1) he hpl
theorem aeY (hc:yN X (.type T) r) (hg:Gl X x) (hm:X.mg x=none) (hv:bootBuiltins x=some (.type T)) (hn:x ≠ "__name__":=by decide) (hdb:(x == ("__debug__":Str))=false:=by decide) :
  PE X (.Call (.Name x p) [] [] pos) (tCB r jz):=by
 intro pins s σ H Q I h
 refine wpAny_Call_Name_kw (vw I hg hm hv ?_ hn hdb)
 exact PyProof.Rows.callWith_type0 (hc pins s σ H [] [] Q I .nil h)
end
end L2
namespace HT
open PySem PyProof.Rows
theorem rcLt_int (A:Around) (s:Shared) (a:Int) (t:Tok) (c:Int) (u:Tok) (prog:Program) (w:World) (E:Value->Shared->Prop) (Q:Value->Shared->Prop) (h:Q (.bool (decide (a<c))) s) :
  wpAny (model prog w) A (richCompare .Lt (.int a t) (.int c u)) Q E s :=
 (PyProof.Rows.lt_int h:wpAny (model prog w) A (compareOp .Lt (.int a t) (.int c u)) Q E s)
section
open PySem.SeqAt
open PySem.AutoSeq1 (wpAny_loadPart')
open PySem.MeetsSeq PySem.MeetsSeq2 PySem.MeetsSeq3
end
section
variable {prog:Program} {w:World} {A:Around} {E:Value->Shared->Prop} {s:Shared}
noncomputable def sIx (n d:Nat):Option Int->Nat
 | none=>d
 | some v=>if v<0 then (v+(n:Int)).toNat else min v.toNat n
theorem sIx_none (n d:Nat):sIx n d none=d:=rfl
theorem sIx_nat (n d k:Nat):sIx n d (some (k:Int))=min k n:=by
 show (if (k:Int)<0 then ((k:Int)+(n:Int)).toNat else min (k:Int).toNat n)=min k n
 rw [if_neg (by omega),arL]
end
end HT
namespace L2
open PySem PySem.Spec PyProof.Rows
noncomputable abbrev TO:=St->Hp->(Option Int->Hp->Prop)->Prop
noncomputable def PO (X:Cx) (e:Option Expr) (t:TO):Prop :=
 ∀ (pins:List (Addr×Obj)) (s:Shared) (σ:St) (H:Hp) (Q:Option Int->Hp->Prop),Inv X pins σ H s->t σ H Q ->
  wpAny (model X.prog X.w) X.A (evalPart e X.env) (fun u s'=>∃ o H',Inv X pins σ H' s'/\IsPart u o/\Q o H') X.xe s
noncomputable def afO:TO:=fun _ H Q=>Q none H
noncomputable def alw (t:TE):TO:=fun σ H Q=>t σ H fun x H1=>∃ i,x=.int i/\Q (some i) H1
theorem intsAre_of {ns:List Int}:∀ {us:List Value},Vals (ns.map V.int) us->IntsAre us ns:=by
 induction ns with
 | nil=>intro us r;rw [aty] at r;cases r;exact .nil
 | cons n ns ih =>
  intro us r
  rw [apT] at r
  cases r with
  | cons r1 r2 =>
   obtain⟨t,e⟩:=r1
   subst e
   exact .cons n t (ih r2)
section
variable {X:Cx} {e:Expr} {te:TE} {lo hi:Option Expr} {tl th:TO} {pos p2:Pos}
theorem qX:PO X none afO:=by
 intro pins s σ H Q I h
 rw [evalPart_none]
 exact wpAny_pure ⟨none,H,I,.none,h⟩
theorem qY (h:PE X e te):PO X (some e) (alw te):=by
 intro pins s σ H Q I hw
 rw [evalPart_some]
 refine thn (h pins s σ H _ I hw) fun u s1 ⟨x,H1,I1,r1,q1⟩=>?_
 obtain⟨i,rfl,q⟩:=q1
 obtain⟨t,rfl⟩:=r1
 exact⟨some i,H1,I1,.int i t,q⟩
noncomputable def SlR (X:Cx) (r:V->Option Int->Option Int->Hp->VK->Prop):Prop :=
 ∀ (pins:List (Addr×Obj)) (s:Shared) (σ:St) (H:Hp) (x:V) (v vl vu:Value) (lo hi:Option Int) (sl:Addr) (Q:VK),Inv X pins σ H s->RelV x v->s.heap.IsSliceOf sl vl vu .none->IsPart vl lo->IsPart vu hi->r x lo hi H Q ->
  ∃ T id,typeLookup (.type T) "__getitem__"=pure (some (.builtin id))/\s.TypeIs v T/\wpAny (model X.prog X.w) X.A (getItem v (.ref sl)) (EP X pins σ Q) X.xe s
noncomputable def tSl (r:V->Option Int->Option Int->Hp->VK->Prop) (te:TE) (tl th:TO):TE:=fun σ H Q=>te σ H fun x H1=>tl σ H1 fun l H2=>th σ H2 fun u H3=>r x l u H3 Q
theorem qf {r:V->Option Int->Option Int->Hp->VK->Prop} (hr:SlR X r) (he:PE X e te) (hl:PO X lo tl) (hu:PO X hi th):PE X (.Subscript e (.Slice lo hi none p2) pos) (tSl r te tl th):=by
 intro pins s σ H Q I h
 refine Subscript_ (thn (he pins s σ H _ I h) fun v s1 ⟨x,H1,I1,r1,q1⟩=>?_)
 refine wpAny_Slice (thn (hl pins s1 σ H1 _ I1 q1) fun vl s2 ⟨l,H2,I2,pl,q2⟩=>thn (hu pins s2 σ H2 _ I2 q2) fun vu s3 ⟨u,H3,I3,pu,q3⟩=>?_)
 rw [evalPart_none]
 refine wpAny_pure ?_
 have I4:Inv X pins σ H3 { s3 with heap:=s3.heap.push { cls:=.type "slice",data:=.fields #[vl,vu,.none] } }:=I3.kept (t':=s3.toks) fun b ob q=>aps _ q
 obtain⟨T,id,hT,ht,hg⟩:=hr pins { s3 with heap:=s3.heap.push { cls:=.type "slice",data:=.fields #[vl,vu,.none] } } σ H3 x v vl vu l u s3.heap.objs.size Q I4 r1 (Heap.IsSliceOf.new ..) pl pu q3
 show wpAny (model X.prog X.w) X.A (subscriptTail e (.Slice lo hi none p2) v (.ref s3.heap.objs.size)) (EP X pins σ Q) X.xe { s3 with heap:=s3.heap.push { cls:=.type "slice",data:=.fields #[vl,vu,.none] } }
 exact tail_any (ops:=[.ref s3.heap.objs.size,v]) ht hT hg (by with_unfolding_all rfl)
noncomputable def aeZ (xs:List V) (lo hi:Option Int):List V:=(xs.drop (HT.sIx xs.length 0 lo)).take (HT.sIx xs.length xs.length hi - HT.sIx xs.length 0 lo)
theorem adR (xs:List V) (lo hi:Option Int):(aeZ xs lo hi).length<=xs.length:=by
 unfold aeZ
 rw [apX,ars]
 omega
end
noncomputable def ixN (n:Nat) (i:Int):Option Nat:=if 0<=i then (if i<n then some i.toNat else none) else if -(n:Int)<=i then some (i+n).toNat else none
noncomputable def atI {α:Type} (xs:List α) (i:Int):Option α:=(ixN xs.length i).bind fun j=>xs[j]?
theorem afP {n:Nat} {i:Int} {j:Nat} (h:ixN n i=some j):seqIndex? i n=some j/\j<n/\-(n:Int)<=i/\i<n:=by
 unfold ixN at h
 by_cases h0:0<=i
 ·rw [if_pos h0] at h
  by_cases h1:i<n
  ·rw [if_pos h1] at h
   have e:i.toNat=j:=Option.some.inj h
   exact⟨by rw [seqIndex_of h0 h1,e],by omega,by omega,h1⟩
  ·rw [if_neg h1] at h;cases h
 ·rw [if_neg h0] at h
  by_cases h1:-(n:Int)<=i
  ·rw [if_pos h1] at h
   have e:(i+n).toNat=j:=Option.some.inj h
   exact⟨by rw [seqIndex_neg (by omega) h1,e],by omega,h1,by omega⟩
  ·rw [if_neg h1] at h;cases h
theorem afQ {α:Type} {xs:List α} {i:Int} {v:α} (h:atI xs i=some v):∃ j,seqIndex? i xs.length=some j/\xs[j]?=some v/\j<xs.length/\-(xs.length:Int)<=i/\i<xs.length:=by
 unfold atI at h
 cases e:ixN xs.length i with
 | none=>rw [e] at h;cases h
 | some j =>
  rw [e] at h
  obtain⟨h1,h2,h3,h4⟩:=afP e
  exact⟨j,h1,h,h2,h3,h4⟩
theorem qv {α:Type} {xs:List α} {j:Nat} {v:α} (h:xs[j]?=some v):atI xs (j:Int)=some v:=by
 have hj:j<xs.length:=(apm.mp h).1
 have e:ixN xs.length (j:Int)=some j:=by
  unfold ixN
  rw [if_pos (by omega),if_pos (by omega)];simp
 unfold atI;rw [e];exact h
noncomputable def aj8 (b:Expr):Prop:=∀ o i,subscripted b false o i=operate [o,i] (getItem o i)
noncomputable def IxR (X:Cx) (r:R2):Prop :=
 ∀ (value slice:Expr) (pins:List (Addr×Obj)) (s:Shared) (σ:St) (H:Hp) (x y:V) (v u:Value) (Q:VK),Inv X pins σ H s->RelV x v->RelV y u->r x y H Q ->
  subscripted slice false v u=operate [v,u] (getItem v u)->wpAny (model X.prog X.w) X.A (subscriptTail value slice v u) (EP X pins σ Q) X.xe s
noncomputable def MtR (X:Cx) (id:String) (r:V->List V->Hp->VK->Prop):Prop :=
 ∀ (pins:List (Addr×Obj)) (s:Shared) (σ:St) (H:Hp) (x:V) (xs:List V) (v:Value) (us:List Value) (Q:VK),Inv X pins σ H s->RelV x v->Vals xs us->r x xs H Q ->
  wpAny (model X.prog X.w) X.A (call (.builtin id) (v :: us)) (EP X pins σ Q) X.xe s
section
variable {X:Cx} {a b:Expr} {ta tb:TE} {pos:Pos}
theorem zx {r:R2} (hr:IxR X r) (ha:PE X a ta) (hb:PE X b tb) (hs:aj8 b):PE X (.Subscript a b pos) (tOp r ta tb):=by
 intro pins s σ H Q I h
 exact Subscript_ (amf ha hb I h fun v u s2 x y H2 I2 rx ry q=>hr a b pins s2 σ H2 x y v u Q I2 rx ry q (hs _ _))
noncomputable def aaG (K:apj):R2:=fun x y H Q=>∃ p xs i v,x=.ref p/\y=.int i/\SqL K H p xs/\atI xs i=some v/\Q v H
noncomputable def aml (K:apj):R2:=fun x y H Q=>∃ p xs i v,x=.ref p/\y=.int i/\SqT K H p xs/\atI xs i=some v/\Q v H
theorem aj9:IxR X (aaG X.K):=by
 intro value slice pins s σ H x y v u Q I rx ry h hs
 obtain⟨p,xs,i,z,rfl,rfl,hq,he,q⟩:=h
 cases rx
 obtain⟨t,rfl⟩:=ry
 obtain⟨its,r,pl,hz⟩:=I.list hq
 obtain⟨j,h1,h2,h3,h4,h5⟩:=afQ he
 obtain⟨w,ew,rw'⟩:=r.get h2
 have hl:=r.length
 have hn:=aba
 have fin:EP X pins σ Q w s:=⟨z,H,I,rw',q⟩
 by_cases h0:0<=i
 ·have hj:i.toNat=j:=by
   rw [seqIndex_of h0 h5] at h1
   exact Option.some.inj h1
  exact item_listR pl.isList h0 (by omega) (by rw [hj];simpa using ew) fin hs
 ·have hj:(i+(its.toArray.size:Int)).toNat=j:=by
   rw [seqIndex_neg (by omega) h4] at h1
   rw [apH,<- hl]
   exact Option.some.inj h1
  exact subscriptTail_builtinR (x:=w) pl.isList.typeIs slot_list_getitem.lookup
   (wpAny_getItem_list_neg (Q:=fun r s'=>r=w/\EP X pins σ Q r s') pl.isList (by omega) (by rw [apH] <;> omega) (by omega) (by rw [hj];simpa using ew) ⟨rfl,fin⟩) hs
theorem amm:IxR X (aml X.K):=by
 intro value slice pins s σ H x y v u Q I rx ry h hs
 obtain⟨p,xs,i,z,rfl,rfl,hq,he,q⟩:=h
 cases rx
 obtain⟨t,rfl⟩:=ry
 obtain⟨its,r,pl,hz⟩:=I.tuple hq
 obtain⟨j,h1,h2,h3,h4,h5⟩:=afQ he
 obtain⟨w,ew,rw'⟩:=r.get h2
 have hl:=r.length
 have hn:=aba
 have fin:EP X pins σ Q w s:=⟨z,H,I,rw',q⟩
 exact subscriptTail_builtinR (x:=w) pl.typeIs slot_tuple_getitem.lookup
  (getItem_tuple (j:=j) (Q:=fun r s'=>r=w/\EP X pins σ Q r s') pl (by omega) (by omega) (by rw [apH,<- hl];exact h1) (by simpa using ew) ⟨rfl,fin⟩) hs
theorem ae0 (its:List Value) (n j:Nat) (u:Value):ar2 (·.setIfInBounds j u) { cls:=.type "list",data:=.seq its.toArray n }={ cls:=.type "list",data:=.seq (its.set j u).toArray n }:=by
 simp [ar2]
theorem Inv.lst {pins:List (Addr×Obj)} {σ:St} {H:Hp} {s:Shared} {p:Addr} {xs:List V} (I:Inv X pins σ H s) (h:H p=some (.lst xs)) :
  ∃ (its:List Value) (n:Nat),Vals xs its/\s.heap.get? p=some { cls:=.type "list",data:=.seq its.toArray n }/\xs.length<=sizeLine:=by
 obtain⟨z,its,n,r,e⟩:=I.hok p _ h
 exact⟨its,n,r,e,z⟩
theorem Inv.lstUpd {pins:List (Addr×Obj)} {σ:St} {H:Hp} {s:Shared} {p:Addr} {xs ys:List V} {its its':List Value} {n n':Nat} {f:Obj->Obj} (I:Inv X pins σ H s) (h:H p=some (.lst xs))
  (ho:s.heap.get? p=some { cls:=.type "list",data:=.seq its.toArray n }) (hf:f { cls:=.type "list",data:=.seq its.toArray n }={ cls:=.type "list",data:=.seq its'.toArray n' }) (r:Vals ys its') (hz:ys.length<=sizeLine) (t:Nat) :
  Inv X pins σ (upd H p (.lst ys)) { s with heap:=s.heap.update p f,toks:=t }:=by
 have e:(s.heap.update p f).get? p=some { cls:=.type "list",data:=.seq its'.toArray n' }:=by
  rw [ara f ho (by rw [hf] <;> rfl),hf]
 refine I.write (x:=p) (e:=p) (by rw [h];trivial) (.inl rfl) (fun b u hb q=>(arv _ _ (arh hb)).trans q) ⟨_,e⟩ ?_
 exact⟨hz,its',n',r,e⟩
noncomputable def aat:V->V->V->Hp->(Hp->Prop)->Prop:=fun o i v H Q=>∃ p xs k j,o=.ref p/\i=.int k/\H p=some (.lst xs)/\ixN xs.length k=some j/\Q (upd H p (.lst (xs.set j v)))
theorem set_list:aj2 X aat:=by
 intro pins s σ H o i v ov iv u Q I ro ri rv h
 obtain⟨p,xs,k,j,rfl,rfl,hp,hj,q⟩:=h
 cases ro
 obtain⟨t,rfl⟩:=ri
 obtain⟨its,n,r,ho,hz⟩:=I.lst hp
 obtain⟨h1,h2,h3,h4⟩:=afP hj
 have hl:=r.length
 have hn:=aba
 have I':Inv X pins σ (upd H p (.lst (xs.set j v))) { s with heap:=s.heap.update p (ar2 (·.setIfInBounds j u)) } :=
  I.lstUpd hp ho (ae0 its n j u) (r.set rv j) (by rw [aqy];exact hz) s.toks
 by_cases h0:0<=k
 ·have hk:k.toNat=j:=by
   rw [seqIndex_of h0 h4] at h1
   exact Option.some.inj h1
  exact PySem.W.ki_setAt ho h0 (by omega) (by rw [apH,<- hl];exact h4) (by rw [hk];exact⟨_,I',q⟩)
 ·have hk:(k+(its.toArray.size:Int)).toNat=j:=by
   rw [seqIndex_neg (by omega) h3] at h1
   rw [apH,<- hl]
   exact Option.some.inj h1
  exact PySem.W.ki_setBack ho (by omega) (by rw [apH,<- hl];exact h3) (by omega) (by rw [hk];exact⟨_,I',q⟩)
theorem acJ (lo hi:Option Int) (n:Nat):(sliceBounds lo hi none n).1=((HT.sIx n 0 lo:Nat):Int)/\(sliceBounds lo hi none n).2.1=((HT.sIx n n hi:Nat):Int)/\(sliceBounds lo hi none n).2.2=1:=by
 refine⟨?_,?_,rfl⟩
 ·cases lo with
  | none=>simp [sliceBounds,HT.sIx]
  | some i =>
   simp only [sliceBounds,HT.sIx,Option.getD_none,show (1:Int) > 0 by decide,if_true]
   by_cases h:i<0
   ·simp only [h,if_true] <;> omega
   ·simp only [h,if_false] <;> omega
 ·cases hi with
  | none=>simp [sliceBounds,HT.sIx]
  | some i =>
   simp only [sliceBounds,HT.sIx,Option.getD_none,show (1:Int) > 0 by decide,if_true]
   by_cases h:i<0
   ·simp only [h,if_true] <;> omega
   ·simp only [h,if_false] <;> omega
theorem abS (its:List Value) (lo hi:Option Int):slicePick its.toArray lo hi none=((its.drop (HT.sIx its.length 0 lo)).take (HT.sIx its.length its.length hi - HT.sIx its.length 0 lo)).toArray:=by
 obtain⟨h1,h2,h3⟩:=acJ lo hi its.toArray.size
 unfold slicePick
 rw [h1,h2,h3]
 simp only [sliceRange_one,pick_run,apH] <;> rfl
noncomputable def aka (K:apj):V->Option Int->Option Int->Hp->VK->Prop:=fun x lo hi H Q=>∃ a xs,x=.ref a/\SqL K H a xs/\∀ p,H p=none->Q (.ref p) (upd H p (.lst (aeZ xs lo hi)))
theorem akb:SlR X (aka X.K):=by
 intro pins s σ H x v vl vu lo hi sl Q I rx hs pl pu h
 obtain⟨a,xs,rfl,hx,q⟩:=h
 cases rx
 obtain⟨its,r,ht,hz⟩:=I.list hx
 have hlen:=r.length
 refine⟨"list",_,slot_list_getitem.lookup,ht.isList.typeIs,?_⟩
 refine wpAny_getItem_list_slice ht.isList hs pl pu .none (by simp) ?_ (by rw [apH] <;> omega)
 rw [abS,<- hlen]
 refine⟨.ref s.heap.objs.size,_,I.laid (t':=s.toks) (o:=.lst (aeZ xs lo hi)) (fun b ob q=>aps _ q) (apr _) ?_,rfl,q _ (I.hok.fresh (apr _))⟩
 exact⟨apO (adR xs lo hi) hz,_,0,(r.drop (HT.sIx xs.length 0 lo)).take (HT.sIx xs.length xs.length hi - HT.sIx xs.length 0 lo),apI _ rfl⟩
noncomputable def aau:V->Bool
 | .non=>true
 | .bl _=>true
 | .int _=>true
 | .str _=>true
 | _=>false
noncomputable def eqV:V->V->Bool
 | .non,.non=>true
 | .bl a,.bl b=>a == b
 | .bl a,.int b=>(if a then 1 else 0) == b
 | .int a,.bl b=>a == (if b then 1 else 0)
 | .int a,.int b=>a == b
 | .str a,.str b=>a == b
 | _,_=>false
theorem amn {A:Around} {s:Shared} {y x:V} {u v:Value} (ry:RelV y u) (rx:RelV x v) (fy:aau y=true) (fx:aau x=true):SeqAt.EqAt A s u v (eqV y x):=by
 cases y with
 | non =>
  cases ry
  cases x with
  | non=>cases rx;exact SeqAt.EqAt.same _
  | bl b=>cases rx;exact SeqAt.EqAt.none_bool b
  | int b=>obtain⟨t,rfl⟩:=rx;exact SeqAt.EqAt.none_int b t
  | str b=>obtain⟨t,rfl⟩:=rx;exact SeqAt.EqAt.none_str b t
  | _=>exact absurd (show false=true from fx) apk
 | bl a =>
  cases ry
  cases x with
  | non=>cases rx;exact SeqAt.EqAt.bool_none a
  | bl b=>cases rx;exact SeqAt.EqAt.bool_bool a b
  | int b=>obtain⟨t,rfl⟩:=rx;exact SeqAt.EqAt.bool_int a b t
  | str b=>obtain⟨t,rfl⟩:=rx;exact SeqAt.EqAt.bool_str a b t
  | _=>exact absurd (show false=true from fx) apk
 | int a =>
  obtain⟨t',rfl⟩:=ry
  cases x with
  | non=>cases rx;exact SeqAt.EqAt.int_none a t'
  | bl b=>cases rx;exact SeqAt.EqAt.int_bool a t' b
  | int b=>obtain⟨t,rfl⟩:=rx;exact SeqAt.EqAt.int_int a t' b t
  | str b=>obtain⟨t,rfl⟩:=rx;exact SeqAt.EqAt.int_str a t' b t
  | _=>exact absurd (show false=true from fx) apk
 | str a =>
  obtain⟨t',rfl⟩:=ry
  cases x with
  | non=>cases rx;exact SeqAt.EqAt.str_none a t'
  | bl b=>cases rx;exact SeqAt.EqAt.str_bool a t' b
  | int b=>obtain⟨t,rfl⟩:=rx;exact SeqAt.EqAt.str_int a t' b t
  | str b=>obtain⟨t,rfl⟩:=rx;exact SeqAt.EqAt.str_str a t' b t
  | _=>exact absurd (show false=true from fx) apk
 | _=>exact absurd (show false=true from fy) apk
noncomputable def eqU (x:V) (u:Value):Bool:=match u with
 | .none=>eqV .non x
 | .bool b=>eqV (.bl b) x
 | .int i _=>eqV (.int i) x
 | .str z _=>eqV (.str z) x
 | _=>false
theorem ah9 {x y:V} {u:Value} (r:RelV y u) (f:aau y=true):eqU x u=eqV y x:=by
 cases y with
 | non=>cases r;rfl
 | bl b=>cases r;rfl
 | int i=>obtain⟨t,rfl⟩:=r;rfl
 | str z=>obtain⟨t,rfl⟩:=r;rfl
 | _=>exact absurd (show false=true from f) apk
theorem acK {x:V}:∀ {xs:List V} {us:List Value},Vals xs us->xs.all aau=true->us.any (eqU x)=xs.any fun y=>eqV y x
 | _,_,.nil,_=>rfl
 | y :: xs,u :: us,.cons r t,f=>by
  rw [asK,apu] at f
  rw [asL,asL,ah9 r f.1,acK t f.2]
theorem abb {A:Around} {s:Shared} {x:V} {v:Value} (rx:RelV x v) (fx:aau x=true):∀ {xs:List V} {us:List Value},Vals xs us->xs.all aau=true->∀ u∈us,SeqAt.EqAt A s u v (eqU x u)
 | _,_,.nil,_=>fun u hu=>by cases hu
 | y :: xs,u :: us,.cons r t,f=>fun u' hu=>by
  rw [asK,apu] at f
  rcases apq.mp hu with rfl | hu
  ·rw [ah9 r f.1];exact amn r rx f.1 fx
  ·exact abb rx fx t f.2 u' hu
noncomputable def inV (x:V) (xs:List V):Bool:=xs.any fun y=>eqV y x
noncomputable def rIn (K:apj) (neg:Bool):R2:=fun x y H Q=>∃ p xs,y=.ref p/\(SqL K H p xs \/ SqT K H p xs)/\aau x=true/\xs.all aau=true/\Q (.bl (if neg then !inV x xs else inV x xs)) H
theorem acL:OpR X (compareOp .NotIn) (rIn X.K true):=by
 intro pins s σ H x y v u Q I rx ry h
 obtain⟨p,xs,rfl,hq,fx,fs,q⟩:=h
 cases ry
 rcases hq with hq | hq
 ·obtain⟨its,r,pl,hz⟩:=I.list hq
  refine SeqAt.notIn_listAt (eqU x) pl.isList (fun w hw=>abb rx fx r fs w (by simpa using hw)) ⟨.bl _,H,I,rfl,?_⟩
  rw [show its.toArray.any (eqU x)=its.any (eqU x) by simp,acK r fs]
  exact q
 ·obtain⟨its,r,pl,hz⟩:=I.tuple hq
  refine SeqAt.notIn_tupleAt (eqU x) pl (fun w hw=>abb rx fx r fs w (by simpa using hw)) ⟨.bl _,H,I,rfl,?_⟩
  rw [show its.toArray.any (eqU x)=its.any (eqU x) by simp,acK r fs]
  exact q
theorem acM:yN X (.builtin "len") (fun xs H Q=>∃ p ys,xs=[.ref p]/\(SqL X.K H p ys \/ SqT X.K H p ys)/\Q (.int ys.length) H):=by
 intro pins s σ H xs us Q I r h
 obtain⟨p,ys,rfl,hq,q⟩:=h
 obtain⟨u,rfl,rx⟩:=vals1 r
 cases rx
 have hn:=aba
 rcases hq with hq | hq
 ·obtain⟨its,r',pl,hz⟩:=I.list hq
  have hlen:=r'.length
  exact Calls.call_len_list pl.isList (by simp only [apH] <;> omega) ⟨.int ys.length,H,I.tok _,⟨s.toks+1,by rw [apH,hlen]⟩,q⟩
 ·obtain⟨its,r',pl,hz⟩:=I.tuple hq
  have hlen:=r'.length
  exact len_tuple pl (by simp only [apH] <;> omega) ⟨.int ys.length,H,I.tok _,⟨s.toks+1,by rw [apH,hlen]⟩,q⟩
theorem abT:yN X (.type "tuple") (fun xs H Q=>∃ p ys,xs=[.ref p]/\((SqL X.K H p ys/\∀ l,H l=none->Q (.ref l) (upd H l (.tup ys))) \/ (SqT X.K H p ys/\Q (.ref p) H))):=by
 intro pins s σ H xs us Q I r h
 obtain⟨p,ys,rfl,h⟩:=h
 obtain⟨u,rfl,rx⟩:=vals1 r
 cases rx
 rcases h with⟨hq,q⟩ | ⟨hq,q⟩
 ·obtain⟨its,r',pl,hz⟩:=I.list hq
  have hlen:=r'.length
  refine call_tuple_list pl.isList (fun h' kp=>?_) (by simp only [apH] <;> omega)
  have I1:Inv X pins σ H { s with heap:=h' }:=I.kept (t':=s.toks) kp
  have I2:Inv X pins σ (upd H h'.objs.size (.tup ys)) { s with heap:=h'.push { cls:=.type "tuple",data:=.seq its.toArray } } :=
   I1.laid (t':=s.toks) (fun b o e=>aps _ e) (apr _) (show ObjOk X.prog X.w _ _ _ (.tup ys) from⟨hz,its,r',IsTup.new _ _⟩)
  exact⟨.ref h'.objs.size,_,I2,rfl,q _ (I1.hok.fresh (apr _))⟩
 ·obtain⟨its,r',pl,hz⟩:=I.tuple hq
  exact call_tuple_same pl ⟨.ref p,H,I,rfl,q⟩
noncomputable def tyV (K:apj) (T:String) (x:V) (H:Hp):Prop:=match x with
 | .str _=>T="str"
 | .int _=>T="int"
 | .ref p=>(T="list"/\∃ xs,SqL K H p xs) \/ (T="tuple"/\∃ o,K.lookup p=some o/\o.cls=.type "tuple"/\o.dict=none) \/
   (T="dict"/\((∃ kvs,H p=some (.dK kvs)) \/ ∃ kvs,H p=some (.dT kvs))) \/ (T="set"/\∃ S n,H p=some (.set S n))
 | _=>False
theorem aia {pins:List (Addr×Obj)} {σ:St} {H:Hp} {s:Shared} {T:String} {x:V} {v:Value} (I:Inv X pins σ H s) (r:RelV x v) (ty:tyV X.K T x H) :
  s.TypeIs v T/\∀ a,v=.ref a->∃ ob,s.heap.get? a=some ob/\ob.dict=none:=by
 cases x with
 | str z =>
  obtain⟨t,rfl⟩:=r
  cases (show T="str" from ty)
  exact⟨typeIs_str s z t,fun _ e=>nomatch e⟩
 | int i =>
  obtain⟨t,rfl⟩:=r
  cases (show T="int" from ty)
  exact⟨typeIs_int s i t,fun _ e=>nomatch e⟩
 | ref p =>
  cases r
  rcases ty with⟨rfl,xs,hq⟩ | ⟨rfl,o,hk,hc,hd⟩ | ⟨rfl,hk⟩ | ⟨rfl,S,n,hk⟩
  ·obtain⟨its,_,pl,_⟩:=I.list hq
   refine⟨pl.isList.typeIs,fun a e=>?_⟩
   cases e
   obtain⟨o,n,e,c,hd,_⟩:=pl
   exact⟨o,e,hd⟩
  ·refine⟨⟨o,I.kIn p o hk,hc⟩,fun a e=>?_⟩
   cases e
   exact⟨o,I.kIn _ o hk,hd⟩
  ·have z:∃ o,s.heap.get? p=some o/\o.ExactDict:=by
    rcases hk with⟨kvs,hk⟩ | ⟨kvs,hk⟩
    ·obtain⟨_,_,_,_,o,_,_,e,ex,_⟩:=I.hok p _ hk
     exact⟨o,e,ex⟩
    ·obtain⟨_,_,_,_,o,_,_,e,ex,_⟩:=I.hok p _ hk
     exact⟨o,e,ex⟩
   obtain⟨o,e,ex⟩:=z
   refine⟨⟨o,e,ex.1⟩,fun a e2=>?_⟩
   cases e2
   exact⟨o,e,ex.2.1⟩
  ·obtain⟨o,_,_,_,e,ex,_⟩:=I.hok p _ hk
   refine⟨⟨o,e,ex.1⟩,fun a e2=>?_⟩
   cases e2
   exact⟨o,e,ex.2.1⟩
 | _=>exact art ty
noncomputable def anQ (K:apj) (T:String) (r:V->List V->Hp->VK->Prop) (to:TE):TE:=fun σ H Q=>to σ H fun x H1=>tyV K T x H1/\r x [] H1 Q
noncomputable def tBM (K:apj) (T:String) (r:V->List V->Hp->VK->Prop) (to:TE) (t:TA):TE:=fun σ H Q=>to σ H fun x H1=>tyV K T x H1/\t σ H1 fun xs H2=>r x xs H2 Q
variable {o e:Expr} {es:List Expr} {to:TE} {t:TA} {name:Str} {apos cpos:Pos} {T id:String} {r:V->List V->Hp->VK->Prop}
theorem amo (pa:PlainAttrs T) (slot:Slot T name id) (hty:typeOf (.builtin id)=pure (.type "method_descriptor")) (hm:MtR X id r) (ho:PE X o to)
  (hbase:attributeBase o name X.env (eval o X.env)=eval o X.env:=by rfl) (hline:(apos.endLine == cpos.line)=true:=by rfl):PE X (.Call (.Attribute o name apos) [] [] cpos) (anQ X.K T r to):=by
 intro pins s σ H Q I h
 refine wpAny_Call_method0_late hbase hline (thn (ho pins s σ H _ I h) fun v s1 ⟨x,H1,I1,r1,ty,q1⟩=>?_)
 obtain⟨h1,h2⟩:=aia I1 r1 ty
 exact⟨T,id,pa,slot,hty,h1,h2,ar6 rfl (PySem.evalArgs_none (hm pins s1 σ H1 x [] v [] Q I1 r1 .nil q1))⟩
theorem adS (pa:PlainAttrs T) (slot:Slot T name id) (hty:typeOf (.builtin id)=pure (.type "method_descriptor")) (hm:MtR X id r) (ho:PE X o to) (ha:PA X (e :: es) t)
  (hbase:attributeBase o name X.env (eval o X.env)=eval o X.env:=by rfl)
  (hfew:((backTo cpos (starEach (e :: es) X.env)).all (fun x=>!x.1) && (backToKw cpos (keywordEach [] X.env)).all (fun x=>x.1.isSome)
   && decide ((e :: es).length+([]:List Keyword).length+(if ([]:List Keyword).isEmpty then 0 else 1)<30))=true:=by rfl)
  (hline:(apos.endLine == cpos.line)=true:=by rfl) (hs:starEach (e :: es) X.env=(false,eval e X.env) :: starEach es X.env:=by rfl) (hplain:(backTo cpos (starEach es X.env)).any (·.1)=false:=by rfl) :
  PE X (.Call (.Attribute o name apos) (e :: es) [] cpos) (tBM X.K T r to t):=by
 intro pins s σ H Q I h
 refine wpAny_Call_method_late hbase hfew hline rfl (thn (ho pins s σ H _ I h) fun v s1 ⟨x,H1,I1,r1,ty,q1⟩=>?_)
 obtain⟨h1,h2⟩:=aia I1 r1 ty
 refine⟨T,id,pa,slot,hty,h1,h2,?_⟩
 have hA:=ha cpos pins s1 σ H1 _ I1 q1
 rw [hs] at hA ⊢
 refine ar6 (by show (false || (backTo cpos (starEach es X.env)).any (·.1))=false;rw [hplain] <;> rfl) (atg ?_)
 exact thn hA fun us s2 ⟨vs,H2,I2,r2,q2⟩=>hm pins s2 σ H2 x vs v us Q I2 r1 r2 q2
/- xs.append(e),list.index on a module's tuple .. are MtR facts of 06m -/
end
noncomputable def MtM (X:Cx) (id:String) (r:V->List V->Hp->VK->Prop):Prop :=
 ∀ (pins:List (Addr×Obj)) (s:Shared) (σ:St) (H:Hp) (x:V) (xs:List V) (v:Value) (us:List Value) (Q:VK),Inv X pins σ H s->RelV x v->Vals xs us->r x xs H Q ->
  wpAny (model X.prog X.w) X.A (call (.builtin id) (v :: us)) (EP X pins σ Q) X.xe s
theorem Vals.one:∀ {x:V} {us:List Value},Vals [x] us->∃ u,us=[u]/\RelV x u
 | _,_,.cons r .nil=>⟨_,rfl,r⟩
theorem Vals.zero:∀ {us:List Value},Vals [] us->us=[]
 | _,.nil=>rfl
theorem Vals.dropLast {xs:List V} {us:List Value} (h:Vals xs us):Vals xs.dropLast us.dropLast:=by
 induction h with
 | nil=>exact .nil
 | cons r t ih =>
  cases t with
  | nil=>exact .nil
  | cons q t'=>exact .cons r ih
theorem ae1 {α:Type} (l:List α):l.eraseIdx (l.length - 1)=l.dropLast:=by
 induction l with
 | nil=>rfl
 | cons a r ih =>
  cases r with
  | nil=>rfl
  | cons b r =>
   have e:(a :: b :: r).length - 1=((b :: r).length - 1)+1:=by
    have h1:(a :: b :: r).length=r.length+2:=rfl
    have h2:(b :: r).length=r.length+1:=rfl
    omega
   rw [e,List.eraseIdx_cons_succ,ih]
   all_goals rfl
section
variable {X:Cx} {pins:List (Addr×Obj)} {σ:St} {H:Hp} {s:Shared} {l b:Addr} {xs ys zs:List V}
theorem Inv.lset {its its':List Value} {n:Nat} {f:Array Value->Array Value} {t':Nat} (I:Inv X pins σ H s) (hH:H l=some (.lst xs))
  (e:s.heap.get? l=some { cls:=.type "list",data:=.seq its.toArray n }) (hf:f its.toArray=its'.toArray) (hv:Vals ys its') (hz:ys.length<=sizeLine) :
  Inv X pins σ (upd H l (.lst ys)) { s with heap:=s.heap.update l (ar2 f),toks:=t' }:=by
 have q:=PySem.IsL.update e f
 rw [hf] at q
 refine I.write (x:=l) (e:=l) (by rw [hH];exact trivial) (.inl rfl) (fun b' u hb hu=>(arv s.heap (ar2 f) (arh hb)).trans hu) ⟨_,q⟩ ?_
 exact⟨hz,its',_,hv,q⟩
theorem Inv.lnew {its:List Value} {t':Nat} (I:Inv X pins σ H s) (hv:Vals ys its) (hz:ys.length<=sizeLine) :
  Inv X pins σ (upd H s.heap.objs.size (.lst ys)) { s with heap:=s.heap.push { cls:=.type "list",data:=.seq its.toArray },toks:=t' } :=
 I.laid (fun _ _ q=>aps _ q) (apr _) ⟨hz,its,0,hv,apI _ rfl⟩
theorem Inv.fresh (I:Inv X pins σ H s):H s.heap.objs.size=none:=I.hok.fresh (apr _)
theorem Inv.lstM (I:Inv X pins σ H s) (hH:H l=some (.lst xs)):xs.length<=sizeLine/\∃ (its:List Value) (n:Nat),Vals xs its/\xs.length=its.length/\s.heap.get? l=some { cls:=.type "list",data:=.seq its.toArray n }:=by
 obtain⟨z,its,n,r,e⟩:=I.hok l _ hH
 exact⟨z,its,n,r,r.length,e⟩
end
section
variable {X:Cx}
noncomputable def aaO:V->List V->Hp->VK->Prop:=fun x vs H Q=>∃ l xs y,x=.ref l/\vs=[y]/\H l=some (.lst xs)/\xs.length<sizeLine/\Q .non (upd H l (.lst (xs++[y])))
theorem qg:MtM X "list.append" aaO:=by
 intro pins s σ H x vs v us Q I rx rv h
 obtain⟨l,xs,y,rfl,rfl,hH,hz,q⟩:=h
 cases rx
 obtain⟨u,rfl,ru⟩:=rv.one
 obtain⟨z,its,n,r,hl,e⟩:=I.lstM hH
 refine call_meets F.slot_list_append ⟨_,e,rfl⟩ atq (ath _ _) (PySem.list_append l its.toArray n u (by rw [apH];omega)) ⟨e,?_⟩
 refine⟨.non,_,I.lset (its':=its++[u]) hH e (by simp) (r.append (.cons ru .nil)) ?_,rfl,q⟩
 rw [apA,ap3]
 omega
noncomputable def anR:V->List V->Hp->VK->Prop:=fun x vs H Q=>∃ l xs y,x=.ref l/\vs=[]/\H l=some (.lst xs)/\xs[xs.length - 1]?=some y/\Q y (upd H l (.lst xs.dropLast))
theorem amq:MtM X "list.pop" anR:=by
 intro pins s σ H x vs v us Q I rx rv h
 obtain⟨l,xs,y,rfl,rfl,hH,hy,q⟩:=h
 cases rx
 have hus:=rv.zero
 subst hus
 obtain⟨z,its,n,r,hl,e⟩:=I.lstM hH
 obtain⟨u,hu,ru⟩:=r.get hy
 have hy':its.toArray[its.toArray.size - 1]?=some u:=by
  show its.toArray[its.length - 1]?=some u
  rw [<-arb,<- hl]
  exact hu
 refine call_meets F.slot_list_pop ⟨_,e,rfl⟩ F.entry_list_pop (F.args_list_pop_1 _) (MeetsSeq.list_pop_last l its.toArray n u hy' (by rw [apH];omega)) ⟨e,?_⟩
 refine⟨y,_,I.lset (its':=its.dropLast) hH e ?_ r.dropLast ?_,ru,q⟩
 ·show its.toArray.eraseIdxIfInBounds (its.toArray.size - 1)=its.dropLast.toArray
  rw [apH,List.eraseIdxIfInBounds_toArray,ae1]
 ·rw [List.length_dropLast]
  omega
end
end L2
namespace Att
open PySem PySem.W PySem.Calls PyProof.Rows
theorem aaH {P:Params} {h:Heap}:∀ (ns:List Int) (vs:List Value),WellAll P h vs (ns.map WData.int)->IntsAre vs ns:=by
 intro ns
 induction ns with
 | nil =>
  intro vs w
  rw [aty] at w
  cases w
  exact .nil
 | cons n ns ih =>
  intro vs w
  rw [apT] at w
  cases w with
  | cons a b =>
   cases a
   exact .cons _ _ (ih _ b)
theorem ag0 {l:OpenLaw} {n:Nat} (hn:l.most=some n) {P:Params} {h:Heap} {args:List WData} {vals:List Value}
  (hpre:l.row.toRowW.claim.pre args=true) (hwl:WellAll P h vals args) :
  ∃ a vs ns,vals=[Value.ref a]/\args=[WData.list (ns.map WData.int)]/\h.get? a=some { cls:=.type "list",data:=.seq vs.toArray }/\IntsAre vs ns/\ns.length<=n:=by
 have hsh:WShape.hasAll [] args [.list .int]=true:=(pre_splitW hpre).1
 have hc:l.pre.holds [] { args:=args }=true:=(pre_splitW hpre).2
 obtain⟨d,r,rfl,h1,h2⟩:=hasAllW_cons hsh
 obtain rfl:=hasAllW_nil h2
 obtain⟨xs,rfl,h3⟩:=hasW_list h1
 obtain⟨ns,rfl⟩:=items_int h3
 have hlen:ns.length<=n:=by
  unfold OpenLaw.pre at hc
  have h4:(WTm.not (.lt (.lit (.int (n:Int))) (.len (.arg 0)))).holds [] { args:=[.list (ns.map .int)] }=true:=by
   have h4:=(holds_andW hc).1
   rw [hn] at h4
   exact h4
  have h5:=condW_of h4 (w_not (w_lt w_lit (w_len_list (w_arg rfl))))
  rw [api] at h5
  refine Nat.le_of_not_lt fun q=>?_
  have q':(n:Int)<((ns.length:Nat):Int):=by omega
  first
   | (rw [decide_eq_true q'] at h5;exact absurd h5 (by decide))
   | (simp at h5;omega)
 cases hwl with
 | cons w1 w2 =>
  cases w2
  cases w1 with
  | list ho hall=>exact⟨_,_,ns,rfl,rfl,ho,aaH ns _ hall,hlen⟩
theorem ag1 (l:OpenLaw) (args:List WData):l.row.toRowW.claim.post args (.bool true) args=true :=
 postW_of (r:=l.row.toRowW) (X:=(true == true))
  (show WShape.has [] (.bool true) .bool=true by first | rfl | decide | simp [WShape.has,WShape.arms,WShape.armsAll])
  (show (WTm.eq .res (.lit (.bool true))).value [] { args:=args,res:=some (.bool true),after:=args }=some (.bool (true == true)) from w_eq_bool (w_res rfl) w_lit) rfl
theorem attach_call {l:OpenLaw} {n:Nat} {q:Program} {loose:List Str} {XP:(Str->Option Value)->Heap->Prop} {YP:World->Heap->Prop} {d:DefRec}
  (hn:l.most=some n) (hdf:d.params.defaults=[])
  (call:∀ (w:World) (s₀ s₁:Shared) (mg mb:Str->Option Value) (fa:Addr) (o:Obj) (pm cd doc:Value) (a:Addr) (vs:List Value) (ns:List Int),
   Ground q loose [] XP w s₀ mg mb s₁.heap->YP w s₁.heap ->
   s₁.heap.get? fa=some o->o.data=.func (docDef d.name d.params d.body d.scope pm cd doc)->s₁.heap.CodeRec cd d.name->mg d.name=some (.ref fa) ->
   s₁.heap.get? a=some { cls:=.type "list",data:=.seq vs.toArray }->IntsAre vs ns->ns.length<=n->s₁.gens=#[] ->
   codeAny (model l.prog w) callerA (.call (.ref fa) ⟨[.ref a],[]⟩) (fun r s'=>r=.ok (.ret (.bool true))/\OldK s₁.heap s'.heap/\s'.os=s₁.os/\AllBare s'.gens) s₁) :
  WalkO q loose XP YP l.row.toRowW d [] (fun f vs=>PySem.call f vs):=by
 intro w s₀ s₁ mg mb G Y fa o pm cd doc dV kV ho hd hcd hD hmg hg args vals as hpre hlay hrd hwl hlo
 obtain rfl:dV=.none:=Dflts.none hD hdf
 obtain rfl:kV=.none:=Dflts.noKw hD
 obtain⟨a,vs,ns,rfl,rfl,hobj,hints,hlen⟩:=ag0 hn hpre hwl
 refine enter_call (codeAny_mono (call w s₀ s₁ mg mb fa o pm cd doc a vs ns G Y ho (fd_plain hd) hcd hmg hobj hints hlen hg) fun r s' hq=>?_)
 obtain⟨rfl,h2,h3,h4⟩:=hq
 exact⟨.inl ⟨.bool true,.bool true,[],rfl,fun _=>rfl,.bool true,ag1 l _,fun _=>⟨List.Pairwise.nil,fun _ hm=>(nomatch hm)⟩⟩,h2,h3,h4⟩
section
variable {prog:Program} {w:World} {A:Around} {E:Value->Shared->Prop} {s:Shared} {K:Frag}
end
end Att
namespace L2
open PySem PySem.Spec PyProof.Rows
theorem ace:∀ {vs:List Value} {ns:List Int},IntsAre vs ns->Vals (ns.map V.int) vs
 | _,_,.nil=>.nil
 | _,_,.cons n t h=>.cons ⟨t,rfl⟩ (ace h)
noncomputable def amr (H:Hp):Prop:=∀ b,H b=none \/ ∃ o xs,H b=some (.frz o (.lst xs))
theorem aib {P:Program} {w:World} {K:apj} {mg mb:Str->Option Value} {CX:CXT} {k:Nat} {fa a:Addr} {fd:FuncData} {x:Str} {sp:Sp} {s₁:Shared} {vs:List Value} {ns:List Int}
  (KX:K.In s₁.heap) (hns:s₁.heap.Ns mainGlobals mg) (hb:s₁.heap.Ns builtinsNs mb) (hbb:∀ x:Str,x ≠ "__name__"->mb x=bootBuiltins x) (hlim:s₁.heap.NoLimit) (hg:s₁.gens=#[])
  (ha:s₁.heap.get? a=some { cls:=.type "list",data:=.seq vs.toArray }) (hi:IntsAre vs ns) (hl:ns.length<=sizeLine) (hr:Room k callerA)
  (F:∀ base:Heap,K.In base->base.Ns mainGlobals mg->FnOk P w K mg base CX k fa fd [x] sp) (hbind:∀ (s:Shared) (u:Value),BindsTo s fd ⟨[u],[]⟩ [(x,u)])
  (hsp:∀ H:Hp,amr H->SqL K H a (ns.map V.int)->sp [.ref a] H (fun v _=>v=.bl true) fun _ _ _=>False)
  (hCX:∀ H e s',CX [] H s₁ (fun _ _ _=>False) e s'->False) :
  codeAny (model P w) callerA (.call (.ref fa) ⟨[.ref a],[]⟩) (fun r s'=>r=.ok (.ret (.bool true))/\OldK s₁.heap s'.heap/\s'.os=s₁.os/\AllBare s'.gens) s₁:=by
 have rv:=ace hi
 have lenV:=hi.length
 -- from an abstract heap in which nothing but the script may be tracked
 have core:∀ H:Hp,amr H->SqL K H a (ns.map V.int)->HOk P w H s₁.heap->(∀ b,H b≠none->b=a)->(H a≠none->K.lookup a=none) ->
   codeAny (model P w) callerA (.call (.ref fa) ⟨[.ref a],[]⟩) (fun r s'=>r=.ok (.ret (.bool true))/\OldK s₁.heap s'.heap/\s'.os=s₁.os/\AllBare s'.gens) s₁:=by
  intro H hO hS hok hA hK
  have base_of:∀ {b:Addr} {o:Obj},s₁.heap.get? b=some o->H b=none->(acE s₁.heap H).get? b=some o:=fun e n=>ahW e n
  have noA:∀ {b:Addr} {o:Obj} {es:Array DictEntry} {ep:Nat},s₁.heap.get? b=some o->o.data=.dict es ep->H b=none:=fun {b o es ep} e d=>by
   cases q:H b with
   | none=>rfl
   | some u =>
    have e':b=a:=hA b (by rw [q];simp)
    subst e'
    rw [ha] at e;cases e
    have d':Data.seq vs.toArray _=Data.dict es ep:=d
    cases d'
  have nsK:∀ {b:Addr} {m:Str->Option Value},s₁.heap.Ns b m->(acE s₁.heap H).Ns b m:=fun {b m} ⟨o,es,ep,e,d,r⟩=>⟨o,es,ep,base_of e (noA e d),d,r⟩
  have hKb:K.In (acE s₁.heap H):=fun b o e=>base_of (KX b o e) (by
   cases q:H b with
   | none=>rfl
   | some u =>
    have e':b=a:=hA b (by rw [q];simp)
    subst e'
    rw [hK (by rw [q];simp)] at e;cases e)
  have hM:Mod K mg (acE s₁.heap H):=⟨hKb,nsK hns,⟨mb,nsK hb,hbb⟩,let⟨mc,h1,h2⟩:=hlim;⟨mc,nsK h1,h2⟩⟩
  have e0:Env0 P w K mg (acE s₁.heap H) callerA [] s₁ H:=⟨rfl,hM,fun b o e=>ajZ e,arw (agS _ _),trivial,fun b hb=>absurd (show b∈([]:List Addr) from hb) (by simp),hok,.of_eq hg⟩
  refine codeAny_mono ((F _ hKb (nsK hns)).run callerA [] s₁ H ⟨[.ref a],[]⟩ [.ref a] [.ref a] _ _ hr e0 (hbind s₁ (.ref a)) (.cons rfl .nil) (hsp H hO hS)) fun r s' h=>?_
  cases r with
  | error e=>exact (hCX H e s' h).elim
  | ok fl =>
   cases fl with
   | next=>exact art h
   | brk=>exact art h
   | cont=>exact art h
   | ret u =>
    obtain⟨v,H',os,bare,un,hok',r',q⟩:=h
    have q':v=.bl true:=q
    subst q'
    obtain rfl:u=Value.bool true:=r'
    refine⟨rfl,OldK.of_keep fun b o e=>?_,os,bare⟩
    cases q:H b with
    | none=>exact un.keep b o e q (by intro z;exact absurd (show b∈([]:List Addr) from z) (by simp)) (by simp)
    | some u =>
     rcases hO b with z | ⟨ob,xs,z⟩
     ·rw [q] at z;cases z
     ·have z2:=un.frzs b ob _ z
      obtain⟨e1,_⟩:=hok b _ z
      obtain⟨e2,_⟩:=hok' b _ z2
      rw [e] at e1;cases e1
      exact e2
 cases hk:K.lookup a with
 | some o =>
  -- the script is one of the module's own objects
  have e:=KX a o hk
  rw [ha] at e
  cases e
  refine core (fun _=>none) (fun _=>.inl rfl) (.inr ⟨_,vs.toArray,_,hk,rfl,rfl,rfl,by rw [apH,lenV];exact hl,by simpa using rv⟩) (fun b u z=>by have z':(none:Option HO)=some u:=z;cases z') (fun b z=>absurd rfl z) fun z=>absurd rfl z
 | none =>
  refine core (fun b=>if b=a then some (.frz { cls:=.type "list",data:=.seq vs.toArray } (.lst (ns.map V.int))) else none) (fun b=>?_) (.inl (.inr ⟨{ cls:=.type "list",data:=.seq vs.toArray },if_pos rfl⟩)) (fun b u z=>?_) (fun b z=>?_) fun _=>hk
  ·by_cases hb:b=a
   ·exact .inr ⟨_,_,if_pos hb⟩
   ·exact .inl (if_neg hb)
  ·by_cases hb:b=a
   ·have z':=(if_pos hb).symm.trans z
    cases z'
    subst hb
    exact⟨ha,by rw [api];exact hl,vs,_,rv,ha⟩
   ·have z':=(if_neg hb).symm.trans z
    cases z'
  ·by_cases hb:b=a
   ·exact hb
   ·exact absurd (if_neg hb) z
noncomputable abbrev KOf {K:apj} {h:Heap} (_:K.In h):apj:=K
theorem walk_of {l:PySem.W.OpenLaw} {n k:Nat} {q:Program} {loose:List Str} {XP:(Str->Option Value)->Heap->Prop} {YP:World->Heap->Prop} {d:DefRec} {K:Params->apj} {CX:World->CXT} {sp:World->Sp} {x:Str}
  (hn:l.most=some n) (hn2:n<=sizeLine) (hdf:d.params.defaults=[]) (hr:Room k callerA)
  (hY:∀ (w:World) (h:Heap),YP w h->(K w.params).In h)
  (F:∀ (w:World) (mg:Str->Option Value) (fa:Addr) (h:Heap),(K w.params).In h->h.Ns mainGlobals mg->mg d.name=some (.ref fa) ->
   ∃ fd:FuncData,(∀ (s:Shared) (u:Value),BindsTo s fd ⟨[u],[]⟩ [(x,u)]) /\
    ∀ base:Heap,(K w.params).In base->base.Ns mainGlobals mg->FnOk l.prog w (K w.params) mg base (CX w) k fa fd [x] (sp w))
  (hsp:∀ (w:World) (H:Hp) (a:Addr) (ns:List Int),ns.length<=n->amr H->SqL (K w.params) H a (ns.map V.int)->sp w [.ref a] H (fun v _=>v=.bl true) fun _ _ _=>False)
  (hCX:∀ (w:World) (H:Hp) (s:Shared) (e:Value) (s':Shared),CX w [] H s (fun _ _ _=>False) e s'->False) :
  PySem.W.WalkO q loose XP YP l.row.toRowW d [] (fun f vs=>PySem.call f vs):=by
 refine Att.attach_call hn hdf fun w s₀ s₁ mg mb fa o pm cd doc a vs ns G Y ho hd hcd hmg hobj hints hlen hg=>?_
 have KX:=hY w _ Y
 obtain⟨fd,hb,hF⟩:=F w mg fa _ KX G.T.g hmg
 exact aib KX G.T.g G.T.b G.T.builtins G.T.nolimit hg hobj hints (apO hlen hn2) hr hF hb (fun H hO hS=>hsp w H a ns hlen hO hS) fun H e s'=>hCX w H s₁ e s'
end L2
/- THE LAST THEOREM (shape;LID,My.* are yours):
   My.Adr: a structure of the addresses that your layer names (classes,functions);My.Txt K t: a structure (Prop) of the equations over K;
   My.txt_mk:{K} {implicit addresses ..} (e1:nsIn K mainGlobals "law"=some (some (.ref f))) (e2:K.lookup f=some ⟨oc,od,.func (fnOf "law" "law" params body scope dV kV doc pm an cdv ct),sl⟩) (e3:codeIn K cdv "law"=true) ..:∃ t,My.Txt K t
set_option maxRecDepth 100000 in
set_option maxHeartbeats 0 in
theorem PySem.Challenge.cw_LID_holds : PySem.Challenge.rw_LID.Holds := by
 w_on;o_law;k_head;(case hw=>w_witness2)
 k_fill
 refine L2.walk_of (l:=PySem.Challenge.rw_LID) (n:=63) (k:=40) (x:="script") (CX:=fun w=>..) (sp:=fun _=>My.sp_law) rfl (by decide) rfl ⟨rfl,by decide,by decide⟩ (fun w h Y=>PySem.W.kIn_of Y) ?F ?S ?C
 case F =>
  intro w mg fa h KX G hmg
  have T:∃ t,My.Txt (L2.KOf KX) t:=by
   dsimp only [L2.KOf]                          -- K must stand as «<heap const> w.params» for k_is
   refine' My.txt_mk ?e1 ?e2 ?e3 ..
   (case e1=>PySem.W.k_is)                    -- in the order: a name->its address->its object->its parts
   (case e2=>PySem.W.k_is)
   ..
  obtain⟨t,T⟩:=T
  have e0:=hmg.symm.trans (arH KX G T.law)
  cases e0                                       -- fa is the law's own address
  exact⟨_,fun s u=>.of_eq rfl,fun base kb nb=>My.law_fn T kb nb⟩     -- if «.of_eq rfl» comes too early: refine' ⟨_,?b,fun base kb nb=>My.law_fn T kb nb⟩;exact fun s u=>.of_eq rfl
 case S=>exact fun w H a ns hl hO hS=>..
 case C=>exact ..
(the tactic k_is has no namespace: write k_is) -/
namespace L2
open PySem PySem.Spec PyProof.Rows
noncomputable def jf (s:Stmt):Arguments:=match s with
 | .FunctionDef _ a _ _ _ _ _ _ _ _=>a
 | _=>{ posonlyargs:=[],args:=[],vararg:=none,kwonlyargs:=[],kw_defaults:=[],kwarg:=none,defaults:=[] }
noncomputable def yC (s:Stmt):List Stmt:=match s with
 | .FunctionDef _ _ b _ _ _ _ _ _ _=>b
 | _=>[]
noncomputable def zk (s:Stmt):Scope:=match s with
 | .FunctionDef _ _ _ _ _ _ sc _ _ _=>sc
 | _=>{ kind:=.function,names:=[],isGenerator:=false,isCoroutine:=false }
noncomputable abbrev CX0:CXT:=fun _ _ _ _ _ _=>False
noncomputable abbrev E0:XK:=fun _ _ _=>False
theorem anS {X:Cx}:Passes CX0 X E0:=fun _ _ _ _ _ _ _ h=>h.elim
structure Fun (K:apj) (x qual:Str) (st:Stmt) (f:Addr) (fd:FuncData):Prop where
 ex:∃ (oc:Value) (od:Option Addr) (kV doc pm:Value) (an:Option Addr) (cdv ct:Value) (osl:Array (Option Value)),
  fd=aqx x qual (jf st) (yC st) (zk st) .none kV doc pm an cdv ct/\K.lookup f=some ⟨oc,od,.func fd,osl⟩/\asy K cdv qual=true
 kp:aqo K (.ref f)=true
section
variable {P:Program} {w:World} {K:apj} {mg:Str->Option Value} {base:Heap}
theorem Fun.ok {x qual:Str} {st:Stmt} {f:Addr} {fd:FuncData} {N ps:List Str} {k:Nat} {sp:Sp} (F:Fun K x qual st f fd) (S:FnScope N ps (zk st)) (len:∀ vs H Q E,sp vs H Q E->vs.length=ps.length)
  (hbody:∀ (cdv:Value) (A:Around) (outer:List Env) (s:Shared) (H:Hp) (vs:List V) (Q:VK) (E:XK),Room k (A.deeper (envOfC qual (zk st) s.heap.objs.size f cdv))->sp vs H Q E ->
   ∃ t,PSs (yn CX0 P w K mg base N qual (zk st) f cdv A outer s H E).nox (yC st) t/\t { nx:=fun _ H'=>Q .non H',rt:=Q } (start N vs) H):FnOk P w K mg base CX0 (k+1) f fd ps sp:=by
 obtain⟨oc,od,kV,doc,pm,an,cdv,ct,osl,rfl,lk,hcd⟩:=F.ex
 refine anP lk hcd S len fun A outer s H vs Q E hr hsp=>?_
 obtain⟨t,h,q⟩:=hbody cdv A outer s H vs Q E hr hsp
 exact⟨t,h.nox,q⟩
theorem Fun.binds {x qual:Str} {st:Stmt} {f:Addr} {fd:FuncData} {ps:List Str} (F:Fun K x qual st f fd)
  (h:∀ (kV doc pm:Value) (an:Option Addr) (cdv ct:Value) (us:List Value),us.length=ps.length->bindArgs (aqx x qual (jf st) (yC st) (zk st) .none kV doc pm an cdv ct) ⟨us,[]⟩=pure (ps.zip us)):Binds K fd ps []:=by
 obtain⟨oc,od,kV,doc,pm,an,cdv,ct,osl,rfl,lk,hcd⟩:=F.ex
 exact .all (h kV doc pm an cdv ct)
theorem ae2 {x qual:Str} {st:Stmt} {f:Addr} {oc:Value} {od an:Option Addr} {osl:Array (Option Value)} {kV doc pm cdv ct:Value} (l:K.lookup f=some ⟨oc,od,.func (aqx x qual (jf st) (yC st) (zk st) .none kV doc pm an cdv ct),osl⟩)
  (c:asy K cdv qual=true) (k:aqo K (.ref f)=true):Fun K x qual st f (aqx x qual (jf st) (yC st) (zk st) .none kV doc pm an cdv ct):=⟨⟨oc,od,kV,doc,pm,an,cdv,ct,osl,rfl,l,c⟩,k⟩
end
theorem zY {n:Nat} (h:n<=1000):n<sizeLine:=aqN h (by decide)
section
variable {X:Cx}
theorem pv (i:Nat) {x:Str} {pos:Pos} (hN:X.N[i]?=some x:=by rfl) (hv:Vis X.env.scope x:=by first | exact Or.inl rfl | exact Or.inr (Or.inl rfl) | exact Or.inr (Or.inr rfl)) (hd:(x == ("__debug__":Str))=false:=by decide)
  (hcd:(x == ("__classdict__":Str))=false:=by decide):PE X (.Name x pos) (yj i):=al7 hN hv hd hcd
end
noncomputable def Same (H H':Hp):Prop:=∀ b o,H b=some o->H' b=some o
theorem Same.refl (H:Hp):Same H H:=fun _ _ h=>h
theorem Same.trans {H H1 H2:Hp} (a:Same H H1) (b:Same H1 H2):Same H H2:=fun c o h=>b c o (a c o h)
theorem Same.free {H H':Hp} (e:Same H H') {l:Addr} (h:H' l=Option.none):H l=Option.none:=by
 cases q:H l with
 | none=>rfl
 | some o =>
  rw [e l o q] at h
  cases h
theorem Same.seq {K:apj} {H H':Hp} {a:Addr} {xs:List V} (e:Same H H') (h:SqL K H a xs):SqL K H' a xs:=by
 rcases h with (h | ⟨o,h⟩) | h
 ·exact .inl (.inl (e _ _ h))
 ·exact .inl (.inr ⟨o,e _ _ h⟩)
 ·exact .inr h
noncomputable def yp (env:Env):List (Str×NameKind)->List (Str×Addr)->List (Str×Addr)
 | [],acc=>acc
 | (x,k) :: r,acc=>if k == .free then yp env r ((x,(env.cells.lookup x).getD 0) :: acc) else yp env r acc
theorem ae3 {sc:Scope} {env:Env} (h:∀ x,(x,NameKind.free)∈sc.names->∃ c,env.cells.lookup x=some c):closureFor sc env=pure (yp env sc.names []):=by
 have key:∀ (names:List (Str×NameKind)) (acc:List (Str×Addr)),(∀ x,(x,NameKind.free)∈names->∃ c,env.cells.lookup x=some c) ->
   (forIn names acc fun (x:Str×NameKind) (cs:List (Str×Addr))=>if (x.2 == NameKind.free)=true then (do let c <- cellOf env x.1;pure (ForInStep.yield ((x.1,c) :: cs))) else pure (ForInStep.yield cs))=(pure (yp env names acc):Sem (List (Str×Addr))):=by
  intro names
  induction names with
  | nil=>intro acc _;rfl
  | cons p r ih =>
   intro acc hh
   obtain⟨x,k⟩:=p
   rw [aqK]
   unfold yp
   by_cases hk:(k == NameKind.free)=true
   ·have hk':k=.free:=by simpa using hk
    subst hk'
    obtain⟨c,hc⟩:=hh x apo
    simp only [beq_self_eq_true,if_true]
    rw [<-ih _ fun y hy=>hh y (apl _ hy)]
    have:cellOf env x=pure c:=by unfold cellOf;rw [hc]
    rw [this,hc]
    rfl
   ·simp only [hk,apZ,if_false]
    rw [<-ih _ fun y hy=>hh y (apl _ hy)]
    rfl
 simp only [closureFor]
 have q:=key sc.names [] h
 refine Eq.trans ?_ (Eq.trans (congrArg (fun z=>z >>= fun r=>pure r) q) ?_)
 ·rfl
 ·rfl
theorem qw {env:Env}:∀ {names:List (Str×NameKind)} {acc:List (Str×Addr)} {p:Str×Addr},p∈yp env names acc->p∈acc \/ ((p.1,NameKind.free)∈names/\p.2=(env.cells.lookup p.1).getD 0)
 | [],acc,p,h=>.inl h
 | (x,k) :: r,acc,p,h=>by
  unfold yp at h
  split at h
  ·rename_i hk
   have hk':k=.free:=by simpa using hk
   subst hk'
   rcases qw h with q | ⟨q,e⟩
   ·rcases apq.mp q with q | q
    ·subst q;exact .inr ⟨apo,rfl⟩
    ·exact .inl q
   ·exact .inr ⟨apl _ q,e⟩
  ·rcases qw h with q | ⟨q,e⟩
   ·exact .inl q
   ·exact .inr ⟨apl _ q,e⟩
theorem qL {α:Type}:∀ {l:List (Str×α)} {x:Str} {v:α},(x,v)∈l->∃ u,l.lookup x=some u
 | (y,u) :: r,x,v,h=>by
  rw [aqg]
  cases hb:x == y with
  | true=>exact⟨u,rfl⟩
  | false =>
   rcases apq.mp h with e | h
   ·have:x=y:=congrArg Prod.fst e
    subst this
    simp at hb
   ·exact qL h
theorem vB {env:Env}:∀ {names:List (Str×NameKind)} {acc:List (Str×Addr)} {x:Str},(x,NameKind.free)∈names->(x,(env.cells.lookup x).getD 0)∈yp env names acc
 | (y,k) :: r,acc,x,h=>by
  have mono:∀ (names:List (Str×NameKind)) (acc:List (Str×Addr)) (p:Str×Addr),p∈acc->p∈yp env names acc:=by
   intro names
   induction names with
   | nil=>intro acc p hp;exact hp
   | cons q r ih =>
    intro acc p hp
    obtain⟨a,b⟩:=q
    unfold yp
    split
    ·exact ih _ _ (apl _ hp)
    ·exact ih _ _ hp
  unfold yp
  rcases apq.mp h with e | h
  ·cases e
   simp only [beq_self_eq_true,if_true]
   exact mono _ _ _ apo
  ·split
   ·exact vB h
   ·exact vB h
theorem vn {env:Env} {names:List (Str×NameKind)} {x:Str} {c:Addr} (h:∀ x,(x,NameKind.free)∈names->∃ c,env.cells.lookup x=some c) (e:(yp env names []).lookup x=some c):env.cells.lookup x=some c/\(x,NameKind.free)∈names:=by
 rcases qw (mem_of_lookup e) with q | ⟨q,e'⟩
 ·cases q
 ·obtain⟨c',hc⟩:=h _ q
  dsimp only at hc e'
  rw [hc] at e'
  exact⟨by rw [hc];exact congrArg some e'.symm,q⟩
theorem aav {env:Env} {names:List (Str×NameKind)} {x:Str} {c:Addr} (h:∀ x,(x,NameKind.free)∈names->∃ c,env.cells.lookup x=some c) (hx:(x,NameKind.free)∈names) (e:env.cells.lookup x=some c):(yp env names []).lookup x=some c:=by
 obtain⟨u,hu⟩:=qL (vB (env:=env) (acc:=[]) hx)
 have:=(vn h hu).1
 rw [this] at e
 rw [hu,e]
theorem jq:∀ {names:List (Str×NameKind)} {n:Nat} {acc:List (Str×Addr)} {x:Str} {c:Addr},(cellsFrom n names acc).lookup x=some c->(n<=c/\c<n+names.length/\(x,NameKind.cell)∈names) \/ (acc.lookup x=some c/\(x,NameKind.cell)∉names)
 | [],n,acc,x,c,h=>.inr ⟨h,by simp⟩
 | (y,k) :: r,n,acc,x,c,h=>by
  unfold cellsFrom at h
  split at h
  ·rename_i hk
   have hk':k=.cell:=by simpa using hk
   subst hk'
   rcases jq h with⟨q1,q2,q3⟩ | ⟨q1,q2⟩
   ·exact .inl ⟨ar7 q1,apF q2 (by rw [apL];omega),apl _ q3⟩
   ·rw [aqg] at q1
    cases hb:x == y with
    | true =>
     rw [hb] at q1
     cases q1
     have:x=y:=by simpa using hb
     subst this
     exact .inl ⟨apr _,by rw [apL];exact Nat.lt_add_of_pos_right (asY _),apo⟩
    | false =>
     rw [hb] at q1
     refine .inr ⟨q1,fun z=>?_⟩
     rcases apq.mp z with e | z
     ·have:x=y:=congrArg Prod.fst e
      subst this
      simp at hb
     ·exact q2 z
  ·rename_i hk
   rcases jq h with⟨q1,q2,q3⟩ | ⟨q1,q2⟩
   ·exact .inl ⟨q1,apF q2 (by rw [apL];omega),apl _ q3⟩
   ·refine .inr ⟨q1,fun z=>?_⟩
    rcases apq.mp z with e | z
    ·have:k=.cell:=(congrArg Prod.snd e).symm
     subst this
     simp at hk
    ·exact q2 z
theorem jA:∀ (names:List (Str×NameKind)) (n:Nat) (acc:List (Str×Addr)),(acc.Pairwise fun x y=>x.2≠y.2)->(∀ p∈acc,p.2<n)->(cellsFrom n names acc).Pairwise fun x y=>x.2≠y.2
 | [],n,acc,h,_=>h
 | (y,k) :: r,n,acc,h,hl=>by
  unfold cellsFrom
  split
  ·refine jA r (n+1) _ (aqA.mpr ⟨fun p hp=>?_,h⟩) fun p hp=>?_
   ·exact aq3 (hl p hp)
   ·rcases apq.mp hp with e | hp
    ·subst e;exact Nat.lt_succ_self _
    ·exact aqV (hl p hp)
  ·exact jA r n acc h hl
theorem abU {names:List (Str×NameKind)} {n:Nat} {acc:List (Str×Addr)} {x:Str} (h:names.lookup x=some .cell):∃ c,(cellsFrom n names acc).lookup x=some c :=
 arY.mp (aru names n acc (.inl h))
theorem vo {names:List (Str×NameKind)} {n:Nat} {acc:List (Str×Addr)} {x:Str} (h:(acc.lookup x).isSome=true):∃ c,(cellsFrom n names acc).lookup x=some c :=
 arY.mp (aru names n acc (.inr h))
theorem j6:∀ (names:List (Str×NameKind)) (h:Heap) (acc:List (Str×Addr)) (x:Str) (c:Addr),(cellsFrom h.objs.size names acc).lookup x=some c->h.objs.size<=c->(∀ p∈acc,p.2<h.objs.size)->(pushCells h names).IsCell c none
 | [],h,acc,x,c,e,hc,hl=>absurd (hl _ (mem_of_lookup e)) (atw.mpr hc)
 | (y,k) :: r,h,acc,x,c,e,hc,hl=>by
  unfold cellsFrom at e
  unfold pushCells
  split at e
  ·rename_i hk
   rw [if_pos hk]
   by_cases hcc:c=h.objs.size
   ·subst hcc
    exact⟨_,pushCells_keeps _ _ _ _ (apI _ rfl),rfl⟩
   ·have es:(h.push { cls:=.type "cell",data:=.cell none }).objs.size=h.objs.size+1:=aqS ..
    refine j6 r _ ((y,h.objs.size) :: acc) x c (by rw [es];exact e) (by rw [es];exact Nat.lt_of_le_of_ne hc (arh hcc)) fun p hp=>?_
    rw [es]
    rcases apq.mp hp with e | hp
    ·subst e;exact Nat.lt_succ_self _
    ·exact aqV (hl p hp)
  ·rename_i hk
   rw [if_neg hk]
   exact j6 r h acc x c e hc hl
noncomputable def zo (X:Cx) (sc:Scope) (N:List Str) (s₀:Shared) (H₀:Hp) (ex:List Addr) (pn:List (Addr×Obj)):Cx :=
 { X with N:=N,s₀:=s₀,H₀:=H₀,env:=compEnvC sc (cellsFrom (s₀.heap.objs.size+1) sc.names (yp X.env sc.names [])) s₀.heap.objs.size X.env,
          outer:=X.stack,ex:=ex,fn:=fun x=>decide (sc.names.lookup x=some .cell),pn:=pn,xe:=fun _ _=>False }
structure CompScope (NO:List Str) (scO:Scope) (N:List Str) (sc:Scope) (own:Nat) (fr:List Nat):Prop where
 kind:sc.kind=.function
 nd:N.Nodup
 snd:(sc.names.map (·.1)).Nodup
 free:∀ p∈sc.names,p.2=.free->scO.names.lookup p.1=some .cell \/ scO.names.lookup p.1=some .free
 frn:∀ p∈(N.drop own).zip fr,NO[p.2]?=some p.1/\sc.names.lookup p.1=some .free
 len:N.length=own+fr.length
noncomputable def jr (own:Nat) (fr:List Nat) (σ:St):St:=aqb own none++fr.map fun j=>(σ[j]?).getD none
theorem yu {α:Type}:∀ {l:List (Str×α)} {x:Str} {k:α},(l.map (·.1)).Nodup->(x,k)∈l->l.lookup x=some k
 | (y,u) :: r,x,k,nd,h=>by
  rw [apT] at nd
  obtain⟨h1,h2⟩:=aqq.mp nd
  rw [aqg]
  rcases apq.mp h with e | h'
  ·cases e;simp
  ·have:x≠y:=by
    intro e
    subst e
    exact h1 (apJ.mpr ⟨(x,k),h',rfl⟩)
   rw [beq_eq_false_iff_ne.mpr this]
   exact yu h2 h'
theorem jN {env:Env}:∀ {names:List (Str×NameKind)} {x:Str} {k:NameKind},names.lookup x=some k ->
  (names.map fun (n,k)=>if (k == NameKind.free && env.scope.kind == .function && env.kindOf n == some .cell) then (n,NameKind.cell) else (n,k)).lookup x=some (if (k == NameKind.free && env.scope.kind == .function && env.kindOf x == some .cell) then .cell else k)
 | (n,k') :: r,x,k,h=>by
  have ih:=@jN env r x k
  show List.lookup x ((if (k' == NameKind.free && env.scope.kind == .function && env.kindOf n == some .cell)=true then (n,NameKind.cell) else (n,k')) :: _)=_
  cases hx:x == n with
  | true =>
   have:x=n:=by simpa using hx
   subst this
   simp only [aqg,hx] at h
   cases h
   split <;> simp [aqg]
  | false =>
   simp only [aqg,hx] at h
   split
   ·simp only [aqg,hx];exact ih h
   ·simp only [aqg,hx];exact ih h
theorem jB {env:Env}:∀ {names:List (Str×NameKind)} {x:Str},names.lookup x=none ->
  (names.map fun (n,k)=>if (k == NameKind.free && env.scope.kind == .function && env.kindOf n == some .cell) then (n,NameKind.cell) else (n,k)).lookup x=none
 | [],_,_=>rfl
 | (n,k') :: r,x,h=>by
  have ih:=@jB env r x
  show List.lookup x ((if (k' == NameKind.free && env.scope.kind == .function && env.kindOf n == some .cell)=true then (n,NameKind.cell) else (n,k')) :: _)=_
  cases hx:x == n with
  | true=>simp only [aqg,hx] at h;cases h
  | false =>
   simp only [aqg,hx] at h
   split
   ·simp only [aqg,hx];exact ih h
   ·simp only [aqg,hx];exact ih h
section
variable {X:Cx} {pins:List (Addr×Obj)} {σ:St} {H:Hp} {s:Shared} {NO N:List Str} {scO sc:Scope} {own:Nat} {fr:List Nat} {fp:List Addr}
theorem aic {tk:Nat} (S:CompScope NO scO N sc own fr) (hN:X.N=NO) (hsc:X.env.scope=scO) (I:Inv X pins σ H s) (hf:∀ b∈fp,vK X pins H b) (ho:∀ b∈fp,∃ o,s.heap.get? b=some o/\∀ v,o.data≠.cell v) :
  Inv (zo X sc N s H fp (X.pn++pins)) [] (jr own fr σ) H { s with heap:=pushCells (s.heap.push { cls:=.type "dict",data:=.dict #[] }) sc.names,toks:=tk }:=by
 have hfree:∀ x,(x,NameKind.free)∈sc.names->∃ c,X.env.cells.lookup x=some c:=fun x hx=>I.ok.has x (by
  show X.env.scope.names.lookup x=_ \/ X.env.scope.names.lookup x=_
  rw [hsc]
  exact S.free _ hx rfl)
 have hclt:∀ p∈yp X.env sc.names [],p.2<s.heap.objs.size:=fun p hp=>by
  rcases qw hp with q | ⟨q,e⟩
  ·cases q
  ·obtain⟨c,hc⟩:=hfree _ q
   rw [e,hc]
   obtain⟨v,o,ho,_⟩:=I.cell _ c hc
   exact apw ho
 have hsz:(s.heap.push { cls:=.type "dict",data:=.dict #[] }).objs.size=s.heap.objs.size+1:=aqS ..
 have hk:∀ b o,s.heap.get? b=some o->(pushCells (s.heap.push { cls:=.type "dict",data:=.dict #[] }) sc.names).get? b=some o:=fun b o e=>pushCells_keeps _ _ _ _ (aps _ e)
 have hcase:∀ {x:Str} {c:Addr},(cellsFrom (s.heap.objs.size+1) sc.names (yp X.env sc.names [])).lookup x=some c->(s.heap.objs.size+1<=c/\(x,NameKind.cell)∈sc.names) \/ (X.env.cells.lookup x=some c/\(x,NameKind.free)∈sc.names):=fun {x c} e=>by
  rcases jq e with⟨q1,_,q3⟩ | ⟨q1,_⟩
  ·exact .inl ⟨q1,q3⟩
  ·exact .inr (vn hfree q1)
 have clap:(yp X.env sc.names []).Pairwise fun x y=>x.2≠y.2:=by
  have key:∀ (names:List (Str×NameKind)) (acc:List (Str×Addr)),(∀ p∈acc,X.env.cells.lookup p.1=some p.2)->(∀ x,(x,NameKind.free)∈names->∃ c,X.env.cells.lookup x=some c)->(acc.Pairwise fun x y=>x.2≠y.2)->(∀ p∈acc,(p.1,NameKind.free)∉names)->(names.map (·.1)).Nodup ->
    (yp X.env names acc).Pairwise fun x y=>x.2≠y.2:=by
   intro names
   induction names with
   | nil=>intro acc _ _ h _ _;exact h
   | cons p r ih =>
    intro acc h1 h2 h3 h4 h5
    obtain⟨y,k⟩:=p
    rw [apT] at h5
    obtain⟨n1,n2⟩:=aqq.mp h5
    unfold yp
    split
    ·rename_i hk
     have hk':k=.free:=by simpa using hk
     subst hk'
     obtain⟨c,hc⟩:=h2 y apo
     rw [hc]
     refine ih _ (fun p hp=>?_) (fun x hx=>h2 x (apl _ hx)) (aqA.mpr ⟨fun p hp=>?_,h3⟩) (fun p hp=>?_) n2
     ·rcases apq.mp hp with e | hp
      ·subst e;exact hc
      ·exact h1 p hp
     ·intro e
      have e':p.2=c:=e.symm
      have:=I.ok.inj _ _ _ hc (e'▸h1 p hp)
      exact h4 p hp (this▸apo)
     ·rcases apq.mp hp with e | hp
      ·subst e
       intro z
       exact n1 (apJ.mpr ⟨_,z,rfl⟩)
      ·intro z;exact h4 p hp (apl _ z)
    ·exact ih acc h1 (fun x hx=>h2 x (apl _ hx)) h3 (fun p hp z=>h4 p hp (apl _ z)) n2
  exact key sc.names [] (fun p hp=>by cases hp) hfree List.Pairwise.nil (fun p hp=>by cases hp) S.snd
 have apart:=jA sc.names (s.heap.objs.size+1) _ clap fun p hp=>aqV (hclt p hp)
 have hkd:∀ x,(zo X sc N s H fp (X.pn++pins)).env.kindOf x=some .cell \/ (zo X sc N s H fp (X.pn++pins)).env.kindOf x=some .free->(x,NameKind.cell)∈sc.names \/ (x,NameKind.free)∈sc.names:=fun x hx=>by
  cases q:sc.names.lookup x with
  | none =>
   have e:(zo X sc N s H fp (X.pn++pins)).env.kindOf x=none:=jB q
   rw [e] at hx
   rcases hx with z | z <;> cases z
  | some k =>
   have e:(zo X sc N s H fp (X.pn++pins)).env.kindOf x=some _:=jN (env:=X.env) q
   rw [e] at hx
   have hm:=mem_of_lookup q
   cases k <;> first | exact .inl hm | exact .inr hm | (rcases hx with z | z <;> cases z)
 have cellAt:∀ x c,(cellsFrom (s.heap.objs.size+1) sc.names (yp X.env sc.names [])).lookup x=some c->∃ v,(pushCells (s.heap.push { cls:=.type "dict",data:=.dict #[] }) sc.names).IsCell c v:=fun x c e=>by
  rcases hcase e with⟨q,_⟩ | ⟨q,_⟩
  ·exact⟨none,j6 _ _ _ x c (by rw [hsz];exact e) (by rw [hsz];exact q) fun p hp=>by rw [hsz];exact aqV (hclt p hp)⟩
  ·obtain⟨v,o,ho,hd⟩:=I.cell x c q
   exact⟨v,o,hk _ _ ho,hd⟩
 have lt_of_cell:∀ x c,X.env.cells.lookup x=some c->c<s.heap.objs.size:=fun x c e=>by
  obtain⟨v,o,ho,hd⟩:=I.cell x c e
  exact apw ho
 have lt_of_fp:∀ b∈fp,b<s.heap.objs.size:=fun b hb=>by
  obtain⟨o,e,_⟩:=ho b hb
  exact apw e
 have okX:(zo X sc N s H fp (X.pn++pins)).Ok:=by
  refine⟨I.mod,S.kind,I.ok.glob,I.ok.blt,apr _,fun x y c h1 h2=>name_of_addr apart (mem_of_lookup h1) (mem_of_lookup h2),fun x hx=>?_,fun x c hx hc=>?_,I.ok.hd,I.ok.frames,.inl rfl,fun b hb=>⟨apU (lt_of_fp b hb),fun x c e=>?_⟩,I.bs,apO I.ok.bsz I.sz,fun b o e hb=>?_,fun b hb z=>?_,I.stack,I.stkFree⟩
  ·rcases hkd x hx with q | q
   ·exact abU (yu S.snd q)
   ·obtain⟨c,hc⟩:=hfree x q
    exact vo (by rw [aav hfree q hc];rfl)
  ·have hx':sc.names.lookup x=some .cell:=of_decide_eq_true hx
   rcases hcase hc with⟨q,_⟩ | ⟨_,q⟩
   ·exact ar7 q
   ·rw [yu S.snd q] at hx';cases hx'
  ·rcases hcase e with⟨q,_⟩ | ⟨q,_⟩
   ·exact aq3 (apF (lt_of_fp b hb) (ar7 q))
   ·exact (hf b hb).2.2.2.2.1 x c q
  ·rcases (hf b hb).2.2.2.1 with z | z
   ·exact I.ok.noex b o e z
   ·exact absurd (apw e) (atw.mpr (apO I.ok.bsz z))
  ·rcases apq.mp (I.stkSub b z) with q | q
   ·exact (hf b hb).2.1 q
   ·exact (hf b hb).2.2.1 q
 refine⟨okX,rfl,I.bare,Un.kept hk,⟨fun _=>none,(Heap.Ns.new s.heap (.type "dict")).keeps (pushCells_keeps _ _),fun i x v h1 h2 h3=>?_⟩,cellAt,I.hok.fresh (apr _),fun x c e=>?_,fun p hp=>?_,I.hok.kept hk,?_⟩
 ·obtain⟨m,_,hl⟩:=id I.loc
  have h2':(jr own fr σ)[i]?=some (some v):=h2
  have hio:own<=i:=by
   unfold jr at h2'
   refine Nat.le_of_not_lt fun hi=>?_
   rw [apx (by simpa using hi),arq] at h2'
   split at h2' <;> cases h2'
  obtain⟨k,rfl⟩:=Nat.exists_eq_add_of_le hio
  have h1':N[own+k]?=some x:=h1
  unfold jr at h2'
  rw [apz (by simp)] at h2'
  simp only [arJ,Nat.add_sub_cancel_left,apt] at h2'
  cases hj:fr[k]? with
  | none=>rw [hj] at h2';cases h2'
  | some j =>
   rw [hj] at h2'
   have h2'':(σ[j]?).getD none=some v:=Option.some.inj h2'
   have hp:(x,j)∈(N.drop own).zip fr:=by
    refine apv (i:=k) ?_
    rw [List.getElem?_zip_eq_some]
    exact⟨by rw [List.getElem?_drop];exact h1',hj⟩
   obtain⟨f1,f2⟩:=S.frn _ hp
   have hσ:σ[j]?=some (some v):=by
    cases q:σ[j]? with
    | none=>rw [q] at h2'';cases h2''
    | some w=>rw [q] at h2'';exact congrArg some h2''
   have hxf:(x,NameKind.free)∈sc.names:=mem_of_lookup f2
   have hko:=S.free _ hxf rfl
   have hvis:Vis X.env.scope x:=by rw [hsc];exact .inr hko
   obtain⟨u,ru,q⟩:=hl j x v (by rw [hN];exact f1) hσ hvis
   refine⟨u,ru,.inr ⟨?_,?_⟩⟩
   ·have e:(zo X sc N s H fp (X.pn++pins)).env.kindOf x=some _:=jN (env:=X.env) f2
    rw [e]
    split
    ·exact .inl rfl
    ·exact .inr rfl
   ·rcases q with⟨k1,_⟩ | ⟨_,c,hc,z⟩
    ·have k1':X.env.scope.names.lookup x=some .local:=k1
     rw [hsc] at k1'
     rcases hko with z | z <;> rw [z] at k1' <;> cases k1'
    ·obtain⟨o,ho,hd⟩:=z
     refine⟨c,?_,o,hk _ _ ho,hd⟩
     have hcl:=aav hfree hxf hc
     obtain⟨c',hc'⟩:=vo (names:=sc.names) (n:=s.heap.objs.size+1) (acc:=yp X.env sc.names []) (x:=x) (by rw [hcl];rfl)
     rcases hcase hc' with⟨_,z⟩ | ⟨z,_⟩
     ·have:=yu S.snd z
      rw [f2] at this;cases this
     ·rw [hc] at z;cases z;exact hc'
 ·rcases hcase e with⟨q,_⟩ | ⟨q,_⟩
  ·exact I.hok.fresh (ar7 q)
  ·exact I.freeC x c q
 ·have hp':p∈X.pn++pins:=by simpa [zo] using hp
  obtain⟨e,n,ne,nf,d⟩:=I.pin p hp'
  refine⟨hk _ _ e,n,apU (apw e),fun z=>?_,d⟩
  rcases apq.mp (I.stkSub _ z) with q | q
  ·exact ne q
  ·exact nf q
 ·show (jr own fr σ).length=N.length
  unfold jr
  rw [S.len]
  simp
end
noncomputable abbrev TB:=St->Hp->(St->Hp->Prop)->Prop
noncomputable def PB (X:Cx) (act:Sem Unit) (t:TB):Prop :=
 ∀ (pins:List (Addr×Obj)) (s:Shared) (σ:St) (H:Hp) (Q:St->Hp->Prop),Inv X pins σ H s->t σ H Q->wpAny (model X.prog X.w) X.A act (fun _ s'=>∃ σ' H',Inv X pins σ' H' s'/\Q σ' H') X.xe s
noncomputable def PTs (X:Cx) (ifs:List Expr) (t:TT):Prop :=
 ∀ (pins:List (Addr×Obj)) (s:Shared) (σ:St) (H:Hp) (Q:Bool->Hp->Prop),Inv X pins σ H s->t σ H Q ->
  wpAny (model X.prog X.w) X.A (forIn ifs true fun c r=>if r=true then do let ok <- isTrue c X.env (eval c X.env);pure (ForInStep.yield ok) else pure (ForInStep.yield r)) (TP X pins σ Q) X.xe s
noncomputable def ag2:TT:=fun _ H Q=>Q true H
theorem yr {X:Cx}:PTs X [] ag2:=fun pins s σ H Q I h=>wpAny_tests_nil ⟨H,I,h⟩
theorem qx {X:Cx} {c:Expr} {t:TT} (hc:PT X c t):PTs X [c] t:=fun pins s σ H Q I h=>wpAny_tests_one (hc pins s σ H Q I h)
noncomputable def acf (J:It) (g:TG) (tt:TT) (tb:TB):TB:=fun σ H Q=>∃ W:Nat->Nat->St->Hp->Prop,(∃ m,W 0 m σ H)/\∀ i m σ H,W i m σ H ->
 (J.stop i H/\Q σ H) \/ (J.go i H/\∀ x H',J.yld i H x H'->g x σ H' fun σ2 H2=>tt σ2 H2 fun b H3=>if b=true then tb σ2 H3 fun σ' H'=>∃ m',m'<m/\W (i+1) m' σ' H' else ∃ m',m'<m/\W (i+1) m' σ2 H3)
section
variable {X:Cx} {pins:List (Addr×Obj)} {s:Shared} {σ:St} {H:Hp} {tg:Expr} {e:Expr} {d:Nat} {acc:Value} {ifs:List Expr} {g:TG} {tt:TT} {tb:TB} {act:Sem Unit} {pos:Pos}
theorem adT (hx:∀ e s,X.xe e s->False) (hc:X.calm=true) (hg:PG X tg g) (ht:PTs X ifs tt) (hb:PB X act tb)
  (heq:∀ it,compTurn e d it acc X.env=(do
   standAt pos
   match <- pyNext it with
   | none=>pure (.done .next)
   | some v =>
    letOwnedTupleGo tg it v
    assign tg X.env v
    let mut ok:=true
    for c in ifs do
     if ok then ok <- isTrue c X.env (eval c X.env)
    if ok then
     act
    again (.compLoop e d it acc X.env)))
  (hqt:∀ it,(Code.compLoop e d it acc X.env).quiet=true)
  (hden:∀ it,(model X.prog X.w).den (.compLoop e d it acc X.env)=(compTurn e d it acc X.env).onRaise (fun x=>do noteFrame x X.env;theTreesLotGoes x))
  (hund:∀ it,X.A.under (.compLoop e d it acc X.env)=X.A)
  {it:Addr} {fp:List Addr} {tn:Nat->Heap->Prop} {J:It} {Q:St->Hp->Prop} {R:Result->Shared->Prop} (I:Inv X pins σ H s) (T:Turn X.prog X.w X.K tg J fp it tn) (st:tn 0 s.heap) (f:∀ b∈fp,vK X pins H b)
  (h:acf J g tt tb σ H Q) (hR:∀ σ' H' s',Inv X pins σ' H' s'->(∀ b∈fp,H' b=none)->Q σ' H'->R (.ok .next) s'):codeAny (model X.prog X.w) X.A (.compLoop e d (.ref it) acc X.env) R s:=by
 obtain⟨W,⟨m0,w0⟩,turn⟩:=h
 have stat:∀ {H':Hp},(∀ b∈fp,H' b=none)->∀ b∈fp,vK X pins H' b:=fun hn b hb=>⟨hn b hb,(f b hb).2⟩
 refine codeAny_loop (hqt _) (fun n s'=>∃ i σ' H',Inv X pins σ' H' s'/\tn i s'.heap/\(∀ b∈fp,H' b=none)/\W i n σ' H') ?_ m0 ⟨0,σ,H,I,st,fun b hb=>(f b hb).1,w0⟩
 rintro n s3 ⟨i,σ3,H3,I3,st3,fr3,w3⟩
 rw [hden,hund]
 refine wpAny_noted ?_
 rw [heq]
 have nox:∀ e' s',X.xe e' s'->notedBy (model X.prog X.w) X.A X.env (fun e s'=>R (.error e) s') e' s':=fun e' s' z=>(hx e' s' z).elim
 refine wpAny_bind (wpAny_standAt (wpAny_bind ?_))
 rcases turn i n σ3 H3 w3 with⟨stop,qn⟩ | ⟨go,step⟩
 ·refine wpAny_mono (T.done X rfl rfl rfl hc i pins s3 σ3 H3 X.xe I3 (stat fr3) st3 stop) (fun r s4 hr4=>?_) nox
  obtain⟨hr,I4⟩:=hr4
  subst hr
  exact wpAny_pure (hR σ3 H3 s4 I4 fr3 qn)
 ·refine wpAny_mono (T.item X rfl rfl rfl hc i pins s3 σ3 H3 X.xe I3 (stat fr3) st3 go) (fun r s4 hr4=>?_) nox
  obtain⟨u,hr,h4⟩:=hr4
  subst hr
  refine wpAny_bind (wpAny_mono h4 (fun _ s5 h5=>?_) nox)
  obtain⟨x,H5,I5,r5,y5,st5,fr5⟩:=h5
  have I5':=I5.pinned (stat fr5) (T.obj _ _ st5)
  refine wpAny_bind (wpAny_mono (hg _ s5 σ3 H5 x u _ I5' r5 (step x H5 y5)) (fun _ s6 h6=>?_) nox)
  obtain⟨σ6,H6,I6,q6⟩:=h6
  refine wpAny_bind (wpAny_mono (ht _ s6 σ6 H6 _ I6 q6) (fun ok s7 h7=>?_) nox)
  obtain⟨H7,I7,q7⟩:=h7
  have again:∀ {σ7:St} {H7:Hp} {s7:Shared},Inv X (pins++aa6 fp s5.heap) σ7 H7 s7->(∃ m',m'<n/\W (i+1) m' σ7 H7)->∃ m,m<n/\∃ i σ' H',Inv X pins σ' H' s7/\tn i s7.heap/\(∀ b∈fp,H' b=none)/\W i m σ' H':=fun {σ7 H7 s7} I7 n7=>by
   obtain⟨m',hm,w7⟩:=n7
   refine⟨m',hm,i+1,σ7,H7,I7.unpinned,T.keep _ _ _ st5 fun b hb o e=>(I7.pin (b,o) (apy _ (apy _ (qu hb e)))).1,fun b hb=>?_,w7⟩
   obtain⟨o,e,d⟩:=T.obj _ _ st5 b hb
   exact (I7.pin (b,o) (apy _ (apy _ (qu hb e)))).2.1
  cases ok with
  | false =>
   rw [if_neg apk] at q7
   exact wpAny_pure ⟨rfl,again I7 q7⟩
  | true =>
   rw [if_pos rfl] at q7
   refine wpAny_bind (wpAny_mono (hb _ s7 σ6 H7 _ I7 q7) (fun _ s8 h8=>?_) nox)
   obtain⟨σ8,H8,I8,q8⟩:=h8
   exact wpAny_pure ⟨rfl,again I8 q8⟩
theorem acN {D:Addr} {elt:Expr} {te:TE} (he:PE X elt te):PB X (do let _ <- call (.builtin "list.append") [.ref D,<- eval elt X.env]) (fun σ H Q=>te σ H fun y H1=>∃ xs,H1 D=some (.lst xs)/\xs.length<sizeLine/\Q σ (upd H1 D (.lst (xs++[y])))):=by
 intro pins s σ H Q I h
 refine wpAny_bind (thn (he pins s σ H _ I h) fun v s1 h1=>?_)
 obtain⟨y,H1,I1,r1,xs,hD,hz,q⟩:=h1
 obtain⟨z,its,n,r,hl,e⟩:=I1.lstM hD
 refine wpAny_bind ?_
 refine call_meets F.slot_list_append ⟨_,e,rfl⟩ atq (ath _ _) (PySem.list_append D its.toArray n v (by rw [apH];omega)) ⟨e,?_⟩
 refine wpAny_pure ⟨σ,_,I1.lset (its':=its++[v]) hD e (by simp) (r.append (.cons r1 .nil)) ?_,q⟩
 rw [apA,ap3]
 omega
theorem adU {M:Model} {A:Around} {E:Value->Shared->Prop} {sc:Scope} {gl:Addr} {cl:List (Str×Addr)} {qual:Str} {env:Env} {Q:Env->Shared->Prop} {s:Shared}
  (h:Q { scope:=sc,locals:=s.heap.objs.size,globals:=gl,cells:=cellsFrom (s.heap.objs.size+1) sc.names cl,qual:=qual,func:=none,code:=env.code,frame:=env.frame,builtins:=env.builtins } { s with heap:=pushCells (s.heap.push { cls:=.type "dict",data:=.dict #[] }) sc.names }) :
  wpAny M A (newFunctionEnv sc gl cl [] qual none .none (some env)) Q E s:=by
 simp only [newFunctionEnv,Option.isSome_some,if_true]
 refine wpAny_bind (wpAny_alloc ?_)
 refine wpAny_bind (wpAny_layCells _ (fun name kind cells=>by cases hkc:kind == NameKind.cell <;> simp [hkc]) _ _ _ _ ?_)
 rw [show ({ s with heap:=s.heap.push { cls:=.type "dict",data:=.dict #[] } }:Shared).heap.objs.size=s.heap.objs.size+1 from aqS ..]
 refine wpAny_bind ?_
 rw [aqT]
 exact wpAny_pure (wpAny_pure h)
theorem comp_back {sc:Scope} {N:List Str} {fp:List Addr} {σ':St} {H':Hp} {s':Shared} {h':Heap} (I:Inv X pins σ H s) (hf:∀ b∈fp,vK X pins H b) (J:Inv (zo X sc N s H fp (X.pn++pins)) [] σ' H' s') (hs:aq2 s.heap.objs.size s'.heap h') :
  Inv X pins σ H' { s' with heap:=h' }:=by
 have u:Un (frs X.stack) fp H H' s.heap s'.heap:=J.base
 have ne:∀ b o,s.heap.get? b=some o->b≠s.heap.objs.size:=fun b o e=>apU (apw e)
 have hfree:H' s.heap.objs.size=none:=J.free
 refine I.call' (s':={ s' with heap:=h' }) (ch:=fp) J.os ⟨fun b o e n h1 h2=>(hs.2 b (ne b o e)).trans (u.keep b o e n h1 h2),fun b o e n h1 h2=>?_,u.free,fun b o e h2=>?_,u.tups,u.frzs,u.tbls⟩ (fun a o e=>?_) J.bare fun b hb=>?_
 ·obtain⟨sl,q⟩:=u.slot b o e n h1 h2
  exact⟨sl,(hs.2 b (ne b o e)).trans q⟩
 ·obtain⟨o',q⟩:=u.there b o e h2
  exact⟨o',(hs.2 b (ne b o e)).trans q⟩
 ·refine (J.hok a o e).stay (fun c v hc q=>(hs.2 c ?_).trans q) (fun _ q=>q) fun _ _ q=>q
  intro z
  subst z
  rcases hc with hc | hc
  ·rw [<-hc] at e
   rw [hfree] at e;cases e
  ·rw [hfree] at hc;cases hc
 ·exact⟨(hf b hb).2.2.2.1,(hf b hb).2.1,(hf b hb).2.2.2.2⟩
end
noncomputable def qR (D:Addr) (te:TE):TB:=fun σ H Q=>te σ H fun y H1=>∃ xs,H1 D=some (.lst xs)/\xs.length<sizeLine/\Q σ (upd H1 D (.lst (xs++[y])))
noncomputable def qM (wi:TI) (own:Nat) (fr:List Nat) (g:TG) (tt:TT) (tb:Addr->TB):TE:=fun σ H Q=>wi σ H fun J H1=>∀ D,H1 D=none ->
 acf J g tt (tb D) (jr own fr σ) (upd H1 D (.lst [])) fun _ H2=>Q (.ref D) H2
section
variable {X:Cx} {pins:List (Addr×Obj)} {s:Shared} {σ:St} {H:Hp} {tg elt iter:Expr} {ifs:List Expr} {rest:List Comprehension} {sc scO:Scope} {NO N:List Str} {own:Nat} {fr:List Nat} {wi:TI} {g:TG} {tt:TT} {tb:Addr->TB} {pos:Pos}
theorem adV {RR:Value->Addr->Result->Shared->Prop} {it:Addr} {fp:List Addr} {tn:Nat->Heap->Prop} {J:It} {Q:VK} (S:CompScope NO scO N sc own fr) (hN:X.N=NO) (hsc:X.env.scope=scO) (hc:X.calm=true)
  (hg:∀ s₀ H₀ ex pn,PG (zo X sc N s₀ H₀ ex pn) tg g) (ht:∀ s₀ H₀ ex pn,PTs (zo X sc N s₀ H₀ ex pn) ifs tt)
  (hb:∀ D s₀ H₀ ex pn,∃ act,PB (zo X sc N s₀ H₀ ex pn) act (tb D)/\∀ it,compTurn (.ListComp elt (⟨tg,iter,ifs,0⟩ :: rest) sc pos) 0 it (.ref D) (zo X sc N s₀ H₀ ex pn).env=(do
   standAt iter.pos
   match <- pyNext it with
   | none=>pure (.done .next)
   | some v =>
    letOwnedTupleGo tg it v
    assign tg (zo X sc N s₀ H₀ ex pn).env v
    let mut ok:=true
    for c in ifs do
     if ok then ok <- isTrue c (zo X sc N s₀ H₀ ex pn).env (eval c (zo X sc N s₀ H₀ ex pn).env)
    if ok then
     act
    again (.compLoop (.ListComp elt (⟨tg,iter,ifs,0⟩ :: rest) sc pos) 0 it (.ref D) (zo X sc N s₀ H₀ ex pn).env)))
  (I:Inv X pins σ H s) (T:Turn X.prog X.w X.K tg J fp it tn) (st:tn 0 s.heap) (f:∀ b∈fp,vK X pins H b)
  (h:∀ D,H D=none->acf J g tt (tb D) (jr own fr σ) (upd H D (.lst [])) fun _ H2=>Q (.ref D) H2)
  (hRR:∀ (D C:Addr) (s':Shared) (H':Hp),(∃ m,s'.heap.Ns C m)->C≠X.env.locals->(∀ x c,X.env.cells.lookup x=some c->c≠C)->H' C=none->X.s₀.heap.objs.size<=C->(∀ p∈X.pn++pins,p.1≠C)->Inv X pins σ H' s'->Q (.ref D) H'->RR (.ref D) C (.ok .next) s') :
  wpAny (model X.prog X.w) X.A (newList []) (fun acc s₃=>wpAny (model X.prog X.w) X.A (newFunctionEnv sc X.env.globals (yp X.env sc.names []) [] X.env.qual none .none (some X.env)) (fun cenv s₄ =>
   codeAny (model X.prog X.w) X.A (.compStart (.ListComp elt (⟨tg,iter,ifs,0⟩ :: rest) sc pos) 0 (.ref it) acc { cenv with scope:=relabel sc X.env }) (RR acc cenv.locals) s₄) X.xe s₃) X.xe s:=by
 refine wpAny_newObj_type (adU ?_)
 have fpsz:∀ b∈fp,b<s.heap.objs.size:=fun b hb=>by
  obtain⟨o,e,_⟩:=T.obj _ _ st b hb
  exact apw e
 have I3:=I.lnew (its:=[]) (ys:=[]) (t':=s.toks) .nil (ap2 _)
 have f3:∀ b∈fp,vK X pins (upd H s.heap.objs.size (.lst [])) b:=fun b hb=>⟨by rw [zv (apU (fpsz b hb))];exact (f b hb).1,(f b hb).2⟩
 have st3:tn 0 (s.heap.push { cls:=.type "list",data:=.seq ([]:List Value).toArray }):=T.keep _ _ _ st fun b _ o e=>aps _ e
 have I4:=aic (tk:=s.toks) S hN hsc I3 f3 (T.obj _ _ st3)
 obtain⟨act,pb,heq⟩:=hb s.heap.objs.size _ _ _ _
 have st4:=T.keep _ _ (pushCells ((s.heap.push { cls:=.type "list",data:=.seq ([]:List Value).toArray }).push { cls:=.type "dict",data:=.dict #[] }) sc.names) st3 fun b _ o e=>pushCells_keeps _ _ _ _ (aps _ e)
 have cells_lt:∀ x c,X.env.cells.lookup x=some c->c<s.heap.objs.size:=fun x c e=>by
  obtain⟨v,o,ho,hd⟩:=I.cell x c e
  exact apw ho
 have esz:(s.heap.push { cls:=.type "list",data:=.seq ([]:List Value).toArray }).objs.size=s.heap.objs.size+1:=aqS ..
 have loop:=adT (X:=zo X sc N { s with heap:=s.heap.push { cls:=.type "list",data:=.seq ([]:List Value).toArray } } (upd H s.heap.objs.size (.lst [])) fp (X.pn++pins)) (R:=RR (.ref s.heap.objs.size) (s.heap.push { cls:=.type "list",data:=.seq ([]:List Value).toArray }).objs.size) (fun _ _ z=>z) hc (hg _ _ _ _) (ht _ _ _ _) pb heq (fun _=>rfl) (fun _=>rfl) (fun _=>rfl) I4 T st4
  (fun b hb=>⟨(f3 b hb).1,I4.ok.exf b hb |>.1,I4.ok.exfs b hb,.inl hb,I4.ok.exf b hb |>.2,fun p hp=>by
   have hp':p∈X.pn++pins:=by simpa [zo] using hp
   exact (f b hb).2.2.2.2.2 p hp'⟩) (h _ I.fresh)
  (fun σ' H' s' J' fr' q'=>hRR _ _ s' H' (let⟨m,hm,_⟩:=J'.loc;⟨m,hm⟩) (by rw [esz];exact aq3 (aqV I.lt)) (fun x c e=>by rw [esz];exact apU (aqV (cells_lt x c e))) J'.free (by rw [esz];exact Nat.le_succ_of_le I.sz) (fun p hp=>by rw [esz];exact apU (aqV (apw (I.pin p hp).1))) (comp_back (h':=s'.heap) I3 f3 J' (Heap.SameBut.refl ..)) q')
 exact codeAny_compStart_list loop (T.self X.A 0 _ _ _ st4 loop)
theorem Inv.touch {C:Addr} {h':Heap} (I:Inv X pins σ H s) (hs:aq2 C s.heap h') (hn:H C=none) (h0:C≠X.env.locals) (h1:∀ x c,X.env.cells.lookup x=some c->c≠C) (h2:X.s₀.heap.objs.size<=C) (h3:∀ p∈X.pn++pins,p.1≠C) :
  Inv X pins σ H { s with heap:=h' } :=
 I.turned (t':=s.toks) (fun b o hb e=>(hs.2 b hb).trans e) hn h0 (.inr h2) h1 h3
theorem abV {prog:Program} {w:World} {A:Around} {R:Result->Shared->Prop} {s:Shared} {elt':Expr} {g0:Comprehension} {tg' it':Expr} {ifs':List Expr} {sc':Scope} {pos':Pos} {itv acc:Value} {env:Env}
  (here:codeAny (model prog w) A (.compLoop (.ListComp elt' [g0,⟨tg',it',ifs',0⟩] sc' pos') 1 itv acc env) R s)
  (once:wpAny (model prog w) A (pyIter itv) (fun j s1=>codeAny (model prog w) A (.compLoop (.ListComp elt' [g0,⟨tg',it',ifs',0⟩] sc' pos') 1 j acc env) R s1) (notedBy (model prog w) A env fun x s1=>R (.error x) s1) s) :
  codeAny (model prog w) A (.compStart (.ListComp elt' [g0,⟨tg',it',ifs',0⟩] sc' pos') 1 itv acc env) R s:=by
 apply codeAny_of_tree
 show wpAny _ _ ((compStart (.ListComp elt' [g0,⟨tg',it',ifs',0⟩] sc' pos') 1 itv acc env).onRaise (fun z=>do noteFrame z env;standAt theWindowsPlace)) _ _ s
 apply wpAny_notedAt
 unfold compStart
 show wpAny _ _ (ask >>= _) _ _ s
 apply wpAny_bind
 apply wpAny_askSetting
 apply wpAny_ite
 split
 ·first
   | exact wpAny_bind (wpAny_pure (wpAny_pure (And.intro rfl here)))
   | exact wpAny_pure (And.intro rfl here)
 ·apply wpAny_bind
  apply wpAny_rule
  show wpAny _ _ (standAt it'.pos >>= _) _ _ s
  exact wpAny_bind (wpAny_standAt (wpAny_bind (wpAny_mono once (fun j s1 q=>wpAny_pure (And.intro rfl q)) fun _ _ z=>z)))
section
variable {elt2:Expr} {te:TE} {tg2 iter2:Expr} {ifs2:List Expr} {wi2:TI} {g2:TG} {tt2:TT} {tb2:TB} {y:Str} {i:Nat} {py spos:Pos}
noncomputable def tIn (wi2:TI) (g2:TG) (tt2:TT) (tb2:TB):TB:=fun σ H Q=>wi2 σ H fun J H1=>acf J g2 tt2 tb2 σ H1 Q
theorem anT {D:Addr} (hx:∀ e s,X.xe e s->False) (hc:X.calm=true) (hi:PI X tg2 iter2 wi2) (hg:PG X tg2 g2) (ht:PTs X ifs2 tt2) (he:PE X elt te)
  (hs:∀ x,foldedSetIterable iter2 X.env x=pure x) :
  PB X (do
   let x <- eval iter2 X.env
   standAt iter2.pos
   let x <- foldedSetIterable iter2 X.env x
   let _ <- runOwn (.compStart (.ListComp elt [⟨tg,iter,ifs,0⟩,⟨tg2,iter2,ifs2,0⟩] sc pos) 1 (<- holding [x] (pyIter x)) (.ref D) X.env) X.env) (tIn wi2 g2 tt2 (qR D te)):=by
 intro pins s σ H Q I h
 refine wpAny_bind (thn (hi pins s σ H _ I h) fun v s1 h1=>?_)
 refine wpAny_bind (wpAny_standAt ?_)
 refine wpAny_bind (wpAny_of_eq (hs v) ?_)
 refine wpAny_bind (wpAny_holding (thn h1 fun itv s2 h2=>?_))
 obtain⟨it,fp,tn,J,H2,e,I2,T,st2,f2,q⟩:=h2
 subst e
 refine wpAny_bind (wpAny_runOwn ?_)
 have loop:=adT (e:=.ListComp elt [⟨tg,iter,ifs,0⟩,⟨tg2,iter2,ifs2,0⟩] sc pos) (d:=1) (pos:=iter2.pos)
  (R:=fun r s'=>match r with | .ok f=>wpAny (model X.prog X.w) X.A (pure ()) (fun _ s'=>∃ σ' H',Inv X pins σ' H' s'/\Q σ' H') X.xe s' | .error e=>cameBackBy (model X.prog X.w) X.A X.env X.xe e s')
  hx hc hg ht (acN (D:=D) he) (fun _=>rfl) (fun _=>rfl) (fun _=>rfl) (fun _=>rfl) I2 T st2 f2 q (fun σ' H' s' J' _ q'=>wpAny_pure ⟨σ',H',J',q'⟩)
 exact abV loop (T.self X.A 0 _ _ _ st2 loop)
theorem afR (S:CompScope NO scO N sc own fr) (hsc:X.env.scope=scO) (ok:X.Ok):closureFor sc X.env=pure (yp X.env sc.names []) :=
 ae3 fun x hx=>ok.has x (by
  show X.env.scope.names.lookup x=_ \/ X.env.scope.names.lookup x=_
  rw [hsc]
  exact S.free _ hx rfl)
theorem afS (S:CompScope NO scO N sc own fr) (hc:X.calm=true) (hi:PI X tg iter wi) (hg:∀ s₀ H₀ ex pn,PG (zo X sc N s₀ H₀ ex pn) tg g) (ht:∀ s₀ H₀ ex pn,PTs (zo X sc N s₀ H₀ ex pn) ifs tt)
  (hb:∀ D s₀ H₀ ex pn,∃ act,PB (zo X sc N s₀ H₀ ex pn) act (tb D)/\∀ it,compTurn (.ListComp elt (⟨tg,iter,ifs,0⟩ :: rest) sc pos) 0 it (.ref D) (zo X sc N s₀ H₀ ex pn).env=(do
   standAt iter.pos
   match <- pyNext it with
   | none=>pure (.done .next)
   | some v =>
    letOwnedTupleGo tg it v
    assign tg (zo X sc N s₀ H₀ ex pn).env v
    let mut ok:=true
    for c in ifs do
     if ok then ok <- isTrue c (zo X sc N s₀ H₀ ex pn).env (eval c (zo X sc N s₀ H₀ ex pn).env)
    if ok then
     act
    again (.compLoop (.ListComp elt (⟨tg,iter,ifs,0⟩ :: rest) sc pos) 0 it (.ref D) (zo X sc N s₀ H₀ ex pn).env)))
  (hN:X.N=NO) (hsc:X.env.scope=scO) (hs:∀ x,foldedSetIterable iter X.env x=pure x) :
  PE X (.ListComp elt (⟨tg,iter,ifs,0⟩ :: rest) sc pos) (qM wi own fr g tt tb):=by
 intro pins s σ H Q I h
 rw [eval_ListComp]
 refine wpAny_comprehension_free (use:=none) rfl hs (afR S hsc I.ok) S.kind (fun p hp hl=>yu S.snd (k:=.local) (by rw [<-hl];exact hp)) (thn (hi pins s σ H _ I h) fun v s1 h1=>thn h1 fun itv s2 h2=>?_)
 obtain⟨it,fp,tn,J,H2,e,I2,T,st2,f2,q⟩:=h2
 subst e
 refine adV (RR:=fun acc C=>compPost (model X.prog X.w) X.A X.xe none (EP X pins σ Q) acc C) S hN hsc hc hg ht hb I2 T st2 f2 q ?_
 rintro D C s' H' ⟨m,hm⟩ c0 c1 c2 c3 c4 J' q'
 exact⟨m,hm,fun h' hs'=>⟨.ref D,H',J'.touch hs' c2 c0 c1 c3 c4,rfl,q'⟩⟩
theorem ae4 (S:CompScope NO scO N sc own fr) (hc:X.calm=true) (hNd:X.N.Nodup) (hiN:X.N[i]?=some y) (hy:Loc X.env.scope y) (hi:PI X tg iter wi) (hg:∀ s₀ H₀ ex pn,PG (zo X sc N s₀ H₀ ex pn) tg g) (ht:∀ s₀ H₀ ex pn,PTs (zo X sc N s₀ H₀ ex pn) ifs tt)
  (hb:∀ D s₀ H₀ ex pn,∃ act,PB (zo X sc N s₀ H₀ ex pn) act (tb D)/\∀ it,compTurn (.ListComp elt (⟨tg,iter,ifs,0⟩ :: rest) sc pos) 0 it (.ref D) (zo X sc N s₀ H₀ ex pn).env=(do
   standAt iter.pos
   match <- pyNext it with
   | none=>pure (.done .next)
   | some v =>
    letOwnedTupleGo tg it v
    assign tg (zo X sc N s₀ H₀ ex pn).env v
    let mut ok:=true
    for c in ifs do
     if ok then ok <- isTrue c (zo X sc N s₀ H₀ ex pn).env (eval c (zo X sc N s₀ H₀ ex pn).env)
    if ok then
     act
    again (.compLoop (.ListComp elt (⟨tg,iter,ifs,0⟩ :: rest) sc pos) 0 it (.ref D) (zo X sc N s₀ H₀ ex pn).env)))
  (hN:X.N=NO) (hsc:X.env.scope=scO) (hs:∀ x,foldedSetIterable iter X.env x=pure x) (hf:X.fn y=true \/ X.env.scope.names.lookup y=some .local)
  (hsw:swapsWith (.ListComp elt (⟨tg,iter,ifs,0⟩ :: rest) sc pos) (some (.Name y py)) spos.line X.env=pure true) :
  PS X (.Assign [.Name y py] (.ListComp elt (⟨tg,iter,ifs,0⟩ :: rest) sc pos) spos) (jD (qM wi own fr g tt tb) (yG i)):=by
 intro pins s σ H D I h
 rw [exec_Assign_Name_used _ _ _ _ hsw]
 refine wpAny_bind (wpAny_standAt (wpAny_bind ?_))
 show wpAny _ X.A (do let _ <- comprehension (.ListComp elt (⟨tg,iter,ifs,0⟩ :: rest) sc pos) sc X.env _ (newList []) false (eval iter X.env) (some (assign (.Name y py) X.env))) _ _ s
 refine wpAny_bind (wpAny_mono (wpAny_comprehension_free (use:=some (assign (.Name y py) X.env)) (Q:=fun _ s'=>SP X pins D .next s') rfl hs (afR S hsc I.ok) S.kind (fun p hp hl=>yu S.snd (k:=.local) (by rw [<-hl];exact hp))
  (thn (hi pins s σ H _ I h) fun v s1 h1=>thn h1 fun itv s2 h2=>?_)) (fun _ s' hq=>wpAny_pure (wpAny_pure hq)) fun _ _ e=>e)
 obtain⟨it,fp,tn,J,H2,e,I2,T,st2,f2,q⟩:=h2
 subst e
 refine adV (Q:=fun x H1=>yG i x σ H1 D.nx) (RR:=fun acc C=>compPost (model X.prog X.w) X.A X.xe (some (assign (.Name y py) X.env)) (fun _ s'=>SP X pins D .next s') acc C) S hN hsc hc hg ht hb I2 T st2 f2 q ?_
 rintro A' C s' H' ⟨m,hm⟩ c0 c1 c2 c3 c4 J' q'
 show wpAny _ X.A (assign (.Name y py) X.env (.ref A')) _ _ _
 refine wpAny_assign_Name (ab3 (v:=.ref A') J' hNd hiN hy rfl (fun s2' I2' hsb=>?_) hf)
 obtain⟨a,hs2,ha⟩:=hsb
 have hCa:C≠a:=by
  rcases ha with ha | ha
  ·rw [ha];exact c0
  ·exact arh (c1 _ _ ha)
 exact⟨m,hm.sameBut hs2 hCa,fun h' hs'=>⟨_,H',I2'.touch hs' c2 c0 c1 c3 c4,q'⟩⟩
end
end
section
variable {X:Cx} {tg elt iter tg2 iter2:Expr} {ifs ifs2:List Expr} {sc scO:Scope} {NO N:List Str} {own:Nat} {fr:List Nat} {wi wi2:TI} {g g2:TG} {tt tt2:TT} {te:TE} {pos py spos:Pos} {y:Str} {i:Nat}
theorem yw (S:CompScope NO scO N sc own fr) (hc:X.calm=true) (hi:PI X tg iter wi) (hg:∀ s₀ H₀ ex pn,PG (zo X sc N s₀ H₀ ex pn) tg g) (ht:∀ s₀ H₀ ex pn,PTs (zo X sc N s₀ H₀ ex pn) ifs tt) (he:∀ s₀ H₀ ex pn,PE (zo X sc N s₀ H₀ ex pn) elt te)
  (hN:X.N=NO) (hsc:X.env.scope=scO) (hs:∀ x,foldedSetIterable iter X.env x=pure x):PE X (.ListComp elt [⟨tg,iter,ifs,0⟩] sc pos) (qM wi own fr g tt fun D=>qR D te) :=
 afS S hc hi hg ht (fun D s₀ H₀ ex pn=>⟨_,acN (D:=D) (he s₀ H₀ ex pn),fun _=>rfl⟩) hN hsc hs
theorem yO (S:CompScope NO scO N sc own fr) (hc:X.calm=true) (hNd:X.N.Nodup) (hiN:X.N[i]?=some y) (hy:Loc X.env.scope y) (hi:PI X tg iter wi) (hg:∀ s₀ H₀ ex pn,PG (zo X sc N s₀ H₀ ex pn) tg g) (ht:∀ s₀ H₀ ex pn,PTs (zo X sc N s₀ H₀ ex pn) ifs tt) (he:∀ s₀ H₀ ex pn,PE (zo X sc N s₀ H₀ ex pn) elt te)
  (hN:X.N=NO) (hsc:X.env.scope=scO) (hs:∀ x,foldedSetIterable iter X.env x=pure x) (hf:X.fn y=true \/ X.env.scope.names.lookup y=some .local)
  (hsw:swapsWith (.ListComp elt [⟨tg,iter,ifs,0⟩] sc pos) (some (.Name y py)) spos.line X.env=pure true) :
  PS X (.Assign [.Name y py] (.ListComp elt [⟨tg,iter,ifs,0⟩] sc pos) spos) (jD (qM wi own fr g tt fun D=>qR D te) (yG i)) :=
 ae4 S hc hNd hiN hy hi hg ht (fun D s₀ H₀ ex pn=>⟨_,acN (D:=D) (he s₀ H₀ ex pn),fun _=>rfl⟩) hN hsc hs hf hsw
end
theorem aid {elt tg iter tg2 iter2:Expr} {ifs ifs2:List Expr} {sc:Scope} {pos:Pos} {it acc:Value} {env:Env} :
  compTurn (.ListComp elt [⟨tg,iter,ifs,0⟩,⟨tg2,iter2,ifs2,0⟩] sc pos) 0 it acc env=(do
   standAt iter.pos
   match <- pyNext it with
   | none=>pure (.done .next)
   | some v =>
    letOwnedTupleGo tg it v
    assign tg env v
    let mut ok:=true
    for c in ifs do
     if ok then ok <- isTrue c env (eval c env)
    if ok then
     (do
      let x <- eval iter2 env
      standAt iter2.pos
      let x <- foldedSetIterable iter2 env x
      let _ <- runOwn (.compStart (.ListComp elt [⟨tg,iter,ifs,0⟩,⟨tg2,iter2,ifs2,0⟩] sc pos) 1 (<- holding [x] (pyIter x)) acc env) env)
    again (.compLoop (.ListComp elt [⟨tg,iter,ifs,0⟩,⟨tg2,iter2,ifs2,0⟩] sc pos) 0 it acc env)):=by
 unfold compTurn
 simp only [bind_assoc,pure_bind]
 rfl
section
variable {X:Cx} {tg elt iter tg2 iter2:Expr} {ifs ifs2:List Expr} {sc scO:Scope} {NO N:List Str} {own:Nat} {fr:List Nat} {wi wi2:TI} {g g2:TG} {tt tt2:TT} {te:TE} {pos py spos:Pos} {y:Str} {i:Nat}
theorem adW (S:CompScope NO scO N sc own fr) (hc:X.calm=true) (hi:PI X tg iter wi) (hg:∀ s₀ H₀ ex pn,PG (zo X sc N s₀ H₀ ex pn) tg g) (ht:∀ s₀ H₀ ex pn,PTs (zo X sc N s₀ H₀ ex pn) ifs tt)
  (hi2:∀ s₀ H₀ ex pn,PI (zo X sc N s₀ H₀ ex pn) tg2 iter2 wi2) (hg2:∀ s₀ H₀ ex pn,PG (zo X sc N s₀ H₀ ex pn) tg2 g2) (ht2:∀ s₀ H₀ ex pn,PTs (zo X sc N s₀ H₀ ex pn) ifs2 tt2)
  (he:∀ s₀ H₀ ex pn,PE (zo X sc N s₀ H₀ ex pn) elt te) (hN:X.N=NO) (hsc:X.env.scope=scO) (hs:∀ x,foldedSetIterable iter X.env x=pure x) (hs2:∀ s₀ H₀ ex pn x,foldedSetIterable iter2 (zo X sc N s₀ H₀ ex pn).env x=pure x) :
  PE X (.ListComp elt [⟨tg,iter,ifs,0⟩,⟨tg2,iter2,ifs2,0⟩] sc pos) (qM wi own fr g tt fun D=>tIn wi2 g2 tt2 (qR D te)) :=
 afS S hc hi hg ht (fun D s₀ H₀ ex pn=>⟨_,anT (D:=D) (fun _ _ z=>z) hc (hi2 s₀ H₀ ex pn) (hg2 s₀ H₀ ex pn) (ht2 s₀ H₀ ex pn) (he s₀ H₀ ex pn) (hs2 s₀ H₀ ex pn),fun it=>aid⟩) hN hsc hs
end
section
variable {X:Cx} {pins:List (Addr×Obj)} {σ:St} {H:Hp} {s:Shared} {h':Heap} {fp:List Addr}
theorem Inv.turnedAll {t':Nat} (I:Inv X pins σ H s) (hf:∀ b∈fp,vK X pins H b) (k:∀ b o,b∉fp->s.heap.get? b=some o->h'.get? b=some o):Inv X pins σ H { s with heap:=h',toks:=t' }:=by
 refine I.step (g':=s.gens) (d':=s.drawn) (ch:=fp) (fun b hb=>⟨(hf b hb).2.2.2.1,(hf b hb).2.1,(hf b hb).2.2.2.2⟩) (fun b o _ _ hc e _=>k b o hc e) (fun b o _ _ hc e _=>⟨o.slots,k b o hc e⟩) (fun _ _ _ _ n=>n)
  (fun b o hc e=>⟨o,k b o hc e⟩) (fun _ _ e=>e) (fun _ _ _ e=>e) (fun b ps e=>⟨#[],by rw [e];simp⟩) (fun m hm=>?_) (fun b u e=>?_) I.bare
 ·obtain⟨o,es,ep,ho,r⟩:=hm
  exact⟨o,es,ep,k _ o (fun z=>(hf _ z).2.1 rfl) ho,r⟩
 ·refine (I.hok b u e).stay (fun c v hc q=>k c v (fun z=>?_) q) (fun _ q=>q) fun _ _ q=>q
  have hn:=(hf c z).1
  rcases hc with hc | hc
  ·subst hc;rw [e] at hn;cases hn
  ·rw [hc] at hn;cases hn
theorem Inv.turnedNew {t':Nat} {t:Addr} {o:HO} (I:Inv X pins σ H s) (hf:∀ b∈fp,vK X pins H b) (k:∀ b o,b∉fp->s.heap.get? b=some o->h'.get? b=some o) (ht:s.heap.objs.size<=t) (new:ObjOk X.prog X.w (upd H t o) h' t o) :
  Inv X pins σ (upd H t o) { s with heap:=h',toks:=t' }:=by
 have hn:H t=none:=I.hok.fresh ht
 have ne:∀ b ob,s.heap.get? b=some ob->b≠t:=fun b ob e=>apU (apF (apw e) ht)
 refine I.step (g':=s.gens) (d':=s.drawn) (ch:=fp) (fun b hb=>⟨(hf b hb).2.2.2.1,(hf b hb).2.1,(hf b hb).2.2.2.2⟩) (fun b o _ _ hc e _=>k b o hc e) (fun b o _ _ hc e _=>⟨o.slots,k b o hc e⟩) (fun b ob _ e n=>by rw [zv (ne b ob e)];exact n)
  (fun b o hc e=>⟨o,k b o hc e⟩) (fun b xs e=>by rw [zv (zJ e hn)];exact e) (fun b ob u e=>by rw [zv (zJ e hn)];exact e) (fun b ps e=>⟨#[],by rw [zv (zJ e hn),e];simp⟩) (fun m hm=>?_) (fun b u e=>?_) I.bare
 ·obtain⟨o,es,ep,ho,r⟩:=hm
  exact⟨o,es,ep,k _ o (fun z=>(hf _ z).2.1 rfl) ho,r⟩
 ·by_cases hb:b=t
  ·subst hb;rw [zw] at e;cases e;exact new
  ·rw [zv hb] at e
   refine (I.hok b u e).stay (fun c v hc q=>k c v (fun z=>?_) q) (fun c q=>by rw [zv (zJ q hn)];exact q) fun c xs q=>by rw [zv (zJ q hn)];exact q
   have hn':=(hf c z).1
   rcases hc with hc | hc
   ·subst hc;rw [e] at hn';cases hn'
   ·rw [hc] at hn';cases hn'
end
noncomputable def Ite (K:apj) (a:Addr):It :=
 ⟨fun i H=>∃ xs x,SqL K H a xs/\xs[i]?=some x,fun i H x H'=>∃ t y,x=.ref t/\H t=none/\H'=upd H t (.tup [.int i,y])/\∀ xs,SqL K H a xs->xs[i]?=some y,fun i H=>∃ xs,SqL K H a xs/\xs.length<=i⟩
theorem ag3 {P:Program} {w:World} {K:apj} {es:List Expr} {k:Nat} {pos:Pos} (a e it:Addr) (hne:e≠it):Turn P w K (.Tuple es k pos) (Ite K a) [e,it] e (fun i h=>(∃ old,IsEnum h e it i old)/\h.IsListIter it a i) where
 mem:=by simp
 obj:=fun i h st b hb=>by
  obtain⟨⟨old,se⟩,o,eo,c,d⟩:=st
  rcases apq.mp hb with z | z
  ·subst z
   exact⟨_,se,fun v z=>by
    have z':Data.fields _=Data.cell v:=z
    cases z'⟩
  ·have z:b=it:=by simpa using z
   subst z
   exact⟨o,eo,fun v z=>by rw [d] at z;cases z⟩
 keep:=fun i h h' st kk=>⟨let⟨old,se⟩:=st.1;⟨old,kk e (by simp) _ se⟩,st.2.at fun o eo=>kk it (by simp) o eo⟩
 item:=by
  intro X hP hw hK hc i pins s σ H E I hf st hg
  subst hP hw hK
  obtain⟨xs,x,hq,hx⟩:=hg
  obtain⟨its,rv,p,hz⟩:=I.list hq
  obtain⟨u,hu,ru⟩:=rv.get hx
  obtain⟨⟨old,se⟩,si⟩:=st
  refine wpAny_pyNext_enum_item se si p.isList (x:=u) (by simpa using hu) hne fun h' so si' tp sz kp=>?_
  refine⟨_,rfl,?_⟩
  refine wpAny_letOwnedTupleGo_enum (s:={ s with heap:=h',toks:=s.toks+1 }) so fun h2 se2 sb=>?_
  have hlt:e<s.heap.objs.size:=apw se
  obtain⟨oi,eoi,_,_⟩:=id si
  have hlt2:it<s.heap.objs.size:=apw eoi
  have kk:∀ b o,b∉[e,it]->s.heap.get? b=some o->h2.get? b=some o:=fun b o hb eb=>by
   have h1:b≠e:=fun z=>hb (by simp [z])
   have h2':b≠it:=fun z=>hb (by simp [z])
   exact (sb.2 b h1).trans (kp b o h1 h2' eb)
  have I2:Inv X pins σ (upd H s.heap.objs.size (.tup [.int i,x])) { s with heap:=h2,toks:=s.toks+1 }:=I.turnedNew hf kk (apr _)
   ⟨by show 2<=sizeLine;decide,[.int i s.toks,u],.cons ⟨_,rfl⟩ (.cons ru .nil),⟨_,(sb.2 _ (aq3 hlt)).trans tp,rfl,_,rfl⟩⟩
  refine⟨.ref s.heap.objs.size,_,I2,rfl,⟨_,x,rfl,I.fresh,rfl,fun ys hy=>by rw [I.list_inj hy hq];exact hx⟩,⟨⟨_,se2⟩,?_⟩,fun b hb=>?_⟩
  ·exact si'.at fun o eo=>(sb.2 it (arh hne)).trans eo
  ·rw [zv]
   ·exact (hf b hb).1
   ·rcases apq.mp hb with z | z
    ·subst z;exact apU hlt
    ·have z:b=it:=by simpa using z
     subst z;exact apU hlt2
 done:=by
  intro X hP hw hK hc i pins s σ H E I hf st hg
  subst hP hw hK
  obtain⟨xs,hq,hx⟩:=hg
  obtain⟨its,rv,p,hz⟩:=I.list hq
  obtain⟨⟨old,se⟩,si⟩:=st
  have hl:=rv.length
  exact wpAny_pyNext_enum_end (I.ok.hd hc) se si p.isList (by simp;omega) fun h' eb=>⟨rfl,I.turnedAll (t':=s.toks) hf fun b o hb e'=>eb b o (fun z=>hb (by simp [z])) e'⟩
 self:=fun _ _ _ _ _ st h=>let⟨_,se⟩:=st.1;wpAny_pyIter_enum se h
section
variable {X:Cx} {es:List Expr} {k:Nat} {tpos:Pos}
noncomputable def afT (K:apj) (ta:TA):TI:=fun σ H R=>ta σ H fun vs H1=>∃ a,vs=[.ref a]/\(∃ xs,SqL K H1 a xs)/\R (Ite K a) H1
theorem akc {a:Expr} {ta:TA} {p pos:Pos} (hg:Gl X "enumerate") (hm:X.mg "enumerate"=none) (ha:PA X [a] ta) (hs:starEach [a] X.env=[(false,eval a X.env)]:=by rfl):PI X (.Tuple es k tpos) (.Call (.Name "enumerate" p) [a] [] pos) (afT X.K ta):=by
 intro pins s σ H R I h
 refine Call_ (vw I hg hm boot_enumerate (aqE (thn (ha pos pins s σ H _ I h) fun us s1 ⟨vs,H1,I1,r1,q1⟩=>?_) hs rfl))
 obtain⟨l,e,⟨xs,hq⟩,q⟩:=q1
 subst e
 cases r1 with
 | cons r rr =>
  cases rr
  cases r
  obtain⟨its,rv,p,hz⟩:=I1.list hq
  refine call_enumerate_list p.isList fun h' he hi hsz kp=>?_
  refine wpAny_pyIter_enum he ?_
  have hne:s1.heap.objs.size+1≠s1.heap.objs.size:=Nat.succ_ne_self _
  refine⟨s1.heap.objs.size+1,[s1.heap.objs.size+1,s1.heap.objs.size],_,_,H1,rfl,I1.kept (t':=s1.toks) kp,ag3 l _ _ hne,⟨⟨_,he⟩,hi⟩,fun b hb=>?_,q⟩
  rcases apq.mp hb with z | z
  ·subst z;exact I1.fpOk (Nat.le_succ _) (I1.hok.fresh (Nat.le_succ _))
  ·have z:b=s1.heap.objs.size:=by simpa using z
   subst z;exact I1.fpOk (apr _) (I1.hok.fresh (apr _))
end
theorem aie {K:apj} {a:Addr} {xs:List V} {g:TG} {tb:TS} {D:Ends} {σ:St} {H:Hp} (Pv:Nat->St->Hp->Prop) (h0:Pv 0 σ H) (hl:∀ i σ H,i<=xs.length->Pv i σ H->SqL K H a xs)
  (hs:∀ i x σ H t,xs[i]?=some x->Pv i σ H->H t=none->g (.ref t) σ (upd H t (.tup [.int i,x])) fun σ2 H2=>tb { D with nx:=Pv (i+1),ct:=Pv (i+1),bk:=D.nx } σ2 H2) (hd:∀ σ H,Pv xs.length σ H->D.nx σ H) :
  ∃ W:Nat->Nat->St->Hp->Prop,(∃ m,W 0 m σ H)/\∀ i m σ H,W i m σ H ->
   ((Ite K a).stop i H/\D.nx σ H) \/ ((Ite K a).go i H/\∃ N:St->Hp->Prop,(∀ σ' H',N σ' H'->∃ m',m'<m/\W (i+1) m' σ' H')/\∀ x H',(Ite K a).yld i H x H'->g x σ H' fun σ2 H2=>tb { D with nx:=N,ct:=N,bk:=D.nx } σ2 H2):=by
 refine⟨fun i m σ H=>Pv i σ H/\i<=xs.length/\m+i=xs.length,⟨xs.length,h0,ap2 _,rfl⟩,fun i m σ H ⟨p,hi,hm⟩=>?_⟩
 have q:=hl i σ H hi p
 by_cases hlt:i<xs.length
 ·refine .inr ⟨⟨xs,xs[i],q,aph hlt⟩,Pv (i+1),fun σ' H' n=>⟨m - 1,by omega,n,hlt,by omega⟩,fun x H' hy=>?_⟩
  obtain⟨t,y,rfl,ht,rfl,hy⟩:=hy
  exact hs i y σ H t (hy xs q) p ht
 ·have e:i=xs.length:=by omega
  subst e
  exact .inl ⟨⟨xs,q,apr _⟩,hd σ H p⟩
mutual
noncomputable def Rep (K:apj) (H:Hp):PyData->V->Prop
 | .none,v=>v=.non
 | .bool b,v=>v=.bl b
 | .int i,v=>v=.int i
 | .str x,v=>v=.str x
 | .list ds,v=>∃ a xs,v=.ref a/\SqL K H a xs/\Reps K H ds xs
 | .tuple ds,v=>∃ a xs,v=.ref a/\SqT K H a xs/\Reps K H ds xs
 | .dict _,_=>False
noncomputable def Reps (K:apj) (H:Hp):List PyData->List V->Prop
 | [],xs=>xs=[]
 | d :: ds,xs=>∃ x r,xs=x :: r/\Rep K H d x/\Reps K H ds r
end
theorem Same.seqT {K:apj} {H H':Hp} {a:Addr} {xs:List V} (e:Same H H') (h:SqT K H a xs):SqT K H' a xs:=by
 rcases h with (h | ⟨o,h⟩) | h
 ·exact .inl (.inl (e _ _ h))
 ·exact .inl (.inr ⟨o,e _ _ h⟩)
 ·exact .inr h
mutual
theorem Rep.mono {K:apj} {H H':Hp} (e:Same H H'):∀ (d:PyData) (v:V),Rep K H d v->Rep K H' d v
 | .none,_,h=>by rw [Rep] at h ⊢;exact h
 | .bool _,_,h=>by rw [Rep] at h ⊢;exact h
 | .int _,_,h=>by rw [Rep] at h ⊢;exact h
 | .str _,_,h=>by rw [Rep] at h ⊢;exact h
 | .list ds,v,h=>by
  rw [Rep] at h ⊢
  obtain⟨a,xs,h1,h2,h3⟩:=h
  exact⟨a,xs,h1,e.seq h2,Reps.mono e ds xs h3⟩
 | .tuple ds,v,h=>by
  rw [Rep] at h ⊢
  obtain⟨a,xs,h1,h2,h3⟩:=h
  exact⟨a,xs,h1,e.seqT h2,Reps.mono e ds xs h3⟩
 | .dict _,_,h=>by rw [Rep] at h;exact h.elim
theorem Reps.mono {K:apj} {H H':Hp} (e:Same H H'):∀ (ds:List PyData) (xs:List V),Reps K H ds xs->Reps K H' ds xs
 | [],_,h=>by rw [Reps] at h ⊢;exact h
 | d :: ds,xs,h=>by
  rw [Reps] at h ⊢
  obtain⟨x,r,h1,h2,h3⟩:=h
  exact⟨x,r,h1,Rep.mono e d x h2,Reps.mono e ds r h3⟩
end
theorem rep_int {K:apj} {H:Hp} {i:Int} {v:V}:Rep K H (.int i) v↔v=.int i:=by rw [Rep]
theorem rep_bool {K:apj} {H:Hp} {b:Bool} {v:V}:Rep K H (.bool b) v↔v=.bl b:=by rw [Rep]
theorem rep_none {K:apj} {H:Hp} {v:V}:Rep K H .none v↔v=.non:=by rw [Rep]
theorem rep_str {K:apj} {H:Hp} {x:Str} {v:V}:Rep K H (.str x) v↔v=.str x:=by rw [Rep]
theorem rep_list {K:apj} {H:Hp} {ds:List PyData} {v:V}:Rep K H (.list ds) v↔∃ a xs,v=.ref a/\SqL K H a xs/\Reps K H ds xs:=by rw [Rep]
theorem rep_tuple {K:apj} {H:Hp} {ds:List PyData} {v:V}:Rep K H (.tuple ds) v↔∃ a xs,v=.ref a/\SqT K H a xs/\Reps K H ds xs:=by rw [Rep]
theorem reps_nil {K:apj} {H:Hp} {xs:List V}:Reps K H [] xs↔xs=[]:=by rw [Reps]
theorem reps_cons {K:apj} {H:Hp} {d:PyData} {ds:List PyData} {xs:List V}:Reps K H (d :: ds) xs↔∃ x r,xs=x :: r/\Rep K H d x/\Reps K H ds r:=by rw [Reps]
theorem Reps.nil' {K:apj} {H:Hp}:Reps K H [] []:=reps_nil.mpr rfl
theorem Reps.cons' {K:apj} {H:Hp} {d:PyData} {ds:List PyData} {x:V} {r:List V} (h:Rep K H d x) (t:Reps K H ds r):Reps K H (d :: ds) (x :: r):=reps_cons.mpr ⟨x,r,rfl,h,t⟩
theorem Reps.length {K:apj} {H:Hp}:∀ {ds:List PyData} {xs:List V},Reps K H ds xs->xs.length=ds.length
 | [],xs,h=>by rw [reps_nil.mp h];rfl
 | d :: ds,xs,h=>by
  obtain⟨x,r,rfl,_,h3⟩:=reps_cons.mp h
  rw [apL,apL,Reps.length h3]
theorem Reps.get {K:apj} {H:Hp}:∀ {ds:List PyData} {xs:List V} {i:Nat} {d:PyData},Reps K H ds xs->ds[i]?=some d->∃ x,xs[i]?=some x/\Rep K H d x
 | [],_,_,_,_,e=>by simp at e
 | d :: ds,xs,0,d',h,e=>by
  obtain⟨x,r,rfl,h2,_⟩:=reps_cons.mp h
  simp at e;subst e
  exact⟨x,rfl,h2⟩
 | d :: ds,xs,i+1,d',h,e=>by
  obtain⟨x,r,rfl,_,h3⟩:=reps_cons.mp h
  obtain⟨y,h1,h2⟩:=Reps.get (i:=i) h3 (by simpa using e)
  exact⟨y,by simpa using h1,h2⟩
theorem Reps.snoc {K:apj} {H:Hp} {d:PyData} {x:V} (h:Rep K H d x):∀ {ds:List PyData} {xs:List V},Reps K H ds xs->Reps K H (ds++[d]) (xs++[x])
 | [],xs,t=>by rw [reps_nil.mp t];exact .cons' h .nil'
 | d' :: ds,xs,t=>by
  obtain⟨y,r,rfl,h2,h3⟩:=reps_cons.mp t
  exact .cons' h2 (Reps.snoc h h3)
theorem Reps.append {K:apj} {H:Hp}:∀ {ds es:List PyData} {xs ys:List V},Reps K H ds xs->Reps K H es ys->Reps K H (ds++es) (xs++ys)
 | [],es,xs,ys,t,u=>by rw [reps_nil.mp t];exact u
 | d' :: ds,es,xs,ys,t,u=>by
  obtain⟨y,r,rfl,h2,h3⟩:=reps_cons.mp t
  exact .cons' h2 (Reps.append h3 u)
theorem Reps.ints {K:apj} {H:Hp}:∀ {ns:List Int} {xs:List V},Reps K H (ns.map .int) xs->xs=ns.map V.int
 | [],xs,h=>reps_nil.mp h
 | n :: ns,xs,h=>by
  obtain⟨x,r,rfl,h2,h3⟩:=reps_cons.mp h
  rw [rep_int.mp h2,Reps.ints h3];rfl
theorem Reps.ints' {K:apj} {H:Hp}:∀ (ns:List Int),Reps K H (ns.map .int) (ns.map V.int)
 | []=>.nil'
 | n :: ns=>.cons' (rep_int.mpr rfl) (Reps.ints' ns)
section
variable {X:Cx} {pins:List (Addr×Obj)} {σ:St} {H:Hp} {s:Shared}
mutual
theorem yW (I:Inv X pins σ H s):∀ (d:PyData) (v:V) (u:Value),Rep X.K H d v->RelV v u->∃ as,Reads s.heap u d as
 | .none,v,u,h,r=>by rw [rep_none.mp h] at r;cases r;exact⟨_,.none⟩
 | .bool b,v,u,h,r=>by rw [rep_bool.mp h] at r;cases r;exact⟨_,.bool b⟩
 | .int i,v,u,h,r=>by rw [rep_int.mp h] at r;obtain⟨t,rfl⟩:=r;exact⟨_,.int i t⟩
 | .str x,v,u,h,r=>by rw [rep_str.mp h] at r;obtain⟨t,rfl⟩:=r;exact⟨_,.str x t⟩
 | .list ds,v,u,h,r=>by
  obtain⟨a,xs,rfl,h2,h3⟩:=rep_list.mp h
  cases r
  obtain⟨its,rv,p,_⟩:=I.list h2
  obtain⟨o,ho,hc,n,hd⟩:=p.isList
  obtain⟨as,ra⟩:=jR I ds xs its h3 rv
  exact⟨_,.list ho hc hd (by simpa using ra)⟩
 | .tuple ds,v,u,h,r=>by
  obtain⟨a,xs,rfl,h2,h3⟩:=rep_tuple.mp h
  cases r
  obtain⟨its,rv,p,_⟩:=I.tuple h2
  obtain⟨o,ho,hc,n,hd⟩:=p
  obtain⟨as,ra⟩:=jR I ds xs its h3 rv
  exact⟨_,.tuple ho hc hd (by simpa using ra)⟩
 | .dict _,_,_,h,_=>by rw [Rep] at h;exact h.elim
theorem jR (I:Inv X pins σ H s):∀ (ds:List PyData) (xs:List V) (us:List Value),Reps X.K H ds xs->Vals xs us->∃ as,ReadsAll s.heap us ds as
 | [],xs,us,h,r=>by rw [reps_nil.mp h] at r;cases r;exact⟨_,.nil⟩
 | d :: ds,xs,us,h,r=>by
  obtain⟨x,q,rfl,h2,h3⟩:=reps_cons.mp h
  cases r with
  | cons r1 r2 =>
   obtain⟨as,ra⟩:=yW I d x _ h2 r1
   obtain⟨bs,rb⟩:=jR I ds q _ h3 r2
   exact⟨_,.cons ra rb⟩
end
noncomputable def ag4 (K:apj) (neg:Bool):R2:=fun x y H Q=>∃ d d',Rep K H d x/\Rep K H d' y/\d.canLay0=true/\d'.canLay0=true/\min d.depth d'.depth<=60/\Q (.bl (if neg then !apP d d' else apP d d')) H
theorem ams (hu:X.A.units+64<cLine):OpR X (compareOp .Eq) (ag4 X.K false):=by
 intro pins s σ H x y v u Q I rx ry h
 obtain⟨d,d',h1,h2,c1,c2,hm,q⟩:=h
 obtain⟨as,ra⟩:=yW I d x v h1 rx
 obtain⟨bs,rb⟩:=yW I d' y u h2 ry
 exact SeqAt.compareEq_reads ra rb c1 c2 (by omega) ⟨.bl (apP d d'),H,I,rfl,q⟩
theorem amt (hu:X.A.units+64<cLine):OpR X (compareOp .NotEq) (ag4 X.K true):=by
 intro pins s σ H x y v u Q I rx ry h
 obtain⟨d,d',h1,h2,c1,c2,hm,q⟩:=h
 obtain⟨as,ra⟩:=yW I d x v h1 rx
 obtain⟨bs,rb⟩:=yW I d' y u h2 ry
 exact SeqAt.compareNe_reads ra rb c1 c2 (by omega) ⟨.bl (!apP d d'),H,I,rfl,q⟩
theorem ag5 (hc:X.calm=true):yN X (.builtin "min") (fun xs H Q=>∃ a ns,xs=[.ref a]/\SqL X.K H a (ns.map V.int)/\ns≠[]/\∀ M,M∈ns->(∀ b∈ns,M<=b)->Q (.int M) H):=by
 intro pins s σ H xs us Q I r h
 obtain⟨a,ns,rfl,hq,hne,q⟩:=h
 obtain⟨u,rfl,r1⟩:=vals1 r
 cases r1
 obtain⟨its,rv,p,_⟩:=I.list hq
 obtain⟨m,F⟩:=I.fr
 have hi:=intsAre_of rv
 obtain⟨ys,e⟩:=hi.allInts.items
 have hns:ns=ys.toList.map (·.1):=by rw [<-hi.numsOf,<- nums_intItems,<- e]
 have hsz:0<ys.size:=by
  have h3:0<ns.length:=arV.mpr hne
  rw [hns,api,apD] at h3;exact h3
 have hl:=p.isList
 rw [e] at hl
 refine min_intList (I.ok.hd hc) hl hsz fun v h' tk hv hk=>?_
 obtain⟨t,rfl⟩:=intItems_at hv
 obtain⟨_,h2⟩:=argBest_lt (numAt ys) (ys.size - 1)
 refine⟨.int _,H,I.kept (t':=tk) hk,⟨t,rfl⟩,q _ ?_ fun b hb=>?_⟩
 ·rw [hns,numAt_eq];exact getD_mem (by rw [api,apD];omega)
 ·rw [hns] at hb
  obtain⟨j,hj,rfl⟩:=mem_getD hb
  rw [api,apD] at hj
  rw [<-numAt_eq];exact h2 j (by omega)
theorem ag6 (hc:X.calm=true):yN X (.builtin "max") (fun xs H Q=>∃ a ns,xs=[.ref a]/\SqL X.K H a (ns.map V.int)/\ns≠[]/\∀ M,M∈ns->(∀ b∈ns,b<=M)->Q (.int M) H):=by
 intro pins s σ H xs us Q I r h
 obtain⟨a,ns,rfl,hq,hne,q⟩:=h
 obtain⟨u,rfl,r1⟩:=vals1 r
 cases r1
 obtain⟨its,rv,p,_⟩:=I.list hq
 have hi:=intsAre_of rv
 obtain⟨ys,e⟩:=hi.allInts.items
 have hns:ns=ys.toList.map (·.1):=by rw [<-hi.numsOf,<- nums_intItems,<- e]
 have hsz:0<ys.size:=by
  have h3:0<ns.length:=arV.mpr hne
  rw [hns,api,apD] at h3;exact h3
 have hl:=p.isList
 rw [e] at hl
 refine max_intList (I.ok.hd hc) hl hsz fun v h' tk hv hk=>?_
 obtain⟨t,rfl⟩:=intItems_at hv
 obtain⟨_,h2⟩:=argBest_gt (numAt ys) (ys.size - 1)
 refine⟨.int _,H,I.kept (t':=tk) hk,⟨t,rfl⟩,q _ ?_ fun b hb=>?_⟩
 ·rw [hns,numAt_eq];exact getD_mem (by rw [api,apD];omega)
 ·rw [hns] at hb
  obtain⟨j,hj,rfl⟩:=mem_getD hb
  rw [api,apD] at hj
  rw [<-numAt_eq];exact h2 j (by omega)
end
inductive DV where
 | dat (d:PyData)
 | feed
 | own (k:Nat)
 | exc (C:Value)
 | mon (φ:Hp->V->Prop)
noncomputable abbrev zr:=List (Option DV)
structure Fx where
 f:Option Addr
 M:List Addr
noncomputable def hide (H:Hp) (f:Fx):Hp:=fun b=>if f.f=some b \/ b∈f.M then none else H b
structure FOk (f:Fx) (H:Hp):Prop where
 fd:∀ p,f.f=some p->∃ a b:Int,H p=some (.lst [.int a,.int b])/\0<=a/\0<=b/\b<2147483647
 mm:∀ b∈f.M,∃ o,H b=some o
 nm:∀ p,f.f=some p->p∉f.M
noncomputable def RepV (K:apj) (f:Fx) (H:Hp):DV->V->Prop
 | .dat d,v=>Rep K (hide H f) d v
 | .feed,v=>∃ p,f.f=some p/\v=.ref p
 | .own k,v=>∃ p,f.M.reverse[k]?=some p/\v=.ref p
 | .exc C,v=>∃ a,v=.ref a/\hide H f a=some (.ext fun h=>∃ o,h.get? a=some o/\o.cls=C)
 | .mon φ,v=>∀ H',Same (hide H f) H'->φ H' v
structure Goes (f:Fx) (H H':Hp):Prop where
 sm:Same (hide H f) (hide H' f)
 ok:FOk f H'
 kp:∀ b∈f.M,H' b=H b
structure EnvOk (K:apj) (f:Fx) (ρ:zr) (σ:St) (H:Hp):Prop where
 len:ρ.length=σ.length
 get:∀ (i:Nat) x,ρ[i]?=some (some x)->∃ v,σ[i]?=some (some v)/\RepV K f H x v
 fd:FOk f H
theorem y8 (H:Hp):hide H ⟨none,[]⟩=H:=by funext b;unfold hide;rw [if_neg (by rintro (h | h) <;> cases h)]
theorem zi (H:Hp) (f:Fx):Same (hide H f) H:=fun b o h=>by
 unfold hide at h
 split at h
 ·cases h
 ·exact h
theorem zI {H:Hp} {f:Fx} {b:Addr} {o:HO} (h:hide H f b=some o):¬ (f.f=some b \/ b∈f.M)/\H b=some o:=by
 unfold hide at h
 split at h
 ·cases h
 ·rename_i n;exact⟨n,h⟩
theorem zz {H:Hp} {f:Fx} {b:Addr} {o:HO} (n:¬ (f.f=some b \/ b∈f.M)) (h:H b=some o):hide H f b=some o:=by unfold hide;rw [if_neg n];exact h
theorem Goes.refl {f:Fx} {H:Hp} (h:FOk f H):Goes f H H:=⟨Same.refl _,h,fun _ _=>rfl⟩
theorem Goes.trans {f:Fx} {H H1 H2:Hp} (a:Goes f H H1) (b:Goes f H1 H2):Goes f H H2:=⟨a.1.trans b.1,b.2,fun x hx=>(b.kp x hx).trans (a.kp x hx)⟩
theorem Goes.of_same {f:Fx} {H H':Hp} (s:Same H H') (h:FOk f H):Goes f H H' :=
 ⟨fun b o e=>zz (zI e).1 (s b o (zI e).2),⟨fun p e=>let⟨a,b,h1,h2⟩:=h.fd p e;⟨a,b,s _ _ h1,h2⟩,fun b hb=>let⟨o,e⟩:=h.mm b hb;⟨o,s _ _ e⟩,h.nm⟩,fun b hb=>let⟨o,e⟩:=h.mm b hb;(s _ _ e).trans e.symm⟩
theorem yd {H:Hp} {p:Addr} (h:H p=none) (o:HO):Same H (upd H p o):=fun b u q=>by rw [zv (zJ q h)];exact q
theorem RepV.mono {K:apj} {f:Fx} {H H':Hp} (g:Goes f H H'):∀ {x:DV} {v:V},RepV K f H x v->RepV K f H' x v
 | .dat d,v,h=>Rep.mono g.1 d v h
 | .feed,v,h=>h
 | .own _,v,h=>h
 | .exc _,v,h=>let⟨a,e,q⟩:=h;⟨a,e,g.1 _ _ q⟩
 | .mon _,v,h=>fun H' s=>h H' (g.1.trans s)
theorem EnvOk.mono {K:apj} {f:Fx} {ρ:zr} {σ:St} {H H':Hp} (e:EnvOk K f ρ σ H) (g:Goes f H H'):EnvOk K f ρ σ H' :=
 ⟨e.len,fun i x h=>let⟨v,h1,h2⟩:=e.get i x h;⟨v,h1,h2.mono g⟩,g.2⟩
theorem EnvOk.set {K:apj} {f:Fx} {ρ:zr} {σ:St} {H:Hp} {x:DV} {v:V} (e:EnvOk K f ρ σ H) (i:Nat) (r:RepV K f H x v):EnvOk K f (ρ.set i (some x)) (σ.set i (some v)) H:=by
 refine⟨by rw [aqy,aqy];exact e.len,fun j y h=>?_,e.fd⟩
 by_cases hj:i=j
 ·subst hj
  by_cases hi:i<ρ.length
  ·rw [ap7 hi] at h
   cases h
   exact⟨v,by rw [ap7 (by rw [<-e.len];exact hi)],r⟩
  ·rw [apR (by rw [aqy];omega)] at h;cases h
 ·rw [aqi hj] at h ⊢
  exact e.get j y h
theorem fresh_ne {f:Fx} {H:Hp} {p:Addr} (h:FOk f H) (n:H p=none):¬ (f.f=some p \/ p∈f.M):=fun e=>by
 rcases e with e | e
 ·obtain⟨a,b,h1,_⟩:=h.fd p e
  rw [n] at h1;cases h1
 ·obtain⟨o,h1⟩:=h.mm p e
  rw [n] at h1;cases h1
inductive RepVs (K:apj) (f:Fx) (H:Hp):List DV->List V->Prop where
 | nil:RepVs K f H [] []
 | cons {x v xs vs}:RepV K f H x v->RepVs K f H xs vs->RepVs K f H (x :: xs) (v :: vs)
theorem RepVs.mono {K:apj} {f:Fx} {H H':Hp} (g:Goes f H H'):∀ {xs:List DV} {vs:List V},RepVs K f H xs vs->RepVs K f H' xs vs
 | _,_,.nil=>.nil
 | _,_,.cons r t=>.cons (r.mono g) (t.mono g)
theorem RepVs.length {K:apj} {f:Fx} {H:Hp}:∀ {xs:List DV} {vs:List V},RepVs K f H xs vs->vs.length=xs.length
 | _,_,.nil=>rfl
 | _,_,.cons _ t=>by rw [apL,apL,t.length]
section
variable (K:apj) (f:Fx)
noncomputable def PEd (te:TE) (ρ:zr) (P:PyData->Prop):Prop:=∀ (σ:St) (H:Hp) (Q:VK),EnvOk K f ρ σ H->(∀ d v H',Goes f H H'->Rep K (hide H' f) d v->P d->Q v H')->te σ H Q
noncomputable def PTd (tt:TT) (ρ:zr) (P:Bool->Prop):Prop:=∀ (σ:St) (H:Hp) (Q:Bool->Hp->Prop),EnvOk K f ρ σ H->(∀ b H',Goes f H H'->P b->Q b H')->tt σ H Q
noncomputable def PAd (ta:TA) (ρ:zr) (P:List DV->Prop):Prop:=∀ (σ:St) (H:Hp) (Q:List V->Hp->Prop),EnvOk K f ρ σ H->(∀ xs vs H',Goes f H H'->RepVs K f H' xs vs->P xs->Q vs H')->ta σ H Q
structure DEnds where
 nx:zr->Prop
 rt:PyData->Prop
 bk:zr->Prop:=fun _=>False
 ct:zr->Prop:=fun _=>False
noncomputable def PSd (ts:TS) (ρ:zr) (D:DEnds):Prop:=∀ (σ:St) (H:Hp) (E:Ends),EnvOk K f ρ σ H->(∀ ρ' σ' H',Goes f H H'->EnvOk K f ρ' σ' H'->D.nx ρ'->E.nx σ' H')->(∀ d v H',Goes f H H'->Rep K (hide H' f) d v->D.rt d->E.rt v H') ->
 (∀ ρ' σ' H',Goes f H H'->EnvOk K f ρ' σ' H'->D.bk ρ'->E.bk σ' H')->(∀ ρ' σ' H',Goes f H H'->EnvOk K f ρ' σ' H'->D.ct ρ'->E.ct σ' H')->ts E σ H
noncomputable def spD {γ:Type} (n:Nat) (pre:γ->List DV->Prop) (post:γ->PyData->Prop):Sp:=fun vs H Q _=>∃ f xs c,RepVs K f H xs vs/\xs.length=n/\FOk f H/\pre c xs/\∀ r v H',Goes f H H'->Rep K (hide H' f) r v->post c r->Q v H'
end
section
variable {K:apj} {f:Fx} {ρ:zr} {P:PyData->Prop} {te ta tb tc:TE}
theorem ze {i:Nat} {d:PyData} (h:ρ[i]?=some (some (.dat d))) (p:P d):PEd K f (yj i) ρ P:=fun σ H Q e q=>by
 obtain⟨v,h1,h2⟩:=e.get i _ h
 exact⟨v,h1,q d v H (.refl e.fd) h2 p⟩
theorem zB {i:Int} (p:P (.int i)):PEd K f (tC (.int i)) ρ P:=fun σ H Q e q=>q (.int i) _ H (.refl e.fd) (rep_int.mpr rfl) p
theorem ae5 {i:Bool} (p:P (.bool i)):PEd K f (tC (.bl i)) ρ P:=fun σ H Q e q=>q (.bool i) _ H (.refl e.fd) (rep_bool.mpr rfl) p
theorem alx {i:Str} (p:P (.str i)):PEd K f (tC (.str i)) ρ P:=fun σ H Q e q=>q (.str i) _ H (.refl e.fd) (rep_str.mpr rfl) p
theorem aif (p:P .none):PEd K f (tC .non) ρ P:=fun σ H Q e q=>q .none _ H (.refl e.fd) (rep_none.mpr rfl) p
theorem PEd.imp {P':PyData->Prop} (h:PEd K f te ρ P) (i:∀ d,P d->P' d):PEd K f te ρ P':=fun σ H Q e q=>h σ H Q e fun d v H' g r p=>q d v H' g r (i d p)
theorem ag7 {r:R2} (h:PEd K f ta ρ fun x=>PEd K f tb ρ fun y=>∀ (v w:V) (H:Hp) (Q:VK),FOk f H->Rep K (hide H f) x v->Rep K (hide H f) y w->(∀ d u H',Goes f H H'->Rep K (hide H' f) d u->P d->Q u H')->r v w H Q):PEd K f (tOp r ta tb) ρ P:=fun σ H Q e q =>
 h σ H _ e fun x v H1 g1 r1 p1=>p1 σ H1 _ (e.mono g1) fun y w H2 g2 r2 p2=>p2 v w H2 Q g2.2 (Rep.mono g2.1 x v r1) r2 fun d u H' g' r' p'=>q d u H' (g1.trans (g2.trans g')) r' p'
theorem ao7 {r:V->Hp->VK->Prop} (h:PEd K f ta ρ fun x=>∀ (v:V) (H:Hp) (Q:VK),FOk f H->Rep K (hide H f) x v->(∀ d u H',Goes f H H'->Rep K (hide H' f) d u->P d->Q u H')->r v H Q):PEd K f (tUn r ta) ρ P:=fun σ H Q e q =>
 h σ H _ e fun x v H1 g1 r1 p1=>p1 v H1 Q g1.2 r1 fun d u H' g' r' p'=>q d u H' (g1.trans g') r' p'
theorem yK {g:Int->Int->Int} (h:PEd K f ta ρ fun x=>∃ i,x=.int i/\PEd K f tb ρ fun y=>∃ j,y=.int j/\P (.int (g i j))):PEd K f (tOp (rI0 fun i j=>.int (g i j)) ta tb) ρ P :=
 ag7 (h.imp fun x ⟨i,ex,h2⟩=>h2.imp fun y ⟨j,ey,p⟩ v w H Q fo rx ry q=>by
  subst ex ey
  exact⟨i,j,rep_int.mp rx,rep_int.mp ry,q _ _ H (.refl fo) (rep_int.mpr rfl) p⟩)
theorem zP {C:Int->Int->Prop} {g:Int->Int->Int} (h:PEd K f ta ρ fun x=>∃ i,x=.int i/\PEd K f tb ρ fun y=>∃ j,y=.int j/\C i j/\P (.int (g i j))):PEd K f (tOp (rI C fun i j=>.int (g i j)) ta tb) ρ P :=
 ag7 (h.imp fun x ⟨i,ex,h2⟩=>h2.imp fun y ⟨j,ey,c,p⟩ v w H Q fo rx ry q=>by
  subst ex ey
  exact⟨i,j,rep_int.mp rx,rep_int.mp ry,c,q _ _ H (.refl fo) (rep_int.mpr rfl) p⟩)
theorem acg {g:Int->Int->Bool} (h:PEd K f ta ρ fun x=>∃ i,x=.int i/\PEd K f tb ρ fun y=>∃ j,y=.int j/\P (.bool (g i j))):PEd K f (tOp (rI0 fun i j=>.bl (g i j)) ta tb) ρ P :=
 ag7 (h.imp fun x ⟨i,ex,h2⟩=>h2.imp fun y ⟨j,ey,p⟩ v w H Q fo rx ry q=>by
  subst ex ey
  exact⟨i,j,rep_int.mp rx,rep_int.mp ry,q _ _ H (.refl fo) (rep_bool.mpr rfl) p⟩)
theorem qS {neg:Bool} (h:PEd K f ta ρ fun x=>PEd K f tb ρ fun y=>x.canLay0=true/\y.canLay0=true/\min x.depth y.depth<=60/\P (.bool (if neg then !apP x y else apP x y))):PEd K f (tOp (ag4 K neg) ta tb) ρ P :=
 ag7 (h.imp fun x h2=>h2.imp fun y ⟨c1,c2,c3,p⟩ v w H Q fo rx ry q =>
  ⟨x,y,Rep.mono (zi _ _) x v rx,Rep.mono (zi _ _) y w ry,c1,c2,c3,q _ _ H (.refl fo) (rep_bool.mpr rfl) p⟩)
theorem aih {n:Nat} {k:Int} {j:Nat} (h:(j:Int)=k) (hj:j<n):ixN n k=some j:=by
 unfold ixN
 rw [if_pos (by omega),if_pos (by omega)]
 congr 1
 omega
theorem yL (h:PEd K f ta ρ fun x=>∃ ds,x=.list ds/\PEd K f tb ρ fun y=>∃ k,y=.int k/\∃ d,atI ds k=some d/\P d):PEd K f (tOp (aaG K) ta tb) ρ P :=
 ag7 (h.imp fun x ⟨ds,ex,h2⟩=>h2.imp fun y ⟨k,ey,d,a,p⟩ v w H Q fo rx ry q=>by
  subst ex ey
  obtain⟨l,xs,rfl,hs,hr⟩:=rep_list.mp rx
  unfold atI at a
  cases hi:ixN ds.length k with
  | none=>rw [hi] at a;cases a
  | some j =>
   rw [hi] at a
   obtain⟨u,hu,ru⟩:=hr.get a
   exact⟨l,xs,k,u,rfl,rep_int.mp ry,(zi H f).seq hs,by unfold atI;rw [hr.length,hi];exact hu,q d u H (.refl fo) ru p⟩)
theorem yP (h:PEd K f ta ρ fun x=>∃ ds,x=.tuple ds/\PEd K f tb ρ fun y=>∃ k,y=.int k/\∃ d,atI ds k=some d/\P d):PEd K f (tOp (aml K) ta tb) ρ P :=
 ag7 (h.imp fun x ⟨ds,ex,h2⟩=>h2.imp fun y ⟨k,ey,d,a,p⟩ v w H Q fo rx ry q=>by
  subst ex ey
  obtain⟨l,xs,rfl,hs,hr⟩:=rep_tuple.mp rx
  unfold atI at a
  cases hi:ixN ds.length k with
  | none=>rw [hi] at a;cases a
  | some j =>
   rw [hi] at a
   obtain⟨u,hu,ru⟩:=hr.get a
   exact⟨l,xs,k,u,rfl,rep_int.mp ry,(zi H f).seqT hs,by unfold atI;rw [hr.length,hi];exact hu,q d u H (.refl fo) ru p⟩)
theorem aly {i:Nat} (hi:ρ[i]?=some (some .feed)) (h:PEd K f tb ρ fun y=>(y=.int 0/\∀ a:Int,0<=a->P (.int a)) \/ (y=.int 1/\∀ b:Int,0<=b->b<2147483647->P (.int b))):PEd K f (tOp (aaG K) (yj i) tb) ρ P:=fun σ H Q e q=>by
 obtain⟨v,h1,p,ef,ev⟩:=e.get i _ hi
 refine⟨v,h1,h σ H _ e fun y w H' g r c=>?_⟩
 obtain⟨a,b,hf,c1,c2,c3⟩:=g.2.fd p ef
 rcases c with⟨rfl,c⟩ | ⟨rfl,c⟩
 ·exact⟨p,_,0,.int a,ev,rep_int.mp r,SqL.of hf,rfl,q (.int a) _ H' g (rep_int.mpr rfl) (c a c1)⟩
 ·exact⟨p,_,1,.int b,ev,rep_int.mp r,SqL.of hf,rfl,q (.int b) _ H' g (rep_int.mpr rfl) (c b c2 c3)⟩
theorem zU {R:List DV->Prop} (p:R []):PAd K f jz ρ R:=fun σ H Q e q=>q [] [] H (.refl e.fd) .nil p
theorem zq {R:List DV->Prop} {u:TA} (h:PEd K f te ρ fun x=>PAd K f u ρ fun xs=>R (.dat x :: xs)):PAd K f (yb te u) ρ R:=fun σ H Q e q =>
 h σ H _ e fun x v H1 g1 r1 p1=>p1 σ H1 _ (e.mono g1) fun xs vs H2 g2 r2 p2=>q (.dat x :: xs) (v :: vs) H2 (g1.trans g2) (.cons (RepV.mono (x:=.dat x) g2 r1) r2) p2
theorem aii {R:List DV->Prop} {u:TA} {i:Nat} (hi:ρ[i]?=some (some .feed)) (h:PAd K f u ρ fun xs=>R (.feed :: xs)):PAd K f (yb (yj i) u) ρ R:=fun σ H Q e q=>by
 obtain⟨v,h1,h2⟩:=e.get i _ hi
 exact⟨v,h1,h σ H _ e fun xs vs H2 g2 r2 p2=>q (.feed :: xs) (v :: vs) H2 g2 (.cons (RepV.mono (x:=.feed) g2 h2) r2) p2⟩
noncomputable def jO:List DV->Option (List PyData)
 | []=>some []
 | .dat d :: r=>(jO r).map (d :: ·)
 | .feed :: _=>none
 | .own _ :: _=>none
 | .exc _ :: _=>none
 | .mon _ :: _=>none
theorem qy {H:Hp}:∀ {xs:List DV} {vs:List V} {ds:List PyData},RepVs K f H xs vs->jO xs=some ds->Reps K (hide H f) ds vs
 | _,_,ds,.nil,e=>by cases e;exact .nil'
 | .dat d :: xs,v :: vs,ds,.cons r t,e=>by
  unfold jO at e
  cases q:jO xs with
  | none=>rw [q] at e;cases e
  | some es=>rw [q] at e;cases e;exact .cons' r (qy t q)
 | .feed :: xs,_,ds,.cons r t,e=>by cases e
 | .own _ :: xs,_,ds,.cons r t,e=>by cases e
 | .exc _ :: xs,_,ds,.cons r t,e=>by cases e
 | .mon _ :: xs,_,ds,.cons r t,e=>by cases e
theorem aaw {t:TA} (h:PAd K f t ρ fun xs=>∃ ds,jO xs=some ds/\ds.length<=1000/\P (.list ds)):PEd K f (agY t) ρ P:=fun σ H Q e q =>
 h σ H _ e fun xs vs H1 g1 r1 ⟨ds,ea,hl,p⟩=>by
  have rs:=qy r1 ea
  refine⟨by rw [rs.length];exact aqj (zY hl),fun l hn=>?_⟩
  have sm:=yd hn (.lst vs)
  have g2:Goes f H1 (upd H1 l (.lst vs)):=.of_same sm g1.2
  exact q (.list ds) _ _ (g1.trans g2) (rep_list.mpr ⟨l,vs,rfl,.of (zz (fresh_ne g1.2 hn) zw),Reps.mono g2.1 ds vs rs⟩) p
theorem y9 {t:TA} (h:PAd K f t ρ fun xs=>∃ ds,jO xs=some ds/\ds.length<=1000/\P (.tuple ds)):PEd K f (acI t) ρ P:=fun σ H Q e q =>
 h σ H _ e fun xs vs H1 g1 r1 ⟨ds,ea,hl,p⟩=>by
  have rs:=qy r1 ea
  refine⟨by rw [rs.length];exact aqj (zY hl),fun l hn=>?_⟩
  have sm:=yd hn (.tup vs)
  have g2:Goes f H1 (upd H1 l (.tup vs)):=.of_same sm g1.2
  exact q (.tuple ds) _ _ (g1.trans g2) (rep_tuple.mpr ⟨l,vs,rfl,.of (zz (fresh_ne g1.2 hn) zw),Reps.mono g2.1 ds vs rs⟩) p
theorem zu {γ:Type} {n:Nat} {pre:γ->List DV->Prop} {post:γ->PyData->Prop} {E:XK} {t:TA} (c:γ) (h:PAd K f t ρ fun xs=>xs.length=n/\pre c xs/\∀ r,post c r->P r):PEd K f (ab7 (spD K n pre post) [] E t) ρ P:=fun σ H Q e q =>
 h σ H _ e fun xs vs H1 g1 r1 ⟨hl,hp,k⟩=>by
  refine⟨f,xs,c,by rw [apY];exact r1,hl,g1.2,hp,fun r v H' g' r' p'=>q r v H' (g1.trans g') r' (k r p')⟩
theorem ag8 {r:List V->Hp->VK->Prop} {t:TA} (h:PAd K f t ρ fun xs=>∃ ds,jO xs=some ds/\∀ (vs:List V) (H:Hp) (Q:VK),FOk f H->Reps K (hide H f) ds vs->(∀ d u H',Goes f H H'->Rep K (hide H' f) d u->P d->Q u H')->r vs H Q):PEd K f (tCB r t) ρ P:=fun σ H Q e q =>
 h σ H _ e fun xs vs H1 g1 r1 ⟨ds,ea,k⟩=>k vs H1 Q g1.2 (qy r1 ea) fun d u H' g' r' p'=>q d u H' (g1.trans g') r' p'
end
section
variable {K:apj} {f:Fx} {ρ:zr} {P:PyData->Prop} {B:Bool->Prop} {te ta tb tc:TE} {tt tu:TT}
theorem PTd.imp {B':Bool->Prop} (h:PTd K f tt ρ B) (i:∀ d,B d->B' d):PTd K f tt ρ B':=fun σ H Q e q=>h σ H Q e fun d H' g p=>q d H' g (i d p)
theorem jh (h:PEd K f te ρ fun d=>∃ k,d=.bool k/\B k):PTd K f (adP te) ρ B:=fun σ H Q e q=>h σ H _ e fun d v H' g r ⟨k,ed,p⟩=>by
 subst ed
 exact⟨k,rep_bool.mp r,q k H' g p⟩
theorem t_b (h:PEd K f te ρ fun d=>∃ k,d=.bool k/\B k):PTd K f (tB te) ρ B:=fun σ H Q e q=>h σ H _ e fun d v H' g r ⟨k,ed,p⟩=>by
 subst ed
 exact⟨k,rep_bool.mp r,q k H' g p⟩
theorem adX (h:PTd K f tt ρ fun c=>if c=true then PTd K f tu ρ B else B false):PTd K f (al8 tt tu) ρ B:=fun σ H Q e q=>h σ H _ e fun c H1 g p=>by
 cases c with
 | true =>
  rw [if_pos rfl] at p ⊢
  exact p σ H1 Q (e.mono g) fun b H2 g2 p2=>q b H2 (g.trans g2) p2
 | false =>
  rw [if_neg apk] at p ⊢
  exact q false H1 g p
theorem akd (h:PTd K f tt ρ fun c=>if c=true then B true else PTd K f tu ρ B):PTd K f (tOr tt tu) ρ B:=fun σ H Q e q=>h σ H _ e fun c H1 g p=>by
 cases c with
 | true =>
  rw [if_pos rfl] at p ⊢
  exact q true H1 g p
 | false =>
  rw [if_neg apk] at p ⊢
  exact p σ H1 Q (e.mono g) fun b H2 g2 p2=>q b H2 (g.trans g2) p2
theorem ach (h:PTd K f tt ρ fun c=>B (!c)):PTd K f (al9 tt) ρ B:=fun σ H Q e q=>h σ H _ e fun c H1 g p=>q (!c) H1 g p
noncomputable def ao8:PyData->Option Bool
 | .none=>some false
 | .bool b=>some b
 | .int i=>some (i != 0)
 | .list ds=>some (!ds.isEmpty)
 | .tuple ds=>some (!ds.isEmpty)
 | _=>none
noncomputable def ake (K:apj) (ta:TE):TT:=fun σ H Q=>ta σ H fun x H'=>∃ k,ami K x H' k/\Q k H'
theorem amu {X:Cx} {a:Expr} (ha:PE X a ta) (he:∀ whole,isTrue a X.env whole=(do let v <- whole;standAt a.pos;holding [v] (truthy v))):PT X a (ake X.K ta):=ah8 ha he
theorem jw (h:PEd K f ta ρ fun d=>∃ k,ao8 d=some k/\B k):PTd K f (ake K ta) ρ B:=fun σ H Q e q=>h σ H _ e fun d v H' g r ⟨k,ed,p⟩=>by
 refine⟨k,?_,q k H' g p⟩
 cases d with
 | none=>rw [rep_none.mp r];cases ed;rfl
 | bool b=>rw [rep_bool.mp r];cases ed;rfl
 | int i=>rw [rep_int.mp r];cases ed;rfl
 | str x=>cases ed
 | list ds =>
  obtain⟨a,xs,rfl,h1,h2⟩:=rep_list.mp r
  cases ed
  refine .inl ⟨xs,(zi _ _).seq h1,?_⟩
  cases ds with
  | nil=>rw [reps_nil.mp h2];rfl
  | cons d ds=>obtain⟨x,r,rfl,_⟩:=reps_cons.mp h2;rfl
 | tuple ds =>
  obtain⟨a,xs,rfl,h1,h2⟩:=rep_tuple.mp r
  cases ed
  refine .inr (.inl ⟨xs,(zi _ _).seqT h1,?_⟩)
  cases ds with
  | nil=>rw [reps_nil.mp h2];rfl
  | cons d ds=>obtain⟨x,r,rfl,_⟩:=reps_cons.mp h2;rfl
 | dict _=>cases ed
theorem amv (h:PTd K f tt ρ fun c=>if c=true then PEd K f ta ρ P else PEd K f tb ρ P):PEd K f (tIf tt ta tb) ρ P:=fun σ H Q e q=>h σ H _ e fun c H1 g p=>by
 cases c with
 | true=>rw [if_pos rfl] at p ⊢;exact p σ H1 Q (e.mono g) fun d v H2 g2 r2 p2=>q d v H2 (g.trans g2) r2 p2
 | false=>rw [if_neg apk] at p ⊢;exact p σ H1 Q (e.mono g) fun d v H2 g2 r2 p2=>q d v H2 (g.trans g2) r2 p2
theorem acO (h:PEd K f ta ρ fun x=>∃ c,x=.bool c/\if c=true then PEd K f tb ρ P else P (.bool false)):PEd K f (ahZ ta tb) ρ P:=fun σ H Q e q=>h σ H _ e fun x v H1 g r ⟨c,ex,p⟩=>by
 subst ex
 refine⟨c,rep_bool.mp r,?_⟩
 cases c with
 | true=>rw [if_pos rfl] at p ⊢;exact p σ H1 Q (e.mono g) fun d v H2 g2 r2 p2=>q d v H2 (g.trans g2) r2 p2
 | false=>rw [if_neg apk] at p ⊢;exact q _ _ H1 g (rep_bool.mpr rfl) p
theorem afU {g g':Int->Int->Bool} (h:PEd K f ta ρ fun x=>∃ i,x=.int i/\PEd K f tb ρ fun y=>∃ j,y=.int j/\if g i j=true then PEd K f tc ρ fun z=>∃ k,z=.int k/\P (.bool (g' j k)) else P (.bool false)) :
  PEd K f (ah7 (rI0 fun i j=>.bl (g i j)) (rI0 fun i j=>.bl (g' i j)) ta tb tc) ρ P:=fun σ H Q e q=>h σ H _ e fun x v H1 g1 r1 ⟨i,ex,p1⟩=>p1 σ H1 _ (e.mono g1) fun y w H2 g2 r2 ⟨j,ey,p2⟩=>by
 subst ex ey
 refine⟨i,j,rep_int.mp r1,rep_int.mp r2,g i j,rfl,?_⟩
 by_cases hg:g i j=true
 ·rw [if_pos hg] at p2 ⊢
  exact p2 σ H2 _ ((e.mono g1).mono g2) fun z u H3 g3 r3 ⟨k,ez,p3⟩=>by
   subst ez
   exact⟨j,k,rep_int.mp r2,rep_int.mp r3,q _ _ H3 (g1.trans (g2.trans g3)) (rep_bool.mpr rfl) p3⟩
 ·rw [if_neg hg] at p2 ⊢
  exact q _ _ H2 (g1.trans g2) (rep_bool.mpr rfl) p2
theorem alz {t:TA} (h:PAd K f t ρ fun xs=>(∃ ds,xs=[.dat (.list ds)]/\P (.int ds.length)) \/ (∃ ds,xs=[.dat (.tuple ds)]/\P (.int ds.length))) :
  PEd K f (tCB (fun xs H Q=>∃ p ys,xs=[.ref p]/\(SqL K H p ys \/ SqT K H p ys)/\Q (.int ys.length) H) t) ρ P :=
 ag8 fun σ H Q e q=>h σ H Q e fun xs vs H' g r p=>by
  rcases p with⟨ds,rfl,p⟩ | ⟨ds,rfl,p⟩
  ·refine q _ vs H' g r ⟨_,rfl,fun vs H Q fo rs k=>?_⟩
   obtain⟨x,r,rfl,h2,h3⟩:=reps_cons.mp rs
   rw [reps_nil.mp h3]
   obtain⟨a,ys,rfl,s1,s2⟩:=rep_list.mp h2
   exact⟨a,ys,rfl,.inl ((zi _ _).seq s1),k (.int ds.length) _ H (.refl fo) (rep_int.mpr (by rw [s2.length])) p⟩
  ·refine q _ vs H' g r ⟨_,rfl,fun vs H Q fo rs k=>?_⟩
   obtain⟨x,r,rfl,h2,h3⟩:=reps_cons.mp rs
   rw [reps_nil.mp h3]
   obtain⟨a,ys,rfl,s1,s2⟩:=rep_tuple.mp h2
   exact⟨a,ys,rfl,.inr ((zi _ _).seqT s1),k (.int ds.length) _ H (.refl fo) (rep_int.mpr (by rw [s2.length])) p⟩
theorem aij {t:TA} (h:PAd K f t ρ fun xs=>∃ ns:List Int,xs=[.dat (.list (ns.map .int))]/\ns≠[]/\∀ M,M∈ns->(∀ b∈ns,M<=b)->P (.int M)) :
  PEd K f (tCB (fun xs H Q=>∃ a ns,xs=[.ref a]/\SqL K H a (ns.map V.int)/\ns≠[]/\∀ M,M∈ns->(∀ b∈ns,M<=b)->Q (.int M) H) t) ρ P :=
 ag8 fun σ H Q e q=>h σ H Q e fun xs vs H' g r ⟨ns,ex,hne,p⟩=>by
  subst ex
  refine q _ vs H' g r ⟨_,rfl,fun vs H Q fo rs k=>?_⟩
  obtain⟨x,r,rfl,h2,h3⟩:=reps_cons.mp rs
  rw [reps_nil.mp h3]
  obtain⟨a,ys,rfl,s1,s2⟩:=rep_list.mp h2
  rw [s2.ints] at s1
  exact⟨a,ns,rfl,(zi _ _).seq s1,hne,fun M h1 h2=>k (.int M) _ H (.refl fo) (rep_int.mpr rfl) (p M h1 h2)⟩
theorem aik {t:TA} (h:PAd K f t ρ fun xs=>∃ ns:List Int,xs=[.dat (.list (ns.map .int))]/\ns≠[]/\∀ M,M∈ns->(∀ b∈ns,b<=M)->P (.int M)) :
  PEd K f (tCB (fun xs H Q=>∃ a ns,xs=[.ref a]/\SqL K H a (ns.map V.int)/\ns≠[]/\∀ M,M∈ns->(∀ b∈ns,b<=M)->Q (.int M) H) t) ρ P :=
 ag8 fun σ H Q e q=>h σ H Q e fun xs vs H' g r ⟨ns,ex,hne,p⟩=>by
  subst ex
  refine q _ vs H' g r ⟨_,rfl,fun vs H Q fo rs k=>?_⟩
  obtain⟨x,r,rfl,h2,h3⟩:=reps_cons.mp rs
  rw [reps_nil.mp h3]
  obtain⟨a,ys,rfl,s1,s2⟩:=rep_list.mp h2
  rw [s2.ints] at s1
  exact⟨a,ns,rfl,(zi _ _).seq s1,hne,fun M h1 h2=>k (.int M) _ H (.refl fo) (rep_int.mpr rfl) (p M h1 h2)⟩
theorem ail {g:Int->Int->Int} {t:TA} (h:PAd K f t ρ fun xs=>∃ i j,xs=[.dat (.int i),.dat (.int j)]/\P (.int (g i j))):PEd K f (tCB (fun xs H Q=>∃ i j,xs=[.int i,.int j]/\Q (.int (g i j)) H) t) ρ P :=
 ag8 fun σ H Q e q=>h σ H Q e fun xs vs H' g' r ⟨i,j,ex,p⟩=>by
  subst ex
  refine q _ vs H' g' r ⟨_,rfl,fun vs H Q fo rs k=>?_⟩
  obtain⟨x,r,rfl,h2,h3⟩:=reps_cons.mp rs
  obtain⟨y,r',rfl,h4,h5⟩:=reps_cons.mp h3
  rw [reps_nil.mp h5,rep_int.mp h2,rep_int.mp h4]
  exact⟨i,j,rfl,k _ _ H (.refl fo) (rep_int.mpr rfl) p⟩
theorem abc {g:Int->Int} {t:TA} (h:PAd K f t ρ fun xs=>∃ i,xs=[.dat (.int i)]/\P (.int (g i))):PEd K f (tCB (fun xs H Q=>∃ i,xs=[.int i]/\Q (.int (g i)) H) t) ρ P :=
 ag8 fun σ H Q e q=>h σ H Q e fun xs vs H' g' r ⟨i,ex,p⟩=>by
  subst ex
  refine q _ vs H' g' r ⟨_,rfl,fun vs H Q fo rs k=>?_⟩
  obtain⟨x,r,rfl,h2,h3⟩:=reps_cons.mp rs
  rw [reps_nil.mp h3,rep_int.mp h2]
  exact⟨i,rfl,k _ _ H (.refl fo) (rep_int.mpr rfl) p⟩
end
section
variable {K:apj} {f:Fx} {ρ:zr} {D:DEnds} {te ta tb:TE} {tt:TT} {ts tu:TS}
theorem vp (p:D.nx ρ):PSd K f afL ρ D:=fun σ H E e n _ _ _=>n ρ σ H (.refl e.fd) e p
theorem zS (h:PSd K f ts ρ { D with nx:=fun ρ'=>PSd K f tu ρ' D }):PSd K f (qt ts tu) ρ D:=fun σ H E e n r b c =>
 h σ H { E with nx:=tu E } e (fun ρ' σ' H' g e' p=>p σ' H' E e' (fun ρ'' σ'' H'' g' e'' p'=>n ρ'' σ'' H'' (g.trans g') e'' p') (fun d v H'' g' r' p'=>r d v H'' (g.trans g') r' p') (fun ρ'' σ'' H'' g' e'' p'=>b ρ'' σ'' H'' (g.trans g') e'' p') (fun ρ'' σ'' H'' g' e'' p'=>c ρ'' σ'' H'' (g.trans g') e'' p')) r b c
theorem yB (h:PEd K f te ρ D.rt):PSd K f (aeS te) ρ D:=fun σ H E e n r b c=>h σ H _ e r
theorem acP (h:PEd K f te ρ fun _=>D.nx ρ):PSd K f (ab4 te) ρ D:=fun σ H E e n r b c=>h σ H _ e fun d v H' g _ p=>n ρ σ H' g (e.mono g) p
theorem acQ (h:PTd K f tt ρ fun b=>if b=true then PSd K f ts ρ D else PSd K f tu ρ D):PSd K f (ah1 tt ts tu) ρ D:=fun σ H E e n r b c=>h σ H _ e fun k H1 g p=>by
 cases k with
 | true =>
  rw [if_pos rfl] at p ⊢
  exact p σ H1 E (e.mono g) (fun ρ'' σ'' H'' g' e'' p'=>n ρ'' σ'' H'' (g.trans g') e'' p') (fun d v H'' g' r' p'=>r d v H'' (g.trans g') r' p') (fun ρ'' σ'' H'' g' e'' p'=>b ρ'' σ'' H'' (g.trans g') e'' p') (fun ρ'' σ'' H'' g' e'' p'=>c ρ'' σ'' H'' (g.trans g') e'' p')
 | false =>
  rw [if_neg apk] at p ⊢
  exact p σ H1 E (e.mono g) (fun ρ'' σ'' H'' g' e'' p'=>n ρ'' σ'' H'' (g.trans g') e'' p') (fun d v H'' g' r' p'=>r d v H'' (g.trans g') r' p') (fun ρ'' σ'' H'' g' e'' p'=>b ρ'' σ'' H'' (g.trans g') e'' p') (fun ρ'' σ'' H'' g' e'' p'=>c ρ'' σ'' H'' (g.trans g') e'' p')
noncomputable def PGd (K:apj) (f:Fx) (g:TG) (d:PyData) (ρ:zr) (R:zr->Prop):Prop:=∀ (σ:St) (H:Hp) (v:V) (Q:St->Hp->Prop),EnvOk K f ρ σ H->Rep K (hide H f) d v->(∀ ρ' σ' H',Goes f H H'->EnvOk K f ρ' σ' H'->R ρ'->Q σ' H')->g v σ H Q
noncomputable def aim (K:apj) (f:Fx) (g:TGs) (ds:List PyData) (ρ:zr) (R:zr->Prop):Prop:=∀ (σ:St) (H:Hp) (vs:List V) (Q:St->Hp->Prop),EnvOk K f ρ σ H->Reps K (hide H f) ds vs->(∀ ρ' σ' H',Goes f H H'->EnvOk K f ρ' σ' H'->R ρ'->Q σ' H')->g vs σ H Q
theorem zj {i:Nat} {d:PyData} {R:zr->Prop} (h:R (ρ.set i (some (.dat d)))):PGd K f (yG i) d ρ R:=fun σ H v Q e r q=>q _ _ H (.refl e.fd) (e.set i (x:=.dat d) r) h
theorem ya {R:zr->Prop} (h:R ρ):aim K f aj3 [] ρ R:=fun σ H vs Q e r q=>⟨reps_nil.mp r,q ρ σ H (.refl e.fd) e h⟩
theorem zt {g:TG} {gs:TGs} {d:PyData} {ds:List PyData} {R:zr->Prop} (h:PGd K f g d ρ fun ρ'=>aim K f gs ds ρ' R):aim K f (aa4 g gs) (d :: ds) ρ R:=fun σ H vs Q e r q=>by
 obtain⟨x,r',rfl,h2,h3⟩:=reps_cons.mp r
 exact⟨x,r',rfl,h σ H x _ e h2 fun ρ' σ' H' g' e' p=>p σ' H' r' Q e' (Reps.mono g'.1 ds r' h3) fun ρ'' σ'' H'' g'' e'' p'=>q ρ'' σ'' H'' (g'.trans g'') e'' p'⟩
theorem yD {n:Nat} {gs:TGs} {ds:List PyData} {R:zr->Prop} (hn:ds.length=n) (h:aim K f gs ds ρ R):PGd K f (ah2 K n gs) (.tuple ds) ρ R:=fun σ H v Q e r q=>by
 obtain⟨a,xs,rfl,h1,h2⟩:=rep_tuple.mp r
 exact⟨a,xs,rfl,(zi _ _).seqT h1,by rw [h2.length];exact hn,h σ H xs Q e h2 q⟩
theorem zV {g:TG} (h:PEd K f te ρ fun d=>PGd K f g d ρ D.nx):PSd K f (jD te g) ρ D:=fun σ H E e n r b c =>
 h σ H _ e fun d v H1 g1 r1 p1=>p1 σ H1 v _ (e.mono g1) r1 fun ρ' σ' H' g' e' p'=>n ρ' σ' H' (g1.trans g') e' p'
end
section
variable {K:apj} {f:Fx} {ρ:zr} {D:DEnds} {te ta tb:TE} {tt:TT} {ts tu:TS} {g:TG}
theorem ae6 {t:TA} (h:PAd K f t ρ fun xs=>∃ ds,xs=[.dat (.list ds)]/\∃ J:Nat->zr->Prop,J 0 ρ /\
   (∀ (i:Nat) d ρ',ds[i]?=some d->J i ρ'->PGd K f g (.tuple [.int i,d]) ρ' fun ρ2=>PSd K f ts ρ2 { D with nx:=J (i+1),ct:=J (i+1),bk:=D.nx })/\∀ ρ',J ds.length ρ'->D.nx ρ') :
  PSd K f (agU (afT K t) g ts) ρ D:=fun σ H E e n r b c=>h σ H _ e fun xs vs H1 g1 r1 ⟨ds,ex,J,j0,js,jd⟩=>by
 subst ex
 cases r1 with
 | cons rx r' =>
  cases r'
  obtain⟨a,xs,rfl,h1,h2⟩:=rep_list.mp rx
  have hl:=h2.length
  refine⟨a,rfl,⟨xs,(zi _ _).seq h1⟩,aie (K:=K) (a:=a) (xs:=xs) (fun i σ' H'=>∃ ρ',EnvOk K f ρ' σ' H'/\Goes f H H'/\Goes f H1 H'/\J i ρ') ⟨ρ,e.mono g1,g1,.refl g1.2,j0⟩ (fun i σ' H' _ ⟨ρ',e',g',g1',p⟩=>(zi _ _).seq (g1'.1.seq h1)) (fun i y σ' H' tp hy ⟨ρ',e',g',g1',p⟩ hn=>?_) fun σ' H' ⟨ρ',e',g',_,p⟩=>n ρ' σ' H' g' e' (jd ρ' (by rw [<-hl];exact p))⟩
  have hi:i<ds.length:=by rw [<-hl];exact (apm.mp hy).1
  obtain⟨z,hz,rz⟩:=h2.get (aph hi)
  rw [hy] at hz
  cases hz
  have gn:Goes f H' (upd H' tp (.tup [.int i,y])):=.of_same (yd hn _) e'.fd
  have rt:Rep K (hide (upd H' tp (.tup [.int i,y])) f) (.tuple [.int i,ds[i]]) (.ref tp):=rep_tuple.mpr ⟨tp,_,rfl,.of (zz (fresh_ne e'.fd hn) zw),.cons' (rep_int.mpr rfl) (.cons' (Rep.mono gn.1 _ _ (Rep.mono g1'.1 _ _ rz)) .nil')⟩
  refine js i _ ρ' (aph hi) p σ' _ _ _ (e'.mono gn) rt fun ρ2 σ2 H2 g2' e2 p2=>?_
  have g2:=gn.trans g2'
  exact p2 σ2 H2 _ e2 (fun ρ3 σ3 H3 g3 e3 p3=>⟨ρ3,e3,g'.trans (g2.trans g3),g1'.trans (g2.trans g3),p3⟩) (fun d v H3 g3 r3 p3=>r d v H3 (g'.trans (g2.trans g3)) r3 p3) (fun ρ3 σ3 H3 g3 e3 p3=>n ρ3 σ3 H3 (g'.trans (g2.trans g3)) e3 p3) (fun ρ3 σ3 H3 g3 e3 p3=>⟨ρ3,e3,g'.trans (g2.trans g3),g1'.trans (g2.trans g3),p3⟩)
end
noncomputable def frD (fr:List Nat) (ρ:zr):zr:=fr.map fun j=>(ρ[j]?).getD none
noncomputable def aad (own:Nat) (fr:List Nat) (ρ:zr):zr:=aqb own none++frD fr ρ
noncomputable abbrev Fx.with (f:Fx) (D:Addr):Fx:=⟨f.f,D :: f.M⟩
section
variable {K:apj} {f:Fx} {ρ:zr} {σ:St} {H H':Hp} {D:Addr} {o:HO}
theorem aci {own:Nat} {fr:List Nat} (e:EnvOk K f ρ σ H):EnvOk K f (aad own fr ρ) (jr own fr σ) H:=by
 refine⟨by unfold aad jr frD;simp,fun i x h=>?_,e.fd⟩
 unfold aad frD at h
 unfold jr
 by_cases hi:i<own
 ·rw [apx (by simpa using hi),arq] at h
  split at h <;> cases h
 ·rw [apz (by simpa using hi)] at h ⊢
  simp only [arJ,apt] at h ⊢
  cases hj:fr[i - own]? with
  | none=>rw [hj] at h;cases h
  | some j =>
   rw [hj] at h
   have h':(ρ[j]?).getD none=some x:=Option.some.inj h
   have hρ:ρ[j]?=some (some x):=by
    cases q:ρ[j]? with
    | none=>rw [q] at h';cases h'
    | some w=>rw [q] at h';exact congrArg some h'
   obtain⟨v,h1,h2⟩:=e.get j x hρ
   exact⟨v,by simp [h1],h2⟩
theorem yf:hide (upd H D o) (f.with D)=hide H (f.with D):=by
 funext b
 unfold hide
 by_cases hb:f.f=some b \/ b∈D :: f.M
 ·rw [if_pos hb,if_pos hb]
 ·rw [if_neg hb,if_neg hb]
  have:b≠D:=fun z=>hb (.inr (z▸apo))
  exact zv this
theorem same_with:Same (hide H (f.with D)) (hide H f):=fun b o h=>by
 obtain⟨h1,h2⟩:=zI h
 exact zz (fun z=>h1 (z.elim .inl fun z=>.inr (apl _ z))) h2
theorem jS (hn:H D=none):Same (hide H f) (hide (upd H D o) (f.with D)):=fun b u h=>by
 obtain⟨h1,h2⟩:=zI h
 have hb:b≠D:=zJ h2 hn
 exact zz (fun z=>z.elim (fun z=>h1 (.inl z)) fun z=>(apq.mp z).elim hb fun z=>h1 (.inr z)) (by rw [zv hb];exact h2)
theorem ain (h:FOk f H) (hn:H D=none):FOk (f.with D) (upd H D o) :=
 ⟨fun p e=>let⟨a,b,h1,h2⟩:=h.fd p e;⟨a,b,by rw [zv (zJ h1 hn)];exact h1,h2⟩,fun b hb=>by
  rcases apq.mp hb with rfl | hb
  ·exact⟨_,zw⟩
  ·obtain⟨o',h1⟩:=h.mm b hb
   exact⟨o',by rw [zv (zJ h1 hn)];exact h1⟩,fun p e hp=>by
  rcases apq.mp hp with rfl | hp
  ·exact fresh_ne h hn (.inl e)
  ·exact h.nm p e hp⟩
theorem acR (e:EnvOk K f ρ σ H) (hn:H D=none):EnvOk K (f.with D) ρ σ (upd H D o) :=
 ⟨e.len,fun i x h=>let⟨v,h1,h2⟩:=e.get i x h;⟨v,h1,by
  cases x with
  | dat d=>exact Rep.mono (jS hn) d v h2
  | feed=>exact h2
  | own k =>
   obtain⟨p,h3,h4⟩:=h2
   refine⟨p,?_,h4⟩
   show (D :: f.M).reverse[k]?=some p
   rw [aqW,apx (apm.mp h3).1]
   exact h3
  | exc C =>
   obtain⟨a,h3,h4⟩:=h2
   exact⟨a,h3,jS hn _ _ h4⟩
  | mon φ=>exact fun H' s=>h2 H' ((jS hn).trans s)⟩,ain e.fd hn⟩
theorem afV (hD:f.f≠some D) (e:EnvOk K (f.with D) ρ σ H):EnvOk K (f.with D) ρ σ (upd H D o) :=
 ⟨e.len,fun i x h=>let⟨v,h1,h2⟩:=e.get i x h;⟨v,h1,by
  cases x with
  | dat d =>
   have h2':Rep K (hide H (f.with D)) d v:=h2
   show Rep K (hide (upd H D o) (f.with D)) d v
   rw [yf];exact h2'
  | feed=>exact h2
  | own k=>exact h2
  | exc C =>
   obtain⟨a,h3,h4⟩:=h2
   refine⟨a,h3,?_⟩
   rw [yf]
   exact h4
  | mon φ =>
   intro H' s
   rw [yf] at s
   exact h2 H' s⟩,⟨fun p ep=>let⟨a,b,h1,h2⟩:=e.fd.fd p ep;⟨a,b,by rw [zv (fun z=>hD (by rw [<-z];exact ep))];exact h1,h2⟩,fun b hb=>by
   by_cases hb':b=D
   ·subst hb';exact⟨_,zw⟩
   ·rw [zv hb'];exact e.fd.mm b hb,e.fd.nm⟩⟩
end
section
variable {K:apj} {f:Fx} {ρ:zr} {P:PyData->Prop} {te tl:TE} {tt:TT} {g:TG} {own:Nat} {fr:List Nat}
structure CSt (K:apj) (f:Fx) (D:Addr) (H2:Hp) (ρ':zr) (es:List PyData) (σ:St) (H:Hp):Prop where
 env:EnvOk K (f.with D) ρ' σ H
 sm:Same (hide H2 (f.with D)) (hide H (f.with D))
 kp:∀ b∈f.M,H b=H2 b
 lst:∃ vs,H D=some (.lst vs)/\Reps K (hide H (f.with D)) es vs
theorem CSt.go {D:Addr} {H2 H H':Hp} {ρ':zr} {es:List PyData} {σ:St} (c:CSt K f D H2 ρ' es σ H) (gg:Goes (f.with D) H H') {ρ2:zr} {σ2:St} (e2:EnvOk K (f.with D) ρ2 σ2 H'):CSt K f D H2 ρ2 es σ2 H' :=
 ⟨e2,c.sm.trans gg.sm,fun b hb=>(gg.kp b (apl _ hb)).trans (c.kp b hb),let⟨vs,h1,h2⟩:=c.lst;⟨vs,(gg.kp D apo).trans h1,Reps.mono gg.sm es vs h2⟩⟩
theorem CSt.put {D:Addr} {H2 H:Hp} {ρ':zr} {es:List PyData} {σ:St} {d:PyData} {v:V} {vs:List V} (hD:f.f≠some D) (hM:D∉f.M) (c:CSt K f D H2 ρ' es σ H) (h1:H D=some (.lst vs)) (h2:Reps K (hide H (f.with D)) es vs) (r:Rep K (hide H (f.with D)) d v) :
  CSt K f D H2 ρ' (es++[d]) σ (upd H D (.lst (vs++[v]))) :=
 ⟨afV hD c.env,by rw [yf];exact c.sm,fun b hb=>(zv (fun (z:b=D)=>hM (z▸hb))).trans (c.kp b hb),⟨_,zw,by rw [yf];exact h2.snoc r⟩⟩
theorem ag9 {D:Addr} {H2 H:Hp} {ρ':zr} {es:List PyData} {σ:St} {d:PyData} {v:V} {W:St->Hp->Prop} {R:zr->List PyData->Prop} (hD:f.f≠some D) (hM:D∉f.M) (c:CSt K f D H2 ρ' es σ H) (hl:es.length<1000) (r:Rep K (hide H (f.with D)) d v)
  (h:PGd K (f.with D) g d ρ' fun ρ2=>PTd K (f.with D) tt ρ2 fun b=>if b=true then PEd K (f.with D) te ρ2 fun e=>R ρ2 (es++[e]) else R ρ2 es)
  (hW:∀ ρ2 es2 σ2 H',CSt K f D H2 ρ2 es2 σ2 H'->R ρ2 es2->W σ2 H') :
  g v σ H fun σ2 H3=>tt σ2 H3 fun b H4=>if b=true then qR D te σ2 H4 W else W σ2 H4:=by
 refine h σ H v _ c.env r fun ρ2 σ2 H3 g3 e3 p3=>?_
 have c3:=c.go g3 e3
 refine p3 σ2 H3 _ e3 fun b H4 g4 p4=>?_
 have c4:=c3.go g4 (e3.mono g4)
 cases b with
 | false =>
  rw [if_neg apk] at p4 ⊢
  exact hW _ _ _ _ c4 p4
 | true =>
  rw [if_pos rfl] at p4 ⊢
  refine p4 σ2 H4 _ (e3.mono g4) fun e u H5 g5 r5 p5=>?_
  have c5:=c4.go g5 ((e3.mono g4).mono g5)
  obtain⟨vs,h1,h2⟩:=c5.lst
  exact⟨vs,h1,zY (by rw [h2.length];omega),hW _ _ _ _ (c5.put hD hM h1 h2 r5) p5⟩
theorem adY {D:Addr} {H1 H:Hp} {ρ':zr} {es:List PyData} {σ σ':St} (hn:H1 D=none) (fo:FOk f H1) (c:CSt K f D (upd H1 D (.lst [])) ρ' es σ H):Goes f H1 H/\Rep K (hide H f) (.list es) (.ref D):=by
 obtain⟨vs,h1,h2⟩:=c.lst
 have nD:=fresh_ne fo hn
 refine⟨⟨((jS hn).trans c.sm).trans same_with,⟨c.env.fd.fd,fun b hb=>c.env.fd.mm b (apl _ hb),fun p e hp=>c.env.fd.nm p e (apl _ hp)⟩,fun b hb=>?_⟩,rep_list.mpr ⟨D,vs,rfl,.of (zz nD h1),Reps.mono same_with es vs h2⟩⟩
 rw [c.kp b hb,zv]
 obtain⟨o,h3⟩:=fo.mm b hb
 exact zJ h3 hn
theorem abd {D:Addr} {H1:Hp} {σ:St} (hn:H1 D=none) (e:EnvOk K f ρ σ H1):CSt K f D (upd H1 D (.lst [])) (aad own fr ρ) [] (jr own fr σ) (upd H1 D (.lst [])) :=
 ⟨acR (aci e) hn,Same.refl _,fun _ _=>rfl,⟨[],zw,.nil'⟩⟩
theorem akf {t:TA} (h:PAd K f t ρ fun xs=>∃ j:Int,xs=[.dat (.int j)]/\j<=1000/\-1000<=j/\∃ R:Nat->zr->List PyData->Prop,R 0 (aad own fr ρ) [] /\
   (∀ D (i:Nat) ρ' es,(i:Int)<j->R i ρ' es->PGd K (f.with D) g (.int i) ρ' fun ρ2=>PTd K (f.with D) tt ρ2 fun b=>if b=true then PEd K (f.with D) te ρ2 fun e=>R (i+1) ρ2 (es++[e]) else R (i+1) ρ2 es) /\
   (∀ i ρ' es,R i ρ' es->es.length<=i)/\∀ ρ' es,R j.toNat ρ' es->P (.list es)) :
  PEd K f (qM (afN t) own fr g tt fun D=>qR D te) ρ P:=fun σ H Q e q=>h σ H _ e fun xs vs H1 g1 r1 ⟨j,ex,b1,b2,R,r0,rs,rl,re⟩=>by
 subst ex
 cases r1 with
 | @cons _ v0 _ _ rx r' =>
  cases r'
  have rx':Rep K (hide H1 f) (.int j) v0:=rx
  refine⟨j,by rw [rep_int.mp rx'],by omega,by omega,fun D hn=>?_⟩
  have nD:=fresh_ne g1.2 hn
  have hD:f.f≠some D:=fun z=>nD (.inl z)
  have hM:D∉f.M:=fun z=>nD (.inr z)
  have e1:=e.mono g1
  refine⟨fun i m σ' H'=>∃ ρ' es,CSt K f D (upd H1 D (.lst [])) ρ' es σ' H'/\R i ρ' es/\i<=j.toNat/\m+i=j.toNat,⟨j.toNat,_,[],abd hn e1,r0,ap2 _,rfl⟩,fun i m σ' H' ⟨ρ',es,c,p,hi,hm⟩=>?_⟩
  by_cases hlt:i<j.toNat
  ·refine .inr ⟨hlt,fun x H3 hy=>?_⟩
   obtain⟨rfl,rfl⟩:=hy
   have hz:(0:Int)+(i:Int)=(i:Int):=Int.zero_add _
   rw [hz]
   refine ag9 (R:=R (i+1)) hD hM c (by have:=rl i ρ' es p;omega) ((rep_int (K:=K)).mpr rfl) (rs D i ρ' es (by omega) p) fun ρ2 es2 σ2 H4 c2 p2=>?_
   exact⟨m - 1,by omega,ρ2,es2,c2,p2,by omega,by omega⟩
  ·have ei:i=j.toNat:=by omega
   subst ei
   obtain⟨ge,rep⟩:=adY (σ':=σ') hn g1.2 c
   exact .inl ⟨apr _,q _ _ H' (g1.trans ge) rep (re ρ' es p)⟩
theorem adZ {t:TA} (h:PAd K f t ρ fun xs=>∃ j:Int,xs=[.dat (.int j)]/\j<=1000/\-1000<=j/\∃ R:Nat->PyData->Prop,
   (∀ D (i:Nat),(i:Int)<j->PEd K (f.with D) te (some (.dat (.int i)) :: frD fr ρ) (R i))/\∀ es:List PyData,es.length=j.toNat->(∀ (i:Nat) e,es[i]?=some e->R i e)->P (.list es)) :
  PEd K f (qM (afN t) 1 fr (yG 0) ag2 fun D=>qR D te) ρ P :=
 akf fun σ H Q e q=>h σ H Q e fun xs vs H' g' r' ⟨j,ex,b1,b2,R,rs,re⟩=>by
  refine q xs vs H' g' r' ⟨j,ex,b1,b2,fun i ρ' es=>(∃ x,ρ'=x :: frD fr ρ)/\es.length=i/\∀ (k:Nat) e,es[k]?=some e->R k e,⟨⟨none,rfl⟩,rfl,fun k e h=>by simp at h⟩,fun D i ρ' es hi p=>?_,fun i ρ' es p=>arw p.2.1,fun ρ' es p=>re es p.2.1 p.2.2⟩
  obtain⟨⟨x,rfl⟩,hl,hp⟩:=p
  refine zj ?_
  intro σ H Q e q
  refine q true H (.refl e.fd) ?_
  dsimp only
  rw [if_pos rfl]
  refine (rs D i hi).imp fun d hd=>⟨⟨_,rfl⟩,by rw [apA,hl];rfl,fun k e hk=>?_⟩
  by_cases hkl:k<es.length
  ·rw [apx hkl] at hk;exact hp k e hk
  ·rw [apz (by omega)] at hk
   have hk0:k - es.length=0:=by
    have:=(apm.mp hk).1
    simp at this;omega
   rw [hk0] at hk
   cases hk
   have:k=i:=by omega
   subst this
   exact hd
end
section
variable {K:apj} {f:Fx} {ρ:zr} {D:DEnds} {te:TE} {i:Nat}
theorem ad0 {σ:St} {H:Hp} {p:Addr} {a b:Int} (e:EnvOk K f ρ σ H) (ef:f.f=some p) (h0:0<=a) (h1:0<=b) (h2:b<2147483647):Goes f H (upd H p (.lst [.int a,.int b])) :=
 have hM:=e.fd.nm p ef
 ⟨fun x o h=>by
  obtain⟨n,hx⟩:=zI h
  exact zz n (by rw [zv (fun z=>n (.inl (by rw [z];exact ef)))];exact hx),
 ⟨fun q eq=>by
   rw [ef] at eq;cases eq
   exact⟨a,b,zw,h0,h1,h2⟩,fun x hx=>by
   by_cases hxp:x=p
   ·subst hxp;exact absurd hx hM
   ·rw [zv hxp];exact e.fd.mm x hx,e.fd.nm⟩,
fun x hx=>zv (fun z=>hM (z▸hx))⟩
theorem afW (hi:ρ[i]?=some (some .feed)) (h:PEd K f te ρ fun d=>∃ a:Int,d=.int a/\0<=a/\D.nx ρ):PSd K f (jD te (acH (yj i) (tC (.int 0)) aat)) ρ D:=fun σ H E e n r b c=>h σ H _ e fun d v H1 g1 r1 ⟨a,ed,h0,p⟩=>by
 subst ed
 obtain⟨u,h1,q,ef,eu⟩:=e.get i _ hi
 obtain⟨a',b',hf,c1,c2,c3⟩:=g1.2.fd q ef
 refine⟨u,h1,q,_,0,0,eu,rfl,hf,rfl,?_⟩
 rw [rep_int.mp r1]
 have g2:Goes f H1 (upd H1 q (.lst [.int a,.int b'])):=ad0 (e.mono g1) ef h0 c2 c3
 exact n ρ σ _ (g1.trans g2) ((e.mono g1).mono g2) p
theorem afX (hi:ρ[i]?=some (some .feed)) (h:PEd K f te ρ fun d=>∃ a:Int,d=.int a/\0<=a/\a<2147483647/\D.nx ρ):PSd K f (jD te (acH (yj i) (tC (.int 1)) aat)) ρ D:=fun σ H E e n r b c=>h σ H _ e fun d v H1 g1 r1 ⟨a,ed,h0,h0',p⟩=>by
 subst ed
 obtain⟨u,h1,q,ef,eu⟩:=e.get i _ hi
 obtain⟨a',b',hf,c1,c2,c3⟩:=g1.2.fd q ef
 refine⟨u,h1,q,_,1,1,eu,rfl,hf,rfl,?_⟩
 rw [rep_int.mp r1]
 have g2:Goes f H1 (upd H1 q (.lst [.int a',.int a])):=ad0 (e.mono g1) ef c1 h0 h0'
 exact n ρ σ _ (g1.trans g2) ((e.mono g1).mono g2) p
end
theorem vL {X:Cx} {x:Str} {i:Int} {t:Tok} {pos:Pos} (hg:Gl X x) (hm:X.mg x=some (.int i t)) (hd:(x == ("__debug__":Str))=false:=by decide):PE X (.Name x pos) (tC (.int i)):=aj1 hg hm ⟨t,rfl⟩ hd
noncomputable def qz (N:List Str) (xs:List DV):zr:=xs.map some++aqb (N.length - xs.length) none
theorem qh {K:apj} {f:Fx} {H:Hp} {N:List Str} {xs:List DV} {vs:List V} (r:RepVs K f H xs vs) (fo:FOk f H):EnvOk K f (qz N xs) (start N vs) H:=by
 have hl:=r.length
 refine⟨by unfold qz start;simp [hl],fun i x h=>?_,fo⟩
 unfold qz at h
 unfold start
 have get:∀ {xs:List DV} {vs:List V} {i:Nat} {x:DV},RepVs K f H xs vs->xs[i]?=some x->∃ v,vs[i]?=some v/\RepV K f H x v:=by
  intro xs vs i x r
  induction r generalizing i with
  | nil=>intro h;simp at h
  | cons r1 r2 ih =>
   intro h
   cases i with
   | zero=>simp at h;subst h;exact⟨_,rfl,r1⟩
   | succ i=>simp at h;obtain⟨v,h1,h2⟩:=ih h;exact⟨v,by simpa using h1,h2⟩
 by_cases hi:i<xs.length
 ·rw [apx (by simpa using hi),apt] at h
  cases q:xs[i]? with
  | none=>rw [q] at h;cases h
  | some y =>
   rw [q] at h
   cases h
   obtain⟨v,h1,h2⟩:=get r q
   exact⟨v,by rw [apx (by simp;omega),apt,h1];rfl,h2⟩
 ·rw [apz (by simpa using hi),arq] at h
  split at h <;> cases h
structure Def (K:apj) (mg:Str->Option Value) (x:Str) (st:Stmt) (ps:List Str):Prop where
 ex:∃ (f:Addr) (fd:FuncData),Fun K x x st f fd/\Binds K fd ps []/\mg x=some (.ref f)
structure FnIn (P:Program) (w:World) (K:apj) (mg:Str->Option Value) (base:Heap) (k:Nat) (x:Str) (ps:List Str) (sp:Sp):Prop where
 ex:∃ (f:Addr) (fd:FuncData),FnOk P w K mg base CX0 k f fd ps sp/\mg x=some (.ref f)/\aqo K (.ref f)=true/\Binds K fd ps []
section
variable {P:Program} {w:World} {K:apj} {mg:Str->Option Value} {base:Heap} {j k n:Nat} {x:Str} {st:Stmt} {ps N:List Str} {γ:Type} {pre:γ->List DV->Prop} {post:γ->PyData->Prop} {sp:Sp}
theorem FnIn.mono (h:FnIn P w K mg base j x ps sp) (hk:j<=k):FnIn P w K mg base k x ps sp :=
 let⟨f,fd,a,b,c,d⟩:=h.ex;⟨f,fd,a.mono hk,b,c,d⟩
theorem Def.ok (F:Def K mg x st ps) (S:FnScope N ps (zk st)) (hn:ps.length=n)
  (h:∀ (fa:Addr) (cdv:Value) (A:Around) (outer:List Env) (s:Shared) (H:Hp) (E:XK),Room k (A.deeper (envOfC x (zk st) s.heap.objs.size fa cdv)) ->
   ∃ t,PSs (yn CX0 P w K mg base N x (zk st) fa cdv A outer s H E).nox (yC st) t/\∀ (f:Fx) (xs:List DV) (c:γ),xs.length=n->pre c xs->PSd K f t (qz N xs) { nx:=fun _=>post c .none,rt:=post c }) :
  FnIn P w K mg base (k+1) x ps (spD K n pre post):=by
 obtain⟨fa,fd,F1,F2,F3⟩:=F.ex
 refine⟨fa,fd,F1.ok S (fun vs H Q E h=>?_) (fun cdv A outer s H vs Q E hr hs=>?_),F3,F1.kp,F2⟩
 ·obtain⟨f,xs,c,r,hl,_⟩:=h
  rw [r.length,hl,hn]
 ·obtain⟨f,xs,c,r,hl,fo,hp,q⟩:=hs
  obtain⟨t,h1,h2⟩:=h fa cdv A outer s H E hr
  exact⟨t,h1,h2 f xs c hl hp (start N vs) H _ (qh r fo) (fun _ _ H' g _ p=>q .none _ H' g (rep_none.mpr rfl) p) (fun d v H' g r p=>q d v H' g r p) (fun _ _ _ _ _ z=>z.elim) (fun _ _ _ _ _ z=>z.elim)⟩
theorem Def.raw (F:Def K mg x st ps) (S:FnScope N ps (zk st)) (len:∀ vs H Q E,sp vs H Q E->vs.length=ps.length)
  (h:∀ (fa:Addr) (cdv:Value) (A:Around) (outer:List Env) (s:Shared) (H:Hp) (vs:List V) (Q:VK) (E:XK),Room k (A.deeper (envOfC x (zk st) s.heap.objs.size fa cdv))->sp vs H Q E ->
   ∃ t,PSs (yn CX0 P w K mg base N x (zk st) fa cdv A outer s H E).nox (yC st) t/\t { nx:=fun _ H'=>Q .non H',rt:=Q } (start N vs) H) :
  FnIn P w K mg base (k+1) x ps sp:=by
 obtain⟨fa,fd,F1,F2,F3⟩:=F.ex
 exact⟨fa,fd,F1.ok S len (fun cdv A outer s H vs Q E hr hs=>h fa cdv A outer s H vs Q E hr hs),F3,F1.kp,F2⟩
theorem zg {X:Cx} {e:Expr} {es:List Expr} {t:TA} {p pos:Pos} (G:FnIn X.prog X.w X.K X.mg X.base k x ps sp) (hr:Room k X.A) (hg:Gl X x) (ha:PA X (e :: es) t) (hdb:(x == ("__debug__":Str))=false:=by decide)
  (he:starEach (e :: es) X.env=(false,eval e X.env) :: starEach es X.env:=by rfl) (hpl:(backTo pos (starEach es X.env)).any (·.1)=false:=by rfl):PE X (.Call (.Name x p) (e :: es) [] pos) (ab7 sp [] E0 t):=by
 obtain⟨f,fd,a,b,c,d⟩:=G.ex
 exact aj7 a hr hg b c d .nil anS ha hdb he hpl
end
section
variable {K:apj} {f:Fx} {ρ:zr} {σ:St} {H:Hp} {E:Ends} {ts tu:TS} {D:DEnds}
theorem aio (h:PSd K f ts ρ D) (e:EnvOk K f ρ σ H) (hn:∀ ρ' σ' H',Goes f H H'->EnvOk K f ρ' σ' H'->D.nx ρ'->tu E σ' H') (hr:∀ d v H',Goes f H H'->Rep K (hide H' f) d v->D.rt d->E.rt v H') (hb:∀ ρ,¬ D.bk ρ) (hc:∀ ρ,¬ D.ct ρ):qt ts tu E σ H :=
 h σ H { E with nx:=tu E } e hn hr (fun ρ' _ _ _ _ p=>(hb ρ' p).elim) (fun ρ' _ _ _ _ p=>(hc ρ' p).elim)
theorem ad1 {ta:TA} {Q:VK} {R:List PyData->Prop} (h:PAd K f ta ρ fun xs=>∃ ds,jO xs=some ds/\ds.length<=1000/\R ds) (e:EnvOk K f ρ σ H)
  (q:∀ p ds vs H1,Goes f H H1->H1 p=none->Reps K (hide H1 f) ds vs->R ds->Q (.ref p) (upd H1 p (.lst vs))):agY ta σ H Q :=
 h σ H _ e fun xs vs H1 g1 r1 ⟨ds,ea,hl,p⟩=>by
  have rs:=qy r1 ea
  exact⟨by rw [rs.length];exact aqj (zY hl),fun l hn=>q l ds vs H1 g1 hn rs p⟩
end
section
variable {K:apj} {f:Fx} {ρ:zr}
theorem Goes.free {H H':Hp} {p:Addr} (g:Goes f H H') (fo:FOk f H) (h:H' p=none):H p=none:=by
 cases q:H p with
 | none=>rfl
 | some o =>
  by_cases hh:f.f=some p \/ p∈f.M
  ·rcases hh with hh | hh
   ·obtain⟨a,b,h1,_⟩:=g.ok.fd p hh
    rw [h] at h1;cases h1
   ·rw [g.kp p hh,q] at h;cases h
  ·have:=zI (g.sm p o (zz hh q))
   rw [h] at this;cases this.2
noncomputable def PEdL (K:apj) (f:Fx) (te:TE) (ρ:zr) (P:List PyData->Prop):Prop:=∀ (σ:St) (H:Hp) (Q:VK),EnvOk K f ρ σ H ->
 (∀ es D vs H',Goes f H H'->H D=none->H' D=some (.lst vs)->Reps K (hide H' f) es vs->P es->Q (.ref D) H')->te σ H Q
theorem PEdL.ped {te:TE} {P:PyData->Prop} (h:PEdL K f te ρ fun es=>P (.list es)):PEd K f te ρ P:=fun σ H Q e q=>h σ H Q e fun es D vs H' g n h1 r p =>
 q (.list es) _ H' g (rep_list.mpr ⟨D,vs,rfl,.of (zz (fresh_ne e.fd n) h1),r⟩) p
theorem anU {t:TA} {P:List PyData->Prop} (h:PAd K f t ρ fun xs=>∃ ds,jO xs=some ds/\ds.length<=1000/\P ds):PEdL K f (agY t) ρ P:=fun σ H Q e q =>
 ad1 h e fun p ds vs H1 g1 hn rs hp=>by
  have g2:Goes f H1 (upd H1 p (.lst vs)):=.of_same (yd hn _) g1.2
  exact q ds p vs _ (g1.trans g2) (g1.free e.fd hn) zw (Reps.mono g2.1 ds vs rs) hp
end
structure TabAt (H:Hp) (a:Addr) (as:List Addr) (rows:List (List Int)):Prop where
 top:H a=some (.lst (as.map .ref))
 nd:(a :: as).Nodup
 len:as.length=rows.length
 row:∀ (i:Nat) x r,as[i]?=some x->rows[i]?=some r->H x=some (.lst (r.map .int))
noncomputable def anV (K:apj) (f:Fx) (te:TE) (ρ:zr) (P:List (List Int)->Prop):Prop:=∀ (σ:St) (H:Hp) (Q:VK),EnvOk K f ρ σ H ->
 (∀ rows a as H',Goes f H H'->H a=none->(∀ x∈as,H x=none)->TabAt H' a as rows->P rows->Q (.ref a) H')->te σ H Q
section
variable {K:apj} {f:Fx} {ρ:zr} {te tl:TE} {fr:List Nat}
theorem aip {J:It} {n:Nat} {dd:Nat->PyData} {R:Nat->List Int->Prop} {D:Addr} {H1:Hp} {σ:St} {Q:VK} (hn:H1 D=none) (e1:EnvOk K f ρ σ H1) (hz:n<=1000)
  (hJ:∀ (i:Nat) H',Same (hide H1 f) (hide H' (f.with D))->(i<n->J.go i H'/\∀ x H3,J.yld i H' x H3->H3=H'/\Rep K (hide H' (f.with D)) (dd i) x)/\(i=n->J.stop i H'))
  (hte:∀ i,i<n->PEdL K (f.with D) te (some (.dat (dd i)) :: frD fr ρ) fun es=>∃ ns:List Int,es=ns.map .int/\R i ns)
  (hQ:∀ rows as H',Goes f H1 H'->(∀ x∈as,H1 x=none)->TabAt H' D as rows->rows.length=n->(∀ (k:Nat) r,rows[k]?=some r->R k r)->Q (.ref D) H') :
  acf J (yG 0) ag2 (qR D te) (jr 1 fr σ) (upd H1 D (.lst [])) fun _ H2=>Q (.ref D) H2:=by
 have nD:=fresh_ne e1.fd hn
 have hD:f.f≠some D:=fun z=>nD (.inl z)
 have hM:D∉f.M:=fun z=>nD (.inr z)
 have fo2:FOk (f.with D) (upd H1 D (.lst [])):=ain e1.fd hn
 refine⟨fun i m σ' H'=>i<=n/\m+i=n/\∃ y as rows,EnvOk K (f.with D) (y :: frD fr ρ) σ' H'/\Same (hide (upd H1 D (.lst [])) (f.with D)) (hide H' (f.with D))/\(∀ b∈f.M,H' b=(upd H1 D (.lst [])) b)/\(∀ p,H' p=none->(upd H1 D (.lst [])) p=none) /\
   H' D=some (.lst (as.map .ref))/\as.Nodup/\D∉as/\(∀ x∈as,(upd H1 D (.lst [])) x=none)/\as.length=i/\rows.length=i/\(∀ (k:Nat) x r,as[k]?=some x->rows[k]?=some r->H' x=some (.lst (r.map .int)))/\∀ (k:Nat) r,rows[k]?=some r->R k r,
  ⟨n,ap2 _,rfl,none,[],[],acR (aci (own:=1) (fr:=fr) e1) hn,Same.refl _,fun _ _=>rfl,fun _ h=>h,zw,aqU,by simp,(fun x hx=>by cases hx),rfl,rfl,(fun k x r h=>by simp at h),fun k r h=>by simp at h⟩,?_⟩
 rintro i m σ' H' ⟨hi,hm,y,as,rows,env,sm,kp,fre,top,nd,nDas,asf,la,lr,rw',hR⟩
 have smk:Same (hide H1 f) (hide H' (f.with D)):=(jS hn).trans sm
 obtain⟨jg,js⟩:=hJ i H' smk
 by_cases hlt:i<n
 ·obtain⟨go,yl⟩:=jg hlt
  refine .inr ⟨go,fun x H3 hy=>?_⟩
  obtain⟨rfl,rx⟩:=yl x H3 hy
  unfold yG ag2
  dsimp only
  rw [if_pos rfl]
  unfold qR
  have env2:EnvOk K (f.with D) (some (.dat (dd i)) :: frD fr ρ) (σ'.set 0 (some x)) H3:=env.set 0 (x:=.dat (dd i)) rx
  refine hte i hlt _ H3 _ env2 fun es Dn vs H4 g4 n4 h4 r4 ⟨ns,hes,hRn⟩=>?_
  subst hes
  have evs:vs=ns.map V.int:=r4.ints
  subst evs
  have hDn:Dn≠D:=fun z=>by rw [z,top] at n4;cases n4
  have keep:∀ x∈as,∀ o,H3 x=some o->H4 x=some o:=fun x hx o ho=>(zI (g4.sm x o (zz (fresh_ne fo2 (asf x hx)) ho))).2
  have hasome:∀ x∈as,∃ o,H3 x=some o:=fun x hx=>by
   obtain⟨k,hk,ek⟩:=aq0 hx
   exact⟨_,rw' k x _ (by rw [aph hk,ek]) (aph (by omega))⟩
  have nDn:Dn∉as:=fun hx=>by
   obtain⟨o,ho⟩:=hasome Dn hx
   rw [n4] at ho;cases ho
  refine⟨as.map .ref,(g4.kp D apo).trans top,zY (by rw [api];omega),m - 1,by omega,by omega,by omega,some (.dat (dd i)),as++[Dn],rows++[ns],afV hD (env2.mono g4),?_,?_,?_,?_,?_,?_,?_,?_,?_,?_,?_⟩
  ·rw [yf (H:=H4)];exact sm.trans g4.sm
  ·exact fun b hb=>(zv (fun (z:b=D)=>hM (z▸hb))).trans ((g4.kp b (apl _ hb)).trans (kp b hb))
  ·intro p hp
   by_cases hpd:p=D
   ·subst hpd;rw [zw] at hp;cases hp
   ·rw [zv hpd] at hp
    exact fre p (g4.free env2.fd hp)
  ·rw [zw,apQ];rfl
  ·exact aqF.mpr ⟨nd,by simp,fun x hx z hz=>by
    have:z=Dn:=by simpa using hz
    subst this
    exact fun e=>nDn (e▸hx)⟩
  ·simp [nDas,arh hDn]
  ·intro x hx
   rcases apC.mp hx with hx | hx
   ·exact asf x hx
   ·have:x=Dn:=by simpa using hx
    subst this
    exact fre _ n4
  ·simp [la]
  ·simp [lr]
  ·intro k x r hx hr
   have hxm:=apv hx
   have hxD:x≠D:=by
    rintro rfl
    rcases apC.mp hxm with hx' | hx'
    ·exact nDas hx'
    ·have:x=Dn:=by simpa using hx'
     exact hDn this.symm
   rw [zv hxD]
   by_cases hk:k<as.length
   ·rw [apx hk] at hx
    rw [apx (by omega)] at hr
    exact keep x (apv hx) _ (rw' k x r hx hr)
   ·have hk':k=as.length:=by
     have:=(apm.mp hx).1
     simp at this;omega
    subst hk'
    rw [apz (apr _)] at hx
    rw [apz (by omega)] at hr
    simp only [aq4,ar4] at hx
    rw [la,<- lr,aq4,ar4] at hr
    cases hx
    cases hr
    exact h4
  ·intro k r hr
   by_cases hk:k<rows.length
   ·rw [apx hk] at hr;exact hR k r hr
   ·have hk':k=rows.length:=by
     have:=(apm.mp hr).1
     simp at this;omega
    subst hk'
    rw [apz (apr _),aq4,ar4] at hr
    cases hr
    rw [lr];exact hRn
 ·have ei:i=n:=by omega
  subst ei
  refine .inl ⟨js rfl,hQ rows as H' ⟨smk.trans same_with,⟨env.fd.fd,fun b hb=>env.fd.mm b (apl _ hb),fun p e hp=>env.fd.nm p e (apl _ hp)⟩,fun b hb=>?_⟩ (fun x hx=>?_) ⟨top,aqq.mpr ⟨nDas,nd⟩,by omega,rw'⟩ lr hR⟩
  ·rw [kp b hb,zv]
   obtain⟨o,h3⟩:=e1.fd.mm b hb
   exact zJ h3 hn
  ·have:=asf x hx
   rw [zv (fun (z:x=D)=>nDas (z▸hx))] at this
   exact this
theorem amw {P:List (List Int)->Prop} (h:PEd K f tl ρ fun x=>∃ ds,x=.list ds/\ds.length<=1000/\∃ R:Nat->List Int->Prop,
   (∀ D (i:Nat) d,ds[i]?=some d->PEdL K (f.with D) te (some (.dat d) :: frD fr ρ) fun es=>∃ ns:List Int,es=ns.map .int/\R i ns)/\∀ rows,rows.length=ds.length->(∀ (k:Nat) r,rows[k]?=some r->R k r)->P rows) :
  anV K f (qM (afM K tl) 1 fr (yG 0) ag2 fun D=>qR D te) ρ P:=fun σ H Q e q=>h σ H _ e fun x v H1 g1 r1 ⟨ds,ex,hz,R,rs,re⟩=>by
 subst ex
 obtain⟨a,xs,rfl,s1,s2⟩:=rep_list.mp r1
 have hl:=s2.length
 refine⟨a,rfl,⟨xs,(zi _ _).seq s1⟩,fun D hn=>?_⟩
 refine aip (n:=ds.length) (dd:=fun i=>ds.getD i .none) (R:=R) hn (e.mono g1) hz (fun i H' sk=>?_) (fun i hi=>?_) fun rows as H' g' fa ta hl' hR=>?_
 ·have sq:SqL K H' a xs:=(zi _ _).seq (sk.seq s1)
  refine⟨fun hi=>?_,fun hi=>⟨xs,sq,by omega⟩⟩
  obtain⟨z,hzz,rz⟩:=s2.get (aph hi)
  refine⟨⟨xs,z,sq,hzz⟩,fun x H3 hy=>?_⟩
  obtain⟨rfl,hy⟩:=hy
  have ez:=hy xs sq
  rw [hzz] at ez
  cases ez
  refine⟨rfl,?_⟩
  have eg:ds.getD i .none=ds[i]:=by simp [atH,hi]
  rw [eg]
  exact Rep.mono sk _ _ rz
 ·have eg:ds.getD i .none=ds[i]:=by simp [atH,hi]
  rw [eg]
  exact rs D i _ (aph hi)
 ·exact q rows D as H' (g1.trans g') (g1.free e.fd hn) (fun x hx=>g1.free e.fd (fa x hx)) ta (re rows hl' hR)
end
end L2
end
section
namespace L2
open PySem PySem.Spec PyProof.Rows
section
variable {X:Cx} {K:apj}
theorem zp (hK:X.K=K):IxR X (aaG K):=hK▸aj9
theorem zZ (hK:X.K=K):IxR X (aml K):=hK▸amm
theorem yJ (hK:X.K=K):yN X (.builtin "len") (fun xs H Q=>∃ p ys,xs=[.ref p]/\(SqL K H p ys \/ SqT K H p ys)/\Q (.int ys.length) H):=hK▸acM
theorem ad2 (hK:X.K=K):yN X (.type "tuple") (fun xs H Q=>∃ p ys,xs=[.ref p]/\((SqL K H p ys/\∀ l,H l=none->Q (.ref l) (upd H l (.tup ys))) \/ (SqT K H p ys/\Q (.ref p) H))):=hK▸abT
theorem aha (hK:X.K=K) (hc:X.calm=true):yN X (.builtin "min") (fun xs H Q=>∃ a ns,xs=[.ref a]/\SqL K H a (ns.map V.int)/\ns≠[]/\∀ M,M∈ns->(∀ b∈ns,M<=b)->Q (.int M) H):=hK▸ag5 hc
theorem ahb (hK:X.K=K) (hc:X.calm=true):yN X (.builtin "max") (fun xs H Q=>∃ a ns,xs=[.ref a]/\SqL K H a (ns.map V.int)/\ns≠[]/\∀ M,M∈ns->(∀ b∈ns,b<=M)->Q (.int M) H):=hK▸ag6 hc
theorem acS (hK:X.K=K) (hu:X.A.units+64<cLine):OpR X (compareOp .Eq) (ag4 K false):=hK▸ams hu
theorem vC (hK:X.K=K) (hu:X.A.units+64<cLine):OpR X (compareOp .NotEq) (ag4 K true):=hK▸amt hu
variable {tg l e st:Expr} {tl te ts:TE} {ta:TA} {p pos p2:Pos}
theorem zW (hK:X.K=K) (hl:PE X l tl):PI X tg l (afM K tl):=hK▸aj4 hl
theorem acT (hK:X.K=K) (hl:PE X l tl):PI X tg l (amd K tl):=hK▸ame hl
theorem ad3 {es:List Expr} {k:Nat} {tpos:Pos} (hK:X.K=K) (hg:Gl X "enumerate") (hm:X.mg "enumerate"=none) (ha:PA X [l] ta) (hs:starEach [l] X.env=[(false,eval l X.env)]:=by rfl):PI X (.Tuple es k tpos) (.Call (.Name "enumerate" p) [l] [] pos) (afT K ta):=hK▸akc hg hm ha hs
theorem ym (hK:X.K=K) (ha:PE X e te) (he:∀ whole,isTrue e X.env whole=(do let v <- whole;standAt e.pos;holding [v] (truthy v))):PT X e (ake K te):=hK▸amu ha he
theorem zN {es:List Expr} {k:Nat} {t:TGs} {n:Nat} (hK:X.K=K) (hc:X.calm=true) (h:PGs X es t) (hn:(assignEach es X.env).length=n:=by rfl) (hst:(assignEach es X.env).findIdx? (·.1)=none:=by rfl):PG X (.Tuple es k pos) (ah2 K n t):=hK▸amc hc h hn hst
end
structure ItD (K:apj) (f:Fx) (ds:List PyData) (J:It) (H1:Hp):Prop where
 go:∀ (f':Fx) (H':Hp) (i:Nat) d,FOk f' H'->Same (hide H1 f) (hide H' f')->ds[i]?=some d->J.go i H'/\∀ x H3,J.yld i H' x H3->Goes f' H' H3/\Rep K (hide H3 f') d x
 st:∀ (f':Fx) (H':Hp),FOk f' H'->Same (hide H1 f) (hide H' f')->J.stop ds.length H'
noncomputable def PId (K:apj) (f:Fx) (wi:TI) (ρ:zr) (R:List PyData->Prop):Prop:=∀ (σ:St) (H:Hp) (C:It->Hp->Prop),EnvOk K f ρ σ H ->
 (∀ ds J H1,Goes f H H1->ItD K f ds J H1->R ds->C J H1)->wi σ H C
noncomputable def qT (n:Nat):List PyData:=(apK n).map fun (i:Nat)=>.int (i:Int)
noncomputable def aax (ds:List PyData):List PyData:=ds.mapIdx fun i d=>.tuple [.int (i:Int),d]
section
variable {K:apj} {f:Fx} {ρ:zr} {R:List PyData->Prop} {tl:TE} {t:TA}
theorem PId.imp {wi:TI} {R':List PyData->Prop} (h:PId K f wi ρ R) (i:∀ ds,R ds->R' ds):PId K f wi ρ R':=fun σ H C e q=>h σ H C e fun ds J H1 g it r=>q ds J H1 g it (i ds r)
theorem qZ (h:PAd K f t ρ fun xs=>∃ j:Int,xs=[.dat (.int j)]/\-(2 ^ 62)<=j/\j<2 ^ 62/\R (qT j.toNat)):PId K f (afN t) ρ R:=fun σ H C e q=>h σ H _ e fun xs vs H1 g1 r1 ⟨j,ex,q1,q2,p⟩=>by
 subst ex
 cases r1 with
 | @cons _ v0 _ _ rx r' =>
  cases r'
  have rx':Rep K (hide H1 f) (.int j) v0:=rx
  refine⟨j,by rw [rep_int.mp rx'],q1,q2,q _ _ H1 g1 ⟨fun f' H' i d fo _ hd=>?_,fun f' H' _ _=>?_⟩ p⟩
  ·unfold qT at hd
   rw [apt] at hd
   by_cases hi:i<j.toNat
   ·rw [aqJ hi] at hd
    cases hd
    refine⟨hi,fun x H3 hy=>?_⟩
    obtain⟨rfl,rfl⟩:=hy
    exact⟨.refl fo,rep_int.mpr (by rw [Int.zero_add])⟩
   ·rw [apR (by rw [aqa];omega)] at hd
    cases hd
  ·show j.toNat<=(qT j.toNat).length
   unfold qT
   rw [api,aqa]
   exact apr _
theorem yz (h:PEd K f tl ρ fun x=>∃ ds,x=.list ds/\R ds):PId K f (afM K tl) ρ R:=fun σ H C e q=>h σ H _ e fun x v H1 g1 r1 ⟨ds,ex,p⟩=>by
 subst ex
 obtain⟨a,xs,rfl,h1,h2⟩:=rep_list.mp r1
 have hl:=h2.length
 refine⟨a,rfl,⟨xs,(zi _ _).seq h1⟩,q ds _ H1 g1 ⟨fun f' H' i d fo sm hd=>?_,fun f' H' _ sm=>⟨xs,(zi _ _).seq (sm.seq h1),arw hl⟩⟩ p⟩
 obtain⟨z,hz,rz⟩:=h2.get hd
 have sq:SqL K H' a xs:=(zi _ _).seq (sm.seq h1)
 refine⟨⟨xs,z,sq,hz⟩,fun x H3 hy=>?_⟩
 obtain⟨rfl,hy⟩:=hy
 have ez:=hy xs sq
 rw [hz] at ez
 cases ez
 exact⟨.refl fo,Rep.mono sm _ _ rz⟩
theorem aiq (h:PEd K f tl ρ fun x=>∃ ds,x=.tuple ds/\R ds):PId K f (amd K tl) ρ R:=fun σ H C e q=>h σ H _ e fun x v H1 g1 r1 ⟨ds,ex,p⟩=>by
 subst ex
 obtain⟨a,xs,rfl,h1,h2⟩:=rep_tuple.mp r1
 have hl:=h2.length
 refine⟨a,rfl,⟨xs,(zi _ _).seqT h1⟩,q ds _ H1 g1 ⟨fun f' H' i d fo sm hd=>?_,fun f' H' _ sm=>⟨xs,(zi _ _).seqT (sm.seqT h1),arw hl⟩⟩ p⟩
 obtain⟨z,hz,rz⟩:=h2.get hd
 have sq:SqT K H' a xs:=(zi _ _).seqT (sm.seqT h1)
 refine⟨⟨xs,z,sq,hz⟩,fun x H3 hy=>?_⟩
 obtain⟨rfl,hy⟩:=hy
 have ez:=hy xs sq
 rw [hz] at ez
 cases ez
 exact⟨.refl fo,Rep.mono sm _ _ rz⟩
theorem amx (h:PAd K f t ρ fun xs=>∃ ds,xs=[.dat (.list ds)]/\R (aax ds)):PId K f (afT K t) ρ R:=fun σ H C e q=>h σ H _ e fun xs vs H1 g1 r1 ⟨ds,ex,p⟩=>by
 subst ex
 cases r1 with
 | cons rx r' =>
  cases r'
  obtain⟨a,xs,rfl,h1,h2⟩:=rep_list.mp rx
  have hl:=h2.length
  refine⟨a,rfl,⟨xs,(zi _ _).seq h1⟩,q (aax ds) _ H1 g1 ⟨fun f' H' i d fo sm hd=>?_,fun f' H' _ sm=>⟨xs,(zi _ _).seq (sm.seq h1),by unfold aax;rw [List.length_mapIdx];exact arw hl⟩⟩ p⟩
  unfold aax at hd
  rw [atj] at hd
  cases eq:ds[i]? with
  | none=>rw [eq] at hd;cases hd
  | some d0 =>
   rw [eq] at hd
   cases hd
   obtain⟨z,hz,rz⟩:=h2.get eq
   have sq:SqL K H' a xs:=(zi _ _).seq (sm.seq h1)
   refine⟨⟨xs,z,sq,hz⟩,fun x H3 hy=>?_⟩
   obtain⟨tp,y,rfl,hn,rfl,hy⟩:=hy
   have ez:=hy xs sq
   rw [hz] at ez
   cases ez
   have gn:Goes f' H' (upd H' tp (.tup [.int i,z])):=.of_same (yd hn _) fo
   exact⟨gn,rep_tuple.mpr ⟨tp,_,rfl,.of (zz (fresh_ne fo hn) zw),.cons' (rep_int.mpr rfl) (.cons' (Rep.mono gn.1 _ _ (Rep.mono sm _ _ rz)) .nil')⟩⟩
end
section
variable {K:apj} {f:Fx} {ρ:zr} {D:DEnds} {wi:TI} {g:TG} {ts:TS}
theorem air (h:PId K f wi ρ fun ds=>∃ J:Nat->zr->Prop,J 0 ρ /\
   (∀ (i:Nat) d ρ',ds[i]?=some d->J i ρ'->PGd K f g d ρ' fun ρ2=>PSd K f ts ρ2 { D with nx:=J (i+1),ct:=J (i+1),bk:=D.nx })/\∀ ρ',J ds.length ρ'->D.nx ρ') :
  PSd K f (agU wi g ts) ρ D:=fun σ H E e n r b c=>h σ H _ e fun ds J H1 g1 it ⟨Jv,j0,js,jd⟩=>by
 refine⟨fun i m σ' H'=>∃ ρ',EnvOk K f ρ' σ' H'/\Goes f H1 H'/\Jv i ρ'/\m+i=ds.length,⟨ds.length,ρ,e.mono g1,.refl g1.2,j0,rfl⟩,fun i m σ' H' ⟨ρ',e',g',p,hm⟩=>?_⟩
 by_cases hi:i<ds.length
 ·obtain⟨hgo,hy⟩:=it.go f H' i _ e'.fd g'.sm (aph hi)
  refine .inr ⟨hgo,fun σ2 H2=>∃ ρ2,EnvOk K f ρ2 σ2 H2/\Goes f H1 H2/\Jv (i+1) ρ2,fun σ2 H2 ⟨ρ2,e2,g2,p2⟩=>⟨m - 1,by omega,ρ2,e2,g2,p2,by omega⟩,fun x H3 hx=>?_⟩
  obtain⟨g3,r3⟩:=hy x H3 hx
  refine js i _ ρ' (aph hi) p σ' H3 x _ (e'.mono g3) r3 fun ρ2 σ2 H4 g4 e4 p4=>?_
  have gg:=g'.trans (g3.trans g4)
  exact p4 σ2 H4 _ e4 (fun ρ5 σ5 H5 g5 e5 p5=>⟨ρ5,e5,gg.trans g5,p5⟩) (fun d v H5 g5 r5 p5=>r d v H5 (g1.trans (gg.trans g5)) r5 p5) (fun ρ5 σ5 H5 g5 e5 p5=>n ρ5 σ5 H5 (g1.trans (gg.trans g5)) e5 p5) (fun ρ5 σ5 H5 g5 e5 p5=>⟨ρ5,e5,gg.trans g5,p5⟩)
 ·have ei:i=ds.length:=by omega
  subst ei
  exact .inl ⟨it.st f H' e'.fd g'.sm,n ρ' σ' H' (g1.trans g') e' (jd ρ' p)⟩
end
section
variable {K:apj} {f:Fx} {ρ:zr} {D:Addr} {wi:TI} {g:TG} {tt:TT} {te:TE}
theorem CSt.self {H2 H:Hp} {es:List PyData} {σ:St} (c:CSt K f D H2 ρ es σ H):CSt K f D H ρ es σ H:=⟨c.env,Same.refl _,fun _ _=>rfl,c.lst⟩
theorem CSt.trans {H2 H H':Hp} {es es':List PyData} {ρ':zr} {σ σ':St} (c:CSt K f D H2 ρ es σ H) (d:CSt K f D H ρ' es' σ' H'):CSt K f D H2 ρ' es' σ' H':=⟨d.env,c.sm.trans d.sm,fun b hb=>(d.kp b hb).trans (c.kp b hb),d.lst⟩
noncomputable def PBd (K:apj) (f:Fx) (D:Addr) (tb:TB) (ρ:zr) (es:List PyData) (R:zr->List PyData->Prop):Prop:=f.f≠some D->D∉f.M->∀ (σ:St) (H H2:Hp) (W:St->Hp->Prop),CSt K f D H2 ρ es σ H ->
 (∀ ρ2 es2 σ2 H',CSt K f D H2 ρ2 es2 σ2 H'->R ρ2 es2->W σ2 H')->tb σ H W
theorem yE {es:List PyData} {R:zr->List PyData->Prop} (hl:es.length<1000) (h:PEd K (f.with D) te ρ fun e=>R ρ (es++[e])):PBd K f D (qR D te) ρ es R:=fun hD hM σ H H2 W c q =>
 h σ H _ c.env fun e u H5 g5 r5 p5=>by
  have c5:=c.go g5 (c.env.mono g5)
  obtain⟨vs,h1,h2⟩:=c5.lst
  exact⟨vs,h1,zY (by rw [h2.length];omega),q _ _ _ _ (c5.put hD hM h1 h2 r5) p5⟩
theorem ais {fi:Fx} {Hi H2 H:Hp} {ds es:List PyData} {J:It} {tb:TB} {σ:St} {W:St->Hp->Prop} (it:ItD K fi ds J Hi) (hD:f.f≠some D) (hM:D∉f.M) (c:CSt K f D H2 ρ es σ H) (sm:Same (hide Hi fi) (hide H (f.with D)))
  (Jv:Nat->zr->List PyData->Prop) (j0:Jv 0 ρ es)
  (js:∀ (i:Nat) d ρ' es',ds[i]?=some d->Jv i ρ' es'->PGd K (f.with D) g d ρ' fun ρ2=>PTd K (f.with D) tt ρ2 fun b=>if b=true then PBd K f D tb ρ2 es' (Jv (i+1)) else Jv (i+1) ρ2 es')
  (hW:∀ ρ' es' σ' H',CSt K f D H2 ρ' es' σ' H'->Jv ds.length ρ' es'->W σ' H'):acf J g tt tb σ H W:=by
 refine⟨fun i m σ' H'=>∃ ρ' es',CSt K f D H2 ρ' es' σ' H'/\Same (hide Hi fi) (hide H' (f.with D))/\Jv i ρ' es'/\m+i=ds.length,⟨ds.length,ρ,es,c,sm,j0,rfl⟩,fun i m σ' H' ⟨ρ',es',c',sm',p,hm⟩=>?_⟩
 by_cases hi:i<ds.length
 ·obtain⟨hgo,hy⟩:=it.go (f.with D) H' i _ c'.env.fd sm' (aph hi)
  refine .inr ⟨hgo,fun x H3 hx=>?_⟩
  obtain⟨g3,r3⟩:=hy x H3 hx
  have c3:=c'.go g3 (c'.env.mono g3)
  refine js i _ ρ' es' (aph hi) p σ' H3 x _ c3.env r3 fun ρ2 σ2 H4 g4 e4 p4=>?_
  have c4:=c3.go g4 e4
  refine p4 σ2 H4 _ e4 fun b H5 g5 p5=>?_
  have c5:=c4.go g5 (e4.mono g5)
  have sm5:=((sm'.trans g3.sm).trans g4.sm).trans g5.sm
  cases b with
  | false =>
   rw [if_neg apk] at p5 ⊢
   exact⟨m - 1,by omega,ρ2,es',c5,sm5,p5,by omega⟩
  | true =>
   rw [if_pos rfl] at p5 ⊢
   exact p5 hD hM σ2 H5 H5 _ c5.self fun ρ6 es6 σ6 H6 c6 p6=>⟨m - 1,by omega,ρ6,es6,c5.trans c6,sm5.trans c6.sm,p6,by omega⟩
 ·have ei:i=ds.length:=by omega
  subst ei
  exact .inl ⟨it.st (f.with D) H' c'.env.fd sm',hW ρ' es' σ' H' c' p⟩
theorem anW {es:List PyData} {tb:TB} {R:zr->List PyData->Prop} (h:PId K (f.with D) wi ρ fun ds=>∃ Jv:Nat->zr->List PyData->Prop,Jv 0 ρ es /\
   (∀ (i:Nat) d ρ' es',ds[i]?=some d->Jv i ρ' es'->PGd K (f.with D) g d ρ' fun ρ2=>PTd K (f.with D) tt ρ2 fun b=>if b=true then PBd K f D tb ρ2 es' (Jv (i+1)) else Jv (i+1) ρ2 es') /\
   ∀ ρ' es',Jv ds.length ρ' es'->R ρ' es'):PBd K f D (tIn wi g tt tb) ρ es R:=fun hD hM σ H H2 W c q =>
 h σ H _ c.env fun ds J H1 g1 it ⟨Jv,j0,js,jd⟩ =>
  ais it hD hM (c.go g1 (c.env.mono g1)) (Same.refl _) Jv j0 js fun ρ' es' σ' H' c' p=>q ρ' es' σ' H' c' (jd ρ' es' p)
noncomputable def PEdO (K:apj) (f:Fx) (te:TE) (ρ:zr) (P:List PyData->Prop):Prop:=∀ (σ:St) (H:Hp) (Q:VK),EnvOk K f ρ σ H ->
 (∀ es D vs H',Goes f H H'->H D=none->H' D=some (.lst vs)->Reps K (hide H' (f.with D)) es vs->P es->Q (.ref D) H')->te σ H Q
theorem PEdO.pedl {P:List PyData->Prop} (h:PEdO K f te ρ P):PEdL K f te ρ P:=fun σ H Q e q=>h σ H Q e fun es D vs H' g n h1 r p=>q es D vs H' g n h1 (Reps.mono same_with es vs r) p
theorem PEdO.ped {P:PyData->Prop} (h:PEdO K f te ρ fun es=>P (.list es)):PEd K f te ρ P:=h.pedl.ped
theorem alA {P:List PyData->Prop} (h:P []):PEdO K f (agY jz) ρ P:=fun σ H Q e q=>⟨ap2 _,fun p hn=>q [] p [] _ (.of_same (yd hn _) e.fd) hn zw .nil' h⟩
theorem abe {own:Nat} {fr:List Nat} {tb:Addr->TB} {P:List PyData->Prop} (h:PId K f wi ρ fun ds=>∃ Jv:Nat->zr->List PyData->Prop,Jv 0 (aad own fr ρ) [] /\
   (∀ D (i:Nat) d ρ' es',ds[i]?=some d->Jv i ρ' es'->PGd K (f.with D) g d ρ' fun ρ2=>PTd K (f.with D) tt ρ2 fun b=>if b=true then PBd K f D (tb D) ρ2 es' (Jv (i+1)) else Jv (i+1) ρ2 es') /\
   ∀ ρ' es',Jv ds.length ρ' es'->P es'):PEdO K f (qM wi own fr g tt tb) ρ P:=fun σ H Q e q =>
 h σ H _ e fun ds J H1 g1 it ⟨Jv,j0,js,jd⟩ D hn=>by
  have nD:=fresh_ne g1.2 hn
  have hD:f.f≠some D:=fun z=>nD (.inl z)
  have hM:D∉f.M:=fun z=>nD (.inr z)
  refine ais it hD hM (abd hn (e.mono g1)) (jS hn) Jv j0 (js D) fun ρ' es' σ' H' c' p=>?_
  obtain⟨ge,rep⟩:=adY (σ':=σ') hn g1.2 c'
  obtain⟨vs,h1,h2⟩:=c'.lst
  exact q es' D vs H' (g1.trans ge) (g1.free e.fd hn) h1 h2 (jd ρ' es' p)
end
section
variable {K:apj} {f:Fx} {ρ:zr} {D:Addr} {wi:TI} {g:TG} {tt:TT} {te:TE}
noncomputable def OwnE (own:Nat) (ρ0:zr) (ρ':zr):Prop:=∃ us:zr,us.length=own/\ρ'=us++ρ0
theorem OwnE.one {ρ0 ρ':zr} (h:OwnE 1 ρ0 ρ'):∃ u,ρ'=u :: ρ0:=by
 obtain⟨us,h1,rfl⟩:=h
 match us,h1 with
 | [u],_=>exact⟨u,rfl⟩
theorem OwnE.two {ρ0 ρ':zr} (h:OwnE 2 ρ0 ρ'):∃ u v,ρ'=u :: v :: ρ0:=by
 obtain⟨us,h1,rfl⟩:=h
 match us,h1 with
 | [u,v],_=>exact⟨u,v,rfl⟩
theorem OwnE.mk1 {ρ0:zr} {u:Option DV}:OwnE 1 ρ0 (u :: ρ0):=⟨[u],rfl,rfl⟩
theorem OwnE.mk2 {ρ0:zr} {u v:Option DV}:OwnE 2 ρ0 (u :: v :: ρ0):=⟨[u,v],rfl,rfl⟩
theorem jC {B:Bool->Prop} (h:B true):PTd K f ag2 ρ B:=fun σ H Q e q=>q true H (.refl e.fd) h
end
structure OEnds where
 nx:zr->List PyData->Prop
 rt:PyData->Prop
 bk:zr->List PyData->Prop:=fun _ _=>False
 ct:zr->List PyData->Prop:=fun _ _=>False
noncomputable def PSo (K:apj) (f:Fx) (D:Addr) (ts:TS) (ρ:zr) (es:List PyData) (O:OEnds):Prop:=f.f≠some D->D∉f.M->∀ (σ:St) (H H2:Hp) (E:Ends),CSt K f D H2 ρ es σ H ->
 (∀ ρ' es' σ' H',CSt K f D H2 ρ' es' σ' H'->O.nx ρ' es'->E.nx σ' H')->(∀ d v ρ' es' σ' H',CSt K f D H2 ρ' es' σ' H'->Rep K (hide H' f) d v->O.rt d->E.rt v H') ->
 (∀ ρ' es' σ' H',CSt K f D H2 ρ' es' σ' H'->O.bk ρ' es'->E.bk σ' H')->(∀ ρ' es' σ' H',CSt K f D H2 ρ' es' σ' H'->O.ct ρ' es'->E.ct σ' H')->ts E σ H
section
variable {K:apj} {f:Fx} {ρ:zr} {D:Addr} {wi:TI} {g:TG} {tt:TT} {te:TE} {ts tu:TS} {es:List PyData} {O:OEnds} {i:Nat}
theorem anY (h:PSo K f D ts ρ es { O with nx:=fun ρ' es'=>PSo K f D tu ρ' es' O }):PSo K f D (qt ts tu) ρ es O:=fun hD hM σ H H2 E c n r b k =>
 h hD hM σ H H2 _ c (fun ρ' es' σ' H' c' p=>p hD hM σ' H' H2 E c' n r b k) r b k
theorem ae7 (h:O.nx ρ es):PSo K f D afL ρ es O:=fun _ _ σ H H2 E c n r b k=>n ρ es σ H c h
theorem anZ (h:PTd K (f.with D) tt ρ fun b=>if b=true then PSo K f D ts ρ es O else PSo K f D tu ρ es O):PSo K f D (ah1 tt ts tu) ρ es O:=fun hD hM σ H H2 E c n r b k =>
 h σ H _ c.env fun q H1 g1 p=>by
  have c1:=c.go g1 (c.env.mono g1)
  cases q with
  | false =>
   rw [if_neg apk] at p ⊢
   exact p hD hM σ H1 H2 E c1 n r b k
  | true =>
   rw [if_pos rfl] at p ⊢
   exact p hD hM σ H1 H2 E c1 n r b k
theorem ait {σ:St} {H H2:Hp} (hi:ρ[i]?=some (some (.own f.M.length))) (c:CSt K f D H2 ρ es σ H):σ[i]?=some (some (.ref D)):=by
 obtain⟨v,h1,p,h2,rfl⟩:=c.env.get i _ hi
 have e:(D :: f.M).reverse[f.M.length]?=some D:=by
  rw [aqW,apz (by simp)]
  simp
 have h2':(D :: f.M).reverse[f.M.length]?=some p:=h2
 rw [e] at h2'
 cases h2'
 exact h1
theorem aiu (hi:ρ[i]?=some (some (.own f.M.length))) (hl:es.length<1000) (h:PEd K (f.with D) te ρ fun d=>O.nx ρ (es++[d])):PSo K f D (ab4 (tBM K "list" aaO (yj i) (yb te jz))) ρ es O:=fun hD hM σ H H2 E c n r b k=>by
 obtain⟨vs0,h0,_⟩:=c.lst
 refine⟨_,ait hi c,Or.inl ⟨rfl,vs0,.of h0⟩,?_⟩
 refine h σ H _ c.env fun d v H1 g1 r1 p1=>?_
 have c1:=c.go g1 (c.env.mono g1)
 obtain⟨vs,h1,h2⟩:=c1.lst
 exact⟨D,vs,v,rfl,rfl,h1,zY (by rw [h2.length];omega),n _ _ _ _ (c1.put hD hM h1 h2 r1) p1⟩
theorem an0 (h:PId K (f.with D) wi ρ fun ds=>∃ J:Nat->zr->List PyData->Prop,J 0 ρ es /\
   (∀ (i:Nat) d ρ' es',ds[i]?=some d->J i ρ' es'->PGd K (f.with D) g d ρ' fun ρ2=>PSo K f D ts ρ2 es' { O with nx:=J (i+1),ct:=J (i+1),bk:=O.nx })/\∀ ρ' es',J ds.length ρ' es'->O.nx ρ' es') :
  PSo K f D (agU wi g ts) ρ es O:=fun hD hM σ H H2 E c n r b k=>h σ H _ c.env fun ds J H1 g1 it ⟨Jv,j0,js,jd⟩=>by
 have c1:=c.go g1 (c.env.mono g1)
 refine⟨fun i m σ' H'=>∃ ρ' es',CSt K f D H2 ρ' es' σ' H'/\Same (hide H1 (f.with D)) (hide H' (f.with D))/\Jv i ρ' es'/\m+i=ds.length,⟨ds.length,ρ,es,c1,Same.refl _,j0,rfl⟩,fun i m σ' H' ⟨ρ',es',c',sm',p,hm⟩=>?_⟩
 by_cases hi:i<ds.length
 ·obtain⟨hgo,hy⟩:=it.go (f.with D) H' i _ c'.env.fd sm' (aph hi)
  refine .inr ⟨hgo,fun σ2 H3=>∃ ρ2 es2,CSt K f D H2 ρ2 es2 σ2 H3/\Same (hide H1 (f.with D)) (hide H3 (f.with D))/\Jv (i+1) ρ2 es2,fun σ2 H3 ⟨ρ2,es2,e2,g2,p2⟩=>⟨m - 1,by omega,ρ2,es2,e2,g2,p2,by omega⟩,fun x H3 hx=>?_⟩
  obtain⟨g3,r3⟩:=hy x H3 hx
  have c3:=c'.go g3 (c'.env.mono g3)
  refine js i _ ρ' es' (aph hi) p σ' H3 x _ c3.env r3 fun ρ2 σ2 H4 g4 e4 p4=>?_
  have c4:=c3.go g4 e4
  have sm4:=(sm'.trans g3.sm).trans g4.sm
  exact p4 hD hM σ2 H4 H4 _ c4.self (fun ρ5 es5 σ5 H5 c5 p5=>⟨ρ5,es5,c4.trans c5,sm4.trans c5.sm,p5⟩) (fun d v ρ5 es5 σ5 H5 c5 r5 p5=>r d v ρ5 es5 σ5 H5 (c4.trans c5) r5 p5) (fun ρ5 es5 σ5 H5 c5 p5=>n ρ5 es5 σ5 H5 (c4.trans c5) p5) (fun ρ5 es5 σ5 H5 c5 p5=>⟨ρ5,es5,c4.trans c5,sm4.trans c5.sm,p5⟩)
 ·have ei:i=ds.length:=by omega
  subst ei
  exact .inl ⟨it.st (f.with D) H' c'.env.fd sm',n ρ' es' σ' H' c' (jd ρ' es' p)⟩
noncomputable def ji (n:Nat):Option DV->Option DV
 | some (.own k)=>if k<n then some (.own k) else none
 | x=>x
theorem aaP {σ:St} {H H2:Hp} (c:CSt K f D H2 ρ es σ H):EnvOk K f (ρ.map (ji f.M.length)) σ H:=by
 refine⟨by rw [api];exact c.env.len,fun i x h=>?_,⟨c.env.fd.fd,fun b hb=>c.env.fd.mm b (apl _ hb),fun p e hp=>c.env.fd.nm p e (apl _ hp)⟩⟩
 rw [apt] at h
 cases e:ρ[i]? with
 | none=>rw [e] at h;cases h
 | some y =>
  rw [e] at h
  cases y with
  | none=>cases h
  | some y =>
   obtain⟨v,h1,h2⟩:=c.env.get i y e
   cases y with
   | dat d =>
    cases h
    exact⟨v,h1,Rep.mono same_with d v h2⟩
   | feed =>
    cases h
    exact⟨v,h1,h2⟩
   | exc C =>
    cases h
    obtain⟨a,h3,h4⟩:=h2
    exact⟨v,h1,a,h3,same_with _ _ h4⟩
   | mon φ =>
    cases h
    exact⟨v,h1,fun H' s=>h2 H' (same_with.trans s)⟩
   | own k =>
    have h':(if k<f.M.length then some (DV.own k) else none)=some x:=Option.some.inj h
    by_cases hk:k<f.M.length
    ·rw [if_pos hk] at h'
     cases h'
     obtain⟨p,h3,h4⟩:=h2
     refine⟨v,h1,p,?_,h4⟩
     have h3':(D :: f.M).reverse[k]?=some p:=h3
     rw [aqW,apx (by simpa using hk)] at h3'
     exact h3'
    ·rw [if_neg hk] at h'
     cases h'
theorem akg {σ:St} {H:Hp} {d:PyData} {v:V} (e:EnvOk K f ρ σ H) (hs:σ[i]?=some (some v)) (r:Rep K (hide H f) d v):EnvOk K f (ρ.set i (some (.dat d))) σ H:=by
 refine⟨by rw [aqy];exact e.len,fun j y h=>?_,e.fd⟩
 by_cases hj:i=j
 ·subst hj
  have hi:i<ρ.length:=by rw [e.len];exact (apm.mp hs).1
  rw [ap7 hi] at h
  cases h
  exact⟨v,hs,r⟩
 ·rw [aqi hj] at h
  exact e.get j y h
theorem aoa {Dn:DEnds} (h:PEdO K f te ρ fun es0=>i<ρ.length/\∀ D,PSo K f D ts (ρ.set i (some (.own f.M.length))) es0 { nx:=fun ρ' es=>ρ'[i]?=some (some (.own f.M.length))/\PSd K f tu ((ρ'.map (ji f.M.length)).set i (some (.dat (.list es)))) Dn,rt:=Dn.rt,bk:=fun ρ' es=>Dn.bk (ρ'.map (ji f.M.length)),ct:=fun ρ' es=>Dn.ct (ρ'.map (ji f.M.length)) }) :
  PSd K f (qt (jD te (yG i)) (qt ts tu)) ρ Dn:=fun σ H E e n r b k=>h σ H _ e fun es0 D vs H1 g1 hn h1 rs ⟨hil,p⟩=>by
 have nD:¬ (f.f=some D \/ D∈f.M):=fresh_ne e.fd hn
 have hD:f.f≠some D:=fun z=>nD (.inl z)
 have hM:D∉f.M:=fun z=>nD (.inr z)
 have sm0:Same (hide H f) (hide H1 (f.with D)):=fun b o hb=>by
  have hb1:=g1.sm b o hb
  refine zz (fun z=>?_) (zI hb1).2
  rcases z with z | z
  ·exact (zI hb1).1 (.inl z)
  ·rcases apq.mp z with rfl | z
   ·have:=(zI hb).2
    rw [hn] at this
    cases this
   ·exact (zI hb1).1 (.inr z)
 have fo1:FOk (f.with D) H1:=⟨g1.ok.fd,fun b hb=>by
  rcases apq.mp hb with rfl | hb
  ·exact⟨_,h1⟩
  ·exact g1.ok.mm b hb,fun q eq hq=>by
  rcases apq.mp hq with rfl | hq
  ·exact hD eq
  ·exact g1.ok.nm q eq hq⟩
 have e1:EnvOk K (f.with D) ρ σ H1:=⟨e.len,fun j x hx=>by
  obtain⟨v,a1,a2⟩:=e.get j x hx
  refine⟨v,a1,?_⟩
  cases x with
  | dat d=>exact Rep.mono sm0 d v a2
  | feed=>exact a2
  | exc C =>
   obtain⟨q,h3,h4⟩:=a2
   exact⟨q,h3,sm0 _ _ h4⟩
  | mon φ=>exact fun H' s=>a2 H' (sm0.trans s)
  | own k =>
   obtain⟨q,h3,h4⟩:=a2
   refine⟨q,?_,h4⟩
   show (D :: f.M).reverse[k]?=some q
   rw [aqW,apx (apm.mp h3).1]
   exact h3,fo1⟩
 have rv:RepV K (f.with D) H1 (.own f.M.length) (.ref D):=⟨D,by
  show (D :: f.M).reverse[f.M.length]?=some D
  rw [aqW,apz (by simp)]
  simp,rfl⟩
 have c1:CSt K f D H1 (ρ.set i (some (.own f.M.length))) es0 (σ.set i (some (.ref D))) H1:=⟨e1.set i rv,Same.refl _,fun _ _=>rfl,vs,h1,rs⟩
 have gg:∀ {ρ':zr} {es':List PyData} {σ':St} {H':Hp},CSt K f D H1 ρ' es' σ' H'->Goes f H H':=fun c=>by
  refine⟨fun b o hb=>?_,(aaP c).fd,fun b hb=>(c.kp b hb).trans (g1.kp b hb)⟩
  exact same_with (D:=D) b o (c.sm b o (sm0 b o hb))
 refine p D hD hM _ H1 H1 _ c1 (fun ρ' es' σ' H' c' ⟨hi,p'⟩=>?_) (fun d v ρ' es' σ' H' c' r' p'=>r d v H' (gg c') r' p') (fun ρ' es' σ' H' c' p'=>b _ σ' H' (gg c') (aaP c') p') (fun ρ' es' σ' H' c' p'=>k _ σ' H' (gg c') (aaP c') p')
 obtain⟨vs',h1',h2'⟩:=c'.lst
 have rl:Rep K (hide H' f) (.list es') (.ref D):=rep_list.mpr ⟨D,vs',rfl,.of (zz nD h1'),Reps.mono same_with es' vs' h2'⟩
 exact p' σ' H' E (akg (aaP c') (ait hi c') rl) (fun ρ2 σ2 H2 g2=>n ρ2 σ2 H2 ((gg c').trans g2)) (fun d v H2 g2=>r d v H2 ((gg c').trans g2)) (fun ρ2 σ2 H2 g2=>b ρ2 σ2 H2 ((gg c').trans g2)) (fun ρ2 σ2 H2 g2=>k ρ2 σ2 H2 ((gg c').trans g2))
end
section
variable {K:apj} {f:Fx} {ρ:zr} {P:PyData->Prop} {te ta tb:TE} {t:TA}
theorem Reps.drop {H:Hp}:∀ {ds:List PyData} {xs:List V} (n:Nat),Reps K H ds xs->Reps K H (ds.drop n) (xs.drop n)
 | _,_,0,r=>r
 | [],xs,n+1,r=>by
  rw [reps_nil.mp r]
  exact .nil'
 | d :: ds,xs,n+1,r=>by
  obtain⟨x,r',rfl,_,h⟩:=reps_cons.mp r
  exact Reps.drop n h
theorem Reps.take {H:Hp}:∀ {ds:List PyData} {xs:List V} (n:Nat),Reps K H ds xs->Reps K H (ds.take n) (xs.take n)
 | _,_,0,r=>.nil'
 | [],xs,n+1,r=>by
  rw [reps_nil.mp r]
  exact .nil'
 | d :: ds,xs,n+1,r=>by
  obtain⟨x,r',rfl,h0,h⟩:=reps_cons.mp r
  exact .cons' h0 (Reps.take n h)
noncomputable def cutD (ds:List PyData) (lo hi:Option Int):List PyData:=(ds.drop (HT.sIx ds.length 0 lo)).take (HT.sIx ds.length ds.length hi - HT.sIx ds.length 0 lo)
theorem Reps.cut {H:Hp} {ds:List PyData} {xs:List V} {lo hi:Option Int} (r:Reps K H ds xs):Reps K H (cutD ds lo hi) (aeZ xs lo hi):=by
 unfold cutD aeZ
 rw [r.length]
 exact (r.drop _).take _
theorem cut_upto {ds:List PyData} {n:Nat}:cutD ds none (some (n:Int))=ds.take n:=by
 unfold cutD
 rw [HT.sIx_nat,HT.sIx_none,List.drop_zero,atz]
 by_cases h:n<=ds.length
 ·rw [Nat.min_eq_left h]
 ·rw [Nat.min_eq_right (by omega),arx (apr _),arx (by omega)]
noncomputable def POd (K:apj) (f:Fx) (t:TO) (ρ:zr) (R:Option Int->Prop):Prop:=∀ (σ:St) (H:Hp) (Q:Option Int->Hp->Prop),EnvOk K f ρ σ H->(∀ o H',Goes f H H'->R o->Q o H')->t σ H Q
theorem abf {R:Option Int->Prop} (h:R none):POd K f afO ρ R:=fun σ H Q e q=>q none H (.refl e.fd) h
theorem abg {R:Option Int->Prop} (h:PEd K f te ρ fun d=>∃ i:Int,d=.int i/\R (some i)):POd K f (alw te) ρ R:=fun σ H Q e q=>h σ H _ e fun d v H1 g1 r1 ⟨i,ed,p⟩=>by
 subst ed
 exact⟨i,rep_int.mp r1,q (some i) H1 g1 p⟩
theorem aob {tl th:TO} {P:List PyData->Prop} (h:PEd K f te ρ fun x=>∃ ds,x=.list ds/\POd K f tl ρ fun lo=>POd K f th ρ fun hi=>P (cutD ds lo hi)):PEdL K f (tSl (aka K) te tl th) ρ P:=fun σ H Q e q =>
 h σ H _ e fun x v H1 g1 r1 ⟨ds,ex,p1⟩=>p1 σ H1 _ (e.mono g1) fun lo H2 g2 p2=>p2 σ H2 _ ((e.mono g1).mono g2) fun hi H3 g3 p3=>by
  subst ex
  have gg:=g1.trans (g2.trans g3)
  obtain⟨a,xs,rfl,h1,h2⟩:=rep_list.mp (Rep.mono (g2.trans g3).sm _ _ r1)
  refine⟨a,xs,rfl,(zi _ _).seq h1,fun p hn=>?_⟩
  have g4:Goes f H3 (upd H3 p (.lst (aeZ xs lo hi))):=.of_same (yd hn _) g3.ok
  exact q _ p _ _ (gg.trans g4) (gg.free e.fd hn) zw (Reps.mono g4.sm _ _ h2.cut) p3
theorem abh {tl th:TO} (h:PEd K f te ρ fun x=>∃ ds,x=.list ds/\POd K f tl ρ fun lo=>POd K f th ρ fun hi=>P (.list (cutD ds lo hi))):PEd K f (tSl (aka K) te tl th) ρ P:=(aob h).ped
theorem aiv (h:PAd K f t ρ fun xs=>(∃ i,xs=[.dat (.int i)]/\P (.int i)) \/ (∃ k:Bool,xs=[.dat (.bool k)]/\P (.int (if k then 1 else 0)))) :
  PEd K f (tCB (fun xs H Q=>(∃ i,xs=[.int i]/\Q (.int i) H) \/ ∃ k:Bool,xs=[.bl k]/\Q (.int (if k then 1 else 0)) H) t) ρ P :=
 ag8 fun σ H Q e q=>h σ H Q e fun xs vs H' g r p=>by
  rcases p with⟨i,rfl,p⟩ | ⟨i,rfl,p⟩
  ·refine q _ vs H' g r ⟨_,rfl,fun vs H Q fo rs k=>?_⟩
   obtain⟨x,r,rfl,h2,h3⟩:=reps_cons.mp rs
   rw [reps_nil.mp h3,rep_int.mp h2]
   exact .inl ⟨i,rfl,k _ _ H (.refl fo) (rep_int.mpr rfl) p⟩
  ·refine q _ vs H' g r ⟨_,rfl,fun vs H Q fo rs k=>?_⟩
   obtain⟨x,r,rfl,h2,h3⟩:=reps_cons.mp rs
   rw [reps_nil.mp h3,rep_bool.mp h2]
   exact .inr ⟨i,rfl,k _ _ H (.refl fo) (rep_int.mpr rfl) p⟩
end
noncomputable abbrev f0:Fx:=⟨none,[]⟩
theorem fok0 (H:Hp):FOk f0 H:=⟨(fun p e=>by cases e),(fun b hb=>by cases hb),(fun p e=>by cases e)⟩
theorem aoc {H H':Hp} (s:Same H H'):Goes f0 H H':=.of_same s (fok0 H)
theorem same0 {H H':Hp} (g:Goes f0 H H'):Same H H':=fun b o h=>(zI (g.sm b o (by rw [y8];exact h))).2
noncomputable def acU:Option DV->Option DV
 | some (.dat d)=>some (.dat d)
 | _=>none
section
variable {K:apj} {ρ:zr} {te:TE} {tu:TS} {i:Nat}
theorem abi {p:Addr} {σ:St} {H:Hp} (e:EnvOk K ⟨some p,[]⟩ ρ σ H):EnvOk K f0 (ρ.map acU) σ H:=by
 refine⟨by rw [api];exact e.len,fun i x h=>?_,fok0 H⟩
 rw [apt] at h
 cases eq:ρ[i]? with
 | none=>rw [eq] at h;cases h
 | some y =>
  rw [eq] at h
  cases y with
  | none=>cases h
  | some y =>
   obtain⟨v,h1,h2⟩:=e.get i y eq
   cases y with
   | dat d =>
    cases h
    refine⟨v,h1,?_⟩
    show Rep K (hide H f0) d v
    rw [y8]
    exact Rep.mono (zi _ _) d v h2
   | feed=>cases h
   | own k=>cases h
   | exc C=>cases h
   | mon φ=>cases h
theorem amy {Dn:DEnds} (h:∀ (σ:St) (H:Hp) (Q:VK),EnvOk K f0 ρ σ H->(∀ (p:Addr) (x y:Int) (H':Hp),Same H H'->H p=none->H' p=some (.lst [.int x,.int y])->0<=x->0<=y->y<2147483647->Q (.ref p) H')->te σ H Q)
  (hr:∀ p,PSd K ⟨some p,[]⟩ tu (ρ.set i (some .feed)) { nx:=fun ρ'=>Dn.nx (ρ'.map acU),rt:=Dn.rt,bk:=fun ρ'=>Dn.bk (ρ'.map acU),ct:=fun ρ'=>Dn.ct (ρ'.map acU) }) :
  PSd K f0 (qt (jD te (yG i)) tu) ρ Dn:=fun σ H E e n r b k=>h σ H _ e fun p x y H1 sm hn hp x0 y0 y1=>by
 have fo:FOk ⟨some p,[]⟩ H1:=⟨fun p' e=>by cases e;exact⟨x,y,hp,x0,y0,y1⟩,(fun b hb=>by cases hb),fun _ _ hb=>by cases hb⟩
 have sm0:Same H (hide H1 ⟨some p,[]⟩):=fun b o hb=>by
  have nb:b≠p:=fun e=>by rw [e,hn] at hb;cases hb
  refine zz (fun z=>?_) (sm b o hb)
  rcases z with z | z
  ·cases z;exact nb rfl
  ·cases z
 have e1:EnvOk K ⟨some p,[]⟩ ρ σ H1:=by
  refine⟨e.len,fun j z hz=>?_,fo⟩
  obtain⟨v,a1,a2⟩:=e.get j z hz
  refine⟨v,a1,?_⟩
  cases z with
  | dat d =>
   have a2':Rep K (hide H f0) d v:=a2
   rw [y8] at a2'
   exact Rep.mono sm0 d v a2'
  | feed=>obtain⟨q,hq,_⟩:=a2;cases hq
  | own k=>obtain⟨q,hq,_⟩:=a2;cases hq
  | exc C =>
   obtain⟨q,h3,h4⟩:=a2
   refine⟨q,h3,sm0 _ _ ?_⟩
   rw [y8] at h4
   exact h4
  | mon φ =>
   intro H' s
   refine a2 H' (Same.trans ?_ s)
   rw [y8]
   exact sm0
 have gg:∀ {H':Hp},Goes ⟨some p,[]⟩ H1 H'->Goes f0 H H':=fun g=>aoc fun b o hb=>zi _ _ b o (g.sm b o (sm0 b o hb))
 refine hr p _ H1 E (e1.set i (x:=.feed) ⟨p,rfl,rfl⟩) (fun ρ' σ' H' g' e' p'=>n _ σ' H' (gg g') (abi e') p') (fun d v H' g' r' p'=>r d v H' (gg g') ?_ p') (fun ρ' σ' H' g' e' p'=>b _ σ' H' (gg g') (abi e') p') (fun ρ' σ' H' g' e' p'=>k _ σ' H' (gg g') (abi e') p')
 rw [y8]
 exact Rep.mono (zi _ _) d v r'
end
section
variable {X:Cx} {K:apj}
noncomputable def aod (i j:Int):Prop:=0<j/\j<1152921504606846976
theorem ad4:OpR X (binaryOp .FloorDiv) (rI aod fun i j=>.int (i / j)):=opI fun i j _ _ _ _ _ hc q=>by
 obtain⟨h1,h2⟩:=hc
 rw [<-Int.fdiv_eq_ediv_of_nonneg i (asZ h1)] at q
 refine floordiv_int (by omega) q (.inl (asM ?_))
 have h0:j.natAbs≠0:=by omega
 have:j.natAbs.log2<60:=(atJ h0).mpr (by omega)
 omega
theorem qi (hK:X.K=K):SlR X (aka K):=hK▸akb
end
section
variable {K:apj} {f:Fx} {ρ:zr} {wi:TI} {g:TG} {tt:TT} {own:Nat} {fr:List Nat} {tb:Addr->TB} {P:List PyData->Prop}
theorem vq {α:Type} {A B:α->PyData} (xs:List α) (h:PId K f wi ρ fun ds=>ds=xs.map A/\xs.length<=1000 /\
   (∀ D x ρ' es,x∈xs->OwnE own (frD fr ρ) ρ'->es.length<1000->PGd K (f.with D) g (A x) ρ' fun ρ2=>PTd K (f.with D) tt ρ2 fun b=>if b=true then PBd K f D (tb D) ρ2 es fun ρ3 es3=>OwnE own (frD fr ρ) ρ3/\es3=es++[B x] else False)/\P (xs.map B)) :
  PEdO K f (qM wi own fr g tt tb) ρ P :=
 abe (h.imp fun ds ⟨ed,hl,hs,hp⟩=>by
  subst ed
  refine⟨fun i ρ' es=>OwnE own (frD fr ρ) ρ'/\es=(xs.take i).map B,⟨⟨aqb own none,by simp,rfl⟩,by simp⟩,fun D i d ρ' es hd ⟨ho,he⟩=>?_,fun ρ' es ⟨_,he⟩=>?_⟩
  ·rw [apt] at hd
   cases eq:xs[i]? with
   | none=>rw [eq] at hd;cases hd
   | some x =>
    rw [eq] at hd
    cases hd
    have hi:i<xs.length:=(apm.mp eq).1
    have hb:es.length<1000:=by
     rw [he,api,apX]
     omega
    intro σ H v Q e r q
    refine hs D x ρ' es (apv eq) ho hb σ H v Q e r fun ρ2 σ2 H2 g2 e2 p2=>q ρ2 σ2 H2 g2 e2 (p2.imp fun b hb2=>?_)
    cases b with
    | false =>
     rw [if_neg apk] at hb2
     exact hb2.elim
    | true =>
     rw [if_pos rfl] at hb2 ⊢
     intro h1 h2 σ3 H3 H4 W c k
     exact hb2 h1 h2 σ3 H3 H4 W c fun ρ5 es5 σ5 H5 c5 ⟨o5,p5⟩=>k ρ5 es5 σ5 H5 c5 ⟨o5,by rw [p5,he,aqh,eq,apQ];rfl⟩
  ·rw [he,api,aqk]
   exact hp)
end
structure XLie (P:Program) (w:World) (outer:List Env) (H:Hp) (s:Shared) (e:Addr) (C:Value) (H':Hp) (s':Shared):Prop where
 os:s'.os=s.os
 bare:AllBare s'.gens
 un:Un (frs outer) [] H H' s.heap s'.heap
 hok:HOk P w H' s'.heap
 fly:∃ B a0,Heap.FlyingW B outer e C a0 s'.heap/\(∀ b o,s.heap.get? b=some o->b∉frs outer->∃ o',B.get? b=some o')/\∀ b o,H' b=some o->∃ o',B.get? b=some o'
 new:s.heap.get? e=none
 free:H' e=none
noncomputable def CXe (P:Program) (w:World):CXT:=fun outer H s E e s'=>∃ a C H',e=.ref a/\XLie P w outer H s a C H' s'/\E C none H'
end L2
end
section
namespace L2
open PySem PySem.Spec PyProof.Rows
end L2
end
section
namespace L2
open PySem PySem.Spec PySem.W PyProof.Rows PySem.Calls PySem.Builtin Builtin Builtin.ObjectAttr Builtin.Getset_descriptor
section
variable {prog:Program} {w:World} {A:Around} {E:Value->Shared->Prop} {s:Shared} {K:apj} {a C:Addr}
structure ExcWays (K:apj) (C:Addr):Prop where
 ga:findIn K (.ref C) "__getattribute__"=some (some (.builtin "BaseException.__getattribute__"))
 gt:findIn K (.ref C) "__getattr__"=some none
 cl:findIn K (.ref C) "__class__"=some (some (.builtin "object.__class__"))
 gs:specialIn K (.builtin "object.__class__") "__get__"=some (some (.builtin "getset_descriptor.__get__"))
 tk:takesIn K (.builtin "object.__class__")=some true
 ob:mroIn K C (.type "object")=some true
 be:mroIn K C (.type "BaseException")=some true
 iz:(clsIn K C).isSome=true
end
structure FnInX (P:Program) (w:World) (K:apj) (mg:Str->Option Value) (base:Heap) (k:Nat) (x:Str) (ps:List Str) (sp:Sp):Prop where
 ex:∃ (f:Addr) (fd:FuncData),FnOk P w K mg base (CXe P w) k f fd ps sp/\mg x=some (.ref f)/\aqo K (.ref f)=true/\Binds K fd ps []
end L2
end
section
namespace L2
open PySem PySem.Spec PyProof.Rows
noncomputable def amz (K:apj):List V->Hp->VK->Prop:=fun xs H Q=>∃ (a:Addr) (bs:List Bool),xs=[.ref a]/\SqL K H a (bs.map V.bl)/\Q (.bl (bs.all id)) H
theorem ad5:∀ {bs:List Bool} {us:List Value},Vals (bs.map V.bl) us->us=bs.map Value.bool
 | [],us,r=>by
  cases r
  rfl
 | b :: bs,us,r=>by
  cases r with
  | cons h t =>
   rw [ad5 t]
   cases (show _=Value.bool b from h)
   rfl
theorem range_all (bs:List Bool):(apK bs.length).all (fun i=>bs.getD i false)=bs.all id:=by
 rw [Bool.eq_iff_iff,arO,arO]
 constructor
 ·intro h b hb
  obtain⟨i,hi,rfl⟩:=List.mem_iff_getElem.mp hb
  have:=h i (apV.mpr hi)
  rwa [apn,aph hi] at this
 ·intro h i hi
  have hi':=apV.mp hi
  rw [apn,aph hi']
  exact h _ (apS hi')
theorem ad6 (prog:Program) (w:World) (A:Around) (bs:List Bool):TruthOf prog w A (fun i v=>(bs.map Value.bool).toArray[i]?=some v) (fun i=>bs.getD i false):=by
 intro i v s Q E hv hq
 rw [List.getElem?_toArray,apt] at hv
 cases eb:bs[i]? with
 | none=>rw [eb] at hv;cases hv
 | some b =>
  rw [eb] at hv
  cases hv
  dsimp only at hq
  rw [apn,eb] at hq
  exact wpAny_pure hq
theorem ahc {X:Cx} (hc:X.calm=true):yN X (.builtin "all") (amz X.K):=by
 intro pins s σ H xs us Q I r h
 obtain⟨a,bs,rfl,hq,q⟩:=h
 obtain⟨u,rfl,r1⟩:=vals1 r
 cases r1
 obtain⟨its,rv,p,_⟩:=I.list hq
 have hl:=p.isList
 rw [ad5 rv] at hl
 have ha:a<s.heap.objs.size:=by
  obtain⟨o,ho,_⟩:=hl
  exact apw ho
 refine call_all_walk (wpAny_pyIter_list hl ?_)
 have hne:a≠s.heap.objs.size:=apU ha
 refine⟨s.heap.objs.size,_,_,_,_,_,_,rfl,Walks.list (show (X.A.in1).handled=none from I.ok.hd hc) _ a hne _,⟨?_,?_⟩,ad6 _ _ _ bs,fun h' tk hk=>?_⟩
 ·exact⟨_,apI _ rfl,rfl,rfl⟩
 ·exact hl.at fun o e=>aps _ e
 ·have kp:∀ b o,s.heap.get? b=some o->h'.get? b=some o:=fun b o e=>hk b o (by
   intro z
   have:=apw e
   rw [apB.mp z] at this
   exact arG _ this) (aps _ e)
  refine⟨.bl _,H,I.kept (t':=tk) kp,?_,q⟩
  show Value.bool _=Value.bool _
  rw [apH,api,range_all]
theorem acj {X:Cx} {K:apj} (hK:X.K=K) (hc:X.calm=true):yN X (.builtin "all") (amz K):=hK▸ahc hc
section
variable {K:apj} {f:Fx} {ρ:zr} {P:PyData->Prop} {te:TE}
theorem abj {H:Hp}:∀ {bs:List Bool} {xs:List V},Reps K H (bs.map .bool) xs->xs=bs.map V.bl
 | [],xs,r=>reps_nil.mp r
 | b :: bs,xs,r=>by
  obtain⟨x,r',rfl,h1,h2⟩:=reps_cons.mp r
  rw [abj h2,rep_bool.mp h1]
  rfl
theorem alB (h:PEd K f te ρ fun x=>∃ bs:List Bool,x=.list (bs.map .bool)/\P (.bool (bs.all id))):PEd K f (tCB (amz K) (yb te jz)) ρ P:=fun σ H Q e q=>h σ H _ e fun x v H1 g1 r1 ⟨bs,ex,p⟩=>by
 subst ex
 obtain⟨a,xs,rfl,h1,h2⟩:=rep_list.mp r1
 rw [abj h2] at h1
 exact⟨a,bs,rfl,(zi _ _).seq h1,q _ _ H1 g1 (rep_bool.mpr rfl) p⟩
end
section
variable {prog:Program} {w:World} {A:Around} {E:Value->Shared->Prop}
theorem ack {I:Addr} {fp wr:List Addr} {n:Nat} {P:Nat->Value->Prop} {St:Nat->Heap->Prop} (W:Walks prog w A I fp wr n P St):∀ (k i:Nat) (s:Shared) (Q:List Value->Shared->Prop),i+k<=n->St i s.heap ->
  (∀ vs h' tk,vs.length=k->(∀ (j:Nat) v,vs[j]?=some v->P (i+j) v)->St (i+k) h'->(∀ b o,b∉wr->s.heap.get? b=some o->h'.get? b=some o)->Q vs { s with heap:=h',toks:=tk })->wpAny (model prog w) A (draw (.ref I) k) Q E s
 | 0,i,s,Q,_,st,hQ=>wpAny_pure (hQ [] s.heap s.toks rfl (fun j v e=>by simp at e) st fun _ _ _ e=>e)
 | k+1,i,s,Q,hle,st,hQ=>by
  show wpAny _ _ (pyNext (.ref I) >>= _) Q E s
  refine wpAny_bind (W.item i s _ E (by omega) st fun v h1 tk1 hv st1 k1=>?_)
  refine wpAny_bind (wpAny_holding (ack W k (i+1) _ _ (by omega) st1 fun vs h2 tk2 hl hp st2 k2=>wpAny_pure ?_))
  refine hQ (v :: vs) h2 tk2 (by rw [apL,hl]) (fun j u e=>?_) (by rw [show i+(k+1)=i+1+k by omega];exact st2) fun b o hb e=>k2 b o hb (k1 b o hb e)
  cases j with
  | zero=>cases e;exact hv
  | succ j =>
   have:=hp j u e
   rwa [show i+(j+1)=i+1+j by omega]
theorem ae8 {s:Shared} {a:Addr} {items:Array Value} {targets:List (Bool×(Value->Sem Unit))} {Q:Unit->Shared->Prop} (hh:A.handled=none) (hl:s.heap.IsList a items)
  (hn:targets.length=items.size) (hstar:targets.findIdx? (·.1)=none)
  (h:∀ h' tk,(∀ b o,s.heap.get? b=some o->h'.get? b=some o)->wpAny (model prog w) A (assignInOrder (targets.map (·.2)) items.toList) Q E { s with heap:=h',toks:=tk }):wpAny (model prog w) A (unpack (.ref a) targets) Q E s:=by
 have ha:a<s.heap.objs.size:=by
  obtain⟨o,ho,_⟩:=hl
  exact apw ho
 unfold unpack
 rw [hn,hstar]
 refine wpAny_bind (wpAny_holding ?_)
 unfold unpackItems
 refine wpAny_bind ?_
 unfold notIterableAtAll
 refine wpAny_bind (wpAny_specialOf hl.typeIs slot_list_iter.lookup (wpAny_pure ?_))
 simp only [apZ,if_false]
 refine wpAny_bind (wpAny_holding (wpAny_pyIter_list hl ?_))
 have W:=Walks.list (prog:=prog) (w:=w) hh s.heap.objs.size a (apU ha) items
 have fr:∀ b o,s.heap.get? b=some o->b∉[s.heap.objs.size]:=fun b o e z=>by
  have:=apw e
  rw [apB.mp z] at this
  exact arG _ this
 refine wpAny_bind (wpAny_holding (ack W items.size 0 _ _ (by omega) ⟨⟨_,apI _ rfl,rfl,rfl⟩,hl.at fun o e=>aps _ e⟩ fun vs h1 tk1 hvl hp st1 k1=>?_))
 have ev:vs=items.toList:=by
  refine ari fun j=>?_
  by_cases hj:j<vs.length
  ·have:=hp j _ (aph hj)
   rw [as0] at this
   rw [aph hj,<- this,arb]
  ·rw [apR (by omega),apR (by rw [apD];omega)]
 subst ev
 rw [if_neg (by simp)]
 rw [as0] at st1
 refine wpAny_bind (wpAny_holding (W.done _ _ _ st1 fun h2 tk2 k2=>?_))
 simp only [Option.isSome_none,apZ,if_false]
 exact wpAny_pure (h h2 tk2 fun b o e=>k2 b o (fr b o e) (k1 b o (fr b o e) (aps _ e)))
end
noncomputable def aoe (K:apj) (n:Nat) (gs:TGs):TG:=fun v σ H Q=>∃ a xs,v=.ref a/\SqL K H a xs/\xs.length=n/\gs xs σ H Q
theorem acV {X:Cx} {K:apj} {es:List Expr} {k:Nat} {t:TGs} {n:Nat} {pos:Pos} (hK:X.K=K) (hc:X.calm=true) (h:PGs X es t)
  (hn:(assignEach es X.env).length=n:=by rfl) (hst:(assignEach es X.env).findIdx? (·.1)=none:=by rfl):PG X (.Tuple es k pos) (aoe K n t):=by
 subst hK
 intro pins s σ H v u Q I r hw
 obtain⟨a,xs,e1,hq,hl,hw⟩:=hw
 subst e1
 cases r
 obtain⟨its,rv,p,hz⟩:=I.list hq
 rw [assign_Tuple]
 refine wpAny_bind (wpAny_standAt (ae8 (I.ok.hd hc) p.isList (by rw [hn,<- hl,rv.length,apH]) hst fun h' tk kp=>?_))
 exact h pins _ σ H xs _ Q (I.kept (t':=tk) kp) rv hw
section
variable {K:apj} {f:Fx} {ρ:zr}
theorem aiw {n:Nat} {gs:TGs} {ds:List PyData} {R:zr->Prop} (hn:ds.length=n) (h:aim K f gs ds ρ R):PGd K f (aoe K n gs) (.list ds) ρ R:=fun σ H v Q e r q=>by
 obtain⟨a,xs,rfl,h1,h2⟩:=rep_list.mp r
 exact⟨a,xs,rfl,(zi _ _).seq h1,by rw [h2.length];exact hn,h σ H xs Q e h2 q⟩
end
noncomputable def ahd (K:apj) (neg:Bool):R2:=fun x y H Q=>∃ d ds,Rep K H d x/\Rep K H (.list ds) y/\d.canLay0=true/\(∀ e∈ds,e.canLay0=true)/\d.depth<=50/\Q (.bl (if neg then !ds.any (fun e=>apP e d) else ds.any (fun e=>apP e d))) H
open Classical in
noncomputable def eqR (h:Heap) (d:PyData) (u:Value):Bool:=if z:∃ e as,Reads h u e as/\e.canLay0=true then apP z.choose d else false
theorem aix {h:Heap} {d e:PyData} {u:Value} {as:List Addr} (r:Reads h u e as) (c:e.canLay0=true):eqR h d u=apP e d:=by
 have z:∃ e as,Reads h u e as/\e.canLay0=true:=⟨e,as,r,c⟩
 unfold eqR
 rw [dif_pos z]
 obtain⟨as',r',c'⟩:=z.choose_spec
 rw [SeqAt.Reads.unique _ _ _ _ _ c' r' r]
section
variable {X:Cx} {pins:List (Addr×Obj)} {σ:St} {H:Hp} {s:Shared}
theorem acW (I:Inv X pins σ H s) {d:PyData}:∀ {ds:List PyData} {xs:List V} {us:List Value},Reps X.K H ds xs->Vals xs us->(∀ e∈ds,e.canLay0=true)->us.any (eqR s.heap d)=ds.any (fun e=>apP e d)
 | [],xs,us,r,v,_=>by
  rw [reps_nil.mp r] at v
  cases v
  rfl
 | e :: ds,xs,us,r,v,c=>by
  obtain⟨x,xs',rfl,h1,h2⟩:=reps_cons.mp r
  cases v with
  | cons r1 r2 =>
   obtain⟨as,ra⟩:=yW I e x _ h1 r1
   rw [asL,asL,aix ra (c e apo),acW I h2 r2 fun e he=>c e (apl _ he)]
theorem abk (I:Inv X pins σ H s) {A:Around} {d:PyData} {v:Value} {bs:List Addr} (rb:Reads s.heap v d bs) (cd:d.canLay0=true) (dd:d.depth<=50) (hu:A.units+60<cLine):∀ {ds:List PyData} {xs:List V} {us:List Value},Reps X.K H ds xs->Vals xs us->(∀ e∈ds,e.canLay0=true)->∀ u∈us,SeqAt.EqAt A s u v (eqR s.heap d u)
 | [],xs,us,r,w,_=>by
  rw [reps_nil.mp r] at w
  cases w
  intro u hu
  cases hu
 | e :: ds,xs,us,r,w,c=>by
  obtain⟨x,xs',rfl,h1,h2⟩:=reps_cons.mp r
  cases w with
  | cons r1 r2 =>
   intro u hm
   rcases apq.mp hm with rfl | hm
   ·obtain⟨as,ra⟩:=yW I e x _ h1 r1
    rw [aix ra (c e apo)]
    refine SeqAt.eqAt_reads e d A s _ v as bs ra rb (c e apo) cd ?_
    have:=Nat.min_le_right e.depth d.depth
    omega
   ·exact abk I rb cd dd hu h2 r2 (fun e he=>c e (apl _ he)) u hm
theorem amA (hu:X.A.units+64<cLine):OpR X (compareOp .In) (ahd X.K false):=by
 intro pins s σ H x y v u Q I rx ry h
 obtain⟨d,ds,h1,h2,c1,c2,dd,q⟩:=h
 obtain⟨a,xs,rfl,hq,hr⟩:=rep_list.mp h2
 cases ry
 obtain⟨bs,rb⟩:=yW I d x v h1 rx
 obtain⟨its,r,pl,hz⟩:=I.list hq
 refine SeqAt.in_listAt (eqR s.heap d) pl.isList (fun w hw=>abk I rb c1 dd (show X.A.in1.units+60<cLine from by show X.A.units+1+60<cLine;omega) hr r c2 w (by simpa using hw)) ⟨.bl _,H,I,rfl,?_⟩
 rw [show its.toArray.any (eqR s.heap d)=its.any (eqR s.heap d) by simp,acW I hr r c2]
 exact q
theorem acX {K:apj} (hK:X.K=K) (hu:X.A.units+64<cLine):OpR X (compareOp .In) (ahd K false):=hK▸amA hu
theorem ahe {K:apj} (hK:X.K=K):OpR X (compareOp .NotIn) (rIn K true):=hK▸acL
end
section
variable {K:apj} {f:Fx} {ρ:zr} {P:PyData->Prop} {te ta tb:TE} {t:TA} {D:DEnds} {i j:Nat}
theorem aiy (h:PEd K f ta ρ fun d=>PEd K f tb ρ fun y=>∃ ds,y=.list ds/\d.canLay0=true/\(∀ e∈ds,e.canLay0=true)/\d.depth<=50/\P (.bool (ds.any fun e=>apP e d))):PEd K f (tOp (ahd K false) ta tb) ρ P:=fun σ H Q e q =>
 h σ H _ e fun d v H1 g1 r1 p1=>p1 σ H1 _ (e.mono g1) fun y w H2 g2 r2 ⟨ds,ey,c1,c2,dd,p2⟩=>by
  subst ey
  exact⟨d,ds,Rep.mono (zi _ _) _ _ (Rep.mono g2.sm _ _ r1),Rep.mono (zi _ _) _ _ r2,c1,c2,dd,q _ _ H2 (g1.trans g2) (rep_bool.mpr rfl) p2⟩
theorem aiz (h:PEd K f ta ρ fun d=>∃ n:Int,d=.int n/\PEd K f tb ρ fun y=>∃ ns:List Int,y=.tuple (ns.map .int)/\P (.bool (!ns.contains n))):PEd K f (tOp (rIn K true) ta tb) ρ P:=fun σ H Q e q =>
 h σ H _ e fun d v H1 g1 r1 ⟨n,ed,p1⟩=>p1 σ H1 _ (e.mono g1) fun y w H2 g2 r2 ⟨ns,ey,p2⟩=>by
  subst ed ey
  obtain⟨a,xs,rfl,h1,h2⟩:=rep_tuple.mp r2
  have ex:=h2.ints
  subst ex
  rw [rep_int.mp r1]
  have e1:inV (.int n) (ns.map V.int)=ns.contains n:=by
   unfold inV
   rw [atA,List.contains_eq_any_beq]
   congr 1
   funext m
   show (m == n)=(n == m)
   exact BEq.comm
  refine⟨a,_,rfl,.inr ((zi _ _).seqT h1),rfl,?_,?_⟩
  ·rw [List.all_map]
   exact arO.mpr fun _ _=>rfl
  ·rw [if_pos rfl,e1]
   exact q _ _ H2 (g1.trans g2) (rep_bool.mpr rfl) p2
theorem aiA (h:PAd K f t ρ fun xs=>∃ d d',xs=[.dat d,.dat d']/\D.nx ((ρ.set i (some (.dat d))).set j (some (.dat d')))):PSd K f (anM i j t) ρ D:=fun σ H E e n r b c =>
 h σ H _ e fun xs vs H1 g1 r1 ⟨d,d',ex,p⟩=>by
  subst ex
  cases r1 with
  | cons ra rs =>
   cases rs with
   | cons rb rs =>
    cases rs
    exact⟨_,_,rfl,n _ _ H1 g1 (((e.mono g1).set i (x:=.dat d) ra).set j (x:=.dat d') rb) p⟩
end
section
variable {K:apj} {f:Fx} {ρ:zr} {D:DEnds}
theorem afY {tc:TT} {tb:TS} (J:zr->Prop) (μ:zr->Nat) (h0:J ρ)
  (hs:∀ ρ',J ρ'->PTd K f tc ρ' fun b=>if b=true then PSd K f tb ρ' { D with nx:=fun r=>J r/\μ r<μ ρ',ct:=fun r=>J r/\μ r<μ ρ',bk:=D.nx } else D.nx ρ'):PSd K f (aeU tc tb) ρ D:=fun σ H E e n r b c=>by
 refine⟨fun m σ' H'=>∃ ρ',EnvOk K f ρ' σ' H'/\Goes f H H'/\J ρ'/\m=μ ρ',⟨_,ρ,e,.refl e.fd,h0,rfl⟩,?_⟩
 rintro m σ1 H1 ⟨ρ1,e1,g1,j1,rfl⟩
 refine hs ρ1 j1 σ1 H1 _ e1 fun t H2 g2 p=>?_
 cases t with
 | true =>
  rw [if_pos rfl] at p ⊢
  refine⟨fun σ' H'=>∃ ρ',EnvOk K f ρ' σ' H'/\Goes f H H'/\J ρ'/\μ ρ'<μ ρ1,fun σ' H' ⟨ρ',e',g',j',l'⟩=>⟨_,l',ρ',e',g',j',rfl⟩,?_⟩
  have gg:=g1.trans g2
  exact p σ1 H2 _ (e1.mono g2) (fun ρ5 σ5 H5 g5 e5 p5=>⟨ρ5,e5,gg.trans g5,p5⟩) (fun d v H5 g5 r5 p5=>r d v H5 (gg.trans g5) r5 p5) (fun ρ5 σ5 H5 g5 e5 p5=>n ρ5 σ5 H5 (gg.trans g5) e5 p5) (fun ρ5 σ5 H5 g5 e5 p5=>⟨ρ5,e5,gg.trans g5,p5⟩)
 | false =>
  rw [if_neg apk] at p ⊢
  exact n ρ1 σ1 H2 (g1.trans g2) (e1.mono g2) p
end
section
variable {K:apj} {f:Fx} {ρ:zr} {E:XK} {te:TE} {ts tu:TS} {tt:TT} {t:TA} {P:PyData->Prop} {D:DEnds}
theorem aof (h:PEd K f te ρ fun x=>∃ i,x=.int i/\P (.int (-i))):PEd K f (tUn (rU fun i=>.int (-i)) te) ρ P :=
 ao7 (h.imp fun x ⟨i,ex,p⟩ v H Q fo r q=>by
  subst ex
  exact⟨i,rep_int.mp r,q _ _ H (.refl fo) (rep_int.mpr rfl) p⟩)
end
section
variable {X:Cx}
theorem ahf (hu:X.A.units+64<cLine):OpR X (compareOp .NotIn) (ahd X.K true):=by
 intro pins s σ H x y v u Q I rx ry h
 obtain⟨d,ds,h1,h2,c1,c2,dd,q⟩:=h
 obtain⟨a,xs,rfl,hq,hr⟩:=rep_list.mp h2
 cases ry
 obtain⟨bs,rb⟩:=yW I d x v h1 rx
 obtain⟨its,r,pl,hz⟩:=I.list hq
 refine SeqAt.notIn_listAt (eqR s.heap d) pl.isList (fun w hw=>abk I rb c1 dd (show X.A.in1.units+60<cLine from by show X.A.units+1+60<cLine;omega) hr r c2 w (by simpa using hw)) ⟨.bl _,H,I,rfl,?_⟩
 rw [show its.toArray.any (eqR s.heap d)=its.any (eqR s.heap d) by simp,acW I hr r c2]
 exact q
theorem abl {K:apj} (hK:X.K=K) (hu:X.A.units+64<cLine):OpR X (compareOp .NotIn) (ahd K true):=hK▸ahf hu
end
section
variable {K:apj} {f:Fx} {ρ:zr} {P:PyData->Prop} {te ta tb:TE}
theorem ad7 (h:PEd K f ta ρ fun d=>PEd K f tb ρ fun y=>∃ ds,y=.list ds/\d.canLay0=true/\(∀ e∈ds,e.canLay0=true)/\d.depth<=50/\P (.bool (!ds.any fun e=>apP e d))):PEd K f (tOp (ahd K true) ta tb) ρ P:=fun σ H Q e q =>
 h σ H _ e fun d v H1 g1 r1 p1=>p1 σ H1 _ (e.mono g1) fun y w H2 g2 r2 ⟨ds,ey,c1,c2,dd,p2⟩=>by
  subst ey
  exact⟨d,ds,Rep.mono (zi _ _) _ _ (Rep.mono g2.sm _ _ r1),Rep.mono (zi _ _) _ _ r2,c1,c2,dd,q _ _ H2 (g1.trans g2) (rep_bool.mpr rfl) p2⟩
end
end L2
end
section
namespace L2
open PySem PySem.Spec PyProof.Rows
noncomputable def amB (K:apj):List V->Hp->VK->Prop:=fun xs H Q=>∃ (a:Addr) (ns:List Int),xs=[.ref a]/\SqL K H a (ns.map V.int)/\Q (.int ns.sum) H
theorem ahg {X:Cx} (hc:X.calm=true):yN X (.builtin "sum") (amB X.K):=by
 intro pins s σ H xs us Q I r h
 obtain⟨a,ns,rfl,hq,q⟩:=h
 obtain⟨u,rfl,r1⟩:=vals1 r
 cases r1
 obtain⟨its,rv,p,_⟩:=I.list hq
 have hl:=p.isList
 have hi:IntsAre its ns:=intsAre_of rv
 obtain⟨zs,ez⟩:=hi.allInts.items
 rw [ez] at hl
 refine sum_intListG (show (X.A).handled=none from I.ok.hd hc) hl fun h' tk t' kp=>⟨.int _,H,I.kept (t':=tk) kp,⟨_,rfl⟩,?_⟩
 have e:preSum (numAt zs) zs.size=ns.sum:=by
  rw [<-hi.numsOf,show its=its.toArray.toList from rfl,ez,nums_intItems,preSum_eq,arx (by simp)]
 rw [e]
 exact q
theorem abm {X:Cx} {K:apj} (hK:X.K=K) (hc:X.calm=true):yN X (.builtin "sum") (amB K):=hK▸ahg hc
section
variable {K:apj} {f:Fx} {ρ:zr} {P:PyData->Prop} {te:TE}
theorem alC (h:PEd K f te ρ fun x=>∃ ns:List Int,x=.list (ns.map .int)/\P (.int ns.sum)):PEd K f (tCB (amB K) (yb te jz)) ρ P:=fun σ H Q e q=>h σ H _ e fun x v H1 g1 r1 ⟨ns,ex,p⟩=>by
 subst ex
 obtain⟨a,xs,rfl,h1,h2⟩:=rep_list.mp r1
 rw [h2.ints] at h1
 exact⟨a,ns,rfl,(zi _ _).seq h1,q _ _ H1 g1 (rep_int.mpr rfl) p⟩
end
section
variable {prog:Program} {w:World} {A:Around} {E:Value->Shared->Prop} {s:Shared}
theorem akh {t b:Addr} {vs ws:List Value} {Q:Value->Shared->Prop} (ht:PlainL s.heap t vs.toArray) (hb:PlainL s.heap b ws.toArray)
  (h2:Q (.ref s.heap.objs.size) { s with heap:=s.heap.push { cls:=.type "list",data:=.seq (vs++ws).toArray } })
  (hsz:vs.length+ws.length<=sizeLine):wpAny (model prog w) A (binaryOp .Add (.ref t) (.ref b)) Q E s:=by
 obtain⟨⟨cls,dd,data,sl⟩,n,ho,hc,_,hd⟩:=ht
 obtain⟨⟨cls2,dd2,data2,sl2⟩,n2,ho2,hc2,_,hd2⟩:=hb
 simp only at hc hd hc2 hd2
 subst hc hd hc2 hd2
 have e:vs.toArray++ws.toArray=(vs++ws).toArray:=by simp
 refine concat_meets ⟨_,ho,rfl⟩ ⟨_,ho2,rfl⟩ noFill_list_add seq_list_add PySem.F.slot_list_add PySem.F.entry_list_add (PySem.F.args_list_add_2 _ _) (list_addW t b vs.toArray ws.toArray n n2 dd dd2 sl sl2 (by rw [apH,apH];exact hsz)) ⟨ho,ho2,?_⟩
 rw [e]
 exact h2
end
noncomputable def aiB (K:apj):R2:=fun x y H Q=>∃ l b xs zs,x=.ref l/\y=.ref b/\SqL K H l xs/\SqL K H b zs/\xs.length+zs.length<=sizeLine/\∀ p,H p=none->Q (.ref p) (upd H p (.lst (xs++zs)))
section
variable {X:Cx}
theorem aki:OpR X (binaryOp .Add) (aiB X.K):=by
 intro pins s σ H x y v u Q I rx ry h
 obtain⟨l,b,xs,zs,rfl,rfl,ha,hb,hz,q⟩:=h
 cases rx
 cases ry
 obtain⟨its,r1,p1,_⟩:=I.list ha
 obtain⟨its2,r2,p2,_⟩:=I.list hb
 refine akh p1 p2 ?_ (by rw [<-r1.length,<- r2.length];exact hz)
 exact⟨.ref _,_,I.lnew (t':=s.toks) (r1.append r2) (by rw [apA];omega),rfl,q _ I.fresh⟩
theorem qU {K:apj} (hK:X.K=K):OpR X (binaryOp .Add) (aiB K):=hK▸aki
end
section
variable {K:apj} {f:Fx} {ρ:zr} {P:PyData->Prop} {te ta tb:TE} {t:TA}
theorem abn (h:PEd K f ta ρ fun x=>∃ ds,x=.list ds/\PEd K f tb ρ fun y=>∃ es,y=.list es/\ds.length+es.length<=1000/\P (.list (ds++es))):PEd K f (tOp (aiB K) ta tb) ρ P:=fun σ H Q e q =>
 h σ H _ e fun x v H1 g1 r1 ⟨ds,ex,p1⟩=>p1 σ H1 _ (e.mono g1) fun y w H2 g2 r2 ⟨es,ey,hl,p2⟩=>by
  subst ex ey
  obtain⟨a,xs,rfl,h1,h2⟩:=rep_list.mp (Rep.mono g2.sm _ _ r1)
  obtain⟨b,ys,rfl,h3,h4⟩:=rep_list.mp r2
  have l1:=h2.length
  have l2:=h4.length
  refine⟨a,b,xs,ys,rfl,rfl,(zi _ _).seq h1,(zi _ _).seq h3,by rw [l1,l2];exact aqj (zY hl),fun p hn=>?_⟩
  have g3:Goes f H2 (upd H2 p (.lst (xs++ys))):=.of_same (yd hn _) g2.ok
  exact q (.list (ds++es)) _ _ (g1.trans (g2.trans g3)) (rep_list.mpr ⟨p,_,rfl,.of (zz (fresh_ne g2.ok hn) zw),Reps.mono g3.sm _ _ (h2.append h4)⟩) p2
theorem aiC {R:List PyData->Prop} (h:PAd K f t ρ fun xs=>∃ ds,jO xs=some ds/\ds.length<=1000/\R ds):PEdO K f (agY t) ρ R:=fun σ H Q e q =>
 h σ H _ e fun xs vs H1 g1 r1 ⟨ds,ea,hl,p⟩=>by
  have rs:=qy r1 ea
  refine⟨by rw [rs.length];exact aqj (zY hl),fun l hn=>?_⟩
  have g2:Goes f H1 (upd H1 l (.lst vs)):=.of_same (yd hn _) g1.2
  have nl:=fresh_ne g1.2 hn
  refine q ds l vs _ (g1.trans g2) (g1.free e.fd hn) zw (Reps.mono (fun b o hb=>?_) _ _ rs) p
  have hb':=zI hb
  have hbl:b≠l:=fun z=>by
   have:=hb'.2
   rw [z,hn] at this
   cases this
  refine zz (fun z=>?_) (by rw [zv hbl];exact hb'.2)
  rcases z with z | z
  ·exact hb'.1 (.inl z)
  ·rcases apq.mp z with z | z
   ·exact hbl z
   ·exact hb'.1 (.inr z)
end
noncomputable def spN {γ:Type} (K:apj) (n:Nat) (pre:γ->List DV->Prop) (post:γ->List PyData->Prop):Sp:=fun vs H Q _=>∃ f xs c,RepVs K f H xs vs/\xs.length=n/\FOk f H/\pre c xs /\
 ∀ es D vs' H',Goes f H H'->H D=none->H' D=some (.lst vs')->Reps K (hide H' (f.with D)) es vs'->post c es->Q (.ref D) H'
noncomputable def PSn (K:apj) (f:Fx) (ts:TS) (ρ:zr) (R:List PyData->Prop):Prop:=∀ (σ:St) (H:Hp) (E:Ends),EnvOk K f ρ σ H ->
 (∀ es D vs H',Goes f H H'->H D=none->H' D=some (.lst vs)->Reps K (hide H' (f.with D)) es vs->R es->E.rt (.ref D) H')->ts E σ H
section
variable {K:apj} {f:Fx} {ρ:zr} {R:List PyData->Prop} {te:TE} {ts tu:TS} {tt:TT} {t:TA} {i:Nat} {D:Addr} {es:List PyData} {O:OEnds}
theorem aog (h:PEdO K f te ρ R):PSn K f (aeS te) ρ R:=fun σ H E e q=>h σ H E.rt e q
theorem aiD (h:PSd K f ts ρ { nx:=fun ρ'=>PSn K f tu ρ' R,rt:=fun _=>False }):PSn K f (qt ts tu) ρ R:=fun σ H E e q =>
 h σ H _ e (fun ρ' σ' H' g' e' p=>p σ' H' E e' fun es D vs H2 g2 hn h1 rs r=>q es D vs H2 (g'.trans g2) (g'.free e.fd hn) h1 rs r) (fun _ _ _ _ _ z=>z.elim) (fun _ _ _ _ _ z=>z.elim) (fun _ _ _ _ _ z=>z.elim)
theorem acY {γ:Type} {n:Nat} {pre:γ->List DV->Prop} {post:γ->List PyData->Prop} {E:XK} (c:γ) (h:PAd K f t ρ fun xs=>xs.length=n/\pre c xs/\∀ es,post c es->R es):PEdO K f (ab7 (spN K n pre post) [] E t) ρ R:=fun σ H Q e q =>
 h σ H _ e fun xs vs H1 g1 r1 ⟨hl,hp,k⟩=>⟨f,xs,c,by rw [apY];exact r1,hl,g1.2,hp,fun es D vs' H' g' hn h1 rs p=>q es D vs' H' (g1.trans g') (g1.free e.fd hn) h1 rs (k es p)⟩
end
section
variable {P:Program} {w:World} {K:apj} {mg:Str->Option Value} {base:Heap} {k:Nat} {x:Str} {st:Stmt} {ps:List Str} {N:List Str} {n:Nat} {γ:Type} {pre:γ->List DV->Prop} {post:γ->List PyData->Prop}
theorem Def.okN (F:Def K mg x st ps) (S:FnScope N ps (zk st)) (hn:ps.length=n)
  (h:∀ (fa:Addr) (cdv:Value) (A:Around) (outer:List Env) (s:Shared) (H:Hp) (E:XK),Room k (A.deeper (envOfC x (zk st) s.heap.objs.size fa cdv)) ->
   ∃ t,PSs (yn CX0 P w K mg base N x (zk st) fa cdv A outer s H E).nox (yC st) t/\∀ (f:Fx) (xs:List DV) (c:γ),xs.length=n->pre c xs->PSn K f t (qz N xs) (post c)) :
  FnIn P w K mg base (k+1) x ps (spN K n pre post):=by
 obtain⟨fa,fd,F1,F2,F3⟩:=F.ex
 refine⟨fa,fd,F1.ok S (fun vs H Q E h=>?_) (fun cdv A outer s H vs Q E hr hs=>?_),F3,F1.kp,F2⟩
 ·obtain⟨f,xs,c,r,hl,_⟩:=h
  rw [r.length,hl,hn]
 ·obtain⟨f,xs,c,r,hl,fo,hp,q⟩:=hs
  obtain⟨t,h1,h2⟩:=h fa cdv A outer s H E hr
  exact⟨t,h1,h2 f xs c hl hp (start N vs) H _ (qh r fo) (fun es D vs' H' g hn' h1' rs p=>q es D vs' H' g hn' h1' rs p)⟩
end
section
variable {X:Cx} {pins:List (Addr×Obj)} {σ:St} {H:Hp} {s:Shared} {h':Heap}
theorem Inv.laidL {t':Nat} {D:Addr} {o:HO} (I:Inv X pins σ H s) (k:∀ b u,b≠X.env.locals->s.heap.get? b=some u->h'.get? b=some u) (hL:∃ o,h'.get? X.env.locals=some o) (ns:∀ m,s.heap.Ns X.env.locals m->h'.Ns X.env.locals m)
  (nD:∀ b u,s.heap.get? b=some u->b≠D) (hD:H D=none) (new:ObjOk X.prog X.w (upd H D o) h' D o):Inv X pins σ (upd H D o) { s with heap:=h',toks:=t' }:=by
 have fL:H X.env.locals=none:=I.free
 refine I.step (g':=s.gens) (d':=s.drawn) (ch:=[]) (fun _ z=>nomatch z) (fun b o n _ _ e _=>k b o n e) (fun b o n _ _ e _=>⟨o.slots,k b o n e⟩) (fun b u _ e n=>by rw [zv (nD b u e)];exact n) (fun b o _ e=>?_) (fun b xs e=>by rw [zv (zJ e hD)];exact e) (fun b u v e=>by rw [zv (zJ e hD)];exact e) (fun b ps e=>⟨#[],by rw [zv (zJ e hD),Array.append_empty];exact e⟩) ns (fun a u e=>?_) I.bare
 ·by_cases hb:b=X.env.locals
  ·subst hb;exact hL
  ·exact⟨o,k b o hb e⟩
 ·by_cases ha:a=D
  ·subst ha
   rw [zw] at e
   cases e
   exact new
  ·rw [zv ha] at e
   refine (I.hok a u e).stay (fun b v hb q=>k b v (fun z=>?_) q) (fun c q=>by rw [zv (zJ q hD)];exact q) fun c xs q=>by rw [zv (zJ q hD)];exact q
   rcases hb with hb | hb
   ·rw [<-hb,z,fL] at e;cases e
   ·rw [z,fL] at hb;cases hb
end
end L2
end
section
namespace L2
open PySem PySem.W PyProof.Rows
structure Tot (n:Nat) (lt:Nat->Nat->Bool):Prop where
 tri:∀ i j,i<n->j<n->i≠j->lt i j=!lt j i
 tra:∀ i j k,i<n->j<n->k<n->lt i j=true->lt j k=true->lt i k=true
noncomputable def Ans (cmp:Nat->Nat->(Bool->Shared->Prop)->Shared->Prop) (n:Nat) (lt:Nat->Nat->Bool) (s:Shared):Prop:=∀ i j C,i<n->j<n->C (lt i j) s->cmp i j C s
noncomputable def Pm (n:Nat) (p:Array Nat):Prop:=p.toList.Perm (apK n)
noncomputable def Up (lt:Nat->Nat->Bool) (p:Array Nat) (m:Nat):Prop:=∀ i j,i<j->j<m->lt (p.getD i 0) (p.getD j 0)=true
noncomputable def Dn (lt:Nat->Nat->Bool) (p:Array Nat) (m:Nat):Prop:=∀ i j,i<j->j<m->lt (p.getD j 0) (p.getD i 0)=true
theorem Pm.size {n:Nat} {p:Array Nat} (h:Pm n p):p.size=n:=by
 have:=h.length_eq
 rwa [apD,aqa] at this
theorem jT (p:Array Nat) (i:Nat):p.getD i 0=p.toList.getD i 0:=by
 by_cases h:i<p.size <;> simp [ary,h,atH]
theorem Pm.lt {n:Nat} {p:Array Nat} (h:Pm n p) {i:Nat} (hi:i<n):p.getD i 0<n:=by
 have hs:=h.size
 have hl:i<p.toList.length:=by rw [apD,hs];exact hi
 rw [jT,apn,aph hl]
 exact apV.mp (h.mem_iff.mp (apS hl))
theorem Pm.ne {n:Nat} {p:Array Nat} (h:Pm n p) {i j:Nat} (hi:i<n) (hj:j<n) (ne:i≠j):p.getD i 0≠p.getD j 0:=by
 have hs:=h.size
 have nd:p.toList.Nodup:=h.nodup_iff.mpr asT
 have li:i<p.toList.length:=by rw [apD,hs];exact hi
 have lj:j<p.toList.length:=by rw [apD,hs];exact hj
 rw [jT,jT,apn,apn,aph li,aph lj]
 intro e
 exact ne ((ase nd).mp e)
theorem Pm.range (n:Nat):Pm n (aqr (apK n)):=List.Perm.refl _
theorem Pm.of {n:Nat} {p q:Array Nat} (h:Pm n p) (e:q.Perm p):Pm n q:=(Array.perm_iff_toList_perm.mp e).trans h
theorem afZ {p q:Array Nat} {i j:Nat} (h:p[i]?=q[j]?):p.getD i 0=q.getD j 0:=by
 rw [aq5,aq5,h]
section
variable {cmp:Nat->Nat->(Bool->Shared->Prop)->Shared->Prop} {n:Nat} {lt:Nat->Nat->Bool} {s:Shared} {p:Array Nat}
theorem Up.more (T:Tot n lt) (hp:Pm n p) {m:Nat} (h1:1<=m) (hm:m<n) (u:Up lt p m) (h:lt (p.getD (m - 1) 0) (p.getD m 0)=true):Up lt p (m+1):=fun i j hij hj=>by
 by_cases e:j=m
 ·subst e
  by_cases e2:i=j - 1
  ·subst e2;exact h
  ·exact T.tra _ _ _ (hp.lt (by omega)) (hp.lt (by omega)) (hp.lt hm) (u i (j - 1) (by omega) (by omega)) h
 ·exact u i j hij (by omega)
theorem Dn.more (T:Tot n lt) (hp:Pm n p) {m:Nat} (h1:1<=m) (hm:m<n) (u:Dn lt p m) (h:lt (p.getD m 0) (p.getD (m - 1) 0)=true):Dn lt p (m+1):=fun i j hij hj=>by
 by_cases e:j=m
 ·subst e
  by_cases e2:i=j - 1
  ·subst e2;exact h
  ·exact T.tra _ _ _ (hp.lt hm) (hp.lt (by omega)) (hp.lt (by omega)) h (u i (j - 1) (by omega) (by omega))
 ·exact u i j hij (by omega)
theorem aaQ (T:Tot n lt) (W:Ans cmp n lt s) (hp:Pm n p) {Q:Nat->Shared->Prop}:∀ f m,1<=m->m+f<=n->Up lt p m->(∀ m',m<=m'->m'<=m+f->Up lt p m'->(m'=m+f \/ lt (p.getD m' 0) (p.getD (m' - 1) 0)=true)->Q m' s)->(kas_asc p f m).kasWp cmp Q s
 | 0,m,h1,hf,u,q=>q m (apr _) (apr _) u (.inl rfl)
 | f+1,m,h1,hf,u,q=>by
  refine W _ _ _ (hp.lt (by omega)) (hp.lt (by omega)) ?_
  cases e:lt (p.getD m 0) (p.getD (m - 1) 0) with
  | true=>exact q m (apr _) (by omega) u (.inr e)
  | false =>
   have e2:lt (p.getD (m - 1) 0) (p.getD m 0)=true:=by
    rw [T.tri _ _ (hp.lt (by omega)) (hp.lt (by omega)) (hp.ne (by omega) (by omega) (by omega)),e]
    rfl
   exact aaQ T W hp f (m+1) (by omega) (by omega) (u.more T hp h1 (by omega) e2) fun m' a b c d=>q m' (by omega) (by omega) c (d.imp (fun z=>by omega) id)
theorem ad8 (T:Tot n lt) (W:Ans cmp n lt s) (hp:Pm n p) {Q:Array Nat×Nat×Nat->Shared->Prop}:∀ f m,1<=m->m+f<=n->Dn lt p m->(∀ m',m<=m'->m'<=m+f->Dn lt p m'->Q (p,m',0) s)->(kas_desc f p m 0).kasWp cmp Q s
 | 0,m,h1,hf,u,q=>q m (apr _) (apr _) u
 | f+1,m,h1,hf,u,q=>by
  refine W _ _ _ (hp.lt (by omega)) (hp.lt (by omega)) ?_
  cases e:lt (p.getD m 0) (p.getD (m - 1) 0) with
  | true=>exact ad8 T W hp f (m+1) (by omega) (by omega) (u.more T hp h1 (by omega) e) fun m' a b c=>q m' (by omega) (by omega) c
  | false =>
   have e2:lt (p.getD (m - 1) 0) (p.getD m 0)=true:=by
    rw [T.tri _ _ (hp.lt (by omega)) (hp.lt (by omega)) (hp.ne (by omega) (by omega) (by omega)),e]
    rfl
   refine W _ _ _ (hp.lt (by omega)) (hp.lt (by omega)) ?_
   rw [e2]
   exact q m (apr _) (by omega) u
theorem amC {m:Nat} (hm:m<=p.size) (d:Dn lt p m):Up lt (kas_rev p 0 m) m:=fun i j hij hj=>by
 have g:∀ k,k<m->(kas_rev p 0 m).getD k 0=p.getD (m - 1 - k) 0:=fun k hk=>afZ (by
  unfold kas_rev
  rw [getElem?_mirror_all hm,if_pos ⟨ap2 _,hk⟩,as0])
 rw [g i (by omega),g j hj]
 exact d _ _ (by omega) (by omega)
theorem ahh (T:Tot n lt) (W:Ans cmp n lt s) (hp:Pm n p) (hn:1<=n) {Q:Nat×Array Nat->Shared->Prop} (q:∀ m p',1<=m->m<=n->Pm n p'->Up lt p' m->Q (m,p') s):(kas_count n p).kasWp cmp Q s:=by
 unfold kas_count
 rw [KasT.kasWp_bind]
 refine aaQ T W hp (n - 1) 1 (apr _) (by omega) (fun i j a b=>by omega) fun m h1 h2 u c=>?_
 by_cases e:(m == n)=true
 ·rw [if_pos e]
  exact q m p h1 (by omega) hp u
 ·rw [if_neg e]
  have hm:m<n:=by
   have:m≠n:=fun z=>e (by rw [z];exact beq_self_eq_true _)
   omega
  by_cases e2:m > 1
  ·rw [if_pos e2]
   refine W _ _ _ (hp.lt (by omega)) (hp.lt (by omega)) ?_
   rw [u 0 (m - 1) (by omega) (by omega)]
   exact q m p h1 (by omega) hp u
  ·rw [if_neg e2]
   obtain rfl:m=1:=by omega
   have c':lt (p.getD 1 0) (p.getD (1 - 1) 0)=true:=c.resolve_left (by omega)
   unfold kas_descPart
   rw [KasT.kasWp_bind]
   refine ad8 T W hp (n - (1+1)) (1+1) (by omega) (by omega) (Dn.more T hp (apr 1) hm (fun i j a b=>by omega) c') fun m' a b d=>?_
   rw [if_neg (by show ¬ (0 > 0);omega)]
   unfold kas_tail3
   rw [KasT.kasWp_bind]
   have hp2:Pm n (kas_rev p 0 m'):=hp.of (mirror_perm _ _ _ _)
   exact aaQ T W hp2 (n - m') m' (by omega) (by omega) (amC (by rw [hp.size];omega) d) fun m2 a2 b2 u2 _=>q m2 _ (by omega) (by omega) hp2 u2
theorem aae (T:Tot n lt) (W:Ans cmp n lt s) (hp:Pm n p) {k:Nat} (hk:k<n) (u:Up lt p k) {Q:Nat->Shared->Prop}:∀ f l r,r - l<=f->l<=r->r<=k->(∀ i,i<l->lt (p.getD i 0) (p.getD k 0)=true)->(∀ i,r<=i->i<k->lt (p.getD k 0) (p.getD i 0)=true) ->
  (∀ m,m<=k->(∀ i,i<m->lt (p.getD i 0) (p.getD k 0)=true)->(∀ i,m<=i->i<k->lt (p.getD k 0) (p.getD i 0)=true)->Q m s)->(kas_place p k f l r).kasWp cmp Q s
 | 0,l,r,hf,hlr,hr,lo,hi,q=>by
  obtain rfl:l=r:=by omega
  exact q l hr lo hi
 | f+1,l,r,hf,hlr,hr,lo,hi,q=>by
  unfold kas_place
  by_cases e:l >= r
  ·rw [if_pos e]
   obtain rfl:l=r:=by omega
   exact q l hr lo hi
  ·rw [if_neg e]
   refine W _ _ _ (hp.lt hk) (hp.lt (by omega)) ?_
   have hm:(l+r) / 2<k:=by omega
   cases e2:lt (p.getD k 0) (p.getD ((l+r) / 2) 0) with
   | true =>
    refine aae T W hp hk u f l ((l+r) / 2) (by omega) (by omega) (by omega) lo (fun i h1 h2=>?_) q
    by_cases e3:i=(l+r) / 2
    ·rw [e3];exact e2
    ·exact T.tra _ _ _ (hp.lt hk) (hp.lt (by omega)) (hp.lt (by omega)) e2 (u _ _ (by omega) h2)
   | false =>
    have e4:lt (p.getD ((l+r) / 2) 0) (p.getD k 0)=true:=by
     rw [T.tri _ _ (hp.lt (by omega)) (hp.lt hk) (hp.ne (by omega) hk (by omega)),e2]
     rfl
    refine aae T W hp hk u f ((l+r) / 2+1) r (by omega) (by omega) hr (fun i h1=>?_) hi q
    by_cases e3:i=(l+r) / 2
    ·rw [e3];exact e4
    ·exact T.tra _ _ _ (hp.lt (by omega)) (hp.lt (by omega)) (hp.lt hk) (u _ _ (by omega) hm) e4
theorem amD {k m:Nat} (hk:k<p.size) (hm:m<=k) (u:Up lt p k) (lo:∀ i,i<m->lt (p.getD i 0) (p.getD k 0)=true) (hi:∀ i,m<=i->i<k->lt (p.getD k 0) (p.getD i 0)=true):Up lt (bubble p k (k - m)) (k+1):=fun i j hij hj=>by
 have g:∀ t,t<=k->(bubble p k (k - m)).getD t 0=p.getD (if t=m then k else if t<m then t else t - 1) 0:=fun t ht=>afZ (by
  rw [getElem?_bubble hk (k - m) (by omega),show k - (k - m)=m by omega]
  by_cases e1:t=m
  ·rw [if_pos e1,if_pos e1]
  ·rw [if_neg e1,if_neg e1]
   by_cases e2:t<m
   ·rw [if_neg (by omega),if_pos e2]
   ·rw [if_pos (by omega),if_neg e2])
 rw [g i (by omega),g j (by omega)]
 by_cases a1:i=m
 ·rw [if_pos a1,if_neg (by omega),if_neg (by omega)]
  exact hi _ (by omega) (by omega)
 ·rw [if_neg a1]
  by_cases a2:j=m
  ·rw [if_pos a2,if_pos (by omega)]
   exact lo _ (by omega)
  ·rw [if_neg a2]
   by_cases a3:i<m
   ·rw [if_pos a3]
    by_cases a4:j<m
    ·rw [if_pos a4];exact u _ _ hij (by omega)
    ·rw [if_neg a4];exact u _ _ (by omega) (by omega)
   ·rw [if_neg a3,if_neg (by omega)]
    exact u _ _ (by omega) (by omega)
theorem af0 (T:Tot n lt) (W:Ans cmp n lt s) {Q:Array Nat->Shared->Prop}:∀ f k (p:Array Nat),Pm n p->k+f=n->Up lt p k->(∀ p',Pm n p'->Up lt p' n->Q p' s)->(kas_bin f p k).kasWp cmp Q s
 | 0,k,p,hp,hf,u,q=>by
  obtain rfl:k=n:=by omega
  exact q p hp u
 | f+1,k,p,hp,hf,u,q=>by
  unfold kas_bin
  rw [KasT.kasWp_bind]
  refine aae T W hp (by omega) u k 0 k (by omega) (ap2 _) (apr _) (fun i hi=>by omega) (fun i a b=>by omega) fun m h1 lo hi=>?_
  exact af0 T W f (k+1) _ (hp.of (bubble_perm _ _ _)) (by omega) (amD (by rw [hp.size];omega) h1 u lo hi) q
theorem aiE (T:Tot n lt) (W:Ans cmp n lt s) (hn:1<=n) {Q:Array Nat->Shared->Prop} (q:∀ p,Pm n p->Up lt p n->Q p s):(kas_sort n).kasWp cmp Q s:=by
 unfold kas_sort
 rw [KasT.kasWp_bind]
 refine ahh T W (Pm.range n) hn fun m p h1 h2 hp u=>?_
 by_cases e:m<n
 ·show (if m<n then _ else _:KasT (Array Nat)).kasWp cmp Q s
  rw [if_pos e,show max m 1=m by omega]
  exact af0 T W (n - m) m p hp (by omega) u q
 ·show (if m<n then _ else _:KasT (Array Nat)).kasWp cmp Q s
  rw [if_neg e]
  obtain rfl:m=n:=by omega
  exact q p hp u
end
end L2
end
section
namespace L2
open PySem PySem.W PySem.Calls PyProof.Rows
theorem acm:∀ f n r,r<=1->minRun' f n r<=n+1
 | 0,n,r,h=>by show n+r<=n+1;omega
 | f+1,n,r,h=>by
  rw [minRun'_succ]
  by_cases e:n<64
  ·rw [if_pos e];omega
  ·rw [if_neg e]
   have:=acm f (n / 2) (max r (n % 2)) (by omega)
   omega
theorem ae9 {n:Nat} (h:1<=n):minRun' n n 0<=n:=by
 obtain⟨f,rfl⟩:∃ f,n=f+1:=⟨n - 1,by omega⟩
 rw [minRun'_succ]
 by_cases e:f+1<64
 ·rw [if_pos e];omega
 ·rw [if_neg e]
  have:=acm f ((f+1) / 2) (max 0 ((f+1) % 2)) (by omega)
  omega
section
variable {P:Program} {w:World} {A:Around} {X:Value->Shared->Prop} {s:Shared} {κ:SortKind} {it:Array Keyed} {n:Nat} {lt:Nat->Nat->Bool} {Q:SortSt->Shared->Prop}
theorem akj (W:Ans (kas_cmp P w A κ it) n lt s) (T:Tot n lt) (h2:2<=n) (up:∀ i,i+1<n->lt (i+1) i=false)
  (q:∀ st',arrOf st'=(aqr (apK n)).map (kas_item it)->failedOf st'=none->Q st' s):kasC (model P w) A X sortRuns' (fun _ st' s'=>Q st' s') (kas_st κ it (aqr (apK n))) s:=by
 obtain⟨r,rfl⟩:∃ r,n=r+2:=⟨n - 2,by omega⟩
 have sz:(aqr (apK (r+2))).size=r+2:=by simp
 have szA:(arrOf (kas_st κ it (aqr (apK (r+2))))).size=r+2:=by
  show (Array.map _ _).size=_
  rw [atk,sz]
 have mr:=ae9 (n:=r+2) (by omega)
 have at_:∀ i,i<r+2->(aqr (apK (r+2))).getD i 0=i:=fun i hi=>by simp [ary,hi]
 have cnt:(kas_count (r+2) (aqr (apK (r+2)))).kasWp (kas_cmp P w A κ it) (fun z s'=>z=(r+2,aqr (apK (r+2)))/\s'=s) s:=by
  unfold kas_count
  rw [KasT.kasWp_bind]
  refine aaQ T W (Pm.range _) (r+2 - 1) 1 (apr _) (by omega) (fun i j a b=>by omega) fun m a b u c=>?_
  have e:m=r+2:=by
   rcases c with c | c
   ·omega
   ·by_cases hm:m<r+2
    ·rw [at_ m hm,at_ (m - 1) (by omega)] at c
     have:=up (m - 1) (by omega)
     rw [show m - 1+1=m by omega,c] at this
     cases this
    ·omega
  subst e
  rw [if_pos (beq_self_eq_true _)]
  exact⟨rfl,rfl⟩
 rw [sortRuns'_eq]
 apply kasC_bind;apply kasC_get
 simp only [szA]
 apply kasC_bind;apply kasC_range
 change kasC _ _ _ (forIn (0 :: 1 :: List.range' 2 r) _ _) _ _ _
 apply kasC_cons
 simp only [atz,as0,show ¬ (0 >= r+2) by omega,if_false]
 refine kasC_bind (kas_count_ (by omega) (arw sz.symm) (fun m p' s' _ _ _ z=>?_) cnt)
 obtain⟨z,rfl⟩:=z
 cases z
 simp only [show ¬ (r+2<minRun' (r+2) (r+2) 0) by omega,if_false]
 apply kasC_bind;apply kasC_get
 change kasC _ _ _ (modify (fun st=>setPending st ((pendingOf st).push (0,r+2,0))) >>= _) _ _ _
 apply kasC_bind;apply kasC_modify;apply kasC_pure
 apply kasC_cons
 simp only [show r+2 >= r+2 from apr _,if_true]
 apply kasC_pure
 apply kasC_bind;apply kasC_range
 change kasC _ _ _ (forIn (0 :: 1 :: List.range' 2 r) _ _) _ _ _
 apply kasC_cons
 apply kasC_bind;apply kasC_get
 rw [if_pos (show (pendingOf (setPending (kas_st κ it (aqr (apK (r+2)))) ((pendingOf (kas_st κ it (aqr (apK (r+2))))).push (0,r+2,0)))).size<=1 from apr 1)]
 apply kasC_pure
 exact kasC_pure (q _ rfl rfl)
theorem aiF (W:Ans (kas_cmp P w A κ it) n lt s) (T:Tot n lt) (h2:2<=n) (hs:n<64 \/ ∀ i,i+1<n->lt (i+1) i=false)
  (q:∀ st' p,Pm n p->Up lt p n->arrOf st'=p.map (kas_item it)->failedOf st'=none->Q st' s):kasC (model P w) A X sortRuns' (fun _ st' s'=>Q st' s') (kas_st κ it (aqr (apK n))) s:=by
 rcases hs with hs | hs
 ·exact kas_runs h2 hs (G:=fun p s'=>s'=s/\Pm n p/\Up lt p n) (fun p st' s' _ e f ⟨z,a,b⟩=>by subst z;exact q st' p a b e f) (aiE T W (by omega) fun p a b=>⟨rfl,a,b⟩)
 ·refine akj W T h2 hs fun st' e f=>q st' _ (Pm.range n) (fun i j hij hj=>?_) e f
  have at_:∀ i,i<n->(aqr (apK n)).getD i 0=i:=fun i hi=>by simp [ary,hi]
  rw [at_ i (by omega),at_ j hj]
  have key:∀ d,i+d+1<n->lt i (i+d+1)=true:=fun d=>by
   induction d with
   | zero=>intro hd;rw [T.tri _ _ (by omega) hd (by omega),hs i hd];rfl
   | succ d ih =>
    intro hd
    refine T.tra _ (i+d+1) _ (by omega) (by omega) hd (ih (by omega)) ?_
    rw [T.tri _ _ (by omega) hd (by omega),show i+(d+1)+1=i+d+1+1 by omega,hs (i+d+1) (by omega)]
    rfl
  have:=key (j - i - 1) (by omega)
  rwa [show i+(j - i - 1)+1=j by omega] at this
end
section
variable {P:Program} {w:World} {A:Around} {X:Value->Shared->Prop} {s:Shared} {κ:SortKind} {vs:List Value} {lt:Nat->Nat->Bool}
structure Asks (P:Program) (w:World) (A:Around) (s:Shared) (κ:SortKind) (vs:List Value) (lt:Nat->Nat->Bool):Prop where
 kind:2<=vs.length->∀ (h':Heap),(∀ b o,s.heap.get? b=some o->h'.get? b=some o)->∀ R:SortKind->Shared->Prop,R κ { s with heap:=h' }->wpAny (model P w) A (keyKind' vs.toArray) R (fun _ _=>False) { s with heap:=h' }
 less:∀ (h':Heap),(∀ b o,s.heap.get? b=some o->h'.get? b=some o)->Ans (kas_ask P w A κ vs) vs.length lt { s with heap:=h' }
 ord:Tot vs.length lt
 few:vs.length<64 \/ ∀ i,i+1<vs.length->lt (i+1) i=false
theorem akk {a:Addr} {e:Nat} {R:PySem.Fin->Shared->Prop} (hz:vs.length<=sizeLine) (ha:s.heap.get? a=some (seqObj "list" vs.toArray e)) {h0:Heap} (h0s:∀ b o,h0.get? b=some o->b≠a/\s.heap.get? b=some o) (K:Asks P w A { s with heap:=h0 } κ vs lt)
  (q:∀ (h':Heap) p c,Pm vs.length p->Up lt p vs.length->(∀ b o,b≠a->s.heap.get? b=some o->h'.get? b=some o)->h'.get? a=some (seqObj "list" (p.toList.map fun i=>vs.getD i Value.none).toArray c)->R (.done (.ret .none)) { s with heap:=h' }) :
  wpAny (model P w) A (Builtin.«list.sort» ⟨[.ref a],[]⟩) R X s:=by
 let h1:=s.heap.update a (ar2 fun _=>(#[]:Array Value))
 obtain⟨e1,a1⟩:∃ e1,h1.get? a=some (seqObj "list" #[] e1):=⟨_,get?_update_seq ha fun _=>#[]⟩
 let h2':=(h1.push (seqObj "tuple" vs.toArray 0)).push (seqObj "list" #[] 0)
 have a2:h2'.get? a=some (seqObj "list" #[] e1):=aps _ (aps _ a1)
 have k2:∀ b o,b≠a->s.heap.get? b=some o->h2'.get? b=some o:=fun b o nb eb=>aps _ (aps _ ((arv _ _ (arh nb)).trans eb))
 have kz:∀ b o,h0.get? b=some o->h2'.get? b=some o:=fun b o eb=>k2 b o (h0s b o eb).1 (h0s b o eb).2
 rw [list_sort_plain]
 apply wpAny_bind;apply listItems_at ha rfl
 apply wpAny_bind;refine listUpdate_at ha rfl ?_ (by simpa using hz) (ap2 _)
 apply wpAny_bind;apply seqEpoch_at a1 rfl
 apply wpAny_bind;refine wpAny_newTuple ?_ (by simpa using hz)
 apply wpAny_bind;refine wpAny_newList ?_ (ap2 _)
 apply wpAny_holding
 dsimp only
 change wpAny _ A _ _ _ { s with heap:=h2' }
 have st0:SortSt.mk' κ (vs.toArray.zip vs.toArray) #[] 7 none=kas_st κ (pairsOf vs) (aqr (apK vs.length)):=by
  have z:=kas_range (pairsOf vs)
  rw [pairsOf_size] at z
  unfold kas_st
  rw [z]
  rfl
 have fin:∀ (st':SortSt) (p:Array Nat),Pm vs.length p->Up lt p vs.length->arrOf st'=p.map (kas_item (pairsOf vs))->failedOf st'=none->wpAny (model P w) A (do
   let sorted:=(arrOf st').map (·.2)
   let touched:=(<- seqEpoch a) != e1
   Builtin.List.listUpdate (.ref a) fun _=>sorted
   if let some e:=failedOf st' then rule "list.sort.comparison-raised";throw e
   if touched then rule "list.sort.modified";raiseError "ValueError" "list modified during sort"
   ret .none) R X { s with heap:=h2' }:=fun st' p x1 x2 x3 x4=>by
  have out:(arrOf st').map (·.2)=(p.toList.map fun i=>vs.getD i Value.none).toArray:=by
   apply asU.mp
   rw [x3,Array.map_map,Array.toList_map]
   refine aql fun i _=>?_
   show (kas_item (pairsOf vs) i).2=_
   rw [kas_item_eq]
  dsimp only
  rw [out,x4]
  obtain⟨c,a3⟩:∃ c,(h2'.update a (ar2 fun _=>(p.toList.map fun i=>vs.getD i Value.none).toArray)).get? a=some (seqObj "list" (p.toList.map fun i=>vs.getD i Value.none).toArray c):=⟨_,get?_update_seq a2 fun _=>(p.toList.map fun i=>vs.getD i Value.none).toArray⟩
  apply wpAny_bind;apply seqEpoch_at a2 rfl
  apply wpAny_bind
  refine listUpdate_at a2 rfl ?_ (ap2 _) (by
   rw [apH,api,apD,x1.size];omega)
  simp only [bne_self_eq_false,apZ,if_false]
  exact wpAny_pure (q _ p c x1 x2 (fun b o nb eb=>(arv _ _ (arh nb)).trans (k2 b o nb eb)) a3)
 by_cases h2:vs.length<2
 ·have two:vs.toArray.size<2:=by rw [apH];exact h2
  rw [if_pos two,if_pos two]
  apply wpAny_bind;apply wpAny_pure
  apply wpAny_bind
  rw [StateT.run_pure]
  apply wpAny_pure
  have z:=kas_range (pairsOf vs)
  rw [pairsOf_size] at z
  exact fin _ (aqr (apK vs.length)) (Pm.range _) (fun i j x y=>by omega) z.symm rfl
 have two:¬ vs.toArray.size<2:=by rw [apH];exact h2
 rw [if_neg two,if_neg two]
 apply wpAny_bind
 refine wpAny_mono (K.kind (by omega) h2' kz (fun κ' s'=>κ'=κ/\s'={ s with heap:=h2' }) ⟨rfl,rfl⟩) ?_ fun _ _ z=>z.elim
 rintro κ' s' ⟨eκ,es⟩
 rw [eκ,es]
 have W:=K.less h2' kz
 rw [kas_ask_eq] at W
 rw [st0]
 apply wpAny_bind
 refine wpAny_mono (aiF (Q:=fun st' s'=>s'={ s with heap:=h2' }/\∃ p,Pm vs.length p/\Up lt p vs.length/\arrOf st'=p.map (kas_item (pairsOf vs))/\failedOf st'=none) W K.ord (by omega) K.few fun st' p x1 x2 x3 x4=>⟨rfl,p,x1,x2,x3,x4⟩) ?_ fun _ _ z=>z
 rintro⟨⟨⟩,st'⟩ s' ⟨rfl,p,x1,x2,x3,x4⟩
 exact fin st' p x1 x2 x3 x4
end
mutual
noncomputable def zH:PyData->Bool
 | .int _=>true
 | .str s=>(PyData.str s).canLay0
 | .tuple xs=>zT xs
 | _=>false
noncomputable def zT:List PyData->Bool
 | []=>true
 | x :: xs=>zH x && zT xs
end
mutual
noncomputable def ltD:PyData->PyData->Bool
 | .int a,.int b=>decide (a<b)
 | .str a,.str b=>decide (a.cps.toList<b.cps.toList)
 | .tuple xs,.tuple ys=>ltL xs ys
 | .int _,.str _=>true
 | .int _,.tuple _=>true
 | .str _,.tuple _=>true
 | _,_=>false
noncomputable def ltL:List PyData->List PyData->Bool
 | [],[]=>false
 | [],_ :: _=>true
 | _ :: _,[]=>false
 | x :: xs,y :: ys=>if apP x y=true then ltL xs ys else ltD x y
end
mutual
noncomputable def acZ:PyData->PyData->Bool
 | .int _,.int _=>true
 | .str _,.str _=>true
 | .tuple xs,.tuple ys=>ac0 xs ys
 | _,_=>false
noncomputable def ac0:List PyData->List PyData->Bool
 | [],_=>true
 | _ :: _,[]=>true
 | x :: xs,y :: ys=>if apP x y=true then ac0 xs ys else acZ x y
end
mutual
theorem yT:∀ d:PyData,zH d=true->d.canLay0=true
 | .int _,_=>rfl
 | .str _,h=>h
 | .tuple xs,h=>by rw [PyData.canLay0];exact abo xs (by rw [zH] at h;exact h)
 | .none,h=>by cases h
 | .bool _,h=>by cases h
 | .list _,h=>by cases h
 | .dict _,h=>by cases h
theorem abo:∀ xs:List PyData,zT xs=true->PyData.canLayAll0 xs=true
 | [],_=>rfl
 | x :: xs,h=>by
  rw [zT,apu] at h
  rw [PyData.canLayAll0,yT x h.1,abo xs h.2]
  rfl
end
mutual
theorem aiG:∀ a b:PyData,zH a=true->zH b=true->apP a b=true->a=b
 | .int a,.int b,_,_,h=>by simpa [apP] using h
 | .str a,.str b,_,_,h=>by simpa [apP] using h
 | .tuple xs,.tuple ys,h1,h2,h=>by rw [af1 xs ys (by rw [zH] at h1;exact h1) (by rw [zH] at h2;exact h2) (by rw [apP] at h;exact h)]
 | .int _,.str _,_,_,h=>by simp [apP] at h
 | .int _,.tuple _,_,_,h=>by simp [apP] at h
 | .str _,.int _,_,_,h=>by simp [apP] at h
 | .str _,.tuple _,_,_,h=>by simp [apP] at h
 | .tuple _,.int _,_,_,h=>by simp [apP] at h
 | .tuple _,.str _,_,_,h=>by simp [apP] at h
 | .none,_,h,_,_=>by cases h
 | .bool _,_,h,_,_=>by cases h
 | .list _,_,h,_,_=>by cases h
 | .dict _,_,h,_,_=>by cases h
 | .int _,.none,_,h,_=>by cases h
 | .int _,.bool _,_,h,_=>by cases h
 | .int _,.list _,_,h,_=>by cases h
 | .int _,.dict _,_,h,_=>by cases h
 | .str _,.none,_,h,_=>by cases h
 | .str _,.bool _,_,h,_=>by cases h
 | .str _,.list _,_,h,_=>by cases h
 | .str _,.dict _,_,h,_=>by cases h
 | .tuple _,.none,_,h,_=>by cases h
 | .tuple _,.bool _,_,h,_=>by cases h
 | .tuple _,.list _,_,h,_=>by cases h
 | .tuple _,.dict _,_,h,_=>by cases h
theorem af1:∀ xs ys:List PyData,zT xs=true->zT ys=true->asN xs ys=true->xs=ys
 | [],[],_,_,_=>rfl
 | [],_ :: _,_,_,h=>by simp [asN] at h
 | _ :: _,[],_,_,h=>by simp [asN] at h
 | x :: xs,y :: ys,h1,h2,h=>by
  rw [zT,apu] at h1 h2
  rw [asN,apu] at h
  rw [aiG x y h1.1 h2.1 h.1,af1 xs ys h1.2 h2.2 h.2]
end
theorem aaR {a b:PyData} (ha:zH a=true) (hb:zH b=true):apP a b=true↔a=b :=
 ⟨aiG a b ha hb,fun h=>by subst h;exact SeqAt.eqv_refl a (yT a ha)⟩
theorem qj {x y:PyData} {xs ys:List PyData} (hx:zH x=true) (hy:zH y=true) [Decidable (x=y)]:ltL (x :: xs) (y :: ys)=if x=y then ltL xs ys else ltD x y:=by
 rw [ltL]
 by_cases h:x=y
 ·rw [if_pos ((aaR hx hy).mpr h),if_pos h]
 ·rw [if_neg (fun z=>h ((aaR hx hy).mp z)),if_neg h]
theorem aiH {a b:List Nat} (h:a≠b):decide (a<b)=!decide (b<a):=by
 by_cases h1:a<b
 ·rw [decide_eq_true h1,decide_eq_false (fun z=>List.lt_irrefl a (List.lt_trans h1 z))]
  rfl
 ·have h2:b<a:=by
   have:b<=a:=List.not_lt.mp h1
   rcases List.le_iff_lt_or_eq.mp this with z | z
   ·exact z
   ·exact absurd z.symm h
  rw [decide_eq_false h1,decide_eq_true h2]
  rfl
theorem amE {a b:Str} (h:a≠b):a.cps.toList≠b.cps.toList:=fun z=>h (by
 cases a;cases b
 simp only [Str.mk.injEq] at *
 exact asU.mp z)
mutual
theorem afa:∀ a b:PyData,zH a=true->zH b=true->a≠b->ltD a b=!ltD b a
 | .int a,b,ha,hb,ne=>by
  cases b with
  | int b =>
   rw [ltD,ltD]
   have:a≠b:=fun z=>ne (by rw [z])
   by_cases h:a<b
   ·rw [decide_eq_true h,decide_eq_false (by omega)];rfl
   ·rw [decide_eq_false h,decide_eq_true (by omega)];rfl
  | str b=>simp [ltD]
  | tuple ys=>simp [ltD]
  | none=>cases hb
  | bool _=>cases hb
  | list _=>cases hb
  | dict _=>cases hb
 | .str a,b,ha,hb,ne=>by
  cases b with
  | int b=>simp [ltD]
  | str b =>
   rw [ltD,ltD]
   exact aiH (amE fun z=>ne (by rw [z]))
  | tuple ys=>simp [ltD]
  | none=>cases hb
  | bool _=>cases hb
  | list _=>cases hb
  | dict _=>cases hb
 | .tuple xs,b,ha,hb,ne=>by
  cases b with
  | int b=>simp [ltD]
  | str b=>simp [ltD]
  | tuple ys =>
   rw [ltD,ltD]
   rw [zH] at ha hb
   exact af2 xs ys ha hb fun z=>ne (by rw [z])
  | none=>cases hb
  | bool _=>cases hb
  | list _=>cases hb
  | dict _=>cases hb
 | .none,_,h,_,_=>by cases h
 | .bool _,_,h,_,_=>by cases h
 | .list _,_,h,_,_=>by cases h
 | .dict _,_,h,_,_=>by cases h
theorem af2:∀ xs ys:List PyData,zT xs=true->zT ys=true->xs≠ys->ltL xs ys=!ltL ys xs
 | [],[],_,_,ne=>absurd rfl ne
 | [],_ :: _,_,_,_=>by simp [ltL]
 | _ :: _,[],_,_,_=>by simp [ltL]
 | x :: xs,y :: ys,h1,h2,ne=>by
  rw [zT,apu] at h1 h2
  have:=aqn (x=y)
  have:=aqn (y=x)
  rw [qj h1.1 h2.1,qj h2.1 h1.1]
  by_cases e:x=y
  ·rw [if_pos e,if_pos e.symm]
   exact af2 xs ys h1.2 h2.2 fun z=>ne (by rw [e,z])
  ·rw [if_neg e,if_neg (arh e)]
   exact afa x y h1.1 h2.1 e
end
mutual
theorem qA:∀ a:PyData,zH a=true->ltD a a=false
 | .int a,_=>by rw [ltD];exact decide_eq_false (Int.lt_irrefl a)
 | .str a,_=>by rw [ltD];exact decide_eq_false (List.lt_irrefl _)
 | .tuple xs,h=>by rw [ltD];rw [zH] at h;exact af3 xs h
 | .none,h=>by cases h
 | .bool _,h=>by cases h
 | .list _,h=>by cases h
 | .dict _,h=>by cases h
theorem af3:∀ xs:List PyData,zT xs=true->ltL xs xs=false
 | [],_=>by rw [ltL]
 | x :: xs,h=>by
  rw [zT,apu] at h
  have:=aqn (x=x)
  rw [qj h.1 h.1,if_pos rfl]
  exact af3 xs h.2
end
theorem lt_asymm {a b:PyData} (ha:zH a=true) (hb:zH b=true) (h:ltD a b=true):a≠b:=fun z=>by
 subst z
 rw [qA a ha] at h
 cases h
mutual
theorem abp:∀ a b c:PyData,zH a=true->zH b=true->zH c=true->ltD a b=true->ltD b c=true->ltD a c=true
 | .int a,b,c,ha,hb,hc,h1,h2=>by
  cases b <;> first | (cases hb;done) | skip
  all_goals cases c <;> first | (cases hc;done) | skip
  all_goals first | (simp [ltD] at h1 h2 ⊢;omega) | (simp [ltD] at h1 h2 ⊢;done) | (simp [ltD] at h1;done) | (simp [ltD] at h2;done)
 | .str a,b,c,ha,hb,hc,h1,h2=>by
  cases b <;> first | (cases hb;done) | skip
  all_goals cases c <;> first | (cases hc;done) | skip
  all_goals first | (simp [ltD] at h1;done) | (simp [ltD] at h2;done) | (rw [ltD] at h1 h2 ⊢;exact decide_eq_true (List.lt_trans (of_decide_eq_true h1) (of_decide_eq_true h2))) | (simp [ltD] at h1 h2 ⊢;done)
 | .tuple xs,b,c,ha,hb,hc,h1,h2=>by
  cases b with
  | tuple ys =>
   cases c with
   | tuple zs =>
    rw [ltD] at h1 h2 ⊢
    rw [zH] at ha hb hc
    exact af4 xs ys zs ha hb hc h1 h2
   | int _=>simp [ltD] at h2
   | str _=>simp [ltD] at h2
   | none=>cases hc
   | bool _=>cases hc
   | list _=>cases hc
   | dict _=>cases hc
  | int _=>simp [ltD] at h1
  | str _=>simp [ltD] at h1
  | none=>cases hb
  | bool _=>cases hb
  | list _=>cases hb
  | dict _=>cases hb
 | .none,_,_,h,_,_,_,_=>by cases h
 | .bool _,_,_,h,_,_,_,_=>by cases h
 | .list _,_,_,h,_,_,_,_=>by cases h
 | .dict _,_,_,h,_,_,_,_=>by cases h
theorem af4:∀ xs ys zs:List PyData,zT xs=true->zT ys=true->zT zs=true->ltL xs ys=true->ltL ys zs=true->ltL xs zs=true
 | [],ys,[],_,_,_,h1,h2=>by
  cases ys with
  | nil=>exact h1
  | cons y ys=>simp [ltL] at h2
 | [],_,_ :: _,_,_,_,_,_=>by rw [ltL]
 | _ :: _,[],_,_,_,_,h1,_=>by simp [ltL] at h1
 | _ :: _,_ :: _,[],_,_,_,_,h2=>by simp [ltL] at h2
 | x :: xs,y :: ys,z :: zs,p1,p2,p3,h1,h2=>by
  rw [zT,apu] at p1 p2 p3
  have:=aqn (x=y)
  have:=aqn (y=z)
  have:=aqn (x=z)
  rw [qj p1.1 p2.1] at h1
  rw [qj p2.1 p3.1] at h2
  rw [qj p1.1 p3.1]
  by_cases e1:x=y
  ·rw [if_pos e1] at h1
   by_cases e2:y=z
   ·rw [if_pos e2] at h2
    rw [if_pos (e1.trans e2)]
    exact af4 xs ys zs p1.2 p2.2 p3.2 h1 h2
   ·rw [if_neg e2] at h2
    rw [if_neg (fun q=>e2 (e1.symm.trans q)),e1]
    exact h2
  ·rw [if_neg e1] at h1
   by_cases e2:y=z
   ·rw [if_neg (fun q=>e1 (q.trans e2.symm)),<- e2]
    exact h1
   ·rw [if_neg e2] at h2
    have h3:=abp x y z p1.1 p2.1 p3.1 h1 h2
    rw [if_neg (lt_asymm p1.1 p3.1 h3)]
    exact h3
end
end L2
end
section
namespace L2
open PySem PySem.Spec PyProof.Rows PySem.SeqAt
open PySem.AutoSeq1 (wpAny_loadPart')
open PySem.MeetsSeq PySem.MeetsSeq2 PySem.MeetsSeq3
noncomputable def aoh (A:Around) (s:Shared) (y x:Value) (b:Bool):Prop :=
 ∀ (prog:Program) (w:World) (E:Value->Shared->Prop) (Q:Value->Shared->Prop),Q (.bool b) s->wpAny (model prog w) A (richCompare .Lt y x) Q E s
inductive Lex (A:Around) (s:Shared):List Value->List Value->Bool->Prop where
 | nn:Lex A s [] [] false
 | nc {w ws}:Lex A s [] (w :: ws) true
 | cn {v vs}:Lex A s (v :: vs) [] false
 | eq {v w vs ws b}:EqAt A s v w true->Lex A s vs ws b->Lex A s (v :: vs) (w :: ws) b
 | lt {v w vs ws b}:EqAt A s v w false->aoh A s v w b->Lex A s (v :: vs) (w :: ws) b
theorem ac1 (l m:Addr) (xs ys:Array Value) (n n2:Nat) (dd dd2:Option Addr) (sl sl2:Array (Option Value)) (c:Bool) :
  Meets (Builtin.«tuple.__lt__» ⟨[.ref l,.ref m],[]⟩)
   (fun A R s=>s.heap.get? l=some { cls:=.type "tuple",dict:=dd,data:=.seq xs n,slots:=sl }/\s.heap.get? m=some { cls:=.type "tuple",dict:=dd2,data:=.seq ys n2,slots:=sl2 } /\
    Lex A.in1 s xs.toList ys.toList c/\R (.ok (.ret (.bool c))) s) :=
 .of_wp fun prog w A R s h=>by
  obtain⟨hp,g,d,tk,os⟩:=s;obtain⟨hl,hb,hx,h⟩:=h
  have f2:=AutoSeq1.sub_tuple_tuple
  wp_walk using wpAny_loadPart' hl,wpAny_loadPart' hb,wpAny_forIn_list _ (fun rest b s'=>b.1=none/\s'=⟨hp,g,d,tk,os⟩/\∃ (vs ws:List Value),rest=vs.zip ws/\Lex A.in1 ⟨hp,g,d,tk,os⟩ vs ws c/\vs.length+ys.size=ws.length+xs.size) _
  case turn =>
   rintro⟨y,x⟩ rest b s' ⟨hb',rfl,vs,ws,hz,lx,hn⟩
   cases lx with
   | nn=>cases hz
   | nc=>cases hz
   | cn=>cases hz
   | eq he lx' =>
    rw [arz] at hz
    cases hz
    refine wpAny_bind (he prog w _ _ ?_)
    wp_walk
    exact⟨rfl,rfl,_,_,rfl,lx',by simp only [apL] at hn;omega⟩
   | lt he hlt =>
    rw [arz] at hz
    cases hz
    refine wpAny_bind (he prog w _ _ ?_)
    have hri:=hlt prog w
    wp_walk using hri
    exact⟨_,rfl,h⟩
  case fin =>
   rintro⟨b1,b2⟩ s' ⟨hb',rfl,vs,ws,hz,lx,hn⟩
   simp only at hb'
   subst hb'
   have hv:decide (xs.size<ys.size)=c:=by
    cases lx with
    | nn=>simp only [arC] at hn;exact decide_eq_false (by omega)
    | nc=>simp only [arC,apL] at hn;exact decide_eq_true (by omega)
    | cn=>simp only [arC,apL] at hn;exact decide_eq_false (by omega)
    | eq _ _=>cases hz
    | lt _ _=>cases hz
   wp_walk
   rw [<-hv] at h
   exact⟨_,rfl,by simpa [Builtin.Tuple.tupleCompareSizes] using h⟩
  case h=>exact⟨rfl,rfl,_,_,rfl,hx,by simp only [apD];omega⟩
mutual
theorem ad9:∀ (da db:PyData) (A:Around) (s:Shared) (a b:Value) (as bs:List Addr),Reads s.heap a da as->Reads s.heap b db bs->zH da=true->zH db=true->acZ da db=true ->
  A.units+max da.depth db.depth<cLine->aoh A s a b (ltD da db)
 | .int x,db,A,s,_,_,_,_,ra,rb,_,_,hc,hu=>by
  cases ra with
  | int _ t =>
   cases db with
   | int y =>
    cases rb with
    | int _ u =>
     intro prog w E Q q
     exact HT.rcLt_int A s x t y u prog w E Q (by rw [ltD] at q;exact q)
   | _=>cases hc
 | .str x,db,A,s,_,_,_,_,ra,rb,_,_,hc,hu=>by
  cases ra with
  | str _ t =>
   cases db with
   | str y =>
    cases rb with
    | str _ u =>
     intro prog w E Q q
     exact (PyProof.Rows.lt_str (by rw [ltD] at q;exact q):wpAny (model prog w) A (compareOp .Lt (.str x t) (.str y u)) Q E s)
   | _=>cases hc
 | .tuple xs,db,A,s,_,_,_,_,ra,rb,pa,pb,hc,hu=>by
  cases ra with
  | @tuple l o vs n _ as h1 h2 h3 h4 =>
   cases db with
   | tuple ys =>
    cases rb with
    | @tuple m o2 ws n2 _ bs k1 k2 k3 k4 =>
     intro prog w E Q q
     obtain⟨cls,dd,data,sl⟩:=o
     obtain⟨cls2,dd2,data2,sl2⟩:=o2
     simp only at h2 h3 k2 k3
     subst h2 h3 k2 k3
     rw [zH] at pa pb
     rw [acZ] at hc
     rw [ltD] at q
     have hd:A.in1.units+max (apE xs) (apE ys)<cLine:=by
      have e1:(PyData.tuple xs).depth=apE xs+1:=rfl
      have e2:(PyData.tuple ys).depth=apE ys+1:=rfl
      have e3:A.in1.units=A.units+1:=rfl
      rw [e1,e2] at hu
      omega
     have lx:=acn xs ys A.in1 s _ _ _ _ h4 k4 pa pb hc hd
     exact richCompare_meets_room (op:=.Lt) ⟨_,h1,rfl⟩ ⟨_,k1,rfl⟩ PySem.F.slot_tuple_lt PySem.F.entry_tuple_lt (PySem.F.args_tuple_lt_2 _ _) (ac1 l m vs ws n n2 dd dd2 sl sl2 (ltL xs ys))
      ⟨h1,k1,lx,show Value.bool (ltL xs ys)≠Value.notImplemented/\Q (.bool (ltL xs ys)) s from⟨(fun x=>nomatch x),q⟩⟩ (by omega)
   | _=>cases hc
 | .none,_,_,_,_,_,_,_,_,_,h,_,_,_=>by cases h
 | .bool _,_,_,_,_,_,_,_,_,_,h,_,_,_=>by cases h
 | .list _,_,_,_,_,_,_,_,_,_,h,_,_,_=>by cases h
 | .dict _,_,_,_,_,_,_,_,_,_,h,_,_,_=>by cases h
theorem acn:∀ (xs ys:List PyData) (A:Around) (s:Shared) (vs ws:List Value) (as bs:List Addr),ReadsAll s.heap vs xs as->ReadsAll s.heap ws ys bs->zT xs=true->zT ys=true->ac0 xs ys=true ->
  A.units+max (apE xs) (apE ys)<cLine->Lex A s vs ws (ltL xs ys)
 | [],[],_,_,_,_,_,_,ra,rb,_,_,_,_=>by cases ra;cases rb;rw [ltL];exact .nn
 | [],_ :: _,_,_,_,_,_,_,ra,rb,_,_,_,_=>by cases ra;cases rb;rw [ltL];exact .nc
 | _ :: _,[],_,_,_,_,_,_,ra,rb,_,_,_,_=>by cases ra;cases rb;rw [ltL];exact .cn
 | x :: xs,y :: ys,A,s,_,_,_,_,ra,rb,pa,pb,hc,hu=>by
  cases ra with
  | cons r rs =>
   cases rb with
   | cons r' rs' =>
    rw [zT,apu] at pa pb
    rw [ac0] at hc
    rw [ltL]
    have e1:apE (x :: xs)=max x.depth (apE xs):=rfl
    have e2:apE (y :: ys)=max y.depth (apE ys):=rfl
    rw [e1,e2] at hu
    have eq:=eqAt_reads x y A s _ _ _ _ r r' (yT x pa.1) (yT y pb.1) (by omega)
    by_cases e:apP x y=true
    ·rw [if_pos e] at hc ⊢
     rw [e] at eq
     exact .eq eq (acn xs ys A s _ _ _ _ rs rs' pa.2 pb.2 hc (by omega))
    ·rw [if_neg e] at hc ⊢
     rw [Bool.not_eq_true] at e
     rw [e] at eq
     exact .lt eq (ad9 x y A s _ _ _ _ r r' pa.1 pb.1 hc (by omega))
end
end L2
end
section
namespace L2
open PySem PySem.Spec PyProof.Rows PySem.SeqAt PySem.W
section
variable {P:Program} {w:World} {A:Around} {s:Shared} {b:Bool} {Q:Bool->Shared->Prop}
theorem ac2 {fin:Bool} {x y:PyData} {p q:Value} {r:List (Value×Value)} {i:Nat} {as bs:List Addr} {c:Bool} (rx:Reads s.heap p x as) (ry:Reads s.heap q y bs) (px:zH x=true) (py:zH y=true) (hu:A.units+max x.depth y.depth<cLine)
  (h1:apP x y=true->KatLex P w A b fin Q r (i+1) s) (h2:apP x y=false->wpAny (model P w) A (oneLt' (b && i == 0) p q) Q (fun _ _=>False) s):KatLex P w A b fin Q ((p,q) :: r) i s:=by
 refine kat_cons (eqAt_reads x y A s _ _ _ _ rx ry (yT x px) (yT y py) (by omega) P w _ _ ?_)
 exact kat_go (fun e=>kat_yes (h1 e)) fun e=>kat_no (h2 e)
theorem vM {m n:Nat}:∀ (xs ys:List PyData) (vs ws:List Value) (as bs:List Addr) (i:Nat),(1<=i \/ b=false)->ReadsAll s.heap vs xs as->ReadsAll s.heap ws ys bs->zT xs=true->zT ys=true->ac0 xs ys=true ->
  A.units+max (apE xs) (apE ys)<cLine->xs.length+n=ys.length+m->Q (ltL xs ys) s->KatLex P w A b (decide (m<n)) Q (vs.zip ws) i s
 | [],[],_,_,_,_,i,_,ra,rb,_,_,_,_,hl,q=>by
  cases ra;cases rb
  rw [ltL] at q
  simp only [arC] at hl
  rw [decide_eq_false (show ¬ m<n by omega)]
  exact kat_nil q
 | [],y :: ys,_,_,_,_,i,_,ra,rb,_,_,_,_,hl,q=>by
  cases ra;cases rb
  rw [ltL] at q
  simp only [arC,apL] at hl
  rw [decide_eq_true (show m<n by omega)]
  exact kat_nil q
 | x :: xs,[],_,_,_,_,i,_,ra,rb,_,_,_,_,hl,q=>by
  cases ra;cases rb
  rw [ltL] at q
  simp only [arC,apL] at hl
  rw [decide_eq_false (show ¬ m<n by omega),List.zip_nil_right]
  exact kat_nil q
 | x :: xs,y :: ys,_,_,_,_,i,hi,ra,rb,pa,pb,hc,hu,hl,q=>by
  cases ra with
  | cons r rs =>
   cases rb with
   | cons r' rs' =>
    rw [zT,apu] at pa pb
    rw [ac0] at hc
    rw [ltL] at q
    have e1:apE (x :: xs)=max x.depth (apE xs):=rfl
    have e2:apE (y :: ys)=max y.depth (apE ys):=rfl
    rw [e1,e2] at hu
    simp only [apL] at hl
    rw [arz]
    refine ac2 (c:=true) r r' pa.1 pb.1 (by omega) (fun e=>?_) fun e=>?_
    ·rw [if_pos e] at hc q
     exact vM xs ys _ _ _ _ (i+1) (.inl (by omega)) rs rs' pa.2 pb.2 hc (by omega) (by omega) q
    ·rw [if_neg (by rw [e];exact apk)] at hc q
     have ef:(b && i == 0)=false:=by
      rcases hi with hi | hi
      ·rw [show (i == 0)=false from beq_eq_false_iff_ne.mpr (by omega),asz]
      ·rw [hi];rfl
     rw [ef]
     exact kat_one _ _ (ad9 x y A s _ _ _ _ r r' pa.1 pb.1 hc (by omega) P w _ _ q)
end
noncomputable def qk:PyData->Option String
 | .tuple (.int _ :: _)=>some "int"
 | .tuple (.str _ :: _)=>some "str"
 | .tuple (.tuple _ :: _)=>some "tuple"
 | _=>none
structure SortOk (T:String) (ds:List PyData):Prop where
 plain:∀ d∈ds,zH d=true
 head:∀ d∈ds,qk d=some T
 cmp:∀ d∈ds,∀ e∈ds,acZ d e=true
 depth:∀ d∈ds,d.depth<=50
 nd:ds.Nodup
theorem qV {d:PyData} {T:String} (h:qk d=some T):∃ x xs,d=.tuple (x :: xs)/\((T="int"/\∃ n,x=.int n) \/ (T="str"/\∃ n,x=.str n) \/ (T="tuple"/\∃ n,x=.tuple n)):=by
 unfold qk at h
 split at h
 ·cases h;exact⟨_,_,rfl,.inl ⟨rfl,_,rfl⟩⟩
 ·cases h;exact⟨_,_,rfl,.inr (.inl ⟨rfl,_,rfl⟩)⟩
 ·cases h;exact⟨_,_,rfl,.inr (.inr ⟨rfl,_,rfl⟩)⟩
 ·cases h
section
variable {P:Program} {w:World} {A:Around} {s:Shared} {T:String}
theorem amF {d e:PyData} {v u:Value} {as bs:List Addr} {C:Bool->Shared->Prop} (rd:Reads s.heap v d as) (re:Reads s.heap u e bs) (pd:zH d=true) (pe:zH e=true) (hd:qk d=some T) (he:qk e=some T) (hc:acZ d e=true)
  (hu:A.units+60<cLine) (d1:d.depth<=50) (d2:e.depth<=50) (q:C (ltD d e) s):wpAny (model P w) A (keyLt' (tuples' (Value.type T != Value.type "tuple")) v u) C (fun _ _=>False) s:=by
 obtain⟨x,xs,rfl,hx⟩:=qV hd
 obtain⟨y,ys,rfl,hy⟩:=qV he
 cases rd with
 | @tuple l o vs n _ as h1 h2 h3 h4 =>
  cases re with
  | @tuple m o2 ws n2 _ bs k1 k2 k3 k4 =>
   have l1:=asd _ _ _ h4
   have l2:=asd _ _ _ k4
   rw [apD] at l1 l2
   refine kat_lt h1 h3 k1 k3 ?_
   rw [zH] at pd pe
   rw [acZ] at hc
   rw [ltD] at q
   have e1:(PyData.tuple (x :: xs)).depth=apE (x :: xs)+1:=rfl
   have e2:(PyData.tuple (y :: ys)).depth=apE (y :: ys)+1:=rfl
   have e3:apE (x :: xs)=max x.depth (apE xs):=rfl
   have e4:apE (y :: ys)=max y.depth (apE ys):=rfl
   rcases hx with⟨rfl,nx,rfl⟩ | ⟨rfl,nx,rfl⟩ | ⟨rfl,nx,rfl⟩
   ·obtain⟨ny,rfl⟩:∃ ny,y=.int ny:=by
     rcases hy with⟨_,h⟩ | ⟨z,_⟩ | ⟨z,_⟩
     ·exact h
     ·exact absurd z (by decide)
     ·exact absurd z (by decide)
    obtain⟨vl⟩:=vs
    obtain⟨wl⟩:=ws
    cases h4 with
    | cons r rs =>
     cases k4 with
     | cons r' rs' =>
      rw [zT,apu] at pd pe
      rw [ac0] at hc
      rw [ltL] at q
      rw [arz]
      refine ac2 (c:=true) r r' rfl rfl (by omega) (fun e=>?_) fun e=>?_
      ·rw [if_pos e] at hc q
       exact vM xs ys _ _ _ _ 1 (.inl (apr 1)) rs rs' pd.2 pe.2 hc (by omega) (by simp only [apL] at l1 l2;omega) q
      ·rw [if_neg (by rw [e];exact apk)] at q
       rw [show ((Value.type "int" != Value.type "tuple") && (0 == 0))=true by decide]
       cases r
       cases r'
       rw [ltD] at q
       exact oneLt_int q
   ·obtain⟨ny,rfl⟩:∃ ny,y=.str ny:=by
     rcases hy with⟨z,_⟩ | ⟨_,h⟩ | ⟨z,_⟩
     ·exact absurd z (by decide)
     ·exact h
     ·exact absurd z (by decide)
    obtain⟨vl⟩:=vs
    obtain⟨wl⟩:=ws
    cases h4 with
    | cons r rs =>
     cases k4 with
     | cons r' rs' =>
      rw [zT,apu] at pd pe
      rw [ac0] at hc
      rw [ltL] at q
      rw [arz]
      refine ac2 (c:=true) r r' pd.1 pe.1 (by omega) (fun e=>?_) fun e=>?_
      ·rw [if_pos e] at hc q
       exact vM xs ys _ _ _ _ 1 (.inl (apr 1)) rs rs' pd.2 pe.2 hc (by omega) (by simp only [apL] at l1 l2;omega) q
      ·rw [if_neg (by rw [e];exact apk)] at q
       rw [show ((Value.type "str" != Value.type "tuple") && (0 == 0))=true by decide]
       cases r
       cases r'
       rw [ltD] at q
       exact oneLt_str q
   ·exact vM _ _ _ _ _ _ 0 (.inr (by decide)) h4 k4 pd pe hc (by omega) (by rw [l1,l2];omega) q
theorem ReadsAll.at {h:Heap}:∀ {vs:List Value} {ds:List PyData} {as:List Addr},ReadsAll h vs ds as->∀ i,i<ds.length->∃ bs,Reads h (vs.getD i Value.none) (ds.getD i .none) bs
 | _,_,_,.nil,i,hi=>absurd hi (aqZ _)
 | _,_,_,.cons r rs,0,_=>⟨_,r⟩
 | _,_,_,.cons r rs,i+1,hi=>ReadsAll.at rs i (Nat.lt_of_succ_lt_succ hi)
theorem ReadsAll.keep {h h':Heap} (k:∀ b o,h.get? b=some o->h'.get? b=some o):∀ {vs:List Value} {ds:List PyData} {as:List Addr},ReadsAll h vs ds as->ReadsAll h' vs ds as
 | _,_,_,.nil=>.nil
 | _,_,_,.cons r rs=>.cons (PyProof.Rows.Reads.keeps k r) (ReadsAll.keep k rs)
theorem af5 {h:Heap}:∀ {vs:List Value} {ds:List PyData} {as:List Addr},ReadsAll h vs ds as->(∀ d∈ds,qk d=some T)->∃ fs,KatTups h vs fs/\fs.length=vs.length/\∀ v∈fs,Looks (model P w) h (typeOf v) (.type T)
 | _,_,_,.nil,_=>⟨[],.nil,rfl,fun _ h=>nomatch h⟩
 | _,d :: ds,_,.cons r rs,hh=>by
  obtain⟨fs,h1,h2,h3⟩:=af5 rs fun d hd=>hh d (apl _ hd)
  obtain⟨x,xs,rfl,hx⟩:=qV (hh d apo)
  cases r with
  | @tuple l o vs n _ as k1 k2 k3 k4 =>
   obtain⟨vl⟩:=vs
   cases k4 with
   | @cons v0 vs0 _ _ _ _ r0 rs0 =>
    refine⟨v0 :: fs,.cons k1 k2 k3 rfl h1,by simp [h2],fun v hv=>?_⟩
    rcases apq.mp hv with rfl | hv
    ·rcases hx with⟨rfl,nx,rfl⟩ | ⟨rfl,nx,rfl⟩ | ⟨rfl,nx,rfl⟩
     ·cases r0;exact Looks.of_pure rfl
     ·cases r0;exact Looks.of_pure rfl
     ·cases r0 with
      | tuple q1 q2 q3 q4=>rw [<-q2];exact (Looks.ld q1).andThen .now
    ·exact h3 v hv
theorem amG {ds:List PyData} (ok:SortOk T ds):Tot ds.length fun i j=>ltD (ds.getD i .none) (ds.getD j .none):=by
 have mem:∀ i,i<ds.length->ds.getD i .none∈ds:=fun i hi=>by
  rw [apn,aph hi]
  exact apS hi
 refine⟨fun i j hi hj ne=>afa _ _ (ok.plain _ (mem i hi)) (ok.plain _ (mem j hj)) fun z=>ne ?_,fun i j k hi hj hk=>abp _ _ _ (ok.plain _ (mem i hi)) (ok.plain _ (mem j hj)) (ok.plain _ (mem k hk))⟩
 rw [apn,apn,aph hi,aph hj] at z
 exact (ase ok.nd).mp z
theorem akl {vs:List Value} {ds:List PyData} {as:List Addr} (ra:ReadsAll s.heap vs ds as) (ok:SortOk T ds) (hu:A.units+60<cLine) (few:ds.length<64 \/ ds.Pairwise fun d e=>ltD d e=true) :
  Asks P w A s (tuples' (Value.type T != Value.type "tuple")) vs fun i j=>ltD (ds.getD i .none) (ds.getD j .none):=by
 have len:=asd _ _ _ ra
 have mem:∀ i,i<ds.length->ds.getD i .none∈ds:=fun i hi=>by
  rw [apn,aph hi]
  exact apS hi
 refine⟨fun h2 h' k R q=>?_,fun h' k i j C hi hj q=>?_,by rw [len];exact amG ok,?_⟩
 ·obtain⟨fs,f1,f2,f3⟩:=af5 (P:=P) (w:=w) (ReadsAll.keep k ra) ok.head
  exact kat_kind f1 (by omega) f3 (beq_self_eq_true _) q
 ·rw [len] at hi hj
  obtain⟨b1,r1⟩:=ReadsAll.at (ReadsAll.keep k ra) i hi
  obtain⟨b2,r2⟩:=ReadsAll.at (ReadsAll.keep k ra) j hj
  exact amF r1 r2 (ok.plain _ (mem i hi)) (ok.plain _ (mem j hj)) (ok.head _ (mem i hi)) (ok.head _ (mem j hj)) (ok.cmp _ (mem i hi) _ (mem j hj)) hu (ok.depth _ (mem i hi)) (ok.depth _ (mem j hj)) q
 ·rw [len]
  refine few.imp id fun pw i hi=>?_
  have h1:=arR.mp pw i (i+1) (by omega) hi (by omega)
  have g:∀ j (hj:j<ds.length),ds.getD j .none=ds[j]:=fun j hj=>by rw [apn,aph hj];rfl
  rw [g _ hi,g i (by omega)]
  have ne:=lt_asymm (ok.plain _ (apS _)) (ok.plain _ (apS _)) h1
  have:=afa _ _ (ok.plain _ (apS _)) (ok.plain _ (apS _)) ne
  rw [h1] at this
  revert this
  cases ltD ds[i+1] ds[i] <;> simp
end
noncomputable def pick {α:Type} (d:α) (p:Array Nat) (xs:List α):List α:=p.toList.map fun i=>xs.getD i d
theorem af6:∀ {xs:List V} {us:List Value},Vals xs us->∀ i,RelV (xs.getD i .non) (us.getD i Value.none)
 | _,_,.nil,i=>rfl
 | _,_,.cons r t,0=>r
 | _,_,.cons r t,i+1=>af6 t i
theorem ahi {xs:List V} {us:List Value} (r:Vals xs us) (p:Array Nat):Vals (pick .non p xs) (pick Value.none p us):=by
 unfold pick
 induction p.toList with
 | nil=>exact .nil
 | cons i l ih=>exact .cons (af6 r i) ih
theorem af7 {K:apj} {H:Hp}:∀ {ds:List PyData} {xs:List V},Reps K H ds xs->∀ i,Rep K H (ds.getD i .none) (xs.getD i .non)
 | [],xs,r,i=>by
  rw [reps_nil.mp r]
  exact rep_none.mpr rfl
 | d :: ds,xs,r,i=>by
  obtain⟨x,xs',rfl,r1,r2⟩:=reps_cons.mp r
  cases i with
  | zero=>exact r1
  | succ i=>exact af7 r2 i
theorem ahj {K:apj} {H:Hp} {ds:List PyData} {xs:List V} (r:Reps K H ds xs) (p:Array Nat):Reps K H (pick .none p ds) (pick .non p xs):=by
 unfold pick
 induction p.toList with
 | nil=>exact .nil'
 | cons i l ih=>exact .cons' (af7 r i) ih
theorem ahk {α:Type} {d:α} {n:Nat} {p:Array Nat} {xs:List α} (h:Pm n p) (hn:n=xs.length):(pick d p xs).Perm xs:=by
 have e:(apK n).map (fun i=>xs.getD i d)=xs:=by
  subst hn
  refine ari fun i=>?_
  rw [apt]
  by_cases hi:i<xs.length
  ·rw [aqJ hi,aph hi]
   simp [hi]
  ·rw [apR (by simp;omega),apR (by omega)]
   rfl
 have:=h.map fun i=>xs.getD i d
 rw [e] at this
 exact this
theorem akm {n:Nat} {p:Array Nat} {ds:List PyData} (h:Pm n p) (u:Up (fun i j=>ltD (ds.getD i .none) (ds.getD j .none)) p n):(pick .none p ds).Pairwise fun d e=>ltD d e=true:=by
 unfold pick
 rw [aqX]
 refine arR.mpr fun i j hi hj hij=>?_
 have hs:=h.size
 rw [apD] at hi hj
 have:=u i j hij (by omega)
 have g:∀ k (hk:k<p.toList.length),p.getD k 0=p.toList[k]:=fun k hk=>by
  rw [jT,apn,aph hk]
  rfl
 rw [g i (by simpa using hi),g j (by simpa using hj)] at this
 exact this
end L2
end
section
namespace L2.ST
open PySem PySem.SetTable
noncomputable def aea (xs:Array Nat):Prop:=∀ i j,i<j->j<xs.size->xs.getD i 0<xs.getD j 0
theorem aiI {xs:Array Nat} {i d e:Nat} (h:i<xs.size):xs.getD i d=xs.getD i e:=by simp [ary,h]
theorem abq {xs:Array Nat} {j:Nat}:∀ f lo hi,hi - lo<=f->lo<=hi->hi<=xs.size->(∀ i,i<lo->xs.getD i 0<j)->(∀ i,hi<=i->i<xs.size->j<=xs.getD i 0)->aea xs ->
  lo<=below.go xs j f lo hi/\below.go xs j f lo hi<=hi/\(∀ i,i<below.go xs j f lo hi->xs.getD i 0<j)/\(∀ i,below.go xs j f lo hi<=i->i<xs.size->j<=xs.getD i 0)
 | 0,lo,hi,hf,hl,hh,a,b,r=>by
  obtain rfl:lo=hi:=by omega
  exact⟨apr _,apr _,a,b⟩
 | f+1,lo,hi,hf,hl,hh,a,b,r=>by
  unfold below.go
  by_cases h:lo<hi
  ·rw [if_pos h]
   have hm:(lo+hi) / 2<xs.size:=by omega
   simp only
   rw [aiI (e:=0) hm]
   by_cases h2:xs.getD ((lo+hi) / 2) 0<j
   ·rw [if_pos h2]
    have:=abq f ((lo+hi) / 2+1) hi (by omega) (by omega) hh (fun i hi'=>by
     by_cases e:i=(lo+hi) / 2
     ·rw [e];exact h2
     ·exact aq6 (r i _ (by omega) hm) h2) b r
    exact⟨by omega,this.2.1,this.2.2⟩
   ·rw [if_neg h2]
    have:=abq f lo ((lo+hi) / 2) (by omega) (by omega) (by omega) a (fun i hi' hs=>by
     by_cases e:i=(lo+hi) / 2
     ·rw [e];omega
     ·have:=r ((lo+hi) / 2) i (by omega) hs;omega) r
    exact⟨this.1,by omega,this.2.2⟩
  ·rw [if_neg h]
   obtain rfl:lo=hi:=by omega
   exact⟨apr _,apr _,a,b⟩
theorem aeb {xs:Array Nat} (r:aea xs) (j:Nat):below xs j<=xs.size/\(∀ i,i<below xs j->xs.getD i 0<j)/\(∀ i,below xs j<=i->i<xs.size->j<=xs.getD i 0):=by
 have:=abq (xs:=xs) (j:=j) xs.size 0 xs.size (by omega) (ap2 _) (apr _) (fun i hi=>absurd hi (aqZ _)) (fun i a b=>by omega) r
 exact this.2
theorem below_at {xs:Array Nat} (r:aea xs) {i:Nat} (hi:i<xs.size):below xs (xs.getD i 0)=i:=by
 obtain⟨a,b,c⟩:=aeb r (xs.getD i 0)
 by_cases h:below xs (xs.getD i 0)<i
 ·have h1:=c _ (apr _) (by omega)
  have h2:=r _ i h hi
  omega
 ·by_cases h2:i<below xs (xs.getD i 0)
  ·have:=b i h2;omega
  ·omega
noncomputable def Tk (t:SetTable) (j:Nat):Prop:=∃ i,i<t.place.size/\t.place.getD i 0=j
theorem slot_live {t:SetTable} (r:aea t.place) {i:Nat} (hi:i<t.place.size):t.slot (t.place.getD i 0)=.live i:=by
 unfold slot
 simp only
 rw [below_at r hi]
 have:(t.place[i]? == some (t.place.getD i 0))=true:=by simp [ary,hi]
 rw [if_pos this]
theorem ahl {t:SetTable} (d:t.dummies=#[]) {j:Nat} (h:¬ Tk t j):t.slot j=.empty:=by
 unfold slot
 simp only
 have h1:¬ (t.place[below t.place j]? == some j)=true:=fun e=>h (by
  have e2:=eq_of_beq e
  obtain⟨hl,e3⟩:=Array.getElem?_eq_some_iff.mp e2
  exact⟨_,hl,by simp [ary,hl,e3]⟩)
 rw [if_neg h1]
 have h2:has t.dummies j=false:=by rw [d];rfl
 rw [h2]
 rfl
noncomputable def road (mask:Nat) (h:Int):Nat->Probe
 | 0=>{ j:=bits h % (mask+1),more:=runEnd mask (bits h % (mask+1)) - bits h % (mask+1),i:=bits h % (mask+1),perturb:=bits h,dummy:=none }
 | k+1=>if (road mask h k).more > 0 then { road mask h k with j:=(road mask h k).j+1,more:=(road mask h k).more - 1 } else
  { road mask h k with j:=(leap mask (road mask h k).i (road mask h k).perturb).1,more:=runEnd mask (leap mask (road mask h k).i (road mask h k).perturb).1 - (leap mask (road mask h k).i (road mask h k).perturb).1,i:=(leap mask (road mask h k).i (road mask h k).perturb).1,perturb:=(leap mask (road mask h k).i (road mask h k).perturb).2 }
theorem road_start (t:SetTable) (h:Int):t.probeStart h=road t.mask h 0:=rfl
theorem vD (mask:Nat) (h:Int):∀ k,(road mask h k).dummy=none
 | 0=>rfl
 | k+1=>by
  unfold road
  split
  ·exact vD mask h k
  ·exact vD mask h k
noncomputable abbrev pos (mask:Nat) (h:Int) (k:Nat):Nat:=(road mask h k).j
noncomputable def lp (mask:Nat) (h:Int):Nat->Nat×Nat
 | 0=>(bits h % (mask+1),bits h)
 | r+1=>leap mask (lp mask h r).1 (lp mask h r).2
theorem aaf (mask i:Nat) (h:i<=mask):i<=runEnd mask i/\runEnd mask i<=mask/\runEnd mask i - i<=9:=by
 unfold runEnd
 split <;> omega
theorem aec (mask:Nat) (h:Int):∀ r,(lp mask h r).1<=mask
 | 0=>aso.mp (atx _ (asY _))
 | r+1=>aso.mp (atx _ (asY _))
noncomputable def At (mask:Nat) (h:Int) (k r d:Nat):Prop:=d<=runEnd mask (lp mask h r).1 - (lp mask h r).1/\road mask h k={ j:=(lp mask h r).1+d,more:=runEnd mask (lp mask h r).1 - (lp mask h r).1 - d,i:=(lp mask h r).1,perturb:=(lp mask h r).2,dummy:=none }
theorem ac3 (mask:Nat) (h:Int):At mask h 0 0 0:=⟨ap2 _,rfl⟩
theorem af8 {mask:Nat} {h:Int} {k r d:Nat} (a:At mask h k r d) (hd:d<runEnd mask (lp mask h r).1 - (lp mask h r).1):At mask h (k+1) r (d+1):=by
 obtain⟨a1,a2⟩:=a
 refine⟨hd,?_⟩
 unfold road
 rw [a2]
 simp only
 rw [if_pos (by omega)]
 simp only [Probe.mk.injEq,and_true]
 omega
theorem ac4 {mask:Nat} {h:Int} {k r d:Nat} (a:At mask h k r d) (hd:d=runEnd mask (lp mask h r).1 - (lp mask h r).1):At mask h (k+1) (r+1) 0:=by
 obtain⟨a1,a2⟩:=a
 refine⟨ap2 _,?_⟩
 unfold road
 rw [a2]
 simp only
 rw [if_neg (by omega)]
 rfl
theorem ac5 {mask:Nat} {h:Int} {k r:Nat} (a:At mask h k r 0):∀ d,d<=runEnd mask (lp mask h r).1 - (lp mask h r).1->At mask h (k+d) r d
 | 0,_=>a
 | d+1,hd=>af8 (ac5 a d (by omega)) (by omega)
theorem aed (mask:Nat) (h:Int):∀ r,∃ k,k<=10 * r/\At mask h k r 0
 | 0=>⟨0,apr _,ac3 mask h⟩
 | r+1=>by
  obtain⟨k,hk,a⟩:=aed mask h r
  have:=(aaf mask _ (aec mask h r)).2.2
  exact⟨_,by omega,ac4 (ac5 a _ (apr _)) rfl⟩
theorem aiJ (mask:Nat) (h:Int):∀ k,∃ r d,At mask h k r d
 | 0=>⟨0,0,ac3 mask h⟩
 | k+1=>by
  obtain⟨r,d,a⟩:=aiJ mask h k
  by_cases e:d<runEnd mask (lp mask h r).1 - (lp mask h r).1
  ·exact⟨r,d+1,af8 a e⟩
  ·exact⟨r+1,0,ac4 a (Nat.le_antisymm a.1 (by omega))⟩
theorem ac6 (mask:Nat) (h:Int) (k:Nat):pos mask h k<=mask:=by
 obtain⟨r,d,a1,a2⟩:=aiJ mask h k
 unfold pos
 rw [a2]
 have:=aaf mask _ (aec mask h r)
 show (lp mask h r).1+d<=mask
 omega
noncomputable def stp (m i:Nat):Nat:=(i * 5+1) % m
noncomputable def itr (m:Nat):Nat->Nat->Nat
 | 0,i=>i
 | r+1,i=>stp m (itr m r i)
theorem vN (m:Nat) (a:Nat):∀ b i,itr m (a+b) i=itr m b (itr m a i)
 | 0,i=>rfl
 | b+1,i=>by show stp m (itr m (a+b) i)=stp m (itr m b (itr m a i));rw [vN m a b i]
noncomputable def orb (m:Nat):Nat->Nat->List Nat
 | 0,_=>[]
 | f+1,i=>i :: orb m f (stp m i)
theorem aiK (m:Nat):∀ f i r,r<f->(orb m f i)[r]?=some (itr m r i)
 | 0,_,_,h=>absurd h (aqZ _)
 | f+1,i,0,_=>rfl
 | f+1,i,r+1,h=>by
  show (orb m f (stp m i))[r]?=_
  rw [aiK m f (stp m i) r (by omega),show r+1=1+r by omega,vN m 1 r i]
  rfl
noncomputable def jP (m:Nat):Bool:=(apK m).all (fun j=>(orb m m 0).contains j) && itr m m 0 == 0
theorem af9:jP 8=true:=by decide +kernel
theorem aee:jP 32=true:=by decide +kernel
theorem aco:jP 128=true:=by decide +kernel
theorem acp:jP 512=true:=by decide +kernel
theorem ac7 (m:Nat):∀ f i,(orb m f i).length=f
 | 0,_=>rfl
 | f+1,i=>by show (orb m f (stp m i)).length+1=f+1;rw [ac7 m f]
theorem aef {m:Nat} (h:jP m=true) {j:Nat} (hj:j<m):∃ r,r<m/\itr m r 0=j:=by
 unfold jP at h
 rw [apu] at h
 have:=arO.mp h.1 j (apV.mpr hj)
 have hm:j∈orb m m 0:=by simpa using this
 obtain⟨r,hr,e⟩:=aq0 hm
 rw [ac7] at hr
 have e2:=aiK m m 0 r hr
 rw [aph (by rw [ac7];exact hr),e] at e2
 exact⟨r,hr,(Option.some.inj e2).symm⟩
theorem aga {m:Nat} (h:jP m=true) {i j:Nat} (hi:i<m) (hj:j<m):∃ r,r<m/\itr m r i=j:=by
 obtain⟨a,ha,ea⟩:=aef h hi
 obtain⟨b,hb,eb⟩:=aef h hj
 have e0:itr m m 0=0:=by
  unfold jP at h
  rw [apu] at h
  exact eq_of_beq h.2
 by_cases hab:a<=b
 ·exact⟨b - a,by omega,by rw [<-ea,<- vN,show a+(b - a)=b by omega];exact eb⟩
 ·refine⟨m - a+b,by omega,?_⟩
  rw [<-ea,<- vN,show a+(m - a+b)=m+b by omega,vN,e0]
  exact eb
theorem agb (mask:Nat) (h:Int):∀ r,(lp mask h r).2=bits h / 32 ^ r
 | 0=>by simp [lp]
 | r+1=>by
  show (lp mask h r).2 / 32=_
  rw [agb mask h r,Nat.div_div_eq_div_mul,asv]
theorem akn (h:Int):bits h<2 ^ 64:=by
 unfold bits
 have:=aq7 h (show (0:Int)<2 ^ 64 by decide)
 have:=asp h (show (2 ^ 64:Int)≠0 by decide)
 omega
theorem ako (mask:Nat) (h:Int) (r:Nat) (hr:13<=r):(lp mask h r).2=0:=by
 rw [agb]
 refine Nat.div_eq_of_lt (apF (akn h) ?_)
 exact apO (show 2 ^ 64<=32 ^ 13 by decide) (aqe (by decide) hr)
theorem afb (mask:Nat) (h:Int):∀ r,(lp mask h (13+r)).1=itr (mask+1) r (lp mask h 13).1
 | 0=>rfl
 | r+1=>by
  show (leap mask (lp mask h (13+r)).1 (lp mask h (13+r)).2).1=stp (mask+1) (itr (mask+1) r (lp mask h 13).1)
  rw [ako mask h (13+r) (by omega),afb mask h r]
  rfl
theorem aiL {mask:Nat} (g:jP (mask+1)=true) (h:Int) {j:Nat} (hj:j<=mask):∃ k,k<10 * turns mask/\pos mask h k=j:=by
 obtain⟨r,hr,e⟩:=aga g (i:=(lp mask h 13).1) (j:=j) (ar8 (aec mask h 13)) (ar8 hj)
 obtain⟨k,hk,a1,a2⟩:=aed mask h (13+r)
 refine⟨k,by unfold turns;omega,?_⟩
 unfold pos
 rw [a2]
 show (lp mask h (13+r)).1+0=j
 rw [afb,e]
 rfl
end L2.ST
end
section
namespace L2.ST
open PySem PySem.SetTable
structure TB (t:SetTable) (hs:List Int):Prop where
 mask:t.mask=7 \/ t.mask=31 \/ t.mask=127 \/ t.mask=511
 dum:t.dummies=#[]
 rise:aea t.place
 le:∀ i,i<t.place.size->t.place.getD i 0<=t.mask
 size:t.place.size=hs.length
 most:hs.length<=t.mask
 reach:∀ i,i<hs.length->∃ k,pos t.mask (hs.getD i 0) k=t.place.getD i 0/\∀ k',k'<k->Tk t (pos t.mask (hs.getD i 0) k')
structure TOk (t:SetTable) (hs:List Int):Prop extends TB t hs where
 room:hs.length * 5<t.mask * 3
theorem amH {t:SetTable} {hs:List Int} (o:TB t hs):jP (t.mask+1)=true:=by
 rcases o.mask with e | e | e | e <;> rw [e]
 ·exact af9
 ·exact aee
 ·exact aco
 ·exact acp
theorem ahm {t:SetTable} (r:aea t.place) (hs:t.place.size<=t.mask):∃ j,j<=t.mask/\¬ Tk t j:=by
 refine aqd fun no=>?_
 have all:∀ j,j<=t.mask->Tk t j:=fun j hj=>aqd fun z=>no ⟨j,hj,z⟩
 have up:∀ j,j<=t.mask->j<=below t.place j/\below t.place j<t.place.size:=fun j=>by
  induction j with
  | zero =>
   intro hj
   obtain⟨i,hi,e⟩:=all 0 hj
   have:=below_at r hi
   rw [e] at this
   exact⟨ap2 _,by omega⟩
  | succ j ih =>
   intro hj
   obtain⟨i,hi,e⟩:=all (j+1) hj
   obtain⟨i',hi',e'⟩:=all j (by omega)
   have b1:=below_at r hi
   have b2:=below_at r hi'
   rw [e] at b1
   rw [e'] at b2
   have lt:i'<i:=by
    by_cases h:i'<i
    ·exact h
    ·by_cases h2:i'=i
     ·subst h2;omega
     ·have:=r i i' (by omega) hi';omega
   have:=ih (by omega)
   omega
 have:=up t.mask (apr _)
 omega
structure First (t:SetTable) (h:Int) (E:Nat):Prop where
 lt:E<10 * turns t.mask
 free:¬ Tk t (pos t.mask h E)
 ahead:∀ k,k<E->Tk t (pos t.mask h k)
theorem least {p:Nat->Prop}:∀ n,p n->∃ m,m<=n/\p m/\∀ k,k<m->¬ p k:=fun n=>by
 induction n using Nat.strongRecOn with
 | ind n ih =>
  intro h
  by_cases q:∃ k,k<n/\p k
  ·obtain⟨k,hk,pk⟩:=q
   obtain⟨m,a,b⟩:=ih k hk pk
   exact⟨m,by omega,b⟩
  ·exact⟨n,apr _,h,fun k hk z=>q ⟨k,hk,z⟩⟩
theorem ahn {t:SetTable} (g:jP (t.mask+1)=true) (r:aea t.place) (hs:t.place.size<=t.mask) (h:Int):∃ E,First t h E:=by
 obtain⟨j,hj,nj⟩:=ahm r hs
 obtain⟨k,hk,e⟩:=aiL g h hj
 obtain⟨m,a,b,c⟩:=least (p:=fun k=>¬ Tk t (pos t.mask h k)) k (by show ¬ Tk t (pos t.mask h k);rw [e];exact nj)
 exact⟨m,by omega,b,fun q hq=>aqd (c q hq)⟩
theorem first_of {t:SetTable} {hs:List Int} (o:TB t hs) (h:Int):∃ E,First t h E:=ahn (amH o) o.rise (by have:=o.size;have:=o.most;omega) h
theorem probe_go {t:SetTable} (d:t.dummies=#[]) (r:aea t.place) {hashAt:Nat->Int} {h:Int} {E:Nat} (F:First t h E):∀ f k,k<=E->E<k+f ->
  (probe.go t hashAt h f (road t.mask h k)=some (.empty (pos t.mask h E) none)/\∀ q i,k<=q->q<E->i<t.place.size->pos t.mask h q=t.place.getD i 0->hashAt i≠h) \/
  ∃ q i,k<=q/\q<E/\i<t.place.size/\pos t.mask h q=t.place.getD i 0/\hashAt i=h/\probe.go t hashAt h f (road t.mask h k)=some (.candidate (pos t.mask h q) i (road t.mask h (q+1)))/\∀ q' i',k<=q'->q'<q->i'<t.place.size->pos t.mask h q'=t.place.getD i' 0->hashAt i'≠h
 | 0,k,h1,h2=>by omega
 | f+1,k,h1,h2=>by
  unfold probe.go
  by_cases e:k=E
  ·subst e
   refine .inl ⟨?_,fun q i a b=>by omega⟩
   rw [ahl d F.free]
   show some (Met.empty _ _)=_
   rw [vD]
  ·obtain⟨i,hi,ei⟩:=F.ahead k (by omega)
   have sl:t.slot (road t.mask h k).j=.live i:=by
    have:=slot_live r hi
    rw [ei] at this
    exact this
   rw [sl]
   show (if (hashAt i == h)=true then _ else _:Option Met)=_/\_ \/ _
   have uniq:∀ i',i'<t.place.size->pos t.mask h k=t.place.getD i' 0->i'=i:=fun i' hi' e'=>by
    have b1:=below_at r hi
    have b2:=below_at r hi'
    rw [ei] at b1
    rw [<-e'] at b2
    omega
   by_cases hh:(hashAt i == h)=true
   ·rw [if_pos hh]
    refine .inr ⟨k,i,apr _,by omega,hi,ei.symm,eq_of_beq hh,?_,fun q' i' a b=>by omega⟩
    show (if (hashAt i == h)=true then _ else _:Option Met)=_
    rw [if_pos hh]
    rfl
   ·rw [if_neg hh]
    have hne:hashAt i≠h:=fun z=>hh (by rw [z];exact beq_self_eq_true _)
    rcases probe_go d r (hashAt:=hashAt) F f (k+1) (by omega) (by omega) with⟨a,b⟩ | ⟨q,i2,a1,a2,a3,a4,a5,a6,a7⟩
    ·refine .inl ⟨a,fun q i' c1 c2 c3 c4=>?_⟩
     by_cases eq:q=k
     ·subst eq;rw [uniq i' c3 c4];exact hne
     ·exact b q i' (by omega) c2 c3 c4
    ·refine .inr ⟨q,i2,by omega,a2,a3,a4,a5,?_,fun q' i' c1 c2 c3 c4=>?_⟩
     ·show (if (hashAt i == h)=true then _ else _:Option Met)=_
      rw [if_neg hh]
      exact a6
     ·by_cases eq:q'=k
      ·subst eq;rw [uniq i' c3 c4];exact hne
      ·exact a7 q' i' (by omega) c2 c3 c4
end L2.ST
end
section
namespace L2.ST
open PySem PySem.SetTable
theorem vO {α:Type} (xs:Array α) (i:Nat) (d:α):xs.getD i d=xs.toList.getD i d:=by
 by_cases h:i<xs.size <;> simp [ary,h,atH]
theorem aeg {α:Type} (l:List α) (p:Nat) (x d:α) (hp:p<=l.length) (i:Nat):(l.take p++x :: l.drop p).getD i d=if i<p then l.getD i d else if i=p then x else l.getD (i - 1) d:=by
 have lt:(l.take p).length=p:=by rw [apX];omega
 by_cases h1:i<p
 ·rw [if_pos h1,apn,apx (by omega),arj h1,apn]
 ·rw [if_neg h1,apn,apz (by omega),lt]
  by_cases h2:i=p
  ·rw [if_pos h2,h2,aq4]
   rfl
  ·rw [if_neg h2,show i - p=(i - p - 1)+1 by omega,List.getElem?_cons_succ,List.getElem?_drop,show p+(i - p - 1)=i - 1 by omega,apn]
section
variable {t:SetTable} {hs:List Int} {h:Int} {E:Nat}
theorem put_tb (o:TB t hs) (F:First t h E) (more:hs.length+1<=t.mask):below t.place (pos t.mask h E)<=hs.length/\TB (t.put (pos t.mask h E)).1 (hs.take (below t.place (pos t.mask h E))++h :: hs.drop (below t.place (pos t.mask h E))):=by
 obtain⟨b1,b2,b3⟩:=aeb o.rise (pos t.mask h E)
 have sz:=o.size
 generalize hp:below t.place (pos t.mask h E)=p at *
 have hpl:p<=t.place.toList.length:=by rw [apD];exact b1
 have pl:∀ i,(t.put (pos t.mask h E)).1.place.getD i 0=if i<p then t.place.getD i 0 else if i=p then pos t.mask h E else t.place.getD (i - 1) 0:=fun i=>by
  show (insertAt t.place (below t.place (pos t.mask h E)) (pos t.mask h E)).getD i 0=_
  rw [hp,vO,arZ,aeg _ _ _ _ hpl,vO,vO]
 have psz:(t.put (pos t.mask h E)).1.place.size=t.place.size+1:=by
  show (insertAt t.place (below t.place (pos t.mask h E)) (pos t.mask h E)).size=_
  rw [<-apD,arZ,hp,apA,apL,apX,ars,apD]
  omega
 have ne:∀ i,i<t.place.size->t.place.getD i 0≠pos t.mask h E:=fun i hi e=>F.free ⟨i,hi,e⟩
 have b3':∀ i,p<=i->i<t.place.size->pos t.mask h E<t.place.getD i 0:=fun i a b=>by
  have:=b3 i a b
  have:=ne i b
  omega
 have hm:(t.put (pos t.mask h E)).1.mask=t.mask:=rfl
 have tk:∀ j,Tk t j->Tk (t.put (pos t.mask h E)).1 j:=fun j ⟨i,hi,e⟩=>by
  by_cases q:i<p
  ·exact⟨i,by omega,by rw [pl,if_pos q];exact e⟩
  ·exact⟨i+1,by omega,by rw [pl,if_neg (by omega),if_neg (by omega),Nat.add_sub_cancel];exact e⟩
 have hl:∀ i,(hs.take p++h :: hs.drop p).getD i 0=if i<p then hs.getD i 0 else if i=p then h else hs.getD (i - 1) 0:=fun i=>aeg hs p h 0 (by omega) i
 have ln:(hs.take p++h :: hs.drop p).length=hs.length+1:=by
  rw [apA,apL,apX,ars]
  omega
 refine⟨by omega,⟨o.mask,?_,fun i j hij hj=>?_,fun i hi=>?_,by rw [psz,ln,sz],by rw [ln,hm];exact more,fun i hi=>?_⟩⟩
 ·show (if has t.dummies (pos t.mask h E)=true then _ else t.dummies)=#[]
  rw [o.dum]
  rfl
 ·rw [pl,pl]
  rw [psz] at hj
  by_cases c1:i<p
  ·rw [if_pos c1]
   by_cases c2:j<p
   ·rw [if_pos c2];exact o.rise i j hij (by omega)
   ·rw [if_neg c2]
    by_cases c3:j=p
    ·rw [if_pos c3];exact b2 i c1
    ·rw [if_neg c3];exact o.rise i (j - 1) (by omega) (by omega)
  ·rw [if_neg c1,if_neg (show ¬ j<p by omega)]
   by_cases c3:i=p
   ·rw [if_pos c3,if_neg (by omega)];exact b3' (j - 1) (by omega) (by omega)
   ·rw [if_neg c3,if_neg (by omega)];exact o.rise (i - 1) (j - 1) (by omega) (by omega)
 ·rw [pl,hm]
  rw [psz] at hi
  by_cases c1:i<p
  ·rw [if_pos c1];exact o.le i (by omega)
  ·rw [if_neg c1]
   by_cases c3:i=p
   ·rw [if_pos c3];exact ac6 _ _ _
   ·rw [if_neg c3];exact o.le (i - 1) (by omega)
 ·rw [hl,pl,hm]
  rw [ln] at hi
  by_cases c1:i<p
  ·rw [if_pos c1,if_pos c1]
   obtain⟨k,e,a⟩:=o.reach i (by omega)
   exact⟨k,e,fun k' hk=>tk _ (a k' hk)⟩
  ·rw [if_neg c1,if_neg c1]
   by_cases c3:i=p
   ·rw [if_pos c3,if_pos c3]
    exact⟨E,rfl,fun k' hk=>tk _ (F.ahead k' hk)⟩
   ·rw [if_neg c3,if_neg c3]
    obtain⟨k,e,a⟩:=o.reach (i - 1) (by omega)
    exact⟨k,e,fun k' hk=>tk _ (a k' hk)⟩
end
noncomputable def Occ (ow:Array (Option Nat)) (j:Nat):Prop:=ow.getD j (some 0)≠none
theorem agc {mask:Nat} {ow:Array (Option Nat)} {h:Int}:∀ f r k,At mask h k r 0->(∃ r',r<=r'/\r'<r+f/\¬ Occ ow (lp mask h r').1) ->
  ∃ E,k<=E/\(∀ q,k<=q->q<E->Occ ow (pos mask h q))/\¬ Occ ow (pos mask h E)/\layClean.free mask ow f (lp mask h r).1 (lp mask h r).2=some (pos mask h E)
 | 0,r,k,a,⟨r',h1,h2,_⟩=>by omega
 | f+1,r,k,a,⟨r',h1,h2,h3⟩=>by
  have re:=aaf mask _ (aec mask h r)
  have at_:∀ d,d<=runEnd mask (lp mask h r).1 - (lp mask h r).1->pos mask h (k+d)=(lp mask h r).1+d:=fun d hd=>by
   have:=(ac5 a d hd).2
   unfold pos
   rw [this]
  unfold layClean.free
  cases hf:(apK (runEnd mask (lp mask h r).1+1 - (lp mask h r).1)).find? fun k=>(ow.getD ((lp mask h r).1+k) (some 0)).isNone with
  | some d =>
   have hm:=List.mem_of_find?_eq_some hf
   have hd:=apV.mp hm
   have hs:=List.find?_some hf
   have bef:∀ d',d'<d->¬ (ow.getD ((lp mask h r).1+d') (some 0)).isNone=true:=fun d' hd'=>by
    obtain⟨_,as,bs,e,al⟩:=List.find?_eq_some_iff_append.mp hf
    have:as=apK d:=by
     have l1:(apK (runEnd mask (lp mask h r).1+1 - (lp mask h r).1))[as.length]?=some d:=by
      rw [e,apz (apr _),aq4]
      rfl
     have lt:as.length<runEnd mask (lp mask h r).1+1 - (lp mask h r).1:=by
      have:=congrArg List.length e
      simp at this
      omega
     rw [aqJ lt] at l1
     have el:as.length=d:=Option.some.inj l1
     have:as=(apK (runEnd mask (lp mask h r).1+1 - (lp mask h r).1)).take as.length:=by
      rw [e,List.take_append_of_le_length (apr _),aqk]
     rw [this,List.take_range,Nat.min_eq_left (by omega),el]
    have al2:=al d' (by rw [this];exact apV.mpr hd')
    intro z
    have z2:(!(ow.getD ((lp mask h r).1+d') (some 0)).isNone)=true:=al2
    rw [z] at z2
    cases z2
   refine⟨k+d,by omega,fun q hq1 hq2=>?_,?_,?_⟩
   ·have:=bef (q - k) (by omega)
    rw [show q=k+(q - k) by omega,at_ (q - k) (by omega)]
    intro z
    rw [z] at this
    exact this rfl
   ·rw [at_ d (by omega)]
    intro z
    have hs':(ow.getD ((lp mask h r).1+d) (some 0)).isNone=true:=hs
    exact z (Option.isNone_iff_eq_none.mp hs')
   ·rw [at_ d (by omega)]
  | none =>
   have all:∀ d,d<runEnd mask (lp mask h r).1+1 - (lp mask h r).1->Occ ow ((lp mask h r).1+d):=fun d hd z=>by
    have:=List.find?_eq_none.mp hf d (apV.mpr hd)
    simp [z] at this
   have ne:r'≠r:=fun z=>by
    rw [z] at h3
    exact h3 (by have:=all 0 (by omega);rwa [Nat.add_zero] at this)
   have a2:=ac4 (ac5 a _ (apr _)) rfl
   obtain⟨E,e1,e2,e3,e4⟩:=agc f (r+1) _ a2 ⟨r',by omega,by omega,h3⟩
   refine⟨E,by omega,fun q hq1 hq2=>?_,e3,e4⟩
   by_cases hq:q<k+(runEnd mask (lp mask h r).1 - (lp mask h r).1)+1
   ·rw [show q=k+(q - k) by omega,at_ (q - k) (by omega)]
    exact all _ (by omega)
   ·exact e2 q (by omega) hq2
end L2.ST
end
section
namespace L2.ST
open PySem PySem.SetTable
structure OwnT (mask:Nat) (ow:Array (Option Nat)) (hs:List Int) (sl:List Nat):Prop where
 size:ow.size=mask+1
 len:sl.length=hs.length
 nd:sl.Nodup
 le:∀ j∈sl,j<=mask
 own:∀ j,j<=mask->∀ i,ow.getD j none=some i↔sl[i]?=some j
 reach:∀ i,i<hs.length->∃ q,pos mask (hs.getD i 0) q=sl.getD i 0/\∀ q',q'<q->pos mask (hs.getD i 0) q'∈sl
theorem OwnT.occ {mask:Nat} {ow:Array (Option Nat)} {hs:List Int} {sl:List Nat} (o:OwnT mask ow hs sl) {j:Nat} (hj:j<=mask):Occ ow j↔j∈sl:=by
 have hs':j<ow.size:=by rw [o.size];omega
 have e:ow.getD j (some 0)=ow.getD j none:=by simp [ary,hs']
 unfold Occ
 rw [e]
 constructor
 ·intro h
  obtain⟨i,hi⟩:=Option.ne_none_iff_exists'.mp h
  exact apv ((o.own j hj i).mp hi)
 ·intro h z
  obtain⟨i,hi,e2⟩:=aq0 h
  have:=(o.own j hj i).mpr (by rw [aph hi,e2])
  rw [z] at this
  cases this
noncomputable def agd (mask:Nat):Option (Array (Option Nat)×Nat)->Int->Option (Array (Option Nat)×Nat):=fun acc h=>do
  let (owner,k) <- acc
  let j <- layClean.free mask owner (turns mask) (bits h % (mask+1)) (bits h)
  pure (owner.setIfInBounds j (some k),k+1)
theorem aiM {mask:Nat} (g:jP (mask+1)=true) {ow:Array (Option Nat)} {hs:List Int} {sl:List Nat} (o:OwnT mask ow hs sl) (hm:hs.length<=mask) (h:Int) :
  ∃ ow' sl',agd mask (some (ow,hs.length)) h=some (ow',hs.length+1)/\OwnT mask ow' (hs++[h]) sl':=by
 obtain⟨j,hj,nj⟩:∃ j,j<=mask/\j∉sl:=by
  refine aqd fun no=>?_
  have sub:apK (mask+1) ⊆ sl:=fun j hj=>aqd fun z=>no ⟨j,aso.mp (apV.mp hj),z⟩
  have:=List.Nodup.length_le_of_subset asT sub
  rw [aqa,o.len] at this
  omega
 obtain⟨r,hr,e⟩:=aga g (i:=(lp mask h 13).1) (j:=j) (ar8 (aec mask h 13)) (ar8 hj)
 obtain⟨E,_,e2,e3,e4⟩:=agc (ow:=ow) (turns mask) 0 0 (ac3 mask h) ⟨13+r,ap2 _,by unfold turns;omega,by rw [afb,e,o.occ hj];exact nj⟩
 have e3':pos mask h E∉sl:=fun z=>e3 ((o.occ (ac6 mask h E)).mpr z)
 have e2':∀ q,q<E->pos mask h q∈sl:=fun q hq=>(o.occ (ac6 mask h q)).mp (e2 q (ap2 _) hq)
 have e4':layClean.free mask ow (turns mask) (bits h % (mask+1)) (bits h)=some (pos mask h E):=e4
 refine⟨ow.setIfInBounds (pos mask h E) (some hs.length),sl++[pos mask h E],?_,?_⟩
 ·show (layClean.free mask ow (turns mask) (bits h % (mask+1)) (bits h) >>= fun j=>pure (ow.setIfInBounds j (some hs.length),hs.length+1))=_
  rw [e4']
  rfl
 ·have ls:∀ i,(sl++[pos mask h E])[i]?=if i<sl.length then sl[i]? else if i=sl.length then some (pos mask h E) else none:=fun i=>by
   by_cases c:i<sl.length
   ·rw [if_pos c,apx c]
   ·rw [if_neg c,apz (by omega)]
    by_cases c2:i=sl.length
    ·rw [if_pos c2,c2,aq4];rfl
    ·rw [if_neg c2];exact apR (by simp;omega)
  refine⟨by rw [Array.size_setIfInBounds];exact o.size,by simp [o.len],?_,fun j hj=>?_,fun j hj i=>?_,fun i hi=>?_⟩
  ·rw [aqF]
   refine⟨o.nd,by simp,fun a ha b hb=>?_⟩
   rw [apB.mp hb]
   intro z
   rw [z] at ha
   exact e3' ha
  ·rcases apC.mp hj with hj | hj
   ·exact o.le j hj
   ·rw [apB.mp hj];exact ac6 _ _ _
  ·have hsz:j<ow.size:=by rw [o.size];omega
   rw [ls]
   by_cases c:j=pos mask h E
   ·subst c
    have:(ow.setIfInBounds (pos mask h E) (some hs.length)).getD (pos mask h E) none=some hs.length:=by simp [ary,hsz]
    rw [this]
    constructor
    ·intro z
     have z':hs.length=i:=Option.some.inj z
     rw [if_neg (by rw [o.len];omega),if_pos (by rw [o.len];omega)]
    ·intro z
     by_cases c2:i<sl.length
     ·rw [if_pos c2] at z
      exact absurd (apv z) e3'
     ·rw [if_neg c2] at z
      by_cases c3:i=sl.length
      ·rw [c3,o.len]
      ·rw [if_neg c3] at z;cases z
   ·have:(ow.setIfInBounds (pos mask h E) (some hs.length)).getD j none=ow.getD j none:=by
     rw [aq5,aq5,Array.getElem?_setIfInBounds_ne (arh c)]
    rw [this,o.own j hj i]
    by_cases c2:i<sl.length
    ·rw [if_pos c2]
    ·rw [if_neg c2]
     constructor
     ·intro z
      rw [apR (by omega)] at z
      cases z
     ·intro z
      by_cases c3:i=sl.length
      ·rw [if_pos c3] at z
       exact absurd (Option.some.inj z).symm c
      ·rw [if_neg c3] at z;cases z
  ·have gl:∀ i,(hs++[h]).getD i 0=if i<hs.length then hs.getD i 0 else if i=hs.length then h else 0:=fun i=>by
    by_cases c:i<hs.length
    ·rw [if_pos c,apn,apx c,apn]
    ·rw [if_neg c,apn,apz (by omega)]
     by_cases c2:i=hs.length
     ·rw [if_pos c2,c2,aq4];rfl
     ·rw [if_neg c2,apR (by simp;omega)];rfl
   rw [apA,ap3] at hi
   have gs:(sl++[pos mask h E]).getD i 0=((sl++[pos mask h E])[i]?).getD 0:=apn ..
   rw [gl,gs,ls]
   by_cases c:i<hs.length
   ·rw [if_pos c,if_pos (by rw [o.len];exact c)]
    obtain⟨q,a,b⟩:=o.reach i c
    exact⟨q,by rw [<-apn];exact a,fun q' hq=>apN _ (b q' hq)⟩
   ·rw [if_neg c,if_pos (by omega),if_neg (by rw [o.len];omega),if_pos (by rw [o.len];omega)]
    exact⟨E,rfl,fun q' hq=>apN _ (e2' q' hq)⟩
theorem age {mask:Nat} (g:jP (mask+1)=true):∀ (l:List Int) (ow:Array (Option Nat)) (hs:List Int) (sl:List Nat),OwnT mask ow hs sl->hs.length+l.length<=mask+1 ->
  ∃ ow' sl',l.foldl (agd mask) (some (ow,hs.length))=some (ow',hs.length+l.length)/\OwnT mask ow' (hs++l) sl'
 | [],ow,hs,sl,o,_=>⟨ow,sl,rfl,by rw [apY];exact o⟩
 | h :: l,ow,hs,sl,o,hm=>by
  rw [apL] at hm
  obtain⟨ow1,sl1,e1,o1⟩:=aiM g o (by omega) h
  obtain⟨ow2,sl2,e2,o2⟩:=age g l ow1 (hs++[h]) sl1 o1 (by rw [apA,ap3];omega)
  refine⟨ow2,sl2,?_,by rw [aqu] at o2;exact o2⟩
  rw [as7,e1]
  rw [apA,ap3] at e2
  rw [e2,apL,asO,atB 1]
theorem akp (mask:Nat):OwnT mask (asq (mask+1) none) [] [] where
 size:=by simp
 len:=rfl
 nd:=.nil
 le:=fun _ h=>nomatch h
 own:=fun j hj i=>by
  have:(asq (mask+1) (none:Option Nat)).getD j none=none:=by simp [ary]
  rw [this]
  constructor <;> intro z <;> cases z
 reach:=fun i hi=>absurd hi (aqZ _)
theorem aiN {mask:Nat} (g:jP (mask+1)=true) (hs:Array Int) (hm:hs.size<=mask+1):∃ ow sl,layClean mask hs=some ow/\OwnT mask ow hs.toList sl:=by
 obtain⟨ow,sl,e,o⟩:=age g hs.toList _ [] [] (akp mask) (by simpa using hm)
 refine⟨ow,sl,?_,by simpa using o⟩
 unfold layClean
 rw [<-Array.foldl_toList]
 have:hs.toList.foldl (agd mask) (some (asq (mask+1) none,0))=some (ow,0+hs.toList.length):=e
 show Option.map _ (hs.toList.foldl (agd mask) (some (asq (mask+1) none,0)))=_
 rw [this]
 rfl
theorem laid_ok {mask:Nat} (mk:mask=7 \/ mask=31 \/ mask=127 \/ mask=511) (hs:Array Int) (hm:hs.size<=mask) (finger moves:Nat) (led plain:Bool) :
  ∃ t ord,laid mask finger moves led plain hs=some (t,ord)/\t.mask=mask/\t.plain=plain/\t.led=led/\ord.toList.Perm (apK hs.size)/\TB t (ord.toList.map fun i=>hs.toList.getD i 0):=by
 have g:jP (mask+1)=true:=by
  rcases mk with rfl | rfl | rfl | rfl
  ·exact af9
  ·exact aee
  ·exact aco
  ·exact acp
 obtain⟨ow,sl,e,o⟩:=aiN g hs (by omega)
 let live:=(apK (mask+1)).filterMap fun j=>(ow.getD j none).map (j,·)
 have mem:∀ p:Nat×Nat,p∈live↔p.1<=mask/\sl[p.2]?=some p.1:=fun⟨j,i⟩=>by
  show (j,i)∈List.filterMap _ _↔_
  rw [asx]
  constructor
  ·rintro⟨j',hj,e⟩
   have hj':=aso.mp (apV.mp hj)
   cases e2:ow.getD j' none with
   | none=>rw [e2] at e;cases e
   | some i' =>
    rw [e2] at e
    cases e
    exact⟨hj',(o.own _ hj' _).mp e2⟩
  ·rintro⟨h1,h2⟩
   refine⟨j,apV.mpr (by omega),?_⟩
   rw [(o.own j h1 i).mpr h2]
   rfl
 have up:(live.map (·.1)).Pairwise (·<·):=by
  rw [aqX]
  show (List.filterMap _ _).Pairwise _
  rw [List.pairwise_filterMap]
  refine as1.imp fun {a b} hab p hp q hq=>?_
  cases e1:ow.getD a none with
  | none=>rw [e1] at hp;cases hp
  | some i =>
   cases e2:ow.getD b none with
   | none=>rw [e2] at hq;cases hq
   | some i2 =>
    rw [e1] at hp
    rw [e2] at hq
    cases hp
    cases hq
    exact hab
 have nd2:(live.map (·.2)).Nodup:=by
  show List.Pairwise _ _
  rw [aqX]
  have u2:=aqX.mp up
  refine u2.imp_of_mem fun {p q} hp hq hlt hz=>?_
  have a1:=((mem p).mp hp).2
  have a2:=((mem q).mp hq).2
  rw [hz,a2] at a1
  have:=Option.some.inj a1
  omega
 have pm:(live.map (·.2)).Perm (apK hs.size):=by
  refine (List.perm_ext_iff_of_nodup nd2 asT).mpr fun i=>?_
  have ls:sl.length=hs.size:=by rw [o.len,apD]
  constructor
  ·intro hi
   obtain⟨p,hp,rfl⟩:=apJ.mp hi
   have:=(apm.mp ((mem p).mp hp).2).1
   exact apV.mpr (by omega)
  ·intro hi
   have hi':=apV.mp hi
   have hl:i<sl.length:=by omega
   exact apJ.mpr ⟨(sl[i],i),(mem _).mpr ⟨o.le _ (apS hl),aph hl⟩,rfl⟩
 refine⟨_,_,by unfold laid;rw [e];rfl,rfl,rfl,rfl,pm,?_⟩
 have ln:live.length=hs.size:=by have:=pm.length_eq;rwa [api,aqa] at this
 have tk:∀ j,j∈sl->∃ i,i<live.length/\(live.map (·.1)).getD i 0=j:=fun j hj=>by
  obtain⟨i,hi,e2⟩:=aq0 hj
  have:(j,i)∈live:=(mem _).mpr ⟨o.le j hj,by rw [aph hi,e2]⟩
  obtain⟨q,hq,e3⟩:=aq0 this
  exact⟨q,hq,by rw [apn,apt,aph hq,e3];rfl⟩
 have gd:∀ i,(live.map (·.1)).toArray.getD i 0=(live.map (·.1)).getD i 0:=fun i=>by rw [vO]
 refine⟨mk,rfl,fun i j hij hj=>?_,fun i hi=>?_,?_,?_,fun i hi=>?_⟩
 ·show (live.map (·.1)).toArray.getD i 0<(live.map (·.1)).toArray.getD j 0
  have hj':j<(live.map (·.1)).length:=by
   have h2:j<(live.map (·.1)).toArray.size:=hj
   rwa [apH] at h2
  rw [gd,gd,apn,apn,aph hj',aph (show i<(live.map (·.1)).length by omega)]
  exact arR.mp up i j (by omega) hj' hij
 ·show (live.map (·.1)).toArray.getD i 0<=mask
  have hi':i<(live.map (·.1)).length:=by
   have h2:i<(live.map (·.1)).toArray.size:=hi
   rwa [apH] at h2
  rw [gd,apn,aph hi']
  obtain⟨p,hp,e2⟩:=apJ.mp (apS hi')
  show (live.map (·.1))[i]<=mask
  rw [<-e2]
  exact ((mem p).mp hp).1
 ·show (live.map (·.1)).toArray.size=_
  simp
 ·show (asA _ (live.map (·.2))).length<=mask
  rw [api,api,ln]
  exact hm
 ·have hi':i<live.length:=by
   have hi2:i<(asA (fun i=>hs.toList.getD i 0) (live.map (·.2))).length:=hi
   rwa [api,api] at hi2
  have pl:(live.map (·.1)).toArray.getD i 0=live[i].1:=by
   rw [gd,apn,apt,aph hi']
   rfl
  have hh:(asA (fun i=>hs.toList.getD i 0) (live.map (·.2))).getD i 0=hs.toList.getD live[i].2 0:=by
   rw [apn,apt,apt,aph hi']
   rfl
  have m2:=(mem live[i]).mp (apS hi')
  have l2:=(apm.mp m2.2).1
  obtain⟨q,a,b⟩:=o.reach live[i].2 (by rw [<-o.len];exact l2)
  refine⟨q,?_,fun q' hq=>?_⟩
  ·show pos mask ((asA (fun i=>hs.toList.getD i 0) (live.map (·.2))).getD i 0) q=(live.map (·.1)).toArray.getD i 0
   rw [hh,pl,a,apn,m2.2]
   rfl
  ·show Tk _ (pos mask ((asA (fun i=>hs.toList.getD i 0) (live.map (·.2))).getD i 0) q')
   rw [hh]
   obtain⟨z,hz,ez⟩:=tk _ (b q' hq)
   exact⟨z,by show z<(live.map (·.1)).toArray.size;simpa using hz,by show (live.map (·.1)).toArray.getD z 0=_;rw [gd];exact ez⟩
end L2.ST
end
section
namespace L2
open PySem PySem.Spec PyProof.Rows
mutual
noncomputable def zy (w:World):PyData->Int
 | .int i=>hashInt i
 | .str x=>hashStr w x
 | .tuple xs=>reduceHash (ard (qN w xs))
 | _=>0
noncomputable def qN (w:World):List PyData->List Int
 | []=>[]
 | x :: xs=>zy w x :: qN w xs
end
mutual
noncomputable def yc:PyData->Nat
 | .int _=>1
 | .str _=>1
 | .tuple xs=>abr xs+1
 | _=>0
noncomputable def abr:List PyData->Nat
 | []=>0
 | x :: xs=>yc x+abr xs
end
mutual
theorem abt {P:Program} {w:World}:∀ (d:PyData) (A:Around) (s:Shared) (v:Value) (as:List Addr) (E:Value->Shared->Prop) (Q:Int->Shared->Prop),Reads s.heap v d as->zH d=true->A.units+4 * d.depth<cLine ->
  Q (zy w d) { s with toks:=s.toks+yc d }->wpAny (model P w) A (pyHash v) Q E s
 | .int i,A,s,_,_,E,Q,r,_,_,q=>by
  cases r
  rw [zy,yc] at q
  exact wpAny_pyHash_int q
 | .str x,A,s,_,_,E,Q,r,_,_,q=>by
  cases r
  rw [zy,yc] at q
  exact wpAny_pyHash_str q
 | .tuple xs,A,s,_,_,E,Q,r,p,hu,q=>by
  cases r with
  | @tuple a o vs n _ as h1 h2 h3 h4 =>
   rw [zH] at p
   rw [zy,yc] at q
   have hT:s.TypeIs (.ref a) "tuple":=⟨o,h1,h2⟩
   have e1:(PyData.tuple xs).depth=apE xs+1:=rfl
   rw [e1] at hu
   show wpAny _ A (pyHashByItsType (.ref a)) Q E s
   unfold pyHashByItsType
   apply wpAny_bind;apply wpAny_cRoomFor_or (.inr (by omega))
   apply wpAny_bind;apply wpAny_specialOf hT aqY.lookup
   show wpAny _ _ (if (some (Value.builtin "tuple.__hash__") == some Value.none)=true then _ else _) Q E s
   rw [if_neg (by rw [beq_builtin_none];exact apk)]
   apply wpAny_bind;apply wpAny_specialOf hT aqY.lookup
   show wpAny _ _ (callSpecialIfBoundUnlessNone? (.ref a) "__hash__" _ >>= _) Q E s
   apply wpAny_bind
   refine wpAny_callSpecialIfBoundUnlessNone?_slot hT aqY (wpAny_call_entry aqY hT PySem.F.entry_tuple_hash ?_ (PySem.F.args_tuple_hash_1 _))
   show wpAny _ _ (Builtin.Tuple.tupleItemsOf (.ref a) >>= _) _ _ s
   apply wpAny_bind;apply wpAny_tupleItemsOf h1 h3
   apply wpAny_bind
   rw [<-ar3]
   have hu1:A.in1.units=A.units+1:=rfl
   refine abu xs A.in1 s vs.toList _ #[] _ _ h4 p (by omega) ?_
   simp only [apY,List.nil_append]
   show wpAny _ _ (retInt (ard (#[]++(qN w xs).toArray).toList)) _ _ _
   rw [show (#[]++(qN w xs).toArray:Array Int).toList=qN w xs by simp]
   refine wpAny_ret_mkInt ?_
   show wpAny _ _ (pyHashByItsType.reduced _) Q E _
   unfold reduceHash at q
   unfold pyHashByItsType.reduced
   by_cases hr:(decide (-(2:Int) ^ 63<=ard (qN w xs)) && decide (ard (qN w xs)<2 ^ 63))=true
   ·rw [if_pos hr] at q ⊢
    exact wpAny_pure (by simpa [asO] using q)
   ·rw [if_neg hr] at q ⊢
    exact wpAny_bind (wpAny_rule (wpAny_pure (by simpa [asO] using q)))
 | .none,_,_,_,_,_,_,_,h,_,_=>by cases h
 | .bool _,_,_,_,_,_,_,_,h,_,_=>by cases h
 | .list _,_,_,_,_,_,_,_,h,_,_=>by cases h
 | .dict _,_,_,_,_,_,_,_,h,_,_=>by cases h
theorem abu {P:Program} {w:World}:∀ (xs:List PyData) (A:Around) (s:Shared) (vs:List Value) (as:List Addr) (acc:Array Int) (E:Value->Shared->Prop) (Q:Array Int->Shared->Prop),ReadsAll s.heap vs xs as->zT xs=true->A.units+4 * apE xs<cLine ->
  Q (acc++(qN w xs).toArray) { s with toks:=s.toks+abr xs }->wpAny (model P w) A (forIn vs acc fun x r=>do
   let h <- pyHash x
   pure (ForInStep.yield (r.push h))) Q E s
 | [],A,s,_,_,acc,E,Q,r,_,_,q=>by
  cases r
  rw [aqT]
  rw [qN,abr] at q
  exact wpAny_pure (by simpa using q)
 | x :: xs,A,s,_,_,acc,E,Q,r,p,hu,q=>by
  cases r with
  | cons r1 r2 =>
   rw [zT,apu] at p
   rw [qN,abr] at q
   have e1:apE (x :: xs)=max x.depth (apE xs):=rfl
   rw [e1] at hu
   rw [aqK]
   apply wpAny_bind;apply wpAny_bind
   refine abt x A s _ _ _ _ r1 p.1 (by omega) (wpAny_pure ?_)
   refine abu xs A { s with toks:=s.toks+yc x } _ _ _ _ _ r2 p.2 (by omega) ?_
   have e2:acc.push (zy w x)++(qN w xs).toArray=acc++(zy w x :: qN w xs).toArray:=by simp
   rw [e2]
   rw [<-asO] at q
   exact q
end
mutual
theorem jU {P:Program} {w:World}:∀ (d:PyData) (n:Nat) (A:Around) (s:Shared) (v:Value) (as:List Addr) (E:Value->Shared->Prop) (Q:Bool->Shared->Prop),Reads s.heap v d as->zH d=true->d.depth<=n->Q true s->wpAny (model P w) A (eqIsQuiet n v) Q E s
 | .int i,n,A,s,_,_,E,Q,r,_,_,q=>by
  cases r
  rw [eqIsQuiet_byValue n rfl]
  exact wpAny_pure q
 | .str x,n,A,s,_,_,E,Q,r,_,_,q=>by
  cases r
  rw [eqIsQuiet_byValue n rfl]
  exact wpAny_pure q
 | .tuple xs,n,A,s,_,_,E,Q,r,p,hn,q=>by
  cases r with
  | @tuple a o vs n' _ as h1 h2 h3 h4 =>
   rw [zH] at p
   have e1:(PyData.tuple xs).depth=apE xs+1:=rfl
   rw [e1] at hn
   obtain⟨m,rfl⟩:∃ m,n=m+1:=⟨n - 1,by omega⟩
   have hT:s.TypeIs (.ref a) "tuple":=⟨o,h1,h2⟩
   unfold eqIsQuiet
   apply wpAny_bind;apply wpAny_specialOf hT PySem.F.slot_tuple_eq.lookup
   show wpAny _ _ (isInstance (.ref a) (.type "tuple") >>= _) _ _ s
   apply wpAny_bind;apply wpAny_isInstance hT isSubtype_tuple_tuple
   simp only [aqv,apZ,if_false]
   apply wpAny_bind;apply wpAny_seqItems h1 h3
   apply wpAny_bind
   show wpAny _ _ (forIn vs _ _) _ _ s
   rw [<-ar3]
   exact aay xs m A s _ _ _ _ h4 p (by omega) (wpAny_pure q)
 | .none,_,_,_,_,_,_,_,_,h,_,_=>by cases h
 | .bool _,_,_,_,_,_,_,_,_,h,_,_=>by cases h
 | .list _,_,_,_,_,_,_,_,_,h,_,_=>by cases h
 | .dict _,_,_,_,_,_,_,_,_,h,_,_=>by cases h
theorem aay {P:Program} {w:World}:∀ (xs:List PyData) (m:Nat) (A:Around) (s:Shared) (vs:List Value) (as:List Addr) (E:Value->Shared->Prop) (Q:Option Bool×Unit->Shared->Prop),ReadsAll s.heap vs xs as->zT xs=true->apE xs<=m->Q (none,()) s ->
  wpAny (model P w) A (forIn vs ((none,()):Option Bool×Unit) fun y _=>do
   let b <- eqIsQuiet m y
   if (!b)=true then pure (ForInStep.done (some false,())) else pure (ForInStep.yield (none,()))) Q E s
 | [],m,A,s,_,_,E,Q,r,_,_,q=>by
  cases r
  rw [aqT]
  exact wpAny_pure q
 | x :: xs,m,A,s,_,_,E,Q,r,p,hn,q=>by
  cases r with
  | cons r1 r2 =>
   rw [zT,apu] at p
   have e1:apE (x :: xs)=max x.depth (apE xs):=rfl
   rw [e1] at hn
   rw [aqK]
   apply wpAny_bind;apply wpAny_bind
   refine jU x m A s _ _ _ _ r1 p.1 (by omega) ?_
   simp only [aqv,apZ,if_false]
   exact wpAny_pure (aay xs m A s _ _ _ _ r2 p.2 (by omega) q)
end
mutual
theorem aag {P:Program} {w:World}:∀ (d:PyData) (n:Nat) (A:Around) (s:Shared) (v:Value) (as:List Addr) (E:Value->Shared->Prop) (Q:Bool->Shared->Prop),Reads s.heap v d as->zH d=true->d.depth<=n->Q false s->wpAny (model P w) A (ofAClassStatement n v) Q E s
 | .int i,n,A,s,_,_,E,Q,r,_,_,q=>by
  cases r
  unfold ofAClassStatement
  exact wpAny_pure q
 | .str x,n,A,s,_,_,E,Q,r,_,_,q=>by
  cases r
  unfold ofAClassStatement
  exact wpAny_pure q
 | .tuple xs,n,A,s,_,_,E,Q,r,p,hn,q=>by
  cases r with
  | @tuple a o vs n' _ as h1 h2 h3 h4 =>
   rw [zH] at p
   have e1:(PyData.tuple xs).depth=apE xs+1:=rfl
   rw [e1] at hn
   obtain⟨m,rfl⟩:∃ m,n=m+1:=⟨n - 1,by omega⟩
   have hT:s.TypeIs (.ref a) "tuple":=⟨o,h1,h2⟩
   unfold ofAClassStatement
   apply wpAny_bind;apply wpAny_typeOf hT
   dsimp only
   rw [if_pos (show ("tuple" == "tuple")=true from rfl)]
   apply wpAny_bind;apply wpAny_pure
   simp only [aqv,apZ,if_false]
   apply wpAny_bind;apply wpAny_seqItems h1 h3
   dsimp only
   apply wpAny_bind
   rw [<-ar3]
   exact acq xs m A s _ _ _ _ h4 p (by omega) (wpAny_pure q)
 | .none,_,_,_,_,_,_,_,_,h,_,_=>by cases h
 | .bool _,_,_,_,_,_,_,_,_,h,_,_=>by cases h
 | .list _,_,_,_,_,_,_,_,_,h,_,_=>by cases h
 | .dict _,_,_,_,_,_,_,_,_,h,_,_=>by cases h
theorem acq {P:Program} {w:World}:∀ (xs:List PyData) (m:Nat) (A:Around) (s:Shared) (vs:List Value) (as:List Addr) (E:Value->Shared->Prop) (Q:Option Bool×Unit->Shared->Prop),ReadsAll s.heap vs xs as->zT xs=true->apE xs<=m->Q (none,()) s ->
  wpAny (model P w) A (forIn vs ((none,()):Option Bool×Unit) fun y _=>do
   let b <- ofAClassStatement m y
   if b=true then pure (ForInStep.done (some true,())) else pure (ForInStep.yield (none,()))) Q E s
 | [],m,A,s,_,_,E,Q,r,_,_,q=>by
  cases r
  rw [aqT]
  exact wpAny_pure q
 | x :: xs,m,A,s,_,_,E,Q,r,p,hn,q=>by
  cases r with
  | cons r1 r2 =>
   rw [zT,apu] at p
   have e1:apE (x :: xs)=max x.depth (apE xs):=rfl
   rw [e1] at hn
   rw [aqK]
   apply wpAny_bind;apply wpAny_bind
   refine aag x m A s _ _ _ _ r1 p.1 (by omega) ?_
   simp only [apZ,if_false]
   exact wpAny_pure (acq xs m A s _ _ _ _ r2 p.2 (by omega) q)
end
mutual
theorem aaz {P:Program} {w:World}:∀ (d:PyData) (n:Nat) (A:Around) (s:Shared) (v:Value) (as:List Addr) (E:Value->Shared->Prop) (Q:Bool->Shared->Prop),Reads s.heap v d as->zH d=true->(∀ b,Q b s)->wpAny (model P w) A (hashByValue n v) Q E s
 | .int i,n,A,s,_,_,E,Q,r,_,q=>by
  cases r
  unfold hashByValue
  exact wpAny_pure (q _)
 | .str x,n,A,s,_,_,E,Q,r,_,q=>by
  cases r
  unfold hashByValue
  exact wpAny_pure (q _)
 | .tuple xs,n,A,s,_,_,E,Q,r,p,q=>by
  cases r with
  | @tuple a o vs n' _ as h1 h2 h3 h4 =>
   rw [zH] at p
   have hT:s.TypeIs (.ref a) "tuple":=⟨o,h1,h2⟩
   cases n with
   | zero =>
    unfold hashByValue
    exact wpAny_pure (q _)
   | succ m =>
    unfold hashByValue
    apply wpAny_bind;apply wpAny_specialOf hT aqY.lookup
    show wpAny _ _ (seqItems? (.ref a) >>= _) _ _ s
    apply wpAny_bind;apply wpAny_seqItems h1 h3
    apply wpAny_bind
    show wpAny _ _ (forIn vs _ _) _ _ s
    rw [<-ar3]
    exact aaA xs m A s _ _ _ _ h4 p (wpAny_pure (q _)) fun b=>wpAny_pure (q b)
 | .none,_,_,_,_,_,_,_,_,h,_=>by cases h
 | .bool _,_,_,_,_,_,_,_,_,h,_=>by cases h
 | .list _,_,_,_,_,_,_,_,_,h,_=>by cases h
 | .dict _,_,_,_,_,_,_,_,_,h,_=>by cases h
theorem aaA {P:Program} {w:World}:∀ (xs:List PyData) (m:Nat) (A:Around) (s:Shared) (vs:List Value) (as:List Addr) (E:Value->Shared->Prop) (Q:Option Bool×Unit->Shared->Prop),ReadsAll s.heap vs xs as->zT xs=true->Q (none,()) s->(∀ b,Q (some b,()) s) ->
  wpAny (model P w) A (forIn vs ((none,()):Option Bool×Unit) fun y _=>do
   let b <- hashByValue m y
   if (!b)=true then pure (ForInStep.done (some false,())) else pure (ForInStep.yield (none,()))) Q E s
 | [],m,A,s,_,_,E,Q,r,_,q,_=>by
  cases r
  rw [aqT]
  exact wpAny_pure q
 | x :: xs,m,A,s,_,_,E,Q,r,p,q,q2=>by
  cases r with
  | cons r1 r2 =>
   rw [zT,apu] at p
   rw [aqK]
   apply wpAny_bind;apply wpAny_bind
   refine aaz x m A s _ _ _ _ r1 p.1 fun b=>?_
   cases b with
   | true =>
    simp only [aqv,apZ,if_false]
    exact wpAny_pure (aaA xs m A s _ _ _ _ r2 p.2 q q2)
   | false =>
    simp only [asB,if_true]
    exact wpAny_pure (wpAny_pure (q2 false))
end
noncomputable instance decPy:DecidableEq PyData:=fun a b=>aqn _
structure KeyAt (h:Heap) (d:PyData) (a:Addr):Prop where
 rd:∃ as,Reads h (.ref a) d as
 pl:zH d=true
 dp:d.depth<=8
theorem KeyAt.keep {h h':Heap} {d:PyData} {a:Addr} (x:KeyAt h d a) (k:∀ b o,h.get? b=some o->(∀ es ep,o.data≠.dict es ep)->(∀ es ep t,o.data≠.set es ep t)->h'.get? b=some o):KeyAt h' d a:=by
 obtain⟨⟨as,r⟩,p,q⟩:=x
 refine⟨?_,p,q⟩
 have go:(∀ (d:PyData) (v:Value) (as:List Addr),Reads h v d as->zH d=true->Reads h' v d as):=by
  intro d v as r
  refine Reads.rec (motive_1:=fun v d as _=>zH d=true->Reads h' v d as) (motive_2:=fun vs ds as _=>zT ds=true->ReadsAll h' vs ds as) ?_ ?_ ?_ ?_ ?_ ?_ ?_ ?_ ?_ r
  ·intro p;cases p
  ·intro b p;cases p
  ·intro i t p;exact .int i t
  ·intro x t p;exact .str x t
  ·intro a o vs n xs as h1 h2 h3 h4 ih p;cases p
  ·intro a o vs n xs as h1 h2 h3 h4 ih p
   rw [zH] at p
   exact .tuple (k a o h1 (fun es ep z=>by rw [h3] at z;cases z) (fun es ep t z=>by rw [h3] at z;cases z)) h2 h3 (ih p)
  ·intros;rename_i p;cases p
  ·intro p;exact .nil
  ·intro v vs d ds as bs r rs ih1 ih2 p
   rw [zT,apu] at p
   exact .cons (ih1 p.1) (ih2 p.2)
 exact⟨as,go d _ as r p⟩
noncomputable def aaS (P:Program) (w:World):HeapKind P w PyData where
 is:=KeyAt
 hash:=zy w
 draws:=yc
 room:=fun A=>A.units+40<cLine
 inj:=fun {h a x y} hx hy=>by
  obtain⟨⟨as,r⟩,p,_⟩:=hx
  obtain⟨⟨bs,r'⟩,p',_⟩:=hy
  exact SeqAt.Reads.unique _ _ _ _ _ (yT x p) r r'
 keeps:=fun {h h' k a d o es ep} x ho hd sb=>x.keep fun b u hb n1 n2=>by
  have:b≠d:=fun z=>by
   rw [z,ho] at hb
   cases hb
   exact n1 es ep hd
  exact (sb.2 b this).trans hb
 pyHash:=fun {A E s k a Q} hu x q=>by
  obtain⟨⟨as,r⟩,p,hd⟩:=x
  exact abt k A s _ as E Q r p (by omega) q
 eqBool:=fun {A E s x y a b Q} hu hx hy q=>by
  obtain⟨⟨as,r⟩,p,hd⟩:=hx
  obtain⟨⟨bs,r'⟩,p',hd'⟩:=hy
  refine SeqAt.eqAt_reads x y A s _ _ _ _ r r' (yT x p) (yT y p') (by omega) P w E Q ?_
  have:apP x y=decide (x=y):=by
   by_cases e:x=y
   ·rw [decide_eq_true e];exact (aaR p p').mpr e
   ·rw [decide_eq_false e]
    cases z:apP x y with
    | false=>rfl
    | true=>exact absurd ((aaR p p').mp z) e
  rw [this]
  exact q
 quiet:=fun {A E s k a Q} x q=>by
  obtain⟨⟨as,r⟩,p,hd⟩:=x
  exact jU k 8 A s _ as E Q r p hd q
end L2
end
section
namespace L2
open PySem PySem.Spec PyProof.Rows PySem.SetTable
section
variable {P:Program} {w:World} {A:Around} {E:Value->Shared->Prop} {s:Shared}
theorem akq {b:Addr} {d:PyData} {Q:Bool->Shared->Prop} (kb:KeyAt s.heap d b):∀ l:List Value,(∀ y∈l,∃ d' b',y=.ref b'/\KeyAt s.heap d' b')->Q false s->wpAny (model P w) A (searchCouldBeSeen (.ref b) l) Q E s:=by
 intro l hl q
 unfold searchCouldBeSeen
 apply wpAny_bind
 refine wpAny_forIn_list _ (fun rest r s'=>r=(none,())/\s'=s/\∀ y∈rest,y∈l) _ ?_ ?_ _ _ ⟨rfl,rfl,fun _ h=>h⟩
 ·rintro y rest r s' ⟨rfl,rfl,hm⟩
  obtain⟨d',b',rfl,kb'⟩:=hl y (hm y apo)
  obtain⟨⟨as,rd⟩,pd,dd⟩:=id kb
  obtain⟨⟨bs,rd'⟩,pd',dd'⟩:=id kb'
  have more:∀ z∈rest,z∈l:=fun z hz=>hm z (apl _ hz)
  dsimp only
  split
  ·exact wpAny_pure ⟨rfl,rfl,more⟩
  ·apply wpAny_bind
   refine jU d 8 A _ _ as _ _ rd pd dd ?_
   simp only [aqv,apZ,if_false]
   apply wpAny_bind
   refine jU d' 8 A _ _ bs _ _ rd' pd' dd' ?_
   simp only [aqv,apZ,if_false]
   apply wpAny_bind
   refine aag d 8 A _ _ as _ _ rd pd dd ?_
   simp only [apZ,if_false]
   apply wpAny_bind
   refine aag d' 8 A _ _ bs _ _ rd' pd' dd' ?_
   simp only [apZ,if_false]
   exact wpAny_pure ⟨rfl,rfl,more⟩
 ·rintro r s' ⟨rfl,rfl,_⟩
  exact wpAny_pure q
structure SetObj (w:World) (h:Heap) (a:Addr) (xs:List (PyData×Addr)) (o:Obj) (es:Array (Int×Value)) (ep:Nat) (t:SetTable):Prop where
 ob:h.get? a=some o
 ex:o.ExactSet
 da:o.data=.set es ep t
 el:es.toList=xs.map fun x=>(zy w x.1,Value.ref x.2)
 ok:ST.TOk t (xs.map fun x=>zy w x.1)
theorem SetObj.size {h:Heap} {a:Addr} {xs:List (PyData×Addr)} {o:Obj} {es:Array (Int×Value)} {ep:Nat} {t:SetTable} (x:SetObj w h a xs o es ep t):es.size=xs.length:=by
 rw [<-apD,x.el,api]
theorem SetObj.fits {h:Heap} {a:Addr} {xs:List (PyData×Addr)} {o:Obj} {es:Array (Int×Value)} {ep:Nat} {t:SetTable} (x:SetObj w h a xs o es ep t):t.fits es.size=true:=by
 unfold SetTable.fits atv
 have h1:=x.ok.size
 have h2:=x.ok.most
 rw [api] at h1 h2
 rw [x.size,h1,x.ok.dum]
 simp
 exact h2
theorem SetObj.at {h:Heap} {a:Addr} {xs:List (PyData×Addr)} {o:Obj} {es:Array (Int×Value)} {ep:Nat} {t:SetTable} (x:SetObj w h a xs o es ep t) {i:Nat} (hi:i<xs.length):es[i]?=some (zy w xs[i].1,Value.ref xs[i].2):=by
 rw [<-arb,x.el,apt,aph hi]
 rfl
theorem aiO {t:SetTable} {hs:List Int} (o:ST.TOk t hs):t.gaveWay=false:=by
 unfold SetTable.gaveWay
 rcases o.mask with e | e | e | e <;> rw [e] <;> rfl
theorem aiP {α:Type} {M:Model} {c:Bool} {m:Sem Bool} {u:Sem Unit} {r:Sem α} {Q:α->Shared->Prop} (hr:wpAny M A r Q E s) (hm:∀ R:Bool->Shared->Prop,R false s->wpAny M A m R E s) :
  wpAny M A (if c=true then (do
   let b <- m
   if b=true then do
    u
    r
   else r) else r) Q E s:=by
 cases c with
 | false=>rw [if_neg apk];exact hr
 | true =>
  rw [if_pos rfl]
  apply wpAny_bind
  refine hm _ ?_
  rw [if_neg apk]
  exact hr
theorem aeh {M:Model} {a:Addr} {Q:Bool->Shared->Prop} (q:Q true s):wpAny M A (isSame (.ref a) (.ref a)) Q E s:=by
 unfold isSame
 simp only [beq_self_eq_true]
 exact wpAny_pure q
theorem aah {a b:Addr} {d:PyData} {xs:List (PyData×Addr)} {o:Obj} {es:Array (Int×Value)} {ep:Nat} {t:SetTable} {adding:Bool} {Q:SetFound->Shared->Prop} (S:SetObj w s.heap a xs o es ep t) (ks:∀ x∈xs,KeyAt s.heap x.1 x.2)
  (kb:KeyAt s.heap d b) (hu:A.units+40<cLine) {F:Nat} (hF:ST.First t (zy w d) F) (yes:d∈xs.map (·.1)->∀ r:Option Nat,(adding=false->r.isSome=true)->Q (.there r) s) (no:d∉xs.map (·.1)->Q (.free (ST.pos t.mask (zy w d) F) false) s) :
  ∀ f k stand,k<=F->F<k+f->stand.getD (t.probeStart (zy w d))=ST.road t.mask (zy w d) k ->
   (∀ q i,q<k->i<xs.length->ST.pos t.mask (zy w d) q=t.place.getD i 0->(xs.getD i (.none,0)).1≠d) ->
   wpAny (model P w) A (setSearchFrom a (.ref b) (zy w d) adding f stand) Q E s
 | 0,k,stand,h1,h2,_,_=>by omega
 | f+1,k,stand,h1,h2,hst,past=>by
  have sz:=S.ok.size
  rw [api] at sz
  have key:∀ g:Nat->Int,(∀ i,g i=(es[i]?.map (·.1)).getD 0) ->
    (t.probe g (zy w d) (ST.road t.mask (zy w d) k)=some (.empty (ST.pos t.mask (zy w d) F) none)/\∀ q i,k<=q->q<F->i<t.place.size->ST.pos t.mask (zy w d) q=t.place.getD i 0->g i≠zy w d) \/
    ∃ q i,k<=q/\q<F/\i<t.place.size/\ST.pos t.mask (zy w d) q=t.place.getD i 0/\g i=zy w d/\t.probe g (zy w d) (ST.road t.mask (zy w d) k)=some (.candidate (ST.pos t.mask (zy w d) q) i (ST.road t.mask (zy w d) (q+1)))/\∀ q' i',k<=q'->q'<q->i'<t.place.size->ST.pos t.mask (zy w d) q'=t.place.getD i' 0->g i'≠zy w d :=
   fun g _=>ST.probe_go S.ok.dum S.ok.rise hF (10 * turns t.mask) k h1 (by have:=hF.lt;omega)
  have gat:∀ i (hi:i<xs.length),(es[i]?.map (·.1)).getD 0=zy w xs[i].1:=fun i hi=>by rw [S.at hi];rfl
  unfold setSearchFrom
  apply wpAny_bind
  refine wpAny_setState_of S.ob S.da S.fits ?_
  dsimp only
  rw [aiO S.ok,if_neg apk,hst]
  have reach:∀ i (hi:i<xs.length),xs[i].1=d->∃ q,q<F/\ST.pos t.mask (zy w d) q=t.place.getD i 0:=fun i hi ed=>by
   obtain⟨q,a1,a2⟩:=S.ok.reach i (by rw [api];exact hi)
   have eh:(xs.map fun x=>zy w x.1).getD i 0=zy w d:=by
    rw [apn,apt,aph hi,<- ed]
    rfl
   rw [eh] at a1 a2
   refine⟨q,?_,a1⟩
   by_cases c:q<F
   ·exact c
   ·by_cases c2:q=F
    ·subst c2
     exact absurd ⟨i,by omega,a1.symm⟩ hF.free
    ·exact absurd (a2 F (by omega)) hF.free
  have ggd:∀ i (hi:i<xs.length),xs.getD i (.none,0)=xs[i]:=fun i hi=>by rw [apn,aph hi];rfl
  rcases key (fun i=>(es[i]?.map (·.1)).getD 0) (fun i=>rfl) with⟨e,none_⟩ | ⟨q,i,q1,q2,q3,q4,q5,e,none_⟩
  ·have ee:∀ g:Nat->Int,(∀ i,g i=(es[i]?.map (·.1)).getD 0)->t.probe g (zy w d) (ST.road t.mask (zy w d) k)=some (.empty (ST.pos t.mask (zy w d) F) none):=fun g hg=>by
    rw [show g=fun i=>(es[i]?.map (·.1)).getD 0 from funext hg]
    exact e
   rw [ee]
   rotate_left
   ·exact fun i=>rfl
   dsimp only
   refine wpAny_pure (no fun hd=>?_)
   obtain⟨x,hx,ex⟩:=apJ.mp hd
   obtain⟨i,hi,ei⟩:=aq0 hx
   have ed:xs[i].1=d:=by rw [ei];exact ex
   obtain⟨q,qF,qp⟩:=reach i hi ed
   by_cases c:q<k
   ·exact past q i c hi qp (by rw [ggd i hi];exact ed)
   ·exact none_ q i (by omega) qF (by omega) qp (by rw [gat i hi,ed])
  ·have ee:∀ g:Nat->Int,(∀ i,g i=(es[i]?.map (·.1)).getD 0)->t.probe g (zy w d) (ST.road t.mask (zy w d) k)=some (.candidate (ST.pos t.mask (zy w d) q) i (ST.road t.mask (zy w d) (q+1))):=fun g hg=>by
    rw [show g=fun i=>(es[i]?.map (·.1)).getD 0 from funext hg]
    exact e
   have hi:i<xs.length:=by omega
   have mi:xs[i]∈xs:=apS hi
   have ki:=ks _ mi
   rw [ee]
   rotate_left
   ·exact fun i=>rfl
   dsimp only
   refine aiP ?_ fun R hR=>akq kb _ (fun y hy=>?_) hR
   rotate_left
   ·obtain⟨p,hp,rfl⟩:=apJ.mp hy
    have hp2:p∈es.toList:=by
     have:=atl.mp hp
     exact atl.mpr (Array.mem_filter.mp this).1
    rw [S.el] at hp2
    obtain⟨x,hx,rfl⟩:=apJ.mp hp2
    exact⟨x.1,x.2,rfl,ks x hx⟩
   rw [S.at hi]
   dsimp only
   apply wpAny_bind;apply wpAny_holding
   refine (aaS P w).eqBool (A:=A) hu ki kb ?_
   apply wpAny_bind
   refine wpAny_setState_of S.ob S.da S.fits ?_
   dsimp only
   have same:t.sameMemory t.moves t.mask=some true:=by
    unfold SetTable.sameMemory
    rw [if_pos (beq_self_eq_true _)]
   have live:t.slot (ST.pos t.mask (zy w d) q)=.live i:=by rw [q4];exact ST.slot_live S.ok.rise q3
   by_cases ed:xs[i].1=d
   ·have y2:=yes (apJ.mpr ⟨_,mi,ed⟩)
    rw [decide_eq_true ed]
    cases adding with
    | true=>exact wpAny_pure (y2 _ fun z=>nomatch z)
    | false =>
     rw [aro,if_neg apk,same]
     dsimp only
     rw [if_pos rfl,live]
     dsimp only
     rw [S.at hi]
     dsimp only
     apply wpAny_bind
     refine aeh ?_
     apply wpAny_bind;apply wpAny_pure
     rw [if_pos rfl]
     dsimp only
     rw [if_pos rfl]
     exact wpAny_pure (y2 _ fun _=>rfl)
   ·rw [decide_eq_false ed,asz,if_neg apk,same]
    dsimp only
    rw [if_pos rfl,live]
    dsimp only
    rw [S.at hi]
    dsimp only
    apply wpAny_bind
    refine aeh ?_
    apply wpAny_bind;apply wpAny_pure
    rw [if_pos rfl]
    dsimp only
    rw [if_neg apk]
    refine aah S ks kb hu hF yes no f (q+1) _ (by omega) (by omega) rfl fun q' i' c1 c2 c3=>?_
    rw [ggd i' c2]
    intro z
    by_cases c4:q'<k
    ·exact past q' i' c4 c2 c3 (by rw [ggd i' c2];exact z)
    ·by_cases c5:q'=q
     ·subst c5
      have ii:i'=i:=by
       have b1:=ST.below_at S.ok.rise (i:=i) (by omega)
       have b2:=ST.below_at S.ok.rise (i:=i') (by omega)
       rw [<-q4] at b1
       rw [<-c3] at b2
       omega
      subst ii
      exact ed z
     ·exact none_ q' i' (by omega) (by omega) (by omega) c3 (by rw [gat i' c2,z])
end
end L2
end
section
namespace L2
open PySem PySem.Spec PyProof.Rows PySem.SetTable
section
variable {P:Program} {w:World} {A:Around} {E:Value->Shared->Prop} {s:Shared} {a b:Addr} {d:PyData} {xs:List (PyData×Addr)} {o:Obj} {es:Array (Int×Value)} {ep:Nat} {t:SetTable}
theorem SetObj.type (S:SetObj w s.heap a xs o es ep t):s.TypeIs (.ref a) "set":=⟨o,S.ob,S.ex.1⟩
theorem agf (b:Addr) (es:Array (Int×Value)):byScan (.ref b) es=false:=rfl
theorem aei {Q:Bool->Shared->Prop} (S:SetObj w s.heap a xs o es ep t) (ks:∀ x∈xs,KeyAt s.heap x.1 x.2) (kb:KeyAt s.heap d b) (hu:A.units+60<cLine) (q:Q (decide (d∈xs.map (·.1))) { s with toks:=s.toks+yc d }) :
  wpAny (model P w) A (contains (.ref a) (.ref b)) Q E s:=by
 obtain⟨F,hF⟩:=ST.first_of S.ok.toTB (zy w d)
 have hl:=hF.lt
 have ht:turns t.mask<=526:=by
  unfold turns
  rcases S.ok.mask with e | e | e | e <;> omega
 unfold contains
 try with_reducible refine wpAny_holding ?_
 apply wpAny_bind;apply wpAny_specialOf S.type arT.lookup
 show wpAny _ _ (if (some (Value.builtin "set.__contains__") == some Value.none)=true then _ else _) _ E s
 rw [if_neg (by rw [beq_builtin_none];exact apk)]
 apply wpAny_bind
 refine wpAny_callSpecialUnlessNone?_slot (name:=Str.ofString "__contains__") S.type arT (wpAny_call_entry arT S.type entry_set_contains ?_ (PySem.F.args_set_contains_2 _ _))
 unfold Builtin.«frozenset.__contains__» asC
 simp only [List.isEmpty_nil,bind_assoc]
 unfold asP Builtin.Frozenset.withSetAsKey setContains
 apply wpAny_bind;apply wpAny_pure
 dsimp only
 apply wpAny_bind;apply wpAny_pure
 dsimp only
 apply wpAny_bind;apply wpAny_tryCatch;apply wpAny_holding
 apply wpAny_bind
 have hu1:A.in1.units=A.units+1:=rfl
 have hu2:A.in1.in1.units=A.units+1+1:=rfl
 refine (aaS P w).pyHash (by show _+40<cLine;omega) kb ?_
 apply wpAny_bind
 unfold setFind setFindIn
 apply wpAny_bind
 refine wpAny_setState_of (s:={ s with toks:=s.toks+yc d }) S.ob S.da S.fits ?_
 dsimp only
 rw [agf,if_neg apk]
 apply wpAny_bind
 unfold setSearch
 have fin:∀ r:Option Nat,r.isSome=decide (d∈xs.map (·.1))->∀ R:Value->Shared->Prop,R (.bool (decide (d∈xs.map (·.1)))) { s with toks:=s.toks+yc d }->R (.bool r.isSome) { s with toks:=s.toks+yc d }:=fun r e R hR=>by rw [e];exact hR
 refine aah (s:={ s with toks:=s.toks+yc d }) (adding:=false) S ks kb (by omega) hF (fun hd r hr=>?_) (fun hd=>?_) 100000 0 none (ap2 _) (by omega) (ST.road_start t _) (fun q i c=>by omega)
 ·refine wpAny_pure (wpAny_pure ?_)
  show wpAny _ _ (ret (Value.bool r.isSome)) _ _ _
  rw [hr rfl]
  rw [decide_eq_true hd] at q
  exact wpAny_pure ⟨_,rfl,wpAny_truthy_bool q⟩
 ·refine wpAny_pure (wpAny_pure ?_)
  show wpAny _ _ (ret (Value.bool false)) _ _ _
  rw [decide_eq_false hd] at q
  exact wpAny_pure ⟨_,rfl,wpAny_truthy_bool q⟩
noncomputable def agg (es:Array (Int×Value)) (laid:Option (SetTable×Array Nat)):Sem (Array (Int×Value)×SetTable):=do
 let some (t,order):=laid | unsupported "internal:set-table-without-room"
 let es':=order.filterMap (es[·]?)
 if es'.size != es.size then unsupported "internal:set-table-lost-an-element"
 pure (es',t)
theorem aiQ (a:Addr) (wanted:Nat):setRelay a wanted=(do
  let (es,_,t) <- setState a
  if asD wanted > sizeLine then unsupported "set:memory"
  let (es,t) <- agg es (t.relaid (es.map (·.1)) wanted)
  storeSet a es t):=rfl
theorem vt {α:Type} (es:Array α):∀ l:List Nat,(∀ i∈l,i<es.size)->∀ dflt:α,l.filterMap (fun i=>es[i]?)=l.map fun i=>es.toList.getD i dflt
 | [],_,_=>rfl
 | i :: l,h,dflt=>by
  have hi:=h i apo
  rw [arU,arf hi,apT,vt es l (fun j hj=>h j (apl _ hj)) dflt]
  simp [hi]
theorem aiR {Q:Unit->Shared->Prop} {mask wanted:Nat} (S0:s.heap.get? a=some o) (ex:o.ExactSet) (da:o.data=.set es ep t) (el:es.toList=xs.map fun x=>(zy w x.1,Value.ref x.2)) (tb:ST.TB t (xs.map fun x=>zy w x.1)) (mk:mask=31 \/ mask=127 \/ mask=511) (hw:asD wanted=mask+1)
  (room:xs.length * 5<mask * 3) (q:∀ xs' o' es' ep' t' h',xs'.Perm xs->aq2 a s.heap h'->SetObj w h' a xs' o' es' ep' t'->Q () { s with heap:=h' }):wpAny (model P w) A (setRelay a wanted) Q E s:=by
 have sz:es.size=xs.length:=by rw [<-apD,el,api]
 have fits:t.fits es.size=true:=by
  unfold SetTable.fits atv
  have h1:=tb.size
  have h2:=tb.most
  rw [api] at h1 h2
  rw [sz,h1,tb.dum]
  simp
  exact h2
 have mk2:mask=7 \/ mask=31 \/ mask=127 \/ mask=511:=.inr mk
 obtain⟨t2,ord,e1,e2,_,_,pm,tb2⟩:=ST.laid_ok mk2 (es.map (·.1)) (by rw [atk,sz];omega) t.finger (t.movedTo mask) t.led t.plain
 rw [atk] at pm
 have hlt:∀ i∈ord.toList,i<es.size:=fun i hi=>apV.mp (pm.mem_iff.mp hi)
 let xs':=ord.toList.map fun i=>xs.getD i (.none,0)
 have px:xs'.Perm xs:=by
  have e:(apK es.size).map (fun i=>xs.getD i (.none,0))=xs:=by
   rw [sz]
   refine ari fun i=>?_
   rw [apt]
   by_cases hi:i<xs.length
   ·rw [aqJ hi,aph hi]
    simp [hi]
   ·rw [apR (by simp;omega),apR (by omega)]
    rfl
  have:=pm.map fun i=>xs.getD i (.none,0)
  rw [e] at this
  exact this
 have ee:(ord.filterMap (es[·]?)).toList=xs'.map fun x=>(zy w x.1,Value.ref x.2):=by
  rw [Array.toList_filterMap,vt es ord.toList hlt (0,Value.none),ap1]
  refine aql fun i hi=>?_
  have h2:=hlt i hi
  have h3:i<xs.length:=by omega
  rw [el,apn,apt,aph h3]
  show _=(zy w (xs.getD i (.none,0)).1,Value.ref (xs.getD i (.none,0)).2)
  rw [apn,aph h3]
  rfl
 have es_sz:(ord.filterMap (es[·]?)).size=es.size:=by
  rw [<-apD,ee,api,px.length_eq,sz]
 have tok:ST.TOk t2 (xs'.map fun x=>zy w x.1):=by
  have eh:(ord.toList.map fun i=>(es.map (·.1)).toList.getD i 0)=xs'.map fun x=>zy w x.1:=by
   rw [ap1]
   refine aql fun i hi=>?_
   have h3:i<xs.length:=by have:=hlt i hi;omega
   rw [Array.toList_map,el,ap1,apn,apt,aph h3]
   show zy w xs[i].1=zy w (xs.getD i (.none,0)).1
   rw [apn,aph h3]
   rfl
  rw [eh] at tb2
  refine⟨tb2,?_⟩
  rw [api,px.length_eq,e2]
  exact room
 rw [aiQ]
 apply wpAny_bind
 refine wpAny_setState_of S0 da fits ?_
 dsimp only
 rw [hw,if_neg (by rw [sizeLine_eq];omega)]
 have e1':t.relaid (es.map (·.1)) wanted=some (t2,ord):=by
  unfold SetTable.relaid
  rw [hw]
  exact e1
 unfold agg
 rw [e1']
 apply wpAny_bind
 dsimp only
 rw [es_sz,bne_self_eq_false,if_neg apk]
 apply wpAny_pure
 dsimp only
 refine wpAny_storeSet_of S0 da ?_ (by rw [es_sz,sz,sizeLine_eq];omega)
 refine q xs' { o with data:=.set (ord.filterMap (es[·]?)) (ep+1) t2 } (ord.filterMap (es[·]?)) (ep+1) t2 _ px (arl _ _ _) ⟨?_,ex,rfl,ee,tok⟩
 have:=ara (as2 (ord.filterMap (es[·]?)) t2) S0 (by rw [putSet_of _ _ da];rfl)
 rw [putSet_of _ _ da] at this
 exact this
theorem aiS {t:SetTable} {hs:List Int} {p:Bool} (x:ST.TB t hs):ST.TB { t with plain:=p } hs:=⟨x.mask,x.dum,x.rise,x.le,x.size,x.most,x.reach⟩
theorem akr {Q:Shared->Prop} (S:SetObj w s.heap a xs o es ep t) (ks:∀ x∈xs,KeyAt s.heap x.1 x.2) (kb:KeyAt s.heap d b) (hu:A.units+59<cLine) (few:xs.length<300)
  (old:d∈xs.map (·.1)->Q { s with toks:=s.toks+yc d })
  (new:d∉xs.map (·.1)->∀ xs' o' es' ep' t' h',xs'.Perm ((d,b) :: xs)->aq2 a s.heap h'->SetObj w h' a xs' o' es' ep' t'->Q { s with heap:=h',toks:=s.toks+yc d }) :
  wpAny (model P w) A (setAdd a (.ref b)) (fun _ s'=>Q s') E s:=by
 obtain⟨F,hF⟩:=ST.first_of S.ok.toTB (zy w d)
 have hl:=hF.lt
 have ht:turns t.mask<=526:=by
  unfold turns
  rcases S.ok.mask with e | e | e | e <;> omega
 have room:=S.ok.room
 rw [api] at room
 unfold setAdd
 apply wpAny_holding
 apply wpAny_bind
 refine (aaS P w).pyHash (by show _+40<cLine;omega) kb ?_
 show wpAny _ _ (setAddHashed a (.ref b) (zy w d)) _ _ _
 unfold setAddHashed setAddHashedIn
 apply wpAny_holding
 apply wpAny_bind
 refine wpAny_setState_of (s:={ s with toks:=s.toks+yc d }) S.ob S.da S.fits ?_
 dsimp only
 rw [agf,if_neg apk]
 apply wpAny_bind
 unfold setSearch
 refine aah (s:={ s with toks:=s.toks+yc d }) (adding:=true) S ks kb (by omega) hF (fun hd r _=>?_) (fun hd=>?_) 100000 0 none (ap2 _) (by omega) (ST.road_start t _) (fun q i c=>by omega)
 ·exact wpAny_pure (old hd)
 ·dsimp only
  apply wpAny_bind
  refine wpAny_setState_of (s:={ s with toks:=s.toks+yc d }) S.ob S.da S.fits ?_
  dsimp only
  obtain⟨hp,tb⟩:=ST.put_tb S.ok.toTB hF (by rw [api];rcases S.ok.mask with e | e | e | e <;> rw [e] at room ⊢ <;> omega)
  rw [api] at hp
  have ep2:(t.put (ST.pos t.mask (zy w d) F)).2=below t.place (ST.pos t.mask (zy w d) F):=rfl
  rw [ep2]
  generalize below t.place (ST.pos t.mask (zy w d) F)=p at *
  have pm:(xs.take p++(d,b) :: xs.drop p).Perm ((d,b) :: xs):=by
   refine List.perm_middle.trans ?_
   rw [atb]
  have el:(insertAt es p (zy w d,Value.ref b)).toList=(xs.take p++(d,b) :: xs.drop p).map fun x=>(zy w x.1,Value.ref x.2):=by
   rw [arZ,S.el,apQ,apT,arI,asi]
  have eh:(xs.map fun x=>zy w x.1).take p++zy w d :: (xs.map fun x=>zy w x.1).drop p=(xs.take p++(d,b) :: xs.drop p).map fun x=>zy w x.1:=by
   rw [apQ,apT,arI,asi]
  rw [eh] at tb
  have ln:(xs.take p++(d,b) :: xs.drop p).length=xs.length+1:=by rw [pm.length_eq];rfl
  have sze:(insertAt es p (zy w d,Value.ref b)).size=xs.length+1:=by rw [<-apD,el,api,ln]
  have step:∀ bv:Bool,∀ t2,t2=(if bv=true then (t.put (ST.pos t.mask (zy w d) F)).1 else { (t.put (ST.pos t.mask (zy w d) F)).1 with plain:=false }) ->
    ST.TB t2 ((xs.take p++(d,b) :: xs.drop p).map fun x=>zy w x.1)/\t2.mask=t.mask:=fun bv t2 e=>by
   subst e
   cases bv with
   | true=>exact⟨tb,rfl⟩
   | false=>exact⟨aiS tb,rfl⟩
  have tail:∀ bv:Bool,wpAny (model P w) A (do
    storeSet a (insertAt es p (zy w d,Value.ref b)) (if bv=true then (t.put (ST.pos t.mask (zy w d) F)).1 else { (t.put (ST.pos t.mask (zy w d) F)).1 with plain:=false })
    if (!false && (if bv=true then (t.put (ST.pos t.mask (zy w d) F)).1 else { (t.put (ST.pos t.mask (zy w d) F)).1 with plain:=false }).tooFull)=true then do
     setRelay a (SetTable.grown (es.size+1))
     pure true
    else pure true) (fun _ s'=>Q s') E { s with toks:=s.toks+yc d }:=fun bv=>by
   obtain⟨tb2,em⟩:=step bv _ rfl
   generalize (if bv=true then (t.put (ST.pos t.mask (zy w d) F)).1 else { (t.put (ST.pos t.mask (zy w d) F)).1 with plain:=false })=t2 at *
   apply wpAny_bind
   refine wpAny_storeSet_of (s:={ s with toks:=s.toks+yc d }) S.ob S.da ?_ (by rw [sze,sizeLine_eq];omega)
   have g:(s.heap.update a (as2 (insertAt es p (zy w d,Value.ref b)) t2)).get? a=some { o with data:=.set (insertAt es p (zy w d,Value.ref b)) (ep+1) t2 }:=by
    have:=ara (as2 (insertAt es p (zy w d,Value.ref b)) t2) S.ob (by rw [putSet_of _ _ S.da];rfl)
    rw [putSet_of _ _ S.da] at this
    exact this
   have sb:=arl s.heap a (as2 (insertAt es p (zy w d,Value.ref b)) t2)
   have fill:t2.tooFull=decide ((xs.length+1) * 5 >= t.mask * 3):=by
    unfold SetTable.tooFull atv
    have h1:=tb2.size
    rw [api,ln] at h1
    rw [h1,tb2.dum,em]
    rfl
   rw [asB,ar0,fill]
   by_cases full:(xs.length+1) * 5 >= t.mask * 3
   ·rw [if_pos (decide_eq_true full),S.size]
    have:∃ mask,(mask=31 \/ mask=127 \/ mask=511)/\asD (SetTable.grown (xs.length+1))=mask+1/\(xs.length+1) * 5<mask * 3:=by
     rcases S.ok.mask with e | e | e | e
     ·rw [e] at room full
      have:xs.length=4:=by omega
      rw [this]
      exact⟨31,.inl rfl,by decide,by decide⟩
     ·rw [e] at room full
      have:xs.length=18:=by omega
      rw [this]
      exact⟨127,.inr (.inl rfl),by decide,by decide⟩
     ·rw [e] at room full
      have:xs.length=76:=by omega
      rw [this]
      exact⟨511,.inr (.inr rfl),by decide,by decide⟩
     ·rw [e] at room full
      omega
    obtain⟨mask,mk,hw,rm⟩:=this
    apply wpAny_bind
    refine aiR (s:={ s with heap:=s.heap.update a (as2 (insertAt es p (zy w d,Value.ref b)) t2),toks:=s.toks+yc d }) (o:={ o with data:=.set (insertAt es p (zy w d,Value.ref b)) (ep+1) t2 }) g S.ex rfl el tb2 mk hw (by rw [ln];exact rm) fun xs' o' es' ep' t' h' px sb' S'=>wpAny_pure ?_
    exact new hd xs' o' es' ep' t' h' (px.trans pm) (sb.trans sb') S'
   ·rw [if_neg (by rw [decide_eq_false full];exact apk)]
    refine wpAny_pure (new hd _ _ _ _ _ _ pm sb ⟨g,S.ex,rfl,el,⟨tb2,?_⟩⟩)
    rw [api,ln,em]
    omega
  obtain⟨as,rd⟩:=kb.rd
  split
  ·apply wpAny_bind
   exact aaz d 8 _ { s with toks:=s.toks+yc d } _ as _ _ rd kb.pl fun bv=>tail bv
  ·apply wpAny_bind;apply wpAny_pure
   exact tail true
theorem amI {Q:Value->Shared->Prop} (S:SetObj w s.heap a xs o es ep t) (ks:∀ x∈xs,KeyAt s.heap x.1 x.2) (kb:KeyAt s.heap d b) (hu:A.units+60<cLine) (few:xs.length<300)
  (old:d∈xs.map (·.1)->Q .none { s with toks:=s.toks+yc d })
  (new:d∉xs.map (·.1)->∀ xs' o' es' ep' t' h',xs'.Perm ((d,b) :: xs)->aq2 a s.heap h'->SetObj w h' a xs' o' es' ep' t'->Q .none { s with heap:=h',toks:=s.toks+yc d }) :
  wpAny (model P w) A (call (.builtin "set.add") [.ref a,.ref b]) Q E s:=by
 refine wpAny_call_entry atm S.type PySem.F.entry_set_add ?_ (PySem.F.args_set_add_2 _ _)
 unfold Builtin.«set.add» asC
 simp only [List.isEmpty_nil,bind_assoc]
 unfold asP
 apply wpAny_bind;apply wpAny_pure
 try dsimp only
 apply wpAny_bind;apply wpAny_pure
 try dsimp only
 apply wpAny_bind
 have hu1:A.in1.units=A.units+1:=rfl
 refine akr (Q:=fun s'=>wpAny (model P w) A.in1 (ret Value.none) (fun fin s'=>∃ r,fin=.done (.ret r)/\Q r s') E s') S ks kb (by omega) few (fun hd=>wpAny_pure ⟨_,rfl,old hd⟩) fun hd xs' o' es' ep' t' h' p1 p2 p3=>wpAny_pure ⟨_,rfl,new hd xs' o' es' ep' t' h' p1 p2 p3⟩
end
inductive OC where
 | lst (es:List PyData)
 | set (ks:List PyData)
 | dic (kvs:List (PyData×PyData))
noncomputable def SetO (w:World) (a:Addr) (xs:List (PyData×Addr)):HO:=.ext fun h=>∃ o es ep t,SetObj w h a xs o es ep t
structure DicObj (w:World) (h:Heap) (a:Addr) (xs:List (PyData×Addr×Value)) (o:Obj) (es:Array DictEntry) (ep:Nat):Prop where
 ob:h.get? a=some o
 ex:o.ExactDict
 da:o.data=.dict es ep
 el:es.toList=xs.map fun x=>(⟨zy w x.1,.ref x.2.1,x.2.2⟩:DictEntry)
 nd:(xs.map (·.1)).Nodup
 ns:(a == sysModules)=false
noncomputable def DicO (w:World) (a:Addr) (xs:List (PyData×Addr×Value)):HO:=.ext fun h=>∃ o es ep,DicObj w h a xs o es ep
noncomputable def vE (d:PyData):Prop:=zH d=true/\d.depth<=8
noncomputable def EntR (K:apj) (Hh:Hp) (x:PyData×Addr×Value) (p:PyData×PyData):Prop:=x.1=p.1/\vE x.1/\Rep K Hh x.1 (.ref x.2.1)/\∃ v,Rep K Hh p.2 v/\RelV v x.2.2
theorem EntR.mono {K:apj} {Hh Hh':Hp} (s:Same Hh Hh'):∀ {xs:List (PyData×Addr×Value)} {kvs:List (PyData×PyData)},Paired (EntR K Hh) xs kvs->Paired (EntR K Hh') xs kvs
 | _,_,.nil=>.nil
 | _,_,.cons ⟨h1,h2,h3,v,h4,h5⟩ t=>.cons ⟨h1,h2,Rep.mono s _ _ h3,v,Rep.mono s _ _ h4,h5⟩ (EntR.mono s t)
noncomputable def OwnAt (w:World) (K:apj) (Hh H:Hp) (D:Addr):OC->Prop
 | .lst es=>∃ vs,H D=some (.lst vs)/\Reps K Hh es vs
 | .set ks=>∃ xs:List (PyData×Addr),H D=some (SetO w D xs)/\(∀ x∈xs,vE x.1/\Rep K Hh x.1 (.ref x.2))/\(∀ d,d∈xs.map (·.1)↔d∈ks)/\xs.length<=ks.length
 | .dic kvs=>∃ xs:List (PyData×Addr×Value),H D=some (DicO w D xs)/\Paired (EntR K Hh) xs kvs
theorem OwnAt.mono {w:World} {K:apj} {Hh Hh' H H':Hp} {D:Addr} (e:H' D=H D) (s:Same Hh Hh'):∀ {c:OC},OwnAt w K Hh H D c->OwnAt w K Hh' H' D c
 | .lst es,⟨vs,h1,h2⟩=>⟨vs,e.trans h1,Reps.mono s es vs h2⟩
 | .set ks,⟨xs,h1,h2,h3⟩=>⟨xs,e.trans h1,fun x hx=>⟨(h2 x hx).1,Rep.mono s _ _ (h2 x hx).2⟩,h3⟩
 | .dic kvs,⟨xs,h1,h2⟩=>⟨xs,e.trans h1,EntR.mono s h2⟩
noncomputable def Fx.withs (f:Fx) (Ds:List Addr):Fx:={ f with M:=Ds.reverse++f.M }
theorem yH (f:Fx) (Ds:List Addr) (D:Addr):f.withs (Ds++[D])=(f.withs Ds).with D:=by
 unfold Fx.withs Fx.with
 rw [arn]
 rfl
structure CM (w:World) (K:apj) (f:Fx) (Ds:List Addr) (H2:Hp) (ρ:zr) (cs:List OC) (σ:St) (H:Hp):Prop where
 env:EnvOk K (f.withs Ds) ρ σ H
 sm:Same (hide H2 (f.withs Ds)) (hide H (f.withs Ds))
 kp:∀ b∈f.M,H b=H2 b
 len:cs.length=Ds.length
 own:∀ (i:Nat) D c,Ds[i]?=some D->cs[i]?=some c->OwnAt w K (hide H (f.withs Ds)) H D c
structure Sep (f:Fx) (Ds:List Addr):Prop where
 nd:Ds.Nodup
 nf:∀ D∈Ds,f.f≠some D
 nm:∀ D∈Ds,D∉f.M
section
variable {w:World} {K:apj} {f:Fx} {Ds:List Addr} {H H' H2:Hp} {ρ ρ2:zr} {cs:List OC} {σ σ2:St} {i:Nat} {D:Addr} {c:OC} {o:HO}
theorem je (hD:D∈Ds):D∈(f.withs Ds).M:=apN _ (aqO.mpr hD)
theorem yi (hD:D∈Ds):hide (upd H D o) (f.withs Ds)=hide H (f.withs Ds):=by
 funext b
 unfold hide
 by_cases h:(f.withs Ds).f=some b \/ b∈(f.withs Ds).M
 ·rw [if_pos h,if_pos h]
 ·rw [if_neg h,if_neg h,zv fun (z:b=D)=>h (.inr (z▸je hD))]
theorem CM.go (x:CM w K f Ds H2 ρ cs σ H) (g:Goes (f.withs Ds) H H') (e2:EnvOk K (f.withs Ds) ρ2 σ2 H'):CM w K f Ds H2 ρ2 cs σ2 H' :=
 ⟨e2,x.sm.trans g.sm,fun b hb=>(g.kp b (apy _ hb)).trans (x.kp b hb),x.len,fun i D c h1 h2=>(x.own i D c h1 h2).mono (g.kp D (je (apv h1))) g.sm⟩
theorem CM.self (x:CM w K f Ds H2 ρ cs σ H):CM w K f Ds H ρ cs σ H:=⟨x.env,Same.refl _,fun _ _=>rfl,x.len,x.own⟩
theorem CM.trans {cs':List OC} {ρ':zr} {σ':St} (x:CM w K f Ds H2 ρ cs σ H) (y:CM w K f Ds H ρ' cs' σ' H'):CM w K f Ds H2 ρ' cs' σ' H':=⟨y.env,x.sm.trans y.sm,fun b hb=>(y.kp b hb).trans (x.kp b hb),y.len,y.own⟩
theorem aks (se:Sep f Ds) (hD:D∈Ds) (h:FOk (f.withs Ds) H):FOk (f.withs Ds) (upd H D o) :=
 ⟨fun p e=>let⟨a,b,h1,h2⟩:=h.fd p e;⟨a,b,by rw [zv (fun (z:p=D)=>se.nf D hD (z▸e))];exact h1,h2⟩,fun b hb=>by
  by_cases e:b=D
  ·exact⟨o,by rw [e];exact zw⟩
  ·obtain⟨u,hu⟩:=h.mm b hb
   exact⟨u,by rw [zv e];exact hu⟩,h.nm⟩
theorem agh (se:Sep f Ds) (hD:D∈Ds) (e:EnvOk K (f.withs Ds) ρ σ H):EnvOk K (f.withs Ds) ρ σ (upd H D o) :=
 ⟨e.len,fun i x h=>by
  obtain⟨v,h1,h2⟩:=e.get i x h
  refine⟨v,h1,?_⟩
  cases x with
  | dat d =>
   show Rep K (hide (upd H D o) (f.withs Ds)) d v
   rw [yi hD]
   exact h2
  | feed=>exact h2
  | own k=>exact h2
  | exc C =>
   obtain⟨a,e1,q⟩:=h2
   exact⟨a,e1,by rw [yi hD];exact q⟩
  | mon φ =>
   intro H' s
   rw [yi hD] at s
   exact h2 H' s,aks se hD e.fd⟩
theorem CM.put {c':OC} (se:Sep f Ds) (x:CM w K f Ds H2 ρ cs σ H) (hi:Ds[i]?=some D) (ho:OwnAt w K (hide H (f.withs Ds)) (upd H D o) D c'):CM w K f Ds H2 ρ (cs.set i c') σ (upd H D o):=by
 have hD:=apv hi
 refine⟨agh se hD x.env,by rw [yi hD];exact x.sm,fun b hb=>(zv (fun (z:b=D)=>se.nm D hD (z▸hb))).trans (x.kp b hb),by rw [aqy];exact x.len,fun j D' c h1 h2=>?_⟩
 rw [yi hD]
 by_cases e:i=j
 ·subst e
  rw [hi] at h1
  cases h1
  have hl:i<cs.length:=by rw [x.len];exact (apm.mp hi).1
  rw [ap7 hl] at h2
  cases h2
  exact ho
 ·rw [aqi e] at h2
  have ne:D'≠D:=fun z=>by
   subst z
   obtain⟨l1,e1⟩:=apm.mp hi
   obtain⟨l2,e2⟩:=apm.mp h1
   exact e ((ase se.nd).mp (e1.trans e2.symm))
  exact (x.own j D' c h1 h2).mono (zv ne) (Same.refl _)
end
structure MEnds where
 nx:zr->List OC->Prop
 rt:PyData->Prop
 bk:zr->List OC->Prop:=fun _ _=>False
 ct:zr->List OC->Prop:=fun _ _=>False
noncomputable def PSm (w:World) (K:apj) (f:Fx) (Ds:List Addr) (ts:TS) (ρ:zr) (cs:List OC) (O:MEnds):Prop:=Sep f Ds->∀ (σ:St) (H H2:Hp) (E:Ends),CM w K f Ds H2 ρ cs σ H ->
 (∀ ρ' cs' σ' H',CM w K f Ds H2 ρ' cs' σ' H'->O.nx ρ' cs'->E.nx σ' H')->(∀ d v ρ' cs' σ' H',CM w K f Ds H2 ρ' cs' σ' H'->Rep K (hide H' f) d v->O.rt d->E.rt v H') ->
 (∀ ρ' cs' σ' H',CM w K f Ds H2 ρ' cs' σ' H'->O.bk ρ' cs'->E.bk σ' H')->(∀ ρ' cs' σ' H',CM w K f Ds H2 ρ' cs' σ' H'->O.ct ρ' cs'->E.ct σ' H')->ts E σ H
noncomputable def PTm (w:World) (K:apj) (f:Fx) (Ds:List Addr) (tt:TT) (ρ:zr) (cs:List OC) (B:Bool->Prop):Prop:=Sep f Ds->∀ (σ:St) (H H2:Hp) (Q:Bool->Hp->Prop),CM w K f Ds H2 ρ cs σ H->(∀ b H',Goes (f.withs Ds) H H'->B b->Q b H')->tt σ H Q
noncomputable def PEm (w:World) (K:apj) (f:Fx) (Ds:List Addr) (te:TE) (ρ:zr) (cs:List OC) (P:PyData->Prop):Prop:=Sep f Ds->∀ (σ:St) (H H2:Hp) (Q:VK),CM w K f Ds H2 ρ cs σ H->(∀ d v H',Goes (f.withs Ds) H H'->Rep K (hide H' (f.withs Ds)) d v->P d->Q v H')->te σ H Q
noncomputable def abW (w:World) (K:apj) (f:Fx) (te:TE) (ρ:zr) (P:OC->Prop):Prop:=∀ (σ:St) (H:Hp) (Q:VK),EnvOk K f ρ σ H ->
 (∀ c D H',Goes f H H'->H D=none->OwnAt w K (hide H' (f.with D)) H' D c->P c->Q (.ref D) H')->te σ H Q
section
variable {w:World} {K:apj} {f:Fx} {Ds:List Addr} {ρ:zr} {cs:List OC} {ts tu:TS} {tt:TT} {te:TE} {wi:TI} {g:TG} {O:MEnds} {i j:Nat}
theorem same_withs {H:Hp}:Same (hide H (f.withs Ds)) (hide H f):=fun b o h=>by
 obtain⟨h1,h2⟩:=zI h
 exact zz (fun z=>h1 (z.elim .inl fun z=>.inr (apy _ z))) h2
theorem aiT {D:DEnds} (h:PSm w K f [] ts ρ [] { nx:=fun ρ' _=>D.nx ρ',rt:=D.rt,bk:=fun ρ' _=>D.bk ρ',ct:=fun ρ' _=>D.ct ρ' }):PSd K f ts ρ D:=fun σ H E e n r b k=>by
 have gg:∀ {ρ':zr} {cs':List OC} {σ':St} {H':Hp},CM w K f [] H ρ' cs' σ' H'->Goes f H H':=fun x=>⟨x.sm,x.env.fd,x.kp⟩
 exact h ⟨aqU,(fun _ z=>nomatch z),(fun _ z=>nomatch z)⟩ σ H H E ⟨e,Same.refl _,fun _ _=>rfl,rfl,(fun i D c z=>nomatch z)⟩
  (fun ρ' cs' σ' H' x p=>n ρ' σ' H' (gg x) x.env p) (fun d v ρ' cs' σ' H' x r' p=>r d v H' (gg x) r' p) (fun ρ' cs' σ' H' x p=>b ρ' σ' H' (gg x) x.env p) (fun ρ' cs' σ' H' x p=>k ρ' σ' H' (gg x) x.env p)
theorem ac8 (h:PSd K (f.withs Ds) ts ρ { nx:=fun ρ'=>O.nx ρ' cs,rt:=O.rt,bk:=fun ρ'=>O.bk ρ' cs,ct:=fun ρ'=>O.ct ρ' cs }):PSm w K f Ds ts ρ cs O:=fun se σ H H2 E x n r b k =>
 h σ H E x.env (fun ρ' σ' H' g' e' p=>n ρ' cs σ' H' (x.go g' e') p) (fun d v H' g' r' p=>r d v ρ cs σ H' (x.go g' (x.env.mono g')) (Rep.mono same_withs d v r') p) (fun ρ' σ' H' g' e' p=>b ρ' cs σ' H' (x.go g' e') p) (fun ρ' σ' H' g' e' p=>k ρ' cs σ' H' (x.go g' e') p)
theorem aaB (h:PSm w K f Ds ts ρ cs { O with nx:=fun ρ' cs'=>PSm w K f Ds tu ρ' cs' O }):PSm w K f Ds (qt ts tu) ρ cs O:=fun se σ H H2 E x n r b k =>
 h se σ H H2 _ x (fun ρ' cs' σ' H' x' p=>p se σ' H' H2 E x' n r b k) r b k
theorem ac9 (h:O.nx ρ cs):PSm w K f Ds afL ρ cs O:=fun _ σ H H2 E x n r b k=>n ρ cs σ H x h
theorem aoi {B:Bool->Prop} (h:PTd K (f.withs Ds) tt ρ B):PTm w K f Ds tt ρ cs B:=fun se σ H H2 Q x q=>h σ H Q x.env q
theorem abv {P:PyData->Prop} (h:PEd K (f.withs Ds) te ρ P):PEm w K f Ds te ρ cs P:=fun se σ H H2 Q x q=>h σ H Q x.env q
theorem akt (h:PTm w K f Ds tt ρ cs fun b=>if b=true then PSm w K f Ds ts ρ cs O else PSm w K f Ds tu ρ cs O):PSm w K f Ds (ah1 tt ts tu) ρ cs O:=fun se σ H H2 E x n r b k =>
 h se σ H H2 _ x fun q H1 g1 p=>by
  have x1:=x.go g1 (x.env.mono g1)
  cases q with
  | false =>
   rw [if_neg apk] at p ⊢
   exact p se σ H1 H2 E x1 n r b k
  | true =>
   rw [if_pos rfl] at p ⊢
   exact p se σ H1 H2 E x1 n r b k
theorem acr (h:PId K (f.withs Ds) wi ρ fun ds=>∃ J:Nat->zr->List OC->Prop,J 0 ρ cs /\
   (∀ (i:Nat) d ρ' cs',ds[i]?=some d->J i ρ' cs'->PGd K (f.withs Ds) g d ρ' fun ρ2=>PSm w K f Ds ts ρ2 cs' { O with nx:=J (i+1),ct:=J (i+1),bk:=O.nx })/\∀ ρ' cs',J ds.length ρ' cs'->O.nx ρ' cs') :
  PSm w K f Ds (agU wi g ts) ρ cs O:=fun se σ H H2 E x n r b k=>h σ H _ x.env fun ds J H1 g1 it ⟨Jv,j0,js,jd⟩=>by
 have x1:=x.go g1 (x.env.mono g1)
 refine⟨fun i m σ' H'=>∃ ρ' cs',CM w K f Ds H2 ρ' cs' σ' H'/\Same (hide H1 (f.withs Ds)) (hide H' (f.withs Ds))/\Jv i ρ' cs'/\m+i=ds.length,⟨ds.length,ρ,cs,x1,Same.refl _,j0,rfl⟩,fun i m σ' H' ⟨ρ',cs',x',sm',p,hm⟩=>?_⟩
 by_cases hi:i<ds.length
 ·obtain⟨hgo,hy⟩:=it.go (f.withs Ds) H' i _ x'.env.fd sm' (aph hi)
  refine .inr ⟨hgo,fun σ2 H3=>∃ ρ2 cs2,CM w K f Ds H2 ρ2 cs2 σ2 H3/\Same (hide H1 (f.withs Ds)) (hide H3 (f.withs Ds))/\Jv (i+1) ρ2 cs2,fun σ2 H3 ⟨ρ2,cs2,e2,g2,p2⟩=>⟨m - 1,by omega,ρ2,cs2,e2,g2,p2,by omega⟩,fun v H3 hx=>?_⟩
  obtain⟨g3,r3⟩:=hy v H3 hx
  have x3:=x'.go g3 (x'.env.mono g3)
  refine js i _ ρ' cs' (aph hi) p σ' H3 v _ x3.env r3 fun ρ2 σ2 H4 g4 e4 p4=>?_
  have x4:=x3.go g4 e4
  have sm4:=(sm'.trans g3.sm).trans g4.sm
  exact p4 se σ2 H4 H4 _ x4.self (fun ρ5 cs5 σ5 H5 x5 p5=>⟨ρ5,cs5,x4.trans x5,sm4.trans x5.sm,p5⟩) (fun d v ρ5 cs5 σ5 H5 x5 r5 p5=>r d v ρ5 cs5 σ5 H5 (x4.trans x5) r5 p5) (fun ρ5 cs5 σ5 H5 x5 p5=>n ρ5 cs5 σ5 H5 (x4.trans x5) p5) (fun ρ5 cs5 σ5 H5 x5 p5=>⟨ρ5,cs5,x4.trans x5,sm4.trans x5.sm,p5⟩)
 ·have ei:i=ds.length:=by omega
  subst ei
  exact .inl ⟨it.st (f.withs Ds) H' x'.env.fd sm',n ρ' cs' σ' H' x' (jd ρ' cs' p)⟩
theorem aku {tb:TS} (J:zr->List OC->Prop) (μ:zr->List OC->Nat) (h0:J ρ cs)
  (hs:∀ ρ' cs',J ρ' cs'->PTm w K f Ds tt ρ' cs' fun b=>if b=true then PSm w K f Ds tb ρ' cs' { O with nx:=fun r c=>J r c/\μ r c<μ ρ' cs',ct:=fun r c=>J r c/\μ r c<μ ρ' cs',bk:=O.nx } else O.nx ρ' cs'):PSm w K f Ds (aeU tt tb) ρ cs O:=fun se σ H H2 E x n r b k=>by
 refine⟨fun m σ' H'=>∃ ρ' cs',CM w K f Ds H2 ρ' cs' σ' H'/\J ρ' cs'/\m=μ ρ' cs',⟨_,ρ,cs,x,h0,rfl⟩,?_⟩
 rintro m σ1 H1 ⟨ρ1,cs1,x1,j1,rfl⟩
 refine hs ρ1 cs1 j1 se σ1 H1 H2 _ x1 fun t H3 g3 p=>?_
 have x3:=x1.go g3 (x1.env.mono g3)
 cases t with
 | true =>
  rw [if_pos rfl] at p ⊢
  refine⟨fun σ' H'=>∃ ρ' cs',CM w K f Ds H2 ρ' cs' σ' H'/\J ρ' cs'/\μ ρ' cs'<μ ρ1 cs1,fun σ' H' ⟨ρ',cs',x',j',l'⟩=>⟨_,l',ρ',cs',x',j',rfl⟩,?_⟩
  exact p se σ1 H3 H2 _ x3 (fun ρ5 cs5 σ5 H5 x5 p5=>⟨ρ5,cs5,x5,p5⟩) r (fun ρ5 cs5 σ5 H5 x5 p5=>n ρ5 cs5 σ5 H5 x5 p5) (fun ρ5 cs5 σ5 H5 x5 p5=>⟨ρ5,cs5,x5,p5⟩)
 | false =>
  rw [if_neg apk] at p ⊢
  exact n ρ1 cs1 σ1 H3 x3 p
theorem jj {σ:St} {H H2:Hp} {D:Addr} (hi:ρ[i]?=some (some (.own (f.M.length+j)))) (x:CM w K f Ds H2 ρ cs σ H) (hD:Ds[j]?=some D):σ[i]?=some (some (.ref D)):=by
 obtain⟨v,h1,p,h2,rfl⟩:=x.env.get i _ hi
 have e:(f.withs Ds).M.reverse[f.M.length+j]?=some D:=by
  show (Ds.reverse++f.M).reverse[f.M.length+j]?=some D
  rw [arn,arN,apz (by simp)]
  simpa using hD
 rw [e] at h2
 cases h2
 exact h1
theorem alD {es:List PyData} (hi:ρ[i]?=some (some (.own (f.M.length+j)))) (hc:cs[j]?=some (.lst es)) (hl:es.length<1000) (h:PEm w K f Ds te ρ cs fun d=>O.nx ρ (cs.set j (.lst (es++[d])))):PSm w K f Ds (ab4 (tBM K "list" aaO (yj i) (yb te jz))) ρ cs O:=fun se σ H H2 E x n r b k=>by
 have hj:j<Ds.length:=by rw [<-x.len];exact (apm.mp hc).1
 have hD:Ds[j]?=some Ds[j]:=aph hj
 obtain⟨vs0,h0,_⟩:=x.own j _ _ hD hc
 refine⟨_,jj hi x hD,Or.inl ⟨rfl,vs0,.of h0⟩,?_⟩
 refine h se σ H H2 _ x fun d v H1 g1 r1 p1=>?_
 have x1:=x.go g1 (x.env.mono g1)
 obtain⟨vs,h1,h2⟩:=x1.own j _ _ hD hc
 refine⟨_,vs,v,rfl,rfl,h1,zY (by rw [h2.length];omega),n _ _ _ _ (x1.put se hD (o:=.lst (vs++[v])) (c':=.lst (es++[d])) ⟨vs++[v],zw,h2.snoc r1⟩) p1⟩
theorem CM.more {σ:St} {H H1 H2:Hp} {D:Addr} {c:OC} (x:CM w K f Ds H2 ρ cs σ H) (g:Goes (f.withs Ds) H H1) (hn:H D=none) (ho:OwnAt w K (hide H1 ((f.withs Ds).with D)) H1 D c) (hi:i<ρ.length) :
  CM w K f (Ds++[D]) H1 (ρ.set i (some (.own (f.M.length+Ds.length)))) (cs++[c]) (σ.set i (some (.ref D))) H1:=by
 have nD:¬ ((f.withs Ds).f=some D \/ D∈(f.withs Ds).M):=fresh_ne x.env.fd hn
 have sm0:Same (hide H (f.withs Ds)) (hide H1 (f.withs (Ds++[D]))):=fun b o hb=>by
  have hb1:=g.sm b o hb
  rw [yH]
  refine zz (fun z=>?_) (zI hb1).2
  rcases z with z | z
  ·exact (zI hb1).1 (.inl z)
  ·rcases apq.mp z with rfl | z
   ·have:=(zI hb).2
    rw [hn] at this
    cases this
   ·exact (zI hb1).1 (.inr z)
 have hD1:∃ o,H1 D=some o:=by
  cases c with
  | lst es=>exact⟨_,ho.choose_spec.1⟩
  | set ks=>exact⟨_,ho.choose_spec.1⟩
  | dic kvs=>exact⟨_,ho.choose_spec.1⟩
 have fo1:FOk (f.withs (Ds++[D])) H1:=by
  rw [yH]
  refine⟨g.ok.fd,fun b hb=>?_,fun q eq hq=>?_⟩
  ·rcases apq.mp hb with rfl | hb
   ·exact hD1
   ·exact g.ok.mm b hb
  ·rcases apq.mp hq with rfl | hq
   ·exact nD (.inl eq)
   ·exact g.ok.nm q eq hq
 have rev:(f.withs (Ds++[D])).M.reverse=(f.withs Ds).M.reverse++[D]:=by
  rw [yH]
  show (D :: (f.withs Ds).M).reverse=_
  rw [aqW]
 have lenr:(f.withs Ds).M.reverse.length=f.M.length+Ds.length:=by
  show (Ds.reverse++f.M).reverse.length=_
  simp
 have e1:EnvOk K (f.withs (Ds++[D])) ρ σ H1:=⟨x.env.len,fun q y hy=>by
  obtain⟨v,a1,a2⟩:=x.env.get q y hy
  refine⟨v,a1,?_⟩
  cases y with
  | dat d=>exact Rep.mono sm0 d v a2
  | feed=>exact a2
  | exc C =>
   obtain⟨b,h3,h4⟩:=a2
   exact⟨b,h3,sm0 _ _ h4⟩
  | mon φ=>exact fun H' s=>a2 H' (sm0.trans s)
  | own k =>
   obtain⟨b,h3,h4⟩:=a2
   refine⟨b,?_,h4⟩
   rw [rev,apx (apm.mp h3).1]
   exact h3,fo1⟩
 have rv:RepV K (f.withs (Ds++[D])) H1 (.own (f.M.length+Ds.length)) (.ref D):=⟨D,by
  rw [rev,apz (by omega),lenr,aq4]
  rfl,rfl⟩
 refine⟨e1.set i rv,Same.refl _,fun _ _=>rfl,by simp [x.len],fun q D' c' h1 h2=>?_⟩
 by_cases hq:q<Ds.length
 ·rw [apx hq] at h1
  rw [apx (by rw [x.len];exact hq)] at h2
  exact (x.own q D' c' h1 h2).mono (g.kp D' (je (apv h1))) sm0
 ·by_cases hq2:q=Ds.length
  ·subst hq2
   rw [apz (apr _),aq4] at h1
   rw [apz (by rw [x.len];exact apr _),x.len,aq4] at h2
   cases h1
   cases h2
   rw [yH]
   exact ho
  ·rw [apR (by simp;omega)] at h1
   cases h1
theorem Sep.more {H:Hp} {D:Addr} (se:Sep f Ds) (fo:FOk (f.withs Ds) H) (hn:H D=none):Sep f (Ds++[D]):=by
 have nD:=fresh_ne fo hn
 refine⟨aqF.mpr ⟨se.nd,by simp,fun a ha b hb=>?_⟩,fun D' h=>?_,fun D' h=>?_⟩
 ·rw [apB.mp hb]
  intro z
  exact nD (.inr (je (z▸ha)))
 ·rcases apC.mp h with h | h
  ·exact se.nf D' h
  ·rw [apB.mp h];exact fun z=>nD (.inl z)
 ·rcases apC.mp h with h | h
  ·exact se.nm D' h
  ·rw [apB.mp h];exact fun z=>nD (.inr (apy _ z))
theorem CM.less {σ σ':St} {H H1 H2 H':Hp} {D:Addr} {ρ':zr} {cs':List OC} (x:CM w K f Ds H2 ρ cs σ H) (g:Goes (f.withs Ds) H H1) (hn:H D=none) (y:CM w K f (Ds++[D]) H1 ρ' cs' σ' H') :
  CM w K f Ds H2 (ρ'.map (ji (f.M.length+Ds.length))) (cs'.take Ds.length) σ' H':=by
 have sub:Same (hide H' (f.withs (Ds++[D]))) (hide H' (f.withs Ds)):=by rw [yH];exact same_with
 have sm1:Same (hide H (f.withs Ds)) (hide H1 (f.withs (Ds++[D]))):=fun b o hb=>by
  have hb1:=g.sm b o hb
  rw [yH]
  refine zz (fun z=>?_) (zI hb1).2
  rcases z with z | z
  ·exact (zI hb1).1 (.inl z)
  ·rcases apq.mp z with rfl | z
   ·have:=(zI hb).2
    rw [hn] at this
    cases this
   ·exact (zI hb1).1 (.inr z)
 have lenr:(f.withs Ds).M.reverse.length=f.M.length+Ds.length:=by
  show (Ds.reverse++f.M).reverse.length=_
  simp
 have rev:(f.withs (Ds++[D])).M.reverse=(f.withs Ds).M.reverse++[D]:=by
  rw [yH]
  show (D :: (f.withs Ds).M).reverse=_
  rw [aqW]
 have fo:FOk (f.withs Ds) H':=by
  have h:=y.env.fd
  rw [yH] at h
  exact⟨h.fd,fun b hb=>h.mm b (apl _ hb),fun p e hp=>h.nm p e (apl _ hp)⟩
 refine⟨⟨by rw [api];exact y.env.len,fun q z hz=>?_,fo⟩,(x.sm.trans sm1).trans (y.sm.trans sub),fun b hb=>(y.kp b hb).trans ((g.kp b (apy _ hb)).trans (x.kp b hb)),?_,fun q D' c' h1 h2=>?_⟩
 ·rw [apt] at hz
  cases e:ρ'[q]? with
  | none=>rw [e] at hz;cases hz
  | some z0 =>
   rw [e] at hz
   cases z0 with
   | none=>cases hz
   | some z0 =>
    obtain⟨v,a1,a2⟩:=y.env.get q z0 e
    cases z0 with
    | dat d =>
     cases hz
     exact⟨v,a1,Rep.mono sub d v a2⟩
    | feed =>
     cases hz
     rw [yH] at a2
     exact⟨v,a1,a2⟩
    | exc C =>
     cases hz
     obtain⟨b,h3,h4⟩:=a2
     exact⟨v,a1,b,h3,sub _ _ h4⟩
    | mon φ =>
     cases hz
     exact⟨v,a1,fun H' s=>a2 H' (sub.trans s)⟩
    | own k =>
     have hz':(if k<f.M.length+Ds.length then some (DV.own k) else none)=some z:=Option.some.inj hz
     by_cases hk:k<f.M.length+Ds.length
     ·rw [if_pos hk] at hz'
      cases hz'
      obtain⟨b,h3,h4⟩:=a2
      refine⟨v,a1,b,?_,h4⟩
      rw [rev,apx (by omega)] at h3
      exact h3
     ·rw [if_neg hk] at hz'
      cases hz'
 ·rw [apX,y.len]
  simp
 ·have hq:q<Ds.length:=(apm.mp h1).1
  rw [arj hq] at h2
  exact (y.own q D' c' (by rw [apx hq];exact h1) h2).mono rfl sub
theorem aiU (h:abW w K (f.withs Ds) te ρ fun c=>i<ρ.length/\∀ D,PSm w K f (Ds++[D]) ts (ρ.set i (some (.own (f.M.length+Ds.length)))) (cs++[c]) { nx:=fun ρ' cs'=>O.nx (ρ'.map (ji (f.M.length+Ds.length))) (cs'.take Ds.length),rt:=O.rt,bk:=fun ρ' cs'=>O.bk (ρ'.map (ji (f.M.length+Ds.length))) (cs'.take Ds.length),ct:=fun ρ' cs'=>O.ct (ρ'.map (ji (f.M.length+Ds.length))) (cs'.take Ds.length) }) :
  PSm w K f Ds (qt (jD te (yG i)) ts) ρ cs O:=fun se σ H H2 E x n r b k =>
 h σ H _ x.env fun c D H1 g1 hn ho ⟨hi,p⟩ =>
  p D (se.more x.env.fd hn) _ H1 H1 E (x.more g1 hn ho hi) (fun ρ' cs' σ' H' y q=>n _ _ σ' H' (x.less g1 hn y) q) (fun d v ρ' cs' σ' H' y r' q=>r d v _ _ σ' H' (x.less g1 hn y) r' q) (fun ρ' cs' σ' H' y q=>b _ _ σ' H' (x.less g1 hn y) q) (fun ρ' cs' σ' H' y q=>k _ _ σ' H' (x.less g1 hn y) q)
theorem ada {P:OC->Prop} (h:PEdO K f te ρ fun es=>P (.lst es)):abW w K f te ρ P:=fun σ H Q e q=>h σ H Q e fun es D vs H' g hn h1 rs p=>q (.lst es) D H' g hn ⟨vs,h1,rs⟩ p
noncomputable def freed (n:Nat) (cs:List OC):Option DV->Option DV
 | some (.own k)=>if k<n then some (.own k) else match cs[k - n]? with
  | some (.lst es)=>some (.dat (.list es))
  | _=>none
 | x=>x
theorem CM.free {σ:St} {H H2:Hp} (se:Sep f Ds) (x:CM w K f Ds H2 ρ cs σ H):EnvOk K f (ρ.map (freed f.M.length cs)) σ H:=by
 have fo:FOk f H:=⟨x.env.fd.fd,fun b hb=>x.env.fd.mm b (apy _ hb),fun p e hp=>x.env.fd.nm p e (apy _ hp)⟩
 refine⟨by rw [api];exact x.env.len,fun q z hz=>?_,fo⟩
 rw [apt] at hz
 cases e:ρ[q]? with
 | none=>rw [e] at hz;cases hz
 | some z0 =>
  rw [e] at hz
  cases z0 with
  | none=>cases hz
  | some z0 =>
   obtain⟨v,a1,a2⟩:=x.env.get q z0 e
   cases z0 with
   | dat d =>
    cases hz
    exact⟨v,a1,Rep.mono same_withs d v a2⟩
   | feed =>
    cases hz
    exact⟨v,a1,a2⟩
   | exc C =>
    cases hz
    obtain⟨b,h3,h4⟩:=a2
    exact⟨v,a1,b,h3,same_withs _ _ h4⟩
   | mon φ =>
    cases hz
    exact⟨v,a1,fun H' s=>a2 H' (same_withs.trans s)⟩
   | own k =>
    obtain⟨b,h3,h4⟩:=a2
    have h3':(Ds.reverse++f.M).reverse[k]?=some b:=h3
    rw [arn,arN] at h3'
    have hz':(if k<f.M.length then some (DV.own k) else match cs[k - f.M.length]? with | some (.lst es)=>some (.dat (.list es)) | _=>none)=some z:=Option.some.inj hz
    by_cases hk:k<f.M.length
    ·rw [if_pos hk] at hz'
     cases hz'
     rw [apx (by simpa using hk)] at h3'
     exact⟨v,a1,b,h3',h4⟩
    ·rw [if_neg hk] at hz'
     rw [apz (by simpa using atw.mp hk),atr] at h3'
     cases ec:cs[k - f.M.length]? with
     | none=>rw [ec] at hz';cases hz'
     | some c =>
      rw [ec] at hz'
      cases c with
      | lst es =>
       cases hz'
       obtain⟨vs,h5,h6⟩:=x.own _ _ _ h3' ec
       have hb:=apv h3'
       exact⟨v,a1,rep_list.mpr ⟨b,vs,h4,.of (zz (fun z=>z.elim (se.nf b hb) (se.nm b hb)) h5),Reps.mono same_withs es vs h6⟩⟩
      | set ks=>cases hz'
      | dic kvs=>cases hz'
theorem CM.goF {σ:St} {H H2 H':Hp} (se:Sep f Ds) (x:CM w K f Ds H2 ρ cs σ H) (g:Goes f H H'):CM w K f Ds H2 ρ cs σ H':=by
 have keep:∀ b∈Ds,H' b=H b:=fun b hb=>by
  obtain⟨o,ho⟩:=x.env.fd.mm b (je hb)
  rw [ho]
  exact (zI (g.sm b o (zz (fun z=>z.elim (se.nf b hb) (se.nm b hb)) ho))).2
 have g2:Goes (f.withs Ds) H H':=⟨fun b o hb=>by
   have hb':=zI hb
   have:=zI (g.sm b o (same_withs b o hb))
   exact zz hb'.1 this.2,⟨g.ok.fd,fun b hb=>by
   rcases apC.mp hb with hb | hb
   ·obtain⟨o,ho⟩:=x.env.fd.mm b (apN _ hb)
    exact⟨o,by rw [keep b (aqO.mp hb)];exact ho⟩
   ·exact g.ok.mm b hb,x.env.fd.nm⟩,fun b hb=>by
   rcases apC.mp hb with hb | hb
   ·exact keep b (aqO.mp hb)
   ·exact g.kp b hb⟩
 exact x.go g2 (x.env.mono g2)
end
theorem SetO.ok {P:Program} {w:World} {H:Hp} {h:Heap} {a:Addr} {xs:List (PyData×Addr)} {o:Obj} {es:Array (Int×Value)} {ep:Nat} {t:SetTable} (S:SetObj w h a xs o es ep t):ObjOk P w H h a (SetO w a xs) :=
 ⟨⟨o,es,ep,t,S⟩,⟨o,S.ob⟩,fun h1 h2 ⟨o,es,ep,t,S⟩ k=>⟨o,es,ep,t,⟨k o S.ob,S.ex,S.da,S.el,S.ok⟩⟩⟩
theorem aho (led:Bool):ST.TOk (SetTable.fresh 0 0 led) [] where
 mask:=.inl rfl
 dum:=rfl
 rise:=fun i j _ hj=>absurd hj (aqZ _)
 le:=fun i hi=>absurd hi (aqZ _)
 size:=rfl
 most:=ap2 _
 reach:=fun i hi=>absurd hi (aqZ _)
 room:=by show 0 * 5<7 * 3;decide
noncomputable def adb (w:World):List V->Hp->VK->Prop:=fun xs H Q=>xs=[]/\∀ a,H a=none->Q (.ref a) (upd H a (SetO w a []))
theorem aej {X:Cx}:yN X (.type "set") (adb X.w):=by
 intro pins s σ H xs us Q I r h
 obtain⟨rfl,q⟩:=h
 cases r
 refine call_set_0 fun led=>?_
 refine⟨.ref s.heap.objs.size,_,I.laid (t':=s.toks) (fun b u e=>aps _ e) (apr _) (SetO.ok (xs:=[]) (o:={ cls:=.type "set",dict:=none,data:=.set #[] 0 (.fresh 0 0 led) }) (es:=#[]) (ep:=0) (t:=.fresh 0 0 led) ⟨apI _ rfl,⟨rfl,rfl,rfl⟩,rfl,rfl,aho led⟩),rfl,q _ (I.hok.fresh (apr _))⟩
noncomputable def aaI (d:PyData):Prop:=vE d/\∃ xs,d=.tuple xs
theorem qB {K:apj} {H:Hp} {d:PyData} {v:V} (k:aaI d) (r:Rep K H d v):∃ b,v=.ref b:=by
 obtain⟨_,xs,rfl⟩:=k
 obtain⟨a,_,e,_⟩:=rep_tuple.mp r
 exact⟨a,e⟩
theorem j7 {X:Cx} {pins:List (Addr×Obj)} {σ:St} {H:Hp} {s:Shared} {d:PyData} {b:Addr} (I:Inv X pins σ H s) (k:vE d) (r:Rep X.K H d (.ref b)):KeyAt s.heap d b:=by
 obtain⟨as,ra⟩:=yW I d (.ref b) (.ref b) r rfl
 exact⟨⟨as,ra⟩,k.1,k.2⟩
noncomputable def amJ (w:World) (K:apj) (neg:Bool):R2:=fun x y H Q=>∃ a b d xs,x=.ref b/\y=.ref a/\H a=some (SetO w a xs)/\(∀ z∈xs,vE z.1/\Rep K H z.1 (.ref z.2))/\vE d/\Rep K H d (.ref b)/\Q (.bl (if neg then !decide (d∈xs.map (·.1)) else decide (d∈xs.map (·.1)))) H
theorem akv {X:Cx} (hu:X.A.units+64<cLine) {pins:List (Addr×Obj)} {s:Shared} {σ:St} {H:Hp} {a b:Addr} {d:PyData} {xs:List (PyData×Addr)} (I:Inv X pins σ H s) (hS:H a=some (SetO X.w a xs)) (ks:∀ z∈xs,vE z.1/\Rep X.K H z.1 (.ref z.2)) (kd:vE d) (rd:Rep X.K H d (.ref b)) {Q:Bool->Shared->Prop} {E:Value->Shared->Prop}
  (q:Q (decide (d∈xs.map (·.1))) { s with toks:=s.toks+yc d }):wpAny (model X.prog X.w) X.A (contains (.ref a) (.ref b)) Q E s:=by
 obtain⟨⟨o,es,ep,t,S⟩,_⟩:=I.hok a _ hS
 exact aei S (fun x hx=>j7 I (ks x hx).1 (ks x hx).2) (j7 I kd rd) (by omega) q
theorem ahp {X:Cx} (hu:X.A.units+64<cLine):OpR X (compareOp .NotIn) (amJ X.w X.K true):=by
 intro pins s σ H x y v u Q I rx ry h
 obtain⟨a,b,d,xs,rfl,rfl,hS,ks,kd,rd,q⟩:=h
 cases rx
 cases ry
 show wpAny _ _ (do return Value.bool (!(<- contains (.ref a) (.ref b)))) _ _ s
 apply wpAny_bind
 exact akv hu I hS ks kd rd (wpAny_pure ⟨.bl _,H,I.tok _,rfl,q⟩)
theorem afc {X:Cx} {K:apj} {w:World} (hw:X.w=w) (hK:X.K=K) (hu:X.A.units+64<cLine):OpR X (compareOp .NotIn) (amJ w K true):=hw▸hK▸ahp hu
noncomputable def aiV (w:World) (K:apj):V->List V->Hp->VK->Prop:=fun x ys H Q=>∃ a b d xs,x=.ref a/\ys=[.ref b]/\H a=some (SetO w a xs)/\(∀ z∈xs,vE z.1/\Rep K H z.1 (.ref z.2))/\vE d/\Rep K H d (.ref b)/\xs.length<300 /\
 (d∈xs.map (·.1)->Q .non H)/\(d∉xs.map (·.1)->∀ xs',xs'.Perm ((d,b) :: xs)->Q .non (upd H a (SetO w a xs')))
theorem akw {X:Cx} (hu:X.A.units+64<cLine):MtR X "set.add" (aiV X.w X.K):=by
 intro pins s σ H x ys v us Q I rx ry h
 obtain⟨a,b,d,xs,rfl,rfl,hS,ks,kd,rd,few,q1,q2⟩:=h
 obtain⟨u,rfl,ru⟩:=vals1 ry
 cases rx
 cases ru
 obtain⟨⟨o,es,ep,t,S⟩,_⟩:=I.hok a _ hS
 refine amI S (fun x hx=>j7 I (ks x hx).1 (ks x hx).2) (j7 I kd rd) (by omega) few (fun hd=>⟨.non,H,I.tok _,rfl,q1 hd⟩) fun hd xs' o' es' ep' t' h' pm sb S'=>?_
 refine⟨.non,_,I.write (t':=s.toks+yc d) (x:=a) (e:=a) (by rw [hS];exact trivial) (.inl rfl) (fun b u nb e=>(sb.2 b nb).trans e) ⟨o',S'.ob⟩ (SetO.ok S'),rfl,q2 hd xs' pm⟩
theorem aiW {X:Cx} {K:apj} {w:World} (hw:X.w=w) (hK:X.K=K) (hu:X.A.units+64<cLine):MtR X "set.add" (aiV w K):=hw▸hK▸akw hu
theorem ade {X:Cx} {w:World} (hw:X.w=w):yN X (.type "set") (adb w):=hw▸aej
noncomputable def aoj (w:World) (r:V->List V->Hp->VK->Prop) (to:TE) (t:TA):TE:=fun σ H Q=>to σ H fun x H1=>(∃ a xs,x=.ref a/\H1 a=some (SetO w a xs))/\t σ H1 fun xs H2=>r x xs H2 Q
theorem amK {X:Cx} {w:World} {o e:Expr} {es:List Expr} {to:TE} {t:TA} {name:Str} {apos cpos:Pos} {id:String} {r:V->List V->Hp->VK->Prop} (hw:X.w=w) (slot:Slot "set" name id) (hty:typeOf (.builtin id)=pure (.type "method_descriptor")) (hm:MtR X id r) (ho:PE X o to) (ha:PA X (e :: es) t)
  (hbase:attributeBase o name X.env (eval o X.env)=eval o X.env:=by rfl)
  (hfew:((backTo cpos (starEach (e :: es) X.env)).all (fun x=>!x.1) && (backToKw cpos (keywordEach [] X.env)).all (fun x=>x.1.isSome)
   && decide ((e :: es).length+([]:List Keyword).length+(if ([]:List Keyword).isEmpty then 0 else 1)<30))=true:=by rfl)
  (hline:(apos.endLine == cpos.line)=true:=by rfl) (hs:starEach (e :: es) X.env=(false,eval e X.env) :: starEach es X.env:=by rfl) (hplain:(backTo cpos (starEach es X.env)).any (·.1)=false:=by rfl) :
  PE X (.Call (.Attribute o name apos) (e :: es) [] cpos) (aoj w r to t):=by
 subst hw
 intro pins s σ H Q I h
 refine wpAny_Call_method_late hbase hfew hline rfl (thn (ho pins s σ H _ I h) fun v s1 ⟨x,H1,I1,r1,ty,q1⟩=>?_)
 obtain⟨a,xs,rfl,hS⟩:=ty
 cases r1
 obtain⟨⟨ob,es',ep,t',S⟩,_⟩:=I1.hok a _ hS
 refine⟨"set",id,PySem.F.plainAttrs_set,slot,hty,⟨ob,S.ob,S.ex.1⟩,fun b e=>?_,?_⟩
 ·cases e
  exact⟨ob,S.ob,S.ex.2.1⟩
 have hA:=ha cpos pins s1 σ H1 _ I1 q1
 rw [hs] at hA ⊢
 refine ar6 (by show (false || (backTo cpos (starEach es X.env)).any (·.1))=false;rw [hplain] <;> rfl) (atg ?_)
 exact thn hA fun us s2 ⟨vs,H2,I2,r2,q2⟩=>hm pins s2 σ H2 (.ref a) vs (.ref a) us Q I2 rfl r2 q2
section
variable {w:World} {K:apj} {f:Fx} {Ds:List Addr} {ρ:zr} {cs:List OC} {te:TE} {O:MEnds} {i j:Nat} {ks:List PyData}
theorem amL {P:OC->Prop} (p:P (.set [])):abW w K f (tCB (adb w) jz) ρ P:=fun σ H Q e q =>
 ⟨rfl,fun a hn=>q (.set []) a _ (.of_same (yd hn _) e.fd) hn ⟨[],zw,(fun _ z=>nomatch z),(fun d=>Iff.rfl),apr 0⟩ p⟩
theorem aok {neg:Bool} {B:Bool->Prop} (hi:ρ[i]?=some (some (.own (f.M.length+j)))) (hc:cs[j]?=some (.set ks)) (h:PEm w K f Ds te ρ cs fun d=>aaI d/\B (if neg then !decide (d∈ks) else decide (d∈ks))) :
  PTm w K f Ds (adP (tOp (amJ w K neg) te (yj i))) ρ cs B:=fun se σ H H2 Q x q=>by
 have hj:j<Ds.length:=by rw [<-x.len];exact (apm.mp hc).1
 have hD:Ds[j]?=some Ds[j]:=aph hj
 refine h se σ H H2 _ x fun d v H1 g1 r1 ⟨kd,p⟩=>?_
 have x1:=x.go g1 (x.env.mono g1)
 obtain⟨b,rfl⟩:=qB kd r1
 obtain⟨xs,h1,h2,h3,_⟩:=x1.own j _ _ hD hc
 refine⟨_,jj hi x1 hD,Ds[j],b,d,xs,rfl,rfl,h1,fun z hz=>⟨(h2 z hz).1,Rep.mono (zi _ _) _ _ (h2 z hz).2⟩,kd.1,Rep.mono (zi _ _) _ _ r1,_,rfl,?_⟩
 have:decide (d∈xs.map (·.1))=decide (d∈ks):=decide_eq_decide.mpr (h3 d)
 rw [this]
 exact q _ H1 g1 p
theorem aol (hi:ρ[i]?=some (some (.own (f.M.length+j)))) (hc:cs[j]?=some (.set ks)) (hl:ks.length<300) (h:PEm w K f Ds te ρ cs fun d=>aaI d/\(d∈ks->O.nx ρ cs)/\(d∉ks->O.nx ρ (cs.set j (.set (d :: ks))))) :
  PSm w K f Ds (ab4 (aoj w (aiV w K) (yj i) (yb te jz))) ρ cs O:=fun se σ H H2 E x n r b k=>by
 have hj:j<Ds.length:=by rw [<-x.len];exact (apm.mp hc).1
 have hD:Ds[j]?=some Ds[j]:=aph hj
 obtain⟨xs0,h0,_⟩:=x.own j _ _ hD hc
 refine⟨_,jj hi x hD,⟨Ds[j],xs0,rfl,h0⟩,?_⟩
 refine h se σ H H2 _ x fun d v H1 g1 r1 ⟨kd,p1,p2⟩=>?_
 have x1:=x.go g1 (x.env.mono g1)
 obtain⟨b,rfl⟩:=qB kd r1
 obtain⟨xs,h1,h2,h3,h4⟩:=x1.own j _ _ hD hc
 refine⟨Ds[j],b,d,xs,rfl,rfl,h1,fun z hz=>⟨(h2 z hz).1,Rep.mono (zi _ _) _ _ (h2 z hz).2⟩,kd.1,Rep.mono (zi _ _) _ _ r1,by omega,fun hd=>n _ _ _ _ x1 (p1 ((h3 d).mp hd)),fun hd xs' pm=>n _ _ _ _ (x1.put se hD (c':=.set (d :: ks)) ⟨xs',zw,fun z hz=>?_,fun e=>?_,?_⟩) (p2 fun z=>hd ((h3 d).mpr z))⟩
 ·rcases apq.mp (pm.mem_iff.mp hz) with rfl | hz
  ·exact⟨kd.1,r1⟩
  ·exact h2 z hz
 ·rw [(pm.map (·.1)).mem_iff,apT,apq,apq,h3 e]
 ·rw [pm.length_eq,apL,apL]
  omega
end
theorem DicO.ok {P:Program} {w:World} {H:Hp} {h:Heap} {a:Addr} {xs:List (PyData×Addr×Value)} {o:Obj} {es:Array DictEntry} {ep:Nat} (S:DicObj w h a xs o es ep):ObjOk P w H h a (DicO w a xs) :=
 ⟨⟨o,es,ep,S⟩,⟨o,S.ob⟩,fun h1 h2 ⟨o,es,ep,S⟩ k=>⟨o,es,ep,⟨k o S.ob,S.ex,S.da,S.el,S.nd,S.ns⟩⟩⟩
theorem adf {X:Cx} {pins:List (Addr×Obj)} {σ:St} {H:Hp} {s:Shared} (I:Inv X pins σ H s):sysModules<s.heap.objs.size :=
 aq6 (by decide) (I.ok.mod.glob.keeps I.bk).lt
noncomputable def agi (w:World):TE:=fun _ H Q=>∀ p,H p=none->Q (.ref p) (upd H p (DicO w p []))
theorem ahq {X:Cx} {w:World} {pos:Pos} (hw:X.w=w):PE X (.Dict [] [] pos) (agi w):=by
 subst hw
 intro pins s σ H Q I h
 refine wpAny_Dict_empty ⟨.ref s.heap.objs.size,_,I.laid (a:=s.heap.objs.size) (t':=s.toks) (fun _ _ q=>aps _ q) (apr _) (DicO.ok (xs:=[]) (o:={ cls:=.type "dict",data:=.dict #[] }) (es:=#[]) (ep:=0) ⟨apI _ rfl,⟨rfl,rfl,rfl⟩,rfl,rfl,aqU,beq_eq_false_iff_ne.mpr (arh (apU (adf I)))⟩),rfl,h _ (I.hok.fresh (apr _))⟩
noncomputable abbrev vF (K:apj) (H:Hp) (xs:List (PyData×Addr×Value)):Prop:=∀ z∈xs,vE z.1/\Rep K H z.1 (.ref z.2.1)
theorem abw {X:Cx} {pins:List (Addr×Obj)} {σ:St} {H:Hp} {s:Shared} {a:Addr} {xs:List (PyData×Addr×Value)} (I:Inv X pins σ H s) (hS:H a=some (DicO X.w a xs)) (ks:vF X.K H xs):s.heap.DictOfH (aaS X.prog X.w) a xs/\(a == sysModules)=false:=by
 obtain⟨⟨o,es,ep,S⟩,_⟩:=I.hok a _ hS
 exact⟨⟨o,es,ep,S.ob,S.ex,S.da,S.el,fun x hx=>j7 I (ks x hx).1 (ks x hx).2,S.nd⟩,S.ns⟩
noncomputable def vP (w:World) (K:apj):V->V->V->Hp->(Hp->Prop)->Prop:=fun o i v H Q=>∃ a b d xs,o=.ref a/\i=.ref b/\H a=some (DicO w a xs)/\vF K H xs/\vE d/\Rep K H d (.ref b)/\xs.length<=1000/\∀ u,RelV v u->Q (upd H a (DicO w a (storedH xs d b u)))
theorem akx {X:Cx} (hu:X.A.units+64<cLine):aj2 X (vP X.w X.K):=by
 intro pins s σ H o i v ov iv u Q I ro ri rv h
 obtain⟨a,b,d,xs,rfl,rfl,hS,ks,kd,rd,hl,q⟩:=h
 cases ro
 cases ri
 obtain⟨hm,ns⟩:=abw I hS ks
 have hu1:X.A.in1.units=X.A.units+1:=rfl
 refine wpAny_setItem_heap (by show _+40<cLine;omega) (j7 I kd rd) hm (fun h' hm' sb=>?_) (aqj (zY hl))
 obtain⟨o',es',ep',x1,x2,x3,x4,x5,x6⟩:=hm'
 exact⟨_,I.write (t':=s.toks+yc d) (x:=a) (e:=a) (by rw [hS];exact trivial) (.inl rfl) (fun b u nb e=>(sb.2 b nb).trans e) ⟨o',x1⟩ (DicO.ok ⟨x1,x2,x3,x4,x6,ns⟩),q u rv⟩
theorem aek {X:Cx} {K:apj} {w:World} (hw:X.w=w) (hK:X.K=K) (hu:X.A.units+64<cLine):aj2 X (vP w K):=hw▸hK▸akx hu
noncomputable def afd (w:World) (K:apj):R2:=fun x y H Q=>∃ a b d xs p v,x=.ref a/\y=.ref b/\H a=some (DicO w a xs)/\vF K H xs/\vE d/\Rep K H d (.ref b)/\atKey xs d=some p/\RelV v p.2/\Q v H
theorem amM {X:Cx} (hu:X.A.units+64<cLine):IxR X (afd X.w X.K):=by
 intro value slice pins s σ H x y v u Q I rx ry h hs
 obtain⟨a,b,d,xs,p,z,rfl,rfl,hS,ks,kd,rd,hp,rz,q⟩:=h
 cases rx
 cases ry
 obtain⟨hm,ns⟩:=abw I hS ks
 have hu1:X.A.in1.units=X.A.units+1:=rfl
 refine subscriptTail_builtinR (x:=p.2) hm.typeIs PySem.F.slot_dict_getitem.lookup ?_ hs
 exact wpAny_getItem_heap (by show _+40<cLine;omega) (j7 I kd rd) hm hp ⟨rfl,z,H,I.tok _,rz,q⟩
theorem agj {X:Cx} {K:apj} {w:World} (hw:X.w=w) (hK:X.K=K) (hu:X.A.units+64<cLine):IxR X (afd w K):=hw▸hK▸amM hu
noncomputable def afe (w:World) (K:apj) (neg:Bool):R2:=fun x y H Q=>∃ a b d xs,x=.ref b/\y=.ref a/\H a=some (DicO w a xs)/\vF K H xs/\vE d/\Rep K H d (.ref b)/\Q (.bl (if neg then !(atKey xs d).isSome else (atKey xs d).isSome)) H
noncomputable def dput (k v:PyData) (kvs:List (PyData×PyData)):List (PyData×PyData):=if k∈kvs.map (·.1) then kvs.map (fun p=>if p.1=k then (p.1,v) else p) else kvs++[(k,v)]
noncomputable def j8 (k:PyData) (kvs:List (PyData×PyData)):Option PyData:=(kvs.find? fun p=>decide (p.1=k)).map (·.2)
section
variable {K:apj} {Hh:Hp}
theorem vQ:∀ {xs:List (PyData×Addr×Value)} {kvs:List (PyData×PyData)},Paired (EntR K Hh) xs kvs->xs.length=kvs.length
 | _,_,.nil=>rfl
 | _,_,.cons _ t=>by rw [apL,apL,vQ t]
theorem yX:∀ {xs:List (PyData×Addr×Value)} {kvs:List (PyData×PyData)},Paired (EntR K Hh) xs kvs->vF K Hh xs
 | _,_,.nil=>fun z hz=>nomatch hz
 | _,_,.cons h t=>fun z hz=>by
  rcases apq.mp hz with rfl | hz
  ·exact⟨h.2.1,h.2.2.1⟩
  ·exact yX t z hz
theorem aaT (k:PyData):∀ {xs:List (PyData×Addr×Value)} {kvs:List (PyData×PyData)},Paired (EntR K Hh) xs kvs->(atKey xs k=none/\j8 k kvs=none/\k∉kvs.map (·.1)) \/ ∃ p d v,atKey xs k=some p/\j8 k kvs=some d/\Rep K Hh d v/\RelV v p.2/\k∈kvs.map (·.1)
 | _,_,.nil=>.inl ⟨rfl,rfl,fun z=>nomatch z⟩
 | x :: xs,p :: kvs,.cons ⟨h1,h2,h3,v,h4,h5⟩ t=>by
  by_cases e:x.1=k
  ·refine .inr ⟨x.2,p.2,v,?_,?_,h4,h5,?_⟩
   ·unfold atKey;rw [aqL,decide_eq_true e];rfl
   ·unfold j8;rw [aqL,decide_eq_true (h1▸e)];rfl
   ·rw [apT];exact apq.mpr (.inl (h1▸e).symm)
  ·have e':¬ p.1=k:=fun z=>e (h1.trans z)
   have a1:atKey (x :: xs) k=atKey xs k:=by unfold atKey;rw [aqL,decide_eq_false e]
   have a2:j8 k (p :: kvs)=j8 k kvs:=by unfold j8;rw [aqL,decide_eq_false e']
   rw [a1,a2,apT]
   rcases aaT k t with⟨b1,b2,b3⟩ | ⟨q,d,u,b1,b2,b3,b4,b5⟩
   ·exact .inl ⟨b1,b2,fun z=>(apq.mp z).elim (fun z=>e' z.symm) b3⟩
   ·exact .inr ⟨q,d,u,b1,b2,b3,b4,apl _ b5⟩
theorem agk (k:PyData) {d:PyData} {v:V} {u:Value} (rd:Rep K Hh d v) (rv:RelV v u):∀ {xs:List (PyData×Addr×Value)} {kvs:List (PyData×PyData)},Paired (EntR K Hh) xs kvs->Paired (EntR K Hh) (xs.map (putAt k u)) (kvs.map fun p=>if p.1=k then (p.1,d) else p)
 | _,_,.nil=>.nil
 | x :: xs,p :: kvs,.cons ⟨h1,h2,h3,w,h4,h5⟩ t=>by
  rw [apT,apT]
  refine .cons ?_ (agk k rd rv t)
  unfold putAt
  by_cases e:x.1=k
  ·rw [if_pos e,if_pos (h1▸e)]
   exact⟨h1,h2,h3,v,rd,rv⟩
  ·rw [if_neg e,if_neg (fun z=>e (h1.trans z))]
   exact⟨h1,h2,h3,w,h4,h5⟩
theorem agl {x:PyData×Addr×Value} {p:PyData×PyData} (h:EntR K Hh x p):∀ {xs:List (PyData×Addr×Value)} {kvs:List (PyData×PyData)},Paired (EntR K Hh) xs kvs->Paired (EntR K Hh) (xs++[x]) (kvs++[p])
 | _,_,.nil=>.cons h .nil
 | _,_,.cons h' t=>.cons h' (agl h t)
theorem adg {k d:PyData} {b:Addr} {v:V} {u:Value} (kk:vE k) (rk:Rep K Hh k (.ref b)) (rd:Rep K Hh d v) (rv:RelV v u) {xs:List (PyData×Addr×Value)} {kvs:List (PyData×PyData)} (t:Paired (EntR K Hh) xs kvs):Paired (EntR K Hh) (storedH xs k b u) (dput k d kvs):=by
 unfold storedH dput
 rcases aaT k t with⟨b1,b2,b3⟩ | ⟨q,d',v',b1,b2,b3,b4,b5⟩
 ·rw [b1,if_neg (by simp),if_neg b3]
  exact agl ⟨rfl,kk,rk,v,rd,rv⟩ t
 ·rw [b1,if_pos (show (some q).isSome=true from rfl),if_pos b5]
  exact agk k rd rv t
end
section
variable {w:World} {K:apj} {f:Fx} {Ds:List Addr} {ρ:zr} {cs:List OC} {te tk:TE} {O:MEnds} {i j:Nat} {kvs:List (PyData×PyData)}
theorem amN {P:OC->Prop} (p:P (.dic [])):abW w K f (agi w) ρ P:=fun σ H Q e q =>
 fun a hn=>q (.dic []) a _ (.of_same (yd hn _) e.fd) hn ⟨[],zw,.nil⟩ p
theorem alE (hi:ρ[i]?=some (some (.own (f.M.length+j)))) (hc:cs[j]?=some (.dic kvs)) (hl:kvs.length<=1000)
  (h:PEd K (f.withs Ds) te ρ fun v=>PEd K (f.withs Ds) tk ρ fun k=>aaI k/\O.nx ρ (cs.set j (.dic (dput k v kvs)))) :
  PSm w K f Ds (jD te (acH (yj i) tk (vP w K))) ρ cs O:=fun se σ H H2 E x n r b k=>by
 have hj:j<Ds.length:=by rw [<-x.len];exact (apm.mp hc).1
 have hD:Ds[j]?=some Ds[j]:=aph hj
 refine h σ H _ x.env fun v vv H1 g1 r1 p1=>?_
 have x1:=x.go g1 (x.env.mono g1)
 refine⟨_,jj hi x1 hD,?_⟩
 refine p1 σ H1 _ x1.env fun kd kv H3 g3 r3 ⟨kt,p3⟩=>?_
 have x3:=x1.go g3 (x1.env.mono g3)
 obtain⟨b',rfl⟩:=qB kt r3
 obtain⟨xs,h1,h2⟩:=x3.own j _ _ hD hc
 have rv:=Rep.mono g3.sm _ _ r1
 refine⟨Ds[j],b',kd,xs,rfl,rfl,h1,fun z hz=>⟨(yX h2 z hz).1,Rep.mono (zi _ _) _ _ (yX h2 z hz).2⟩,kt.1,Rep.mono (zi _ _) _ _ r3,by rw [vQ h2];exact hl,fun u ru=>?_⟩
 exact n _ _ _ _ (x3.put se hD (c':=.dic (dput kd v kvs)) ⟨_,zw,adg kt.1 r3 rv ru h2⟩) p3
theorem aom (h:PEm w K f Ds te ρ cs O.rt):PSm w K f Ds (aeS te) ρ cs O:=fun se σ H H2 E x n r b k =>
 h se σ H H2 _ x fun d v H' g' r' p=>r d v ρ cs σ H' (x.go g' (x.env.mono g')) (Rep.mono same_withs d v r') p
end
end L2
end
section
namespace L2
open PySem PySem.Spec PyProof.Rows
structure MinAt (h0:Heap) (its:List Value) (ds:List PyData) (as:List Addr):Prop where
 ra:ReadsAll h0 its ds as
 pl:∀ d∈ds,zH d=true
 cp:∀ d∈ds,∀ e∈ds,acZ d e=true
 dp:∀ d∈ds,d.depth<=50
section
variable {w:World} {K:apj} {f:Fx} {Ds:List Addr} {ρ:zr} {cs:List OC} {O:MEnds} {tt:TT} {te:TE} {i j n:Nat}
theorem acs {H H' H2:Hp} {σ:St} (se:Sep f Ds) (x:CM w K f Ds H2 ρ cs σ H) (g:Goes f H H'):Goes (f.withs Ds) H H':=by
 have kp:∀ D∈Ds,H' D=H D:=fun D hD=>by
  obtain⟨o,ho⟩:=x.env.fd.mm D (je hD)
  have h1:hide H f D=some o:=zz (fun z=>z.elim (se.nf D hD) (se.nm D hD)) ho
  rw [ho,(zI (g.sm D o h1)).2]
 refine⟨fun b o hb=>?_,⟨fun p e=>?_,fun b hb=>?_,x.env.fd.nm⟩,fun b hb=>?_⟩
 ·obtain⟨n1,n2⟩:=zI hb
  have h1:hide H f b=some o:=zz (fun z=>n1 (z.elim .inl fun z=>.inr (apy _ z))) n2
  exact zz n1 (zI (g.sm b o h1)).2
 ·exact g.2.fd p e
 ·rcases apC.mp hb with h | h
  ·rw [kp b (aqO.mp h)]
   exact x.env.fd.mm b hb
  ·exact g.2.mm b h
 ·rcases apC.mp hb with h | h
  ·exact kp b (aqO.mp h)
  ·exact g.kp b h
theorem agm {B:Bool->Prop} (h:PTd K f tt (ρ.map (freed f.M.length cs)) B):PTm w K f Ds tt ρ cs B:=fun se σ H H2 Q x q =>
 h σ H Q (x.free se) fun b H' g p=>q b H' (acs se x g) p
end
noncomputable def alF:R2:=fun x y H Q=>∃ l x0,∃ n:Int,x=.ref l/\y=.int n/\H l=some (.lst [x0])/\0<=n/\n<=1000/\∀ p,H p=none->Q (.ref p) (upd H p (.lst (aqb n.toNat x0)))
theorem ael (v:Value):∀ (n:Nat) (a:Array Value),List.foldl (fun x1 x2=>x1++x2) a (aqb n #[v])=a++(aqb n v).toArray
 | 0,a=>by simp
 | n+1,a=>by
  rw [ats,as7,ael v n,ats]
  apply asU.mp
  simp
theorem aem {x:V} {v:Value} (r:RelV x v):∀ n,Vals (aqb n x) (aqb n v)
 | 0=>.nil
 | n+1=>.cons r (aem r n)
section
variable {X:Cx}
theorem agn:OpR X (binaryOp .Mult) alF:=by
 intro pins s σ H x y v u Q I rx ry h
 obtain⟨l,x0,n,rfl,rfl,hH,n0,n1,q⟩:=h
 cases rx
 obtain⟨t,rfl⟩:=ry
 obtain⟨z,its,m,r,hl,e⟩:=I.lstM hH
 obtain⟨v0,rfl,r0⟩:=vals1 r
 have one:(#[v0]:Array Value).size * n.toNat=n.toNat:=by simp
 have room:asQ ((#[v0]:Array Value).size * n.toNat)=false:=by rw [one];simp [asQ,sizeLine];omega
 refine wpAny_binaryOp_repeat_ref (T:="list") (U:="int") (by decide) ⟨_,e,rfl⟩ (fun s'=>typeIs_int s' n t) noFill_list_mul F.fills_int_mul F.slot_int_rmul repeat_list F.slot_int_index.lookup ?_
 refine call_meets F.slot_int_rmul (typeIs_int s n t) F.entry_int_rmul (F.args_int_rmul_2 _ _) (int___rmul___int_list n t l #[v0] m) ⟨e,rfl,⟨_,e,rfl⟩,?_⟩
 refine call_meets F.slot_list_mul ⟨_,e,rfl⟩ F.entry_list_mul (F.args_list_mul_2 _ _) (AutoListH.list___mul___list_int_3 l #[v0] m n t ?_ ?_ ?_) ⟨e,?_⟩
 ·simp [Builtin.List.listFitsIndex];omega
 ·rw [one];omega
 ·rw [room];exact apk
 ·rw [show (if (#[v0]:Array Value).isEmpty=true then 0 else n.toNat)=n.toNat from rfl,ael,Array.empty_append]
  exact⟨.ref _,_,I.lnew (t':=s.toks) (aem r0 n.toNat) (by rw [arJ];show _<=2 ^ 24;omega),rfl,q _ I.fresh⟩
end
section
variable {K:apj} {f:Fx} {ρ:zr} {R:List PyData->Prop} {ta tb:TE}
theorem aen {H:Hp} {d:PyData} {v:V} (r:Rep K H d v):∀ n,Reps K H (aqb n d) (aqb n v)
 | 0=>reps_nil.mpr rfl
 | n+1=>reps_cons.mpr ⟨v,_,rfl,r,aen r n⟩
theorem alG (h:PEdO K f ta ρ fun es=>∃ d,es=[d]/\PEd K f tb ρ fun y=>∃ n:Int,y=.int n/\0<=n/\n<=1000/\R (aqb n.toNat d)):PEdO K f (tOp alF ta tb) ρ R:=fun σ H Q e q =>
 h σ H _ e fun es D vs H1 g1 hn h1 r1 ⟨d,ed,p1⟩=>p1 σ H1 _ (e.mono g1) fun y u H2 g2 r2 ⟨n,ey,n0,n1,p2⟩=>by
  subst ed ey
  obtain⟨v,vs',rfl,rv,r'⟩:=reps_cons.mp r1
  rw [reps_nil.mp r'] at h1
  have nD:=fresh_ne e.fd hn
  have h2:H2 D=some (.lst [v]):=(zI (g2.sm D _ (zz nD h1))).2
  rw [rep_int.mp r2]
  refine⟨D,v,n,rfl,rfl,h2,n0,n1,fun l hl=>?_⟩
  have g3:Goes f H2 (upd H2 l (.lst (aqb n.toNat v))):=.of_same (yd hl _) g2.2
  refine q _ l _ _ (g1.trans (g2.trans g3)) ((g1.trans g2).free e.fd hl) zw (aen (Rep.mono (fun b o hb=>?_) _ _ rv) _) p2
  obtain⟨n2,n3⟩:=zI hb
  have h4:hide H1 f b=some o:=zz (fun z=>n2 (z.elim .inl fun z=>.inr (apl _ z))) n3
  obtain⟨n5,n6⟩:=zI (g2.sm b o h4)
  have nb:b≠l:=fun z=>by
   rw [z,hl] at n6
   cases n6
  refine zz (fun z=>z.elim (fun z=>n5 (.inl z)) fun z=>?_) (by rw [zv nb];exact n6)
  rcases apq.mp z with z | z
  ·exact nb z
  ·exact n5 (.inr z)
end
structure TM (K:apj) (f:Fx) (a:Addr) (as:List Addr) (H2:Hp) (ρ:zr) (rows:List (List Int)) (σ:St) (H:Hp):Prop where
 env:EnvOk K (f.withs (a :: as)) ρ σ H
 sm:Same (hide H2 (f.withs (a :: as))) (hide H (f.withs (a :: as)))
 kp:∀ b∈f.M,H b=H2 b
 tab:TabAt H a as rows
section
variable {K:apj} {f:Fx} {a:Addr} {as:List Addr} {ρ ρ2:zr} {rows:List (List Int)} {O:zr->List (List Int)->Prop} {ts tu:TS} {te ty tx:TE} {i:Nat} {σ σ2:St} {H H' H2:Hp}
theorem ahr {Ds:List Addr} (g:Same (hide H f) (hide H' f)) (hn:∀ D∈Ds,H D=none):Same (hide H f) (hide H' (f.withs Ds)):=fun b o hb=>by
 have hb1:=g b o hb
 refine zz (fun z=>?_) (zI hb1).2
 rcases z with z | z
 ·exact (zI hb1).1 (.inl z)
 ·rcases apC.mp z with z | z
  ·have:=(zI hb).2
   rw [hn b (aqO.mp z)] at this
   cases this
  ·exact (zI hb1).1 (.inr z)
end
section
variable {P:Program} {w:World} {A:Around} {E:Value->Shared->Prop} {s:Shared} {I d:Addr} {o:Obj} {es:Array DictEntry} {ep i:Nat}
theorem aff {Q:Value->Shared->Prop} (nd:(d == sysModules)=false) (g:s.heap.get? d=some o) (x:o.ExactDict) (y:o.data=.dict es ep)
  (q:Q (.ref s.heap.objs.size) { s with heap:=s.heap.push { cls:=.type "dict_keyiterator",data:=.fields #[.ref d,.int 0 0,.int es.size 0,.int ep 0] } }):wpAny (model P w) A (pyIter (.ref d)) Q E s:=by
 have T:s.TypeIs (.ref d) "dict":=⟨o,g,x.1⟩
 refine wpAny_pyIter_slot T as3 (wpAny_call_entry as3 T PySem.F.entry_dict_iter ?_ (PySem.F.args_dict_iter_1 _))
 unfold Builtin.«dict.__iter__» Builtin.Dict.dictSlotNone Builtin.Dict.showsAll
 apply wpAny_bind
 apply wpAny_bind
 apply wpAny_notOrdered_dict T
 apply wpAny_pure
 apply wpAny_bind
 refine wpAny_pure (a:=d) ?_
 apply wpAny_bind
 rw [if_neg (fun z=>apk (nd.symm.trans z))]
 apply wpAny_pure
 apply wpAny_bind
 apply wpAny_dictEntries g y
 apply wpAny_bind
 apply wpAny_dictEpoch g y
 apply wpAny_bind
 refine wpAny_newObj_type ?_ (by size_fits)
 exact wpAny_pure ⟨_,rfl, "dict_keyiterator",_,⟨_,apI _ rfl,rfl⟩,aq8.lookup,q⟩
theorem acu {Q:Option Value->Shared->Prop} (hh:A.handled=none) (t:s.heap.IsKeyIter I d i es.size ep) (g:s.heap.get? d=some o) (y:o.data=.dict es ep)
  (q1:∀ e h',es[i]?=some e->h'.IsKeyIter I d (i+1) es.size ep->aq2 I s.heap h'->Q (some e.key) { s with heap:=h' })
  (q2:es[i]?=none->∀ h',Heap.ExtBut I s.heap h'->Q none { s with heap:=h' }):wpAny (model P w) A (pyNext (.ref I)) Q E s:=by
 obtain⟨oi,gi,ci,di⟩:=id t
 have T:=t.typeIs
 have own:Builtin.Dict_items.ownsTuple "dict_keyiterator"=false:=by decide
 have nn:¬ ((Value.ref d == Value.none)=true):=apk
 have pos:¬ ((i:Int)<0):=by omega
 unfold pyNext
 apply wpAny_bind
 apply wpAny_attempt
 refine wpAny_callSpecial?_slot (name:=Str.ofString "__next__") T aq8 (wpAny_call_entry aq8 T PySem.F.entry_dict_keyiterator_next ?_ (PySem.F.args_dict_keyiterator_next_1 _))
 apply wpAny_bind
 apply wpAny_pure
 apply wpAny_bind
 apply wpAny_bind
 apply wpAny_bind
 apply wpAny_typeNameOfWhole_keyiter T
 apply wpAny_pure
 apply wpAny_bind
 apply wpAny_fieldsOf gi di
 simp only [own,apZ,if_false]
 show wpAny _ _ (if (Value.ref d == Value.none)=true then _ else _) _ _ s
 rw [if_neg nn]
 apply wpAny_bind
 apply wpAny_pure
 apply wpAny_bind
 apply wpAny_dictEntries g y
 rw [if_neg (by simp)]
 apply wpAny_bind
 apply wpAny_pure
 apply wpAny_bind
 apply wpAny_dictEpoch g y
 rw [if_neg (by simp)]
 apply wpAny_pure
 cases hx:es[i]? with
 | some e =>
  simp only [pos,if_false,arL,hx]
  apply wpAny_bind
  apply wpAny_bind
  apply wpAny_typeNameOfWhole_keyiter T
  apply wpAny_pure
  apply wpAny_bind
  apply wpAny_isOneOf_keyiter T
  apply wpAny_bind (m:=setField (.ref I) 1 (rawInt ((i:Int)+1)))
  refine wpAny_setField gi di (by simp) ?_
  have t':(s.heap.update I (Obj.mapFields (·.setIfInBounds 1 (rawInt ((i:Int)+1))))).IsKeyIter I d (i+1) es.size ep:=by
   refine⟨_,ara _ gi (Obj.isFreed_of_fields (Obj.data_mapFields di _)),?_,?_⟩
   ·rw [Obj.cls_mapFields];exact ci
   ·rw [Obj.data_mapFields di];simp [rawInt]
  apply wpAny_bind
  apply wpAny_holding
  apply wpAny_bind
  refine wpAny_isOneOf_keyiter (s:={ s with heap:=s.heap.update I (Obj.mapFields (·.setIfInBounds 1 (rawInt ((i:Int)+1)))) }) t'.typeIs ?_
  exact wpAny_pure (wpAny_pure ⟨_,rfl,wpAny_pure (q1 e _ hx t' (arl ..))⟩)
 | none =>
  simp only [pos,if_false,arL,hx]
  apply wpAny_bind
  apply wpAny_bind
  apply wpAny_typeNameOfWhole_keyiter T
  apply wpAny_pure
  apply wpAny_bind (m:=setField (.ref I) 0 .none)
  refine wpAny_setField gi di (by simp) ?_
  apply wpAny_bind (m:=newExc (.type "StopIteration") [])
  simp only [newExc,newTuple]
  apply wpAny_bind
  refine wpAny_newObj_type ?_ (by size_fits)
  apply wpAny_bind (m:=firstArgMember _ _)
  refine wpAny_of_eq (a:=Value.none) rfl ?_
  refine wpAny_newObj_type ?_ (by size_fits)
  simp only [raiseNew]
  apply wpAny_bind
  apply wpAny_handled
  rw [show A.in1.handled=none from hh]
  refine wpAny_bind (wpAny_pure ?_)
  apply wpAny_throw
  apply wpAny_bind
  refine wpAny_isInstance (T:="StopIteration") (b:=true) ⟨_,apI _ rfl,rfl⟩ isSubtype_stop ?_
  exact wpAny_pure (q2 hx _ (((arl ..).extBut.push _).push _))
end
section
variable {P:Program} {w:World} {A:Around} {E:Value->Shared->Prop} {s:Shared} {d:Addr} {o:Obj} {es:Array DictEntry} {ep:Nat}
theorem ahs (hh:A.handled=none) (I:Addr) (ne:d≠I) (y:o.data=.dict es ep) :
  Walks P w A I [I,d] [I] es.size (fun i v=>∃ e,es[i]?=some e/\v=e.key) (fun i h=>h.IsKeyIter I d i es.size ep/\h.get? d=some o) where
 sub:=fun b hb=>by rw [apB.mp hb];exact apo ..
 frame:=fun i h h' ⟨t,g⟩ k=>⟨t.at (k I (apo ..)),k d (apl _ (apo ..)) o g⟩
 item:=fun i s Q E hi ⟨t,g⟩ q=>acu hh t g y (fun e h' he t' sb=>q e.key h' s.toks ⟨e,he,rfl⟩ ⟨t',(sb.2 d ne).trans g⟩ fun b u hb hu=>(sb.2 b fun z=>hb (by rw [z];exact apo ..)).trans hu) fun z=>by
  rw [arf hi] at z
  cases z
 done:=fun s Q E ⟨t,g⟩ q=>acu hh t g y (fun e h' he=>by
  rw [ar9 (apr _)] at he
  cases he) fun _ h' eb=>q h' s.toks fun b u hb hu=>eb b u (fun z=>hb (by rw [z];exact apo ..)) hu
 self:=fun i s Q E st q=>wpAny_pyIter_keyiter st.1 q
theorem aiX (nd:(d == sysModules)=false) (x:o.ExactDict) (y:o.data=.dict es ep):PySem.W.KdlSrc P w "dict" d d es.size (fun i v=>∃ e,es[i]?=some e/\v=e.key) (fun h=>h.get? d=some o) where
 type:=fun s g=>⟨o,g,x.1⟩
 there:=fun h g=>⟨apw g,apw g⟩
 keep:=fun h h' g k=>k d (.inl rfl) o g
 notList:=rfl
 notTuple:=rfl
 hint:=fun A E s Q g q=>PySem.W.kdl_hint_dict ⟨o,g,x.1⟩ q
 iter:=fun A s hh g=>⟨_,_,fun E Q q=>aff nd g x y q,ahs hh _ (apU (apw g)) y,⟨_,apI _ rfl,rfl,rfl⟩,aps _ g⟩
theorem aaJ {vs:List Value} {κ:SortKind} {lt:Nat->Nat->Bool} {Q:Value->Shared->Prop} (hh:A.handled=none) (nd:(d == sysModules)=false) (g:s.heap.get? d=some o) (x:o.ExactDict) (y:o.data=.dict es ep) (ev:vs=es.toList.map (·.key)) (hz:vs.length<=sizeLine)
  (K:∀ tk,Asks P w A.in1.in1 { s with toks:=tk } κ vs lt)
  (q:∀ (h':Heap) tk D p c,Pm vs.length p->Up lt p vs.length->(∃ h1:Heap,(∀ b u,s.heap.get? b=some u->h1.get? b=some u)/\h1.objs.size<=D)->(∀ b u,s.heap.get? b=some u->h'.get? b=some u)->h'.get? D=some (seqObj "list" (p.toList.map fun i=>vs.getD i Value.none).toArray c)->Q (.ref D) { s with heap:=h',toks:=tk }) :
  wpAny (model P w) A (call (.builtin "sorted") [.ref d]) Q E s:=by
 have hn:es.size<=sizeLine:=by rw [ev,api,apD] at hz;exact hz
 refine Calls.call_function_entry kind_sorted plain_sorted entry_sorted (args_sorted1 _) ?_
 unfold Builtin.«sorted»
 apply wpAny_bind (m:=checkCount "sorted" 1 1 _);apply wpAny_pure
 apply wpAny_bind;refine PySem.W.kdu_collect (A:=A.in1) (aiX nd x y) hh g hn fun h1 tk acc k1 hacc=>?_
 have ea:acc.toList=vs:=by
  rw [ev]
  refine ari fun i=>?_
  rw [apt,arb,arb]
  by_cases hi:i<acc.size
  ·obtain⟨e,he,hv⟩:=hacc.2 i _ (arf hi)
   rw [arf hi,he,hv]
   rfl
  ·rw [ar9 (by omega),ar9 (by rw [<-hacc.1];omega)]
   rfl
 rw [ea]
 let h2':=h1.push (seqObj "list" vs.toArray 0)
 have at2:h2'.get? h1.objs.size=some (seqObj "list" vs.toArray 0):=apI _ rfl
 have keep:∀ b u,s.heap.get? b=some u->b≠h1.objs.size/\h2'.get? b=some u:=fun b u eb =>
  ⟨apU (apw (k1 b u eb)),aps _ (k1 b u eb)⟩
 apply wpAny_bind;refine wpAny_newList ?_ hz
 change wpAny _ _ _ _ _ { s with heap:=h2',toks:=tk }
 apply wpAny_bind;apply wpAny_holding
 refine wpAny_call_entry slot_list_sort ⟨_,at2,rfl⟩ entry_list_sort ?_ (args_list_sort _)
 refine akk (s:={ s with heap:=h2',toks:=tk }) hz at2 (h0:=s.heap) keep (K tk) fun h' p c x1 x2 x3 x4=>⟨_,rfl,wpAny_pure ⟨_,rfl,?_⟩⟩
 exact q h' tk _ p c x1 x2 ⟨h1,k1,apr _⟩ (fun b u eb=>x3 b u (keep b u eb).1 (keep b u eb).2) x4
end
noncomputable def afg (w:World) (K:apj):List V->Hp->VK->Prop:=fun xs H Q=>∃ (a:Addr) (es:List (PyData×Addr×Value)) (T:String),xs=[.ref a]/\H a=some (DicO w a es)/\vF K H es/\SortOk T (es.map (·.1))/\es.length<64 /\
 ∀ l p,H l=none->Pm es.length p->Up (fun i j=>ltD ((es.map (·.1)).getD i .none) ((es.map (·.1)).getD j .none)) p es.length->Q (.ref l) (upd H l (.lst (pick .non p (es.map fun x=>.ref x.2.1))))
theorem aai {K:apj} {H:Hp}:∀ {es:List (PyData×Addr×Value)},vF K H es->Reps K H (es.map (·.1)) (es.map fun x=>V.ref x.2.1)
 | [],_=>.nil'
 | x :: es,h=>.cons' (h x (apo ..)).2 (aai fun z hz=>h z (apl _ hz))
theorem aaj:∀ es:List (PyData×Addr×Value),Vals (es.map fun x=>V.ref x.2.1) (es.map fun x=>Value.ref x.2.1)
 | []=>.nil
 | x :: es=>.cons rfl (aaj es)
theorem afh {X:Cx} (hc:X.calm=true) (hu:X.A.units+64<cLine):yN X (.builtin "sorted") (afg X.w X.K):=by
 intro pins s σ H xs us Q I r h
 obtain⟨a,es,T,rfl,hS,ks,ok,few,q⟩:=h
 obtain⟨u,rfl,rx⟩:=vals1 r
 cases rx
 obtain⟨⟨o,es',ep,S⟩,_⟩:=I.hok a _ hS
 obtain⟨as,ra⟩:=jR I _ _ _ (aai ks) (aaj es)
 have e2:X.A.in1.in1.units=X.A.units+1+1:=rfl
 have ev:(es.map fun x=>Value.ref x.2.1)=es'.toList.map (·.key):=by
  rw [S.el,ap1]
  rfl
 have lm:(es.map fun x=>Value.ref x.2.1).length=es.length:=api _
 have lm2:(es.map (·.1)).length=es.length:=api _
 refine aaJ (I.ok.hd hc) S.ns S.ob S.ex S.da ev (by rw [lm];exact aqj (zY (by omega))) (fun tk=>akl (s:={ s with toks:=tk }) ra ok (by omega) (.inl (by rw [lm2];exact few))) fun h' tk D p c x1 x2 x3 x4 x5=>?_
 rw [lm] at x1 x2
 obtain⟨h1,k1,l1⟩:=x3
 have hD:H D=none:=(I.hok.kept k1).fresh l1
 have x3:∀ b u,s.heap.get? b=some u->b≠D:=fun b u e=>apU (apF (apw (k1 b u e)) l1)
 have lp:p.toList.length=es.length:=by rw [apD];exact x1.size
 obtain⟨m,hm,_⟩:=I.loc
 refine⟨.ref D,upd H D (.lst (pick .non p (es.map fun x=>.ref x.2.1))),I.laidL (t':=tk) (fun b u _ e=>x4 b u e) ?_ (fun m hm=>hm.keeps x4) x3 hD ⟨by unfold pick;rw [api];exact aqj (zY (by omega)),_,c,ahi (aaj es) p,x5⟩,rfl,q D p hD x1 x2⟩
 obtain⟨o2,g2⟩:∃ o2,s.heap.get? X.env.locals=some o2:=let⟨u,_,_,hu,_⟩:=hm;⟨u,hu⟩
 exact⟨o2,x4 _ _ g2⟩
theorem aeo {X:Cx} {K:apj} {w:World} (hc:X.calm=true) (hw:X.w=w) (hK:X.K=K) (hu:X.A.units+64<cLine):yN X (.builtin "sorted") (afg w K):=hw▸hK▸afh hc hu
noncomputable def alH (w:World) (K:apj) (tk tv:TE):TE:=fun σ H Q=>∀ p,H p=none->tk σ (upd H p (DicO w p [])) fun kx H1=>tv σ H1 fun vx H2=>vP w K (.ref p) kx vx H2 fun H3=>Q (.ref p) H3
theorem aep {X:Cx} (hu:X.A.units+64<cLine):OpR X (compareOp .NotIn) (afe X.w X.K true):=by
 intro pins s σ H x y v u Q I rx ry h
 obtain⟨a,b,d,xs,rfl,rfl,hS,ks,kd,rd,q⟩:=h
 cases rx
 cases ry
 obtain⟨hm,ns⟩:=abw I hS ks
 have hu1:X.A.in1.units=X.A.units+1:=rfl
 exact wpAny_notIn_heap (by show _+40<cLine;omega) (j7 I kd rd) ns hm ⟨.bl _,H,I.tok _,rfl,q⟩
theorem adh {X:Cx} {K:apj} {w:World} (hw:X.w=w) (hK:X.K=K) (hu:X.A.units+64<cLine):OpR X (compareOp .NotIn) (afe w K true):=hw▸hK▸aep hu
theorem aky {X:Cx} {w:World} {K:apj} {pos:Pos} {k v:Expr} {tk tv:TE} (hw:X.w=w) (hK:X.K=K) (hu:X.A.units+64<cLine) (hk:PE X k tk) (hv:PE X v tv):PE X (.Dict [some k] [v] pos) (alH w K tk tv):=by
 subst hw hK
 intro pins s σ H Q I h
 refine wpAny_Dict_any rfl rfl (by simp) (apW rfl) ?_
 have I0:=I.laid (a:=s.heap.objs.size) (t':=s.toks) (fun _ _ q=>aps _ q) (apr _) (DicO.ok (xs:=[]) (o:={ cls:=.type "dict",data:=.dict #[] }) (es:=#[]) (ep:=0) ⟨apI _ rfl,⟨rfl,rfl,rfl⟩,rfl,rfl,aqU,beq_eq_false_iff_ne.mpr (arh (apU (adf I)))⟩)
 refine pairTrees_cons_walk (thn (hk pins _ σ _ _ I0 (h _ (I.hok.fresh (apr _)))) fun kv s1 ⟨kx,H1,I1,r1,q1⟩=>?_)
 refine thn (hv pins s1 σ H1 _ I1 q1) fun vv s2 ⟨vx,H2,I2,r2,q2⟩=>?_
 refine pairTrees_nil_walk ?_
 obtain⟨a,b,d,xs,ea,rfl,hS,ks,kd,rd,hl,q⟩:=q2
 cases ea
 cases r1
 obtain⟨hm,ns⟩:=abw I2 hS ks
 unfold storeAll
 rw [aqK]
 refine wpAny_bind (wpAny_bind (wpAny_dictSet_heap (by show _+40<cLine;omega) (j7 I2 kd rd) hm (fun h' hm' sb=>?_) (aqj (zY hl))))
 refine wpAny_pure ?_
 show wpAny _ _ (forIn [] _ _) _ _ _
 rw [aqT]
 refine wpAny_pure ?_
 obtain⟨o',es',ep',x1,x2,x3,x4,x5,x6⟩:=hm'
 exact⟨.ref _,_,I2.write (t':=s2.toks+yc d) (x:=s.heap.objs.size) (e:=s.heap.objs.size) (by rw [hS];exact trivial) (.inl rfl) (fun b u nb e=>(sb.2 b nb).trans e) ⟨o',x1⟩ (DicO.ok ⟨x1,x2,x3,x4,x6,ns⟩),rfl,q _ r2⟩
section
variable {w:World} {K:apj} {f:Fx} {Ds:List Addr} {ρ:zr} {cs:List OC} {te tk tv:TE} {O:MEnds} {i j n:Nat} {kvs:List (PyData×PyData)}
theorem aon {es:List PyData} {d:PyData} (hi:ρ[i]?=some (some (.own (f.M.length+j)))) (hc:cs[j]?=some (.lst (es++[d]))) (h:O.nx (ρ.set n (some (.dat d))) (cs.set j (.lst es))):PSm w K f Ds (jD (anQ K "list" anR (yj i)) (yG n)) ρ cs O:=fun se σ H H2 E x nn r b k=>by
 have hj:j<Ds.length:=by rw [<-x.len];exact (apm.mp hc).1
 have hD:Ds[j]?=some Ds[j]:=aph hj
 obtain⟨vs,h0,rs⟩:=x.own j _ _ hD hc
 obtain⟨vs',v,rfl,rs',rv⟩:∃ vs' v,vs=vs'++[v]/\Reps K (hide H (f.withs Ds)) es vs'/\Rep K (hide H (f.withs Ds)) d v:=by
  have key:∀ (es:List PyData) (vs:List V),Reps K (hide H (f.withs Ds)) (es++[d]) vs->∃ vs' v,vs=vs'++[v]/\Reps K (hide H (f.withs Ds)) es vs'/\Rep K (hide H (f.withs Ds)) d v:=fun es=>by
   induction es with
   | nil =>
    intro vs q
    obtain⟨v,vs',rfl,r1,r2⟩:=reps_cons.mp q
    rw [reps_nil.mp r2]
    exact⟨[],v,rfl,.nil',r1⟩
   | cons e es ih =>
    intro vs q
    obtain⟨v,vs',rfl,r1,r2⟩:=reps_cons.mp q
    obtain⟨us,z,rfl,r3,r4⟩:=ih vs' r2
    exact⟨v :: us,z,rfl,.cons' r1 r3,r4⟩
  exact key es vs rs
 refine⟨_,jj hi x hD,Or.inl ⟨rfl,_,.of h0⟩,Ds[j],vs'++[v],v,rfl,rfl,h0,by simp,?_⟩
 rw [List.dropLast_concat]
 have x1:=x.put se hD (o:=.lst vs') (c':=.lst es) ⟨vs',zw,rs'⟩
 have hm:=apv hD
 refine nn _ _ _ _ ⟨x1.env.set n (x:=.dat d) ?_,x1.sm,x1.kp,x1.len,x1.own⟩ h
 show Rep K (hide (upd H Ds[j] (.lst vs')) (f.withs Ds)) d v
 rw [yi hm]
 exact rv
theorem akz {neg:Bool} {B:Bool->Prop} (hi:ρ[i]?=some (some (.own (f.M.length+j)))) (hc:cs[j]?=some (.dic kvs)) (h:PEm w K f Ds te ρ cs fun d=>aaI d/\B (if neg then !decide (d∈kvs.map (·.1)) else decide (d∈kvs.map (·.1)))) :
  PTm w K f Ds (adP (tOp (afe w K neg) te (yj i))) ρ cs B:=fun se σ H H2 Q x q=>by
 have hj:j<Ds.length:=by rw [<-x.len];exact (apm.mp hc).1
 have hD:Ds[j]?=some Ds[j]:=aph hj
 refine h se σ H H2 _ x fun d v H1 g1 r1 ⟨kd,p⟩=>?_
 have x1:=x.go g1 (x.env.mono g1)
 obtain⟨b,rfl⟩:=qB kd r1
 obtain⟨xs,h1,h2⟩:=x1.own j _ _ hD hc
 refine⟨_,jj hi x1 hD,Ds[j],b,d,xs,rfl,rfl,h1,fun z hz=>⟨(yX h2 z hz).1,Rep.mono (zi _ _) _ _ (yX h2 z hz).2⟩,kd.1,Rep.mono (zi _ _) _ _ r1,_,rfl,?_⟩
 have:(atKey xs d).isSome=decide (d∈kvs.map (·.1)):=by
  rcases aaT d h2 with⟨a1,_,a3⟩ | ⟨p',_,_,a1,_,_,_,a3⟩
  ·rw [a1,decide_eq_false a3];rfl
  ·rw [a1,decide_eq_true a3];rfl
 rw [this]
 exact q _ H1 g1 p
theorem akA {P:OC->Prop} (h:∀ p,PEd K (f.with p) tk ρ fun k=>aaI k/\PEd K (f.with p) tv ρ fun v=>P (.dic [(k,v)])):abW w K f (alH w K tk tv) ρ P:=fun σ H Q e q p hp=>by
 have np:=fresh_ne e.fd hp
 have e0:EnvOk K (f.with p) ρ σ (upd H p (DicO w p [])):=acR e hp
 have top:(upd H p (DicO w p [])) p=some (DicO w p []):=zw
 refine h p σ _ _ e0 fun k kx H1 g1 r1 ⟨kt,h2⟩=>h2 σ H1 _ (e0.mono g1) fun v vx H2 g2 r2 pv=>?_
 obtain⟨b,rfl⟩:=qB kt r1
 have g12:=g1.trans g2
 have hp2:H2 p=some (DicO w p []):=(g12.kp p (apo ..)).trans top
 have rk:=Rep.mono g2.sm _ _ r1
 refine⟨p,b,k,[],rfl,rfl,hp2,(fun z hz=>nomatch hz),kt.1,Rep.mono (zi _ _) _ _ rk,ap2 _,fun u ru=>?_⟩
 have hw:hide (upd H2 p (DicO w p (storedH [] k b u))) (f.with p)=hide H2 (f.with p):=yf
 have fo:FOk f (upd H2 p (DicO w p (storedH [] k b u))):=by
  have fo2:=g12.ok
  refine⟨fun c ec=>?_,fun c hc=>?_,fun c ec hc=>fo2.nm c ec (apl _ hc)⟩
  ·obtain⟨a1,a2,a3,a4⟩:=fo2.fd c ec
   exact⟨a1,a2,by rw [zv (fun (z:c=p)=>np (.inl (z▸ec)))];exact a3,a4⟩
  ·obtain⟨o,ho⟩:=fo2.mm c (apl _ hc)
   exact⟨o,by rw [zv (fun (z:c=p)=>np (.inr (z▸hc)))];exact ho⟩
 have sm:Same (hide H f) (hide (upd H2 p (DicO w p (storedH [] k b u))) (f.with p)):=by
  rw [hw]
  exact (jS hp).trans g12.sm
 refine q (.dic [(k,v)]) p _ ⟨sm.trans same_with,fo,fun c hc=>?_⟩ hp ⟨_,zw,?_⟩ pv
 ·have ncp:c≠p:=fun z=>np (.inr (z▸hc))
  rw [zv ncp,g12.kp c (apl _ hc),zv ncp]
 ·rw [hw]
  exact adg (xs:=[]) (kvs:=[]) kt.1 rk r2 ru .nil
noncomputable abbrev amO (K:apj):List V->Hp->VK->Prop:=fun xs H Q=>∃ p ys,xs=[V.ref p]/\((SqL K H p ys/\∀ l,H l=none->Q (V.ref l) (upd H l (HO.tup ys))) \/ (SqT K H p ys/\Q (V.ref p) H))
theorem amP {P:PyData->Prop} (T:String) (hi:ρ[i]?=some (some (.own (f.M.length+j)))) (hc:cs[j]?=some (.dic kvs)) (ok:SortOk T (kvs.map (·.1))) (few:kvs.length<64) (h:∀ es,es.Perm (kvs.map (·.1))->(es.Pairwise fun d e=>ltD d e=true)->P (.tuple es)) :
  PEm w K f Ds (tCB (amO K) (yb (tCB (afg w K) (yb (yj i) jz)) jz)) ρ cs P:=fun se σ H H2 Q x q=>by
 have hj:j<Ds.length:=by rw [<-x.len];exact (apm.mp hc).1
 have hD:Ds[j]?=some Ds[j]:=aph hj
 obtain⟨xs,h1,h2⟩:=x.own j _ _ hD hc
 have ek:xs.map (·.1)=kvs.map (·.1):=by
  have key:∀ {xs:List (PyData×Addr×Value)} {kvs:List (PyData×PyData)},Paired (EntR K (hide H (f.withs Ds))) xs kvs->xs.map (·.1)=kvs.map (·.1):=fun {xs kvs} t=>by
   induction t with
   | nil=>rfl
   | cons a _ ih=>rw [apT,apT,ih,a.1]
  exact key h2
 have el:=vQ h2
 have ko:=yX h2
 refine⟨_,jj hi x hD,Ds[j],xs,T,rfl,h1,fun z hz=>⟨(ko z hz).1,Rep.mono (zi _ _) _ _ (ko z hz).2⟩,by rw [ek];exact ok,by rw [el];exact few,fun l p hl pm up=>?_⟩
 have nl:=fresh_ne x.env.fd hl
 have g1:Goes (f.withs Ds) H (upd H l (.lst (pick .non p (xs.map fun z=>.ref z.2.1)))):=.of_same (yd hl _) x.env.fd
 refine⟨l,_,rfl,.inl ⟨.inl (.inl zw),fun l2 hl2=>?_⟩⟩
 have g2:Goes (f.withs Ds) (upd H l (.lst (pick .non p (xs.map fun z=>.ref z.2.1)))) (upd (upd H l (.lst (pick .non p (xs.map fun z=>.ref z.2.1)))) l2 (.tup (pick .non p (xs.map fun z=>.ref z.2.1)))):=.of_same (yd hl2 _) g1.ok
 have rr:Reps K (hide H (f.withs Ds)) (pick .none p (xs.map (·.1))) (pick .non p (xs.map fun z=>.ref z.2.1)):=ahj (aai ko) p
 have pr:(pick .none p (xs.map (·.1))).Perm (xs.map (·.1)):=ahk pm (by rw [api])
 have pu:=akm (ds:=xs.map (·.1)) pm (fun a b hab hb=>up a b hab hb)
 refine q (.tuple (pick .none p (xs.map (·.1)))) _ _ (g1.trans g2) (rep_tuple.mpr ⟨l2,_,rfl,.of (zz (fresh_ne g1.ok hl2) zw),Reps.mono (g1.trans g2).sm _ _ rr⟩) (h _ ?_ pu)
 rw [<-ek]
 exact pr
end
section
variable {K:apj} {f:Fx} {ρ:zr} {ts tu:TS} {O:DEnds} {te:TE} {i:Nat}
theorem aaC (J:zr->Prop) (h1:PSd K f ts ρ { O with nx:=J }) (h2:∀ ρ',J ρ'->PSd K f tu ρ' O):PSd K f (qt ts tu) ρ O :=
 zS fun σ H E e n r b k=>h1 σ H E e (fun ρ' σ' H' g' e' p=>n ρ' σ' H' g' e' (h2 ρ' p)) r b k
theorem acv {w:World} {Ds:List Addr} {cs:List OC} {O:MEnds} (J:zr->List OC->Prop) (h1:PSm w K f Ds ts ρ cs { O with nx:=J }) (h2:∀ ρ' cs',J ρ' cs'->PSm w K f Ds tu ρ' cs' O):PSm w K f Ds (qt ts tu) ρ cs O :=
 aaB fun se σ H H2 E x n r b k=>h1 se σ H H2 E x (fun ρ' cs' σ' H' x' p=>n ρ' cs' σ' H' x' (h2 ρ' cs' p)) r b k
end
section
variable {K:apj} {f:Fx} {ρ:zr} {wi:TI} {g:TG} {tt:TT} {own:Nat} {fr:List Nat} {tb:Addr->TB} {P:List PyData->Prop}
theorem vG {α:Type} {A B:α->PyData} (p:α->Bool) (xs:List α) (h:PId K f wi ρ fun ds=>ds=xs.map A/\xs.length<=1000 /\
   (∀ D x ρ' es,x∈xs->OwnE own (frD fr ρ) ρ'->es.length<1000->PGd K (f.with D) g (A x) ρ' fun ρ2=>PTd K (f.with D) tt ρ2 fun b=>b=p x/\if b=true then PBd K f D (tb D) ρ2 es fun ρ3 es3=>OwnE own (frD fr ρ) ρ3/\es3=es++[B x] else OwnE own (frD fr ρ) ρ2)/\P ((xs.filter p).map B)) :
  PEdO K f (qM wi own fr g tt tb) ρ P :=
 abe (h.imp fun ds ⟨ed,hl,hs,hp⟩=>by
  subst ed
  refine⟨fun i ρ' es=>OwnE own (frD fr ρ) ρ'/\es=((xs.take i).filter p).map B,⟨⟨aqb own none,by simp,rfl⟩,by simp⟩,fun D i d ρ' es hd ⟨ho,he⟩=>?_,fun ρ' es ⟨_,he⟩=>?_⟩
  ·rw [apt] at hd
   cases eq:xs[i]? with
   | none=>rw [eq] at hd;cases hd
   | some x =>
    rw [eq] at hd
    cases hd
    have hi:i<xs.length:=(apm.mp eq).1
    have tk:xs.take (i+1)=xs.take i++[x]:=by rw [aqh,eq];rfl
    have hb:es.length<1000:=by
     have:=aqm p (xs.take i)
     rw [apX] at this
     rw [he,api]
     omega
    intro σ H v Q e r q
    refine hs D x ρ' es (apv eq) ho hb σ H v Q e r fun ρ2 σ2 H2 g2 e2 p2=>q ρ2 σ2 H2 g2 e2 (p2.imp fun b hb2=>?_)
    obtain⟨eb,hb2⟩:=hb2
    cases b with
    | false =>
     rw [if_neg apk] at hb2 ⊢
     refine⟨hb2,?_⟩
     rw [tk,asE,apQ,aqP,<- eb,if_neg apk,he]
     simp
    | true =>
     rw [if_pos rfl] at hb2 ⊢
     intro h1 h2 σ3 H3 H4 W c k
     exact hb2 h1 h2 σ3 H3 H4 W c fun ρ5 es5 σ5 H5 c5 ⟨o5,p5⟩=>k ρ5 es5 σ5 H5 c5 ⟨o5,by rw [p5,he,tk,asE,apQ,aqP,<- eb,if_pos rfl];rfl⟩
  ·rw [he,api,aqk]
   exact hp)
end
end L2
end
section
namespace L2
open PySem PySem.Spec PyProof.Rows
noncomputable def aaK (w:World) (K:apj) (kvs:List (PyData×PyData)):Hp->V->Prop:=fun Hh v=>∃ a xs,v=.ref a/\Hh a=some (DicO w a xs)/\Paired (EntR K Hh) xs kvs
noncomputable def PEv (K:apj) (f:Fx) (te:TE) (ρ:zr) (P:DV->Prop):Prop:=∀ (σ:St) (H:Hp) (Q:VK),EnvOk K f ρ σ H->(∀ x v H',Goes f H H'->RepV K f H' x v->P x->Q v H')->te σ H Q
noncomputable def spV {γ:Type} (K:apj) (n:Nat) (pre:γ->List DV->Prop) (post:γ->DV->Prop):Sp:=fun vs H Q _=>∃ f xs c,RepVs K f H xs vs/\xs.length=n/\FOk f H/\pre c xs/\∀ r v H',Goes f H H'->RepV K f H' r v->post c r->Q v H'
noncomputable def PSv (K:apj) (f:Fx) (ts:TS) (ρ:zr) (R:DV->Prop):Prop:=∀ (σ:St) (H:Hp) (E:Ends),EnvOk K f ρ σ H->(∀ x v H',Goes f H H'->RepV K f H' x v->R x->E.rt v H')->ts E σ H
noncomputable def akB (w:World) (K:apj) (f:Fx) (Ds:List Addr) (ts:TS) (ρ:zr) (cs:List OC) (j:Nat) (R:OC->Prop):Prop:=Sep f Ds->∀ (σ:St) (H H2:Hp) (E:Ends),CM w K f Ds H2 ρ cs σ H ->
 (∀ D c ρ' cs' σ' H',CM w K f Ds H2 ρ' cs' σ' H'->Ds[j]?=some D->cs'[j]?=some c->R c->E.rt (.ref D) H')->ts E σ H
section
variable {w:World} {K:apj} {f:Fx} {ρ:zr} {Ds:List Addr} {cs:List OC} {te ta tk:TE} {ts tu:TS} {t:TA} {O:DEnds} {i j:Nat} {R:OC->Prop}
theorem v_var {P:DV->Prop} {x:DV} (h:ρ[i]?=some (some x)) (p:P x):PEv K f (yj i) ρ P:=fun σ H Q e q=>by
 obtain⟨v,h1,h2⟩:=e.get i x h
 exact⟨v,h1,q x v H (.refl e.fd) h2 p⟩
theorem amQ {P:DV->Prop} {γ:Type} {n:Nat} {pre:γ->List DV->Prop} {post:γ->DV->Prop} {E:XK} (c:γ) (h:PAd K f t ρ fun xs=>xs.length=n/\pre c xs/\∀ r,post c r->P r):PEv K f (ab7 (spV K n pre post) [] E t) ρ P:=fun σ H Q e q =>
 h σ H _ e fun xs vs H1 g1 r1 ⟨hl,hp,k⟩=>⟨f,xs,c,by rw [apY];exact r1,hl,g1.2,hp,fun r v H' g' r' p'=>q r v H' (g1.trans g') r' (k r p')⟩
theorem aiY (h:PEv K f te ρ fun x=>O.nx (ρ.set i (some x))):PSd K f (jD te (yG i)) ρ O:=fun σ H E e n r b k =>
 h σ H _ e fun x v H1 g1 r1 p=>n _ _ H1 g1 ((e.mono g1).set i (x:=x) r1) p
theorem alI {P:PyData->Prop} (h:PEv K f ta ρ fun x=>∃ kvs,x=.mon (aaK w K kvs)/\PEd K f tk ρ fun k=>aaI k/\∃ d,j8 k kvs=some d/\P d):PEd K f (tOp (afd w K) ta tk) ρ P:=fun σ H Q e q =>
 h σ H _ e fun x v H1 g1 r1 ⟨kvs,ex,h2⟩=>h2 σ H1 _ (e.mono g1) fun k kv H2 g2 r2 ⟨kt,d,hd,p⟩=>by
  subst ex
  obtain⟨b,rfl⟩:=qB kt r2
  obtain⟨a,xs,rfl,h3,h4⟩:=(RepV.mono g2 r1:RepV K f H2 (.mon (aaK w K kvs)) v) (hide H2 f) (Same.refl _)
  rcases aaT k h4 with⟨_,a2,_⟩ | ⟨p',d',v',a1,a2,a3,a4,_⟩
  ·rw [hd] at a2
   cases a2
  ·rw [hd] at a2
   cases a2
   exact⟨a,b,k,xs,p',v',rfl,rfl,(zI h3).2,fun z hz=>⟨(yX h4 z hz).1,Rep.mono (zi _ _) _ _ (yX h4 z hz).2⟩,kt.1,Rep.mono (zi _ _) _ _ r2,a1,a4,q d v' H2 (g1.trans g2) a3 p⟩
theorem amR (h:PSm w K f Ds ts ρ cs { nx:=fun ρ' cs'=>akB w K f Ds tu ρ' cs' j R,rt:=fun _=>False }):akB w K f Ds (qt ts tu) ρ cs j R:=fun se σ H H2 E x q =>
 h se σ H H2 _ x (fun ρ' cs' σ' H' x' p=>p se σ' H' H2 E x' q) (fun _ _ _ _ _ _ _ _ z=>z.elim) (fun _ _ _ _ _ z=>z.elim) (fun _ _ _ _ _ z=>z.elim)
theorem amS {c:OC} (hi:ρ[i]?=some (some (.own (f.M.length+j)))) (hc:cs[j]?=some c) (h:R c):akB w K f Ds (aeS (yj i)) ρ cs j R:=fun se σ H H2 E x q=>by
 have hj:j<Ds.length:=by rw [<-x.len];exact (apm.mp hc).1
 have hD:Ds[j]?=some Ds[j]:=aph hj
 exact⟨_,jj hi x hD,q _ c ρ cs σ H x hD hc h⟩
theorem amT {R:DV->Prop} (h:abW w K f te ρ fun c=>i<ρ.length/\∀ D,akB w K f [D] ts (ρ.set i (some (.own (f.M.length+0)))) [c] 0 fun c=>∃ kvs,c=.dic kvs/\R (.mon (aaK w K kvs))):PSv K f (qt (jD te (yG i)) ts) ρ R:=fun σ H E e q=>by
 have se0:Sep f []:=⟨aqU,(fun _ z=>nomatch z),(fun _ z=>nomatch z)⟩
 have x0:CM w K f [] H ρ [] σ H:=⟨e,Same.refl _,fun _ _=>rfl,rfl,(fun i D c z=>nomatch z)⟩
 refine h σ H _ e fun c D H1 g1 hn ho ⟨hi,p⟩=>?_
 have nD:=fresh_ne e.fd hn
 refine p D (se0.more e.fd hn) _ H1 H1 E (x0.more g1 hn ho hi) fun D' c' ρ' cs' σ' H' y h1 h2 ⟨kvs,ec,r⟩=>?_
 cases h1
 subst ec
 have z:=x0.less g1 hn y
 obtain⟨xs,h3,h4⟩:=y.own 0 D _ rfl h2
 exact q (.mon (aaK w K kvs)) _ H' ⟨z.sm,z.env.fd,z.kp⟩ (fun H'' s=>⟨D,xs,rfl,s D _ (zz nD h3),EntR.mono (same_withs.trans s) h4⟩) r
end
theorem ql (k v:PyData) (kvs:List (PyData×PyData)):j8 k (dput k v kvs)=some v:=by
 unfold dput j8
 by_cases h:k∈kvs.map (·.1)
 ·rw [if_pos h]
  induction kvs with
  | nil=>cases h
  | cons p kvs ih =>
   rw [apT,aqL]
   by_cases e:p.1=k
   ·rw [if_pos e,decide_eq_true (show p.1=k from e)]
    rfl
   ·rw [if_neg e,decide_eq_false (show ¬ p.1=k from e)]
    rw [apT,apq] at h
    exact ih (h.resolve_left fun z=>e z.symm)
 ·rw [if_neg h,List.find?_append,List.find?_eq_none.mpr,Option.none_or,aqL,decide_eq_true rfl]
  ·rfl
  ·intro p hp
   have:p.1≠k:=fun z=>h (apJ.mpr ⟨p,hp,z⟩)
   simpa using this
theorem yQ {k k':PyData} (v:PyData) (ne:k'≠k) (kvs:List (PyData×PyData)):j8 k' (dput k v kvs)=j8 k' kvs:=by
 unfold dput j8
 split
 ·rename_i hk
  clear hk
  congr 1
  induction kvs with
  | nil=>rfl
  | cons p kvs ih =>
   rw [apT,aqL,aqL]
   by_cases e:p.1=k
   ·rw [if_pos e,decide_eq_false (show ¬ (p.1,v).1=k' from fun z=>ne (z.symm.trans e))]
    exact ih
   ·rw [if_neg e]
    cases decide (p.1=k')
    ·exact ih
    ·rfl
 ·rw [List.find?_append,aqL,decide_eq_false (show ¬ (k,v).1=k' from fun z=>ne z.symm)]
  simp
section
variable {γ:Type} {P:Program} {w:World} {K:apj} {mg:Str->Option Value} {base:Heap} {k:Nat} {x:Str} {st:Stmt} {N:List Str} {ps:List Str} {n:Nat} {pre:γ->List DV->Prop} {post:γ->DV->Prop}
theorem Def.okV (F:Def K mg x st ps) (S:FnScope N ps (zk st)) (hn:ps.length=n)
  (h:∀ (fa:Addr) (cdv:Value) (A:Around) (outer:List Env) (s:Shared) (H:Hp) (E:XK),Room k (A.deeper (envOfC x (zk st) s.heap.objs.size fa cdv)) ->
   ∃ t,PSs (yn CX0 P w K mg base N x (zk st) fa cdv A outer s H E).nox (yC st) t/\∀ (f:Fx) (xs:List DV) (c:γ),xs.length=n->pre c xs->PSv K f t (qz N xs) (post c)) :
  FnIn P w K mg base (k+1) x ps (spV K n pre post):=by
 obtain⟨fa,fd,F1,F2,F3⟩:=F.ex
 refine⟨fa,fd,F1.ok S (fun vs H Q E h=>?_) (fun cdv A outer s H vs Q E hr hs=>?_),F3,F1.kp,F2⟩
 ·obtain⟨f,xs,c,r,hl,_⟩:=h
  rw [r.length,hl,hn]
 ·obtain⟨f,xs,c,r,hl,fo,hp,q⟩:=hs
  obtain⟨t,h1,h2⟩:=h fa cdv A outer s H E hr
  exact⟨t,h1,h2 f xs c hl hp (start N vs) H _ (qh r fo) fun x v H' g r p=>q x v H' g r p⟩
end
end L2
end
section
namespace L2
open PySem PySem.Spec PyProof.Rows
noncomputable def Itz (K:apj) (a b:Addr):It :=
 ⟨fun i H=>∃ xs ys x y,SqL K H a xs/\SqL K H b ys/\xs[i]?=some x/\ys[i]?=some y,fun i H v H'=>∃ t x y,v=.ref t/\H t=none/\H'=upd H t (.tup [x,y])/\(∀ xs,SqL K H a xs->xs[i]?=some x)/\∀ ys,SqL K H b ys->ys[i]?=some y,
  fun i H=>∃ xs ys,SqL K H a xs/\SqL K H b ys/\(xs.length<=i \/ ys.length<=i)⟩
theorem aiZ {P:Program} {w:World} {K:apj} {es:List Expr} {k:Nat} {pos:Pos} (a b z q1 q2 c1 c2:Addr) (D:ZipApart z q1 q2 c1 c2 a b) :
  Turn P w K (.Tuple es k pos) (Itz K a b) [z,q1,q2,c1,c2] z (fun i h=>IsZip h z q1 q2 .none/\IsPair h q1 (.ref c1) (.ref c2)/\(∃ u v,IsPair h q2 u v)/\h.IsListIter c1 a i/\h.IsListIter c2 b i) where
 mem:=by simp
 obj:=fun i h st x hx=>by
  obtain⟨s1,s2,⟨u,v,s3⟩,⟨o4,e4,_,d4⟩,⟨o5,e5,_,d5⟩⟩:=st
  simp only [apq,ap0,or_false] at hx
  rcases hx with rfl | rfl | rfl | rfl | rfl
  ·exact⟨_,s1,fun y z=>by have z':Data.fields _=Data.cell y:=z;cases z'⟩
  ·exact⟨_,s2,fun y z=>by have z':Data.seq _=Data.cell y:=z;cases z'⟩
  ·exact⟨_,s3,fun y z=>by have z':Data.seq _=Data.cell y:=z;cases z'⟩
  ·exact⟨o4,e4,fun y z=>by rw [d4] at z;cases z⟩
  ·exact⟨o5,e5,fun y z=>by rw [d5] at z;cases z⟩
 keep:=fun i h h' st kk=>by
  obtain⟨s1,s2,⟨u,v,s3⟩,s4,s5⟩:=st
  exact⟨kk z (by simp) _ s1,kk q1 (by simp) _ s2,⟨u,v,kk q2 (by simp) _ s3⟩,s4.at fun o e=>kk c1 (by simp) o e,s5.at fun o e=>kk c2 (by simp) o e⟩
 item:=by
  intro X hP hw hK hc i pins s σ H E I hf st hg
  subst hP hw hK
  obtain⟨xs,ys,x,y,hq,hp,hx,hy⟩:=hg
  obtain⟨its,rv,p,_⟩:=I.list hq
  obtain⟨u,hu,ru⟩:=rv.get hx
  obtain⟨its',rv',p',_⟩:=I.list hp
  obtain⟨v,hv,rv2⟩:=rv'.get hy
  obtain⟨s1,s2,⟨u0,v0,s3⟩,s4,s5⟩:=st
  refine wpAny_pyNext_zip_item D s1 s2 s3 s4 s5 p.isList p'.isList (x:=u) (y:=v) (by simpa using hu) (by simpa using hv) fun h' n1 n3 n4 n5 tp sz kp=>?_
  refine⟨_,rfl,?_⟩
  refine wpAny_letOwnedTupleGo_zip (s:={ s with heap:=h' }) n1 fun h2 m1 sb=>?_
  have old:∀ c∈[z,q1,q2,c1,c2],c<s.heap.objs.size:=fun c hc=>by
   obtain⟨o4,e4,_,_⟩:=s4
   obtain⟨o5,e5,_,_⟩:=s5
   simp only [apq,ap0,or_false] at hc
   rcases hc with rfl | rfl | rfl | rfl | rfl
   ·exact apw s1
   ·exact apw s2
   ·exact apw s3
   ·exact apw e4
   ·exact apw e5
  have kk:∀ c o,c∉[z,q1,q2,c1,c2]->s.heap.get? c=some o->h2.get? c=some o:=fun c o hc e=>by
   have z1:c≠z:=fun z=>hc (by simp [z])
   have z3:c≠q2:=fun z=>hc (by simp [z])
   have z4:c≠c1:=fun z=>hc (by simp [z])
   have z5:c≠c2:=fun z=>hc (by simp [z])
   exact (sb.2 c z1).trans (kp c o z1 z3 z4 z5 e)
  have hlt:z<s.heap.objs.size:=old z (by simp)
  have I2:Inv X pins σ (upd H s.heap.objs.size (.tup [x,y])) { s with heap:=h2,toks:=s.toks }:=I.turnedNew (t':=s.toks) hf kk (apr _)
   ⟨by show 2<=sizeLine;decide,[u,v],.cons ru (.cons rv2 .nil),⟨_,(sb.2 _ (aq3 hlt)).trans tp,rfl,_,rfl⟩⟩
  refine⟨.ref s.heap.objs.size,_,I2,rfl,⟨_,x,y,rfl,I.fresh,rfl,fun zs hz=>by rw [I.list_inj hz hq];exact hx,fun zs hz=>by rw [I.list_inj hz hp];exact hy⟩,⟨m1,?_,⟨u,v,?_⟩,?_,?_⟩,fun c hc=>?_⟩
  ·exact (sb.2 q1 D.TIz).trans (kp q1 _ D.TIz D.TITO D.TIi1 D.TIi2 s2)
  ·exact (sb.2 q2 D.TOz).trans n3
  ·exact n4.at fun o eo=>(sb.2 c1 D.i1z).trans eo
  ·exact n5.at fun o eo=>(sb.2 c2 D.i2z).trans eo
  ·rw [zv (apU (old c hc))]
   exact (hf c hc).1
 done:=by
  intro X hP hw hK hc i pins s σ H E I hf st hg
  subst hP hw hK
  obtain⟨xs,ys,hq,hp,hx⟩:=hg
  obtain⟨its,rv,p,_⟩:=I.list hq
  obtain⟨its',rv',p',_⟩:=I.list hp
  obtain⟨s1,s2,⟨u0,v0,s3⟩,s4,s5⟩:=st
  have hl:=rv.length
  have hl':=rv'.length
  exact wpAny_pyNext_zip_end (I.ok.hd hc) D s1 s2 s3 s4 s5 p.isList p'.isList (hx.imp (fun h=>by simp;omega) fun h=>by simp;omega) fun h' eb=>⟨rfl,I.turnedAll (t':=s.toks) hf fun c o hb e'=>eb c o (fun z=>hb (by simp [z])) (fun z=>hb (by simp [z])) (fun z=>hb (by simp [z])) (fun z=>hb (by simp [z])) e'⟩
 self:=fun _ _ _ _ _ st h=>wpAny_pyIter_zip st.1 h
section
variable {X:Cx} {es:List Expr} {k:Nat} {tpos:Pos}
noncomputable def amU (K:apj) (ta:TA):TI:=fun σ H R=>ta σ H fun vs H1=>∃ a b,vs=[.ref a,.ref b]/\(∃ xs,SqL K H1 a xs)/\(∃ ys,SqL K H1 b ys)/\R (Itz K a b) H1
theorem amV {a b:Expr} {ta:TA} {p pos:Pos} (hg:Gl X "zip") (hm:X.mg "zip"=none) (ha:PA X [a,b] ta) (hs:starEach [a,b] X.env=(false,eval a X.env) :: starEach [b] X.env:=by rfl) (hl:(backTo pos (starEach [b] X.env)).any (·.1)=false:=by rfl):PI X (.Tuple es k tpos) (.Call (.Name "zip" p) [a,b] [] pos) (amU X.K ta):=by
 intro pins s σ H R I h
 refine Call_ (vw I hg hm boot_zip (aqE (thn (ha pos pins s σ H _ I h) fun us s1 ⟨vs,H1,I1,r1,q1⟩=>?_) hs hl))
 obtain⟨l,l',e,⟨xs,hq⟩,⟨ys,hp⟩,q⟩:=q1
 subst e
 cases r1 with
 | cons r rr =>
  cases rr with
  | cons r' rr' =>
   cases rr'
   cases r
   cases r'
   obtain⟨its,rv,p,_⟩:=I1.list hq
   obtain⟨its',rv',p',_⟩:=I1.list hp
   obtain⟨o1,e1,_⟩:=id p.isList
   obtain⟨o2,e2,_⟩:=id p'.isList
   refine call_zip_2 p.isList p'.isList fun h' n1 n2 n3 n4 n5 hsz kp=>?_
   refine wpAny_pyIter_zip n1 ?_
   refine⟨_,[s1.heap.objs.size+4,s1.heap.objs.size+2,s1.heap.objs.size+3,s1.heap.objs.size,s1.heap.objs.size+1],_,_,H1,rfl,I1.kept (t':=s1.toks) kp,aiZ l l' _ _ _ _ _ (zipApart_new (apw e1) (apw e2)),⟨n1,n2,⟨_,_,n3⟩,n4,n5⟩,fun c hc=>?_,q⟩
   have hle:s1.heap.objs.size<=c:=by
    simp only [apq,ap0,or_false] at hc
    rcases hc with rfl | rfl | rfl | rfl | rfl <;> omega
   exact I1.fpOk hle (I1.hok.fresh hle)
theorem ago {K:apj} {a b:Expr} {ta:TA} {p pos:Pos} (hK:X.K=K) (hg:Gl X "zip") (hm:X.mg "zip"=none) (ha:PA X [a,b] ta) (hs:starEach [a,b] X.env=(false,eval a X.env) :: starEach [b] X.env:=by rfl) (hl:(backTo pos (starEach [b] X.env)).any (·.1)=false:=by rfl):PI X (.Tuple es k tpos) (.Call (.Name "zip" p) [a,b] [] pos) (amU K ta):=hK▸amV hg hm ha hs hl
end
end L2
end
section
namespace L2
open PySem PySem.Spec PyProof.Rows
open PySem.SeqAt
open PySem.AutoSeq1 (wpAny_loadPart')
noncomputable def ao9 (A:Around) (s:Shared) (y x:Value) (b:Bool):Prop :=
 ∀ (prog:Program) (w:World) (E:Value->Shared->Prop) (Q:Value->Shared->Prop),Q (.bool b) s->wpAny (model prog w) A (richCompare .GtE y x) Q E s
inductive Gex (A:Around) (s:Shared):List Value->List Value->Bool->Prop where
 | nn:Gex A s [] [] true
 | eq {v w vs ws b}:EqAt A s v w true->Gex A s vs ws b->Gex A s (v :: vs) (w :: ws) b
 | ge {v w vs ws b}:EqAt A s v w false->ao9 A s v w b->vs.length=ws.length->Gex A s (v :: vs) (w :: ws) b
noncomputable def apa (o:Obj):Option Value:=match o.data with
 | .fields vs=>vs[2]?
 | _=>none
local macro_rules | `(tactic| walk_at "kd")=>`(tactic| with_reducible first
  | assumption
  | exact kd_pure _
  | exact kd_uns _
  | exact kd_load _
  | exact kd_loadPart _ _
  | exact kd_stack
  | exact kd_alloc _
  | exact kd_reg _
  | apply kd_ite
  | apply kd_bind
  | intro _
  | split)
noncomputable def Dct (a:Addr) (o:Option Addr) (h:Heap):Prop:=∃ u,h.get? a=some u/\apa u=some .none/\∀ dx,o=some dx->u.dict=some dx
noncomputable def CXf (P:Program) (w:World):CXT:=fun outer H s E e s'=>∃ a C o H',e=.ref a/\XLie P w outer H s a C H' s'/\Dct a o s'.heap/\E C o H'
noncomputable def alJ (a:Addr) (C:Value) (o:Option Addr) (h:Heap):Prop:=∃ t,h.get? a=some { cls:=C,dict:=o,data:=.fields #[.ref t,.none,.none,.none,.bool false,.none] }
end L2
end
section
namespace L2
open PySem PySem.Spec PyProof.Rows PySem.Builtin Builtin Builtin.ObjectAttr
noncomputable def ai0 (K:apj) (C f:Addr) (bmB:List Value) (newId:String):Bool :=
 match K.lookup C with
 | some ⟨c0,_,.cls cd,sl⟩=>c0 == .type "type" && cd.mro.head? == some (.ref C) && cd.hasDel == false && cd.hasDict && PySem.W.tailIn K bmB cd.mro.tail && PySem.W.nsOkIn K cd.ns && aqc K cd.ns "__init__" == some (some (.ref f))
   && sl.toList.length == 6 && sl.toList[4]? == some (some (.builtin newId))
 | _=>false
structure XCls (h:Heap) (C f:Addr) (bmB:List Value) (newId:String):Prop where
 ex:∃ nm q N bs bm sn sub ab col dd k0 k1 k2 k3 k5 mN,h.get? C=some (excClassObj nm q C N bs bm true sn sub ab col dd k0 k1 k2 k3 k5 newId)/\h.Ns N mN/\mN "__init__"=some (.ref f)/\OwnTail h bmB bm
end L2
end
section
namespace L2
open PySem PySem.Spec PySem.W PyProof.Rows PySem.Calls PySem.Builtin Builtin Builtin.ObjectAttr
noncomputable abbrev bare (C:Addr) (o:Option Addr) (t:Addr):Obj:={ cls:=.ref C,dict:=o,data:=.fields #[.ref t,.none,.none,.none,.bool false,.none] }
noncomputable abbrev bmV:List Value:=[.type "ValueError",.type "Exception",.type "BaseException",.type "object"]
structure FldC (K:apj) (C f D:Addr) (name:Str):Prop where
 wi:ai0 K C f bmV "ValueError.__new__"=true
 fn:PySem.W.typeIn K (.ref f)=some (.type "function")
 ob:PySem.W.mroIn K C (.type "object")=some true
 sa:arp K (.ref C) "__setattr__"=some (some (.builtin "object.__setattr__"))
 na:arp K (.ref C) name=some none
 rd:PySem.W.readsIn K D (.type "type")=true
 sp:asG K (.ref D) "__getattribute__"=some (some (.builtin "type.__getattribute__"))
 kp:aqo K (.ref C)=true
 fi:PySem.W.findCls K (.ref D) (.type "type") "__init__"=some (.val (.builtin "ValueError.__init__"))
section
variable {X:Cx} {pins:List (Addr×Obj)} {σ:St} {H H':Hp} {s s':Shared} {h':Heap} {a b dx C D f:Addr} {o:HO} {t':Nat} {name:Str}
noncomputable def amW (C:Addr) (name:Str):Sp:=fun vs H Q _=>∃ a y,vs=[.ref a,y]/\H a=some (.ext (alJ a (.ref C) none))/\∀ dx,H dx=none->dx≠a->Q .non (upd (upd H dx (.xd [(name,y)])) a (.ext (alJ a (.ref C) (some dx))))
end
end L2
end
section
namespace L2
open PySem PySem.Spec PyProof.Rows
end L2
end
section
namespace L2
open PySem PySem.Spec PySem.W PyProof.Rows PySem.Calls PySem.Builtin Builtin Builtin.ObjectAttr Builtin.Getset_descriptor
noncomputable abbrev XD:=Option (Str×PyData)
structure FnInF (P:Program) (w:World) (K:apj) (mg:Str->Option Value) (base:Heap) (k:Nat) (x:Str) (ps:List Str) (sp:Sp):Prop where
 ex:∃ (f:Addr) (fd:FuncData),FnOk P w K mg base (CXf P w) k f fd ps sp/\mg x=some (.ref f)/\aqo K (.ref f)=true/\Binds K fd ps []
structure FCls (K:apj) (mg:Str->Option Value) (x base:Str) (C:Addr) (name:Str) (st:Stmt) (ps:List Str):Prop where
 ex:∃ (f D:Addr) (fd:FuncData),FldC K C f D name/\mg x=some (.ref C)/\mg base=some (.ref D)/\Fun K "__init__" (x ++ ".__init__") st f fd/\Binds K fd ps []
structure InitOk (P:Program) (w:World) (K:apj) (mg:Str->Option Value) (base:Heap) (k:Nat) (C:Addr) (name:Str):Prop where
 ex:∃ (f D:Addr) (fd:FuncData) (ps:List Str),FldC K C f D name/\FnOk P w K mg base CX0 k f fd ps (amW C name)/\Binds K fd ps []
theorem Reps.set {K:apj} {H:Hp}:∀ {ds:List PyData} {xs:List V},Reps K H ds xs->∀ (n:Nat) {d:PyData} {x:V},Rep K H d x->Reps K H (ds.set n d) (xs.set n x)
 | [],xs,t,n,d,x,h=>by rw [reps_nil.mp t];exact .nil'
 | e :: ds,xs,t,n,d,x,h=>by
  obtain⟨y,r,rfl,h2,h3⟩:=reps_cons.mp t
  cases n with
  | zero=>exact .cons' h h3
  | succ n=>exact .cons' h2 (Reps.set h3 n h)
theorem alK {K:apj} {f:Fx} {ρ:zr} {D:DEnds} {tt:TT} {ts tu:TS} (p:Prop) [Decidable p] (h:PTd K f tt ρ fun b=>b=decide p) (h1:p->PSd K f ts ρ D) (h2:¬ p->PSd K f tu ρ D):PSd K f (ah1 tt ts tu) ρ D:=acQ fun σ H Q e q=>h σ H Q e fun b H' g z=>q b H' g (by
 subst z
 by_cases hp:p
 ·rw [decide_eq_true hp,if_pos rfl];exact h1 hp
 ·rw [decide_eq_false hp,if_neg apk];exact h2 hp)
section
variable {w:World} {K:apj} {f:Fx} {Ds:List Addr} {ts:TS} {te tk:TE} {ρ:zr} {cs:List OC} {O:MEnds} {i j n:Nat}
theorem vR {P:PyData->Prop} (h:PEd K f te (ρ.map (freed f.M.length cs)) fun d=>∃ i,d=.int i/\P (.int i)):PEm w K f Ds te ρ cs P:=fun se σ H H2 Q x q =>
 h σ H Q (x.free se) fun d v H' g r ⟨i,ed,p⟩=>by
  subst ed
  exact q (.int i) v H' (acs se x g) (rep_int.mpr (rep_int.mp r)) p
theorem alL (h:PEm w K f Ds te ρ cs fun d=>O.nx (ρ.set n (some (.dat d))) cs):PSm w K f Ds (jD te (yG n)) ρ cs O:=fun se σ H H2 E x nn r b k =>
 h se σ H H2 _ x fun d v H1 g1 r1 p1=>by
  have x1:=x.go g1 (x.env.mono g1)
  exact nn _ cs _ H1 ⟨x1.env.set n (x:=.dat d) r1,x1.sm,x1.kp,x1.len,x1.own⟩ p1
theorem afi {es:List PyData} (hi:ρ[i]?=some (some (.own (f.M.length+j)))) (hc:cs[j]?=some (.lst es)) (h:PEm w K f Ds te ρ cs fun d=>PEm w K f Ds tk ρ cs fun y=>∃ k q,y=.int k/\ixN es.length k=some q/\O.nx ρ (cs.set j (.lst (es.set q d)))) :
  PSm w K f Ds (jD te (acH (yj i) tk aat)) ρ cs O:=fun se σ H H2 E x n r b k=>by
 have hj:j<Ds.length:=by rw [<-x.len];exact (apm.mp hc).1
 have hD:Ds[j]?=some Ds[j]:=aph hj
 refine h se σ H H2 _ x fun d v H1 g1 r1 p1=>?_
 have x1:=x.go g1 (x.env.mono g1)
 refine⟨_,jj hi x1 hD,?_⟩
 refine p1 se σ H1 H2 _ x1 fun y u H3 g3 r3 ⟨k,q,ey,hq,p3⟩=>?_
 subst ey
 have x3:=x1.go g3 (x1.env.mono g3)
 obtain⟨vs,h1,h2⟩:=x3.own j _ _ hD hc
 refine⟨_,vs,k,q,rfl,rep_int.mp r3,h1,by rw [h2.length];exact hq,n _ _ _ _ (x3.put se hD (o:=.lst (vs.set q v)) (c':=.lst (es.set q d)) ⟨vs.set q v,zw,Reps.set h2 q (Rep.mono g3.1 d v r1)⟩) p3⟩
end
structure RoomM (k:Nat) (A:Around):Prop where
 dp:A.depth+3 * k+5<recursionLimit
 un:A.units+16 * k+200<cLine
structure FnOkM (P:Program) (w:World) (K:apj) (mg:Str->Option Value) (base:Heap) (k:Nat) (f:Addr) (fd:FuncData) (ps:List Str) (sp:Addr->Sp):Prop where
 len:∀ a vs H Q E,sp a vs H Q E->vs.length=ps.length
 run:∀ (A:Around) (outer:List Env) (s:Shared) (H:Hp) (args:Args) (us:List Value) (vs:List V) (Q:VK) (a:Addr),A.handled=some (.ref a)->RoomM k A->Env0 P w K mg base A outer s H->BindsTo s fd args (ps.zip us)->Vals vs us->sp a vs H Q E0 ->
  codeAny (model P w) A (.call (.ref f) args) (CR CX0 outer P w H s Q E0) s
structure FnInM (P:Program) (w:World) (K:apj) (mg:Str->Option Value) (base:Heap) (k:Nat) (x:Str) (ps:List Str) (sp:Addr->Sp):Prop where
 ex:∃ (f:Addr) (fd:FuncData),FnOkM P w K mg base k f fd ps sp/\mg x=some (.ref f)/\aqo K (.ref f)=true/\Binds K fd ps []
structure TN (K:apj) (f:Fx) (a:Addr) (as:List Addr) (H2:Hp) (ρ:zr) (R:Option (List (List Int))) (σ:St) (H:Hp):Prop where
 env:EnvOk K (f.withs (a :: as)) ρ σ H
 sm:Same (hide H2 (f.withs (a :: as))) (hide H (f.withs (a :: as)))
 kp:∀ b∈f.M,H b=H2 b
 tab:∀ rows,R=some rows->TabAt H a as rows
section
variable {K:apj} {f:Fx} {a:Addr} {as:List Addr} {ρ ρ2:zr} {rows:List (List Int)} {R:Option (List (List Int))} {O:zr->Option (List (List Int))->Prop} {ts tu:TS} {tt:TT} {te ty tx:TE} {i:Nat} {σ σ2:St} {H H' H2:Hp}
theorem q9:(f.withs (a :: as)).M.reverse=f.M.reverse++a :: as:=by
 show ((a :: as).reverse++f.M).reverse=_
 rw [arn,arN]
theorem TN.at (x:TN K f a as H2 ρ R σ H) (hi:ρ[i]?=some (some (.own f.M.length))):σ[i]?=some (some (.ref a)):=by
 obtain⟨v,a1,p,a2,rfl⟩:=x.env.get i _ hi
 rw [q9,apz (by simp)] at a2
 simp at a2
 rw [a2]
 exact a1
theorem TN.fok (x:TN K f a as H2 ρ R σ H):FOk f H:=⟨x.env.fd.fd,fun b hb=>x.env.fd.mm b (apy _ hb),fun p e hp=>x.env.fd.nm p e (apy _ hp)⟩
theorem TN.out (x:TN K f a as H2 ρ R σ H):EnvOk K f (ρ.map (ji f.M.length)) σ H:=by
 refine⟨by rw [api];exact x.env.len,fun q z hz=>?_,x.fok⟩
 rw [apt] at hz
 cases e0:ρ[q]? with
 | none=>rw [e0] at hz;cases hz
 | some z0 =>
  rw [e0] at hz
  cases z0 with
  | none=>cases hz
  | some z0 =>
   obtain⟨v,a1,a2⟩:=x.env.get q z0 e0
   cases z0 with
   | dat d=>cases hz;exact⟨v,a1,Rep.mono same_withs d v a2⟩
   | feed=>cases hz;exact⟨v,a1,a2⟩
   | exc C=>cases hz;obtain⟨b,h3,h4⟩:=a2;exact⟨v,a1,b,h3,same_withs _ _ h4⟩
   | mon φ=>cases hz;exact⟨v,a1,fun H' s=>a2 H' (same_withs.trans s)⟩
   | own k =>
    have hz':(if k<f.M.length then some (DV.own k) else none)=some z:=Option.some.inj hz
    by_cases hk:k<f.M.length
    ·rw [if_pos hk] at hz'
     cases hz'
     obtain⟨b,h3,h4⟩:=a2
     refine⟨v,a1,b,?_,h4⟩
     rw [q9,apx (by simpa using hk)] at h3
     exact h3
    ·rw [if_neg hk] at hz'
     cases hz'
theorem amX (se:Sep f (a :: as)):∀ D∈a :: as,¬ (f.f=some D \/ D∈f.M):=fun D hD z=>z.elim (se.nf D hD) (se.nm D hD)
end
end L2
end
section
namespace L2
open PySem PySem.Spec PyProof.Rows
structure GoesW (f:Fx) (As:List Addr) (H2 H':Hp):Prop where
 sm:Same (hide H2 (f.withs As)) (hide H' f)
 ok:FOk f H'
 kp:∀ b∈f.M,H' b=H2 b
structure FnAt (P:Program) (w:World) (K:apj) (mg:Str->Option Value) (base:Heap) (CX:CXT) (k:Nat) (a:Addr) (sp:Sp):Prop where
 ex:∃ (fd:FuncData) (ps:List Str),FnOk P w K mg base CX k a fd ps sp/\aqo K (.ref a)=true/\Binds K fd ps []
end L2
end
section
namespace L2
open PySem PySem.Spec PyProof.Rows
end L2
end
section
namespace L2
open PySem PySem.Spec PyProof.Rows
noncomputable def afj (ds es:List PyData):List PyData:=List.zipWith (fun d e=>.tuple [d,e]) ds es
section
variable {K:apj} {f:Fx} {ρ:zr} {t:TA} {R:List PyData->Prop}
theorem alM (h:PAd K f t ρ fun xs=>∃ ds es,xs=[.dat (.list ds),.dat (.list es)]/\R (afj ds es)):PId K f (amU K t) ρ R:=fun σ H C e q=>h σ H _ e fun xs vs H1 g1 r1 ⟨ds,es,ex,p⟩=>by
 subst ex
 cases r1 with
 | cons rx r' =>
  cases r' with
  | cons ry r'' =>
   cases r''
   obtain⟨a,xs,rfl,h1,h2⟩:=rep_list.mp rx
   obtain⟨b,ys,rfl,k1,k2⟩:=rep_list.mp ry
   have l1:=h2.length
   have l2:=k2.length
   refine⟨a,b,rfl,⟨xs,(zi _ _).seq h1⟩,⟨ys,(zi _ _).seq k1⟩,q (afj ds es) _ H1 g1 ⟨fun f' H' i d fo sm hd=>?_,fun f' H' _ sm=>⟨xs,ys,(zi _ _).seq (sm.seq h1),(zi _ _).seq (sm.seq k1),?_⟩⟩ p⟩
   ·unfold afj at hd
    rw [atc] at hd
    cases e1:ds[i]? with
    | none=>rw [e1] at hd;cases hd
    | some d1 =>
     cases e2:es[i]? with
     | none=>rw [e1,e2] at hd;cases hd
     | some d2 =>
      rw [e1,e2] at hd
      cases hd
      obtain⟨z1,hz1,rz1⟩:=h2.get e1
      obtain⟨z2,hz2,rz2⟩:=k2.get e2
      have s1:SqL K H' a xs:=(zi _ _).seq (sm.seq h1)
      have s2:SqL K H' b ys:=(zi _ _).seq (sm.seq k1)
      refine⟨⟨xs,ys,z1,z2,s1,s2,hz1,hz2⟩,fun x H3 hy=>?_⟩
      obtain⟨tp,y1,y2,rfl,hn,rfl,hy1,hy2⟩:=hy
      have q1:=hy1 xs s1
      rw [hz1] at q1
      cases q1
      have q2:=hy2 ys s2
      rw [hz2] at q2
      cases q2
      have gn:Goes f' H' (upd H' tp (.tup [z1,z2])):=.of_same (yd hn _) fo
      exact⟨gn,rep_tuple.mpr ⟨tp,_,rfl,.of (zz (fresh_ne fo hn) zw),.cons' (Rep.mono gn.1 _ _ (Rep.mono sm _ _ rz1)) (.cons' (Rep.mono gn.1 _ _ (Rep.mono sm _ _ rz2)) .nil')⟩⟩
   ·unfold afj
    rw [List.length_zipWith]
    omega
end
structure Src (prog:Program) (w:World) (j:Addr) (xs:Array Value) (dep:List Addr) (St:Nat->Heap->Prop):Prop where
 own:j∈dep
 keep:∀ {k:Nat} {h h':Heap},St k h->(∀ c∈dep,∀ o,h.get? c=some o->h'.get? c=some o)->St k h'
 there:∀ {k:Nat} {h:Heap},St k h->∃ o,h.get? j=some o
 item:∀ {A:Around} {E:Value->Shared->Prop} {s:Shared} {k:Nat} {x:Value} {Q:Value->Shared->Prop},St k s.heap->xs[k]?=some x->(∀ h',St (k+1) h'->aq2 j s.heap h'->Q x { s with heap:=h' })->wpAny (model prog w) A (aqt (.ref j)) Q E s
 stop:∀ {A:Around} {E:Value->Shared->Prop} {s:Shared} {k:Nat} {Q:Value->Shared->Prop},A.handled=none->St k s.heap->xs[k]?=none->(∀ h' e,Heap.ExtBut j s.heap h'->(∃ o,h'.get? e=some o/\o.cls=.type "StopIteration")->E (.ref e) { s with heap:=h' })->wpAny (model prog w) A (aqt (.ref j)) Q E s
section
variable {prog:Program} {w:World} {A:Around} {E:Value->Shared->Prop} {s:Shared}
structure Far (z q1 q2 j1 j2:Addr) (e1 e2:List Addr):Prop where
 q1z:q1≠z
 q2z:q2≠z
 q12:q1≠q2
 j12:j1≠j2
 q1j1:q1≠j1
 q1j2:q1≠j2
 z1:z∉e1
 z2:z∉e2
 o1:q2∉e1
 o2:q2∉e2
 d12:j2∉e1
 d21:j1∉e2
end
end L2
end
section
namespace L2
open PySem PySem.Spec PyProof.Rows
end L2
end
section
namespace L2
open PySem PySem.Spec PyProof.Rows
section
variable {w:World} {K:apj} {f:Fx} {Ds:List Addr} {ρ:zr} {cs:List OC} {te:TE} {O:MEnds} {i j n:Nat} {kvs:List (PyData×PyData)}
noncomputable def abx (w:World) (K:apj) (n:Nat) (cs:List OC):Option DV->Option DV
 | some (.own k)=>if k<n then some (.own k) else match cs[k - n]? with
  | some (.lst es)=>some (.dat (.list es))
  | some (.dic kvs)=>some (.mon (aaK w K kvs))
  | _=>none
 | x=>x
theorem CM.freeD {σ:St} {H H2:Hp} (se:Sep f Ds) (x:CM w K f Ds H2 ρ cs σ H):EnvOk K f (ρ.map (abx w K f.M.length cs)) σ H:=by
 have e0:=x.free se
 refine⟨by rw [api];exact x.env.len,fun q z hz=>?_,e0.fd⟩
 rw [apt] at hz
 cases e:ρ[q]? with
 | none=>rw [e] at hz;cases hz
 | some z0 =>
  rw [e] at hz
  have old:∀ z',freed f.M.length cs z0=some z'->∃ v,σ[q]?=some (some v)/\RepV K f H z' v:=fun z' h=>e0.get q z' (by rw [apt,e];exact congrArg some h)
  cases z0 with
  | none=>cases hz
  | some z0 =>
   cases z0 with
   | dat d=>cases hz;exact old _ rfl
   | feed=>cases hz;exact old _ rfl
   | exc C=>cases hz;exact old _ rfl
   | mon φ=>cases hz;exact old _ rfl
   | own k =>
    have hz':(if k<f.M.length then some (DV.own k) else match cs[k - f.M.length]? with | some (.lst es)=>some (.dat (.list es)) | some (.dic kvs)=>some (.mon (aaK w K kvs)) | _=>none)=some z:=Option.some.inj hz
    have hold:freed f.M.length cs (some (.own k))=(if k<f.M.length then some (DV.own k) else match cs[k - f.M.length]? with | some (.lst es)=>some (.dat (.list es)) | _=>none):=rfl
    by_cases hk:k<f.M.length
    ·rw [if_pos hk] at hz' hold
     cases hz'
     exact old _ hold
    ·rw [if_neg hk] at hz' hold
     cases ec:cs[k - f.M.length]? with
     | none=>rw [ec] at hz';cases hz'
     | some c =>
      rw [ec] at hz' hold
      cases c with
      | lst es=>cases hz';exact old _ hold
      | set ks=>cases hz'
      | dic kvs =>
       cases hz'
       obtain⟨v,a1,b,h3,h4⟩:=x.env.get q _ e
       subst h4
       have h3':(Ds.reverse++f.M).reverse[k]?=some b:=h3
       rw [arn,arN,apz (by simpa using atw.mp hk),atr] at h3'
       obtain⟨xs,h5,h6⟩:=x.own _ _ _ h3' ec
       have hb:=apv h3'
       exact⟨_,a1,fun H' s=>⟨b,xs,rfl,s b _ (zz (fun z=>z.elim (se.nf b hb) (se.nm b hb)) h5),EntR.mono (same_withs.trans s) h6⟩⟩
end
section
variable {K:apj} {f:Fx} {ρ:zr} {R:List DV->Prop} {i j m n:Nat} {d0 d1 d2 d3:PyData}
theorem aaL (h0:ρ[i]?=some (some (.dat d0))) (h:R [.dat d0]):PAd K f (yb (yj i) jz) ρ R:=zq (ze h0 (zU h))
theorem aak (h0:ρ[i]?=some (some (.dat d0))) (h1:ρ[j]?=some (some (.dat d1))) (h:R [.dat d0,.dat d1]):PAd K f (yb (yj i) (yb (yj j) jz)) ρ R:=zq (ze h0 (aaL h1 h))
theorem aaM (h0:ρ[i]?=some (some (.dat d0))) (h1:ρ[j]?=some (some (.dat d1))) (h2:ρ[m]?=some (some (.dat d2))) (h:R [.dat d0,.dat d1,.dat d2]):PAd K f (yb (yj i) (yb (yj j) (yb (yj m) jz))) ρ R:=zq (ze h0 (aak h1 h2 h))
theorem apb (h0:ρ[i]?=some (some (.dat d0))) (h1:ρ[j]?=some (some (.dat d1))) (h2:ρ[m]?=some (some (.dat d2))) (h3:ρ[n]?=some (some (.dat d3))) (h:R [.dat d0,.dat d1,.dat d2,.dat d3]):PAd K f (yb (yj i) (yb (yj j) (yb (yj m) (yb (yj n) jz)))) ρ R:=zq (ze h0 (aaM h1 h2 h3 h))
end
section
variable {w:World} {K:apj} {f:Fx} {Ds:List Addr} {ts:TS} {ρ:zr} {cs:List OC} {O:MEnds} {i:Nat}
theorem akC (h:PSd K f ts (ρ.map (abx w K f.M.length cs)) { nx:=fun _=>False,rt:=O.rt }):PSm w K f Ds ts ρ cs O:=fun se σ H H2 E x n r b k =>
 h σ H E (x.freeD se) (fun _ _ _ _ _ z=>z.elim) (fun d v H' g' r' p=>r d v ρ cs σ H' (x.goF se g') r' p) (fun _ _ _ _ _ z=>z.elim) (fun _ _ _ _ _ z=>z.elim)
end
theorem vS {α β:Type} {F:α->β} {l:List β} {m:List α} (h:l.Perm (m.map F)):∃ m':List α,m'.Perm m/\l=m'.map F:=by
 generalize e:m.map F=k at h
 induction h generalizing m with
 | nil=>exact⟨m,.refl _,e.symm⟩
 | cons x _ ih =>
  cases m with
  | nil=>cases e
  | cons a m =>
   injection e with e1 e2
   obtain⟨m',p,r⟩:=ih e2
   exact⟨a :: m',p.cons a,by rw [apT,e1,r]⟩
 | swap x y l =>
  cases m with
  | nil=>cases e
  | cons a m =>
   cases m with
   | nil=>injection e with _ e;cases e
   | cons b m =>
    injection e with e1 e2
    injection e2 with e2 e3
    exact⟨b :: a :: m,.swap a b m,by rw [apT,apT,e1,e2,e3]⟩
 | trans _ _ ih1 ih2 =>
  obtain⟨m',p,r⟩:=ih2 e
  obtain⟨m'',p',r'⟩:=ih1 r.symm
  exact⟨m'',p'.trans p,r'⟩
noncomputable abbrev FD (K:apj) (x:Str) (st:Stmt) (f:Addr) (od an:Option Addr) (sl:Array (Option Value)) (oc kV dc pm cd ct:Value):Prop:=aqc K mainGlobals x=some (some (.ref f))/\K.lookup f=some ⟨oc,od,.func (aqx x x (jf st) (yC st) (zk st) .none kV dc pm an cd ct),sl⟩/\asy K cd x=true/\aqo K (.ref f)=true
theorem akD {K:apj} {h:Heap} {mg:Str->Option Value} {x:Str} {st:Stmt} {f:Addr} {od an:Option Addr} {sl:Array (Option Value)} {oc kV dc pm cd ct:Value} (X:K.In h) (G:h.Ns mainGlobals mg) (a:FD K x st f od an sl oc kV dc pm cd ct) {ps:List Str}
  (hb:∀ (kV doc pm:Value) (an:Option Addr) (cdv ct:Value) (us:List Value),us.length=ps.length->bindArgs (aqx x x (jf st) (yC st) (zk st) .none kV doc pm an cdv ct) ⟨us,[]⟩=pure (ps.zip us)):Def K mg x st ps :=
 ⟨f,_,ae2 a.2.1 a.2.2.1 a.2.2.2,(ae2 (st:=st) a.2.1 a.2.2.1 a.2.2.2).binds hb,arH X G a.1⟩
noncomputable def PAm (w:World) (K:apj) (f:Fx) (Ds:List Addr) (t:TA) (ρ:zr) (cs:List OC) (R:List DV->Prop):Prop:=Sep f Ds->∀ (σ:St) (H H2:Hp) (Q:List V->Hp->Prop),CM w K f Ds H2 ρ cs σ H->(∀ xs vs H',Goes (f.withs Ds) H H'->RepVs K (f.withs Ds) H' xs vs->R xs->Q vs H')->t σ H Q
section
variable {w:World} {K:apj} {f:Fx} {Ds:List Addr} {ρ:zr} {cs:List OC} {te tk:TE} {t:TA} {O:MEnds} {i j:Nat} {R:List DV->Prop} {P:PyData->Prop} {es:List PyData}
theorem ai1 (h:R []):PAm w K f Ds jz ρ cs R:=fun se σ H H2 Q x q=>q [] [] H (.refl x.env.fd) .nil h
theorem aaU (h:PEm w K f Ds te ρ cs fun d=>PAm w K f Ds t ρ cs fun xs=>R (.dat d :: xs)):PAm w K f Ds (yb te t) ρ cs R:=fun se σ H H2 Q x q =>
 h se σ H H2 _ x fun d v H1 g1 r1 p1=>p1 se σ H1 H2 _ (x.go g1 (x.env.mono g1)) fun xs vs H3 g3 r3 p3=>q (.dat d :: xs) (v :: vs) H3 (g1.trans g3) (.cons (RepV.mono (x:=.dat d) g3 r1) r3) p3
theorem aoo (hi:ρ[i]?=some (some (.own (f.M.length+j)))) (hc:cs[j]?=some (.lst es)) (h:PEm w K f Ds tk ρ cs fun y=>∃ k,y=.int k/\∃ d,atI es k=some d/\P d):PEm w K f Ds (tOp (aaG K) (yj i) tk) ρ cs P:=fun se σ H H2 Q x q=>by
 have hj:j<Ds.length:=by rw [<-x.len];exact (apm.mp hc).1
 have hD:Ds[j]?=some Ds[j]:=aph hj
 refine⟨_,jj hi x hD,?_⟩
 refine h se σ H H2 _ x fun y v H1 g1 r1 ⟨k,ey,d,hd,p⟩=>?_
 subst ey
 have x1:=x.go g1 (x.env.mono g1)
 obtain⟨vs,h1,h2⟩:=x1.own j _ _ hD hc
 have:∃ u,atI vs k=some u/\Rep K (hide H1 (f.withs Ds)) d u:=by
  unfold atI at hd ⊢
  rw [h2.length]
  cases e:ixN es.length k with
  | none=>rw [e] at hd;cases hd
  | some m =>
   rw [e] at hd
   exact h2.get hd
 obtain⟨u,hu,ru⟩:=this
 exact⟨Ds[j],vs,k,u,rfl,rep_int.mp r1,.inl (.inl h1),hu,q d u H1 g1 ru p⟩
theorem ai2 (h:PAm w K f Ds t ρ cs fun xs=>∃ ds,jO xs=some ds/\ds.length<=1000/\P (.tuple ds)):PEm w K f Ds (acI t) ρ cs P:=fun se σ H H2 Q x q =>
 h se σ H H2 _ x fun xs vs H1 g1 r1 ⟨ds,ea,hl,p⟩=>by
  have rs:=qy r1 ea
  refine⟨by rw [rs.length];exact aqj (zY hl),fun l hn=>?_⟩
  have g2:Goes (f.withs Ds) H1 (upd H1 l (.tup vs)):=.of_same (yd hn _) g1.2
  exact q (.tuple ds) _ _ (g1.trans g2) (rep_tuple.mpr ⟨l,vs,rfl,.of (zz (fresh_ne g1.2 hn) zw),Reps.mono g2.1 ds vs rs⟩) p
end
section
variable {w:World} {K:apj} {f:Fx} {Ds:List Addr} {ρ:zr} {cs:List OC} {O:MEnds} {i:Nat}
theorem aop {v k:Int} (hi:ρ[i]?=some (some (.dat (.int v)))):PTd K f (adP (tOp (ag4 K false) (yj i) (tC (.int k)))) ρ fun b=>b=decide (v=k) :=
 jh (qS (ze hi (zB ⟨rfl,rfl,by show min 0 0<=60;decide,_,rfl,rfl⟩)))
end
end L2
end
section
namespace L2
open PySem PySem.Spec PyProof.Rows
noncomputable def jx:Nat:=2 ^ 9000
theorem yU {n m:Nat} (h:n<2 ^ m) (hm:m<=9000):n<jx:=apF h (aqe (by decide) hm)
theorem acw {k:Int} (h:k.natAbs<jx):arW k<=9000:=by
 unfold arW
 split
 ·exact ap2 _
 ·have:k.natAbs.log2<9000:=by
   rcases Nat.eq_zero_or_pos k.natAbs with h0 | hp
   ·rw [h0];decide
   ·exact (atJ (aq3 hp)).mpr h
  omega
noncomputable def CMulH (i j:Int):Prop:=i.natAbs<jx/\j.natAbs<jx
theorem CMulH.ok {i j:Int} (h:CMulH i j):IntMulOk i j:=by
 have e1:=acw h.1
 have e2:=acw h.2
 have:atd ((arW i:Int)+(arW j:Int))=false:=by
  unfold atd
  refine decide_eq_false ?_
  have:(100000:Int)<=(bitsLine:Int):=by decide +kernel
  omega
 unfold IntMulOk
 rw [this,asz]
 exact apk
theorem zQ {X:Cx}:OpR X (binaryOp .Mult) (rI CMulH fun i j=>.int (i * j)):=opI fun _ _ _ _ _ _ _ hc q=>mul_int q hc.ok
noncomputable def aoq (_ j:Int):Prop:=j≠0/\j.natAbs<jx
theorem vT {X:Cx}:OpR X (binaryOp .FloorDiv) (rI aoq fun i j=>.int (i.fdiv j)):=opI fun i j _ _ _ _ _ hc q=>by
 obtain⟨h1,h2⟩:=hc
 refine floordiv_int h1 q (.inl (asM ?_))
 exact (atJ (by omega)).mpr h2
noncomputable def aal (q:Rat):PyData:=.tuple [.int q.num,.int (q.den:Nat)]
theorem aby {g t:Int} (h:g≠0):(g * t).fdiv g=t:=by
 rw [Int.mul_fdiv_cancel_left _ h]
theorem acx {t b:Int} (hb:b≠0):(t.fdiv (b.sign * (aqz t b:Int))=(apG t b).num)/\(b.fdiv (b.sign * (aqz t b:Int))=((apG t b).den:Int)):=by
 have gp:0<aqz t b:=asr t hb
 have g0:((aqz t b:Nat):Int)≠0:=by omega
 obtain⟨u,hu⟩:=Int.gcd_dvd_left t b
 obtain⟨v,hv⟩:=Int.gcd_dvd_right t b
 have ss:b.sign * b.sign=1:=by
  rcases asa b 0 with h | h | h
  ·rw [aqG h];rfl
  ·exact absurd h hb
  ·rw [aqH h];rfl
 have s0:b.sign * ((aqz t b:Nat):Int)≠0:=as8 (fun z=>by rw [z] at ss;cases ss) g0
 refine⟨?_,?_⟩
 ·rw [Rat.num_divInt,Int.gcd_comm b t]
  have e1:t=b.sign * ((aqz t b:Nat):Int) * (b.sign * u):=by
   rw [show b.sign * ((aqz t b:Nat):Int) * (b.sign * u)=(b.sign * b.sign) * (((aqz t b:Nat):Int) * u) by grind,ss,asH,<- hu]
  have e2:b.sign * t=((aqz t b:Nat):Int) * (b.sign * u):=by rw [show ((aqz t b:Nat):Int) * (b.sign * u)=b.sign * (((aqz t b:Nat):Int) * u) by grind,<- hu]
  rw [e2,asR _ g0]
  generalize hG:b.sign * ((aqz t b:Nat):Int)=G at *
  rw [e1]
  exact aby s0
 ·rw [Rat.den_divInt,if_neg hb,Int.gcd_comm b t]
  have e1:b=b.sign * ((aqz t b:Nat):Int) * (b.sign * v):=by
   rw [show b.sign * ((aqz t b:Nat):Int) * (b.sign * v)=(b.sign * b.sign) * (((aqz t b:Nat):Int) * v) by grind,ss,asH,<- hv]
  have e3:(b.natAbs:Int)=((aqz t b:Nat):Int) * (b.sign * v):=by
   rw [show ((aqz t b:Nat):Int) * (b.sign * v)=b.sign * (((aqz t b:Nat):Int) * v) by grind,<- hv]
   rcases asa b 0 with h | h | h
   ·rw [aqG h];omega
   ·exact absurd h hb
   ·rw [aqH h];omega
  rw [Int.natCast_ediv,e3,asR _ g0]
  have key:∀ G X:Int,G≠0->b=G * X->b.fdiv G=X:=fun G X h e=>by rw [e];exact aby h
  exact key _ _ s0 e1
theorem abz (t b:Int):(apG t b).num.natAbs<=t.natAbs:=by
 rw [Rat.num_divInt]
 refine apO (Int.natAbs_ediv_le_natAbs _ _) ?_
 rw [aq9]
 refine apO (Nat.mul_le_mul_right _ (show b.sign.natAbs<=1 from ?_)) (by rw [atL];exact apr _)
 rcases asa b 0 with h | h | h
 ·rw [aqG h];decide
 ·rw [h];decide
 ·rw [aqH h];decide
theorem abA {t b:Int} (h:b≠0):(apG t b).den<=b.natAbs:=by
 rw [Rat.den_divInt,if_neg h]
 exact Nat.div_le_self _ _
section
variable {K:apj} {f:Fx} {ρ:zr} {R:zr->Prop} {P:PyData->Prop} {i j m:Nat}
theorem aor {a b:PyData} (h:R ((ρ.set i (some (.dat a))).set j (some (.dat b)))):PGd K f (ah2 K 2 (aa4 (yG i) (aa4 (yG j) aj3))) (.tuple [a,b]) ρ R:=yD rfl (zt (zj (zt (zj (ya h)))))
theorem apc {a b c:PyData} (h:R (((ρ.set i (some (.dat a))).set j (some (.dat b))).set m (some (.dat c)))):PGd K f (ah2 K 3 (aa4 (yG i) (aa4 (yG j) (aa4 (yG m) aj3)))) (.tuple [a,b,c]) ρ R:=yD rfl (zt (zj (zt (zj (zt (zj (ya h)))))))
end
end L2
end
section
open PySem PySem.Spec PyProof.Rows
namespace L2
end L2
end
section
namespace L2
open PySem PySem.Spec PyProof.Rows
end L2
end
section
namespace L2
open PySem PySem.Spec PyProof.Rows
end L2
end
section
namespace L2
open PySem PySem.Spec PyProof.Rows
noncomputable abbrev jy (h:Heap) (T:Addr) (a b c:Value):Prop:=h.get? T=some { cls:=.type "tuple",data:=.seq #[a,b,c] }
section
variable {prog:Program} {w:World} {A:Around} {E:Value->Shared->Prop} {s:Shared} {n l1 l2 l3 i:Nat} {xs ys zs:Array Value} {x y v a b c:Value}
theorem aN {a b:Nat} (h:a≠b):@Ne Addr a b:=h
theorem adi {T:Addr} {k:Nat} {Q:Unit->Shared->Prop} (hT:jy s.heap T a b c) (h:∀ h',h'.get? T=some { cls:=.type "tuple",data:=.seq ((#[a,b,c]:Array Value).setIfInBounds k x) }->aq2 T s.heap h'->Q () { s with heap:=h' }):wpAny (model prog w) A (updateSeq T (·.setIfInBounds k x)) Q E s:=by
 refine wpAny_updateSeq hT rfl (h _ ?_ (arl ..))
 rw [ara _ hT rfl]
 simp [ar2]
theorem akE {Q:Value->Shared->Prop} (L1:l1<n) (L2:l2<n) (L3:l3<n) (hz:IsZip s.heap (n+5) (n+3) (n+4) .none) (hTI:jy s.heap (n+3) (.ref n) (.ref (n+1)) (.ref (n+2))) (hTO:jy s.heap (n+4) a b c)
  (h1:s.heap.IsListIter n l1 i) (h2:s.heap.IsListIter (n+1) l2 i) (h3:s.heap.IsListIter (n+2) l3 i) (k1:s.heap.IsList l1 xs) (k2:s.heap.IsList l2 ys) (k3:s.heap.IsList l3 zs) (hx:xs[i]?=some x) (hy:ys[i]?=some y) (hv:zs[i]?=some v)
  (q:∀ h',IsZip h' (n+5) (n+3) (n+4) (rawInt s.heap.objs.size)->jy h' (n+4) x y v->h'.IsListIter n l1 (i+1)->h'.IsListIter (n+1) l2 (i+1)->h'.IsListIter (n+2) l3 (i+1)->jy h' s.heap.objs.size x y v ->
   (∀ d o,d≠n+5->d≠n+4->d≠n->d≠n+1->d≠n+2->s.heap.get? d=some o->h'.get? d=some o)->Q (.ref s.heap.objs.size) { s with heap:=h' }) :
  wpAny (model prog w) A (Builtin.«zip.__next__» ⟨[.ref (n+5)],[]⟩) (fun fin s'=>∃ r,fin=.done (.ret r)/\Q r s') E s:=by
 show wpAny _ _ (field (.ref (n+5)) 2 >>= _) _ _ _
 refine wpAny_bind (wpAny_field hz rfl (x:=.bool false) rfl ?_)
 show wpAny _ _ (field (.ref (n+5)) 3 >>= _) _ _ _
 refine wpAny_bind (wpAny_field hz rfl (x:=.ref (n+3)) rfl (wpAny_bind (wpAny_seqItems hTI rfl ?_)))
 show wpAny _ _ (aqw (.ref (n+5)) >>= _) _ _ _
 refine wpAny_bind ?_
 unfold aqw
 refine wpAny_bind (wpAny_field hz rfl (x:=.none) rfl (wpAny_pure ?_))
 simp only [if_true]
 refine wpAny_bind (wpAny_rule (wpAny_bind (wpAny_field hz rfl (x:=.ref (n+4)) rfl ?_)))
 refine wpAny_bind (wpAny_setField_rec hz (by simp) fun g1 z1 e1=>?_)
 replace z1:IsZip g1 (n+5) (n+3) (n+4) .ellipsis:=z1
 refine wpAny_bind ?_
 simp only [List.zipIdx_cons,List.zipIdx_nil,aqK,aqT]
 refine wpAny_bind (wpAny_bind (wpAny_onRaise ?_))
 show wpAny _ _ (aqt (.ref n) >>= _) _ _ _
 refine wpAny_bind (wpAny_nextOf_list_item (h1.extBut e1.extBut (aN (by omega))) (k1.extBut e1.extBut (aN (by omega))) hx fun g2 i2 e2=>wpAny_pure ?_)
 have t2:jy g2 (n+4) a b c:=e2.extBut _ _ (aN (by omega)) (e1.extBut _ _ (aN (by omega)) hTO)
 refine wpAny_bind (wpAny_seqItems t2 rfl (wpAny_bind (adi t2 fun g3 t3 e3=>?_)))
 replace t3:jy g3 (n+4) x b c:=t3
 refine wpAny_bind (wpAny_letGo (wpAny_pure ?_))
 refine wpAny_bind (wpAny_bind (wpAny_onRaise ?_))
 show wpAny _ _ (aqt (.ref (n+1)) >>= _) _ _ _
 refine wpAny_bind (wpAny_nextOf_list_item (((h2.extBut e1.extBut (aN (by omega))).extBut e2.extBut (aN (by omega))).extBut e3.extBut (aN (by omega))) (((k2.extBut e1.extBut (aN (by omega))).extBut e2.extBut (aN (by omega))).extBut e3.extBut (aN (by omega))) hy fun g4 i4 e4=>wpAny_pure ?_)
 have t4:jy g4 (n+4) x b c:=e4.extBut _ _ (aN (by omega)) t3
 refine wpAny_bind (wpAny_seqItems t4 rfl (wpAny_bind (adi t4 fun g5 t5 e5=>?_)))
 replace t5:jy g5 (n+4) x y c:=t5
 refine wpAny_bind (wpAny_letGo (wpAny_pure ?_))
 refine wpAny_bind (wpAny_bind (wpAny_onRaise ?_))
 show wpAny _ _ (aqt (.ref (n+2)) >>= _) _ _ _
 have u5:∀ d o,d≠n+5->d≠n+4->d≠n->d≠n+1->s.heap.get? d=some o->g5.get? d=some o:=fun d o c1 c2 c3 c4 e =>
  e5.extBut _ _ c2 (e4.extBut _ _ c4 (e3.extBut _ _ c2 (e2.extBut _ _ c3 (e1.extBut _ _ c1 e))))
 refine wpAny_bind (wpAny_nextOf_list_item (h3.at fun o e=>u5 _ o (aN (by omega)) (aN (by omega)) (aN (by omega)) (aN (by omega)) e) (k3.at fun o e=>u5 _ o (aN (by omega)) (aN (by omega)) (aN (by omega)) (aN (by omega)) e) hv fun g6 i6 e6=>wpAny_pure ?_)
 have t6:jy g6 (n+4) x y c:=e6.extBut _ _ (aN (by omega)) t5
 refine wpAny_bind (wpAny_seqItems t6 rfl (wpAny_bind (adi t6 fun g7 t7 e7=>?_)))
 replace t7:jy g7 (n+4) x y v:=t7
 refine wpAny_bind (wpAny_letGo (wpAny_pure (wpAny_pure ?_)))
 refine wpAny_bind (wpAny_seqItems t7 rfl (wpAny_bind (wpAny_newTuple ?_)))
 have sz:g7.objs.size=s.heap.objs.size:=by rw [e7.1,e6.1,e5.1,e4.1,e3.1,e2.1,e1.1]
 have z7:IsZip g7 (n+5) (n+3) (n+4) .ellipsis:=e7.extBut _ _ (aN (by omega)) (e6.extBut _ _ (aN (by omega)) (e5.extBut _ _ (aN (by omega)) (e4.extBut _ _ (aN (by omega)) (e3.extBut _ _ (aN (by omega)) (e2.extBut _ _ (aN (by omega)) z1)))))
 have u7:∀ d o,d≠n+5->d≠n+4->d≠n->d≠n+1->d≠n+2->s.heap.get? d=some o->g7.get? d=some o:=fun d o c1 c2 c3 c4 c5 e=>e7.extBut _ _ c2 (e6.extBut _ _ c5 (u5 d o c1 c2 c3 c4 e))
 have j1:g7.IsListIter n l1 (i+1):=((((i2.extBut e3.extBut (aN (by omega))).extBut e4.extBut (aN (by omega))).extBut e5.extBut (aN (by omega))).extBut e6.extBut (aN (by omega))).extBut e7.extBut (aN (by omega))
 have j2:g7.IsListIter (n+1) l2 (i+1):=((i4.extBut e5.extBut (aN (by omega))).extBut e6.extBut (aN (by omega))).extBut e7.extBut (aN (by omega))
 have j3:g7.IsListIter (n+2) l3 (i+1):=i6.extBut e7.extBut (aN (by omega))
 have zlt:n+5<g7.objs.size:=apw z7
 show wpAny _ _ (arX (.ref (n+5)) (.ref g7.objs.size) >>= _) _ _ _
 refine wpAny_bind ?_
 unfold arX
 have z8:IsZip (g7.push { cls:=.type "tuple",data:=.seq #[x,y,v] }) (n+5) (n+3) (n+4) .ellipsis:=aps _ z7
 refine wpAny_bind (wpAny_setField_rec z8 (by simp) fun g9 z9 e9=>?_)
 replace z9:IsZip g9 (n+5) (n+3) (n+4) (rawInt g7.objs.size):=z9
 refine wpAny_setField_rec z9 (by simp) fun gA zA eA=>?_
 replace zA:IsZip gA (n+5) (n+3) (n+4) (rawInt g7.objs.size):=zA
 have up:∀ d o,d≠n+5->g7.get? d=some o->gA.get? d=some o:=fun d o c1 e=>eA.extBut _ _ c1 (e9.extBut _ _ c1 (aps _ e))
 have tA:jy gA g7.objs.size x y v:=eA.extBut _ _ (aq3 zlt) (e9.extBut _ _ (aq3 zlt) (apI _ rfl))
 rw [sz] at zA tA
 refine wpAny_pure ⟨_,rfl,?_⟩
 show Q (.ref g7.objs.size) _
 rw [sz]
 exact q gA zA (up _ _ (aN (by omega)) t7) (j1.at fun o e=>up _ o (aN (by omega)) e) (j2.at fun o e=>up _ o (aN (by omega)) e) (j3.at fun o e=>up _ o (aN (by omega)) e) tA fun d o c1 c2 c3 c4 c5 e=>up d o c1 (u7 d o c1 c2 c3 c4 c5 e)
theorem amY {Q:PySem.Fin->Shared->Prop} (hh:A.handled=none) (L1:l1<n) (hz:IsZip s.heap (n+5) (n+3) (n+4) .none) (hTI:jy s.heap (n+3) (.ref n) (.ref (n+1)) (.ref (n+2))) (h1:s.heap.IsListIter n l1 i) (k1:s.heap.IsList l1 xs) (hx:xs[i]?=none)
  (q:∀ h' e,(∀ d o,d≠n+5->d≠n->s.heap.get? d=some o->h'.get? d=some o)->(∃ o,h'.get? e=some o/\o.cls=.type "StopIteration")->E (.ref e) { s with heap:=h' }) :
  wpAny (model prog w) A (Builtin.«zip.__next__» ⟨[.ref (n+5)],[]⟩) Q E s:=by
 show wpAny _ _ (field (.ref (n+5)) 2 >>= _) _ _ _
 refine wpAny_bind (wpAny_field hz rfl (x:=.bool false) rfl ?_)
 show wpAny _ _ (field (.ref (n+5)) 3 >>= _) _ _ _
 refine wpAny_bind (wpAny_field hz rfl (x:=.ref (n+3)) rfl (wpAny_bind (wpAny_seqItems hTI rfl ?_)))
 show wpAny _ _ (aqw (.ref (n+5)) >>= _) _ _ _
 refine wpAny_bind ?_
 unfold aqw
 refine wpAny_bind (wpAny_field hz rfl (x:=.none) rfl (wpAny_pure ?_))
 simp only [if_true]
 refine wpAny_bind (wpAny_rule (wpAny_bind (wpAny_field hz rfl (x:=.ref (n+4)) rfl ?_)))
 refine wpAny_bind (wpAny_setField_rec hz (by simp) fun g1 z1 e1=>?_)
 replace z1:IsZip g1 (n+5) (n+3) (n+4) .ellipsis:=z1
 refine wpAny_bind ?_
 simp only [List.zipIdx_cons,List.zipIdx_nil,aqK,aqT]
 refine wpAny_bind (wpAny_bind (wpAny_onRaise ?_))
 show wpAny _ _ (aqt (.ref n) >>= _) _ _ _
 refine wpAny_bind (wpAny_nextOf_list_end hh (h1.extBut e1.extBut (aN (by omega))) (k1.extBut e1.extBut (aN (by omega))) hx fun g2 e e2 he=>?_)
 obtain⟨oe,hoe,hce⟩:=he
 have z2:IsZip g2 (n+5) (n+3) (n+4) .ellipsis:=e2 _ _ (aN (by omega)) z1
 have hez:e≠n+5:=fun z=>by subst z;rw [z2] at hoe;cases hoe;simp at hce
 exact wpAny_setField_rec z2 (by simp) fun g3 _ e3=>q g3 e (fun d o c1 c3 z=>e3.extBut _ _ c1 (e2 _ _ c3 (e1.extBut _ _ c1 z))) ⟨oe,e3.extBut _ _ hez hoe,hce⟩
noncomputable abbrev zA (h:Heap) (l:Addr):Heap:=h.push { cls:=.type "list_iterator",data:=.fields #[.ref l,.int 0 0] }
noncomputable abbrev zD (h:Heap) (l1 l2 l3:Addr):Heap:=(zA (zA (zA h l1) l2) l3).push { cls:=.type "tuple",data:=.seq #[.ref h.objs.size,.ref (zA h l1).objs.size,.ref (zA (zA h l1) l2).objs.size] }
noncomputable abbrev zE (h:Heap) (l1 l2 l3:Addr):Heap:=(zD h l1 l2 l3).push { cls:=.type "tuple",data:=.seq #[.none,.none,.none] }
noncomputable abbrev zF (h:Heap) (l1 l2 l3:Addr):Heap:=(zE h l1 l2 l3).push { cls:=.type "zip",data:=.fields #[.none,.bool false,.bool false,.ref (zA (zA (zA h l1) l2) l3).objs.size,.ref (zD h l1 l2 l3).objs.size] }
theorem amZ (l1 l2 l3:Addr) (xs ys zs:Array Value):Meets (Builtin.«zip.__new__» ⟨[.type "zip",.ref l1,.ref l2,.ref l3],[]⟩) (fun _ R s=>s.heap.IsList l1 xs/\s.heap.IsList l2 ys/\s.heap.IsList l3 zs/\R (.ok (.ret (.ref (zE s.heap l1 l2 l3).objs.size))) { s with heap:=zF s.heap l1 l2 l3 }) :=
 .of_wp fun prog w A R s h=>by
  obtain⟨hp,g,d,tk,os⟩:=s
  obtain⟨hl1,hl2,hl3,h⟩:=h
  have hsub:=sub_zip
  have hL1:atM (atN ⟨hp,g,d,tk,os⟩) l1 xs:=hl1
  have hL2:atM (atN ⟨zA hp l1,g,d,tk,os⟩) l2 ys:=asV hl2 _
  have hL3:atM (atN ⟨zA (zA hp l1) l2,g,d,tk,os⟩) l3 zs:=asV (asV hl3 _) _
  wp_walk using wpAny_pyIter_list hL1,wpAny_pyIter_list hL2,wpAny_pyIter_list hL3
  exact⟨_,rfl,h⟩
theorem aos (a b c:Value):checkTypeCall "zip" ⟨[a,b,c],[]⟩=pure ():=by kernel_rfl
theorem aot (a b c:Value):checkBuiltinCall "zip.__new__" ⟨[.type "zip",a,b,c],[]⟩=pure ():=by kernel_rfl
theorem aou (o a b c:Value):argsOk "object.__init__" ⟨[o,a,b,c],[]⟩:=by unfold argsOk;kernel_rfl
theorem akF {Q:Value->Shared->Prop} (k1:s.heap.IsList l1 xs) (k2:s.heap.IsList l2 ys) (k3:s.heap.IsList l3 zs)
  (h:∀ h',IsZip h' (s.heap.objs.size+5) (s.heap.objs.size+3) (s.heap.objs.size+4) .none->jy h' (s.heap.objs.size+3) (.ref s.heap.objs.size) (.ref (s.heap.objs.size+1)) (.ref (s.heap.objs.size+2))->jy h' (s.heap.objs.size+4) .none .none .none ->
    h'.IsListIter s.heap.objs.size l1 0->h'.IsListIter (s.heap.objs.size+1) l2 0->h'.IsListIter (s.heap.objs.size+2) l3 0->(∀ c o,s.heap.get? c=some o->h'.get? c=some o)->Q (.ref (s.heap.objs.size+5)) { s with heap:=h' }) :
  wpAny (model prog w) A (call (.type "zip") [.ref l1,.ref l2,.ref l3]) Q E s:=by
 refine callType_new F.called_zip (by decide) (aos _ _ _) (aot _ _ _) (fun obj=>aou obj _ _ _) F.entry_zip_new (amZ l1 l2 l3 xs ys zs) ⟨k1,k2,k3,?_⟩
 have y1:(zA s.heap l1).objs.size=s.heap.objs.size+1:=aqS ..
 have y2:(zA (zA s.heap l1) l2).objs.size=s.heap.objs.size+2:=by rw [aqS,y1]
 have y3:(zA (zA (zA s.heap l1) l2) l3).objs.size=s.heap.objs.size+3:=by rw [aqS,y2]
 have y4:(zD s.heap l1 l2 l3).objs.size=s.heap.objs.size+4:=by rw [aqS,y3]
 have y5:(zE s.heap l1 l2 l3).objs.size=s.heap.objs.size+5:=by rw [aqS,y4]
 have up1:∀ {c:Addr} {o:Obj},(zE s.heap l1 l2 l3).get? c=some o->(zF s.heap l1 l2 l3).get? c=some o:=fun e=>aps _ e
 have up2:∀ {c:Addr} {o:Obj},(zD s.heap l1 l2 l3).get? c=some o->(zF s.heap l1 l2 l3).get? c=some o:=fun e=>up1 (aps _ e)
 have up3:∀ {c:Addr} {o:Obj},(zA (zA (zA s.heap l1) l2) l3).get? c=some o->(zF s.heap l1 l2 l3).get? c=some o:=fun e=>up2 (aps _ e)
 have up4:∀ {c:Addr} {o:Obj},(zA (zA s.heap l1) l2).get? c=some o->(zF s.heap l1 l2 l3).get? c=some o:=fun e=>up3 (aps _ e)
 have up5:∀ {c:Addr} {o:Obj},(zA s.heap l1).get? c=some o->(zF s.heap l1 l2 l3).get? c=some o:=fun e=>up4 (aps _ e)
 have r6:(zF s.heap l1 l2 l3).get? (zE s.heap l1 l2 l3).objs.size=some _:=apI _ rfl
 have r5:(zF s.heap l1 l2 l3).get? (zD s.heap l1 l2 l3).objs.size=some _:=up1 (apI _ rfl)
 have r4:(zF s.heap l1 l2 l3).get? (zA (zA (zA s.heap l1) l2) l3).objs.size=some _:=up2 (apI _ rfl)
 have r3:(zF s.heap l1 l2 l3).get? (zA (zA s.heap l1) l2).objs.size=some _:=up3 (apI _ rfl)
 have r2:(zF s.heap l1 l2 l3).get? (zA s.heap l1).objs.size=some _:=up4 (apI _ rfl)
 have r1:(zF s.heap l1 l2 l3).get? s.heap.objs.size=some _:=up5 (apI _ rfl)
 show _/\_
 rw [y5,y3,y4] at r6
 rw [y4] at r5
 rw [y3,y1,y2] at r4
 rw [y2] at r3
 rw [y1] at r2
 rw [y5]
 exact⟨⟨_,r6,rfl⟩,h _ r6 r4 r5 ⟨_,r1,rfl,rfl⟩ ⟨_,r2,rfl,rfl⟩ ⟨_,r3,rfl,rfl⟩ fun c o e=>up5 (aps _ e)⟩
end
noncomputable def aov (K:apj) (a b c:Addr):It where
 go:=fun i H=>∃ xs ys zs x y z,SqL K H a xs/\SqL K H b ys/\SqL K H c zs/\xs[i]?=some x/\ys[i]?=some y/\zs[i]?=some z
 yld:=fun i H v H'=>∃ t x y z,v=.ref t/\H t=none/\H'=upd H t (.tup [x,y,z])/\(∀ xs,SqL K H a xs->xs[i]?=some x)/\(∀ ys,SqL K H b ys->ys[i]?=some y)/\∀ zs,SqL K H c zs->zs[i]?=some z
 stop:=fun i H=>∃ xs,SqL K H a xs/\xs.length<=i
theorem akG {P:Program} {w:World} {K:apj} {es:List Expr} {k:Nat} {pos:Pos} {a b c n:Addr} (La:a<n) (Lb:b<n) (Lc:c<n) :
  Turn P w K (.Tuple es k pos) (aov K a b c) [n+5,n+3,n+4,n,n+1,n+2] (n+5) (fun i h=>IsZip h (n+5) (n+3) (n+4) .none/\jy h (n+3) (.ref n) (.ref (n+1)) (.ref (n+2))/\(∃ u v t,jy h (n+4) u v t)/\h.IsListIter n a i/\h.IsListIter (n+1) b i/\h.IsListIter (n+2) c i) where
 mem:=by simp
 obj:=fun i h st x hx=>by
  obtain⟨s1,s2,⟨u,v,t,s3⟩,⟨o4,e4,_,d4⟩,⟨o5,e5,_,d5⟩,⟨o6,e6,_,d6⟩⟩:=st
  simp only [apq,ap0,or_false] at hx
  rcases hx with rfl | rfl | rfl | rfl | rfl | rfl
  ·exact⟨_,s1,fun y z=>by have z':Data.fields _=Data.cell y:=z;cases z'⟩
  ·exact⟨_,s2,fun y z=>by have z':Data.seq _=Data.cell y:=z;cases z'⟩
  ·exact⟨_,s3,fun y z=>by have z':Data.seq _=Data.cell y:=z;cases z'⟩
  ·exact⟨o4,e4,fun y z=>by rw [d4] at z;cases z⟩
  ·exact⟨o5,e5,fun y z=>by rw [d5] at z;cases z⟩
  ·exact⟨o6,e6,fun y z=>by rw [d6] at z;cases z⟩
 keep:=fun i h h' st kk=>by
  obtain⟨s1,s2,⟨u,v,t,s3⟩,s4,s5,s6⟩:=st
  exact⟨kk _ (by simp) _ s1,kk _ (by simp) _ s2,⟨u,v,t,kk _ (by simp) _ s3⟩,s4.at fun o e=>kk _ (by simp) o e,s5.at fun o e=>kk _ (by simp) o e,s6.at fun o e=>kk _ (by simp) o e⟩
 item:=by
  intro X hP hw hK hc i pins s σ H E I hf st hg
  subst hP hw hK
  obtain⟨xs,ys,zs,x,y,z,hq,hp,hr,hx,hy,hz⟩:=hg
  obtain⟨its,rv,p,_⟩:=I.list hq
  obtain⟨u,hu,ru⟩:=rv.get hx
  obtain⟨its',rv',p',_⟩:=I.list hp
  obtain⟨v,hv,rv2⟩:=rv'.get hy
  obtain⟨its2,rv3,p2,_⟩:=I.list hr
  obtain⟨t,ht,rt⟩:=rv3.get hz
  obtain⟨s1,s2,⟨u0,v0,t0,s3⟩,s4,s5,s6⟩:=st
  have hT:s.TypeIs (.ref (n+5)) "zip":=⟨_,s1,rfl⟩
  unfold pyNext
  refine wpAny_bind (wpAny_attempt (wpAny_callSpecial?_slot hT ass (wpAny_call_entry ass hT F.entry_zip_next (akE La Lb Lc s1 s2 s3 s4 s5 s6 p.isList p'.isList p2.isList (x:=u) (y:=v) (v:=t) (by simpa using hu) (by simpa using hv) (by simpa using ht) fun h' n1 n3 n4 n5 n6 tp kp=>wpAny_pure ?_) (F.args_zip_next_1 _))))
  refine⟨_,rfl,?_⟩
  refine wpAny_letOwnedTupleGo_zip (s:={ s with heap:=h' }) n1 fun h2 m1 sb=>?_
  have old:∀ d∈[n+5,n+3,n+4,n,n+1,n+2],d<s.heap.objs.size:=fun d hd=>by
   have:=apw s1
   have e:(n+5:Nat)<s.heap.objs.size:=this
   simp only [apq,ap0,or_false] at hd
   have hd':(d:Nat)<=n+5:=by rcases hd with rfl | rfl | rfl | rfl | rfl | rfl <;> exact apW (by simp)
   exact aqN hd' e
  have kk:∀ d o,d∉[n+5,n+3,n+4,n,n+1,n+2]->s.heap.get? d=some o->h2.get? d=some o:=fun d o hd e=>by
   have z1:d≠n+5:=fun z=>hd (by simp [z])
   have z3:d≠n+4:=fun z=>hd (by simp [z])
   have z4:d≠n:=fun z=>hd (by simp [z])
   have z5:d≠n+1:=fun z=>hd (by simp [z])
   have z6:d≠n+2:=fun z=>hd (by simp [z])
   exact (sb.2 d z1).trans (kp d o z1 z3 z4 z5 z6 e)
  have hlt:n+5<s.heap.objs.size:=old _ (by simp)
  have I2:Inv X pins σ (upd H s.heap.objs.size (.tup [x,y,z])) { s with heap:=h2,toks:=s.toks }:=I.turnedNew (t':=s.toks) hf kk (apr _)
   ⟨by show 3<=sizeLine;decide,[u,v,t],.cons ru (.cons rv2 (.cons rt .nil)),⟨_,(sb.2 _ (aq3 hlt)).trans tp,rfl,_,rfl⟩⟩
  refine⟨.ref s.heap.objs.size,_,I2,rfl,⟨_,x,y,z,rfl,I.fresh,rfl,fun q hz=>by rw [I.list_inj hz hq];exact hx,fun q hz=>by rw [I.list_inj hz hp];exact hy,fun q hz'=>by rw [I.list_inj hz' hr];exact hz⟩,⟨m1,?_,⟨u,v,t,?_⟩,?_,?_,?_⟩,fun d hd=>?_⟩
  ·exact (sb.2 _ (aN (by omega))).trans (kp _ _ (aN (by omega)) (aN (by omega)) (aN (by omega)) (aN (by omega)) (aN (by omega)) s2)
  ·exact (sb.2 _ (aN (by omega))).trans n3
  ·exact n4.at fun o eo=>(sb.2 _ (aN (by omega))).trans eo
  ·exact n5.at fun o eo=>(sb.2 _ (aN (by omega))).trans eo
  ·exact n6.at fun o eo=>(sb.2 _ (aN (by omega))).trans eo
  ·rw [zv (apU (old d hd))]
   exact (hf d hd).1
 done:=by
  intro X hP hw hK hc i pins s σ H E I hf st hg
  subst hP hw hK
  obtain⟨xs,hq,hx⟩:=hg
  obtain⟨its,rv,p,_⟩:=I.list hq
  obtain⟨s1,s2,_,s4,_,_⟩:=st
  have hl:=rv.length
  have hT:s.TypeIs (.ref (n+5)) "zip":=⟨_,s1,rfl⟩
  unfold pyNext
  refine wpAny_bind (wpAny_attempt (wpAny_callSpecial?_slot hT ass (wpAny_call_entry ass hT F.entry_zip_next (amY (I.ok.hd hc) La s1 s2 s4 p.isList (by simp;omega) fun h' e hk he=>?_) (F.args_zip_next_1 _))))
  obtain⟨o,ho,hc⟩:=he
  refine wpAny_bind (wpAny_isInstance (T:="StopIteration") (b:=true) ⟨o,ho,hc⟩ isSubtype_stop (wpAny_pure ⟨rfl,?_⟩))
  exact I.turnedAll (t':=s.toks) hf fun d o hb e'=>hk d o (fun z=>hb (by simp [z])) (fun z=>hb (by simp [z])) e'
 self:=fun _ _ _ _ _ st h=>wpAny_pyIter_zip st.1 h
section
variable {X:Cx} {es:List Expr} {k:Nat} {tpos:Pos}
noncomputable def alN (K:apj) (ta:TA):TI:=fun σ H R=>ta σ H fun vs H1=>∃ a b c,vs=[.ref a,.ref b,.ref c]/\(∃ xs,SqL K H1 a xs)/\(∃ ys,SqL K H1 b ys)/\(∃ zs,SqL K H1 c zs)/\R (aov K a b c) H1
theorem ai3 {K:apj} {a b c:Expr} {ta:TA} {p pos:Pos} (hK:X.K=K) (hg:Gl X "zip") (hm:X.mg "zip"=none) (ha:PA X [a,b,c] ta) (hs:starEach [a,b,c] X.env=(false,eval a X.env) :: starEach [b,c] X.env:=by rfl) (hl:(backTo pos (starEach [b,c] X.env)).any (·.1)=false:=by rfl):PI X (.Tuple es k tpos) (.Call (.Name "zip" p) [a,b,c] [] pos) (alN K ta):=by
 subst hK
 intro pins s σ H R I h
 refine Call_ (vw I hg hm boot_zip (aqE (thn (ha pos pins s σ H _ I h) fun us s1 ⟨vs,H1,I1,r1,q1⟩=>?_) hs hl))
 obtain⟨l,l',l2,e,⟨xs,hq⟩,⟨ys,hp⟩,⟨zs,hr⟩,q⟩:=q1
 subst e
 cases r1 with
 | cons r rr =>
  cases rr with
  | cons r' rr' =>
   cases rr' with
   | cons r2 rr2 =>
    cases rr2
    cases r
    cases r'
    cases r2
    obtain⟨its,rv,p,_⟩:=I1.list hq
    obtain⟨its',rv',p',_⟩:=I1.list hp
    obtain⟨its2,rv2,p2,_⟩:=I1.list hr
    obtain⟨o1,e1,_⟩:=id p.isList
    obtain⟨o2,e2,_⟩:=id p'.isList
    obtain⟨o3,e3,_⟩:=id p2.isList
    refine akF p.isList p'.isList p2.isList fun h' n1 n2 n3 n4 n5 n6 kp=>?_
    refine wpAny_pyIter_zip n1 ?_
    refine⟨_,[s1.heap.objs.size+5,s1.heap.objs.size+3,s1.heap.objs.size+4,s1.heap.objs.size,s1.heap.objs.size+1,s1.heap.objs.size+2],_,_,H1,rfl,I1.kept (t':=s1.toks) kp,akG (apw e1) (apw e2) (apw e3),⟨n1,n2,⟨_,_,_,n3⟩,n4,n5,n6⟩,fun d hd=>?_,q⟩
    have hle:s1.heap.objs.size<=d:=by
     simp only [apq,ap0,or_false] at hd
     rcases hd with rfl | rfl | rfl | rfl | rfl | rfl <;> first | exact apr _ | exact Nat.le_add_right _ _
    exact I1.fpOk hle (I1.hok.fresh hle)
end
noncomputable def aeq:List PyData->List PyData->List PyData->List PyData
 | d :: ds,e :: es,g :: gs=>.tuple [d,e,g] :: aeq ds es gs
 | _,_,_=>[]
theorem agp:∀ {ds es gs:List PyData} {i:Nat} {x:PyData},(aeq ds es gs)[i]?=some x->∃ d e g,ds[i]?=some d/\es[i]?=some e/\gs[i]?=some g/\x=.tuple [d,e,g]
 | d :: ds,e :: es,g :: gs,0,x,h=>⟨d,e,g,rfl,rfl,rfl,(Option.some.inj h).symm⟩
 | d :: ds,e :: es,g :: gs,i+1,x,h=>agp (ds:=ds) (es:=es) (gs:=gs) h
 | [],_,_,_,_,h=>nomatch h
 | _ :: _,[],_,_,_,h=>nomatch h
 | _ :: _,_ :: _,[],_,_,h=>nomatch h
theorem aer:∀ {ds es gs:List PyData},es.length=ds.length->gs.length=ds.length->(aeq ds es gs).length=ds.length
 | [],_,_,_,_=>rfl
 | d :: ds,[],_,h,_=>nomatch h
 | d :: ds,e :: es,[],_,h=>nomatch h
 | d :: ds,e :: es,g :: gs,h,h'=>congrArg (·+1) (aer (Nat.succ.inj h) (Nat.succ.inj h'))
section
variable {K:apj} {f:Fx} {ρ:zr} {R:List PyData->Prop} {t:TA}
theorem am0 (h:PAd K f t ρ fun xs=>∃ ds es gs,xs=[.dat (.list ds),.dat (.list es),.dat (.list gs)]/\es.length=ds.length/\gs.length=ds.length/\R (aeq ds es gs)):PId K f (alN K t) ρ R:=fun σ H C e q=>h σ H _ e fun xs vs H1 g1 r1 ⟨ds,es,gs,ex,le,lg,p⟩=>by
 subst ex
 cases r1 with
 | cons rx r' =>
  cases r' with
  | cons ry r2 =>
   cases r2 with
   | cons rz r3 =>
    cases r3
    obtain⟨a,xs,rfl,h1,h2⟩:=rep_list.mp rx
    obtain⟨b,ys,rfl,k1,k2⟩:=rep_list.mp ry
    obtain⟨c,zs,rfl,m1,m2⟩:=rep_list.mp rz
    have l1:=h2.length
    refine⟨a,b,c,rfl,⟨xs,(zi _ _).seq h1⟩,⟨ys,(zi _ _).seq k1⟩,⟨zs,(zi _ _).seq m1⟩,q (aeq ds es gs) _ H1 g1 ⟨fun f' H' i d fo sm hd=>?_,fun f' H' _ sm=>⟨xs,(zi _ _).seq (sm.seq h1),by rw [aer le lg];omega⟩⟩ p⟩
    obtain⟨d1,d2,d3,e1,e2,e3,rfl⟩:=agp hd
    obtain⟨z1,hz1,rz1⟩:=h2.get e1
    obtain⟨z2,hz2,rz2⟩:=k2.get e2
    obtain⟨z3,hz3,rz3⟩:=m2.get e3
    have q1:SqL K H' a xs:=(zi _ _).seq (sm.seq h1)
    have q2:SqL K H' b ys:=(zi _ _).seq (sm.seq k1)
    have q3:SqL K H' c zs:=(zi _ _).seq (sm.seq m1)
    refine⟨⟨xs,ys,zs,z1,z2,z3,q1,q2,q3,hz1,hz2,hz3⟩,fun x H3 hy=>?_⟩
    obtain⟨t,x1,x2,x3,rfl,hn,rfl,y1,y2,y3⟩:=hy
    have w1:=y1 xs q1
    rw [hz1] at w1
    cases w1
    have w2:=y2 ys q2
    rw [hz2] at w2
    cases w2
    have w3:=y3 zs q3
    rw [hz3] at w3
    cases w3
    have gn:Goes f' H' (upd H' t (.tup [z1,z2,z3])):=.of_same (yd hn _) fo
    exact⟨gn,rep_tuple.mpr ⟨t,_,rfl,.of (zz (fresh_ne fo hn) zw),.cons' (Rep.mono gn.1 _ _ (Rep.mono sm _ _ rz1)) (.cons' (Rep.mono gn.1 _ _ (Rep.mono sm _ _ rz2)) (.cons' (Rep.mono gn.1 _ _ (Rep.mono sm _ _ rz3)) .nil'))⟩⟩
end
structure TQ (K:apj) (f:Fx) (a:Addr) (as:List Addr) (H2:Hp) (ρ:zr) (rows:List (List PyData)) (σ:St) (H:Hp):Prop where
 env:EnvOk K (f.withs (a :: as)) ρ σ H
 sm:Same (hide H2 (f.withs (a :: as))) (hide H (f.withs (a :: as)))
 kp:∀ b∈f.M,H b=H2 b
 top:H a=some (.lst (as.map .ref))
 nd:(a :: as).Nodup
 len:as.length=rows.length
 row:∀ (i:Nat) x r,as[i]?=some x->rows[i]?=some r->∃ vs,H x=some (.lst vs)/\Reps K (hide H (f.withs (a :: as))) r vs
noncomputable def PSq (K:apj) (f:Fx) (a:Addr) (as:List Addr) (ts:TS) (ρ:zr) (rows:List (List PyData)) (O:zr->List (List PyData)->Prop):Prop:=Sep f (a :: as)->∀ (σ:St) (H H2:Hp) (E:Ends),TQ K f a as H2 ρ rows σ H ->
 (∀ ρ' rows' σ' H',TQ K f a as H2 ρ' rows' σ' H'->O ρ' rows'->E.nx σ' H')->ts E σ H
section
variable {K:apj} {f:Fx} {a:Addr} {as:List Addr} {ρ ρ2:zr} {rows:List (List PyData)} {O:zr->List (List PyData)->Prop} {ts tu:TS} {te ty:TE} {i:Nat} {σ σ2:St} {H H' H2:Hp} {wi:TI} {g:TG}
theorem TQ.tn (x:TQ K f a as H2 ρ rows σ H):TN K f a as H2 ρ none σ H:=⟨x.env,x.sm,x.kp,fun _ z=>nomatch z⟩
theorem TQ.go (x:TQ K f a as H2 ρ rows σ H) (g:Goes (f.withs (a :: as)) H H') (e2:EnvOk K (f.withs (a :: as)) ρ2 σ2 H'):TQ K f a as H2 ρ2 rows σ2 H' :=
 ⟨e2,x.sm.trans g.sm,fun b hb=>(g.kp b (apy _ hb)).trans (x.kp b hb),(g.kp a (je apo)).trans x.top,x.nd,x.len,fun i y r h1 h2=>by
  obtain⟨vs,h3,h4⟩:=x.row i y r h1 h2
  exact⟨vs,(g.kp y (je (apl _ (apv h1)))).trans h3,Reps.mono g.sm _ _ h4⟩⟩
theorem TQ.self (x:TQ K f a as H2 ρ rows σ H):TQ K f a as H ρ rows σ H:=⟨x.env,Same.refl _,fun _ _=>rfl,x.top,x.nd,x.len,x.row⟩
theorem TQ.trans {rows':List (List PyData)} (x:TQ K f a as H2 ρ rows σ H) (y:TQ K f a as H ρ2 rows' σ2 H'):TQ K f a as H2 ρ2 rows' σ2 H':=⟨y.env,x.sm.trans y.sm,fun b hb=>(y.kp b hb).trans (x.kp b hb),y.top,y.nd,y.len,y.row⟩
theorem TQ.rep (se:Sep f (a :: as)) (x:TQ K f a as H2 ρ rows σ H):Rep K (hide H f) (.list (rows.map .list)) (.ref a):=by
 have nf:=amX se
 refine rep_list.mpr ⟨a,_,rfl,.of (zz (nf a apo) x.top),?_⟩
 have key:∀ (as:List Addr) (rows:List (List PyData)),as.length=rows.length->(∀ x∈as,¬ (f.f=some x \/ x∈f.M))->(∀ (i:Nat) x r,as[i]?=some x->rows[i]?=some r->∃ vs,H x=some (.lst vs)/\Reps K (hide H f) r vs)->Reps K (hide H f) (rows.map .list) (as.map .ref):=by
  intro as
  induction as with
  | nil=>intro rows hl _ _;cases rows with
   | nil=>exact .nil'
   | cons r rs=>cases hl
  | cons x as ih =>
   intro rows hl hs hr
   cases rows with
   | nil=>cases hl
   | cons r rs =>
    obtain⟨vs,h1,h2⟩:=hr 0 x r rfl rfl
    exact .cons' (rep_list.mpr ⟨x,vs,rfl,.of (zz (hs x apo) h1),h2⟩) (ih rs (by simpa using hl) (fun y hy=>hs y (apl _ hy)) fun i y q h1 h2=>hr (i+1) y q (by simpa using h1) (by simpa using h2))
 exact key as rows x.len (fun y hy=>nf y (apl _ hy)) fun i y r h1 h2=>by
  obtain⟨vs,h3,h4⟩:=x.row i y r h1 h2
  exact⟨vs,h3,Reps.mono same_withs _ _ h4⟩
theorem TQ.read (se:Sep f (a :: as)) (x:TQ K f a as H2 ρ rows σ H) (hi:ρ[i]?=some (some (.own f.M.length))):EnvOk K f ((ρ.map (ji f.M.length)).set i (some (.dat (.list (rows.map .list))))) σ H:=by
 have o:=x.tn.out
 refine⟨by rw [aqy];exact o.len,fun q z hz=>?_,o.fd⟩
 by_cases e:i=q
 ·subst e
  rw [List.getElem?_set,if_pos rfl] at hz
  split at hz
  ·cases hz
   exact⟨_,x.tn.at hi,x.rep se⟩
  ·cases hz
 ·rw [aqi e] at hz
  exact o.get q z hz
theorem alO (h:PId K (f.withs (a :: as)) wi ρ fun ds=>∃ J:Nat->zr->List (List PyData)->Prop,J 0 ρ rows /\
   (∀ (i:Nat) d ρ' rows',ds[i]?=some d->J i ρ' rows'->PGd K (f.withs (a :: as)) g d ρ' fun ρ2=>PSq K f a as ts ρ2 rows' (J (i+1)))/\∀ ρ' rows',J ds.length ρ' rows'->O ρ' rows') :
  PSq K f a as (agU wi g ts) ρ rows O:=fun se σ H H2 E x n=>h σ H _ x.env fun ds J H1 g1 it ⟨Jv,j0,js,jd⟩=>by
 have x1:=x.go g1 (x.env.mono g1)
 refine⟨fun i m σ' H'=>∃ ρ' cs',TQ K f a as H2 ρ' cs' σ' H'/\Same (hide H1 (f.withs (a :: as))) (hide H' (f.withs (a :: as)))/\Jv i ρ' cs'/\m+i=ds.length,⟨ds.length,ρ,rows,x1,Same.refl _,j0,rfl⟩,fun i m σ' H' ⟨ρ',cs',x',sm',p,hm⟩=>?_⟩
 by_cases hi:i<ds.length
 ·obtain⟨hgo,hy⟩:=it.go (f.withs (a :: as)) H' i _ x'.env.fd sm' (aph hi)
  refine .inr ⟨hgo,fun σ2 H3=>∃ ρ2 cs2,TQ K f a as H2 ρ2 cs2 σ2 H3/\Same (hide H1 (f.withs (a :: as))) (hide H3 (f.withs (a :: as)))/\Jv (i+1) ρ2 cs2,fun σ2 H3 ⟨ρ2,cs2,e2,g2,p2⟩=>⟨m - 1,by omega,ρ2,cs2,e2,g2,p2,by omega⟩,fun v H3 hx=>?_⟩
  obtain⟨g3,r3⟩:=hy v H3 hx
  have x3:=x'.go g3 (x'.env.mono g3)
  refine js i _ ρ' cs' (aph hi) p σ' H3 v _ x3.env r3 fun ρ2 σ2 H4 g4 e4 p4=>?_
  have x4:=x3.go g4 e4
  have sm4:=(sm'.trans g3.sm).trans g4.sm
  exact p4 se σ2 H4 H4 _ x4.self fun ρ5 cs5 σ5 H5 x5 p5=>⟨ρ5,cs5,x4.trans x5,sm4.trans x5.sm,p5⟩
 ·have ei:i=ds.length:=by omega
  subst ei
  exact .inl ⟨it.st (f.withs (a :: as)) H' x'.env.fd sm',n ρ' cs' σ' H' x' (jd ρ' cs' p)⟩
theorem aow (hi:ρ[i]?=some (some (.own f.M.length))) (h:PEd K (f.withs (a :: as)) ty ρ fun y=>∃ r:Nat,y=.int r/\∃ row,rows[r]?=some row/\row.length<1000/\PEd K (f.withs (a :: as)) te ρ fun d=>O ρ (rows.set r (row++[d]))) :
  PSq K f a as (ab4 (tBM K "list" aaO (tOp (aaG K) (yj i) ty) (yb te jz))) ρ rows O:=fun se σ H H2 E x n=>by
 refine⟨.ref a,x.tn.at hi,h σ H _ x.env fun y u H1 g1 r1 ⟨r,ey,row,hr,hl,h4⟩=>?_⟩
 subst ey
 rw [rep_int.mp r1]
 have x1:=x.go g1 (x.env.mono g1)
 have hlt:r<as.length:=by rw [x1.len];exact (apm.mp hr).1
 have ha:as[r]?=some as[r]:=aph hlt
 obtain⟨vs1,hv1,_⟩:=x1.row r _ row ha hr
 refine⟨a,as.map .ref,(r:Int),.ref as[r],rfl,rfl,.of x1.top,qv (by rw [apt,ha];rfl),Or.inl ⟨rfl,_,.of hv1⟩,?_⟩
 refine h4 σ H1 _ x1.env fun d v H3 g3 r3 ho=>?_
 have x3:=x1.go g3 (x1.env.mono g3)
 obtain⟨vs,hv,rv⟩:=x3.row r _ row ha hr
 have lv:=rv.length
 refine⟨as[r],vs,v,rfl,rfl,hv,zY (by omega),?_⟩
 have hm:as[r]∈a :: as:=apl _ (apv ha)
 have nd:=aqq.mp x3.nd
 have ne:a≠as[r]:=fun z=>nd.1 (z▸apv ha)
 refine n ρ _ σ _ ⟨agh se hm x3.env,by rw [yi hm];exact x3.sm,fun b hb=>(zv (fun (z:b=as[r])=>se.nm _ hm (z▸hb))).trans (x3.kp b hb),(zv ne).trans x3.top,x3.nd,by rw [aqy];exact x3.len,fun j y q h1 h2=>?_⟩ ho
 rw [yi hm]
 by_cases e:r=j
 ·subst e
  rw [ha] at h1
  cases h1
  rw [ap7 (apm.mp hr).1] at h2
  cases h2
  exact⟨_,zw,Reps.snoc r3 rv⟩
 ·rw [aqi e] at h2
  have hy:y≠as[r]:=fun z=>by
   subst z
   exact e ((List.getElem?_inj hlt nd.2).mp (ha.trans h1.symm))
  obtain⟨vs',h3,h4⟩:=x3.row j y q h1 h2
  exact⟨vs',(zv hy).trans h3,h4⟩
theorem am1 {R:List PyData->Prop} (h:anV K f te ρ fun rows0=>(∀ r∈rows0,r=[])/\i<ρ.length/\∀ a as,PSq K f a as ts (ρ.set i (some (.own f.M.length))) (rows0.map fun _=>[]) fun ρ' rows'=>ρ'[i]?=some (some (.own f.M.length))/\PSn K f tu ((ρ'.map (ji f.M.length)).set i (some (.dat (.list (rows'.map .list))))) R) :
  PSn K f (qt (jD te (yG i)) (qt ts tu)) ρ R:=fun σ H E e q =>
 h σ H _ e fun rows a as H1 g1 na nas t1 ⟨h0,hi,p⟩=>by
  have hn:∀ D∈a :: as,H D=none:=fun D hD=>(apq.mp hD).elim (fun z=>z▸na) (nas D)
  have nf:∀ D∈a :: as,¬ (f.f=some D \/ D∈f.M):=fun D hD=>fresh_ne e.fd (hn D hD)
  have se:Sep f (a :: as):=⟨t1.nd,fun D hD z=>nf D hD (.inl z),fun D hD z=>nf D hD (.inr z)⟩
  have sm1:=ahr (Ds:=a :: as) g1.sm hn
  have there:∀ D∈a :: as,∃ o,H1 D=some o:=fun D hD=>by
   rcases apq.mp hD with rfl | h
   ·exact⟨_,t1.top⟩
   ·obtain⟨j,hj⟩:=atn h
    exact⟨_,t1.row j D _ hj (aph (by rw [<-t1.len];exact (apm.mp hj).1))⟩
  have fo1:FOk (f.withs (a :: as)) H1:=⟨g1.ok.fd,fun b hb=>(apC.mp hb).elim (fun h=>there b (aqO.mp h)) (g1.ok.mm b),fun q eq hq=>(apC.mp hq).elim (fun h=>nf q (aqO.mp h) (.inl eq)) (g1.ok.nm q eq)⟩
  have e1:EnvOk K (f.withs (a :: as)) ρ σ H1:=⟨e.len,fun q y hy=>by
   obtain⟨v,a1,a2⟩:=e.get q y hy
   refine⟨v,a1,?_⟩
   cases y with
   | dat d=>exact Rep.mono sm1 d v a2
   | feed=>exact a2
   | exc C=>obtain⟨b,h3,h4⟩:=a2;exact⟨b,h3,sm1 _ _ h4⟩
   | mon φ=>exact fun H' s=>a2 H' (sm1.trans s)
   | own k =>
    obtain⟨b,h3,h4⟩:=a2
    exact⟨b,by rw [q9,apx (apm.mp h3).1];exact h3,h4⟩,fo1⟩
  have rv:RepV K (f.withs (a :: as)) H1 (.own f.M.length) (.ref a):=⟨a,by rw [q9,apz (by simp)];simp,rfl⟩
  refine p a as se _ H1 H1 _ ⟨e1.set i rv,Same.refl _,fun _ _=>rfl,t1.top,t1.nd,by rw [api];exact t1.len,fun j x r hx hr=>?_⟩ fun ρ' rows' σ' H' x' ⟨hi',pn⟩=>?_
  ·rw [apt] at hr
   cases hj:rows[j]? with
   | none=>rw [hj] at hr;cases hr
   | some r0 =>
    rw [hj] at hr
    cases hr
    have:=t1.row j x r0 hx hj
    rw [h0 r0 (apv hj)] at this
    exact⟨[],this,.nil'⟩
  ·have G:Goes f H H':=⟨(sm1.trans x'.sm).trans same_withs,x'.tn.fok,fun b hb=>(x'.kp b hb).trans (g1.kp b hb)⟩
   exact pn σ' H' E (x'.read se hi') fun es D vs H5 g5 hD hv rv r=>q es D vs H5 (G.trans g5) (G.free e.fd hD) hv rv r
end
end L2
end
section
namespace L2
open PySem PySem.Spec PyProof.Rows
noncomputable def adj:List (TE×TE)->St->Hp->(List (V×V)->Hp->Prop)->Prop
 | [],_,H,Q=>Q [] H
 | (tk,tv) :: r,σ,H,Q=>tk σ H fun kx H1=>tv σ H1 fun vx H2=>adj r σ H2 fun l H3=>Q ((kx,vx) :: l) H3
noncomputable def adk (w:World) (K:apj) (p:Addr):List (V×V)->Hp->(Hp->Prop)->Prop
 | [],H,Q=>Q H
 | (k,v) :: r,H,Q=>vP w K (.ref p) k v H fun H'=>adk w K p r H' Q
noncomputable def aes (w:World) (K:apj) (ts:List (TE×TE)):TE:=fun σ H Q=>∀ p,H p=none->adj ts σ (upd H p (DicO w p [])) fun l H1=>adk w K p l H1 fun H2=>Q (.ref p) H2
inductive PEs (X:Cx):List (Expr×Expr)->List (TE×TE)->Prop where
 | nil:PEs X [] []
 | cons {k v:Expr} {tk tv:TE} {es:List (Expr×Expr)} {ts:List (TE×TE)}:PE X k tk->PE X v tv->PEs X es ts->PEs X ((k,v) :: es) ((tk,tv) :: ts)
inductive RelPs:List (V×V)->List (Value×Value)->Prop where
 | nil:RelPs [] []
 | cons {k v:V} {a b:Value} {l:List (V×V)} {us:List (Value×Value)}:RelV k a->RelV v b->RelPs l us->RelPs ((k,v) :: l) ((a,b) :: us)
theorem abB {X:Cx} {pos:Pos} {pins:List (Addr×Obj)} {σ:St}:∀ {es:List (Expr×Expr)} {ts:List (TE×TE)},PEs X es ts->∀ (s:Shared) (H:Hp) (Q:List (V×V)->Hp->Prop),Inv X pins σ H s->adj ts σ H Q ->
  wpAny (model X.prog X.w) X.A (evalPairs (pairTrees (es.map fun e=>some e.1) (es.map fun e=>e.2) X.env pos)) (fun us s'=>∃ l H',Inv X pins σ H' s'/\RelPs l us/\Q l H') X.xe s
 | _,_,.nil,s,H,Q,I,h=>pairTrees_nil_walk ⟨[],H,I,.nil,h⟩
 | _,_,.cons hk hv r,s,H,Q,I,h=>by
  refine pairTrees_cons_walk (thn (hk pins _ σ _ _ I h) fun kv s1 ⟨kx,H1,I1,r1,q1⟩=>?_)
  refine thn (hv pins s1 σ H1 _ I1 q1) fun vv s2 ⟨vx,H2,I2,r2,q2⟩=>?_
  refine thn (abB r s2 H2 _ I2 q2) fun us s3 ⟨l,H3,I3,rl,q3⟩=>?_
  exact⟨(kx,vx) :: l,H3,I3,.cons r1 r2 rl,q3⟩
theorem abC {X:Cx} {pins:List (Addr×Obj)} {σ:St} {p:Addr} (hu:X.A.units+64<cLine):∀ {l:List (V×V)} {us:List (Value×Value)},RelPs l us->∀ (s:Shared) (H:Hp) (Q:Hp->Prop),Inv X pins σ H s->adk X.w X.K p l H Q ->
  wpAny (model X.prog X.w) X.A (storeAll p us) (fun _ s'=>∃ H',Inv X pins σ H' s'/\Q H') X.xe s
 | _,_,.nil,s,H,Q,I,h=>by
  unfold storeAll
  rw [aqT]
  exact wpAny_pure ⟨H,I,h⟩
 | _,_,.cons r1 r2 r,s,H,Q,I,h=>by
  obtain⟨a,b,d,xs,ea,rfl,hS,ks,kd,rd,hl,q⟩:=h
  cases ea
  cases r1
  obtain⟨hm,ns⟩:=abw I hS ks
  unfold storeAll
  rw [aqK]
  refine wpAny_bind (wpAny_bind (wpAny_dictSet_heap (by show _+40<cLine;omega) (j7 I kd rd) hm (fun h' hm' sb=>?_) (aqj (zY hl))))
  refine wpAny_pure ?_
  obtain⟨o',es',ep',x1,x2,x3,x4,x5,x6⟩:=hm'
  have I':=I.write (t':=s.toks+yc d) (x:=p) (e:=p) (by rw [hS];exact trivial) (.inl rfl) (fun b u nb e=>(sb.2 b nb).trans e) ⟨o',x1⟩ (DicO.ok ⟨x1,x2,x3,x4,x6,ns⟩)
  exact abC hu r _ _ _ I' (q _ r2)
theorem akH {X:Cx} {w:World} {K:apj} {pos:Pos} {es:List (Expr×Expr)} {ts:List (TE×TE)} (hw:X.w=w) (hK:X.K=K) (hu:X.A.units+64<cLine) (ne:es≠[]) (few:es.length<=15) (hp:PEs X es ts):PE X (.Dict (es.map fun e=>some e.1) (es.map fun e=>e.2) pos) (aes w K ts):=by
 subst hw hK
 intro pins s σ H Q I h
 refine wpAny_Dict_any ?_ (by rw [api,api]) (by simpa using ne) (by rw [api];exact few) ?_
 ·rw [arO]
  intro x hx
  obtain⟨e,_,rfl⟩:=apJ.mp hx
  rfl
 have I0:=I.laid (a:=s.heap.objs.size) (t':=s.toks) (fun _ _ q=>aps _ q) (apr _) (DicO.ok (xs:=[]) (o:={ cls:=.type "dict",data:=.dict #[] }) (es:=#[]) (ep:=0) ⟨apI _ rfl,⟨rfl,rfl,rfl⟩,rfl,rfl,aqU,beq_eq_false_iff_ne.mpr (arh (apU (adf I)))⟩)
 refine thn (abB hp _ _ _ I0 (h _ (I.hok.fresh (apr _)))) fun us s1 ⟨l,H1,I1,rl,q1⟩=>?_
 exact thn (abC hu rl _ _ _ I1 q1) fun _ s2 ⟨H2,I2,q2⟩=>⟨.ref _,H2,I2,rfl,q2⟩
inductive RepP (K:apj) (Hh:Hp):List (PyData×PyData)->List (V×V)->Prop where
 | nil:RepP K Hh [] []
 | cons {k v:PyData} {a b:V} {l:List (PyData×PyData)} {us:List (V×V)}:Rep K Hh k a->Rep K Hh v b->RepP K Hh l us->RepP K Hh ((k,v) :: l) ((a,b) :: us)
noncomputable def PPd (K:apj) (f:Fx) (ts:List (TE×TE)) (ρ:zr) (R:List (PyData×PyData)->Prop):Prop:=∀ (σ:St) (H:Hp) (Q:List (V×V)->Hp->Prop),EnvOk K f ρ σ H->(∀ l us H',Goes f H H'->RepP K (hide H' f) l us->R l->Q us H')->adj ts σ H Q
section
variable {w:World} {K:apj} {f:Fx} {ρ:zr} {ts:List (TE×TE)} {tk tv:TE} {R:List (PyData×PyData)->Prop}
theorem am2 (h:R []):PPd K f [] ρ R:=fun σ H Q e q=>q [] [] H (.refl e.fd) .nil h
theorem aaV (h:PEd K f tk ρ fun k=>PEd K f tv ρ fun v=>PPd K f ts ρ fun l=>R ((k,v) :: l)):PPd K f ((tk,tv) :: ts) ρ R:=fun σ H Q e q =>
 h σ H _ e fun k kx H1 g1 r1 h2=>h2 σ H1 _ (e.mono g1) fun v vx H2 g2 r2 h3=>h3 σ H2 _ (e.mono (g1.trans g2)) fun l us H3 g3 r3 p=>q ((k,v) :: l) ((kx,vx) :: us) H3 ((g1.trans g2).trans g3) (.cons (Rep.mono g3.sm _ _ (Rep.mono g2.sm _ _ r1)) (Rep.mono g3.sm _ _ r2) r3) p
noncomputable def putAll (l kvs:List (PyData×PyData)):List (PyData×PyData):=l.foldl (fun z p=>dput p.1 p.2 z) kvs
theorem aet {p:Addr} {H2:Hp} {Q:Hp->Prop}:∀ {l:List (PyData×PyData)} {us:List (V×V)},RepP K (hide H2 (f.with p)) l us->∀ (xs:List (PyData×Addr×Value)) (kvs:List (PyData×PyData)),Paired (EntR K (hide H2 (f.with p))) xs kvs->(∀ z∈l,aaI z.1)->xs.length+l.length<=1000->(∀ xs',Paired (EntR K (hide H2 (f.with p))) xs' (putAll l kvs)->Q (upd H2 p (DicO w p xs')))->adk w K p us (upd H2 p (DicO w p xs)) Q
 | _,_,.nil,xs,kvs,pr,_,_,q=>q xs pr
 | _,_,.cons (k:=k) (v:=v) r1 r2 r,xs,kvs,pr,kt,hl,q=>by
  have kk:aaI k:=kt _ apo
  obtain⟨b,rfl⟩:=qB kk r1
  have hw:hide (upd H2 p (DicO w p xs)) (f.with p)=hide H2 (f.with p):=yf
  have sm:Same (hide H2 (f.with p)) (upd H2 p (DicO w p xs)):=by
   rw [<-hw]
   exact zi _ _
  rw [apL] at hl
  refine⟨p,b,k,xs,rfl,rfl,zw,fun z hz=>⟨(yX pr z hz).1,Rep.mono sm _ _ (yX pr z hz).2⟩,kk.1,Rep.mono sm _ _ r1,by omega,fun u ru=>?_⟩
  rw [ajY]
  have pr':=adg kk.1 r1 r2 ru pr
  refine aet r _ _ pr' (fun z hz=>kt z (apl _ hz)) ?_ q
  have e1:=vQ pr'
  have e2:=vQ pr
  have e3:(dput k v kvs).length<=kvs.length+1:=by
   unfold dput
   split
   ·rw [api];omega
   ·rw [apA];exact apr _
  omega
theorem akI {P:OC->Prop} (h:∀ p,PPd K (f.with p) ts ρ fun l=>(∀ z∈l,aaI z.1)/\l.length<=1000/\P (.dic (putAll l []))):abW w K f (aes w K ts) ρ P:=fun σ H Q e q p hp=>by
 have np:=fresh_ne e.fd hp
 have e0:EnvOk K (f.with p) ρ σ (upd H p (DicO w p [])):=acR e hp
 have top:(upd H p (DicO w p [])) p=some (DicO w p []):=zw
 refine h p σ _ _ e0 fun l us H2 g2 r2 ⟨kt,hl,pv⟩=>?_
 have hp2:H2 p=some (DicO w p []):=(g2.kp p (apo ..)).trans top
 have self:upd H2 p (DicO w p [])=H2:=by
  funext b
  by_cases z:b=p
  ·rw [z,zw,hp2]
  ·rw [zv z]
 rw [<-self]
 refine aet r2 [] [] .nil kt (by simpa using hl) fun xs' pr=>?_
 have hw:hide (upd H2 p (DicO w p xs')) (f.with p)=hide H2 (f.with p):=yf
 have fo:FOk f (upd H2 p (DicO w p xs')):=by
  have fo2:=g2.ok
  refine⟨fun c ec=>?_,fun c hc=>?_,fun c ec hc=>fo2.nm c ec (apl _ hc)⟩
  ·obtain⟨a1,a2,a3,a4⟩:=fo2.fd c ec
   exact⟨a1,a2,by rw [zv (fun (z:c=p)=>np (.inl (z▸ec)))];exact a3,a4⟩
  ·obtain⟨o,ho⟩:=fo2.mm c (apl _ hc)
   exact⟨o,by rw [zv (fun (z:c=p)=>np (.inr (z▸hc)))];exact ho⟩
 have sm:Same (hide H f) (hide (upd H2 p (DicO w p xs')) (f.with p)):=by
  rw [hw]
  exact (jS hp).trans g2.sm
 refine q (.dic (putAll l [])) p _ ⟨sm.trans same_with,fo,fun c hc=>?_⟩ hp ⟨_,zw,?_⟩ pv
 ·have ncp:c≠p:=fun z=>np (.inr (z▸hc))
  rw [zv ncp,g2.kp c (apl _ hc),zv ncp]
 ·rw [hw]
  exact pr
end
theorem akJ {K:apj} {f:Fx} {ρ:zr} {te:TE} {P:PyData->Prop} (h:PEd K f te ρ fun d=>(d=.none/\P (.bool false)) \/ ∃ ds,d=.tuple ds/\P (.bool true)):PEd K f (tOp (fun x y H Q=>y=.non/\Q (.bl (!decide (x=.non))) H) te (tC .non)) ρ P:=fun σ H Q e q =>
 h σ H _ e fun d v H1 g1 r1 hd=>by
  refine⟨rfl,?_⟩
  rcases hd with⟨ed,p⟩ | ⟨i,ed,p⟩
  ·subst ed
   rw [rep_none.mp r1]
   exact q _ _ H1 g1 (rep_bool.mpr rfl) p
  ·subst ed
   obtain⟨a,xs,rfl,_⟩:=rep_tuple.mp r1
   exact q _ _ H1 g1 (rep_bool.mpr rfl) p
theorem aox {X:Cx} {pa pb p:Pos} {ja jb x} {a b:Int}:PE X (.Tuple [.Constant (.int a) ja pa,.Constant (.int b) jb pb] x p) (acI (yb (tC (.int a)) (yb (tC (.int b)) jz))):=by
 refine zG ?_
 refine za ?_ ?_
 ·exact zc
 refine za ?_ ?_
 ·exact zc
 exact zb
theorem akK {X:Cx} {w:World} {K:apj} {pos:Pos} {ks:List (Option Expr)} {vs:List Expr} {es:List (Expr×Expr)} {ts:List (TE×TE)} (hp:PEs X es ts) (hks:es.map (fun e=>some e.1)=ks) (hvs:es.map (fun e=>e.2)=vs) (hw:X.w=w) (hK:X.K=K) (hu:X.A.units+64<cLine) (ne:es≠[]) (few:es.length<=15):PE X (.Dict ks vs pos) (aes w K ts):=by
 subst hks hvs
 exact akH hw hK hu ne few hp
end L2
end
section
set_option maxHeartbeats 400000
namespace L2
open PySem PySem.Spec PyProof.Rows
structure PEw (X:Cx) (e:Expr) (t:TE):Prop where
 pe:PE X e t
theorem akL {X:Cx} {i:Nat} {x:Str} {e:Expr} {te:TE} {pos pos':Pos} (he:PEw X e te) (hN:X.N.Nodup) (hi:X.N[i]?=some x) (hx:Loc X.env.scope x) (hs:swapsWith e (some (.Name x pos')) pos.line X.env=pure false) (hf:X.fn x=true \/ X.env.scope.names.lookup x=some .local) :
  PS X (.Assign [.Name x pos'] e pos) (jD te (yG i)):=zK hN hi hx he.pe hs hf
structure PEsW (X:Cx) (es:List (Expr×Expr)) (ts:List (TE×TE)):Prop where
 pes:PEs X es ts
theorem ai4 {X:Cx}:PEsW X [] []:=⟨.nil⟩
theorem aaW {X:Cx} {pa pb pc p:Pos} {ja jb jc x} {a b c:Int} {es:List (Expr×Expr)} {ts:List (TE×TE)} (h:PEsW X es ts):PEsW X ((.Tuple [.Constant (.int a) ja pa,.Constant (.int b) jb pb] x p,.Constant (.int c) jc pc) :: es) ((acI (yb (tC (.int a)) (yb (tC (.int b)) jz)),tC (.int c)) :: ts):=⟨.cons aox zc h.pes⟩
theorem ai5 {X:Cx} {w:World} {K:apj} {pos:Pos} {ks:List (Option Expr)} {vs:List Expr} {es:List (Expr×Expr)} {ts:List (TE×TE)} (hp:PEsW X es ts) (hks:es.map (fun e=>some e.1)=ks) (hvs:es.map (fun e=>e.2)=vs) (hw:X.w=w) (hK:X.K=K) (hu:X.A.units+64<cLine) (ne:es≠[]) (few:es.length<=15):PEw X (.Dict ks vs pos) (aes w K ts):=⟨akK hp.pes hks hvs hw hK hu ne few⟩
theorem ai6 {X:Cx} {w:World} {K:apj} {pos p1 p2 p3 p4 pa1 pb1 pc1 pa2 pb2 pc2 pa3 pb3 pc3 pa4 pb4 pc4:Pos} {x1 x2 x3 x4 ja1 jb1 jc1 ja2 jb2 jc2 ja3 jb3 jc3 ja4 jb4 jc4} {a1 b1 c1 a2 b2 c2 a3 b3 c3 a4 b4 c4:Int} (hw:X.w=w) (hK:X.K=K) (hu:X.A.units+64<cLine) :
  PEw X (.Dict [some (.Tuple [.Constant (.int a1) ja1 pa1,.Constant (.int b1) jb1 pb1] x1 p1),some (.Tuple [.Constant (.int a2) ja2 pa2,.Constant (.int b2) jb2 pb2] x2 p2),some (.Tuple [.Constant (.int a3) ja3 pa3,.Constant (.int b3) jb3 pb3] x3 p3),some (.Tuple [.Constant (.int a4) ja4 pa4,.Constant (.int b4) jb4 pb4] x4 p4)] [.Constant (.int c1) jc1 pc1,.Constant (.int c2) jc2 pc2,.Constant (.int c3) jc3 pc3,.Constant (.int c4) jc4 pc4] pos)
   (aes w K [(acI (yb (tC (.int a1)) (yb (tC (.int b1)) jz)),tC (.int c1)),(acI (yb (tC (.int a2)) (yb (tC (.int b2)) jz)),tC (.int c2)),(acI (yb (tC (.int a3)) (yb (tC (.int b3)) jz)),tC (.int c3)),(acI (yb (tC (.int a4)) (yb (tC (.int b4)) jz)),tC (.int c4))]) :=
 ai5 (aaW (aaW (aaW (aaW ai4)))) rfl rfl hw hK hu (List.cons_ne_nil _ _) (apW rfl)
end L2
end
section
namespace My
open PySem PySem.Spec PyProof.Rows L2
noncomputable abbrev pf:List Str:=["rows"]
noncomputable abbrev ph:List Str:=["rows","x","y"]
noncomputable abbrev pj:List Str:=["rows","cut","cell"]
noncomputable abbrev pz:List Str:=["rows","cut"]
noncomputable abbrev pA:List Str:=["rows","cut","gate"]
noncomputable abbrev pB:List Str:=["rows","cut","point"]
noncomputable abbrev pC:List Str:=["_law_four","_law_k","_law_cut_here"]
noncomputable abbrev pE:List Str:=["a","b","rows"]
noncomputable abbrev pF:List Str:=["x","y"]
noncomputable abbrev pG:List Str:=["some"]
noncomputable abbrev pH:List Str:=["top","bottom"]
noncomputable abbrev pI:List Str:=["things"]
noncomputable abbrev pJ:List Str:=["_law_feed_here","_law_many"]
noncomputable abbrev pK:List Str:=["a","b","v","c","d","w"]
noncomputable abbrev pL:List Str:=["one","other"]
noncomputable abbrev pM:List Str:=["rows","gate"]
noncomputable abbrev pN:List Str:=["_law_feed_here","_law_far","_law_base"]
noncomputable abbrev pO:List Str:=["_law_one","_law_other"]
noncomputable abbrev pP:List Str:=["_law_here","_law_there","_law_cut_here"]
noncomputable abbrev pQ:List Str:=["x","y","rows"]
noncomputable abbrev pR:List Str:=["x","y","tall"]
noncomputable abbrev pS:List Str:=["rows","cut","start"]
noncomputable abbrev pT:List Str:=["rows","cut","cell","piece"]
noncomputable abbrev pU:List Str:=["_law_script","_law_k"]
noncomputable abbrev pV:List Str:=["_law_feed_here"]
noncomputable abbrev pW:List Str:=["_law_feed_here","_law_rows"]
noncomputable abbrev pX:List Str:=["_law_four","_law_cut_here"]
noncomputable abbrev pY:List Str:=["_law_script"]
noncomputable abbrev pZ:List Str:=["corner","rows","cut"]
noncomputable abbrev qa:List Str:=["a","b","rows","cut","x","y","high"]
noncomputable abbrev qb:List Str:=["rows","cut","gate","first","second"]
noncomputable abbrev qc:List Str:=["_law_four","_law_k","_law_cut_here","_law_one","_law_other"]
noncomputable abbrev qd:List Str:=["_law_y","_law_feed_here","_law_wide","_law_far","_law_base"]
noncomputable abbrev qe:List Str:=["_law_x","_law_feed_here","_law_far","_law_base"]
local macro_rules | `(tactic| walk_at "w")=>`(tactic| repeat walk_at "dl")
local macro_rules | `(tactic| walk_at "s")=>`(tactic| exact⟨rfl,rfl,rfl,by decide +kernel,rfl,by decide +kernel,by decide +kernel⟩)
noncomputable def top (i:Nat):Stmt:=PySem.Challenge.pw_heightrings_k34_areas_in_one_cell.main.body.getD i (.Pass ⟨0,0,0,0⟩)
noncomputable abbrev adl:=top 1
noncomputable abbrev am3:List Str:=pf
theorem akM:FnScope am3 pf (zk adl):=by walk_at "s"
noncomputable abbrev vU:=top 2
noncomputable abbrev ai7:List Str:=["rows","wide","tall"]
theorem sc_points:FnScope ai7 pf (zk vU):=by walk_at "s"
noncomputable abbrev jV:=top 3
noncomputable abbrev aeu:List Str:=["rows","x","y","wide","tall"]
theorem sc_has_point:FnScope aeu ph (zk jV):=by walk_at "s"
noncomputable abbrev jE:=top 4
noncomputable abbrev adm:List Str:=["rows","x","y","beside"]
theorem sc_neighbours:FnScope adm ph (zk jE):=by walk_at "s"
noncomputable abbrev aaX:=top 5
noncomputable abbrev akN:List Str:=["rows","wide","tall"]
theorem sc_cells:FnScope akN pf (zk aaX):=by walk_at "s"
noncomputable abbrev qC:=top 6
noncomputable abbrev afk:List Str:=ph
theorem aev:FnScope afk ph (zk qC):=by walk_at "s"
noncomputable abbrev va:=top 7
noncomputable abbrev aht:List Str:=pF
theorem afl:FnScope aht pF (zk va):=by walk_at "s"
noncomputable abbrev qD:=top 8
noncomputable abbrev afm:List Str:=["rows","x","y","around"]
theorem sc_cells_at:FnScope afm ph (zk qD):=by walk_at "s"
noncomputable abbrev vV:=top 13
noncomputable abbrev ai8:List Str:=pL
theorem sc_common:FnScope ai8 pL (zk vV):=by walk_at "s"
noncomputable abbrev jW:=top 14
noncomputable abbrev aew:List Str:=["top","bottom","by"]
theorem sc_shortened:FnScope aew pH (zk jW):=by walk_at "s"
noncomputable abbrev aaY:=top 15
noncomputable abbrev akO:List Str:=["some","top","bottom","more","parts"]
theorem sc_total:FnScope akO pG (zk aaY):=by walk_at "s"
noncomputable abbrev jX:=top 21
noncomputable abbrev aex:List Str:=["rows","at","row"]
theorem sc_ask_table:FnScope aex pf (zk jX):=by walk_at "s"
noncomputable abbrev adn:=top 22
noncomputable abbrev am4:List Str:=pI
theorem akP:FnScope am4 pI (zk adn):=by walk_at "s"
noncomputable abbrev vW:=top 23
noncomputable abbrev ai9:List Str:=["row"]
theorem ahu:FnScope ai9 ["row"] (zk vW):=by walk_at "s"
noncomputable abbrev ju:=top 25
noncomputable abbrev abX:List Str:=["rows","cut","point","x","y"]
theorem sc_stands_high:FnScope abX pB (zk ju):=by walk_at "s"
noncomputable abbrev jv:=top 26
noncomputable abbrev abY:List Str:=["gate","x","y","way"]
theorem sc_gate_points:FnScope abY ["gate"] (zk jv):=by walk_at "s"
noncomputable abbrev qE:=top 27
noncomputable abbrev afn:List Str:=pM
theorem aey:FnScope afn pM (zk qE):=by walk_at "s"
noncomputable abbrev vb:=top 28
noncomputable abbrev ahv:List Str:=qb
theorem sc_is_open:FnScope ahv pA (zk vb):=by walk_at "s"
noncomputable abbrev jF:=top 29
noncomputable abbrev ado:List Str:=["cell","x","y"]
theorem sc_cell_gates:FnScope ado ["cell"] (zk jF):=by walk_at "s"
noncomputable abbrev jG:=top 30
noncomputable abbrev adp:List Str:=pj
theorem abZ:FnScope adp pj (zk jG):=by walk_at "s"
noncomputable abbrev yM:=top 31
noncomputable abbrev vX:List Str:=["rows","cut","cell","x","y"]
theorem sc_has_high_middle:FnScope vX pj (zk yM):=by walk_at "s"
noncomputable abbrev qG:=top 33
noncomputable abbrev afo:List Str:=["rows","cut","gate","x","y","way","part","whole"]
theorem sc_place_of:FnScope afo pA (zk qG):=by walk_at "s"
noncomputable abbrev aaZ:=top 34
noncomputable abbrev akQ:List Str:=qb
theorem sc_share:FnScope akQ pA (zk aaZ):=by walk_at "s"
noncomputable abbrev vc:=top 36
noncomputable abbrev ahw:List Str:=["rows","cut","told","placed","point","within","other"]
theorem sc_regions:FnScope ahw pz (zk vc):=by walk_at "s"
noncomputable abbrev vd:=top 37
noncomputable abbrev ahx:List Str:=["rows","cut","places","at","word","within","point"]
theorem sc_indexes:FnScope ahx pz (zk vd):=by walk_at "s"
noncomputable abbrev jH:=top 38
noncomputable abbrev adq:List Str:=["rows","cut","start","found","waiting","point","other"]
theorem sc_all_joined:FnScope adq pS (zk jH):=by walk_at "s"
noncomputable abbrev vY:=top 39
noncomputable abbrev aja:List Str:=["rows","cut","point","x","y","high","beside","aslant"]
theorem sc_joined:FnScope aja pB (zk vY):=by walk_at "s"
noncomputable abbrev jk:=top 41
noncomputable abbrev abD:List Str:=["rows","cut","region_at","parts","cell","piece"]
theorem sc_region_areas:FnScope abD pz (zk jk):=by walk_at "s"
noncomputable abbrev vZ:=top 42
noncomputable abbrev ajb:List Str:=["rows","cut","cell","x","y","highs","lows"]
theorem sc_pieces:FnScope ajb pj (zk vZ):=by walk_at "s"
noncomputable abbrev ve:=top 43
noncomputable abbrev ahy:List Str:=["rows","cut","cell","piece","x","y","above","left","below","right","start","end","found","corner","gate","after"]
theorem sc_outline:FnScope ahy pT (zk ve):=by walk_at "s"
noncomputable abbrev jI:=top 44
noncomputable abbrev ads:List Str:=["around","after","top","bottom"]
theorem sc_field_area:FnScope ads ["around"] (zk jI):=by walk_at "s"
noncomputable abbrev qH:=top 46
noncomputable abbrev vH:List Str:=["_law_script","_law_k","_law_cell"]
theorem sc_law_feed:FnScope vH pU (zk qH):=by walk_at "s"
noncomputable abbrev qI:=top 47
noncomputable abbrev afp:List Str:=["_law_feed_here","_law_many","_law_found"]
theorem sc_law_draw:FnScope afp pJ (zk qI):=by walk_at "s"
noncomputable abbrev jJ:=top 48
noncomputable abbrev adt:List Str:=pN
theorem ab0:FnScope adt pN (zk jJ):=by walk_at "s"
noncomputable abbrev jY:=top 49
noncomputable abbrev aez:List Str:=["_law_feed_here","_law_wide","_law_high","_law_far","_law_base"]
theorem sc_law_table:FnScope aez pV (zk jY):=by walk_at "s"
noncomputable abbrev vf:=top 50
noncomputable abbrev ahz:List Str:=["_law_feed_here","_law_rows","_law_row"]
theorem sc_law_cut:FnScope ahz pW (zk vf):=by walk_at "s"
noncomputable abbrev jK:=top 51
noncomputable abbrev adu:List Str:=pO
theorem sc_law_common:FnScope adu pO (zk jK):=by walk_at "s"
noncomputable abbrev jZ:=top 52
noncomputable abbrev aeA:List Str:=["_law_here","_law_there","_law_cut_here","_law_top"]
theorem sc_law_share:FnScope aeA pP (zk jZ):=by walk_at "s"
noncomputable abbrev jL:=top 53
noncomputable abbrev adv:List Str:=qc
theorem sc_law_corner:FnScope adv pC (zk jL):=by walk_at "s"
noncomputable abbrev vg:=top 54
noncomputable abbrev ahA:List Str:=qc
theorem sc_law_two:FnScope ahA pC (zk vg):=by walk_at "s"
noncomputable abbrev j4:=top 55
noncomputable abbrev aeB:List Str:=["_law_four","_law_cut_here","_law_highs","_law_found","_law_middle","_law_rest","_law_k","_law_alone"]
theorem sc_law_areas:FnScope aeB pX (zk j4):=by walk_at "s"
noncomputable abbrev aaD:=top 56
noncomputable abbrev agq:List Str:=["_law_script","_law_k","_law_feed_here","_law_rows","_law_cut_here","_law_four","_law_due","_law_at","_law_found","_law_region","_law_area","_law_top","_law_bottom","_law_by"]
theorem sc_law:FnScope agq pY (zk aaD):=by walk_at "s"
noncomputable def tab (rows:List (List Int)):PyData:=.list (rows.map fun r=>.list (r.map .int))
structure Good (w:Nat) (rows:List (List Int)):Prop where
 h1:2<=rows.length
 h2:rows.length<=7
 w1:2<=w
 w2:w<=7
 row:∀ r∈rows,r.length=w
 hgt:∀ r∈rows,∀ n∈r,-1000000000<=n/\n<=1000000000
theorem Good.ne {w:Nat} {rows:List (List Int)} (g:Good w rows):∃ r rs,rows=r :: rs:=by
 cases rows with
 | nil=>have:=g.h1;simp at this
 | cons r rs=>exact⟨r,rs,rfl⟩
theorem j5 {α β:Type} {F:α->β} {xs:List α} {k:Int} {j:Nat} (hk:(j:Int)=k) (h:j<xs.length):atI (xs.map F) k=some (F xs[j]):=by
 subst hk
 exact qv (by rw [apt,aph h];rfl)
local macro_rules | `(tactic| walk_at "dl")=>`(tactic| first
 | (with_reducible show PSd _ _ (jD _ (acH (yj _) (tC (V.int 0)) aat)) _ _;refine afW rfl ?_)
 | (with_reducible show PSd _ _ (jD _ (acH (yj _) (tC (V.int 1)) aat)) _ _;refine afX rfl ?_)
 | with_reducible refine zS ?_ | with_reducible refine acQ ?_ | with_reducible refine yB ?_ | with_reducible refine zV ?_ | with_reducible refine acP ?_ | with_reducible refine vp ?_
 | with_reducible refine zj ?_ | with_reducible refine yD rfl ?_ | with_reducible refine zt ?_ | with_reducible refine ya ?_
 | with_reducible refine jh ?_ | with_reducible refine t_b ?_ | with_reducible refine adX ?_ | with_reducible refine akd ?_ | with_reducible refine ach ?_ | with_reducible refine jw ?_
 | with_reducible refine afU ?_ | with_reducible refine acg ?_ | with_reducible refine yK ?_ | with_reducible refine zP ?_ | with_reducible refine qS ?_
 | with_reducible refine amv ?_ | with_reducible refine acO ?_ | with_reducible refine d_orV ?_ | with_reducible refine d_notV ?_
 | with_reducible refine zB ?_ | with_reducible refine ae5 ?_ | with_reducible refine alx ?_ | with_reducible refine aif ?_
 | (with_reducible show PEd _ _ (yj _) _ _;refine ze rfl ?_)
 | (with_reducible show PEd _ _ (tOp (aaG _) (yj _) _) _ _;refine aly rfl ?_)
 | with_reducible refine yL ?_ | with_reducible refine yP ?_
 | (with_reducible show PAd _ _ (yb (yj _) _) _ _;refine aii rfl ?_)
 | with_reducible refine zq ?_ | with_reducible refine zU ?_
 | with_reducible refine y9 ?_ | with_reducible refine aaw ?_ | with_reducible refine alz ?_ | with_reducible refine aij ?_ | with_reducible refine aik ?_ | with_reducible refine ail ?_ | with_reducible refine abc ?_
 | (with_reducible show (∃ _,_) \/ (∃ _,_);refine Or.inl ⟨_,rfl,?_⟩) | refine⟨_,rfl,?_⟩ | refine⟨_,_,rfl,?_⟩
 | (with_reducible show (_=_/\∀ _,_) \/ _;first | refine Or.inl ⟨rfl,fun a ha=>?_⟩ | refine Or.inr ⟨rfl,fun b hb hb'=>?_⟩)
 | refine⟨rfl,?_⟩
 | (refine And.intro ?side ?_;(case side=>first | omega | exact Int.ediv_nonneg (by omega) (by omega) | exact asp _ (by omega) | exact aq7 _ (by omega) | decide | exact⟨by decide,by decide,by decide⟩ | exact⟨by omega,by omega⟩ | exact Or.inl ⟨by omega,by omega⟩ | exact Or.inr ⟨by omega,by omega⟩ | (refine apO (arw (by rfl)) (show _<=1000 by decide)) | ((repeat' apply And.intro) <;> first | rfl | omega | decide | assumption) | (simp [atD]))))
section
variable {P:Program} {w:World} {K:apj} {mg:Str->Option Value} {base:Heap} {k:Nat}
theorem akR (F:Def K mg "size" adl pf) (uaa:mg "len"=none):FnIn P w K mg base (k+1) "size" pf (spD K 1 (fun (c:List (List Int)×Nat) xs=>xs=[.dat (tab c.1)]/\Good c.2 c.1) fun c r=>r=.tuple [.int c.2,.int c.1.length]):=by
 refine F.ok akM rfl fun fa cdv A outer s H E hr=>⟨_,(zm (zC (zG (za (zM (yJ (K:=K) rfl) rfl uaa aqI (za (zx (zp (K:=K) rfl) (pv 0) zc (fun _ _=>rfl)) zb)) (za (zM (yJ (K:=K) rfl) rfl uaa aqI (za (pv 0) zb)) zb))))),?_⟩
 rintro f xs ⟨rows,wd⟩ hl ⟨rfl,g⟩
 try dsimp only [yn,zo]
 obtain⟨r,rs,rfl⟩:=g.ne
 walk_at "w"
 refine⟨_,j5 (j:=0) rfl (by simp),?_⟩
 walk_at "w"
 have hw:=g.row r apo
 show PyData.tuple [.int _,.int _]=_
 rw [api,api]
 show PyData.tuple [.int (r.length:Nat),_]=_
 rw [hw]
theorem akS (F:Def K mg "fits" adn pI) (uaa:mg "len"=none) (uan:∃ t,mg "FEWEST"=some (.int 2 t)) (uao:∃ t,mg "MOST"=some (.int 7 t)) :
  FnIn P w K mg base (k+1) "fits" pI (spD K 1 (fun (c:List PyData) xs=>xs=[.dat (.list c)]) fun c r=>r=.bool (decide (2<=c.length/\c.length<=7))):=by
 obtain⟨_,uan⟩:=uan
 obtain⟨_,uao⟩:=uao
 refine F.ok akP rfl fun fa cdv A outer s H E hr=>⟨_,(zm (zC (aa8 ab5 ab5 (vL rfl uan) (zM (yJ (K:=K) rfl) rfl uaa aqI (za (pv 0) zb)) (vL rfl uao)))),?_⟩
 rintro f xs ds hl rfl
 try dsimp only [yn,zo]
 walk_at "w"
 by_cases h:2<=ds.length
 ·rw [if_pos (by simp;omega)]
  walk_at "w"
  show PyData.bool _=_
  congr 1
  by_cases h7:ds.length<=7 <;> simp [h,h7] <;> omega
 ·rw [if_neg (by simp;omega)]
  show PyData.bool _=_
  congr 1
  simp [h]
theorem ahB (F:Def K mg "is_row" vW ["row"]) (uaf:mg "min"=none) (uah:mg "max"=none) (uap:∃ t,mg "LEAST"=some (.int (-1000000000) t)) (uaq:∃ t,mg "GREATEST"=some (.int 1000000000 t))
  (uaw:FnIn P w K mg base k "fits" pI (spD K 1 (fun (c:List PyData) xs=>xs=[.dat (.list c)]) fun c r=>r=.bool (decide (2<=c.length/\c.length<=7)))) :
  FnIn P w K mg base (k+1) "is_row" ["row"] (spD K 1 (fun (c:List Int) xs=>xs=[.dat (.list (c.map .int))]) fun c r=>r=.bool (decide (2<=c.length/\c.length<=7/\∀ n∈c,-1000000000<=n/\n<=1000000000))):=by
 obtain⟨_,uap⟩:=uap
 obtain⟨_,uaq⟩:=uaq
 refine F.ok ahu rfl fun fa cdv A outer s H E hr=>⟨_,(zm (zC (aa3 (zg uaw hr rfl (za (pv 0) zb)) (aa3 (jt ab5 (vL rfl uap) (zM (aha (K:=K) rfl rfl) rfl uaf boot_min (za (pv 0) zb)) (yo _)) (acG (jt ab5 (zM (ahb (K:=K) rfl rfl) rfl uah boot_max (za (pv 0) zb)) (vL rfl uaq) (yo _))))))),?_⟩
 rintro f xs c hl rfl
 try dsimp only [yn,zo]
 walk_at "w"
 refine zu (c.map .int) ?_
 walk_at "w"
 rintro r rfl
 rw [api]
 walk_at "w"
 by_cases h:2<=c.length/\c.length<=7
 ·have hne:c≠[]:=by rintro rfl;simp at h
  rw [if_pos (by simpa using h)]
  walk_at "w"
  intro M hM hM'
  walk_at "w"
  by_cases h2:-1000000000<=M
  ·rw [if_pos (by simpa using h2)]
   walk_at "w"
   intro M' hN hN'
   walk_at "w"
   show PyData.bool _=_
   congr 1
   rw [decide_eq_decide]
   refine⟨fun q=>⟨h.1,h.2,fun n hn=>⟨Int.le_trans h2 (hM' n hn),Int.le_trans (hN' n hn) q⟩⟩,fun q=>(q.2.2 M' hN).2⟩
  ·rw [if_neg (by simpa using h2)]
   show PyData.bool _=_
   congr 1
   symm
   rw [decide_eq_false_iff_not]
   exact fun q=>h2 (q.2.2 M hM).1
 ·rw [if_neg (by simpa using h)]
  show PyData.bool _=_
  congr 1
  symm
  rw [decide_eq_false_iff_not]
  exact fun q=>h ⟨q.1,q.2.1⟩
noncomputable abbrev ajc (K:apj):Sp:=spD K 1 (fun (c:List (List Int)×Nat) xs=>xs=[.dat (tab c.1)]/\Good c.2 c.1) fun _ r=>r=.bool true
theorem am5 (F:Def K mg "ask_table" jX pf) (uaa:mg "len"=none) (uai:mg "enumerate"=none)
  (uaw:FnIn P w K mg base k "fits" pI (spD K 1 (fun (c:List PyData) xs=>xs=[.dat (.list c)]) fun c r=>r=.bool (decide (2<=c.length/\c.length<=7))))
  (uaY:FnIn P w K mg base k "is_row" ["row"] (spD K 1 (fun (c:List Int) xs=>xs=[.dat (.list (c.map .int))]) fun c r=>r=.bool (decide (2<=c.length/\c.length<=7/\∀ n∈c,-1000000000<=n/\n<=1000000000)))) :
  FnIn P w K mg base (k+1) "ask_table" pf (ajc K):=by
 refine F.ok sc_ask_table rfl fun fa cdv A outer s H E hr=>⟨_,(zd (y6 (vy (ym (K:=K) rfl (zg uaw hr rfl (za (pv 0) zb)) (fun _=>rfl))) (zm adN) yk) (zd (jo ap4 rfl (ad3 (K:=K) rfl rfl uai (za (pv 0) zb)) (zN (K:=K) (n:=2) rfl rfl (zh (zf (i:=1) sc_ask_table.nd rfl (Or.inl rfl) (Or.inr rfl)) (zh (zf (i:=2) sc_ask_table.nd rfl (Or.inl rfl) (Or.inr rfl)) zL))) (zm (y6 (PW.pt (afK (ye (vC (K:=K) rfl hr.units) (zM (yJ (K:=K) rfl) rfl uaa aqI (za (pv 2) zb)) (zM (yJ (K:=K) rfl) rfl uaa aqI (za (zx (zp (K:=K) rfl) (pv 0) zc (fun _ _=>rfl)) zb)) (yo _)) (acF (vy (ym (K:=K) rfl (zg uaY hr rfl (za (pv 2) zb)) (fun _=>rfl)))))) (zm adN) yk))) (zm (zC vJ)))),?_⟩
 rintro f xs ⟨rows,wd⟩ hl ⟨rfl,g⟩
 try dsimp only [yn,zo]
 have g1:=g.h1
 have g2:=g.h2
 walk_at "w"
 refine zu (rows.map fun r=>.list (r.map .int)) ?_
 walk_at "w"
 rintro r rfl
 dsimp only at g1 g2
 refine⟨_,rfl,?_⟩
 rw [api,decide_eq_true ⟨g1,g2⟩,aqv,if_neg apk]
 walk_at "w"
 refine ae6 ?_
 walk_at "w"
 refine⟨fun i ρ=>∃ a b,ρ=[some (.dat (tab rows)),a,b],⟨_,_,rfl⟩,?_,?_⟩
 ·rintro i d ρ hd ⟨a,b,rfl⟩
  rw [apt] at hd
  cases hr:rows[i]? with
  | none=>rw [hr] at hd;cases hd
  | some r =>
   rw [hr] at hd
   cases hd
   have hm:=apv hr
   have hw:=g.row r hm
   obtain⟨r0,rs,hrs⟩:=g.ne
   dsimp only at hrs
   subst hrs
   have hw0:=g.row r0 apo
   walk_at "w"
   refine⟨_,j5 (j:=0) rfl (by simp),?_⟩
   walk_at "w"
   dsimp only at hw hw0
   rw [if_pos rfl,api,api]
   show (if (!(((r.length:Nat):Int) == ((r0.length:Nat):Int)))=true then _ else _)
   rw [hw,hw0,beq_self_eq_true,aqv,if_neg apk]
   walk_at "w"
   refine zu r ?_
   walk_at "w"
   rintro _ rfl
   refine⟨_,rfl,?_⟩
   have w1:=g.w1
   have w2:=g.w2
   dsimp only at w1 w2
   rw [decide_eq_true ⟨by omega,by omega,g.hgt r hm⟩,aqv,if_neg apk]
   walk_at "w"
   exact⟨_,_,rfl⟩
 ·rintro ρ ⟨a,b,rfl⟩
  walk_at "w"
  rfl
theorem akT (F:Def K mg "_law_draw" qI pJ):FnIn P w K mg base (k+1) "_law_draw" pJ (spD K 2 (fun (c:Int) xs=>xs=[.feed,.dat (.int c)]/\0<c/\c<1152921504606846976) fun c r=>∃ i:Int,r=.int i/\0<=i/\i<c):=by
 refine F.ok sc_law_draw rfl fun fa cdv A outer s H E hr=>⟨_,(zd (y6 (ye ah6 (zx (zp (K:=K) rfl) (pv 0) zc (fun _ _=>rfl)) (zl aa7 zc zc) (yo _)) (zd (zK (i:=2) sc_law_draw.nd rfl (Or.inl rfl) (zl yV (zx (zp (K:=K) rfl) (pv 0) zc (fun _ _=>rfl)) (pv 1))) (zd (yg (zl ad4 (zx (zp (K:=K) rfl) (pv 0) zc (fun _ _=>rfl)) (pv 1)) (vz (pv 0) zc set_list)) (zm (zC (pv 2))))) yk) (zd (yg (zl yV (zl zO (zl zO (zl vA (zx (zp (K:=K) rfl) (pv 0) zc (fun _ _=>rfl)) zc) (zl yV (zx (zp (K:=K) rfl) (pv 0) zc (fun _ _=>rfl)) zc)) zc) zc) (vz (pv 0) zc set_list)) (zm (zC (zl yV (zl ad4 (zl yV (zl vA (zx (zp (K:=K) rfl) (pv 0) zc (fun _ _=>rfl)) zc) zc) zc) (pv 1)))))),?_⟩
 rintro f xs c hl ⟨rfl,c0,c1⟩
 try dsimp only [yn,zo]
 walk_at "w"
 split
 ·walk_at "w"
  exact aq7 _ c0
 ·walk_at "w"
  exact aq7 _ c0
noncomputable abbrev afq (K:apj):Sp:=spD K 2 (fun (c:Int) xs=>xs=[.feed,.dat (.int c)]/\0<c/\c<1152921504606846976) fun c r=>∃ i:Int,r=.int i/\0<=i/\i<c
noncomputable abbrev aeC (K:apj):Sp:=spD K 3 (fun (c:Int×Int) xs=>xs=[.feed,.dat (.int c.1),.dat (.int c.2)]/\0<=c.1/\c.1<=10/\-1000000000<=c.2/\c.2<=999999991) fun c r=>∃ i:Int,r=.int i/\-1000000000<=i/\i<=1000000000
theorem ahC (F:Def K mg "_law_height" jJ pN) (uaf:mg "min"=none) (uad:FnIn P w K mg base k "_law_draw" pJ (afq K)) :
  FnIn P w K mg base (k+1) "_law_height" pN (aeC K):=by
 refine F.ok ab0 rfl fun fa cdv A outer s H E hr=>⟨_,(zd (y6 (ye adO (pv 1) zc (yo _)) (zm (zC (zl zO (pv 2) (zg uad hr rfl (za (pv 0) (za (pv 1) zb)))))) yk) (zm (zC (zM (ab6 rfl) rfl uaf boot_min (za (zl aa7 zc zc) (za (zl yh (zl zO (zl vA (zg uad hr rfl (za (pv 0) (za zc zb))) zc) (zg uad hr rfl (za (pv 0) (za zc zb)))) (zl aa7 zc zc)) zb)))))),?_⟩
 rintro f xs ⟨far,bs⟩ hl ⟨rfl,c0,c1,c2,c3⟩
 dsimp only at c0 c1 c2 c3
 try dsimp only [yn,zo]
 walk_at "w"
 by_cases h:0<far
 ·rw [if_pos (by simpa using h)]
  walk_at "w"
  refine zu far ?_
  walk_at "w"
  rintro r ⟨i,rfl,h1,h2⟩
  walk_at "w"
  show bs+i<=1000000000
  omega
 ·rw [if_neg (by simpa using h)]
  walk_at "w"
  refine zu 20001 ?_
  walk_at "w"
  rintro r ⟨i,rfl,h1,h2⟩
  walk_at "w"
  refine zu 100000 ?_
  walk_at "w"
  rintro r ⟨j,rfl,h3,h4⟩
  walk_at "w"
  have e9:(10:Int) ^ Int.toNat 9=1000000000:=by decide
  rw [e9]
  omega
noncomputable abbrev agr (K:apj):Sp:=spD K 1 (fun (_:Unit) xs=>xs=[.feed]) fun _ r=>∃ wd rows,r=tab rows/\Good wd rows
theorem menu {ds:List PyData} {i n:Int} (h0:0<=i) (h1:i<n) (hn:n=(ds.length:Int)):∃ d,atI ds i=some d/\d∈ds:=by
 have hi:i.toNat<ds.length:=by omega
 have e:i=((i.toNat:Nat):Int):=by omega
 have q:=qv (aph hi)
 rw [<-e] at q
 exact⟨_,q,apS hi⟩
theorem ags:∀ {es:List PyData} {p:Int->Prop},(∀ (i:Nat) e,es[i]?=some e->∃ n:Int,e=.int n/\p n)->∃ ns:List Int,es=ns.map .int/\∀ n∈ns,p n
 | [],p,_=>⟨[],rfl,fun n h=>by cases h⟩
 | e :: es,p,h=>by
  obtain⟨n,rfl,hn⟩:=h 0 e rfl
  obtain⟨ns,rfl,hs⟩:=ags (es:=es) (p:=p) fun i e' he=>h (i+1) e' (by simpa using he)
  exact⟨n :: ns,rfl,fun m hm=>by
   rcases apq.mp hm with rfl | hm
   ·exact hn
   ·exact hs m hm⟩
theorem agt:∀ {es:List PyData} {p:List Int->Prop},(∀ (i:Nat) e,es[i]?=some e->∃ r:List Int,e=.list (r.map .int)/\p r)->∃ rows:List (List Int),es=rows.map (fun r=>.list (r.map .int))/\∀ r∈rows,p r
 | [],p,_=>⟨[],rfl,fun n h=>by cases h⟩
 | e :: es,p,h=>by
  obtain⟨n,rfl,hn⟩:=h 0 e rfl
  obtain⟨ns,rfl,hs⟩:=agt (es:=es) (p:=p) fun i e' he=>h (i+1) e' (by simpa using he)
  exact⟨n :: ns,rfl,fun m hm=>by
   rcases apq.mp hm with rfl | hm
   ·exact hn
   ·exact hs m hm⟩
theorem ajd (F:Def K mg "_law_table" jY pV) (uab:mg "range"=none) (uad:FnIn P w K mg base k "_law_draw" pJ (afq K)) (uaZ:FnIn P w K mg base k "_law_height" pN (aeC K)) :
  FnIn P w K mg base (k+1) "_law_table" pV (agr K):=by
 refine F.ok sc_law_table rfl fun fa cdv A outer s H E hr=>⟨_,(zd (zK (i:=1) sc_law_table.nd rfl (Or.inr rfl) (zl zO zc (zg uad hr rfl (za (pv 0) (za zc zb))))) (zd (zK (i:=2) sc_law_table.nd rfl (Or.inl rfl) (zl zO zc (zg uad hr rfl (za (pv 0) (za zc zb))))) (zd (zK (i:=3) sc_law_table.nd rfl (Or.inr rfl) (zx (zp (K:=K) rfl) (yt (za zc (za zc (za zc (za zc (za zc (za zc (za zc zb)))))))) (zg uad hr rfl (za (pv 0) (za zc zb))) (fun _ _=>rfl))) (zd (zK (i:=4) sc_law_table.nd rfl (Or.inr rfl) (zx (zp (K:=K) rfl) (yt (za zc (za (zl yh zc zc) (za (zl yh (zl aa7 zc zc) zc) (za (zl yh zc (zl aa7 zc zc)) zb))))) (zg uad hr rfl (za (pv 0) (za zc zb))) (fun _ _=>rfl))) (zm (zC (yw (N:=qd) (own:=1) (fr:=[0,1,3,4]) ⟨rfl,by decide +kernel,of_decide_eq_true (by kernel_rfl),of_decide_eq_true (by kernel_rfl),of_decide_eq_true (by kernel_rfl),rfl⟩ rfl (y7 rfl uab (za (pv 2) zb)) (fun _ _ _ _=>(zf (i:=0) (show (qd:List Str).Nodup by decide +kernel) rfl (Or.inl rfl) (Or.inr rfl))) (fun _ _ _ _=>yr) (fun _ _ _ _=>(yw (N:=qe) (own:=1) (fr:=[1,3,4]) ⟨rfl,by decide +kernel,of_decide_eq_true (by kernel_rfl),of_decide_eq_true (by kernel_rfl),of_decide_eq_true (by kernel_rfl),rfl⟩ rfl (y7 rfl uab (za (pv 2) zb)) (fun _ _ _ _=>(zf (i:=0) (show (qe:List Str).Nodup by decide +kernel) rfl (Or.inl rfl) (Or.inr rfl))) (fun _ _ _ _=>yr) (fun _ _ _ _=>(zg uaZ hr rfl (za (pv 1) (za (pv 2) (za (pv 3) zb))))) rfl rfl (fun _=>rfl))) rfl rfl (fun _=>rfl)))))))),?_⟩
 rintro f xs ⟨⟩ hl rfl
 try dsimp only [yn,zo]
 walk_at "w"
 refine zu 6 ?_
 walk_at "w"
 rintro r ⟨i1,rfl,h1,h2⟩
 walk_at "w"
 refine zu 6 ?_
 walk_at "w"
 rintro r ⟨i2,rfl,h3,h4⟩
 walk_at "w"
 refine zu 7 ?_
 walk_at "w"
 rintro r ⟨i3,rfl,h5,h6⟩
 refine⟨_,rfl,?_⟩
 obtain⟨d3,e3,m3⟩:=menu (ds:=[.int 2,.int 3,.int 5,.int 10,.int 2,.int 3,.int 0]) h5 h6 (by simp)
 obtain⟨far,rfl,f0,f1⟩:∃ n:Int,d3=.int n/\0<=n/\n<=10:=by
  simp only [apq,ap0,or_false] at m3
  rcases m3 with rfl | rfl | rfl | rfl | rfl | rfl | rfl <;> exact⟨_,rfl,by decide,by decide⟩
 refine⟨_,e3,?_⟩
 walk_at "w"
 refine zu 4 ?_
 walk_at "w"
 rintro r ⟨i4,rfl,h7,h8⟩
 refine⟨_,rfl,?_⟩
 obtain⟨d4,e4,m4⟩:=menu (ds:=[.int 0,.int (0 - 3),.int (10 ^ Int.toNat 9 - 9),.int (0 - 10 ^ Int.toNat 9)]) h7 h8 (by simp)
 obtain⟨bs,rfl,b0,b1⟩:∃ n:Int,d4=.int n/\-1000000000<=n/\n<=999999991:=by
  simp only [apq,ap0,or_false] at m4
  rcases m4 with rfl | rfl | rfl | rfl <;> exact⟨_,rfl,by decide,by decide⟩
 refine⟨_,e4,?_⟩
 walk_at "w"
 refine adZ ?_
 walk_at "w"
 refine⟨fun _ e=>∃ r:List Int,e=.list (r.map .int)/\r.length=(2+i1).toNat/\∀ n∈r,-1000000000<=n/\n<=1000000000,fun D i hi=>?_,fun es hes hR=>?_⟩
 ·refine adZ ?_
  walk_at "w"
  refine⟨fun _ e=>∃ n:Int,e=.int n/\-1000000000<=n/\n<=1000000000,fun D' i' hi'=>?_,fun es hes hR=>?_⟩
  ·refine zu (far,bs) ?_
   walk_at "w"
   rintro r ⟨n,rfl,n0,n1⟩
   exact⟨n,rfl,n0,n1⟩
  ·obtain⟨ns,rfl,hs⟩:=ags (p:=fun n=>-1000000000<=n/\n<=1000000000) hR
   exact⟨ns,rfl,by rw [api] at hes;exact hes,hs⟩
 ·obtain⟨rows,rfl,hs⟩:=agt (p:=fun r=>r.length=(2+i1).toNat/\∀ n∈r,-1000000000<=n/\n<=1000000000) hR
  rw [api] at hes
  exact⟨(2+i1).toNat,rows,rfl,by omega,by omega,by omega,by omega,fun r hr=>(hs r hr).1,fun r hr=>(hs r hr).2⟩
noncomputable abbrev alP (K:apj):Sp:=spD K 2 (fun (c:List (List Int)×Nat) xs=>xs=[.feed,.dat (tab c.1)]/\Good c.2 c.1) fun _ r=>∃ n:Int,r=.int n/\-1000000001<=n/\n<=1000000000
local macro_rules | `(tactic| walk_at "dl")=>`(tactic| first
 | (with_reducible show PSd _ _ (jD _ (acH (yj _) (tC (V.int 0)) aat)) _ _;refine afW rfl ?_)
 | (with_reducible show PSd _ _ (jD _ (acH (yj _) (tC (V.int 1)) aat)) _ _;refine afX rfl ?_)
 | with_reducible refine zS ?_ | with_reducible refine acQ ?_ | with_reducible refine yB ?_ | with_reducible refine zV ?_ | with_reducible refine acP ?_ | with_reducible refine vp ?_
 | with_reducible refine zj ?_ | with_reducible refine yD rfl ?_ | with_reducible refine zt ?_ | with_reducible refine ya ?_
 | with_reducible refine jh ?_ | with_reducible refine t_b ?_ | with_reducible refine adX ?_ | with_reducible refine akd ?_ | with_reducible refine ach ?_ | with_reducible refine jw ?_
 | with_reducible refine afU ?_ | with_reducible refine acg ?_ | with_reducible refine yK ?_ | with_reducible refine zP ?_ | with_reducible refine qS ?_
 | with_reducible refine amv ?_ | with_reducible refine acO ?_ | with_reducible refine d_orV ?_ | with_reducible refine d_notV ?_
 | with_reducible refine zB ?_ | with_reducible refine ae5 ?_ | with_reducible refine alx ?_ | with_reducible refine aif ?_
 | (with_reducible show PEd _ _ (yj _) _ _;refine ze rfl ?_)
 | (with_reducible show PEd _ _ (tOp (aaG _) (yj _) _) _ _;refine aly rfl ?_)
 | with_reducible refine yL ?_ | with_reducible refine yP ?_
 | (with_reducible show PAd _ _ (yb (yj _) _) _ _;refine aii rfl ?_)
 | with_reducible refine zq ?_ | with_reducible refine zU ?_
 | with_reducible refine d_catT ?_ | with_reducible refine abh ?_ | with_reducible refine abf ?_ | with_reducible refine abg ?_ | with_reducible refine aiv ?_ | with_reducible refine d_tupof ?_ | with_reducible refine jC ?_
 | with_reducible refine y9 ?_ | with_reducible refine aaw ?_ | with_reducible refine alz ?_ | with_reducible refine aij ?_ | with_reducible refine aik ?_ | with_reducible refine ail ?_ | with_reducible refine abc ?_
 | (with_reducible show (∃ _,_) \/ (∃ _,_);first | refine Or.inl ⟨_,rfl,?_⟩ | refine Or.inr ⟨_,rfl,?_⟩) | refine⟨_,rfl,?_⟩ | refine⟨_,_,rfl,?_⟩
 | (with_reducible show (_=_/\∀ _,_) \/ _;first | refine Or.inl ⟨rfl,fun a ha=>?_⟩ | refine Or.inr ⟨rfl,fun b hb hb'=>?_⟩)
 | (with_reducible show PyData.canLay0 _=true/\_;refine And.intro (by first | rfl | assumption | decide +kernel) ?_)
 | (with_reducible show min _ _<=60/\_;refine And.intro (by first | assumption | (simp [atD,apE];done)) ?_)
 | refine⟨rfl,?_⟩
 | (refine And.intro ?side ?_;(case side=>first | omega | exact Int.ediv_nonneg (by omega) (by omega) | exact asp _ (by omega) | exact aq7 _ (by omega) | decide | exact⟨by decide,by decide,by decide⟩ | exact⟨by omega,by omega⟩ | exact Or.inl ⟨by omega,by omega⟩ | exact Or.inr ⟨by omega,by omega⟩ | (refine apO (arw (by rfl)) (show _<=1000 by decide)) | ((repeat' apply And.intro) <;> first | rfl | omega | decide | assumption) | (simp [atD]))))
theorem yR {b:Bool} {p q:Prop} (h1:b=true->p) (h2:b=false->q):if b=true then p else q:=by
 cases b with
 | true=>rw [if_pos rfl];exact h1 rfl
 | false=>rw [if_neg apk];exact h2 rfl
noncomputable def yx (rows:List (List Int)) (wd:Nat) (x y:Int):Bool:=decide (0<=x/\x<wd) && decide (0<=y/\y<rows.length)
noncomputable def zX (rows:List (List Int)) (x y:Int):Int:=(rows.getD y.toNat []).getD x.toNat 0
theorem yZ {rows:List (List Int)} {wd:Nat} {x y:Int} (h:yx rows wd x y=true):0<=x/\x<wd/\0<=y/\y<rows.length:=by
 unfold yx at h
 rw [apu] at h
 have h1:=of_decide_eq_true h.1
 have h2:=of_decide_eq_true h.2
 omega
noncomputable def aaE (x y w:Int):PyData:=.tuple [.int x,.int y,.int w]
noncomputable def px (x:Int) (w:Int):Int:=if w=0 then x+1 else x
noncomputable def py (y:Int) (w:Int):Int:=if w=0 then y else y+1
noncomputable def v3 (rows:List (List Int)) (wd:Nat) (x y w:Int):Bool:=decide (w=0 \/ w=1) && (yx rows wd x y && yx rows wd (px x w) (py y w))
noncomputable def yF (rows:List (List Int)) (wd:Nat) (cut x y w:Int):Bool:=v3 rows wd x y w && (decide (cut<zX rows x y) != decide (cut<zX rows (px x w) (py y w)))
theorem adw (a b:Int):apP (.int a) (.int b)=decide (a=b):=rfl
theorem aje (a b:Bool):apP (.bool a) (.bool b)=(a == b):=rfl
noncomputable abbrev afr (K:apj):Sp:=spD K 1 (fun (c:List (List Int)×Nat) xs=>xs=[.dat (tab c.1)]/\Good c.2 c.1) fun c r=>r=.tuple [.int c.2,.int c.1.length]
noncomputable abbrev agu (K:apj):Sp:=spD K 3 (fun (c:List (List Int)×Nat×Int×Int) xs=>xs=[.dat (tab c.1),.dat (.int c.2.2.1),.dat (.int c.2.2.2)]/\Good c.2.1 c.1) fun c r=>r=.bool (yx c.1 c.2.1 c.2.2.1 c.2.2.2)
theorem am6 (F:Def K mg "has_point" jV ph) (uar:FnIn P w K mg base k "size" pf (afr K)):FnIn P w K mg base (k+1) "has_point" ph (agu K):=by
 refine F.ok sc_has_point rfl fun fa cdv A outer s H E hr=>⟨_,(zd (yg (zg uar hr rfl (za (pv 0) zb)) (zN (K:=K) (n:=2) rfl rfl (zh (zf (i:=3) sc_has_point.nd rfl (Or.inl rfl) (Or.inr rfl)) (zh (zf (i:=4) sc_has_point.nd rfl (Or.inl rfl) (Or.inr rfl)) zL)))) (zm (zC (aa3 (aa8 ab5 ah5 zc (pv 1) (pv 3)) (acG (aa8 ab5 ah5 zc (pv 2) (pv 4))))))),?_⟩
 rintro f xs ⟨rows,wd,x,y⟩ hl ⟨rfl,g⟩
 try dsimp only [yn,zo]
 dsimp only at *
 refine zS (zV (zu (rows,wd) ?_))
 walk_at "w"
 rintro _ rfl
 walk_at "w"
 have fin:∀ b:Bool,b=yx rows wd x y->PyData.bool b=PyData.bool (yx rows wd x y):=fun b h=>by rw [h]
 refine yR (fun h1=>?_) fun h1=>?_
 ·have h1':=of_decide_eq_true h1
  walk_at "w"
  refine yR (fun h2=>?_) fun h2=>?_
  ·have h2':=of_decide_eq_true h2
   walk_at "w"
   refine yR (fun h3=>?_) fun h3=>?_
   ·have h3':=of_decide_eq_true h3
    walk_at "w"
    refine fin _ ?_
    unfold yx
    dsimp only at h2' ⊢
    rw [decide_eq_true (p:=(0<=x/\x<(wd:Int))) (by omega),ar0]
    exact decide_eq_decide.mpr (by omega)
   ·have h3':=of_decide_eq_false h3
    refine fin _ ?_
    unfold yx
    rw [decide_eq_false (p:=(0<=y/\y<(rows.length:Int))) (by omega),asz]
  ·have h2':=of_decide_eq_false h2
   refine fin _ ?_
   unfold yx
   dsimp only at h2'
   rw [decide_eq_false (p:=(0<=x/\x<(wd:Int))) (by omega),aro]
 ·have h1':=of_decide_eq_false h1
  refine⟨_,rfl,?_⟩
  rw [if_neg apk]
  refine fin _ ?_
  unfold yx
  rw [decide_eq_false (p:=(0<=x/\x<(wd:Int))) (by omega),aro]
noncomputable abbrev abE (K:apj):Sp:=spD K 3 (fun (c:List (List Int)×Nat×Int×Int×Int) xs=>xs=[.dat (tab c.1),.dat (.int c.2.2.1),.dat (.tuple [.int c.2.2.2.1,.int c.2.2.2.2])]/\Good c.2.1 c.1/\yx c.1 c.2.1 c.2.2.2.1 c.2.2.2.2=true) fun c r=>r=.bool (decide (c.2.2.1<zX c.1 c.2.2.2.1 c.2.2.2.2))
theorem abF {rows:List (List Int)} {wd:Nat} {x y:Int} (g:Good wd rows) (h:yx rows wd x y=true):∃ r:List Int,atI (rows.map fun q=>PyData.list (q.map .int)) y=some (.list (r.map .int))/\atI (r.map PyData.int) x=some (.int (zX rows x y)):=by
 obtain⟨x0,x1,y0,y1⟩:=yZ h
 have hy:y.toNat<rows.length:=by omega
 have hr:=g.row _ (apS hy)
 have hx:x.toNat<rows[y.toNat].length:=by omega
 refine⟨rows[y.toNat],j5 (F:=fun q:List Int=>PyData.list (q.map .int)) (by omega) hy,?_⟩
 rw [j5 (j:=x.toNat) (by omega) hx]
 unfold zX
 rw [apn,apn,aph hy,ash,aph hx]
 rfl
theorem akU (F:Def K mg "stands_high" ju pB):FnIn P w K mg base (k+1) "stands_high" pB (abE K):=by
 refine F.ok sc_stands_high rfl fun fa cdv A outer s H E hr=>⟨_,(zd (yg (pv 2) (zN (K:=K) (n:=2) rfl rfl (zh (zf (i:=3) sc_stands_high.nd rfl (Or.inl rfl) (Or.inr rfl)) (zh (zf (i:=4) sc_stands_high.nd rfl (Or.inl rfl) (Or.inr rfl)) zL)))) (zm (zC (jt adO (zx (zp (K:=K) rfl) (zx (zp (K:=K) rfl) (pv 0) (pv 4) (fun _ _=>rfl)) (pv 3) (fun _ _=>rfl)) (pv 1) (yo _))))),?_⟩
 rintro f xs ⟨rows,wd,cut,x,y⟩ hl ⟨rfl,g,hi⟩
 try dsimp only [yn,zo]
 dsimp only at *
 obtain⟨r,h1,h2⟩:=abF g hi
 unfold tab
 walk_at "w"
 refine⟨_,h1,?_⟩
 walk_at "w"
 refine⟨_,h2,?_⟩
 walk_at "w"
 rfl
noncomputable abbrev agv (K:apj):Sp:=spD K 1 (fun (c:Int×Int×Int) xs=>xs=[.dat (aaE c.1 c.2.1 c.2.2)]) fun c r=>r=.list [.tuple [.int c.1,.int c.2.1],.tuple [.int (px c.1 c.2.2),.int (py c.2.1 c.2.2)]]
theorem am7 (F:Def K mg "gate_points" jv ["gate"]):FnIn P w K mg base (k+1) "gate_points" ["gate"] (agv K):=by
 refine F.ok sc_gate_points rfl fun fa cdv A outer s H E hr=>⟨_,(zd (yg (pv 0) (zN (K:=K) (n:=3) rfl rfl (zh (zf (i:=1) sc_gate_points.nd rfl (Or.inl rfl) (Or.inr rfl)) (zh (zf (i:=2) sc_gate_points.nd rfl (Or.inl rfl) (Or.inr rfl)) (zh (zf (i:=3) sc_gate_points.nd rfl (Or.inl rfl) (Or.inr rfl)) zL))))) (zd (y6 (ye (acS (K:=K) rfl hr.units) (pv 3) zc (yo _)) (zm (zC (yt (za (zG (za (pv 1) (za (pv 2) zb))) (za (zG (za (zl zO (pv 1) zc) (za (pv 2) zb))) zb))))) yk) (zm (zC (yt (za (zG (za (pv 1) (za (pv 2) zb))) (za (zG (za (pv 1) (za (zl zO (pv 2) zc) zb))) zb))))))),?_⟩
 rintro f xs ⟨x,y,w⟩ hl rfl
 try dsimp only [yn,zo]
 dsimp only at *
 unfold aaE
 walk_at "w"
 rw [if_neg apk,adw]
 refine yR (fun h=>?_) fun h=>?_
 ·have h':=of_decide_eq_true h
  walk_at "w"
  unfold px py
  rw [if_pos h',if_pos h']
 ·have h':=of_decide_eq_false h
  walk_at "w"
  unfold px py
  rw [if_neg h',if_neg h']
noncomputable abbrev ajf (K:apj):Sp:=spD K 2 (fun (c:List (List Int)×Nat×Int×Int×Int) xs=>xs=[.dat (tab c.1),.dat (aaE c.2.2.1 c.2.2.2.1 c.2.2.2.2)]/\Good c.2.1 c.1) fun c r=>r=.bool (v3 c.1 c.2.1 c.2.2.1 c.2.2.2.1 c.2.2.2.2)
theorem akV (F:Def K mg "has_gate" qE pM) (uaj:mg "all"=none) (uak:FnIn P w K mg base k "has_point" ph (agu K)) (uas:FnIn P w K mg base k "gate_points" ["gate"] (agv K)):FnIn P w K mg base (k+1) "has_gate" pM (ajf K):=by
 refine F.ok aey rfl fun fa cdv A outer s H E hr=>⟨_,(zd (y6 (ye (ahe (K:=K) rfl) (zx (zZ (K:=K) rfl) (pv 1) zc (fun _ _=>rfl)) (zG (za zc (za zc zb))) rfl) (zm (zC vJ)) yk) (zm (zC (zM (acj (K:=K) rfl rfl) rfl uaj ate (za (yw (N:=pQ) (own:=2) (fr:=[0]) ⟨rfl,by decide +kernel,of_decide_eq_true (by kernel_rfl),of_decide_eq_true (by kernel_rfl),of_decide_eq_true (by kernel_rfl),rfl⟩ rfl (zW (K:=K) rfl (zg uas hr rfl (za (pv 1) zb))) (fun _ _ _ _=>(zN (K:=K) (n:=2) rfl rfl (zh (zf (i:=0) (show (pQ:List Str).Nodup by decide +kernel) rfl (Or.inl rfl) (Or.inr rfl)) (zh (zf (i:=1) (show (pQ:List Str).Nodup by decide +kernel) rfl (Or.inl rfl) (Or.inr rfl)) zL)))) (fun _ _ _ _=>yr) (fun _ _ _ _=>(zg uak hr rfl (za (pv 2) (za (pv 0) (za (pv 1) zb))))) rfl rfl (fun _=>rfl)) zb))))),?_⟩
 rintro f xs ⟨rows,wd,x,y,w⟩ hl ⟨rfl,g⟩
 try dsimp only [yn,zo]
 dsimp only at *
 refine zS (acQ (jh (aiz ?_)))
 unfold aaE
 walk_at "w"
 refine⟨[0,1],rfl,_,rfl,?_⟩
 have hc:(([0,1]:List Int).contains w)=decide (w=0 \/ w=1):=by
  rw [Bool.eq_iff_iff]
  simp
 rw [hc]
 by_cases h:w=0 \/ w=1
 ·rw [decide_eq_true h,aqv,if_neg apk]
  refine vp (yB (alB (PEdO.ped (vq (A:=fun p:Int×Int=>PyData.tuple [.int p.1,.int p.2]) (B:=fun p:Int×Int=>PyData.bool (yx rows wd p.1 p.2)) [(x,y),(px x w,py y w)] (yz (zu (x,y,w) ?_))))))
  walk_at "w"
  rintro _ rfl
  refine⟨_,rfl,rfl,show 2<=1000 by decide,?_,?_⟩
  ·rintro D p ρ' es hp ho hes
   obtain⟨u,v,rfl⟩:=ho.two
   refine yD rfl (zt (zj (zt (zj (ya (jC ?_))))))
   rw [if_pos rfl]
   refine yE hes (zu (rows,wd,p.1,p.2) ?_)
   walk_at "w"
   rintro _ rfl
   exact⟨.mk2,rfl⟩
  ·refine⟨[yx rows wd x y,yx rows wd (px x w) (py y w)],rfl,?_⟩
   show PyData.bool _=PyData.bool _
   unfold v3
   rw [decide_eq_true h,ar0]
   show PyData.bool (yx rows wd x y && (yx rows wd (px x w) (py y w) && true))=_
   rw [asS]
 ·rw [decide_eq_false h,asB,if_pos rfl]
  walk_at "w"
  unfold v3
  rw [decide_eq_false h]
  rfl
noncomputable abbrev afs (K:apj):Sp:=spD K 3 (fun (c:List (List Int)×Nat×Int×Int×Int×Int) xs=>xs=[.dat (tab c.1),.dat (.int c.2.2.1),.dat (aaE c.2.2.2.1 c.2.2.2.2.1 c.2.2.2.2.2)]/\Good c.2.1 c.1) fun c r=>r=.bool (yF c.1 c.2.1 c.2.2.1 c.2.2.2.1 c.2.2.2.2.1 c.2.2.2.2.2)
theorem qW {rows:List (List Int)} {wd:Nat} {x y w:Int} (h:v3 rows wd x y w=true):yx rows wd x y=true/\yx rows wd (px x w) (py y w)=true:=by
 unfold v3 at h
 rw [apu,apu] at h
 exact h.2
theorem akW (F:Def K mg "is_open" vb pA) (ua0:FnIn P w K mg base k "has_gate" pM (ajf K)) (uas:FnIn P w K mg base k "gate_points" ["gate"] (agv K)) (uae:FnIn P w K mg base k "stands_high" pB (abE K)):FnIn P w K mg base (k+1) "is_open" pA (afs K):=by
 refine F.ok sc_is_open rfl fun fa cdv A outer s H E hr=>⟨_,(zd (y6 (vy (ym (K:=K) rfl (zg ua0 hr rfl (za (pv 0) (za (pv 2) zb))) (fun _=>rfl))) (zm (zC vJ)) yk) (zd (yg (zg uas hr rfl (za (pv 2) zb)) (acV (K:=K) (n:=2) rfl rfl (zh (zf (i:=3) sc_is_open.nd rfl (Or.inl rfl) (Or.inr rfl)) (zh (zf (i:=4) sc_is_open.nd rfl (Or.inl rfl) (Or.inr rfl)) zL)))) (zm (zC (jt (vC (K:=K) rfl hr.units) (zg uae hr rfl (za (pv 0) (za (pv 1) (za (pv 3) zb)))) (zg uae hr rfl (za (pv 0) (za (pv 1) (za (pv 4) zb)))) (yo _)))))),?_⟩
 rintro f xs ⟨rows,wd,cut,x,y,w⟩ hl ⟨rfl,g⟩
 try dsimp only [yn,zo]
 dsimp only at *
 refine zS (acQ (ach (jw (zu (rows,wd,x,y,w) ?_))))
 walk_at "w"
 rintro _ rfl
 refine⟨_,rfl,?_⟩
 dsimp only
 cases h:v3 rows wd x y w with
 | false =>
  rw [asB,if_pos rfl]
  walk_at "w"
  unfold yF
  rw [h]
  rfl
 | true =>
  rw [aqv,if_neg apk]
  obtain⟨i1,i2⟩:=qW h
  refine vp (zS (zV (zu (x,y,w) ?_)))
  walk_at "w"
  rintro _ rfl
  dsimp only
  refine aiw rfl (zt (zj (zt (zj (ya ?_)))))
  refine yB (qS (zu (rows,wd,cut,x,y) ?_))
  walk_at "w"
  rintro _ rfl
  refine zu (rows,wd,cut,px x w,py y w) ?_
  walk_at "w"
  rintro _ rfl
  dsimp only
  walk_at "w"
  show PyData.bool _=PyData.bool _
  unfold yF
  rw [h,ar0,if_pos rfl,aje]
  rfl
theorem am8 (F:Def K mg "_law_cut" vf pW) (uaa:mg "len"=none) (uad:FnIn P w K mg base k "_law_draw" pJ (afq K)):FnIn P w K mg base (k+1) "_law_cut" pW (alP K):=by
 refine F.ok sc_law_cut rfl fun fa cdv A outer s H E hr=>⟨_,(zd (zK (i:=2) sc_law_cut.nd rfl (Or.inl rfl) (zx (zp (K:=K) rfl) (pv 1) (zg uad hr rfl (za (pv 0) (za (zM (yJ (K:=K) rfl) rfl uaa aqI (za (pv 1) zb)) zb))) (fun _ _=>rfl))) (zm (zC (zl yh (zx (zp (K:=K) rfl) (pv 2) (zg uad hr rfl (za (pv 0) (za (zM (yJ (K:=K) rfl) rfl uaa aqI (za (pv 2) zb)) zb))) (fun _ _=>rfl)) (zg uad hr rfl (za (pv 0) (za zc zb))))))),?_⟩
 rintro f xs ⟨rows,wd⟩ hl ⟨rfl,g⟩
 try dsimp only [yn,zo]
 dsimp only at *
 have g1:=g.h1
 have g2:=g.h2
 have w1:=g.w1
 have w2:=g.w2
 have ml:(rows.map fun r=>PyData.list (r.map .int)).length=rows.length:=api _
 have ml1:2<=(rows.map fun r=>PyData.list (r.map .int)).length:=by omega
 have ml2:(rows.map fun r=>PyData.list (r.map .int)).length<=7:=by omega
 refine zS (zV (yL ?_))
 unfold tab
 walk_at "w"
 refine zu (((rows.map fun r=>PyData.list (r.map .int)).length:Nat):Int) ?_
 walk_at "w"
 rintro _ ⟨i,rfl,i0,i1⟩
 have hi:i.toNat<rows.length:=by omega
 have hr:=g.row _ (apS hi)
 have hh:=g.hgt _ (apS hi)
 refine⟨_,rfl,_,j5 (F:=fun q:List Int=>PyData.list (q.map .int)) (j:=i.toNat) (by omega) hi,?_⟩
 generalize rows[i.toNat]=row at hr hh
 have rl:(row.map PyData.int).length=row.length:=api _
 have rl1:2<=(row.map PyData.int).length:=by omega
 have rl2:(row.map PyData.int).length<=7:=by omega
 walk_at "w"
 refine zu (((row.map PyData.int).length:Nat):Int) ?_
 walk_at "w"
 rintro _ ⟨q,rfl,q0,q1⟩
 have hq:q.toNat<row.length:=by omega
 refine⟨_,rfl,_,j5 (F:=PyData.int) (j:=q.toNat) (by omega) hq,?_⟩
 have hb:=hh _ (apS hq)
 generalize row[q.toNat]=v at hb
 walk_at "w"
 refine zu 2 ?_
 walk_at "w"
 rintro _ ⟨u,rfl,u0,u1⟩
 walk_at "w"
 omega
theorem qm {n i:Nat} {d:PyData} (h:(qT n)[i]?=some d):i<n/\d=.int (i:Int):=by
 unfold qT at h
 rw [apt] at h
 by_cases hi:i<n
 ·rw [aqJ hi] at h
  cases h
  exact⟨hi,rfl⟩
 ·rw [apR (by rw [aqa];omega)] at h
  cases h
theorem vh (n:Nat):(qT n).length=n:=by unfold qT;simp
noncomputable def akX (x y:Nat):PyData:=.tuple [.int x,.int y]
noncomputable def qO (t n:Nat):List PyData:=(apK n).flatMap fun x=>(apK t).map (akX x)
theorem abG (t n:Nat):qO t (n+1)=qO t n++(apK t).map (akX n):=by
 unfold qO
 rw [arD,aq1]
 simp
theorem adx (t:Nat):∀ n,(qO t n).length=t * n
 | 0=>rfl
 | n+1=>by rw [abG,apA,adx t n,api,aqa,atE]
noncomputable abbrev aeD (K:apj):Sp:=spD K 1 (fun (c:List (List Int)×Nat) xs=>xs=[.dat (tab c.1)]/\Good c.2 c.1) fun c r=>r=.list (qO c.1.length c.2)
theorem ahD (F:Def K mg "points" vU pf) (uab:mg "range"=none) (uar:FnIn P w K mg base k "size" pf (afr K)):FnIn P w K mg base (k+1) "points" pf (aeD K):=by
 refine F.ok sc_points rfl fun fa cdv A outer s H E hr=>⟨_,(zd (yg (zg uar hr rfl (za (pv 0) zb)) (zN (K:=K) (n:=2) rfl rfl (zh (zf (i:=1) sc_points.nd rfl (Or.inl rfl) (Or.inr rfl)) (zh (zf (i:=2) sc_points.nd rfl (Or.inr rfl) (Or.inl rfl)) zL)))) (zm (zC (adW (N:=pR) (own:=2) (fr:=[2]) ⟨rfl,by decide +kernel,of_decide_eq_true (by kernel_rfl),of_decide_eq_true (by kernel_rfl),of_decide_eq_true (by kernel_rfl),rfl⟩ rfl (y7 rfl uab (za (pv 1) zb)) (fun _ _ _ _=>(zf (i:=0) (show (pR:List Str).Nodup by decide +kernel) rfl (Or.inl rfl) (Or.inr rfl))) (fun _ _ _ _=>yr) (fun _ _ _ _=>(y7 rfl uab (za (pv 2) zb))) (fun _ _ _ _=>(zf (i:=1) (show (pR:List Str).Nodup by decide +kernel) rfl (Or.inl rfl) (Or.inr rfl))) (fun _ _ _ _=>yr) (fun _ _ _ _=>(zG (za (pv 0) (za (pv 1) zb)))) rfl rfl (fun _=>rfl) (fun _ _ _ _ _=>rfl))))),?_⟩
 rintro f xs ⟨rows,wd⟩ hl ⟨rfl,g⟩
 try dsimp only [yn,zo]
 dsimp only at *
 have g2:=g.h2
 have w2:=g.w2
 refine zS (zV (zu (rows,wd) ?_))
 walk_at "w"
 rintro _ rfl
 refine yD rfl (zt (zj (zt (zj (ya ?_)))))
 refine yB (PEdO.ped (abe (qZ (zq (ze rfl (zU ⟨_,rfl,by dsimp only;omega,by dsimp only;omega,fun n ρ es=>(∃ u v,ρ=[u,v,some (.dat (.int rows.length))])/\es=qO rows.length n,⟨⟨_,_,rfl⟩,rfl⟩,?_,?_⟩))))))
 ·rintro D n d ρ' es hd ⟨⟨u,v,rfl⟩,rfl⟩
  obtain⟨hn,rfl⟩:=qm hd
  have hn':n<wd:=by have:n<((wd:Int)).toNat:=hn;omega
  have l1:rows.length * n<=7 * 7:=aqp g2 (by omega)
  refine zj (jC ?_)
  rw [if_pos rfl]
  refine anW (qZ (zq (ze rfl (zU ⟨_,rfl,by omega,by omega,fun m ρ es=>(∃ v,ρ=[some (.dat (.int n)),v,some (.dat (.int rows.length))])/\es=qO rows.length n++(apK m).map (akX n),⟨⟨_,rfl⟩,by simp⟩,?_,?_⟩))))
  ·rintro m d ρ2 es2 hd2 ⟨⟨v,rfl⟩,rfl⟩
   obtain⟨hm,rfl⟩:=qm hd2
   have hm':m<rows.length:=by have:m<((rows.length:Int)).toNat:=hm;omega
   refine zj (jC ?_)
   rw [if_pos rfl]
   refine yE (by rw [apA,adx,api,aqa];omega) ?_
   walk_at "w"
   rw [arD,apQ,aqu]
   rfl
  ·rintro ρ2 es2 ⟨⟨v,rfl⟩,rfl⟩
   rw [vh,arL]
   exact⟨⟨_,_,rfl⟩,by rw [abG]⟩
 ·rintro ρ' es ⟨_,rfl⟩
  rw [vh,arL]
noncomputable def F2:PyData->List PyData
 | .tuple [.int x,.int y]=>[aaE x y 0,aaE x y 1]
 | _=>[]
noncomputable def gD3 (g:Int×Int×Int):PyData:=aaE g.1 g.2.1 g.2.2
noncomputable def opG (rows:List (List Int)) (wd:Nat) (cut:Int) (g:Int×Int×Int):Bool:=yF rows wd cut g.1 g.2.1 g.2.2
noncomputable def aft (t n:Nat):List (Int×Int×Int):=(apK n).flatMap fun (x:Nat)=>(apK t).flatMap fun (y:Nat)=>[((x:Int),(y:Int),(0:Int)),((x:Int),(y:Int),(1:Int))]
theorem abH {α:Type} {F:Nat->List α} {b:Nat} (h:∀ n,(F n).length<=b):∀ n,((apK n).flatMap F).length<=b * n
 | 0=>by simp
 | n+1=>by
  rw [arD,aq1,apA]
  have:=abH h n
  have:=h n
  simp only [arM,asW,apY]
  rw [atE]
  omega
theorem ahE {t n:Nat} (ht:t<=7) (hn:n<=7):(aft t n).length<=98:=by
 have h:=abH (F:=fun (x:Nat)=>(apK t).flatMap fun (y:Nat)=>[((x:Int),(y:Int),(0:Int)),((x:Int),(y:Int),(1:Int))]) (b:=2 * t) (fun x=>abH (F:=fun (y:Nat)=>[((x:Int),(y:Int),(0:Int)),((x:Int),(y:Int),(1:Int))]) (b:=2) (fun y=>apr 2) t) n
 exact apO h (aqp (show 2 * t<=14 by omega) hn)
noncomputable def am9 (rows:List (List Int)) (wd:Nat) (cut:Int) (x y:Nat):List (Int×Int×Int):=(if yF rows wd cut x y 0=true then [((x:Int),(y:Int),(0:Int))] else [])++if yF rows wd cut x y 1=true then [((x:Int),(y:Int),(1:Int))] else []
noncomputable def aam (rows:List (List Int)) (wd:Nat) (cut:Int):List (Int×Int×Int):=(apK wd).flatMap fun x=>(apK rows.length).flatMap fun y=>am9 rows wd cut x y
theorem ahF {α:Type} {F:Nat->List α} (n:Nat):(apK (n+1)).flatMap F=(apK n).flatMap F++F n:=by
 rw [arD,aq1]
 simp
theorem akY (rows:List (List Int)) (wd:Nat) (cut:Int) (x y:Nat):am9 rows wd cut x y=[((x:Int),(y:Int),(0:Int)),((x:Int),(y:Int),(1:Int))].filter (opG rows wd cut):=by
 unfold am9 opG
 simp only [aqP,as9]
 cases yF rows wd cut x y 0 <;> cases yF rows wd cut x y 1 <;> rfl
theorem abI (rows:List (List Int)) (wd:Nat) (cut:Int):aam rows wd cut=(aft rows.length wd).filter (opG rows wd cut):=by
 unfold aam aft
 rw [att]
 congr 1
 funext x
 rw [att]
 congr 1
 funext y
 exact akY rows wd cut x y
theorem akZ {α:Type} {R:α->α->Prop} {F:Nat->List α} (n:Nat) (h1:∀ i,i<n->(F i).Pairwise R) (h2:∀ i j,i<j->j<n->∀ a∈F i,∀ b∈F j,R a b):((apK n).flatMap F).Pairwise R:=by
 induction n with
 | zero=>simp
 | succ n ih =>
  rw [ahF,asm]
  refine⟨ih (fun i hi=>h1 i (by omega)) (fun i j hij hj=>h2 i j hij (by omega)),h1 n (by omega),fun a ha b hb=>?_⟩
  obtain⟨i,hi,ha⟩:=aqs.mp ha
  exact h2 i n (apV.mp hi) (by omega) a ha b hb
theorem ahG {rows:List (List Int)} {wd:Nat} {cut:Int} (g:Good wd rows):(aam rows wd cut).length<=98:=by
 rw [abI]
 exact apO (aqm _ _) (ahE g.h2 g.w2)
noncomputable abbrev CC:=List (List Int)×Nat×Int×Int×Int
noncomputable def yY (rows:List (List Int)) (wd:Nat) (x y:Int):Bool:=yx rows wd x y && yx rows wd (x+1) (y+1)
noncomputable def hiB (rows:List (List Int)) (cut x y:Int):Bool:=decide (cut<zX rows x y)
theorem cell_in {rows:List (List Int)} {wd:Nat} {x y:Int} (h:yY rows wd x y=true):yx rows wd x y=true/\yx rows wd (x+1) y=true/\yx rows wd (x+1) (y+1)=true/\yx rows wd x (y+1)=true:=by
 unfold yY at h
 rw [apu] at h
 obtain⟨a0,a1,a2,a3⟩:=yZ h.1
 obtain⟨b0,b1,b2,b3⟩:=yZ h.2
 refine⟨h.1,?_,h.2,?_⟩ <;> unfold yx <;> rw [decide_eq_true (by omega),decide_eq_true (by omega)] <;> rfl
section
variable {rows:List (List Int)} {wd:Nat} {cut x y:Int}
theorem ady (h:yY rows wd x y=true):yF rows wd cut x y 0=(hiB rows cut x y != hiB rows cut (x+1) y):=by
 obtain⟨a,b,c,d⟩:=cell_in h
 unfold yF v3
 show (decide ((0:Int)=0 \/ (0:Int)=1) && (yx rows wd x y && yx rows wd (x+1) y) && _)=_
 rw [a,b]
 rfl
theorem afu (h:yY rows wd x y=true):yF rows wd cut x y 1=(hiB rows cut x y != hiB rows cut x (y+1)):=by
 obtain⟨a,b,c,d⟩:=cell_in h
 unfold yF v3
 show (decide ((1:Int)=0 \/ (1:Int)=1) && (yx rows wd x y && yx rows wd x (y+1)) && _)=_
 rw [a,d]
 rfl
theorem adz (h:yY rows wd x y=true):yF rows wd cut x (y+1) 0=(hiB rows cut x (y+1) != hiB rows cut (x+1) (y+1)):=by
 obtain⟨a,b,c,d⟩:=cell_in h
 unfold yF v3
 show (decide ((0:Int)=0 \/ (0:Int)=1) && (yx rows wd x (y+1) && yx rows wd (x+1) (y+1)) && _)=_
 rw [c,d]
 rfl
theorem adA (h:yY rows wd x y=true):yF rows wd cut (x+1) y 1=(hiB rows cut (x+1) y != hiB rows cut (x+1) (y+1)):=by
 obtain⟨a,b,c,d⟩:=cell_in h
 unfold yF v3
 show (decide ((1:Int)=0 \/ (1:Int)=1) && (yx rows wd (x+1) y && yx rows wd (x+1) (y+1)) && _)=_
 rw [b,c]
 rfl
end
noncomputable def cg (x y:Int):List (Int×Int×Int):=[(x,y,0),(x,y,1),(x,y+1,0),(x+1,y,1)]
noncomputable def jl (rows:List (List Int)) (wd:Nat) (cut x y:Int):Bool:=(cg x y).all (opG rows wd cut)
noncomputable def alQ (rows:List (List Int)) (x y:Int):Int:=zX rows x y+(zX rows (x+1) y+(zX rows (x+1) (y+1)+(zX rows x (y+1)+0)))
noncomputable def adB (rows:List (List Int)) (cut x y:Int):Bool:=decide (4 * cut+2<=alQ rows x y)
noncomputable abbrev ajg (K:apj):Sp:=spD K 3 (fun (c:List (List Int)×Nat×Int×Int) xs=>xs=[.dat (tab c.1),.dat (.int c.2.2.1),.dat (.int c.2.2.2)]/\Good c.2.1 c.1) fun c r=>r=.bool (yY c.1 c.2.1 c.2.2.1 c.2.2.2)
theorem ak0 (F:Def K mg "has_cell" qC ph) (uak:FnIn P w K mg base k "has_point" ph (agu K)):FnIn P w K mg base (k+1) "has_cell" ph (ajg K):=by
 refine F.ok aev rfl fun fa cdv A outer s H E hr=>⟨_,(zm (zC (aa3 (zg uak hr rfl (za (pv 0) (za (pv 1) (za (pv 2) zb)))) (acG (zg uak hr rfl (za (pv 0) (za (zl zO (pv 1) zc) (za (zl zO (pv 2) zc) zb)))))))),?_⟩
 rintro f xs ⟨rows,wd,x,y⟩ hl ⟨rfl,g⟩
 try dsimp only [yn,zo]
 dsimp only at *
 refine yB (acO (zu (rows,wd,x,y) ?_))
 walk_at "w"
 rintro _ rfl
 dsimp only
 refine⟨_,rfl,?_⟩
 refine yR (fun h=>?_) fun h=>?_
 ·refine zu (rows,wd,x+1,y+1) ?_
  walk_at "w"
  rintro _ rfl
  dsimp only
  unfold yY
  rw [h,ar0]
 ·unfold yY
  rw [h,aro]
noncomputable abbrev vi (K:apj):Sp:=spD K 2 (fun (c:Int×Int) xs=>xs=[.dat (.int c.1),.dat (.int c.2)]) fun c r=>r=.list [.tuple [.int c.1,.int c.2],.tuple [.int (c.1+1),.int c.2],.tuple [.int (c.1+1),.int (c.2+1)],.tuple [.int c.1,.int (c.2+1)]]
theorem afv (F:Def K mg "corners" va pF):FnIn P w K mg base (k+1) "corners" pF (vi K):=by
 refine F.ok afl rfl fun fa cdv A outer s H E hr=>⟨_,(zm (zC (yt (za (zG (za (pv 0) (za (pv 1) zb))) (za (zG (za (zl zO (pv 0) zc) (za (pv 1) zb))) (za (zG (za (zl zO (pv 0) zc) (za (zl zO (pv 1) zc) zb))) (za (zG (za (pv 0) (za (zl zO (pv 1) zc) zb))) zb))))))),?_⟩
 rintro f xs ⟨x,y⟩ hl rfl
 try dsimp only [yn,zo]
 dsimp only at *
 walk_at "w"
 rfl
noncomputable abbrev abJ (K:apj):Sp:=spD K 1 (fun (c:Int×Int) xs=>xs=[.dat (.tuple [.int c.1,.int c.2])]) fun c r=>r=.list ((cg c.1 c.2).map gD3)
theorem ahH (F:Def K mg "cell_gates" jF ["cell"]):FnIn P w K mg base (k+1) "cell_gates" ["cell"] (abJ K):=by
 refine F.ok sc_cell_gates rfl fun fa cdv A outer s H E hr=>⟨_,(zd (yg (pv 0) (zN (K:=K) (n:=2) rfl rfl (zh (zf (i:=1) sc_cell_gates.nd rfl (Or.inl rfl) (Or.inr rfl)) (zh (zf (i:=2) sc_cell_gates.nd rfl (Or.inl rfl) (Or.inr rfl)) zL)))) (zm (zC (yt (za (zG (za (pv 1) (za (pv 2) (za zc zb)))) (za (zG (za (pv 1) (za (pv 2) (za zc zb)))) (za (zG (za (pv 1) (za (zl zO (pv 2) zc) (za zc zb)))) (za (zG (za (zl zO (pv 1) zc) (za (pv 2) (za zc zb)))) zb)))))))),?_⟩
 rintro f xs ⟨x,y⟩ hl rfl
 try dsimp only [yn,zo]
 dsimp only at *
 walk_at "w"
 rfl
noncomputable abbrev aoy (c:CC) (xs:List DV):Prop:=xs=[.dat (tab c.1),.dat (.int c.2.2.1),.dat (.tuple [.int c.2.2.2.1,.int c.2.2.2.2])]/\Good c.2.1 c.1/\yY c.1 c.2.1 c.2.2.2.1 c.2.2.2.2=true
noncomputable abbrev aan (K:apj):Sp:=spD K 3 aoy fun c r=>r=.bool (jl c.1 c.2.1 c.2.2.1 c.2.2.2.1 c.2.2.2.2)
theorem afw (F:Def K mg "is_crossed" jG pj) (uaj:mg "all"=none) (uax:FnIn P w K mg base k "is_open" pA (afs K)) (uay:FnIn P w K mg base k "cell_gates" ["cell"] (abJ K)):FnIn P w K mg base (k+1) "is_crossed" pj (aan K):=by
 refine F.ok abZ rfl fun fa cdv A outer s H E hr=>⟨_,(zm (zC (zM (acj (K:=K) rfl rfl) rfl uaj ate (za (yw (N:=["gate","rows","cut"]) (own:=1) (fr:=[0,1]) ⟨rfl,by decide +kernel,of_decide_eq_true (by kernel_rfl),of_decide_eq_true (by kernel_rfl),of_decide_eq_true (by kernel_rfl),rfl⟩ rfl (zW (K:=K) rfl (zg uay hr rfl (za (pv 2) zb))) (fun _ _ _ _=>(zf (i:=0) (show (["gate","rows","cut"]:List Str).Nodup by decide +kernel) rfl (Or.inl rfl) (Or.inr rfl))) (fun _ _ _ _=>yr) (fun _ _ _ _=>(zg uax hr rfl (za (pv 1) (za (pv 2) (za (pv 0) zb))))) rfl rfl (fun _=>rfl)) zb)))),?_⟩
 rintro f xs ⟨rows,wd,cut,x,y⟩ hl ⟨rfl,g,hc⟩
 try dsimp only [yn,zo]
 dsimp only at *
 refine yB (alB (PEdO.ped (vq (A:=gD3) (B:=fun q=>PyData.bool (opG rows wd cut q)) (cg x y) (yz (zu (x,y) ?_)))))
 walk_at "w"
 rintro _ rfl
 refine⟨_,rfl,rfl,show 4<=1000 by decide,?_,?_⟩
 ·rintro D q ρ' es hq ho hes
  obtain⟨u,rfl⟩:=ho.one
  refine zj (jC ?_)
  rw [if_pos rfl]
  refine yE hes (zu (rows,wd,cut,q.1,q.2.1,q.2.2) ?_)
  unfold gD3
  walk_at "w"
  rintro _ rfl
  exact⟨.mk1,rfl⟩
 ·refine⟨(cg x y).map (opG rows wd cut),by rw [ap1];rfl,?_⟩
  show PyData.bool _=PyData.bool _
  unfold jl
  rw [List.all_map]
  rfl
noncomputable abbrev ajh (K:apj):Sp:=spD K 3 aoy fun c r=>r=.bool (adB c.1 c.2.2.1 c.2.2.2.1 c.2.2.2.2)
theorem ana (F:Def K mg "has_high_middle" yM pj) (ual:mg "sum"=none) (uam:FnIn P w K mg base k "corners" pF (vi K)):FnIn P w K mg base (k+1) "has_high_middle" pj (ajh K):=by
 refine F.ok sc_has_high_middle rfl fun fa cdv A outer s H E hr=>⟨_,(zd (yg (pv 2) (zN (K:=K) (n:=2) rfl rfl (zh (zf (i:=3) sc_has_high_middle.nd rfl (Or.inl rfl) (Or.inr rfl)) (zh (zf (i:=4) sc_has_high_middle.nd rfl (Or.inl rfl) (Or.inr rfl)) zL)))) (zm (zC (jt ah6 (zM (abm (K:=K) rfl rfl) rfl ual atf (za (yw (N:=pE) (own:=2) (fr:=[0]) ⟨rfl,by decide +kernel,of_decide_eq_true (by kernel_rfl),of_decide_eq_true (by kernel_rfl),of_decide_eq_true (by kernel_rfl),rfl⟩ rfl (zW (K:=K) rfl (zg uam hr rfl (za (pv 3) (za (pv 4) zb)))) (fun _ _ _ _=>(zN (K:=K) (n:=2) rfl rfl (zh (zf (i:=0) (show (pE:List Str).Nodup by decide +kernel) rfl (Or.inl rfl) (Or.inr rfl)) (zh (zf (i:=1) (show (pE:List Str).Nodup by decide +kernel) rfl (Or.inl rfl) (Or.inr rfl)) zL)))) (fun _ _ _ _=>yr) (fun _ _ _ _=>(zx (zp (K:=K) rfl) (zx (zp (K:=K) rfl) (pv 2) (pv 1) (fun _ _=>rfl)) (pv 0) (fun _ _=>rfl))) rfl rfl (fun _=>rfl)) zb)) (zl zO (zl vA zc (pv 1)) zc) (yo _))))),?_⟩
 rintro f xs ⟨rows,wd,cut,x,y⟩ hl ⟨rfl,g,hc⟩
 try dsimp only [yn,zo]
 dsimp only at *
 obtain⟨i1,i2,i3,i4⟩:=cell_in hc
 refine zS (zV (ze rfl (yD rfl (zt (zj (zt (zj (ya ?_))))))))
 refine yB (acg (alC (PEdO.ped (vq (A:=fun p:Int×Int=>PyData.tuple [.int p.1,.int p.2]) (B:=fun p:Int×Int=>PyData.int (zX rows p.1 p.2)) [(x,y),(x+1,y),(x+1,y+1),(x,y+1)] (yz (zu (x,y) ?_))))))
 walk_at "w"
 rintro _ rfl
 refine⟨_,rfl,rfl,show 4<=1000 by decide,?_,?_⟩
 ·rintro D p ρ' es hp ho hes
  obtain⟨u,v,rfl⟩:=ho.two
  have hi:yx rows wd p.1 p.2=true:=by
   simp only [apq,ap0,or_false] at hp
   rcases hp with rfl | rfl | rfl | rfl
   ·exact i1
   ·exact i2
   ·exact i3
   ·exact i4
  obtain⟨r,h1,h2⟩:=abF g hi
  refine yD rfl (zt (zj (zt (zj (ya (jC ?_))))))
  rw [if_pos rfl]
  refine yE hes ?_
  unfold tab
  walk_at "w"
  refine⟨_,h1,?_⟩
  walk_at "w"
  refine⟨_,h2,?_⟩
  exact⟨.mk2,rfl⟩
 ·refine⟨[zX rows x y,zX rows (x+1) y,zX rows (x+1) (y+1),zX rows x (y+1)],rfl,?_⟩
  walk_at "w"
  rfl
noncomputable abbrev Pt:=Int×Int
noncomputable def pD (p:Pt):PyData:=.tuple [.int p.1,.int p.2]
theorem aao {a b:Pt} (h:pD a=pD b):a=b:=by
 obtain⟨x,y⟩:=a
 obtain⟨x',y'⟩:=b
 unfold pD at h
 simp at h
 simp [h]
theorem qJ (p:Pt):aaI (pD p):=⟨⟨rfl,apW rfl⟩,_,rfl⟩
theorem mem_pD {l:List Pt} {p:Pt}:pD p∈l.map pD↔p∈l:=by
 rw [apJ]
 exact⟨fun⟨q,hq,e⟩=>aao e▸hq,fun h=>⟨p,h,rfl⟩⟩
theorem anb {l:List Pt} (nd:l.Nodup):SortOk "int" (l.map pD) where
 plain:=fun d hd=>by obtain⟨g,_,rfl⟩:=apJ.mp hd;rfl
 head:=fun d hd=>by obtain⟨g,_,rfl⟩:=apJ.mp hd;rfl
 cmp:=fun d hd e he=>by
  obtain⟨⟨x,y⟩,_,rfl⟩:=apJ.mp hd
  obtain⟨⟨x',y'⟩,_,rfl⟩:=apJ.mp he
  show acZ (.tuple [.int x,.int y]) (.tuple [.int x',.int y'])=true
  simp only [acZ,ac0]
  split
  ·split <;> rfl
  ·rfl
 depth:=fun d hd=>by obtain⟨g,_,rfl⟩:=apJ.mp hd;exact apW rfl
 nd:=aqX.mpr (nd.imp fun {a b} h e=>h (aao e))
theorem abK:∀ {l m:List PyData},(∀ d∈l,zH d=true)->(l.Pairwise fun d e=>ltD d e=true)->(m.Pairwise fun d e=>ltD d e=true)->(∀ d,d∈l↔d∈m)->l=m
 | [],[],_,_,_,_=>rfl
 | [],b :: m,_,_,_,h=>nomatch (h b).mpr (apo ..)
 | a :: l,[],_,_,_,h=>nomatch (h a).mp (apo ..)
 | a :: l,b :: m,pl,p,q,h=>by
  obtain⟨p1,p2⟩:=aqA.mp p
  obtain⟨q1,q2⟩:=aqA.mp q
  have pa:=pl a (apo ..)
  have pb:=pl b ((h b).mpr (apo ..))
  have ab:a=b:=by
   rcases apq.mp ((h a).mp (apo ..)) with e | e
   ·exact e
   ·rcases apq.mp ((h b).mpr (apo ..)) with e' | e'
    ·exact e'.symm
    ·have:=abp _ _ _ pa pb pa (p1 b e') (q1 a e)
     rw [qA a pa] at this
     cases this
  subst ab
  rw [abK (fun d hd=>pl d (apl _ hd)) p2 q2 fun d=>?_]
  constructor
  ·intro hd
   rcases apq.mp ((h d).mp (apl _ hd)) with e | e
   ·have:=p1 d hd
    rw [e,qA a pa] at this
    cases this
   ·exact e
  ·intro hd
   rcases apq.mp ((h d).mpr (apl _ hd)) with e | e
   ·have:=q1 d hd
    rw [e,qA a pa] at this
    cases this
   ·exact e
theorem vS {α β:Type} {f:α->β} {l1 l2:List β} (h:l1.Perm l2):∀ ts:List α,l2=ts.map f->∃ us:List α,us.Perm ts/\l1=us.map f:=by
 induction h with
 | nil=>intro ts e;exact⟨ts,.refl _,e⟩
 | cons x _ ih =>
  intro ts e
  cases ts with
  | nil=>cases e
  | cons t ts =>
   rw [apT] at e
   injection e with e1 e2
   obtain⟨us,p,q⟩:=ih ts e2
   exact⟨t :: us,.cons t p,by rw [apT,<- q,e1]⟩
 | swap x y l =>
  intro ts e
  match ts,e with
  | [],e=>cases e
  | [_],e=>cases e
  | a :: b :: ts,e =>
   simp only [apT] at e
   injection e with e1 e2
   injection e2 with e2 e3
   exact⟨b :: a :: ts,.swap a b ts,by rw [apT,apT,e1,e2,e3]⟩
 | trans _ _ ih1 ih2 =>
  intro ts e
  obtain⟨us,p,q⟩:=ih2 ts e
  obtain⟨vs,p2,q2⟩:=ih1 us q
  exact⟨vs,p2.trans p,q2⟩
theorem ahI (l:List Pt):∀ d∈l.map pD,zH d=true:=fun d hd=>by obtain⟨g,_,rfl⟩:=apJ.mp hd;rfl
theorem ak1 {l m:List Pt} (p:(l.map pD).Pairwise fun d e=>ltD d e=true) (q:(m.map pD).Pairwise fun d e=>ltD d e=true) (h:∀ x,x∈l↔x∈m):l=m:=by
 have e:l.map pD=m.map pD:=abK (ahI l) p q fun d=>by
  constructor
  ·intro hd
   obtain⟨x,hx,rfl⟩:=apJ.mp hd
   exact mem_pD.mpr ((h x).mp hx)
  ·intro hd
   obtain⟨x,hx,rfl⟩:=apJ.mp hd
   exact mem_pD.mpr ((h x).mpr hx)
 exact (List.map_inj_right fun _ _=>aao).mp e
section
variable (rows:List (List Int)) (wd:Nat) (cut:Int)
noncomputable def inP (p:Pt):Bool:=yx rows wd p.1 p.2
noncomputable def hiP (p:Pt):Bool:=hiB rows cut p.1 p.2
noncomputable def nbL (p:Pt):List Pt:=[(p.1 - 1,p.2),(p.1,p.2 - 1),(p.1,p.2+1),(p.1+1,p.2)]
noncomputable def caL (p:Pt):List Pt:=[(p.1 - 1,p.2 - 1),(p.1 - 1,p.2),(p.1,p.2 - 1),(p.1,p.2)]
noncomputable def asl (p c:Pt):Pt:=(2 * c.1+1 - p.1,2 * c.2+1 - p.2)
noncomputable def yy (c:Pt):Bool:=yY rows wd c.1 c.2
noncomputable def jn (p:Pt):List Pt:=(((nbL p).filter (inP rows wd)).filter fun q=>hiP rows cut q == hiP rows cut p)++((((caL p).filter (yy rows wd)).filter fun c=>jl rows wd cut c.1 c.2 && (adB rows cut c.1 c.2 == hiP rows cut p)).map (asl p))
inductive Reach (s:Pt):Pt->Prop where
 | refl:Reach s s
 | step {p q:Pt}:Reach s p->q∈jn rows wd cut p->Reach s q
end
section
variable {rows:List (List Int)} {wd:Nat} {cut:Int}
theorem aji {a b:Int} (c:yY rows wd a b=true) (h:jl rows wd cut a b=true):hiB rows cut (a+1) b=!hiB rows cut a b/\hiB rows cut a (b+1)=!hiB rows cut a b/\hiB rows cut (a+1) (b+1)=hiB rows cut a b:=by
 unfold jl cg opG at h
 simp only [asK,List.all_nil,asS,apu] at h
 rw [ady c,afu c,adz c,adA c] at h
 revert h
 cases hiB rows cut a b <;> cases hiB rows cut (a+1) b <;> cases hiB rows cut a (b+1) <;> cases hiB rows cut (a+1) (b+1) <;> decide
theorem afx {p q:Pt}:q∈nbL p↔(q=(p.1 - 1,p.2) \/ q=(p.1,p.2 - 1) \/ q=(p.1,p.2+1) \/ q=(p.1+1,p.2)):=by
 unfold nbL
 simp only [apq,ap0,or_false]
theorem ak2 {p q:Pt} (h:q∈nbL p):p∈nbL q:=by
 rw [afx] at h ⊢
 obtain⟨x,y⟩:=p
 rcases h with rfl | rfl | rfl | rfl
 ·exact .inr (.inr (.inr (by simp)))
 ·exact .inr (.inr (.inl (by simp)))
 ·exact .inr (.inl (by simp))
 ·exact .inl (by simp)
theorem anc {p c:Pt}:c∈caL p↔(c=(p.1 - 1,p.2 - 1) \/ c=(p.1 - 1,p.2) \/ c=(p.1,p.2 - 1) \/ c=(p.1,p.2)):=by
 unfold caL
 simp only [apq,ap0,or_false]
theorem afy {p c:Pt}:c∈caL p↔((p.1=c.1 \/ p.1=c.1+1)/\(p.2=c.2 \/ p.2=c.2+1)):=by
 rw [anc]
 obtain⟨x,y⟩:=p
 obtain⟨a,b⟩:=c
 simp only [Prod.mk.injEq]
 omega
theorem ak3 (p c:Pt):asl (asl p c) c=p:=by
 obtain⟨x,y⟩:=p
 unfold asl
 simp only [Prod.mk.injEq]
 omega
theorem ane {p c:Pt} (h:c∈caL p):c∈caL (asl p c):=by
 rw [afy] at h ⊢
 unfold asl
 dsimp only
 omega
theorem afz {p c:Pt} (h:c∈caL p) (cc:yy rows wd c=true) (x:jl rows wd cut c.1 c.2=true):hiP rows cut (asl p c)=hiP rows cut p/\inP rows wd (asl p c)=true:=by
 obtain⟨h1,h2,h3⟩:=aji cc x
 obtain⟨i1,i2,i3,i4⟩:=cell_in cc
 obtain⟨a,b⟩:=c
 obtain⟨u,v⟩:=p
 rw [afy] at h
 dsimp only at h h1 h2 h3 i1 i2 i3 i4
 unfold hiP inP asl
 dsimp only
 obtain⟨hu,hv⟩:=h
 rcases hu with rfl | rfl <;> rcases hv with rfl | rfl
 ·rw [show 2 * u+1 - u=u+1 by omega,show 2 * v+1 - v=v+1 by omega]
  exact⟨h3,i3⟩
 ·rw [show 2 * u+1 - u=u+1 by omega,show 2 * b+1 - (b+1)=b by omega]
  exact⟨by rw [h1,h2],i2⟩
 ·rw [show 2 * a+1 - (a+1)=a by omega,show 2 * v+1 - v=v+1 by omega]
  exact⟨by rw [h1,h2],i4⟩
 ·rw [show 2 * a+1 - (a+1)=a by omega,show 2 * b+1 - (b+1)=b by omega]
  exact⟨h3.symm,i1⟩
theorem mem_join {p q:Pt}:q∈jn rows wd cut p↔((q∈nbL p/\inP rows wd q=true/\hiP rows cut q=hiP rows cut p) \/ ∃ c,c∈caL p/\yy rows wd c=true/\jl rows wd cut c.1 c.2=true/\adB rows cut c.1 c.2=hiP rows cut p/\q=asl p c):=by
 unfold jn
 rw [apC,ap9,ap9,apJ]
 constructor
 ·rintro (⟨⟨h1,h2⟩,h3⟩ | ⟨c,hc,rfl⟩)
  ·exact .inl ⟨h1,h2,by simpa using h3⟩
  ·obtain⟨h1,h2⟩:=ap9.mp hc
   obtain⟨h3,h4⟩:=ap9.mp h1
   rw [apu] at h2
   exact .inr ⟨c,h3,h4,h2.1,by simpa using h2.2,rfl⟩
 ·rintro (⟨h1,h2,h3⟩ | ⟨c,h1,h2,h3,h4,rfl⟩)
  ·exact .inl ⟨⟨h1,h2⟩,by simpa using h3⟩
  ·refine .inr ⟨c,ap9.mpr ⟨ap9.mpr ⟨h1,h2⟩,?_⟩,rfl⟩
   rw [h3,h4]
   simp
theorem adC {p q:Pt} (h:q∈jn rows wd cut p):inP rows wd q=true/\hiP rows cut q=hiP rows cut p:=by
 rcases mem_join.mp h with⟨_,h2,h3⟩ | ⟨c,h1,h2,h3,_,rfl⟩
 ·exact⟨h2,h3⟩
 ·exact⟨(afz h1 h2 h3).2,(afz h1 h2 h3).1⟩
theorem ahJ {p q:Pt} (hp:inP rows wd p=true) (h:q∈jn rows wd cut p):p∈jn rows wd cut q:=by
 rcases mem_join.mp h with⟨h1,h2,h3⟩ | ⟨c,h1,h2,h3,h4,rfl⟩
 ·exact mem_join.mpr (.inl ⟨ak2 h1,hp,h3.symm⟩)
 ·exact mem_join.mpr (.inr ⟨c,ane h1,h2,h3,h4.trans (afz h1 h2 h3).1.symm,(ak3 p c).symm⟩)
theorem Reach.trans {s p q:Pt} (h:Reach rows wd cut s p) (h':Reach rows wd cut p q):Reach rows wd cut s q:=by
 induction h' with
 | refl=>exact h
 | step _ hq ih=>exact ih.step hq
theorem Reach.ins {s p:Pt} (hs:inP rows wd s=true) (h:Reach rows wd cut s p):inP rows wd p=true/\hiP rows cut p=hiP rows cut s:=by
 induction h with
 | refl=>exact⟨hs,rfl⟩
 | step _ hq ih=>exact⟨(adC hq).1,(adC hq).2.trans ih.2⟩
theorem Reach.symm {s p:Pt} (hs:inP rows wd s=true) (h:Reach rows wd cut s p):Reach rows wd cut p s:=by
 induction h with
 | refl=>exact .refl
 | step h1 hq ih=>exact (Reach.refl.step (ahJ (h1.ins hs).1 hq)).trans ih
structure Reg (rows:List (List Int)) (wd:Nat) (cut:Int) (r:Bool×List Pt) (h:Pt):Prop where
 hd:r.2.head?=some h
 up:(r.2.map pD).Pairwise fun d e=>ltD d e=true
 mem:∀ q,q∈r.2↔Reach rows wd cut h q
 inn:inP rows wd h=true
 hi:r.1=hiP rows cut h
structure Regs (rows:List (List Int)) (wd:Nat) (cut:Int) (rs:List (Bool×List Pt)):Prop where
 reg:∀ r∈rs,∃ h,Reg rows wd cut r h
 all:∀ p,inP rows wd p=true->∃ r∈rs,p∈r.2
 ord:rs.Pairwise fun a b=>∀ p q,a.2.head?=some p->b.2.head?=some q->ltD (pD p) (pD q)=true
theorem agw {r r':Bool×List Pt} {h h':Pt} (R:Reg rows wd cut r h) (R':Reg rows wd cut r' h') {p:Pt} (hp:p∈r.2) (hp':p∈r'.2):r=r':=by
 have a1:=(R.mem p).mp hp
 have a2:=(R'.mem p).mp hp'
 have e:r.2=r'.2:=ak1 R.up R'.up fun x=>by
  rw [R.mem,R'.mem]
  exact⟨fun z=>a2.trans ((a1.symm R.inn).trans z),fun z=>a1.trans ((a2.symm R'.inn).trans z)⟩
 have eh:h=h':=by
  have:=R.hd
  rw [e,R'.hd] at this
  exact (Option.some.inj this).symm
 exact Prod.ext (by rw [R.hi,R'.hi,eh]) e
theorem aeE {rs us:List (Bool×List Pt)} (A:Regs rows wd cut rs) (B:Regs rows wd cut us):rs=us:=by
 have mem:∀ {rs us:List (Bool×List Pt)},Regs rows wd cut rs->Regs rows wd cut us->∀ r∈rs,r∈us:=fun A B r hr=>by
  obtain⟨h,R⟩:=A.reg r hr
  have hm:h∈r.2:=List.mem_of_head? R.hd
  obtain⟨u,hu,hmu⟩:=B.all h R.inn
  obtain⟨h',U⟩:=B.reg u hu
  rw [agw R U hm hmu]
  exact hu
 have key:∀ (rs us:List (Bool×List Pt)),(∀ r∈rs,∃ h,Reg rows wd cut r h)->(∀ r∈us,∃ h,Reg rows wd cut r h)->(rs.Pairwise fun a b=>∀ p q,a.2.head?=some p->b.2.head?=some q->ltD (pD p) (pD q)=true)->(us.Pairwise fun a b=>∀ p q,a.2.head?=some p->b.2.head?=some q->ltD (pD p) (pD q)=true)->(∀ r,r∈rs↔r∈us)->rs=us:=fun rs=>by
  induction rs with
  | nil =>
   intro us _ _ _ _ h
   cases us with
   | nil=>rfl
   | cons u us=>exact nomatch (h u).mpr (apo ..)
  | cons r rs ih =>
   intro us ra rb pa pb h
   cases us with
   | nil=>exact nomatch (h r).mp (apo ..)
   | cons u us =>
    obtain⟨a1,a2⟩:=aqA.mp pa
    obtain⟨b1,b2⟩:=aqA.mp pb
    obtain⟨hr,R⟩:=ra r (apo ..)
    obtain⟨hu,U⟩:=rb u (apo ..)
    have e:r=u:=by
     rcases apq.mp ((h r).mp (apo ..)) with e | e
     ·exact e
     ·rcases apq.mp ((h u).mpr (apo ..)) with e' | e'
      ·exact e'.symm
      ·have:=abp (pD hr) (pD hu) (pD hr) rfl rfl rfl (a1 u e' _ _ R.hd U.hd) (b1 r e _ _ U.hd R.hd)
       rw [qA _ rfl] at this
       cases this
    subst e
    have no:∀ {l:List (Bool×List Pt)},(∀ x∈l,∀ p q,r.2.head?=some p->x.2.head?=some q->ltD (pD p) (pD q)=true)->r∉l:=fun hl hm=>by
     have:=hl r hm _ _ R.hd R.hd
     rw [qA _ rfl] at this
     cases this
    rw [ih us (fun x hx=>ra x (apl _ hx)) (fun x hx=>rb x (apl _ hx)) a2 b2 fun x=>?_]
    constructor
    ·intro hx
     rcases apq.mp ((h x).mp (apl _ hx)) with e | e
     ·exact absurd (e▸hx) (no a1)
     ·exact e
    ·intro hx
     rcases apq.mp ((h x).mpr (apl _ hx)) with e | e
     ·exact absurd (e▸hx) (no b1)
     ·exact e
 exact key rs us A.reg B.reg A.ord B.ord fun r=>⟨mem A B r,mem B A r⟩
noncomputable def jM (t n:Nat):List Pt:=(apK n).flatMap fun (x:Nat)=>(apK t).map fun (y:Nat)=>((x:Int),(y:Int))
theorem agx (t n:Nat):qO t n=(jM t n).map pD:=by
 unfold qO jM
 rw [List.map_flatMap]
 congr 1
 funext x
 rw [ap1]
 rfl
theorem mem_pts {p:Pt}:p∈jM rows.length wd↔inP rows wd p=true:=by
 unfold jM inP yx
 rw [aqs]
 constructor
 ·rintro⟨x,hx,h⟩
  obtain⟨y,hy,rfl⟩:=apJ.mp h
  rw [apV] at hx hy
  simp only [apu,decide_eq_true_eq]
  omega
 ·intro h
  simp only [apu,decide_eq_true_eq] at h
  obtain⟨u,v⟩:=p
  dsimp only at h
  refine⟨u.toNat,apV.mpr (by omega),apJ.mpr ⟨v.toNat,apV.mpr (by omega),?_⟩⟩
  simp only [Prod.mk.injEq]
  omega
theorem v5 (t:Nat):∀ n,(jM t n).length=t * n
 | 0=>rfl
 | n+1=>by
  unfold jM
  rw [arD,aq1,apA]
  have:=v5 t n
  unfold jM at this
  rw [this]
  simp only [arM,asW,apY,api,aqa]
  rw [atE]
theorem ajj {a b:Pt} (h:a.1<b.1 \/ (a.1=b.1/\a.2<b.2)):ltD (pD a) (pD b)=true:=by
 obtain⟨x,y⟩:=a
 obtain⟨x',y'⟩:=b
 dsimp only at h
 show ltD (.tuple [.int x,.int y]) (.tuple [.int x',.int y'])=true
 have e:∀ i j:Int,apP (.int i) (.int j)=(i == j):=fun i j=>rfl
 simp only [ltD,ltL,e,beq_iff_eq]
 by_cases h1:x=x'
 ·rw [if_pos h1,if_neg (by omega)]
  exact decide_eq_true (by omega)
 ·rw [if_neg h1]
  exact decide_eq_true (by omega)
theorem ak4 (t n:Nat):((jM t n).map pD).Pairwise fun d e=>ltD d e=true:=by
 rw [aqX]
 unfold jM
 refine akZ n (fun x _=>?_) fun x x' hx _ a ha b hb=>?_
 ·rw [aqX]
  refine List.Pairwise.imp (fun {a b} h=>?_) as1
  exact ajj (a:=((x:Int),(a:Int))) (b:=((x:Int),(b:Int))) (.inr ⟨rfl,by show (a:Int)<b;omega⟩)
 ·obtain⟨y,_,rfl⟩:=apJ.mp ha
  obtain⟨y',_,rfl⟩:=apJ.mp hb
  exact ajj (.inl (by show (x:Int)<x';omega))
theorem v7 (g:Good wd rows) {l:List Pt} (nd:l.Nodup) (h:∀ p∈l,inP rows wd p=true):l.length<=49:=by
 have key:∀ (l m:List Pt),l.Nodup->(∀ x∈l,x∈m)->l.length<=m.length:=fun l=>by
  induction l with
  | nil=>intro m _ _;exact ap2 _
  | cons a l ih =>
   intro m nd sub
   have ha:=sub a (apo ..)
   have hn:=aqq.mp nd
   have le:=List.length_erase_of_mem ha
   have hp:0<m.length:=List.length_pos_of_mem ha
   have:=ih (m.erase a) hn.2 (fun y hy=>(List.mem_erase_of_ne (fun (z:y=a)=>hn.1 (z▸hy))).mpr (sub y (apl _ hy)))
   rw [apL]
   omega
 have h1:=key l (jM rows.length wd) nd fun p hp=>mem_pts.mpr (h p hp)
 rw [v5] at h1
 exact apO h1 (aqp g.h2 g.w2)
end
structure Seek (rows:List (List Int)) (wd:Nat) (cut:Int) (st:Pt) (fs ws:List Pt):Prop where
 nd:fs.Nodup
 wn:ws.Nodup
 fst:st∈fs
 re:∀ p∈fs,Reach rows wd cut st p
 sub:∀ p∈ws,p∈fs
 cl:∀ p∈fs,p∉ws->∀ q∈jn rows wd cut p,q∈fs
theorem Seek.done {rows:List (List Int)} {wd:Nat} {cut:Int} {st:Pt} {fs:List Pt} (S:Seek rows wd cut st fs []) (q:Pt):q∈fs↔Reach rows wd cut st q:=by
 refine⟨S.re q,fun h=>?_⟩
 induction h with
 | refl=>exact S.fst
 | step _ hq ih=>exact S.cl _ ih ap0 _ hq
theorem Seek.turn {rows:List (List Int)} {wd:Nat} {cut:Int} {st p:Pt} {fs ws new:List Pt} (S:Seek rows wd cut st fs (ws++[p])) (nd:(fs++new).Nodup) (hn:∀ q∈new,q∈jn rows wd cut p) (all:∀ q∈jn rows wd cut p,q∈fs++new):Seek rows wd cut st (fs++new) (ws++new) where
 nd:=nd
 wn:=by
  obtain⟨n1,n2,n3⟩:=aqF.mp nd
  obtain⟨m1,_,_⟩:=aqF.mp S.wn
  exact aqF.mpr ⟨m1,n2,fun a ha b hb=>n3 a (S.sub a (apN _ ha)) b hb⟩
 fst:=apN _ S.fst
 re:=fun q hq=>by
  rcases apC.mp hq with h | h
  ·exact S.re q h
  ·exact (S.re p (S.sub p (by simp))).step (hn q h)
 sub:=fun q hq=>by
  rcases apC.mp hq with h | h
  ·exact apN _ (S.sub q (apN _ h))
  ·exact apy _ h
 cl:=fun r hr nw q hq=>by
  by_cases e:r=p
  ·rw [e] at hq
   exact all q hq
  ·rcases apC.mp hr with h | h
   ·refine apN _ (S.cl r h (fun z=>?_) q hq)
    rcases apC.mp z with z | z
    ·exact nw (apN _ z)
    ·exact e (apB.mp z)
   ·exact absurd (apy _ h) nw
theorem Seek.few {rows:List (List Int)} {wd:Nat} {cut:Int} {st:Pt} {fs ws:List Pt} (S:Seek rows wd cut st fs ws) (g:Good wd rows) (hi:inP rows wd st=true):fs.length<=49:=v7 g S.nd fun p hp=>((S.re p hp).ins hi).1
noncomputable abbrev ab1 (fs:List Pt):List (PyData×PyData):=fs.map fun p=>(pD p,.bool true)
theorem vj (fs:List Pt):(ab1 fs).map (·.1)=fs.map pD:=by rw [ap1];rfl
theorem ajk {fs:List Pt} {q:Pt} (h:q∉fs):dput (pD q) (.bool true) (ab1 fs)=ab1 (fs++[q]):=by
 unfold dput
 rw [if_neg (by rw [vj,mem_pD];exact h)]
 unfold ab1
 rw [apQ]
 rfl
noncomputable def abL (r:Bool×List Pt):PyData:=.tuple [.str (if r.1=true then "high" else "low"),.tuple (r.2.map pD)]
noncomputable abbrev TP:=List (List Int)×Nat×Int×Int
noncomputable abbrev aoz (K:apj):Sp:=spD K 3 (fun (c:TP) xs=>xs=[.dat (tab c.1),.dat (.int c.2.2.1),.dat (.int c.2.2.2)]/\Good c.2.1 c.1) fun c r=>r=.list (((nbL (c.2.2.1,c.2.2.2)).filter (inP c.1 c.2.1)).map pD)
theorem aoA (F:Def K mg "neighbours" jE ph) (uak:FnIn P w K mg base k "has_point" ph (agu K)):FnIn P w K mg base (k+1) "neighbours" ph (aoz K):=by
 refine F.ok sc_neighbours rfl fun fa cdv A outer s H E hr=>⟨_,(zd (zK (i:=3) sc_neighbours.nd rfl (Or.inl rfl) (yt (za (zG (za (zl yh (pv 1) zc) (za (pv 2) zb))) (za (zG (za (pv 1) (za (zl yh (pv 2) zc) zb))) (za (zG (za (pv 1) (za (zl zO (pv 2) zc) zb))) (za (zG (za (zl zO (pv 1) zc) (za (pv 2) zb))) zb)))))) (zm (zC (yw (N:=pE) (own:=2) (fr:=[0]) ⟨rfl,by decide +kernel,of_decide_eq_true (by kernel_rfl),of_decide_eq_true (by kernel_rfl),of_decide_eq_true (by kernel_rfl),rfl⟩ rfl (zW (K:=K) rfl (pv 3)) (fun _ _ _ _=>(zN (K:=K) (n:=2) rfl rfl (zh (zf (i:=0) (show (pE:List Str).Nodup by decide +kernel) rfl (Or.inl rfl) (Or.inr rfl)) (zh (zf (i:=1) (show (pE:List Str).Nodup by decide +kernel) rfl (Or.inl rfl) (Or.inr rfl)) zL)))) (fun _ _ _ _=>(qx (ym (K:=K) rfl (zg uak hr rfl (za (pv 2) (za (pv 0) (za (pv 1) zb)))) (fun _=>rfl)))) (fun _ _ _ _=>(zG (za (pv 0) (za (pv 1) zb)))) rfl rfl (fun _=>rfl))))),?_⟩
 rintro f xs ⟨rows,wd,x,y⟩ hl ⟨rfl,g⟩
 try dsimp only [yn,zo]
 dsimp only at *
 refine aaC (fun ρ=>ρ=[some (.dat (tab rows)),some (.dat (.int x)),some (.dat (.int y)),some (.dat (.list ((nbL (x,y)).map pD)))]) ?_ ?_
 ·walk_at "w"
  rfl
 rintro _ rfl
 refine yB (PEdO.ped (vG (A:=pD) (B:=pD) (inP rows wd) (nbL (x,y)) (yz (ze rfl ⟨_,rfl,rfl,apW rfl,?_,rfl⟩))))
 rintro D ⟨a,b⟩ ρ' es hg ho hes
 obtain⟨us,hus,rfl⟩:=ho
 match us,hus with
 | [u1,u2],_ =>
  refine yD rfl (zt (zj (zt (zj (ya (jw (zu (rows,wd,a,b) ?_)))))))
  walk_at "w"
  rintro _ rfl
  refine⟨_,rfl,rfl,yR (fun h=>?_) fun h=>?_⟩
  ·refine yE hes ?_
   walk_at "w"
   exact⟨⟨[_,_],rfl,rfl⟩,rfl⟩
  ·exact⟨[_,_],rfl,rfl⟩
noncomputable abbrev aoB (K:apj):Sp:=spD K 3 (fun (c:TP) xs=>xs=[.dat (tab c.1),.dat (.int c.2.2.1),.dat (.int c.2.2.2)]/\Good c.2.1 c.1) fun c r=>r=.list (((caL (c.2.2.1,c.2.2.2)).filter (yy c.1 c.2.1)).map pD)
theorem aoC (F:Def K mg "cells_at" qD ph) (ua1:FnIn P w K mg base k "has_cell" ph (ajg K)):FnIn P w K mg base (k+1) "cells_at" ph (aoB K):=by
 refine F.ok sc_cells_at rfl fun fa cdv A outer s H E hr=>⟨_,(zd (zK (i:=3) sc_cells_at.nd rfl (Or.inl rfl) (yt (za (zG (za (zl yh (pv 1) zc) (za (zl yh (pv 2) zc) zb))) (za (zG (za (zl yh (pv 1) zc) (za (pv 2) zb))) (za (zG (za (pv 1) (za (zl yh (pv 2) zc) zb))) (za (zG (za (pv 1) (za (pv 2) zb))) zb)))))) (zm (zC (yw (N:=pE) (own:=2) (fr:=[0]) ⟨rfl,by decide +kernel,of_decide_eq_true (by kernel_rfl),of_decide_eq_true (by kernel_rfl),of_decide_eq_true (by kernel_rfl),rfl⟩ rfl (zW (K:=K) rfl (pv 3)) (fun _ _ _ _=>(zN (K:=K) (n:=2) rfl rfl (zh (zf (i:=0) (show (pE:List Str).Nodup by decide +kernel) rfl (Or.inl rfl) (Or.inr rfl)) (zh (zf (i:=1) (show (pE:List Str).Nodup by decide +kernel) rfl (Or.inl rfl) (Or.inr rfl)) zL)))) (fun _ _ _ _=>(qx (ym (K:=K) rfl (zg ua1 hr rfl (za (pv 2) (za (pv 0) (za (pv 1) zb)))) (fun _=>rfl)))) (fun _ _ _ _=>(zG (za (pv 0) (za (pv 1) zb)))) rfl rfl (fun _=>rfl))))),?_⟩
 rintro f xs ⟨rows,wd,x,y⟩ hl ⟨rfl,g⟩
 try dsimp only [yn,zo]
 dsimp only at *
 refine aaC (fun ρ=>ρ=[some (.dat (tab rows)),some (.dat (.int x)),some (.dat (.int y)),some (.dat (.list ((caL (x,y)).map pD)))]) ?_ ?_
 ·walk_at "w"
  rfl
 rintro _ rfl
 refine yB (PEdO.ped (vG (A:=pD) (B:=pD) (yy rows wd) (caL (x,y)) (yz (ze rfl ⟨_,rfl,rfl,apW rfl,?_,rfl⟩))))
 rintro D ⟨a,b⟩ ρ' es hg ho hes
 obtain⟨us,hus,rfl⟩:=ho
 match us,hus with
 | [u1,u2],_ =>
  refine yD rfl (zt (zj (zt (zj (ya (jw (zu (rows,wd,a,b) ?_)))))))
  walk_at "w"
  rintro _ rfl
  refine⟨_,rfl,rfl,yR (fun h=>?_) fun h=>?_⟩
  ·refine yE hes ?_
   walk_at "w"
   exact⟨⟨[_,_],rfl,rfl⟩,rfl⟩
  ·exact⟨[_,_],rfl,rfl⟩
noncomputable abbrev TC:=List (List Int)×Nat×Int×Pt
noncomputable abbrev aoD (c:TC) (xs:List DV):Prop:=xs=[.dat (tab c.1),.dat (.int c.2.2.1),.dat (pD c.2.2.2)]/\Good c.2.1 c.1/\inP c.1 c.2.1 c.2.2.2=true
noncomputable abbrev ajl (K:apj):Sp:=spD K 3 aoD fun c r=>r=.list ((jn c.1 c.2.1 c.2.2.1 c.2.2.2).map pD)
theorem aeF {α:Type} {p q:α->Bool} {l:List α} {n:Nat} (h:l.length<=n):((l.filter p).filter q).length<=n:=apO (aqm _ _) (apO (aqm _ _) h)
theorem ak5 (F:Def K mg "joined" vY pB) (uae:FnIn P w K mg base k "stands_high" pB (abE K)) (ua2:FnIn P w K mg base k "neighbours" ph (aoz K)) (ua3:FnIn P w K mg base k "cells_at" ph (aoB K))
  (uaz:FnIn P w K mg base k "is_crossed" pj (aan K)) (uaA:FnIn P w K mg base k "has_high_middle" pj (ajh K)):FnIn P w K mg base (k+1) "joined" pB (ajl K):=by
 refine F.ok sc_joined rfl fun fa cdv A outer s H E hr=>⟨_,(zd (yg (pv 2) (zN (K:=K) (n:=2) rfl rfl (zh (zf (i:=3) sc_joined.nd rfl (Or.inr rfl) (Or.inl rfl)) (zh (zf (i:=4) sc_joined.nd rfl (Or.inr rfl) (Or.inl rfl)) zL)))) (zd (zK (i:=5) sc_joined.nd rfl (Or.inr rfl) (zg uae hr rfl (za (pv 0) (za (pv 1) (za (pv 2) zb))))) (zd (yO (i:=6) (N:=["other","rows","cut","high"]) (own:=1) (fr:=[0,1,5]) ⟨rfl,by decide +kernel,of_decide_eq_true (by kernel_rfl),of_decide_eq_true (by kernel_rfl),of_decide_eq_true (by kernel_rfl),rfl⟩ rfl sc_joined.nd rfl (Or.inl rfl) (zW (K:=K) rfl (zg ua2 hr rfl (za (pv 0) (za (pv 3) (za (pv 4) zb))))) (fun _ _ _ _=>(zf (i:=0) (show (["other","rows","cut","high"]:List Str).Nodup by decide +kernel) rfl (Or.inl rfl) (Or.inr rfl))) (fun _ _ _ _=>(qx (ye (acS (K:=K) rfl hr.units) (zg uae hr rfl (za (pv 1) (za (pv 2) (za (pv 0) zb)))) (pv 3) (yo _)))) (fun _ _ _ _=>(pv 0)) rfl rfl (fun _=>rfl) (Or.inl rfl) rfl) (zd (yO (i:=7) (N:=qa) (own:=2) (fr:=[0,1,3,4,5]) ⟨rfl,by decide +kernel,of_decide_eq_true (by kernel_rfl),of_decide_eq_true (by kernel_rfl),of_decide_eq_true (by kernel_rfl),rfl⟩ rfl sc_joined.nd rfl (Or.inl rfl) (zW (K:=K) rfl (zg ua3 hr rfl (za (pv 0) (za (pv 3) (za (pv 4) zb))))) (fun _ _ _ _=>(zN (K:=K) (n:=2) rfl rfl (zh (zf (i:=0) (show (qa:List Str).Nodup by decide +kernel) rfl (Or.inl rfl) (Or.inr rfl)) (zh (zf (i:=1) (show (qa:List Str).Nodup by decide +kernel) rfl (Or.inl rfl) (Or.inr rfl)) zL)))) (fun _ _ _ _=>(qx (PW.pt (aac (ym (K:=K) rfl (zg uaz hr rfl (za (pv 2) (za (pv 3) (za (zG (za (pv 0) (za (pv 1) zb))) zb)))) (fun _=>rfl)) (aaN (ye (acS (K:=K) rfl hr.units) (zg uaA hr rfl (za (pv 2) (za (pv 3) (za (zG (za (pv 0) (za (pv 1) zb))) zb)))) (pv 6) (yo _))))))) (fun _ _ _ _=>(zG (za (zl yh (zl zO (zl vA zc (pv 0)) zc) (pv 4)) (za (zl yh (zl zO (zl vA zc (pv 1)) zc) (pv 5)) zb)))) rfl rfl (fun _=>rfl) (Or.inl rfl) rfl) (zm (zC (zl (qU (K:=K) rfl) (pv 6) (pv 7)))))))),?_⟩
 rintro f xs ⟨rows,wd,cut,⟨x,y⟩⟩ hl ⟨rfl,g,ip⟩
 try dsimp only [yn,zo]
 dsimp only at *
 refine zS (zV (ze rfl (yD rfl (zt (zj (zt (zj (ya ?_))))))))
 refine aaC (fun ρ=>ρ=[some (.dat (tab rows)),some (.dat (.int cut)),some (.dat (pD (x,y))),some (.dat (.int x)),some (.dat (.int y)),some (.dat (.bool (hiP rows cut (x,y)))),none,none]) (zV (zu (rows,wd,cut,x,y) ?_)) ?_
 ·walk_at "w"
  rintro _ rfl
  exact zj rfl
 rintro _ rfl
 refine aaC (fun ρ=>ρ=[some (.dat (tab rows)),some (.dat (.int cut)),some (.dat (pD (x,y))),some (.dat (.int x)),some (.dat (.int y)),some (.dat (.bool (hiP rows cut (x,y)))),some (.dat (.list ((((nbL (x,y)).filter (inP rows wd)).filter fun q=>hiP rows cut q == hiP rows cut (x,y)).map pD))),none])
  (zV (PEdO.ped (vG (A:=pD) (B:=pD) (fun q=>hiP rows cut q == hiP rows cut (x,y)) ((nbL (x,y)).filter (inP rows wd)) (yz (zu (rows,wd,x,y) ?_))))) ?_
 ·walk_at "w"
  rintro _ rfl
  refine⟨_,rfl,rfl,apO (aqm _ _) (apW rfl),?_,zj rfl⟩
  rintro D ⟨a,b⟩ ρ' es hg ho hes
  have hi:inP rows wd (a,b)=true:=(ap9.mp hg).2
  obtain⟨us,hus,rfl⟩:=ho
  match us,hus with
  | [u1],_ =>
   refine zj (jh (qS (zu (rows,wd,cut,a,b) ?_)))
   walk_at "w"
   rintro _ rfl
   walk_at "w"
   refine yR (fun h=>?_) fun h=>?_
   ·refine yE hes ?_
    walk_at "w"
    exact⟨⟨[_],rfl,rfl⟩,rfl⟩
   ·exact⟨[_],rfl,rfl⟩
 rintro _ rfl
 refine aaC (fun ρ=>ρ=[some (.dat (tab rows)),some (.dat (.int cut)),some (.dat (pD (x,y))),some (.dat (.int x)),some (.dat (.int y)),some (.dat (.bool (hiP rows cut (x,y)))),some (.dat (.list ((((nbL (x,y)).filter (inP rows wd)).filter fun q=>hiP rows cut q == hiP rows cut (x,y)).map pD))),some (.dat (.list (((((caL (x,y)).filter (yy rows wd)).filter fun c=>jl rows wd cut c.1 c.2 && (adB rows cut c.1 c.2 == hiP rows cut (x,y))).map (asl (x,y))).map pD)))])
  (zV (PEdO.ped (vG (A:=pD) (B:=fun c=>pD (asl (x,y) c)) (fun c=>jl rows wd cut c.1 c.2 && (adB rows cut c.1 c.2 == hiP rows cut (x,y))) ((caL (x,y)).filter (yy rows wd)) (yz (zu (rows,wd,x,y) ?_))))) ?_
 ·walk_at "w"
  rintro _ rfl
  refine⟨_,rfl,rfl,apO (aqm _ _) (apW rfl),?_,zj (by rw [ap1];rfl)⟩
  rintro D ⟨a,b⟩ ρ' es hg ho hes
  have hi:yY rows wd a b=true:=(ap9.mp hg).2
  obtain⟨us,hus,rfl⟩:=ho
  match us,hus with
  | [u1,u2],_ =>
   refine yD rfl (zt (zj (zt (zj (ya (adX (jw (zu (rows,wd,cut,a,b) ?_))))))))
   walk_at "w"
   rintro _ rfl
   refine⟨_,rfl,yR (fun h1=>?_) fun h1=>?_⟩
   ·have h1:jl rows wd cut a b=true:=h1
    refine jh (qS (zu (rows,wd,cut,a,b) ?_))
    walk_at "w"
    rintro _ rfl
    walk_at "w"
    refine⟨by dsimp only;rw [h1,ar0];rfl,yR (fun h=>?_) fun h=>?_⟩
    ·refine yE hes ?_
     walk_at "w"
     exact⟨⟨[_,_],rfl,rfl⟩,rfl⟩
    ·exact⟨[_,_],rfl,rfl⟩
   ·have h1:jl rows wd cut a b=false:=h1
    exact⟨by dsimp only;rw [h1,aro],⟨[_,_],rfl,rfl⟩⟩
 rintro _ rfl
 refine yB (abn (ze rfl ⟨_,rfl,ze rfl ⟨_,rfl,?_,?_⟩⟩))
 ·rw [api,api,api]
  have h1:=aeF (p:=inP rows wd) (q:=fun q=>hiP rows cut q == hiP rows cut (x,y)) (l:=nbL (x,y)) (n:=4) (apr 4)
  have h2:=aeF (p:=yy rows wd) (q:=fun c=>jl rows wd cut c.1 c.2 && (adB rows cut c.1 c.2 == hiP rows cut (x,y))) (l:=caL (x,y)) (n:=4) (apr 4)
  omega
 ·rw [<-apQ]
  rfl
noncomputable def aoE (cs:List OC):Nat:=match cs with
 | [.dic kvs,.lst es]=>2 * (100 - kvs.length)+es.length
 | _=>0
noncomputable abbrev ajm (K:apj):Sp:=spD K 3 aoD fun c r=>∃ l:List Pt,r=.tuple (l.map pD)/\((l.map pD).Pairwise fun d e=>ltD d e=true)/\∀ q,q∈l↔Reach c.1 c.2.1 c.2.2.1 c.2.2.2 q
theorem ak6 (F:Def K mg "all_joined" jH pS) (uaB:mg "sorted"=none) (uaC:mg "tuple"=none) (ua4:FnIn P w K mg base k "joined" pB (ajl K)):FnIn P w K mg base (k+1) "all_joined" pS (ajm K):=by
 refine F.ok sc_all_joined rfl fun fa cdv A outer s H E hr=>⟨_,(zd (zK (i:=3) sc_all_joined.nd rfl (Or.inl rfl) (aky (w:=w) (K:=K) rfl rfl hr.units (pv 2) vJ)) (zd (zK (i:=4) sc_all_joined.nd rfl (Or.inl rfl) (yt (za (pv 2) zb))) (zd (aa5 ap4 (ym (K:=K) rfl (pv 4) (fun _=>rfl)) (zd (zK (i:=5) sc_all_joined.nd rfl (Or.inl rfl) (amo aqB PySem.F.slot_list_pop PySem.F.type_list_pop amq (pv 4))) (zm (jo ap4 rfl (zW (K:=K) rfl (zg ua4 hr rfl (za (pv 0) (za (pv 1) (za (pv 5) zb))))) (zf (i:=6) sc_all_joined.nd rfl (Or.inl rfl) (Or.inr rfl)) (zm (y6 (ye (adh (w:=w) (K:=K) rfl rfl hr.units) (pv 6) (pv 3) rfl) (zd (yg vJ (vz (pv 3) (pv 6) (aek (w:=w) (K:=K) rfl rfl hr.units))) (zm (jQ (adS aqB aqQ aqR qg (pv 4) (za (pv 6) zb))))) yk)))))) (zm (zC (acd (ad2 (K:=K) rfl) rfl uaC PyProof.Rows.boot_tuple (za (zM (aeo (w:=w) (K:=K) rfl rfl rfl hr.units) rfl uaB PyProof.Rows.boot_sorted (za (pv 3) zb)) zb))))))),?_⟩
 rintro f xs ⟨rows,wd,cut,st⟩ hl ⟨rfl,g,ip⟩
 try dsimp only [yn,zo]
 dsimp only at *
 refine aiT (w:=w) (aiU (akA fun p=>ze rfl ⟨qJ st,ae5 ⟨show 3<7 by decide,fun D0=>?_⟩⟩))
 refine aiU (ada (aiC (zq (ze rfl (zU ⟨[pD st],rfl,apW rfl,show 4<7 by decide,fun D1=>?_⟩)))))
 refine acv (fun ρ cs=>∃ (u5 u6:Option DV) (fs:List Pt),ρ=[some (.dat (tab rows)),some (.dat (.int cut)),some (.dat (pD st)),some (.own (f.M.length+0)),some (.own (f.M.length+1)),u5,u6]/\cs=[.dic (ab1 fs),.lst []]/\Seek rows wd cut st fs [])
  (aku (fun ρ cs=>∃ (u5 u6:Option DV) (fs ws:List Pt),ρ=[some (.dat (tab rows)),some (.dat (.int cut)),some (.dat (pD st)),some (.own (f.M.length+0)),some (.own (f.M.length+1)),u5,u6]/\cs=[.dic (ab1 fs),.lst (ws.map pD)]/\Seek rows wd cut st fs ws) (fun _ cs=>aoE cs) ⟨none,none,[st],[st],rfl,rfl,?_⟩ ?_) ?_
 ·exact⟨by simp,by simp,apB.mpr rfl,fun p hp=>by rw [apB.mp hp];exact .refl,fun p hp=>hp,fun p hp nw=>absurd hp nw⟩
 ·rintro _ _ ⟨u5,u6,fs,ws,rfl,rfl,S⟩
  have few:=S.few g ip
  rcases List.eq_nil_or_concat ws with rfl | ⟨ws',p,rfl⟩
  ·refine agm (jw (ze (i:=4) (d:=.list []) ?_ ⟨false,rfl,?_⟩))
   ·show some (freed _ _ _)=_
    simp [freed]
   ·rw [if_neg apk]
    exact⟨u5,u6,fs,rfl,rfl,S⟩
  ·rw [List.concat_eq_append] at S ⊢
   have hp:=S.sub p (by simp)
   have ipp:=((S.re p hp).ins ip).1
   have fw:(ws'++[p]).length<=49:=v7 g S.wn fun q hq=>((S.re q (S.sub q hq)).ins ip).1
   rw [apA] at fw
   refine agm (jw (ze (i:=4) (d:=.list ((ws'++[p]).map pD)) ?_ ⟨true,?_,?_⟩))
   ·show some (freed _ _ _)=_
    simp [freed]
   ·rw [apQ]
    show some _=some _
    simp
   ·rw [if_pos rfl]
    refine aaB (aon (i:=4) (j:=1) (es:=ws'.map pD) (d:=pD p) rfl (by rw [apQ];rfl) ?_)
    refine acr (yz (zu (rows,wd,cut,p) ?_))
    walk_at "w"
    rintro _ rfl
    refine⟨_,rfl,fun i ρ cs=>∃ (u6:Option DV) (new:List Pt),ρ=[some (.dat (tab rows)),some (.dat (.int cut)),some (.dat (pD st)),some (.own (f.M.length+0)),some (.own (f.M.length+1)),some (.dat (pD p)),u6]/\cs=[.dic (ab1 (fs++new)),.lst ((ws'++new).map pD)]/\(fs++new).Nodup/\(∀ q∈new,q∈jn rows wd cut p)/\∀ q∈(jn rows wd cut p).take i,q∈fs++new,⟨u6,[],rfl,?_,?_,?_,?_⟩,?_,?_⟩
    ·rw [apY,apY]
     rfl
    ·rw [apY]
     exact S.nd
    ·exact fun q hq=>nomatch hq
    ·exact fun q hq=>by rw [asb] at hq;cases hq
    ·rintro i d _ _ hd ⟨u6,new,rfl,rfl,nd,hn,tk⟩
     rw [apt] at hd
     cases eq:(jn rows wd cut p)[i]? with
     | none=>rw [eq] at hd;cases hd
     | some q =>
      rw [eq] at hd
      cases hd
      have hq:q∈jn rows wd cut p:=apv eq
      have few2:(fs++new).length<=49:=v7 g nd fun r hr=>by
       rcases apC.mp hr with h | h
       ·exact ((S.re r h).ins ip).1
       ·exact (adC (hn r h)).1
      rw [apA] at few2
      have tk':(jn rows wd cut p).take (i+1)=(jn rows wd cut p).take i++[q]:=by rw [aqh,eq];rfl
      have dec:decide (pD q∈(ab1 (fs++new)).map (·.1))=decide (q∈fs++new):=by
       rw [vj]
       exact decide_eq_decide.mpr mem_pD
      refine zj (akt (akz (neg:=true) (i:=3) (j:=0) rfl rfl (abv (ze rfl ⟨qJ q,?_⟩))))
      rw [if_pos rfl,dec]
      refine yR (fun h=>?_) fun h=>?_
      ·have hq':q∉fs++new:=by simpa using h
       refine aaB (alE (i:=3) (j:=0) rfl rfl (by rw [api,apA];omega) (ae5 (ze rfl ⟨qJ q,?_⟩)))
       refine alD (i:=4) (j:=1) rfl rfl (by rw [api,apA];omega) (abv (ze rfl ?_))
       refine⟨_,new++[q],rfl,?_,?_,?_,?_⟩
       ·rw [ajk hq',aqu,<- aqu ws',apQ (l₁:=ws'++new)]
        rfl
       ·rw [<-aqu]
        exact aqF.mpr ⟨nd,by simp,fun a ha b hb e=>hq' (by rw [apB.mp hb] at e;exact e▸ha)⟩
       ·intro r hr
        rcases apC.mp hr with h | h
        ·exact hn r h
        ·rw [apB.mp h];exact hq
       ·intro r hr
        rw [tk'] at hr
        rw [<-aqu]
        rcases apC.mp hr with h | h
        ·exact apN _ (tk r h)
        ·exact apy _ h
      ·have hq':q∈fs++new:=aqd fun z=>by rw [decide_eq_false z] at h;cases h
       refine ac9 ⟨_,new,rfl,rfl,nd,hn,fun r hr=>?_⟩
       rw [tk'] at hr
       rcases apC.mp hr with h | h
       ·exact tk r h
       ·rw [apB.mp h];exact hq'
    ·rintro _ _ ⟨u6,new,rfl,rfl,nd,hn,tk⟩
     rw [api] at tk
     rw [aqk] at tk
     refine⟨⟨_,u6,fs++new,ws'++new,rfl,rfl,S.turn nd hn tk⟩,?_⟩
     have few2:=(S.turn nd hn tk).few g ip
     show 2 * (100 - (ab1 (fs++new)).length)+((ws'++new).map pD).length<2 * (100 - (ab1 fs).length)+((ws'++[p]).map pD).length
     simp only [api,apA,ap3] at few2 ⊢
     omega
 rintro _ _ ⟨u5,u6,fs,rfl,rfl,S⟩
 have few:=S.few g ip
 refine aom (amP "int" (i:=3) (j:=0) rfl rfl (by rw [vj];exact anb S.nd) (by rw [api];omega) fun es pm up=>?_)
 rw [vj] at pm
 obtain⟨l,pl,rfl⟩:=vS pm fs rfl
 exact⟨l,rfl,up,fun q=>by rw [pl.mem_iff];exact S.done q⟩
theorem ahK {rows:List (List Int)} {wd:Nat} {cut:Int} {st:Pt} {l:List Pt} (up:(l.map pD).Pairwise fun d e=>ltD d e=true) (mem:∀ q,q∈l↔Reach rows wd cut st q) (least:∀ q,Reach rows wd cut st q->q=st \/ ltD (pD st) (pD q)=true):l.head?=some st:=by
 have hs:st∈l:=(mem st).mpr .refl
 cases l with
 | nil=>cases hs
 | cons a l =>
  rcases apq.mp hs with e | e
  ·rw [e];rfl
  ·have h1:=(aqA.mp up).1 (pD st) (mem_pD.mpr e)
   rcases least a ((mem a).mp (apo ..)) with e' | e'
   ·rw [e'];rfl
   ·have:=abp (pD a) (pD st) (pD a) rfl rfl rfl h1 e'
    rw [qA _ rfl] at this
    cases this
structure Sofar (rows:List (List Int)) (wd:Nat) (cut:Int) (ps:List Pt) (rs:List (Bool×List Pt)) (ks:List PyData):Prop where
 reg:∀ r∈rs,∃ h,Reg rows wd cut r h/\h∈ps
 all:∀ p∈ps,∃ r∈rs,p∈r.2
 ord:rs.Pairwise fun a b=>∀ p q,a.2.head?=some p->b.2.head?=some q->ltD (pD p) (pD q)=true
 key:∀ p,pD p∈ks↔∃ r∈rs,p∈r.2
theorem Sofar.done {rows:List (List Int)} {wd:Nat} {cut:Int} {rs:List (Bool×List Pt)} {ks:List PyData} (S:Sofar rows wd cut (jM rows.length wd) rs ks):Regs rows wd cut rs :=
 ⟨fun r hr=>let⟨h,R,_⟩:=S.reg r hr;⟨h,R⟩,fun p hp=>S.all p (mem_pts.mpr hp),S.ord⟩
theorem Sofar.more {rows:List (List Int)} {wd:Nat} {cut:Int} {ps:List Pt} {rs:List (Bool×List Pt)} {ks:List PyData} (S:Sofar rows wd cut ps rs ks) {p:Pt} {qs:List Pt} (e:jM rows.length wd=ps++p :: qs) (hn:pD p∉ks) {l:List Pt} (up:(l.map pD).Pairwise fun d e=>ltD d e=true) (mem:∀ q,q∈l↔Reach rows wd cut p q) :
  Sofar rows wd cut (ps++[p]) (rs++[(hiP rows cut p,l)]) (l.map pD++ks):=by
 have ip:inP rows wd p=true:=mem_pts.mp (by rw [e];simp)
 have hup:=ak4 rows.length wd
 rw [e,apQ,apT,asm] at hup
 obtain⟨_,u2,u3⟩:=hup
 obtain⟨u4,_⟩:=aqA.mp u2
 have free:∀ q,Reach rows wd cut p q->∀ r∈rs,q∉r.2:=fun q hq r hr hm=>by
  obtain⟨h,R,_⟩:=S.reg r hr
  exact hn ((S.key p).mpr ⟨r,hr,(R.mem p).mpr (((R.mem q).mp hm).trans (hq.symm ip))⟩)
 have least:∀ q,Reach rows wd cut p q->q=p \/ ltD (pD p) (pD q)=true:=fun q hq=>by
  have iq:=(hq.ins ip).1
  have hm:=mem_pts.mpr iq
  rw [e,apC,apq] at hm
  rcases hm with h | h | h
  ·obtain⟨r,hr,hm⟩:=S.all q h
   exact absurd hm (free q hq r hr)
  ·exact .inl h
  ·exact .inr (u4 _ (mem_pD.mpr h))
 have hd:=ahK up mem least
 have R:Reg rows wd cut (hiP rows cut p,l) p:=⟨hd,up,mem,ip,rfl⟩
 refine⟨fun r hr=>?_,fun q hq=>?_,?_,fun q=>?_⟩
 ·rcases apC.mp hr with h | h
  ·obtain⟨h',R',m⟩:=S.reg r h
   exact⟨h',R',apN _ m⟩
  ·rw [apB.mp h]
   exact⟨p,R,by simp⟩
 ·rcases apC.mp hq with h | h
  ·obtain⟨r,hr,hm⟩:=S.all q h
   exact⟨r,apN _ hr,hm⟩
  ·rw [apB.mp h]
   exact⟨_,apy _ (apB.mpr rfl),(mem p).mpr .refl⟩
 ·refine asm.mpr ⟨S.ord,by simp,fun a ha b hb x y hx hy=>?_⟩
  rw [apB.mp hb,hd] at hy
  cases hy
  obtain⟨h,R',m⟩:=S.reg a ha
  rw [R'.hd] at hx
  cases hx
  exact u3 _ (mem_pD.mpr m) _ (apo ..)
 ·rw [apC,mem_pD,S.key]
  constructor
  ·rintro (h | ⟨r,hr,hm⟩)
   ·exact⟨_,apy _ (apB.mpr rfl),h⟩
   ·exact⟨r,apN _ hr,hm⟩
  ·rintro⟨r,hr,hm⟩
   rcases apC.mp hr with h | h
   ·exact .inr ⟨r,h,hm⟩
   ·rw [apB.mp h] at hm
    exact .inl hm
theorem Sofar.skip {rows:List (List Int)} {wd:Nat} {cut:Int} {ps:List Pt} {rs:List (Bool×List Pt)} {ks:List PyData} (S:Sofar rows wd cut ps rs ks) {p:Pt} (h:pD p∈ks):Sofar rows wd cut (ps++[p]) rs ks :=
 ⟨fun r hr=>let⟨h,R,m⟩:=S.reg r hr;⟨h,R,apN _ m⟩,fun q hq=>by
  rcases apC.mp hq with h' | h'
  ·exact S.all q h'
  ·rw [apB.mp h']
   exact (S.key p).mp h,S.ord,S.key⟩
theorem Sofar.keys {rows:List (List Int)} {wd:Nat} {cut:Int} {ps:List Pt} {rs:List (Bool×List Pt)} {ks ks':List PyData} (S:Sofar rows wd cut ps rs ks) (h:∀ p,pD p∈ks'↔pD p∈ks):Sofar rows wd cut ps rs ks':=⟨S.reg,S.all,S.ord,fun p=>(h p).trans (S.key p)⟩
theorem Sofar.nil {rows:List (List Int)} {wd:Nat} {cut:Int}:Sofar rows wd cut [] [] []:=⟨fun _ h=>(nomatch h),fun _ h=>(nomatch h),List.Pairwise.nil,fun p=>⟨fun h=>(nomatch h),fun⟨_,h,_⟩=>(nomatch h)⟩⟩
noncomputable def ahL (w:World) (K:apj) (f:Fx) (Ds:List Addr) (ts:TS) (ρ:zr) (cs:List OC) (j:Nat) (R:List PyData->Prop):Prop:=Sep f Ds->∀ (σ:L2.St) (H H2:Hp) (E:Ends),CM w K f Ds H2 ρ cs σ H ->
 (∀ D es ρ' cs' σ' H',CM w K f Ds H2 ρ' cs' σ' H'->Ds[j]?=some D->cs'[j]?=some (.lst es)->R es->E.rt (.ref D) H')->ts E σ H
section
variable {w:World} {K:apj} {f:Fx} {Ds:List Addr} {ρ:zr} {cs:List OC} {ts tu:TS} {te:TE} {R:List PyData->Prop} {i j:Nat}
theorem anf (h:PSm w K f Ds ts ρ cs { nx:=fun ρ' cs'=>ahL w K f Ds tu ρ' cs' j R,rt:=fun _=>False }):ahL w K f Ds (qt ts tu) ρ cs j R:=fun se σ H H2 E x q =>
 h se σ H H2 _ x (fun ρ' cs' σ' H' x' p=>p se σ' H' H2 E x' q) (fun _ _ _ _ _ _ _ _ z=>z.elim) (fun _ _ _ _ _ z=>z.elim) (fun _ _ _ _ _ z=>z.elim)
theorem ang (hj:j<Ds.length) (h:abW w K (f.withs Ds) te ρ fun c=>i<ρ.length/\∀ D,ahL w K f (Ds++[D]) ts (ρ.set i (some (.own (f.M.length+Ds.length)))) (cs++[c]) j R):ahL w K f Ds (qt (jD te (yG i)) ts) ρ cs j R:=fun se σ H H2 E x q =>
 h σ H _ x.env fun c D H1 g1 hn ho ⟨hi,p⟩ =>
  p D (se.more x.env.fd hn) _ H1 H1 E (x.more g1 hn ho hi) fun D' es ρ' cs' σ' H' y h1 h2 r=>by
   rw [apx hj] at h1
   exact q D' es _ _ σ' H' (x.less g1 hn y) h1 (by rw [arj hj];exact h2) r
theorem anh {es:List PyData} (hi:ρ[i]?=some (some (.own (f.M.length+j)))) (hc:cs[j]?=some (.lst es)) (h:R es):ahL w K f Ds (aeS (yj i)) ρ cs j R:=fun se σ H H2 E x q=>by
 have hj:j<Ds.length:=by rw [<-x.len];exact (apm.mp hc).1
 have hD:Ds[j]?=some Ds[j]:=aph hj
 exact⟨_,jj hi x hD,q _ es ρ cs σ H x hD hc h⟩
theorem ani (h:abW w K f te ρ fun c=>i<ρ.length/\∀ D,ahL w K f [D] ts (ρ.set i (some (.own (f.M.length+0)))) [c] 0 R):PSn K f (qt (jD te (yG i)) ts) ρ R:=fun σ H E e q=>by
 have se0:Sep f []:=⟨aqU,(fun _ z=>nomatch z),(fun _ z=>nomatch z)⟩
 have x0:CM w K f [] H ρ [] σ H:=⟨e,Same.refl _,fun _ _=>rfl,rfl,(fun i D c z=>nomatch z)⟩
 refine h σ H _ e fun c D H1 g1 hn ho ⟨hi,p⟩=>?_
 refine p D (se0.more e.fd hn) _ H1 H1 E (x0.more g1 hn ho hi) fun D' es ρ' cs' σ' H' y h1 h2 r=>?_
 cases h1
 have z:=x0.less g1 hn y
 obtain⟨vs,h3,h4⟩:=y.own 0 D _ rfl h2
 exact q es D vs H' ⟨z.sm,z.env.fd,z.kp⟩ hn h3 h4 r
end
theorem aeG {rows:List (List Int)} {wd:Nat} (g:Good wd rows) {ks:List PyData} (nd:ks.Nodup) (h:∀ d∈ks,∃ p,d=pD p/\inP rows wd p=true):ks.length<=49:=by
 have key:∀ ks:List PyData,(∀ d∈ks,∃ p,d=pD p/\inP rows wd p=true)->∃ l:List Pt,ks=l.map pD/\∀ p∈l,inP rows wd p=true:=fun ks=>by
  induction ks with
  | nil=>exact fun _=>⟨[],rfl,(fun _ z=>nomatch z)⟩
  | cons d ks ih =>
   intro h
   obtain⟨p,rfl,hp⟩:=h d (apo ..)
   obtain⟨l,rfl,hl⟩:=ih fun e he=>h e (apl _ he)
   exact⟨p :: l,rfl,fun q hq=>by
    rcases apq.mp hq with rfl | hq
    ·exact hp
    ·exact hl q hq⟩
 obtain⟨l,rfl,hl⟩:=key ks h
 rw [api]
 exact v7 g (ato _ (fun a b z e=>z (by rw [e])) nd) hl
noncomputable abbrev anj (c:List (List Int)×Nat×Int) (xs:List DV):Prop:=xs=[.dat (tab c.1),.dat (.int c.2.2)]/\Good c.2.1 c.1
noncomputable abbrev adD (K:apj):Sp:=spN K 2 anj fun c es=>∃ rs,es=rs.map abL/\Regs c.1 c.2.1 c.2.2 rs/\rs.length<=49
theorem ak7 (F:Def K mg "regions" vc pz) (uaD:mg "set"=none) (uaE:FnIn P w K mg base k "ask_table" pf (ajc K)) (ua5:FnIn P w K mg base k "points" pf (aeD K)) (ua6:FnIn P w K mg base k "all_joined" pS (ajm K)) (uae:FnIn P w K mg base k "stands_high" pB (abE K)):FnIn P w K mg base (k+1) "regions" pz (adD K):=by
 refine F.okN sc_regions rfl fun fa cdv A outer s H E hr=>⟨_,(zd (jQ (zg uaE hr rfl (za (pv 0) zb))) (zd (zK (i:=2) sc_regions.nd rfl (Or.inl rfl) (yt zb)) (zd (zK (i:=3) sc_regions.nd rfl (Or.inl rfl) (aeY (ade (w:=w) rfl) rfl uaD PyProof.Rows.boot_set)) (zd (jo ap4 rfl (zW (K:=K) rfl (zg ua5 hr rfl (za (pv 0) zb))) (zf (i:=4) sc_regions.nd rfl (Or.inl rfl) (Or.inr rfl)) (zm (y6 (ye (afc (w:=w) (K:=K) rfl rfl hr.units) (pv 4) (pv 3) rfl) (zd (zK (i:=5) sc_regions.nd rfl (Or.inl rfl) (zg ua6 hr rfl (za (pv 0) (za (pv 1) (za (pv 4) zb))))) (zd (jQ (adS aqB aqQ aqR qg (pv 2) (za (zG (za (ah0 (ym (K:=K) rfl (zg uae hr rfl (za (pv 0) (za (pv 1) (za (pv 4) zb)))) (fun _=>rfl)) ahY ahY) (za (pv 5) zb))) zb))) (zm (jo ap4 rfl (acT (K:=K) rfl (pv 5)) (zf (i:=6) sc_regions.nd rfl (Or.inl rfl) (Or.inr rfl)) (zm (jQ (amK (w:=w) rfl atm PySem.F.type_set_add (aiW (w:=w) (K:=K) rfl rfl hr.units) (pv 3) (za (pv 6) zb)))))))) yk))) (zm (zC (pv 2))))))),?_⟩
 rintro f xs ⟨rows,wd,cut⟩ hl ⟨rfl,g⟩
 try dsimp only [yn,zo]
 dsimp only at *
 refine aiD (acP (zu (rows,wd) ?_))
 walk_at "w"
 rintro _ rfl
 refine ani (w:=w) (ada (alA ⟨show 2<7 by decide,fun D0=>?_⟩))
 refine ang (show 0<1 by decide) (amL ⟨show 3<7 by decide,fun D1=>?_⟩)
 refine anf (acr (yz (zu (rows,wd) ?_)))
 walk_at "w"
 rintro _ rfl
 dsimp only
 rw [agx]
 have pl:(jM rows.length wd).length<=49:=by rw [v5];exact aqp g.h2 g.w2
 refine⟨_,rfl,fun i ρ cs=>∃ (u4 u5 u6:Option DV) (rs:List (Bool×List Pt)) (ks:List PyData),ρ=[some (.dat (tab rows)),some (.dat (.int cut)),some (.own (f.M.length+0)),some (.own (f.M.length+1)),u4,u5,u6]/\cs=[.lst (rs.map abL),.set ks]/\Sofar rows wd cut ((jM rows.length wd).take i) rs ks/\rs.length<=i/\ks.Nodup/\∀ d∈ks,∃ p,d=pD p/\inP rows wd p=true,⟨_,_,_,[],[],rfl,rfl,by rw [asb];exact .nil,apr 0,aqU,(fun _ z=>nomatch z)⟩,?_,?_⟩
 ·rintro i d _ _ hd ⟨u4,u5,u6,rs,ks,rfl,rfl,S,rl,kl,kp⟩
  rw [apt] at hd
  cases eq:(jM rows.length wd)[i]? with
  | none=>rw [eq] at hd;cases hd
  | some p =>
   rw [eq] at hd
   cases hd
   have hil:=(apm.mp eq).1
   have ip:inP rows wd p=true:=mem_pts.mp (apv eq)
   have tk:(jM rows.length wd).take (i+1)=(jM rows.length wd).take i++[p]:=by rw [aqh,eq];rfl
   have sp:jM rows.length wd=(jM rows.length wd).take i++p :: (jM rows.length wd).drop (i+1):=by
    have:=apm.mp eq
    rw [<-this.2,<- List.drop_eq_getElem_cons this.1,atb]
   refine zj (akt (aok (neg:=true) (i:=3) (j:=1) rfl rfl (abv (ze rfl ⟨qJ p,?_⟩))))
   rw [if_pos rfl]
   refine yR (fun h=>?_) fun h=>?_
   ·have hn:pD p∉ks:=by simpa using h
    refine acv (fun ρ cs=>∃ l:List Pt,ρ=[some (.dat (tab rows)),some (.dat (.int cut)),some (.own (f.M.length+0)),some (.own (f.M.length+1)),some (.dat (pD p)),some (.dat (.tuple (l.map pD))),u6]/\cs=[.lst (rs.map abL),.set ks]/\((l.map pD).Pairwise fun d e=>ltD d e=true)/\∀ q,q∈l↔Reach rows wd cut p q) (ac8 (zV (zu (rows,wd,cut,p) ?_))) ?_
    ·walk_at "w"
     rintro _ ⟨l,rfl,up,mem⟩
     exact zj ⟨l,rfl,rfl,up,mem⟩
    rintro _ _ ⟨l,rfl,rfl,up,mem⟩
    have S':=S.more sp hn up mem
    rw [<-tk] at S'
    have nd:l.Nodup:=ato _ (fun a b (z:ltD (pD a) (pD b)=true) e=>by rw [e,qA _ rfl] at z;cases z) up
    have ll:l.length<=49:=v7 g nd fun q hq=>(((mem q).mp hq).ins ip).1
    refine acv (fun ρ cs=>ρ=[some (.dat (tab rows)),some (.dat (.int cut)),some (.own (f.M.length+0)),some (.own (f.M.length+1)),some (.dat (pD p)),some (.dat (.tuple (l.map pD))),u6]/\cs=[.lst ((rs++[(hiP rows cut p,l)]).map abL),.set ks]) (alD (i:=2) (j:=0) rfl rfl (by rw [api];omega) (abv (y9 (zq (amv (jw (zu (rows,wd,cut,p.1,p.2) ?_)))))))  ?_
    ·walk_at "w"
     rintro _ rfl
     refine⟨_,rfl,yR (fun h1=>?_) fun h1=>?_⟩
     ·have h1:hiP rows cut p=true:=h1
      walk_at "w"
      rw [h1,apQ]
      rfl
     ·have h1:hiP rows cut p=false:=h1
      walk_at "w"
      rw [h1,apQ]
      rfl
    rintro _ _ ⟨rfl,rfl⟩
    refine acr (aiq (ze rfl ⟨_,rfl,fun j ρ cs=>∃ (u6:Option DV) (ks':List PyData),ρ=[some (.dat (tab rows)),some (.dat (.int cut)),some (.own (f.M.length+0)),some (.own (f.M.length+1)),some (.dat (pD p)),some (.dat (.tuple (l.map pD))),u6]/\cs=[.lst ((rs++[(hiP rows cut p,l)]).map abL),.set ks']/\ks'.Nodup/\(∀ d∈ks',∃ p,d=pD p/\inP rows wd p=true)/\∀ q,pD q∈ks'↔(q∈l.take j \/ pD q∈ks),⟨_,ks,rfl,rfl,kl,kp,fun q=>⟨.inr,fun z=>z.elim (fun z=>by rw [asb] at z;cases z) id⟩⟩,?_,?_⟩))
    ·rintro j d _ _ hd ⟨u6,ks',rfl,rfl,nd',kp',mk⟩
     rw [apt] at hd
     cases eq':l[j]? with
     | none=>rw [eq'] at hd;cases hd
     | some q =>
      rw [eq'] at hd
      cases hd
      have hq:q∈l:=apv eq'
      have iq:=(((mem q).mp hq).ins ip).1
      have tk':l.take (j+1)=l.take j++[q]:=by rw [aqh,eq'];rfl
      have kl':=aeG g nd' kp'
      refine zj (aol (i:=3) (j:=1) rfl rfl (by omega) (abv (ze rfl ⟨qJ q,fun h=>?_,fun h=>?_⟩)))
      ·refine⟨_,ks',rfl,rfl,nd',kp',fun r=>?_⟩
       rw [tk',apC,apB,mk]
       constructor
       ·rintro (z | z)
        ·exact .inl (.inl z)
        ·exact .inr z
       ·rintro ((z | z) | z)
        ·exact .inl z
        ·rw [z];exact (mk q).mp h
        ·exact .inr z
      ·refine⟨_,pD q :: ks',rfl,rfl,aqq.mpr ⟨h,nd'⟩,fun d hd=>?_,fun r=>?_⟩
       ·rcases apq.mp hd with rfl | hd
        ·exact⟨q,rfl,iq⟩
        ·exact kp' d hd
       ·rw [tk',apC,apB,apq,mk]
        constructor
        ·rintro (z | z | z)
         ·exact .inl (.inr (aao z))
         ·exact .inl (.inl z)
         ·exact .inr z
        ·rintro ((z | z) | z)
         ·exact .inr (.inl z)
         ·exact .inl (by rw [z])
         ·exact .inr (.inr z)
    ·rintro _ _ ⟨u6,ks',rfl,rfl,nd',kp',mk⟩
     rw [api,aqk] at mk
     refine⟨_,_,_,rs++[(hiP rows cut p,l)],ks',rfl,rfl,S'.keys fun q=>?_,by rw [apA,ap3];omega,nd',kp'⟩
     rw [mk,apC,mem_pD]
   ·have hm:pD p∈ks:=aqd fun z=>by rw [decide_eq_false z] at h;cases h
    refine ac9 ⟨_,_,_,rs,ks,rfl,rfl,?_,by omega,kl,kp⟩
    rw [tk]
    exact S.skip hm
 ·rintro _ _ ⟨u4,u5,u6,rs,ks,rfl,rfl,S,rl,kl,kp⟩
  rw [api,aqk] at S
  rw [api] at rl
  exact anh (i:=2) (j:=0) rfl rfl ⟨rs,rfl,S.done,by omega⟩
theorem adE {rows:List (List Int)} {wd:Nat} {cut:Int} {rs:List (Bool×List Pt)} (R:Regs rows wd cut rs) {i j:Nat} {r r':Bool×List Pt} (hi:rs[i]?=some r) (hj:rs[j]?=some r') {p:Pt} (h:p∈r.2) (h':p∈r'.2):i=j:=by
 obtain⟨x,X⟩:=R.reg r (apv hi)
 obtain⟨y,Y⟩:=R.reg r' (apv hj)
 have e:=agw X Y h h'
 have nd:rs.Nodup:=R.ord.imp_of_mem fun {a b} ha hb z e=>by
  obtain⟨x,X⟩:=R.reg a ha
  have:=z x x X.hd (e▸X.hd)
  rw [qA _ rfl] at this
  cases this
 rw [<-e] at hj
 exact (List.getElem?_inj (apm.mp hi).1 nd).mp (hi.trans hj.symm)
theorem vk {k v:PyData} {kvs:List (PyData×PyData)}:(dput k v kvs).map (·.1)=if k∈kvs.map (·.1) then kvs.map (·.1) else kvs.map (·.1)++[k]:=by
 unfold dput
 by_cases h:k∈kvs.map (·.1)
 ·rw [if_pos h,if_pos h,ap1]
  refine aql fun p _=>?_
  show (if p.1=k then (p.1,v) else p).1=p.1
  split <;> rfl
 ·rw [if_neg h,if_neg h,apQ]
  rfl
structure Keyed (rows:List (List Int)) (wd:Nat) (kvs:List (PyData×PyData)):Prop where
 nd:(kvs.map (·.1)).Nodup
 pt:∀ d∈kvs.map (·.1),∃ p,d=pD p/\inP rows wd p=true
theorem Keyed.put {rows:List (List Int)} {wd:Nat} {kvs:List (PyData×PyData)} (h:Keyed rows wd kvs) {p:Pt} (ip:inP rows wd p=true) (v:PyData):Keyed rows wd (dput (pD p) v kvs):=by
 by_cases z:pD p∈kvs.map (·.1)
 ·exact⟨by rw [vk,if_pos z];exact h.nd,by rw [vk,if_pos z];exact h.pt⟩
 ·refine⟨?_,?_⟩
  ·rw [vk,if_neg z]
   exact aqF.mpr ⟨h.nd,by simp,fun a ha b hb e=>z (by rw [apB.mp hb] at e;exact e▸ha)⟩
  ·rw [vk,if_neg z]
   intro d hd
   rcases apC.mp hd with hd | hd
   ·exact h.pt d hd
   ·rw [apB.mp hd];exact⟨p,rfl,ip⟩
theorem Keyed.few {rows:List (List Int)} {wd:Nat} {kvs:List (PyData×PyData)} (g:Good wd rows) (h:Keyed rows wd kvs):kvs.length<=49:=by
 have:=aeG g h.nd h.pt
 rw [api] at this
 exact this
theorem ank {rows:List (List Int)} {wd:Nat} {cut:Int} {rs:List (Bool×List Pt)} (R:Regs rows wd cut rs) {r:Bool×List Pt} (hr:r∈rs) {p:Pt} (h:p∈r.2):inP rows wd p=true:=by
 obtain⟨x,X⟩:=R.reg r hr
 exact (((X.mem p).mp h).ins X.inn).1
noncomputable def told (rs:List (Bool×List Pt)) (kvs:List (PyData×PyData)):Prop:=∀ (n:Nat) r p,rs[n]?=some r->p∈r.2->j8 (pD p) kvs=some (.int n)
noncomputable def aoF (b:Bool):PyData:=.str (if b=true then "high" else "low")
theorem ak8 {rs:List (Bool×List Pt)} {n:Nat} {d:PyData} (h:(aax (rs.map abL))[n]?=some d):∃ r,rs[n]?=some r/\d=.tuple [.int n,abL r]:=by
 unfold aax at h
 rw [atj,apt] at h
 cases e:rs[n]? with
 | none=>rw [e] at h;cases h
 | some r =>
  rw [e] at h
  cases h
  exact⟨r,rfl,rfl⟩
theorem ajn (ds:List PyData):(aax ds).length=ds.length:=by
 unfold aax
 simp
noncomputable abbrev acy (w:World) (K:apj):Sp:=spV K 2 anj fun c x=>∃ rs kvs,x=.mon (aaK w K kvs)/\Regs c.1 c.2.1 c.2.2 rs/\rs.length<=49/\told rs kvs
theorem afA (F:Def K mg "indexes" vd pz) (uai:mg "enumerate"=none) (uat:FnIn P w K mg base k "regions" pz (adD K)):FnIn P w K mg base (k+1) "indexes" pz (acy w K):=by
 refine F.okV sc_indexes rfl fun fa cdv A outer s H E hr=>⟨_,(zd (zK (i:=2) sc_indexes.nd rfl (Or.inl rfl) (ahq (w:=w) rfl)) (zd (jo ap4 rfl (ad3 (K:=K) rfl rfl uai (za (zg uat hr rfl (za (pv 0) (za (pv 1) zb))) zb)) (zN (K:=K) (n:=2) rfl rfl (zh (zf (i:=3) sc_indexes.nd rfl (Or.inl rfl) (Or.inr rfl)) (zh (zN (K:=K) (n:=2) rfl rfl (zh (zf (i:=4) sc_indexes.nd rfl (Or.inl rfl) (Or.inr rfl)) (zh (zf (i:=5) sc_indexes.nd rfl (Or.inl rfl) (Or.inr rfl)) zL))) zL))) (zm (jo ap4 rfl (acT (K:=K) rfl (pv 5)) (zf (i:=6) sc_indexes.nd rfl (Or.inl rfl) (Or.inr rfl)) (zm (yg (pv 3) (vz (pv 2) (pv 6) (aek (w:=w) (K:=K) rfl rfl hr.units))))))) (zm (zC (pv 2))))),?_⟩
 rintro f xs ⟨rows,wd,cut⟩ hl ⟨rfl,g⟩
 try dsimp only [yn,zo]
 dsimp only at *
 refine amT (w:=w) (amN ⟨show 2<7 by decide,fun D0=>?_⟩)
 refine amR (acr (amx (zq (PEdO.ped (acY (rows,wd,cut) ?_)))))
 walk_at "w"
 rintro _ ⟨rs,rfl,R,rl⟩
 dsimp only at R
 refine zU ⟨_,rfl,fun n ρ cs=>∃ (u3 u4 u5 u6:Option DV) (kvs:List (PyData×PyData)),ρ=[some (.dat (tab rows)),some (.dat (.int cut)),some (.own (f.M.length+0)),u3,u4,u5,u6]/\cs=[.dic kvs]/\Keyed rows wd kvs/\∀ (m:Nat) r p,m<n->rs[m]?=some r->p∈r.2->j8 (pD p) kvs=some (.int m),⟨_,_,_,_,[],rfl,rfl,⟨aqU,(fun _ z=>nomatch z)⟩,(fun m r p z=>absurd z (aqZ _))⟩,?_,?_⟩
 ·rintro n d _ _ hd ⟨u3,u4,u5,u6,kvs,rfl,rfl,ky,tl⟩
  obtain⟨r,hrn,rfl⟩:∃ r,rs[n]?=some r/\d=.tuple [.int n,abL r]:=ak8 hd
  have hm:=apv hrn
  refine yD rfl (zt (zj (zt (yD rfl (zt (zj (zt (zj (ya (ya ?_))))))))))
  refine acr (aiq (ze rfl ⟨_,rfl,fun j ρ cs=>∃ (u6:Option DV) (kvs:List (PyData×PyData)),ρ=[some (.dat (tab rows)),some (.dat (.int cut)),some (.own (f.M.length+0)),some (.dat (.int n)),some (.dat (aoF r.1)),some (.dat (.tuple (r.2.map pD))),u6]/\cs=[.dic kvs]/\Keyed rows wd kvs/\(∀ (m:Nat) r p,m<n->rs[m]?=some r->p∈r.2->j8 (pD p) kvs=some (.int m))/\∀ p∈r.2.take j,j8 (pD p) kvs=some (.int n),⟨_,kvs,rfl,rfl,ky,tl,fun p hp=>by rw [asb] at hp;cases hp⟩,?_,?_⟩))
  ·rintro j d _ _ hd ⟨u6,kvs,rfl,rfl,ky,tl,tk⟩
   rw [apt] at hd
   cases eq:r.2[j]? with
   | none=>rw [eq] at hd;cases hd
   | some q =>
    rw [eq] at hd
    cases hd
    have hq:=apv eq
    have few:=ky.few g
    refine zj (alE (i:=2) (j:=0) rfl rfl (by omega) (ze rfl (ze rfl ⟨qJ q,?_⟩)))
    refine⟨_,_,rfl,rfl,ky.put (ank R hm hq) _,fun m r' p hmn hr hp=>?_,fun p hp=>?_⟩
    ·rw [yQ _ (fun z=>?_)]
     ·exact tl m r' p hmn hr hp
     ·have:=adE R hr hrn hp (aao z▸hq)
      omega
    ·rw [aqh,eq] at hp
     by_cases e:p=q
     ·rw [e];exact ql ..
     ·rw [yQ _ (fun z=>e (aao z))]
      rcases apC.mp hp with h | h
      ·exact tk p h
      ·exact absurd (apB.mp h) e
  ·rintro _ _ ⟨u6,kvs,rfl,rfl,ky,tl,tk⟩
   rw [api,aqk] at tk
   refine⟨_,_,_,_,kvs,rfl,rfl,ky,fun m r' p hmn hr hp=>?_⟩
   by_cases e:m=n
   ·subst e
    rw [hrn] at hr
    cases hr
    exact tk p hp
   ·exact tl m r' p (by omega) hr hp
 ·rintro _ _ ⟨u3,u4,u5,u6,kvs,rfl,rfl,ky,tl⟩
  refine amS (i:=2) (j:=0) rfl rfl ⟨kvs,rfl,rs,kvs,rfl,R,rl,fun n r p hr hp=>tl n r p ?_ hr hp⟩
  have:=(apm.mp hr).1
  rw [ajn,api]
  exact this
noncomputable abbrev TO:=List (List Int)×Nat×Int×Int×Int
noncomputable abbrev scr (ns:List Int):PyData:=.list (ns.map .int)
theorem agy {K:apj} {H:Hp} {a:Addr} {ns:List Int} (h:SqL K H a (ns.map V.int)):Rep K (hide H L2.f0) (scr ns) (.ref a):=by
 rw [y8]
 exact rep_list.mpr ⟨a,_,rfl,h,Reps.ints' ns⟩
theorem ak9 {K:apj} {H:Hp} {v:V} {ns:List Int} (h:Rep K (hide H L2.f0) (scr ns) v):∃ a,v=.ref a/\SqL K H a (ns.map V.int):=by
 rw [y8] at h
 obtain⟨a,xs,rfl,h1,h2⟩:=rep_list.mp h
 rw [h2.ints] at h1
 exact⟨a,rfl,h1⟩
noncomputable def afB (K:apj):Sp:=fun vs H Q _=>∃ (a:Addr) (ns:List Int) (i:Int),vs=[.ref a,.int i]/\SqL K H a (ns.map V.int)/\ns.length<=63/\0<=i/\i<=63 /\
 ∀ (p:Addr) (x y:Int) (H':Hp),Same H H'->H p=none->H' p=some (.lst [.int x,.int y])->0<=x->0<=y->y<2147483647->Q (.ref p) H'
noncomputable def agz (K:apj):Sp:=fun vs H Q _=>∃ (a:Addr) (ns:List Int),vs=[.ref a]/\SqL K H a (ns.map V.int)/\ns.length<=63/\∀ H',Q (.bl true) H'
theorem ala {K:apj} {f:Fx} {t:TA} {ρ:zr} {R R':List DV->Prop} (h:PAd K f t ρ R) (i:∀ xs,R xs->R' xs):PAd K f t ρ R':=fun σ H Q e q=>h σ H Q e fun xs vs H' g r p=>q xs vs H' g r (i xs p)
theorem anl {K:apj} {ρ:zr} {ns:List Int} {i:Int} {E2:XK} (h0:ρ[0]?=some (some (.dat (scr ns)))) (h1:ρ[1]?=some (some (.dat (.int i)))) (hl:ns.length<=63) (i0:0<=i) (i1:i<=63) :
  ∀ (σ:L2.St) (H:Hp) (Q:VK),EnvOk K L2.f0 ρ σ H->(∀ (p:Addr) (x y:Int) (H':Hp),Same H H'->H p=none->H' p=some (.lst [.int x,.int y])->0<=x->0<=y->y<2147483647->Q (.ref p) H')->ab7 (afB K) [] E2 (yb (yj 0) (yb (yj 1) jz)) σ H Q:=by
 intro σ H Q e q
 obtain⟨v0,hv0,r0⟩:=e.get 0 _ h0
 obtain⟨v1,hv1,r1⟩:=e.get 1 _ h1
 obtain⟨a,rfl,hS⟩:=ak9 r0
 have e1:v1=.int i:=rep_int.mp (show Rep K (hide H L2.f0) (.int i) v1 from r1)
 subst e1
 exact⟨_,hv0,_,hv1,a,ns,i,rfl,hS,hl,i0,i1,q⟩
theorem alb (F:Def K mg "_law_feed" qH pU) (uaa:mg "len"=none) (uac:mg "abs"=none):FnIn P w K mg base (k+1) "_law_feed" pU (afB K):=by
 refine F.raw sc_law_feed (fun vs H Q E h=>?_) fun fa cdv A outer s H vs Q E hr hs=>⟨_,(zd (zK (i:=2) sc_law_feed.nd rfl (Or.inl rfl) zc) (zd (y6 (ye adO (zM (yJ (K:=K) rfl) rfl uaa aqI (za (pv 0) zb)) zc (yo _)) (zm (zK (i:=2) sc_law_feed.nd rfl (Or.inl rfl) (zx (zp (K:=K) rfl) (pv 0) (zl yV (pv 1) (zM (yJ (K:=K) rfl) rfl uaa aqI (za (pv 0) zb))) (fun _ _=>rfl)))) yk) (zm (zC (yt (za (zM (j9) rfl uac aqM (za (pv 2) zb)) (za (zl zO (zl vA zc (pv 1)) zc) zb))))))),?_⟩
 ·obtain⟨a,ns,i,rfl,_⟩:=h
  rfl
 obtain⟨a,ns,i,rfl,hS,h63,i0,i1,q⟩:=hs
 have e0:EnvOk K L2.f0 (qz vH [.dat (scr ns),.dat (.int i)]) (start vH [.ref a,.int i]) H:=qh (.cons (agy hS) (.cons (show RepV K L2.f0 H (.dat (.int i)) (.int i) from (rep_int (K:=K) (H:=hide H L2.f0)).mpr rfl) .nil)) (L2.fok0 H)
 refine aio (D:={ nx:=fun ρ=>ρ=[some (.dat (scr ns)),some (.dat (.int i)),some (.dat (.int 0))],rt:=fun _=>False }) ?_ e0 ?_ (fun _ _ _ _ _ z=>z.elim) (fun _ z=>z) (fun _ z=>z)
 ·walk_at "w"
  rfl
 rintro _ σ1 H1 g1 e1 rfl
 refine aio (D:={ nx:=fun ρ=>∃ c:Int,ρ=[some (.dat (scr ns)),some (.dat (.int i)),some (.dat (.int c))],rt:=fun _=>False }) ?_ e1 ?_ (fun _ _ _ _ _ z=>z.elim) (fun _ z=>z) (fun _ z=>z)
 ·walk_at "w"
  rw [api]
  by_cases h:0<ns.length
  ·rw [if_pos (by simpa using h)]
   walk_at "w"
   rw [api]
   have z0:=asp i (b:=(ns.length:Int)) (by omega)
   have z1:=aq7 i (b:=(ns.length:Int)) (by omega)
   refine⟨by omega,_,rfl,_,j5 (j:=(i % (ns.length:Int)).toNat) (by omega) (by omega),?_⟩
   walk_at "w"
   exact⟨_,rfl⟩
  ·rw [if_neg (by simpa using h)]
   walk_at "w"
   exact⟨_,rfl⟩
 rintro _ σ2 H2 g2 e2 ⟨c,rfl⟩
 unfold aeS
 have ss:Same H H2:=(L2.same0 g1).trans (L2.same0 g2)
 refine ad1 (R:=fun ds=>∃ x y:Int,ds=[.int x,.int y]/\0<=x/\0<=y/\y<2147483647) ?_ e2 ?_
 ·walk_at "w"
  omega
 ·rintro p ds vs H3 g3 hn rs ⟨x,y,rfl,hx,hy,hy'⟩
  have sf:Same H H3:=ss.trans (L2.same0 g3)
  have ev:vs=[.int x,.int y]:=Reps.ints (ns:=[x,y]) rs
  subst ev
  exact q p x y _ (sf.trans (yd hn _)) (sf.free hn) zw hx hy hy'
noncomputable def opF (A B C D:Bool) (i:Fin 4):Bool:=match i with
 | 0=>A != B
 | 1=>A != D
 | 2=>D != C
 | 3=>B != C
noncomputable def aoG (A B C D M:Bool):List (Fin 4×Fin 4) :=
 if (opF A B C D 0 && opF A B C D 1 && opF A B C D 2 && opF A B C D 3)=true then (if (A == M)=true then [(0,3),(1,2)] else [(0,1),(2,3)]) else
 match ([0,1,2,3]:List (Fin 4)).filter (opF A B C D) with
 | a :: b :: _=>[(a,b)]
 | _=>[]
noncomputable abbrev Gt:=Int×Int×Int
noncomputable def gt (x y:Int) (i:Fin 4):Gt:=match i with
 | 0=>(x,y,0)
 | 1=>(x,y,1)
 | 2=>(x,y+1,0)
 | 3=>(x+1,y,1)
section
variable (rows:List (List Int)) (wd:Nat) (cut:Int)
noncomputable def t4 (x y:Int):List (Fin 4×Fin 4):=aoG (hiB rows cut x y) (hiB rows cut (x+1) y) (hiB rows cut (x+1) (y+1)) (hiB rows cut x (y+1)) (adB rows cut x y)
end
section
variable {rows:List (List Int)} {wd:Nat} {cut x y:Int}
theorem anm {g:Gt} (o:opG rows wd cut g=true):g.2.2=0 \/ g.2.2=1:=by
 unfold opG yF v3 at o
 rw [apu,apu] at o
 exact of_decide_eq_true o.1.1
end
noncomputable abbrev GO:=List (List Int)×Nat×Int×Gt
noncomputable abbrev aoH (c:GO) (xs:List DV):Prop:=xs=[.dat (tab c.1),.dat (.int c.2.2.1),.dat (gD3 c.2.2.2)]/\Good c.2.1 c.1/\opG c.1 c.2.1 c.2.2.1 c.2.2.2=true
noncomputable abbrev aeH (K:apj):Sp:=spD K 2 (fun (c:Int×Int) xs=>xs=[.dat (.int c.1),.dat (.int c.2)]) fun c r=>r=.int (aqz c.1 c.2:Int)
noncomputable def aoI:zr->Nat
 | [_,some (.dat (.int b))]=>b.toNat
 | _=>0
theorem aeI (a b:Nat):asj b (a % b)=asj a b:=by rw [Nat.gcd_comm b,<- Nat.gcd_rec,Nat.gcd_comm]
theorem ahM (F:Def K mg "common" vV pL) (uac:mg "abs"=none):FnIn P w K mg base (k+1) "common" pL (aeH K):=by
 refine F.ok sc_common rfl fun fa cdv A outer s H E hr=>⟨_,(zd (aeT (i:=0) (j:=1) rfl sc_common.nd rfl rfl (by decide) rfl rfl (za (zM (j9) rfl uac aqM (za (pv 0) zb)) (za (zM (j9) rfl uac aqM (za (pv 1) zb)) zb)) rfl) (zd (aa5 ap4 (ym (K:=K) rfl (pv 1) (fun _=>rfl)) (zm (aeT (i:=0) (j:=1) rfl sc_common.nd rfl rfl (by decide) rfl rfl (za (pv 1) (za (zl yV (pv 0) (pv 1)) zb)) rfl))) (zm (zC (pv 0))))),?_⟩
 rintro f xs ⟨a,b⟩ hl rfl
 try dsimp only [yn,zo]
 dsimp only at *
 refine zS (aiA ?_)
 walk_at "w"
 have ha:(if a<0 then -a else a)=(a.natAbs:Int):=by split <;> omega
 have hb:(if b<0 then -b else b)=(b.natAbs:Int):=by split <;> omega
 refine (afY (fun ρ=>∃ p q:Nat,ρ=[some (.dat (.int p)),some (.dat (.int q))]/\asj p q=aqz a b) aoI ⟨a.natAbs,b.natAbs,?_,rfl⟩ ?_)
 ·rw [ha,hb]
  rfl
 rintro _ ⟨p,q,rfl,h⟩
 walk_at "w"
 refine yR (fun h2=>?_) fun h2=>?_
 ·have hq:0<q:=by
   have:(q:Int)≠0:=by simpa using h2
   omega
  refine aiA ?_
  walk_at "w"
  refine⟨⟨q,p % q,?_,?_⟩,?_⟩
  ·rfl
  ·rw [aeI];exact h
  ·show ((p:Int) % (q:Int)).toNat<((q:Int)).toNat
   have:=atx p hq
   omega
 ·have hq:q=0:=by
   have:(q:Int)=0:=by simpa using h2
   omega
  subst hq
  walk_at "w"
  rw [Nat.gcd_zero_right] at h
  rw [h]
noncomputable abbrev acz (K:apj):Sp:=spD K 2 (fun (c:Nat×Nat) xs=>xs=[.dat (.int c.1),.dat (.int c.2)]) fun c r=>r=.int (asj c.1 c.2:Nat)
theorem afC (F:Def K mg "_law_common" jK pO):FnIn P w K mg base (k+1) "_law_common" pO (acz K):=by
 refine F.ok sc_law_common rfl fun fa cdv A outer s H E hr=>⟨_,(zd (aa5 ap4 (ye adO (pv 1) zc (yo _)) (zm (aeT (i:=0) (j:=1) rfl sc_law_common.nd rfl rfl (by decide) rfl rfl (za (pv 1) (za (zl yV (pv 0) (pv 1)) zb)) rfl))) (zm (zC (pv 0)))),?_⟩
 rintro f xs ⟨a,b⟩ hl rfl
 try dsimp only [yn,zo]
 dsimp only at *
 refine zS (afY (fun ρ=>∃ p q:Nat,ρ=[some (.dat (.int p)),some (.dat (.int q))]/\asj p q=asj a b) aoI ⟨a,b,rfl,rfl⟩ ?_)
 rintro _ ⟨p,q,rfl,h⟩
 walk_at "w"
 refine yR (fun h2=>?_) fun h2=>?_
 ·have hq:0<q:=by
   have:=of_decide_eq_true h2
   omega
  refine aiA ?_
  walk_at "w"
  refine⟨⟨q,p % q,?_,?_⟩,?_⟩
  ·rfl
  ·rw [aeI];exact h
  ·show ((p:Int) % (q:Int)).toNat<((q:Int)).toNat
   have:=atx p hq
   omega
 ·have hq:q=0:=by
   have:=of_decide_eq_false h2
   omega
  subst hq
  walk_at "w"
  rw [Nat.gcd_zero_right] at h
  rw [h]
noncomputable abbrev Fr2:=Int×Int
noncomputable def frD (p:Fr2):PyData:=.tuple [.int p.1,.int p.2]
noncomputable def yA (l:List Fr2):Rat:=l.foldl (fun q p=>q+apG p.1 p.2) 0
theorem aap (l:List Fr2) (p:Fr2):yA (l++[p])=yA l+apG p.1 p.2:=by unfold yA;rw [asI];rfl
theorem ajo {q:Rat} {m p:Int} (hp:p≠0):apG (q.num * p+m * (q.den:Int)) ((q.den:Int) * p)=q+apG m p:=by
 have hd:((q.den:Nat):Int)≠0:=by have:=q.den_nz;omega
 conv=>rhs;rw [<-arA q]
 rw [Rat.divInt_add_divInt _ _ hd hp]
noncomputable def Com (M:Nat) (q:Rat):Prop:=∃ N:Int,q * (M:Rat)=(N:Rat)
theorem Com.add {M:Nat} {p q:Rat} (hp:Com M p) (hq:Com M q):Com M (p+q):=by
 obtain⟨a,ha⟩:=hp
 obtain⟨b,hb⟩:=hq
 exact⟨a+b,by rw [arE,<- ha,<- hb,Rat.add_mul]⟩
theorem Com.den {M:Nat} {q:Rat} (hM:0<M) (h:Com M q):q.den<=M:=by
 obtain⟨N,h⟩:=h
 have mz:(M:Rat)≠0:=by
  intro z
  have:=Rat.natCast_eq_zero_iff.mp z
  omega
 have e:q=apG N (M:Int):=by
  rw [apM,<- h]
  show q=q * (M:Rat) / (((M:Nat):Int):Rat)
  rw [Rat.intCast_natCast]
  exact (Rat.mul_div_cancel mz).symm
 rw [e]
 exact apO (abA (by omega)) (by rw [aqf];exact apr _)
noncomputable abbrev aa0 (K:apj):Sp:=spD K 2 (fun (c:Fr2) xs=>xs=[.dat (.int c.1),.dat (.int c.2)]/\c.2≠0/\c.2.natAbs<jx) fun c r=>r=aal (apG c.1 c.2)
theorem ajp (F:Def K mg "shortened" jW pH) (ua7:FnIn P w K mg base k "common" pL (aeH K)):FnIn P w K mg base (k+1) "shortened" pH (aa0 K):=by
 refine F.ok sc_shortened rfl fun fa cdv A outer s H E hr=>⟨_,(zd (zK (i:=2) sc_shortened.nd rfl (Or.inl rfl) (zg ua7 hr rfl (za (pv 0) (za (pv 1) zb)))) (zd (y6 (ye ah5 (pv 1) zc (yo _)) (zm (zK (i:=2) sc_shortened.nd rfl (Or.inl rfl) (anN amg (pv 2)))) yk) (zm (zC (zG (za (zl vT (pv 0) (pv 2)) (za (zl vT (pv 1) (pv 2)) zb))))))),?_⟩
 rintro f xs ⟨t,b⟩ hl ⟨rfl,b0,bh⟩
 try dsimp only [yn,zo]
 dsimp only at *
 obtain⟨s1,s2⟩:=acx (t:=t) b0
 have gp:0<aqz t b:=asr t b0
 have gl:aqz t b<=b.natAbs:=Nat.le_of_dvd (by omega) (Int.ofNat_dvd_left.mp (Int.gcd_dvd_right t b))
 refine zS (zV (zu (t,b) (aak rfl rfl ⟨rfl,rfl,?_⟩)))
 rintro _ rfl
 refine zj (aaC (fun ρ=>ρ=[some (.dat (.int t)),some (.dat (.int b)),some (.dat (.int (b.sign * (aqz t b:Int))))]) ?_ ?_)
 ·refine alK (b<0) (t_b (acg (ze rfl ⟨_,rfl,zB ⟨_,rfl,_,rfl,rfl⟩⟩))) (fun h=>?_) fun h=>vp ?_
  ·refine zV (aof (ze rfl ⟨_,rfl,zj ?_⟩))
   rw [aqG h,Int.neg_one_mul]
   rfl
  ·have:0<b:=by omega
   rw [aqH this,asH]
   rfl
 rintro _ rfl
 have nz:b.sign * ((aqz t b:Nat):Int)≠0:=as8 (fun z=>b0 (Int.sign_eq_zero_iff_zero.mp z)) (by omega)
 have nh:(b.sign * ((aqz t b:Nat):Int)).natAbs<jx:=by
  rw [aq9,aqf]
  have:b.sign.natAbs=1:=by
   rcases asa b 0 with h | h | h
   ·rw [aqG h];rfl
   ·exact absurd h b0
   ·rw [aqH h];rfl
  rw [this,atL]
  omega
 refine yB (y9 (zq (zP (ze rfl ⟨_,rfl,ze rfl ⟨_,rfl,⟨nz,nh⟩,zq (zP (ze rfl ⟨_,rfl,ze rfl ⟨_,rfl,⟨nz,nh⟩,zU ⟨_,rfl,by show 2<=1000;decide,?_⟩⟩⟩))⟩⟩))))
 show PyData.tuple [.int _,.int _]=aal _
 rw [s1,s2]
 rfl
noncomputable abbrev TTo:=List Fr2×Nat×Nat×Nat
noncomputable abbrev adF (K:apj):Sp:=spD K 1 (fun (c:TTo) xs=>xs=[.dat (.list (c.1.map frD))]/\0<c.2.1/\c.2.1<2 ^ 3500/\(∀ p∈c.1,p.1.natAbs<2 ^ c.2.2.1/\0<p.2/\p.2.natAbs<2 ^ c.2.2.1/\Com c.2.1 (apG p.1 p.2))/\c.2.2.1<=3500/\c.1.length<=1000) fun c r=>r=aal (yA c.1)
theorem adG {M:Nat}:∀ l:List Fr2,(∀ p∈l,Com M (apG p.1 p.2))->Com M (yA l):=by
 intro l
 have key:∀ n (l:List Fr2),l.length=n->(∀ p∈l,Com M (apG p.1 p.2))->Com M (yA l):=fun n=>by
  induction n with
  | zero =>
   intro l hl _
   rw [ar5.mp hl]
   exact⟨0,by show (0:Rat) * _=_;rw [atF];rfl⟩
  | succ n ih =>
   intro l hl h
   obtain⟨l',p,rfl⟩:∃ l' p,l=l'++[p]:=⟨l.dropLast,l.getLast (fun z=>by rw [z] at hl;cases hl),(arF _).symm⟩
   rw [apA,ap3] at hl
   rw [aap]
   exact (ih l' (by omega) fun q hq=>h q (apN _ hq)).add (h p (apy _ (apB.mpr rfl)))
 exact key _ l rfl
noncomputable def Bd (B:Nat) (q:Rat):Prop:=-(B:Rat)<=q/\q<=(B:Rat)
theorem Bd.add {B C:Nat} {p q:Rat} (hp:Bd B p) (hq:Bd C q):Bd (B+C) (p+q):=by
 obtain⟨a,b⟩:=hp
 obtain⟨c,d⟩:=hq
 unfold Bd
 rw [Rat.natCast_add]
 constructor <;> grind
theorem Bd.num {B:Nat} {q:Rat} (h:Bd B q):q.num.natAbs<=B * q.den:=by
 obtain⟨h1,h2⟩:=h
 have e2:=(as4 _ _).mp h2
 have e1:=(as4 _ _).mp h1
 have n1:(-(B:Rat)).num=-(B:Int):=rfl
 have d1:(-(B:Rat)).den=1:=rfl
 have n2:((B:Rat)).num=(B:Int):=rfl
 have d2:((B:Rat)).den=1:=rfl
 rw [n2,d2] at e2
 rw [n1,d1] at e1
 have e3:q.num<=(B:Int) * (q.den:Int):=by simpa using e2
 have e4:-((B:Int) * (q.den:Int))<=q.num:=by simpa [Int.neg_mul] using e1
 have:(((B * q.den:Nat)):Int)=(B:Int) * (q.den:Int):=ata ..
 omega
theorem aoJ {A:Nat} {t b:Int} (hb:0<b) (ht:t.natAbs<=A):Bd A (apG t b):=by
 have hq:=abz t b
 have dp:=(apG t b).den_pos
 have le:(apG t b).num.natAbs<=A * (apG t b).den:=apO (apO hq ht) (Nat.le_mul_of_pos_right _ dp)
 have:(((A * (apG t b).den:Nat)):Int)=(A:Int) * ((apG t b).den:Int):=ata ..
 refine⟨(as4 _ _).mpr ?_,(as4 _ _).mpr ?_⟩
 ·show -(A:Int) * ((apG t b).den:Int)<=(apG t b).num * ((1:Nat):Int)
  rw [Int.neg_mul]
  omega
 ·show (apG t b).num * ((1:Nat):Int)<=(A:Int) * ((apG t b).den:Int)
  omega
theorem ajq {A:Nat}:∀ (n:Nat) (l:List Fr2),l.length=n->(∀ p∈l,p.1.natAbs<=A/\0<p.2)->Bd (A * n) (yA l)
 | 0,l,hl,_=>by
  rw [ar5.mp hl]
  exact⟨by show -((A * 0:Nat):Rat)<=0;rw [atG];decide,by show (0:Rat)<=((A * 0:Nat):Rat);rw [atG];decide⟩
 | n+1,l,hl,h=>by
  obtain⟨l',p,rfl⟩:∃ l' p,l=l'++[p]:=⟨l.dropLast,l.getLast (fun z=>by rw [z] at hl;cases hl),(arF _).symm⟩
  rw [apA,ap3] at hl
  obtain⟨p1,p2⟩:=h p (apy _ (apB.mpr rfl))
  rw [aap,Nat.mul_add,atO]
  exact (ajq n l' (by omega) fun q hq=>h q (apN _ hq)).add (aoJ p2 p1)
theorem ajr (F:Def K mg "total" aaY pG) (uau:FnIn P w K mg base k "shortened" pH (aa0 K)):FnIn P w K mg base (k+1) "total" pG (adF K):=by
 refine F.ok sc_total rfl fun fa cdv A outer s H E hr=>⟨_,(zd (yg (zG (za zc (za zc zb))) (zN (K:=K) (n:=2) rfl rfl (zh (zf (i:=1) sc_total.nd rfl (Or.inl rfl) (Or.inr rfl)) (zh (zf (i:=2) sc_total.nd rfl (Or.inl rfl) (Or.inr rfl)) zL)))) (zd (jo ap4 rfl (zW (K:=K) rfl (pv 0)) (zN (K:=K) (n:=2) rfl rfl (zh (zf (i:=3) sc_total.nd rfl (Or.inl rfl) (Or.inr rfl)) (zh (zf (i:=4) sc_total.nd rfl (Or.inl rfl) (Or.inr rfl)) zL))) (zm (yg (zg uau hr rfl (za (zl zO (zl zQ (pv 1) (pv 4)) (zl zQ (pv 3) (pv 2))) (za (zl zQ (pv 2) (pv 4)) zb))) (zN (K:=K) (n:=2) rfl rfl (zh (zf (i:=1) sc_total.nd rfl (Or.inl rfl) (Or.inr rfl)) (zh (zf (i:=2) sc_total.nd rfl (Or.inl rfl) (Or.inr rfl)) zL)))))) (zm (zC (zG (za (pv 1) (za (pv 2) zb))))))),?_⟩
 rintro f xs ⟨l,M,A,B⟩ hl ⟨rfl,m0,m1,bd,a1,few⟩
 try dsimp only [yn,zo]
 dsimp only at *
 refine zS (zV (y9 (zq (zB (zq (zB (zU ⟨_,rfl,by show 2<=1000;decide,yD rfl (zt (zj (zt (zj (ya ?_)))))⟩)))))))
 refine zS (air (yz (ze rfl ⟨_,rfl,fun n ρ=>∃ u v,ρ=[some (.dat (.list (l.map frD))),some (.dat (.int (yA (l.take n)).num)),some (.dat (.int ((yA (l.take n)).den:Nat))),u,v],⟨_,_,rfl⟩,?_,?_⟩)))
 ·rintro n d _ hd ⟨u,v,rfl⟩
  rw [apt] at hd
  cases et:l[n]? with
  | none=>rw [et] at hd;cases hd
  | some p =>
   rw [et] at hd
   cases hd
   have hp:=apv et
   obtain⟨b1,b2,b3,_⟩:=bd p hp
   have tk:l.take (n+1)=l.take n++[p]:=by rw [aqh,et];rfl
   have hn:=(apm.mp et).1
   have lt:(l.take n).length=n:=by rw [apX];omega
   have n2:(yA (l.take n)).den<2 ^ 3500:=aqN ((adG (l.take n) fun q hq=>(bd q (aqC hq)).2.2.2).den m0) m1
   have n1:(yA (l.take n)).num.natAbs<2 ^ 7100:=by
    have h1:=(ajq n (l.take n) lt fun q hq=>⟨aqj (bd q (aqC hq)).1,(bd q (aqC hq)).2.1⟩).num
    have h2:2 ^ A * n * (yA (l.take n)).den<=2 ^ 3500 * 2 ^ 10 * 2 ^ 3500:=aqp (aqp (aqe (by decide) a1) (by omega)) (aqj n2)
    refine aqN (apO h1 h2) ?_
    rw [<-asJ,<- asJ]
    exact ap8 (by decide) (by decide)
   have h1:=yU n1 (by decide)
   have h2:=yU n2 (by decide)
   have h3:=yU b1 (by omega)
   have h4:=yU b3 (by omega)
   have nz:((yA (l.take n)).den:Int) * p.2≠0:=as8 (by have:=(yA (l.take n)).den_nz;omega) (by omega)
   have nh:(((yA (l.take n)).den:Int) * p.2).natAbs<jx:=by
    rw [aq9,aqf]
    refine yU (m:=3500+3500) ?_ (by decide)
    rw [asJ]
    exact Nat.mul_lt_mul'' n2 (apF b3 (aqe (by decide) a1))
   refine yD rfl (zt (zj (zt (zj (ya (zV (zu ((yA (l.take n)).num * p.2+p.1 * ((yA (l.take n)).den:Int),((yA (l.take n)).den:Int) * p.2) ?_)))))))
   refine zq (yK (zP (ze rfl ⟨_,rfl,ze rfl ⟨_,rfl,⟨h1,h4⟩,_,rfl,zP (ze rfl ⟨_,rfl,ze rfl ⟨_,rfl,⟨h3,by rw [aqf];exact h2⟩,_,rfl,?_⟩⟩)⟩⟩)))
   refine zq (zP (ze rfl ⟨_,rfl,ze rfl ⟨_,rfl,⟨by rw [aqf];exact h2,h4⟩,zU ⟨rfl,⟨rfl,nz,nh⟩,?_⟩⟩⟩))
   rintro _ rfl
   dsimp only
   rw [ajo (by omega),<- aap,<- tk]
   exact yD rfl (zt (zj (zt (zj (ya ⟨_,_,rfl⟩)))))
 ·rintro _ ⟨u,v,rfl⟩
  rw [api,aqk]
  exact yB (y9 (zq (ze rfl (zq (ze rfl (zU ⟨_,rfl,by show 2<=1000;decide,rfl⟩))))))
theorem v8 {rows:List (List Int)} {wd:Nat} {cut x y w:Int} (h:yF rows wd cut x y w=true):v3 rows wd x y w=true:=by
 unfold yF at h
 rw [apu] at h
 exact h.1
theorem aa1 {rows:List (List Int)} {wd:Nat} {x y:Int} (g:Good wd rows) (h:yx rows wd x y=true):-1000000000<=zX rows x y/\zX rows x y<=1000000000:=by
 obtain⟨x0,x1,y0,y1⟩:=yZ h
 have hy:y.toNat<rows.length:=by omega
 have hr:=g.row _ (apS hy)
 have hx:x.toNat<rows[y.toNat].length:=by omega
 have:=g.hgt _ (apS hy) _ (apS hx)
 unfold zX
 rw [apn,apn,aph hy,ash,aph hx]
 exact this
noncomputable def TT (rows:List (List Int)) (cut x y:Int):Int:=2 * cut+1 - 2 * zX rows x y
noncomputable def BB (rows:List (List Int)) (x y w:Int):Int:=2 * (zX rows (px x w) (py y w) - zX rows x y)
theorem v9 {rows:List (List Int)} {wd:Nat} {cut x y w:Int} (h:yF rows wd cut x y w=true):(0<TT rows cut x y/\TT rows cut x y<BB rows x y w) \/ (TT rows cut x y<0/\BB rows x y w<TT rows cut x y):=by
 unfold yF at h
 rw [apu] at h
 have h2:=h.2
 unfold TT BB
 generalize zX rows x y=a at *
 generalize zX rows (px x w) (py y w)=b at *
 by_cases ha:cut<a
 ·by_cases hb:cut<b
  ·rw [decide_eq_true ha,decide_eq_true hb] at h2
   cases h2
  ·omega
 ·by_cases hb:cut<b
  ·omega
  ·rw [decide_eq_false ha,decide_eq_false hb] at h2
   cases h2
theorem alR {rows:List (List Int)} {wd:Nat} {cut x y w:Int} (h:yF rows wd cut x y w=true):BB rows x y w≠0:=by
 have:=v9 h
 omega
theorem alS {rows:List (List Int)} {wd:Nat} {cut x y w:Int} (g:Good wd rows) (h:yF rows wd cut x y w=true):(BB rows x y w).natAbs<=4000000000:=by
 obtain⟨i1,i2⟩:=qW (v8 h)
 have b1:=aa1 g i1
 have b2:=aa1 g i2
 unfold BB
 omega
noncomputable def shQ (rows:List (List Int)) (cut:Int) (g:Gt):Rat:=apG (TT rows cut g.1 g.2.1) (BB rows g.1 g.2.1 g.2.2)
noncomputable def plT (rows:List (List Int)) (cut:Int) (g:Gt):Gt:=if g.2.2=0 then (g.1 * ((shQ rows cut g).den:Int)+(shQ rows cut g).num,g.2.1 * ((shQ rows cut g).den:Int),((shQ rows cut g).den:Int)) else (g.1 * ((shQ rows cut g).den:Int),g.2.1 * ((shQ rows cut g).den:Int)+(shQ rows cut g).num,((shQ rows cut g).den:Int))
theorem agA {rows:List (List Int)} {wd:Nat} {cut:Int} {g:Gt} (gd:Good wd rows) (o:opG rows wd cut g=true):(shQ rows cut g).num.natAbs<=4000000000/\(shQ rows cut g).den<=4000000000/\0<(shQ rows cut g).den:=by
 have h1:=alS gd o
 have h2:=v9 o
 refine⟨apO (abz _ _) (by omega),apO (abA (alR o)) h1,(shQ rows cut g).den_pos⟩
noncomputable def PlB (p:Gt):Prop:=p.1.natAbs<=32000000000/\p.2.1.natAbs<=32000000000/\0<p.2.2/\p.2.2<=4000000000
theorem aoK {rows:List (List Int)} {wd:Nat} {cut:Int} {g:Gt} (gd:Good wd rows) (o:opG rows wd cut g=true):PlB (plT rows cut g):=by
 obtain⟨b1,b2,b3⟩:=agA gd o
 obtain⟨i1,i2⟩:=qW (v8 o)
 obtain⟨x0,x1,y0,y1⟩:=yZ i1
 have w2:=gd.w2
 have h2:=gd.h2
 have mx:∀ a:Int,0<=a->a<7->(a * ((shQ rows cut g).den:Int)).natAbs<=28000000000:=fun a a0 a1=>by
  have:a=0 \/ a=1 \/ a=2 \/ a=3 \/ a=4 \/ a=5 \/ a=6:=by omega
  rcases this with rfl | rfl | rfl | rfl | rfl | rfl | rfl <;> omega
 have m1:=mx g.1 x0 (by omega)
 have m2:=mx g.2.1 y0 (by omega)
 unfold PlB plT
 split
 ·dsimp only
  omega
 ·dsimp only
  omega
noncomputable abbrev agB (K:apj):Sp:=spD K 3 aoH fun c r=>r=aal (shQ c.1 c.2.2.1 c.2.2.2)
theorem ajs (F:Def K mg "share" aaZ pA) (uas:FnIn P w K mg base k "gate_points" ["gate"] (agv K)) (uau:FnIn P w K mg base k "shortened" pH (aa0 K)):FnIn P w K mg base (k+1) "share" pA (agB K):=by
 refine F.ok sc_share rfl fun fa cdv A outer s H E hr=>⟨_,(zd (yg (yw (N:=pQ) (own:=2) (fr:=[0]) ⟨rfl,by decide +kernel,of_decide_eq_true (by kernel_rfl),of_decide_eq_true (by kernel_rfl),of_decide_eq_true (by kernel_rfl),rfl⟩ rfl (zW (K:=K) rfl (zg uas hr rfl (za (pv 2) zb))) (fun _ _ _ _=>(zN (K:=K) (n:=2) rfl rfl (zh (zf (i:=0) (show (pQ:List Str).Nodup by decide +kernel) rfl (Or.inl rfl) (Or.inr rfl)) (zh (zf (i:=1) (show (pQ:List Str).Nodup by decide +kernel) rfl (Or.inl rfl) (Or.inr rfl)) zL)))) (fun _ _ _ _=>yr) (fun _ _ _ _=>(zx (zp (K:=K) rfl) (zx (zp (K:=K) rfl) (pv 2) (pv 1) (fun _ _=>rfl)) (pv 0) (fun _ _=>rfl))) rfl rfl (fun _=>rfl)) (acV (K:=K) (n:=2) rfl rfl (zh (zf (i:=3) sc_share.nd rfl (Or.inl rfl) (Or.inr rfl)) (zh (zf (i:=4) sc_share.nd rfl (Or.inl rfl) (Or.inr rfl)) zL)))) (zm (zC (zg uau hr rfl (za (zl yh (zl zO (zl zQ zc (pv 1)) zc) (zl zQ zc (pv 3))) (za (zl zQ zc (zl yh (pv 4) (pv 3))) zb)))))),?_⟩
 rintro f xs ⟨rows,wd,cut,x,y,w⟩ hl ⟨rfl,g,ho⟩
 try dsimp only [yn,zo]
 dsimp only at *
 obtain⟨i1,i2⟩:=qW (v8 ho)
 have n0:BB rows x y w≠0:=alR ho
 have n1:(BB rows x y w).natAbs<=4000000000:=alS g ho
 refine zS (zV (PEdO.ped (vq (A:=fun p:Int×Int=>PyData.tuple [.int p.1,.int p.2]) (B:=fun p:Int×Int=>PyData.int (zX rows p.1 p.2)) [(x,y),(px x w,py y w)] (yz (zu (x,y,w) (aaL rfl ⟨rfl,rfl,?_⟩))))))
 rintro _ rfl
 refine⟨_,rfl,rfl,show 2<=1000 by decide,?_,?_⟩
 ·rintro D p ρ' es hp ho hes
  obtain⟨u,v,rfl⟩:=ho.two
  have hi:yx rows wd p.1 p.2=true:=by
   simp only [apq,ap0,or_false] at hp
   rcases hp with rfl | rfl
   ·exact i1
   ·exact i2
  obtain⟨r,h1,h2⟩:=abF g hi
  refine yD rfl (zt (zj (zt (zj (ya (jC ?_))))))
  rw [if_pos rfl]
  refine yE hes ?_
  unfold tab
  walk_at "w"
  refine⟨_,h1,?_⟩
  walk_at "w"
  refine⟨_,h2,?_⟩
  exact⟨.mk2,rfl⟩
 ·refine aiw rfl (zt (zj (zt (zj (ya ?_)))))
  have sm:∀ {i:Int},i.natAbs<2 ^ 60->i.natAbs<jx:=fun h=>yU h (by decide)
  have b1:-1000000000<=zX rows x y/\zX rows x y<=1000000000:=aa1 g i1
  have b2:-1000000000<=zX rows (px x w) (py y w)/\zX rows (px x w) (py y w)<=1000000000:=aa1 g i2
  have cb:(cut:Int).natAbs<2 ^ 60:=by
   have:(0<TT rows cut x y/\TT rows cut x y<BB rows x y w) \/ (TT rows cut x y<0/\BB rows x y w<TT rows cut x y):=v9 ho
   unfold TT BB at this
   omega
  refine yB (zu (TT rows cut x y,BB rows x y w) ?_)
  refine zq (yK (yK (zP (zB ⟨_,rfl,ze rfl ⟨_,rfl,⟨sm (by decide),sm cb⟩,_,rfl,zB ⟨_,rfl,_,rfl,zP (zB ⟨_,rfl,ze rfl ⟨_,rfl,⟨sm (by decide),sm (show (zX rows x y).natAbs<_ by omega)⟩,_,rfl,?_⟩⟩)⟩⟩⟩))))
  refine zq (zP (zB ⟨_,rfl,yK (ze rfl ⟨_,rfl,ze rfl ⟨_,rfl,_,rfl,⟨sm (by decide),sm (show (zX rows (px x w) (py y w) - zX rows x y).natAbs<_ by omega)⟩,zU ⟨rfl,⟨rfl,n0,sm (by omega)⟩,?_⟩⟩⟩)⟩))
  rintro _ rfl
  rfl
noncomputable abbrev acA (K:apj):Sp:=spD K 3 aoH fun c r=>r=gD3 (plT c.1 c.2.2.1 c.2.2.2)
theorem aeJ (F:Def K mg "place_of" qG pA) (ua8:FnIn P w K mg base k "share" pA (agB K)):FnIn P w K mg base (k+1) "place_of" pA (acA K):=by
 refine F.ok sc_place_of rfl fun fa cdv A outer s H E hr=>⟨_,(zd (yg (pv 2) (zN (K:=K) (n:=3) rfl rfl (zh (zf (i:=3) sc_place_of.nd rfl (Or.inl rfl) (Or.inr rfl)) (zh (zf (i:=4) sc_place_of.nd rfl (Or.inl rfl) (Or.inr rfl)) (zh (zf (i:=5) sc_place_of.nd rfl (Or.inl rfl) (Or.inr rfl)) zL))))) (zd (yg (zg ua8 hr rfl (za (pv 0) (za (pv 1) (za (pv 2) zb)))) (zN (K:=K) (n:=2) rfl rfl (zh (zf (i:=6) sc_place_of.nd rfl (Or.inl rfl) (Or.inr rfl)) (zh (zf (i:=7) sc_place_of.nd rfl (Or.inl rfl) (Or.inr rfl)) zL)))) (zd (y6 (ye (acS (K:=K) rfl hr.units) (pv 5) zc (yo _)) (zm (zC (zG (za (zl zO (zl zQ (pv 3) (pv 7)) (pv 6)) (za (zl zQ (pv 4) (pv 7)) (za (pv 7) zb)))))) yk) (zm (zC (zG (za (zl zQ (pv 3) (pv 7)) (za (zl zO (zl zQ (pv 4) (pv 7)) (pv 6)) (za (pv 7) zb))))))))),?_⟩
 rintro f xs ⟨rows,wd,cut,x,y,w⟩ hl ⟨rfl,g,ho⟩
 try dsimp only [yn,zo]
 dsimp only at *
 obtain⟨b1,b2,b3⟩:=agA g ho
 obtain⟨i1,i2⟩:=qW (v8 ho)
 obtain⟨x0,x1,y0,y1⟩:=yZ i1
 have w2:=g.w2
 have h2:=g.h2
 have sm:∀ {i:Int},i.natAbs<2 ^ 60->i.natAbs<jx:=fun h=>yU h (by decide)
 refine zS (zV (ze rfl (yD rfl (zt (zj (zt (zj (zt (zj (ya ?_))))))))))
 refine zS (zV (zu (rows,wd,cut,x,y,w) (aaM rfl rfl rfl ⟨rfl,⟨rfl,g,ho⟩,?_⟩)))
 rintro _ rfl
 dsimp only
 have cx:CMulH x ((shQ rows cut (x,y,w)).den:Int):=⟨sm (by dsimp only at x0 x1;omega),sm (by rw [aqf];omega)⟩
 have cy:CMulH y ((shQ rows cut (x,y,w)).den:Int):=⟨sm (by dsimp only at y0 y1;omega),sm (by rw [aqf];omega)⟩
 refine yD rfl (zt (zj (zt (zj (ya ?_)))))
 refine zS (alK (w=0) (aop rfl) (fun h=>?_) fun h=>vp ?_)
 ·refine yB (y9 (zq (yK (zP (ze rfl ⟨_,rfl,ze rfl ⟨_,rfl,cx,_,rfl,ze rfl ⟨_,rfl,zq (zP (ze rfl ⟨_,rfl,ze rfl ⟨_,rfl,cy,zq (ze rfl (zU ⟨_,rfl,by show 3<=1000;decide,?_⟩))⟩⟩))⟩⟩⟩)))))
  unfold plT
  rw [if_pos h]
  rfl
 ·refine yB (y9 (zq (zP (ze rfl ⟨_,rfl,ze rfl ⟨_,rfl,cx,zq (yK (zP (ze rfl ⟨_,rfl,ze rfl ⟨_,rfl,cy,_,rfl,ze rfl ⟨_,rfl,zq (ze rfl (zU ⟨_,rfl,by show 3<=1000;decide,?_⟩))⟩⟩⟩)))⟩⟩))))
  unfold plT
  rw [if_neg h]
  rfl
noncomputable def crs (p q:Gt):Fr2:=(p.1 * q.2.1 - p.2.1 * q.1,p.2.2 * q.2.2)
noncomputable def nxL (ps:List Gt):List Gt:=ps.drop 1++ps.take 1
noncomputable def prs (ps:List Gt):List Fr2:=(ps.zip (nxL ps)).map fun p=>crs p.1 p.2
noncomputable def qo (ps:List Gt):Rat:=apG ((yA (prs ps)).num.natAbs:Int) (2 * ((yA (prs ps)).den:Int))
theorem ano {p q:Gt} (hp:PlB p) (hq:PlB q):(crs p q).1.natAbs<2 ^ 74/\0<(crs p q).2/\(crs p q).2.natAbs<2 ^ 74:=by
 obtain⟨a1,a2,a3,a4⟩:=hp
 obtain⟨b1,b2,b3,b4⟩:=hq
 have m1:p.1.natAbs * q.2.1.natAbs<=32000000000 * 32000000000:=aqp a1 b2
 have m2:p.2.1.natAbs * q.1.natAbs<=32000000000 * 32000000000:=aqp a2 b1
 have m3:p.2.2.natAbs * q.2.2.natAbs<=4000000000 * 4000000000:=aqp (by omega) (by omega)
 refine⟨?_,asn a3 b3,?_⟩
 ·show (p.1 * q.2.1 - p.2.1 * q.1).natAbs<_
  have e1:(p.1 * q.2.1).natAbs=p.1.natAbs * q.2.1.natAbs:=aq9 ..
  have e2:(p.2.1 * q.1).natAbs=p.2.1.natAbs * q.1.natAbs:=aq9 ..
  omega
 ·show (p.2.2 * q.2.2).natAbs<_
  rw [aq9]
  omega
theorem ajt {ps:List Gt} {q:Gt} (h:q∈nxL ps):q∈ps:=by
 rcases apC.mp h with z | z
 ·exact List.mem_of_mem_drop z
 ·exact aqC z
theorem anp {ps:List Gt} (h:ps≠[]):(nxL ps).length=ps.length:=by
 have:=arV.mpr h
 unfold nxL
 rw [apA,ars,apX]
 omega
theorem alc {ps:List Gt} (h:ps≠[]):(prs ps).length=ps.length:=by
 unfold prs
 rw [api,List.length_zip,anp h,Nat.min_self]
theorem afD {ps:List Gt} (h:∀ p∈ps,PlB p):∀ p∈prs ps,p.1.natAbs<2 ^ 74/\0<p.2/\p.2.natAbs<2 ^ 74:=fun p hp=>by
 obtain⟨z,hz,rfl⟩:=apJ.mp hp
 obtain⟨h1,h2⟩:=ar1 hz
 exact ano (h _ h1) (h _ (ajt h2))
theorem six {α:Type} {l:List α} (h:l.length=6):∃ a b c d e f,l=[a,b,c,d,e,f]:=by
 rcases l with _ | ⟨a,_ | ⟨b,_ | ⟨c,_ | ⟨d,_ | ⟨e,_ | ⟨f,_ | ⟨g,l⟩⟩⟩⟩⟩⟩⟩ <;> first | exact⟨_,_,_,_,_,_,rfl⟩ | (simp at h;done)
noncomputable abbrev agC (K:apj):Sp:=spD K 1 (fun (c:List Gt×Nat) xs=>xs=[.dat (.list (c.1.map gD3))]/\(∀ p∈c.1,PlB p)/\c.1≠[]/\c.1.length<=98/\0<c.2/\c.2<2 ^ 3500/\∀ p∈prs c.1,Com c.2 (apG p.1 p.2)) fun c r=>r=aal (qo c.1)
theorem aju (F:Def K mg "field_area" jI ["around"]) (uag:mg "zip"=none) (uac:mg "abs"=none) (uaF:FnIn P w K mg base k "total" pG (adF K)) (uau:FnIn P w K mg base k "shortened" pH (aa0 K)):FnIn P w K mg base (k+1) "field_area" ["around"] (agC K):=by
 refine F.ok sc_field_area rfl fun fa cdv A outer s H E hr=>⟨_,(zd (zK (i:=1) sc_field_area.nd rfl (Or.inl rfl) (zl (qU (K:=K) rfl) (qf (qi (K:=K) rfl) (pv 0) (qY zc) qX) (qf (qi (K:=K) rfl) (pv 0) qX (qY zc)))) (zd (yg (zg uaF hr rfl (za (yw (N:=pK) (own:=6) (fr:=[]) ⟨rfl,by decide +kernel,of_decide_eq_true (by kernel_rfl),of_decide_eq_true (by kernel_rfl),of_decide_eq_true (by kernel_rfl),rfl⟩ rfl (ago (K:=K) rfl rfl uag (za (pv 0) (za (pv 1) zb))) (fun _ _ _ _=>(zN (K:=K) (n:=2) rfl rfl (zh (zN (K:=K) (n:=3) rfl rfl (zh (zf (i:=0) (show (pK:List Str).Nodup by decide +kernel) rfl (Or.inl rfl) (Or.inr rfl)) (zh (zf (i:=1) (show (pK:List Str).Nodup by decide +kernel) rfl (Or.inl rfl) (Or.inr rfl)) (zh (zf (i:=2) (show (pK:List Str).Nodup by decide +kernel) rfl (Or.inl rfl) (Or.inr rfl)) zL)))) (zh (zN (K:=K) (n:=3) rfl rfl (zh (zf (i:=3) (show (pK:List Str).Nodup by decide +kernel) rfl (Or.inl rfl) (Or.inr rfl)) (zh (zf (i:=4) (show (pK:List Str).Nodup by decide +kernel) rfl (Or.inl rfl) (Or.inr rfl)) (zh (zf (i:=5) (show (pK:List Str).Nodup by decide +kernel) rfl (Or.inl rfl) (Or.inr rfl)) zL)))) zL)))) (fun _ _ _ _=>yr) (fun _ _ _ _=>(zG (za (zl yh (zl zQ (pv 0) (pv 4)) (zl zQ (pv 1) (pv 3))) (za (zl zQ (pv 2) (pv 5)) zb)))) rfl rfl (fun _=>rfl)) zb)) (zN (K:=K) (n:=2) rfl rfl (zh (zf (i:=2) sc_field_area.nd rfl (Or.inl rfl) (Or.inr rfl)) (zh (zf (i:=3) sc_field_area.nd rfl (Or.inl rfl) (Or.inr rfl)) zL)))) (zm (zC (zg uau hr rfl (za (zM (j9) rfl uac aqM (za (pv 2) zb)) (za (zl zQ zc (pv 3)) zb))))))),?_⟩
 rintro f xs ⟨ps,M⟩ hl ⟨rfl,bd,ne,few,m0,m1,cm⟩
 try dsimp only [yn,zo]
 dsimp only at *
 have pos:=arV.mpr ne
 have ml:(ps.map gD3).length=ps.length:=api _
 have s1:HT.sIx (ps.map gD3).length 0 (some 1)=1:=by
  unfold HT.sIx
  simp only
  rw [if_neg (by decide)]
  show min 1 _=1
  omega
 have s2:HT.sIx (ps.map gD3).length (ps.map gD3).length (some 1)=1:=by
  unfold HT.sIx
  simp only
  rw [if_neg (by decide)]
  show min 1 _=1
  omega
 have c1:L2.cutD (ps.map gD3) (some 1) none=(ps.drop 1).map gD3:=by
  unfold L2.cutD
  rw [s1,show HT.sIx (ps.map gD3).length (ps.map gD3).length none=(ps.map gD3).length from rfl,arx (by rw [ars];omega),asi]
 have c2:L2.cutD (ps.map gD3) none (some 1)=(ps.take 1).map gD3:=by
  unfold L2.cutD
  rw [s2,show HT.sIx (ps.map gD3).length 0 none=0 from rfl,List.drop_zero,atz,arI]
 refine zS (zV (abn (abh (ze rfl ⟨_,rfl,abg (zB ⟨_,rfl,abf ⟨_,rfl,abh (ze rfl ⟨_,rfl,abf (abg (zB ⟨_,rfl,_,rfl,?_⟩))⟩)⟩⟩)⟩))))
 rw [c1,c2]
 refine⟨by rw [api,api,ars,apX];omega,zj ?_⟩
 rw [<-apQ]
 show PSd K f _ [some (.dat (.list (ps.map gD3))),some (.dat (.list ((nxL ps).map gD3))),none,none] _
 have n2:(yA (prs ps)).den<2 ^ 3500:=aqN ((adG (prs ps) cm).den m0) m1
 refine zS (zV (zu (prs ps,M,74,0) (zq (PEdO.ped (vq (A:=fun p:Gt×Gt=>.tuple [gD3 p.1,gD3 p.2]) (B:=fun p=>frD (crs p.1 p.2)) (ps.zip (nxL ps)) (alM (aak rfl rfl ⟨_,_,rfl,?_,?_,?_,?_⟩)))))))
 ·unfold afj
  rw [List.zipWith_map,List.zip,List.map_zipWith]
 ·rw [List.length_zip];omega
 ·rintro D ⟨p,q⟩ ρ' es hq ho hes
  obtain⟨m1,m2⟩:=ar1 hq
  obtain⟨a1,a2,a3,a4⟩:=bd p m1
  obtain⟨b1,b2,b3,b4⟩:=bd q (ajt m2)
  obtain⟨us,hus,rfl⟩:=ho
  have sm:∀ {i:Int},i.natAbs<2 ^ 60->i.natAbs<jx:=fun h=>yU h (by decide)
  obtain⟨u1,u2,u3,u4,u5,u6,rfl⟩:=six hus
  ·refine yD rfl (zt (yD rfl (zt (zj (zt (zj (zt (zj (ya ?_)))))))))
   refine zt (yD rfl (zt (zj (zt (zj (zt (zj (ya ?_))))))))
   refine ya (jC ?_)
   rw [if_pos rfl]
   refine yE hes (y9 (zq (yK (zP (ze rfl ⟨_,rfl,ze rfl ⟨_,rfl,⟨sm (show p.1.natAbs<_ by omega),sm (show q.2.1.natAbs<_ by omega)⟩,_,rfl,?_⟩⟩)))))
   refine zP (ze rfl ⟨_,rfl,ze rfl ⟨_,rfl,⟨sm (show p.2.1.natAbs<_ by omega),sm (show q.1.natAbs<_ by omega)⟩,_,rfl,?_⟩⟩)
   refine zq (zP (ze rfl ⟨_,rfl,ze rfl ⟨_,rfl,⟨sm (show p.2.2.natAbs<_ by omega),sm (show q.2.2.natAbs<_ by omega)⟩,zU ⟨_,rfl,by show 2<=1000;decide,⟨[_,_,_,_,_,_],rfl,rfl⟩,rfl⟩⟩⟩))
 refine zU ⟨rfl,⟨by unfold prs;rw [ap1];rfl,m0,m1,fun p hp=>⟨(afD bd p hp).1,(afD bd p hp).2.1,(afD bd p hp).2.2,cm p hp⟩,by show 74<=3500;decide,by rw [alc ne];omega⟩,?_⟩
 rintro _ rfl
 refine yD rfl (zt (zj (zt (zj (ya ?_)))))
 have ha:(if (yA (prs ps)).num<0 then -(yA (prs ps)).num else (yA (prs ps)).num)=((yA (prs ps)).num.natAbs:Int):=by split <;> omega
 have dp:=(yA (prs ps)).den_pos
 have hd:(2 * ((yA (prs ps)).den:Int)).natAbs<jx:=by
  rw [aq9,aqf]
  refine yU (m:=3500+1) ?_ (by decide)
  rw [asv]
  show 2 * _<_
  omega
 refine yB (zu (((yA (prs ps)).num.natAbs:Int),2 * ((yA (prs ps)).den:Int)) ?_)
 refine zq (abc (aaL rfl ⟨_,rfl,?_⟩))
 rw [ha]
 refine zq (zP (zB ⟨_,rfl,ze rfl ⟨_,rfl,⟨yU (m:=60) (by decide) (by decide),by rw [aqf];exact yU n2 (by decide)⟩,zU ⟨rfl,⟨rfl,by omega,hd⟩,?_⟩⟩⟩))
 rintro _ rfl
 rfl
noncomputable abbrev Fl:=Bool×Bool×Bool×Bool
noncomputable def sgl (f:Fl):List Fl:=(if f.1 then [(true,false,false,false)] else [])++(if f.2.1 then [(false,true,false,false)] else [])++(if f.2.2.1 then [(false,false,true,false)] else [])++(if f.2.2.2 then [(false,false,false,true)] else [])
noncomputable def anyF (f:Fl):Bool:=f.1 || f.2.1 || f.2.2.1 || f.2.2.2
noncomputable def aaq (f:Fl):Fl:=(!f.1,!f.2.1,!f.2.2.1,!f.2.2.2)
noncomputable def aeK (h:Fl):Bool:=(h.1 != h.2.1) && ((h.1 != h.2.2.2) && ((h.2.2.2 != h.2.2.1) && (h.2.1 != h.2.2.1)))
noncomputable def PL (h:Fl) (m:Bool):List Fl:=if aeK h then (if m then h :: sgl (aaq h) else aaq h :: sgl h) else [h,aaq h].filter anyF
noncomputable def qq (h s:Fl):List (Fin 8) :=
 (if s.1 then [0] else [])++(if (h.1 != h.2.1) && (s.1 || s.2.1) then [1] else [])++(if s.2.1 then [2] else [])++(if (h.2.1 != h.2.2.1) && (s.2.1 || s.2.2.1) then [3] else [])++(if s.2.2.1 then [4] else [])++(if (h.2.2.2 != h.2.2.1) && (s.2.2.1 || s.2.2.2) then [5] else [])++(if s.2.2.2 then [6] else [])++(if (h.1 != h.2.2.2) && (s.2.2.2 || s.1) then [7] else [])
noncomputable def shT (X Y:Fin 8->Rat) (T:List (Fin 8)):Rat:=((T.zip (T.drop 1++T.take 1)).map fun p=>X p.1 * Y p.2 - Y p.1 * X p.2).foldl (·+·) 0
noncomputable def XX (x t0 t2:Rat) (i:Fin 8):Rat:=match i with
 | 0=>x | 1=>x+t0 | 2=>x+1 | 3=>x+1 | 4=>x+1 | 5=>x+t2 | 6=>x | 7=>x
noncomputable def YY (y t1 t3:Rat) (i:Fin 8):Rat:=match i with
 | 0=>y | 1=>y | 2=>y | 3=>y+t3 | 4=>y+1 | 5=>y+1 | 6=>y+1 | 7=>y+t1
theorem pr1 {a b:Rat} (ha:0<a/\a<1) (hb:0<b/\b<1):0<a * b/\a * b<1:=by
 refine⟨Rat.mul_pos ha.1 hb.1,?_⟩
 have:=Rat.mul_lt_mul_of_pos_right ha.2 hb.1
 grind
theorem co {a:Rat} (h:0<a/\a<1):0<1 - a/\1 - a<1:=by grind
theorem alT {X Y:Fin 8->Rat} {x y:Rat} {z:Fin 8}:∀ (l:List (Fin 8)) (u:Fin 8) (c d:Rat),(((u :: l).zip (l++[z])).map fun p=>(x+X p.1) * (y+Y p.2) - (y+Y p.1) * (x+X p.2)).foldl (·+·) d=(((u :: l).zip (l++[z])).map fun p=>X p.1 * Y p.2 - Y p.1 * X p.2).foldl (·+·) c+x * (Y z - Y u)+y * (X u - X z)+(d - c)
 | [],u,c,d=>by
  show d+((x+X u) * (y+Y z) - (y+Y u) * (x+X z))=c+(X u * Y z - Y u * X z)+x * (Y z - Y u)+y * (X u - X z)+(d - c)
  grind
 | v :: l,u,c,d=>by
  have:=alT (X:=X) (Y:=Y) (x:=x) (y:=y) (z:=z) l v (c+(X u * Y v - Y u * X v)) (d+((x+X u) * (y+Y v) - (y+Y u) * (x+X v)))
  show (((v :: l).zip (l++[z])).map fun p=>(x+X p.1) * (y+Y p.2) - (y+Y p.1) * (x+X p.2)).foldl (·+·) (d+((x+X u) * (y+Y v) - (y+Y u) * (x+X v)))=(((v :: l).zip (l++[z])).map fun p=>X p.1 * Y p.2 - Y p.1 * X p.2).foldl (·+·) (c+(X u * Y v - Y u * X v))+x * (Y z - Y u)+y * (X u - X z)+(d - c)
  rw [this]
  grind
theorem agD (x y t0 t1 t2 t3:Rat) (T:List (Fin 8)):shT (XX x t0 t2) (YY y t1 t3) T=shT (XX 0 t0 t2) (YY 0 t1 t3) T:=by
 have ex:XX x t0 t2=fun i=>x+XX 0 t0 t2 i:=by
  funext i
  match i with
  | 0 | 1 | 2 | 3 | 4 | 5 | 6 | 7=>simp [XX,as5,arB]
 have ey:YY y t1 t3=fun i=>y+YY 0 t1 t3 i:=by
  funext i
  match i with
  | 0 | 1 | 2 | 3 | 4 | 5 | 6 | 7=>simp [YY,as5,arB]
 rw [ex,ey]
 cases T with
 | nil=>rfl
 | cons u l =>
  unfold shT
  show (((u :: l).zip (l++[u])).map fun p=>(x+XX 0 t0 t2 p.1) * (y+YY 0 t1 t3 p.2) - (y+YY 0 t1 t3 p.1) * (x+XX 0 t0 t2 p.2)).foldl (·+·) 0=_
  rw [alT l u 0 0]
  show (((u :: l).zip (l++[u])).map fun p=>XX 0 t0 t2 p.1 * YY 0 t1 t3 p.2 - YY 0 t1 t3 p.1 * XX 0 t0 t2 p.2).foldl (·+·) 0+_+_+_=(((u :: l).zip (l++[u])).map fun p=>XX 0 t0 t2 p.1 * YY 0 t1 t3 p.2 - YY 0 t1 t3 p.1 * XX 0 t0 t2 p.2).foldl (·+·) 0
  grind
theorem anq (h0 h1 h2 h3 m:Bool) (t0 t1 t2 t3:Rat) (c0:h0≠h1->0<t0/\t0<1) (c1:h0≠h3->0<t1/\t1<1) (c2:h3≠h2->0<t2/\t2<1) (c3:h1≠h2->0<t3/\t3<1) :
  ((PL (h0,h1,h2,h3) m).map fun s=>shT (XX 0 t0 t2) (YY 0 t1 t3) (qq (h0,h1,h2,h3) s)).foldl (·+·) 0=2/\∀ s∈PL (h0,h1,h2,h3) m,0<shT (XX 0 t0 t2) (YY 0 t1 t3) (qq (h0,h1,h2,h3) s):=by
 have kA:h0≠h1->h0≠h3->0<t0 * t1/\t0 * t1<1:=fun a b=>pr1 (c0 a) (c1 b)
 have kB:h0≠h1->h1≠h2->0<(1 - t0) * t3/\(1 - t0) * t3<1:=fun a b=>pr1 (co (c0 a)) (c3 b)
 have kC:h1≠h2->h3≠h2->0<(1 - t3) * (1 - t2)/\(1 - t3) * (1 - t2)<1:=fun a b=>pr1 (co (c3 a)) (co (c2 b))
 have kD:h3≠h2->h0≠h3->0<t2 * (1 - t1)/\t2 * (1 - t1)<1:=fun a b=>pr1 (c2 a) (co (c1 b))
 cases h0 <;> cases h1 <;> cases h2 <;> cases h3 <;> cases m <;> simp [PL,aeK,sgl,aaq,anyF,qq,shT,XX,YY,as5,arB,atF,Rat.mul_zero,Rat.one_mul,Rat.mul_one] at * <;> grind
theorem aoL (h0 h1 h2 h3 m:Bool) (x y t0 t1 t2 t3:Rat) (c0:h0≠h1->0<t0/\t0<1) (c1:h0≠h3->0<t1/\t1<1) (c2:h3≠h2->0<t2/\t2<1) (c3:h1≠h2->0<t3/\t3<1) :
  ((PL (h0,h1,h2,h3) m).map fun s=>shT (XX x t0 t2) (YY y t1 t3) (qq (h0,h1,h2,h3) s)).foldl (·+·) 0=2/\∀ s∈PL (h0,h1,h2,h3) m,0<shT (XX x t0 t2) (YY y t1 t3) (qq (h0,h1,h2,h3) s):=by
 simp only [agD x y]
 exact anq h0 h1 h2 h3 m t0 t1 t2 t3 c0 c1 c2 c3
noncomputable def cnL (c:Pt):List Pt:=[(c.1,c.2),(c.1+1,c.2),(c.1+1,c.2+1),(c.1,c.2+1)]
noncomputable def pcL (c:Pt) (s:Fl):List Pt:=(if s.1=true then [(c.1,c.2)] else [])++((if s.2.1=true then [(c.1+1,c.2)] else [])++((if s.2.2.1=true then [(c.1+1,c.2+1)] else [])++if s.2.2.2=true then [(c.1,c.2+1)] else []))
noncomputable def hF (rows:List (List Int)) (cut:Int) (c:Pt):Fl:=(hiB rows cut c.1 c.2,hiB rows cut (c.1+1) c.2,hiB rows cut (c.1+1) (c.2+1),hiB rows cut c.1 (c.2+1))
theorem aoM {rows:List (List Int)} {cut:Int} (c:Pt):(cnL c).filter (hiP rows cut)=pcL c (hF rows cut c):=by
 unfold cnL pcL hF hiP
 simp only [aqP,as9]
 cases hiB rows cut c.1 c.2 <;> cases hiB rows cut (c.1+1) c.2 <;> cases hiB rows cut (c.1+1) (c.2+1) <;> cases hiB rows cut c.1 (c.2+1) <;> rfl
theorem aoN {rows:List (List Int)} {cut:Int} (c:Pt):((cnL c).filter fun p=>!hiP rows cut p)=pcL c (aaq (hF rows cut c)):=by
 unfold cnL pcL hF hiP aaq
 simp only [aqP,as9]
 cases hiB rows cut c.1 c.2 <;> cases hiB rows cut (c.1+1) c.2 <;> cases hiB rows cut (c.1+1) (c.2+1) <;> cases hiB rows cut c.1 (c.2+1) <;> rfl
theorem adH {rows:List (List Int)} {wd:Nat} {cut:Int} {c:Pt} (h:yy rows wd c=true):jl rows wd cut c.1 c.2=aeK (hF rows cut c):=by
 have e1:opG rows wd cut (c.1,c.2,0)=_:=ady (cut:=cut) h
 have e2:opG rows wd cut (c.1,c.2,1)=_:=afu (cut:=cut) h
 have e3:opG rows wd cut (c.1,c.2+1,0)=_:=adz (cut:=cut) h
 have e4:opG rows wd cut (c.1+1,c.2,1)=_:=adA (cut:=cut) h
 unfold jl cg aeK hF
 simp only [asK,List.all_nil,e1,e2,e3,e4,asS]
theorem ajv (c:Pt) (s:Fl):(pcL c s).map (fun p=>[p])=(sgl s).map (pcL c):=by
 obtain⟨a,b,d,e⟩:=s
 cases a <;> cases b <;> cases d <;> cases e <;> rfl
theorem aaF {rows:List (List Int)} {wd:Nat} {c p:Pt} (h:yy rows wd c=true) (hp:p∈cnL c):inP rows wd p=true:=by
 obtain⟨a,b,d,e⟩:=cell_in h
 unfold cnL at hp
 simp only [apq,ap0,or_false] at hp
 rcases hp with rfl | rfl | rfl | rfl
 ·exact a
 ·exact b
 ·exact d
 ·exact e
noncomputable def plD (l:List Pt):PyData:=.list (l.map pD)
noncomputable abbrev aoO (c:List (List Int)×Nat) (xs:List DV):Prop:=xs=[.dat (tab c.1)]/\Good c.2 c.1
noncomputable abbrev agE (K:apj):Sp:=spD K 1 aoO fun c r=>r=.list (qO (c.1.length - 1) (c.2 - 1))
theorem ajw (F:Def K mg "cells" aaX pf) (uab:mg "range"=none) (uar:FnIn P w K mg base k "size" pf (afr K)):FnIn P w K mg base (k+1) "cells" pf (agE K):=by
 refine F.ok sc_cells rfl fun fa cdv A outer s H E hr=>⟨_,(zd (yg (zg uar hr rfl (za (pv 0) zb)) (zN (K:=K) (n:=2) rfl rfl (zh (zf (i:=1) sc_cells.nd rfl (Or.inl rfl) (Or.inr rfl)) (zh (zf (i:=2) sc_cells.nd rfl (Or.inr rfl) (Or.inl rfl)) zL)))) (zm (zC (adW (N:=pR) (own:=2) (fr:=[2]) ⟨rfl,by decide +kernel,of_decide_eq_true (by kernel_rfl),of_decide_eq_true (by kernel_rfl),of_decide_eq_true (by kernel_rfl),rfl⟩ rfl (y7 rfl uab (za (zl yh (pv 1) zc) zb)) (fun _ _ _ _=>(zf (i:=0) (show (pR:List Str).Nodup by decide +kernel) rfl (Or.inl rfl) (Or.inr rfl))) (fun _ _ _ _=>yr) (fun _ _ _ _=>(y7 rfl uab (za (zl yh (pv 2) zc) zb))) (fun _ _ _ _=>(zf (i:=1) (show (pR:List Str).Nodup by decide +kernel) rfl (Or.inl rfl) (Or.inr rfl))) (fun _ _ _ _=>yr) (fun _ _ _ _=>(zG (za (pv 0) (za (pv 1) zb)))) rfl rfl (fun _=>rfl) (fun _ _ _ _ _=>rfl))))),?_⟩
 rintro f xs ⟨rows,wd⟩ hl ⟨rfl,g⟩
 try dsimp only [yn,zo]
 dsimp only at *
 have g2:=g.h2
 have w2:=g.w2
 have g1:=g.h1
 have w1:=g.w1
 refine zS (zV (zu (rows,wd) ?_))
 walk_at "w"
 rintro _ rfl
 refine yD rfl (zt (zj (zt (zj (ya ?_)))))
 have ew:((wd:Int) - 1).toNat=wd - 1:=by omega
 have eh:((rows.length:Int) - 1).toNat=rows.length - 1:=by omega
 refine yB (PEdO.ped (abe (qZ (zq (yK (ze rfl ⟨_,rfl,zB ⟨_,rfl,zU ⟨_,rfl,by dsimp only;omega,by dsimp only;omega,fun n ρ es=>(∃ u v,ρ=[u,v,some (.dat (.int rows.length))])/\es=qO (rows.length - 1) n,⟨⟨_,_,rfl⟩,rfl⟩,?_,?_⟩⟩⟩))))))
 ·rintro D n d ρ' es hd ⟨⟨u,v,rfl⟩,rfl⟩
  obtain⟨hn,rfl⟩:=qm hd
  have hn':n<wd - 1:=by have:n<((wd:Int) - 1).toNat:=hn;omega
  have l1:(rows.length - 1) * n<=7 * 7:=aqp (by omega) (by omega)
  refine zj (jC ?_)
  rw [if_pos rfl]
  refine anW (qZ (zq (yK (ze rfl ⟨_,rfl,zB ⟨_,rfl,zU ⟨_,rfl,by omega,by omega,fun m ρ es=>(∃ v,ρ=[some (.dat (.int n)),v,some (.dat (.int rows.length))])/\es=qO (rows.length - 1) n++(apK m).map (akX n),⟨⟨_,rfl⟩,by simp⟩,?_,?_⟩⟩⟩))))
  ·rintro m d ρ2 es2 hd2 ⟨⟨v,rfl⟩,rfl⟩
   obtain⟨hm,rfl⟩:=qm hd2
   have hm':m<rows.length - 1:=by have:m<((rows.length:Int) - 1).toNat:=hm;omega
   refine zj (jC ?_)
   rw [if_pos rfl]
   refine yE (by rw [apA,adx,api,aqa];omega) ?_
   walk_at "w"
   rw [arD,apQ,aqu]
   rfl
  ·rintro ρ2 es2 ⟨⟨v,rfl⟩,rfl⟩
   rw [vh,eh]
   exact⟨⟨_,_,rfl⟩,by rw [abG]⟩
 ·rintro ρ' es ⟨_,rfl⟩
  rw [vh]
  dsimp only
  rw [ew]
noncomputable abbrev TPc:=List (List Int)×Nat×Int×Pt
noncomputable abbrev aoP (c:TPc) (xs:List DV):Prop:=xs=[.dat (tab c.1),.dat (.int c.2.2.1),.dat (pD c.2.2.2)]/\Good c.2.1 c.1/\yy c.1 c.2.1 c.2.2.2=true
noncomputable def mF (rows:List (List Int)) (cut:Int) (c:Pt):Bool:=adB rows cut c.1 c.2
noncomputable abbrev aeL (K:apj):Sp:=spD K 3 aoP fun c r=>r=.list ((PL (hF c.1 c.2.2.1 c.2.2.2) (mF c.1 c.2.2.1 c.2.2.2)).map fun s=>plD (pcL c.2.2.2 s))
theorem ahN (F:Def K mg "pieces" vZ pj) (uam:FnIn P w K mg base k "corners" pF (vi K)) (uae:FnIn P w K mg base k "stands_high" pB (abE K)) (uaz:FnIn P w K mg base k "is_crossed" pj (aan K)) (uaA:FnIn P w K mg base k "has_high_middle" pj (ajh K)):FnIn P w K mg base (k+1) "pieces" pj (aeL K):=by
 refine F.ok sc_pieces rfl fun fa cdv A outer s H E hr=>⟨_,(zd (yg (pv 2) (zN (K:=K) (n:=2) rfl rfl (zh (zf (i:=3) sc_pieces.nd rfl (Or.inl rfl) (Or.inr rfl)) (zh (zf (i:=4) sc_pieces.nd rfl (Or.inl rfl) (Or.inr rfl)) zL)))) (zd (yO (i:=5) (N:=pZ) (own:=1) (fr:=[0,1]) ⟨rfl,by decide +kernel,of_decide_eq_true (by kernel_rfl),of_decide_eq_true (by kernel_rfl),of_decide_eq_true (by kernel_rfl),rfl⟩ rfl sc_pieces.nd rfl (Or.inl rfl) (zW (K:=K) rfl (zg uam hr rfl (za (pv 3) (za (pv 4) zb)))) (fun _ _ _ _=>(zf (i:=0) (show (pZ:List Str).Nodup by decide +kernel) rfl (Or.inl rfl) (Or.inr rfl))) (fun _ _ _ _=>(qx (ym (K:=K) rfl (zg uae hr rfl (za (pv 1) (za (pv 2) (za (pv 0) zb)))) (fun _=>rfl)))) (fun _ _ _ _=>(pv 0)) rfl rfl (fun _=>rfl) (Or.inl rfl) rfl) (zd (yO (i:=6) (N:=pZ) (own:=1) (fr:=[0,1]) ⟨rfl,by decide +kernel,of_decide_eq_true (by kernel_rfl),of_decide_eq_true (by kernel_rfl),of_decide_eq_true (by kernel_rfl),rfl⟩ rfl sc_pieces.nd rfl (Or.inl rfl) (zW (K:=K) rfl (zg uam hr rfl (za (pv 3) (za (pv 4) zb)))) (fun _ _ _ _=>(zf (i:=0) (show (pZ:List Str).Nodup by decide +kernel) rfl (Or.inl rfl) (Or.inr rfl))) (fun _ _ _ _=>(qx (vy (ym (K:=K) rfl (zg uae hr rfl (za (pv 1) (za (pv 2) (za (pv 0) zb)))) (fun _=>rfl))))) (fun _ _ _ _=>(pv 0)) rfl rfl (fun _=>rfl) (Or.inl rfl) rfl) (zd (y6 (vy (ym (K:=K) rfl (zg uaz hr rfl (za (pv 0) (za (pv 1) (za (pv 2) zb)))) (fun _=>rfl))) (zm (zC (yw (N:=["piece"]) (own:=1) (fr:=[]) ⟨rfl,by decide +kernel,of_decide_eq_true (by kernel_rfl),of_decide_eq_true (by kernel_rfl),of_decide_eq_true (by kernel_rfl),rfl⟩ rfl (acT (K:=K) rfl (zG (za (pv 5) (za (pv 6) zb)))) (fun _ _ _ _=>(zf (i:=0) (show (["piece"]:List Str).Nodup by decide +kernel) rfl (Or.inl rfl) (Or.inr rfl))) (fun _ _ _ _=>(qx (ym (K:=K) rfl (pv 0) (fun _=>rfl)))) (fun _ _ _ _=>(pv 0)) rfl rfl (fun _=>rfl)))) yk) (zd (y6 (ym (K:=K) rfl (zg uaA hr rfl (za (pv 0) (za (pv 1) (za (pv 2) zb)))) (fun _=>rfl)) (zm (zC (zl (qU (K:=K) rfl) (yt (za (pv 5) zb)) (yw (N:=["corner"]) (own:=1) (fr:=[]) ⟨rfl,by decide +kernel,of_decide_eq_true (by kernel_rfl),of_decide_eq_true (by kernel_rfl),of_decide_eq_true (by kernel_rfl),rfl⟩ rfl (zW (K:=K) rfl (pv 6)) (fun _ _ _ _=>(zf (i:=0) (show (["corner"]:List Str).Nodup by decide +kernel) rfl (Or.inl rfl) (Or.inr rfl))) (fun _ _ _ _=>yr) (fun _ _ _ _=>(yt (za (pv 0) zb))) rfl rfl (fun _=>rfl))))) yk) (zm (zC (zl (qU (K:=K) rfl) (yt (za (pv 6) zb)) (yw (N:=["corner"]) (own:=1) (fr:=[]) ⟨rfl,by decide +kernel,of_decide_eq_true (by kernel_rfl),of_decide_eq_true (by kernel_rfl),of_decide_eq_true (by kernel_rfl),rfl⟩ rfl (zW (K:=K) rfl (pv 5)) (fun _ _ _ _=>(zf (i:=0) (show (["corner"]:List Str).Nodup by decide +kernel) rfl (Or.inl rfl) (Or.inr rfl))) (fun _ _ _ _=>yr) (fun _ _ _ _=>(yt (za (pv 0) zb))) rfl rfl (fun _=>rfl)))))))))),?_⟩
 rintro f xs ⟨rows,wd,cut,c⟩ hl ⟨rfl,g,hc⟩
 try dsimp only [yn,zo]
 dsimp only at *
 have e4:∀ p∈cnL c,inP rows wd p=true:=fun p hp=>aaF hc hp
 have cr:=adH (cut:=cut) hc
 obtain⟨x,y⟩:=c
 refine zS (zV (ze rfl (yD rfl (zt (zj (zt (zj (ya ?_))))))))
 refine zS (zV (PEdO.ped (vG (A:=pD) (B:=pD) (hiP rows cut) (cnL (x,y)) (yz (zu (x,y) (aak rfl rfl ⟨rfl,rfl,?_⟩))))))
 rintro _ rfl
 refine⟨_,rfl,rfl,show 4<=1000 by decide,?_,?_⟩
 ·rintro D p ρ' es hp ho hes
  obtain⟨u,rfl⟩:=ho.one
  refine zj (jw (zu (rows,wd,cut,p.1,p.2) (aaM rfl rfl rfl ⟨rfl,⟨rfl,g,e4 p hp⟩,?_⟩)))
  rintro _ rfl
  refine⟨_,rfl,rfl,?_⟩
  refine yR (fun h=>yE hes (ze rfl ⟨.mk1,rfl⟩)) fun h=>.mk1
 rw [aoM]
 refine zj (zS (zV (PEdO.ped (vG (A:=pD) (B:=pD) (fun p=>!hiP rows cut p) (cnL (x,y)) (yz (zu (x,y) (aak rfl rfl ⟨rfl,rfl,?_⟩)))))))
 rintro _ rfl
 refine⟨_,rfl,rfl,show 4<=1000 by decide,?_,?_⟩
 ·rintro D p ρ' es hp ho hes
  obtain⟨u,rfl⟩:=ho.one
  refine zj (ach (jw (zu (rows,wd,cut,p.1,p.2) (aaM rfl rfl rfl ⟨rfl,⟨rfl,g,e4 p hp⟩,?_⟩))))
  rintro _ rfl
  refine⟨_,rfl,rfl,?_⟩
  refine yR (fun h=>yE hes (ze rfl ⟨.mk1,rfl⟩)) fun h=>.mk1
 rw [aoN]
 have few:∀ s:Fl,(pcL (x,y) s).length<=4:=fun⟨a,b,d,e⟩=>by cases a <;> cases b <;> cases d <;> cases e <;> exact apW rfl
 refine zj (zS (acQ (ach (jw (zu (rows,wd,cut,x,y) (aaM rfl rfl rfl ⟨rfl,⟨rfl,g,hc⟩,?_⟩))))))
 rintro _ rfl
 refine⟨_,rfl,?_⟩
 dsimp only at cr ⊢
 rw [cr]
 unfold PL mF
 generalize hF rows cut (x,y)=hh
 refine yR (fun h=>?_) fun h=>?_
 ·rw [Bool.not_eq_true'] at h
  rw [h,if_neg apk]
  refine yB (PEdO.ped (vG (A:=fun s=>plD (pcL (x,y) s)) (B:=fun s=>plD (pcL (x,y) s)) anyF [hh,aaq hh] (aiq (y9 (aak rfl rfl ⟨_,rfl,by show 2<=1000;decide,_,rfl,rfl,show 2<=1000 by decide,?_,rfl⟩)))))
  rintro D s ρ' es hs ho hes
  obtain⟨u,rfl⟩:=ho.one
  refine zj (jw (ze rfl ⟨anyF s,?_,rfl,?_⟩))
  ·obtain⟨a,b,d,e⟩:=s
   cases a <;> cases b <;> cases d <;> cases e <;> rfl
  ·exact yR (fun h=>yE hes (ze rfl ⟨.mk1,rfl⟩)) fun h=>.mk1
 ·rw [Bool.not_eq_false'] at h
  rw [h,if_pos rfl]
  refine vp (zS (acQ (jw (zu (rows,wd,cut,x,y) (aaM rfl rfl rfl ⟨rfl,⟨rfl,g,hc⟩,?_⟩)))))
  rintro _ rfl
  refine⟨_,rfl,?_⟩
  dsimp only
  refine yR (fun h2=>?_) fun h2=>?_
  ·rw [h2,if_pos rfl]
   refine yB (abn (aaw (aaL rfl ⟨_,rfl,by show 1<=1000;decide,_,rfl,PEdO.ped (vq (A:=pD) (B:=fun p=>plD [p]) (pcL (x,y) (aaq hh)) (yz (ze rfl ⟨_,rfl,rfl,apO (few _) (by decide),?_,?_⟩)))⟩)))
   ·rintro D p ρ' es hp ho hes
    obtain⟨u,rfl⟩:=ho.one
    refine zj (jC ?_)
    rw [if_pos rfl]
    exact yE hes (aaw (aaL rfl ⟨_,rfl,by show 1<=1000;decide,.mk1,rfl⟩))
   ·refine⟨_,rfl,?_,?_⟩
    ·have:=few (aaq hh)
     rw [api]
     show 1+_<=1000
     omega
    ·have e:=ajv (x,y) (aaq hh)
     rw [apT,show (pcL (x,y) (aaq hh)).map (fun p=>plD [p])=((pcL (x,y) (aaq hh)).map fun p=>[p]).map plD by rw [ap1];rfl,e,ap1]
     rfl
  ·rw [h2,if_neg apk]
   refine vp (yB (abn (aaw (aaL rfl ⟨_,rfl,by show 1<=1000;decide,_,rfl,PEdO.ped (vq (A:=pD) (B:=fun p=>plD [p]) (pcL (x,y) hh) (yz (ze rfl ⟨_,rfl,rfl,apO (few _) (by decide),?_,?_⟩)))⟩))))
   ·rintro D p ρ' es hp ho hes
    obtain⟨u,rfl⟩:=ho.one
    refine zj (jC ?_)
    rw [if_pos rfl]
    exact yE hes (aaw (aaL rfl ⟨_,rfl,by show 1<=1000;decide,.mk1,rfl⟩))
   ·refine⟨_,rfl,?_,?_⟩
    ·have:=few hh
     rw [api]
     show 1+_<=1000
     omega
    ·have e:=ajv (x,y) hh
     rw [apT,show (pcL (x,y) hh).map (fun p=>plD [p])=((pcL (x,y) hh).map fun p=>[p]).map plD by rw [ap1];rfl,e,ap1]
     rfl
theorem anr {K:apj} {f:Fx} {D:Addr} {ts:TS} {ρ:zr} {es:List PyData} {O O':OEnds} (h:PSo K f D ts ρ es O) (h1:∀ r e,O.nx r e->O'.nx r e) (h2:∀ d,O.rt d->O'.rt d) (h3:∀ r e,O.bk r e->O'.bk r e) (h4:∀ r e,O.ct r e->O'.ct r e):PSo K f D ts ρ es O' :=
 fun hD hM σ H H2 E c n r b k=>h hD hM σ H H2 E c (fun a b c d e z=>n a b c d e (h1 _ _ z)) (fun a b c d e f g h z=>r a b c d e f g h (h2 _ z)) (fun a b' c d e z=>b a b' c d e (h3 _ _ z)) (fun a b c d e z=>k a b c d e (h4 _ _ z))
theorem ahO:∀ a:Fin 4,a=0 \/ a=1 \/ a=2 \/ a=3:=by decide
noncomputable def cnF (c:Pt) (k:Fin 4):Pt:=match k with
 | 0=>(c.1,c.2) | 1=>(c.1+1,c.2) | 2=>(c.1+1,c.2+1) | 3=>(c.1,c.2+1)
noncomputable def gkF (c:Pt) (k:Fin 4):Gt:=match k with
 | 0=>(c.1,c.2,0) | 1=>(c.1+1,c.2,1) | 2=>(c.1,c.2+1,0) | 3=>(c.1,c.2,1)
noncomputable def flF (s:Fl) (k:Fin 4):Bool:=match k with
 | 0=>s.1 | 1=>s.2.1 | 2=>s.2.2.1 | 3=>s.2.2.2
noncomputable def evF (k:Fin 4):Fin 8:=match k with | 0=>0 | 1=>2 | 2=>4 | 3=>6
noncomputable def odF (k:Fin 4):Fin 8:=match k with | 0=>1 | 1=>3 | 2=>5 | 3=>7
noncomputable def sdF (h s:Fl) (k:Fin 4):List (Fin 8):=(if flF s k=true then [evF k] else [])++if ((flF h k != flF h (k+1)) && (flF s k || flF s (k+1)))=true then [odF k] else []
noncomputable def dfF (c:Pt) (k:Fin 4):Gt:=match k with
 | 0=>(c.1,c.2,1) | 1=>(c.1+1,c.2,1) | 2=>(c.1,c.2+1,1) | 3=>(c.1,c.2,1)
noncomputable def ptF (rows:List (List Int)) (wd:Nat) (cut:Int) (c:Pt) (i:Fin 8):Gt :=
 let od:=fun k:Fin 4=>if opG rows wd cut (gkF c k)=true then plT rows cut (gkF c k) else dfF c k
 match i with
 | 0=>(c.1,c.2,1) | 1=>od 0 | 2=>(c.1+1,c.2,1) | 3=>od 1 | 4=>(c.1+1,c.2+1,1) | 5=>od 2 | 6=>(c.1,c.2+1,1) | 7=>od 3
theorem ans:∀ h s:Fl,qq h s=sdF h s 0++(sdF h s 1++(sdF h s 2++sdF h s 3)):=by
 rintro⟨a,b,c,d⟩ ⟨e,f,g,i⟩
 revert a b c d e f g i
 decide
theorem ajx (c:Pt):∀ i j:Fin 4,cnF c i=cnF c j↔i=j:=by
 obtain⟨x,y⟩:=c
 intro i j
 refine⟨fun h=>?_,fun h=>by rw [h]⟩
 have h1:(cnF (x,y) i).1=(cnF (x,y) j).1:=by rw [h]
 have h2:(cnF (x,y) i).2=(cnF (x,y) j).2:=by rw [h]
 revert h1 h2
 clear h
 match i,j with
 | 0,0=>intros;rfl
 | 0,1=>intro h _;simp [cnF] at h;omega
 | 0,2=>intro h _;simp [cnF] at h;omega
 | 0,3=>intro _ h;simp [cnF] at h;omega
 | 1,0=>intro h _;simp [cnF] at h;omega
 | 1,1=>intros;rfl
 | 1,2=>intro _ h;simp [cnF] at h;omega
 | 1,3=>intro h _;simp [cnF] at h;omega
 | 2,0=>intro h _;simp [cnF] at h;omega
 | 2,1=>intro _ h;simp [cnF] at h;omega
 | 2,2=>intros;rfl
 | 2,3=>intro h _;simp [cnF] at h;omega
 | 3,0=>intro _ h;simp [cnF] at h;omega
 | 3,1=>intro h _;simp [cnF] at h;omega
 | 3,2=>intro h _;simp [cnF] at h;omega
 | 3,3=>intros;rfl
theorem aoQ (c:Pt) (s:Fl):pcL c s=(([0,1,2,3]:List (Fin 4)).filter (flF s)).map (cnF c):=by
 obtain⟨a,b,d,e⟩:=s
 cases a <;> cases b <;> cases d <;> cases e <;> rfl
theorem ant:∀ (s:Fl) (k:Fin 4),((([0,1,2,3]:List (Fin 4)).filter (flF s)).any fun j=>decide (j=k))=flF s k:=by
 rintro⟨a,b,c,d⟩ k
 revert a b c d k
 decide
theorem ajy (c:Pt) (s:Fl) (k:Fin 4):(((pcL c s).map pD).any fun e=>apP e (pD (cnF c k)))=flF s k:=by
 rw [aoQ,<- ant s k,atA,atA]
 congr 1
 funext j
 show (apP (.int (cnF c j).1) (.int (cnF c k).1) && (apP (.int (cnF c j).2) (.int (cnF c k).2) && true))=decide (j=k)
 rw [adw,adw,asS,<- Bool.decide_and]
 refine decide_eq_decide.mpr ?_
 rw [<-ajx c j k]
 exact⟨fun h=>Prod.ext h.1 h.2,fun h=>by rw [h];exact⟨rfl,rfl⟩⟩
theorem ajz {rows:List (List Int)} {wd:Nat} {cut:Int} {c:Pt} (h:yy rows wd c=true) (k:Fin 4):opG rows wd cut (gkF c k)=(flF (hF rows cut c) k != flF (hF rows cut c) (k+1)):=by
 have sw:∀ a b:Bool,(a != b)=(b != a):=by decide
 match k with
 | 0=>exact ady (cut:=cut) h
 | 1=>exact adA (cut:=cut) h
 | 2=>exact (adz (cut:=cut) h).trans (sw _ _)
 | 3=>exact (afu (cut:=cut) h).trans (sw _ _)
noncomputable abbrev aoR (rows:List (List Int)) (cut:Int) (c:Pt) (s:Fl) (m:Nat) (u v z:Option DV):zr:=[some (.dat (tab rows)),some (.dat (.int cut)),some (.dat (pD c)),some (.dat (plD (pcL c s))),some (.dat (.int c.1)),some (.dat (.int c.2)),some (.dat (gD3 (c.1,c.2,0))),some (.dat (gD3 (c.1,c.2,1))),some (.dat (gD3 (c.1,c.2+1,0))),some (.dat (gD3 (c.1+1,c.2,1))),some (.dat (.list [pD (cnF c 0),pD (cnF c 1),pD (cnF c 2),pD (cnF c 3)])),some (.dat (.list [pD (cnF c 1),pD (cnF c 2),pD (cnF c 3),pD (cnF c 0)])),some (.own m),u,v,z]
noncomputable abbrev TOu:=List (List Int)×Nat×Int×Pt×Fl
noncomputable abbrev aoS (c:TOu) (xs:List DV):Prop:=xs=[.dat (tab c.1),.dat (.int c.2.2.1),.dat (pD c.2.2.2.1),.dat (plD (pcL c.2.2.2.1 c.2.2.2.2))]/\Good c.2.1 c.1/\yy c.1 c.2.1 c.2.2.2.1=true
noncomputable def ouL (rows:List (List Int)) (wd:Nat) (cut:Int) (c:Pt) (s:Fl):List Gt:=(qq (hF rows cut c) s).map (ptF rows wd cut c)
noncomputable abbrev ajA (K:apj):Sp:=spD K 4 aoS fun c r=>r=.list ((ouL c.1 c.2.1 c.2.2.1 c.2.2.2.1 c.2.2.2.2).map gD3)
theorem afE (F:Def K mg "outline" ve pT) (uag:mg "zip"=none) (uay:FnIn P w K mg base k "cell_gates" ["cell"] (abJ K)) (uam:FnIn P w K mg base k "corners" pF (vi K)) (uax:FnIn P w K mg base k "is_open" pA (afs K)) (ua9:FnIn P w K mg base k "place_of" pA (acA K)):FnIn P w K mg base (k+1) "outline" pT (ajA K):=by
 refine F.ok sc_outline rfl fun fa cdv A outer s H E hr=>⟨_,(zd (yg (pv 2) (zN (K:=K) (n:=2) rfl rfl (zh (zf (i:=4) sc_outline.nd rfl (Or.inl rfl) (Or.inr rfl)) (zh (zf (i:=5) sc_outline.nd rfl (Or.inl rfl) (Or.inr rfl)) zL)))) (zd (yg (zg uay hr rfl (za (pv 2) zb)) (acV (K:=K) (n:=4) rfl rfl (zh (zf (i:=6) sc_outline.nd rfl (Or.inl rfl) (Or.inr rfl)) (zh (zf (i:=7) sc_outline.nd rfl (Or.inl rfl) (Or.inr rfl)) (zh (zf (i:=8) sc_outline.nd rfl (Or.inl rfl) (Or.inr rfl)) (zh (zf (i:=9) sc_outline.nd rfl (Or.inl rfl) (Or.inr rfl)) zL)))))) (zd (zK (i:=10) sc_outline.nd rfl (Or.inl rfl) (zg uam hr rfl (za (pv 4) (za (pv 5) zb)))) (zd (zK (i:=11) sc_outline.nd rfl (Or.inl rfl) (zl (qU (K:=K) rfl) (qf (qi (K:=K) rfl) (pv 10) (qY zc) qX) (qf (qi (K:=K) rfl) (pv 10) qX (qY zc)))) (zd (zK (i:=12) sc_outline.nd rfl (Or.inl rfl) (yt zb)) (zd (jo ap4 rfl (ai3 (K:=K) rfl rfl uag (za (pv 10) (za (yt (za (pv 6) (za (pv 9) (za (pv 8) (za (pv 7) zb))))) (za (pv 11) zb)))) (zN (K:=K) (n:=3) rfl rfl (zh (zf (i:=13) sc_outline.nd rfl (Or.inl rfl) (Or.inr rfl)) (zh (zf (i:=14) sc_outline.nd rfl (Or.inl rfl) (Or.inr rfl)) (zh (zf (i:=15) sc_outline.nd rfl (Or.inl rfl) (Or.inr rfl)) zL)))) (zd (y6 (ye (acX (K:=K) rfl hr.units) (pv 13) (pv 3) rfl) (zm (jQ (adS aqB aqQ aqR qg (pv 12) (za (zG (za (zx (zZ (K:=K) rfl) (pv 13) zc (fun _ _=>rfl)) (za (zx (zZ (K:=K) rfl) (pv 13) zc (fun _ _=>rfl)) (za zc zb)))) zb)))) yk) (zm (y6 (PW.pt (aac (ym (K:=K) rfl (zg uax hr rfl (za (pv 0) (za (pv 1) (za (pv 14) zb)))) (fun _=>rfl)) (aaN (PW.pt (afK (ye (acX (K:=K) rfl hr.units) (pv 13) (pv 3) rfl) (acF (ye (acX (K:=K) rfl hr.units) (pv 15) (pv 3) rfl))))))) (zm (jQ (adS aqB aqQ aqR qg (pv 12) (za (zg ua9 hr rfl (za (pv 0) (za (pv 1) (za (pv 14) zb)))) zb)))) yk)))) (zm (zC (pv 12))))))))),?_⟩
 rintro f xs ⟨rows,wd,cut,c,s⟩ hl ⟨rfl,g,hc⟩
 try dsimp only [yn,zo]
 dsimp only at *
 have layP:∀ e∈(pcL c s).map pD,e.canLay0=true:=fun e he=>by obtain⟨p,_,rfl⟩:=apJ.mp he;rfl
 refine zS (zV (ze rfl (yD rfl (zt (zj (zt (zj (ya ?_))))))))
 refine zS (zV (zu c (aaL rfl ⟨rfl,rfl,?_⟩)))
 rintro _ rfl
 refine aiw rfl (zt (zj (zt (zj (zt (zj (zt (zj (ya ?_)))))))))
 refine zS (zV (zu c (aak rfl rfl ⟨rfl,rfl,?_⟩)))
 rintro _ rfl
 refine zj (zS (zV (abn (abh (ze rfl ⟨_,rfl,abg (zB ⟨_,rfl,abf ⟨_,rfl,abh (ze rfl ⟨_,rfl,abf (abg (zB ⟨_,rfl,_,rfl,?_⟩))⟩)⟩⟩)⟩)))))
 refine⟨show 3+1<=1000 by decide,zj ?_⟩
 refine aoa (alA ⟨show 12<16 by decide,fun D=>?_⟩)
 refine an0 (am0 (zq (ze rfl (zq (aaw (zq (ze rfl (zq (ze rfl (zq (ze rfl (zq (ze rfl (zU ⟨_,rfl,by show 4<=1000;decide,zq (ze rfl (zU ⟨_,_,_,rfl,rfl,rfl,fun n ρ es=>∃ l:List (Fin 8),n<=4/\(∃ u v z,ρ=aoR rows cut c s f.M.length u v z)/\es=(l.map (ptF rows wd cut c)).map gD3/\l=((([0,1,2,3]:List (Fin 4)).take n).flatMap (sdF (hF rows cut c) s)),⟨[],by decide,⟨_,_,_,rfl⟩,rfl,rfl⟩,?_,?_⟩))⟩))))))))))))))
 ·rintro n d _ _ hd ⟨l,n4,⟨u,v,z,rfl⟩,rfl,hl'⟩
  obtain⟨q,hq,rfl⟩:∃ q:Fin 4,([0,1,2,3]:List (Fin 4))[n]?=some q/\d=.tuple [pD (cnF c q),gD3 (gkF c q),pD (cnF c (q+1))]:=by
   rcases n with _ | _ | _ | _ | n
   ·cases hd;exact⟨0,rfl,rfl⟩
   ·cases hd;exact⟨1,rfl,rfl⟩
   ·cases hd;exact⟨2,rfl,rfl⟩
   ·cases hd;exact⟨3,rfl,rfl⟩
   ·cases hd
  have hn:n<4:=(apm.mp hq).1
  have tk:([0,1,2,3]:List (Fin 4)).take (n+1)=([0,1,2,3]:List (Fin 4)).take n++[q]:=by rw [aqh,hq];rfl
  have len:l.length<=8:=by
   rw [hl']
   have sd:∀ k,(sdF (hF rows cut c) s k).length<=2:=fun k=>by unfold sdF;rw [apA];split <;> split <;> simp
   have:∀ m:List (Fin 4),(m.flatMap (sdF (hF rows cut c) s)).length<=2 * m.length:=fun m=>by
    induction m with
    | nil=>exact ap2 _
    | cons k m ih =>
     have:=sd k
     rw [arM,apA,apL]
     omega
   refine apO (this _) ?_
   rw [apX]
   show 2 * min n 4<=8
   omega
  have op:=ajz (cut:=cut) hc q
  have ev:ptF rows wd cut c (evF q)=((cnF c q).1,(cnF c q).2,1):=by
   clear op hq
   rcases ahO q with rfl | rfl | rfl | rfl <;> rfl
  have od:opG rows wd cut (gkF c q)=true->ptF rows wd cut c (odF q)=plT rows cut (gkF c q):=fun h=>by
   clear op ev hq
   rcases ahO q with rfl | rfl | rfl | rfl <;> exact if_pos h
  have nx:(([0,1,2,3]:List (Fin 4)).take (n+1)).flatMap (sdF (hF rows cut c) s)=l++sdF (hF rows cut c) s q:=by
   rw [tk,aq1,<- hl']
   simp
  refine apc (anY (anr (O:={ nx:=fun ρ' es'=>ρ'=aoR rows cut c s f.M.length (some (.dat (pD (cnF c q)))) (some (.dat (gD3 (gkF c q)))) (some (.dat (pD (cnF c (q+1)))))/\es'=((l++if flF s q=true then [evF q] else []).map (ptF rows wd cut c)).map gD3,rt:=fun _=>False }) ?_ ?_ (fun _ z=>z.elim) (fun _ _ z=>z.elim) (fun _ _ z=>z.elim)))
  ·refine anZ (jh (aiy (ze rfl (ze rfl ⟨_,rfl,rfl,layP,apW rfl,_,rfl,?_⟩))))
   rw [ajy]
   cases hs:flF s q with
   | false =>
    rw [if_neg apk]
    exact ae7 ⟨rfl,by rw [if_neg apk,apY]⟩
   | true =>
    rw [if_pos rfl]
    refine aiu rfl (by rw [api,api];omega) ?_
    walk_at "w"
    rw [if_pos rfl,apQ,apQ]
    show _=_++[gD3 (ptF rows wd cut c (evF q))]
    rw [ev]
    rfl
  ·rintro _ _ ⟨rfl,rfl⟩
   have ad:l++sdF (hF rows cut c) s q=(l++if flF s q=true then [evF q] else [])++if ((flF (hF rows cut c) q != flF (hF rows cut c) (q+1)) && (flF s q || flF s (q+1)))=true then [odF q] else []:=by unfold sdF;rw [aqu]
   refine anZ (adX (jw (zu (rows,wd,cut,gkF c q) (aaM rfl rfl rfl ⟨rfl,⟨rfl,g⟩,?_⟩))))
   rintro _ rfl
   refine⟨_,rfl,?_⟩
   have ho':yF rows wd cut (gkF c q).1 (gkF c q).2.1 (gkF c q).2.2=(flF (hF rows cut c) q != flF (hF rows cut c) (q+1)):=op
   show if yF rows wd cut (gkF c q).1 (gkF c q).2.1 (gkF c q).2.2=true then _ else _
   rw [ho']
   cases h1:(flF (hF rows cut c) q != flF (hF rows cut c) (q+1)) with
   | false =>
    rw [if_neg apk,if_neg apk]
    refine ae7 ⟨_,hn,⟨_,_,_,rfl⟩,?_,rfl⟩
    rw [nx,ad,h1,aro,if_neg apk,apY]
   | true =>
    have put:flF s q=true \/ flF s (q+1)=true->((l++sdF (hF rows cut c) s q).map (ptF rows wd cut c)).map gD3=((l++if flF s q=true then [evF q] else []).map (ptF rows wd cut c)).map gD3++[gD3 (plT rows cut (gkF c q))]:=fun h=>by
     have hh:(flF s q || flF s (q+1))=true:=by rcases h with h | h <;> rw [h] <;> simp
     rw [ad,h1,hh,if_pos (show (true && true)=true from rfl),apQ,apQ,<- od (op.trans h1)]
     rfl
    have ln:(((l++if flF s q=true then [evF q] else []).map (ptF rows wd cut c)).map gD3).length<1000:=by
     rw [api,api,apA]
     split <;> simp <;> omega
    rw [if_pos rfl]
    refine akd (jh (aiy (ze rfl (ze rfl ⟨_,rfl,rfl,layP,apW rfl,_,rfl,?_⟩))))
    rw [ajy]
    cases h2:flF s q with
    | true =>
     rw [h2] at ln
     rw [if_pos rfl,if_pos rfl]
     refine aiu rfl ln (zu (rows,wd,cut,gkF c q) (aaM rfl rfl rfl ⟨rfl,⟨rfl,g,op.trans h1⟩,?_⟩))
     rintro _ rfl
     refine⟨_,hn,⟨_,_,_,rfl⟩,?_,rfl⟩
     have:=put (.inl h2)
     rw [h2] at this
     rw [nx,this]
    | false =>
     rw [h2] at ln
     rw [if_neg apk]
     refine jh (aiy (ze rfl (ze rfl ⟨_,rfl,rfl,layP,apW rfl,_,rfl,?_⟩)))
     rw [ajy]
     cases h3:flF s (q+1) with
     | true =>
      rw [if_pos rfl]
      refine aiu rfl ln (zu (rows,wd,cut,gkF c q) (aaM rfl rfl rfl ⟨rfl,⟨rfl,g,op.trans h1⟩,?_⟩))
      rintro _ rfl
      refine⟨_,hn,⟨_,_,_,rfl⟩,?_,rfl⟩
      have:=put (.inr h3)
      rw [h2] at this
      rw [nx,this]
     | false =>
      rw [if_neg apk]
      refine ae7 ⟨_,hn,⟨_,_,_,rfl⟩,?_,rfl⟩
      rw [nx,ad,h1,h2,h3,if_neg (show ¬ (true && (false || false))=true from apk),apY]
 ·rintro _ _ ⟨l,_,⟨u,v,z,rfl⟩,rfl,hl'⟩
  refine⟨rfl,?_⟩
  have e4:l=qq (hF rows cut c) s:=by
   rw [hl',ans]
   show ([0,1,2,3]:List (Fin 4)).flatMap (sdF (hF rows cut c) s)=_
   simp
  rw [e4]
  exact yB (ze rfl rfl)
noncomputable def xq (p:Gt):Rat:=apG p.1 p.2.2
noncomputable def yq (p:Gt):Rat:=apG p.2.1 p.2.2
theorem aar {n:Int} (h:n≠0):(n:Rat)≠0:=fun z=>h (asX.mp z)
theorem aoT {p q:Gt} (hp:p.2.2≠0) (hq:q.2.2≠0):apG (crs p q).1 (crs p q).2=xq p * yq q - yq p * xq q:=by
 have h1:=aar hp
 have h2:=aar hq
 unfold crs xq yq
 simp only [apM,asu,ap5]
 grind
theorem abM:∀ (l:List Fr2) (a:Rat),l.foldl (fun q p=>q+apG p.1 p.2) a=(l.map fun p=>apG p.1 p.2).foldl (·+·) a
 | [],_=>rfl
 | p :: l,a=>abM l _
theorem ajB {pt:Fin 8->Gt} (h:∀ i,(pt i).2.2≠0) (T:List (Fin 8)):yA (prs (T.map pt))=shT (fun i=>xq (pt i)) (fun i=>yq (pt i)) T:=by
 unfold yA prs nxL shT
 rw [abM,ap1,<- asi,<- arI,<- apQ,List.zip_map,ap1]
 congr 1
 refine aql fun p _=>?_
 exact aoT (h p.1) (h p.2)
theorem apd {rows:List (List Int)} {cut:Int} {g:Gt}:(g.2.2=0->xq (plT rows cut g)=g.1+shQ rows cut g/\yq (plT rows cut g)=g.2.1)/\(g.2.2≠0->xq (plT rows cut g)=g.1/\yq (plT rows cut g)=g.2.1+shQ rows cut g):=by
 have hd:(((shQ rows cut g).den:Int):Rat)≠0:=aar (by have:=(shQ rows cut g).den_nz;omega)
 have hn:((shQ rows cut g).num:Rat)=shQ rows cut g * (((shQ rows cut g).den:Int):Rat):=by
  have:=arA (shQ rows cut g)
  rw [apM] at this
  grind
 unfold xq yq plT
 constructor
 ·intro h
  rw [if_pos h]
  simp only [apM,arE,ap5]
  constructor <;> grind
 ·intro h
  rw [if_neg h]
  simp only [apM,arE,ap5]
  constructor <;> grind
theorem aoU {rows:List (List Int)} {wd:Nat} {cut:Int} {g:Gt} (o:opG rows wd cut g=true):0<shQ rows cut g/\shQ rows cut g<1:=by
 have w:=v9 o
 unfold shQ
 generalize TT rows cut g.1 g.2.1=t at *
 generalize BB rows g.1 g.2.1 g.2.2=b at *
 rw [apM]
 have bn:(b:Rat)≠0:=aar (by omega)
 rcases w with⟨h1,h2⟩ | ⟨h1,h2⟩
 ·have e1:(0:Rat)<(t:Rat):=by exact_mod_cast h1
  have e2:(t:Rat)<(b:Rat):=by exact_mod_cast h2
  have hb:0<(b:Rat):=by grind
  exact⟨(Rat.lt_div_iff hb).mpr (by grind),(Rat.div_lt_iff hb).mpr (by grind)⟩
 ·have e1:(t:Rat)<0:=by exact_mod_cast h1
  have e2:(b:Rat)<(t:Rat):=by exact_mod_cast h2
  have hb:0 < -(b:Rat):=by grind
  have e:(t:Rat) / (b:Rat)=(-(t:Rat)) / (-(b:Rat)):=by grind
  rw [e]
  exact⟨(Rat.lt_div_iff hb).mpr (by grind),(Rat.div_lt_iff hb).mpr (by grind)⟩
theorem ald {ps:List Gt} (hS:0<yA (prs ps)):qo ps=yA (prs ps) / 2:=by
 unfold qo
 generalize yA (prs ps)=S at *
 have hn:0<=S.num:=Rat.num_nonneg.mpr (by grind)
 have e:((S.num.natAbs:Int))=S.num:=by omega
 have hd:(((S.den:Int)):Rat)≠0:=aar (by have:=S.den_nz;omega)
 rw [e,apM,ap5]
 have:=arA S
 rw [apM] at this
 have two:(((2:Int)):Rat)=2:=rfl
 rw [two]
 grind
section
variable {rows:List (List Int)} {wd:Nat} {cut:Int} {c:Pt}
noncomputable def tF (rows:List (List Int)) (wd:Nat) (cut:Int) (c:Pt) (k:Fin 4):Rat:=if opG rows wd cut (gkF c k)=true then shQ rows cut (gkF c k) else 0
theorem ale (i:Fin 8):xq (ptF rows wd cut c i)=XX (c.1:Rat) (tF rows wd cut c 0) (tF rows wd cut c 2) i/\yq (ptF rows wd cut c i)=YY (c.2:Rat) (tF rows wd cut c 3) (tF rows wd cut c 1) i:=by
 have one:∀ a b:Int,xq (a,b,1)=a/\yq (a,b,1)=b:=fun a b=>by
  unfold xq yq
  simp only [apM]
  have:(((1:Int)):Rat)=1:=rfl
  rw [this]
  constructor <;> grind
 have c1:(((c.1+1:Int)):Rat)=(c.1:Rat)+1:=by rw [arE];rfl
 have c2:(((c.2+1:Int)):Rat)=(c.2:Rat)+1:=by rw [arE];rfl
 have od:∀ k:Fin 4,(xq (if opG rows wd cut (gkF c k)=true then plT rows cut (gkF c k) else dfF c k)=((gkF c k).1:Rat)+(if (gkF c k).2.2=0 then tF rows wd cut c k else 0))/\yq (if opG rows wd cut (gkF c k)=true then plT rows cut (gkF c k) else dfF c k)=((gkF c k).2.1:Rat)+(if (gkF c k).2.2=0 then 0 else tF rows wd cut c k):=fun k=>by
  unfold tF
  by_cases h:opG rows wd cut (gkF c k)=true
  ·rw [if_pos h,if_pos h]
   obtain⟨q1,q2⟩:=apd (rows:=rows) (cut:=cut) (g:=gkF c k)
   by_cases z:(gkF c k).2.2=0
   ·obtain⟨a,b⟩:=q1 z
    rw [a,b,if_pos z,if_pos z]
    exact⟨rfl,by grind⟩
   ·obtain⟨a,b⟩:=q2 z
    rw [a,b,if_neg z,if_neg z]
    exact⟨by grind,rfl⟩
  ·rw [if_neg h,if_neg h]
   obtain⟨a,b⟩:xq (dfF c k)=((gkF c k).1:Rat)/\yq (dfF c k)=((gkF c k).2.1:Rat):=by
    match k with
    | 0=>exact one _ _ | 1=>exact one _ _ | 2=>exact one _ _ | 3=>exact one _ _
   rw [a,b]
   constructor <;> split <;> grind
 match i with
 | 0=>exact one _ _
 | 2=>exact⟨(one _ _).1.trans c1,(one _ _).2⟩
 | 4=>exact⟨(one _ _).1.trans c1,(one _ _).2.trans c2⟩
 | 6=>exact⟨(one _ _).1,(one _ _).2.trans c2⟩
 | 1 =>
  obtain⟨a,b⟩:=od 0
  refine⟨a.trans ?_,b.trans ?_⟩
  ·show ((c.1:Int):Rat)+(if (0:Int)=0 then _ else _)=_+_
   rw [if_pos rfl]
  ·show ((c.2:Int):Rat)+(if (0:Int)=0 then _ else _)=_
   rw [if_pos rfl]
   exact arB _
 | 3 =>
  obtain⟨a,b⟩:=od 1
  refine⟨a.trans ?_,b.trans ?_⟩
  ·show ((c.1+1:Int):Rat)+(if (1:Int)=0 then _ else _)=_+1
   rw [if_neg (by decide),c1]
   exact arB _
  ·show ((c.2:Int):Rat)+(if (1:Int)=0 then _ else _)=_+_
   rw [if_neg (by decide)]
 | 5 =>
  obtain⟨a,b⟩:=od 2
  refine⟨a.trans ?_,b.trans ?_⟩
  ·show ((c.1:Int):Rat)+(if (0:Int)=0 then _ else _)=_+_
   rw [if_pos rfl]
  ·show ((c.2+1:Int):Rat)+(if (0:Int)=0 then _ else _)=_+1
   rw [if_pos rfl,c2]
   exact arB _
 | 7 =>
  obtain⟨a,b⟩:=od 3
  refine⟨a.trans ?_,b.trans ?_⟩
  ·show ((c.1:Int):Rat)+(if (1:Int)=0 then _ else _)=_
   rw [if_neg (by decide)]
   exact arB _
  ·show ((c.2:Int):Rat)+(if (1:Int)=0 then _ else _)=_+_
   rw [if_neg (by decide)]
theorem aeM (gd:Good wd rows) (hc:yy rows wd c=true) (i:Fin 8):PlB (ptF rows wd cut c i):=by
 obtain⟨a,_,b,_⟩:=cell_in hc
 obtain⟨x0,x1,y0,y1⟩:=yZ a
 obtain⟨x2,x3,y2,y3⟩:=yZ b
 have w2:=gd.w2
 have h2:=gd.h2
 have od:∀ k,PlB (if opG rows wd cut (gkF c k)=true then plT rows cut (gkF c k) else dfF c k):=fun k=>by
  by_cases h:opG rows wd cut (gkF c k)=true
  ·rw [if_pos h];exact aoK gd h
  ·rw [if_neg h]
   match k with
   | 0=>exact⟨by show c.1.natAbs<=_;omega,by show c.2.natAbs<=_;omega,by show (0:Int)<1;decide,by show (1:Int)<=_;decide⟩
   | 1=>exact⟨by show (c.1+1).natAbs<=_;omega,by show c.2.natAbs<=_;omega,by show (0:Int)<1;decide,by show (1:Int)<=_;decide⟩
   | 2=>exact⟨by show c.1.natAbs<=_;omega,by show (c.2+1).natAbs<=_;omega,by show (0:Int)<1;decide,by show (1:Int)<=_;decide⟩
   | 3=>exact⟨by show c.1.natAbs<=_;omega,by show c.2.natAbs<=_;omega,by show (0:Int)<1;decide,by show (1:Int)<=_;decide⟩
 match i with
 | 0=>exact⟨by show c.1.natAbs<=_;omega,by show c.2.natAbs<=_;omega,by show (0:Int)<1;decide,by show (1:Int)<=_;decide⟩
 | 1=>exact od 0
 | 2=>exact⟨by show (c.1+1).natAbs<=_;omega,by show c.2.natAbs<=_;omega,by show (0:Int)<1;decide,by show (1:Int)<=_;decide⟩
 | 3=>exact od 1
 | 4=>exact⟨by show (c.1+1).natAbs<=_;omega,by show (c.2+1).natAbs<=_;omega,by show (0:Int)<1;decide,by show (1:Int)<=_;decide⟩
 | 5=>exact od 2
 | 6=>exact⟨by show c.1.natAbs<=_;omega,by show (c.2+1).natAbs<=_;omega,by show (0:Int)<1;decide,by show (1:Int)<=_;decide⟩
 | 7=>exact od 3
noncomputable def arS (rows:List (List Int)) (wd:Nat) (cut:Int) (c:Pt) (s:Fl):Rat:=yA (prs (ouL rows wd cut c s))
theorem aeN (gd:Good wd rows) (hc:yy rows wd c=true):((PL (hF rows cut c) (mF rows cut c)).map (arS rows wd cut c)).foldl (·+·) 0=2/\∀ s∈PL (hF rows cut c) (mF rows cut c),0<arS rows wd cut c s:=by
 have e:∀ s,arS rows wd cut c s=shT (XX (c.1:Rat) (tF rows wd cut c 0) (tF rows wd cut c 2)) (YY (c.2:Rat) (tF rows wd cut c 3) (tF rows wd cut c 1)) (qq (hF rows cut c) s):=fun s=>by
  unfold arS ouL
  rw [ajB (fun i=>by have:=(aeM (cut:=cut) gd hc i).2.2.1;omega)]
  congr 1
  ·funext i;exact (ale i).1
  ·funext i;exact (ale i).2
 have ee:arS rows wd cut c=fun s=>shT (XX (c.1:Rat) (tF rows wd cut c 0) (tF rows wd cut c 2)) (YY (c.2:Rat) (tF rows wd cut c 3) (tF rows wd cut c 1)) (qq (hF rows cut c) s):=funext e
 have op:∀ k,flF (hF rows cut c) k≠flF (hF rows cut c) (k+1)->0<tF rows wd cut c k/\tF rows wd cut c k<1:=fun k h=>by
  have o:opG rows wd cut (gkF c k)=true:=by
   rw [ajz hc]
   exact bne_iff_ne.mpr h
  unfold tF
  rw [if_pos o]
  exact aoU o
 rw [ee]
 exact aoL _ _ _ _ _ _ _ _ _ _ _ (op 0) (fun h=>op 3 (fun z=>h z.symm)) (fun h=>op 2 (fun z=>h z.symm)) (op 1)
end
noncomputable def prN {α:Type} (f:α->Nat):List α->Nat
 | []=>1
 | a :: l=>f a * prN f l
theorem aaa {α:Type} {f:α->Nat} {a:α}:∀ {l:List α},a∈l->f a ∣ prN f l
 | b :: l,h=>by
  rcases apq.mp h with rfl | h
  ·exact Nat.dvd_mul_right _ _
  ·exact Nat.dvd_trans (aaa h) (Nat.dvd_mul_left _ _)
theorem agF {α:Type} {f:α->Nat} {a b:α} (ne:a≠b):∀ {l:List α},a∈l->b∈l->f a * f b ∣ prN f l
 | d :: l,ha,hb=>by
  rcases apq.mp ha with rfl | ha'
  ·rcases apq.mp hb with rfl | hb'
   ·exact absurd rfl ne
   ·exact Nat.mul_dvd_mul (Nat.dvd_refl _) (aaa hb')
  ·rcases apq.mp hb with rfl | hb'
   ·rw [Nat.mul_comm]
    exact Nat.mul_dvd_mul (Nat.dvd_refl _) (aaa ha')
   ·exact Nat.dvd_trans (agF ne ha' hb') (Nat.dvd_mul_left _ _)
theorem agG {α:Type} {f:α->Nat}:∀ {l:List α},(∀ a∈l,0<f a)->0<prN f l
 | [],_=>Nat.one_pos
 | a :: l,h=>atP (h a apo) (agG fun b hb=>h b (apl _ hb))
theorem ajC {α:Type} {f:α->Nat} {b:Nat}:∀ {l:List α},(∀ a∈l,f a<=2 ^ b)->prN f l<=2 ^ (b * l.length)
 | [],_=>by show 1<=2 ^ (b * 0);rw [atG];decide
 | a :: l,h=>by
  have h1:=h a apo
  have h2:=ajC (l:=l) fun x hx=>h x (apl _ hx)
  show f a * prN f l<=2 ^ (b * (l.length+1))
  rw [Nat.mul_add,atO,atB,asJ]
  exact aqp h1 h2
theorem anu {M d:Nat} {t:Int} (h0:0<d) (h:d ∣ M):Com M (apG t (d:Int)):=by
 obtain⟨e,rfl⟩:=h
 refine⟨t * (e:Int),?_⟩
 have hd:((d:Int):Rat)≠0:=aar (by omega)
 rw [apM,ap5]
 have e1:((d * e:Nat):Rat)=((d:Int):Rat) * ((e:Int):Rat):=by rw [<-ap5];rfl
 rw [e1]
 grind
section
variable {rows:List (List Int)} {wd:Nat} {cut:Int} {c:Pt}
noncomputable def M1 (rows:List (List Int)) (wd:Nat) (cut:Int):Nat:=prN (fun g=>(shQ rows cut g).den) (aam rows wd cut)
theorem qK {g:Gt} (o:opG rows wd cut g=true):g∈aam rows wd cut:=by
 rw [abI,ap9]
 refine⟨?_,o⟩
 obtain⟨x,y,w⟩:=g
 have hw:=anm o
 have hi:yx rows wd x y=true:=by
  have o':yF rows wd cut x y w=true:=o
  unfold yF v3 at o'
  rw [apu,apu,apu] at o'
  exact o'.1.2.1
 obtain⟨x0,x1,y0,y1⟩:=yZ hi
 obtain⟨a,rfl⟩:=aqD x0
 obtain⟨b,rfl⟩:=aqD y0
 refine aqs.mpr ⟨a,apV.mpr (by omega),aqs.mpr ⟨b,apV.mpr (by omega),?_⟩⟩
 rcases hw with h | h
 ·have h:w=0:=h
  subst h
  exact apo ..
 ·have h:w=1:=h
  subst h
  exact apl _ (apo ..)
theorem alU (gd:Good wd rows):0<M1 rows wd cut/\M1 rows wd cut<2 ^ 3200:=by
 have op:∀ g∈aam rows wd cut,opG rows wd cut g=true:=fun g hg=>by
  rw [abI,ap9] at hg
  exact hg.2
 refine⟨agG fun g hg=>(agA gd (op g hg)).2.2,aqN (ajC (b:=32) fun g hg=>apO (agA gd (op g hg)).2.1 (by decide)) ?_⟩
 have:=ahG (cut:=cut) gd
 exact ap8 (by decide) (by omega)
noncomputable def oG (rows:List (List Int)) (wd:Nat) (cut:Int) (c:Pt) (i:Fin 8):Option Gt :=
 let od:=fun k:Fin 4=>if opG rows wd cut (gkF c k)=true then some (gkF c k) else none
 match i with
 | 1=>od 0 | 3=>od 1 | 5=>od 2 | 7=>od 3 | _=>none
noncomputable def dnF (rows:List (List Int)) (cut:Int):Option Gt->Nat
 | none=>1
 | some g=>(shQ rows cut g).den
theorem adI (i:Fin 8):(ptF rows wd cut c i).2.2=(dnF rows cut (oG rows wd cut c i):Int):=by
 have od:∀ k:Fin 4,(if opG rows wd cut (gkF c k)=true then plT rows cut (gkF c k) else dfF c k).2.2=(dnF rows cut (if opG rows wd cut (gkF c k)=true then some (gkF c k) else none):Int):=fun k=>by
  by_cases h:opG rows wd cut (gkF c k)=true
  ·rw [if_pos h,if_pos h]
   unfold plT
   split <;> rfl
  ·rw [if_neg h,if_neg h]
   match k with
   | 0=>rfl | 1=>rfl | 2=>rfl | 3=>rfl
 match i with
 | 0=>rfl | 2=>rfl | 4=>rfl | 6=>rfl
 | 1=>exact od 0 | 3=>exact od 1 | 5=>exact od 2 | 7=>exact od 3
theorem agH {i:Fin 8} {g:Gt} (h:oG rows wd cut c i=some g):opG rows wd cut g=true/\∃ k,g=gkF c k/\i=odF k:=by
 have od:∀ k:Fin 4,(if opG rows wd cut (gkF c k)=true then some (gkF c k) else none)=some g->opG rows wd cut g=true/\g=gkF c k:=fun k h=>by
  by_cases z:opG rows wd cut (gkF c k)=true
  ·rw [if_pos z] at h
   cases h
   exact⟨z,rfl⟩
  ·rw [if_neg z] at h;cases h
 match i,h with
 | 1,h=>exact⟨(od 0 h).1,0,(od 0 h).2,rfl⟩
 | 3,h=>exact⟨(od 1 h).1,1,(od 1 h).2,rfl⟩
 | 5,h=>exact⟨(od 2 h).1,2,(od 2 h).2,rfl⟩
 | 7,h=>exact⟨(od 3 h).1,3,(od 3 h).2,rfl⟩
 | 0,h=>cases h
 | 2,h=>cases h
 | 4,h=>cases h
 | 6,h=>cases h
theorem anv {i j:Fin 4} (h:gkF c i=gkF c j):i=j:=by
 have h1:(gkF c i).1=(gkF c j).1:=by rw [h]
 have h2:(gkF c i).2.1=(gkF c j).2.1:=by rw [h]
 have h3:(gkF c i).2.2=(gkF c j).2.2:=by rw [h]
 revert h1 h2 h3
 clear h
 match i,j with
 | 0,0=>intros;rfl
 | 0,1=>intro _ _ h;simp [gkF] at h
 | 0,2=>intro _ h _;simp [gkF] at h;omega
 | 0,3=>intro _ _ h;simp [gkF] at h
 | 1,0=>intro _ _ h;simp [gkF] at h
 | 1,1=>intros;rfl
 | 1,2=>intro _ _ h;simp [gkF] at h
 | 1,3=>intro h _ _;simp [gkF] at h;omega
 | 2,0=>intro _ h _;simp [gkF] at h;omega
 | 2,1=>intro _ _ h;simp [gkF] at h
 | 2,2=>intros;rfl
 | 2,3=>intro _ _ h;simp [gkF] at h
 | 3,0=>intro _ _ h;simp [gkF] at h
 | 3,1=>intro h _ _;simp [gkF] at h;omega
 | 3,2=>intro _ _ h;simp [gkF] at h
 | 3,3=>intros;rfl
theorem alf {i j:Fin 8} (ne:i≠j):dnF rows cut (oG rows wd cut c i) * dnF rows cut (oG rows wd cut c j) ∣ M1 rows wd cut:=by
 cases hi:oG rows wd cut c i with
 | none =>
  cases hj:oG rows wd cut c j with
  | none=>exact Nat.one_dvd _
  | some b=>rw [show dnF rows cut none=1 from rfl,atL];exact aaa (qK (agH hj).1)
 | some a =>
  cases hj:oG rows wd cut c j with
  | none=>rw [show dnF rows cut none=1 from rfl,atO];exact aaa (qK (agH hi).1)
  | some b =>
   obtain⟨o1,k1,e1,f1⟩:=agH hi
   obtain⟨o2,k2,e2,f2⟩:=agH hj
   refine agF (fun z=>ne ?_) (qK o1) (qK o2)
   rw [e1,e2] at z
   rw [f1,f2,anv z]
theorem ajD:∀ (a b d e m:Bool),∀ s∈PL (a,b,d,e) m,qq (a,b,d,e) s≠[]/\(qq (a,b,d,e) s).length<=8/\∀ p∈(qq (a,b,d,e) s).zip ((qq (a,b,d,e) s).drop 1++(qq (a,b,d,e) s).take 1),p.1≠p.2:=by decide
theorem agI (gd:Good wd rows) (hc:yy rows wd c=true) {s:Fl} (hs:s∈PL (hF rows cut c) (mF rows cut c)):∀ p∈prs (ouL rows wd cut c s),Com (M1 rows wd cut) (apG p.1 p.2):=by
 intro p hp
 unfold prs nxL ouL at hp
 rw [<-asi,<- arI,<- apQ,List.zip_map,ap1] at hp
 obtain⟨⟨i,j⟩,hij,rfl⟩:=apJ.mp hp
 have ne:i≠j:=(ajD _ _ _ _ _ s hs).2.2 (i,j) hij
 show Com _ (apG _ ((ptF rows wd cut c i).2.2 * (ptF rows wd cut c j).2.2))
 rw [adI,adI,<- ata]
 refine anu (atP ?_ ?_) (alf ne)
 ·have:=(aeM (cut:=cut) gd hc i).2.2.1
  rw [adI] at this
  omega
 ·have:=(aeM (cut:=cut) gd hc j).2.2.1
  rw [adI] at this
  omega
theorem afF (gd:Good wd rows) (hc:yy rows wd c=true) {s:Fl} (hs:s∈PL (hF rows cut c) (mF rows cut c)):qo (ouL rows wd cut c s)=arS rows wd cut c s / 2/\Com (2 * M1 rows wd cut) (qo (ouL rows wd cut c s)):=by
 have pos:=(aeN (cut:=cut) gd hc).2 s hs
 have e:=ald (ps:=ouL rows wd cut c s) pos
 refine⟨e,?_⟩
 obtain⟨N,hN⟩:=adG _ (agI (cut:=cut) gd hc hs)
 refine⟨N,?_⟩
 rw [e,<- hN]
 show yA (prs (ouL rows wd cut c s)) / 2 * _=_
 have:((2 * M1 rows wd cut:Nat):Rat)=2 * ((M1 rows wd cut:Nat):Rat):=Rat.natCast_mul ..
 rw [this]
 grind
end
noncomputable def wL (rows:List (List Int)) (cut:Int) (cs:List Pt):List (Pt×Fl):=cs.flatMap fun c=>(PL (hF rows cut c) (mF rows cut c)).map fun s=>(c,s)
noncomputable def hdF (q:Pt×Fl):Pt:=(pcL q.1 q.2).headD (0,0)
noncomputable def ixF (rs:List (Bool×List Pt)) (p:Pt):Nat:=rs.findIdx fun r=>decide (p∈r.2)
noncomputable def aD (rows:List (List Int)) (wd:Nat) (cut:Int) (q:Pt×Fl):PyData:=aal (qo (ouL rows wd cut q.1 q.2))
noncomputable def inJ (rs:List (Bool×List Pt)) (j:Nat) (q:Pt×Fl):Bool:=decide (ixF rs (hdF q)=j)
noncomputable def abN (rs:List (Bool×List Pt)) (rows:List (List Int)) (wd:Nat) (cut:Int) (l:List (Pt×Fl)):List (List PyData):=(apK rs.length).map fun j=>(l.filter (inJ rs j)).map (aD rows wd cut)
theorem adJ {rs:List (Bool×List Pt)} {rows:List (List Int)} {wd:Nat} {cut:Int} {l:List (Pt×Fl)} {j:Nat} (h:j<rs.length):(abN rs rows wd cut l)[j]?=some ((l.filter (inJ rs j)).map (aD rows wd cut)):=by
 unfold abN
 rw [apt,aqJ h]
 rfl
theorem ajE {rs:List (Bool×List Pt)} {rows:List (List Int)} {wd:Nat} {cut:Int} {l:List (Pt×Fl)} {q:Pt×Fl}:(abN rs rows wd cut l).set (ixF rs (hdF q)) ((l.filter (inJ rs (ixF rs (hdF q)))).map (aD rows wd cut)++[aD rows wd cut q])=abN rs rows wd cut (l++[q]):=by
 have ln:∀ l,(abN rs rows wd cut l).length=rs.length:=fun l=>by unfold abN;rw [api,aqa]
 refine ari fun j=>?_
 by_cases hj:j<rs.length
 ·rw [adJ hj,asE,apQ]
  by_cases e:ixF rs (hdF q)=j
  ·subst e
   rw [ap7 (by rw [ln];exact hj)]
   have:inJ rs (ixF rs (hdF q)) q=true:=decide_eq_true rfl
   rw [aqP,this,if_pos rfl]
   rfl
  ·rw [aqi e,adJ hj]
   have:inJ rs j q=false:=decide_eq_false e
   rw [aqP,this,if_neg apk]
   simp
 ·rw [apR (by rw [aqy,ln];omega),apR (by rw [ln];omega)]
theorem alg {rs:List (Bool×List Pt)} {rows:List (List Int)} {wd:Nat} {cut:Int} {r0:List (List Int)} (h:r0.length=rs.length):(r0.map fun _=>([]:List PyData))=abN rs rows wd cut []:=by
 refine ari fun j=>?_
 by_cases hj:j<rs.length
 ·rw [adJ hj,apt,aph (by omega)]
  rfl
 ·rw [apR (by rw [api];omega),apR (by unfold abN;rw [api,aqa];omega)]
theorem abO:∀ (a b d e m:Bool),∀ s∈PL (a,b,d,e) m,anyF s=true:=by decide
theorem ajF:∀ (a b d e m:Bool),(PL (a,b,d,e) m).length<=3:=by decide
theorem alV {c:Pt} {s:Fl} (h:anyF s=true):∃ l,pcL c s=hdF (c,s) :: l/\hdF (c,s)∈cnL c:=by
 obtain⟨a,b,d,e⟩:=s
 cases a <;> cases b <;> cases d <;> cases e <;> first | (exact absurd h (by decide)) | exact⟨_,rfl,by simp [hdF,pcL,cnL]⟩
noncomputable def csL (rows:List (List Int)) (wd:Nat):List Pt:=jM (rows.length - 1) (wd - 1)
theorem aa2 {rows:List (List Int)} {wd:Nat} {c:Pt} (h:c∈csL rows wd):yy rows wd c=true:=by
 obtain⟨x,hx,h⟩:=aqs.mp h
 obtain⟨y,hy,rfl⟩:=apJ.mp h
 have hx:=apV.mp hx
 have hy:=apV.mp hy
 show yY rows wd (x:Int) (y:Int)=true
 unfold yY yx
 rw [decide_eq_true (by omega),decide_eq_true (by omega),decide_eq_true (by omega),decide_eq_true (by omega)]
 rfl
theorem acB {rows:List (List Int)} {wd:Nat} {cut:Int} {rs:List (Bool×List Pt)} (R:Regs rows wd cut rs) {p:Pt} (hp:inP rows wd p=true):∃ r,rs[ixF rs p]?=some r/\p∈r.2:=by
 obtain⟨r,hr,hm⟩:=R.all p hp
 have lt:ixF rs p<rs.length:=List.findIdx_lt_length_of_exists ⟨r,hr,decide_eq_true hm⟩
 exact⟨rs[ixF rs p],aph lt,of_decide_eq_true (List.findIdx_getElem (w:=lt))⟩
theorem afG {rows:List (List Int)} {cut:Int}:∀ cs:List Pt,(wL rows cut cs).length<=3 * cs.length
 | []=>ap2 _
 | c :: cs=>by
  have:=afG (rows:=rows) (cut:=cut) cs
  have h3:(PL (hF rows cut c) (mF rows cut c)).length<=3:=ajF _ _ _ _ _
  unfold wL at *
  rw [arM,apA,api,apL]
  omega
theorem anw {rows:List (List Int)} {wd:Nat} (g:Good wd rows):(csL rows wd).length<=36:=by
 unfold csL
 rw [v5]
 have h2:=g.h2
 have w2:=g.w2
 exact aqp (show rows.length - 1<=6 by omega) (show wd - 1<=6 by omega)
noncomputable def qsF (rs:List (Bool×List Pt)) (rows:List (List Int)) (wd:Nat) (cut:Int) (j:Nat):List Fr2:=((wL rows cut (csL rows wd)).filter (inJ rs j)).map fun q=>((qo (ouL rows wd cut q.1 q.2)).num,((qo (ouL rows wd cut q.1 q.2)).den:Int))
theorem ajG {rows:List (List Int)} {cut:Int} {cs:List Pt} {q:Pt×Fl} (h:q∈wL rows cut cs):q.1∈cs/\q.2∈PL (hF rows cut q.1) (mF rows cut q.1):=by
 obtain⟨c,hc,h⟩:=aqs.mp h
 obtain⟨s,hs,rfl⟩:=apJ.mp h
 exact⟨hc,hs⟩
theorem alh {n:Nat} {l:List Rat} (h:∀ q∈l,0<q):∀ a:Rat,(∀ q∈l,q<=l.foldl (·+·) a - a)/\a<=l.foldl (·+·) a:=by
 induction l with
 | nil=>exact fun a=>⟨fun q hq=>(nomatch hq),by grind⟩
 | cons x l ih =>
  intro a
  have hx:=h x apo
  obtain⟨h1,h2⟩:=ih (fun q hq=>h q (apl _ hq)) (a+x)
  refine⟨fun q hq=>?_,?_⟩
  ·rcases apq.mp hq with rfl | hq
   ·show q<=l.foldl (·+·) (a+q) - a
    grind
   ·have:=h1 q hq
    show q<=l.foldl (·+·) (a+x) - a
    grind
  ·show a<=l.foldl (·+·) (a+x)
   grind
theorem agJ {rows:List (List Int)} {wd:Nat} {cut:Int} {c:Pt} (gd:Good wd rows) (hc:yy rows wd c=true) {s:Fl} (hs:s∈PL (hF rows cut c) (mF rows cut c)):0<qo (ouL rows wd cut c s)/\qo (ouL rows wd cut c s)<=1:=by
 obtain⟨two,pos⟩:=aeN (cut:=cut) gd hc
 have e:=(afF (cut:=cut) gd hc hs).1
 have p:=pos s hs
 have le:=(alh (n:=0) (l:=(PL (hF rows cut c) (mF rows cut c)).map (arS rows wd cut c)) (fun q hq=>by obtain⟨t,ht,rfl⟩:=apJ.mp hq;exact pos t ht) 0).1 _ (apJ.mpr ⟨s,hs,rfl⟩)
 rw [two] at le
 rw [e]
 constructor <;> grind
theorem anx {q:Rat} (h0:0<q) (h1:q<=1):q.num.natAbs<=q.den:=by
 have e:=(as4 _ _).mp h1
 have n0:0<=q.num:=Rat.num_nonneg.mpr (by grind)
 have e':q.num * ((1:Nat):Int)<=1 * (q.den:Int):=e
 omega
noncomputable abbrev agK (K:apj):Sp:=spN K 2 anj fun c es=>∃ rs,Regs c.1 c.2.1 c.2.2 rs/\rs.length<=49/\es=(apK rs.length).map fun j=>aal (yA (qsF rs c.1 c.2.1 c.2.2 j))
theorem ajH (F:Def K mg "region_areas" jk pz) (uaE:FnIn P w K mg base k "ask_table" pf (ajc K)) (uba:FnIn P w K mg base k "indexes" pz (acy w K)) (uat:FnIn P w K mg base k "regions" pz (adD K)) (ubb:FnIn P w K mg base k "cells" pf (agE K)) (ubc:FnIn P w K mg base k "pieces" pj (aeL K)) (ubd:FnIn P w K mg base k "outline" pT (ajA K)) (ube:FnIn P w K mg base k "field_area" ["around"] (agC K)) (uaF:FnIn P w K mg base k "total" pG (adF K)):FnIn P w K mg base (k+1) "region_areas" pz (agK K):=by
 refine F.okN sc_region_areas rfl fun fa cdv A outer s H E hr=>⟨_,(zd (jQ (zg uaE hr rfl (za (pv 0) zb))) (zd (zK (i:=2) sc_region_areas.nd rfl (Or.inl rfl) (zg uba hr rfl (za (pv 0) (za (pv 1) zb)))) (zd (yO (i:=3) (N:=["region"]) (own:=1) (fr:=[]) ⟨rfl,by decide +kernel,of_decide_eq_true (by kernel_rfl),of_decide_eq_true (by kernel_rfl),of_decide_eq_true (by kernel_rfl),rfl⟩ rfl sc_region_areas.nd rfl (Or.inl rfl) (zW (K:=K) rfl (zg uat hr rfl (za (pv 0) (za (pv 1) zb)))) (fun _ _ _ _=>(zf (i:=0) (show (["region"]:List Str).Nodup by decide +kernel) rfl (Or.inl rfl) (Or.inr rfl))) (fun _ _ _ _=>yr) (fun _ _ _ _=>(yt zb)) rfl rfl (fun _=>rfl) (Or.inl rfl) rfl) (zd (jo ap4 rfl (zW (K:=K) rfl (zg ubb hr rfl (za (pv 0) zb))) (zf (i:=4) sc_region_areas.nd rfl (Or.inl rfl) (Or.inr rfl)) (zm (jo ap4 rfl (zW (K:=K) rfl (zg ubc hr rfl (za (pv 0) (za (pv 1) (za (pv 4) zb))))) (zf (i:=5) sc_region_areas.nd rfl (Or.inl rfl) (Or.inr rfl)) (zm (jQ (adS aqB aqQ aqR qg (zx (zp (K:=K) rfl) (pv 3) (zx (agj (w:=w) (K:=K) rfl rfl hr.units) (pv 2) (zx (zp (K:=K) rfl) (pv 5) zc (fun _ _=>rfl)) (fun _ _=>rfl)) (fun _ _=>rfl)) (za (zg ube hr rfl (za (zg ubd hr rfl (za (pv 0) (za (pv 1) (za (pv 4) (za (pv 5) zb))))) zb)) zb))))))) (zm (zC (yw (N:=pG) (own:=1) (fr:=[]) ⟨rfl,by decide +kernel,of_decide_eq_true (by kernel_rfl),of_decide_eq_true (by kernel_rfl),of_decide_eq_true (by kernel_rfl),rfl⟩ rfl (zW (K:=K) rfl (pv 3)) (fun _ _ _ _=>(zf (i:=0) (show (pG:List Str).Nodup by decide +kernel) rfl (Or.inl rfl) (Or.inr rfl))) (fun _ _ _ _=>yr) (fun _ _ _ _=>(zg uaF hr rfl (za (pv 0) zb))) rfl rfl (fun _=>rfl)))))))),?_⟩
 rintro f xs ⟨rows,wd,cut⟩ hl ⟨rfl,g⟩
 try dsimp only [yn,zo]
 dsimp only at *
 refine aiD (acP (zu (rows,wd) (aaL rfl ⟨rfl,⟨rfl,g⟩,?_⟩)))
 rintro _ rfl
 refine aiD (aiY (amQ (rows,wd,cut) (aak rfl rfl ⟨rfl,⟨rfl,g⟩,?_⟩)))
 rintro _ ⟨rs,kvs,rfl,R,rl,tl⟩
 dsimp only at R
 have cl:=anw g
 have few:∀ (cs:List Pt) (j:Nat),cs.length<=36->((wL rows cut cs).filter (inJ rs j)).length<=108:=fun cs j h=>by
  have:=afG (rows:=rows) (cut:=cut) cs
  exact apO (aqm _ _) (by omega)
 refine am1 (amw (PEdO.ped (acY (rows,wd,cut) (aak rfl rfl ⟨rfl,⟨rfl,g⟩,?_⟩))))
 rintro _ ⟨us,rfl,U,ul⟩
 dsimp only at U
 obtain rfl:=aeE R U
 refine⟨_,rfl,by rw [api];omega,fun _ ns=>ns=[],fun D i d hd=>anU (zU ⟨_,rfl,by show 0<=1000;decide,[],rfl,rfl⟩),fun rows0 hl0 hr0=>⟨fun r hr=>?_,show 3<6 by decide,fun a as=>?_⟩⟩
 ·obtain⟨i,hi⟩:=atn hr
  exact hr0 i r hi
 rw [api] at hl0
 rw [alg (rows:=rows) (wd:=wd) (cut:=cut) hl0]
 refine alO (yz (zu (rows,wd) (aaL rfl ⟨rfl,⟨rfl,g⟩,?_⟩)))
 rintro _ rfl
 dsimp only
 rw [agx]
 refine⟨_,rfl,fun n ρ rows'=>(∃ u v,ρ=[some (.dat (tab rows)),some (.dat (.int cut)),some (.mon (aaK w K kvs)),some (.own f.M.length),u,v])/\rows'=abN rs rows wd cut (wL rows cut ((csL rows wd).take n)),⟨⟨_,_,rfl⟩,rfl⟩,?_,?_⟩
 ·rintro n d _ _ hd ⟨⟨u,v,rfl⟩,rfl⟩
  rw [apt] at hd
  cases hq:(csL rows wd)[n]? with
  | none=>rw [show (jM (rows.length - 1) (wd - 1))[n]?=none from hq] at hd;cases hd
  | some c =>
   rw [show (jM (rows.length - 1) (wd - 1))[n]?=some c from hq] at hd
   cases hd
   have hc:=aa2 (apv hq)
   have tk:(csL rows wd).take (n+1)=(csL rows wd).take n++[c]:=by rw [aqh,hq];rfl
   have tl36:((csL rows wd).take n).length<=36:=by rw [apX];omega
   refine zj (alO (yz (zu (rows,wd,cut,c) (aaM rfl rfl rfl ⟨rfl,⟨rfl,g,hc⟩,?_⟩))))
   rintro _ rfl
   refine⟨_,rfl,fun m ρ rows'=>(∃ v,ρ=[some (.dat (tab rows)),some (.dat (.int cut)),some (.mon (aaK w K kvs)),some (.own f.M.length),some (.dat (pD c)),v])/\rows'=abN rs rows wd cut (wL rows cut ((csL rows wd).take n)++((PL (hF rows cut c) (mF rows cut c)).take m).map fun s=>(c,s)),⟨⟨_,rfl⟩,by rw [asb,aty,apY]⟩,?_,?_⟩
   ·rintro m d _ _ hd ⟨⟨v,rfl⟩,rfl⟩
    rw [apt] at hd
    cases hs':(PL (hF rows cut c) (mF rows cut c))[m]? with
    | none=>dsimp only at hd;rw [hs'] at hd;cases hd
    | some s =>
     dsimp only at hd
     rw [hs'] at hd
     cases hd
     have hs:=apv hs'
     obtain⟨tne,tlen,_⟩:=ajD _ _ _ _ _ s hs
     obtain⟨ps,e1,hm⟩:=alV (c:=c) (abO _ _ _ _ _ s hs)
     obtain⟨r,hr1,hr2⟩:=acB R (aaF hc hm)
     have tk2:(PL (hF rows cut c) (mF rows cut c)).take (m+1)=(PL (hF rows cut c) (mF rows cut c)).take m++[s]:=by rw [aqh,hs'];rfl
     obtain⟨m0,m1⟩:=alU (cut:=cut) g
     have lt:=(apm.mp hr1).1
     refine zj (aow rfl (alI (v_var rfl ⟨kvs,rfl,yL (ze rfl ⟨_,rfl,zB ⟨_,rfl,_,?_,qJ (hdF (c,s)),_,tl _ r _ hr1 hr2,ixF rs (hdF (c,s)),rfl,_,adJ lt,?_,?_⟩⟩)⟩)))
     ·rw [e1]
      exact j5 (F:=pD) (xs:=hdF (c,s) :: ps) (j:=0) rfl (asY _)
     ·rw [api]
      refine aqN (apO (aqm _ _) ?_) (show 200<1000 by decide)
      have h1:=afG (rows:=rows) (cut:=cut) ((csL rows wd).take n)
      have h2:(PL (hF rows cut c) (mF rows cut c)).length<=3:=ajF _ _ _ _ _
      rw [apA,api,apX]
      omega
     ·refine zu (ouL rows wd cut c s,M1 rows wd cut) (zq (zu (rows,wd,cut,c,s) (apb rfl rfl rfl rfl ⟨rfl,⟨rfl,g,hc⟩,?_⟩)))
      rintro _ rfl
      refine zU ⟨rfl,⟨rfl,fun p hp=>?_,fun z=>tne (atu.mp z),?_,m0,aq6 m1 (ap8 (by decide) (by decide)),agI g hc hs⟩,?_⟩
      ·obtain⟨i,_,rfl⟩:=apJ.mp hp
       exact aeM g hc i
      ·unfold ouL
       rw [api]
       exact apO tlen (by decide)
      ·rintro _ rfl
       refine⟨⟨_,rfl⟩,?_⟩
       rw [tk2,apQ,<- aqu]
       exact ajE (q:=(c,s))
   ·rintro ρ' rows' ⟨⟨v,rfl⟩,rfl⟩
    refine⟨⟨_,_,rfl⟩,?_⟩
    rw [api,aqk,tk]
    unfold wL
    rw [aq1]
    simp
 ·rintro ρ' rows' ⟨⟨u,v,rfl⟩,rfl⟩
  rw [api,show (csL rows wd).take (jM (rows.length - 1) (wd - 1)).length=csL rows wd from aqk]
  refine⟨rfl,aog (vq (A:=fun j=>.list (((wL rows cut (csL rows wd)).filter (inJ rs j)).map (aD rows wd cut))) (B:=fun j=>aal (yA (qsF rs rows wd cut j))) (apK rs.length) (yz (ze rfl ⟨_,rfl,?_,by rw [aqa];omega,?_,rs,R,rl,rfl⟩)))⟩
  ·unfold abN
   rw [ap1]
   rfl
  ·rintro D j ρ' es hj ho hes
   obtain⟨u,rfl⟩:=ho.one
   refine zj (jC ?_)
   rw [if_pos rfl]
   obtain⟨m0,m1⟩:=alU (cut:=cut) g
   have m2:2 * M1 rows wd cut<2 ^ 3201:=by
    rw [show 2 ^ 3201=2 ^ 3200 * 2 from asv ..]
    generalize 2 ^ 3200=Z at *
    omega
   clear m1
   refine yE hes (zu (qsF rs rows wd cut j,2 * M1 rows wd cut,3300,0) (aaL rfl ⟨rfl,⟨?_,atP (by decide) m0,aq6 m2 (ap8 (by decide) (by decide)),fun p hp=>?_,by show 3300<=3500;decide,?_⟩,?_⟩))
   ·unfold qsF
    rw [ap1]
    rfl
   ·obtain⟨q,hq,rfl⟩:=apJ.mp hp
    obtain⟨h1,h2⟩:=ajG (ap9.mp hq).1
    have hc:=aa2 h1
    obtain⟨p0,p1⟩:=agJ (cut:=cut) g hc h2
    have cm:=(afF (cut:=cut) g hc h2).2
    have dl:=cm.den (by omega)
    have nl:=anx p0 p1
    have dp:=(qo (ouL rows wd cut q.1 q.2)).den_pos
    have e33:2 ^ 3201<2 ^ 3300:=ap8 (by decide) (by decide)
    generalize 2 ^ 3201=X at *
    generalize 2 ^ 3300=Y at *
    refine⟨by dsimp only;omega,by dsimp only;omega,by dsimp only;omega,?_⟩
    rw [arA]
    exact cm
   ·show (qsF rs rows wd cut j).length<=1000
    unfold qsF
    rw [api]
    exact apO (few _ j cl) (by decide)
   ·rintro _ rfl
    exact⟨.mk1,rfl⟩
noncomputable def sm:List Rat->Rat
 | []=>0
 | a :: l=>a+sm l
theorem agL:∀ (l:List Rat) (a:Rat),l.foldl (·+·) a=a+sm l
 | [],a=>by show a=a+0;grind
 | b :: l,a=>by
  show l.foldl (·+·) (a+b)=a+(b+sm l)
  rw [agL l (a+b)]
  grind
theorem ali (l:List Fr2):yA l=sm (l.map fun p=>apG p.1 p.2):=by
 unfold yA
 rw [abM,agL]
 grind
theorem ajI:∀ {l:List Rat},(∀ q∈l,0<q)->l≠[]->0<sm l
 | [],_,z=>absurd rfl z
 | [a],h,_=>by have:=h a apo;show 0<a+0;grind
 | a :: b :: l,h,_=>by
  have h1:=h a apo
  have h2:=ajI (l:=b :: l) (fun q hq=>h q (apl _ hq)) (List.cons_ne_nil _ _)
  show 0<a+sm (b :: l)
  grind
section
variable {rows:List (List Int)} {wd:Nat} {cut:Int} {rs:List (Bool×List Pt)}
noncomputable def arQ (rows:List (List Int)) (wd:Nat) (cut:Int) (q:Pt×Fl):Rat:=qo (ouL rows wd cut q.1 q.2)
noncomputable def ArQ (rs:List (Bool×List Pt)) (rows:List (List Int)) (wd:Nat) (cut:Int) (j:Nat):Rat:=yA (qsF rs rows wd cut j)
theorem ajJ (j:Nat):ArQ rs rows wd cut j=sm (((wL rows cut (csL rows wd)).filter (inJ rs j)).map (arQ rows wd cut)):=by
 unfold ArQ
 rw [ali]
 unfold qsF
 rw [ap1]
 congr 1
 refine aql fun q _=>?_
 exact arA _
noncomputable def aeO (h:Fl) (m:Bool) (a b:Fin 4):Bool:=(decide (b=a+1 \/ a=b+1) && (flF h a == flF h b)) || (aeK h && ((m == flF h a) && decide (b=a+2)))
theorem aoV:∀ (p q r s m:Bool),∀ f∈PL (p,q,r,s) m,∀ a b:Fin 4,flF f a=true->flF f b=true->a=b \/ aeO (p,q,r,s) m a b=true \/ ∃ d,aeO (p,q,r,s) m a d=true/\aeO (p,q,r,s) m d b=true:=by decide
theorem ape:∀ (p q r s m:Bool) (k:Fin 4),∃ f∈PL (p,q,r,s) m,flF f k=true:=by decide
theorem acC (c:Pt) (k:Fin 4):hiP rows cut (cnF c k)=flF (hF rows cut c) k:=by
 match k with
 | 0=>rfl | 1=>rfl | 2=>rfl | 3=>rfl
theorem abP (c:Pt) (k:Fin 4):cnF c k∈cnL c:=by
 match k with
 | 0=>simp [cnF,cnL] | 1=>simp [cnF,cnL] | 2=>simp [cnF,cnL] | 3=>simp [cnF,cnL]
theorem qr {c:Pt} (hc:yy rows wd c=true) {a b:Fin 4} (h:aeO (hF rows cut c) (mF rows cut c) a b=true):cnF c b∈jn rows wd cut (cnF c a):=by
 unfold aeO at h
 rw [Bool.or_eq_true,apu,apu,apu] at h
 rcases h with⟨h1,h2⟩ | ⟨h1,h2,h3⟩
 ·refine mem_join.mpr (.inl ⟨?_,aaF hc (abP c b),?_⟩)
  ·have h1:=of_decide_eq_true h1
   obtain⟨x,y⟩:=c
   rw [afx]
   clear h2 hc
   rcases ahO a with rfl | rfl | rfl | rfl <;> rcases ahO b with rfl | rfl | rfl | rfl <;> first | exact absurd h1 (by decide) | simp [cnF]
  ·rw [acC,acC]
   exact (beq_iff_eq.mp h2).symm
 ·refine mem_join.mpr (.inr ⟨c,?_,hc,by rw [adH hc];exact h1,by rw [acC];exact beq_iff_eq.mp h2,?_⟩)
  ·rw [afy]
   match a with
   | 0=>simp [cnF] | 1=>simp [cnF] | 2=>simp [cnF] | 3=>simp [cnF]
  ·obtain rfl:=of_decide_eq_true h3
   obtain⟨x,y⟩:=c
   match a with
   | 0=>simp [cnF,asl];omega
   | 1=>simp [cnF,asl];omega
   | 2=>simp [cnF,asl];omega
   | 3=>simp [cnF,asl];omega
theorem ajK {c:Pt} {s:Fl} (h:anyF s=true):∃ k,hdF (c,s)=cnF c k/\flF s k=true:=by
 obtain⟨a,b,d,e⟩:=s
 cases a
 ·cases b
  ·cases d
   ·cases e
    ·exact absurd h (by decide)
    ·exact⟨3,rfl,rfl⟩
   ·exact⟨2,rfl,rfl⟩
  ·exact⟨1,rfl,rfl⟩
 ·exact⟨0,rfl,rfl⟩
theorem alj (gd:Good wd rows) (R:Regs rows wd cut rs) {j:Nat} {r:Bool×List Pt} (hj:rs[j]?=some r):∃ q∈wL rows cut (csL rows wd),inJ rs j q=true:=by
 obtain⟨p,G⟩:=R.reg r (apv hj)
 obtain⟨x0,x1,y0,y1⟩:=yZ G.inn
 have h1:=gd.h1
 have w1:=gd.w1
 obtain⟨c,k,hc,hk⟩:∃ c k,c∈csL rows wd/\p=cnF c k:=by
  have mk:∀ x y:Int,0<=x->x+1<wd->0<=y->y+1<rows.length->(x,y)∈csL rows wd:=fun x y a b d e=>by
   obtain⟨x,rfl⟩:=aqD a
   obtain⟨y,rfl⟩:=aqD d
   exact aqs.mpr ⟨x,apV.mpr (by omega),apJ.mpr ⟨y,apV.mpr (by omega),rfl⟩⟩
  obtain⟨x,y⟩:=p
  dsimp only at x0 x1 y0 y1
  by_cases hx:x+1<wd
  ·by_cases hy:y+1<rows.length
   ·exact⟨(x,y),0,mk x y x0 hx y0 hy,rfl⟩
   ·exact⟨(x,y - 1),3,mk x (y - 1) x0 hx (by omega) (by omega),by simp [cnF]⟩
  ·by_cases hy:y+1<rows.length
   ·exact⟨(x - 1,y),1,mk (x - 1) y (by omega) (by omega) y0 hy,by simp [cnF]⟩
   ·exact⟨(x - 1,y - 1),2,mk (x - 1) (y - 1) (by omega) (by omega) (by omega) (by omega),by simp [cnF]⟩
 have hcc:=aa2 hc
 obtain⟨s,hs,fk⟩:=ape (hiB rows cut c.1 c.2) (hiB rows cut (c.1+1) c.2) (hiB rows cut (c.1+1) (c.2+1)) (hiB rows cut c.1 (c.2+1)) (mF rows cut c) k
 obtain⟨k0,e0,f0⟩:=ajK (c:=c) (abO _ _ _ _ _ s hs)
 have rc:Reach rows wd cut p (hdF (c,s)):=by
  rw [hk,e0]
  rcases aoV _ _ _ _ _ s hs k k0 fk f0 with e | e | ⟨d,e1,e2⟩
  ·rw [e];exact .refl
  ·exact .step .refl (qr hcc e)
  ·exact .step (.step .refl (qr hcc e1)) (qr hcc e2)
 have hin:=(G.mem _).mpr rc
 obtain⟨_,_,hm⟩:=alV (c:=c) (abO _ _ _ _ _ s hs)
 obtain⟨r',hr',hm'⟩:=acB R (aaF hcc hm)
 exact⟨(c,s),aqs.mpr ⟨c,hc,apJ.mpr ⟨s,hs,rfl⟩⟩,decide_eq_true (adE R hr' hj hm' hin)⟩
theorem ajL (gd:Good wd rows) (R:Regs rows wd cut rs) {j:Nat} (hj:j<rs.length):0<ArQ rs rows wd cut j:=by
 rw [ajJ]
 refine ajI (fun q hq=>?_) fun z=>?_
 ·obtain⟨t,ht,rfl⟩:=apJ.mp hq
  obtain⟨h1,h2⟩:=ajG (ap9.mp ht).1
  exact (agJ (cut:=cut) gd (aa2 h1) h2).1
 ·obtain⟨q,hq,hi⟩:=alj gd R (aph hj)
  have:q∈(wL rows cut (csL rows wd)).filter (inJ rs j):=ap9.mpr ⟨hq,hi⟩
  rw [atu.mp z] at this
  cases this
end
noncomputable def eF (t0 t1 t2 t3:Rat) (k:Fin 4) (nx:Bool):Rat:=match k,nx with
 | 0,false=>t1 | 0,true=>t0 | 1,false=>1 - t0 | 1,true=>t3 | 2,false=>1 - t3 | 2,true=>1 - t2 | 3,false=>t2 | 3,true=>1 - t1
noncomputable def arK (e:Fin 4->Bool->Rat) (p:Fin 4×Bool):Rat:=match p.2 with
 | false=>e p.1 false * e p.1 true / 2
 | true=>(e p.1 false+e (p.1+1) true) / 2
noncomputable def c1F (h:Fl) (m:Bool) (k:Fin 4):Bool:=((flF h k != flF h (k+3)) && (flF h k != flF h (k+1))) && ((flF h k != flF h (k+2)) || (flF h k != m))
noncomputable def c2F (h:Fl) (k:Fin 4):Bool:=flF h k && (flF h (k+1) && ((!flF h (k+3)) && !flF h (k+2)))
noncomputable def stF (h:Fl) (m:Bool) (k:Fin 4):List (Fin 4×Bool):=(if c1F h m k=true then [(k,false)] else [])++(if c2F h k=true then [(k,true)] else [])
noncomputable def fin4:List (Fin 4):=[0,1,2,3]
noncomputable def fdF (h:Fl) (m:Bool) (n:Nat):List (Fin 4×Bool):=(fin4.take n).flatMap (stF h m)
noncomputable def lfS (h:Fl) (m:Bool) (l:List (Fin 4)) (k:Fin 4):List (Fin 4):=if c2F h k=true then [k+2] else if c1F h m k=true then l.erase k else l
noncomputable def lfF (h:Fl) (m:Bool) (n:Nat):List (Fin 4):=(fin4.take n).foldl (lfS h m) fin4
noncomputable def aab (e:Fin 4->Bool->Rat) (l:List (Fin 4×Bool)):Rat:=l.foldl (fun q p=>q - arK e p) 1
noncomputable def LPq (h:Fl) (m:Bool) (e:Fin 4->Bool->Rat):List (Fin 4×Rat):=(fdF h m 4).map (fun p=>(p.1,arK e p))++[((lfF h m 4).headD 0,aab e (fdF h m 4))]
noncomputable def zR (h:Fl) (m:Bool) (k:Fin 4):Fl:=((PL h m).find? fun s=>flF s k).getD (false,false,false,false)
theorem aoW (h0 h1 h2 h3 m:Bool) (t0 t1 t2 t3:Rat):((LPq (h0,h1,h2,h3) m (eF t0 t1 t2 t3)).map fun p=>(zR (h0,h1,h2,h3) m p.1,p.2)).Perm ((PL (h0,h1,h2,h3) m).map fun s=>(s,shT (XX 0 t0 t2) (YY 0 t1 t3) (qq (h0,h1,h2,h3) s) / 2)):=by
 cases h0 <;> cases h1 <;> cases h2 <;> cases h3 <;> cases m <;>
  simp [LPq,fdF,fin4,stF,c1F,c2F,lfF,lfS,aab,arK,eF,zR,flF,PL,aeK,sgl,aaq,anyF,qq,shT,XX,YY,as5,arB,atF,Rat.mul_zero,Rat.one_mul,Rat.mul_one] <;>
  first
  | grind
  | (refine pm1 ?_;simp;grind)
  | (refine pm2 (.inl ⟨?_,?_⟩) <;> (simp;try grind);done)
  | (refine pm2 (.inr ⟨?_,?_⟩) <;> (simp;try grind);done)
  | (refine pm3 (.inl ⟨?_,?_,?_⟩) <;> (simp;try grind);done)
  | (refine pm3 (.inr ⟨?_,?_,?_⟩) <;> (simp;try grind);done)
theorem apf (h0 h1 h2 h3 m:Bool) (x y t0 t1 t2 t3:Rat):((LPq (h0,h1,h2,h3) m (eF t0 t1 t2 t3)).map fun p=>(zR (h0,h1,h2,h3) m p.1,p.2)).Perm ((PL (h0,h1,h2,h3) m).map fun s=>(s,shT (XX x t0 t2) (YY y t1 t3) (qq (h0,h1,h2,h3) s) / 2)):=by
 simp only [agD x y]
 exact aoW h0 h1 h2 h3 m t0 t1 t2 t3
section
variable {w:World} {K:apj} {f:Fx} {Ds:List Addr} {ρ:zr} {cs:List OC} {ta tb:TE} {P:PyData->Prop}
theorem alW {K:apj} {f:Fx} {ρ:zr} {tt tu:L2.TT} {B:Bool->Prop} (b c:Bool) (h1:PTd K f tt ρ fun x=>x=b) (h2:b=false->PTd K f tu ρ fun x=>x=c) (p:B (b || c)):PTd K f (tOr tt tu) ρ B:=by
 refine akd (h1.imp fun x ex=>?_)
 subst ex
 cases x with
 | true=>rw [if_pos rfl];exact p
 | false=>rw [if_neg apk];exact (h2 rfl).imp fun y ey=>by subst ey;exact p
theorem adK {K:apj} {f:Fx} {ρ:zr} {tt tu:L2.TT} {B:Bool->Prop} (b c:Bool) (h1:PTd K f tt ρ fun x=>x=b) (h2:b=true->PTd K f tu ρ fun x=>x=c) (p:B (b && c)):PTd K f (al8 tt tu) ρ B:=by
 refine adX (h1.imp fun x ex=>?_)
 subst ex
 cases x with
 | true=>rw [if_pos rfl];exact (h2 rfl).imp fun y ey=>by subst ey;exact p
 | false=>rw [if_neg apk];exact p
theorem anz {K:apj} {f:Fx} {ρ:zr} {ta tb:TE} {P:PyData->Prop} (b c:Bool) (h1:PEd K f ta ρ fun x=>x=.bool b) (h2:b=true->PEd K f tb ρ fun x=>x=.bool c) (p:P (.bool (b && c))):PEd K f (ahZ ta tb) ρ P:=by
 refine acO (h1.imp fun x ex=>⟨b,ex,?_⟩)
 cases b with
 | true=>rw [if_pos rfl];exact (h2 rfl).imp fun y ey=>by subst ey;exact p
 | false=>rw [if_neg apk];exact p
theorem ajM {K:apj} {f:Fx} {ρ:zr} {tt:L2.TT} {B:Bool->Prop} (b:Bool) (h1:PTd K f tt ρ fun x=>x=b) (p:B (!b)):PTd K f (al9 tt) ρ B:=ach (h1.imp fun x ex=>by subst ex;exact p)
end
noncomputable abbrev ab (i:Int):Int:=if i<0 then -i else i
noncomputable def shP (cut a b:Int):Int×Int:=(ab (2 * cut+1 - 2 * a),2 * ab (b - a))
theorem qP {i:Int} (h:i.natAbs<2 ^ 200):i.natAbs<jx:=yU h (by decide)
noncomputable def Bz (B:Nat) (p:Int×Int):Prop:=p.1.natAbs<2 ^ B/\0<p.2/\p.2.natAbs<2 ^ B
theorem Bz.up {B C:Nat} {p:Int×Int} (h:Bz B p) (hc:B<=C):Bz C p:=⟨apF h.1 (aqe (by decide) hc),h.2.1,apF h.2.2 (aqe (by decide) hc)⟩
theorem qQ {a b:Int} {A B:Nat} (ha:a.natAbs<2 ^ A) (hb:b.natAbs<2 ^ B):(a * b).natAbs<2 ^ (A+B):=by
 rw [aq9,asJ]
 exact Nat.mul_lt_mul'' ha hb
theorem alX {a b:Int} {A:Nat} (ha:a.natAbs<2 ^ A) (hb:b.natAbs<2 ^ A):(a+b).natAbs<2 ^ (A+1)/\(a - b).natAbs<2 ^ (A+1):=by
 rw [asv]
 generalize 2 ^ A=Z at *
 constructor <;> omega
theorem aeP {cut a b:Int} (hc:-10000000000<=cut/\cut<=10000000000) (ha:-1000000000<=a/\a<=1000000000) (hb:-1000000000<=b/\b<=1000000000):(shP cut a b).1.natAbs<2 ^ 35/\(shP cut a b).2.natAbs<2 ^ 35/\0<=(shP cut a b).1/\(a≠b->0<(shP cut a b).2):=by
 unfold shP ab
 dsimp only
 refine⟨?_,?_,?_,fun h=>?_⟩
 ·show _<34359738368;split <;> omega
 ·show _<34359738368;split <;> omega
 ·split <;> omega
 ·split <;> omega
noncomputable def jm (f:Fin 4->Int):List PyData:=[.int (f 0),.int (f 1),.int (f 2),.int (f 3)]
theorem agM (f:Fin 4->Int) (k:Fin 4):atI (jm f) ((k.val:Nat):Int)=some (.int (f k))/\atI (jm f) (((k.val:Nat):Int) - 1)=some (.int (f (k+3)))/\atI (jm f) ((((k.val:Nat):Int)+1) % 4)=some (.int (f (k+1)))/\atI (jm f) ((((k.val:Nat):Int)+2) % 4)=some (.int (f (k+2))):=by
 match k with
 | 0=>exact⟨rfl,rfl,rfl,rfl⟩
 | 1=>exact⟨rfl,rfl,rfl,rfl⟩
 | 2=>exact⟨rfl,rfl,rfl,rfl⟩
 | 3=>exact⟨rfl,rfl,rfl,rfl⟩
noncomputable def yI (b:Fin 4->Bool):List PyData:=[.bool (b 0),.bool (b 1),.bool (b 2),.bool (b 3)]
theorem alk (f:Fin 4->Bool) (k:Fin 4):atI (yI f) ((k.val:Nat):Int)=some (.bool (f k))/\atI (yI f) (((k.val:Nat):Int) - 1)=some (.bool (f (k+3)))/\atI (yI f) ((((k.val:Nat):Int)+1) % 4)=some (.bool (f (k+1)))/\atI (yI f) ((((k.val:Nat):Int)+2) % 4)=some (.bool (f (k+2))):=by
 match k with
 | 0=>exact⟨rfl,rfl,rfl,rfl⟩
 | 1=>exact⟨rfl,rfl,rfl,rfl⟩
 | 2=>exact⟨rfl,rfl,rfl,rfl⟩
 | 3=>exact⟨rfl,rfl,rfl,rfl⟩
noncomputable abbrev Frm:=(Fin 4->Int)×Int
noncomputable abbrev okF (c:Frm):Prop:=(∀ k,-1000000000<=c.1 k/\c.1 k<=1000000000)/\-10000000000<=c.2/\c.2<=10000000000
noncomputable def arP (c:Frm) (p:Fin 4×Bool):Int×Int:=match p.2 with
 | false=>((shP c.2 (c.1 p.1) (c.1 (p.1+3))).1 * (shP c.2 (c.1 p.1) (c.1 (p.1+1))).1,2 * (shP c.2 (c.1 p.1) (c.1 (p.1+3))).2 * (shP c.2 (c.1 p.1) (c.1 (p.1+1))).2)
 | true=>((shP c.2 (c.1 p.1) (c.1 (p.1+3))).1 * (shP c.2 (c.1 (p.1+1)) (c.1 (p.1+2))).2+(shP c.2 (c.1 (p.1+1)) (c.1 (p.1+2))).1 * (shP c.2 (c.1 p.1) (c.1 (p.1+3))).2,2 * (shP c.2 (c.1 p.1) (c.1 (p.1+3))).2 * (shP c.2 (c.1 (p.1+1)) (c.1 (p.1+2))).2)
noncomputable abbrev abQ (K:apj):Sp:=spD K 3 (fun (c:Int×Int×Int) xs=>xs=[.dat (.int c.1),.dat (.int c.2.1),.dat (.int c.2.2)]/\c.1.natAbs<2 ^ 40/\c.2.1.natAbs<2 ^ 40/\c.2.2.natAbs<2 ^ 40) fun c r=>r=frD (shP c.2.2 c.1 c.2.1)
theorem ahP (F:Def K mg "_law_share" jZ pP) (uac:mg "abs"=none):FnIn P w K mg base (k+1) "_law_share" pP (abQ K):=by
 refine F.ok sc_law_share rfl fun fa cdv A outer s H E hr=>⟨_,(zd (zK (i:=3) sc_law_share.nd rfl (Or.inl rfl) (zM (j9) rfl uac aqM (za (zl yh (zl zO (zl zQ zc (pv 2)) zc) (zl zQ zc (pv 0))) zb))) (zm (zC (zG (za (pv 3) (za (zl zQ zc (zM (j9) rfl uac aqM (za (zl yh (pv 1) (pv 0)) zb))) zb)))))),?_⟩
 rintro f xs ⟨a,b,cut⟩ hl ⟨rfl,ha,hb,hc⟩
 try dsimp only [yn,zo]
 dsimp only at *
 have s2:(2:Int).natAbs<jx:=qP (by decide)
 have up:∀ {i:Int},i.natAbs<2 ^ 40->i.natAbs<jx:=fun h=>qP (aq6 h (ap8 (by decide) (by decide)))
 have hd:(ab (b - a)).natAbs<jx:=by
  refine qP (apF (m:=2 ^ 41) ?_ (aqe (by decide) (by decide)))
  have e:2 ^ 41=2 ^ 40 * 2:=asv ..
  rw [e]
  unfold ab
  generalize 2 ^ 40=Z at *
  split <;> omega
 refine zS (zV (abc (zq (yK (yK (zP (zB ⟨_,rfl,ze rfl ⟨_,rfl,⟨s2,up hc⟩,_,rfl,zB ⟨_,rfl,_,rfl,zP (zB ⟨_,rfl,ze rfl ⟨_,rfl,⟨s2,up ha⟩,_,rfl,zU ⟨_,rfl,zj ?_⟩⟩⟩)⟩⟩⟩)))))))
 refine yB (y9 (zq (ze rfl (zq (zP (zB ⟨_,rfl,abc (zq (yK (ze rfl ⟨_,rfl,ze rfl ⟨_,rfl,zU ⟨_,rfl,_,rfl,⟨s2,hd⟩,zU ⟨_,rfl,by show 2<=1000;decide,rfl⟩⟩⟩⟩)))⟩))))))
noncomputable abbrev adL (K:apj) (q:Bool):Sp:=spD K 3 (fun (c:Frm×Fin 4) xs=>xs=[.dat (.list (jm c.1.1)),.dat (.int (c.2.val:Nat)),.dat (.int c.1.2)]/\okF c.1) fun c r=>r=frD (arP c.1 (c.2,q))
theorem alm (F:Def K mg "_law_corner" jL pC) (uav:FnIn P w K mg base k "_law_share" pP (abQ K)):FnIn P w K mg base (k+1) "_law_corner" pC (adL K false):=by
 refine F.ok sc_law_corner rfl fun fa cdv A outer s H E hr=>⟨_,(zd (zK (i:=3) sc_law_corner.nd rfl (Or.inl rfl) (zg uav hr rfl (za (zx (zp (K:=K) rfl) (pv 0) (pv 1) (fun _ _=>rfl)) (za (zx (zp (K:=K) rfl) (pv 0) (zl yh (pv 1) zc) (fun _ _=>rfl)) (za (pv 2) zb))))) (zd (zK (i:=4) sc_law_corner.nd rfl (Or.inl rfl) (zg uav hr rfl (za (zx (zp (K:=K) rfl) (pv 0) (pv 1) (fun _ _=>rfl)) (za (zx (zp (K:=K) rfl) (pv 0) (zl yV (zl zO (pv 1) zc) zc) (fun _ _=>rfl)) (za (pv 2) zb))))) (zm (zC (zG (za (zl zQ (zx (zZ (K:=K) rfl) (pv 3) zc (fun _ _=>rfl)) (zx (zZ (K:=K) rfl) (pv 4) zc (fun _ _=>rfl))) (za (zl zQ (zl zQ zc (zx (zZ (K:=K) rfl) (pv 3) zc (fun _ _=>rfl))) (zx (zZ (K:=K) rfl) (pv 4) zc (fun _ _=>rfl))) zb))))))),?_⟩
 rintro f xs ⟨⟨g,cut⟩,q⟩ hl ⟨rfl,hg,hc⟩
 try dsimp only [yn,zo]
 dsimp only at *
 obtain⟨f0,f1,f2,f3⟩:=agM g q
 have sb:∀ a b,(shP cut (g a) (g b)).1.natAbs<2 ^ 35/\(shP cut (g a) (g b)).2.natAbs<2 ^ 35:=fun a b=>⟨(aeP hc (hg a) (hg b)).1,(aeP hc (hg a) (hg b)).2.1⟩
 have b40:∀ a,(g a).natAbs<2 ^ 40:=fun a=>by have:=hg a;show _<1099511627776;omega
 have c40:cut.natAbs<2 ^ 40:=by show _<1099511627776;omega
 have s2:(2:Int).natAbs<jx:=qP (by decide)
 have up:∀ {i:Int},i.natAbs<2 ^ 35->i.natAbs<jx:=fun h=>qP (aq6 h (ap8 (by decide) (by decide)))
 refine zS (zV (zu (g q,g (q+3),cut) (zq (yL (ze rfl ⟨_,rfl,ze rfl ⟨_,rfl,_,f0,zq (yL (ze rfl ⟨_,rfl,yK (ze rfl ⟨_,rfl,zB ⟨_,rfl,_,rfl,_,f1,zq (ze rfl (zU ⟨rfl,⟨rfl,b40 _,b40 _,c40⟩,?_⟩))⟩⟩)⟩))⟩⟩)))))
 rintro _ rfl
 refine zj (zS (zV (zu (g q,g (q+1),cut) (zq (yL (ze rfl ⟨_,rfl,ze rfl ⟨_,rfl,_,f0,zq (yL (ze rfl ⟨_,rfl,?_⟩))⟩⟩))))))
 walk_at "w"
 refine⟨_,f2,zq (ze rfl (zU ⟨rfl,⟨rfl,b40 _,b40 _,c40⟩,?_⟩))⟩
 rintro _ rfl
 have m2:(2 * (shP cut (g q) (g (q+3))).2).natAbs<jx:=qP (aq6 (qQ (A:=2) (B:=35) (by decide) (sb _ _).2) (ap8 (by decide) (by decide)))
 unfold frD
 refine zj (yB (y9 (zq (zP (yP (ze rfl ⟨_,rfl,zB ⟨_,rfl,_,rfl,_,rfl,yP (ze rfl ⟨_,rfl,zB ⟨_,rfl,_,rfl,_,rfl,⟨up (sb _ _).1,up (sb _ _).1⟩,?_⟩⟩)⟩⟩))))))
 refine zq (zP (zP (zB ⟨_,rfl,yP (ze rfl ⟨_,rfl,zB ⟨_,rfl,_,rfl,_,rfl,⟨s2,up (sb _ _).2⟩,_,rfl,yP (ze rfl ⟨_,rfl,zB ⟨_,rfl,_,rfl,_,rfl,⟨m2,up (sb _ _).2⟩,zU ⟨_,rfl,by show 2<=1000;decide,rfl⟩⟩⟩)⟩⟩)⟩)))
theorem anA (F:Def K mg "_law_two" vg pC) (uav:FnIn P w K mg base k "_law_share" pP (abQ K)):FnIn P w K mg base (k+1) "_law_two" pC (adL K true):=by
 refine F.ok sc_law_two rfl fun fa cdv A outer s H E hr=>⟨_,(zd (zK (i:=3) sc_law_two.nd rfl (Or.inl rfl) (zg uav hr rfl (za (zx (zp (K:=K) rfl) (pv 0) (pv 1) (fun _ _=>rfl)) (za (zx (zp (K:=K) rfl) (pv 0) (zl yh (pv 1) zc) (fun _ _=>rfl)) (za (pv 2) zb))))) (zd (zK (i:=4) sc_law_two.nd rfl (Or.inl rfl) (zg uav hr rfl (za (zx (zp (K:=K) rfl) (pv 0) (zl yV (zl zO (pv 1) zc) zc) (fun _ _=>rfl)) (za (zx (zp (K:=K) rfl) (pv 0) (zl yV (zl zO (pv 1) zc) zc) (fun _ _=>rfl)) (za (pv 2) zb))))) (zm (zC (zG (za (zl zO (zl zQ (zx (zZ (K:=K) rfl) (pv 3) zc (fun _ _=>rfl)) (zx (zZ (K:=K) rfl) (pv 4) zc (fun _ _=>rfl))) (zl zQ (zx (zZ (K:=K) rfl) (pv 4) zc (fun _ _=>rfl)) (zx (zZ (K:=K) rfl) (pv 3) zc (fun _ _=>rfl)))) (za (zl zQ (zl zQ zc (zx (zZ (K:=K) rfl) (pv 3) zc (fun _ _=>rfl))) (zx (zZ (K:=K) rfl) (pv 4) zc (fun _ _=>rfl))) zb))))))),?_⟩
 rintro f xs ⟨⟨g,cut⟩,q⟩ hl ⟨rfl,hg,hc⟩
 try dsimp only [yn,zo]
 dsimp only at *
 obtain⟨f0,f1,f2,f3⟩:=agM g q
 have sb:∀ a b,(shP cut (g a) (g b)).1.natAbs<2 ^ 35/\(shP cut (g a) (g b)).2.natAbs<2 ^ 35:=fun a b=>⟨(aeP hc (hg a) (hg b)).1,(aeP hc (hg a) (hg b)).2.1⟩
 have b40:∀ a,(g a).natAbs<2 ^ 40:=fun a=>by have:=hg a;show _<1099511627776;omega
 have c40:cut.natAbs<2 ^ 40:=by show _<1099511627776;omega
 have s2:(2:Int).natAbs<jx:=qP (by decide)
 have up:∀ {i:Int},i.natAbs<2 ^ 35->i.natAbs<jx:=fun h=>qP (aq6 h (ap8 (by decide) (by decide)))
 refine zS (zV (zu (g q,g (q+3),cut) (zq (yL (ze rfl ⟨_,rfl,ze rfl ⟨_,rfl,_,f0,zq (yL (ze rfl ⟨_,rfl,yK (ze rfl ⟨_,rfl,zB ⟨_,rfl,_,rfl,_,f1,zq (ze rfl (zU ⟨rfl,⟨rfl,b40 _,b40 _,c40⟩,?_⟩))⟩⟩)⟩))⟩⟩)))))
 rintro _ rfl
 refine zj (zS (zV (zu (g (q+1),g (q+2),cut) (zq (yL (ze rfl ⟨_,rfl,?_⟩))))))
 walk_at "w"
 refine⟨_,f2,zq (yL (ze rfl ⟨_,rfl,?_⟩))⟩
 walk_at "w"
 refine⟨_,f3,zq (ze rfl (zU ⟨rfl,⟨rfl,b40 _,b40 _,c40⟩,?_⟩))⟩
 rintro _ rfl
 have m2:(2 * (shP cut (g q) (g (q+3))).2).natAbs<jx:=qP (aq6 (qQ (A:=2) (B:=35) (by decide) (sb _ _).2) (ap8 (by decide) (by decide)))
 unfold frD
 refine zj (yB (y9 (zq (yK (zP (yP (ze rfl ⟨_,rfl,zB ⟨_,rfl,_,rfl,_,rfl,yP (ze rfl ⟨_,rfl,zB ⟨_,rfl,_,rfl,_,rfl,⟨up (sb _ _).1,up (sb _ _).2⟩,_,rfl,zP (yP (ze rfl ⟨_,rfl,zB ⟨_,rfl,_,rfl,_,rfl,yP (ze rfl ⟨_,rfl,zB ⟨_,rfl,_,rfl,_,rfl,⟨up (sb _ _).1,up (sb _ _).2⟩,_,rfl,?_⟩⟩)⟩⟩))⟩⟩)⟩⟩)))))))
 refine zq (zP (zP (zB ⟨_,rfl,yP (ze rfl ⟨_,rfl,zB ⟨_,rfl,_,rfl,_,rfl,⟨s2,up (sb _ _).2⟩,_,rfl,yP (ze rfl ⟨_,rfl,zB ⟨_,rfl,_,rfl,_,rfl,⟨m2,up (sb _ _).2⟩,zU ⟨_,rfl,by show 2<=1000;decide,rfl⟩⟩⟩)⟩⟩)⟩)))
noncomputable def rsP (a b:Int×Int):Int×Int:=(a.1 * b.2 - b.1 * a.2,a.2 * b.2)
noncomputable def frQ (p:Int×Int):Rat:=apG p.1 p.2
theorem vm {c:Int} (h:0<c):((c:Int):Rat)≠0:=fun z=>by
 have:=asX.mp z
 omega
theorem aln {a b c d:Int} (hc:0<c) (hd:0<d):apG (a * b) (2 * c * d)=apG a c * apG b d / 2:=by
 have h1:=vm hc
 have h2:=vm hd
 rw [apM,apM,apM,ap5,ap5,ap5]
 have:((2:Int):Rat)=2:=rfl
 rw [this]
 grind
theorem anB {a b c d:Int} (hc:0<c) (hd:0<d):apG (a * d+b * c) (2 * c * d)=(apG a c+apG b d) / 2:=by
 have h1:=vm hc
 have h2:=vm hd
 rw [apM,apM,apM,arE,ap5,ap5,ap5,ap5]
 have:((2:Int):Rat)=2:=rfl
 rw [this]
 grind
theorem alo {a b c d:Int} (hb:0<b) (hd:0<d):apG (a * d - c * b) (b * d)=apG a b - apG c d:=by
 have h1:=vm hb
 have h2:=vm hd
 rw [apM,apM,apM,asu,ap5,ap5,ap5]
 grind
noncomputable def hOf (c:Frm):Fl:=(decide (c.2<c.1 0),decide (c.2<c.1 1),decide (c.2<c.1 2),decide (c.2<c.1 3))
noncomputable def mOf (c:Frm):Bool:=decide (4 * c.2+2<=c.1 0+c.1 1+c.1 2+c.1 3)
noncomputable def eQ (c:Frm) (k:Fin 4) (nx:Bool):Rat:=frQ (shP c.2 (c.1 k) (c.1 (if nx=true then k+1 else k+3)))
theorem aoX (c:Frm) (k:Fin 4):flF (hOf c) k=decide (c.2<c.1 k):=by
 match k with
 | 0=>rfl | 1=>rfl | 2=>rfl | 3=>rfl
theorem agN {c:Frm} {a b:Fin 4} (h:(flF (hOf c) a != flF (hOf c) b)=true):c.1 a≠c.1 b:=fun z=>by
 rw [aoX,aoX,z] at h
 simp at h
theorem ajN {h:Fl} {m:Bool} {k:Fin 4} {p:Fin 4×Bool} (hp:p∈stF h m k):p.1=k/\((p.2=false/\c1F h m k=true) \/ (p.2=true/\c2F h k=true)):=by
 unfold stF at hp
 rcases apC.mp hp with hp | hp
 ·split at hp
  ·next z=>rw [apB.mp hp];exact⟨rfl,.inl ⟨rfl,z⟩⟩
  ·cases hp
 ·split at hp
  ·next z=>rw [apB.mp hp];exact⟨rfl,.inr ⟨rfl,z⟩⟩
  ·cases hp
theorem aeQ (k:Fin 4):k+1+1=k+2:=by
 match k with
 | 0=>rfl | 1=>rfl | 2=>rfl | 3=>rfl
theorem alY {c:Frm} (ok:okF c) {k:Fin 4} {p:Fin 4×Bool} (hp:p∈stF (hOf c) (mOf c) k):frQ (arP c p)=arK (eQ c) p/\Bz 75 (arP c p)/\0<=(arP c p).1:=by
 obtain⟨e,hp⟩:=ajN hp
 obtain⟨p1,p2⟩:=p
 dsimp only at e hp
 subst e
 have sb:=fun a b=>aeP (cut:=c.2) ok.2 (ok.1 a) (ok.1 b)
 have up:∀ {i:Int} {A:Nat},i.natAbs<2 ^ A->A<=75->i.natAbs<2 ^ 75:=fun h le=>apF h (aqe (by decide) le)
 rcases hp with⟨rfl,h⟩ | ⟨rfl,h⟩
 ·unfold c1F at h
  rw [apu,apu] at h
  have n1:=agN h.1.1
  have n2:=agN h.1.2
  have s1:=sb p1 (p1+3)
  have s2:=sb p1 (p1+1)
  have q1:=s1.2.2.2 n1
  have q2:=s2.2.2.2 n2
  refine⟨aln q1 q2,⟨up (qQ s1.1 s2.1) (by decide),asn (asn (by decide) q1) q2,up (qQ (qQ (A:=2) (B:=35) (by decide) s1.2.1) s2.2.1) (by decide)⟩,atp s1.2.2.1 s2.2.2.1⟩
 ·unfold c2F at h
  rw [apu,apu,apu] at h
  have n1:c.1 p1≠c.1 (p1+3):=agN (by have z:=h.2.2.1;rw [h.1];revert z;cases flF (hOf c) (p1+3) <;> decide)
  have n2:c.1 (p1+1)≠c.1 (p1+2):=agN (by have z:=h.2.2.2;rw [h.2.1];revert z;cases flF (hOf c) (p1+2) <;> decide)
  have s1:=sb p1 (p1+3)
  have s2:=sb (p1+1) (p1+2)
  have q1:=s1.2.2.2 n1
  have q2:=s2.2.2.2 n2
  refine⟨?_,⟨up (alX (qQ s1.1 s2.2.1) (qQ s2.1 s1.2.1)).1 (by decide),asn (asn (by decide) q1) q2,up (qQ (qQ (A:=2) (B:=35) (by decide) s1.2.1) s2.2.1) (by decide)⟩,Int.add_nonneg (atp s1.2.2.1 (asZ q2)) (atp s2.2.2.1 (asZ q1))⟩
  have:=anB (a:=(shP c.2 (c.1 p1) (c.1 (p1+3))).1) (b:=(shP c.2 (c.1 (p1+1)) (c.1 (p1+2))).1) q1 q2
  unfold arK eQ
  dsimp only
  rw [if_neg apk,if_pos rfl,aeQ]
  exact this
noncomputable def yS (c:Frm) (l:List (Fin 4×Bool)):Int×Int:=l.foldl (fun r p=>rsP r (arP c p)) (1,1)
theorem aas (c:Frm) (l:List (Fin 4×Bool)) (p:Fin 4×Bool):yS c (l++[p])=rsP (yS c l) (arP c p):=by unfold yS;rw [asI];rfl
theorem afH (e:Fin 4->Bool->Rat) (l:List (Fin 4×Bool)) (p:Fin 4×Bool):aab e (l++[p])=aab e l - arK e p:=by unfold aab;rw [asI];rfl
theorem aoY {a b:Int×Int} {A B:Nat} (ha:Bz A a) (hb:Bz B b):frQ (rsP a b)=frQ a - frQ b/\Bz (A+B+1) (rsP a b):=by
 refine⟨alo ha.2.1 hb.2.1,?_,asn ha.2.1 hb.2.1,?_⟩
 ·have h2:=qQ hb.1 ha.2.2
  rw [atB] at h2
  exact (alX (qQ ha.1 hb.2.2) h2).2
 ·exact apF (qQ ha.2.2 hb.2.2) (aqe (by decide) (by omega))
theorem agO {c:Frm} {l:List (Fin 4×Bool)} (h:∀ p∈l,frQ (arP c p)=arK (eQ c) p/\Bz 75 (arP c p)):frQ (yS c l)=aab (eQ c) l/\Bz (1+76 * l.length) (yS c l):=by
 have key:∀ n (l:List (Fin 4×Bool)),l.length=n->(∀ p∈l,frQ (arP c p)=arK (eQ c) p/\Bz 75 (arP c p))->frQ (yS c l)=aab (eQ c) l/\Bz (1+76 * l.length) (yS c l):=fun n=>by
  induction n with
  | zero =>
   intro l hl _
   rw [ar5.mp hl]
   refine⟨by show apG 1 1=1;first | rfl | decide | simp,?_⟩
   show Bz 1 (1,1)
   exact⟨by decide,by decide,by decide⟩
  | succ n ih =>
   intro l hl h
   obtain⟨l',p,rfl⟩:∃ l' p,l=l'++[p]:=⟨l.dropLast,l.getLast (fun z=>by rw [z] at hl;cases hl),(arF _).symm⟩
   rw [apA,ap3] at hl
   obtain⟨i1,i2⟩:=ih l' (by omega) fun q hq=>h q (apN _ hq)
   obtain⟨j1,j2⟩:=h p (apy _ (apB.mpr rfl))
   obtain⟨k1,k2⟩:=aoY i2 j2
   rw [aas,afH,k1,i1,j1,apA,ap3]
   exact⟨rfl,k2.up (by omega)⟩
 exact key _ l rfl h
theorem anC:∀ (a b d e m:Bool) (n:Fin 5),(fdF (a,b,d,e) m n.val).length<=2:=by decide
theorem alZ (h:Fl) (m:Bool) {n:Nat} (hn:n<=4):(fdF h m n).length<=2:=anC h.1 h.2.1 h.2.2.1 h.2.2.2 m ⟨n,by omega⟩
theorem ajO {c:Frm} (ok:okF c) {n:Nat}:∀ p∈fdF (hOf c) (mOf c) n,frQ (arP c p)=arK (eQ c) p/\Bz 75 (arP c p):=fun p hp=>by
 obtain⟨k,_,hk⟩:=aqs.mp hp
 obtain⟨h1,h2,_⟩:=alY ok hk
 exact⟨h1,h2⟩
theorem alp:∀ (a b d e m:Bool) (k:Fin 4),fdF (a,b,d,e) m (k.val+1)=fdF (a,b,d,e) m k.val++stF (a,b,d,e) m k:=by decide +kernel
theorem agP {cut a b:Int} (h:decide (cut<a)≠decide (cut<b)):frQ (shP cut a b)=apG (2 * cut+1 - 2 * a) (2 * (b - a))/\frQ (shP cut b a)=1 - apG (2 * cut+1 - 2 * a) (2 * (b - a)):=by
 have key:∀ {a b:Int},a<=cut->cut<b->frQ (shP cut a b)=apG (2 * cut+1 - 2 * a) (2 * (b - a))/\frQ (shP cut b a)=1 - apG (2 * cut+1 - 2 * a) (2 * (b - a)):=fun {a b} h1 h2=>by
  unfold frQ shP ab
  dsimp only
  rw [if_neg (show ¬ 2 * cut+1 - 2 * a<0 by omega),if_neg (show ¬ b - a<0 by omega),if_pos (show 2 * cut+1 - 2 * b<0 by omega),if_pos (show a - b<0 by omega)]
  refine⟨rfl,?_⟩
  have z:0<2 * (b - a):=by omega
  have hz:=vm z
  rw [show -(2 * cut+1 - 2 * b)=2 * (b - a) - (2 * cut+1 - 2 * a) by omega,show 2 * -(a - b)=2 * (b - a) by omega,apM,apM,asu]
  generalize ((2 * (b - a):Int):Rat)=Z at *
  grind
 by_cases h1:cut<a
 ·have h2:¬ cut<b:=fun z=>h (by rw [decide_eq_true h1,decide_eq_true z])
  obtain⟨k1,k2⟩:=key (a:=b) (b:=a) (by omega) h1
  have sw:apG (2 * cut+1 - 2 * a) (2 * (b - a))=1 - apG (2 * cut+1 - 2 * b) (2 * (a - b)):=by
   have z:0<2 * (a - b):=by omega
   have hz:=vm z
   have e:apG (2 * cut+1 - 2 * a) (2 * (b - a))=apG (2 * (a - b) - (2 * cut+1 - 2 * b)) (2 * (a - b)):=by
    rw [show 2 * (a - b) - (2 * cut+1 - 2 * b)=-(2 * cut+1 - 2 * a) by omega,show 2 * (b - a)=-(2 * (a - b)) by omega,apM,apM,Rat.intCast_neg,Rat.intCast_neg]
    generalize ((2 * (a - b):Int):Rat)=Z at *
    grind
   rw [e,apM,apM,asu]
   generalize ((2 * (a - b):Int):Rat)=Z at *
   grind
  rw [sw]
  refine⟨k2,?_⟩
  rw [k1]
  grind
 ·have h2:cut<b:=aqd fun z=>h (by rw [decide_eq_false h1,decide_eq_false z])
  exact key (by omega) h2
theorem ahQ {h:Fl} {m:Bool} {e e':Fin 4->Bool->Rat} (H:∀ p∈fdF h m 4,arK e p=arK e' p):LPq h m e=LPq h m e':=by
 have r:∀ l:List (Fin 4×Bool),(∀ p∈l,arK e p=arK e' p)->∀ q,l.foldl (fun q p=>q - arK e p) q=l.foldl (fun q p=>q - arK e' p) q:=fun l=>by
  induction l with
  | nil=>exact fun _ _=>rfl
  | cons p l ih =>
   intro hl q
   show l.foldl _ (q - arK e p)=l.foldl _ (q - arK e' p)
   rw [hl p apo]
   exact ih (fun p hp=>hl p (apl _ hp)) _
 unfold LPq aab
 rw [r _ H]
 congr 1
 exact aql fun p hp=>by rw [H p hp]
section
variable {rows:List (List Int)} {wd:Nat} {cut:Int} {c:Pt}
noncomputable def frm (rows:List (List Int)) (cut:Int) (c:Pt):Frm:=(fun k=>zX rows (cnF c k).1 (cnF c k).2,cut)
theorem agQ:hOf (frm rows cut c)=hF rows cut c:=rfl
theorem agR:mOf (frm rows cut c)=mF rows cut c:=by
 unfold mOf mF adB alQ frm cnF
 dsimp only
 refine decide_eq_decide.mpr ?_
 constructor <;> intro h <;> omega
noncomputable def tE (rows:List (List Int)) (wd:Nat) (cut:Int) (c:Pt):Fin 4->Bool->Rat:=eF (tF rows wd cut c 0) (tF rows wd cut c 3) (tF rows wd cut c 2) (tF rows wd cut c 1)
theorem aoZ (hc:yy rows wd c=true) {k:Fin 4} (h:(flF (hF rows cut c) k != flF (hF rows cut c) (k+1))=true):tF rows wd cut c k=shQ rows cut (gkF c k):=by
 unfold tF
 rw [ajz hc,if_pos h]
theorem afI (hc:yy rows wd c=true) (k:Fin 4) (h:(flF (hF rows cut c) k != flF (hF rows cut c) (k+1))=true):eQ (frm rows cut c) k true=tE rows wd cut c k true/\eQ (frm rows cut c) (k+1) false=tE rows wd cut c (k+1) false:=by
 have t:=aoZ hc h
 have sw:∀ {a b:Bool},(a != b)=true->b≠a:=fun {a b}=>by cases a <;> cases b <;> decide
 have sw2:∀ {a b:Bool},(a != b)=true->a≠b:=fun {a b}=>by cases a <;> cases b <;> decide
 match k,h,t with
 | 0,h,t =>
  obtain⟨s1,s2⟩:=agP (cut:=cut) (a:=zX rows c.1 c.2) (b:=zX rows (c.1+1) c.2) (sw2 h)
  exact⟨s1.trans t.symm,s2.trans (by show 1 - _=1 - tF rows wd cut c 0;rw [t];rfl)⟩
 | 1,h,t =>
  obtain⟨s1,s2⟩:=agP (cut:=cut) (a:=zX rows (c.1+1) c.2) (b:=zX rows (c.1+1) (c.2+1)) (sw2 h)
  exact⟨s1.trans t.symm,s2.trans (by show 1 - _=1 - tF rows wd cut c 1;rw [t];rfl)⟩
 | 2,h,t =>
  obtain⟨s1,s2⟩:=agP (cut:=cut) (a:=zX rows c.1 (c.2+1)) (b:=zX rows (c.1+1) (c.2+1)) (sw h)
  exact⟨s2.trans (by show 1 - _=1 - tF rows wd cut c 2;rw [t];rfl),s1.trans t.symm⟩
 | 3,h,t =>
  obtain⟨s1,s2⟩:=agP (cut:=cut) (a:=zX rows c.1 c.2) (b:=zX rows c.1 (c.2+1)) (sw h)
  exact⟨s2.trans (by show 1 - _=1 - tF rows wd cut c 3;rw [t];rfl),s1.trans t.symm⟩
theorem ao0 (k:Fin 4):k+3+1=k:=by
 match k with
 | 0=>rfl | 1=>rfl | 2=>rfl | 3=>rfl
theorem ajP (hc:yy rows wd c=true) (k:Fin 4) (h:(flF (hF rows cut c) k != flF (hF rows cut c) (k+3))=true):eQ (frm rows cut c) k false=tE rows wd cut c k false:=by
 have:=(afI (cut:=cut) hc (k+3) (by rw [ao0];revert h;cases flF (hF rows cut c) k <;> cases flF (hF rows cut c) (k+3) <;> decide)).2
 rw [ao0] at this
 exact this
theorem alq (gd:Good wd rows) (hc:yy rows wd c=true):((LPq (hF rows cut c) (mF rows cut c) (eQ (frm rows cut c))).map fun p=>(zR (hF rows cut c) (mF rows cut c) p.1,p.2)).Perm ((PL (hF rows cut c) (mF rows cut c)).map fun s=>(s,arQ rows wd cut (c,s))):=by
 have e:LPq (hF rows cut c) (mF rows cut c) (eQ (frm rows cut c))=LPq (hF rows cut c) (mF rows cut c) (tE rows wd cut c):=by
  refine ahQ fun p hp=>?_
  obtain⟨k,_,hk⟩:=aqs.mp hp
  obtain⟨e1,e2⟩:=ajN hk
  obtain⟨p1,p2⟩:=p
  dsimp only at e1 e2
  subst e1
  rcases e2 with⟨rfl,h⟩ | ⟨rfl,h⟩
  ·unfold c1F at h
   rw [apu,apu] at h
   unfold arK
   dsimp only
   rw [ajP hc p1 h.1.1,(afI hc p1 h.1.2).1]
  ·unfold c2F at h
   rw [apu,apu,apu] at h
   unfold arK
   dsimp only
   rw [ajP hc p1 (by have z:=h.2.2.1;rw [h.1];revert z;cases flF (hF rows cut c) (p1+3) <;> decide),(afI hc (p1+1) (by have z:=h.2.2.2;rw [h.2.1,aeQ];revert z;cases flF (hF rows cut c) (p1+2) <;> decide)).1]
 rw [e]
 have A:=apf (hF rows cut c).1 (hF rows cut c).2.1 (hF rows cut c).2.2.1 (hF rows cut c).2.2.2 (mF rows cut c) (c.1:Rat) (c.2:Rat) (tF rows wd cut c 0) (tF rows wd cut c 3) (tF rows wd cut c 2) (tF rows wd cut c 1)
 have e2:((PL (hF rows cut c) (mF rows cut c)).map fun s=>(s,arQ rows wd cut (c,s)))=(PL (hF rows cut c) (mF rows cut c)).map fun s=>(s,shT (XX (c.1:Rat) (tF rows wd cut c 0) (tF rows wd cut c 2)) (YY (c.2:Rat) (tF rows wd cut c 3) (tF rows wd cut c 1)) (qq (hF rows cut c) s) / 2):=aql fun s hs=>by
  have a1:=(afF (cut:=cut) gd hc hs).1
  have a2:arS rows wd cut c s=shT (XX (c.1:Rat) (tF rows wd cut c 0) (tF rows wd cut c 2)) (YY (c.2:Rat) (tF rows wd cut c 3) (tF rows wd cut c 1)) (qq (hF rows cut c) s):=by
   unfold arS ouL
   rw [ajB (fun i=>by have:=(aeM (cut:=cut) gd hc i).2.2.1;omega)]
   congr 1
   ·funext i;exact (ale i).1
   ·funext i;exact (ale i).2
  show (s,qo (ouL rows wd cut c s))=_
  rw [a1,a2]
 rw [e2]
 exact A
theorem aeR:∀ (a b d e m:Bool) (k:Fin 4),zR (a,b,d,e) m k∈PL (a,b,d,e) m/\flF (zR (a,b,d,e) m k) k=true:=by decide +kernel
variable {rs:List (Bool×List Pt)}
theorem ajQ (R:Regs rows wd cut rs) (hc:yy rows wd c=true) (k:Fin 4):ixF rs (cnF c k)=ixF rs (hdF (c,zR (hF rows cut c) (mF rows cut c) k)):=by
 obtain⟨hs,fk⟩:=aeR (hF rows cut c).1 (hF rows cut c).2.1 (hF rows cut c).2.2.1 (hF rows cut c).2.2.2 (mF rows cut c) k
 generalize hp:zR ((hF rows cut c).1,(hF rows cut c).2.1,(hF rows cut c).2.2.1,(hF rows cut c).2.2.2) (mF rows cut c) k=s at *
 have hp':zR (hF rows cut c) (mF rows cut c) k=s:=hp
 try rw [hp']
 obtain⟨k0,e0,f0⟩:=ajK (c:=c) (abO _ _ _ _ _ s hs)
 have rc:Reach rows wd cut (cnF c k) (hdF (c,s)):=by
  rw [e0]
  rcases aoV _ _ _ _ _ s hs k k0 fk f0 with e | e | ⟨d,e1,e2⟩
  ·rw [e];exact .refl
  ·exact .step .refl (qr hc e)
  ·exact .step (.step .refl (qr hc e1)) (qr hc e2)
 have ip:=aaF hc (abP c k)
 obtain⟨r1,a1,b1⟩:=acB R ip
 obtain⟨r2,a2,b2⟩:=acB R (rc.ins ip).1
 obtain⟨h,G⟩:=R.reg r1 (apv a1)
 exact adE R a1 a2 ((G.mem _).mpr (((G.mem _).mp b1).trans rc)) b2
theorem ajR (gd:Good wd rows) (hc:yy rows wd c=true) (b:-10000000000<=cut/\cut<=10000000000):okF (frm rows cut c):=by
 refine⟨fun k=>?_,b⟩
 obtain⟨x0,x1,y0,y1⟩:=yZ (aaF hc (abP c k))
 have hy:(cnF c k).2.toNat<rows.length:=by omega
 have hr:=gd.row _ (apS hy)
 have hx:(cnF c k).1.toNat<(rows[(cnF c k).2.toNat]).length:=by omega
 have hm:zX rows (cnF c k).1 (cnF c k).2∈rows[(cnF c k).2.toNat]:=by
  unfold zX
  rw [show rows.getD (cnF c k).2.toNat []=rows[(cnF c k).2.toNat] by rw [apn,aph hy,ash],apn,aph hx,ash]
  exact apS _
 exact gd.hgt _ (apS hy) _ hm
end
noncomputable def fvS (h:Fl) (m:Bool) (l:List (Option (Fin 4×Bool))) (k:Fin 4):List (Option (Fin 4×Bool)) :=
 if c2F h k=true then (((if c1F h m k=true then l.set k.val (some (k,false)) else l).set k.val (some (k,true))).set (k+1).val (some (k,true))) else if c1F h m k=true then l.set k.val (some (k,false)) else l
noncomputable def fvL (h:Fl) (m:Bool) (n:Nat):List (Option (Fin 4×Bool)):=(fin4.take n).foldl (fvS h m) [none,none,none,none]
theorem alr:∀ (a b d e m:Bool) (k:Fin 4),fvL (a,b,d,e) m (k.val+1)=fvS (a,b,d,e) m (fvL (a,b,d,e) m k.val) k/\(fvL (a,b,d,e) m k.val).length=4:=by decide +kernel
theorem ajS:∀ (a b d e m:Bool),(fvL (a,b,d,e) m 4).length=4:=by decide +kernel
noncomputable def okO (h:Fl) (m:Bool) (k:Fin 4) (o:Option (Fin 4×Bool)):Bool:=match o with
 | some p=>decide (p∈fdF h m 4) && decide (zR h m p.1=zR h m k)
 | none=>decide (zR h m ((lfF h m 4).headD 0)=zR h m k)
theorem anD:∀ (a b d e m:Bool) (k:Fin 4),((fvL (a,b,d,e) m 4)[k.val]?).any (okO (a,b,d,e) m k)=true:=by decide +kernel
theorem ajT (a b d e m:Bool) (k:Fin 4):∃ o,(fvL (a,b,d,e) m 4)[k.val]?=some o/\(match o with | some p=>p∈fdF (a,b,d,e) m 4/\zR (a,b,d,e) m p.1=zR (a,b,d,e) m k | none=>zR (a,b,d,e) m ((lfF (a,b,d,e) m 4).headD 0)=zR (a,b,d,e) m k):=by
 have h:=anD a b d e m k
 cases ho:(fvL (a,b,d,e) m 4)[k.val]? with
 | none=>rw [ho] at h;cases h
 | some o =>
  rw [ho] at h
  have h:okO (a,b,d,e) m k o=true:=h
  refine⟨o,rfl,?_⟩
  unfold okO at h
  cases o with
  | some p =>
   dsimp only at h ⊢
   rw [apu] at h
   exact⟨of_decide_eq_true h.1,of_decide_eq_true h.2⟩
  | none=>exact of_decide_eq_true h
theorem als:∀ (a b d e m:Bool),(a=b/\b=d/\d=e)->fvL (a,b,d,e) m 4=[none,none,none,none]/\fdF (a,b,d,e) m 4=[]:=by decide +kernel
theorem anE:∀ (a b d e m:Bool) (k k':Fin 4),c1F (a,b,d,e) m k=true->c2F (a,b,d,e) k'=false:=by decide +kernel
theorem ajU:∀ (a b d e m:Bool) (k:Fin 4),c2F (a,b,d,e) k=true->fdF (a,b,d,e) m k.val=[]/\c1F (a,b,d,e) m k=false:=by decide +kernel
noncomputable def ab2 (c:Frm) (o:Option (Fin 4×Bool)):Int×Int:=match o with
 | some p=>arP c p
 | none=>yS c (fdF (hOf c) (mOf c) 4)
section
variable {rows:List (List Int)} {wd:Nat} {cut:Int} {c:Pt}
theorem anF (gd:Good wd rows) (hc:yy rows wd c=true) (b:-10000000000<=cut/\cut<=10000000000) (k:Fin 4):∃ o,(fvL (hF rows cut c) (mF rows cut c) 4)[k.val]?=some o/\frQ (ab2 (frm rows cut c) o)=arQ rows wd cut (c,zR (hF rows cut c) (mF rows cut c) k)/\Bz 160 (ab2 (frm rows cut c) o):=by
 have ok:=ajR gd hc b
 have fr:=ajO (n:=4) ok
 have rf:=agO (ajO (n:=4) ok)
 have few:=alZ (hOf (frm rows cut c)) (mOf (frm rows cut c)) (n:=4) (by decide)
 obtain⟨o,ho,hm⟩:=ajT (hF rows cut c).1 (hF rows cut c).2.1 (hF rows cut c).2.2.1 (hF rows cut c).2.2.2 (mF rows cut c) k
 refine⟨o,ho,?_⟩
 have mem:∀ x∈LPq (hF rows cut c) (mF rows cut c) (eQ (frm rows cut c)),x.2=arQ rows wd cut (c,zR (hF rows cut c) (mF rows cut c) x.1):=fun x hx=>by
  have m2:(zR (hF rows cut c) (mF rows cut c) x.1,x.2)∈(LPq (hF rows cut c) (mF rows cut c) (eQ (frm rows cut c))).map fun p=>(zR (hF rows cut c) (mF rows cut c) p.1,p.2):=apJ.mpr ⟨x,hx,rfl⟩
  obtain⟨s,hs,es⟩:=apJ.mp ((alq (cut:=cut) gd hc).mem_iff.mp m2)
  have e1:s=zR (hF rows cut c) (mF rows cut c) x.1:=congrArg Prod.fst es
  have e2:arQ rows wd cut (c,s)=x.2:=congrArg Prod.snd es
  rw [<-e2,e1]
 rw [agQ,agR] at fr rf few
 have eta:((hF rows cut c).1,(hF rows cut c).2.1,(hF rows cut c).2.2.1,(hF rows cut c).2.2.2)=hF rows cut c:=rfl
 rw [eta] at hm
 cases o with
 | some p =>
  obtain⟨h1,h2⟩:=hm
  have:=mem (p.1,arK (eQ (frm rows cut c)) p) (apN _ (apJ.mpr ⟨p,h1,rfl⟩))
  dsimp only at this
  rw [h2] at this
  exact⟨(fr p h1).1.trans this,(fr p h1).2.up (by decide)⟩
 | none =>
  have:=mem ((lfF (hF rows cut c) (mF rows cut c) 4).headD 0,aab (eQ (frm rows cut c)) (fdF (hF rows cut c) (mF rows cut c) 4)) (apy _ (apB.mpr rfl))
  dsimp only at this hm
  rw [hm] at this
  refine⟨?_,?_⟩
  ·show frQ (yS _ (fdF (hOf (frm rows cut c)) (mOf (frm rows cut c)) 4))=_
   rw [agQ,agR]
   exact rf.1.trans this
  ·show Bz 160 (yS _ (fdF (hOf (frm rows cut c)) (mOf (frm rows cut c)) 4))
   rw [agQ,agR]
   exact rf.2.up (by omega)
theorem ahR:∀ (a b d e m:Bool) (i j:Fin 4),aeO (a,b,d,e) m i j=true->zR (a,b,d,e) m i=zR (a,b,d,e) m j:=by decide +kernel
theorem ao1:∀ (a b d e m:Bool),(PL (a,b,d,e) m).Nodup:=by decide +kernel
theorem anG:∀ (a b d e m:Bool),∀ s∈PL (a,b,d,e) m,∀ k:Fin 4,flF s k=true->zR (a,b,d,e) m k=s:=by decide +kernel
theorem ajV (h2:rows.length=2) (w2:wd=2) {a:Fin 4} {q:Pt} (h:q∈jn rows wd cut (cnF (0,0) a)):∃ b,q=cnF (0,0) b/\zR (hF rows cut (0,0)) (mF rows cut (0,0)) a=zR (hF rows cut (0,0)) (mF rows cut (0,0)) b:=by
 have sp:=ahR (hF rows cut (0,0)).1 (hF rows cut (0,0)).2.1 (hF rows cut (0,0)).2.2.1 (hF rows cut (0,0)).2.2.2 (mF rows cut (0,0))
 have go:∀ b:Fin 4,(b=a+1 \/ a=b+1)->hiP rows cut (cnF (0,0) b)=hiP rows cut (cnF (0,0) a)->zR (hF rows cut (0,0)) (mF rows cut (0,0)) a=zR (hF rows cut (0,0)) (mF rows cut (0,0)) b:=fun b hb he=>by
  refine sp a b ?_
  unfold aeO
  rw [acC,acC] at he
  show ((decide (b=a+1 \/ a=b+1) && (flF (hF rows cut (0,0)) a == flF (hF rows cut (0,0)) b)) || _)=true
  rw [decide_eq_true hb,he,beq_self_eq_true]
  rfl
 rcases mem_join.mp h with⟨h1,hi,he⟩ | ⟨c,h1,hc,hx,hmid,rfl⟩
 ·obtain⟨x0,x1,y0,y1⟩:=yZ hi
  rw [afx] at h1
  clear h
  rcases ahO a with rfl | rfl | rfl | rfl
  ·rcases h1 with rfl | rfl | rfl | rfl
   ·simp [cnF] at x0
   ·simp [cnF] at y0
   ·exact⟨3,by simp [cnF],go 3 (by decide) he⟩
   ·exact⟨1,by simp [cnF],go 1 (by decide) he⟩
  ·rcases h1 with rfl | rfl | rfl | rfl
   ·exact⟨0,by simp [cnF],go 0 (by decide) (by simpa [cnF] using he)⟩
   ·simp [cnF] at y0
   ·exact⟨2,by simp [cnF],go 2 (by decide) he⟩
   ·simp [cnF] at x1;omega
  ·rcases h1 with rfl | rfl | rfl | rfl
   ·exact⟨3,by simp [cnF],go 3 (by decide) (by simpa [cnF] using he)⟩
   ·exact⟨1,by simp [cnF],go 1 (by decide) (by simpa [cnF] using he)⟩
   ·simp [cnF] at y1;omega
   ·simp [cnF] at x1;omega
  ·rcases h1 with rfl | rfl | rfl | rfl
   ·simp [cnF] at x0
   ·exact⟨0,by simp [cnF],go 0 (by decide) (by simpa [cnF] using he)⟩
   ·simp [cnF] at y1;omega
   ·exact⟨2,by simp [cnF],go 2 (by decide) he⟩
 ·have cc:yY rows wd c.1 c.2=true:=hc
  unfold yY at cc
  rw [apu] at cc
  obtain⟨a0,a1,a2,a3⟩:=yZ cc.1
  obtain⟨b0,b1,b2,b3⟩:=yZ cc.2
  have e:c=(0,0):=Prod.ext (by show c.1=0;omega) (by show c.2=0;omega)
  subst e
  have e2:asl (cnF (0,0) a) (0,0)=cnF (0,0) (a+2):=by
   clear sp go h hmid h1
   rcases ahO a with rfl | rfl | rfl | rfl <;> simp [cnF,asl]
  refine⟨a+2,e2,sp a (a+2) ?_⟩
  have hx:aeK (hF rows cut (0,0))=true:=by rw [<-adH hc];exact hx
  have hmid:mF rows cut (0,0)=flF (hF rows cut (0,0)) a:=by rw [<-acC];exact hmid
  unfold aeO
  show (_ || (aeK (hF rows cut (0,0)) && ((mF rows cut (0,0) == flF (hF rows cut (0,0)) a) && decide (a+2=a+2))))=true
  rw [hx,hmid,beq_self_eq_true,decide_eq_true rfl]
  simp
theorem ahS (h2:rows.length=2) (w2:wd=2) {a:Fin 4} {q:Pt} (h:Reach rows wd cut (cnF (0,0) a) q):∃ b,q=cnF (0,0) b/\zR (hF rows cut (0,0)) (mF rows cut (0,0)) a=zR (hF rows cut (0,0)) (mF rows cut (0,0)) b:=by
 induction h with
 | refl=>exact⟨a,rfl,rfl⟩
 | step _ hq ih =>
  obtain⟨b,rfl,e⟩:=ih
  obtain⟨d,e1,e2⟩:=ajV h2 w2 hq
  exact⟨d,e1,e.trans e2⟩
variable {rs:List (Bool×List Pt)}
theorem ajW (gd:Good wd rows) (h2:rows.length=2) (w2:wd=2) (R:Regs rows wd cut rs) {j:Nat} {r:Bool×List Pt} (hj:rs[j]?=some r) {k:Fin 4} (hk:cnF (0,0) k∈r.2):ArQ rs rows wd cut j=arQ rows wd cut ((0,0),zR (hF rows cut (0,0)) (mF rows cut (0,0)) k):=by
 have hc:yy rows wd (0,0)=true:=by
  show yY rows wd 0 0=true
  unfold yY yx
  rw [decide_eq_true (by omega),decide_eq_true (by omega),decide_eq_true (by omega),decide_eq_true (by omega)]
  rfl
 have cs:csL rows wd=[(0,0)]:=by
  unfold csL
  rw [h2,w2]
  rfl
 rw [ajJ,cs]
 unfold wL
 rw [arM,asW,apY,List.filter_map,ap1]
 obtain⟨x,G⟩:=R.reg r (apv hj)
 have po:=aeR (hF rows cut (0,0)).1 (hF rows cut (0,0)).2.1 (hF rows cut (0,0)).2.2.1 (hF rows cut (0,0)).2.2.2 (mF rows cut (0,0)) k
 have pn:=ao1 (hF rows cut (0,0)).1 (hF rows cut (0,0)).2.1 (hF rows cut (0,0)).2.2.1 (hF rows cut (0,0)).2.2.2 (mF rows cut (0,0))
 have pw:=anG (hF rows cut (0,0)).1 (hF rows cut (0,0)).2.1 (hF rows cut (0,0)).2.2.1 (hF rows cut (0,0)).2.2.2 (mF rows cut (0,0))
 have eta:((hF rows cut (0,0)).1,(hF rows cut (0,0)).2.1,(hF rows cut (0,0)).2.2.1,(hF rows cut (0,0)).2.2.2)=hF rows cut (0,0):=rfl
 rw [eta] at po pn pw
 have ik:ixF rs (cnF (0,0) k)=j:=by
  obtain⟨r1,a1,b1⟩:=acB R (aaF hc (abP (0,0) k))
  exact adE R a1 hj b1 hk
 have iff:∀ s∈PL (hF rows cut (0,0)) (mF rows cut (0,0)),(inJ rs j ∘ fun s=>((0,0),s)) s=decide (s=zR (hF rows cut (0,0)) (mF rows cut (0,0)) k):=fun s hs=>by
  show decide (ixF rs (hdF ((0,0),s))=j)=_
  refine decide_eq_decide.mpr ⟨fun e=>?_,fun e=>?_⟩
  ·obtain⟨k0,e0,f0⟩:=ajK (c:=(0,0)) (abO _ _ _ _ _ s hs)
   rw [e0] at e
   obtain⟨r1,a1,b1⟩:=acB R (aaF hc (abP (0,0) k0))
   rw [e,hj] at a1
   cases a1
   have rc:Reach rows wd cut (cnF (0,0) k0) (cnF (0,0) k):=(((G.mem _).mp b1).symm G.inn).trans ((G.mem _).mp hk)
   obtain⟨b,e1,e2⟩:=ahS h2 w2 rc
   have e3:=(ajx _ _ _).mp e1
   subst e3
   rw [<-e2]
   exact (pw s hs k0 f0).symm
  ·rw [e,<- ajQ R hc k]
   exact ik
 rw [List.filter_congr iff]
 have one:(PL (hF rows cut (0,0)) (mF rows cut (0,0))).filter (fun s=>decide (s=zR (hF rows cut (0,0)) (mF rows cut (0,0)) k))=[zR (hF rows cut (0,0)) (mF rows cut (0,0)) k]:=by
  have key:∀ (l:List Fl) (x:Fl),l.Nodup->x∈l->l.filter (fun s=>decide (s=x))=[x]:=fun l x=>by
   induction l with
   | nil=>intro _ h;cases h
   | cons y l ih =>
    intro nd hx
    obtain⟨n1,n2⟩:=aqq.mp nd
    rw [aqP]
    rcases apq.mp hx with rfl | hx
    ·rw [if_pos (decide_eq_true rfl)]
     congr 1
     exact List.filter_eq_nil_iff.mpr fun z hz e=>n1 (of_decide_eq_true e▸hz)
    ·rw [if_neg (by rw [decide_eq_false (show ¬ y=x from fun z=>n1 (z▸hx))];exact apk)]
     exact ih n2 hx
  exact key _ _ pn po.1
 rw [one]
 show arQ rows wd cut ((0,0),_)+0=_
 grind
end
theorem ne_bool (a b:Bool):(!apP (.bool a) (.bool b))=(a != b):=by cases a <;> cases b <;> rfl
noncomputable def opD (c:Frm) (o:Option (Fin 4×Bool)):PyData:=match o with
 | some p=>frD (arP c p)
 | none=>.none
theorem alu:∀ a b d e:Bool,((!(yI (flF (a,b,d,e))).any fun x=>apP x (.bool true)) || !(yI (flF (a,b,d,e))).any fun x=>apP x (.bool false))=true->a=b/\b=d/\d=e:=by
 intro a b d e
 cases a <;> cases b <;> cases d <;> cases e <;> first | exact fun _=>⟨rfl,rfl,rfl⟩ | exact fun z=>absurd (show false=true from z) (by decide)
theorem al0 (b:Fin 4->Bool):∀ e∈yI b,e.canLay0=true:=fun e he=>by
 unfold yI at he
 simp only [apq,ap0,or_false] at he
 rcases he with rfl | rfl | rfl | rfl <;> rfl
theorem abR (c:Frm) (l:List (Option (Fin 4×Bool))) (n:Nat) (o:Option (Fin 4×Bool)):(l.map (opD c)).set n (opD c o)=(l.set n o).map (opD c):=by rw [List.map_set]
noncomputable abbrev al1 (K:apj):Sp:=spD K 2 (fun (c:Frm) xs=>xs=[.dat (.list (jm c.1)),.dat (.int c.2)]/\okF c) fun c r=>r=.list ((fvL (hOf c) (mOf c) 4).map fun o=>frD (ab2 c o))
theorem anH (F:Def K mg "_law_areas" j4 pX) (uab:mg "range"=none) (ual:mg "sum"=none) (uaG:mg "int"=none) (ubf:FnIn P w K mg base k "_law_corner" pC (adL K false)) (ubg:FnIn P w K mg base k "_law_two" pC (adL K true)):FnIn P w K mg base (k+1) "_law_areas" pX (al1 K):=by
 refine F.ok sc_law_areas rfl fun fa cdv A outer s H E hr=>⟨_,(zd (yO (i:=2) (N:=["_law_height_here","_law_cut_here"]) (own:=1) (fr:=[1]) ⟨rfl,by decide +kernel,of_decide_eq_true (by kernel_rfl),of_decide_eq_true (by kernel_rfl),of_decide_eq_true (by kernel_rfl),rfl⟩ rfl sc_law_areas.nd rfl (Or.inl rfl) (zW (K:=K) rfl (pv 0)) (fun _ _ _ _=>(zf (i:=0) (show (["_law_height_here","_law_cut_here"]:List Str).Nodup by decide +kernel) rfl (Or.inl rfl) (Or.inr rfl))) (fun _ _ _ _=>yr) (fun _ _ _ _=>(jt adO (pv 0) (pv 1) (yo _))) rfl rfl (fun _=>rfl) (Or.inl rfl) rfl) (zd (y6 (PW.pt (afK (ye (abl (K:=K) rfl hr.units) vJ (pv 2) rfl) (acF (ye (abl (K:=K) rfl hr.units) vJ (pv 2) rfl)))) (zm (zC (zl agn (yt (za (zG (za zc (za zc zb))) zb)) zc))) yk) (zd (zK (i:=3) sc_law_areas.nd rfl (Or.inl rfl) (zl agn (yt (za ahX zb)) zc)) (zd (zK (i:=4) sc_law_areas.nd rfl (Or.inl rfl) (jt ah6 (zM (abm (K:=K) rfl rfl) rfl ual atf (za (pv 0) zb)) (zl zO (zl zQ zc (pv 1)) zc) (yo _))) (zd (zK (i:=5) sc_law_areas.nd rfl (Or.inr rfl) (zG (za zc (za zc zb)))) (zd (jo ap4 rfl (y7 rfl uab (za zc zb)) (zf (i:=6) sc_law_areas.nd rfl (Or.inl rfl) (Or.inr rfl)) (zd (zK (i:=7) sc_law_areas.nd rfl (Or.inl rfl) (aa3 (jt (vC (K:=K) rfl hr.units) (zx (zp (K:=K) rfl) (pv 2) (pv 6) (fun _ _=>rfl)) (zx (zp (K:=K) rfl) (pv 2) (zl yh (pv 6) zc) (fun _ _=>rfl)) (yo _)) (acG (jt (vC (K:=K) rfl hr.units) (zx (zp (K:=K) rfl) (pv 2) (pv 6) (fun _ _=>rfl)) (zx (zp (K:=K) rfl) (pv 2) (zl yV (zl zO (pv 6) zc) zc) (fun _ _=>rfl)) (yo _))))) (zd (y6 (PW.pt (aac (ym (K:=K) rfl (pv 7) (fun _=>rfl)) (aaN (PW.pt (afK (ye (vC (K:=K) rfl hr.units) (zx (zp (K:=K) rfl) (pv 2) (pv 6) (fun _ _=>rfl)) (zx (zp (K:=K) rfl) (pv 2) (zl yV (zl zO (pv 6) zc) zc) (fun _ _=>rfl)) (yo _)) (acF (ye (vC (K:=K) rfl hr.units) (zx (zp (K:=K) rfl) (pv 2) (pv 6) (fun _ _=>rfl)) (pv 4) (yo _)))))))) (zd (yg (zg ubf hr rfl (za (pv 0) (za (pv 6) (za (pv 1) zb)))) (vz (pv 3) (pv 6) set_list)) (zm (zK (i:=5) sc_law_areas.nd rfl (Or.inr rfl) (zG (za (zl yh (zl zQ (zx (zZ (K:=K) rfl) (pv 5) zc (fun _ _=>rfl)) (zx (zZ (K:=K) rfl) (zx (zp (K:=K) rfl) (pv 3) (pv 6) (fun _ _=>rfl)) zc (fun _ _=>rfl))) (zl zQ (zx (zZ (K:=K) rfl) (zx (zp (K:=K) rfl) (pv 3) (pv 6) (fun _ _=>rfl)) zc (fun _ _=>rfl)) (zx (zZ (K:=K) rfl) (pv 5) zc (fun _ _=>rfl)))) (za (zl zQ (zx (zZ (K:=K) rfl) (pv 5) zc (fun _ _=>rfl)) (zx (zZ (K:=K) rfl) (zx (zp (K:=K) rfl) (pv 3) (pv 6) (fun _ _=>rfl)) zc (fun _ _=>rfl))) zb)))))) yk) (zm (y6 (PW.pt (aac (ym (K:=K) rfl (zx (zp (K:=K) rfl) (pv 2) (pv 6) (fun _ _=>rfl)) (fun _=>rfl)) (aac (ym (K:=K) rfl (zx (zp (K:=K) rfl) (pv 2) (zl yV (zl zO (pv 6) zc) zc) (fun _ _=>rfl)) (fun _=>rfl)) (aac (vy (ym (K:=K) rfl (zx (zp (K:=K) rfl) (pv 2) (zl yh (pv 6) zc) (fun _ _=>rfl)) (fun _=>rfl))) (aaN (vy (ym (K:=K) rfl (zx (zp (K:=K) rfl) (pv 2) (zl yV (zl zO (pv 6) zc) zc) (fun _ _=>rfl)) (fun _=>rfl)))))))) (zd (yg (zg ubg hr rfl (za (pv 0) (za (pv 6) (za (pv 1) zb)))) (vz (pv 3) (pv 6) set_list)) (zd (yg (zx (zp (K:=K) rfl) (pv 3) (pv 6) (fun _ _=>rfl)) (vz (pv 3) (zl yV (zl zO (pv 6) zc) zc) set_list)) (zm (zK (i:=5) sc_law_areas.nd rfl (Or.inr rfl) (zG (za (zl yh (zx (zZ (K:=K) rfl) (zx (zp (K:=K) rfl) (pv 3) (pv 6) (fun _ _=>rfl)) zc (fun _ _=>rfl)) (zx (zZ (K:=K) rfl) (zx (zp (K:=K) rfl) (pv 3) (pv 6) (fun _ _=>rfl)) zc (fun _ _=>rfl))) (za (zx (zZ (K:=K) rfl) (zx (zp (K:=K) rfl) (pv 3) (pv 6) (fun _ _=>rfl)) zc (fun _ _=>rfl)) zb))))))) yk))))) (zm (zC (yw (N:=["_law_area","_law_rest"]) (own:=1) (fr:=[5]) ⟨rfl,by decide +kernel,of_decide_eq_true (by kernel_rfl),of_decide_eq_true (by kernel_rfl),of_decide_eq_true (by kernel_rfl),rfl⟩ rfl (zW (K:=K) rfl (pv 3)) (fun _ _ _ _=>(zf (i:=0) (show (["_law_area","_law_rest"]:List Str).Nodup by decide +kernel) rfl (Or.inl rfl) (Or.inr rfl))) (fun _ _ _ _=>yr) (fun _ _ _ _=>(zx (zp (K:=K) rfl) (yt (za (pv 1) (za (pv 0) zb))) (acd agX rfl uaG PyProof.Rows.boot_int (za (jt aj6 (pv 0) ahX (yo _)) zb)) (fun _ _=>rfl))) rfl rfl (fun _=>rfl)))))))))),?_⟩
 rintro f xs c hl ⟨rfl,ok⟩
 try dsimp only [yn,zo]
 refine zS (zV (PEdO.ped (vq (A:=fun q:Fin 4=>PyData.int (c.1 q)) (B:=fun q:Fin 4=>PyData.bool (decide (c.2<c.1 q))) fin4 (yz (ze rfl ⟨_,rfl,rfl,by decide,?_,zj ?_⟩)))))
 ·rintro D q ρ' es hq ho hes
  obtain⟨u1,rfl⟩:=ho.one
  ·refine zj (jC ?_)
   rw [if_pos rfl]
   exact yE hes (acg (ze rfl ⟨_,rfl,ze rfl ⟨_,rfl,⟨[_],rfl,rfl⟩,rfl⟩⟩))
 show PSd K f _ [some (.dat (.list (jm c.1))),some (.dat (.int c.2)),some (.dat (.list (yI (flF (hOf c))))),none,none,none,none,none] _
 have fvs:=fun q=>alr (hOf c).1 (hOf c).2.1 (hOf c).2.2.1 (hOf c).2.2.2 (mOf c) q
 have fvn:=ajS (hOf c).1 (hOf c).2.1 (hOf c).2.2.1 (hOf c).2.2.2 (mOf c)
 have fvm:=als (hOf c).1 (hOf c).2.1 (hOf c).2.2.1 (hOf c).2.2.2 (mOf c)
 have n12:=fun q q'=>anE (hOf c).1 (hOf c).2.1 (hOf c).2.2.1 (hOf c).2.2.2 (mOf c) q q'
 have c2a:=fun q=>ajU (hOf c).1 (hOf c).2.1 (hOf c).2.2.1 (hOf c).2.2.2 (mOf c) q
 have fds:=fun q=>alp (hOf c).1 (hOf c).2.1 (hOf c).2.2.1 (hOf c).2.2.2 (mOf c) q
 have fle:=fun {n:Nat} (hn:n<=4)=>alZ (hOf c) (mOf c) hn
 have fdr:=fun {n:Nat}=>ajO (n:=n) ok
 have hok:=ok
 obtain⟨hg,hc⟩:=ok
 have bat:=alk (flF (hOf c))
 have rb:∀ n,(fdF (hOf c) (mOf c) n).length<=1->Bz 150 (yS c (fdF (hOf c) (mOf c) n)):=fun n hn=>(agO fdr).2.up (by omega)
 have eta:((hOf c).1,(hOf c).2.1,(hOf c).2.2.1,(hOf c).2.2.2)=hOf c:=rfl
 rw [eta] at fvs fvn fvm n12 c2a fds
 have mid:mOf c=decide (4 * c.2+2<=c.1 0+c.1 1+c.1 2+c.1 3):=rfl
 have arc:∀ q p,p∈stF (hOf c) (mOf c) q->Bz 150 (arP c p):=fun q p hp=>(alY hok hp).2.1.up (by decide)
 have duN:∀ o,ab2 c o=match o with | some p=>arP c p | none=>yS c (fdF (hOf c) (mOf c) 4):=fun _=>rfl
 generalize hOf c=h at *
 generalize mOf c=m at *
 refine zS (acQ (alW (!(yI (flF h)).any fun x=>apP x (.bool true)) (!(yI (flF h)).any fun x=>apP x (.bool false)) (jh (ad7 (ae5 (ze rfl ⟨_,rfl,rfl,al0 _,by show 0<=50;decide,_,rfl,rfl⟩)))) (fun _=>jh (ad7 (ae5 (ze rfl ⟨_,rfl,rfl,al0 _,by show 0<=50;decide,_,rfl,rfl⟩)))) (yR (fun hb=>?_) fun hb=>?_)))
 ·obtain⟨z1,z2⟩:=fvm (alu h.1 h.2.1 h.2.2.1 h.2.2.2 hb)
  refine yB (PEdO.ped (alG (aiC (zq (y9 (zq (zB (zq (zB (zU ⟨_,rfl,by show 2<=1000;decide,zU ⟨_,rfl,by show 1<=1000;decide,_,rfl,zB ⟨_,rfl,by decide,by decide,?_⟩⟩⟩))))))))))
  rw [z1]
  have:∀ o,o∈([none,none,none,none]:List (Option (Fin 4×Bool)))->frD (ab2 c o)=.tuple [.int 1,.int 1]:=fun o ho=>by
   have:o=none:=by simpa using ho
   subst this
   rw [duN]
   dsimp only
   rw [z2]
   rfl
  rw [aql this]
  rfl
 clear hb fvm
 refine vp (aiT (w:=w) (aiU (ada (alG (aiC (zq (aif (zU ⟨_,rfl,by show 1<=1000;decide,_,rfl,zB ⟨_,rfl,by decide,by decide,show 3<8 by decide,fun D0=>?_⟩⟩))))))))
 have c40:c.2.natAbs<jx:=qP (apF (m:=2 ^ 40) (by show _<1099511627776;omega) (aqe (by decide) (by decide)))
 refine acv (fun ρ cs=>ρ=[some (.dat (.list (jm c.1))),some (.dat (.int c.2)),some (.dat (.list (yI (flF h)))),some (.own (f.M.length+0)),some (.dat (.bool m)),none,none,none]/\cs=[.lst ((fvL h m 0).map (opD c))]) (ac8 (zV (acg (alC (ze rfl ⟨[c.1 0,c.1 1,c.1 2,c.1 3],rfl,_,rfl,yK (zP (zB ⟨_,rfl,ze rfl ⟨_,rfl,⟨qP (by decide),c40⟩,_,rfl,zB ⟨_,rfl,_,rfl,zj ?_⟩⟩⟩))⟩))))) ?_
 ·refine⟨?_,rfl⟩
  rw [mid,show [c.1 0,c.1 1,c.1 2,c.1 3].sum=c.1 0+c.1 1+c.1 2+c.1 3 by simp only [List.sum_cons,List.sum_nil];omega]
  rfl
 rintro _ _ ⟨rfl,rfl⟩
 refine aaB (ac8 (zV (y9 (zq (zB (zq (zB (zU ⟨_,rfl,by show 2<=1000;decide,zj ?_⟩))))))))
 refine aaB (acr (qZ (zq (zB (zU ⟨_,rfl,by decide,by decide,fun n ρ cs=>n<=4/\(∃ x6 x7,ρ=[some (.dat (.list (jm c.1))),some (.dat (.int c.2)),some (.dat (.list (yI (flF h)))),some (.own (f.M.length+0)),some (.dat (.bool m)),some (.dat (frD (yS c (fdF h m n)))),x6,x7])/\cs=[.lst ((fvL h m n).map (opD c))],⟨by decide,⟨_,_,rfl⟩,rfl⟩,?_,?_⟩)))))
 ·rintro n d _ _ hd ⟨_,⟨x6,x7,rfl⟩,rfl⟩
  obtain⟨hn,rfl⟩:=qm hd
  have hn4:n<4:=hn
  obtain⟨q,rfl⟩:∃ q:Fin 4,n=q.val:=⟨⟨n,hn4⟩,rfl⟩
  obtain⟨b0,b1,b2,b3⟩:=bat q
  have i0:∀ {F:Fx} {ρ:zr} {Q:PyData->Prop},ρ[2]?=some (some (.dat (.list (yI (flF h)))))->ρ[6]?=some (some (.dat (.int (q.val:Nat))))->Q (.bool (flF h q))->PEd K F (tOp (aaG K) (yj 2) (yj 6)) ρ Q:=fun h2 h6 p=>yL (ze h2 ⟨_,rfl,ze h6 ⟨_,rfl,_,b0,p⟩⟩)
  have i3:∀ {F:Fx} {ρ:zr} {Q:PyData->Prop},ρ[2]?=some (some (.dat (.list (yI (flF h)))))->ρ[6]?=some (some (.dat (.int (q.val:Nat))))->Q (.bool (flF h (q+3)))->PEd K F (tOp (aaG K) (yj 2) (tOp (rI0 fun i j=>V.int (i - j)) (yj 6) (tC (V.int 1)))) ρ Q:=fun h2 h6 p=>yL (ze h2 ⟨_,rfl,yK (ze h6 ⟨_,rfl,zB ⟨_,rfl,_,rfl,_,b1,p⟩⟩)⟩)
  have i1:∀ {F:Fx} {ρ:zr} {Q:PyData->Prop},ρ[2]?=some (some (.dat (.list (yI (flF h)))))->ρ[6]?=some (some (.dat (.int (q.val:Nat))))->Q (.bool (flF h (q+1)))->PEd K F (tOp (aaG K) (yj 2) (tOp (rI (fun x j=>0<j) fun i j=>V.int (i % j)) (tOp (rI0 fun i j=>V.int (i+j)) (yj 6) (tC (V.int 1))) (tC (V.int 4)))) ρ Q:=fun h2 h6 p=>yL (ze h2 ⟨_,rfl,zP (yK (ze h6 ⟨_,rfl,zB ⟨_,rfl,_,rfl,zB ⟨_,rfl,by decide,_,rfl,_,b2,p⟩⟩⟩))⟩)
  have i2:∀ {F:Fx} {ρ:zr} {Q:PyData->Prop},ρ[2]?=some (some (.dat (.list (yI (flF h)))))->ρ[6]?=some (some (.dat (.int (q.val:Nat))))->Q (.bool (flF h (q+2)))->PEd K F (tOp (aaG K) (yj 2) (tOp (rI (fun x j=>0<j) fun i j=>V.int (i % j)) (tOp (rI0 fun i j=>V.int (i+j)) (yj 6) (tC (V.int 2))) (tC (V.int 4)))) ρ Q:=fun h2 h6 p=>yL (ze h2 ⟨_,rfl,zP (yK (ze h6 ⟨_,rfl,zB ⟨_,rfl,_,rfl,zB ⟨_,rfl,by decide,_,rfl,_,b3,p⟩⟩⟩))⟩)
  have ne:∀ {a b:Bool} {Q:PyData->Prop},Q (.bool (a != b))->Q (.bool (if true=true then !apP (.bool a) (.bool b) else apP (.bool a) (.bool b))):=fun {a b Q} p=>by rw [if_pos rfl,ne_bool];exact p
  have bl:∀ a:Bool,(PyData.bool a).canLay0=true:=fun _=>rfl
  obtain⟨fv1,fv2⟩:=fvs q
  refine zj (acv (fun ρ cs=>ρ=[some (.dat (.list (jm c.1))),some (.dat (.int c.2)),some (.dat (.list (yI (flF h)))),some (.own (f.M.length+0)),some (.dat (.bool m)),some (.dat (frD (yS c (fdF h m q.val)))),some (.dat (.int (q.val:Nat))),some (.dat (.bool ((flF h q != flF h (q+3)) && (flF h q != flF h (q+1)))))]/\cs=[.lst ((fvL h m q.val).map (opD c))]) (ac8 (zV (anz _ _ (qS (i0 rfl rfl (i3 rfl rfl ⟨bl _,bl _,by show min 0 0<=60;decide,ne rfl⟩))) (fun _=>qS (i0 rfl rfl (i1 rfl rfl ⟨bl _,bl _,by show min 0 0<=60;decide,ne rfl⟩))) (zj ⟨rfl,rfl⟩)))) ?_)
  rintro _ _ ⟨rfl,rfl⟩
  have stl:=fle (show q.val+1<=4 by omega)
  rw [fds q,apA] at stl
  have sq:∀ (l:List (Option (Fin 4×Bool))) (z:Fin 4),l.length=4->ixN (l.map (opD c)).length ((z.val:Nat):Int)=some z.val:=fun l z e=>aih rfl (by rw [api,e];exact z.isLt)
  have rd:∀ (l:List PyData) (z:Fin 4) (d:PyData),l.length=4->atI (l.set z.val d) ((z.val:Nat):Int)=some d:=fun l z d e=>qv (by rw [ap7 (by rw [e];exact z.isLt)])
  have up150:∀ {i:Int},i.natAbs<2 ^ 150->i.natAbs<jx:=fun h=>qP (aq6 h (ap8 (by decide) (by decide)))
  refine acv (fun ρ cs=>∃ fd fv,ρ=[some (.dat (.list (jm c.1))),some (.dat (.int c.2)),some (.dat (.list (yI (flF h)))),some (.own (f.M.length+0)),some (.dat (.bool m)),some (.dat (frD (yS c fd))),some (.dat (.int (q.val:Nat))),some (.dat (.bool ((flF h q != flF h (q+3)) && (flF h q != flF h (q+1)))))]/\cs=[.lst (fv.map (opD c))]/\fd=fdF h m q.val++(if c1F h m q=true then [(q,false)] else [])/\fv=if c1F h m q=true then (fvL h m q.val).set q.val (some (q,false)) else fvL h m q.val) (akt (aoi (adK _ ((flF h q != flF h (q+2)) || (flF h q != m)) (jw (ze rfl ⟨_,rfl,rfl⟩)) (fun _=>alW (flF h q != flF h (q+2)) (flF h q != m) (jh (qS (i0 rfl rfl (i2 rfl rfl ⟨bl _,bl _,by show min 0 0<=60;decide,⟨_,rfl,by rw [if_pos rfl,ne_bool]⟩⟩)))) (fun _=>jh (qS (i0 rfl rfl (ze rfl ⟨bl _,bl _,by show min 0 0<=60;decide,⟨_,rfl,by rw [if_pos rfl,ne_bool]⟩⟩)))) rfl) (yR (fun h1=>?_) fun h1=>?_)))) ?_
  ·have h1:c1F h m q=true:=h1
   have hst:stF h m q=(q,false) :: (if c2F h q=true then [(q,true)] else []):=by unfold stF;rw [if_pos h1];rfl
   have l1:(fdF h m q.val).length<=1:=by rw [hst,apL] at stl;omega
   have ba:=arc q (q,false) (by rw [hst];exact apo)
   have br:=rb _ l1
   refine aaB (afi (i:=3) (j:=0) rfl rfl (abv (zu (c,q) (aaM rfl rfl rfl ⟨rfl,⟨rfl,hok⟩,?_⟩))))
   rintro _ rfl
   refine abv (ze rfl ⟨_,q.val,rfl,sq _ q fv2,?_⟩)
   dsimp only
   have h4:∀ {Q:Option DV},(asA (freed f.M.length ([OC.lst ((fvL h m q.val).map (opD c))].set 0 (.lst (((fvL h m q.val).map (opD c)).set q.val (frD (arP c (q,false))))))) [some (.dat (.list (jm c.1))),some (.dat (.int c.2)),some (.dat (.list (yI (flF h)))),some (.own (f.M.length+0)),some (.dat (.bool m)),some (.dat (frD (yS c (fdF h m q.val)))),some (.dat (.int (q.val:Nat))),Q])[3]?=some (some (.dat (.list (((fvL h m q.val).map (opD c)).set q.val (frD (arP c (q,false))))))):=by
    intro Q
    show some (freed _ _ _)=_
    simp [freed]
   have ati:=rd ((fvL h m q.val).map (opD c)) q (frD (arP c (q,false))) (by rw [api];exact fv2)
   unfold frD at ati h4 ⊢
   refine alL (ai2 (aaU (vR ?t1)))
   case t1 =>
    refine yK (zP (yP (ze rfl ⟨_,rfl,zB ⟨_,rfl,_,rfl,_,rfl,yP (yL (ze h4 ⟨_,rfl,ze rfl ⟨_,rfl,_,ati,_,rfl,zB ⟨_,rfl,_,rfl,_,rfl,⟨up150 br.1,up150 ba.2.2⟩,_,rfl,zP (yP (yL (ze h4 ⟨_,rfl,ze rfl ⟨_,rfl,_,ati,_,rfl,zB ⟨_,rfl,_,rfl,_,rfl,yP (ze rfl ⟨_,rfl,zB ⟨_,rfl,_,rfl,_,rfl,⟨up150 ba.1,up150 br.2.2⟩,_,rfl,_,rfl,aaU (vR ?_)⟩⟩)⟩⟩⟩)))⟩⟩⟩))⟩⟩)))
    refine zP (yP (ze rfl ⟨_,rfl,zB ⟨_,rfl,_,rfl,_,rfl,yP (yL (ze h4 ⟨_,rfl,ze rfl ⟨_,rfl,_,ati,_,rfl,zB ⟨_,rfl,_,rfl,_,rfl,⟨up150 br.2.2,up150 ba.2.2⟩,_,rfl,ai1 ⟨_,rfl,by show 2<=1000;decide,?_⟩⟩⟩⟩))⟩⟩))
    refine⟨fdF h m q.val++[(q,false)],(fvL h m q.val).set q.val (some (q,false)),?_,?_,by rw [if_pos h1],by rw [if_pos h1]⟩
    ·rw [aas];rfl
    ·rw [<-abR];rfl
  ·have h1:c1F h m q=false:=h1
   have n1:¬ c1F h m q=true:=by rw [h1];exact apk
   exact ac9 ⟨fdF h m q.val,fvL h m q.val,rfl,rfl,by rw [if_neg n1,apY],by rw [if_neg n1]⟩
  rintro _ _ ⟨fd,fv,rfl,rfl,efd,efv⟩
  have tst:∀ {F:Fx} {ρ:zr} {B:Bool->Prop} {te:TE} {b:Bool},(∀ {Q:PyData->Prop},Q (.bool b)->PEd K F te ρ Q)->B b->PTd K F (ake K te) ρ B:=fun hte hB=>jw (hte ⟨_,rfl,hB⟩)
  refine akt (aoi (adK (flF h q) (flF h (q+1) && ((!flF h (q+3)) && !flF h (q+2))) (tst (i0 rfl rfl) rfl) (fun _=>adK (flF h (q+1)) ((!flF h (q+3)) && !flF h (q+2)) (tst (i1 rfl rfl) rfl) (fun _=>adK (!flF h (q+3)) (!flF h (q+2)) (ajM _ (tst (i3 rfl rfl) rfl) rfl) (fun _=>ajM _ (tst (i2 rfl rfl) rfl) rfl) rfl) rfl) (yR (fun h2=>?_) fun h2=>?_)))
  ·have h2:c2F h q=true:=h2
   obtain⟨z0,h1⟩:=c2a q h2
   have n1:¬ c1F h m q=true:=by rw [h1];exact apk
   rw [if_neg n1,apY] at efd
   rw [if_neg n1] at efv
   subst efd efv
   have hst:stF h m q=[(q,true)]:=by unfold stF;rw [h1,if_neg apk,if_pos h2];rfl
   have ba:=arc q (q,true) (by rw [hst];exact apo)
   refine aaB (afi (i:=3) (j:=0) rfl rfl (abv (zu (c,q) (aaM rfl rfl rfl ⟨rfl,⟨rfl,hok⟩,?_⟩))))
   rintro _ rfl
   refine abv (ze rfl ⟨_,q.val,rfl,sq _ q fv2,?_⟩)
   dsimp only
   have v1:(((q.val:Nat):Int)+1) % 4=(((q+1:Fin 4).val:Nat):Int):=by
    match q with
    | 0=>rfl | 1=>rfl | 2=>rfl | 3=>rfl
   have ati:=rd ((fvL h m q.val).map (opD c)) q (frD (arP c (q,true))) (by rw [api];exact fv2)
   have len1:(((fvL h m q.val).map (opD c)).set q.val (frD (arP c (q,true)))).length=4:=by rw [aqy,api];exact fv2
   generalize hL1:((fvL h m q.val).map (opD c)).set q.val (frD (arP c (q,true)))=L1 at *
   refine aaB (afi (i:=3) (j:=0) (es:=L1) rfl rfl (aoo (i:=3) (j:=0) (es:=L1) rfl rfl (abv (ze rfl ⟨_,rfl,_,ati,abv (zP (yK (ze rfl ⟨_,rfl,zB ⟨_,rfl,_,rfl,zB ⟨_,rfl,by decide,_,(q+1:Fin 4).val,rfl,?_,?_⟩⟩⟩)))⟩))))
   ·rw [v1]
    exact aih rfl (by rw [len1];exact Fin.isLt _)
   have at2:atI (L1.set (q+1:Fin 4).val (frD (arP c (q,true)))) ((q.val:Nat):Int)=some (frD (arP c (q,true))):=by
    refine qv ?_
    have nq:(q+1:Fin 4).val≠q.val:=by
     match q with
     | 0=>decide | 1=>decide | 2=>decide | 3=>decide
    rw [aqi nq,<- hL1,ap7 (by rw [api,fv2];exact q.isLt)]
   have h4:∀ {Q:Option DV},(asA (freed f.M.length [OC.lst (L1.set (q+1:Fin 4).val (frD (arP c (q,true))))]) [some (.dat (.list (jm c.1))),some (.dat (.int c.2)),some (.dat (.list (yI (flF h)))),some (.own (f.M.length+0)),some (.dat (.bool m)),some (.dat (frD (yS c (fdF h m q.val)))),some (.dat (.int (q.val:Nat))),Q])[3]?=some (some (.dat (.list (L1.set (q+1:Fin 4).val (frD (arP c (q,true))))))):=by
    intro Q
    show some (freed _ _ _)=_
    simp [freed]
   show PSm w K f _ _ [some (.dat (.list (jm c.1))),some (.dat (.int c.2)),some (.dat (.list (yI (flF h)))),some (.own (f.M.length+0)),some (.dat (.bool m)),some (.dat (frD (yS c (fdF h m q.val)))),some (.dat (.int (q.val:Nat))),some (.dat (.bool ((flF h q != flF h (q+3)) && (flF h q != flF h (q+1)))))] [OC.lst (L1.set (q+1:Fin 4).val (frD (arP c (q,true))))] _
   have fin:L1.set (q+1:Fin 4).val (frD (arP c (q,true)))=(fvL h m (q.val+1)).map (opD c):=by
    rw [fv1,<- hL1]
    unfold fvS
    rw [if_pos h2,if_neg n1,<- abR,<- abR]
    rfl
   have frs:frD ((arP c (q,true)).2 - (arP c (q,true)).1,(arP c (q,true)).2)=frD (yS c (fdF h m (q.val+1))):=by
    rw [fds q,hst,aas,z0]
    unfold rsP
    show frD _=frD (1 * _ - _ * 1,1 * _)
    rw [asH,Int.mul_one]
   generalize L1.set (q+1:Fin 4).val (frD (arP c (q,true)))=L2' at *
   unfold frD at at2 frs
   refine alL (ai2 (aaU (vR (yK (yP (yL (ze h4 ⟨_,rfl,ze rfl ⟨_,rfl,_,at2,_,rfl,zB ⟨_,rfl,_,rfl,_,rfl,yP (yL (ze h4 ⟨_,rfl,ze rfl ⟨_,rfl,_,at2,_,rfl,zB ⟨_,rfl,_,rfl,_,rfl,_,rfl,aaU (vR (yP (yL (ze h4 ⟨_,rfl,ze rfl ⟨_,rfl,_,at2,_,rfl,zB ⟨_,rfl,_,rfl,_,rfl,ai1 ⟨_,rfl,by show 2<=1000;decide,?_⟩⟩⟩⟩))))⟩⟩⟩))⟩⟩⟩)))))))
   refine⟨by omega,⟨some (.dat (.int (q.val:Nat))),some (.dat (.bool ((flF h q != flF h (q+3)) && (flF h q != flF h (q+1))))),?_⟩,?_⟩
   ·show _=([some (.dat (.list (jm c.1))),some (.dat (.int c.2)),some (.dat (.list (yI (flF h)))),some (.own (f.M.length+0)),some (.dat (.bool m)),some (.dat (frD (yS c (fdF h m (q.val+1))))),_,_]:zr)
    unfold frD
    rw [<-frs]
    rfl
   ·rw [fin]
  ·have h2:c2F h q=false:=h2
   have n2:¬ c2F h q=true:=by rw [h2];exact apk
   have e:fd=fdF h m (q.val+1):=by
    rw [efd,fds q]
    unfold stF
    rw [if_neg n2,apY]
   have e2:fv=fvL h m (q.val+1):=by
    rw [efv,fv1]
    unfold fvS
    rw [if_neg n2]
   subst e e2
   exact ac9 ⟨by omega,⟨_,_,rfl⟩,rfl⟩
 ·rintro _ _ ⟨_,⟨x6,x7,rfl⟩,rfl⟩
  show PSm w K f _ _ [some (.dat (.list (jm c.1))),some (.dat (.int c.2)),some (.dat (.list (yI (flF h)))),some (.own (f.M.length+0)),some (.dat (.bool m)),some (.dat (frD (yS c (fdF h m 4)))),x6,x7] [OC.lst ((fvL h m 4).map (opD c))] _
  have h3:(asA (abx w K f.M.length [OC.lst ((fvL h m 4).map (opD c))]) [some (.dat (.list (jm c.1))),some (.dat (.int c.2)),some (.dat (.list (yI (flF h)))),some (.own (f.M.length+0)),some (.dat (.bool m)),some (.dat (frD (yS c (fdF h m 4)))),x6,x7])[3]?=some (some (.dat (.list ((fvL h m 4).map (opD c))))):=by
   show some (abx _ _ _ _ (some (.own (f.M.length+0))))=_
   simp [abx]
  refine akC (yB (PEdO.ped (vq (A:=opD c) (B:=fun o=>frD (ab2 c o)) (fvL h m 4) (yz (ze h3 ⟨_,rfl,rfl,by rw [fvn];decide,?_,?_⟩)))))
  ·rintro D o ρ' es ho' ho hes
   obtain⟨u1,rfl⟩:=ho.one
   ·refine zj (jC ?_)
    rw [if_pos rfl]
    refine yE hes (yL (aaw (zq (ze (i:=1) (d:=frD (yS c (fdF h m 4))) rfl (zq (ze rfl (zU ⟨_,rfl,by show 2<=1000;decide,_,rfl,aiv (zq (akJ (ze rfl ?_)))⟩)))))))
    cases o with
    | none=>exact .inl ⟨rfl,zU (.inr ⟨false,rfl,_,rfl,_,rfl,⟨[_],rfl,rfl⟩,by rw [duN]⟩)⟩
    | some p=>exact .inr ⟨_,rfl,zU (.inr ⟨true,rfl,_,rfl,_,rfl,⟨[_],rfl,rfl⟩,by rw [duN];rfl⟩)⟩
  ·rfl
theorem ao2 {w:World} {K:apj} {f:Fx} {ρ:zr} {te:TE} {P:DV->Prop} (h:abW w K f te ρ fun c=>∃ kvs,c=.dic kvs/\P (.mon (aaK w K kvs))):PEv K f te ρ P:=fun σ H Q e q=>h σ H Q e fun c D H' g hn ow ⟨kvs,ec,p⟩=>by
 subst ec
 obtain⟨xs,h1,h2⟩:=ow
 have nD:=fresh_ne e.fd hn
 exact q (.mon (aaK w K kvs)) (.ref D) H' g (fun H'' s=>⟨D,xs,rfl,s D _ (zz nD h1),EntR.mono (same_with.trans s) h2⟩) p
noncomputable def ahT (rows:List (List Int)):List (List Int):=(rows.take 2).map (·.take 2)
theorem ahU {wd:Nat} {rows:List (List Int)} (g:Good wd rows):Good 2 (ahT rows)/\(ahT rows).length=2:=by
 have h1:=g.h1
 have w1:=g.w1
 have ln:(ahT rows).length=2:=by unfold ahT;rw [api,apX];omega
 refine⟨⟨by omega,by omega,by omega,by omega,fun r hr=>?_,fun r hr n hn=>?_⟩,ln⟩
 ·obtain⟨q,hq,rfl⟩:=apJ.mp hr
  have:=g.row q (aqC hq)
  rw [apX]
  omega
 ·obtain⟨q,hq,rfl⟩:=apJ.mp hr
  exact g.hgt q (aqC hq) n (aqC hn)
theorem ajX {rows:List (List Int)} (g:Good 2 rows) (h:rows.length=2):∃ a b c d,rows=[[a,b],[c,d]]:=by
 match rows,h with
 | [r1,r2],_ =>
  have l1:=g.row r1 (by simp)
  have l2:=g.row r2 (by simp)
  match r1,r2,l1,l2 with
  | [a,b],[c,d],_,_=>exact⟨a,b,c,d,rfl⟩
noncomputable def atK:List (PyData×PyData):=L2.putAll [(.tuple [.int 0,.int 0],.int 0),(.tuple [.int 1,.int 0],.int 1),(.tuple [.int 1,.int 1],.int 2),(.tuple [.int 0,.int 1],.int 3)] []
theorem anI (k:Fin 4):j8 (pD (cnF (0,0) k)) atK=some (.int (k.val:Nat)):=by
 have ne:∀ a b c d:Int,(a≠c \/ b≠d)->PyData.tuple [.int a,.int b]≠.tuple [.int c,.int d]:=fun a b c d h e=>by
  simp at e
  omega
 unfold atK L2.putAll
 simp only [as7,List.foldl_nil]
 match k with
 | 0 =>
  show j8 (.tuple [.int 0,.int 0]) _=_
  rw [yQ _ (ne _ _ _ _ (by decide)),yQ _ (ne _ _ _ _ (by decide)),yQ _ (ne _ _ _ _ (by decide)),ql]
  rfl
 | 1 =>
  show j8 (.tuple [.int (0+1),.int 0]) _=_
  rw [show ((0:Int)+1)=1 from rfl,yQ _ (ne _ _ _ _ (by decide)),yQ _ (ne _ _ _ _ (by decide)),ql]
  rfl
 | 2 =>
  show j8 (.tuple [.int (0+1),.int (0+1)]) _=_
  rw [show ((0:Int)+1)=1 from rfl,yQ _ (ne _ _ _ _ (by decide)),ql]
  rfl
 | 3 =>
  show j8 (.tuple [.int 0,.int (0+1)]) _=_
  rw [show ((0:Int)+1)=1 from rfl,ql]
  rfl
theorem apg (a b:Int):aaI (.tuple [.int a,.int b]):=qJ (a,b)
theorem ahV {rows:List (List Int)} (h2:rows.length=2) {p:Pt} (hp:inP rows 2 p=true):∃ k,p=cnF (0,0) k:=by
 obtain⟨x0,x1,y0,y1⟩:=yZ hp
 obtain⟨x,y⟩:=p
 dsimp only at *
 have hx:x=0 \/ x=1:=by omega
 have hy:y=0 \/ y=1:=by omega
 rcases hx with rfl | rfl <;> rcases hy with rfl | rfl
 ·exact⟨0,rfl⟩
 ·exact⟨3,rfl⟩
 ·exact⟨1,rfl⟩
 ·exact⟨2,rfl⟩
theorem anJ {K:apj} {f:Fx} {ρ:zr} {wi:TI} {g:TG} {tt:L2.TT} {own:Nat} {fr:List Nat} {tb:Addr->TB} {P:List PyData->Prop} {α:Type} (A B:α->PyData) (h:PId K f wi ρ fun ds=>∃ xs:List α,ds=xs.map A/\xs.length<=1000 /\
   (∀ D x ρ' es,x∈xs->OwnE own (L2.frD fr ρ) ρ'->es.length<1000->PGd K (f.with D) g (A x) ρ' fun ρ2=>PTd K (f.with D) tt ρ2 fun b=>if b=true then PBd K f D (tb D) ρ2 es fun ρ3 es3=>OwnE own (L2.frD fr ρ) ρ3/\es3=es++[B x] else False)/\P (xs.map B)) :
  PEdO K f (qM wi own fr g tt tb) ρ P :=
 abe (h.imp fun ds ⟨xs,ed,hl,hs,hp⟩=>by
  subst ed
  refine⟨fun i ρ' es=>OwnE own (L2.frD fr ρ) ρ'/\es=(xs.take i).map B,⟨⟨aqb own none,by simp,rfl⟩,by simp⟩,fun D i d ρ' es hd ⟨ho,he⟩=>?_,fun ρ' es ⟨_,he⟩=>?_⟩
  ·rw [apt] at hd
   cases eq:xs[i]? with
   | none=>rw [eq] at hd;cases hd
   | some x =>
    rw [eq] at hd
    cases hd
    have hi:i<xs.length:=(apm.mp eq).1
    have hb:es.length<1000:=by
     rw [he,api,apX]
     omega
    intro σ H v Q e r q
    refine hs D x ρ' es (apv eq) ho hb σ H v Q e r fun ρ2 σ2 H2 g2 e2 p2=>q ρ2 σ2 H2 g2 e2 (p2.imp fun b hb2=>?_)
    cases b with
    | false =>
     rw [if_neg apk] at hb2
     exact hb2.elim
    | true =>
     rw [if_pos rfl] at hb2 ⊢
     intro h1 h2 σ3 H3 H4 W c k
     exact hb2 h1 h2 σ3 H3 H4 W c fun ρ5 es5 σ5 H5 c5 ⟨o5,p5⟩=>k ρ5 es5 σ5 H5 c5 ⟨o5,by rw [p5,he,aqh,eq,apQ];rfl⟩
  ·rw [he,api,aqk]
   exact hp)
theorem anK {f:Addr} {fd:FuncData} (F:Fun K "law" "law" aaD f fd) (uaa:mg "len"=none) (uab:mg "range"=none) (uah:mg "max"=none) (uaf:mg "min"=none) (uag:mg "zip"=none)
  (ubh:FnIn P w K mg base k "_law_feed" pU (afB K)) (ubi:FnIn P w K mg base k "_law_table" pV (agr K)) (ubj:FnIn P w K mg base k "_law_cut" pW (alP K)) (ubk:FnIn P w K mg base k "_law_common" pO (acz K)) (ubl:FnIn P w K mg base k "_law_areas" pX (al1 K)) (uat:FnIn P w K mg base k "regions" pz (adD K)) (ubm:FnIn P w K mg base k "region_areas" pz (agK K)) :
  FnOk P w K mg base CX0 (k+1) f fd pY (agz K):=by
 refine F.ok sc_law (fun vs H Q E h=>?_) fun cdv A outer s H vs Q E hr hs=>⟨_,(zd (jo ap4 rfl (y7 rfl uab (za (zM (agW rfl) rfl uah boot_max (za zc (za (zM (ab6 rfl) rfl uaf boot_min (za zc (za (zM (yJ (K:=K) rfl) rfl uaa aqI (za (pv 0) zb)) zb))) zb))) zb)) (zf (i:=1) sc_law.nd rfl (Or.inl rfl) (Or.inr rfl)) (zd (zK (i:=2) sc_law.nd rfl (Or.inl rfl) (zg ubh hr rfl (za (pv 0) (za (pv 1) zb)))) (zd (yO (i:=3) (N:=["_law_row"]) (own:=1) (fr:=[]) ⟨rfl,by decide +kernel,of_decide_eq_true (by kernel_rfl),of_decide_eq_true (by kernel_rfl),of_decide_eq_true (by kernel_rfl),rfl⟩ rfl sc_law.nd rfl (Or.inl rfl) (zW (K:=K) rfl (qf (qi (K:=K) rfl) (zg ubi hr rfl (za (pv 2) zb)) qX (qY zc))) (fun _ _ _ _=>(zf (i:=0) (show (["_law_row"]:List Str).Nodup by decide +kernel) rfl (Or.inl rfl) (Or.inr rfl))) (fun _ _ _ _=>yr) (fun _ _ _ _=>(qf (qi (K:=K) rfl) (pv 0) qX (qY zc))) rfl rfl (fun _=>rfl) (Or.inl rfl) rfl) (zd (zK (i:=4) sc_law.nd rfl (Or.inl rfl) (zg ubj hr rfl (za (pv 2) (za (pv 3) zb)))) (zd (zK (i:=5) sc_law.nd rfl (Or.inl rfl) (yt (za (zx (zp (K:=K) rfl) (zx (zp (K:=K) rfl) (pv 3) zc (fun _ _=>rfl)) zc (fun _ _=>rfl)) (za (zx (zp (K:=K) rfl) (zx (zp (K:=K) rfl) (pv 3) zc (fun _ _=>rfl)) zc (fun _ _=>rfl)) (za (zx (zp (K:=K) rfl) (zx (zp (K:=K) rfl) (pv 3) zc (fun _ _=>rfl)) zc (fun _ _=>rfl)) (za (zx (zp (K:=K) rfl) (zx (zp (K:=K) rfl) (pv 3) zc (fun _ _=>rfl)) zc (fun _ _=>rfl)) zb)))))) (zd (zK (i:=6) sc_law.nd rfl (Or.inl rfl) (zg ubl hr rfl (za (pv 5) (za (pv 4) zb)))) (@zd _ _ _ _ _ (@akL _ 7 _ _ _ _ _ (ai6 (w:=w) (K:=K) rfl rfl hr.units) sc_law.nd rfl (Or.inl rfl) rfl (Or.inr rfl)) (zd (zK (i:=8) sc_law.nd rfl (Or.inl rfl) (zg ubm hr rfl (za (pv 3) (za (pv 4) zb)))) (zm (jo ap4 rfl (ago (K:=K) rfl rfl uag (za (zg uat hr rfl (za (pv 3) (za (pv 4) zb))) (za (pv 8) zb))) (zN (K:=K) (n:=2) rfl rfl (zh (zf (i:=9) sc_law.nd rfl (Or.inl rfl) (Or.inr rfl)) (zh (zf (i:=10) sc_law.nd rfl (Or.inl rfl) (Or.inr rfl)) zL))) (zd (yg (zx (zp (K:=K) rfl) (pv 6) (zx (agj (w:=w) (K:=K) rfl rfl hr.units) (pv 7) (zx (zZ (K:=K) rfl) (zx (zZ (K:=K) rfl) (pv 9) zc (fun _ _=>rfl)) zc (fun _ _=>rfl)) (fun _ _=>rfl)) (fun _ _=>rfl)) (zN (K:=K) (n:=2) rfl rfl (zh (zf (i:=11) sc_law.nd rfl (Or.inl rfl) (Or.inr rfl)) (zh (zf (i:=12) sc_law.nd rfl (Or.inl rfl) (Or.inr rfl)) zL)))) (zd (zK (i:=13) sc_law.nd rfl (Or.inl rfl) (zg ubk hr rfl (za (pv 11) (za (pv 12) zb)))) (zm (y6 (ye (vC (K:=K) rfl hr.units) (pv 10) (zG (za (zl vT (pv 11) (pv 13)) (za (zl vT (pv 12) (pv 13)) zb))) (yo _)) (zm (zC vJ)) yk)))))))))))))) (zm (zC vJ))),?_⟩
 ·obtain⟨a,ns,rfl,_⟩:=h
  rfl
 obtain⟨a,ns,rfl,hS,h63,q⟩:=hs
 have e0:EnvOk K L2.f0 (qz agq [.dat (scr ns)]) (start agq [.ref a]) H:=qh (.cons (agy hS) .nil) (L2.fok0 H)
 suffices h:PSd K L2.f0 _ (qz agq [.dat (scr ns)]) { nx:=fun _=>False,rt:=fun d=>d=.bool true } from
  h _ H _ e0 (fun _ _ _ _ _ z=>z.elim) (fun d v H' _ r z=>by
   subst z
   rw [rep_bool.mp r]
   exact q H') (fun _ _ _ _ _ z=>z) (fun _ _ _ _ _ z=>z)
 refine zS (air (qZ (ala (R:=fun xs=>∃ j:Int,xs=[.dat (.int j)]/\0<=j/\j<=63) ?_ ?_)))
 ·walk_at "w"
  rw [api]
  split <;> split <;> omega
 rintro _ ⟨j,rfl,j0,j1⟩
 refine⟨j,rfl,by omega,by omega,fun i ρ=>∃ x1 x2 x3 x4 x5 x6 x7 x8 x9 x10 x11 x12 x13,ρ=[some (.dat (scr ns)),x1,x2,x3,x4,x5,x6,x7,x8,x9,x10,x11,x12,x13],⟨_,_,_,_,_,_,_,_,_,_,_,_,_,rfl⟩,?_,?_⟩
 ·rintro i d _ hi ⟨x1,x2,x3,x4,x5,x6,x7,x8,x9,x10,x11,x12,x13,rfl⟩
  obtain⟨hi,rfl⟩:=qm hi
  refine zj (amy (anl rfl rfl h63 (by omega) (by omega)) fun p=>?_)
  refine aaC (fun ρ=>∃ rows,ρ=[some (.dat (scr ns)),some (.dat (.int i)),some .feed,some (.dat (tab rows)),x4,x5,x6,x7,x8,x9,x10,x11,x12,x13]/\Good 2 rows/\rows.length=2) (zV ?_) ?_
  ·refine PEdO.ped (anJ (fun r:List Int=>PyData.list (r.map .int)) (fun r:List Int=>PyData.list ((r.take 2).map .int)) (yz (abh (zu () ?_))))
   walk_at "w"
   rintro _ ⟨wd,rows0,rfl,g0⟩
   have h2:=g0.h2
   refine⟨_,rfl,abf (abg (zB ⟨_,rfl,_,rfl,?_⟩))⟩
   refine⟨rows0.take 2,((L2.cut_upto (ds:=rows0.map fun q=>PyData.list (q.map .int)) (n:=2)).trans arI.symm:_),by rw [apX];omega,?_,zj ⟨ahT rows0,?_,ahU g0⟩⟩
   ·rintro D r ρ' es hr' ho hes
    obtain⟨us,hus,rfl⟩:=ho
    match us,hus with
    | [u1],_ =>
     refine zj (jC ?_)
     rw [if_pos rfl]
     refine yE hes (abh (ze rfl ⟨_,rfl,abf (abg (zB ⟨_,rfl,⟨[_],rfl,rfl⟩,?_⟩))⟩))
     exact congrArg (fun l=>es++[PyData.list l]) ((L2.cut_upto (ds:=r.map PyData.int) (n:=2)).trans arI.symm)
   ·unfold ahT tab
    rw [ap1]
    rfl
  rintro _ ⟨rows,rfl,g,h2⟩
  refine zS (zV (zu (rows,2) ?_))
  walk_at "w"
  rintro _ ⟨ct,rfl,c0,c1⟩
  have cb:-10000000000<=ct/\ct<=10000000000:=by omega
  have hc:yy rows 2 (0,0)=true:=by
   show yY rows 2 0 0=true
   unfold yY yx
   rw [h2]
   rfl
  have fok:=ajR g hc cb
  have due:=fun k=>anF g hc cb k
  have fvn:=ajS (hF rows ct (0,0)).1 (hF rows ct (0,0)).2.1 (hF rows ct (0,0)).2.2.1 (hF rows ct (0,0)).2.2.2 (mF rows ct (0,0))
  refine zj (aaC (fun ρ=>ρ=[some (.dat (scr ns)),some (.dat (.int i)),some .feed,some (.dat (tab rows)),some (.dat (.int ct)),some (.dat (.list (jm (frm rows ct (0,0)).1))),x6,x7,x8,x9,x10,x11,x12,x13]) (zV ?_) ?_)
  ·obtain⟨a,b,c,d,rfl⟩:=ajX g h2
   walk_at "w"
   first | rfl | exact zj rfl
  rintro _ rfl
  refine zS (zV (zu (frm rows ct (0,0)) (aak rfl rfl ⟨rfl,⟨rfl,fok⟩,?_⟩)))
  rintro _ rfl
  rw [agQ,agR]
  refine zj (zS (aiY (ao2 (w:=w) (akI fun p0=>aaV (y9 (zq (zB (zq (zB (zU ⟨_,rfl,by show 2<=1000;decide,zB (aaV (y9 (zq (zB (zq (zB (zU ⟨_,rfl,by show 2<=1000;decide,zB (aaV (y9 (zq (zB (zq (zB (zU ⟨_,rfl,by show 2<=1000;decide,zB (aaV (y9 (zq (zB (zq (zB (zU ⟨_,rfl,by show 2<=1000;decide,zB (am2 ⟨?_,by show 4<=1000;decide,atK,rfl,?_⟩)⟩)))))))⟩)))))))⟩)))))))⟩))))))))))
  ·intro z hz
   simp only [apq,ap0,or_false] at hz
   rcases hz with rfl | rfl | rfl | rfl <;> exact apg _ _
  refine zS (zV (PEdO.ped (acY (rows,2,ct) (aak rfl rfl ⟨rfl,⟨rfl,g⟩,?_⟩))))
  rintro _ ⟨rs,R,rl,rfl⟩
  dsimp only at R
  refine zj (air (alM (zq (PEdO.ped (acY (rows,2,ct) (aak rfl rfl ⟨rfl,⟨rfl,g⟩,?_⟩))))))
  rintro _ ⟨us,rfl,U,ul⟩
  dsimp only at U
  obtain rfl:=aeE R U
  have at_:∀ (n:Nat) d,(afj (rs.map abL) ((apK rs.length).map fun j=>aal (yA (qsF rs rows 2 ct j))))[n]?=some d->n<rs.length/\∃ r,rs[n]?=some r/\d=.tuple [abL r,aal (ArQ rs rows 2 ct n)]:=fun n d h=>by
   unfold afj at h
   rw [atc,apt,apt] at h
   cases e:rs[n]? with
   | none=>rw [e] at h;cases h
   | some r =>
    have hn:=(apm.mp e).1
    rw [e,aqJ hn] at h
    cases h
    exact⟨hn,r,rfl,rfl⟩
  refine aaL rfl ⟨_,_,rfl,fun _ ρ=>∃ x9 x10 x11 x12 x13,ρ=[some (.dat (scr ns)),some (.dat (.int i)),some .feed,some (.dat (tab rows)),some (.dat (.int ct)),some (.dat (.list (jm (frm rows ct (0,0)).1))),some (.dat (.list ((fvL (hF rows ct (0,0)) (mF rows ct (0,0)) 4).map fun o=>frD (ab2 (frm rows ct (0,0)) o)))),some (.mon (aaK w K atK)),some (.dat (.list ((apK rs.length).map fun j=>aal (yA (qsF rs rows 2 ct j))))),x9,x10,x11,x12,x13],⟨_,_,_,_,_,rfl⟩,?_,?_⟩
  ·rintro n d _ hd ⟨x9,x10,x11,x12,x13,rfl⟩
   obtain⟨hn,r,hr',rfl⟩:=at_ n d hd
   obtain⟨hp,G⟩:=R.reg r (apv hr')
   obtain⟨kk,rfl⟩:=ahV h2 G.inn
   have hk:cnF (0,0) kk∈r.2:=List.mem_of_head? G.hd
   have ar:=ajW g h2 rfl R hr' hk
   have ap:=ajL g R hn
   obtain⟨o,ho,fo,bo⟩:=due kk
   have hd0:atI (r.2.map pD) 0=some (pD (cnF (0,0) kk)):=qv (j:=0) (by rw [apt,<- List.head?_eq_getElem?,G.hd];rfl)
   have hda:atI ((fvL (hF rows ct (0,0)) (mF rows ct (0,0)) 4).map fun o=>frD (ab2 (frm rows ct (0,0)) o)) ((kk.val:Nat):Int)=some (frD (ab2 (frm rows ct (0,0)) o)):=qv (by rw [apt,ho];rfl)
   rw [ar,<- fo] at ap
   rw [ar,<- fo]
   generalize ab2 (frm rows ct (0,0)) o=pq at *
   obtain⟨t0,t1⟩:=pq
   obtain⟨bo1,bo2,bo3⟩:=bo
   dsimp only at bo1 bo2 bo3
   have t0p:0<=t0:=by
    have hz:=vm bo2
    have e1:((t0:Int):Rat)=frQ (t0,t1) * ((t1:Int):Rat):=by
     unfold frQ
     rw [apM]
     grind
    have p1:(0:Rat)<((t1:Int):Rat):=by exact_mod_cast bo2
    have p2:(0:Rat)<((t0:Int):Rat):=by rw [e1];exact Rat.mul_pos ap p1
    have:0<t0:=by exact_mod_cast p2
    omega
   unfold abL frD at *
   refine aor (zS (zV (yL (ze rfl ⟨_,rfl,alI (w:=w) (v_var rfl ⟨atK,rfl,yP (yP (ze rfl ⟨_,rfl,zB ⟨_,rfl,_,rfl,_,rfl,zB ⟨_,rfl,_,hd0,qJ _,_,anI kk,_,rfl,_,hda,aor ?_⟩⟩⟩))⟩)⟩))))
   obtain⟨T,rfl⟩:=aqD t0p
   obtain⟨B,rfl⟩:=aqD (asZ bo2)
   have bp:0<B:=by omega
   refine zS (zV (zu (T,B) (aak rfl rfl ⟨rfl,rfl,?_⟩)))
   rintro _ rfl
   dsimp only
   obtain⟨q1,q2⟩:=acx (t:=(T:Int)) (b:=(B:Int)) (by omega)
   rw [aqH (show (0:Int)<B by omega),asH] at q1 q2
   have gg:aqz (T:Int) (B:Int)=asj T B:=rfl
   rw [gg] at q1 q2
   have gp:0<asj T B:=Nat.gcd_pos_of_pos_right _ bp
   have gl:asj T B<=B:=Nat.gcd_le_right _ bp
   have bh:B<jx:=by
    rw [aqf] at bo3
    exact yU bo3 (by decide)
   have nz:((asj T B:Nat):Int)≠0:=by omega
   have nh:((asj T B:Nat):Int).natAbs<jx:=by rw [aqf];omega
   have lay:(aal (frQ ((T:Int),(B:Int)))).canLay0=true:=rfl
   refine zj (acQ (jh (qS (ze rfl (y9 (zq (zP (ze rfl ⟨_,rfl,ze rfl ⟨_,rfl,⟨nz,nh⟩,zq (zP (ze rfl ⟨_,rfl,ze rfl ⟨_,rfl,⟨nz,nh⟩,zU ⟨_,rfl,by show 2<=1000;decide,lay,rfl,by show min 1 1<=60;decide,_,rfl,?_⟩⟩⟩))⟩⟩))))))))
   rw [if_pos rfl,q1,q2,show PyData.tuple [.int (apG (T:Int) (B:Int)).num,.int ((apG (T:Int) (B:Int)).den:Nat)]=aal (frQ ((T:Int),(B:Int))) from rfl,SeqAt.eqv_refl _ lay,aqv,if_neg apk]
   exact vp ⟨_,_,_,_,_,rfl⟩
  ·rintro _ ⟨x9,x10,x11,x12,x13,rfl⟩
   exact⟨_,_,_,_,_,_,_,_,_,_,_,_,_,rfl⟩
 ·rintro _ ⟨x1,x2,x3,x4,x5,x6,x7,x8,x9,x10,x11,x12,x13,rfl⟩
  exact yB (ae5 rfl)
end
theorem _root_.L2.FnIn.m {P w K mg base j k x ps sp} (h:FnIn P w K mg base j x ps sp) (hk:j<=k:=by decide):FnIn P w K mg base k x ps sp:=h.mono hk
theorem xf1 {K:as6} {h:Heap} {mg:Str->Option Value} {x:Str} {st:Stmt} {f:Addr} {od an:Option Addr} {sl:Array (Option Value)} {oc kV dc pm cd ct:Value} (X:K.In h) (G:h.Ns mainGlobals mg) (a:FD K x st f od an sl oc kV dc pm cd ct) {p0:Str} (hb:∀ (kV doc pm:Value) (an:Option Addr) (cdv ct:Value) (u0:Value),bindArgs (aqx x x (jf st) (yC st) (zk st) .none kV doc pm an cdv ct) ⟨[u0],[]⟩=pure ([p0].zip [u0])):Def K mg x st [p0]:=akD X G a (fun _ _ _ _ _ _ us hl=>match us,hl with | [u0],_=>hb _ _ _ _ _ _ u0)
theorem xf2 {K:as6} {h:Heap} {mg:Str->Option Value} {x:Str} {st:Stmt} {f:Addr} {od an:Option Addr} {sl:Array (Option Value)} {oc kV dc pm cd ct:Value} (X:K.In h) (G:h.Ns mainGlobals mg) (a:FD K x st f od an sl oc kV dc pm cd ct) {p0 p1:Str} (hb:∀ (kV doc pm:Value) (an:Option Addr) (cdv ct:Value) (u0 u1:Value),bindArgs (aqx x x (jf st) (yC st) (zk st) .none kV doc pm an cdv ct) ⟨[u0,u1],[]⟩=pure ([p0,p1].zip [u0,u1])):Def K mg x st [p0,p1]:=akD X G a (fun _ _ _ _ _ _ us hl=>match us,hl with | [u0,u1],_=>hb _ _ _ _ _ _ u0 u1)
theorem xf3 {K:as6} {h:Heap} {mg:Str->Option Value} {x:Str} {st:Stmt} {f:Addr} {od an:Option Addr} {sl:Array (Option Value)} {oc kV dc pm cd ct:Value} (X:K.In h) (G:h.Ns mainGlobals mg) (a:FD K x st f od an sl oc kV dc pm cd ct) {p0 p1 p2:Str} (hb:∀ (kV doc pm:Value) (an:Option Addr) (cdv ct:Value) (u0 u1 u2:Value),bindArgs (aqx x x (jf st) (yC st) (zk st) .none kV doc pm an cdv ct) ⟨[u0,u1,u2],[]⟩=pure ([p0,p1,p2].zip [u0,u1,u2])):Def K mg x st [p0,p1,p2]:=akD X G a (fun _ _ _ _ _ _ us hl=>match us,hl with | [u0,u1,u2],_=>hb _ _ _ _ _ _ u0 u1 u2)
theorem xf4 {K:as6} {h:Heap} {mg:Str->Option Value} {x:Str} {st:Stmt} {f:Addr} {od an:Option Addr} {sl:Array (Option Value)} {oc kV dc pm cd ct:Value} (X:K.In h) (G:h.Ns mainGlobals mg) (a:FD K x st f od an sl oc kV dc pm cd ct) {p0 p1 p2 p3:Str} (hb:∀ (kV doc pm:Value) (an:Option Addr) (cdv ct:Value) (u0 u1 u2 u3:Value),bindArgs (aqx x x (jf st) (yC st) (zk st) .none kV doc pm an cdv ct) ⟨[u0,u1,u2,u3],[]⟩=pure ([p0,p1,p2,p3].zip [u0,u1,u2,u3])):Def K mg x st [p0,p1,p2,p3]:=akD X G a (fun _ _ _ _ _ _ us hl=>match us,hl with | [u0,u1,u2,u3],_=>hb _ _ _ _ _ _ u0 u1 u2 u3)
set_option autoImplicit true in
set_option relaxedAutoImplicit true in
theorem all_mk {l:PySem.W.OpenLaw} {w:World} {K:apj} {h:Heap} {mg:Str->Option Value} {fa:Addr} (X:K.In h) (G:h.Ns mainGlobals mg) (hfa:mg "law"=some (.ref fa))
  (a1:FD K "size" adl f1 od1 an1 sl1 oc1 kV1 dc1 pm1 cd1 ct1)
  (a2:FD K "points" vU f2 od2 an2 sl2 oc2 kV2 dc2 pm2 cd2 ct2)
  (a3:FD K "has_point" jV f3 od3 an3 sl3 oc3 kV3 dc3 pm3 cd3 ct3)
  (a4:FD K "neighbours" jE f4 od4 an4 sl4 oc4 kV4 dc4 pm4 cd4 ct4)
  (a5:FD K "cells" aaX f5 od5 an5 sl5 oc5 kV5 dc5 pm5 cd5 ct5)
  (a6:FD K "has_cell" qC f6 od6 an6 sl6 oc6 kV6 dc6 pm6 cd6 ct6)
  (a7:FD K "corners" va f7 od7 an7 sl7 oc7 kV7 dc7 pm7 cd7 ct7)
  (a8:FD K "cells_at" qD f8 od8 an8 sl8 oc8 kV8 dc8 pm8 cd8 ct8)
  (a9:FD K "common" vV f9 od9 an9 sl9 oc9 kV9 dc9 pm9 cd9 ct9)
  (a10:FD K "shortened" jW f10 od10 an10 sl10 oc10 kV10 dc10 pm10 cd10 ct10)
  (a11:FD K "total" aaY f11 od11 an11 sl11 oc11 kV11 dc11 pm11 cd11 ct11)
  (a12:FD K "ask_table" jX f12 od12 an12 sl12 oc12 kV12 dc12 pm12 cd12 ct12)
  (a13:FD K "fits" adn f13 od13 an13 sl13 oc13 kV13 dc13 pm13 cd13 ct13)
  (a14:FD K "is_row" vW f14 od14 an14 sl14 oc14 kV14 dc14 pm14 cd14 ct14)
  (a15:FD K "stands_high" ju f15 od15 an15 sl15 oc15 kV15 dc15 pm15 cd15 ct15)
  (a16:FD K "gate_points" jv f16 od16 an16 sl16 oc16 kV16 dc16 pm16 cd16 ct16)
  (a17:FD K "has_gate" qE f17 od17 an17 sl17 oc17 kV17 dc17 pm17 cd17 ct17)
  (a18:FD K "is_open" vb f18 od18 an18 sl18 oc18 kV18 dc18 pm18 cd18 ct18)
  (a19:FD K "cell_gates" jF f19 od19 an19 sl19 oc19 kV19 dc19 pm19 cd19 ct19)
  (a20:FD K "is_crossed" jG f20 od20 an20 sl20 oc20 kV20 dc20 pm20 cd20 ct20)
  (a21:FD K "has_high_middle" yM f21 od21 an21 sl21 oc21 kV21 dc21 pm21 cd21 ct21)
  (a22:FD K "place_of" qG f22 od22 an22 sl22 oc22 kV22 dc22 pm22 cd22 ct22)
  (a23:FD K "share" aaZ f23 od23 an23 sl23 oc23 kV23 dc23 pm23 cd23 ct23)
  (a24:FD K "regions" vc f24 od24 an24 sl24 oc24 kV24 dc24 pm24 cd24 ct24)
  (a25:FD K "indexes" vd f25 od25 an25 sl25 oc25 kV25 dc25 pm25 cd25 ct25)
  (a26:FD K "all_joined" jH f26 od26 an26 sl26 oc26 kV26 dc26 pm26 cd26 ct26)
  (a27:FD K "joined" vY f27 od27 an27 sl27 oc27 kV27 dc27 pm27 cd27 ct27)
  (a28:FD K "region_areas" jk f28 od28 an28 sl28 oc28 kV28 dc28 pm28 cd28 ct28)
  (a29:FD K "pieces" vZ f29 od29 an29 sl29 oc29 kV29 dc29 pm29 cd29 ct29)
  (a30:FD K "outline" ve f30 od30 an30 sl30 oc30 kV30 dc30 pm30 cd30 ct30)
  (a31:FD K "field_area" jI f31 od31 an31 sl31 oc31 kV31 dc31 pm31 cd31 ct31)
  (a32:FD K "_law_feed" qH f32 od32 an32 sl32 oc32 kV32 dc32 pm32 cd32 ct32)
  (a33:FD K "_law_draw" qI f33 od33 an33 sl33 oc33 kV33 dc33 pm33 cd33 ct33)
  (a34:FD K "_law_height" jJ f34 od34 an34 sl34 oc34 kV34 dc34 pm34 cd34 ct34)
  (a35:FD K "_law_table" jY f35 od35 an35 sl35 oc35 kV35 dc35 pm35 cd35 ct35)
  (a36:FD K "_law_cut" vf f36 od36 an36 sl36 oc36 kV36 dc36 pm36 cd36 ct36)
  (a37:FD K "_law_common" jK f37 od37 an37 sl37 oc37 kV37 dc37 pm37 cd37 ct37)
  (a38:FD K "_law_share" jZ f38 od38 an38 sl38 oc38 kV38 dc38 pm38 cd38 ct38)
  (a39:FD K "_law_corner" jL f39 od39 an39 sl39 oc39 kV39 dc39 pm39 cd39 ct39)
  (a40:FD K "_law_two" vg f40 od40 an40 sl40 oc40 kV40 dc40 pm40 cd40 ct40)
  (a41:FD K "_law_areas" j4 f41 od41 an41 sl41 oc41 kV41 dc41 pm41 cd41 ct41)
  (a42:FD K "law" aaD f42 od42 an42 sl42 oc42 kV42 dc42 pm42 cd42 ct42)
  {ubn:Tok} (uaH:aqc K mainGlobals "FEWEST"=some (some (.int (2) ubn)))
  {ubo:Tok} (uaI:aqc K mainGlobals "MOST"=some (some (.int (7) ubo)))
  {ubp:Tok} (uaJ:aqc K mainGlobals "LEAST"=some (some (.int (-1000000000) ubp)))
  {ubq:Tok} (uaK:aqc K mainGlobals "GREATEST"=some (some (.int (1000000000) ubq)))
  (uaL:aqc K mainGlobals "len"=some none)
  (uaM:aqc K mainGlobals "min"=some none)
  (uaN:aqc K mainGlobals "max"=some none)
  (uaO:aqc K mainGlobals "enumerate"=some none)
  (uaP:aqc K mainGlobals "range"=some none)
  (uaQ:aqc K mainGlobals "all"=some none)
  (uaR:aqc K mainGlobals "sum"=some none)
  (uaS:aqc K mainGlobals "sorted"=some none)
  (uaT:aqc K mainGlobals "tuple"=some none)
  (uaU:aqc K mainGlobals "set"=some none)
  (uaV:aqc K mainGlobals "abs"=some none)
  (uaW:aqc K mainGlobals "zip"=some none)
  (uaX:aqc K mainGlobals "int"=some none)
:
  ∃ fd:FuncData,(∀ (s:Shared) (v:Value),BindsTo s fd ⟨[v],[]⟩ [("_law_script",v)])/\∀ base:Heap,K.In base->base.Ns mainGlobals mg->FnOk l.prog w K mg base CX0 11 fa fd pY (agz K):=by
 have ubr:Def K mg "size" adl pf:=xf1 X G a1 (fun _ _ _ _ _ _ _=>rfl)
 have ubs:Def K mg "points" vU pf:=xf1 X G a2 (fun _ _ _ _ _ _ _=>rfl)
 have ubt:Def K mg "has_point" jV ph:=xf3 X G a3 (fun _ _ _ _ _ _ _ _ _=>rfl)
 have ubu:Def K mg "neighbours" jE ph:=xf3 X G a4 (fun _ _ _ _ _ _ _ _ _=>rfl)
 have ubv:Def K mg "cells" aaX pf:=xf1 X G a5 (fun _ _ _ _ _ _ _=>rfl)
 have ubw:Def K mg "has_cell" qC ph:=xf3 X G a6 (fun _ _ _ _ _ _ _ _ _=>rfl)
 have ubx:Def K mg "corners" va pF:=xf2 X G a7 (fun _ _ _ _ _ _ _ _=>rfl)
 have uby:Def K mg "cells_at" qD ph:=xf3 X G a8 (fun _ _ _ _ _ _ _ _ _=>rfl)
 have ubz:Def K mg "common" vV pL:=xf2 X G a9 (fun _ _ _ _ _ _ _ _=>rfl)
 have ubA:Def K mg "shortened" jW pH:=xf2 X G a10 (fun _ _ _ _ _ _ _ _=>rfl)
 have ubB:Def K mg "total" aaY pG:=xf1 X G a11 (fun _ _ _ _ _ _ _=>rfl)
 have ubC:Def K mg "ask_table" jX pf:=xf1 X G a12 (fun _ _ _ _ _ _ _=>rfl)
 have ubD:Def K mg "fits" adn pI:=xf1 X G a13 (fun _ _ _ _ _ _ _=>rfl)
 have ubE:Def K mg "is_row" vW ["row"]:=xf1 X G a14 (fun _ _ _ _ _ _ _=>rfl)
 have ubF:Def K mg "stands_high" ju pB:=xf3 X G a15 (fun _ _ _ _ _ _ _ _ _=>rfl)
 have ubG:Def K mg "gate_points" jv ["gate"]:=xf1 X G a16 (fun _ _ _ _ _ _ _=>rfl)
 have ubH:Def K mg "has_gate" qE pM:=xf2 X G a17 (fun _ _ _ _ _ _ _ _=>rfl)
 have ubI:Def K mg "is_open" vb pA:=xf3 X G a18 (fun _ _ _ _ _ _ _ _ _=>rfl)
 have ubJ:Def K mg "cell_gates" jF ["cell"]:=xf1 X G a19 (fun _ _ _ _ _ _ _=>rfl)
 have ubK:Def K mg "is_crossed" jG pj:=xf3 X G a20 (fun _ _ _ _ _ _ _ _ _=>rfl)
 have ubL:Def K mg "has_high_middle" yM pj:=xf3 X G a21 (fun _ _ _ _ _ _ _ _ _=>rfl)
 have ubM:Def K mg "place_of" qG pA:=xf3 X G a22 (fun _ _ _ _ _ _ _ _ _=>rfl)
 have ubN:Def K mg "share" aaZ pA:=xf3 X G a23 (fun _ _ _ _ _ _ _ _ _=>rfl)
 have ubO:Def K mg "regions" vc pz:=xf2 X G a24 (fun _ _ _ _ _ _ _ _=>rfl)
 have ubP:Def K mg "indexes" vd pz:=xf2 X G a25 (fun _ _ _ _ _ _ _ _=>rfl)
 have ubQ:Def K mg "all_joined" jH pS:=xf3 X G a26 (fun _ _ _ _ _ _ _ _ _=>rfl)
 have ubR:Def K mg "joined" vY pB:=xf3 X G a27 (fun _ _ _ _ _ _ _ _ _=>rfl)
 have ubS:Def K mg "region_areas" jk pz:=xf2 X G a28 (fun _ _ _ _ _ _ _ _=>rfl)
 have ubT:Def K mg "pieces" vZ pj:=xf3 X G a29 (fun _ _ _ _ _ _ _ _ _=>rfl)
 have ubU:Def K mg "outline" ve pT:=xf4 X G a30 (fun _ _ _ _ _ _ _ _ _ _=>rfl)
 have ubV:Def K mg "field_area" jI ["around"]:=xf1 X G a31 (fun _ _ _ _ _ _ _=>rfl)
 have ubW:Def K mg "_law_feed" qH pU:=xf2 X G a32 (fun _ _ _ _ _ _ _ _=>rfl)
 have ubX:Def K mg "_law_draw" qI pJ:=xf2 X G a33 (fun _ _ _ _ _ _ _ _=>rfl)
 have ubY:Def K mg "_law_height" jJ pN:=xf3 X G a34 (fun _ _ _ _ _ _ _ _ _=>rfl)
 have ubZ:Def K mg "_law_table" jY pV:=xf1 X G a35 (fun _ _ _ _ _ _ _=>rfl)
 have ub0:Def K mg "_law_cut" vf pW:=xf2 X G a36 (fun _ _ _ _ _ _ _ _=>rfl)
 have ub1:Def K mg "_law_common" jK pO:=xf2 X G a37 (fun _ _ _ _ _ _ _ _=>rfl)
 have ub2:Def K mg "_law_share" jZ pP:=xf3 X G a38 (fun _ _ _ _ _ _ _ _ _=>rfl)
 have ub3:Def K mg "_law_corner" jL pC:=xf3 X G a39 (fun _ _ _ _ _ _ _ _ _=>rfl)
 have ub4:Def K mg "_law_two" vg pC:=xf3 X G a40 (fun _ _ _ _ _ _ _ _ _=>rfl)
 have ub5:Def K mg "_law_areas" j4 pX:=xf2 X G a41 (fun _ _ _ _ _ _ _ _=>rfl)
 have ub6:Def K mg "law" aaD pY:=xf1 X G a42 (fun _ _ _ _ _ _ _=>rfl)
 have uan:=arH X G uaH
 have uao:=arH X G uaI
 have uap:=arH X G uaJ
 have uaq:=arH X G uaK
 have uaa:=ap6 X G uaL
 have uaf:=ap6 X G uaM
 have uah:=ap6 X G uaN
 have uai:=ap6 X G uaO
 have uab:=ap6 X G uaP
 have uaj:=ap6 X G uaQ
 have ual:=ap6 X G uaR
 have uaB:=ap6 X G uaS
 have uaC:=ap6 X G uaT
 have uaD:=ap6 X G uaU
 have uac:=ap6 X G uaV
 have uag:=ap6 X G uaW
 have uaG:=ap6 X G uaX
 have e:=hfa.symm.trans (arH X G a42.1)
 cases e
 have F0:=ae2 (st:=aaD) a42.2.1 a42.2.2.1 a42.2.2.2
 refine⟨aqx "law" "law" (jf aaD) (yC aaD) (zk aaD) .none kV42 dc42 pm42 an42 cd42 ct42,fun s v=>.of_eq rfl,fun base _ _=>?_⟩
 have H0:=alb (P:=l.prog) (w:=w) (base:=base) (k:=0) ubW uaa uac
 have H1:=akT (P:=l.prog) (w:=w) (base:=base) (k:=0) ubX
 have H2:=afC (P:=l.prog) (w:=w) (base:=base) (k:=0) ub1
 have H3:=ahP (P:=l.prog) (w:=w) (base:=base) (k:=0) ub2 uac
 have H4:=akS (P:=l.prog) (w:=w) (base:=base) (k:=0) ubD uaa ⟨_,uan⟩ ⟨_,uao⟩
 have H5:=akR (P:=l.prog) (w:=w) (base:=base) (k:=0) ubr uaa
 have H6:=akU (P:=l.prog) (w:=w) (base:=base) (k:=0) ubF
 have H7:=am7 (P:=l.prog) (w:=w) (base:=base) (k:=0) ubG
 have H8:=ahH (P:=l.prog) (w:=w) (base:=base) (k:=0) ubJ
 have H9:=afv (P:=l.prog) (w:=w) (base:=base) (k:=0) ubx
 have H10:=ahM (P:=l.prog) (w:=w) (base:=base) (k:=0) ubz uac
 have H11:=ahC (k:=1) ubY uaf H1.m
 have H12:=am8 (k:=1) ub0 uaa H1.m
 have H13:=alm (k:=1) ub3 H3.m
 have H14:=anA (k:=1) ub4 H3.m
 have H15:=ahB (k:=1) ubE uaf uah ⟨_,uap⟩ ⟨_,uaq⟩ H4.m
 have H16:=ahD (k:=1) ubs uab H5.m
 have H17:=am6 (k:=1) ubt H5.m
 have H18:=ana (k:=1) ubL ual H9.m
 have H19:=ajw (k:=1) ubv uab H5.m
 have H20:=ajp (k:=1) ubA H10.m
 have H21:=ajd (k:=2) ubZ uab H1.m H11.m
 have H22:=anH (k:=2) ub5 uab ual uaG H13.m H14.m
 have H23:=am5 (k:=2) ubC uaa uai H4.m H15.m
 have H24:=aoA (k:=2) ubu H17.m
 have H25:=ak0 (k:=2) ubw H17.m
 have H26:=akV (k:=2) ubH uaj H17.m H7.m
 have H27:=ajs (k:=2) ubN H7.m H20.m
 have H28:=ajr (k:=2) ubB H20.m
 have H29:=aoC (k:=3) uby H25.m
 have H30:=akW (k:=3) ubI H26.m H7.m H6.m
 have H31:=aeJ (k:=3) ubM H27.m
 have H32:=aju (k:=3) ubV uag uac H28.m H20.m
 have H33:=afw (k:=4) ubK uaj H30.m H8.m
 have H34:=afE (k:=4) ubU uag H8.m H9.m H30.m H31.m
 have H35:=ak5 (k:=5) ubR H6.m H24.m H29.m H33.m H18.m
 have H36:=ahN (k:=5) ubT H9.m H6.m H33.m H18.m
 have H37:=ak6 (k:=6) ubQ uaB uaC H35.m
 have H38:=ak7 (k:=7) ubO uaD H23.m H16.m H37.m H6.m
 have H39:=afA (k:=8) ubP uai H38.m
 have H40:=ajH (k:=9) ubS H23.m H39.m H38.m H19.m H36.m H34.m H32.m H28.m
 exact anK (k:=10) F0 uaa uab uah uaf uag H0.m H21.m H12.m H2.m H22.m H38.m H40.m
theorem walk {l:PySem.W.OpenLaw} {q:Program} {loose:List Str} {XP:(Str->Option Value)->Heap->Prop} {YP:World->Heap->Prop} {d:DefRec} {K:Params->apj} (hn:l.most=some 63) (hdf:d.params.defaults=[])
  (hY:∀ (w:World) (h:Heap),YP w h->(K w.params).In h)
  (F:∀ (w:World) (mg:Str->Option Value) (fa:Addr) (h:Heap),(K w.params).In h->h.Ns mainGlobals mg->mg d.name=some (.ref fa) ->
   ∃ fd:FuncData,(∀ (s:Shared) (u:Value),BindsTo s fd ⟨[u],[]⟩ [("_law_script",u)])/\∀ base:Heap,(K w.params).In base->base.Ns mainGlobals mg->FnOk l.prog w (K w.params) mg base CX0 11 fa fd pY (agz (K w.params))) :
  PySem.W.WalkO q loose XP YP l.row.toRowW d [] (fun f vs=>PySem.call f vs) :=
 L2.walk_of (n:=63) (k:=11) (x:="_law_script") (CX:=fun _=>CX0) (sp:=fun w=>agz (K w.params)) hn (by decide) hdf ⟨rfl,by decide,by decide⟩ hY F (fun _ _ a ns hl _ hS=>⟨a,ns,rfl,hS,hl,fun _=>rfl⟩) fun _ _ _ _ _ z=>z
end My
noncomputable def PySem.W.Fast.tw10072760498993732784:Nat:=0
noncomputable def PySem.W.Fast.tw10120718906697229373:Nat:=0
noncomputable def PySem.W.Fast.tw10236507413566475669:Nat:=0
noncomputable def PySem.W.Fast.tw10501546559323619746:Nat:=0
noncomputable def PySem.W.Fast.tw1051247685108690339:Nat:=0
noncomputable def PySem.W.Fast.tw10515289961987095983:Nat:=0
noncomputable def PySem.W.Fast.tw10531311583030148033:Nat:=0
noncomputable def PySem.W.Fast.tw10561393721796960063:Nat:=0
noncomputable def PySem.W.Fast.tw10625273671899222506:Nat:=0
noncomputable def PySem.W.Fast.tw10679532188251562002:Nat:=0
noncomputable def PySem.W.Fast.tw10700160489183533454:Nat:=0
noncomputable def PySem.W.Fast.tw10776112968156873660:Nat:=0
noncomputable def PySem.W.Fast.tw1077668963420039948:Nat:=0
noncomputable def PySem.W.Fast.tw10835855258871298897:Nat:=0
noncomputable def PySem.W.Fast.tw10918177242542254058:Nat:=0
noncomputable def PySem.W.Fast.tw11208245408467615780:Nat:=0
noncomputable def PySem.W.Fast.tw11380189520874024421:Nat:=0
noncomputable def PySem.W.Fast.tw11458283247584314752:Nat:=0
noncomputable def PySem.W.Fast.tw11487600753657964677:Nat:=0
noncomputable def PySem.W.Fast.tw11516073311582056751:Nat:=0
noncomputable def PySem.W.Fast.tw11548076803873749050:Nat:=0
noncomputable def PySem.W.Fast.tw11562341209135698565:Nat:=0
noncomputable def PySem.W.Fast.tw11796126747266458146:Nat:=0
noncomputable def PySem.W.Fast.tw11914660195494877522:Nat:=0
noncomputable def PySem.W.Fast.tw11954313942479806642:Nat:=0
noncomputable def PySem.W.Fast.tw11964889762906083842:Nat:=0
noncomputable def PySem.W.Fast.tw12132348487265828408:Nat:=0
noncomputable def PySem.W.Fast.tw12142840464939412788:Nat:=0
noncomputable def PySem.W.Fast.tw12169289106761745079:Nat:=0
noncomputable def PySem.W.Fast.tw12389302210968606847:Nat:=0
noncomputable def PySem.W.Fast.tw12493868680792142335:Nat:=0
noncomputable def PySem.W.Fast.tw12624488317635714127:Nat:=0
noncomputable def PySem.W.Fast.tw12640160500021357922:Nat:=0
noncomputable def PySem.W.Fast.tw12764307865979674619:Nat:=0
noncomputable def PySem.W.Fast.tw12885237796096524627:Nat:=0
noncomputable def PySem.W.Fast.tw12923408477192456676:Nat:=0
noncomputable def PySem.W.Fast.tw12939770082293026688:Nat:=0
noncomputable def PySem.W.Fast.tw12979088859784744637:Nat:=0
noncomputable def PySem.W.Fast.tw13000749181552576578:Nat:=0
noncomputable def PySem.W.Fast.tw13008936679754798243:Nat:=0
noncomputable def PySem.W.Fast.tw13072530592152198638:Nat:=0
noncomputable def PySem.W.Fast.tw13174318535863350233:Nat:=0
noncomputable def PySem.W.Fast.tw13349747751764920171:Nat:=0
noncomputable def PySem.W.Fast.tw13434858782996236662:Nat:=0
noncomputable def PySem.W.Fast.tw13515115761218742515:Nat:=0
noncomputable def PySem.W.Fast.tw13675274343852773005:Nat:=0
noncomputable def PySem.W.Fast.tw13754057048391124154:Nat:=0
noncomputable def PySem.W.Fast.tw13792339962672084838:Nat:=0
noncomputable def PySem.W.Fast.tw13930533605690771104:Nat:=0
noncomputable def PySem.W.Fast.tw1400131409749106026:Nat:=0
noncomputable def PySem.W.Fast.tw14088854773433788965:Nat:=0
noncomputable def PySem.W.Fast.tw14298136329820999192:Nat:=0
noncomputable def PySem.W.Fast.tw14398547428513137010:Nat:=0
noncomputable def PySem.W.Fast.tw14479854257704563027:Nat:=0
noncomputable def PySem.W.Fast.tw14483863786074897606:Nat:=0
noncomputable def PySem.W.Fast.tw14524654438962580103:Nat:=0
noncomputable def PySem.W.Fast.tw14526631273297358843:Nat:=0
noncomputable def PySem.W.Fast.tw14647035633348078606:Nat:=0
noncomputable def PySem.W.Fast.tw14697337279762507587:Nat:=0
noncomputable def PySem.W.Fast.tw15030011475704827295:Nat:=0
noncomputable def PySem.W.Fast.tw15066664943327805744:Nat:=0
noncomputable def PySem.W.Fast.tw15112683845633212446:Nat:=0
noncomputable def PySem.W.Fast.tw15267166866646191461:Nat:=0
noncomputable def PySem.W.Fast.tw15415579939354251173:Nat:=0
noncomputable def PySem.W.Fast.tw15645218505581975884:Nat:=0
noncomputable def PySem.W.Fast.tw15737357635959219685:Nat:=0
noncomputable def PySem.W.Fast.tw15910071002447133730:Nat:=0
noncomputable def PySem.W.Fast.tw15979909220718541209:Nat:=0
noncomputable def PySem.W.Fast.tw16199552764086107193:Nat:=0
noncomputable def PySem.W.Fast.tw16673386514864623508:Nat:=0
noncomputable def PySem.W.Fast.tw17323279143756740636:Nat:=0
noncomputable def PySem.W.Fast.tw17337374611099446544:Nat:=0
noncomputable def PySem.W.Fast.tw1736203314590805832:Nat:=0
noncomputable def PySem.W.Fast.tw17421153925665215296:Nat:=0
noncomputable def PySem.W.Fast.tw17474197257137251048:Nat:=0
noncomputable def PySem.W.Fast.tw17526883928890356727:Nat:=0
noncomputable def PySem.W.Fast.tw17531708783305860040:Nat:=0
noncomputable def PySem.W.Fast.tw17534520433367759141:Nat:=0
noncomputable def PySem.W.Fast.tw17665809173847222840:Nat:=0
noncomputable def PySem.W.Fast.tw17752806955117340519:Nat:=0
noncomputable def PySem.W.Fast.tw17873619577716274614:Nat:=0
noncomputable def PySem.W.Fast.tw17976187783022299091:Nat:=0
noncomputable def PySem.W.Fast.tw17999535588062552945:Nat:=0
noncomputable def PySem.W.Fast.tw18050207155610732144:Nat:=0
noncomputable def PySem.W.Fast.tw18333450000599590355:Nat:=0
noncomputable def PySem.W.Fast.tw1909176800208528705:Nat:=0
noncomputable def PySem.W.Fast.tw1955172106012240177:Nat:=0
noncomputable def PySem.W.Fast.tw1965587555362050081:Nat:=0
noncomputable def PySem.W.Fast.tw1986673362804961907:Nat:=0
noncomputable def PySem.W.Fast.tw2178386297053797332:Nat:=0
noncomputable def PySem.W.Fast.tw2266303743712310132:Nat:=0
noncomputable def PySem.W.Fast.tw2652364078684807766:Nat:=0
noncomputable def PySem.W.Fast.tw2772985862139513707:Nat:=0
noncomputable def PySem.W.Fast.tw2777653305825007374:Nat:=0
noncomputable def PySem.W.Fast.tw2828596851747650388:Nat:=0
noncomputable def PySem.W.Fast.tw3154428974315180616:Nat:=0
noncomputable def PySem.W.Fast.tw3220577464567364668:Nat:=0
noncomputable def PySem.W.Fast.tw3258476704145488819:Nat:=0
noncomputable def PySem.W.Fast.tw3387627397676034945:Nat:=0
noncomputable def PySem.W.Fast.tw3457213930249663557:Nat:=0
noncomputable def PySem.W.Fast.tw3507622628583115196:Nat:=0
noncomputable def PySem.W.Fast.tw3559909334276851258:Nat:=0
noncomputable def PySem.W.Fast.tw3810899993012285799:Nat:=0
noncomputable def PySem.W.Fast.tw3857516319859114208:Nat:=0
noncomputable def PySem.W.Fast.tw4298071184352844857:Nat:=0
noncomputable def PySem.W.Fast.tw4579008598693734030:Nat:=0
noncomputable def PySem.W.Fast.tw4636512210189154368:Nat:=0
noncomputable def PySem.W.Fast.tw4792536095208186276:Nat:=0
noncomputable def PySem.W.Fast.tw4908747623844447113:Nat:=0
noncomputable def PySem.W.Fast.tw4988141055138309345:Nat:=0
noncomputable def PySem.W.Fast.tw5032951586931679465:Nat:=0
noncomputable def PySem.W.Fast.tw503449043771205248:Nat:=0
noncomputable def PySem.W.Fast.tw5068585647899218680:Nat:=0
noncomputable def PySem.W.Fast.tw5232908603789044084:Nat:=0
noncomputable def PySem.W.Fast.tw5368986771117929818:Nat:=0
noncomputable def PySem.W.Fast.tw5379305563588794710:Nat:=0
noncomputable def PySem.W.Fast.tw5394580458106101130:Nat:=0
noncomputable def PySem.W.Fast.tw5425215971895192387:Nat:=0
noncomputable def PySem.W.Fast.tw5647116331999775741:Nat:=0
noncomputable def PySem.W.Fast.tw5721492621230664613:Nat:=0
noncomputable def PySem.W.Fast.tw5723492957181479323:Nat:=0
noncomputable def PySem.W.Fast.tw5795297198536725123:Nat:=0
noncomputable def PySem.W.Fast.tw5932556957192956555:Nat:=0
noncomputable def PySem.W.Fast.tw6194027040730267065:Nat:=0
noncomputable def PySem.W.Fast.tw6583209731182601656:Nat:=0
noncomputable def PySem.W.Fast.tw6603546455033022477:Nat:=0
noncomputable def PySem.W.Fast.tw6700410581292103249:Nat:=0
noncomputable def PySem.W.Fast.tw6740798077696201060:Nat:=0
noncomputable def PySem.W.Fast.tw6829289761663167801:Nat:=0
noncomputable def PySem.W.Fast.tw6839046425957637511:Nat:=0
noncomputable def PySem.W.Fast.tw6950924810167198717:Nat:=0
noncomputable def PySem.W.Fast.tw7179751337969752511:Nat:=0
noncomputable def PySem.W.Fast.tw7281989523429228761:Nat:=0
noncomputable def PySem.W.Fast.tw7351948438080513305:Nat:=0
noncomputable def PySem.W.Fast.tw7366655528014970031:Nat:=0
noncomputable def PySem.W.Fast.tw7483133764692863041:Nat:=0
noncomputable def PySem.W.Fast.tw771044490789871620:Nat:=0
noncomputable def PySem.W.Fast.tw8281719609090013010:Nat:=0
noncomputable def PySem.W.Fast.tw8282403883544247003:Nat:=0
noncomputable def PySem.W.Fast.tw8299614867856461087:Nat:=0
noncomputable def PySem.W.Fast.tw8601134403724057421:Nat:=0
noncomputable def PySem.W.Fast.tw8637819230774891031:Nat:=0
noncomputable def PySem.W.Fast.tw8720092637377502040:Nat:=0
noncomputable def PySem.W.Fast.tw8735074597989408908:Nat:=0
noncomputable def PySem.W.Fast.tw8784116702316904495:Nat:=0
noncomputable def PySem.W.Fast.tw8869502106222005017:Nat:=0
noncomputable def PySem.W.Fast.tw9114554241076893880:Nat:=0
noncomputable def PySem.W.Fast.tw9149564400257958576:Nat:=0
noncomputable def PySem.W.Fast.tw9309261816501475985:Nat:=0
noncomputable def PySem.W.Fast.tw9405562590207525424:Nat:=0
noncomputable def PySem.W.Fast.tw9647000058097119419:Nat:=0
noncomputable def PySem.W.Fast.tw9714371099653404070:Nat:=0
noncomputable def PySem.W.Fast.tw9790765033772505530:Nat:=0
noncomputable def PySem.W.Fast.tw9824609120843868955:Nat:=0
open PySem PySem.W PyProof.Rows
set_option maxRecDepth 100000 in
set_option maxHeartbeats 0 in
theorem PySem.Challenge.cw_heightrings_k34_areas_in_one_cell_holds : PySem.Challenge.rw_heightrings_k34_areas_in_one_cell.Holds := by
 w_on;o_law;k_head;(case hw=>w_witness2)
 k_fill
 refine My.walk (l:=PySem.Challenge.rw_heightrings_k34_areas_in_one_cell) rfl rfl (fun w h Y=>by first | exact PySem.W.kIn_of Y | exact PySem.W.km_in_of Y) ?F
 case F =>
  intro w mg fa h KX G hmg
  refine' My.all_mk KX G hmg ?a1 ?a2 ?a3 ?a4 ?a5 ?a6 ?a7 ?a8 ?a9 ?a10 ?a11 ?a12 ?a13 ?a14 ?a15 ?a16 ?a17 ?a18 ?a19 ?a20 ?a21 ?a22 ?a23 ?a24 ?a25 ?a26 ?a27 ?a28 ?a29 ?a30 ?a31 ?a32 ?a33 ?a34 ?a35 ?a36 ?a37 ?a38 ?a39 ?a40 ?a41 ?a42 ?uaH ?uaI ?uaJ ?uaK ?uaL ?uaM ?uaN ?uaO ?uaP ?uaQ ?uaR ?uaS ?uaT ?uaU ?uaV ?uaW ?uaX 
  (case a1=>refine⟨?_,?_,?_,?_⟩ <;> k_is)
  (case a2=>refine⟨?_,?_,?_,?_⟩ <;> k_is)
  (case a3=>refine⟨?_,?_,?_,?_⟩ <;> k_is)
  (case a4=>refine⟨?_,?_,?_,?_⟩ <;> k_is)
  (case a5=>refine⟨?_,?_,?_,?_⟩ <;> k_is)
  (case a6=>refine⟨?_,?_,?_,?_⟩ <;> k_is)
  (case a7=>refine⟨?_,?_,?_,?_⟩ <;> k_is)
  (case a8=>refine⟨?_,?_,?_,?_⟩ <;> k_is)
  (case a9=>refine⟨?_,?_,?_,?_⟩ <;> k_is)
  (case a10=>refine⟨?_,?_,?_,?_⟩ <;> k_is)
  (case a11=>refine⟨?_,?_,?_,?_⟩ <;> k_is)
  (case a12=>refine⟨?_,?_,?_,?_⟩ <;> k_is)
  (case a13=>refine⟨?_,?_,?_,?_⟩ <;> k_is)
  (case a14=>refine⟨?_,?_,?_,?_⟩ <;> k_is)
  (case a15=>refine⟨?_,?_,?_,?_⟩ <;> k_is)
  (case a16=>refine⟨?_,?_,?_,?_⟩ <;> k_is)
  (case a17=>refine⟨?_,?_,?_,?_⟩ <;> k_is)
  (case a18=>refine⟨?_,?_,?_,?_⟩ <;> k_is)
  (case a19=>refine⟨?_,?_,?_,?_⟩ <;> k_is)
  (case a20=>refine⟨?_,?_,?_,?_⟩ <;> k_is)
  (case a21=>refine⟨?_,?_,?_,?_⟩ <;> k_is)
  (case a22=>refine⟨?_,?_,?_,?_⟩ <;> k_is)
  (case a23=>refine⟨?_,?_,?_,?_⟩ <;> k_is)
  (case a24=>refine⟨?_,?_,?_,?_⟩ <;> k_is)
  (case a25=>refine⟨?_,?_,?_,?_⟩ <;> k_is)
  (case a26=>refine⟨?_,?_,?_,?_⟩ <;> k_is)
  (case a27=>refine⟨?_,?_,?_,?_⟩ <;> k_is)
  (case a28=>refine⟨?_,?_,?_,?_⟩ <;> k_is)
  (case a29=>refine⟨?_,?_,?_,?_⟩ <;> k_is)
  (case a30=>refine⟨?_,?_,?_,?_⟩ <;> k_is)
  (case a31=>refine⟨?_,?_,?_,?_⟩ <;> k_is)
  (case a32=>refine⟨?_,?_,?_,?_⟩ <;> k_is)
  (case a33=>refine⟨?_,?_,?_,?_⟩ <;> k_is)
  (case a34=>refine⟨?_,?_,?_,?_⟩ <;> k_is)
  (case a35=>refine⟨?_,?_,?_,?_⟩ <;> k_is)
  (case a36=>refine⟨?_,?_,?_,?_⟩ <;> k_is)
  (case a37=>refine⟨?_,?_,?_,?_⟩ <;> k_is)
  (case a38=>refine⟨?_,?_,?_,?_⟩ <;> k_is)
  (case a39=>refine⟨?_,?_,?_,?_⟩ <;> k_is)
  (case a40=>refine⟨?_,?_,?_,?_⟩ <;> k_is)
  (case a41=>refine⟨?_,?_,?_,?_⟩ <;> k_is)
  (case a42=>refine⟨?_,?_,?_,?_⟩ <;> k_is)
  (case uaH=>k_is)
  (case uaI=>k_is)
  (case uaJ=>k_is)
  (case uaK=>k_is)
  (case uaL=>k_is)
  (case uaM=>k_is)
  (case uaN=>k_is)
  (case uaO=>k_is)
  (case uaP=>k_is)
  (case uaQ=>k_is)
  (case uaR=>k_is)
  (case uaS=>k_is)
  (case uaT=>k_is)
  (case uaU=>k_is)
  (case uaV=>k_is)
  (case uaW=>k_is)
  (case uaX=>k_is)
end
