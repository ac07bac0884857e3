import PyProof.Rows.All
import Wide.All
import OpenK.AllK
import Wide.FinOn
import Lean
import PyProof.EqAt
import PyProof.EqKinds
import PyProof.TupleCall
import KE.KTryMore
import PyProof.ExcArgs
import PyProof.ConsumeWalk
import PyProof.P3Eq
import KE.KRevIter
import PyProof.ListRange
import PyProof.Rows.SumAny
import KE.KSortTup
import PyProof.SetScanFacts
import PyProof.TupleKey
import PyProof.DictRoadsH
import PyProof.SetRoads
import KE.KTabLook
import PyProof.Rows.ListMul
import PyProof.InstStoreFacts
import PyProof.Rows.SetFrom
import PyProof.AutoListH
import PyProof.StrCalls2
import PyProof.MeetsSeq
import PyProof.DictCompW
import KE.KSortKey
import PyProof.SliceStr2
import PyProof.StrWalks
import PyProof.StrOps2
import PyProof.StrLawsIdx
import PyProof.StrLawsTight
import PyProof.StrLawsChain
import PyProof.Rows.StrSplitCount
import KE.KIntText
import PySem.Challenge.RW_heightrings_k80_tables_written
open List renaming getElem?_eq_getElem → apA,length_map → apC,getElem?_eq_some_iff → apE,getD_eq_getElem?_getD → apF,mem_cons_of_mem → apG,mem_cons_self → apJ,mem_cons → apK,getElem?_append_left → apL,getElem?_map → apM,mem_of_getElem? → apN,getElem?_append_right → apQ,mem_append_right → apR,mem_singleton → apS,length_cons → apT,size_toArray → apV,mem_append → apW,length_append → apX,map_cons → apZ,range → ap0,mem_map → ap3,map_append → ap6,getElem?_eq_none → ap7,mem_range → aqa,append_nil → aqe,getElem_mem → aqf,mem_reverse → aqg,length_take → aqi,lookup_cons → aqj,getElem?_set_self → aqm,getElem?_of_mem → aqn,mem_flatMap → aqo,nodup_cons → aqp,getElem?_set_ne → aqs,length_singleton → aqw,length_set → aqB,take_length → aqC,not_mem_nil → aqD,toArray → aqH,append_assoc → aqI,map_map → aqJ,length_nil → aqS,mem_append_left → aqT,all_eq_true → aqU,filter_cons → aqV,length_range → aqY,filterMap_cons → aqZ,flatMap_append → aq0,reverse_cons → aq8,nodup_append → ara,mem_filter → ard,getElem_of_mem → arf,map_congr_left → arh,filter_append → arl,length_filter_le → arn,pairwise_iff_getElem → aro,length → arq,take_add_one → art,pairwise_map → aru,getElem?_range → ary,reverse_append → arz,getElem?_replicate → arA,nodup_nil → arB,mem_filterMap → arF,take_of_length_le → arH,zip_cons_cons → arJ,replicate → arR,length_drop → arW,findSome?_cons → arY,getElem?_take_of_lt → arZ,forIn_cons → ar3,getElem?_cons_zero → ar6,forIn_nil → asa,ext_getElem? → asb,map → ash,take_succ → asj,head?_eq_getElem? → asl,length_replicate → asn,take_append_drop → aso,getElem_inj → asq,getElem?_mapIdx → asu,reverse_reverse → asv,mem_erase_of_ne → asw,find?_cons → asA,range_succ → asB,length_reverse → asD,map_nil → asG,length_mapIdx → asM,getLast?_eq_getElem? → asX,getElem?_set → as0,length_erase_of_mem → as8,nodup_range → atb,length_eq_zero_iff → atd,all_map → atl,length_pos_of_mem → atn,of_mem_zip → atu,filter_nil → atv,mem_iff_getElem → atL,mem_of_getLast? → atR,length_pos_iff → atW,filter_flatMap → at3,all_cons → at4,sum_cons → at6,getD → auc
open Bool renaming false_ne_true → apB,and_eq_true → apO,not_true → aqd,false_eq_true → aqk,true_and → aqW,not_false → aq6,false_and → arj,and_false → arT,eq_iff_iff → ar4,and_true → at7
open PySem.W renaming Frag → apD,nsIn → ap4,mg_none_of → ap8,kitOne → aql,keepIn → aqq,kia_one → aqr,mg_of → aqy,findIn → aqA,fnOf → aqQ,cellsFrom_some → arG,specialIn → arO,hideAll → ar2,codeIn → ar7,exmOne → asi,mroIn → ass,callWith_K → asL,methodObj → asY,kitx_list → asZ,isFn → atg,instObj → att,hideAll_none → atD,lookIn → atE,hideAll_get → atU,Frag → aub
open PySem.Heap renaming get?_push_of_some → apH,lt_size → apU,get?_push_size → ap5,get?_update_other → aqt,get?_update_self → aq2,SameBut → arE,get?_none_of_le → arP,size_push → ar9,get?_push_at → as1,FlyingW → atj
open Nat renaming le_refl → apI,le_trans → ap1,lt_of_lt_of_le → ap2,zero_le → ap9,ne_of_lt → aqb,toDigits → aqv,not_lt_zero → aqR,sub_self → aqX,lt_irrefl → aq3,le_of_lt → aq4,lt_succ_of_lt → aq9,le_of_eq → ars,le_of_succ_le → ar8,lt_trans → asd,lt_succ_of_le → ase,lt_succ_iff → asx,min_le_left → asC,mul_le_mul_left → asE,ne_of_gt → asF,succ_pos → asH,add_assoc → as6,lt_succ_iff_lt_or_eq → as9,lt_succ_self → ata,not_lt → ati,zero_add → atk,le_of_ble_eq_true → atA,le_succ → atH,pow_le_pow_right → atN,mul_le_mul → atQ,add_mul → aue
open PySem.PyData renaming depthAll → apP,eqv → aqc,canLayAll0 → aqN,eqvAll → as4,strOk → atp,depth → aua
open Array renaming length_toList → apY,getD_eq_getD_getElem? → ari,getD → arI,mem_toList_iff → arQ,forIn_toList → ar5,getElem?_setIfInBounds_ne → asm,replicate → asz,getElem?_eq_getElem → asU,getElem?_toList → atw,size_map → atM
open PySem.Str renaming ofString → aqh,join → ar1
open PySem renaming boot_len → aqu,mem_of_lookup → arx
open PySem.PassesOwn renaming never → aqx
open Char renaming toNat → aqz
open PySem.F renaming slot_list_append → aqE,type_list_append → aqF,plainAttrs_list → aqL,slot_tuple_hash → arb,plainAttrs_str → arK,excBase_ValueError → arU,slot_set_contains → arX,excAttr_ValueError → asQ,args_str_split_2 → asR,slot_dict_getitem → asV,entry_str_split → as3,slot_str_split → atc,slot_str_split → atq,type_str_split → atr,args_list_append_2 → atG,excAttr_ValueError → atJ,slot_set_add → atO,entry_list_append → atV
open PySem.StrLaws renaming glued_eq_join → aqG,sliceText → arc,sliceText_from → ato
open Classical renaming propDecidable → aqK,byContradiction → aq1
open False renaming elim → aqM
open PyProof.Rows renaming boot_str → aqO,boot_all → arM,callWith_type1 → arN,callWith_builtin1 → asr,boot_tuple → atf,boot_list → ats,boot_abs → atB
open Ne renaming symm → aqP
open Option renaming isSome_iff_exists → aq5
open PySem.Builtin.Str renaming occurrences → aq7,strSliceIndices → asI,tooLong → atZ,strKind → at1
open Int renaming emod_lt_of_pos → ark,toNat_natCast → arv,emod_nonneg → asy,toNat → asJ,eq_ofNat_of_zero_le → ate
open PySem.Builtin.Tuple renaming tupleHashOf → arp
open PySem.W.KIN renaming val_back → arw
open PySem.SeqAt renaming eqv_refl → arC
open PySem.Txt renaming join → arD,split → arL,startswith → asS
open PySem.Obj renaming mapSeq → arS,putSet → atm
open String renaming toList_append → arV
open PySem.SetTable renaming toList_insertAt → ar0,sizeAbove → asP,fill → at5
open PySem.SeqAt.ReadsAll renaming length → asp
open PySem.Calls renaming Name_function_global → asK,callWith_builtin → ath,evalArgs_plain → atF
open PySem.Code renaming quiet_builtin → asN,isFrame → at9
open PySem.Builtin.Frozenset renaming oneOther → asO,addrOf → as7
open PySem.W.KT renaming len_num → asT
open PySem.Builtin.SmallTypes renaming nextOf → asW
open PyProof.Rows.KTD renaming datumAt → atP
open PySem.Heap.SameBut renaming update → atX
open PySem.EntryCells renaming newEntry → atY
open PySem.Around renaming under → at8
open PySem.Sem renaming wp_mono → aud
set_option Elab.async false
set_option linter.all false
set_option maxRecDepth 100000
set_option maxHeartbeats 4000000
section
namespace L2
open PySem PySem.Spec PyProof.Rows
noncomputable abbrev Key:=Sum Int Str
noncomputable def amt:Key->Value->Bool
 | .inl k,v=>Value.isInt k v
 | .inr x,v=>Value.isStrOf x v
noncomputable def apq (w:World):Key->Int
 | .inl k=>hashInt k
 | .inr x=>hashStr w x
theorem yj:∀ {k:Key} {v:Value},amt k v=true->(∃ i t,k=Sum.inl i/\v=Value.int i t) \/ (∃ x t,k=Sum.inr x/\v=Value.str x t)
 | .inl i,v,h=>by
  obtain⟨t,e⟩:=Value.isInt_shape (k:=i) (v:=v) h
  exact .inl ⟨i,t,rfl,e⟩
 | .inr x,v,h=>by
  obtain⟨t,e⟩:=Value.isStrOf_shape (x:=x) (v:=v) h
  exact .inr ⟨x,t,rfl,e⟩
theorem amO (a b:Int):decide ((Sum.inl a:Key)=Sum.inl b)=(a == b):=by
 by_cases e:a=b
 ·subst e;simp
 ·have h:¬ (Sum.inl a:Key)=Sum.inl b:=fun q=>e (Sum.inl.inj q)
  rw [decide_eq_false h]
  exact (beq_eq_false_iff_ne.mpr e).symm
theorem amP (a b:Str):decide ((Sum.inr a:Key)=Sum.inr b)=decide (a=b):=by
 by_cases e:a=b
 ·subst e;simp
 ·have h:¬ (Sum.inr a:Key)=Sum.inr b:=fun q=>e (Sum.inr.inj q)
  rw [decide_eq_false h,decide_eq_false e]
theorem amQ (a:Int) (b:Str):decide ((Sum.inl a:Key)=Sum.inr b)=false:=decide_eq_false (fun q=>nomatch q)
theorem amR (a:Str) (b:Int):decide ((Sum.inr a:Key)=Sum.inl b)=false:=decide_eq_false (fun q=>nomatch q)
noncomputable def acz (prog:Program) (w:World):PySem.KeyKind prog w Key where
 is:=amt
 hash:=apq w
 inj:=fun v a b ha hb=>by
  rcases yj ha with⟨i,t,rfl,rfl⟩ | ⟨x,t,rfl,rfl⟩
  ·rcases yj hb with⟨j,u,rfl,e⟩ | ⟨y,u,rfl,e⟩
   ·injection e with e1 _;rw [e1]
   ·exact nomatch e
  ·rcases yj hb with⟨j,u,rfl,e⟩ | ⟨y,u,rfl,e⟩
   ·exact nomatch e
   ·injection e with e1 _;rw [e1]
 byValue:=fun k v h=>by
  rcases yj h with⟨i,t,rfl,rfl⟩ | ⟨x,t,rfl,rfl⟩ <;> rfl
 pyHash:=fun hv h=>by
  rcases yj hv with⟨i,t,rfl,rfl⟩ | ⟨x,t,rfl,rfl⟩
  ·exact wpAny_pyHash_int h
  ·exact wpAny_pyHash_str h
 eqBool:=fun hu hv h=>by
  rcases yj hu with⟨i,t,rfl,rfl⟩ | ⟨x,t,rfl,rfl⟩
  ·rcases yj hv with⟨j,u,rfl,rfl⟩ | ⟨y,u,rfl,rfl⟩
   ·rw [amO] at h;exact wpAny_eqBool_int h
   ·rw [amQ] at h;exact SeqAt.EqAt.int_str i t y u _ _ _ _ h
  ·rcases yj hv with⟨j,u,rfl,rfl⟩ | ⟨y,u,rfl,rfl⟩
   ·rw [amR] at h;exact SeqAt.EqAt.str_int x t j u _ _ _ _ h
   ·rw [amP] at h;exact wpAny_eqBool_str h
 «strs»:=fun k x t v h=>by
  rcases yj h with⟨i,u,rfl,e⟩ | ⟨y,u,rfl,e⟩
  ·exact nomatch e
  ·injection e with e1 _
   subst e1
   cases v <;> rfl
inductive V where
 | non | bl (b:Bool) | int (i:Int) | str (x:Str) | byt (b:Array UInt8) | flt (b:UInt64) | ref (a:Addr) | ty (n:String)
 deriving DecidableEq
noncomputable def RelV:V->Value->Prop
 | .non,u=>u=Value.none
 | .bl b,u=>u=Value.bool b
 | .int i,u=>∃ t,u=Value.int i t
 | .str x,u=>∃ t,u=Value.str x t
 | .byt b,u=>∃ t,u=Value.bytes b t
 | .flt b,u=>∃ t,u=Value.float b t
 | .ref a,u=>u=Value.ref a
 | .ty n,u=>u=Value.type n
noncomputable abbrev Vals:List V->List Value->Prop:=Paired RelV
theorem Vals.length {xs:List V} {us:List Value} (r:Vals xs us):xs.length=us.length:=Paired.length r
theorem Vals.get:∀ {xs:List V} {us:List Value} {i:Nat} {x:V},Vals xs us->xs[i]?=some x->∃ u,us[i]?=some u/\RelV x u
 | _,_,_,_,.nil,e=>by simp at e
 | _,_,0,_,.cons r _,e=>by simp at e;subst e;exact⟨_,rfl,r⟩
 | _,_,i+1,x,.cons _ t,e=>by
  obtain⟨u,h1,h2⟩:=Vals.get (i:=i) (x:=x) t (by simpa using e)
  exact⟨u,by simpa using h1,h2⟩
theorem Vals.set {x:V} {u:Value} (r:RelV x u):∀ {xs:List V} {us:List Value} (i:Nat),Vals xs us->Vals (xs.set i x) (us.set i u)
 | _,_,_,.nil=>.nil
 | _,_,0,.cons _ t=>.cons r t
 | _,_,i+1,.cons q t=>.cons q (Vals.set r i t)
theorem Vals.append:∀ {xs ys:List V} {us ws:List Value},Vals xs us->Vals ys ws->Vals (xs++ys) (us++ws)
 | _,_,_,_,.nil,s=>s
 | _,_,_,_,.cons r t,s=>.cons r (Vals.append t s)
theorem Vals.take:∀ {xs:List V} {us:List Value} (n:Nat),Vals xs us->Vals (xs.take n) (us.take n)
 | _,_,0,_=>.nil
 | _,_,_+1,.nil=>.nil
 | _,_,n+1,.cons r t=>.cons r (Vals.take n t)
theorem Vals.drop:∀ {xs:List V} {us:List Value} (n:Nat),Vals xs us->Vals (xs.drop n) (us.drop n)
 | _,_,0,r=>r
 | _,_,_+1,.nil=>.nil
 | _,_,n+1,.cons _ t=>Vals.drop n t
noncomputable def amS:Option V->Option Value->Prop
 | some v,some u=>RelV v u
 | none,none=>True
 | _,_=>False
noncomputable def KV {κ:Type}:List (κ×V)->List (κ×Value)->Prop:=Paired fun (p:κ×V) (q:κ×Value)=>p.1=q.1/\RelV p.2 q.2
noncomputable def kV:Key->V
 | .inl i=>.int i
 | .inr x=>.str x
inductive HO where
  | lst (xs:List V)
  | tup (xs:List V)
  | dK (kvs:List (Key×V)) | dT (kvs:List (List Key×V))
  | set (S:Int->Bool) (n:Nat)
  | ins (C dx:Addr) (fs:List (Str×V))
  | own (x:Addr)
  | xd (fs:List (Str×V))
  | met (f x:Addr)
  | rng (lo hi:Int)
  | frz (o:Obj) (u:HO)
  | tbl (ps:Array Value)
  | ext (φ:Heap->Prop)
noncomputable abbrev Hp:=Addr->Option HO
noncomputable def upd (H:Hp) (a:Addr) (o:HO):Hp:=fun b=>if b=a then some o else H b
theorem zo {H:Hp} {a:Addr} {o:HO}:upd H a o a=some o:=by unfold upd;rw [if_pos rfl]
theorem zm {H:Hp} {a b:Addr} {o:HO} (h:b≠a):upd H a o b=H b:=by unfold upd;rw [if_neg h]
theorem zF {H:Hp} {a b:Addr} {o:HO} (h:H a=some o) (h':H b=none):a≠b:=by
 intro e;subst e;rw [h] at h';cases h'
section
variable (P:Program) (w:World)
noncomputable def ObjOk (H:Hp) (h:Heap) (a:Addr):HO->Prop
 | .lst xs=>xs.length<=sizeLine/\∃ (its:List Value) (n:Nat),Vals xs its/\h.get? a=some { cls:=.type "list",data:=.seq its.toArray n }
 | .tup xs=>xs.length<=sizeLine/\∃ its:List Value,Vals xs its/\IsTup h a its.toArray
 | .dK kvs=>kvs.length<=sizeLine/\(a == sysModules)=false/\∃ vs,KV kvs vs/\h.DictOf (acz P w) a vs
 | .dT kvs=>kvs.length<=sizeLine/\(a == sysModules)=false/\∃ xs:List (List Key×Addr×Value),
   Paired (fun (p:List Key×V) (q:List Key×Addr×Value)=>p.1=q.1/\H q.2.1=some (.tup (p.1.map kV))/\RelV p.2 q.2.2) kvs xs /\
   ∃ o es ep,h.get? a=some o/\o.ExactDict/\o.data=.dict es ep/\es.toList=xs.map (entryOfKey (tupleKind (acz P w)))/\(xs.map (·.1)).Nodup
 | .set S n=>h.SetOf (intKind P w) a S n
 | .ins C dx fs=>H dx=some (.own a)/\fs.length<=1000/\dx≠a/\h.get? a=some (att C dx) /\
   ∃ mA,h.Ns1 dx mA/\(∀ f,amS (fs.lookup f) (mA f))/\PySem.Within mA (fs.map (·.1))
 | .own _=>∃ o,h.get? a=some o
 | .xd fs=>∃ mA,h.Ns1 a mA/\∀ f,amS (fs.lookup f) (mA f)
 | .rng lo hi=>∃ t u v,h.get? a=some { cls:=.type "range",data:=.fields #[.int lo t,.int hi u,.int 1 v] }
 | .frz o u=>h.get? a=some o/\ObjOk H h a u
 | .tbl ps=>h.get? a=some { cls:=.none,data:=.fields ps }
 | .met f x=>h.get? a=some (asY (.ref f) (.ref x))
 | .ext φ=>φ h/\(∃ o,h.get? a=some o)/\∀ h1 h2:Heap,φ h1->(∀ o,h1.get? a=some o->h2.get? a=some o)->φ h2
noncomputable def HOk (H:Hp) (h:Heap):Prop:=∀ a o,H a=some o->ObjOk P w H h a o
end
section
variable {P:Program} {w:World} {H H':Hp} {h h':Heap} {a:Addr} {o:HO}
theorem ObjOk.lt (x:ObjOk P w H h a o):a<h.objs.size:=by
 cases o with
 | lst xs=>obtain⟨_,_,_,_,e⟩:=x;exact apU e
 | tup xs=>obtain⟨_,_,_,p⟩:=x;exact p.lt
 | dK kvs=>obtain⟨_,_,_,_,o,_,_,e,_⟩:=x;exact apU e
 | dT kvs=>obtain⟨_,_,_,_,o,_,_,e,_⟩:=x;exact apU e
 | set S n=>obtain⟨o,_,_,_,e,_⟩:=x;exact apU e
 | ins C dx fs=>obtain⟨_,_,_,e,_⟩:=x;exact apU e
 | own y=>obtain⟨_,e⟩:=x;exact apU e
 | xd fs=>obtain⟨_,⟨_,_,_,e,_⟩,_⟩:=x;exact apU e
 | rng lo hi=>obtain⟨_,_,_,e⟩:=x;exact apU e
 | frz ob u=>obtain⟨e,_⟩:=x;exact apU e
 | tbl ps=>exact apU (show h.get? a=some _ from x)
 | met f y=>exact apU (show h.get? a=some _ from x)
 | ext φ=>obtain⟨_,⟨_,e⟩,_⟩:=x;exact apU e
theorem Paired.mapP {α β:Type} {F G:α->β->Prop}:∀ {l₁:List α} {l₂:List β},Paired F l₁ l₂->(∀ a b,F a b->G a b)->Paired G l₁ l₂
 | _,_,.nil,_=>.nil
 | _,_,.cons r t,f=>.cons (f _ _ r) (Paired.mapP t f)
theorem ObjOk.stay (x:ObjOk P w H h a o) (k:∀ b u,(b=a \/ H b=some (.own a))->h.get? b=some u->h'.get? b=some u)
  (ho:∀ b,H b=some (.own a)->H' b=some (.own a)) (ht:∀ b xs,H b=some (.tup xs)->H' b=some (.tup xs)):ObjOk P w H' h' a o:=by
 induction o with
 | lst xs=>obtain⟨z,its,n,r,e⟩:=x;exact⟨z,its,n,r,k _ _ (.inl rfl) e⟩
 | tup xs=>obtain⟨z,its,r,ob,e,c⟩:=x;exact⟨z,its,r,ob,k _ _ (.inl rfl) e,c⟩
 | dK kvs=>obtain⟨z,y,vs,r,ob,es,ep,e,c⟩:=x;exact⟨z,y,vs,r,ob,es,ep,k _ _ (.inl rfl) e,c⟩
 | dT kvs =>
  obtain⟨z,y,xs,r,ob,es,ep,e,c⟩:=x
  exact⟨z,y,xs,Paired.mapP r fun p q z=>⟨z.1,ht _ _ z.2.1,z.2.2⟩,ob,es,ep,k _ _ (.inl rfl) e,c⟩
 | set S n=>obtain⟨ob,es,ep,t,e,c⟩:=x;exact⟨ob,es,ep,t,k _ _ (.inl rfl) e,c⟩
 | ins C dx fs =>
  obtain⟨d,z,ne,e,mA,⟨od,es,ep,e2,c⟩,r⟩:=x
  exact⟨ho _ d,z,ne,k _ _ (.inl rfl) e,mA,⟨od,es,ep,k _ _ (.inr d) e2,c⟩,r⟩
 | own y=>obtain⟨ob,e⟩:=x;exact⟨ob,k _ _ (.inl rfl) e⟩
 | xd fs=>obtain⟨mA,⟨od,es,ep,e,c⟩,r⟩:=x;exact⟨mA,⟨od,es,ep,k _ _ (.inl rfl) e,c⟩,r⟩
 | rng lo hi=>obtain⟨t,u,v,e⟩:=x;exact⟨t,u,v,k _ _ (.inl rfl) e⟩
 | frz ob u ih=>obtain⟨e,q⟩:=x;exact⟨k _ _ (.inl rfl) e,ih q⟩
 | tbl ps =>
  have e:h.get? a=some { cls:=.none,data:=.fields ps }:=x
  show h'.get? a=some { cls:=.none,data:=.fields ps }
  exact k a _ (.inl rfl) e
 | met f y =>
  have e:h.get? a=some (asY (.ref f) (.ref y)):=x
  show h'.get? a=some (asY (.ref f) (.ref y))
  exact k a _ (.inl rfl) e
 | ext φ=>obtain⟨p,⟨o,e⟩,st⟩:=x;exact⟨st _ _ p fun o q=>k _ _ (.inl rfl) q,⟨o,k _ _ (.inl rfl) e⟩,st⟩
theorem HOk.lt (x:HOk P w H h) (e:H a=some o):a<h.objs.size:=(x a o e).lt
theorem HOk.fresh (x:HOk P w H h) (e:h.objs.size<=a):H a=none:=by
 cases q:H a with
 | none=>rfl
 | some u=>exact absurd (ap2 (x.lt q) e) (aq3 _)
theorem HOk.kept (x:HOk P w H h) (k:∀ b u,h.get? b=some u->h'.get? b=some u):HOk P w H h':=fun a o e =>
 (x a o e).stay (fun b u _ q=>k b u q) (fun _ q=>q) fun _ _ q=>q
theorem HOk.laid (x:HOk P w H h) (k:∀ b u,h.get? b=some u->h'.get? b=some u) (hp:h.objs.size<=a) (new:ObjOk P w (upd H a o) h' a o):HOk P w (upd H a o) h':=fun b u e=>by
 have hn:=x.fresh hp
 by_cases hb:b=a
 ·subst hb;rw [zo] at e;cases e;exact new
 ·rw [zm hb] at e
  exact (x b u e).stay (fun c v _ q=>k c v q) (fun c q=>by rw [zm (zF q hn)];exact q) fun c xs q=>by rw [zm (zF q hn)];exact q
end
noncomputable def Rd (H:Hp) (a:Addr) (u:HO):Prop:=H a=some u \/ ∃ o,H a=some (.frz o u)
theorem Rd.ok {P:Program} {w:World} {H:Hp} {h:Heap} {a:Addr} {u:HO} (r:Rd H a u) (x:HOk P w H h):ObjOk P w H h a u:=by
 rcases r with r | ⟨o,r⟩
 ·exact x a u r
 ·obtain⟨_,q⟩:=x a _ r
  exact q
noncomputable def Mut:Option HO->Prop
 | some (.lst _)=>True
 | some (.dK _)=>True
 | some (.dT _)=>True
 | some (.set _ _)=>True
 | some (.ins _ _ _)=>True
 | some (.ext _)=>True
 | _=>False
section
variable {P:Program} {w:World} {H:Hp} {h h':Heap} {x e:Addr} {o':HO}
theorem HOk.write (ok:HOk P w H h) (mu:Mut (H x)) (he:e=x \/ H e=some (.own x)) (k:∀ b u,b≠e->h.get? b=some u->h'.get? b=some u) (heo:∃ u,h'.get? e=some u)
  (new:ObjOk P w (upd H x o') h' x o'):HOk P w (upd H x o') h':=fun b u q=>by
 have nown:∀ c y,H c=some (.own y)->c≠x:=fun c y r z=>by subst z;rw [r] at mu;exact mu
 have ntup:∀ c xs,H c=some (.tup xs)->c≠x:=fun c xs r z=>by subst z;rw [r] at mu;exact mu
 by_cases hb:b=x
 ·subst hb;rw [zo] at q;cases q;exact new
 ·rw [zm hb] at q
  by_cases hbe:b=e
  ·have q':H b=some (.own x):=by
    rcases he with z | z
    ·exact absurd (hbe.trans z) hb
    ·rw [hbe];exact z
   rw [q] at q';cases q'
   obtain⟨v,hv⟩:=heo
   exact⟨v,by rw [hbe];exact hv⟩
  ·refine (ok b u q).stay (fun c v hc r=>k c v ?_ r) (fun c r=>by rw [zm (nown c b r)];exact r) fun c xs r=>by rw [zm (ntup c xs r)];exact r
   rcases hc with rfl | hc
   ·exact hbe
   ·rintro rfl
    rcases he with z | z
    ·exact nown c b hc z
    ·rw [hc] at z;cases z;exact hb rfl
end
structure Un (fs ex:List Addr) (H H':Hp) (h h':Heap):Prop where
 keep:∀ b o,h.get? b=some o->H b=none->b∉fs->b∉ex->h'.get? b=some o
 slot:∀ b o,h.get? b=some o->H b=none->b∈fs->b∉ex->∃ sl,h'.get? b=some { o with slots:=sl }
 free:∀ b o,h.get? b=some o->H b=none->b∉ex->H' b=none
 there:∀ b o,h.get? b=some o->b∉ex->∃ o',h'.get? b=some o'
 tups:∀ b xs,H b=some (.tup xs)->H' b=some (.tup xs)
 frzs:∀ b o u,H b=some (.frz o u)->H' b=some (.frz o u)
 tbls:∀ b ps,H b=some (.tbl ps)->∃ more,H' b=some (.tbl (ps++more))
section
variable {fs fs' ex ex':List Addr} {H H1 H2:Hp} {h h1 h2 h':Heap} {a x e:Addr} {o:HO}
theorem Un.any (u:Un fs ex H H1 h h1) {b:Addr} {ob:Obj} (q:h.get? b=some ob) (n:H b=none) (hx:b∉ex):∃ sl,h1.get? b=some { ob with slots:=sl }:=by
 by_cases hb:b∈fs
 ·exact u.slot b ob q n hb hx
 ·exact⟨ob.slots,u.keep b ob q n hb hx⟩
theorem Un.kept (k:∀ b u,h.get? b=some u->h'.get? b=some u):Un fs ex H H h h' :=
 ⟨fun b ob q _ _ _=>k b ob q,fun b ob q _ _ _=>⟨ob.slots,k b ob q⟩,fun _ _ _ n _=>n,fun b ob q _=>⟨ob,k b ob q⟩,fun _ _ q=>q,fun _ _ _ q=>q,fun _ ps q=>⟨#[],by rw [q];simp⟩⟩
theorem Un.refl:Un fs ex H H h h:=Un.kept fun _ _ q=>q
theorem Un.laid (k:∀ b u,h.get? b=some u->h'.get? b=some u) (hp:h.objs.size<=a) (hn:H a=none):Un fs ex H (upd H a o) h h' where
 keep:=fun b u q _ _ _=>k b u q
 slot:=fun b u q _ _ _=>⟨u.slots,k b u q⟩
 free:=fun b u q n _=>by rw [zm (aqb (ap2 (apU q) hp))];exact n
 there:=fun b u q _=>⟨u,k b u q⟩
 tups:=fun b xs q=>by rw [zm (zF q hn)];exact q
 frzs:=fun b u xs q=>by rw [zm (zF q hn)];exact q
 tbls:=fun b ps q=>⟨#[],by rw [zm (zF q hn),q];simp⟩
theorem Un.write (mu:Mut (H x)) (he:e=x \/ H e=some (.own x)) (k:∀ b u,b≠e->h.get? b=some u->h'.get? b=some u) (heo:∃ u,h'.get? e=some u):Un fs ex H (upd H x o) h h':=by
 have hx:∀ b,H b=none->b≠x:=fun b n z=>by subst z;rw [n] at mu;exact mu
 have hb:∀ b,H b=none->b≠e:=fun b n z=>by
  subst z
  rcases he with r | r
  ·exact hx b n r
  ·rw [n] at r;cases r
 have hm:∀ b u,H b=some u->¬ Mut (some u)->b≠x:=fun b u q nm z=>by subst z;rw [q] at mu;exact nm mu
 refine⟨fun b u q n _ _=>k b u (hb b n) q,fun b u q n _ _=>⟨u.slots,k b u (hb b n) q⟩,fun b u q n _=>by rw [zm (hx b n)];exact n,fun b u q _=>?_,
  fun b xs q=>by rw [zm (hm b _ q fun z=>z)];exact q,fun b u xs q=>by rw [zm (hm b _ q fun z=>z)];exact q,fun b ps q=>⟨#[],by rw [zm (hm b _ q fun z=>z),q];simp⟩⟩
 by_cases hbe:b=e
 ·subst hbe;exact heo
 ·exact⟨u,k b u hbe q⟩
end
noncomputable def trk (h:Heap) (H:Hp):List Addr:=(ap0 h.objs.size).filter fun a=>(H a).isSome
noncomputable def acA (h:Heap) (H:Hp):Heap:=ar2 h (trk h H)
theorem ahE (h:Heap) (H:Hp):(acA h H).objs.size=h.objs.size:=PySem.W.hideAll_size _ _
theorem aiQ {h:Heap} {H:Hp} {b:Addr} {o:Obj} (e:h.get? b=some o) (n:H b=none):(acA h H).get? b=some o :=
 atU _ e fun hm=>by
  have q:(H b).isSome=true:=(ard.mp hm).2
  rw [n] at q;simp at q
theorem akY {h:Heap} {H:Hp} {b:Addr} {o:Obj} (e:(acA h H).get? b=some o):h.get? b=some o/\H b=none:=by
 have e':h.get? b=some o:=PySem.W.of_hideAll (trk h H) e
 refine⟨e',?_⟩
 cases q:H b with
 | none=>rfl
 | some x =>
  have hm:b∈trk h H:=ard.mpr ⟨aqa.mpr (apU e'),by simp [q]⟩
  have z:(acA h H).get? b=none:=atD (trk h H) hm
  rw [z] at e;cases e
noncomputable def akZ (g h:Heap) (L:Addr):List (Addr×Obj):=(ap0 h.objs.size).filterMap fun a=>if a=L \/ (g.get? a).isSome=true then none else (h.get? a).map fun o=>(a,o)
noncomputable def rest (g h:Heap) (L d:Addr):List (Addr×Obj):=(akZ g h L).filter fun p=>decide (p.1≠d)
structure Mod (K:apD) (mg:Str->Option Value) (base:Heap):Prop where
 kin:K.In base
 glob:base.Ns mainGlobals mg
 blt:∃ mb,base.Ns builtinsNs mb/\∀ x:Str,x ≠ "__name__"->mb x=bootBuiltins x
 nolimit:base.NoLimit
structure Cx where
 prog:Program
 w:World
 K:apD
 mg:Str->Option Value
 base:Heap
 A:Around
 N:List Str
 s₀:Shared
 H₀:Hp
 env:Env
 outer:List Env
 stack:List Env
 ex:List Addr
 fn:Str->Bool
 calm:Bool
 pn:List (Addr×Obj)
 xe:Value->Shared->Prop
noncomputable def frs (l:List Env):List Addr:=l.filterMap (·.frame)
noncomputable abbrev Cx.fs (X:Cx):List Addr:=frs X.outer
noncomputable def Vis (sc:Scope) (x:Str):Prop:=sc.names.lookup x=some .local \/ sc.names.lookup x=some .cell \/ sc.names.lookup x=some .free
noncomputable def Loc (sc:Scope) (x:Str):Prop:=sc.names.lookup x=some .local \/ sc.names.lookup x=some .cell
noncomputable def Look (env:Env) (h:Heap) (m:Str->Option Value) (x:Str) (u:Value):Prop :=
 (env.kindOf x=some .local/\m x=some u) \/ ((env.kindOf x=some .cell \/ env.kindOf x=some .free)/\∃ c,env.cells.lookup x=some c/\h.IsCell c (some u))
structure Cx.Ok (X:Cx):Prop where
 mod:Mod X.K X.mg X.base
 kind:X.env.scope.kind=.function
 glob:X.env.globals=mainGlobals
 blt:X.env.builtins=builtinsNs
 above:X.s₀.heap.objs.size<=X.env.locals
 inj:∀ x y c,X.env.cells.lookup x=some c->X.env.cells.lookup y=some c->x=y
 has:∀ x,(X.env.kindOf x=some .cell \/ X.env.kindOf x=some .free)->∃ c,X.env.cells.lookup x=some c
 cab:∀ x c,X.fn x=true->X.env.cells.lookup x=some c->X.s₀.heap.objs.size<=c
 hd:X.calm=true->X.A.handled=none
 frames:X.A.frames=some X.stack
 stk:X.stack=X.outer \/ (X.stack=X.env :: X.outer/\X.env.frame=some X.env.locals)
 exf:∀ b∈X.ex,b≠X.env.locals/\∀ x c,X.env.cells.lookup x=some c->c≠b
 bs:∀ b o,X.base.get? b=some o->X.s₀.heap.get? b=some o/\X.H₀ b=none
 bsz:X.base.objs.size<=X.s₀.heap.objs.size
 noex:∀ b o,X.base.get? b=some o->b∉X.ex
 exfs:∀ b∈X.ex,b∉X.fs
 funs:X.s₀.heap.FunFrames X.base X.outer
 frf:∀ b∈X.fs,X.H₀ b=none
structure Inv (X:Cx) (pins:List (Addr×Obj)) (σ:List (Option V)) (H:Hp) (s:Shared):Prop where
 ok:X.Ok
 os:s.os=X.s₀.os
 bare:AllBare s.gens
 base:Un X.fs X.ex X.H₀ H X.s₀.heap s.heap
 loc:∃ m,s.heap.Ns X.env.locals m/\∀ (i:Nat) (x:Str) (v:V),X.N[i]?=some x->σ[i]?=some (some v)->Vis X.env.scope x->∃ u,RelV v u/\Look X.env s.heap m x u
 cell:∀ x c,X.env.cells.lookup x=some c->∃ v,s.heap.IsCell c v
 free:H X.env.locals=none
 freeC:∀ x c,X.env.cells.lookup x=some c->H c=none
 pin:∀ p∈X.pn++pins,s.heap.get? p.1=some p.2/\H p.1=none/\p.1≠X.env.locals/\p.1∉X.fs/\∀ v,p.2.data≠.cell v
 hok:HOk X.prog X.w H s.heap
 len:σ.length=X.N.length
section
variable {X:Cx} {pins:List (Addr×Obj)} {σ:List (Option V)} {H H':Hp} {s:Shared} {h':Heap}
theorem Cx.Ok.nofr (ok:X.Ok) {b:Addr} {o:Obj} (e:X.base.get? b=some o):b∉X.fs:=fun hb=>by
 have:=(ok.funs.mem hb).1
 rw [e] at this;cases this
theorem Inv.bs (I:Inv X pins σ H s):∀ b o,X.base.get? b=some o->s.heap.get? b=some o/\H b=none:=fun b o e =>
 ⟨I.base.keep b o (I.ok.bs b o e).1 (I.ok.bs b o e).2 (I.ok.nofr e) (I.ok.noex b o e),I.base.free b o (I.ok.bs b o e).1 (I.ok.bs b o e).2 (I.ok.noex b o e)⟩
theorem Inv.bk (I:Inv X pins σ H s):∀ b o,X.base.get? b=some o->s.heap.get? b=some o:=fun b o e=>(I.bs b o e).1
theorem Inv.mod (I:Inv X pins σ H s):Mod X.K X.mg X.base:=I.ok.mod
theorem Inv.kIn (I:Inv X pins σ H s):X.K.In s.heap:=I.ok.mod.kin.keeps I.bk
theorem Inv.fr (I:Inv X pins σ H s):∃ m,Fr X.base X.env.locals s.heap m :=
 let⟨m,hn,_⟩:=I.loc
 ⟨m,hn,I.bk,ap1 I.ok.bsz I.ok.above⟩
theorem Inv.lt (I:Inv X pins σ H s):X.env.locals<s.heap.objs.size:=let⟨_,hn,_⟩:=I.loc;hn.lt
theorem Inv.sz (I:Inv X pins σ H s):X.s₀.heap.objs.size<=s.heap.objs.size:=ap1 I.ok.above (aq4 I.lt)
theorem Inv.nofs (I:Inv X pins σ H s) {a:Addr} (h:s.heap.objs.size<=a):a∉X.fs:=fun hb=>by
 obtain⟨_,o,ho,_⟩:=I.ok.funs.mem hb
 exact absurd (ap2 (apU ho) (ap1 I.sz h)) (aq3 _)
theorem Inv.cne (I:Inv X pins σ H s):∀ x c,X.env.cells.lookup x=some c->c≠X.env.locals:=fun x c e z=>by
 obtain⟨v,o,ho,hd⟩:=I.cell x c e
 obtain⟨m,⟨o',es,ep,ho',hd',_⟩,_⟩:=I.loc
 rw [z,ho'] at ho;cases ho;rw [hd'] at hd;cases hd
theorem Inv.funs (I:Inv X pins σ H s):s.heap.FunFrames X.base X.outer:=by
 have all:∀ (l:List Env),(∀ b∈frs l,b∈X.fs)->X.s₀.heap.FunFrames X.base l->s.heap.FunFrames X.base l:=by
  intro l
  induction l with
  | nil=>intro _ _;trivial
  | cons env r ih =>
   intro hs hl
   obtain⟨hk,⟨L,o,hf,hn,ho,hd⟩,hr⟩:=hl
   have hL:L∈X.fs:=hs L (by unfold frs;rw [aqZ,hf];exact apJ)
   obtain⟨sl,e⟩:=I.base.slot L o ho (I.ok.frf L hL) hL fun z=>I.ok.exfs L z hL
   exact⟨hk,⟨L,_,hf,hn,e,hd⟩,ih (fun b hb=>hs b (by unfold frs;rw [aqZ,hf];exact apG _ hb)) hr⟩
 exact all X.outer (fun _ hb=>hb) I.ok.funs
theorem Inv.stack (I:Inv X pins σ H s):s.heap.FunFrames X.base X.stack:=by
 rcases I.ok.stk with e | ⟨e,hf⟩
 ·rw [e];exact I.funs
 ·rw [e]
  obtain⟨m,hn,_⟩:=I.loc
  refine .cons (by rw [I.ok.kind];decide) hf hn ?_ I.funs
  exact arP (ap1 I.ok.bsz I.ok.above)
theorem Inv.stkSub (I:Inv X pins σ H s):∀ b∈frs X.stack,b∈X.env.locals :: X.fs:=fun b hb=>by
 rcases I.ok.stk with e | ⟨e,hf⟩
 ·rw [e] at hb;exact apG _ hb
 ·rw [e] at hb
  unfold frs at hb
  rw [aqZ,hf] at hb
  exact hb
theorem Inv.stkFree (I:Inv X pins σ H s):∀ b∈frs X.stack,H b=none:=fun b hb=>by
 rcases apK.mp (I.stkSub b hb) with e | hb
 ·rw [e];exact I.free
 ·obtain⟨_,o,ho,_⟩:=I.ok.funs.mem hb
  exact I.base.free b o ho (I.ok.frf b hb) fun z=>I.ok.exfs b z hb
theorem Inv.step {g':Array GenState} {t':Nat} {d':Drawn} {ch:List Addr} (I:Inv X pins σ H s)
  (hch:∀ b∈ch,(b∈X.ex \/ X.s₀.heap.objs.size<=b)/\b≠X.env.locals/\(∀ x c,X.env.cells.lookup x=some c->c≠b)/\∀ p∈X.pn++pins,p.1≠b)
  (keep:∀ b o,b≠X.env.locals->b∉X.fs->b∉ch->s.heap.get? b=some o->H b=none->h'.get? b=some o)
  (slot:∀ b o,b≠X.env.locals->b∈X.fs->b∉ch->s.heap.get? b=some o->H b=none->∃ sl,h'.get? b=some { o with slots:=sl }) (free:∀ b o,b∉ch->s.heap.get? b=some o->H b=none->H' b=none)
  (there:∀ b o,b∉ch->s.heap.get? b=some o->∃ o',h'.get? b=some o')
  (tups:∀ b xs,H b=some (.tup xs)->H' b=some (.tup xs)) (frzs:∀ b o u,H b=some (.frz o u)->H' b=some (.frz o u)) (tbls:∀ b ps,H b=some (.tbl ps)->∃ more,H' b=some (.tbl (ps++more)))
  (ns:∀ m,s.heap.Ns X.env.locals m->h'.Ns X.env.locals m) (hok:HOk X.prog X.w H' h') (hg:AllBare g') :
  Inv X pins σ H' { s with heap:=h',gens:=g',drawn:=d',toks:=t' }:=by
 have neL:∀ b o,X.s₀.heap.get? b=some o->b≠X.env.locals:=fun b o e=>aqb (ap2 (apU e) I.ok.above)
 have neC:∀ b o,X.s₀.heap.get? b=some o->b∉X.ex->b∉ch:=fun b o e hx hb=>by
  rcases (hch b hb).1 with z | z
  ·exact hx z
  ·exact absurd (ap2 (apU e) z) (aq3 _)
 have cellK:∀ x c,X.env.cells.lookup x=some c->∀ v,s.heap.IsCell c v->h'.IsCell c v:=fun x c e v ⟨o,ho,hd⟩=>by
  have nch:c∉ch:=fun z=>(hch c z).2.2.1 x c e rfl
  by_cases hc:c∈X.fs
  ·obtain⟨sl,q⟩:=slot c o (I.cne x c e) hc nch ho (I.freeC x c e)
   exact⟨_,q,hd⟩
  ·exact⟨o,keep c o (I.cne x c e) hc nch ho (I.freeC x c e),hd⟩
 refine⟨I.ok,I.os,hg,⟨fun b o e n hb hx=>?_,fun b o e n hb hx=>?_,fun b o e n hx=>?_,fun b o e hx=>?_,fun b xs e=>tups b xs (I.base.tups b xs e),fun b o xs e=>frzs b o xs (I.base.frzs b o xs e),fun b ps e=>?_⟩,?_,fun x c e=>?_,?_,fun x c e=>?_,fun p hp=>?_,hok,I.len⟩
 ·exact keep b o (neL b o e) hb (neC b o e hx) (I.base.keep b o e n hb hx) (I.base.free b o e n hx)
 ·obtain⟨sl,e1⟩:=I.base.slot b o e n hb hx
  obtain⟨sl',e2⟩:=slot b _ (neL b o e) hb (neC b o e hx) e1 (I.base.free b o e n hx)
  exact⟨sl',e2⟩
 ·obtain⟨o',e1⟩:=I.base.there b o e hx
  exact free b o' (neC b o e hx) e1 (I.base.free b o e n hx)
 ·obtain⟨o',e1⟩:=I.base.there b o e hx
  exact there b o' (neC b o e hx) e1
 ·obtain⟨m1,e1⟩:=I.base.tbls b ps e
  obtain⟨m2,e2⟩:=tbls b _ e1
  exact⟨m1++m2,by rw [e2,Array.append_assoc]⟩
 ·obtain⟨m,hn,hl⟩:=I.loc
  refine⟨m,ns m hn,fun i x v e1 e2 e3=>?_⟩
  obtain⟨u,r,l⟩:=hl i x v e1 e2 e3
  refine⟨u,r,?_⟩
  rcases l with l | ⟨k,c,e,z⟩
  ·exact .inl l
  ·exact .inr ⟨k,c,e,cellK x c e _ z⟩
 ·obtain⟨v,z⟩:=I.cell x c e
  exact⟨v,cellK x c e v z⟩
 ·obtain⟨m,⟨o,_,_,ho,_⟩,_⟩:=I.loc
  exact free _ o (fun z=>(hch _ z).2.1 rfl) ho I.free
 ·obtain⟨v,o,ho,hd⟩:=I.cell x c e
  exact free c o (fun z=>(hch c z).2.2.1 x c e rfl) ho (I.freeC x c e)
 ·obtain⟨e,n,ne,nf,d⟩:=I.pin p hp
  have nch:p.1∉ch:=fun z=>(hch p.1 z).2.2.2 p hp rfl
  exact⟨keep p.1 p.2 ne nf nch e n,free p.1 p.2 nch e n,ne,nf,d⟩
theorem Inv.un {t':Nat} (I:Inv X pins σ H s) (u:Un X.fs [] H H' s.heap h') (hok:HOk X.prog X.w H' h'):Inv X pins σ H' { s with heap:=h',toks:=t' }:=by
 obtain⟨m,⟨o,es,ep,ho,r⟩,_⟩:=id I.loc
 obtain⟨sl,hL⟩:=u.any ho I.free (by simp)
 exact I.step (g':=s.gens) (d':=s.drawn) (ch:=[]) (fun _ z=>nomatch z) (fun b o _ hb _ e n=>u.keep b o e n hb (by simp)) (fun b o _ hb _ e n=>u.slot b o e n hb (by simp)) (fun b o _ e n=>u.free b o e n (by simp)) (fun b o _ e=>u.there b o e (by simp)) u.tups u.frzs u.tbls (fun m' hm=>by
  obtain⟨o',es',ep',ho',r'⟩:=hm
  rw [ho] at ho';cases ho'
  exact⟨_,es',ep',hL,r'⟩) hok I.bare
theorem Inv.call {g':Array GenState} {t':Nat} {d':Drawn} {ch:List Addr} (I:Inv X pins σ H s) (u:Un (frs X.stack) ch H H' s.heap h') (hok:HOk X.prog X.w H' h') (hg:AllBare g')
  (hch:∀ b∈ch,(b∈X.ex \/ X.s₀.heap.objs.size<=b)/\b≠X.env.locals/\(∀ x c,X.env.cells.lookup x=some c->c≠b)/\∀ p∈X.pn++pins,p.1≠b) :
  Inv X pins σ H' { s with heap:=h',gens:=g',drawn:=d',toks:=t' }:=by
 obtain⟨m,⟨o,es,ep,ho,r⟩,_⟩:=id I.loc
 obtain⟨sl,hL⟩:=u.any ho I.free fun z=>(hch _ z).2.1 rfl
 exact I.step (ch:=ch) hch (fun b o hL hb hc e n=>u.keep b o e n (fun z=>(apK.mp (I.stkSub b z)).elim hL hb) hc) (fun b o _ _ hc e n=>u.any e n hc) (fun b o hc e n=>u.free b o e n hc) (fun b o hc e=>u.there b o e hc) u.tups u.frzs u.tbls (fun m' hm=>by
  obtain⟨o',es',ep',ho',r'⟩:=hm
  rw [ho] at ho';cases ho'
  exact⟨_,es',ep',hL,r'⟩) hok hg
theorem Inv.turned {t':Nat} {it:Addr} (I:Inv X pins σ H s) (k:∀ b o,b≠it->s.heap.get? b=some o->h'.get? b=some o) (hn:H it=none) (hL:it≠X.env.locals)
  (h1:it∈X.ex \/ X.s₀.heap.objs.size<=it) (h2:∀ x c,X.env.cells.lookup x=some c->c≠it) (h3:∀ p∈X.pn++pins,p.1≠it):Inv X pins σ H { s with heap:=h',toks:=t' }:=by
 have nit:∀ b u,H b=some u->b≠it:=fun b u e z=>by rw [z,hn] at e;cases e
 refine I.step (g':=s.gens) (d':=s.drawn) (ch:=[it]) (fun b hb=>?_) (fun b o _ _ hc e _=>k b o (fun z=>hc (by simp [z])) e) (fun b o _ _ hc e _=>⟨o.slots,k b o (fun z=>hc (by simp [z])) e⟩) (fun _ _ _ _ n=>n)
  (fun b o hc e=>⟨o,k b o (fun z=>hc (by simp [z])) e⟩) (fun _ _ e=>e) (fun _ _ _ e=>e) (fun b ps e=>⟨#[],by rw [e];simp⟩) (fun m hm=>?_) (fun b u e=>?_) I.bare
 ·have e:b=it:=by simpa using hb
  subst e
  exact⟨h1,hL,h2,h3⟩
 ·obtain⟨o,es,ep,ho,r⟩:=hm
  exact⟨o,es,ep,k _ o (aqP hL) ho,r⟩
 ·refine (I.hok b u e).stay (fun c v hc q=>k c v ?_ q) (fun _ q=>q) fun _ _ q=>q
  rcases hc with z | z
  ·rw [z];exact nit b u e
  ·exact nit c _ z
theorem Inv.tok (I:Inv X pins σ H s) (t:Nat):Inv X pins σ H { s with toks:=t }:=I.un (h':=s.heap) (t':=t) Un.refl I.hok
theorem Inv.kept {t':Nat} (I:Inv X pins σ H s) (k:∀ b u,s.heap.get? b=some u->h'.get? b=some u):Inv X pins σ H { s with heap:=h',toks:=t' }:=I.un (Un.kept k) (I.hok.kept k)
theorem Inv.laid {a:Addr} {o:HO} {t':Nat} (I:Inv X pins σ H s) (k:∀ b u,s.heap.get? b=some u->h'.get? b=some u) (hp:s.heap.objs.size<=a) (new:ObjOk X.prog X.w (upd H a o) h' a o) :
  Inv X pins σ (upd H a o) { s with heap:=h',toks:=t' }:=I.un (Un.laid k hp (I.hok.fresh hp)) (I.hok.laid k hp new)
theorem Inv.write {x e:Addr} {o:HO} {t':Nat} (I:Inv X pins σ H s) (mu:Mut (H x)) (he:e=x \/ H e=some (.own x)) (k:∀ b u,b≠e->s.heap.get? b=some u->h'.get? b=some u) (heo:∃ u,h'.get? e=some u)
  (new:ObjOk X.prog X.w (upd H x o) h' x o):Inv X pins σ (upd H x o) { s with heap:=h',toks:=t' }:=I.un (Un.write mu he k heo) (I.hok.write mu he k heo new)
theorem Inv.pins_of {pins':List (Addr×Obj)} (I:Inv X pins σ H s) (h:∀ p∈pins',s.heap.get? p.1=some p.2/\H p.1=none/\p.1≠X.env.locals/\p.1∉X.fs/\∀ v,p.2.data≠.cell v):Inv X pins' σ H s :=
 ⟨I.ok,I.os,I.bare,I.base,I.loc,I.cell,I.free,I.freeC,fun p hp=>(apW.mp hp).elim (fun z=>I.pin p (aqT _ z)) (h p),I.hok,I.len⟩
theorem aa2 {N:List Str} (hN:N.Nodup) {i j:Nat} {x:Str} (a:N[i]?=some x) (b:N[j]?=some x):i=j:=by
 obtain⟨h1,e1⟩:=apE.mp a
 obtain⟨h2,e2⟩:=apE.mp b
 exact (asq hN).mp (e1.trans e2.symm)
theorem abV {M:Model} {A:Around} {E:Value->Shared->Prop} {i:Nat} {x:Str} {v:V} {u:Value} {Q:Unit->Shared->Prop} (I:Inv X pins σ H s) (hN:X.N.Nodup) (hi:X.N[i]?=some x) (hx:Loc X.env.scope x) (r:RelV v u)
  (h:∀ s',Inv X pins (σ.set i (some v)) H s'->(∃ a,arE a s.heap s'.heap/\(a=X.env.locals \/ X.env.cells.lookup x=some a))->Q () s') (hf:X.fn x=true \/ X.env.scope.names.lookup x=some .local:=by first | exact .inl rfl | exact .inr rfl | assumption):wpAny M A (storeName X.env x u) Q E s:=by
 obtain⟨m,hn,hl⟩:=id I.loc
 have hcls:(X.env.scope.kind == .class || (X.env.scope.kind == .module && X.env.locals != X.env.globals))=false:=by rw [I.ok.kind];rfl
 have hiσ:i<σ.length:=by rw [I.len];exact (apE.mp hi).1
 have cne:=I.cne
 have tracked:∀ {a:Addr} {h':Heap},(∃ o,s.heap.get? a=some o/\H a=none)->arE a s.heap h'->HOk X.prog X.w H h':=fun {a h'} ha hs b ob e=>by
  obtain⟨_,_,hfree⟩:=ha
  refine (I.hok b ob e).stay (fun c w' hc q=>(hs.2 c ?_).trans q) (fun _ q=>q) fun _ _ q=>q
  rintro rfl
  rcases hc with rfl | hc
  ·rw [hfree] at e;cases e
  ·rw [hfree] at hc;cases hc
 rcases hx with hk | hk
 ·refine wpAny_storeName_local hk hn (fun h' hn' hs=>?_) hcls
  obtain⟨oL,_,_,hoL,_⟩:=id hn
  refine h _ ⟨I.ok,I.os,I.bare,⟨fun b o e n hb hx=>?_,fun b o e n hb hx=>?_,I.base.free,fun b o e hx=>?_,I.base.tups,I.base.frzs,I.base.tbls⟩,⟨_,hn',fun j y v' e1 e2 e3=>?_⟩,fun y c e=>?_,I.free,I.freeC,fun p hp=>?_,tracked ⟨oL,hoL,I.free⟩ hs,by simpa using I.len⟩ ⟨_,hs,.inl rfl⟩
  ·exact (hs.2 b (aqb (ap2 (apU e) I.ok.above))).trans (I.base.keep b o e n hb hx)
  ·obtain⟨sl,e1⟩:=I.base.slot b o e n hb hx
   exact⟨sl,(hs.2 b (aqb (ap2 (apU e) I.ok.above))).trans e1⟩
  ·obtain⟨o',e1⟩:=I.base.there b o e hx
   exact⟨o',(hs.2 b (aqb (ap2 (apU e) I.ok.above))).trans e1⟩
  ·by_cases hj:j=i
   ·subst hj
    rw [hi] at e1;cases e1
    rw [aqm hiσ] at e2
    cases e2
    exact⟨u,r,.inl ⟨hk,by simp⟩⟩
   ·rw [aqs (aqP hj)] at e2
    obtain⟨u',r',q⟩:=hl j y v' e1 e2 e3
    refine⟨u',r',?_⟩
    rcases q with⟨k,e⟩ | ⟨k,c,e,z⟩
    ·refine .inl ⟨k,?_⟩
     have:y≠x:=fun e=>hj (aa2 hN e1 (e▸hi))
     simp [this,e]
    ·exact .inr ⟨k,c,e,z.sameBut hs (cne y c e)⟩
  ·obtain⟨w',z⟩:=I.cell y c e
   exact⟨w',z.sameBut hs (cne y c e)⟩
  ·obtain⟨e,n,ne,nf,d⟩:=I.pin p hp
   exact⟨(hs.2 p.1 ne).trans e,n,ne,nf,d⟩
 ·have hfn:X.fn x=true:=by
   rcases hf with z | z
   ·exact z
   ·rw [z] at hk;cases hk
  obtain⟨c,hc⟩:=I.ok.has x (.inl hk)
  obtain⟨w',z⟩:=I.cell x c hc
  refine wpAny_storeName_cell I.ok.kind hk hc z (fun h' hc' hs=>?_)
  obtain⟨oc,hoc,hocd⟩:=id z
  refine h { s with heap:=h' } ⟨I.ok,I.os,I.bare,⟨fun b o e n hb hx=>?_,fun b o e n hb hx=>?_,I.base.free,fun b o e hx=>?_,I.base.tups,I.base.frzs,I.base.tbls⟩,⟨m,hn.sameBut hs (aqP (cne x c hc)),fun j y v' e1 e2 e3=>?_⟩,fun y c' e=>?_,I.free,I.freeC,fun p hp=>?_,tracked ⟨oc,hoc,I.freeC x c hc⟩ hs,by simpa using I.len⟩ ⟨c,hs,.inr hc⟩
  ·exact (hs.2 b (aqb (ap2 (apU e) (I.ok.cab x c hfn hc)))).trans (I.base.keep b o e n hb hx)
  ·obtain⟨sl,e1⟩:=I.base.slot b o e n hb hx
   exact⟨sl,(hs.2 b (aqb (ap2 (apU e) (I.ok.cab x c hfn hc)))).trans e1⟩
  ·obtain⟨o',e1⟩:=I.base.there b o e hx
   exact⟨o',(hs.2 b (aqb (ap2 (apU e) (I.ok.cab x c hfn hc)))).trans e1⟩
  ·by_cases hj:j=i
   ·subst hj
    rw [hi] at e1;cases e1
    rw [aqm hiσ] at e2
    cases e2
    exact⟨u,r,.inr ⟨.inl hk,c,hc,hc'⟩⟩
   ·rw [aqs (aqP hj)] at e2
    obtain⟨u',r',q⟩:=hl j y v' e1 e2 e3
    refine⟨u',r',?_⟩
    rcases q with q | ⟨k,c',e,z'⟩
    ·exact .inl q
    ·refine .inr ⟨k,c',e,z'.sameBut hs ?_⟩
     rintro rfl
     exact hj (aa2 hN e1 (I.ok.inj _ _ _ e hc▸hi))
  ·by_cases hcc:c'=c
   ·subst hcc;exact⟨_,hc'⟩
   ·obtain⟨w2,z2⟩:=I.cell y c' e
    exact⟨w2,z2.sameBut hs hcc⟩
  ·obtain⟨e,n,ne,nf,d⟩:=I.pin p hp
   refine⟨(hs.2 p.1 ?_).trans e,n,ne,nf,d⟩
   intro q
   rw [q,hoc] at e
   have q':oc=p.2:=Option.some.inj e
   exact d w' (by rw [<-q'];exact hocd)
theorem vN {M:Model} {A:Around} {E:Value->Shared->Prop} {i:Nat} {x:Str} {v:V} {u:Value} {Q:Unit->Shared->Prop} (I:Inv X pins σ H s) (hN:X.N.Nodup) (hi:X.N[i]?=some x) (hx:Loc X.env.scope x) (r:RelV v u)
  (h:∀ s',Inv X pins (σ.set i (some v)) H s'->Q () s') (hf:X.fn x=true \/ X.env.scope.names.lookup x=some .local:=by first | exact .inl rfl | exact .inr rfl | assumption):wpAny M A (storeName X.env x u) Q E s :=
 abV I hN hi hx r (fun s' I' _=>h s' I') hf
theorem Inv.call' {s':Shared} {ch:List Addr} (I:Inv X pins σ H s) (ho:s'.os=s.os) (u:Un (frs X.stack) ch H H' s.heap s'.heap) (hok:HOk X.prog X.w H' s'.heap) (hg:AllBare s'.gens)
  (hch:∀ b∈ch,(b∈X.ex \/ X.s₀.heap.objs.size<=b)/\b≠X.env.locals/\(∀ x c,X.env.cells.lookup x=some c->c≠b)/\∀ p∈X.pn++pins,p.1≠b):Inv X pins σ H' s':=by
 obtain⟨h',g',d',t',o'⟩:=s'
 have e:o'=s.os:=ho
 subst e
 exact I.call (g':=g') (t':=t') (d':=d') u hok hg hch
end
noncomputable abbrev XK:=Value->Option Addr->Hp->Prop
noncomputable abbrev St:=List (Option V)
noncomputable abbrev VK:=V->Hp->Prop
noncomputable abbrev TE:=St->Hp->VK->Prop
noncomputable abbrev TT:=St->Hp->(Bool->Hp->Prop)->Prop
noncomputable abbrev TA:=St->Hp->(List V->Hp->Prop)->Prop
structure Ends where
 nx:St->Hp->Prop
 rt:VK
 bk:St->Hp->Prop:=fun _ _=>False
 ct:St->Hp->Prop:=fun _ _=>False
noncomputable abbrev TS:=Ends->St->Hp->Prop
noncomputable def EP (X:Cx) (pins:List (Addr×Obj)) (σ:St) (Q:VK) (u:Value) (s':Shared):Prop:=∃ v H',Inv X pins σ H' s'/\RelV v u/\Q v H'
noncomputable def TP (X:Cx) (pins:List (Addr×Obj)) (σ:St) (Q:Bool->Hp->Prop) (b:Bool) (s':Shared):Prop:=∃ H',Inv X pins σ H' s'/\Q b H'
noncomputable def AP (X:Cx) (pins:List (Addr×Obj)) (σ:St) (Q:List V->Hp->Prop) (us:List Value) (s':Shared):Prop:=∃ vs H',Inv X pins σ H' s'/\Vals vs us/\Q vs H'
noncomputable def SP (X:Cx) (pins:List (Addr×Obj)) (D:Ends) (f:Flow) (s':Shared):Prop :=
 match f with
 | .next=>∃ σ' H',Inv X pins σ' H' s'/\D.nx σ' H'
 | .brk=>∃ σ' H',Inv X pins σ' H' s'/\D.bk σ' H'
 | .cont=>∃ σ' H',Inv X pins σ' H' s'/\D.ct σ' H'
 | .ret u=>∃ v σ' H',Inv X pins σ' H' s'/\RelV v u/\D.rt v H'
noncomputable def PE (X:Cx) (e:Expr) (t:TE):Prop :=
 ∀ (pins:List (Addr×Obj)) (s:Shared) (σ:St) (H:Hp) (Q:VK),Inv X pins σ H s->t σ H Q->wpAny (model X.prog X.w) X.A (eval e X.env) (EP X pins σ Q) X.xe s
noncomputable def PT (X:Cx) (e:Expr) (t:TT):Prop :=
 ∀ (pins:List (Addr×Obj)) (s:Shared) (σ:St) (H:Hp) (Q:Bool->Hp->Prop),Inv X pins σ H s->t σ H Q->wpAny (model X.prog X.w) X.A (isTrue e X.env (eval e X.env)) (TP X pins σ Q) X.xe s
noncomputable def PW (X:Cx) (e:Expr) (t:TT):Prop :=
 ∀ (whole:Sem Value) (pins:List (Addr×Obj)) (s:Shared) (σ:St) (H:Hp) (Q:Bool->Hp->Prop),Inv X pins σ H s->t σ H Q->wpAny (model X.prog X.w) X.A (isTrue e X.env whole) (TP X pins σ Q) X.xe s
theorem PW.pt {X:Cx} {e:Expr} {t:TT} (h:PW X e t):PT X e t:=h _
noncomputable def PA (X:Cx) (es:List Expr) (t:TA):Prop :=
 ∀ (pos:Pos) (pins:List (Addr×Obj)) (s:Shared) (σ:St) (H:Hp) (Q:List V->Hp->Prop),Inv X pins σ H s->t σ H Q->wpAny (model X.prog X.w) X.A (spliced (backTo pos (starEach es X.env))) (AP X pins σ Q) X.xe s
noncomputable def PS (X:Cx) (st:Stmt) (t:TS):Prop :=
 ∀ (pins:List (Addr×Obj)) (s:Shared) (σ:St) (H:Hp) (D:Ends),Inv X pins σ H s->t D σ H->wpAny (model X.prog X.w) X.A (exec st X.env) (SP X pins D) X.xe s
noncomputable def PSs (X:Cx) (st:List Stmt) (t:TS):Prop :=
 ∀ (pins:List (Addr×Obj)) (s:Shared) (σ:St) (H:Hp) (D:Ends),Inv X pins σ H s->t D σ H->wpAny (model X.prog X.w) X.A (execs st X.env) (SP X pins D) X.xe s
theorem thn {α:Type} {t:Sem α} {Q Q':α->Shared->Prop} {M:Model} {A:Around} {E:Value->Shared->Prop} {s:Shared} (h:wpAny M A t Q E s) (hQ:∀ a s,Q a s->Q' a s):wpAny M A t Q' E s:=wpAny_mono h hQ fun _ _ x=>x
section
variable {X:Cx}
noncomputable def yp (i:Nat):TE:=fun σ H Q=>∃ v,σ[i]?=some (some v)/\Q v H
noncomputable def tC (v:V):TE:=fun _ H Q=>Q v H
theorem amT {i:Nat} {x:Str} {pos:Pos} (hN:X.N[i]?=some x) (hv:Vis X.env.scope x) (hd:(x == ("__debug__":Str))=false:=by decide) (hcd:(x == ("__classdict__":Str))=false:=by decide):PE X (.Name x pos) (yp i):=by
 intro pins s σ H Q I h
 obtain⟨v,e,h⟩:=h
 obtain⟨m,hn,hl⟩:=I.loc
 obtain⟨u,r,l⟩:=hl i x v hN e hv
 have fin:EP X pins σ Q u s:=⟨v,H,I,r,h⟩
 rcases l with⟨hk,hm⟩ | ⟨hk,c,hc,hcell⟩
 ·exact wpAny_Name (wpAny_loadName_local I.ok.kind hk hn hm fin) hd
 ·rcases hk with hk | hk
  ·exact wpAny_Name (wpAny_loadName_cell I.ok.kind hk hc hcell fin) hd
  ·exact wpAny_Name (wpAny_loadName_free I.ok.kind hk hc hcell fin hcd) hd
theorem zd {i j pos}:PE X (.Constant (.int i) j pos) (tC (.int i)):=fun _ _ _ H _ I h=>wpAny_Constant_int ⟨.int i,H,I.tok _,⟨_,rfl⟩,h⟩
theorem qg {b j pos}:PE X (.Constant (.bool b) j pos) (tC (.bl b)):=fun _ _ _ H _ I h=>Constant_bool ⟨.bl b,H,I,rfl,h⟩
theorem aa3 {j pos}:PE X (.Constant .none j pos) (tC .non):=fun _ _ _ H _ I h=>Constant_none ⟨.non,H,I,rfl,h⟩
theorem zV {x j pos}:PE X (.Constant (.str x) j pos) (tC (.str x)):=fun _ _ _ H _ I h=>Calls.Constant_str ⟨.str x,H,I.tok _,⟨_,rfl⟩,h⟩
noncomputable def Gl (X:Cx) (x:Str):Prop:=X.env.kindOf x=some .globalImplicit
theorem qv {E:Value->Shared->Prop} {pins:List (Addr×Obj)} {s:Shared} {σ:St} {H:Hp} {x:Str} {u:Value} {pos:Pos} {Q:Value->Shared->Prop} (I:Inv X pins σ H s) (hg:Gl X x) (hm:X.mg x=some u) (h:Q u s)
  (hd:(x == ("__debug__":Str))=false:=by decide):wpAny (model X.prog X.w) X.A (eval (.Name x pos) X.env) Q E s :=
 asK I.ok.kind hg (Calls.loadGlobal_global (by rw [I.ok.glob];exact I.mod.glob.keeps I.bk) hm h) hd
theorem aae {E:Value->Shared->Prop} {pins:List (Addr×Obj)} {s:Shared} {σ:St} {H:Hp} {x:Str} {u:Value} {pos:Pos} {Q:Value->Shared->Prop} (I:Inv X pins σ H s) (hg:Gl X x) (hm:X.mg x=none) (hv:bootBuiltins x=some u) (h:Q u s)
  (hn:x ≠ "__name__":=by decide) (hd:(x == ("__debug__":Str))=false:=by decide):wpAny (model X.prog X.w) X.A (eval (.Name x pos) X.env) Q E s:=by
 obtain⟨mb,h1,h2⟩:=I.mod.blt
 exact asK I.ok.kind hg (Calls.loadGlobal_builtin (by rw [I.ok.glob];exact I.mod.glob.keeps I.bk) hm (by rw [I.ok.blt];exact h1.keeps I.bk) ((h2 x hn).trans hv) h) hd
theorem acB {x:Str} {v:V} {u:Value} {pos:Pos} (hg:Gl X x) (hm:X.mg x=some u) (r:RelV v u) (hd:(x == ("__debug__":Str))=false:=by decide):PE X (.Name x pos) (tC v) :=
 fun _ _ _ H _ I h=>qv I hg hm ⟨v,H,I,r,h⟩ hd
theorem agl {x:Str} {v:V} {u:Value} {pos:Pos} (hg:Gl X x) (hm:X.mg x=none) (hv:bootBuiltins x=some u) (r:RelV v u) (hn:x ≠ "__name__":=by decide) (hd:(x == ("__debug__":Str))=false:=by decide):PE X (.Name x pos) (tC v) :=
 fun _ _ _ H _ I h=>aae I hg hm hv ⟨v,H,I,r,h⟩ hn hd
variable {a b:Expr} {ta tb:TE} {pos:Pos}
variable {tA tB':TT} {rest:List Expr}
noncomputable def aoD (t u:TT):TT:=fun σ H Q=>t σ H fun c H1=>if c=true then u σ H1 Q else Q false H1
noncomputable def tOr (t u:TT):TT:=fun σ H Q=>t σ H fun c H1=>if c=true then Q true H1 else u σ H1 Q
noncomputable def aoE (t:TT):TT:=fun σ H Q=>t σ H fun c H1=>Q (!c) H1
theorem agm (ha:PT X a tA):PW X (.BoolOp .And [a] pos) tA:=by
 intro wh pins s σ H Q I h
 refine isTrue_and (thn (ha pins s σ H Q I h) fun c s1 e=>?_)
 cases c with
 | true=>exact isTrue_and_nil e
 | false=>exact e
theorem acC (ha:PT X a tA):PW X (.BoolOp .Or [a] pos) tA:=by
 intro wh pins s σ H Q I h
 refine isTrue_or (thn (ha pins s σ H Q I h) fun c s1 e=>?_)
 cases c with
 | false=>exact isTrue_or_nil e
 | true=>exact e
theorem aiR (ha:PT X a tA) (hb:PW X (.BoolOp .And (b :: rest) pos) tB'):PW X (.BoolOp .And (a :: b :: rest) pos) (aoD tA tB'):=by
 intro wh pins s σ H Q I h
 refine isTrue_and (thn (ha pins s σ H _ I h) fun c s1 ⟨H1,I1,q1⟩=>?_)
 cases c with
 | true=>exact hb wh pins s1 σ H1 Q I1 q1
 | false=>exact⟨H1,I1,q1⟩
theorem adT (ha:PT X a tA) (hb:PW X (.BoolOp .Or (b :: rest) pos) tB'):PW X (.BoolOp .Or (a :: b :: rest) pos) (tOr tA tB'):=by
 intro wh pins s σ H Q I h
 refine isTrue_or (thn (ha pins s σ H _ I h) fun c s1 ⟨H1,I1,q1⟩=>?_)
 cases c with
 | true=>exact⟨H1,I1,q1⟩
 | false=>exact hb wh pins s1 σ H1 Q I1 q1
theorem jC (ha:PT X a tA):PT X (.UnaryOp .Not a pos) (aoE tA):=by
 intro pins s σ H Q I h
 exact isTrue_not (ha pins s σ H (fun c H1=>Q (!c) H1) I h)
noncomputable def amu (ta tb:TE):TE:=fun σ H Q=>ta σ H fun x H1=>∃ c,x=.bl c/\if c=true then tb σ H1 Q else Q (.bl false) H1
noncomputable def aoF (ta tb:TE):TE:=fun σ H Q=>ta σ H fun x H1=>∃ c,x=.bl c/\if c=true then Q (.bl true) H1 else tb σ H1 Q
noncomputable def amv (ta:TE):TE:=fun σ H Q=>ta σ H fun x H1=>∃ c,x=.bl c/\Q (.bl (!c)) H1
theorem acD {op} {t:TE} (h:PE X a t):PE X (.BoolOp op [a] pos) t:=fun pins s σ H Q I hw=>BoolOp_one (h pins s σ H Q I hw)
theorem acE (ha:PE X a ta) (hb:PE X (.BoolOp .And (b :: rest) pos) tb):PE X (.BoolOp .And (a :: b :: rest) pos) (amu ta tb):=by
 intro pins s σ H Q I h
 refine BoolOp_and (thn (ha pins s σ H _ I h) fun v s1 ⟨x,H1,I1,r1,q1⟩=>?_)
 obtain⟨c,rfl,q1⟩:=q1
 cases r1
 refine wpAny_truthy_bool ?_
 cases c with
 | true=>exact hb pins s1 σ H1 Q I1 q1
 | false=>exact⟨.bl false,H1,I1,rfl,q1⟩
theorem aoG (ha:PE X a ta) (hb:PE X (.BoolOp .Or (b :: rest) pos) tb):PE X (.BoolOp .Or (a :: b :: rest) pos) (aoF ta tb):=by
 intro pins s σ H Q I h
 refine BoolOp_or (thn (ha pins s σ H _ I h) fun v s1 ⟨x,H1,I1,r1,q1⟩=>?_)
 obtain⟨c,rfl,q1⟩:=q1
 cases r1
 refine wpAny_truthy_bool ?_
 cases c with
 | false=>exact hb pins s1 σ H1 Q I1 q1
 | true=>exact⟨.bl true,H1,I1,rfl,q1⟩
theorem amU (ha:PE X a ta):PE X (.UnaryOp .Not a pos) (amv ta):=by
 intro pins s σ H Q I h
 refine UnaryOp_ (thn (ha pins s σ H _ I h) fun v s1 ⟨x,H1,I1,r1,q1⟩=>?_)
 obtain⟨c,rfl,q1⟩:=q1
 cases r1
 exact not_of (wpAny_truthy_bool ⟨.bl (!c),H1,I1,rfl,q1⟩)
noncomputable def tIf (t:TT) (ta tb:TE):TE:=fun σ H Q=>t σ H fun c H1=>if c=true then ta σ H1 Q else tb σ H1 Q
theorem qh {c:Expr} (hc:PT X c tA) (ha:PE X a ta) (hb:PE X b tb):PE X (.IfExp c a b pos) (tIf tA ta tb):=by
 intro pins s σ H Q I h
 refine wpAny_IfExp (thn (hc pins s σ H _ I h) fun d s1 ⟨H1,I1,q1⟩=>?_)
 cases d with
 | true=>exact ha pins s1 σ H1 Q I1 q1
 | false=>exact hb pins s1 σ H1 Q I1 q1
end
noncomputable def SqL (K:apD) (H:Hp) (a:Addr) (xs:List V):Prop :=
 Rd H a (.lst xs) \/
  ∃ (o:Obj) (its:Array Value) (n:Nat),K.lookup a=some o/\o.cls=.type "list"/\o.dict=none/\o.data=.seq its n/\its.size<=sizeLine/\Vals xs its.toList
noncomputable def SqT (K:apD) (H:Hp) (a:Addr) (xs:List V):Prop :=
 Rd H a (.tup xs) \/
  ∃ (o:Obj) (its:Array Value) (n:Nat),K.lookup a=some o/\o.cls=.type "tuple"/\o.data=.seq its n/\its.size<=sizeLine/\Vals xs its.toList
noncomputable def apr:Value->Option V
 | .none=>some .non
 | .bool b=>some (.bl b)
 | .int i _=>some (.int i)
 | .str x _=>some (.str x)
 | .bytes b _=>some (.byt b)
 | .float b _=>some (.flt b)
 | .ref a=>some (.ref a)
 | .type n=>some (.ty n)
 | _=>none
theorem RelV.abs {x:V} {u:Value} (r:RelV x u):apr u=some x:=by
 cases x with
 | non=>cases r;rfl
 | bl _=>cases r;rfl
 | int _=>obtain⟨t,rfl⟩:=r;rfl
 | str _=>obtain⟨t,rfl⟩:=r;rfl
 | byt _=>obtain⟨t,rfl⟩:=r;rfl
 | flt _=>obtain⟨t,rfl⟩:=r;rfl
 | ref _=>cases r;rfl
 | ty _=>cases r;rfl
theorem RelV.inj {x y:V} {u:Value} (r:RelV x u) (q:RelV y u):x=y:=Option.some.inj (r.abs.symm.trans q.abs)
theorem Vals.inj:∀ {xs ys:List V} {us:List Value},Vals xs us->Vals ys us->xs=ys
 | _,_,_,.nil,.nil=>rfl
 | _,_,_,.cons r t,.cons r' t'=>by rw [r.inj r',Vals.inj t t']
section
variable {X:Cx} {pins:List (Addr×Obj)} {σ:St} {H:Hp} {s:Shared} {a:Addr} {xs ys:List V}
theorem SqL.of {K:apD} (h:H a=some (.lst xs)):SqL K H a xs:=.inl (.inl h)
theorem SqT.of {K:apD} (h:H a=some (.tup xs)):SqT K H a xs:=.inl (.inl h)
theorem Inv.list (I:Inv X pins σ H s) (h:SqL X.K H a xs):∃ its:List Value,Vals xs its/\PlainL s.heap a its.toArray/\xs.length<=sizeLine:=by
 rcases h with h | ⟨o,its,n,hk,hc,hd,hs,hz,r⟩
 ·obtain⟨z,its,n,r,e⟩:=h.ok I.hok
  exact⟨its,r,⟨_,n,e,rfl,rfl,rfl⟩,z⟩
 ·refine⟨its.toList,r,⟨o,n,I.kIn a o hk,hc,hd,by simpa using hs⟩,?_⟩
  have e:=r.length
  simp only [apY] at e
  omega
theorem Inv.tuple (I:Inv X pins σ H s) (h:SqT X.K H a xs):∃ its:List Value,Vals xs its/\IsTup s.heap a its.toArray/\xs.length<=sizeLine:=by
 rcases h with h | ⟨o,its,n,hk,hc,hs,hz,r⟩
 ·obtain⟨z,its,r,p⟩:=h.ok I.hok
  exact⟨its,r,p,z⟩
 ·refine⟨its.toList,r,⟨o,I.kIn a o hk,hc,n,by simpa using hs⟩,?_⟩
  have e:=r.length
  simp only [apY] at e
  omega
theorem Inv.list_inj (I:Inv X pins σ H s) (h:SqL X.K H a xs) (h':SqL X.K H a ys):xs=ys:=by
 obtain⟨its,r,⟨o,n,e,_,_,d⟩,_⟩:=I.list h
 obtain⟨its',r',⟨o',n',e',_,_,d'⟩,_⟩:=I.list h'
 rw [e] at e';cases e'
 rw [d] at d'
 injection d' with d1 _
 have:its=its':=by simpa using congrArg Array.toList d1
 subst this
 exact r.inj r'
theorem Inv.tuple_inj (I:Inv X pins σ H s) (h:SqT X.K H a xs) (h':SqT X.K H a ys):xs=ys:=by
 obtain⟨its,r,⟨o,e,_,n,d⟩,_⟩:=I.tuple h
 obtain⟨its',r',⟨o',e',_,n',d'⟩,_⟩:=I.tuple h'
 rw [e] at e';cases e'
 rw [d] at d'
 injection d' with d1 _
 have:its=its':=by simpa using congrArg Array.toList d1
 subst this
 exact r.inj r'
end
noncomputable abbrev Cx.wish (X:Cx) (E:Value->Shared->Prop):Cx:={ X with xe:=E }
noncomputable abbrev Cx.nox (X:Cx):Cx:=X.wish fun _ _=>False
theorem Cx.Ok.wish {X:Cx} (ok:X.Ok) (E:Value->Shared->Prop):(X.wish E).Ok :=
 ⟨ok.mod,ok.kind,ok.glob,ok.blt,ok.above,ok.inj,ok.has,ok.cab,ok.hd,ok.frames,ok.stk,ok.exf,ok.bs,ok.bsz,ok.noex,ok.exfs,ok.funs,ok.frf⟩
theorem Cx.Ok.unwish {X:Cx} {E:Value->Shared->Prop} (ok:(X.wish E).Ok):X.Ok :=
 ⟨ok.mod,ok.kind,ok.glob,ok.blt,ok.above,ok.inj,ok.has,ok.cab,ok.hd,ok.frames,ok.stk,ok.exf,ok.bs,ok.bsz,ok.noex,ok.exfs,ok.funs,ok.frf⟩
section
variable {X:Cx} {pins:List (Addr×Obj)} {σ:St} {H:Hp} {s:Shared} {E:Value->Shared->Prop}
theorem Inv.wish (I:Inv X pins σ H s) (E:Value->Shared->Prop):Inv (X.wish E) pins σ H s:=⟨I.ok.wish E,I.os,I.bare,I.base,I.loc,I.cell,I.free,I.freeC,I.pin,I.hok,I.len⟩
theorem Inv.unwish (I:Inv (X.wish E) pins σ H s):Inv X pins σ H s:=⟨I.ok.unwish,I.os,I.bare,I.base,I.loc,I.cell,I.free,I.freeC,I.pin,I.hok,I.len⟩
theorem SP.unwish {D:Ends} {f:Flow} {s':Shared} (h:SP (X.wish E) pins D f s'):SP X pins D f s':=by
 cases f with
 | next=>obtain⟨σ',H',I,q⟩:=h;exact⟨σ',H',I.unwish,q⟩
 | brk=>obtain⟨σ',H',I,q⟩:=h;exact⟨σ',H',I.unwish,q⟩
 | cont=>obtain⟨σ',H',I,q⟩:=h;exact⟨σ',H',I.unwish,q⟩
 | ret u=>obtain⟨v,σ',H',I,r,q⟩:=h;exact⟨v,σ',H',I.unwish,r,q⟩
theorem PSs.nox {st:List Stmt} {t:TS} (h:PSs X.nox st t):PSs X st t:=fun pins s σ H D I hw =>
 wpAny_mono (h pins s σ H D (I.wish _) hw) (fun _ _ q=>q.unwish) fun _ _ z=>aqM z
end
section
variable {X:Cx} {st:Stmt} {rest:List Stmt} {t u:TS} {e:Expr} {te:TE} {pos:Pos}
noncomputable def abW:TS:=fun D σ H=>D.nx σ H
noncomputable def jL (t u:TS):TS:=fun D σ H=>t { D with nx:=u D } σ H
theorem zK:PSs X [] abW:=fun _ _ σ H _ I h=>wpAny_execs_nil ⟨σ,H,I,h⟩
theorem zc (h1:PS X st t) (h2:PSs X rest u):PSs X (st :: rest) (jL t u):=by
 intro pins s σ H D I h
 refine wpAny_execs_cons (thn (h1 pins s σ H { D with nx:=u D } I h) fun f s1 q=>?_)
 cases f with
 | next =>
  obtain⟨σ',H',I',q⟩:=q
  exact h2 pins s1 σ' H' D I' q
 | ret v=>exact q
 | brk=>exact q
 | cont=>exact q
theorem zg (h1:PS X st t):PSs X [st] t:=by
 intro pins s σ H D I h
 refine wpAny_execs_cons (thn (h1 pins s σ H D I h) fun f s1 q=>?_)
 cases f with
 | next=>exact wpAny_execs_nil q
 | ret v=>exact q
 | brk=>exact q
 | cont=>exact q
theorem Inv.quiet {pins:List (Addr×Obj)} {σ:St} {H:Hp} {s:Shared} (I:Inv X pins σ H s):interactive X.env=false:=by simp [interactive,I.ok.kind]
noncomputable def vw (te:TE):TS:=fun D σ H=>te σ H fun _ H1=>D.nx σ H1
theorem yE (he:PE X e te) (hs:swapsWith e none pos.line X.env=pure false:=by rfl):PS X (.Expr e pos) (vw te):=by
 intro pins s σ H D I h
 exact wpAny_Expr_any (thn (he pins s σ H _ I h) fun v s1 ⟨x,H1,I1,r1,q1⟩=>⟨σ,H1,I1,q1⟩) I.quiet hs
noncomputable def afk (te:TE):TS:=fun D σ H=>te σ H D.rt
theorem zw (he:PE X e te):PS X (.Return (some e) pos) (afk te):=by
 intro pins s σ H D I h
 exact wpAny_Return_some (thn (he pins s σ H _ I h) fun v s1 ⟨x,H1,I1,r1,q1⟩=>⟨x,σ,H1,I1,r1,q1⟩)
noncomputable def acF (c:TT) (t u:TS):TS:=fun D σ H=>c σ H fun b H1=>if b=true then t D σ H1 else u D σ H1
theorem yq {c:Expr} {a b:List Stmt} {tc:TT} (hc:PT X c tc) (ha:PSs X a t) (hb:PSs X b u):PS X (.If c a b pos) (acF tc t u):=by
 intro pins s σ H D I h
 refine wpAny_If (thn (hc pins s σ H _ I h) fun d s1 ⟨H1,I1,q1⟩=>?_)
 cases d with
 | true=>exact ha pins s1 σ H1 D I1 q1
 | false=>exact hb pins s1 σ H1 D I1 q1
noncomputable def afl:TS:=fun _ _ _=>False
theorem aa4:PS X st afl:=fun _ _ _ _ _ _ h=>h.elim
theorem abX {sts:List Stmt}:PSs X sts afl:=fun _ _ _ _ _ _ h=>h.elim
end
noncomputable abbrev TG:=V->St->Hp->(St->Hp->Prop)->Prop
noncomputable abbrev TGs:=List V->St->Hp->(St->Hp->Prop)->Prop
noncomputable def PG (X:Cx) (target:Expr) (t:TG):Prop :=
 ∀ (pins:List (Addr×Obj)) (s:Shared) (σ:St) (H:Hp) (v:V) (u:Value) (Q:St->Hp->Prop),Inv X pins σ H s->RelV v u->t v σ H Q ->
  wpAny (model X.prog X.w) X.A (assign target X.env u) (fun _ s'=>∃ σ' H',Inv X pins σ' H' s'/\Q σ' H') X.xe s
noncomputable def PGs (X:Cx) (ts:List Expr) (t:TGs):Prop :=
 ∀ (pins:List (Addr×Obj)) (s:Shared) (σ:St) (H:Hp) (vs:List V) (us:List Value) (Q:St->Hp->Prop),Inv X pins σ H s->Vals vs us->t vs σ H Q ->
  wpAny (model X.prog X.w) X.A (assignInOrder ((assignEach ts X.env).map (·.2)) us) (fun _ s'=>∃ σ' H',Inv X pins σ' H' s'/\Q σ' H') X.xe s
noncomputable abbrev amV:=V->V->V->Hp->(Hp->Prop)->Prop
noncomputable def ak0 (X:Cx) (t:amV):Prop :=
 ∀ (pins:List (Addr×Obj)) (s:Shared) (σ:St) (H:Hp) (o i v:V) (ov iv u:Value) (Q:Hp->Prop),Inv X pins σ H s->RelV o ov->RelV i iv->RelV v u->t o i v H Q ->
  wpAny (model X.prog X.w) X.A (setItem ov iv u) (fun _ s'=>∃ H',Inv X pins σ H' s'/\Q H') X.xe s
section
variable {X:Cx} {pos:Pos}
noncomputable def yR (i:Nat):TG:=fun v σ H Q=>Q (σ.set i (some v)) H
theorem zk {i:Nat} {x:Str} (hN:X.N.Nodup) (hi:X.N[i]?=some x) (hx:Loc X.env.scope x) (hf:X.fn x=true \/ X.env.scope.names.lookup x=some .local:=by first | exact .inl rfl | exact .inr rfl | assumption):PG X (.Name x pos) (yR i):=by
 intro pins s σ H v u Q I r h
 exact wpAny_assign_Name (vN I hN hi hx r (fun s' I'=>⟨_,H,I',h⟩) hf)
noncomputable def aoH:TGs:=fun vs σ H Q=>vs=[]/\Q σ H
noncomputable def amw (t:TG) (u:TGs):TGs:=fun vs σ H Q=>∃ v r,vs=v :: r/\t v σ H fun σ' H'=>u r σ' H' Q
theorem zZ:PGs X [] aoH:=by
 intro pins s σ H vs us Q I r h
 obtain⟨e,h⟩:=h
 subst e
 cases r
 exact assignInOrder_nil ⟨σ,H,I,h⟩
theorem zt {e:Expr} {es:List Expr} {t:TG} {u:TGs} (h1:PG X e t) (h2:PGs X es u)
  (hs:(assignEach (e :: es) X.env).map (·.2)=assign e X.env :: (assignEach es X.env).map (·.2):=by rfl):PGs X (e :: es) (amw t u):=by
 intro pins s σ H vs us Q I r h
 obtain⟨v,vr,e1,h⟩:=h
 subst e1
 cases r with
 | cons r rr =>
  rw [hs]
  refine assignInOrder_cons (thn (h1 pins s σ H _ _ _ I r h) fun _ s1 ⟨σ1,H1,I1,q1⟩=>?_)
  exact h2 pins s1 σ1 H1 _ _ Q I1 rr q1
noncomputable def amW (K:apD) (n:Nat) (t:TGs):TG:=fun v σ H Q=>∃ a xs,v=.ref a/\SqT K H a xs/\xs.length=n/\t xs σ H Q
theorem amX {es:List Expr} {k:Nat} {t:TGs} {n:Nat} (hc:X.calm=true) (h:PGs X es t)
  (hn:(assignEach es X.env).length=n:=by rfl) (hst:(assignEach es X.env).findIdx? (·.1)=none:=by rfl):PG X (.Tuple es k pos) (amW X.K n t):=by
 intro pins s σ H v u Q I r hw
 obtain⟨a,xs,e1,hq,hl,hw⟩:=hw
 subst e1
 cases r
 obtain⟨its,rv,ht,hz⟩:=I.tuple hq
 refine assign_Tuple_tuple (I.ok.hd hc) ht (by simp [hn,<- hl,rv.length]) hst fun h' hx=>?_
 have I1:Inv X pins σ H { s with heap:=h' }:=I.kept (t':=s.toks) fun b o e=>hx b o (aqb (apU e)) e
 exact h pins _ σ H xs _ Q I1 (by simpa using rv) hw
noncomputable def acG (to ti:TE) (t:amV):TG:=fun v σ H Q=>to σ H fun o H1=>ti σ H1 fun i H2=>t o i v H2 fun H3=>Q σ H3
theorem aa5 {o i:Expr} {to ti:TE} {t:amV} (ho:PE X o to) (hi:PE X i ti) (hs:ak0 X t)
  (ha:∀ v,assign (.Subscript o i pos) X.env v=(do
   let ov <- holding [v] (eval o X.env)
   let iv <- holding [v,ov] (eval i X.env)
   standAt pos
   holding [v,ov,iv] (setItem ov iv v)
   release [v,ov,iv] []):=by intro _;rfl):PG X (.Subscript o i pos) (acG to ti t):=by
 intro pins s σ H v u Q I r h
 rw [ha]
 refine wpAny_bind (wpAny_holding (thn (ho pins s σ H _ I h) fun ov s1 ⟨x,H1,I1,r1,q1⟩=>?_))
 refine wpAny_bind (wpAny_holding (thn (hi pins s1 σ H1 _ I1 q1) fun iv s2 ⟨y,H2,I2,r2,q2⟩=>?_))
 refine wpAny_bind (wpAny_standAt (wpAny_bind (wpAny_holding (thn (hs pins s2 σ H2 x y v ov iv u _ I2 r1 r2 r q2) fun _ s3 ⟨H3,I3,q3⟩=>?_))))
 exact wpAny_release ⟨σ,H3,I3,q3⟩
noncomputable def qc (te:TE) (g:TG):TS:=fun D σ H=>te σ H fun x H1=>g x σ H1 D.nx
theorem yB {tg e:Expr} {te:TE} {g:TG} (he:PE X e te) (hg:PG X tg g) (hs:swapsWithSole [tg] e pos.line X.env=pure false:=by rfl) (hw:swappedStores [tg] e X.env=pure none:=by rfl)
  (h1:(assignEach [tg] X.env).map (·.2)=[assign tg X.env]:=by rfl):PS X (.Assign [tg] e pos) (qc te g):=by
 intro pins s σ H D I h
 refine wpAny_Assign_stores (thn (he pins s σ H _ I h) fun v s1 ⟨x,H1,I1,r1,q1⟩=>?_) hs hw
 rw [h1]
 exact thn (hg pins s1 σ H1 x v _ I1 r1 q1) fun _ s2 q=>q
theorem zD {i:Nat} {x:Str} {e:Expr} {te:TE} {pos':Pos} (hN:X.N.Nodup) (hi:X.N[i]?=some x) (hx:Loc X.env.scope x) (he:PE X e te) (hs:swapsWith e (some (.Name x pos')) pos.line X.env=pure false:=by rfl) (hf:X.fn x=true \/ X.env.scope.names.lookup x=some .local:=by first | exact .inl rfl | exact .inr rfl | assumption) :
  PS X (.Assign [.Name x pos'] e pos) (qc te (yR i)):=by
 intro pins s σ H D I h
 refine wpAny_Assign_Name (thn (he pins s σ H _ I h) fun v s1 ⟨y,H1,I1,r1,q1⟩=>?_) hs
 exact vN I1 hN hi hx r1 (fun s2 I2=>⟨_,H1,I2,q1⟩) hf
end
section
variable {X:Cx} {pos:Pos}
noncomputable def aiS (c:TT) (tb:TS):TS:=fun D σ H=>∃ W:Nat->St->Hp->Prop,(∃ m,W m σ H)/\∀ m σ H,W m σ H ->
 c σ H fun b H1=>if b=true then ∃ N:St->Hp->Prop,(∀ σ' H',N σ' H'->∃ m',m'<m/\W m' σ' H')/\tb { D with nx:=N,ct:=N,bk:=D.nx } σ H1 else D.nx σ H1
theorem adU {c:Expr} {body:List Stmt} {tc:TT} {tb:TS} (hp:PassesOwn (model X.prog X.w) X.A X.env X.xe) (hc:PT X c tc) (hb:PSs X body tb):PS X (.While c body [] pos) (aiS tc tb):=by
 intro pins s σ H D I h
 obtain⟨W,⟨m0,w0⟩,turn⟩:=h
 refine wpAny_While (codeAny_whileLoop (fun n s'=>∃ σ' H',Inv X pins σ' H' s'/\W n σ' H') ?_ m0 ⟨σ,H,I,w0⟩)
 rintro n s1 ⟨σ1,H1,I1,w1⟩
 refine wpAny_passesOwn hp (thn (hc pins s1 σ1 H1 _ I1 (turn n σ1 H1 w1)) fun b s2 ⟨H2,I2,q2⟩=>?_)
 cases b with
 | true =>
  obtain⟨N,hN,q2⟩:=q2
  rw [if_pos rfl]
  refine wpAny_passesOwn hp (thn (hb pins s2 σ1 H2 _ I2 q2) fun f s3 q3=>?_)
  cases f with
  | next =>
   obtain⟨σ3,H3,I3,n3⟩:=q3
   obtain⟨m',hm,w3⟩:=hN σ3 H3 n3
   exact⟨m',hm,σ3,H3,I3,w3⟩
  | cont =>
   obtain⟨σ3,H3,I3,n3⟩:=q3
   obtain⟨m',hm,w3⟩:=hN σ3 H3 n3
   exact⟨m',hm,σ3,H3,I3,w3⟩
  | brk=>exact q3
  | ret v=>exact q3
 | false =>
  rw [if_neg apB]
  exact wpAny_execs_nil ⟨σ1,H2,I2,q2⟩
end
structure It where
 go:Nat->Hp->Prop
 yld:Nat->Hp->V->Hp->Prop
 stop:Nat->Hp->Prop
noncomputable def vD (X:Cx) (pins:List (Addr×Obj)) (H:Hp) (b:Addr):Prop :=
 H b=none/\b≠X.env.locals/\b∉X.fs/\(b∈X.ex \/ X.s₀.heap.objs.size<=b)/\(∀ x c,X.env.cells.lookup x=some c->c≠b)/\∀ p∈X.pn++pins,p.1≠b
theorem Inv.fpOk {X:Cx} {pins:List (Addr×Obj)} {σ:St} {H H':Hp} {s:Shared} {b:Addr} (I:Inv X pins σ H s) (hb:s.heap.objs.size<=b) (hn:H' b=none):vD X pins H' b:=by
 refine⟨hn,asF (ap2 I.lt hb),I.nofs hb,.inr (ap1 I.sz hb),fun x c e z=>?_,fun p hp z=>?_⟩
 ·obtain⟨v,q⟩:=I.cell x c e
  exact absurd (ap2 q.lt (by rw [z];exact hb)) (aq3 _)
 ·exact absurd (ap2 (apU (I.pin p hp).1) (by rw [z];exact hb)) (aq3 _)
structure Turn (P:Program) (w:World) (K:apD) (tg:Expr) (J:It) (fp:List Addr) (it:Addr) (tn:Nat->Heap->Prop):Prop where
 mem:it∈fp
 obj:∀ i h,tn i h->∀ b∈fp,∃ o,h.get? b=some o/\∀ v,o.data≠.cell v
 keep:∀ i h h',tn i h->(∀ b∈fp,∀ o,h.get? b=some o->h'.get? b=some o)->tn i h'
 item:∀ (X:Cx),X.prog=P->X.w=w->X.K=K->X.calm=true->∀ (i:Nat) (pins:List (Addr×Obj)) (s:Shared) (σ:St) (H:Hp) (E:Value->Shared->Prop),Inv X pins σ H s->(∀ b∈fp,vD X pins H b)->tn i s.heap->J.go i H ->
  wpAny (model P w) X.A (pyNext (.ref it)) (fun r s1=>∃ u,r=some u /\
   wpAny (model P w) X.A (letOwnedTupleGo tg (.ref it) u) (fun _ s2=>∃ x H',Inv X pins σ H' s2/\RelV x u/\J.yld i H x H'/\tn (i+1) s2.heap/\∀ b∈fp,H' b=none) E s1) E s
 done:∀ (X:Cx),X.prog=P->X.w=w->X.K=K->X.calm=true->∀ (i:Nat) (pins:List (Addr×Obj)) (s:Shared) (σ:St) (H:Hp) (E:Value->Shared->Prop),Inv X pins σ H s->(∀ b∈fp,vD X pins H b)->tn i s.heap->J.stop i H ->
  wpAny (model P w) X.A (pyNext (.ref it)) (fun r s1=>r=none/\Inv X pins σ H s1) E s
 self:∀ (A:Around) (i:Nat) (s:Shared) (Q:Value->Shared->Prop) (E:Value->Shared->Prop),tn i s.heap->Q (.ref it) s->wpAny (model P w) A (pyIter (.ref it)) Q E s
noncomputable abbrev TI:=St->Hp->(It->Hp->Prop)->Prop
noncomputable def PIE (X:Cx) (pins:List (Addr×Obj)) (σ:St) (tg:Expr) (R:It->Hp->Prop) (itv:Value) (s2:Shared):Prop :=
 ∃ (it:Addr) (fp:List Addr) (tn:Nat->Heap->Prop) (J:It) (H':Hp),itv=.ref it/\Inv X pins σ H' s2/\Turn X.prog X.w X.K tg J fp it tn/\tn 0 s2.heap/\(∀ b∈fp,vD X pins H' b)/\R J H'
noncomputable def PI (X:Cx) (tg iter:Expr) (wi:TI):Prop :=
 ∀ (pins:List (Addr×Obj)) (s:Shared) (σ:St) (H:Hp) (R:It->Hp->Prop),Inv X pins σ H s->wi σ H R ->
  wpAny (model X.prog X.w) X.A (eval iter X.env) (fun v s1=>wpAny (model X.prog X.w) X.A (pyIter v) (PIE X pins σ tg R) X.xe s1) X.xe s
theorem adV {M:Model} {A:Around} {E:Value->Shared->Prop} {s:Shared} {tg:Expr} {it:Addr} {u:Value} {o:Obj} {n:String} {vs:Array Value} {Q:Unit->Shared->Prop} (ho:s.heap.get? it=some o) (hc:o.cls=.type n) (hd:o.data=.fields vs)
  (hn:["enumerate","zip","dict_itemiterator","dict_reverseitemiterator","odict_iterator","itertools.zip_longest","itertools.pairwise"].contains n=false) (hQ:Q () s):wpAny M A (letOwnedTupleGo tg (.ref it) u) Q E s:=by
 unfold letOwnedTupleGo
 cases tg <;> first
  | exact wpAny_pure hQ
  | (cases u <;> first
    | exact wpAny_pure hQ
    | (refine wpAny_bind (wpAny_load ho ?_)
       rw [hc,hd]
       show wpAny M A (if (["enumerate","zip","dict_itemiterator","dict_reverseitemiterator","odict_iterator","itertools.zip_longest","itertools.pairwise"].contains n && vs[0]? == some (rawInt _))=true then _ else _) Q E s
       rw [if_neg (by intro h;rw [hn,arj] at h;cases h)]
       exact wpAny_pure hQ))
noncomputable def Itl (K:apD) (a:Addr):It :=
 ⟨fun i H=>∃ xs x,SqL K H a xs/\xs[i]?=some x,fun i H x H'=>H'=H/\∀ xs,SqL K H a xs->xs[i]?=some x,fun i H=>∃ xs,SqL K H a xs/\xs.length<=i⟩
noncomputable def Itt (K:apD) (a:Addr):It :=
 ⟨fun i H=>∃ xs x,SqT K H a xs/\xs[i]?=some x,fun i H x H'=>H'=H/\∀ xs,SqT K H a xs->xs[i]?=some x,fun i H=>∃ xs,SqT K H a xs/\xs.length<=i⟩
noncomputable def Itr (lo:Int) (n:Nat):It:=⟨fun i _=>i<n,fun i H x H'=>H'=H/\x=.int (lo+i),fun i _=>n<=i⟩
theorem ahF {P:Program} {w:World} {K:apD} {tg:Expr} (a it:Addr):Turn P w K tg (Itl K a) [it] it (fun i h=>h.IsListIter it a i) where
 mem:=by simp
 obj:=fun i h st b hb=>by
  have e:b=it:=by simpa using hb
  subst e
  obtain⟨o,e,c,d⟩:=st
  exact⟨o,e,fun v z=>by rw [d] at z;cases z⟩
 keep:=fun i h h' st k=>st.at fun o e=>k it (by simp) o e
 item:=by
  intro X hP hw hK hc i pins s σ H E I hf st hg
  subst hP hw hK
  obtain⟨xs,x,hq,hx⟩:=hg
  obtain⟨its,rv,p,hz⟩:=I.list hq
  obtain⟨u,hu,ru⟩:=rv.get hx
  obtain⟨f0,f1,f2,f3,f4,f5⟩:=hf it (by simp)
  refine wpAny_pyNext_list_item st p.isList (x:=u) (by simpa using hu) fun h' st' sb=>?_
  have I1:Inv X pins σ H { s with heap:=h' }:=I.turned (t':=s.toks) (fun b o hb e=>(sb.2 b hb).trans e) f0 f1 f3 f4 f5
  obtain⟨o,e,c,d⟩:=id st'
  exact⟨u,rfl,adV (s:={ s with heap:=h' }) e c d (by decide) ⟨x,H,I1,ru,⟨rfl,fun ys hy=>by rw [I.list_inj hy hq];exact hx⟩,st',fun b hb=>(hf b hb).1⟩⟩
 done:=by
  intro X hP hw hK hc i pins s σ H E I hf st hg
  subst hP hw hK
  obtain⟨xs,hq,hx⟩:=hg
  obtain⟨its,rv,p,hz⟩:=I.list hq
  obtain⟨f0,f1,f2,f3,f4,f5⟩:=hf it (by simp)
  have hl:=rv.length
  exact wpAny_pyNext_list_end (I.ok.hd hc) st p.isList (by simp;omega) fun h' eb=>⟨rfl,I.turned (t':=s.toks) (fun b o hb e=>eb b o hb e) f0 f1 f3 f4 f5⟩
 self:=fun _ _ _ _ _ st h=>wpAny_pyIter_listiter st h
theorem afm {P:Program} {w:World} {K:apD} {tg:Expr} (a it:Addr):Turn P w K tg (Itt K a) [it] it (fun i h=>h.IsTupleIter it a i) where
 mem:=by simp
 obj:=fun i h st b hb=>by
  have e:b=it:=by simpa using hb
  subst e
  obtain⟨o,e,c,d⟩:=st
  exact⟨o,e,fun v z=>by rw [d] at z;cases z⟩
 keep:=fun i h h' st k=>st.at fun o e=>k it (by simp) o e
 item:=by
  intro X hP hw hK hc i pins s σ H E I hf st hg
  subst hP hw hK
  obtain⟨xs,x,hq,hx⟩:=hg
  obtain⟨its,rv,p,hz⟩:=I.tuple hq
  obtain⟨u,hu,ru⟩:=rv.get hx
  obtain⟨f0,f1,f2,f3,f4,f5⟩:=hf it (by simp)
  refine wpAny_pyNext_tuple_item st (show s.heap.IsTuple a its.toArray from p) (x:=u) (by simpa using hu) fun h' st' sb=>?_
  have I1:Inv X pins σ H { s with heap:=h' }:=I.turned (t':=s.toks) (fun b o hb e=>(sb.2 b hb).trans e) f0 f1 f3 f4 f5
  obtain⟨o,e,c,d⟩:=id st'
  exact⟨u,rfl,adV (s:={ s with heap:=h' }) e c d (by decide) ⟨x,H,I1,ru,⟨rfl,fun ys hy=>by rw [I.tuple_inj hy hq];exact hx⟩,st',fun b hb=>(hf b hb).1⟩⟩
 done:=by
  intro X hP hw hK hc i pins s σ H E I hf st hg
  subst hP hw hK
  obtain⟨xs,hq,hx⟩:=hg
  obtain⟨its,rv,p,hz⟩:=I.tuple hq
  obtain⟨f0,f1,f2,f3,f4,f5⟩:=hf it (by simp)
  have hl:=rv.length
  exact wpAny_pyNext_tuple_end (I.ok.hd hc) st (show s.heap.IsTuple a its.toArray from p) (by simp;omega) fun h' eb=>⟨rfl,I.turned (t':=s.toks) (fun b o hb e=>eb b o hb e) f0 f1 f3 f4 f5⟩
 self:=fun _ _ _ _ _ st h=>wpAny_pyIter_tupleiter st h
theorem afn {P:Program} {w:World} {K:apD} {tg:Expr} (it:Addr) (lo:Int) (n:Nat):Turn P w K tg (Itr lo n) [it] it (fun i h=>IsRangeIter h it (lo+(i:Nat) * 1) ((n:Int) - (i:Nat)) 1) where
 mem:=by simp
 obj:=fun i h st b hb=>by
  have e:b=it:=by simpa using hb
  subst e
  exact⟨_,st,fun v z=>by
   have z':Data.fields _=Data.cell v:=z
   cases z'⟩
 keep:=fun i h h' st k=>k it (by simp) _ st
 item:=by
  intro X hP hw hK hc i pins s σ H E I hf st hg
  subst hP hw hK
  obtain⟨f0,f1,f2,f3,f4,f5⟩:=hf it (by simp)
  have W:=Walks.range (prog:=X.prog) (w:=X.w) (I.ok.hd hc) it lo 1 n
  refine W.item i s _ _ hg st fun v h' tk hv st' kk=>?_
  obtain⟨t,rfl⟩:=hv
  have I1:Inv X pins σ H { s with heap:=h',toks:=tk }:=I.turned (fun b o hb e=>kk b o (by simpa using hb) e) f0 f1 f3 f4 f5
  refine⟨_,rfl,adV (s:={ s with heap:=h',toks:=tk }) (n:="range_iterator") st' rfl rfl (by decide) ⟨.int (lo+i),H,I1,⟨t,?_⟩,⟨rfl,rfl⟩,st',fun b hb=>(hf b hb).1⟩⟩
  rw [Int.mul_one]
 done:=by
  intro X hP hw hK hc i pins s σ H E I hf st hg
  subst hP hw hK
  obtain⟨f0,f1,f2,f3,f4,f5⟩:=hf it (by simp)
  exact wpAny_pyNext_range_end (I.ok.hd hc) st (by have:n<=i:=hg;omega) fun h' eb=>⟨rfl,I.turned (t':=s.toks) (fun b o hb e=>eb b o hb e) f0 f1 f3 f4 f5⟩
 self:=fun _ _ _ _ _ st h=>wpAny_pyIter_rangeiter st h
section
variable {X:Cx} {tg:Expr}
noncomputable def abY (K:apD) (tl:TE):TI:=fun σ H R=>tl σ H fun x H1=>∃ a,x=.ref a/\(∃ xs,SqL K H1 a xs)/\R (Itl K a) H1
noncomputable def amY (K:apD) (tl:TE):TI:=fun σ H R=>tl σ H fun x H1=>∃ a,x=.ref a/\(∃ xs,SqT K H1 a xs)/\R (Itt K a) H1
theorem ak1 {l:Expr} {tl:TE} (hl:PE X l tl):PI X tg l (abY X.K tl):=by
 intro pins s σ H R I h
 refine thn (hl pins s σ H _ I h) fun v s1 ⟨x,H1,I1,r1,q1⟩=>?_
 obtain⟨a,e,⟨xs,hq⟩,q⟩:=q1
 subst e
 cases r1
 obtain⟨its,rv,p,hz⟩:=I1.list hq
 refine wpAny_pyIter_list p.isList ?_
 refine⟨s1.heap.objs.size,[s1.heap.objs.size],_,_,H1,rfl,I1.kept (t':=s1.toks) fun b o e=>apH _ e,ahF a _,⟨_,ap5 _ rfl,rfl,rfl⟩,fun b hb=>?_,q⟩
 have e:b=s1.heap.objs.size:=by simpa using hb
 subst e
 exact I1.fpOk (apI _) (I1.hok.fresh (apI _))
theorem amZ {l:Expr} {tl:TE} (hl:PE X l tl):PI X tg l (amY X.K tl):=by
 intro pins s σ H R I h
 refine thn (hl pins s σ H _ I h) fun v s1 ⟨x,H1,I1,r1,q1⟩=>?_
 obtain⟨a,e,⟨xs,hq⟩,q⟩:=q1
 subst e
 cases r1
 obtain⟨its,rv,p,hz⟩:=I1.tuple hq
 refine wpAny_pyIter_tuple (show s1.heap.IsTuple a its.toArray from p) ?_
 refine⟨s1.heap.objs.size,[s1.heap.objs.size],_,_,H1,rfl,I1.kept (t':=s1.toks) fun b o e=>apH _ e,afm a _,⟨_,ap5 _ rfl,rfl,rfl⟩,fun b hb=>?_,q⟩
 have e:b=s1.heap.objs.size:=by simpa using hb
 subst e
 exact I1.fpOk (apI _) (I1.hok.fresh (apI _))
theorem aiT {pins:List (Addr×Obj)} {σ:St} {H:Hp} {s:Shared} {R:It->Hp->Prop} {E:Value->Shared->Prop} {lo hi:Int} {t u v:Tok} {tk:Nat} (I:Inv X pins σ H s) (h1:-(2 ^ 62)<=lo) (h2:lo<2 ^ 62) (h3:-(2 ^ 62)<=hi) (h4:hi<2 ^ 62)
  (q:R (Itr lo (hi - lo).toNat) H):wpAny (model X.prog X.w) X.A (pyIter (.ref s.heap.objs.size)) (PIE X pins σ tg R) E { s with heap:=s.heap.push { cls:=.type "range",data:=.fields #[.int lo t,.int hi u,.int 1 v] },toks:=tk }:=by
 refine wpAny_pyIter_range (IsRange.new ..) (small_one h1 h2 h3 h4) ?_
 have I1:Inv X pins σ H { s with heap:=s.heap.push { cls:=.type "range",data:=.fields #[.int lo t,.int hi u,.int 1 v] },toks:=tk }:=I.kept fun b o e=>apH _ e
 refine⟨(s.heap.push { cls:=.type "range",data:=.fields #[.int lo t,.int hi u,.int 1 v] }).objs.size,[(s.heap.push { cls:=.type "range",data:=.fields #[.int lo t,.int hi u,.int 1 v] }).objs.size],_,_,H,rfl,
  I1.kept (t':=tk) fun b o e=>apH _ e,afn _ lo (hi - lo).toNat,?_,fun b hb=>?_,q⟩
 ·have e1:lo+((0:Nat):Int) * 1=lo:=by simp
  have e2:(((hi - lo).toNat:Nat):Int) - ((0:Nat):Int)=Builtin.Range.rangeSize lo hi 1:=by rw [rangeSize_one];split <;> omega
  show IsRangeIter _ _ (lo+((0:Nat):Int) * 1) ((((hi - lo).toNat:Nat):Int) - ((0:Nat):Int)) 1
  rw [e1,e2]
  exact ap5 _ rfl
 ·have e:b=(s.heap.push { cls:=.type "range",data:=.fields #[.int lo t,.int hi u,.int 1 v] }).objs.size:=by simpa using hb
  subst e
  exact I1.fpOk (apI _) (I1.hok.fresh (apI _))
noncomputable def agn (ta:TA):TI:=fun σ H R=>ta σ H fun vs H1=>∃ j:Int,vs=[.int j]/\-(2 ^ 62)<=j/\j<2 ^ 62/\R (Itr 0 j.toNat) H1
theorem yS {a:Expr} {ta:TA} {p pos:Pos} (hg:Gl X "range") (hm:X.mg "range"=none) (ha:PA X [a] ta) (hs:starEach [a] X.env=[(false,eval a X.env)]:=by rfl):PI X tg (.Call (.Name "range" p) [a] [] pos) (agn ta):=by
 intro pins s σ H R I h
 refine Call_ (aae I hg hm boot_range (arN (thn (ha pos pins s σ H _ I h) fun us s1 ⟨vs,H1,I1,r1,q1⟩=>?_) hs rfl))
 obtain⟨j,e,q1,q2,q⟩:=q1
 subst e
 cases r1 with
 | cons r rr =>
  cases rr
  obtain⟨t,rfl⟩:=r
  exact call_range_1 (aiT I1 (by omega) (by omega) q1 q2 (by simpa using q))
noncomputable def ahG (wi:TI) (g:TG) (tb:TS):TS:=fun D σ H=>wi σ H fun J H1=>∃ W:Nat->Nat->St->Hp->Prop,(∃ m,W 0 m σ H1)/\∀ i m σ H,W i m σ H ->
 (J.stop i H/\D.nx σ H) \/ (J.go i H/\∃ N:St->Hp->Prop,(∀ σ' H',N σ' H'->∃ m',m'<m/\W (i+1) m' σ' H')/\∀ x H',J.yld i H x H'->g x σ H' fun σ2 H2=>tb { D with nx:=N,ct:=N,bk:=D.nx } σ2 H2)
noncomputable def aa6 (fp:List Addr) (h:Heap):List (Addr×Obj):=fp.filterMap fun b=>(h.get? b).map fun o=>(b,o)
theorem qw {fp:List Addr} {h:Heap} {b:Addr} {o:Obj} (hb:b∈fp) (e:h.get? b=some o):(b,o)∈aa6 fp h:=arF.mpr ⟨b,hb,by rw [e];rfl⟩
theorem ahH {fp:List Addr} {h:Heap} {p:Addr×Obj} (hp:p∈aa6 fp h):p.1∈fp/\h.get? p.1=some p.2:=by
 obtain⟨b,hb,e⟩:=arF.mp hp
 cases q:h.get? b with
 | none=>rw [q] at e;cases e
 | some o =>
  rw [q] at e
  have e':(b,o)=p:=Option.some.inj e
  subst e'
  exact⟨hb,q⟩
theorem Inv.pinned {pins:List (Addr×Obj)} {σ:St} {H:Hp} {s:Shared} {fp:List Addr} (I:Inv X pins σ H s) (hf:∀ b∈fp,vD X pins H b) (ho:∀ b∈fp,∃ o,s.heap.get? b=some o/\∀ v,o.data≠.cell v):Inv X (pins++aa6 fp s.heap) σ H s :=
 I.pins_of fun p hp=>(apW.mp hp).elim (fun z=>I.pin p (apR _ z)) fun z=>by
  obtain⟨hb,e⟩:=ahH z
  obtain⟨f0,f1,f2,_⟩:=hf p.1 hb
  obtain⟨o,e',d⟩:=ho p.1 hb
  rw [e] at e';cases e'
  exact⟨e,f0,f1,f2,d⟩
theorem Inv.unpinned {pins pl:List (Addr×Obj)} {σ:St} {H:Hp} {s:Shared} (I:Inv X (pins++pl) σ H s):Inv X pins σ H s:=I.pins_of fun p hp=>I.pin p (apR _ (aqT _ hp))
theorem jq {iter:Expr} {body:List Stmt} {wi:TI} {g:TG} {tb:TS} {pos:Pos} (hp:PassesOwn (model X.prog X.w) X.A X.env X.xe) (hc:X.calm=true) (hi:PI X tg iter wi) (hg:PG X tg g) (hb:PSs X body tb)
  (hs:∀ x,foldedSetIterable iter X.env x=pure x:=by intro _;rfl):PS X (.For tg iter body [] pos) (ahG wi g tb):=by
 intro pins s σ H D I h
 refine wpAny_For (thn (hi pins s σ H _ I h) fun v s1 h1=>thn h1 fun itv s2 h2=>?_) hs
 obtain⟨it,fp,tn,J,H2,e,I2,T,st2,f2,W,⟨m0,w0⟩,turn⟩:=h2
 subst e
 -- what stays true of the iterator's objects through the loop
 have stat:∀ {H':Hp},(∀ b∈fp,H' b=none)->∀ b∈fp,vD X pins H' b:=fun hn b hb=>⟨hn b hb,(f2 b hb).2⟩
 refine codeAny_forLoop_any (fun n s'=>∃ i σ' H',Inv X pins σ' H' s'/\tn i s'.heap/\(∀ b∈fp,H' b=none)/\W i n σ' H') ?_ m0 ⟨0,σ,H2,I2,st2,fun b hb=>(f2 b hb).1,w0⟩
 rintro n s3 ⟨i,σ3,H3,I3,st3,fr3,w3⟩
 rcases turn i n σ3 H3 w3 with⟨stop,qn⟩ | ⟨go,N,hN,step⟩
 ·refine wpAny_passesOwn hp (thn (T.done X rfl rfl rfl hc i pins s3 σ3 H3 X.xe I3 (stat fr3) st3 stop) fun r s4 ⟨hr,I4⟩=>?_)
  subst hr
  exact wpAny_execs_nil ⟨σ3,H3,I4,qn⟩
 ·refine wpAny_passesOwn hp (thn (T.item X rfl rfl rfl hc i pins s3 σ3 H3 X.xe I3 (stat fr3) st3 go) fun r s4 ⟨u,hr,h4⟩=>?_)
  subst hr
  refine wpAny_passesOwn hp (thn h4 fun _ s5 ⟨x,H5,I5,r5,y5,st5,fr5⟩=>?_)
  have I5':=I5.pinned (stat fr5) (T.obj _ _ st5)
  refine wpAny_passesOwn hp (thn (hg _ s5 σ3 H5 x u _ I5' r5 (step x H5 y5)) fun _ s6 ⟨σ6,H6,I6,q6⟩=>?_)
  refine wpAny_passesOwn hp (thn (hb _ s6 σ6 H6 _ I6 q6) fun f s7 q7=>?_)
  have again:∀ {σ7:St} {H7:Hp},Inv X (pins++aa6 fp s5.heap) σ7 H7 s7->N σ7 H7->∃ m,m<n/\∃ i σ' H',Inv X pins σ' H' s7/\tn i s7.heap/\(∀ b∈fp,H' b=none)/\W i m σ' H':=fun {σ7 H7} I7 n7=>by
   obtain⟨m',hm,w7⟩:=hN σ7 H7 n7
   refine⟨m',hm,i+1,σ7,H7,I7.unpinned,T.keep _ _ _ st5 fun b hb o e=>(I7.pin (b,o) (apR _ (apR _ (qw hb e)))).1,fun b hb=>?_,w7⟩
   obtain⟨o,e,d⟩:=T.obj _ _ st5 b hb
   exact (I7.pin (b,o) (apR _ (apR _ (qw hb e)))).2.1
  cases f with
  | next=>obtain⟨σ7,H7,I7,n7⟩:=q7;exact again I7 n7
  | cont=>obtain⟨σ7,H7,I7,n7⟩:=q7;exact again I7 n7
  | brk=>obtain⟨σ7,H7,I7,q7⟩:=q7;exact⟨σ7,H7,I7.unpinned,q7⟩
  | ret v=>obtain⟨x7,σ7,H7,I7,r7,q7⟩:=q7;exact⟨x7,σ7,H7,I7.unpinned,r7,q7⟩
end
noncomputable abbrev R2:=V->V->Hp->VK->Prop
noncomputable def OpR (X:Cx) (f:Value->Value->Sem Value) (r:R2):Prop :=
 ∀ (pins:List (Addr×Obj)) (s:Shared) (σ:St) (H:Hp) (x y:V) (v u:Value) (Q:VK),Inv X pins σ H s->RelV x v->RelV y u->r x y H Q ->
  wpAny (model X.prog X.w) X.A (f v u) (EP X pins σ Q) X.xe s
noncomputable def UnR (X:Cx) (f:Value->Sem Value) (r:V->Hp->VK->Prop):Prop :=
 ∀ (pins:List (Addr×Obj)) (s:Shared) (σ:St) (H:Hp) (x:V) (v:Value) (Q:VK),Inv X pins σ H s->RelV x v->r x H Q ->
  wpAny (model X.prog X.w) X.A (f v) (EP X pins σ Q) X.xe s
noncomputable def z9 (X:Cx) (f:Value) (r:List V->Hp->VK->Prop):Prop :=
 ∀ (pins:List (Addr×Obj)) (s:Shared) (σ:St) (H:Hp) (xs:List V) (us:List Value) (Q:VK),Inv X pins σ H s->Vals xs us->r xs H Q ->
  wpAny (model X.prog X.w) X.A (call f us) (EP X pins σ Q) X.xe s
noncomputable def aps (X:Cx) (r:V->Hp->(Bool->Hp->Prop)->Prop):Prop :=
 ∀ (pins:List (Addr×Obj)) (s:Shared) (σ:St) (H:Hp) (x:V) (v:Value) (Q:Bool->Hp->Prop),Inv X pins σ H s->RelV x v->r x H Q ->
  wpAny (model X.prog X.w) X.A (truthy v) (TP X pins σ Q) X.xe s
noncomputable def tOp (r:R2) (ta tb:TE):TE:=fun σ H Q=>ta σ H fun x H1=>tb σ H1 fun y H2=>r x y H2 Q
noncomputable def tUn (r:V->Hp->VK->Prop) (ta:TE):TE:=fun σ H Q=>ta σ H fun x H1=>r x H1 Q
noncomputable def rI (C:Int->Int->Prop) (g:Int->Int->V):R2:=fun x y H Q=>∃ i j,x=.int i/\y=.int j/\C i j/\Q (g i j) H
noncomputable def rI0 (g:Int->Int->V):R2:=fun x y H Q=>∃ i j,x=.int i/\y=.int j/\Q (g i j) H
noncomputable def rU (g:Int->V):V->Hp->VK->Prop:=fun x H Q=>∃ i,x=.int i/\Q (g i) H
section
variable {X:Cx} {a b c:Expr} {ta tb tc:TE} {pos:Pos}
theorem am0 (ha:PE X a ta) (hb:PE X b tb) {pins:List (Addr×Obj)} {s:Shared} {σ:St} {H:Hp} {R:V->V->Hp->Prop} (I:Inv X pins σ H s)
  (h:ta σ H fun x H1=>tb σ H1 fun y H2=>R x y H2) {Q:Value->Shared->Prop} {f:Value->Value->Sem Value}
  (hf:∀ v u s2 x y H2,Inv X pins σ H2 s2->RelV x v->RelV y u->R x y H2->wpAny (model X.prog X.w) X.A (f v u) Q X.xe s2) :
  wpAny (model X.prog X.w) X.A (eval a X.env) (fun v s₁=>wpAny (model X.prog X.w) X.A (eval b X.env) (fun u s₂=>wpAny (model X.prog X.w) X.A (f v u) Q X.xe s₂) X.xe s₁) X.xe s:=by
 refine thn (ha pins s σ H _ I h) fun v s1 ⟨x,H1,I1,r1,q1⟩=>?_
 refine thn (hb pins s1 σ H1 _ I1 q1) fun u s2 ⟨y,H2,I2,r2,q2⟩=>?_
 exact hf v u s2 x y H2 I2 r1 r2 q2
theorem zx {op:Operator} {r:R2} (ho:OpR X (binaryOp op) r) (ha:PE X a ta) (hb:PE X b tb):PE X (.BinOp a op b pos) (tOp r ta tb):=by
 intro pins s σ H Q I h
 exact wpAny_BinOp (am0 ha hb I h fun v u s2 x y H2 I2 rx ry q=>ho pins s2 σ H2 x y v u Q I2 rx ry q)
theorem aiU {op:UnaryOp} {r:V->Hp->VK->Prop} (ho:UnR X (unaryOp op) r) (ha:PE X a ta):PE X (.UnaryOp op a pos) (tUn r ta):=by
 intro pins s σ H Q I h
 exact UnaryOp_ (thn (ha pins s σ H _ I h) fun v s1 ⟨x,H1,I1,r1,q1⟩=>ho pins s1 σ H1 x v Q I1 r1 q1)
theorem opI {f:Value->Value->Sem Value} {C:Int->Int->Prop} {g:Int->Int->Int}
  (rule:∀ (i j:Int) (t u:Tok) (s:Shared) (Q:Value->Shared->Prop) (E:Value->Shared->Prop),C i j->Q (.int (g i j) s.toks) { s with toks:=s.toks+1 }->wpAny (model X.prog X.w) X.A (f (.int i t) (.int j u)) Q E s) :
  OpR X f (rI C fun i j=>.int (g i j)):=by
 intro pins s σ H x y v u Q I rx ry h
 obtain⟨i,j,rfl,rfl,hc,q⟩:=h
 obtain⟨t,rfl⟩:=rx
 obtain⟨t',rfl⟩:=ry
 exact rule i j t t' s _ _ hc ⟨.int (g i j),H,I.tok _,⟨_,rfl⟩,q⟩
theorem aoI {f:Value->Value->Sem Value} {g:Int->Int->Int}
  (rule:∀ (i j:Int) (t u:Tok) (s:Shared) (Q:Value->Shared->Prop) (E:Value->Shared->Prop),Q (.int (g i j) s.toks) { s with toks:=s.toks+1 }->wpAny (model X.prog X.w) X.A (f (.int i t) (.int j u)) Q E s) :
  OpR X f (rI0 fun i j=>.int (g i j)):=by
 intro pins s σ H x y v u Q I rx ry h
 obtain⟨i,j,rfl,rfl,q⟩:=h
 obtain⟨t,rfl⟩:=rx
 obtain⟨t',rfl⟩:=ry
 exact rule i j t t' s _ _ ⟨.int (g i j),H,I.tok _,⟨_,rfl⟩,q⟩
theorem ak2 {f:Value->Value->Sem Value} {g:Int->Int->Bool}
  (rule:∀ (i j:Int) (t u:Tok) (s:Shared) (Q:Value->Shared->Prop) (E:Value->Shared->Prop),Q (.bool (g i j)) s->wpAny (model X.prog X.w) X.A (f (.int i t) (.int j u)) Q E s) :
  OpR X f (rI0 fun i j=>.bl (g i j)):=by
 intro pins s σ H x y v u Q I rx ry h
 obtain⟨i,j,rfl,rfl,q⟩:=h
 obtain⟨t,rfl⟩:=rx
 obtain⟨t',rfl⟩:=ry
 exact rule i j t t' s _ _ ⟨.bl (g i j),H,I,rfl,q⟩
noncomputable def apt (i j:Int):Prop:=0<=j/\j<=1000000/\i.natAbs<2 ^ 64
noncomputable def CMul (i j:Int):Prop:=(-(2 ^ 64)<i/\i<2 ^ 64) \/ (-(2 ^ 64)<j/\j<2 ^ 64)
theorem CMul.ok {i j:Int} (h:CMul i j):IntMulOk i j:=by
 rcases h with⟨h1,h2⟩ | ⟨h1,h2⟩
 ·exact .of_left (intBits_le_64 h1 h2)
 ·exact .of_right (intBits_le_64 h1 h2)
theorem z7:OpR X (binaryOp .Add) (rI0 fun i j=>.int (i+j)):=aoI fun _ _ _ _ _ _ _ q=>add_int q
theorem jD:OpR X (binaryOp .Sub) (rI0 fun i j=>.int (i - j)):=aoI fun _ _ _ _ _ _ _ q=>sub_int q
theorem aa7:OpR X (binaryOp .Mult) (rI CMul fun i j=>.int (i * j)):=opI fun _ _ _ _ _ _ _ hc q=>mul_int q hc.ok
theorem aaf:OpR X (binaryOp .Mod) (rI (fun _ j=>0<j) fun i j=>.int (i % j)):=opI fun i j _ _ _ _ _ hc q=>by
 have h1:(0:Int)<j:=hc
 exact mod_int' (by omega) (by rw [Int.fmod_eq_emod_of_nonneg i (by omega)];exact q)
theorem qx:OpR X (binaryOp .Pow) (rI apt fun i j=>.int (i ^ j.toNat)):=opI fun _ _ _ _ _ _ _ hc q=>pow_int_small hc.1 hc.2.1 hc.2.2 q
theorem unI {f:Value->Sem Value} {g:Int->Int}
  (rule:∀ (i:Int) (t:Tok) (s:Shared) (Q:Value->Shared->Prop) (E:Value->Shared->Prop),Q (.int (g i) s.toks) { s with toks:=s.toks+1 }->wpAny (model X.prog X.w) X.A (f (.int i t)) Q E s) :
  UnR X f (rU fun i=>.int (g i)):=by
 intro pins s σ H x v Q I rx h
 obtain⟨i,rfl,q⟩:=h
 obtain⟨t,rfl⟩:=rx
 exact rule i t s _ _ ⟨.int (g i),H,I.tok _,⟨_,rfl⟩,q⟩
theorem afo:UnR X (unaryOp .USub) (rU fun i=>.int (-i)):=unI fun _ _ _ _ _ q=>neg_int q
end
section
variable {X:Cx} {a b c:Expr} {ta tb tc:TE} {pos:Pos}
theorem afp {pins:List (Addr×Obj)} {σ:St} {H:Hp} {s:Shared} {Q:VK} {k k':Bool} (I:Inv X pins σ H s) (q:Q (.bl k) H) (e:k=k'):EP X pins σ Q (.bool k') s:=by
 subst e
 exact⟨.bl k,H,I,rfl,q⟩
theorem aiV:OpR X (compareOp .Lt) (rI0 fun i j=>.bl (decide (i<j))):=ak2 fun _ _ _ _ _ _ _ q=>lt_int q
theorem aaw:OpR X (compareOp .LtE) (rI0 fun i j=>.bl (decide (i<=j))):=ak2 fun _ _ _ _ _ _ _ q=>le_int q
theorem adW:OpR X (compareOp .Gt) (rI0 fun i j=>.bl (decide (j<i))):=ak2 fun _ _ _ _ _ _ _ q=>gt_int q
theorem aiW:OpR X (compareOp .GtE) (rI0 fun i j=>.bl (decide (j<=i))):=ak2 fun _ _ _ _ _ _ _ q=>ge_int q
theorem ahI:OpR X (compareOp .In) (fun x y H Q=>∃ i j,x=.str i/\y=.str j/\Q (.bl (!(aq7 j i 0 j.length 1).isEmpty)) H):=by
 intro pins s σ H x y v u Q I rx ry h
 obtain⟨i,j,rfl,rfl,q⟩:=h
 obtain⟨t,rfl⟩:=rx
 obtain⟨t',rfl⟩:=ry
 exact in_str (afp I q rfl)
theorem am1:OpR X (compareOp .Is) (fun x y H Q=>y=.non/\Q (.bl (decide (x=.non))) H):=by
 intro pins s σ H x y v u Q I rx ry h
 obtain⟨rfl,q⟩:=h
 cases ry
 refine is_none_gen (afp I q ?_)
 cases x <;> first
  | (cases rx;rfl)
  | (obtain⟨t,rfl⟩:=rx;rfl)
theorem ak3:OpR X (compareOp .IsNot) (fun x y H Q=>y=.non/\Q (.bl (!decide (x=.non))) H):=by
 intro pins s σ H x y v u Q I rx ry h
 obtain⟨rfl,q⟩:=h
 cases ry
 refine isnot_none_gen (afp I q ?_)
 cases x <;> first
  | (cases rx;rfl)
  | (obtain⟨t,rfl⟩:=rx;rfl)
theorem zP (b:Expr) {op:CmpOp} (h:op≠.In:=by decide) (h2:op≠.NotIn:=by decide):behindInMarks op b=false:=by
 have e1:(op == CmpOp.In)=false:=by cases op <;> first | rfl | exact absurd rfl h
 have e2:(op == CmpOp.NotIn)=false:=by cases op <;> first | rfl | exact absurd rfl h2
 cases b <;> simp [behindInMarks,e1,e2]
theorem ju {op:CmpOp} {r:R2} (ho:OpR X (compareOp op) r) (ha:PE X a ta) (hb:PE X b tb) (hm:behindInMarks op b=false):PE X (.Compare a [op] [b] pos) (tOp r ta tb):=by
 intro pins s σ H Q I h
 exact wpAny_Compare1 (am0 ha hb I h fun v u s2 x y H2 I2 rx ry q=>ho pins s2 σ H2 x y v u Q I2 rx ry q) hm
noncomputable def ago (t:TE):TT:=fun σ H Q=>t σ H fun x H'=>∃ k,x=.bl k/\Q k H'
theorem zN {op:CmpOp} {r:R2} (ho:OpR X (compareOp op) r) (ha:PE X a ta) (hb:PE X b tb) (hm:behindInMarks op b=false):PT X (.Compare a [op] [b] pos) (ago (tOp r ta tb)):=by
 intro pins s σ H Q I h
 refine wpAny_isTrue_Compare1 (thn (ha pins s σ H _ I h) fun v s1 ⟨x,H1,I1,r1,q1⟩=>thn (hb pins s1 σ H1 _ I1 q1) fun u s2 ⟨y,H2,I2,r2,q2⟩ =>
  thn (ho pins s2 σ H2 x y v u _ I2 r1 r2 q2) fun c s3 ⟨z,H3,I3,r3,k,e,q3⟩=>?_) hm
 subst e
 cases r3
 exact wpAny_truthy_bool ⟨H3,I3,q3⟩
noncomputable def afq (r r':R2) (ta tb tc:TE):TE:=fun σ H Q=>ta σ H fun x H1=>tb σ H1 fun y H2=>r x y H2 fun z H3=>∃ k,z=.bl k /\
 (if k=true then tc σ H3 fun w' H4=>r' y w' H4 Q else Q (.bl false) H3)
theorem aa8 {op op':CmpOp} {r r':R2} (ho:OpR X (compareOp op) r) (ho':OpR X (compareOp op') r') (ha:PE X a ta) (hb:PE X b tb) (hc:PE X c tc)
  (hm:lastMarks [op,op'] [b,c]=false:=by with_unfolding_all rfl):PE X (.Compare a [op,op'] [b,c] pos) (afq r r' ta tb tc):=by
 intro pins s σ H Q I h
 refine Compare_chain (thn (ha pins s σ H _ I h) fun v s1 ⟨x,H1,I1,r1,q1⟩=>chain_link (thn (hb pins s1 σ H1 _ I1 q1) fun u s2 ⟨y,H2,I2,r2,q2⟩ =>
  thn (ho pins s2 σ H2 x y v u _ I2 r1 r2 q2) fun d s3 ⟨z,H3,I3,r3,k,e,q3⟩=>?_)) hm
 subst e
 cases r3
 refine wpAny_truthy_bool ?_
 cases k with
 | false=>exact ite_ff ⟨.bl false,H3,I3,rfl,q3⟩
 | true=>exact ite_tt (chain_last (thn (hc pins s3 σ H3 _ I3 q3) fun w' s4 ⟨z',H4,I4,r4,q4⟩=>ho' pins s4 σ H4 y z' u w' Q I4 r2 r4 q4))
theorem aiX {op op':CmpOp} {r r':R2} (ho:OpR X (compareOp op) r) (ho':OpR X (compareOp op') r') (ha:PE X a ta) (hb:PE X b tb) (hc:PE X c tc)
  (hm:lastMarks [op,op'] [b,c]=false:=by with_unfolding_all rfl):PT X (.Compare a [op,op'] [b,c] pos) (ago (afq r r' ta tb tc)):=by
 intro pins s σ H Q I h
 refine isTrue_chain (thn (ha pins s σ H _ I h) fun v s1 ⟨x,H1,I1,r1,q1⟩=>test_link (thn (hb pins s1 σ H1 _ I1 q1) fun u s2 ⟨y,H2,I2,r2,q2⟩ =>
  thn (ho pins s2 σ H2 x y v u _ I2 r1 r2 q2) fun d s3 ⟨z,H3,I3,r3,k,e,q3⟩=>?_)) hm
 subst e
 cases r3
 refine wpAny_truthy_bool ?_
 cases k with
 | false =>
  obtain⟨k',e',q'⟩:=q3
  cases e'
  exact ite_ff ⟨H3,I3,q'⟩
 | true =>
  refine ite_tt (test_last (thn (hc pins s3 σ H3 _ I3 q3) fun w' s4 ⟨z',H4,I4,r4,q4⟩=>thn (ho' pins s4 σ H4 y z' u w' _ I4 r2 r4 q4) fun d' s5 ⟨z2,H5,I5,r5,k2,e2,q5⟩=>?_))
  subst e2
  cases r5
  exact wpAny_truthy_bool ⟨H5,I5,q5⟩
noncomputable def am2 (K:apD) (x:V) (H:Hp) (k:Bool):Prop :=
 match x with
 | .non=>k=false
 | .bl b=>k=b
 | .int i=>k=(i != 0)
 | .str y=>y.length<=sizeLine/\k=((y.length:Int) != 0)
 | .byt y=>y.size<=sizeLine/\k=((y.size:Int) != 0)
 | .ref p=>(∃ xs,SqL K H p xs/\k=!xs.isEmpty) \/ (∃ xs,SqT K H p xs/\k=!xs.isEmpty) \/ ∃ kvs,H p=some (.dK kvs)/\k=!kvs.isEmpty
 | _=>False
theorem afr {κ:Type} {kvs:List (κ×V)} {vs:List (κ×Value)} (r:KV kvs vs):(!vs.isEmpty)=!kvs.isEmpty:=by
 cases r <;> rfl
theorem aa9 {xs:List V} {its:List Value} (r:Vals xs its):(!its.toArray.isEmpty)=!xs.isEmpty:=by
 cases r <;> simp
theorem vE:(sizeLine:Nat)<2 ^ 63:=by rw [sizeLine_eq];decide
theorem am3:aps X (fun x H Q=>∃ k,am2 X.K x H k/\Q k H):=by
 intro pins s σ H x v Q I rx h
 obtain⟨k,e,q⟩:=h
 have hl:=vE
 have hs:sizeLine=16777216:=sizeLine_eq
 cases x with
 | non =>
  cases rx
  have e':k=false:=e
  subst e'
  exact truthy_none ⟨H,I,q⟩
 | bl b =>
  cases rx
  have e':k=b:=e
  subst e'
  exact wpAny_truthy_bool ⟨H,I,q⟩
 | int i =>
  obtain⟨t,rfl⟩:=rx
  have e':k=(i != 0):=e
  subst e'
  exact PySem.P.truthy_int ⟨H,I,q⟩
 | str y =>
  obtain⟨t,rfl⟩:=rx
  obtain⟨hy,e'⟩:y.length<=sizeLine/\k=((y.length:Int) != 0):=e
  subst e'
  exact PySem.P.truthy_str (by omega) ⟨H,I.tok _,q⟩
 | byt y =>
  obtain⟨t,rfl⟩:=rx
  obtain⟨hy,e'⟩:y.size<=sizeLine/\k=((y.size:Int) != 0):=e
  subst e'
  exact PySem.W.truthy_bytes (by omega) ⟨H,I.tok _,q⟩
 | ref p =>
  cases rx
  have e':(∃ xs,SqL X.K H p xs/\k=!xs.isEmpty) \/ (∃ xs,SqT X.K H p xs/\k=!xs.isEmpty) \/ ∃ kvs,H p=some (.dK kvs)/\k=!kvs.isEmpty:=e
  rcases e' with⟨xs,hx,e'⟩ | ⟨xs,hx,e'⟩ | ⟨kvs,hx,e'⟩
  ·subst e'
   obtain⟨its,r,pl,hz⟩:=I.list hx
   have hlen:=r.length
   exact wpAny_truthy_list pl.isList (by simp only [apV];omega) ⟨H,I.tok _,by rw [aa9 r];exact q⟩
  ·subst e'
   obtain⟨its,r,pl,hz⟩:=I.tuple hx
   have hlen:=r.length
   exact truthy_tuple pl (by simp only [apV];omega) ⟨H,I.tok _,by rw [aa9 r];exact q⟩
  ·subst e'
   obtain⟨hz,hS,vs,r,m⟩:kvs.length<=sizeLine/\(p == sysModules)=false/\∃ vs,KV kvs vs/\s.heap.DictOf (acz X.prog X.w) p vs:=I.hok p _ hx
   have hlen:kvs.length=vs.length:=Paired.length r
   exact wpAny_truthy_dict hS m (by omega) ⟨H,I.tok _,by rw [afr r];exact q⟩
 | _=>exact (show False from e).elim
theorem aiY (ha:PE X a ta) (he:∀ whole,isTrue a X.env whole=(do let v <- whole;standAt a.pos;holding [v] (truthy v))) :
  PT X a (fun σ H Q=>ta σ H fun x H'=>∃ k,am2 X.K x H' k/\Q k H'):=by
 intro pins s σ H Q I h
 exact isTrue_plain (thn (ha pins s σ H _ I h) fun v s1 ⟨x,H1,I1,r1,q1⟩=>am3 pins s1 σ H1 x v Q I1 r1 q1) (he _)
theorem yo:OpR X (binaryOp .Add) (fun x y H Q=>∃ i j,x=.str i/\y=.str j/\i.length+j.length<=sizeLine/\Q (.str (i++j)) H):=by
 intro pins s σ H x y v u Q I rx ry h
 obtain⟨i,j,rfl,rfl,hz,q⟩:=h
 obtain⟨t,rfl⟩:=rx
 obtain⟨t',rfl⟩:=ry
 exact add_str (fun t' tk=>⟨.str (i++j),H,I.tok _,⟨_,rfl⟩,q⟩) hz
theorem vals1 {x:V} {us:List Value} (r:Vals [x] us):∃ u,us=[u]/\RelV x u:=by
 cases r with
 | cons r1 r2=>cases r2;exact⟨_,rfl,r1⟩
theorem vals2 {x y:V} {us:List Value} (r:Vals [x,y] us):∃ u w',us=[u,w']/\RelV x u/\RelV y w':=by
 cases r with
 | cons r1 r2 =>
  cases r2 with
  | cons r3 r4=>cases r4;exact⟨_,_,rfl,r1,r3⟩
theorem adX:z9 X (.builtin "abs") (fun xs H Q=>∃ i,xs=[.int i]/\Q (.int (if i<0 then -i else i)) H):=by
 intro pins s σ H xs us Q I r h
 obtain⟨i,rfl,q⟩:=h
 obtain⟨u,rfl,t,rfl⟩:=vals1 r
 exact call_abs_int fun u tk=>⟨.int (if i<0 then -i else i),H,I.tok _,⟨_,rfl⟩,q⟩
theorem abZ (hc:X.calm=true):z9 X (.builtin "max") (fun xs H Q=>∃ i j,xs=[.int i,.int j]/\Q (.int (if j > i then j else i)) H):=by
 intro pins s σ H xs us Q I r h
 obtain⟨i,j,rfl,q⟩:=h
 obtain⟨u,w',rfl,⟨t,rfl⟩,⟨t',rfl⟩⟩:=vals2 r
 refine max_two_ints (I.ok.hd hc) fun h' tk k=>⟨_,H,I.kept k,?_,q⟩
 by_cases hj:j > i
 ·rw [if_pos hj,if_pos hj];exact⟨_,rfl⟩
 ·rw [if_neg hj,if_neg hj];exact⟨_,rfl⟩
theorem ab0 (hc:X.calm=true):z9 X (.builtin "min") (fun xs H Q=>∃ i j,xs=[.int i,.int j]/\Q (.int (if j<i then j else i)) H):=by
 intro pins s σ H xs us Q I r h
 obtain⟨i,j,rfl,q⟩:=h
 obtain⟨u,w',rfl,⟨t,rfl⟩,⟨t',rfl⟩⟩:=vals2 r
 refine min_two_ints (I.ok.hd hc) fun h' tk k=>⟨_,H,I.kept k,?_,q⟩
 by_cases hj:j<i
 ·rw [if_pos hj,if_pos hj];exact⟨_,rfl⟩
 ·rw [if_neg hj,if_neg hj];exact⟨_,rfl⟩
theorem yI:z9 X (.type "str") (fun xs H Q=>∃ i,xs=[.int i]/\i.natAbs.log2<1920/\Q (.str (toString i)) H):=by
 intro pins s σ H xs us Q I r h
 obtain⟨i,rfl,hz,q⟩:=h
 obtain⟨u,rfl,t,rfl⟩:=vals1 r
 exact PySem.P.str_of_int hz ⟨.str _,H,I.tok _,⟨_,rfl⟩,q⟩
end
structure ObjM (h:Heap) (x dx C:Addr) (mA:Str->Option Value):Prop where
 obj:h.get? x=some (att C dx)
 ns:h.Ns1 dx mA
 ne:dx≠x
theorem ahJ {h:Heap} {dx:Addr} {mA:Str->Option Value} (n:h.Ns1 dx mA):∃ od,h.get? dx=some od/\∀ name,atE name od=some (mA name):=by
 obtain⟨o,es,ep,ho,hd,hk,_,hm⟩:=n
 refine⟨o,ho,fun name=>?_⟩
 have e:=hm name
 unfold nsFind findBy at e
 rw [<-Array.find?_toList] at e
 unfold atE
 rw [hd]
 dsimp only
 split
 ·rename_i y q
  rw [q] at e
  exact congrArg some e
 ·rename_i q
  rw [q] at e
  have a:es.toList.any (·.refKey)=false:=by
   rw [List.any_eq_false]
   intro y hy
   obtain⟨z,t,hkey⟩:=hk y (arQ.mp hy)
   simp [DictEntry.refKey,hkey]
  have a':¬ es.toList.any (·.refKey)=true:=by rw [a];exact apB
  rw [if_neg a']
  exact congrArg some e
theorem ObjM.look {h:Heap} {x dx C:Addr} {mA:Str->Option Value} (I:ObjM h x dx C mA):∃ od,PySem.W.InstAt h x (att C dx) C (some od)/\∀ name,atE name od=some (mA name) :=
 let⟨od,ho,hl⟩:=ahJ I.ns
 ⟨od,⟨I.obj,rfl,rfl,ho⟩,hl⟩
section
variable {prog:Program} {w:World} {A:Around} {E:Value->Shared->Prop} {s:Shared} {K:apD} {x dx C f:Addr} {mA:Str->Option Value} {name:Str} {v:Value}
end
section
variable {P:Program} {w:World} {H H':Hp} {h h':Heap} {a C dx:Addr} {fs fs':List (Str×V)}
theorem ak4 (hok:HOk P w H h) (e:H a=some (.ins C dx fs)):∃ mA,ObjM h a dx C mA/\(∀ f,amS (fs.lookup f) (mA f))/\PySem.Within mA (fs.map (·.1))/\fs.length<=1000/\H dx=some (.own a):=by
 obtain⟨d,z,ne,ob,mA,n,r,q⟩:=(show ObjOk P w H h a (.ins C dx fs) from hok a _ e)
 exact⟨mA,⟨ob,n,ne⟩,r,q,z,d⟩
end
structure Cls (K:apD) (C:Addr):Prop where
 pg:PySem.W.plainGet K C Str.empty=true
 hd:PySem.W.hasDictIn K C=true
 po:PySem.W.plainOver K C=true
 sa:aqA K (.ref C) "__setattr__"=some (some (.builtin "object.__setattr__"))
theorem Cls.get {K:apD} {C:Addr} (c:Cls K C) (f:Str):PySem.W.plainGet K C f=true:=c.pg
structure Con (K:apD) (C:Addr) (f:Str) (v:V) (u:Value):Prop where
 at_:aqA K (.ref C) f=some (some u)
 rel:RelV v u
 get:arO K u "__get__"=some none
 cp:PySem.W.copiedNames.contains f=false
structure Meth (K:apD) (C:Addr) (m:Str) (f:Addr):Prop where
 at_:aqA K (.ref C) m=some (some (.ref f))
 fn:atg K (.ref f)=true
 kp:aqq K (.ref f)=true
section
variable {X:Cx} {pins:List (Addr×Obj)} {σ:St} {H:Hp} {s:Shared} {a C dx:Addr} {fs:List (Str×V)} {f:Str} {v:V} {A:Around} {E:Value->Shared->Prop}
theorem ak5 {prog:Program} {w:World} {env:Env} {e:Expr} {f:Str} {pos:Pos} {s:Shared} {Q:Value->Shared->Prop} (hb:attributeBase e f env (eval e env)=eval e env)
  (h:wpAny (model prog w) A (eval e env) (fun o s₁=>wpAny (model prog w) A (getAttr o f true) Q E s₁) E s):wpAny (model prog w) A (eval (.Attribute e f pos) env) Q E s :=
 Attribute_any_ h (by rw [arm_eval_Attribute,hb])
end
section
variable {X:Cx} {pins:List (Addr×Obj)} {σ:St} {H:Hp} {s:Shared} {A:Around} {E:Value->Shared->Prop} {Q:Value->Shared->Prop} {c:Value} {b:Bool}
inductive TyOf (K:apD) (H:Hp):V->Value->Prop where
 | non:TyOf K H .non (.type "NoneType")
 | bl (x:Bool):TyOf K H (.bl x) (.type "bool")
 | int (i:Int):TyOf K H (.int i) (.type "int")
 | str (x:Str):TyOf K H (.str x) (.type "str")
 | flt (x:UInt64):TyOf K H (.flt x) (.type "float")
 | lst {a:Addr} {xs:List V} (e:H a=some (.lst xs)):TyOf K H (.ref a) (.type "list")
 | frz {a:Addr} {o:Obj} {xs:List V} (e:H a=some (.frz o (.lst xs))):TyOf K H (.ref a) (.type "list")
 | tup {a:Addr} {xs:List V} (e:H a=some (.tup xs)):TyOf K H (.ref a) (.type "tuple")
 | dK {a:Addr} {kvs:List (Key×V)} (e:H a=some (.dK kvs)):TyOf K H (.ref a) (.type "dict")
 | dT {a:Addr} {kvs:List (List Key×V)} (e:H a=some (.dT kvs)):TyOf K H (.ref a) (.type "dict")
 | ins {a C dx:Addr} {fs:List (Str×V)} (e:H a=some (.ins C dx fs)) (cl:Cls K C) (ha:aqA K (.ref C) "__class__"=some (some (.builtin "object.__class__")))
   (hn:arO K (.builtin "object.__class__") "__get__"=some (some (.builtin "getset_descriptor.__get__"))) (htk:PySem.W.takesIn K (.builtin "object.__class__")=some true)
   (hm:ass K C (.type "object")=some true):TyOf K H (.ref a) (.ref C)
theorem ahK {x:V} {u t:Value} (I:Inv X pins σ H s) (rx:RelV x u) (ty:TyOf X.K H x t) (e:aql X.K t c=some b) (h:∀ tk,Q (.bool b) { s with toks:=tk }) :
  wpAny (model X.prog X.w) A (call (.builtin "isinstance") [u,c]) Q E s:=by
 cases ty with
 | non=>cases (show u=Value.none from rx);exact aqr PySem.W.kitx_none I.kIn True.intro e (fun z=>nomatch z) h
 | bl y=>cases (show u=Value.bool y from rx);exact aqr PySem.W.kitx_bool I.kIn True.intro e (fun z=>nomatch z) h
 | int i=>obtain⟨t,q⟩:=(show ∃ t,u=Value.int i t from rx);cases q;exact aqr PySem.W.kitx_int I.kIn True.intro e (fun z=>nomatch z) h
 | str y=>obtain⟨t,q⟩:=(show ∃ t,u=Value.str y t from rx);cases q;exact aqr PySem.W.kitx_str I.kIn True.intro e (fun z=>nomatch z) h
 | flt y=>obtain⟨t,q⟩:=(show ∃ t,u=Value.float y t from rx);cases q;exact aqr PySem.W.kitx_float I.kIn True.intro e (fun z=>nomatch z) h
 | @lst a xs ea =>
  cases (show u=Value.ref a from rx)
  obtain⟨_,_,n,_,h1⟩:=(show ObjOk X.prog X.w H s.heap a (.lst xs) from I.hok a _ ea)
  exact aqr asZ I.kIn ⟨_,h1,rfl⟩ e (fun z=>nomatch z) h
 | @frz a ob xs ea =>
  cases (show u=Value.ref a from rx)
  obtain⟨_,_,_,n,_,h1⟩:=(show ObjOk X.prog X.w H s.heap a (.frz ob (.lst xs)) from I.hok a _ ea)
  exact aqr asZ I.kIn ⟨_,h1,rfl⟩ e (fun z=>nomatch z) h
 | @tup a xs ea =>
  cases (show u=Value.ref a from rx)
  obtain⟨_,_,_,p⟩:=(show ObjOk X.prog X.w H s.heap a (.tup xs) from I.hok a _ ea)
  obtain⟨o,h1,h2,_⟩:=p
  exact aqr PySem.W.kitx_tuple I.kIn ⟨o,h1,h2⟩ e (fun z=>nomatch z) h
 | @dK a kvs ea =>
  cases (show u=Value.ref a from rx)
  obtain⟨_,_,vs,_,p⟩:=(show ObjOk X.prog X.w H s.heap a (.dK kvs) from I.hok a _ ea)
  obtain⟨o,es,ep,h1,h2,_⟩:=p
  exact aqr PySem.W.kitx_dict I.kIn ⟨o,h1,h2.1⟩ e (fun z=>nomatch z) h
 | @dT a kvs ea =>
  cases (show u=Value.ref a from rx)
  obtain⟨_,_,xs,_,o,es,ep,h1,h2,_⟩:=(show ObjOk X.prog X.w H s.heap a (.dT kvs) from I.hok a _ ea)
  exact aqr PySem.W.kitx_dict I.kIn ⟨o,h1,h2.1⟩ e (fun z=>nomatch z) h
 | @ins a C dx fs ea cl ha hn htk hm =>
  cases (show u=Value.ref a from rx)
  obtain⟨mA,O,_⟩:=ak4 I.hok ea
  obtain⟨od,J,_⟩:=O.look
  exact aqr (PySem.W.kitx_own (cl.get _) cl.hd ha hn htk hm) I.kIn J e (fun z=>nomatch z) h
end
structure Room (k:Nat) (A:Around):Prop where
 hd:A.handled=none
 dp:A.depth+3 * k+5<recursionLimit
 un:A.units+16 * k+200<cLine
theorem Room.mono {j k:Nat} {A:Around} (r:Room k A) (h:j<=k):Room j A:=⟨r.hd,by have:=r.dp;omega,by have:=r.un;omega⟩
theorem Room.deeper {k:Nat} {A:Around} (r:Room (k+1) A) (env:Env):Room k (A.deeper env) :=
 ⟨r.hd,by have:=r.dp;show A.depth+1+3 * k+5<_;omega,by have:=r.un;show A.units+3+16 * k+200<_;omega⟩
theorem afs {A:Around} {C:Addr} {us:List Value} {kw:List (Str×Value)}:(A.under (.builtin "type.__call__" ⟨.ref C :: us,kw⟩)).depth=A.depth+1:=by
 first | rfl | simp [at8,Code.weight,Code.isCreation,Code.isGuard,Code.isCaller,Code.frames,at9,guardIds]
theorem aft {A:Around} {C:Addr} {us:List Value} {kw:List (Str×Value)}:(A.under (.builtin "type.__call__" ⟨.ref C :: us,kw⟩)).units=A.units+1:=by
 first | rfl | simp [at8,Code.cUnits,Code.frames,at9]
theorem Room.make {k:Nat} {A:Around} (r:Room (k+1) A) (C:Addr) (us:List Value) (kw:List (Str×Value)):Room k (A.under (.builtin "type.__call__" ⟨.ref C :: us,kw⟩)) :=
 ⟨r.hd,by have:=r.dp;rw [afs];omega,by have:=r.un;rw [aft];omega⟩
theorem Room.depth {k:Nat} {A:Around} (r:Room k A):A.depth<recursionLimit:=by have:=r.dp;omega
theorem Room.units {k:Nat} {A:Around} (r:Room k A):A.units+64<cLine:=by have:=r.un;omega
noncomputable def yJ:TA:=fun _ H Q=>Q [] H
noncomputable def zQ (ta:TE) (tr:TA):TA:=fun σ H Q=>ta σ H fun x H1=>tr σ H1 fun xs H2=>Q (x :: xs) H2
section
variable {X:Cx} {e:Expr} {es:List Expr} {te:TE} {t:TA} {pos:Pos}
theorem zb:PA X [] yJ:=fun _ _ _ _ H Q I h=>Calls.spliced_nil ⟨[],H,I,.nil,h⟩
theorem za (ha:PE X e te) (hr:PA X es t) (hs:starEach (e :: es) X.env=(false,eval e X.env) :: starEach es X.env:=by rfl):PA X (e :: es) (zQ te t):=by
 intro pos pins s σ H Q I h
 rw [hs]
 show wpAny _ _ (spliced ((false,eval e X.env) :: backTo pos (starEach es X.env))) _ _ s
 refine Calls.spliced_cons (thn (ha pins s σ H _ I h) fun u s1 ⟨x,H1,I1,r1,q1⟩=>?_)
 exact thn (hr pos pins s1 σ H1 _ I1 q1) fun us s2 ⟨xs,H2,I2,r2,q2⟩=>⟨x :: xs,H2,I2,.cons r1 r2,q2⟩
noncomputable def aoJ (t:TA):TE:=fun σ H Q=>t σ H fun xs H1=>xs.length<=sizeLine/\∀ p,H1 p=none->Q (.ref p) (upd H1 p (.tup xs))
noncomputable def afu (t:TA):TE:=fun σ H Q=>t σ H fun xs H1=>xs.length<=sizeLine/\∀ p,H1 p=none->Q (.ref p) (upd H1 p (.lst xs))
theorem zR {x1} (h:PA X es t):PE X (.Tuple es x1 pos) (aoJ t):=by
 intro pins s σ H Q I hq
 refine wpAny_Tuple_spliced (thn (h pos pins s σ H _ I hq) fun us s1 ⟨xs,H1,I1,r,z,q⟩=>⟨by rw [<-r.length];exact z,?_⟩)
 have hf:H1 s1.heap.objs.size=none:=I1.hok.fresh (apI _)
 refine⟨.ref s1.heap.objs.size,upd H1 s1.heap.objs.size (.tup xs),I1.laid (t':=s1.toks) (fun b u e=>apH _ e) (apI _) ?_,rfl,q _ hf⟩
 exact⟨z,us,r,⟨_,ap5 _ rfl,rfl,_,rfl⟩⟩
theorem yg (h:PA X es t):PE X (.List es pos) (afu t):=by
 intro pins s σ H Q I hq
 refine wpAny_List_spliced (thn (h pos pins s σ H _ I hq) fun us s1 ⟨xs,H1,I1,r,z,q⟩=>⟨by rw [<-r.length];exact z,?_⟩)
 have hf:H1 s1.heap.objs.size=none:=I1.hok.fresh (apI _)
 refine⟨.ref s1.heap.objs.size,upd H1 s1.heap.objs.size (.lst xs),I1.laid (t':=s1.toks) (fun b u e=>apH _ e) (apI _) ?_,rfl,q _ hf⟩
 exact⟨z,us,0,r,ap5 _ rfl⟩
end
noncomputable abbrev Sp:=List V->Hp->VK->XK->Prop
noncomputable abbrev CXT:=List Env->Hp->Shared->XK->Value->Shared->Prop
structure Env0 (P:Program) (w:World) (K:apD) (mg:Str->Option Value) (base:Heap) (A:Around) (outer:List Env) (s:Shared) (H:Hp):Prop where
 frames:A.frames=some outer
 mod:Mod K mg base
 bs:∀ b o,base.get? b=some o->s.heap.get? b=some o/\H b=none
 bsz:base.objs.size<=s.heap.objs.size
 funs:s.heap.FunFrames base outer
 frf:∀ b∈frs outer,H b=none
 hok:HOk P w H s.heap
 bare:AllBare s.gens
noncomputable def CE (outer:List Env) (P:Program) (w:World) (H:Hp) (s:Shared) (Q:VK) (u:Value) (s':Shared):Prop :=
 ∃ v H',s'.os=s.os/\AllBare s'.gens/\Un (frs outer) [] H H' s.heap s'.heap/\HOk P w H' s'.heap/\RelV v u/\Q v H'
noncomputable def CR (CX:CXT) (outer:List Env) (P:Program) (w:World) (H:Hp) (s:Shared) (Q:VK) (E:XK) (r:Result) (s':Shared):Prop :=
 match r with
 | .ok (.ret u)=>CE outer P w H s Q u s'
 | .ok _=>False
 | .error e=>CX outer H s E e s'
structure FnOk (P:Program) (w:World) (K:apD) (mg:Str->Option Value) (base:Heap) (CX:CXT) (k:Nat) (f:Addr) (fd:FuncData) (ps:List Str) (sp:Sp):Prop where
 len:∀ vs H Q E,sp vs H Q E->vs.length=ps.length
 run:∀ (A:Around) (outer:List Env) (s:Shared) (H:Hp) (args:Args) (us:List Value) (vs:List V) (Q:VK) (E:XK),Room k A->Env0 P w K mg base A outer s H->BindsTo s fd args (ps.zip us)->Vals vs us->sp vs H Q E ->
  codeAny (model P w) A (.call (.ref f) args) (CR CX outer P w H s Q E) s
theorem FnOk.mono {P:Program} {w:World} {K:apD} {mg:Str->Option Value} {base:Heap} {CX:CXT} {j k:Nat} {f:Addr} {fd:FuncData} {ps:List Str} {sp:Sp} (F:FnOk P w K mg base CX j f fd ps sp) (h:j<=k) :
  FnOk P w K mg base CX k f fd ps sp:=⟨F.len,fun A outer s H args us vs Q E hr=>F.run A outer s H args us vs Q E (hr.mono h)⟩
theorem Env0.make {P:Program} {w:World} {K:apD} {mg:Str->Option Value} {base:Heap} {A:Around} {outer:List Env} {s:Shared} {H:Hp} (e:Env0 P w K mg base A outer s H) (C:Addr) (us:List Value) (kw:List (Str×Value)) :
  Env0 P w K mg base (A.under (.builtin "type.__call__" ⟨.ref C :: us,kw⟩)) outer s H:=⟨by first | exact e.frames | (simpa [at8,Code.envs,at9,pushEnvs] using e.frames),e.mod,e.bs,e.bsz,e.funs,e.frf,e.hok,e.bare⟩
section
variable {X:Cx} {pins:List (Addr×Obj)} {σ:St} {H:Hp} {s s':Shared}
theorem Inv.env0 (I:Inv X pins σ H s):Env0 X.prog X.w X.K X.mg X.base X.A X.stack s H :=
 ⟨I.ok.frames,I.ok.mod,I.bs,ap1 I.ok.bsz I.sz,I.stack,I.stkFree,I.hok,I.bare⟩
theorem Inv.after {Q:VK} {u:Value} (I:Inv X pins σ H s) (h:CE X.stack X.prog X.w H s Q u s'):EP X pins σ Q u s':=by
 obtain⟨v,H',os,bare,un,hok,r,q⟩:=h
 obtain⟨hh,g,d,t,os'⟩:=s'
 obtain rfl:os'=s.os:=os
 exact⟨v,H',I.call (h':=hh) (g':=g) (d':=d) (t':=t) (ch:=[]) un hok bare (fun b z=>absurd z (by simp)),r,q⟩
end
noncomputable def vx (sp:Sp) (dvs:List V) (E:XK) (t:TA):TE:=fun σ H Q=>t σ H fun vs H1=>sp (vs++dvs) H1 Q E
noncomputable def Binds (K:apD) (fd:FuncData) (ps:List Str) (ds:List Value):Prop :=
 ∀ (s:Shared) (us:List Value),K.In s.heap->(us++ds).length=ps.length->BindsTo s fd ⟨us,[]⟩ (ps.zip (us++ds))
theorem Binds.all {K:apD} {fd:FuncData} {ps:List Str} (h:∀ us:List Value,us.length=ps.length->bindArgs fd ⟨us,[]⟩=pure (ps.zip us)):Binds K fd ps []:=fun s us _ hl=>by
 rw [aqe] at hl ⊢
 exact .of_eq (h us hl)
noncomputable def Passes (CX:CXT) (X:Cx) (E:XK):Prop:=∀ (pins:List (Addr×Obj)) (σ:St) (H:Hp) (s:Shared) (e:Value) (s':Shared),Inv X pins σ H s->CX X.stack H s E e s'->X.xe e s'
section
variable {X:Cx} {CX:CXT} {k:Nat} {f C:Addr} {fd:FuncData} {ps:List Str} {sp:Sp} {dvs:List V} {ds:List Value} {E:XK} {x m:Str} {p pos apos:Pos} {e o:Expr} {es:List Expr} {ta:TE} {t:TA}
theorem am4 {pins:List (Addr×Obj)} {σ:St} {H:Hp} {s:Shared} {Q:VK} {us:List Value} {vs:List V} (F:FnOk X.prog X.w X.K X.mg X.base CX k f fd ps sp) (hr:Room k X.A) (hb:Binds X.K fd ps ds) (hd:Vals dvs ds) (hx:Passes CX X E)
  (I:Inv X pins σ H s) (r:Vals vs us) (h:sp (vs++dvs) H Q E):wpAny (model X.prog X.w) X.A (call (.ref f) us) (EP X pins σ Q) X.xe s:=by
 have r2:Vals (vs++dvs) (us++ds):=r.append hd
 have hl:(us++ds).length=ps.length:=by rw [<-r2.length];exact F.len _ _ _ _ h
 refine wpAny_call (codeAny_mono (F.run X.A X.stack s H ⟨us,[]⟩ (us++ds) (vs++dvs) Q E hr I.env0 (hb s us I.kIn hl) r2 h) fun r s' hq=>?_)
 cases r with
 | error e=>exact hx pins σ H s e s' I hq
 | ok fl =>
  cases fl with
  | ret u=>exact I.after hq
  | next=>exact aqM hq
  | brk=>exact aqM hq
  | cont=>exact aqM hq
theorem agp (F:FnOk X.prog X.w X.K X.mg X.base CX k f fd ps sp) (hr:Room k X.A) (hg:Gl X x) (hm:X.mg x=some (.ref f)) (hk:aqq X.K (.ref f)=true) (hb:Binds X.K fd ps ds) (hd:Vals dvs ds) (hx:Passes CX X E)
  (ha:PA X (e :: es) t) (hdb:(x == ("__debug__":Str))=false:=by decide) (he:starEach (e :: es) X.env=(false,eval e X.env) :: starEach es X.env:=by rfl) (hpl:(backTo pos (starEach es X.env)).any (·.1)=false:=by rfl) :
  PE X (.Call (.Name x p) (e :: es) [] pos) (vx sp dvs E t):=by
 intro pins s σ H Q I h
 refine wpAny_Call_Name_kw (qv I hg hm ?_ hdb)
 refine asL (h₀:=X.base) I.ok.mod.kin hk (thn (ha pos pins s σ H _ I h) fun us s1 ⟨vs,H1,I1,r,q⟩=>⟨I1.kIn,?_⟩) he hpl
 exact am4 F hr hb hd hx I1 r q
structure Mk (K:apD) (C f:Addr):Prop where
 makes:PySem.W.makesIn K C=true
 init:aqA K (.ref C) "__init__"=some (some (.ref f))
 fn:atg K (.ref f)=true
 kp:aqq K (.ref C)=true
end
section
variable {X:Cx} {CX:CXT} {k:Nat} {f C:Addr} {fd:FuncData} {ps ks:List Str} {sp:Sp} {E:XK} {x m:Str} {p pos apos kpos:Pos} {e o:Expr} {es:List Expr} {kws:List Keyword} {te ta:TE} {t tk:TA} {nm:Option Str}
structure KBinds (K:apD) (fd:FuncData) (ps ks:List Str) (g:List Value->List Value->List Value) (gV:List V->List V->List V):Prop where
 to:∀ (s:Shared) (us ws:List Value),K.In s.heap->(g us ws).length=ps.length->BindsTo s fd ⟨us,ks.zip ws⟩ (ps.zip (g us ws))
 rel:∀ {vs:List V} {us:List Value} {zs:List V} {ws:List Value},Vals vs us->Vals zs ws->Vals (gV vs zs) (g us ws)
variable {g:List Value->List Value->List Value} {gV:List V->List V->List V}
end
structure FnScope (N P:List Str) (sc:Scope):Prop where
 kind:sc.kind=.function
 co:sc.isCoroutine=false
 gen:sc.isGenerator=false
 nd:N.Nodup
 pre:N.take P.length=P
 par:∀ x∈P,sc.names.lookup x=some .local \/ sc.names.lookup x=some .cell
 nofree:∀ y∈sc.names,y.2≠.free
theorem ab1 {kindOf:Str->Option NameKind} {x:Str}:∀ {binds:List (Str×Value)} {m:Str->Option Value},(∀ v,(x,v)∉binds)->bindL kindOf binds m x=m x
 | [],_,_=>rfl
 | (n,v) :: r,m,h=>by
  unfold bindL
  rw [ab1 fun w hw=>h w (apG _ hw)]
  split
  ·have:x≠n:=by rintro rfl;exact h v apJ
   simp [this]
  ·rfl
theorem ab2 {kindOf:Str->Option NameKind} {x:Str}:∀ {binds:List (Str×Value)} {m:Str->Option Value},(∀ v,(x,v)∉binds)->bindC kindOf binds m x=m x
 | [],_,_=>rfl
 | (n,v) :: r,m,h=>by
  unfold bindC
  rw [ab2 fun w hw=>h w (apG _ hw)]
  split
  ·rfl
  ·have:x≠n:=by rintro rfl;exact h v apJ
   simp [this]
theorem ab3 {kindOf:Str->Option NameKind} {x:Str} {v:Value}:∀ {P:List Str} {vs:List Value} {i:Nat} {m:Str->Option Value},P.Nodup->P[i]?=some x->vs[i]?=some v->kindOf x=some .local ->
  bindL kindOf (P.zip vs) m x=some v
 | [],_,_,_,_,h,_,_=>by simp at h
 | _ :: _,[],_,_,_,_,h,_=>by simp at h
 | p :: P,w :: vs,0,m,nd,h1,h2,hk=>by
  simp at h1 h2;subst h1;subst h2
  show bindL kindOf ((p,w) :: P.zip vs) m p=_
  unfold bindL
  rw [ab1 fun v hv=>(aqp.mp nd).1 (atu hv).1,if_pos hk]
  simp
 | p :: P,w :: vs,i+1,m,nd,h1,h2,hk=>by
  show bindL kindOf ((p,w) :: P.zip vs) m x=_
  unfold bindL
  exact ab3 (i:=i) (aqp.mp nd).2 (by simpa using h1) (by simpa using h2) hk
theorem ab4 {kindOf:Str->Option NameKind} {x:Str} {v:Value}:∀ {P:List Str} {vs:List Value} {i:Nat} {m:Str->Option Value},P.Nodup->P[i]?=some x->vs[i]?=some v->kindOf x≠some .local ->
  bindC kindOf (P.zip vs) m x=some v
 | [],_,_,_,_,h,_,_=>by simp at h
 | _ :: _,[],_,_,_,_,h,_=>by simp at h
 | p :: P,w :: vs,0,m,nd,h1,h2,hk=>by
  simp at h1 h2;subst h1;subst h2
  show bindC kindOf ((p,w) :: P.zip vs) m p=_
  unfold bindC
  rw [ab2 fun v hv=>(aqp.mp nd).1 (atu hv).1,if_neg hk]
  simp
 | p :: P,w :: vs,i+1,m,nd,h1,h2,hk=>by
  show bindC kindOf ((p,w) :: P.zip vs) m x=_
  unfold bindC
  exact ab4 (i:=i) (aqp.mp nd).2 (by simpa using h1) (by simpa using h2) hk
noncomputable def start (N:List Str) (vs:List V):St:=vs.map some++arR (N.length - vs.length) none
noncomputable def zH (CX:CXT) (P:Program) (w:World) (K:apD) (mg:Str->Option Value) (base:Heap) (N:List Str) (qual:Str) (scope:Scope) (f:Addr) (cd:Value) (A:Around) (outer:List Env) (s:Shared) (H:Hp) (E:XK):Cx where
 prog:=P
 w:=w
 K:=K
 mg:=mg
 base:=base
 A:=A.deeper (envOfC qual scope s.heap.objs.size f cd)
 N:=N
 s₀:=s
 H₀:=H
 env:=envOfC qual scope s.heap.objs.size f cd
 outer:=outer
 stack:=envOfC qual scope s.heap.objs.size f cd :: outer
 ex:=[]
 calm:=true
 fn:=fun _=>true
 pn:=[]
 xe:=fun e s'=>wpAny (model P w) (A.deeper (envOfC qual scope s.heap.objs.size f cd)) (leaving (envOfC qual scope s.heap.objs.size f cd) e) (fun _ s''=>CX outer H s E e s'') (fun e' s''=>CX outer H s E e' s'') s'
theorem adY {sc:Scope} {n:Nat} {x:Str} (h:sc.names.lookup x=some .cell):∃ c,(cellsFrom n sc.names []).lookup x=some c:=by
 have q:=arG sc.names n [] (.inl h)
 exact aq5.mp q
theorem ahL {CX:CXT} {P:Program} {w:World} {K:apD} {mg:Str->Option Value} {base:Heap} {N ps:List Str} {qual:Str} {scope:Scope} {f:Addr} {cd:Value} {A:Around} {outer:List Env} {s s1:Shared} {H:Hp} {E:XK} {us:List Value} {vs:List V}
  (S:FnScope N ps scope) (hd:A.handled=none) (e0:Env0 P w K mg base A outer s H) (hl:vs.length=ps.length) (r:Vals vs us)
  (x:InCallC s s.heap.objs.size (bindL (envOfC qual scope s.heap.objs.size f cd).kindOf (ps.zip us) fun _=>none) (cellsFrom (s.heap.objs.size+1) scope.names []) (bindC (envOfC qual scope s.heap.objs.size f cd).kindOf (ps.zip us) fun _=>none) s1) :
  Inv (zH CX P w K mg base N qual scope f cd A outer s H E) [] (start N vs) H s1:=by
 have hpl:ps.length<=N.length:=by have:=congrArg arq S.pre;rw [aqi] at this;omega
 obtain⟨h1,tk,rfl,hk⟩:=x.done
 have noA:∀ b:Addr,b∉(zH CX P w K mg base N qual scope f cd A outer s H E).ex:=fun b z=>absurd (show b∈([]:List Addr) from z) (by simp)
 refine⟨⟨e0.mod,S.kind,rfl,rfl,apI _,fun y z c h1 h2=>?_,fun y hy=>?_,fun y c _ h=>?_,fun _=>hd,Around.frames_deeper e0.frames,.inr ⟨rfl,rfl⟩,fun b z=>absurd z (noA b),e0.bs,e0.bsz,fun b _ _=>noA b,fun b z=>absurd z (noA b),e0.funs,e0.frf⟩,
  rfl,e0.bare,Un.kept hk,⟨_,x.toInCall.ns,fun i y v h1 h2 h3=>?_⟩,fun y c h=>⟨_,x.cell y c h⟩,e0.hok.fresh (apI _),fun y c h=>?_,fun p hp=>absurd (show p∈([]:List (Addr×Obj)) from hp) (by simp),e0.hok.kept hk,?_⟩
 ·exact name_of_addr x.apart (arx h1) (arx h2)
 ·have hy:scope.names.lookup y=some .cell \/ scope.names.lookup y=some .free:=hy
  rcases hy with hy | hy
  ·exact adY hy
  ·exact absurd rfl (S.nofree _ (arx hy))
 ·exact aq4 (x.above y c (arx h))
 ·have hi:i<vs.length:=by
   unfold start at h2
   by_cases hi:i<vs.length
   ·exact hi
   ·rw [apQ (by simpa using hi)] at h2
    rw [arA] at h2
    split at h2 <;> cases h2
  have ha:vs[i]?=some v:=by
   unfold start at h2
   rw [apL (by simpa using hi),apM] at h2
   cases e:vs[i]? with
   | none=>rw [e] at h2;cases h2
   | some a=>rw [e] at h2;cases h2;rfl
  obtain⟨u,hu,rv⟩:=r.get ha
  have hp:ps[i]?=some y:=by
   rw [<-S.pre,arZ (by omega)];exact h1
  have ndP:ps.Nodup:=by rw [<-S.pre];exact S.nd.sublist (List.take_sublist _ _)
  refine⟨u,rv,?_⟩
  rcases S.par y (apN hp) with k | k
  ·exact .inl ⟨k,ab3 ndP hp hu k⟩
  ·obtain⟨c,e⟩:=adY (n:=s.heap.objs.size+1) k
   refine .inr ⟨.inl k,c,e,?_⟩
   have q:=x.cell y c e
   rw [ab4 ndP hp hu (by show scope.names.lookup y≠_;rw [k];decide)] at q
   exact q
 ·exact e0.hok.fresh (aq4 (x.above y c (arx h)))
 ·unfold start
  show _=N.length
  rw [apX,apC,asn]
  omega
theorem amx {CX:CXT} {P:Program} {w:World} {K:apD} {mg:Str->Option Value} {base:Heap} {k:Nat} {f:Addr} {name qual:Str} {params:Arguments} {body:List Stmt} {scope:Scope} {dV kV doc pm cdv ct oc:Value} {an od:Option Addr}
  {osl:Array (Option Value)} {N ps:List Str} {sp:Sp} (lk:K.lookup f=some ⟨oc,od,.func (aqQ name qual params body scope dV kV doc pm an cdv ct),osl⟩) (hcd:ar7 K cdv qual=true) (S:FnScope N ps scope)
  (len:∀ vs H Q E,sp vs H Q E->vs.length=ps.length)
  (hbody:∀ (A:Around) (outer:List Env) (s:Shared) (H:Hp) (vs:List V) (Q:VK) (E:XK),Room k (A.deeper (envOfC qual scope s.heap.objs.size f cdv))->sp vs H Q E ->
   ∃ t,PSs (zH CX P w K mg base N qual scope f cdv A outer s H E) body t/\t { nx:=fun _ H'=>Q .non H',rt:=Q } (start N vs) H) :
  FnOk P w K mg base CX (k+1) f (aqQ name qual params body scope dV kV doc pm an cdv ct) ps sp:=by
 refine⟨len,fun A outer s H args us vs Q E hr e0 hb r hsp=>?_⟩
 have hl:=len _ _ _ _ hsp
 have KX:K.In s.heap:=e0.mod.kin.keeps fun b o e=>(e0.bs b o e).1
 have lim:s.heap.NoLimit:=e0.mod.nolimit.keeps fun b o e=>(e0.bs b o e).1
 have hkind:∀ y∈ps.zip us,scope.names.lookup y.1=some .local \/ (scope.names.lookup y.1=some .cell/\((cellsFrom (s.heap.objs.size+1) scope.names []).lookup y.1).isSome=true):=fun⟨n,v⟩ hy=>by
  rcases S.par n (atu hy).1 with q | q
  ·exact .inl q
  ·exact .inr ⟨q,arG _ _ _ (.inl q)⟩
 refine codeAny_call_function hr.depth (KX _ _ lk) rfl S.co S.gen rfl (PySem.W.codeRec_of KX hcd) (hb _ _ _ _ ?_)
 refine wpAny_newFunctionEnv_cells S.kind hkind fun env he s1 x=>?_
 subst he
 refine⟨lim.keeps x.toInCall.keep,codeAny_func ?_⟩
 obtain⟨t,ht,hq⟩:=hbody A outer s H vs Q E (hr.deeper _) hsp
 have I:Inv (zH CX P w K mg base N qual scope f cdv A outer s H E) [] (start N vs) H s1:=ahL S hr.hd e0 hl r x
 refine wpAny_mono (ht [] s1 (start N vs) H _ I hq) (fun fl s' hs=>?_) fun e s' hs=>hs
 have fin:∀ {σ':St} {H':Hp} {v:V} {u:Value},Inv (zH CX P w K mg base N qual scope f cdv A outer s H E) [] σ' H' s'->RelV v u->Q v H'->CE outer P w H s Q u s' :=
  fun {σ' H' v u} J rv q=>⟨v,H',J.os,J.bare,J.base,J.hok,rv,q⟩
 cases fl with
 | ret u =>
  obtain⟨v,σ',H',J,rv,q⟩:=hs
  exact fin J rv q
 | next =>
  obtain⟨σ',H',J,q⟩:=hs
  exact fin (v:=V.non) (u:=Value.none) J rfl q
 | brk =>
  obtain⟨_,_,_,q⟩:=hs
  exact aqM q
 | cont =>
  obtain⟨_,_,_,q⟩:=hs
  exact aqM q
section
variable {X:Cx} {x:Str} {p pos:Pos} {e:Expr} {es:List Expr} {t:TA} {id T:String} {r:List V->Hp->VK->Prop}
noncomputable def tCB (r:List V->Hp->VK->Prop) (t:TA):TE:=fun σ H Q=>t σ H fun vs H1=>r vs H1 Q
theorem zy (hc:z9 X (.builtin id) r) (hg:Gl X x) (hm:X.mg x=none) (hv:bootBuiltins x=some (.builtin id)) (ha:PA X (e :: es) t) (hn:x ≠ "__name__":=by decide) (hdb:(x == ("__debug__":Str))=false:=by decide)
  (he:starEach (e :: es) X.env=(false,eval e X.env) :: starEach es X.env:=by rfl) (hpl:(backTo pos (starEach es X.env)).any (·.1)=false:=by rfl):PE X (.Call (.Name x p) (e :: es) [] pos) (tCB r t):=by
 intro pins s σ H Q I h
 refine wpAny_Call_Name_kw (aae I hg hm hv ?_ hn hdb)
 exact asr (thn (ha pos pins s σ H _ I h) fun us s1 ⟨vs,H1,I1,r1,q1⟩=>hc pins s1 σ H1 vs us Q I1 r1 q1) he hpl
theorem yr (hc:z9 X (.type T) r) (hg:Gl X x) (hm:X.mg x=none) (hv:bootBuiltins x=some (.type T)) (ha:PA X (e :: es) t) (hn:x ≠ "__name__":=by decide) (hdb:(x == ("__debug__":Str))=false:=by decide)
  (he:starEach (e :: es) X.env=(false,eval e X.env) :: starEach es X.env:=by rfl) (hpl:(backTo pos (starEach es X.env)).any (·.1)=false:=by rfl):PE X (.Call (.Name x p) (e :: es) [] pos) (tCB r t):=by
 intro pins s σ H Q I h
 refine wpAny_Call_Name_kw (aae I hg hm hv ?_ hn hdb)
 exact arN (thn (ha pos pins s σ H _ I h) fun us s1 ⟨vs,H1,I1,r1,q1⟩=>hc pins s1 σ H1 vs us Q I1 r1 q1) he hpl
theorem afv (hc:z9 X (.type T) r) (hg:Gl X x) (hm:X.mg x=none) (hv:bootBuiltins x=some (.type T)) (hn:x ≠ "__name__":=by decide) (hdb:(x == ("__debug__":Str))=false:=by decide) :
  PE X (.Call (.Name x p) [] [] pos) (tCB r yJ):=by
 intro pins s σ H Q I h
 refine wpAny_Call_Name_kw (aae I hg hm hv ?_ hn hdb)
 exact PyProof.Rows.callWith_type0 (hc pins s σ H [] [] Q I .nil h)
end
end L2
namespace HT
open PySem PyProof.Rows
theorem rcLt_int (A:Around) (s:Shared) (a:Int) (t:Tok) (c:Int) (u:Tok) (prog:Program) (w:World) (E:Value->Shared->Prop) (Q:Value->Shared->Prop) (h:Q (.bool (decide (a<c))) s) :
  wpAny (model prog w) A (richCompare .Lt (.int a t) (.int c u)) Q E s :=
 (PyProof.Rows.lt_int h:wpAny (model prog w) A (compareOp .Lt (.int a t) (.int c u)) Q E s)
section
open PySem.SeqAt
open PySem.AutoSeq1 (wpAny_loadPart')
open PySem.MeetsSeq PySem.MeetsSeq2 PySem.MeetsSeq3
end
section
variable {prog:Program} {w:World} {A:Around} {E:Value->Shared->Prop} {s:Shared}
noncomputable def sIx (n d:Nat):Option Int->Nat
 | none=>d
 | some v=>if v<0 then (v+(n:Int)).toNat else min v.toNat n
end
end HT
namespace L2
open PySem PySem.Spec PyProof.Rows
noncomputable abbrev TO:=St->Hp->(Option Int->Hp->Prop)->Prop
noncomputable def PO (X:Cx) (e:Option Expr) (t:TO):Prop :=
 ∀ (pins:List (Addr×Obj)) (s:Shared) (σ:St) (H:Hp) (Q:Option Int->Hp->Prop),Inv X pins σ H s->t σ H Q ->
  wpAny (model X.prog X.w) X.A (evalPart e X.env) (fun u s'=>∃ o H',Inv X pins σ H' s'/\IsPart u o/\Q o H') X.xe s
noncomputable def agq:TO:=fun _ H Q=>Q none H
noncomputable def amy (t:TE):TO:=fun σ H Q=>t σ H fun x H1=>∃ i,x=.int i/\Q (some i) H1
theorem intsAre_of {ns:List Int}:∀ {us:List Value},Vals (ns.map V.int) us->IntsAre us ns:=by
 induction ns with
 | nil=>intro us r;rw [asG] at r;cases r;exact .nil
 | cons n ns ih =>
  intro us r
  rw [apZ] at r
  cases r with
  | cons r1 r2 =>
   obtain⟨t,e⟩:=r1
   subst e
   exact .cons n t (ih r2)
section
variable {X:Cx} {e:Expr} {te:TE} {lo hi:Option Expr} {tl th:TO} {pos p2:Pos}
theorem acH:PO X none agq:=by
 intro pins s σ H Q I h
 rw [evalPart_none]
 exact wpAny_pure ⟨none,H,I,.none,h⟩
theorem acI (h:PE X e te):PO X (some e) (amy te):=by
 intro pins s σ H Q I hw
 rw [evalPart_some]
 refine thn (h pins s σ H _ I hw) fun u s1 ⟨x,H1,I1,r1,q1⟩=>?_
 obtain⟨i,rfl,q⟩:=q1
 obtain⟨t,rfl⟩:=r1
 exact⟨some i,H1,I1,.int i t,q⟩
noncomputable def SlR (X:Cx) (r:V->Option Int->Option Int->Hp->VK->Prop):Prop :=
 ∀ (pins:List (Addr×Obj)) (s:Shared) (σ:St) (H:Hp) (x:V) (v vl vu:Value) (lo hi:Option Int) (sl:Addr) (Q:VK),Inv X pins σ H s->RelV x v->s.heap.IsSliceOf sl vl vu .none->IsPart vl lo->IsPart vu hi->r x lo hi H Q ->
  ∃ T id,typeLookup (.type T) "__getitem__"=pure (some (.builtin id))/\s.TypeIs v T/\wpAny (model X.prog X.w) X.A (getItem v (.ref sl)) (EP X pins σ Q) X.xe s
noncomputable def tSl (r:V->Option Int->Option Int->Hp->VK->Prop) (te:TE) (tl th:TO):TE:=fun σ H Q=>te σ H fun x H1=>tl σ H1 fun l H2=>th σ H2 fun u H3=>r x l u H3 Q
theorem aba {r:V->Option Int->Option Int->Hp->VK->Prop} (hr:SlR X r) (he:PE X e te) (hl:PO X lo tl) (hu:PO X hi th):PE X (.Subscript e (.Slice lo hi none p2) pos) (tSl r te tl th):=by
 intro pins s σ H Q I h
 refine Subscript_ (thn (he pins s σ H _ I h) fun v s1 ⟨x,H1,I1,r1,q1⟩=>?_)
 refine wpAny_Slice (thn (hl pins s1 σ H1 _ I1 q1) fun vl s2 ⟨l,H2,I2,pl,q2⟩=>thn (hu pins s2 σ H2 _ I2 q2) fun vu s3 ⟨u,H3,I3,pu,q3⟩=>?_)
 rw [evalPart_none]
 refine wpAny_pure ?_
 have I4:Inv X pins σ H3 { s3 with heap:=s3.heap.push { cls:=.type "slice",data:=.fields #[vl,vu,.none] } }:=I3.kept (t':=s3.toks) fun b ob q=>apH _ q
 obtain⟨T,id,hT,ht,hg⟩:=hr pins { s3 with heap:=s3.heap.push { cls:=.type "slice",data:=.fields #[vl,vu,.none] } } σ H3 x v vl vu l u s3.heap.objs.size Q I4 r1 (Heap.IsSliceOf.new ..) pl pu q3
 show wpAny (model X.prog X.w) X.A (subscriptTail e (.Slice lo hi none p2) v (.ref s3.heap.objs.size)) (EP X pins σ Q) X.xe { s3 with heap:=s3.heap.push { cls:=.type "slice",data:=.fields #[vl,vu,.none] } }
 exact tail_any (ops:=[.ref s3.heap.objs.size,v]) ht hT hg (by with_unfolding_all rfl)
noncomputable def afw (xs:List V) (lo hi:Option Int):List V:=(xs.drop (HT.sIx xs.length 0 lo)).take (HT.sIx xs.length xs.length hi - HT.sIx xs.length 0 lo)
theorem adZ (xs:List V) (lo hi:Option Int):(afw xs lo hi).length<=xs.length:=by
 unfold afw
 rw [aqi,arW]
 omega
end
noncomputable def ixN (n:Nat) (i:Int):Option Nat:=if 0<=i then (if i<n then some i.toNat else none) else if -(n:Int)<=i then some (i+n).toNat else none
noncomputable def atI {α:Type} (xs:List α) (i:Int):Option α:=(ixN xs.length i).bind fun j=>xs[j]?
theorem agr {n:Nat} {i:Int} {j:Nat} (h:ixN n i=some j):seqIndex? i n=some j/\j<n/\-(n:Int)<=i/\i<n:=by
 unfold ixN at h
 by_cases h0:0<=i
 ·rw [if_pos h0] at h
  by_cases h1:i<n
  ·rw [if_pos h1] at h
   have e:i.toNat=j:=Option.some.inj h
   exact⟨by rw [seqIndex_of h0 h1,e],by omega,by omega,h1⟩
  ·rw [if_neg h1] at h;cases h
 ·rw [if_neg h0] at h
  by_cases h1:-(n:Int)<=i
  ·rw [if_pos h1] at h
   have e:(i+n).toNat=j:=Option.some.inj h
   exact⟨by rw [seqIndex_neg (by omega) h1,e],by omega,h1,by omega⟩
  ·rw [if_neg h1] at h;cases h
theorem acJ {α:Type} {xs:List α} {i:Int} {v:α} (h:atI xs i=some v):∃ j,seqIndex? i xs.length=some j/\xs[j]?=some v/\j<xs.length/\-(xs.length:Int)<=i/\i<xs.length:=by
 unfold atI at h
 cases e:ixN xs.length i with
 | none=>rw [e] at h;cases h
 | some j =>
  rw [e] at h
  obtain⟨h1,h2,h3,h4⟩:=agr e
  exact⟨j,h1,h,h2,h3,h4⟩
theorem zO {α:Type} {xs:List α} {j:Nat} {v:α} (h:xs[j]?=some v):atI xs (j:Int)=some v:=by
 have hj:j<xs.length:=(apE.mp h).1
 have e:ixN xs.length (j:Int)=some j:=by
  unfold ixN
  rw [if_pos (by omega),if_pos (by omega)];simp
 unfold atI;rw [e];exact h
noncomputable def ags (b:Expr):Prop:=∀ o i,subscripted b false o i=operate [o,i] (getItem o i)
noncomputable def IxR (X:Cx) (r:R2):Prop :=
 ∀ (value slice:Expr) (pins:List (Addr×Obj)) (s:Shared) (σ:St) (H:Hp) (x y:V) (v u:Value) (Q:VK),Inv X pins σ H s->RelV x v->RelV y u->r x y H Q ->
  subscripted slice false v u=operate [v,u] (getItem v u)->wpAny (model X.prog X.w) X.A (subscriptTail value slice v u) (EP X pins σ Q) X.xe s
noncomputable def MtR (X:Cx) (id:String) (r:V->List V->Hp->VK->Prop):Prop :=
 ∀ (pins:List (Addr×Obj)) (s:Shared) (σ:St) (H:Hp) (x:V) (xs:List V) (v:Value) (us:List Value) (Q:VK),Inv X pins σ H s->RelV x v->Vals xs us->r x xs H Q ->
  wpAny (model X.prog X.w) X.A (call (.builtin id) (v :: us)) (EP X pins σ Q) X.xe s
section
variable {X:Cx} {a b:Expr} {ta tb:TE} {pos:Pos}
theorem zM {r:R2} (hr:IxR X r) (ha:PE X a ta) (hb:PE X b tb) (hs:ags b):PE X (.Subscript a b pos) (tOp r ta tb):=by
 intro pins s σ H Q I h
 exact Subscript_ (am0 ha hb I h fun v u s2 x y H2 I2 rx ry q=>hr a b pins s2 σ H2 x y v u Q I2 rx ry q (hs _ _))
noncomputable def ad0 (K:apD):R2:=fun x y H Q=>∃ p xs i v,x=.ref p/\y=.int i/\SqL K H p xs/\atI xs i=some v/\Q v H
noncomputable def am5 (K:apD):R2:=fun x y H Q=>∃ p xs i v,x=.ref p/\y=.int i/\SqT K H p xs/\atI xs i=some v/\Q v H
noncomputable def aoK:R2:=fun x y H Q=>∃ z i c,x=.str z/\y=.int i/\z.length<=sizeLine/\atI z.cps.toList i=some c/\Q (.str ⟨#[c]⟩) H
theorem ak6:IxR X (ad0 X.K):=by
 intro value slice pins s σ H x y v u Q I rx ry h hs
 obtain⟨p,xs,i,z,rfl,rfl,hq,he,q⟩:=h
 cases rx
 obtain⟨t,rfl⟩:=ry
 obtain⟨its,r,pl,hz⟩:=I.list hq
 obtain⟨j,h1,h2,h3,h4,h5⟩:=acJ he
 obtain⟨w,ew,rw'⟩:=r.get h2
 have hl:=r.length
 have hn:=vE
 have fin:EP X pins σ Q w s:=⟨z,H,I,rw',q⟩
 by_cases h0:0<=i
 ·have hj:i.toNat=j:=by
   rw [seqIndex_of h0 h5] at h1
   exact Option.some.inj h1
  exact item_listR pl.isList h0 (by omega) (by rw [hj];simpa using ew) fin hs
 ·have hj:(i+(its.toArray.size:Int)).toNat=j:=by
   rw [seqIndex_neg (by omega) h4] at h1
   rw [apV,<- hl]
   exact Option.some.inj h1
  exact subscriptTail_builtinR (x:=w) pl.isList.typeIs slot_list_getitem.lookup
   (wpAny_getItem_list_neg (Q:=fun r s'=>r=w/\EP X pins σ Q r s') pl.isList (by omega) (by rw [apV] <;> omega) (by omega) (by rw [hj];simpa using ew) ⟨rfl,fin⟩) hs
theorem am6:IxR X (am5 X.K):=by
 intro value slice pins s σ H x y v u Q I rx ry h hs
 obtain⟨p,xs,i,z,rfl,rfl,hq,he,q⟩:=h
 cases rx
 obtain⟨t,rfl⟩:=ry
 obtain⟨its,r,pl,hz⟩:=I.tuple hq
 obtain⟨j,h1,h2,h3,h4,h5⟩:=acJ he
 obtain⟨w,ew,rw'⟩:=r.get h2
 have hl:=r.length
 have hn:=vE
 have fin:EP X pins σ Q w s:=⟨z,H,I,rw',q⟩
 exact subscriptTail_builtinR (x:=w) pl.typeIs slot_tuple_getitem.lookup
  (getItem_tuple (j:=j) (Q:=fun r s'=>r=w/\EP X pins σ Q r s') pl (by omega) (by omega) (by rw [apV,<- hl];exact h1) (by simpa using ew) ⟨rfl,fin⟩) hs
theorem am7:IxR X aoK:=by
 intro value slice pins s σ H x y v u Q I rx ry h hs
 obtain⟨z,i,c,rfl,rfl,hz,he,q⟩:=h
 obtain⟨t,rfl⟩:=rx
 obtain⟨t',rfl⟩:=ry
 obtain⟨j,h1,h2,h3,h4,h5⟩:=acJ he
 have hl:z.cps.toList.length=z.length:=by simp [Str.length]
 rw [hl] at h1 h4 h5
 have hn:=vE
 exact tail_any (typeIs_str s z t) slot_str_getitem.lookup (getItem_str (c:=c) (by
  have e1:decide (i < -(2 ^ 63:Int))=false:=decide_eq_false (by omega)
  have e2:decide (i >= 2 ^ 63)=false:=decide_eq_false (by omega)
  rw [e1,e2,Bool.or_false]) (by rw [h1];simpa using h2) ⟨.str ⟨#[c]⟩,H,I.tok _,⟨_,rfl⟩,q⟩) hs
theorem afx (its:List Value) (n j:Nat) (u:Value):arS (·.setIfInBounds j u) { cls:=.type "list",data:=.seq its.toArray n }={ cls:=.type "list",data:=.seq (its.set j u).toArray n }:=by
 simp [arS]
theorem Inv.lst {pins:List (Addr×Obj)} {σ:St} {H:Hp} {s:Shared} {p:Addr} {xs:List V} (I:Inv X pins σ H s) (h:H p=some (.lst xs)) :
  ∃ (its:List Value) (n:Nat),Vals xs its/\s.heap.get? p=some { cls:=.type "list",data:=.seq its.toArray n }/\xs.length<=sizeLine:=by
 obtain⟨z,its,n,r,e⟩:=I.hok p _ h
 exact⟨its,n,r,e,z⟩
theorem Inv.lstUpd {pins:List (Addr×Obj)} {σ:St} {H:Hp} {s:Shared} {p:Addr} {xs ys:List V} {its its':List Value} {n n':Nat} {f:Obj->Obj} (I:Inv X pins σ H s) (h:H p=some (.lst xs))
  (ho:s.heap.get? p=some { cls:=.type "list",data:=.seq its.toArray n }) (hf:f { cls:=.type "list",data:=.seq its.toArray n }={ cls:=.type "list",data:=.seq its'.toArray n' }) (r:Vals ys its') (hz:ys.length<=sizeLine) (t:Nat) :
  Inv X pins σ (upd H p (.lst ys)) { s with heap:=s.heap.update p f,toks:=t }:=by
 have e:(s.heap.update p f).get? p=some { cls:=.type "list",data:=.seq its'.toArray n' }:=by
  rw [aq2 f ho (by rw [hf] <;> rfl),hf]
 refine I.write (x:=p) (e:=p) (by rw [h];trivial) (.inl rfl) (fun b u hb q=>(aqt _ _ (aqP hb)).trans q) ⟨_,e⟩ ?_
 exact⟨hz,its',n',r,e⟩
noncomputable def aax:V->V->V->Hp->(Hp->Prop)->Prop:=fun o i v H Q=>∃ p xs k j,o=.ref p/\i=.int k/\H p=some (.lst xs)/\ixN xs.length k=some j/\Q (upd H p (.lst (xs.set j v)))
theorem set_list:ak0 X aax:=by
 intro pins s σ H o i v ov iv u Q I ro ri rv h
 obtain⟨p,xs,k,j,rfl,rfl,hp,hj,q⟩:=h
 cases ro
 obtain⟨t,rfl⟩:=ri
 obtain⟨its,n,r,ho,hz⟩:=I.lst hp
 obtain⟨h1,h2,h3,h4⟩:=agr hj
 have hl:=r.length
 have hn:=vE
 have I':Inv X pins σ (upd H p (.lst (xs.set j v))) { s with heap:=s.heap.update p (arS (·.setIfInBounds j u)) } :=
  I.lstUpd hp ho (afx its n j u) (r.set rv j) (by rw [aqB];exact hz) s.toks
 by_cases h0:0<=k
 ·have hk:k.toNat=j:=by
   rw [seqIndex_of h0 h4] at h1
   exact Option.some.inj h1
  exact PySem.W.ki_setAt ho h0 (by omega) (by rw [apV,<- hl];exact h4) (by rw [hk];exact⟨_,I',q⟩)
 ·have hk:(k+(its.toArray.size:Int)).toNat=j:=by
   rw [seqIndex_neg (by omega) h3] at h1
   rw [apV,<- hl]
   exact Option.some.inj h1
  exact PySem.W.ki_setBack ho (by omega) (by rw [apV,<- hl];exact h3) (by omega) (by rw [hk];exact⟨_,I',q⟩)
theorem acK (lo hi:Option Int) (n:Nat):(sliceBounds lo hi none n).1=((HT.sIx n 0 lo:Nat):Int)/\(sliceBounds lo hi none n).2.1=((HT.sIx n n hi:Nat):Int)/\(sliceBounds lo hi none n).2.2=1:=by
 refine⟨?_,?_,rfl⟩
 ·cases lo with
  | none=>simp [sliceBounds,HT.sIx]
  | some i =>
   simp only [sliceBounds,HT.sIx,Option.getD_none,show (1:Int) > 0 by decide,if_true]
   by_cases h:i<0
   ·simp only [h,if_true] <;> omega
   ·simp only [h,if_false] <;> omega
 ·cases hi with
  | none=>simp [sliceBounds,HT.sIx]
  | some i =>
   simp only [sliceBounds,HT.sIx,Option.getD_none,show (1:Int) > 0 by decide,if_true]
   by_cases h:i<0
   ·simp only [h,if_true] <;> omega
   ·simp only [h,if_false] <;> omega
theorem abJ (its:List Value) (lo hi:Option Int):slicePick its.toArray lo hi none=((its.drop (HT.sIx its.length 0 lo)).take (HT.sIx its.length its.length hi - HT.sIx its.length 0 lo)).toArray:=by
 obtain⟨h1,h2,h3⟩:=acK lo hi its.toArray.size
 unfold slicePick
 rw [h1,h2,h3]
 simp only [sliceRange_one,pick_run,apV] <;> rfl
noncomputable def ak7 (K:apD):V->Option Int->Option Int->Hp->VK->Prop:=fun x lo hi H Q=>∃ a xs,x=.ref a/\SqL K H a xs/\∀ p,H p=none->Q (.ref p) (upd H p (.lst (afw xs lo hi)))
theorem ak8:SlR X (ak7 X.K):=by
 intro pins s σ H x v vl vu lo hi sl Q I rx hs pl pu h
 obtain⟨a,xs,rfl,hx,q⟩:=h
 cases rx
 obtain⟨its,r,ht,hz⟩:=I.list hx
 have hlen:=r.length
 refine⟨"list",_,slot_list_getitem.lookup,ht.isList.typeIs,?_⟩
 refine wpAny_getItem_list_slice ht.isList hs pl pu .none (by simp) ?_ (by rw [apV] <;> omega)
 rw [abJ,<- hlen]
 refine⟨.ref s.heap.objs.size,_,I.laid (t':=s.toks) (o:=.lst (afw xs lo hi)) (fun b ob q=>apH _ q) (apI _) ?_,rfl,q _ (I.hok.fresh (apI _))⟩
 exact⟨ap1 (adZ xs lo hi) hz,_,0,(r.drop (HT.sIx xs.length 0 lo)).take (HT.sIx xs.length xs.length hi - HT.sIx xs.length 0 lo),ap5 _ rfl⟩
noncomputable def aay:V->Bool
 | .non=>true
 | .bl _=>true
 | .int _=>true
 | .str _=>true
 | _=>false
noncomputable def eqV:V->V->Bool
 | .non,.non=>true
 | .bl a,.bl b=>a == b
 | .bl a,.int b=>(if a then 1 else 0) == b
 | .int a,.bl b=>a == (if b then 1 else 0)
 | .int a,.int b=>a == b
 | .str a,.str b=>a == b
 | _,_=>false
theorem am8 {A:Around} {s:Shared} {y x:V} {u v:Value} (ry:RelV y u) (rx:RelV x v) (fy:aay y=true) (fx:aay x=true):SeqAt.EqAt A s u v (eqV y x):=by
 cases y with
 | non =>
  cases ry
  cases x with
  | non=>cases rx;exact SeqAt.EqAt.same _
  | bl b=>cases rx;exact SeqAt.EqAt.none_bool b
  | int b=>obtain⟨t,rfl⟩:=rx;exact SeqAt.EqAt.none_int b t
  | str b=>obtain⟨t,rfl⟩:=rx;exact SeqAt.EqAt.none_str b t
  | _=>exact absurd (show false=true from fx) apB
 | bl a =>
  cases ry
  cases x with
  | non=>cases rx;exact SeqAt.EqAt.bool_none a
  | bl b=>cases rx;exact SeqAt.EqAt.bool_bool a b
  | int b=>obtain⟨t,rfl⟩:=rx;exact SeqAt.EqAt.bool_int a b t
  | str b=>obtain⟨t,rfl⟩:=rx;exact SeqAt.EqAt.bool_str a b t
  | _=>exact absurd (show false=true from fx) apB
 | int a =>
  obtain⟨t',rfl⟩:=ry
  cases x with
  | non=>cases rx;exact SeqAt.EqAt.int_none a t'
  | bl b=>cases rx;exact SeqAt.EqAt.int_bool a t' b
  | int b=>obtain⟨t,rfl⟩:=rx;exact SeqAt.EqAt.int_int a t' b t
  | str b=>obtain⟨t,rfl⟩:=rx;exact SeqAt.EqAt.int_str a t' b t
  | _=>exact absurd (show false=true from fx) apB
 | str a =>
  obtain⟨t',rfl⟩:=ry
  cases x with
  | non=>cases rx;exact SeqAt.EqAt.str_none a t'
  | bl b=>cases rx;exact SeqAt.EqAt.str_bool a t' b
  | int b=>obtain⟨t,rfl⟩:=rx;exact SeqAt.EqAt.str_int a t' b t
  | str b=>obtain⟨t,rfl⟩:=rx;exact SeqAt.EqAt.str_str a t' b t
  | _=>exact absurd (show false=true from fx) apB
 | _=>exact absurd (show false=true from fy) apB
noncomputable def eqU (x:V) (u:Value):Bool:=match u with
 | .none=>eqV .non x
 | .bool b=>eqV (.bl b) x
 | .int i _=>eqV (.int i) x
 | .str z _=>eqV (.str z) x
 | _=>false
theorem aiZ {x y:V} {u:Value} (r:RelV y u) (f:aay y=true):eqU x u=eqV y x:=by
 cases y with
 | non=>cases r;rfl
 | bl b=>cases r;rfl
 | int i=>obtain⟨t,rfl⟩:=r;rfl
 | str z=>obtain⟨t,rfl⟩:=r;rfl
 | _=>exact absurd (show false=true from f) apB
theorem acL {x:V}:∀ {xs:List V} {us:List Value},Vals xs us->xs.all aay=true->us.any (eqU x)=xs.any fun y=>eqV y x
 | _,_,.nil,_=>rfl
 | y :: xs,u :: us,.cons r t,f=>by
  rw [at4,apO] at f
  rw [List.any_cons,List.any_cons,aiZ r f.1,acL t f.2]
theorem abb {A:Around} {s:Shared} {x:V} {v:Value} (rx:RelV x v) (fx:aay x=true):∀ {xs:List V} {us:List Value},Vals xs us->xs.all aay=true->∀ u∈us,SeqAt.EqAt A s u v (eqU x u)
 | _,_,.nil,_=>fun u hu=>by cases hu
 | y :: xs,u :: us,.cons r t,f=>fun u' hu=>by
  rw [at4,apO] at f
  rcases apK.mp hu with rfl | hu
  ·rw [aiZ r f.1];exact am8 r rx f.1 fx
  ·exact abb rx fx t f.2 u' hu
noncomputable def inV (x:V) (xs:List V):Bool:=xs.any fun y=>eqV y x
noncomputable def rIn (K:apD) (neg:Bool):R2:=fun x y H Q=>∃ p xs,y=.ref p/\(SqL K H p xs \/ SqT K H p xs)/\aay x=true/\xs.all aay=true/\Q (.bl (if neg then !inV x xs else inV x xs)) H
theorem acM:OpR X (compareOp .NotIn) (rIn X.K true):=by
 intro pins s σ H x y v u Q I rx ry h
 obtain⟨p,xs,rfl,hq,fx,fs,q⟩:=h
 cases ry
 rcases hq with hq | hq
 ·obtain⟨its,r,pl,hz⟩:=I.list hq
  refine SeqAt.notIn_listAt (eqU x) pl.isList (fun w hw=>abb rx fx r fs w (by simpa using hw)) ⟨.bl _,H,I,rfl,?_⟩
  rw [show its.toArray.any (eqU x)=its.any (eqU x) by simp,acL r fs]
  exact q
 ·obtain⟨its,r,pl,hz⟩:=I.tuple hq
  refine SeqAt.notIn_tupleAt (eqU x) pl (fun w hw=>abb rx fx r fs w (by simpa using hw)) ⟨.bl _,H,I,rfl,?_⟩
  rw [show its.toArray.any (eqU x)=its.any (eqU x) by simp,acL r fs]
  exact q
theorem acN:z9 X (.builtin "len") (fun xs H Q=>∃ p ys,xs=[.ref p]/\(SqL X.K H p ys \/ SqT X.K H p ys)/\Q (.int ys.length) H):=by
 intro pins s σ H xs us Q I r h
 obtain⟨p,ys,rfl,hq,q⟩:=h
 obtain⟨u,rfl,rx⟩:=vals1 r
 cases rx
 have hn:=vE
 rcases hq with hq | hq
 ·obtain⟨its,r',pl,hz⟩:=I.list hq
  have hlen:=r'.length
  exact Calls.call_len_list pl.isList (by simp only [apV] <;> omega) ⟨.int ys.length,H,I.tok _,⟨s.toks+1,by rw [apV,hlen]⟩,q⟩
 ·obtain⟨its,r',pl,hz⟩:=I.tuple hq
  have hlen:=r'.length
  exact len_tuple pl (by simp only [apV] <;> omega) ⟨.int ys.length,H,I.tok _,⟨s.toks+1,by rw [apV,hlen]⟩,q⟩
theorem acO:z9 X (.builtin "len") (fun xs H Q=>∃ z,xs=[.str z]/\z.length<=sizeLine/\Q (.int z.length) H):=by
 intro pins s σ H xs us Q I r h
 obtain⟨z,rfl,hz,q⟩:=h
 obtain⟨u,rfl,t,rfl⟩:=vals1 r
 have hn:=vE
 exact len_str (by omega) ⟨.int z.length,H,I.tok _,⟨_,rfl⟩,q⟩
theorem acP:z9 X (.type "list") (fun xs H Q=>∃ p ys,xs=[.ref p]/\(SqL X.K H p ys \/ SqT X.K H p ys)/\∀ l,H l=none->Q (.ref l) (upd H l (.lst ys))):=by
 intro pins s σ H xs us Q I r h
 obtain⟨p,ys,rfl,hq,q⟩:=h
 obtain⟨u,rfl,rx⟩:=vals1 r
 cases rx
 have fin:∀ (its:List Value),Vals ys its->ys.length<=sizeLine->∀ (h':Heap) (c':Nat),(∀ b o',s.heap.get? b=some o'->h'.get? b=some o') ->
   h'.get? s.heap.objs.size=some { cls:=.type "list",dict:=none,data:=.seq its.toArray c',slots:=#[] }->EP X pins σ Q (.ref s.heap.objs.size) { s with heap:=h' }:=fun its r' hz h' c' kp e =>
  ⟨.ref s.heap.objs.size,_,I.laid (t':=s.toks) kp (apI _) (show ObjOk X.prog X.w _ h' _ (.lst ys) from⟨hz,its,c',r',e⟩),rfl,q _ (I.hok.fresh (apI _))⟩
 rcases hq with hq | hq
 ·obtain⟨its,r',pl,hz⟩:=I.list hq
  have hlen:=r'.length
  obtain⟨o,ho,hc,n,hd⟩:=pl.isList
  exact call_list_seq p (.inl rfl) ho hc hd (fun h' c' kp e=>fin its r' hz h' c' kp e) (by simp only [apV] <;> omega)
 ·obtain⟨its,r',pl,hz⟩:=I.tuple hq
  have hlen:=r'.length
  obtain⟨o,ho,hc,n,hd⟩:=pl
  exact call_list_seq p (.inr rfl) ho hc hd (fun h' c' kp e=>fin its r' hz h' c' kp e) (by simp only [apV] <;> omega)
theorem abK:z9 X (.type "tuple") (fun xs H Q=>∃ p ys,xs=[.ref p]/\((SqL X.K H p ys/\∀ l,H l=none->Q (.ref l) (upd H l (.tup ys))) \/ (SqT X.K H p ys/\Q (.ref p) H))):=by
 intro pins s σ H xs us Q I r h
 obtain⟨p,ys,rfl,h⟩:=h
 obtain⟨u,rfl,rx⟩:=vals1 r
 cases rx
 rcases h with⟨hq,q⟩ | ⟨hq,q⟩
 ·obtain⟨its,r',pl,hz⟩:=I.list hq
  have hlen:=r'.length
  refine call_tuple_list pl.isList (fun h' kp=>?_) (by simp only [apV] <;> omega)
  have I1:Inv X pins σ H { s with heap:=h' }:=I.kept (t':=s.toks) kp
  have I2:Inv X pins σ (upd H h'.objs.size (.tup ys)) { s with heap:=h'.push { cls:=.type "tuple",data:=.seq its.toArray } } :=
   I1.laid (t':=s.toks) (fun b o e=>apH _ e) (apI _) (show ObjOk X.prog X.w _ _ _ (.tup ys) from⟨hz,its,r',IsTup.new _ _⟩)
  exact⟨.ref h'.objs.size,_,I2,rfl,q _ (I1.hok.fresh (apI _))⟩
 ·obtain⟨its,r',pl,hz⟩:=I.tuple hq
  exact call_tuple_same pl ⟨.ref p,H,I,rfl,q⟩
noncomputable def tyV (K:apD) (T:String) (x:V) (H:Hp):Prop:=match x with
 | .str _=>T="str"
 | .int _=>T="int"
 | .ref p=>(T="list"/\∃ xs,SqL K H p xs) \/ (T="tuple"/\∃ o,K.lookup p=some o/\o.cls=.type "tuple"/\o.dict=none) \/
   (T="dict"/\((∃ kvs,H p=some (.dK kvs)) \/ ∃ kvs,H p=some (.dT kvs))) \/ (T="set"/\∃ S n,H p=some (.set S n))
 | _=>False
theorem am9 {pins:List (Addr×Obj)} {σ:St} {H:Hp} {s:Shared} {T:String} {x:V} {v:Value} (I:Inv X pins σ H s) (r:RelV x v) (ty:tyV X.K T x H) :
  s.TypeIs v T/\∀ a,v=.ref a->∃ ob,s.heap.get? a=some ob/\ob.dict=none:=by
 cases x with
 | str z =>
  obtain⟨t,rfl⟩:=r
  cases (show T="str" from ty)
  exact⟨typeIs_str s z t,fun _ e=>nomatch e⟩
 | int i =>
  obtain⟨t,rfl⟩:=r
  cases (show T="int" from ty)
  exact⟨typeIs_int s i t,fun _ e=>nomatch e⟩
 | ref p =>
  cases r
  rcases ty with⟨rfl,xs,hq⟩ | ⟨rfl,o,hk,hc,hd⟩ | ⟨rfl,hk⟩ | ⟨rfl,S,n,hk⟩
  ·obtain⟨its,_,pl,_⟩:=I.list hq
   refine⟨pl.isList.typeIs,fun a e=>?_⟩
   cases e
   obtain⟨o,n,e,c,hd,_⟩:=pl
   exact⟨o,e,hd⟩
  ·refine⟨⟨o,I.kIn p o hk,hc⟩,fun a e=>?_⟩
   cases e
   exact⟨o,I.kIn _ o hk,hd⟩
  ·have z:∃ o,s.heap.get? p=some o/\o.ExactDict:=by
    rcases hk with⟨kvs,hk⟩ | ⟨kvs,hk⟩
    ·obtain⟨_,_,_,_,o,_,_,e,ex,_⟩:=I.hok p _ hk
     exact⟨o,e,ex⟩
    ·obtain⟨_,_,_,_,o,_,_,e,ex,_⟩:=I.hok p _ hk
     exact⟨o,e,ex⟩
   obtain⟨o,e,ex⟩:=z
   refine⟨⟨o,e,ex.1⟩,fun a e2=>?_⟩
   cases e2
   exact⟨o,e,ex.2.1⟩
  ·obtain⟨o,_,_,_,e,ex,_⟩:=I.hok p _ hk
   refine⟨⟨o,e,ex.1⟩,fun a e2=>?_⟩
   cases e2
   exact⟨o,e,ex.2.1⟩
 | _=>exact aqM ty
noncomputable def tBM (K:apD) (T:String) (r:V->List V->Hp->VK->Prop) (to:TE) (t:TA):TE:=fun σ H Q=>to σ H fun x H1=>tyV K T x H1/\t σ H1 fun xs H2=>r x xs H2 Q
variable {o e:Expr} {es:List Expr} {to:TE} {t:TA} {name:Str} {apos cpos:Pos} {T id:String} {r:V->List V->Hp->VK->Prop}
theorem qS (pa:PlainAttrs T) (slot:Slot T name id) (hty:typeOf (.builtin id)=pure (.type "method_descriptor")) (hm:MtR X id r) (ho:PE X o to) (ha:PA X (e :: es) t)
  (hbase:attributeBase o name X.env (eval o X.env)=eval o X.env:=by rfl)
  (hfew:((backTo cpos (starEach (e :: es) X.env)).all (fun x=>!x.1) && (backToKw cpos (keywordEach [] X.env)).all (fun x=>x.1.isSome)
   && decide ((e :: es).length+([]:List Keyword).length+(if ([]:List Keyword).isEmpty then 0 else 1)<30))=true:=by rfl)
  (hline:(apos.endLine == cpos.line)=true:=by rfl) (hs:starEach (e :: es) X.env=(false,eval e X.env) :: starEach es X.env:=by rfl) (hplain:(backTo cpos (starEach es X.env)).any (·.1)=false:=by rfl) :
  PE X (.Call (.Attribute o name apos) (e :: es) [] cpos) (tBM X.K T r to t):=by
 intro pins s σ H Q I h
 refine wpAny_Call_method_late hbase hfew hline rfl (thn (ho pins s σ H _ I h) fun v s1 ⟨x,H1,I1,r1,ty,q1⟩=>?_)
 obtain⟨h1,h2⟩:=am9 I1 r1 ty
 refine⟨T,id,pa,slot,hty,h1,h2,?_⟩
 have hA:=ha cpos pins s1 σ H1 _ I1 q1
 rw [hs] at hA ⊢
 refine ath (by show (false || (backTo cpos (starEach es X.env)).any (·.1))=false;rw [hplain] <;> rfl) (atF ?_)
 exact thn hA fun us s2 ⟨vs,H2,I2,r2,q2⟩=>hm pins s2 σ H2 x vs v us Q I2 r1 r2 q2
/- xs.append(e),list.index on a module's tuple .. are MtR facts of 06m -/
end
noncomputable def MtM (X:Cx) (id:String) (r:V->List V->Hp->VK->Prop):Prop :=
 ∀ (pins:List (Addr×Obj)) (s:Shared) (σ:St) (H:Hp) (x:V) (xs:List V) (v:Value) (us:List Value) (Q:VK),Inv X pins σ H s->RelV x v->Vals xs us->r x xs H Q ->
  wpAny (model X.prog X.w) X.A (call (.builtin id) (v :: us)) (EP X pins σ Q) X.xe s
theorem Vals.one:∀ {x:V} {us:List Value},Vals [x] us->∃ u,us=[u]/\RelV x u
 | _,_,.cons r .nil=>⟨_,rfl,r⟩
theorem Vals.reverse {xs:List V} {us:List Value} (h:Vals xs us):Vals xs.reverse us.reverse:=by
 induction h with
 | nil=>exact .nil
 | cons r t ih=>rw [aq8,aq8];exact Vals.append ih (.cons r .nil)
section
variable {X:Cx} {pins:List (Addr×Obj)} {σ:St} {H:Hp} {s:Shared} {l b:Addr} {xs ys zs:List V}
theorem Inv.lset {its its':List Value} {n:Nat} {f:Array Value->Array Value} {t':Nat} (I:Inv X pins σ H s) (hH:H l=some (.lst xs))
  (e:s.heap.get? l=some { cls:=.type "list",data:=.seq its.toArray n }) (hf:f its.toArray=its'.toArray) (hv:Vals ys its') (hz:ys.length<=sizeLine) :
  Inv X pins σ (upd H l (.lst ys)) { s with heap:=s.heap.update l (arS f),toks:=t' }:=by
 have q:=PySem.IsL.update e f
 rw [hf] at q
 refine I.write (x:=l) (e:=l) (by rw [hH];exact trivial) (.inl rfl) (fun b' u hb hu=>(aqt s.heap (arS f) (aqP hb)).trans hu) ⟨_,q⟩ ?_
 exact⟨hz,its',_,hv,q⟩
theorem Inv.lnew {its:List Value} {t':Nat} (I:Inv X pins σ H s) (hv:Vals ys its) (hz:ys.length<=sizeLine) :
  Inv X pins σ (upd H s.heap.objs.size (.lst ys)) { s with heap:=s.heap.push { cls:=.type "list",data:=.seq its.toArray },toks:=t' } :=
 I.laid (fun _ _ q=>apH _ q) (apI _) ⟨hz,its,0,hv,ap5 _ rfl⟩
theorem Inv.fresh (I:Inv X pins σ H s):H s.heap.objs.size=none:=I.hok.fresh (apI _)
theorem Inv.lstM (I:Inv X pins σ H s) (hH:H l=some (.lst xs)):xs.length<=sizeLine/\∃ (its:List Value) (n:Nat),Vals xs its/\xs.length=its.length/\s.heap.get? l=some { cls:=.type "list",data:=.seq its.toArray n }:=by
 obtain⟨z,its,n,r,e⟩:=I.hok l _ hH
 exact⟨z,its,n,r,r.length,e⟩
end
section
variable {X:Cx}
noncomputable def vO:V->List V->Hp->VK->Prop:=fun x vs H Q=>∃ l xs y,x=.ref l/\vs=[y]/\H l=some (.lst xs)/\xs.length<sizeLine/\Q .non (upd H l (.lst (xs++[y])))
theorem ja:MtM X "list.append" vO:=by
 intro pins s σ H x vs v us Q I rx rv h
 obtain⟨l,xs,y,rfl,rfl,hH,hz,q⟩:=h
 cases rx
 obtain⟨u,rfl,ru⟩:=rv.one
 obtain⟨z,its,n,r,hl,e⟩:=I.lstM hH
 refine call_meets F.slot_list_append ⟨_,e,rfl⟩ atV (atG _ _) (PySem.list_append l its.toArray n u (by rw [apV];omega)) ⟨e,?_⟩
 refine⟨.non,_,I.lset (its':=its++[u]) hH e (by simp) (r.append (.cons ru .nil)) ?_,rfl,q⟩
 rw [apX,aqw]
 omega
end
end L2
namespace Att
open PySem PySem.W PySem.Calls PyProof.Rows
theorem aaM {P:Params} {h:Heap}:∀ (ns:List Int) (vs:List Value),WellAll P h vs (ns.map WData.int)->IntsAre vs ns:=by
 intro ns
 induction ns with
 | nil =>
  intro vs w
  rw [asG] at w
  cases w
  exact .nil
 | cons n ns ih =>
  intro vs w
  rw [apZ] at w
  cases w with
  | cons a b =>
   cases a
   exact .cons _ _ (ih _ b)
theorem ahM {l:OpenLaw} {n:Nat} (hn:l.most=some n) {P:Params} {h:Heap} {args:List WData} {vals:List Value}
  (hpre:l.row.toRowW.claim.pre args=true) (hwl:WellAll P h vals args) :
  ∃ a vs ns,vals=[Value.ref a]/\args=[WData.list (ns.map WData.int)]/\h.get? a=some { cls:=.type "list",data:=.seq vs.toArray }/\IntsAre vs ns/\ns.length<=n:=by
 have hsh:WShape.hasAll [] args [.list .int]=true:=(pre_splitW hpre).1
 have hc:l.pre.holds [] { args:=args }=true:=(pre_splitW hpre).2
 obtain⟨d,r,rfl,h1,h2⟩:=hasAllW_cons hsh
 obtain rfl:=hasAllW_nil h2
 obtain⟨xs,rfl,h3⟩:=hasW_list h1
 obtain⟨ns,rfl⟩:=items_int h3
 have hlen:ns.length<=n:=by
  unfold OpenLaw.pre at hc
  have h4:(WTm.not (.lt (.lit (.int (n:Int))) (.len (.arg 0)))).holds [] { args:=[.list (ns.map .int)] }=true:=by
   have h4:=(holds_andW hc).1
   rw [hn] at h4
   exact h4
  have h5:=condW_of h4 (w_not (w_lt w_lit (w_len_list (w_arg rfl))))
  rw [apC] at h5
  refine Nat.le_of_not_lt fun q=>?_
  have q':(n:Int)<((ns.length:Nat):Int):=by omega
  first
   | (rw [decide_eq_true q'] at h5;exact absurd h5 (by decide))
   | (simp at h5;omega)
 cases hwl with
 | cons w1 w2 =>
  cases w2
  cases w1 with
  | list ho hall=>exact⟨_,_,ns,rfl,rfl,ho,aaM ns _ hall,hlen⟩
theorem ahN (l:OpenLaw) (args:List WData):l.row.toRowW.claim.post args (.bool true) args=true :=
 postW_of (r:=l.row.toRowW) (X:=(true == true))
  (show WShape.has [] (.bool true) .bool=true by first | rfl | decide | simp [WShape.has,WShape.arms,WShape.armsAll])
  (show (WTm.eq .res (.lit (.bool true))).value [] { args:=args,res:=some (.bool true),after:=args }=some (.bool (true == true)) from w_eq_bool (w_res rfl) w_lit) rfl
theorem attach_call {l:OpenLaw} {n:Nat} {q:Program} {loose:List Str} {XP:(Str->Option Value)->Heap->Prop} {YP:World->Heap->Prop} {d:DefRec}
  (hn:l.most=some n) (hdf:d.params.defaults=[])
  (call:∀ (w:World) (s₀ s₁:Shared) (mg mb:Str->Option Value) (fa:Addr) (o:Obj) (pm cd doc:Value) (a:Addr) (vs:List Value) (ns:List Int),
   Ground q loose [] XP w s₀ mg mb s₁.heap->YP w s₁.heap ->
   s₁.heap.get? fa=some o->o.data=.func (docDef d.name d.params d.body d.scope pm cd doc)->s₁.heap.CodeRec cd d.name->mg d.name=some (.ref fa) ->
   s₁.heap.get? a=some { cls:=.type "list",data:=.seq vs.toArray }->IntsAre vs ns->ns.length<=n->s₁.gens=#[] ->
   codeAny (model l.prog w) callerA (.call (.ref fa) ⟨[.ref a],[]⟩) (fun r s'=>r=.ok (.ret (.bool true))/\OldK s₁.heap s'.heap/\s'.os=s₁.os/\AllBare s'.gens) s₁) :
  WalkO q loose XP YP l.row.toRowW d [] (fun f vs=>PySem.call f vs):=by
 intro w s₀ s₁ mg mb G Y fa o pm cd doc dV kV ho hd hcd hD hmg hg args vals as hpre hlay hrd hwl hlo
 obtain rfl:dV=.none:=Dflts.none hD hdf
 obtain rfl:kV=.none:=Dflts.noKw hD
 obtain⟨a,vs,ns,rfl,rfl,hobj,hints,hlen⟩:=ahM hn hpre hwl
 refine enter_call (codeAny_mono (call w s₀ s₁ mg mb fa o pm cd doc a vs ns G Y ho (fd_plain hd) hcd hmg hobj hints hlen hg) fun r s' hq=>?_)
 obtain⟨rfl,h2,h3,h4⟩:=hq
 exact⟨.inl ⟨.bool true,.bool true,[],rfl,fun _=>rfl,.bool true,ahN l _,fun _=>⟨List.Pairwise.nil,fun _ hm=>(nomatch hm)⟩⟩,h2,h3,h4⟩
section
variable {prog:Program} {w:World} {A:Around} {E:Value->Shared->Prop} {s:Shared} {K:Frag}
noncomputable def abc (h:Heap):Heap:={ h with objs:=#[] }
theorem vF (h:Heap) (b:Addr):(abc h).get? b=none:=by
 cases e:(abc h).get? b with
 | none=>rfl
 | some o=>exact absurd (apU e) (aqR _)
noncomputable def ledger (h:Heap) (L d:Addr):List (Addr×Obj):=(ap0 h.objs.size).filterMap fun a=>if a=L \/ a=d then none else (h.get? a).map fun o=>(a,o)
theorem mem_ledger {h:Heap} {L d a:Addr} {o:Obj}:(a,o)∈ledger h L d↔a≠L/\a≠d/\h.get? a=some o:=by
 unfold ledger
 rw [arF]
 constructor
 ·rintro⟨b,_,e⟩
  split at e
  ·cases e
  ·rename_i hb
   obtain⟨o',ho,e'⟩:=Option.map_eq_some_iff.mp e
   cases e'
   exact⟨fun q=>hb (.inl q),fun q=>hb (.inr q),ho⟩
 ·rintro⟨n1,n2,ho⟩
  refine⟨a,aqa.mpr (apU ho),?_⟩
  rw [if_neg (show ¬ (a=L \/ a=d) from fun q=>q.elim n1 n2),ho] <;> rfl
theorem ad1 {h:Heap} {L d:Addr} {od:Obj} (hne:d≠L) (ho:h.get? d=some od):News (abc h) L h ([]++(d,od) :: ledger h L d):=by
 rintro⟨a,o⟩ hp
 rcases apK.mp hp with e | hp
 ·cases e
  exact⟨ho,hne,vF _ _⟩
 ·obtain⟨n1,n2,e⟩:=mem_ledger.mp hp
  exact⟨e,n1,vF _ _⟩
theorem ana {h:Heap} {L:Addr} {m:Str->Option Value} (n:h.Ns L m):Fr (abc h) L h m :=
 ⟨n,fun b o e=>(by rw [vF] at e;cases e),ap9 _⟩
theorem ab5 {x C dx L:Addr} {ox:Obj} {m:Str->Option Value} {es es':List DictEntry} {n n':Nat} {name:Str} {v:Value} {Q:Unit->Shared->Prop}
  (X:K.In s.heap) (I:PySem.W.InstAt s.heap x ox C (some (dictOf es n))) (hd:ox.dict=some dx) (hL:s.heap.Ns L m) (hne:dx≠L)
  (hs:findIn K (.ref C) "__setattr__"=some (some (.builtin "object.__setattr__"))) (hp:plainOver K C=true) (ht:takerIn K C name=some none) (hh:hasDictIn K C=true) (hl:(getL name es).isSome=true)
  (e:(putL name (PyData.keyHash w.params name) (.str name (s.toks+1)) v es,putN name es n)=(es',n')) (hz:es'.length<=1000)
  (h:∀ h':Heap,h'.Ns L m->h'.get? dx=some (dictOf es' n')->(∀ b o,b≠dx->b≠L->s.heap.get? b=some o->h'.get? b=some o)->Q () { s with heap:=h',toks:=s.toks+2 }) :
  wpAny (model prog w) A (setAttr (.ref x) name v) Q E s:=by
 obtain⟨e1,e2⟩:=Prod.mk.inj e
 have hdx:s.heap.get? dx=some (dictOf es n):=by
  have:=I.dict
  rw [hd] at this
  exact this
 refine set_plain X I hs (osa_dict (s:={ s with toks:=s.toks+1 }) (h₀:=abc s.heap) (L:=L) (m:=m) (od:=dictOf es n) (od':=dictOf es' n') (es:=es') (n:=n') (pre:=[]) (post:=ledger s.heap L dx)
  (ana hL) (ad1 hne hdx) X I hd hp ht hh hl (fun _ q=>nomatch q) (fun⟨_,_⟩ q=>(mem_ledger.mp q).2.1) (by rw [putName_dict,e1,e2]) rfl hz fun h' F' N'=>?_)
 exact h h' F'.ns (N'.get (List.Mem.head _)) fun b o n1 n2 ho=>N'.get (List.Mem.tail _ (mem_ledger.mpr ⟨n2,n1,ho⟩))
end
end Att
namespace L2
open PySem PySem.Spec PyProof.Rows
theorem ab6:∀ {vs:List Value} {ns:List Int},IntsAre vs ns->Vals (ns.map V.int) vs
 | _,_,.nil=>.nil
 | _,_,.cons n t h=>.cons ⟨t,rfl⟩ (ab6 h)
noncomputable def anb (H:Hp):Prop:=∀ b,H b=none \/ ∃ o xs,H b=some (.frz o (.lst xs))
theorem ai0 {P:Program} {w:World} {K:apD} {mg mb:Str->Option Value} {CX:CXT} {k:Nat} {fa a:Addr} {fd:FuncData} {x:Str} {sp:Sp} {s₁:Shared} {vs:List Value} {ns:List Int}
  (KX:K.In s₁.heap) (hns:s₁.heap.Ns mainGlobals mg) (hb:s₁.heap.Ns builtinsNs mb) (hbb:∀ x:Str,x ≠ "__name__"->mb x=bootBuiltins x) (hlim:s₁.heap.NoLimit) (hg:s₁.gens=#[])
  (ha:s₁.heap.get? a=some { cls:=.type "list",data:=.seq vs.toArray }) (hi:IntsAre vs ns) (hl:ns.length<=sizeLine) (hr:Room k callerA)
  (F:∀ base:Heap,K.In base->base.Ns mainGlobals mg->FnOk P w K mg base CX k fa fd [x] sp) (hbind:∀ (s:Shared) (u:Value),BindsTo s fd ⟨[u],[]⟩ [(x,u)])
  (hsp:∀ H:Hp,anb H->SqL K H a (ns.map V.int)->sp [.ref a] H (fun v _=>v=.bl true) fun _ _ _=>False)
  (hCX:∀ H e s',CX [] H s₁ (fun _ _ _=>False) e s'->False) :
  codeAny (model P w) callerA (.call (.ref fa) ⟨[.ref a],[]⟩) (fun r s'=>r=.ok (.ret (.bool true))/\OldK s₁.heap s'.heap/\s'.os=s₁.os/\AllBare s'.gens) s₁:=by
 have rv:=ab6 hi
 have lenV:=hi.length
 -- from an abstract heap in which nothing but the script may be tracked
 have core:∀ H:Hp,anb H->SqL K H a (ns.map V.int)->HOk P w H s₁.heap->(∀ b,H b≠none->b=a)->(H a≠none->K.lookup a=none) ->
   codeAny (model P w) callerA (.call (.ref fa) ⟨[.ref a],[]⟩) (fun r s'=>r=.ok (.ret (.bool true))/\OldK s₁.heap s'.heap/\s'.os=s₁.os/\AllBare s'.gens) s₁:=by
  intro H hO hS hok hA hK
  have base_of:∀ {b:Addr} {o:Obj},s₁.heap.get? b=some o->H b=none->(acA s₁.heap H).get? b=some o:=fun e n=>aiQ e n
  have noA:∀ {b:Addr} {o:Obj} {es:Array DictEntry} {ep:Nat},s₁.heap.get? b=some o->o.data=.dict es ep->H b=none:=fun {b o es ep} e d=>by
   cases q:H b with
   | none=>rfl
   | some u =>
    have e':b=a:=hA b (by rw [q];simp)
    subst e'
    rw [ha] at e;cases e
    have d':Data.seq vs.toArray _=Data.dict es ep:=d
    cases d'
  have nsK:∀ {b:Addr} {m:Str->Option Value},s₁.heap.Ns b m->(acA s₁.heap H).Ns b m:=fun {b m} ⟨o,es,ep,e,d,r⟩=>⟨o,es,ep,base_of e (noA e d),d,r⟩
  have hKb:K.In (acA s₁.heap H):=fun b o e=>base_of (KX b o e) (by
   cases q:H b with
   | none=>rfl
   | some u =>
    have e':b=a:=hA b (by rw [q];simp)
    subst e'
    rw [hK (by rw [q];simp)] at e;cases e)
  have hM:Mod K mg (acA s₁.heap H):=⟨hKb,nsK hns,⟨mb,nsK hb,hbb⟩,let⟨mc,h1,h2⟩:=hlim;⟨mc,nsK h1,h2⟩⟩
  have e0:Env0 P w K mg (acA s₁.heap H) callerA [] s₁ H:=⟨rfl,hM,fun b o e=>akY e,ars (ahE _ _),trivial,fun b hb=>absurd (show b∈([]:List Addr) from hb) (by simp),hok,.of_eq hg⟩
  refine codeAny_mono ((F _ hKb (nsK hns)).run callerA [] s₁ H ⟨[.ref a],[]⟩ [.ref a] [.ref a] _ _ hr e0 (hbind s₁ (.ref a)) (.cons rfl .nil) (hsp H hO hS)) fun r s' h=>?_
  cases r with
  | error e=>exact (hCX H e s' h).elim
  | ok fl =>
   cases fl with
   | next=>exact aqM h
   | brk=>exact aqM h
   | cont=>exact aqM h
   | ret u =>
    obtain⟨v,H',os,bare,un,hok',r',q⟩:=h
    have q':v=.bl true:=q
    subst q'
    obtain rfl:u=Value.bool true:=r'
    refine⟨rfl,OldK.of_keep fun b o e=>?_,os,bare⟩
    cases q:H b with
    | none=>exact un.keep b o e q (by intro z;exact absurd (show b∈([]:List Addr) from z) (by simp)) (by simp)
    | some u =>
     rcases hO b with z | ⟨ob,xs,z⟩
     ·rw [q] at z;cases z
     ·have z2:=un.frzs b ob _ z
      obtain⟨e1,_⟩:=hok b _ z
      obtain⟨e2,_⟩:=hok' b _ z2
      rw [e] at e1;cases e1
      exact e2
 cases hk:K.lookup a with
 | some o =>
  -- the script is one of the module's own objects
  have e:=KX a o hk
  rw [ha] at e
  cases e
  refine core (fun _=>none) (fun _=>.inl rfl) (.inr ⟨_,vs.toArray,_,hk,rfl,rfl,rfl,by rw [apV,lenV];exact hl,by simpa using rv⟩) (fun b u z=>by have z':(none:Option HO)=some u:=z;cases z') (fun b z=>absurd rfl z) fun z=>absurd rfl z
 | none =>
  refine core (fun b=>if b=a then some (.frz { cls:=.type "list",data:=.seq vs.toArray } (.lst (ns.map V.int))) else none) (fun b=>?_) (.inl (.inr ⟨{ cls:=.type "list",data:=.seq vs.toArray },if_pos rfl⟩)) (fun b u z=>?_) (fun b z=>?_) fun _=>hk
  ·by_cases hb:b=a
   ·exact .inr ⟨_,_,if_pos hb⟩
   ·exact .inl (if_neg hb)
  ·by_cases hb:b=a
   ·have z':=(if_pos hb).symm.trans z
    cases z'
    subst hb
    exact⟨ha,by rw [apC];exact hl,vs,_,rv,ha⟩
   ·have z':=(if_neg hb).symm.trans z
    cases z'
  ·by_cases hb:b=a
   ·exact hb
   ·exact absurd (if_neg hb) z
noncomputable abbrev KOf {K:apD} {h:Heap} (_:K.In h):apD:=K
theorem walk_of {l:PySem.W.OpenLaw} {n k:Nat} {q:Program} {loose:List Str} {XP:(Str->Option Value)->Heap->Prop} {YP:World->Heap->Prop} {d:DefRec} {K:Params->apD} {CX:World->CXT} {sp:World->Sp} {x:Str}
  (hn:l.most=some n) (hn2:n<=sizeLine) (hdf:d.params.defaults=[]) (hr:Room k callerA)
  (hY:∀ (w:World) (h:Heap),YP w h->(K w.params).In h)
  (F:∀ (w:World) (mg:Str->Option Value) (fa:Addr) (h:Heap),(K w.params).In h->h.Ns mainGlobals mg->mg d.name=some (.ref fa) ->
   ∃ fd:FuncData,(∀ (s:Shared) (u:Value),BindsTo s fd ⟨[u],[]⟩ [(x,u)]) /\
    ∀ base:Heap,(K w.params).In base->base.Ns mainGlobals mg->FnOk l.prog w (K w.params) mg base (CX w) k fa fd [x] (sp w))
  (hsp:∀ (w:World) (H:Hp) (a:Addr) (ns:List Int),ns.length<=n->anb H->SqL (K w.params) H a (ns.map V.int)->sp w [.ref a] H (fun v _=>v=.bl true) fun _ _ _=>False)
  (hCX:∀ (w:World) (H:Hp) (s:Shared) (e:Value) (s':Shared),CX w [] H s (fun _ _ _=>False) e s'->False) :
  PySem.W.WalkO q loose XP YP l.row.toRowW d [] (fun f vs=>PySem.call f vs):=by
 refine Att.attach_call hn hdf fun w s₀ s₁ mg mb fa o pm cd doc a vs ns G Y ho hd hcd hmg hobj hints hlen hg=>?_
 have KX:=hY w _ Y
 obtain⟨fd,hb,hF⟩:=F w mg fa _ KX G.T.g hmg
 exact ai0 KX G.T.g G.T.b G.T.builtins G.T.nolimit hg hobj hints (ap1 hlen hn2) hr hF hb (fun H hO hS=>hsp w H a ns hlen hO hS) fun H e s'=>hCX w H s₁ e s'
end L2
/- THE LAST THEOREM (shape;LID,My.* are yours):
   My.Adr: a structure of the addresses that your layer names (classes,functions);My.Txt K t: a structure (Prop) of the equations over K;
   My.txt_mk:{K} {implicit addresses ..} (e1:nsIn K mainGlobals "law"=some (some (.ref f))) (e2:K.lookup f=some ⟨oc,od,.func (fnOf "law" "law" params body scope dV kV doc pm an cdv ct),sl⟩) (e3:codeIn K cdv "law"=true) ..:∃ t,My.Txt K t
set_option maxRecDepth 100000 in
set_option maxHeartbeats 0 in
theorem PySem.Challenge.cw_LID_holds : PySem.Challenge.rw_LID.Holds := by
 w_on;o_law;k_head;(case hw=>w_witness2)
 k_fill
 refine L2.walk_of (l:=PySem.Challenge.rw_LID) (n:=63) (k:=40) (x:="script") (CX:=fun w=>..) (sp:=fun _=>My.sp_law) rfl (by decide) rfl ⟨rfl,by decide,by decide⟩ (fun w h Y=>PySem.W.kIn_of Y) ?F ?S ?C
 case F =>
  intro w mg fa h KX G hmg
  have T:∃ t,My.Txt (L2.KOf KX) t:=by
   dsimp only [L2.KOf]                          -- K must stand as «<heap const> w.params» for k_is
   refine' My.txt_mk ?e1 ?e2 ?e3 ..
   (case e1=>PySem.W.k_is)                    -- in the order: a name->its address->its object->its parts
   (case e2=>PySem.W.k_is)
   ..
  obtain⟨t,T⟩:=T
  have e0:=hmg.symm.trans (aqy KX G T.law)
  cases e0                                       -- fa is the law's own address
  exact⟨_,fun s u=>.of_eq rfl,fun base kb nb=>My.law_fn T kb nb⟩     -- if «.of_eq rfl» comes too early: refine' ⟨_,?b,fun base kb nb=>My.law_fn T kb nb⟩;exact fun s u=>.of_eq rfl
 case S=>exact fun w H a ns hl hO hS=>..
 case C=>exact ..
(the tactic k_is has no namespace: write k_is) -/
namespace L2
open PySem PySem.Spec PyProof.Rows
noncomputable def yV (s:Stmt):Arguments:=match s with
 | .FunctionDef _ a _ _ _ _ _ _ _ _=>a
 | _=>{ posonlyargs:=[],args:=[],vararg:=none,kwonlyargs:=[],kw_defaults:=[],kwarg:=none,defaults:=[] }
noncomputable def ye (s:Stmt):List Stmt:=match s with
 | .FunctionDef _ _ b _ _ _ _ _ _ _=>b
 | _=>[]
noncomputable def zf (s:Stmt):Scope:=match s with
 | .FunctionDef _ _ _ _ _ _ sc _ _ _=>sc
 | _=>{ kind:=.function,names:=[],isGenerator:=false,isCoroutine:=false }
noncomputable abbrev CX0:CXT:=fun _ _ _ _ _ _=>False
noncomputable abbrev E0:XK:=fun _ _ _=>False
theorem aoL {X:Cx}:Passes CX0 X E0:=fun _ _ _ _ _ _ _ h=>h.elim
structure Fun (K:apD) (x qual:Str) (st:Stmt) (f:Addr) (fd:FuncData):Prop where
 ex:∃ (oc:Value) (od:Option Addr) (kV doc pm:Value) (an:Option Addr) (cdv ct:Value) (osl:Array (Option Value)),
  fd=aqQ x qual (yV st) (ye st) (zf st) .none kV doc pm an cdv ct/\K.lookup f=some ⟨oc,od,.func fd,osl⟩/\ar7 K cdv qual=true
 kp:aqq K (.ref f)=true
section
variable {P:Program} {w:World} {K:apD} {mg:Str->Option Value} {base:Heap}
theorem Fun.ok {x qual:Str} {st:Stmt} {f:Addr} {fd:FuncData} {N ps:List Str} {k:Nat} {sp:Sp} (F:Fun K x qual st f fd) (S:FnScope N ps (zf st)) (len:∀ vs H Q E,sp vs H Q E->vs.length=ps.length)
  (hbody:∀ (cdv:Value) (A:Around) (outer:List Env) (s:Shared) (H:Hp) (vs:List V) (Q:VK) (E:XK),Room k (A.deeper (envOfC qual (zf st) s.heap.objs.size f cdv))->sp vs H Q E ->
   ∃ t,PSs (zH CX0 P w K mg base N qual (zf st) f cdv A outer s H E).nox (ye st) t/\t { nx:=fun _ H'=>Q .non H',rt:=Q } (start N vs) H):FnOk P w K mg base CX0 (k+1) f fd ps sp:=by
 obtain⟨oc,od,kV,doc,pm,an,cdv,ct,osl,rfl,lk,hcd⟩:=F.ex
 refine amx lk hcd S len fun A outer s H vs Q E hr hsp=>?_
 obtain⟨t,h,q⟩:=hbody cdv A outer s H vs Q E hr hsp
 exact⟨t,h.nox,q⟩
theorem Fun.binds {x qual:Str} {st:Stmt} {f:Addr} {fd:FuncData} {ps:List Str} (F:Fun K x qual st f fd)
  (h:∀ (kV doc pm:Value) (an:Option Addr) (cdv ct:Value) (us:List Value),us.length=ps.length->bindArgs (aqQ x qual (yV st) (ye st) (zf st) .none kV doc pm an cdv ct) ⟨us,[]⟩=pure (ps.zip us)):Binds K fd ps []:=by
 obtain⟨oc,od,kV,doc,pm,an,cdv,ct,osl,rfl,lk,hcd⟩:=F.ex
 exact .all (h kV doc pm an cdv ct)
theorem acQ {x qual:Str} {st:Stmt} {f:Addr} {oc:Value} {od an:Option Addr} {osl:Array (Option Value)} {kV doc pm cdv ct:Value} (l:K.lookup f=some ⟨oc,od,.func (aqQ x qual (yV st) (ye st) (zf st) .none kV doc pm an cdv ct),osl⟩)
  (c:ar7 K cdv qual=true) (k:aqq K (.ref f)=true):Fun K x qual st f (aqQ x qual (yV st) (ye st) (zf st) .none kV doc pm an cdv ct):=⟨⟨oc,od,kV,doc,pm,an,cdv,ct,osl,rfl,l,c⟩,k⟩
end
theorem zW {n:Nat} (h:n<=1000):n<sizeLine:=Nat.lt_of_le_of_lt h (by decide)
section
variable {X:Cx}
theorem pv (i:Nat) {x:Str} {pos:Pos} (hN:X.N[i]?=some x:=by rfl) (hv:Vis X.env.scope x:=by first | exact Or.inl rfl | exact Or.inr (Or.inl rfl) | exact Or.inr (Or.inr rfl)) (hd:(x == ("__debug__":Str))=false:=by decide)
  (hcd:(x == ("__classdict__":Str))=false:=by decide):PE X (.Name x pos) (yp i):=amT hN hv hd hcd
end
noncomputable def Same (H H':Hp):Prop:=∀ b o,H b=some o->H' b=some o
theorem Same.refl (H:Hp):Same H H:=fun _ _ h=>h
theorem Same.trans {H H1 H2:Hp} (a:Same H H1) (b:Same H1 H2):Same H H2:=fun c o h=>b c o (a c o h)
theorem Same.free {H H':Hp} (e:Same H H') {l:Addr} (h:H' l=Option.none):H l=Option.none:=by
 cases q:H l with
 | none=>rfl
 | some o =>
  rw [e l o q] at h
  cases h
theorem Same.seq {K:apD} {H H':Hp} {a:Addr} {xs:List V} (e:Same H H') (h:SqL K H a xs):SqL K H' a xs:=by
 rcases h with (h | ⟨o,h⟩) | h
 ·exact .inl (.inl (e _ _ h))
 ·exact .inl (.inr ⟨o,e _ _ h⟩)
 ·exact .inr h
noncomputable def yb (env:Env):List (Str×NameKind)->List (Str×Addr)->List (Str×Addr)
 | [],acc=>acc
 | (x,k) :: r,acc=>if k == .free then yb env r ((x,(env.cells.lookup x).getD 0) :: acc) else yb env r acc
theorem afy {sc:Scope} {env:Env} (h:∀ x,(x,NameKind.free)∈sc.names->∃ c,env.cells.lookup x=some c):closureFor sc env=pure (yb env sc.names []):=by
 have key:∀ (names:List (Str×NameKind)) (acc:List (Str×Addr)),(∀ x,(x,NameKind.free)∈names->∃ c,env.cells.lookup x=some c) ->
   (forIn names acc fun (x:Str×NameKind) (cs:List (Str×Addr))=>if (x.2 == NameKind.free)=true then (do let c <- cellOf env x.1;pure (ForInStep.yield ((x.1,c) :: cs))) else pure (ForInStep.yield cs))=(pure (yb env names acc):Sem (List (Str×Addr))):=by
  intro names
  induction names with
  | nil=>intro acc _;rfl
  | cons p r ih =>
   intro acc hh
   obtain⟨x,k⟩:=p
   rw [ar3]
   unfold yb
   by_cases hk:(k == NameKind.free)=true
   ·have hk':k=.free:=by simpa using hk
    subst hk'
    obtain⟨c,hc⟩:=hh x apJ
    simp only [beq_self_eq_true,if_true]
    rw [<-ih _ fun y hy=>hh y (apG _ hy)]
    have:cellOf env x=pure c:=by unfold cellOf;rw [hc]
    rw [this,hc]
    rfl
   ·simp only [hk,aqk,if_false]
    rw [<-ih _ fun y hy=>hh y (apG _ hy)]
    rfl
 simp only [closureFor]
 have q:=key sc.names [] h
 refine Eq.trans ?_ (Eq.trans (congrArg (fun z=>z >>= fun r=>pure r) q) ?_)
 ·rfl
 ·rfl
theorem qy {env:Env}:∀ {names:List (Str×NameKind)} {acc:List (Str×Addr)} {p:Str×Addr},p∈yb env names acc->p∈acc \/ ((p.1,NameKind.free)∈names/\p.2=(env.cells.lookup p.1).getD 0)
 | [],acc,p,h=>.inl h
 | (x,k) :: r,acc,p,h=>by
  unfold yb at h
  split at h
  ·rename_i hk
   have hk':k=.free:=by simpa using hk
   subst hk'
   rcases qy h with q | ⟨q,e⟩
   ·rcases apK.mp q with q | q
    ·subst q;exact .inr ⟨apJ,rfl⟩
    ·exact .inl q
   ·exact .inr ⟨apG _ q,e⟩
  ·rcases qy h with q | ⟨q,e⟩
   ·exact .inl q
   ·exact .inr ⟨apG _ q,e⟩
theorem qN {α:Type}:∀ {l:List (Str×α)} {x:Str} {v:α},(x,v)∈l->∃ u,l.lookup x=some u
 | (y,u) :: r,x,v,h=>by
  rw [aqj]
  cases hb:x == y with
  | true=>exact⟨u,rfl⟩
  | false =>
   rcases apK.mp h with e | h
   ·have:x=y:=congrArg Prod.fst e
    subst this
    simp at hb
   ·exact qN h
theorem vG {env:Env}:∀ {names:List (Str×NameKind)} {acc:List (Str×Addr)} {x:Str},(x,NameKind.free)∈names->(x,(env.cells.lookup x).getD 0)∈yb env names acc
 | (y,k) :: r,acc,x,h=>by
  have mono:∀ (names:List (Str×NameKind)) (acc:List (Str×Addr)) (p:Str×Addr),p∈acc->p∈yb env names acc:=by
   intro names
   induction names with
   | nil=>intro acc p hp;exact hp
   | cons q r ih =>
    intro acc p hp
    obtain⟨a,b⟩:=q
    unfold yb
    split
    ·exact ih _ _ (apG _ hp)
    ·exact ih _ _ hp
  unfold yb
  rcases apK.mp h with e | h
  ·cases e
   simp only [beq_self_eq_true,if_true]
   exact mono _ _ _ apJ
  ·split
   ·exact vG h
   ·exact vG h
theorem vy {env:Env} {names:List (Str×NameKind)} {x:Str} {c:Addr} (h:∀ x,(x,NameKind.free)∈names->∃ c,env.cells.lookup x=some c) (e:(yb env names []).lookup x=some c):env.cells.lookup x=some c/\(x,NameKind.free)∈names:=by
 rcases qy (mem_of_lookup e) with q | ⟨q,e'⟩
 ·cases q
 ·obtain⟨c',hc⟩:=h _ q
  dsimp only at hc e'
  rw [hc] at e'
  exact⟨by rw [hc];exact congrArg some e'.symm,q⟩
theorem aaz {env:Env} {names:List (Str×NameKind)} {x:Str} {c:Addr} (h:∀ x,(x,NameKind.free)∈names->∃ c,env.cells.lookup x=some c) (hx:(x,NameKind.free)∈names) (e:env.cells.lookup x=some c):(yb env names []).lookup x=some c:=by
 obtain⟨u,hu⟩:=qN (vG (env:=env) (acc:=[]) hx)
 have:=(vy h hu).1
 rw [this] at e
 rw [hu,e]
theorem jb:∀ {names:List (Str×NameKind)} {n:Nat} {acc:List (Str×Addr)} {x:Str} {c:Addr},(cellsFrom n names acc).lookup x=some c->(n<=c/\c<n+names.length/\(x,NameKind.cell)∈names) \/ (acc.lookup x=some c/\(x,NameKind.cell)∉names)
 | [],n,acc,x,c,h=>.inr ⟨h,by simp⟩
 | (y,k) :: r,n,acc,x,c,h=>by
  unfold cellsFrom at h
  split at h
  ·rename_i hk
   have hk':k=.cell:=by simpa using hk
   subst hk'
   rcases jb h with⟨q1,q2,q3⟩ | ⟨q1,q2⟩
   ·exact .inl ⟨ar8 q1,ap2 q2 (by rw [apT];omega),apG _ q3⟩
   ·rw [aqj] at q1
    cases hb:x == y with
    | true =>
     rw [hb] at q1
     cases q1
     have:x=y:=by simpa using hb
     subst this
     exact .inl ⟨apI _,by rw [apT];exact Nat.lt_add_of_pos_right (asH _),apJ⟩
    | false =>
     rw [hb] at q1
     refine .inr ⟨q1,fun z=>?_⟩
     rcases apK.mp z with e | z
     ·have:x=y:=congrArg Prod.fst e
      subst this
      simp at hb
     ·exact q2 z
  ·rename_i hk
   rcases jb h with⟨q1,q2,q3⟩ | ⟨q1,q2⟩
   ·exact .inl ⟨q1,ap2 q2 (by rw [apT];omega),apG _ q3⟩
   ·refine .inr ⟨q1,fun z=>?_⟩
    rcases apK.mp z with e | z
    ·have:k=.cell:=(congrArg Prod.snd e).symm
     subst this
     simp at hk
    ·exact q2 z
theorem jr:∀ (names:List (Str×NameKind)) (n:Nat) (acc:List (Str×Addr)),(acc.Pairwise fun x y=>x.2≠y.2)->(∀ p∈acc,p.2<n)->(cellsFrom n names acc).Pairwise fun x y=>x.2≠y.2
 | [],n,acc,h,_=>h
 | (y,k) :: r,n,acc,h,hl=>by
  unfold cellsFrom
  split
  ·refine jr r (n+1) _ (List.pairwise_cons.mpr ⟨fun p hp=>?_,h⟩) fun p hp=>?_
   ·exact asF (hl p hp)
   ·rcases apK.mp hp with e | hp
    ·subst e;exact ata _
    ·exact aq9 (hl p hp)
  ·exact jr r n acc h hl
theorem abL {names:List (Str×NameKind)} {n:Nat} {acc:List (Str×Addr)} {x:Str} (h:names.lookup x=some .cell):∃ c,(cellsFrom n names acc).lookup x=some c :=
 aq5.mp (arG names n acc (.inl h))
theorem vz {names:List (Str×NameKind)} {n:Nat} {acc:List (Str×Addr)} {x:Str} (h:(acc.lookup x).isSome=true):∃ c,(cellsFrom n names acc).lookup x=some c :=
 aq5.mp (arG names n acc (.inr h))
theorem qd:∀ (names:List (Str×NameKind)) (h:Heap) (acc:List (Str×Addr)) (x:Str) (c:Addr),(cellsFrom h.objs.size names acc).lookup x=some c->h.objs.size<=c->(∀ p∈acc,p.2<h.objs.size)->(pushCells h names).IsCell c none
 | [],h,acc,x,c,e,hc,hl=>absurd (hl _ (mem_of_lookup e)) (ati.mpr hc)
 | (y,k) :: r,h,acc,x,c,e,hc,hl=>by
  unfold cellsFrom at e
  unfold pushCells
  split at e
  ·rename_i hk
   rw [if_pos hk]
   by_cases hcc:c=h.objs.size
   ·subst hcc
    exact⟨_,pushCells_keeps _ _ _ _ (ap5 _ rfl),rfl⟩
   ·have es:(h.push { cls:=.type "cell",data:=.cell none }).objs.size=h.objs.size+1:=ar9 ..
    refine qd r _ ((y,h.objs.size) :: acc) x c (by rw [es];exact e) (by rw [es];exact Nat.lt_of_le_of_ne hc (aqP hcc)) fun p hp=>?_
    rw [es]
    rcases apK.mp hp with e | hp
    ·subst e;exact ata _
    ·exact aq9 (hl p hp)
  ·rename_i hk
   rw [if_neg hk]
   exact qd r h acc x c e hc hl
noncomputable def zi (X:Cx) (sc:Scope) (N:List Str) (s₀:Shared) (H₀:Hp) (ex:List Addr) (pn:List (Addr×Obj)):Cx :=
 { X with N:=N,s₀:=s₀,H₀:=H₀,env:=compEnvC sc (cellsFrom (s₀.heap.objs.size+1) sc.names (yb X.env sc.names [])) s₀.heap.objs.size X.env,
          outer:=X.stack,ex:=ex,fn:=fun x=>decide (sc.names.lookup x=some .cell),pn:=pn,xe:=fun _ _=>False }
structure CompScope (NO:List Str) (scO:Scope) (N:List Str) (sc:Scope) (own:Nat) (fr:List Nat):Prop where
 kind:sc.kind=.function
 nd:N.Nodup
 snd:(sc.names.map (·.1)).Nodup
 free:∀ p∈sc.names,p.2=.free->scO.names.lookup p.1=some .cell \/ scO.names.lookup p.1=some .free
 frn:∀ p∈(N.drop own).zip fr,NO[p.2]?=some p.1/\sc.names.lookup p.1=some .free
 len:N.length=own+fr.length
noncomputable def jc (own:Nat) (fr:List Nat) (σ:St):St:=arR own none++fr.map fun j=>(σ[j]?).getD none
theorem yi {α:Type}:∀ {l:List (Str×α)} {x:Str} {k:α},(l.map (·.1)).Nodup->(x,k)∈l->l.lookup x=some k
 | (y,u) :: r,x,k,nd,h=>by
  rw [apZ] at nd
  obtain⟨h1,h2⟩:=aqp.mp nd
  rw [aqj]
  rcases apK.mp h with e | h'
  ·cases e;simp
  ·have:x≠y:=by
    intro e
    subst e
    exact h1 (ap3.mpr ⟨(x,k),h',rfl⟩)
   rw [beq_eq_false_iff_ne.mpr this]
   exact yi h2 h'
theorem jE {env:Env}:∀ {names:List (Str×NameKind)} {x:Str} {k:NameKind},names.lookup x=some k ->
  (names.map fun (n,k)=>if (k == NameKind.free && env.scope.kind == .function && env.kindOf n == some .cell) then (n,NameKind.cell) else (n,k)).lookup x=some (if (k == NameKind.free && env.scope.kind == .function && env.kindOf x == some .cell) then .cell else k)
 | (n,k') :: r,x,k,h=>by
  have ih:=@jE env r x k
  show List.lookup x ((if (k' == NameKind.free && env.scope.kind == .function && env.kindOf n == some .cell)=true then (n,NameKind.cell) else (n,k')) :: _)=_
  cases hx:x == n with
  | true =>
   have:x=n:=by simpa using hx
   subst this
   simp only [aqj,hx] at h
   cases h
   split <;> simp [aqj]
  | false =>
   simp only [aqj,hx] at h
   split
   ·simp only [aqj,hx];exact ih h
   ·simp only [aqj,hx];exact ih h
theorem jt {env:Env}:∀ {names:List (Str×NameKind)} {x:Str},names.lookup x=none ->
  (names.map fun (n,k)=>if (k == NameKind.free && env.scope.kind == .function && env.kindOf n == some .cell) then (n,NameKind.cell) else (n,k)).lookup x=none
 | [],_,_=>rfl
 | (n,k') :: r,x,h=>by
  have ih:=@jt env r x
  show List.lookup x ((if (k' == NameKind.free && env.scope.kind == .function && env.kindOf n == some .cell)=true then (n,NameKind.cell) else (n,k')) :: _)=_
  cases hx:x == n with
  | true=>simp only [aqj,hx] at h;cases h
  | false =>
   simp only [aqj,hx] at h
   split
   ·simp only [aqj,hx];exact ih h
   ·simp only [aqj,hx];exact ih h
section
variable {X:Cx} {pins:List (Addr×Obj)} {σ:St} {H:Hp} {s:Shared} {NO N:List Str} {scO sc:Scope} {own:Nat} {fr:List Nat} {fp:List Addr}
theorem ai1 {tk:Nat} (S:CompScope NO scO N sc own fr) (hN:X.N=NO) (hsc:X.env.scope=scO) (I:Inv X pins σ H s) (hf:∀ b∈fp,vD X pins H b) (ho:∀ b∈fp,∃ o,s.heap.get? b=some o/\∀ v,o.data≠.cell v) :
  Inv (zi X sc N s H fp (X.pn++pins)) [] (jc own fr σ) H { s with heap:=pushCells (s.heap.push { cls:=.type "dict",data:=.dict #[] }) sc.names,toks:=tk }:=by
 have hfree:∀ x,(x,NameKind.free)∈sc.names->∃ c,X.env.cells.lookup x=some c:=fun x hx=>I.ok.has x (by
  show X.env.scope.names.lookup x=_ \/ X.env.scope.names.lookup x=_
  rw [hsc]
  exact S.free _ hx rfl)
 have hclt:∀ p∈yb X.env sc.names [],p.2<s.heap.objs.size:=fun p hp=>by
  rcases qy hp with q | ⟨q,e⟩
  ·cases q
  ·obtain⟨c,hc⟩:=hfree _ q
   rw [e,hc]
   obtain⟨v,o,ho,_⟩:=I.cell _ c hc
   exact apU ho
 have hsz:(s.heap.push { cls:=.type "dict",data:=.dict #[] }).objs.size=s.heap.objs.size+1:=ar9 ..
 have hk:∀ b o,s.heap.get? b=some o->(pushCells (s.heap.push { cls:=.type "dict",data:=.dict #[] }) sc.names).get? b=some o:=fun b o e=>pushCells_keeps _ _ _ _ (apH _ e)
 have hcase:∀ {x:Str} {c:Addr},(cellsFrom (s.heap.objs.size+1) sc.names (yb X.env sc.names [])).lookup x=some c->(s.heap.objs.size+1<=c/\(x,NameKind.cell)∈sc.names) \/ (X.env.cells.lookup x=some c/\(x,NameKind.free)∈sc.names):=fun {x c} e=>by
  rcases jb e with⟨q1,_,q3⟩ | ⟨q1,_⟩
  ·exact .inl ⟨q1,q3⟩
  ·exact .inr (vy hfree q1)
 have clap:(yb X.env sc.names []).Pairwise fun x y=>x.2≠y.2:=by
  have key:∀ (names:List (Str×NameKind)) (acc:List (Str×Addr)),(∀ p∈acc,X.env.cells.lookup p.1=some p.2)->(∀ x,(x,NameKind.free)∈names->∃ c,X.env.cells.lookup x=some c)->(acc.Pairwise fun x y=>x.2≠y.2)->(∀ p∈acc,(p.1,NameKind.free)∉names)->(names.map (·.1)).Nodup ->
    (yb X.env names acc).Pairwise fun x y=>x.2≠y.2:=by
   intro names
   induction names with
   | nil=>intro acc _ _ h _ _;exact h
   | cons p r ih =>
    intro acc h1 h2 h3 h4 h5
    obtain⟨y,k⟩:=p
    rw [apZ] at h5
    obtain⟨n1,n2⟩:=aqp.mp h5
    unfold yb
    split
    ·rename_i hk
     have hk':k=.free:=by simpa using hk
     subst hk'
     obtain⟨c,hc⟩:=h2 y apJ
     rw [hc]
     refine ih _ (fun p hp=>?_) (fun x hx=>h2 x (apG _ hx)) (List.pairwise_cons.mpr ⟨fun p hp=>?_,h3⟩) (fun p hp=>?_) n2
     ·rcases apK.mp hp with e | hp
      ·subst e;exact hc
      ·exact h1 p hp
     ·intro e
      have e':p.2=c:=e.symm
      have:=I.ok.inj _ _ _ hc (e'▸h1 p hp)
      exact h4 p hp (this▸apJ)
     ·rcases apK.mp hp with e | hp
      ·subst e
       intro z
       exact n1 (ap3.mpr ⟨_,z,rfl⟩)
      ·intro z;exact h4 p hp (apG _ z)
    ·exact ih acc h1 (fun x hx=>h2 x (apG _ hx)) h3 (fun p hp z=>h4 p hp (apG _ z)) n2
  exact key sc.names [] (fun p hp=>by cases hp) hfree List.Pairwise.nil (fun p hp=>by cases hp) S.snd
 have apart:=jr sc.names (s.heap.objs.size+1) _ clap fun p hp=>aq9 (hclt p hp)
 have hkd:∀ x,(zi X sc N s H fp (X.pn++pins)).env.kindOf x=some .cell \/ (zi X sc N s H fp (X.pn++pins)).env.kindOf x=some .free->(x,NameKind.cell)∈sc.names \/ (x,NameKind.free)∈sc.names:=fun x hx=>by
  cases q:sc.names.lookup x with
  | none =>
   have e:(zi X sc N s H fp (X.pn++pins)).env.kindOf x=none:=jt q
   rw [e] at hx
   rcases hx with z | z <;> cases z
  | some k =>
   have e:(zi X sc N s H fp (X.pn++pins)).env.kindOf x=some _:=jE (env:=X.env) q
   rw [e] at hx
   have hm:=mem_of_lookup q
   cases k <;> first | exact .inl hm | exact .inr hm | (rcases hx with z | z <;> cases z)
 have cellAt:∀ x c,(cellsFrom (s.heap.objs.size+1) sc.names (yb X.env sc.names [])).lookup x=some c->∃ v,(pushCells (s.heap.push { cls:=.type "dict",data:=.dict #[] }) sc.names).IsCell c v:=fun x c e=>by
  rcases hcase e with⟨q,_⟩ | ⟨q,_⟩
  ·exact⟨none,qd _ _ _ x c (by rw [hsz];exact e) (by rw [hsz];exact q) fun p hp=>by rw [hsz];exact aq9 (hclt p hp)⟩
  ·obtain⟨v,o,ho,hd⟩:=I.cell x c q
   exact⟨v,o,hk _ _ ho,hd⟩
 have lt_of_cell:∀ x c,X.env.cells.lookup x=some c->c<s.heap.objs.size:=fun x c e=>by
  obtain⟨v,o,ho,hd⟩:=I.cell x c e
  exact apU ho
 have lt_of_fp:∀ b∈fp,b<s.heap.objs.size:=fun b hb=>by
  obtain⟨o,e,_⟩:=ho b hb
  exact apU e
 have okX:(zi X sc N s H fp (X.pn++pins)).Ok:=by
  refine⟨I.mod,S.kind,I.ok.glob,I.ok.blt,apI _,fun x y c h1 h2=>name_of_addr apart (mem_of_lookup h1) (mem_of_lookup h2),fun x hx=>?_,fun x c hx hc=>?_,I.ok.hd,I.ok.frames,.inl rfl,fun b hb=>⟨aqb (lt_of_fp b hb),fun x c e=>?_⟩,I.bs,ap1 I.ok.bsz I.sz,fun b o e hb=>?_,fun b hb z=>?_,I.stack,I.stkFree⟩
  ·rcases hkd x hx with q | q
   ·exact abL (yi S.snd q)
   ·obtain⟨c,hc⟩:=hfree x q
    exact vz (by rw [aaz hfree q hc];rfl)
  ·have hx':sc.names.lookup x=some .cell:=of_decide_eq_true hx
   rcases hcase hc with⟨q,_⟩ | ⟨_,q⟩
   ·exact ar8 q
   ·rw [yi S.snd q] at hx';cases hx'
  ·rcases hcase e with⟨q,_⟩ | ⟨q,_⟩
   ·exact asF (ap2 (lt_of_fp b hb) (ar8 q))
   ·exact (hf b hb).2.2.2.2.1 x c q
  ·rcases (hf b hb).2.2.2.1 with z | z
   ·exact I.ok.noex b o e z
   ·exact absurd (apU e) (ati.mpr (ap1 I.ok.bsz z))
  ·rcases apK.mp (I.stkSub b z) with q | q
   ·exact (hf b hb).2.1 q
   ·exact (hf b hb).2.2.1 q
 refine⟨okX,rfl,I.bare,Un.kept hk,⟨fun _=>none,(Heap.Ns.new s.heap (.type "dict")).keeps (pushCells_keeps _ _),fun i x v h1 h2 h3=>?_⟩,cellAt,I.hok.fresh (apI _),fun x c e=>?_,fun p hp=>?_,I.hok.kept hk,?_⟩
 ·obtain⟨m,_,hl⟩:=id I.loc
  have h2':(jc own fr σ)[i]?=some (some v):=h2
  have hio:own<=i:=by
   unfold jc at h2'
   refine Nat.le_of_not_lt fun hi=>?_
   rw [apL (by simpa using hi),arA] at h2'
   split at h2' <;> cases h2'
  obtain⟨k,rfl⟩:=Nat.exists_eq_add_of_le hio
  have h1':N[own+k]?=some x:=h1
  unfold jc at h2'
  rw [apQ (by simp)] at h2'
  simp only [asn,Nat.add_sub_cancel_left,apM] at h2'
  cases hj:fr[k]? with
  | none=>rw [hj] at h2';cases h2'
  | some j =>
   rw [hj] at h2'
   have h2'':(σ[j]?).getD none=some v:=Option.some.inj h2'
   have hp:(x,j)∈(N.drop own).zip fr:=by
    refine apN (i:=k) ?_
    rw [List.getElem?_zip_eq_some]
    exact⟨by rw [List.getElem?_drop];exact h1',hj⟩
   obtain⟨f1,f2⟩:=S.frn _ hp
   have hσ:σ[j]?=some (some v):=by
    cases q:σ[j]? with
    | none=>rw [q] at h2'';cases h2''
    | some w=>rw [q] at h2'';exact congrArg some h2''
   have hxf:(x,NameKind.free)∈sc.names:=mem_of_lookup f2
   have hko:=S.free _ hxf rfl
   have hvis:Vis X.env.scope x:=by rw [hsc];exact .inr hko
   obtain⟨u,ru,q⟩:=hl j x v (by rw [hN];exact f1) hσ hvis
   refine⟨u,ru,.inr ⟨?_,?_⟩⟩
   ·have e:(zi X sc N s H fp (X.pn++pins)).env.kindOf x=some _:=jE (env:=X.env) f2
    rw [e]
    split
    ·exact .inl rfl
    ·exact .inr rfl
   ·rcases q with⟨k1,_⟩ | ⟨_,c,hc,z⟩
    ·have k1':X.env.scope.names.lookup x=some .local:=k1
     rw [hsc] at k1'
     rcases hko with z | z <;> rw [z] at k1' <;> cases k1'
    ·obtain⟨o,ho,hd⟩:=z
     refine⟨c,?_,o,hk _ _ ho,hd⟩
     have hcl:=aaz hfree hxf hc
     obtain⟨c',hc'⟩:=vz (names:=sc.names) (n:=s.heap.objs.size+1) (acc:=yb X.env sc.names []) (x:=x) (by rw [hcl];rfl)
     rcases hcase hc' with⟨_,z⟩ | ⟨z,_⟩
     ·have:=yi S.snd z
      rw [f2] at this;cases this
     ·rw [hc] at z;cases z;exact hc'
 ·rcases hcase e with⟨q,_⟩ | ⟨q,_⟩
  ·exact I.hok.fresh (ar8 q)
  ·exact I.freeC x c q
 ·have hp':p∈X.pn++pins:=by simpa [zi] using hp
  obtain⟨e,n,ne,nf,d⟩:=I.pin p hp'
  refine⟨hk _ _ e,n,aqb (apU e),fun z=>?_,d⟩
  rcases apK.mp (I.stkSub _ z) with q | q
  ·exact ne q
  ·exact nf q
 ·show (jc own fr σ).length=N.length
  unfold jc
  rw [S.len]
  simp
end
noncomputable abbrev TB:=St->Hp->(St->Hp->Prop)->Prop
noncomputable def PB (X:Cx) (act:Sem Unit) (t:TB):Prop :=
 ∀ (pins:List (Addr×Obj)) (s:Shared) (σ:St) (H:Hp) (Q:St->Hp->Prop),Inv X pins σ H s->t σ H Q->wpAny (model X.prog X.w) X.A act (fun _ s'=>∃ σ' H',Inv X pins σ' H' s'/\Q σ' H') X.xe s
noncomputable def PTs (X:Cx) (ifs:List Expr) (t:TT):Prop :=
 ∀ (pins:List (Addr×Obj)) (s:Shared) (σ:St) (H:Hp) (Q:Bool->Hp->Prop),Inv X pins σ H s->t σ H Q ->
  wpAny (model X.prog X.w) X.A (forIn ifs true fun c r=>if r=true then do let ok <- isTrue c X.env (eval c X.env);pure (ForInStep.yield ok) else pure (ForInStep.yield r)) (TP X pins σ Q) X.xe s
noncomputable def ad2:TT:=fun _ H Q=>Q true H
theorem z8 {X:Cx}:PTs X [] ad2:=fun pins s σ H Q I h=>wpAny_tests_nil ⟨H,I,h⟩
theorem acR {X:Cx} {c:Expr} {t:TT} (hc:PT X c t):PTs X [c] t:=fun pins s σ H Q I h=>wpAny_tests_one (hc pins s σ H Q I h)
noncomputable def ab7 (J:It) (g:TG) (tt:TT) (tb:TB):TB:=fun σ H Q=>∃ W:Nat->Nat->St->Hp->Prop,(∃ m,W 0 m σ H)/\∀ i m σ H,W i m σ H ->
 (J.stop i H/\Q σ H) \/ (J.go i H/\∀ x H',J.yld i H x H'->g x σ H' fun σ2 H2=>tt σ2 H2 fun b H3=>if b=true then tb σ2 H3 fun σ' H'=>∃ m',m'<m/\W (i+1) m' σ' H' else ∃ m',m'<m/\W (i+1) m' σ2 H3)
section
variable {X:Cx} {pins:List (Addr×Obj)} {s:Shared} {σ:St} {H:Hp} {tg:Expr} {e:Expr} {d:Nat} {acc:Value} {ifs:List Expr} {g:TG} {tt:TT} {tb:TB} {act:Sem Unit} {pos:Pos}
theorem ad3 (hx:∀ e s,X.xe e s->False) (hc:X.calm=true) (hg:PG X tg g) (ht:PTs X ifs tt) (hb:PB X act tb)
  (heq:∀ it,compTurn e d it acc X.env=(do
   standAt pos
   match <- pyNext it with
   | none=>pure (.done .next)
   | some v =>
    letOwnedTupleGo tg it v
    assign tg X.env v
    let mut ok:=true
    for c in ifs do
     if ok then ok <- isTrue c X.env (eval c X.env)
    if ok then
     act
    again (.compLoop e d it acc X.env)))
  (hqt:∀ it,(Code.compLoop e d it acc X.env).quiet=true)
  (hden:∀ it,(model X.prog X.w).den (.compLoop e d it acc X.env)=(compTurn e d it acc X.env).onRaise (fun x=>do noteFrame x X.env;theTreesLotGoes x))
  (hund:∀ it,X.A.under (.compLoop e d it acc X.env)=X.A)
  {it:Addr} {fp:List Addr} {tn:Nat->Heap->Prop} {J:It} {Q:St->Hp->Prop} {R:Result->Shared->Prop} (I:Inv X pins σ H s) (T:Turn X.prog X.w X.K tg J fp it tn) (st:tn 0 s.heap) (f:∀ b∈fp,vD X pins H b)
  (h:ab7 J g tt tb σ H Q) (hR:∀ σ' H' s',Inv X pins σ' H' s'->(∀ b∈fp,H' b=none)->Q σ' H'->R (.ok .next) s'):codeAny (model X.prog X.w) X.A (.compLoop e d (.ref it) acc X.env) R s:=by
 obtain⟨W,⟨m0,w0⟩,turn⟩:=h
 have stat:∀ {H':Hp},(∀ b∈fp,H' b=none)->∀ b∈fp,vD X pins H' b:=fun hn b hb=>⟨hn b hb,(f b hb).2⟩
 refine codeAny_loop (hqt _) (fun n s'=>∃ i σ' H',Inv X pins σ' H' s'/\tn i s'.heap/\(∀ b∈fp,H' b=none)/\W i n σ' H') ?_ m0 ⟨0,σ,H,I,st,fun b hb=>(f b hb).1,w0⟩
 rintro n s3 ⟨i,σ3,H3,I3,st3,fr3,w3⟩
 rw [hden,hund]
 refine wpAny_noted ?_
 rw [heq]
 have nox:∀ e' s',X.xe e' s'->notedBy (model X.prog X.w) X.A X.env (fun e s'=>R (.error e) s') e' s':=fun e' s' z=>(hx e' s' z).elim
 refine wpAny_bind (wpAny_standAt (wpAny_bind ?_))
 rcases turn i n σ3 H3 w3 with⟨stop,qn⟩ | ⟨go,step⟩
 ·refine wpAny_mono (T.done X rfl rfl rfl hc i pins s3 σ3 H3 X.xe I3 (stat fr3) st3 stop) (fun r s4 hr4=>?_) nox
  obtain⟨hr,I4⟩:=hr4
  subst hr
  exact wpAny_pure (hR σ3 H3 s4 I4 fr3 qn)
 ·refine wpAny_mono (T.item X rfl rfl rfl hc i pins s3 σ3 H3 X.xe I3 (stat fr3) st3 go) (fun r s4 hr4=>?_) nox
  obtain⟨u,hr,h4⟩:=hr4
  subst hr
  refine wpAny_bind (wpAny_mono h4 (fun _ s5 h5=>?_) nox)
  obtain⟨x,H5,I5,r5,y5,st5,fr5⟩:=h5
  have I5':=I5.pinned (stat fr5) (T.obj _ _ st5)
  refine wpAny_bind (wpAny_mono (hg _ s5 σ3 H5 x u _ I5' r5 (step x H5 y5)) (fun _ s6 h6=>?_) nox)
  obtain⟨σ6,H6,I6,q6⟩:=h6
  refine wpAny_bind (wpAny_mono (ht _ s6 σ6 H6 _ I6 q6) (fun ok s7 h7=>?_) nox)
  obtain⟨H7,I7,q7⟩:=h7
  have again:∀ {σ7:St} {H7:Hp} {s7:Shared},Inv X (pins++aa6 fp s5.heap) σ7 H7 s7->(∃ m',m'<n/\W (i+1) m' σ7 H7)->∃ m,m<n/\∃ i σ' H',Inv X pins σ' H' s7/\tn i s7.heap/\(∀ b∈fp,H' b=none)/\W i m σ' H':=fun {σ7 H7 s7} I7 n7=>by
   obtain⟨m',hm,w7⟩:=n7
   refine⟨m',hm,i+1,σ7,H7,I7.unpinned,T.keep _ _ _ st5 fun b hb o e=>(I7.pin (b,o) (apR _ (apR _ (qw hb e)))).1,fun b hb=>?_,w7⟩
   obtain⟨o,e,d⟩:=T.obj _ _ st5 b hb
   exact (I7.pin (b,o) (apR _ (apR _ (qw hb e)))).2.1
  cases ok with
  | false =>
   rw [if_neg apB] at q7
   exact wpAny_pure ⟨rfl,again I7 q7⟩
  | true =>
   rw [if_pos rfl] at q7
   refine wpAny_bind (wpAny_mono (hb _ s7 σ6 H7 _ I7 q7) (fun _ s8 h8=>?_) nox)
   obtain⟨σ8,H8,I8,q8⟩:=h8
   exact wpAny_pure ⟨rfl,again I8 q8⟩
theorem acS {D:Addr} {elt:Expr} {te:TE} (he:PE X elt te):PB X (do let _ <- call (.builtin "list.append") [.ref D,<- eval elt X.env]) (fun σ H Q=>te σ H fun y H1=>∃ xs,H1 D=some (.lst xs)/\xs.length<sizeLine/\Q σ (upd H1 D (.lst (xs++[y])))):=by
 intro pins s σ H Q I h
 refine wpAny_bind (thn (he pins s σ H _ I h) fun v s1 h1=>?_)
 obtain⟨y,H1,I1,r1,xs,hD,hz,q⟩:=h1
 obtain⟨z,its,n,r,hl,e⟩:=I1.lstM hD
 refine wpAny_bind ?_
 refine call_meets F.slot_list_append ⟨_,e,rfl⟩ atV (atG _ _) (PySem.list_append D its.toArray n v (by rw [apV];omega)) ⟨e,?_⟩
 refine wpAny_pure ⟨σ,_,I1.lset (its':=its++[v]) hD e (by simp) (r.append (.cons r1 .nil)) ?_,q⟩
 rw [apX,aqw]
 omega
theorem ad4 {M:Model} {A:Around} {E:Value->Shared->Prop} {sc:Scope} {gl:Addr} {cl:List (Str×Addr)} {qual:Str} {env:Env} {Q:Env->Shared->Prop} {s:Shared}
  (h:Q { scope:=sc,locals:=s.heap.objs.size,globals:=gl,cells:=cellsFrom (s.heap.objs.size+1) sc.names cl,qual:=qual,func:=none,code:=env.code,frame:=env.frame,builtins:=env.builtins } { s with heap:=pushCells (s.heap.push { cls:=.type "dict",data:=.dict #[] }) sc.names }) :
  wpAny M A (newFunctionEnv sc gl cl [] qual none .none (some env)) Q E s:=by
 simp only [newFunctionEnv,Option.isSome_some,if_true]
 refine wpAny_bind (wpAny_alloc ?_)
 refine wpAny_bind (wpAny_layCells _ (fun name kind cells=>by cases hkc:kind == NameKind.cell <;> simp [hkc]) _ _ _ _ ?_)
 rw [show ({ s with heap:=s.heap.push { cls:=.type "dict",data:=.dict #[] } }:Shared).heap.objs.size=s.heap.objs.size+1 from ar9 ..]
 refine wpAny_bind ?_
 rw [asa]
 exact wpAny_pure (wpAny_pure h)
theorem comp_back {sc:Scope} {N:List Str} {fp:List Addr} {σ':St} {H':Hp} {s':Shared} {h':Heap} (I:Inv X pins σ H s) (hf:∀ b∈fp,vD X pins H b) (J:Inv (zi X sc N s H fp (X.pn++pins)) [] σ' H' s') (hs:arE s.heap.objs.size s'.heap h') :
  Inv X pins σ H' { s' with heap:=h' }:=by
 have u:Un (frs X.stack) fp H H' s.heap s'.heap:=J.base
 have ne:∀ b o,s.heap.get? b=some o->b≠s.heap.objs.size:=fun b o e=>aqb (apU e)
 have hfree:H' s.heap.objs.size=none:=J.free
 refine I.call' (s':={ s' with heap:=h' }) (ch:=fp) J.os ⟨fun b o e n h1 h2=>(hs.2 b (ne b o e)).trans (u.keep b o e n h1 h2),fun b o e n h1 h2=>?_,u.free,fun b o e h2=>?_,u.tups,u.frzs,u.tbls⟩ (fun a o e=>?_) J.bare fun b hb=>?_
 ·obtain⟨sl,q⟩:=u.slot b o e n h1 h2
  exact⟨sl,(hs.2 b (ne b o e)).trans q⟩
 ·obtain⟨o',q⟩:=u.there b o e h2
  exact⟨o',(hs.2 b (ne b o e)).trans q⟩
 ·refine (J.hok a o e).stay (fun c v hc q=>(hs.2 c ?_).trans q) (fun _ q=>q) fun _ _ q=>q
  intro z
  subst z
  rcases hc with hc | hc
  ·rw [<-hc] at e
   rw [hfree] at e;cases e
  ·rw [hfree] at hc;cases hc
 ·exact⟨(hf b hb).2.2.2.1,(hf b hb).2.1,(hf b hb).2.2.2.2⟩
end
noncomputable def jO (D:Addr) (te:TE):TB:=fun σ H Q=>te σ H fun y H1=>∃ xs,H1 D=some (.lst xs)/\xs.length<sizeLine/\Q σ (upd H1 D (.lst (xs++[y])))
noncomputable def jP (wi:TI) (own:Nat) (fr:List Nat) (g:TG) (tt:TT) (tb:Addr->TB):TE:=fun σ H Q=>wi σ H fun J H1=>∀ D,H1 D=none ->
 ab7 J g tt (tb D) (jc own fr σ) (upd H1 D (.lst [])) fun _ H2=>Q (.ref D) H2
section
variable {X:Cx} {pins:List (Addr×Obj)} {s:Shared} {σ:St} {H:Hp} {tg elt iter:Expr} {ifs:List Expr} {rest:List Comprehension} {sc scO:Scope} {NO N:List Str} {own:Nat} {fr:List Nat} {wi:TI} {g:TG} {tt:TT} {tb:Addr->TB} {pos:Pos}
theorem ad5 {RR:Value->Addr->Result->Shared->Prop} {it:Addr} {fp:List Addr} {tn:Nat->Heap->Prop} {J:It} {Q:VK} (S:CompScope NO scO N sc own fr) (hN:X.N=NO) (hsc:X.env.scope=scO) (hc:X.calm=true)
  (hg:∀ s₀ H₀ ex pn,PG (zi X sc N s₀ H₀ ex pn) tg g) (ht:∀ s₀ H₀ ex pn,PTs (zi X sc N s₀ H₀ ex pn) ifs tt)
  (hb:∀ D s₀ H₀ ex pn,∃ act,PB (zi X sc N s₀ H₀ ex pn) act (tb D)/\∀ it,compTurn (.ListComp elt (⟨tg,iter,ifs,0⟩ :: rest) sc pos) 0 it (.ref D) (zi X sc N s₀ H₀ ex pn).env=(do
   standAt iter.pos
   match <- pyNext it with
   | none=>pure (.done .next)
   | some v =>
    letOwnedTupleGo tg it v
    assign tg (zi X sc N s₀ H₀ ex pn).env v
    let mut ok:=true
    for c in ifs do
     if ok then ok <- isTrue c (zi X sc N s₀ H₀ ex pn).env (eval c (zi X sc N s₀ H₀ ex pn).env)
    if ok then
     act
    again (.compLoop (.ListComp elt (⟨tg,iter,ifs,0⟩ :: rest) sc pos) 0 it (.ref D) (zi X sc N s₀ H₀ ex pn).env)))
  (I:Inv X pins σ H s) (T:Turn X.prog X.w X.K tg J fp it tn) (st:tn 0 s.heap) (f:∀ b∈fp,vD X pins H b)
  (h:∀ D,H D=none->ab7 J g tt (tb D) (jc own fr σ) (upd H D (.lst [])) fun _ H2=>Q (.ref D) H2)
  (hRR:∀ (D C:Addr) (s':Shared) (H':Hp),(∃ m,s'.heap.Ns C m)->C≠X.env.locals->(∀ x c,X.env.cells.lookup x=some c->c≠C)->H' C=none->X.s₀.heap.objs.size<=C->(∀ p∈X.pn++pins,p.1≠C)->Inv X pins σ H' s'->Q (.ref D) H'->RR (.ref D) C (.ok .next) s') :
  wpAny (model X.prog X.w) X.A (newList []) (fun acc s₃=>wpAny (model X.prog X.w) X.A (newFunctionEnv sc X.env.globals (yb X.env sc.names []) [] X.env.qual none .none (some X.env)) (fun cenv s₄ =>
   codeAny (model X.prog X.w) X.A (.compStart (.ListComp elt (⟨tg,iter,ifs,0⟩ :: rest) sc pos) 0 (.ref it) acc { cenv with scope:=relabel sc X.env }) (RR acc cenv.locals) s₄) X.xe s₃) X.xe s:=by
 refine wpAny_newObj_type (ad4 ?_)
 have fpsz:∀ b∈fp,b<s.heap.objs.size:=fun b hb=>by
  obtain⟨o,e,_⟩:=T.obj _ _ st b hb
  exact apU e
 have I3:=I.lnew (its:=[]) (ys:=[]) (t':=s.toks) .nil (ap9 _)
 have f3:∀ b∈fp,vD X pins (upd H s.heap.objs.size (.lst [])) b:=fun b hb=>⟨by rw [zm (aqb (fpsz b hb))];exact (f b hb).1,(f b hb).2⟩
 have st3:tn 0 (s.heap.push { cls:=.type "list",data:=.seq ([]:List Value).toArray }):=T.keep _ _ _ st fun b _ o e=>apH _ e
 have I4:=ai1 (tk:=s.toks) S hN hsc I3 f3 (T.obj _ _ st3)
 obtain⟨act,pb,heq⟩:=hb s.heap.objs.size _ _ _ _
 have st4:=T.keep _ _ (pushCells ((s.heap.push { cls:=.type "list",data:=.seq ([]:List Value).toArray }).push { cls:=.type "dict",data:=.dict #[] }) sc.names) st3 fun b _ o e=>pushCells_keeps _ _ _ _ (apH _ e)
 have cells_lt:∀ x c,X.env.cells.lookup x=some c->c<s.heap.objs.size:=fun x c e=>by
  obtain⟨v,o,ho,hd⟩:=I.cell x c e
  exact apU ho
 have esz:(s.heap.push { cls:=.type "list",data:=.seq ([]:List Value).toArray }).objs.size=s.heap.objs.size+1:=ar9 ..
 have loop:=ad3 (X:=zi X sc N { s with heap:=s.heap.push { cls:=.type "list",data:=.seq ([]:List Value).toArray } } (upd H s.heap.objs.size (.lst [])) fp (X.pn++pins)) (R:=RR (.ref s.heap.objs.size) (s.heap.push { cls:=.type "list",data:=.seq ([]:List Value).toArray }).objs.size) (fun _ _ z=>z) hc (hg _ _ _ _) (ht _ _ _ _) pb heq (fun _=>rfl) (fun _=>rfl) (fun _=>rfl) I4 T st4
  (fun b hb=>⟨(f3 b hb).1,I4.ok.exf b hb |>.1,I4.ok.exfs b hb,.inl hb,I4.ok.exf b hb |>.2,fun p hp=>by
   have hp':p∈X.pn++pins:=by simpa [zi] using hp
   exact (f b hb).2.2.2.2.2 p hp'⟩) (h _ I.fresh)
  (fun σ' H' s' J' fr' q'=>hRR _ _ s' H' (let⟨m,hm,_⟩:=J'.loc;⟨m,hm⟩) (by rw [esz];exact asF (aq9 I.lt)) (fun x c e=>by rw [esz];exact aqb (aq9 (cells_lt x c e))) J'.free (by rw [esz];exact Nat.le_succ_of_le I.sz) (fun p hp=>by rw [esz];exact aqb (aq9 (apU (I.pin p hp).1))) (comp_back (h':=s'.heap) I3 f3 J' (Heap.SameBut.refl ..)) q')
 exact codeAny_compStart_list loop (T.self X.A 0 _ _ _ st4 loop)
theorem Inv.touch {C:Addr} {h':Heap} (I:Inv X pins σ H s) (hs:arE C s.heap h') (hn:H C=none) (h0:C≠X.env.locals) (h1:∀ x c,X.env.cells.lookup x=some c->c≠C) (h2:X.s₀.heap.objs.size<=C) (h3:∀ p∈X.pn++pins,p.1≠C) :
  Inv X pins σ H { s with heap:=h' } :=
 I.turned (t':=s.toks) (fun b o hb e=>(hs.2 b hb).trans e) hn h0 (.inr h2) h1 h3
theorem abM {prog:Program} {w:World} {A:Around} {R:Result->Shared->Prop} {s:Shared} {elt':Expr} {g0:Comprehension} {tg' it':Expr} {ifs':List Expr} {sc':Scope} {pos':Pos} {itv acc:Value} {env:Env}
  (here:codeAny (model prog w) A (.compLoop (.ListComp elt' [g0,⟨tg',it',ifs',0⟩] sc' pos') 1 itv acc env) R s)
  (once:wpAny (model prog w) A (pyIter itv) (fun j s1=>codeAny (model prog w) A (.compLoop (.ListComp elt' [g0,⟨tg',it',ifs',0⟩] sc' pos') 1 j acc env) R s1) (notedBy (model prog w) A env fun x s1=>R (.error x) s1) s) :
  codeAny (model prog w) A (.compStart (.ListComp elt' [g0,⟨tg',it',ifs',0⟩] sc' pos') 1 itv acc env) R s:=by
 apply codeAny_of_tree
 show wpAny _ _ ((compStart (.ListComp elt' [g0,⟨tg',it',ifs',0⟩] sc' pos') 1 itv acc env).onRaise (fun z=>do noteFrame z env;standAt theWindowsPlace)) _ _ s
 apply wpAny_notedAt
 unfold compStart
 show wpAny _ _ (ask >>= _) _ _ s
 apply wpAny_bind
 apply wpAny_askSetting
 apply wpAny_ite
 split
 ·first
   | exact wpAny_bind (wpAny_pure (wpAny_pure (And.intro rfl here)))
   | exact wpAny_pure (And.intro rfl here)
 ·apply wpAny_bind
  apply wpAny_rule
  show wpAny _ _ (standAt it'.pos >>= _) _ _ s
  exact wpAny_bind (wpAny_standAt (wpAny_bind (wpAny_mono once (fun j s1 q=>wpAny_pure (And.intro rfl q)) fun _ _ z=>z)))
section
variable {elt2:Expr} {te:TE} {tg2 iter2:Expr} {ifs2:List Expr} {wi2:TI} {g2:TG} {tt2:TT} {tb2:TB} {y:Str} {i:Nat} {py spos:Pos}
noncomputable def tIn (wi2:TI) (g2:TG) (tt2:TT) (tb2:TB):TB:=fun σ H Q=>wi2 σ H fun J H1=>ab7 J g2 tt2 tb2 σ H1 Q
theorem amz {D:Addr} (hx:∀ e s,X.xe e s->False) (hc:X.calm=true) (hi:PI X tg2 iter2 wi2) (hg:PG X tg2 g2) (ht:PTs X ifs2 tt2) (he:PE X elt te)
  (hs:∀ x,foldedSetIterable iter2 X.env x=pure x) :
  PB X (do
   let x <- eval iter2 X.env
   standAt iter2.pos
   let x <- foldedSetIterable iter2 X.env x
   let _ <- runOwn (.compStart (.ListComp elt [⟨tg,iter,ifs,0⟩,⟨tg2,iter2,ifs2,0⟩] sc pos) 1 (<- holding [x] (pyIter x)) (.ref D) X.env) X.env) (tIn wi2 g2 tt2 (jO D te)):=by
 intro pins s σ H Q I h
 refine wpAny_bind (thn (hi pins s σ H _ I h) fun v s1 h1=>?_)
 refine wpAny_bind (wpAny_standAt ?_)
 refine wpAny_bind (wpAny_of_eq (hs v) ?_)
 refine wpAny_bind (wpAny_holding (thn h1 fun itv s2 h2=>?_))
 obtain⟨it,fp,tn,J,H2,e,I2,T,st2,f2,q⟩:=h2
 subst e
 refine wpAny_bind (wpAny_runOwn ?_)
 have loop:=ad3 (e:=.ListComp elt [⟨tg,iter,ifs,0⟩,⟨tg2,iter2,ifs2,0⟩] sc pos) (d:=1) (pos:=iter2.pos)
  (R:=fun r s'=>match r with | .ok f=>wpAny (model X.prog X.w) X.A (pure ()) (fun _ s'=>∃ σ' H',Inv X pins σ' H' s'/\Q σ' H') X.xe s' | .error e=>cameBackBy (model X.prog X.w) X.A X.env X.xe e s')
  hx hc hg ht (acS (D:=D) he) (fun _=>rfl) (fun _=>rfl) (fun _=>rfl) (fun _=>rfl) I2 T st2 f2 q (fun σ' H' s' J' _ q'=>wpAny_pure ⟨σ',H',J',q'⟩)
 exact abM loop (T.self X.A 0 _ _ _ st2 loop)
theorem agt (S:CompScope NO scO N sc own fr) (hsc:X.env.scope=scO) (ok:X.Ok):closureFor sc X.env=pure (yb X.env sc.names []) :=
 afy fun x hx=>ok.has x (by
  show X.env.scope.names.lookup x=_ \/ X.env.scope.names.lookup x=_
  rw [hsc]
  exact S.free _ hx rfl)
theorem agu (S:CompScope NO scO N sc own fr) (hc:X.calm=true) (hi:PI X tg iter wi) (hg:∀ s₀ H₀ ex pn,PG (zi X sc N s₀ H₀ ex pn) tg g) (ht:∀ s₀ H₀ ex pn,PTs (zi X sc N s₀ H₀ ex pn) ifs tt)
  (hb:∀ D s₀ H₀ ex pn,∃ act,PB (zi X sc N s₀ H₀ ex pn) act (tb D)/\∀ it,compTurn (.ListComp elt (⟨tg,iter,ifs,0⟩ :: rest) sc pos) 0 it (.ref D) (zi X sc N s₀ H₀ ex pn).env=(do
   standAt iter.pos
   match <- pyNext it with
   | none=>pure (.done .next)
   | some v =>
    letOwnedTupleGo tg it v
    assign tg (zi X sc N s₀ H₀ ex pn).env v
    let mut ok:=true
    for c in ifs do
     if ok then ok <- isTrue c (zi X sc N s₀ H₀ ex pn).env (eval c (zi X sc N s₀ H₀ ex pn).env)
    if ok then
     act
    again (.compLoop (.ListComp elt (⟨tg,iter,ifs,0⟩ :: rest) sc pos) 0 it (.ref D) (zi X sc N s₀ H₀ ex pn).env)))
  (hN:X.N=NO) (hsc:X.env.scope=scO) (hs:∀ x,foldedSetIterable iter X.env x=pure x) :
  PE X (.ListComp elt (⟨tg,iter,ifs,0⟩ :: rest) sc pos) (jP wi own fr g tt tb):=by
 intro pins s σ H Q I h
 rw [eval_ListComp]
 refine wpAny_comprehension_free (use:=none) rfl hs (agt S hsc I.ok) S.kind (fun p hp hl=>yi S.snd (k:=.local) (by rw [<-hl];exact hp)) (thn (hi pins s σ H _ I h) fun v s1 h1=>thn h1 fun itv s2 h2=>?_)
 obtain⟨it,fp,tn,J,H2,e,I2,T,st2,f2,q⟩:=h2
 subst e
 refine ad5 (RR:=fun acc C=>compPost (model X.prog X.w) X.A X.xe none (EP X pins σ Q) acc C) S hN hsc hc hg ht hb I2 T st2 f2 q ?_
 rintro D C s' H' ⟨m,hm⟩ c0 c1 c2 c3 c4 J' q'
 exact⟨m,hm,fun h' hs'=>⟨.ref D,H',J'.touch hs' c2 c0 c1 c3 c4,rfl,q'⟩⟩
theorem abd (S:CompScope NO scO N sc own fr) (hc:X.calm=true) (hNd:X.N.Nodup) (hiN:X.N[i]?=some y) (hy:Loc X.env.scope y) (hi:PI X tg iter wi) (hg:∀ s₀ H₀ ex pn,PG (zi X sc N s₀ H₀ ex pn) tg g) (ht:∀ s₀ H₀ ex pn,PTs (zi X sc N s₀ H₀ ex pn) ifs tt)
  (hb:∀ D s₀ H₀ ex pn,∃ act,PB (zi X sc N s₀ H₀ ex pn) act (tb D)/\∀ it,compTurn (.ListComp elt (⟨tg,iter,ifs,0⟩ :: rest) sc pos) 0 it (.ref D) (zi X sc N s₀ H₀ ex pn).env=(do
   standAt iter.pos
   match <- pyNext it with
   | none=>pure (.done .next)
   | some v =>
    letOwnedTupleGo tg it v
    assign tg (zi X sc N s₀ H₀ ex pn).env v
    let mut ok:=true
    for c in ifs do
     if ok then ok <- isTrue c (zi X sc N s₀ H₀ ex pn).env (eval c (zi X sc N s₀ H₀ ex pn).env)
    if ok then
     act
    again (.compLoop (.ListComp elt (⟨tg,iter,ifs,0⟩ :: rest) sc pos) 0 it (.ref D) (zi X sc N s₀ H₀ ex pn).env)))
  (hN:X.N=NO) (hsc:X.env.scope=scO) (hs:∀ x,foldedSetIterable iter X.env x=pure x) (hf:X.fn y=true \/ X.env.scope.names.lookup y=some .local)
  (hsw:swapsWith (.ListComp elt (⟨tg,iter,ifs,0⟩ :: rest) sc pos) (some (.Name y py)) spos.line X.env=pure true) :
  PS X (.Assign [.Name y py] (.ListComp elt (⟨tg,iter,ifs,0⟩ :: rest) sc pos) spos) (qc (jP wi own fr g tt tb) (yR i)):=by
 intro pins s σ H D I h
 rw [exec_Assign_Name_used _ _ _ _ hsw]
 refine wpAny_bind (wpAny_standAt (wpAny_bind ?_))
 show wpAny _ X.A (do let _ <- comprehension (.ListComp elt (⟨tg,iter,ifs,0⟩ :: rest) sc pos) sc X.env _ (newList []) false (eval iter X.env) (some (assign (.Name y py) X.env))) _ _ s
 refine wpAny_bind (wpAny_mono (wpAny_comprehension_free (use:=some (assign (.Name y py) X.env)) (Q:=fun _ s'=>SP X pins D .next s') rfl hs (agt S hsc I.ok) S.kind (fun p hp hl=>yi S.snd (k:=.local) (by rw [<-hl];exact hp))
  (thn (hi pins s σ H _ I h) fun v s1 h1=>thn h1 fun itv s2 h2=>?_)) (fun _ s' hq=>wpAny_pure (wpAny_pure hq)) fun _ _ e=>e)
 obtain⟨it,fp,tn,J,H2,e,I2,T,st2,f2,q⟩:=h2
 subst e
 refine ad5 (Q:=fun x H1=>yR i x σ H1 D.nx) (RR:=fun acc C=>compPost (model X.prog X.w) X.A X.xe (some (assign (.Name y py) X.env)) (fun _ s'=>SP X pins D .next s') acc C) S hN hsc hc hg ht hb I2 T st2 f2 q ?_
 rintro A' C s' H' ⟨m,hm⟩ c0 c1 c2 c3 c4 J' q'
 show wpAny _ X.A (assign (.Name y py) X.env (.ref A')) _ _ _
 refine wpAny_assign_Name (abV (v:=.ref A') J' hNd hiN hy rfl (fun s2' I2' hsb=>?_) hf)
 obtain⟨a,hs2,ha⟩:=hsb
 have hCa:C≠a:=by
  rcases ha with ha | ha
  ·rw [ha];exact c0
  ·exact aqP (c1 _ _ ha)
 exact⟨m,hm.sameBut hs2 hCa,fun h' hs'=>⟨_,H',I2'.touch hs' c2 c0 c1 c3 c4,q'⟩⟩
end
end
section
variable {X:Cx} {tg elt iter tg2 iter2:Expr} {ifs ifs2:List Expr} {sc scO:Scope} {NO N:List Str} {own:Nat} {fr:List Nat} {wi wi2:TI} {g g2:TG} {tt tt2:TT} {te:TE} {pos py spos:Pos} {y:Str} {i:Nat}
theorem yc (S:CompScope NO scO N sc own fr) (hc:X.calm=true) (hi:PI X tg iter wi) (hg:∀ s₀ H₀ ex pn,PG (zi X sc N s₀ H₀ ex pn) tg g) (ht:∀ s₀ H₀ ex pn,PTs (zi X sc N s₀ H₀ ex pn) ifs tt) (he:∀ s₀ H₀ ex pn,PE (zi X sc N s₀ H₀ ex pn) elt te)
  (hN:X.N=NO) (hsc:X.env.scope=scO) (hs:∀ x,foldedSetIterable iter X.env x=pure x):PE X (.ListComp elt [⟨tg,iter,ifs,0⟩] sc pos) (jP wi own fr g tt fun D=>jO D te) :=
 agu S hc hi hg ht (fun D s₀ H₀ ex pn=>⟨_,acS (D:=D) (he s₀ H₀ ex pn),fun _=>rfl⟩) hN hsc hs
theorem qT (S:CompScope NO scO N sc own fr) (hc:X.calm=true) (hNd:X.N.Nodup) (hiN:X.N[i]?=some y) (hy:Loc X.env.scope y) (hi:PI X tg iter wi) (hg:∀ s₀ H₀ ex pn,PG (zi X sc N s₀ H₀ ex pn) tg g) (ht:∀ s₀ H₀ ex pn,PTs (zi X sc N s₀ H₀ ex pn) ifs tt) (he:∀ s₀ H₀ ex pn,PE (zi X sc N s₀ H₀ ex pn) elt te)
  (hN:X.N=NO) (hsc:X.env.scope=scO) (hs:∀ x,foldedSetIterable iter X.env x=pure x) (hf:X.fn y=true \/ X.env.scope.names.lookup y=some .local)
  (hsw:swapsWith (.ListComp elt [⟨tg,iter,ifs,0⟩] sc pos) (some (.Name y py)) spos.line X.env=pure true) :
  PS X (.Assign [.Name y py] (.ListComp elt [⟨tg,iter,ifs,0⟩] sc pos) spos) (qc (jP wi own fr g tt fun D=>jO D te) (yR i)) :=
 abd S hc hNd hiN hy hi hg ht (fun D s₀ H₀ ex pn=>⟨_,acS (D:=D) (he s₀ H₀ ex pn),fun _=>rfl⟩) hN hsc hs hf hsw
end
theorem ad6 {elt tg iter tg2 iter2:Expr} {ifs ifs2:List Expr} {sc:Scope} {pos:Pos} {it acc:Value} {env:Env} :
  compTurn (.ListComp elt [⟨tg,iter,ifs,0⟩,⟨tg2,iter2,ifs2,0⟩] sc pos) 0 it acc env=(do
   standAt iter.pos
   match <- pyNext it with
   | none=>pure (.done .next)
   | some v =>
    letOwnedTupleGo tg it v
    assign tg env v
    let mut ok:=true
    for c in ifs do
     if ok then ok <- isTrue c env (eval c env)
    if ok then
     (do
      let x <- eval iter2 env
      standAt iter2.pos
      let x <- foldedSetIterable iter2 env x
      let _ <- runOwn (.compStart (.ListComp elt [⟨tg,iter,ifs,0⟩,⟨tg2,iter2,ifs2,0⟩] sc pos) 1 (<- holding [x] (pyIter x)) acc env) env)
    again (.compLoop (.ListComp elt [⟨tg,iter,ifs,0⟩,⟨tg2,iter2,ifs2,0⟩] sc pos) 0 it acc env)):=by
 unfold compTurn
 simp only [bind_assoc,pure_bind]
 rfl
section
variable {X:Cx} {tg elt iter tg2 iter2:Expr} {ifs ifs2:List Expr} {sc scO:Scope} {NO N:List Str} {own:Nat} {fr:List Nat} {wi wi2:TI} {g g2:TG} {tt tt2:TT} {te:TE} {pos py spos:Pos} {y:Str} {i:Nat}
theorem ai2 (S:CompScope NO scO N sc own fr) (hc:X.calm=true) (hi:PI X tg iter wi) (hg:∀ s₀ H₀ ex pn,PG (zi X sc N s₀ H₀ ex pn) tg g) (ht:∀ s₀ H₀ ex pn,PTs (zi X sc N s₀ H₀ ex pn) ifs tt)
  (hi2:∀ s₀ H₀ ex pn,PI (zi X sc N s₀ H₀ ex pn) tg2 iter2 wi2) (hg2:∀ s₀ H₀ ex pn,PG (zi X sc N s₀ H₀ ex pn) tg2 g2) (ht2:∀ s₀ H₀ ex pn,PTs (zi X sc N s₀ H₀ ex pn) ifs2 tt2)
  (he:∀ s₀ H₀ ex pn,PE (zi X sc N s₀ H₀ ex pn) elt te) (hN:X.N=NO) (hsc:X.env.scope=scO) (hs:∀ x,foldedSetIterable iter X.env x=pure x) (hs2:∀ s₀ H₀ ex pn x,foldedSetIterable iter2 (zi X sc N s₀ H₀ ex pn).env x=pure x) :
  PE X (.ListComp elt [⟨tg,iter,ifs,0⟩,⟨tg2,iter2,ifs2,0⟩] sc pos) (jP wi own fr g tt fun D=>tIn wi2 g2 tt2 (jO D te)) :=
 agu S hc hi hg ht (fun D s₀ H₀ ex pn=>⟨_,amz (D:=D) (fun _ _ z=>z) hc (hi2 s₀ H₀ ex pn) (hg2 s₀ H₀ ex pn) (ht2 s₀ H₀ ex pn) (he s₀ H₀ ex pn) (hs2 s₀ H₀ ex pn),fun it=>ad6⟩) hN hsc hs
theorem ad7 (S:CompScope NO scO N sc own fr) (hc:X.calm=true) (hNd:X.N.Nodup) (hiN:X.N[i]?=some y) (hy:Loc X.env.scope y) (hi:PI X tg iter wi) (hg:∀ s₀ H₀ ex pn,PG (zi X sc N s₀ H₀ ex pn) tg g) (ht:∀ s₀ H₀ ex pn,PTs (zi X sc N s₀ H₀ ex pn) ifs tt)
  (hi2:∀ s₀ H₀ ex pn,PI (zi X sc N s₀ H₀ ex pn) tg2 iter2 wi2) (hg2:∀ s₀ H₀ ex pn,PG (zi X sc N s₀ H₀ ex pn) tg2 g2) (ht2:∀ s₀ H₀ ex pn,PTs (zi X sc N s₀ H₀ ex pn) ifs2 tt2)
  (he:∀ s₀ H₀ ex pn,PE (zi X sc N s₀ H₀ ex pn) elt te) (hN:X.N=NO) (hsc:X.env.scope=scO) (hs:∀ x,foldedSetIterable iter X.env x=pure x) (hs2:∀ s₀ H₀ ex pn x,foldedSetIterable iter2 (zi X sc N s₀ H₀ ex pn).env x=pure x)
  (hf:X.fn y=true \/ X.env.scope.names.lookup y=some .local)
  (hsw:swapsWith (.ListComp elt [⟨tg,iter,ifs,0⟩,⟨tg2,iter2,ifs2,0⟩] sc pos) (some (.Name y py)) spos.line X.env=pure true) :
  PS X (.Assign [.Name y py] (.ListComp elt [⟨tg,iter,ifs,0⟩,⟨tg2,iter2,ifs2,0⟩] sc pos) spos) (qc (jP wi own fr g tt fun D=>tIn wi2 g2 tt2 (jO D te)) (yR i)) :=
 abd S hc hNd hiN hy hi hg ht (fun D s₀ H₀ ex pn=>⟨_,amz (D:=D) (fun _ _ z=>z) hc (hi2 s₀ H₀ ex pn) (hg2 s₀ H₀ ex pn) (ht2 s₀ H₀ ex pn) (he s₀ H₀ ex pn) (hs2 s₀ H₀ ex pn),fun it=>ad6⟩) hN hsc hs hf hsw
end
section
variable {X:Cx} {pins:List (Addr×Obj)} {σ:St} {H:Hp} {s:Shared} {h':Heap} {fp:List Addr}
theorem Inv.turnedAll {t':Nat} (I:Inv X pins σ H s) (hf:∀ b∈fp,vD X pins H b) (k:∀ b o,b∉fp->s.heap.get? b=some o->h'.get? b=some o):Inv X pins σ H { s with heap:=h',toks:=t' }:=by
 refine I.step (g':=s.gens) (d':=s.drawn) (ch:=fp) (fun b hb=>⟨(hf b hb).2.2.2.1,(hf b hb).2.1,(hf b hb).2.2.2.2⟩) (fun b o _ _ hc e _=>k b o hc e) (fun b o _ _ hc e _=>⟨o.slots,k b o hc e⟩) (fun _ _ _ _ n=>n)
  (fun b o hc e=>⟨o,k b o hc e⟩) (fun _ _ e=>e) (fun _ _ _ e=>e) (fun b ps e=>⟨#[],by rw [e];simp⟩) (fun m hm=>?_) (fun b u e=>?_) I.bare
 ·obtain⟨o,es,ep,ho,r⟩:=hm
  exact⟨o,es,ep,k _ o (fun z=>(hf _ z).2.1 rfl) ho,r⟩
 ·refine (I.hok b u e).stay (fun c v hc q=>k c v (fun z=>?_) q) (fun _ q=>q) fun _ _ q=>q
  have hn:=(hf c z).1
  rcases hc with hc | hc
  ·subst hc;rw [e] at hn;cases hn
  ·rw [hc] at hn;cases hn
theorem Inv.turnedNew {t':Nat} {t:Addr} {o:HO} (I:Inv X pins σ H s) (hf:∀ b∈fp,vD X pins H b) (k:∀ b o,b∉fp->s.heap.get? b=some o->h'.get? b=some o) (ht:s.heap.objs.size<=t) (new:ObjOk X.prog X.w (upd H t o) h' t o) :
  Inv X pins σ (upd H t o) { s with heap:=h',toks:=t' }:=by
 have hn:H t=none:=I.hok.fresh ht
 have ne:∀ b ob,s.heap.get? b=some ob->b≠t:=fun b ob e=>aqb (ap2 (apU e) ht)
 refine I.step (g':=s.gens) (d':=s.drawn) (ch:=fp) (fun b hb=>⟨(hf b hb).2.2.2.1,(hf b hb).2.1,(hf b hb).2.2.2.2⟩) (fun b o _ _ hc e _=>k b o hc e) (fun b o _ _ hc e _=>⟨o.slots,k b o hc e⟩) (fun b ob _ e n=>by rw [zm (ne b ob e)];exact n)
  (fun b o hc e=>⟨o,k b o hc e⟩) (fun b xs e=>by rw [zm (zF e hn)];exact e) (fun b ob u e=>by rw [zm (zF e hn)];exact e) (fun b ps e=>⟨#[],by rw [zm (zF e hn),e];simp⟩) (fun m hm=>?_) (fun b u e=>?_) I.bare
 ·obtain⟨o,es,ep,ho,r⟩:=hm
  exact⟨o,es,ep,k _ o (fun z=>(hf _ z).2.1 rfl) ho,r⟩
 ·by_cases hb:b=t
  ·subst hb;rw [zo] at e;cases e;exact new
  ·rw [zm hb] at e
   refine (I.hok b u e).stay (fun c v hc q=>k c v (fun z=>?_) q) (fun c q=>by rw [zm (zF q hn)];exact q) fun c xs q=>by rw [zm (zF q hn)];exact q
   have hn':=(hf c z).1
   rcases hc with hc | hc
   ·subst hc;rw [e] at hn';cases hn'
   ·rw [hc] at hn';cases hn'
end
noncomputable def Ite (K:apD) (a:Addr):It :=
 ⟨fun i H=>∃ xs x,SqL K H a xs/\xs[i]?=some x,fun i H x H'=>∃ t y,x=.ref t/\H t=none/\H'=upd H t (.tup [.int i,y])/\∀ xs,SqL K H a xs->xs[i]?=some y,fun i H=>∃ xs,SqL K H a xs/\xs.length<=i⟩
theorem ahO {P:Program} {w:World} {K:apD} {es:List Expr} {k:Nat} {pos:Pos} (a e it:Addr) (hne:e≠it):Turn P w K (.Tuple es k pos) (Ite K a) [e,it] e (fun i h=>(∃ old,IsEnum h e it i old)/\h.IsListIter it a i) where
 mem:=by simp
 obj:=fun i h st b hb=>by
  obtain⟨⟨old,se⟩,o,eo,c,d⟩:=st
  rcases apK.mp hb with z | z
  ·subst z
   exact⟨_,se,fun v z=>by
    have z':Data.fields _=Data.cell v:=z
    cases z'⟩
  ·have z:b=it:=by simpa using z
   subst z
   exact⟨o,eo,fun v z=>by rw [d] at z;cases z⟩
 keep:=fun i h h' st kk=>⟨let⟨old,se⟩:=st.1;⟨old,kk e (by simp) _ se⟩,st.2.at fun o eo=>kk it (by simp) o eo⟩
 item:=by
  intro X hP hw hK hc i pins s σ H E I hf st hg
  subst hP hw hK
  obtain⟨xs,x,hq,hx⟩:=hg
  obtain⟨its,rv,p,hz⟩:=I.list hq
  obtain⟨u,hu,ru⟩:=rv.get hx
  obtain⟨⟨old,se⟩,si⟩:=st
  refine wpAny_pyNext_enum_item se si p.isList (x:=u) (by simpa using hu) hne fun h' so si' tp sz kp=>?_
  refine⟨_,rfl,?_⟩
  refine wpAny_letOwnedTupleGo_enum (s:={ s with heap:=h',toks:=s.toks+1 }) so fun h2 se2 sb=>?_
  have hlt:e<s.heap.objs.size:=apU se
  obtain⟨oi,eoi,_,_⟩:=id si
  have hlt2:it<s.heap.objs.size:=apU eoi
  have kk:∀ b o,b∉[e,it]->s.heap.get? b=some o->h2.get? b=some o:=fun b o hb eb=>by
   have h1:b≠e:=fun z=>hb (by simp [z])
   have h2':b≠it:=fun z=>hb (by simp [z])
   exact (sb.2 b h1).trans (kp b o h1 h2' eb)
  have I2:Inv X pins σ (upd H s.heap.objs.size (.tup [.int i,x])) { s with heap:=h2,toks:=s.toks+1 }:=I.turnedNew hf kk (apI _)
   ⟨by show 2<=sizeLine;decide,[.int i s.toks,u],.cons ⟨_,rfl⟩ (.cons ru .nil),⟨_,(sb.2 _ (asF hlt)).trans tp,rfl,_,rfl⟩⟩
  refine⟨.ref s.heap.objs.size,_,I2,rfl,⟨_,x,rfl,I.fresh,rfl,fun ys hy=>by rw [I.list_inj hy hq];exact hx⟩,⟨⟨_,se2⟩,?_⟩,fun b hb=>?_⟩
  ·exact si'.at fun o eo=>(sb.2 it (aqP hne)).trans eo
  ·rw [zm]
   ·exact (hf b hb).1
   ·rcases apK.mp hb with z | z
    ·subst z;exact aqb hlt
    ·have z:b=it:=by simpa using z
     subst z;exact aqb hlt2
 done:=by
  intro X hP hw hK hc i pins s σ H E I hf st hg
  subst hP hw hK
  obtain⟨xs,hq,hx⟩:=hg
  obtain⟨its,rv,p,hz⟩:=I.list hq
  obtain⟨⟨old,se⟩,si⟩:=st
  have hl:=rv.length
  exact wpAny_pyNext_enum_end (I.ok.hd hc) se si p.isList (by simp;omega) fun h' eb=>⟨rfl,I.turnedAll (t':=s.toks) hf fun b o hb e'=>eb b o (fun z=>hb (by simp [z])) e'⟩
 self:=fun _ _ _ _ _ st h=>let⟨_,se⟩:=st.1;wpAny_pyIter_enum se h
section
variable {X:Cx} {es:List Expr} {k:Nat} {tpos:Pos}
noncomputable def agv (K:apD) (ta:TA):TI:=fun σ H R=>ta σ H fun vs H1=>∃ a,vs=[.ref a]/\(∃ xs,SqL K H1 a xs)/\R (Ite K a) H1
theorem ak9 {a:Expr} {ta:TA} {p pos:Pos} (hg:Gl X "enumerate") (hm:X.mg "enumerate"=none) (ha:PA X [a] ta) (hs:starEach [a] X.env=[(false,eval a X.env)]:=by rfl):PI X (.Tuple es k tpos) (.Call (.Name "enumerate" p) [a] [] pos) (agv X.K ta):=by
 intro pins s σ H R I h
 refine Call_ (aae I hg hm boot_enumerate (arN (thn (ha pos pins s σ H _ I h) fun us s1 ⟨vs,H1,I1,r1,q1⟩=>?_) hs rfl))
 obtain⟨l,e,⟨xs,hq⟩,q⟩:=q1
 subst e
 cases r1 with
 | cons r rr =>
  cases rr
  cases r
  obtain⟨its,rv,p,hz⟩:=I1.list hq
  refine call_enumerate_list p.isList fun h' he hi hsz kp=>?_
  refine wpAny_pyIter_enum he ?_
  have hne:s1.heap.objs.size+1≠s1.heap.objs.size:=Nat.succ_ne_self _
  refine⟨s1.heap.objs.size+1,[s1.heap.objs.size+1,s1.heap.objs.size],_,_,H1,rfl,I1.kept (t':=s1.toks) kp,ahO l _ _ hne,⟨⟨_,he⟩,hi⟩,fun b hb=>?_,q⟩
  rcases apK.mp hb with z | z
  ·subst z;exact I1.fpOk (atH _) (I1.hok.fresh (atH _))
  ·have z:b=s1.heap.objs.size:=by simpa using z
   subst z;exact I1.fpOk (apI _) (I1.hok.fresh (apI _))
end
theorem ai3 {K:apD} {a:Addr} {xs:List V} {g:TG} {tb:TS} {D:Ends} {σ:St} {H:Hp} (Pv:Nat->St->Hp->Prop) (h0:Pv 0 σ H) (hl:∀ i σ H,i<=xs.length->Pv i σ H->SqL K H a xs)
  (hs:∀ i x σ H t,xs[i]?=some x->Pv i σ H->H t=none->g (.ref t) σ (upd H t (.tup [.int i,x])) fun σ2 H2=>tb { D with nx:=Pv (i+1),ct:=Pv (i+1),bk:=D.nx } σ2 H2) (hd:∀ σ H,Pv xs.length σ H->D.nx σ H) :
  ∃ W:Nat->Nat->St->Hp->Prop,(∃ m,W 0 m σ H)/\∀ i m σ H,W i m σ H ->
   ((Ite K a).stop i H/\D.nx σ H) \/ ((Ite K a).go i H/\∃ N:St->Hp->Prop,(∀ σ' H',N σ' H'->∃ m',m'<m/\W (i+1) m' σ' H')/\∀ x H',(Ite K a).yld i H x H'->g x σ H' fun σ2 H2=>tb { D with nx:=N,ct:=N,bk:=D.nx } σ2 H2):=by
 refine⟨fun i m σ H=>Pv i σ H/\i<=xs.length/\m+i=xs.length,⟨xs.length,h0,ap9 _,rfl⟩,fun i m σ H ⟨p,hi,hm⟩=>?_⟩
 have q:=hl i σ H hi p
 by_cases hlt:i<xs.length
 ·refine .inr ⟨⟨xs,xs[i],q,apA hlt⟩,Pv (i+1),fun σ' H' n=>⟨m - 1,by omega,n,hlt,by omega⟩,fun x H' hy=>?_⟩
  obtain⟨t,y,rfl,ht,rfl,hy⟩:=hy
  exact hs i y σ H t (hy xs q) p ht
 ·have e:i=xs.length:=by omega
  subst e
  exact .inl ⟨⟨xs,q,apI _⟩,hd σ H p⟩
mutual
noncomputable def Rep (K:apD) (H:Hp):PyData->V->Prop
 | .none,v=>v=.non
 | .bool b,v=>v=.bl b
 | .int i,v=>v=.int i
 | .str x,v=>v=.str x
 | .list ds,v=>∃ a xs,v=.ref a/\SqL K H a xs/\Reps K H ds xs
 | .tuple ds,v=>∃ a xs,v=.ref a/\SqT K H a xs/\Reps K H ds xs
 | .dict _,_=>False
noncomputable def Reps (K:apD) (H:Hp):List PyData->List V->Prop
 | [],xs=>xs=[]
 | d :: ds,xs=>∃ x r,xs=x :: r/\Rep K H d x/\Reps K H ds r
end
theorem Same.seqT {K:apD} {H H':Hp} {a:Addr} {xs:List V} (e:Same H H') (h:SqT K H a xs):SqT K H' a xs:=by
 rcases h with (h | ⟨o,h⟩) | h
 ·exact .inl (.inl (e _ _ h))
 ·exact .inl (.inr ⟨o,e _ _ h⟩)
 ·exact .inr h
mutual
theorem Rep.mono {K:apD} {H H':Hp} (e:Same H H'):∀ (d:PyData) (v:V),Rep K H d v->Rep K H' d v
 | .none,_,h=>by rw [Rep] at h ⊢;exact h
 | .bool _,_,h=>by rw [Rep] at h ⊢;exact h
 | .int _,_,h=>by rw [Rep] at h ⊢;exact h
 | .str _,_,h=>by rw [Rep] at h ⊢;exact h
 | .list ds,v,h=>by
  rw [Rep] at h ⊢
  obtain⟨a,xs,h1,h2,h3⟩:=h
  exact⟨a,xs,h1,e.seq h2,Reps.mono e ds xs h3⟩
 | .tuple ds,v,h=>by
  rw [Rep] at h ⊢
  obtain⟨a,xs,h1,h2,h3⟩:=h
  exact⟨a,xs,h1,e.seqT h2,Reps.mono e ds xs h3⟩
 | .dict _,_,h=>by rw [Rep] at h;exact h.elim
theorem Reps.mono {K:apD} {H H':Hp} (e:Same H H'):∀ (ds:List PyData) (xs:List V),Reps K H ds xs->Reps K H' ds xs
 | [],_,h=>by rw [Reps] at h ⊢;exact h
 | d :: ds,xs,h=>by
  rw [Reps] at h ⊢
  obtain⟨x,r,h1,h2,h3⟩:=h
  exact⟨x,r,h1,Rep.mono e d x h2,Reps.mono e ds r h3⟩
end
theorem rep_int {K:apD} {H:Hp} {i:Int} {v:V}:Rep K H (.int i) v↔v=.int i:=by rw [Rep]
theorem rep_bool {K:apD} {H:Hp} {b:Bool} {v:V}:Rep K H (.bool b) v↔v=.bl b:=by rw [Rep]
theorem rep_none {K:apD} {H:Hp} {v:V}:Rep K H .none v↔v=.non:=by rw [Rep]
theorem rep_str {K:apD} {H:Hp} {x:Str} {v:V}:Rep K H (.str x) v↔v=.str x:=by rw [Rep]
theorem rep_list {K:apD} {H:Hp} {ds:List PyData} {v:V}:Rep K H (.list ds) v↔∃ a xs,v=.ref a/\SqL K H a xs/\Reps K H ds xs:=by rw [Rep]
theorem rep_tuple {K:apD} {H:Hp} {ds:List PyData} {v:V}:Rep K H (.tuple ds) v↔∃ a xs,v=.ref a/\SqT K H a xs/\Reps K H ds xs:=by rw [Rep]
theorem reps_nil {K:apD} {H:Hp} {xs:List V}:Reps K H [] xs↔xs=[]:=by rw [Reps]
theorem reps_cons {K:apD} {H:Hp} {d:PyData} {ds:List PyData} {xs:List V}:Reps K H (d :: ds) xs↔∃ x r,xs=x :: r/\Rep K H d x/\Reps K H ds r:=by rw [Reps]
theorem Reps.nil' {K:apD} {H:Hp}:Reps K H [] []:=reps_nil.mpr rfl
theorem Reps.cons' {K:apD} {H:Hp} {d:PyData} {ds:List PyData} {x:V} {r:List V} (h:Rep K H d x) (t:Reps K H ds r):Reps K H (d :: ds) (x :: r):=reps_cons.mpr ⟨x,r,rfl,h,t⟩
theorem Reps.length {K:apD} {H:Hp}:∀ {ds:List PyData} {xs:List V},Reps K H ds xs->xs.length=ds.length
 | [],xs,h=>by rw [reps_nil.mp h];rfl
 | d :: ds,xs,h=>by
  obtain⟨x,r,rfl,_,h3⟩:=reps_cons.mp h
  rw [apT,apT,Reps.length h3]
theorem Reps.get {K:apD} {H:Hp}:∀ {ds:List PyData} {xs:List V} {i:Nat} {d:PyData},Reps K H ds xs->ds[i]?=some d->∃ x,xs[i]?=some x/\Rep K H d x
 | [],_,_,_,_,e=>by simp at e
 | d :: ds,xs,0,d',h,e=>by
  obtain⟨x,r,rfl,h2,_⟩:=reps_cons.mp h
  simp at e;subst e
  exact⟨x,rfl,h2⟩
 | d :: ds,xs,i+1,d',h,e=>by
  obtain⟨x,r,rfl,_,h3⟩:=reps_cons.mp h
  obtain⟨y,h1,h2⟩:=Reps.get (i:=i) h3 (by simpa using e)
  exact⟨y,by simpa using h1,h2⟩
theorem Reps.snoc {K:apD} {H:Hp} {d:PyData} {x:V} (h:Rep K H d x):∀ {ds:List PyData} {xs:List V},Reps K H ds xs->Reps K H (ds++[d]) (xs++[x])
 | [],xs,t=>by rw [reps_nil.mp t];exact .cons' h .nil'
 | d' :: ds,xs,t=>by
  obtain⟨y,r,rfl,h2,h3⟩:=reps_cons.mp t
  exact .cons' h2 (Reps.snoc h h3)
theorem Reps.append {K:apD} {H:Hp}:∀ {ds es:List PyData} {xs ys:List V},Reps K H ds xs->Reps K H es ys->Reps K H (ds++es) (xs++ys)
 | [],es,xs,ys,t,u=>by rw [reps_nil.mp t];exact u
 | d' :: ds,es,xs,ys,t,u=>by
  obtain⟨y,r,rfl,h2,h3⟩:=reps_cons.mp t
  exact .cons' h2 (Reps.append h3 u)
theorem Reps.ints {K:apD} {H:Hp}:∀ {ns:List Int} {xs:List V},Reps K H (ns.map .int) xs->xs=ns.map V.int
 | [],xs,h=>reps_nil.mp h
 | n :: ns,xs,h=>by
  obtain⟨x,r,rfl,h2,h3⟩:=reps_cons.mp h
  rw [rep_int.mp h2,Reps.ints h3];rfl
theorem Reps.ints' {K:apD} {H:Hp}:∀ (ns:List Int),Reps K H (ns.map .int) (ns.map V.int)
 | []=>.nil'
 | n :: ns=>.cons' (rep_int.mpr rfl) (Reps.ints' ns)
section
variable {X:Cx} {pins:List (Addr×Obj)} {σ:St} {H:Hp} {s:Shared}
mutual
theorem qi (I:Inv X pins σ H s):∀ (d:PyData) (v:V) (u:Value),Rep X.K H d v->RelV v u->∃ as,Reads s.heap u d as
 | .none,v,u,h,r=>by rw [rep_none.mp h] at r;cases r;exact⟨_,.none⟩
 | .bool b,v,u,h,r=>by rw [rep_bool.mp h] at r;cases r;exact⟨_,.bool b⟩
 | .int i,v,u,h,r=>by rw [rep_int.mp h] at r;obtain⟨t,rfl⟩:=r;exact⟨_,.int i t⟩
 | .str x,v,u,h,r=>by rw [rep_str.mp h] at r;obtain⟨t,rfl⟩:=r;exact⟨_,.str x t⟩
 | .list ds,v,u,h,r=>by
  obtain⟨a,xs,rfl,h2,h3⟩:=rep_list.mp h
  cases r
  obtain⟨its,rv,p,_⟩:=I.list h2
  obtain⟨o,ho,hc,n,hd⟩:=p.isList
  obtain⟨as,ra⟩:=jQ I ds xs its h3 rv
  exact⟨_,.list ho hc hd (by simpa using ra)⟩
 | .tuple ds,v,u,h,r=>by
  obtain⟨a,xs,rfl,h2,h3⟩:=rep_tuple.mp h
  cases r
  obtain⟨its,rv,p,_⟩:=I.tuple h2
  obtain⟨o,ho,hc,n,hd⟩:=p
  obtain⟨as,ra⟩:=jQ I ds xs its h3 rv
  exact⟨_,.tuple ho hc hd (by simpa using ra)⟩
 | .dict _,_,_,h,_=>by rw [Rep] at h;exact h.elim
theorem jQ (I:Inv X pins σ H s):∀ (ds:List PyData) (xs:List V) (us:List Value),Reps X.K H ds xs->Vals xs us->∃ as,ReadsAll s.heap us ds as
 | [],xs,us,h,r=>by rw [reps_nil.mp h] at r;cases r;exact⟨_,.nil⟩
 | d :: ds,xs,us,h,r=>by
  obtain⟨x,q,rfl,h2,h3⟩:=reps_cons.mp h
  cases r with
  | cons r1 r2 =>
   obtain⟨as,ra⟩:=qi I d x _ h2 r1
   obtain⟨bs,rb⟩:=jQ I ds q _ h3 r2
   exact⟨_,.cons ra rb⟩
end
noncomputable def ai4 (K:apD) (neg:Bool):R2:=fun x y H Q=>∃ d d',Rep K H d x/\Rep K H d' y/\d.canLay0=true/\d'.canLay0=true/\min d.depth d'.depth<=60/\Q (.bl (if neg then !aqc d d' else aqc d d')) H
theorem anc (hu:X.A.units+64<cLine):OpR X (compareOp .Eq) (ai4 X.K false):=by
 intro pins s σ H x y v u Q I rx ry h
 obtain⟨d,d',h1,h2,c1,c2,hm,q⟩:=h
 obtain⟨as,ra⟩:=qi I d x v h1 rx
 obtain⟨bs,rb⟩:=qi I d' y u h2 ry
 exact SeqAt.compareEq_reads ra rb c1 c2 (by omega) ⟨.bl (aqc d d'),H,I,rfl,q⟩
theorem ane (hu:X.A.units+64<cLine):OpR X (compareOp .NotEq) (ai4 X.K true):=by
 intro pins s σ H x y v u Q I rx ry h
 obtain⟨d,d',h1,h2,c1,c2,hm,q⟩:=h
 obtain⟨as,ra⟩:=qi I d x v h1 rx
 obtain⟨bs,rb⟩:=qi I d' y u h2 ry
 exact SeqAt.compareNe_reads ra rb c1 c2 (by omega) ⟨.bl (!aqc d d'),H,I,rfl,q⟩
theorem ahP (hc:X.calm=true):z9 X (.builtin "min") (fun xs H Q=>∃ a ns,xs=[.ref a]/\SqL X.K H a (ns.map V.int)/\ns≠[]/\∀ M,M∈ns->(∀ b∈ns,M<=b)->Q (.int M) H):=by
 intro pins s σ H xs us Q I r h
 obtain⟨a,ns,rfl,hq,hne,q⟩:=h
 obtain⟨u,rfl,r1⟩:=vals1 r
 cases r1
 obtain⟨its,rv,p,_⟩:=I.list hq
 obtain⟨m,F⟩:=I.fr
 have hi:=intsAre_of rv
 obtain⟨ys,e⟩:=hi.allInts.items
 have hns:ns=ys.toList.map (·.1):=by rw [<-hi.numsOf,<- nums_intItems,<- e]
 have hsz:0<ys.size:=by
  have h3:0<ns.length:=atW.mpr hne
  rw [hns,apC,apY] at h3;exact h3
 have hl:=p.isList
 rw [e] at hl
 refine min_intList (I.ok.hd hc) hl hsz fun v h' tk hv hk=>?_
 obtain⟨t,rfl⟩:=intItems_at hv
 obtain⟨_,h2⟩:=argBest_lt (numAt ys) (ys.size - 1)
 refine⟨.int _,H,I.kept (t':=tk) hk,⟨t,rfl⟩,q _ ?_ fun b hb=>?_⟩
 ·rw [hns,numAt_eq];exact getD_mem (by rw [apC,apY];omega)
 ·rw [hns] at hb
  obtain⟨j,hj,rfl⟩:=mem_getD hb
  rw [apC,apY] at hj
  rw [<-numAt_eq];exact h2 j (by omega)
theorem ahQ (hc:X.calm=true):z9 X (.builtin "max") (fun xs H Q=>∃ a ns,xs=[.ref a]/\SqL X.K H a (ns.map V.int)/\ns≠[]/\∀ M,M∈ns->(∀ b∈ns,b<=M)->Q (.int M) H):=by
 intro pins s σ H xs us Q I r h
 obtain⟨a,ns,rfl,hq,hne,q⟩:=h
 obtain⟨u,rfl,r1⟩:=vals1 r
 cases r1
 obtain⟨its,rv,p,_⟩:=I.list hq
 have hi:=intsAre_of rv
 obtain⟨ys,e⟩:=hi.allInts.items
 have hns:ns=ys.toList.map (·.1):=by rw [<-hi.numsOf,<- nums_intItems,<- e]
 have hsz:0<ys.size:=by
  have h3:0<ns.length:=atW.mpr hne
  rw [hns,apC,apY] at h3;exact h3
 have hl:=p.isList
 rw [e] at hl
 refine max_intList (I.ok.hd hc) hl hsz fun v h' tk hv hk=>?_
 obtain⟨t,rfl⟩:=intItems_at hv
 obtain⟨_,h2⟩:=argBest_gt (numAt ys) (ys.size - 1)
 refine⟨.int _,H,I.kept (t':=tk) hk,⟨t,rfl⟩,q _ ?_ fun b hb=>?_⟩
 ·rw [hns,numAt_eq];exact getD_mem (by rw [apC,apY];omega)
 ·rw [hns] at hb
  obtain⟨j,hj,rfl⟩:=mem_getD hb
  rw [apC,apY] at hj
  rw [<-numAt_eq];exact h2 j (by omega)
end
inductive DV where
 | dat (d:PyData)
 | feed
 | own (k:Nat)
 | exc (C:Value)
 | mon (φ:Hp->V->Prop)
noncomputable abbrev zp:=List (Option DV)
structure Fx where
 f:Option Addr
 M:List Addr
noncomputable def hide (H:Hp) (f:Fx):Hp:=fun b=>if f.f=some b \/ b∈f.M then none else H b
structure FOk (f:Fx) (H:Hp):Prop where
 fd:∀ p,f.f=some p->∃ a b:Int,H p=some (.lst [.int a,.int b])/\0<=a/\0<=b/\b<2147483647
 mm:∀ b∈f.M,∃ o,H b=some o
 nm:∀ p,f.f=some p->p∉f.M
noncomputable def RepV (K:apD) (f:Fx) (H:Hp):DV->V->Prop
 | .dat d,v=>Rep K (hide H f) d v
 | .feed,v=>∃ p,f.f=some p/\v=.ref p
 | .own k,v=>∃ p,f.M.reverse[k]?=some p/\v=.ref p
 | .exc C,v=>∃ a,v=.ref a/\hide H f a=some (.ext fun h=>∃ o,h.get? a=some o/\o.cls=C)
 | .mon φ,v=>∀ H',Same (hide H f) H'->φ H' v
structure Goes (f:Fx) (H H':Hp):Prop where
 sm:Same (hide H f) (hide H' f)
 ok:FOk f H'
 kp:∀ b∈f.M,H' b=H b
structure EnvOk (K:apD) (f:Fx) (ρ:zp) (σ:St) (H:Hp):Prop where
 len:ρ.length=σ.length
 get:∀ (i:Nat) x,ρ[i]?=some (some x)->∃ v,σ[i]?=some (some v)/\RepV K f H x v
 fd:FOk f H
theorem yT (H:Hp):hide H ⟨none,[]⟩=H:=by funext b;unfold hide;rw [if_neg (by rintro (h | h) <;> cases h)]
theorem zh (H:Hp) (f:Fx):Same (hide H f) H:=fun b o h=>by
 unfold hide at h
 split at h
 ·cases h
 ·exact h
theorem zA {H:Hp} {f:Fx} {b:Addr} {o:HO} (h:hide H f b=some o):¬ (f.f=some b \/ b∈f.M)/\H b=some o:=by
 unfold hide at h
 split at h
 ·cases h
 ·rename_i n;exact⟨n,h⟩
theorem zu {H:Hp} {f:Fx} {b:Addr} {o:HO} (n:¬ (f.f=some b \/ b∈f.M)) (h:H b=some o):hide H f b=some o:=by unfold hide;rw [if_neg n];exact h
theorem Goes.refl {f:Fx} {H:Hp} (h:FOk f H):Goes f H H:=⟨Same.refl _,h,fun _ _=>rfl⟩
theorem Goes.trans {f:Fx} {H H1 H2:Hp} (a:Goes f H H1) (b:Goes f H1 H2):Goes f H H2:=⟨a.1.trans b.1,b.2,fun x hx=>(b.kp x hx).trans (a.kp x hx)⟩
theorem Goes.of_same {f:Fx} {H H':Hp} (s:Same H H') (h:FOk f H):Goes f H H' :=
 ⟨fun b o e=>zu (zA e).1 (s b o (zA e).2),⟨fun p e=>let⟨a,b,h1,h2⟩:=h.fd p e;⟨a,b,s _ _ h1,h2⟩,fun b hb=>let⟨o,e⟩:=h.mm b hb;⟨o,s _ _ e⟩,h.nm⟩,fun b hb=>let⟨o,e⟩:=h.mm b hb;(s _ _ e).trans e.symm⟩
theorem zI {H:Hp} {p:Addr} (h:H p=none) (o:HO):Same H (upd H p o):=fun b u q=>by rw [zm (zF q h)];exact q
theorem RepV.mono {K:apD} {f:Fx} {H H':Hp} (g:Goes f H H'):∀ {x:DV} {v:V},RepV K f H x v->RepV K f H' x v
 | .dat d,v,h=>Rep.mono g.1 d v h
 | .feed,v,h=>h
 | .own _,v,h=>h
 | .exc _,v,h=>let⟨a,e,q⟩:=h;⟨a,e,g.1 _ _ q⟩
 | .mon _,v,h=>fun H' s=>h H' (g.1.trans s)
theorem EnvOk.mono {K:apD} {f:Fx} {ρ:zp} {σ:St} {H H':Hp} (e:EnvOk K f ρ σ H) (g:Goes f H H'):EnvOk K f ρ σ H' :=
 ⟨e.len,fun i x h=>let⟨v,h1,h2⟩:=e.get i x h;⟨v,h1,h2.mono g⟩,g.2⟩
theorem EnvOk.set {K:apD} {f:Fx} {ρ:zp} {σ:St} {H:Hp} {x:DV} {v:V} (e:EnvOk K f ρ σ H) (i:Nat) (r:RepV K f H x v):EnvOk K f (ρ.set i (some x)) (σ.set i (some v)) H:=by
 refine⟨by rw [aqB,aqB];exact e.len,fun j y h=>?_,e.fd⟩
 by_cases hj:i=j
 ·subst hj
  by_cases hi:i<ρ.length
  ·rw [aqm hi] at h
   cases h
   exact⟨v,by rw [aqm (by rw [<-e.len];exact hi)],r⟩
  ·rw [ap7 (by rw [aqB];omega)] at h;cases h
 ·rw [aqs hj] at h ⊢
  exact e.get j y h
theorem fresh_ne {f:Fx} {H:Hp} {p:Addr} (h:FOk f H) (n:H p=none):¬ (f.f=some p \/ p∈f.M):=fun e=>by
 rcases e with e | e
 ·obtain⟨a,b,h1,_⟩:=h.fd p e
  rw [n] at h1;cases h1
 ·obtain⟨o,h1⟩:=h.mm p e
  rw [n] at h1;cases h1
inductive RepVs (K:apD) (f:Fx) (H:Hp):List DV->List V->Prop where
 | nil:RepVs K f H [] []
 | cons {x v xs vs}:RepV K f H x v->RepVs K f H xs vs->RepVs K f H (x :: xs) (v :: vs)
theorem RepVs.mono {K:apD} {f:Fx} {H H':Hp} (g:Goes f H H'):∀ {xs:List DV} {vs:List V},RepVs K f H xs vs->RepVs K f H' xs vs
 | _,_,.nil=>.nil
 | _,_,.cons r t=>.cons (r.mono g) (t.mono g)
theorem RepVs.length {K:apD} {f:Fx} {H:Hp}:∀ {xs:List DV} {vs:List V},RepVs K f H xs vs->vs.length=xs.length
 | _,_,.nil=>rfl
 | _,_,.cons _ t=>by rw [apT,apT,t.length]
section
variable (K:apD) (f:Fx)
noncomputable def PEd (te:TE) (ρ:zp) (P:PyData->Prop):Prop:=∀ (σ:St) (H:Hp) (Q:VK),EnvOk K f ρ σ H->(∀ d v H',Goes f H H'->Rep K (hide H' f) d v->P d->Q v H')->te σ H Q
noncomputable def PTd (tt:TT) (ρ:zp) (P:Bool->Prop):Prop:=∀ (σ:St) (H:Hp) (Q:Bool->Hp->Prop),EnvOk K f ρ σ H->(∀ b H',Goes f H H'->P b->Q b H')->tt σ H Q
noncomputable def PAd (ta:TA) (ρ:zp) (P:List DV->Prop):Prop:=∀ (σ:St) (H:Hp) (Q:List V->Hp->Prop),EnvOk K f ρ σ H->(∀ xs vs H',Goes f H H'->RepVs K f H' xs vs->P xs->Q vs H')->ta σ H Q
structure DEnds where
 nx:zp->Prop
 rt:PyData->Prop
 bk:zp->Prop:=fun _=>False
 ct:zp->Prop:=fun _=>False
noncomputable def PSd (ts:TS) (ρ:zp) (D:DEnds):Prop:=∀ (σ:St) (H:Hp) (E:Ends),EnvOk K f ρ σ H->(∀ ρ' σ' H',Goes f H H'->EnvOk K f ρ' σ' H'->D.nx ρ'->E.nx σ' H')->(∀ d v H',Goes f H H'->Rep K (hide H' f) d v->D.rt d->E.rt v H') ->
 (∀ ρ' σ' H',Goes f H H'->EnvOk K f ρ' σ' H'->D.bk ρ'->E.bk σ' H')->(∀ ρ' σ' H',Goes f H H'->EnvOk K f ρ' σ' H'->D.ct ρ'->E.ct σ' H')->ts E σ H
noncomputable def spD {γ:Type} (n:Nat) (pre:γ->List DV->Prop) (post:γ->PyData->Prop):Sp:=fun vs H Q _=>∃ f xs c,RepVs K f H xs vs/\xs.length=n/\FOk f H/\pre c xs/\∀ r v H',Goes f H H'->Rep K (hide H' f) r v->post c r->Q v H'
end
section
variable {K:apD} {f:Fx} {ρ:zp} {P:PyData->Prop} {te ta tb tc:TE}
theorem zq {i:Nat} {d:PyData} (h:ρ[i]?=some (some (.dat d))) (p:P d):PEd K f (yp i) ρ P:=fun σ H Q e q=>by
 obtain⟨v,h1,h2⟩:=e.get i _ h
 exact⟨v,h1,q d v H (.refl e.fd) h2 p⟩
theorem yy {i:Int} (p:P (.int i)):PEd K f (tC (.int i)) ρ P:=fun σ H Q e q=>q (.int i) _ H (.refl e.fd) (rep_int.mpr rfl) p
theorem ai5 {i:Bool} (p:P (.bool i)):PEd K f (tC (.bl i)) ρ P:=fun σ H Q e q=>q (.bool i) _ H (.refl e.fd) (rep_bool.mpr rfl) p
theorem qj {i:Str} (p:P (.str i)):PEd K f (tC (.str i)) ρ P:=fun σ H Q e q=>q (.str i) _ H (.refl e.fd) (rep_str.mpr rfl) p
theorem ai6 (p:P .none):PEd K f (tC .non) ρ P:=fun σ H Q e q=>q .none _ H (.refl e.fd) (rep_none.mpr rfl) p
theorem PEd.imp {P':PyData->Prop} (h:PEd K f te ρ P) (i:∀ d,P d->P' d):PEd K f te ρ P':=fun σ H Q e q=>h σ H Q e fun d v H' g r p=>q d v H' g r (i d p)
theorem acT {r:R2} (h:PEd K f ta ρ fun x=>PEd K f tb ρ fun y=>∀ (v w:V) (H:Hp) (Q:VK),FOk f H->Rep K (hide H f) x v->Rep K (hide H f) y w->(∀ d u H',Goes f H H'->Rep K (hide H' f) d u->P d->Q u H')->r v w H Q):PEd K f (tOp r ta tb) ρ P:=fun σ H Q e q =>
 h σ H _ e fun x v H1 g1 r1 p1=>p1 σ H1 _ (e.mono g1) fun y w H2 g2 r2 p2=>p2 v w H2 Q g2.2 (Rep.mono g2.1 x v r1) r2 fun d u H' g' r' p'=>q d u H' (g1.trans (g2.trans g')) r' p'
theorem apu {r:V->Hp->VK->Prop} (h:PEd K f ta ρ fun x=>∀ (v:V) (H:Hp) (Q:VK),FOk f H->Rep K (hide H f) x v->(∀ d u H',Goes f H H'->Rep K (hide H' f) d u->P d->Q u H')->r v H Q):PEd K f (tUn r ta) ρ P:=fun σ H Q e q =>
 h σ H _ e fun x v H1 g1 r1 p1=>p1 v H1 Q g1.2 r1 fun d u H' g' r' p'=>q d u H' (g1.trans g') r' p'
theorem ad8 {g:Int->Int->Int} (h:PEd K f ta ρ fun x=>∃ i,x=.int i/\PEd K f tb ρ fun y=>∃ j,y=.int j/\P (.int (g i j))):PEd K f (tOp (rI0 fun i j=>.int (g i j)) ta tb) ρ P :=
 acT (h.imp fun x ⟨i,ex,h2⟩=>h2.imp fun y ⟨j,ey,p⟩ v w H Q fo rx ry q=>by
  subst ex ey
  exact⟨i,j,rep_int.mp rx,rep_int.mp ry,q _ _ H (.refl fo) (rep_int.mpr rfl) p⟩)
theorem ai7 {C:Int->Int->Prop} {g:Int->Int->Int} (h:PEd K f ta ρ fun x=>∃ i,x=.int i/\PEd K f tb ρ fun y=>∃ j,y=.int j/\C i j/\P (.int (g i j))):PEd K f (tOp (rI C fun i j=>.int (g i j)) ta tb) ρ P :=
 acT (h.imp fun x ⟨i,ex,h2⟩=>h2.imp fun y ⟨j,ey,c,p⟩ v w H Q fo rx ry q=>by
  subst ex ey
  exact⟨i,j,rep_int.mp rx,rep_int.mp ry,c,q _ _ H (.refl fo) (rep_int.mpr rfl) p⟩)
theorem ad9 {g:Int->Int->Bool} (h:PEd K f ta ρ fun x=>∃ i,x=.int i/\PEd K f tb ρ fun y=>∃ j,y=.int j/\P (.bool (g i j))):PEd K f (tOp (rI0 fun i j=>.bl (g i j)) ta tb) ρ P :=
 acT (h.imp fun x ⟨i,ex,h2⟩=>h2.imp fun y ⟨j,ey,p⟩ v w H Q fo rx ry q=>by
  subst ex ey
  exact⟨i,j,rep_int.mp rx,rep_int.mp ry,q _ _ H (.refl fo) (rep_bool.mpr rfl) p⟩)
theorem jF {neg:Bool} (h:PEd K f ta ρ fun x=>PEd K f tb ρ fun y=>x.canLay0=true/\y.canLay0=true/\min x.depth y.depth<=60/\P (.bool (if neg then !aqc x y else aqc x y))):PEd K f (tOp (ai4 K neg) ta tb) ρ P :=
 acT (h.imp fun x h2=>h2.imp fun y ⟨c1,c2,c3,p⟩ v w H Q fo rx ry q =>
  ⟨x,y,Rep.mono (zh _ _) x v rx,Rep.mono (zh _ _) y w ry,c1,c2,c3,q _ _ H (.refl fo) (rep_bool.mpr rfl) p⟩)
theorem anf {n:Nat} {k:Int} {j:Nat} (h:(j:Int)=k) (hj:j<n):ixN n k=some j:=by
 unfold ixN
 rw [if_pos (by omega),if_pos (by omega)]
 congr 1
 omega
theorem aaA (h:PEd K f ta ρ fun x=>∃ ds,x=.list ds/\PEd K f tb ρ fun y=>∃ k,y=.int k/\∃ d,atI ds k=some d/\P d):PEd K f (tOp (ad0 K) ta tb) ρ P :=
 acT (h.imp fun x ⟨ds,ex,h2⟩=>h2.imp fun y ⟨k,ey,d,a,p⟩ v w H Q fo rx ry q=>by
  subst ex ey
  obtain⟨l,xs,rfl,hs,hr⟩:=rep_list.mp rx
  unfold atI at a
  cases hi:ixN ds.length k with
  | none=>rw [hi] at a;cases a
  | some j =>
   rw [hi] at a
   obtain⟨u,hu,ru⟩:=hr.get a
   exact⟨l,xs,k,u,rfl,rep_int.mp ry,(zh H f).seq hs,by unfold atI;rw [hr.length,hi];exact hu,q d u H (.refl fo) ru p⟩)
theorem aaB (h:PEd K f ta ρ fun x=>∃ ds,x=.tuple ds/\PEd K f tb ρ fun y=>∃ k,y=.int k/\∃ d,atI ds k=some d/\P d):PEd K f (tOp (am5 K) ta tb) ρ P :=
 acT (h.imp fun x ⟨ds,ex,h2⟩=>h2.imp fun y ⟨k,ey,d,a,p⟩ v w H Q fo rx ry q=>by
  subst ex ey
  obtain⟨l,xs,rfl,hs,hr⟩:=rep_tuple.mp rx
  unfold atI at a
  cases hi:ixN ds.length k with
  | none=>rw [hi] at a;cases a
  | some j =>
   rw [hi] at a
   obtain⟨u,hu,ru⟩:=hr.get a
   exact⟨l,xs,k,u,rfl,rep_int.mp ry,(zh H f).seqT hs,by unfold atI;rw [hr.length,hi];exact hu,q d u H (.refl fo) ru p⟩)
theorem amA {i:Nat} (hi:ρ[i]?=some (some .feed)) (h:PEd K f tb ρ fun y=>(y=.int 0/\∀ a:Int,0<=a->P (.int a)) \/ (y=.int 1/\∀ b:Int,0<=b->b<2147483647->P (.int b))):PEd K f (tOp (ad0 K) (yp i) tb) ρ P:=fun σ H Q e q=>by
 obtain⟨v,h1,p,ef,ev⟩:=e.get i _ hi
 refine⟨v,h1,h σ H _ e fun y w H' g r c=>?_⟩
 obtain⟨a,b,hf,c1,c2,c3⟩:=g.2.fd p ef
 rcases c with⟨rfl,c⟩ | ⟨rfl,c⟩
 ·exact⟨p,_,0,.int a,ev,rep_int.mp r,SqL.of hf,rfl,q (.int a) _ H' g (rep_int.mpr rfl) (c a c1)⟩
 ·exact⟨p,_,1,.int b,ev,rep_int.mp r,SqL.of hf,rfl,q (.int b) _ H' g (rep_int.mpr rfl) (c b c2 c3)⟩
theorem yu {R:List DV->Prop} (p:R []):PAd K f yJ ρ R:=fun σ H Q e q=>q [] [] H (.refl e.fd) .nil p
theorem zJ {R:List DV->Prop} {u:TA} (h:PEd K f te ρ fun x=>PAd K f u ρ fun xs=>R (.dat x :: xs)):PAd K f (zQ te u) ρ R:=fun σ H Q e q =>
 h σ H _ e fun x v H1 g1 r1 p1=>p1 σ H1 _ (e.mono g1) fun xs vs H2 g2 r2 p2=>q (.dat x :: xs) (v :: vs) H2 (g1.trans g2) (.cons (RepV.mono (x:=.dat x) g2 r1) r2) p2
theorem acU {R:List DV->Prop} {u:TA} {i:Nat} (hi:ρ[i]?=some (some .feed)) (h:PAd K f u ρ fun xs=>R (.feed :: xs)):PAd K f (zQ (yp i) u) ρ R:=fun σ H Q e q=>by
 obtain⟨v,h1,h2⟩:=e.get i _ hi
 exact⟨v,h1,h σ H _ e fun xs vs H2 g2 r2 p2=>q (.feed :: xs) (v :: vs) H2 g2 (.cons (RepV.mono (x:=.feed) g2 h2) r2) p2⟩
noncomputable def qz:List DV->Option (List PyData)
 | []=>some []
 | .dat d :: r=>(qz r).map (d :: ·)
 | .feed :: _=>none
 | .own _ :: _=>none
 | .exc _ :: _=>none
 | .mon _ :: _=>none
theorem vg {H:Hp}:∀ {xs:List DV} {vs:List V} {ds:List PyData},RepVs K f H xs vs->qz xs=some ds->Reps K (hide H f) ds vs
 | _,_,ds,.nil,e=>by cases e;exact .nil'
 | .dat d :: xs,v :: vs,ds,.cons r t,e=>by
  unfold qz at e
  cases q:qz xs with
  | none=>rw [q] at e;cases e
  | some es=>rw [q] at e;cases e;exact .cons' r (vg t q)
 | .feed :: xs,_,ds,.cons r t,e=>by cases e
 | .own _ :: xs,_,ds,.cons r t,e=>by cases e
 | .exc _ :: xs,_,ds,.cons r t,e=>by cases e
 | .mon _ :: xs,_,ds,.cons r t,e=>by cases e
theorem aea {t:TA} (h:PAd K f t ρ fun xs=>∃ ds,qz xs=some ds/\ds.length<=1000/\P (.list ds)):PEd K f (afu t) ρ P:=fun σ H Q e q =>
 h σ H _ e fun xs vs H1 g1 r1 ⟨ds,ea,hl,p⟩=>by
  have rs:=vg r1 ea
  refine⟨by rw [rs.length];exact aq4 (zW hl),fun l hn=>?_⟩
  have sm:=zI hn (.lst vs)
  have g2:Goes f H1 (upd H1 l (.lst vs)):=.of_same sm g1.2
  exact q (.list ds) _ _ (g1.trans g2) (rep_list.mpr ⟨l,vs,rfl,.of (zu (fresh_ne g1.2 hn) zo),Reps.mono g2.1 ds vs rs⟩) p
theorem abe {t:TA} (h:PAd K f t ρ fun xs=>∃ ds,qz xs=some ds/\ds.length<=1000/\P (.tuple ds)):PEd K f (aoJ t) ρ P:=fun σ H Q e q =>
 h σ H _ e fun xs vs H1 g1 r1 ⟨ds,ea,hl,p⟩=>by
  have rs:=vg r1 ea
  refine⟨by rw [rs.length];exact aq4 (zW hl),fun l hn=>?_⟩
  have sm:=zI hn (.tup vs)
  have g2:Goes f H1 (upd H1 l (.tup vs)):=.of_same sm g1.2
  exact q (.tuple ds) _ _ (g1.trans g2) (rep_tuple.mpr ⟨l,vs,rfl,.of (zu (fresh_ne g1.2 hn) zo),Reps.mono g2.1 ds vs rs⟩) p
theorem zr {γ:Type} {n:Nat} {pre:γ->List DV->Prop} {post:γ->PyData->Prop} {E:XK} {t:TA} (c:γ) (h:PAd K f t ρ fun xs=>xs.length=n/\pre c xs/\∀ r,post c r->P r):PEd K f (vx (spD K n pre post) [] E t) ρ P:=fun σ H Q e q =>
 h σ H _ e fun xs vs H1 g1 r1 ⟨hl,hp,k⟩=>by
  refine⟨f,xs,c,by rw [aqe];exact r1,hl,g1.2,hp,fun r v H' g' r' p'=>q r v H' (g1.trans g') r' (k r p')⟩
theorem afz {r:List V->Hp->VK->Prop} {t:TA} (h:PAd K f t ρ fun xs=>∃ ds,qz xs=some ds/\∀ (vs:List V) (H:Hp) (Q:VK),FOk f H->Reps K (hide H f) ds vs->(∀ d u H',Goes f H H'->Rep K (hide H' f) d u->P d->Q u H')->r vs H Q):PEd K f (tCB r t) ρ P:=fun σ H Q e q =>
 h σ H _ e fun xs vs H1 g1 r1 ⟨ds,ea,k⟩=>k vs H1 Q g1.2 (vg r1 ea) fun d u H' g' r' p'=>q d u H' (g1.trans g') r' p'
end
section
variable {K:apD} {f:Fx} {ρ:zp} {P:PyData->Prop} {B:Bool->Prop} {te ta tb tc:TE} {tt tu:TT}
theorem PTd.imp {B':Bool->Prop} (h:PTd K f tt ρ B) (i:∀ d,B d->B' d):PTd K f tt ρ B':=fun σ H Q e q=>h σ H Q e fun d H' g p=>q d H' g (i d p)
theorem yC (h:PEd K f te ρ fun d=>∃ k,d=.bool k/\B k):PTd K f (ago te) ρ B:=fun σ H Q e q=>h σ H _ e fun d v H' g r ⟨k,ed,p⟩=>by
 subst ed
 exact⟨k,rep_bool.mp r,q k H' g p⟩
theorem agw (h:PTd K f tt ρ fun c=>if c=true then PTd K f tu ρ B else B false):PTd K f (aoD tt tu) ρ B:=fun σ H Q e q=>h σ H _ e fun c H1 g p=>by
 cases c with
 | true =>
  rw [if_pos rfl] at p ⊢
  exact p σ H1 Q (e.mono g) fun b H2 g2 p2=>q b H2 (g.trans g2) p2
 | false =>
  rw [if_neg apB] at p ⊢
  exact q false H1 g p
theorem ai8 (h:PTd K f tt ρ fun c=>if c=true then B true else PTd K f tu ρ B):PTd K f (tOr tt tu) ρ B:=fun σ H Q e q=>h σ H _ e fun c H1 g p=>by
 cases c with
 | true =>
  rw [if_pos rfl] at p ⊢
  exact q true H1 g p
 | false =>
  rw [if_neg apB] at p ⊢
  exact p σ H1 Q (e.mono g) fun b H2 g2 p2=>q b H2 (g.trans g2) p2
theorem qU (h:PTd K f tt ρ fun c=>B (!c)):PTd K f (aoE tt) ρ B:=fun σ H Q e q=>h σ H _ e fun c H1 g p=>q (!c) H1 g p
noncomputable def apv:PyData->Option Bool
 | .none=>some false
 | .bool b=>some b
 | .int i=>some (i != 0)
 | .list ds=>some (!ds.isEmpty)
 | .tuple ds=>some (!ds.isEmpty)
 | _=>none
noncomputable def ang (K:apD) (ta:TE):TT:=fun σ H Q=>ta σ H fun x H'=>∃ k,am2 K x H' k/\Q k H'
theorem anh {X:Cx} {a:Expr} (ha:PE X a ta) (he:∀ whole,isTrue a X.env whole=(do let v <- whole;standAt a.pos;holding [v] (truthy v))):PT X a (ang X.K ta):=aiY ha he
theorem yW (h:PEd K f ta ρ fun d=>∃ k,apv d=some k/\B k):PTd K f (ang K ta) ρ B:=fun σ H Q e q=>h σ H _ e fun d v H' g r ⟨k,ed,p⟩=>by
 refine⟨k,?_,q k H' g p⟩
 cases d with
 | none=>rw [rep_none.mp r];cases ed;rfl
 | bool b=>rw [rep_bool.mp r];cases ed;rfl
 | int i=>rw [rep_int.mp r];cases ed;rfl
 | str x=>cases ed
 | list ds =>
  obtain⟨a,xs,rfl,h1,h2⟩:=rep_list.mp r
  cases ed
  refine .inl ⟨xs,(zh _ _).seq h1,?_⟩
  cases ds with
  | nil=>rw [reps_nil.mp h2];rfl
  | cons d ds=>obtain⟨x,r,rfl,_⟩:=reps_cons.mp h2;rfl
 | tuple ds =>
  obtain⟨a,xs,rfl,h1,h2⟩:=rep_tuple.mp r
  cases ed
  refine .inr (.inl ⟨xs,(zh _ _).seqT h1,?_⟩)
  cases ds with
  | nil=>rw [reps_nil.mp h2];rfl
  | cons d ds=>obtain⟨x,r,rfl,_⟩:=reps_cons.mp h2;rfl
 | dict _=>cases ed
theorem ahR (h:PTd K f tt ρ fun c=>if c=true then PEd K f ta ρ P else PEd K f tb ρ P):PEd K f (tIf tt ta tb) ρ P:=fun σ H Q e q=>h σ H _ e fun c H1 g p=>by
 cases c with
 | true=>rw [if_pos rfl] at p ⊢;exact p σ H1 Q (e.mono g) fun d v H2 g2 r2 p2=>q d v H2 (g.trans g2) r2 p2
 | false=>rw [if_neg apB] at p ⊢;exact p σ H1 Q (e.mono g) fun d v H2 g2 r2 p2=>q d v H2 (g.trans g2) r2 p2
theorem afA (h:PEd K f ta ρ fun x=>∃ c,x=.bool c/\if c=true then PEd K f tb ρ P else P (.bool false)):PEd K f (amu ta tb) ρ P:=fun σ H Q e q=>h σ H _ e fun x v H1 g r ⟨c,ex,p⟩=>by
 subst ex
 refine⟨c,rep_bool.mp r,?_⟩
 cases c with
 | true=>rw [if_pos rfl] at p ⊢;exact p σ H1 Q (e.mono g) fun d v H2 g2 r2 p2=>q d v H2 (g.trans g2) r2 p2
 | false=>rw [if_neg apB] at p ⊢;exact q _ _ H1 g (rep_bool.mpr rfl) p
theorem ai9 (h:PEd K f ta ρ fun x=>∃ c,x=.bool c/\if c=true then P (.bool true) else PEd K f tb ρ P):PEd K f (aoF ta tb) ρ P:=fun σ H Q e q=>h σ H _ e fun x v H1 g r ⟨c,ex,p⟩=>by
 subst ex
 refine⟨c,rep_bool.mp r,?_⟩
 cases c with
 | true=>rw [if_pos rfl] at p ⊢;exact q _ _ H1 g (rep_bool.mpr rfl) p
 | false=>rw [if_neg apB] at p ⊢;exact p σ H1 Q (e.mono g) fun d v H2 g2 r2 p2=>q d v H2 (g.trans g2) r2 p2
theorem aja (h:PEd K f ta ρ fun x=>∃ c,x=.bool c/\P (.bool !c)):PEd K f (amv ta) ρ P:=fun σ H Q e q=>h σ H _ e fun x v H1 g r ⟨c,ex,p⟩=>by
 subst ex
 exact⟨c,rep_bool.mp r,q _ _ H1 g (rep_bool.mpr rfl) p⟩
theorem acV {g g':Int->Int->Bool} (h:PEd K f ta ρ fun x=>∃ i,x=.int i/\PEd K f tb ρ fun y=>∃ j,y=.int j/\if g i j=true then PEd K f tc ρ fun z=>∃ k,z=.int k/\P (.bool (g' j k)) else P (.bool false)) :
  PEd K f (afq (rI0 fun i j=>.bl (g i j)) (rI0 fun i j=>.bl (g' i j)) ta tb tc) ρ P:=fun σ H Q e q=>h σ H _ e fun x v H1 g1 r1 ⟨i,ex,p1⟩=>p1 σ H1 _ (e.mono g1) fun y w H2 g2 r2 ⟨j,ey,p2⟩=>by
 subst ex ey
 refine⟨i,j,rep_int.mp r1,rep_int.mp r2,g i j,rfl,?_⟩
 by_cases hg:g i j=true
 ·rw [if_pos hg] at p2 ⊢
  exact p2 σ H2 _ ((e.mono g1).mono g2) fun z u H3 g3 r3 ⟨k,ez,p3⟩=>by
   subst ez
   exact⟨j,k,rep_int.mp r2,rep_int.mp r3,q _ _ H3 (g1.trans (g2.trans g3)) (rep_bool.mpr rfl) p3⟩
 ·rw [if_neg hg] at p2 ⊢
  exact q _ _ H2 (g1.trans g2) (rep_bool.mpr rfl) p2
theorem amB {t:TA} (h:PAd K f t ρ fun xs=>(∃ ds,xs=[.dat (.list ds)]/\P (.int ds.length)) \/ (∃ ds,xs=[.dat (.tuple ds)]/\P (.int ds.length))) :
  PEd K f (tCB (fun xs H Q=>∃ p ys,xs=[.ref p]/\(SqL K H p ys \/ SqT K H p ys)/\Q (.int ys.length) H) t) ρ P :=
 afz fun σ H Q e q=>h σ H Q e fun xs vs H' g r p=>by
  rcases p with⟨ds,rfl,p⟩ | ⟨ds,rfl,p⟩
  ·refine q _ vs H' g r ⟨_,rfl,fun vs H Q fo rs k=>?_⟩
   obtain⟨x,r,rfl,h2,h3⟩:=reps_cons.mp rs
   rw [reps_nil.mp h3]
   obtain⟨a,ys,rfl,s1,s2⟩:=rep_list.mp h2
   exact⟨a,ys,rfl,.inl ((zh _ _).seq s1),k (.int ds.length) _ H (.refl fo) (rep_int.mpr (by rw [s2.length])) p⟩
  ·refine q _ vs H' g r ⟨_,rfl,fun vs H Q fo rs k=>?_⟩
   obtain⟨x,r,rfl,h2,h3⟩:=reps_cons.mp rs
   rw [reps_nil.mp h3]
   obtain⟨a,ys,rfl,s1,s2⟩:=rep_tuple.mp h2
   exact⟨a,ys,rfl,.inr ((zh _ _).seqT s1),k (.int ds.length) _ H (.refl fo) (rep_int.mpr (by rw [s2.length])) p⟩
theorem ajb {t:TA} (h:PAd K f t ρ fun xs=>∃ ns:List Int,xs=[.dat (.list (ns.map .int))]/\ns≠[]/\∀ M,M∈ns->(∀ b∈ns,M<=b)->P (.int M)) :
  PEd K f (tCB (fun xs H Q=>∃ a ns,xs=[.ref a]/\SqL K H a (ns.map V.int)/\ns≠[]/\∀ M,M∈ns->(∀ b∈ns,M<=b)->Q (.int M) H) t) ρ P :=
 afz fun σ H Q e q=>h σ H Q e fun xs vs H' g r ⟨ns,ex,hne,p⟩=>by
  subst ex
  refine q _ vs H' g r ⟨_,rfl,fun vs H Q fo rs k=>?_⟩
  obtain⟨x,r,rfl,h2,h3⟩:=reps_cons.mp rs
  rw [reps_nil.mp h3]
  obtain⟨a,ys,rfl,s1,s2⟩:=rep_list.mp h2
  rw [s2.ints] at s1
  exact⟨a,ns,rfl,(zh _ _).seq s1,hne,fun M h1 h2=>k (.int M) _ H (.refl fo) (rep_int.mpr rfl) (p M h1 h2)⟩
theorem ajc {t:TA} (h:PAd K f t ρ fun xs=>∃ ns:List Int,xs=[.dat (.list (ns.map .int))]/\ns≠[]/\∀ M,M∈ns->(∀ b∈ns,b<=M)->P (.int M)) :
  PEd K f (tCB (fun xs H Q=>∃ a ns,xs=[.ref a]/\SqL K H a (ns.map V.int)/\ns≠[]/\∀ M,M∈ns->(∀ b∈ns,b<=M)->Q (.int M) H) t) ρ P :=
 afz fun σ H Q e q=>h σ H Q e fun xs vs H' g r ⟨ns,ex,hne,p⟩=>by
  subst ex
  refine q _ vs H' g r ⟨_,rfl,fun vs H Q fo rs k=>?_⟩
  obtain⟨x,r,rfl,h2,h3⟩:=reps_cons.mp rs
  rw [reps_nil.mp h3]
  obtain⟨a,ys,rfl,s1,s2⟩:=rep_list.mp h2
  rw [s2.ints] at s1
  exact⟨a,ns,rfl,(zh _ _).seq s1,hne,fun M h1 h2=>k (.int M) _ H (.refl fo) (rep_int.mpr rfl) (p M h1 h2)⟩
theorem ajd {g:Int->Int->Int} {t:TA} (h:PAd K f t ρ fun xs=>∃ i j,xs=[.dat (.int i),.dat (.int j)]/\P (.int (g i j))):PEd K f (tCB (fun xs H Q=>∃ i j,xs=[.int i,.int j]/\Q (.int (g i j)) H) t) ρ P :=
 afz fun σ H Q e q=>h σ H Q e fun xs vs H' g' r ⟨i,j,ex,p⟩=>by
  subst ex
  refine q _ vs H' g' r ⟨_,rfl,fun vs H Q fo rs k=>?_⟩
  obtain⟨x,r,rfl,h2,h3⟩:=reps_cons.mp rs
  obtain⟨y,r',rfl,h4,h5⟩:=reps_cons.mp h3
  rw [reps_nil.mp h5,rep_int.mp h2,rep_int.mp h4]
  exact⟨i,j,rfl,k _ _ H (.refl fo) (rep_int.mpr rfl) p⟩
theorem afB {g:Int->Int} {t:TA} (h:PAd K f t ρ fun xs=>∃ i,xs=[.dat (.int i)]/\P (.int (g i))):PEd K f (tCB (fun xs H Q=>∃ i,xs=[.int i]/\Q (.int (g i)) H) t) ρ P :=
 afz fun σ H Q e q=>h σ H Q e fun xs vs H' g' r ⟨i,ex,p⟩=>by
  subst ex
  refine q _ vs H' g' r ⟨_,rfl,fun vs H Q fo rs k=>?_⟩
  obtain⟨x,r,rfl,h2,h3⟩:=reps_cons.mp rs
  rw [reps_nil.mp h3,rep_int.mp h2]
  exact⟨i,rfl,k _ _ H (.refl fo) (rep_int.mpr rfl) p⟩
theorem aje {t:TA} (h:PAd K f t ρ fun xs=>(∃ ds,xs=[.dat (.list ds)]/\P (.list ds)) \/ (∃ ds,xs=[.dat (.tuple ds)]/\P (.list ds))) :
  PEd K f (tCB (fun xs H Q=>∃ p ys,xs=[.ref p]/\(SqL K H p ys \/ SqT K H p ys)/\∀ l,H l=none->Q (.ref l) (upd H l (.lst ys))) t) ρ P :=
 afz fun σ H Q e q=>h σ H Q e fun xs vs H' g r p=>by
  rcases p with⟨ds,rfl,p⟩ | ⟨ds,rfl,p⟩
  ·refine q _ vs H' g r ⟨_,rfl,fun vs H Q fo rs k=>?_⟩
   obtain⟨x,r,rfl,h2,h3⟩:=reps_cons.mp rs
   rw [reps_nil.mp h3]
   obtain⟨a,ys,rfl,s1,s2⟩:=rep_list.mp h2
   refine⟨a,ys,rfl,.inl ((zh _ _).seq s1),fun l hn=>?_⟩
   have g2:Goes f H (upd H l (.lst ys)):=.of_same (zI hn _) fo
   exact k (.list ds) _ _ g2 (rep_list.mpr ⟨l,ys,rfl,.of (zu (fresh_ne fo hn) zo),Reps.mono g2.1 ds ys s2⟩) p
  ·refine q _ vs H' g r ⟨_,rfl,fun vs H Q fo rs k=>?_⟩
   obtain⟨x,r,rfl,h2,h3⟩:=reps_cons.mp rs
   rw [reps_nil.mp h3]
   obtain⟨a,ys,rfl,s1,s2⟩:=rep_tuple.mp h2
   refine⟨a,ys,rfl,.inr ((zh _ _).seqT s1),fun l hn=>?_⟩
   have g2:Goes f H (upd H l (.lst ys)):=.of_same (zI hn _) fo
   exact k (.list ds) _ _ g2 (rep_list.mpr ⟨l,ys,rfl,.of (zu (fresh_ne fo hn) zo),Reps.mono g2.1 ds ys s2⟩) p
end
section
variable {K:apD} {f:Fx} {ρ:zp} {D:DEnds} {te ta tb:TE} {tt:TT} {ts tu:TS}
theorem qO (p:D.nx ρ):PSd K f abW ρ D:=fun σ H E e n _ _ _=>n ρ σ H (.refl e.fd) e p
theorem z6 (h:PSd K f ts ρ { D with nx:=fun ρ'=>PSd K f tu ρ' D }):PSd K f (jL ts tu) ρ D:=fun σ H E e n r b c =>
 h σ H { E with nx:=tu E } e (fun ρ' σ' H' g e' p=>p σ' H' E e' (fun ρ'' σ'' H'' g' e'' p'=>n ρ'' σ'' H'' (g.trans g') e'' p') (fun d v H'' g' r' p'=>r d v H'' (g.trans g') r' p') (fun ρ'' σ'' H'' g' e'' p'=>b ρ'' σ'' H'' (g.trans g') e'' p') (fun ρ'' σ'' H'' g' e'' p'=>c ρ'' σ'' H'' (g.trans g') e'' p')) r b c
theorem yL (h:PEd K f te ρ D.rt):PSd K f (afk te) ρ D:=fun σ H E e n r b c=>h σ H _ e r
theorem abf (h:PEd K f te ρ fun _=>D.nx ρ):PSd K f (vw te) ρ D:=fun σ H E e n r b c=>h σ H _ e fun d v H' g _ p=>n ρ σ H' g (e.mono g) p
theorem acW (h:PTd K f tt ρ fun b=>if b=true then PSd K f ts ρ D else PSd K f tu ρ D):PSd K f (acF tt ts tu) ρ D:=fun σ H E e n r b c=>h σ H _ e fun k H1 g p=>by
 cases k with
 | true =>
  rw [if_pos rfl] at p ⊢
  exact p σ H1 E (e.mono g) (fun ρ'' σ'' H'' g' e'' p'=>n ρ'' σ'' H'' (g.trans g') e'' p') (fun d v H'' g' r' p'=>r d v H'' (g.trans g') r' p') (fun ρ'' σ'' H'' g' e'' p'=>b ρ'' σ'' H'' (g.trans g') e'' p') (fun ρ'' σ'' H'' g' e'' p'=>c ρ'' σ'' H'' (g.trans g') e'' p')
 | false =>
  rw [if_neg apB] at p ⊢
  exact p σ H1 E (e.mono g) (fun ρ'' σ'' H'' g' e'' p'=>n ρ'' σ'' H'' (g.trans g') e'' p') (fun d v H'' g' r' p'=>r d v H'' (g.trans g') r' p') (fun ρ'' σ'' H'' g' e'' p'=>b ρ'' σ'' H'' (g.trans g') e'' p') (fun ρ'' σ'' H'' g' e'' p'=>c ρ'' σ'' H'' (g.trans g') e'' p')
noncomputable def PGd (K:apD) (f:Fx) (g:TG) (d:PyData) (ρ:zp) (R:zp->Prop):Prop:=∀ (σ:St) (H:Hp) (v:V) (Q:St->Hp->Prop),EnvOk K f ρ σ H->Rep K (hide H f) d v->(∀ ρ' σ' H',Goes f H H'->EnvOk K f ρ' σ' H'->R ρ'->Q σ' H')->g v σ H Q
noncomputable def ajf (K:apD) (f:Fx) (g:TGs) (ds:List PyData) (ρ:zp) (R:zp->Prop):Prop:=∀ (σ:St) (H:Hp) (vs:List V) (Q:St->Hp->Prop),EnvOk K f ρ σ H->Reps K (hide H f) ds vs->(∀ ρ' σ' H',Goes f H H'->EnvOk K f ρ' σ' H'->R ρ'->Q σ' H')->g vs σ H Q
theorem zj {i:Nat} {d:PyData} {R:zp->Prop} (h:R (ρ.set i (some (.dat d)))):PGd K f (yR i) d ρ R:=fun σ H v Q e r q=>q _ _ H (.refl e.fd) (e.set i (x:=.dat d) r) h
theorem yG {R:zp->Prop} (h:R ρ):ajf K f aoH [] ρ R:=fun σ H vs Q e r q=>⟨reps_nil.mp r,q ρ σ H (.refl e.fd) e h⟩
theorem zC {g:TG} {gs:TGs} {d:PyData} {ds:List PyData} {R:zp->Prop} (h:PGd K f g d ρ fun ρ'=>ajf K f gs ds ρ' R):ajf K f (amw g gs) (d :: ds) ρ R:=fun σ H vs Q e r q=>by
 obtain⟨x,r',rfl,h2,h3⟩:=reps_cons.mp r
 exact⟨x,r',rfl,h σ H x _ e h2 fun ρ' σ' H' g' e' p=>p σ' H' r' Q e' (Reps.mono g'.1 ds r' h3) fun ρ'' σ'' H'' g'' e'' p'=>q ρ'' σ'' H'' (g'.trans g'') e'' p'⟩
theorem jG {n:Nat} {gs:TGs} {ds:List PyData} {R:zp->Prop} (hn:ds.length=n) (h:ajf K f gs ds ρ R):PGd K f (amW K n gs) (.tuple ds) ρ R:=fun σ H v Q e r q=>by
 obtain⟨a,xs,rfl,h1,h2⟩:=rep_tuple.mp r
 exact⟨a,xs,rfl,(zh _ _).seqT h1,by rw [h2.length];exact hn,h σ H xs Q e h2 q⟩
theorem zS {g:TG} (h:PEd K f te ρ fun d=>PGd K f g d ρ D.nx):PSd K f (qc te g) ρ D:=fun σ H E e n r b c =>
 h σ H _ e fun d v H1 g1 r1 p1=>p1 σ H1 v _ (e.mono g1) r1 fun ρ' σ' H' g' e' p'=>n ρ' σ' H' (g1.trans g') e' p'
end
section
variable {K:apD} {f:Fx} {ρ:zp} {D:DEnds} {te ta tb:TE} {tt:TT} {ts tu:TS} {g:TG}
theorem afC {t:TA} (h:PAd K f t ρ fun xs=>∃ ds,xs=[.dat (.list ds)]/\∃ J:Nat->zp->Prop,J 0 ρ /\
   (∀ (i:Nat) d ρ',ds[i]?=some d->J i ρ'->PGd K f g (.tuple [.int i,d]) ρ' fun ρ2=>PSd K f ts ρ2 { D with nx:=J (i+1),ct:=J (i+1),bk:=D.nx })/\∀ ρ',J ds.length ρ'->D.nx ρ') :
  PSd K f (ahG (agv K t) g ts) ρ D:=fun σ H E e n r b c=>h σ H _ e fun xs vs H1 g1 r1 ⟨ds,ex,J,j0,js,jd⟩=>by
 subst ex
 cases r1 with
 | cons rx r' =>
  cases r'
  obtain⟨a,xs,rfl,h1,h2⟩:=rep_list.mp rx
  have hl:=h2.length
  refine⟨a,rfl,⟨xs,(zh _ _).seq h1⟩,ai3 (K:=K) (a:=a) (xs:=xs) (fun i σ' H'=>∃ ρ',EnvOk K f ρ' σ' H'/\Goes f H H'/\Goes f H1 H'/\J i ρ') ⟨ρ,e.mono g1,g1,.refl g1.2,j0⟩ (fun i σ' H' _ ⟨ρ',e',g',g1',p⟩=>(zh _ _).seq (g1'.1.seq h1)) (fun i y σ' H' tp hy ⟨ρ',e',g',g1',p⟩ hn=>?_) fun σ' H' ⟨ρ',e',g',_,p⟩=>n ρ' σ' H' g' e' (jd ρ' (by rw [<-hl];exact p))⟩
  have hi:i<ds.length:=by rw [<-hl];exact (apE.mp hy).1
  obtain⟨z,hz,rz⟩:=h2.get (apA hi)
  rw [hy] at hz
  cases hz
  have gn:Goes f H' (upd H' tp (.tup [.int i,y])):=.of_same (zI hn _) e'.fd
  have rt:Rep K (hide (upd H' tp (.tup [.int i,y])) f) (.tuple [.int i,ds[i]]) (.ref tp):=rep_tuple.mpr ⟨tp,_,rfl,.of (zu (fresh_ne e'.fd hn) zo),.cons' (rep_int.mpr rfl) (.cons' (Rep.mono gn.1 _ _ (Rep.mono g1'.1 _ _ rz)) .nil')⟩
  refine js i _ ρ' (apA hi) p σ' _ _ _ (e'.mono gn) rt fun ρ2 σ2 H2 g2' e2 p2=>?_
  have g2:=gn.trans g2'
  exact p2 σ2 H2 _ e2 (fun ρ3 σ3 H3 g3 e3 p3=>⟨ρ3,e3,g'.trans (g2.trans g3),g1'.trans (g2.trans g3),p3⟩) (fun d v H3 g3 r3 p3=>r d v H3 (g'.trans (g2.trans g3)) r3 p3) (fun ρ3 σ3 H3 g3 e3 p3=>n ρ3 σ3 H3 (g'.trans (g2.trans g3)) e3 p3) (fun ρ3 σ3 H3 g3 e3 p3=>⟨ρ3,e3,g'.trans (g2.trans g3),g1'.trans (g2.trans g3),p3⟩)
end
noncomputable def frD (fr:List Nat) (ρ:zp):zp:=fr.map fun j=>(ρ[j]?).getD none
noncomputable def aag (own:Nat) (fr:List Nat) (ρ:zp):zp:=arR own none++frD fr ρ
noncomputable abbrev Fx.with (f:Fx) (D:Addr):Fx:=⟨f.f,D :: f.M⟩
section
variable {K:apD} {f:Fx} {ρ:zp} {σ:St} {H H':Hp} {D:Addr} {o:HO}
theorem ab8 {own:Nat} {fr:List Nat} (e:EnvOk K f ρ σ H):EnvOk K f (aag own fr ρ) (jc own fr σ) H:=by
 refine⟨by unfold aag jc frD;simp,fun i x h=>?_,e.fd⟩
 unfold aag frD at h
 unfold jc
 by_cases hi:i<own
 ·rw [apL (by simpa using hi),arA] at h
  split at h <;> cases h
 ·rw [apQ (by simpa using hi)] at h ⊢
  simp only [asn,apM] at h ⊢
  cases hj:fr[i - own]? with
  | none=>rw [hj] at h;cases h
  | some j =>
   rw [hj] at h
   have h':(ρ[j]?).getD none=some x:=Option.some.inj h
   have hρ:ρ[j]?=some (some x):=by
    cases q:ρ[j]? with
    | none=>rw [q] at h';cases h'
    | some w=>rw [q] at h';exact congrArg some h'
   obtain⟨v,h1,h2⟩:=e.get j x hρ
   exact⟨v,by simp [h1],h2⟩
theorem yA:hide (upd H D o) (f.with D)=hide H (f.with D):=by
 funext b
 unfold hide
 by_cases hb:f.f=some b \/ b∈D :: f.M
 ·rw [if_pos hb,if_pos hb]
 ·rw [if_neg hb,if_neg hb]
  have:b≠D:=fun z=>hb (.inr (z▸apJ))
  exact zm this
theorem qk:Same (hide H (f.with D)) (hide H f):=fun b o h=>by
 obtain⟨h1,h2⟩:=zA h
 exact zu (fun z=>h1 (z.elim .inl fun z=>.inr (apG _ z))) h2
theorem vh (hn:H D=none):Same (hide H f) (hide (upd H D o) (f.with D)):=fun b u h=>by
 obtain⟨h1,h2⟩:=zA h
 have hb:b≠D:=zF h2 hn
 exact zu (fun z=>z.elim (fun z=>h1 (.inl z)) fun z=>(apK.mp z).elim hb fun z=>h1 (.inr z)) (by rw [zm hb];exact h2)
theorem ajg (h:FOk f H) (hn:H D=none):FOk (f.with D) (upd H D o) :=
 ⟨fun p e=>let⟨a,b,h1,h2⟩:=h.fd p e;⟨a,b,by rw [zm (zF h1 hn)];exact h1,h2⟩,fun b hb=>by
  rcases apK.mp hb with rfl | hb
  ·exact⟨_,zo⟩
  ·obtain⟨o',h1⟩:=h.mm b hb
   exact⟨o',by rw [zm (zF h1 hn)];exact h1⟩,fun p e hp=>by
  rcases apK.mp hp with rfl | hp
  ·exact fresh_ne h hn (.inl e)
  ·exact h.nm p e hp⟩
theorem ajh (e:EnvOk K f ρ σ H) (hn:H D=none):EnvOk K (f.with D) ρ σ (upd H D o) :=
 ⟨e.len,fun i x h=>let⟨v,h1,h2⟩:=e.get i x h;⟨v,h1,by
  cases x with
  | dat d=>exact Rep.mono (vh hn) d v h2
  | feed=>exact h2
  | own k =>
   obtain⟨p,h3,h4⟩:=h2
   refine⟨p,?_,h4⟩
   show (D :: f.M).reverse[k]?=some p
   rw [aq8,apL (apE.mp h3).1]
   exact h3
  | exc C =>
   obtain⟨a,h3,h4⟩:=h2
   exact⟨a,h3,vh hn _ _ h4⟩
  | mon φ=>exact fun H' s=>h2 H' ((vh hn).trans s)⟩,ajg e.fd hn⟩
theorem agx (hD:f.f≠some D) (e:EnvOk K (f.with D) ρ σ H):EnvOk K (f.with D) ρ σ (upd H D o) :=
 ⟨e.len,fun i x h=>let⟨v,h1,h2⟩:=e.get i x h;⟨v,h1,by
  cases x with
  | dat d =>
   have h2':Rep K (hide H (f.with D)) d v:=h2
   show Rep K (hide (upd H D o) (f.with D)) d v
   rw [yA];exact h2'
  | feed=>exact h2
  | own k=>exact h2
  | exc C =>
   obtain⟨a,h3,h4⟩:=h2
   refine⟨a,h3,?_⟩
   rw [yA]
   exact h4
  | mon φ =>
   intro H' s
   rw [yA] at s
   exact h2 H' s⟩,⟨fun p ep=>let⟨a,b,h1,h2⟩:=e.fd.fd p ep;⟨a,b,by rw [zm (fun z=>hD (by rw [<-z];exact ep))];exact h1,h2⟩,fun b hb=>by
   by_cases hb':b=D
   ·subst hb';exact⟨_,zo⟩
   ·rw [zm hb'];exact e.fd.mm b hb,e.fd.nm⟩⟩
end
section
variable {K:apD} {f:Fx} {ρ:zp} {P:PyData->Prop} {te tl:TE} {tt:TT} {g:TG} {own:Nat} {fr:List Nat}
structure CSt (K:apD) (f:Fx) (D:Addr) (H2:Hp) (ρ':zp) (es:List PyData) (σ:St) (H:Hp):Prop where
 env:EnvOk K (f.with D) ρ' σ H
 sm:Same (hide H2 (f.with D)) (hide H (f.with D))
 kp:∀ b∈f.M,H b=H2 b
 lst:∃ vs,H D=some (.lst vs)/\Reps K (hide H (f.with D)) es vs
theorem CSt.go {D:Addr} {H2 H H':Hp} {ρ':zp} {es:List PyData} {σ:St} (c:CSt K f D H2 ρ' es σ H) (gg:Goes (f.with D) H H') {ρ2:zp} {σ2:St} (e2:EnvOk K (f.with D) ρ2 σ2 H'):CSt K f D H2 ρ2 es σ2 H' :=
 ⟨e2,c.sm.trans gg.sm,fun b hb=>(gg.kp b (apG _ hb)).trans (c.kp b hb),let⟨vs,h1,h2⟩:=c.lst;⟨vs,(gg.kp D apJ).trans h1,Reps.mono gg.sm es vs h2⟩⟩
theorem CSt.put {D:Addr} {H2 H:Hp} {ρ':zp} {es:List PyData} {σ:St} {d:PyData} {v:V} {vs:List V} (hD:f.f≠some D) (hM:D∉f.M) (c:CSt K f D H2 ρ' es σ H) (h1:H D=some (.lst vs)) (h2:Reps K (hide H (f.with D)) es vs) (r:Rep K (hide H (f.with D)) d v) :
  CSt K f D H2 ρ' (es++[d]) σ (upd H D (.lst (vs++[v]))) :=
 ⟨agx hD c.env,by rw [yA];exact c.sm,fun b hb=>(zm (fun (z:b=D)=>hM (z▸hb))).trans (c.kp b hb),⟨_,zo,by rw [yA];exact h2.snoc r⟩⟩
theorem ahS {D:Addr} {H2 H:Hp} {ρ':zp} {es:List PyData} {σ:St} {d:PyData} {v:V} {W:St->Hp->Prop} {R:zp->List PyData->Prop} (hD:f.f≠some D) (hM:D∉f.M) (c:CSt K f D H2 ρ' es σ H) (hl:es.length<1000) (r:Rep K (hide H (f.with D)) d v)
  (h:PGd K (f.with D) g d ρ' fun ρ2=>PTd K (f.with D) tt ρ2 fun b=>if b=true then PEd K (f.with D) te ρ2 fun e=>R ρ2 (es++[e]) else R ρ2 es)
  (hW:∀ ρ2 es2 σ2 H',CSt K f D H2 ρ2 es2 σ2 H'->R ρ2 es2->W σ2 H') :
  g v σ H fun σ2 H3=>tt σ2 H3 fun b H4=>if b=true then jO D te σ2 H4 W else W σ2 H4:=by
 refine h σ H v _ c.env r fun ρ2 σ2 H3 g3 e3 p3=>?_
 have c3:=c.go g3 e3
 refine p3 σ2 H3 _ e3 fun b H4 g4 p4=>?_
 have c4:=c3.go g4 (e3.mono g4)
 cases b with
 | false =>
  rw [if_neg apB] at p4 ⊢
  exact hW _ _ _ _ c4 p4
 | true =>
  rw [if_pos rfl] at p4 ⊢
  refine p4 σ2 H4 _ (e3.mono g4) fun e u H5 g5 r5 p5=>?_
  have c5:=c4.go g5 ((e3.mono g4).mono g5)
  obtain⟨vs,h1,h2⟩:=c5.lst
  exact⟨vs,h1,zW (by rw [h2.length];omega),hW _ _ _ _ (c5.put hD hM h1 h2 r5) p5⟩
theorem aeb {D:Addr} {H1 H:Hp} {ρ':zp} {es:List PyData} {σ σ':St} (hn:H1 D=none) (fo:FOk f H1) (c:CSt K f D (upd H1 D (.lst [])) ρ' es σ H):Goes f H1 H/\Rep K (hide H f) (.list es) (.ref D):=by
 obtain⟨vs,h1,h2⟩:=c.lst
 have nD:=fresh_ne fo hn
 refine⟨⟨((vh hn).trans c.sm).trans qk,⟨c.env.fd.fd,fun b hb=>c.env.fd.mm b (apG _ hb),fun p e hp=>c.env.fd.nm p e (apG _ hp)⟩,fun b hb=>?_⟩,rep_list.mpr ⟨D,vs,rfl,.of (zu nD h1),Reps.mono qk es vs h2⟩⟩
 rw [c.kp b hb,zm]
 obtain⟨o,h3⟩:=fo.mm b hb
 exact zF h3 hn
theorem abg {D:Addr} {H1:Hp} {σ:St} (hn:H1 D=none) (e:EnvOk K f ρ σ H1):CSt K f D (upd H1 D (.lst [])) (aag own fr ρ) [] (jc own fr σ) (upd H1 D (.lst [])) :=
 ⟨ajh (ab8 e) hn,Same.refl _,fun _ _=>rfl,⟨[],zo,.nil'⟩⟩
theorem ala {t:TA} (h:PAd K f t ρ fun xs=>∃ j:Int,xs=[.dat (.int j)]/\j<=1000/\-1000<=j/\∃ R:Nat->zp->List PyData->Prop,R 0 (aag own fr ρ) [] /\
   (∀ D (i:Nat) ρ' es,(i:Int)<j->R i ρ' es->PGd K (f.with D) g (.int i) ρ' fun ρ2=>PTd K (f.with D) tt ρ2 fun b=>if b=true then PEd K (f.with D) te ρ2 fun e=>R (i+1) ρ2 (es++[e]) else R (i+1) ρ2 es) /\
   (∀ i ρ' es,R i ρ' es->es.length<=i)/\∀ ρ' es,R j.toNat ρ' es->P (.list es)) :
  PEd K f (jP (agn t) own fr g tt fun D=>jO D te) ρ P:=fun σ H Q e q=>h σ H _ e fun xs vs H1 g1 r1 ⟨j,ex,b1,b2,R,r0,rs,rl,re⟩=>by
 subst ex
 cases r1 with
 | @cons _ v0 _ _ rx r' =>
  cases r'
  have rx':Rep K (hide H1 f) (.int j) v0:=rx
  refine⟨j,by rw [rep_int.mp rx'],by omega,by omega,fun D hn=>?_⟩
  have nD:=fresh_ne g1.2 hn
  have hD:f.f≠some D:=fun z=>nD (.inl z)
  have hM:D∉f.M:=fun z=>nD (.inr z)
  have e1:=e.mono g1
  refine⟨fun i m σ' H'=>∃ ρ' es,CSt K f D (upd H1 D (.lst [])) ρ' es σ' H'/\R i ρ' es/\i<=j.toNat/\m+i=j.toNat,⟨j.toNat,_,[],abg hn e1,r0,ap9 _,rfl⟩,fun i m σ' H' ⟨ρ',es,c,p,hi,hm⟩=>?_⟩
  by_cases hlt:i<j.toNat
  ·refine .inr ⟨hlt,fun x H3 hy=>?_⟩
   obtain⟨rfl,rfl⟩:=hy
   have hz:(0:Int)+(i:Int)=(i:Int):=Int.zero_add _
   rw [hz]
   refine ahS (R:=R (i+1)) hD hM c (by have:=rl i ρ' es p;omega) ((rep_int (K:=K)).mpr rfl) (rs D i ρ' es (by omega) p) fun ρ2 es2 σ2 H4 c2 p2=>?_
   exact⟨m - 1,by omega,ρ2,es2,c2,p2,by omega,by omega⟩
  ·have ei:i=j.toNat:=by omega
   subst ei
   obtain⟨ge,rep⟩:=aeb (σ':=σ') hn g1.2 c
   exact .inl ⟨apI _,q _ _ H' (g1.trans ge) rep (re ρ' es p)⟩
theorem aec {t:TA} (h:PAd K f t ρ fun xs=>∃ j:Int,xs=[.dat (.int j)]/\j<=1000/\-1000<=j/\∃ R:Nat->PyData->Prop,
   (∀ D (i:Nat),(i:Int)<j->PEd K (f.with D) te (some (.dat (.int i)) :: frD fr ρ) (R i))/\∀ es:List PyData,es.length=j.toNat->(∀ (i:Nat) e,es[i]?=some e->R i e)->P (.list es)) :
  PEd K f (jP (agn t) 1 fr (yR 0) ad2 fun D=>jO D te) ρ P :=
 ala fun σ H Q e q=>h σ H Q e fun xs vs H' g' r' ⟨j,ex,b1,b2,R,rs,re⟩=>by
  refine q xs vs H' g' r' ⟨j,ex,b1,b2,fun i ρ' es=>(∃ x,ρ'=x :: frD fr ρ)/\es.length=i/\∀ (k:Nat) e,es[k]?=some e->R k e,⟨⟨none,rfl⟩,rfl,fun k e h=>by simp at h⟩,fun D i ρ' es hi p=>?_,fun i ρ' es p=>ars p.2.1,fun ρ' es p=>re es p.2.1 p.2.2⟩
  obtain⟨⟨x,rfl⟩,hl,hp⟩:=p
  refine zj ?_
  intro σ H Q e q
  refine q true H (.refl e.fd) ?_
  dsimp only
  rw [if_pos rfl]
  refine (rs D i hi).imp fun d hd=>⟨⟨_,rfl⟩,by rw [apX,hl];rfl,fun k e hk=>?_⟩
  by_cases hkl:k<es.length
  ·rw [apL hkl] at hk;exact hp k e hk
  ·rw [apQ (by omega)] at hk
   have hk0:k - es.length=0:=by
    have:=(apE.mp hk).1
    simp at this;omega
   rw [hk0] at hk
   cases hk
   have:k=i:=by omega
   subst this
   exact hd
end
section
variable {K:apD} {f:Fx} {ρ:zp} {D:DEnds} {te:TE} {i:Nat}
theorem aed {σ:St} {H:Hp} {p:Addr} {a b:Int} (e:EnvOk K f ρ σ H) (ef:f.f=some p) (h0:0<=a) (h1:0<=b) (h2:b<2147483647):Goes f H (upd H p (.lst [.int a,.int b])) :=
 have hM:=e.fd.nm p ef
 ⟨fun x o h=>by
  obtain⟨n,hx⟩:=zA h
  exact zu n (by rw [zm (fun z=>n (.inl (by rw [z];exact ef)))];exact hx),
 ⟨fun q eq=>by
   rw [ef] at eq;cases eq
   exact⟨a,b,zo,h0,h1,h2⟩,fun x hx=>by
   by_cases hxp:x=p
   ·subst hxp;exact absurd hx hM
   ·rw [zm hxp];exact e.fd.mm x hx,e.fd.nm⟩,
fun x hx=>zm (fun z=>hM (z▸hx))⟩
theorem agy (hi:ρ[i]?=some (some .feed)) (h:PEd K f te ρ fun d=>∃ a:Int,d=.int a/\0<=a/\D.nx ρ):PSd K f (qc te (acG (yp i) (tC (.int 0)) aax)) ρ D:=fun σ H E e n r b c=>h σ H _ e fun d v H1 g1 r1 ⟨a,ed,h0,p⟩=>by
 subst ed
 obtain⟨u,h1,q,ef,eu⟩:=e.get i _ hi
 obtain⟨a',b',hf,c1,c2,c3⟩:=g1.2.fd q ef
 refine⟨u,h1,q,_,0,0,eu,rfl,hf,rfl,?_⟩
 rw [rep_int.mp r1]
 have g2:Goes f H1 (upd H1 q (.lst [.int a,.int b'])):=aed (e.mono g1) ef h0 c2 c3
 exact n ρ σ _ (g1.trans g2) ((e.mono g1).mono g2) p
theorem agz (hi:ρ[i]?=some (some .feed)) (h:PEd K f te ρ fun d=>∃ a:Int,d=.int a/\0<=a/\a<2147483647/\D.nx ρ):PSd K f (qc te (acG (yp i) (tC (.int 1)) aax)) ρ D:=fun σ H E e n r b c=>h σ H _ e fun d v H1 g1 r1 ⟨a,ed,h0,h0',p⟩=>by
 subst ed
 obtain⟨u,h1,q,ef,eu⟩:=e.get i _ hi
 obtain⟨a',b',hf,c1,c2,c3⟩:=g1.2.fd q ef
 refine⟨u,h1,q,_,1,1,eu,rfl,hf,rfl,?_⟩
 rw [rep_int.mp r1]
 have g2:Goes f H1 (upd H1 q (.lst [.int a',.int a])):=aed (e.mono g1) ef c1 h0 h0'
 exact n ρ σ _ (g1.trans g2) ((e.mono g1).mono g2) p
end
theorem ql {X:Cx} {x:Str} {i:Int} {t:Tok} {pos:Pos} (hg:Gl X x) (hm:X.mg x=some (.int i t)) (hd:(x == ("__debug__":Str))=false:=by decide):PE X (.Name x pos) (tC (.int i)):=acB hg hm ⟨t,rfl⟩ hd
noncomputable def qe (N:List Str) (xs:List DV):zp:=xs.map some++arR (N.length - xs.length) none
theorem jB {K:apD} {f:Fx} {H:Hp} {N:List Str} {xs:List DV} {vs:List V} (r:RepVs K f H xs vs) (fo:FOk f H):EnvOk K f (qe N xs) (start N vs) H:=by
 have hl:=r.length
 refine⟨by unfold qe start;simp [hl],fun i x h=>?_,fo⟩
 unfold qe at h
 unfold start
 have get:∀ {xs:List DV} {vs:List V} {i:Nat} {x:DV},RepVs K f H xs vs->xs[i]?=some x->∃ v,vs[i]?=some v/\RepV K f H x v:=by
  intro xs vs i x r
  induction r generalizing i with
  | nil=>intro h;simp at h
  | cons r1 r2 ih =>
   intro h
   cases i with
   | zero=>simp at h;subst h;exact⟨_,rfl,r1⟩
   | succ i=>simp at h;obtain⟨v,h1,h2⟩:=ih h;exact⟨v,by simpa using h1,h2⟩
 by_cases hi:i<xs.length
 ·rw [apL (by simpa using hi),apM] at h
  cases q:xs[i]? with
  | none=>rw [q] at h;cases h
  | some y =>
   rw [q] at h
   cases h
   obtain⟨v,h1,h2⟩:=get r q
   exact⟨v,by rw [apL (by simp;omega),apM,h1];rfl,h2⟩
 ·rw [apQ (by simpa using hi),arA] at h
  split at h <;> cases h
structure Def (K:apD) (mg:Str->Option Value) (x:Str) (st:Stmt) (ps:List Str):Prop where
 ex:∃ (f:Addr) (fd:FuncData),Fun K x x st f fd/\Binds K fd ps []/\mg x=some (.ref f)
structure FnIn (P:Program) (w:World) (K:apD) (mg:Str->Option Value) (base:Heap) (k:Nat) (x:Str) (ps:List Str) (sp:Sp):Prop where
 ex:∃ (f:Addr) (fd:FuncData),FnOk P w K mg base CX0 k f fd ps sp/\mg x=some (.ref f)/\aqq K (.ref f)=true/\Binds K fd ps []
section
variable {P:Program} {w:World} {K:apD} {mg:Str->Option Value} {base:Heap} {j k n:Nat} {x:Str} {st:Stmt} {ps N:List Str} {γ:Type} {pre:γ->List DV->Prop} {post:γ->PyData->Prop} {sp:Sp}
theorem FnIn.mono (h:FnIn P w K mg base j x ps sp) (hk:j<=k):FnIn P w K mg base k x ps sp :=
 let⟨f,fd,a,b,c,d⟩:=h.ex;⟨f,fd,a.mono hk,b,c,d⟩
theorem Def.ok (F:Def K mg x st ps) (S:FnScope N ps (zf st)) (hn:ps.length=n)
  (h:∀ (fa:Addr) (cdv:Value) (A:Around) (outer:List Env) (s:Shared) (H:Hp) (E:XK),Room k (A.deeper (envOfC x (zf st) s.heap.objs.size fa cdv)) ->
   ∃ t,PSs (zH CX0 P w K mg base N x (zf st) fa cdv A outer s H E).nox (ye st) t/\∀ (f:Fx) (xs:List DV) (c:γ),xs.length=n->pre c xs->PSd K f t (qe N xs) { nx:=fun _=>post c .none,rt:=post c }) :
  FnIn P w K mg base (k+1) x ps (spD K n pre post):=by
 obtain⟨fa,fd,F1,F2,F3⟩:=F.ex
 refine⟨fa,fd,F1.ok S (fun vs H Q E h=>?_) (fun cdv A outer s H vs Q E hr hs=>?_),F3,F1.kp,F2⟩
 ·obtain⟨f,xs,c,r,hl,_⟩:=h
  rw [r.length,hl,hn]
 ·obtain⟨f,xs,c,r,hl,fo,hp,q⟩:=hs
  obtain⟨t,h1,h2⟩:=h fa cdv A outer s H E hr
  exact⟨t,h1,h2 f xs c hl hp (start N vs) H _ (jB r fo) (fun _ _ H' g _ p=>q .none _ H' g (rep_none.mpr rfl) p) (fun d v H' g r p=>q d v H' g r p) (fun _ _ _ _ _ z=>z.elim) (fun _ _ _ _ _ z=>z.elim)⟩
theorem Def.raw (F:Def K mg x st ps) (S:FnScope N ps (zf st)) (len:∀ vs H Q E,sp vs H Q E->vs.length=ps.length)
  (h:∀ (fa:Addr) (cdv:Value) (A:Around) (outer:List Env) (s:Shared) (H:Hp) (vs:List V) (Q:VK) (E:XK),Room k (A.deeper (envOfC x (zf st) s.heap.objs.size fa cdv))->sp vs H Q E ->
   ∃ t,PSs (zH CX0 P w K mg base N x (zf st) fa cdv A outer s H E).nox (ye st) t/\t { nx:=fun _ H'=>Q .non H',rt:=Q } (start N vs) H) :
  FnIn P w K mg base (k+1) x ps sp:=by
 obtain⟨fa,fd,F1,F2,F3⟩:=F.ex
 exact⟨fa,fd,F1.ok S len (fun cdv A outer s H vs Q E hr hs=>h fa cdv A outer s H vs Q E hr hs),F3,F1.kp,F2⟩
theorem ze {X:Cx} {e:Expr} {es:List Expr} {t:TA} {p pos:Pos} (G:FnIn X.prog X.w X.K X.mg X.base k x ps sp) (hr:Room k X.A) (hg:Gl X x) (ha:PA X (e :: es) t) (hdb:(x == ("__debug__":Str))=false:=by decide)
  (he:starEach (e :: es) X.env=(false,eval e X.env) :: starEach es X.env:=by rfl) (hpl:(backTo pos (starEach es X.env)).any (·.1)=false:=by rfl):PE X (.Call (.Name x p) (e :: es) [] pos) (vx sp [] E0 t):=by
 obtain⟨f,fd,a,b,c,d⟩:=G.ex
 exact agp a hr hg b c d .nil aoL ha hdb he hpl
end
section
variable {K:apD} {f:Fx} {ρ:zp} {σ:St} {H:Hp} {E:Ends} {ts tu:TS} {D:DEnds}
theorem aji (h:PSd K f ts ρ D) (e:EnvOk K f ρ σ H) (hn:∀ ρ' σ' H',Goes f H H'->EnvOk K f ρ' σ' H'->D.nx ρ'->tu E σ' H') (hr:∀ d v H',Goes f H H'->Rep K (hide H' f) d v->D.rt d->E.rt v H') (hb:∀ ρ,¬ D.bk ρ) (hc:∀ ρ,¬ D.ct ρ):jL ts tu E σ H :=
 h σ H { E with nx:=tu E } e hn hr (fun ρ' _ _ _ _ p=>(hb ρ' p).elim) (fun ρ' _ _ _ _ p=>(hc ρ' p).elim)
theorem ajj {ta:TA} {Q:VK} {R:List PyData->Prop} (h:PAd K f ta ρ fun xs=>∃ ds,qz xs=some ds/\ds.length<=1000/\R ds) (e:EnvOk K f ρ σ H)
  (q:∀ p ds vs H1,Goes f H H1->H1 p=none->Reps K (hide H1 f) ds vs->R ds->Q (.ref p) (upd H1 p (.lst vs))):afu ta σ H Q :=
 h σ H _ e fun xs vs H1 g1 r1 ⟨ds,ea,hl,p⟩=>by
  have rs:=vg r1 ea
  exact⟨by rw [rs.length];exact aq4 (zW hl),fun l hn=>q l ds vs H1 g1 hn rs p⟩
end
section
variable {X:Cx} {e st:Expr} {te ts:TE} {pos p2:Pos}
noncomputable def alb (K:apD) (te ts:TE):TE:=fun σ H Q=>te σ H fun x H1=>ts σ H1 fun y H2=>∃ a xs,x=.ref a/\y=.int (-1)/\SqL K H2 a xs/\∀ p,H2 p=none->Q (.ref p) (upd H2 p (.lst xs.reverse))
theorem ani (he:PE X e te) (hst:PE X st ts):PE X (.Subscript e (.Slice none none (some st) p2) pos) (alb X.K te ts):=by
 intro pins s σ H Q I h
 refine Subscript_ (thn (he pins s σ H _ I h) fun v s1 ⟨x,H1,I1,r1,q1⟩=>?_)
 refine wpAny_Slice ?_
 rw [evalPart_none]
 refine wpAny_pure (wpAny_pure ?_)
 rw [evalPart_some]
 refine thn (hst pins s1 σ H1 _ I1 q1) fun vs s3 ⟨y,H3,I3,r3,a,xs,ex,ey,hq,q⟩=>?_
 subst ex ey
 cases r1
 obtain⟨t,rfl⟩:=r3
 have I4:Inv X pins σ H3 { s3 with heap:=s3.heap.push { cls:=.type "slice",data:=.fields #[.none,.none,.int (-1) t] } }:=I3.kept (t':=s3.toks) fun b ob q=>apH _ q
 show wpAny (model X.prog X.w) X.A (subscriptTail e (.Slice none none (some st) p2) (.ref a) (.ref s3.heap.objs.size)) (EP X pins σ Q) X.xe { s3 with heap:=s3.heap.push { cls:=.type "slice",data:=.fields #[.none,.none,.int (-1) t] } }
 obtain⟨its,r,ht,hz⟩:=I4.list hq
 have hlen:=r.length
 refine tail_any (ops:=[.ref a,.ref s3.heap.objs.size]) ht.isList.typeIs slot_list_getitem.lookup (wpAny_getItem_list_slice ht.isList (Heap.IsSliceOf.new ..) .none .none (.int (-1) t) (by simp) ?_ (by rw [apV] <;> omega)) (by with_unfolding_all rfl)
 rw [PySem.W.krv_pick]
 refine⟨.ref _,_,I4.laid (t':=s3.toks) (o:=.lst xs.reverse) (fun b ob q=>apH _ q) (apI _) ?_,rfl,q _ (I4.hok.fresh (apI _))⟩
 exact⟨by rw [asD];exact hz,its.reverse,0,Vals.reverse r,ap5 _ rfl⟩
end
section
variable {K:apD} {f:Fx} {ρ:zp}
theorem Goes.free {H H':Hp} {p:Addr} (g:Goes f H H') (fo:FOk f H) (h:H' p=none):H p=none:=by
 cases q:H p with
 | none=>rfl
 | some o =>
  by_cases hh:f.f=some p \/ p∈f.M
  ·rcases hh with hh | hh
   ·obtain⟨a,b,h1,_⟩:=g.ok.fd p hh
    rw [h] at h1;cases h1
   ·rw [g.kp p hh,q] at h;cases h
  ·have:=zA (g.sm p o (zu hh q))
   rw [h] at this;cases this.2
noncomputable def PEdL (K:apD) (f:Fx) (te:TE) (ρ:zp) (P:List PyData->Prop):Prop:=∀ (σ:St) (H:Hp) (Q:VK),EnvOk K f ρ σ H ->
 (∀ es D vs H',Goes f H H'->H D=none->H' D=some (.lst vs)->Reps K (hide H' f) es vs->P es->Q (.ref D) H')->te σ H Q
theorem PEdL.ped {te:TE} {P:PyData->Prop} (h:PEdL K f te ρ fun es=>P (.list es)):PEd K f te ρ P:=fun σ H Q e q=>h σ H Q e fun es D vs H' g n h1 r p =>
 q (.list es) _ H' g (rep_list.mpr ⟨D,vs,rfl,.of (zu (fresh_ne e.fd n) h1),r⟩) p
theorem aoM {te ts:TE} {P:List PyData->Prop} (h:PEd K f te ρ fun x=>∃ ds,x=.list ds/\PEd K f ts ρ fun y=>y=.int (-1)/\P ds.reverse):PEdL K f (alb K te ts) ρ P:=fun σ H Q e q =>
 h σ H _ e fun x v H1 g1 r1 ⟨ds,ex,p1⟩=>p1 σ H1 _ (e.mono g1) fun y u H2 g2 r2 ⟨ey,p2⟩=>by
  subst ex ey
  obtain⟨a,xs,rfl,h1,h2⟩:=rep_list.mp r1
  refine⟨a,xs,rfl,rep_int.mp r2,(zh _ _).seq (g2.1.seq h1),fun l hn=>?_⟩
  have g3:Goes f H2 (upd H2 l (.lst xs.reverse)):=.of_same (zI hn _) g2.2
  have rr:∀ {ds:List PyData} {xs:List V},Reps K (hide (upd H2 l (.lst xs.reverse)) f) ds xs->True:=fun _=>trivial
  have rev:∀ (H:Hp) (ds:List PyData) (xs:List V),Reps K H ds xs->Reps K H ds.reverse xs.reverse:=by
   intro H ds
   induction ds with
   | nil=>intro xs h;rw [reps_nil.mp h];exact .nil'
   | cons d ds ih =>
    intro xs h
    obtain⟨x,r,rfl,h2,h3⟩:=reps_cons.mp h
    rw [aq8,aq8]
    exact (ih r h3).snoc h2
  exact q ds.reverse l _ _ (g1.trans (g2.trans g3)) ((g1.trans g2).free e.fd hn) zo (Reps.mono g3.1 _ _ (rev _ _ _ (Reps.mono g2.1 _ _ h2))) p2
end
structure TabAt (H:Hp) (a:Addr) (as:List Addr) (rows:List (List Int)):Prop where
 top:H a=some (.lst (as.map .ref))
 nd:(a :: as).Nodup
 len:as.length=rows.length
 row:∀ (i:Nat) x r,as[i]?=some x->rows[i]?=some r->H x=some (.lst (r.map .int))
noncomputable def ajk (K:apD) (f:Fx) (te:TE) (ρ:zp) (P:List (List Int)->Prop):Prop:=∀ (σ:St) (H:Hp) (Q:VK),EnvOk K f ρ σ H ->
 (∀ rows a as H',Goes f H H'->H a=none->(∀ x∈as,H x=none)->TabAt H' a as rows->P rows->Q (.ref a) H')->te σ H Q
section
variable {K:apD} {f:Fx} {ρ:zp} {te tl:TE} {fr:List Nat}
theorem ajl {J:It} {n:Nat} {dd:Nat->PyData} {R:Nat->List Int->Prop} {D:Addr} {H1:Hp} {σ:St} {Q:VK} (hn:H1 D=none) (e1:EnvOk K f ρ σ H1) (hz:n<=1000)
  (hJ:∀ (i:Nat) H',Same (hide H1 f) (hide H' (f.with D))->(i<n->J.go i H'/\∀ x H3,J.yld i H' x H3->H3=H'/\Rep K (hide H' (f.with D)) (dd i) x)/\(i=n->J.stop i H'))
  (hte:∀ i,i<n->PEdL K (f.with D) te (some (.dat (dd i)) :: frD fr ρ) fun es=>∃ ns:List Int,es=ns.map .int/\R i ns)
  (hQ:∀ rows as H',Goes f H1 H'->(∀ x∈as,H1 x=none)->TabAt H' D as rows->rows.length=n->(∀ (k:Nat) r,rows[k]?=some r->R k r)->Q (.ref D) H') :
  ab7 J (yR 0) ad2 (jO D te) (jc 1 fr σ) (upd H1 D (.lst [])) fun _ H2=>Q (.ref D) H2:=by
 have nD:=fresh_ne e1.fd hn
 have hD:f.f≠some D:=fun z=>nD (.inl z)
 have hM:D∉f.M:=fun z=>nD (.inr z)
 have fo2:FOk (f.with D) (upd H1 D (.lst [])):=ajg e1.fd hn
 refine⟨fun i m σ' H'=>i<=n/\m+i=n/\∃ y as rows,EnvOk K (f.with D) (y :: frD fr ρ) σ' H'/\Same (hide (upd H1 D (.lst [])) (f.with D)) (hide H' (f.with D))/\(∀ b∈f.M,H' b=(upd H1 D (.lst [])) b)/\(∀ p,H' p=none->(upd H1 D (.lst [])) p=none) /\
   H' D=some (.lst (as.map .ref))/\as.Nodup/\D∉as/\(∀ x∈as,(upd H1 D (.lst [])) x=none)/\as.length=i/\rows.length=i/\(∀ (k:Nat) x r,as[k]?=some x->rows[k]?=some r->H' x=some (.lst (r.map .int)))/\∀ (k:Nat) r,rows[k]?=some r->R k r,
  ⟨n,ap9 _,rfl,none,[],[],ajh (ab8 (own:=1) (fr:=fr) e1) hn,Same.refl _,fun _ _=>rfl,fun _ h=>h,zo,arB,by simp,(fun x hx=>by cases hx),rfl,rfl,(fun k x r h=>by simp at h),fun k r h=>by simp at h⟩,?_⟩
 rintro i m σ' H' ⟨hi,hm,y,as,rows,env,sm,kp,fre,top,nd,nDas,asf,la,lr,rw',hR⟩
 have smk:Same (hide H1 f) (hide H' (f.with D)):=(vh hn).trans sm
 obtain⟨jg,js⟩:=hJ i H' smk
 by_cases hlt:i<n
 ·obtain⟨go,yl⟩:=jg hlt
  refine .inr ⟨go,fun x H3 hy=>?_⟩
  obtain⟨rfl,rx⟩:=yl x H3 hy
  unfold yR ad2
  dsimp only
  rw [if_pos rfl]
  unfold jO
  have env2:EnvOk K (f.with D) (some (.dat (dd i)) :: frD fr ρ) (σ'.set 0 (some x)) H3:=env.set 0 (x:=.dat (dd i)) rx
  refine hte i hlt _ H3 _ env2 fun es Dn vs H4 g4 n4 h4 r4 ⟨ns,hes,hRn⟩=>?_
  subst hes
  have evs:vs=ns.map V.int:=r4.ints
  subst evs
  have hDn:Dn≠D:=fun z=>by rw [z,top] at n4;cases n4
  have keep:∀ x∈as,∀ o,H3 x=some o->H4 x=some o:=fun x hx o ho=>(zA (g4.sm x o (zu (fresh_ne fo2 (asf x hx)) ho))).2
  have hasome:∀ x∈as,∃ o,H3 x=some o:=fun x hx=>by
   obtain⟨k,hk,ek⟩:=arf hx
   exact⟨_,rw' k x _ (by rw [apA hk,ek]) (apA (by omega))⟩
  have nDn:Dn∉as:=fun hx=>by
   obtain⟨o,ho⟩:=hasome Dn hx
   rw [n4] at ho;cases ho
  refine⟨as.map .ref,(g4.kp D apJ).trans top,zW (by rw [apC];omega),m - 1,by omega,by omega,by omega,some (.dat (dd i)),as++[Dn],rows++[ns],agx hD (env2.mono g4),?_,?_,?_,?_,?_,?_,?_,?_,?_,?_,?_⟩
  ·rw [yA (H:=H4)];exact sm.trans g4.sm
  ·exact fun b hb=>(zm (fun (z:b=D)=>hM (z▸hb))).trans ((g4.kp b (apG _ hb)).trans (kp b hb))
  ·intro p hp
   by_cases hpd:p=D
   ·subst hpd;rw [zo] at hp;cases hp
   ·rw [zm hpd] at hp
    exact fre p (g4.free env2.fd hp)
  ·rw [zo,ap6];rfl
  ·exact ara.mpr ⟨nd,by simp,fun x hx z hz=>by
    have:z=Dn:=by simpa using hz
    subst this
    exact fun e=>nDn (e▸hx)⟩
  ·simp [nDas,aqP hDn]
  ·intro x hx
   rcases apW.mp hx with hx | hx
   ·exact asf x hx
   ·have:x=Dn:=by simpa using hx
    subst this
    exact fre _ n4
  ·simp [la]
  ·simp [lr]
  ·intro k x r hx hr
   have hxm:=apN hx
   have hxD:x≠D:=by
    rintro rfl
    rcases apW.mp hxm with hx' | hx'
    ·exact nDas hx'
    ·have:x=Dn:=by simpa using hx'
     exact hDn this.symm
   rw [zm hxD]
   by_cases hk:k<as.length
   ·rw [apL hk] at hx
    rw [apL (by omega)] at hr
    exact keep x (apN hx) _ (rw' k x r hx hr)
   ·have hk':k=as.length:=by
     have:=(apE.mp hx).1
     simp at this;omega
    subst hk'
    rw [apQ (apI _)] at hx
    rw [apQ (by omega)] at hr
    simp only [aqX,ar6] at hx
    rw [la,<- lr,aqX,ar6] at hr
    cases hx
    cases hr
    exact h4
  ·intro k r hr
   by_cases hk:k<rows.length
   ·rw [apL hk] at hr;exact hR k r hr
   ·have hk':k=rows.length:=by
     have:=(apE.mp hr).1
     simp at this;omega
    subst hk'
    rw [apQ (apI _),aqX,ar6] at hr
    cases hr
    rw [lr];exact hRn
 ·have ei:i=n:=by omega
  subst ei
  refine .inl ⟨js rfl,hQ rows as H' ⟨smk.trans qk,⟨env.fd.fd,fun b hb=>env.fd.mm b (apG _ hb),fun p e hp=>env.fd.nm p e (apG _ hp)⟩,fun b hb=>?_⟩ (fun x hx=>?_) ⟨top,aqp.mpr ⟨nDas,nd⟩,by omega,rw'⟩ lr hR⟩
  ·rw [kp b hb,zm]
   obtain⟨o,h3⟩:=e1.fd.mm b hb
   exact zF h3 hn
  ·have:=asf x hx
   rw [zm (fun (z:x=D)=>nDas (z▸hx))] at this
   exact this
theorem anj {P:List (List Int)->Prop} (h:PEd K f tl ρ fun x=>∃ ds,x=.list ds/\ds.length<=1000/\∃ R:Nat->List Int->Prop,
   (∀ D (i:Nat) d,ds[i]?=some d->PEdL K (f.with D) te (some (.dat d) :: frD fr ρ) fun es=>∃ ns:List Int,es=ns.map .int/\R i ns)/\∀ rows,rows.length=ds.length->(∀ (k:Nat) r,rows[k]?=some r->R k r)->P rows) :
  ajk K f (jP (abY K tl) 1 fr (yR 0) ad2 fun D=>jO D te) ρ P:=fun σ H Q e q=>h σ H _ e fun x v H1 g1 r1 ⟨ds,ex,hz,R,rs,re⟩=>by
 subst ex
 obtain⟨a,xs,rfl,s1,s2⟩:=rep_list.mp r1
 have hl:=s2.length
 refine⟨a,rfl,⟨xs,(zh _ _).seq s1⟩,fun D hn=>?_⟩
 refine ajl (n:=ds.length) (dd:=fun i=>ds.getD i .none) (R:=R) hn (e.mono g1) hz (fun i H' sk=>?_) (fun i hi=>?_) fun rows as H' g' fa ta hl' hR=>?_
 ·have sq:SqL K H' a xs:=(zh _ _).seq (sk.seq s1)
  refine⟨fun hi=>?_,fun hi=>⟨xs,sq,by omega⟩⟩
  obtain⟨z,hzz,rz⟩:=s2.get (apA hi)
  refine⟨⟨xs,z,sq,hzz⟩,fun x H3 hy=>?_⟩
  obtain⟨rfl,hy⟩:=hy
  have ez:=hy xs sq
  rw [hzz] at ez
  cases ez
  refine⟨rfl,?_⟩
  have eg:ds.getD i .none=ds[i]:=by simp [auc,hi]
  rw [eg]
  exact Rep.mono sk _ _ rz
 ·have eg:ds.getD i .none=ds[i]:=by simp [auc,hi]
  rw [eg]
  exact rs D i _ (apA hi)
 ·exact q rows D as H' (g1.trans g') (g1.free e.fd hn) (fun x hx=>g1.free e.fd (fa x hx)) ta (re rows hl' hR)
theorem TabAt.rep {H:Hp} {a:Addr} {as:List Addr} {rows:List (List Int)} (t:TabAt H a as rows) (ha:¬ (f.f=some a \/ a∈f.M)) (hs:∀ x∈as,¬ (f.f=some x \/ x∈f.M)):Rep K (hide H f) (.list (rows.map fun r=>.list (r.map .int))) (.ref a):=by
 refine rep_list.mpr ⟨a,_,rfl,.of (zu ha t.top),?_⟩
 have key:∀ (as:List Addr) (rows:List (List Int)),as.length=rows.length->(∀ x∈as,¬ (f.f=some x \/ x∈f.M))->(∀ (i:Nat) x r,as[i]?=some x->rows[i]?=some r->H x=some (.lst (r.map .int)))->Reps K (hide H f) (rows.map fun r=>.list (r.map .int)) (as.map .ref):=by
  intro as
  induction as with
  | nil=>intro rows hl _ _;cases rows with
   | nil=>exact .nil'
   | cons r rs=>cases hl
  | cons x as ih =>
   intro rows hl hs hr
   cases rows with
   | nil=>cases hl
   | cons r rs =>
    exact .cons' (rep_list.mpr ⟨x,_,rfl,.of (zu (hs x apJ) (hr 0 x r rfl rfl)),Reps.ints' r⟩) (ih rs (by simpa using hl) (fun y hy=>hs y (apG _ hy)) fun i y q h1 h2=>hr (i+1) y q (by simpa using h1) (by simpa using h2))
 exact key as rows t.len hs t.row
end
noncomputable def alc (K:apD):List V->Hp->VK->Prop:=fun xs H Q=>∃ x n b,xs=[x,.ty n]/\((∃ a ys,x=.ref a/\SqL K H a ys/\aql K (.type "list") (.type n)=some b) \/ (∃ a ys,x=.ref a/\SqT K H a ys/\aql K (.type "tuple") (.type n)=some b) \/ ∃ t,TyOf K H x t/\aql K t (.type n)=some b)/\Q (.bl b) H
theorem ajm {X:Cx}:z9 X (.builtin "isinstance") (alc X.K):=by
 intro pins s σ H xs us Q I r h
 obtain⟨x,n,b,rfl,hx,q⟩:=h
 obtain⟨u,w',rfl,rx,rn⟩:=vals2 r
 cases rn
 rcases hx with⟨a,ys,rfl,hq,hk⟩ | ⟨a,ys,rfl,hq,hk⟩ | ⟨t,ty,hk⟩
 ·cases rx
  obtain⟨its,_,p,_⟩:=I.list hq
  obtain⟨o,ho,hc,_⟩:=p.isList
  exact aqr asZ I.kIn ⟨o,ho,hc⟩ hk (fun z=>nomatch z) fun tk=>⟨.bl b,H,I.tok tk,rfl,q⟩
 ·cases rx
  obtain⟨its,_,p,_⟩:=I.tuple hq
  obtain⟨o,ho,hc,_⟩:=p
  exact aqr PySem.W.kitx_tuple I.kIn ⟨o,ho,hc⟩ hk (fun z=>nomatch z) fun tk=>⟨.bl b,H,I.tok tk,rfl,q⟩
 ·exact ahK I rx ty hk fun tk=>⟨.bl b,H,I.tok tk,rfl,q⟩
section
variable {X:Cx} {K:apD}
theorem zB (hK:X.K=K):IxR X (ad0 K):=hK▸ak6
theorem yX (hK:X.K=K):IxR X (am5 K):=hK▸am6
theorem z4 (hK:X.K=K):z9 X (.builtin "len") (fun xs H Q=>∃ p ys,xs=[.ref p]/\(SqL K H p ys \/ SqT K H p ys)/\Q (.int ys.length) H):=hK▸acN
theorem abh (hK:X.K=K):z9 X (.type "list") (fun xs H Q=>∃ p ys,xs=[.ref p]/\(SqL K H p ys \/ SqT K H p ys)/\∀ l,H l=none->Q (.ref l) (upd H l (.lst ys))):=hK▸acP
theorem aaC (hK:X.K=K):z9 X (.type "tuple") (fun xs H Q=>∃ p ys,xs=[.ref p]/\((SqL K H p ys/\∀ l,H l=none->Q (.ref l) (upd H l (.tup ys))) \/ (SqT K H p ys/\Q (.ref p) H))):=hK▸abK
theorem ahT (hK:X.K=K) (hc:X.calm=true):z9 X (.builtin "min") (fun xs H Q=>∃ a ns,xs=[.ref a]/\SqL K H a (ns.map V.int)/\ns≠[]/\∀ M,M∈ns->(∀ b∈ns,M<=b)->Q (.int M) H):=hK▸ahP hc
theorem ahU (hK:X.K=K) (hc:X.calm=true):z9 X (.builtin "max") (fun xs H Q=>∃ a ns,xs=[.ref a]/\SqL K H a (ns.map V.int)/\ns≠[]/\∀ M,M∈ns->(∀ b∈ns,b<=M)->Q (.int M) H):=hK▸ahQ hc
theorem aah (hK:X.K=K) (hu:X.A.units+64<cLine):OpR X (compareOp .Eq) (ai4 K false):=hK▸anc hu
theorem jH (hK:X.K=K) (hu:X.A.units+64<cLine):OpR X (compareOp .NotEq) (ai4 K true):=hK▸ane hu
theorem ab9 (hK:X.K=K):z9 X (.builtin "isinstance") (alc K):=hK▸ajm
variable {tg l e st:Expr} {tl te ts:TE} {ta:TA} {p pos p2:Pos}
theorem zX (hK:X.K=K) (hl:PE X l tl):PI X tg l (abY K tl):=hK▸ak1 hl
theorem vP (hK:X.K=K) (hl:PE X l tl):PI X tg l (amY K tl):=hK▸amZ hl
theorem abi {es:List Expr} {k:Nat} {tpos:Pos} (hK:X.K=K) (hg:Gl X "enumerate") (hm:X.mg "enumerate"=none) (ha:PA X [l] ta) (hs:starEach [l] X.env=[(false,eval l X.env)]:=by rfl):PI X (.Tuple es k tpos) (.Call (.Name "enumerate" p) [l] [] pos) (agv K ta):=hK▸ak9 hg hm ha hs
theorem z5 (hK:X.K=K) (ha:PE X e te) (he:∀ whole,isTrue e X.env whole=(do let v <- whole;standAt e.pos;holding [v] (truthy v))):PT X e (ang K te):=hK▸anh ha he
theorem ald (hK:X.K=K) (he:PE X e te) (hst:PE X st ts):PE X (.Subscript e (.Slice none none (some st) p2) pos) (alb K te ts):=hK▸ani he hst
theorem yf {es:List Expr} {k:Nat} {t:TGs} {n:Nat} (hK:X.K=K) (hc:X.calm=true) (h:PGs X es t) (hn:(assignEach es X.env).length=n:=by rfl) (hst:(assignEach es X.env).findIdx? (·.1)=none:=by rfl):PG X (.Tuple es k pos) (amW K n t):=hK▸amX hc h hn hst
end
structure ItD (K:apD) (f:Fx) (ds:List PyData) (J:It) (H1:Hp):Prop where
 go:∀ (f':Fx) (H':Hp) (i:Nat) d,FOk f' H'->Same (hide H1 f) (hide H' f')->ds[i]?=some d->J.go i H'/\∀ x H3,J.yld i H' x H3->Goes f' H' H3/\Rep K (hide H3 f') d x
 st:∀ (f':Fx) (H':Hp),FOk f' H'->Same (hide H1 f) (hide H' f')->J.stop ds.length H'
noncomputable def PId (K:apD) (f:Fx) (wi:TI) (ρ:zp) (R:List PyData->Prop):Prop:=∀ (σ:St) (H:Hp) (C:It->Hp->Prop),EnvOk K f ρ σ H ->
 (∀ ds J H1,Goes f H H1->ItD K f ds J H1->R ds->C J H1)->wi σ H C
noncomputable def qV (n:Nat):List PyData:=(ap0 n).map fun (i:Nat)=>.int (i:Int)
noncomputable def vQ (ds:List PyData):List PyData:=ds.mapIdx fun i d=>.tuple [.int (i:Int),d]
section
variable {K:apD} {f:Fx} {ρ:zp} {R:List PyData->Prop} {tl:TE} {t:TA}
theorem PId.imp {wi:TI} {R':List PyData->Prop} (h:PId K f wi ρ R) (i:∀ ds,R ds->R' ds):PId K f wi ρ R':=fun σ H C e q=>h σ H C e fun ds J H1 g it r=>q ds J H1 g it (i ds r)
theorem vj (h:PAd K f t ρ fun xs=>∃ j:Int,xs=[.dat (.int j)]/\-(2 ^ 62)<=j/\j<2 ^ 62/\R (qV j.toNat)):PId K f (agn t) ρ R:=fun σ H C e q=>h σ H _ e fun xs vs H1 g1 r1 ⟨j,ex,q1,q2,p⟩=>by
 subst ex
 cases r1 with
 | @cons _ v0 _ _ rx r' =>
  cases r'
  have rx':Rep K (hide H1 f) (.int j) v0:=rx
  refine⟨j,by rw [rep_int.mp rx'],q1,q2,q _ _ H1 g1 ⟨fun f' H' i d fo _ hd=>?_,fun f' H' _ _=>?_⟩ p⟩
  ·unfold qV at hd
   rw [apM] at hd
   by_cases hi:i<j.toNat
   ·rw [ary hi] at hd
    cases hd
    refine⟨hi,fun x H3 hy=>?_⟩
    obtain⟨rfl,rfl⟩:=hy
    exact⟨.refl fo,rep_int.mpr (by rw [Int.zero_add])⟩
   ·rw [ap7 (by rw [aqY];omega)] at hd
    cases hd
  ·show j.toNat<=(qV j.toNat).length
   unfold qV
   rw [apC,aqY]
   exact apI _
theorem yM (h:PEd K f tl ρ fun x=>∃ ds,x=.list ds/\R ds):PId K f (abY K tl) ρ R:=fun σ H C e q=>h σ H _ e fun x v H1 g1 r1 ⟨ds,ex,p⟩=>by
 subst ex
 obtain⟨a,xs,rfl,h1,h2⟩:=rep_list.mp r1
 have hl:=h2.length
 refine⟨a,rfl,⟨xs,(zh _ _).seq h1⟩,q ds _ H1 g1 ⟨fun f' H' i d fo sm hd=>?_,fun f' H' _ sm=>⟨xs,(zh _ _).seq (sm.seq h1),ars hl⟩⟩ p⟩
 obtain⟨z,hz,rz⟩:=h2.get hd
 have sq:SqL K H' a xs:=(zh _ _).seq (sm.seq h1)
 refine⟨⟨xs,z,sq,hz⟩,fun x H3 hy=>?_⟩
 obtain⟨rfl,hy⟩:=hy
 have ez:=hy xs sq
 rw [hz] at ez
 cases ez
 exact⟨.refl fo,Rep.mono sm _ _ rz⟩
theorem aee (h:PEd K f tl ρ fun x=>∃ ds,x=.tuple ds/\R ds):PId K f (amY K tl) ρ R:=fun σ H C e q=>h σ H _ e fun x v H1 g1 r1 ⟨ds,ex,p⟩=>by
 subst ex
 obtain⟨a,xs,rfl,h1,h2⟩:=rep_tuple.mp r1
 have hl:=h2.length
 refine⟨a,rfl,⟨xs,(zh _ _).seqT h1⟩,q ds _ H1 g1 ⟨fun f' H' i d fo sm hd=>?_,fun f' H' _ sm=>⟨xs,(zh _ _).seqT (sm.seqT h1),ars hl⟩⟩ p⟩
 obtain⟨z,hz,rz⟩:=h2.get hd
 have sq:SqT K H' a xs:=(zh _ _).seqT (sm.seqT h1)
 refine⟨⟨xs,z,sq,hz⟩,fun x H3 hy=>?_⟩
 obtain⟨rfl,hy⟩:=hy
 have ez:=hy xs sq
 rw [hz] at ez
 cases ez
 exact⟨.refl fo,Rep.mono sm _ _ rz⟩
theorem ajn (h:PAd K f t ρ fun xs=>∃ ds,xs=[.dat (.list ds)]/\R (vQ ds)):PId K f (agv K t) ρ R:=fun σ H C e q=>h σ H _ e fun xs vs H1 g1 r1 ⟨ds,ex,p⟩=>by
 subst ex
 cases r1 with
 | cons rx r' =>
  cases r'
  obtain⟨a,xs,rfl,h1,h2⟩:=rep_list.mp rx
  have hl:=h2.length
  refine⟨a,rfl,⟨xs,(zh _ _).seq h1⟩,q (vQ ds) _ H1 g1 ⟨fun f' H' i d fo sm hd=>?_,fun f' H' _ sm=>⟨xs,(zh _ _).seq (sm.seq h1),by unfold vQ;rw [asM];exact ars hl⟩⟩ p⟩
  unfold vQ at hd
  rw [asu] at hd
  cases eq:ds[i]? with
  | none=>rw [eq] at hd;cases hd
  | some d0 =>
   rw [eq] at hd
   cases hd
   obtain⟨z,hz,rz⟩:=h2.get eq
   have sq:SqL K H' a xs:=(zh _ _).seq (sm.seq h1)
   refine⟨⟨xs,z,sq,hz⟩,fun x H3 hy=>?_⟩
   obtain⟨tp,y,rfl,hn,rfl,hy⟩:=hy
   have ez:=hy xs sq
   rw [hz] at ez
   cases ez
   have gn:Goes f' H' (upd H' tp (.tup [.int i,z])):=.of_same (zI hn _) fo
   exact⟨gn,rep_tuple.mpr ⟨tp,_,rfl,.of (zu (fresh_ne fo hn) zo),.cons' (rep_int.mpr rfl) (.cons' (Rep.mono gn.1 _ _ (Rep.mono sm _ _ rz)) .nil')⟩⟩
end
section
variable {K:apD} {f:Fx} {ρ:zp} {D:DEnds} {wi:TI} {g:TG} {ts:TS}
theorem aef (h:PId K f wi ρ fun ds=>∃ J:Nat->zp->Prop,J 0 ρ /\
   (∀ (i:Nat) d ρ',ds[i]?=some d->J i ρ'->PGd K f g d ρ' fun ρ2=>PSd K f ts ρ2 { D with nx:=J (i+1),ct:=J (i+1),bk:=D.nx })/\∀ ρ',J ds.length ρ'->D.nx ρ') :
  PSd K f (ahG wi g ts) ρ D:=fun σ H E e n r b c=>h σ H _ e fun ds J H1 g1 it ⟨Jv,j0,js,jd⟩=>by
 refine⟨fun i m σ' H'=>∃ ρ',EnvOk K f ρ' σ' H'/\Goes f H1 H'/\Jv i ρ'/\m+i=ds.length,⟨ds.length,ρ,e.mono g1,.refl g1.2,j0,rfl⟩,fun i m σ' H' ⟨ρ',e',g',p,hm⟩=>?_⟩
 by_cases hi:i<ds.length
 ·obtain⟨hgo,hy⟩:=it.go f H' i _ e'.fd g'.sm (apA hi)
  refine .inr ⟨hgo,fun σ2 H2=>∃ ρ2,EnvOk K f ρ2 σ2 H2/\Goes f H1 H2/\Jv (i+1) ρ2,fun σ2 H2 ⟨ρ2,e2,g2,p2⟩=>⟨m - 1,by omega,ρ2,e2,g2,p2,by omega⟩,fun x H3 hx=>?_⟩
  obtain⟨g3,r3⟩:=hy x H3 hx
  refine js i _ ρ' (apA hi) p σ' H3 x _ (e'.mono g3) r3 fun ρ2 σ2 H4 g4 e4 p4=>?_
  have gg:=g'.trans (g3.trans g4)
  exact p4 σ2 H4 _ e4 (fun ρ5 σ5 H5 g5 e5 p5=>⟨ρ5,e5,gg.trans g5,p5⟩) (fun d v H5 g5 r5 p5=>r d v H5 (g1.trans (gg.trans g5)) r5 p5) (fun ρ5 σ5 H5 g5 e5 p5=>n ρ5 σ5 H5 (g1.trans (gg.trans g5)) e5 p5) (fun ρ5 σ5 H5 g5 e5 p5=>⟨ρ5,e5,gg.trans g5,p5⟩)
 ·have ei:i=ds.length:=by omega
  subst ei
  exact .inl ⟨it.st f H' e'.fd g'.sm,n ρ' σ' H' (g1.trans g') e' (jd ρ' p)⟩
end
section
variable {K:apD} {f:Fx} {ρ:zp} {D:Addr} {wi:TI} {g:TG} {tt:TT} {te:TE}
theorem CSt.self {H2 H:Hp} {es:List PyData} {σ:St} (c:CSt K f D H2 ρ es σ H):CSt K f D H ρ es σ H:=⟨c.env,Same.refl _,fun _ _=>rfl,c.lst⟩
theorem CSt.trans {H2 H H':Hp} {es es':List PyData} {ρ':zp} {σ σ':St} (c:CSt K f D H2 ρ es σ H) (d:CSt K f D H ρ' es' σ' H'):CSt K f D H2 ρ' es' σ' H':=⟨d.env,c.sm.trans d.sm,fun b hb=>(d.kp b hb).trans (c.kp b hb),d.lst⟩
noncomputable def PBd (K:apD) (f:Fx) (D:Addr) (tb:TB) (ρ:zp) (es:List PyData) (R:zp->List PyData->Prop):Prop:=f.f≠some D->D∉f.M->∀ (σ:St) (H H2:Hp) (W:St->Hp->Prop),CSt K f D H2 ρ es σ H ->
 (∀ ρ2 es2 σ2 H',CSt K f D H2 ρ2 es2 σ2 H'->R ρ2 es2->W σ2 H')->tb σ H W
theorem yD {es:List PyData} {R:zp->List PyData->Prop} (hl:es.length<1000) (h:PEd K (f.with D) te ρ fun e=>R ρ (es++[e])):PBd K f D (jO D te) ρ es R:=fun hD hM σ H H2 W c q =>
 h σ H _ c.env fun e u H5 g5 r5 p5=>by
  have c5:=c.go g5 (c.env.mono g5)
  obtain⟨vs,h1,h2⟩:=c5.lst
  exact⟨vs,h1,zW (by rw [h2.length];omega),q _ _ _ _ (c5.put hD hM h1 h2 r5) p5⟩
theorem ajo {fi:Fx} {Hi H2 H:Hp} {ds es:List PyData} {J:It} {tb:TB} {σ:St} {W:St->Hp->Prop} (it:ItD K fi ds J Hi) (hD:f.f≠some D) (hM:D∉f.M) (c:CSt K f D H2 ρ es σ H) (sm:Same (hide Hi fi) (hide H (f.with D)))
  (Jv:Nat->zp->List PyData->Prop) (j0:Jv 0 ρ es)
  (js:∀ (i:Nat) d ρ' es',ds[i]?=some d->Jv i ρ' es'->PGd K (f.with D) g d ρ' fun ρ2=>PTd K (f.with D) tt ρ2 fun b=>if b=true then PBd K f D tb ρ2 es' (Jv (i+1)) else Jv (i+1) ρ2 es')
  (hW:∀ ρ' es' σ' H',CSt K f D H2 ρ' es' σ' H'->Jv ds.length ρ' es'->W σ' H'):ab7 J g tt tb σ H W:=by
 refine⟨fun i m σ' H'=>∃ ρ' es',CSt K f D H2 ρ' es' σ' H'/\Same (hide Hi fi) (hide H' (f.with D))/\Jv i ρ' es'/\m+i=ds.length,⟨ds.length,ρ,es,c,sm,j0,rfl⟩,fun i m σ' H' ⟨ρ',es',c',sm',p,hm⟩=>?_⟩
 by_cases hi:i<ds.length
 ·obtain⟨hgo,hy⟩:=it.go (f.with D) H' i _ c'.env.fd sm' (apA hi)
  refine .inr ⟨hgo,fun x H3 hx=>?_⟩
  obtain⟨g3,r3⟩:=hy x H3 hx
  have c3:=c'.go g3 (c'.env.mono g3)
  refine js i _ ρ' es' (apA hi) p σ' H3 x _ c3.env r3 fun ρ2 σ2 H4 g4 e4 p4=>?_
  have c4:=c3.go g4 e4
  refine p4 σ2 H4 _ e4 fun b H5 g5 p5=>?_
  have c5:=c4.go g5 (e4.mono g5)
  have sm5:=((sm'.trans g3.sm).trans g4.sm).trans g5.sm
  cases b with
  | false =>
   rw [if_neg apB] at p5 ⊢
   exact⟨m - 1,by omega,ρ2,es',c5,sm5,p5,by omega⟩
  | true =>
   rw [if_pos rfl] at p5 ⊢
   exact p5 hD hM σ2 H5 H5 _ c5.self fun ρ6 es6 σ6 H6 c6 p6=>⟨m - 1,by omega,ρ6,es6,c5.trans c6,sm5.trans c6.sm,p6,by omega⟩
 ·have ei:i=ds.length:=by omega
  subst ei
  exact .inl ⟨it.st (f.with D) H' c'.env.fd sm',hW ρ' es' σ' H' c' p⟩
theorem aoN {es:List PyData} {tb:TB} {R:zp->List PyData->Prop} (h:PId K (f.with D) wi ρ fun ds=>∃ Jv:Nat->zp->List PyData->Prop,Jv 0 ρ es /\
   (∀ (i:Nat) d ρ' es',ds[i]?=some d->Jv i ρ' es'->PGd K (f.with D) g d ρ' fun ρ2=>PTd K (f.with D) tt ρ2 fun b=>if b=true then PBd K f D tb ρ2 es' (Jv (i+1)) else Jv (i+1) ρ2 es') /\
   ∀ ρ' es',Jv ds.length ρ' es'->R ρ' es'):PBd K f D (tIn wi g tt tb) ρ es R:=fun hD hM σ H H2 W c q =>
 h σ H _ c.env fun ds J H1 g1 it ⟨Jv,j0,js,jd⟩ =>
  ajo it hD hM (c.go g1 (c.env.mono g1)) (Same.refl _) Jv j0 js fun ρ' es' σ' H' c' p=>q ρ' es' σ' H' c' (jd ρ' es' p)
noncomputable def PEdO (K:apD) (f:Fx) (te:TE) (ρ:zp) (P:List PyData->Prop):Prop:=∀ (σ:St) (H:Hp) (Q:VK),EnvOk K f ρ σ H ->
 (∀ es D vs H',Goes f H H'->H D=none->H' D=some (.lst vs)->Reps K (hide H' (f.with D)) es vs->P es->Q (.ref D) H')->te σ H Q
theorem PEdO.pedl {P:List PyData->Prop} (h:PEdO K f te ρ P):PEdL K f te ρ P:=fun σ H Q e q=>h σ H Q e fun es D vs H' g n h1 r p=>q es D vs H' g n h1 (Reps.mono qk es vs r) p
theorem PEdO.ped {P:PyData->Prop} (h:PEdO K f te ρ fun es=>P (.list es)):PEd K f te ρ P:=h.pedl.ped
theorem ajp {P:List PyData->Prop} (h:P []):PEdO K f (afu yJ) ρ P:=fun σ H Q e q=>⟨ap9 _,fun p hn=>q [] p [] _ (.of_same (zI hn _) e.fd) hn zo .nil' h⟩
theorem aai {own:Nat} {fr:List Nat} {tb:Addr->TB} {P:List PyData->Prop} (h:PId K f wi ρ fun ds=>∃ Jv:Nat->zp->List PyData->Prop,Jv 0 (aag own fr ρ) [] /\
   (∀ D (i:Nat) d ρ' es',ds[i]?=some d->Jv i ρ' es'->PGd K (f.with D) g d ρ' fun ρ2=>PTd K (f.with D) tt ρ2 fun b=>if b=true then PBd K f D (tb D) ρ2 es' (Jv (i+1)) else Jv (i+1) ρ2 es') /\
   ∀ ρ' es',Jv ds.length ρ' es'->P es'):PEdO K f (jP wi own fr g tt tb) ρ P:=fun σ H Q e q =>
 h σ H _ e fun ds J H1 g1 it ⟨Jv,j0,js,jd⟩ D hn=>by
  have nD:=fresh_ne g1.2 hn
  have hD:f.f≠some D:=fun z=>nD (.inl z)
  have hM:D∉f.M:=fun z=>nD (.inr z)
  refine ajo it hD hM (abg hn (e.mono g1)) (vh hn) Jv j0 (js D) fun ρ' es' σ' H' c' p=>?_
  obtain⟨ge,rep⟩:=aeb (σ':=σ') hn g1.2 c'
  obtain⟨vs,h1,h2⟩:=c'.lst
  exact q es' D vs H' (g1.trans ge) (g1.free e.fd hn) h1 h2 (jd ρ' es' p)
end
section
variable {K:apD} {f:Fx} {ρ:zp} {D:Addr} {wi:TI} {g:TG} {tt:TT} {te:TE}
theorem aaj {F:PyData->List PyData} {ds:List PyData} {i:Nat} {d:PyData} (h:ds[i]?=some d):(ds.take (i+1)).flatMap F=(ds.take i).flatMap F++F d:=by
 rw [art,h,aq0]
 simp
theorem ale {F:PyData->List PyData} {ds:List PyData} {i:Nat}:((ds.take i).flatMap F).length<=(ds.flatMap F).length:=by
 conv=>rhs;rw [<-aso i ds,aq0,apX]
 omega
noncomputable def OwnE (own:Nat) (ρ0:zp) (ρ':zp):Prop:=∃ us:zp,us.length=own/\ρ'=us++ρ0
theorem OwnE.one {ρ0 ρ':zp} (h:OwnE 1 ρ0 ρ'):∃ u,ρ'=u :: ρ0:=by
 obtain⟨us,h1,rfl⟩:=h
 match us,h1 with
 | [u],_=>exact⟨u,rfl⟩
theorem OwnE.two {ρ0 ρ':zp} (h:OwnE 2 ρ0 ρ'):∃ u v,ρ'=u :: v :: ρ0:=by
 obtain⟨us,h1,rfl⟩:=h
 match us,h1 with
 | [u,v],_=>exact⟨u,v,rfl⟩
theorem OwnE.mk1 {ρ0:zp} {u:Option DV}:OwnE 1 ρ0 (u :: ρ0):=⟨[u],rfl,rfl⟩
theorem OwnE.mk2 {ρ0:zp} {u v:Option DV}:OwnE 2 ρ0 (u :: v :: ρ0):=⟨[u,v],rfl,rfl⟩
theorem ank {own:Nat} {fr:List Nat} {tb:Addr->TB} {P:List PyData->Prop} (h:PId K f wi ρ fun ds=>∃ F:PyData->List PyData,(ds.flatMap F).length<=1000 /\
   (∀ D d ρ' es,d∈ds->OwnE own (frD fr ρ) ρ'->es.length+(F d).length<=1000->PGd K (f.with D) g d ρ' fun ρ2=>PTd K (f.with D) tt ρ2 fun b=>if b=true then PBd K f D (tb D) ρ2 es fun ρ3 es3=>OwnE own (frD fr ρ) ρ3/\es3=es++F d else OwnE own (frD fr ρ) ρ2/\F d=[]) /\
   P (ds.flatMap F)):PEdO K f (jP wi own fr g tt tb) ρ P :=
 aai (h.imp fun ds ⟨F,hl,hs,hp⟩=>by
  refine⟨fun i ρ' es=>OwnE own (frD fr ρ) ρ'/\es=(ds.take i).flatMap F,⟨⟨arR own none,by simp,rfl⟩,by simp⟩,fun D i d ρ' es hd ⟨ho,he⟩=>?_,fun ρ' es ⟨_,he⟩=>?_⟩
  ·have hb:es.length+(F d).length<=1000:=by
    rw [he,<- apX,<- aaj hd]
    exact ap1 ale hl
   have:=hs D d ρ' es (apN hd) ho hb
   intro σ H v Q e r q
   refine this σ H v Q e r fun ρ2 σ2 H2 g2 e2 p2=>q ρ2 σ2 H2 g2 e2 (p2.imp fun b hb2=>?_)
   cases b with
   | false =>
    rw [if_neg apB] at hb2 ⊢
    exact⟨hb2.1,by rw [aaj hd,hb2.2,aqe];exact he⟩
   | true =>
    rw [if_pos rfl] at hb2 ⊢
    intro h1 h2 σ3 H3 H4 W c k
    exact hb2 h1 h2 σ3 H3 H4 W c fun ρ5 es5 σ5 H5 c5 ⟨o5,p5⟩=>k ρ5 es5 σ5 H5 c5 ⟨o5,by rw [p5,aaj hd,he]⟩
  ·rw [he,aqC]
   exact hp)
theorem y6 {B:Bool->Prop} (h:B true):PTd K f ad2 ρ B:=fun σ H Q e q=>q true H (.refl e.fd) h
end
structure OEnds where
 nx:zp->List PyData->Prop
 rt:PyData->Prop
 bk:zp->List PyData->Prop:=fun _ _=>False
 ct:zp->List PyData->Prop:=fun _ _=>False
section
variable {K:apD} {f:Fx} {ρ:zp} {D:Addr} {wi:TI} {g:TG} {tt:TT} {te:TE} {ts tu:TS} {es:List PyData} {O:OEnds} {i:Nat}
noncomputable def yY (n:Nat):Option DV->Option DV
 | some (.own k)=>if k<n then some (.own k) else none
 | x=>x
end
section
variable {K:apD} {f:Fx} {ρ:zp} {P:PyData->Prop} {te ta tb:TE} {t:TA}
theorem Reps.drop {H:Hp}:∀ {ds:List PyData} {xs:List V} (n:Nat),Reps K H ds xs->Reps K H (ds.drop n) (xs.drop n)
 | _,_,0,r=>r
 | [],xs,n+1,r=>by
  rw [reps_nil.mp r]
  exact .nil'
 | d :: ds,xs,n+1,r=>by
  obtain⟨x,r',rfl,_,h⟩:=reps_cons.mp r
  exact Reps.drop n h
theorem Reps.take {H:Hp}:∀ {ds:List PyData} {xs:List V} (n:Nat),Reps K H ds xs->Reps K H (ds.take n) (xs.take n)
 | _,_,0,r=>.nil'
 | [],xs,n+1,r=>by
  rw [reps_nil.mp r]
  exact .nil'
 | d :: ds,xs,n+1,r=>by
  obtain⟨x,r',rfl,h0,h⟩:=reps_cons.mp r
  exact .cons' h0 (Reps.take n h)
noncomputable def cutD (ds:List PyData) (lo hi:Option Int):List PyData:=(ds.drop (HT.sIx ds.length 0 lo)).take (HT.sIx ds.length ds.length hi - HT.sIx ds.length 0 lo)
theorem Reps.cut {H:Hp} {ds:List PyData} {xs:List V} {lo hi:Option Int} (r:Reps K H ds xs):Reps K H (cutD ds lo hi) (afw xs lo hi):=by
 unfold cutD afw
 rw [r.length]
 exact (r.drop _).take _
noncomputable def POd (K:apD) (f:Fx) (t:TO) (ρ:zp) (R:Option Int->Prop):Prop:=∀ (σ:St) (H:Hp) (Q:Option Int->Hp->Prop),EnvOk K f ρ σ H->(∀ o H',Goes f H H'->R o->Q o H')->t σ H Q
theorem agA {R:Option Int->Prop} (h:R none):POd K f agq ρ R:=fun σ H Q e q=>q none H (.refl e.fd) h
theorem agB {R:Option Int->Prop} (h:PEd K f te ρ fun d=>∃ i:Int,d=.int i/\R (some i)):POd K f (amy te) ρ R:=fun σ H Q e q=>h σ H _ e fun d v H1 g1 r1 ⟨i,ed,p⟩=>by
 subst ed
 exact⟨i,rep_int.mp r1,q (some i) H1 g1 p⟩
theorem aoO {tl th:TO} {P:List PyData->Prop} (h:PEd K f te ρ fun x=>∃ ds,x=.list ds/\POd K f tl ρ fun lo=>POd K f th ρ fun hi=>P (cutD ds lo hi)):PEdL K f (tSl (ak7 K) te tl th) ρ P:=fun σ H Q e q =>
 h σ H _ e fun x v H1 g1 r1 ⟨ds,ex,p1⟩=>p1 σ H1 _ (e.mono g1) fun lo H2 g2 p2=>p2 σ H2 _ ((e.mono g1).mono g2) fun hi H3 g3 p3=>by
  subst ex
  have gg:=g1.trans (g2.trans g3)
  obtain⟨a,xs,rfl,h1,h2⟩:=rep_list.mp (Rep.mono (g2.trans g3).sm _ _ r1)
  refine⟨a,xs,rfl,(zh _ _).seq h1,fun p hn=>?_⟩
  have g4:Goes f H3 (upd H3 p (.lst (afw xs lo hi))):=.of_same (zI hn _) g3.ok
  exact q _ p _ _ (gg.trans g4) (gg.free e.fd hn) zo (Reps.mono g4.sm _ _ h2.cut) p3
theorem ajq {tl th:TO} (h:PEd K f te ρ fun x=>∃ ds,x=.list ds/\POd K f tl ρ fun lo=>POd K f th ρ fun hi=>P (.list (cutD ds lo hi))):PEd K f (tSl (ak7 K) te tl th) ρ P:=(aoO h).ped
theorem acX (h:PAd K f t ρ fun xs=>(∃ ds,xs=[.dat (.list ds)]/\P (.tuple ds)) \/ (∃ ds,xs=[.dat (.tuple ds)]/\P (.tuple ds))) :
  PEd K f (tCB (fun xs H Q=>∃ p ys,xs=[.ref p]/\((SqL K H p ys/\∀ l,H l=none->Q (.ref l) (upd H l (.tup ys))) \/ (SqT K H p ys/\Q (.ref p) H))) t) ρ P :=
 afz fun σ H Q e q=>h σ H Q e fun xs vs H' g r p=>by
  rcases p with⟨ds,rfl,p⟩ | ⟨ds,rfl,p⟩
  ·refine q _ vs H' g r ⟨_,rfl,fun vs H Q fo rs k=>?_⟩
   obtain⟨x,r,rfl,h2,h3⟩:=reps_cons.mp rs
   rw [reps_nil.mp h3]
   obtain⟨a,ys,rfl,s1,s2⟩:=rep_list.mp h2
   refine⟨a,ys,rfl,.inl ⟨(zh _ _).seq s1,fun l hn=>?_⟩⟩
   have g2:Goes f H (upd H l (.tup ys)):=.of_same (zI hn _) fo
   exact k (.tuple ds) _ _ g2 (rep_tuple.mpr ⟨l,ys,rfl,.of (zu (fresh_ne fo hn) zo),Reps.mono g2.1 ds ys s2⟩) p
  ·refine q _ vs H' g r ⟨_,rfl,fun vs H Q fo rs k=>?_⟩
   obtain⟨x,r,rfl,h2,h3⟩:=reps_cons.mp rs
   rw [reps_nil.mp h3]
   obtain⟨a,ys,rfl,s1,s2⟩:=rep_tuple.mp h2
   exact⟨a,ys,rfl,.inr ⟨(zh _ _).seqT s1,k (.tuple ds) _ H (.refl fo) (rep_tuple.mpr ⟨a,ys,rfl,s1,s2⟩) p⟩⟩
end
noncomputable abbrev f0:Fx:=⟨none,[]⟩
theorem fok0 (H:Hp):FOk f0 H:=⟨(fun p e=>by cases e),(fun b hb=>by cases hb),(fun p e=>by cases e)⟩
theorem aoP {H H':Hp} (s:Same H H'):Goes f0 H H':=.of_same s (fok0 H)
theorem same0 {H H':Hp} (g:Goes f0 H H'):Same H H':=fun b o h=>(zA (g.sm b o (by rw [yT];exact h))).2
noncomputable def acY:Option DV->Option DV
 | some (.dat d)=>some (.dat d)
 | _=>none
section
variable {K:apD} {ρ:zp} {te:TE} {tu:TS} {i:Nat}
theorem abj {p:Addr} {σ:St} {H:Hp} (e:EnvOk K ⟨some p,[]⟩ ρ σ H):EnvOk K f0 (ρ.map acY) σ H:=by
 refine⟨by rw [apC];exact e.len,fun i x h=>?_,fok0 H⟩
 rw [apM] at h
 cases eq:ρ[i]? with
 | none=>rw [eq] at h;cases h
 | some y =>
  rw [eq] at h
  cases y with
  | none=>cases h
  | some y =>
   obtain⟨v,h1,h2⟩:=e.get i y eq
   cases y with
   | dat d =>
    cases h
    refine⟨v,h1,?_⟩
    show Rep K (hide H f0) d v
    rw [yT]
    exact Rep.mono (zh _ _) d v h2
   | feed=>cases h
   | own k=>cases h
   | exc C=>cases h
   | mon φ=>cases h
theorem anl {Dn:DEnds} (h:∀ (σ:St) (H:Hp) (Q:VK),EnvOk K f0 ρ σ H->(∀ (p:Addr) (x y:Int) (H':Hp),Same H H'->H p=none->H' p=some (.lst [.int x,.int y])->0<=x->0<=y->y<2147483647->Q (.ref p) H')->te σ H Q)
  (hr:∀ p,PSd K ⟨some p,[]⟩ tu (ρ.set i (some .feed)) { nx:=fun ρ'=>Dn.nx (ρ'.map acY),rt:=Dn.rt,bk:=fun ρ'=>Dn.bk (ρ'.map acY),ct:=fun ρ'=>Dn.ct (ρ'.map acY) }) :
  PSd K f0 (jL (qc te (yR i)) tu) ρ Dn:=fun σ H E e n r b k=>h σ H _ e fun p x y H1 sm hn hp x0 y0 y1=>by
 have fo:FOk ⟨some p,[]⟩ H1:=⟨fun p' e=>by cases e;exact⟨x,y,hp,x0,y0,y1⟩,(fun b hb=>by cases hb),fun _ _ hb=>by cases hb⟩
 have sm0:Same H (hide H1 ⟨some p,[]⟩):=fun b o hb=>by
  have nb:b≠p:=fun e=>by rw [e,hn] at hb;cases hb
  refine zu (fun z=>?_) (sm b o hb)
  rcases z with z | z
  ·cases z;exact nb rfl
  ·cases z
 have e1:EnvOk K ⟨some p,[]⟩ ρ σ H1:=by
  refine⟨e.len,fun j z hz=>?_,fo⟩
  obtain⟨v,a1,a2⟩:=e.get j z hz
  refine⟨v,a1,?_⟩
  cases z with
  | dat d =>
   have a2':Rep K (hide H f0) d v:=a2
   rw [yT] at a2'
   exact Rep.mono sm0 d v a2'
  | feed=>obtain⟨q,hq,_⟩:=a2;cases hq
  | own k=>obtain⟨q,hq,_⟩:=a2;cases hq
  | exc C =>
   obtain⟨q,h3,h4⟩:=a2
   refine⟨q,h3,sm0 _ _ ?_⟩
   rw [yT] at h4
   exact h4
  | mon φ =>
   intro H' s
   refine a2 H' (Same.trans ?_ s)
   rw [yT]
   exact sm0
 have gg:∀ {H':Hp},Goes ⟨some p,[]⟩ H1 H'->Goes f0 H H':=fun g=>aoP fun b o hb=>zh _ _ b o (g.sm b o (sm0 b o hb))
 refine hr p _ H1 E (e1.set i (x:=.feed) ⟨p,rfl,rfl⟩) (fun ρ' σ' H' g' e' p'=>n _ σ' H' (gg g') (abj e') p') (fun d v H' g' r' p'=>r d v H' (gg g') ?_ p') (fun ρ' σ' H' g' e' p'=>b _ σ' H' (gg g') (abj e') p') (fun ρ' σ' H' g' e' p'=>k _ σ' H' (gg g') (abj e') p')
 rw [yT]
 exact Rep.mono (zh _ _) d v r'
end
section
variable {X:Cx} {K:apD}
noncomputable def aoQ (i j:Int):Prop:=0<j/\j<1152921504606846976
theorem aeg:OpR X (binaryOp .FloorDiv) (rI aoQ fun i j=>.int (i / j)):=opI fun i j _ _ _ _ _ hc q=>by
 obtain⟨h1,h2⟩:=hc
 rw [<-Int.fdiv_eq_ediv_of_nonneg i (Int.le_of_lt h1)] at q
 refine floordiv_int (by omega) q (.inl (PyProof.noPylong_of_log2 ?_))
 have h0:j.natAbs≠0:=by omega
 have:j.natAbs.log2<60:=(Nat.log2_lt h0).mpr (by omega)
 omega
theorem aeh (hK:X.K=K):SlR X (ak7 K):=hK▸ak8
end
section
variable {K:apD} {f:Fx} {ρ:zp} {wi:TI} {g:TG} {tt:TT} {own:Nat} {fr:List Nat} {tb:Addr->TB} {P:List PyData->Prop}
theorem qP {α:Type} {A B:α->PyData} (xs:List α) (h:PId K f wi ρ fun ds=>ds=xs.map A/\xs.length<=1000 /\
   (∀ D x ρ' es,x∈xs->OwnE own (frD fr ρ) ρ'->es.length<1000->PGd K (f.with D) g (A x) ρ' fun ρ2=>PTd K (f.with D) tt ρ2 fun b=>if b=true then PBd K f D (tb D) ρ2 es fun ρ3 es3=>OwnE own (frD fr ρ) ρ3/\es3=es++[B x] else False)/\P (xs.map B)) :
  PEdO K f (jP wi own fr g tt tb) ρ P :=
 aai (h.imp fun ds ⟨ed,hl,hs,hp⟩=>by
  subst ed
  refine⟨fun i ρ' es=>OwnE own (frD fr ρ) ρ'/\es=(xs.take i).map B,⟨⟨arR own none,by simp,rfl⟩,by simp⟩,fun D i d ρ' es hd ⟨ho,he⟩=>?_,fun ρ' es ⟨_,he⟩=>?_⟩
  ·rw [apM] at hd
   cases eq:xs[i]? with
   | none=>rw [eq] at hd;cases hd
   | some x =>
    rw [eq] at hd
    cases hd
    have hi:i<xs.length:=(apE.mp eq).1
    have hb:es.length<1000:=by
     rw [he,apC,aqi]
     omega
    intro σ H v Q e r q
    refine hs D x ρ' es (apN eq) ho hb σ H v Q e r fun ρ2 σ2 H2 g2 e2 p2=>q ρ2 σ2 H2 g2 e2 (p2.imp fun b hb2=>?_)
    cases b with
    | false =>
     rw [if_neg apB] at hb2
     exact hb2.elim
    | true =>
     rw [if_pos rfl] at hb2 ⊢
     intro h1 h2 σ3 H3 H4 W c k
     exact hb2 h1 h2 σ3 H3 H4 W c fun ρ5 es5 σ5 H5 c5 ⟨o5,p5⟩=>k ρ5 es5 σ5 H5 c5 ⟨o5,by rw [p5,he,art,eq,ap6];rfl⟩
  ·rw [he,apC,aqC]
   exact hp)
end
structure XLie (P:Program) (w:World) (outer:List Env) (H:Hp) (s:Shared) (e:Addr) (C:Value) (H':Hp) (s':Shared):Prop where
 os:s'.os=s.os
 bare:AllBare s'.gens
 un:Un (frs outer) [] H H' s.heap s'.heap
 hok:HOk P w H' s'.heap
 fly:∃ B a0,atj B outer e C a0 s'.heap/\(∀ b o,s.heap.get? b=some o->b∉frs outer->∃ o',B.get? b=some o')/\∀ b o,H' b=some o->∃ o',B.get? b=some o'
 new:s.heap.get? e=none
 free:H' e=none
noncomputable def CXe (P:Program) (w:World):CXT:=fun outer H s E e s'=>∃ a C H',e=.ref a/\XLie P w outer H s a C H' s'/\E C none H'
section
variable {P:Program} {w:World} {H H':Hp} {h h':Heap}
theorem ObjOk.is {a:Addr} {o:HO} (x:ObjOk P w H h a o):∃ u,h.get? a=some u:=by
 induction o with
 | lst xs=>obtain⟨_,_,_,_,e⟩:=x;exact⟨_,e⟩
 | tup xs=>obtain⟨_,_,_,ob,e,_⟩:=x;exact⟨_,e⟩
 | dK kvs=>obtain⟨_,_,_,_,o,_,_,e,_⟩:=x;exact⟨_,e⟩
 | dT kvs=>obtain⟨_,_,_,_,o,_,_,e,_⟩:=x;exact⟨_,e⟩
 | set S n=>obtain⟨o,_,_,_,e,_⟩:=x;exact⟨_,e⟩
 | ins C dx fs=>obtain⟨_,_,_,e,_⟩:=x;exact⟨_,e⟩
 | own y=>exact x
 | xd fs=>obtain⟨_,⟨o,_,_,e,_⟩,_⟩:=x;exact⟨_,e⟩
 | rng lo hi=>obtain⟨_,_,_,e⟩:=x;exact⟨_,e⟩
 | frz ob u ih=>exact⟨_,x.1⟩
 | tbl ps=>exact⟨_,x⟩
 | met f y=>exact⟨_,x⟩
 | ext φ=>exact x.2.1
theorem HOk.stays (x:HOk P w H h) (k:∀ b o u,H b=some o->h.get? b=some u->h'.get? b=some u):HOk P w H h':=fun a o e =>
 (x a o e).stay (fun b u hb q=>by
  rcases hb with rfl | hb
  ·exact k b o u e q
  ·exact k b _ u hb q) (fun _ q=>q) fun _ _ q=>q
end
section
variable {X:Cx} {pins:List (Addr×Obj)} {σ:St} {H H':Hp} {s s':Shared} {a:Addr} {C:Value} {outer:List Env}
theorem Inv.old_ne (I:Inv X pins σ H s) (hst:X.stack=X.env :: X.outer) (hf:X.env.frame=some X.env.locals) {b:Addr} {o:Obj} (q:X.s₀.heap.get? b=some o) (hb:b∉frs X.outer):b∉frs X.stack:=fun z=>by
 rw [hst] at z
 unfold frs at z
 rw [aqZ,hf] at z
 rcases apK.mp z with z | z
 ·have h1:b<X.s₀.heap.objs.size:=apU q
  rw [z] at h1
  exact absurd h1 (ati.mpr I.ok.above)
 ·exact hb z
theorem ajr {E:Value->Shared->Prop} (I:Inv X pins σ H s) (hst:X.stack=X.env :: X.outer) (hf:X.env.frame=some X.env.locals) (hex:X.ex=[]) (x:XLie X.prog X.w X.stack H s a C H' s') :
  wpAny (model X.prog X.w) X.A (leaving X.env (.ref a)) (fun _ s''=>XLie X.prog X.w X.outer X.H₀ X.s₀ a C H' s'') E s':=by
 obtain⟨B,a0,fl,dom,trk⟩:=x.fly
 have J:Inv X pins σ H' s':=I.call' x.os x.un x.hok x.bare (fun b z=>absurd z (by simp))
 have hfl:=fl
 rw [hst] at hfl
 refine wpAny_leaves_onW (by rw [I.ok.frames,hst]) hf hfl fun h' fl' up=>?_
 have inB:∀ b o,X.s₀.heap.get? b=some o->b∉frs X.outer->∃ o',B.get? b=some o':=fun b o q hb=>by
  obtain⟨o1,q1⟩:=I.base.there b o q (by rw [hex];simp)
  exact dom b o1 q1 (I.old_ne hst hf q hb)
 have eqB:∀ b o o',B.get? b=some o'->s'.heap.get? b=some o->h'.get? b=some o:=fun b o o' hb q=>by
  have:=fl.1 b o' hb
  rw [q] at this
  cases this
  exact fl'.1 b o hb
 have noF:∀ b o,b∈frs X.outer->s'.heap.get? b=some o->∀ vs,o.data≠.fields vs:=fun b o hb q=>by
  obtain⟨_,o1,q1,hd⟩:=J.stack.mem (b:=b) (by
   show b∈frs X.stack
   rw [hst]
   unfold frs
   rw [aqZ,hf]
   exact apG _ hb)
  rw [q] at q1
  cases q1
  exact hd
 have ex0:∀ b:Addr,b∉X.ex:=fun b=>by rw [hex];simp
 refine⟨x.os.trans I.os,x.bare,⟨fun b o q n hb _=>?_,fun b o q n hb _=>?_,fun b o q n _=>J.base.free b o q n (ex0 b),fun b o q _=>?_,J.base.tups,J.base.frzs,J.base.tbls⟩,?_,⟨B,a0,fl',inB,trk⟩,?_,x.free⟩
 ·obtain⟨o',hB⟩:=inB b o q hb
  exact eqB b o o' hB (J.base.keep b o q n hb (ex0 b))
 ·obtain⟨sl,q1⟩:=J.base.slot b o q n hb (ex0 b)
  obtain⟨sl',q2⟩:=up b _ q1 (noF b _ hb q1)
  exact⟨sl',q2⟩
 ·obtain⟨o1,q1⟩:=J.base.there b o q (ex0 b)
  by_cases hb:b∈frs X.outer
  ·obtain⟨sl',q2⟩:=up b _ q1 (noF b _ hb q1)
   exact⟨_,q2⟩
  ·obtain⟨o',hB⟩:=inB b o q hb
   exact⟨_,fl'.1 b o' hB⟩
 ·refine HOk.stays x.hok fun b o u e q=>?_
  obtain⟨o',hB⟩:=trk b o e
  exact eqB b u o' hB q
 ·cases q:X.s₀.heap.get? a with
  | none=>rfl
  | some o =>
   obtain⟨o1,q1⟩:=I.base.there a o q (ex0 a)
   rw [x.new] at q1
   cases q1
end
end L2
end
section
namespace L2
open PySem PySem.Spec PyProof.Rows
section
variable {X:Cx} {pins:List (Addr×Obj)} {σ:St} {H H' H1 H2:Hp} {s s' s1 s2:Shared} {a:Addr} {C:Value} {i j:Nat}
theorem anm {M:Model} {A:Around} {E:Value->Shared->Prop} {x:Str} {v:V} {Q:Unit->Shared->Prop} (I:Inv X pins σ H s) (hN:X.N.Nodup) (hi:X.N[i]?=some x) (hk:X.env.scope.names.lookup x=some .local) (hv:σ[i]?=some (some v))
  (h:∀ s',Inv X pins (σ.set i none) H s'->Q () s'):wpAny M A (unbindName X.env x) Q E s:=by
 obtain⟨m,hn,hl⟩:=id I.loc
 obtain⟨u,r,lk⟩:=hl i x v hi hv (.inl hk)
 have hm:m x=some u:=by
  rcases lk with⟨_,e⟩ | ⟨z,_⟩
  ·exact e
  ·rcases z with z | z
   ·have z':X.env.scope.names.lookup x=some .cell:=z
    rw [hk] at z';cases z'
   ·have z':X.env.scope.names.lookup x=some .free:=z
    rw [hk] at z';cases z'
 have plain:(X.env.scope.kind == .class
   || (X.env.scope.kind == .module
    && X.env.locals != X.env.globals))=false:=by
  rw [I.ok.kind]
  rfl
 have cne:=I.cne
 refine wpAny_unbindName_local hk hn hm plain fun h' w hn' hs=>?_
 have old:∀ {b:Addr} {o:Obj},X.s₀.heap.get? b=some o->b≠X.env.locals:=fun {b o} e=>aqb (ap2 (apU e) I.ok.above)
 refine h _ ⟨I.ok,I.os,I.bare,⟨fun b o e n hb hx=>(hs.2 b (old e)).trans (I.base.keep b o e n hb hx),fun b o e n hb hx=>?_,I.base.free,fun b o e hx=>?_,I.base.tups,I.base.frzs,I.base.tbls⟩,⟨_,hn',fun q y v' e1 e2 e3=>?_⟩,fun y c e=>?_,I.free,I.freeC,fun p hp=>?_,?_,by rw [aqB];exact I.len⟩
 ·obtain⟨sl,e1⟩:=I.base.slot b o e n hb hx
  exact⟨sl,(hs.2 b (old e)).trans e1⟩
 ·obtain⟨o',e1⟩:=I.base.there b o e hx
  exact⟨o',(hs.2 b (old e)).trans e1⟩
 ·by_cases hj:q=i
  ·subst hj
   rw [as0] at e2
   rw [if_pos rfl] at e2
   split at e2 <;> cases e2
  ·rw [aqs (aqP hj)] at e2
   obtain⟨u',r',z⟩:=hl q y v' e1 e2 e3
   refine⟨u',r',?_⟩
   rcases z with⟨k,e⟩ | ⟨k,c,e,z⟩
   ·refine .inl ⟨k,?_⟩
    have:y≠x:=fun e=>hj (aa2 hN e1 (e▸hi))
    show (if y=x then w else m y)=some u'
    rw [if_neg this]
    exact e
   ·exact .inr ⟨k,c,e,z.sameBut hs (cne y c e)⟩
 ·obtain⟨w',z⟩:=I.cell y c e
  exact⟨w',z.sameBut hs (cne y c e)⟩
 ·obtain⟨e,n,ne,nf,d⟩:=I.pin p hp
  exact⟨(hs.2 p.1 ne).trans e,n,ne,nf,d⟩
 ·refine HOk.stays I.hok fun b o u e q=>(hs.2 b ?_).trans q
  rintro rfl
  rw [I.free] at e
  cases e
noncomputable def Cx.marked (X:Cx) (e:Value):Cx:={ X with A:=X.A.mark (some e),calm:=false,xe:=fun _ _=>False }
theorem Cx.Ok.marked (ok:X.Ok) (e:Value):(X.marked e).Ok :=
 ⟨ok.mod,ok.kind,ok.glob,ok.blt,ok.above,ok.inj,ok.has,ok.cab,(fun z=>by cases z),ok.frames,ok.stk,ok.exf,ok.bs,ok.bsz,ok.noex,ok.exfs,ok.funs,ok.frf⟩
theorem Inv.marked (I:Inv X pins σ H s) (e:Value):Inv (X.marked e) pins σ H s:=⟨I.ok.marked e,I.os,I.bare,I.base,I.loc,I.cell,I.free,I.freeC,I.pin,I.hok,I.len⟩
theorem Inv.unmarked {e:Value} (ok:X.Ok) (I:Inv (X.marked e) pins σ H s):Inv X pins σ H s:=⟨ok,I.os,I.bare,I.base,I.loc,I.cell,I.free,I.freeC,I.pin,I.hok,I.len⟩
theorem XLie.move {P:Program} {w:World} {outer:List Env} {B:Heap} {a0:Value} {h'':Heap} (x:XLie P w outer H s a C H' s') (fl:atj B outer a C a0 s'.heap) (dom:∀ b o,s.heap.get? b=some o->b∉frs outer->∃ o',B.get? b=some o')
  (trk:∀ b o,H' b=some o->∃ o',B.get? b=some o') (st:B.StaysIn h'') (up:s'.heap.UpToSlots h''):Un (frs outer) [] H H' s.heap h''/\HOk P w H' h'':=by
 have eqB:∀ b o o',B.get? b=some o'->s'.heap.get? b=some o->h''.get? b=some o:=fun b o o' hb q=>by
  have:=fl.1 b o' hb
  rw [q] at this
  cases this
  exact st b o hb
 have noF:∀ b o,b∈frs outer->s'.heap.get? b=some o->∀ vs,o.data≠.fields vs:=fun b o hb q=>by
  obtain⟨_,o1,q1,hd⟩:=fl.2.2.1.mem hb
  rw [q] at q1
  cases q1
  exact hd
 refine⟨⟨fun b o q n hb z=>?_,fun b o q n hb z=>?_,x.un.free,fun b o q z=>?_,x.un.tups,x.un.frzs,x.un.tbls⟩,HOk.stays x.hok fun b o u e q=>?_⟩
 ·obtain⟨o',hB⟩:=dom b o q hb
  exact eqB b o o' hB (x.un.keep b o q n hb z)
 ·obtain⟨sl,q1⟩:=x.un.slot b o q n hb z
  obtain⟨sl',q2⟩:=up b _ q1 (noF b _ hb q1)
  exact⟨sl',q2⟩
 ·by_cases hb:b∈frs outer
  ·obtain⟨o1,q1⟩:=x.un.there b o q z
   obtain⟨sl',q2⟩:=up b _ q1 (noF b _ hb q1)
   exact⟨_,q2⟩
  ·obtain⟨o',hB⟩:=dom b o q hb
   exact⟨_,st b o' hB⟩
 ·obtain⟨o',hB⟩:=trk b o e
  exact eqB b u o' hB q
end
noncomputable def acZ (D:Ends) (j:Nat):Ends where
 nx:=fun σ H=>D.nx (σ.set j none) H
 rt:=D.rt
 bk:=fun σ H=>D.bk (σ.set j none) H
 ct:=fun σ H=>D.ct (σ.set j none) H
section
variable {X:Cx} {pins:List (Addr×Obj)} {σ:St} {H H1 H2:Hp} {s s1 s2:Shared} {a C0:Addr} {C:Value} {i j:Nat} {n hx:Str} {b0:Stmt} {suite:List Stmt} {hp hpos:Pos} {ts:TS} {D:Ends}
theorem ac0 {M:Model} {A:Around} {E:Value->Shared->Prop} {Q:Unit->Shared->Prop} (I:Inv X pins σ H s) (hN:X.N.Nodup) (hj:X.N[j]?=some n) (hn:X.env.scope.names.lookup n=some .local) (h:∀ s',Inv X pins (σ.set j none) H s'->Q () s') :
  wpAny M A (do bindName X.env n .none;unbindBehindTheSuite X.env n hpos) Q E s:=by
 refine wpAny_bind (wpAny_bindName (vN (v:=.non) I hN hj (.inl hn) rfl (fun s' I'=>?_) (.inr hn)))
 unfold unbindBehindTheSuite
 refine wpAny_onRaise (anm (v:=.non) I' hN hj hn ?_ fun s'' I''=>?_)
 ·have:j<σ.length:=by rw [I.len];exact (apE.mp hj).1
  rw [aqm this]
 ·rw [List.set_set] at I''
  exact h s'' I''
end
end L2
end
section
namespace L2
open PySem PySem.Spec PySem.W PyProof.Rows PySem.Calls PySem.Builtin Builtin Builtin.ObjectAttr Builtin.Getset_descriptor
section
variable {prog:Program} {w:World} {A:Around} {E:Value->Shared->Prop} {s:Shared} {K:apD} {a C:Addr}
structure ExcWays (K:apD) (C:Addr):Prop where
 ga:findIn K (.ref C) "__getattribute__"=some (some (.builtin "BaseException.__getattribute__"))
 gt:findIn K (.ref C) "__getattr__"=some none
 cl:findIn K (.ref C) "__class__"=some (some (.builtin "object.__class__"))
 gs:specialIn K (.builtin "object.__class__") "__get__"=some (some (.builtin "getset_descriptor.__get__"))
 tk:takesIn K (.builtin "object.__class__")=some true
 ob:mroIn K C (.type "object")=some true
 be:mroIn K C (.type "BaseException")=some true
 iz:(clsIn K C).isSome=true
noncomputable def aaD (a C:Addr) (h:Heap):Prop:=∃ o,h.get? a=some o/\o.cls=.ref C
theorem qW {M:Model} {h:Heap} (x:aaD a C h):Looks M h (typeOf (.ref a)) (.ref C):=by
 obtain⟨o,h1,h2⟩:=x
 exact h2▸(Looks.ld h1).andThen .now
theorem ahV {M:Model} {h:Heap} {x:Value} {nm:Str} {d g:Value} (X:K.In h) (h1:findIn K (.ref C) nm=some (some d)) (h2:specialIn K d "__get__"=some (some g)) (h3:takesIn K d=some true):Looks M h (find x (.ref C) nm) (.bind g d):=by
 have L1:=looks_findIn (M:=M) X h1
 have L2:Looks M h (getOf (some d)) (some g):=looks_specialIn X h2
 have L3:Looks M h (dataDescriptor? (some d) (some g)) (some (g,d)):=(looks_takesIn (M:=M) X h3).andThen .now
 exact L1.andThen (L2.andThen (L3.andThen (Looks.tag .now)))
theorem afD {R:Result->Shared->Prop} {tp:Value} (X:K.In s.heap) (I:aaD a C s.heap) (hm:mroIn K C (.type "object")=some true) (h:R (.ok (.ret (.ref C))) s) :
  codeAny (model prog w) A (.call (.builtin "getset_descriptor.__get__") ⟨[.builtin "object.__class__",.ref a,tp],[]⟩) R s:=by
 obtain⟨hh,g,dr,t,os⟩:=s
 have L0:=qW (M:=model prog w) I
 have L1:=looks_mroIn (M:=model prog w) X hm
 refine codeAny_call_builtin KF.slot_gs.plain KF.entry_gs (KF.slot_gs.check _ _ _ _ _ _ _ _ KF.type_class (KF.args_gs _ _ _) ?_)
 unfold Builtin.«getset_descriptor.__get__» descrGet
 rw [dga_obj]
 refine wpAny_bind (wpAny_pure ?_)
 unfold descrGetter descrCheckInstance descrNameAndClass isInstance
 simp only [KF.owner_class]
 repeat lk
 refine⟨asN _ (by decide +kernel),codeAny_builtin KF.entry_class ?_⟩
 unfold Builtin.«object.__class__» shownTypeOf
 repeat lk
 exact h
theorem aei {M:Model} {nameV:Value} {Q:Unit->Shared->Prop} (X:K.In s.heap) (I:aaD a C s.heap) (Wy:ExcWays K C) (h:Q () s):wpAny M A (checkBuiltinCall "BaseException.__getattribute__" ⟨[.ref a,nameV],[]⟩) Q E s:=by
 obtain⟨hh,g,dr,t,os⟩:=s
 have hk:builtinKind "BaseException.__getattribute__"=some .slot:=by decide +kernel
 have hsp:splitId "BaseException.__getattribute__"=some ("BaseException","__getattribute__"):=by decide +kernel
 have L0:=qW (M:=M) I
 have L1:=looks_mroIn (M:=M) X Wy.be
 have ha:=F.args_bexc_ga (.ref a) nameV
 simp only [checkBuiltinCall,hk,hsp]
 unfold isInstance
 refine wpAny_bind (wpAny_bind (L0.at (L1.at ?_)))
 rw [aqd,if_neg apB]
 exact wpAny_of_eq ha h
theorem alf {Q:Option Value->Shared->Prop} (X:K.In s.heap) (I:aaD a C s.heap) (Wy:ExcWays K C) (h:Q (some (.ref C)) { s with toks:=s.toks+1 }):wpAny (model prog w) A (getAttr? (.ref a) "__class__") Q E s:=by
 obtain⟨hh,g,d,t,os⟩:=s
 have L0:=qW (M:=model prog w) I
 have L1:=looks_findIn (M:=model prog w) X Wy.ga
 have L2:=looks_findIn (M:=model prog w) X Wy.gt
 unfold getAttr? getAttrBy? getAttrBy
 refine wpAny_bind (wpAny_mkText (wpAny_bind (wpAny_attempt (wpAny_holding (wpAny_bind (L0.at (wpAny_bind (L1.at ?_))))))))
 dsimp only
 rw [if_neg (by
  have z:(Value.builtin "BaseException.__getattribute__" == Value.builtin "object.__getattribute__")=false:=by decide +kernel
  rw [z,arT]
  exact apB)]
 unfold getAttrByItsOwn hookBefore
 rw [if_pos (show onTheHeap (Value.ref C)=true from rfl)]
 refine wpAny_bind (L2.at (wpAny_bind (wpAny_attempt (wpAny_holding ?_))))
 unfold callGetattribute
 rw [arj,if_neg apB]
 unfold boundAndCalled
 have f3:=atJ.ga.bind (.ref a)
 rw [f3]
 refine wpAny_bind (wpAny_pure ?_)
 dsimp only
 refine wpAny_call (codeAny_call_builtin atJ.ga.plain F.entry_bexc_ga (aei (K:=K) (C:=C) X I Wy ?_))
 have LF:=ahV (M:=model prog w) (x:=.ref a) X Wy.cl Wy.gs Wy.tk
 unfold Builtin.«object.__getattribute__»
 refine wpAny_bind (wpAny_of_eq (a:=(Value.ref a,[Value.str (aqh "__class__") t])) rfl ?_)
 dsimp only
 refine wpAny_bind (wpAny_of_eq (a:=(aqh "__class__")) rfl ?_)
 refine wpAny_bind (L0.at (wpAny_bind (LF.at ?_)))
 dsimp only
 unfold bindTo
 refine wpAny_bind (wpAny_call (afD (K:=K) X I Wy.ob ?_))
 show wpAny _ _ (pure _) _ _ _
 refine wpAny_pure ?_
 dsimp only
 exact handed_on rfl (wpAny_pure h)
theorem ajs (Wy:ExcWays K C):KitX K (.ref a) (.ref C) (aaD a C) where
 ty:=fun _ _ _ I=>qW I
 it:=fun _ _ X _=>by
  obtain⟨cd,hc⟩:=aq5.mp Wy.iz
  unfold clsIn at hc
  split at hc
  ·rename_i lk
   intro A' Q' E' s' k q
   unfold isType loadHead
   exact wpAny_bind (wpAny_loadPart (k _ _ (X _ _ lk)) (wpAny_pure q))
  ·cases hc
 ne:=fun h tp dd its n sl X htp=>by
  obtain⟨cd,hc⟩:=aq5.mp Wy.iz
  refine Bool.eq_false_iff.mpr fun q=>?_
  have e:C=tp:=Value.ref.inj (beq_iff_eq.mp q)
  unfold clsIn at hc
  split at hc
  ·rename_i lk
   have z:=X _ _ lk
   rw [e] at z
   rw [htp] at z
   cases z
  ·cases hc
 ca:=fun X I k=>alf X I Wy k
end
structure FnInX (P:Program) (w:World) (K:apD) (mg:Str->Option Value) (base:Heap) (k:Nat) (x:Str) (ps:List Str) (sp:Sp):Prop where
 ex:∃ (f:Addr) (fd:FuncData),FnOk P w K mg base (CXe P w) k f fd ps sp/\mg x=some (.ref f)/\aqq K (.ref f)=true/\Binds K fd ps []
end L2
end
section
namespace L2
open PySem PySem.Spec PyProof.Rows
noncomputable def ano (K:apD):List V->Hp->VK->Prop:=fun xs H Q=>∃ (a:Addr) (bs:List Bool),xs=[.ref a]/\SqL K H a (bs.map V.bl)/\Q (.bl (bs.all id)) H
noncomputable def anp (K:apD):List V->Hp->VK->Prop:=fun xs H Q=>∃ (a:Addr) (bs:List Bool),xs=[.ref a]/\SqL K H a (bs.map V.bl)/\Q (.bl (bs.any id)) H
theorem abk:∀ {bs:List Bool} {us:List Value},Vals (bs.map V.bl) us->us=bs.map Value.bool
 | [],us,r=>by
  cases r
  rfl
 | b :: bs,us,r=>by
  cases r with
  | cons h t =>
   rw [abk t]
   cases (show _=Value.bool b from h)
   rfl
theorem range_all (bs:List Bool):(ap0 bs.length).all (fun i=>bs.getD i false)=bs.all id:=by
 rw [ar4,aqU,aqU]
 constructor
 ·intro h b hb
  obtain⟨i,hi,rfl⟩:=atL.mp hb
  have:=h i (aqa.mpr hi)
  rwa [apF,apA hi] at this
 ·intro h i hi
  have hi':=aqa.mp hi
  rw [apF,apA hi']
  exact h _ (aqf hi')
theorem range_any (bs:List Bool):(ap0 bs.length).any (fun i=>bs.getD i false)=bs.any id:=by
 rw [ar4,List.any_eq_true,List.any_eq_true]
 constructor
 ·rintro⟨i,hi,h⟩
  have hi':=aqa.mp hi
  rw [apF,apA hi'] at h
  exact⟨_,aqf hi',h⟩
 ·rintro⟨b,hb,h⟩
  obtain⟨i,hi,rfl⟩:=atL.mp hb
  refine⟨i,aqa.mpr hi,?_⟩
  rw [apF,apA hi]
  exact h
theorem aaE (prog:Program) (w:World) (A:Around) (bs:List Bool):TruthOf prog w A (fun i v=>(bs.map Value.bool).toArray[i]?=some v) (fun i=>bs.getD i false):=by
 intro i v s Q E hv hq
 rw [List.getElem?_toArray,apM] at hv
 cases eb:bs[i]? with
 | none=>rw [eb] at hv;cases hv
 | some b =>
  rw [eb] at hv
  cases hv
  dsimp only at hq
  rw [apF,eb] at hq
  exact wpAny_pure hq
theorem ahW {X:Cx} (hc:X.calm=true):z9 X (.builtin "all") (ano X.K):=by
 intro pins s σ H xs us Q I r h
 obtain⟨a,bs,rfl,hq,q⟩:=h
 obtain⟨u,rfl,r1⟩:=vals1 r
 cases r1
 obtain⟨its,rv,p,_⟩:=I.list hq
 have hl:=p.isList
 rw [abk rv] at hl
 have ha:a<s.heap.objs.size:=by
  obtain⟨o,ho,_⟩:=hl
  exact apU ho
 refine call_all_walk (wpAny_pyIter_list hl ?_)
 have hne:a≠s.heap.objs.size:=aqb ha
 refine⟨s.heap.objs.size,_,_,_,_,_,_,rfl,Walks.list (show (X.A.in1).handled=none from I.ok.hd hc) _ a hne _,⟨?_,?_⟩,aaE _ _ _ bs,fun h' tk hk=>?_⟩
 ·exact⟨_,ap5 _ rfl,rfl,rfl⟩
 ·exact hl.at fun o e=>apH _ e
 ·have kp:∀ b o,s.heap.get? b=some o->h'.get? b=some o:=fun b o e=>hk b o (by
   intro z
   have:=apU e
   rw [apS.mp z] at this
   exact aq3 _ this) (apH _ e)
  refine⟨.bl _,H,I.kept (t':=tk) kp,?_,q⟩
  show Value.bool _=Value.bool _
  rw [apV,apC,range_all]
theorem ahX {X:Cx} (hc:X.calm=true):z9 X (.builtin "any") (anp X.K):=by
 intro pins s σ H xs us Q I r h
 obtain⟨a,bs,rfl,hq,q⟩:=h
 obtain⟨u,rfl,r1⟩:=vals1 r
 cases r1
 obtain⟨its,rv,p,_⟩:=I.list hq
 have hl:=p.isList
 rw [abk rv] at hl
 have ha:a<s.heap.objs.size:=by
  obtain⟨o,ho,_⟩:=hl
  exact apU ho
 refine call_any_walk (wpAny_pyIter_list hl ?_)
 have hne:a≠s.heap.objs.size:=aqb ha
 refine⟨s.heap.objs.size,_,_,_,_,_,_,rfl,Walks.list (show (X.A.in1).handled=none from I.ok.hd hc) _ a hne _,⟨?_,?_⟩,aaE _ _ _ bs,fun h' tk hk=>?_⟩
 ·exact⟨_,ap5 _ rfl,rfl,rfl⟩
 ·exact hl.at fun o e=>apH _ e
 ·have kp:∀ b o,s.heap.get? b=some o->h'.get? b=some o:=fun b o e=>hk b o (by
   intro z
   have:=apU e
   rw [apS.mp z] at this
   exact aq3 _ this) (apH _ e)
  refine⟨.bl _,H,I.kept (t':=tk) kp,?_,q⟩
  show Value.bool _=Value.bool _
  rw [apV,apC,range_any]
theorem vk {X:Cx} {K:apD} (hK:X.K=K) (hc:X.calm=true):z9 X (.builtin "all") (ano K):=hK▸ahW hc
theorem ahY {X:Cx} {K:apD} (hK:X.K=K) (hc:X.calm=true):z9 X (.builtin "any") (anp K):=hK▸ahX hc
section
variable {K:apD} {f:Fx} {ρ:zp} {P:PyData->Prop} {te:TE}
theorem vH {H:Hp}:∀ {bs:List Bool} {xs:List V},Reps K H (bs.map .bool) xs->xs=bs.map V.bl
 | [],xs,r=>reps_nil.mp r
 | b :: bs,xs,r=>by
  obtain⟨x,r',rfl,h1,h2⟩:=reps_cons.mp r
  rw [vH h2,rep_bool.mp h1]
  rfl
theorem agC (h:PEd K f te ρ fun x=>∃ bs:List Bool,x=.list (bs.map .bool)/\P (.bool (bs.all id))):PEd K f (tCB (ano K) (zQ te yJ)) ρ P:=fun σ H Q e q=>h σ H _ e fun x v H1 g1 r1 ⟨bs,ex,p⟩=>by
 subst ex
 obtain⟨a,xs,rfl,h1,h2⟩:=rep_list.mp r1
 rw [vH h2] at h1
 exact⟨a,bs,rfl,(zh _ _).seq h1,q _ _ H1 g1 (rep_bool.mpr rfl) p⟩
theorem aoR (h:PEd K f te ρ fun x=>∃ bs:List Bool,x=.list (bs.map .bool)/\P (.bool (bs.any id))):PEd K f (tCB (anp K) (zQ te yJ)) ρ P:=fun σ H Q e q=>h σ H _ e fun x v H1 g1 r1 ⟨bs,ex,p⟩=>by
 subst ex
 obtain⟨a,xs,rfl,h1,h2⟩:=rep_list.mp r1
 rw [vH h2] at h1
 exact⟨a,bs,rfl,(zh _ _).seq h1,q _ _ H1 g1 (rep_bool.mpr rfl) p⟩
end
section
variable {prog:Program} {w:World} {A:Around} {E:Value->Shared->Prop}
theorem aca {I:Addr} {fp wr:List Addr} {n:Nat} {P:Nat->Value->Prop} {St:Nat->Heap->Prop} (W:Walks prog w A I fp wr n P St):∀ (k i:Nat) (s:Shared) (Q:List Value->Shared->Prop),i+k<=n->St i s.heap ->
  (∀ vs h' tk,vs.length=k->(∀ (j:Nat) v,vs[j]?=some v->P (i+j) v)->St (i+k) h'->(∀ b o,b∉wr->s.heap.get? b=some o->h'.get? b=some o)->Q vs { s with heap:=h',toks:=tk })->wpAny (model prog w) A (draw (.ref I) k) Q E s
 | 0,i,s,Q,_,st,hQ=>wpAny_pure (hQ [] s.heap s.toks rfl (fun j v e=>by simp at e) st fun _ _ _ e=>e)
 | k+1,i,s,Q,hle,st,hQ=>by
  show wpAny _ _ (pyNext (.ref I) >>= _) Q E s
  refine wpAny_bind (W.item i s _ E (by omega) st fun v h1 tk1 hv st1 k1=>?_)
  refine wpAny_bind (wpAny_holding (aca W k (i+1) _ _ (by omega) st1 fun vs h2 tk2 hl hp st2 k2=>wpAny_pure ?_))
  refine hQ (v :: vs) h2 tk2 (by rw [apT,hl]) (fun j u e=>?_) (by rw [show i+(k+1)=i+1+k by omega];exact st2) fun b o hb e=>k2 b o hb (k1 b o hb e)
  cases j with
  | zero=>cases e;exact hv
  | succ j =>
   have:=hp j u e
   rwa [show i+(j+1)=i+1+j by omega]
theorem afE {s:Shared} {a:Addr} {items:Array Value} {targets:List (Bool×(Value->Sem Unit))} {Q:Unit->Shared->Prop} (hh:A.handled=none) (hl:s.heap.IsList a items)
  (hn:targets.length=items.size) (hstar:targets.findIdx? (·.1)=none)
  (h:∀ h' tk,(∀ b o,s.heap.get? b=some o->h'.get? b=some o)->wpAny (model prog w) A (assignInOrder (targets.map (·.2)) items.toList) Q E { s with heap:=h',toks:=tk }):wpAny (model prog w) A (unpack (.ref a) targets) Q E s:=by
 have ha:a<s.heap.objs.size:=by
  obtain⟨o,ho,_⟩:=hl
  exact apU ho
 unfold unpack
 rw [hn,hstar]
 refine wpAny_bind (wpAny_holding ?_)
 unfold unpackItems
 refine wpAny_bind ?_
 unfold notIterableAtAll
 refine wpAny_bind (wpAny_specialOf hl.typeIs slot_list_iter.lookup (wpAny_pure ?_))
 simp only [aqk,if_false]
 refine wpAny_bind (wpAny_holding (wpAny_pyIter_list hl ?_))
 have W:=Walks.list (prog:=prog) (w:=w) hh s.heap.objs.size a (aqb ha) items
 have fr:∀ b o,s.heap.get? b=some o->b∉[s.heap.objs.size]:=fun b o e z=>by
  have:=apU e
  rw [apS.mp z] at this
  exact aq3 _ this
 refine wpAny_bind (wpAny_holding (aca W items.size 0 _ _ (by omega) ⟨⟨_,ap5 _ rfl,rfl,rfl⟩,hl.at fun o e=>apH _ e⟩ fun vs h1 tk1 hvl hp st1 k1=>?_))
 have ev:vs=items.toList:=by
  refine asb fun j=>?_
  by_cases hj:j<vs.length
  ·have:=hp j _ (apA hj)
   rw [atk] at this
   rw [apA hj,<- this,atw]
  ·rw [ap7 (by omega),ap7 (by rw [apY];omega)]
 subst ev
 rw [if_neg (by simp)]
 rw [atk] at st1
 refine wpAny_bind (wpAny_holding (W.done _ _ _ st1 fun h2 tk2 k2=>?_))
 simp only [Option.isSome_none,aqk,if_false]
 exact wpAny_pure (h h2 tk2 fun b o e=>k2 b o (fr b o e) (k1 b o (fr b o e) (apH _ e)))
end
noncomputable def aoS (K:apD) (n:Nat) (gs:TGs):TG:=fun v σ H Q=>∃ a xs,v=.ref a/\SqL K H a xs/\xs.length=n/\gs xs σ H Q
theorem agD {X:Cx} {K:apD} {es:List Expr} {k:Nat} {t:TGs} {n:Nat} {pos:Pos} (hK:X.K=K) (hc:X.calm=true) (h:PGs X es t)
  (hn:(assignEach es X.env).length=n:=by rfl) (hst:(assignEach es X.env).findIdx? (·.1)=none:=by rfl):PG X (.Tuple es k pos) (aoS K n t):=by
 subst hK
 intro pins s σ H v u Q I r hw
 obtain⟨a,xs,e1,hq,hl,hw⟩:=hw
 subst e1
 cases r
 obtain⟨its,rv,p,hz⟩:=I.list hq
 rw [assign_Tuple]
 refine wpAny_bind (wpAny_standAt (afE (I.ok.hd hc) p.isList (by rw [hn,<- hl,rv.length,apV]) hst fun h' tk kp=>?_))
 exact h pins _ σ H xs _ Q (I.kept (t':=tk) kp) rv hw
section
variable {K:apD} {f:Fx} {ρ:zp}
theorem amC {n:Nat} {gs:TGs} {ds:List PyData} {R:zp->Prop} (hn:ds.length=n) (h:ajf K f gs ds ρ R):PGd K f (aoS K n gs) (.list ds) ρ R:=fun σ H v Q e r q=>by
 obtain⟨a,xs,rfl,h1,h2⟩:=rep_list.mp r
 exact⟨a,xs,rfl,(zh _ _).seq h1,by rw [h2.length];exact hn,h σ H xs Q e h2 q⟩
end
section
variable {X:Cx} {pins:List (Addr×Obj)} {σ:St} {H:Hp} {s:Shared}
theorem ahZ {K:apD} (hK:X.K=K):OpR X (compareOp .NotIn) (rIn K true):=hK▸acM
end
section
variable {K:apD} {f:Fx} {ρ:zp} {P:PyData->Prop} {te ta tb:TE} {t:TA} {D:DEnds} {i j:Nat}
theorem ajt (h:PEd K f ta ρ fun d=>∃ n:Int,d=.int n/\PEd K f tb ρ fun y=>∃ ns:List Int,y=.tuple (ns.map .int)/\P (.bool (!ns.contains n))):PEd K f (tOp (rIn K true) ta tb) ρ P:=fun σ H Q e q =>
 h σ H _ e fun d v H1 g1 r1 ⟨n,ed,p1⟩=>p1 σ H1 _ (e.mono g1) fun y w H2 g2 r2 ⟨ns,ey,p2⟩=>by
  subst ed ey
  obtain⟨a,xs,rfl,h1,h2⟩:=rep_tuple.mp r2
  have ex:=h2.ints
  subst ex
  rw [rep_int.mp r1]
  have e1:inV (.int n) (ns.map V.int)=ns.contains n:=by
   unfold inV
   rw [List.any_map,List.contains_eq_any_beq]
   congr 1
   funext m
   show (m == n)=(n == m)
   exact BEq.comm
  refine⟨a,_,rfl,.inr ((zh _ _).seqT h1),rfl,?_,?_⟩
  ·rw [atl]
   exact aqU.mpr fun _ _=>rfl
  ·rw [if_pos rfl,e1]
   exact q _ _ H2 (g1.trans g2) (rep_bool.mpr rfl) p2
end
end L2
end
section
namespace L2
open PySem PySem.Spec PyProof.Rows
section
variable {K:apD} {f:Fx} {ρ:zp} {E:XK} {te:TE} {ts tu:TS} {tt:TT} {t:TA} {P:PyData->Prop} {D:DEnds}
theorem aju (h:PEd K f te ρ fun x=>∃ i,x=.int i/\P (.int (-i))):PEd K f (tUn (rU fun i=>.int (-i)) te) ρ P :=
 apu (h.imp fun x ⟨i,ex,p⟩ v H Q fo r q=>by
  subst ex
  exact⟨i,rep_int.mp r,q _ _ H (.refl fo) (rep_int.mpr rfl) p⟩)
theorem aoT {n:String} {b:Bool} (hk:aql K (.type "int") (.type n)=some b) (h:PEd K f te ρ fun d=>∃ i,d=.int i/\P (.bool b)):PEd K f (tCB (alc K) (zQ te (zQ (tC (.ty n)) yJ))) ρ P:=fun σ H Q e q=>h σ H _ e fun d v H1 g r ⟨i,ed,p⟩=>by
 subst ed
 rw [rep_int.mp r]
 exact⟨_,n,b,rfl,.inr (.inr ⟨_,.int i,hk⟩),q _ _ H1 g (rep_bool.mpr rfl) p⟩
end
end L2
end
section
namespace L2
open PySem PySem.Spec PyProof.Rows
end L2
end
section
namespace L2
open PySem PySem.Spec PyProof.Rows
noncomputable def anq (K:apD):List V->Hp->VK->Prop:=fun xs H Q=>∃ (a:Addr) (ns:List Int),xs=[.ref a]/\SqL K H a (ns.map V.int)/\Q (.int ns.sum) H
theorem ah0 {X:Cx} (hc:X.calm=true):z9 X (.builtin "sum") (anq X.K):=by
 intro pins s σ H xs us Q I r h
 obtain⟨a,ns,rfl,hq,q⟩:=h
 obtain⟨u,rfl,r1⟩:=vals1 r
 cases r1
 obtain⟨its,rv,p,_⟩:=I.list hq
 have hl:=p.isList
 have hi:IntsAre its ns:=intsAre_of rv
 obtain⟨zs,ez⟩:=hi.allInts.items
 rw [ez] at hl
 refine sum_intListG (show (X.A).handled=none from I.ok.hd hc) hl fun h' tk t' kp=>⟨.int _,H,I.kept (t':=tk) kp,⟨_,rfl⟩,?_⟩
 have e:preSum (numAt zs) zs.size=ns.sum:=by
  rw [<-hi.numsOf,show its=its.toArray.toList from rfl,ez,nums_intItems,preSum_eq,arH (by simp)]
 rw [e]
 exact q
theorem afF {X:Cx} {K:apD} (hK:X.K=K) (hc:X.calm=true):z9 X (.builtin "sum") (anq K):=hK▸ah0 hc
section
variable {K:apD} {f:Fx} {ρ:zp} {P:PyData->Prop} {te:TE}
theorem aoU (h:PEd K f te ρ fun x=>∃ ns:List Int,x=.list (ns.map .int)/\P (.int ns.sum)):PEd K f (tCB (anq K) (zQ te yJ)) ρ P:=fun σ H Q e q=>h σ H _ e fun x v H1 g1 r1 ⟨ns,ex,p⟩=>by
 subst ex
 obtain⟨a,xs,rfl,h1,h2⟩:=rep_list.mp r1
 rw [h2.ints] at h1
 exact⟨a,ns,rfl,(zh _ _).seq h1,q _ _ H1 g1 (rep_int.mpr rfl) p⟩
end
section
variable {prog:Program} {w:World} {A:Around} {E:Value->Shared->Prop} {s:Shared}
theorem alg {t b:Addr} {vs ws:List Value} {Q:Value->Shared->Prop} (ht:PlainL s.heap t vs.toArray) (hb:PlainL s.heap b ws.toArray)
  (h2:Q (.ref s.heap.objs.size) { s with heap:=s.heap.push { cls:=.type "list",data:=.seq (vs++ws).toArray } })
  (hsz:vs.length+ws.length<=sizeLine):wpAny (model prog w) A (binaryOp .Add (.ref t) (.ref b)) Q E s:=by
 obtain⟨⟨cls,dd,data,sl⟩,n,ho,hc,_,hd⟩:=ht
 obtain⟨⟨cls2,dd2,data2,sl2⟩,n2,ho2,hc2,_,hd2⟩:=hb
 simp only at hc hd hc2 hd2
 subst hc hd hc2 hd2
 have e:vs.toArray++ws.toArray=(vs++ws).toArray:=by simp
 refine concat_meets ⟨_,ho,rfl⟩ ⟨_,ho2,rfl⟩ noFill_list_add seq_list_add PySem.F.slot_list_add PySem.F.entry_list_add (PySem.F.args_list_add_2 _ _) (list_addW t b vs.toArray ws.toArray n n2 dd dd2 sl sl2 (by rw [apV,apV];exact hsz)) ⟨ho,ho2,?_⟩
 rw [e]
 exact h2
end
noncomputable def ajv (K:apD):R2:=fun x y H Q=>∃ l b xs zs,x=.ref l/\y=.ref b/\SqL K H l xs/\SqL K H b zs/\xs.length+zs.length<=sizeLine/\∀ p,H p=none->Q (.ref p) (upd H p (.lst (xs++zs)))
section
variable {X:Cx}
theorem alh:OpR X (binaryOp .Add) (ajv X.K):=by
 intro pins s σ H x y v u Q I rx ry h
 obtain⟨l,b,xs,zs,rfl,rfl,ha,hb,hz,q⟩:=h
 cases rx
 cases ry
 obtain⟨its,r1,p1,_⟩:=I.list ha
 obtain⟨its2,r2,p2,_⟩:=I.list hb
 refine alg p1 p2 ?_ (by rw [<-r1.length,<- r2.length];exact hz)
 exact⟨.ref _,_,I.lnew (t':=s.toks) (r1.append r2) (by rw [apX];omega),rfl,q _ I.fresh⟩
theorem abl {K:apD} (hK:X.K=K):OpR X (binaryOp .Add) (ajv K):=hK▸alh
end
section
variable {K:apD} {f:Fx} {ρ:zp} {P:PyData->Prop} {te ta tb:TE} {t:TA}
theorem afG (h:PEd K f ta ρ fun x=>∃ ds,x=.list ds/\PEd K f tb ρ fun y=>∃ es,y=.list es/\ds.length+es.length<=1000/\P (.list (ds++es))):PEd K f (tOp (ajv K) ta tb) ρ P:=fun σ H Q e q =>
 h σ H _ e fun x v H1 g1 r1 ⟨ds,ex,p1⟩=>p1 σ H1 _ (e.mono g1) fun y w H2 g2 r2 ⟨es,ey,hl,p2⟩=>by
  subst ex ey
  obtain⟨a,xs,rfl,h1,h2⟩:=rep_list.mp (Rep.mono g2.sm _ _ r1)
  obtain⟨b,ys,rfl,h3,h4⟩:=rep_list.mp r2
  have l1:=h2.length
  have l2:=h4.length
  refine⟨a,b,xs,ys,rfl,rfl,(zh _ _).seq h1,(zh _ _).seq h3,by rw [l1,l2];exact aq4 (zW hl),fun p hn=>?_⟩
  have g3:Goes f H2 (upd H2 p (.lst (xs++ys))):=.of_same (zI hn _) g2.ok
  exact q (.list (ds++es)) _ _ (g1.trans (g2.trans g3)) (rep_list.mpr ⟨p,_,rfl,.of (zu (fresh_ne g2.ok hn) zo),Reps.mono g3.sm _ _ (h2.append h4)⟩) p2
theorem aej {R:List PyData->Prop} (h:PAd K f t ρ fun xs=>∃ ds,qz xs=some ds/\ds.length<=1000/\R ds):PEdO K f (afu t) ρ R:=fun σ H Q e q =>
 h σ H _ e fun xs vs H1 g1 r1 ⟨ds,ea,hl,p⟩=>by
  have rs:=vg r1 ea
  refine⟨by rw [rs.length];exact aq4 (zW hl),fun l hn=>?_⟩
  have g2:Goes f H1 (upd H1 l (.lst vs)):=.of_same (zI hn _) g1.2
  have nl:=fresh_ne g1.2 hn
  refine q ds l vs _ (g1.trans g2) (g1.free e.fd hn) zo (Reps.mono (fun b o hb=>?_) _ _ rs) p
  have hb':=zA hb
  have hbl:b≠l:=fun z=>by
   have:=hb'.2
   rw [z,hn] at this
   cases this
  refine zu (fun z=>?_) (by rw [zm hbl];exact hb'.2)
  rcases z with z | z
  ·exact hb'.1 (.inl z)
  ·rcases apK.mp z with z | z
   ·exact hbl z
   ·exact hb'.1 (.inr z)
end
noncomputable def spN {γ:Type} (K:apD) (n:Nat) (pre:γ->List DV->Prop) (post:γ->List PyData->Prop):Sp:=fun vs H Q _=>∃ f xs c,RepVs K f H xs vs/\xs.length=n/\FOk f H/\pre c xs /\
 ∀ es D vs' H',Goes f H H'->H D=none->H' D=some (.lst vs')->Reps K (hide H' (f.with D)) es vs'->post c es->Q (.ref D) H'
noncomputable def PSn (K:apD) (f:Fx) (ts:TS) (ρ:zp) (R:List PyData->Prop):Prop:=∀ (σ:St) (H:Hp) (E:Ends),EnvOk K f ρ σ H ->
 (∀ es D vs H',Goes f H H'->H D=none->H' D=some (.lst vs)->Reps K (hide H' (f.with D)) es vs->R es->E.rt (.ref D) H')->ts E σ H
section
variable {K:apD} {f:Fx} {ρ:zp} {R:List PyData->Prop} {te:TE} {ts tu:TS} {tt:TT} {t:TA} {i:Nat} {D:Addr} {es:List PyData} {O:OEnds}
theorem aek (h:PEdO K f te ρ R):PSn K f (afk te) ρ R:=fun σ H E e q=>h σ H E.rt e q
theorem abm (h:PSd K f ts ρ { nx:=fun ρ'=>PSn K f tu ρ' R,rt:=fun _=>False }):PSn K f (jL ts tu) ρ R:=fun σ H E e q =>
 h σ H _ e (fun ρ' σ' H' g' e' p=>p σ' H' E e' fun es D vs H2 g2 hn h1 rs r=>q es D vs H2 (g'.trans g2) (g'.free e.fd hn) h1 rs r) (fun _ _ _ _ _ z=>z.elim) (fun _ _ _ _ _ z=>z.elim) (fun _ _ _ _ _ z=>z.elim)
theorem amD (h:PTd K f tt ρ fun b=>if b=true then PEdO K f te ρ R else PSn K f tu ρ R):PSn K f (jL (acF tt (afk te) abW) tu) ρ R:=fun σ H E e q =>
 h σ H _ e fun b H1 g1 p=>by
  have q1:∀ es D vs H',Goes f H1 H'->H1 D=none->H' D=some (.lst vs)->Reps K (hide H' (f.with D)) es vs->R es->E.rt (.ref D) H':=fun es D vs H' g' hn=>q es D vs H' (g1.trans g') (g1.free e.fd hn)
  cases b with
  | true=>rw [if_pos rfl] at p ⊢;exact p σ H1 E.rt (e.mono g1) q1
  | false=>rw [if_neg apB] at p ⊢;exact p σ H1 E (e.mono g1) q1
theorem ac1 {γ:Type} {n:Nat} {pre:γ->List DV->Prop} {post:γ->List PyData->Prop} {E:XK} (c:γ) (h:PAd K f t ρ fun xs=>xs.length=n/\pre c xs/\∀ es,post c es->R es):PEdO K f (vx (spN K n pre post) [] E t) ρ R:=fun σ H Q e q =>
 h σ H _ e fun xs vs H1 g1 r1 ⟨hl,hp,k⟩=>⟨f,xs,c,by rw [aqe];exact r1,hl,g1.2,hp,fun es D vs' H' g' hn h1 rs p=>q es D vs' H' (g1.trans g') (g1.free e.fd hn) h1 rs (k es p)⟩
theorem amE {ta tb:TE} (h:PTd K f tt ρ fun b=>if b=true then PEdO K f ta ρ R else PEdO K f tb ρ R):PEdO K f (tIf tt ta tb) ρ R:=fun σ H Q e q =>
 h σ H _ e fun b H1 g1 p=>by
  have q1:∀ es D vs H',Goes f H1 H'->H1 D=none->H' D=some (.lst vs)->Reps K (hide H' (f.with D)) es vs->R es->Q (.ref D) H':=fun es D vs H' g' hn=>q es D vs H' (g1.trans g') (g1.free e.fd hn)
  cases b with
  | true=>rw [if_pos rfl] at p ⊢;exact p σ H1 Q (e.mono g1) q1
  | false=>rw [if_neg apB] at p ⊢;exact p σ H1 Q (e.mono g1) q1
end
section
variable {P:Program} {w:World} {K:apD} {mg:Str->Option Value} {base:Heap} {k:Nat} {x:Str} {st:Stmt} {ps:List Str} {N:List Str} {n:Nat} {γ:Type} {pre:γ->List DV->Prop} {post:γ->List PyData->Prop}
theorem Def.okN (F:Def K mg x st ps) (S:FnScope N ps (zf st)) (hn:ps.length=n)
  (h:∀ (fa:Addr) (cdv:Value) (A:Around) (outer:List Env) (s:Shared) (H:Hp) (E:XK),Room k (A.deeper (envOfC x (zf st) s.heap.objs.size fa cdv)) ->
   ∃ t,PSs (zH CX0 P w K mg base N x (zf st) fa cdv A outer s H E).nox (ye st) t/\∀ (f:Fx) (xs:List DV) (c:γ),xs.length=n->pre c xs->PSn K f t (qe N xs) (post c)) :
  FnIn P w K mg base (k+1) x ps (spN K n pre post):=by
 obtain⟨fa,fd,F1,F2,F3⟩:=F.ex
 refine⟨fa,fd,F1.ok S (fun vs H Q E h=>?_) (fun cdv A outer s H vs Q E hr hs=>?_),F3,F1.kp,F2⟩
 ·obtain⟨f,xs,c,r,hl,_⟩:=h
  rw [r.length,hl,hn]
 ·obtain⟨f,xs,c,r,hl,fo,hp,q⟩:=hs
  obtain⟨t,h1,h2⟩:=h fa cdv A outer s H E hr
  exact⟨t,h1,h2 f xs c hl hp (start N vs) H _ (jB r fo) (fun es D vs' H' g hn' h1' rs p=>q es D vs' H' g hn' h1' rs p)⟩
end
end L2
end
section
namespace L2
open PySem PySem.W PyProof.Rows
structure Tot (n:Nat) (lt:Nat->Nat->Bool):Prop where
 tri:∀ i j,i<n->j<n->i≠j->lt i j=!lt j i
 tra:∀ i j k,i<n->j<n->k<n->lt i j=true->lt j k=true->lt i k=true
noncomputable def Ans (cmp:Nat->Nat->(Bool->Shared->Prop)->Shared->Prop) (n:Nat) (lt:Nat->Nat->Bool) (s:Shared):Prop:=∀ i j C,i<n->j<n->C (lt i j) s->cmp i j C s
noncomputable def Pm (n:Nat) (p:Array Nat):Prop:=p.toList.Perm (ap0 n)
noncomputable def Up (lt:Nat->Nat->Bool) (p:Array Nat) (m:Nat):Prop:=∀ i j,i<j->j<m->lt (p.getD i 0) (p.getD j 0)=true
noncomputable def Dn (lt:Nat->Nat->Bool) (p:Array Nat) (m:Nat):Prop:=∀ i j,i<j->j<m->lt (p.getD j 0) (p.getD i 0)=true
theorem Pm.size {n:Nat} {p:Array Nat} (h:Pm n p):p.size=n:=by
 have:=h.length_eq
 rwa [apY,aqY] at this
theorem jR (p:Array Nat) (i:Nat):p.getD i 0=p.toList.getD i 0:=by
 by_cases h:i<p.size <;> simp [arI,h,auc]
theorem Pm.lt {n:Nat} {p:Array Nat} (h:Pm n p) {i:Nat} (hi:i<n):p.getD i 0<n:=by
 have hs:=h.size
 have hl:i<p.toList.length:=by rw [apY,hs];exact hi
 rw [jR,apF,apA hl]
 exact aqa.mp (h.mem_iff.mp (aqf hl))
theorem Pm.ne {n:Nat} {p:Array Nat} (h:Pm n p) {i j:Nat} (hi:i<n) (hj:j<n) (ne:i≠j):p.getD i 0≠p.getD j 0:=by
 have hs:=h.size
 have nd:p.toList.Nodup:=h.nodup_iff.mpr atb
 have li:i<p.toList.length:=by rw [apY,hs];exact hi
 have lj:j<p.toList.length:=by rw [apY,hs];exact hj
 rw [jR,jR,apF,apF,apA li,apA lj]
 intro e
 exact ne ((asq nd).mp e)
theorem Pm.range (n:Nat):Pm n (aqH (ap0 n)):=List.Perm.refl _
theorem Pm.of {n:Nat} {p q:Array Nat} (h:Pm n p) (e:q.Perm p):Pm n q:=(Array.perm_iff_toList_perm.mp e).trans h
theorem agE {p q:Array Nat} {i j:Nat} (h:p[i]?=q[j]?):p.getD i 0=q.getD j 0:=by
 rw [ari,ari,h]
section
variable {cmp:Nat->Nat->(Bool->Shared->Prop)->Shared->Prop} {n:Nat} {lt:Nat->Nat->Bool} {s:Shared} {p:Array Nat}
theorem Up.more (T:Tot n lt) (hp:Pm n p) {m:Nat} (h1:1<=m) (hm:m<n) (u:Up lt p m) (h:lt (p.getD (m - 1) 0) (p.getD m 0)=true):Up lt p (m+1):=fun i j hij hj=>by
 by_cases e:j=m
 ·subst e
  by_cases e2:i=j - 1
  ·subst e2;exact h
  ·exact T.tra _ _ _ (hp.lt (by omega)) (hp.lt (by omega)) (hp.lt hm) (u i (j - 1) (by omega) (by omega)) h
 ·exact u i j hij (by omega)
theorem Dn.more (T:Tot n lt) (hp:Pm n p) {m:Nat} (h1:1<=m) (hm:m<n) (u:Dn lt p m) (h:lt (p.getD m 0) (p.getD (m - 1) 0)=true):Dn lt p (m+1):=fun i j hij hj=>by
 by_cases e:j=m
 ·subst e
  by_cases e2:i=j - 1
  ·subst e2;exact h
  ·exact T.tra _ _ _ (hp.lt hm) (hp.lt (by omega)) (hp.lt (by omega)) h (u i (j - 1) (by omega) (by omega))
 ·exact u i j hij (by omega)
theorem aaT (T:Tot n lt) (W:Ans cmp n lt s) (hp:Pm n p) {Q:Nat->Shared->Prop}:∀ f m,1<=m->m+f<=n->Up lt p m->(∀ m',m<=m'->m'<=m+f->Up lt p m'->(m'=m+f \/ lt (p.getD m' 0) (p.getD (m' - 1) 0)=true)->Q m' s)->(kas_asc p f m).kasWp cmp Q s
 | 0,m,h1,hf,u,q=>q m (apI _) (apI _) u (.inl rfl)
 | f+1,m,h1,hf,u,q=>by
  refine W _ _ _ (hp.lt (by omega)) (hp.lt (by omega)) ?_
  cases e:lt (p.getD m 0) (p.getD (m - 1) 0) with
  | true=>exact q m (apI _) (by omega) u (.inr e)
  | false =>
   have e2:lt (p.getD (m - 1) 0) (p.getD m 0)=true:=by
    rw [T.tri _ _ (hp.lt (by omega)) (hp.lt (by omega)) (hp.ne (by omega) (by omega) (by omega)),e]
    rfl
   exact aaT T W hp f (m+1) (by omega) (by omega) (u.more T hp h1 (by omega) e2) fun m' a b c d=>q m' (by omega) (by omega) c (d.imp (fun z=>by omega) id)
theorem ael (T:Tot n lt) (W:Ans cmp n lt s) (hp:Pm n p) {Q:Array Nat×Nat×Nat->Shared->Prop}:∀ f m,1<=m->m+f<=n->Dn lt p m->(∀ m',m<=m'->m'<=m+f->Dn lt p m'->Q (p,m',0) s)->(kas_desc f p m 0).kasWp cmp Q s
 | 0,m,h1,hf,u,q=>q m (apI _) (apI _) u
 | f+1,m,h1,hf,u,q=>by
  refine W _ _ _ (hp.lt (by omega)) (hp.lt (by omega)) ?_
  cases e:lt (p.getD m 0) (p.getD (m - 1) 0) with
  | true=>exact ael T W hp f (m+1) (by omega) (by omega) (u.more T hp h1 (by omega) e) fun m' a b c=>q m' (by omega) (by omega) c
  | false =>
   have e2:lt (p.getD (m - 1) 0) (p.getD m 0)=true:=by
    rw [T.tri _ _ (hp.lt (by omega)) (hp.lt (by omega)) (hp.ne (by omega) (by omega) (by omega)),e]
    rfl
   refine W _ _ _ (hp.lt (by omega)) (hp.lt (by omega)) ?_
   rw [e2]
   exact q m (apI _) (by omega) u
theorem anr {m:Nat} (hm:m<=p.size) (d:Dn lt p m):Up lt (kas_rev p 0 m) m:=fun i j hij hj=>by
 have g:∀ k,k<m->(kas_rev p 0 m).getD k 0=p.getD (m - 1 - k) 0:=fun k hk=>agE (by
  unfold kas_rev
  rw [getElem?_mirror_all hm,if_pos ⟨ap9 _,hk⟩,atk])
 rw [g i (by omega),g j hj]
 exact d _ _ (by omega) (by omega)
theorem ah1 (T:Tot n lt) (W:Ans cmp n lt s) (hp:Pm n p) (hn:1<=n) {Q:Nat×Array Nat->Shared->Prop} (q:∀ m p',1<=m->m<=n->Pm n p'->Up lt p' m->Q (m,p') s):(kas_count n p).kasWp cmp Q s:=by
 unfold kas_count
 rw [KasT.kasWp_bind]
 refine aaT T W hp (n - 1) 1 (apI _) (by omega) (fun i j a b=>by omega) fun m h1 h2 u c=>?_
 by_cases e:(m == n)=true
 ·rw [if_pos e]
  exact q m p h1 (by omega) hp u
 ·rw [if_neg e]
  have hm:m<n:=by
   have:m≠n:=fun z=>e (by rw [z];exact beq_self_eq_true _)
   omega
  by_cases e2:m > 1
  ·rw [if_pos e2]
   refine W _ _ _ (hp.lt (by omega)) (hp.lt (by omega)) ?_
   rw [u 0 (m - 1) (by omega) (by omega)]
   exact q m p h1 (by omega) hp u
  ·rw [if_neg e2]
   obtain rfl:m=1:=by omega
   have c':lt (p.getD 1 0) (p.getD (1 - 1) 0)=true:=c.resolve_left (by omega)
   unfold kas_descPart
   rw [KasT.kasWp_bind]
   refine ael T W hp (n - (1+1)) (1+1) (by omega) (by omega) (Dn.more T hp (apI 1) hm (fun i j a b=>by omega) c') fun m' a b d=>?_
   rw [if_neg (by show ¬ (0 > 0);omega)]
   unfold kas_tail3
   rw [KasT.kasWp_bind]
   have hp2:Pm n (kas_rev p 0 m'):=hp.of (mirror_perm _ _ _ _)
   exact aaT T W hp2 (n - m') m' (by omega) (by omega) (anr (by rw [hp.size];omega) d) fun m2 a2 b2 u2 _=>q m2 _ (by omega) (by omega) hp2 u2
theorem aak (T:Tot n lt) (W:Ans cmp n lt s) (hp:Pm n p) {k:Nat} (hk:k<n) (u:Up lt p k) {Q:Nat->Shared->Prop}:∀ f l r,r - l<=f->l<=r->r<=k->(∀ i,i<l->lt (p.getD i 0) (p.getD k 0)=true)->(∀ i,r<=i->i<k->lt (p.getD k 0) (p.getD i 0)=true) ->
  (∀ m,m<=k->(∀ i,i<m->lt (p.getD i 0) (p.getD k 0)=true)->(∀ i,m<=i->i<k->lt (p.getD k 0) (p.getD i 0)=true)->Q m s)->(kas_place p k f l r).kasWp cmp Q s
 | 0,l,r,hf,hlr,hr,lo,hi,q=>by
  obtain rfl:l=r:=by omega
  exact q l hr lo hi
 | f+1,l,r,hf,hlr,hr,lo,hi,q=>by
  unfold kas_place
  by_cases e:l >= r
  ·rw [if_pos e]
   obtain rfl:l=r:=by omega
   exact q l hr lo hi
  ·rw [if_neg e]
   refine W _ _ _ (hp.lt hk) (hp.lt (by omega)) ?_
   have hm:(l+r) / 2<k:=by omega
   cases e2:lt (p.getD k 0) (p.getD ((l+r) / 2) 0) with
   | true =>
    refine aak T W hp hk u f l ((l+r) / 2) (by omega) (by omega) (by omega) lo (fun i h1 h2=>?_) q
    by_cases e3:i=(l+r) / 2
    ·rw [e3];exact e2
    ·exact T.tra _ _ _ (hp.lt hk) (hp.lt (by omega)) (hp.lt (by omega)) e2 (u _ _ (by omega) h2)
   | false =>
    have e4:lt (p.getD ((l+r) / 2) 0) (p.getD k 0)=true:=by
     rw [T.tri _ _ (hp.lt (by omega)) (hp.lt hk) (hp.ne (by omega) hk (by omega)),e2]
     rfl
    refine aak T W hp hk u f ((l+r) / 2+1) r (by omega) (by omega) hr (fun i h1=>?_) hi q
    by_cases e3:i=(l+r) / 2
    ·rw [e3];exact e4
    ·exact T.tra _ _ _ (hp.lt (by omega)) (hp.lt (by omega)) (hp.lt hk) (u _ _ (by omega) hm) e4
theorem ans {k m:Nat} (hk:k<p.size) (hm:m<=k) (u:Up lt p k) (lo:∀ i,i<m->lt (p.getD i 0) (p.getD k 0)=true) (hi:∀ i,m<=i->i<k->lt (p.getD k 0) (p.getD i 0)=true):Up lt (bubble p k (k - m)) (k+1):=fun i j hij hj=>by
 have g:∀ t,t<=k->(bubble p k (k - m)).getD t 0=p.getD (if t=m then k else if t<m then t else t - 1) 0:=fun t ht=>agE (by
  rw [getElem?_bubble hk (k - m) (by omega),show k - (k - m)=m by omega]
  by_cases e1:t=m
  ·rw [if_pos e1,if_pos e1]
  ·rw [if_neg e1,if_neg e1]
   by_cases e2:t<m
   ·rw [if_neg (by omega),if_pos e2]
   ·rw [if_pos (by omega),if_neg e2])
 rw [g i (by omega),g j (by omega)]
 by_cases a1:i=m
 ·rw [if_pos a1,if_neg (by omega),if_neg (by omega)]
  exact hi _ (by omega) (by omega)
 ·rw [if_neg a1]
  by_cases a2:j=m
  ·rw [if_pos a2,if_pos (by omega)]
   exact lo _ (by omega)
  ·rw [if_neg a2]
   by_cases a3:i<m
   ·rw [if_pos a3]
    by_cases a4:j<m
    ·rw [if_pos a4];exact u _ _ hij (by omega)
    ·rw [if_neg a4];exact u _ _ (by omega) (by omega)
   ·rw [if_neg a3,if_neg (by omega)]
    exact u _ _ (by omega) (by omega)
theorem agF (T:Tot n lt) (W:Ans cmp n lt s) {Q:Array Nat->Shared->Prop}:∀ f k (p:Array Nat),Pm n p->k+f=n->Up lt p k->(∀ p',Pm n p'->Up lt p' n->Q p' s)->(kas_bin f p k).kasWp cmp Q s
 | 0,k,p,hp,hf,u,q=>by
  obtain rfl:k=n:=by omega
  exact q p hp u
 | f+1,k,p,hp,hf,u,q=>by
  unfold kas_bin
  rw [KasT.kasWp_bind]
  refine aak T W hp (by omega) u k 0 k (by omega) (ap9 _) (apI _) (fun i hi=>by omega) (fun i a b=>by omega) fun m h1 lo hi=>?_
  exact agF T W f (k+1) _ (hp.of (bubble_perm _ _ _)) (by omega) (ans (by rw [hp.size];omega) h1 u lo hi) q
theorem ajw (T:Tot n lt) (W:Ans cmp n lt s) (hn:1<=n) {Q:Array Nat->Shared->Prop} (q:∀ p,Pm n p->Up lt p n->Q p s):(kas_sort n).kasWp cmp Q s:=by
 unfold kas_sort
 rw [KasT.kasWp_bind]
 refine ah1 T W (Pm.range n) hn fun m p h1 h2 hp u=>?_
 by_cases e:m<n
 ·show (if m<n then _ else _:KasT (Array Nat)).kasWp cmp Q s
  rw [if_pos e,show max m 1=m by omega]
  exact agF T W (n - m) m p hp (by omega) u q
 ·show (if m<n then _ else _:KasT (Array Nat)).kasWp cmp Q s
  rw [if_neg e]
  obtain rfl:m=n:=by omega
  exact q p hp u
end
end L2
end
section
namespace L2
open PySem PySem.W PySem.Calls PyProof.Rows
theorem acb:∀ f n r,r<=1->minRun' f n r<=n+1
 | 0,n,r,h=>by show n+r<=n+1;omega
 | f+1,n,r,h=>by
  rw [minRun'_succ]
  by_cases e:n<64
  ·rw [if_pos e];omega
  ·rw [if_neg e]
   have:=acb f (n / 2) (max r (n % 2)) (by omega)
   omega
theorem afH {n:Nat} (h:1<=n):minRun' n n 0<=n:=by
 obtain⟨f,rfl⟩:∃ f,n=f+1:=⟨n - 1,by omega⟩
 rw [minRun'_succ]
 by_cases e:f+1<64
 ·rw [if_pos e];omega
 ·rw [if_neg e]
  have:=acb f ((f+1) / 2) (max 0 ((f+1) % 2)) (by omega)
  omega
section
variable {P:Program} {w:World} {A:Around} {X:Value->Shared->Prop} {s:Shared} {κ:SortKind} {it:Array Keyed} {n:Nat} {lt:Nat->Nat->Bool} {Q:SortSt->Shared->Prop}
theorem ali (W:Ans (kas_cmp P w A κ it) n lt s) (T:Tot n lt) (h2:2<=n) (up:∀ i,i+1<n->lt (i+1) i=false)
  (q:∀ st',arrOf st'=(aqH (ap0 n)).map (kas_item it)->failedOf st'=none->Q st' s):kasC (model P w) A X sortRuns' (fun _ st' s'=>Q st' s') (kas_st κ it (aqH (ap0 n))) s:=by
 obtain⟨r,rfl⟩:∃ r,n=r+2:=⟨n - 2,by omega⟩
 have sz:(aqH (ap0 (r+2))).size=r+2:=by simp
 have szA:(arrOf (kas_st κ it (aqH (ap0 (r+2))))).size=r+2:=by
  show (Array.map _ _).size=_
  rw [atM,sz]
 have mr:=afH (n:=r+2) (by omega)
 have at_:∀ i,i<r+2->(aqH (ap0 (r+2))).getD i 0=i:=fun i hi=>by simp [arI,hi]
 have cnt:(kas_count (r+2) (aqH (ap0 (r+2)))).kasWp (kas_cmp P w A κ it) (fun z s'=>z=(r+2,aqH (ap0 (r+2)))/\s'=s) s:=by
  unfold kas_count
  rw [KasT.kasWp_bind]
  refine aaT T W (Pm.range _) (r+2 - 1) 1 (apI _) (by omega) (fun i j a b=>by omega) fun m a b u c=>?_
  have e:m=r+2:=by
   rcases c with c | c
   ·omega
   ·by_cases hm:m<r+2
    ·rw [at_ m hm,at_ (m - 1) (by omega)] at c
     have:=up (m - 1) (by omega)
     rw [show m - 1+1=m by omega,c] at this
     cases this
    ·omega
  subst e
  rw [if_pos (beq_self_eq_true _)]
  exact⟨rfl,rfl⟩
 rw [sortRuns'_eq]
 apply kasC_bind;apply kasC_get
 simp only [szA]
 apply kasC_bind;apply kasC_range
 change kasC _ _ _ (forIn (0 :: 1 :: List.range' 2 r) _ _) _ _ _
 apply kasC_cons
 simp only [Nat.sub_zero,atk,show ¬ (0 >= r+2) by omega,if_false]
 refine kasC_bind (kas_count_ (by omega) (ars sz.symm) (fun m p' s' _ _ _ z=>?_) cnt)
 obtain⟨z,rfl⟩:=z
 cases z
 simp only [show ¬ (r+2<minRun' (r+2) (r+2) 0) by omega,if_false]
 apply kasC_bind;apply kasC_get
 change kasC _ _ _ (modify (fun st=>setPending st ((pendingOf st).push (0,r+2,0))) >>= _) _ _ _
 apply kasC_bind;apply kasC_modify;apply kasC_pure
 apply kasC_cons
 simp only [show r+2 >= r+2 from apI _,if_true]
 apply kasC_pure
 apply kasC_bind;apply kasC_range
 change kasC _ _ _ (forIn (0 :: 1 :: List.range' 2 r) _ _) _ _ _
 apply kasC_cons
 apply kasC_bind;apply kasC_get
 rw [if_pos (show (pendingOf (setPending (kas_st κ it (aqH (ap0 (r+2)))) ((pendingOf (kas_st κ it (aqH (ap0 (r+2))))).push (0,r+2,0)))).size<=1 from apI 1)]
 apply kasC_pure
 exact kasC_pure (q _ rfl rfl)
theorem ajx (W:Ans (kas_cmp P w A κ it) n lt s) (T:Tot n lt) (h2:2<=n) (hs:n<64 \/ ∀ i,i+1<n->lt (i+1) i=false)
  (q:∀ st' p,Pm n p->Up lt p n->arrOf st'=p.map (kas_item it)->failedOf st'=none->Q st' s):kasC (model P w) A X sortRuns' (fun _ st' s'=>Q st' s') (kas_st κ it (aqH (ap0 n))) s:=by
 rcases hs with hs | hs
 ·exact kas_runs h2 hs (G:=fun p s'=>s'=s/\Pm n p/\Up lt p n) (fun p st' s' _ e f ⟨z,a,b⟩=>by subst z;exact q st' p a b e f) (ajw T W (by omega) fun p a b=>⟨rfl,a,b⟩)
 ·refine ali W T h2 hs fun st' e f=>q st' _ (Pm.range n) (fun i j hij hj=>?_) e f
  have at_:∀ i,i<n->(aqH (ap0 n)).getD i 0=i:=fun i hi=>by simp [arI,hi]
  rw [at_ i (by omega),at_ j hj]
  have key:∀ d,i+d+1<n->lt i (i+d+1)=true:=fun d=>by
   induction d with
   | zero=>intro hd;rw [T.tri _ _ (by omega) hd (by omega),hs i hd];rfl
   | succ d ih =>
    intro hd
    refine T.tra _ (i+d+1) _ (by omega) (by omega) hd (ih (by omega)) ?_
    rw [T.tri _ _ (by omega) hd (by omega),show i+(d+1)+1=i+d+1+1 by omega,hs (i+d+1) (by omega)]
    rfl
  have:=key (j - i - 1) (by omega)
  rwa [show i+(j - i - 1)+1=j by omega] at this
end
section
variable {P:Program} {w:World} {A:Around} {X:Value->Shared->Prop} {s:Shared} {κ:SortKind} {vs:List Value} {lt:Nat->Nat->Bool}
structure Asks (P:Program) (w:World) (A:Around) (s:Shared) (κ:SortKind) (vs:List Value) (lt:Nat->Nat->Bool):Prop where
 kind:2<=vs.length->∀ (h':Heap),(∀ b o,s.heap.get? b=some o->h'.get? b=some o)->∀ R:SortKind->Shared->Prop,R κ { s with heap:=h' }->wpAny (model P w) A (keyKind' vs.toArray) R (fun _ _=>False) { s with heap:=h' }
 less:∀ (h':Heap),(∀ b o,s.heap.get? b=some o->h'.get? b=some o)->Ans (kas_ask P w A κ vs) vs.length lt { s with heap:=h' }
 ord:Tot vs.length lt
 few:vs.length<64 \/ ∀ i,i+1<vs.length->lt (i+1) i=false
theorem alj {a:Addr} {e:Nat} {R:PySem.Fin->Shared->Prop} (hz:vs.length<=sizeLine) (ha:s.heap.get? a=some (seqObj "list" vs.toArray e)) {h0:Heap} (h0s:∀ b o,h0.get? b=some o->b≠a/\s.heap.get? b=some o) (K:Asks P w A { s with heap:=h0 } κ vs lt)
  (q:∀ (h':Heap) p c,Pm vs.length p->Up lt p vs.length->(∀ b o,b≠a->s.heap.get? b=some o->h'.get? b=some o)->h'.get? a=some (seqObj "list" (p.toList.map fun i=>vs.getD i Value.none).toArray c)->R (.done (.ret .none)) { s with heap:=h' }) :
  wpAny (model P w) A (Builtin.«list.sort» ⟨[.ref a],[]⟩) R X s:=by
 let h1:=s.heap.update a (arS fun _=>(#[]:Array Value))
 obtain⟨e1,a1⟩:∃ e1,h1.get? a=some (seqObj "list" #[] e1):=⟨_,get?_update_seq ha fun _=>#[]⟩
 let h2':=(h1.push (seqObj "tuple" vs.toArray 0)).push (seqObj "list" #[] 0)
 have a2:h2'.get? a=some (seqObj "list" #[] e1):=apH _ (apH _ a1)
 have k2:∀ b o,b≠a->s.heap.get? b=some o->h2'.get? b=some o:=fun b o nb eb=>apH _ (apH _ ((aqt _ _ (aqP nb)).trans eb))
 have kz:∀ b o,h0.get? b=some o->h2'.get? b=some o:=fun b o eb=>k2 b o (h0s b o eb).1 (h0s b o eb).2
 rw [list_sort_plain]
 apply wpAny_bind;apply listItems_at ha rfl
 apply wpAny_bind;refine listUpdate_at ha rfl ?_ (by simpa using hz) (ap9 _)
 apply wpAny_bind;apply seqEpoch_at a1 rfl
 apply wpAny_bind;refine wpAny_newTuple ?_ (by simpa using hz)
 apply wpAny_bind;refine wpAny_newList ?_ (ap9 _)
 apply wpAny_holding
 dsimp only
 change wpAny _ A _ _ _ { s with heap:=h2' }
 have st0:SortSt.mk' κ (vs.toArray.zip vs.toArray) #[] 7 none=kas_st κ (pairsOf vs) (aqH (ap0 vs.length)):=by
  have z:=kas_range (pairsOf vs)
  rw [pairsOf_size] at z
  unfold kas_st
  rw [z]
  rfl
 have fin:∀ (st':SortSt) (p:Array Nat),Pm vs.length p->Up lt p vs.length->arrOf st'=p.map (kas_item (pairsOf vs))->failedOf st'=none->wpAny (model P w) A (do
   let sorted:=(arrOf st').map (·.2)
   let touched:=(<- seqEpoch a) != e1
   Builtin.List.listUpdate (.ref a) fun _=>sorted
   if let some e:=failedOf st' then rule "list.sort.comparison-raised";throw e
   if touched then rule "list.sort.modified";raiseError "ValueError" "list modified during sort"
   ret .none) R X { s with heap:=h2' }:=fun st' p x1 x2 x3 x4=>by
  have out:(arrOf st').map (·.2)=(p.toList.map fun i=>vs.getD i Value.none).toArray:=by
   apply Array.toList_inj.mp
   rw [x3,Array.map_map,Array.toList_map]
   refine arh fun i _=>?_
   show (kas_item (pairsOf vs) i).2=_
   rw [kas_item_eq]
  dsimp only
  rw [out,x4]
  obtain⟨c,a3⟩:∃ c,(h2'.update a (arS fun _=>(p.toList.map fun i=>vs.getD i Value.none).toArray)).get? a=some (seqObj "list" (p.toList.map fun i=>vs.getD i Value.none).toArray c):=⟨_,get?_update_seq a2 fun _=>(p.toList.map fun i=>vs.getD i Value.none).toArray⟩
  apply wpAny_bind;apply seqEpoch_at a2 rfl
  apply wpAny_bind
  refine listUpdate_at a2 rfl ?_ (ap9 _) (by
   rw [apV,apC,apY,x1.size];omega)
  simp only [bne_self_eq_false,aqk,if_false]
  exact wpAny_pure (q _ p c x1 x2 (fun b o nb eb=>(aqt _ _ (aqP nb)).trans (k2 b o nb eb)) a3)
 by_cases h2:vs.length<2
 ·have two:vs.toArray.size<2:=by rw [apV];exact h2
  rw [if_pos two,if_pos two]
  apply wpAny_bind;apply wpAny_pure
  apply wpAny_bind
  rw [StateT.run_pure]
  apply wpAny_pure
  have z:=kas_range (pairsOf vs)
  rw [pairsOf_size] at z
  exact fin _ (aqH (ap0 vs.length)) (Pm.range _) (fun i j x y=>by omega) z.symm rfl
 have two:¬ vs.toArray.size<2:=by rw [apV];exact h2
 rw [if_neg two,if_neg two]
 apply wpAny_bind
 refine wpAny_mono (K.kind (by omega) h2' kz (fun κ' s'=>κ'=κ/\s'={ s with heap:=h2' }) ⟨rfl,rfl⟩) ?_ fun _ _ z=>z.elim
 rintro κ' s' ⟨eκ,es⟩
 rw [eκ,es]
 have W:=K.less h2' kz
 rw [kas_ask_eq] at W
 rw [st0]
 apply wpAny_bind
 refine wpAny_mono (ajx (Q:=fun st' s'=>s'={ s with heap:=h2' }/\∃ p,Pm vs.length p/\Up lt p vs.length/\arrOf st'=p.map (kas_item (pairsOf vs))/\failedOf st'=none) W K.ord (by omega) K.few fun st' p x1 x2 x3 x4=>⟨rfl,p,x1,x2,x3,x4⟩) ?_ fun _ _ z=>z
 rintro⟨⟨⟩,st'⟩ s' ⟨rfl,p,x1,x2,x3,x4⟩
 exact fin st' p x1 x2 x3 x4
theorem aem {l:Addr} {Q:Value->Shared->Prop} (hz:vs.length<=sizeLine) (hl:s.heap.IsList l vs.toArray) (K:Asks P w A.in1.in1 s κ vs lt)
  (q:∀ (h':Heap) D p c,Pm vs.length p->Up lt p vs.length->s.heap.objs.size<=D->(∀ b o,s.heap.get? b=some o->h'.get? b=some o)->h'.get? D=some (seqObj "list" (p.toList.map fun i=>vs.getD i Value.none).toArray c)->Q (.ref D) { s with heap:=h' }) :
  wpAny (model P w) A (call (.builtin "sorted") [.ref l]) Q X s:=by
 let h1:=(s.heap.push (seqObj "list" #[] 0)).update s.heap.objs.size (arS (·++vs.toArray))
 have s1:h1.objs.size=s.heap.objs.size+1:=by rw [Heap.size_update,size_push']
 let h2':=h1.push (seqObj "list" vs.toArray 0)
 have at2:h2'.get? (s.heap.objs.size+1)=some (seqObj "list" vs.toArray 0):=by rw [<-s1];exact ap5 _ rfl
 have keep:∀ b o,s.heap.get? b=some o->b≠s.heap.objs.size+1/\h2'.get? b=some o:=fun b o eb=>by
  have lb:=apU eb
  refine⟨fun z=>?_,apH _ ((aqt _ _ fun z=>?_).trans (apH _ eb))⟩
  ·rw [z] at lb;exact aq3 _ (asd lb (ata _))
  ·rw [<-z] at lb;exact aq3 _ lb
 refine Calls.call_function_entry kind_sorted plain_sorted entry_sorted (args_sorted1 _) ?_
 unfold Builtin.«sorted»
 apply wpAny_bind (m:=checkCount "sorted" 1 1 _);apply wpAny_pure
 apply wpAny_bind;refine collect_list hl ?_ hz
 apply wpAny_bind;refine wpAny_newList ?_ hz
 change wpAny _ _ _ _ _ { s with heap:=h2' }
 rw [show Value.ref ((s.heap.push (seqObj "list" #[] 0)).update s.heap.objs.size (arS (·++vs.toArray))).objs.size=Value.ref (s.heap.objs.size+1) from congrArg Value.ref s1]
 apply wpAny_bind;apply wpAny_holding
 refine wpAny_call_entry slot_list_sort ⟨_,at2,rfl⟩ entry_list_sort ?_ (args_list_sort _)
 refine alj (s:={ s with heap:=h2' }) hz at2 (h0:=s.heap) keep K fun h' p c x1 x2 x3 x4=>⟨_,rfl,wpAny_pure ⟨_,rfl,?_⟩⟩
 exact q h' _ p c x1 x2 (atH _) (fun b o eb=>x3 b o (keep b o eb).1 (keep b o eb).2) x4
end
mutual
noncomputable def zz:PyData->Bool
 | .int _=>true
 | .str s=>(PyData.str s).canLay0
 | .tuple xs=>zG xs
 | _=>false
noncomputable def zG:List PyData->Bool
 | []=>true
 | x :: xs=>zz x && zG xs
end
mutual
noncomputable def ltD:PyData->PyData->Bool
 | .int a,.int b=>decide (a<b)
 | .str a,.str b=>decide (a.cps.toList<b.cps.toList)
 | .tuple xs,.tuple ys=>ltL xs ys
 | .int _,.str _=>true
 | .int _,.tuple _=>true
 | .str _,.tuple _=>true
 | _,_=>false
noncomputable def ltL:List PyData->List PyData->Bool
 | [],[]=>false
 | [],_ :: _=>true
 | _ :: _,[]=>false
 | x :: xs,y :: ys=>if aqc x y=true then ltL xs ys else ltD x y
end
mutual
noncomputable def aaN:PyData->PyData->Bool
 | .int _,.int _=>true
 | .str _,.str _=>true
 | .tuple xs,.tuple ys=>vR xs ys
 | _,_=>false
noncomputable def vR:List PyData->List PyData->Bool
 | [],_=>true
 | _ :: _,[]=>true
 | x :: xs,y :: ys=>if aqc x y=true then vR xs ys else aaN x y
end
mutual
theorem yK:∀ d:PyData,zz d=true->d.canLay0=true
 | .int _,_=>rfl
 | .str _,h=>h
 | .tuple xs,h=>by rw [PyData.canLay0];exact abn xs (by rw [zz] at h;exact h)
 | .none,h=>by cases h
 | .bool _,h=>by cases h
 | .list _,h=>by cases h
 | .dict _,h=>by cases h
theorem abn:∀ xs:List PyData,zG xs=true->aqN xs=true
 | [],_=>rfl
 | x :: xs,h=>by
  rw [zG,apO] at h
  rw [aqN,yK x h.1,abn xs h.2]
  rfl
end
mutual
theorem ajy:∀ a b:PyData,zz a=true->zz b=true->aqc a b=true->a=b
 | .int a,.int b,_,_,h=>by simpa [aqc] using h
 | .str a,.str b,_,_,h=>by simpa [aqc] using h
 | .tuple xs,.tuple ys,h1,h2,h=>by rw [agG xs ys (by rw [zz] at h1;exact h1) (by rw [zz] at h2;exact h2) (by rw [aqc] at h;exact h)]
 | .int _,.str _,_,_,h=>by simp [aqc] at h
 | .int _,.tuple _,_,_,h=>by simp [aqc] at h
 | .str _,.int _,_,_,h=>by simp [aqc] at h
 | .str _,.tuple _,_,_,h=>by simp [aqc] at h
 | .tuple _,.int _,_,_,h=>by simp [aqc] at h
 | .tuple _,.str _,_,_,h=>by simp [aqc] at h
 | .none,_,h,_,_=>by cases h
 | .bool _,_,h,_,_=>by cases h
 | .list _,_,h,_,_=>by cases h
 | .dict _,_,h,_,_=>by cases h
 | .int _,.none,_,h,_=>by cases h
 | .int _,.bool _,_,h,_=>by cases h
 | .int _,.list _,_,h,_=>by cases h
 | .int _,.dict _,_,h,_=>by cases h
 | .str _,.none,_,h,_=>by cases h
 | .str _,.bool _,_,h,_=>by cases h
 | .str _,.list _,_,h,_=>by cases h
 | .str _,.dict _,_,h,_=>by cases h
 | .tuple _,.none,_,h,_=>by cases h
 | .tuple _,.bool _,_,h,_=>by cases h
 | .tuple _,.list _,_,h,_=>by cases h
 | .tuple _,.dict _,_,h,_=>by cases h
theorem agG:∀ xs ys:List PyData,zG xs=true->zG ys=true->as4 xs ys=true->xs=ys
 | [],[],_,_,_=>rfl
 | [],_ :: _,_,_,h=>by simp [as4] at h
 | _ :: _,[],_,_,h=>by simp [as4] at h
 | x :: xs,y :: ys,h1,h2,h=>by
  rw [zG,apO] at h1 h2
  rw [as4,apO] at h
  rw [ajy x y h1.1 h2.1 h.1,agG xs ys h1.2 h2.2 h.2]
end
theorem aaU {a b:PyData} (ha:zz a=true) (hb:zz b=true):aqc a b=true↔a=b :=
 ⟨ajy a b ha hb,fun h=>by subst h;exact arC a (yK a ha)⟩
theorem qm {x y:PyData} {xs ys:List PyData} (hx:zz x=true) (hy:zz y=true) [Decidable (x=y)]:ltL (x :: xs) (y :: ys)=if x=y then ltL xs ys else ltD x y:=by
 rw [ltL]
 by_cases h:x=y
 ·rw [if_pos ((aaU hx hy).mpr h),if_pos h]
 ·rw [if_neg (fun z=>h ((aaU hx hy).mp z)),if_neg h]
theorem ajz {a b:List Nat} (h:a≠b):decide (a<b)=!decide (b<a):=by
 by_cases h1:a<b
 ·rw [decide_eq_true h1,decide_eq_false (fun z=>List.lt_irrefl a (List.lt_trans h1 z))]
  rfl
 ·have h2:b<a:=by
   have:b<=a:=List.not_lt.mp h1
   rcases List.le_iff_lt_or_eq.mp this with z | z
   ·exact z
   ·exact absurd z.symm h
  rw [decide_eq_false h1,decide_eq_true h2]
  rfl
theorem ant {a b:Str} (h:a≠b):a.cps.toList≠b.cps.toList:=fun z=>h (by
 cases a;cases b
 simp only [Str.mk.injEq] at *
 exact Array.toList_inj.mp z)
mutual
theorem afI:∀ a b:PyData,zz a=true->zz b=true->a≠b->ltD a b=!ltD b a
 | .int a,b,ha,hb,ne=>by
  cases b with
  | int b =>
   rw [ltD,ltD]
   have:a≠b:=fun z=>ne (by rw [z])
   by_cases h:a<b
   ·rw [decide_eq_true h,decide_eq_false (by omega)];rfl
   ·rw [decide_eq_false h,decide_eq_true (by omega)];rfl
  | str b=>simp [ltD]
  | tuple ys=>simp [ltD]
  | none=>cases hb
  | bool _=>cases hb
  | list _=>cases hb
  | dict _=>cases hb
 | .str a,b,ha,hb,ne=>by
  cases b with
  | int b=>simp [ltD]
  | str b =>
   rw [ltD,ltD]
   exact ajz (ant fun z=>ne (by rw [z]))
  | tuple ys=>simp [ltD]
  | none=>cases hb
  | bool _=>cases hb
  | list _=>cases hb
  | dict _=>cases hb
 | .tuple xs,b,ha,hb,ne=>by
  cases b with
  | int b=>simp [ltD]
  | str b=>simp [ltD]
  | tuple ys =>
   rw [ltD,ltD]
   rw [zz] at ha hb
   exact agH xs ys ha hb fun z=>ne (by rw [z])
  | none=>cases hb
  | bool _=>cases hb
  | list _=>cases hb
  | dict _=>cases hb
 | .none,_,h,_,_=>by cases h
 | .bool _,_,h,_,_=>by cases h
 | .list _,_,h,_,_=>by cases h
 | .dict _,_,h,_,_=>by cases h
theorem agH:∀ xs ys:List PyData,zG xs=true->zG ys=true->xs≠ys->ltL xs ys=!ltL ys xs
 | [],[],_,_,ne=>absurd rfl ne
 | [],_ :: _,_,_,_=>by simp [ltL]
 | _ :: _,[],_,_,_=>by simp [ltL]
 | x :: xs,y :: ys,h1,h2,ne=>by
  rw [zG,apO] at h1 h2
  have:=aqK (x=y)
  have:=aqK (y=x)
  rw [qm h1.1 h2.1,qm h2.1 h1.1]
  by_cases e:x=y
  ·rw [if_pos e,if_pos e.symm]
   exact agH xs ys h1.2 h2.2 fun z=>ne (by rw [e,z])
  ·rw [if_neg e,if_neg (aqP e)]
   exact afI x y h1.1 h2.1 e
end
mutual
theorem anu:∀ a:PyData,zz a=true->ltD a a=false
 | .int a,_=>by rw [ltD];exact decide_eq_false (Int.lt_irrefl a)
 | .str a,_=>by rw [ltD];exact decide_eq_false (List.lt_irrefl _)
 | .tuple xs,h=>by rw [ltD];rw [zz] at h;exact agI xs h
 | .none,h=>by cases h
 | .bool _,h=>by cases h
 | .list _,h=>by cases h
 | .dict _,h=>by cases h
theorem agI:∀ xs:List PyData,zG xs=true->ltL xs xs=false
 | [],_=>by rw [ltL]
 | x :: xs,h=>by
  rw [zG,apO] at h
  have:=aqK (x=x)
  rw [qm h.1 h.1,if_pos rfl]
  exact agI xs h.2
end
theorem lt_asymm {a b:PyData} (ha:zz a=true) (hb:zz b=true) (h:ltD a b=true):a≠b:=fun z=>by
 subst z
 rw [anu a ha] at h
 cases h
mutual
theorem ajA:∀ a b c:PyData,zz a=true->zz b=true->zz c=true->ltD a b=true->ltD b c=true->ltD a c=true
 | .int a,b,c,ha,hb,hc,h1,h2=>by
  cases b <;> first | (cases hb;done) | skip
  all_goals cases c <;> first | (cases hc;done) | skip
  all_goals first | (simp [ltD] at h1 h2 ⊢;omega) | (simp [ltD] at h1 h2 ⊢;done) | (simp [ltD] at h1;done) | (simp [ltD] at h2;done)
 | .str a,b,c,ha,hb,hc,h1,h2=>by
  cases b <;> first | (cases hb;done) | skip
  all_goals cases c <;> first | (cases hc;done) | skip
  all_goals first | (simp [ltD] at h1;done) | (simp [ltD] at h2;done) | (rw [ltD] at h1 h2 ⊢;exact decide_eq_true (List.lt_trans (of_decide_eq_true h1) (of_decide_eq_true h2))) | (simp [ltD] at h1 h2 ⊢;done)
 | .tuple xs,b,c,ha,hb,hc,h1,h2=>by
  cases b with
  | tuple ys =>
   cases c with
   | tuple zs =>
    rw [ltD] at h1 h2 ⊢
    rw [zz] at ha hb hc
    exact agJ xs ys zs ha hb hc h1 h2
   | int _=>simp [ltD] at h2
   | str _=>simp [ltD] at h2
   | none=>cases hc
   | bool _=>cases hc
   | list _=>cases hc
   | dict _=>cases hc
  | int _=>simp [ltD] at h1
  | str _=>simp [ltD] at h1
  | none=>cases hb
  | bool _=>cases hb
  | list _=>cases hb
  | dict _=>cases hb
 | .none,_,_,h,_,_,_,_=>by cases h
 | .bool _,_,_,h,_,_,_,_=>by cases h
 | .list _,_,_,h,_,_,_,_=>by cases h
 | .dict _,_,_,h,_,_,_,_=>by cases h
theorem agJ:∀ xs ys zs:List PyData,zG xs=true->zG ys=true->zG zs=true->ltL xs ys=true->ltL ys zs=true->ltL xs zs=true
 | [],ys,[],_,_,_,h1,h2=>by
  cases ys with
  | nil=>exact h1
  | cons y ys=>simp [ltL] at h2
 | [],_,_ :: _,_,_,_,_,_=>by rw [ltL]
 | _ :: _,[],_,_,_,_,h1,_=>by simp [ltL] at h1
 | _ :: _,_ :: _,[],_,_,_,_,h2=>by simp [ltL] at h2
 | x :: xs,y :: ys,z :: zs,p1,p2,p3,h1,h2=>by
  rw [zG,apO] at p1 p2 p3
  have:=aqK (x=y)
  have:=aqK (y=z)
  have:=aqK (x=z)
  rw [qm p1.1 p2.1] at h1
  rw [qm p2.1 p3.1] at h2
  rw [qm p1.1 p3.1]
  by_cases e1:x=y
  ·rw [if_pos e1] at h1
   by_cases e2:y=z
   ·rw [if_pos e2] at h2
    rw [if_pos (e1.trans e2)]
    exact agJ xs ys zs p1.2 p2.2 p3.2 h1 h2
   ·rw [if_neg e2] at h2
    rw [if_neg (fun q=>e2 (e1.symm.trans q)),e1]
    exact h2
  ·rw [if_neg e1] at h1
   by_cases e2:y=z
   ·rw [if_neg (fun q=>e1 (q.trans e2.symm)),<- e2]
    exact h1
   ·rw [if_neg e2] at h2
    have h3:=ajA x y z p1.1 p2.1 p3.1 h1 h2
    rw [if_neg (lt_asymm p1.1 p3.1 h3)]
    exact h3
end
end L2
end
section
namespace L2
open PySem PySem.Spec PyProof.Rows PySem.SeqAt
open PySem.AutoSeq1 (wpAny_loadPart')
open PySem.MeetsSeq PySem.MeetsSeq2 PySem.MeetsSeq3
noncomputable def aoV (A:Around) (s:Shared) (y x:Value) (b:Bool):Prop :=
 ∀ (prog:Program) (w:World) (E:Value->Shared->Prop) (Q:Value->Shared->Prop),Q (.bool b) s->wpAny (model prog w) A (richCompare .Lt y x) Q E s
inductive Lex (A:Around) (s:Shared):List Value->List Value->Bool->Prop where
 | nn:Lex A s [] [] false
 | nc {w ws}:Lex A s [] (w :: ws) true
 | cn {v vs}:Lex A s (v :: vs) [] false
 | eq {v w vs ws b}:EqAt A s v w true->Lex A s vs ws b->Lex A s (v :: vs) (w :: ws) b
 | lt {v w vs ws b}:EqAt A s v w false->aoV A s v w b->Lex A s (v :: vs) (w :: ws) b
theorem ac2 (l m:Addr) (xs ys:Array Value) (n n2:Nat) (dd dd2:Option Addr) (sl sl2:Array (Option Value)) (c:Bool) :
  Meets (Builtin.«tuple.__lt__» ⟨[.ref l,.ref m],[]⟩)
   (fun A R s=>s.heap.get? l=some { cls:=.type "tuple",dict:=dd,data:=.seq xs n,slots:=sl }/\s.heap.get? m=some { cls:=.type "tuple",dict:=dd2,data:=.seq ys n2,slots:=sl2 } /\
    Lex A.in1 s xs.toList ys.toList c/\R (.ok (.ret (.bool c))) s) :=
 .of_wp fun prog w A R s h=>by
  obtain⟨hp,g,d,tk,os⟩:=s;obtain⟨hl,hb,hx,h⟩:=h
  have f2:=AutoSeq1.sub_tuple_tuple
  wp_walk using wpAny_loadPart' hl,wpAny_loadPart' hb,wpAny_forIn_list _ (fun rest b s'=>b.1=none/\s'=⟨hp,g,d,tk,os⟩/\∃ (vs ws:List Value),rest=vs.zip ws/\Lex A.in1 ⟨hp,g,d,tk,os⟩ vs ws c/\vs.length+ys.size=ws.length+xs.size) _
  case turn =>
   rintro⟨y,x⟩ rest b s' ⟨hb',rfl,vs,ws,hz,lx,hn⟩
   cases lx with
   | nn=>cases hz
   | nc=>cases hz
   | cn=>cases hz
   | eq he lx' =>
    rw [arJ] at hz
    cases hz
    refine wpAny_bind (he prog w _ _ ?_)
    wp_walk
    exact⟨rfl,rfl,_,_,rfl,lx',by simp only [apT] at hn;omega⟩
   | lt he hlt =>
    rw [arJ] at hz
    cases hz
    refine wpAny_bind (he prog w _ _ ?_)
    have hri:=hlt prog w
    wp_walk using hri
    exact⟨_,rfl,h⟩
  case fin =>
   rintro⟨b1,b2⟩ s' ⟨hb',rfl,vs,ws,hz,lx,hn⟩
   simp only at hb'
   subst hb'
   have hv:decide (xs.size<ys.size)=c:=by
    cases lx with
    | nn=>simp only [aqS] at hn;exact decide_eq_false (by omega)
    | nc=>simp only [aqS,apT] at hn;exact decide_eq_true (by omega)
    | cn=>simp only [aqS,apT] at hn;exact decide_eq_false (by omega)
    | eq _ _=>cases hz
    | lt _ _=>cases hz
   wp_walk
   rw [<-hv] at h
   exact⟨_,rfl,by simpa [Builtin.Tuple.tupleCompareSizes] using h⟩
  case h=>exact⟨rfl,rfl,_,_,rfl,hx,by simp only [apY];omega⟩
mutual
theorem aen:∀ (da db:PyData) (A:Around) (s:Shared) (a b:Value) (as bs:List Addr),Reads s.heap a da as->Reads s.heap b db bs->zz da=true->zz db=true->aaN da db=true ->
  A.units+max da.depth db.depth<cLine->aoV A s a b (ltD da db)
 | .int x,db,A,s,_,_,_,_,ra,rb,_,_,hc,hu=>by
  cases ra with
  | int _ t =>
   cases db with
   | int y =>
    cases rb with
    | int _ u =>
     intro prog w E Q q
     exact HT.rcLt_int A s x t y u prog w E Q (by rw [ltD] at q;exact q)
   | _=>cases hc
 | .str x,db,A,s,_,_,_,_,ra,rb,_,_,hc,hu=>by
  cases ra with
  | str _ t =>
   cases db with
   | str y =>
    cases rb with
    | str _ u =>
     intro prog w E Q q
     exact (PyProof.Rows.lt_str (by rw [ltD] at q;exact q):wpAny (model prog w) A (compareOp .Lt (.str x t) (.str y u)) Q E s)
   | _=>cases hc
 | .tuple xs,db,A,s,_,_,_,_,ra,rb,pa,pb,hc,hu=>by
  cases ra with
  | @tuple l o vs n _ as h1 h2 h3 h4 =>
   cases db with
   | tuple ys =>
    cases rb with
    | @tuple m o2 ws n2 _ bs k1 k2 k3 k4 =>
     intro prog w E Q q
     obtain⟨cls,dd,data,sl⟩:=o
     obtain⟨cls2,dd2,data2,sl2⟩:=o2
     simp only at h2 h3 k2 k3
     subst h2 h3 k2 k3
     rw [zz] at pa pb
     rw [aaN] at hc
     rw [ltD] at q
     have hd:A.in1.units+max (apP xs) (apP ys)<cLine:=by
      have e1:(PyData.tuple xs).depth=apP xs+1:=rfl
      have e2:(PyData.tuple ys).depth=apP ys+1:=rfl
      have e3:A.in1.units=A.units+1:=rfl
      rw [e1,e2] at hu
      omega
     have lx:=acd xs ys A.in1 s _ _ _ _ h4 k4 pa pb hc hd
     exact richCompare_meets_room (op:=.Lt) ⟨_,h1,rfl⟩ ⟨_,k1,rfl⟩ PySem.F.slot_tuple_lt PySem.F.entry_tuple_lt (PySem.F.args_tuple_lt_2 _ _) (ac2 l m vs ws n n2 dd dd2 sl sl2 (ltL xs ys))
      ⟨h1,k1,lx,show Value.bool (ltL xs ys)≠Value.notImplemented/\Q (.bool (ltL xs ys)) s from⟨(fun x=>nomatch x),q⟩⟩ (by omega)
   | _=>cases hc
 | .none,_,_,_,_,_,_,_,_,_,h,_,_,_=>by cases h
 | .bool _,_,_,_,_,_,_,_,_,_,h,_,_,_=>by cases h
 | .list _,_,_,_,_,_,_,_,_,_,h,_,_,_=>by cases h
 | .dict _,_,_,_,_,_,_,_,_,_,h,_,_,_=>by cases h
theorem acd:∀ (xs ys:List PyData) (A:Around) (s:Shared) (vs ws:List Value) (as bs:List Addr),ReadsAll s.heap vs xs as->ReadsAll s.heap ws ys bs->zG xs=true->zG ys=true->vR xs ys=true ->
  A.units+max (apP xs) (apP ys)<cLine->Lex A s vs ws (ltL xs ys)
 | [],[],_,_,_,_,_,_,ra,rb,_,_,_,_=>by cases ra;cases rb;rw [ltL];exact .nn
 | [],_ :: _,_,_,_,_,_,_,ra,rb,_,_,_,_=>by cases ra;cases rb;rw [ltL];exact .nc
 | _ :: _,[],_,_,_,_,_,_,ra,rb,_,_,_,_=>by cases ra;cases rb;rw [ltL];exact .cn
 | x :: xs,y :: ys,A,s,_,_,_,_,ra,rb,pa,pb,hc,hu=>by
  cases ra with
  | cons r rs =>
   cases rb with
   | cons r' rs' =>
    rw [zG,apO] at pa pb
    rw [vR] at hc
    rw [ltL]
    have e1:apP (x :: xs)=max x.depth (apP xs):=rfl
    have e2:apP (y :: ys)=max y.depth (apP ys):=rfl
    rw [e1,e2] at hu
    have eq:=eqAt_reads x y A s _ _ _ _ r r' (yK x pa.1) (yK y pb.1) (by omega)
    by_cases e:aqc x y=true
    ·rw [if_pos e] at hc ⊢
     rw [e] at eq
     exact .eq eq (acd xs ys A s _ _ _ _ rs rs' pa.2 pb.2 hc (by omega))
    ·rw [if_neg e] at hc ⊢
     rw [Bool.not_eq_true] at e
     rw [e] at eq
     exact .lt eq (aen x y A s _ _ _ _ r r' pa.1 pb.1 hc (by omega))
end
end L2
end
section
namespace L2
open PySem PySem.Spec PyProof.Rows PySem.SeqAt PySem.W
section
variable {P:Program} {w:World} {A:Around} {s:Shared} {b:Bool} {Q:Bool->Shared->Prop}
theorem ac3 {fin:Bool} {x y:PyData} {p q:Value} {r:List (Value×Value)} {i:Nat} {as bs:List Addr} {c:Bool} (rx:Reads s.heap p x as) (ry:Reads s.heap q y bs) (px:zz x=true) (py:zz y=true) (hu:A.units+max x.depth y.depth<cLine)
  (h1:aqc x y=true->KatLex P w A b fin Q r (i+1) s) (h2:aqc x y=false->wpAny (model P w) A (oneLt' (b && i == 0) p q) Q (fun _ _=>False) s):KatLex P w A b fin Q ((p,q) :: r) i s:=by
 refine kat_cons (eqAt_reads x y A s _ _ _ _ rx ry (yK x px) (yK y py) (by omega) P w _ _ ?_)
 exact kat_go (fun e=>kat_yes (h1 e)) fun e=>kat_no (h2 e)
theorem vS {m n:Nat}:∀ (xs ys:List PyData) (vs ws:List Value) (as bs:List Addr) (i:Nat),(1<=i \/ b=false)->ReadsAll s.heap vs xs as->ReadsAll s.heap ws ys bs->zG xs=true->zG ys=true->vR xs ys=true ->
  A.units+max (apP xs) (apP ys)<cLine->xs.length+n=ys.length+m->Q (ltL xs ys) s->KatLex P w A b (decide (m<n)) Q (vs.zip ws) i s
 | [],[],_,_,_,_,i,_,ra,rb,_,_,_,_,hl,q=>by
  cases ra;cases rb
  rw [ltL] at q
  simp only [aqS] at hl
  rw [decide_eq_false (show ¬ m<n by omega)]
  exact kat_nil q
 | [],y :: ys,_,_,_,_,i,_,ra,rb,_,_,_,_,hl,q=>by
  cases ra;cases rb
  rw [ltL] at q
  simp only [aqS,apT] at hl
  rw [decide_eq_true (show m<n by omega)]
  exact kat_nil q
 | x :: xs,[],_,_,_,_,i,_,ra,rb,_,_,_,_,hl,q=>by
  cases ra;cases rb
  rw [ltL] at q
  simp only [aqS,apT] at hl
  rw [decide_eq_false (show ¬ m<n by omega),List.zip_nil_right]
  exact kat_nil q
 | x :: xs,y :: ys,_,_,_,_,i,hi,ra,rb,pa,pb,hc,hu,hl,q=>by
  cases ra with
  | cons r rs =>
   cases rb with
   | cons r' rs' =>
    rw [zG,apO] at pa pb
    rw [vR] at hc
    rw [ltL] at q
    have e1:apP (x :: xs)=max x.depth (apP xs):=rfl
    have e2:apP (y :: ys)=max y.depth (apP ys):=rfl
    rw [e1,e2] at hu
    simp only [apT] at hl
    rw [arJ]
    refine ac3 (c:=true) r r' pa.1 pb.1 (by omega) (fun e=>?_) fun e=>?_
    ·rw [if_pos e] at hc q
     exact vS xs ys _ _ _ _ (i+1) (.inl (by omega)) rs rs' pa.2 pb.2 hc (by omega) (by omega) q
    ·rw [if_neg (by rw [e];exact apB)] at hc q
     have ef:(b && i == 0)=false:=by
      rcases hi with hi | hi
      ·rw [show (i == 0)=false from beq_eq_false_iff_ne.mpr (by omega),arT]
      ·rw [hi];rfl
     rw [ef]
     exact kat_one _ _ (aen x y A s _ _ _ _ r r' pa.1 pb.1 hc (by omega) P w _ _ q)
end
noncomputable def qo:PyData->Option String
 | .tuple (.int _ :: _)=>some "int"
 | .tuple (.str _ :: _)=>some "str"
 | .tuple (.tuple _ :: _)=>some "tuple"
 | _=>none
structure SortOk (T:String) (ds:List PyData):Prop where
 plain:∀ d∈ds,zz d=true
 head:∀ d∈ds,qo d=some T
 cmp:∀ d∈ds,∀ e∈ds,aaN d e=true
 depth:∀ d∈ds,d.depth<=50
 nd:ds.Nodup
theorem qX {d:PyData} {T:String} (h:qo d=some T):∃ x xs,d=.tuple (x :: xs)/\((T="int"/\∃ n,x=.int n) \/ (T="str"/\∃ n,x=.str n) \/ (T="tuple"/\∃ n,x=.tuple n)):=by
 unfold qo at h
 split at h
 ·cases h;exact⟨_,_,rfl,.inl ⟨rfl,_,rfl⟩⟩
 ·cases h;exact⟨_,_,rfl,.inr (.inl ⟨rfl,_,rfl⟩)⟩
 ·cases h;exact⟨_,_,rfl,.inr (.inr ⟨rfl,_,rfl⟩)⟩
 ·cases h
section
variable {P:Program} {w:World} {A:Around} {s:Shared} {T:String}
theorem anv {d e:PyData} {v u:Value} {as bs:List Addr} {C:Bool->Shared->Prop} (rd:Reads s.heap v d as) (re:Reads s.heap u e bs) (pd:zz d=true) (pe:zz e=true) (hd:qo d=some T) (he:qo e=some T) (hc:aaN d e=true)
  (hu:A.units+60<cLine) (d1:d.depth<=50) (d2:e.depth<=50) (q:C (ltD d e) s):wpAny (model P w) A (keyLt' (tuples' (Value.type T != Value.type "tuple")) v u) C (fun _ _=>False) s:=by
 obtain⟨x,xs,rfl,hx⟩:=qX hd
 obtain⟨y,ys,rfl,hy⟩:=qX he
 cases rd with
 | @tuple l o vs n _ as h1 h2 h3 h4 =>
  cases re with
  | @tuple m o2 ws n2 _ bs k1 k2 k3 k4 =>
   have l1:=asp _ _ _ h4
   have l2:=asp _ _ _ k4
   rw [apY] at l1 l2
   refine kat_lt h1 h3 k1 k3 ?_
   rw [zz] at pd pe
   rw [aaN] at hc
   rw [ltD] at q
   have e1:(PyData.tuple (x :: xs)).depth=apP (x :: xs)+1:=rfl
   have e2:(PyData.tuple (y :: ys)).depth=apP (y :: ys)+1:=rfl
   have e3:apP (x :: xs)=max x.depth (apP xs):=rfl
   have e4:apP (y :: ys)=max y.depth (apP ys):=rfl
   rcases hx with⟨rfl,nx,rfl⟩ | ⟨rfl,nx,rfl⟩ | ⟨rfl,nx,rfl⟩
   ·obtain⟨ny,rfl⟩:∃ ny,y=.int ny:=by
     rcases hy with⟨_,h⟩ | ⟨z,_⟩ | ⟨z,_⟩
     ·exact h
     ·exact absurd z (by decide)
     ·exact absurd z (by decide)
    obtain⟨vl⟩:=vs
    obtain⟨wl⟩:=ws
    cases h4 with
    | cons r rs =>
     cases k4 with
     | cons r' rs' =>
      rw [zG,apO] at pd pe
      rw [vR] at hc
      rw [ltL] at q
      rw [arJ]
      refine ac3 (c:=true) r r' rfl rfl (by omega) (fun e=>?_) fun e=>?_
      ·rw [if_pos e] at hc q
       exact vS xs ys _ _ _ _ 1 (.inl (apI 1)) rs rs' pd.2 pe.2 hc (by omega) (by simp only [apT] at l1 l2;omega) q
      ·rw [if_neg (by rw [e];exact apB)] at q
       rw [show ((Value.type "int" != Value.type "tuple") && (0 == 0))=true by decide]
       cases r
       cases r'
       rw [ltD] at q
       exact oneLt_int q
   ·obtain⟨ny,rfl⟩:∃ ny,y=.str ny:=by
     rcases hy with⟨z,_⟩ | ⟨_,h⟩ | ⟨z,_⟩
     ·exact absurd z (by decide)
     ·exact h
     ·exact absurd z (by decide)
    obtain⟨vl⟩:=vs
    obtain⟨wl⟩:=ws
    cases h4 with
    | cons r rs =>
     cases k4 with
     | cons r' rs' =>
      rw [zG,apO] at pd pe
      rw [vR] at hc
      rw [ltL] at q
      rw [arJ]
      refine ac3 (c:=true) r r' pd.1 pe.1 (by omega) (fun e=>?_) fun e=>?_
      ·rw [if_pos e] at hc q
       exact vS xs ys _ _ _ _ 1 (.inl (apI 1)) rs rs' pd.2 pe.2 hc (by omega) (by simp only [apT] at l1 l2;omega) q
      ·rw [if_neg (by rw [e];exact apB)] at q
       rw [show ((Value.type "str" != Value.type "tuple") && (0 == 0))=true by decide]
       cases r
       cases r'
       rw [ltD] at q
       exact oneLt_str q
   ·exact vS _ _ _ _ _ _ 0 (.inr (by decide)) h4 k4 pd pe hc (by omega) (by rw [l1,l2];omega) q
theorem ReadsAll.at {h:Heap}:∀ {vs:List Value} {ds:List PyData} {as:List Addr},ReadsAll h vs ds as->∀ i,i<ds.length->∃ bs,Reads h (vs.getD i Value.none) (ds.getD i .none) bs
 | _,_,_,.nil,i,hi=>absurd hi (aqR _)
 | _,_,_,.cons r rs,0,_=>⟨_,r⟩
 | _,_,_,.cons r rs,i+1,hi=>ReadsAll.at rs i (Nat.lt_of_succ_lt_succ hi)
theorem ReadsAll.keep {h h':Heap} (k:∀ b o,h.get? b=some o->h'.get? b=some o):∀ {vs:List Value} {ds:List PyData} {as:List Addr},ReadsAll h vs ds as->ReadsAll h' vs ds as
 | _,_,_,.nil=>.nil
 | _,_,_,.cons r rs=>.cons (PyProof.Rows.Reads.keeps k r) (ReadsAll.keep k rs)
theorem agK {h:Heap}:∀ {vs:List Value} {ds:List PyData} {as:List Addr},ReadsAll h vs ds as->(∀ d∈ds,qo d=some T)->∃ fs,KatTups h vs fs/\fs.length=vs.length/\∀ v∈fs,Looks (model P w) h (typeOf v) (.type T)
 | _,_,_,.nil,_=>⟨[],.nil,rfl,fun _ h=>nomatch h⟩
 | _,d :: ds,_,.cons r rs,hh=>by
  obtain⟨fs,h1,h2,h3⟩:=agK rs fun d hd=>hh d (apG _ hd)
  obtain⟨x,xs,rfl,hx⟩:=qX (hh d apJ)
  cases r with
  | @tuple l o vs n _ as k1 k2 k3 k4 =>
   obtain⟨vl⟩:=vs
   cases k4 with
   | @cons v0 vs0 _ _ _ _ r0 rs0 =>
    refine⟨v0 :: fs,.cons k1 k2 k3 rfl h1,by simp [h2],fun v hv=>?_⟩
    rcases apK.mp hv with rfl | hv
    ·rcases hx with⟨rfl,nx,rfl⟩ | ⟨rfl,nx,rfl⟩ | ⟨rfl,nx,rfl⟩
     ·cases r0;exact Looks.of_pure rfl
     ·cases r0;exact Looks.of_pure rfl
     ·cases r0 with
      | tuple q1 q2 q3 q4=>rw [<-q2];exact (Looks.ld q1).andThen .now
    ·exact h3 v hv
theorem anw {ds:List PyData} (ok:SortOk T ds):Tot ds.length fun i j=>ltD (ds.getD i .none) (ds.getD j .none):=by
 have mem:∀ i,i<ds.length->ds.getD i .none∈ds:=fun i hi=>by
  rw [apF,apA hi]
  exact aqf hi
 refine⟨fun i j hi hj ne=>afI _ _ (ok.plain _ (mem i hi)) (ok.plain _ (mem j hj)) fun z=>ne ?_,fun i j k hi hj hk=>ajA _ _ _ (ok.plain _ (mem i hi)) (ok.plain _ (mem j hj)) (ok.plain _ (mem k hk))⟩
 rw [apF,apF,apA hi,apA hj] at z
 exact (asq ok.nd).mp z
theorem alk {vs:List Value} {ds:List PyData} {as:List Addr} (ra:ReadsAll s.heap vs ds as) (ok:SortOk T ds) (hu:A.units+60<cLine) (few:ds.length<64 \/ ds.Pairwise fun d e=>ltD d e=true) :
  Asks P w A s (tuples' (Value.type T != Value.type "tuple")) vs fun i j=>ltD (ds.getD i .none) (ds.getD j .none):=by
 have len:=asp _ _ _ ra
 have mem:∀ i,i<ds.length->ds.getD i .none∈ds:=fun i hi=>by
  rw [apF,apA hi]
  exact aqf hi
 refine⟨fun h2 h' k R q=>?_,fun h' k i j C hi hj q=>?_,by rw [len];exact anw ok,?_⟩
 ·obtain⟨fs,f1,f2,f3⟩:=agK (P:=P) (w:=w) (ReadsAll.keep k ra) ok.head
  exact kat_kind f1 (by omega) f3 (beq_self_eq_true _) q
 ·rw [len] at hi hj
  obtain⟨b1,r1⟩:=ReadsAll.at (ReadsAll.keep k ra) i hi
  obtain⟨b2,r2⟩:=ReadsAll.at (ReadsAll.keep k ra) j hj
  exact anv r1 r2 (ok.plain _ (mem i hi)) (ok.plain _ (mem j hj)) (ok.head _ (mem i hi)) (ok.head _ (mem j hj)) (ok.cmp _ (mem i hi) _ (mem j hj)) hu (ok.depth _ (mem i hi)) (ok.depth _ (mem j hj)) q
 ·rw [len]
  refine few.imp id fun pw i hi=>?_
  have h1:=aro.mp pw i (i+1) (by omega) hi (by omega)
  have g:∀ j (hj:j<ds.length),ds.getD j .none=ds[j]:=fun j hj=>by rw [apF,apA hj];rfl
  rw [g _ hi,g i (by omega)]
  have ne:=lt_asymm (ok.plain _ (aqf _)) (ok.plain _ (aqf _)) h1
  have:=afI _ _ (ok.plain _ (aqf _)) (ok.plain _ (aqf _)) ne
  rw [h1] at this
  revert this
  cases ltD ds[i+1] ds[i] <;> simp
end
noncomputable def pick {α:Type} (d:α) (p:Array Nat) (xs:List α):List α:=p.toList.map fun i=>xs.getD i d
theorem agL:∀ {xs:List V} {us:List Value},Vals xs us->∀ i,RelV (xs.getD i .non) (us.getD i Value.none)
 | _,_,.nil,i=>rfl
 | _,_,.cons r t,0=>r
 | _,_,.cons r t,i+1=>agL t i
theorem ah2 {xs:List V} {us:List Value} (r:Vals xs us) (p:Array Nat):Vals (pick .non p xs) (pick Value.none p us):=by
 unfold pick
 induction p.toList with
 | nil=>exact .nil
 | cons i l ih=>exact .cons (agL r i) ih
theorem agM {K:apD} {H:Hp}:∀ {ds:List PyData} {xs:List V},Reps K H ds xs->∀ i,Rep K H (ds.getD i .none) (xs.getD i .non)
 | [],xs,r,i=>by
  rw [reps_nil.mp r]
  exact rep_none.mpr rfl
 | d :: ds,xs,r,i=>by
  obtain⟨x,xs',rfl,r1,r2⟩:=reps_cons.mp r
  cases i with
  | zero=>exact r1
  | succ i=>exact agM r2 i
theorem ah3 {K:apD} {H:Hp} {ds:List PyData} {xs:List V} (r:Reps K H ds xs) (p:Array Nat):Reps K H (pick .none p ds) (pick .non p xs):=by
 unfold pick
 induction p.toList with
 | nil=>exact .nil'
 | cons i l ih=>exact .cons' (agM r i) ih
theorem ah4 {α:Type} {d:α} {n:Nat} {p:Array Nat} {xs:List α} (h:Pm n p) (hn:n=xs.length):(pick d p xs).Perm xs:=by
 have e:(ap0 n).map (fun i=>xs.getD i d)=xs:=by
  subst hn
  refine asb fun i=>?_
  rw [apM]
  by_cases hi:i<xs.length
  ·rw [ary hi,apA hi]
   simp [hi]
  ·rw [ap7 (by simp;omega),ap7 (by omega)]
   rfl
 have:=h.map fun i=>xs.getD i d
 rw [e] at this
 exact this
theorem alm {n:Nat} {p:Array Nat} {ds:List PyData} (h:Pm n p) (u:Up (fun i j=>ltD (ds.getD i .none) (ds.getD j .none)) p n):(pick .none p ds).Pairwise fun d e=>ltD d e=true:=by
 unfold pick
 rw [aru]
 refine aro.mpr fun i j hi hj hij=>?_
 have hs:=h.size
 rw [apY] at hi hj
 have:=u i j hij (by omega)
 have g:∀ k (hk:k<p.toList.length),p.getD k 0=p.toList[k]:=fun k hk=>by
  rw [jR,apF,apA hk]
  rfl
 rw [g i (by simpa using hi),g j (by simpa using hj)] at this
 exact this
noncomputable def ac4 (K:apD):List V->Hp->VK->Prop:=fun xs H Q=>∃ (a:Addr) (vs:List V) (ds:List PyData) (T:String),xs=[.ref a]/\SqL K H a vs/\Reps K H ds vs/\SortOk T ds/\ds.length<=1000/\(ds.length<64 \/ ds.Pairwise fun d e=>ltD d e=true) /\
 ∀ l p,H l=none->Pm ds.length p->Up (fun i j=>ltD (ds.getD i .none) (ds.getD j .none)) p ds.length->Q (.ref l) (upd H l (.lst (pick .non p vs)))
theorem ac5 {X:Cx} (hu:X.A.units+64<cLine):z9 X (.builtin "sorted") (ac4 X.K):=by
 intro pins s σ H xs us Q I r h
 obtain⟨a,vs,ds,T,rfl,ha,rd,ok,hl,few,q⟩:=h
 obtain⟨u,rfl,rx⟩:=vals1 r
 cases rx
 obtain⟨its,rv,pl,hz⟩:=I.list ha
 have le:=rv.length
 have ld:=rd.length
 obtain⟨as,ra⟩:=jQ I ds vs its rd rv
 have e2:X.A.in1.in1.units=X.A.units+1+1:=rfl
 have lt':its.length=ds.length:=by omega
 refine aem (by omega) pl.isList (alk ra ok (by omega) few) fun h' D p c x1 x2 x3 x4 x5=>?_
 rw [lt'] at x1 x2
 have hD:H D=none:=I.hok.fresh x3
 have lp:p.toList.length=ds.length:=by rw [apY];exact x1.size
 exact⟨.ref D,upd H D (.lst (pick .non p vs)),I.laid (t':=s.toks) x4 x3 ⟨by unfold pick;rw [apC];omega,pick Value.none p its,c,ah2 rv p,x5⟩,rfl,q D p hD x1 x2⟩
theorem ac6 {X:Cx} {K:apD} (hK:X.K=K) (hu:X.A.units+64<cLine):z9 X (.builtin "sorted") (ac4 K):=hK▸ac5 hu
section
variable {K:apD} {f:Fx} {ρ:zp} {P:List PyData->Prop} {te:TE}
theorem ajB (T:String) (h:PEd K f te ρ fun x=>∃ ds,x=.list ds/\SortOk T ds/\ds.length<=1000/\(ds.length<64 \/ ds.Pairwise fun d e=>ltD d e=true)/\∀ es,es.Perm ds->(es.Pairwise fun d e=>ltD d e=true)->P es) :
  PEdO K f (tCB (ac4 K) (zQ te yJ)) ρ P:=fun σ H Q e q=>h σ H _ e fun x v H1 g1 r1 ⟨ds,ex,ok,hl,few,p⟩=>by
 subst ex
 obtain⟨a,xs,rfl,h1,h2⟩:=rep_list.mp r1
 refine⟨a,xs,ds,T,rfl,(zh _ _).seq h1,Reps.mono (zh _ _) _ _ h2,ok,hl,few,fun l pm hn m u=>?_⟩
 have g2:Goes f H1 (upd H1 l (.lst (pick .non pm xs))):=.of_same (zI hn _) g1.2
 refine q (pick .none pm ds) l _ _ (g1.trans g2) (g1.free e.fd hn) zo (Reps.mono (fun b o hb=>?_) _ _ (ah3 h2 pm)) (p _ (ah4 m rfl) (alm m u))
 have hb':=zA hb
 have hbl:b≠l:=fun z=>by
  have:=hb'.2
  rw [z,hn] at this
  cases this
 refine zu (fun z=>?_) (by rw [zm hbl];exact hb'.2)
 rcases z with z | z
 ·exact hb'.1 (.inl z)
 ·rcases apK.mp z with z | z
  ·exact hbl z
  ·exact hb'.1 (.inr z)
end
end L2
end
section
namespace L2.ST
open PySem PySem.SetTable
noncomputable def aeo (xs:Array Nat):Prop:=∀ i j,i<j->j<xs.size->xs.getD i 0<xs.getD j 0
theorem ajC {xs:Array Nat} {i d e:Nat} (h:i<xs.size):xs.getD i d=xs.getD i e:=by simp [arI,h]
theorem abo {xs:Array Nat} {j:Nat}:∀ f lo hi,hi - lo<=f->lo<=hi->hi<=xs.size->(∀ i,i<lo->xs.getD i 0<j)->(∀ i,hi<=i->i<xs.size->j<=xs.getD i 0)->aeo xs ->
  lo<=below.go xs j f lo hi/\below.go xs j f lo hi<=hi/\(∀ i,i<below.go xs j f lo hi->xs.getD i 0<j)/\(∀ i,below.go xs j f lo hi<=i->i<xs.size->j<=xs.getD i 0)
 | 0,lo,hi,hf,hl,hh,a,b,r=>by
  obtain rfl:lo=hi:=by omega
  exact⟨apI _,apI _,a,b⟩
 | f+1,lo,hi,hf,hl,hh,a,b,r=>by
  unfold below.go
  by_cases h:lo<hi
  ·rw [if_pos h]
   have hm:(lo+hi) / 2<xs.size:=by omega
   simp only
   rw [ajC (e:=0) hm]
   by_cases h2:xs.getD ((lo+hi) / 2) 0<j
   ·rw [if_pos h2]
    have:=abo f ((lo+hi) / 2+1) hi (by omega) (by omega) hh (fun i hi'=>by
     by_cases e:i=(lo+hi) / 2
     ·rw [e];exact h2
     ·exact asd (r i _ (by omega) hm) h2) b r
    exact⟨by omega,this.2.1,this.2.2⟩
   ·rw [if_neg h2]
    have:=abo f lo ((lo+hi) / 2) (by omega) (by omega) (by omega) a (fun i hi' hs=>by
     by_cases e:i=(lo+hi) / 2
     ·rw [e];omega
     ·have:=r ((lo+hi) / 2) i (by omega) hs;omega) r
    exact⟨this.1,by omega,this.2.2⟩
  ·rw [if_neg h]
   obtain rfl:lo=hi:=by omega
   exact⟨apI _,apI _,a,b⟩
theorem aep {xs:Array Nat} (r:aeo xs) (j:Nat):below xs j<=xs.size/\(∀ i,i<below xs j->xs.getD i 0<j)/\(∀ i,below xs j<=i->i<xs.size->j<=xs.getD i 0):=by
 have:=abo (xs:=xs) (j:=j) xs.size 0 xs.size (by omega) (ap9 _) (apI _) (fun i hi=>absurd hi (aqR _)) (fun i a b=>by omega) r
 exact this.2
theorem below_at {xs:Array Nat} (r:aeo xs) {i:Nat} (hi:i<xs.size):below xs (xs.getD i 0)=i:=by
 obtain⟨a,b,c⟩:=aep r (xs.getD i 0)
 by_cases h:below xs (xs.getD i 0)<i
 ·have h1:=c _ (apI _) (by omega)
  have h2:=r _ i h hi
  omega
 ·by_cases h2:i<below xs (xs.getD i 0)
  ·have:=b i h2;omega
  ·omega
noncomputable def Tk (t:SetTable) (j:Nat):Prop:=∃ i,i<t.place.size/\t.place.getD i 0=j
theorem slot_live {t:SetTable} (r:aeo t.place) {i:Nat} (hi:i<t.place.size):t.slot (t.place.getD i 0)=.live i:=by
 unfold slot
 simp only
 rw [below_at r hi]
 have:(t.place[i]? == some (t.place.getD i 0))=true:=by simp [arI,hi]
 rw [if_pos this]
theorem ah5 {t:SetTable} (d:t.dummies=#[]) {j:Nat} (h:¬ Tk t j):t.slot j=.empty:=by
 unfold slot
 simp only
 have h1:¬ (t.place[below t.place j]? == some j)=true:=fun e=>h (by
  have e2:=eq_of_beq e
  obtain⟨hl,e3⟩:=Array.getElem?_eq_some_iff.mp e2
  exact⟨_,hl,by simp [arI,hl,e3]⟩)
 rw [if_neg h1]
 have h2:has t.dummies j=false:=by rw [d];rfl
 rw [h2]
 rfl
noncomputable def road (mask:Nat) (h:Int):Nat->Probe
 | 0=>{ j:=bits h % (mask+1),more:=runEnd mask (bits h % (mask+1)) - bits h % (mask+1),i:=bits h % (mask+1),perturb:=bits h,dummy:=none }
 | k+1=>if (road mask h k).more > 0 then { road mask h k with j:=(road mask h k).j+1,more:=(road mask h k).more - 1 } else
  { road mask h k with j:=(leap mask (road mask h k).i (road mask h k).perturb).1,more:=runEnd mask (leap mask (road mask h k).i (road mask h k).perturb).1 - (leap mask (road mask h k).i (road mask h k).perturb).1,i:=(leap mask (road mask h k).i (road mask h k).perturb).1,perturb:=(leap mask (road mask h k).i (road mask h k).perturb).2 }
theorem road_start (t:SetTable) (h:Int):t.probeStart h=road t.mask h 0:=rfl
theorem vI (mask:Nat) (h:Int):∀ k,(road mask h k).dummy=none
 | 0=>rfl
 | k+1=>by
  unfold road
  split
  ·exact vI mask h k
  ·exact vI mask h k
noncomputable abbrev pos (mask:Nat) (h:Int) (k:Nat):Nat:=(road mask h k).j
noncomputable def lp (mask:Nat) (h:Int):Nat->Nat×Nat
 | 0=>(bits h % (mask+1),bits h)
 | r+1=>leap mask (lp mask h r).1 (lp mask h r).2
theorem aal (mask i:Nat) (h:i<=mask):i<=runEnd mask i/\runEnd mask i<=mask/\runEnd mask i - i<=9:=by
 unfold runEnd
 split <;> omega
theorem aeq (mask:Nat) (h:Int):∀ r,(lp mask h r).1<=mask
 | 0=>asx.mp (Nat.mod_lt _ (asH _))
 | r+1=>asx.mp (Nat.mod_lt _ (asH _))
noncomputable def At (mask:Nat) (h:Int) (k r d:Nat):Prop:=d<=runEnd mask (lp mask h r).1 - (lp mask h r).1/\road mask h k={ j:=(lp mask h r).1+d,more:=runEnd mask (lp mask h r).1 - (lp mask h r).1 - d,i:=(lp mask h r).1,perturb:=(lp mask h r).2,dummy:=none }
theorem ac7 (mask:Nat) (h:Int):At mask h 0 0 0:=⟨ap9 _,rfl⟩
theorem agN {mask:Nat} {h:Int} {k r d:Nat} (a:At mask h k r d) (hd:d<runEnd mask (lp mask h r).1 - (lp mask h r).1):At mask h (k+1) r (d+1):=by
 obtain⟨a1,a2⟩:=a
 refine⟨hd,?_⟩
 unfold road
 rw [a2]
 simp only
 rw [if_pos (by omega)]
 simp only [Probe.mk.injEq,and_true]
 omega
theorem ac8 {mask:Nat} {h:Int} {k r d:Nat} (a:At mask h k r d) (hd:d=runEnd mask (lp mask h r).1 - (lp mask h r).1):At mask h (k+1) (r+1) 0:=by
 obtain⟨a1,a2⟩:=a
 refine⟨ap9 _,?_⟩
 unfold road
 rw [a2]
 simp only
 rw [if_neg (by omega)]
 rfl
theorem ac9 {mask:Nat} {h:Int} {k r:Nat} (a:At mask h k r 0):∀ d,d<=runEnd mask (lp mask h r).1 - (lp mask h r).1->At mask h (k+d) r d
 | 0,_=>a
 | d+1,hd=>agN (ac9 a d (by omega)) (by omega)
theorem aer (mask:Nat) (h:Int):∀ r,∃ k,k<=10 * r/\At mask h k r 0
 | 0=>⟨0,apI _,ac7 mask h⟩
 | r+1=>by
  obtain⟨k,hk,a⟩:=aer mask h r
  have:=(aal mask _ (aeq mask h r)).2.2
  exact⟨_,by omega,ac8 (ac9 a _ (apI _)) rfl⟩
theorem ajD (mask:Nat) (h:Int):∀ k,∃ r d,At mask h k r d
 | 0=>⟨0,0,ac7 mask h⟩
 | k+1=>by
  obtain⟨r,d,a⟩:=ajD mask h k
  by_cases e:d<runEnd mask (lp mask h r).1 - (lp mask h r).1
  ·exact⟨r,d+1,agN a e⟩
  ·exact⟨r+1,0,ac8 a (Nat.le_antisymm a.1 (by omega))⟩
theorem ada (mask:Nat) (h:Int) (k:Nat):pos mask h k<=mask:=by
 obtain⟨r,d,a1,a2⟩:=ajD mask h k
 unfold pos
 rw [a2]
 have:=aal mask _ (aeq mask h r)
 show (lp mask h r).1+d<=mask
 omega
noncomputable def stp (m i:Nat):Nat:=(i * 5+1) % m
noncomputable def itr (m:Nat):Nat->Nat->Nat
 | 0,i=>i
 | r+1,i=>stp m (itr m r i)
theorem vT (m:Nat) (a:Nat):∀ b i,itr m (a+b) i=itr m b (itr m a i)
 | 0,i=>rfl
 | b+1,i=>by show stp m (itr m (a+b) i)=stp m (itr m b (itr m a i));rw [vT m a b i]
noncomputable def orb (m:Nat):Nat->Nat->List Nat
 | 0,_=>[]
 | f+1,i=>i :: orb m f (stp m i)
theorem ajE (m:Nat):∀ f i r,r<f->(orb m f i)[r]?=some (itr m r i)
 | 0,_,_,h=>absurd h (aqR _)
 | f+1,i,0,_=>rfl
 | f+1,i,r+1,h=>by
  show (orb m f (stp m i))[r]?=_
  rw [ajE m f (stp m i) r (by omega),show r+1=1+r by omega,vT m 1 r i]
  rfl
noncomputable def jI (m:Nat):Bool:=(ap0 m).all (fun j=>(orb m m 0).contains j) && itr m m 0 == 0
theorem agO:jI 8=true:=by decide +kernel
theorem aes:jI 32=true:=by decide +kernel
theorem ace:jI 128=true:=by decide +kernel
theorem acf:jI 512=true:=by decide +kernel
theorem adb (m:Nat):∀ f i,(orb m f i).length=f
 | 0,_=>rfl
 | f+1,i=>by show (orb m f (stp m i)).length+1=f+1;rw [adb m f]
theorem aet {m:Nat} (h:jI m=true) {j:Nat} (hj:j<m):∃ r,r<m/\itr m r 0=j:=by
 unfold jI at h
 rw [apO] at h
 have:=aqU.mp h.1 j (aqa.mpr hj)
 have hm:j∈orb m m 0:=by simpa using this
 obtain⟨r,hr,e⟩:=arf hm
 rw [adb] at hr
 have e2:=ajE m m 0 r hr
 rw [apA (by rw [adb];exact hr),e] at e2
 exact⟨r,hr,(Option.some.inj e2).symm⟩
theorem agP {m:Nat} (h:jI m=true) {i j:Nat} (hi:i<m) (hj:j<m):∃ r,r<m/\itr m r i=j:=by
 obtain⟨a,ha,ea⟩:=aet h hi
 obtain⟨b,hb,eb⟩:=aet h hj
 have e0:itr m m 0=0:=by
  unfold jI at h
  rw [apO] at h
  exact eq_of_beq h.2
 by_cases hab:a<=b
 ·exact⟨b - a,by omega,by rw [<-ea,<- vT,show a+(b - a)=b by omega];exact eb⟩
 ·refine⟨m - a+b,by omega,?_⟩
  rw [<-ea,<- vT,show a+(m - a+b)=m+b by omega,vT,e0]
  exact eb
theorem agQ (mask:Nat) (h:Int):∀ r,(lp mask h r).2=bits h / 32 ^ r
 | 0=>by simp [lp]
 | r+1=>by
  show (lp mask h r).2 / 32=_
  rw [agQ mask h r,Nat.div_div_eq_div_mul,Nat.pow_succ]
theorem aln (h:Int):bits h<2 ^ 64:=by
 unfold bits
 have:=ark h (show (0:Int)<2 ^ 64 by decide)
 have:=asy h (show (2 ^ 64:Int)≠0 by decide)
 omega
theorem alo (mask:Nat) (h:Int) (r:Nat) (hr:13<=r):(lp mask h r).2=0:=by
 rw [agQ]
 refine Nat.div_eq_of_lt (ap2 (aln h) ?_)
 exact ap1 (show 2 ^ 64<=32 ^ 13 by decide) (atN (by decide) hr)
theorem afJ (mask:Nat) (h:Int):∀ r,(lp mask h (13+r)).1=itr (mask+1) r (lp mask h 13).1
 | 0=>rfl
 | r+1=>by
  show (leap mask (lp mask h (13+r)).1 (lp mask h (13+r)).2).1=stp (mask+1) (itr (mask+1) r (lp mask h 13).1)
  rw [alo mask h (13+r) (by omega),afJ mask h r]
  rfl
theorem ajF {mask:Nat} (g:jI (mask+1)=true) (h:Int) {j:Nat} (hj:j<=mask):∃ k,k<10 * turns mask/\pos mask h k=j:=by
 obtain⟨r,hr,e⟩:=agP g (i:=(lp mask h 13).1) (j:=j) (ase (aeq mask h 13)) (ase hj)
 obtain⟨k,hk,a1,a2⟩:=aer mask h (13+r)
 refine⟨k,by unfold turns;omega,?_⟩
 unfold pos
 rw [a2]
 show (lp mask h (13+r)).1+0=j
 rw [afJ,e]
 rfl
end L2.ST
end
section
namespace L2.ST
open PySem PySem.SetTable
structure TB (t:SetTable) (hs:List Int):Prop where
 mask:t.mask=7 \/ t.mask=31 \/ t.mask=127 \/ t.mask=511
 dum:t.dummies=#[]
 rise:aeo t.place
 le:∀ i,i<t.place.size->t.place.getD i 0<=t.mask
 size:t.place.size=hs.length
 most:hs.length<=t.mask
 reach:∀ i,i<hs.length->∃ k,pos t.mask (hs.getD i 0) k=t.place.getD i 0/\∀ k',k'<k->Tk t (pos t.mask (hs.getD i 0) k')
structure TOk (t:SetTable) (hs:List Int):Prop extends TB t hs where
 room:hs.length * 5<t.mask * 3
theorem anx {t:SetTable} {hs:List Int} (o:TB t hs):jI (t.mask+1)=true:=by
 rcases o.mask with e | e | e | e <;> rw [e]
 ·exact agO
 ·exact aes
 ·exact ace
 ·exact acf
theorem ah6 {t:SetTable} (r:aeo t.place) (hs:t.place.size<=t.mask):∃ j,j<=t.mask/\¬ Tk t j:=by
 refine aq1 fun no=>?_
 have all:∀ j,j<=t.mask->Tk t j:=fun j hj=>aq1 fun z=>no ⟨j,hj,z⟩
 have up:∀ j,j<=t.mask->j<=below t.place j/\below t.place j<t.place.size:=fun j=>by
  induction j with
  | zero =>
   intro hj
   obtain⟨i,hi,e⟩:=all 0 hj
   have:=below_at r hi
   rw [e] at this
   exact⟨ap9 _,by omega⟩
  | succ j ih =>
   intro hj
   obtain⟨i,hi,e⟩:=all (j+1) hj
   obtain⟨i',hi',e'⟩:=all j (by omega)
   have b1:=below_at r hi
   have b2:=below_at r hi'
   rw [e] at b1
   rw [e'] at b2
   have lt:i'<i:=by
    by_cases h:i'<i
    ·exact h
    ·by_cases h2:i'=i
     ·subst h2;omega
     ·have:=r i i' (by omega) hi';omega
   have:=ih (by omega)
   omega
 have:=up t.mask (apI _)
 omega
structure First (t:SetTable) (h:Int) (E:Nat):Prop where
 lt:E<10 * turns t.mask
 free:¬ Tk t (pos t.mask h E)
 ahead:∀ k,k<E->Tk t (pos t.mask h k)
theorem least {p:Nat->Prop}:∀ n,p n->∃ m,m<=n/\p m/\∀ k,k<m->¬ p k:=fun n=>by
 induction n using Nat.strongRecOn with
 | ind n ih =>
  intro h
  by_cases q:∃ k,k<n/\p k
  ·obtain⟨k,hk,pk⟩:=q
   obtain⟨m,a,b⟩:=ih k hk pk
   exact⟨m,by omega,b⟩
  ·exact⟨n,apI _,h,fun k hk z=>q ⟨k,hk,z⟩⟩
theorem ah7 {t:SetTable} (g:jI (t.mask+1)=true) (r:aeo t.place) (hs:t.place.size<=t.mask) (h:Int):∃ E,First t h E:=by
 obtain⟨j,hj,nj⟩:=ah6 r hs
 obtain⟨k,hk,e⟩:=ajF g h hj
 obtain⟨m,a,b,c⟩:=least (p:=fun k=>¬ Tk t (pos t.mask h k)) k (by show ¬ Tk t (pos t.mask h k);rw [e];exact nj)
 exact⟨m,by omega,b,fun q hq=>aq1 (c q hq)⟩
theorem first_of {t:SetTable} {hs:List Int} (o:TB t hs) (h:Int):∃ E,First t h E:=ah7 (anx o) o.rise (by have:=o.size;have:=o.most;omega) h
theorem probe_go {t:SetTable} (d:t.dummies=#[]) (r:aeo t.place) {hashAt:Nat->Int} {h:Int} {E:Nat} (F:First t h E):∀ f k,k<=E->E<k+f ->
  (probe.go t hashAt h f (road t.mask h k)=some (.empty (pos t.mask h E) none)/\∀ q i,k<=q->q<E->i<t.place.size->pos t.mask h q=t.place.getD i 0->hashAt i≠h) \/
  ∃ q i,k<=q/\q<E/\i<t.place.size/\pos t.mask h q=t.place.getD i 0/\hashAt i=h/\probe.go t hashAt h f (road t.mask h k)=some (.candidate (pos t.mask h q) i (road t.mask h (q+1)))/\∀ q' i',k<=q'->q'<q->i'<t.place.size->pos t.mask h q'=t.place.getD i' 0->hashAt i'≠h
 | 0,k,h1,h2=>by omega
 | f+1,k,h1,h2=>by
  unfold probe.go
  by_cases e:k=E
  ·subst e
   refine .inl ⟨?_,fun q i a b=>by omega⟩
   rw [ah5 d F.free]
   show some (Met.empty _ _)=_
   rw [vI]
  ·obtain⟨i,hi,ei⟩:=F.ahead k (by omega)
   have sl:t.slot (road t.mask h k).j=.live i:=by
    have:=slot_live r hi
    rw [ei] at this
    exact this
   rw [sl]
   show (if (hashAt i == h)=true then _ else _:Option Met)=_/\_ \/ _
   have uniq:∀ i',i'<t.place.size->pos t.mask h k=t.place.getD i' 0->i'=i:=fun i' hi' e'=>by
    have b1:=below_at r hi
    have b2:=below_at r hi'
    rw [ei] at b1
    rw [<-e'] at b2
    omega
   by_cases hh:(hashAt i == h)=true
   ·rw [if_pos hh]
    refine .inr ⟨k,i,apI _,by omega,hi,ei.symm,eq_of_beq hh,?_,fun q' i' a b=>by omega⟩
    show (if (hashAt i == h)=true then _ else _:Option Met)=_
    rw [if_pos hh]
    rfl
   ·rw [if_neg hh]
    have hne:hashAt i≠h:=fun z=>hh (by rw [z];exact beq_self_eq_true _)
    rcases probe_go d r (hashAt:=hashAt) F f (k+1) (by omega) (by omega) with⟨a,b⟩ | ⟨q,i2,a1,a2,a3,a4,a5,a6,a7⟩
    ·refine .inl ⟨a,fun q i' c1 c2 c3 c4=>?_⟩
     by_cases eq:q=k
     ·subst eq;rw [uniq i' c3 c4];exact hne
     ·exact b q i' (by omega) c2 c3 c4
    ·refine .inr ⟨q,i2,by omega,a2,a3,a4,a5,?_,fun q' i' c1 c2 c3 c4=>?_⟩
     ·show (if (hashAt i == h)=true then _ else _:Option Met)=_
      rw [if_neg hh]
      exact a6
     ·by_cases eq:q'=k
      ·subst eq;rw [uniq i' c3 c4];exact hne
      ·exact a7 q' i' (by omega) c2 c3 c4
end L2.ST
end
section
namespace L2.ST
open PySem PySem.SetTable
theorem vU {α:Type} (xs:Array α) (i:Nat) (d:α):xs.getD i d=xs.toList.getD i d:=by
 by_cases h:i<xs.size <;> simp [arI,h,auc]
theorem aeu {α:Type} (l:List α) (p:Nat) (x d:α) (hp:p<=l.length) (i:Nat):(l.take p++x :: l.drop p).getD i d=if i<p then l.getD i d else if i=p then x else l.getD (i - 1) d:=by
 have lt:(l.take p).length=p:=by rw [aqi];omega
 by_cases h1:i<p
 ·rw [if_pos h1,apF,apL (by omega),arZ h1,apF]
 ·rw [if_neg h1,apF,apQ (by omega),lt]
  by_cases h2:i=p
  ·rw [if_pos h2,h2,aqX]
   rfl
  ·rw [if_neg h2,show i - p=(i - p - 1)+1 by omega,List.getElem?_cons_succ,List.getElem?_drop,show p+(i - p - 1)=i - 1 by omega,apF]
section
variable {t:SetTable} {hs:List Int} {h:Int} {E:Nat}
theorem put_tb (o:TB t hs) (F:First t h E) (more:hs.length+1<=t.mask):below t.place (pos t.mask h E)<=hs.length/\TB (t.put (pos t.mask h E)).1 (hs.take (below t.place (pos t.mask h E))++h :: hs.drop (below t.place (pos t.mask h E))):=by
 obtain⟨b1,b2,b3⟩:=aep o.rise (pos t.mask h E)
 have sz:=o.size
 generalize hp:below t.place (pos t.mask h E)=p at *
 have hpl:p<=t.place.toList.length:=by rw [apY];exact b1
 have pl:∀ i,(t.put (pos t.mask h E)).1.place.getD i 0=if i<p then t.place.getD i 0 else if i=p then pos t.mask h E else t.place.getD (i - 1) 0:=fun i=>by
  show (insertAt t.place (below t.place (pos t.mask h E)) (pos t.mask h E)).getD i 0=_
  rw [hp,vU,ar0,aeu _ _ _ _ hpl,vU,vU]
 have psz:(t.put (pos t.mask h E)).1.place.size=t.place.size+1:=by
  show (insertAt t.place (below t.place (pos t.mask h E)) (pos t.mask h E)).size=_
  rw [<-apY,ar0,hp,apX,apT,aqi,arW,apY]
  omega
 have ne:∀ i,i<t.place.size->t.place.getD i 0≠pos t.mask h E:=fun i hi e=>F.free ⟨i,hi,e⟩
 have b3':∀ i,p<=i->i<t.place.size->pos t.mask h E<t.place.getD i 0:=fun i a b=>by
  have:=b3 i a b
  have:=ne i b
  omega
 have hm:(t.put (pos t.mask h E)).1.mask=t.mask:=rfl
 have tk:∀ j,Tk t j->Tk (t.put (pos t.mask h E)).1 j:=fun j ⟨i,hi,e⟩=>by
  by_cases q:i<p
  ·exact⟨i,by omega,by rw [pl,if_pos q];exact e⟩
  ·exact⟨i+1,by omega,by rw [pl,if_neg (by omega),if_neg (by omega),Nat.add_sub_cancel];exact e⟩
 have hl:∀ i,(hs.take p++h :: hs.drop p).getD i 0=if i<p then hs.getD i 0 else if i=p then h else hs.getD (i - 1) 0:=fun i=>aeu hs p h 0 (by omega) i
 have ln:(hs.take p++h :: hs.drop p).length=hs.length+1:=by
  rw [apX,apT,aqi,arW]
  omega
 refine⟨by omega,⟨o.mask,?_,fun i j hij hj=>?_,fun i hi=>?_,by rw [psz,ln,sz],by rw [ln,hm];exact more,fun i hi=>?_⟩⟩
 ·show (if has t.dummies (pos t.mask h E)=true then _ else t.dummies)=#[]
  rw [o.dum]
  rfl
 ·rw [pl,pl]
  rw [psz] at hj
  by_cases c1:i<p
  ·rw [if_pos c1]
   by_cases c2:j<p
   ·rw [if_pos c2];exact o.rise i j hij (by omega)
   ·rw [if_neg c2]
    by_cases c3:j=p
    ·rw [if_pos c3];exact b2 i c1
    ·rw [if_neg c3];exact o.rise i (j - 1) (by omega) (by omega)
  ·rw [if_neg c1,if_neg (show ¬ j<p by omega)]
   by_cases c3:i=p
   ·rw [if_pos c3,if_neg (by omega)];exact b3' (j - 1) (by omega) (by omega)
   ·rw [if_neg c3,if_neg (by omega)];exact o.rise (i - 1) (j - 1) (by omega) (by omega)
 ·rw [pl,hm]
  rw [psz] at hi
  by_cases c1:i<p
  ·rw [if_pos c1];exact o.le i (by omega)
  ·rw [if_neg c1]
   by_cases c3:i=p
   ·rw [if_pos c3];exact ada _ _ _
   ·rw [if_neg c3];exact o.le (i - 1) (by omega)
 ·rw [hl,pl,hm]
  rw [ln] at hi
  by_cases c1:i<p
  ·rw [if_pos c1,if_pos c1]
   obtain⟨k,e,a⟩:=o.reach i (by omega)
   exact⟨k,e,fun k' hk=>tk _ (a k' hk)⟩
  ·rw [if_neg c1,if_neg c1]
   by_cases c3:i=p
   ·rw [if_pos c3,if_pos c3]
    exact⟨E,rfl,fun k' hk=>tk _ (F.ahead k' hk)⟩
   ·rw [if_neg c3,if_neg c3]
    obtain⟨k,e,a⟩:=o.reach (i - 1) (by omega)
    exact⟨k,e,fun k' hk=>tk _ (a k' hk)⟩
end
noncomputable def Occ (ow:Array (Option Nat)) (j:Nat):Prop:=ow.getD j (some 0)≠none
theorem agR {mask:Nat} {ow:Array (Option Nat)} {h:Int}:∀ f r k,At mask h k r 0->(∃ r',r<=r'/\r'<r+f/\¬ Occ ow (lp mask h r').1) ->
  ∃ E,k<=E/\(∀ q,k<=q->q<E->Occ ow (pos mask h q))/\¬ Occ ow (pos mask h E)/\layClean.free mask ow f (lp mask h r).1 (lp mask h r).2=some (pos mask h E)
 | 0,r,k,a,⟨r',h1,h2,_⟩=>by omega
 | f+1,r,k,a,⟨r',h1,h2,h3⟩=>by
  have re:=aal mask _ (aeq mask h r)
  have at_:∀ d,d<=runEnd mask (lp mask h r).1 - (lp mask h r).1->pos mask h (k+d)=(lp mask h r).1+d:=fun d hd=>by
   have:=(ac9 a d hd).2
   unfold pos
   rw [this]
  unfold layClean.free
  cases hf:(ap0 (runEnd mask (lp mask h r).1+1 - (lp mask h r).1)).find? fun k=>(ow.getD ((lp mask h r).1+k) (some 0)).isNone with
  | some d =>
   have hm:=List.mem_of_find?_eq_some hf
   have hd:=aqa.mp hm
   have hs:=List.find?_some hf
   have bef:∀ d',d'<d->¬ (ow.getD ((lp mask h r).1+d') (some 0)).isNone=true:=fun d' hd'=>by
    obtain⟨_,as,bs,e,al⟩:=List.find?_eq_some_iff_append.mp hf
    have:as=ap0 d:=by
     have l1:(ap0 (runEnd mask (lp mask h r).1+1 - (lp mask h r).1))[as.length]?=some d:=by
      rw [e,apQ (apI _),aqX]
      rfl
     have lt:as.length<runEnd mask (lp mask h r).1+1 - (lp mask h r).1:=by
      have:=congrArg arq e
      simp at this
      omega
     rw [ary lt] at l1
     have el:as.length=d:=Option.some.inj l1
     have:as=(ap0 (runEnd mask (lp mask h r).1+1 - (lp mask h r).1)).take as.length:=by
      rw [e,List.take_append_of_le_length (apI _),aqC]
     rw [this,List.take_range,Nat.min_eq_left (by omega),el]
    have al2:=al d' (by rw [this];exact aqa.mpr hd')
    intro z
    have z2:(!(ow.getD ((lp mask h r).1+d') (some 0)).isNone)=true:=al2
    rw [z] at z2
    cases z2
   refine⟨k+d,by omega,fun q hq1 hq2=>?_,?_,?_⟩
   ·have:=bef (q - k) (by omega)
    rw [show q=k+(q - k) by omega,at_ (q - k) (by omega)]
    intro z
    rw [z] at this
    exact this rfl
   ·rw [at_ d (by omega)]
    intro z
    have hs':(ow.getD ((lp mask h r).1+d) (some 0)).isNone=true:=hs
    exact z (Option.isNone_iff_eq_none.mp hs')
   ·rw [at_ d (by omega)]
  | none =>
   have all:∀ d,d<runEnd mask (lp mask h r).1+1 - (lp mask h r).1->Occ ow ((lp mask h r).1+d):=fun d hd z=>by
    have:=List.find?_eq_none.mp hf d (aqa.mpr hd)
    simp [z] at this
   have ne:r'≠r:=fun z=>by
    rw [z] at h3
    exact h3 (by have:=all 0 (by omega);rwa [Nat.add_zero] at this)
   have a2:=ac8 (ac9 a _ (apI _)) rfl
   obtain⟨E,e1,e2,e3,e4⟩:=agR f (r+1) _ a2 ⟨r',by omega,by omega,h3⟩
   refine⟨E,by omega,fun q hq1 hq2=>?_,e3,e4⟩
   by_cases hq:q<k+(runEnd mask (lp mask h r).1 - (lp mask h r).1)+1
   ·rw [show q=k+(q - k) by omega,at_ (q - k) (by omega)]
    exact all _ (by omega)
   ·exact e2 q (by omega) hq2
end L2.ST
end
section
namespace L2.ST
open PySem PySem.SetTable
structure OwnT (mask:Nat) (ow:Array (Option Nat)) (hs:List Int) (sl:List Nat):Prop where
 size:ow.size=mask+1
 len:sl.length=hs.length
 nd:sl.Nodup
 le:∀ j∈sl,j<=mask
 own:∀ j,j<=mask->∀ i,ow.getD j none=some i↔sl[i]?=some j
 reach:∀ i,i<hs.length->∃ q,pos mask (hs.getD i 0) q=sl.getD i 0/\∀ q',q'<q->pos mask (hs.getD i 0) q'∈sl
theorem OwnT.occ {mask:Nat} {ow:Array (Option Nat)} {hs:List Int} {sl:List Nat} (o:OwnT mask ow hs sl) {j:Nat} (hj:j<=mask):Occ ow j↔j∈sl:=by
 have hs':j<ow.size:=by rw [o.size];omega
 have e:ow.getD j (some 0)=ow.getD j none:=by simp [arI,hs']
 unfold Occ
 rw [e]
 constructor
 ·intro h
  obtain⟨i,hi⟩:=Option.ne_none_iff_exists'.mp h
  exact apN ((o.own j hj i).mp hi)
 ·intro h z
  obtain⟨i,hi,e2⟩:=arf h
  have:=(o.own j hj i).mpr (by rw [apA hi,e2])
  rw [z] at this
  cases this
noncomputable def agS (mask:Nat):Option (Array (Option Nat)×Nat)->Int->Option (Array (Option Nat)×Nat):=fun acc h=>do
  let (owner,k) <- acc
  let j <- layClean.free mask owner (turns mask) (bits h % (mask+1)) (bits h)
  pure (owner.setIfInBounds j (some k),k+1)
theorem ajG {mask:Nat} (g:jI (mask+1)=true) {ow:Array (Option Nat)} {hs:List Int} {sl:List Nat} (o:OwnT mask ow hs sl) (hm:hs.length<=mask) (h:Int) :
  ∃ ow' sl',agS mask (some (ow,hs.length)) h=some (ow',hs.length+1)/\OwnT mask ow' (hs++[h]) sl':=by
 obtain⟨j,hj,nj⟩:∃ j,j<=mask/\j∉sl:=by
  refine aq1 fun no=>?_
  have sub:ap0 (mask+1) ⊆ sl:=fun j hj=>aq1 fun z=>no ⟨j,asx.mp (aqa.mp hj),z⟩
  have:=List.Nodup.length_le_of_subset atb sub
  rw [aqY,o.len] at this
  omega
 obtain⟨r,hr,e⟩:=agP g (i:=(lp mask h 13).1) (j:=j) (ase (aeq mask h 13)) (ase hj)
 obtain⟨E,_,e2,e3,e4⟩:=agR (ow:=ow) (turns mask) 0 0 (ac7 mask h) ⟨13+r,ap9 _,by unfold turns;omega,by rw [afJ,e,o.occ hj];exact nj⟩
 have e3':pos mask h E∉sl:=fun z=>e3 ((o.occ (ada mask h E)).mpr z)
 have e2':∀ q,q<E->pos mask h q∈sl:=fun q hq=>(o.occ (ada mask h q)).mp (e2 q (ap9 _) hq)
 have e4':layClean.free mask ow (turns mask) (bits h % (mask+1)) (bits h)=some (pos mask h E):=e4
 refine⟨ow.setIfInBounds (pos mask h E) (some hs.length),sl++[pos mask h E],?_,?_⟩
 ·show (layClean.free mask ow (turns mask) (bits h % (mask+1)) (bits h) >>= fun j=>pure (ow.setIfInBounds j (some hs.length),hs.length+1))=_
  rw [e4']
  rfl
 ·have ls:∀ i,(sl++[pos mask h E])[i]?=if i<sl.length then sl[i]? else if i=sl.length then some (pos mask h E) else none:=fun i=>by
   by_cases c:i<sl.length
   ·rw [if_pos c,apL c]
   ·rw [if_neg c,apQ (by omega)]
    by_cases c2:i=sl.length
    ·rw [if_pos c2,c2,aqX];rfl
    ·rw [if_neg c2];exact ap7 (by simp;omega)
  refine⟨by rw [Array.size_setIfInBounds];exact o.size,by simp [o.len],?_,fun j hj=>?_,fun j hj i=>?_,fun i hi=>?_⟩
  ·rw [ara]
   refine⟨o.nd,by simp,fun a ha b hb=>?_⟩
   rw [apS.mp hb]
   intro z
   rw [z] at ha
   exact e3' ha
  ·rcases apW.mp hj with hj | hj
   ·exact o.le j hj
   ·rw [apS.mp hj];exact ada _ _ _
  ·have hsz:j<ow.size:=by rw [o.size];omega
   rw [ls]
   by_cases c:j=pos mask h E
   ·subst c
    have:(ow.setIfInBounds (pos mask h E) (some hs.length)).getD (pos mask h E) none=some hs.length:=by simp [arI,hsz]
    rw [this]
    constructor
    ·intro z
     have z':hs.length=i:=Option.some.inj z
     rw [if_neg (by rw [o.len];omega),if_pos (by rw [o.len];omega)]
    ·intro z
     by_cases c2:i<sl.length
     ·rw [if_pos c2] at z
      exact absurd (apN z) e3'
     ·rw [if_neg c2] at z
      by_cases c3:i=sl.length
      ·rw [c3,o.len]
      ·rw [if_neg c3] at z;cases z
   ·have:(ow.setIfInBounds (pos mask h E) (some hs.length)).getD j none=ow.getD j none:=by
     rw [ari,ari,asm (aqP c)]
    rw [this,o.own j hj i]
    by_cases c2:i<sl.length
    ·rw [if_pos c2]
    ·rw [if_neg c2]
     constructor
     ·intro z
      rw [ap7 (by omega)] at z
      cases z
     ·intro z
      by_cases c3:i=sl.length
      ·rw [if_pos c3] at z
       exact absurd (Option.some.inj z).symm c
      ·rw [if_neg c3] at z;cases z
  ·have gl:∀ i,(hs++[h]).getD i 0=if i<hs.length then hs.getD i 0 else if i=hs.length then h else 0:=fun i=>by
    by_cases c:i<hs.length
    ·rw [if_pos c,apF,apL c,apF]
    ·rw [if_neg c,apF,apQ (by omega)]
     by_cases c2:i=hs.length
     ·rw [if_pos c2,c2,aqX];rfl
     ·rw [if_neg c2,ap7 (by simp;omega)];rfl
   rw [apX,aqw] at hi
   have gs:(sl++[pos mask h E]).getD i 0=((sl++[pos mask h E])[i]?).getD 0:=apF ..
   rw [gl,gs,ls]
   by_cases c:i<hs.length
   ·rw [if_pos c,if_pos (by rw [o.len];exact c)]
    obtain⟨q,a,b⟩:=o.reach i c
    exact⟨q,by rw [<-apF];exact a,fun q' hq=>aqT _ (b q' hq)⟩
   ·rw [if_neg c,if_pos (by omega),if_neg (by rw [o.len];omega),if_pos (by rw [o.len];omega)]
    exact⟨E,rfl,fun q' hq=>aqT _ (e2' q' hq)⟩
theorem agT {mask:Nat} (g:jI (mask+1)=true):∀ (l:List Int) (ow:Array (Option Nat)) (hs:List Int) (sl:List Nat),OwnT mask ow hs sl->hs.length+l.length<=mask+1 ->
  ∃ ow' sl',l.foldl (agS mask) (some (ow,hs.length))=some (ow',hs.length+l.length)/\OwnT mask ow' (hs++l) sl'
 | [],ow,hs,sl,o,_=>⟨ow,sl,rfl,by rw [aqe];exact o⟩
 | h :: l,ow,hs,sl,o,hm=>by
  rw [apT] at hm
  obtain⟨ow1,sl1,e1,o1⟩:=ajG g o (by omega) h
  obtain⟨ow2,sl2,e2,o2⟩:=agT g l ow1 (hs++[h]) sl1 o1 (by rw [apX,aqw];omega)
  refine⟨ow2,sl2,?_,by rw [aqI] at o2;exact o2⟩
  rw [List.foldl_cons,e1]
  rw [apX,aqw] at e2
  rw [e2,apT,as6,Nat.add_comm 1]
theorem alp (mask:Nat):OwnT mask (asz (mask+1) none) [] [] where
 size:=by simp
 len:=rfl
 nd:=.nil
 le:=fun _ h=>nomatch h
 own:=fun j hj i=>by
  have:(asz (mask+1) (none:Option Nat)).getD j none=none:=by simp [arI]
  rw [this]
  constructor <;> intro z <;> cases z
 reach:=fun i hi=>absurd hi (aqR _)
theorem ajH {mask:Nat} (g:jI (mask+1)=true) (hs:Array Int) (hm:hs.size<=mask+1):∃ ow sl,layClean mask hs=some ow/\OwnT mask ow hs.toList sl:=by
 obtain⟨ow,sl,e,o⟩:=agT g hs.toList _ [] [] (alp mask) (by simpa using hm)
 refine⟨ow,sl,?_,by simpa using o⟩
 unfold layClean
 rw [<-Array.foldl_toList]
 have:hs.toList.foldl (agS mask) (some (asz (mask+1) none,0))=some (ow,0+hs.toList.length):=e
 show Option.map _ (hs.toList.foldl (agS mask) (some (asz (mask+1) none,0)))=_
 rw [this]
 rfl
theorem laid_ok {mask:Nat} (mk:mask=7 \/ mask=31 \/ mask=127 \/ mask=511) (hs:Array Int) (hm:hs.size<=mask) (finger moves:Nat) (led plain:Bool) :
  ∃ t ord,laid mask finger moves led plain hs=some (t,ord)/\t.mask=mask/\t.plain=plain/\t.led=led/\ord.toList.Perm (ap0 hs.size)/\TB t (ord.toList.map fun i=>hs.toList.getD i 0):=by
 have g:jI (mask+1)=true:=by
  rcases mk with rfl | rfl | rfl | rfl
  ·exact agO
  ·exact aes
  ·exact ace
  ·exact acf
 obtain⟨ow,sl,e,o⟩:=ajH g hs (by omega)
 let live:=(ap0 (mask+1)).filterMap fun j=>(ow.getD j none).map (j,·)
 have mem:∀ p:Nat×Nat,p∈live↔p.1<=mask/\sl[p.2]?=some p.1:=fun⟨j,i⟩=>by
  show (j,i)∈List.filterMap _ _↔_
  rw [arF]
  constructor
  ·rintro⟨j',hj,e⟩
   have hj':=asx.mp (aqa.mp hj)
   cases e2:ow.getD j' none with
   | none=>rw [e2] at e;cases e
   | some i' =>
    rw [e2] at e
    cases e
    exact⟨hj',(o.own _ hj' _).mp e2⟩
  ·rintro⟨h1,h2⟩
   refine⟨j,aqa.mpr (by omega),?_⟩
   rw [(o.own j h1 i).mpr h2]
   rfl
 have up:(live.map (·.1)).Pairwise (·<·):=by
  rw [aru]
  show (List.filterMap _ _).Pairwise _
  rw [List.pairwise_filterMap]
  refine List.pairwise_lt_range.imp fun {a b} hab p hp q hq=>?_
  cases e1:ow.getD a none with
  | none=>rw [e1] at hp;cases hp
  | some i =>
   cases e2:ow.getD b none with
   | none=>rw [e2] at hq;cases hq
   | some i2 =>
    rw [e1] at hp
    rw [e2] at hq
    cases hp
    cases hq
    exact hab
 have nd2:(live.map (·.2)).Nodup:=by
  show List.Pairwise _ _
  rw [aru]
  have u2:=aru.mp up
  refine u2.imp_of_mem fun {p q} hp hq hlt hz=>?_
  have a1:=((mem p).mp hp).2
  have a2:=((mem q).mp hq).2
  rw [hz,a2] at a1
  have:=Option.some.inj a1
  omega
 have pm:(live.map (·.2)).Perm (ap0 hs.size):=by
  refine (List.perm_ext_iff_of_nodup nd2 atb).mpr fun i=>?_
  have ls:sl.length=hs.size:=by rw [o.len,apY]
  constructor
  ·intro hi
   obtain⟨p,hp,rfl⟩:=ap3.mp hi
   have:=(apE.mp ((mem p).mp hp).2).1
   exact aqa.mpr (by omega)
  ·intro hi
   have hi':=aqa.mp hi
   have hl:i<sl.length:=by omega
   exact ap3.mpr ⟨(sl[i],i),(mem _).mpr ⟨o.le _ (aqf hl),apA hl⟩,rfl⟩
 refine⟨_,_,by unfold laid;rw [e];rfl,rfl,rfl,rfl,pm,?_⟩
 have ln:live.length=hs.size:=by have:=pm.length_eq;rwa [apC,aqY] at this
 have tk:∀ j,j∈sl->∃ i,i<live.length/\(live.map (·.1)).getD i 0=j:=fun j hj=>by
  obtain⟨i,hi,e2⟩:=arf hj
  have:(j,i)∈live:=(mem _).mpr ⟨o.le j hj,by rw [apA hi,e2]⟩
  obtain⟨q,hq,e3⟩:=arf this
  exact⟨q,hq,by rw [apF,apM,apA hq,e3];rfl⟩
 have gd:∀ i,(live.map (·.1)).toArray.getD i 0=(live.map (·.1)).getD i 0:=fun i=>by rw [vU]
 refine⟨mk,rfl,fun i j hij hj=>?_,fun i hi=>?_,?_,?_,fun i hi=>?_⟩
 ·show (live.map (·.1)).toArray.getD i 0<(live.map (·.1)).toArray.getD j 0
  have hj':j<(live.map (·.1)).length:=by
   have h2:j<(live.map (·.1)).toArray.size:=hj
   rwa [apV] at h2
  rw [gd,gd,apF,apF,apA hj',apA (show i<(live.map (·.1)).length by omega)]
  exact aro.mp up i j (by omega) hj' hij
 ·show (live.map (·.1)).toArray.getD i 0<=mask
  have hi':i<(live.map (·.1)).length:=by
   have h2:i<(live.map (·.1)).toArray.size:=hi
   rwa [apV] at h2
  rw [gd,apF,apA hi']
  obtain⟨p,hp,e2⟩:=ap3.mp (aqf hi')
  show (live.map (·.1))[i]<=mask
  rw [<-e2]
  exact ((mem p).mp hp).1
 ·show (live.map (·.1)).toArray.size=_
  simp
 ·show (ash _ (live.map (·.2))).length<=mask
  rw [apC,apC,ln]
  exact hm
 ·have hi':i<live.length:=by
   have hi2:i<(ash (fun i=>hs.toList.getD i 0) (live.map (·.2))).length:=hi
   rwa [apC,apC] at hi2
  have pl:(live.map (·.1)).toArray.getD i 0=live[i].1:=by
   rw [gd,apF,apM,apA hi']
   rfl
  have hh:(ash (fun i=>hs.toList.getD i 0) (live.map (·.2))).getD i 0=hs.toList.getD live[i].2 0:=by
   rw [apF,apM,apM,apA hi']
   rfl
  have m2:=(mem live[i]).mp (aqf hi')
  have l2:=(apE.mp m2.2).1
  obtain⟨q,a,b⟩:=o.reach live[i].2 (by rw [<-o.len];exact l2)
  refine⟨q,?_,fun q' hq=>?_⟩
  ·show pos mask ((ash (fun i=>hs.toList.getD i 0) (live.map (·.2))).getD i 0) q=(live.map (·.1)).toArray.getD i 0
   rw [hh,pl,a,apF,m2.2]
   rfl
  ·show Tk _ (pos mask ((ash (fun i=>hs.toList.getD i 0) (live.map (·.2))).getD i 0) q')
   rw [hh]
   obtain⟨z,hz,ez⟩:=tk _ (b q' hq)
   exact⟨z,by show z<(live.map (·.1)).toArray.size;simpa using hz,by show (live.map (·.1)).toArray.getD z 0=_;rw [gd];exact ez⟩
end L2.ST
end
section
namespace L2
open PySem PySem.Spec PyProof.Rows
mutual
noncomputable def zv (w:World):PyData->Int
 | .int i=>hashInt i
 | .str x=>hashStr w x
 | .tuple xs=>reduceHash (arp (qQ w xs))
 | _=>0
noncomputable def qQ (w:World):List PyData->List Int
 | []=>[]
 | x :: xs=>zv w x :: qQ w xs
end
mutual
noncomputable def zY:PyData->Nat
 | .int _=>1
 | .str _=>1
 | .tuple xs=>abp xs+1
 | _=>0
noncomputable def abp:List PyData->Nat
 | []=>0
 | x :: xs=>zY x+abp xs
end
mutual
theorem abq {P:Program} {w:World}:∀ (d:PyData) (A:Around) (s:Shared) (v:Value) (as:List Addr) (E:Value->Shared->Prop) (Q:Int->Shared->Prop),Reads s.heap v d as->zz d=true->A.units+4 * d.depth<cLine ->
  Q (zv w d) { s with toks:=s.toks+zY d }->wpAny (model P w) A (pyHash v) Q E s
 | .int i,A,s,_,_,E,Q,r,_,_,q=>by
  cases r
  rw [zv,zY] at q
  exact wpAny_pyHash_int q
 | .str x,A,s,_,_,E,Q,r,_,_,q=>by
  cases r
  rw [zv,zY] at q
  exact wpAny_pyHash_str q
 | .tuple xs,A,s,_,_,E,Q,r,p,hu,q=>by
  cases r with
  | @tuple a o vs n _ as h1 h2 h3 h4 =>
   rw [zz] at p
   rw [zv,zY] at q
   have hT:s.TypeIs (.ref a) "tuple":=⟨o,h1,h2⟩
   have e1:(PyData.tuple xs).depth=apP xs+1:=rfl
   rw [e1] at hu
   show wpAny _ A (pyHashByItsType (.ref a)) Q E s
   unfold pyHashByItsType
   apply wpAny_bind;apply wpAny_cRoomFor_or (.inr (by omega))
   apply wpAny_bind;apply wpAny_specialOf hT arb.lookup
   show wpAny _ _ (if (some (Value.builtin "tuple.__hash__") == some Value.none)=true then _ else _) Q E s
   rw [if_neg (by rw [beq_builtin_none];exact apB)]
   apply wpAny_bind;apply wpAny_specialOf hT arb.lookup
   show wpAny _ _ (callSpecialIfBoundUnlessNone? (.ref a) "__hash__" _ >>= _) Q E s
   apply wpAny_bind
   refine wpAny_callSpecialIfBoundUnlessNone?_slot hT arb (wpAny_call_entry arb hT PySem.F.entry_tuple_hash ?_ (PySem.F.args_tuple_hash_1 _))
   show wpAny _ _ (Builtin.Tuple.tupleItemsOf (.ref a) >>= _) _ _ s
   apply wpAny_bind;apply wpAny_tupleItemsOf h1 h3
   apply wpAny_bind
   rw [<-ar5]
   have hu1:A.in1.units=A.units+1:=rfl
   refine abr xs A.in1 s vs.toList _ #[] _ _ h4 p (by omega) ?_
   simp only [aqe,List.nil_append]
   show wpAny _ _ (retInt (arp (#[]++(qQ w xs).toArray).toList)) _ _ _
   rw [show (#[]++(qQ w xs).toArray:Array Int).toList=qQ w xs by simp]
   refine wpAny_ret_mkInt ?_
   show wpAny _ _ (pyHashByItsType.reduced _) Q E _
   unfold reduceHash at q
   unfold pyHashByItsType.reduced
   by_cases hr:(decide (-(2:Int) ^ 63<=arp (qQ w xs)) && decide (arp (qQ w xs)<2 ^ 63))=true
   ·rw [if_pos hr] at q ⊢
    exact wpAny_pure (by simpa [as6] using q)
   ·rw [if_neg hr] at q ⊢
    exact wpAny_bind (wpAny_rule (wpAny_pure (by simpa [as6] using q)))
 | .none,_,_,_,_,_,_,_,h,_,_=>by cases h
 | .bool _,_,_,_,_,_,_,_,h,_,_=>by cases h
 | .list _,_,_,_,_,_,_,_,h,_,_=>by cases h
 | .dict _,_,_,_,_,_,_,_,h,_,_=>by cases h
theorem abr {P:Program} {w:World}:∀ (xs:List PyData) (A:Around) (s:Shared) (vs:List Value) (as:List Addr) (acc:Array Int) (E:Value->Shared->Prop) (Q:Array Int->Shared->Prop),ReadsAll s.heap vs xs as->zG xs=true->A.units+4 * apP xs<cLine ->
  Q (acc++(qQ w xs).toArray) { s with toks:=s.toks+abp xs }->wpAny (model P w) A (forIn vs acc fun x r=>do
   let h <- pyHash x
   pure (ForInStep.yield (r.push h))) Q E s
 | [],A,s,_,_,acc,E,Q,r,_,_,q=>by
  cases r
  rw [asa]
  rw [qQ,abp] at q
  exact wpAny_pure (by simpa using q)
 | x :: xs,A,s,_,_,acc,E,Q,r,p,hu,q=>by
  cases r with
  | cons r1 r2 =>
   rw [zG,apO] at p
   rw [qQ,abp] at q
   have e1:apP (x :: xs)=max x.depth (apP xs):=rfl
   rw [e1] at hu
   rw [ar3]
   apply wpAny_bind;apply wpAny_bind
   refine abq x A s _ _ _ _ r1 p.1 (by omega) (wpAny_pure ?_)
   refine abr xs A { s with toks:=s.toks+zY x } _ _ _ _ _ r2 p.2 (by omega) ?_
   have e2:acc.push (zv w x)++(qQ w xs).toArray=acc++(zv w x :: qQ w xs).toArray:=by simp
   rw [e2]
   rw [<-as6] at q
   exact q
end
mutual
theorem jS {P:Program} {w:World}:∀ (d:PyData) (n:Nat) (A:Around) (s:Shared) (v:Value) (as:List Addr) (E:Value->Shared->Prop) (Q:Bool->Shared->Prop),Reads s.heap v d as->zz d=true->d.depth<=n->Q true s->wpAny (model P w) A (eqIsQuiet n v) Q E s
 | .int i,n,A,s,_,_,E,Q,r,_,_,q=>by
  cases r
  rw [eqIsQuiet_byValue n rfl]
  exact wpAny_pure q
 | .str x,n,A,s,_,_,E,Q,r,_,_,q=>by
  cases r
  rw [eqIsQuiet_byValue n rfl]
  exact wpAny_pure q
 | .tuple xs,n,A,s,_,_,E,Q,r,p,hn,q=>by
  cases r with
  | @tuple a o vs n' _ as h1 h2 h3 h4 =>
   rw [zz] at p
   have e1:(PyData.tuple xs).depth=apP xs+1:=rfl
   rw [e1] at hn
   obtain⟨m,rfl⟩:∃ m,n=m+1:=⟨n - 1,by omega⟩
   have hT:s.TypeIs (.ref a) "tuple":=⟨o,h1,h2⟩
   unfold eqIsQuiet
   apply wpAny_bind;apply wpAny_specialOf hT PySem.F.slot_tuple_eq.lookup
   show wpAny _ _ (isInstance (.ref a) (.type "tuple") >>= _) _ _ s
   apply wpAny_bind;apply wpAny_isInstance hT isSubtype_tuple_tuple
   simp only [aqd,aqk,if_false]
   apply wpAny_bind;apply wpAny_seqItems h1 h3
   apply wpAny_bind
   show wpAny _ _ (forIn vs _ _) _ _ s
   rw [<-ar5]
   exact aaF xs m A s _ _ _ _ h4 p (by omega) (wpAny_pure q)
 | .none,_,_,_,_,_,_,_,_,h,_,_=>by cases h
 | .bool _,_,_,_,_,_,_,_,_,h,_,_=>by cases h
 | .list _,_,_,_,_,_,_,_,_,h,_,_=>by cases h
 | .dict _,_,_,_,_,_,_,_,_,h,_,_=>by cases h
theorem aaF {P:Program} {w:World}:∀ (xs:List PyData) (m:Nat) (A:Around) (s:Shared) (vs:List Value) (as:List Addr) (E:Value->Shared->Prop) (Q:Option Bool×Unit->Shared->Prop),ReadsAll s.heap vs xs as->zG xs=true->apP xs<=m->Q (none,()) s ->
  wpAny (model P w) A (forIn vs ((none,()):Option Bool×Unit) fun y _=>do
   let b <- eqIsQuiet m y
   if (!b)=true then pure (ForInStep.done (some false,())) else pure (ForInStep.yield (none,()))) Q E s
 | [],m,A,s,_,_,E,Q,r,_,_,q=>by
  cases r
  rw [asa]
  exact wpAny_pure q
 | x :: xs,m,A,s,_,_,E,Q,r,p,hn,q=>by
  cases r with
  | cons r1 r2 =>
   rw [zG,apO] at p
   have e1:apP (x :: xs)=max x.depth (apP xs):=rfl
   rw [e1] at hn
   rw [ar3]
   apply wpAny_bind;apply wpAny_bind
   refine jS x m A s _ _ _ _ r1 p.1 (by omega) ?_
   simp only [aqd,aqk,if_false]
   exact wpAny_pure (aaF xs m A s _ _ _ _ r2 p.2 (by omega) q)
end
mutual
theorem aam {P:Program} {w:World}:∀ (d:PyData) (n:Nat) (A:Around) (s:Shared) (v:Value) (as:List Addr) (E:Value->Shared->Prop) (Q:Bool->Shared->Prop),Reads s.heap v d as->zz d=true->d.depth<=n->Q false s->wpAny (model P w) A (ofAClassStatement n v) Q E s
 | .int i,n,A,s,_,_,E,Q,r,_,_,q=>by
  cases r
  unfold ofAClassStatement
  exact wpAny_pure q
 | .str x,n,A,s,_,_,E,Q,r,_,_,q=>by
  cases r
  unfold ofAClassStatement
  exact wpAny_pure q
 | .tuple xs,n,A,s,_,_,E,Q,r,p,hn,q=>by
  cases r with
  | @tuple a o vs n' _ as h1 h2 h3 h4 =>
   rw [zz] at p
   have e1:(PyData.tuple xs).depth=apP xs+1:=rfl
   rw [e1] at hn
   obtain⟨m,rfl⟩:∃ m,n=m+1:=⟨n - 1,by omega⟩
   have hT:s.TypeIs (.ref a) "tuple":=⟨o,h1,h2⟩
   unfold ofAClassStatement
   apply wpAny_bind;apply wpAny_typeOf hT
   dsimp only
   rw [if_pos (show ("tuple" == "tuple")=true from rfl)]
   apply wpAny_bind;apply wpAny_pure
   simp only [aqd,aqk,if_false]
   apply wpAny_bind;apply wpAny_seqItems h1 h3
   dsimp only
   apply wpAny_bind
   rw [<-ar5]
   exact acg xs m A s _ _ _ _ h4 p (by omega) (wpAny_pure q)
 | .none,_,_,_,_,_,_,_,_,h,_,_=>by cases h
 | .bool _,_,_,_,_,_,_,_,_,h,_,_=>by cases h
 | .list _,_,_,_,_,_,_,_,_,h,_,_=>by cases h
 | .dict _,_,_,_,_,_,_,_,_,h,_,_=>by cases h
theorem acg {P:Program} {w:World}:∀ (xs:List PyData) (m:Nat) (A:Around) (s:Shared) (vs:List Value) (as:List Addr) (E:Value->Shared->Prop) (Q:Option Bool×Unit->Shared->Prop),ReadsAll s.heap vs xs as->zG xs=true->apP xs<=m->Q (none,()) s ->
  wpAny (model P w) A (forIn vs ((none,()):Option Bool×Unit) fun y _=>do
   let b <- ofAClassStatement m y
   if b=true then pure (ForInStep.done (some true,())) else pure (ForInStep.yield (none,()))) Q E s
 | [],m,A,s,_,_,E,Q,r,_,_,q=>by
  cases r
  rw [asa]
  exact wpAny_pure q
 | x :: xs,m,A,s,_,_,E,Q,r,p,hn,q=>by
  cases r with
  | cons r1 r2 =>
   rw [zG,apO] at p
   have e1:apP (x :: xs)=max x.depth (apP xs):=rfl
   rw [e1] at hn
   rw [ar3]
   apply wpAny_bind;apply wpAny_bind
   refine aam x m A s _ _ _ _ r1 p.1 (by omega) ?_
   simp only [aqk,if_false]
   exact wpAny_pure (acg xs m A s _ _ _ _ r2 p.2 (by omega) q)
end
mutual
theorem aaG {P:Program} {w:World}:∀ (d:PyData) (n:Nat) (A:Around) (s:Shared) (v:Value) (as:List Addr) (E:Value->Shared->Prop) (Q:Bool->Shared->Prop),Reads s.heap v d as->zz d=true->(∀ b,Q b s)->wpAny (model P w) A (hashByValue n v) Q E s
 | .int i,n,A,s,_,_,E,Q,r,_,q=>by
  cases r
  unfold hashByValue
  exact wpAny_pure (q _)
 | .str x,n,A,s,_,_,E,Q,r,_,q=>by
  cases r
  unfold hashByValue
  exact wpAny_pure (q _)
 | .tuple xs,n,A,s,_,_,E,Q,r,p,q=>by
  cases r with
  | @tuple a o vs n' _ as h1 h2 h3 h4 =>
   rw [zz] at p
   have hT:s.TypeIs (.ref a) "tuple":=⟨o,h1,h2⟩
   cases n with
   | zero =>
    unfold hashByValue
    exact wpAny_pure (q _)
   | succ m =>
    unfold hashByValue
    apply wpAny_bind;apply wpAny_specialOf hT arb.lookup
    show wpAny _ _ (seqItems? (.ref a) >>= _) _ _ s
    apply wpAny_bind;apply wpAny_seqItems h1 h3
    apply wpAny_bind
    show wpAny _ _ (forIn vs _ _) _ _ s
    rw [<-ar5]
    exact aaH xs m A s _ _ _ _ h4 p (wpAny_pure (q _)) fun b=>wpAny_pure (q b)
 | .none,_,_,_,_,_,_,_,_,h,_=>by cases h
 | .bool _,_,_,_,_,_,_,_,_,h,_=>by cases h
 | .list _,_,_,_,_,_,_,_,_,h,_=>by cases h
 | .dict _,_,_,_,_,_,_,_,_,h,_=>by cases h
theorem aaH {P:Program} {w:World}:∀ (xs:List PyData) (m:Nat) (A:Around) (s:Shared) (vs:List Value) (as:List Addr) (E:Value->Shared->Prop) (Q:Option Bool×Unit->Shared->Prop),ReadsAll s.heap vs xs as->zG xs=true->Q (none,()) s->(∀ b,Q (some b,()) s) ->
  wpAny (model P w) A (forIn vs ((none,()):Option Bool×Unit) fun y _=>do
   let b <- hashByValue m y
   if (!b)=true then pure (ForInStep.done (some false,())) else pure (ForInStep.yield (none,()))) Q E s
 | [],m,A,s,_,_,E,Q,r,_,q,_=>by
  cases r
  rw [asa]
  exact wpAny_pure q
 | x :: xs,m,A,s,_,_,E,Q,r,p,q,q2=>by
  cases r with
  | cons r1 r2 =>
   rw [zG,apO] at p
   rw [ar3]
   apply wpAny_bind;apply wpAny_bind
   refine aaG x m A s _ _ _ _ r1 p.1 fun b=>?_
   cases b with
   | true =>
    simp only [aqd,aqk,if_false]
    exact wpAny_pure (aaH xs m A s _ _ _ _ r2 p.2 q q2)
   | false =>
    simp only [aq6,if_true]
    exact wpAny_pure (wpAny_pure (q2 false))
end
noncomputable instance decPy:DecidableEq PyData:=fun a b=>aqK _
structure KeyAt (h:Heap) (d:PyData) (a:Addr):Prop where
 rd:∃ as,Reads h (.ref a) d as
 pl:zz d=true
 dp:d.depth<=8
theorem KeyAt.keep {h h':Heap} {d:PyData} {a:Addr} (x:KeyAt h d a) (k:∀ b o,h.get? b=some o->(∀ es ep,o.data≠.dict es ep)->(∀ es ep t,o.data≠.set es ep t)->h'.get? b=some o):KeyAt h' d a:=by
 obtain⟨⟨as,r⟩,p,q⟩:=x
 refine⟨?_,p,q⟩
 have go:(∀ (d:PyData) (v:Value) (as:List Addr),Reads h v d as->zz d=true->Reads h' v d as):=by
  intro d v as r
  refine Reads.rec (motive_1:=fun v d as _=>zz d=true->Reads h' v d as) (motive_2:=fun vs ds as _=>zG ds=true->ReadsAll h' vs ds as) ?_ ?_ ?_ ?_ ?_ ?_ ?_ ?_ ?_ r
  ·intro p;cases p
  ·intro b p;cases p
  ·intro i t p;exact .int i t
  ·intro x t p;exact .str x t
  ·intro a o vs n xs as h1 h2 h3 h4 ih p;cases p
  ·intro a o vs n xs as h1 h2 h3 h4 ih p
   rw [zz] at p
   exact .tuple (k a o h1 (fun es ep z=>by rw [h3] at z;cases z) (fun es ep t z=>by rw [h3] at z;cases z)) h2 h3 (ih p)
  ·intros;rename_i p;cases p
  ·intro p;exact .nil
  ·intro v vs d ds as bs r rs ih1 ih2 p
   rw [zG,apO] at p
   exact .cons (ih1 p.1) (ih2 p.2)
 exact⟨as,go d _ as r p⟩
noncomputable def aaV (P:Program) (w:World):HeapKind P w PyData where
 is:=KeyAt
 hash:=zv w
 draws:=zY
 room:=fun A=>A.units+40<cLine
 inj:=fun {h a x y} hx hy=>by
  obtain⟨⟨as,r⟩,p,_⟩:=hx
  obtain⟨⟨bs,r'⟩,p',_⟩:=hy
  exact SeqAt.Reads.unique _ _ _ _ _ (yK x p) r r'
 keeps:=fun {h h' k a d o es ep} x ho hd sb=>x.keep fun b u hb n1 n2=>by
  have:b≠d:=fun z=>by
   rw [z,ho] at hb
   cases hb
   exact n1 es ep hd
  exact (sb.2 b this).trans hb
 pyHash:=fun {A E s k a Q} hu x q=>by
  obtain⟨⟨as,r⟩,p,hd⟩:=x
  exact abq k A s _ as E Q r p (by omega) q
 eqBool:=fun {A E s x y a b Q} hu hx hy q=>by
  obtain⟨⟨as,r⟩,p,hd⟩:=hx
  obtain⟨⟨bs,r'⟩,p',hd'⟩:=hy
  refine SeqAt.eqAt_reads x y A s _ _ _ _ r r' (yK x p) (yK y p') (by omega) P w E Q ?_
  have:aqc x y=decide (x=y):=by
   by_cases e:x=y
   ·rw [decide_eq_true e];exact (aaU p p').mpr e
   ·rw [decide_eq_false e]
    cases z:aqc x y with
    | false=>rfl
    | true=>exact absurd ((aaU p p').mp z) e
  rw [this]
  exact q
 quiet:=fun {A E s k a Q} x q=>by
  obtain⟨⟨as,r⟩,p,hd⟩:=x
  exact jS k 8 A s _ as E Q r p hd q
end L2
end
section
namespace L2
open PySem PySem.Spec PyProof.Rows PySem.SetTable
section
variable {P:Program} {w:World} {A:Around} {E:Value->Shared->Prop} {s:Shared}
theorem alq {b:Addr} {d:PyData} {Q:Bool->Shared->Prop} (kb:KeyAt s.heap d b):∀ l:List Value,(∀ y∈l,∃ d' b',y=.ref b'/\KeyAt s.heap d' b')->Q false s->wpAny (model P w) A (searchCouldBeSeen (.ref b) l) Q E s:=by
 intro l hl q
 unfold searchCouldBeSeen
 apply wpAny_bind
 refine wpAny_forIn_list _ (fun rest r s'=>r=(none,())/\s'=s/\∀ y∈rest,y∈l) _ ?_ ?_ _ _ ⟨rfl,rfl,fun _ h=>h⟩
 ·rintro y rest r s' ⟨rfl,rfl,hm⟩
  obtain⟨d',b',rfl,kb'⟩:=hl y (hm y apJ)
  obtain⟨⟨as,rd⟩,pd,dd⟩:=id kb
  obtain⟨⟨bs,rd'⟩,pd',dd'⟩:=id kb'
  have more:∀ z∈rest,z∈l:=fun z hz=>hm z (apG _ hz)
  dsimp only
  split
  ·exact wpAny_pure ⟨rfl,rfl,more⟩
  ·apply wpAny_bind
   refine jS d 8 A _ _ as _ _ rd pd dd ?_
   simp only [aqd,aqk,if_false]
   apply wpAny_bind
   refine jS d' 8 A _ _ bs _ _ rd' pd' dd' ?_
   simp only [aqd,aqk,if_false]
   apply wpAny_bind
   refine aam d 8 A _ _ as _ _ rd pd dd ?_
   simp only [aqk,if_false]
   apply wpAny_bind
   refine aam d' 8 A _ _ bs _ _ rd' pd' dd' ?_
   simp only [aqk,if_false]
   exact wpAny_pure ⟨rfl,rfl,more⟩
 ·rintro r s' ⟨rfl,rfl,_⟩
  exact wpAny_pure q
structure SetObj (w:World) (h:Heap) (a:Addr) (xs:List (PyData×Addr)) (o:Obj) (es:Array (Int×Value)) (ep:Nat) (t:SetTable):Prop where
 ob:h.get? a=some o
 ex:o.ExactSet
 da:o.data=.set es ep t
 el:es.toList=xs.map fun x=>(zv w x.1,Value.ref x.2)
 ok:ST.TOk t (xs.map fun x=>zv w x.1)
theorem SetObj.size {h:Heap} {a:Addr} {xs:List (PyData×Addr)} {o:Obj} {es:Array (Int×Value)} {ep:Nat} {t:SetTable} (x:SetObj w h a xs o es ep t):es.size=xs.length:=by
 rw [<-apY,x.el,apC]
theorem SetObj.fits {h:Heap} {a:Addr} {xs:List (PyData×Addr)} {o:Obj} {es:Array (Int×Value)} {ep:Nat} {t:SetTable} (x:SetObj w h a xs o es ep t):t.fits es.size=true:=by
 unfold SetTable.fits at5
 have h1:=x.ok.size
 have h2:=x.ok.most
 rw [apC] at h1 h2
 rw [x.size,h1,x.ok.dum]
 simp
 exact h2
theorem SetObj.at {h:Heap} {a:Addr} {xs:List (PyData×Addr)} {o:Obj} {es:Array (Int×Value)} {ep:Nat} {t:SetTable} (x:SetObj w h a xs o es ep t) {i:Nat} (hi:i<xs.length):es[i]?=some (zv w xs[i].1,Value.ref xs[i].2):=by
 rw [<-atw,x.el,apM,apA hi]
 rfl
theorem ajI {t:SetTable} {hs:List Int} (o:ST.TOk t hs):t.gaveWay=false:=by
 unfold SetTable.gaveWay
 rcases o.mask with e | e | e | e <;> rw [e] <;> rfl
theorem ajJ {α:Type} {M:Model} {c:Bool} {m:Sem Bool} {u:Sem Unit} {r:Sem α} {Q:α->Shared->Prop} (hr:wpAny M A r Q E s) (hm:∀ R:Bool->Shared->Prop,R false s->wpAny M A m R E s) :
  wpAny M A (if c=true then (do
   let b <- m
   if b=true then do
    u
    r
   else r) else r) Q E s:=by
 cases c with
 | false=>rw [if_neg apB];exact hr
 | true =>
  rw [if_pos rfl]
  apply wpAny_bind
  refine hm _ ?_
  rw [if_neg apB]
  exact hr
theorem aev {M:Model} {a:Addr} {Q:Bool->Shared->Prop} (q:Q true s):wpAny M A (isSame (.ref a) (.ref a)) Q E s:=by
 unfold isSame
 simp only [beq_self_eq_true]
 exact wpAny_pure q
theorem aan {a b:Addr} {d:PyData} {xs:List (PyData×Addr)} {o:Obj} {es:Array (Int×Value)} {ep:Nat} {t:SetTable} {adding:Bool} {Q:SetFound->Shared->Prop} (S:SetObj w s.heap a xs o es ep t) (ks:∀ x∈xs,KeyAt s.heap x.1 x.2)
  (kb:KeyAt s.heap d b) (hu:A.units+40<cLine) {F:Nat} (hF:ST.First t (zv w d) F) (yes:d∈xs.map (·.1)->∀ r:Option Nat,(adding=false->r.isSome=true)->Q (.there r) s) (no:d∉xs.map (·.1)->Q (.free (ST.pos t.mask (zv w d) F) false) s) :
  ∀ f k stand,k<=F->F<k+f->stand.getD (t.probeStart (zv w d))=ST.road t.mask (zv w d) k ->
   (∀ q i,q<k->i<xs.length->ST.pos t.mask (zv w d) q=t.place.getD i 0->(xs.getD i (.none,0)).1≠d) ->
   wpAny (model P w) A (setSearchFrom a (.ref b) (zv w d) adding f stand) Q E s
 | 0,k,stand,h1,h2,_,_=>by omega
 | f+1,k,stand,h1,h2,hst,past=>by
  have sz:=S.ok.size
  rw [apC] at sz
  have key:∀ g:Nat->Int,(∀ i,g i=(es[i]?.map (·.1)).getD 0) ->
    (t.probe g (zv w d) (ST.road t.mask (zv w d) k)=some (.empty (ST.pos t.mask (zv w d) F) none)/\∀ q i,k<=q->q<F->i<t.place.size->ST.pos t.mask (zv w d) q=t.place.getD i 0->g i≠zv w d) \/
    ∃ q i,k<=q/\q<F/\i<t.place.size/\ST.pos t.mask (zv w d) q=t.place.getD i 0/\g i=zv w d/\t.probe g (zv w d) (ST.road t.mask (zv w d) k)=some (.candidate (ST.pos t.mask (zv w d) q) i (ST.road t.mask (zv w d) (q+1)))/\∀ q' i',k<=q'->q'<q->i'<t.place.size->ST.pos t.mask (zv w d) q'=t.place.getD i' 0->g i'≠zv w d :=
   fun g _=>ST.probe_go S.ok.dum S.ok.rise hF (10 * turns t.mask) k h1 (by have:=hF.lt;omega)
  have gat:∀ i (hi:i<xs.length),(es[i]?.map (·.1)).getD 0=zv w xs[i].1:=fun i hi=>by rw [S.at hi];rfl
  unfold setSearchFrom
  apply wpAny_bind
  refine wpAny_setState_of S.ob S.da S.fits ?_
  dsimp only
  rw [ajI S.ok,if_neg apB,hst]
  have reach:∀ i (hi:i<xs.length),xs[i].1=d->∃ q,q<F/\ST.pos t.mask (zv w d) q=t.place.getD i 0:=fun i hi ed=>by
   obtain⟨q,a1,a2⟩:=S.ok.reach i (by rw [apC];exact hi)
   have eh:(xs.map fun x=>zv w x.1).getD i 0=zv w d:=by
    rw [apF,apM,apA hi,<- ed]
    rfl
   rw [eh] at a1 a2
   refine⟨q,?_,a1⟩
   by_cases c:q<F
   ·exact c
   ·by_cases c2:q=F
    ·subst c2
     exact absurd ⟨i,by omega,a1.symm⟩ hF.free
    ·exact absurd (a2 F (by omega)) hF.free
  have ggd:∀ i (hi:i<xs.length),xs.getD i (.none,0)=xs[i]:=fun i hi=>by rw [apF,apA hi];rfl
  rcases key (fun i=>(es[i]?.map (·.1)).getD 0) (fun i=>rfl) with⟨e,none_⟩ | ⟨q,i,q1,q2,q3,q4,q5,e,none_⟩
  ·have ee:∀ g:Nat->Int,(∀ i,g i=(es[i]?.map (·.1)).getD 0)->t.probe g (zv w d) (ST.road t.mask (zv w d) k)=some (.empty (ST.pos t.mask (zv w d) F) none):=fun g hg=>by
    rw [show g=fun i=>(es[i]?.map (·.1)).getD 0 from funext hg]
    exact e
   rw [ee]
   rotate_left
   ·exact fun i=>rfl
   dsimp only
   refine wpAny_pure (no fun hd=>?_)
   obtain⟨x,hx,ex⟩:=ap3.mp hd
   obtain⟨i,hi,ei⟩:=arf hx
   have ed:xs[i].1=d:=by rw [ei];exact ex
   obtain⟨q,qF,qp⟩:=reach i hi ed
   by_cases c:q<k
   ·exact past q i c hi qp (by rw [ggd i hi];exact ed)
   ·exact none_ q i (by omega) qF (by omega) qp (by rw [gat i hi,ed])
  ·have ee:∀ g:Nat->Int,(∀ i,g i=(es[i]?.map (·.1)).getD 0)->t.probe g (zv w d) (ST.road t.mask (zv w d) k)=some (.candidate (ST.pos t.mask (zv w d) q) i (ST.road t.mask (zv w d) (q+1))):=fun g hg=>by
    rw [show g=fun i=>(es[i]?.map (·.1)).getD 0 from funext hg]
    exact e
   have hi:i<xs.length:=by omega
   have mi:xs[i]∈xs:=aqf hi
   have ki:=ks _ mi
   rw [ee]
   rotate_left
   ·exact fun i=>rfl
   dsimp only
   refine ajJ ?_ fun R hR=>alq kb _ (fun y hy=>?_) hR
   rotate_left
   ·obtain⟨p,hp,rfl⟩:=ap3.mp hy
    have hp2:p∈es.toList:=by
     have:=arQ.mp hp
     exact arQ.mpr (Array.mem_filter.mp this).1
    rw [S.el] at hp2
    obtain⟨x,hx,rfl⟩:=ap3.mp hp2
    exact⟨x.1,x.2,rfl,ks x hx⟩
   rw [S.at hi]
   dsimp only
   apply wpAny_bind;apply wpAny_holding
   refine (aaV P w).eqBool (A:=A) hu ki kb ?_
   apply wpAny_bind
   refine wpAny_setState_of S.ob S.da S.fits ?_
   dsimp only
   have same:t.sameMemory t.moves t.mask=some true:=by
    unfold SetTable.sameMemory
    rw [if_pos (beq_self_eq_true _)]
   have live:t.slot (ST.pos t.mask (zv w d) q)=.live i:=by rw [q4];exact ST.slot_live S.ok.rise q3
   by_cases ed:xs[i].1=d
   ·have y2:=yes (ap3.mpr ⟨_,mi,ed⟩)
    rw [decide_eq_true ed]
    cases adding with
    | true=>exact wpAny_pure (y2 _ fun z=>nomatch z)
    | false =>
     rw [arj,if_neg apB,same]
     dsimp only
     rw [if_pos rfl,live]
     dsimp only
     rw [S.at hi]
     dsimp only
     apply wpAny_bind
     refine aev ?_
     apply wpAny_bind;apply wpAny_pure
     rw [if_pos rfl]
     dsimp only
     rw [if_pos rfl]
     exact wpAny_pure (y2 _ fun _=>rfl)
   ·rw [decide_eq_false ed,arT,if_neg apB,same]
    dsimp only
    rw [if_pos rfl,live]
    dsimp only
    rw [S.at hi]
    dsimp only
    apply wpAny_bind
    refine aev ?_
    apply wpAny_bind;apply wpAny_pure
    rw [if_pos rfl]
    dsimp only
    rw [if_neg apB]
    refine aan S ks kb hu hF yes no f (q+1) _ (by omega) (by omega) rfl fun q' i' c1 c2 c3=>?_
    rw [ggd i' c2]
    intro z
    by_cases c4:q'<k
    ·exact past q' i' c4 c2 c3 (by rw [ggd i' c2];exact z)
    ·by_cases c5:q'=q
     ·subst c5
      have ii:i'=i:=by
       have b1:=ST.below_at S.ok.rise (i:=i) (by omega)
       have b2:=ST.below_at S.ok.rise (i:=i') (by omega)
       rw [<-q4] at b1
       rw [<-c3] at b2
       omega
      subst ii
      exact ed z
     ·exact none_ q' i' (by omega) (by omega) (by omega) c3 (by rw [gat i' c2,z])
end
end L2
end
section
namespace L2
open PySem PySem.Spec PyProof.Rows PySem.SetTable
section
variable {P:Program} {w:World} {A:Around} {E:Value->Shared->Prop} {s:Shared} {a b:Addr} {d:PyData} {xs:List (PyData×Addr)} {o:Obj} {es:Array (Int×Value)} {ep:Nat} {t:SetTable}
theorem SetObj.type (S:SetObj w s.heap a xs o es ep t):s.TypeIs (.ref a) "set":=⟨o,S.ob,S.ex.1⟩
theorem agU (b:Addr) (es:Array (Int×Value)):byScan (.ref b) es=false:=rfl
theorem aew {Q:Bool->Shared->Prop} (S:SetObj w s.heap a xs o es ep t) (ks:∀ x∈xs,KeyAt s.heap x.1 x.2) (kb:KeyAt s.heap d b) (hu:A.units+60<cLine) (q:Q (decide (d∈xs.map (·.1))) { s with toks:=s.toks+zY d }) :
  wpAny (model P w) A (contains (.ref a) (.ref b)) Q E s:=by
 obtain⟨F,hF⟩:=ST.first_of S.ok.toTB (zv w d)
 have hl:=hF.lt
 have ht:turns t.mask<=526:=by
  unfold turns
  rcases S.ok.mask with e | e | e | e <;> omega
 unfold contains
 try with_reducible refine wpAny_holding ?_
 apply wpAny_bind;apply wpAny_specialOf S.type arX.lookup
 show wpAny _ _ (if (some (Value.builtin "set.__contains__") == some Value.none)=true then _ else _) _ E s
 rw [if_neg (by rw [beq_builtin_none];exact apB)]
 apply wpAny_bind
 refine wpAny_callSpecialUnlessNone?_slot (name:=aqh "__contains__") S.type arX (wpAny_call_entry arX S.type entry_set_contains ?_ (PySem.F.args_set_contains_2 _ _))
 unfold Builtin.«frozenset.__contains__» asO
 simp only [List.isEmpty_nil,bind_assoc]
 unfold as7 Builtin.Frozenset.withSetAsKey setContains
 apply wpAny_bind;apply wpAny_pure
 dsimp only
 apply wpAny_bind;apply wpAny_pure
 dsimp only
 apply wpAny_bind;apply wpAny_tryCatch;apply wpAny_holding
 apply wpAny_bind
 have hu1:A.in1.units=A.units+1:=rfl
 have hu2:A.in1.in1.units=A.units+1+1:=rfl
 refine (aaV P w).pyHash (by show _+40<cLine;omega) kb ?_
 apply wpAny_bind
 unfold setFind setFindIn
 apply wpAny_bind
 refine wpAny_setState_of (s:={ s with toks:=s.toks+zY d }) S.ob S.da S.fits ?_
 dsimp only
 rw [agU,if_neg apB]
 apply wpAny_bind
 unfold setSearch
 have fin:∀ r:Option Nat,r.isSome=decide (d∈xs.map (·.1))->∀ R:Value->Shared->Prop,R (.bool (decide (d∈xs.map (·.1)))) { s with toks:=s.toks+zY d }->R (.bool r.isSome) { s with toks:=s.toks+zY d }:=fun r e R hR=>by rw [e];exact hR
 refine aan (s:={ s with toks:=s.toks+zY d }) (adding:=false) S ks kb (by omega) hF (fun hd r hr=>?_) (fun hd=>?_) 100000 0 none (ap9 _) (by omega) (ST.road_start t _) (fun q i c=>by omega)
 ·refine wpAny_pure (wpAny_pure ?_)
  show wpAny _ _ (ret (Value.bool r.isSome)) _ _ _
  rw [hr rfl]
  rw [decide_eq_true hd] at q
  exact wpAny_pure ⟨_,rfl,wpAny_truthy_bool q⟩
 ·refine wpAny_pure (wpAny_pure ?_)
  show wpAny _ _ (ret (Value.bool false)) _ _ _
  rw [decide_eq_false hd] at q
  exact wpAny_pure ⟨_,rfl,wpAny_truthy_bool q⟩
noncomputable def agV (es:Array (Int×Value)) (laid:Option (SetTable×Array Nat)):Sem (Array (Int×Value)×SetTable):=do
 let some (t,order):=laid | unsupported "internal:set-table-without-room"
 let es':=order.filterMap (es[·]?)
 if es'.size != es.size then unsupported "internal:set-table-lost-an-element"
 pure (es',t)
theorem ajK (a:Addr) (wanted:Nat):setRelay a wanted=(do
  let (es,_,t) <- setState a
  if asP wanted > sizeLine then unsupported "set:memory"
  let (es,t) <- agV es (t.relaid (es.map (·.1)) wanted)
  storeSet a es t):=rfl
theorem vA {α:Type} (es:Array α):∀ l:List Nat,(∀ i∈l,i<es.size)->∀ dflt:α,l.filterMap (fun i=>es[i]?)=l.map fun i=>es.toList.getD i dflt
 | [],_,_=>rfl
 | i :: l,h,dflt=>by
  have hi:=h i apJ
  rw [aqZ,asU hi,apZ,vA es l (fun j hj=>h j (apG _ hj)) dflt]
  simp [hi]
theorem ajL {Q:Unit->Shared->Prop} {mask wanted:Nat} (S0:s.heap.get? a=some o) (ex:o.ExactSet) (da:o.data=.set es ep t) (el:es.toList=xs.map fun x=>(zv w x.1,Value.ref x.2)) (tb:ST.TB t (xs.map fun x=>zv w x.1)) (mk:mask=31 \/ mask=127 \/ mask=511) (hw:asP wanted=mask+1)
  (room:xs.length * 5<mask * 3) (q:∀ xs' o' es' ep' t' h',xs'.Perm xs->arE a s.heap h'->SetObj w h' a xs' o' es' ep' t'->Q () { s with heap:=h' }):wpAny (model P w) A (setRelay a wanted) Q E s:=by
 have sz:es.size=xs.length:=by rw [<-apY,el,apC]
 have fits:t.fits es.size=true:=by
  unfold SetTable.fits at5
  have h1:=tb.size
  have h2:=tb.most
  rw [apC] at h1 h2
  rw [sz,h1,tb.dum]
  simp
  exact h2
 have mk2:mask=7 \/ mask=31 \/ mask=127 \/ mask=511:=.inr mk
 obtain⟨t2,ord,e1,e2,_,_,pm,tb2⟩:=ST.laid_ok mk2 (es.map (·.1)) (by rw [atM,sz];omega) t.finger (t.movedTo mask) t.led t.plain
 rw [atM] at pm
 have hlt:∀ i∈ord.toList,i<es.size:=fun i hi=>aqa.mp (pm.mem_iff.mp hi)
 let xs':=ord.toList.map fun i=>xs.getD i (.none,0)
 have px:xs'.Perm xs:=by
  have e:(ap0 es.size).map (fun i=>xs.getD i (.none,0))=xs:=by
   rw [sz]
   refine asb fun i=>?_
   rw [apM]
   by_cases hi:i<xs.length
   ·rw [ary hi,apA hi]
    simp [hi]
   ·rw [ap7 (by simp;omega),ap7 (by omega)]
    rfl
  have:=pm.map fun i=>xs.getD i (.none,0)
  rw [e] at this
  exact this
 have ee:(ord.filterMap (es[·]?)).toList=xs'.map fun x=>(zv w x.1,Value.ref x.2):=by
  rw [Array.toList_filterMap,vA es ord.toList hlt (0,Value.none),aqJ]
  refine arh fun i hi=>?_
  have h2:=hlt i hi
  have h3:i<xs.length:=by omega
  rw [el,apF,apM,apA h3]
  show _=(zv w (xs.getD i (.none,0)).1,Value.ref (xs.getD i (.none,0)).2)
  rw [apF,apA h3]
  rfl
 have es_sz:(ord.filterMap (es[·]?)).size=es.size:=by
  rw [<-apY,ee,apC,px.length_eq,sz]
 have tok:ST.TOk t2 (xs'.map fun x=>zv w x.1):=by
  have eh:(ord.toList.map fun i=>(es.map (·.1)).toList.getD i 0)=xs'.map fun x=>zv w x.1:=by
   rw [aqJ]
   refine arh fun i hi=>?_
   have h3:i<xs.length:=by have:=hlt i hi;omega
   rw [Array.toList_map,el,aqJ,apF,apM,apA h3]
   show zv w xs[i].1=zv w (xs.getD i (.none,0)).1
   rw [apF,apA h3]
   rfl
  rw [eh] at tb2
  refine⟨tb2,?_⟩
  rw [apC,px.length_eq,e2]
  exact room
 rw [ajK]
 apply wpAny_bind
 refine wpAny_setState_of S0 da fits ?_
 dsimp only
 rw [hw,if_neg (by rw [sizeLine_eq];omega)]
 have e1':t.relaid (es.map (·.1)) wanted=some (t2,ord):=by
  unfold SetTable.relaid
  rw [hw]
  exact e1
 unfold agV
 rw [e1']
 apply wpAny_bind
 dsimp only
 rw [es_sz,bne_self_eq_false,if_neg apB]
 apply wpAny_pure
 dsimp only
 refine wpAny_storeSet_of S0 da ?_ (by rw [es_sz,sz,sizeLine_eq];omega)
 refine q xs' { o with data:=.set (ord.filterMap (es[·]?)) (ep+1) t2 } (ord.filterMap (es[·]?)) (ep+1) t2 _ px (atX _ _ _) ⟨?_,ex,rfl,ee,tok⟩
 have:=aq2 (atm (ord.filterMap (es[·]?)) t2) S0 (by rw [putSet_of _ _ da];rfl)
 rw [putSet_of _ _ da] at this
 exact this
theorem ajM {t:SetTable} {hs:List Int} {p:Bool} (x:ST.TB t hs):ST.TB { t with plain:=p } hs:=⟨x.mask,x.dum,x.rise,x.le,x.size,x.most,x.reach⟩
theorem alr {Q:Shared->Prop} (S:SetObj w s.heap a xs o es ep t) (ks:∀ x∈xs,KeyAt s.heap x.1 x.2) (kb:KeyAt s.heap d b) (hu:A.units+59<cLine) (few:xs.length<300)
  (old:d∈xs.map (·.1)->Q { s with toks:=s.toks+zY d })
  (new:d∉xs.map (·.1)->∀ xs' o' es' ep' t' h',xs'.Perm ((d,b) :: xs)->arE a s.heap h'->SetObj w h' a xs' o' es' ep' t'->Q { s with heap:=h',toks:=s.toks+zY d }) :
  wpAny (model P w) A (setAdd a (.ref b)) (fun _ s'=>Q s') E s:=by
 obtain⟨F,hF⟩:=ST.first_of S.ok.toTB (zv w d)
 have hl:=hF.lt
 have ht:turns t.mask<=526:=by
  unfold turns
  rcases S.ok.mask with e | e | e | e <;> omega
 have room:=S.ok.room
 rw [apC] at room
 unfold setAdd
 apply wpAny_holding
 apply wpAny_bind
 refine (aaV P w).pyHash (by show _+40<cLine;omega) kb ?_
 show wpAny _ _ (setAddHashed a (.ref b) (zv w d)) _ _ _
 unfold setAddHashed setAddHashedIn
 apply wpAny_holding
 apply wpAny_bind
 refine wpAny_setState_of (s:={ s with toks:=s.toks+zY d }) S.ob S.da S.fits ?_
 dsimp only
 rw [agU,if_neg apB]
 apply wpAny_bind
 unfold setSearch
 refine aan (s:={ s with toks:=s.toks+zY d }) (adding:=true) S ks kb (by omega) hF (fun hd r _=>?_) (fun hd=>?_) 100000 0 none (ap9 _) (by omega) (ST.road_start t _) (fun q i c=>by omega)
 ·exact wpAny_pure (old hd)
 ·dsimp only
  apply wpAny_bind
  refine wpAny_setState_of (s:={ s with toks:=s.toks+zY d }) S.ob S.da S.fits ?_
  dsimp only
  obtain⟨hp,tb⟩:=ST.put_tb S.ok.toTB hF (by rw [apC];rcases S.ok.mask with e | e | e | e <;> rw [e] at room ⊢ <;> omega)
  rw [apC] at hp
  have ep2:(t.put (ST.pos t.mask (zv w d) F)).2=below t.place (ST.pos t.mask (zv w d) F):=rfl
  rw [ep2]
  generalize below t.place (ST.pos t.mask (zv w d) F)=p at *
  have pm:(xs.take p++(d,b) :: xs.drop p).Perm ((d,b) :: xs):=by
   refine List.perm_middle.trans ?_
   rw [aso]
  have el:(insertAt es p (zv w d,Value.ref b)).toList=(xs.take p++(d,b) :: xs.drop p).map fun x=>(zv w x.1,Value.ref x.2):=by
   rw [ar0,S.el,ap6,apZ,List.map_take,List.map_drop]
  have eh:(xs.map fun x=>zv w x.1).take p++zv w d :: (xs.map fun x=>zv w x.1).drop p=(xs.take p++(d,b) :: xs.drop p).map fun x=>zv w x.1:=by
   rw [ap6,apZ,List.map_take,List.map_drop]
  rw [eh] at tb
  have ln:(xs.take p++(d,b) :: xs.drop p).length=xs.length+1:=by rw [pm.length_eq];rfl
  have sze:(insertAt es p (zv w d,Value.ref b)).size=xs.length+1:=by rw [<-apY,el,apC,ln]
  have step:∀ bv:Bool,∀ t2,t2=(if bv=true then (t.put (ST.pos t.mask (zv w d) F)).1 else { (t.put (ST.pos t.mask (zv w d) F)).1 with plain:=false }) ->
    ST.TB t2 ((xs.take p++(d,b) :: xs.drop p).map fun x=>zv w x.1)/\t2.mask=t.mask:=fun bv t2 e=>by
   subst e
   cases bv with
   | true=>exact⟨tb,rfl⟩
   | false=>exact⟨ajM tb,rfl⟩
  have tail:∀ bv:Bool,wpAny (model P w) A (do
    storeSet a (insertAt es p (zv w d,Value.ref b)) (if bv=true then (t.put (ST.pos t.mask (zv w d) F)).1 else { (t.put (ST.pos t.mask (zv w d) F)).1 with plain:=false })
    if (!false && (if bv=true then (t.put (ST.pos t.mask (zv w d) F)).1 else { (t.put (ST.pos t.mask (zv w d) F)).1 with plain:=false }).tooFull)=true then do
     setRelay a (SetTable.grown (es.size+1))
     pure true
    else pure true) (fun _ s'=>Q s') E { s with toks:=s.toks+zY d }:=fun bv=>by
   obtain⟨tb2,em⟩:=step bv _ rfl
   generalize (if bv=true then (t.put (ST.pos t.mask (zv w d) F)).1 else { (t.put (ST.pos t.mask (zv w d) F)).1 with plain:=false })=t2 at *
   apply wpAny_bind
   refine wpAny_storeSet_of (s:={ s with toks:=s.toks+zY d }) S.ob S.da ?_ (by rw [sze,sizeLine_eq];omega)
   have g:(s.heap.update a (atm (insertAt es p (zv w d,Value.ref b)) t2)).get? a=some { o with data:=.set (insertAt es p (zv w d,Value.ref b)) (ep+1) t2 }:=by
    have:=aq2 (atm (insertAt es p (zv w d,Value.ref b)) t2) S.ob (by rw [putSet_of _ _ S.da];rfl)
    rw [putSet_of _ _ S.da] at this
    exact this
   have sb:=atX s.heap a (atm (insertAt es p (zv w d,Value.ref b)) t2)
   have fill:t2.tooFull=decide ((xs.length+1) * 5 >= t.mask * 3):=by
    unfold SetTable.tooFull at5
    have h1:=tb2.size
    rw [apC,ln] at h1
    rw [h1,tb2.dum,em]
    rfl
   rw [aq6,aqW,fill]
   by_cases full:(xs.length+1) * 5 >= t.mask * 3
   ·rw [if_pos (decide_eq_true full),S.size]
    have:∃ mask,(mask=31 \/ mask=127 \/ mask=511)/\asP (SetTable.grown (xs.length+1))=mask+1/\(xs.length+1) * 5<mask * 3:=by
     rcases S.ok.mask with e | e | e | e
     ·rw [e] at room full
      have:xs.length=4:=by omega
      rw [this]
      exact⟨31,.inl rfl,by decide,by decide⟩
     ·rw [e] at room full
      have:xs.length=18:=by omega
      rw [this]
      exact⟨127,.inr (.inl rfl),by decide,by decide⟩
     ·rw [e] at room full
      have:xs.length=76:=by omega
      rw [this]
      exact⟨511,.inr (.inr rfl),by decide,by decide⟩
     ·rw [e] at room full
      omega
    obtain⟨mask,mk,hw,rm⟩:=this
    apply wpAny_bind
    refine ajL (s:={ s with heap:=s.heap.update a (atm (insertAt es p (zv w d,Value.ref b)) t2),toks:=s.toks+zY d }) (o:={ o with data:=.set (insertAt es p (zv w d,Value.ref b)) (ep+1) t2 }) g S.ex rfl el tb2 mk hw (by rw [ln];exact rm) fun xs' o' es' ep' t' h' px sb' S'=>wpAny_pure ?_
    exact new hd xs' o' es' ep' t' h' (px.trans pm) (sb.trans sb') S'
   ·rw [if_neg (by rw [decide_eq_false full];exact apB)]
    refine wpAny_pure (new hd _ _ _ _ _ _ pm sb ⟨g,S.ex,rfl,el,⟨tb2,?_⟩⟩)
    rw [apC,ln,em]
    omega
  obtain⟨as,rd⟩:=kb.rd
  split
  ·apply wpAny_bind
   exact aaG d 8 _ { s with toks:=s.toks+zY d } _ as _ _ rd kb.pl fun bv=>tail bv
  ·apply wpAny_bind;apply wpAny_pure
   exact tail true
theorem anz {Q:Value->Shared->Prop} (S:SetObj w s.heap a xs o es ep t) (ks:∀ x∈xs,KeyAt s.heap x.1 x.2) (kb:KeyAt s.heap d b) (hu:A.units+60<cLine) (few:xs.length<300)
  (old:d∈xs.map (·.1)->Q .none { s with toks:=s.toks+zY d })
  (new:d∉xs.map (·.1)->∀ xs' o' es' ep' t' h',xs'.Perm ((d,b) :: xs)->arE a s.heap h'->SetObj w h' a xs' o' es' ep' t'->Q .none { s with heap:=h',toks:=s.toks+zY d }) :
  wpAny (model P w) A (call (.builtin "set.add") [.ref a,.ref b]) Q E s:=by
 refine wpAny_call_entry atO S.type PySem.F.entry_set_add ?_ (PySem.F.args_set_add_2 _ _)
 unfold Builtin.«set.add» asO
 simp only [List.isEmpty_nil,bind_assoc]
 unfold as7
 apply wpAny_bind;apply wpAny_pure
 try dsimp only
 apply wpAny_bind;apply wpAny_pure
 try dsimp only
 apply wpAny_bind
 have hu1:A.in1.units=A.units+1:=rfl
 refine alr (Q:=fun s'=>wpAny (model P w) A.in1 (ret Value.none) (fun fin s'=>∃ r,fin=.done (.ret r)/\Q r s') E s') S ks kb (by omega) few (fun hd=>wpAny_pure ⟨_,rfl,old hd⟩) fun hd xs' o' es' ep' t' h' p1 p2 p3=>wpAny_pure ⟨_,rfl,new hd xs' o' es' ep' t' h' p1 p2 p3⟩
end
inductive OC where
 | lst (es:List PyData)
 | set (ks:List PyData)
 | dic (kvs:List (PyData×PyData))
noncomputable def SetO (w:World) (a:Addr) (xs:List (PyData×Addr)):HO:=.ext fun h=>∃ o es ep t,SetObj w h a xs o es ep t
structure DicObj (w:World) (h:Heap) (a:Addr) (xs:List (PyData×Addr×Value)) (o:Obj) (es:Array DictEntry) (ep:Nat):Prop where
 ob:h.get? a=some o
 ex:o.ExactDict
 da:o.data=.dict es ep
 el:es.toList=xs.map fun x=>(⟨zv w x.1,.ref x.2.1,x.2.2⟩:DictEntry)
 nd:(xs.map (·.1)).Nodup
 ns:(a == sysModules)=false
noncomputable def DicO (w:World) (a:Addr) (xs:List (PyData×Addr×Value)):HO:=.ext fun h=>∃ o es ep,DicObj w h a xs o es ep
noncomputable def vV (d:PyData):Prop:=zz d=true/\d.depth<=8
noncomputable def EntR (K:apD) (Hh:Hp) (x:PyData×Addr×Value) (p:PyData×PyData):Prop:=x.1=p.1/\vV x.1/\Rep K Hh x.1 (.ref x.2.1)/\∃ v,Rep K Hh p.2 v/\RelV v x.2.2
theorem EntR.mono {K:apD} {Hh Hh':Hp} (s:Same Hh Hh'):∀ {xs:List (PyData×Addr×Value)} {kvs:List (PyData×PyData)},Paired (EntR K Hh) xs kvs->Paired (EntR K Hh') xs kvs
 | _,_,.nil=>.nil
 | _,_,.cons ⟨h1,h2,h3,v,h4,h5⟩ t=>.cons ⟨h1,h2,Rep.mono s _ _ h3,v,Rep.mono s _ _ h4,h5⟩ (EntR.mono s t)
noncomputable def OwnAt (w:World) (K:apD) (Hh H:Hp) (D:Addr):OC->Prop
 | .lst es=>∃ vs,H D=some (.lst vs)/\Reps K Hh es vs
 | .set ks=>∃ xs:List (PyData×Addr),H D=some (SetO w D xs)/\(∀ x∈xs,vV x.1/\Rep K Hh x.1 (.ref x.2))/\(∀ d,d∈xs.map (·.1)↔d∈ks)/\xs.length<=ks.length
 | .dic kvs=>∃ xs:List (PyData×Addr×Value),H D=some (DicO w D xs)/\Paired (EntR K Hh) xs kvs
theorem OwnAt.mono {w:World} {K:apD} {Hh Hh' H H':Hp} {D:Addr} (e:H' D=H D) (s:Same Hh Hh'):∀ {c:OC},OwnAt w K Hh H D c->OwnAt w K Hh' H' D c
 | .lst es,⟨vs,h1,h2⟩=>⟨vs,e.trans h1,Reps.mono s es vs h2⟩
 | .set ks,⟨xs,h1,h2,h3⟩=>⟨xs,e.trans h1,fun x hx=>⟨(h2 x hx).1,Rep.mono s _ _ (h2 x hx).2⟩,h3⟩
 | .dic kvs,⟨xs,h1,h2⟩=>⟨xs,e.trans h1,EntR.mono s h2⟩
noncomputable def Fx.withs (f:Fx) (Ds:List Addr):Fx:={ f with M:=Ds.reverse++f.M }
theorem yw (f:Fx) (Ds:List Addr) (D:Addr):f.withs (Ds++[D])=(f.withs Ds).with D:=by
 unfold Fx.withs Fx.with
 rw [arz]
 rfl
structure CM (w:World) (K:apD) (f:Fx) (Ds:List Addr) (H2:Hp) (ρ:zp) (cs:List OC) (σ:St) (H:Hp):Prop where
 env:EnvOk K (f.withs Ds) ρ σ H
 sm:Same (hide H2 (f.withs Ds)) (hide H (f.withs Ds))
 kp:∀ b∈f.M,H b=H2 b
 len:cs.length=Ds.length
 own:∀ (i:Nat) D c,Ds[i]?=some D->cs[i]?=some c->OwnAt w K (hide H (f.withs Ds)) H D c
structure Sep (f:Fx) (Ds:List Addr):Prop where
 nd:Ds.Nodup
 nf:∀ D∈Ds,f.f≠some D
 nm:∀ D∈Ds,D∉f.M
section
variable {w:World} {K:apD} {f:Fx} {Ds:List Addr} {H H' H2:Hp} {ρ ρ2:zp} {cs:List OC} {σ σ2:St} {i:Nat} {D:Addr} {c:OC} {o:HO}
theorem zL (hD:D∈Ds):D∈(f.withs Ds).M:=aqT _ (aqg.mpr hD)
theorem yd (hD:D∈Ds):hide (upd H D o) (f.withs Ds)=hide H (f.withs Ds):=by
 funext b
 unfold hide
 by_cases h:(f.withs Ds).f=some b \/ b∈(f.withs Ds).M
 ·rw [if_pos h,if_pos h]
 ·rw [if_neg h,if_neg h,zm fun (z:b=D)=>h (.inr (z▸zL hD))]
theorem CM.go (x:CM w K f Ds H2 ρ cs σ H) (g:Goes (f.withs Ds) H H') (e2:EnvOk K (f.withs Ds) ρ2 σ2 H'):CM w K f Ds H2 ρ2 cs σ2 H' :=
 ⟨e2,x.sm.trans g.sm,fun b hb=>(g.kp b (apR _ hb)).trans (x.kp b hb),x.len,fun i D c h1 h2=>(x.own i D c h1 h2).mono (g.kp D (zL (apN h1))) g.sm⟩
theorem CM.self (x:CM w K f Ds H2 ρ cs σ H):CM w K f Ds H ρ cs σ H:=⟨x.env,Same.refl _,fun _ _=>rfl,x.len,x.own⟩
theorem CM.trans {cs':List OC} {ρ':zp} {σ':St} (x:CM w K f Ds H2 ρ cs σ H) (y:CM w K f Ds H ρ' cs' σ' H'):CM w K f Ds H2 ρ' cs' σ' H':=⟨y.env,x.sm.trans y.sm,fun b hb=>(y.kp b hb).trans (x.kp b hb),y.len,y.own⟩
theorem als (se:Sep f Ds) (hD:D∈Ds) (h:FOk (f.withs Ds) H):FOk (f.withs Ds) (upd H D o) :=
 ⟨fun p e=>let⟨a,b,h1,h2⟩:=h.fd p e;⟨a,b,by rw [zm (fun (z:p=D)=>se.nf D hD (z▸e))];exact h1,h2⟩,fun b hb=>by
  by_cases e:b=D
  ·exact⟨o,by rw [e];exact zo⟩
  ·obtain⟨u,hu⟩:=h.mm b hb
   exact⟨u,by rw [zm e];exact hu⟩,h.nm⟩
theorem ade (se:Sep f Ds) (hD:D∈Ds) (e:EnvOk K (f.withs Ds) ρ σ H):EnvOk K (f.withs Ds) ρ σ (upd H D o) :=
 ⟨e.len,fun i x h=>by
  obtain⟨v,h1,h2⟩:=e.get i x h
  refine⟨v,h1,?_⟩
  cases x with
  | dat d =>
   show Rep K (hide (upd H D o) (f.withs Ds)) d v
   rw [yd hD]
   exact h2
  | feed=>exact h2
  | own k=>exact h2
  | exc C =>
   obtain⟨a,e1,q⟩:=h2
   exact⟨a,e1,by rw [yd hD];exact q⟩
  | mon φ =>
   intro H' s
   rw [yd hD] at s
   exact h2 H' s,als se hD e.fd⟩
theorem CM.put {c':OC} (se:Sep f Ds) (x:CM w K f Ds H2 ρ cs σ H) (hi:Ds[i]?=some D) (ho:OwnAt w K (hide H (f.withs Ds)) (upd H D o) D c'):CM w K f Ds H2 ρ (cs.set i c') σ (upd H D o):=by
 have hD:=apN hi
 refine⟨ade se hD x.env,by rw [yd hD];exact x.sm,fun b hb=>(zm (fun (z:b=D)=>se.nm D hD (z▸hb))).trans (x.kp b hb),by rw [aqB];exact x.len,fun j D' c h1 h2=>?_⟩
 rw [yd hD]
 by_cases e:i=j
 ·subst e
  rw [hi] at h1
  cases h1
  have hl:i<cs.length:=by rw [x.len];exact (apE.mp hi).1
  rw [aqm hl] at h2
  cases h2
  exact ho
 ·rw [aqs e] at h2
  have ne:D'≠D:=fun z=>by
   subst z
   obtain⟨l1,e1⟩:=apE.mp hi
   obtain⟨l2,e2⟩:=apE.mp h1
   exact e ((asq se.nd).mp (e1.trans e2.symm))
  exact (x.own j D' c h1 h2).mono (zm ne) (Same.refl _)
end
structure MEnds where
 nx:zp->List OC->Prop
 rt:PyData->Prop
 bk:zp->List OC->Prop:=fun _ _=>False
 ct:zp->List OC->Prop:=fun _ _=>False
noncomputable def PSm (w:World) (K:apD) (f:Fx) (Ds:List Addr) (ts:TS) (ρ:zp) (cs:List OC) (O:MEnds):Prop:=Sep f Ds->∀ (σ:St) (H H2:Hp) (E:Ends),CM w K f Ds H2 ρ cs σ H ->
 (∀ ρ' cs' σ' H',CM w K f Ds H2 ρ' cs' σ' H'->O.nx ρ' cs'->E.nx σ' H')->(∀ d v ρ' cs' σ' H',CM w K f Ds H2 ρ' cs' σ' H'->Rep K (hide H' f) d v->O.rt d->E.rt v H') ->
 (∀ ρ' cs' σ' H',CM w K f Ds H2 ρ' cs' σ' H'->O.bk ρ' cs'->E.bk σ' H')->(∀ ρ' cs' σ' H',CM w K f Ds H2 ρ' cs' σ' H'->O.ct ρ' cs'->E.ct σ' H')->ts E σ H
noncomputable def PTm (w:World) (K:apD) (f:Fx) (Ds:List Addr) (tt:TT) (ρ:zp) (cs:List OC) (B:Bool->Prop):Prop:=Sep f Ds->∀ (σ:St) (H H2:Hp) (Q:Bool->Hp->Prop),CM w K f Ds H2 ρ cs σ H->(∀ b H',Goes (f.withs Ds) H H'->B b->Q b H')->tt σ H Q
noncomputable def PEm (w:World) (K:apD) (f:Fx) (Ds:List Addr) (te:TE) (ρ:zp) (cs:List OC) (P:PyData->Prop):Prop:=Sep f Ds->∀ (σ:St) (H H2:Hp) (Q:VK),CM w K f Ds H2 ρ cs σ H->(∀ d v H',Goes (f.withs Ds) H H'->Rep K (hide H' (f.withs Ds)) d v->P d->Q v H')->te σ H Q
noncomputable def ajN (w:World) (K:apD) (f:Fx) (te:TE) (ρ:zp) (P:OC->Prop):Prop:=∀ (σ:St) (H:Hp) (Q:VK),EnvOk K f ρ σ H ->
 (∀ c D H',Goes f H H'->H D=none->OwnAt w K (hide H' (f.with D)) H' D c->P c->Q (.ref D) H')->te σ H Q
section
variable {w:World} {K:apD} {f:Fx} {Ds:List Addr} {ρ:zp} {cs:List OC} {ts tu:TS} {tt:TT} {te:TE} {wi:TI} {g:TG} {O:MEnds} {i j:Nat}
theorem same_withs {H:Hp}:Same (hide H (f.withs Ds)) (hide H f):=fun b o h=>by
 obtain⟨h1,h2⟩:=zA h
 exact zu (fun z=>h1 (z.elim .inl fun z=>.inr (apR _ z))) h2
theorem adf {D:DEnds} (h:PSm w K f [] ts ρ [] { nx:=fun ρ' _=>D.nx ρ',rt:=D.rt,bk:=fun ρ' _=>D.bk ρ',ct:=fun ρ' _=>D.ct ρ' }):PSd K f ts ρ D:=fun σ H E e n r b k=>by
 have gg:∀ {ρ':zp} {cs':List OC} {σ':St} {H':Hp},CM w K f [] H ρ' cs' σ' H'->Goes f H H':=fun x=>⟨x.sm,x.env.fd,x.kp⟩
 exact h ⟨arB,(fun _ z=>nomatch z),(fun _ z=>nomatch z)⟩ σ H H E ⟨e,Same.refl _,fun _ _=>rfl,rfl,(fun i D c z=>nomatch z)⟩
  (fun ρ' cs' σ' H' x p=>n ρ' σ' H' (gg x) x.env p) (fun d v ρ' cs' σ' H' x r' p=>r d v H' (gg x) r' p) (fun ρ' cs' σ' H' x p=>b ρ' σ' H' (gg x) x.env p) (fun ρ' cs' σ' H' x p=>k ρ' σ' H' (gg x) x.env p)
theorem adg (h:PSd K (f.withs Ds) ts ρ { nx:=fun ρ'=>O.nx ρ' cs,rt:=O.rt,bk:=fun ρ'=>O.bk ρ' cs,ct:=fun ρ'=>O.ct ρ' cs }):PSm w K f Ds ts ρ cs O:=fun se σ H H2 E x n r b k =>
 h σ H E x.env (fun ρ' σ' H' g' e' p=>n ρ' cs σ' H' (x.go g' e') p) (fun d v H' g' r' p=>r d v ρ cs σ H' (x.go g' (x.env.mono g')) (Rep.mono same_withs d v r') p) (fun ρ' σ' H' g' e' p=>b ρ' cs σ' H' (x.go g' e') p) (fun ρ' σ' H' g' e' p=>k ρ' cs σ' H' (x.go g' e') p)
theorem qR (h:PSm w K f Ds ts ρ cs { O with nx:=fun ρ' cs'=>PSm w K f Ds tu ρ' cs' O }):PSm w K f Ds (jL ts tu) ρ cs O:=fun se σ H H2 E x n r b k =>
 h se σ H H2 _ x (fun ρ' cs' σ' H' x' p=>p se σ' H' H2 E x' n r b k) r b k
theorem anA (h:O.nx ρ cs):PSm w K f Ds abW ρ cs O:=fun _ σ H H2 E x n r b k=>n ρ cs σ H x h
theorem aoW {B:Bool->Prop} (h:PTd K (f.withs Ds) tt ρ B):PTm w K f Ds tt ρ cs B:=fun se σ H H2 Q x q=>h σ H Q x.env q
theorem aex {P:PyData->Prop} (h:PEd K (f.withs Ds) te ρ P):PEm w K f Ds te ρ cs P:=fun se σ H H2 Q x q=>h σ H Q x.env q
theorem apw (h:PTm w K f Ds tt ρ cs fun b=>if b=true then PSm w K f Ds ts ρ cs O else PSm w K f Ds tu ρ cs O):PSm w K f Ds (acF tt ts tu) ρ cs O:=fun se σ H H2 E x n r b k =>
 h se σ H H2 _ x fun q H1 g1 p=>by
  have x1:=x.go g1 (x.env.mono g1)
  cases q with
  | false =>
   rw [if_neg apB] at p ⊢
   exact p se σ H1 H2 E x1 n r b k
  | true =>
   rw [if_pos rfl] at p ⊢
   exact p se σ H1 H2 E x1 n r b k
theorem agW (h:PId K (f.withs Ds) wi ρ fun ds=>∃ J:Nat->zp->List OC->Prop,J 0 ρ cs /\
   (∀ (i:Nat) d ρ' cs',ds[i]?=some d->J i ρ' cs'->PGd K (f.withs Ds) g d ρ' fun ρ2=>PSm w K f Ds ts ρ2 cs' { O with nx:=J (i+1),ct:=J (i+1),bk:=O.nx })/\∀ ρ' cs',J ds.length ρ' cs'->O.nx ρ' cs') :
  PSm w K f Ds (ahG wi g ts) ρ cs O:=fun se σ H H2 E x n r b k=>h σ H _ x.env fun ds J H1 g1 it ⟨Jv,j0,js,jd⟩=>by
 have x1:=x.go g1 (x.env.mono g1)
 refine⟨fun i m σ' H'=>∃ ρ' cs',CM w K f Ds H2 ρ' cs' σ' H'/\Same (hide H1 (f.withs Ds)) (hide H' (f.withs Ds))/\Jv i ρ' cs'/\m+i=ds.length,⟨ds.length,ρ,cs,x1,Same.refl _,j0,rfl⟩,fun i m σ' H' ⟨ρ',cs',x',sm',p,hm⟩=>?_⟩
 by_cases hi:i<ds.length
 ·obtain⟨hgo,hy⟩:=it.go (f.withs Ds) H' i _ x'.env.fd sm' (apA hi)
  refine .inr ⟨hgo,fun σ2 H3=>∃ ρ2 cs2,CM w K f Ds H2 ρ2 cs2 σ2 H3/\Same (hide H1 (f.withs Ds)) (hide H3 (f.withs Ds))/\Jv (i+1) ρ2 cs2,fun σ2 H3 ⟨ρ2,cs2,e2,g2,p2⟩=>⟨m - 1,by omega,ρ2,cs2,e2,g2,p2,by omega⟩,fun v H3 hx=>?_⟩
  obtain⟨g3,r3⟩:=hy v H3 hx
  have x3:=x'.go g3 (x'.env.mono g3)
  refine js i _ ρ' cs' (apA hi) p σ' H3 v _ x3.env r3 fun ρ2 σ2 H4 g4 e4 p4=>?_
  have x4:=x3.go g4 e4
  have sm4:=(sm'.trans g3.sm).trans g4.sm
  exact p4 se σ2 H4 H4 _ x4.self (fun ρ5 cs5 σ5 H5 x5 p5=>⟨ρ5,cs5,x4.trans x5,sm4.trans x5.sm,p5⟩) (fun d v ρ5 cs5 σ5 H5 x5 r5 p5=>r d v ρ5 cs5 σ5 H5 (x4.trans x5) r5 p5) (fun ρ5 cs5 σ5 H5 x5 p5=>n ρ5 cs5 σ5 H5 (x4.trans x5) p5) (fun ρ5 cs5 σ5 H5 x5 p5=>⟨ρ5,cs5,x4.trans x5,sm4.trans x5.sm,p5⟩)
 ·have ei:i=ds.length:=by omega
  subst ei
  exact .inl ⟨it.st (f.withs Ds) H' x'.env.fd sm',n ρ' cs' σ' H' x' (jd ρ' cs' p)⟩
theorem agX {tb:TS} (J:zp->List OC->Prop) (μ:zp->List OC->Nat) (h0:J ρ cs)
  (hs:∀ ρ' cs',J ρ' cs'->PTm w K f Ds tt ρ' cs' fun b=>if b=true then PSm w K f Ds tb ρ' cs' { O with nx:=fun r c=>J r c/\μ r c<μ ρ' cs',ct:=fun r c=>J r c/\μ r c<μ ρ' cs',bk:=O.nx } else O.nx ρ' cs'):PSm w K f Ds (aiS tt tb) ρ cs O:=fun se σ H H2 E x n r b k=>by
 refine⟨fun m σ' H'=>∃ ρ' cs',CM w K f Ds H2 ρ' cs' σ' H'/\J ρ' cs'/\m=μ ρ' cs',⟨_,ρ,cs,x,h0,rfl⟩,?_⟩
 rintro m σ1 H1 ⟨ρ1,cs1,x1,j1,rfl⟩
 refine hs ρ1 cs1 j1 se σ1 H1 H2 _ x1 fun t H3 g3 p=>?_
 have x3:=x1.go g3 (x1.env.mono g3)
 cases t with
 | true =>
  rw [if_pos rfl] at p ⊢
  refine⟨fun σ' H'=>∃ ρ' cs',CM w K f Ds H2 ρ' cs' σ' H'/\J ρ' cs'/\μ ρ' cs'<μ ρ1 cs1,fun σ' H' ⟨ρ',cs',x',j',l'⟩=>⟨_,l',ρ',cs',x',j',rfl⟩,?_⟩
  exact p se σ1 H3 H2 _ x3 (fun ρ5 cs5 σ5 H5 x5 p5=>⟨ρ5,cs5,x5,p5⟩) r (fun ρ5 cs5 σ5 H5 x5 p5=>n ρ5 cs5 σ5 H5 x5 p5) (fun ρ5 cs5 σ5 H5 x5 p5=>⟨ρ5,cs5,x5,p5⟩)
 | false =>
  rw [if_neg apB] at p ⊢
  exact n ρ1 cs1 σ1 H3 x3 p
theorem vW {σ:St} {H H2:Hp} {D:Addr} (hi:ρ[i]?=some (some (.own (f.M.length+j)))) (x:CM w K f Ds H2 ρ cs σ H) (hD:Ds[j]?=some D):σ[i]?=some (some (.ref D)):=by
 obtain⟨v,h1,p,h2,rfl⟩:=x.env.get i _ hi
 have e:(f.withs Ds).M.reverse[f.M.length+j]?=some D:=by
  show (Ds.reverse++f.M).reverse[f.M.length+j]?=some D
  rw [arz,asv,apQ (by simp)]
  simpa using hD
 rw [e] at h2
 cases h2
 exact h1
theorem agY {es:List PyData} (hi:ρ[i]?=some (some (.own (f.M.length+j)))) (hc:cs[j]?=some (.lst es)) (hl:es.length<1000) (h:PEm w K f Ds te ρ cs fun d=>O.nx ρ (cs.set j (.lst (es++[d])))):PSm w K f Ds (vw (tBM K "list" vO (yp i) (zQ te yJ))) ρ cs O:=fun se σ H H2 E x n r b k=>by
 have hj:j<Ds.length:=by rw [<-x.len];exact (apE.mp hc).1
 have hD:Ds[j]?=some Ds[j]:=apA hj
 obtain⟨vs0,h0,_⟩:=x.own j _ _ hD hc
 refine⟨_,vW hi x hD,Or.inl ⟨rfl,vs0,.of h0⟩,?_⟩
 refine h se σ H H2 _ x fun d v H1 g1 r1 p1=>?_
 have x1:=x.go g1 (x.env.mono g1)
 obtain⟨vs,h1,h2⟩:=x1.own j _ _ hD hc
 refine⟨_,vs,v,rfl,rfl,h1,zW (by rw [h2.length];omega),n _ _ _ _ (x1.put se hD (o:=.lst (vs++[v])) (c':=.lst (es++[d])) ⟨vs++[v],zo,h2.snoc r1⟩) p1⟩
theorem CM.more {σ:St} {H H1 H2:Hp} {D:Addr} {c:OC} (x:CM w K f Ds H2 ρ cs σ H) (g:Goes (f.withs Ds) H H1) (hn:H D=none) (ho:OwnAt w K (hide H1 ((f.withs Ds).with D)) H1 D c) (hi:i<ρ.length) :
  CM w K f (Ds++[D]) H1 (ρ.set i (some (.own (f.M.length+Ds.length)))) (cs++[c]) (σ.set i (some (.ref D))) H1:=by
 have nD:¬ ((f.withs Ds).f=some D \/ D∈(f.withs Ds).M):=fresh_ne x.env.fd hn
 have sm0:Same (hide H (f.withs Ds)) (hide H1 (f.withs (Ds++[D]))):=fun b o hb=>by
  have hb1:=g.sm b o hb
  rw [yw]
  refine zu (fun z=>?_) (zA hb1).2
  rcases z with z | z
  ·exact (zA hb1).1 (.inl z)
  ·rcases apK.mp z with rfl | z
   ·have:=(zA hb).2
    rw [hn] at this
    cases this
   ·exact (zA hb1).1 (.inr z)
 have hD1:∃ o,H1 D=some o:=by
  cases c with
  | lst es=>exact⟨_,ho.choose_spec.1⟩
  | set ks=>exact⟨_,ho.choose_spec.1⟩
  | dic kvs=>exact⟨_,ho.choose_spec.1⟩
 have fo1:FOk (f.withs (Ds++[D])) H1:=by
  rw [yw]
  refine⟨g.ok.fd,fun b hb=>?_,fun q eq hq=>?_⟩
  ·rcases apK.mp hb with rfl | hb
   ·exact hD1
   ·exact g.ok.mm b hb
  ·rcases apK.mp hq with rfl | hq
   ·exact nD (.inl eq)
   ·exact g.ok.nm q eq hq
 have rev:(f.withs (Ds++[D])).M.reverse=(f.withs Ds).M.reverse++[D]:=by
  rw [yw]
  show (D :: (f.withs Ds).M).reverse=_
  rw [aq8]
 have lenr:(f.withs Ds).M.reverse.length=f.M.length+Ds.length:=by
  show (Ds.reverse++f.M).reverse.length=_
  simp
 have e1:EnvOk K (f.withs (Ds++[D])) ρ σ H1:=⟨x.env.len,fun q y hy=>by
  obtain⟨v,a1,a2⟩:=x.env.get q y hy
  refine⟨v,a1,?_⟩
  cases y with
  | dat d=>exact Rep.mono sm0 d v a2
  | feed=>exact a2
  | exc C =>
   obtain⟨b,h3,h4⟩:=a2
   exact⟨b,h3,sm0 _ _ h4⟩
  | mon φ=>exact fun H' s=>a2 H' (sm0.trans s)
  | own k =>
   obtain⟨b,h3,h4⟩:=a2
   refine⟨b,?_,h4⟩
   rw [rev,apL (apE.mp h3).1]
   exact h3,fo1⟩
 have rv:RepV K (f.withs (Ds++[D])) H1 (.own (f.M.length+Ds.length)) (.ref D):=⟨D,by
  rw [rev,apQ (by omega),lenr,aqX]
  rfl,rfl⟩
 refine⟨e1.set i rv,Same.refl _,fun _ _=>rfl,by simp [x.len],fun q D' c' h1 h2=>?_⟩
 by_cases hq:q<Ds.length
 ·rw [apL hq] at h1
  rw [apL (by rw [x.len];exact hq)] at h2
  exact (x.own q D' c' h1 h2).mono (g.kp D' (zL (apN h1))) sm0
 ·by_cases hq2:q=Ds.length
  ·subst hq2
   rw [apQ (apI _),aqX] at h1
   rw [apQ (by rw [x.len];exact apI _),x.len,aqX] at h2
   cases h1
   cases h2
   rw [yw]
   exact ho
  ·rw [ap7 (by simp;omega)] at h1
   cases h1
theorem Sep.more {H:Hp} {D:Addr} (se:Sep f Ds) (fo:FOk (f.withs Ds) H) (hn:H D=none):Sep f (Ds++[D]):=by
 have nD:=fresh_ne fo hn
 refine⟨ara.mpr ⟨se.nd,by simp,fun a ha b hb=>?_⟩,fun D' h=>?_,fun D' h=>?_⟩
 ·rw [apS.mp hb]
  intro z
  exact nD (.inr (zL (z▸ha)))
 ·rcases apW.mp h with h | h
  ·exact se.nf D' h
  ·rw [apS.mp h];exact fun z=>nD (.inl z)
 ·rcases apW.mp h with h | h
  ·exact se.nm D' h
  ·rw [apS.mp h];exact fun z=>nD (.inr (apR _ z))
theorem CM.less {σ σ':St} {H H1 H2 H':Hp} {D:Addr} {ρ':zp} {cs':List OC} (x:CM w K f Ds H2 ρ cs σ H) (g:Goes (f.withs Ds) H H1) (hn:H D=none) (y:CM w K f (Ds++[D]) H1 ρ' cs' σ' H') :
  CM w K f Ds H2 (ρ'.map (yY (f.M.length+Ds.length))) (cs'.take Ds.length) σ' H':=by
 have sub:Same (hide H' (f.withs (Ds++[D]))) (hide H' (f.withs Ds)):=by rw [yw];exact qk
 have sm1:Same (hide H (f.withs Ds)) (hide H1 (f.withs (Ds++[D]))):=fun b o hb=>by
  have hb1:=g.sm b o hb
  rw [yw]
  refine zu (fun z=>?_) (zA hb1).2
  rcases z with z | z
  ·exact (zA hb1).1 (.inl z)
  ·rcases apK.mp z with rfl | z
   ·have:=(zA hb).2
    rw [hn] at this
    cases this
   ·exact (zA hb1).1 (.inr z)
 have lenr:(f.withs Ds).M.reverse.length=f.M.length+Ds.length:=by
  show (Ds.reverse++f.M).reverse.length=_
  simp
 have rev:(f.withs (Ds++[D])).M.reverse=(f.withs Ds).M.reverse++[D]:=by
  rw [yw]
  show (D :: (f.withs Ds).M).reverse=_
  rw [aq8]
 have fo:FOk (f.withs Ds) H':=by
  have h:=y.env.fd
  rw [yw] at h
  exact⟨h.fd,fun b hb=>h.mm b (apG _ hb),fun p e hp=>h.nm p e (apG _ hp)⟩
 refine⟨⟨by rw [apC];exact y.env.len,fun q z hz=>?_,fo⟩,(x.sm.trans sm1).trans (y.sm.trans sub),fun b hb=>(y.kp b hb).trans ((g.kp b (apR _ hb)).trans (x.kp b hb)),?_,fun q D' c' h1 h2=>?_⟩
 ·rw [apM] at hz
  cases e:ρ'[q]? with
  | none=>rw [e] at hz;cases hz
  | some z0 =>
   rw [e] at hz
   cases z0 with
   | none=>cases hz
   | some z0 =>
    obtain⟨v,a1,a2⟩:=y.env.get q z0 e
    cases z0 with
    | dat d =>
     cases hz
     exact⟨v,a1,Rep.mono sub d v a2⟩
    | feed =>
     cases hz
     rw [yw] at a2
     exact⟨v,a1,a2⟩
    | exc C =>
     cases hz
     obtain⟨b,h3,h4⟩:=a2
     exact⟨v,a1,b,h3,sub _ _ h4⟩
    | mon φ =>
     cases hz
     exact⟨v,a1,fun H' s=>a2 H' (sub.trans s)⟩
    | own k =>
     have hz':(if k<f.M.length+Ds.length then some (DV.own k) else none)=some z:=Option.some.inj hz
     by_cases hk:k<f.M.length+Ds.length
     ·rw [if_pos hk] at hz'
      cases hz'
      obtain⟨b,h3,h4⟩:=a2
      refine⟨v,a1,b,?_,h4⟩
      rw [rev,apL (by omega)] at h3
      exact h3
     ·rw [if_neg hk] at hz'
      cases hz'
 ·rw [aqi,y.len]
  simp
 ·have hq:q<Ds.length:=(apE.mp h1).1
  rw [arZ hq] at h2
  exact (y.own q D' c' (by rw [apL hq];exact h1) h2).mono rfl sub
theorem agZ (h:ajN w K (f.withs Ds) te ρ fun c=>i<ρ.length/\∀ D,PSm w K f (Ds++[D]) ts (ρ.set i (some (.own (f.M.length+Ds.length)))) (cs++[c]) { nx:=fun ρ' cs'=>O.nx (ρ'.map (yY (f.M.length+Ds.length))) (cs'.take Ds.length),rt:=O.rt,bk:=fun ρ' cs'=>O.bk (ρ'.map (yY (f.M.length+Ds.length))) (cs'.take Ds.length),ct:=fun ρ' cs'=>O.ct (ρ'.map (yY (f.M.length+Ds.length))) (cs'.take Ds.length) }) :
  PSm w K f Ds (jL (qc te (yR i)) ts) ρ cs O:=fun se σ H H2 E x n r b k =>
 h σ H _ x.env fun c D H1 g1 hn ho ⟨hi,p⟩ =>
  p D (se.more x.env.fd hn) _ H1 H1 E (x.more g1 hn ho hi) (fun ρ' cs' σ' H' y q=>n _ _ σ' H' (x.less g1 hn y) q) (fun d v ρ' cs' σ' H' y r' q=>r d v _ _ σ' H' (x.less g1 hn y) r' q) (fun ρ' cs' σ' H' y q=>b _ _ σ' H' (x.less g1 hn y) q) (fun ρ' cs' σ' H' y q=>k _ _ σ' H' (x.less g1 hn y) q)
theorem aaW {P:OC->Prop} (h:PEdO K f te ρ fun es=>P (.lst es)):ajN w K f te ρ P:=fun σ H Q e q=>h σ H Q e fun es D vs H' g hn h1 rs p=>q (.lst es) D H' g hn ⟨vs,h1,rs⟩ p
noncomputable def freed (n:Nat) (cs:List OC):Option DV->Option DV
 | some (.own k)=>if k<n then some (.own k) else match cs[k - n]? with
  | some (.lst es)=>some (.dat (.list es))
  | _=>none
 | x=>x
theorem CM.free {σ:St} {H H2:Hp} (se:Sep f Ds) (x:CM w K f Ds H2 ρ cs σ H):EnvOk K f (ρ.map (freed f.M.length cs)) σ H:=by
 have fo:FOk f H:=⟨x.env.fd.fd,fun b hb=>x.env.fd.mm b (apR _ hb),fun p e hp=>x.env.fd.nm p e (apR _ hp)⟩
 refine⟨by rw [apC];exact x.env.len,fun q z hz=>?_,fo⟩
 rw [apM] at hz
 cases e:ρ[q]? with
 | none=>rw [e] at hz;cases hz
 | some z0 =>
  rw [e] at hz
  cases z0 with
  | none=>cases hz
  | some z0 =>
   obtain⟨v,a1,a2⟩:=x.env.get q z0 e
   cases z0 with
   | dat d =>
    cases hz
    exact⟨v,a1,Rep.mono same_withs d v a2⟩
   | feed =>
    cases hz
    exact⟨v,a1,a2⟩
   | exc C =>
    cases hz
    obtain⟨b,h3,h4⟩:=a2
    exact⟨v,a1,b,h3,same_withs _ _ h4⟩
   | mon φ =>
    cases hz
    exact⟨v,a1,fun H' s=>a2 H' (same_withs.trans s)⟩
   | own k =>
    obtain⟨b,h3,h4⟩:=a2
    have h3':(Ds.reverse++f.M).reverse[k]?=some b:=h3
    rw [arz,asv] at h3'
    have hz':(if k<f.M.length then some (DV.own k) else match cs[k - f.M.length]? with | some (.lst es)=>some (.dat (.list es)) | _=>none)=some z:=Option.some.inj hz
    by_cases hk:k<f.M.length
    ·rw [if_pos hk] at hz'
     cases hz'
     rw [apL (by simpa using hk)] at h3'
     exact⟨v,a1,b,h3',h4⟩
    ·rw [if_neg hk] at hz'
     rw [apQ (by simpa using ati.mp hk),asD] at h3'
     cases ec:cs[k - f.M.length]? with
     | none=>rw [ec] at hz';cases hz'
     | some c =>
      rw [ec] at hz'
      cases c with
      | lst es =>
       cases hz'
       obtain⟨vs,h5,h6⟩:=x.own _ _ _ h3' ec
       have hb:=apN h3'
       exact⟨v,a1,rep_list.mpr ⟨b,vs,h4,.of (zu (fun z=>z.elim (se.nf b hb) (se.nm b hb)) h5),Reps.mono same_withs es vs h6⟩⟩
      | set ks=>cases hz'
      | dic kvs=>cases hz'
theorem CM.goF {σ:St} {H H2 H':Hp} (se:Sep f Ds) (x:CM w K f Ds H2 ρ cs σ H) (g:Goes f H H'):CM w K f Ds H2 ρ cs σ H':=by
 have keep:∀ b∈Ds,H' b=H b:=fun b hb=>by
  obtain⟨o,ho⟩:=x.env.fd.mm b (zL hb)
  rw [ho]
  exact (zA (g.sm b o (zu (fun z=>z.elim (se.nf b hb) (se.nm b hb)) ho))).2
 have g2:Goes (f.withs Ds) H H':=⟨fun b o hb=>by
   have hb':=zA hb
   have:=zA (g.sm b o (same_withs b o hb))
   exact zu hb'.1 this.2,⟨g.ok.fd,fun b hb=>by
   rcases apW.mp hb with hb | hb
   ·obtain⟨o,ho⟩:=x.env.fd.mm b (aqT _ hb)
    exact⟨o,by rw [keep b (aqg.mp hb)];exact ho⟩
   ·exact g.ok.mm b hb,x.env.fd.nm⟩,fun b hb=>by
   rcases apW.mp hb with hb | hb
   ·exact keep b (aqg.mp hb)
   ·exact g.kp b hb⟩
 exact x.go g2 (x.env.mono g2)
theorem adh (h:PSd K f ts (ρ.map (freed f.M.length cs)) { nx:=fun _=>False,rt:=O.rt }):PSm w K f Ds ts ρ cs O:=fun se σ H H2 E x n r b k =>
 h σ H E (x.free se) (fun _ _ _ _ _ z=>z.elim) (fun d v H' g' r' p=>r d v ρ cs σ H' (x.goF se g') r' p) (fun _ _ _ _ _ z=>z.elim) (fun _ _ _ _ _ z=>z.elim)
end
noncomputable def ah8 (w:World) (K:apD) (f:Fx) (Ds:List Addr) (ts:TS) (ρ:zp) (cs:List OC) (R:List PyData->Prop):Prop:=Sep f Ds->∀ (σ:St) (H H2:Hp) (E:Ends),CM w K f Ds H2 ρ cs σ H ->
 (∀ es D vs ρ' cs' σ' H0 H',CM w K f Ds H2 ρ' cs' σ' H0->Goes f H0 H'->H0 D=none->H' D=some (.lst vs)->Reps K (hide H' (f.with D)) es vs->R es->E.rt (.ref D) H')->ts E σ H
section
variable {w:World} {K:apD} {f:Fx} {Ds:List Addr} {ρ:zp} {cs:List OC} {ts tu:TS} {te:TE} {R:List PyData->Prop} {i:Nat}
theorem alu (h:ah8 w K f [] ts ρ [] R):PSn K f ts ρ R:=fun σ H E e q=>by
 refine h ⟨arB,(fun _ z=>nomatch z),(fun _ z=>nomatch z)⟩ σ H H E ⟨e,Same.refl _,fun _ _=>rfl,rfl,(fun i D c z=>nomatch z)⟩ fun es D vs ρ' cs' σ' H0 H' x g hn h1 rs p=>?_
 have g0:Goes f H H0:=⟨x.sm,x.env.fd,x.kp⟩
 exact q es D vs H' (g0.trans g) (g0.free e.fd hn) h1 rs p
theorem anB (h:PSm w K f Ds ts ρ cs { nx:=fun ρ' cs'=>ah8 w K f Ds tu ρ' cs' R,rt:=fun _=>False }):ah8 w K f Ds (jL ts tu) ρ cs R:=fun se σ H H2 E x q =>
 h se σ H H2 _ x (fun ρ' cs' σ' H' x' p=>p se σ' H' H2 E x' q) (fun _ _ _ _ _ _ _ _ z=>z.elim) (fun _ _ _ _ _ z=>z.elim) (fun _ _ _ _ _ z=>z.elim)
theorem ajO (h:ajN w K (f.withs Ds) te ρ fun c=>i<ρ.length/\∀ D,ah8 w K f (Ds++[D]) ts (ρ.set i (some (.own (f.M.length+Ds.length)))) (cs++[c]) R) :
  ah8 w K f Ds (jL (qc te (yR i)) ts) ρ cs R:=fun se σ H H2 E x q =>
 h σ H _ x.env fun c D H1 g1 hn ho ⟨hi,p⟩ =>
  p D (se.more x.env.fd hn) _ H1 H1 E (x.more g1 hn ho hi) fun es D' vs ρ' cs' σ' H0 H' y g hn' h1 rs pr=>q es D' vs _ _ σ' H0 H' (x.less g1 hn y) g hn' h1 rs pr
theorem alv (h:PSn K f ts (ρ.map (freed f.M.length cs)) R):ah8 w K f Ds ts ρ cs R:=fun se σ H H2 E x q =>
 h σ H E (x.free se) fun es D vs H' g hn h1 rs p=>q es D vs ρ cs σ H H' x g hn h1 rs p
end
theorem SetO.ok {P:Program} {w:World} {H:Hp} {h:Heap} {a:Addr} {xs:List (PyData×Addr)} {o:Obj} {es:Array (Int×Value)} {ep:Nat} {t:SetTable} (S:SetObj w h a xs o es ep t):ObjOk P w H h a (SetO w a xs) :=
 ⟨⟨o,es,ep,t,S⟩,⟨o,S.ob⟩,fun h1 h2 ⟨o,es,ep,t,S⟩ k=>⟨o,es,ep,t,⟨k o S.ob,S.ex,S.da,S.el,S.ok⟩⟩⟩
theorem ah9 (led:Bool):ST.TOk (SetTable.fresh 0 0 led) [] where
 mask:=.inl rfl
 dum:=rfl
 rise:=fun i j _ hj=>absurd hj (aqR _)
 le:=fun i hi=>absurd hi (aqR _)
 size:=rfl
 most:=ap9 _
 reach:=fun i hi=>absurd hi (aqR _)
 room:=by show 0 * 5<7 * 3;decide
noncomputable def adi (w:World):List V->Hp->VK->Prop:=fun xs H Q=>xs=[]/\∀ a,H a=none->Q (.ref a) (upd H a (SetO w a []))
theorem aey {X:Cx}:z9 X (.type "set") (adi X.w):=by
 intro pins s σ H xs us Q I r h
 obtain⟨rfl,q⟩:=h
 cases r
 refine call_set_0 fun led=>?_
 refine⟨.ref s.heap.objs.size,_,I.laid (t':=s.toks) (fun b u e=>apH _ e) (apI _) (SetO.ok (xs:=[]) (o:={ cls:=.type "set",dict:=none,data:=.set #[] 0 (.fresh 0 0 led) }) (es:=#[]) (ep:=0) (t:=.fresh 0 0 led) ⟨ap5 _ rfl,⟨rfl,rfl,rfl⟩,rfl,rfl,ah9 led⟩),rfl,q _ (I.hok.fresh (apI _))⟩
noncomputable def aia (d:PyData):Prop:=vV d/\∃ xs,d=.tuple xs
theorem aaX {K:apD} {H:Hp} {d:PyData} {v:V} (k:aia d) (r:Rep K H d v):∃ b,v=.ref b:=by
 obtain⟨_,xs,rfl⟩:=k
 obtain⟨a,_,e,_⟩:=rep_tuple.mp r
 exact⟨a,e⟩
theorem vJ {X:Cx} {pins:List (Addr×Obj)} {σ:St} {H:Hp} {s:Shared} {d:PyData} {b:Addr} (I:Inv X pins σ H s) (k:vV d) (r:Rep X.K H d (.ref b)):KeyAt s.heap d b:=by
 obtain⟨as,ra⟩:=qi I d (.ref b) (.ref b) r rfl
 exact⟨⟨as,ra⟩,k.1,k.2⟩
noncomputable def anC (w:World) (K:apD) (neg:Bool):R2:=fun x y H Q=>∃ a b d xs,x=.ref b/\y=.ref a/\H a=some (SetO w a xs)/\(∀ z∈xs,vV z.1/\Rep K H z.1 (.ref z.2))/\vV d/\Rep K H d (.ref b)/\Q (.bl (if neg then !decide (d∈xs.map (·.1)) else decide (d∈xs.map (·.1)))) H
theorem alw {X:Cx} (hu:X.A.units+64<cLine) {pins:List (Addr×Obj)} {s:Shared} {σ:St} {H:Hp} {a b:Addr} {d:PyData} {xs:List (PyData×Addr)} (I:Inv X pins σ H s) (hS:H a=some (SetO X.w a xs)) (ks:∀ z∈xs,vV z.1/\Rep X.K H z.1 (.ref z.2)) (kd:vV d) (rd:Rep X.K H d (.ref b)) {Q:Bool->Shared->Prop} {E:Value->Shared->Prop}
  (q:Q (decide (d∈xs.map (·.1))) { s with toks:=s.toks+zY d }):wpAny (model X.prog X.w) X.A (contains (.ref a) (.ref b)) Q E s:=by
 obtain⟨⟨o,es,ep,t,S⟩,_⟩:=I.hok a _ hS
 exact aew S (fun x hx=>vJ I (ks x hx).1 (ks x hx).2) (vJ I kd rd) (by omega) q
theorem aib {X:Cx} (hu:X.A.units+64<cLine):OpR X (compareOp .NotIn) (anC X.w X.K true):=by
 intro pins s σ H x y v u Q I rx ry h
 obtain⟨a,b,d,xs,rfl,rfl,hS,ks,kd,rd,q⟩:=h
 cases rx
 cases ry
 show wpAny _ _ (do return Value.bool (!(<- contains (.ref a) (.ref b)))) _ _ s
 apply wpAny_bind
 exact alw hu I hS ks kd rd (wpAny_pure ⟨.bl _,H,I.tok _,rfl,q⟩)
theorem afK {X:Cx} {K:apD} {w:World} (hw:X.w=w) (hK:X.K=K) (hu:X.A.units+64<cLine):OpR X (compareOp .NotIn) (anC w K true):=hw▸hK▸aib hu
noncomputable def ajP (w:World) (K:apD):V->List V->Hp->VK->Prop:=fun x ys H Q=>∃ a b d xs,x=.ref a/\ys=[.ref b]/\H a=some (SetO w a xs)/\(∀ z∈xs,vV z.1/\Rep K H z.1 (.ref z.2))/\vV d/\Rep K H d (.ref b)/\xs.length<300 /\
 (d∈xs.map (·.1)->Q .non H)/\(d∉xs.map (·.1)->∀ xs',xs'.Perm ((d,b) :: xs)->Q .non (upd H a (SetO w a xs')))
theorem alx {X:Cx} (hu:X.A.units+64<cLine):MtR X "set.add" (ajP X.w X.K):=by
 intro pins s σ H x ys v us Q I rx ry h
 obtain⟨a,b,d,xs,rfl,rfl,hS,ks,kd,rd,few,q1,q2⟩:=h
 obtain⟨u,rfl,ru⟩:=vals1 ry
 cases rx
 cases ru
 obtain⟨⟨o,es,ep,t,S⟩,_⟩:=I.hok a _ hS
 refine anz S (fun x hx=>vJ I (ks x hx).1 (ks x hx).2) (vJ I kd rd) (by omega) few (fun hd=>⟨.non,H,I.tok _,rfl,q1 hd⟩) fun hd xs' o' es' ep' t' h' pm sb S'=>?_
 refine⟨.non,_,I.write (t':=s.toks+zY d) (x:=a) (e:=a) (by rw [hS];exact trivial) (.inl rfl) (fun b u nb e=>(sb.2 b nb).trans e) ⟨o',S'.ob⟩ (SetO.ok S'),rfl,q2 hd xs' pm⟩
theorem ajQ {X:Cx} {K:apD} {w:World} (hw:X.w=w) (hK:X.K=K) (hu:X.A.units+64<cLine):MtR X "set.add" (ajP w K):=hw▸hK▸alx hu
theorem adj {X:Cx} {w:World} (hw:X.w=w):z9 X (.type "set") (adi w):=hw▸aey
noncomputable def aoX (w:World) (r:V->List V->Hp->VK->Prop) (to:TE) (t:TA):TE:=fun σ H Q=>to σ H fun x H1=>(∃ a xs,x=.ref a/\H1 a=some (SetO w a xs))/\t σ H1 fun xs H2=>r x xs H2 Q
theorem anD {X:Cx} {w:World} {o e:Expr} {es:List Expr} {to:TE} {t:TA} {name:Str} {apos cpos:Pos} {id:String} {r:V->List V->Hp->VK->Prop} (hw:X.w=w) (slot:Slot "set" name id) (hty:typeOf (.builtin id)=pure (.type "method_descriptor")) (hm:MtR X id r) (ho:PE X o to) (ha:PA X (e :: es) t)
  (hbase:attributeBase o name X.env (eval o X.env)=eval o X.env:=by rfl)
  (hfew:((backTo cpos (starEach (e :: es) X.env)).all (fun x=>!x.1) && (backToKw cpos (keywordEach [] X.env)).all (fun x=>x.1.isSome)
   && decide ((e :: es).length+([]:List Keyword).length+(if ([]:List Keyword).isEmpty then 0 else 1)<30))=true:=by rfl)
  (hline:(apos.endLine == cpos.line)=true:=by rfl) (hs:starEach (e :: es) X.env=(false,eval e X.env) :: starEach es X.env:=by rfl) (hplain:(backTo cpos (starEach es X.env)).any (·.1)=false:=by rfl) :
  PE X (.Call (.Attribute o name apos) (e :: es) [] cpos) (aoX w r to t):=by
 subst hw
 intro pins s σ H Q I h
 refine wpAny_Call_method_late hbase hfew hline rfl (thn (ho pins s σ H _ I h) fun v s1 ⟨x,H1,I1,r1,ty,q1⟩=>?_)
 obtain⟨a,xs,rfl,hS⟩:=ty
 cases r1
 obtain⟨⟨ob,es',ep,t',S⟩,_⟩:=I1.hok a _ hS
 refine⟨"set",id,PySem.F.plainAttrs_set,slot,hty,⟨ob,S.ob,S.ex.1⟩,fun b e=>?_,?_⟩
 ·cases e
  exact⟨ob,S.ob,S.ex.2.1⟩
 have hA:=ha cpos pins s1 σ H1 _ I1 q1
 rw [hs] at hA ⊢
 refine ath (by show (false || (backTo cpos (starEach es X.env)).any (·.1))=false;rw [hplain] <;> rfl) (atF ?_)
 exact thn hA fun us s2 ⟨vs,H2,I2,r2,q2⟩=>hm pins s2 σ H2 (.ref a) vs (.ref a) us Q I2 rfl r2 q2
section
variable {w:World} {K:apD} {f:Fx} {Ds:List Addr} {ρ:zp} {cs:List OC} {te:TE} {O:MEnds} {i j:Nat} {ks:List PyData}
theorem anE {P:OC->Prop} (p:P (.set [])):ajN w K f (tCB (adi w) yJ) ρ P:=fun σ H Q e q =>
 ⟨rfl,fun a hn=>q (.set []) a _ (.of_same (zI hn _) e.fd) hn ⟨[],zo,(fun _ z=>nomatch z),(fun d=>Iff.rfl),apI 0⟩ p⟩
theorem aoY {neg:Bool} {B:Bool->Prop} (hi:ρ[i]?=some (some (.own (f.M.length+j)))) (hc:cs[j]?=some (.set ks)) (h:PEm w K f Ds te ρ cs fun d=>aia d/\B (if neg then !decide (d∈ks) else decide (d∈ks))) :
  PTm w K f Ds (ago (tOp (anC w K neg) te (yp i))) ρ cs B:=fun se σ H H2 Q x q=>by
 have hj:j<Ds.length:=by rw [<-x.len];exact (apE.mp hc).1
 have hD:Ds[j]?=some Ds[j]:=apA hj
 refine h se σ H H2 _ x fun d v H1 g1 r1 ⟨kd,p⟩=>?_
 have x1:=x.go g1 (x.env.mono g1)
 obtain⟨b,rfl⟩:=aaX kd r1
 obtain⟨xs,h1,h2,h3,_⟩:=x1.own j _ _ hD hc
 refine⟨_,vW hi x1 hD,Ds[j],b,d,xs,rfl,rfl,h1,fun z hz=>⟨(h2 z hz).1,Rep.mono (zh _ _) _ _ (h2 z hz).2⟩,kd.1,Rep.mono (zh _ _) _ _ r1,_,rfl,?_⟩
 have:decide (d∈xs.map (·.1))=decide (d∈ks):=decide_eq_decide.mpr (h3 d)
 rw [this]
 exact q _ H1 g1 p
theorem aoZ (hi:ρ[i]?=some (some (.own (f.M.length+j)))) (hc:cs[j]?=some (.set ks)) (hl:ks.length<300) (h:PEm w K f Ds te ρ cs fun d=>aia d/\(d∈ks->O.nx ρ cs)/\(d∉ks->O.nx ρ (cs.set j (.set (d :: ks))))) :
  PSm w K f Ds (vw (aoX w (ajP w K) (yp i) (zQ te yJ))) ρ cs O:=fun se σ H H2 E x n r b k=>by
 have hj:j<Ds.length:=by rw [<-x.len];exact (apE.mp hc).1
 have hD:Ds[j]?=some Ds[j]:=apA hj
 obtain⟨xs0,h0,_⟩:=x.own j _ _ hD hc
 refine⟨_,vW hi x hD,⟨Ds[j],xs0,rfl,h0⟩,?_⟩
 refine h se σ H H2 _ x fun d v H1 g1 r1 ⟨kd,p1,p2⟩=>?_
 have x1:=x.go g1 (x.env.mono g1)
 obtain⟨b,rfl⟩:=aaX kd r1
 obtain⟨xs,h1,h2,h3,h4⟩:=x1.own j _ _ hD hc
 refine⟨Ds[j],b,d,xs,rfl,rfl,h1,fun z hz=>⟨(h2 z hz).1,Rep.mono (zh _ _) _ _ (h2 z hz).2⟩,kd.1,Rep.mono (zh _ _) _ _ r1,by omega,fun hd=>n _ _ _ _ x1 (p1 ((h3 d).mp hd)),fun hd xs' pm=>n _ _ _ _ (x1.put se hD (c':=.set (d :: ks)) ⟨xs',zo,fun z hz=>?_,fun e=>?_,?_⟩) (p2 fun z=>hd ((h3 d).mpr z))⟩
 ·rcases apK.mp (pm.mem_iff.mp hz) with rfl | hz
  ·exact⟨kd.1,r1⟩
  ·exact h2 z hz
 ·rw [(pm.map (·.1)).mem_iff,apZ,apK,apK,h3 e]
 ·rw [pm.length_eq,apT,apT]
  omega
end
theorem DicO.ok {P:Program} {w:World} {H:Hp} {h:Heap} {a:Addr} {xs:List (PyData×Addr×Value)} {o:Obj} {es:Array DictEntry} {ep:Nat} (S:DicObj w h a xs o es ep):ObjOk P w H h a (DicO w a xs) :=
 ⟨⟨o,es,ep,S⟩,⟨o,S.ob⟩,fun h1 h2 ⟨o,es,ep,S⟩ k=>⟨o,es,ep,⟨k o S.ob,S.ex,S.da,S.el,S.nd,S.ns⟩⟩⟩
theorem aly {X:Cx} {pins:List (Addr×Obj)} {σ:St} {H:Hp} {s:Shared} (I:Inv X pins σ H s):sysModules<s.heap.objs.size :=
 asd (by decide) (I.ok.mod.glob.keeps I.bk).lt
noncomputable def ag0 (w:World):TE:=fun _ H Q=>∀ p,H p=none->Q (.ref p) (upd H p (DicO w p []))
theorem aic {X:Cx} {w:World} {pos:Pos} (hw:X.w=w):PE X (.Dict [] [] pos) (ag0 w):=by
 subst hw
 intro pins s σ H Q I h
 refine wpAny_Dict_empty ⟨.ref s.heap.objs.size,_,I.laid (a:=s.heap.objs.size) (t':=s.toks) (fun _ _ q=>apH _ q) (apI _) (DicO.ok (xs:=[]) (o:={ cls:=.type "dict",data:=.dict #[] }) (es:=#[]) (ep:=0) ⟨ap5 _ rfl,⟨rfl,rfl,rfl⟩,rfl,rfl,arB,beq_eq_false_iff_ne.mpr (aqP (aqb (aly I)))⟩),rfl,h _ (I.hok.fresh (apI _))⟩
noncomputable abbrev adk (K:apD) (H:Hp) (xs:List (PyData×Addr×Value)):Prop:=∀ z∈xs,vV z.1/\Rep K H z.1 (.ref z.2.1)
theorem ajR {X:Cx} {pins:List (Addr×Obj)} {σ:St} {H:Hp} {s:Shared} {a:Addr} {xs:List (PyData×Addr×Value)} (I:Inv X pins σ H s) (hS:H a=some (DicO X.w a xs)) (ks:adk X.K H xs):s.heap.DictOfH (aaV X.prog X.w) a xs/\(a == sysModules)=false:=by
 obtain⟨⟨o,es,ep,S⟩,_⟩:=I.hok a _ hS
 exact⟨⟨o,es,ep,S.ob,S.ex,S.da,S.el,fun x hx=>vJ I (ks x hx).1 (ks x hx).2,S.nd⟩,S.ns⟩
noncomputable def adl (w:World) (K:apD):V->V->V->Hp->(Hp->Prop)->Prop:=fun o i v H Q=>∃ a b d xs,o=.ref a/\i=.ref b/\H a=some (DicO w a xs)/\adk K H xs/\vV d/\Rep K H d (.ref b)/\xs.length<=1000/\∀ u,RelV v u->Q (upd H a (DicO w a (storedH xs d b u)))
theorem alz {X:Cx} (hu:X.A.units+64<cLine):ak0 X (adl X.w X.K):=by
 intro pins s σ H o i v ov iv u Q I ro ri rv h
 obtain⟨a,b,d,xs,rfl,rfl,hS,ks,kd,rd,hl,q⟩:=h
 cases ro
 cases ri
 obtain⟨hm,ns⟩:=ajR I hS ks
 have hu1:X.A.in1.units=X.A.units+1:=rfl
 refine wpAny_setItem_heap (by show _+40<cLine;omega) (vJ I kd rd) hm (fun h' hm' sb=>?_) (aq4 (zW hl))
 obtain⟨o',es',ep',x1,x2,x3,x4,x5,x6⟩:=hm'
 exact⟨_,I.write (t':=s.toks+zY d) (x:=a) (e:=a) (by rw [hS];exact trivial) (.inl rfl) (fun b u nb e=>(sb.2 b nb).trans e) ⟨o',x1⟩ (DicO.ok ⟨x1,x2,x3,x4,x6,ns⟩),q u rv⟩
theorem aez {X:Cx} {K:apD} {w:World} (hw:X.w=w) (hK:X.K=K) (hu:X.A.units+64<cLine):ak0 X (adl w K):=hw▸hK▸alz hu
noncomputable def afL (w:World) (K:apD):R2:=fun x y H Q=>∃ a b d xs p v,x=.ref a/\y=.ref b/\H a=some (DicO w a xs)/\adk K H xs/\vV d/\Rep K H d (.ref b)/\atKey xs d=some p/\RelV v p.2/\Q v H
theorem anF {X:Cx} (hu:X.A.units+64<cLine):IxR X (afL X.w X.K):=by
 intro value slice pins s σ H x y v u Q I rx ry h hs
 obtain⟨a,b,d,xs,p,z,rfl,rfl,hS,ks,kd,rd,hp,rz,q⟩:=h
 cases rx
 cases ry
 obtain⟨hm,ns⟩:=ajR I hS ks
 have hu1:X.A.in1.units=X.A.units+1:=rfl
 refine subscriptTail_builtinR (x:=p.2) hm.typeIs asV.lookup ?_ hs
 exact wpAny_getItem_heap (by show _+40<cLine;omega) (vJ I kd rd) hm hp ⟨rfl,z,H,I.tok _,rz,q⟩
theorem alA {X:Cx} {K:apD} {w:World} (hw:X.w=w) (hK:X.K=K) (hu:X.A.units+64<cLine):IxR X (afL w K):=hw▸hK▸anF hu
noncomputable def dput (k v:PyData) (kvs:List (PyData×PyData)):List (PyData×PyData):=if k∈kvs.map (·.1) then kvs.map (fun p=>if p.1=k then (p.1,v) else p) else kvs++[(k,v)]
noncomputable def vX (k:PyData) (kvs:List (PyData×PyData)):Option PyData:=(kvs.find? fun p=>decide (p.1=k)).map (·.2)
section
variable {K:apD} {Hh:Hp}
theorem ag1:∀ {xs:List (PyData×Addr×Value)} {kvs:List (PyData×PyData)},Paired (EntR K Hh) xs kvs->xs.length=kvs.length
 | _,_,.nil=>rfl
 | _,_,.cons _ t=>by rw [apT,apT,ag1 t]
theorem qY:∀ {xs:List (PyData×Addr×Value)} {kvs:List (PyData×PyData)},Paired (EntR K Hh) xs kvs->adk K Hh xs
 | _,_,.nil=>fun z hz=>nomatch hz
 | _,_,.cons h t=>fun z hz=>by
  rcases apK.mp hz with rfl | hz
  ·exact⟨h.2.1,h.2.2.1⟩
  ·exact qY t z hz
theorem adm (k:PyData):∀ {xs:List (PyData×Addr×Value)} {kvs:List (PyData×PyData)},Paired (EntR K Hh) xs kvs->(atKey xs k=none/\vX k kvs=none/\k∉kvs.map (·.1)) \/ ∃ p d v,atKey xs k=some p/\vX k kvs=some d/\Rep K Hh d v/\RelV v p.2/\k∈kvs.map (·.1)
 | _,_,.nil=>.inl ⟨rfl,rfl,fun z=>nomatch z⟩
 | x :: xs,p :: kvs,.cons ⟨h1,h2,h3,v,h4,h5⟩ t=>by
  by_cases e:x.1=k
  ·refine .inr ⟨x.2,p.2,v,?_,?_,h4,h5,?_⟩
   ·unfold atKey;rw [asA,decide_eq_true e];rfl
   ·unfold vX;rw [asA,decide_eq_true (h1▸e)];rfl
   ·rw [apZ];exact apK.mpr (.inl (h1▸e).symm)
  ·have e':¬ p.1=k:=fun z=>e (h1.trans z)
   have a1:atKey (x :: xs) k=atKey xs k:=by unfold atKey;rw [asA,decide_eq_false e]
   have a2:vX k (p :: kvs)=vX k kvs:=by unfold vX;rw [asA,decide_eq_false e']
   rw [a1,a2,apZ]
   rcases adm k t with⟨b1,b2,b3⟩ | ⟨q,d,u,b1,b2,b3,b4,b5⟩
   ·exact .inl ⟨b1,b2,fun z=>(apK.mp z).elim (fun z=>e' z.symm) b3⟩
   ·exact .inr ⟨q,d,u,b1,b2,b3,b4,apG _ b5⟩
theorem ag2 (k:PyData) {d:PyData} {v:V} {u:Value} (rd:Rep K Hh d v) (rv:RelV v u):∀ {xs:List (PyData×Addr×Value)} {kvs:List (PyData×PyData)},Paired (EntR K Hh) xs kvs->Paired (EntR K Hh) (xs.map (putAt k u)) (kvs.map fun p=>if p.1=k then (p.1,d) else p)
 | _,_,.nil=>.nil
 | x :: xs,p :: kvs,.cons ⟨h1,h2,h3,w,h4,h5⟩ t=>by
  rw [apZ,apZ]
  refine .cons ?_ (ag2 k rd rv t)
  unfold putAt
  by_cases e:x.1=k
  ·rw [if_pos e,if_pos (h1▸e)]
   exact⟨h1,h2,h3,v,rd,rv⟩
  ·rw [if_neg e,if_neg (fun z=>e (h1.trans z))]
   exact⟨h1,h2,h3,w,h4,h5⟩
theorem ag3 {x:PyData×Addr×Value} {p:PyData×PyData} (h:EntR K Hh x p):∀ {xs:List (PyData×Addr×Value)} {kvs:List (PyData×PyData)},Paired (EntR K Hh) xs kvs->Paired (EntR K Hh) (xs++[x]) (kvs++[p])
 | _,_,.nil=>.cons h .nil
 | _,_,.cons h' t=>.cons h' (ag3 h t)
theorem alB {k d:PyData} {b:Addr} {v:V} {u:Value} (kk:vV k) (rk:Rep K Hh k (.ref b)) (rd:Rep K Hh d v) (rv:RelV v u) {xs:List (PyData×Addr×Value)} {kvs:List (PyData×PyData)} (t:Paired (EntR K Hh) xs kvs):Paired (EntR K Hh) (storedH xs k b u) (dput k d kvs):=by
 unfold storedH dput
 rcases adm k t with⟨b1,b2,b3⟩ | ⟨q,d',v',b1,b2,b3,b4,b5⟩
 ·rw [b1,if_neg (by simp),if_neg b3]
  exact ag3 ⟨rfl,kk,rk,v,rd,rv⟩ t
 ·rw [b1,if_pos (show (some q).isSome=true from rfl),if_pos b5]
  exact ag2 k rd rv t
end
section
variable {w:World} {K:apD} {f:Fx} {Ds:List Addr} {ρ:zp} {cs:List OC} {te tk:TE} {O:MEnds} {i j:Nat} {kvs:List (PyData×PyData)}
theorem anG {P:OC->Prop} (p:P (.dic [])):ajN w K f (ag0 w) ρ P:=fun σ H Q e q =>
 fun a hn=>q (.dic []) a _ (.of_same (zI hn _) e.fd) hn ⟨[],zo,.nil⟩ p
theorem amF (hi:ρ[i]?=some (some (.own (f.M.length+j)))) (hc:cs[j]?=some (.dic kvs)) (hl:kvs.length<=1000)
  (h:PEd K (f.withs Ds) te ρ fun v=>PEd K (f.withs Ds) tk ρ fun k=>aia k/\O.nx ρ (cs.set j (.dic (dput k v kvs)))) :
  PSm w K f Ds (qc te (acG (yp i) tk (adl w K))) ρ cs O:=fun se σ H H2 E x n r b k=>by
 have hj:j<Ds.length:=by rw [<-x.len];exact (apE.mp hc).1
 have hD:Ds[j]?=some Ds[j]:=apA hj
 refine h σ H _ x.env fun v vv H1 g1 r1 p1=>?_
 have x1:=x.go g1 (x.env.mono g1)
 refine⟨_,vW hi x1 hD,?_⟩
 refine p1 σ H1 _ x1.env fun kd kv H3 g3 r3 ⟨kt,p3⟩=>?_
 have x3:=x1.go g3 (x1.env.mono g3)
 obtain⟨b',rfl⟩:=aaX kt r3
 obtain⟨xs,h1,h2⟩:=x3.own j _ _ hD hc
 have rv:=Rep.mono g3.sm _ _ r1
 refine⟨Ds[j],b',kd,xs,rfl,rfl,h1,fun z hz=>⟨(qY h2 z hz).1,Rep.mono (zh _ _) _ _ (qY h2 z hz).2⟩,kt.1,Rep.mono (zh _ _) _ _ r3,by rw [ag1 h2];exact hl,fun u ru=>?_⟩
 exact n _ _ _ _ (x3.put se hD (c':=.dic (dput kd v kvs)) ⟨_,zo,alB kt.1 r3 rv ru h2⟩) p3
theorem ao0 {P:PyData->Prop} (hi:ρ[i]?=some (some (.own (f.M.length+j)))) (hc:cs[j]?=some (.dic kvs)) (h:PEm w K f Ds tk ρ cs fun k=>aia k/\∃ d,vX k kvs=some d/\P d):PEm w K f Ds (tOp (afL w K) (yp i) tk) ρ cs P:=fun se σ H H2 Q x q=>by
 have hj:j<Ds.length:=by rw [<-x.len];exact (apE.mp hc).1
 have hD:Ds[j]?=some Ds[j]:=apA hj
 refine⟨_,vW hi x hD,?_⟩
 refine h se σ H H2 _ x fun k v H1 g1 r1 ⟨kt,d,hd,p⟩=>?_
 have x1:=x.go g1 (x.env.mono g1)
 obtain⟨b,rfl⟩:=aaX kt r1
 obtain⟨xs,h1,h2⟩:=x1.own j _ _ hD hc
 rcases adm k h2 with⟨b1,b2,b3⟩ | ⟨pp,d',v',b1,b2,b3,b4,b5⟩
 ·rw [b2] at hd;cases hd
 ·rw [b2] at hd
  cases hd
  exact⟨Ds[j],b,k,xs,pp,v',rfl,rfl,h1,fun z hz=>⟨(qY h2 z hz).1,Rep.mono (zh _ _) _ _ (qY h2 z hz).2⟩,kt.1,Rep.mono (zh _ _) _ _ r1,b1,b4,q _ _ H1 g1 b3 p⟩
theorem ao1 (h:PEm w K f Ds te ρ cs O.rt):PSm w K f Ds (afk te) ρ cs O:=fun se σ H H2 E x n r b k =>
 h se σ H H2 _ x fun d v H' g' r' p=>r d v ρ cs σ H' (x.go g' (x.env.mono g')) (Rep.mono same_withs d v r') p
end
noncomputable def alC (K:apD) (ns:List Int) (v:Value):Bool:=match v with
 | .ref t=>(match K.lookup t with
  | some o=>o.cls == .type "tuple" && (match o.data with
   | .seq its _=>KTD.intsLook its.toList ns && decide (its.size<=1000)
   | _=>false)
  | none=>false)
 | _=>false
noncomputable def aid (K:apD) (a:Addr) (D:List (Str×List Int)):Bool:=!(a == sysModules) && (match K.lookup a with
 | some o=>o.cls == .type "dict" && o.dict.isNone && o.slots.isEmpty && (match o.data with
  | .dict es _=>KTD.rowsLook (alC K) es.toList D
  | _=>false)
 | none=>false)
theorem ach:∀ {vs:List Value} {ns:List Int},IntsAre vs ns->Vals (ns.map V.int) vs
 | _,_,.nil=>.nil
 | _,_,.cons n t h=>.cons ⟨t,rfl⟩ (ach h)
theorem anH {K:apD} {ns:List Int} {v:Value} (h:alC K ns v=true):∃ t,v=.ref t/\∀ H,SqT K H t (ns.map V.int):=by
 unfold alC at h
 split at h
 ·rename_i t
  split at h
  ·rename_i o ho
   rw [apO] at h
   obtain⟨h1,h2⟩:=h
   split at h2
   ·rename_i its n hd
    rw [apO] at h2
    exact⟨t,rfl,fun H=>.inr ⟨o,its,n,ho,beq_iff_eq.mp h1,hd,aq4 (zW (of_decide_eq_true h2.2)),ach (KTD.ints_of_look h2.1)⟩⟩
   ·cases h2
  ·cases h
 ·cases h
noncomputable def ao2 (K:apD) (D:List (Str×List Int)) (tk:TE):TE:=fun σ H Q=>tk σ H fun y H1=>∃ x ns,y=.str x/\atP x D=some ns/\∀ t,(∀ H',SqT K H' t (ns.map V.int))->Q (.ref t) H1
theorem ajS {X:Cx} {K:apD} {x:Str} {a:Addr} {D:List (Str×List Int)} {key:Expr} {tk:TE} {p pos:Pos} (hK:X.K=K) (hg:Gl X x) (hm:X.mg x=some (.ref a)) (hT:aid K a D=true) (hk:PE X key tk) (hs:ags key) (hd:(x == ("__debug__":Str))=false:=by decide) :
  PE X (.Subscript (.Name x p) key pos) (ao2 K D tk):=by
 subst hK
 intro pins s σ H Q I h
 unfold aid at hT
 rw [apO] at hT
 obtain⟨h0,hT⟩:=hT
 split at hT
 case h_2=>cases hT
 case h_1 o ho =>
  simp only [apO] at hT
  obtain⟨⟨⟨e1,e2⟩,e3⟩,e4⟩:=hT
  split at e4
  case h_2=>cases e4
  case h_1 es ep hdat =>
   have rows:KTD.Rows (fun ns v=>alC X.K ns v=true) es.toList D:=KTD.rows_of_look (fun _ _ z=>z) e4
   refine Subscript_ (qv I hg hm ?_ hd)
   refine thn (hk pins s σ H _ I h) fun u s1 ⟨y,H1,I1,ry,z,ns,ey,dat,q⟩=>?_
   subst ey
   obtain⟨tk',rfl⟩:=ry
   have ho1:s1.heap.get? a=some o:=I1.kIn a o ho
   have hT1:s1.TypeIs (.ref a) "dict":=⟨o,ho1,beq_iff_eq.mp e1⟩
   obtain⟨v,hv,hr⟩:=rows.find_some dat
   obtain⟨t,rfl,sq⟩:=anH hr
   refine subscriptTail_builtinR (x:=.ref t) hT1 asV.lookup ?_ (hs _ _)
   unfold getItem
   try with_reducible refine wpAny_holding ?_
   apply wpAny_bind;refine wpAny_sequenceKey hT1 (by decide) ?_
   apply wpAny_bind
   refine wpAny_callSpecial?_slot (name:=aqh "__getitem__") hT1 slot_dict_getitem (wpAny_call_entry slot_dict_getitem hT1 entry_dict_getitem ?_ (args_dict_getitem _ _))
   show wpAny _ _ (dictGet a (.str z tk') >>= _) _ _ s1
   apply wpAny_bind
   unfold dictGet
   try with_reducible refine wpAny_holding ?_
   apply wpAny_bind;apply wpAny_pyHash_str
   apply wpAny_bind
   refine KTD.kt_dictFind_strs (s:={ s1 with toks:=s1.toks+1 }) ho1 hdat (by obtain⟨l⟩:=es;simpa using rows.exact) ?_
   cases hi:es.findIdx? fun e=>e.key.isStr z with
   | none =>
    exfalso
    have hn:es.toList.find? (fun e=>e.key.isStr z)=none:=by
     rw [List.find?_eq_none]
     intro e he
     have:=Array.findIdx?_eq_none_iff.mp hi e (arQ.mp he)
     simpa using this
    rw [hn] at hv
    cases hv
   | some i =>
    obtain⟨hlt,hi1,hi2⟩:=Array.findIdx?_eq_some_iff_getElem.mp hi
    have hval:es[i].val=.ref t:=by
     have hf:es.toList.find? (fun e=>e.key.isStr z)=some es[i]:=by
      rw [List.find?_eq_some_iff_getElem]
      refine⟨hi1,i,by simpa using hlt,by simp,fun j hj=>?_⟩
      have:=hi2 j hj
      simpa using this
     rw [hf] at hv
     exact Option.some.inj hv
    apply wpAny_bind
    refine wpAny_dictEntries (s:={ s1 with toks:=s1.toks+1 }) ho1 hdat (wpAny_pure ?_)
    rw [asU hlt]
    refine wpAny_pure ⟨es[i].val,rfl,wpAny_pure ?_⟩
    rw [hval]
    exact⟨rfl,.ref t,H1,I1.tok _,rfl,q t sq⟩
section
variable {K:apD} {f:Fx} {ρ:zp} {P:PyData->Prop} {tk:TE} {D:List (Str×List Int)}
theorem amG (h:PEd K f tk ρ fun y=>∃ x ns,y=.str x/\atP x D=some ns/\P (.tuple (ns.map .int))):PEd K f (ao2 K D tk) ρ P:=fun σ H Q e q =>
 h σ H _ e fun y v H1 g1 r1 ⟨x,ns,ey,hd,p⟩=>by
  subst ey
  exact⟨x,ns,rep_str.mp r1,hd,fun t sq=>q _ _ H1 g1 (rep_tuple.mpr ⟨t,ns.map V.int,rfl,sq _,Reps.ints' ns⟩) p⟩
end
structure MinAt (h0:Heap) (its:List Value) (ds:List PyData) (as:List Addr):Prop where
 ra:ReadsAll h0 its ds as
 pl:∀ d∈ds,zz d=true
 cp:∀ d∈ds,∀ e∈ds,aaN d e=true
 dp:∀ d∈ds,d.depth<=50
section
variable {w:World} {K:apD} {f:Fx} {Ds:List Addr} {ρ:zp} {cs:List OC} {O:MEnds} {tt:TT} {te:TE} {i j n:Nat}
noncomputable abbrev ag4 (K:apD):List V->Hp->VK->Prop:=fun xs H Q=>∃ p ys,xs=[V.ref p]/\(SqL K H p ys \/ SqT K H p ys)/\∀ l,H l=none->Q (V.ref l) (upd H l (HO.lst ys))
end
end L2
end
section
namespace L2
open PySem PySem.Spec PyProof.Rows
structure TM (K:apD) (f:Fx) (a:Addr) (as:List Addr) (H2:Hp) (ρ:zp) (rows:List (List Int)) (σ:St) (H:Hp):Prop where
 env:EnvOk K (f.withs (a :: as)) ρ σ H
 sm:Same (hide H2 (f.withs (a :: as))) (hide H (f.withs (a :: as)))
 kp:∀ b∈f.M,H b=H2 b
 tab:TabAt H a as rows
section
variable {K:apD} {f:Fx} {a:Addr} {as:List Addr} {ρ ρ2:zp} {rows:List (List Int)} {O:zp->List (List Int)->Prop} {ts tu:TS} {te ty tx:TE} {i:Nat} {σ σ2:St} {H H' H2:Hp}
theorem TabAt.keep (t:TabAt H a as rows) (h:∀ b∈a :: as,H' b=H b):TabAt H' a as rows :=
 ⟨(h a (apJ ..)).trans t.top,t.nd,t.len,fun i x r h1 h2=>(h x (apG _ (apN h1))).trans (t.row i x r h1 h2)⟩
theorem aci {Ds:List Addr} (g:Same (hide H f) (hide H' f)) (hn:∀ D∈Ds,H D=none):Same (hide H f) (hide H' (f.withs Ds)):=fun b o hb=>by
 have hb1:=g b o hb
 refine zu (fun z=>?_) (zA hb1).2
 rcases z with z | z
 ·exact (zA hb1).1 (.inl z)
 ·rcases apW.mp z with z | z
  ·have:=(zA hb).2
   rw [hn b (aqg.mp z)] at this
   cases this
  ·exact (zA hb1).1 (.inr z)
theorem anI {P:List PyData->Prop} (h:PEd K f te ρ fun x=>∃ ds,x=.list ds/\P ds):PEdL K f (tCB (ag4 K) (zQ te yJ)) ρ P:=fun σ H Q e q=>h σ H _ e fun x v H1 g1 r1 ⟨ds,ex,p⟩=>by
 subst ex
 obtain⟨a,ys,rfl,s1,s2⟩:=rep_list.mp r1
 refine⟨a,ys,rfl,.inl ((zh _ _).seq s1),fun l hn=>?_⟩
 have g2:Goes f H1 (upd H1 l (.lst ys)):=.of_same (zI hn _) g1.2
 exact q ds l ys _ (g1.trans g2) (g1.free e.fd hn) zo (Reps.mono g2.1 ds ys s2) p
theorem anJ {P:List (List Int)->Prop} (hi:ρ[i]?=some (some (.dat (.list (rows.map fun r=>.list (r.map .int)))))) (hl:rows.length<=1000) (p:P rows) :
  ajk K f (jP (abY K (yp i)) 1 [] (yR 0) ad2 fun D=>jO D (tCB (ag4 K) (zQ (yp 0) yJ))) ρ P:=by
 refine anj (zq hi ⟨_,rfl,by rw [apC];exact hl,fun k r=>rows[k]?=some r,fun D k d hd=>?_,fun rows' hl' hr=>?_⟩)
 ·rw [apM] at hd
  cases e:rows[k]? with
  | none=>rw [e] at hd;cases hd
  | some r =>
   rw [e] at hd
   cases hd
   exact anI (zq rfl ⟨_,rfl,r,rfl,e⟩)
 ·have:rows'=rows:=by
   refine asb fun k=>?_
   rw [apC] at hl'
   by_cases h:k<rows'.length
   ·rw [apA h]
    exact (hr k _ (apA h)).symm
   ·rw [ap7 (by omega),ap7 (by omega)]
  rw [this]
  exact p
end
end L2
end
section
namespace L2
open PySem PySem.Spec PyProof.Rows
section
variable {K:apD} {f:Fx} {ρ:zp} {ts tu:TS} {O:DEnds} {te:TE} {i:Nat}
theorem ajT (J:zp->Prop) (h1:PSd K f ts ρ { O with nx:=J }) (h2:∀ ρ',J ρ'->PSd K f tu ρ' O):PSd K f (jL ts tu) ρ O :=
 z6 fun σ H E e n r b k=>h1 σ H E e (fun ρ' σ' H' g' e' p=>n ρ' σ' H' g' e' (h2 ρ' p)) r b k
theorem ao3 {w:World} {Ds:List Addr} {cs:List OC} {O:MEnds} (J:zp->List OC->Prop) (h1:PSm w K f Ds ts ρ cs { O with nx:=J }) (h2:∀ ρ' cs',J ρ' cs'->PSm w K f Ds tu ρ' cs' O):PSm w K f Ds (jL ts tu) ρ cs O :=
 qR fun se σ H H2 E x n r b k=>h1 se σ H H2 E x (fun ρ' cs' σ' H' x' p=>n ρ' cs' σ' H' x' (h2 ρ' cs' p)) r b k
end
end L2
end
section
namespace L2
open PySem PySem.Spec PyProof.Rows
end L2
end
section
namespace L2
open PySem PySem.Spec PyProof.Rows
end L2
end
section
namespace L2
open PySem PySem.Spec PyProof.Rows
open PySem.SeqAt
open PySem.AutoSeq1 (wpAny_loadPart')
noncomputable def apx (A:Around) (s:Shared) (y x:Value) (b:Bool):Prop :=
 ∀ (prog:Program) (w:World) (E:Value->Shared->Prop) (Q:Value->Shared->Prop),Q (.bool b) s->wpAny (model prog w) A (richCompare .GtE y x) Q E s
inductive Gex (A:Around) (s:Shared):List Value->List Value->Bool->Prop where
 | nn:Gex A s [] [] true
 | eq {v w vs ws b}:EqAt A s v w true->Gex A s vs ws b->Gex A s (v :: vs) (w :: ws) b
 | ge {v w vs ws b}:EqAt A s v w false->apx A s v w b->vs.length=ws.length->Gex A s (v :: vs) (w :: ws) b
noncomputable def adn (o:Obj):Option Value:=match o.data with
 | .fields vs=>vs[2]?
 | _=>none
noncomputable def KD (h h':Heap):Prop:=∀ b o,h.get? b=some o->∃ u,h'.get? b=some u/\u.dict=o.dict/\adn u=adn o
theorem KD.refl (h:Heap):KD h h:=fun _ o e=>⟨o,e,rfl,rfl⟩
theorem KD.trans {h i j:Heap} (a:KD h i) (b:KD i j):KD h j:=fun c o e =>
 let⟨u,e1,d1,f1⟩:=a c o e
 let⟨v,e2,d2,f2⟩:=b c u e1
 ⟨v,e2,d2.trans d1,f2.trans f1⟩
theorem KD.push (h:Heap) (o:Obj):KD h (h.push o):=fun _ u e=>⟨u,apH _ e,rfl,rfl⟩
theorem KD.update (h:Heap) (a:Addr) (f:Obj->Obj) (k:∀ o,(f o).dict=o.dict/\(f o).isFreed=o.isFreed/\adn (f o)=adn o):KD h (h.update a f):=fun b o e=>by
 by_cases q:a=b
 ·subst q
  exact⟨f o,aq2 f e (by rw [(k o).2.1];exact (Heap.get?_some_iff.mp e).2),(k o).1,(k o).2.2⟩
 ·exact⟨o,(aqt h f q).trans e,rfl,rfl⟩
noncomputable def yv {α:Type} (t:Sem α):Prop:=∀ (M:Model) (Γ:PySem.Ctx) (Q:α->Pos->Shared->Prop) (E:Value->Pos->Shared->Prop) (p:Pos) (s:Shared),
 Sem.wp M Γ t Q E p s->Sem.wp M Γ t (fun a p' s'=>Q a p' s'/\KD s.heap s'.heap) E p s
section
variable {α β:Type}
theorem ado (a:α):yv (pure a:Sem α):=fun _ _ _ _ _ s h=>⟨h,.refl _⟩
theorem anK (x:String):yv (unsupported x:Sem α):=fun _ _ _ _ _ _ h=>h
theorem ag5 {m:Sem α} {f:α->Sem β} (a:yv m) (b:∀ x,yv (f x)):yv (m >>= f):=fun M Γ Q E p s h=>by
 rw [Sem.wp_bind'] at h ⊢
 refine aud M Γ m (fun x p' s' z=>?_) (fun _ _ _ z=>z) p s (a M Γ _ E p s h)
 exact aud M Γ (f x) (fun _ _ _ y=>⟨y.1,z.2.trans y.2⟩) (fun _ _ _ y=>y) p' s' (b x M Γ Q E p' s' z.1)
theorem anL {c:Prop} [Decidable c] {t u:Sem α} (a:yv t) (b:yv u):yv (if c then t else u):=by split <;> assumption
theorem alD (a:Addr):yv (load a):=fun _ _ _ _ _ _ h=>let⟨o,e,q⟩:=h;⟨o,e,q,.refl _⟩
theorem ajU:yv stack:=fun _ _ _ _ _ _ h=>⟨h,.refl _⟩
theorem ajV (o:Obj):yv (alloc o):=fun _ _ _ _ _ _ h=>⟨h,.push _ _⟩
theorem aie (a:Addr) (f:Obj->Obj) (k:∀ o,(f o).dict=o.dict/\(f o).isFreed=o.isFreed/\adn (f o)=adn o):yv (update a f):=fun _ _ _ _ _ _ h=>⟨h.1,h.2,.update _ _ _ k⟩
end
local macro_rules | `(tactic| walk_at "kd")=>`(tactic| with_reducible first
  | assumption
  | exact ado _
  | exact anK _
  | exact alD _
  | exact kd_loadPart _ _
  | exact ajU
  | exact ajV _
  | exact kd_reg _
  | apply anL
  | apply ag5
  | intro _
  | split)
theorem abt (v:Value) (i:Nat):yv (field v i):=fun _ Γ Q E p s h=>by
 obtain⟨a,o,vs,x,h1,h2,h3,h4,h5⟩:=(wp_field_iff Γ v i Q E p s).mp h
 exact (wp_field_iff Γ v i _ E p s).mpr ⟨a,o,vs,x,h1,h2,h3,h4,h5,.refl _⟩
theorem aaI (v:Value) (i:Nat) (x:Value) (hi:i≠2):yv (setField v i x):=fun _ Γ Q E p s h=>by
 obtain⟨a,o,vs,h1,h2,h3,h4,h5⟩:=(wp_setField_iff Γ v i x Q E p s).mp h
 refine (wp_setField_iff Γ v i x _ E p s).mpr ⟨a,o,vs,h1,h2,h3,h4,h5,.update _ _ _ fun u=>?_⟩
 obtain⟨c,d,dt,sl⟩:=u
 cases dt <;> first | exact⟨rfl,rfl,rfl⟩ | exact⟨rfl,rfl,asm hi⟩
theorem aif (env:Env) (l:List Env):yv (behindIsImport env l):=by
 unfold behindIsImport
 have:=abt env.code 12
 repeat' walk_at "kd"
theorem aih:yv underTheClaimsCaller:=by
 unfold underTheClaimsCaller
 repeat' walk_at "kd"
theorem alE (env:Env) (i:Bool) (l:List Env):yv (keptBack env i l):=by
 have:=aih
 cases l <;> unfold keptBack <;> repeat' walk_at "kd"
theorem aeA:∀ l:List Env,yv (readyFrames l)
 | []=>ado _
 | env :: l=>by
  have ih:=aeA l
  have h1:=aif env l
  have h2:=fun i=>alE env i l
  unfold readyFrames
  repeat' (first | walk_at "kd" | exact h2 _ | (refine aie _ _ fun⟨c,d,dt,sl⟩=>?_;cases dt <;> exact⟨rfl,rfl,rfl⟩))
theorem ajW (env:Env):yv (PySem.frameOf env):=by
 unfold PySem.frameOf frameEnvs
 have h2:∀ l,yv (frameObject l):=fun l=>by
  cases l with
  | nil=>exact ado _
  | cons a l =>
   have:=aeA (a :: l)
   unfold frameObject
   repeat' walk_at "kd"
 repeat' (first | walk_at "kd" | exact h2 _)
theorem aao (e:Value) (f:Option Addr):yv (setFlight e f):=by
 unfold setFlight
 repeat' (first | walk_at "kd" | exact abt _ _ | exact aaI _ _ _ (by decide))
theorem ajX (f:Addr) (b:Bool):yv (entryPlaceOf f b):=by
 unfold entryPlaceOf
 repeat' walk_at "kd"
theorem ajY (a b c d e:Value) (l:List Value):yv (atY a b c d e l):=by
 unfold atY newFields newObj newObjAsIs classHasDel
 repeat' walk_at "kd"
theorem ag6 (e:Value) (env:Env):yv (noteFrame e env):=by
 unfold noteFrame
 repeat' (first | walk_at "kd" | exact abt _ _ | exact aaI _ _ _ (by decide) | exact ajW _ | exact ajX _ _ | exact ajY _ _ _ _ _ _)
theorem aeB (env:Env) (e:Value):yv (leaving env e):=by
 unfold leaving
 exact ag5 (ag6 _ _) fun _=>aao _ _
theorem aeC {α:Type} {t:Sem α} {M:Model} {A:Around} {Q Q':α->Shared->Prop} {E:Value->Shared->Prop} {s:Shared} (k:yv t) (h:wpAny M A t Q E s) (q:∀ a s',Q a s'->KD s.heap s'.heap->Q' a s'):wpAny M A t Q' E s:=fun Γ p hΓ =>
 aud M Γ t (fun a _ s' z=>q a s' z.1 z.2) (fun _ _ _ z=>z) p s (k M Γ _ _ p s (h Γ p hΓ))
noncomputable def Dct (a:Addr) (o:Option Addr) (h:Heap):Prop:=∃ u,h.get? a=some u/\adn u=some .none/\∀ dx,o=some dx->u.dict=some dx
theorem Dct.kd {a:Addr} {o:Option Addr} {h h':Heap} (x:Dct a o h) (k:KD h h'):Dct a o h' :=
 let⟨u,q,f,d⟩:=x
 let⟨v,q2,d2,f2⟩:=k a u q
 ⟨v,q2,f2.trans f,fun dx e=>d2.trans (d dx e)⟩
noncomputable def CXf (P:Program) (w:World):CXT:=fun outer H s E e s'=>∃ a C o H',e=.ref a/\XLie P w outer H s a C H' s'/\Dct a o s'.heap/\E C o H'
noncomputable def yz (a:Addr) (C:Value) (o:Option Addr) (h:Heap):Prop:=∃ t,h.get? a=some { cls:=C,dict:=o,data:=.fields #[.ref t,.none,.none,.none,.bool false,.none] }
noncomputable def drp (H:Hp) (a:Addr):Hp:=fun b=>if b=a then none else H b
theorem abu {H:Hp} {a:Addr}:drp H a a=none:=by unfold drp;rw [if_pos rfl]
theorem qA {H:Hp} {a b:Addr} (h:b≠a):drp H a b=H b:=by unfold drp;rw [if_neg h]
theorem ajZ {H:Hp} {a b:Addr} {o:HO} (h:drp H a b=some o):b≠a/\H b=some o:=by
 by_cases e:b=a
 ·rw [e,abu] at h;cases h
 ·rw [qA e] at h;exact⟨e,h⟩
section
variable {X:Cx} {pins:List (Addr×Obj)} {σ:St} {H H':Hp} {s s':Shared} {a dx:Addr} {C:Value} {o:Option Addr}
theorem aii {E:Value->Shared->Prop} (I:Inv X pins σ H s) (hst:X.stack=X.env :: X.outer) (hf:X.env.frame=some X.env.locals) (hex:X.ex=[]) (x:XLie X.prog X.w X.stack H s a C H' s') (d:Dct a o s'.heap) :
  wpAny (model X.prog X.w) X.A (leaving X.env (.ref a)) (fun _ s''=>XLie X.prog X.w X.outer X.H₀ X.s₀ a C H' s''/\Dct a o s''.heap) E s' :=
 aeC (aeB _ _) (ajr I hst hf hex x) fun _ s'' y k=>⟨y,d.kd k⟩
theorem afM {E:Value->Shared->Prop} (I:Inv X pins σ H s) (hst:X.stack=X.env :: X.outer) (hf:X.env.frame=some X.env.locals) (hex:X.ex=[]) (ha:H a=some (.ext (yz a C (some dx)))) (hnew:X.s₀.heap.get? a=none) :
  wpAny (model X.prog X.w) X.A (leaving X.env (.ref a)) (fun _ s''=>XLie X.prog X.w X.outer X.H₀ X.s₀ a C (drp H a) s''/\Dct a (some dx) s''.heap) E s:=by
 obtain⟨⟨t,hu⟩,_,_⟩:=I.hok a _ ha
 have ex0:∀ b:Addr,b∉X.ex:=fun b=>by rw [hex];simp
 have hsub:∀ env∈X.env :: X.outer,∀ b,env.frame=some b->b∈a :: frs X.stack:=fun env he b hb=>by
  rw [hst]
  exact apG _ (arF.mpr ⟨env,he,hb⟩)
 have ff:=I.stack
 rw [hst] at ff
 have inF:∀ b,b∈frs X.outer->b∈frs X.stack:=fun b hb=>by
  rw [hst]
  unfold frs
  rw [aqZ,hf]
  exact apG _ hb
 have hid:∀ {b:Addr} {v:Obj},s.heap.get? b=some v->b≠a->b∉frs X.stack->(ar2 s.heap (a :: frs X.stack)).get? b=some v:=fun q n1 n2=>atU _ q fun z=>(apK.mp z).elim n1 n2
 have hen:(ar2 s.heap (a :: frs X.stack)).get? a=none:=atD _ (apJ ..)
 refine aeC (aeB _ _) (wpAny_leaving_firstW (base:=ar2 s.heap (a :: frs X.stack)) (oe:={ cls:=C,dict:=some dx,data:=.fields #[.ref t,.none,.none,.none,.bool false,.none] }) (a0:=.ref t) (by rw [I.ok.frames,hst]) (PySem.W.funFrames_hide ff hsub) hf hu (fun b v hb=>PySem.W.of_hideAll _ hb) hen rfl rfl rfl
  (Q:=fun _ s''=>XLie X.prog X.w X.outer X.H₀ X.s₀ a C (drp H a) s'') fun h' hL=>?_) fun _ s'' y k=>⟨y,Dct.kd ⟨_,hu,rfl,fun d e=>e⟩ k⟩
 obtain⟨k1,⟨_,_,k2⟩,k3,up⟩:=hL
 have kp:∀ b v,s.heap.get? b=some v->b≠a->b∉frs X.stack->h'.get? b=some v:=fun b v q n1 n2=>k1 b v (hid q n1 n2)
 have ne:∀ {b:Addr} {v:Obj},X.s₀.heap.get? b=some v->b≠a:=fun q e=>by rw [e,hnew] at q;cases q
 have slots:∀ b v,b∈frs X.outer->s.heap.get? b=some v->∃ sl,h'.get? b=some { v with slots:=sl }:=fun b v hb q=>by
  obtain⟨_,o1,q1,hd⟩:=I.stack.mem (b:=b) (inF b hb)
  rw [q] at q1
  cases q1
  exact up b v q hd
 have trk:∀ b v,drp H a b=some v->∃ w,s.heap.get? b=some w/\b≠a/\b∉frs X.stack:=fun b v e=>by
  obtain⟨n1,e⟩:=ajZ e
  obtain⟨w,q⟩:=(I.hok b v e).is
  exact⟨w,q,n1,fun z=>by rw [I.stkFree b z] at e;cases e⟩
 have inB:∀ b v,X.s₀.heap.get? b=some v->b∉frs X.outer->∃ o',(ar2 s.heap (a :: frs X.stack)).get? b=some o':=fun b v q hb=>by
  obtain⟨o1,q1⟩:=I.base.there b v q (ex0 b)
  exact⟨o1,hid q1 (ne q) (I.old_ne hst hf q hb)⟩
 have na:∀ {b:Addr} {v:HO},H b=some v->(∀ φ,v≠.ext φ)->b≠a:=fun {b v} q n e=>by
  rw [e,ha] at q
  cases q
  exact n _ rfl
 refine⟨I.os,I.bare,⟨fun b v q n hb _=>kp b v (I.base.keep b v q n hb (ex0 b)) (ne q) (I.old_ne hst hf q hb),fun b v q n hb _=>?_,fun b v q n _=>?_,fun b v q _=>?_,fun b xs q=>?_,fun b v w q=>?_,fun b ps q=>?_⟩,fun b v e=>?_,⟨_,_,⟨k1,hen,k2,k3⟩,inB,fun b v e=>?_⟩,hnew,abu⟩
 ·obtain⟨sl,q1⟩:=I.base.slot b v q n hb (ex0 b)
  obtain⟨sl',q2⟩:=slots b _ hb q1
  exact⟨sl',q2⟩
 ·rw [qA (ne q)];exact I.base.free b v q n (ex0 b)
 ·obtain⟨o1,q1⟩:=I.base.there b v q (ex0 b)
  by_cases hb:b∈frs X.outer
  ·obtain⟨sl',q2⟩:=slots b _ hb q1
   exact⟨_,q2⟩
  ·exact⟨_,kp b o1 q1 (ne q) (I.old_ne hst hf q hb)⟩
 ·have q1:=I.base.tups b xs q
  rw [qA (na q1 fun φ z=>by cases z)];exact q1
 ·have q1:=I.base.frzs b v w q
  rw [qA (na q1 fun φ z=>by cases z)];exact q1
 ·obtain⟨more,q1⟩:=I.base.tbls b ps q
  exact⟨more,by rw [qA (na q1 fun φ z=>by cases z)];exact q1⟩
 ·obtain⟨n1,e1⟩:=ajZ e
  refine (I.hok b v e1).stay (fun c w hc' q=>?_) (fun c q=>by rw [qA (na q fun φ z=>by cases z)];exact q) fun c xs q=>by rw [qA (na q fun φ z=>by cases z)];exact q
  rcases hc' with rfl | hc'
  ·obtain⟨_,_,n2,n3⟩:=trk c v e
   exact kp c w q n2 n3
  ·have e2:drp H a c=some (.own b):=by rw [qA (na hc' fun φ z=>by cases z)];exact hc'
   obtain⟨_,_,n2,n3⟩:=trk c _ e2
   exact kp c w q n2 n3
 ·obtain⟨w,q,n1,n2⟩:=trk b v e
  exact⟨w,hid q n1 n2⟩
end
theorem ao4 {P:Program} {w:World} {K:apD} {mg:Str->Option Value} {base:Heap} {N:List Str} {qual:Str} {scope:Scope} {f:Addr} {cd:Value} {A:Around} {outer:List Env} {s:Shared} {H:Hp} {E:XK} :
  Passes (CXf P w) (zH (CXf P w) P w K mg base N qual scope f cd A outer s H E) E:=fun pins σ H1 s1 e s' I h=>by
 obtain⟨a,C,o,H',rfl,x,d,hE⟩:=h
 exact wpAny_mono (aii (X:=zH (CXf P w) P w K mg base N qual scope f cd A outer s H E) (E:=fun _ _=>False) I rfl rfl rfl x d) (fun _ s'' y=>⟨a,C,o,H',rfl,y.1,y.2,hE⟩) fun _ _ z=>z.elim
end L2
end
section
namespace L2
open PySem PySem.Spec PyProof.Rows PySem.Builtin Builtin Builtin.ObjectAttr
noncomputable def vY (K:apD) (C f:Addr) (bmB:List Value) (newId:String):Bool :=
 match K.lookup C with
 | some ⟨c0,_,.cls cd,sl⟩=>c0 == .type "type" && cd.mro.head? == some (.ref C) && cd.hasDel == false && cd.hasDict && PySem.W.tailIn K bmB cd.mro.tail && PySem.W.nsOkIn K cd.ns && ap4 K cd.ns "__init__" == some (some (.ref f))
   && sl.toList.length == 6 && sl.toList[4]? == some (some (.builtin newId))
 | _=>false
structure XCls (h:Heap) (C f:Addr) (bmB:List Value) (newId:String):Prop where
 ex:∃ nm q N bs bm sn sub ab col dd k0 k1 k2 k3 k5 mN,h.get? C=some (excClassObj nm q C N bs bm true sn sub ab col dd k0 k1 k2 k3 k5 newId)/\h.Ns N mN/\mN "__init__"=some (.ref f)/\OwnTail h bmB bm
theorem alF {K:apD} {h:Heap} {N:Addr} {m:Str->Option Value} {n:Str} {v:Value} (X:K.In h) (G:h.Ns N m) (e:ap4 K N n=some (some v)):m n=some v:=by
 obtain⟨o,es,ep,ho,hd,_,hf⟩:=G
 unfold ap4 at e
 split at e
 ·rename_i lk
  have z:=X _ _ lk
  rw [ho] at z
  cases z
  cases hd
  have z2:=hf n
  unfold nsFind findBy at z2
  rw [<-Array.find?_toList] at z2
  cases q:List.find? (fun x=>x.key.isStr n) es.toList with
  | none=>rw [q] at e;dsimp only at e;split at e <;> cases e
  | some y =>
   rw [q] at e z2
   cases e
   exact z2.symm
 ·cases e
theorem anM {sl:Array (Option Value)} {v:Value} (h:sl.toList.length=6) (h4:sl.toList[4]?=some (some v)):∃ k0 k1 k2 k3 k5,sl=#[k0,k1,k2,k3,some v,k5]:=by
 obtain⟨l⟩:=sl
 match l,h with
 | [a,b,c,d,e,f],_ =>
  have:e=some v:=by simpa using h4
  subst this
  exact⟨a,b,c,d,f,rfl⟩
theorem vZ {K:apD} {h:Heap} {C f:Addr} {bmB:List Value} {newId:String} (Y:K.In h) (e:vY K C f bmB newId=true):XCls h C f bmB newId:=by
 unfold vY at e
 split at e
 case h_2=>cases e
 case h_1 c0 dd cd sl lk =>
  simp only [apO,beq_iff_eq] at e
  obtain⟨⟨⟨⟨⟨⟨⟨⟨e0,e1⟩,e2⟩,e3⟩,e4⟩,e5⟩,e6⟩,e7⟩,e8⟩:=e
  obtain⟨k0,k1,k2,k3,k5,rfl⟩:=anM e7 e8
  obtain⟨nm,bs,mro,ns,qn,hd,sn,sub,ab,col,del⟩:=cd
  dsimp only at e1 e2 e3 e4 e5 e6
  cases mro with
  | nil=>cases e1
  | cons z bm =>
   cases e1
   subst e0 e2 e3
   have G:h.Ns ns (h.nsMap ns):=.of_isNs (PySem.W.isNs_of_in Y e5)
   exact⟨nm,qn,ns,bs,bm,sn,sub,ab,col,dd,k0,k1,k2,k3,k5,_,Y _ _ lk,G,alF Y G e6,PySem.W.tail_of_in Y e4⟩
section
variable {prog:Program} {w:World} {A:Around} {E:Value->Shared->Prop} {h:Heap} {g:Array GenState} {d:Drawn} {t:Nat} {os:OsState}
variable {C fI e:Addr} {bmB:List Value} {B newId initId:String}
theorem aj0 (F:ExcBaseFacts B newId initId bmB) {K:apD} {rest:List Value} {Q:Value->Shared->Prop} (X:K.In h) (Y:XCls h C fI bmB newId) (hf:PySem.W.typeIn K (.ref fI)=some (.type "function")) (hrest:rest.length<=sizeLine)
  (go:∀ h' e,Heap.MadeExcOf h h' e (.ref C) rest->wpAny (model prog w) (A.under (.builtin "type.__call__" ⟨.ref C :: rest,[]⟩)) (call (.ref fI) (.ref e :: rest)) (fun r s'=>r=.none/\Q (.ref e) s') E ⟨h',g,d,t,os⟩) :
  wpAny (model prog w) A (call (.ref C) rest) Q E ⟨h,g,d,t,os⟩:=by
 obtain⟨nm,q,N,bs,bm,sn,sub,ab,col,dd,k0,k1,k2,k3,k5,mN,hC,hn,hi,T⟩:=Y.ex
 have l1:=tc_lookup
 have l2:=tc_bind (.ref C)
 have hT:(⟨h,g,d,t,os⟩:Shared).TypeIs (.ref C) "type":=⟨_,hC,rfl⟩
 refine wpAny_call (codeAny_of_tree ?_)
 show wpAny _ _ (callAny (.ref C) _) _ _ _
 repeat (any_goals (first | with_reducible refine wpAny_loadPart_at hC ?_ | wp_step | assumption))
 refine⟨rfl,?_⟩
 refine codeAny_call_builtin_at (asN _ (by decide +kernel)) entry_typeCall (wpAny_check_type_call_sub hC ?_)
 show wpAny _ _ (Builtin.«type.__call__» ⟨.ref C :: rest,[]⟩) _ _ _
 repeat (first | with_reducible refine wpAny_madeBy_exc hC ?_ | with_reducible refine wpAny_loadPart_at hC ?_ | wp_step)
 refine codeAny_call_builtin_code (asN _ F.quiet) (wpAny_check_new_subT F T hC (codeAny_exc_new_subT F T hC ?_ hrest))
 show wpAny _ _ _ _ _ _
 have up:∀ b o,h.get? b=some o->((h.push { cls:=.type "tuple",data:=.seq rest.toArray }).push { cls:=.ref C,data:=.fields #[.ref h.objs.size,.none,.none,.none,.bool false,.none] }).get? b=some o :=
  fun b o z=>apH _ (apH _ z)
 have gE:((h.push { cls:=.type "tuple",data:=.seq rest.toArray }).push { cls:=.ref C,data:=.fields #[.ref h.objs.size,.none,.none,.none,.bool false,.none] }).get? (h.objs.size+1) =
   some { cls:=.ref C,data:=.fields #[.ref h.objs.size,.none,.none,.none,.bool false,.none] }:=as1 (by simp only [ar9]) rfl
 have gT:((h.push { cls:=.type "tuple",data:=.seq rest.toArray }).push { cls:=.ref C,data:=.fields #[.ref h.objs.size,.none,.none,.none,.bool false,.none] }).get? h.objs.size =
   some { cls:=.type "tuple",data:=.seq rest.toArray }:=apH _ (as1 rfl rfl)
 have self:(Value.ref C :: bm).contains (.ref C)=true:=by simp
 have hC1:=up _ _ hC
 unfold isInstance
 repeat (first | with_reducible refine wpAny_loadPart_at gE ?_ | (dsimp only;with_reducible refine wpAny_isSubtype_exc hC1 ?_;rw [self]) | wp_step)
 show wpAny _ _ (typeLookup (.ref C) _) _ _ _
 refine wpAny_typeLookup_tail (up _ _ hC) (hn.keeps up) (T.keeps up) F.mroIs F.init.lookup ?_
 rw [hi]
 refine wpAny_holding (wpAny_bind ?_)
 refine (PySem.W.bind_fn (X.keeps up) (.ref (h.objs.size+1)) hf).at ?_
 refine (wpAny_bind (wpAny_mono (go _ (h.objs.size+1) ⟨up,arP (atH _),h.objs.size,gE,arP (apI _),gT⟩) (fun r s' z=>?_) fun _ _ z=>z))
 obtain⟨rfl,z⟩:=z
 wp_walk
 exact z
theorem aij (F:ExcBaseFacts B newId initId bmB) {rest:List Value} {t0:Addr} {ot:Obj} {R:Result->Shared->Prop} {T0:List Value} (Y:XCls h C fI bmB newId)
  (he:h.get? e=some { cls:=.ref C,data:=.fields #[.ref t0,.none,.none,.none,.bool false,.none] }) (hrest:rest.length<=sizeLine)
  (go:∀ h',(∀ b o,b≠e->h.get? b=some o->h'.get? b=some o)->(∃ t1,h'.get? e=some { cls:=.ref C,data:=.fields #[.ref t1,.none,.none,.none,.bool false,.none] })->R (.ok (.ret .none)) ⟨h',g,d,t,os⟩) :
  codeAny (model prog w) A (.call (.builtin initId) ⟨.ref e :: rest,[]⟩) R ⟨h,g,d,t,os⟩:=by
 obtain⟨nm,q,N,bs,bm,sn,sub,ab,col,dd,k0,k1,k2,k3,k5,mN,hC,hn,hi,T⟩:=Y.ex
 refine codeAny_call_builtin F.init.plain F.initEntry (wpAny_check_init_subT F T hC he rfl ?_)
 wp_walk
 refine go _ (fun b o n z=>?_) ⟨h.objs.size,?_⟩
 ·rw [aqt _ _ (aqP n)]
  exact apH _ z
 ·rw [aq2 _ (apH _ he) rfl]
  rfl
end
end L2
end
section
namespace L2
open PySem PySem.Spec PySem.W PyProof.Rows PySem.Calls PySem.Builtin Builtin Builtin.ObjectAttr
theorem aeD {h:Heap} {bmB bm:List Value} {self:Value} {what:Str} (T:OwnTail h bmB bm) (p:refuseLoop self what bmB=pure ()):refuseLoop self what bm=pure ():=by
 induction T with
 | base=>exact p
 | own _ _ _ _ ih=>rw [refuseLoop_ref];exact ih
noncomputable abbrev bare (C:Addr) (o:Option Addr) (t:Addr):Obj:={ cls:=.ref C,dict:=o,data:=.fields #[.ref t,.none,.none,.none,.bool false,.none] }
noncomputable abbrev bmV:List Value:=[.type "ValueError",.type "Exception",.type "BaseException",.type "object"]
section
variable {prog:Program} {w:World} {A:Around} {E:Value->Shared->Prop} {h:Heap} {g:Array GenState} {d:Drawn} {t:Nat} {os:OsState} {K:apD}
variable {C fI e t0:Addr} {name:Str} {v:Value}
theorem aj1 {M:Model} {Q:Option Addr->Shared->Prop} {nm q:Str} {N:Addr} {bs bm:List Value} {sn:List Str} {sub:List Value} {ab:Bool} {col:Option Bool} {dd:Option Addr} {k0 k1 k2 k3 k5:Option Value} {newId:String}
  (he:h.get? e=some (bare C none t0)) (hC:h.get? C=some (excClassObj nm q C N bs bm true sn sub ab col dd k0 k1 k2 k3 k5 newId))
  (go:∀ h' dx,h.objs.size<=dx->h'.get? dx=some { cls:=.type "dict",data:=.dict #[] }->h'.get? e=some (bare C (some dx) t0)->(∀ b o,b≠e->h.get? b=some o->h'.get? b=some o)->Q (some dx) ⟨h',g,d,t,os⟩) :
  wpAny M A (ownDictForStores (.ref e)) Q E ⟨h,g,d,t,os⟩:=by
 have hne:e≠h.objs.size:=aqb (apU he)
 unfold ownDictForStores instanceDict
 repeat (first | with_reducible refine wpAny_loadPart_at he ?_ | with_reducible refine wpAny_loadPart_at hC ?_ | wp_step)
 refine go _ h.objs.size (apI _) ((aqt _ _ hne).trans (as1 rfl rfl)) (aq2 _ (apH _ he) rfl) fun b o nb z=>?_
 exact (aqt _ _ (aqP nb)).trans (apH _ z)
theorem ab5 {Q:Unit->Shared->Prop} (X:K.In h) (Y:XCls h C fI bmV "ValueError.__new__") (he:h.get? e=some (bare C none t0)) (ob:mroIn K C (.type "object")=some true)
  (hsa:findIn K (.ref C) "__setattr__"=some (some (.builtin "object.__setattr__"))) (hna:findIn K (.ref C) name=some none)
  (go:∀ h' tk dx,h.objs.size<=dx->h'.get? e=some (bare C (some dx) t0)->h'.Ns1 dx (fun y=>if y=name then some v else none)->(∀ b o,b≠e->h.get? b=some o->h'.get? b=some o)->Q () ⟨h',g,d,tk,os⟩) :
  wpAny (model prog w) A (setAttr (.ref e) name v) Q E ⟨h,g,d,t,os⟩:=by
 obtain⟨nm,q,N,bs,bm,sn,sub,ab,col,dd,k0,k1,k2,k3,k5,mN,hC,hn,hi,T⟩:=Y.ex
 have SF:=PySem.F.store_ValueError
 have LT:Looks (model prog w) h (typeOf (.ref e)) (.ref C):=(Looks.ld he).andThen .now
 have LS:=looks_findIn (M:=model prog w) X hsa
 have LN:=looks_findIn (M:=model prog w) X hna
 have LI:Looks (model prog w) h (isInstance (.ref e) (.type "object")) true:=LT.andThen (looks_mroIn X ob)
 refine wpAny_bind (wpAny_mkText (wpAny_bind ?_))
 unfold callSpecial? specialOf
 refine wpAny_bind (wpAny_bind (LT.at (LS.at (wpAny_holding ?_))))
 rw [SF.slot.bind (.ref e)]
 refine wpAny_bind (wpAny_pure (wpAny_bind (wpAny_call (codeAny_call_builtin SF.slot.plain SF.entry (@check_slot (model prog w) _ _ ⟨h,g,d,t+1,os⟩ _ _ _ (.ref e) [.str name t,v] [] _ SF.kind SF.split LI (SF.args _ _ _) ?_)))))
 show wpAny _ _ (Builtin.«object.__setattr__» ⟨[.ref e,.str name t,v],[]⟩) _ _ _
 rw [osa_eq,refuse_eq]
 refine wpAny_bind (wpAny_bind (LT.at (wpAny_bind (wpAny_mroOf_exc hC ?_))))
 rw [refuseLoop_ref,aeD T (SF.passes _)]
 refine wpAny_pure (wpAny_bind (LT.at (wpAny_bind (LN.at (wpAny_bind (wpAny_pure ?_))))))
 dsimp only
 unfold storeInOwnDict
 refine wpAny_bind (wpAny_pure (wpAny_bind ?_))
 refine aj1 he hC fun h2 dx l2 g2 e2 k2=>?_
 have n2:h.get? dx=none:=arP l2
 show wpAny _ _ (storeInDict dx (.str name t) name v) _ _ _
 unfold storeInDict newKeyGuard
 refine wpAny_bind (wpAny_pure (wpAny_bind (wpAny_nsSet1 (Heap.Ns1.of_empty ⟨_,#[],_,g2,rfl,fun z hz=>absurd hz (by simp),fun _=>rfl⟩) fun h3 n3 s3=>?_)))
 obtain⟨o4,es4,ep4,ho4,hd4,hc4⟩:=n3.count (Within.cons name v Within.nil)
 refine wpAny_bind (wpAny_lookBehind ho4 (by rw [hd4];exact pastItsLine_dict (ap1 hc4 (by rw [apT,aqS,sizeLine_eq];omega))) ?_)
 refine wpAny_pure (wpAny_pure (wpAny_pure ?_))
 have ne:e≠dx:=fun z=>by rw [z,n2] at he;cases he
 exact go h3 _ dx l2 ((s3.2 e ne).trans e2) n3 fun b o nb z=>(s3.2 b fun y=>by rw [y,n2] at z;cases z).trans (k2 b o nb z)
end
noncomputable def v5 (K:apD) (C f D:Addr) (name:Str):Bool :=
 vY K C f bmV "ValueError.__new__" && atg K (.ref f) && ass K C (.type "object") == some true && aqA K (.ref C) "__setattr__" == some (some (.builtin "object.__setattr__"))
  && aqA K (.ref C) name == some none && PySem.W.readsIn K D (.type "type") && arO K (.ref D) "__getattribute__" == some (some (.builtin "type.__getattribute__")) && aqq K (.ref C)
  && (match PySem.W.findCls K (.ref D) (.type "type") "__init__" with | some (.val v)=>v == .builtin "ValueError.__init__" | _=>false)
structure FldC (K:apD) (C f D:Addr) (name:Str):Prop where
 wi:vY K C f bmV "ValueError.__new__"=true
 fn:PySem.W.typeIn K (.ref f)=some (.type "function")
 ob:ass K C (.type "object")=some true
 sa:aqA K (.ref C) "__setattr__"=some (some (.builtin "object.__setattr__"))
 na:aqA K (.ref C) name=some none
 rd:PySem.W.readsIn K D (.type "type")=true
 sp:arO K (.ref D) "__getattribute__"=some (some (.builtin "type.__getattribute__"))
 kp:aqq K (.ref C)=true
 fi:PySem.W.findCls K (.ref D) (.type "type") "__init__"=some (.val (.builtin "ValueError.__init__"))
theorem FldC.of {K:apD} {C f D:Addr} {name:Str} (h:v5 K C f D name=true):FldC K C f D name:=by
 unfold v5 atg at h
 simp only [apO,beq_iff_eq] at h
 obtain⟨⟨⟨⟨⟨⟨⟨⟨h1,h2⟩,h3⟩,h4⟩,h5⟩,h6⟩,h7⟩,h8⟩,h9⟩:=h
 refine⟨h1,h2,h3,h4,h5,h6,h7,h8,?_⟩
 split at h9
 ·rename_i v e
  rw [e,beq_iff_eq.mp h9]
 ·cases h9
theorem afN {P:Program} {w:World} {H:Hp} {h:Heap} {a:Addr} {C:Value} {o:Option Addr} (x:yz a C o h):ObjOk P w H h a (.ext (yz a C o)):=by
 obtain⟨t,e⟩:=x
 exact⟨⟨t,e⟩,⟨_,e⟩,fun h1 h2 p k=>let⟨t,e⟩:=p;⟨t,k _ e⟩⟩
theorem anN {H:Hp} {a:Addr} {o:HO} (h:H a=some o):upd H a o=H:=by
 funext b
 by_cases e:b=a
 ·rw [e,zo,h]
 ·rw [zm e]
section
variable {X:Cx} {pins:List (Addr×Obj)} {σ:St} {H H':Hp} {s s':Shared} {h':Heap} {a b dx C D f:Addr} {o:HO} {t':Nat} {name:Str}
theorem Inv.born (I:Inv X pins σ H s) (k:∀ b u,s.heap.get? b=some u->h'.get? b=some u) (n:s.heap.get? a=none) (new:ObjOk X.prog X.w (upd H a o) h' a o):Inv X pins σ (upd H a o) { s with heap:=h',toks:=t' }:=by
 have hn:H a=none:=by
  cases q:H a with
  | none=>rfl
  | some u =>
   obtain⟨v,z⟩:=(I.hok a u q).is
   rw [n] at z;cases z
 have ne:∀ {c:Addr} {u:Obj},s.heap.get? c=some u->c≠a:=fun q e=>by rw [e,n] at q;cases q
 have nh:∀ {c:Addr} {u:HO},H c=some u->upd H a o c=some u:=fun q=>by rw [zm (zF q hn)];exact q
 refine I.un ⟨fun c u q _ _ _=>k c u q,fun c u q _ _ _=>⟨u.slots,k c u q⟩,fun c u q m _=>by rw [zm (ne q)];exact m,fun c u q _=>⟨u,k c u q⟩,fun c xs q=>nh q,fun c u xs q=>nh q,fun c ps q=>⟨#[],by rw [nh q];simp⟩⟩ fun c u q=>?_
 by_cases e:c=a
 ·subst e;rw [zo] at q;cases q;exact new
 ·rw [zm e] at q
  exact (I.hok c u q).stay (fun x v _ z=>k x v z) (fun x z=>nh z) fun x xs z=>nh z
theorem Inv.field {y:V} {u:Value} (I:Inv X pins σ H s) (ha:H a=some (.ext (yz a (.ref C) none))) (hd:s.heap.objs.size<=dx) (ry:RelV y u) (he:yz a (.ref C) (some dx) h') (hn:h'.Ns1 dx fun x=>if x=name then some u else none)
  (k:∀ b o,b≠a->s.heap.get? b=some o->h'.get? b=some o):Inv X pins σ (upd (upd H dx (.xd [(name,y)])) a (.ext (yz a (.ref C) (some dx)))) { s with heap:=h',toks:=t' }:=by
 have hdn:=I.hok.fresh hd
 have nd:∀ {c:Addr} {v:Obj},s.heap.get? c=some v->c≠dx:=fun q=>aqb (ap2 (apU q) hd)
 have na:∀ {c:Addr} {v:HO},H c=some v->(∀ φ,v≠.ext φ)->c≠a:=fun {c v} q n e=>by
  rw [e,ha] at q
  cases q
  exact n _ rfl
 have nh:∀ {c:Addr} {v:HO},H c=some v->(∀ φ,v≠.ext φ)->upd (upd H dx (.xd [(name,y)])) a (.ext (yz a (.ref C) (some dx))) c=some v:=fun q n=>by
  rw [zm (na q n),zm (zF q hdn)];exact q
 have nn:∀ {c:Addr},H c=none->c≠a:=fun m e=>by rw [e,ha] at m;cases m
 refine I.un ⟨fun c v q m _ _=>k c v (nn m) q,fun c v q m _ _=>⟨v.slots,k c v (nn m) q⟩,fun c v q m _=>by rw [zm (nn m),zm (nd q)];exact m,fun c v q _=>?_,fun c xs q=>nh q fun φ z=>(by cases z),fun c v xs q=>nh q fun φ z=>(by cases z),
  fun c ps q=>⟨#[],by rw [nh q fun φ z=>(by cases z)];simp⟩⟩ fun c v q=>?_
 ·by_cases e:c=a
  ·subst e;obtain⟨t,z⟩:=he;exact⟨_,z⟩
  ·exact⟨v,k c v e q⟩
 ·by_cases e:c=a
  ·subst e;rw [zo] at q;cases q;exact afN he
  ·rw [zm e] at q
   by_cases e2:c=dx
   ·subst e2
    rw [zo] at q
    cases q
    refine⟨_,hn,fun g=>?_⟩
    by_cases eg:g=name
    ·subst eg
     rw [if_pos rfl,aqj,beq_self_eq_true]
     exact ry
    ·rw [if_neg eg,aqj,beq_eq_false_iff_ne.mpr eg]
     exact trivial
   ·rw [zm e2] at q
    refine (I.hok c v q).stay (fun x w hx z=>k x w ?_ z) (fun x z=>nh z fun φ z=>(by cases z)) fun x xs z=>nh z fun φ z=>(by cases z)
    rcases hx with rfl | hx
    ·exact e
    ·exact na hx fun φ z=>(by cases z)
noncomputable def aik (C:Addr) (t:TA):TE:=fun σ H Q=>t σ H fun vs H1=>∃ a r,vs=.ref a :: r/\r.length<=1000/\H1 a=some (.ext (yz a (.ref C) none))/\Q .non H1
theorem aeE {x:Str} {p apos pos:Pos} {e:Expr} {es:List Expr} {t:TA} {pl:Sem Bool} (T:FldC X.K C f D name) (hg:Gl X x) (hm:X.mg x=some (.ref D)) (ha:PA X (e :: es) t) (hdb:(x == ("__debug__":Str))=false:=by decide)
  (hst:starEach (e :: es) X.env=(false,eval e X.env) :: starEach es X.env:=by rfl) (hpl:(backTo pos (starEach es X.env)).any (·.1)=false:=by rfl)
  (ht:eval (.Call (.Attribute (.Name x p) "__init__" apos) (e :: es) [] pos) X.env=(do
   let ov <- eval (.Name x p) X.env
   standAt apos.atName
   let (f,first) <- holding [ov] (getMethod ov "__init__" pl)
   callWith pos f first (backTo pos (starEach (e :: es) X.env)) (backToKw pos (keywordEach [] X.env))):=by rfl) :
  PE X (.Call (.Attribute (.Name x p) "__init__" apos) (e :: es) [] pos) (aik C t):=by
 intro pins s σ H Q I h
 refine PySem.W.methodCall_KW (pl:=pl) (qv I hg hm ?_ hdb) ht
 refine PySem.W.method_cls I.kIn T.sp (PySem.W.cls_value I.kIn T.rd T.fi rfl ?_)
 refine asr (thn (ha pos pins _ σ H _ (I.tok _) h) fun us s1 ⟨vs,H1,I1,r1,a,r,ev,hl,hH,q⟩=>?_) hst hpl
 subst ev
 cases r1 with
 | cons ra rr =>
  obtain rfl:=(show _=Value.ref a from ra)
  obtain⟨⟨t0,he⟩,_,_⟩:=I1.hok a _ hH
  obtain⟨hh,g,d,tk,os'⟩:=s1
  refine wpAny_call (aij (ot:=default) (T0:=[]) arU (vZ I1.kIn T.wi) he (by rw [<-Vals.length rr];exact aq4 (zW hl)) fun h' k ⟨t1,e1⟩=>?_)
  have I2:=I1.write (x:=a) (e:=a) (o:=.ext (yz a (.ref C) none)) (h':=h') (t':=tk) (by rw [hH];exact trivial) (.inl rfl) (fun b u nb z=>k b u nb z) ⟨_,e1⟩ (afN ⟨t1,e1⟩)
  rw [anN hH] at I2
  exact⟨.non,H1,I2,rfl,q⟩
noncomputable def ao5 (C:Addr) (name:Str) (ta tv:TE):TS:=fun D σ H=>tv σ H fun y H1=>ta σ H1 fun x H2=>∃ a,x=.ref a/\H2 a=some (.ext (yz a (.ref C) none))/\∀ dx,H2 dx=none->dx≠a->D.nx σ (upd (upd H2 dx (.xd [(name,y)])) a (.ext (yz a (.ref C) (some dx))))
theorem alG {o value:Expr} {ta tv:TE} {pos' pos:Pos} (T:FldC X.K C f D name) (ha:PE X o ta) (hv:PE X value tv) (hs:swapsWith value (some (.Attribute o name pos')) pos.line X.env=pure false:=by rfl) :
  PS X (.Assign [.Attribute o name pos'] value pos) (ao5 C name ta tv):=by
 intro pins s σ H D' I h
 refine plainObj_wpAny_Assign_Attribute (thn (hv pins s σ H _ I h) fun u s1 ⟨y,H1,I1,ry,q⟩=>thn (ha pins s1 σ H1 _ I1 q) fun ov s2 ⟨x,H2,I2,rx,a,ex,hH,q2⟩=>?_) hs
 subst ex
 obtain rfl:ov=Value.ref a:=rx
 obtain⟨⟨t0,he⟩,_,_⟩:=I2.hok a _ hH
 obtain⟨hh,g,d,tk,os'⟩:=s2
 refine ab5 (K:=X.K) (t0:=t0) I2.kIn (vZ I2.kIn T.wi) he T.ob T.sa T.na fun h' tk' dx hd e1 hn k=>?_
 refine⟨σ,_,I2.field hH hd ry ⟨t0,e1⟩ hn k,q2 dx (I2.hok.fresh hd) ?_⟩
 rintro rfl
 exact absurd (apU he) (ati.mpr hd)
noncomputable def adp (C:Addr) (name:Str):Sp:=fun vs H Q _=>∃ a y,vs=[.ref a,y]/\H a=some (.ext (yz a (.ref C) none))/\∀ dx,H dx=none->dx≠a->Q .non (upd (upd H dx (.xd [(name,y)])) a (.ext (yz a (.ref C) (some dx))))
end
section
variable {M:Model} {A:Around} {E:Value->Shared->Prop} {s:Shared} {C e:Addr}
theorem ail {env:Env} {x:Sem Value} {Q:Flow->Shared->Prop} {bmB:List Value} {newId B initId:String} {f:Addr} (F:ExcBaseFacts B newId initId bmB) (hh:A.handled=none)
  (h:wpAny M A x (fun v s1=>∃ a o t,v=.ref a/\XCls s1.heap C f bmB newId/\s1.heap.get? a=some (bare C o t)/\E (.ref a) s1) E s):wpAny M A (raiseStmt env (some x) none) Q E s:=by
 unfold raiseStmt
 refine wpAny_bind (wpAny_mono h (fun v s1 z=>?_) fun _ _ z=>z)
 obtain⟨a,o,t,rfl,Y,he,hE⟩:=z
 obtain⟨nm,q,N,bs,bm,sn,sub,ab,col,dd,k0,k1,k2,k3,k5,mN,hC,hn,hi,T⟩:=Y.ex
 have base:(Value.ref C :: bm).contains (.type "BaseException")=true:=by rw [List.contains_cons,T.hasType F.hasBase,Bool.or_true]
 obtain⟨hp,g,d,tk,os⟩:=s1
 repeat (first | with_reducible refine wpAny_loadPart_at he ?_ | with_reducible refine wpAny_loadPart_at hC ?_ | (with_reducible refine wpAny_isSubtype_exc hC ?_;rw [base]) | wp_step)
 exact wpAny_raiseNew_none hh hE
end
section
variable {X:Cx} {pins:List (Addr×Obj)} {σ:St} {H H':Hp} {s s':Shared} {C D f:Addr} {name:Str} {k:Nat} {fd:FuncData} {ps:List Str}
theorem aim {Q:Value->Shared->Prop} {y:V} {u:Value} (T:FldC X.K C f D name) (F:FnOk X.prog X.w X.K X.mg X.base CX0 k f fd ps (adp C name)) (hr:Room (k+1) X.A) (hb:Binds X.K fd ps []) (I:Inv X pins σ H s) (r:RelV y u)
  (h:∀ a dx s',s.heap.get? a=none->H a=none->H dx=none->dx≠a->Inv X pins σ (upd (upd H dx (.xd [(name,y)])) a (.ext (yz a (.ref C) (some dx)))) s'->Q (.ref a) s'):wpAny (model X.prog X.w) X.A (call (.ref C) [u]) Q X.xe s:=by
 obtain⟨hh,g,d,tk,os⟩:=s
 refine aj0 arU I.kIn (vZ I.kIn T.wi) T.fn (show 1<=sizeLine by decide) fun h' e hm=>?_
 obtain⟨t0,he,_,_⟩:=hm.there
 have hn:H e=none:=by
  cases q:H e with
  | none=>rfl
  | some u =>
   obtain⟨v,z⟩:=(I.hok e u q).is
   rw [hm.new] at z;cases z
 have I2:=I.born (a:=e) (o:=.ext (yz e (.ref C) none)) (h':=h') (t':=tk) hm.keeps hm.new (afN ⟨t0,he⟩)
 have r2:Vals [V.ref e,y] [Value.ref e,u]:=.cons rfl (.cons r .nil)
 have sp:adp C name [V.ref e,y] (upd H e (.ext (yz e (.ref C) none))) (fun v H2=>v=.non/\∃ dx,upd H e (.ext (yz e (.ref C) none)) dx=none/\dx≠e/\H2=upd (upd (upd H e (.ext (yz e (.ref C) none))) dx (.xd [(name,y)])) e (.ext (yz e (.ref C) (some dx)))) E0 :=
  ⟨e,y,rfl,zo,fun dx h1 h2=>⟨rfl,dx,h1,h2,rfl⟩⟩
 have hl:[Value.ref e,u].length=ps.length:=by
  rw [<-Vals.length r2]
  exact F.len _ _ _ _ sp
 have b2:=hb { heap:=h',gens:=g,drawn:=d,toks:=tk,os:=os } [.ref e,u] I2.kIn (by rw [aqe];exact hl)
 rw [aqe] at b2
 refine wpAny_call (codeAny_mono (F.run _ X.stack _ _ ⟨[Value.ref e,u],[]⟩ [Value.ref e,u] _ _ E0 (hr.make C [u] []) (I2.env0.make C [u] []) b2 r2 sp) fun res s' z=>?_)
 cases res with
 | error e=>exact aqM z
 | ok fl =>
  cases fl with
  | ret v =>
   obtain⟨v',H3,I3,rv,ev,dx,n1,n2,eH⟩:=I2.after z
   subst ev
   refine⟨rv,h e dx s' hm.new hn ?_ n2 ?_⟩
   ·rw [zm n2] at n1;exact n1
   ·rw [eH] at I3
    have eu:upd (upd (upd H e (.ext (yz e (.ref C) none))) dx (.xd [(name,y)])) e (.ext (yz e (.ref C) (some dx)))=upd (upd H dx (.xd [(name,y)])) e (.ext (yz e (.ref C) (some dx))):=by
     funext b
     by_cases e1:b=e
     ·rw [e1,zo,zo]
     ·rw [zm e1,zm e1]
      by_cases e2:b=dx
      ·rw [e2,zo,zo]
      ·rw [zm e2,zm e2,zm e1]
    rw [eu] at I3
    exact I3
  | next=>exact aqM z
  | brk=>exact aqM z
  | cont=>exact aqM z
noncomputable def adq (C:Addr) (name:Str) (E:XK) (t:TA):TS:=fun _ σ H=>t σ H fun vs H1=>∃ y,vs=[y]/\∀ dx,H1 dx=none->E (.ref C) (some dx) (upd H1 dx (.xd [(name,y)]))
theorem ain {x:Str} {e0:Expr} {t:TA} {np cpos pos:Pos} {E:XK} (T:FldC X.K C f D name) (F:FnOk X.prog X.w X.K X.mg X.base CX0 k f fd ps (adp C name)) (hr:Room (k+1) X.A) (hb:Binds X.K fd ps [])
  (hxe:∀ e s',wpAny (model X.prog X.w) X.A (leaving X.env e) (fun _ s''=>CXf X.prog X.w X.outer X.H₀ X.s₀ E e s'') (fun _ _=>False) s'->X.xe e s')
  (hst:X.stack=X.env :: X.outer) (hf:X.env.frame=some X.env.locals) (hex:X.ex=[]) (hc:X.calm=true) (hg:Gl X x) (hm:X.mg x=some (.ref C)) (ha:PA X [e0] t)
  (hse:starEach [e0] X.env=(false,eval e0 X.env) :: starEach [] X.env:=by rfl) (hpl:(backTo cpos (starEach [] X.env)).any (·.1)=false:=by rfl) (hd:(x == ("__debug__":Str))=false:=by decide) :
  PS X (.Raise (some (.Call (.Name x np) [e0] [] cpos)) none pos) (adq C name E t):=by
 intro pins s σ H D' I h
 rw [arm_exec_Raise]
 refine wpAny_bind (wpAny_standAt ?_)
 show wpAny _ _ (raiseStmt X.env (some (do let v <- eval (.Call (.Name x np) [e0] [] cpos) X.env;standAt pos;pure v)) none) _ _ _
 refine ail (C:=C) (f:=f) arU (I.ok.hd hc) (wpAny_bind ?_)
 refine wpAny_Call_Name_kw (qv I hg hm ?_ hd)
 refine asL (h₀:=X.base) I.ok.mod.kin T.kp (thn (ha cpos pins s σ H _ I h) fun us s1 ⟨vs,H1,I1,r,y,ev,q⟩=>⟨I1.kIn,?_⟩) hse hpl
 subst ev
 cases r with
 | cons ry rn =>
  cases rn
  refine aim T F hr hb I1 ry fun a dx s2 n1 n2 n3 n4 I2=>wpAny_bind (wpAny_standAt (wpAny_pure ?_))
  have hH:upd (upd H1 dx (.xd [(name,y)])) a (.ext (yz a (.ref C) (some dx))) a=some (.ext (yz a (.ref C) (some dx))):=zo
  obtain⟨⟨t0,he⟩,_,_⟩:=I2.hok a _ hH
  refine⟨a,some dx,t0,rfl,vZ I2.kIn T.wi,he,hxe _ _ ?_⟩
  have hnew:X.s₀.heap.get? a=none:=by
   cases z:X.s₀.heap.get? a with
   | none=>rfl
   | some o =>
    obtain⟨o1,z1⟩:=I1.base.there a o z (by rw [hex];simp)
    rw [n1] at z1;cases z1
  have ed:drp (upd (upd H1 dx (.xd [(name,y)])) a (.ext (yz a (.ref C) (some dx)))) a=upd H1 dx (.xd [(name,y)]):=by
   funext b
   by_cases e1:b=a
   ·rw [e1,abu,zm (aqP n4),n2]
   ·rw [qA e1,zm e1]
  have L:=afM (E:=fun _ _=>False) I2 hst hf hex hH hnew
  rw [ed] at L
  exact wpAny_mono L (fun _ s'' z=>⟨a,.ref C,some dx,_,rfl,z.1,z.2,q dx n3⟩) fun _ _ z=>z
theorem aj2 {P:Program} {w:World} {K:apD} {mg:Str->Option Value} {base:Heap} {N:List Str} {qual:Str} {scope:Scope} {f:Addr} {cd:Value} {A:Around} {outer:List Env} {s:Shared} {H:Hp} {E:XK} :
  ∀ e s',wpAny (model P w) (zH (CXf P w) P w K mg base N qual scope f cd A outer s H E).A (leaving (zH (CXf P w) P w K mg base N qual scope f cd A outer s H E).env e) (fun _ s''=>CXf P w outer H s E e s'') (fun _ _=>False) s' ->
   (zH (CXf P w) P w K mg base N qual scope f cd A outer s H E).xe e s':=fun e s' h=>wpAny_mono h (fun _ _ y=>y) fun _ _ z=>z.elim
theorem Fun.okF {P:Program} {w:World} {K:apD} {mg:Str->Option Value} {base:Heap} {x qual:Str} {st:Stmt} {f:Addr} {fd:FuncData} {N ps:List Str} {k:Nat} {sp:Sp} (F:Fun K x qual st f fd) (S:FnScope N ps (zf st)) (len:∀ vs H Q E,sp vs H Q E->vs.length=ps.length)
  (hbody:∀ (cdv:Value) (A:Around) (outer:List Env) (s:Shared) (H:Hp) (vs:List V) (Q:VK) (E:XK),Room k (A.deeper (envOfC qual (zf st) s.heap.objs.size f cdv))->sp vs H Q E ->
   ∃ t,PSs (zH (CXf P w) P w K mg base N qual (zf st) f cdv A outer s H E) (ye st) t/\t { nx:=fun _ H'=>Q .non H',rt:=Q } (start N vs) H):FnOk P w K mg base (CXf P w) (k+1) f fd ps sp:=by
 obtain⟨oc,od,kV,doc,pm,an,cdv,ct,osl,rfl,lk,hcd⟩:=F.ex
 exact amx lk hcd S len fun A outer s H vs Q E hr hsp=>hbody cdv A outer s H vs Q E hr hsp
end
noncomputable def ExcAt (a:Addr) (C:Value) (o:Option Addr) (h:Heap):Prop:=∃ u,h.get? a=some u/\u.cls=C/\adn u=some .none/\∀ dx,o=some dx->u.dict=some dx
section
variable {X:Cx} {pins:List (Addr×Obj)} {σ:St} {H H1 H2:Hp} {s s1 s2:Shared} {a C0:Addr} {C:Value} {o:Option Addr} {i j:Nat} {n hx:Str} {b0:Stmt} {suite:List Stmt} {hp hpos:Pos} {ts:TS} {D:Ends}
theorem ao6 (I:Inv X pins σ H1 s1) (x:XLie X.prog X.w X.stack H1 s1 a C H2 s2) (dc:Dct a o s2.heap) (hst:X.stack=X.env :: X.outer) (hf:X.env.frame=some X.env.locals) (hN:X.N.Nodup) (hj:X.N[j]?=some n) (hn:X.env.scope.names.lookup n=some .local)
  (hg:Gl X hx) (hm:X.mg hx=some (.ref C0)) (hit:asi X.K C (.ref C0)=some true) (hs:PSs (X.marked (.ref a)) (b0 :: suite) ts) (h:ts (acZ D j) (σ.set j (some (.ref a))) (upd H2 a (.ext (ExcAt a C o))))
  (hd:(hx == ("__debug__":Str))=false:=by decide) :
  wpAny (model X.prog X.w) X.A (noteFrame (.ref a) X.env) (fun _ t2=>wpAny (model X.prog X.w) X.A (setFlight (.ref a) none) (fun _ t3 =>
   wpAny (model X.prog X.w) X.A (handleBy (.ref a) X.env [.ExceptHandler (some (.Name hx hp)) (some n) (b0 :: suite) hpos]) (SP X pins D) X.xe t3) X.xe t2) X.xe s2:=by
 obtain⟨B,a0,fl,dom,trk⟩:=x.fly
 have fl0:=fl
 rw [hst] at fl0
 refine aeC (ag6 _ _) (wpAny_looks_onW (by rw [I.ok.frames,hst]) hf fl0 (Q:=fun _ s'=>∃ h4,s'={ s2 with heap:=h4 }/\Heap.HeldW B (X.env :: X.outer) a C a0 X.env.locals h4/\s2.heap.UpToSlots h4) fun h4 held up4=>⟨h4,rfl,held,up4⟩) ?_
 rintro _ _ ⟨h4,rfl,held,up4⟩ kd4
 refine aeC (aao _ _) (wpAny_landsW held (Q:=fun _ s'=>∃ h5,s'={ s2 with heap:=h5 }/\atj B (X.env :: X.outer) a C a0 h5/\h4.UpToSlots h5) fun h5 fl5 up5=>⟨h5,rfl,fl5,up5⟩) ?_
 rintro _ _ ⟨h5,rfl,fl5,up5⟩ kd5
 have mv:∀ {hh:Heap},B.StaysIn hh->s2.heap.UpToSlots hh->Un (frs X.stack) [] H1 H2 s1.heap hh/\HOk X.prog X.w H2 hh:=fun st up=>x.move fl dom trk st up
 have I5:Inv X pins σ H2 { s2 with heap:=h5 }:=I.call' (s':={ s2 with heap:=h5 }) x.os (mv fl5.1 (up4.trans up5)).1 (mv fl5.1 (up4.trans up5)).2 x.bare (fun b z=>absurd z (by simp))
 refine wpAny_handleBy_cons (codeAny_handlers_test (qv (X:=X.marked (.ref a)) (I5.marked (.ref a)) hg hm ?_ hd)) (by intro q;cases q)
 obtain⟨ob,hob,hoc⟩:=fl5.there
 have LT:PySem.W.Looks (model X.prog X.w) h5 (typeOf (.ref a)) C:=by
  subst hoc
  exact (PySem.W.Looks.ld hob).andThen .now
 refine (PySem.W.exm_one I5.kIn LT hit).at (codeAny_handlers_suite_as ?_)
 refine aeC (aao _ _) (lands_againW fl5 (Q:=fun _ s'=>∃ h6,s'={ s2 with heap:=h6 }/\atj B (X.env :: X.outer) a C a0 h6/\h5.UpToSlots h6) fun h6 fl6 up6=>⟨h6,rfl,fl6,up6⟩) ?_
 rintro _ _ ⟨h6,rfl,fl6,up6⟩ kd6
 obtain⟨un,ok⟩:=mv fl6.1 ((up4.trans up5).trans up6)
 have fr6:H2 a=none:=x.free
 have ne:∀ {b:Addr} {u:HO},H2 b=some u->upd H2 a (.ext (ExcAt a C o)) b=some u:=fun {b u} e=>by
  rw [zm fun z=>by rw [z,fr6] at e;cases e]
  exact e
 have here:ExcAt a C o h6:=by
  obtain⟨u,h1,h2⟩:=fl6.there
  obtain⟨v,z1,z2,z3⟩:=((dc.kd kd4).kd kd5).kd kd6
  rw [h1] at z1
  cases z1
  exact⟨u,h1,h2,z2,z3⟩
 have I7:Inv X pins σ (upd H2 a (.ext (ExcAt a C o))) { s2 with heap:=h6 }:=by
  refine I.call' (s':={ s2 with heap:=h6 }) x.os ⟨un.keep,un.slot,fun b u q m z=>?_,un.there,fun b xs q=>ne (un.tups b xs q),fun b u v q=>ne (un.frzs b u v q),fun b ps q=>?_⟩ (fun b u e=>?_) x.bare (fun b z=>absurd z (by simp))
  ·rw [zm fun e=>by rw [e,x.new] at q;cases q]
   exact un.free b u q m z
  ·obtain⟨more,q2⟩:=un.tbls b ps q
   exact⟨more,ne q2⟩
  ·by_cases hb:b=a
   ·subst hb
    rw [zo] at e
    cases e
    obtain⟨u,z⟩:=here
    exact⟨⟨u,z⟩,⟨u,z.1⟩,fun g1 g2 p k=>let⟨v,q1,q2⟩:=p;⟨v,k v q1,q2⟩⟩
   ·rw [zm hb] at e
    exact (ok b u e).stay (fun c v _ q=>q) (fun c q=>ne q) fun c xs q=>ne q
 refine vN (X:=X.marked (.ref a)) (v:=.ref a) (I7.marked _) hN hj (.inl hn) rfl (fun s8 I8=>?_) (.inr hn)
 refine wpAny_mono (hs pins s8 _ _ (acZ D j) I8 h) (fun f s9 q=>?_) fun _ _ z=>z.elim
 show wpAny (model X.prog X.w) X.A (do bindName X.env n .none;unbindBehindTheSuite X.env n hpos) (fun _ t=>SP X pins D f t) X.xe s9
 cases f with
 | next =>
  obtain⟨σ',H',I9,q9⟩:=q
  exact ac0 (I9.unmarked I.ok) hN hj hn fun s' I'=>⟨_,H',I',q9⟩
 | brk =>
  obtain⟨σ',H',I9,q9⟩:=q
  exact ac0 (I9.unmarked I.ok) hN hj hn fun s' I'=>⟨_,H',I',q9⟩
 | cont =>
  obtain⟨σ',H',I9,q9⟩:=q
  exact ac0 (I9.unmarked I.ok) hN hj hn fun s' I'=>⟨_,H',I',q9⟩
 | ret u =>
  obtain⟨v,σ',H',I9,r9,q9⟩:=q
  exact ac0 (I9.unmarked I.ok) hN hj hn fun s' I'=>⟨v,_,H',I',r9,q9⟩
end
end L2
end
section
namespace L2
open PySem PySem.Spec PySem.W PyProof.Rows PySem.Calls PySem.Builtin Builtin Builtin.ObjectAttr Builtin.Getset_descriptor
section
variable {prog:Program} {w:World} {A:Around} {E:Value->Shared->Prop} {s:Shared} {K:apD} {a C f dx:Addr} {name:Str} {v:Value}
theorem aj3 {Q:Value->Shared->Prop} {o:Option Addr} {m:Str->Option Value} (X:K.In s.heap) (Y:XCls s.heap C f bmV "ValueError.__new__") (I:ExcAt a (.ref C) (some dx) s.heap) (Wy:ExcWays K C) (na:findIn K (.ref C) name=some none) (hn:s.heap.Ns1 dx m) (hm:m name=some v) (hh:handedIn v=true)
  (h:Q v { s with toks:=s.toks+1 }):wpAny (model prog w) A (getAttr (.ref a) name true) Q E s:=by
 obtain⟨u,hu,hc,hnc,hd⟩:=I
 have II:aaD a C s.heap:=⟨u,hu,hc⟩
 obtain⟨nm,q,N,bs,bm,sn,sub,ab,col,dd,k0,k1,k2,k3,k5,mN,hC,hN,hi,T⟩:=Y.ex
 obtain⟨hh',g,d,t,os⟩:=s
 have L0:=qW (M:=model prog w) II
 have L1:=looks_findIn (M:=model prog w) X Wy.ga
 have L2:=looks_findIn (M:=model prog w) X Wy.gt
 have L3:=looks_findIn (M:=model prog w) X na
 unfold getAttr getAttrBy
 refine wpAny_bind (wpAny_mkText (wpAny_holding (wpAny_bind (L0.at (wpAny_bind (L1.at ?_))))))
 dsimp only
 rw [if_neg (by
  have z:(Value.builtin "BaseException.__getattribute__" == Value.builtin "object.__getattribute__")=false:=by decide +kernel
  rw [z,arT]
  exact apB)]
 unfold getAttrByItsOwn hookBefore
 rw [if_pos (show onTheHeap (Value.ref C)=true from rfl)]
 refine wpAny_bind (L2.at (wpAny_bind (wpAny_attempt (wpAny_holding ?_))))
 unfold callGetattribute
 rw [if_neg (show ¬ (true && onTheHeap (Value.builtin "BaseException.__getattribute__"))=true by decide)]
 unfold boundAndCalled
 rw [asQ.ga.bind (.ref a)]
 refine wpAny_bind (wpAny_pure ?_)
 dsimp only
 refine wpAny_call (codeAny_call_builtin asQ.ga.plain PySem.F.entry_bexc_ga (aei (K:=K) (C:=C) X II Wy ?_))
 unfold Builtin.«object.__getattribute__»
 refine wpAny_bind (wpAny_of_eq (a:=(Value.ref a,[Value.str name t])) rfl ?_)
 dsimp only
 refine wpAny_bind (wpAny_of_eq (a:=name) rfl ?_)
 refine wpAny_bind (L0.at (wpAny_bind ?_))
 unfold find
 refine wpAny_bind (L3.at (wpAny_bind (wpAny_pure (wpAny_bind (wpAny_pure ?_)))))
 dsimp only
 unfold ownThenClass
 refine wpAny_bind ?_
 have own:wpAny (model prog w) A.in1 (inOwnDict name (.ref a)) (fun r s'=>r=some v/\s'=⟨hh',g,d,t+1,os⟩) (fun _ _=>False) ⟨hh',g,d,t+1,os⟩:=by
  unfold inOwnDict ObjectAttr.ownDict loadHead
  refine wpAny_bind (wpAny_bind (wpAny_loadPart_at hu ?_))
  have go:wpAny (model prog w) A.in1 (instanceDict a false) (fun r s'=>wpAny (model prog w) A.in1 (inDict name r) (fun r s'=>r=some v/\s'=⟨hh',g,d,t+1,os⟩) (fun _ _=>False) s') (fun _ _=>False) ⟨hh',g,d,t+1,os⟩:=by
   unfold instanceDict
   refine wpAny_bind (wpAny_loadPart_at hu ?_)
   rw [hc,hd dx rfl]
   refine wpAny_bind (wpAny_bind (wpAny_loadPart_at hC (wpAny_pure ?_)))
   dsimp only
   refine wpAny_pure (wpAny_nsGet hn.ns ?_)
   exact⟨hm,rfl⟩
  cases q:u.data with
  | cls c=>rw [adn,q] at hnc;cases hnc
  | _=>exact go
 refine wpAny_mono own (fun r s' z=>?_) fun _ _ z=>z.elim
 obtain⟨rfl,rfl⟩:=z
 dsimp only
 refine wpAny_bind (wpAny_rule (wpAny_pure ?_))
 dsimp only
 refine wpAny_pure ?_
 show wpAny _ _ (handedOut v) _ _ _
 rw [handedOut_of hh]
 exact wpAny_pure h
end
theorem anO {h:Heap} {a C:Addr} {o:Option Addr} (x:ExcAt a (.ref C) o h):aaD a C h:=let⟨u,h1,h2,_⟩:=x;⟨u,h1,h2⟩
noncomputable def anP (K:apD):List V->Hp->VK->Prop:=fun xs H Q=>∃ a C o c b,xs=[.ref a,c]/\H a=some (.ext (ExcAt a (.ref C) o))/\ExcWays K C/\((∃ n,c=.ty n/\aql K (.ref C) (.type n)=some b) \/ ∃ D,c=.ref D/\aql K (.ref C) (.ref D)=some b)/\Q (.bl b) H
theorem aj4 {X:Cx} {K:apD} (hK:X.K=K):z9 X (.builtin "isinstance") (anP K):=by
 subst hK
 intro pins s σ H xs us Q I r h
 obtain⟨a,C,o,c,b,rfl,hH,Wy,hc,q⟩:=h
 obtain⟨u,w',rfl,rx,rn⟩:=vals2 r
 cases rx
 have hI:aaD a C s.heap:=anO (I.hok a _ hH).1
 rcases hc with⟨n,rfl,hk⟩ | ⟨D,rfl,hk⟩ <;> cases rn <;> exact aqr (ajs Wy) I.kIn hI hk (fun z=>nomatch z) fun tk=>⟨.bl b,H,I.tok tk,rfl,q⟩
noncomputable def amH (K:apD) (name:Str) (ta:TE):TE:=fun σ H Q=>ta σ H fun x H1=>∃ a C f D dx y,x=.ref a/\FldC K C f D name/\ExcWays K C/\H1 a=some (.ext (ExcAt a (.ref C) (some dx)))/\H1 dx=some (.xd [(name,y)])/\Q y H1
theorem aeF {y:V} {u:Value} (r:RelV y u):handedIn u=true:=by
 cases y <;> first | (cases r;rfl) | (obtain⟨t,rfl⟩:=r;rfl)
theorem aio {X:Cx} {K:apD} {e:Expr} {ta:TE} {name:Str} {pos:Pos} (hK:X.K=K) (he:PE X e ta) (hb:attributeBase e name X.env (eval e X.env)=eval e X.env:=by rfl):PE X (.Attribute e name pos) (amH K name ta):=by
 subst hK
 intro pins s σ H Q I h
 refine ak5 hb (thn (he pins s σ H _ I h) fun u s1 ⟨x,H1,I1,rx,a,C,f,D,dx,y,ex,T,Wy,hH,hD,q⟩=>?_)
 subst ex
 obtain rfl:u=Value.ref a:=rx
 obtain⟨m,hn,hm⟩:=I1.hok dx _ hD
 have hy:=hm name
 rw [aqj,beq_self_eq_true] at hy
 cases z:m name with
 | none=>rw [z] at hy;exact hy.elim
 | some u =>
  rw [z] at hy
  have ry:RelV y u:=hy
  exact aj3 (o:=none) I1.kIn (vZ I1.kIn T.wi) (I1.hok a _ hH).1 Wy T.na hn z (aeF ry) ⟨y,H1,I1.tok _,ry,q⟩
noncomputable def PBy (X:Cx) (body:List Stmt) (tb:XK->TS):Prop:=∀ (pins:List (Addr×Obj)) (s:Shared) (σ:St) (H:Hp) (D:Ends) (E:XK),Inv X pins σ H s->tb E D σ H ->
 wpAny (model X.prog X.w) X.A (execs body X.env) (SP X pins D) (fun e s'=>∃ H1 s1,Inv X pins σ H1 s1/\CXf X.prog X.w X.stack H1 s1 E e s') s
section
variable {X:Cx} {k:Nat} {f:Addr} {fd:FuncData} {ps:List Str} {sp:Sp} {t:TA} {fx y:Str} {e0:Expr} {es:List Expr} {p py cpos spos pos:Pos} {rest:List Stmt} {tr:TS} {i:Nat}
theorem alH {pins:List (Addr×Obj)} {σ:St} {H:Hp} {s:Shared} {E:XK} {Q:VK} (F:FnOk X.prog X.w X.K X.mg X.base (CXf X.prog X.w) k f fd ps sp) (hr:Room k X.A) (hgf:Gl X fx) (hmf:X.mg fx=some (.ref f)) (hk:aqq X.K (.ref f)=true) (hb:L2.Binds X.K fd ps [])
  (ha:PA X.nox (e0 :: es) t) (I:Inv X pins σ H s) (h:t σ H fun vs H1=>sp vs H1 Q E)
  (hdf:(fx == ("__debug__":Str))=false) (he:starEach (e0 :: es) X.env=(false,eval e0 X.env) :: starEach es X.env) (hpl:(backTo cpos (starEach es X.env)).any (·.1)=false) :
  wpAny (model X.prog X.w) X.A (eval (.Call (.Name fx p) (e0 :: es) [] cpos) X.env) (EP X pins σ Q) (fun e s'=>∃ H1 s1,Inv X pins σ H1 s1/\CXf X.prog X.w X.stack H1 s1 E e s') s:=by
 refine wpAny_Call_Name_kw (qv I hgf hmf ?_ hdf)
 refine asL (h₀:=X.base) I.ok.mod.kin hk (wpAny_mono (ha cpos pins s σ H _ (I.wish _) h) (fun us s1 q=>?_) fun _ _ z=>z.elim) he hpl
 obtain⟨vs,H1,I1',r,q⟩:=q
 have I1:Inv X pins σ H1 s1:=I1'.unwish
 refine⟨I1.kIn,?_⟩
 have b2:=hb s1 us I1.kIn (by rw [aqe,<- r.length];exact F.len _ _ _ _ q)
 rw [aqe] at b2
 refine wpAny_call (codeAny_mono (F.run X.A X.stack s1 H1 ⟨us,[]⟩ us vs _ _ hr I1.env0 b2 r q) fun res s' z=>?_)
 cases res with
 | error e=>exact⟨H1,s1,I1,z⟩
 | ok fl =>
  cases fl with
  | ret u=>exact I1.after z
  | next=>exact aqM z
  | brk=>exact aqM z
  | cont=>exact aqM z
noncomputable def amI (sp:Sp) (t:TA):XK->TS:=fun E D σ H=>t σ H fun vs H1=>sp vs H1 (fun _ H2=>D.nx σ H2) E
theorem alI (F:FnOk X.prog X.w X.K X.mg X.base (CXf X.prog X.w) k f fd ps sp) (hr:Room k X.A) (hgf:Gl X fx) (hmf:X.mg fx=some (.ref f)) (hk:aqq X.K (.ref f)=true) (hb:L2.Binds X.K fd ps [])
  (ha:PA X.nox (e0 :: es) t)
  (hdf:(fx == ("__debug__":Str))=false:=by decide) (he:starEach (e0 :: es) X.env=(false,eval e0 X.env) :: starEach es X.env:=by rfl) (hpl:(backTo cpos (starEach es X.env)).any (·.1)=false:=by rfl)
  (hsw:swapsWith (.Call (.Name fx p) (e0 :: es) [] cpos) none spos.line X.env=pure false:=by rfl) :
  PBy X [.Expr (.Call (.Name fx p) (e0 :: es) [] cpos) spos] (amI sp t):=by
 intro pins s σ H D E I h
 refine wpAny_execs_cons (wpAny_Expr_any ?_ I.quiet hsw)
 refine wpAny_mono (alH F hr hgf hmf hk hb ha I h hdf he hpl) (fun u s2 z=>?_) fun _ _ z=>z
 obtain⟨v,H2,I2,r2,q2⟩:=z
 exact wpAny_execs_nil ⟨σ,H2,I2,q2⟩
noncomputable def amJ (K:apD) (C0:Addr) (tb:XK->TS) (j:Nat) (ts:Addr->TS):TS:=fun D σ H=>tb (fun C o H2=>asi K C (.ref C0)=some true/\∀ a,H2 a=none->ts a (acZ D j) (σ.set j (some (.ref a))) (upd H2 a (.ext (ExcAt a C o)))) D σ H
theorem alJ {body suite:List Stmt} {tb:XK->TS} {b0:Stmt} {hx n:Str} {hp hpos:Pos} {C0:Addr} {j:Nat} {tss:Addr->TS} (hB:PBy X body tb) (hN:X.N.Nodup) (hst:X.stack=X.env :: X.outer) (hf:X.env.frame=some X.env.locals) (hj:X.N[j]?=some n) (hn:X.env.scope.names.lookup n=some .local)
  (hg:Gl X hx) (hm:X.mg hx=some (.ref C0)) (hs:∀ a,PSs (X.marked (.ref a)) (b0 :: suite) (tss a)) (hd:(hx == ("__debug__":Str))=false:=by decide) :
  PS X (.Try body [.ExceptHandler (some (.Name hx hp)) (some n) (b0 :: suite) hpos] [] [] pos) (amJ X.K C0 tb j tss):=by
 intro pins s σ H D I h
 refine wpAny_Try_except (wpAny_mono (hB pins s σ H D _ I h) (fun fl s1 z=>?_) fun e s' z=>?_)
 ·cases fl with
  | next=>exact wpAny_execs_nil z
  | brk=>exact z
  | cont=>exact z
  | ret u=>exact z
 ·obtain⟨H1,s1,I1,a,C,o,H2,rfl,x,dc,hit,hts⟩:=z
  exact ao6 (ts:=tss a) I1 x dc hst hf hN hj hn hg hm hit (hs a) (hts a x.free) hd
end
noncomputable abbrev XD:=Option (Str×PyData)
noncomputable def FieldIs (K:apD) (Hh:Hp):Option Addr->XD->Prop
 | none,none=>True
 | some dx,some (n,d)=>∃ v,Hh dx=some (.xd [(n,v)])/\Rep K Hh d v
 | _,_=>False
theorem FieldIs.mono {K:apD} {H H':Hp} (s:Same H H'):∀ {o:Option Addr} {x:XD},FieldIs K H o x->FieldIs K H' o x
 | none,none,_=>trivial
 | some dx,some (n,d),h=>let⟨v,h1,h2⟩:=h;⟨v,s _ _ h1,Rep.mono s d v h2⟩
 | none,some _,h=>h.elim
 | some _,none,h=>h.elim
noncomputable def abv (K:apD) (a:Addr) (C:Value) (x:XD):Hp->V->Prop:=fun Hh v=>∃ o,v=.ref a/\Hh a=some (.ext (ExcAt a C o))/\FieldIs K Hh o x
noncomputable def Wish (K:apD) (f:Fx) (E:XK) (H:Hp) (Z:Value->XD->Prop):Prop:=∀ C o x H',Goes f H H'->FieldIs K (hide H' f) o x->Z C x->E C o H'
theorem Wish.go {K:apD} {f:Fx} {E:XK} {H H1:Hp} {Z:Value->XD->Prop} (z:Wish K f E H Z) (g:Goes f H H1):Wish K f E H1 Z:=fun C o x H' g'=>z C o x H' (g.trans g')
noncomputable def PEf (K:apD) (f:Fx) (E:XK) (te:TE) (ρ:zp) (P:PyData->Prop) (Z:Value->XD->Prop):Prop:=∀ (σ:St) (H:Hp) (Q:VK),EnvOk K f ρ σ H->(∀ d v H',Goes f H H'->Rep K (hide H' f) d v->P d->Q v H')->Wish K f E H Z->te σ H Q
noncomputable def PSf (K:apD) (f:Fx) (E:XK) (ts:TS) (ρ:zp) (D:DEnds) (Z:Value->XD->Prop):Prop:=∀ (σ:St) (H:Hp) (N:Ends),EnvOk K f ρ σ H->(∀ ρ' σ' H',Goes f H H'->EnvOk K f ρ' σ' H'->D.nx ρ'->N.nx σ' H') ->
 (∀ d v H',Goes f H H'->Rep K (hide H' f) d v->D.rt d->N.rt v H')->(∀ ρ' σ' H',Goes f H H'->EnvOk K f ρ' σ' H'->D.bk ρ'->N.bk σ' H')->(∀ ρ' σ' H',Goes f H H'->EnvOk K f ρ' σ' H'->D.ct ρ'->N.ct σ' H')->Wish K f E H Z->ts N σ H
noncomputable def spF {γ:Type} (K:apD) (n:Nat) (pre:γ->List DV->Prop) (post:γ->PyData->Prop) (exc:γ->Value->XD->Prop):Sp:=fun vs H Q E=>∃ f xs c,RepVs K f H xs vs/\xs.length=n/\FOk f H/\pre c xs /\
 (∀ r v H',Goes f H H'->Rep K (hide H' f) r v->post c r->Q v H')/\Wish K f E H (exc c)
section
variable {K:apD} {f:Fx} {ρ:zp} {E:XK} {te:TE} {ts tu:TS} {tt:TT} {t:TA} {P:PyData->Prop} {D:DEnds} {Z:Value->XD->Prop} {g:TG} {wi:TI}
theorem anQ (h:PEd K f te ρ P):PEf K f E te ρ P Z:=fun σ H Q e q _=>h σ H Q e q
theorem afO (h:PSd K f ts ρ D):PSf K f E ts ρ D Z:=fun σ H N e n r b c _=>h σ H N e n r b c
theorem anR {γ:Type} {n:Nat} {pre:γ->List DV->Prop} {post:γ->PyData->Prop} {exc:γ->Value->XD->Prop} (c:γ) (h:PAd K f t ρ fun xs=>xs.length=n/\pre c xs/\(∀ r,post c r->P r)/\∀ C x,exc c C x->Z C x):PEf K f E (vx (spF K n pre post exc) [] E t) ρ P Z:=fun σ H Q e q z =>
 h σ H _ e fun xs vs H1 g1 r1 ⟨hl,hp,k,kz⟩=>⟨f,xs,c,by rw [aqe];exact r1,hl,g1.2,hp,fun r v H' g' r' p'=>q r v H' (g1.trans g') r' (k r p'),fun C o x H' g' fi p'=>z C o x H' (g1.trans g') fi (kz C x p')⟩
theorem ads {C:Addr} {name:Str} (h:PAd K f t ρ fun xs=>∃ d,xs=[.dat d]/\Z (.ref C) (some (name,d))):PSf K f E (adq C name E t) ρ D Z:=fun σ H N e n r b c z =>
 h σ H _ e fun xs vs H1 g1 r1 ⟨d,ex,hz⟩=>by
  subst ex
  cases r1 with
  | @cons _ v _ _ rd rn =>
   cases rn
   refine⟨v,rfl,fun dx hn=>?_⟩
   have g2:Goes f H1 (upd H1 dx (.xd [(name,v)])):=.of_same (zI hn _) g1.2
   exact z (.ref C) (some dx) (some (name,d)) _ (g1.trans g2) ⟨v,zu (fresh_ne g1.2 hn) zo,Rep.mono g2.1 d v rd⟩ hz
theorem aj5 (h:PSf K f E ts ρ { D with nx:=fun ρ'=>PSf K f E tu ρ' D Z } Z):PSf K f E (jL ts tu) ρ D Z:=fun σ H N e n r b c z =>
 h σ H _ e (fun ρ' σ' H' g' e' p=>p σ' H' N e' (fun ρ2 σ2 H2 g2=>n ρ2 σ2 H2 (g'.trans g2)) (fun d v H2 g2=>r d v H2 (g'.trans g2)) (fun ρ2 σ2 H2 g2=>b ρ2 σ2 H2 (g'.trans g2)) (fun ρ2 σ2 H2 g2=>c ρ2 σ2 H2 (g'.trans g2)) (z.go g')) r b c z
theorem ao7 (h:PTd K f tt ρ fun q=>if q=true then PSf K f E ts ρ D Z else PSf K f E tu ρ D Z):PSf K f E (acF tt ts tu) ρ D Z:=fun σ H N e n r b c z =>
 h σ H _ e fun q H1 g1 p=>by
  have go:∀ tx,PSf K f E tx ρ D Z->tx N σ H1:=fun tx p=>p σ H1 N (e.mono g1) (fun ρ2 σ2 H2 g2=>n ρ2 σ2 H2 (g1.trans g2)) (fun d v H2 g2=>r d v H2 (g1.trans g2)) (fun ρ2 σ2 H2 g2=>b ρ2 σ2 H2 (g1.trans g2)) (fun ρ2 σ2 H2 g2=>c ρ2 σ2 H2 (g1.trans g2)) (z.go g1)
  cases q with
  | false=>rw [if_neg apB] at p ⊢;exact go _ p
  | true=>rw [if_pos rfl] at p ⊢;exact go _ p
theorem anS (h:PEf K f E te ρ (fun _=>D.nx ρ) Z):PSf K f E (vw te) ρ D Z:=fun σ H N e n r b c z=>h σ H _ e (fun d v H' g' _ p=>n ρ σ H' g' (e.mono g') p) z
theorem ao8 (h:PId K f wi ρ fun ds=>∃ J:Nat->zp->Prop,J 0 ρ /\
   (∀ (i:Nat) d ρ',ds[i]?=some d->J i ρ'->PGd K f g d ρ' fun ρ2=>PSf K f E ts ρ2 { D with nx:=J (i+1),ct:=J (i+1),bk:=D.nx } Z)/\∀ ρ',J ds.length ρ'->D.nx ρ') :
  PSf K f E (ahG wi g ts) ρ D Z:=fun σ H N e n r b c z=>h σ H _ e fun ds J H1 g1 it ⟨Jv,j0,js,jd⟩=>by
 refine⟨fun i m σ' H'=>∃ ρ',EnvOk K f ρ' σ' H'/\Goes f H1 H'/\Jv i ρ'/\m+i=ds.length,⟨ds.length,ρ,e.mono g1,.refl g1.2,j0,rfl⟩,fun i m σ' H' ⟨ρ',e',g',p,hm⟩=>?_⟩
 by_cases hi:i<ds.length
 ·obtain⟨hgo,hy⟩:=it.go f H' i _ e'.fd g'.sm (apA hi)
  refine .inr ⟨hgo,fun σ2 H2=>∃ ρ2,EnvOk K f ρ2 σ2 H2/\Goes f H1 H2/\Jv (i+1) ρ2,fun σ2 H2 ⟨ρ2,e2,g2,p2⟩=>⟨m - 1,by omega,ρ2,e2,g2,p2,by omega⟩,fun x H3 hx=>?_⟩
  obtain⟨g3,r3⟩:=hy x H3 hx
  refine js i _ ρ' (apA hi) p σ' H3 x _ (e'.mono g3) r3 fun ρ2 σ2 H4 g4 e4 p4=>?_
  have gg:=g'.trans (g3.trans g4)
  exact p4 σ2 H4 _ e4 (fun ρ5 σ5 H5 g5 e5 p5=>⟨ρ5,e5,gg.trans g5,p5⟩) (fun d v H5 g5 r5 p5=>r d v H5 (g1.trans (gg.trans g5)) r5 p5) (fun ρ5 σ5 H5 g5 e5 p5=>n ρ5 σ5 H5 (g1.trans (gg.trans g5)) e5 p5) (fun ρ5 σ5 H5 g5 e5 p5=>⟨ρ5,e5,gg.trans g5,p5⟩) (z.go (g1.trans gg))
 ·have ei:i=ds.length:=by omega
  subst ei
  exact .inl ⟨it.st f H' e'.fd g'.sm,n ρ' σ' H' (g1.trans g') e' (jd ρ' p)⟩
noncomputable def PYd (K:apD) (f:Fx) (tb:XK->TS) (ρ:zp) (D:DEnds) (Z:Value->XD->Prop):Prop:=∀ (E:XK),PSf K f E (tb E) ρ D Z
theorem anT {γ:Type} {n:Nat} {pre:γ->List DV->Prop} {post:γ->PyData->Prop} {exc:γ->Value->XD->Prop} (c:γ)
  (h:PAd K f t ρ fun xs=>xs.length=n/\pre c xs/\(∀ r,post c r->D.nx ρ)/\∀ C x,exc c C x->Z C x):PYd K f (amI (spF K n pre post exc) t) ρ D Z:=fun E σ H N e nx rt bk ct z =>
 h σ H _ e fun xs vs H1 g1 r1 ⟨hl,hp,k,kz⟩=>⟨f,xs,c,r1,hl,g1.2,hp,fun r v H' g' r' p'=>nx _ _ H' (g1.trans g') (e.mono (g1.trans g')) (k r p'),fun C o x H' g' fi p'=>z C o x H' (g1.trans g') fi (kz C x p')⟩
theorem anU {tb:XK->TS} {C0:Addr} {j:Nat} {tss:Addr->TS}
  (h:PYd K f tb ρ D fun C x=>asi K C (.ref C0)=some true/\∀ a,PSd K f (tss a) (ρ.set j (some (.mon (abv K a C x)))) { nx:=fun ρ'=>D.nx (ρ'.set j none),rt:=D.rt,bk:=fun ρ'=>D.bk (ρ'.set j none),ct:=fun ρ'=>D.ct (ρ'.set j none) }) :
  PSd K f (amJ K C0 tb j tss) ρ D:=fun σ H N e nx rt bk ct=>by
 refine h _ σ H N e nx rt bk ct fun C o x H' g' fi ⟨hit,hs⟩=>⟨hit,fun a hn=>?_⟩
 have gn:Goes f H' (upd H' a (.ext (ExcAt a C o))):=.of_same (zI hn _) g'.ok
 have gg:=g'.trans gn
 have e2:=(e.mono gg).set j (x:=.mon (abv K a C x)) (v:=.ref a) fun H'' s''=>⟨o,rfl,s'' _ _ (zu (fresh_ne g'.ok hn) zo),FieldIs.mono (gn.1.trans s'') fi⟩
 have none_ok:∀ {ρ':zp} {σ':St} {H'':Hp},EnvOk K f ρ' σ' H''->EnvOk K f (ρ'.set j none) (σ'.set j none) H'':=fun {ρ' σ' H''} e'=>by
  refine⟨by rw [aqB,aqB];exact e'.len,fun q y hy=>?_,e'.fd⟩
  by_cases hq:j=q
  ·subst hq
   rw [as0] at hy
   rw [if_pos rfl] at hy
   split at hy <;> cases hy
  ·rw [aqs hq] at hy ⊢
   exact e'.get q y hy
 exact hs a _ _ _ e2 (fun ρ' σ' H'' g'' e'' p''=>nx _ _ H'' (gg.trans g'') (none_ok e'') p'') (fun d v H'' g'' r'' p''=>rt d v H'' (gg.trans g'') r'' p'') (fun ρ' σ' H'' g'' e'' p''=>bk _ _ H'' (gg.trans g'') (none_ok e'') p'') (fun ρ' σ' H'' g'' e'' p''=>ct _ _ H'' (gg.trans g'') (none_ok e'') p'')
theorem ao9 {j:Nat} {C a:Addr} {x:XD} {c:V} {b:Bool} (hj:ρ[j]?=some (some (.mon (abv K a (.ref C) x)))) (Wy:ExcWays K C) (hk:(∃ n,c=.ty n/\aql K (.ref C) (.type n)=some b) \/ ∃ D,c=.ref D/\aql K (.ref C) (.ref D)=some b) (p:P (.bool b)) :
  PEd K f (tCB (anP K) (zQ (yp j) (zQ (tC c) yJ))) ρ P:=fun σ H Q e q=>by
 obtain⟨v,hv,r⟩:=e.get j _ hj
 obtain⟨o,rfl,hH,_⟩:=r H (zh H f)
 exact⟨_,hv,a,C,o,c,b,rfl,hH,Wy,hk,q _ _ H (.refl e.fd) (rep_bool.mpr rfl) p⟩
theorem aj6 {j:Nat} {C a fa Dc:Addr} {name:Str} {d:PyData} (hj:ρ[j]?=some (some (.mon (abv K a (.ref C) (some (name,d)))))) (T:FldC K C fa Dc name) (Wy:ExcWays K C) (p:P d):PEd K f (amH K name (yp j)) ρ P:=fun σ H Q e q=>by
 obtain⟨v,hv,r⟩:=e.get j _ hj
 obtain⟨o,rfl,hH,fi⟩:=r (hide H f) (Same.refl _)
 cases o with
 | none=>exact fi.elim
 | some dx =>
  obtain⟨y,h1,h2⟩:=fi
  exact⟨_,hv,a,C,fa,Dc,dx,y,rfl,T,Wy,(zA hH).2,(zA h1).2,q d y H (.refl e.fd) h2 p⟩
end
structure FnInF (P:Program) (w:World) (K:apD) (mg:Str->Option Value) (base:Heap) (k:Nat) (x:Str) (ps:List Str) (sp:Sp):Prop where
 ex:∃ (f:Addr) (fd:FuncData),FnOk P w K mg base (CXf P w) k f fd ps sp/\mg x=some (.ref f)/\aqq K (.ref f)=true/\Binds K fd ps []
section
variable {P:Program} {w:World} {K:apD} {mg:Str->Option Value} {base:Heap} {j k n:Nat} {x:Str} {st:Stmt} {ps N:List Str} {γ:Type} {pre:γ->List DV->Prop} {post:γ->PyData->Prop} {exc:γ->Value->XD->Prop} {sp:Sp}
theorem FnInF.mono (h:FnInF P w K mg base j x ps sp) (hk:j<=k):FnInF P w K mg base k x ps sp:=let⟨f,fd,a,b,c,d⟩:=h.ex;⟨f,fd,a.mono hk,b,c,d⟩
theorem Def.okF (F:Def K mg x st ps) (S:FnScope N ps (zf st)) (hn:ps.length=n)
  (h:∀ (fa:Addr) (cdv:Value) (A:Around) (outer:List Env) (s:Shared) (H:Hp) (E:XK),Room k (A.deeper (envOfC x (zf st) s.heap.objs.size fa cdv)) ->
   ∃ t,PSs (zH (CXf P w) P w K mg base N x (zf st) fa cdv A outer s H E) (ye st) t/\∀ f xs c,xs.length=n->pre c xs->PSf K f E t (qe N xs) { nx:=fun _=>post c .none,rt:=post c } (exc c)) :
  FnInF P w K mg base (k+1) x ps (spF K n pre post exc):=by
 obtain⟨fa,fd,F1,F2,F3⟩:=F.ex
 refine⟨fa,fd,F1.okF S (fun vs H Q E h=>?_) (fun cdv A outer s H vs Q E hr hs=>?_),F3,F1.kp,F2⟩
 ·obtain⟨f,xs,c,r,hl,_⟩:=h
  rw [r.length,hl,hn]
 ·obtain⟨f,xs,c,r,hl,fo,hp,q,z⟩:=hs
  obtain⟨t,h1,h2⟩:=h fa cdv A outer s H E hr
  refine⟨t,h1,h2 f xs c hl hp _ H _ (jB r fo) (fun ρ' σ' H' g' e' p=>q .none .non H' g' (rep_none.mpr rfl) p) (fun d v H' g' r' p=>q d v H' g' r' p) (fun _ _ _ _ _ z=>z.elim) (fun _ _ _ _ _ z=>z.elim) z⟩
theorem aj7 {qual:Str} {scope:Scope} {f:Addr} {cd:Value} {A:Around} {outer:List Env} {s:Shared} {H:Hp} {E:XK} {y:Str} {qs:List Str} {sq:Sp} {e:Expr} {es:List Expr} {t:TA} {p pos:Pos} (G:FnInF P w K mg base k y qs sq) (hr:Room k (zH (CXf P w) P w K mg base N qual scope f cd A outer s H E).A) (hg:Gl (zH (CXf P w) P w K mg base N qual scope f cd A outer s H E) y) (ha:PA (zH (CXf P w) P w K mg base N qual scope f cd A outer s H E) (e :: es) t) (hdb:(y == ("__debug__":Str))=false:=by decide)
  (he:starEach (e :: es) (zH (CXf P w) P w K mg base N qual scope f cd A outer s H E).env=(false,eval e (zH (CXf P w) P w K mg base N qual scope f cd A outer s H E).env) :: starEach es (zH (CXf P w) P w K mg base N qual scope f cd A outer s H E).env:=by rfl)
  (hpl:(backTo pos (starEach es (zH (CXf P w) P w K mg base N qual scope f cd A outer s H E).env)).any (·.1)=false:=by rfl) :
  PE (zH (CXf P w) P w K mg base N qual scope f cd A outer s H E) (.Call (.Name y p) (e :: es) [] pos) (vx sq [] E t):=by
 obtain⟨g,gd,G1,G2,G3,G4⟩:=G.ex
 exact agp (dvs:=[]) G1 hr hg G2 G3 G4 .nil ao4 ha hdb he hpl
end
noncomputable def alK (s:Stmt):List Stmt:=match s with
 | .ClassDef _ _ _ b _ _ _ _ _ _ _=>b
 | _=>[]
structure FCls (K:apD) (mg:Str->Option Value) (x base:Str) (C:Addr) (name:Str) (st:Stmt) (ps:List Str):Prop where
 ex:∃ (f D:Addr) (fd:FuncData),FldC K C f D name/\mg x=some (.ref C)/\mg base=some (.ref D)/\Fun K "__init__" (x ++ ".__init__") st f fd/\Binds K fd ps []
structure InitOk (P:Program) (w:World) (K:apD) (mg:Str->Option Value) (base:Heap) (k:Nat) (C:Addr) (name:Str):Prop where
 ex:∃ (f D:Addr) (fd:FuncData) (ps:List Str),FldC K C f D name/\FnOk P w K mg base CX0 k f fd ps (adp C name)/\Binds K fd ps []
theorem acj {P:Program} {w:World} {K:apD} {mg:Str->Option Value} {base:Heap} {N:List Str} {qual:Str} {scope:Scope} {f:Addr} {cd:Value} {A:Around} {outer:List Env} {s:Shared} {H:Hp} {E:XK} {k:Nat} {C:Addr} {name x:Str} {e0:Expr} {t:TA} {np cpos pos:Pos}
  (G:InitOk P w K mg base k C name) (hr:Room (k+1) (zH (CXf P w) P w K mg base N qual scope f cd A outer s H E).A) (hg:Gl (zH (CXf P w) P w K mg base N qual scope f cd A outer s H E) x) (hm:mg x=some (.ref C)) (ha:PA (zH (CXf P w) P w K mg base N qual scope f cd A outer s H E) [e0] t)
  (hse:starEach [e0] (zH (CXf P w) P w K mg base N qual scope f cd A outer s H E).env=(false,eval e0 (zH (CXf P w) P w K mg base N qual scope f cd A outer s H E).env) :: starEach [] (zH (CXf P w) P w K mg base N qual scope f cd A outer s H E).env:=by rfl) (hpl:(backTo cpos (starEach [] (zH (CXf P w) P w K mg base N qual scope f cd A outer s H E).env)).any (·.1)=false:=by rfl) (hd:(x == ("__debug__":Str))=false:=by decide) :
  PS (zH (CXf P w) P w K mg base N qual scope f cd A outer s H E) (.Raise (some (.Call (.Name x np) [e0] [] cpos)) none pos) (adq C name E t):=by
 obtain⟨fI,D,fd,ps,T,F,hb⟩:=G.ex
 exact ain T F hr hb aj2 rfl rfl rfl rfl hg hm ha hse hpl hd
theorem InitOk.fld {P:Program} {w:World} {K:apD} {mg:Str->Option Value} {base:Heap} {k:Nat} {C:Addr} {name:Str} (h:InitOk P w K mg base k C name):∃ f D,FldC K C f D name:=let⟨f,D,_,_,T,_⟩:=h.ex;⟨f,D,T⟩
theorem anV {K:apD} {f:Fx} {ρ:zp} {P:PyData->Prop} {j:Nat} {C D a:Addr} {x:XD} {b:Bool} (hj:ρ[j]?=some (some (.mon (abv K a (.ref C) x)))) (Wy:ExcWays K C) (hk:aql K (.ref C) (.ref D)=some b) (p:P (.bool b)) :
  PEd K f (tCB (anP K) (zQ (yp j) (zQ (tC (.ref D)) yJ))) ρ P:=ao9 hj Wy (.inr ⟨D,rfl,hk⟩) p
theorem aj8 {K:apD} {f:Fx} {t:TA} {ρ:zp} {R:List DV->Prop} (ys:List DV) (h:PAd K f t ρ fun xs=>xs=ys) (i:R ys):PAd K f t ρ R:=fun σ H Q e q=>h σ H Q e fun xs vs H' g r p=>q xs vs H' g r (p▸i)
theorem aeG {K:apD} {f:Fx} {ρ:zp} {D:DEnds} {tt:TT} {ts tu:TS} (p:Prop) [Decidable p] (h:PTd K f tt ρ fun b=>b=decide p) (h1:p->PSd K f ts ρ D) (h2:¬ p->PSd K f tu ρ D):PSd K f (acF tt ts tu) ρ D:=acW fun σ H Q e q=>h σ H Q e fun b H' g z=>q b H' g (by
 subst z
 by_cases hp:p
 ·rw [decide_eq_true hp,if_pos rfl];exact h1 hp
 ·rw [decide_eq_false hp,if_neg apB];exact h2 hp)
noncomputable def aaY (K:apD) (C:Addr):Bool :=
 aqA K (.ref C) "__getattribute__" == some (some (.builtin "BaseException.__getattribute__")) && aqA K (.ref C) "__getattr__" == some none && aqA K (.ref C) "__class__" == some (some (.builtin "object.__class__"))
  && arO K (.builtin "object.__class__") "__get__" == some (some (.builtin "getset_descriptor.__get__")) && PySem.W.takesIn K (.builtin "object.__class__") == some true && ass K C (.type "object") == some true && ass K C (.type "BaseException") == some true && (PySem.W.clsIn K C).isSome
theorem alL {K:apD} {C:Addr} (h:aaY K C=true):ExcWays K C:=by
 unfold aaY at h
 simp only [apO,beq_iff_eq] at h
 obtain⟨⟨⟨⟨⟨⟨⟨h1,h2⟩,h3⟩,h4⟩,h5⟩,h6⟩,h7⟩,h8⟩:=h
 exact⟨h1,h2,h3,h4,h5,h6,h7,h8⟩
section
variable {w:World} {K:apD} {f:Fx} {Ds:List Addr} {ts:TS} {te tk:TE} {ρ:zp} {cs:List OC} {O:MEnds} {i j n:Nat}
theorem apa (h:PEm w K f Ds te ρ cs fun d=>O.nx (ρ.set n (some (.dat d))) cs):PSm w K f Ds (qc te (yR n)) ρ cs O:=fun se σ H H2 E x nn r b k =>
 h se σ H H2 _ x fun d v H1 g1 r1 p1=>by
  have x1:=x.go g1 (x.env.mono g1)
  exact nn _ cs _ H1 ⟨x1.env.set n (x:=.dat d) r1,x1.sm,x1.kp,x1.len,x1.own⟩ p1
end
structure RoomM (k:Nat) (A:Around):Prop where
 dp:A.depth+3 * k+5<recursionLimit
 un:A.units+16 * k+200<cLine
structure FnOkM (P:Program) (w:World) (K:apD) (mg:Str->Option Value) (base:Heap) (k:Nat) (f:Addr) (fd:FuncData) (ps:List Str) (sp:Addr->Sp):Prop where
 len:∀ a vs H Q E,sp a vs H Q E->vs.length=ps.length
 run:∀ (A:Around) (outer:List Env) (s:Shared) (H:Hp) (args:Args) (us:List Value) (vs:List V) (Q:VK) (a:Addr),A.handled=some (.ref a)->RoomM k A->Env0 P w K mg base A outer s H->BindsTo s fd args (ps.zip us)->Vals vs us->sp a vs H Q E0 ->
  codeAny (model P w) A (.call (.ref f) args) (CR CX0 outer P w H s Q E0) s
structure FnInM (P:Program) (w:World) (K:apD) (mg:Str->Option Value) (base:Heap) (k:Nat) (x:Str) (ps:List Str) (sp:Addr->Sp):Prop where
 ex:∃ (f:Addr) (fd:FuncData),FnOkM P w K mg base k f fd ps sp/\mg x=some (.ref f)/\aqq K (.ref f)=true/\Binds K fd ps []
noncomputable abbrev adt (rows:List (List Int)):PyData:=.list (rows.map fun r=>.list (r.map .int))
structure TN (K:apD) (f:Fx) (a:Addr) (as:List Addr) (H2:Hp) (ρ:zp) (R:Option (List (List Int))) (σ:St) (H:Hp):Prop where
 env:EnvOk K (f.withs (a :: as)) ρ σ H
 sm:Same (hide H2 (f.withs (a :: as))) (hide H (f.withs (a :: as)))
 kp:∀ b∈f.M,H b=H2 b
 tab:∀ rows,R=some rows->TabAt H a as rows
noncomputable def PSu (K:apD) (f:Fx) (a:Addr) (as:List Addr) (ts:TS) (ρ:zp) (R:Option (List (List Int))) (O:zp->Option (List (List Int))->Prop):Prop:=Sep f (a :: as)->∀ (σ:St) (H H2:Hp) (E:Ends),TN K f a as H2 ρ R σ H ->
 (∀ ρ' R' σ' H',TN K f a as H2 ρ' R' σ' H'->O ρ' R'->E.nx σ' H')->ts E σ H
section
variable {K:apD} {f:Fx} {a:Addr} {as:List Addr} {ρ ρ2:zp} {rows:List (List Int)} {R:Option (List (List Int))} {O:zp->Option (List (List Int))->Prop} {ts tu:TS} {tt:TT} {te ty tx:TE} {i:Nat} {σ σ2:St} {H H' H2:Hp}
theorem TN.go (x:TN K f a as H2 ρ R σ H) (g:Goes (f.withs (a :: as)) H H') (e2:EnvOk K (f.withs (a :: as)) ρ2 σ2 H'):TN K f a as H2 ρ2 R σ2 H' :=
 ⟨e2,x.sm.trans g.sm,fun b hb=>(g.kp b (apR _ hb)).trans (x.kp b hb),fun rows e=>(x.tab rows e).keep fun b hb=>g.kp b (zL hb)⟩
theorem je:(f.withs (a :: as)).M.reverse=f.M.reverse++a :: as:=by
 show ((a :: as).reverse++f.M).reverse=_
 rw [arz,asv]
theorem TN.at (x:TN K f a as H2 ρ R σ H) (hi:ρ[i]?=some (some (.own f.M.length))):σ[i]?=some (some (.ref a)):=by
 obtain⟨v,a1,p,a2,rfl⟩:=x.env.get i _ hi
 rw [je,apQ (by simp)] at a2
 simp at a2
 rw [a2]
 exact a1
theorem TN.fok (x:TN K f a as H2 ρ R σ H):FOk f H:=⟨x.env.fd.fd,fun b hb=>x.env.fd.mm b (apR _ hb),fun p e hp=>x.env.fd.nm p e (apR _ hp)⟩
theorem TN.out (x:TN K f a as H2 ρ R σ H):EnvOk K f (ρ.map (yY f.M.length)) σ H:=by
 refine⟨by rw [apC];exact x.env.len,fun q z hz=>?_,x.fok⟩
 rw [apM] at hz
 cases e0:ρ[q]? with
 | none=>rw [e0] at hz;cases hz
 | some z0 =>
  rw [e0] at hz
  cases z0 with
  | none=>cases hz
  | some z0 =>
   obtain⟨v,a1,a2⟩:=x.env.get q z0 e0
   cases z0 with
   | dat d=>cases hz;exact⟨v,a1,Rep.mono same_withs d v a2⟩
   | feed=>cases hz;exact⟨v,a1,a2⟩
   | exc C=>cases hz;obtain⟨b,h3,h4⟩:=a2;exact⟨v,a1,b,h3,same_withs _ _ h4⟩
   | mon φ=>cases hz;exact⟨v,a1,fun H' s=>a2 H' (same_withs.trans s)⟩
   | own k =>
    have hz':(if k<f.M.length then some (DV.own k) else none)=some z:=Option.some.inj hz
    by_cases hk:k<f.M.length
    ·rw [if_pos hk] at hz'
     cases hz'
     obtain⟨b,h3,h4⟩:=a2
     refine⟨v,a1,b,?_,h4⟩
     rw [je,apL (by simpa using hk)] at h3
     exact h3
    ·rw [if_neg hk] at hz'
     cases hz'
theorem afP (se:Sep f (a :: as)):∀ D∈a :: as,¬ (f.f=some D \/ D∈f.M):=fun D hD z=>z.elim (se.nf D hD) (se.nm D hD)
theorem TN.read (se:Sep f (a :: as)) (x:TN K f a as H2 ρ (some rows) σ H) (hi:ρ[i]?=some (some (.own f.M.length))):EnvOk K f ((ρ.map (yY f.M.length)).set i (some (.dat (adt rows)))) σ H:=by
 have o:=x.out
 refine⟨by rw [aqB];exact o.len,fun q z hz=>?_,o.fd⟩
 by_cases e:i=q
 ·subst e
  rw [as0,if_pos rfl] at hz
  split at hz
  ·cases hz
   exact⟨_,x.at hi,(x.tab rows rfl).rep (afP se a (apJ ..)) fun y hy=>afP se y (apG _ hy)⟩
  ·cases hz
 ·rw [aqs e] at hz
  exact o.get q z hz
theorem TN.beside (se:Sep f (a :: as)) (x:TN K f a as H2 ρ R σ H) (g:Goes f H H'):Goes (f.withs (a :: as)) H H':=by
 have kp:∀ b∈a :: as,H' b=H b:=fun b hb=>by
  obtain⟨o,h1⟩:=x.env.fd.mm b (zL hb)
  rw [h1]
  exact (zA (g.sm b o (zu (afP se b hb) h1))).2
 refine⟨fun b o hb=>?_,⟨g.ok.fd,fun b hb=>?_,x.env.fd.nm⟩,fun b hb=>?_⟩
 ·obtain⟨n1,h1⟩:=zA hb
  have n2:¬ (f.f=some b \/ b∈f.M):=fun z=>n1 (z.elim .inl fun z=>.inr (apR _ z))
  exact zu n1 (zA (g.sm b o (zu n2 h1))).2
 ·rcases apW.mp hb with h | h
  ·obtain⟨o,h1⟩:=x.env.fd.mm b hb
   exact⟨o,(kp b (aqg.mp h)).trans h1⟩
  ·exact g.ok.mm b h
 ·rcases apW.mp hb with h | h
  ·exact kp b (aqg.mp h)
  ·exact g.kp b h
theorem afQ (h:PSd K (f.withs (a :: as)) ts ρ { nx:=fun ρ'=>O ρ' R,rt:=fun _=>False }):PSu K f a as ts ρ R O:=fun se σ H H2 E x n =>
 h σ H E x.env (fun ρ' σ' H' g' e' p=>n ρ' R σ' H' (x.go g' e') p) (fun _ _ _ _ _ z=>z.elim) (fun _ _ _ _ _ z=>z.elim) (fun _ _ _ _ _ z=>z.elim)
theorem aeH (h:PSu K f a as ts ρ R fun ρ' R'=>PSu K f a as tu ρ' R' O):PSu K f a as (jL ts tu) ρ R O:=fun se σ H H2 E x n =>
 h se σ H H2 _ x fun ρ' R' σ' H' x' p=>p se σ' H' H2 E x' n
theorem afR (h:O ρ R):PSu K f a as abW ρ R O:=fun se σ H H2 E x n=>n ρ R σ H x h
theorem apb (hi:ρ[i]?=some (some (.own f.M.length))) (h:PTd K f tt ((ρ.map (yY f.M.length)).set i (some (.dat (adt rows)))) fun b=>if b=true then PSu K f a as ts ρ (some rows) O else PSu K f a as tu ρ (some rows) O):PSu K f a as (acF tt ts tu) ρ (some rows) O:=fun se σ H H2 E x n =>
 h σ H _ (x.read se hi) fun b H1 g1 p=>by
  have g2:=x.beside se g1
  have x1:=x.go g2 (x.env.mono g2)
  cases b with
  | true=>rw [if_pos rfl] at p ⊢;exact p se σ H1 H2 E x1 n
  | false=>rw [if_neg apB] at p ⊢;exact p se σ H1 H2 E x1 n
theorem apc (h:PTd K (f.withs (a :: as)) tt ρ fun b=>if b=true then PSu K f a as ts ρ R O else PSu K f a as tu ρ R O):PSu K f a as (acF tt ts tu) ρ R O:=fun se σ H H2 E x n =>
 h σ H _ x.env fun b H1 g1 p=>by
  have x1:=x.go g1 (x.env.mono g1)
  cases b with
  | true=>rw [if_pos rfl] at p ⊢;exact p se σ H1 H2 E x1 n
  | false=>rw [if_neg apB] at p ⊢;exact p se σ H1 H2 E x1 n
theorem TN.turn {r:Nat} {row row':List Int} (se:Sep f (a :: as)) (x:TN K f a as H2 ρ (some rows) σ H) (hr:rows[r]?=some row) (hl:r<as.length):TN K f a as H2 ρ (some (rows.set r row')) σ (upd H as[r] (.lst (row'.map .int))):=by
 have t:=x.tab rows rfl
 have ha:as[r]?=some as[r]:=apA hl
 have hm:as[r]∈a :: as:=apG _ (apN ha)
 have nd:=aqp.mp t.nd
 have ne:a≠as[r]:=fun z=>nd.1 (z▸apN ha)
 refine⟨ade se hm x.env,by rw [yd hm];exact x.sm,fun b hb=>(zm (fun (z:b=as[r])=>se.nm _ hm (z▸hb))).trans (x.kp b hb),fun rows' e=>?_⟩
 cases e
 refine⟨(zm ne).trans t.top,t.nd,by rw [aqB];exact t.len,fun j y q h1 h2=>?_⟩
 by_cases e:r=j
 ·subst e
  rw [ha] at h1
  cases h1
  rw [aqm (apE.mp hr).1] at h2
  cases h2
  exact zo
 ·rw [aqs e] at h2
  have hy:y≠as[r]:=fun z=>by
   subst z
   exact e ((List.getElem?_inj hl nd.2).mp (ha.trans h1.symm))
  exact (zm hy).trans (t.row j y q h1 h2)
theorem apd (hi:ρ[i]?=some (some (.own f.M.length))) (h:PEd K (f.withs (a :: as)) ty ρ fun y=>∃ r:Nat,y=.int r/\∃ row,rows[r]?=some row/\row.length<1000/\PEd K (f.withs (a :: as)) te ρ fun d=>∃ v:Int,d=.int v/\O ρ (some (rows.set r (row++[v])))) :
  PSu K f a as (vw (tBM K "list" vO (tOp (ad0 K) (yp i) ty) (zQ te yJ))) ρ (some rows) O:=fun se σ H H2 E x n=>by
 refine⟨.ref a,x.at hi,h σ H _ x.env fun y u H1 g1 r1 ⟨r,ey,row,hr,hl,h4⟩=>?_⟩
 subst ey
 rw [rep_int.mp r1]
 have x1:=x.go g1 (x.env.mono g1)
 have t1:=x1.tab rows rfl
 have hlt:r<as.length:=by rw [t1.len];exact (apE.mp hr).1
 have ha:as[r]?=some as[r]:=apA hlt
 refine⟨a,as.map .ref,(r:Int),.ref as[r],rfl,rfl,.of t1.top,zO (by rw [apM,ha];rfl),Or.inl ⟨rfl,_,.of (t1.row r _ row ha hr)⟩,?_⟩
 refine h4 σ H1 _ x1.env fun d v H3 g3 r3 ⟨vi,ed,ho⟩=>?_
 subst ed
 rw [rep_int.mp r3]
 have x3:=x1.go g3 (x1.env.mono g3)
 refine⟨as[r],row.map .int,.int vi,rfl,rfl,(x3.tab rows rfl).row r _ row ha hr,zW (by rw [apC];omega),?_⟩
 have x4:=x3.turn (row':=row++[vi]) se hr hlt
 rw [ap6] at x4
 exact n ρ _ σ _ x4 ho
theorem ape (hi:ρ[i]?=some (some (.own f.M.length)))
  (h:PEd K (f.withs (a :: as)) te ρ fun d=>∃ v:Int,d=.int v/\PEd K (f.withs (a :: as)) ty ρ fun y=>∃ r:Nat,y=.int r/\∃ row,rows[r]?=some row/\PEd K (f.withs (a :: as)) tx ρ fun x=>∃ c:Nat,x=.int c/\c<row.length/\O ρ (some (rows.set r (row.set c v)))) :
  PSu K f a as (qc te (acG (tOp (ad0 K) (yp i) ty) tx aax)) ρ (some rows) O:=fun se σ H H2 E x n =>
 h σ H _ x.env fun d v H1 g1 r1 ⟨vi,ed,h2⟩=>by
  subst ed
  rw [rep_int.mp r1]
  have x1:=x.go g1 (x.env.mono g1)
  refine⟨.ref a,x1.at hi,h2 σ H1 _ x1.env fun y u H3 g3 r3 ⟨r,ey,row,hr,h4⟩=>?_⟩
  subst ey
  rw [rep_int.mp r3]
  have x3:=x1.go g3 (x1.env.mono g3)
  have t3:=x3.tab rows rfl
  have hlt:r<as.length:=by rw [t3.len];exact (apE.mp hr).1
  have ha:as[r]?=some as[r]:=apA hlt
  refine⟨a,as.map .ref,(r:Int),.ref as[r],rfl,rfl,.of t3.top,zO (by rw [apM,ha];rfl),?_⟩
  refine h4 σ H3 _ x3.env fun z u' H5 g5 r5 ⟨c,ez,hc,ho⟩=>?_
  subst ez
  rw [rep_int.mp r5]
  have x5:=x3.go g5 (x3.env.mono g5)
  refine⟨as[r],row.map .int,(c:Int),c,rfl,rfl,(x5.tab rows rfl).row r _ row ha hr,anf rfl (by rw [apC];exact hc),?_⟩
  have x6:=x5.turn (row':=row.set c vi) se hr hlt
  rw [List.map_set] at x6
  exact n ρ _ σ _ x6 ho
theorem anW {Dn:DEnds} (h:ajk K f te ρ fun rows=>i<ρ.length/\∀ a as,PSu K f a as ts (ρ.set i (some (.own f.M.length))) (some rows) fun ρ' R'=>Dn.nx (ρ'.map (yY f.M.length)) \/ ∃ rows',R'=some rows'/\ρ'[i]?=some (some (.own f.M.length))/\Dn.nx ((ρ'.map (yY f.M.length)).set i (some (.dat (adt rows'))))) :
  PSd K f (jL (qc te (yR i)) ts) ρ Dn:=fun σ H E e n r b k =>
 h σ H _ e fun rows a as H1 g1 na nas t1 ⟨hi,p⟩=>by
  have hn:∀ D∈a :: as,H D=none:=fun D hD=>(apK.mp hD).elim (fun z=>z▸na) (nas D)
  have nf:∀ D∈a :: as,¬ (f.f=some D \/ D∈f.M):=fun D hD=>fresh_ne e.fd (hn D hD)
  have se:Sep f (a :: as):=⟨t1.nd,fun D hD z=>nf D hD (.inl z),fun D hD z=>nf D hD (.inr z)⟩
  have sm1:=aci (Ds:=a :: as) g1.sm hn
  have there:∀ D∈a :: as,∃ o,H1 D=some o:=fun D hD=>by
   rcases apK.mp hD with rfl | h
   ·exact⟨_,t1.top⟩
   ·obtain⟨j,hj⟩:=aqn h
    exact⟨_,t1.row j D _ hj (apA (by rw [<-t1.len];exact (apE.mp hj).1))⟩
  have fo1:FOk (f.withs (a :: as)) H1:=⟨g1.ok.fd,fun b hb=>(apW.mp hb).elim (fun h=>there b (aqg.mp h)) (g1.ok.mm b),fun q eq hq=>(apW.mp hq).elim (fun h=>nf q (aqg.mp h) (.inl eq)) (g1.ok.nm q eq)⟩
  have e1:EnvOk K (f.withs (a :: as)) ρ σ H1:=⟨e.len,fun q y hy=>by
   obtain⟨v,a1,a2⟩:=e.get q y hy
   refine⟨v,a1,?_⟩
   cases y with
   | dat d=>exact Rep.mono sm1 d v a2
   | feed=>exact a2
   | exc C=>obtain⟨b,h3,h4⟩:=a2;exact⟨b,h3,sm1 _ _ h4⟩
   | mon φ=>exact fun H' s=>a2 H' (sm1.trans s)
   | own k =>
    obtain⟨b,h3,h4⟩:=a2
    exact⟨b,by rw [je,apL (apE.mp h3).1];exact h3,h4⟩,fo1⟩
  have rv:RepV K (f.withs (a :: as)) H1 (.own f.M.length) (.ref a):=⟨a,by rw [je,apQ (by simp)];simp,rfl⟩
  refine p a as se _ H1 H1 _ ⟨e1.set i rv,Same.refl _,fun _ _=>rfl,fun rows' z=>by cases z;exact t1⟩ fun ρ' R' σ' H' x ho=>?_
  have gg:Goes f H H':=⟨(sm1.trans x.sm).trans same_withs,x.fok,fun b hb=>(x.kp b hb).trans (g1.kp b hb)⟩
  rcases ho with ho | ⟨rows',rfl,h1,ho⟩
  ·exact n _ σ' H' gg x.out ho
  ·exact n _ σ' H' gg (x.read se h1) ho
end
noncomputable def apf (f:Fx) (H:Hp) (RT:List (List Int)->Prop) (Q:VK):Prop:=∀ rows a as H',Goes f H H'->H a=none->(∀ x∈as,H x=none)->TabAt H' a as rows->RT rows->Q (.ref a) H'
noncomputable def alM {γ:Type} (K:apD) (n:Nat) (pre:γ->List DV->Prop) (postT:γ->List (List Int)->Prop) (postD:γ->PyData->Prop) (exc:γ->Value->XD->Prop):Sp:=fun vs H Q E=>∃ f xs c,RepVs K f H xs vs/\xs.length=n/\FOk f H/\pre c xs /\
 apf f H (postT c) Q/\(∀ r v H',Goes f H H'->Rep K (hide H' f) r v->postD c r->Q v H')/\Wish K f E H (exc c)
noncomputable def PSg (K:apD) (f:Fx) (E:XK) (ts:TS) (ρ:zp) (RT:List (List Int)->Prop) (RD:PyData->Prop) (Z:Value->XD->Prop):Prop:=∀ (σ:St) (H:Hp) (N:Ends),EnvOk K f ρ σ H->apf f H RT N.rt->(∀ r v H',Goes f H H'->Rep K (hide H' f) r v->RD r->N.rt v H')->Wish K f E H Z->ts N σ H
section
variable {K:apD} {f:Fx} {ρ:zp} {E:XK} {te tc:TE} {ts tu:TS} {tt:TT} {t:TA} {RT:List (List Int)->Prop} {RD:PyData->Prop} {Z:Value->XD->Prop} {i j n:Nat} {γ:Type} {pre:γ->List DV->Prop} {postT:γ->List (List Int)->Prop} {postD:γ->PyData->Prop} {exc:γ->Value->XD->Prop}
theorem aj9 (c:γ) (h:PAd K f t ρ fun xs=>xs.length=n/\pre c xs/\(∀ rows,postT c rows->RT rows)/\(∀ d,¬ postD c d)/\∀ C x,¬ exc c C x):ajk K f (vx (alM K n pre postT postD exc) [] E t) ρ RT:=fun σ H Q e q =>
 h σ H _ e fun xs vs H1 g1 r1 ⟨hl,hp,kT,kD,kz⟩=>⟨f,xs,c,by rw [aqe];exact r1,hl,g1.2,hp,fun rows a as H' g' na nas t1 p=>q rows a as H' (g1.trans g') (g1.free e.fd na) (fun x hx=>g1.free e.fd (nas x hx)) t1 (kT rows p),fun r v H' g' r' p=>absurd p (kD r),fun C o x H' _ _ p=>absurd p (kz C x)⟩
theorem aka (c:γ) (h:PAd K f t ρ fun xs=>xs.length=n/\pre c xs/\(∀ rows,postT c rows->RD (adt rows))/\(∀ d,postD c d->RD d)/\∀ C x,¬ exc c C x):PEd K f (vx (alM K n pre postT postD exc) [] E t) ρ RD:=fun σ H Q e q =>
 h σ H _ e fun xs vs H1 g1 r1 ⟨hl,hp,kT,kD,kz⟩=>⟨f,xs,c,by rw [aqe];exact r1,hl,g1.2,hp,fun rows a as H' g' na nas t1 p=>q (adt rows) (.ref a) H' (g1.trans g') (t1.rep (fresh_ne g1.2 na) fun y hy=>fresh_ne g1.2 (nas y hy)) (kT rows p),fun r v H' g' r' p=>q r v H' (g1.trans g') r' (kD r p),fun C o x H' _ _ p=>absurd p (kz C x)⟩
end
section
variable {P:Program} {w:World} {K:apD} {mg:Str->Option Value} {base:Heap} {k n:Nat} {x:Str} {st:Stmt} {ps N:List Str} {γ:Type} {pre:γ->List DV->Prop} {postT:γ->List (List Int)->Prop} {postD:γ->PyData->Prop} {exc:γ->Value->XD->Prop}
theorem Def.okG0 (F:Def K mg x st ps) (S:FnScope N ps (zf st)) (hn:ps.length=n)
  (h:∀ (fa:Addr) (cdv:Value) (A:Around) (outer:List Env) (s:Shared) (H:Hp) (E:XK),Room k (A.deeper (envOfC x (zf st) s.heap.objs.size fa cdv)) ->
   ∃ t,PSs (zH CX0 P w K mg base N x (zf st) fa cdv A outer s H E).nox (ye st) t/\∀ f xs c,xs.length=n->pre c xs->PSg K f E0 t (qe N xs) (postT c) (postD c) fun _ _=>False) :
  FnIn P w K mg base (k+1) x ps (alM K n pre postT postD fun _ _ _=>False):=by
 refine F.raw S (fun vs H Q E h=>?_) fun fa cdv A outer s H vs Q E hr hs=>?_
 ·obtain⟨f,xs,c,r,hl,_⟩:=h
  rw [r.length,hl,hn]
 ·obtain⟨f,xs,c,r,hl,fo,hp,q1,q2,z⟩:=hs
  obtain⟨t,h1,h2⟩:=h fa cdv A outer s H E hr
  exact⟨t,h1,h2 f xs c hl hp (start N vs) H _ (jB r fo) q1 q2 fun _ _ _ _ _ _ y=>y.elim⟩
end
end L2
end
section
namespace L2
open PySem PySem.Spec PyProof.Rows
structure GoesW (f:Fx) (As:List Addr) (H2 H':Hp):Prop where
 sm:Same (hide H2 (f.withs As)) (hide H' f)
 ok:FOk f H'
 kp:∀ b∈f.M,H' b=H2 b
noncomputable def PSw (K:apD) (f:Fx) (a:Addr) (as:List Addr) (ts:TS) (ρ:zp) (R:Option (List (List Int))) (RT:PyData->Prop):Prop:=Sep f (a :: as)->∀ (σ:St) (H H2:Hp) (E:Ends),TN K f a as H2 ρ R σ H ->
 (∀ d v H',GoesW f (a :: as) H2 H'->Rep K (hide H' f) d v->RT d->E.rt v H')->ts E σ H
section
variable {K:apD} {f:Fx} {a:Addr} {as:List Addr} {ρ:zp} {rows:List (List Int)} {R:Option (List (List Int))} {RT:PyData->Prop} {ts tu:TS} {te:TE} {i:Nat}
theorem akb (h:PSu K f a as ts ρ R fun ρ' R'=>PSw K f a as tu ρ' R' RT):PSw K f a as (jL ts tu) ρ R RT:=fun se σ H H2 E x r =>
 h se σ H H2 _ x fun ρ' R' σ' H' x' p=>p se σ' H' H2 E x' r
theorem anY (hi:ρ[i]?=some (some (.own f.M.length))) (h:PSd K f ts ((ρ.map (yY f.M.length)).set i (some (.dat (adt rows)))) { nx:=fun _=>False,rt:=RT }):PSw K f a as ts ρ (some rows) RT:=fun se σ H H2 E x r =>
 h σ H E (x.read se hi) (fun _ _ _ _ _ z=>z.elim) (fun d v H' g' r' p=>r d v H' ⟨(x.sm.trans same_withs).trans g'.sm,g'.ok,fun b hb=>(g'.kp b hb).trans (x.kp b hb)⟩ r' p) (fun _ _ _ _ _ z=>z.elim) (fun _ _ _ _ _ z=>z.elim)
theorem anZ {Dn:DEnds} (h:ajk K f te ρ fun rows=>i<ρ.length/\∀ a as,PSw K f a as ts (ρ.set i (some (.own f.M.length))) (some rows) Dn.rt) :
  PSd K f (jL (qc te (yR i)) ts) ρ Dn:=fun σ H E e n r b k =>
 h σ H _ e fun rows a as H1 g1 na nas t1 ⟨hi,p⟩=>by
  have hn:∀ D∈a :: as,H D=none:=fun D hD=>(apK.mp hD).elim (fun z=>z▸na) (nas D)
  have nf:∀ D∈a :: as,¬ (f.f=some D \/ D∈f.M):=fun D hD=>fresh_ne e.fd (hn D hD)
  have se:Sep f (a :: as):=⟨t1.nd,fun D hD z=>nf D hD (.inl z),fun D hD z=>nf D hD (.inr z)⟩
  have sm1:=aci (Ds:=a :: as) g1.sm hn
  have there:∀ D∈a :: as,∃ o,H1 D=some o:=fun D hD=>by
   rcases apK.mp hD with rfl | h
   ·exact⟨_,t1.top⟩
   ·obtain⟨j,hj⟩:=aqn h
    exact⟨_,t1.row j D _ hj (apA (by rw [<-t1.len];exact (apE.mp hj).1))⟩
  have fo1:FOk (f.withs (a :: as)) H1:=⟨g1.ok.fd,fun b hb=>(apW.mp hb).elim (fun h=>there b (aqg.mp h)) (g1.ok.mm b),fun q eq hq=>(apW.mp hq).elim (fun h=>nf q (aqg.mp h) (.inl eq)) (g1.ok.nm q eq)⟩
  have e1:EnvOk K (f.withs (a :: as)) ρ σ H1:=⟨e.len,fun q y hy=>by
   obtain⟨v,a1,a2⟩:=e.get q y hy
   refine⟨v,a1,?_⟩
   cases y with
   | dat d=>exact Rep.mono sm1 d v a2
   | feed=>exact a2
   | exc C=>obtain⟨b,h3,h4⟩:=a2;exact⟨b,h3,sm1 _ _ h4⟩
   | mon φ=>exact fun H' s=>a2 H' (sm1.trans s)
   | own k =>
    obtain⟨b,h3,h4⟩:=a2
    exact⟨b,by rw [je,apL (apE.mp h3).1];exact h3,h4⟩,fo1⟩
  have rv:RepV K (f.withs (a :: as)) H1 (.own f.M.length) (.ref a):=⟨a,by rw [je,apQ (by simp)];simp,rfl⟩
  refine p a as se _ H1 H1 _ ⟨e1.set i rv,Same.refl _,fun _ _=>rfl,fun rows' z=>by cases z;exact t1⟩ fun d v H' g' r' q=>?_
  exact r d v H' ⟨sm1.trans g'.sm,g'.ok,fun b hb=>(g'.kp b hb).trans (g1.kp b hb)⟩ r' q
end
structure FnAt (P:Program) (w:World) (K:apD) (mg:Str->Option Value) (base:Heap) (CX:CXT) (k:Nat) (a:Addr) (sp:Sp):Prop where
 ex:∃ (fd:FuncData) (ps:List Str),FnOk P w K mg base CX k a fd ps sp/\aqq K (.ref a)=true/\Binds K fd ps []
end L2
end
section
namespace L2
open PySem PySem.Spec PyProof.Rows
end L2
end
section
namespace L2
open PySem PySem.Spec PyProof.Rows
structure Src (prog:Program) (w:World) (j:Addr) (xs:Array Value) (dep:List Addr) (St:Nat->Heap->Prop):Prop where
 own:j∈dep
 keep:∀ {k:Nat} {h h':Heap},St k h->(∀ c∈dep,∀ o,h.get? c=some o->h'.get? c=some o)->St k h'
 there:∀ {k:Nat} {h:Heap},St k h->∃ o,h.get? j=some o
 item:∀ {A:Around} {E:Value->Shared->Prop} {s:Shared} {k:Nat} {x:Value} {Q:Value->Shared->Prop},St k s.heap->xs[k]?=some x->(∀ h',St (k+1) h'->arE j s.heap h'->Q x { s with heap:=h' })->wpAny (model prog w) A (asW (.ref j)) Q E s
 stop:∀ {A:Around} {E:Value->Shared->Prop} {s:Shared} {k:Nat} {Q:Value->Shared->Prop},A.handled=none->St k s.heap->xs[k]?=none->(∀ h' e,Heap.ExtBut j s.heap h'->(∃ o,h'.get? e=some o/\o.cls=.type "StopIteration")->E (.ref e) { s with heap:=h' })->wpAny (model prog w) A (asW (.ref j)) Q E s
section
variable {prog:Program} {w:World} {A:Around} {E:Value->Shared->Prop} {s:Shared}
structure Far (z q1 q2 j1 j2:Addr) (e1 e2:List Addr):Prop where
 q1z:q1≠z
 q2z:q2≠z
 q12:q1≠q2
 j12:j1≠j2
 q1j1:q1≠j1
 q1j2:q1≠j2
 z1:z∉e1
 z2:z∉e2
 o1:q2∉e1
 o2:q2∉e2
 d12:j2∉e1
 d21:j1∉e2
end
end L2
end
section
namespace L2
open PySem PySem.Spec PyProof.Rows
end L2
end
section
namespace L2
open PySem PySem.Spec PyProof.Rows
section
variable {K:apD} {f:Fx} {ρ:zp} {R:List DV->Prop} {i j m n:Nat} {d0 d1 d2 d3:PyData}
theorem afS (h0:ρ[i]?=some (some (.dat d0))) (h:R [.dat d0]):PAd K f (zQ (yp i) yJ) ρ R:=zJ (zq h0 (yu h))
theorem apy (h0:ρ[i]?=some (some (.dat d0))) (h1:ρ[j]?=some (some (.dat d1))) (h:R [.dat d0,.dat d1]):PAd K f (zQ (yp i) (zQ (yp j) yJ)) ρ R:=zJ (zq h0 (afS h1 h))
end
section
variable {w:World} {K:apD} {f:Fx} {Ds:List Addr} {ρ:zp} {cs:List OC} {ts tu:TS} {tt:TT} {te:TE} {R:List PyData->Prop} {i j:Nat}
theorem aeI {H H1:Hp} {D:Addr} (fo:FOk f H) (g:Goes f H H1) (hn:H1 D=none):H D=none:=by
 cases e:H D with
 | none=>rfl
 | some o =>
  by_cases hh:f.f=some D \/ D∈f.M
  ·have:∃ o,H1 D=some o:=hh.elim (fun z=>let⟨a,b,h3,_⟩:=g.ok.fd D z;⟨_,h3⟩) fun z=>g.ok.mm D z
   obtain⟨o',h⟩:=this
   rw [hn] at h
   cases h
  ·have:=(zA (g.sm D o (zu hh e))).2
   rw [hn] at this
   cases this
end
theorem v7 {α β:Type} {F:α->β} {l:List β} {m:List α} (h:l.Perm (m.map F)):∃ m':List α,m'.Perm m/\l=m'.map F:=by
 generalize e:m.map F=k at h
 induction h generalizing m with
 | nil=>exact⟨m,.refl _,e.symm⟩
 | cons x _ ih =>
  cases m with
  | nil=>cases e
  | cons a m =>
   injection e with e1 e2
   obtain⟨m',p,r⟩:=ih e2
   exact⟨a :: m',p.cons a,by rw [apZ,e1,r]⟩
 | swap x y l =>
  cases m with
  | nil=>cases e
  | cons a m =>
   cases m with
   | nil=>injection e with _ e;cases e
   | cons b m =>
    injection e with e1 e2
    injection e2 with e2 e3
    exact⟨b :: a :: m,.swap a b m,by rw [apZ,apZ,e1,e2,e3]⟩
 | trans _ _ ih1 ih2 =>
  obtain⟨m',p,r⟩:=ih2 e
  obtain⟨m'',p',r'⟩:=ih1 r.symm
  exact⟨m'',p'.trans p,r'⟩
noncomputable abbrev FD (K:apD) (x:Str) (st:Stmt) (f:Addr) (od an:Option Addr) (sl:Array (Option Value)) (oc kV dc pm cd ct:Value):Prop:=ap4 K mainGlobals x=some (some (.ref f))/\K.lookup f=some ⟨oc,od,.func (aqQ x x (yV st) (ye st) (zf st) .none kV dc pm an cd ct),sl⟩/\ar7 K cd x=true/\aqq K (.ref f)=true
theorem an0 {K:apD} {h:Heap} {mg:Str->Option Value} {x:Str} {st:Stmt} {f:Addr} {od an:Option Addr} {sl:Array (Option Value)} {oc kV dc pm cd ct:Value} (X:K.In h) (G:h.Ns mainGlobals mg) (a:FD K x st f od an sl oc kV dc pm cd ct) {ps:List Str}
  (hb:∀ (kV doc pm:Value) (an:Option Addr) (cdv ct:Value) (us:List Value),us.length=ps.length->bindArgs (aqQ x x (yV st) (ye st) (zf st) .none kV doc pm an cdv ct) ⟨us,[]⟩=pure (ps.zip us)):Def K mg x st ps :=
 ⟨f,_,acQ a.2.1 a.2.2.1 a.2.2.2,(acQ (st:=st) a.2.1 a.2.2.1 a.2.2.2).binds hb,aqy X G a.1⟩
end L2
end
section
namespace L2
open PySem PySem.Spec PyProof.Rows
end L2
end
section
open PySem PySem.Spec PyProof.Rows
namespace L2
end L2
end
section
namespace L2
open PySem PySem.Spec PyProof.Rows
section
variable {X:Cx}
theorem ag7 {K:apD} {H:Hp}:∀ {ts:List Str} {xs:List V} {us:List Value},Reps K H (ts.map .str) xs->Vals xs us->∃ l:List (Str×Tok),strValues l=us/\l.map (·.1)=ts
 | [],xs,us,r,v=>by
  cases reps_nil.mp r
  cases v
  exact⟨[],rfl,rfl⟩
 | t :: ts,xs,us,r,v=>by
  obtain⟨x,xs',rfl,h1,h2⟩:=reps_cons.mp r
  cases v with
  | cons a b =>
   obtain⟨l,e1,e2⟩:=ag7 h2 b
   have hx:=rep_str.mp h1
   subst hx
   obtain⟨tk,rfl⟩:=a
   exact⟨(t,tk) :: l,by rw [<-e1];rfl,by rw [<-e2];rfl⟩
noncomputable def rJoin (K:apD):V->List V->Hp->VK->Prop:=fun x ys H Q=>∃ sep ts y,x=.str sep/\ys=[y]/\Rep K H (.list (ts.map .str)) y/\JoinOk sep ts=true/\Q (.str (arD sep ts)) H
theorem alN:MtR X "str.join" (rJoin X.K):=by
 intro pins s σ H x xs v us Q I rx rv h
 obtain⟨sep,ts,y,rfl,rfl,hl,hok,q⟩:=h
 obtain⟨a,zs,rfl,hq,hr⟩:=rep_list.mp hl
 obtain⟨tk,rfl⟩:=rx
 obtain⟨u,rfl,ru⟩:=rv.one
 cases ru
 obtain⟨its,r,pl,hz⟩:=I.list hq
 obtain⟨l,e1,e2⟩:=ag7 hr r
 subst e2
 refine SC.join (l:=l) ?_ rfl hok fun t' k=>⟨.str _,H,I.tok _,⟨_,rfl⟩,q⟩
 rw [e1]
 obtain⟨o,n,e,c1,c2,c3⟩:=pl
 exact⟨o,e,c1,n,c3⟩
theorem qZ {K:apD} {o e:Expr} {es:List Expr} {to:TE} {t:TA} {apos cpos:Pos} (hK:X.K=K) (ho:PE X o to) (ha:PA X (e :: es) t)
  (hbase:attributeBase o "join" X.env (eval o X.env)=eval o X.env)
  (hfew:((backTo cpos (starEach (e :: es) X.env)).all (fun x=>!x.1) && (backToKw cpos (keywordEach [] X.env)).all (fun x=>x.1.isSome)
   && decide ((e :: es).length+([]:List Keyword).length+(if ([]:List Keyword).isEmpty then 0 else 1)<30))=true)
  (hline:(apos.endLine == cpos.line)=true) (hs:starEach (e :: es) X.env=(false,eval e X.env) :: starEach es X.env) (hplain:(backTo cpos (starEach es X.env)).any (·.1)=false) :
  PE X (.Call (.Attribute o "join" apos) (e :: es) [] cpos) (tBM K "str" (rJoin K) to t):=by
 subst hK
 exact qS arK PySem.F.slot_str_join PySem.F.type_str_join alN ho ha hbase hfew hline hs hplain
end
theorem akc {b:Nat}:∀ ts:List Str,(∀ t∈ts,t.length<=b)->(ts.map (·.length)).sum<=b * ts.length
 | [],_=>ap9 _
 | t :: ts,h=>by
  have h1:=akc ts fun u hu=>h u (apG _ hu)
  have h2:=h t apJ
  rw [apZ,at6,apT,Nat.mul_add]
  omega
theorem joinOk_of {sep:Str} {ts:List Str} {b:Nat} (h:∀ t∈ts,t.length<=b) (hl:ts.length<=1000) (hs:sep.length<=1) (hb:b<=10000):JoinOk sep ts=true/\(arD sep ts).length<=(b+1) * ts.length:=by
 have h1:=akc ts h
 have h2:ts.length * sep.length<=ts.length:=by
  have:=asE ts.length hs
  omega
 have h3:b * ts.length<=10000 * 1000:=atQ hb hl
 constructor
 ·unfold JoinOk
  rw [Bool.not_eq_true',StrLaws.joinTotal]
  unfold atZ
  refine decide_eq_false ?_
  rw [sizeLine_eq]
  omega
 ·have h4:=StrLaws.join_length_le sep ts
  have e:arD sep ts=ar1 sep ts:=aqG sep ts
  rw [e,aue]
  omega
section
variable {K:apD} {f:Fx} {ρ:zp} {te ta:TE} {P:PyData->Prop}
theorem abw {sep:Str} (h:PEd K f te ρ fun x=>∃ ts:List Str,x=.list (ts.map .str)/\JoinOk sep ts=true/\P (.str (arD sep ts))):PEd K f (tBM K "str" (rJoin K) (tC (.str sep)) (zQ te yJ)) ρ P:=fun σ H Q e q=>by
 refine⟨rfl,?_⟩
 refine h σ H _ e fun x v H1 g1 r1 ⟨ts,ex,hok,p⟩=>?_
 subst ex
 exact⟨sep,ts,v,rfl,rfl,Rep.mono (zh _ _) _ _ r1,hok,q _ _ H1 g1 (rep_str.mpr rfl) p⟩
theorem aap (h:PEd K f te ρ fun x=>∃ i:Int,x=.int i/\i.natAbs<2 ^ 100/\P (.str (toString i))):PEd K f (tCB (fun xs H Q=>∃ i,xs=[.int i]/\i.natAbs.log2<1920/\Q (.str (toString i)) H) (zQ te yJ)) ρ P:=fun σ H Q e q =>
 h σ H _ e fun x v H1 g1 r1 ⟨i,ex,hi,p⟩=>by
  subst ex
  rw [rep_int.mp r1]
  refine⟨i,rfl,?_,q _ _ H1 g1 (rep_str.mpr rfl) p⟩
  by_cases z:i.natAbs=0
  ·rw [z];decide
  ·have:=(Nat.log2_lt z).mpr (ap2 hi (atN (by decide) (show 100<=1920 by decide)))
   exact this
end
end L2
end
section
namespace L2
open PySem PySem.Spec PyProof.Rows
end L2
end
section
namespace L2
open PySem PySem.Spec PyProof.Rows
structure TQ (K:apD) (f:Fx) (a:Addr) (as:List Addr) (H2:Hp) (ρ:zp) (rows:List (List PyData)) (σ:St) (H:Hp):Prop where
 env:EnvOk K (f.withs (a :: as)) ρ σ H
 sm:Same (hide H2 (f.withs (a :: as))) (hide H (f.withs (a :: as)))
 kp:∀ b∈f.M,H b=H2 b
 top:H a=some (.lst (as.map .ref))
 nd:(a :: as).Nodup
 len:as.length=rows.length
 row:∀ (i:Nat) x r,as[i]?=some x->rows[i]?=some r->∃ vs,H x=some (.lst vs)/\Reps K (hide H (f.withs (a :: as))) r vs
end L2
end
section
namespace L2
open PySem PySem.Spec PyProof.Rows
inductive PEs (X:Cx):List (Expr×Expr)->List (TE×TE)->Prop where
 | nil:PEs X [] []
 | cons {k v:Expr} {tk tv:TE} {es:List (Expr×Expr)} {ts:List (TE×TE)}:PE X k tk->PE X v tv->PEs X es ts->PEs X ((k,v) :: es) ((tk,tv) :: ts)
inductive RelPs:List (V×V)->List (Value×Value)->Prop where
 | nil:RelPs [] []
 | cons {k v:V} {a b:Value} {l:List (V×V)} {us:List (Value×Value)}:RelV k a->RelV v b->RelPs l us->RelPs ((k,v) :: l) ((a,b) :: us)
inductive RepP (K:apD) (Hh:Hp):List (PyData×PyData)->List (V×V)->Prop where
 | nil:RepP K Hh [] []
 | cons {k v:PyData} {a b:V} {l:List (PyData×PyData)} {us:List (V×V)}:Rep K Hh k a->Rep K Hh v b->RepP K Hh l us->RepP K Hh ((k,v) :: l) ((a,b) :: us)
end L2
end
section
set_option maxHeartbeats 400000
namespace L2
open PySem PySem.Spec PyProof.Rows
structure PEw (X:Cx) (e:Expr) (t:TE):Prop where
 pe:PE X e t
structure PEsW (X:Cx) (es:List (Expr×Expr)) (ts:List (TE×TE)):Prop where
 pes:PEs X es ts
structure CSo (w:World) (K:apD) (f:Fx) (D:Addr) (H2:Hp) (ρ':zp) (kvs:List (PyData×PyData)) (σ:St) (H:Hp):Prop where
 env:EnvOk K (f.with D) ρ' σ H
 sm:Same (hide H2 (f.with D)) (hide H (f.with D))
 kp:∀ b∈f.M,H b=H2 b
 own:OwnAt w K (hide H (f.with D)) H D (.dic kvs)
end L2
end
section
namespace L2
open PySem PySem.Spec PyProof.Rows PySem.SetTable
end L2
end
section
namespace L2
open PySem PySem.Spec PyProof.Rows PySem.SetTable
noncomputable def byT (w:World):Bool:=w.params.followText "set-order"
structure ISet (w:World) (h:Heap) (a:Addr) (xs:List (Int×Tok)) (o:Obj) (es:Array (Int×Value)) (ep:Nat) (t:SetTable):Prop where
 ob:h.get? a=some o
 ex:o.ExactSet
 da:o.data=.set es ep t
 el:es.toList=xs.map fun x=>(hashInt x.1,Value.int x.1 x.2)
 ok:ST.TOk t (xs.map fun x=>hashInt x.1)
 pl:t.plain=true
 ld:byT w=true \/ t.led=true
end L2
end
section
namespace L2
open PySem PySem.Spec PyProof.Rows PySem.SetTable
end L2
end
section
namespace L2
open PySem PySem.Spec PyProof.Rows PySem.SetTable PySem.W
theorem ack {K:apD} {H:Hp}:∀ {ns:List Int} {vs:List V},Reps K H (ns.map .int) vs->vs=ns.map V.int
 | [],vs,r=>reps_nil.mp r
 | n :: ns,vs,r=>by
  obtain⟨x,xs,rfl,r1,r2⟩:=reps_cons.mp r
  rw [rep_int.mp r1,ack r2,apZ]
section
variable {X:Cx}
noncomputable def apg:V->Option Int->Option Int->Hp->VK->Prop:=fun x lo hi H Q=>∃ z,x=.str z/\z.length<=sizeLine/\Q (.str (arc z lo hi)) H
theorem part_of {v:Value} {o:Option Int} (h:IsPart v o):∃ q:Option (Int×Tok),v=partValue q/\q.map (·.1)=o:=by
 cases h with
 | none=>exact⟨none,rfl,rfl⟩
 | int n t=>exact⟨some (n,t),rfl,rfl⟩
theorem aoa:SlR X apg:=by
 intro pins s σ H x v vl vu lo hi sl Q I rx hs pl pu h
 obtain⟨z,rfl,hz,q⟩:=h
 obtain⟨t,rfl⟩:=rx
 obtain⟨l,rfl,rfl⟩:=part_of pl
 obtain⟨u,rfl,rfl⟩:=part_of pu
 refine⟨"str",_,F.slot_str_getitem.lookup,typeIs_str s z t,?_⟩
 obtain⟨o,h1,h2,h3⟩:=hs
 refine wpAny_getItem_str_slice (l:=l) (u:=u) (st:=none) ⟨o,h1,h2,h3⟩ rfl ?_
 unfold sliceMade
 split
 ·rename_i c
  have c2:((1:Int) == 1 && (asI (l.map (·.1)) (u.map (·.1)) 1 z.length).length == z.length)=true:=c
  refine⟨.str z,H,I,⟨t,rfl⟩,?_⟩
  unfold arc at q
  rw [if_pos c2] at q
  exact q
 ·rename_i c
  have c2:¬ ((1:Int) == 1 && (asI (l.map (·.1)) (u.map (·.1)) 1 z.length).length == z.length)=true:=c
  refine⟨?_,.str _,H,I.tok _,⟨_,rfl⟩,?_⟩
  ·refine ap1 ?_ hz
   show (aqH _).size<=_
   rw [apV]
   exact ap1 (List.length_filterMap_le _ _) (sliceIndices_le _ _ z.length)
  ·unfold arc at q
   rw [if_neg c2] at q
   exact q
theorem acm:∀ l:List (Str×Tok),Vals ((l.map (·.1)).map V.str) (strValues l)
 | []=>.nil
 | (x,t) :: l=>.cons ⟨t,rfl⟩ (acm l)
noncomputable def akd:V->List V->Hp->VK->Prop:=fun x ys H Q=>∃ z c,x=.str z/\ys=[.str ⟨#[c]⟩]/\z.length+2<=sizeLine/\∀ p,H p=none->Q (.ref p) (upd H p (.lst ((arL z ⟨#[c]⟩).map V.str)))
theorem aaq {pins:List (Addr×Obj)} {σ:St} {H:Hp} {s:Shared} {Q:VK} (I:Inv X pins σ H s) (l:List (Str×Tok)) {ts:List Str} {k:Nat} (e:l.map (·.1)=ts) (hl:ts.length<=sizeLine) (q:∀ p,H p=none->Q (.ref p) (upd H p (.lst (ts.map V.str)))) :
  EP X pins σ Q (.ref s.heap.objs.size) { s with toks:=k,heap:=s.heap.push { cls:=.type "list",data:=.seq (strValues l).toArray } }:=by
 subst e
 refine⟨.ref s.heap.objs.size,_,I.laid (t':=k) (o:=.lst ((l.map (·.1)).map V.str)) (fun b ob q=>apH _ q) (apI _) ?_,rfl,q _ (I.hok.fresh (apI _))⟩
 exact⟨by rw [apC];exact hl,_,_,acm l,ap5 _ rfl⟩
theorem aeJ:MtR X "str.split" akd:=by
 intro pins s σ H x xs v us Q I rx rv h
 obtain⟨z,c,rfl,rfl,hz,q⟩:=h
 obtain⟨t,rfl⟩:=rx
 obtain⟨u0,rfl,ru⟩:=rv.one
 obtain⟨u,rfl⟩:=ru
 have hy:((⟨#[c]⟩:Str).length == 0)=false:=rfl
 have le:=split_le z ⟨#[c]⟩
 have hx:z.length<=sizeLine:=by omega
 have hT:=typeIs_str s z t
 have sp:∀ l:List Str,arL z ⟨#[c]⟩=l->l.length<=sizeLine:=fun l e=>by rw [<-e];omega
 cases h1:(decide (z.length<(⟨#[c]⟩:Str).length) || decide (at1 z<at1 ⟨#[c]⟩)) with
 | true =>
  have e:arL z ⟨#[c]⟩=[z]:=if_pos h1
  rw [e] at q
  exact call_meets atc hT as3 (asR _ _) (meets_str_split_cannot_occur z ⟨#[c]⟩ t u h1) (aaq I [(z,t)] rfl (sp _ e) q)
 | false =>
  cases hf:(aq7 z ⟨#[c]⟩ 0 z.length (z.length+1)).isEmpty with
  | true =>
   have e:arL z ⟨#[c]⟩=[z]:=(if_neg (ne_true_of_eq_false h1)).trans (if_pos hf)
   rw [e] at q
   exact call_meets atc hT as3 (asR _ _) (meets_str_split_not_found z ⟨#[c]⟩ t u h1 hy hf) (aaq I [(z,t)] rfl (sp _ e) q)
  | false =>
   have e:arL z ⟨#[c]⟩=_:=(if_neg (ne_true_of_eq_false h1)).trans (if_neg (ne_true_of_eq_false hf))
   rw [e] at q
   refine call_meets atc hT as3 (asR _ _) (meets_str_split_sep z ⟨#[c]⟩ t u h1 hy hf hx (sp _ e)) ?_
   show wants _ _ _ _
   rw [strsFrom_eq]
   exact aaq I _ (numbered_texts _ _) (sp _ e) q
noncomputable def ag8:V->List V->Hp->VK->Prop:=fun x ys H Q=>∃ z y,x=.str z/\ys=[.str y]/\Q (.bl (asS z y)) H
theorem aip:MtR X "str.startswith" ag8:=by
 intro pins s σ H x xs v us Q I rx rv h
 obtain⟨z,y,rfl,rfl,q⟩:=h
 obtain⟨t,rfl⟩:=rx
 obtain⟨u0,rfl,u,rfl⟩:=rv.one
 exact SC.startswith ⟨.bl _,H,I,rfl,q⟩
noncomputable def amK:List V->Hp->VK->Prop:=fun xs H Q=>∃ z n,xs=[.str z]/\PySem.intText? z=some n/\z.length<=640/\Q (.int n) H
theorem aiq:z9 X (.type "int") amK:=by
 intro pins s σ H xs us Q I r h
 obtain⟨z,n,rfl,hn,hl,q⟩:=h
 obtain⟨u0,rfl,u,rfl⟩:=r.one
 exact PySem.W.KIN.call_text hn hl ⟨.int _,H,I.tok _,⟨_,rfl⟩,q⟩
noncomputable def Its (z:Str):It:=⟨fun i _=>i<z.cps.size,fun i H x H'=>H'=H/\∃ c,z.cps[i]?=some c/\x=.str ⟨#[c]⟩,fun i _=>z.cps.size<=i⟩
theorem alO {P:Program} {w:World} {K:apD} {tg:Expr} (z:Str) (t:Tok) (it:Addr):Turn P w K tg (Its z) [it] it (fun i h=>h.IsStrIter it "str_ascii_iterator" z t i) where
 mem:=apS.mpr rfl
 obj:=fun i h st b hb=>by
  cases apS.mp hb
  obtain⟨o,e,c,d⟩:=st
  exact⟨o,e,fun v q=>by rw [d] at q;cases q⟩
 keep:=fun i h h' ⟨o,e,r⟩ k=>⟨o,k it (apS.mpr rfl) o e,r⟩
 item:=by
  intro X hP hw hK hc i pins s σ H E I hf st hg
  subst hP hw hK
  have hi:i<z.cps.size:=hg
  obtain⟨f0,f1,f2,f3,f4,f5⟩:=hf it (apS.mpr rfl)
  have e0:z.cps[i]?=some z.cps[i]:=by simp [hi]
  refine wpAny_pyNext_ascii_item st (c:=z.cps[i]) e0 fun h' st' sb=>?_
  have I1:Inv X pins σ H { s with heap:=h',toks:=s.toks+1 }:=I.turned (t':=s.toks+1) (fun b o hb q=>sb.extBut b o hb q) f0 f1 f3 f4 f5
  obtain⟨o,e,c,d⟩:=id st'
  exact⟨_,rfl,adV (s:={ s with heap:=h',toks:=s.toks+1 }) e c d (by decide) ⟨.str ⟨#[z.cps[i]]⟩,H,I1,⟨_,rfl⟩,⟨rfl,_,e0,rfl⟩,st',fun b hb=>(hf b hb).1⟩⟩
 done:=by
  intro X hP hw hK hc i pins s σ H E I hf st hg
  subst hP hw hK
  have hi:z.cps.size<=i:=hg
  obtain⟨f0,f1,f2,f3,f4,f5⟩:=hf it (apS.mpr rfl)
  exact wpAny_pyNext_ascii_end (I.ok.hd hc) st (by simp [hi]) fun h' eb=>⟨rfl,I.turned (t':=s.toks) (fun b o hb q=>eb b o hb q) f0 f1 f3 f4 f5⟩
 self:=fun _ _ _ _ _ st h=>wpAny_pyIter_striter_ascii st h
theorem alP {P:Program} {w:World} {K:apD} {tg:Expr} (z:Str) (t:Tok) (it:Addr):Turn P w K tg (Its z) [it] it (fun i h=>h.IsStrIter it "str_iterator" z t i) where
 mem:=apS.mpr rfl
 obj:=fun i h st b hb=>by
  cases apS.mp hb
  obtain⟨o,e,c,d⟩:=st
  exact⟨o,e,fun v q=>by rw [d] at q;cases q⟩
 keep:=fun i h h' ⟨o,e,r⟩ k=>⟨o,k it (apS.mpr rfl) o e,r⟩
 item:=by
  intro X hP hw hK hc i pins s σ H E I hf st hg
  subst hP hw hK
  have hi:i<z.cps.size:=hg
  obtain⟨f0,f1,f2,f3,f4,f5⟩:=hf it (apS.mpr rfl)
  have e0:z.cps[i]?=some z.cps[i]:=by simp [hi]
  refine wpAny_pyNext_wide_item st (c:=z.cps[i]) e0 fun h' st' sb=>?_
  have I1:Inv X pins σ H { s with heap:=h',toks:=s.toks+1 }:=I.turned (t':=s.toks+1) (fun b o hb q=>sb.extBut b o hb q) f0 f1 f3 f4 f5
  obtain⟨o,e,c,d⟩:=id st'
  exact⟨_,rfl,adV (s:={ s with heap:=h',toks:=s.toks+1 }) e c d (by decide) ⟨.str ⟨#[z.cps[i]]⟩,H,I1,⟨_,rfl⟩,⟨rfl,_,e0,rfl⟩,st',fun b hb=>(hf b hb).1⟩⟩
 done:=by
  intro X hP hw hK hc i pins s σ H E I hf st hg
  subst hP hw hK
  have hi:z.cps.size<=i:=hg
  obtain⟨f0,f1,f2,f3,f4,f5⟩:=hf it (apS.mpr rfl)
  exact wpAny_pyNext_wide_end (I.ok.hd hc) st (by simp [hi]) fun h' eb=>⟨rfl,I.turned (t':=s.toks) (fun b o hb q=>eb b o hb q) f0 f1 f3 f4 f5⟩
 self:=fun _ _ _ _ _ st h=>wpAny_pyIter_striter_wide st h
noncomputable def aph (tl:TE):TI:=fun σ H R=>tl σ H fun x H1=>∃ z,x=.str z/\R (Its z) H1
theorem aob {tg l:Expr} {tl:TE} (hl:PE X l tl):PI X tg l (aph tl):=by
 intro pins s σ H R I h
 refine thn (hl pins s σ H _ I h) fun v s1 ⟨x,H1,I1,r1,z,e,q⟩=>?_
 subst e
 obtain⟨t,rfl⟩:=r1
 have fp:∀ b∈[s1.heap.objs.size],vD X pins H1 b:=fun b hb=>by
  cases apS.mp hb
  exact I1.fpOk (apI _) (I1.hok.fresh (apI _))
 cases ha:z.cps.all (·<128) with
 | false=>exact wpAny_pyIter_wide ha ⟨s1.heap.objs.size,[s1.heap.objs.size],_,_,H1,rfl,I1.kept (t':=s1.toks) fun b o e=>apH _ e,alP z t _,⟨_,ap5 _ rfl,rfl,rfl⟩,fp,q⟩
 | true=>exact wpAny_pyIter_ascii ha ⟨s1.heap.objs.size,[s1.heap.objs.size],_,_,H1,rfl,I1.kept (t':=s1.toks) fun b o e=>apH _ e,alO z t _,⟨_,ap5 _ rfl,rfl,rfl⟩,fp,q⟩
end
section
variable {K:apD} {f:Fx} {ρ:zp} {te ta tb:TE} {P:PyData->Prop}
theorem qf (h:PEd K f ta ρ fun x=>∃ i,x=.str i/\PEd K f tb ρ fun y=>∃ j,y=.str j/\i.length+j.length<=sizeLine/\P (.str (i++j))) :
  PEd K f (tOp (fun x y H Q=>∃ i j,x=.str i/\y=.str j/\i.length+j.length<=sizeLine/\Q (.str (i++j)) H) ta tb) ρ P :=
 acT (h.imp fun x ⟨i,ex,h2⟩=>h2.imp fun y ⟨j,ey,hl,p⟩ v w H Q fo rx ry q=>by
  subst ex ey
  exact⟨i,j,rep_str.mp rx,rep_str.mp ry,hl,q _ _ H (.refl fo) (rep_str.mpr rfl) p⟩)
theorem api (h:PEd K f ta ρ fun x=>∃ z,x=.str z/\PEd K f tb ρ fun y=>∃ i c,y=.int i/\z.length<=sizeLine/\atI z.cps.toList i=some c/\P (.str ⟨#[c]⟩)):PEd K f (tOp aoK ta tb) ρ P :=
 acT (h.imp fun x ⟨z,ex,h2⟩=>h2.imp fun y ⟨i,c,ey,hl,hc,p⟩ v w H Q fo rx ry q=>by
  subst ex ey
  exact⟨z,i,c,rep_str.mp rx,rep_int.mp ry,hl,hc,q _ _ H (.refl fo) (rep_str.mpr rfl) p⟩)
theorem apj (h:PEd K f ta ρ fun x=>∃ i,x=.str i/\PEd K f tb ρ fun y=>∃ j,y=.str j/\P (.bool (!(aq7 j i 0 j.length 1).isEmpty))) :
  PEd K f (tOp (fun x y H Q=>∃ i j,x=.str i/\y=.str j/\Q (.bl (!(aq7 j i 0 j.length 1).isEmpty)) H) ta tb) ρ P :=
 acT (h.imp fun x ⟨i,ex,h2⟩=>h2.imp fun y ⟨j,ey,p⟩ v w H Q fo rx ry q=>by
  subst ex ey
  exact⟨i,j,rep_str.mp rx,rep_str.mp ry,q _ _ H (.refl fo) (rep_bool.mpr rfl) p⟩)
theorem aoc (h:PEd K f te ρ fun x=>∃ z,x=.str z/\z.length<=sizeLine/\P (.int z.length)):PEd K f (tCB (fun xs H Q=>∃ z,xs=[.str z]/\z.length<=sizeLine/\Q (.int z.length) H) (zQ te yJ)) ρ P:=fun σ H Q e q =>
 h σ H _ e fun x v H1 g1 r1 ⟨z,ex,hl,p⟩=>by
  subst ex
  rw [rep_str.mp r1]
  exact⟨z,rfl,hl,q _ _ H1 g1 (rep_int.mpr rfl) p⟩
theorem aod (h:PEd K f te ρ fun x=>∃ z n,x=.str z/\PySem.intText? z=some n/\z.length<=640/\P (.int n)):PEd K f (tCB amK (zQ te yJ)) ρ P:=fun σ H Q e q =>
 h σ H _ e fun x v H1 g1 r1 ⟨z,n,ex,hn,hl,p⟩=>by
  subst ex
  rw [rep_str.mp r1]
  exact⟨z,n,rfl,hn,hl,q _ _ H1 g1 (rep_int.mpr rfl) p⟩
theorem aoe {tl th:TO} (h:PEd K f te ρ fun x=>∃ z,x=.str z/\z.length<=sizeLine/\POd K f tl ρ fun lo=>POd K f th ρ fun hi=>P (.str (arc z lo hi))):PEd K f (tSl apg te tl th) ρ P:=fun σ H Q e q =>
 h σ H _ e fun x v H1 g1 r1 ⟨z,ex,hl,h2⟩=>h2 σ H1 _ (e.mono g1) fun lo H2 g2 h3=>h3 σ H2 _ ((e.mono g1).mono g2) fun hi H3 g3 p=>by
  subst ex
  exact⟨z,rep_str.mp r1,hl,q _ _ H3 (g1.trans (g2.trans g3)) (rep_str.mpr rfl) p⟩
noncomputable def adu (z:Str):List PyData:=z.cps.toList.map fun c=>.str ⟨#[c]⟩
theorem apk {R:List PyData->Prop} (h:PEd K f te ρ fun x=>∃ z,x=.str z/\R (adu z)):PId K f (aph te) ρ R:=fun σ H C e q=>h σ H _ e fun x v H1 g1 r1 ⟨z,ex,p⟩=>by
 subst ex
 have hv:=rep_str.mp r1
 refine⟨z,hv,q _ _ H1 g1 ⟨fun f' H' i d fo sm hd=>?_,fun f' H' _ sm=>?_⟩ p⟩
 ·unfold adu at hd
  rw [apM] at hd
  cases hc:z.cps.toList[i]? with
  | none=>rw [hc] at hd;cases hd
  | some c =>
   rw [hc] at hd
   cases hd
   have hi:i<z.cps.toList.length:=(apE.mp hc).1
   have hc2:z.cps[i]?=some c:=by rw [<-hc];simp
   refine⟨show i<z.cps.size by simpa using hi,fun y H3 hy=>?_⟩
   obtain⟨rfl,c',e1,rfl⟩:=hy
   rw [hc2] at e1
   cases e1
   exact⟨.refl fo,rep_str.mpr rfl⟩
 ·show z.cps.size<=(adu z).length
  unfold adu
  rw [apC]
  simp
theorem acn {H:Hp}:∀ ts:List Str,Reps K H (ts.map .str) (ts.map V.str)
 | []=>reps_nil.mpr rfl
 | t :: ts=>reps_cons.mpr ⟨_,_,rfl,rep_str.mpr rfl,acn ts⟩
theorem ag9 {c:Nat} {P:List PyData->Prop} (h:PEd K f te ρ fun x=>∃ z,x=.str z/\z.length+2<=sizeLine/\P ((arL z ⟨#[c]⟩).map .str)):PEdO K f (tBM K "str" akd te (zQ (tC (.str ⟨#[c]⟩)) yJ)) ρ P:=fun σ H Q e q =>
 h σ H _ e fun x v H1 g1 r1 ⟨z,ex,hl,p⟩=>by
  subst ex
  have hv:=rep_str.mp r1
  subst hv
  refine⟨rfl,z,c,rfl,rfl,hl,fun D hn=>?_⟩
  have hD:H D=none:=aeI e.fd g1 hn
  exact q _ D _ _ (g1.trans (.of_same (zI hn _) g1.ok)) hD zo (acn _) p
theorem ake {y:Str} (h:PEd K f te ρ fun x=>∃ z,x=.str z/\P (.bool (asS z y))):PEd K f (tBM K "str" ag8 te (zQ (tC (.str y)) yJ)) ρ P:=fun σ H Q e q =>
 h σ H _ e fun x v H1 g1 r1 ⟨z,ex,p⟩=>by
  subst ex
  have hv:=rep_str.mp r1
  subst hv
  exact⟨rfl,z,y,rfl,rfl,q _ _ H1 g1 (rep_bool.mpr rfl) p⟩
end
section
variable {K:apD} {f:Fx} {ρ:zp} {te ta tb:TE} {P:PyData->Prop}
theorem aha (x y:Str):aqc (.str x) (.str y)=decide (x=y):=by
 show (x == y)=_
 rw [ar4,beq_iff_eq,decide_eq_true_eq]
end
theorem akf {X:Cx} {x z:Str} {t:Tok} {pos:Pos} (hg:Gl X x) (hm:X.mg x=some (.str z t)) (hd:(x == ("__debug__":Str))=false:=by decide):PE X (.Name x pos) (tC (.str z)):=acB hg hm ⟨t,rfl⟩ hd
structure TV (K:apD) (f:Fx) (H0:Hp) (a:Addr) (as:List Addr) (ρ:zp) (rows:List (List Int)) (σ:St) (H:Hp):Prop where
 env:EnvOk K (f.withs (a :: as)) ρ σ H
 go:Goes f H0 H
 na:H0 a=none
 nas:∀ x∈as,H0 x=none
 tab:TabAt H a as rows
noncomputable def aaO (K:apD) (f:Fx) (H0:Hp) (a:Addr) (ts:TS) (ρ:zp) (rows:List (List Int)) (O:zp->List (List Int)->Prop):Prop:=FOk f H0->∀ (as:List Addr) (σ:St) (H:Hp) (N:Ends),TV K f H0 a as ρ rows σ H ->
 (∀ as' ρ' rows' σ' H',TV K f H0 a as' ρ' rows' σ' H'->Same (hide H (f.withs (a :: as))) (hide H' (f.withs (a :: as')))->O ρ' rows'->N.nx σ' H')->ts N σ H
section
variable {K:apD} {f:Fx} {H0 H H':Hp} {a:Addr} {as:List Addr} {ρ ρ2:zp} {rows:List (List Int)} {σ σ2:St} {ts tu:TS} {tt:TT} {te:TE} {wi:TI} {g:TG} {O:zp->List (List Int)->Prop} {i:Nat}
theorem air {Ds:List Addr} (g:Goes (f.withs Ds) H H'):Goes f H H':=by
 refine⟨fun b o e=>?_,⟨g.ok.fd,fun b hb=>g.ok.mm b (apR _ hb),fun p e hp=>g.ok.nm p e (apR _ hp)⟩,fun b hb=>g.kp b (apR _ hb)⟩
 obtain⟨n,h⟩:=zA e
 by_cases hb:b∈Ds
 ·exact zu n ((g.kp b (zL hb)).trans h)
 ·refine zu n (zA (g.sm b o (zu (fun z=>?_) h))).2
  rcases z with z | z
  ·exact n (.inl z)
  ·rcases apW.mp z with z | z
   ·exact hb (aqg.mp z)
   ·exact n (.inr z)
theorem TV.step (x:TV K f H0 a as ρ rows σ H) (g:Goes (f.withs (a :: as)) H H') (e:EnvOk K (f.withs (a :: as)) ρ2 σ2 H'):TV K f H0 a as ρ2 rows σ2 H' :=
 ⟨e,x.go.trans (air g),x.na,x.nas,x.tab.keep fun b hb=>g.kp b (zL hb)⟩
theorem TV.sep (fo:FOk f H0) (x:TV K f H0 a as ρ rows σ H):Sep f (a :: as):=by
 have nn:∀ D∈a :: as,¬ (f.f=some D \/ D∈f.M):=fun D hD=>(apK.mp hD).elim (fun y=>y▸fresh_ne fo x.na) fun y=>fresh_ne fo (x.nas D y)
 exact⟨x.tab.nd,fun D hD z=>nn D hD (.inl z),fun D hD z=>nn D hD (.inr z)⟩
theorem TV.tn (x:TV K f H0 a as ρ rows σ H):TN K f a as H ρ (some rows) σ H:=⟨x.env,Same.refl _,fun _ _=>rfl,fun r e=>by cases e;exact x.tab⟩
theorem alQ (h:∀ as,PSd K (f.withs (a :: as)) ts ρ { nx:=fun ρ'=>O ρ' rows,rt:=fun _=>False }):aaO K f H0 a ts ρ rows O:=fun fo as σ H N x n =>
 h as σ H N x.env (fun ρ' σ' H' g' e' p=>n as ρ' rows σ' H' (x.step g' e') g'.sm p) (fun _ _ _ _ _ z=>z.elim) (fun _ _ _ _ _ z=>z.elim) (fun _ _ _ _ _ z=>z.elim)
theorem akg (h:aaO K f H0 a ts ρ rows fun ρ' rows'=>aaO K f H0 a tu ρ' rows' O):aaO K f H0 a (jL ts tu) ρ rows O:=fun fo as σ H N x n =>
 h fo as σ H _ x fun as' ρ' rows' σ' H' x' s' p=>p fo as' σ' H' N x' fun as2 ρ2 rows2 σ2 H2 x2 s2 p2=>n as2 ρ2 rows2 σ2 H2 x2 (s'.trans s2) p2
theorem alR (h:O ρ rows):aaO K f H0 a abW ρ rows O:=fun fo as σ H N x n=>n as ρ rows σ H x (Same.refl _) h
theorem apl (h:∀ as,PTd K (f.withs (a :: as)) tt ρ fun b=>if b=true then aaO K f H0 a ts ρ rows O else aaO K f H0 a tu ρ rows O):aaO K f H0 a (acF tt ts tu) ρ rows O:=fun fo as σ H N x n =>
 h as σ H _ x.env fun b H1 g1 p=>by
  have x1:=x.step g1 (x.env.mono g1)
  have n1:∀ as' ρ' rows' σ' H',TV K f H0 a as' ρ' rows' σ' H'->Same (hide H1 (f.withs (a :: as))) (hide H' (f.withs (a :: as')))->O ρ' rows'->N.nx σ' H':=fun as' ρ' rows' σ' H' x' s' p'=>n as' ρ' rows' σ' H' x' (g1.sm.trans s') p'
  cases b with
  | true=>rw [if_pos rfl] at p ⊢;exact p fo as σ H1 N x1 n1
  | false=>rw [if_neg apB] at p ⊢;exact p fo as σ H1 N x1 n1
theorem aof (h:∀ as,PId K (f.withs (a :: as)) wi ρ fun ds=>∃ J:Nat->zp->List (List Int)->Prop,J 0 ρ rows /\
   (∀ (i:Nat) d ρ' rows',ds[i]?=some d->J i ρ' rows'->∀ as',PGd K (f.withs (a :: as')) g d ρ' fun ρ2=>aaO K f H0 a ts ρ2 rows' (J (i+1)))/\∀ ρ' rows',J ds.length ρ' rows'->O ρ' rows') :
  aaO K f H0 a (ahG wi g ts) ρ rows O:=fun fo as σ H N x n=>h as σ H _ x.env fun ds J H1 g1 it ⟨Jv,j0,js,jd⟩=>by
 have x1:=x.step g1 (x.env.mono g1)
 refine⟨fun i m σ' H'=>∃ as' ρ' rows',TV K f H0 a as' ρ' rows' σ' H'/\Same (hide H1 (f.withs (a :: as))) (hide H' (f.withs (a :: as')))/\Jv i ρ' rows'/\m+i=ds.length,⟨ds.length,as,ρ,rows,x1,Same.refl _,j0,rfl⟩,?_⟩
 rintro i m σ' H' ⟨as',ρ',rows',x',sm',p,hm⟩
 rcases Nat.lt_or_ge i ds.length with hi | hi
 ·obtain⟨hgo,hy⟩:=it.go (f.withs (a :: as')) H' i _ x'.env.fd sm' (apA hi)
  refine .inr ⟨hgo,fun σ2 H3=>∃ as2 ρ2 rows2,TV K f H0 a as2 ρ2 rows2 σ2 H3/\Same (hide H1 (f.withs (a :: as))) (hide H3 (f.withs (a :: as2)))/\Jv (i+1) ρ2 rows2,fun σ2 H3 ⟨as2,ρ2,rows2,e2,g2,p2⟩=>⟨m - 1,by omega,as2,ρ2,rows2,e2,g2,p2,by omega⟩,fun v H3 hx=>?_⟩
  obtain⟨g3,r3⟩:=hy v H3 hx
  have x3:=x'.step g3 (x'.env.mono g3)
  refine js i _ ρ' rows' (apA hi) p as' σ' H3 v _ x3.env r3 fun ρ2 σ2 H4 g4 e4 p4=>?_
  have x4:=x3.step g4 e4
  have sm4:=(sm'.trans g3.sm).trans g4.sm
  exact p4 fo as' σ2 H4 _ x4 fun as5 ρ5 rows5 σ5 H5 x5 s5 p5=>⟨as5,ρ5,rows5,x5,sm4.trans s5,p5⟩
 ·have ei:i=ds.length:=by omega
  subst ei
  exact .inl ⟨it.st (f.withs (a :: as')) H' x'.env.fd sm',n as' ρ' rows' σ' H' x' (g1.sm.trans sm') (jd ρ' rows' p)⟩
theorem aog (hi:ρ[i]?=some (some (.own f.M.length))) (hl:rows.length<1000) (h:∀ as,PEdO K (f.withs (a :: as)) te ρ fun es=>∃ r:List Int,es=r.map .int/\O ρ (rows++[r])) :
  aaO K f H0 a (vw (tBM K "list" vO (yp i) (zQ te yJ))) ρ rows O:=fun fo as σ H N x n=>by
 refine⟨_,x.tn.at hi,Or.inl ⟨rfl,_,.of x.tab.top⟩,?_⟩
 refine h as σ H _ x.env fun es D vs H1 g1 hn h1 rs ⟨r,er,p⟩=>?_
 subst er
 have ev:=ack rs
 subst ev
 have x1:=x.step g1 (x.env.mono g1)
 have nD:¬ ((f.withs (a :: as)).f=some D \/ D∈(f.withs (a :: as)).M):=fresh_ne x.env.fd hn
 have Da:D≠a:=fun z=>nD (.inr (z▸zL (apJ ..)))
 have Das:D∉as:=fun z=>nD (.inr (zL (apG _ z)))
 have n0:H0 D=none:=aeI fo x.go hn
 have na':a∉as:=(aqp.mp x1.tab.nd).1
 have hide2:∀ b,¬ ((f.withs (a :: as)).f=some b \/ b∈(f.withs (a :: as)).M)->b≠D->¬ ((f.withs (a :: (as++[D]))).f=some b \/ b∈(f.withs (a :: (as++[D]))).M):=fun b hb hD z=>by
  rcases z with z | z
  ·exact hb (.inl z)
  ·rcases apW.mp z with z | z
   ·have z:=aqg.mp z
    rcases apK.mp z with z | z
    ·exact hb (.inr (z▸zL (apJ ..)))
    ·rcases apW.mp z with z | z
     ·exact hb (.inr (zL (apG _ z)))
     ·exact hD (apS.mp z)
   ·exact hb (.inr (apR _ z))
 have sm:Same (hide H (f.withs (a :: as))) (hide (upd H1 a (.lst (as.map .ref++[.ref D]))) (f.withs (a :: (as++[D])))):=fun b o e=>by
  obtain⟨hb,hh⟩:=zA e
  have bD:b≠D:=fun z=>by rw [z,hn] at hh;cases hh
  have ba:b≠a:=fun z=>hb (.inr (z▸zL (apJ ..)))
  refine zu (hide2 b hb bD) ?_
  rw [zm ba]
  exact (zA (g1.sm b o e)).2
 have fo2:FOk (f.withs (a :: (as++[D]))) (upd H1 a (.lst (as.map .ref++[.ref D]))):=by
  have fd1:=g1.ok
  refine⟨fun p e=>?_,fun b hb=>?_,fun p e hp=>?_⟩
  ·obtain⟨u,v,h2,h3⟩:=fd1.fd p e
   have pa:p≠a:=fun z=>fd1.nm p e (z▸zL (apJ ..))
   exact⟨u,v,by rw [zm pa];exact h2,h3⟩
  ·by_cases ba:b=a
   ·exact⟨_,by rw [ba];exact zo⟩
   ·rw [zm ba]
    rcases apW.mp hb with hb | hb
    ·rcases apK.mp (aqg.mp hb) with z | z
     ·exact absurd z ba
     ·rcases apW.mp z with z | z
      ·exact fd1.mm b (zL (apG _ z))
      ·rw [apS.mp z]
       exact⟨_,h1⟩
    ·exact fd1.mm b (apR _ hb)
  ·rcases apW.mp hp with hp | hp
   ·rcases apK.mp (aqg.mp hp) with z | z
    ·exact fd1.nm p e (z▸zL (apJ ..))
    ·rcases apW.mp z with z | z
     ·exact fd1.nm p e (zL (apG _ z))
     ·have z:=apS.mp z
      exact nD (.inl (z▸e))
   ·exact fd1.nm p e (apR _ hp)
 have env2:EnvOk K (f.withs (a :: (as++[D]))) ρ σ (upd H1 a (.lst (as.map .ref++[.ref D]))):=by
  refine⟨x.env.len,fun q y hq=>?_,fo2⟩
  obtain⟨v,hv,ry⟩:=x.env.get q y hq
  refine⟨v,hv,?_⟩
  cases y with
  | dat d=>exact Rep.mono sm d v ry
  | feed=>exact ry
  | own k =>
   obtain⟨p,hp,e⟩:=ry
   refine⟨p,?_,e⟩
   rw [je] at hp ⊢
   have hk:=(apE.mp hp).1
   rw [show f.M.reverse++a :: (as++[D])=(f.M.reverse++a :: as)++[D] by simp,apL hk]
   exact hp
  | exc C=>exact let⟨b,e,q⟩:=ry;⟨b,e,sm _ _ q⟩
  | mon φ=>exact fun H' s=>ry H' (sm.trans s)
 have tab2:TabAt (upd H1 a (.lst (as.map .ref++[.ref D]))) a (as++[D]) (rows++[r]):=by
  refine⟨?_,?_,?_,fun k y q h2 h3=>?_⟩
  ·rw [zo,ap6]
   rfl
  ·refine aqp.mpr ⟨fun z=>?_,?_⟩
   ·rcases apW.mp z with z | z
    ·exact na' z
    ·exact Da (apS.mp z).symm
   ·rw [ara]
    refine⟨(aqp.mp x1.tab.nd).2,by simp,fun u hu v hv=>?_⟩
    rw [apS.mp hv]
    exact fun z=>Das (z▸hu)
  ·rw [apX,apX,x1.tab.len]
   rfl
  ·by_cases hk:k<as.length
   ·rw [apL hk] at h2
    rw [apL (by rw [<-x1.tab.len];exact hk)] at h3
    have ya:y≠a:=fun z=>na' (z▸apN h2)
    rw [zm ya]
    exact x1.tab.row k y q h2 h3
   ·have k1:k<(as++[D]).length:=(apE.mp h2).1
    rw [apX,aqw] at k1
    have ek:k=as.length:=by omega
    subst ek
    rw [apQ (apI _),aqX] at h2
    rw [x1.tab.len,apQ (apI _),aqX] at h3
    cases h2
    cases h3
    rw [zm Da]
    exact h1
 have go2:Goes f H0 (upd H1 a (.lst (as.map .ref++[.ref D]))):=by
  refine⟨fun b o e=>?_,⟨fo2.fd,fun b hb=>fo2.mm b (apR _ hb),fun p e hp=>fo2.nm p e (apR _ hp)⟩,fun b hb=>?_⟩
  ·obtain⟨hb,hh⟩:=zA e
   have ba:b≠a:=fun z=>by rw [z,x.na] at hh;cases hh
   refine zu hb ?_
   rw [zm ba]
   exact (zA (x1.go.sm b o e)).2
  ·have ba:b≠a:=fun z=>fresh_ne fo x.na (.inr (z▸hb))
   rw [zm ba]
   exact x1.go.kp b hb
 have x2:TV K f H0 a (as++[D]) ρ (rows++[r]) σ (upd H1 a (.lst (as.map .ref++[.ref D]))) :=
  ⟨env2,go2,x.na,fun y hy=>(apW.mp hy).elim (x.nas y) fun z=>by rw [apS.mp z];exact n0,tab2⟩
 exact⟨_,as.map .ref,.ref D,rfl,rfl,x1.tab.top,zW (by rw [apC,x1.tab.len];omega),n _ _ _ _ _ x2 sm p⟩
theorem aoh {w:World} {E:XK} {tc:TE} {RT:List (List Int)->Prop} {RD:PyData->Prop} {Z:Value->XD->Prop} (hi:i<ρ.length)
  (h:∀ H0 a,aaO K f H0 a ts (ρ.set i (some (.own f.M.length))) [] fun ρ' rows=>ρ'[i]?=some (some (.own f.M.length))/\PEf K f E tc ((ρ'.map (yY f.M.length)).set i (some (.dat (adt rows)))) (fun _=>RT rows) Z) :
  PSg K f E (jL (qc (afu yJ) (yR i)) (jL ts (jL (vw tc) (afk (yp i))))) ρ RT RD Z:=fun σ H N e nt nd z=>by
 refine⟨ap9 _,fun a hn=>?_⟩
 have g1:Goes f H (upd H a (.lst [])):=.of_same (zI hn _) e.fd
 have x0:CM w K f [] H ρ [] σ H:=⟨e,Same.refl _,fun _ _=>rfl,rfl,(fun i D c z=>nomatch z)⟩
 have x1:=x0.more (i:=i) (c:=.lst []) g1 hn ⟨[],zo,.nil'⟩ hi
 have v0:TV K f H a [] (ρ.set i (some (.own f.M.length))) [] (σ.set i (some (.ref a))) (upd H a (.lst [])) :=
  ⟨x1.env,g1,hn,(fun _ z=>nomatch z),⟨zo,by simp,rfl,fun k y r h1 _=>by cases h1⟩⟩
 refine h H a e.fd [] _ _ _ v0 fun as ρ' rows σ' H1 x _ ⟨hi',p⟩=>?_
 have se:=x.sep e.fd
 have rd:=x.tn.read se hi'
 refine p σ' H1 _ rd (fun d v H2 g2 _ q=>?_) (z.go x.go)
 have hs:=x.tn.at hi'
 have kp:∀ b∈a :: as,H2 b=H1 b:=fun b hb=>by
  have nb:¬ (f.f=some b \/ b∈f.M):=(apK.mp hb).elim (fun y=>y▸fresh_ne e.fd x.na) fun y=>fresh_ne e.fd (x.nas b y)
  have:∃ o,H1 b=some o:=by
   rcases apK.mp hb with rfl | y
   ·exact⟨_,x.tab.top⟩
   ·obtain⟨k,hk⟩:=aqn y
    exact⟨_,x.tab.row k b _ hk (apA (by rw [<-x.tab.len];exact (apE.mp hk).1))⟩
  obtain⟨o,h1⟩:=this
  rw [h1]
  exact (zA (g2.sm b o (zu nb h1))).2
 exact⟨.ref a,hs,nt rows a as H2 (x.go.trans g2) x.na x.nas (x.tab.keep kp) q⟩
end
end L2
end
section
namespace My
open PySem PySem.Spec PyProof.Rows L2
noncomputable abbrev pf:List Str:=["rows"]
noncomputable abbrev ph:List Str:=["rows","cut","gate"]
noncomputable abbrev pj:List Str:=["rows","cut","cell"]
noncomputable abbrev pq:List Str:=["gate"]
noncomputable abbrev pz:List Str:=["rows","x","y"]
noncomputable abbrev pA:List Str:=["rows","cut"]
noncomputable abbrev pB:List Str:=["_law_feed_here"]
noncomputable abbrev pC:List Str:=["row"]
noncomputable abbrev pD:List Str:=["word"]
noncomputable abbrev pE:List Str:=["_law_feed_here","_law_many"]
noncomputable abbrev pF:List Str:=["things"]
noncomputable abbrev pG:List Str:=["gate","rows","cut"]
noncomputable abbrev pH:List Str:=["number"]
noncomputable abbrev pI:List Str:=["rows","cut","point"]
noncomputable abbrev pJ:List Str:=["x","y"]
noncomputable abbrev pK:List Str:=["rows","gate"]
noncomputable abbrev pL:List Str:=["_law_feed_here","_law_far","_law_base"]
noncomputable abbrev pM:List Str:=["rows","cut","start"]
noncomputable abbrev pN:List Str:=["_law_script","_law_k"]
noncomputable abbrev pO:List Str:=["_law_rows"]
noncomputable abbrev pP:List Str:=["_law_line_here"]
noncomputable abbrev pQ:List Str:=["_law_feed_here","_law_rows"]
noncomputable abbrev pR:List Str:=["_law_script"]
noncomputable abbrev pS:List Str:=["x","y","way"]
noncomputable abbrev pU:List Str:=["rows","cut","gate","across","down"]
noncomputable abbrev pV:List Str:=["_law_y","_law_feed_here","_law_wide","_law_far","_law_base"]
noncomputable abbrev pW:List Str:=["_law_x","_law_feed_here","_law_far","_law_base"]
local macro_rules | `(tactic| walk_at "w")=>`(tactic| repeat walk_at "dl")
local macro_rules | `(tactic| walk_at "s")=>`(tactic| exact⟨rfl,rfl,rfl,by decide +kernel,rfl,by decide +kernel,by decide +kernel⟩)
noncomputable def top (i:Nat):Stmt:=PySem.Challenge.pw_heightrings_k80_tables_written.main.body.getD i (.Pass ⟨0,0,0,0⟩)
noncomputable abbrev adv:=top 5
noncomputable abbrev aoi:List Str:=pf
theorem alS:FnScope aoi pf (zf adv):=by walk_at "s"
noncomputable abbrev v8:=top 6
noncomputable abbrev akh:List Str:=["rows","wide","tall"]
theorem sc_points:FnScope akh pf (zf v8):=by walk_at "s"
noncomputable abbrev jT:=top 7
noncomputable abbrev aeK:List Str:=["rows","x","y","wide","tall"]
theorem sc_has_point:FnScope aeK pz (zf jT):=by walk_at "s"
noncomputable abbrev qB:=top 8
noncomputable abbrev afT:List Str:=pz
theorem aeL:FnScope afT pz (zf qB):=by walk_at "s"
noncomputable abbrev vm:=top 9
noncomputable abbrev ais:List Str:=pJ
theorem afU:FnScope ais pJ (zf vm):=by walk_at "s"
noncomputable abbrev jo:=top 15
noncomputable abbrev aeM:List Str:=["rows","at","row"]
theorem sc_ask_table:FnScope aeM pf (zf jo):=by walk_at "s"
noncomputable abbrev adw:=top 16
noncomputable abbrev aoj:List Str:=pF
theorem alT:FnScope aoj pF (zf adw):=by walk_at "s"
noncomputable abbrev v9:=top 17
noncomputable abbrev aki:List Str:=pC
theorem ait:FnScope aki pC (zf v9):=by walk_at "s"
noncomputable abbrev yZ:=top 23
noncomputable abbrev adx:List Str:=pf
theorem vB:FnScope adx pf (zf yZ):=by walk_at "s"
noncomputable abbrev jU:=top 24
noncomputable abbrev aeN:List Str:=["line","word","path"]
theorem sc_show_line:FnScope aeN ["line"] (zf jU):=by walk_at "s"
noncomputable abbrev jV:=top 25
noncomputable abbrev aeO:List Str:=pq
theorem ady:FnScope aeO pq (zf jV):=by walk_at "s"
noncomputable abbrev ji:=top 26
noncomputable abbrev abN:List Str:=["number","pieces","rest","piece"]
theorem sc_show_number:FnScope abN pH (zf ji):=by walk_at "s"
noncomputable abbrev jv:=top 27
noncomputable abbrev adz:List Str:=["text","rows","at","line","words"]
theorem sc_read_table:FnScope adz ["text"] (zf jv):=by walk_at "s"
noncomputable abbrev jW:=top 28
noncomputable abbrev aeP:List Str:=["word","figures"]
theorem sc_is_number:FnScope aeP pD (zf jW):=by walk_at "s"
noncomputable abbrev aaZ:=top 32
noncomputable abbrev alU:List Str:=["rows","cut","sides"]
theorem sc_gates:FnScope alU pA (zf aaZ):=by walk_at "s"
noncomputable abbrev jj:=top 33
noncomputable abbrev abO:List Str:=["rows","cut","point","x","y"]
theorem sc_stands_high:FnScope abO pI (zf jj):=by walk_at "s"
noncomputable abbrev jl:=top 34
noncomputable abbrev abP:List Str:=["gate","x","y","way"]
theorem sc_gate_points:FnScope abP pq (zf jl):=by walk_at "s"
noncomputable abbrev qC:=top 35
noncomputable abbrev afV:List Str:=pK
theorem aeQ:FnScope afV pK (zf qC):=by walk_at "s"
noncomputable abbrev vn:=top 36
noncomputable abbrev aiu:List Str:=["rows","cut","gate","first","second"]
theorem sc_is_open:FnScope aiu ph (zf vn):=by walk_at "s"
noncomputable abbrev jw:=top 37
noncomputable abbrev adA:List Str:=["cell","x","y"]
theorem sc_cell_gates:FnScope adA ["cell"] (zf jw):=by walk_at "s"
noncomputable abbrev jx:=top 38
noncomputable abbrev adB:List Str:=pj
theorem abQ:FnScope adB pj (zf jx):=by walk_at "s"
noncomputable abbrev yF:=top 39
noncomputable abbrev aaa:List Str:=["rows","cut","cell","x","y"]
theorem sc_has_high_middle:FnScope aaa pj (zf yF):=by walk_at "s"
noncomputable abbrev jX:=top 40
noncomputable abbrev aeR:List Str:=["rows","cut","cell","through"]
theorem sc_cell_ties:FnScope aeR pj (zf jX):=by walk_at "s"
noncomputable abbrev y3:=top 41
noncomputable abbrev abx:List Str:=["rows","cut","cell","above","left","below","right"]
theorem sc_crossed_ties:FnScope abx pj (zf y3):=by walk_at "s"
noncomputable abbrev vo:=top 42
noncomputable abbrev aiv:List Str:=["rows","cut","gate","x","y","way","near_is_high"]
theorem sc_heading:FnScope aiv ph (zf vo):=by walk_at "s"
noncomputable abbrev jy:=top 43
noncomputable abbrev adC:List Str:=pU
theorem sc_cell_ahead:FnScope adC ph (zf jy):=by walk_at "s"
noncomputable abbrev qD:=top 44
noncomputable abbrev afW:List Str:=pU
theorem sc_comes_in:FnScope afW ph (zf qD):=by walk_at "s"
noncomputable abbrev jz:=top 45
noncomputable abbrev adD:List Str:=["rows","cut","gate","x","y","partners","one","other"]
theorem sc_gate_ahead:FnScope adD ph (zf jz):=by walk_at "s"
noncomputable abbrev aa0:=top 47
noncomputable abbrev alV:List Str:=["rows","cut","through","starts","told","passed","start","line","gate"]
theorem sc_lines:FnScope alV pA (zf aa0):=by walk_at "s"
noncomputable abbrev jY:=top 48
noncomputable abbrev aeS:List Str:=["rows","cut","start","path","gate"]
theorem sc_line_from:FnScope aeS pM (zf jY):=by walk_at "s"
noncomputable abbrev qE:=top 50
noncomputable abbrev vK:List Str:=["_law_script","_law_k","_law_cell"]
theorem sc_law_feed:FnScope vK pN (zf qE):=by walk_at "s"
noncomputable abbrev qG:=top 51
noncomputable abbrev afX:List Str:=["_law_feed_here","_law_many","_law_found"]
theorem sc_law_draw:FnScope afX pE (zf qG):=by walk_at "s"
noncomputable abbrev jA:=top 52
noncomputable abbrev adE:List Str:=pL
theorem abR:FnScope adE pL (zf jA):=by walk_at "s"
noncomputable abbrev jZ:=top 53
noncomputable abbrev aeT:List Str:=["_law_feed_here","_law_wide","_law_high","_law_far","_law_base"]
theorem sc_law_table:FnScope aeT pB (zf jZ):=by walk_at "s"
noncomputable abbrev qH:=top 54
noncomputable abbrev afY:List Str:=["_law_rows","_law_text_here","_law_y","_law_x"]
theorem sc_law_text:FnScope afY pO (zf qH):=by walk_at "s"
noncomputable abbrev qI:=top 55
noncomputable abbrev afZ:List Str:=["_law_line_here","_law_text_here","_law_gate"]
theorem sc_law_line:FnScope afZ pP (zf qI):=by walk_at "s"
noncomputable abbrev j7:=top 56
noncomputable abbrev aeU:List Str:=["_law_feed_here","_law_path","_law_k","_law_x"]
theorem sc_law_drawn:FnScope aeU pB (zf j7):=by walk_at "s"
noncomputable abbrev jm:=top 57
noncomputable abbrev abS:List Str:=["_law_feed_here","_law_rows","_law_bad","_law_y","_law_x","_law_found","caught"]
theorem sc_law_bad_row:FnScope abS pQ (zf jm):=by walk_at "s"
noncomputable abbrev aaJ:=top 58
noncomputable abbrev ahb:List Str:=["_law_script","_law_k","_law_feed_here","_law_rows","_law_kept","_law_text_here","_law_found","_law_told","_law_cut","_law_line_here"]
theorem sc_law:FnScope ahb pR (zf aaJ):=by walk_at "s"
noncomputable abbrev jf:Stmt:=(alK (top 2)).getD 0 (.Pass ⟨0,0,0,0⟩)
theorem aaP:FnScope ["self","at"] ["self","at"] (zf jf):=by walk_at "s"
noncomputable def tab (rows:List (List Int)):PyData:=.list (rows.map fun r=>.list (r.map .int))
structure Good (w:Nat) (rows:List (List Int)):Prop where
 h1:2<=rows.length
 h2:rows.length<=7
 w1:2<=w
 w2:w<=7
 row:∀ r∈rows,r.length=w
 hgt:∀ r∈rows,∀ n∈r,-1000000000<=n/\n<=1000000000
theorem Good.ne {w:Nat} {rows:List (List Int)} (g:Good w rows):∃ r rs,rows=r :: rs:=by
 cases rows with
 | nil=>have:=g.h1;simp at this
 | cons r rs=>exact⟨r,rs,rfl⟩
theorem qJ {α β:Type} {F:α->β} {xs:List α} {k:Int} {j:Nat} (hk:(j:Int)=k) (h:j<xs.length):atI (xs.map F) k=some (F xs[j]):=by
 subst hk
 exact zO (by rw [apM,apA h];rfl)
local macro_rules | `(tactic| walk_at "dl")=>`(tactic| first
 | (with_reducible show PSd _ _ (qc _ (acG (yp _) (tC (V.int 0)) aax)) _ _;refine agy rfl ?_)
 | (with_reducible show PSd _ _ (qc _ (acG (yp _) (tC (V.int 1)) aax)) _ _;refine agz rfl ?_)
 | with_reducible refine z6 ?_ | with_reducible refine acW ?_ | with_reducible refine yL ?_ | with_reducible refine zS ?_ | with_reducible refine abf ?_ | with_reducible refine qO ?_
 | with_reducible refine zj ?_ | with_reducible refine jG rfl ?_ | with_reducible refine zC ?_ | with_reducible refine yG ?_
 | with_reducible refine yC ?_ | with_reducible refine t_b ?_ | with_reducible refine agw ?_ | with_reducible refine ai8 ?_ | with_reducible refine qU ?_ | with_reducible refine yW ?_
 | with_reducible refine acV ?_ | with_reducible refine ad9 ?_ | with_reducible refine ad8 ?_ | with_reducible refine ai7 ?_ | with_reducible refine jF ?_
 | with_reducible refine ahR ?_ | with_reducible refine afA ?_ | with_reducible refine ai9 ?_ | with_reducible refine aja ?_
 | with_reducible refine yy ?_ | with_reducible refine ai5 ?_ | with_reducible refine qj ?_ | with_reducible refine ai6 ?_
 | (with_reducible show PEd _ _ (yp _) _ _;refine zq rfl ?_)
 | (with_reducible show PEd _ _ (tOp (ad0 _) (yp _) _) _ _;refine amA rfl ?_)
 | with_reducible refine aaA ?_ | with_reducible refine aaB ?_
 | (with_reducible show PAd _ _ (zQ (yp _) _) _ _;refine acU rfl ?_)
 | with_reducible refine zJ ?_ | with_reducible refine yu ?_
 | with_reducible refine abe ?_ | with_reducible refine aea ?_ | with_reducible refine amB ?_ | with_reducible refine ajb ?_ | with_reducible refine ajc ?_ | with_reducible refine ajd ?_ | with_reducible refine afB ?_
 | (with_reducible show (∃ _,_) \/ (∃ _,_);refine Or.inl ⟨_,rfl,?_⟩) | refine⟨_,rfl,?_⟩ | refine⟨_,_,rfl,?_⟩
 | (with_reducible show (_=_/\∀ _,_) \/ _;first | refine Or.inl ⟨rfl,fun a ha=>?_⟩ | refine Or.inr ⟨rfl,fun b hb hb'=>?_⟩)
 | refine⟨rfl,?_⟩
 | (refine And.intro ?side ?_;(case side=>first | omega | exact Int.ediv_nonneg (by omega) (by omega) | exact asy _ (by omega) | exact ark _ (by omega) | decide | exact⟨by decide,by decide,by decide⟩ | exact⟨by omega,by omega⟩ | exact Or.inl ⟨by omega,by omega⟩ | exact Or.inr ⟨by omega,by omega⟩ | (refine ap1 (ars (by rfl)) (show _<=1000 by decide)) | ((repeat' apply And.intro) <;> first | rfl | omega | decide | assumption) | (simp [aua]))))
section
variable {P:Program} {w:World} {K:apD} {mg:Str->Option Value} {base:Heap} {k:Nat}
theorem alW (F:Def K mg "size" adv pf) (uaa:mg "len"=none):FnIn P w K mg base (k+1) "size" pf (spD K 1 (fun (c:List (List Int)×Nat) xs=>xs=[.dat (tab c.1)]/\Good c.2 c.1) fun c r=>r=.tuple [.int c.2,.int c.1.length]):=by
 refine F.ok alS rfl fun fa cdv A outer s H E hr=>⟨_,(zg (zw (zR (za (zy (z4 (K:=K) rfl) rfl uaa aqu (za (zM (zB (K:=K) rfl) (pv 0) zd (fun _ _=>rfl)) zb)) (za (zy (z4 (K:=K) rfl) rfl uaa aqu (za (pv 0) zb)) zb))))),?_⟩
 rintro f xs ⟨rows,wd⟩ hl ⟨rfl,g⟩
 try dsimp only [zH,zi]
 obtain⟨r,rs,rfl⟩:=g.ne
 walk_at "w"
 refine⟨_,qJ (j:=0) rfl (by simp),?_⟩
 walk_at "w"
 have hw:=g.row r apJ
 show PyData.tuple [.int _,.int _]=_
 rw [apC,apC]
 show PyData.tuple [.int (r.length:Nat),_]=_
 rw [hw]
theorem alX (F:Def K mg "fits" adw pF) (uaa:mg "len"=none) (uar:∃ t,mg "FEWEST"=some (.int 2 t)) (uas:∃ t,mg "MOST"=some (.int 7 t)) :
  FnIn P w K mg base (k+1) "fits" pF (spD K 1 (fun (c:List PyData) xs=>xs=[.dat (.list c)]) fun c r=>r=.bool (decide (2<=c.length/\c.length<=7))):=by
 obtain⟨_,uar⟩:=uar
 obtain⟨_,uas⟩:=uas
 refine F.ok alT rfl fun fa cdv A outer s H E hr=>⟨_,(zg (zw (aa8 aaw aaw (ql rfl uar) (zy (z4 (K:=K) rfl) rfl uaa aqu (za (pv 0) zb)) (ql rfl uas)))),?_⟩
 rintro f xs ds hl rfl
 try dsimp only [zH,zi]
 walk_at "w"
 by_cases h:2<=ds.length
 ·rw [if_pos (by simp;omega)]
  walk_at "w"
  show PyData.bool _=_
  congr 1
  by_cases h7:ds.length<=7 <;> simp [h,h7] <;> omega
 ·rw [if_neg (by simp;omega)]
  show PyData.bool _=_
  congr 1
  simp [h]
theorem aiw (F:Def K mg "is_row" v9 pC) (uag:mg "min"=none) (uah:mg "max"=none) (uat:∃ t,mg "LEAST"=some (.int (-1000000000) t)) (uau:∃ t,mg "GREATEST"=some (.int 1000000000 t))
  (uav:FnIn P w K mg base k "fits" pF (spD K 1 (fun (c:List PyData) xs=>xs=[.dat (.list c)]) fun c r=>r=.bool (decide (2<=c.length/\c.length<=7)))) :
  FnIn P w K mg base (k+1) "is_row" pC (spD K 1 (fun (c:List Int) xs=>xs=[.dat (.list (c.map .int))]) fun c r=>r=.bool (decide (2<=c.length/\c.length<=7/\∀ n∈c,-1000000000<=n/\n<=1000000000))):=by
 obtain⟨_,uat⟩:=uat
 obtain⟨_,uau⟩:=uau
 refine F.ok ait rfl fun fa cdv A outer s H E hr=>⟨_,(zg (zw (acE (ze uav hr rfl (za (pv 0) zb)) (acE (ju aaw (ql rfl uat) (zy (ahT (K:=K) rfl rfl) rfl uag boot_min (za (pv 0) zb)) (zP _)) (acD (ju aaw (zy (ahU (K:=K) rfl rfl) rfl uah boot_max (za (pv 0) zb)) (ql rfl uau) (zP _))))))),?_⟩
 rintro f xs c hl rfl
 try dsimp only [zH,zi]
 walk_at "w"
 refine zr (c.map .int) ?_
 walk_at "w"
 rintro r rfl
 rw [apC]
 walk_at "w"
 by_cases h:2<=c.length/\c.length<=7
 ·have hne:c≠[]:=by rintro rfl;simp at h
  rw [if_pos (by simpa using h)]
  walk_at "w"
  intro M hM hM'
  walk_at "w"
  by_cases h2:-1000000000<=M
  ·rw [if_pos (by simpa using h2)]
   walk_at "w"
   intro M' hN hN'
   walk_at "w"
   show PyData.bool _=_
   congr 1
   rw [decide_eq_decide]
   refine⟨fun q=>⟨h.1,h.2,fun n hn=>⟨Int.le_trans h2 (hM' n hn),Int.le_trans (hN' n hn) q⟩⟩,fun q=>(q.2.2 M' hN).2⟩
  ·rw [if_neg (by simpa using h2)]
   show PyData.bool _=_
   congr 1
   symm
   rw [decide_eq_false_iff_not]
   exact fun q=>h2 (q.2.2 M hM).1
 ·rw [if_neg (by simpa using h)]
  show PyData.bool _=_
  congr 1
  symm
  rw [decide_eq_false_iff_not]
  exact fun q=>h ⟨q.1,q.2.1⟩
noncomputable abbrev aeV (K:apD):Sp:=spD K 1 (fun (c:List (List Int)×Nat) xs=>xs=[.dat (tab c.1)]/\Good c.2 c.1) fun _ r=>r=.bool true
theorem aok (F:Def K mg "ask_table" jo pf) (uaa:mg "len"=none) (uai:mg "enumerate"=none)
  (uav:FnIn P w K mg base k "fits" pF (spD K 1 (fun (c:List PyData) xs=>xs=[.dat (.list c)]) fun c r=>r=.bool (decide (2<=c.length/\c.length<=7))))
  (uaH:FnIn P w K mg base k "is_row" pC (spD K 1 (fun (c:List Int) xs=>xs=[.dat (.list (c.map .int))]) fun c r=>r=.bool (decide (2<=c.length/\c.length<=7/\∀ n∈c,-1000000000<=n/\n<=1000000000)))) :
  FnIn P w K mg base (k+1) "ask_table" pf (aeV K):=by
 refine F.ok sc_ask_table rfl fun fa cdv A outer s H E hr=>⟨_,(zc (yq (jC (z5 (K:=K) rfl (ze uav hr rfl (za (pv 0) zb)) (fun _=>rfl))) (zg aa4) zK) (zc (jq aqx rfl (abi (K:=K) rfl rfl uai (za (pv 0) zb)) (yf (K:=K) (n:=2) rfl rfl (zt (zk (i:=1) sc_ask_table.nd rfl (Or.inl rfl) (Or.inr rfl)) (zt (zk (i:=2) sc_ask_table.nd rfl (Or.inl rfl) (Or.inr rfl)) zZ))) (zg (yq (PW.pt (adT (zN (jH (K:=K) rfl hr.units) (zy (z4 (K:=K) rfl) rfl uaa aqu (za (pv 2) zb)) (zy (z4 (K:=K) rfl) rfl uaa aqu (za (zM (zB (K:=K) rfl) (pv 0) zd (fun _ _=>rfl)) zb)) (zP _)) (acC (jC (z5 (K:=K) rfl (ze uaH hr rfl (za (pv 2) zb)) (fun _=>rfl)))))) (zg aa4) zK))) (zg (zw qg)))),?_⟩
 rintro f xs ⟨rows,wd⟩ hl ⟨rfl,g⟩
 try dsimp only [zH,zi]
 have g1:=g.h1
 have g2:=g.h2
 walk_at "w"
 refine zr (rows.map fun r=>.list (r.map .int)) ?_
 walk_at "w"
 rintro r rfl
 dsimp only at g1 g2
 refine⟨_,rfl,?_⟩
 rw [apC,decide_eq_true ⟨g1,g2⟩,aqd,if_neg apB]
 walk_at "w"
 refine afC ?_
 walk_at "w"
 refine⟨fun i ρ=>∃ a b,ρ=[some (.dat (tab rows)),a,b],⟨_,_,rfl⟩,?_,?_⟩
 ·rintro i d ρ hd ⟨a,b,rfl⟩
  rw [apM] at hd
  cases hr:rows[i]? with
  | none=>rw [hr] at hd;cases hd
  | some r =>
   rw [hr] at hd
   cases hd
   have hm:=apN hr
   have hw:=g.row r hm
   obtain⟨r0,rs,hrs⟩:=g.ne
   dsimp only at hrs
   subst hrs
   have hw0:=g.row r0 apJ
   walk_at "w"
   refine⟨_,qJ (j:=0) rfl (by simp),?_⟩
   walk_at "w"
   dsimp only at hw hw0
   rw [if_pos rfl,apC,apC]
   show (if (!(((r.length:Nat):Int) == ((r0.length:Nat):Int)))=true then _ else _)
   rw [hw,hw0,beq_self_eq_true,aqd,if_neg apB]
   walk_at "w"
   refine zr r ?_
   walk_at "w"
   rintro _ rfl
   refine⟨_,rfl,?_⟩
   have w1:=g.w1
   have w2:=g.w2
   dsimp only at w1 w2
   rw [decide_eq_true ⟨by omega,by omega,g.hgt r hm⟩,aqd,if_neg apB]
   walk_at "w"
   exact⟨_,_,rfl⟩
 ·rintro ρ ⟨a,b,rfl⟩
  walk_at "w"
  rfl
theorem alY (F:Def K mg "_law_draw" qG pE):FnIn P w K mg base (k+1) "_law_draw" pE (spD K 2 (fun (c:Int) xs=>xs=[.feed,.dat (.int c)]/\0<c/\c<1152921504606846976) fun c r=>∃ i:Int,r=.int i/\0<=i/\i<c):=by
 refine F.ok sc_law_draw rfl fun fa cdv A outer s H E hr=>⟨_,(zc (yq (zN aiW (zM (zB (K:=K) rfl) (pv 0) zd (fun _ _=>rfl)) (zx qx zd zd) (zP _)) (zc (zD (i:=2) sc_law_draw.nd rfl (Or.inl rfl) (zx aaf (zM (zB (K:=K) rfl) (pv 0) zd (fun _ _=>rfl)) (pv 1))) (zc (yB (zx aeg (zM (zB (K:=K) rfl) (pv 0) zd (fun _ _=>rfl)) (pv 1)) (aa5 (pv 0) zd set_list)) (zg (zw (pv 2))))) zK) (zc (yB (zx aaf (zx z7 (zx z7 (zx aa7 (zM (zB (K:=K) rfl) (pv 0) zd (fun _ _=>rfl)) zd) (zx aaf (zM (zB (K:=K) rfl) (pv 0) zd (fun _ _=>rfl)) zd)) zd) zd) (aa5 (pv 0) zd set_list)) (zg (zw (zx aaf (zx aeg (zx aaf (zx aa7 (zM (zB (K:=K) rfl) (pv 0) zd (fun _ _=>rfl)) zd) zd) zd) (pv 1)))))),?_⟩
 rintro f xs c hl ⟨rfl,c0,c1⟩
 try dsimp only [zH,zi]
 walk_at "w"
 split
 ·walk_at "w"
  exact ark _ c0
 ·walk_at "w"
  exact ark _ c0
noncomputable abbrev aby (K:apD):Sp:=spD K 2 (fun (c:Int) xs=>xs=[.feed,.dat (.int c)]/\0<c/\c<1152921504606846976) fun c r=>∃ i:Int,r=.int i/\0<=i/\i<c
noncomputable abbrev aeW (K:apD):Sp:=spD K 3 (fun (c:Int×Int) xs=>xs=[.feed,.dat (.int c.1),.dat (.int c.2)]/\0<=c.1/\c.1<=1000/\-1000000000<=c.2/\c.2<=999999001) fun c r=>∃ i:Int,r=.int i/\-1000000000<=i/\i<=1000000000
theorem aix (F:Def K mg "_law_height" jA pL) (uag:mg "min"=none) (uac:FnIn P w K mg base k "_law_draw" pE (aby K)) :
  FnIn P w K mg base (k+1) "_law_height" pL (aeW K):=by
 refine F.ok abR rfl fun fa cdv A outer s H E hr=>⟨_,(zc (yq (zN adW (pv 1) zd (zP _)) (zg (zw (zx z7 (pv 2) (ze uac hr rfl (za (pv 0) (za (pv 1) zb)))))) zK) (zg (zw (zy (ab0 rfl) rfl uag boot_min (za (zx qx zd zd) (za (zx jD (zx z7 (zx aa7 (ze uac hr rfl (za (pv 0) (za zd zb))) zd) (ze uac hr rfl (za (pv 0) (za zd zb)))) (zx qx zd zd)) zb)))))),?_⟩
 rintro f xs ⟨far,bs⟩ hl ⟨rfl,c0,c1,c2,c3⟩
 dsimp only at c0 c1 c2 c3
 try dsimp only [zH,zi]
 walk_at "w"
 by_cases h:0<far
 ·rw [if_pos (by simpa using h)]
  walk_at "w"
  refine zr far ?_
  walk_at "w"
  rintro r ⟨i,rfl,h1,h2⟩
  walk_at "w"
  show bs+i<=1000000000
  omega
 ·rw [if_neg (by simpa using h)]
  walk_at "w"
  refine zr 20001 ?_
  walk_at "w"
  rintro r ⟨i,rfl,h1,h2⟩
  walk_at "w"
  refine zr 100000 ?_
  walk_at "w"
  rintro r ⟨j,rfl,h3,h4⟩
  walk_at "w"
  have e9:(10:Int) ^ asJ 9=1000000000:=by decide
  rw [e9]
  omega
noncomputable abbrev ahc (K:apD):Sp:=spD K 1 (fun (_:Unit) xs=>xs=[.feed]) fun _ r=>∃ wd rows,r=tab rows/\Good wd rows
theorem menu {ds:List PyData} {i n:Int} (h0:0<=i) (h1:i<n) (hn:n=(ds.length:Int)):∃ d,atI ds i=some d/\d∈ds:=by
 have hi:i.toNat<ds.length:=by omega
 have e:i=((i.toNat:Nat):Int):=by omega
 have q:=zO (apA hi)
 rw [<-e] at q
 exact⟨_,q,aqf hi⟩
theorem ahd:∀ {es:List PyData} {p:Int->Prop},(∀ (i:Nat) e,es[i]?=some e->∃ n:Int,e=.int n/\p n)->∃ ns:List Int,es=ns.map .int/\∀ n∈ns,p n
 | [],p,_=>⟨[],rfl,fun n h=>by cases h⟩
 | e :: es,p,h=>by
  obtain⟨n,rfl,hn⟩:=h 0 e rfl
  obtain⟨ns,rfl,hs⟩:=ahd (es:=es) (p:=p) fun i e' he=>h (i+1) e' (by simpa using he)
  exact⟨n :: ns,rfl,fun m hm=>by
   rcases apK.mp hm with rfl | hm
   ·exact hn
   ·exact hs m hm⟩
theorem ahe:∀ {es:List PyData} {p:List Int->Prop},(∀ (i:Nat) e,es[i]?=some e->∃ r:List Int,e=.list (r.map .int)/\p r)->∃ rows:List (List Int),es=rows.map (fun r=>.list (r.map .int))/\∀ r∈rows,p r
 | [],p,_=>⟨[],rfl,fun n h=>by cases h⟩
 | e :: es,p,h=>by
  obtain⟨n,rfl,hn⟩:=h 0 e rfl
  obtain⟨ns,rfl,hs⟩:=ahe (es:=es) (p:=p) fun i e' he=>h (i+1) e' (by simpa using he)
  exact⟨n :: ns,rfl,fun m hm=>by
   rcases apK.mp hm with rfl | hm
   ·exact hn
   ·exact hs m hm⟩
theorem akj (F:Def K mg "_law_table" jZ pB) (uad:mg "range"=none) (uac:FnIn P w K mg base k "_law_draw" pE (aby K)) (ubu:FnIn P w K mg base k "_law_height" pL (aeW K)) :
  FnIn P w K mg base (k+1) "_law_table" pB (ahc K):=by
 refine F.ok sc_law_table rfl fun fa cdv A outer s H E hr=>⟨_,(zc (zD (i:=1) sc_law_table.nd rfl (Or.inr rfl) (zx z7 zd (ze uac hr rfl (za (pv 0) (za zd zb))))) (zc (zD (i:=2) sc_law_table.nd rfl (Or.inl rfl) (zx z7 zd (ze uac hr rfl (za (pv 0) (za zd zb))))) (zc (zD (i:=3) sc_law_table.nd rfl (Or.inr rfl) (zM (zB (K:=K) rfl) (yg (za zd (za zd (za zd (za zd (za zd (za zd (za zd zb)))))))) (ze uac hr rfl (za (pv 0) (za zd zb))) (fun _ _=>rfl))) (zc (zD (i:=4) sc_law_table.nd rfl (Or.inr rfl) (zM (zB (K:=K) rfl) (yg (za zd (za (zx jD zd zd) (za (zx jD (zx qx zd zd) zd) (za (zx jD zd (zx qx zd zd)) zb))))) (ze uac hr rfl (za (pv 0) (za zd zb))) (fun _ _=>rfl))) (zg (zw (yc (N:=pV) (own:=1) (fr:=[0,1,3,4]) ⟨rfl,by decide +kernel,of_decide_eq_true (by kernel_rfl),of_decide_eq_true (by kernel_rfl),of_decide_eq_true (by kernel_rfl),rfl⟩ rfl (yS rfl uad (za (pv 2) zb)) (fun _ _ _ _=>(zk (i:=0) (show (pV:List Str).Nodup by decide +kernel) rfl (Or.inl rfl) (Or.inr rfl))) (fun _ _ _ _=>z8) (fun _ _ _ _=>(yc (N:=pW) (own:=1) (fr:=[1,3,4]) ⟨rfl,by decide +kernel,of_decide_eq_true (by kernel_rfl),of_decide_eq_true (by kernel_rfl),of_decide_eq_true (by kernel_rfl),rfl⟩ rfl (yS rfl uad (za (pv 2) zb)) (fun _ _ _ _=>(zk (i:=0) (show (pW:List Str).Nodup by decide +kernel) rfl (Or.inl rfl) (Or.inr rfl))) (fun _ _ _ _=>z8) (fun _ _ _ _=>(ze ubu hr rfl (za (pv 1) (za (pv 2) (za (pv 3) zb))))) rfl rfl (fun _=>rfl))) rfl rfl (fun _=>rfl)))))))),?_⟩
 rintro f xs ⟨⟩ hl rfl
 try dsimp only [zH,zi]
 walk_at "w"
 refine zr 6 ?_
 walk_at "w"
 rintro r ⟨i1,rfl,h1,h2⟩
 walk_at "w"
 refine zr 6 ?_
 walk_at "w"
 rintro r ⟨i2,rfl,h3,h4⟩
 walk_at "w"
 refine zr 7 ?_
 walk_at "w"
 rintro r ⟨i3,rfl,h5,h6⟩
 refine⟨_,rfl,?_⟩
 obtain⟨d3,e3,m3⟩:=menu (ds:=[.int 2,.int 3,.int 5,.int 20,.int 10,.int 1000,.int 0]) h5 h6 (by simp)
 obtain⟨far,rfl,f0,f1⟩:∃ n:Int,d3=.int n/\0<=n/\n<=1000:=by
  simp only [apK,aqD,or_false] at m3
  rcases m3 with rfl | rfl | rfl | rfl | rfl | rfl | rfl <;> exact⟨_,rfl,by decide,by decide⟩
 refine⟨_,e3,?_⟩
 walk_at "w"
 refine zr 4 ?_
 walk_at "w"
 rintro r ⟨i4,rfl,h7,h8⟩
 refine⟨_,rfl,?_⟩
 obtain⟨d4,e4,m4⟩:=menu (ds:=[.int 0,.int (0 - 3),.int (10 ^ asJ 9 - 999),.int (0 - 10 ^ asJ 9)]) h7 h8 (by simp)
 obtain⟨bs,rfl,b0,b1⟩:∃ n:Int,d4=.int n/\-1000000000<=n/\n<=999999001:=by
  simp only [apK,aqD,or_false] at m4
  rcases m4 with rfl | rfl | rfl | rfl <;> exact⟨_,rfl,by decide,by decide⟩
 refine⟨_,e4,?_⟩
 walk_at "w"
 refine aec ?_
 walk_at "w"
 refine⟨fun _ e=>∃ r:List Int,e=.list (r.map .int)/\r.length=(2+i1).toNat/\∀ n∈r,-1000000000<=n/\n<=1000000000,fun D i hi=>?_,fun es hes hR=>?_⟩
 ·refine aec ?_
  walk_at "w"
  refine⟨fun _ e=>∃ n:Int,e=.int n/\-1000000000<=n/\n<=1000000000,fun D' i' hi'=>?_,fun es hes hR=>?_⟩
  ·refine zr (far,bs) ?_
   walk_at "w"
   rintro r ⟨n,rfl,n0,n1⟩
   exact⟨n,rfl,n0,n1⟩
  ·obtain⟨ns,rfl,hs⟩:=ahd (p:=fun n=>-1000000000<=n/\n<=1000000000) hR
   exact⟨ns,rfl,by rw [apC] at hes;exact hes,hs⟩
 ·obtain⟨rows,rfl,hs⟩:=ahe (p:=fun r=>r.length=(2+i1).toNat/\∀ n∈r,-1000000000<=n/\n<=1000000000) hR
  rw [apC] at hes
  exact⟨(2+i1).toNat,rows,rfl,by omega,by omega,by omega,by omega,fun r hr=>(hs r hr).1,fun r hr=>(hs r hr).2⟩
local macro_rules | `(tactic| walk_at "dl")=>`(tactic| first
 | (with_reducible show PSd _ _ (qc _ (acG (yp _) (tC (V.int 0)) aax)) _ _;refine agy rfl ?_)
 | (with_reducible show PSd _ _ (qc _ (acG (yp _) (tC (V.int 1)) aax)) _ _;refine agz rfl ?_)
 | with_reducible refine z6 ?_ | with_reducible refine acW ?_ | with_reducible refine yL ?_ | with_reducible refine zS ?_ | with_reducible refine abf ?_ | with_reducible refine qO ?_
 | with_reducible refine zj ?_ | with_reducible refine jG rfl ?_ | with_reducible refine zC ?_ | with_reducible refine yG ?_
 | with_reducible refine yC ?_ | with_reducible refine t_b ?_ | with_reducible refine agw ?_ | with_reducible refine ai8 ?_ | with_reducible refine qU ?_ | with_reducible refine yW ?_
 | with_reducible refine acV ?_ | with_reducible refine ad9 ?_ | with_reducible refine ad8 ?_ | with_reducible refine ai7 ?_ | with_reducible refine jF ?_
 | with_reducible refine ahR ?_ | with_reducible refine afA ?_ | with_reducible refine ai9 ?_ | with_reducible refine aja ?_
 | with_reducible refine yy ?_ | with_reducible refine ai5 ?_ | with_reducible refine qj ?_ | with_reducible refine ai6 ?_
 | (with_reducible show PEd _ _ (yp _) _ _;refine zq rfl ?_)
 | (with_reducible show PEd _ _ (tOp (ad0 _) (yp _) _) _ _;refine amA rfl ?_)
 | with_reducible refine aaA ?_ | with_reducible refine aaB ?_
 | (with_reducible show PAd _ _ (zQ (yp _) _) _ _;refine acU rfl ?_)
 | with_reducible refine zJ ?_ | with_reducible refine yu ?_
 | with_reducible refine d_catT ?_ | with_reducible refine ajq ?_ | with_reducible refine agA ?_ | with_reducible refine agB ?_ | with_reducible refine d_int1 ?_ | with_reducible refine acX ?_ | with_reducible refine y6 ?_
 | with_reducible refine abe ?_ | with_reducible refine aea ?_ | with_reducible refine amB ?_ | with_reducible refine ajb ?_ | with_reducible refine ajc ?_ | with_reducible refine ajd ?_ | with_reducible refine afB ?_
 | (with_reducible show (∃ _,_) \/ (∃ _,_);first | refine Or.inl ⟨_,rfl,?_⟩ | refine Or.inr ⟨_,rfl,?_⟩) | refine⟨_,rfl,?_⟩ | refine⟨_,_,rfl,?_⟩
 | (with_reducible show (_=_/\∀ _,_) \/ _;first | refine Or.inl ⟨rfl,fun a ha=>?_⟩ | refine Or.inr ⟨rfl,fun b hb hb'=>?_⟩)
 | (with_reducible show PyData.canLay0 _=true/\_;refine And.intro (by first | rfl | assumption | decide +kernel) ?_)
 | (with_reducible show min _ _<=60/\_;refine And.intro (by first | assumption | (simp [aua,apP];done)) ?_)
 | refine⟨rfl,?_⟩
 | (refine And.intro ?side ?_;(case side=>first | omega | exact Int.ediv_nonneg (by omega) (by omega) | exact asy _ (by omega) | exact ark _ (by omega) | decide | exact⟨by decide,by decide,by decide⟩ | exact⟨by omega,by omega⟩ | exact Or.inl ⟨by omega,by omega⟩ | exact Or.inr ⟨by omega,by omega⟩ | (refine ap1 (ars (by rfl)) (show _<=1000 by decide)) | ((repeat' apply And.intro) <;> first | rfl | omega | decide | assumption) | (simp [aua]))))
theorem j8 {b:Bool} {p q:Prop} (h1:b=true->p) (h2:b=false->q):if b=true then p else q:=by
 cases b with
 | true=>rw [if_pos rfl];exact h1 rfl
 | false=>rw [if_neg apB];exact h2 rfl
noncomputable def yt (rows:List (List Int)) (wd:Nat) (x y:Int):Bool:=decide (0<=x/\x<wd) && decide (0<=y/\y<rows.length)
noncomputable def yN (rows:List (List Int)) (x y:Int):Int:=(rows.getD y.toNat []).getD x.toNat 0
theorem aar {rows:List (List Int)} {wd:Nat} {x y:Int} (h:yt rows wd x y=true):0<=x/\x<wd/\0<=y/\y<rows.length:=by
 unfold yt at h
 rw [apO] at h
 have h1:=of_decide_eq_true h.1
 have h2:=of_decide_eq_true h.2
 omega
noncomputable def j9 (x y w:Int):PyData:=.tuple [.int x,.int y,.int w]
noncomputable def px (x:Int) (w:Int):Int:=if w=0 then x+1 else x
noncomputable def py (y:Int) (w:Int):Int:=if w=0 then y else y+1
noncomputable def vL (rows:List (List Int)) (wd:Nat) (x y w:Int):Bool:=decide (w=0 \/ w=1) && (yt rows wd x y && yt rows wd (px x w) (py y w))
noncomputable def yO (rows:List (List Int)) (wd:Nat) (cut x y w:Int):Bool:=vL rows wd x y w && (decide (cut<yN rows x y) != decide (cut<yN rows (px x w) (py y w)))
noncomputable def aco (rows:List (List Int)) (cut x y w:Int):Str:=if w=0 then (if cut<yN rows x y then "up" else "down") else (if cut<yN rows x y then "right" else "left")
theorem adF (a b:Int):aqc (.int a) (.int b)=decide (a=b):=rfl
theorem aeX (a b:Bool):aqc (.bool a) (.bool b)=(a == b):=rfl
noncomputable abbrev akk (K:apD):Sp:=spD K 1 (fun (c:List (List Int)×Nat) xs=>xs=[.dat (tab c.1)]/\Good c.2 c.1) fun c r=>r=.tuple [.int c.2,.int c.1.length]
noncomputable abbrev akl (K:apD):Sp:=spD K 3 (fun (c:List (List Int)×Nat×Int×Int) xs=>xs=[.dat (tab c.1),.dat (.int c.2.2.1),.dat (.int c.2.2.2)]/\Good c.2.1 c.1) fun c r=>r=.bool (yt c.1 c.2.1 c.2.2.1 c.2.2.2)
theorem aol (F:Def K mg "has_point" jT pz) (uaI:FnIn P w K mg base k "size" pf (akk K)):FnIn P w K mg base (k+1) "has_point" pz (akl K):=by
 refine F.ok sc_has_point rfl fun fa cdv A outer s H E hr=>⟨_,(zc (yB (ze uaI hr rfl (za (pv 0) zb)) (yf (K:=K) (n:=2) rfl rfl (zt (zk (i:=3) sc_has_point.nd rfl (Or.inl rfl) (Or.inr rfl)) (zt (zk (i:=4) sc_has_point.nd rfl (Or.inl rfl) (Or.inr rfl)) zZ)))) (zg (zw (acE (aa8 aaw aiV zd (pv 1) (pv 3)) (acD (aa8 aaw aiV zd (pv 2) (pv 4))))))),?_⟩
 rintro f xs ⟨rows,wd,x,y⟩ hl ⟨rfl,g⟩
 try dsimp only [zH,zi]
 dsimp only at *
 refine z6 (zS (zr (rows,wd) ?_))
 walk_at "w"
 rintro _ rfl
 walk_at "w"
 have fin:∀ b:Bool,b=yt rows wd x y->PyData.bool b=PyData.bool (yt rows wd x y):=fun b h=>by rw [h]
 refine j8 (fun h1=>?_) fun h1=>?_
 ·have h1':=of_decide_eq_true h1
  walk_at "w"
  refine j8 (fun h2=>?_) fun h2=>?_
  ·have h2':=of_decide_eq_true h2
   walk_at "w"
   refine j8 (fun h3=>?_) fun h3=>?_
   ·have h3':=of_decide_eq_true h3
    walk_at "w"
    refine fin _ ?_
    unfold yt
    dsimp only at h2' ⊢
    rw [decide_eq_true (p:=(0<=x/\x<(wd:Int))) (by omega),aqW]
    exact decide_eq_decide.mpr (by omega)
   ·have h3':=of_decide_eq_false h3
    refine fin _ ?_
    unfold yt
    rw [decide_eq_false (p:=(0<=y/\y<(rows.length:Int))) (by omega),arT]
  ·have h2':=of_decide_eq_false h2
   refine fin _ ?_
   unfold yt
   dsimp only at h2'
   rw [decide_eq_false (p:=(0<=x/\x<(wd:Int))) (by omega),arj]
 ·have h1':=of_decide_eq_false h1
  refine⟨_,rfl,?_⟩
  rw [if_neg apB]
  refine fin _ ?_
  unfold yt
  rw [decide_eq_false (p:=(0<=x/\x<(wd:Int))) (by omega),arj]
noncomputable abbrev adG (K:apD):Sp:=spD K 3 (fun (c:List (List Int)×Nat×Int×Int×Int) xs=>xs=[.dat (tab c.1),.dat (.int c.2.2.1),.dat (.tuple [.int c.2.2.2.1,.int c.2.2.2.2])]/\Good c.2.1 c.1/\yt c.1 c.2.1 c.2.2.2.1 c.2.2.2.2=true) fun c r=>r=.bool (decide (c.2.2.1<yN c.1 c.2.2.2.1 c.2.2.2.2))
theorem aeY {rows:List (List Int)} {wd:Nat} {x y:Int} (g:Good wd rows) (h:yt rows wd x y=true):∃ r:List Int,atI (rows.map fun q=>PyData.list (q.map .int)) y=some (.list (r.map .int))/\atI (r.map PyData.int) x=some (.int (yN rows x y)):=by
 obtain⟨x0,x1,y0,y1⟩:=aar h
 have hy:y.toNat<rows.length:=by omega
 have hr:=g.row _ (aqf hy)
 have hx:x.toNat<rows[y.toNat].length:=by omega
 refine⟨rows[y.toNat],qJ (F:=fun q:List Int=>PyData.list (q.map .int)) (by omega) hy,?_⟩
 rw [qJ (j:=x.toNat) (by omega) hx]
 unfold yN
 rw [apF,apF,apA hy,Option.getD_some,apA hx]
 rfl
theorem alZ (F:Def K mg "stands_high" jj pI):FnIn P w K mg base (k+1) "stands_high" pI (adG K):=by
 refine F.ok sc_stands_high rfl fun fa cdv A outer s H E hr=>⟨_,(zc (yB (pv 2) (yf (K:=K) (n:=2) rfl rfl (zt (zk (i:=3) sc_stands_high.nd rfl (Or.inl rfl) (Or.inr rfl)) (zt (zk (i:=4) sc_stands_high.nd rfl (Or.inl rfl) (Or.inr rfl)) zZ)))) (zg (zw (ju adW (zM (zB (K:=K) rfl) (zM (zB (K:=K) rfl) (pv 0) (pv 4) (fun _ _=>rfl)) (pv 3) (fun _ _=>rfl)) (pv 1) (zP _))))),?_⟩
 rintro f xs ⟨rows,wd,cut,x,y⟩ hl ⟨rfl,g,hi⟩
 try dsimp only [zH,zi]
 dsimp only at *
 obtain⟨r,h1,h2⟩:=aeY g hi
 unfold tab
 walk_at "w"
 refine⟨_,h1,?_⟩
 walk_at "w"
 refine⟨_,h2,?_⟩
 walk_at "w"
 rfl
noncomputable abbrev akm (K:apD):Sp:=spD K 1 (fun (c:Int×Int×Int) xs=>xs=[.dat (j9 c.1 c.2.1 c.2.2)]) fun c r=>r=.list [.tuple [.int c.1,.int c.2.1],.tuple [.int (px c.1 c.2.2),.int (py c.2.1 c.2.2)]]
theorem aom (F:Def K mg "gate_points" jl pq):FnIn P w K mg base (k+1) "gate_points" pq (akm K):=by
 refine F.ok sc_gate_points rfl fun fa cdv A outer s H E hr=>⟨_,(zc (yB (pv 0) (yf (K:=K) (n:=3) rfl rfl (zt (zk (i:=1) sc_gate_points.nd rfl (Or.inl rfl) (Or.inr rfl)) (zt (zk (i:=2) sc_gate_points.nd rfl (Or.inl rfl) (Or.inr rfl)) (zt (zk (i:=3) sc_gate_points.nd rfl (Or.inl rfl) (Or.inr rfl)) zZ))))) (zc (yq (zN (aah (K:=K) rfl hr.units) (pv 3) zd (zP _)) (zg (zw (yg (za (zR (za (pv 1) (za (pv 2) zb))) (za (zR (za (zx z7 (pv 1) zd) (za (pv 2) zb))) zb))))) zK) (zg (zw (yg (za (zR (za (pv 1) (za (pv 2) zb))) (za (zR (za (pv 1) (za (zx z7 (pv 2) zd) zb))) zb))))))),?_⟩
 rintro f xs ⟨x,y,w⟩ hl rfl
 try dsimp only [zH,zi]
 dsimp only at *
 unfold j9
 walk_at "w"
 rw [if_neg apB,adF]
 refine j8 (fun h=>?_) fun h=>?_
 ·have h':=of_decide_eq_true h
  walk_at "w"
  unfold px py
  rw [if_pos h',if_pos h']
 ·have h':=of_decide_eq_false h
  walk_at "w"
  unfold px py
  rw [if_neg h',if_neg h']
noncomputable abbrev akn (K:apD):Sp:=spD K 2 (fun (c:List (List Int)×Nat×Int×Int×Int) xs=>xs=[.dat (tab c.1),.dat (j9 c.2.2.1 c.2.2.2.1 c.2.2.2.2)]/\Good c.2.1 c.1) fun c r=>r=.bool (vL c.1 c.2.1 c.2.2.1 c.2.2.2.1 c.2.2.2.2)
theorem al0 (F:Def K mg "has_gate" qC pK) (uaf:mg "all"=none) (uaG:FnIn P w K mg base k "has_point" pz (akl K)) (uaJ:FnIn P w K mg base k "gate_points" pq (akm K)):FnIn P w K mg base (k+1) "has_gate" pK (akn K):=by
 refine F.ok aeQ rfl fun fa cdv A outer s H E hr=>⟨_,(zc (yq (zN (ahZ (K:=K) rfl) (zM (yX (K:=K) rfl) (pv 1) zd (fun _ _=>rfl)) (zR (za zd (za zd zb))) rfl) (zg (zw qg)) zK) (zg (zw (zy (vk (K:=K) rfl rfl) rfl uaf arM (za (yc (N:=["x","y","rows"]) (own:=2) (fr:=[0]) ⟨rfl,by decide +kernel,of_decide_eq_true (by kernel_rfl),of_decide_eq_true (by kernel_rfl),of_decide_eq_true (by kernel_rfl),rfl⟩ rfl (zX (K:=K) rfl (ze uaJ hr rfl (za (pv 1) zb))) (fun _ _ _ _=>(yf (K:=K) (n:=2) rfl rfl (zt (zk (i:=0) (show (["x","y","rows"]:List Str).Nodup by decide +kernel) rfl (Or.inl rfl) (Or.inr rfl)) (zt (zk (i:=1) (show (["x","y","rows"]:List Str).Nodup by decide +kernel) rfl (Or.inl rfl) (Or.inr rfl)) zZ)))) (fun _ _ _ _=>z8) (fun _ _ _ _=>(ze uaG hr rfl (za (pv 2) (za (pv 0) (za (pv 1) zb))))) rfl rfl (fun _=>rfl)) zb))))),?_⟩
 rintro f xs ⟨rows,wd,x,y,w⟩ hl ⟨rfl,g⟩
 try dsimp only [zH,zi]
 dsimp only at *
 refine z6 (acW (yC (ajt ?_)))
 unfold j9
 walk_at "w"
 refine⟨[0,1],rfl,_,rfl,?_⟩
 have hc:(([0,1]:List Int).contains w)=decide (w=0 \/ w=1):=by
  rw [ar4]
  simp
 rw [hc]
 by_cases h:w=0 \/ w=1
 ·rw [decide_eq_true h,aqd,if_neg apB]
  refine qO (yL (agC (PEdO.ped (qP (A:=fun p:Int×Int=>PyData.tuple [.int p.1,.int p.2]) (B:=fun p:Int×Int=>PyData.bool (yt rows wd p.1 p.2)) [(x,y),(px x w,py y w)] (yM (zr (x,y,w) ?_))))))
  walk_at "w"
  rintro _ rfl
  refine⟨_,rfl,rfl,show 2<=1000 by decide,?_,?_⟩
  ·rintro D p ρ' es hp ho hes
   obtain⟨u,v,rfl⟩:=ho.two
   refine jG rfl (zC (zj (zC (zj (yG (y6 ?_))))))
   rw [if_pos rfl]
   refine yD hes (zr (rows,wd,p.1,p.2) ?_)
   walk_at "w"
   rintro _ rfl
   exact⟨.mk2,rfl⟩
  ·refine⟨[yt rows wd x y,yt rows wd (px x w) (py y w)],rfl,?_⟩
   show PyData.bool _=PyData.bool _
   unfold vL
   rw [decide_eq_true h,aqW]
   show PyData.bool (yt rows wd x y && (yt rows wd (px x w) (py y w) && true))=_
   rw [at7]
 ·rw [decide_eq_false h,aq6,if_pos rfl]
  walk_at "w"
  unfold vL
  rw [decide_eq_false h]
  rfl
noncomputable abbrev adH (K:apD):Sp:=spD K 3 (fun (c:List (List Int)×Nat×Int×Int×Int×Int) xs=>xs=[.dat (tab c.1),.dat (.int c.2.2.1),.dat (j9 c.2.2.2.1 c.2.2.2.2.1 c.2.2.2.2.2)]/\Good c.2.1 c.1) fun c r=>r=.bool (yO c.1 c.2.1 c.2.2.1 c.2.2.2.1 c.2.2.2.2.1 c.2.2.2.2.2)
theorem ako {rows:List (List Int)} {wd:Nat} {x y w:Int} (h:vL rows wd x y w=true):yt rows wd x y=true/\yt rows wd (px x w) (py y w)=true:=by
 unfold vL at h
 rw [apO,apO] at h
 exact h.2
theorem al1 (F:Def K mg "is_open" vn ph) (ubv:FnIn P w K mg base k "has_gate" pK (akn K)) (uaJ:FnIn P w K mg base k "gate_points" pq (akm K)) (uam:FnIn P w K mg base k "stands_high" pI (adG K)):FnIn P w K mg base (k+1) "is_open" ph (adH K):=by
 refine F.ok sc_is_open rfl fun fa cdv A outer s H E hr=>⟨_,(zc (yq (jC (z5 (K:=K) rfl (ze ubv hr rfl (za (pv 0) (za (pv 2) zb))) (fun _=>rfl))) (zg (zw qg)) zK) (zc (yB (ze uaJ hr rfl (za (pv 2) zb)) (agD (K:=K) (n:=2) rfl rfl (zt (zk (i:=3) sc_is_open.nd rfl (Or.inl rfl) (Or.inr rfl)) (zt (zk (i:=4) sc_is_open.nd rfl (Or.inl rfl) (Or.inr rfl)) zZ)))) (zg (zw (ju (jH (K:=K) rfl hr.units) (ze uam hr rfl (za (pv 0) (za (pv 1) (za (pv 3) zb)))) (ze uam hr rfl (za (pv 0) (za (pv 1) (za (pv 4) zb)))) (zP _)))))),?_⟩
 rintro f xs ⟨rows,wd,cut,x,y,w⟩ hl ⟨rfl,g⟩
 try dsimp only [zH,zi]
 dsimp only at *
 refine z6 (acW (qU (yW (zr (rows,wd,x,y,w) ?_))))
 walk_at "w"
 rintro _ rfl
 refine⟨_,rfl,?_⟩
 dsimp only
 cases h:vL rows wd x y w with
 | false =>
  rw [aq6,if_pos rfl]
  walk_at "w"
  unfold yO
  rw [h]
  rfl
 | true =>
  rw [aqd,if_neg apB]
  obtain⟨i1,i2⟩:=ako h
  refine qO (z6 (zS (zr (x,y,w) ?_)))
  walk_at "w"
  rintro _ rfl
  dsimp only
  refine amC rfl (zC (zj (zC (zj (yG ?_)))))
  refine yL (jF (zr (rows,wd,cut,x,y) ?_))
  walk_at "w"
  rintro _ rfl
  refine zr (rows,wd,cut,px x w,py y w) ?_
  walk_at "w"
  rintro _ rfl
  dsimp only
  walk_at "w"
  show PyData.bool _=PyData.bool _
  unfold yO
  rw [h,aqW,if_pos rfl,aeX]
  rfl
theorem qq {n i:Nat} {d:PyData} (h:(qV n)[i]?=some d):i<n/\d=.int (i:Int):=by
 unfold qV at h
 rw [apM] at h
 by_cases hi:i<n
 ·rw [ary hi] at h
  cases h
  exact⟨hi,rfl⟩
 ·rw [ap7 (by rw [aqY];omega)] at h
  cases h
theorem qr (n:Nat):(qV n).length=n:=by unfold qV;simp
noncomputable def al3 (x y:Nat):PyData:=.tuple [.int x,.int y]
noncomputable def va (t n:Nat):List PyData:=(ap0 n).flatMap fun x=>(ap0 t).map (al3 x)
theorem aeZ (t n:Nat):va t (n+1)=va t n++(ap0 t).map (al3 n):=by
 unfold va
 rw [asB,aq0]
 simp
theorem ahf (t:Nat):∀ n,(va t n).length=t * n
 | 0=>rfl
 | n+1=>by rw [aeZ,apX,ahf t n,apC,aqY,Nat.mul_succ]
noncomputable abbrev ae0 (K:apD):Sp:=spD K 1 (fun (c:List (List Int)×Nat) xs=>xs=[.dat (tab c.1)]/\Good c.2 c.1) fun c r=>r=.list (va c.1.length c.2)
theorem aiy (F:Def K mg "points" v8 pf) (uad:mg "range"=none) (uaI:FnIn P w K mg base k "size" pf (akk K)):FnIn P w K mg base (k+1) "points" pf (ae0 K):=by
 refine F.ok sc_points rfl fun fa cdv A outer s H E hr=>⟨_,(zc (yB (ze uaI hr rfl (za (pv 0) zb)) (yf (K:=K) (n:=2) rfl rfl (zt (zk (i:=1) sc_points.nd rfl (Or.inl rfl) (Or.inr rfl)) (zt (zk (i:=2) sc_points.nd rfl (Or.inr rfl) (Or.inl rfl)) zZ)))) (zg (zw (ai2 (N:=["x","y","tall"]) (own:=2) (fr:=[2]) ⟨rfl,by decide +kernel,of_decide_eq_true (by kernel_rfl),of_decide_eq_true (by kernel_rfl),of_decide_eq_true (by kernel_rfl),rfl⟩ rfl (yS rfl uad (za (pv 1) zb)) (fun _ _ _ _=>(zk (i:=0) (show (["x","y","tall"]:List Str).Nodup by decide +kernel) rfl (Or.inl rfl) (Or.inr rfl))) (fun _ _ _ _=>z8) (fun _ _ _ _=>(yS rfl uad (za (pv 2) zb))) (fun _ _ _ _=>(zk (i:=1) (show (["x","y","tall"]:List Str).Nodup by decide +kernel) rfl (Or.inl rfl) (Or.inr rfl))) (fun _ _ _ _=>z8) (fun _ _ _ _=>(zR (za (pv 0) (za (pv 1) zb)))) rfl rfl (fun _=>rfl) (fun _ _ _ _ _=>rfl))))),?_⟩
 rintro f xs ⟨rows,wd⟩ hl ⟨rfl,g⟩
 try dsimp only [zH,zi]
 dsimp only at *
 have g2:=g.h2
 have w2:=g.w2
 refine z6 (zS (zr (rows,wd) ?_))
 walk_at "w"
 rintro _ rfl
 refine jG rfl (zC (zj (zC (zj (yG ?_)))))
 refine yL (PEdO.ped (aai (vj (zJ (zq rfl (yu ⟨_,rfl,by dsimp only;omega,by dsimp only;omega,fun n ρ es=>(∃ u v,ρ=[u,v,some (.dat (.int rows.length))])/\es=va rows.length n,⟨⟨_,_,rfl⟩,rfl⟩,?_,?_⟩))))))
 ·rintro D n d ρ' es hd ⟨⟨u,v,rfl⟩,rfl⟩
  obtain⟨hn,rfl⟩:=qq hd
  have hn':n<wd:=by have:n<((wd:Int)).toNat:=hn;omega
  have l1:rows.length * n<=7 * 7:=atQ g2 (by omega)
  refine zj (y6 ?_)
  rw [if_pos rfl]
  refine aoN (vj (zJ (zq rfl (yu ⟨_,rfl,by omega,by omega,fun m ρ es=>(∃ v,ρ=[some (.dat (.int n)),v,some (.dat (.int rows.length))])/\es=va rows.length n++(ap0 m).map (al3 n),⟨⟨_,rfl⟩,by simp⟩,?_,?_⟩))))
  ·rintro m d ρ2 es2 hd2 ⟨⟨v,rfl⟩,rfl⟩
   obtain⟨hm,rfl⟩:=qq hd2
   have hm':m<rows.length:=by have:m<((rows.length:Int)).toNat:=hm;omega
   refine zj (y6 ?_)
   rw [if_pos rfl]
   refine yD (by rw [apX,ahf,apC,aqY];omega) ?_
   walk_at "w"
   rw [asB,ap6,aqI]
   rfl
  ·rintro ρ2 es2 ⟨⟨v,rfl⟩,rfl⟩
   rw [qr,arv]
   exact⟨⟨_,_,rfl⟩,by rw [aeZ]⟩
 ·rintro ρ' es ⟨_,rfl⟩
  rw [qr,arv]
noncomputable def F2:PyData->List PyData
 | .tuple [.int x,.int y]=>[j9 x y 0,j9 x y 1]
 | _=>[]
noncomputable def gD3 (g:Int×Int×Int):PyData:=j9 g.1 g.2.1 g.2.2
noncomputable def opG (rows:List (List Int)) (wd:Nat) (cut:Int) (g:Int×Int×Int):Bool:=yO rows wd cut g.1 g.2.1 g.2.2
noncomputable def yH (t n:Nat):List (Int×Int×Int):=(ap0 n).flatMap fun (x:Nat)=>(ap0 t).flatMap fun (y:Nat)=>[((x:Int),(y:Int),(0:Int)),((x:Int),(y:Int),(1:Int))]
theorem ae1 (t n:Nat):(va t n).flatMap F2=(yH t n).map gD3:=by
 unfold va yH
 rw [List.flatMap_assoc,List.map_flatMap]
 congr 1
 funext x
 rw [List.flatMap_map,List.map_flatMap]
 rfl
theorem al4 {t n:Nat} {d:PyData} (h:d∈va t n):∃ x y:Nat,d=al3 x y:=by
 obtain⟨x,_,h⟩:=aqo.mp h
 obtain⟨y,_,rfl⟩:=ap3.mp h
 exact⟨x,y,rfl⟩
theorem abz {α:Type} {F:Nat->List α} {b:Nat} (h:∀ n,(F n).length<=b):∀ n,((ap0 n).flatMap F).length<=b * n
 | 0=>by simp
 | n+1=>by
  rw [asB,aq0,apX]
  have:=abz h n
  have:=h n
  simp only [List.flatMap_cons,List.flatMap_nil,aqe]
  rw [Nat.mul_succ]
  omega
theorem acp {t n:Nat} (ht:t<=7) (hn:n<=7):(yH t n).length<=98:=by
 have h:=abz (F:=fun (x:Nat)=>(ap0 t).flatMap fun (y:Nat)=>[((x:Int),(y:Int),(0:Int)),((x:Int),(y:Int),(1:Int))]) (b:=2 * t) (fun x=>abz (F:=fun (y:Nat)=>[((x:Int),(y:Int),(0:Int)),((x:Int),(y:Int),(1:Int))]) (b:=2) (fun y=>apI 2) t) n
 exact ap1 h (atQ (show 2 * t<=14 by omega) hn)
noncomputable def aon (rows:List (List Int)) (wd:Nat) (cut:Int) (x y:Nat):List (Int×Int×Int):=(if yO rows wd cut x y 0=true then [((x:Int),(y:Int),(0:Int))] else [])++if yO rows wd cut x y 1=true then [((x:Int),(y:Int),(1:Int))] else []
noncomputable def yh (rows:List (List Int)) (wd:Nat) (cut:Int):List (Int×Int×Int):=(ap0 wd).flatMap fun x=>(ap0 rows.length).flatMap fun y=>aon rows wd cut x y
theorem aiz {α:Type} {F:Nat->List α} (n:Nat):(ap0 (n+1)).flatMap F=(ap0 n).flatMap F++F n:=by
 rw [asB,aq0]
 simp
theorem al5 (rows:List (List Int)) (wd:Nat) (cut:Int) (x y:Nat):aon rows wd cut x y=[((x:Int),(y:Int),(0:Int)),((x:Int),(y:Int),(1:Int))].filter (opG rows wd cut):=by
 unfold aon opG
 simp only [aqV,atv]
 cases yO rows wd cut x y 0 <;> cases yO rows wd cut x y 1 <;> rfl
theorem qt (rows:List (List Int)) (wd:Nat) (cut:Int):yh rows wd cut=(yH rows.length wd).filter (opG rows wd cut):=by
 unfold yh yH
 rw [at3]
 congr 1
 funext x
 rw [at3]
 congr 1
 funext y
 exact al5 rows wd cut x y
noncomputable def gLt (a b:Int×Int×Int):Prop:=a.1<b.1 \/ (a.1=b.1/\(a.2.1<b.2.1 \/ (a.2.1=b.2.1/\a.2.2<b.2.2)))
theorem ahg {α:Type} {R:α->α->Prop} {F:Nat->List α} (n:Nat) (h1:∀ i,i<n->(F i).Pairwise R) (h2:∀ i j,i<j->j<n->∀ a∈F i,∀ b∈F j,R a b):((ap0 n).flatMap F).Pairwise R:=by
 induction n with
 | zero=>simp
 | succ n ih =>
  rw [aiz,List.pairwise_append]
  refine⟨ih (fun i hi=>h1 i (by omega)) (fun i j hij hj=>h2 i j hij (by omega)),h1 n (by omega),fun a ha b hb=>?_⟩
  obtain⟨i,hi,ha⟩:=aqo.mp ha
  exact h2 i n (aqa.mp hi) (by omega) a ha b hb
theorem ae2 (t n:Nat):(yH t n).Pairwise gLt:=by
 unfold yH
 refine ahg n (fun x _=>ahg t (fun y _=>?_) fun y y' hy _ a ha b hb=>?_) fun x x' hx _ a ha b hb=>?_
 ·simp [gLt]
 ·simp only [apK,aqD,or_false] at ha hb
  rcases ha with rfl | rfl <;> rcases hb with rfl | rfl <;> (unfold gLt;dsimp only;omega)
 ·obtain⟨y,_,ha⟩:=aqo.mp ha
  obtain⟨y',_,hb⟩:=aqo.mp hb
  simp only [apK,aqD,or_false] at ha hb
  rcases ha with rfl | rfl <;> rcases hb with rfl | rfl <;> (unfold gLt;dsimp only;omega)
theorem acq {rows:List (List Int)} {wd:Nat} {cut:Int} (g:Good wd rows):(yh rows wd cut).length<=98:=by
 rw [qt]
 exact ap1 (arn _ _) (acp g.h2 g.w2)
theorem al6 (rows:List (List Int)):(tab rows).canLay0=true/\(tab rows).depth<=60:=by
 have intz:∀ r:List Int,aqN (r.map .int)=true/\apP (r.map .int)=0:=fun r=>by
  induction r with
  | nil=>exact⟨rfl,rfl⟩
  | cons n r ih=>exact⟨ih.1,by show max 0 (apP (r.map .int))=0;rw [ih.2];rfl⟩
 have all:aqN (rows.map fun r=>PyData.list (r.map .int))=true/\apP (rows.map fun r=>PyData.list (r.map .int))<=1:=by
  induction rows with
  | nil=>exact⟨rfl,ap9 _⟩
  | cons r rows ih =>
   refine⟨?_,?_⟩
   ·show (aqN (r.map .int) && aqN (rows.map fun r=>PyData.list (r.map .int)))=true
    rw [(intz r).1,ih.1]
    rfl
   ·show max (apP (r.map .int)+1) (apP (rows.map fun r=>PyData.list (r.map .int)))<=1
    rw [(intz r).2]
    exact Nat.max_le.mpr ⟨apI _,ih.2⟩
 exact⟨all.1,ap1 (Nat.succ_le_succ all.2) (by decide)⟩
noncomputable abbrev ahh (K:apD):Sp:=spN K 2 (fun (c:List (List Int)×Nat×Int) xs=>xs=[.dat (tab c.1),.dat (.int c.2.2)]/\Good c.2.1 c.1) fun c es=>es=((yH c.1.length c.2.1).filter (opG c.1 c.2.1 c.2.2)).map gD3
theorem akp (F:Def K mg "gates" aaZ pA) (uaj:FnIn P w K mg base k "ask_table" pf (aeV K)) (ubw:FnIn P w K mg base k "points" pf (ae0 K)) (uaw:FnIn P w K mg base k "is_open" ph (adH K)):FnIn P w K mg base (k+1) "gates" pA (ahh K):=by
 refine F.okN sc_gates rfl fun fa cdv A outer s H E hr=>⟨_,(zc (yE (ze uaj hr rfl (za (pv 0) zb))) (zc (ad7 (i:=2) (N:=pS) (own:=3) (fr:=[]) ⟨rfl,by decide +kernel,of_decide_eq_true (by kernel_rfl),of_decide_eq_true (by kernel_rfl),of_decide_eq_true (by kernel_rfl),rfl⟩ rfl sc_gates.nd rfl (Or.inl rfl) (zX (K:=K) rfl (ze ubw hr rfl (za (pv 0) zb))) (fun _ _ _ _=>(yf (K:=K) (n:=2) rfl rfl (zt (zk (i:=0) (show (pS:List Str).Nodup by decide +kernel) rfl (Or.inl rfl) (Or.inr rfl)) (zt (zk (i:=1) (show (pS:List Str).Nodup by decide +kernel) rfl (Or.inl rfl) (Or.inr rfl)) zZ)))) (fun _ _ _ _=>z8) (fun _ _ _ _=>(vP (K:=K) rfl (zR (za zd (za zd zb))))) (fun _ _ _ _=>(zk (i:=2) (show (pS:List Str).Nodup by decide +kernel) rfl (Or.inl rfl) (Or.inr rfl))) (fun _ _ _ _=>z8) (fun _ _ _ _=>(zR (za (pv 0) (za (pv 1) (za (pv 2) zb))))) rfl rfl (fun _=>rfl) (fun _ _ _ _ _=>rfl) (Or.inl rfl) rfl) (zg (zw (yc (N:=pG) (own:=1) (fr:=[0,1]) ⟨rfl,by decide +kernel,of_decide_eq_true (by kernel_rfl),of_decide_eq_true (by kernel_rfl),of_decide_eq_true (by kernel_rfl),rfl⟩ rfl (zX (K:=K) rfl (pv 2)) (fun _ _ _ _=>(zk (i:=0) (show (pG:List Str).Nodup by decide +kernel) rfl (Or.inl rfl) (Or.inr rfl))) (fun _ _ _ _=>(acR (z5 (K:=K) rfl (ze uaw hr rfl (za (pv 1) (za (pv 2) (za (pv 0) zb)))) (fun _=>rfl)))) (fun _ _ _ _=>(pv 0)) rfl rfl (fun _=>rfl)))))),?_⟩
 rintro f xs ⟨rows,wd,cut⟩ hl ⟨rfl,g⟩
 try dsimp only [zH,zi]
 dsimp only at *
 have sl:=acp g.h2 g.w2
 refine abm (abf (zr (rows,wd) ?_))
 walk_at "w"
 rintro _ rfl
 refine abm (zS (PEdO.ped (ank (yM (zr (rows,wd) ?_)))))
 walk_at "w"
 rintro _ rfl
 refine⟨_,rfl,F2,by rw [ae1,apC];exact ap1 sl (by decide),?_,?_⟩
 ·rintro D d ρ' es hd ho hes
  obtain⟨x,y,rfl⟩:=al4 hd
  obtain⟨us,hus,rfl⟩:=ho
  match us,hus with
  | [u1,u2,u3],_ =>
   refine jG rfl (zC (zj (zC (zj (yG (y6 ?_))))))
   rw [if_pos rfl]
   have hes':es.length+2<=1000:=hes
   refine aoN (aee (abe (zJ (yy (zJ (yy (yu ⟨_,rfl,by simp,_,rfl,fun m ρ es2=>(∃ v,ρ=[some (.dat (.int x)),some (.dat (.int y)),v])/\es2=es++[j9 x y 0,j9 x y 1].take m,⟨⟨_,rfl⟩,by simp⟩,?_,?_⟩)))))))
   ·rintro m d ρ2 es2 hd2 ⟨⟨v,rfl⟩,rfl⟩
    have hm:(m=0/\d=.int 0) \/ (m=1/\d=.int 1):=by
     match m,hd2 with
     | 0,h=>cases h;exact .inl ⟨rfl,rfl⟩
     | 1,h=>cases h;exact .inr ⟨rfl,rfl⟩
     | (q+2),h=>cases h
    rcases hm with⟨rfl,rfl⟩ | ⟨rfl,rfl⟩
    ·refine zj (y6 ?_)
     rw [if_pos rfl]
     refine yD (by simp;omega) ?_
     walk_at "w"
     simp
     rfl
    ·refine zj (y6 ?_)
     rw [if_pos rfl]
     refine yD (by simp;omega) ?_
     walk_at "w"
     simp
     rfl
   ·rintro ρ2 es2 ⟨⟨v,rfl⟩,rfl⟩
    exact⟨⟨[_,_,_],rfl,rfl⟩,rfl⟩
 ·rw [show List.flatMap F2 (va (rows,wd).1.length (rows,wd).2)=(yH rows.length wd).map gD3 from ae1 _ _]
  refine zj (aek (aai (yM (zq rfl ⟨_,rfl,fun n ρ es=>(∃ u,ρ=[u,some (.dat (tab rows)),some (.dat (.int cut))])/\es=(((yH rows.length wd).take n).filter (opG rows wd cut)).map gD3,⟨⟨_,rfl⟩,rfl⟩,?_,?_⟩))))
  ·rintro D n d ρ' es hd ⟨⟨u,rfl⟩,rfl⟩
   rw [apM] at hd
   cases hq:(yH rows.length wd)[n]? with
   | none=>rw [hq] at hd;cases hd
   | some q =>
    rw [hq] at hd
    cases hd
    have tk:(yH rows.length wd).take (n+1)=(yH rows.length wd).take n++[q]:=by
     rw [asj,hq]
     rfl
    have len:((((yH rows.length wd).take n).filter (opG rows wd cut)).map gD3).length<1000:=by
     rw [apC]
     have a1:=arn (opG rows wd cut) ((yH rows.length wd).take n)
     rw [aqi] at a1
     omega
    refine zj (yW (zr (rows,wd,cut,q.1,q.2.1,q.2.2) ?_))
    unfold gD3 at *
    walk_at "w"
    rintro _ rfl
    dsimp only
    refine⟨_,rfl,?_⟩
    refine j8 (fun h=>?_) fun h=>?_
    ·refine yD len ?_
     walk_at "w"
     rw [tk,arl,ap6,aqV,show opG rows wd cut q=true from h,if_pos rfl]
     rfl
    ·refine⟨⟨_,rfl⟩,?_⟩
     rw [tk,arl,ap6,aqV,show opG rows wd cut q=false from h,if_neg apB]
     simp
  ·rintro ρ' es ⟨_,rfl⟩
   rw [apC,aqC]
noncomputable abbrev CC:=List (List Int)×Nat×Int×Int×Int
noncomputable def zT (rows:List (List Int)) (wd:Nat) (x y:Int):Bool:=yt rows wd x y && yt rows wd (x+1) (y+1)
noncomputable def hiB (rows:List (List Int)) (cut x y:Int):Bool:=decide (cut<yN rows x y)
theorem cell_in {rows:List (List Int)} {wd:Nat} {x y:Int} (h:zT rows wd x y=true):yt rows wd x y=true/\yt rows wd (x+1) y=true/\yt rows wd (x+1) (y+1)=true/\yt rows wd x (y+1)=true:=by
 unfold zT at h
 rw [apO] at h
 obtain⟨a0,a1,a2,a3⟩:=aar h.1
 obtain⟨b0,b1,b2,b3⟩:=aar h.2
 refine⟨h.1,?_,h.2,?_⟩ <;> unfold yt <;> rw [decide_eq_true (by omega),decide_eq_true (by omega)] <;> rfl
section
variable {rows:List (List Int)} {wd:Nat} {cut x y:Int}
theorem ahi (h:zT rows wd x y=true):yO rows wd cut x y 0=(hiB rows cut x y != hiB rows cut (x+1) y):=by
 obtain⟨a,b,c,d⟩:=cell_in h
 unfold yO vL
 show (decide ((0:Int)=0 \/ (0:Int)=1) && (yt rows wd x y && yt rows wd (x+1) y) && _)=_
 rw [a,b]
 rfl
theorem akq (h:zT rows wd x y=true):yO rows wd cut x y 1=(hiB rows cut x y != hiB rows cut x (y+1)):=by
 obtain⟨a,b,c,d⟩:=cell_in h
 unfold yO vL
 show (decide ((1:Int)=0 \/ (1:Int)=1) && (yt rows wd x y && yt rows wd x (y+1)) && _)=_
 rw [a,d]
 rfl
theorem ahj (h:zT rows wd x y=true):yO rows wd cut x (y+1) 0=(hiB rows cut x (y+1) != hiB rows cut (x+1) (y+1)):=by
 obtain⟨a,b,c,d⟩:=cell_in h
 unfold yO vL
 show (decide ((0:Int)=0 \/ (0:Int)=1) && (yt rows wd x (y+1) && yt rows wd (x+1) (y+1)) && _)=_
 rw [c,d]
 rfl
theorem ahk (h:zT rows wd x y=true):yO rows wd cut (x+1) y 1=(hiB rows cut (x+1) y != hiB rows cut (x+1) (y+1)):=by
 obtain⟨a,b,c,d⟩:=cell_in h
 unfold yO vL
 show (decide ((1:Int)=0 \/ (1:Int)=1) && (yt rows wd (x+1) y && yt rows wd (x+1) (y+1)) && _)=_
 rw [b,c]
 rfl
end
noncomputable def cg (x y:Int):List (Int×Int×Int):=[(x,y,0),(x,y,1),(x,y+1,0),(x+1,y,1)]
noncomputable def adI (rows:List (List Int)) (wd:Nat) (cut x y:Int):Bool:=(cg x y).all (opG rows wd cut)
noncomputable def apm (rows:List (List Int)) (x y:Int):Int:=yN rows x y+(yN rows (x+1) y+(yN rows (x+1) (y+1)+(yN rows x (y+1)+0)))
noncomputable def abT (rows:List (List Int)) (cut x y:Int):Bool:=decide (4 * cut+2<=apm rows x y)
noncomputable def pairD (g h:Int×Int×Int):PyData:=.tuple [gD3 g,gD3 h]
noncomputable abbrev af0 (K:apD):Sp:=spD K 3 (fun (c:List (List Int)×Nat×Int×Int) xs=>xs=[.dat (tab c.1),.dat (.int c.2.2.1),.dat (.int c.2.2.2)]/\Good c.2.1 c.1) fun c r=>r=.bool (zT c.1 c.2.1 c.2.2.1 c.2.2.2)
theorem al7 (F:Def K mg "has_cell" qB pz) (uaG:FnIn P w K mg base k "has_point" pz (akl K)):FnIn P w K mg base (k+1) "has_cell" pz (af0 K):=by
 refine F.ok aeL rfl fun fa cdv A outer s H E hr=>⟨_,(zg (zw (acE (ze uaG hr rfl (za (pv 0) (za (pv 1) (za (pv 2) zb)))) (acD (ze uaG hr rfl (za (pv 0) (za (zx z7 (pv 1) zd) (za (zx z7 (pv 2) zd) zb)))))))),?_⟩
 rintro f xs ⟨rows,wd,x,y⟩ hl ⟨rfl,g⟩
 try dsimp only [zH,zi]
 dsimp only at *
 refine yL (afA (zr (rows,wd,x,y) ?_))
 walk_at "w"
 rintro _ rfl
 dsimp only
 refine⟨_,rfl,?_⟩
 refine j8 (fun h=>?_) fun h=>?_
 ·refine zr (rows,wd,x+1,y+1) ?_
  walk_at "w"
  rintro _ rfl
  dsimp only
  unfold zT
  rw [h,aqW]
 ·unfold zT
  rw [h,arj]
noncomputable abbrev acr (K:apD):Sp:=spD K 2 (fun (c:Int×Int) xs=>xs=[.dat (.int c.1),.dat (.int c.2)]) fun c r=>r=.list [.tuple [.int c.1,.int c.2],.tuple [.int (c.1+1),.int c.2],.tuple [.int (c.1+1),.int (c.2+1)],.tuple [.int c.1,.int (c.2+1)]]
theorem af1 (F:Def K mg "corners" vm pJ):FnIn P w K mg base (k+1) "corners" pJ (acr K):=by
 refine F.ok afU rfl fun fa cdv A outer s H E hr=>⟨_,(zg (zw (yg (za (zR (za (pv 0) (za (pv 1) zb))) (za (zR (za (zx z7 (pv 0) zd) (za (pv 1) zb))) (za (zR (za (zx z7 (pv 0) zd) (za (zx z7 (pv 1) zd) zb))) (za (zR (za (pv 0) (za (zx z7 (pv 1) zd) zb))) zb))))))),?_⟩
 rintro f xs ⟨x,y⟩ hl rfl
 try dsimp only [zH,zi]
 dsimp only at *
 walk_at "w"
 rfl
noncomputable abbrev aab (K:apD):Sp:=spD K 1 (fun (c:Int×Int) xs=>xs=[.dat (.tuple [.int c.1,.int c.2])]) fun c r=>r=.list ((cg c.1 c.2).map gD3)
theorem aiA (F:Def K mg "cell_gates" jw ["cell"]):FnIn P w K mg base (k+1) "cell_gates" ["cell"] (aab K):=by
 refine F.ok sc_cell_gates rfl fun fa cdv A outer s H E hr=>⟨_,(zc (yB (pv 0) (yf (K:=K) (n:=2) rfl rfl (zt (zk (i:=1) sc_cell_gates.nd rfl (Or.inl rfl) (Or.inr rfl)) (zt (zk (i:=2) sc_cell_gates.nd rfl (Or.inl rfl) (Or.inr rfl)) zZ)))) (zg (zw (yg (za (zR (za (pv 1) (za (pv 2) (za zd zb)))) (za (zR (za (pv 1) (za (pv 2) (za zd zb)))) (za (zR (za (pv 1) (za (zx z7 (pv 2) zd) (za zd zb)))) (za (zR (za (zx z7 (pv 1) zd) (za (pv 2) (za zd zb)))) zb)))))))),?_⟩
 rintro f xs ⟨x,y⟩ hl rfl
 try dsimp only [zH,zi]
 dsimp only at *
 walk_at "w"
 rfl
noncomputable abbrev al8 (c:CC) (xs:List DV):Prop:=xs=[.dat (tab c.1),.dat (.int c.2.2.1),.dat (.tuple [.int c.2.2.2.1,.int c.2.2.2.2])]/\Good c.2.1 c.1/\zT c.1 c.2.1 c.2.2.2.1 c.2.2.2.2=true
noncomputable abbrev acs (K:apD):Sp:=spD K 3 al8 fun c r=>r=.bool (adI c.1 c.2.1 c.2.2.1 c.2.2.2.1 c.2.2.2.2)
theorem af2 (F:Def K mg "is_crossed" jx pj) (uaf:mg "all"=none) (uaw:FnIn P w K mg base k "is_open" ph (adH K)) (uax:FnIn P w K mg base k "cell_gates" ["cell"] (aab K)):FnIn P w K mg base (k+1) "is_crossed" pj (acs K):=by
 refine F.ok abQ rfl fun fa cdv A outer s H E hr=>⟨_,(zg (zw (zy (vk (K:=K) rfl rfl) rfl uaf arM (za (yc (N:=pG) (own:=1) (fr:=[0,1]) ⟨rfl,by decide +kernel,of_decide_eq_true (by kernel_rfl),of_decide_eq_true (by kernel_rfl),of_decide_eq_true (by kernel_rfl),rfl⟩ rfl (zX (K:=K) rfl (ze uax hr rfl (za (pv 2) zb))) (fun _ _ _ _=>(zk (i:=0) (show (pG:List Str).Nodup by decide +kernel) rfl (Or.inl rfl) (Or.inr rfl))) (fun _ _ _ _=>z8) (fun _ _ _ _=>(ze uaw hr rfl (za (pv 1) (za (pv 2) (za (pv 0) zb))))) rfl rfl (fun _=>rfl)) zb)))),?_⟩
 rintro f xs ⟨rows,wd,cut,x,y⟩ hl ⟨rfl,g,hc⟩
 try dsimp only [zH,zi]
 dsimp only at *
 refine yL (agC (PEdO.ped (qP (A:=gD3) (B:=fun q=>PyData.bool (opG rows wd cut q)) (cg x y) (yM (zr (x,y) ?_)))))
 walk_at "w"
 rintro _ rfl
 refine⟨_,rfl,rfl,show 4<=1000 by decide,?_,?_⟩
 ·rintro D q ρ' es hq ho hes
  obtain⟨u,rfl⟩:=ho.one
  refine zj (y6 ?_)
  rw [if_pos rfl]
  refine yD hes (zr (rows,wd,cut,q.1,q.2.1,q.2.2) ?_)
  unfold gD3
  walk_at "w"
  rintro _ rfl
  exact⟨.mk1,rfl⟩
 ·refine⟨(cg x y).map (opG rows wd cut),by rw [aqJ];rfl,?_⟩
  show PyData.bool _=PyData.bool _
  unfold adI
  rw [atl]
  rfl
noncomputable abbrev amL (K:apD):Sp:=spD K 3 al8 fun c r=>r=.bool (abT c.1 c.2.2.1 c.2.2.2.1 c.2.2.2.2)
theorem aoo (F:Def K mg "has_high_middle" yF pj) (uaK:mg "sum"=none) (ubx:FnIn P w K mg base k "corners" pJ (acr K)):FnIn P w K mg base (k+1) "has_high_middle" pj (amL K):=by
 refine F.ok sc_has_high_middle rfl fun fa cdv A outer s H E hr=>⟨_,(zc (yB (pv 2) (yf (K:=K) (n:=2) rfl rfl (zt (zk (i:=3) sc_has_high_middle.nd rfl (Or.inl rfl) (Or.inr rfl)) (zt (zk (i:=4) sc_has_high_middle.nd rfl (Or.inl rfl) (Or.inr rfl)) zZ)))) (zg (zw (ju aiW (zy (afF (K:=K) rfl rfl) rfl uaK PyProof.Rows.boot_sum (za (yc (N:=["a","b","rows"]) (own:=2) (fr:=[0]) ⟨rfl,by decide +kernel,of_decide_eq_true (by kernel_rfl),of_decide_eq_true (by kernel_rfl),of_decide_eq_true (by kernel_rfl),rfl⟩ rfl (zX (K:=K) rfl (ze ubx hr rfl (za (pv 3) (za (pv 4) zb)))) (fun _ _ _ _=>(yf (K:=K) (n:=2) rfl rfl (zt (zk (i:=0) (show (["a","b","rows"]:List Str).Nodup by decide +kernel) rfl (Or.inl rfl) (Or.inr rfl)) (zt (zk (i:=1) (show (["a","b","rows"]:List Str).Nodup by decide +kernel) rfl (Or.inl rfl) (Or.inr rfl)) zZ)))) (fun _ _ _ _=>z8) (fun _ _ _ _=>(zM (zB (K:=K) rfl) (zM (zB (K:=K) rfl) (pv 2) (pv 1) (fun _ _=>rfl)) (pv 0) (fun _ _=>rfl))) rfl rfl (fun _=>rfl)) zb)) (zx z7 (zx aa7 zd (pv 1)) zd) (zP _))))),?_⟩
 rintro f xs ⟨rows,wd,cut,x,y⟩ hl ⟨rfl,g,hc⟩
 try dsimp only [zH,zi]
 dsimp only at *
 obtain⟨i1,i2,i3,i4⟩:=cell_in hc
 refine z6 (zS (zq rfl (jG rfl (zC (zj (zC (zj (yG ?_))))))))
 refine yL (ad9 (aoU (PEdO.ped (qP (A:=fun p:Int×Int=>PyData.tuple [.int p.1,.int p.2]) (B:=fun p:Int×Int=>PyData.int (yN rows p.1 p.2)) [(x,y),(x+1,y),(x+1,y+1),(x,y+1)] (yM (zr (x,y) ?_))))))
 walk_at "w"
 rintro _ rfl
 refine⟨_,rfl,rfl,show 4<=1000 by decide,?_,?_⟩
 ·rintro D p ρ' es hp ho hes
  obtain⟨u,v,rfl⟩:=ho.two
  have hi:yt rows wd p.1 p.2=true:=by
   simp only [apK,aqD,or_false] at hp
   rcases hp with rfl | rfl | rfl | rfl
   ·exact i1
   ·exact i2
   ·exact i3
   ·exact i4
  obtain⟨r,h1,h2⟩:=aeY g hi
  refine jG rfl (zC (zj (zC (zj (yG (y6 ?_))))))
  rw [if_pos rfl]
  refine yD hes ?_
  unfold tab
  walk_at "w"
  refine⟨_,h1,?_⟩
  walk_at "w"
  refine⟨_,h2,?_⟩
  exact⟨.mk2,rfl⟩
 ·refine⟨[yN rows x y,yN rows (x+1) y,yN rows (x+1) (y+1),yN rows x (y+1)],rfl,?_⟩
  walk_at "w"
  rfl
noncomputable def adJ (rows:List (List Int)) (cut x y:Int):List PyData:=if (hiB rows cut x y == abT rows cut x y)=true then [pairD (x,y,0) (x+1,y,1),pairD (x,y,1) (x,y+1,0)] else [pairD (x,y,0) (x,y,1),pairD (x,y+1,0) (x+1,y,1)]
noncomputable def thr (rows:List (List Int)) (wd:Nat) (cut x y:Int):List (Int×Int×Int):=(cg x y).filter (opG rows wd cut)
noncomputable def akr:List (Int×Int×Int)->List PyData
 | a :: b :: _=>[pairD a b]
 | _=>[]
noncomputable def ahl (rows:List (List Int)) (wd:Nat) (cut x y:Int):List PyData:=if adI rows wd cut x y=true then adJ rows cut x y else akr (thr rows wd cut x y)
theorem al9 {rows:List (List Int)} {wd:Nat} {cut x y:Int} (h:zT rows wd x y=true):thr rows wd cut x y=[] \/ ∃ a b r,thr rows wd cut x y=a :: b :: r:=by
 have e1:opG rows wd cut (x,y,0)=_:=ahi (cut:=cut) h
 have e2:opG rows wd cut (x,y,1)=_:=akq (cut:=cut) h
 have e3:opG rows wd cut (x,y+1,0)=_:=ahj (cut:=cut) h
 have e4:opG rows wd cut (x+1,y,1)=_:=ahk (cut:=cut) h
 unfold thr cg
 simp only [aqV,e1,e2,e3,e4,atv]
 cases hiB rows cut x y <;> cases hiB rows cut (x+1) y <;> cases hiB rows cut (x+1) (y+1) <;> cases hiB rows cut x (y+1) <;> simp
noncomputable abbrev ae3 (K:apD):Sp:=spN K 3 al8 fun c es=>es=adJ c.1 c.2.2.1 c.2.2.2.1 c.2.2.2.2
theorem aiB (F:Def K mg "crossed_ties" y3 pj) (uax:FnIn P w K mg base k "cell_gates" ["cell"] (aab K)) (uam:FnIn P w K mg base k "stands_high" pI (adG K)) (uby:FnIn P w K mg base k "has_high_middle" pj (amL K)):FnIn P w K mg base (k+1) "crossed_ties" pj (ae3 K):=by
 refine F.okN sc_crossed_ties rfl fun fa cdv A outer s H E hr=>⟨_,(zc (yB (ze uax hr rfl (za (pv 2) zb)) (agD (K:=K) (n:=4) rfl rfl (zt (zk (i:=3) sc_crossed_ties.nd rfl (Or.inl rfl) (Or.inr rfl)) (zt (zk (i:=4) sc_crossed_ties.nd rfl (Or.inl rfl) (Or.inr rfl)) (zt (zk (i:=5) sc_crossed_ties.nd rfl (Or.inl rfl) (Or.inr rfl)) (zt (zk (i:=6) sc_crossed_ties.nd rfl (Or.inl rfl) (Or.inr rfl)) zZ)))))) (zc (yq (zN (aah (K:=K) rfl hr.units) (ze uam hr rfl (za (pv 0) (za (pv 1) (za (pv 2) zb)))) (ze uby hr rfl (za (pv 0) (za (pv 1) (za (pv 2) zb)))) (zP _)) (zg (zw (yg (za (zR (za (pv 3) (za (pv 6) zb))) (za (zR (za (pv 4) (za (pv 5) zb))) zb))))) zK) (zg (zw (yg (za (zR (za (pv 3) (za (pv 4) zb))) (za (zR (za (pv 5) (za (pv 6) zb))) zb))))))),?_⟩
 rintro f xs ⟨rows,wd,cut,x,y⟩ hl ⟨rfl,g,hc⟩
 try dsimp only [zH,zi]
 dsimp only at *
 have hi:=(cell_in hc).1
 refine abm (zS (zr (x,y) ?_))
 walk_at "w"
 rintro _ rfl
 refine amC rfl (zC (zj (zC (zj (zC (zj (zC (zj (yG ?_)))))))))
 refine amD (yC (jF (zr (rows,wd,cut,x,y) ?_)))
 walk_at "w"
 rintro _ rfl
 refine zr (rows,wd,cut,x,y) ?_
 walk_at "w"
 rintro _ rfl
 dsimp only
 walk_at "w"
 rw [if_neg apB,aeX]
 unfold adJ
 refine j8 (fun h=>?_) fun h=>?_
 ·rw [if_pos (show (hiB rows cut x y == abT rows cut x y)=true from h)]
  refine aej ?_
  walk_at "w"
  rfl
 ·rw [if_neg (show ¬ (hiB rows cut x y == abT rows cut x y)=true from by rw [show (hiB rows cut x y == abT rows cut x y)=false from h];exact apB)]
  refine aek (aej ?_)
  walk_at "w"
  rfl
noncomputable abbrev ahm (K:apD):Sp:=spN K 3 al8 fun c es=>es=ahl c.1 c.2.1 c.2.2.1 c.2.2.2.1 c.2.2.2.2
theorem aks (F:Def K mg "cell_ties" jX pj) (ubz:FnIn P w K mg base k "is_crossed" pj (acs K)) (ubA:FnIn P w K mg base k "crossed_ties" pj (ae3 K)) (uax:FnIn P w K mg base k "cell_gates" ["cell"] (aab K)) (uaw:FnIn P w K mg base k "is_open" ph (adH K)):FnIn P w K mg base (k+1) "cell_ties" pj (ahm K):=by
 refine F.okN sc_cell_ties rfl fun fa cdv A outer s H E hr=>⟨_,(zc (yq (z5 (K:=K) rfl (ze ubz hr rfl (za (pv 0) (za (pv 1) (za (pv 2) zb)))) (fun _=>rfl)) (zg (zw (ze ubA hr rfl (za (pv 0) (za (pv 1) (za (pv 2) zb)))))) zK) (zc (qT (i:=3) (N:=pG) (own:=1) (fr:=[0,1]) ⟨rfl,by decide +kernel,of_decide_eq_true (by kernel_rfl),of_decide_eq_true (by kernel_rfl),of_decide_eq_true (by kernel_rfl),rfl⟩ rfl sc_cell_ties.nd rfl (Or.inl rfl) (zX (K:=K) rfl (ze uax hr rfl (za (pv 2) zb))) (fun _ _ _ _=>(zk (i:=0) (show (pG:List Str).Nodup by decide +kernel) rfl (Or.inl rfl) (Or.inr rfl))) (fun _ _ _ _=>(acR (z5 (K:=K) rfl (ze uaw hr rfl (za (pv 1) (za (pv 2) (za (pv 0) zb)))) (fun _=>rfl)))) (fun _ _ _ _=>(pv 0)) rfl rfl (fun _=>rfl) (Or.inl rfl) rfl) (zg (zw (qh (z5 (K:=K) rfl (pv 3) (fun _=>rfl)) (yg (za (zR (za (zM (zB (K:=K) rfl) (pv 3) zd (fun _ _=>rfl)) (za (zM (zB (K:=K) rfl) (pv 3) zd (fun _ _=>rfl)) zb))) zb)) (yg zb)))))),?_⟩
 rintro f xs ⟨rows,wd,cut,x,y⟩ hl ⟨rfl,g,hc⟩
 try dsimp only [zH,zi]
 dsimp only at *
 refine amD (yW (zr (rows,wd,cut,x,y) ?_))
 walk_at "w"
 rintro _ rfl
 dsimp only
 refine⟨_,rfl,?_⟩
 unfold ahl
 refine j8 (fun h=>?_) fun h=>?_
 ·rw [if_pos h]
  refine ac1 (rows,wd,cut,x,y) ?_
  walk_at "w"
  exact fun es he=>he
 ·rw [if_neg (by rw [h];exact apB)]
  refine abm (zS (PEdO.ped (aai (yM (zr (x,y) ?_)))))
  walk_at "w"
  rintro _ rfl
  refine⟨_,rfl,fun n ρ es=>(∃ u,ρ=[u,some (.dat (tab rows)),some (.dat (.int cut))])/\es=(((cg x y).take n).filter (opG rows wd cut)).map gD3,⟨⟨_,rfl⟩,rfl⟩,?_,?_⟩
  ·rintro D n d ρ' es hd ⟨⟨u,rfl⟩,rfl⟩
   rw [apM] at hd
   cases hq:(cg x y)[n]? with
   | none=>rw [hq] at hd;cases hd
   | some q =>
    rw [hq] at hd
    cases hd
    have hn:n<(cg x y).length:=(apE.mp hq).1
    have n4:n<4:=hn
    have tk:(cg x y).take (n+1)=(cg x y).take n++[q]:=by
     rw [asj,hq]
     rfl
    have len:((((cg x y).take n).filter (opG rows wd cut)).map gD3).length<1000:=by
     rw [apC]
     have a1:=arn (opG rows wd cut) ((cg x y).take n)
     rw [aqi] at a1
     omega
    refine zj (yW (zr (rows,wd,cut,q.1,q.2.1,q.2.2) ?_))
    unfold gD3 at *
    walk_at "w"
    rintro _ rfl
    dsimp only
    refine⟨_,rfl,?_⟩
    refine j8 (fun h=>?_) fun h=>?_
    ·refine yD len ?_
     walk_at "w"
     rw [tk,arl,ap6,aqV,show opG rows wd cut q=true from h,if_pos rfl]
     rfl
    ·refine⟨⟨_,rfl⟩,?_⟩
     rw [tk,arl,ap6,aqV,show opG rows wd cut q=false from h,if_neg apB]
     simp
  ·rintro ρ' es ⟨_,rfl⟩
   rw [apC,aqC]
   rw [show List.filter (opG rows wd cut) (cg (x,y).1 (x,y).2)=thr rows wd cut x y from rfl]
   rcases al9 (cut:=cut) hc with e | ⟨a,b,r,e⟩
   ·rw [e]
    refine zj (aek (amE (yW (zq rfl ⟨false,rfl,?_⟩))))
    rw [if_neg apB]
    exact ajp rfl
   ·rw [e]
    have h0:atI ((a :: b :: r).map gD3) 0=some (gD3 a):=qJ (xs:=a :: b :: r) (j:=0) rfl (asH _)
    have h1:atI ((a :: b :: r).map gD3) 1=some (gD3 b):=qJ (xs:=a :: b :: r) (j:=1) rfl (Nat.succ_lt_succ (asH _))
    refine zj (aek (amE (yW (zq rfl ⟨true,rfl,?_⟩))))
    rw [if_pos rfl]
    refine aej ?_
    walk_at "w"
    refine⟨_,h0,?_⟩
    walk_at "w"
    refine⟨_,h1,?_⟩
    walk_at "w"
    rfl
noncomputable def opF (A B C D:Bool) (i:Fin 4):Bool:=match i with
 | 0=>A != B
 | 1=>A != D
 | 2=>D != C
 | 3=>B != C
noncomputable def enF (A B C D:Bool) (i:Fin 4):Bool:=match i with
 | 0=>!A
 | 1=>A
 | 2=>D
 | 3=>!B
noncomputable def abA (A B C D M:Bool):List (Fin 4×Fin 4) :=
 if (opF A B C D 0 && opF A B C D 1 && opF A B C D 2 && opF A B C D 3)=true then (if (A == M)=true then [(0,3),(1,2)] else [(0,1),(2,3)]) else
 match ([0,1,2,3]:List (Fin 4)).filter (opF A B C D) with
 | a :: b :: _=>[(a,b)]
 | _=>[]
noncomputable def prt {α:Type} [DecidableEq α] (l:List (α×α)) (g:α):Option α:=l.findSome? fun p=>if p.1=g then some p.2 else if p.2=g then some p.1 else none
theorem ama:∀ (A B C D M:Bool) (i:Fin 4),opF A B C D i=true->∃ j,prt (abA A B C D M) i=some j/\j≠i/\opF A B C D j=true/\prt (abA A B C D M) j=some i/\enF A B C D j=!enF A B C D i:=by decide
theorem ae4:∀ (A B C D M:Bool),abA A B C D M=[] \/ (∃ a b,a≠b/\abA A B C D M=[(a,b)]) \/ ∃ a b c d,a≠b/\a≠c/\a≠d/\b≠c/\b≠d/\c≠d/\abA A B C D M=[(a,b),(c,d)]:=by decide
noncomputable abbrev Gt:=Int×Int×Int
noncomputable def gt (x y:Int) (i:Fin 4):Gt:=match i with
 | 0=>(x,y,0)
 | 1=>(x,y,1)
 | 2=>(x,y+1,0)
 | 3=>(x+1,y,1)
theorem adK {x y:Int} {i j:Fin 4} (h:gt x y i=gt x y j):i=j:=by
 have h1:(gt x y i).1=(gt x y j).1:=by rw [h]
 have h2:(gt x y i).2.1=(gt x y j).2.1:=by rw [h]
 have h3:(gt x y i).2.2=(gt x y j).2.2:=by rw [h]
 revert h1 h2 h3
 clear h
 match i,j with
 | 0,0=>intros;rfl
 | 0,1=>intro _ _ h;simp [gt] at h
 | 0,2=>intro _ h _;simp [gt] at h;omega
 | 0,3=>intro _ _ h;simp [gt] at h
 | 1,0=>intro _ _ h;simp [gt] at h
 | 1,1=>intros;rfl
 | 1,2=>intro _ _ h;simp [gt] at h
 | 1,3=>intro h _ _;simp [gt] at h;omega
 | 2,0=>intro _ h _;simp [gt] at h;omega
 | 2,1=>intro _ _ h;simp [gt] at h
 | 2,2=>intros;rfl
 | 2,3=>intro _ _ h;simp [gt] at h
 | 3,0=>intro _ _ h;simp [gt] at h
 | 3,1=>intro h _ _;simp [gt] at h;omega
 | 3,2=>intro _ _ h;simp [gt] at h
 | 3,3=>intros;rfl
theorem ahn {α β:Type} [DecidableEq α] [DecidableEq β] {f:α->β} (inj:∀ i j,f i=f j->i=j) (l:List (α×α)) (i:α):prt (l.map fun p=>(f p.1,f p.2)) (f i)=(prt l i).map f:=by
 unfold prt
 induction l with
 | nil=>rfl
 | cons p l ih =>
  rw [apZ,arY,arY]
  have e1:(f p.1=f i)↔p.1=i:=⟨inj _ _,fun z=>by rw [z]⟩
  have e2:(f p.2=f i)↔p.2=i:=⟨inj _ _,fun z=>by rw [z]⟩
  by_cases h1:p.1=i
  ·rw [if_pos h1,if_pos (e1.mpr h1)];rfl
  ·rw [if_neg h1,if_neg (fun z=>h1 (e1.mp z))]
   by_cases h2:p.2=i
   ·rw [if_pos h2,if_pos (e2.mpr h2)];rfl
   ·rw [if_neg h2,if_neg (fun z=>h2 (e2.mp z))];exact ih
section
variable (rows:List (List Int)) (wd:Nat) (cut:Int)
noncomputable def t4 (x y:Int):List (Fin 4×Fin 4):=abA (hiB rows cut x y) (hiB rows cut (x+1) y) (hiB rows cut (x+1) (y+1)) (hiB rows cut x (y+1)) (abT rows cut x y)
noncomputable def qu (x y:Int):List (Gt×Gt):=(t4 rows cut x y).map fun p=>(gt x y p.1,gt x y p.2)
noncomputable def jM (w:Int) (h:Bool):Int×Int:=if w=0 then (if h=true then (0,-1) else (0,0)) else (if h=true then (0,0) else (-1,0))
noncomputable def jN (w:Int) (h:Bool):Int×Int:=if w=0 then (if h=true then (0,0) else (0,-1)) else (if h=true then (-1,0) else (0,0))
noncomputable def ahC (g:Gt):Int×Int:=(g.1+(jM g.2.2 (hiB rows cut g.1 g.2.1)).1,g.2.1+(jM g.2.2 (hiB rows cut g.1 g.2.1)).2)
noncomputable def bhC (g:Gt):Int×Int:=(g.1+(jN g.2.2 (hiB rows cut g.1 g.2.1)).1,g.2.1+(jN g.2.2 (hiB rows cut g.1 g.2.1)).2)
noncomputable def yk (g:Gt):Option Gt:=if zT rows wd (ahC rows cut g).1 (ahC rows cut g).2=true then prt (qu rows cut (ahC rows cut g).1 (ahC rows cut g).2) g else none
noncomputable def yU (g:Gt):Option Gt:=if zT rows wd (bhC rows cut g).1 (bhC rows cut g).2=true then prt (qu rows cut (bhC rows cut g).1 (bhC rows cut g).2) g else none
end
section
variable {rows:List (List Int)} {wd:Nat} {cut x y:Int}
theorem aas (h:zT rows wd x y=true) (i:Fin 4):opG rows wd cut (gt x y i)=opF (hiB rows cut x y) (hiB rows cut (x+1) y) (hiB rows cut (x+1) (y+1)) (hiB rows cut x (y+1)) i:=by
 match i with
 | 0=>exact ahi h
 | 1=>exact akq h
 | 2=>exact ahj h
 | 3=>exact ahk h
theorem aho (i:Fin 4):(ahC rows cut (gt x y i)=(x,y)↔enF (hiB rows cut x y) (hiB rows cut (x+1) y) (hiB rows cut (x+1) (y+1)) (hiB rows cut x (y+1)) i=true)/\(bhC rows cut (gt x y i)=(x,y)↔enF (hiB rows cut x y) (hiB rows cut (x+1) y) (hiB rows cut (x+1) (y+1)) (hiB rows cut x (y+1)) i=false):=by
 unfold ahC bhC
 match i with
 | 0 =>
  show ((x+(jM 0 (hiB rows cut x y)).1,y+(jM 0 (hiB rows cut x y)).2)=(x,y)↔(!hiB rows cut x y)=true)/\((x+(jN 0 (hiB rows cut x y)).1,y+(jN 0 (hiB rows cut x y)).2)=(x,y)↔(!hiB rows cut x y)=false)
  cases hiB rows cut x y <;> simp [jM,jN] <;> omega
 | 1 =>
  show ((x+(jM 1 (hiB rows cut x y)).1,y+(jM 1 (hiB rows cut x y)).2)=(x,y)↔hiB rows cut x y=true)/\((x+(jN 1 (hiB rows cut x y)).1,y+(jN 1 (hiB rows cut x y)).2)=(x,y)↔hiB rows cut x y=false)
  cases hiB rows cut x y <;> simp [jM,jN] <;> omega
 | 2 =>
  show ((x+(jM 0 (hiB rows cut x (y+1))).1,y+1+(jM 0 (hiB rows cut x (y+1))).2)=(x,y)↔hiB rows cut x (y+1)=true)/\((x+(jN 0 (hiB rows cut x (y+1))).1,y+1+(jN 0 (hiB rows cut x (y+1))).2)=(x,y)↔hiB rows cut x (y+1)=false)
  cases hiB rows cut x (y+1) <;> simp [jM,jN] <;> omega
 | 3 =>
  show ((x+1+(jM 1 (hiB rows cut (x+1) y)).1,y+(jM 1 (hiB rows cut (x+1) y)).2)=(x,y)↔(!hiB rows cut (x+1) y)=true)/\((x+1+(jN 1 (hiB rows cut (x+1) y)).1,y+(jN 1 (hiB rows cut (x+1) y)).2)=(x,y)↔(!hiB rows cut (x+1) y)=false)
  cases hiB rows cut (x+1) y <;> simp [jM,jN] <;> omega
theorem ahp (h:zT rows wd x y=true) {i:Fin 4} (o:opG rows wd cut (gt x y i)=true):∃ j,prt (qu rows cut x y) (gt x y i)=some (gt x y j)/\j≠i/\opG rows wd cut (gt x y j)=true/\prt (qu rows cut x y) (gt x y j)=some (gt x y i) /\
  (ahC rows cut (gt x y i)=(x,y)->bhC rows cut (gt x y j)=(x,y))/\(bhC rows cut (gt x y i)=(x,y)->ahC rows cut (gt x y j)=(x,y)):=by
 rw [aas h] at o
 obtain⟨j,h1,h2,h3,h4,h5⟩:=ama _ _ _ _ (abT rows cut x y) i o
 have inj:∀ i j,gt x y i=gt x y j->i=j:=fun _ _=>adK
 refine⟨j,?_,h2,by rw [aas h];exact h3,?_,fun z=>?_,fun z=>?_⟩
 ·unfold qu t4
  rw [ahn inj,h1]
  rfl
 ·unfold qu t4
  rw [ahn inj,h4]
  rfl
 ·rw [(aho j).2,h5,(aho i).1.mp z]
  rfl
 ·rw [(aho j).1,h5,(aho i).2.mp z]
  rfl
theorem akt (g:Gt) (hw:g.2.2=0 \/ g.2.2=1):∃ i,g=gt (ahC rows cut g).1 (ahC rows cut g).2 i:=by
 obtain⟨x,y,w⟩:=g
 unfold ahC
 dsimp only at hw ⊢
 rcases hw with rfl | rfl
 ·cases hiB rows cut x y
  ·exact⟨0,by simp [jM,gt]⟩
  ·exact⟨2,by simp [jM,gt];omega⟩
 ·cases hiB rows cut x y
  ·exact⟨3,by simp [jM,gt];omega⟩
  ·exact⟨1,by simp [jM,gt]⟩
theorem aiC (g:Gt) (hw:g.2.2=0 \/ g.2.2=1):∃ i,g=gt (bhC rows cut g).1 (bhC rows cut g).2 i:=by
 obtain⟨x,y,w⟩:=g
 unfold bhC
 dsimp only at hw ⊢
 rcases hw with rfl | rfl
 ·cases hiB rows cut x y
  ·exact⟨2,by simp [jN,gt];omega⟩
  ·exact⟨0,by simp [jN,gt]⟩
 ·cases hiB rows cut x y
  ·exact⟨1,by simp [jN,gt]⟩
  ·exact⟨3,by simp [jN,gt];omega⟩
theorem aat {g:Gt} (o:opG rows wd cut g=true):g.2.2=0 \/ g.2.2=1:=by
 unfold opG yO vL at o
 rw [apO,apO] at o
 exact of_decide_eq_true o.1.1
theorem vp {g:Gt} (o:opG rows wd cut g=true) (h:zT rows wd (ahC rows cut g).1 (ahC rows cut g).2=true):∃ n,yk rows wd cut g=some n/\n≠g/\opG rows wd cut n=true/\bhC rows cut n=ahC rows cut g/\yU rows wd cut n=some g:=by
 obtain⟨i,ei⟩:=akt (rows:=rows) (cut:=cut) g (aat o)
 have o':=o
 rw [ei] at o'
 obtain⟨j,h1,h2,h3,h4,h5,_⟩:=ahp h o'
 rw [<-ei] at h1 h4 h5
 have hb:=h5 rfl
 refine⟨gt (ahC rows cut g).1 (ahC rows cut g).2 j,?_,fun z=>h2 (adK (z.trans ei)),h3,hb,?_⟩
 ·unfold yk
  rw [if_pos h]
  exact h1
 ·unfold yU
  rw [hb,if_pos h]
  exact h4
theorem adL {g:Gt} (o:opG rows wd cut g=true) (h:zT rows wd (bhC rows cut g).1 (bhC rows cut g).2=true):∃ n,yU rows wd cut g=some n/\n≠g/\opG rows wd cut n=true/\ahC rows cut n=bhC rows cut g/\yk rows wd cut n=some g:=by
 obtain⟨i,ei⟩:=aiC (rows:=rows) (cut:=cut) g (aat o)
 have o':=o
 rw [ei] at o'
 obtain⟨j,h1,h2,h3,h4,_,h5⟩:=ahp h o'
 rw [<-ei] at h1 h4 h5
 have hb:=h5 rfl
 refine⟨gt (bhC rows cut g).1 (bhC rows cut g).2 j,?_,fun z=>h2 (adK (z.trans ei)),h3,hb,?_⟩
 ·unfold yU
  rw [if_pos h]
  exact h1
 ·unfold yk
  rw [hb,if_pos h]
  exact h4
theorem abB {g g' n:Gt} (o:opG rows wd cut g=true) (o':opG rows wd cut g'=true) (h:yk rows wd cut g=some n) (h':yk rows wd cut g'=some n):g=g':=by
 have c:zT rows wd (ahC rows cut g).1 (ahC rows cut g).2=true:=by
  unfold yk at h
  by_cases z:zT rows wd (ahC rows cut g).1 (ahC rows cut g).2=true
  ·exact z
  ·rw [if_neg z] at h;cases h
 have c':zT rows wd (ahC rows cut g').1 (ahC rows cut g').2=true:=by
  unfold yk at h'
  by_cases z:zT rows wd (ahC rows cut g').1 (ahC rows cut g').2=true
  ·exact z
  ·rw [if_neg z] at h';cases h'
 obtain⟨m,a1,_,_,_,a2⟩:=vp o c
 obtain⟨m',b1,_,_,_,b2⟩:=vp o' c'
 rw [h] at a1
 rw [h'] at b1
 cases a1
 cases b1
 rw [a2] at b2
 exact Option.some.inj b2
theorem aau {g n:Gt} (o:opG rows wd cut g=true) (h:yk rows wd cut g=some n):opG rows wd cut n=true/\n≠g:=by
 have c:zT rows wd (ahC rows cut g).1 (ahC rows cut g).2=true:=by
  unfold yk at h
  by_cases z:zT rows wd (ahC rows cut g).1 (ahC rows cut g).2=true
  ·exact z
  ·rw [if_neg z] at h;cases h
 obtain⟨m,a1,a2,a3,_,_⟩:=vp o c
 rw [h] at a1
 cases a1
 exact⟨a3,a2⟩
end
noncomputable abbrev af3 (K:apD):Sp:=spD K 3 (fun (c:List (List Int)×Nat×Int×Int×Int×Int) xs=>xs=[.dat (tab c.1),.dat (.int c.2.2.1),.dat (j9 c.2.2.2.1 c.2.2.2.2.1 c.2.2.2.2.2)]/\Good c.2.1 c.1/\yt c.1 c.2.1 c.2.2.2.1 c.2.2.2.2.1=true) fun c r=>r=.str (aco c.1 c.2.2.1 c.2.2.2.1 c.2.2.2.2.1 c.2.2.2.2.2)
theorem af4 (F:Def K mg "heading" vo ph) (uam:FnIn P w K mg base k "stands_high" pI (adG K)):FnIn P w K mg base (k+1) "heading" ph (af3 K):=by
 refine F.ok sc_heading rfl fun fa cdv A outer s H E hr=>⟨_,(zc (yB (pv 2) (yf (K:=K) (n:=3) rfl rfl (zt (zk (i:=3) sc_heading.nd rfl (Or.inl rfl) (Or.inr rfl)) (zt (zk (i:=4) sc_heading.nd rfl (Or.inl rfl) (Or.inr rfl)) (zt (zk (i:=5) sc_heading.nd rfl (Or.inl rfl) (Or.inr rfl)) zZ))))) (zc (zD (i:=6) sc_heading.nd rfl (Or.inl rfl) (ze uam hr rfl (za (pv 0) (za (pv 1) (za (zR (za (pv 3) (za (pv 4) zb))) zb))))) (zc (yq (zN (aah (K:=K) rfl hr.units) (pv 5) zd (zP _)) (zg (zw (qh (z5 (K:=K) rfl (pv 6) (fun _=>rfl)) zV zV))) zK) (zg (zw (qh (z5 (K:=K) rfl (pv 6) (fun _=>rfl)) zV zV)))))),?_⟩
 rintro f xs ⟨rows,wd,cut,x,y,w⟩ hl ⟨rfl,g,hi⟩
 try dsimp only [zH,zi]
 dsimp only at *
 unfold j9
 refine z6 (zS (zq rfl (jG rfl (zC (zj (zC (zj (zC (zj (yG ?_))))))))))
 refine z6 (zS (zr (rows,wd,cut,x,y) ?_))
 walk_at "w"
 rintro _ rfl
 dsimp only
 walk_at "w"
 rw [if_neg apB,adF]
 unfold aco
 refine j8 (fun h=>?_) fun h=>?_
 ·have h':=of_decide_eq_true h
  rw [if_pos h']
  walk_at "w"
  refine j8 (fun h2=>?_) fun h2=>?_
  ·walk_at "w"
   rw [if_pos (of_decide_eq_true h2)]
  ·walk_at "w"
   rw [if_neg (of_decide_eq_false h2)]
 ·have h':=of_decide_eq_false h
  rw [if_neg h']
  walk_at "w"
  refine j8 (fun h2=>?_) fun h2=>?_
  ·walk_at "w"
   rw [if_pos (of_decide_eq_true h2)]
  ·walk_at "w"
   rw [if_neg (of_decide_eq_false h2)]
noncomputable abbrev aop:List (Str×List Int):=[("down",[0,0]),("up",[0,-1]),("right",[0,0]),("left",[-1,0])]
noncomputable abbrev aku:List (Str×List Int):=[("down",[0,-1]),("up",[0,0]),("right",[-1,0]),("left",[0,0])]
theorem aoq {rows:List (List Int)} {cut x y w:Int} (hw:w=0 \/ w=1):atP (aco rows cut x y w) aop=some [(jM w (hiB rows cut x y)).1,(jM w (hiB rows cut x y)).2]:=by
 unfold aco jM hiB
 rcases hw with rfl | rfl
 ·by_cases h:cut<yN rows x y
  ·rw [if_pos rfl,if_pos h,if_pos rfl,decide_eq_true h,if_pos rfl];decide +kernel
  ·rw [if_pos rfl,if_neg h,if_pos rfl,decide_eq_false h,if_neg apB];decide +kernel
 ·have e:¬ ((1:Int)=0):=by decide
  by_cases h:cut<yN rows x y
  ·rw [if_neg e,if_pos h,if_neg e,decide_eq_true h,if_pos rfl];decide +kernel
  ·rw [if_neg e,if_neg h,if_neg e,decide_eq_false h,if_neg apB];decide +kernel
theorem aor {rows:List (List Int)} {cut x y w:Int} (hw:w=0 \/ w=1):atP (aco rows cut x y w) aku=some [(jN w (hiB rows cut x y)).1,(jN w (hiB rows cut x y)).2]:=by
 unfold aco jN hiB
 rcases hw with rfl | rfl
 ·by_cases h:cut<yN rows x y
  ·rw [if_pos rfl,if_pos h,if_pos rfl,decide_eq_true h,if_pos rfl];decide +kernel
  ·rw [if_pos rfl,if_neg h,if_pos rfl,decide_eq_false h,if_neg apB];decide +kernel
 ·have e:¬ ((1:Int)=0):=by decide
  by_cases h:cut<yN rows x y
  ·rw [if_neg e,if_pos h,if_neg e,decide_eq_true h,if_pos rfl];decide +kernel
  ·rw [if_neg e,if_neg h,if_neg e,decide_eq_false h,if_neg apB];decide +kernel
theorem akv {rows:List (List Int)} {wd:Nat} {cut:Int} {g:Gt} (o:opG rows wd cut g=true):yt rows wd g.1 g.2.1=true:=by
 unfold opG yO vL at o
 rw [apO,apO,apO] at o
 exact o.1.2.1
noncomputable abbrev GO:=List (List Int)×Nat×Int×Gt
noncomputable abbrev amb (c:GO) (xs:List DV):Prop:=xs=[.dat (tab c.1),.dat (.int c.2.2.1),.dat (gD3 c.2.2.2)]/\Good c.2.1 c.1/\opG c.1 c.2.1 c.2.2.1 c.2.2.2=true
noncomputable abbrev ae5 (K:apD):Sp:=spD K 3 amb fun c r=>r=.tuple [.int (ahC c.1 c.2.2.1 c.2.2.2).1,.int (ahC c.1 c.2.2.1 c.2.2.2).2]
theorem aiD {uay:Addr} (F:Def K mg "cell_ahead" jy ph) (uaL:mg "AHEAD"=some (.ref uay)) (uaz:aid K uay aop=true) (uaM:FnIn P w K mg base k "heading" ph (af3 K)):FnIn P w K mg base (k+1) "cell_ahead" ph (ae5 K):=by
 refine F.ok sc_cell_ahead rfl fun fa cdv A outer s H E hr=>⟨_,(zc (yB (ajS (K:=K) rfl rfl uaL uaz (ze uaM hr rfl (za (pv 0) (za (pv 1) (za (pv 2) zb)))) (fun _ _=>rfl)) (yf (K:=K) (n:=2) rfl rfl (zt (zk (i:=3) sc_cell_ahead.nd rfl (Or.inl rfl) (Or.inr rfl)) (zt (zk (i:=4) sc_cell_ahead.nd rfl (Or.inl rfl) (Or.inr rfl)) zZ)))) (zg (zw (zR (za (zx z7 (zM (yX (K:=K) rfl) (pv 2) zd (fun _ _=>rfl)) (pv 3)) (za (zx z7 (zM (yX (K:=K) rfl) (pv 2) zd (fun _ _=>rfl)) (pv 4)) zb)))))),?_⟩
 rintro f xs ⟨rows,wd,cut,x,y,w⟩ hl ⟨rfl,g,o⟩
 try dsimp only [zH,zi]
 dsimp only at *
 have hw:=aat o
 have hin:=akv o
 refine z6 (zS (amG (zr (rows,wd,cut,x,y,w) ?_)))
 unfold gD3 at *
 walk_at "w"
 rintro _ rfl
 refine⟨_,_,rfl,aoq hw,?_⟩
 refine jG rfl (zC (zj (zC (zj (yG ?_)))))
 walk_at "w"
 rfl
noncomputable abbrev ahq (K:apD):Sp:=spD K 3 amb fun c r=>r=.bool (!zT c.1 c.2.1 (bhC c.1 c.2.2.1 c.2.2.2).1 (bhC c.1 c.2.2.1 c.2.2.2).2)
theorem akw {uaA:Addr} (F:Def K mg "comes_in" qD ph) (uaN:mg "BEHIND"=some (.ref uaA)) (uaB:aid K uaA aku=true) (uaM:FnIn P w K mg base k "heading" ph (af3 K)) (uaO:FnIn P w K mg base k "has_cell" pz (af0 K)):FnIn P w K mg base (k+1) "comes_in" ph (ahq K):=by
 refine F.ok sc_comes_in rfl fun fa cdv A outer s H E hr=>⟨_,(zc (yB (ajS (K:=K) rfl rfl uaN uaB (ze uaM hr rfl (za (pv 0) (za (pv 1) (za (pv 2) zb)))) (fun _ _=>rfl)) (yf (K:=K) (n:=2) rfl rfl (zt (zk (i:=3) sc_comes_in.nd rfl (Or.inl rfl) (Or.inr rfl)) (zt (zk (i:=4) sc_comes_in.nd rfl (Or.inl rfl) (Or.inr rfl)) zZ)))) (zg (zw (amU (ze uaO hr rfl (za (pv 0) (za (zx z7 (zM (yX (K:=K) rfl) (pv 2) zd (fun _ _=>rfl)) (pv 3)) (za (zx z7 (zM (yX (K:=K) rfl) (pv 2) zd (fun _ _=>rfl)) (pv 4)) zb)))))))),?_⟩
 rintro f xs ⟨rows,wd,cut,x,y,w⟩ hl ⟨rfl,g,o⟩
 try dsimp only [zH,zi]
 dsimp only at *
 have hw:=aat o
 have hin:=akv o
 refine z6 (zS (amG (zr (rows,wd,cut,x,y,w) ?_)))
 unfold gD3 at *
 walk_at "w"
 rintro _ rfl
 refine⟨_,_,rfl,aor hw,?_⟩
 refine jG rfl (zC (zj (zC (zj (yG ?_)))))
 walk_at "w"
 refine zr (rows,wd,(bhC rows cut (x,y,w)).1,(bhC rows cut (x,y,w)).2) ?_
 walk_at "w"
 rintro _ rfl
 exact⟨_,rfl,rfl⟩
noncomputable def vC:List (Gt×Gt)->List (PyData×PyData)->List (PyData×PyData)
 | [],kvs=>kvs
 | p :: l,kvs=>vC l (dput (gD3 p.2) (gD3 p.1) (dput (gD3 p.1) (gD3 p.2) kvs))
theorem af5 (l:List (Gt×Gt)) (p:Gt×Gt):∀ kvs,vC (l++[p]) kvs=dput (gD3 p.2) (gD3 p.1) (dput (gD3 p.1) (gD3 p.2) (vC l kvs)):=by
 induction l with
 | nil=>intro kvs;rfl
 | cons q l ih=>intro kvs;exact ih _
theorem abC (a b:PyData) (kvs:List (PyData×PyData)):(dput a b kvs).length<=kvs.length+1:=by
 unfold dput
 split
 ·rw [apC];omega
 ·rw [apX];exact apI _
theorem aiE (l:List (Gt×Gt)):∀ kvs,(vC l kvs).length<=kvs.length+2 * l.length:=by
 induction l with
 | nil=>intro kvs;exact apI _
 | cons q l ih =>
  intro kvs
  have h1:=ih (dput (gD3 q.2) (gD3 q.1) (dput (gD3 q.1) (gD3 q.2) kvs))
  have h2:=abC (gD3 q.2) (gD3 q.1) (dput (gD3 q.1) (gD3 q.2) kvs)
  have h3:=abC (gD3 q.1) (gD3 q.2) kvs
  show (vC l _).length<=_
  rw [apT]
  omega
theorem adM {a b:Gt} (h:gD3 a=gD3 b):a=b:=by
 obtain⟨x,y,w⟩:=a
 obtain⟨x',y',w'⟩:=b
 unfold gD3 j9 at h
 simp at h
 simp [h]
theorem akx {rows:List (List Int)} {wd:Nat} {cut x y:Int} (h:zT rows wd x y=true):ahl rows wd cut x y=(qu rows cut x y).map fun p=>pairD p.1 p.2:=by
 have e0:opG rows wd cut (x,y,0)=_:=aas (cut:=cut) h 0
 have e1:opG rows wd cut (x,y,1)=_:=aas (cut:=cut) h 1
 have e2:opG rows wd cut (x,y+1,0)=_:=aas (cut:=cut) h 2
 have e3:opG rows wd cut (x+1,y,1)=_:=aas (cut:=cut) h 3
 unfold ahl qu t4 adI adJ thr cg abA
 simp only [at4,List.all_nil,aqV,atv,e0,e1,e2,e3,at7]
 generalize abT rows cut x y=M
 generalize hiB rows cut x y=A
 generalize hiB rows cut (x+1) y=B
 generalize hiB rows cut (x+1) (y+1)=C
 generalize hiB rows cut x (y+1)=D
 cases A <;> cases B <;> cases C <;> cases D <;> cases M <;> rfl
theorem aky {rows:List (List Int)} {cut x y:Int} {g n:Gt} (h:prt (qu rows cut x y) g=some n):vX (gD3 g) (vC (qu rows cut x y) [])=some (gD3 n):=by
 have key:∀ a b:Gt,a≠b->gD3 a≠gD3 b:=fun a b ne z=>ne (adM z)
 have inj:∀ i j:Fin 4,i≠j->gt x y i≠gt x y j:=fun i j ne z=>ne (adK z)
 unfold qu t4 at h ⊢
 rcases ae4 (hiB rows cut x y) (hiB rows cut (x+1) y) (hiB rows cut (x+1) (y+1)) (hiB rows cut x (y+1)) (abT rows cut x y) with e | ⟨a,b,n1,e⟩ | ⟨a,b,c,d,n1,n2,n3,n4,n5,n6,e⟩
 ·rw [e] at h;cases h
 ·rw [e] at h ⊢
  have k1:=key _ _ (inj a b n1)
  have k1':=aqP k1
  simp only [apZ,asG,vC] at h ⊢
  unfold prt at h
  simp only [arY,List.findSome?_nil] at h
  by_cases c1:gt x y a=g
  ·rw [if_pos c1] at h
   cases h
   simp [dput,vX,k1,k1',<- c1]
  ·rw [if_neg c1] at h
   by_cases c2:gt x y b=g
   ·rw [if_pos c2] at h
    cases h
    simp [dput,vX,k1,k1',<- c2]
   ·rw [if_neg c2] at h;cases h
 ·rw [e] at h ⊢
  have k1:=key _ _ (inj a b n1)
  have k2:=key _ _ (inj a c n2)
  have k3:=key _ _ (inj a d n3)
  have k4:=key _ _ (inj b c n4)
  have k5:=key _ _ (inj b d n5)
  have k6:=key _ _ (inj c d n6)
  have j1:=aqP k1
  have j2:=aqP k2
  have j3:=aqP k3
  have j4:=aqP k4
  have j5:=aqP k5
  have j6:=aqP k6
  simp only [apZ,asG,vC] at h ⊢
  unfold prt at h
  simp only [arY,List.findSome?_nil] at h
  by_cases c1:gt x y a=g
  ·rw [if_pos c1] at h
   cases h
   simp [dput,vX,k1,k2,k3,k4,k5,k6,j1,j2,j3,j4,j5,j6,<- c1]
  ·rw [if_neg c1] at h
   by_cases c2:gt x y b=g
   ·rw [if_pos c2] at h
    cases h
    simp [dput,vX,k1,k2,k3,k4,k5,k6,j1,j2,j3,j4,j5,j6,<- c2]
   ·rw [if_neg c2] at h
    by_cases c3:gt x y c=g
    ·rw [if_pos c3] at h
     cases h
     simp [dput,vX,k1,k2,k3,k4,k5,k6,j1,j2,j3,j4,j5,j6,<- c3]
    ·rw [if_neg c3] at h
     by_cases c4:gt x y d=g
     ·rw [if_pos c4] at h
      cases h
      simp [dput,vX,k1,k2,k3,k4,k5,k6,j1,j2,j3,j4,j5,j6,<- c4]
     ·rw [if_neg c4] at h;cases h
noncomputable def adN:Option Gt->PyData
 | none=>.none
 | some g=>gD3 g
noncomputable abbrev akz (K:apD):Sp:=spD K 3 amb fun c r=>r=adN (yk c.1 c.2.1 c.2.2.1 c.2.2.2)
theorem vb (g:Gt):aia (gD3 g):=⟨⟨rfl,atA rfl⟩,_,rfl⟩
theorem amc (F:Def K mg "gate_ahead" jz ph) (ubB:FnIn P w K mg base k "cell_ahead" ph (ae5 K)) (uaO:FnIn P w K mg base k "has_cell" pz (af0 K)) (ubC:FnIn P w K mg base k "cell_ties" pj (ahm K)) :
  FnIn P w K mg base (k+1) "gate_ahead" ph (akz K):=by
 refine F.ok sc_gate_ahead rfl fun fa cdv A outer s H E hr=>⟨_,(zc (yB (ze ubB hr rfl (za (pv 0) (za (pv 1) (za (pv 2) zb)))) (yf (K:=K) (n:=2) rfl rfl (zt (zk (i:=3) sc_gate_ahead.nd rfl (Or.inl rfl) (Or.inr rfl)) (zt (zk (i:=4) sc_gate_ahead.nd rfl (Or.inl rfl) (Or.inr rfl)) zZ)))) (zc (yq (jC (z5 (K:=K) rfl (ze uaO hr rfl (za (pv 0) (za (pv 3) (za (pv 4) zb)))) (fun _=>rfl))) (zg (zw aa3)) zK) (zc (zD (i:=5) sc_gate_ahead.nd rfl (Or.inl rfl) (aic (w:=w) rfl)) (zc (jq aqx rfl (zX (K:=K) rfl (ze ubC hr rfl (za (pv 0) (za (pv 1) (za (zR (za (pv 3) (za (pv 4) zb))) zb))))) (yf (K:=K) (n:=2) rfl rfl (zt (zk (i:=6) sc_gate_ahead.nd rfl (Or.inl rfl) (Or.inr rfl)) (zt (zk (i:=7) sc_gate_ahead.nd rfl (Or.inl rfl) (Or.inr rfl)) zZ))) (zc (yB (pv 7) (aa5 (pv 5) (pv 6) (aez (w:=w) (K:=K) rfl rfl hr.units))) (zg (yB (pv 6) (aa5 (pv 5) (pv 7) (aez (w:=w) (K:=K) rfl rfl hr.units)))))) (zg (zw (zM (alA (w:=w) (K:=K) rfl rfl hr.units) (pv 5) (pv 2) (fun _ _=>rfl)))))))),?_⟩
 rintro f xs ⟨rows,wd,cut,g⟩ hl ⟨rfl,gd,o⟩
 try dsimp only [zH,zi]
 dsimp only at *
 refine z6 (zS (zr (rows,wd,cut,g) ?_))
 walk_at "w"
 rintro _ rfl
 dsimp only
 refine jG rfl (zC (zj (zC (zj (yG ?_)))))
 refine z6 (acW (qU (yW (zr (rows,wd,(ahC rows cut g).1,(ahC rows cut g).2) ?_))))
 walk_at "w"
 rintro _ rfl
 refine⟨_,rfl,?_⟩
 dsimp only
 refine j8 (fun h=>?_) fun h=>?_
 ·have hc:zT rows wd (ahC rows cut g).1 (ahC rows cut g).2=false:=by simpa using h
  walk_at "w"
  unfold yk
  rw [hc,if_neg apB]
  rfl
 ·have hc:zT rows wd (ahC rows cut g).1 (ahC rows cut g).2=true:=by simpa using h
  obtain⟨n,hn,_⟩:=vp o hc
  have hp:prt (qu rows cut (ahC rows cut g).1 (ahC rows cut g).2) g=some n:=by
   unfold yk at hn
   rw [if_pos hc] at hn
   exact hn
  have tl:(qu rows cut (ahC rows cut g).1 (ahC rows cut g).2).length<=2:=by
   unfold qu t4
   rw [apC]
   rcases ae4 (hiB rows cut (ahC rows cut g).1 (ahC rows cut g).2) (hiB rows cut ((ahC rows cut g).1+1) (ahC rows cut g).2) (hiB rows cut ((ahC rows cut g).1+1) ((ahC rows cut g).2+1)) (hiB rows cut (ahC rows cut g).1 ((ahC rows cut g).2+1)) (abT rows cut (ahC rows cut g).1 (ahC rows cut g).2) with e | ⟨a,b,n1,e⟩ | ⟨a,b,c,d,n1,n2,n3,n4,n5,n6,e⟩ <;> rw [e] <;> simp
  refine qO (adf (w:=w) (agZ (anG ⟨show 5<8 by decide,fun D=>?_⟩)))
  refine qR (agW (yM (PEdO.ped (ac1 (rows,wd,cut,(ahC rows cut g).1,(ahC rows cut g).2) ?_))))
  walk_at "w"
  rintro _ rfl
  dsimp only
  rw [akx hc]
  refine⟨_,rfl,fun i ρ cs=>(∃ u v,ρ=[some (.dat (tab rows)),some (.dat (.int cut)),some (.dat (gD3 g)),some (.dat (.int (ahC rows cut g).1)),some (.dat (.int (ahC rows cut g).2)),some (.own (f.M.length+0)),u,v])/\cs=[.dic (vC ((qu rows cut (ahC rows cut g).1 (ahC rows cut g).2).take i) [])],⟨⟨_,_,rfl⟩,rfl⟩,?_,?_⟩
  ·rintro i d _ _ hd ⟨⟨u,v,rfl⟩,rfl⟩
   rw [apM] at hd
   cases hq:(qu rows cut (ahC rows cut g).1 (ahC rows cut g).2)[i]? with
   | none=>rw [hq] at hd;cases hd
   | some q =>
    rw [hq] at hd
    cases hd
    have tk:(qu rows cut (ahC rows cut g).1 (ahC rows cut g).2).take (i+1)=(qu rows cut (ahC rows cut g).1 (ahC rows cut g).2).take i++[q]:=by
     rw [asj,hq]
     rfl
    have hl:=aiE ((qu rows cut (ahC rows cut g).1 (ahC rows cut g).2).take i) []
    rw [aqi] at hl
    simp only [aqS] at hl
    refine jG rfl (zC (zj (zC (zj (yG ?_)))))
    refine qR (amF (i:=5) (j:=0) rfl rfl (by omega) ?_)
    walk_at "w"
    refine⟨vb _,?_⟩
    have hl2:=abC (gD3 q.1) (gD3 q.2) (vC ((qu rows cut (ahC rows cut g).1 (ahC rows cut g).2).take i) [])
    refine amF (i:=5) (j:=0) rfl rfl (by omega) ?_
    walk_at "w"
    refine⟨vb _,⟨_,_,rfl⟩,?_⟩
    rw [tk,af5]
    rfl
  ·rintro _ _ ⟨⟨u,v,rfl⟩,rfl⟩
   rw [apC,aqC]
   refine ao1 (ao0 (i:=5) (j:=0) rfl rfl (aex (zq rfl ⟨vb _,_,aky hp,?_⟩)))
   show gD3 n=adN (yk rows wd cut g)
   rw [hn]
   rfl
theorem ahr {α:Type} [DecidableEq α]:∀ (l m:List α),l.Nodup->(∀ x∈l,x∈m)->m.length<=l.length->∀ x∈m,x∈l
 | [],m,_,_,hl,x,hx=>by
  have:m=[]:=atd.mp (Nat.le_zero.mp hl)
  rw [this] at hx
  exact hx
 | a :: l,m,nd,sub,hl,x,hx=>by
  have ha:=sub a (apJ ..)
  have hn:=aqp.mp nd
  have le:=as8 ha
  rw [apT] at hl
  by_cases e:x=a
  ·rw [e];exact apJ ..
  ·refine apG _ (ahr l (m.erase a) hn.2 (fun y hy=>?_) (by omega) x ((asw e).mpr hx))
   exact (asw (fun (z:y=a)=>hn.1 (z▸hy))).mpr (sub y (apG _ hy))
theorem len_sub {α:Type} [DecidableEq α]:∀ (l m:List α),l.Nodup->(∀ x∈l,x∈m)->l.length<=m.length
 | [],m,_,_=>ap9 _
 | a :: l,m,nd,sub=>by
  have ha:=sub a (apJ ..)
  have hn:=aqp.mp nd
  have le:=as8 ha
  have hp:0<m.length:=atn ha
  have:=len_sub l (m.erase a) hn.2 (fun y hy=>(asw (fun (z:y=a)=>hn.1 (z▸hy))).mpr (sub y (apG _ hy)))
  rw [apT]
  omega
theorem v7 {α β:Type} {f:α->β} {l1 l2:List β} (h:l1.Perm l2):∀ ts:List α,l2=ts.map f->∃ us:List α,us.Perm ts/\l1=us.map f:=by
 induction h with
 | nil=>intro ts e;exact⟨ts,.refl _,e⟩
 | cons x _ ih =>
  intro ts e
  cases ts with
  | nil=>cases e
  | cons t ts =>
   rw [apZ] at e
   injection e with e1 e2
   obtain⟨us,p,q⟩:=ih ts e2
   exact⟨t :: us,.cons t p,by rw [apZ,<- q,e1]⟩
 | swap x y l =>
  intro ts e
  match ts,e with
  | [],e=>cases e
  | [_],e=>cases e
  | a :: b :: ts,e =>
   simp only [apZ] at e
   injection e with e1 e2
   injection e2 with e2 e3
   exact⟨b :: a :: ts,.swap a b ts,by rw [apZ,apZ,e1,e2,e3]⟩
 | trans _ _ ih1 ih2 =>
  intro ts e
  obtain⟨us,p,q⟩:=ih2 ts e
  obtain⟨vs,p2,q2⟩:=ih1 us q
  exact⟨vs,p2.trans p,q2⟩
section
variable (rows:List (List Int)) (wd:Nat) (cut:Int)
structure LineOk (ring:Bool) (l:List Gt):Prop where
 op:∀ g∈l,opG rows wd cut g=true
 nd:l.Nodup
 ch:∀ (i:Nat) a b,l[i]?=some a->l[i+1]?=some b->yk rows wd cut a=some b
 ne:l≠[]
 last:∀ g,l.getLast?=some g->yk rows wd cut g=if ring=true then l.head? else none
structure WalkOk (s:Gt) (l:List Gt):Prop where
 op:∀ g∈l,opG rows wd cut g=true
 nd:l.Nodup
 ch:∀ (i:Nat) a b,l[i]?=some a->l[i+1]?=some b->yk rows wd cut a=some b
 hd:l.head?=some s
end
section
variable {rows:List (List Int)} {wd:Nat} {cut:Int}
theorem aiF {t n:Nat} {x y w:Int} (hx:0<=x/\x<n) (hy:0<=y/\y<t) (hw:w=0 \/ w=1):(x,y,w)∈yH t n:=by
 obtain⟨a,rfl⟩:=ate hx.1
 obtain⟨b,rfl⟩:=ate hy.1
 refine aqo.mpr ⟨a,aqa.mpr (by omega),aqo.mpr ⟨b,aqa.mpr (by omega),?_⟩⟩
 rcases hw with rfl | rfl
 ·exact apJ ..
 ·exact apG _ (apJ ..)
theorem amd {g:Gt} (o:opG rows wd cut g=true):yt rows wd g.1 g.2.1=true:=by
 unfold opG yO vL at o
 rw [apO,apO,apO] at o
 exact o.1.2.1
theorem mem_gates {g:Gt}:g∈yh rows wd cut↔opG rows wd cut g=true:=by
 rw [qt,ard]
 refine⟨fun h=>h.2,fun o=>⟨?_,o⟩⟩
 obtain⟨x,y,w⟩:=g
 have hw:=aat o
 obtain⟨a,b,c,d⟩:=aar (amd o)
 exact aiF ⟨a,b⟩ ⟨c,d⟩ hw
theorem gates_nd:(yh rows wd cut).Nodup:=by
 rw [qt]
 refine ((ae2 _ _).filter _).imp fun {a b} h e=>?_
 subst e
 unfold gLt at h
 omega
theorem abD {l:List Gt} (gd:Good wd rows) (o:∀ g∈l,opG rows wd cut g=true) (nd:l.Nodup):l.length<=98 :=
 ap1 (len_sub l (yh rows wd cut) nd fun x hx=>mem_gates.mpr (o x hx)) (acq gd)
theorem akA {s:Gt} (o:opG rows wd cut s=true):WalkOk rows wd cut s [s] :=
 ⟨fun g hg=>by rw [apS.mp hg];exact o,aqp.mpr ⟨aqD,arB⟩,fun i a b _ h=>(nomatch h),rfl⟩
theorem aiG {s n g:Gt} {l:List Gt} (W:WalkOk rows wd cut s l) (hl:l.getLast?=some g) (hn:yk rows wd cut g=some n) (ne:n≠s):WalkOk rows wd cut s (l++[n]):=by
 have hg:g∈l:=atR hl
 have hli:l[l.length - 1]?=some g:=by rw [<-asX];exact hl
 have pos:0<l.length:=atn hg
 have hnew:n∉l:=fun hm=>by
  obtain⟨i,hi⟩:=aqn hm
  match i,hi with
  | 0,hi =>
   have:=W.hd
   rw [asl,hi] at this
   exact ne (Option.some.inj this)
  | i+1,hi =>
   obtain⟨hlt,_⟩:=apE.mp hi
   have hi':l[i]?=some l[i]:=apA (by omega)
   have hc:=W.ch i _ _ hi' hi
   have e:=abB (W.op _ (apN hi')) (W.op _ hg) hc hn
   rw [e,<- hli] at hi'
   have:=(List.getElem?_inj (by omega) W.nd).mp hi'
   omega
 refine⟨fun x hx=>?_,?_,fun i a b ha hb=>?_,?_⟩
 ·rcases apW.mp hx with h | h
  ·exact W.op x h
  ·rw [apS.mp h];exact (aau (W.op g hg) hn).1
 ·refine ara.mpr ⟨W.nd,aqp.mpr ⟨aqD,arB⟩,fun a ha b hb e=>?_⟩
  rw [apS.mp hb] at e
  exact hnew (e▸ha)
 ·by_cases h:i+1<l.length
  ·rw [apL (by omega)] at ha
   rw [apL h] at hb
   exact W.ch i a b ha hb
  ·obtain⟨hlt,_⟩:=apE.mp hb
   rw [apX,aqw] at hlt
   have e:i=l.length - 1:=by omega
   rw [apL (by omega),e,hli] at ha
   rw [apQ (by omega),show i+1 - l.length=0 by omega] at hb
   cases ha
   cases hb
   exact hn
 ·cases l with
  | nil=>cases pos
  | cons a l=>exact W.hd
theorem acu {s g:Gt} {l:List Gt} (W:WalkOk rows wd cut s l) (hl:l.getLast?=some g) {ring:Bool} (h:yk rows wd cut g=if ring=true then some s else none):LineOk rows wd cut ring l where
 op:=W.op
 nd:=W.nd
 ch:=W.ch
 ne:=fun z=>by rw [z] at hl;cases hl
 last:=fun g' hg'=>by
  rw [hl] at hg'
  cases hg'
  rw [h,W.hd]
noncomputable def af6 (rows:List (List Int)) (wd:Nat) (cut:Int) (t:Bool×List Gt):Prop:=t.1=false->∀ h,t.2.head?=some h->yU rows wd cut h=none
theorem next_prev {g n:Gt} (o:opG rows wd cut g=true) (h:yk rows wd cut g=some n):yU rows wd cut n=some g:=by
 have c:zT rows wd (ahC rows cut g).1 (ahC rows cut g).2=true:=by
  unfold yk at h
  by_cases z:zT rows wd (ahC rows cut g).1 (ahC rows cut g).2=true
  ·exact z
  ·rw [if_neg z] at h;cases h
 obtain⟨m,a1,_,_,_,a2⟩:=vp o c
 rw [h] at a1
 cases a1
 exact a2
theorem prev_next {g n:Gt} (o:opG rows wd cut g=true) (h:yU rows wd cut g=some n):opG rows wd cut n=true/\yk rows wd cut n=some g:=by
 have c:zT rows wd (bhC rows cut g).1 (bhC rows cut g).2=true:=by
  unfold yU at h
  by_cases z:zT rows wd (bhC rows cut g).1 (bhC rows cut g).2=true
  ·exact z
  ·rw [if_neg z] at h;cases h
 obtain⟨m,a1,_,a3,_,a2⟩:=adL o c
 rw [h] at a1
 cases a1
 exact⟨a3,a2⟩
theorem adO {t:Bool×List Gt} (ne:t.2≠[]):∃ z,t.2.getLast?=some z/\z∈t.2:=⟨t.2.getLast ne,List.getLast?_eq_some_getLast ne,List.getLast_mem ne⟩
theorem ae6 {t:Bool×List Gt} (L:LineOk rows wd cut t.1 t.2) (st:af6 rows wd cut t) {g n:Gt} (o:opG rows wd cut g=true) (hn:n∈t.2) (h:yk rows wd cut g=some n):g∈t.2:=by
 obtain⟨i,hi⟩:=aqn hn
 match i,hi with
 | 0,hi =>
  have hh:t.2.head?=some n:=by rw [asl];exact hi
  cases hr:t.1 with
  | false =>
   have:=st hr n hh
   rw [next_prev o h] at this
   cases this
  | true =>
   obtain⟨z,hz,hm⟩:=adO L.ne
   have:=L.last z hz
   rw [hr,if_pos rfl,hh] at this
   rw [abB o (L.op z hm) h this]
   exact hm
 | i+1,hi =>
  obtain⟨hlt,_⟩:=apE.mp hi
  have hi':t.2[i]?=some t.2[i]:=apA (by omega)
  have hc:=L.ch i _ _ hi' hi
  have hm:=apN hi'
  rw [abB o (L.op _ hm) h hc]
  exact hm
theorem ae7 {t:Bool×List Gt} (L:LineOk rows wd cut t.1 t.2) {g n:Gt} (hg:g∈t.2) (h:yk rows wd cut g=some n):n∈t.2:=by
 obtain⟨i,hi⟩:=aqn hg
 obtain⟨hlt,_⟩:=apE.mp hi
 by_cases hl:i+1<t.2.length
 ·have hi':t.2[i+1]?=some t.2[i+1]:=apA hl
  have hc:=L.ch i _ _ hi hi'
  rw [h] at hc
  rw [Option.some.inj hc]
  exact apN hi'
 ·have e:i=t.2.length - 1:=by omega
  have hz:t.2.getLast?=some g:=by rw [asX,<- e];exact hi
  have:=L.last g hz
  rw [h] at this
  by_cases hr:t.1=true
  ·rw [if_pos hr] at this
   exact List.mem_of_head? this.symm
  ·rw [if_neg hr] at this
   cases this
theorem ame (gd:Good wd rows) {g:Gt} (o:opG rows wd cut g=true):zT rows wd (ahC rows cut g).1 (ahC rows cut g).2=true \/ zT rows wd (bhC rows cut g).1 (bhC rows cut g).2=true:=by
 have hw:=aat o
 obtain⟨x,y,w⟩:=g
 have o':yO rows wd cut x y w=true:=o
 unfold yO vL at o'
 rw [apO,apO,apO] at o'
 obtain⟨a0,a1,a2,a3⟩:=aar o'.1.2.1
 obtain⟨b0,b1,b2,b3⟩:=aar o'.1.2.2
 have h1:=gd.h1
 have w1:=gd.w1
 have cb:∀ {u v:Int},0<=u->u+1<wd->0<=v->v+1<rows.length->zT rows wd u v=true:=fun p q r s=>by
  unfold zT yt
  rw [decide_eq_true (by omega),decide_eq_true (by omega),decide_eq_true (by omega),decide_eq_true (by omega)]
  rfl
 unfold ahC bhC jM jN
 dsimp only at hw ⊢
 rcases hw with rfl | rfl
 ·have e1:px x 0=x+1:=rfl
  rw [e1] at b1
  cases hiB rows cut x y
  ·by_cases h:y+1<rows.length
   ·left;exact cb (by simp;omega) (by simp;omega) (by simp;omega) (by simp;omega)
   ·right;exact cb (by simp;omega) (by simp;omega) (by simp;omega) (by simp;omega)
  ·by_cases h:y+1<rows.length
   ·right;exact cb (by simp;omega) (by simp;omega) (by simp;omega) (by simp;omega)
   ·left;exact cb (by simp;omega) (by simp;omega) (by simp;omega) (by simp;omega)
 ·have e1:py y 1=y+1:=rfl
  rw [e1] at b3
  cases hiB rows cut x y
  ·by_cases h:x+1<wd
   ·right;exact cb (by simp;omega) (by simp;omega) (by simp;omega) (by simp;omega)
   ·left;exact cb (by simp;omega) (by simp;omega) (by simp;omega) (by simp;omega)
  ·by_cases h:x+1<wd
   ·left;exact cb (by simp;omega) (by simp;omega) (by simp;omega) (by simp;omega)
   ·right;exact cb (by simp;omega) (by simp;omega) (by simp;omega) (by simp;omega)
theorem aos (gd:Good wd rows) {t:Bool×List Gt} (L:LineOk rows wd cut t.1 t.2) (st:af6 rows wd cut t):2<=t.2.length:=by
 obtain⟨r,l⟩:=t
 match l,L,st with
 | [],L,_=>exact absurd rfl L.ne
 | [g],L,st =>
  have o:=L.op g (apJ ..)
  have hl:=L.last g rfl
  cases r with
  | true =>
   exact absurd rfl (aau o hl).2
  | false =>
   have hp:yU rows wd cut g=none:=st rfl g rfl
   have hl:yk rows wd cut g=none:=hl
   rcases ame gd o with c | c
   ·obtain⟨n,h,_⟩:=vp o c
    rw [hl] at h;cases h
   ·obtain⟨n,h,_⟩:=adL o c
    rw [hp] at h;cases h
 | _ :: _ :: _,_,_=>exact Nat.le_add_left 2 _
end
section
variable (rows:List (List Int)) (wd:Nat) (cut:Int)
noncomputable def flat (ts:List (Bool×List Gt)):List Gt:=ts.flatMap (·.2)
structure Told (ts:List (Bool×List Gt)):Prop where
 line:∀ t∈ts,LineOk rows wd cut t.1 t.2
 st:∀ t∈ts,af6 rows wd cut t
 nd:(flat ts).Nodup
 least:∀ t∈ts,t.1=true->∀ h,t.2.head?=some h->∀ g∈t.2,g=h \/ gLt h g
end
section
variable {rows:List (List Int)} {wd:Nat} {cut:Int} {ts:List (Bool×List Gt)}
theorem Told.op (T:Told rows wd cut ts) {g:Gt} (h:g∈flat ts):opG rows wd cut g=true:=by
 obtain⟨t,ht,hg⟩:=aqo.mp h
 exact (T.line t ht).op g hg
theorem Told.len (T:Told rows wd cut ts) (gd:Good wd rows):(flat ts).length<=98:=abD gd (fun g hg=>T.op hg) T.nd
theorem ae8:∀ (ts:List (Bool×List Gt)),(∀ t∈ts,2<=t.2.length)->2 * ts.length<=(flat ts).length
 | [],_=>apI _
 | t :: ts,h=>by
  have h1:=h t (apJ ..)
  have h2:=ae8 ts fun u hu=>h u (apG _ hu)
  show 2 * (ts.length+1)<=(t.2++flat ts).length
  rw [apX]
  omega
theorem Told.few (T:Told rows wd cut ts) (gd:Good wd rows):ts.length<=49:=by
 have h1:=ae8 ts fun t ht=>aos gd (T.line t ht) (T.st t ht)
 have h2:=T.len gd
 omega
theorem vq (ts:List (Bool×List Gt)) (t:Bool×List Gt):flat (ts++[t])=flat ts++t.2:=by
 unfold flat
 rw [aq0]
 simp
theorem Told.fresh (T:Told rows wd cut ts) {r:Bool} {l:List Gt} (L:LineOk rows wd cut r l) {s:Gt} (hs:l.head?=some s) (hn:s∉flat ts):∀ g∈l,g∉flat ts:=by
 have key:∀ (i:Nat) g,l[i]?=some g->g∉flat ts:=fun i=>by
  induction i with
  | zero =>
   intro g hg
   rw [asl,hg] at hs
   rw [Option.some.inj hs]
   exact hn
  | succ i ih =>
   intro g hg hm
   obtain⟨hlt,_⟩:=apE.mp hg
   have hi':l[i]?=some l[i]:=apA (by omega)
   have hc:=L.ch i _ _ hi' hg
   obtain⟨t,ht,hgt⟩:=aqo.mp hm
   exact ih _ hi' (aqo.mpr ⟨t,ht,ae6 (T.line t ht) (T.st t ht) (L.op _ (apN hi')) hgt hc⟩)
 intro g hg
 obtain⟨i,hi⟩:=aqn hg
 exact key i g hi
theorem Told.more (T:Told rows wd cut ts) {r:Bool} {l:List Gt} (L:LineOk rows wd cut r l) {s:Gt} (hs:l.head?=some s) (hn:s∉flat ts) (st:r=false->yU rows wd cut s=none) (le:r=true->∀ g∈l,g=s \/ gLt s g):Told rows wd cut (ts++[(r,l)]) where
 line:=fun t ht=>by
  rcases apW.mp ht with h | h
  ·exact T.line t h
  ·rw [apS.mp h];exact L
 st:=fun t ht=>by
  rcases apW.mp ht with h | h
  ·exact T.st t h
  ·rw [apS.mp h]
   intro hr h hh
   rw [show (r,l).2.head?=some s from hs] at hh
   rw [<-Option.some.inj hh]
   exact st hr
 nd:=by
  rw [vq]
  refine ara.mpr ⟨T.nd,L.nd,fun a ha b hb e=>?_⟩
  exact T.fresh L hs hn b hb (e▸ha)
 least:=fun t ht=>by
  rcases apW.mp ht with h | h
  ·exact T.least t h
  ·rw [apS.mp h]
   intro hr h hh
   rw [show (r,l).2.head?=some s from hs] at hh
   rw [<-Option.some.inj hh]
   exact le hr
theorem aot {r:Bool} {l:List Gt} (L:LineOk rows wd cut r l) {s:Gt} (hs:l.head?=some s) (hp:yU rows wd cut s=none):r=false:=by
 cases r with
 | false=>rfl
 | true =>
  obtain⟨z,hz,hm⟩:=adO (t:=(true,l)) L.ne
  have:=L.last z hz
  rw [if_pos rfl,hs] at this
  have:=next_prev (L.op z hm) this
  rw [hp] at this
  cases this
theorem amf (T:Told rows wd cut ts) (all:∀ g,opG rows wd cut g=true->yU rows wd cut g=none->g∈flat ts) {r:Bool} {l:List Gt} (L:LineOk rows wd cut r l) {s:Gt} (hs:l.head?=some s) (hn:s∉flat ts):r=true:=by
 cases r with
 | true=>rfl
 | false =>
  obtain⟨z,hz,hm⟩:=adO (t:=(false,l)) L.ne
  have hnone:yk rows wd cut z=none:=L.last z hz
  let U:=(yh rows wd cut).filter fun g=>decide (g∉flat ts)
  have memU:∀ g,g∈U↔opG rows wd cut g=true/\g∉flat ts:=fun g=>by
   show g∈List.filter _ _↔_
   rw [ard,mem_gates,decide_eq_true_eq]
  let pr:Gt->Gt:=fun g=>(yU rows wd cut g).getD g
  have prU:∀ g∈U,yU rows wd cut g=some (pr g)/\yk rows wd cut (pr g)=some g/\pr g∈U:=fun g hg=>by
   obtain⟨o,nf⟩:=(memU g).mp hg
   cases hp:yU rows wd cut g with
   | none=>exact absurd (all g o hp) nf
   | some p =>
    have e:pr g=p:=by show (yU rows wd cut g).getD g=p;rw [hp];rfl
    obtain⟨op,hnx⟩:=prev_next o hp
    rw [e]
    refine⟨rfl,hnx,(memU p).mpr ⟨op,fun hm=>?_⟩⟩
    obtain⟨t,ht,hpt⟩:=aqo.mp hm
    exact nf (aqo.mpr ⟨t,ht,ae7 (T.line t ht) hpt hnx⟩)
  have ndU:U.Nodup:=gates_nd.filter _
  have ndP:(U.map pr).Nodup:=by
   refine aru.mpr (ndU.imp_of_mem fun {a b} ha hb ne e=>ne ?_)
   have h1:=(prU a ha).2.1
   have h2:=(prU b hb).2.1
   rw [e,h2] at h1
   exact (Option.some.inj h1).symm
  have zU:z∈U:=(memU z).mpr ⟨L.op z hm,T.fresh L hs hn z hm⟩
  have:=ahr (U.map pr) U ndP (fun x hx=>by obtain⟨g,hg,rfl⟩:=ap3.mp hx;exact (prU g hg).2.2) (by rw [apC];exact apI _) z zU
  obtain⟨g,hg,rfl⟩:=ap3.mp this
  rw [(prU g hg).2.1] at hnone
  cases hnone
noncomputable def y7 (t:Bool×List Gt):PyData:=.tuple [.str (if t.1=true then "ring" else "run"),.tuple (t.2.map gD3)]
theorem ae9 (l:List Gt):zG (l.map gD3)=true:=by
 induction l with
 | nil=>rfl
 | cons g l ih=>show (zz (gD3 g) && zG (l.map gD3))=true;rw [ih];rfl
theorem af7 (t:Bool×List Gt):zz (y7 t)=true:=by
 show (zz (.str _) && (zz (.tuple (t.2.map gD3)) && true))=true
 rw [show zz (.tuple (t.2.map gD3))=zG (t.2.map gD3) from rfl,ae9]
 cases t.1 <;> decide +kernel
theorem acv:∀ l m:List Gt,vR (l.map gD3) (m.map gD3)=true
 | [],m=>by rw [asG,vR]
 | g :: l,[]=>rfl
 | (x,y,w) :: l,(x',y',w') :: m=>by
  rw [apZ,apZ,vR]
  split
  ·exact acv l m
  ·show aaN (.tuple [.int x,.int y,.int w]) (.tuple [.int x',.int y',.int w'])=true
   simp only [aaN,vR]
   split
   ·split
    ·split <;> rfl
    ·rfl
   ·rfl
theorem akB (t u:Bool×List Gt):aaN (y7 t) (y7 u)=true:=by
 unfold y7
 generalize (if t.1=true then ("ring":Str) else "run")=a
 generalize (if u.1=true then ("ring":Str) else "run")=b
 rw [aaN,vR]
 split
 ·rw [vR]
  split
  ·rfl
  ·rw [aaN];exact acv _ _
 ·rfl
theorem afa (l:List Gt):apP (l.map gD3)<=1:=by
 induction l with
 | nil=>exact ap9 _
 | cons g l ih=>exact Nat.max_le.mpr ⟨apI 1,ih⟩
theorem af8 (t:Bool×List Gt):(y7 t).depth<=3:=by
 show max 0 (max (apP (t.2.map gD3)+1) 0)+1<=3
 have:=afa t.2
 omega
theorem akC {a b:Gt} (h:gD3 a=gD3 b):a=b:=by
 obtain⟨x,y,w⟩:=a
 obtain⟨x',y',w'⟩:=b
 unfold gD3 j9 at h
 simp at h
 simp [h]
theorem akD (T:Told rows wd cut ts):SortOk "str" (ts.map y7) where
 plain:=fun d hd=>by obtain⟨t,_,rfl⟩:=ap3.mp hd;exact af7 t
 head:=fun d hd=>by obtain⟨t,_,rfl⟩:=ap3.mp hd;rfl
 cmp:=fun d hd e he=>by
  obtain⟨t,_,rfl⟩:=ap3.mp hd
  obtain⟨u,_,rfl⟩:=ap3.mp he
  exact akB t u
 depth:=fun d hd=>by obtain⟨t,_,rfl⟩:=ap3.mp hd;exact ap1 (af8 t) (by decide)
 nd:=by
  have h:=(List.pairwise_flatMap.mp T.nd).2
  refine aru.mpr (h.imp_of_mem fun {a b} ha hb hd e=>?_)
  unfold y7 at e
  have e2:a.2.map gD3=b.2.map gD3:=by
   injection e with e
   injection e with _ e
   injection e with e _
   injection e
  cases ha2:a.2 with
  | nil=>exact (T.line a ha).ne ha2
  | cons g l =>
   cases hb2:b.2 with
   | nil=>exact (T.line b hb).ne hb2
   | cons g' l' =>
    rw [ha2,hb2,apZ,apZ] at e2
    injection e2 with e2 _
    exact hd g (by rw [ha2];exact apJ ..) g' (by rw [hb2];exact apJ ..) (akC e2)
theorem Told.perm {us:List (Bool×List Gt)} (T:Told rows wd cut ts) (p:us.Perm ts):Told rows wd cut us where
 line:=fun t ht=>T.line t (p.mem_iff.mp ht)
 st:=fun t ht=>T.st t (p.mem_iff.mp ht)
 nd:=(p.flatMap_right _).nodup_iff.mpr T.nd
 least:=fun t ht=>T.least t (p.mem_iff.mp ht)
end
section
variable {K:apD} {f:Fx} {ρ:zp} {ta:TE} {P:PyData->Prop}
noncomputable def abE:PyData->Bool
 | .none=>true
 | _=>false
theorem acw {H:Hp} {d:PyData} {v:V} (r:Rep K H d v) (h:d=.none \/ ∃ ds,d=.tuple ds):decide (v=.non)=abE d:=by
 rcases h with rfl | ⟨ds,rfl⟩
 ·rw [show v=.non from r];rfl
 ·obtain⟨a,xs,rfl,_⟩:=rep_tuple.mp r
  rfl
theorem aou (h:PEd K f ta ρ fun d=>(d=.none \/ ∃ ds,d=.tuple ds)/\P (.bool (!abE d))):PEd K f (tOp (fun x y H Q=>y=.non/\Q (.bl (!decide (x=.non))) H) ta (tC .non)) ρ P:=fun σ H Q e q =>
 h σ H _ e fun d v H1 g1 r1 ⟨hd,p⟩=>⟨rfl,q _ _ H1 g1 (by show Rep K _ (.bool _) (.bl _);rw [acw r1 hd];rfl) p⟩
theorem amM (h:PEd K f ta ρ fun d=>(d=.none \/ ∃ ds,d=.tuple ds)/\P (.bool (abE d))):PEd K f (tOp (fun x y H Q=>y=.non/\Q (.bl (decide (x=.non))) H) ta (tC .non)) ρ P:=fun σ H Q e q =>
 h σ H _ e fun d v H1 g1 r1 ⟨hd,p⟩=>⟨rfl,q _ _ H1 g1 (by show Rep K _ (.bool _) (.bl _);rw [acw r1 hd];rfl) p⟩
end
noncomputable abbrev akE (K:apD):Sp:=spD K 3 amb fun c r=>∃ ring l,r=y7 (ring,l)/\LineOk c.1 c.2.1 c.2.2.1 ring l/\l.head?=some c.2.2.2
theorem aov (a b:Gt):aqc (gD3 a) (gD3 b)=decide (a=b):=by
 obtain⟨x,y,w⟩:=a
 obtain⟨x',y',w'⟩:=b
 show (decide (x=x') && (decide (y=y') && (decide (w=w') && true)))=_
 by_cases h1:x=x' <;> by_cases h2:y=y' <;> by_cases h3:w=w' <;> simp [h1,h2,h3]
theorem af9 (q:Option Gt):adN q=.none \/ ∃ ds,adN q=.tuple ds:=by
 cases q with
 | none=>exact .inl rfl
 | some g=>exact .inr ⟨_,rfl⟩
theorem amg (F:Def K mg "line_from" jY pM) (uan:mg "tuple"=none) (ubp:FnIn P w K mg base k "gate_ahead" ph (akz K)) :
  FnIn P w K mg base (k+1) "line_from" pM (akE K):=by
 refine F.ok sc_line_from rfl fun fa cdv A outer s H E hr=>⟨_,(zc (zD (i:=3) sc_line_from.nd rfl (Or.inl rfl) (yg (za (pv 2) zb))) (zc (zD (i:=4) sc_line_from.nd rfl (Or.inl rfl) (ze ubp hr rfl (za (pv 0) (za (pv 1) (za (pv 2) zb))))) (zc (adU aqx (PW.pt (aiR (zN ak3 (pv 4) aa3 (zP _)) (agm (zN (jH (K:=K) rfl hr.units) (pv 4) (pv 2) (zP _))))) (zc (yE (qS aqL aqE aqF ja (pv 3) (za (pv 4) zb))) (zg (zD (i:=4) sc_line_from.nd rfl (Or.inl rfl) (ze ubp hr rfl (za (pv 0) (za (pv 1) (za (pv 4) zb)))))))) (zg (zw (zR (za (qh (zN am1 (pv 4) aa3 (zP _)) zV zV) (za (yr (aaC (K:=K) rfl) rfl uan atf (za (pv 3) zb)) zb)))))))),?_⟩
 rintro f xs ⟨rows,wd,cut,g⟩ hl ⟨rfl,gd,o⟩
 try dsimp only [zH,zi]
 dsimp only at *
 refine adf (w:=w) (agZ (aaW (aej ?_)))
 walk_at "w"
 refine⟨show 3<5 by decide,fun D=>?_⟩
 refine qR (adg (zS (zr (rows,wd,cut,g) ?_)))
 walk_at "w"
 rintro _ rfl
 refine zj ?_
 refine qR (agX (fun ρ cs=>∃ l z,ρ=[some (.dat (tab rows)),some (.dat (.int cut)),some (.dat (gD3 g)),some (.own (f.M.length+0)),some (.dat (adN (yk rows wd cut z)))]/\cs=[.lst (l.map gD3)]/\WalkOk rows wd cut g l/\l.getLast?=some z) (fun _ cs=>match cs with | [.lst es]=>200 - es.length | _=>0) ⟨[g],g,rfl,rfl,akA o,rfl⟩ ?_)
 rintro _ _ ⟨l,z,rfl,rfl,W,hz⟩
 have oz:=W.op z (atR hz)
 have wl:=abD gd W.op W.nd
 have ml:(l.map gD3).length=l.length:=apC ..
 refine aoW (agw (yC (aou (zq rfl ⟨af9 _,?_⟩))))
 refine⟨_,rfl,?_⟩
 have fr:∀ x:PyData,ash (freed f.M.length [OC.lst (l.map gD3)]) [some (DV.dat (tab rows)),some (.dat (.int cut)),some (.dat (gD3 g)),some (.own (f.M.length+0)),some (.dat x)]=[some (.dat (tab rows)),some (.dat (.int cut)),some (.dat (gD3 g)),some (.dat (.list (l.map gD3))),some (.dat x)]:=fun x=>by simp [freed]
 cases hn:yk rows wd cut z with
 | none =>
  rw [show (!abE (adN none))=false from rfl,if_neg apB,if_neg apB]
  refine adh ?_
  rw [fr]
  refine yL (abe (zJ (ahR (yC (amM (zq rfl ⟨.inl rfl,_,rfl,?_⟩))))))
  rw [show abE (adN none)=true from rfl,if_pos rfl]
  walk_at "w"
  exact⟨false,l,rfl,acu W hz (by rw [hn];rfl),W.hd⟩
 | some n =>
  rw [show (!abE (adN (some n)))=true from rfl,if_pos rfl]
  rw [show adN (some n)=gD3 n from rfl]
  refine yC (jF (zq rfl (zq rfl ⟨rfl,rfl,atA rfl,_,rfl,?_⟩)))
  rw [if_pos rfl,aov]
  by_cases ng:n=g
  ·rw [decide_eq_true ng,show (!true)=false from rfl,if_neg apB]
   refine adh ?_
   rw [fr]
   refine yL (abe (zJ (ahR (yC (amM (zq rfl ⟨.inr ⟨_,rfl⟩,_,rfl,?_⟩))))))
   rw [show abE (gD3 n)=false from rfl,if_neg apB]
   walk_at "w"
   exact⟨true,l,rfl,acu W hz (by rw [hn,ng];rfl),W.hd⟩
  ·rw [decide_eq_false ng,show (!false)=true from rfl,if_pos rfl]
   have W2:=aiG W hz hn ng
   have wl2:=abD gd W2.op W2.nd
   rw [apX,aqw] at wl2
   refine qR (agY (i:=3) (j:=0) rfl rfl (by omega) (aex (zq rfl ?_)))
   refine adg (zS (zr (rows,wd,cut,n) ?_))
   have on:=(aau oz hn).1
   walk_at "w"
   rintro _ rfl
   refine zj ⟨⟨l++[n],n,rfl,?_,W2,by simp⟩,?_⟩
   ·show [OC.lst (l.map gD3++[gD3 n])]=[OC.lst ((l++[n]).map gD3)]
    rw [ap6]
    rfl
   ·show 200 - (l.map gD3++[gD3 n]).length<200 - (l.map gD3).length
    rw [apX,aqw]
    omega
noncomputable abbrev ahs (K:apD):Sp:=spN K 2 (fun (c:List (List Int)×Nat×Int) xs=>xs=[.dat (tab c.1),.dat (.int c.2.2)]/\Good c.2.1 c.1) fun c es=>∃ ts,es=ts.map y7/\Told c.1 c.2.1 c.2.2 ts/\(∀ g,opG c.1 c.2.1 c.2.2 g=true->g∈flat ts)/\es.Pairwise fun d e=>ltD d e=true
noncomputable def inB (rows:List (List Int)) (wd:Nat) (cut:Int) (g:Gt):Bool:=!zT rows wd (bhC rows cut g).1 (bhC rows cut g).2
theorem akF {rows:List (List Int)} {wd:Nat} {cut:Int} {g:Gt} (o:opG rows wd cut g=true):inB rows wd cut g=true↔yU rows wd cut g=none:=by
 unfold inB
 by_cases h:zT rows wd (bhC rows cut g).1 (bhC rows cut g).2=true
 ·obtain⟨n,hn,_⟩:=adL o h
  rw [h,hn]
  simp
 ·rw [Bool.not_eq_true] at h
  unfold yU
  rw [h]
  simp
theorem akG (F:Def K mg "lines" aa0 pA) (uaP:mg "set"=none) (uaQ:mg "sorted"=none) (uaj:FnIn P w K mg base k "ask_table" pf (aeV K)) (ubD:FnIn P w K mg base k "gates" pA (ahh K)) (ubE:FnIn P w K mg base k "comes_in" ph (ahq K)) (ubF:FnIn P w K mg base k "line_from" pM (akE K)):FnIn P w K mg base (k+1) "lines" pA (ahs K):=by
 refine F.okN sc_lines rfl fun fa cdv A outer s H E hr=>⟨_,(zc (yE (ze uaj hr rfl (za (pv 0) zb))) (zc (zD (i:=2) sc_lines.nd rfl (Or.inl rfl) (ze ubD hr rfl (za (pv 0) (za (pv 1) zb)))) (zc (zD (i:=3) sc_lines.nd rfl (Or.inl rfl) (zx (abl (K:=K) rfl) (yc (N:=pG) (own:=1) (fr:=[0,1]) ⟨rfl,by decide +kernel,of_decide_eq_true (by kernel_rfl),of_decide_eq_true (by kernel_rfl),of_decide_eq_true (by kernel_rfl),rfl⟩ rfl (zX (K:=K) rfl (pv 2)) (fun _ _ _ _=>(zk (i:=0) (show (pG:List Str).Nodup by decide +kernel) rfl (Or.inl rfl) (Or.inr rfl))) (fun _ _ _ _=>(acR (z5 (K:=K) rfl (ze ubE hr rfl (za (pv 1) (za (pv 2) (za (pv 0) zb)))) (fun _=>rfl)))) (fun _ _ _ _=>(pv 0)) rfl rfl (fun _=>rfl)) (pv 2))) (zc (zD (i:=4) sc_lines.nd rfl (Or.inl rfl) (yg zb)) (zc (zD (i:=5) sc_lines.nd rfl (Or.inl rfl) (afv (adj (w:=w) rfl) rfl uaP PyProof.Rows.boot_set)) (zc (jq aqx rfl (zX (K:=K) rfl (pv 3)) (zk (i:=6) sc_lines.nd rfl (Or.inl rfl) (Or.inr rfl)) (zg (yq (zN (afK (w:=w) (K:=K) rfl rfl hr.units) (pv 6) (pv 5) rfl) (zc (zD (i:=7) sc_lines.nd rfl (Or.inl rfl) (ze ubF hr rfl (za (pv 0) (za (pv 1) (za (pv 6) zb))))) (zc (yE (qS aqL aqE aqF ja (pv 4) (za (pv 7) zb))) (zg (jq aqx rfl (vP (K:=K) rfl (zM (yX (K:=K) rfl) (pv 7) zd (fun _ _=>rfl))) (zk (i:=8) sc_lines.nd rfl (Or.inl rfl) (Or.inr rfl)) (zg (yE (anD (w:=w) rfl atO PySem.F.type_set_add (ajQ (w:=w) (K:=K) rfl rfl hr.units) (pv 5) (za (pv 8) zb)))))))) zK))) (zg (zw (zy (ac6 (K:=K) rfl hr.units) rfl uaQ PyProof.Rows.boot_sorted (za (pv 4) zb)))))))))),?_⟩
 rintro f xs ⟨rows,wd,cut⟩ hl ⟨rfl,gd⟩
 try dsimp only [zH,zi]
 dsimp only at *
 have gl:=acq (cut:=cut) gd
 refine abm (abf (zr (rows,wd) ?_))
 walk_at "w"
 rintro _ rfl
 refine abm (zS (PEdO.ped (ac1 (rows,wd,cut) ?_)))
 walk_at "w"
 rintro _ rfl
 dsimp only
 rw [<-qt]
 refine zj ?_
 refine abm (zS (afG (PEdO.ped (aai (yM (zq rfl ⟨_,rfl,fun n ρ es=>(∃ u,ρ=[u,some (.dat (tab rows)),some (.dat (.int cut))])/\es=(((yh rows wd cut).take n).filter (inB rows wd cut)).map gD3,⟨⟨_,rfl⟩,rfl⟩,?_,?_⟩))))))
 ·rintro D n d ρ' es hd ⟨⟨u,rfl⟩,rfl⟩
  rw [apM] at hd
  cases hq:(yh rows wd cut)[n]? with
  | none=>rw [hq] at hd;cases hd
  | some q =>
   rw [hq] at hd
   cases hd
   have oq:=mem_gates.mp (apN hq)
   have tk:(yh rows wd cut).take (n+1)=(yh rows wd cut).take n++[q]:=by
    rw [asj,hq]
    rfl
   have len:((((yh rows wd cut).take n).filter (inB rows wd cut)).map gD3).length<1000:=by
    rw [apC]
    have a1:=arn (inB rows wd cut) ((yh rows wd cut).take n)
    rw [aqi] at a1
    omega
   refine zj (yW (zr (rows,wd,cut,q) ?_))
   walk_at "w"
   rintro _ rfl
   dsimp only
   refine⟨_,rfl,?_⟩
   refine j8 (fun h=>?_) fun h=>?_
   ·refine yD len ?_
    walk_at "w"
    rw [tk,arl,ap6,aqV,show inB rows wd cut q=true from h,if_pos rfl]
    rfl
   ·refine⟨⟨_,rfl⟩,?_⟩
    rw [tk,arl,ap6,aqV,show inB rows wd cut q=false from h,if_neg apB]
    simp
 ·rintro ρ' es ⟨_,rfl⟩
  rw [apC,aqC]
  have il:((yh rows wd cut).filter (inB rows wd cut)).length<=98:=ap1 (arn _ _) gl
  refine⟨_,rfl,zq rfl ⟨_,rfl,by rw [apC,apC];omega,?_⟩⟩
  refine zj ?_
  dsimp only
  rw [<-ap6]
  refine alu (w:=w) (ajO (aaW (aej ?_)))
  walk_at "w"
  refine⟨show 4<9 by decide,fun D1=>?_⟩
  refine ajO (anE ⟨show 5<9 by decide,fun D2=>?_⟩)
  refine anB (agW (yM (zq rfl ?_)))
  generalize hS:(yh rows wd cut).filter (inB rows wd cut)++yh rows wd cut=S
  generalize hG:PyData.list (ash gD3 (yh rows wd cut))=G
  refine⟨_,rfl,fun i ρ cs=>∃ ts u v x,ρ=[some (.dat (tab rows)),some (.dat (.int cut)),some (.dat G),some (.dat (.list (S.map gD3))),some (.own (f.M.length+0)),some (.own (f.M.length+1)),u,v,x]/\cs=[.lst (ts.map y7),.set ((flat ts).map gD3).reverse]/\Told rows wd cut ts/\∀ j g,j<i->S[j]?=some g->g∈flat ts,?_,?_,?_⟩
  ·exact⟨[],_,_,_,rfl,rfl,⟨(fun _ h=>nomatch h),(fun _ h=>nomatch h),arB,(fun _ h=>nomatch h)⟩,fun j g h=>absurd h (aqR _)⟩
  ·rintro i d _ _ hd ⟨ts,u,v,x,rfl,rfl,T,past⟩
   rw [apM] at hd
   cases hq:S[i]? with
   | none=>rw [hq] at hd;cases hd
   | some q =>
    rw [hq] at hd
    cases hd
    have oq:opG rows wd cut q=true:=by
     have hm:=apN hq
     rw [<-hS] at hm
     rcases apW.mp hm with h | h
     ·exact mem_gates.mp (ard.mp h).1
     ·exact mem_gates.mp h
    have memk:(gD3 q∈((flat ts).map gD3).reverse)↔q∈flat ts:=by
     rw [aqg,ap3]
     exact⟨fun⟨a,ha,e⟩=>adM e▸ha,fun h=>⟨q,h,rfl⟩⟩
    refine zj (apw (aoY (i:=5) (j:=1) rfl rfl (aex (zq rfl ⟨vb _,?_⟩))))
    rw [if_pos rfl]
    by_cases hin:q∈flat ts
    ·rw [decide_eq_true (memk.mpr hin),show (!true)=false from rfl,if_neg apB]
     refine anA ⟨ts,_,_,_,rfl,rfl,T,fun j g hj hg=>?_⟩
     rcases as9.mp hj with h | h
     ·exact past j g h hg
     ·rw [h,hq] at hg
      cases hg
      exact hin
    ·rw [decide_eq_false (fun z=>hin (memk.mp z)),show (!false)=true from rfl,if_pos rfl]
     refine qR (adg (zS (zr (rows,wd,cut,q) ?_)))
     walk_at "w"
     rintro _ ⟨ring,l,rfl,L,hh⟩
     dsimp only at L hh
     have T2:Told rows wd cut (ts++[(ring,l)]):=by
      by_cases hi:i<((yh rows wd cut).filter (inB rows wd cut)).length
      ·have hp:yU rows wd cut q=none:=by
        rw [<-hS,apL hi] at hq
        exact (akF oq).mp (ard.mp (apN hq)).2
       have r0:=aot L hh hp
       exact T.more L hh hin (fun _=>hp) fun z=>by rw [r0] at z;cases z
      ·have all:∀ g,opG rows wd cut g=true->yU rows wd cut g=none->g∈flat ts:=fun g og hp=>by
        have hm:g∈(yh rows wd cut).filter (inB rows wd cut):=ard.mpr ⟨mem_gates.mpr og,(akF og).mpr hp⟩
        obtain⟨j,hj⟩:=aqn hm
        obtain⟨hlt,_⟩:=apE.mp hj
        refine past j g (by omega) ?_
        rw [<-hS,apL hlt]
        exact hj
       have r1:=amf T all L hh hin
       refine T.more L hh hin (fun z=>by rw [r1] at z;cases z) fun _ g hg=>?_
       have fr:=T.fresh L hh hin g hg
       obtain⟨j,hj⟩:=aqn (mem_gates.mpr (L.op g hg))
       have hq':=hq
       rw [<-hS,apQ (by omega)] at hq'
       have pw:(yh rows wd cut).Pairwise gLt:=by rw [qt];exact (ae2 _ _).filter _
       obtain⟨l1,e1⟩:=apE.mp hj
       obtain⟨l2,e2⟩:=apE.mp hq'
       rcases Nat.lt_trichotomy j (i - ((yh rows wd cut).filter (inB rows wd cut)).length) with h | h | h
       ·refine absurd (past (j+((yh rows wd cut).filter (inB rows wd cut)).length) g (by omega) ?_) fr
        rw [<-hS,apQ (by omega),Nat.add_sub_cancel]
        exact hj
       ·left
        rw [<-e1,<- e2]
        congr 1
       ·right
        rw [<-e1,<- e2]
        exact aro.mp pw _ _ l2 l1 h
     have hf:=T2.len gd
     have nd2:=T2.nd
     rw [vq] at nd2 hf
     have few:=T.few gd
     refine zj ?_
     refine qR (agY (i:=4) (j:=0) rfl rfl (by rw [apC];omega) (aex (zq rfl ?_)))
     refine agW (aee (aaB (zq rfl ?_)))
     walk_at "w"
     refine⟨fun m ρ cs=>∃ x,ρ=[some (.dat (tab rows)),some (.dat (.int cut)),some (.dat G),some (.dat (.list (S.map gD3))),some (.own (f.M.length+0)),some (.own (f.M.length+1)),some (.dat (gD3 q)),some (.dat (y7 (ring,l))),x]/\cs=[.lst ((ts++[(ring,l)]).map y7),.set ((flat ts++l.take m).map gD3).reverse],?_,?_,?_⟩
     ·refine⟨_,rfl,?_⟩
      rw [List.take_zero,aqe,ap6]
      rfl
     ·rintro m d _ _ hd ⟨x,rfl,rfl⟩
      rw [apM] at hd
      cases hg:l[m]? with
      | none=>rw [show (ring,l).2[m]?=none from hg] at hd;cases hd
      | some g =>
       rw [show (ring,l).2[m]?=some g from hg] at hd
       cases hd
       have tk:l.take (m+1)=l.take m++[g]:=by
        rw [asj,hg]
        rfl
       have sp:l=l.take m++g :: l.drop (m+1):=by
        obtain⟨hlt,e⟩:=apE.mp hg
        rw [<-e,<- List.drop_eq_getElem_cons hlt,aso]
       have hnew:g∉flat ts++l.take m:=fun z=>by
        have nd3:(flat ts++l).Nodup:=nd2
        rw [sp,<- aqI] at nd3
        exact (ara.mp nd3).2.2 g z g (apJ ..) rfl
       have len:(((flat ts++l.take m).map gD3).reverse).length<300:=by
        rw [asD,apC,apX,aqi]
        have:(flat ts++l).length<=98:=hf
        rw [apX] at this
        omega
       refine zj (aoZ (i:=5) (j:=1) rfl rfl len (aex (zq rfl ⟨vb _,fun z=>?_,fun _=>?_⟩)))
       ·rw [aqg,ap3] at z
        obtain⟨a,ha,e⟩:=z
        exact absurd (adM e▸ha) hnew
       ·refine⟨_,rfl,?_⟩
        show [OC.lst _,OC.set (gD3 g :: ((flat ts++l.take m).map gD3).reverse)]=_
        rw [tk,<- aqI,ap6 (l₁:=flat ts++l.take m),arz]
        rfl
     ·rintro _ _ ⟨x,rfl,rfl⟩
      refine⟨ts++[(ring,l)],_,_,_,rfl,?_,T2,fun j g hj hg=>?_⟩
      ·rw [apC,show (ring,l).2.length=l.length from rfl,aqC,vq]
      ·rw [vq]
       rcases as9.mp hj with h | h
       ·exact aqT _ (past j g h hg)
       ·rw [h,hq] at hg
        cases hg
        exact apR _ (List.mem_of_head? hh)
  ·rintro _ _ ⟨ts,u,v,x,rfl,rfl,T,past⟩
   have few:=T.few gd
   refine alv (aek (ajB "str" (zq (i:=4) (d:=.list (ts.map y7)) ?_ ⟨_,rfl,akD T,by rw [apC];omega,.inl (by rw [apC];omega),fun es pm up=>?_⟩)))
   ·show some (freed _ _ _)=_
    simp [freed]
   ·obtain⟨us,p,rfl⟩:=v7 pm ts rfl
    refine⟨us,rfl,T.perm p,fun g og=>?_,up⟩
    have hm:g∈S:=by rw [<-hS];exact apR _ (mem_gates.mpr og)
    obtain⟨j,hj⟩:=aqn hm
    obtain⟨hlt,_⟩:=apE.mp hj
    exact (p.flatMap_right _).mem_iff.mpr (past j g (by rw [apC];exact hlt) hj)
open PySem PySem.NumText PySem.Spec PyProof.Rows L2
noncomputable abbrev cpl (z:Str):List Nat:=z.cps.toList
theorem str_eq {x y:Str}:x=y↔cpl x=cpl y:=⟨fun h=>h▸rfl,fun h=>by
 obtain⟨⟨x⟩⟩:=x
 obtain⟨⟨y⟩⟩:=y
 have h:x=y:=h
 rw [h]⟩
theorem yx (z:Str):(cpl z).length=z.length:=by
 show z.cps.toList.length=z.cps.size
 simp
noncomputable def mkS (l:List Nat):Str:=⟨l.toArray⟩
theorem adP (l:List Nat):cpl (mkS l)=l:=by
 show l.toArray.toList=l
 simp
theorem akH (z:Str):mkS (cpl z)=z:=str_eq.mpr (adP _)
noncomputable def dig (c:Nat):Bool:=decide (48<=c/\c<=57)
noncomputable def aac (l:List Nat):Bool:=l.head? == some 45
noncomputable def jJ (l:List Nat):List Nat:=if aac l then l.drop 1 else l
noncomputable def aaQ (l:List Nat):Bool:=decide (1<=(jJ l).length/\(jJ l).length<=11) && ((jJ l).all dig && (decide ((jJ l).head?≠some 48) || decide (l=[48])))
noncomputable def aiH (l:List Nat):Int:=if aac l then -((digitsVal (jJ l):Nat):Int) else ((digitsVal (jJ l):Nat):Int)
theorem adQ (z:Str):asS z "-"=aac (cpl z):=by
 have h:=StrLaws.subAt_one z 45 0
 have e:(("-":Str))=⟨#[45]⟩:=rfl
 unfold asS aac
 rw [e,ar4,apO,decide_eq_true_eq,beq_iff_eq]
 rw [h]
 show (cpl z)[0]?=some 45↔_
 cases cpl z <;> simp
theorem aga {z:Str} (h:1<=z.length):arc z (some 1) none=mkS ((cpl z).drop 1):=by
 have hl:=yx z
 rw [ato (by rw [hl];omega)]
 unfold mkS
 congr 2
 show ((cpl z).drop 1).take _=_
 rw [arH]
 rw [arW,hl]
 show _<=((((cpl z).length:Nat):Int) - 1).toNat
 omega
theorem aiI (z:Str):arc z (some 0) none=z:=by
 have hl:=yx z
 rw [ato (by omega)]
 rw [str_eq]
 show (((cpl z).drop 0).take _).toArray.toList=_
 rw [List.drop_zero,arH (by show _<=((((cpl z).length:Nat):Int) - 0).toNat;omega)]
theorem akI (z:Str):arc z (some (if aac (cpl z)=true then 1 else 0)) none=mkS (jJ (cpl z)):=by
 unfold jJ
 cases h:aac (cpl z) with
 | false =>
  rw [if_neg apB,if_neg apB,aiI,akH]
 | true =>
  rw [if_pos rfl,if_pos rfl]
  refine aga ?_
  rw [<-yx]
  unfold aac at h
  cases e:cpl z with
  | nil=>rw [e] at h;cases h
  | cons a l=>simp
theorem agb {l:List Nat} (h:l.all dig=true):AllDigits l:=fun c hc=>by
 have:=aqU.mp h c hc
 unfold dig at this
 exact of_decide_eq_true this
theorem int_text {z:Str} (h:aaQ (cpl z)=true):PySem.intText? z=some (aiH (cpl z))/\z.length<=12:=by
 have hl:=yx z
 unfold aaQ at h
 rw [apO,apO,decide_eq_true_eq] at h
 obtain⟨⟨h1,h2⟩,h3,_⟩:=h
 have ad:=agb h3
 unfold aiH
 cases e:aac (cpl z) with
 | false =>
  unfold jJ at h1 h2 ad
  rw [e,if_neg apB] at h1 h2 ad
  refine⟨?_,by omega⟩
  rw [if_neg apB]
  unfold jJ
  rw [e,if_neg apB]
  exact intText_digits ad (by intro q;rw [show z.cps.toList=cpl z from rfl] at q;rw [q] at h1;simp at h1) (by omega)
 | true =>
  unfold jJ at h1 h2 ad
  rw [e,if_pos rfl] at h1 h2 ad
  unfold aac at e
  obtain⟨r,er⟩:∃ r,cpl z=45 :: r:=by
   cases q:cpl z with
   | nil=>rw [q] at e;cases e
   | cons a l =>
    rw [q] at e
    have:a=45:=by simpa using e
    exact⟨l,by rw [this]⟩
  rw [er] at h1 h2 ad hl
  simp only [List.drop_succ_cons,List.drop_zero] at h1 h2 ad
  have hr:r≠[]:=by rintro rfl;simp at h1
  refine⟨?_,by simp only [apT] at hl;omega⟩
  rw [if_pos rfl]
  unfold jJ aac
  rw [er]
  exact intText_neg er ad hr (by simp only [apT] at hl;omega)
theorem aiJ (c:Nat):(!(aq7 ("0123456789":Str) ⟨#[c]⟩ 0 ("0123456789":Str).length 1).isEmpty)=dig c:=by
 rw [StrLaws.found_one]
 have e:("0123456789":Str).cps.toList=[48,49,50,51,52,53,54,55,56,57]:=rfl
 rw [e]
 unfold dig
 rw [decide_eq_decide]
 simp only [apK,aqD,or_false]
 omega
open PySem PySem.NumText PySem.Spec PyProof.Rows L2
structure Tx (B T:Nat) (z:Str):Prop where
 ch:∀ c∈cpl z,c<128
 len:z.length<=T
 sep:(cpl z).countP (fun c=>c == 32 || c == 10)<=B
theorem Tx.ok {B T:Nat} {z:Str} (h:Tx B T z):(PyData.str z).canLay0=true:=by
 show atp z=true
 unfold atp
 rw [Array.all_eq_true]
 intro i hi
 refine decide_eq_true (asd (h.ch _ ?_) (by decide))
 show z.cps[i]∈z.cps.toList
 exact Array.getElem_mem_toList hi
theorem Tx.imp {B T B' T':Nat} {z:Str} (h:Tx B T z) (hB:B<=B') (hT:T<=T'):Tx B' T' z:=⟨h.ch,ap1 h.len hT,ap1 h.sep hB⟩
theorem aow {c:Nat} (h:c<128):(PyData.str ⟨#[c]⟩).canLay0=true:=by
 show atp ⟨#[c]⟩=true
 unfold atp
 simp
 omega
theorem aht:(30000:Nat)<=sizeLine:=by decide
noncomputable def ym (c:Nat):List (List Nat)->List Nat
 | []=>[]
 | [x]=>x
 | x :: y :: r=>x++c :: ym c (y :: r)
theorem qa (x y:Str):cpl (x++y)=cpl x++cpl y:=by
 show (x.cps++y.cps).toList=_
 rw [Array.toList_append]
theorem yP (c:Nat):∀ ts:List Str,cpl (ar1 ⟨#[c]⟩ ts)=ym c (ts.map cpl)
 | []=>rfl
 | [x]=>rfl
 | x :: y :: r=>by
  show cpl (x++⟨#[c]⟩++ar1 ⟨#[c]⟩ (y :: r))=cpl x++c :: ym c ((y :: r).map cpl)
  rw [qa,qa,yP c (y :: r),aqI]
  rfl
theorem vc (p:Nat->Bool) (c:Nat):∀ L:List (List Nat),L≠[]->(ym c L).countP p+(if p c then 1 else 0)=(L.map (·.countP p)).sum+L.length * (if p c then 1 else 0)
 | [],h=>absurd rfl h
 | [x],_=>by simp [ym]
 | x :: y :: r,_=>by
  have ih:=vc p c (y :: r) (by simp)
  have e:(c :: ym c (y :: r)).countP p=(ym c (y :: r)).countP p+(if p c then 1 else 0):=List.countP_cons
  show (x++c :: ym c (y :: r)).countP p+_=_
  rw [List.countP_append,e,apZ,at6,apT,aue]
  omega
theorem abF {c:Nat}:∀ {L:List (List Nat)} {a:Nat},a∈ym c L->a=c \/ ∃ x∈L,a∈x
 | [x],a,h=>.inr ⟨x,apS.mpr rfl,h⟩
 | x :: y :: r,a,h=>by
  have h:a∈x++c :: ym c (y :: r):=h
  rcases apW.mp h with h | h
  ·exact .inr ⟨x,apJ ..,h⟩
  ·rcases apK.mp h with h | h
   ·exact .inl h
   ·rcases abF h with h | ⟨z,hz,h⟩
    ·exact .inl h
    ·exact .inr ⟨z,apG _ hz,h⟩
theorem akJ (z:Str) (c:Nat):arL z ⟨#[c]⟩≠[]:=fun h=>by
 have:=split_pos z ⟨#[c]⟩
 rw [h] at this
 simp at this
theorem agc (z:Str) (c:Nat):cpl z=ym c ((arL z ⟨#[c]⟩).map cpl):=by
 rw [<-yP,StrLaws.join_split]
noncomputable abbrev agd (c:Nat):Bool:=c == 32 || c == 10
theorem amh {c:Nat} (hc:c=32 \/ c=10):agd c=true:=by rcases hc with rfl | rfl <;> rfl
theorem ami {B T:Nat} {ts:List Str} {c:Nat} (hc:c=32 \/ c=10) (h:∀ t∈ts,∀ a∈cpl t,a<128) (h1:(ts.map fun t=>(cpl t).countP agd).sum+ts.length<=B+1) (h2:(ts.map (·.length)).sum+ts.length<=T+1) (h3:T+1<=16777216) :
  JoinOk ⟨#[c]⟩ ts=true/\Tx B T (arD ⟨#[c]⟩ ts):=by
 have ej:arD ⟨#[c]⟩ ts=ar1 ⟨#[c]⟩ ts:=aqG _ _
 refine⟨?_,?_⟩
 ·unfold JoinOk
  rw [Bool.not_eq_true',StrLaws.joinTotal]
  unfold atZ
  refine decide_eq_false ?_
  rw [sizeLine_eq]
  have:(⟨#[c]⟩:Str).length=1:=rfl
  rw [this,Nat.mul_one]
  omega
 rw [ej]
 cases ts with
 | nil =>
  refine⟨fun a ha=>?_,?_,?_⟩
  ·cases ha
  ·exact ap9 _
  ·exact ap9 _
 | cons t ts =>
  have hn:(t :: ts).map cpl≠[]:=by simp
  have e1:=vc agd c _ hn
  have e2:=vc (fun _=>true) c _ hn
  rw [<-yP,aqJ,apC] at e1 e2
  rw [amh hc] at e1
  simp only [if_true,Nat.mul_one] at e1 e2
  rw [List.countP_true,yx] at e2
  have e3:((t :: ts).map ((fun x=>x.length) ∘ cpl))=(t :: ts).map (·.length):=arh fun v _=>yx v
  rw [e3] at e2
  have e4:((t :: ts).map ((fun x=>x.countP agd) ∘ cpl))=(t :: ts).map fun t=>(cpl t).countP agd:=rfl
  rw [e4] at e1
  refine⟨fun a ha=>?_,by omega,?_⟩
  ·rw [yP] at ha
   rcases abF ha with rfl | ⟨x,hx,ha⟩
   ·rcases hc with rfl | rfl <;> decide
   ·obtain⟨v,hv,rfl⟩:=ap3.mp hx
    exact h v hv a ha
  ·show (cpl _).countP agd<=B
   omega
open PySem PySem.NumText PySem.Spec PyProof.Rows L2
theorem qK (m:Nat):cpl (aqh (toString ((m:Nat):Int)))=(aqv 10 m).map aqz:=PySem.W.KIN.signs_num m
theorem yQ {m c:Nat} (h:c∈(aqv 10 m).map aqz):48<=c/\c<=57:=by
 obtain⟨ch,hch,rfl⟩:=ap3.mp h
 exact digit_range (Nat.isDigit_of_mem_toDigits (by decide) (by decide) hch)
theorem acx (i:Int) (h:i.natAbs<10 ^ 10):(∀ c∈cpl (aqh (toString i)),c=45 \/ (48<=c/\c<=57))/\(aqh (toString i)).length<=11:=by
 cases i with
 | ofNat m =>
  have hm:m<10 ^ 10:=h
  have e:=qK m
  refine⟨fun c hc=>?_,?_⟩
  ·have hc:c∈cpl (aqh (toString ((m:Nat):Int))):=hc
   rw [e] at hc
   exact .inr (yQ hc)
  ·have:=asT (n:=(m:Int)) (by omega) (by omega)
   exact ap1 this (by decide)
 | negSucc m =>
  have hm:m+1<10 ^ 10:=h
  have e:cpl (aqh (toString (Int.negSucc m)))=45 :: cpl (aqh (toString (((m+1:Nat)):Int))):=by
   show (aqh ("-"++toString (m+1))).cps.toList=45 :: (aqh (toString (m+1))).cps.toList
   rw [signs_ofString,signs_ofString,arV]
   rfl
  have l:=asT (n:=((m+1:Nat):Int)) (by omega) (by omega)
  refine⟨fun c hc=>?_,?_⟩
  ·rw [e] at hc
   rcases apK.mp hc with rfl | hc
   ·exact .inl rfl
   ·rw [qK] at hc
    exact .inr (yQ hc)
  ·rw [<-yx,e,apT,yx]
   omega
theorem age {i:Int} (h:i.natAbs<10 ^ 10):Tx 0 11 (aqh (toString i)):=by
 obtain⟨h1,h2⟩:=acx i h
 refine⟨fun c hc=>?_,h2,ars (List.countP_eq_zero.mpr fun c hc=>?_)⟩
 ·have:=h1 c hc
  omega
 ·have:=h1 c hc
  show ¬ (c == 32 || c == 10)=true
  rw [Bool.or_eq_true,beq_iff_eq,beq_iff_eq]
  omega
noncomputable def jh (c:Nat):List Nat->List (List Nat)
 | []=>[[]]
 | a :: l=>if a=c then [] :: jh c l else match jh c l with
  | []=>[[a]]
  | h :: t=>(a :: h) :: t
theorem vd (c a:Nat) (l:List Nat):jh c (a :: l)=if a=c then [] :: jh c l else match jh c l with
  | []=>[[a]]
  | h :: t=>(a :: h) :: t:=rfl
theorem aaK {c:Nat}:∀ {x:List Nat},c∉x->jh c x=[x]
 | [],_=>rfl
 | a :: x,h=>by
  have ha:a≠c:=fun z=>h (z▸apJ ..)
  rw [vd,if_neg ha,aaK fun z=>h (apG _ z)]
theorem abG {c:Nat} {r:List Nat}:∀ {x:List Nat},c∉x->jh c (x++c :: r)=x :: jh c r
 | [],_=>by
  show jh c (c :: r)=_
  rw [vd,if_pos rfl]
 | a :: x,h=>by
  have ha:a≠c:=fun z=>h (z▸apJ ..)
  show jh c (a :: (x++c :: r))=_
  rw [vd,if_neg ha,abG fun z=>h (apG _ z)]
theorem ve {c:Nat}:∀ {L:List (List Nat)},L≠[]->(∀ x∈L,c∉x)->jh c (ym c L)=L
 | [],h,_=>absurd rfl h
 | [x],_,h=>aaK (h x (apJ ..))
 | x :: y :: r,_,h=>by
  show jh c (x++c :: ym c (y :: r))=_
  rw [abG (h x (apJ ..)),ve (by simp) fun z hz=>h z (apG _ hz)]
theorem ahu:∀ {l m:List Str},l.map cpl=m.map cpl->l=m
 | [],[],_=>rfl
 | [],_ :: _,h=>by cases h
 | _ :: _,[],h=>by cases h
 | x :: l,y :: m,h=>by
  have h1:cpl x=cpl y/\l.map cpl=m.map cpl:=by
   rw [apZ,apZ] at h
   exact List.cons.inj h
  rw [str_eq.mpr h1.1,ahu h1.2]
theorem abH {c:Nat} {ts:List Str} (hn:ts≠[]) (h:∀ t∈ts,c∉cpl t):arL (arD ⟨#[c]⟩ ts) ⟨#[c]⟩=ts:=by
 have ej:arD ⟨#[c]⟩ ts=ar1 ⟨#[c]⟩ ts:=aqG _ _
 have e1:=agc (arD ⟨#[c]⟩ ts) c
 rw [ej,yP] at e1
 have f1:∀ x∈ts.map cpl,c∉x:=fun x hx=>by
  obtain⟨t,ht,rfl⟩:=ap3.mp hx
  exact h t ht
 have e2:=congrArg (jh c) e1
 rw [ve (by simpa using hn) f1,ve (by simpa using akJ (ar1 ⟨#[c]⟩ ts) c) fun x hx=>by
  obtain⟨t,ht,rfl⟩:=ap3.mp hx
  exact StrLaws.split_free _ c t ht] at e2
 rw [ej]
 exact (ahu e2).symm
noncomputable def zE (i:Int):Str:=aqh (toString i)
theorem afb (m:Nat) (h:((aqv 10 m).map aqz).head?=some 48):(aqv 10 m).map aqz=[48]:=by
 have ad:AllDigits ((aqv 10 m).map aqz):=fun c hc=>yQ hc
 have e:=toDigits_all _ ad
 rw [arw] at e
 cases q:(aqv 10 m).map aqz with
 | nil=>rw [q] at h;cases h
 | cons a r =>
  rw [q] at h e
  have:a=48:=by simpa using h
  subst this
  have ed:(48 :: r).dropWhile (· == 48)=r.dropWhile (· == 48):=rfl
  rw [ed] at e
  have le:(r.dropWhile (· == 48)).length<=r.length:=(List.dropWhile_sublist _).length_le
  have ll:=congrArg arq q
  rw [apC,apT] at ll
  cases w:r.dropWhile (· == 48) with
  | nil =>
   rw [w] at e
   have e1:=congrArg arq e
   have:r.length=0:=by
    simp at e1
    omega
   rw [atd.mp this]
  | cons b s =>
   exfalso
   rw [w] at e le
   have e1:=congrArg arq e
   simp at e1 le
   omega
theorem afc {i:Int} (h:i.natAbs<10 ^ 10):aaQ (cpl (zE i))=true/\aiH (cpl (zE i))=i:=by
 have ad:∀ m:Nat,((aqv 10 m).map aqz).all dig=true:=fun m=>aqU.mpr fun c hc=>decide_eq_true (yQ hc)
 have ne:∀ m:Nat,m<10 ^ 10->1<=((aqv 10 m).map aqz).length/\((aqv 10 m).map aqz).length<=10:=fun m hm=>by
  have l:=asT (n:=((m:Nat):Int)) (by omega) (by omega)
  rw [<-yx,qK] at l
  refine⟨?_,l⟩
  cases q:(aqv 10 m).map aqz with
  | cons a r=>simp
  | nil =>
   have:=arw m
   rw [q] at this
   have z:m=0:=this.symm
   subst z
   cases q
 cases i with
 | ofNat m =>
  have hm:m<10 ^ 10:=h
  have e:cpl (zE (Int.ofNat m))=(aqv 10 m).map aqz:=qK m
  obtain⟨l1,l2⟩:=ne m hm
  have ng:aac (cpl (zE (Int.ofNat m)))=false:=by
   rw [e]
   unfold aac
   cases q:(aqv 10 m).map aqz with
   | nil=>rfl
   | cons a r =>
    have:=yQ (m:=m) (c:=a) (by rw [q];exact apJ ..)
    have:a≠45:=by omega
    simpa using this
  have fg:jJ (cpl (zE (Int.ofNat m)))=(aqv 10 m).map aqz:=by
   unfold jJ
   rw [ng,if_neg apB,e]
  constructor
  ·unfold aaQ
   rw [fg,ad m,decide_eq_true ⟨l1,by omega⟩,aqW,aqW,e]
   by_cases z:((aqv 10 m).map aqz).head?=some 48
   ·rw [decide_eq_true (afb m z),Bool.or_true]
   ·rw [decide_eq_true z,Bool.true_or]
  ·unfold aiH
   rw [ng,if_neg apB,fg,arw]
   rfl
 | negSucc m =>
  have hm:m+1<10 ^ 10:=h
  have e:cpl (zE (Int.negSucc m))=45 :: (aqv 10 (m+1)).map aqz:=by
   show (aqh ("-"++toString (m+1))).cps.toList=_
   rw [signs_ofString,arV,ap6]
   show 45 :: (toString (m+1)).toList.map aqz=_
   rw [<-qK (m+1)]
   show _=45 :: (aqh (toString (m+1))).cps.toList
   rw [signs_ofString]
  obtain⟨l1,l2⟩:=ne (m+1) hm
  have ng:aac (cpl (zE (Int.negSucc m)))=true:=by rw [e];rfl
  have fg:jJ (cpl (zE (Int.negSucc m)))=(aqv 10 (m+1)).map aqz:=by
   unfold jJ
   rw [ng,if_pos rfl,e]
   rfl
  constructor
  ·unfold aaQ
   rw [fg,ad (m+1),decide_eq_true ⟨l1,by omega⟩,aqW,aqW]
   have z:((aqv 10 (m+1)).map aqz).head?≠some 48:=fun z=>by
    have q:=afb (m+1) z
    have:=arw (m+1)
    rw [q] at this
    have:(0:Nat)=m+1:=this
    omega
   rw [decide_eq_true z,Bool.true_or]
  ·unfold aiH
   rw [ng,if_pos rfl,fg,arw]
   omega
open PySem PySem.NumText PySem.Spec PyProof.Rows L2
noncomputable abbrev ahv (K:apD):Sp:=spD K 1 (fun (c:Str) xs=>xs=[.dat (.str c)]/\Tx 700 29000 c) fun c r=>r=.bool (aaQ (cpl c))
theorem akK (F:Def K mg "is_number" jW pD) (uaa:mg "len"=none) (uaf:mg "all"=none) (uaC:∃ t,mg "MOST_FIGURES"=some (.int 11 t)) (uaD:∃ t,mg "FIGURES"=some (.str "0123456789" t)) :
  FnIn P w K mg base (k+1) "is_number" pD (ahv K):=by
 obtain⟨_,uaC⟩:=uaC
 obtain⟨_,uaD⟩:=uaD
 refine F.ok sc_is_number rfl fun fa cdv A outer s H E hr=>⟨_,(zc (zD (i:=1) sc_is_number.nd rfl (Or.inl rfl) (qh (z5 (K:=K) rfl (qS arK PySem.F.slot_str_startswith PySem.F.type_str_startswith aip (pv 0) (za zV zb)) (fun _=>rfl)) (aba aoa (pv 0) (acI zd) acH) (pv 0))) (zc (yq (jC (aiX aaw aaw zd (zy acO rfl uaa aqu (za (pv 1) zb)) (ql rfl uaC))) (zg (zw qg)) zK) (zc (yq (jC (z5 (K:=K) rfl (zy (vk (K:=K) rfl rfl) rfl uaf arM (za (yc (N:=["sign"]) (own:=1) (fr:=[]) ⟨rfl,by decide +kernel,of_decide_eq_true (by kernel_rfl),of_decide_eq_true (by kernel_rfl),of_decide_eq_true (by kernel_rfl),rfl⟩ rfl (aob (pv 1)) (fun _ _ _ _=>(zk (i:=0) (show (["sign"]:List Str).Nodup by decide +kernel) rfl (Or.inl rfl) (Or.inr rfl))) (fun _ _ _ _=>z8) (fun _ _ _ _=>(ju ahI (pv 0) (akf rfl uaD) rfl)) rfl rfl (fun _=>rfl)) zb)) (fun _=>rfl))) (zg (zw qg)) zK) (zg (zw (aoG (ju (jH (K:=K) rfl hr.units) (zM am7 (pv 1) zd (fun _ _=>rfl)) zV (zP _)) (acD (ju (aah (K:=K) rfl hr.units) (pv 0) zV (zP _))))))))),?_⟩
 rintro f xs z hl ⟨rfl,tx⟩
 try dsimp only [zH,zi]
 have tl:=tx.len
 have ll:=aht
 have hz:=yx z
 have fl:(jJ (cpl z)).length<=z.length:=by
  unfold jJ
  split
  ·rw [arW];omega
  ·omega
 have ml:(mkS (jJ (cpl z))).length=(jJ (cpl z)).length:=by rw [<-yx,adP]
 refine ajT (fun ρ=>ρ=[some (.dat (.str z)),some (.dat (.str (mkS (jJ (cpl z)))))]) ?_ ?_
 ·refine zS (ahR (yW (ake (zq rfl ⟨z,rfl,_,rfl,?_⟩))))
  rw [adQ]
  cases ng:aac (cpl z) with
  | true =>
   rw [if_pos rfl]
   refine aoe (zq rfl ⟨z,rfl,by omega,agB (yy ⟨_,rfl,agA (zj ?_)⟩)⟩)
   have:=akI z
   rw [ng,if_pos rfl] at this
   rw [this]
   rfl
  | false =>
   rw [if_neg apB]
   refine zq rfl (zj ?_)
   unfold jJ
   rw [ng,if_neg apB,akH]
   rfl
 rintro _ rfl
 generalize hL:jJ (cpl z)=L at *
 have nb:aaQ (cpl z)=(decide (1<=L.length/\L.length<=11) && (L.all dig && (decide (L.head?≠some 48) || decide (cpl z=[48])))):=by
  unfold aaQ
  rw [hL]
 refine z6 (aeG (¬ (1<=L.length/\L.length<=11)) ?_ ?_ ?_)
 ·refine qU (yC (acV (yy ⟨_,rfl,aoc (zq rfl ⟨_,rfl,by rw [ml];omega,_,rfl,?_⟩)⟩)))
  rw [ml]
  split
  ·rename_i h1
   have h1:=of_decide_eq_true h1
   refine yy ⟨_,rfl,_,rfl,?_⟩
   rw [<-decide_not,decide_eq_decide]
   omega
  ·rename_i h1
   refine⟨_,rfl,?_⟩
   symm
   rw [aq6,decide_eq_true_eq]
   intro q
   exact h1 (decide_eq_true (by omega))
 ·intro h
  refine yL (ai5 ?_)
  rw [nb,decide_eq_false h,arj]
 intro h
 have h:1<=L.length/\L.length<=11:=Decidable.not_not.mp h
 refine qO (z6 (aeG (¬ (L.all dig=true)) ?_ ?_ ?_))
 ·refine qU (yW (agC (PEdO.ped (qP (A:=fun c:Nat=>PyData.str ⟨#[c]⟩) (B:=fun c=>PyData.bool (dig c)) L (apk (zq rfl ⟨_,rfl,?_,by omega,?_,L.map dig,?_,_,rfl,?_⟩))))))
  ·show (cpl (mkS L)).map _=_
   rw [adP]
  ·intro D c ρ' es hc ho hes
   obtain⟨u,rfl⟩:=ho.one
   refine zj (y6 ?_)
   rw [if_pos rfl]
   refine yD hes (apj (zq rfl ⟨_,rfl,qj ⟨_,rfl,?_⟩⟩))
   rw [aiJ]
   exact⟨.mk1,rfl⟩
  ·rw [aqJ]
   rfl
  ·rw [atl]
   cases q:L.all dig with
   | true =>
    have q2:L.all (id ∘ dig)=true:=q
    rw [q2]
    rfl
   | false =>
    have q2:L.all (id ∘ dig)=false:=q
    rw [q2]
    rfl
 ·intro q
  refine yL (ai5 ?_)
  have q:L.all dig=false:=by simpa using q
  rw [nb,q,arj,arT]
 intro q
 have q:L.all dig=true:=Decidable.not_not.mp q
 cases L with
 | nil=>exact absurd h.1 (by decide)
 | cons a r =>
  have da:48<=a/\a<=57:=of_decide_eq_true (aqU.mp q a (apJ ..))
  refine qO (yL (ai9 (jF (api (zq rfl ⟨_,rfl,yy ⟨0,a,rfl,by rw [ml];omega,?_,qj ⟨aow (by omega),by decide +kernel,ap1 (Nat.min_le_right _ _) (by decide),?_⟩⟩⟩)))))
  ·show atI (cpl (mkS (a :: r))) 0=some a
   rw [adP]
   exact zO (j:=0) rfl
  ·rw [if_pos rfl,aha]
   have e48:((⟨#[a]⟩:Str)=("0":Str))↔a=48:=by
    rw [str_eq]
    show [a]=[48]↔_
    simp
   refine⟨_,rfl,?_⟩
   rw [nb,q,decide_eq_true h,aqW,aqW]
   by_cases ea:a=48
   ·subst ea
    rw [decide_eq_true (e48.mpr rfl),aqd,if_neg apB]
    refine jF (zq rfl (qj ⟨tx.ok,by decide +kernel,ap1 (Nat.min_le_right _ _) (by decide),?_⟩))
    rw [if_neg apB,aha]
    have:decide (z=("0":Str))=decide (cpl z=[48]):=decide_eq_decide.mpr str_eq
    rw [this]
    simp
   ·rw [decide_eq_false (fun k=>ea (e48.mp k)),aq6,if_pos rfl]
    have:(a :: r).head?≠some 48:=by simpa using ea
    rw [decide_eq_true this]
    rfl
open PySem PySem.NumText PySem.Spec PyProof.Rows L2
theorem qL {b:Nat} {F:Str->Nat}:∀ ts:List Str,(∀ t∈ts,F t<=b)->(ts.map F).sum<=b * ts.length
 | [],_=>ap9 _
 | t :: ts,h=>by
  have h1:=qL ts fun u hu=>h u (apG _ hu)
  have h2:=h t (apJ ..)
  rw [apZ,at6,apT,Nat.mul_add]
  omega
theorem afd {B T b t:Nat} {ts:List Str} {c:Nat} (hc:c=32 \/ c=10) (h:∀ v∈ts,Tx b t v) (hl:ts.length<=9) (h1:(b+1) * 9<=B+1) (h2:(t+1) * 9<=T+1) (h3:T+1<=16777216):JoinOk ⟨#[c]⟩ ts=true/\Tx B T (arD ⟨#[c]⟩ ts):=by
 have s1:=qL (b:=b) (F:=fun t=>(cpl t).countP agd) ts fun v hv=>(h v hv).sep
 have s2:=qL (b:=t) (F:=(·.length)) ts fun v hv=>(h v hv).len
 have m1:(b+1) * ts.length<=(b+1) * 9:=asE _ hl
 have m2:(t+1) * ts.length<=(t+1) * 9:=asE _ hl
 rw [aue] at m1 m2
 exact ami hc (fun v hv=>(h v hv).ch) (by omega) (by omega) h3
noncomputable def aav (r:List Int):Str:=arD " " (r.map zE)
noncomputable def tabS (rows:List (List Int)):Str:=arD "\n" (rows.map aav)
section
variable {wd:Nat} {rows:List (List Int)}
theorem jK {i:Int} (h:-1000000000<=i/\i<=1000000000):i.natAbs<10 ^ 10:=by omega
theorem agf (g:Good wd rows) {r:List Int} (hr:r∈rows):JoinOk " " (r.map zE)=true/\Tx 8 107 (aav r):=by
 have w2:=g.w2
 refine afd (c:=32) (.inl rfl) (fun v hv=>?_) (by rw [apC,g.row r hr];omega) (b:=0) (t:=11) (by decide) (by decide) (by decide)
 obtain⟨i,hi,rfl⟩:=ap3.mp hv
 exact age (jK (g.hgt r hr i hi))
theorem agg (g:Good wd rows):JoinOk "\n" (rows.map aav)=true/\Tx 80 971 (tabS rows):=by
 have h2:=g.h2
 refine afd (c:=10) (.inr rfl) (fun v hv=>?_) (by rw [apC];omega) (b:=8) (t:=107) (by decide) (by decide) (by decide)
 obtain⟨r,hr,rfl⟩:=ap3.mp hv
 exact (agf g hr).2
theorem akL {i:Int} (h:i.natAbs<10 ^ 10):(32:Nat)∉cpl (zE i)/\(10:Nat)∉cpl (zE i):=by
 have:=(acx i h).1
 refine⟨fun z=>?_,fun z=>?_⟩ <;> have:=this _ z <;> omega
theorem words_of (g:Good wd rows) {r:List Int} (hr:r∈rows):arL (aav r) ⟨#[32]⟩=r.map zE:=by
 have w1:=g.w1
 have rl:=g.row r hr
 refine abH (fun z=>?_) fun t ht=>?_
 ·have:=congrArg arq z
  rw [apC] at this
  simp at this
  rw [this] at rl
  simp at rl
  omega
 ·obtain⟨i,hi,rfl⟩:=ap3.mp ht
  exact (akL (jK (g.hgt r hr i hi))).1
theorem akM (g:Good wd rows):arL (tabS rows) ⟨#[10]⟩=rows.map aav:=by
 have h1:=g.h1
 refine abH (fun z=>?_) fun t ht=>?_
 ·have:=congrArg arq z
  rw [apC] at this
  simp at this
  rw [this] at h1
  simp at h1
 ·obtain⟨r,hr,rfl⟩:=ap3.mp ht
  intro z
  have ej:aav r=ar1 ⟨#[32]⟩ (r.map zE):=aqG _ _
  rw [ej,yP] at z
  rcases abF z with z | ⟨x,hx,z⟩
  ·cases z
  ·obtain⟨v,hv,rfl⟩:=ap3.mp hx
   obtain⟨i,hi,rfl⟩:=ap3.mp hv
   exact (akL (jK (g.hgt r hr i hi))).2 z
end
noncomputable abbrev ahw (K:apD):Sp:=alM K 1 (fun (c:List (List Int)×Nat) xs=>xs=[.dat (.str (tabS c.1))]/\Good c.2 c.1) (fun c rows=>rows=c.1) (fun _ _=>False) fun _ _ _=>False
theorem akN (F:Def K mg "read_table" jv ["text"]) (uai:mg "enumerate"=none) (uaf:mg "all"=none) (uaR:mg "int"=none) (ubG:FnIn P w K mg base k "is_number" pD (ahv K)) (uaj:FnIn P w K mg base k "ask_table" pf (aeV K)):FnIn P w K mg base (k+1) "read_table" ["text"] (ahw K):=by
 refine F.okG0 sc_read_table rfl fun fa cdv A outer s H E hr=>⟨_,(zc (zD (i:=1) sc_read_table.nd rfl (Or.inl rfl) (yg zb)) (zc (jq aqx rfl (abi (K:=K) rfl rfl uai (za (qS arK atq atr aeJ (pv 0) (za zV zb)) zb)) (yf (K:=K) (n:=2) rfl rfl (zt (zk (i:=2) sc_read_table.nd rfl (Or.inl rfl) (Or.inr rfl)) (zt (zk (i:=3) sc_read_table.nd rfl (Or.inl rfl) (Or.inr rfl)) zZ))) (zc (zD (i:=4) sc_read_table.nd rfl (Or.inl rfl) (qS arK atq atr aeJ (pv 3) (za zV zb))) (zc (yq (jC (z5 (K:=K) rfl (zy (vk (K:=K) rfl rfl) rfl uaf arM (za (yc (N:=pD) (own:=1) (fr:=[]) ⟨rfl,by decide +kernel,of_decide_eq_true (by kernel_rfl),of_decide_eq_true (by kernel_rfl),of_decide_eq_true (by kernel_rfl),rfl⟩ rfl (zX (K:=K) rfl (pv 4)) (fun _ _ _ _=>(zk (i:=0) (show (pD:List Str).Nodup by decide +kernel) rfl (Or.inl rfl) (Or.inr rfl))) (fun _ _ _ _=>z8) (fun _ _ _ _=>(ze ubG hr rfl (za (pv 0) zb))) rfl rfl (fun _=>rfl)) zb)) (fun _=>rfl))) (zg aa4) zK) (zg (yE (qS aqL aqE aqF ja (pv 1) (za (yc (N:=pD) (own:=1) (fr:=[]) ⟨rfl,by decide +kernel,of_decide_eq_true (by kernel_rfl),of_decide_eq_true (by kernel_rfl),of_decide_eq_true (by kernel_rfl),rfl⟩ rfl (zX (K:=K) rfl (pv 4)) (fun _ _ _ _=>(zk (i:=0) (show (pD:List Str).Nodup by decide +kernel) rfl (Or.inl rfl) (Or.inr rfl))) (fun _ _ _ _=>z8) (fun _ _ _ _=>(yr aiq rfl uaR PyProof.Rows.boot_int (za (pv 0) zb))) rfl rfl (fun _=>rfl)) zb))))))) (zc (yE (ze uaj hr rfl (za (pv 1) zb))) (zg (zw (pv 1)))))),?_⟩
 rintro f xs ⟨rows,wd⟩ hl ⟨rfl,g⟩
 try dsimp only [zH,zi]
 dsimp only at *
 have ll:=aht
 have tl:=(agg g).2.len
 have h2:=g.h2
 have w2:=g.w2
 refine aoh (w:=w) (show 1<5 by decide) fun H0 a=>?_
 refine aof fun as=>ajn (zJ (PEdO.ped (ag9 (c:=10) (zq rfl ⟨tabS rows,rfl,by omega,yu ⟨_,rfl,?_⟩⟩))))
 rw [akM g]
 refine⟨fun i ρ rs=>(∃ x y z,ρ=[some (.dat (.str (tabS rows))),some (.own f.M.length),x,y,z])/\rs=rows.take i,⟨⟨_,_,_,rfl⟩,rfl⟩,?_,?_⟩
 ·rintro i d _ _ hd ⟨⟨x,y,z,rfl⟩,rfl⟩ as'
  unfold vQ at hd
  rw [asu,apM,apM] at hd
  cases er:rows[i]? with
  | none=>rw [er] at hd;cases hd
  | some r =>
   rw [er] at hd
   cases hd
   have hi:i<rows.length:=(apE.mp er).1
   have hr:=apN er
   have rl:=g.row r hr
   have rt:=(agf g hr).2.len
   have nr:∀ v∈r.map zE,aaQ (cpl v)=true/\Tx 700 29000 v:=fun v hv=>by
    obtain⟨j,hj,rfl⟩:=ap3.mp hv
    have sm:=jK (g.hgt r hr j hj)
    exact⟨(afc sm).1,(age sm).imp (by decide) (by decide)⟩
   refine jG rfl (zC (zj (zC (zj (yG ?_)))))
   refine akg (alQ fun as=>zS (PEdO.ped (ag9 (c:=32) (zq rfl ⟨aav r,rfl,by omega,zj ?_⟩))))
   rw [words_of g hr]
   refine akg (apl fun as=>qU (yW (agC (PEdO.ped (qP (A:=fun v:Str=>PyData.str v) (B:=fun v=>PyData.bool (aaQ (cpl v))) (r.map zE) (yM (zq rfl ⟨_,rfl,rfl,by rw [apC];omega,?_,(r.map zE).map (fun v=>aaQ (cpl v)),?_,_,rfl,?_⟩)))))))
   ·intro D' v ρ' es hv ho hes
    obtain⟨u,rfl⟩:=ho.one
    refine zj (y6 ?_)
    rw [if_pos rfl]
    refine yD hes (zr v (zJ (zq rfl (yu ⟨rfl,⟨rfl,(nr v hv).2⟩,?_⟩))))
    rintro _ rfl
    exact⟨.mk1,rfl⟩
   ·exact congrArg PyData.list (by simp only [aqJ];rfl)
   have eo:((r.map zE).map (fun v=>aaQ (cpl v))).all id=true:=by
    rw [atl]
    exact aqU.mpr fun v hv=>(nr v hv).1
   rw [eo,aqd,if_neg apB]
   refine alR ?_
   refine aog rfl (by rw [aqi];omega) fun as=>qP (A:=fun v:Str=>PyData.str v) (B:=fun v=>PyData.int (aiH (cpl v))) (r.map zE) (yM (zq rfl ⟨_,rfl,rfl,by rw [apC];omega,?_,r,?_,⟨_,_,_,rfl⟩,?_⟩))
   ·intro D' v ρ' es hv ho hes
    obtain⟨u,rfl⟩:=ho.one
    obtain⟨t1,t2⟩:=int_text (nr v hv).1
    refine zj (y6 ?_)
    rw [if_pos rfl]
    exact yD hes (aod (zq rfl ⟨v,_,rfl,t1,by omega,.mk1,rfl⟩))
   ·rw [aqJ]
    exact arh fun j hj=>congrArg PyData.int (afc (jK (g.hgt r hr j hj))).2
   ·rw [art,er]
    rfl
 ·rintro _ _ ⟨⟨x,y,z,rfl⟩,rfl⟩
  have le:(vQ ((rows.map aav).map .str)).length=rows.length:=by
   unfold vQ
   rw [asM,apC,apC]
  rw [le,aqC]
  refine⟨rfl,anQ (zr (rows,wd) (zJ (zq (d:=tab rows) ?_ (yu ⟨rfl,⟨rfl,g⟩,fun _ _=>rfl⟩))))⟩
  rfl
open PySem PySem.NumText PySem.Spec PyProof.Rows L2
theorem qM (i:Int) (h:i.natAbs<=10 ^ 30):(zE i).length<=33:=by
 unfold zE
 rw [PySem.ofString_length]
 have:=int_text_length_le10 (a:=i) (k:=32) (by decide) (by omega)
 omega
theorem aiK (n:Int):(if n<0 then ("-":Str) else ("":Str))++zE (n.natAbs:Int)=zE n:=by
 rw [str_eq,qa]
 cases n with
 | ofNat m =>
  rw [if_neg (by simp)]
  rfl
 | negSucc m =>
  rw [if_pos (Int.negSucc_lt_zero m)]
  show 45 :: cpl (aqh (toString (((m+1:Nat)):Int)))=(aqh ("-"++toString (m+1))).cps.toList
  rw [signs_ofString,arV,ap6]
  show 45 :: (aqh (toString (m+1))).cps.toList=45 :: (toString (m+1)).toList.map aqz
  rw [signs_ofString]
noncomputable def qb (g:Gt):Str:=arD "," [zE g.1,zE g.2.1,zE g.2.2]
noncomputable def vf (q:Bool):Str:=if q then "ring" else "run"
noncomputable def aaL (t:Bool×List Gt):Str:=arD " " (vf t.1 :: t.2.map qb)
noncomputable abbrev SmG (g:Gt):Prop:=g.1.natAbs<=10 ^ 30/\g.2.1.natAbs<=10 ^ 30/\g.2.2.natAbs<=10 ^ 30
theorem acy {g:Gt} (h:SmG g):JoinOk "," [zE g.1,zE g.2.1,zE g.2.2]=true/\(qb g).length<=102:=by
 obtain⟨a,b⟩:=joinOk_of (sep:=",") (ts:=[zE g.1,zE g.2.1,zE g.2.2]) (b:=33) (fun t ht=>by
  simp only [apK,aqD,or_false] at ht
  rcases ht with rfl | rfl | rfl
  ·exact qM _ h.1
  ·exact qM _ h.2.1
  ·exact qM _ h.2.2) (show 3<=1000 by decide) (by decide) (by decide)
 exact⟨a,b⟩
theorem aiL {t:Bool×List Gt} (hl:t.2.length<=98) (h:∀ g∈t.2,SmG g):JoinOk " " (vf t.1 :: t.2.map qb)=true/\(aaL t).length<=11000:=by
 obtain⟨a,b⟩:=joinOk_of (sep:=" ") (ts:=vf t.1 :: t.2.map qb) (b:=102) (fun v hv=>by
  rcases apK.mp hv with rfl | hv
  ·cases t.1 <;> decide
  ·obtain⟨g,hg,rfl⟩:=ap3.mp hv
   exact (acy (h g hg)).2) (by rw [apT,apC];omega) (by decide) (by decide)
 refine⟨a,ap1 b ?_⟩
 rw [apT,apC]
 omega
noncomputable abbrev akO (K:apD):Sp:=spD K 1 (fun (c:List (List Int)×Nat) xs=>xs=[.dat (tab c.1)]/\Good c.2 c.1) fun c r=>r=.str (tabS c.1)
theorem amj (F:Def K mg "show_table" yZ pf) (uae:mg "str"=none) (uaj:FnIn P w K mg base k "ask_table" pf (aeV K)):FnIn P w K mg base (k+1) "show_table" pf (akO K):=by
 refine F.ok vB rfl fun fa cdv A outer s H E hr=>⟨_,(zc (yE (ze uaj hr rfl (za (pv 0) zb))) (zg (zw (qZ (K:=K) rfl zV (za (yc (N:=pC) (own:=1) (fr:=[]) ⟨rfl,by decide +kernel,of_decide_eq_true (by kernel_rfl),of_decide_eq_true (by kernel_rfl),of_decide_eq_true (by kernel_rfl),rfl⟩ rfl (zX (K:=K) rfl (pv 0)) (fun _ _ _ _=>(zk (i:=0) (show (pC:List Str).Nodup by decide +kernel) rfl (Or.inl rfl) (Or.inr rfl))) (fun _ _ _ _=>z8) (fun _ _ _ _=>(qZ (K:=K) rfl zV (za (yc (N:=["height"]) (own:=1) (fr:=[]) ⟨rfl,by decide +kernel,of_decide_eq_true (by kernel_rfl),of_decide_eq_true (by kernel_rfl),of_decide_eq_true (by kernel_rfl),rfl⟩ rfl (zX (K:=K) rfl (pv 0)) (fun _ _ _ _=>(zk (i:=0) (show (["height"]:List Str).Nodup by decide +kernel) rfl (Or.inl rfl) (Or.inr rfl))) (fun _ _ _ _=>z8) (fun _ _ _ _=>(yr yI rfl uae aqO (za (pv 0) zb))) rfl rfl (fun _=>rfl)) zb) rfl rfl rfl rfl rfl)) rfl rfl (fun _=>rfl)) zb) rfl rfl rfl rfl rfl)))),?_⟩
 rintro f xs ⟨rows,wd⟩ hl ⟨rfl,g⟩
 try dsimp only [zH,zi]
 dsimp only at *
 have g2:=g.h2
 have w2:=g.w2
 refine z6 (abf (zr (rows,wd) (afS rfl ⟨rfl,⟨rfl,g⟩,?_⟩)))
 rintro _ rfl
 refine yL (abw (PEdO.ped (qP (A:=fun r=>.list (r.map .int)) (B:=fun r=>.str (aav r)) rows (yM (zq rfl ⟨_,rfl,rfl,by omega,?_,rows.map aav,?_,(agg g).1,rfl⟩)))))
 ·rintro D r ρ' es hr' ho hes
  obtain⟨u,rfl⟩:=ho.one
  have rl:=g.row r hr'
  refine zj (y6 ?_)
  rw [if_pos rfl]
  refine yD hes (abw (PEdO.ped (qP (A:=.int) (B:=fun i=>.str (zE i)) r (yM (zq rfl ⟨_,rfl,rfl,by omega,?_,r.map zE,?_,(agf g hr').1,.mk1,rfl⟩)))))
  ·rintro D' i ρ2 es2 hi2 ho2 hes2
   obtain⟨u2,rfl⟩:=ho2.one
   refine zj (y6 ?_)
   rw [if_pos rfl]
   exact yD hes2 (aap (zq rfl ⟨i,rfl,asd (jK (g.hgt r hr' i hi2)) (by decide),.mk1,rfl⟩))
  ·rw [aqJ]
   rfl
 ·rw [aqJ]
  rfl
noncomputable abbrev ahx (K:apD):Sp:=spD K 1 (fun (c:Int) xs=>xs=[.dat (.int c)]/\c.natAbs<=10 ^ 30) fun c r=>r=.str (zE c)
theorem akP (F:Def K mg "show_number" ji pH) (uae:mg "str"=none) (uao:mg "abs"=none) (uaE:∃ t,mg "BEYOND_A_PIECE"=some (.int 10000000000000000000000000000000000000000000000000000000000000000 t)):FnIn P w K mg base (k+1) "show_number" pH (ahx K):=by
 obtain⟨_,uaE⟩:=uaE
 refine F.ok sc_show_number rfl fun fa cdv A outer s H E hr=>⟨_,(zc (zD (i:=1) sc_show_number.nd rfl (Or.inl rfl) (yg zb)) (zc (zD (i:=2) sc_show_number.nd rfl (Or.inl rfl) (zy (adX) rfl uao atB (za (pv 0) zb))) (zc (adU aqx (zN aiW (pv 2) (ql rfl uaE) (zP _)) abX) (zc (yE (qS aqL aqE aqF ja (pv 1) (za (yr yI rfl uae aqO (za (pv 2) zb)) zb))) (zg (zw (zx yo (qh (zN aiV (pv 0) zd (zP _)) zV zV) (qZ (K:=K) rfl zV (za (ald (K:=K) rfl (pv 1) (aiU afo zd)) zb) rfl rfl rfl rfl rfl)))))))),?_⟩
 rintro f xs n hl ⟨rfl,hn⟩
 try dsimp only [zH,zi]
 refine adf (w:=w) (agZ (aaW (ajp ⟨show 1<4 by decide,fun D=>?_⟩)))
 refine qR (apa (aex (afB (zJ (zq rfl (yu ⟨n,rfl,?_⟩))))))
 have hp:(10:Nat) ^ 30<2 ^ 100:=by decide
 have ea:(if n<0 then -n else n)=((n.natAbs:Nat):Int):=by split <;> omega
 rw [ea]
 refine qR (agX (fun ρ cs=>ρ=[some (.dat (.int n)),some (.own (f.M.length+0)),some (.dat (.int ((n.natAbs:Nat):Int))),none]/\cs=[.lst []]) (fun _ _=>0) ⟨rfl,rfl⟩ ?_)
 rintro _ _ ⟨rfl,rfl⟩
 refine aoW (yC (ad9 (zq rfl ⟨_,rfl,yy ⟨_,rfl,_,rfl,?_⟩⟩)))
 rw [decide_eq_false (by omega),if_neg apB]
 refine qR (agY (j:=0) rfl rfl (by decide) (aex (aap (zq rfl ⟨_,rfl,?_,?_⟩))))
 ·show ((n.natAbs:Nat):Int).natAbs<2 ^ 100
  rw [Int.natAbs_natCast]
  omega
 refine adh ?_
 have ee:ash (freed f.M.length [OC.lst [.str (zE ((n.natAbs:Nat):Int))]]) [some (.dat (.int n)),some (.own (f.M.length+0)),some (.dat (.int ((n.natAbs:Nat):Int))),none]=[some (.dat (.int n)),some (.dat (.list [.str (zE ((n.natAbs:Nat):Int))])),some (.dat (.int ((n.natAbs:Nat):Int))),none]:=by simp [freed]
 show PSd K f _ (ash (freed f.M.length [OC.lst [.str (zE ((n.natAbs:Nat):Int))]]) [some (.dat (.int n)),some (.own (f.M.length+0)),some (.dat (.int ((n.natAbs:Nat):Int))),none]) _
 rw [ee]
 have nl:=qM ((n.natAbs:Nat):Int) (by rw [Int.natAbs_natCast];exact hn)
 have jk:JoinOk "" [zE ((n.natAbs:Nat):Int)]=true:=(joinOk_of (sep:="") (ts:=[zE ((n.natAbs:Nat):Int)]) (b:=33) (fun t ht=>by cases apS.mp ht;exact nl) (by show 1<=1000;decide) (by decide) (by decide)).1
 have np:=aiK n
 refine yL (qf (ahR (yC (ad9 (zq rfl ⟨n,rfl,yy ⟨0,rfl,_,rfl,?_⟩⟩)))))
 have jn:∀ x:Str,x.length<=1->x++zE ((n.natAbs:Nat):Int)=zE n->PEd K f (tBM K "str" (rJoin K) (tC (V.str "")) (zQ (alb K (yp 1) (tUn (rU fun i=>V.int (-i)) (tC (V.int 1)))) yJ)) [some (.dat (.int n)),some (.dat (.list [.str (zE ((n.natAbs:Nat):Int))])),some (.dat (.int ((n.natAbs:Nat):Int))),none] fun y=>∃ j,y=.str j/\x.length+j.length<=sizeLine/\(PyData.str (x++j))=.str (zE n):=fun x hx e=>by
  refine abw (PEdL.ped (aoM (zq rfl ⟨_,rfl,aju (yy ⟨1,rfl,?_⟩)⟩)))
  refine⟨rfl,[zE ((n.natAbs:Nat):Int)],rfl,jk,_,rfl,?_,congrArg PyData.str e⟩
  have:(1000:Nat)<=sizeLine:=by decide
  show x.length+(zE ((n.natAbs:Nat):Int)).length<=sizeLine
  omega
 by_cases z:n<0
 ·rw [decide_eq_true z,if_pos rfl]
  rw [if_pos z] at np
  exact qj ⟨_,rfl,jn _ (by decide) np⟩
 ·rw [decide_eq_false z,if_neg apB]
  rw [if_neg z] at np
  exact qj ⟨_,rfl,jn _ (by decide) np⟩
noncomputable abbrev ahy (K:apD):Sp:=spD K 1 (fun (c:Gt) xs=>xs=[.dat (gD3 c)]/\SmG c) fun c r=>r=.str (qb c)
theorem akQ (F:Def K mg "show_gate" jV pq) (ubH:FnIn P w K mg base k "show_number" pH (ahx K)):FnIn P w K mg base (k+1) "show_gate" pq (ahy K):=by
 refine F.ok ady rfl fun fa cdv A outer s H E hr=>⟨_,(zg (zw (qZ (K:=K) rfl zV (za (yc (N:=pH) (own:=1) (fr:=[]) ⟨rfl,by decide +kernel,of_decide_eq_true (by kernel_rfl),of_decide_eq_true (by kernel_rfl),of_decide_eq_true (by kernel_rfl),rfl⟩ rfl (vP (K:=K) rfl (pv 0)) (fun _ _ _ _=>(zk (i:=0) (show (pH:List Str).Nodup by decide +kernel) rfl (Or.inl rfl) (Or.inr rfl))) (fun _ _ _ _=>z8) (fun _ _ _ _=>(ze ubH hr rfl (za (pv 0) zb))) rfl rfl (fun _=>rfl)) zb) rfl rfl rfl rfl rfl))),?_⟩
 rintro f xs ⟨x,y,v⟩ hl ⟨rfl,sm⟩
 try dsimp only [zH,zi]
 refine yL (abw (PEdO.ped (qP (A:=.int) (B:=fun i=>.str (zE i)) [x,y,v] (aee (zq rfl ⟨_,rfl,rfl,show 3<=1000 by decide,?_,[zE x,zE y,zE v],rfl,(acy sm).1,rfl⟩)))))
 rintro D i ρ' es hi ho hes
 obtain⟨u,rfl⟩:=ho.one
 refine zj (y6 ?_)
 rw [if_pos rfl]
 have hs:i.natAbs<=10 ^ 30:=by
  simp only [apK,aqD,or_false] at hi
  rcases hi with rfl | rfl | rfl
  ·exact sm.1
  ·exact sm.2.1
  ·exact sm.2.2
 refine yD hes (zr i (zJ (zq rfl (yu ⟨rfl,⟨rfl,hs⟩,?_⟩))))
 rintro _ rfl
 exact⟨.mk1,rfl⟩
noncomputable abbrev ahz (K:apD):Sp:=spD K 1 (fun (c:Bool×List Gt) xs=>xs=[.dat (y7 c)]/\c.2.length<=98/\∀ g∈c.2,SmG g) fun c r=>r=.str (aaL c)
theorem akR (F:Def K mg "show_line" jU ["line"]) (ubI:FnIn P w K mg base k "show_gate" pq (ahy K)):FnIn P w K mg base (k+1) "show_line" ["line"] (ahz K):=by
 refine F.ok sc_show_line rfl fun fa cdv A outer s H E hr=>⟨_,(zc (yB (pv 0) (yf (K:=K) (n:=2) rfl rfl (zt (zk (i:=1) sc_show_line.nd rfl (Or.inl rfl) (Or.inr rfl)) (zt (zk (i:=2) sc_show_line.nd rfl (Or.inl rfl) (Or.inr rfl)) zZ)))) (zg (zw (qZ (K:=K) rfl zV (za (zx (abl (K:=K) rfl) (yg (za (pv 1) zb)) (yc (N:=pq) (own:=1) (fr:=[]) ⟨rfl,by decide +kernel,of_decide_eq_true (by kernel_rfl),of_decide_eq_true (by kernel_rfl),of_decide_eq_true (by kernel_rfl),rfl⟩ rfl (vP (K:=K) rfl (pv 2)) (fun _ _ _ _=>(zk (i:=0) (show (pq:List Str).Nodup by decide +kernel) rfl (Or.inl rfl) (Or.inr rfl))) (fun _ _ _ _=>z8) (fun _ _ _ _=>(ze ubI hr rfl (za (pv 0) zb))) rfl rfl (fun _=>rfl))) zb) rfl rfl rfl rfl rfl)))),?_⟩
 rintro f xs ⟨q,gs⟩ hl ⟨rfl,l98,sm⟩
 try dsimp only [zH,zi]
 dsimp only at l98 sm
 refine z6 (zS (zq rfl (jG rfl (zC (zj (zC (zj (yG ?_))))))))
 refine yL (abw (afG (aea (zJ (zq rfl (yu ⟨_,rfl,show 1<=1000 by decide,_,rfl,PEdO.ped (qP (A:=gD3) (B:=fun g=>.str (qb g)) gs (aee (zq rfl ⟨_,rfl,rfl,by omega,?_,_,rfl,?_,vf q :: gs.map qb,?_,(aiL (t:=(q,gs)) l98 sm).1,rfl⟩)))⟩))))))
 ·rintro D g ρ' es hg ho hes
  obtain⟨u,rfl⟩:=ho.one
  refine zj (y6 ?_)
  rw [if_pos rfl]
  refine yD hes (zr g (zJ (zq rfl (yu ⟨rfl,⟨rfl,sm g hg⟩,?_⟩))))
  rintro _ rfl
  exact⟨.mk1,rfl⟩
 ·rw [apC]
  show 1+gs.length<=1000
  omega
 ·show PyData.list (.str _ :: gs.map fun g=>.str (qb g))=_
  rw [apZ,aqJ]
  rfl
open PySem PySem.NumText PySem.Spec PyProof.Rows L2
noncomputable abbrev adR (i:Int):List Nat:=cpl (zE i)
noncomputable def abU (r:List Int):List Nat:=ym 32 (r.map adR)
theorem amk (r:List Int):cpl (aav r)=abU r:=by
 have ej:aav r=ar1 ⟨#[32]⟩ (r.map zE):=aqG _ _
 rw [ej,yP,aqJ]
 rfl
theorem aml (rows:List (List Int)):cpl (tabS rows)=ym 10 (rows.map abU):=by
 have ej:tabS rows=ar1 ⟨#[10]⟩ (rows.map aav):=aqG _ _
 rw [ej,yP,aqJ]
 congr 1
 exact arh fun r _=>amk r
theorem vM (c:Nat) (x:List Nat):∀ L:List (List Nat),ym c (L++[x])=if L=[] then x else ym c L++c :: x
 | []=>rfl
 | [y]=>by
  rw [if_neg (by simp)]
  rfl
 | y :: z :: L=>by
  have ih:=vM c x (z :: L)
  rw [if_neg (by simp)] at ih ⊢
  show y++c :: ym c ((z :: L)++[x])=(y++c :: ym c (z :: L))++c :: x
  rw [ih]
  simp
theorem abI (c:Nat) (x:List Nat):∀ L:List (List Nat),ym c (x :: L)=x++L.flatMap (fun y=>c :: y)
 | []=>by
  show x=x++[]
  rw [aqe]
 | y :: L=>by
  show x++c :: ym c (y :: L)=_
  rw [abI c y L]
  simp
theorem afe (g:Gt):cpl (qb g)=adR g.1++44 :: (adR g.2.1++44 :: adR g.2.2):=by
 have ej:qb g=ar1 ⟨#[44]⟩ [zE g.1,zE g.2.1,zE g.2.2]:=aqG _ _
 rw [ej,yP]
 rfl
theorem aff (t:Bool×List Gt):cpl (aaL t)=cpl (vf t.1)++t.2.flatMap fun g=>32 :: cpl (qb g):=by
 have ej:aaL t=ar1 ⟨#[32]⟩ (vf t.1 :: t.2.map qb):=aqG _ _
 rw [ej,yP,apZ,abI,aqJ,List.flatMap_map]
 rfl
theorem y4 (x y:Str):(x++y).length=x.length+y.length:=by
 rw [<-yx,qa,apX,yx,yx]
noncomputable abbrev amN (K:apD):Sp:=spD K 1 (fun (c:List (List Int)×Nat) xs=>xs=[.dat (tab c.1)]/\Good c.2 c.1) fun c r=>r=.str (tabS c.1)
theorem aox (F:Def K mg "_law_text" qH pO) (uaa:mg "len"=none) (uad:mg "range"=none) (uae:mg "str"=none):FnIn P w K mg base (k+1) "_law_text" pO (amN K):=by
 refine F.ok sc_law_text rfl fun fa cdv A outer s H E hr=>⟨_,(zc (zD (i:=1) sc_law_text.nd rfl (Or.inl rfl) zV) (zc (jq aqx rfl (yS rfl uad (za (zy (z4 (K:=K) rfl) rfl uaa aqu (za (pv 0) zb)) zb)) (zk (i:=2) sc_law_text.nd rfl (Or.inl rfl) (Or.inr rfl)) (zg (jq aqx rfl (yS rfl uad (za (zy (z4 (K:=K) rfl) rfl uaa aqu (za (zM (zB (K:=K) rfl) (pv 0) zd (fun _ _=>rfl)) zb)) zb)) (zk (i:=3) sc_law_text.nd rfl (Or.inl rfl) (Or.inr rfl)) (zc (yq (zN adW (pv 3) zd (zP _)) (zg (zD (i:=1) sc_law_text.nd rfl (Or.inl rfl) (zx yo (pv 1) zV))) (zg (yq (zN adW (pv 2) zd (zP _)) (zg (zD (i:=1) sc_law_text.nd rfl (Or.inl rfl) (zx yo (pv 1) zV))) zK))) (zg (zD (i:=1) sc_law_text.nd rfl (Or.inl rfl) (zx yo (pv 1) (yr yI rfl uae aqO (za (zM (zB (K:=K) rfl) (zM (zB (K:=K) rfl) (pv 0) (pv 2) (fun _ _=>rfl)) (pv 3) (fun _ _=>rfl)) zb))))))))) (zg (zw (pv 1))))),?_⟩
 rintro f xs ⟨rows,wd⟩ hl ⟨rfl,g⟩
 try dsimp only [zH,zi]
 dsimp only at *
 have g1:=g.h1
 have g2:=g.h2
 have w1:=g.w1
 have w2:=g.w2
 have ll:1000000<=sizeLine:=by decide
 obtain⟨r0,hr0⟩:∃ r0,rows[0]?=some r0:=⟨_,apA (by omega)⟩
 have hw0:=g.row r0 (apN hr0)
 have at0:atI (rows.map fun r=>PyData.list (r.map .int)) 0=some (.list (r0.map .int)):=zO (j:=0) (by rw [apM,hr0];rfl)
 have ml:(rows.map fun r=>PyData.list (r.map .int)).length=rows.length:=apC _
 have b1:(" ":Str).length=1:=rfl
 have n1:("\n":Str).length=1:=rfl
 refine z6 (zS (qj (zj (z6 (aef (vj (aj8 [.dat (.int rows.length)] ?_ ?_)))))))
 ·walk_at "w"
  rw [ml]
 refine⟨_,rfl,by omega,by omega,fun y ρ=>∃ z x2 x3,ρ=[some (.dat (tab rows)),some (.dat (.str z)),x2,x3]/\cpl z=ym 10 ((rows.take y).map abU)/\z.length<=84 * y,⟨_,_,_,rfl,rfl,ap9 _⟩,?_,?_⟩
 ·rintro y d _ hd ⟨z,x2,x3,rfl,ez,zl⟩
  obtain⟨hy,rfl⟩:=qq hd
  rw [arv] at hy
  obtain⟨r,er⟩:∃ r,rows[y]?=some r:=⟨_,apA hy⟩
  have hr:=apN er
  have rl:=g.row r hr
  have aty:atI (rows.map fun r=>PyData.list (r.map .int)) (y:Int)=some (.list (r.map .int)):=zO (by rw [apM,er];rfl)
  have snoc:(if y=0 then [] else ym 10 ((rows.take y).map abU)++[10])++abU r=ym 10 ((rows.take (y+1)).map abU):=by
   rw [art,er,ap6]
   show _=ym 10 ((rows.take y).map abU++[abU r])
   rw [vM]
   by_cases h0:y=0
   ·subst h0
    rfl
   ·have:(rows.take y).map abU≠[]:=by
     intro q
     have:=congrArg arq q
     rw [apC,aqi,aqS] at this
     omega
    rw [if_neg h0,if_neg this,aqI]
    rfl
  generalize hT:ym 10 ((rows.take y).map abU)=T at *
  refine zj (aef (vj (aj8 [.dat (.int wd)] ?_ ?_)))
  ·walk_at "w"
   refine⟨_,at0,?_⟩
   walk_at "w"
   rw [apC,hw0]
  refine⟨_,rfl,by omega,by omega,fun x ρ=>∃ z x3,ρ=[some (.dat (tab rows)),some (.dat (.str z)),some (.dat (.int (y:Int))),x3]/\cpl z=(if x=0 then T else (if y=0 then [] else T++[10])++ym 32 ((r.take x).map adR))/\z.length<=84 * y+12 * x,⟨_,_,rfl,ez,zl⟩,?_,?_⟩
  ·rintro x d _ hd ⟨z,x3,rfl,ez,zl⟩
   obtain⟨hx,rfl⟩:=qq hd
   rw [arv] at hx
   obtain⟨i,ei⟩:∃ i,r[x]?=some i:=⟨_,apA (by omega)⟩
   have sm:=jK (g.hgt r hr i (apN ei))
   have nl:=(age sm).len
   have nl2:(zE i).length<=11:=nl
   have atx:atI (r.map PyData.int) (x:Int)=some (.int i):=zO (by rw [apM,ei];rfl)
   refine zj (ajT (fun ρ=>∃ z,ρ=[some (.dat (tab rows)),some (.dat (.str z)),some (.dat (.int (y:Int))),some (.dat (.int (x:Int)))]/\cpl z=(if y=0 then [] else T++[10])++(if x=0 then [] else ym 32 ((r.take x).map adR)++[32])/\z.length<=84 * y+12 * x+1) ?_ ?_)
   ·refine aeG (0<x) ?_ (fun h=>?_) fun h=>?_
    ·walk_at "w"
     rw [decide_eq_decide]
     omega
    ·refine zS (qf (zq rfl ⟨z,rfl,qj ⟨_,rfl,by omega,zj ⟨_,rfl,?_,by rw [y4];omega⟩⟩⟩))
     rw [if_neg (show x≠0 by omega)] at ez ⊢
     rw [qa,ez,aqI]
     rfl
    ·have x0:x=0:=by omega
     subst x0
     rw [if_pos rfl] at ez
     rw [if_pos rfl]
     refine aeG (0<y) ?_ (fun h2=>?_) fun h2=>?_
     ·walk_at "w"
      rw [decide_eq_decide]
      omega
     ·refine zS (qf (zq rfl ⟨z,rfl,qj ⟨_,rfl,by omega,zj ⟨_,rfl,?_,by rw [y4];omega⟩⟩⟩))
      rw [if_neg (show y≠0 by omega),qa,ez,aqe]
      rfl
     ·have y0:y=0:=by omega
      subst y0
      refine qO ⟨z,rfl,?_,by omega⟩
      rw [ez,if_pos rfl,<- hT]
      rfl
   rintro _ ⟨z,rfl,ez,zl⟩
   refine zS (qf (zq rfl ⟨z,rfl,aap (aaA (aaA (zq rfl ⟨_,rfl,zq rfl ⟨_,rfl,_,aty,_,rfl,zq rfl ⟨_,rfl,_,atx,i,rfl,asd sm (by decide),_,rfl,?_,zj ⟨_,_,rfl,?_,?_⟩⟩⟩⟩)))⟩))
   ·show z.length+(zE i).length<=sizeLine
    omega
   ·show cpl (z++zE i)=_
    rw [if_neg (Nat.succ_ne_zero x),qa,ez,art,ei,ap6]
    show _=_++ym 32 ((r.take x).map adR++[adR i])
    rw [vM,aqI]
    congr 1
    by_cases x0:x=0
    ·subst x0
     rfl
    ·have:(r.take x).map adR≠[]:=by
      intro q
      have:=congrArg arq q
      rw [apC,aqi,aqS] at this
      omega
     rw [if_neg x0,if_neg this,aqI]
     rfl
   ·show (z++zE i).length<=_
    rw [y4]
    omega
  ·rintro _ ⟨z,x3,rfl,ez,zl⟩
   rw [qr,arv] at ez zl
   refine⟨z,_,_,rfl,?_,by omega⟩
   rw [if_neg (by omega),arH (by omega)] at ez
   rw [ez,<- snoc]
   rfl
 ·rintro _ ⟨z,x2,x3,rfl,ez,zl⟩
  rw [qr,arv,aqC] at ez
  refine yL (zq rfl (congrArg PyData.str (str_eq.mpr ?_)))
  rw [ez,aml]
noncomputable abbrev afg (K:apD):Sp:=spD K 1 (fun (c:Bool×List Gt) xs=>xs=[.dat (y7 c)]/\c.2.length<=98/\∀ g∈c.2,SmG g) fun c r=>r=.str (aaL c)
theorem akS (F:Def K mg "_law_line" qI pP) (uae:mg "str"=none):FnIn P w K mg base (k+1) "_law_line" pP (afg K):=by
 refine F.ok sc_law_line rfl fun fa cdv A outer s H E hr=>⟨_,(zc (zD (i:=1) sc_law_line.nd rfl (Or.inl rfl) (zM (yX (K:=K) rfl) (pv 0) zd (fun _ _=>rfl))) (zc (jq aqx rfl (vP (K:=K) rfl (zM (yX (K:=K) rfl) (pv 0) zd (fun _ _=>rfl))) (zk (i:=2) sc_law_line.nd rfl (Or.inl rfl) (Or.inr rfl)) (zg (zD (i:=1) sc_law_line.nd rfl (Or.inl rfl) (zx yo (zx yo (zx yo (zx yo (zx yo (zx yo (pv 1) zV) (yr yI rfl uae aqO (za (zM (yX (K:=K) rfl) (pv 2) zd (fun _ _=>rfl)) zb))) zV) (yr yI rfl uae aqO (za (zM (yX (K:=K) rfl) (pv 2) zd (fun _ _=>rfl)) zb))) zV) (yr yI rfl uae aqO (za (zM (yX (K:=K) rfl) (pv 2) zd (fun _ _=>rfl)) zb)))))) (zg (zw (pv 1))))),?_⟩
 rintro f xs ⟨q,gs⟩ hl ⟨rfl,l98,sm⟩
 try dsimp only [zH,zi]
 dsimp only at l98 sm
 have ll:1000000<=sizeLine:=by decide
 have b1:(" ":Str).length=1:=rfl
 have c1:(",":Str).length=1:=rfl
 have wl:(vf q).length<=4:=by cases q <;> decide
 have hp:(10:Nat) ^ 30<2 ^ 100:=by decide
 refine z6 (zS (aaB (zq rfl ⟨_,rfl,yy ⟨_,rfl,.str (vf q),zO (j:=0) rfl,zj (z6 (aef (aee (aaB (zq rfl ⟨_,rfl,yy ⟨_,rfl,.tuple (gs.map gD3),zO (j:=1) rfl,_,rfl,?_⟩⟩)))))⟩⟩)))
 refine⟨fun n ρ=>∃ z x2,ρ=[some (.dat (y7 (q,gs))),some (.dat (.str z)),x2]/\cpl z=cpl (vf q)++((gs.take n).flatMap fun g=>32 :: cpl (qb g))/\z.length<=4+110 * n,⟨_,_,rfl,by rw [List.take_zero];simp,by omega⟩,?_,?_⟩
 ·rintro n d _ hd ⟨z,x2,rfl,ez,zl⟩
  rw [apM] at hd
  cases eg:gs[n]? with
  | none=>rw [eg] at hd;cases hd
  | some g =>
   rw [eg] at hd
   cases hd
   have hn:n<gs.length:=(apE.mp eg).1
   have s3:=sm g (apN eg)
   have e1:=qM _ s3.1
   have e2:=qM _ s3.2.1
   have e3:=qM _ s3.2.2
   obtain⟨a,b,c⟩:=g
   have v1:a.natAbs<=10 ^ 30:=s3.1
   have v2:b.natAbs<=10 ^ 30:=s3.2.1
   have v3:c.natAbs<=10 ^ 30:=s3.2.2
   dsimp only at e1 e2 e3
   refine zj (zS (qf (qf (qf (qf (qf (qf (zq rfl ⟨z,rfl,qj ⟨_,rfl,by omega,_,rfl,aap (aaB (zq rfl ⟨_,rfl,yy ⟨_,rfl,.int a,zO (j:=0) rfl,a,rfl,by omega,_,rfl,?_,_,rfl,qj ⟨_,rfl,?_,_,rfl,aap (aaB (zq rfl ⟨_,rfl,yy ⟨_,rfl,.int b,zO (j:=1) rfl,b,rfl,by omega,_,rfl,?_,_,rfl,qj ⟨_,rfl,?_,_,rfl,aap (aaB (zq rfl ⟨_,rfl,yy ⟨_,rfl,.int c,zO (j:=2) rfl,c,rfl,by omega,_,rfl,?_,zj ⟨_,_,rfl,?_,?_⟩⟩⟩))⟩⟩⟩))⟩⟩⟩))⟩⟩))))))))
   ·show (z ++ " ").length+(zE a).length<=_
    simp only [y4]
    omega
   ·show (z ++ " "++zE a).length+_<=_
    simp only [y4]
    omega
   ·show (z ++ " "++zE a ++ ",").length+(zE b).length<=_
    simp only [y4]
    omega
   ·show (z ++ " "++zE a ++ ","++zE b).length+_<=_
    simp only [y4]
    omega
   ·show (z ++ " "++zE a ++ ","++zE b ++ ",").length+(zE c).length<=_
    simp only [y4]
    omega
   ·show cpl (z ++ " "++zE a ++ ","++zE b ++ ","++zE c)=_
    simp only [qa]
    rw [ez,art,eg]
    show _=_++((gs.take n)++[(a,b,c)]).flatMap _
    rw [aq0]
    show _=cpl (vf q)++(_++((32 :: cpl (qb (a,b,c)))++[]))
    rw [afe,aqe]
    simp only [aqI]
    rfl
   ·show (z ++ " "++zE a ++ ","++zE b ++ ","++zE c).length<=_
    simp only [y4]
    omega
 ·rintro _ ⟨z,x2,rfl,ez,zl⟩
  rw [apC,aqC] at ez
  refine yL (zq rfl (congrArg PyData.str (str_eq.mpr ?_)))
  rw [ez,aff]
noncomputable abbrev ahA (K:apD):Sp:=spD K 1 (fun (_:Unit) xs=>xs=[.feed]) fun _ r=>∃ t:Bool×List Gt,r=y7 t/\t.2.length<=98/\∀ g∈t.2,SmG g
theorem akT (F:Def K mg "_law_drawn" j7 pB) (uad:mg "range"=none) (uah:mg "max"=none) (uan:mg "tuple"=none) (uac:FnIn P w K mg base k "_law_draw" pE (aby K)):FnIn P w K mg base (k+1) "_law_drawn" pB (ahA K):=by
 refine F.ok sc_law_drawn rfl fun fa cdv A outer s H E hr=>⟨_,(zc (zD (i:=1) sc_law_drawn.nd rfl (Or.inl rfl) (yg zb)) (zc (jq aqx rfl (yS rfl uad (za (zx z7 zd (ze uac hr rfl (za (pv 0) (za zd zb)))) zb)) (zk (i:=2) sc_law_drawn.nd rfl (Or.inl rfl) (Or.inr rfl)) (zc (zD (i:=3) sc_law_drawn.nd rfl (Or.inl rfl) (zM (zB (K:=K) rfl) (yg (za (zx jD (ze uac hr rfl (za (pv 0) (za zd zb))) zd) (za (zx qx zd zd) (za (zx jD zd (zx qx zd zd)) zb)))) (zy (abZ rfl) rfl uah boot_max (za zd (za (zx jD (ze uac hr rfl (za (pv 0) (za zd zb))) zd) zb))) (fun _ _=>rfl))) (zg (yE (qS aqL aqE aqF ja (pv 1) (za (zR (za (pv 3) (za (zx jD (ze uac hr rfl (za (pv 0) (za zd zb))) zd) (za (ze uac hr rfl (za (pv 0) (za zd zb))) zb)))) zb)))))) (zg (zw (zR (za (zM (zB (K:=K) rfl) (yg (za zV (za zV zb))) (ze uac hr rfl (za (pv 0) (za zd zb))) (fun _ _=>rfl)) (za (yr (aaC (K:=K) rfl) rfl uan atf (za (pv 1) zb)) zb))))))),?_⟩
 rintro f xs ⟨⟩ hl rfl
 try dsimp only [zH,zi]
 have p30:(10:Int) ^ asJ 30=1000000000000000000000000000000:=by decide
 refine adf (w:=w) (agZ (aaW (ajp ⟨show 1<4 by decide,fun D=>?_⟩)))
 refine qR (agW (vj (zJ (ad8 (yy ⟨1,rfl,zr 5 ?_⟩)))))
 walk_at "w"
 rintro _ ⟨m,rfl,m0,m1⟩
 refine⟨_,rfl,yu ⟨_,rfl,by omega,by omega,fun i ρ cs=>∃ (gs:List Gt) (x2 x3:Option DV),ρ=[some .feed,some (.own (f.M.length+0)),x2,x3]/\cs=[.lst (gs.map gD3)]/\gs.length=i/\∀ g∈gs,SmG g,⟨[],_,_,rfl,rfl,rfl,fun _ z=>nomatch z⟩,?_,?_⟩⟩
 ·rintro i d _ _ hd ⟨gs,x2,x3,rfl,rfl,gl,sm⟩
  obtain⟨hi,rfl⟩:=qq hd
  refine zj ?_
  refine ao3 (fun ρ cs=>∃ x:Int,x.natAbs<=10 ^ 30/\ρ=[some .feed,some (.own (f.M.length+0)),some (.dat (.int (i:Int))),some (.dat (.int x))]/\cs=[.lst (gs.map gD3)]) (adg ?_) ?_
  ·walk_at "w"
   refine zr 40 ?_
   walk_at "w"
   rintro _ ⟨a,rfl,a0,a1⟩
   walk_at "w"
   refine zr 6 ?_
   walk_at "w"
   rintro _ ⟨b,rfl,b0,b1⟩
   walk_at "w"
   have:b - 3<=0 \/ b=4 \/ b=5:=by omega
   rcases this with h | rfl | rfl
   ·rw [if_neg (by omega)]
    exact⟨_,zO (j:=0) rfl,zj ⟨_,by omega,rfl,rfl⟩⟩
   ·exact⟨_,zO (j:=1) rfl,zj ⟨_,by rw [p30];decide,rfl,rfl⟩⟩
   ·exact⟨_,zO (j:=2) rfl,zj ⟨_,by rw [p30];decide,rfl,rfl⟩⟩
  rintro _ _ ⟨x,xs,rfl,rfl⟩
  refine agY (j:=0) rfl rfl (by rw [apC];omega) (aex (abe (zJ (zq rfl (zJ (ad8 (zr 40 ?_)))))))
  walk_at "w"
  rintro _ ⟨a,rfl,a0,a1⟩
  refine⟨_,rfl,yy ⟨_,rfl,zJ (zr 2 ?_)⟩⟩
  walk_at "w"
  rintro _ ⟨b,rfl,b0,b1⟩
  refine yu ⟨_,rfl,show 3<=1000 by decide,gs++[(x,a - 20,b)],_,_,rfl,?_,by rw [apX,gl];rfl,fun g hg=>?_⟩
  ·show [OC.lst (gs.map gD3++[gD3 (x,a - 20,b)])]=_
   rw [ap6]
   rfl
  ·rcases apW.mp hg with hg | hg
   ·exact sm g hg
   ·cases apS.mp hg
    refine⟨xs,?_,?_⟩
    ·show (a - 20).natAbs<=10 ^ 30
     omega
    ·show b.natAbs<=10 ^ 30
     omega
 ·rintro _ _ ⟨gs,x2,x3,rfl,rfl,gl,sm⟩
  rw [qr] at gl
  refine adh ?_
  have ee:ash (freed f.M.length [OC.lst (gs.map gD3)]) [some .feed,some (.own (f.M.length+0)),x2,x3]=[some .feed,some (.dat (.list (gs.map gD3))),freed f.M.length [OC.lst (gs.map gD3)] x2,freed f.M.length [OC.lst (gs.map gD3)] x3]:=by simp [freed]
  rw [ee]
  refine yL (abe (zJ (aaA (aea ?_))))
  walk_at "w"
  refine zr 2 ?_
  walk_at "w"
  rintro _ ⟨b,rfl,b0,b1⟩
  have:b=0 \/ b=1:=by omega
  rcases this with rfl | rfl
  ·exact⟨_,rfl,_,zO (j:=0) rfl,zJ (acX (zJ (zq rfl (yu (.inl ⟨_,rfl,yu ⟨_,rfl,show 2<=1000 by decide,(false,gs),rfl,(show gs.length<=98 by omega),sm⟩⟩)))))⟩
  ·exact⟨_,rfl,_,zO (j:=1) rfl,zJ (acX (zJ (zq rfl (yu (.inl ⟨_,rfl,yu ⟨_,rfl,show 2<=1000 by decide,(true,gs),rfl,(show gs.length<=98 by omega),sm⟩⟩)))))⟩
noncomputable def afh (r:List Int):Bool:=decide (2<=r.length/\r.length<=7/\∀ n∈r,-1000000000<=n/\n<=1000000000)
noncomputable def y8 (w0:Nat) (r:List Int):Bool:=decide (r.length≠w0) || !afh r
noncomputable def aaR (rows:List (List Int)):Option Int:=if 2<=rows.length/\rows.length<=7 then (rows.findIdx? (y8 (rows.getD 0 []).length)).map fun i=>(i:Int) else some (-1)
theorem akU {rows:List (List Int)} {i:Nat} {r:List Int} (h:2<=rows.length/\rows.length<=7) (hr:rows[i]?=some r) (b:y8 (rows.getD 0 []).length r=true) (pre:∀ j:Nat,j<i->∀ q,rows[j]?=some q->y8 (rows.getD 0 []).length q=false):aaR rows=some (i:Int):=by
 unfold aaR
 rw [if_pos h]
 have hi:i<rows.length:=(apE.mp hr).1
 have:rows.findIdx? (y8 (rows.getD 0 []).length)=some i:=by
  rw [List.findIdx?_eq_some_iff_getElem]
  refine⟨hi,?_,fun j hj=>?_⟩
  ·rw [(apE.mp hr).2];exact b
  ·rw [pre j hj _ (apA (by omega))];exact apB
 rw [this]
 rfl
theorem akV {rows:List (List Int)} (h:2<=rows.length/\rows.length<=7) (pre:∀ j:Nat,j<rows.length->∀ q,rows[j]?=some q->y8 (rows.getD 0 []).length q=false):aaR rows=none:=by
 unfold aaR
 rw [if_pos h]
 have:rows.findIdx? (y8 (rows.getD 0 []).length)=none:=by
  rw [List.findIdx?_eq_none_iff]
  intro q hq
  obtain⟨j,hj⟩:=aqn hq
  exact pre j (apE.mp hj).1 q hj
 rw [this]
 rfl
theorem aaS {P:Program} {w:World} {K:apD} {mg:Str->Option Value} {base:Heap} {C f D:Addr} {fd:FuncData} (hfc:v5 K C f D "at"=true) (hD:mg "HeightError"=some (.ref D)) (F:Fun K "__init__" "NoTable.__init__" jf f fd):InitOk P w K mg base 1 C "at":=by
 have T:=FldC.of hfc
 refine⟨f,D,fd,["self","at"],T,F.ok aaP (fun vs H Q E h=>?_) (fun cdv A outer s H vs Q E hr hs=>⟨_,zc (yE (aeE T rfl hD (za (pv 0) (za zV zb)))) (zg (alG T (pv 0) (pv 1))),?_⟩),F.binds (ps:=["self","at"]) fun _ _ _ _ _ _ us hl=>match us,hl with | [_,_],_=>rfl⟩
 ·obtain⟨a,y,rfl,_⟩:=h
  rfl
 ·obtain⟨a,y,rfl,hH,q⟩:=hs
  exact⟨.ref a,rfl,a,_,rfl,by decide,hH,y,rfl,.ref a,rfl,a,rfl,hH,fun dx h1 h2=>q dx h1 h2⟩
noncomputable abbrev aoy (K:apD):Sp:=spD K 1 (fun (c:List PyData) xs=>xs=[.dat (.list c)]) fun c r=>r=.bool (decide (2<=c.length/\c.length<=7))
noncomputable abbrev amm (K:apD):Sp:=spD K 1 (fun (c:List Int) xs=>xs=[.dat (.list (c.map .int))]) fun c r=>r=.bool (decide (2<=c.length/\c.length<=7/\∀ n∈c,-1000000000<=n/\n<=1000000000))
noncomputable abbrev agh (K:apD) (uab:Addr):Sp:=spF K 1 (fun (c:List (List Int)) xs=>xs=[.dat (tab c)]) (fun c r=>r=.bool true/\aaR c=none) fun c Cv x=>Cv=.ref uab/\∃ i,aaR c=some i/\x=some (("at":Str),PyData.int i)
theorem amn {uab:Addr} (F:Def K mg "ask_table" jo pf) (uaa:mg "len"=none) (uai:mg "enumerate"=none) (uak:mg "NoTable"=some (.ref uab)) (I_NoTable:InitOk P w K mg base 1 uab "at")
  (uav:FnIn P w K mg base (k+2) "fits" pF (aoy K)) (uaH:FnIn P w K mg base (k+2) "is_row" pC (amm K)):FnInF P w K mg base (k+3) "ask_table" pf (agh K uab):=by
 refine F.okF (k:=k+2) sc_ask_table rfl fun fa cdv A outer s H E hr=>⟨_,(zc (yq (jC (z5 (K:=K) rfl (ze uav hr rfl (za (pv 0) zb)) (fun _=>rfl))) (zg (acj I_NoTable (hr.mono (by omega)) rfl uak (za (aiU afo zd) zb))) zK) (zc (jq PassesOwn.leaving rfl (abi (K:=K) rfl rfl uai (za (pv 0) zb)) (yf (K:=K) (n:=2) rfl rfl (zt (zk (i:=1) sc_ask_table.nd rfl (Or.inl rfl) (Or.inr rfl)) (zt (zk (i:=2) sc_ask_table.nd rfl (Or.inl rfl) (Or.inr rfl)) zZ))) (zg (yq (PW.pt (adT (zN (jH (K:=K) rfl hr.units) (zy (z4 (K:=K) rfl) rfl uaa aqu (za (pv 2) zb)) (zy (z4 (K:=K) rfl) rfl uaa aqu (za (zM (zB (K:=K) rfl) (pv 0) zd (fun _ _=>rfl)) zb)) (zP _)) (acC (jC (z5 (K:=K) rfl (ze uaH hr rfl (za (pv 2) zb)) (fun _=>rfl)))))) (zg (acj I_NoTable (hr.mono (by omega)) rfl uak (za (pv 1) zb))) zK))) (zg (zw qg)))),?_⟩
 rintro f xs rows hl rfl
 try dsimp only [zH,zi]
 refine aj5 (ao7 (qU (yW (zr (rows.map fun r=>.list (r.map .int)) ?_))))
 walk_at "w"
 rintro _ rfl
 refine⟨_,rfl,?_⟩
 rw [apC]
 by_cases h:2<=rows.length/\rows.length<=7
 case neg =>
  rw [decide_eq_false h,aq6,if_pos rfl]
  refine ads (zJ (aju ?_))
  walk_at "w"
  exact⟨-1,by unfold aaR;rw [if_neg h],rfl⟩
 rw [decide_eq_true h,aqd,if_neg apB]
 refine afO ?_
 walk_at "w"
 refine aj5 (ao8 (ajn ?_))
 walk_at "w"
 refine⟨fun i ρ=>(∃ a b,ρ=[some (.dat (tab rows)),a,b])/\∀ j:Nat,j<i->∀ q,rows[j]?=some q->y8 (rows.getD 0 []).length q=false,⟨⟨_,_,rfl⟩,fun j hj=>absurd hj (aqR _)⟩,?_,?_⟩
 ·rintro i d _ hd ⟨⟨a,b,rfl⟩,pre⟩
  unfold vQ at hd
  rw [asu,apM] at hd
  obtain⟨r,er,rfl⟩:∃ r:List Int,rows[i]?=some r/\d=.tuple [.int (i:Int),.list (r.map .int)]:=by
   cases er:rows[i]? with
   | none=>rw [er] at hd;cases hd
   | some r=>rw [er] at hd;cases hd;exact⟨r,rfl,rfl⟩
  obtain⟨r0,e0⟩:∃ r0,rows[0]?=some r0:=⟨_,apA (by omega)⟩
  have g0:(rows.getD 0 []).length=r0.length:=by rw [apF,e0];rfl
  rw [g0] at pre
  have at0:atI (rows.map fun q=>PyData.list (q.map .int)) 0=some (.list (r0.map .int)):=zO (j:=0) (by rw [apM,e0];rfl)
  have bad:y8 r0.length r=true->aaR rows=some (i:Int):=fun z=>akU h er (by rw [g0];exact z) (by rw [g0];exact pre)
  have fine:y8 r0.length r=false->∀ j:Nat,j<i+1->∀ q,rows[j]?=some q->y8 (rows.getD 0 []).length q=false:=fun z j hj q hq=>by
   rw [g0]
   by_cases ej:j=i
   ·subst ej;rw [er] at hq;cases hq;exact z
   ·exact pre j (by omega) q hq
  refine jG rfl (zC (zj (zC (zj (yG (ao7 ?_))))))
  walk_at "w"
  refine⟨_,at0,?_⟩
  walk_at "w"
  rw [if_pos rfl,apC,apC]
  show (if (!(((r.length:Nat):Int) == ((r0.length:Nat):Int)))=true then _ else _)
  by_cases hw:r.length=r0.length
  ·rw [hw,beq_self_eq_true,aqd,if_neg apB]
   refine qU (yW (zr r ?_))
   walk_at "w"
   rintro _ rfl
   refine⟨_,rfl,?_⟩
   show (if (!(afh r))=true then _ else _)
   cases ro:afh r with
   | true =>
    rw [aqd,if_neg apB]
    refine afO ?_
    walk_at "w"
    exact fine (by unfold y8;rw [ro,hw];simp)
   | false =>
    rw [aq6,if_pos rfl]
    refine ads ?_
    walk_at "w"
    exact⟨_,bad (by unfold y8;rw [ro];simp),rfl⟩
  ·rw [beq_eq_false_iff_ne.mpr (fun z=>hw (by omega)),aq6,if_pos rfl,if_pos rfl]
   refine ads ?_
   walk_at "w"
   exact⟨_,bad (by unfold y8;simp [hw]),rfl⟩
 ·rintro _ ⟨⟨a,b,rfl⟩,pre⟩
  refine afO ?_
  walk_at "w"
  refine akV h ?_
  unfold vQ at pre
  rw [asM,apC] at pre
  exact pre
noncomputable abbrev TR:=List (List Int)×Int×List DV
noncomputable abbrev apz (c:TR) (xs:List DV):Prop:=xs=.dat (tab c.1) :: c.2.2/\aaR c.1=some c.2.1
noncomputable abbrev apn (C:Addr) (c:TR) (Cv:Value) (x:XD):Prop:=Cv=.ref C/\x=some (("at":Str),PyData.int c.2.1)
noncomputable abbrev spR (K:apD) (C:Addr) (n:Nat):Sp:=spF K n apz (fun _ _=>False) (apn C)
theorem aiM {C:Addr} {f:Fx} {E:XK} {ρ:zp} {D:DEnds} {c:TR} (h0:ρ[0]?=some (some (.dat (tab c.1)))) (e:aaR c.1=some c.2.1):PSf K f E (jL (vw (vx (agh K C) [] E (zQ (yp 0) yJ))) afl) ρ D (apn C c):=by
 refine aj5 (anS (anR c.1 (zJ (zq h0 (yu ⟨rfl,rfl,?_,?_⟩)))))
 ·rintro _ ⟨rfl,z⟩
  rw [e] at z
  cases z
 ·rintro C x ⟨rfl,i',z,rfl⟩
  rw [e] at z
  cases z
  exact⟨rfl,rfl⟩
theorem aad {uab:Addr} (F:Def K mg "show_table" yZ pf) (uaj:FnInF P w K mg base k "ask_table" pf (agh K uab)):FnInF P w K mg base (k+1) "show_table" pf (spR K uab 1):=by
 refine F.okF vB rfl fun fa cdv A outer s H E hr=>⟨_,(zc (yE (aj7 uaj hr rfl (za (pv 0) zb))) abX),?_⟩
 rintro f xs c hl ⟨rfl,e⟩
 exact aiM rfl e
theorem akW {wd:Nat} {rows:List (List Int)} (g:Good wd rows) {r:List Int} (h:r∈rows):y8 wd r=false:=by
 have rl:=g.row r h
 have w1:=g.w1
 have w2:=g.w2
 unfold y8 afh
 rw [rl,decide_eq_true (⟨w1,w2,g.hgt r h⟩:2<=wd/\wd<=7/\∀ n∈r,-1000000000<=n/\n<=1000000000)]
 simp
theorem aiN {wd:Nat} {rows:List (List Int)} (g:Good wd rows) {y:Nat} {r':List Int} (hy:y<rows.length):((rows.set y r').getD 0 []).length=if y=0 then r'.length else wd:=by
 rw [apF]
 by_cases h:y=0
 ·subst h
  rw [aqm hy,if_pos rfl]
  rfl
 ·rw [aqs h,if_neg h]
  have g1:=g.h1
  rw [apA (show 0<rows.length by omega)]
  exact g.row _ (aqf _)
theorem amo {wd:Nat} {rows:List (List Int)} (g:Good wd rows) {y:Nat} {r':List Int} (hy:y<rows.length) (hl:r'.length=wd) (hb:y8 wd r'=true):aaR (rows.set y r')=some (y:Int):=by
 have e0:((rows.set y r').getD 0 []).length=wd:=by
  rw [aiN g hy]
  split
  ·exact hl
  ·rfl
 refine akU (by rw [aqB];exact⟨g.h1,g.h2⟩) (aqm hy) (by rw [e0];exact hb) fun j hj q hq=>?_
 rw [aqs (by omega)] at hq
 rw [e0]
 exact akW g (apN hq)
theorem akX {wd:Nat} {rows:List (List Int)} (g:Good wd rows) {r:List Int} {x:Nat} {v:Int} (hx:x<r.length) (hv:v < -1000000000 \/ 1000000000<v):y8 wd (r.set x v)=true:=by
 unfold y8 afh
 rw [decide_eq_false (p:=2<=(r.set x v).length/\(r.set x v).length<=7/\∀ n∈r.set x v,-1000000000<=n/\n<=1000000000) (fun z=>by
  have:=z.2.2 v (apN (aqm hx))
  omega)]
 simp
open PySem PySem.NumText PySem.Spec PyProof.Rows L2
section
variable {K:apD} {f:Fx} {a:Addr} {as:List Addr} {ρ:zp} {rows:List (List Int)} {O:zp->Option (List (List Int))->Prop} {te:TE} {i:Nat} {P:PyData->Prop}
theorem aoz (hi:ρ[i]?=some (some (.own f.M.length))) (hl:rows.length<1000) (h:O ρ none):PSu K f a as (vw (tBM K "list" vO (yp i) (zQ (afu yJ) yJ))) ρ (some rows) O:=fun se σ H H2 E x n=>by
 have t:=x.tab rows rfl
 have hm:a∈a :: as:=apJ ..
 refine⟨.ref a,x.at hi,Or.inl ⟨rfl,_,.of t.top⟩,ap9 _,fun D hn=>?_⟩
 have g1:Goes (f.withs (a :: as)) H (upd H D (.lst [])):=.of_same (zI hn _) x.env.fd
 have x1:=x.go g1 (x.env.mono g1)
 have t1:=x1.tab rows rfl
 refine⟨a,as.map .ref,.ref D,rfl,rfl,t1.top,zW (by rw [apC,t.len];omega),?_⟩
 exact n ρ none σ _ ⟨ade se hm x1.env,by rw [yd hm];exact x1.sm,fun b hb=>(zm (fun (z:b=a)=>se.nm _ hm (z▸hb))).trans (x1.kp b hb),fun rows' e=>nomatch e⟩ h
theorem apo {n:String} {b:Bool} (hk:aql K (.type "str") (.type n)=some b) (h:PEd K f te ρ fun d=>∃ z,d=.str z/\P (.bool b)):PEd K f (tCB (alc K) (zQ te (zQ (tC (.ty n)) yJ))) ρ P:=fun σ H Q e q=>h σ H _ e fun d v H1 g r ⟨z,ed,p⟩=>by
 subst ed
 rw [rep_str.mp r]
 exact⟨_,n,b,rfl,.inr (.inr ⟨_,.str z,hk⟩),q _ _ H1 g (rep_bool.mpr rfl) p⟩
end
noncomputable abbrev afi (K:apD):Sp:=spD K 2 (fun (c:List (List Int)×Nat) xs=>xs=[.feed,.dat (tab c.1)]/\Good c.2 c.1) fun _ r=>r=.bool true
theorem aiO {uab uap:Addr} (F:Def K mg "_law_bad_row" jm pQ) (uaa:mg "len"=none) (uaq:mg "list"=none) (ual:mg "isinstance"=none) (uak:mg "NoTable"=some (.ref uab)) (uaS:mg "NoText"=some (.ref uap)) (I_NoTable:InitOk P w K mg base 1 uab "at") (uaF:aaY K uab=true) (en:asi K (.ref uab) (.ref uab)=some true) (kx:aql K (.ref uab) (.ref uap)=some false)
  (uac:FnIn P w K mg base k "_law_draw" pE (aby K)) (uaT:FnInF P w K mg base k "show_table" pf (spR K uab 1)):FnIn P w K mg base (k+1) "_law_bad_row" pQ (afi K):=by
 obtain⟨fT,dT,T⟩:=I_NoTable.fld
 have W:=alL uaF
 obtain⟨fg,fgd,ubJ,ubK,ubL,ubM⟩:=uaT.ex
 refine F.ok sc_law_bad_row rfl fun fa cdv A outer s H E hr=>⟨_,(zc (qT (i:=2) (N:=["_law_row"]) (own:=1) (fr:=[]) ⟨rfl,by decide +kernel,of_decide_eq_true (by kernel_rfl),of_decide_eq_true (by kernel_rfl),of_decide_eq_true (by kernel_rfl),rfl⟩ rfl sc_law_bad_row.nd rfl (Or.inl rfl) (zX (K:=K) rfl (pv 1)) (fun _ _ _ _=>(zk (i:=0) (show (["_law_row"]:List Str).Nodup by decide +kernel) rfl (Or.inl rfl) (Or.inr rfl))) (fun _ _ _ _=>z8) (fun _ _ _ _=>(yr (abh (K:=K) rfl) rfl uaq ats (za (pv 0) zb))) rfl rfl (fun _=>rfl) (Or.inl rfl) rfl) (zc (zD (i:=3) sc_law_bad_row.nd rfl (Or.inl rfl) (ze uac hr rfl (za (pv 0) (za (zy (z4 (K:=K) rfl) rfl uaa aqu (za (pv 1) zb)) zb)))) (zc (zD (i:=4) sc_law_bad_row.nd rfl (Or.inl rfl) (ze uac hr rfl (za (pv 0) (za (zy (z4 (K:=K) rfl) rfl uaa aqu (za (zM (zB (K:=K) rfl) (pv 1) zd (fun _ _=>rfl)) zb)) zb)))) (zc (yB (zM (zB (K:=K) rfl) (yg (za (zx z7 (zx qx zd zd) zd) (za (zx jD (zx jD zd (zx qx zd zd)) zd) zb))) (ze uac hr rfl (za (pv 0) (za zd zb))) (fun _ _=>rfl)) (aa5 (zM (zB (K:=K) rfl) (pv 2) (pv 3) (fun _ _=>rfl)) (pv 4) set_list)) (zc (zD (i:=5) sc_law_bad_row.nd rfl (Or.inl rfl) aa3) (zc (alJ (j:=6) (alI ubJ hr rfl ubK ubL ubM (za (pv 2) zb)) sc_law_bad_row.nd rfl rfl rfl rfl rfl uak (fun _=>(zc (zD (i:=5) sc_law_bad_row.nd rfl (Or.inl rfl) (aio (K:=K) rfl (pv 6))) (zg (yq (z5 (K:=K) rfl (zy (aj4 (K:=K) rfl) rfl ual boot_isinstance (za (pv 6) (za (acB (v:=.ref uap) rfl uaS rfl) zb))) (fun _=>rfl)) (zg (zD (i:=5) sc_law_bad_row.nd rfl (Or.inl rfl) aa3)) zK))))) (zg (zw (ju (aah (K:=K) rfl hr.units) (pv 5) (pv 3) (zP _)))))))))),?_⟩
 rintro f xs ⟨rows,wd⟩ hl ⟨rfl,g⟩
 try dsimp only [zH,zi]
 dsimp only at *
 have g1:=g.h1
 have g2:=g.h2
 have w1:=g.w1
 have w2:=g.w2
 obtain⟨r0,hr0⟩:∃ r0,rows[0]?=some r0:=⟨_,apA (by omega)⟩
 have hw0:=g.row r0 (apN hr0)
 have at0:atI (rows.map fun r=>PyData.list (r.map .int)) 0=some (.list (r0.map .int)):=zO (j:=0) (by rw [apM,hr0];rfl)
 have ml:(rows.map fun r=>PyData.list (r.map .int)).length=rows.length:=apC _
 refine anZ (anJ (i:=1) rfl (by omega) ⟨show 2<7 by decide,fun a as=>?_⟩)
 refine akb (afQ (zS (zr (rows.length:Int) ?_)))
 walk_at "w"
 refine⟨⟨by rw [ml],by omega,by omega⟩,?_⟩
 rintro _ ⟨y,rfl,y0,y1⟩
 obtain⟨yn,rfl⟩:∃ n:Nat,y=n:=⟨y.toNat,by omega⟩
 refine zj (akb (afQ (zS (zr (wd:Int) ?_))))
 walk_at "w"
 refine⟨_,at0,?_⟩
 walk_at "w"
 refine⟨⟨by rw [apC,hw0],by omega,by omega⟩,?_⟩
 rintro _ ⟨x,rfl,x0,x1⟩
 obtain⟨xn,rfl⟩:∃ n:Nat,x=n:=⟨x.toNat,by omega⟩
 obtain⟨row,hrow⟩:∃ r,rows[yn]?=some r:=⟨_,apA (by omega)⟩
 have rm:=apN hrow
 have rl:=g.row row rm
 have hyl:yn<rows.length:=by omega
 have e9:(10:Int) ^ asJ 9=1000000000:=by decide
 refine zj (akb (ape (i:=2) rfl ?_))
 walk_at "w"
 refine zr 2 ?_
 walk_at "w"
 rintro _ ⟨q,rfl,q0,q1⟩
 obtain⟨v,ev,hv⟩:∃ v:Int,atI [PyData.int (10 ^ asJ 9+1),.int (0 - 10 ^ asJ 9 - 1)] q=some (.int v)/\(v < -1000000000 \/ 1000000000<v):=by
  have:q=0 \/ q=1:=by omega
  rcases this with rfl | rfl
  ·exact⟨_,zO (j:=0) rfl,.inr (by omega)⟩
  ·exact⟨_,zO (j:=1) rfl,.inl (by omega)⟩
 refine⟨_,rfl,_,ev,v,rfl,zq rfl ⟨yn,rfl,row,hrow,zq rfl ⟨xn,rfl,by omega,?_⟩⟩⟩
 have due:aaR (rows.set yn (row.set xn v))=some (yn:Int):=amo g hyl (by rw [aqB];exact rl) (akX g (by omega) hv)
 generalize rows.set yn (row.set xn v)=bad at due ⊢
 refine anY (i:=2) rfl ?_
 show PSd K f _ [some .feed,some (.dat (tab rows)),some (.dat (tab bad)),some (.dat (.int yn)),some (.dat (.int xn)),none,none] _
 refine z6 (zS (ai6 (zj ?_)))
 refine z6 (anU (anT ((bad,(yn:Int),[]):TR) (afS rfl ⟨rfl,⟨rfl,due⟩,fun r z=>z.elim,?_⟩)))
 rintro _ _ ⟨rfl,rfl⟩
 refine⟨en,fun b=>?_⟩
 refine z6 (zS (aj6 rfl T W (zj ?_)))
 refine acW (yW (anV rfl W kx ⟨false,rfl,?_⟩))
 rw [if_neg apB]
 refine qO (yL (jF (zq rfl (zq rfl ⟨rfl,rfl,by show min 0 0<=60;decide,?_⟩))))
 rw [if_neg apB,adF,decide_eq_true rfl]
noncomputable abbrev scr (ns:List Int):PyData:=.list (ns.map .int)
theorem ahB {K:apD} {H:Hp} {a:Addr} {ns:List Int} (h:SqL K H a (ns.map V.int)):Rep K (hide H L2.f0) (scr ns) (.ref a):=by
 rw [yT]
 exact rep_list.mpr ⟨a,_,rfl,h,Reps.ints' ns⟩
theorem amq {K:apD} {H:Hp} {v:V} {ns:List Int} (h:Rep K (hide H L2.f0) (scr ns) v):∃ a,v=.ref a/\SqL K H a (ns.map V.int):=by
 rw [yT] at h
 obtain⟨a,xs,rfl,h1,h2⟩:=rep_list.mp h
 rw [h2.ints] at h1
 exact⟨a,rfl,h1⟩
noncomputable def agi (K:apD):Sp:=fun vs H Q _=>∃ (a:Addr) (ns:List Int) (i:Int),vs=[.ref a,.int i]/\SqL K H a (ns.map V.int)/\ns.length<=63/\0<=i/\i<=63 /\
 ∀ (p:Addr) (x y:Int) (H':Hp),Same H H'->H p=none->H' p=some (.lst [.int x,.int y])->0<=x->0<=y->y<2147483647->Q (.ref p) H'
noncomputable def ahD (K:apD):Sp:=fun vs H Q _=>∃ (a:Addr) (ns:List Int),vs=[.ref a]/\SqL K H a (ns.map V.int)/\ns.length<=63/\∀ H',Q (.bl true) H'
theorem amr {K:apD} {f:Fx} {t:TA} {ρ:zp} {R R':List DV->Prop} (h:PAd K f t ρ R) (i:∀ xs,R xs->R' xs):PAd K f t ρ R':=fun σ H Q e q=>h σ H Q e fun xs vs H' g r p=>q xs vs H' g r (i xs p)
theorem aoA {K:apD} {ρ:zp} {ns:List Int} {i:Int} {E2:XK} (h0:ρ[0]?=some (some (.dat (scr ns)))) (h1:ρ[1]?=some (some (.dat (.int i)))) (hl:ns.length<=63) (i0:0<=i) (i1:i<=63) :
  ∀ (σ:L2.St) (H:Hp) (Q:VK),EnvOk K L2.f0 ρ σ H->(∀ (p:Addr) (x y:Int) (H':Hp),Same H H'->H p=none->H' p=some (.lst [.int x,.int y])->0<=x->0<=y->y<2147483647->Q (.ref p) H')->vx (agi K) [] E2 (zQ (yp 0) (zQ (yp 1) yJ)) σ H Q:=by
 intro σ H Q e q
 obtain⟨v0,hv0,r0⟩:=e.get 0 _ h0
 obtain⟨v1,hv1,r1⟩:=e.get 1 _ h1
 obtain⟨a,rfl,hS⟩:=amq r0
 have e1:v1=.int i:=rep_int.mp (show Rep K (hide H L2.f0) (.int i) v1 from r1)
 subst e1
 exact⟨_,hv0,_,hv1,a,ns,i,rfl,hS,hl,i0,i1,q⟩
theorem aoB {K:apD} {f:Fx} {ρ:zp} {P:PyData->Prop} {i:Nat} {rows:List (List Int)} (hi:ρ[i]?=some (some (.dat (tab rows)))) (hl:rows.length<=1000) (p:P (tab rows)) :
  PEd K f (jP (abY K (yp i)) 1 [] (yR 0) ad2 fun D=>jO D (tCB (fun xs H Q=>∃ p ys,xs=[V.ref p]/\(SqL K H p ys \/ SqT K H p ys)/\∀ l,H l=none->Q (V.ref l) (upd H l (HO.lst ys))) (zQ (yp 0) yJ))) ρ P:=by
 refine PEdO.ped (qP (A:=fun r:List Int=>PyData.list (r.map .int)) (B:=fun r:List Int=>PyData.list (r.map .int)) rows (yM (zq hi ⟨_,rfl,rfl,hl,?_,p⟩)))
 rintro D r ρ' es hr ho hes
 obtain⟨u,rfl⟩:=ho.one
 refine zj (y6 ?_)
 rw [if_pos rfl]
 exact yD hes (aje (zJ (zq rfl (yu (.inl ⟨_,rfl,.mk1,rfl⟩)))))
theorem ams (F:Def K mg "_law_feed" qE pN) (uaa:mg "len"=none) (uao:mg "abs"=none):FnIn P w K mg base (k+1) "_law_feed" pN (agi K):=by
 refine F.raw sc_law_feed (fun vs H Q E h=>?_) fun fa cdv A outer s H vs Q E hr hs=>⟨_,(zc (zD (i:=2) sc_law_feed.nd rfl (Or.inl rfl) zd) (zc (yq (zN adW (zy (z4 (K:=K) rfl) rfl uaa aqu (za (pv 0) zb)) zd (zP _)) (zg (zD (i:=2) sc_law_feed.nd rfl (Or.inl rfl) (zM (zB (K:=K) rfl) (pv 0) (zx aaf (pv 1) (zy (z4 (K:=K) rfl) rfl uaa aqu (za (pv 0) zb))) (fun _ _=>rfl)))) zK) (zg (zw (yg (za (zy (adX) rfl uao atB (za (pv 2) zb)) (za (zx z7 (zx aa7 zd (pv 1)) zd) zb))))))),?_⟩
 ·obtain⟨a,ns,i,rfl,_⟩:=h
  rfl
 obtain⟨a,ns,i,rfl,hS,h63,i0,i1,q⟩:=hs
 have e0:EnvOk K L2.f0 (qe vK [.dat (scr ns),.dat (.int i)]) (start vK [.ref a,.int i]) H:=jB (.cons (ahB hS) (.cons (show RepV K L2.f0 H (.dat (.int i)) (.int i) from (rep_int (K:=K) (H:=hide H L2.f0)).mpr rfl) .nil)) (L2.fok0 H)
 refine aji (D:={ nx:=fun ρ=>ρ=[some (.dat (scr ns)),some (.dat (.int i)),some (.dat (.int 0))],rt:=fun _=>False }) ?_ e0 ?_ (fun _ _ _ _ _ z=>z.elim) (fun _ z=>z) (fun _ z=>z)
 ·walk_at "w"
  rfl
 rintro _ σ1 H1 g1 e1 rfl
 refine aji (D:={ nx:=fun ρ=>∃ c:Int,ρ=[some (.dat (scr ns)),some (.dat (.int i)),some (.dat (.int c))],rt:=fun _=>False }) ?_ e1 ?_ (fun _ _ _ _ _ z=>z.elim) (fun _ z=>z) (fun _ z=>z)
 ·walk_at "w"
  rw [apC]
  by_cases h:0<ns.length
  ·rw [if_pos (by simpa using h)]
   walk_at "w"
   rw [apC]
   have z0:=asy i (b:=(ns.length:Int)) (by omega)
   have z1:=ark i (b:=(ns.length:Int)) (by omega)
   refine⟨by omega,_,rfl,_,qJ (j:=(i % (ns.length:Int)).toNat) (by omega) (by omega),?_⟩
   walk_at "w"
   exact⟨_,rfl⟩
  ·rw [if_neg (by simpa using h)]
   walk_at "w"
   exact⟨_,rfl⟩
 rintro _ σ2 H2 g2 e2 ⟨c,rfl⟩
 unfold afk
 have ss:Same H H2:=(L2.same0 g1).trans (L2.same0 g2)
 refine ajj (R:=fun ds=>∃ x y:Int,ds=[.int x,.int y]/\0<=x/\0<=y/\y<2147483647) ?_ e2 ?_
 ·walk_at "w"
  omega
 ·rintro p ds vs H3 g3 hn rs ⟨x,y,rfl,hx,hy,hy'⟩
  have sf:Same H H3:=ss.trans (L2.same0 g3)
  have ev:vs=[.int x,.int y]:=Reps.ints (ns:=[x,y]) rs
  subst ev
  exact q p x y _ (sf.trans (zI hn _)) (sf.free hn) zo hx hy hy'
open PySem PySem.NumText PySem.Spec PyProof.Rows L2
theorem afj (d:PyData) (ds:List PyData):L2.cutD (d :: ds) (some 1) none=ds:=by
 unfold L2.cutD HT.sIx
 simp
theorem aa1:∀ r:List Int,aqN (r.map .int)=true/\apP (r.map PyData.int)=0
 | []=>⟨rfl,rfl⟩
 | n :: r=>⟨(aa1 r).1,by
  show max 0 (apP (r.map PyData.int))=0
  rw [(aa1 r).2]
  rfl⟩
theorem vt:∀ rows:List (List Int),aqN (rows.map fun r=>PyData.list (r.map .int))=true/\apP (rows.map fun r=>PyData.list (r.map .int))<=1
 | []=>⟨rfl,by decide⟩
 | r :: rows=>⟨by
  show ((PyData.list (r.map .int)).canLay0 && aqN (rows.map fun r=>PyData.list (r.map .int)))=true
  rw [(vt rows).1,at7]
  exact (aa1 r).1,by
  show max (apP (r.map PyData.int)+1) (apP (rows.map fun r=>PyData.list (r.map .int)))<=1
  rw [(aa1 r).2]
  exact Nat.max_le.mpr ⟨by decide,(vt rows).2⟩⟩
theorem agj (i:Int):∀ c∈cpl (zE i),c<128:=fun c hc=>by
 cases i with
 | ofNat m =>
  have e:cpl (zE (Int.ofNat m))=(aqv 10 m).map aqz:=qK m
  rw [e] at hc
  have:=yQ hc
  omega
 | negSucc m =>
  have e:cpl (zE (Int.negSucc m))=45 :: cpl (aqh (toString (((m+1:Nat)):Int))):=by
   show (aqh ("-"++toString (m+1))).cps.toList=45 :: (aqh (toString (m+1))).cps.toList
   rw [signs_ofString,signs_ofString,arV]
   rfl
  rw [e] at hc
  rcases apK.mp hc with rfl | hc
  ·decide
  ·rw [qK] at hc
   have:=yQ hc
   omega
theorem adS (t:Bool×List Gt):(PyData.str (aaL t)).canLay0=true:=by
 refine Tx.ok (B:=(aaL t).length) (T:=(aaL t).length) ⟨fun c hc=>?_,apI _,by rw [<-yx];exact List.countP_le_length⟩
 rw [aff] at hc
 rcases apW.mp hc with hc | hc
 ·have:∀ q:Bool,(cpl (vf q)).all (fun c=>decide (c<128))=true:=by decide +kernel
  exact of_decide_eq_true (aqU.mp (this t.1) c hc)
 ·obtain⟨g,_,hc⟩:=aqo.mp hc
  rcases apK.mp hc with rfl | hc
  ·decide
  ·rw [afe] at hc
   rcases apW.mp hc with hc | hc
   ·exact agj _ c hc
   ·rcases apK.mp hc with rfl | hc
    ·decide
    ·rcases apW.mp hc with hc | hc
     ·exact agj _ c hc
     ·rcases apK.mp hc with rfl | hc
      ·decide
      ·exact agj _ c hc
theorem agk {rows:List (List Int)} {wd:Nat} {cut:Int} (g:Good wd rows) {q:Gt} (h:opG rows wd cut q=true):SmG q:=by
 have m:=mem_gates.mpr h
 rw [qt] at m
 obtain⟨m,_⟩:=ard.mp m
 unfold yH at m
 obtain⟨x,hx,m⟩:=aqo.mp m
 obtain⟨y,hy,m⟩:=aqo.mp m
 have hx:=aqa.mp hx
 have hy:=aqa.mp hy
 have h2:=g.h2
 have w2:=g.w2
 simp only [apK,aqD,or_false] at m
 rcases m with rfl | rfl
 ·refine⟨?_,?_,?_⟩ <;> (dsimp only;omega)
 ·refine⟨?_,?_,?_⟩ <;> (dsimp only;omega)
theorem aiP {ts:List (Bool×List Gt)} {t:Bool×List Gt} (h:t∈ts):t.2.length<=(flat ts).length:=by
 induction ts with
 | nil=>cases h
 | cons a ts ih =>
  show _<=(a.2++flat ts).length
  rw [apX]
  rcases apK.mp h with rfl | h
  ·omega
  ·have:=ih h
   omega
theorem aoC {f:Addr} {fd:FuncData} (F:Fun K "law" "law" aaJ f fd) (uaa:mg "len"=none) (uad:mg "range"=none) (uah:mg "max"=none) (uag:mg "min"=none) (uaq:mg "list"=none) (ual:mg "isinstance"=none) (uaU:mg "bool"=none) (uae:mg "str"=none) (uaV:mg "any"=none)
  (kB:aql K (.type "int") (.type "bool")=some false) (kS:aql K (.type "str") (.type "str")=some true)
  (ubN:FnIn P w K mg base k "_law_feed" pN (agi K)) (ubO:FnIn P w K mg base k "_law_table" pB (ahc K)) (uac:FnIn P w K mg base k "_law_draw" pE (aby K)) (ubP:FnIn P w K mg base k "_law_text" pO (amN K)) (uaT:FnIn P w K mg base k "show_table" pf (akO K)) (ubq:FnIn P w K mg base k "read_table" ["text"] (ahw K)) (ubQ:FnIn P w K mg base k "lines" pA (ahs K)) (ubR:FnIn P w K mg base k "_law_drawn" pB (ahA K)) (ubS:FnIn P w K mg base k "show_line" ["line"] (ahz K)) (ubT:FnIn P w K mg base k "_law_line" pP (afg K)) (ubU:FnIn P w K mg base k "_law_bad_row" pQ (afi K)) :
  FnOk P w K mg base CX0 (k+1) f fd pR (ahD K):=by
 refine F.ok sc_law (fun vs H Q E h=>?_) fun cdv A outer s H vs Q E hr hs=>⟨_,(zc (jq aqx rfl (yS rfl uad (za (zy (abZ rfl) rfl uah boot_max (za zd (za (zy (ab0 rfl) rfl uag boot_min (za zd (za (zy (z4 (K:=K) rfl) rfl uaa aqu (za (pv 0) zb)) zb))) zb))) zb)) (zk (i:=1) sc_law.nd rfl (Or.inl rfl) (Or.inr rfl)) (zc (zD (i:=2) sc_law.nd rfl (Or.inl rfl) (ze ubN hr rfl (za (pv 0) (za (pv 1) zb)))) (zc (zD (i:=3) sc_law.nd rfl (Or.inl rfl) (ze ubO hr rfl (za (pv 2) zb))) (zc (qT (i:=4) (N:=["_law_row"]) (own:=1) (fr:=[]) ⟨rfl,by decide +kernel,of_decide_eq_true (by kernel_rfl),of_decide_eq_true (by kernel_rfl),of_decide_eq_true (by kernel_rfl),rfl⟩ rfl sc_law.nd rfl (Or.inl rfl) (zX (K:=K) rfl (pv 3)) (fun _ _ _ _=>(zk (i:=0) (show (["_law_row"]:List Str).Nodup by decide +kernel) rfl (Or.inl rfl) (Or.inr rfl))) (fun _ _ _ _=>z8) (fun _ _ _ _=>(yr (abh (K:=K) rfl) rfl uaq ats (za (pv 0) zb))) rfl rfl (fun _=>rfl) (Or.inl rfl) rfl) (zc (zD (i:=5) sc_law.nd rfl (Or.inl rfl) (ze ubP hr rfl (za (pv 4) zb))) (zc (zD (i:=6) sc_law.nd rfl (Or.inl rfl) (ze uaT hr rfl (za (pv 3) zb))) (zc (yq (PW.pt (adT (jC (z5 (K:=K) rfl (zy (ab9 (K:=K) rfl) rfl ual boot_isinstance (za (pv 6) (za (agl (v:=.ty "str") rfl uae aqO rfl) zb))) (fun _=>rfl))) (adT (zN (jH (K:=K) rfl hr.units) (pv 6) (pv 5) (zP _)) (acC (zN (jH (K:=K) rfl hr.units) (pv 3) (pv 4) (zP _)))))) (zg (zw qg)) zK) (zc (zD (i:=7) sc_law.nd rfl (Or.inl rfl) (ze ubq hr rfl (za (pv 5) zb))) (zc (yq (PW.pt (adT (zN (jH (K:=K) rfl hr.units) (pv 7) (pv 4) (zP _)) (acC (z5 (K:=K) rfl (zy (ahY (K:=K) rfl rfl) rfl uaV PyProof.Rows.boot_any (za (yc (N:=["_law_height_here"]) (own:=1) (fr:=[]) ⟨rfl,by decide +kernel,of_decide_eq_true (by kernel_rfl),of_decide_eq_true (by kernel_rfl),of_decide_eq_true (by kernel_rfl),rfl⟩ rfl (zX (K:=K) rfl (zM (zB (K:=K) rfl) (pv 7) (aiU afo zd) (fun _ _=>rfl))) (fun _ _ _ _=>(zk (i:=0) (show (["_law_height_here"]:List Str).Nodup by decide +kernel) rfl (Or.inl rfl) (Or.inr rfl))) (fun _ _ _ _=>z8) (fun _ _ _ _=>(zy (ab9 (K:=K) rfl) rfl ual boot_isinstance (za (pv 0) (za (agl (v:=.ty "bool") rfl uaU PyProof.Rows.boot_bool rfl) zb)))) rfl rfl (fun _=>rfl)) zb)) (fun _=>rfl))))) (zg (zw qg)) zK) (zc (yE (qS aqL aqE aqF ja (zM (zB (K:=K) rfl) (pv 7) zd (fun _ _=>rfl)) (za zd zb))) (zc (yq (zN (jH (K:=K) rfl hr.units) (aba (aeh (K:=K) rfl) (pv 7) (acI zd) acH) (aba (aeh (K:=K) rfl) (pv 4) (acI zd) acH) (zP _)) (zg (zw qg)) zK) (zc (yE (qS aqL aqE aqF ja (pv 7) (za (yg zb) zb))) (zc (yq (zN (jH (K:=K) rfl hr.units) (ze ubq hr rfl (za (pv 5) zb)) (pv 4) (zP _)) (zg (zw qg)) zK) (zc (zD (i:=8) sc_law.nd rfl (Or.inl rfl) (zx jD (zM (zB (K:=K) rfl) (zM (zB (K:=K) rfl) (pv 3) zd (fun _ _=>rfl)) zd (fun _ _=>rfl)) (ze uac hr rfl (za (pv 2) (za zd zb))))) (zc (jq aqx rfl (zX (K:=K) rfl (zx (abl (K:=K) rfl) (ze ubQ hr rfl (za (pv 3) (za (pv 8) zb))) (yg (za (ze ubR hr rfl (za (pv 2) zb)) zb)))) (zk (i:=9) sc_law.nd rfl (Or.inl rfl) (Or.inr rfl)) (zg (yq (zN (jH (K:=K) rfl hr.units) (ze ubS hr rfl (za (pv 9) zb)) (ze ubT hr rfl (za (pv 9) zb)) (zP _)) (zg (zw qg)) zK))) (zg (yq (PW.pt (aiR (zN (aah (K:=K) rfl hr.units) (ze uac hr rfl (za (pv 2) (za zd zb))) zd (zP _)) (agm (jC (z5 (K:=K) rfl (ze ubU hr rfl (za (pv 2) (za (pv 4) zb))) (fun _=>rfl)))))) (zg (zw qg)) zK))))))))))))))))) (zg (zw qg))),?_⟩
 ·obtain⟨a,ns,rfl,_⟩:=h
  rfl
 obtain⟨a,ns,rfl,hS,h63,q⟩:=hs
 have e0:EnvOk K L2.f0 (qe ahb [.dat (scr ns)]) (start ahb [.ref a]) H:=jB (.cons (ahB hS) .nil) (L2.fok0 H)
 suffices h:PSd K L2.f0 _ (qe ahb [.dat (scr ns)]) { nx:=fun _=>False,rt:=fun d=>d=.bool true } from
  h _ H _ e0 (fun _ _ _ _ _ z=>z.elim) (fun d v H' _ r z=>by
   subst z
   rw [rep_bool.mp r]
   exact q H') (fun _ _ _ _ _ z=>z) (fun _ _ _ _ _ z=>z)
 refine z6 (aef (vj (amr (R:=fun xs=>∃ j:Int,xs=[.dat (.int j)]/\0<=j/\j<=63) ?_ ?_)))
 ·walk_at "w"
  rw [apC]
  split <;> split <;> omega
 rintro _ ⟨j,rfl,j0,j1⟩
 refine⟨j,rfl,by omega,by omega,fun i ρ=>∃ x1 x2 x3 x4 x5 x6 x7 x8 x9,ρ=[some (.dat (scr ns)),x1,x2,x3,x4,x5,x6,x7,x8,x9],⟨_,_,_,_,_,_,_,_,_,rfl⟩,?_,?_⟩
 ·rintro i d _ hi ⟨x1,x2,x3,x4,x5,x6,x7,x8,x9,rfl⟩
  obtain⟨hi,rfl⟩:=qq hi
  refine zj (anl (aoA rfl rfl h63 (by omega) (by omega)) fun p=>?_)
  refine z6 (zS (zr () ?_))
  walk_at "w"
  rintro _ ⟨wd,rows,rfl,g⟩
  have g1:=g.h1
  have g2:=g.h2
  have w1:=g.w1
  have w2:=g.w2
  obtain⟨lt,dt⟩:=al6 rows
  have ls:(PyData.str (tabS rows)).canLay0=true:=(agg g).2.ok
  obtain⟨r0,rs0,er⟩:=g.ne
  have rl0:=g.row r0 (by rw [er];exact apJ)
  have at0:atI (rows.map fun r=>PyData.list (r.map .int)) 0=some (.list (r0.map .int)):=zO (j:=0) (by rw [er];rfl)
  refine zj (z6 (zS (aoB rfl (by omega) (zj ?_))))
  refine z6 (zS (zr (rows,wd) (afS rfl ⟨rfl,⟨rfl,g⟩,?_⟩)))
  rintro _ rfl
  refine zj (z6 (zS (zr (rows,wd) (afS rfl ⟨rfl,⟨rfl,g⟩,?_⟩))))
  rintro _ rfl
  refine zj (z6 (acW (ai8 (qU (yW (apo kS (zq rfl ⟨_,rfl,true,rfl,?_⟩)))))))
  rw [aqd,if_neg apB]
  refine ai8 (yC (jF (zq rfl (zq rfl ⟨ls,ls,by show min 0 0<=60;decide,_,rfl,?_⟩))))
  rw [if_pos rfl,arC _ ls,aqd,if_neg apB]
  refine yC (jF (zq rfl (zq rfl ⟨lt,lt,ap1 (asC _ _) dt,_,rfl,?_⟩)))
  rw [if_pos rfl,arC _ lt,aqd,if_neg apB]
  refine qO ?_
  refine anW (aj9 (rows,wd) (afS rfl ⟨rfl,⟨rfl,g⟩,?_,fun _ z=>z,fun _ _ z=>z⟩))
  intro rs1 e1
  obtain rfl:rows=rs1:=Eq.symm e1
  refine⟨show 7<10 by decide,fun a as=>?_⟩
  dsimp only
  obtain⟨rz,ez⟩:∃ r,rows[rows.length - 1]?=some r:=⟨_,apA (by omega)⟩
  have lz:=g.row rz (apN ez)
  have atz:atI (rows.map fun r=>PyData.list (r.map .int)) (-1)=some (.list (rz.map .int)):=by
   unfold atI ixN
   rw [apC]
   rw [if_neg (by decide),if_pos (by omega)]
   show (rows.map fun r=>PyData.list (r.map .int))[(((rows.length:Nat):Int)+(-1)).toNat]?=_
   rw [show (((rows.length:Nat):Int)+(-1)).toNat=rows.length - 1 by omega,apM,ez]
   rfl
  refine aeH (apb (i:=7) rfl ?_)
  refine ai8 (yC (jF (zq rfl (zq rfl ⟨lt,lt,ap1 (asC _ _) dt,_,rfl,?_⟩))))
  rw [if_pos rfl,show aqc (adt rows) (tab rows)=true from arC _ lt,aqd,if_neg apB]
  refine yW (aoR (PEdO.ped (qP (A:=PyData.int) (B:=fun _=>PyData.bool false) rz (yM (aaA (zq rfl ⟨_,rfl,aju (yy ⟨1,rfl,_,rfl,_,atz,_,rfl,rfl,by omega,?_,?_⟩)⟩))))))
  ·rintro D h ρ' es hh ho hes
   obtain⟨u,rfl⟩:=ho.one
   refine zj (y6 ?_)
   rw [if_pos rfl]
   exact yD hes (aoT kB (zq rfl ⟨_,rfl,⟨[_],rfl,rfl⟩,rfl⟩))
  refine⟨rz.map fun _=>false,by rw [aqJ];rfl,_,rfl,?_⟩
  have an:(rz.map fun _=>false).any id=false:=by
   rw [List.any_eq_false]
   intro b hb
   obtain⟨_,_,rfl⟩:=ap3.mp hb
   exact apB
  rw [an,if_neg apB]
  refine afR (aeH (apd (i:=7) rfl (yy ⟨0,rfl,r0,by rw [er];rfl,by omega,yy ⟨7,rfl,?_⟩⟩)))
  have us0:rows.set 0 (r0++[7])=(r0++[7]) :: rs0:=by rw [er];rfl
  rw [us0]
  have rsl:rs0.length<8:=by
   have:=congrArg arq er
   rw [apT] at this
   omega
  have usl:(PyData.list (rs0.map fun r=>.list (r.map .int))).canLay0=true:=(vt rs0).1
  have usd:=(vt rs0).2
  refine aeH (apb (i:=7) rfl (yC (jF (ajq (zq rfl ⟨_,rfl,agB (yy ⟨1,rfl,agA (ajq (zq rfl ⟨_,rfl,agB (yy ⟨1,rfl,agA ?_⟩)⟩))⟩)⟩)))))
  have c2:L2.cutD (rows.map fun r=>PyData.list (r.map .int)) (some 1) none=rs0.map fun r=>PyData.list (r.map .int):=by rw [er,apZ,afj]
  rw [apZ,afj,c2]
  refine⟨usl,usl,ap1 (asC _ _) (ap1 (Nat.succ_le_succ usd) (by decide)),_,rfl,?_⟩
  rw [if_pos rfl,show aqc (.list (rs0.map fun r=>.list (r.map .int))) (.list (rs0.map fun r=>.list (r.map .int)))=true from arC _ usl,if_neg (by decide)]
  refine afR (aeH (aoz (i:=7) rfl (by rw [apT];omega) ?_))
  refine aeH (apc (yC (jF (aka (rows,wd) (afS rfl ⟨rfl,⟨rfl,g⟩,?_,fun _ z=>z.elim,fun _ _ z=>z⟩)))))
  intro rs1 e1
  obtain rfl:rows=rs1:=Eq.symm e1
  refine zq rfl ⟨lt,lt,ap1 (asC _ _) dt,_,rfl,?_⟩
  rw [if_pos rfl,show aqc (adt rows) (tab rows)=true from arC _ lt,if_neg (by decide)]
  refine afR (afQ ?_)
  show PSd K _ _ [some (DV.dat (scr ns)),some (.dat (.int i)),some .feed,some (.dat (tab rows)),some (.dat (tab rows)),some (.dat (.str (tabS rows))),some (.dat (.str (tabS rows))),some (.own (Fx.M ⟨some p,[]⟩).length),x8,x9] _
  obtain⟨c0,rc,e00⟩:∃ c0 rc,r0=c0 :: rc:=by
   cases r0 with
   | nil=>simp at rl0;omega
   | cons c0 rc=>exact⟨c0,rc,rfl⟩
  have at00:atI (r0.map PyData.int) 0=some (.int c0):=by rw [e00];exact zO (j:=0) rfl
  refine ajT (fun ρ=>∃ ct:Int,ρ=[some (DV.dat (scr ns)),some (.dat (.int i)),some .feed,some (.dat (tab rows)),some (.dat (tab rows)),some (.dat (.str (tabS rows))),some (.dat (.str (tabS rows))),some (.own (Fx.M ⟨some p,[]⟩).length),some (.dat (.int ct)),x9]) (zS (ad8 (aaA (aaA (zq rfl ⟨_,rfl,yy ⟨_,rfl,_,at0,_,rfl,yy ⟨_,rfl,_,at00,c0,rfl,zr 2 ?_⟩⟩⟩))))) ?_
  ·walk_at "w"
   rintro _ ⟨q2,rfl,_,_⟩
   exact⟨_,rfl,zj ⟨_,rfl⟩⟩
  rintro _ ⟨ct,rfl⟩
  refine z6 (aef (yM (afG (PEdO.ped (ac1 (rows,wd,ct) (apy rfl rfl ⟨rfl,⟨rfl,g⟩,?_⟩))))))
  rintro _ ⟨ts,rfl,T,aT,pT⟩
  dsimp only at T aT
  have fT:=T.few g
  have lT:=T.len g
  refine⟨_,rfl,aea (zJ (zr () (acU rfl (yu ⟨rfl,rfl,?_⟩))))⟩
  rintro _ ⟨t0,rfl,l0,s0⟩
  refine yu ⟨_,rfl,show 1<=1000 by decide,_,rfl,by rw [apC];show ts.length+1<=1000;omega,_,rfl,fun n ρ=>∃ x9,ρ=[some (DV.dat (scr ns)),some (.dat (.int i)),some .feed,some (.dat (tab rows)),some (.dat (tab rows)),some (.dat (.str (tabS rows))),some (.dat (.str (tabS rows))),some (.own (Fx.M ⟨some p,[]⟩).length),some (.dat (.int ct)),x9],⟨_,rfl⟩,?_,?_⟩
  ·rintro n d _ hd ⟨y9,rfl⟩
   obtain⟨t,ed,tl,sm⟩:∃ t:Bool×List Gt,d=y7 t/\t.2.length<=98/\∀ g∈t.2,SmG g:=by
    have hm:=apN hd
    rcases apW.mp hm with hm | hm
    ·obtain⟨t,ht,rfl⟩:=ap3.mp hm
     exact⟨t,rfl,ap1 (aiP ht) lT,fun q hq=>agk g ((T.line t ht).op q hq)⟩
    ·exact⟨t0,apS.mp hm,l0,s0⟩
   subst ed
   refine zj (acW (yC (jF (zr t (zJ (zq rfl (yu ⟨rfl,⟨rfl,tl,sm⟩,?_⟩)))))))
   rintro _ rfl
   refine zr t (zJ (zq rfl (yu ⟨rfl,⟨rfl,tl,sm⟩,?_⟩)))
   rintro _ rfl
   refine⟨adS t,adS t,by show min 0 0<=60;decide,_,rfl,?_⟩
   rw [if_pos rfl,arC _ (adS t),aqd,if_neg apB]
   exact qO ⟨_,rfl⟩
  rintro _ ⟨y9,rfl⟩
  refine aeG False ?_ (fun z=>z.elim) fun _=>qO (.inl ⟨_,_,_,_,_,_,_,_,_,rfl⟩)
  refine agw (yC (jF (zr 4 ?_)))
  walk_at "w"
  rintro _ ⟨q4,rfl,_,_⟩
  walk_at "w"
  rw [if_neg apB]
  split
  ·refine qU (yW (zr (rows,wd) (acU rfl (zJ (zq rfl (yu ⟨rfl,⟨rfl,g⟩,?_⟩))))))
   rintro _ rfl
   exact⟨true,rfl,rfl⟩
  ·rfl
 ·rintro _ ⟨x1,x2,x3,x4,x5,x6,x7,x8,x9,rfl⟩
  exact yL (ai5 rfl)
end
theorem _root_.L2.FnIn.m {P w K mg base j k x ps sp} (h:FnIn P w K mg base j x ps sp) (hk:j<=k:=by decide):FnIn P w K mg base k x ps sp:=h.mono hk
theorem _root_.L2.FnInF.m {P w K mg base j k x ps sp} (h:FnInF P w K mg base j x ps sp) (hk:j<=k:=by decide):FnInF P w K mg base k x ps sp:=h.mono hk
theorem xf1 {K:aub} {h:Heap} {mg:Str->Option Value} {x:Str} {st:Stmt} {f:Addr} {od an:Option Addr} {sl:Array (Option Value)} {oc kV dc pm cd ct:Value} (X:K.In h) (G:h.Ns mainGlobals mg) (a:FD K x st f od an sl oc kV dc pm cd ct) {p0:Str} (hb:∀ (kV doc pm:Value) (an:Option Addr) (cdv ct:Value) (u0:Value),bindArgs (aqQ x x (yV st) (ye st) (zf st) .none kV doc pm an cdv ct) ⟨[u0],[]⟩=pure ([p0].zip [u0])):Def K mg x st [p0]:=an0 X G a (fun _ _ _ _ _ _ us hl=>match us,hl with | [u0],_=>hb _ _ _ _ _ _ u0)
theorem xf2 {K:aub} {h:Heap} {mg:Str->Option Value} {x:Str} {st:Stmt} {f:Addr} {od an:Option Addr} {sl:Array (Option Value)} {oc kV dc pm cd ct:Value} (X:K.In h) (G:h.Ns mainGlobals mg) (a:FD K x st f od an sl oc kV dc pm cd ct) {p0 p1:Str} (hb:∀ (kV doc pm:Value) (an:Option Addr) (cdv ct:Value) (u0 u1:Value),bindArgs (aqQ x x (yV st) (ye st) (zf st) .none kV doc pm an cdv ct) ⟨[u0,u1],[]⟩=pure ([p0,p1].zip [u0,u1])):Def K mg x st [p0,p1]:=an0 X G a (fun _ _ _ _ _ _ us hl=>match us,hl with | [u0,u1],_=>hb _ _ _ _ _ _ u0 u1)
theorem xf3 {K:aub} {h:Heap} {mg:Str->Option Value} {x:Str} {st:Stmt} {f:Addr} {od an:Option Addr} {sl:Array (Option Value)} {oc kV dc pm cd ct:Value} (X:K.In h) (G:h.Ns mainGlobals mg) (a:FD K x st f od an sl oc kV dc pm cd ct) {p0 p1 p2:Str} (hb:∀ (kV doc pm:Value) (an:Option Addr) (cdv ct:Value) (u0 u1 u2:Value),bindArgs (aqQ x x (yV st) (ye st) (zf st) .none kV doc pm an cdv ct) ⟨[u0,u1,u2],[]⟩=pure ([p0,p1,p2].zip [u0,u1,u2])):Def K mg x st [p0,p1,p2]:=an0 X G a (fun _ _ _ _ _ _ us hl=>match us,hl with | [u0,u1,u2],_=>hb _ _ _ _ _ _ u0 u1 u2)
set_option autoImplicit true in
set_option relaxedAutoImplicit true in
theorem all_mk {l:PySem.W.OpenLaw} {w:World} {K:apD} {h:Heap} {mg:Str->Option Value} {fa:Addr} (X:K.In h) (G:h.Ns mainGlobals mg) (hfa:mg "law"=some (.ref fa))
  (a1:FD K "size" adv f1 od1 an1 sl1 oc1 kV1 dc1 pm1 cd1 ct1)
  (a2:FD K "points" v8 f2 od2 an2 sl2 oc2 kV2 dc2 pm2 cd2 ct2)
  (a3:FD K "has_point" jT f3 od3 an3 sl3 oc3 kV3 dc3 pm3 cd3 ct3)
  (a4:FD K "has_cell" qB f4 od4 an4 sl4 oc4 kV4 dc4 pm4 cd4 ct4)
  (a5:FD K "corners" vm f5 od5 an5 sl5 oc5 kV5 dc5 pm5 cd5 ct5)
  (a6:FD K "ask_table" jo f6 od6 an6 sl6 oc6 kV6 dc6 pm6 cd6 ct6)
  (a7:FD K "fits" adw f7 od7 an7 sl7 oc7 kV7 dc7 pm7 cd7 ct7)
  (a8:FD K "is_row" v9 f8 od8 an8 sl8 oc8 kV8 dc8 pm8 cd8 ct8)
  (a9:FD K "show_table" yZ f9 od9 an9 sl9 oc9 kV9 dc9 pm9 cd9 ct9)
  (a10:FD K "show_line" jU f10 od10 an10 sl10 oc10 kV10 dc10 pm10 cd10 ct10)
  (a11:FD K "show_gate" jV f11 od11 an11 sl11 oc11 kV11 dc11 pm11 cd11 ct11)
  (a12:FD K "show_number" ji f12 od12 an12 sl12 oc12 kV12 dc12 pm12 cd12 ct12)
  (a13:FD K "read_table" jv f13 od13 an13 sl13 oc13 kV13 dc13 pm13 cd13 ct13)
  (a14:FD K "is_number" jW f14 od14 an14 sl14 oc14 kV14 dc14 pm14 cd14 ct14)
  (a15:FD K "gates" aaZ f15 od15 an15 sl15 oc15 kV15 dc15 pm15 cd15 ct15)
  (a16:FD K "stands_high" jj f16 od16 an16 sl16 oc16 kV16 dc16 pm16 cd16 ct16)
  (a17:FD K "gate_points" jl f17 od17 an17 sl17 oc17 kV17 dc17 pm17 cd17 ct17)
  (a18:FD K "has_gate" qC f18 od18 an18 sl18 oc18 kV18 dc18 pm18 cd18 ct18)
  (a19:FD K "is_open" vn f19 od19 an19 sl19 oc19 kV19 dc19 pm19 cd19 ct19)
  (a20:FD K "cell_gates" jw f20 od20 an20 sl20 oc20 kV20 dc20 pm20 cd20 ct20)
  (a21:FD K "is_crossed" jx f21 od21 an21 sl21 oc21 kV21 dc21 pm21 cd21 ct21)
  (a22:FD K "has_high_middle" yF f22 od22 an22 sl22 oc22 kV22 dc22 pm22 cd22 ct22)
  (a23:FD K "cell_ties" jX f23 od23 an23 sl23 oc23 kV23 dc23 pm23 cd23 ct23)
  (a24:FD K "crossed_ties" y3 f24 od24 an24 sl24 oc24 kV24 dc24 pm24 cd24 ct24)
  (a25:FD K "heading" vo f25 od25 an25 sl25 oc25 kV25 dc25 pm25 cd25 ct25)
  (a26:FD K "cell_ahead" jy f26 od26 an26 sl26 oc26 kV26 dc26 pm26 cd26 ct26)
  (a27:FD K "comes_in" qD f27 od27 an27 sl27 oc27 kV27 dc27 pm27 cd27 ct27)
  (a28:FD K "gate_ahead" jz f28 od28 an28 sl28 oc28 kV28 dc28 pm28 cd28 ct28)
  (a29:FD K "lines" aa0 f29 od29 an29 sl29 oc29 kV29 dc29 pm29 cd29 ct29)
  (a30:FD K "line_from" jY f30 od30 an30 sl30 oc30 kV30 dc30 pm30 cd30 ct30)
  (a31:FD K "_law_feed" qE f31 od31 an31 sl31 oc31 kV31 dc31 pm31 cd31 ct31)
  (a32:FD K "_law_draw" qG f32 od32 an32 sl32 oc32 kV32 dc32 pm32 cd32 ct32)
  (a33:FD K "_law_height" jA f33 od33 an33 sl33 oc33 kV33 dc33 pm33 cd33 ct33)
  (a34:FD K "_law_table" jZ f34 od34 an34 sl34 oc34 kV34 dc34 pm34 cd34 ct34)
  (a35:FD K "_law_text" qH f35 od35 an35 sl35 oc35 kV35 dc35 pm35 cd35 ct35)
  (a36:FD K "_law_line" qI f36 od36 an36 sl36 oc36 kV36 dc36 pm36 cd36 ct36)
  (a37:FD K "_law_drawn" j7 f37 od37 an37 sl37 oc37 kV37 dc37 pm37 cd37 ct37)
  (a38:FD K "_law_bad_row" jm f38 od38 an38 sl38 oc38 kV38 dc38 pm38 cd38 ct38)
  (a39:FD K "law" aaJ f39 od39 an39 sl39 oc39 kV39 dc39 pm39 cd39 ct39)
  {ubV:Tok} (uaW:ap4 K mainGlobals "FEWEST"=some (some (.int (2) ubV)))
  {ubW:Tok} (uaX:ap4 K mainGlobals "MOST"=some (some (.int (7) ubW)))
  {ubX:Tok} (uaY:ap4 K mainGlobals "LEAST"=some (some (.int (-1000000000) ubX)))
  {ubY:Tok} (uaZ:ap4 K mainGlobals "GREATEST"=some (some (.int (1000000000) ubY)))
  {ubZ:Tok} (ua0:ap4 K mainGlobals "MOST_FIGURES"=some (some (.int (11) ubZ)))
  {ub0:Tok} (ua1:ap4 K mainGlobals "FIGURES"=some (some (.str ("0123456789") ub0)))
  {ub1:Tok} (ua2:ap4 K mainGlobals "BEYOND_A_PIECE"=some (some (.int (10000000000000000000000000000000000000000000000000000000000000000) ub1)))
  (ua3:ap4 K mainGlobals "len"=some none)
  (ua4:ap4 K mainGlobals "min"=some none)
  (ua5:ap4 K mainGlobals "max"=some none)
  (ua6:ap4 K mainGlobals "enumerate"=some none)
  (ua7:ap4 K mainGlobals "range"=some none)
  (ua8:ap4 K mainGlobals "all"=some none)
  (ua9:ap4 K mainGlobals "sum"=some none)
  (uba:ap4 K mainGlobals "tuple"=some none)
  (ubb:ap4 K mainGlobals "set"=some none)
  (ubc:ap4 K mainGlobals "sorted"=some none)
  (ubd:ap4 K mainGlobals "int"=some none)
  (ube:ap4 K mainGlobals "str"=some none)
  (ubf:ap4 K mainGlobals "abs"=some none)
  (ubg:ap4 K mainGlobals "list"=some none)
  (ubh:ap4 K mainGlobals "isinstance"=some none)
  (ubi:ap4 K mainGlobals "bool"=some none)
  (ubj:ap4 K mainGlobals "any"=some none)
  {uay:Addr} (ubk:ap4 K mainGlobals "AHEAD"=some (some (.ref uay)))
  {uaA:Addr} (ubl:ap4 K mainGlobals "BEHIND"=some (some (.ref uaA)))
  {uab:Addr} (ubm:ap4 K mainGlobals "NoTable"=some (some (.ref uab)))
  {uap:Addr} (ubn:ap4 K mainGlobals "NoText"=some (some (.ref uap)))
  {ubr:Addr} (ubo:ap4 K mainGlobals "HeightError"=some (some (.ref ubr)))
  {fI_NoTable:Addr} {odI_NoTable anI_NoTable:Option Addr} {slI_NoTable:Array (Option Value)} {ocI_NoTable kVI_NoTable dcI_NoTable pmI_NoTable cdI_NoTable ctI_NoTable:Value} (ii_NoTable:aqA K (.ref uab) "__init__"=some (some (.ref fI_NoTable)))
  (li_NoTable:K.lookup fI_NoTable=some ⟨ocI_NoTable,odI_NoTable,.func (aqQ "__init__" "NoTable.__init__" (yV jf) (ye jf) (zf jf) .none kVI_NoTable dcI_NoTable pmI_NoTable anI_NoTable cdI_NoTable ctI_NoTable),slI_NoTable⟩) (ci_NoTable:ar7 K cdI_NoTable "NoTable.__init__"=true) (ki_NoTable:aqq K (.ref fI_NoTable)=true) (fi_NoTable:v5 K uab fI_NoTable ubr "at"=true)
  (uaz:aid K uay aop=true)
  (uaB:aid K uaA aku=true)
  (uaF:aaY K uab=true)
  (en:asi K (.ref uab) (.ref uab)=some true)
  (kx:aql K (.ref uab) (.ref uap)=some false)
  (kB:aql K (.type "int") (.type "bool")=some false)
  (kS:aql K (.type "str") (.type "str")=some true) :
  ∃ fd:FuncData,(∀ (s:Shared) (v:Value),BindsTo s fd ⟨[v],[]⟩ [("_law_script",v)])/\∀ base:Heap,K.In base->base.Ns mainGlobals mg->FnOk l.prog w K mg base CX0 10 fa fd pR (ahD K):=by
 have ub2:Def K mg "size" adv pf:=xf1 X G a1 (fun _ _ _ _ _ _ _=>rfl)
 have ub3:Def K mg "points" v8 pf:=xf1 X G a2 (fun _ _ _ _ _ _ _=>rfl)
 have ub4:Def K mg "has_point" jT pz:=xf3 X G a3 (fun _ _ _ _ _ _ _ _ _=>rfl)
 have ub5:Def K mg "has_cell" qB pz:=xf3 X G a4 (fun _ _ _ _ _ _ _ _ _=>rfl)
 have ub6:Def K mg "corners" vm pJ:=xf2 X G a5 (fun _ _ _ _ _ _ _ _=>rfl)
 have ubs:Def K mg "ask_table" jo pf:=xf1 X G a6 (fun _ _ _ _ _ _ _=>rfl)
 have ub7:Def K mg "fits" adw pF:=xf1 X G a7 (fun _ _ _ _ _ _ _=>rfl)
 have ub8:Def K mg "is_row" v9 pC:=xf1 X G a8 (fun _ _ _ _ _ _ _=>rfl)
 have ubt:Def K mg "show_table" yZ pf:=xf1 X G a9 (fun _ _ _ _ _ _ _=>rfl)
 have ub9:Def K mg "show_line" jU ["line"]:=xf1 X G a10 (fun _ _ _ _ _ _ _=>rfl)
 have uca:Def K mg "show_gate" jV pq:=xf1 X G a11 (fun _ _ _ _ _ _ _=>rfl)
 have ucb:Def K mg "show_number" ji pH:=xf1 X G a12 (fun _ _ _ _ _ _ _=>rfl)
 have ucc:Def K mg "read_table" jv ["text"]:=xf1 X G a13 (fun _ _ _ _ _ _ _=>rfl)
 have ucd:Def K mg "is_number" jW pD:=xf1 X G a14 (fun _ _ _ _ _ _ _=>rfl)
 have uce:Def K mg "gates" aaZ pA:=xf2 X G a15 (fun _ _ _ _ _ _ _ _=>rfl)
 have ucf:Def K mg "stands_high" jj pI:=xf3 X G a16 (fun _ _ _ _ _ _ _ _ _=>rfl)
 have ucg:Def K mg "gate_points" jl pq:=xf1 X G a17 (fun _ _ _ _ _ _ _=>rfl)
 have uch:Def K mg "has_gate" qC pK:=xf2 X G a18 (fun _ _ _ _ _ _ _ _=>rfl)
 have uci:Def K mg "is_open" vn ph:=xf3 X G a19 (fun _ _ _ _ _ _ _ _ _=>rfl)
 have ucj:Def K mg "cell_gates" jw ["cell"]:=xf1 X G a20 (fun _ _ _ _ _ _ _=>rfl)
 have uck:Def K mg "is_crossed" jx pj:=xf3 X G a21 (fun _ _ _ _ _ _ _ _ _=>rfl)
 have ucl:Def K mg "has_high_middle" yF pj:=xf3 X G a22 (fun _ _ _ _ _ _ _ _ _=>rfl)
 have ucm:Def K mg "cell_ties" jX pj:=xf3 X G a23 (fun _ _ _ _ _ _ _ _ _=>rfl)
 have ucn:Def K mg "crossed_ties" y3 pj:=xf3 X G a24 (fun _ _ _ _ _ _ _ _ _=>rfl)
 have uco:Def K mg "heading" vo ph:=xf3 X G a25 (fun _ _ _ _ _ _ _ _ _=>rfl)
 have ucp:Def K mg "cell_ahead" jy ph:=xf3 X G a26 (fun _ _ _ _ _ _ _ _ _=>rfl)
 have ucq:Def K mg "comes_in" qD ph:=xf3 X G a27 (fun _ _ _ _ _ _ _ _ _=>rfl)
 have ucr:Def K mg "gate_ahead" jz ph:=xf3 X G a28 (fun _ _ _ _ _ _ _ _ _=>rfl)
 have ucs:Def K mg "lines" aa0 pA:=xf2 X G a29 (fun _ _ _ _ _ _ _ _=>rfl)
 have uct:Def K mg "line_from" jY pM:=xf3 X G a30 (fun _ _ _ _ _ _ _ _ _=>rfl)
 have ucu:Def K mg "_law_feed" qE pN:=xf2 X G a31 (fun _ _ _ _ _ _ _ _=>rfl)
 have ucv:Def K mg "_law_draw" qG pE:=xf2 X G a32 (fun _ _ _ _ _ _ _ _=>rfl)
 have ucw:Def K mg "_law_height" jA pL:=xf3 X G a33 (fun _ _ _ _ _ _ _ _ _=>rfl)
 have ucx:Def K mg "_law_table" jZ pB:=xf1 X G a34 (fun _ _ _ _ _ _ _=>rfl)
 have ucy:Def K mg "_law_text" qH pO:=xf1 X G a35 (fun _ _ _ _ _ _ _=>rfl)
 have ucz:Def K mg "_law_line" qI pP:=xf1 X G a36 (fun _ _ _ _ _ _ _=>rfl)
 have ucA:Def K mg "_law_drawn" j7 pB:=xf1 X G a37 (fun _ _ _ _ _ _ _=>rfl)
 have ucB:Def K mg "_law_bad_row" jm pQ:=xf2 X G a38 (fun _ _ _ _ _ _ _ _=>rfl)
 have ucD:Def K mg "law" aaJ pR:=xf1 X G a39 (fun _ _ _ _ _ _ _=>rfl)
 have uar:=aqy X G uaW
 have uas:=aqy X G uaX
 have uat:=aqy X G uaY
 have uau:=aqy X G uaZ
 have uaC:=aqy X G ua0
 have uaD:=aqy X G ua1
 have uaE:=aqy X G ua2
 have uaa:=ap8 X G ua3
 have uag:=ap8 X G ua4
 have uah:=ap8 X G ua5
 have uai:=ap8 X G ua6
 have uad:=ap8 X G ua7
 have uaf:=ap8 X G ua8
 have uaK:=ap8 X G ua9
 have uan:=ap8 X G uba
 have uaP:=ap8 X G ubb
 have uaQ:=ap8 X G ubc
 have uaR:=ap8 X G ubd
 have uae:=ap8 X G ube
 have uao:=ap8 X G ubf
 have uaq:=ap8 X G ubg
 have ual:=ap8 X G ubh
 have uaU:=ap8 X G ubi
 have uaV:=ap8 X G ubj
 have uaL:=aqy X G ubk
 have uaN:=aqy X G ubl
 have uak:=aqy X G ubm
 have uaS:=aqy X G ubn
 have ucC:=aqy X G ubo
 have e:=hfa.symm.trans (aqy X G a39.1)
 cases e
 have F0:=acQ (st:=aaJ) a39.2.1 a39.2.2.1 a39.2.2.2
 refine⟨aqQ "law" "law" (yV aaJ) (ye aaJ) (zf aaJ) .none kV39 dc39 pm39 an39 cd39 ct39,fun s v=>.of_eq rfl,fun base _ _=>?_⟩
 have I_NoTable:=aaS (P:=l.prog) (w:=w) (base:=base) fi_NoTable ucC (acQ (st:=jf) li_NoTable ci_NoTable ki_NoTable)
 have H0:=ams (P:=l.prog) (w:=w) (base:=base) (k:=0) ucu uaa uao
 have H1:=alY (P:=l.prog) (w:=w) (base:=base) (k:=0) ucv
 have H2:=aox (P:=l.prog) (w:=w) (base:=base) (k:=0) ucy uaa uad uae
 have H3:=alX (P:=l.prog) (w:=w) (base:=base) (k:=0) ub7 uaa ⟨_,uar⟩ ⟨_,uas⟩
 have H4:=akK (P:=l.prog) (w:=w) (base:=base) (k:=0) ucd uaa uaf ⟨_,uaC⟩ ⟨_,uaD⟩
 have H5:=alW (P:=l.prog) (w:=w) (base:=base) (k:=0) ub2 uaa
 have H6:=aom (P:=l.prog) (w:=w) (base:=base) (k:=0) ucg
 have H7:=alZ (P:=l.prog) (w:=w) (base:=base) (k:=0) ucf
 have H8:=aiA (P:=l.prog) (w:=w) (base:=base) (k:=0) ucj
 have H9:=af1 (P:=l.prog) (w:=w) (base:=base) (k:=0) ub6
 have H10:=akP (P:=l.prog) (w:=w) (base:=base) (k:=0) ucb uae uao ⟨_,uaE⟩
 have H11:=akS (P:=l.prog) (w:=w) (base:=base) (k:=0) ucz uae
 have H12:=aix (k:=1) ucw uag H1.m
 have H13:=aiw (k:=1) ub8 uag uah ⟨_,uat⟩ ⟨_,uau⟩ H3.m
 have H14:=aiy (k:=1) ub3 uad H5.m
 have H15:=aol (k:=1) ub4 H5.m
 have H16:=af4 (k:=1) uco H7.m
 have H17:=aoo (k:=1) ucl uaK H9.m
 have H18:=akT (k:=1) ucA uad uah uan H1.m
 have H19:=akQ (k:=1) uca H10.m
 have H20:=akj (k:=2) ucx uad H1.m H12.m
 have H21:=aok (k:=2) ubs uaa uai H3.m H13.m
 have H22:=al0 (k:=2) uch uaf H15.m H6.m
 have H23:=al7 (k:=2) ub5 H15.m
 have H24:=aiD (k:=2) ucp uaL uaz H16.m
 have H25:=aiB (k:=2) ucn H8.m H7.m H17.m
 have H26:=akR (k:=2) ub9 H19.m
 have H27:=amj (k:=3) ubt uae H21.m
 have H28:=akN (k:=3) ucc uai uaf uaR H4.m H21.m
 have H29:=al1 (k:=3) uci H22.m H6.m H7.m
 have H30:=akw (k:=3) ucq uaN uaB H16.m H23.m
 have H31:=akp (k:=4) uce H21.m H14.m H29.m
 have H32:=af2 (k:=4) uck uaf H29.m H8.m
 have H33:=amn (k:=2) ubs uaa uai uak I_NoTable H3.m H13.m
 have H34:=aks (k:=5) ucm H32.m H25.m H8.m H29.m
 have H35:=aad (k:=5) ubt H33.m
 have H36:=amc (k:=6) ucr H24.m H23.m H34.m
 have H37:=aiO (k:=6) ucB uaa uaq ual uak uaS I_NoTable uaF en kx H1.m H35.m
 have H38:=amg (k:=7) uct uan H36.m
 have H39:=akG (k:=8) ucs uaP uaQ H21.m H31.m H30.m H38.m
 exact aoC (k:=9) F0 uaa uad uah uag uaq ual uaU uae uaV kB kS H0.m H20.m H1.m H2.m H27.m H28.m H39.m H18.m H26.m H11.m H37.m
theorem walk {l:PySem.W.OpenLaw} {q:Program} {loose:List Str} {XP:(Str->Option Value)->Heap->Prop} {YP:World->Heap->Prop} {d:DefRec} {K:Params->apD} (hn:l.most=some 63) (hdf:d.params.defaults=[])
  (hY:∀ (w:World) (h:Heap),YP w h->(K w.params).In h)
  (F:∀ (w:World) (mg:Str->Option Value) (fa:Addr) (h:Heap),(K w.params).In h->h.Ns mainGlobals mg->mg d.name=some (.ref fa) ->
   ∃ fd:FuncData,(∀ (s:Shared) (u:Value),BindsTo s fd ⟨[u],[]⟩ [("_law_script",u)])/\∀ base:Heap,(K w.params).In base->base.Ns mainGlobals mg->FnOk l.prog w (K w.params) mg base CX0 10 fa fd pR (ahD (K w.params))) :
  PySem.W.WalkO q loose XP YP l.row.toRowW d [] (fun f vs=>PySem.call f vs) :=
 L2.walk_of (n:=63) (k:=10) (x:="_law_script") (CX:=fun _=>CX0) (sp:=fun w=>ahD (K w.params)) hn (by decide) hdf ⟨rfl,by decide,by decide⟩ hY F (fun _ _ a ns hl _ hS=>⟨a,ns,rfl,hS,hl,fun _=>rfl⟩) fun _ _ _ _ _ z=>z
end My
noncomputable def PySem.W.Fast.tw10202046957896934813:Nat:=0
noncomputable def PySem.W.Fast.tw10429181400321936212:Nat:=0
noncomputable def PySem.W.Fast.tw10596226911638781638:Nat:=0
noncomputable def PySem.W.Fast.tw10736790298054876621:Nat:=0
noncomputable def PySem.W.Fast.tw1096537171387153347:Nat:=0
noncomputable def PySem.W.Fast.tw11328339345310831011:Nat:=0
noncomputable def PySem.W.Fast.tw11833283309966431947:Nat:=0
noncomputable def PySem.W.Fast.tw12084226604112984915:Nat:=0
noncomputable def PySem.W.Fast.tw1254455990478026447:Nat:=0
noncomputable def PySem.W.Fast.tw12588476270254426666:Nat:=0
noncomputable def PySem.W.Fast.tw12740970892099370150:Nat:=0
noncomputable def PySem.W.Fast.tw12763398527322419761:Nat:=0
noncomputable def PySem.W.Fast.tw13254922923106327024:Nat:=0
noncomputable def PySem.W.Fast.tw1330554398579526732:Nat:=0
noncomputable def PySem.W.Fast.tw13642771713092013841:Nat:=0
noncomputable def PySem.W.Fast.tw13672484935696564382:Nat:=0
noncomputable def PySem.W.Fast.tw13905237119218781070:Nat:=0
noncomputable def PySem.W.Fast.tw14034223751163807181:Nat:=0
noncomputable def PySem.W.Fast.tw14112869987104482298:Nat:=0
noncomputable def PySem.W.Fast.tw141414991134446235:Nat:=0
noncomputable def PySem.W.Fast.tw1427192176477509609:Nat:=0
noncomputable def PySem.W.Fast.tw1428406609087660105:Nat:=0
noncomputable def PySem.W.Fast.tw14292929515517704725:Nat:=0
noncomputable def PySem.W.Fast.tw1439806014129100741:Nat:=0
noncomputable def PySem.W.Fast.tw14520757293003567502:Nat:=0
noncomputable def PySem.W.Fast.tw14532280568088894088:Nat:=0
noncomputable def PySem.W.Fast.tw14559912449193767788:Nat:=0
noncomputable def PySem.W.Fast.tw14797625932007333378:Nat:=0
noncomputable def PySem.W.Fast.tw14825557921415035447:Nat:=0
noncomputable def PySem.W.Fast.tw15074554128888600452:Nat:=0
noncomputable def PySem.W.Fast.tw15160934003817286009:Nat:=0
noncomputable def PySem.W.Fast.tw15165067865662299663:Nat:=0
noncomputable def PySem.W.Fast.tw15681244731076810834:Nat:=0
noncomputable def PySem.W.Fast.tw15705798153593309000:Nat:=0
noncomputable def PySem.W.Fast.tw1582611454801180952:Nat:=0
noncomputable def PySem.W.Fast.tw15926715707385610072:Nat:=0
noncomputable def PySem.W.Fast.tw16015443458986613402:Nat:=0
noncomputable def PySem.W.Fast.tw16024087609195338005:Nat:=0
noncomputable def PySem.W.Fast.tw1606769649730689202:Nat:=0
noncomputable def PySem.W.Fast.tw16190791949109264121:Nat:=0
noncomputable def PySem.W.Fast.tw16356732222336786973:Nat:=0
noncomputable def PySem.W.Fast.tw16507225013976188798:Nat:=0
noncomputable def PySem.W.Fast.tw16518325918161357936:Nat:=0
noncomputable def PySem.W.Fast.tw16649819681079228032:Nat:=0
noncomputable def PySem.W.Fast.tw16691323815213768322:Nat:=0
noncomputable def PySem.W.Fast.tw16730093923156741003:Nat:=0
noncomputable def PySem.W.Fast.tw16749117635001309191:Nat:=0
noncomputable def PySem.W.Fast.tw17239368335230338973:Nat:=0
noncomputable def PySem.W.Fast.tw17419557744672052933:Nat:=0
noncomputable def PySem.W.Fast.tw17583661370547880683:Nat:=0
noncomputable def PySem.W.Fast.tw17610074586240176167:Nat:=0
noncomputable def PySem.W.Fast.tw18143400076816484543:Nat:=0
noncomputable def PySem.W.Fast.tw18167630788575021066:Nat:=0
noncomputable def PySem.W.Fast.tw18251167861861645641:Nat:=0
noncomputable def PySem.W.Fast.tw1843791763143116938:Nat:=0
noncomputable def PySem.W.Fast.tw1918363964693007594:Nat:=0
noncomputable def PySem.W.Fast.tw1967568623482351270:Nat:=0
noncomputable def PySem.W.Fast.tw2198347599113672103:Nat:=0
noncomputable def PySem.W.Fast.tw2501198714030805276:Nat:=0
noncomputable def PySem.W.Fast.tw2747526388683772728:Nat:=0
noncomputable def PySem.W.Fast.tw2755022731219562784:Nat:=0
noncomputable def PySem.W.Fast.tw2781467095584897480:Nat:=0
noncomputable def PySem.W.Fast.tw2798215254365040929:Nat:=0
noncomputable def PySem.W.Fast.tw2825608448725671824:Nat:=0
noncomputable def PySem.W.Fast.tw2893619632013589262:Nat:=0
noncomputable def PySem.W.Fast.tw3109689246857592178:Nat:=0
noncomputable def PySem.W.Fast.tw3115015940744165629:Nat:=0
noncomputable def PySem.W.Fast.tw3122729850068838963:Nat:=0
noncomputable def PySem.W.Fast.tw3313959315617841647:Nat:=0
noncomputable def PySem.W.Fast.tw3415166840661016391:Nat:=0
noncomputable def PySem.W.Fast.tw3454058012688742608:Nat:=0
noncomputable def PySem.W.Fast.tw3458382445581596345:Nat:=0
noncomputable def PySem.W.Fast.tw3921998434415433886:Nat:=0
noncomputable def PySem.W.Fast.tw4176539147184190369:Nat:=0
noncomputable def PySem.W.Fast.tw4214249670383901082:Nat:=0
noncomputable def PySem.W.Fast.tw4385606859176240341:Nat:=0
noncomputable def PySem.W.Fast.tw4437051848973083693:Nat:=0
noncomputable def PySem.W.Fast.tw4616346945528238470:Nat:=0
noncomputable def PySem.W.Fast.tw4767195954890212990:Nat:=0
noncomputable def PySem.W.Fast.tw4895470502407135573:Nat:=0
noncomputable def PySem.W.Fast.tw5134141887947233386:Nat:=0
noncomputable def PySem.W.Fast.tw5299955359853946274:Nat:=0
noncomputable def PySem.W.Fast.tw5314285450731379296:Nat:=0
noncomputable def PySem.W.Fast.tw5322925215520912525:Nat:=0
noncomputable def PySem.W.Fast.tw5478545056189837461:Nat:=0
noncomputable def PySem.W.Fast.tw5682533807419909249:Nat:=0
noncomputable def PySem.W.Fast.tw5864957846970975394:Nat:=0
noncomputable def PySem.W.Fast.tw5979587584758789937:Nat:=0
noncomputable def PySem.W.Fast.tw6031320461185899315:Nat:=0
noncomputable def PySem.W.Fast.tw6129129968255254574:Nat:=0
noncomputable def PySem.W.Fast.tw6158010190288976604:Nat:=0
noncomputable def PySem.W.Fast.tw6203925180536798162:Nat:=0
noncomputable def PySem.W.Fast.tw6329010208060284155:Nat:=0
noncomputable def PySem.W.Fast.tw6553382105747851685:Nat:=0
noncomputable def PySem.W.Fast.tw667288338318198571:Nat:=0
noncomputable def PySem.W.Fast.tw7122429097223636272:Nat:=0
noncomputable def PySem.W.Fast.tw7216123404504838781:Nat:=0
noncomputable def PySem.W.Fast.tw7312752750307025621:Nat:=0
noncomputable def PySem.W.Fast.tw7431829406393914147:Nat:=0
noncomputable def PySem.W.Fast.tw7679758845916922777:Nat:=0
noncomputable def PySem.W.Fast.tw7687683871353157288:Nat:=0
noncomputable def PySem.W.Fast.tw7939168848889432246:Nat:=0
noncomputable def PySem.W.Fast.tw8218642857135522433:Nat:=0
noncomputable def PySem.W.Fast.tw8265309952580556698:Nat:=0
noncomputable def PySem.W.Fast.tw8317259860727489845:Nat:=0
noncomputable def PySem.W.Fast.tw8648673381466336906:Nat:=0
noncomputable def PySem.W.Fast.tw8681231441819789785:Nat:=0
noncomputable def PySem.W.Fast.tw8754050246793756206:Nat:=0
noncomputable def PySem.W.Fast.tw8931790122076634789:Nat:=0
noncomputable def PySem.W.Fast.tw8952369821120099119:Nat:=0
noncomputable def PySem.W.Fast.tw9377742272389614323:Nat:=0
noncomputable def PySem.W.Fast.tw9383043261734325775:Nat:=0
noncomputable def PySem.W.Fast.tw948069704663720351:Nat:=0
noncomputable def PySem.W.Fast.tw956606814111925834:Nat:=0
noncomputable def PySem.W.Fast.tw9622100435997143723:Nat:=0
noncomputable def PySem.W.Fast.tw9678198414511097762:Nat:=0
noncomputable def PySem.W.Fast.tw9968760172254000035:Nat:=0
open PySem PySem.W PyProof.Rows
set_option maxRecDepth 100000 in
set_option maxHeartbeats 0 in
theorem PySem.Challenge.cw_heightrings_k80_tables_written_holds : PySem.Challenge.rw_heightrings_k80_tables_written.Holds := by
 w_on;o_law;k_head;(case hw=>w_witness2)
 k_fill
 refine My.walk (l:=PySem.Challenge.rw_heightrings_k80_tables_written) rfl rfl (fun w h Y=>by first | exact PySem.W.kIn_of Y | exact PySem.W.km_in_of Y) ?F
 case F =>
  intro w mg fa h KX G hmg
  refine' My.all_mk KX G hmg ?a1 ?a2 ?a3 ?a4 ?a5 ?a6 ?a7 ?a8 ?a9 ?a10 ?a11 ?a12 ?a13 ?a14 ?a15 ?a16 ?a17 ?a18 ?a19 ?a20 ?a21 ?a22 ?a23 ?a24 ?a25 ?a26 ?a27 ?a28 ?a29 ?a30 ?a31 ?a32 ?a33 ?a34 ?a35 ?a36 ?a37 ?a38 ?a39 ?uaW ?uaX ?uaY ?uaZ ?ua0 ?ua1 ?ua2 ?ua3 ?ua4 ?ua5 ?ua6 ?ua7 ?ua8 ?ua9 ?uba ?ubb ?ubc ?ubd ?ube ?ubf ?ubg ?ubh ?ubi ?ubj ?ubk ?ubl ?ubm ?ubn ?ubo ?ii_NoTable ?li_NoTable ?ci_NoTable ?ki_NoTable ?fi_NoTable ?uaz ?uaB ?uaF ?en ?kx ?kB ?kS
  (case a1=>refine⟨?_,?_,?_,?_⟩ <;> k_is)
  (case a2=>refine⟨?_,?_,?_,?_⟩ <;> k_is)
  (case a3=>refine⟨?_,?_,?_,?_⟩ <;> k_is)
  (case a4=>refine⟨?_,?_,?_,?_⟩ <;> k_is)
  (case a5=>refine⟨?_,?_,?_,?_⟩ <;> k_is)
  (case a6=>refine⟨?_,?_,?_,?_⟩ <;> k_is)
  (case a7=>refine⟨?_,?_,?_,?_⟩ <;> k_is)
  (case a8=>refine⟨?_,?_,?_,?_⟩ <;> k_is)
  (case a9=>refine⟨?_,?_,?_,?_⟩ <;> k_is)
  (case a10=>refine⟨?_,?_,?_,?_⟩ <;> k_is)
  (case a11=>refine⟨?_,?_,?_,?_⟩ <;> k_is)
  (case a12=>refine⟨?_,?_,?_,?_⟩ <;> k_is)
  (case a13=>refine⟨?_,?_,?_,?_⟩ <;> k_is)
  (case a14=>refine⟨?_,?_,?_,?_⟩ <;> k_is)
  (case a15=>refine⟨?_,?_,?_,?_⟩ <;> k_is)
  (case a16=>refine⟨?_,?_,?_,?_⟩ <;> k_is)
  (case a17=>refine⟨?_,?_,?_,?_⟩ <;> k_is)
  (case a18=>refine⟨?_,?_,?_,?_⟩ <;> k_is)
  (case a19=>refine⟨?_,?_,?_,?_⟩ <;> k_is)
  (case a20=>refine⟨?_,?_,?_,?_⟩ <;> k_is)
  (case a21=>refine⟨?_,?_,?_,?_⟩ <;> k_is)
  (case a22=>refine⟨?_,?_,?_,?_⟩ <;> k_is)
  (case a23=>refine⟨?_,?_,?_,?_⟩ <;> k_is)
  (case a24=>refine⟨?_,?_,?_,?_⟩ <;> k_is)
  (case a25=>refine⟨?_,?_,?_,?_⟩ <;> k_is)
  (case a26=>refine⟨?_,?_,?_,?_⟩ <;> k_is)
  (case a27=>refine⟨?_,?_,?_,?_⟩ <;> k_is)
  (case a28=>refine⟨?_,?_,?_,?_⟩ <;> k_is)
  (case a29=>refine⟨?_,?_,?_,?_⟩ <;> k_is)
  (case a30=>refine⟨?_,?_,?_,?_⟩ <;> k_is)
  (case a31=>refine⟨?_,?_,?_,?_⟩ <;> k_is)
  (case a32=>refine⟨?_,?_,?_,?_⟩ <;> k_is)
  (case a33=>refine⟨?_,?_,?_,?_⟩ <;> k_is)
  (case a34=>refine⟨?_,?_,?_,?_⟩ <;> k_is)
  (case a35=>refine⟨?_,?_,?_,?_⟩ <;> k_is)
  (case a36=>refine⟨?_,?_,?_,?_⟩ <;> k_is)
  (case a37=>refine⟨?_,?_,?_,?_⟩ <;> k_is)
  (case a38=>refine⟨?_,?_,?_,?_⟩ <;> k_is)
  (case a39=>refine⟨?_,?_,?_,?_⟩ <;> k_is)
  (case uaW=>k_is)
  (case uaX=>k_is)
  (case uaY=>k_is)
  (case uaZ=>k_is)
  (case ua0=>k_is)
  (case ua1=>k_is)
  (case ua2=>k_is)
  (case ua3=>k_is)
  (case ua4=>k_is)
  (case ua5=>k_is)
  (case ua6=>k_is)
  (case ua7=>k_is)
  (case ua8=>k_is)
  (case ua9=>k_is)
  (case uba=>k_is)
  (case ubb=>k_is)
  (case ubc=>k_is)
  (case ubd=>k_is)
  (case ube=>k_is)
  (case ubf=>k_is)
  (case ubg=>k_is)
  (case ubh=>k_is)
  (case ubi=>k_is)
  (case ubj=>k_is)
  (case ubk=>k_is)
  (case ubl=>k_is)
  (case ubm=>k_is)
  (case ubn=>k_is)
  (case ubo=>k_is)
  (case ii_NoTable=>k_is)
  (case li_NoTable=>k_is)
  (case ci_NoTable=>k_is)
  (case ki_NoTable=>k_is)
  (case fi_NoTable=>kernel_rfl)
  (case uaz=>kernel_rfl)
  (case uaB=>kernel_rfl)
  (case uaF=>kernel_rfl)
  (case en=>kernel_rfl)
  (case kx=>kernel_rfl)
  (case kB=>kernel_rfl)
  (case kS=>kernel_rfl)
end
