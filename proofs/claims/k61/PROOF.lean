import PyProof.Rows.All
import Wide.All
import OpenK.AllK
import Wide.FinOn
import Lean
import PyProof.EqAt
import PyProof.EqKinds
import PyProof.TupleCall
import KE.KTryMore
import PyProof.ExcArgs
import PyProof.ConsumeWalk
import PyProof.P3Eq
import KE.KRevIter
import PyProof.ListRange
import PyProof.Rows.SumAny
import KE.KSortTup
import PyProof.SetScanFacts
import PyProof.TupleKey
import PyProof.DictRoadsH
import PyProof.SetRoads
import KE.KTabLook
import PyProof.Rows.ListMul
import PyProof.InstStoreFacts
import PyProof.Rows.SetFrom
import PyProof.AutoListH
import PyProof.StrCalls2
import PyProof.MeetsSeq
import PyProof.DictCompW
import KE.KSortKey
import PyProof.SliceStr2
import PyProof.StrWalks
import PyProof.StrOps2
import PyProof.StrLawsIdx
import PyProof.StrLawsTight
import PyProof.StrLawsChain
import PyProof.Rows.StrSplitCount
import KE.KIntText
import PyProof.MaxThree
import PySem.Challenge.RW_heightrings_k61_no_webs
open List renaming length_map → akp,getElem?_eq_some_iff → aks,getElem?_eq_getElem → akt,mem_cons_of_mem → akv,size_toArray → akx,getD_eq_getElem?_getD → aky,getElem?_map → akz,mem_cons → akB,mem_of_getElem? → akC,length_append → akD,mem_cons_self → akE,mem_append → akF,getElem?_append_left → akK,getElem?_append_right → akL,mem_append_right → akM,mem_singleton → akO,map_append → akQ,length_take → akW,lookup_cons → akX,append_nil → akY,getElem?_set_self → ak4,getElem?_set_ne → ak5,getElem_mem → ak7,length_cons → ala,range → alc,length_set → ald,mem_map → alf,reverse_cons → alg,length_range → alh,getElem?_eq_none → ali,not_mem_nil → alm,length_drop → als,mem_reverse → alu,eq_nil_of_length_eq_zero → alx,nodup_cons → alz,take_of_length_le → alB,map_map → alC,mem_range → alD,take_add_one → alF,getElem?_of_mem → alG,mem_of_mem_drop → alH,map_cons → alJ,filterMap_cons → alO,getElem?_range → alQ,getElem?_replicate → alR,replicate → al0,take_length → al6,drop_eq_getElem_cons → al9,mem_filterMap → amd,getElem?_cons_zero → amg,append_assoc → amm,length_replicate → amn,getElem?_zipWith → amo,mem_append_left → amu,mem_of_mem_take → amv,of_mem_zip → amw,length_pos_iff → amy,length_reverse → amz,pairwise_cons → amK,length → amR,getElem?_set → amS,any_cons → amV,all_eq_true → am0,length_nil → am5,length_singleton → am7,getElem?_mapIdx → anf,take_zero → ang,mem_iff_getElem → ani,length_eraseIdx → anj,map_drop → ant,map_nil → anx
open PySem.W renaming Frag → akq,kitOne → akI,nsIn → akJ,mg_none_of → akP,keepIn → ak0,fnOf → ak6,findIn → ak8,mg_of → ak9,cellsFrom_some → alA,specialIn → alW,codeIn → al1,hideAll → amc,callWith_K → ame,exmOne → amj,mroIn → amt,Frag → amF,methodObj → amP,isFn → am2,hideAll_none → anb,hideAll_get → ano
open Bool renaming false_ne_true → akr,and_eq_true → alk,not_true → alK,and_false → alS,false_and → alZ,not_false → aml,true_and → amX,decide_and → am6,or_true → anz
open PySem.Heap renaming get?_push_of_some → aku,lt_size → akw,get?_push_size → akS,get?_update_other → akU,get?_update_self → alr,get?_none_of_le → alY,size_push → al2,SameBut → amA,get?_push_at → amT,FlyingW → am3
open Nat renaming le_refl → akA,lt_of_lt_of_le → akG,ne_of_lt → akN,le_trans → akV,le_of_ble_eq_true → ak1,le_of_lt → ale,zero_le → alp,lt_irrefl → alv,lt_succ_of_lt → aly,le_succ → al3,ne_of_gt → al5,le_of_succ_le → ami,min_eq_left → amx,le_of_eq → amC,sub_self → amD,min_le_right → amZ,le_add_right → am1,not_lt → anu
open PySem renaming boot_len → akH,mem_of_lookup → alP
open Int renaming toNat_natCast → akR,emod_lt_of_pos → alj,emod_nonneg → alV,mul_nonneg → amk,toNat → amG,mul_le_mul → ank
open PyProof.Rows renaming callWith_type1 → akT,slot_tuple_getitem → alN,boot_tuple → alT,boot_list → alU,boot_int → amq,callWith_builtin1 → amr,boot_sum → am9,boot_any → ana
open PySem.PassesOwn renaming never → akZ
open False renaming elim → ak2
open PySem.PyData renaming eqv → ak3,depthAll → alq,depth → al7,canLayAll0 → amU
open Array renaming length_toList → alb,getElem?_eq_getElem → amN
open PySem.F renaming plainAttrs_list → aln,slot_list_append → alL,type_list_append → alM,excBase_ValueError → al4,args_tuple_add_2 → amb,entry_tuple_add → amf,slot_tuple_add → amh,excAttr_ValueError → amM,args_list_append_2 → ane,excAttr_ValueError → anh,entry_list_append → anq
open Ne renaming symm → alo
open Option renaming isSome_iff_exists → alw
open PySem.Builtin.Slice renaming slicePlaces → alE,sliceAdjust → al8,sliceApplied → amJ
open PySem.Builtin.Tuple renaming tupleExact → alI
open PySem.Builtin.List renaming listExtendWith → alX,listLengthHint → amE,listSameRef → amW,listItems → am4
open PySem.Builtin.Int renaming intBits → ama,intTooBig → am8
open PySem.Obj renaming mapSeq → ams,mapFields → ans
open PySem.Str renaming ofString → amB
open PySem.Calls renaming Name_function_global → amH,spliced_cons → amI,spliced_nil → amQ
open PySem.Code renaming quiet_builtin → amL,isFrame → anw
open PySem.Builtin.SmallTypes renaming nextOf → amO
open PySem.Builtin.Range renaming rangeSize → amY
open PySem.Around renaming frames_deeper → anc,under → anv
open PySem.SeqAt renaming eqv_refl → anl,notIn_tupleAt → anp
open PyProof.Rows.IsTup renaming new → anm
open PySem.EntryCells renaming newEntry → anr
open PySem.Sem renaming wp_mono → anA
set_option Elab.async false
set_option linter.all false
set_option maxRecDepth 100000
set_option maxHeartbeats 4000000
section
namespace L2
open PySem PySem.Spec PyProof.Rows
noncomputable abbrev Key:=Sum Int Str
noncomputable def ah9:Key->Value->Bool
 | .inl k,v=>Value.isInt k v
 | .inr x,v=>Value.isStrOf x v
noncomputable def aj9 (w:World):Key->Int
 | .inl k=>hashInt k
 | .inr x=>hashStr w x
theorem yh:∀ {k:Key} {v:Value},ah9 k v=true->(∃ i t,k=Sum.inl i/\v=Value.int i t) \/ (∃ x t,k=Sum.inr x/\v=Value.str x t)
 | .inl i,v,h=>by
  obtain⟨t,e⟩:=Value.isInt_shape (k:=i) (v:=v) h
  exact .inl ⟨i,t,rfl,e⟩
 | .inr x,v,h=>by
  obtain⟨t,e⟩:=Value.isStrOf_shape (x:=x) (v:=v) h
  exact .inr ⟨x,t,rfl,e⟩
theorem aiz (a b:Int):decide ((Sum.inl a:Key)=Sum.inl b)=(a == b):=by
 by_cases e:a=b
 ·subst e;simp
 ·have h:¬ (Sum.inl a:Key)=Sum.inl b:=fun q=>e (Sum.inl.inj q)
  rw [decide_eq_false h]
  exact (beq_eq_false_iff_ne.mpr e).symm
theorem aiA (a b:Str):decide ((Sum.inr a:Key)=Sum.inr b)=decide (a=b):=by
 by_cases e:a=b
 ·subst e;simp
 ·have h:¬ (Sum.inr a:Key)=Sum.inr b:=fun q=>e (Sum.inr.inj q)
  rw [decide_eq_false h,decide_eq_false e]
theorem aiB (a:Int) (b:Str):decide ((Sum.inl a:Key)=Sum.inr b)=false:=decide_eq_false (fun q=>nomatch q)
theorem aiC (a:Str) (b:Int):decide ((Sum.inr a:Key)=Sum.inl b)=false:=decide_eq_false (fun q=>nomatch q)
noncomputable def abH (prog:Program) (w:World):PySem.KeyKind prog w Key where
 is:=ah9
 hash:=aj9 w
 inj:=fun v a b ha hb=>by
  rcases yh ha with⟨i,t,rfl,rfl⟩ | ⟨x,t,rfl,rfl⟩
  ·rcases yh hb with⟨j,u,rfl,e⟩ | ⟨y,u,rfl,e⟩
   ·injection e with e1 _;rw [e1]
   ·exact nomatch e
  ·rcases yh hb with⟨j,u,rfl,e⟩ | ⟨y,u,rfl,e⟩
   ·exact nomatch e
   ·injection e with e1 _;rw [e1]
 byValue:=fun k v h=>by
  rcases yh h with⟨i,t,rfl,rfl⟩ | ⟨x,t,rfl,rfl⟩ <;> rfl
 pyHash:=fun hv h=>by
  rcases yh hv with⟨i,t,rfl,rfl⟩ | ⟨x,t,rfl,rfl⟩
  ·exact wpAny_pyHash_int h
  ·exact wpAny_pyHash_str h
 eqBool:=fun hu hv h=>by
  rcases yh hu with⟨i,t,rfl,rfl⟩ | ⟨x,t,rfl,rfl⟩
  ·rcases yh hv with⟨j,u,rfl,rfl⟩ | ⟨y,u,rfl,rfl⟩
   ·rw [aiz] at h;exact wpAny_eqBool_int h
   ·rw [aiB] at h;exact SeqAt.EqAt.int_str i t y u _ _ _ _ h
  ·rcases yh hv with⟨j,u,rfl,rfl⟩ | ⟨y,u,rfl,rfl⟩
   ·rw [aiC] at h;exact SeqAt.EqAt.str_int x t j u _ _ _ _ h
   ·rw [aiA] at h;exact wpAny_eqBool_str h
 «strs»:=fun k x t v h=>by
  rcases yh h with⟨i,u,rfl,e⟩ | ⟨y,u,rfl,e⟩
  ·exact nomatch e
  ·injection e with e1 _
   subst e1
   cases v <;> rfl
inductive V where
 | non | bl (b:Bool) | int (i:Int) | str (x:Str) | byt (b:Array UInt8) | flt (b:UInt64) | ref (a:Addr) | ty (n:String)
 deriving DecidableEq
noncomputable def RelV:V->Value->Prop
 | .non,u=>u=Value.none
 | .bl b,u=>u=Value.bool b
 | .int i,u=>∃ t,u=Value.int i t
 | .str x,u=>∃ t,u=Value.str x t
 | .byt b,u=>∃ t,u=Value.bytes b t
 | .flt b,u=>∃ t,u=Value.float b t
 | .ref a,u=>u=Value.ref a
 | .ty n,u=>u=Value.type n
noncomputable abbrev Vals:List V->List Value->Prop:=Paired RelV
theorem Vals.length {xs:List V} {us:List Value} (r:Vals xs us):xs.length=us.length:=Paired.length r
theorem Vals.get:∀ {xs:List V} {us:List Value} {i:Nat} {x:V},Vals xs us->xs[i]?=some x->∃ u,us[i]?=some u/\RelV x u
 | _,_,_,_,.nil,e=>by simp at e
 | _,_,0,_,.cons r _,e=>by simp at e;subst e;exact⟨_,rfl,r⟩
 | _,_,i+1,x,.cons _ t,e=>by
  obtain⟨u,h1,h2⟩:=Vals.get (i:=i) (x:=x) t (by simpa using e)
  exact⟨u,by simpa using h1,h2⟩
theorem Vals.set {x:V} {u:Value} (r:RelV x u):∀ {xs:List V} {us:List Value} (i:Nat),Vals xs us->Vals (xs.set i x) (us.set i u)
 | _,_,_,.nil=>.nil
 | _,_,0,.cons _ t=>.cons r t
 | _,_,i+1,.cons q t=>.cons q (Vals.set r i t)
theorem Vals.append:∀ {xs ys:List V} {us ws:List Value},Vals xs us->Vals ys ws->Vals (xs++ys) (us++ws)
 | _,_,_,_,.nil,s=>s
 | _,_,_,_,.cons r t,s=>.cons r (Vals.append t s)
theorem Vals.take:∀ {xs:List V} {us:List Value} (n:Nat),Vals xs us->Vals (xs.take n) (us.take n)
 | _,_,0,_=>.nil
 | _,_,_+1,.nil=>.nil
 | _,_,n+1,.cons r t=>.cons r (Vals.take n t)
theorem Vals.drop:∀ {xs:List V} {us:List Value} (n:Nat),Vals xs us->Vals (xs.drop n) (us.drop n)
 | _,_,0,r=>r
 | _,_,_+1,.nil=>.nil
 | _,_,n+1,.cons _ t=>Vals.drop n t
noncomputable def ajC:Option V->Option Value->Prop
 | some v,some u=>RelV v u
 | none,none=>True
 | _,_=>False
noncomputable def KV {κ:Type}:List (κ×V)->List (κ×Value)->Prop:=Paired fun (p:κ×V) (q:κ×Value)=>p.1=q.1/\RelV p.2 q.2
noncomputable def kV:Key->V
 | .inl i=>.int i
 | .inr x=>.str x
inductive HO where
  | lst (xs:List V)
  | tup (xs:List V)
  | dK (kvs:List (Key×V)) | dT (kvs:List (List Key×V))
  | set (S:Int->Bool) (n:Nat)
  | ins (C dx:Addr) (fs:List (Str×V))
  | own (x:Addr)
  | xd (fs:List (Str×V))
  | met (f x:Addr)
  | rng (lo hi:Int)
  | frz (o:Obj) (u:HO)
  | tbl (ps:Array Value)
  | ext (φ:Heap->Prop)
noncomputable abbrev Hp:=Addr->Option HO
noncomputable def upd (H:Hp) (a:Addr) (o:HO):Hp:=fun b=>if b=a then some o else H b
theorem zx {H:Hp} {a:Addr} {o:HO}:upd H a o a=some o:=by unfold upd;rw [if_pos rfl]
theorem zv {H:Hp} {a b:Addr} {o:HO} (h:b≠a):upd H a o b=H b:=by unfold upd;rw [if_neg h]
theorem zP {H:Hp} {a b:Addr} {o:HO} (h:H a=some o) (h':H b=none):a≠b:=by
 intro e;subst e;rw [h] at h';cases h'
section
variable (P:Program) (w:World)
noncomputable def ObjOk (H:Hp) (h:Heap) (a:Addr):HO->Prop
 | .lst xs=>xs.length<=sizeLine/\∃ (its:List Value) (n:Nat),Vals xs its/\h.get? a=some { cls:=.type "list",data:=.seq its.toArray n }
 | .tup xs=>xs.length<=sizeLine/\∃ its:List Value,Vals xs its/\IsTup h a its.toArray
 | .dK kvs=>kvs.length<=sizeLine/\(a == sysModules)=false/\∃ vs,KV kvs vs/\h.DictOf (abH P w) a vs
 | .dT kvs=>kvs.length<=sizeLine/\(a == sysModules)=false/\∃ xs:List (List Key×Addr×Value),
   Paired (fun (p:List Key×V) (q:List Key×Addr×Value)=>p.1=q.1/\H q.2.1=some (.tup (p.1.map kV))/\RelV p.2 q.2.2) kvs xs /\
   ∃ o es ep,h.get? a=some o/\o.ExactDict/\o.data=.dict es ep/\es.toList=xs.map (entryOfKey (tupleKind (abH P w)))/\(xs.map (·.1)).Nodup
 | .set S n=>h.SetOf (intKind P w) a S n
 | .ins C dx fs=>H dx=some (.own a)/\fs.length<=1000/\dx≠a/\h.get? a=some (PySem.W.instObj C dx) /\
   ∃ mA,h.Ns1 dx mA/\(∀ f,ajC (fs.lookup f) (mA f))/\PySem.Within mA (fs.map (·.1))
 | .own _=>∃ o,h.get? a=some o
 | .xd fs=>∃ mA,h.Ns1 a mA/\∀ f,ajC (fs.lookup f) (mA f)
 | .rng lo hi=>∃ t u v,h.get? a=some { cls:=.type "range",data:=.fields #[.int lo t,.int hi u,.int 1 v] }
 | .frz o u=>h.get? a=some o/\ObjOk H h a u
 | .tbl ps=>h.get? a=some { cls:=.none,data:=.fields ps }
 | .met f x=>h.get? a=some (amP (.ref f) (.ref x))
 | .ext φ=>φ h/\(∃ o,h.get? a=some o)/\∀ h1 h2:Heap,φ h1->(∀ o,h1.get? a=some o->h2.get? a=some o)->φ h2
noncomputable def HOk (H:Hp) (h:Heap):Prop:=∀ a o,H a=some o->ObjOk P w H h a o
end
section
variable {P:Program} {w:World} {H H':Hp} {h h':Heap} {a:Addr} {o:HO}
theorem ObjOk.lt (x:ObjOk P w H h a o):a<h.objs.size:=by
 cases o with
 | lst xs=>obtain⟨_,_,_,_,e⟩:=x;exact akw e
 | tup xs=>obtain⟨_,_,_,p⟩:=x;exact p.lt
 | dK kvs=>obtain⟨_,_,_,_,o,_,_,e,_⟩:=x;exact akw e
 | dT kvs=>obtain⟨_,_,_,_,o,_,_,e,_⟩:=x;exact akw e
 | set S n=>obtain⟨o,_,_,_,e,_⟩:=x;exact akw e
 | ins C dx fs=>obtain⟨_,_,_,e,_⟩:=x;exact akw e
 | own y=>obtain⟨_,e⟩:=x;exact akw e
 | xd fs=>obtain⟨_,⟨_,_,_,e,_⟩,_⟩:=x;exact akw e
 | rng lo hi=>obtain⟨_,_,_,e⟩:=x;exact akw e
 | frz ob u=>obtain⟨e,_⟩:=x;exact akw e
 | tbl ps=>exact akw (show h.get? a=some _ from x)
 | met f y=>exact akw (show h.get? a=some _ from x)
 | ext φ=>obtain⟨_,⟨_,e⟩,_⟩:=x;exact akw e
theorem Paired.mapP {α β:Type} {F G:α->β->Prop}:∀ {l₁:List α} {l₂:List β},Paired F l₁ l₂->(∀ a b,F a b->G a b)->Paired G l₁ l₂
 | _,_,.nil,_=>.nil
 | _,_,.cons r t,f=>.cons (f _ _ r) (Paired.mapP t f)
theorem ObjOk.stay (x:ObjOk P w H h a o) (k:∀ b u,(b=a \/ H b=some (.own a))->h.get? b=some u->h'.get? b=some u)
  (ho:∀ b,H b=some (.own a)->H' b=some (.own a)) (ht:∀ b xs,H b=some (.tup xs)->H' b=some (.tup xs)):ObjOk P w H' h' a o:=by
 induction o with
 | lst xs=>obtain⟨z,its,n,r,e⟩:=x;exact⟨z,its,n,r,k _ _ (.inl rfl) e⟩
 | tup xs=>obtain⟨z,its,r,ob,e,c⟩:=x;exact⟨z,its,r,ob,k _ _ (.inl rfl) e,c⟩
 | dK kvs=>obtain⟨z,y,vs,r,ob,es,ep,e,c⟩:=x;exact⟨z,y,vs,r,ob,es,ep,k _ _ (.inl rfl) e,c⟩
 | dT kvs =>
  obtain⟨z,y,xs,r,ob,es,ep,e,c⟩:=x
  exact⟨z,y,xs,Paired.mapP r fun p q z=>⟨z.1,ht _ _ z.2.1,z.2.2⟩,ob,es,ep,k _ _ (.inl rfl) e,c⟩
 | set S n=>obtain⟨ob,es,ep,t,e,c⟩:=x;exact⟨ob,es,ep,t,k _ _ (.inl rfl) e,c⟩
 | ins C dx fs =>
  obtain⟨d,z,ne,e,mA,⟨od,es,ep,e2,c⟩,r⟩:=x
  exact⟨ho _ d,z,ne,k _ _ (.inl rfl) e,mA,⟨od,es,ep,k _ _ (.inr d) e2,c⟩,r⟩
 | own y=>obtain⟨ob,e⟩:=x;exact⟨ob,k _ _ (.inl rfl) e⟩
 | xd fs=>obtain⟨mA,⟨od,es,ep,e,c⟩,r⟩:=x;exact⟨mA,⟨od,es,ep,k _ _ (.inl rfl) e,c⟩,r⟩
 | rng lo hi=>obtain⟨t,u,v,e⟩:=x;exact⟨t,u,v,k _ _ (.inl rfl) e⟩
 | frz ob u ih=>obtain⟨e,q⟩:=x;exact⟨k _ _ (.inl rfl) e,ih q⟩
 | tbl ps =>
  have e:h.get? a=some { cls:=.none,data:=.fields ps }:=x
  show h'.get? a=some { cls:=.none,data:=.fields ps }
  exact k a _ (.inl rfl) e
 | met f y =>
  have e:h.get? a=some (amP (.ref f) (.ref y)):=x
  show h'.get? a=some (amP (.ref f) (.ref y))
  exact k a _ (.inl rfl) e
 | ext φ=>obtain⟨p,⟨o,e⟩,st⟩:=x;exact⟨st _ _ p fun o q=>k _ _ (.inl rfl) q,⟨o,k _ _ (.inl rfl) e⟩,st⟩
theorem HOk.lt (x:HOk P w H h) (e:H a=some o):a<h.objs.size:=(x a o e).lt
theorem HOk.fresh (x:HOk P w H h) (e:h.objs.size<=a):H a=none:=by
 cases q:H a with
 | none=>rfl
 | some u=>exact absurd (akG (x.lt q) e) (alv _)
theorem HOk.kept (x:HOk P w H h) (k:∀ b u,h.get? b=some u->h'.get? b=some u):HOk P w H h':=fun a o e =>
 (x a o e).stay (fun b u _ q=>k b u q) (fun _ q=>q) fun _ _ q=>q
theorem HOk.laid (x:HOk P w H h) (k:∀ b u,h.get? b=some u->h'.get? b=some u) (hp:h.objs.size<=a) (new:ObjOk P w (upd H a o) h' a o):HOk P w (upd H a o) h':=fun b u e=>by
 have hn:=x.fresh hp
 by_cases hb:b=a
 ·subst hb;rw [zx] at e;cases e;exact new
 ·rw [zv hb] at e
  exact (x b u e).stay (fun c v _ q=>k c v q) (fun c q=>by rw [zv (zP q hn)];exact q) fun c xs q=>by rw [zv (zP q hn)];exact q
end
noncomputable def Rd (H:Hp) (a:Addr) (u:HO):Prop:=H a=some u \/ ∃ o,H a=some (.frz o u)
theorem Rd.ok {P:Program} {w:World} {H:Hp} {h:Heap} {a:Addr} {u:HO} (r:Rd H a u) (x:HOk P w H h):ObjOk P w H h a u:=by
 rcases r with r | ⟨o,r⟩
 ·exact x a u r
 ·obtain⟨_,q⟩:=x a _ r
  exact q
noncomputable def Mut:Option HO->Prop
 | some (.lst _)=>True
 | some (.dK _)=>True
 | some (.dT _)=>True
 | some (.set _ _)=>True
 | some (.ins _ _ _)=>True
 | some (.ext _)=>True
 | _=>False
section
variable {P:Program} {w:World} {H:Hp} {h h':Heap} {x e:Addr} {o':HO}
theorem HOk.write (ok:HOk P w H h) (mu:Mut (H x)) (he:e=x \/ H e=some (.own x)) (k:∀ b u,b≠e->h.get? b=some u->h'.get? b=some u) (heo:∃ u,h'.get? e=some u)
  (new:ObjOk P w (upd H x o') h' x o'):HOk P w (upd H x o') h':=fun b u q=>by
 have nown:∀ c y,H c=some (.own y)->c≠x:=fun c y r z=>by subst z;rw [r] at mu;exact mu
 have ntup:∀ c xs,H c=some (.tup xs)->c≠x:=fun c xs r z=>by subst z;rw [r] at mu;exact mu
 by_cases hb:b=x
 ·subst hb;rw [zx] at q;cases q;exact new
 ·rw [zv hb] at q
  by_cases hbe:b=e
  ·have q':H b=some (.own x):=by
    rcases he with z | z
    ·exact absurd (hbe.trans z) hb
    ·rw [hbe];exact z
   rw [q] at q';cases q'
   obtain⟨v,hv⟩:=heo
   exact⟨v,by rw [hbe];exact hv⟩
  ·refine (ok b u q).stay (fun c v hc r=>k c v ?_ r) (fun c r=>by rw [zv (nown c b r)];exact r) fun c xs r=>by rw [zv (ntup c xs r)];exact r
   rcases hc with rfl | hc
   ·exact hbe
   ·rintro rfl
    rcases he with z | z
    ·exact nown c b hc z
    ·rw [hc] at z;cases z;exact hb rfl
end
structure Un (fs ex:List Addr) (H H':Hp) (h h':Heap):Prop where
 keep:∀ b o,h.get? b=some o->H b=none->b∉fs->b∉ex->h'.get? b=some o
 slot:∀ b o,h.get? b=some o->H b=none->b∈fs->b∉ex->∃ sl,h'.get? b=some { o with slots:=sl }
 free:∀ b o,h.get? b=some o->H b=none->b∉ex->H' b=none
 there:∀ b o,h.get? b=some o->b∉ex->∃ o',h'.get? b=some o'
 tups:∀ b xs,H b=some (.tup xs)->H' b=some (.tup xs)
 frzs:∀ b o u,H b=some (.frz o u)->H' b=some (.frz o u)
 tbls:∀ b ps,H b=some (.tbl ps)->∃ more,H' b=some (.tbl (ps++more))
section
variable {fs fs' ex ex':List Addr} {H H1 H2:Hp} {h h1 h2 h':Heap} {a x e:Addr} {o:HO}
theorem Un.any (u:Un fs ex H H1 h h1) {b:Addr} {ob:Obj} (q:h.get? b=some ob) (n:H b=none) (hx:b∉ex):∃ sl,h1.get? b=some { ob with slots:=sl }:=by
 by_cases hb:b∈fs
 ·exact u.slot b ob q n hb hx
 ·exact⟨ob.slots,u.keep b ob q n hb hx⟩
theorem Un.kept (k:∀ b u,h.get? b=some u->h'.get? b=some u):Un fs ex H H h h' :=
 ⟨fun b ob q _ _ _=>k b ob q,fun b ob q _ _ _=>⟨ob.slots,k b ob q⟩,fun _ _ _ n _=>n,fun b ob q _=>⟨ob,k b ob q⟩,fun _ _ q=>q,fun _ _ _ q=>q,fun _ ps q=>⟨#[],by rw [q];simp⟩⟩
theorem Un.refl:Un fs ex H H h h:=Un.kept fun _ _ q=>q
theorem Un.laid (k:∀ b u,h.get? b=some u->h'.get? b=some u) (hp:h.objs.size<=a) (hn:H a=none):Un fs ex H (upd H a o) h h' where
 keep:=fun b u q _ _ _=>k b u q
 slot:=fun b u q _ _ _=>⟨u.slots,k b u q⟩
 free:=fun b u q n _=>by rw [zv (akN (akG (akw q) hp))];exact n
 there:=fun b u q _=>⟨u,k b u q⟩
 tups:=fun b xs q=>by rw [zv (zP q hn)];exact q
 frzs:=fun b u xs q=>by rw [zv (zP q hn)];exact q
 tbls:=fun b ps q=>⟨#[],by rw [zv (zP q hn),q];simp⟩
theorem Un.write (mu:Mut (H x)) (he:e=x \/ H e=some (.own x)) (k:∀ b u,b≠e->h.get? b=some u->h'.get? b=some u) (heo:∃ u,h'.get? e=some u):Un fs ex H (upd H x o) h h':=by
 have hx:∀ b,H b=none->b≠x:=fun b n z=>by subst z;rw [n] at mu;exact mu
 have hb:∀ b,H b=none->b≠e:=fun b n z=>by
  subst z
  rcases he with r | r
  ·exact hx b n r
  ·rw [n] at r;cases r
 have hm:∀ b u,H b=some u->¬ Mut (some u)->b≠x:=fun b u q nm z=>by subst z;rw [q] at mu;exact nm mu
 refine⟨fun b u q n _ _=>k b u (hb b n) q,fun b u q n _ _=>⟨u.slots,k b u (hb b n) q⟩,fun b u q n _=>by rw [zv (hx b n)];exact n,fun b u q _=>?_,
  fun b xs q=>by rw [zv (hm b _ q fun z=>z)];exact q,fun b u xs q=>by rw [zv (hm b _ q fun z=>z)];exact q,fun b ps q=>⟨#[],by rw [zv (hm b _ q fun z=>z),q];simp⟩⟩
 by_cases hbe:b=e
 ·subst hbe;exact heo
 ·exact⟨u,k b u hbe q⟩
end
noncomputable def trk (h:Heap) (H:Hp):List Addr:=(alc h.objs.size).filter fun a=>(H a).isSome
noncomputable def abI (h:Heap) (H:Hp):Heap:=amc h (trk h H)
theorem aeG (h:Heap) (H:Hp):(abI h H).objs.size=h.objs.size:=PySem.W.hideAll_size _ _
theorem afD {h:Heap} {H:Hp} {b:Addr} {o:Obj} (e:h.get? b=some o) (n:H b=none):(abI h H).get? b=some o :=
 ano _ e fun hm=>by
  have q:(H b).isSome=true:=(List.mem_filter.mp hm).2
  rw [n] at q;simp at q
theorem ahe {h:Heap} {H:Hp} {b:Addr} {o:Obj} (e:(abI h H).get? b=some o):h.get? b=some o/\H b=none:=by
 have e':h.get? b=some o:=PySem.W.of_hideAll (trk h H) e
 refine⟨e',?_⟩
 cases q:H b with
 | none=>rfl
 | some x =>
  have hm:b∈trk h H:=List.mem_filter.mpr ⟨alD.mpr (akw e'),by simp [q]⟩
  have z:(abI h H).get? b=none:=anb (trk h H) hm
  rw [z] at e;cases e
noncomputable def ahf (g h:Heap) (L:Addr):List (Addr×Obj):=(alc h.objs.size).filterMap fun a=>if a=L \/ (g.get? a).isSome=true then none else (h.get? a).map fun o=>(a,o)
noncomputable def rest (g h:Heap) (L d:Addr):List (Addr×Obj):=(ahf g h L).filter fun p=>decide (p.1≠d)
structure Mod (K:akq) (mg:Str->Option Value) (base:Heap):Prop where
 kin:K.In base
 glob:base.Ns mainGlobals mg
 blt:∃ mb,base.Ns builtinsNs mb/\∀ x:Str,x ≠ "__name__"->mb x=bootBuiltins x
 nolimit:base.NoLimit
structure Cx where
 prog:Program
 w:World
 K:akq
 mg:Str->Option Value
 base:Heap
 A:Around
 N:List Str
 s₀:Shared
 H₀:Hp
 env:Env
 outer:List Env
 stack:List Env
 ex:List Addr
 fn:Str->Bool
 calm:Bool
 pn:List (Addr×Obj)
 xe:Value->Shared->Prop
noncomputable def frs (l:List Env):List Addr:=l.filterMap (·.frame)
noncomputable abbrev Cx.fs (X:Cx):List Addr:=frs X.outer
noncomputable def Vis (sc:Scope) (x:Str):Prop:=sc.names.lookup x=some .local \/ sc.names.lookup x=some .cell \/ sc.names.lookup x=some .free
noncomputable def Loc (sc:Scope) (x:Str):Prop:=sc.names.lookup x=some .local \/ sc.names.lookup x=some .cell
noncomputable def Look (env:Env) (h:Heap) (m:Str->Option Value) (x:Str) (u:Value):Prop :=
 (env.kindOf x=some .local/\m x=some u) \/ ((env.kindOf x=some .cell \/ env.kindOf x=some .free)/\∃ c,env.cells.lookup x=some c/\h.IsCell c (some u))
structure Cx.Ok (X:Cx):Prop where
 mod:Mod X.K X.mg X.base
 kind:X.env.scope.kind=.function
 glob:X.env.globals=mainGlobals
 blt:X.env.builtins=builtinsNs
 above:X.s₀.heap.objs.size<=X.env.locals
 inj:∀ x y c,X.env.cells.lookup x=some c->X.env.cells.lookup y=some c->x=y
 has:∀ x,(X.env.kindOf x=some .cell \/ X.env.kindOf x=some .free)->∃ c,X.env.cells.lookup x=some c
 cab:∀ x c,X.fn x=true->X.env.cells.lookup x=some c->X.s₀.heap.objs.size<=c
 hd:X.calm=true->X.A.handled=none
 frames:X.A.frames=some X.stack
 stk:X.stack=X.outer \/ (X.stack=X.env :: X.outer/\X.env.frame=some X.env.locals)
 exf:∀ b∈X.ex,b≠X.env.locals/\∀ x c,X.env.cells.lookup x=some c->c≠b
 bs:∀ b o,X.base.get? b=some o->X.s₀.heap.get? b=some o/\X.H₀ b=none
 bsz:X.base.objs.size<=X.s₀.heap.objs.size
 noex:∀ b o,X.base.get? b=some o->b∉X.ex
 exfs:∀ b∈X.ex,b∉X.fs
 funs:X.s₀.heap.FunFrames X.base X.outer
 frf:∀ b∈X.fs,X.H₀ b=none
structure Inv (X:Cx) (pins:List (Addr×Obj)) (σ:List (Option V)) (H:Hp) (s:Shared):Prop where
 ok:X.Ok
 os:s.os=X.s₀.os
 bare:AllBare s.gens
 base:Un X.fs X.ex X.H₀ H X.s₀.heap s.heap
 loc:∃ m,s.heap.Ns X.env.locals m/\∀ (i:Nat) (x:Str) (v:V),X.N[i]?=some x->σ[i]?=some (some v)->Vis X.env.scope x->∃ u,RelV v u/\Look X.env s.heap m x u
 cell:∀ x c,X.env.cells.lookup x=some c->∃ v,s.heap.IsCell c v
 free:H X.env.locals=none
 freeC:∀ x c,X.env.cells.lookup x=some c->H c=none
 pin:∀ p∈X.pn++pins,s.heap.get? p.1=some p.2/\H p.1=none/\p.1≠X.env.locals/\p.1∉X.fs/\∀ v,p.2.data≠.cell v
 hok:HOk X.prog X.w H s.heap
 len:σ.length=X.N.length
section
variable {X:Cx} {pins:List (Addr×Obj)} {σ:List (Option V)} {H H':Hp} {s:Shared} {h':Heap}
theorem Cx.Ok.nofr (ok:X.Ok) {b:Addr} {o:Obj} (e:X.base.get? b=some o):b∉X.fs:=fun hb=>by
 have:=(ok.funs.mem hb).1
 rw [e] at this;cases this
theorem Inv.bs (I:Inv X pins σ H s):∀ b o,X.base.get? b=some o->s.heap.get? b=some o/\H b=none:=fun b o e =>
 ⟨I.base.keep b o (I.ok.bs b o e).1 (I.ok.bs b o e).2 (I.ok.nofr e) (I.ok.noex b o e),I.base.free b o (I.ok.bs b o e).1 (I.ok.bs b o e).2 (I.ok.noex b o e)⟩
theorem Inv.bk (I:Inv X pins σ H s):∀ b o,X.base.get? b=some o->s.heap.get? b=some o:=fun b o e=>(I.bs b o e).1
theorem Inv.mod (I:Inv X pins σ H s):Mod X.K X.mg X.base:=I.ok.mod
theorem Inv.kIn (I:Inv X pins σ H s):X.K.In s.heap:=I.ok.mod.kin.keeps I.bk
theorem Inv.fr (I:Inv X pins σ H s):∃ m,Fr X.base X.env.locals s.heap m :=
 let⟨m,hn,_⟩:=I.loc
 ⟨m,hn,I.bk,akV I.ok.bsz I.ok.above⟩
theorem Inv.lt (I:Inv X pins σ H s):X.env.locals<s.heap.objs.size:=let⟨_,hn,_⟩:=I.loc;hn.lt
theorem Inv.sz (I:Inv X pins σ H s):X.s₀.heap.objs.size<=s.heap.objs.size:=akV I.ok.above (ale I.lt)
theorem Inv.nofs (I:Inv X pins σ H s) {a:Addr} (h:s.heap.objs.size<=a):a∉X.fs:=fun hb=>by
 obtain⟨_,o,ho,_⟩:=I.ok.funs.mem hb
 exact absurd (akG (akw ho) (akV I.sz h)) (alv _)
theorem Inv.cne (I:Inv X pins σ H s):∀ x c,X.env.cells.lookup x=some c->c≠X.env.locals:=fun x c e z=>by
 obtain⟨v,o,ho,hd⟩:=I.cell x c e
 obtain⟨m,⟨o',es,ep,ho',hd',_⟩,_⟩:=I.loc
 rw [z,ho'] at ho;cases ho;rw [hd'] at hd;cases hd
theorem Inv.funs (I:Inv X pins σ H s):s.heap.FunFrames X.base X.outer:=by
 have all:∀ (l:List Env),(∀ b∈frs l,b∈X.fs)->X.s₀.heap.FunFrames X.base l->s.heap.FunFrames X.base l:=by
  intro l
  induction l with
  | nil=>intro _ _;trivial
  | cons env r ih =>
   intro hs hl
   obtain⟨hk,⟨L,o,hf,hn,ho,hd⟩,hr⟩:=hl
   have hL:L∈X.fs:=hs L (by unfold frs;rw [alO,hf];exact akE)
   obtain⟨sl,e⟩:=I.base.slot L o ho (I.ok.frf L hL) hL fun z=>I.ok.exfs L z hL
   exact⟨hk,⟨L,_,hf,hn,e,hd⟩,ih (fun b hb=>hs b (by unfold frs;rw [alO,hf];exact akv _ hb)) hr⟩
 exact all X.outer (fun _ hb=>hb) I.ok.funs
theorem Inv.stack (I:Inv X pins σ H s):s.heap.FunFrames X.base X.stack:=by
 rcases I.ok.stk with e | ⟨e,hf⟩
 ·rw [e];exact I.funs
 ·rw [e]
  obtain⟨m,hn,_⟩:=I.loc
  refine .cons (by rw [I.ok.kind];decide) hf hn ?_ I.funs
  exact alY (akV I.ok.bsz I.ok.above)
theorem Inv.stkSub (I:Inv X pins σ H s):∀ b∈frs X.stack,b∈X.env.locals :: X.fs:=fun b hb=>by
 rcases I.ok.stk with e | ⟨e,hf⟩
 ·rw [e] at hb;exact akv _ hb
 ·rw [e] at hb
  unfold frs at hb
  rw [alO,hf] at hb
  exact hb
theorem Inv.stkFree (I:Inv X pins σ H s):∀ b∈frs X.stack,H b=none:=fun b hb=>by
 rcases akB.mp (I.stkSub b hb) with e | hb
 ·rw [e];exact I.free
 ·obtain⟨_,o,ho,_⟩:=I.ok.funs.mem hb
  exact I.base.free b o ho (I.ok.frf b hb) fun z=>I.ok.exfs b z hb
theorem Inv.step {g':Array GenState} {t':Nat} {d':Drawn} {ch:List Addr} (I:Inv X pins σ H s)
  (hch:∀ b∈ch,(b∈X.ex \/ X.s₀.heap.objs.size<=b)/\b≠X.env.locals/\(∀ x c,X.env.cells.lookup x=some c->c≠b)/\∀ p∈X.pn++pins,p.1≠b)
  (keep:∀ b o,b≠X.env.locals->b∉X.fs->b∉ch->s.heap.get? b=some o->H b=none->h'.get? b=some o)
  (slot:∀ b o,b≠X.env.locals->b∈X.fs->b∉ch->s.heap.get? b=some o->H b=none->∃ sl,h'.get? b=some { o with slots:=sl }) (free:∀ b o,b∉ch->s.heap.get? b=some o->H b=none->H' b=none)
  (there:∀ b o,b∉ch->s.heap.get? b=some o->∃ o',h'.get? b=some o')
  (tups:∀ b xs,H b=some (.tup xs)->H' b=some (.tup xs)) (frzs:∀ b o u,H b=some (.frz o u)->H' b=some (.frz o u)) (tbls:∀ b ps,H b=some (.tbl ps)->∃ more,H' b=some (.tbl (ps++more)))
  (ns:∀ m,s.heap.Ns X.env.locals m->h'.Ns X.env.locals m) (hok:HOk X.prog X.w H' h') (hg:AllBare g') :
  Inv X pins σ H' { s with heap:=h',gens:=g',drawn:=d',toks:=t' }:=by
 have neL:∀ b o,X.s₀.heap.get? b=some o->b≠X.env.locals:=fun b o e=>akN (akG (akw e) I.ok.above)
 have neC:∀ b o,X.s₀.heap.get? b=some o->b∉X.ex->b∉ch:=fun b o e hx hb=>by
  rcases (hch b hb).1 with z | z
  ·exact hx z
  ·exact absurd (akG (akw e) z) (alv _)
 have cellK:∀ x c,X.env.cells.lookup x=some c->∀ v,s.heap.IsCell c v->h'.IsCell c v:=fun x c e v ⟨o,ho,hd⟩=>by
  have nch:c∉ch:=fun z=>(hch c z).2.2.1 x c e rfl
  by_cases hc:c∈X.fs
  ·obtain⟨sl,q⟩:=slot c o (I.cne x c e) hc nch ho (I.freeC x c e)
   exact⟨_,q,hd⟩
  ·exact⟨o,keep c o (I.cne x c e) hc nch ho (I.freeC x c e),hd⟩
 refine⟨I.ok,I.os,hg,⟨fun b o e n hb hx=>?_,fun b o e n hb hx=>?_,fun b o e n hx=>?_,fun b o e hx=>?_,fun b xs e=>tups b xs (I.base.tups b xs e),fun b o xs e=>frzs b o xs (I.base.frzs b o xs e),fun b ps e=>?_⟩,?_,fun x c e=>?_,?_,fun x c e=>?_,fun p hp=>?_,hok,I.len⟩
 ·exact keep b o (neL b o e) hb (neC b o e hx) (I.base.keep b o e n hb hx) (I.base.free b o e n hx)
 ·obtain⟨sl,e1⟩:=I.base.slot b o e n hb hx
  obtain⟨sl',e2⟩:=slot b _ (neL b o e) hb (neC b o e hx) e1 (I.base.free b o e n hx)
  exact⟨sl',e2⟩
 ·obtain⟨o',e1⟩:=I.base.there b o e hx
  exact free b o' (neC b o e hx) e1 (I.base.free b o e n hx)
 ·obtain⟨o',e1⟩:=I.base.there b o e hx
  exact there b o' (neC b o e hx) e1
 ·obtain⟨m1,e1⟩:=I.base.tbls b ps e
  obtain⟨m2,e2⟩:=tbls b _ e1
  exact⟨m1++m2,by rw [e2,Array.append_assoc]⟩
 ·obtain⟨m,hn,hl⟩:=I.loc
  refine⟨m,ns m hn,fun i x v e1 e2 e3=>?_⟩
  obtain⟨u,r,l⟩:=hl i x v e1 e2 e3
  refine⟨u,r,?_⟩
  rcases l with l | ⟨k,c,e,z⟩
  ·exact .inl l
  ·exact .inr ⟨k,c,e,cellK x c e _ z⟩
 ·obtain⟨v,z⟩:=I.cell x c e
  exact⟨v,cellK x c e v z⟩
 ·obtain⟨m,⟨o,_,_,ho,_⟩,_⟩:=I.loc
  exact free _ o (fun z=>(hch _ z).2.1 rfl) ho I.free
 ·obtain⟨v,o,ho,hd⟩:=I.cell x c e
  exact free c o (fun z=>(hch c z).2.2.1 x c e rfl) ho (I.freeC x c e)
 ·obtain⟨e,n,ne,nf,d⟩:=I.pin p hp
  have nch:p.1∉ch:=fun z=>(hch p.1 z).2.2.2 p hp rfl
  exact⟨keep p.1 p.2 ne nf nch e n,free p.1 p.2 nch e n,ne,nf,d⟩
theorem Inv.un {t':Nat} (I:Inv X pins σ H s) (u:Un X.fs [] H H' s.heap h') (hok:HOk X.prog X.w H' h'):Inv X pins σ H' { s with heap:=h',toks:=t' }:=by
 obtain⟨m,⟨o,es,ep,ho,r⟩,_⟩:=id I.loc
 obtain⟨sl,hL⟩:=u.any ho I.free (by simp)
 exact I.step (g':=s.gens) (d':=s.drawn) (ch:=[]) (fun _ z=>nomatch z) (fun b o _ hb _ e n=>u.keep b o e n hb (by simp)) (fun b o _ hb _ e n=>u.slot b o e n hb (by simp)) (fun b o _ e n=>u.free b o e n (by simp)) (fun b o _ e=>u.there b o e (by simp)) u.tups u.frzs u.tbls (fun m' hm=>by
  obtain⟨o',es',ep',ho',r'⟩:=hm
  rw [ho] at ho';cases ho'
  exact⟨_,es',ep',hL,r'⟩) hok I.bare
theorem Inv.call {g':Array GenState} {t':Nat} {d':Drawn} {ch:List Addr} (I:Inv X pins σ H s) (u:Un (frs X.stack) ch H H' s.heap h') (hok:HOk X.prog X.w H' h') (hg:AllBare g')
  (hch:∀ b∈ch,(b∈X.ex \/ X.s₀.heap.objs.size<=b)/\b≠X.env.locals/\(∀ x c,X.env.cells.lookup x=some c->c≠b)/\∀ p∈X.pn++pins,p.1≠b) :
  Inv X pins σ H' { s with heap:=h',gens:=g',drawn:=d',toks:=t' }:=by
 obtain⟨m,⟨o,es,ep,ho,r⟩,_⟩:=id I.loc
 obtain⟨sl,hL⟩:=u.any ho I.free fun z=>(hch _ z).2.1 rfl
 exact I.step (ch:=ch) hch (fun b o hL hb hc e n=>u.keep b o e n (fun z=>(akB.mp (I.stkSub b z)).elim hL hb) hc) (fun b o _ _ hc e n=>u.any e n hc) (fun b o hc e n=>u.free b o e n hc) (fun b o hc e=>u.there b o e hc) u.tups u.frzs u.tbls (fun m' hm=>by
  obtain⟨o',es',ep',ho',r'⟩:=hm
  rw [ho] at ho';cases ho'
  exact⟨_,es',ep',hL,r'⟩) hok hg
theorem Inv.turned {t':Nat} {it:Addr} (I:Inv X pins σ H s) (k:∀ b o,b≠it->s.heap.get? b=some o->h'.get? b=some o) (hn:H it=none) (hL:it≠X.env.locals)
  (h1:it∈X.ex \/ X.s₀.heap.objs.size<=it) (h2:∀ x c,X.env.cells.lookup x=some c->c≠it) (h3:∀ p∈X.pn++pins,p.1≠it):Inv X pins σ H { s with heap:=h',toks:=t' }:=by
 have nit:∀ b u,H b=some u->b≠it:=fun b u e z=>by rw [z,hn] at e;cases e
 refine I.step (g':=s.gens) (d':=s.drawn) (ch:=[it]) (fun b hb=>?_) (fun b o _ _ hc e _=>k b o (fun z=>hc (by simp [z])) e) (fun b o _ _ hc e _=>⟨o.slots,k b o (fun z=>hc (by simp [z])) e⟩) (fun _ _ _ _ n=>n)
  (fun b o hc e=>⟨o,k b o (fun z=>hc (by simp [z])) e⟩) (fun _ _ e=>e) (fun _ _ _ e=>e) (fun b ps e=>⟨#[],by rw [e];simp⟩) (fun m hm=>?_) (fun b u e=>?_) I.bare
 ·have e:b=it:=by simpa using hb
  subst e
  exact⟨h1,hL,h2,h3⟩
 ·obtain⟨o,es,ep,ho,r⟩:=hm
  exact⟨o,es,ep,k _ o (alo hL) ho,r⟩
 ·refine (I.hok b u e).stay (fun c v hc q=>k c v ?_ q) (fun _ q=>q) fun _ _ q=>q
  rcases hc with z | z
  ·rw [z];exact nit b u e
  ·exact nit c _ z
theorem Inv.tok (I:Inv X pins σ H s) (t:Nat):Inv X pins σ H { s with toks:=t }:=I.un (h':=s.heap) (t':=t) Un.refl I.hok
theorem Inv.kept {t':Nat} (I:Inv X pins σ H s) (k:∀ b u,s.heap.get? b=some u->h'.get? b=some u):Inv X pins σ H { s with heap:=h',toks:=t' }:=I.un (Un.kept k) (I.hok.kept k)
theorem Inv.laid {a:Addr} {o:HO} {t':Nat} (I:Inv X pins σ H s) (k:∀ b u,s.heap.get? b=some u->h'.get? b=some u) (hp:s.heap.objs.size<=a) (new:ObjOk X.prog X.w (upd H a o) h' a o) :
  Inv X pins σ (upd H a o) { s with heap:=h',toks:=t' }:=I.un (Un.laid k hp (I.hok.fresh hp)) (I.hok.laid k hp new)
theorem Inv.write {x e:Addr} {o:HO} {t':Nat} (I:Inv X pins σ H s) (mu:Mut (H x)) (he:e=x \/ H e=some (.own x)) (k:∀ b u,b≠e->s.heap.get? b=some u->h'.get? b=some u) (heo:∃ u,h'.get? e=some u)
  (new:ObjOk X.prog X.w (upd H x o) h' x o):Inv X pins σ (upd H x o) { s with heap:=h',toks:=t' }:=I.un (Un.write mu he k heo) (I.hok.write mu he k heo new)
theorem Inv.pins_of {pins':List (Addr×Obj)} (I:Inv X pins σ H s) (h:∀ p∈pins',s.heap.get? p.1=some p.2/\H p.1=none/\p.1≠X.env.locals/\p.1∉X.fs/\∀ v,p.2.data≠.cell v):Inv X pins' σ H s :=
 ⟨I.ok,I.os,I.bare,I.base,I.loc,I.cell,I.free,I.freeC,fun p hp=>(akF.mp hp).elim (fun z=>I.pin p (amu _ z)) (h p),I.hok,I.len⟩
theorem aay {N:List Str} (hN:N.Nodup) {i j:Nat} {x:Str} (a:N[i]?=some x) (b:N[j]?=some x):i=j:=by
 obtain⟨h1,e1⟩:=aks.mp a
 obtain⟨h2,e2⟩:=aks.mp b
 exact (List.getElem_inj hN).mp (e1.trans e2.symm)
theorem abm {M:Model} {A:Around} {E:Value->Shared->Prop} {i:Nat} {x:Str} {v:V} {u:Value} {Q:Unit->Shared->Prop} (I:Inv X pins σ H s) (hN:X.N.Nodup) (hi:X.N[i]?=some x) (hx:Loc X.env.scope x) (r:RelV v u)
  (h:∀ s',Inv X pins (σ.set i (some v)) H s'->(∃ a,amA a s.heap s'.heap/\(a=X.env.locals \/ X.env.cells.lookup x=some a))->Q () s') (hf:X.fn x=true \/ X.env.scope.names.lookup x=some .local:=by first | exact .inl rfl | exact .inr rfl | assumption):wpAny M A (storeName X.env x u) Q E s:=by
 obtain⟨m,hn,hl⟩:=id I.loc
 have hcls:(X.env.scope.kind == .class || (X.env.scope.kind == .module && X.env.locals != X.env.globals))=false:=by rw [I.ok.kind];rfl
 have hiσ:i<σ.length:=by rw [I.len];exact (aks.mp hi).1
 have cne:=I.cne
 have tracked:∀ {a:Addr} {h':Heap},(∃ o,s.heap.get? a=some o/\H a=none)->amA a s.heap h'->HOk X.prog X.w H h':=fun {a h'} ha hs b ob e=>by
  obtain⟨_,_,hfree⟩:=ha
  refine (I.hok b ob e).stay (fun c w' hc q=>(hs.2 c ?_).trans q) (fun _ q=>q) fun _ _ q=>q
  rintro rfl
  rcases hc with rfl | hc
  ·rw [hfree] at e;cases e
  ·rw [hfree] at hc;cases hc
 rcases hx with hk | hk
 ·refine wpAny_storeName_local hk hn (fun h' hn' hs=>?_) hcls
  obtain⟨oL,_,_,hoL,_⟩:=id hn
  refine h _ ⟨I.ok,I.os,I.bare,⟨fun b o e n hb hx=>?_,fun b o e n hb hx=>?_,I.base.free,fun b o e hx=>?_,I.base.tups,I.base.frzs,I.base.tbls⟩,⟨_,hn',fun j y v' e1 e2 e3=>?_⟩,fun y c e=>?_,I.free,I.freeC,fun p hp=>?_,tracked ⟨oL,hoL,I.free⟩ hs,by simpa using I.len⟩ ⟨_,hs,.inl rfl⟩
  ·exact (hs.2 b (akN (akG (akw e) I.ok.above))).trans (I.base.keep b o e n hb hx)
  ·obtain⟨sl,e1⟩:=I.base.slot b o e n hb hx
   exact⟨sl,(hs.2 b (akN (akG (akw e) I.ok.above))).trans e1⟩
  ·obtain⟨o',e1⟩:=I.base.there b o e hx
   exact⟨o',(hs.2 b (akN (akG (akw e) I.ok.above))).trans e1⟩
  ·by_cases hj:j=i
   ·subst hj
    rw [hi] at e1;cases e1
    rw [ak4 hiσ] at e2
    cases e2
    exact⟨u,r,.inl ⟨hk,by simp⟩⟩
   ·rw [ak5 (alo hj)] at e2
    obtain⟨u',r',q⟩:=hl j y v' e1 e2 e3
    refine⟨u',r',?_⟩
    rcases q with⟨k,e⟩ | ⟨k,c,e,z⟩
    ·refine .inl ⟨k,?_⟩
     have:y≠x:=fun e=>hj (aay hN e1 (e▸hi))
     simp [this,e]
    ·exact .inr ⟨k,c,e,z.sameBut hs (cne y c e)⟩
  ·obtain⟨w',z⟩:=I.cell y c e
   exact⟨w',z.sameBut hs (cne y c e)⟩
  ·obtain⟨e,n,ne,nf,d⟩:=I.pin p hp
   exact⟨(hs.2 p.1 ne).trans e,n,ne,nf,d⟩
 ·have hfn:X.fn x=true:=by
   rcases hf with z | z
   ·exact z
   ·rw [z] at hk;cases hk
  obtain⟨c,hc⟩:=I.ok.has x (.inl hk)
  obtain⟨w',z⟩:=I.cell x c hc
  refine wpAny_storeName_cell I.ok.kind hk hc z (fun h' hc' hs=>?_)
  obtain⟨oc,hoc,hocd⟩:=id z
  refine h { s with heap:=h' } ⟨I.ok,I.os,I.bare,⟨fun b o e n hb hx=>?_,fun b o e n hb hx=>?_,I.base.free,fun b o e hx=>?_,I.base.tups,I.base.frzs,I.base.tbls⟩,⟨m,hn.sameBut hs (alo (cne x c hc)),fun j y v' e1 e2 e3=>?_⟩,fun y c' e=>?_,I.free,I.freeC,fun p hp=>?_,tracked ⟨oc,hoc,I.freeC x c hc⟩ hs,by simpa using I.len⟩ ⟨c,hs,.inr hc⟩
  ·exact (hs.2 b (akN (akG (akw e) (I.ok.cab x c hfn hc)))).trans (I.base.keep b o e n hb hx)
  ·obtain⟨sl,e1⟩:=I.base.slot b o e n hb hx
   exact⟨sl,(hs.2 b (akN (akG (akw e) (I.ok.cab x c hfn hc)))).trans e1⟩
  ·obtain⟨o',e1⟩:=I.base.there b o e hx
   exact⟨o',(hs.2 b (akN (akG (akw e) (I.ok.cab x c hfn hc)))).trans e1⟩
  ·by_cases hj:j=i
   ·subst hj
    rw [hi] at e1;cases e1
    rw [ak4 hiσ] at e2
    cases e2
    exact⟨u,r,.inr ⟨.inl hk,c,hc,hc'⟩⟩
   ·rw [ak5 (alo hj)] at e2
    obtain⟨u',r',q⟩:=hl j y v' e1 e2 e3
    refine⟨u',r',?_⟩
    rcases q with q | ⟨k,c',e,z'⟩
    ·exact .inl q
    ·refine .inr ⟨k,c',e,z'.sameBut hs ?_⟩
     rintro rfl
     exact hj (aay hN e1 (I.ok.inj _ _ _ e hc▸hi))
  ·by_cases hcc:c'=c
   ·subst hcc;exact⟨_,hc'⟩
   ·obtain⟨w2,z2⟩:=I.cell y c' e
    exact⟨w2,z2.sameBut hs hcc⟩
  ·obtain⟨e,n,ne,nf,d⟩:=I.pin p hp
   refine⟨(hs.2 p.1 ?_).trans e,n,ne,nf,d⟩
   intro q
   rw [q,hoc] at e
   have q':oc=p.2:=Option.some.inj e
   exact d w' (by rw [<-q'];exact hocd)
theorem jT {M:Model} {A:Around} {E:Value->Shared->Prop} {i:Nat} {x:Str} {v:V} {u:Value} {Q:Unit->Shared->Prop} (I:Inv X pins σ H s) (hN:X.N.Nodup) (hi:X.N[i]?=some x) (hx:Loc X.env.scope x) (r:RelV v u)
  (h:∀ s',Inv X pins (σ.set i (some v)) H s'->Q () s') (hf:X.fn x=true \/ X.env.scope.names.lookup x=some .local:=by first | exact .inl rfl | exact .inr rfl | assumption):wpAny M A (storeName X.env x u) Q E s :=
 abm I hN hi hx r (fun s' I' _=>h s' I') hf
theorem Inv.call' {s':Shared} {ch:List Addr} (I:Inv X pins σ H s) (ho:s'.os=s.os) (u:Un (frs X.stack) ch H H' s.heap s'.heap) (hok:HOk X.prog X.w H' s'.heap) (hg:AllBare s'.gens)
  (hch:∀ b∈ch,(b∈X.ex \/ X.s₀.heap.objs.size<=b)/\b≠X.env.locals/\(∀ x c,X.env.cells.lookup x=some c->c≠b)/\∀ p∈X.pn++pins,p.1≠b):Inv X pins σ H' s':=by
 obtain⟨h',g',d',t',o'⟩:=s'
 have e:o'=s.os:=ho
 subst e
 exact I.call (g':=g') (t':=t') (d':=d') u hok hg hch
end
noncomputable abbrev XK:=Value->Option Addr->Hp->Prop
noncomputable abbrev St:=List (Option V)
noncomputable abbrev VK:=V->Hp->Prop
noncomputable abbrev TE:=St->Hp->VK->Prop
noncomputable abbrev TT:=St->Hp->(Bool->Hp->Prop)->Prop
noncomputable abbrev TA:=St->Hp->(List V->Hp->Prop)->Prop
structure Ends where
 nx:St->Hp->Prop
 rt:VK
 bk:St->Hp->Prop:=fun _ _=>False
 ct:St->Hp->Prop:=fun _ _=>False
noncomputable abbrev TS:=Ends->St->Hp->Prop
noncomputable def EP (X:Cx) (pins:List (Addr×Obj)) (σ:St) (Q:VK) (u:Value) (s':Shared):Prop:=∃ v H',Inv X pins σ H' s'/\RelV v u/\Q v H'
noncomputable def TP (X:Cx) (pins:List (Addr×Obj)) (σ:St) (Q:Bool->Hp->Prop) (b:Bool) (s':Shared):Prop:=∃ H',Inv X pins σ H' s'/\Q b H'
noncomputable def AP (X:Cx) (pins:List (Addr×Obj)) (σ:St) (Q:List V->Hp->Prop) (us:List Value) (s':Shared):Prop:=∃ vs H',Inv X pins σ H' s'/\Vals vs us/\Q vs H'
noncomputable def SP (X:Cx) (pins:List (Addr×Obj)) (D:Ends) (f:Flow) (s':Shared):Prop :=
 match f with
 | .next=>∃ σ' H',Inv X pins σ' H' s'/\D.nx σ' H'
 | .brk=>∃ σ' H',Inv X pins σ' H' s'/\D.bk σ' H'
 | .cont=>∃ σ' H',Inv X pins σ' H' s'/\D.ct σ' H'
 | .ret u=>∃ v σ' H',Inv X pins σ' H' s'/\RelV v u/\D.rt v H'
noncomputable def PE (X:Cx) (e:Expr) (t:TE):Prop :=
 ∀ (pins:List (Addr×Obj)) (s:Shared) (σ:St) (H:Hp) (Q:VK),Inv X pins σ H s->t σ H Q->wpAny (model X.prog X.w) X.A (eval e X.env) (EP X pins σ Q) X.xe s
noncomputable def PT (X:Cx) (e:Expr) (t:TT):Prop :=
 ∀ (pins:List (Addr×Obj)) (s:Shared) (σ:St) (H:Hp) (Q:Bool->Hp->Prop),Inv X pins σ H s->t σ H Q->wpAny (model X.prog X.w) X.A (isTrue e X.env (eval e X.env)) (TP X pins σ Q) X.xe s
noncomputable def PW (X:Cx) (e:Expr) (t:TT):Prop :=
 ∀ (whole:Sem Value) (pins:List (Addr×Obj)) (s:Shared) (σ:St) (H:Hp) (Q:Bool->Hp->Prop),Inv X pins σ H s->t σ H Q->wpAny (model X.prog X.w) X.A (isTrue e X.env whole) (TP X pins σ Q) X.xe s
theorem PW.pt {X:Cx} {e:Expr} {t:TT} (h:PW X e t):PT X e t:=h _
noncomputable def PA (X:Cx) (es:List Expr) (t:TA):Prop :=
 ∀ (pos:Pos) (pins:List (Addr×Obj)) (s:Shared) (σ:St) (H:Hp) (Q:List V->Hp->Prop),Inv X pins σ H s->t σ H Q->wpAny (model X.prog X.w) X.A (spliced (backTo pos (starEach es X.env))) (AP X pins σ Q) X.xe s
noncomputable def PS (X:Cx) (st:Stmt) (t:TS):Prop :=
 ∀ (pins:List (Addr×Obj)) (s:Shared) (σ:St) (H:Hp) (D:Ends),Inv X pins σ H s->t D σ H->wpAny (model X.prog X.w) X.A (exec st X.env) (SP X pins D) X.xe s
noncomputable def PSs (X:Cx) (st:List Stmt) (t:TS):Prop :=
 ∀ (pins:List (Addr×Obj)) (s:Shared) (σ:St) (H:Hp) (D:Ends),Inv X pins σ H s->t D σ H->wpAny (model X.prog X.w) X.A (execs st X.env) (SP X pins D) X.xe s
theorem thn {α:Type} {t:Sem α} {Q Q':α->Shared->Prop} {M:Model} {A:Around} {E:Value->Shared->Prop} {s:Shared} (h:wpAny M A t Q E s) (hQ:∀ a s,Q a s->Q' a s):wpAny M A t Q' E s:=wpAny_mono h hQ fun _ _ x=>x
section
variable {X:Cx}
noncomputable def zO (i:Nat):TE:=fun σ H Q=>∃ v,σ[i]?=some (some v)/\Q v H
noncomputable def tC (v:V):TE:=fun _ H Q=>Q v H
theorem aiD {i:Nat} {x:Str} {pos:Pos} (hN:X.N[i]?=some x) (hv:Vis X.env.scope x) (hd:(x == ("__debug__":Str))=false:=by decide) (hcd:(x == ("__classdict__":Str))=false:=by decide):PE X (.Name x pos) (zO i):=by
 intro pins s σ H Q I h
 obtain⟨v,e,h⟩:=h
 obtain⟨m,hn,hl⟩:=I.loc
 obtain⟨u,r,l⟩:=hl i x v hN e hv
 have fin:EP X pins σ Q u s:=⟨v,H,I,r,h⟩
 rcases l with⟨hk,hm⟩ | ⟨hk,c,hc,hcell⟩
 ·exact wpAny_Name (wpAny_loadName_local I.ok.kind hk hn hm fin) hd
 ·rcases hk with hk | hk
  ·exact wpAny_Name (wpAny_loadName_cell I.ok.kind hk hc hcell fin) hd
  ·exact wpAny_Name (wpAny_loadName_free I.ok.kind hk hc hcell fin hcd) hd
theorem zb {i j pos}:PE X (.Constant (.int i) j pos) (tC (.int i)):=fun _ _ _ H _ I h=>wpAny_Constant_int ⟨.int i,H,I.tok _,⟨_,rfl⟩,h⟩
theorem qE {b j pos}:PE X (.Constant (.bool b) j pos) (tC (.bl b)):=fun _ _ _ H _ I h=>Constant_bool ⟨.bl b,H,I,rfl,h⟩
theorem aaz {j pos}:PE X (.Constant .none j pos) (tC .non):=fun _ _ _ H _ I h=>Constant_none ⟨.non,H,I,rfl,h⟩
theorem yJ {x j pos}:PE X (.Constant (.str x) j pos) (tC (.str x)):=fun _ _ _ H _ I h=>Calls.Constant_str ⟨.str x,H,I.tok _,⟨_,rfl⟩,h⟩
noncomputable def Gl (X:Cx) (x:Str):Prop:=X.env.kindOf x=some .globalImplicit
theorem j6 {E:Value->Shared->Prop} {pins:List (Addr×Obj)} {s:Shared} {σ:St} {H:Hp} {x:Str} {u:Value} {pos:Pos} {Q:Value->Shared->Prop} (I:Inv X pins σ H s) (hg:Gl X x) (hm:X.mg x=some u) (h:Q u s)
  (hd:(x == ("__debug__":Str))=false:=by decide):wpAny (model X.prog X.w) X.A (eval (.Name x pos) X.env) Q E s :=
 amH I.ok.kind hg (Calls.loadGlobal_global (by rw [I.ok.glob];exact I.mod.glob.keeps I.bk) hm h) hd
theorem jx {E:Value->Shared->Prop} {pins:List (Addr×Obj)} {s:Shared} {σ:St} {H:Hp} {x:Str} {u:Value} {pos:Pos} {Q:Value->Shared->Prop} (I:Inv X pins σ H s) (hg:Gl X x) (hm:X.mg x=none) (hv:bootBuiltins x=some u) (h:Q u s)
  (hn:x ≠ "__name__":=by decide) (hd:(x == ("__debug__":Str))=false:=by decide):wpAny (model X.prog X.w) X.A (eval (.Name x pos) X.env) Q E s:=by
 obtain⟨mb,h1,h2⟩:=I.mod.blt
 exact amH I.ok.kind hg (Calls.loadGlobal_builtin (by rw [I.ok.glob];exact I.mod.glob.keeps I.bk) hm (by rw [I.ok.blt];exact h1.keeps I.bk) ((h2 x hn).trans hv) h) hd
theorem y9 {x:Str} {v:V} {u:Value} {pos:Pos} (hg:Gl X x) (hm:X.mg x=some u) (r:RelV v u) (hd:(x == ("__debug__":Str))=false:=by decide):PE X (.Name x pos) (tC v) :=
 fun _ _ _ H _ I h=>j6 I hg hm ⟨v,H,I,r,h⟩ hd
theorem ahg {x:Str} {v:V} {u:Value} {pos:Pos} (hg:Gl X x) (hm:X.mg x=none) (hv:bootBuiltins x=some u) (r:RelV v u) (hn:x ≠ "__name__":=by decide) (hd:(x == ("__debug__":Str))=false:=by decide):PE X (.Name x pos) (tC v) :=
 fun _ _ _ H _ I h=>jx I hg hm hv ⟨v,H,I,r,h⟩ hn hd
variable {a b:Expr} {ta tb:TE} {pos:Pos}
variable {tA tB':TT} {rest:List Expr}
noncomputable def afE (t u:TT):TT:=fun σ H Q=>t σ H fun c H1=>if c=true then u σ H1 Q else Q false H1
noncomputable def tOr (t u:TT):TT:=fun σ H Q=>t σ H fun c H1=>if c=true then Q true H1 else u σ H1 Q
noncomputable def ajD (t:TT):TT:=fun σ H Q=>t σ H fun c H1=>Q (!c) H1
theorem qR (ha:PT X a tA):PW X (.BoolOp .And [a] pos) tA:=by
 intro wh pins s σ H Q I h
 refine isTrue_and (thn (ha pins s σ H Q I h) fun c s1 e=>?_)
 cases c with
 | true=>exact isTrue_and_nil e
 | false=>exact e
theorem abJ (ha:PT X a tA):PW X (.BoolOp .Or [a] pos) tA:=by
 intro wh pins s σ H Q I h
 refine isTrue_or (thn (ha pins s σ H Q I h) fun c s1 e=>?_)
 cases c with
 | false=>exact isTrue_or_nil e
 | true=>exact e
theorem qF (ha:PT X a tA) (hb:PW X (.BoolOp .And (b :: rest) pos) tB'):PW X (.BoolOp .And (a :: b :: rest) pos) (afE tA tB'):=by
 intro wh pins s σ H Q I h
 refine isTrue_and (thn (ha pins s σ H _ I h) fun c s1 ⟨H1,I1,q1⟩=>?_)
 cases c with
 | true=>exact hb wh pins s1 σ H1 Q I1 q1
 | false=>exact⟨H1,I1,q1⟩
theorem acp (ha:PT X a tA) (hb:PW X (.BoolOp .Or (b :: rest) pos) tB'):PW X (.BoolOp .Or (a :: b :: rest) pos) (tOr tA tB'):=by
 intro wh pins s σ H Q I h
 refine isTrue_or (thn (ha pins s σ H _ I h) fun c s1 ⟨H1,I1,q1⟩=>?_)
 cases c with
 | true=>exact⟨H1,I1,q1⟩
 | false=>exact hb wh pins s1 σ H1 Q I1 q1
theorem afF (ha:PT X a tA):PT X (.UnaryOp .Not a pos) (ajD tA):=by
 intro pins s σ H Q I h
 exact isTrue_not (ha pins s σ H (fun c H1=>Q (!c) H1) I h)
noncomputable def afG (ta tb:TE):TE:=fun σ H Q=>ta σ H fun x H1=>∃ c,x=.bl c/\if c=true then tb σ H1 Q else Q (.bl false) H1
noncomputable def ajE (ta tb:TE):TE:=fun σ H Q=>ta σ H fun x H1=>∃ c,x=.bl c/\if c=true then Q (.bl true) H1 else tb σ H1 Q
noncomputable def aia (ta:TE):TE:=fun σ H Q=>ta σ H fun x H1=>∃ c,x=.bl c/\Q (.bl (!c)) H1
theorem aaA {op} {t:TE} (h:PE X a t):PE X (.BoolOp op [a] pos) t:=fun pins s σ H Q I hw=>BoolOp_one (h pins s σ H Q I hw)
theorem vQ (ha:PE X a ta) (hb:PE X (.BoolOp .And (b :: rest) pos) tb):PE X (.BoolOp .And (a :: b :: rest) pos) (afG ta tb):=by
 intro pins s σ H Q I h
 refine BoolOp_and (thn (ha pins s σ H _ I h) fun v s1 ⟨x,H1,I1,r1,q1⟩=>?_)
 obtain⟨c,rfl,q1⟩:=q1
 cases r1
 refine wpAny_truthy_bool ?_
 cases c with
 | true=>exact hb pins s1 σ H1 Q I1 q1
 | false=>exact⟨.bl false,H1,I1,rfl,q1⟩
theorem ajF (ha:PE X a ta) (hb:PE X (.BoolOp .Or (b :: rest) pos) tb):PE X (.BoolOp .Or (a :: b :: rest) pos) (ajE ta tb):=by
 intro pins s σ H Q I h
 refine BoolOp_or (thn (ha pins s σ H _ I h) fun v s1 ⟨x,H1,I1,r1,q1⟩=>?_)
 obtain⟨c,rfl,q1⟩:=q1
 cases r1
 refine wpAny_truthy_bool ?_
 cases c with
 | false=>exact hb pins s1 σ H1 Q I1 q1
 | true=>exact⟨.bl true,H1,I1,rfl,q1⟩
theorem afH (ha:PE X a ta):PE X (.UnaryOp .Not a pos) (aia ta):=by
 intro pins s σ H Q I h
 refine UnaryOp_ (thn (ha pins s σ H _ I h) fun v s1 ⟨x,H1,I1,r1,q1⟩=>?_)
 obtain⟨c,rfl,q1⟩:=q1
 cases r1
 exact not_of (wpAny_truthy_bool ⟨.bl (!c),H1,I1,rfl,q1⟩)
noncomputable def tIf (t:TT) (ta tb:TE):TE:=fun σ H Q=>t σ H fun c H1=>if c=true then ta σ H1 Q else tb σ H1 Q
theorem afI {c:Expr} (hc:PT X c tA) (ha:PE X a ta) (hb:PE X b tb):PE X (.IfExp c a b pos) (tIf tA ta tb):=by
 intro pins s σ H Q I h
 refine wpAny_IfExp (thn (hc pins s σ H _ I h) fun d s1 ⟨H1,I1,q1⟩=>?_)
 cases d with
 | true=>exact ha pins s1 σ H1 Q I1 q1
 | false=>exact hb pins s1 σ H1 Q I1 q1
end
noncomputable def SqL (K:akq) (H:Hp) (a:Addr) (xs:List V):Prop :=
 Rd H a (.lst xs) \/
  ∃ (o:Obj) (its:Array Value) (n:Nat),K.lookup a=some o/\o.cls=.type "list"/\o.dict=none/\o.data=.seq its n/\its.size<=sizeLine/\Vals xs its.toList
noncomputable def SqT (K:akq) (H:Hp) (a:Addr) (xs:List V):Prop :=
 Rd H a (.tup xs) \/
  ∃ (o:Obj) (its:Array Value) (n:Nat),K.lookup a=some o/\o.cls=.type "tuple"/\o.data=.seq its n/\its.size<=sizeLine/\Vals xs its.toList
noncomputable def aka:Value->Option V
 | .none=>some .non
 | .bool b=>some (.bl b)
 | .int i _=>some (.int i)
 | .str x _=>some (.str x)
 | .bytes b _=>some (.byt b)
 | .float b _=>some (.flt b)
 | .ref a=>some (.ref a)
 | .type n=>some (.ty n)
 | _=>none
theorem RelV.abs {x:V} {u:Value} (r:RelV x u):aka u=some x:=by
 cases x with
 | non=>cases r;rfl
 | bl _=>cases r;rfl
 | int _=>obtain⟨t,rfl⟩:=r;rfl
 | str _=>obtain⟨t,rfl⟩:=r;rfl
 | byt _=>obtain⟨t,rfl⟩:=r;rfl
 | flt _=>obtain⟨t,rfl⟩:=r;rfl
 | ref _=>cases r;rfl
 | ty _=>cases r;rfl
theorem RelV.inj {x y:V} {u:Value} (r:RelV x u) (q:RelV y u):x=y:=Option.some.inj (r.abs.symm.trans q.abs)
theorem Vals.inj:∀ {xs ys:List V} {us:List Value},Vals xs us->Vals ys us->xs=ys
 | _,_,_,.nil,.nil=>rfl
 | _,_,_,.cons r t,.cons r' t'=>by rw [r.inj r',Vals.inj t t']
section
variable {X:Cx} {pins:List (Addr×Obj)} {σ:St} {H:Hp} {s:Shared} {a:Addr} {xs ys:List V}
theorem SqL.of {K:akq} (h:H a=some (.lst xs)):SqL K H a xs:=.inl (.inl h)
theorem SqT.of {K:akq} (h:H a=some (.tup xs)):SqT K H a xs:=.inl (.inl h)
theorem Inv.list (I:Inv X pins σ H s) (h:SqL X.K H a xs):∃ its:List Value,Vals xs its/\PlainL s.heap a its.toArray/\xs.length<=sizeLine:=by
 rcases h with h | ⟨o,its,n,hk,hc,hd,hs,hz,r⟩
 ·obtain⟨z,its,n,r,e⟩:=h.ok I.hok
  exact⟨its,r,⟨_,n,e,rfl,rfl,rfl⟩,z⟩
 ·refine⟨its.toList,r,⟨o,n,I.kIn a o hk,hc,hd,by simpa using hs⟩,?_⟩
  have e:=r.length
  simp only [alb] at e
  omega
theorem Inv.tuple (I:Inv X pins σ H s) (h:SqT X.K H a xs):∃ its:List Value,Vals xs its/\IsTup s.heap a its.toArray/\xs.length<=sizeLine:=by
 rcases h with h | ⟨o,its,n,hk,hc,hs,hz,r⟩
 ·obtain⟨z,its,r,p⟩:=h.ok I.hok
  exact⟨its,r,p,z⟩
 ·refine⟨its.toList,r,⟨o,I.kIn a o hk,hc,n,by simpa using hs⟩,?_⟩
  have e:=r.length
  simp only [alb] at e
  omega
theorem Inv.list_inj (I:Inv X pins σ H s) (h:SqL X.K H a xs) (h':SqL X.K H a ys):xs=ys:=by
 obtain⟨its,r,⟨o,n,e,_,_,d⟩,_⟩:=I.list h
 obtain⟨its',r',⟨o',n',e',_,_,d'⟩,_⟩:=I.list h'
 rw [e] at e';cases e'
 rw [d] at d'
 injection d' with d1 _
 have:its=its':=by simpa using congrArg Array.toList d1
 subst this
 exact r.inj r'
theorem Inv.tuple_inj (I:Inv X pins σ H s) (h:SqT X.K H a xs) (h':SqT X.K H a ys):xs=ys:=by
 obtain⟨its,r,⟨o,e,_,n,d⟩,_⟩:=I.tuple h
 obtain⟨its',r',⟨o',e',_,n',d'⟩,_⟩:=I.tuple h'
 rw [e] at e';cases e'
 rw [d] at d'
 injection d' with d1 _
 have:its=its':=by simpa using congrArg Array.toList d1
 subst this
 exact r.inj r'
end
noncomputable abbrev Cx.wish (X:Cx) (E:Value->Shared->Prop):Cx:={ X with xe:=E }
noncomputable abbrev Cx.nox (X:Cx):Cx:=X.wish fun _ _=>False
theorem Cx.Ok.wish {X:Cx} (ok:X.Ok) (E:Value->Shared->Prop):(X.wish E).Ok :=
 ⟨ok.mod,ok.kind,ok.glob,ok.blt,ok.above,ok.inj,ok.has,ok.cab,ok.hd,ok.frames,ok.stk,ok.exf,ok.bs,ok.bsz,ok.noex,ok.exfs,ok.funs,ok.frf⟩
theorem Cx.Ok.unwish {X:Cx} {E:Value->Shared->Prop} (ok:(X.wish E).Ok):X.Ok :=
 ⟨ok.mod,ok.kind,ok.glob,ok.blt,ok.above,ok.inj,ok.has,ok.cab,ok.hd,ok.frames,ok.stk,ok.exf,ok.bs,ok.bsz,ok.noex,ok.exfs,ok.funs,ok.frf⟩
section
variable {X:Cx} {pins:List (Addr×Obj)} {σ:St} {H:Hp} {s:Shared} {E:Value->Shared->Prop}
theorem Inv.wish (I:Inv X pins σ H s) (E:Value->Shared->Prop):Inv (X.wish E) pins σ H s:=⟨I.ok.wish E,I.os,I.bare,I.base,I.loc,I.cell,I.free,I.freeC,I.pin,I.hok,I.len⟩
theorem Inv.unwish (I:Inv (X.wish E) pins σ H s):Inv X pins σ H s:=⟨I.ok.unwish,I.os,I.bare,I.base,I.loc,I.cell,I.free,I.freeC,I.pin,I.hok,I.len⟩
theorem SP.unwish {D:Ends} {f:Flow} {s':Shared} (h:SP (X.wish E) pins D f s'):SP X pins D f s':=by
 cases f with
 | next=>obtain⟨σ',H',I,q⟩:=h;exact⟨σ',H',I.unwish,q⟩
 | brk=>obtain⟨σ',H',I,q⟩:=h;exact⟨σ',H',I.unwish,q⟩
 | cont=>obtain⟨σ',H',I,q⟩:=h;exact⟨σ',H',I.unwish,q⟩
 | ret u=>obtain⟨v,σ',H',I,r,q⟩:=h;exact⟨v,σ',H',I.unwish,r,q⟩
theorem PSs.nox {st:List Stmt} {t:TS} (h:PSs X.nox st t):PSs X st t:=fun pins s σ H D I hw =>
 wpAny_mono (h pins s σ H D (I.wish _) hw) (fun _ _ q=>q.unwish) fun _ _ z=>ak2 z
end
section
variable {X:Cx} {st:Stmt} {rest:List Stmt} {t u:TS} {e:Expr} {te:TE} {pos:Pos}
noncomputable def aab:TS:=fun D σ H=>D.nx σ H
noncomputable def qD (t u:TS):TS:=fun D σ H=>t { D with nx:=u D } σ H
theorem zF:PSs X [] aab:=fun _ _ σ H _ I h=>wpAny_execs_nil ⟨σ,H,I,h⟩
theorem zd (h1:PS X st t) (h2:PSs X rest u):PSs X (st :: rest) (qD t u):=by
 intro pins s σ H D I h
 refine wpAny_execs_cons (thn (h1 pins s σ H { D with nx:=u D } I h) fun f s1 q=>?_)
 cases f with
 | next =>
  obtain⟨σ',H',I',q⟩:=q
  exact h2 pins s1 σ' H' D I' q
 | ret v=>exact q
 | brk=>exact q
 | cont=>exact q
theorem zh (h1:PS X st t):PSs X [st] t:=by
 intro pins s σ H D I h
 refine wpAny_execs_cons (thn (h1 pins s σ H D I h) fun f s1 q=>?_)
 cases f with
 | next=>exact wpAny_execs_nil q
 | ret v=>exact q
 | brk=>exact q
 | cont=>exact q
theorem ahh:PS X (.Pass pos) aab:=fun _ _ σ H _ I h=>wpAny_Pass ⟨σ,H,I,h⟩
theorem Inv.quiet {pins:List (Addr×Obj)} {σ:St} {H:Hp} {s:Shared} (I:Inv X pins σ H s):interactive X.env=false:=by simp [interactive,I.ok.kind]
noncomputable def afJ (te:TE):TS:=fun D σ H=>te σ H fun _ H1=>D.nx σ H1
theorem qS (he:PE X e te) (hs:swapsWith e none pos.line X.env=pure false:=by rfl):PS X (.Expr e pos) (afJ te):=by
 intro pins s σ H D I h
 exact wpAny_Expr_any (thn (he pins s σ H _ I h) fun v s1 ⟨x,H1,I1,r1,q1⟩=>⟨σ,H1,I1,q1⟩) I.quiet hs
noncomputable def aa6 (te:TE):TS:=fun D σ H=>te σ H D.rt
theorem zw (he:PE X e te):PS X (.Return (some e) pos) (aa6 te):=by
 intro pins s σ H D I h
 exact wpAny_Return_some (thn (he pins s σ H _ I h) fun v s1 ⟨x,H1,I1,r1,q1⟩=>⟨x,σ,H1,I1,r1,q1⟩)
noncomputable def abK (c:TT) (t u:TS):TS:=fun D σ H=>c σ H fun b H1=>if b=true then t D σ H1 else u D σ H1
theorem zX {c:Expr} {a b:List Stmt} {tc:TT} (hc:PT X c tc) (ha:PSs X a t) (hb:PSs X b u):PS X (.If c a b pos) (abK tc t u):=by
 intro pins s σ H D I h
 refine wpAny_If (thn (hc pins s σ H _ I h) fun d s1 ⟨H1,I1,q1⟩=>?_)
 cases d with
 | true=>exact ha pins s1 σ H1 D I1 q1
 | false=>exact hb pins s1 σ H1 D I1 q1
end
noncomputable abbrev TG:=V->St->Hp->(St->Hp->Prop)->Prop
noncomputable abbrev TGs:=List V->St->Hp->(St->Hp->Prop)->Prop
noncomputable def PG (X:Cx) (target:Expr) (t:TG):Prop :=
 ∀ (pins:List (Addr×Obj)) (s:Shared) (σ:St) (H:Hp) (v:V) (u:Value) (Q:St->Hp->Prop),Inv X pins σ H s->RelV v u->t v σ H Q ->
  wpAny (model X.prog X.w) X.A (assign target X.env u) (fun _ s'=>∃ σ' H',Inv X pins σ' H' s'/\Q σ' H') X.xe s
noncomputable def PGs (X:Cx) (ts:List Expr) (t:TGs):Prop :=
 ∀ (pins:List (Addr×Obj)) (s:Shared) (σ:St) (H:Hp) (vs:List V) (us:List Value) (Q:St->Hp->Prop),Inv X pins σ H s->Vals vs us->t vs σ H Q ->
  wpAny (model X.prog X.w) X.A (assignInOrder ((assignEach ts X.env).map (·.2)) us) (fun _ s'=>∃ σ' H',Inv X pins σ' H' s'/\Q σ' H') X.xe s
noncomputable abbrev aiE:=V->V->V->Hp->(Hp->Prop)->Prop
noncomputable def ajG (X:Cx) (t:aiE):Prop :=
 ∀ (pins:List (Addr×Obj)) (s:Shared) (σ:St) (H:Hp) (o i v:V) (ov iv u:Value) (Q:Hp->Prop),Inv X pins σ H s->RelV o ov->RelV i iv->RelV v u->t o i v H Q ->
  wpAny (model X.prog X.w) X.A (setItem ov iv u) (fun _ s'=>∃ H',Inv X pins σ H' s'/\Q H') X.xe s
section
variable {X:Cx} {pos:Pos}
noncomputable def qG (i:Nat):TG:=fun v σ H Q=>Q (σ.set i (some v)) H
theorem zl {i:Nat} {x:Str} (hN:X.N.Nodup) (hi:X.N[i]?=some x) (hx:Loc X.env.scope x) (hf:X.fn x=true \/ X.env.scope.names.lookup x=some .local:=by first | exact .inl rfl | exact .inr rfl | assumption):PG X (.Name x pos) (qG i):=by
 intro pins s σ H v u Q I r h
 exact wpAny_assign_Name (jT I hN hi hx r (fun s' I'=>⟨_,H,I',h⟩) hf)
noncomputable def ajH:TGs:=fun vs σ H Q=>vs=[]/\Q σ H
noncomputable def aib (t:TG) (u:TGs):TGs:=fun vs σ H Q=>∃ v r,vs=v :: r/\t v σ H fun σ' H'=>u r σ' H' Q
theorem zK:PGs X [] ajH:=by
 intro pins s σ H vs us Q I r h
 obtain⟨e,h⟩:=h
 subst e
 cases r
 exact assignInOrder_nil ⟨σ,H,I,h⟩
theorem zk {e:Expr} {es:List Expr} {t:TG} {u:TGs} (h1:PG X e t) (h2:PGs X es u)
  (hs:(assignEach (e :: es) X.env).map (·.2)=assign e X.env :: (assignEach es X.env).map (·.2):=by rfl):PGs X (e :: es) (aib t u):=by
 intro pins s σ H vs us Q I r h
 obtain⟨v,vr,e1,h⟩:=h
 subst e1
 cases r with
 | cons r rr =>
  rw [hs]
  refine assignInOrder_cons (thn (h1 pins s σ H _ _ _ I r h) fun _ s1 ⟨σ1,H1,I1,q1⟩=>?_)
  exact h2 pins s1 σ1 H1 _ _ Q I1 rr q1
noncomputable def aiF (K:akq) (n:Nat) (t:TGs):TG:=fun v σ H Q=>∃ a xs,v=.ref a/\SqT K H a xs/\xs.length=n/\t xs σ H Q
theorem aiG {es:List Expr} {k:Nat} {t:TGs} {n:Nat} (hc:X.calm=true) (h:PGs X es t)
  (hn:(assignEach es X.env).length=n:=by rfl) (hst:(assignEach es X.env).findIdx? (·.1)=none:=by rfl):PG X (.Tuple es k pos) (aiF X.K n t):=by
 intro pins s σ H v u Q I r hw
 obtain⟨a,xs,e1,hq,hl,hw⟩:=hw
 subst e1
 cases r
 obtain⟨its,rv,ht,hz⟩:=I.tuple hq
 refine assign_Tuple_tuple (I.ok.hd hc) ht (by simp [hn,<- hl,rv.length]) hst fun h' hx=>?_
 have I1:Inv X pins σ H { s with heap:=h' }:=I.kept (t':=s.toks) fun b o e=>hx b o (akN (akw e)) e
 exact h pins _ σ H xs _ Q I1 (by simpa using rv) hw
noncomputable def afK (to ti:TE) (t:aiE):TG:=fun v σ H Q=>to σ H fun o H1=>ti σ H1 fun i H2=>t o i v H2 fun H3=>Q σ H3
theorem afL {o i:Expr} {to ti:TE} {t:aiE} (ho:PE X o to) (hi:PE X i ti) (hs:ajG X t)
  (ha:∀ v,assign (.Subscript o i pos) X.env v=(do
   let ov <- holding [v] (eval o X.env)
   let iv <- holding [v,ov] (eval i X.env)
   standAt pos
   holding [v,ov,iv] (setItem ov iv v)
   release [v,ov,iv] []):=by intro _;rfl):PG X (.Subscript o i pos) (afK to ti t):=by
 intro pins s σ H v u Q I r h
 rw [ha]
 refine wpAny_bind (wpAny_holding (thn (ho pins s σ H _ I h) fun ov s1 ⟨x,H1,I1,r1,q1⟩=>?_))
 refine wpAny_bind (wpAny_holding (thn (hi pins s1 σ H1 _ I1 q1) fun iv s2 ⟨y,H2,I2,r2,q2⟩=>?_))
 refine wpAny_bind (wpAny_standAt (wpAny_bind (wpAny_holding (thn (hs pins s2 σ H2 x y v ov iv u _ I2 r1 r2 r q2) fun _ s3 ⟨H3,I3,q3⟩=>?_))))
 exact wpAny_release ⟨σ,H3,I3,q3⟩
noncomputable def vR (te:TE) (g:TG):TS:=fun D σ H=>te σ H fun x H1=>g x σ H1 D.nx
theorem yC {tg e:Expr} {te:TE} {g:TG} (he:PE X e te) (hg:PG X tg g) (hs:swapsWithSole [tg] e pos.line X.env=pure false:=by rfl) (hw:swappedStores [tg] e X.env=pure none:=by rfl)
  (h1:(assignEach [tg] X.env).map (·.2)=[assign tg X.env]:=by rfl):PS X (.Assign [tg] e pos) (vR te g):=by
 intro pins s σ H D I h
 refine wpAny_Assign_stores (thn (he pins s σ H _ I h) fun v s1 ⟨x,H1,I1,r1,q1⟩=>?_) hs hw
 rw [h1]
 exact thn (hg pins s1 σ H1 x v _ I1 r1 q1) fun _ s2 q=>q
theorem zz {i:Nat} {x:Str} {e:Expr} {te:TE} {pos':Pos} (hN:X.N.Nodup) (hi:X.N[i]?=some x) (hx:Loc X.env.scope x) (he:PE X e te) (hs:swapsWith e (some (.Name x pos')) pos.line X.env=pure false:=by rfl) (hf:X.fn x=true \/ X.env.scope.names.lookup x=some .local:=by first | exact .inl rfl | exact .inr rfl | assumption) :
  PS X (.Assign [.Name x pos'] e pos) (vR te (qG i)):=by
 intro pins s σ H D I h
 refine wpAny_Assign_Name (thn (he pins s σ H _ I h) fun v s1 ⟨y,H1,I1,r1,q1⟩=>?_) hs
 exact jT I1 hN hi hx r1 (fun s2 I2=>⟨_,H1,I2,q1⟩) hf
noncomputable def ajI (i j:Nat) (ta:TA):TS:=fun D σ H=>ta σ H fun vs H1=>∃ v w,vs=[v,w]/\D.nx ((σ.set i (some v)).set j (some w)) H1
theorem aiH {i j:Nat} {x y:Str} {a b:Expr} {ta:TA} {px py pt:Pos} {kt k2 pt2} (hc:X.calm=true) (hN:X.N.Nodup) (hi:X.N[i]?=some x) (hj:X.N[j]?=some y) (hij:i≠j)
  (hx:X.env.scope.names.lookup x=some .local) (hy:X.env.scope.names.lookup y=some .local) (ha:PA X [a,b] ta)
  (hw:swappedStores [.Tuple [.Name x px,.Name y py] kt pt] (.Tuple [a,b] k2 pt2) X.env=pure (some [x,y]))
  (hs:swapsWithSole [.Tuple [.Name x px,.Name y py] kt pt] (.Tuple [a,b] k2 pt2) pos.line X.env=pure false:=by rfl) :
  PS X (.Assign [.Tuple [.Name x px,.Name y py] kt pt] (.Tuple [a,b] k2 pt2) pos) (ajI i j ta):=by
 intro pins s σ H D I h
 rw [exec_Assign_arm]
 refine wpAny_bind (wpAny_standAt ?_)
 rw [hs]
 refine wpAny_bind (wpAny_pure ?_)
 rw [if_neg (by decide)]
 refine wpAny_bind (Tuple_ (thn (ha _ pins s σ H _ I h) fun us s1 ⟨vs,H1,I1,r1,q1⟩=>?_))
 obtain⟨v,w,e1,q1⟩:=q1
 subst e1
 obtain⟨u1,u2,rfl,rv,rw'⟩:∃ u1 u2,us=[u1,u2]/\RelV v u1/\RelV w u2:=by
  cases r1 with
  | cons p q =>
   cases q with
   | cons p' q' =>
    cases q'
    exact⟨_,_,rfl,p,p'⟩
 refine wpAny_newObj_type ?_ (by show 2<=sizeLine;decide)
 have I2:Inv X pins σ H1 { s1 with heap:=s1.heap.push { cls:=.type "tuple",data:=.seq [u1,u2].toArray } }:=I1.kept (t':=s1.toks) fun b o e=>aku _ e
 rw [hw]
 refine wpAny_bind (wpAny_pure ?_)
 show wpAny (model X.prog X.w) X.A (do rule "assign.swapped-stores";let items <- unpackItems (.ref s1.heap.objs.size) 2 none;assignInOrder [fun v=>bindName X.env y v,fun v=>bindName X.env x v] items.reverse;pure Flow.next) _ _ _
 refine wpAny_bind (wpAny_rule (wpAny_bind (unpackItems_tuple (items:=#[u1,u2]) (I.ok.hd hc) (anm s1.heap _) fun h' hx'=>?_)))
 have I3:=I2.kept (h':=h') (t':=s1.toks) fun b o e=>hx' b o (akN (akw e)) e
 show wpAny _ _ (assignInOrder [fun v=>bindName X.env y v,fun v=>bindName X.env x v] [u2,u1] >>= fun _=>pure Flow.next) _ _ _
 refine wpAny_bind (assignInOrder_cons (wpAny_bindName (jT I3 hN hj (.inl hy) rw' (fun s2 I4=>?_) (.inr hy))))
 refine assignInOrder_cons (wpAny_bindName (jT I4 hN hi (.inl hx) rv (fun s3 I5=>assignInOrder_nil (wpAny_pure ?_)) (.inr hx)))
 rw [List.set_comm _ _ (alo hij)] at I5
 exact⟨_,H1,I5,q1⟩
end
section
variable {X:Cx} {pos:Pos}
noncomputable def afM (c:TT) (tb:TS):TS:=fun D σ H=>∃ W:Nat->St->Hp->Prop,(∃ m,W m σ H)/\∀ m σ H,W m σ H ->
 c σ H fun b H1=>if b=true then ∃ N:St->Hp->Prop,(∀ σ' H',N σ' H'->∃ m',m'<m/\W m' σ' H')/\tb { D with nx:=N,ct:=N,bk:=D.nx } σ H1 else D.nx σ H1
theorem afN {c:Expr} {body:List Stmt} {tc:TT} {tb:TS} (hp:PassesOwn (model X.prog X.w) X.A X.env X.xe) (hc:PT X c tc) (hb:PSs X body tb):PS X (.While c body [] pos) (afM tc tb):=by
 intro pins s σ H D I h
 obtain⟨W,⟨m0,w0⟩,turn⟩:=h
 refine wpAny_While (codeAny_whileLoop (fun n s'=>∃ σ' H',Inv X pins σ' H' s'/\W n σ' H') ?_ m0 ⟨σ,H,I,w0⟩)
 rintro n s1 ⟨σ1,H1,I1,w1⟩
 refine wpAny_passesOwn hp (thn (hc pins s1 σ1 H1 _ I1 (turn n σ1 H1 w1)) fun b s2 ⟨H2,I2,q2⟩=>?_)
 cases b with
 | true =>
  obtain⟨N,hN,q2⟩:=q2
  rw [if_pos rfl]
  refine wpAny_passesOwn hp (thn (hb pins s2 σ1 H2 _ I2 q2) fun f s3 q3=>?_)
  cases f with
  | next =>
   obtain⟨σ3,H3,I3,n3⟩:=q3
   obtain⟨m',hm,w3⟩:=hN σ3 H3 n3
   exact⟨m',hm,σ3,H3,I3,w3⟩
  | cont =>
   obtain⟨σ3,H3,I3,n3⟩:=q3
   obtain⟨m',hm,w3⟩:=hN σ3 H3 n3
   exact⟨m',hm,σ3,H3,I3,w3⟩
  | brk=>exact q3
  | ret v=>exact q3
 | false =>
  rw [if_neg akr]
  exact wpAny_execs_nil ⟨σ1,H2,I2,q2⟩
end
structure It where
 go:Nat->Hp->Prop
 yld:Nat->Hp->V->Hp->Prop
 stop:Nat->Hp->Prop
noncomputable def vz (X:Cx) (pins:List (Addr×Obj)) (H:Hp) (b:Addr):Prop :=
 H b=none/\b≠X.env.locals/\b∉X.fs/\(b∈X.ex \/ X.s₀.heap.objs.size<=b)/\(∀ x c,X.env.cells.lookup x=some c->c≠b)/\∀ p∈X.pn++pins,p.1≠b
theorem Inv.fpOk {X:Cx} {pins:List (Addr×Obj)} {σ:St} {H H':Hp} {s:Shared} {b:Addr} (I:Inv X pins σ H s) (hb:s.heap.objs.size<=b) (hn:H' b=none):vz X pins H' b:=by
 refine⟨hn,al5 (akG I.lt hb),I.nofs hb,.inr (akV I.sz hb),fun x c e z=>?_,fun p hp z=>?_⟩
 ·obtain⟨v,q⟩:=I.cell x c e
  exact absurd (akG q.lt (by rw [z];exact hb)) (alv _)
 ·exact absurd (akG (akw (I.pin p hp).1) (by rw [z];exact hb)) (alv _)
structure Turn (P:Program) (w:World) (K:akq) (tg:Expr) (J:It) (fp:List Addr) (it:Addr) (tn:Nat->Heap->Prop):Prop where
 mem:it∈fp
 obj:∀ i h,tn i h->∀ b∈fp,∃ o,h.get? b=some o/\∀ v,o.data≠.cell v
 keep:∀ i h h',tn i h->(∀ b∈fp,∀ o,h.get? b=some o->h'.get? b=some o)->tn i h'
 item:∀ (X:Cx),X.prog=P->X.w=w->X.K=K->X.calm=true->∀ (i:Nat) (pins:List (Addr×Obj)) (s:Shared) (σ:St) (H:Hp) (E:Value->Shared->Prop),Inv X pins σ H s->(∀ b∈fp,vz X pins H b)->tn i s.heap->J.go i H ->
  wpAny (model P w) X.A (pyNext (.ref it)) (fun r s1=>∃ u,r=some u /\
   wpAny (model P w) X.A (letOwnedTupleGo tg (.ref it) u) (fun _ s2=>∃ x H',Inv X pins σ H' s2/\RelV x u/\J.yld i H x H'/\tn (i+1) s2.heap/\∀ b∈fp,H' b=none) E s1) E s
 done:∀ (X:Cx),X.prog=P->X.w=w->X.K=K->X.calm=true->∀ (i:Nat) (pins:List (Addr×Obj)) (s:Shared) (σ:St) (H:Hp) (E:Value->Shared->Prop),Inv X pins σ H s->(∀ b∈fp,vz X pins H b)->tn i s.heap->J.stop i H ->
  wpAny (model P w) X.A (pyNext (.ref it)) (fun r s1=>r=none/\Inv X pins σ H s1) E s
 self:∀ (A:Around) (i:Nat) (s:Shared) (Q:Value->Shared->Prop) (E:Value->Shared->Prop),tn i s.heap->Q (.ref it) s->wpAny (model P w) A (pyIter (.ref it)) Q E s
noncomputable abbrev TI:=St->Hp->(It->Hp->Prop)->Prop
noncomputable def PIE (X:Cx) (pins:List (Addr×Obj)) (σ:St) (tg:Expr) (R:It->Hp->Prop) (itv:Value) (s2:Shared):Prop :=
 ∃ (it:Addr) (fp:List Addr) (tn:Nat->Heap->Prop) (J:It) (H':Hp),itv=.ref it/\Inv X pins σ H' s2/\Turn X.prog X.w X.K tg J fp it tn/\tn 0 s2.heap/\(∀ b∈fp,vz X pins H' b)/\R J H'
noncomputable def PI (X:Cx) (tg iter:Expr) (wi:TI):Prop :=
 ∀ (pins:List (Addr×Obj)) (s:Shared) (σ:St) (H:Hp) (R:It->Hp->Prop),Inv X pins σ H s->wi σ H R ->
  wpAny (model X.prog X.w) X.A (eval iter X.env) (fun v s1=>wpAny (model X.prog X.w) X.A (pyIter v) (PIE X pins σ tg R) X.xe s1) X.xe s
theorem afO {M:Model} {A:Around} {E:Value->Shared->Prop} {s:Shared} {tg:Expr} {it:Addr} {u:Value} {o:Obj} {n:String} {vs:Array Value} {Q:Unit->Shared->Prop} (ho:s.heap.get? it=some o) (hc:o.cls=.type n) (hd:o.data=.fields vs)
  (hn:["enumerate","zip","dict_itemiterator","dict_reverseitemiterator","odict_iterator","itertools.zip_longest","itertools.pairwise"].contains n=false) (hQ:Q () s):wpAny M A (letOwnedTupleGo tg (.ref it) u) Q E s:=by
 unfold letOwnedTupleGo
 cases tg <;> first
  | exact wpAny_pure hQ
  | (cases u <;> first
    | exact wpAny_pure hQ
    | (refine wpAny_bind (wpAny_load ho ?_)
       rw [hc,hd]
       show wpAny M A (if (["enumerate","zip","dict_itemiterator","dict_reverseitemiterator","odict_iterator","itertools.zip_longest","itertools.pairwise"].contains n && vs[0]? == some (rawInt _))=true then _ else _) Q E s
       rw [if_neg (by intro h;rw [hn,alZ] at h;cases h)]
       exact wpAny_pure hQ))
noncomputable def Itl (K:akq) (a:Addr):It :=
 ⟨fun i H=>∃ xs x,SqL K H a xs/\xs[i]?=some x,fun i H x H'=>H'=H/\∀ xs,SqL K H a xs->xs[i]?=some x,fun i H=>∃ xs,SqL K H a xs/\xs.length<=i⟩
noncomputable def Itt (K:akq) (a:Addr):It :=
 ⟨fun i H=>∃ xs x,SqT K H a xs/\xs[i]?=some x,fun i H x H'=>H'=H/\∀ xs,SqT K H a xs->xs[i]?=some x,fun i H=>∃ xs,SqT K H a xs/\xs.length<=i⟩
noncomputable def Itr (lo:Int) (n:Nat):It:=⟨fun i _=>i<n,fun i H x H'=>H'=H/\x=.int (lo+i),fun i _=>n<=i⟩
theorem aeH {P:Program} {w:World} {K:akq} {tg:Expr} (a it:Addr):Turn P w K tg (Itl K a) [it] it (fun i h=>h.IsListIter it a i) where
 mem:=by simp
 obj:=fun i h st b hb=>by
  have e:b=it:=by simpa using hb
  subst e
  obtain⟨o,e,c,d⟩:=st
  exact⟨o,e,fun v z=>by rw [d] at z;cases z⟩
 keep:=fun i h h' st k=>st.at fun o e=>k it (by simp) o e
 item:=by
  intro X hP hw hK hc i pins s σ H E I hf st hg
  subst hP hw hK
  obtain⟨xs,x,hq,hx⟩:=hg
  obtain⟨its,rv,p,hz⟩:=I.list hq
  obtain⟨u,hu,ru⟩:=rv.get hx
  obtain⟨f0,f1,f2,f3,f4,f5⟩:=hf it (by simp)
  refine wpAny_pyNext_list_item st p.isList (x:=u) (by simpa using hu) fun h' st' sb=>?_
  have I1:Inv X pins σ H { s with heap:=h' }:=I.turned (t':=s.toks) (fun b o hb e=>(sb.2 b hb).trans e) f0 f1 f3 f4 f5
  obtain⟨o,e,c,d⟩:=id st'
  exact⟨u,rfl,afO (s:={ s with heap:=h' }) e c d (by decide) ⟨x,H,I1,ru,⟨rfl,fun ys hy=>by rw [I.list_inj hy hq];exact hx⟩,st',fun b hb=>(hf b hb).1⟩⟩
 done:=by
  intro X hP hw hK hc i pins s σ H E I hf st hg
  subst hP hw hK
  obtain⟨xs,hq,hx⟩:=hg
  obtain⟨its,rv,p,hz⟩:=I.list hq
  obtain⟨f0,f1,f2,f3,f4,f5⟩:=hf it (by simp)
  have hl:=rv.length
  exact wpAny_pyNext_list_end (I.ok.hd hc) st p.isList (by simp;omega) fun h' eb=>⟨rfl,I.turned (t':=s.toks) (fun b o hb e=>eb b o hb e) f0 f1 f3 f4 f5⟩
 self:=fun _ _ _ _ _ st h=>wpAny_pyIter_listiter st h
theorem ac9 {P:Program} {w:World} {K:akq} {tg:Expr} (a it:Addr):Turn P w K tg (Itt K a) [it] it (fun i h=>h.IsTupleIter it a i) where
 mem:=by simp
 obj:=fun i h st b hb=>by
  have e:b=it:=by simpa using hb
  subst e
  obtain⟨o,e,c,d⟩:=st
  exact⟨o,e,fun v z=>by rw [d] at z;cases z⟩
 keep:=fun i h h' st k=>st.at fun o e=>k it (by simp) o e
 item:=by
  intro X hP hw hK hc i pins s σ H E I hf st hg
  subst hP hw hK
  obtain⟨xs,x,hq,hx⟩:=hg
  obtain⟨its,rv,p,hz⟩:=I.tuple hq
  obtain⟨u,hu,ru⟩:=rv.get hx
  obtain⟨f0,f1,f2,f3,f4,f5⟩:=hf it (by simp)
  refine wpAny_pyNext_tuple_item st (show s.heap.IsTuple a its.toArray from p) (x:=u) (by simpa using hu) fun h' st' sb=>?_
  have I1:Inv X pins σ H { s with heap:=h' }:=I.turned (t':=s.toks) (fun b o hb e=>(sb.2 b hb).trans e) f0 f1 f3 f4 f5
  obtain⟨o,e,c,d⟩:=id st'
  exact⟨u,rfl,afO (s:={ s with heap:=h' }) e c d (by decide) ⟨x,H,I1,ru,⟨rfl,fun ys hy=>by rw [I.tuple_inj hy hq];exact hx⟩,st',fun b hb=>(hf b hb).1⟩⟩
 done:=by
  intro X hP hw hK hc i pins s σ H E I hf st hg
  subst hP hw hK
  obtain⟨xs,hq,hx⟩:=hg
  obtain⟨its,rv,p,hz⟩:=I.tuple hq
  obtain⟨f0,f1,f2,f3,f4,f5⟩:=hf it (by simp)
  have hl:=rv.length
  exact wpAny_pyNext_tuple_end (I.ok.hd hc) st (show s.heap.IsTuple a its.toArray from p) (by simp;omega) fun h' eb=>⟨rfl,I.turned (t':=s.toks) (fun b o hb e=>eb b o hb e) f0 f1 f3 f4 f5⟩
 self:=fun _ _ _ _ _ st h=>wpAny_pyIter_tupleiter st h
theorem ada {P:Program} {w:World} {K:akq} {tg:Expr} (it:Addr) (lo:Int) (n:Nat):Turn P w K tg (Itr lo n) [it] it (fun i h=>IsRangeIter h it (lo+(i:Nat) * 1) ((n:Int) - (i:Nat)) 1) where
 mem:=by simp
 obj:=fun i h st b hb=>by
  have e:b=it:=by simpa using hb
  subst e
  exact⟨_,st,fun v z=>by
   have z':Data.fields _=Data.cell v:=z
   cases z'⟩
 keep:=fun i h h' st k=>k it (by simp) _ st
 item:=by
  intro X hP hw hK hc i pins s σ H E I hf st hg
  subst hP hw hK
  obtain⟨f0,f1,f2,f3,f4,f5⟩:=hf it (by simp)
  have W:=Walks.range (prog:=X.prog) (w:=X.w) (I.ok.hd hc) it lo 1 n
  refine W.item i s _ _ hg st fun v h' tk hv st' kk=>?_
  obtain⟨t,rfl⟩:=hv
  have I1:Inv X pins σ H { s with heap:=h',toks:=tk }:=I.turned (fun b o hb e=>kk b o (by simpa using hb) e) f0 f1 f3 f4 f5
  refine⟨_,rfl,afO (s:={ s with heap:=h',toks:=tk }) (n:="range_iterator") st' rfl rfl (by decide) ⟨.int (lo+i),H,I1,⟨t,?_⟩,⟨rfl,rfl⟩,st',fun b hb=>(hf b hb).1⟩⟩
  rw [Int.mul_one]
 done:=by
  intro X hP hw hK hc i pins s σ H E I hf st hg
  subst hP hw hK
  obtain⟨f0,f1,f2,f3,f4,f5⟩:=hf it (by simp)
  exact wpAny_pyNext_range_end (I.ok.hd hc) st (by have:n<=i:=hg;omega) fun h' eb=>⟨rfl,I.turned (t':=s.toks) (fun b o hb e=>eb b o hb e) f0 f1 f3 f4 f5⟩
 self:=fun _ _ _ _ _ st h=>wpAny_pyIter_rangeiter st h
section
variable {X:Cx} {tg:Expr}
noncomputable def afP (K:akq) (tl:TE):TI:=fun σ H R=>tl σ H fun x H1=>∃ a,x=.ref a/\(∃ xs,SqL K H1 a xs)/\R (Itl K a) H1
noncomputable def ahi (K:akq) (tl:TE):TI:=fun σ H R=>tl σ H fun x H1=>∃ a,x=.ref a/\(∃ xs,SqT K H1 a xs)/\R (Itt K a) H1
theorem ahj {l:Expr} {tl:TE} (hl:PE X l tl):PI X tg l (afP X.K tl):=by
 intro pins s σ H R I h
 refine thn (hl pins s σ H _ I h) fun v s1 ⟨x,H1,I1,r1,q1⟩=>?_
 obtain⟨a,e,⟨xs,hq⟩,q⟩:=q1
 subst e
 cases r1
 obtain⟨its,rv,p,hz⟩:=I1.list hq
 refine wpAny_pyIter_list p.isList ?_
 refine⟨s1.heap.objs.size,[s1.heap.objs.size],_,_,H1,rfl,I1.kept (t':=s1.toks) fun b o e=>aku _ e,aeH a _,⟨_,akS _ rfl,rfl,rfl⟩,fun b hb=>?_,q⟩
 have e:b=s1.heap.objs.size:=by simpa using hb
 subst e
 exact I1.fpOk (akA _) (I1.hok.fresh (akA _))
theorem aiI {l:Expr} {tl:TE} (hl:PE X l tl):PI X tg l (ahi X.K tl):=by
 intro pins s σ H R I h
 refine thn (hl pins s σ H _ I h) fun v s1 ⟨x,H1,I1,r1,q1⟩=>?_
 obtain⟨a,e,⟨xs,hq⟩,q⟩:=q1
 subst e
 cases r1
 obtain⟨its,rv,p,hz⟩:=I1.tuple hq
 refine wpAny_pyIter_tuple (show s1.heap.IsTuple a its.toArray from p) ?_
 refine⟨s1.heap.objs.size,[s1.heap.objs.size],_,_,H1,rfl,I1.kept (t':=s1.toks) fun b o e=>aku _ e,ac9 a _,⟨_,akS _ rfl,rfl,rfl⟩,fun b hb=>?_,q⟩
 have e:b=s1.heap.objs.size:=by simpa using hb
 subst e
 exact I1.fpOk (akA _) (I1.hok.fresh (akA _))
theorem acq {pins:List (Addr×Obj)} {σ:St} {H:Hp} {s:Shared} {R:It->Hp->Prop} {E:Value->Shared->Prop} {lo hi:Int} {t u v:Tok} {tk:Nat} (I:Inv X pins σ H s) (h1:-(2 ^ 62)<=lo) (h2:lo<2 ^ 62) (h3:-(2 ^ 62)<=hi) (h4:hi<2 ^ 62)
  (q:R (Itr lo (hi - lo).toNat) H):wpAny (model X.prog X.w) X.A (pyIter (.ref s.heap.objs.size)) (PIE X pins σ tg R) E { s with heap:=s.heap.push { cls:=.type "range",data:=.fields #[.int lo t,.int hi u,.int 1 v] },toks:=tk }:=by
 refine wpAny_pyIter_range (IsRange.new ..) (small_one h1 h2 h3 h4) ?_
 have I1:Inv X pins σ H { s with heap:=s.heap.push { cls:=.type "range",data:=.fields #[.int lo t,.int hi u,.int 1 v] },toks:=tk }:=I.kept fun b o e=>aku _ e
 refine⟨(s.heap.push { cls:=.type "range",data:=.fields #[.int lo t,.int hi u,.int 1 v] }).objs.size,[(s.heap.push { cls:=.type "range",data:=.fields #[.int lo t,.int hi u,.int 1 v] }).objs.size],_,_,H,rfl,
  I1.kept (t':=tk) fun b o e=>aku _ e,ada _ lo (hi - lo).toNat,?_,fun b hb=>?_,q⟩
 ·have e1:lo+((0:Nat):Int) * 1=lo:=by simp
  have e2:(((hi - lo).toNat:Nat):Int) - ((0:Nat):Int)=amY lo hi 1:=by rw [rangeSize_one];split <;> omega
  show IsRangeIter _ _ (lo+((0:Nat):Int) * 1) ((((hi - lo).toNat:Nat):Int) - ((0:Nat):Int)) 1
  rw [e1,e2]
  exact akS _ rfl
 ·have e:b=(s.heap.push { cls:=.type "range",data:=.fields #[.int lo t,.int hi u,.int 1 v] }).objs.size:=by simpa using hb
  subst e
  exact I1.fpOk (akA _) (I1.hok.fresh (akA _))
noncomputable def aic (ta:TA):TI:=fun σ H R=>ta σ H fun vs H1=>∃ j:Int,vs=[.int j]/\-(2 ^ 62)<=j/\j<2 ^ 62/\R (Itr 0 j.toNat) H1
noncomputable def aid (ta:TA):TI:=fun σ H R=>ta σ H fun vs H1=>∃ i j:Int,vs=[.int i,.int j]/\(-(2 ^ 62)<=i/\i<2 ^ 62/\-(2 ^ 62)<=j/\j<2 ^ 62)/\R (Itr i (j - i).toNat) H1
theorem yr {a:Expr} {ta:TA} {p pos:Pos} (hg:Gl X "range") (hm:X.mg "range"=none) (ha:PA X [a] ta) (hs:starEach [a] X.env=[(false,eval a X.env)]:=by rfl):PI X tg (.Call (.Name "range" p) [a] [] pos) (aic ta):=by
 intro pins s σ H R I h
 refine Call_ (jx I hg hm boot_range (akT (thn (ha pos pins s σ H _ I h) fun us s1 ⟨vs,H1,I1,r1,q1⟩=>?_) hs rfl))
 obtain⟨j,e,q1,q2,q⟩:=q1
 subst e
 cases r1 with
 | cons r rr =>
  cases rr
  obtain⟨t,rfl⟩:=r
  exact call_range_1 (acq I1 (by omega) (by omega) q1 q2 (by simpa using q))
theorem aeI {a b:Expr} {ta:TA} {p pos:Pos} (hg:Gl X "range") (hm:X.mg "range"=none) (ha:PA X [a,b] ta) (hs:starEach [a,b] X.env=[(false,eval a X.env),(false,eval b X.env)]:=by rfl) (hs2:starEach [b] X.env=[(false,eval b X.env)]:=by rfl) :
  PI X tg (.Call (.Name "range" p) [a,b] [] pos) (aid ta):=by
 intro pins s σ H R I h
 refine Call_ (jx I hg hm boot_range (akT (thn (ha pos pins s σ H _ I h) fun us s1 ⟨vs,H1,I1,r1,q1⟩=>?_) (by rw [hs,hs2]) (by rw [hs2];rfl)))
 obtain⟨i,j,e,⟨q1,q2,q3,q4⟩,q⟩:=q1
 subst e
 cases r1 with
 | cons r rr =>
  cases rr with
  | cons r' rr =>
   cases rr
   obtain⟨t,rfl⟩:=r
   obtain⟨t',rfl⟩:=r'
   exact call_range_2 (acq I1 q1 q2 q3 q4 q)
noncomputable def ahk (wi:TI) (g:TG) (tb:TS):TS:=fun D σ H=>wi σ H fun J H1=>∃ W:Nat->Nat->St->Hp->Prop,(∃ m,W 0 m σ H1)/\∀ i m σ H,W i m σ H ->
 (J.stop i H/\D.nx σ H) \/ (J.go i H/\∃ N:St->Hp->Prop,(∀ σ' H',N σ' H'->∃ m',m'<m/\W (i+1) m' σ' H')/\∀ x H',J.yld i H x H'->g x σ H' fun σ2 H2=>tb { D with nx:=N,ct:=N,bk:=D.nx } σ2 H2)
noncomputable def aaB (fp:List Addr) (h:Heap):List (Addr×Obj):=fp.filterMap fun b=>(h.get? b).map fun o=>(b,o)
theorem j7 {fp:List Addr} {h:Heap} {b:Addr} {o:Obj} (hb:b∈fp) (e:h.get? b=some o):(b,o)∈aaB fp h:=amd.mpr ⟨b,hb,by rw [e];rfl⟩
theorem aeJ {fp:List Addr} {h:Heap} {p:Addr×Obj} (hp:p∈aaB fp h):p.1∈fp/\h.get? p.1=some p.2:=by
 obtain⟨b,hb,e⟩:=amd.mp hp
 cases q:h.get? b with
 | none=>rw [q] at e;cases e
 | some o =>
  rw [q] at e
  have e':(b,o)=p:=Option.some.inj e
  subst e'
  exact⟨hb,q⟩
theorem Inv.pinned {pins:List (Addr×Obj)} {σ:St} {H:Hp} {s:Shared} {fp:List Addr} (I:Inv X pins σ H s) (hf:∀ b∈fp,vz X pins H b) (ho:∀ b∈fp,∃ o,s.heap.get? b=some o/\∀ v,o.data≠.cell v):Inv X (pins++aaB fp s.heap) σ H s :=
 I.pins_of fun p hp=>(akF.mp hp).elim (fun z=>I.pin p (akM _ z)) fun z=>by
  obtain⟨hb,e⟩:=aeJ z
  obtain⟨f0,f1,f2,_⟩:=hf p.1 hb
  obtain⟨o,e',d⟩:=ho p.1 hb
  rw [e] at e';cases e'
  exact⟨e,f0,f1,f2,d⟩
theorem Inv.unpinned {pins pl:List (Addr×Obj)} {σ:St} {H:Hp} {s:Shared} (I:Inv X (pins++pl) σ H s):Inv X pins σ H s:=I.pins_of fun p hp=>I.pin p (akM _ (amu _ hp))
theorem yK {iter:Expr} {body:List Stmt} {wi:TI} {g:TG} {tb:TS} {pos:Pos} (hp:PassesOwn (model X.prog X.w) X.A X.env X.xe) (hc:X.calm=true) (hi:PI X tg iter wi) (hg:PG X tg g) (hb:PSs X body tb)
  (hs:∀ x,foldedSetIterable iter X.env x=pure x:=by intro _;rfl):PS X (.For tg iter body [] pos) (ahk wi g tb):=by
 intro pins s σ H D I h
 refine wpAny_For (thn (hi pins s σ H _ I h) fun v s1 h1=>thn h1 fun itv s2 h2=>?_) hs
 obtain⟨it,fp,tn,J,H2,e,I2,T,st2,f2,W,⟨m0,w0⟩,turn⟩:=h2
 subst e
 -- what stays true of the iterator's objects through the loop
 have stat:∀ {H':Hp},(∀ b∈fp,H' b=none)->∀ b∈fp,vz X pins H' b:=fun hn b hb=>⟨hn b hb,(f2 b hb).2⟩
 refine codeAny_forLoop_any (fun n s'=>∃ i σ' H',Inv X pins σ' H' s'/\tn i s'.heap/\(∀ b∈fp,H' b=none)/\W i n σ' H') ?_ m0 ⟨0,σ,H2,I2,st2,fun b hb=>(f2 b hb).1,w0⟩
 rintro n s3 ⟨i,σ3,H3,I3,st3,fr3,w3⟩
 rcases turn i n σ3 H3 w3 with⟨stop,qn⟩ | ⟨go,N,hN,step⟩
 ·refine wpAny_passesOwn hp (thn (T.done X rfl rfl rfl hc i pins s3 σ3 H3 X.xe I3 (stat fr3) st3 stop) fun r s4 ⟨hr,I4⟩=>?_)
  subst hr
  exact wpAny_execs_nil ⟨σ3,H3,I4,qn⟩
 ·refine wpAny_passesOwn hp (thn (T.item X rfl rfl rfl hc i pins s3 σ3 H3 X.xe I3 (stat fr3) st3 go) fun r s4 ⟨u,hr,h4⟩=>?_)
  subst hr
  refine wpAny_passesOwn hp (thn h4 fun _ s5 ⟨x,H5,I5,r5,y5,st5,fr5⟩=>?_)
  have I5':=I5.pinned (stat fr5) (T.obj _ _ st5)
  refine wpAny_passesOwn hp (thn (hg _ s5 σ3 H5 x u _ I5' r5 (step x H5 y5)) fun _ s6 ⟨σ6,H6,I6,q6⟩=>?_)
  refine wpAny_passesOwn hp (thn (hb _ s6 σ6 H6 _ I6 q6) fun f s7 q7=>?_)
  have again:∀ {σ7:St} {H7:Hp},Inv X (pins++aaB fp s5.heap) σ7 H7 s7->N σ7 H7->∃ m,m<n/\∃ i σ' H',Inv X pins σ' H' s7/\tn i s7.heap/\(∀ b∈fp,H' b=none)/\W i m σ' H':=fun {σ7 H7} I7 n7=>by
   obtain⟨m',hm,w7⟩:=hN σ7 H7 n7
   refine⟨m',hm,i+1,σ7,H7,I7.unpinned,T.keep _ _ _ st5 fun b hb o e=>(I7.pin (b,o) (akM _ (akM _ (j7 hb e)))).1,fun b hb=>?_,w7⟩
   obtain⟨o,e,d⟩:=T.obj _ _ st5 b hb
   exact (I7.pin (b,o) (akM _ (akM _ (j7 hb e)))).2.1
  cases f with
  | next=>obtain⟨σ7,H7,I7,n7⟩:=q7;exact again I7 n7
  | cont=>obtain⟨σ7,H7,I7,n7⟩:=q7;exact again I7 n7
  | brk=>obtain⟨σ7,H7,I7,q7⟩:=q7;exact⟨σ7,H7,I7.unpinned,q7⟩
  | ret v=>obtain⟨x7,σ7,H7,I7,r7,q7⟩:=q7;exact⟨x7,σ7,H7,I7.unpinned,r7,q7⟩
end
noncomputable abbrev R2:=V->V->Hp->VK->Prop
noncomputable def OpR (X:Cx) (f:Value->Value->Sem Value) (r:R2):Prop :=
 ∀ (pins:List (Addr×Obj)) (s:Shared) (σ:St) (H:Hp) (x y:V) (v u:Value) (Q:VK),Inv X pins σ H s->RelV x v->RelV y u->r x y H Q ->
  wpAny (model X.prog X.w) X.A (f v u) (EP X pins σ Q) X.xe s
noncomputable def UnR (X:Cx) (f:Value->Sem Value) (r:V->Hp->VK->Prop):Prop :=
 ∀ (pins:List (Addr×Obj)) (s:Shared) (σ:St) (H:Hp) (x:V) (v:Value) (Q:VK),Inv X pins σ H s->RelV x v->r x H Q ->
  wpAny (model X.prog X.w) X.A (f v) (EP X pins σ Q) X.xe s
noncomputable def yn (X:Cx) (f:Value) (r:List V->Hp->VK->Prop):Prop :=
 ∀ (pins:List (Addr×Obj)) (s:Shared) (σ:St) (H:Hp) (xs:List V) (us:List Value) (Q:VK),Inv X pins σ H s->Vals xs us->r xs H Q ->
  wpAny (model X.prog X.w) X.A (call f us) (EP X pins σ Q) X.xe s
noncomputable def akb (X:Cx) (r:V->Hp->(Bool->Hp->Prop)->Prop):Prop :=
 ∀ (pins:List (Addr×Obj)) (s:Shared) (σ:St) (H:Hp) (x:V) (v:Value) (Q:Bool->Hp->Prop),Inv X pins σ H s->RelV x v->r x H Q ->
  wpAny (model X.prog X.w) X.A (truthy v) (TP X pins σ Q) X.xe s
noncomputable def tOp (r:R2) (ta tb:TE):TE:=fun σ H Q=>ta σ H fun x H1=>tb σ H1 fun y H2=>r x y H2 Q
noncomputable def tUn (r:V->Hp->VK->Prop) (ta:TE):TE:=fun σ H Q=>ta σ H fun x H1=>r x H1 Q
noncomputable def rI (C:Int->Int->Prop) (g:Int->Int->V):R2:=fun x y H Q=>∃ i j,x=.int i/\y=.int j/\C i j/\Q (g i j) H
noncomputable def rI0 (g:Int->Int->V):R2:=fun x y H Q=>∃ i j,x=.int i/\y=.int j/\Q (g i j) H
noncomputable def rU (g:Int->V):V->Hp->VK->Prop:=fun x H Q=>∃ i,x=.int i/\Q (g i) H
section
variable {X:Cx} {a b c:Expr} {ta tb tc:TE} {pos:Pos}
theorem aiJ (ha:PE X a ta) (hb:PE X b tb) {pins:List (Addr×Obj)} {s:Shared} {σ:St} {H:Hp} {R:V->V->Hp->Prop} (I:Inv X pins σ H s)
  (h:ta σ H fun x H1=>tb σ H1 fun y H2=>R x y H2) {Q:Value->Shared->Prop} {f:Value->Value->Sem Value}
  (hf:∀ v u s2 x y H2,Inv X pins σ H2 s2->RelV x v->RelV y u->R x y H2->wpAny (model X.prog X.w) X.A (f v u) Q X.xe s2) :
  wpAny (model X.prog X.w) X.A (eval a X.env) (fun v s₁=>wpAny (model X.prog X.w) X.A (eval b X.env) (fun u s₂=>wpAny (model X.prog X.w) X.A (f v u) Q X.xe s₂) X.xe s₁) X.xe s:=by
 refine thn (ha pins s σ H _ I h) fun v s1 ⟨x,H1,I1,r1,q1⟩=>?_
 refine thn (hb pins s1 σ H1 _ I1 q1) fun u s2 ⟨y,H2,I2,r2,q2⟩=>?_
 exact hf v u s2 x y H2 I2 r1 r2 q2
theorem zi {op:Operator} {r:R2} (ho:OpR X (binaryOp op) r) (ha:PE X a ta) (hb:PE X b tb):PE X (.BinOp a op b pos) (tOp r ta tb):=by
 intro pins s σ H Q I h
 exact wpAny_BinOp (aiJ ha hb I h fun v u s2 x y H2 I2 rx ry q=>ho pins s2 σ H2 x y v u Q I2 rx ry q)
theorem aie {op:UnaryOp} {r:V->Hp->VK->Prop} (ho:UnR X (unaryOp op) r) (ha:PE X a ta):PE X (.UnaryOp op a pos) (tUn r ta):=by
 intro pins s σ H Q I h
 exact UnaryOp_ (thn (ha pins s σ H _ I h) fun v s1 ⟨x,H1,I1,r1,q1⟩=>ho pins s1 σ H1 x v Q I1 r1 q1)
theorem opI {f:Value->Value->Sem Value} {C:Int->Int->Prop} {g:Int->Int->Int}
  (rule:∀ (i j:Int) (t u:Tok) (s:Shared) (Q:Value->Shared->Prop) (E:Value->Shared->Prop),C i j->Q (.int (g i j) s.toks) { s with toks:=s.toks+1 }->wpAny (model X.prog X.w) X.A (f (.int i t) (.int j u)) Q E s) :
  OpR X f (rI C fun i j=>.int (g i j)):=by
 intro pins s σ H x y v u Q I rx ry h
 obtain⟨i,j,rfl,rfl,hc,q⟩:=h
 obtain⟨t,rfl⟩:=rx
 obtain⟨t',rfl⟩:=ry
 exact rule i j t t' s _ _ hc ⟨.int (g i j),H,I.tok _,⟨_,rfl⟩,q⟩
theorem ajJ {f:Value->Value->Sem Value} {g:Int->Int->Int}
  (rule:∀ (i j:Int) (t u:Tok) (s:Shared) (Q:Value->Shared->Prop) (E:Value->Shared->Prop),Q (.int (g i j) s.toks) { s with toks:=s.toks+1 }->wpAny (model X.prog X.w) X.A (f (.int i t) (.int j u)) Q E s) :
  OpR X f (rI0 fun i j=>.int (g i j)):=by
 intro pins s σ H x y v u Q I rx ry h
 obtain⟨i,j,rfl,rfl,q⟩:=h
 obtain⟨t,rfl⟩:=rx
 obtain⟨t',rfl⟩:=ry
 exact rule i j t t' s _ _ ⟨.int (g i j),H,I.tok _,⟨_,rfl⟩,q⟩
theorem ahl {f:Value->Value->Sem Value} {g:Int->Int->Bool}
  (rule:∀ (i j:Int) (t u:Tok) (s:Shared) (Q:Value->Shared->Prop) (E:Value->Shared->Prop),Q (.bool (g i j)) s->wpAny (model X.prog X.w) X.A (f (.int i t) (.int j u)) Q E s) :
  OpR X f (rI0 fun i j=>.bl (g i j)):=by
 intro pins s σ H x y v u Q I rx ry h
 obtain⟨i,j,rfl,rfl,q⟩:=h
 obtain⟨t,rfl⟩:=rx
 obtain⟨t',rfl⟩:=ry
 exact rule i j t t' s _ _ ⟨.bl (g i j),H,I,rfl,q⟩
noncomputable def akc (i j:Int):Prop:=0<=j/\j<=1000000/\i.natAbs<2 ^ 64
noncomputable def CMul (i j:Int):Prop:=(-(2 ^ 64)<i/\i<2 ^ 64) \/ (-(2 ^ 64)<j/\j<2 ^ 64)
theorem CMul.ok {i j:Int} (h:CMul i j):IntMulOk i j:=by
 rcases h with⟨h1,h2⟩ | ⟨h1,h2⟩
 ·exact .of_left (intBits_le_64 h1 h2)
 ·exact .of_right (intBits_le_64 h1 h2)
theorem zH:OpR X (binaryOp .Add) (rI0 fun i j=>.int (i+j)):=ajJ fun _ _ _ _ _ _ _ q=>add_int q
theorem zI:OpR X (binaryOp .Sub) (rI0 fun i j=>.int (i - j)):=ajJ fun _ _ _ _ _ _ _ q=>sub_int q
theorem yu:OpR X (binaryOp .Mult) (rI CMul fun i j=>.int (i * j)):=opI fun _ _ _ _ _ _ _ hc q=>mul_int q hc.ok
theorem jj:OpR X (binaryOp .Mod) (rI (fun _ j=>0<j) fun i j=>.int (i % j)):=opI fun i j _ _ _ _ _ hc q=>by
 have h1:(0:Int)<j:=hc
 exact mod_int' (by omega) (by rw [Int.fmod_eq_emod_of_nonneg i (by omega)];exact q)
theorem vS:OpR X (binaryOp .Pow) (rI akc fun i j=>.int (i ^ j.toNat)):=opI fun _ _ _ _ _ _ _ hc q=>pow_int_small hc.1 hc.2.1 hc.2.2 q
theorem unI {f:Value->Sem Value} {g:Int->Int}
  (rule:∀ (i:Int) (t:Tok) (s:Shared) (Q:Value->Shared->Prop) (E:Value->Shared->Prop),Q (.int (g i) s.toks) { s with toks:=s.toks+1 }->wpAny (model X.prog X.w) X.A (f (.int i t)) Q E s) :
  UnR X f (rU fun i=>.int (g i)):=by
 intro pins s σ H x v Q I rx h
 obtain⟨i,rfl,q⟩:=h
 obtain⟨t,rfl⟩:=rx
 exact rule i t s _ _ ⟨.int (g i),H,I.tok _,⟨_,rfl⟩,q⟩
theorem afQ:UnR X (unaryOp .USub) (rU fun i=>.int (-i)):=unI fun _ _ _ _ _ q=>neg_int q
end
section
variable {X:Cx} {a b c:Expr} {ta tb tc:TE} {pos:Pos}
theorem aiK {pins:List (Addr×Obj)} {σ:St} {H:Hp} {s:Shared} {Q:VK} {k k':Bool} (I:Inv X pins σ H s) (q:Q (.bl k) H) (e:k=k'):EP X pins σ Q (.bool k') s:=by
 subst e
 exact⟨.bl k,H,I,rfl,q⟩
theorem aaC:OpR X (compareOp .Lt) (rI0 fun i j=>.bl (decide (i<j))):=ahl fun _ _ _ _ _ _ _ q=>lt_int q
theorem jB:OpR X (compareOp .LtE) (rI0 fun i j=>.bl (decide (i<=j))):=ahl fun _ _ _ _ _ _ _ q=>le_int q
theorem aac:OpR X (compareOp .Gt) (rI0 fun i j=>.bl (decide (j<i))):=ahl fun _ _ _ _ _ _ _ q=>gt_int q
theorem aif:OpR X (compareOp .GtE) (rI0 fun i j=>.bl (decide (j<=i))):=ahl fun _ _ _ _ _ _ _ q=>ge_int q
theorem abL:OpR X (compareOp .IsNot) (fun x y H Q=>y=.non/\Q (.bl (!decide (x=.non))) H):=by
 intro pins s σ H x y v u Q I rx ry h
 obtain⟨rfl,q⟩:=h
 cases ry
 refine isnot_none_gen (aiK I q ?_)
 cases x <;> first
  | (cases rx;rfl)
  | (obtain⟨t,rfl⟩:=rx;rfl)
theorem zB (b:Expr) {op:CmpOp} (h:op≠.In:=by decide) (h2:op≠.NotIn:=by decide):behindInMarks op b=false:=by
 have e1:(op == CmpOp.In)=false:=by cases op <;> first | rfl | exact absurd rfl h
 have e2:(op == CmpOp.NotIn)=false:=by cases op <;> first | rfl | exact absurd rfl h2
 cases b <;> simp [behindInMarks,e1,e2]
theorem z8 {op:CmpOp} {r:R2} (ho:OpR X (compareOp op) r) (ha:PE X a ta) (hb:PE X b tb) (hm:behindInMarks op b=false):PE X (.Compare a [op] [b] pos) (tOp r ta tb):=by
 intro pins s σ H Q I h
 exact wpAny_Compare1 (aiJ ha hb I h fun v u s2 x y H2 I2 rx ry q=>ho pins s2 σ H2 x y v u Q I2 rx ry q) hm
noncomputable def aaD (t:TE):TT:=fun σ H Q=>t σ H fun x H'=>∃ k,x=.bl k/\Q k H'
theorem zD {op:CmpOp} {r:R2} (ho:OpR X (compareOp op) r) (ha:PE X a ta) (hb:PE X b tb) (hm:behindInMarks op b=false):PT X (.Compare a [op] [b] pos) (aaD (tOp r ta tb)):=by
 intro pins s σ H Q I h
 refine wpAny_isTrue_Compare1 (thn (ha pins s σ H _ I h) fun v s1 ⟨x,H1,I1,r1,q1⟩=>thn (hb pins s1 σ H1 _ I1 q1) fun u s2 ⟨y,H2,I2,r2,q2⟩ =>
  thn (ho pins s2 σ H2 x y v u _ I2 r1 r2 q2) fun c s3 ⟨z,H3,I3,r3,k,e,q3⟩=>?_) hm
 subst e
 cases r3
 exact wpAny_truthy_bool ⟨H3,I3,q3⟩
noncomputable def abM (r r':R2) (ta tb tc:TE):TE:=fun σ H Q=>ta σ H fun x H1=>tb σ H1 fun y H2=>r x y H2 fun z H3=>∃ k,z=.bl k /\
 (if k=true then tc σ H3 fun w' H4=>r' y w' H4 Q else Q (.bl false) H3)
theorem aaE {op op':CmpOp} {r r':R2} (ho:OpR X (compareOp op) r) (ho':OpR X (compareOp op') r') (ha:PE X a ta) (hb:PE X b tb) (hc:PE X c tc)
  (hm:lastMarks [op,op'] [b,c]=false:=by with_unfolding_all rfl):PE X (.Compare a [op,op'] [b,c] pos) (abM r r' ta tb tc):=by
 intro pins s σ H Q I h
 refine Compare_chain (thn (ha pins s σ H _ I h) fun v s1 ⟨x,H1,I1,r1,q1⟩=>chain_link (thn (hb pins s1 σ H1 _ I1 q1) fun u s2 ⟨y,H2,I2,r2,q2⟩ =>
  thn (ho pins s2 σ H2 x y v u _ I2 r1 r2 q2) fun d s3 ⟨z,H3,I3,r3,k,e,q3⟩=>?_)) hm
 subst e
 cases r3
 refine wpAny_truthy_bool ?_
 cases k with
 | false=>exact ite_ff ⟨.bl false,H3,I3,rfl,q3⟩
 | true=>exact ite_tt (chain_last (thn (hc pins s3 σ H3 _ I3 q3) fun w' s4 ⟨z',H4,I4,r4,q4⟩=>ho' pins s4 σ H4 y z' u w' Q I4 r2 r4 q4))
theorem afR {op op':CmpOp} {r r':R2} (ho:OpR X (compareOp op) r) (ho':OpR X (compareOp op') r') (ha:PE X a ta) (hb:PE X b tb) (hc:PE X c tc)
  (hm:lastMarks [op,op'] [b,c]=false:=by with_unfolding_all rfl):PT X (.Compare a [op,op'] [b,c] pos) (aaD (abM r r' ta tb tc)):=by
 intro pins s σ H Q I h
 refine isTrue_chain (thn (ha pins s σ H _ I h) fun v s1 ⟨x,H1,I1,r1,q1⟩=>test_link (thn (hb pins s1 σ H1 _ I1 q1) fun u s2 ⟨y,H2,I2,r2,q2⟩ =>
  thn (ho pins s2 σ H2 x y v u _ I2 r1 r2 q2) fun d s3 ⟨z,H3,I3,r3,k,e,q3⟩=>?_)) hm
 subst e
 cases r3
 refine wpAny_truthy_bool ?_
 cases k with
 | false =>
  obtain⟨k',e',q'⟩:=q3
  cases e'
  exact ite_ff ⟨H3,I3,q'⟩
 | true =>
  refine ite_tt (test_last (thn (hc pins s3 σ H3 _ I3 q3) fun w' s4 ⟨z',H4,I4,r4,q4⟩=>thn (ho' pins s4 σ H4 y z' u w' _ I4 r2 r4 q4) fun d' s5 ⟨z2,H5,I5,r5,k2,e2,q5⟩=>?_))
  subst e2
  cases r5
  exact wpAny_truthy_bool ⟨H5,I5,q5⟩
noncomputable def aiL (K:akq) (x:V) (H:Hp) (k:Bool):Prop :=
 match x with
 | .non=>k=false
 | .bl b=>k=b
 | .int i=>k=(i != 0)
 | .str y=>y.length<=sizeLine/\k=((y.length:Int) != 0)
 | .byt y=>y.size<=sizeLine/\k=((y.size:Int) != 0)
 | .ref p=>(∃ xs,SqL K H p xs/\k=!xs.isEmpty) \/ (∃ xs,SqT K H p xs/\k=!xs.isEmpty) \/ ∃ kvs,H p=some (.dK kvs)/\k=!kvs.isEmpty
 | _=>False
theorem adb {κ:Type} {kvs:List (κ×V)} {vs:List (κ×Value)} (r:KV kvs vs):(!vs.isEmpty)=!kvs.isEmpty:=by
 cases r <;> rfl
theorem aaF {xs:List V} {its:List Value} (r:Vals xs its):(!its.toArray.isEmpty)=!xs.isEmpty:=by
 cases r <;> simp
theorem aaG:(sizeLine:Nat)<2 ^ 63:=by rw [sizeLine_eq];decide
theorem aiM:akb X (fun x H Q=>∃ k,aiL X.K x H k/\Q k H):=by
 intro pins s σ H x v Q I rx h
 obtain⟨k,e,q⟩:=h
 have hl:=aaG
 have hs:sizeLine=16777216:=sizeLine_eq
 cases x with
 | non =>
  cases rx
  have e':k=false:=e
  subst e'
  exact truthy_none ⟨H,I,q⟩
 | bl b =>
  cases rx
  have e':k=b:=e
  subst e'
  exact wpAny_truthy_bool ⟨H,I,q⟩
 | int i =>
  obtain⟨t,rfl⟩:=rx
  have e':k=(i != 0):=e
  subst e'
  exact PySem.P.truthy_int ⟨H,I,q⟩
 | str y =>
  obtain⟨t,rfl⟩:=rx
  obtain⟨hy,e'⟩:y.length<=sizeLine/\k=((y.length:Int) != 0):=e
  subst e'
  exact PySem.P.truthy_str (by omega) ⟨H,I.tok _,q⟩
 | byt y =>
  obtain⟨t,rfl⟩:=rx
  obtain⟨hy,e'⟩:y.size<=sizeLine/\k=((y.size:Int) != 0):=e
  subst e'
  exact PySem.W.truthy_bytes (by omega) ⟨H,I.tok _,q⟩
 | ref p =>
  cases rx
  have e':(∃ xs,SqL X.K H p xs/\k=!xs.isEmpty) \/ (∃ xs,SqT X.K H p xs/\k=!xs.isEmpty) \/ ∃ kvs,H p=some (.dK kvs)/\k=!kvs.isEmpty:=e
  rcases e' with⟨xs,hx,e'⟩ | ⟨xs,hx,e'⟩ | ⟨kvs,hx,e'⟩
  ·subst e'
   obtain⟨its,r,pl,hz⟩:=I.list hx
   have hlen:=r.length
   exact wpAny_truthy_list pl.isList (by simp only [akx];omega) ⟨H,I.tok _,by rw [aaF r];exact q⟩
  ·subst e'
   obtain⟨its,r,pl,hz⟩:=I.tuple hx
   have hlen:=r.length
   exact truthy_tuple pl (by simp only [akx];omega) ⟨H,I.tok _,by rw [aaF r];exact q⟩
  ·subst e'
   obtain⟨hz,hS,vs,r,m⟩:kvs.length<=sizeLine/\(p == sysModules)=false/\∃ vs,KV kvs vs/\s.heap.DictOf (abH X.prog X.w) p vs:=I.hok p _ hx
   have hlen:kvs.length=vs.length:=Paired.length r
   exact wpAny_truthy_dict hS m (by omega) ⟨H,I.tok _,by rw [adb r];exact q⟩
 | _=>exact (show False from e).elim
theorem afS (ha:PE X a ta) (he:∀ whole,isTrue a X.env whole=(do let v <- whole;standAt a.pos;holding [v] (truthy v))) :
  PT X a (fun σ H Q=>ta σ H fun x H'=>∃ k,aiL X.K x H' k/\Q k H'):=by
 intro pins s σ H Q I h
 exact isTrue_plain (thn (ha pins s σ H _ I h) fun v s1 ⟨x,H1,I1,r1,q1⟩=>aiM pins s1 σ H1 x v Q I1 r1 q1) (he _)
theorem vals1 {x:V} {us:List Value} (r:Vals [x] us):∃ u,us=[u]/\RelV x u:=by
 cases r with
 | cons r1 r2=>cases r2;exact⟨_,rfl,r1⟩
theorem vals2 {x y:V} {us:List Value} (r:Vals [x,y] us):∃ u w',us=[u,w']/\RelV x u/\RelV y w':=by
 cases r with
 | cons r1 r2 =>
  cases r2 with
  | cons r3 r4=>cases r4;exact⟨_,_,rfl,r1,r3⟩
theorem afT:yn X (.builtin "abs") (fun xs H Q=>∃ i,xs=[.int i]/\Q (.int (if i<0 then -i else i)) H):=by
 intro pins s σ H xs us Q I r h
 obtain⟨i,rfl,q⟩:=h
 obtain⟨u,rfl,t,rfl⟩:=vals1 r
 exact call_abs_int fun u tk=>⟨.int (if i<0 then -i else i),H,I.tok _,⟨_,rfl⟩,q⟩
theorem y3 (hc:X.calm=true):yn X (.builtin "max") (fun xs H Q=>∃ i j,xs=[.int i,.int j]/\Q (.int (if j > i then j else i)) H):=by
 intro pins s σ H xs us Q I r h
 obtain⟨i,j,rfl,q⟩:=h
 obtain⟨u,w',rfl,⟨t,rfl⟩,⟨t',rfl⟩⟩:=vals2 r
 refine max_two_ints (I.ok.hd hc) fun h' tk k=>⟨_,H,I.kept k,?_,q⟩
 by_cases hj:j > i
 ·rw [if_pos hj,if_pos hj];exact⟨_,rfl⟩
 ·rw [if_neg hj,if_neg hj];exact⟨_,rfl⟩
theorem y4 (hc:X.calm=true):yn X (.builtin "min") (fun xs H Q=>∃ i j,xs=[.int i,.int j]/\Q (.int (if j<i then j else i)) H):=by
 intro pins s σ H xs us Q I r h
 obtain⟨i,j,rfl,q⟩:=h
 obtain⟨u,w',rfl,⟨t,rfl⟩,⟨t',rfl⟩⟩:=vals2 r
 refine min_two_ints (I.ok.hd hc) fun h' tk k=>⟨_,H,I.kept k,?_,q⟩
 by_cases hj:j<i
 ·rw [if_pos hj,if_pos hj];exact⟨_,rfl⟩
 ·rw [if_neg hj,if_neg hj];exact⟨_,rfl⟩
theorem vT:yn X (.type "int") (fun xs H Q=>(∃ i,xs=[.int i]/\Q (.int i) H) \/ ∃ k,xs=[.bl k]/\Q (.int (if k then 1 else 0)) H):=by
 intro pins s σ H xs us Q I r h
 rcases h with⟨i,rfl,q⟩ | ⟨k,rfl,q⟩
 ·obtain⟨u,rfl,t,rfl⟩:=vals1 r
  exact call_int_int ⟨.int i,H,I,⟨_,rfl⟩,q⟩
 ·obtain⟨u,rfl,r1⟩:=vals1 r
  cases r1
  exact call_int_bool ⟨.int (if k then 1 else 0),H,I.tok _,⟨_,rfl⟩,q⟩
end
structure ObjM (h:Heap) (x dx C:Addr) (mA:Str->Option Value):Prop where
 obj:h.get? x=some (PySem.W.instObj C dx)
 ns:h.Ns1 dx mA
 ne:dx≠x
section
variable {prog:Program} {w:World} {A:Around} {E:Value->Shared->Prop} {s:Shared} {K:akq} {x dx C f:Addr} {mA:Str->Option Value} {name:Str} {v:Value}
end
structure Cls (K:akq) (C:Addr):Prop where
 pg:PySem.W.plainGet K C Str.empty=true
 hd:PySem.W.hasDictIn K C=true
 po:PySem.W.plainOver K C=true
 sa:ak8 K (.ref C) "__setattr__"=some (some (.builtin "object.__setattr__"))
structure Con (K:akq) (C:Addr) (f:Str) (v:V) (u:Value):Prop where
 at_:ak8 K (.ref C) f=some (some u)
 rel:RelV v u
 get:alW K u "__get__"=some none
 cp:PySem.W.copiedNames.contains f=false
structure Meth (K:akq) (C:Addr) (m:Str) (f:Addr):Prop where
 at_:ak8 K (.ref C) m=some (some (.ref f))
 fn:am2 K (.ref f)=true
 kp:ak0 K (.ref f)=true
section
variable {X:Cx} {pins:List (Addr×Obj)} {σ:St} {H:Hp} {s:Shared} {a C dx:Addr} {fs:List (Str×V)} {f:Str} {v:V} {A:Around} {E:Value->Shared->Prop}
theorem ahm {prog:Program} {w:World} {env:Env} {e:Expr} {f:Str} {pos:Pos} {s:Shared} {Q:Value->Shared->Prop} (hb:attributeBase e f env (eval e env)=eval e env)
  (h:wpAny (model prog w) A (eval e env) (fun o s₁=>wpAny (model prog w) A (getAttr o f true) Q E s₁) E s):wpAny (model prog w) A (eval (.Attribute e f pos) env) Q E s :=
 Attribute_any_ h (by rw [arm_eval_Attribute,hb])
end
section
variable {X:Cx} {pins:List (Addr×Obj)} {σ:St} {H:Hp} {s:Shared} {A:Around} {E:Value->Shared->Prop} {Q:Value->Shared->Prop} {c:Value} {b:Bool}
inductive TyOf (K:akq) (H:Hp):V->Value->Prop where
 | non:TyOf K H .non (.type "NoneType")
 | bl (x:Bool):TyOf K H (.bl x) (.type "bool")
 | int (i:Int):TyOf K H (.int i) (.type "int")
 | str (x:Str):TyOf K H (.str x) (.type "str")
 | flt (x:UInt64):TyOf K H (.flt x) (.type "float")
 | lst {a:Addr} {xs:List V} (e:H a=some (.lst xs)):TyOf K H (.ref a) (.type "list")
 | frz {a:Addr} {o:Obj} {xs:List V} (e:H a=some (.frz o (.lst xs))):TyOf K H (.ref a) (.type "list")
 | tup {a:Addr} {xs:List V} (e:H a=some (.tup xs)):TyOf K H (.ref a) (.type "tuple")
 | dK {a:Addr} {kvs:List (Key×V)} (e:H a=some (.dK kvs)):TyOf K H (.ref a) (.type "dict")
 | dT {a:Addr} {kvs:List (List Key×V)} (e:H a=some (.dT kvs)):TyOf K H (.ref a) (.type "dict")
 | ins {a C dx:Addr} {fs:List (Str×V)} (e:H a=some (.ins C dx fs)) (cl:Cls K C) (ha:ak8 K (.ref C) "__class__"=some (some (.builtin "object.__class__")))
   (hn:alW K (.builtin "object.__class__") "__get__"=some (some (.builtin "getset_descriptor.__get__"))) (htk:PySem.W.takesIn K (.builtin "object.__class__")=some true)
   (hm:amt K C (.type "object")=some true):TyOf K H (.ref a) (.ref C)
end
structure Room (k:Nat) (A:Around):Prop where
 hd:A.handled=none
 dp:A.depth+3 * k+5<recursionLimit
 un:A.units+16 * k+200<cLine
theorem Room.mono {j k:Nat} {A:Around} (r:Room k A) (h:j<=k):Room j A:=⟨r.hd,by have:=r.dp;omega,by have:=r.un;omega⟩
theorem Room.deeper {k:Nat} {A:Around} (r:Room (k+1) A) (env:Env):Room k (A.deeper env) :=
 ⟨r.hd,by have:=r.dp;show A.depth+1+3 * k+5<_;omega,by have:=r.un;show A.units+3+16 * k+200<_;omega⟩
theorem ade {A:Around} {C:Addr} {us:List Value} {kw:List (Str×Value)}:(A.under (.builtin "type.__call__" ⟨.ref C :: us,kw⟩)).depth=A.depth+1:=by
 first | rfl | simp [anv,Code.weight,Code.isCreation,Code.isGuard,Code.isCaller,Code.frames,anw,guardIds]
theorem adf {A:Around} {C:Addr} {us:List Value} {kw:List (Str×Value)}:(A.under (.builtin "type.__call__" ⟨.ref C :: us,kw⟩)).units=A.units+1:=by
 first | rfl | simp [anv,Code.cUnits,Code.frames,anw]
theorem Room.make {k:Nat} {A:Around} (r:Room (k+1) A) (C:Addr) (us:List Value) (kw:List (Str×Value)):Room k (A.under (.builtin "type.__call__" ⟨.ref C :: us,kw⟩)) :=
 ⟨r.hd,by have:=r.dp;rw [ade];omega,by have:=r.un;rw [adf];omega⟩
theorem Room.depth {k:Nat} {A:Around} (r:Room k A):A.depth<recursionLimit:=by have:=r.dp;omega
theorem Room.units {k:Nat} {A:Around} (r:Room k A):A.units+64<cLine:=by have:=r.un;omega
noncomputable def yR:TA:=fun _ H Q=>Q [] H
noncomputable def zG (ta:TE) (tr:TA):TA:=fun σ H Q=>ta σ H fun x H1=>tr σ H1 fun xs H2=>Q (x :: xs) H2
section
variable {X:Cx} {e:Expr} {es:List Expr} {te:TE} {t:TA} {pos:Pos}
theorem zc:PA X [] yR:=fun _ _ _ _ H Q I h=>amQ ⟨[],H,I,.nil,h⟩
theorem za (ha:PE X e te) (hr:PA X es t) (hs:starEach (e :: es) X.env=(false,eval e X.env) :: starEach es X.env:=by rfl):PA X (e :: es) (zG te t):=by
 intro pos pins s σ H Q I h
 rw [hs]
 show wpAny _ _ (spliced ((false,eval e X.env) :: backTo pos (starEach es X.env))) _ _ s
 refine amI (thn (ha pins s σ H _ I h) fun u s1 ⟨x,H1,I1,r1,q1⟩=>?_)
 exact thn (hr pos pins s1 σ H1 _ I1 q1) fun us s2 ⟨xs,H2,I2,r2,q2⟩=>⟨x :: xs,H2,I2,.cons r1 r2,q2⟩
noncomputable def aiN (t:TA):TE:=fun σ H Q=>t σ H fun xs H1=>xs.length<=sizeLine/\∀ p,H1 p=none->Q (.ref p) (upd H1 p (.tup xs))
noncomputable def afU (t:TA):TE:=fun σ H Q=>t σ H fun xs H1=>xs.length<=sizeLine/\∀ p,H1 p=none->Q (.ref p) (upd H1 p (.lst xs))
theorem zJ {x1} (h:PA X es t):PE X (.Tuple es x1 pos) (aiN t):=by
 intro pins s σ H Q I hq
 refine wpAny_Tuple_spliced (thn (h pos pins s σ H _ I hq) fun us s1 ⟨xs,H1,I1,r,z,q⟩=>⟨by rw [<-r.length];exact z,?_⟩)
 have hf:H1 s1.heap.objs.size=none:=I1.hok.fresh (akA _)
 refine⟨.ref s1.heap.objs.size,upd H1 s1.heap.objs.size (.tup xs),I1.laid (t':=s1.toks) (fun b u e=>aku _ e) (akA _) ?_,rfl,q _ hf⟩
 exact⟨z,us,r,⟨_,akS _ rfl,rfl,_,rfl⟩⟩
theorem ya (h:PA X es t):PE X (.List es pos) (afU t):=by
 intro pins s σ H Q I hq
 refine wpAny_List_spliced (thn (h pos pins s σ H _ I hq) fun us s1 ⟨xs,H1,I1,r,z,q⟩=>⟨by rw [<-r.length];exact z,?_⟩)
 have hf:H1 s1.heap.objs.size=none:=I1.hok.fresh (akA _)
 refine⟨.ref s1.heap.objs.size,upd H1 s1.heap.objs.size (.lst xs),I1.laid (t':=s1.toks) (fun b u e=>aku _ e) (akA _) ?_,rfl,q _ hf⟩
 exact⟨z,us,0,r,akS _ rfl⟩
end
noncomputable abbrev Sp:=List V->Hp->VK->XK->Prop
noncomputable abbrev CXT:=List Env->Hp->Shared->XK->Value->Shared->Prop
structure Env0 (P:Program) (w:World) (K:akq) (mg:Str->Option Value) (base:Heap) (A:Around) (outer:List Env) (s:Shared) (H:Hp):Prop where
 frames:A.frames=some outer
 mod:Mod K mg base
 bs:∀ b o,base.get? b=some o->s.heap.get? b=some o/\H b=none
 bsz:base.objs.size<=s.heap.objs.size
 funs:s.heap.FunFrames base outer
 frf:∀ b∈frs outer,H b=none
 hok:HOk P w H s.heap
 bare:AllBare s.gens
noncomputable def CE (outer:List Env) (P:Program) (w:World) (H:Hp) (s:Shared) (Q:VK) (u:Value) (s':Shared):Prop :=
 ∃ v H',s'.os=s.os/\AllBare s'.gens/\Un (frs outer) [] H H' s.heap s'.heap/\HOk P w H' s'.heap/\RelV v u/\Q v H'
noncomputable def CR (CX:CXT) (outer:List Env) (P:Program) (w:World) (H:Hp) (s:Shared) (Q:VK) (E:XK) (r:Result) (s':Shared):Prop :=
 match r with
 | .ok (.ret u)=>CE outer P w H s Q u s'
 | .ok _=>False
 | .error e=>CX outer H s E e s'
structure FnOk (P:Program) (w:World) (K:akq) (mg:Str->Option Value) (base:Heap) (CX:CXT) (k:Nat) (f:Addr) (fd:FuncData) (ps:List Str) (sp:Sp):Prop where
 len:∀ vs H Q E,sp vs H Q E->vs.length=ps.length
 run:∀ (A:Around) (outer:List Env) (s:Shared) (H:Hp) (args:Args) (us:List Value) (vs:List V) (Q:VK) (E:XK),Room k A->Env0 P w K mg base A outer s H->BindsTo s fd args (ps.zip us)->Vals vs us->sp vs H Q E ->
  codeAny (model P w) A (.call (.ref f) args) (CR CX outer P w H s Q E) s
theorem FnOk.mono {P:Program} {w:World} {K:akq} {mg:Str->Option Value} {base:Heap} {CX:CXT} {j k:Nat} {f:Addr} {fd:FuncData} {ps:List Str} {sp:Sp} (F:FnOk P w K mg base CX j f fd ps sp) (h:j<=k) :
  FnOk P w K mg base CX k f fd ps sp:=⟨F.len,fun A outer s H args us vs Q E hr=>F.run A outer s H args us vs Q E (hr.mono h)⟩
theorem Env0.make {P:Program} {w:World} {K:akq} {mg:Str->Option Value} {base:Heap} {A:Around} {outer:List Env} {s:Shared} {H:Hp} (e:Env0 P w K mg base A outer s H) (C:Addr) (us:List Value) (kw:List (Str×Value)) :
  Env0 P w K mg base (A.under (.builtin "type.__call__" ⟨.ref C :: us,kw⟩)) outer s H:=⟨by first | exact e.frames | (simpa [anv,Code.envs,anw,pushEnvs] using e.frames),e.mod,e.bs,e.bsz,e.funs,e.frf,e.hok,e.bare⟩
section
variable {X:Cx} {pins:List (Addr×Obj)} {σ:St} {H:Hp} {s s':Shared}
theorem Inv.env0 (I:Inv X pins σ H s):Env0 X.prog X.w X.K X.mg X.base X.A X.stack s H :=
 ⟨I.ok.frames,I.ok.mod,I.bs,akV I.ok.bsz I.sz,I.stack,I.stkFree,I.hok,I.bare⟩
theorem Inv.after {Q:VK} {u:Value} (I:Inv X pins σ H s) (h:CE X.stack X.prog X.w H s Q u s'):EP X pins σ Q u s':=by
 obtain⟨v,H',os,bare,un,hok,r,q⟩:=h
 obtain⟨hh,g,d,t,os'⟩:=s'
 obtain rfl:os'=s.os:=os
 exact⟨v,H',I.call (h':=hh) (g':=g) (d':=d) (t':=t) (ch:=[]) un hok bare (fun b z=>absurd z (by simp)),r,q⟩
end
noncomputable def yZ (sp:Sp) (dvs:List V) (E:XK) (t:TA):TE:=fun σ H Q=>t σ H fun vs H1=>sp (vs++dvs) H1 Q E
noncomputable def Binds (K:akq) (fd:FuncData) (ps:List Str) (ds:List Value):Prop :=
 ∀ (s:Shared) (us:List Value),K.In s.heap->(us++ds).length=ps.length->BindsTo s fd ⟨us,[]⟩ (ps.zip (us++ds))
theorem Binds.all {K:akq} {fd:FuncData} {ps:List Str} (h:∀ us:List Value,us.length=ps.length->bindArgs fd ⟨us,[]⟩=pure (ps.zip us)):Binds K fd ps []:=fun s us _ hl=>by
 rw [akY] at hl ⊢
 exact .of_eq (h us hl)
noncomputable def Passes (CX:CXT) (X:Cx) (E:XK):Prop:=∀ (pins:List (Addr×Obj)) (σ:St) (H:Hp) (s:Shared) (e:Value) (s':Shared),Inv X pins σ H s->CX X.stack H s E e s'->X.xe e s'
section
variable {X:Cx} {CX:CXT} {k:Nat} {f C:Addr} {fd:FuncData} {ps:List Str} {sp:Sp} {dvs:List V} {ds:List Value} {E:XK} {x m:Str} {p pos apos:Pos} {e o:Expr} {es:List Expr} {ta:TE} {t:TA}
theorem aiO {pins:List (Addr×Obj)} {σ:St} {H:Hp} {s:Shared} {Q:VK} {us:List Value} {vs:List V} (F:FnOk X.prog X.w X.K X.mg X.base CX k f fd ps sp) (hr:Room k X.A) (hb:Binds X.K fd ps ds) (hd:Vals dvs ds) (hx:Passes CX X E)
  (I:Inv X pins σ H s) (r:Vals vs us) (h:sp (vs++dvs) H Q E):wpAny (model X.prog X.w) X.A (call (.ref f) us) (EP X pins σ Q) X.xe s:=by
 have r2:Vals (vs++dvs) (us++ds):=r.append hd
 have hl:(us++ds).length=ps.length:=by rw [<-r2.length];exact F.len _ _ _ _ h
 refine wpAny_call (codeAny_mono (F.run X.A X.stack s H ⟨us,[]⟩ (us++ds) (vs++dvs) Q E hr I.env0 (hb s us I.kIn hl) r2 h) fun r s' hq=>?_)
 cases r with
 | error e=>exact hx pins σ H s e s' I hq
 | ok fl =>
  cases fl with
  | ret u=>exact I.after hq
  | next=>exact ak2 hq
  | brk=>exact ak2 hq
  | cont=>exact ak2 hq
theorem ahn (F:FnOk X.prog X.w X.K X.mg X.base CX k f fd ps sp) (hr:Room k X.A) (hg:Gl X x) (hm:X.mg x=some (.ref f)) (hk:ak0 X.K (.ref f)=true) (hb:Binds X.K fd ps ds) (hd:Vals dvs ds) (hx:Passes CX X E)
  (ha:PA X (e :: es) t) (hdb:(x == ("__debug__":Str))=false:=by decide) (he:starEach (e :: es) X.env=(false,eval e X.env) :: starEach es X.env:=by rfl) (hpl:(backTo pos (starEach es X.env)).any (·.1)=false:=by rfl) :
  PE X (.Call (.Name x p) (e :: es) [] pos) (yZ sp dvs E t):=by
 intro pins s σ H Q I h
 refine wpAny_Call_Name_kw (j6 I hg hm ?_ hdb)
 refine ame (h₀:=X.base) I.ok.mod.kin hk (thn (ha pos pins s σ H _ I h) fun us s1 ⟨vs,H1,I1,r,q⟩=>⟨I1.kIn,?_⟩) he hpl
 exact aiO F hr hb hd hx I1 r q
structure Mk (K:akq) (C f:Addr):Prop where
 makes:PySem.W.makesIn K C=true
 init:ak8 K (.ref C) "__init__"=some (some (.ref f))
 fn:am2 K (.ref f)=true
 kp:ak0 K (.ref C)=true
end
section
variable {X:Cx} {CX:CXT} {k:Nat} {f C:Addr} {fd:FuncData} {ps ks:List Str} {sp:Sp} {E:XK} {x m:Str} {p pos apos kpos:Pos} {e o:Expr} {es:List Expr} {kws:List Keyword} {te ta:TE} {t tk:TA} {nm:Option Str}
structure KBinds (K:akq) (fd:FuncData) (ps ks:List Str) (g:List Value->List Value->List Value) (gV:List V->List V->List V):Prop where
 to:∀ (s:Shared) (us ws:List Value),K.In s.heap->(g us ws).length=ps.length->BindsTo s fd ⟨us,ks.zip ws⟩ (ps.zip (g us ws))
 rel:∀ {vs:List V} {us:List Value} {zs:List V} {ws:List Value},Vals vs us->Vals zs ws->Vals (gV vs zs) (g us ws)
variable {g:List Value->List Value->List Value} {gV:List V->List V->List V}
end
structure FnScope (N P:List Str) (sc:Scope):Prop where
 kind:sc.kind=.function
 co:sc.isCoroutine=false
 gen:sc.isGenerator=false
 nd:N.Nodup
 pre:N.take P.length=P
 par:∀ x∈P,sc.names.lookup x=some .local \/ sc.names.lookup x=some .cell
 nofree:∀ y∈sc.names,y.2≠.free
theorem abn {kindOf:Str->Option NameKind} {x:Str}:∀ {binds:List (Str×Value)} {m:Str->Option Value},(∀ v,(x,v)∉binds)->bindL kindOf binds m x=m x
 | [],_,_=>rfl
 | (n,v) :: r,m,h=>by
  unfold bindL
  rw [abn fun w hw=>h w (akv _ hw)]
  split
  ·have:x≠n:=by rintro rfl;exact h v akE
   simp [this]
  ·rfl
theorem abo {kindOf:Str->Option NameKind} {x:Str}:∀ {binds:List (Str×Value)} {m:Str->Option Value},(∀ v,(x,v)∉binds)->bindC kindOf binds m x=m x
 | [],_,_=>rfl
 | (n,v) :: r,m,h=>by
  unfold bindC
  rw [abo fun w hw=>h w (akv _ hw)]
  split
  ·rfl
  ·have:x≠n:=by rintro rfl;exact h v akE
   simp [this]
theorem abp {kindOf:Str->Option NameKind} {x:Str} {v:Value}:∀ {P:List Str} {vs:List Value} {i:Nat} {m:Str->Option Value},P.Nodup->P[i]?=some x->vs[i]?=some v->kindOf x=some .local ->
  bindL kindOf (P.zip vs) m x=some v
 | [],_,_,_,_,h,_,_=>by simp at h
 | _ :: _,[],_,_,_,_,h,_=>by simp at h
 | p :: P,w :: vs,0,m,nd,h1,h2,hk=>by
  simp at h1 h2;subst h1;subst h2
  show bindL kindOf ((p,w) :: P.zip vs) m p=_
  unfold bindL
  rw [abn fun v hv=>(alz.mp nd).1 (amw hv).1,if_pos hk]
  simp
 | p :: P,w :: vs,i+1,m,nd,h1,h2,hk=>by
  show bindL kindOf ((p,w) :: P.zip vs) m x=_
  unfold bindL
  exact abp (i:=i) (alz.mp nd).2 (by simpa using h1) (by simpa using h2) hk
theorem abq {kindOf:Str->Option NameKind} {x:Str} {v:Value}:∀ {P:List Str} {vs:List Value} {i:Nat} {m:Str->Option Value},P.Nodup->P[i]?=some x->vs[i]?=some v->kindOf x≠some .local ->
  bindC kindOf (P.zip vs) m x=some v
 | [],_,_,_,_,h,_,_=>by simp at h
 | _ :: _,[],_,_,_,_,h,_=>by simp at h
 | p :: P,w :: vs,0,m,nd,h1,h2,hk=>by
  simp at h1 h2;subst h1;subst h2
  show bindC kindOf ((p,w) :: P.zip vs) m p=_
  unfold bindC
  rw [abo fun v hv=>(alz.mp nd).1 (amw hv).1,if_neg hk]
  simp
 | p :: P,w :: vs,i+1,m,nd,h1,h2,hk=>by
  show bindC kindOf ((p,w) :: P.zip vs) m x=_
  unfold bindC
  exact abq (i:=i) (alz.mp nd).2 (by simpa using h1) (by simpa using h2) hk
noncomputable def start (N:List Str) (vs:List V):St:=vs.map some++al0 (N.length - vs.length) none
noncomputable def zV (CX:CXT) (P:Program) (w:World) (K:akq) (mg:Str->Option Value) (base:Heap) (N:List Str) (qual:Str) (scope:Scope) (f:Addr) (cd:Value) (A:Around) (outer:List Env) (s:Shared) (H:Hp) (E:XK):Cx where
 prog:=P
 w:=w
 K:=K
 mg:=mg
 base:=base
 A:=A.deeper (envOfC qual scope s.heap.objs.size f cd)
 N:=N
 s₀:=s
 H₀:=H
 env:=envOfC qual scope s.heap.objs.size f cd
 outer:=outer
 stack:=envOfC qual scope s.heap.objs.size f cd :: outer
 ex:=[]
 calm:=true
 fn:=fun _=>true
 pn:=[]
 xe:=fun e s'=>wpAny (model P w) (A.deeper (envOfC qual scope s.heap.objs.size f cd)) (leaving (envOfC qual scope s.heap.objs.size f cd) e) (fun _ s''=>CX outer H s E e s'') (fun e' s''=>CX outer H s E e' s'') s'
theorem acr {sc:Scope} {n:Nat} {x:Str} (h:sc.names.lookup x=some .cell):∃ c,(cellsFrom n sc.names []).lookup x=some c:=by
 have q:=alA sc.names n [] (.inl h)
 exact alw.mp q
theorem abr {CX:CXT} {P:Program} {w:World} {K:akq} {mg:Str->Option Value} {base:Heap} {N ps:List Str} {qual:Str} {scope:Scope} {f:Addr} {cd:Value} {A:Around} {outer:List Env} {s s1:Shared} {H:Hp} {E:XK} {us:List Value} {vs:List V}
  (S:FnScope N ps scope) (hd:A.handled=none) (e0:Env0 P w K mg base A outer s H) (hl:vs.length=ps.length) (r:Vals vs us)
  (x:InCallC s s.heap.objs.size (bindL (envOfC qual scope s.heap.objs.size f cd).kindOf (ps.zip us) fun _=>none) (cellsFrom (s.heap.objs.size+1) scope.names []) (bindC (envOfC qual scope s.heap.objs.size f cd).kindOf (ps.zip us) fun _=>none) s1) :
  Inv (zV CX P w K mg base N qual scope f cd A outer s H E) [] (start N vs) H s1:=by
 have hpl:ps.length<=N.length:=by have:=congrArg amR S.pre;rw [akW] at this;omega
 obtain⟨h1,tk,rfl,hk⟩:=x.done
 have noA:∀ b:Addr,b∉(zV CX P w K mg base N qual scope f cd A outer s H E).ex:=fun b z=>absurd (show b∈([]:List Addr) from z) (by simp)
 refine⟨⟨e0.mod,S.kind,rfl,rfl,akA _,fun y z c h1 h2=>?_,fun y hy=>?_,fun y c _ h=>?_,fun _=>hd,anc e0.frames,.inr ⟨rfl,rfl⟩,fun b z=>absurd z (noA b),e0.bs,e0.bsz,fun b _ _=>noA b,fun b z=>absurd z (noA b),e0.funs,e0.frf⟩,
  rfl,e0.bare,Un.kept hk,⟨_,x.toInCall.ns,fun i y v h1 h2 h3=>?_⟩,fun y c h=>⟨_,x.cell y c h⟩,e0.hok.fresh (akA _),fun y c h=>?_,fun p hp=>absurd (show p∈([]:List (Addr×Obj)) from hp) (by simp),e0.hok.kept hk,?_⟩
 ·exact name_of_addr x.apart (alP h1) (alP h2)
 ·have hy:scope.names.lookup y=some .cell \/ scope.names.lookup y=some .free:=hy
  rcases hy with hy | hy
  ·exact acr hy
  ·exact absurd rfl (S.nofree _ (alP hy))
 ·exact ale (x.above y c (alP h))
 ·have hi:i<vs.length:=by
   unfold start at h2
   by_cases hi:i<vs.length
   ·exact hi
   ·rw [akL (by simpa using hi)] at h2
    rw [alR] at h2
    split at h2 <;> cases h2
  have ha:vs[i]?=some v:=by
   unfold start at h2
   rw [akK (by simpa using hi),akz] at h2
   cases e:vs[i]? with
   | none=>rw [e] at h2;cases h2
   | some a=>rw [e] at h2;cases h2;rfl
  obtain⟨u,hu,rv⟩:=r.get ha
  have hp:ps[i]?=some y:=by
   rw [<-S.pre,List.getElem?_take_of_lt (by omega)];exact h1
  have ndP:ps.Nodup:=by rw [<-S.pre];exact S.nd.sublist (List.take_sublist _ _)
  refine⟨u,rv,?_⟩
  rcases S.par y (akC hp) with k | k
  ·exact .inl ⟨k,abp ndP hp hu k⟩
  ·obtain⟨c,e⟩:=acr (n:=s.heap.objs.size+1) k
   refine .inr ⟨.inl k,c,e,?_⟩
   have q:=x.cell y c e
   rw [abq ndP hp hu (by show scope.names.lookup y≠_;rw [k];decide)] at q
   exact q
 ·exact e0.hok.fresh (ale (x.above y c (alP h)))
 ·unfold start
  show _=N.length
  rw [akD,akp,amn]
  omega
theorem aih {CX:CXT} {P:Program} {w:World} {K:akq} {mg:Str->Option Value} {base:Heap} {k:Nat} {f:Addr} {name qual:Str} {params:Arguments} {body:List Stmt} {scope:Scope} {dV kV doc pm cdv ct oc:Value} {an od:Option Addr}
  {osl:Array (Option Value)} {N ps:List Str} {sp:Sp} (lk:K.lookup f=some ⟨oc,od,.func (ak6 name qual params body scope dV kV doc pm an cdv ct),osl⟩) (hcd:al1 K cdv qual=true) (S:FnScope N ps scope)
  (len:∀ vs H Q E,sp vs H Q E->vs.length=ps.length)
  (hbody:∀ (A:Around) (outer:List Env) (s:Shared) (H:Hp) (vs:List V) (Q:VK) (E:XK),Room k (A.deeper (envOfC qual scope s.heap.objs.size f cdv))->sp vs H Q E ->
   ∃ t,PSs (zV CX P w K mg base N qual scope f cdv A outer s H E) body t/\t { nx:=fun _ H'=>Q .non H',rt:=Q } (start N vs) H) :
  FnOk P w K mg base CX (k+1) f (ak6 name qual params body scope dV kV doc pm an cdv ct) ps sp:=by
 refine⟨len,fun A outer s H args us vs Q E hr e0 hb r hsp=>?_⟩
 have hl:=len _ _ _ _ hsp
 have KX:K.In s.heap:=e0.mod.kin.keeps fun b o e=>(e0.bs b o e).1
 have lim:s.heap.NoLimit:=e0.mod.nolimit.keeps fun b o e=>(e0.bs b o e).1
 have hkind:∀ y∈ps.zip us,scope.names.lookup y.1=some .local \/ (scope.names.lookup y.1=some .cell/\((cellsFrom (s.heap.objs.size+1) scope.names []).lookup y.1).isSome=true):=fun⟨n,v⟩ hy=>by
  rcases S.par n (amw hy).1 with q | q
  ·exact .inl q
  ·exact .inr ⟨q,alA _ _ _ (.inl q)⟩
 refine codeAny_call_function hr.depth (KX _ _ lk) rfl S.co S.gen rfl (PySem.W.codeRec_of KX hcd) (hb _ _ _ _ ?_)
 refine wpAny_newFunctionEnv_cells S.kind hkind fun env he s1 x=>?_
 subst he
 refine⟨lim.keeps x.toInCall.keep,codeAny_func ?_⟩
 obtain⟨t,ht,hq⟩:=hbody A outer s H vs Q E (hr.deeper _) hsp
 have I:Inv (zV CX P w K mg base N qual scope f cdv A outer s H E) [] (start N vs) H s1:=abr S hr.hd e0 hl r x
 refine wpAny_mono (ht [] s1 (start N vs) H _ I hq) (fun fl s' hs=>?_) fun e s' hs=>hs
 have fin:∀ {σ':St} {H':Hp} {v:V} {u:Value},Inv (zV CX P w K mg base N qual scope f cdv A outer s H E) [] σ' H' s'->RelV v u->Q v H'->CE outer P w H s Q u s' :=
  fun {σ' H' v u} J rv q=>⟨v,H',J.os,J.bare,J.base,J.hok,rv,q⟩
 cases fl with
 | ret u =>
  obtain⟨v,σ',H',J,rv,q⟩:=hs
  exact fin J rv q
 | next =>
  obtain⟨σ',H',J,q⟩:=hs
  exact fin (v:=V.non) (u:=Value.none) J rfl q
 | brk =>
  obtain⟨_,_,_,q⟩:=hs
  exact ak2 q
 | cont =>
  obtain⟨_,_,_,q⟩:=hs
  exact ak2 q
section
variable {X:Cx} {x:Str} {p pos:Pos} {e:Expr} {es:List Expr} {t:TA} {id T:String} {r:List V->Hp->VK->Prop}
noncomputable def tCB (r:List V->Hp->VK->Prop) (t:TA):TE:=fun σ H Q=>t σ H fun vs H1=>r vs H1 Q
theorem zo (hc:yn X (.builtin id) r) (hg:Gl X x) (hm:X.mg x=none) (hv:bootBuiltins x=some (.builtin id)) (ha:PA X (e :: es) t) (hn:x ≠ "__name__":=by decide) (hdb:(x == ("__debug__":Str))=false:=by decide)
  (he:starEach (e :: es) X.env=(false,eval e X.env) :: starEach es X.env:=by rfl) (hpl:(backTo pos (starEach es X.env)).any (·.1)=false:=by rfl):PE X (.Call (.Name x p) (e :: es) [] pos) (tCB r t):=by
 intro pins s σ H Q I h
 refine wpAny_Call_Name_kw (jx I hg hm hv ?_ hn hdb)
 exact amr (thn (ha pos pins s σ H _ I h) fun us s1 ⟨vs,H1,I1,r1,q1⟩=>hc pins s1 σ H1 vs us Q I1 r1 q1) he hpl
theorem yz (hc:yn X (.type T) r) (hg:Gl X x) (hm:X.mg x=none) (hv:bootBuiltins x=some (.type T)) (ha:PA X (e :: es) t) (hn:x ≠ "__name__":=by decide) (hdb:(x == ("__debug__":Str))=false:=by decide)
  (he:starEach (e :: es) X.env=(false,eval e X.env) :: starEach es X.env:=by rfl) (hpl:(backTo pos (starEach es X.env)).any (·.1)=false:=by rfl):PE X (.Call (.Name x p) (e :: es) [] pos) (tCB r t):=by
 intro pins s σ H Q I h
 refine wpAny_Call_Name_kw (jx I hg hm hv ?_ hn hdb)
 exact akT (thn (ha pos pins s σ H _ I h) fun us s1 ⟨vs,H1,I1,r1,q1⟩=>hc pins s1 σ H1 vs us Q I1 r1 q1) he hpl
end
end L2
namespace HT
open PySem PyProof.Rows
section
open PySem.SeqAt
open PySem.AutoSeq1 (wpAny_loadPart')
open PySem.MeetsSeq PySem.MeetsSeq2 PySem.MeetsSeq3
end
section
variable {prog:Program} {w:World} {A:Around} {E:Value->Shared->Prop} {s:Shared}
theorem cat_tup {t b:Addr} {vs ws:List Value} {Q:Value->Shared->Prop} (ht:IsTup s.heap t vs.toArray) (hb:IsTup s.heap b ws.toArray) (hv:vs≠[])
  (h1:ws=[]->Q (.ref t) s) (h2:ws≠[]->Q (.ref s.heap.objs.size) { s with heap:=s.heap.push { cls:=.type "tuple",data:=.seq (vs++ws).toArray } })
  (hsz:vs.length+ws.length<=sizeLine):wpAny (model prog w) A (binaryOp .Add (.ref t) (.ref b)) Q E s:=by
 obtain⟨⟨cls,dd,data,sl⟩,ho,hc,n,hd⟩:=id ht
 obtain⟨⟨cls2,dd2,data2,sl2⟩,ho2,hc2,n2,hd2⟩:=id hb
 simp only at hc hd hc2 hd2
 subst hc hd hc2 hd2
 have e:vs.toArray++ws.toArray=(vs++ws).toArray:=by simp
 by_cases hw:ws=[]
 ·exact concat_meets ⟨_,ho,rfl⟩ ⟨_,ho2,rfl⟩ noFill_tuple_add seq_tuple_add amh amf (amb _ _)
   (tuple_addW1 t b vs.toArray ws.toArray n n2 dd dd2 sl sl2 (by simpa using hv) (by simp [hw])) ⟨ho,ho2,h1 hw⟩
 ·refine concat_meets ⟨_,ho,rfl⟩ ⟨_,ho2,rfl⟩ noFill_tuple_add seq_tuple_add amh amf (amb _ _)
   (tuple_addW2 t b vs.toArray ws.toArray n n2 dd dd2 sl sl2 (by simpa using hv) (by simpa using hw) (by rw [akx,akx];exact hsz)) ⟨ho,ho2,?_⟩
  rw [e]
  exact h2 hw
noncomputable def sIx (n d:Nat):Option Int->Nat
 | none=>d
 | some v=>if v<0 then (v+(n:Int)).toNat else min v.toNat n
theorem sIx_none (n d:Nat):sIx n d none=d:=rfl
theorem sIx_nat (n d k:Nat):sIx n d (some (k:Int))=min k n:=by
 show (if (k:Int)<0 then ((k:Int)+(n:Int)).toNat else min (k:Int).toNat n)=min k n
 rw [if_neg (by omega),akR]
theorem aiP (n d:Nat) (hd:d<=n) (o:Option Int):sIx n d o<=n:=by
 cases o with
 | none=>exact hd
 | some v =>
  show (if v<0 then (v+(n:Int)).toNat else min v.toNat n)<=n
  by_cases hv:v<0
  ·rw [if_pos hv];omega
  ·rw [if_neg hv];exact amZ _ _
theorem adU (v:Int) (n d:Nat):(if v<0 then max (v+(n:Int)) 0 else min v (n:Int))=((sIx n d (some v):Nat):Int):=by
 show (if v<0 then max (v+(n:Int)) 0 else min v (n:Int))=(((if v<0 then (v+(n:Int)).toNat else min v.toNat n):Nat):Int)
 by_cases hv:v<0
 ·simp only [if_pos hv];omega
 ·simp only [if_neg hv];omega
theorem adg (lo hi:Option Int) (n:Nat):al8 lo hi 1 (n:Int)=(((sIx n 0 lo:Nat):Int),((sIx n n hi:Nat):Int)):=by
 have h1:¬ ((1:Int)<0):=by omega
 unfold al8
 simp only [h1,if_false]
 refine Prod.ext ?_ ?_
 ·cases lo with
  | none=>rfl
  | some v=>exact adU v n 0
 ·cases hi with
  | none=>rfl
  | some v=>exact adU v n n
theorem adh (i j:Nat):alE (i:Int) (j:Int) 1=j - i:=by
 unfold alE
 have h1:(1:Int) > 0:=by omega
 simp only [h1,if_true,Int.ediv_one]
 split <;> omega
theorem aaH {v:Value} {o:Option Int} {Q:Option Int->Shared->Prop} (p:IsPart v o) (h:Q o s):wpAny (model prog w) A (Builtin.Slice.slicePartIndex v) Q E s:=by
 cases p with
 | none=>exact slicePart_none h
 | int i t=>exact slicePart_int h
theorem vU {sl:Addr} {vl vu:Value} {lo hi:Option Int} {n:Nat} {Q:Int×Int×Nat->Shared->Prop} (hs:s.heap.IsSliceOf sl vl vu .none) (pl:IsPart vl lo) (pu:IsPart vu hi)
  (h:Q (((sIx n 0 lo:Nat):Int),1,sIx n n hi - sIx n 0 lo) s):wpAny (model prog w) A (amJ (.ref sl) (pure (n:Int))) Q E s:=by
 obtain⟨os,hos,hcs,hds⟩:=id hs
 unfold amJ Builtin.Slice.sliceFields
 refine wpAny_bind (wpAny_bind (wpAny_field hos hds (x:=vl) rfl (wpAny_bind (wpAny_field hos hds (x:=vu) rfl (wpAny_bind (wpAny_field hos hds (x:=.none) rfl (wpAny_pure ?_)))))))
 refine wpAny_bind (slicePart_none ?_)
 show wpAny _ _ (if ((1:Int) == 0)=true then _ else _) _ _ s
 rw [if_neg (by decide)]
 refine wpAny_bind (aaH pl (wpAny_bind (aaH pu (wpAny_bind (wpAny_pure ?_)))))
 show wpAny _ _ (match al8 lo hi 1 (n:Int) with | (lo,hi)=>pure (lo,(1:Int),alE lo hi 1)) _ _ s
 rw [adg lo hi n]
 show wpAny _ _ (pure (((sIx n 0 lo:Nat):Int),(1:Int),alE ((sIx n 0 lo:Nat):Int) ((sIx n n hi:Nat):Int) 1)) _ _ s
 rw [adh]
 exact wpAny_pure h
theorem afV (xs:Array Value) (i k:Nat):((alc k).filterMap fun (m:Nat)=>xs[((i:Int)+(m:Int) * 1).toNat]?).toArray=((xs.toList.drop i).take k).toArray:=by
 have e:(fun (m:Nat)=>xs[((i:Int)+(m:Int) * 1).toNat]?)=fun m=>xs[i+m]?:=by
  funext m
  have:((i:Int)+(m:Int) * 1).toNat=i+m:=by omega
  rw [this]
 rw [e]
 have:=pick_run xs i k
 rw [List.filterMap_map] at this
 have e2:((fun x=>xs[x]?) ∘ fun x=>i+x)=fun m=>xs[i+m]?:=rfl
 rw [e2] at this
 rw [this]
theorem getItem_tuple_cut {t sl:Addr} {items:Array Value} {vl vu:Value} {lo hi:Option Int} {Q:Value->Shared->Prop} (ht:IsTup s.heap t items) (hs:s.heap.IsSliceOf sl vl vu .none) (pl:IsPart vl lo) (pu:IsPart vu hi)
  (hw:¬ (sIx items.size 0 lo=0/\sIx items.size items.size hi=items.size))
  (h:Q (.ref s.heap.objs.size) { s with heap:=s.heap.push { cls:=.type "tuple",data:=.seq ((items.toList.drop (sIx items.size 0 lo)).take (sIx items.size items.size hi - sIx items.size 0 lo)).toArray } })
  (hsz:items.size<=sizeLine):wpAny (model prog w) A (getItem (.ref t) (.ref sl)) Q E s:=by
 have htake:sizeOk (.seq ((items.toList.drop (sIx items.size 0 lo)).take (sIx items.size items.size hi - sIx items.size 0 lo)).toArray):=by
  show ((items.toList.drop (sIx items.size 0 lo)).take (sIx items.size items.size hi - sIx items.size 0 lo)).toArray.size<=sizeLine
  rw [akx,akW,als,alb]
  omega
 have hj:sIx items.size items.size hi<=items.size:=aiP _ _ (akA _) hi
 obtain⟨os,hos,hcs,hds⟩:=id hs
 have hTs:s.TypeIs (.ref sl) "slice":=⟨os,hos,hcs⟩
 unfold getItem
 try with_reducible refine wpAny_holding ?_
 first | refine wpAny_bind (wpAny_pure ?_) | skip
 refine wpAny_bind (wpAny_sequenceKey ht.typeIs (by decide) ?_)
 refine wpAny_bind (wpAny_callSpecial?_slot (name:=amB "__getitem__") ht.typeIs alN
  (wpAny_call_entry alN ht.typeIs entry_tuple_getitem ?_ (args_tuple_getitem _ _)))
 show wpAny _ _ (Builtin.Tuple.tupleItemsOf (.ref t) >>= _) _ _ s
 refine wpAny_bind (tupleItemsOf_ ht ?_)
 refine wpAny_bind (wpAny_typeOf hTs ?_)
 rw [if_pos (by decide)]
 refine wpAny_bind (vU hs pl pu ?_)
 have hno:¬ ((((sIx items.size 0 lo:Nat):Int) == 0 && (1:Int) == 1 && (sIx items.size items.size hi - sIx items.size 0 lo) == items.size)=true):=by
  intro q
  rw [alk,alk] at q
  have q1:((sIx items.size 0 lo:Nat):Int)=0:=eq_of_beq q.1.1
  have q2:sIx items.size items.size hi - sIx items.size 0 lo=items.size:=eq_of_beq q.2
  exact hw ⟨by omega,by omega⟩
 show wpAny _ _ (if (((sIx items.size 0 lo:Nat):Int) == 0 && (1:Int) == 1 && (sIx items.size items.size hi - sIx items.size 0 lo) == items.size)=true then _ else _) _ _ s
 rw [if_neg hno,afV]
 first
  | exact wpAny_bind (m:=alI _) (wpAny_newObj_type (wpAny_pure ⟨_,rfl,wpAny_pure h⟩) htake)
  | exact wpAny_bind (m:=alI _) (wpAny_newObj_type (wpAny_bind (wpAny_pure (wpAny_pure ⟨_,rfl,wpAny_pure h⟩))) htake)
  | exact wpAny_bind (wpAny_bind (m:=alI _) (wpAny_newObj_type (wpAny_pure (wpAny_pure ⟨_,rfl,wpAny_pure h⟩)) htake))
  | exact wpAny_bind (wpAny_bind (m:=alI _) (wpAny_newObj_type (wpAny_pure ⟨_,rfl,wpAny_pure h⟩) htake))
end
end HT
namespace L2
open PySem PySem.Spec PyProof.Rows
noncomputable abbrev TO:=St->Hp->(Option Int->Hp->Prop)->Prop
noncomputable def PO (X:Cx) (e:Option Expr) (t:TO):Prop :=
 ∀ (pins:List (Addr×Obj)) (s:Shared) (σ:St) (H:Hp) (Q:Option Int->Hp->Prop),Inv X pins σ H s->t σ H Q ->
  wpAny (model X.prog X.w) X.A (evalPart e X.env) (fun u s'=>∃ o H',Inv X pins σ H' s'/\IsPart u o/\Q o H') X.xe s
noncomputable def adV:TO:=fun _ H Q=>Q none H
noncomputable def aii (t:TE):TO:=fun σ H Q=>t σ H fun x H1=>∃ i,x=.int i/\Q (some i) H1
theorem intsAre_of {ns:List Int}:∀ {us:List Value},Vals (ns.map V.int) us->IntsAre us ns:=by
 induction ns with
 | nil=>intro us r;rw [anx] at r;cases r;exact .nil
 | cons n ns ih =>
  intro us r
  rw [alJ] at r
  cases r with
  | cons r1 r2 =>
   obtain⟨t,e⟩:=r1
   subst e
   exact .cons n t (ih r2)
section
variable {X:Cx} {e:Expr} {te:TE} {lo hi:Option Expr} {tl th:TO} {pos p2:Pos}
theorem jC:PO X none adV:=by
 intro pins s σ H Q I h
 rw [evalPart_none]
 exact wpAny_pure ⟨none,H,I,.none,h⟩
theorem jD (h:PE X e te):PO X (some e) (aii te):=by
 intro pins s σ H Q I hw
 rw [evalPart_some]
 refine thn (h pins s σ H _ I hw) fun u s1 ⟨x,H1,I1,r1,q1⟩=>?_
 obtain⟨i,rfl,q⟩:=q1
 obtain⟨t,rfl⟩:=r1
 exact⟨some i,H1,I1,.int i t,q⟩
noncomputable def SlR (X:Cx) (r:V->Option Int->Option Int->Hp->VK->Prop):Prop :=
 ∀ (pins:List (Addr×Obj)) (s:Shared) (σ:St) (H:Hp) (x:V) (v vl vu:Value) (lo hi:Option Int) (sl:Addr) (Q:VK),Inv X pins σ H s->RelV x v->s.heap.IsSliceOf sl vl vu .none->IsPart vl lo->IsPart vu hi->r x lo hi H Q ->
  ∃ T id,typeLookup (.type T) "__getitem__"=pure (some (.builtin id))/\s.TypeIs v T/\wpAny (model X.prog X.w) X.A (getItem v (.ref sl)) (EP X pins σ Q) X.xe s
noncomputable def tSl (r:V->Option Int->Option Int->Hp->VK->Prop) (te:TE) (tl th:TO):TE:=fun σ H Q=>te σ H fun x H1=>tl σ H1 fun l H2=>th σ H2 fun u H3=>r x l u H3 Q
theorem jh {r:V->Option Int->Option Int->Hp->VK->Prop} (hr:SlR X r) (he:PE X e te) (hl:PO X lo tl) (hu:PO X hi th):PE X (.Subscript e (.Slice lo hi none p2) pos) (tSl r te tl th):=by
 intro pins s σ H Q I h
 refine Subscript_ (thn (he pins s σ H _ I h) fun v s1 ⟨x,H1,I1,r1,q1⟩=>?_)
 refine wpAny_Slice (thn (hl pins s1 σ H1 _ I1 q1) fun vl s2 ⟨l,H2,I2,pl,q2⟩=>thn (hu pins s2 σ H2 _ I2 q2) fun vu s3 ⟨u,H3,I3,pu,q3⟩=>?_)
 rw [evalPart_none]
 refine wpAny_pure ?_
 have I4:Inv X pins σ H3 { s3 with heap:=s3.heap.push { cls:=.type "slice",data:=.fields #[vl,vu,.none] } }:=I3.kept (t':=s3.toks) fun b ob q=>aku _ q
 obtain⟨T,id,hT,ht,hg⟩:=hr pins { s3 with heap:=s3.heap.push { cls:=.type "slice",data:=.fields #[vl,vu,.none] } } σ H3 x v vl vu l u s3.heap.objs.size Q I4 r1 (Heap.IsSliceOf.new ..) pl pu q3
 show wpAny (model X.prog X.w) X.A (subscriptTail e (.Slice lo hi none p2) v (.ref s3.heap.objs.size)) (EP X pins σ Q) X.xe { s3 with heap:=s3.heap.push { cls:=.type "slice",data:=.fields #[vl,vu,.none] } }
 exact tail_any (ops:=[.ref s3.heap.objs.size,v]) ht hT hg (by with_unfolding_all rfl)
noncomputable def aa7 (xs:List V) (lo hi:Option Int):List V:=(xs.drop (HT.sIx xs.length 0 lo)).take (HT.sIx xs.length xs.length hi - HT.sIx xs.length 0 lo)
theorem aad (xs:List V) (lo hi:Option Int):(aa7 xs lo hi).length<=xs.length:=by
 unfold aa7
 rw [akW,als]
 omega
noncomputable def aiQ (K:akq):V->Option Int->Option Int->Hp->VK->Prop:=fun x lo hi H Q=>∃ a xs,x=.ref a/\SqT K H a xs /\
 ¬ (HT.sIx xs.length 0 lo=0/\HT.sIx xs.length xs.length hi=xs.length)/\∀ p,H p=none->Q (.ref p) (upd H p (.tup (aa7 xs lo hi)))
theorem aiR:SlR X (aiQ X.K):=by
 intro pins s σ H x v vl vu lo hi sl Q I rx hs pl pu h
 obtain⟨a,xs,rfl,hx,hw,q⟩:=h
 cases rx
 obtain⟨its,r,ht,hz⟩:=I.tuple hx
 have hlen:its.toArray.size=xs.length:=by rw [akx];exact r.length.symm
 refine⟨"tuple",_,alN.lookup,ht.typeIs,?_⟩
 refine HT.getItem_tuple_cut ht hs pl pu (by rw [hlen];exact hw) ?_ (by rw [hlen];exact hz)
 rw [hlen]
 refine⟨.ref s.heap.objs.size,_,I.laid (t':=s.toks) (o:=.tup (aa7 xs lo hi)) (fun b ob q=>aku _ q) (akA _) ?_,rfl,q _ (I.hok.fresh (akA _))⟩
 exact⟨akV (aad xs lo hi) hz,_,(r.drop (HT.sIx xs.length 0 lo)).take (HT.sIx xs.length xs.length hi - HT.sIx xs.length 0 lo),anm _ _⟩
noncomputable def afW (K:akq):R2:=fun x y H Q=>∃ a b xs ys,x=.ref a/\y=.ref b/\SqT K H a xs/\SqT K H b ys/\xs≠[]/\xs.length+ys.length<=sizeLine /\
 (ys=[]->Q (.ref a) H)/\(ys≠[]->∀ p,H p=none->Q (.ref p) (upd H p (.tup (xs++ys))))
theorem Vals.nil_iff {xs:List V} {us:List Value} (r:Vals xs us):us=[]↔xs=[]:=by
 cases r with
 | nil=>simp
 | cons _ _=>simp
theorem aho:OpR X (binaryOp .Add) (afW X.K):=by
 intro pins s σ H x y v u Q I rx ry h
 obtain⟨a,b,xs,ys,rfl,rfl,ha,hb,hx,hz,q1,q2⟩:=h
 cases rx
 cases ry
 obtain⟨its,r1,p1,_⟩:=I.tuple ha
 obtain⟨its2,r2,p2,_⟩:=I.tuple hb
 refine HT.cat_tup p1 p2 (fun z=>hx (r1.nil_iff.mp z)) (fun z=>⟨.ref a,H,I,rfl,q1 (r2.nil_iff.mp z)⟩) (fun z=>?_) (by rw [<-r1.length,<- r2.length];exact hz)
 refine⟨.ref s.heap.objs.size,_,I.laid (t':=s.toks) (o:=.tup (xs++ys)) (fun b ob q=>aku _ q) (akA _) ?_,rfl,q2 (fun w=>z (r2.nil_iff.mpr w)) _ (I.hok.fresh (akA _))⟩
 exact⟨by rw [akD];exact hz,_,r1.append r2,anm _ _⟩
end
noncomputable def ixN (n:Nat) (i:Int):Option Nat:=if 0<=i then (if i<n then some i.toNat else none) else if -(n:Int)<=i then some (i+n).toNat else none
noncomputable def atI {α:Type} (xs:List α) (i:Int):Option α:=(ixN xs.length i).bind fun j=>xs[j]?
theorem adW {n:Nat} {i:Int} {j:Nat} (h:ixN n i=some j):seqIndex? i n=some j/\j<n/\-(n:Int)<=i/\i<n:=by
 unfold ixN at h
 by_cases h0:0<=i
 ·rw [if_pos h0] at h
  by_cases h1:i<n
  ·rw [if_pos h1] at h
   have e:i.toNat=j:=Option.some.inj h
   exact⟨by rw [seqIndex_of h0 h1,e],by omega,by omega,h1⟩
  ·rw [if_neg h1] at h;cases h
 ·rw [if_neg h0] at h
  by_cases h1:-(n:Int)<=i
  ·rw [if_pos h1] at h
   have e:(i+n).toNat=j:=Option.some.inj h
   exact⟨by rw [seqIndex_neg (by omega) h1,e],by omega,h1,by omega⟩
  ·rw [if_neg h1] at h;cases h
theorem adX {α:Type} {xs:List α} {i:Int} {v:α} (h:atI xs i=some v):∃ j,seqIndex? i xs.length=some j/\xs[j]?=some v/\j<xs.length/\-(xs.length:Int)<=i/\i<xs.length:=by
 unfold atI at h
 cases e:ixN xs.length i with
 | none=>rw [e] at h;cases h
 | some j =>
  rw [e] at h
  obtain⟨h1,h2,h3,h4⟩:=adW e
  exact⟨j,h1,h,h2,h3,h4⟩
theorem vA {α:Type} {xs:List α} {j:Nat} {v:α} (h:xs[j]?=some v):atI xs (j:Int)=some v:=by
 have hj:j<xs.length:=(aks.mp h).1
 have e:ixN xs.length (j:Int)=some j:=by
  unfold ixN
  rw [if_pos (by omega),if_pos (by omega)];simp
 unfold atI;rw [e];exact h
noncomputable def ahp (b:Expr):Prop:=∀ o i,subscripted b false o i=operate [o,i] (getItem o i)
noncomputable def IxR (X:Cx) (r:R2):Prop :=
 ∀ (value slice:Expr) (pins:List (Addr×Obj)) (s:Shared) (σ:St) (H:Hp) (x y:V) (v u:Value) (Q:VK),Inv X pins σ H s->RelV x v->RelV y u->r x y H Q ->
  subscripted slice false v u=operate [v,u] (getItem v u)->wpAny (model X.prog X.w) X.A (subscriptTail value slice v u) (EP X pins σ Q) X.xe s
noncomputable def MtR (X:Cx) (id:String) (r:V->List V->Hp->VK->Prop):Prop :=
 ∀ (pins:List (Addr×Obj)) (s:Shared) (σ:St) (H:Hp) (x:V) (xs:List V) (v:Value) (us:List Value) (Q:VK),Inv X pins σ H s->RelV x v->Vals xs us->r x xs H Q ->
  wpAny (model X.prog X.w) X.A (call (.builtin id) (v :: us)) (EP X pins σ Q) X.xe s
section
variable {X:Cx} {a b:Expr} {ta tb:TE} {pos:Pos}
theorem zf {r:R2} (hr:IxR X r) (ha:PE X a ta) (hb:PE X b tb) (hs:ahp b):PE X (.Subscript a b pos) (tOp r ta tb):=by
 intro pins s σ H Q I h
 exact Subscript_ (aiJ ha hb I h fun v u s2 x y H2 I2 rx ry q=>hr a b pins s2 σ H2 x y v u Q I2 rx ry q (hs _ _))
noncomputable def adi (K:akq):R2:=fun x y H Q=>∃ p xs i v,x=.ref p/\y=.int i/\SqL K H p xs/\atI xs i=some v/\Q v H
noncomputable def jA (K:akq):R2:=fun x y H Q=>∃ p xs i v,x=.ref p/\y=.int i/\SqT K H p xs/\atI xs i=some v/\Q v H
theorem ahq:IxR X (adi X.K):=by
 intro value slice pins s σ H x y v u Q I rx ry h hs
 obtain⟨p,xs,i,z,rfl,rfl,hq,he,q⟩:=h
 cases rx
 obtain⟨t,rfl⟩:=ry
 obtain⟨its,r,pl,hz⟩:=I.list hq
 obtain⟨j,h1,h2,h3,h4,h5⟩:=adX he
 obtain⟨w,ew,rw'⟩:=r.get h2
 have hl:=r.length
 have hn:=aaG
 have fin:EP X pins σ Q w s:=⟨z,H,I,rw',q⟩
 by_cases h0:0<=i
 ·have hj:i.toNat=j:=by
   rw [seqIndex_of h0 h5] at h1
   exact Option.some.inj h1
  exact item_listR pl.isList h0 (by omega) (by rw [hj];simpa using ew) fin hs
 ·have hj:(i+(its.toArray.size:Int)).toNat=j:=by
   rw [seqIndex_neg (by omega) h4] at h1
   rw [akx,<- hl]
   exact Option.some.inj h1
  exact subscriptTail_builtinR (x:=w) pl.isList.typeIs slot_list_getitem.lookup
   (wpAny_getItem_list_neg (Q:=fun r s'=>r=w/\EP X pins σ Q r s') pl.isList (by omega) (by rw [akx] <;> omega) (by omega) (by rw [hj];simpa using ew) ⟨rfl,fin⟩) hs
theorem aiS:IxR X (jA X.K):=by
 intro value slice pins s σ H x y v u Q I rx ry h hs
 obtain⟨p,xs,i,z,rfl,rfl,hq,he,q⟩:=h
 cases rx
 obtain⟨t,rfl⟩:=ry
 obtain⟨its,r,pl,hz⟩:=I.tuple hq
 obtain⟨j,h1,h2,h3,h4,h5⟩:=adX he
 obtain⟨w,ew,rw'⟩:=r.get h2
 have hl:=r.length
 have hn:=aaG
 have fin:EP X pins σ Q w s:=⟨z,H,I,rw',q⟩
 exact subscriptTail_builtinR (x:=w) pl.typeIs slot_tuple_getitem.lookup
  (getItem_tuple (j:=j) (Q:=fun r s'=>r=w/\EP X pins σ Q r s') pl (by omega) (by omega) (by rw [akx,<- hl];exact h1) (by simpa using ew) ⟨rfl,fin⟩) hs
theorem adj (its:List Value) (n j:Nat) (u:Value):ams (·.setIfInBounds j u) { cls:=.type "list",data:=.seq its.toArray n }={ cls:=.type "list",data:=.seq (its.set j u).toArray n }:=by
 simp [ams]
theorem Inv.lst {pins:List (Addr×Obj)} {σ:St} {H:Hp} {s:Shared} {p:Addr} {xs:List V} (I:Inv X pins σ H s) (h:H p=some (.lst xs)) :
  ∃ (its:List Value) (n:Nat),Vals xs its/\s.heap.get? p=some { cls:=.type "list",data:=.seq its.toArray n }/\xs.length<=sizeLine:=by
 obtain⟨z,its,n,r,e⟩:=I.hok p _ h
 exact⟨its,n,r,e,z⟩
theorem Inv.lstUpd {pins:List (Addr×Obj)} {σ:St} {H:Hp} {s:Shared} {p:Addr} {xs ys:List V} {its its':List Value} {n n':Nat} {f:Obj->Obj} (I:Inv X pins σ H s) (h:H p=some (.lst xs))
  (ho:s.heap.get? p=some { cls:=.type "list",data:=.seq its.toArray n }) (hf:f { cls:=.type "list",data:=.seq its.toArray n }={ cls:=.type "list",data:=.seq its'.toArray n' }) (r:Vals ys its') (hz:ys.length<=sizeLine) (t:Nat) :
  Inv X pins σ (upd H p (.lst ys)) { s with heap:=s.heap.update p f,toks:=t }:=by
 have e:(s.heap.update p f).get? p=some { cls:=.type "list",data:=.seq its'.toArray n' }:=by
  rw [alr f ho (by rw [hf] <;> rfl),hf]
 refine I.write (x:=p) (e:=p) (by rw [h];trivial) (.inl rfl) (fun b u hb q=>(akU _ _ (alo hb)).trans q) ⟨_,e⟩ ?_
 exact⟨hz,its',n',r,e⟩
noncomputable def acs:V->V->V->Hp->(Hp->Prop)->Prop:=fun o i v H Q=>∃ p xs k j,o=.ref p/\i=.int k/\H p=some (.lst xs)/\ixN xs.length k=some j/\Q (upd H p (.lst (xs.set j v)))
theorem set_list:ajG X acs:=by
 intro pins s σ H o i v ov iv u Q I ro ri rv h
 obtain⟨p,xs,k,j,rfl,rfl,hp,hj,q⟩:=h
 cases ro
 obtain⟨t,rfl⟩:=ri
 obtain⟨its,n,r,ho,hz⟩:=I.lst hp
 obtain⟨h1,h2,h3,h4⟩:=adW hj
 have hl:=r.length
 have hn:=aaG
 have I':Inv X pins σ (upd H p (.lst (xs.set j v))) { s with heap:=s.heap.update p (ams (·.setIfInBounds j u)) } :=
  I.lstUpd hp ho (adj its n j u) (r.set rv j) (by rw [ald];exact hz) s.toks
 by_cases h0:0<=k
 ·have hk:k.toNat=j:=by
   rw [seqIndex_of h0 h4] at h1
   exact Option.some.inj h1
  exact PySem.W.ki_setAt ho h0 (by omega) (by rw [akx,<- hl];exact h4) (by rw [hk];exact⟨_,I',q⟩)
 ·have hk:(k+(its.toArray.size:Int)).toNat=j:=by
   rw [seqIndex_neg (by omega) h3] at h1
   rw [akx,<- hl]
   exact Option.some.inj h1
  exact PySem.W.ki_setBack ho (by omega) (by rw [akx,<- hl];exact h3) (by omega) (by rw [hk];exact⟨_,I',q⟩)
theorem abN (lo hi:Option Int) (n:Nat):(sliceBounds lo hi none n).1=((HT.sIx n 0 lo:Nat):Int)/\(sliceBounds lo hi none n).2.1=((HT.sIx n n hi:Nat):Int)/\(sliceBounds lo hi none n).2.2=1:=by
 refine⟨?_,?_,rfl⟩
 ·cases lo with
  | none=>simp [sliceBounds,HT.sIx]
  | some i =>
   simp only [sliceBounds,HT.sIx,Option.getD_none,show (1:Int) > 0 by decide,if_true]
   by_cases h:i<0
   ·simp only [h,if_true] <;> omega
   ·simp only [h,if_false] <;> omega
 ·cases hi with
  | none=>simp [sliceBounds,HT.sIx]
  | some i =>
   simp only [sliceBounds,HT.sIx,Option.getD_none,show (1:Int) > 0 by decide,if_true]
   by_cases h:i<0
   ·simp only [h,if_true] <;> omega
   ·simp only [h,if_false] <;> omega
theorem aa8 (its:List Value) (lo hi:Option Int):slicePick its.toArray lo hi none=((its.drop (HT.sIx its.length 0 lo)).take (HT.sIx its.length its.length hi - HT.sIx its.length 0 lo)).toArray:=by
 obtain⟨h1,h2,h3⟩:=abN lo hi its.toArray.size
 unfold slicePick
 rw [h1,h2,h3]
 simp only [sliceRange_one,pick_run,akx] <;> rfl
noncomputable def ahr (K:akq):V->Option Int->Option Int->Hp->VK->Prop:=fun x lo hi H Q=>∃ a xs,x=.ref a/\SqL K H a xs/\∀ p,H p=none->Q (.ref p) (upd H p (.lst (aa7 xs lo hi)))
theorem ahs:SlR X (ahr X.K):=by
 intro pins s σ H x v vl vu lo hi sl Q I rx hs pl pu h
 obtain⟨a,xs,rfl,hx,q⟩:=h
 cases rx
 obtain⟨its,r,ht,hz⟩:=I.list hx
 have hlen:=r.length
 refine⟨"list",_,slot_list_getitem.lookup,ht.isList.typeIs,?_⟩
 refine wpAny_getItem_list_slice ht.isList hs pl pu .none (by simp) ?_ (by rw [akx] <;> omega)
 rw [aa8,<- hlen]
 refine⟨.ref s.heap.objs.size,_,I.laid (t':=s.toks) (o:=.lst (aa7 xs lo hi)) (fun b ob q=>aku _ q) (akA _) ?_,rfl,q _ (I.hok.fresh (akA _))⟩
 exact⟨akV (aad xs lo hi) hz,_,0,(r.drop (HT.sIx xs.length 0 lo)).take (HT.sIx xs.length xs.length hi - HT.sIx xs.length 0 lo),akS _ rfl⟩
noncomputable def aae:V->Bool
 | .non=>true
 | .bl _=>true
 | .int _=>true
 | .str _=>true
 | _=>false
noncomputable def eqV:V->V->Bool
 | .non,.non=>true
 | .bl a,.bl b=>a == b
 | .bl a,.int b=>(if a then 1 else 0) == b
 | .int a,.bl b=>a == (if b then 1 else 0)
 | .int a,.int b=>a == b
 | .str a,.str b=>a == b
 | _,_=>false
theorem aiT {A:Around} {s:Shared} {y x:V} {u v:Value} (ry:RelV y u) (rx:RelV x v) (fy:aae y=true) (fx:aae x=true):SeqAt.EqAt A s u v (eqV y x):=by
 cases y with
 | non =>
  cases ry
  cases x with
  | non=>cases rx;exact SeqAt.EqAt.same _
  | bl b=>cases rx;exact SeqAt.EqAt.none_bool b
  | int b=>obtain⟨t,rfl⟩:=rx;exact SeqAt.EqAt.none_int b t
  | str b=>obtain⟨t,rfl⟩:=rx;exact SeqAt.EqAt.none_str b t
  | _=>exact absurd (show false=true from fx) akr
 | bl a =>
  cases ry
  cases x with
  | non=>cases rx;exact SeqAt.EqAt.bool_none a
  | bl b=>cases rx;exact SeqAt.EqAt.bool_bool a b
  | int b=>obtain⟨t,rfl⟩:=rx;exact SeqAt.EqAt.bool_int a b t
  | str b=>obtain⟨t,rfl⟩:=rx;exact SeqAt.EqAt.bool_str a b t
  | _=>exact absurd (show false=true from fx) akr
 | int a =>
  obtain⟨t',rfl⟩:=ry
  cases x with
  | non=>cases rx;exact SeqAt.EqAt.int_none a t'
  | bl b=>cases rx;exact SeqAt.EqAt.int_bool a t' b
  | int b=>obtain⟨t,rfl⟩:=rx;exact SeqAt.EqAt.int_int a t' b t
  | str b=>obtain⟨t,rfl⟩:=rx;exact SeqAt.EqAt.int_str a t' b t
  | _=>exact absurd (show false=true from fx) akr
 | str a =>
  obtain⟨t',rfl⟩:=ry
  cases x with
  | non=>cases rx;exact SeqAt.EqAt.str_none a t'
  | bl b=>cases rx;exact SeqAt.EqAt.str_bool a t' b
  | int b=>obtain⟨t,rfl⟩:=rx;exact SeqAt.EqAt.str_int a t' b t
  | str b=>obtain⟨t,rfl⟩:=rx;exact SeqAt.EqAt.str_str a t' b t
  | _=>exact absurd (show false=true from fx) akr
 | _=>exact absurd (show false=true from fy) akr
noncomputable def eqU (x:V) (u:Value):Bool:=match u with
 | .none=>eqV .non x
 | .bool b=>eqV (.bl b) x
 | .int i _=>eqV (.int i) x
 | .str z _=>eqV (.str z) x
 | _=>false
theorem afX {x y:V} {u:Value} (r:RelV y u) (f:aae y=true):eqU x u=eqV y x:=by
 cases y with
 | non=>cases r;rfl
 | bl b=>cases r;rfl
 | int i=>obtain⟨t,rfl⟩:=r;rfl
 | str z=>obtain⟨t,rfl⟩:=r;rfl
 | _=>exact absurd (show false=true from f) akr
theorem abO {x:V}:∀ {xs:List V} {us:List Value},Vals xs us->xs.all aae=true->us.any (eqU x)=xs.any fun y=>eqV y x
 | _,_,.nil,_=>rfl
 | y :: xs,u :: us,.cons r t,f=>by
  rw [List.all_cons,alk] at f
  rw [amV,amV,afX r f.1,abO t f.2]
theorem aaI {A:Around} {s:Shared} {x:V} {v:Value} (rx:RelV x v) (fx:aae x=true):∀ {xs:List V} {us:List Value},Vals xs us->xs.all aae=true->∀ u∈us,SeqAt.EqAt A s u v (eqU x u)
 | _,_,.nil,_=>fun u hu=>by cases hu
 | y :: xs,u :: us,.cons r t,f=>fun u' hu=>by
  rw [List.all_cons,alk] at f
  rcases akB.mp hu with rfl | hu
  ·rw [afX r f.1];exact aiT r rx f.1 fx
  ·exact aaI rx fx t f.2 u' hu
noncomputable def inV (x:V) (xs:List V):Bool:=xs.any fun y=>eqV y x
noncomputable def rIn (K:akq) (neg:Bool):R2:=fun x y H Q=>∃ p xs,y=.ref p/\(SqL K H p xs \/ SqT K H p xs)/\aae x=true/\xs.all aae=true/\Q (.bl (if neg then !inV x xs else inV x xs)) H
theorem abP:OpR X (compareOp .NotIn) (rIn X.K true):=by
 intro pins s σ H x y v u Q I rx ry h
 obtain⟨p,xs,rfl,hq,fx,fs,q⟩:=h
 cases ry
 rcases hq with hq | hq
 ·obtain⟨its,r,pl,hz⟩:=I.list hq
  refine SeqAt.notIn_listAt (eqU x) pl.isList (fun w hw=>aaI rx fx r fs w (by simpa using hw)) ⟨.bl _,H,I,rfl,?_⟩
  rw [show its.toArray.any (eqU x)=its.any (eqU x) by simp,abO r fs]
  exact q
 ·obtain⟨its,r,pl,hz⟩:=I.tuple hq
  refine anp (eqU x) pl (fun w hw=>aaI rx fx r fs w (by simpa using hw)) ⟨.bl _,H,I,rfl,?_⟩
  rw [show its.toArray.any (eqU x)=its.any (eqU x) by simp,abO r fs]
  exact q
theorem abQ:yn X (.builtin "len") (fun xs H Q=>∃ p ys,xs=[.ref p]/\(SqL X.K H p ys \/ SqT X.K H p ys)/\Q (.int ys.length) H):=by
 intro pins s σ H xs us Q I r h
 obtain⟨p,ys,rfl,hq,q⟩:=h
 obtain⟨u,rfl,rx⟩:=vals1 r
 cases rx
 have hn:=aaG
 rcases hq with hq | hq
 ·obtain⟨its,r',pl,hz⟩:=I.list hq
  have hlen:=r'.length
  exact Calls.call_len_list pl.isList (by simp only [akx] <;> omega) ⟨.int ys.length,H,I.tok _,⟨s.toks+1,by rw [akx,hlen]⟩,q⟩
 ·obtain⟨its,r',pl,hz⟩:=I.tuple hq
  have hlen:=r'.length
  exact len_tuple pl (by simp only [akx] <;> omega) ⟨.int ys.length,H,I.tok _,⟨s.toks+1,by rw [akx,hlen]⟩,q⟩
theorem abR:yn X (.type "list") (fun xs H Q=>∃ p ys,xs=[.ref p]/\(SqL X.K H p ys \/ SqT X.K H p ys)/\∀ l,H l=none->Q (.ref l) (upd H l (.lst ys))):=by
 intro pins s σ H xs us Q I r h
 obtain⟨p,ys,rfl,hq,q⟩:=h
 obtain⟨u,rfl,rx⟩:=vals1 r
 cases rx
 have fin:∀ (its:List Value),Vals ys its->ys.length<=sizeLine->∀ (h':Heap) (c':Nat),(∀ b o',s.heap.get? b=some o'->h'.get? b=some o') ->
   h'.get? s.heap.objs.size=some { cls:=.type "list",dict:=none,data:=.seq its.toArray c',slots:=#[] }->EP X pins σ Q (.ref s.heap.objs.size) { s with heap:=h' }:=fun its r' hz h' c' kp e =>
  ⟨.ref s.heap.objs.size,_,I.laid (t':=s.toks) kp (akA _) (show ObjOk X.prog X.w _ h' _ (.lst ys) from⟨hz,its,c',r',e⟩),rfl,q _ (I.hok.fresh (akA _))⟩
 rcases hq with hq | hq
 ·obtain⟨its,r',pl,hz⟩:=I.list hq
  have hlen:=r'.length
  obtain⟨o,ho,hc,n,hd⟩:=pl.isList
  exact call_list_seq p (.inl rfl) ho hc hd (fun h' c' kp e=>fin its r' hz h' c' kp e) (by simp only [akx] <;> omega)
 ·obtain⟨its,r',pl,hz⟩:=I.tuple hq
  have hlen:=r'.length
  obtain⟨o,ho,hc,n,hd⟩:=pl
  exact call_list_seq p (.inr rfl) ho hc hd (fun h' c' kp e=>fin its r' hz h' c' kp e) (by simp only [akx] <;> omega)
theorem aa9:yn X (.type "tuple") (fun xs H Q=>∃ p ys,xs=[.ref p]/\((SqL X.K H p ys/\∀ l,H l=none->Q (.ref l) (upd H l (.tup ys))) \/ (SqT X.K H p ys/\Q (.ref p) H))):=by
 intro pins s σ H xs us Q I r h
 obtain⟨p,ys,rfl,h⟩:=h
 obtain⟨u,rfl,rx⟩:=vals1 r
 cases rx
 rcases h with⟨hq,q⟩ | ⟨hq,q⟩
 ·obtain⟨its,r',pl,hz⟩:=I.list hq
  have hlen:=r'.length
  refine call_tuple_list pl.isList (fun h' kp=>?_) (by simp only [akx] <;> omega)
  have I1:Inv X pins σ H { s with heap:=h' }:=I.kept (t':=s.toks) kp
  have I2:Inv X pins σ (upd H h'.objs.size (.tup ys)) { s with heap:=h'.push { cls:=.type "tuple",data:=.seq its.toArray } } :=
   I1.laid (t':=s.toks) (fun b o e=>aku _ e) (akA _) (show ObjOk X.prog X.w _ _ _ (.tup ys) from⟨hz,its,r',anm _ _⟩)
  exact⟨.ref h'.objs.size,_,I2,rfl,q _ (I1.hok.fresh (akA _))⟩
 ·obtain⟨its,r',pl,hz⟩:=I.tuple hq
  exact call_tuple_same pl ⟨.ref p,H,I,rfl,q⟩
noncomputable def tyV (K:akq) (T:String) (x:V) (H:Hp):Prop:=match x with
 | .str _=>T="str"
 | .int _=>T="int"
 | .ref p=>(T="list"/\∃ xs,SqL K H p xs) \/ (T="tuple"/\∃ o,K.lookup p=some o/\o.cls=.type "tuple"/\o.dict=none) \/
   (T="dict"/\((∃ kvs,H p=some (.dK kvs)) \/ ∃ kvs,H p=some (.dT kvs))) \/ (T="set"/\∃ S n,H p=some (.set S n))
 | _=>False
theorem aiU {pins:List (Addr×Obj)} {σ:St} {H:Hp} {s:Shared} {T:String} {x:V} {v:Value} (I:Inv X pins σ H s) (r:RelV x v) (ty:tyV X.K T x H) :
  s.TypeIs v T/\∀ a,v=.ref a->∃ ob,s.heap.get? a=some ob/\ob.dict=none:=by
 cases x with
 | str z =>
  obtain⟨t,rfl⟩:=r
  cases (show T="str" from ty)
  exact⟨typeIs_str s z t,fun _ e=>nomatch e⟩
 | int i =>
  obtain⟨t,rfl⟩:=r
  cases (show T="int" from ty)
  exact⟨typeIs_int s i t,fun _ e=>nomatch e⟩
 | ref p =>
  cases r
  rcases ty with⟨rfl,xs,hq⟩ | ⟨rfl,o,hk,hc,hd⟩ | ⟨rfl,hk⟩ | ⟨rfl,S,n,hk⟩
  ·obtain⟨its,_,pl,_⟩:=I.list hq
   refine⟨pl.isList.typeIs,fun a e=>?_⟩
   cases e
   obtain⟨o,n,e,c,hd,_⟩:=pl
   exact⟨o,e,hd⟩
  ·refine⟨⟨o,I.kIn p o hk,hc⟩,fun a e=>?_⟩
   cases e
   exact⟨o,I.kIn _ o hk,hd⟩
  ·have z:∃ o,s.heap.get? p=some o/\o.ExactDict:=by
    rcases hk with⟨kvs,hk⟩ | ⟨kvs,hk⟩
    ·obtain⟨_,_,_,_,o,_,_,e,ex,_⟩:=I.hok p _ hk
     exact⟨o,e,ex⟩
    ·obtain⟨_,_,_,_,o,_,_,e,ex,_⟩:=I.hok p _ hk
     exact⟨o,e,ex⟩
   obtain⟨o,e,ex⟩:=z
   refine⟨⟨o,e,ex.1⟩,fun a e2=>?_⟩
   cases e2
   exact⟨o,e,ex.2.1⟩
  ·obtain⟨o,_,_,_,e,ex,_⟩:=I.hok p _ hk
   refine⟨⟨o,e,ex.1⟩,fun a e2=>?_⟩
   cases e2
   exact⟨o,e,ex.2.1⟩
 | _=>exact ak2 ty
noncomputable def tBM (K:akq) (T:String) (r:V->List V->Hp->VK->Prop) (to:TE) (t:TA):TE:=fun σ H Q=>to σ H fun x H1=>tyV K T x H1/\t σ H1 fun xs H2=>r x xs H2 Q
variable {o e:Expr} {es:List Expr} {to:TE} {t:TA} {name:Str} {apos cpos:Pos} {T id:String} {r:V->List V->Hp->VK->Prop}
theorem abt (pa:PlainAttrs T) (slot:Slot T name id) (hty:typeOf (.builtin id)=pure (.type "method_descriptor")) (hm:MtR X id r) (ho:PE X o to) (ha:PA X (e :: es) t)
  (hbase:attributeBase o name X.env (eval o X.env)=eval o X.env:=by rfl)
  (hfew:((backTo cpos (starEach (e :: es) X.env)).all (fun x=>!x.1) && (backToKw cpos (keywordEach [] X.env)).all (fun x=>x.1.isSome)
   && decide ((e :: es).length+([]:List Keyword).length+(if ([]:List Keyword).isEmpty then 0 else 1)<30))=true:=by rfl)
  (hline:(apos.endLine == cpos.line)=true:=by rfl) (hs:starEach (e :: es) X.env=(false,eval e X.env) :: starEach es X.env:=by rfl) (hplain:(backTo cpos (starEach es X.env)).any (·.1)=false:=by rfl) :
  PE X (.Call (.Attribute o name apos) (e :: es) [] cpos) (tBM X.K T r to t):=by
 intro pins s σ H Q I h
 refine wpAny_Call_method_late hbase hfew hline rfl (thn (ho pins s σ H _ I h) fun v s1 ⟨x,H1,I1,r1,ty,q1⟩=>?_)
 obtain⟨h1,h2⟩:=aiU I1 r1 ty
 refine⟨T,id,pa,slot,hty,h1,h2,?_⟩
 have hA:=ha cpos pins s1 σ H1 _ I1 q1
 rw [hs] at hA ⊢
 refine Calls.callWith_builtin (by show (false || (backTo cpos (starEach es X.env)).any (·.1))=false;rw [hplain] <;> rfl) (Calls.evalArgs_plain ?_)
 exact thn hA fun us s2 ⟨vs,H2,I2,r2,q2⟩=>hm pins s2 σ H2 x vs v us Q I2 r1 r2 q2
/- xs.append(e),list.index on a module's tuple .. are MtR facts of 06m -/
end
noncomputable def MtM (X:Cx) (id:String) (r:V->List V->Hp->VK->Prop):Prop :=
 ∀ (pins:List (Addr×Obj)) (s:Shared) (σ:St) (H:Hp) (x:V) (xs:List V) (v:Value) (us:List Value) (Q:VK),Inv X pins σ H s->RelV x v->Vals xs us->r x xs H Q ->
  wpAny (model X.prog X.w) X.A (call (.builtin id) (v :: us)) (EP X pins σ Q) X.xe s
theorem Vals.one:∀ {x:V} {us:List Value},Vals [x] us->∃ u,us=[u]/\RelV x u
 | _,_,.cons r .nil=>⟨_,rfl,r⟩
theorem Vals.reverse {xs:List V} {us:List Value} (h:Vals xs us):Vals xs.reverse us.reverse:=by
 induction h with
 | nil=>exact .nil
 | cons r t ih=>rw [alg,alg];exact Vals.append ih (.cons r .nil)
section
variable {X:Cx} {pins:List (Addr×Obj)} {σ:St} {H:Hp} {s:Shared} {l b:Addr} {xs ys zs:List V}
theorem Inv.lset {its its':List Value} {n:Nat} {f:Array Value->Array Value} {t':Nat} (I:Inv X pins σ H s) (hH:H l=some (.lst xs))
  (e:s.heap.get? l=some { cls:=.type "list",data:=.seq its.toArray n }) (hf:f its.toArray=its'.toArray) (hv:Vals ys its') (hz:ys.length<=sizeLine) :
  Inv X pins σ (upd H l (.lst ys)) { s with heap:=s.heap.update l (ams f),toks:=t' }:=by
 have q:=PySem.IsL.update e f
 rw [hf] at q
 refine I.write (x:=l) (e:=l) (by rw [hH];exact trivial) (.inl rfl) (fun b' u hb hu=>(akU s.heap (ams f) (alo hb)).trans hu) ⟨_,q⟩ ?_
 exact⟨hz,its',_,hv,q⟩
theorem Inv.lnew {its:List Value} {t':Nat} (I:Inv X pins σ H s) (hv:Vals ys its) (hz:ys.length<=sizeLine) :
  Inv X pins σ (upd H s.heap.objs.size (.lst ys)) { s with heap:=s.heap.push { cls:=.type "list",data:=.seq its.toArray },toks:=t' } :=
 I.laid (fun _ _ q=>aku _ q) (akA _) ⟨hz,its,0,hv,akS _ rfl⟩
theorem Inv.fresh (I:Inv X pins σ H s):H s.heap.objs.size=none:=I.hok.fresh (akA _)
theorem Inv.lstM (I:Inv X pins σ H s) (hH:H l=some (.lst xs)):xs.length<=sizeLine/\∃ (its:List Value) (n:Nat),Vals xs its/\xs.length=its.length/\s.heap.get? l=some { cls:=.type "list",data:=.seq its.toArray n }:=by
 obtain⟨z,its,n,r,e⟩:=I.hok l _ hH
 exact⟨z,its,n,r,r.length,e⟩
end
section
variable {X:Cx}
noncomputable def adY:V->List V->Hp->VK->Prop:=fun x vs H Q=>∃ l xs y,x=.ref l/\vs=[y]/\H l=some (.lst xs)/\xs.length<sizeLine/\Q .non (upd H l (.lst (xs++[y])))
theorem qT:MtM X "list.append" adY:=by
 intro pins s σ H x vs v us Q I rx rv h
 obtain⟨l,xs,y,rfl,rfl,hH,hz,q⟩:=h
 cases rx
 obtain⟨u,rfl,ru⟩:=rv.one
 obtain⟨z,its,n,r,hl,e⟩:=I.lstM hH
 refine call_meets F.slot_list_append ⟨_,e,rfl⟩ anq (ane _ _) (PySem.list_append l its.toArray n u (by rw [akx];omega)) ⟨e,?_⟩
 refine⟨.non,_,I.lset (its':=its++[u]) hH e (by simp) (r.append (.cons ru .nil)) ?_,rfl,q⟩
 rw [akD,am7]
 omega
end
end L2
namespace Att
open PySem PySem.W PySem.Calls PyProof.Rows
theorem aao {P:Params} {h:Heap}:∀ (ns:List Int) (vs:List Value),WellAll P h vs (ns.map WData.int)->IntsAre vs ns:=by
 intro ns
 induction ns with
 | nil =>
  intro vs w
  rw [anx] at w
  cases w
  exact .nil
 | cons n ns ih =>
  intro vs w
  rw [alJ] at w
  cases w with
  | cons a b =>
   cases a
   exact .cons _ _ (ih _ b)
theorem aeK {l:OpenLaw} {n:Nat} (hn:l.most=some n) {P:Params} {h:Heap} {args:List WData} {vals:List Value}
  (hpre:l.row.toRowW.claim.pre args=true) (hwl:WellAll P h vals args) :
  ∃ a vs ns,vals=[Value.ref a]/\args=[WData.list (ns.map WData.int)]/\h.get? a=some { cls:=.type "list",data:=.seq vs.toArray }/\IntsAre vs ns/\ns.length<=n:=by
 have hsh:WShape.hasAll [] args [.list .int]=true:=(pre_splitW hpre).1
 have hc:l.pre.holds [] { args:=args }=true:=(pre_splitW hpre).2
 obtain⟨d,r,rfl,h1,h2⟩:=hasAllW_cons hsh
 obtain rfl:=hasAllW_nil h2
 obtain⟨xs,rfl,h3⟩:=hasW_list h1
 obtain⟨ns,rfl⟩:=items_int h3
 have hlen:ns.length<=n:=by
  unfold OpenLaw.pre at hc
  have h4:(WTm.not (.lt (.lit (.int (n:Int))) (.len (.arg 0)))).holds [] { args:=[.list (ns.map .int)] }=true:=by
   have h4:=(holds_andW hc).1
   rw [hn] at h4
   exact h4
  have h5:=condW_of h4 (w_not (w_lt w_lit (w_len_list (w_arg rfl))))
  rw [akp] at h5
  refine Nat.le_of_not_lt fun q=>?_
  have q':(n:Int)<((ns.length:Nat):Int):=by omega
  first
   | (rw [decide_eq_true q'] at h5;exact absurd h5 (by decide))
   | (simp at h5;omega)
 cases hwl with
 | cons w1 w2 =>
  cases w2
  cases w1 with
  | list ho hall=>exact⟨_,_,ns,rfl,rfl,ho,aao ns _ hall,hlen⟩
theorem aeL (l:OpenLaw) (args:List WData):l.row.toRowW.claim.post args (.bool true) args=true :=
 postW_of (r:=l.row.toRowW) (X:=(true == true))
  (show WShape.has [] (.bool true) .bool=true by first | rfl | decide | simp [WShape.has,WShape.arms,WShape.armsAll])
  (show (WTm.eq .res (.lit (.bool true))).value [] { args:=args,res:=some (.bool true),after:=args }=some (.bool (true == true)) from w_eq_bool (w_res rfl) w_lit) rfl
theorem attach_call {l:OpenLaw} {n:Nat} {q:Program} {loose:List Str} {XP:(Str->Option Value)->Heap->Prop} {YP:World->Heap->Prop} {d:DefRec}
  (hn:l.most=some n) (hdf:d.params.defaults=[])
  (call:∀ (w:World) (s₀ s₁:Shared) (mg mb:Str->Option Value) (fa:Addr) (o:Obj) (pm cd doc:Value) (a:Addr) (vs:List Value) (ns:List Int),
   Ground q loose [] XP w s₀ mg mb s₁.heap->YP w s₁.heap ->
   s₁.heap.get? fa=some o->o.data=.func (docDef d.name d.params d.body d.scope pm cd doc)->s₁.heap.CodeRec cd d.name->mg d.name=some (.ref fa) ->
   s₁.heap.get? a=some { cls:=.type "list",data:=.seq vs.toArray }->IntsAre vs ns->ns.length<=n->s₁.gens=#[] ->
   codeAny (model l.prog w) callerA (.call (.ref fa) ⟨[.ref a],[]⟩) (fun r s'=>r=.ok (.ret (.bool true))/\OldK s₁.heap s'.heap/\s'.os=s₁.os/\AllBare s'.gens) s₁) :
  WalkO q loose XP YP l.row.toRowW d [] (fun f vs=>PySem.call f vs):=by
 intro w s₀ s₁ mg mb G Y fa o pm cd doc dV kV ho hd hcd hD hmg hg args vals as hpre hlay hrd hwl hlo
 obtain rfl:dV=.none:=Dflts.none hD hdf
 obtain rfl:kV=.none:=Dflts.noKw hD
 obtain⟨a,vs,ns,rfl,rfl,hobj,hints,hlen⟩:=aeK hn hpre hwl
 refine enter_call (codeAny_mono (call w s₀ s₁ mg mb fa o pm cd doc a vs ns G Y ho (fd_plain hd) hcd hmg hobj hints hlen hg) fun r s' hq=>?_)
 obtain⟨rfl,h2,h3,h4⟩:=hq
 exact⟨.inl ⟨.bool true,.bool true,[],rfl,fun _=>rfl,.bool true,aeL l _,fun _=>⟨List.Pairwise.nil,fun _ hm=>(nomatch hm)⟩⟩,h2,h3,h4⟩
section
variable {prog:Program} {w:World} {A:Around} {E:Value->Shared->Prop} {s:Shared} {K:Frag}
noncomputable def aaJ (h:Heap):Heap:={ h with objs:=#[] }
theorem vn (h:Heap) (b:Addr):(aaJ h).get? b=none:=by
 cases e:(aaJ h).get? b with
 | none=>rfl
 | some o=>exact absurd (akw e) (Nat.not_lt_zero _)
noncomputable def ledger (h:Heap) (L d:Addr):List (Addr×Obj):=(alc h.objs.size).filterMap fun a=>if a=L \/ a=d then none else (h.get? a).map fun o=>(a,o)
theorem mem_ledger {h:Heap} {L d a:Addr} {o:Obj}:(a,o)∈ledger h L d↔a≠L/\a≠d/\h.get? a=some o:=by
 unfold ledger
 rw [amd]
 constructor
 ·rintro⟨b,_,e⟩
  split at e
  ·cases e
  ·rename_i hb
   obtain⟨o',ho,e'⟩:=Option.map_eq_some_iff.mp e
   cases e'
   exact⟨fun q=>hb (.inl q),fun q=>hb (.inr q),ho⟩
 ·rintro⟨n1,n2,ho⟩
  refine⟨a,alD.mpr (akw ho),?_⟩
  rw [if_neg (show ¬ (a=L \/ a=d) from fun q=>q.elim n1 n2),ho] <;> rfl
theorem acu {h:Heap} {L d:Addr} {od:Obj} (hne:d≠L) (ho:h.get? d=some od):News (aaJ h) L h ([]++(d,od) :: ledger h L d):=by
 rintro⟨a,o⟩ hp
 rcases akB.mp hp with e | hp
 ·cases e
  exact⟨ho,hne,vn _ _⟩
 ·obtain⟨n1,n2,e⟩:=mem_ledger.mp hp
  exact⟨e,n1,vn _ _⟩
theorem aiV {h:Heap} {L:Addr} {m:Str->Option Value} (n:h.Ns L m):Fr (aaJ h) L h m :=
 ⟨n,fun b o e=>(by rw [vn] at e;cases e),alp _⟩
theorem abu {x C dx L:Addr} {ox:Obj} {m:Str->Option Value} {es es':List DictEntry} {n n':Nat} {name:Str} {v:Value} {Q:Unit->Shared->Prop}
  (X:K.In s.heap) (I:PySem.W.InstAt s.heap x ox C (some (dictOf es n))) (hd:ox.dict=some dx) (hL:s.heap.Ns L m) (hne:dx≠L)
  (hs:findIn K (.ref C) "__setattr__"=some (some (.builtin "object.__setattr__"))) (hp:plainOver K C=true) (ht:takerIn K C name=some none) (hh:hasDictIn K C=true) (hl:(getL name es).isSome=true)
  (e:(putL name (PyData.keyHash w.params name) (.str name (s.toks+1)) v es,putN name es n)=(es',n')) (hz:es'.length<=1000)
  (h:∀ h':Heap,h'.Ns L m->h'.get? dx=some (dictOf es' n')->(∀ b o,b≠dx->b≠L->s.heap.get? b=some o->h'.get? b=some o)->Q () { s with heap:=h',toks:=s.toks+2 }) :
  wpAny (model prog w) A (setAttr (.ref x) name v) Q E s:=by
 obtain⟨e1,e2⟩:=Prod.mk.inj e
 have hdx:s.heap.get? dx=some (dictOf es n):=by
  have:=I.dict
  rw [hd] at this
  exact this
 refine set_plain X I hs (osa_dict (s:={ s with toks:=s.toks+1 }) (h₀:=aaJ s.heap) (L:=L) (m:=m) (od:=dictOf es n) (od':=dictOf es' n') (es:=es') (n:=n') (pre:=[]) (post:=ledger s.heap L dx)
  (aiV hL) (acu hne hdx) X I hd hp ht hh hl (fun _ q=>nomatch q) (fun⟨_,_⟩ q=>(mem_ledger.mp q).2.1) (by rw [putName_dict,e1,e2]) rfl hz fun h' F' N'=>?_)
 exact h h' F'.ns (N'.get (List.Mem.head _)) fun b o n1 n2 ho=>N'.get (List.Mem.tail _ (mem_ledger.mpr ⟨n2,n1,ho⟩))
end
end Att
namespace L2
open PySem PySem.Spec PyProof.Rows
theorem abv:∀ {vs:List Value} {ns:List Int},IntsAre vs ns->Vals (ns.map V.int) vs
 | _,_,.nil=>.nil
 | _,_,.cons n t h=>.cons ⟨t,rfl⟩ (abv h)
noncomputable def aiW (H:Hp):Prop:=∀ b,H b=none \/ ∃ o xs,H b=some (.frz o (.lst xs))
theorem afY {P:Program} {w:World} {K:akq} {mg mb:Str->Option Value} {CX:CXT} {k:Nat} {fa a:Addr} {fd:FuncData} {x:Str} {sp:Sp} {s₁:Shared} {vs:List Value} {ns:List Int}
  (KX:K.In s₁.heap) (hns:s₁.heap.Ns mainGlobals mg) (hb:s₁.heap.Ns builtinsNs mb) (hbb:∀ x:Str,x ≠ "__name__"->mb x=bootBuiltins x) (hlim:s₁.heap.NoLimit) (hg:s₁.gens=#[])
  (ha:s₁.heap.get? a=some { cls:=.type "list",data:=.seq vs.toArray }) (hi:IntsAre vs ns) (hl:ns.length<=sizeLine) (hr:Room k callerA)
  (F:∀ base:Heap,K.In base->base.Ns mainGlobals mg->FnOk P w K mg base CX k fa fd [x] sp) (hbind:∀ (s:Shared) (u:Value),BindsTo s fd ⟨[u],[]⟩ [(x,u)])
  (hsp:∀ H:Hp,aiW H->SqL K H a (ns.map V.int)->sp [.ref a] H (fun v _=>v=.bl true) fun _ _ _=>False)
  (hCX:∀ H e s',CX [] H s₁ (fun _ _ _=>False) e s'->False) :
  codeAny (model P w) callerA (.call (.ref fa) ⟨[.ref a],[]⟩) (fun r s'=>r=.ok (.ret (.bool true))/\OldK s₁.heap s'.heap/\s'.os=s₁.os/\AllBare s'.gens) s₁:=by
 have rv:=abv hi
 have lenV:=hi.length
 -- from an abstract heap in which nothing but the script may be tracked
 have core:∀ H:Hp,aiW H->SqL K H a (ns.map V.int)->HOk P w H s₁.heap->(∀ b,H b≠none->b=a)->(H a≠none->K.lookup a=none) ->
   codeAny (model P w) callerA (.call (.ref fa) ⟨[.ref a],[]⟩) (fun r s'=>r=.ok (.ret (.bool true))/\OldK s₁.heap s'.heap/\s'.os=s₁.os/\AllBare s'.gens) s₁:=by
  intro H hO hS hok hA hK
  have base_of:∀ {b:Addr} {o:Obj},s₁.heap.get? b=some o->H b=none->(abI s₁.heap H).get? b=some o:=fun e n=>afD e n
  have noA:∀ {b:Addr} {o:Obj} {es:Array DictEntry} {ep:Nat},s₁.heap.get? b=some o->o.data=.dict es ep->H b=none:=fun {b o es ep} e d=>by
   cases q:H b with
   | none=>rfl
   | some u =>
    have e':b=a:=hA b (by rw [q];simp)
    subst e'
    rw [ha] at e;cases e
    have d':Data.seq vs.toArray _=Data.dict es ep:=d
    cases d'
  have nsK:∀ {b:Addr} {m:Str->Option Value},s₁.heap.Ns b m->(abI s₁.heap H).Ns b m:=fun {b m} ⟨o,es,ep,e,d,r⟩=>⟨o,es,ep,base_of e (noA e d),d,r⟩
  have hKb:K.In (abI s₁.heap H):=fun b o e=>base_of (KX b o e) (by
   cases q:H b with
   | none=>rfl
   | some u =>
    have e':b=a:=hA b (by rw [q];simp)
    subst e'
    rw [hK (by rw [q];simp)] at e;cases e)
  have hM:Mod K mg (abI s₁.heap H):=⟨hKb,nsK hns,⟨mb,nsK hb,hbb⟩,let⟨mc,h1,h2⟩:=hlim;⟨mc,nsK h1,h2⟩⟩
  have e0:Env0 P w K mg (abI s₁.heap H) callerA [] s₁ H:=⟨rfl,hM,fun b o e=>ahe e,amC (aeG _ _),trivial,fun b hb=>absurd (show b∈([]:List Addr) from hb) (by simp),hok,.of_eq hg⟩
  refine codeAny_mono ((F _ hKb (nsK hns)).run callerA [] s₁ H ⟨[.ref a],[]⟩ [.ref a] [.ref a] _ _ hr e0 (hbind s₁ (.ref a)) (.cons rfl .nil) (hsp H hO hS)) fun r s' h=>?_
  cases r with
  | error e=>exact (hCX H e s' h).elim
  | ok fl =>
   cases fl with
   | next=>exact ak2 h
   | brk=>exact ak2 h
   | cont=>exact ak2 h
   | ret u =>
    obtain⟨v,H',os,bare,un,hok',r',q⟩:=h
    have q':v=.bl true:=q
    subst q'
    obtain rfl:u=Value.bool true:=r'
    refine⟨rfl,OldK.of_keep fun b o e=>?_,os,bare⟩
    cases q:H b with
    | none=>exact un.keep b o e q (by intro z;exact absurd (show b∈([]:List Addr) from z) (by simp)) (by simp)
    | some u =>
     rcases hO b with z | ⟨ob,xs,z⟩
     ·rw [q] at z;cases z
     ·have z2:=un.frzs b ob _ z
      obtain⟨e1,_⟩:=hok b _ z
      obtain⟨e2,_⟩:=hok' b _ z2
      rw [e] at e1;cases e1
      exact e2
 cases hk:K.lookup a with
 | some o =>
  -- the script is one of the module's own objects
  have e:=KX a o hk
  rw [ha] at e
  cases e
  refine core (fun _=>none) (fun _=>.inl rfl) (.inr ⟨_,vs.toArray,_,hk,rfl,rfl,rfl,by rw [akx,lenV];exact hl,by simpa using rv⟩) (fun b u z=>by have z':(none:Option HO)=some u:=z;cases z') (fun b z=>absurd rfl z) fun z=>absurd rfl z
 | none =>
  refine core (fun b=>if b=a then some (.frz { cls:=.type "list",data:=.seq vs.toArray } (.lst (ns.map V.int))) else none) (fun b=>?_) (.inl (.inr ⟨{ cls:=.type "list",data:=.seq vs.toArray },if_pos rfl⟩)) (fun b u z=>?_) (fun b z=>?_) fun _=>hk
  ·by_cases hb:b=a
   ·exact .inr ⟨_,_,if_pos hb⟩
   ·exact .inl (if_neg hb)
  ·by_cases hb:b=a
   ·have z':=(if_pos hb).symm.trans z
    cases z'
    subst hb
    exact⟨ha,by rw [akp];exact hl,vs,_,rv,ha⟩
   ·have z':=(if_neg hb).symm.trans z
    cases z'
  ·by_cases hb:b=a
   ·exact hb
   ·exact absurd (if_neg hb) z
noncomputable abbrev KOf {K:akq} {h:Heap} (_:K.In h):akq:=K
theorem walk_of {l:PySem.W.OpenLaw} {n k:Nat} {q:Program} {loose:List Str} {XP:(Str->Option Value)->Heap->Prop} {YP:World->Heap->Prop} {d:DefRec} {K:Params->akq} {CX:World->CXT} {sp:World->Sp} {x:Str}
  (hn:l.most=some n) (hn2:n<=sizeLine) (hdf:d.params.defaults=[]) (hr:Room k callerA)
  (hY:∀ (w:World) (h:Heap),YP w h->(K w.params).In h)
  (F:∀ (w:World) (mg:Str->Option Value) (fa:Addr) (h:Heap),(K w.params).In h->h.Ns mainGlobals mg->mg d.name=some (.ref fa) ->
   ∃ fd:FuncData,(∀ (s:Shared) (u:Value),BindsTo s fd ⟨[u],[]⟩ [(x,u)]) /\
    ∀ base:Heap,(K w.params).In base->base.Ns mainGlobals mg->FnOk l.prog w (K w.params) mg base (CX w) k fa fd [x] (sp w))
  (hsp:∀ (w:World) (H:Hp) (a:Addr) (ns:List Int),ns.length<=n->aiW H->SqL (K w.params) H a (ns.map V.int)->sp w [.ref a] H (fun v _=>v=.bl true) fun _ _ _=>False)
  (hCX:∀ (w:World) (H:Hp) (s:Shared) (e:Value) (s':Shared),CX w [] H s (fun _ _ _=>False) e s'->False) :
  PySem.W.WalkO q loose XP YP l.row.toRowW d [] (fun f vs=>PySem.call f vs):=by
 refine Att.attach_call hn hdf fun w s₀ s₁ mg mb fa o pm cd doc a vs ns G Y ho hd hcd hmg hobj hints hlen hg=>?_
 have KX:=hY w _ Y
 obtain⟨fd,hb,hF⟩:=F w mg fa _ KX G.T.g hmg
 exact afY KX G.T.g G.T.b G.T.builtins G.T.nolimit hg hobj hints (akV hlen hn2) hr hF hb (fun H hO hS=>hsp w H a ns hlen hO hS) fun H e s'=>hCX w H s₁ e s'
end L2
/- THE LAST THEOREM (shape;LID,My.* are yours):
   My.Adr: a structure of the addresses that your layer names (classes,functions);My.Txt K t: a structure (Prop) of the equations over K;
   My.txt_mk:{K} {implicit addresses ..} (e1:nsIn K mainGlobals "law"=some (some (.ref f))) (e2:K.lookup f=some ⟨oc,od,.func (fnOf "law" "law" params body scope dV kV doc pm an cdv ct),sl⟩) (e3:codeIn K cdv "law"=true) ..:∃ t,My.Txt K t
set_option maxRecDepth 100000 in
set_option maxHeartbeats 0 in
theorem PySem.Challenge.cw_LID_holds : PySem.Challenge.rw_LID.Holds := by
 w_on;o_law;k_head;(case hw=>w_witness2)
 k_fill
 refine L2.walk_of (l:=PySem.Challenge.rw_LID) (n:=63) (k:=40) (x:="script") (CX:=fun w=>..) (sp:=fun _=>My.sp_law) rfl (by decide) rfl ⟨rfl,by decide,by decide⟩ (fun w h Y=>PySem.W.kIn_of Y) ?F ?S ?C
 case F =>
  intro w mg fa h KX G hmg
  have T:∃ t,My.Txt (L2.KOf KX) t:=by
   dsimp only [L2.KOf]                          -- K must stand as «<heap const> w.params» for k_is
   refine' My.txt_mk ?e1 ?e2 ?e3 ..
   (case e1=>PySem.W.k_is)                    -- in the order: a name->its address->its object->its parts
   (case e2=>PySem.W.k_is)
   ..
  obtain⟨t,T⟩:=T
  have e0:=hmg.symm.trans (ak9 KX G T.law)
  cases e0                                       -- fa is the law's own address
  exact⟨_,fun s u=>.of_eq rfl,fun base kb nb=>My.law_fn T kb nb⟩     -- if «.of_eq rfl» comes too early: refine' ⟨_,?b,fun base kb nb=>My.law_fn T kb nb⟩;exact fun s u=>.of_eq rfl
 case S=>exact fun w H a ns hl hO hS=>..
 case C=>exact ..
(the tactic k_is has no namespace: write k_is) -/
namespace L2
open PySem PySem.Spec PyProof.Rows
noncomputable def yA (s:Stmt):Arguments:=match s with
 | .FunctionDef _ a _ _ _ _ _ _ _ _=>a
 | _=>{ posonlyargs:=[],args:=[],vararg:=none,kwonlyargs:=[],kw_defaults:=[],kwarg:=none,defaults:=[] }
noncomputable def z6 (s:Stmt):List Stmt:=match s with
 | .FunctionDef _ _ b _ _ _ _ _ _ _=>b
 | _=>[]
noncomputable def zj (s:Stmt):Scope:=match s with
 | .FunctionDef _ _ _ _ _ _ sc _ _ _=>sc
 | _=>{ kind:=.function,names:=[],isGenerator:=false,isCoroutine:=false }
noncomputable abbrev CX0:CXT:=fun _ _ _ _ _ _=>False
noncomputable abbrev E0:XK:=fun _ _ _=>False
theorem ajK {X:Cx}:Passes CX0 X E0:=fun _ _ _ _ _ _ _ h=>h.elim
structure Fun (K:akq) (x qual:Str) (st:Stmt) (f:Addr) (fd:FuncData):Prop where
 ex:∃ (oc:Value) (od:Option Addr) (kV doc pm:Value) (an:Option Addr) (cdv ct:Value) (osl:Array (Option Value)),
  fd=ak6 x qual (yA st) (z6 st) (zj st) .none kV doc pm an cdv ct/\K.lookup f=some ⟨oc,od,.func fd,osl⟩/\al1 K cdv qual=true
 kp:ak0 K (.ref f)=true
section
variable {P:Program} {w:World} {K:akq} {mg:Str->Option Value} {base:Heap}
theorem Fun.ok {x qual:Str} {st:Stmt} {f:Addr} {fd:FuncData} {N ps:List Str} {k:Nat} {sp:Sp} (F:Fun K x qual st f fd) (S:FnScope N ps (zj st)) (len:∀ vs H Q E,sp vs H Q E->vs.length=ps.length)
  (hbody:∀ (cdv:Value) (A:Around) (outer:List Env) (s:Shared) (H:Hp) (vs:List V) (Q:VK) (E:XK),Room k (A.deeper (envOfC qual (zj st) s.heap.objs.size f cdv))->sp vs H Q E ->
   ∃ t,PSs (zV CX0 P w K mg base N qual (zj st) f cdv A outer s H E).nox (z6 st) t/\t { nx:=fun _ H'=>Q .non H',rt:=Q } (start N vs) H):FnOk P w K mg base CX0 (k+1) f fd ps sp:=by
 obtain⟨oc,od,kV,doc,pm,an,cdv,ct,osl,rfl,lk,hcd⟩:=F.ex
 refine aih lk hcd S len fun A outer s H vs Q E hr hsp=>?_
 obtain⟨t,h,q⟩:=hbody cdv A outer s H vs Q E hr hsp
 exact⟨t,h.nox,q⟩
theorem Fun.binds {x qual:Str} {st:Stmt} {f:Addr} {fd:FuncData} {ps:List Str} (F:Fun K x qual st f fd)
  (h:∀ (kV doc pm:Value) (an:Option Addr) (cdv ct:Value) (us:List Value),us.length=ps.length->bindArgs (ak6 x qual (yA st) (z6 st) (zj st) .none kV doc pm an cdv ct) ⟨us,[]⟩=pure (ps.zip us)):Binds K fd ps []:=by
 obtain⟨oc,od,kV,doc,pm,an,cdv,ct,osl,rfl,lk,hcd⟩:=F.ex
 exact .all (h kV doc pm an cdv ct)
theorem abS {x qual:Str} {st:Stmt} {f:Addr} {oc:Value} {od an:Option Addr} {osl:Array (Option Value)} {kV doc pm cdv ct:Value} (l:K.lookup f=some ⟨oc,od,.func (ak6 x qual (yA st) (z6 st) (zj st) .none kV doc pm an cdv ct),osl⟩)
  (c:al1 K cdv qual=true) (k:ak0 K (.ref f)=true):Fun K x qual st f (ak6 x qual (yA st) (z6 st) (zj st) .none kV doc pm an cdv ct):=⟨⟨oc,od,kV,doc,pm,an,cdv,ct,osl,rfl,l,c⟩,k⟩
end
theorem z9 {n:Nat} (h:n<=1000):n<sizeLine:=Nat.lt_of_le_of_lt h (by decide)
section
variable {X:Cx}
theorem pv (i:Nat) {x:Str} {pos:Pos} (hN:X.N[i]?=some x:=by rfl) (hv:Vis X.env.scope x:=by first | exact Or.inl rfl | exact Or.inr (Or.inl rfl) | exact Or.inr (Or.inr rfl)) (hd:(x == ("__debug__":Str))=false:=by decide)
  (hcd:(x == ("__classdict__":Str))=false:=by decide):PE X (.Name x pos) (zO i):=aiD hN hv hd hcd
end
noncomputable def Same (H H':Hp):Prop:=∀ b o,H b=some o->H' b=some o
theorem Same.refl (H:Hp):Same H H:=fun _ _ h=>h
theorem Same.trans {H H1 H2:Hp} (a:Same H H1) (b:Same H1 H2):Same H H2:=fun c o h=>b c o (a c o h)
theorem Same.free {H H':Hp} (e:Same H H') {l:Addr} (h:H' l=Option.none):H l=Option.none:=by
 cases q:H l with
 | none=>rfl
 | some o =>
  rw [e l o q] at h
  cases h
theorem Same.seq {K:akq} {H H':Hp} {a:Addr} {xs:List V} (e:Same H H') (h:SqL K H a xs):SqL K H' a xs:=by
 rcases h with (h | ⟨o,h⟩) | h
 ·exact .inl (.inl (e _ _ h))
 ·exact .inl (.inr ⟨o,e _ _ h⟩)
 ·exact .inr h
noncomputable def yb (env:Env):List (Str×NameKind)->List (Str×Addr)->List (Str×Addr)
 | [],acc=>acc
 | (x,k) :: r,acc=>if k == .free then yb env r ((x,(env.cells.lookup x).getD 0) :: acc) else yb env r acc
theorem adk {sc:Scope} {env:Env} (h:∀ x,(x,NameKind.free)∈sc.names->∃ c,env.cells.lookup x=some c):closureFor sc env=pure (yb env sc.names []):=by
 have key:∀ (names:List (Str×NameKind)) (acc:List (Str×Addr)),(∀ x,(x,NameKind.free)∈names->∃ c,env.cells.lookup x=some c) ->
   (forIn names acc fun (x:Str×NameKind) (cs:List (Str×Addr))=>if (x.2 == NameKind.free)=true then (do let c <- cellOf env x.1;pure (ForInStep.yield ((x.1,c) :: cs))) else pure (ForInStep.yield cs))=(pure (yb env names acc):Sem (List (Str×Addr))):=by
  intro names
  induction names with
  | nil=>intro acc _;rfl
  | cons p r ih =>
   intro acc hh
   obtain⟨x,k⟩:=p
   rw [List.forIn_cons]
   unfold yb
   by_cases hk:(k == NameKind.free)=true
   ·have hk':k=.free:=by simpa using hk
    subst hk'
    obtain⟨c,hc⟩:=hh x akE
    simp only [beq_self_eq_true,if_true]
    rw [<-ih _ fun y hy=>hh y (akv _ hy)]
    have:cellOf env x=pure c:=by unfold cellOf;rw [hc]
    rw [this,hc]
    rfl
   ·simp only [hk,Bool.false_eq_true,if_false]
    rw [<-ih _ fun y hy=>hh y (akv _ hy)]
    rfl
 simp only [closureFor]
 have q:=key sc.names [] h
 refine Eq.trans ?_ (Eq.trans (congrArg (fun z=>z >>= fun r=>pure r) q) ?_)
 ·rfl
 ·rfl
theorem j8 {env:Env}:∀ {names:List (Str×NameKind)} {acc:List (Str×Addr)} {p:Str×Addr},p∈yb env names acc->p∈acc \/ ((p.1,NameKind.free)∈names/\p.2=(env.cells.lookup p.1).getD 0)
 | [],acc,p,h=>.inl h
 | (x,k) :: r,acc,p,h=>by
  unfold yb at h
  split at h
  ·rename_i hk
   have hk':k=.free:=by simpa using hk
   subst hk'
   rcases j8 h with q | ⟨q,e⟩
   ·rcases akB.mp q with q | q
    ·subst q;exact .inr ⟨akE,rfl⟩
    ·exact .inl q
   ·exact .inr ⟨akv _ q,e⟩
  ·rcases j8 h with q | ⟨q,e⟩
   ·exact .inl q
   ·exact .inr ⟨akv _ q,e⟩
theorem qz {α:Type}:∀ {l:List (Str×α)} {x:Str} {v:α},(x,v)∈l->∃ u,l.lookup x=some u
 | (y,u) :: r,x,v,h=>by
  rw [akX]
  cases hb:x == y with
  | true=>exact⟨u,rfl⟩
  | false =>
   rcases akB.mp h with e | h
   ·have:x=y:=congrArg Prod.fst e
    subst this
    simp at hb
   ·exact qz h
theorem vp {env:Env}:∀ {names:List (Str×NameKind)} {acc:List (Str×Addr)} {x:Str},(x,NameKind.free)∈names->(x,(env.cells.lookup x).getD 0)∈yb env names acc
 | (y,k) :: r,acc,x,h=>by
  have mono:∀ (names:List (Str×NameKind)) (acc:List (Str×Addr)) (p:Str×Addr),p∈acc->p∈yb env names acc:=by
   intro names
   induction names with
   | nil=>intro acc p hp;exact hp
   | cons q r ih =>
    intro acc p hp
    obtain⟨a,b⟩:=q
    unfold yb
    split
    ·exact ih _ _ (akv _ hp)
    ·exact ih _ _ hp
  unfold yb
  rcases akB.mp h with e | h
  ·cases e
   simp only [beq_self_eq_true,if_true]
   exact mono _ _ _ akE
  ·split
   ·exact vp h
   ·exact vp h
theorem ve {env:Env} {names:List (Str×NameKind)} {x:Str} {c:Addr} (h:∀ x,(x,NameKind.free)∈names->∃ c,env.cells.lookup x=some c) (e:(yb env names []).lookup x=some c):env.cells.lookup x=some c/\(x,NameKind.free)∈names:=by
 rcases j8 (mem_of_lookup e) with q | ⟨q,e'⟩
 ·cases q
 ·obtain⟨c',hc⟩:=h _ q
  dsimp only at hc e'
  rw [hc] at e'
  exact⟨by rw [hc];exact congrArg some e'.symm,q⟩
theorem aaf {env:Env} {names:List (Str×NameKind)} {x:Str} {c:Addr} (h:∀ x,(x,NameKind.free)∈names->∃ c,env.cells.lookup x=some c) (hx:(x,NameKind.free)∈names) (e:env.cells.lookup x=some c):(yb env names []).lookup x=some c:=by
 obtain⟨u,hu⟩:=qz (vp (env:=env) (acc:=[]) hx)
 have:=(ve h hu).1
 rw [this] at e
 rw [hu,e]
theorem y6:∀ {names:List (Str×NameKind)} {n:Nat} {acc:List (Str×Addr)} {x:Str} {c:Addr},(cellsFrom n names acc).lookup x=some c->(n<=c/\c<n+names.length/\(x,NameKind.cell)∈names) \/ (acc.lookup x=some c/\(x,NameKind.cell)∉names)
 | [],n,acc,x,c,h=>.inr ⟨h,by simp⟩
 | (y,k) :: r,n,acc,x,c,h=>by
  unfold cellsFrom at h
  split at h
  ·rename_i hk
   have hk':k=.cell:=by simpa using hk
   subst hk'
   rcases y6 h with⟨q1,q2,q3⟩ | ⟨q1,q2⟩
   ·exact .inl ⟨ami q1,akG q2 (by rw [ala];omega),akv _ q3⟩
   ·rw [akX] at q1
    cases hb:x == y with
    | true =>
     rw [hb] at q1
     cases q1
     have:x=y:=by simpa using hb
     subst this
     exact .inl ⟨akA _,by rw [ala];exact Nat.lt_add_of_pos_right (Nat.succ_pos _),akE⟩
    | false =>
     rw [hb] at q1
     refine .inr ⟨q1,fun z=>?_⟩
     rcases akB.mp z with e | z
     ·have:x=y:=congrArg Prod.fst e
      subst this
      simp at hb
     ·exact q2 z
  ·rename_i hk
   rcases y6 h with⟨q1,q2,q3⟩ | ⟨q1,q2⟩
   ·exact .inl ⟨q1,akG q2 (by rw [ala];omega),akv _ q3⟩
   ·refine .inr ⟨q1,fun z=>?_⟩
    rcases akB.mp z with e | z
    ·have:k=.cell:=(congrArg Prod.snd e).symm
     subst this
     simp at hk
    ·exact q2 z
theorem jk:∀ (names:List (Str×NameKind)) (n:Nat) (acc:List (Str×Addr)),(acc.Pairwise fun x y=>x.2≠y.2)->(∀ p∈acc,p.2<n)->(cellsFrom n names acc).Pairwise fun x y=>x.2≠y.2
 | [],n,acc,h,_=>h
 | (y,k) :: r,n,acc,h,hl=>by
  unfold cellsFrom
  split
  ·refine jk r (n+1) _ (amK.mpr ⟨fun p hp=>?_,h⟩) fun p hp=>?_
   ·exact al5 (hl p hp)
   ·rcases akB.mp hp with e | hp
    ·subst e;exact Nat.lt_succ_self _
    ·exact aly (hl p hp)
  ·exact jk r n acc h hl
theorem aba {names:List (Str×NameKind)} {n:Nat} {acc:List (Str×Addr)} {x:Str} (h:names.lookup x=some .cell):∃ c,(cellsFrom n names acc).lookup x=some c :=
 alw.mp (alA names n acc (.inl h))
theorem vf {names:List (Str×NameKind)} {n:Nat} {acc:List (Str×Addr)} {x:Str} (h:(acc.lookup x).isSome=true):∃ c,(cellsFrom n names acc).lookup x=some c :=
 alw.mp (alA names n acc (.inr h))
theorem jP:∀ (names:List (Str×NameKind)) (h:Heap) (acc:List (Str×Addr)) (x:Str) (c:Addr),(cellsFrom h.objs.size names acc).lookup x=some c->h.objs.size<=c->(∀ p∈acc,p.2<h.objs.size)->(pushCells h names).IsCell c none
 | [],h,acc,x,c,e,hc,hl=>absurd (hl _ (mem_of_lookup e)) (anu.mpr hc)
 | (y,k) :: r,h,acc,x,c,e,hc,hl=>by
  unfold cellsFrom at e
  unfold pushCells
  split at e
  ·rename_i hk
   rw [if_pos hk]
   by_cases hcc:c=h.objs.size
   ·subst hcc
    exact⟨_,pushCells_keeps _ _ _ _ (akS _ rfl),rfl⟩
   ·have es:(h.push { cls:=.type "cell",data:=.cell none }).objs.size=h.objs.size+1:=al2 ..
    refine jP r _ ((y,h.objs.size) :: acc) x c (by rw [es];exact e) (by rw [es];exact Nat.lt_of_le_of_ne hc (alo hcc)) fun p hp=>?_
    rw [es]
    rcases akB.mp hp with e | hp
    ·subst e;exact Nat.lt_succ_self _
    ·exact aly (hl p hp)
  ·rename_i hk
   rw [if_neg hk]
   exact jP r h acc x c e hc hl
noncomputable def zq (X:Cx) (sc:Scope) (N:List Str) (s₀:Shared) (H₀:Hp) (ex:List Addr) (pn:List (Addr×Obj)):Cx :=
 { X with N:=N,s₀:=s₀,H₀:=H₀,env:=compEnvC sc (cellsFrom (s₀.heap.objs.size+1) sc.names (yb X.env sc.names [])) s₀.heap.objs.size X.env,
          outer:=X.stack,ex:=ex,fn:=fun x=>decide (sc.names.lookup x=some .cell),pn:=pn,xe:=fun _ _=>False }
structure CompScope (NO:List Str) (scO:Scope) (N:List Str) (sc:Scope) (own:Nat) (fr:List Nat):Prop where
 kind:sc.kind=.function
 nd:N.Nodup
 snd:(sc.names.map (·.1)).Nodup
 free:∀ p∈sc.names,p.2=.free->scO.names.lookup p.1=some .cell \/ scO.names.lookup p.1=some .free
 frn:∀ p∈(N.drop own).zip fr,NO[p.2]?=some p.1/\sc.names.lookup p.1=some .free
 len:N.length=own+fr.length
noncomputable def jl (own:Nat) (fr:List Nat) (σ:St):St:=al0 own none++fr.map fun j=>(σ[j]?).getD none
theorem yg {α:Type}:∀ {l:List (Str×α)} {x:Str} {k:α},(l.map (·.1)).Nodup->(x,k)∈l->l.lookup x=some k
 | (y,u) :: r,x,k,nd,h=>by
  rw [alJ] at nd
  obtain⟨h1,h2⟩:=alz.mp nd
  rw [akX]
  rcases akB.mp h with e | h'
  ·cases e;simp
  ·have:x≠y:=by
    intro e
    subst e
    exact h1 (alf.mpr ⟨(x,k),h',rfl⟩)
   rw [beq_eq_false_iff_ne.mpr this]
   exact yg h2 h'
theorem jy {env:Env}:∀ {names:List (Str×NameKind)} {x:Str} {k:NameKind},names.lookup x=some k ->
  (names.map fun (n,k)=>if (k == NameKind.free && env.scope.kind == .function && env.kindOf n == some .cell) then (n,NameKind.cell) else (n,k)).lookup x=some (if (k == NameKind.free && env.scope.kind == .function && env.kindOf x == some .cell) then .cell else k)
 | (n,k') :: r,x,k,h=>by
  have ih:=@jy env r x k
  show List.lookup x ((if (k' == NameKind.free && env.scope.kind == .function && env.kindOf n == some .cell)=true then (n,NameKind.cell) else (n,k')) :: _)=_
  cases hx:x == n with
  | true =>
   have:x=n:=by simpa using hx
   subst this
   simp only [akX,hx] at h
   cases h
   split <;> simp [akX]
  | false =>
   simp only [akX,hx] at h
   split
   ·simp only [akX,hx];exact ih h
   ·simp only [akX,hx];exact ih h
theorem jo {env:Env}:∀ {names:List (Str×NameKind)} {x:Str},names.lookup x=none ->
  (names.map fun (n,k)=>if (k == NameKind.free && env.scope.kind == .function && env.kindOf n == some .cell) then (n,NameKind.cell) else (n,k)).lookup x=none
 | [],_,_=>rfl
 | (n,k') :: r,x,h=>by
  have ih:=@jo env r x
  show List.lookup x ((if (k' == NameKind.free && env.scope.kind == .function && env.kindOf n == some .cell)=true then (n,NameKind.cell) else (n,k')) :: _)=_
  cases hx:x == n with
  | true=>simp only [akX,hx] at h;cases h
  | false =>
   simp only [akX,hx] at h
   split
   ·simp only [akX,hx];exact ih h
   ·simp only [akX,hx];exact ih h
section
variable {X:Cx} {pins:List (Addr×Obj)} {σ:St} {H:Hp} {s:Shared} {NO N:List Str} {scO sc:Scope} {own:Nat} {fr:List Nat} {fp:List Addr}
theorem afZ {tk:Nat} (S:CompScope NO scO N sc own fr) (hN:X.N=NO) (hsc:X.env.scope=scO) (I:Inv X pins σ H s) (hf:∀ b∈fp,vz X pins H b) (ho:∀ b∈fp,∃ o,s.heap.get? b=some o/\∀ v,o.data≠.cell v) :
  Inv (zq X sc N s H fp (X.pn++pins)) [] (jl own fr σ) H { s with heap:=pushCells (s.heap.push { cls:=.type "dict",data:=.dict #[] }) sc.names,toks:=tk }:=by
 have hfree:∀ x,(x,NameKind.free)∈sc.names->∃ c,X.env.cells.lookup x=some c:=fun x hx=>I.ok.has x (by
  show X.env.scope.names.lookup x=_ \/ X.env.scope.names.lookup x=_
  rw [hsc]
  exact S.free _ hx rfl)
 have hclt:∀ p∈yb X.env sc.names [],p.2<s.heap.objs.size:=fun p hp=>by
  rcases j8 hp with q | ⟨q,e⟩
  ·cases q
  ·obtain⟨c,hc⟩:=hfree _ q
   rw [e,hc]
   obtain⟨v,o,ho,_⟩:=I.cell _ c hc
   exact akw ho
 have hsz:(s.heap.push { cls:=.type "dict",data:=.dict #[] }).objs.size=s.heap.objs.size+1:=al2 ..
 have hk:∀ b o,s.heap.get? b=some o->(pushCells (s.heap.push { cls:=.type "dict",data:=.dict #[] }) sc.names).get? b=some o:=fun b o e=>pushCells_keeps _ _ _ _ (aku _ e)
 have hcase:∀ {x:Str} {c:Addr},(cellsFrom (s.heap.objs.size+1) sc.names (yb X.env sc.names [])).lookup x=some c->(s.heap.objs.size+1<=c/\(x,NameKind.cell)∈sc.names) \/ (X.env.cells.lookup x=some c/\(x,NameKind.free)∈sc.names):=fun {x c} e=>by
  rcases y6 e with⟨q1,_,q3⟩ | ⟨q1,_⟩
  ·exact .inl ⟨q1,q3⟩
  ·exact .inr (ve hfree q1)
 have clap:(yb X.env sc.names []).Pairwise fun x y=>x.2≠y.2:=by
  have key:∀ (names:List (Str×NameKind)) (acc:List (Str×Addr)),(∀ p∈acc,X.env.cells.lookup p.1=some p.2)->(∀ x,(x,NameKind.free)∈names->∃ c,X.env.cells.lookup x=some c)->(acc.Pairwise fun x y=>x.2≠y.2)->(∀ p∈acc,(p.1,NameKind.free)∉names)->(names.map (·.1)).Nodup ->
    (yb X.env names acc).Pairwise fun x y=>x.2≠y.2:=by
   intro names
   induction names with
   | nil=>intro acc _ _ h _ _;exact h
   | cons p r ih =>
    intro acc h1 h2 h3 h4 h5
    obtain⟨y,k⟩:=p
    rw [alJ] at h5
    obtain⟨n1,n2⟩:=alz.mp h5
    unfold yb
    split
    ·rename_i hk
     have hk':k=.free:=by simpa using hk
     subst hk'
     obtain⟨c,hc⟩:=h2 y akE
     rw [hc]
     refine ih _ (fun p hp=>?_) (fun x hx=>h2 x (akv _ hx)) (amK.mpr ⟨fun p hp=>?_,h3⟩) (fun p hp=>?_) n2
     ·rcases akB.mp hp with e | hp
      ·subst e;exact hc
      ·exact h1 p hp
     ·intro e
      have e':p.2=c:=e.symm
      have:=I.ok.inj _ _ _ hc (e'▸h1 p hp)
      exact h4 p hp (this▸akE)
     ·rcases akB.mp hp with e | hp
      ·subst e
       intro z
       exact n1 (alf.mpr ⟨_,z,rfl⟩)
      ·intro z;exact h4 p hp (akv _ z)
    ·exact ih acc h1 (fun x hx=>h2 x (akv _ hx)) h3 (fun p hp z=>h4 p hp (akv _ z)) n2
  exact key sc.names [] (fun p hp=>by cases hp) hfree List.Pairwise.nil (fun p hp=>by cases hp) S.snd
 have apart:=jk sc.names (s.heap.objs.size+1) _ clap fun p hp=>aly (hclt p hp)
 have hkd:∀ x,(zq X sc N s H fp (X.pn++pins)).env.kindOf x=some .cell \/ (zq X sc N s H fp (X.pn++pins)).env.kindOf x=some .free->(x,NameKind.cell)∈sc.names \/ (x,NameKind.free)∈sc.names:=fun x hx=>by
  cases q:sc.names.lookup x with
  | none =>
   have e:(zq X sc N s H fp (X.pn++pins)).env.kindOf x=none:=jo q
   rw [e] at hx
   rcases hx with z | z <;> cases z
  | some k =>
   have e:(zq X sc N s H fp (X.pn++pins)).env.kindOf x=some _:=jy (env:=X.env) q
   rw [e] at hx
   have hm:=mem_of_lookup q
   cases k <;> first | exact .inl hm | exact .inr hm | (rcases hx with z | z <;> cases z)
 have cellAt:∀ x c,(cellsFrom (s.heap.objs.size+1) sc.names (yb X.env sc.names [])).lookup x=some c->∃ v,(pushCells (s.heap.push { cls:=.type "dict",data:=.dict #[] }) sc.names).IsCell c v:=fun x c e=>by
  rcases hcase e with⟨q,_⟩ | ⟨q,_⟩
  ·exact⟨none,jP _ _ _ x c (by rw [hsz];exact e) (by rw [hsz];exact q) fun p hp=>by rw [hsz];exact aly (hclt p hp)⟩
  ·obtain⟨v,o,ho,hd⟩:=I.cell x c q
   exact⟨v,o,hk _ _ ho,hd⟩
 have lt_of_cell:∀ x c,X.env.cells.lookup x=some c->c<s.heap.objs.size:=fun x c e=>by
  obtain⟨v,o,ho,hd⟩:=I.cell x c e
  exact akw ho
 have lt_of_fp:∀ b∈fp,b<s.heap.objs.size:=fun b hb=>by
  obtain⟨o,e,_⟩:=ho b hb
  exact akw e
 have okX:(zq X sc N s H fp (X.pn++pins)).Ok:=by
  refine⟨I.mod,S.kind,I.ok.glob,I.ok.blt,akA _,fun x y c h1 h2=>name_of_addr apart (mem_of_lookup h1) (mem_of_lookup h2),fun x hx=>?_,fun x c hx hc=>?_,I.ok.hd,I.ok.frames,.inl rfl,fun b hb=>⟨akN (lt_of_fp b hb),fun x c e=>?_⟩,I.bs,akV I.ok.bsz I.sz,fun b o e hb=>?_,fun b hb z=>?_,I.stack,I.stkFree⟩
  ·rcases hkd x hx with q | q
   ·exact aba (yg S.snd q)
   ·obtain⟨c,hc⟩:=hfree x q
    exact vf (by rw [aaf hfree q hc];rfl)
  ·have hx':sc.names.lookup x=some .cell:=of_decide_eq_true hx
   rcases hcase hc with⟨q,_⟩ | ⟨_,q⟩
   ·exact ami q
   ·rw [yg S.snd q] at hx';cases hx'
  ·rcases hcase e with⟨q,_⟩ | ⟨q,_⟩
   ·exact al5 (akG (lt_of_fp b hb) (ami q))
   ·exact (hf b hb).2.2.2.2.1 x c q
  ·rcases (hf b hb).2.2.2.1 with z | z
   ·exact I.ok.noex b o e z
   ·exact absurd (akw e) (anu.mpr (akV I.ok.bsz z))
  ·rcases akB.mp (I.stkSub b z) with q | q
   ·exact (hf b hb).2.1 q
   ·exact (hf b hb).2.2.1 q
 refine⟨okX,rfl,I.bare,Un.kept hk,⟨fun _=>none,(Heap.Ns.new s.heap (.type "dict")).keeps (pushCells_keeps _ _),fun i x v h1 h2 h3=>?_⟩,cellAt,I.hok.fresh (akA _),fun x c e=>?_,fun p hp=>?_,I.hok.kept hk,?_⟩
 ·obtain⟨m,_,hl⟩:=id I.loc
  have h2':(jl own fr σ)[i]?=some (some v):=h2
  have hio:own<=i:=by
   unfold jl at h2'
   refine Nat.le_of_not_lt fun hi=>?_
   rw [akK (by simpa using hi),alR] at h2'
   split at h2' <;> cases h2'
  obtain⟨k,rfl⟩:=Nat.exists_eq_add_of_le hio
  have h1':N[own+k]?=some x:=h1
  unfold jl at h2'
  rw [akL (by simp)] at h2'
  simp only [amn,Nat.add_sub_cancel_left,akz] at h2'
  cases hj:fr[k]? with
  | none=>rw [hj] at h2';cases h2'
  | some j =>
   rw [hj] at h2'
   have h2'':(σ[j]?).getD none=some v:=Option.some.inj h2'
   have hp:(x,j)∈(N.drop own).zip fr:=by
    refine akC (i:=k) ?_
    rw [List.getElem?_zip_eq_some]
    exact⟨by rw [List.getElem?_drop];exact h1',hj⟩
   obtain⟨f1,f2⟩:=S.frn _ hp
   have hσ:σ[j]?=some (some v):=by
    cases q:σ[j]? with
    | none=>rw [q] at h2'';cases h2''
    | some w=>rw [q] at h2'';exact congrArg some h2''
   have hxf:(x,NameKind.free)∈sc.names:=mem_of_lookup f2
   have hko:=S.free _ hxf rfl
   have hvis:Vis X.env.scope x:=by rw [hsc];exact .inr hko
   obtain⟨u,ru,q⟩:=hl j x v (by rw [hN];exact f1) hσ hvis
   refine⟨u,ru,.inr ⟨?_,?_⟩⟩
   ·have e:(zq X sc N s H fp (X.pn++pins)).env.kindOf x=some _:=jy (env:=X.env) f2
    rw [e]
    split
    ·exact .inl rfl
    ·exact .inr rfl
   ·rcases q with⟨k1,_⟩ | ⟨_,c,hc,z⟩
    ·have k1':X.env.scope.names.lookup x=some .local:=k1
     rw [hsc] at k1'
     rcases hko with z | z <;> rw [z] at k1' <;> cases k1'
    ·obtain⟨o,ho,hd⟩:=z
     refine⟨c,?_,o,hk _ _ ho,hd⟩
     have hcl:=aaf hfree hxf hc
     obtain⟨c',hc'⟩:=vf (names:=sc.names) (n:=s.heap.objs.size+1) (acc:=yb X.env sc.names []) (x:=x) (by rw [hcl];rfl)
     rcases hcase hc' with⟨_,z⟩ | ⟨z,_⟩
     ·have:=yg S.snd z
      rw [f2] at this;cases this
     ·rw [hc] at z;cases z;exact hc'
 ·rcases hcase e with⟨q,_⟩ | ⟨q,_⟩
  ·exact I.hok.fresh (ami q)
  ·exact I.freeC x c q
 ·have hp':p∈X.pn++pins:=by simpa [zq] using hp
  obtain⟨e,n,ne,nf,d⟩:=I.pin p hp'
  refine⟨hk _ _ e,n,akN (akw e),fun z=>?_,d⟩
  rcases akB.mp (I.stkSub _ z) with q | q
  ·exact ne q
  ·exact nf q
 ·show (jl own fr σ).length=N.length
  unfold jl
  rw [S.len]
  simp
end
noncomputable abbrev TB:=St->Hp->(St->Hp->Prop)->Prop
noncomputable def PB (X:Cx) (act:Sem Unit) (t:TB):Prop :=
 ∀ (pins:List (Addr×Obj)) (s:Shared) (σ:St) (H:Hp) (Q:St->Hp->Prop),Inv X pins σ H s->t σ H Q->wpAny (model X.prog X.w) X.A act (fun _ s'=>∃ σ' H',Inv X pins σ' H' s'/\Q σ' H') X.xe s
noncomputable def PTs (X:Cx) (ifs:List Expr) (t:TT):Prop :=
 ∀ (pins:List (Addr×Obj)) (s:Shared) (σ:St) (H:Hp) (Q:Bool->Hp->Prop),Inv X pins σ H s->t σ H Q ->
  wpAny (model X.prog X.w) X.A (forIn ifs true fun c r=>if r=true then do let ok <- isTrue c X.env (eval c X.env);pure (ForInStep.yield ok) else pure (ForInStep.yield r)) (TP X pins σ Q) X.xe s
noncomputable def af0:TT:=fun _ H Q=>Q true H
theorem yi {X:Cx}:PTs X [] af0:=fun pins s σ H Q I h=>wpAny_tests_nil ⟨H,I,h⟩
theorem aht {X:Cx} {c:Expr} {t:TT} (hc:PT X c t):PTs X [c] t:=fun pins s σ H Q I h=>wpAny_tests_one (hc pins s σ H Q I h)
noncomputable def acv (J:It) (g:TG) (tt:TT) (tb:TB):TB:=fun σ H Q=>∃ W:Nat->Nat->St->Hp->Prop,(∃ m,W 0 m σ H)/\∀ i m σ H,W i m σ H ->
 (J.stop i H/\Q σ H) \/ (J.go i H/\∀ x H',J.yld i H x H'->g x σ H' fun σ2 H2=>tt σ2 H2 fun b H3=>if b=true then tb σ2 H3 fun σ' H'=>∃ m',m'<m/\W (i+1) m' σ' H' else ∃ m',m'<m/\W (i+1) m' σ2 H3)
section
variable {X:Cx} {pins:List (Addr×Obj)} {s:Shared} {σ:St} {H:Hp} {tg:Expr} {e:Expr} {d:Nat} {acc:Value} {ifs:List Expr} {g:TG} {tt:TT} {tb:TB} {act:Sem Unit} {pos:Pos}
theorem acw (hx:∀ e s,X.xe e s->False) (hc:X.calm=true) (hg:PG X tg g) (ht:PTs X ifs tt) (hb:PB X act tb)
  (heq:∀ it,compTurn e d it acc X.env=(do
   standAt pos
   match <- pyNext it with
   | none=>pure (.done .next)
   | some v =>
    letOwnedTupleGo tg it v
    assign tg X.env v
    let mut ok:=true
    for c in ifs do
     if ok then ok <- isTrue c X.env (eval c X.env)
    if ok then
     act
    again (.compLoop e d it acc X.env)))
  (hqt:∀ it,(Code.compLoop e d it acc X.env).quiet=true)
  (hden:∀ it,(model X.prog X.w).den (.compLoop e d it acc X.env)=(compTurn e d it acc X.env).onRaise (fun x=>do noteFrame x X.env;theTreesLotGoes x))
  (hund:∀ it,X.A.under (.compLoop e d it acc X.env)=X.A)
  {it:Addr} {fp:List Addr} {tn:Nat->Heap->Prop} {J:It} {Q:St->Hp->Prop} {R:Result->Shared->Prop} (I:Inv X pins σ H s) (T:Turn X.prog X.w X.K tg J fp it tn) (st:tn 0 s.heap) (f:∀ b∈fp,vz X pins H b)
  (h:acv J g tt tb σ H Q) (hR:∀ σ' H' s',Inv X pins σ' H' s'->(∀ b∈fp,H' b=none)->Q σ' H'->R (.ok .next) s'):codeAny (model X.prog X.w) X.A (.compLoop e d (.ref it) acc X.env) R s:=by
 obtain⟨W,⟨m0,w0⟩,turn⟩:=h
 have stat:∀ {H':Hp},(∀ b∈fp,H' b=none)->∀ b∈fp,vz X pins H' b:=fun hn b hb=>⟨hn b hb,(f b hb).2⟩
 refine codeAny_loop (hqt _) (fun n s'=>∃ i σ' H',Inv X pins σ' H' s'/\tn i s'.heap/\(∀ b∈fp,H' b=none)/\W i n σ' H') ?_ m0 ⟨0,σ,H,I,st,fun b hb=>(f b hb).1,w0⟩
 rintro n s3 ⟨i,σ3,H3,I3,st3,fr3,w3⟩
 rw [hden,hund]
 refine wpAny_noted ?_
 rw [heq]
 have nox:∀ e' s',X.xe e' s'->notedBy (model X.prog X.w) X.A X.env (fun e s'=>R (.error e) s') e' s':=fun e' s' z=>(hx e' s' z).elim
 refine wpAny_bind (wpAny_standAt (wpAny_bind ?_))
 rcases turn i n σ3 H3 w3 with⟨stop,qn⟩ | ⟨go,step⟩
 ·refine wpAny_mono (T.done X rfl rfl rfl hc i pins s3 σ3 H3 X.xe I3 (stat fr3) st3 stop) (fun r s4 hr4=>?_) nox
  obtain⟨hr,I4⟩:=hr4
  subst hr
  exact wpAny_pure (hR σ3 H3 s4 I4 fr3 qn)
 ·refine wpAny_mono (T.item X rfl rfl rfl hc i pins s3 σ3 H3 X.xe I3 (stat fr3) st3 go) (fun r s4 hr4=>?_) nox
  obtain⟨u,hr,h4⟩:=hr4
  subst hr
  refine wpAny_bind (wpAny_mono h4 (fun _ s5 h5=>?_) nox)
  obtain⟨x,H5,I5,r5,y5,st5,fr5⟩:=h5
  have I5':=I5.pinned (stat fr5) (T.obj _ _ st5)
  refine wpAny_bind (wpAny_mono (hg _ s5 σ3 H5 x u _ I5' r5 (step x H5 y5)) (fun _ s6 h6=>?_) nox)
  obtain⟨σ6,H6,I6,q6⟩:=h6
  refine wpAny_bind (wpAny_mono (ht _ s6 σ6 H6 _ I6 q6) (fun ok s7 h7=>?_) nox)
  obtain⟨H7,I7,q7⟩:=h7
  have again:∀ {σ7:St} {H7:Hp} {s7:Shared},Inv X (pins++aaB fp s5.heap) σ7 H7 s7->(∃ m',m'<n/\W (i+1) m' σ7 H7)->∃ m,m<n/\∃ i σ' H',Inv X pins σ' H' s7/\tn i s7.heap/\(∀ b∈fp,H' b=none)/\W i m σ' H':=fun {σ7 H7 s7} I7 n7=>by
   obtain⟨m',hm,w7⟩:=n7
   refine⟨m',hm,i+1,σ7,H7,I7.unpinned,T.keep _ _ _ st5 fun b hb o e=>(I7.pin (b,o) (akM _ (akM _ (j7 hb e)))).1,fun b hb=>?_,w7⟩
   obtain⟨o,e,d⟩:=T.obj _ _ st5 b hb
   exact (I7.pin (b,o) (akM _ (akM _ (j7 hb e)))).2.1
  cases ok with
  | false =>
   rw [if_neg akr] at q7
   exact wpAny_pure ⟨rfl,again I7 q7⟩
  | true =>
   rw [if_pos rfl] at q7
   refine wpAny_bind (wpAny_mono (hb _ s7 σ6 H7 _ I7 q7) (fun _ s8 h8=>?_) nox)
   obtain⟨σ8,H8,I8,q8⟩:=h8
   exact wpAny_pure ⟨rfl,again I8 q8⟩
theorem abT {D:Addr} {elt:Expr} {te:TE} (he:PE X elt te):PB X (do let _ <- call (.builtin "list.append") [.ref D,<- eval elt X.env]) (fun σ H Q=>te σ H fun y H1=>∃ xs,H1 D=some (.lst xs)/\xs.length<sizeLine/\Q σ (upd H1 D (.lst (xs++[y])))):=by
 intro pins s σ H Q I h
 refine wpAny_bind (thn (he pins s σ H _ I h) fun v s1 h1=>?_)
 obtain⟨y,H1,I1,r1,xs,hD,hz,q⟩:=h1
 obtain⟨z,its,n,r,hl,e⟩:=I1.lstM hD
 refine wpAny_bind ?_
 refine call_meets F.slot_list_append ⟨_,e,rfl⟩ anq (ane _ _) (PySem.list_append D its.toArray n v (by rw [akx];omega)) ⟨e,?_⟩
 refine wpAny_pure ⟨σ,_,I1.lset (its':=its++[v]) hD e (by simp) (r.append (.cons r1 .nil)) ?_,q⟩
 rw [akD,am7]
 omega
theorem acx {M:Model} {A:Around} {E:Value->Shared->Prop} {sc:Scope} {gl:Addr} {cl:List (Str×Addr)} {qual:Str} {env:Env} {Q:Env->Shared->Prop} {s:Shared}
  (h:Q { scope:=sc,locals:=s.heap.objs.size,globals:=gl,cells:=cellsFrom (s.heap.objs.size+1) sc.names cl,qual:=qual,func:=none,code:=env.code,frame:=env.frame,builtins:=env.builtins } { s with heap:=pushCells (s.heap.push { cls:=.type "dict",data:=.dict #[] }) sc.names }) :
  wpAny M A (newFunctionEnv sc gl cl [] qual none .none (some env)) Q E s:=by
 simp only [newFunctionEnv,Option.isSome_some,if_true]
 refine wpAny_bind (wpAny_alloc ?_)
 refine wpAny_bind (wpAny_layCells _ (fun name kind cells=>by cases hkc:kind == NameKind.cell <;> simp [hkc]) _ _ _ _ ?_)
 rw [show ({ s with heap:=s.heap.push { cls:=.type "dict",data:=.dict #[] } }:Shared).heap.objs.size=s.heap.objs.size+1 from al2 ..]
 refine wpAny_bind ?_
 rw [List.forIn_nil]
 exact wpAny_pure (wpAny_pure h)
theorem comp_back {sc:Scope} {N:List Str} {fp:List Addr} {σ':St} {H':Hp} {s':Shared} {h':Heap} (I:Inv X pins σ H s) (hf:∀ b∈fp,vz X pins H b) (J:Inv (zq X sc N s H fp (X.pn++pins)) [] σ' H' s') (hs:amA s.heap.objs.size s'.heap h') :
  Inv X pins σ H' { s' with heap:=h' }:=by
 have u:Un (frs X.stack) fp H H' s.heap s'.heap:=J.base
 have ne:∀ b o,s.heap.get? b=some o->b≠s.heap.objs.size:=fun b o e=>akN (akw e)
 have hfree:H' s.heap.objs.size=none:=J.free
 refine I.call' (s':={ s' with heap:=h' }) (ch:=fp) J.os ⟨fun b o e n h1 h2=>(hs.2 b (ne b o e)).trans (u.keep b o e n h1 h2),fun b o e n h1 h2=>?_,u.free,fun b o e h2=>?_,u.tups,u.frzs,u.tbls⟩ (fun a o e=>?_) J.bare fun b hb=>?_
 ·obtain⟨sl,q⟩:=u.slot b o e n h1 h2
  exact⟨sl,(hs.2 b (ne b o e)).trans q⟩
 ·obtain⟨o',q⟩:=u.there b o e h2
  exact⟨o',(hs.2 b (ne b o e)).trans q⟩
 ·refine (J.hok a o e).stay (fun c v hc q=>(hs.2 c ?_).trans q) (fun _ q=>q) fun _ _ q=>q
  intro z
  subst z
  rcases hc with hc | hc
  ·rw [<-hc] at e
   rw [hfree] at e;cases e
  ·rw [hfree] at hc;cases hc
 ·exact⟨(hf b hb).2.2.2.1,(hf b hb).2.1,(hf b hb).2.2.2.2⟩
end
noncomputable def aag (D:Addr) (te:TE):TB:=fun σ H Q=>te σ H fun y H1=>∃ xs,H1 D=some (.lst xs)/\xs.length<sizeLine/\Q σ (upd H1 D (.lst (xs++[y])))
noncomputable def vg (wi:TI) (own:Nat) (fr:List Nat) (g:TG) (tt:TT) (tb:Addr->TB):TE:=fun σ H Q=>wi σ H fun J H1=>∀ D,H1 D=none ->
 acv J g tt (tb D) (jl own fr σ) (upd H1 D (.lst [])) fun _ H2=>Q (.ref D) H2
section
variable {X:Cx} {pins:List (Addr×Obj)} {s:Shared} {σ:St} {H:Hp} {tg elt iter:Expr} {ifs:List Expr} {rest:List Comprehension} {sc scO:Scope} {NO N:List Str} {own:Nat} {fr:List Nat} {wi:TI} {g:TG} {tt:TT} {tb:Addr->TB} {pos:Pos}
theorem acy {RR:Value->Addr->Result->Shared->Prop} {it:Addr} {fp:List Addr} {tn:Nat->Heap->Prop} {J:It} {Q:VK} (S:CompScope NO scO N sc own fr) (hN:X.N=NO) (hsc:X.env.scope=scO) (hc:X.calm=true)
  (hg:∀ s₀ H₀ ex pn,PG (zq X sc N s₀ H₀ ex pn) tg g) (ht:∀ s₀ H₀ ex pn,PTs (zq X sc N s₀ H₀ ex pn) ifs tt)
  (hb:∀ D s₀ H₀ ex pn,∃ act,PB (zq X sc N s₀ H₀ ex pn) act (tb D)/\∀ it,compTurn (.ListComp elt (⟨tg,iter,ifs,0⟩ :: rest) sc pos) 0 it (.ref D) (zq X sc N s₀ H₀ ex pn).env=(do
   standAt iter.pos
   match <- pyNext it with
   | none=>pure (.done .next)
   | some v =>
    letOwnedTupleGo tg it v
    assign tg (zq X sc N s₀ H₀ ex pn).env v
    let mut ok:=true
    for c in ifs do
     if ok then ok <- isTrue c (zq X sc N s₀ H₀ ex pn).env (eval c (zq X sc N s₀ H₀ ex pn).env)
    if ok then
     act
    again (.compLoop (.ListComp elt (⟨tg,iter,ifs,0⟩ :: rest) sc pos) 0 it (.ref D) (zq X sc N s₀ H₀ ex pn).env)))
  (I:Inv X pins σ H s) (T:Turn X.prog X.w X.K tg J fp it tn) (st:tn 0 s.heap) (f:∀ b∈fp,vz X pins H b)
  (h:∀ D,H D=none->acv J g tt (tb D) (jl own fr σ) (upd H D (.lst [])) fun _ H2=>Q (.ref D) H2)
  (hRR:∀ (D C:Addr) (s':Shared) (H':Hp),(∃ m,s'.heap.Ns C m)->C≠X.env.locals->(∀ x c,X.env.cells.lookup x=some c->c≠C)->H' C=none->X.s₀.heap.objs.size<=C->(∀ p∈X.pn++pins,p.1≠C)->Inv X pins σ H' s'->Q (.ref D) H'->RR (.ref D) C (.ok .next) s') :
  wpAny (model X.prog X.w) X.A (newList []) (fun acc s₃=>wpAny (model X.prog X.w) X.A (newFunctionEnv sc X.env.globals (yb X.env sc.names []) [] X.env.qual none .none (some X.env)) (fun cenv s₄ =>
   codeAny (model X.prog X.w) X.A (.compStart (.ListComp elt (⟨tg,iter,ifs,0⟩ :: rest) sc pos) 0 (.ref it) acc { cenv with scope:=relabel sc X.env }) (RR acc cenv.locals) s₄) X.xe s₃) X.xe s:=by
 refine wpAny_newObj_type (acx ?_)
 have fpsz:∀ b∈fp,b<s.heap.objs.size:=fun b hb=>by
  obtain⟨o,e,_⟩:=T.obj _ _ st b hb
  exact akw e
 have I3:=I.lnew (its:=[]) (ys:=[]) (t':=s.toks) .nil (alp _)
 have f3:∀ b∈fp,vz X pins (upd H s.heap.objs.size (.lst [])) b:=fun b hb=>⟨by rw [zv (akN (fpsz b hb))];exact (f b hb).1,(f b hb).2⟩
 have st3:tn 0 (s.heap.push { cls:=.type "list",data:=.seq ([]:List Value).toArray }):=T.keep _ _ _ st fun b _ o e=>aku _ e
 have I4:=afZ (tk:=s.toks) S hN hsc I3 f3 (T.obj _ _ st3)
 obtain⟨act,pb,heq⟩:=hb s.heap.objs.size _ _ _ _
 have st4:=T.keep _ _ (pushCells ((s.heap.push { cls:=.type "list",data:=.seq ([]:List Value).toArray }).push { cls:=.type "dict",data:=.dict #[] }) sc.names) st3 fun b _ o e=>pushCells_keeps _ _ _ _ (aku _ e)
 have cells_lt:∀ x c,X.env.cells.lookup x=some c->c<s.heap.objs.size:=fun x c e=>by
  obtain⟨v,o,ho,hd⟩:=I.cell x c e
  exact akw ho
 have esz:(s.heap.push { cls:=.type "list",data:=.seq ([]:List Value).toArray }).objs.size=s.heap.objs.size+1:=al2 ..
 have loop:=acw (X:=zq X sc N { s with heap:=s.heap.push { cls:=.type "list",data:=.seq ([]:List Value).toArray } } (upd H s.heap.objs.size (.lst [])) fp (X.pn++pins)) (R:=RR (.ref s.heap.objs.size) (s.heap.push { cls:=.type "list",data:=.seq ([]:List Value).toArray }).objs.size) (fun _ _ z=>z) hc (hg _ _ _ _) (ht _ _ _ _) pb heq (fun _=>rfl) (fun _=>rfl) (fun _=>rfl) I4 T st4
  (fun b hb=>⟨(f3 b hb).1,I4.ok.exf b hb |>.1,I4.ok.exfs b hb,.inl hb,I4.ok.exf b hb |>.2,fun p hp=>by
   have hp':p∈X.pn++pins:=by simpa [zq] using hp
   exact (f b hb).2.2.2.2.2 p hp'⟩) (h _ I.fresh)
  (fun σ' H' s' J' fr' q'=>hRR _ _ s' H' (let⟨m,hm,_⟩:=J'.loc;⟨m,hm⟩) (by rw [esz];exact al5 (aly I.lt)) (fun x c e=>by rw [esz];exact akN (aly (cells_lt x c e))) J'.free (by rw [esz];exact Nat.le_succ_of_le I.sz) (fun p hp=>by rw [esz];exact akN (aly (akw (I.pin p hp).1))) (comp_back (h':=s'.heap) I3 f3 J' (Heap.SameBut.refl ..)) q')
 exact codeAny_compStart_list loop (T.self X.A 0 _ _ _ st4 loop)
theorem Inv.touch {C:Addr} {h':Heap} (I:Inv X pins σ H s) (hs:amA C s.heap h') (hn:H C=none) (h0:C≠X.env.locals) (h1:∀ x c,X.env.cells.lookup x=some c->c≠C) (h2:X.s₀.heap.objs.size<=C) (h3:∀ p∈X.pn++pins,p.1≠C) :
  Inv X pins σ H { s with heap:=h' } :=
 I.turned (t':=s.toks) (fun b o hb e=>(hs.2 b hb).trans e) hn h0 (.inr h2) h1 h3
theorem abb {prog:Program} {w:World} {A:Around} {R:Result->Shared->Prop} {s:Shared} {elt':Expr} {g0:Comprehension} {tg' it':Expr} {ifs':List Expr} {sc':Scope} {pos':Pos} {itv acc:Value} {env:Env}
  (here:codeAny (model prog w) A (.compLoop (.ListComp elt' [g0,⟨tg',it',ifs',0⟩] sc' pos') 1 itv acc env) R s)
  (once:wpAny (model prog w) A (pyIter itv) (fun j s1=>codeAny (model prog w) A (.compLoop (.ListComp elt' [g0,⟨tg',it',ifs',0⟩] sc' pos') 1 j acc env) R s1) (notedBy (model prog w) A env fun x s1=>R (.error x) s1) s) :
  codeAny (model prog w) A (.compStart (.ListComp elt' [g0,⟨tg',it',ifs',0⟩] sc' pos') 1 itv acc env) R s:=by
 apply codeAny_of_tree
 show wpAny _ _ ((compStart (.ListComp elt' [g0,⟨tg',it',ifs',0⟩] sc' pos') 1 itv acc env).onRaise (fun z=>do noteFrame z env;standAt theWindowsPlace)) _ _ s
 apply wpAny_notedAt
 unfold compStart
 show wpAny _ _ (ask >>= _) _ _ s
 apply wpAny_bind
 apply wpAny_askSetting
 apply wpAny_ite
 split
 ·first
   | exact wpAny_bind (wpAny_pure (wpAny_pure (And.intro rfl here)))
   | exact wpAny_pure (And.intro rfl here)
 ·apply wpAny_bind
  apply wpAny_rule
  show wpAny _ _ (standAt it'.pos >>= _) _ _ s
  exact wpAny_bind (wpAny_standAt (wpAny_bind (wpAny_mono once (fun j s1 q=>wpAny_pure (And.intro rfl q)) fun _ _ z=>z)))
section
variable {elt2:Expr} {te:TE} {tg2 iter2:Expr} {ifs2:List Expr} {wi2:TI} {g2:TG} {tt2:TT} {tb2:TB} {y:Str} {i:Nat} {py spos:Pos}
noncomputable def tIn (wi2:TI) (g2:TG) (tt2:TT) (tb2:TB):TB:=fun σ H Q=>wi2 σ H fun J H1=>acv J g2 tt2 tb2 σ H1 Q
theorem ajL {D:Addr} (hx:∀ e s,X.xe e s->False) (hc:X.calm=true) (hi:PI X tg2 iter2 wi2) (hg:PG X tg2 g2) (ht:PTs X ifs2 tt2) (he:PE X elt te)
  (hs:∀ x,foldedSetIterable iter2 X.env x=pure x) :
  PB X (do
   let x <- eval iter2 X.env
   standAt iter2.pos
   let x <- foldedSetIterable iter2 X.env x
   let _ <- runOwn (.compStart (.ListComp elt [⟨tg,iter,ifs,0⟩,⟨tg2,iter2,ifs2,0⟩] sc pos) 1 (<- holding [x] (pyIter x)) (.ref D) X.env) X.env) (tIn wi2 g2 tt2 (aag D te)):=by
 intro pins s σ H Q I h
 refine wpAny_bind (thn (hi pins s σ H _ I h) fun v s1 h1=>?_)
 refine wpAny_bind (wpAny_standAt ?_)
 refine wpAny_bind (wpAny_of_eq (hs v) ?_)
 refine wpAny_bind (wpAny_holding (thn h1 fun itv s2 h2=>?_))
 obtain⟨it,fp,tn,J,H2,e,I2,T,st2,f2,q⟩:=h2
 subst e
 refine wpAny_bind (wpAny_runOwn ?_)
 have loop:=acw (e:=.ListComp elt [⟨tg,iter,ifs,0⟩,⟨tg2,iter2,ifs2,0⟩] sc pos) (d:=1) (pos:=iter2.pos)
  (R:=fun r s'=>match r with | .ok f=>wpAny (model X.prog X.w) X.A (pure ()) (fun _ s'=>∃ σ' H',Inv X pins σ' H' s'/\Q σ' H') X.xe s' | .error e=>cameBackBy (model X.prog X.w) X.A X.env X.xe e s')
  hx hc hg ht (abT (D:=D) he) (fun _=>rfl) (fun _=>rfl) (fun _=>rfl) (fun _=>rfl) I2 T st2 f2 q (fun σ' H' s' J' _ q'=>wpAny_pure ⟨σ',H',J',q'⟩)
 exact abb loop (T.self X.A 0 _ _ _ st2 loop)
theorem adZ (S:CompScope NO scO N sc own fr) (hsc:X.env.scope=scO) (ok:X.Ok):closureFor sc X.env=pure (yb X.env sc.names []) :=
 adk fun x hx=>ok.has x (by
  show X.env.scope.names.lookup x=_ \/ X.env.scope.names.lookup x=_
  rw [hsc]
  exact S.free _ hx rfl)
theorem ad0 (S:CompScope NO scO N sc own fr) (hc:X.calm=true) (hi:PI X tg iter wi) (hg:∀ s₀ H₀ ex pn,PG (zq X sc N s₀ H₀ ex pn) tg g) (ht:∀ s₀ H₀ ex pn,PTs (zq X sc N s₀ H₀ ex pn) ifs tt)
  (hb:∀ D s₀ H₀ ex pn,∃ act,PB (zq X sc N s₀ H₀ ex pn) act (tb D)/\∀ it,compTurn (.ListComp elt (⟨tg,iter,ifs,0⟩ :: rest) sc pos) 0 it (.ref D) (zq X sc N s₀ H₀ ex pn).env=(do
   standAt iter.pos
   match <- pyNext it with
   | none=>pure (.done .next)
   | some v =>
    letOwnedTupleGo tg it v
    assign tg (zq X sc N s₀ H₀ ex pn).env v
    let mut ok:=true
    for c in ifs do
     if ok then ok <- isTrue c (zq X sc N s₀ H₀ ex pn).env (eval c (zq X sc N s₀ H₀ ex pn).env)
    if ok then
     act
    again (.compLoop (.ListComp elt (⟨tg,iter,ifs,0⟩ :: rest) sc pos) 0 it (.ref D) (zq X sc N s₀ H₀ ex pn).env)))
  (hN:X.N=NO) (hsc:X.env.scope=scO) (hs:∀ x,foldedSetIterable iter X.env x=pure x) :
  PE X (.ListComp elt (⟨tg,iter,ifs,0⟩ :: rest) sc pos) (vg wi own fr g tt tb):=by
 intro pins s σ H Q I h
 rw [eval_ListComp]
 refine wpAny_comprehension_free (use:=none) rfl hs (adZ S hsc I.ok) S.kind (fun p hp hl=>yg S.snd (k:=.local) (by rw [<-hl];exact hp)) (thn (hi pins s σ H _ I h) fun v s1 h1=>thn h1 fun itv s2 h2=>?_)
 obtain⟨it,fp,tn,J,H2,e,I2,T,st2,f2,q⟩:=h2
 subst e
 refine acy (RR:=fun acc C=>compPost (model X.prog X.w) X.A X.xe none (EP X pins σ Q) acc C) S hN hsc hc hg ht hb I2 T st2 f2 q ?_
 rintro D C s' H' ⟨m,hm⟩ c0 c1 c2 c3 c4 J' q'
 exact⟨m,hm,fun h' hs'=>⟨.ref D,H',J'.touch hs' c2 c0 c1 c3 c4,rfl,q'⟩⟩
theorem adl (S:CompScope NO scO N sc own fr) (hc:X.calm=true) (hNd:X.N.Nodup) (hiN:X.N[i]?=some y) (hy:Loc X.env.scope y) (hi:PI X tg iter wi) (hg:∀ s₀ H₀ ex pn,PG (zq X sc N s₀ H₀ ex pn) tg g) (ht:∀ s₀ H₀ ex pn,PTs (zq X sc N s₀ H₀ ex pn) ifs tt)
  (hb:∀ D s₀ H₀ ex pn,∃ act,PB (zq X sc N s₀ H₀ ex pn) act (tb D)/\∀ it,compTurn (.ListComp elt (⟨tg,iter,ifs,0⟩ :: rest) sc pos) 0 it (.ref D) (zq X sc N s₀ H₀ ex pn).env=(do
   standAt iter.pos
   match <- pyNext it with
   | none=>pure (.done .next)
   | some v =>
    letOwnedTupleGo tg it v
    assign tg (zq X sc N s₀ H₀ ex pn).env v
    let mut ok:=true
    for c in ifs do
     if ok then ok <- isTrue c (zq X sc N s₀ H₀ ex pn).env (eval c (zq X sc N s₀ H₀ ex pn).env)
    if ok then
     act
    again (.compLoop (.ListComp elt (⟨tg,iter,ifs,0⟩ :: rest) sc pos) 0 it (.ref D) (zq X sc N s₀ H₀ ex pn).env)))
  (hN:X.N=NO) (hsc:X.env.scope=scO) (hs:∀ x,foldedSetIterable iter X.env x=pure x) (hf:X.fn y=true \/ X.env.scope.names.lookup y=some .local)
  (hsw:swapsWith (.ListComp elt (⟨tg,iter,ifs,0⟩ :: rest) sc pos) (some (.Name y py)) spos.line X.env=pure true) :
  PS X (.Assign [.Name y py] (.ListComp elt (⟨tg,iter,ifs,0⟩ :: rest) sc pos) spos) (vR (vg wi own fr g tt tb) (qG i)):=by
 intro pins s σ H D I h
 rw [exec_Assign_Name_used _ _ _ _ hsw]
 refine wpAny_bind (wpAny_standAt (wpAny_bind ?_))
 show wpAny _ X.A (do let _ <- comprehension (.ListComp elt (⟨tg,iter,ifs,0⟩ :: rest) sc pos) sc X.env _ (newList []) false (eval iter X.env) (some (assign (.Name y py) X.env))) _ _ s
 refine wpAny_bind (wpAny_mono (wpAny_comprehension_free (use:=some (assign (.Name y py) X.env)) (Q:=fun _ s'=>SP X pins D .next s') rfl hs (adZ S hsc I.ok) S.kind (fun p hp hl=>yg S.snd (k:=.local) (by rw [<-hl];exact hp))
  (thn (hi pins s σ H _ I h) fun v s1 h1=>thn h1 fun itv s2 h2=>?_)) (fun _ s' hq=>wpAny_pure (wpAny_pure hq)) fun _ _ e=>e)
 obtain⟨it,fp,tn,J,H2,e,I2,T,st2,f2,q⟩:=h2
 subst e
 refine acy (Q:=fun x H1=>qG i x σ H1 D.nx) (RR:=fun acc C=>compPost (model X.prog X.w) X.A X.xe (some (assign (.Name y py) X.env)) (fun _ s'=>SP X pins D .next s') acc C) S hN hsc hc hg ht hb I2 T st2 f2 q ?_
 rintro A' C s' H' ⟨m,hm⟩ c0 c1 c2 c3 c4 J' q'
 show wpAny _ X.A (assign (.Name y py) X.env (.ref A')) _ _ _
 refine wpAny_assign_Name (abm (v:=.ref A') J' hNd hiN hy rfl (fun s2' I2' hsb=>?_) hf)
 obtain⟨a,hs2,ha⟩:=hsb
 have hCa:C≠a:=by
  rcases ha with ha | ha
  ·rw [ha];exact c0
  ·exact alo (c1 _ _ ha)
 exact⟨m,hm.sameBut hs2 hCa,fun h' hs'=>⟨_,H',I2'.touch hs' c2 c0 c1 c3 c4,q'⟩⟩
end
end
section
variable {X:Cx} {tg elt iter tg2 iter2:Expr} {ifs ifs2:List Expr} {sc scO:Scope} {NO N:List Str} {own:Nat} {fr:List Nat} {wi wi2:TI} {g g2:TG} {tt tt2:TT} {te:TE} {pos py spos:Pos} {y:Str} {i:Nat}
theorem yx (S:CompScope NO scO N sc own fr) (hc:X.calm=true) (hi:PI X tg iter wi) (hg:∀ s₀ H₀ ex pn,PG (zq X sc N s₀ H₀ ex pn) tg g) (ht:∀ s₀ H₀ ex pn,PTs (zq X sc N s₀ H₀ ex pn) ifs tt) (he:∀ s₀ H₀ ex pn,PE (zq X sc N s₀ H₀ ex pn) elt te)
  (hN:X.N=NO) (hsc:X.env.scope=scO) (hs:∀ x,foldedSetIterable iter X.env x=pure x):PE X (.ListComp elt [⟨tg,iter,ifs,0⟩] sc pos) (vg wi own fr g tt fun D=>aag D te) :=
 ad0 S hc hi hg ht (fun D s₀ H₀ ex pn=>⟨_,abT (D:=D) (he s₀ H₀ ex pn),fun _=>rfl⟩) hN hsc hs
theorem qH (S:CompScope NO scO N sc own fr) (hc:X.calm=true) (hNd:X.N.Nodup) (hiN:X.N[i]?=some y) (hy:Loc X.env.scope y) (hi:PI X tg iter wi) (hg:∀ s₀ H₀ ex pn,PG (zq X sc N s₀ H₀ ex pn) tg g) (ht:∀ s₀ H₀ ex pn,PTs (zq X sc N s₀ H₀ ex pn) ifs tt) (he:∀ s₀ H₀ ex pn,PE (zq X sc N s₀ H₀ ex pn) elt te)
  (hN:X.N=NO) (hsc:X.env.scope=scO) (hs:∀ x,foldedSetIterable iter X.env x=pure x) (hf:X.fn y=true \/ X.env.scope.names.lookup y=some .local)
  (hsw:swapsWith (.ListComp elt [⟨tg,iter,ifs,0⟩] sc pos) (some (.Name y py)) spos.line X.env=pure true) :
  PS X (.Assign [.Name y py] (.ListComp elt [⟨tg,iter,ifs,0⟩] sc pos) spos) (vR (vg wi own fr g tt fun D=>aag D te) (qG i)) :=
 adl S hc hNd hiN hy hi hg ht (fun D s₀ H₀ ex pn=>⟨_,abT (D:=D) (he s₀ H₀ ex pn),fun _=>rfl⟩) hN hsc hs hf hsw
end
theorem af1 {elt tg iter tg2 iter2:Expr} {ifs ifs2:List Expr} {sc:Scope} {pos:Pos} {it acc:Value} {env:Env} :
  compTurn (.ListComp elt [⟨tg,iter,ifs,0⟩,⟨tg2,iter2,ifs2,0⟩] sc pos) 0 it acc env=(do
   standAt iter.pos
   match <- pyNext it with
   | none=>pure (.done .next)
   | some v =>
    letOwnedTupleGo tg it v
    assign tg env v
    let mut ok:=true
    for c in ifs do
     if ok then ok <- isTrue c env (eval c env)
    if ok then
     (do
      let x <- eval iter2 env
      standAt iter2.pos
      let x <- foldedSetIterable iter2 env x
      let _ <- runOwn (.compStart (.ListComp elt [⟨tg,iter,ifs,0⟩,⟨tg2,iter2,ifs2,0⟩] sc pos) 1 (<- holding [x] (pyIter x)) acc env) env)
    again (.compLoop (.ListComp elt [⟨tg,iter,ifs,0⟩,⟨tg2,iter2,ifs2,0⟩] sc pos) 0 it acc env)):=by
 unfold compTurn
 simp only [bind_assoc,pure_bind]
 rfl
section
variable {X:Cx} {tg elt iter tg2 iter2:Expr} {ifs ifs2:List Expr} {sc scO:Scope} {NO N:List Str} {own:Nat} {fr:List Nat} {wi wi2:TI} {g g2:TG} {tt tt2:TT} {te:TE} {pos py spos:Pos} {y:Str} {i:Nat}
theorem acz (S:CompScope NO scO N sc own fr) (hc:X.calm=true) (hi:PI X tg iter wi) (hg:∀ s₀ H₀ ex pn,PG (zq X sc N s₀ H₀ ex pn) tg g) (ht:∀ s₀ H₀ ex pn,PTs (zq X sc N s₀ H₀ ex pn) ifs tt)
  (hi2:∀ s₀ H₀ ex pn,PI (zq X sc N s₀ H₀ ex pn) tg2 iter2 wi2) (hg2:∀ s₀ H₀ ex pn,PG (zq X sc N s₀ H₀ ex pn) tg2 g2) (ht2:∀ s₀ H₀ ex pn,PTs (zq X sc N s₀ H₀ ex pn) ifs2 tt2)
  (he:∀ s₀ H₀ ex pn,PE (zq X sc N s₀ H₀ ex pn) elt te) (hN:X.N=NO) (hsc:X.env.scope=scO) (hs:∀ x,foldedSetIterable iter X.env x=pure x) (hs2:∀ s₀ H₀ ex pn x,foldedSetIterable iter2 (zq X sc N s₀ H₀ ex pn).env x=pure x) :
  PE X (.ListComp elt [⟨tg,iter,ifs,0⟩,⟨tg2,iter2,ifs2,0⟩] sc pos) (vg wi own fr g tt fun D=>tIn wi2 g2 tt2 (aag D te)) :=
 ad0 S hc hi hg ht (fun D s₀ H₀ ex pn=>⟨_,ajL (D:=D) (fun _ _ z=>z) hc (hi2 s₀ H₀ ex pn) (hg2 s₀ H₀ ex pn) (ht2 s₀ H₀ ex pn) (he s₀ H₀ ex pn) (hs2 s₀ H₀ ex pn),fun it=>af1⟩) hN hsc hs
end
section
variable {X:Cx} {pins:List (Addr×Obj)} {σ:St} {H:Hp} {s:Shared} {h':Heap} {fp:List Addr}
theorem Inv.turnedAll {t':Nat} (I:Inv X pins σ H s) (hf:∀ b∈fp,vz X pins H b) (k:∀ b o,b∉fp->s.heap.get? b=some o->h'.get? b=some o):Inv X pins σ H { s with heap:=h',toks:=t' }:=by
 refine I.step (g':=s.gens) (d':=s.drawn) (ch:=fp) (fun b hb=>⟨(hf b hb).2.2.2.1,(hf b hb).2.1,(hf b hb).2.2.2.2⟩) (fun b o _ _ hc e _=>k b o hc e) (fun b o _ _ hc e _=>⟨o.slots,k b o hc e⟩) (fun _ _ _ _ n=>n)
  (fun b o hc e=>⟨o,k b o hc e⟩) (fun _ _ e=>e) (fun _ _ _ e=>e) (fun b ps e=>⟨#[],by rw [e];simp⟩) (fun m hm=>?_) (fun b u e=>?_) I.bare
 ·obtain⟨o,es,ep,ho,r⟩:=hm
  exact⟨o,es,ep,k _ o (fun z=>(hf _ z).2.1 rfl) ho,r⟩
 ·refine (I.hok b u e).stay (fun c v hc q=>k c v (fun z=>?_) q) (fun _ q=>q) fun _ _ q=>q
  have hn:=(hf c z).1
  rcases hc with hc | hc
  ·subst hc;rw [e] at hn;cases hn
  ·rw [hc] at hn;cases hn
theorem Inv.turnedNew {t':Nat} {t:Addr} {o:HO} (I:Inv X pins σ H s) (hf:∀ b∈fp,vz X pins H b) (k:∀ b o,b∉fp->s.heap.get? b=some o->h'.get? b=some o) (ht:s.heap.objs.size<=t) (new:ObjOk X.prog X.w (upd H t o) h' t o) :
  Inv X pins σ (upd H t o) { s with heap:=h',toks:=t' }:=by
 have hn:H t=none:=I.hok.fresh ht
 have ne:∀ b ob,s.heap.get? b=some ob->b≠t:=fun b ob e=>akN (akG (akw e) ht)
 refine I.step (g':=s.gens) (d':=s.drawn) (ch:=fp) (fun b hb=>⟨(hf b hb).2.2.2.1,(hf b hb).2.1,(hf b hb).2.2.2.2⟩) (fun b o _ _ hc e _=>k b o hc e) (fun b o _ _ hc e _=>⟨o.slots,k b o hc e⟩) (fun b ob _ e n=>by rw [zv (ne b ob e)];exact n)
  (fun b o hc e=>⟨o,k b o hc e⟩) (fun b xs e=>by rw [zv (zP e hn)];exact e) (fun b ob u e=>by rw [zv (zP e hn)];exact e) (fun b ps e=>⟨#[],by rw [zv (zP e hn),e];simp⟩) (fun m hm=>?_) (fun b u e=>?_) I.bare
 ·obtain⟨o,es,ep,ho,r⟩:=hm
  exact⟨o,es,ep,k _ o (fun z=>(hf _ z).2.1 rfl) ho,r⟩
 ·by_cases hb:b=t
  ·subst hb;rw [zx] at e;cases e;exact new
  ·rw [zv hb] at e
   refine (I.hok b u e).stay (fun c v hc q=>k c v (fun z=>?_) q) (fun c q=>by rw [zv (zP q hn)];exact q) fun c xs q=>by rw [zv (zP q hn)];exact q
   have hn':=(hf c z).1
   rcases hc with hc | hc
   ·subst hc;rw [e] at hn';cases hn'
   ·rw [hc] at hn';cases hn'
end
noncomputable def Ite (K:akq) (a:Addr):It :=
 ⟨fun i H=>∃ xs x,SqL K H a xs/\xs[i]?=some x,fun i H x H'=>∃ t y,x=.ref t/\H t=none/\H'=upd H t (.tup [.int i,y])/\∀ xs,SqL K H a xs->xs[i]?=some y,fun i H=>∃ xs,SqL K H a xs/\xs.length<=i⟩
theorem aeM {P:Program} {w:World} {K:akq} {es:List Expr} {k:Nat} {pos:Pos} (a e it:Addr) (hne:e≠it):Turn P w K (.Tuple es k pos) (Ite K a) [e,it] e (fun i h=>(∃ old,IsEnum h e it i old)/\h.IsListIter it a i) where
 mem:=by simp
 obj:=fun i h st b hb=>by
  obtain⟨⟨old,se⟩,o,eo,c,d⟩:=st
  rcases akB.mp hb with z | z
  ·subst z
   exact⟨_,se,fun v z=>by
    have z':Data.fields _=Data.cell v:=z
    cases z'⟩
  ·have z:b=it:=by simpa using z
   subst z
   exact⟨o,eo,fun v z=>by rw [d] at z;cases z⟩
 keep:=fun i h h' st kk=>⟨let⟨old,se⟩:=st.1;⟨old,kk e (by simp) _ se⟩,st.2.at fun o eo=>kk it (by simp) o eo⟩
 item:=by
  intro X hP hw hK hc i pins s σ H E I hf st hg
  subst hP hw hK
  obtain⟨xs,x,hq,hx⟩:=hg
  obtain⟨its,rv,p,hz⟩:=I.list hq
  obtain⟨u,hu,ru⟩:=rv.get hx
  obtain⟨⟨old,se⟩,si⟩:=st
  refine wpAny_pyNext_enum_item se si p.isList (x:=u) (by simpa using hu) hne fun h' so si' tp sz kp=>?_
  refine⟨_,rfl,?_⟩
  refine wpAny_letOwnedTupleGo_enum (s:={ s with heap:=h',toks:=s.toks+1 }) so fun h2 se2 sb=>?_
  have hlt:e<s.heap.objs.size:=akw se
  obtain⟨oi,eoi,_,_⟩:=id si
  have hlt2:it<s.heap.objs.size:=akw eoi
  have kk:∀ b o,b∉[e,it]->s.heap.get? b=some o->h2.get? b=some o:=fun b o hb eb=>by
   have h1:b≠e:=fun z=>hb (by simp [z])
   have h2':b≠it:=fun z=>hb (by simp [z])
   exact (sb.2 b h1).trans (kp b o h1 h2' eb)
  have I2:Inv X pins σ (upd H s.heap.objs.size (.tup [.int i,x])) { s with heap:=h2,toks:=s.toks+1 }:=I.turnedNew hf kk (akA _)
   ⟨by show 2<=sizeLine;decide,[.int i s.toks,u],.cons ⟨_,rfl⟩ (.cons ru .nil),⟨_,(sb.2 _ (al5 hlt)).trans tp,rfl,_,rfl⟩⟩
  refine⟨.ref s.heap.objs.size,_,I2,rfl,⟨_,x,rfl,I.fresh,rfl,fun ys hy=>by rw [I.list_inj hy hq];exact hx⟩,⟨⟨_,se2⟩,?_⟩,fun b hb=>?_⟩
  ·exact si'.at fun o eo=>(sb.2 it (alo hne)).trans eo
  ·rw [zv]
   ·exact (hf b hb).1
   ·rcases akB.mp hb with z | z
    ·subst z;exact akN hlt
    ·have z:b=it:=by simpa using z
     subst z;exact akN hlt2
 done:=by
  intro X hP hw hK hc i pins s σ H E I hf st hg
  subst hP hw hK
  obtain⟨xs,hq,hx⟩:=hg
  obtain⟨its,rv,p,hz⟩:=I.list hq
  obtain⟨⟨old,se⟩,si⟩:=st
  have hl:=rv.length
  exact wpAny_pyNext_enum_end (I.ok.hd hc) se si p.isList (by simp;omega) fun h' eb=>⟨rfl,I.turnedAll (t':=s.toks) hf fun b o hb e'=>eb b o (fun z=>hb (by simp [z])) e'⟩
 self:=fun _ _ _ _ _ st h=>let⟨_,se⟩:=st.1;wpAny_pyIter_enum se h
section
variable {X:Cx} {es:List Expr} {k:Nat} {tpos:Pos}
noncomputable def af2 (K:akq) (ta:TA):TI:=fun σ H R=>ta σ H fun vs H1=>∃ a,vs=[.ref a]/\(∃ xs,SqL K H1 a xs)/\R (Ite K a) H1
theorem ahu {a:Expr} {ta:TA} {p pos:Pos} (hg:Gl X "enumerate") (hm:X.mg "enumerate"=none) (ha:PA X [a] ta) (hs:starEach [a] X.env=[(false,eval a X.env)]:=by rfl):PI X (.Tuple es k tpos) (.Call (.Name "enumerate" p) [a] [] pos) (af2 X.K ta):=by
 intro pins s σ H R I h
 refine Call_ (jx I hg hm boot_enumerate (akT (thn (ha pos pins s σ H _ I h) fun us s1 ⟨vs,H1,I1,r1,q1⟩=>?_) hs rfl))
 obtain⟨l,e,⟨xs,hq⟩,q⟩:=q1
 subst e
 cases r1 with
 | cons r rr =>
  cases rr
  cases r
  obtain⟨its,rv,p,hz⟩:=I1.list hq
  refine call_enumerate_list p.isList fun h' he hi hsz kp=>?_
  refine wpAny_pyIter_enum he ?_
  have hne:s1.heap.objs.size+1≠s1.heap.objs.size:=Nat.succ_ne_self _
  refine⟨s1.heap.objs.size+1,[s1.heap.objs.size+1,s1.heap.objs.size],_,_,H1,rfl,I1.kept (t':=s1.toks) kp,aeM l _ _ hne,⟨⟨_,he⟩,hi⟩,fun b hb=>?_,q⟩
  rcases akB.mp hb with z | z
  ·subst z;exact I1.fpOk (al3 _) (I1.hok.fresh (al3 _))
  ·have z:b=s1.heap.objs.size:=by simpa using z
   subst z;exact I1.fpOk (akA _) (I1.hok.fresh (akA _))
end
mutual
noncomputable def Rep (K:akq) (H:Hp):PyData->V->Prop
 | .none,v=>v=.non
 | .bool b,v=>v=.bl b
 | .int i,v=>v=.int i
 | .str x,v=>v=.str x
 | .list ds,v=>∃ a xs,v=.ref a/\SqL K H a xs/\Reps K H ds xs
 | .tuple ds,v=>∃ a xs,v=.ref a/\SqT K H a xs/\Reps K H ds xs
 | .dict _,_=>False
noncomputable def Reps (K:akq) (H:Hp):List PyData->List V->Prop
 | [],xs=>xs=[]
 | d :: ds,xs=>∃ x r,xs=x :: r/\Rep K H d x/\Reps K H ds r
end
theorem Same.seqT {K:akq} {H H':Hp} {a:Addr} {xs:List V} (e:Same H H') (h:SqT K H a xs):SqT K H' a xs:=by
 rcases h with (h | ⟨o,h⟩) | h
 ·exact .inl (.inl (e _ _ h))
 ·exact .inl (.inr ⟨o,e _ _ h⟩)
 ·exact .inr h
mutual
theorem Rep.mono {K:akq} {H H':Hp} (e:Same H H'):∀ (d:PyData) (v:V),Rep K H d v->Rep K H' d v
 | .none,_,h=>by rw [Rep] at h ⊢;exact h
 | .bool _,_,h=>by rw [Rep] at h ⊢;exact h
 | .int _,_,h=>by rw [Rep] at h ⊢;exact h
 | .str _,_,h=>by rw [Rep] at h ⊢;exact h
 | .list ds,v,h=>by
  rw [Rep] at h ⊢
  obtain⟨a,xs,h1,h2,h3⟩:=h
  exact⟨a,xs,h1,e.seq h2,Reps.mono e ds xs h3⟩
 | .tuple ds,v,h=>by
  rw [Rep] at h ⊢
  obtain⟨a,xs,h1,h2,h3⟩:=h
  exact⟨a,xs,h1,e.seqT h2,Reps.mono e ds xs h3⟩
 | .dict _,_,h=>by rw [Rep] at h;exact h.elim
theorem Reps.mono {K:akq} {H H':Hp} (e:Same H H'):∀ (ds:List PyData) (xs:List V),Reps K H ds xs->Reps K H' ds xs
 | [],_,h=>by rw [Reps] at h ⊢;exact h
 | d :: ds,xs,h=>by
  rw [Reps] at h ⊢
  obtain⟨x,r,h1,h2,h3⟩:=h
  exact⟨x,r,h1,Rep.mono e d x h2,Reps.mono e ds r h3⟩
end
theorem rep_int {K:akq} {H:Hp} {i:Int} {v:V}:Rep K H (.int i) v↔v=.int i:=by rw [Rep]
theorem rep_bool {K:akq} {H:Hp} {b:Bool} {v:V}:Rep K H (.bool b) v↔v=.bl b:=by rw [Rep]
theorem rep_none {K:akq} {H:Hp} {v:V}:Rep K H .none v↔v=.non:=by rw [Rep]
theorem rep_str {K:akq} {H:Hp} {x:Str} {v:V}:Rep K H (.str x) v↔v=.str x:=by rw [Rep]
theorem rep_list {K:akq} {H:Hp} {ds:List PyData} {v:V}:Rep K H (.list ds) v↔∃ a xs,v=.ref a/\SqL K H a xs/\Reps K H ds xs:=by rw [Rep]
theorem rep_tuple {K:akq} {H:Hp} {ds:List PyData} {v:V}:Rep K H (.tuple ds) v↔∃ a xs,v=.ref a/\SqT K H a xs/\Reps K H ds xs:=by rw [Rep]
theorem reps_nil {K:akq} {H:Hp} {xs:List V}:Reps K H [] xs↔xs=[]:=by rw [Reps]
theorem reps_cons {K:akq} {H:Hp} {d:PyData} {ds:List PyData} {xs:List V}:Reps K H (d :: ds) xs↔∃ x r,xs=x :: r/\Rep K H d x/\Reps K H ds r:=by rw [Reps]
theorem Reps.nil' {K:akq} {H:Hp}:Reps K H [] []:=reps_nil.mpr rfl
theorem Reps.cons' {K:akq} {H:Hp} {d:PyData} {ds:List PyData} {x:V} {r:List V} (h:Rep K H d x) (t:Reps K H ds r):Reps K H (d :: ds) (x :: r):=reps_cons.mpr ⟨x,r,rfl,h,t⟩
theorem Reps.length {K:akq} {H:Hp}:∀ {ds:List PyData} {xs:List V},Reps K H ds xs->xs.length=ds.length
 | [],xs,h=>by rw [reps_nil.mp h];rfl
 | d :: ds,xs,h=>by
  obtain⟨x,r,rfl,_,h3⟩:=reps_cons.mp h
  rw [ala,ala,Reps.length h3]
theorem Reps.get {K:akq} {H:Hp}:∀ {ds:List PyData} {xs:List V} {i:Nat} {d:PyData},Reps K H ds xs->ds[i]?=some d->∃ x,xs[i]?=some x/\Rep K H d x
 | [],_,_,_,_,e=>by simp at e
 | d :: ds,xs,0,d',h,e=>by
  obtain⟨x,r,rfl,h2,_⟩:=reps_cons.mp h
  simp at e;subst e
  exact⟨x,rfl,h2⟩
 | d :: ds,xs,i+1,d',h,e=>by
  obtain⟨x,r,rfl,_,h3⟩:=reps_cons.mp h
  obtain⟨y,h1,h2⟩:=Reps.get (i:=i) h3 (by simpa using e)
  exact⟨y,by simpa using h1,h2⟩
theorem Reps.snoc {K:akq} {H:Hp} {d:PyData} {x:V} (h:Rep K H d x):∀ {ds:List PyData} {xs:List V},Reps K H ds xs->Reps K H (ds++[d]) (xs++[x])
 | [],xs,t=>by rw [reps_nil.mp t];exact .cons' h .nil'
 | d' :: ds,xs,t=>by
  obtain⟨y,r,rfl,h2,h3⟩:=reps_cons.mp t
  exact .cons' h2 (Reps.snoc h h3)
theorem Reps.append {K:akq} {H:Hp}:∀ {ds es:List PyData} {xs ys:List V},Reps K H ds xs->Reps K H es ys->Reps K H (ds++es) (xs++ys)
 | [],es,xs,ys,t,u=>by rw [reps_nil.mp t];exact u
 | d' :: ds,es,xs,ys,t,u=>by
  obtain⟨y,r,rfl,h2,h3⟩:=reps_cons.mp t
  exact .cons' h2 (Reps.append h3 u)
theorem Reps.ints {K:akq} {H:Hp}:∀ {ns:List Int} {xs:List V},Reps K H (ns.map .int) xs->xs=ns.map V.int
 | [],xs,h=>reps_nil.mp h
 | n :: ns,xs,h=>by
  obtain⟨x,r,rfl,h2,h3⟩:=reps_cons.mp h
  rw [rep_int.mp h2,Reps.ints h3];rfl
theorem Reps.ints' {K:akq} {H:Hp}:∀ (ns:List Int),Reps K H (ns.map .int) (ns.map V.int)
 | []=>.nil'
 | n :: ns=>.cons' (rep_int.mpr rfl) (Reps.ints' ns)
section
variable {X:Cx} {pins:List (Addr×Obj)} {σ:St} {H:Hp} {s:Shared}
mutual
theorem yE (I:Inv X pins σ H s):∀ (d:PyData) (v:V) (u:Value),Rep X.K H d v->RelV v u->∃ as,Reads s.heap u d as
 | .none,v,u,h,r=>by rw [rep_none.mp h] at r;cases r;exact⟨_,.none⟩
 | .bool b,v,u,h,r=>by rw [rep_bool.mp h] at r;cases r;exact⟨_,.bool b⟩
 | .int i,v,u,h,r=>by rw [rep_int.mp h] at r;obtain⟨t,rfl⟩:=r;exact⟨_,.int i t⟩
 | .str x,v,u,h,r=>by rw [rep_str.mp h] at r;obtain⟨t,rfl⟩:=r;exact⟨_,.str x t⟩
 | .list ds,v,u,h,r=>by
  obtain⟨a,xs,rfl,h2,h3⟩:=rep_list.mp h
  cases r
  obtain⟨its,rv,p,_⟩:=I.list h2
  obtain⟨o,ho,hc,n,hd⟩:=p.isList
  obtain⟨as,ra⟩:=qI I ds xs its h3 rv
  exact⟨_,.list ho hc hd (by simpa using ra)⟩
 | .tuple ds,v,u,h,r=>by
  obtain⟨a,xs,rfl,h2,h3⟩:=rep_tuple.mp h
  cases r
  obtain⟨its,rv,p,_⟩:=I.tuple h2
  obtain⟨o,ho,hc,n,hd⟩:=p
  obtain⟨as,ra⟩:=qI I ds xs its h3 rv
  exact⟨_,.tuple ho hc hd (by simpa using ra)⟩
 | .dict _,_,_,h,_=>by rw [Rep] at h;exact h.elim
theorem qI (I:Inv X pins σ H s):∀ (ds:List PyData) (xs:List V) (us:List Value),Reps X.K H ds xs->Vals xs us->∃ as,ReadsAll s.heap us ds as
 | [],xs,us,h,r=>by rw [reps_nil.mp h] at r;cases r;exact⟨_,.nil⟩
 | d :: ds,xs,us,h,r=>by
  obtain⟨x,q,rfl,h2,h3⟩:=reps_cons.mp h
  cases r with
  | cons r1 r2 =>
   obtain⟨as,ra⟩:=yE I d x _ h2 r1
   obtain⟨bs,rb⟩:=qI I ds q _ h3 r2
   exact⟨_,.cons ra rb⟩
end
noncomputable def abU (K:akq) (neg:Bool):R2:=fun x y H Q=>∃ d d',Rep K H d x/\Rep K H d' y/\d.canLay0=true/\d'.canLay0=true/\min d.depth d'.depth<=60/\Q (.bl (if neg then !ak3 d d' else ak3 d d')) H
theorem aiX (hu:X.A.units+64<cLine):OpR X (compareOp .Eq) (abU X.K false):=by
 intro pins s σ H x y v u Q I rx ry h
 obtain⟨d,d',h1,h2,c1,c2,hm,q⟩:=h
 obtain⟨as,ra⟩:=yE I d x v h1 rx
 obtain⟨bs,rb⟩:=yE I d' y u h2 ry
 exact SeqAt.compareEq_reads ra rb c1 c2 (by omega) ⟨.bl (ak3 d d'),H,I,rfl,q⟩
theorem aiY (hu:X.A.units+64<cLine):OpR X (compareOp .NotEq) (abU X.K true):=by
 intro pins s σ H x y v u Q I rx ry h
 obtain⟨d,d',h1,h2,c1,c2,hm,q⟩:=h
 obtain⟨as,ra⟩:=yE I d x v h1 rx
 obtain⟨bs,rb⟩:=yE I d' y u h2 ry
 exact SeqAt.compareNe_reads ra rb c1 c2 (by omega) ⟨.bl (!ak3 d d'),H,I,rfl,q⟩
theorem aeN (hc:X.calm=true):yn X (.builtin "min") (fun xs H Q=>∃ a ns,xs=[.ref a]/\SqL X.K H a (ns.map V.int)/\ns≠[]/\∀ M,M∈ns->(∀ b∈ns,M<=b)->Q (.int M) H):=by
 intro pins s σ H xs us Q I r h
 obtain⟨a,ns,rfl,hq,hne,q⟩:=h
 obtain⟨u,rfl,r1⟩:=vals1 r
 cases r1
 obtain⟨its,rv,p,_⟩:=I.list hq
 obtain⟨m,F⟩:=I.fr
 have hi:=intsAre_of rv
 obtain⟨ys,e⟩:=hi.allInts.items
 have hns:ns=ys.toList.map (·.1):=by rw [<-hi.numsOf,<- nums_intItems,<- e]
 have hsz:0<ys.size:=by
  have h3:0<ns.length:=amy.mpr hne
  rw [hns,akp,alb] at h3;exact h3
 have hl:=p.isList
 rw [e] at hl
 refine min_intList (I.ok.hd hc) hl hsz fun v h' tk hv hk=>?_
 obtain⟨t,rfl⟩:=intItems_at hv
 obtain⟨_,h2⟩:=argBest_lt (numAt ys) (ys.size - 1)
 refine⟨.int _,H,I.kept (t':=tk) hk,⟨t,rfl⟩,q _ ?_ fun b hb=>?_⟩
 ·rw [hns,numAt_eq];exact getD_mem (by rw [akp,alb];omega)
 ·rw [hns] at hb
  obtain⟨j,hj,rfl⟩:=mem_getD hb
  rw [akp,alb] at hj
  rw [<-numAt_eq];exact h2 j (by omega)
theorem aeO (hc:X.calm=true):yn X (.builtin "max") (fun xs H Q=>∃ a ns,xs=[.ref a]/\SqL X.K H a (ns.map V.int)/\ns≠[]/\∀ M,M∈ns->(∀ b∈ns,b<=M)->Q (.int M) H):=by
 intro pins s σ H xs us Q I r h
 obtain⟨a,ns,rfl,hq,hne,q⟩:=h
 obtain⟨u,rfl,r1⟩:=vals1 r
 cases r1
 obtain⟨its,rv,p,_⟩:=I.list hq
 have hi:=intsAre_of rv
 obtain⟨ys,e⟩:=hi.allInts.items
 have hns:ns=ys.toList.map (·.1):=by rw [<-hi.numsOf,<- nums_intItems,<- e]
 have hsz:0<ys.size:=by
  have h3:0<ns.length:=amy.mpr hne
  rw [hns,akp,alb] at h3;exact h3
 have hl:=p.isList
 rw [e] at hl
 refine max_intList (I.ok.hd hc) hl hsz fun v h' tk hv hk=>?_
 obtain⟨t,rfl⟩:=intItems_at hv
 obtain⟨_,h2⟩:=argBest_gt (numAt ys) (ys.size - 1)
 refine⟨.int _,H,I.kept (t':=tk) hk,⟨t,rfl⟩,q _ ?_ fun b hb=>?_⟩
 ·rw [hns,numAt_eq];exact getD_mem (by rw [akp,alb];omega)
 ·rw [hns] at hb
  obtain⟨j,hj,rfl⟩:=mem_getD hb
  rw [akp,alb] at hj
  rw [<-numAt_eq];exact h2 j (by omega)
end
inductive DV where
 | dat (d:PyData)
 | feed
 | own (k:Nat)
 | exc (C:Value)
 | mon (φ:Hp->V->Prop)
noncomputable abbrev zy:=List (Option DV)
structure Fx where
 f:Option Addr
 M:List Addr
noncomputable def hide (H:Hp) (f:Fx):Hp:=fun b=>if f.f=some b \/ b∈f.M then none else H b
structure FOk (f:Fx) (H:Hp):Prop where
 fd:∀ p,f.f=some p->∃ a b:Int,H p=some (.lst [.int a,.int b])/\0<=a/\0<=b/\b<2147483647
 mm:∀ b∈f.M,∃ o,H b=some o
 nm:∀ p,f.f=some p->p∉f.M
noncomputable def RepV (K:akq) (f:Fx) (H:Hp):DV->V->Prop
 | .dat d,v=>Rep K (hide H f) d v
 | .feed,v=>∃ p,f.f=some p/\v=.ref p
 | .own k,v=>∃ p,f.M.reverse[k]?=some p/\v=.ref p
 | .exc C,v=>∃ a,v=.ref a/\hide H f a=some (.ext fun h=>∃ o,h.get? a=some o/\o.cls=C)
 | .mon φ,v=>∀ H',Same (hide H f) H'->φ H' v
structure Goes (f:Fx) (H H':Hp):Prop where
 sm:Same (hide H f) (hide H' f)
 ok:FOk f H'
 kp:∀ b∈f.M,H' b=H b
structure EnvOk (K:akq) (f:Fx) (ρ:zy) (σ:St) (H:Hp):Prop where
 len:ρ.length=σ.length
 get:∀ (i:Nat) x,ρ[i]?=some (some x)->∃ v,σ[i]?=some (some v)/\RepV K f H x v
 fd:FOk f H
theorem yP (H:Hp):hide H ⟨none,[]⟩=H:=by funext b;unfold hide;rw [if_neg (by rintro (h | h) <;> cases h)]
theorem zm (H:Hp) (f:Fx):Same (hide H f) H:=fun b o h=>by
 unfold hide at h
 split at h
 ·cases h
 ·exact h
theorem zU {H:Hp} {f:Fx} {b:Addr} {o:HO} (h:hide H f b=some o):¬ (f.f=some b \/ b∈f.M)/\H b=some o:=by
 unfold hide at h
 split at h
 ·cases h
 ·rename_i n;exact⟨n,h⟩
theorem zC {H:Hp} {f:Fx} {b:Addr} {o:HO} (n:¬ (f.f=some b \/ b∈f.M)) (h:H b=some o):hide H f b=some o:=by unfold hide;rw [if_neg n];exact h
theorem Goes.refl {f:Fx} {H:Hp} (h:FOk f H):Goes f H H:=⟨Same.refl _,h,fun _ _=>rfl⟩
theorem Goes.trans {f:Fx} {H H1 H2:Hp} (a:Goes f H H1) (b:Goes f H1 H2):Goes f H H2:=⟨a.1.trans b.1,b.2,fun x hx=>(b.kp x hx).trans (a.kp x hx)⟩
theorem Goes.of_same {f:Fx} {H H':Hp} (s:Same H H') (h:FOk f H):Goes f H H' :=
 ⟨fun b o e=>zC (zU e).1 (s b o (zU e).2),⟨fun p e=>let⟨a,b,h1,h2⟩:=h.fd p e;⟨a,b,s _ _ h1,h2⟩,fun b hb=>let⟨o,e⟩:=h.mm b hb;⟨o,s _ _ e⟩,h.nm⟩,fun b hb=>let⟨o,e⟩:=h.mm b hb;(s _ _ e).trans e.symm⟩
theorem zW {H:Hp} {p:Addr} (h:H p=none) (o:HO):Same H (upd H p o):=fun b u q=>by rw [zv (zP q h)];exact q
theorem RepV.mono {K:akq} {f:Fx} {H H':Hp} (g:Goes f H H'):∀ {x:DV} {v:V},RepV K f H x v->RepV K f H' x v
 | .dat d,v,h=>Rep.mono g.1 d v h
 | .feed,v,h=>h
 | .own _,v,h=>h
 | .exc _,v,h=>let⟨a,e,q⟩:=h;⟨a,e,g.1 _ _ q⟩
 | .mon _,v,h=>fun H' s=>h H' (g.1.trans s)
theorem EnvOk.mono {K:akq} {f:Fx} {ρ:zy} {σ:St} {H H':Hp} (e:EnvOk K f ρ σ H) (g:Goes f H H'):EnvOk K f ρ σ H' :=
 ⟨e.len,fun i x h=>let⟨v,h1,h2⟩:=e.get i x h;⟨v,h1,h2.mono g⟩,g.2⟩
theorem EnvOk.set {K:akq} {f:Fx} {ρ:zy} {σ:St} {H:Hp} {x:DV} {v:V} (e:EnvOk K f ρ σ H) (i:Nat) (r:RepV K f H x v):EnvOk K f (ρ.set i (some x)) (σ.set i (some v)) H:=by
 refine⟨by rw [ald,ald];exact e.len,fun j y h=>?_,e.fd⟩
 by_cases hj:i=j
 ·subst hj
  by_cases hi:i<ρ.length
  ·rw [ak4 hi] at h
   cases h
   exact⟨v,by rw [ak4 (by rw [<-e.len];exact hi)],r⟩
  ·rw [ali (by rw [ald];omega)] at h;cases h
 ·rw [ak5 hj] at h ⊢
  exact e.get j y h
theorem fresh_ne {f:Fx} {H:Hp} {p:Addr} (h:FOk f H) (n:H p=none):¬ (f.f=some p \/ p∈f.M):=fun e=>by
 rcases e with e | e
 ·obtain⟨a,b,h1,_⟩:=h.fd p e
  rw [n] at h1;cases h1
 ·obtain⟨o,h1⟩:=h.mm p e
  rw [n] at h1;cases h1
inductive RepVs (K:akq) (f:Fx) (H:Hp):List DV->List V->Prop where
 | nil:RepVs K f H [] []
 | cons {x v xs vs}:RepV K f H x v->RepVs K f H xs vs->RepVs K f H (x :: xs) (v :: vs)
theorem RepVs.mono {K:akq} {f:Fx} {H H':Hp} (g:Goes f H H'):∀ {xs:List DV} {vs:List V},RepVs K f H xs vs->RepVs K f H' xs vs
 | _,_,.nil=>.nil
 | _,_,.cons r t=>.cons (r.mono g) (t.mono g)
theorem RepVs.length {K:akq} {f:Fx} {H:Hp}:∀ {xs:List DV} {vs:List V},RepVs K f H xs vs->vs.length=xs.length
 | _,_,.nil=>rfl
 | _,_,.cons _ t=>by rw [ala,ala,t.length]
section
variable (K:akq) (f:Fx)
noncomputable def PEd (te:TE) (ρ:zy) (P:PyData->Prop):Prop:=∀ (σ:St) (H:Hp) (Q:VK),EnvOk K f ρ σ H->(∀ d v H',Goes f H H'->Rep K (hide H' f) d v->P d->Q v H')->te σ H Q
noncomputable def PTd (tt:TT) (ρ:zy) (P:Bool->Prop):Prop:=∀ (σ:St) (H:Hp) (Q:Bool->Hp->Prop),EnvOk K f ρ σ H->(∀ b H',Goes f H H'->P b->Q b H')->tt σ H Q
noncomputable def PAd (ta:TA) (ρ:zy) (P:List DV->Prop):Prop:=∀ (σ:St) (H:Hp) (Q:List V->Hp->Prop),EnvOk K f ρ σ H->(∀ xs vs H',Goes f H H'->RepVs K f H' xs vs->P xs->Q vs H')->ta σ H Q
structure DEnds where
 nx:zy->Prop
 rt:PyData->Prop
 bk:zy->Prop:=fun _=>False
 ct:zy->Prop:=fun _=>False
noncomputable def PSd (ts:TS) (ρ:zy) (D:DEnds):Prop:=∀ (σ:St) (H:Hp) (E:Ends),EnvOk K f ρ σ H->(∀ ρ' σ' H',Goes f H H'->EnvOk K f ρ' σ' H'->D.nx ρ'->E.nx σ' H')->(∀ d v H',Goes f H H'->Rep K (hide H' f) d v->D.rt d->E.rt v H') ->
 (∀ ρ' σ' H',Goes f H H'->EnvOk K f ρ' σ' H'->D.bk ρ'->E.bk σ' H')->(∀ ρ' σ' H',Goes f H H'->EnvOk K f ρ' σ' H'->D.ct ρ'->E.ct σ' H')->ts E σ H
noncomputable def spD {γ:Type} (n:Nat) (pre:γ->List DV->Prop) (post:γ->PyData->Prop):Sp:=fun vs H Q _=>∃ f xs c,RepVs K f H xs vs/\xs.length=n/\FOk f H/\pre c xs/\∀ r v H',Goes f H H'->Rep K (hide H' f) r v->post c r->Q v H'
end
section
variable {K:akq} {f:Fx} {ρ:zy} {P:PyData->Prop} {te ta tb tc:TE}
theorem zp {i:Nat} {d:PyData} (h:ρ[i]?=some (some (.dat d))) (p:P d):PEd K f (zO i) ρ P:=fun σ H Q e q=>by
 obtain⟨v,h1,h2⟩:=e.get i _ h
 exact⟨v,h1,q d v H (.refl e.fd) h2 p⟩
theorem jU {i:Int} (p:P (.int i)):PEd K f (tC (.int i)) ρ P:=fun σ H Q e q=>q (.int i) _ H (.refl e.fd) (rep_int.mpr rfl) p
theorem ahv {i:Bool} (p:P (.bool i)):PEd K f (tC (.bl i)) ρ P:=fun σ H Q e q=>q (.bool i) _ H (.refl e.fd) (rep_bool.mpr rfl) p
theorem ad1 {i:Str} (p:P (.str i)):PEd K f (tC (.str i)) ρ P:=fun σ H Q e q=>q (.str i) _ H (.refl e.fd) (rep_str.mpr rfl) p
theorem ajM (p:P .none):PEd K f (tC .non) ρ P:=fun σ H Q e q=>q .none _ H (.refl e.fd) (rep_none.mpr rfl) p
theorem PEd.imp {P':PyData->Prop} (h:PEd K f te ρ P) (i:∀ d,P d->P' d):PEd K f te ρ P':=fun σ H Q e q=>h σ H Q e fun d v H' g r p=>q d v H' g r (i d p)
theorem aeP {r:R2} (h:PEd K f ta ρ fun x=>PEd K f tb ρ fun y=>∀ (v w:V) (H:Hp) (Q:VK),FOk f H->Rep K (hide H f) x v->Rep K (hide H f) y w->(∀ d u H',Goes f H H'->Rep K (hide H' f) d u->P d->Q u H')->r v w H Q):PEd K f (tOp r ta tb) ρ P:=fun σ H Q e q =>
 h σ H _ e fun x v H1 g1 r1 p1=>p1 σ H1 _ (e.mono g1) fun y w H2 g2 r2 p2=>p2 v w H2 Q g2.2 (Rep.mono g2.1 x v r1) r2 fun d u H' g' r' p'=>q d u H' (g1.trans (g2.trans g')) r' p'
theorem akd {r:V->Hp->VK->Prop} (h:PEd K f ta ρ fun x=>∀ (v:V) (H:Hp) (Q:VK),FOk f H->Rep K (hide H f) x v->(∀ d u H',Goes f H H'->Rep K (hide H' f) d u->P d->Q u H')->r v H Q):PEd K f (tUn r ta) ρ P:=fun σ H Q e q =>
 h σ H _ e fun x v H1 g1 r1 p1=>p1 v H1 Q g1.2 r1 fun d u H' g' r' p'=>q d u H' (g1.trans g') r' p'
theorem aaK {g:Int->Int->Int} (h:PEd K f ta ρ fun x=>∃ i,x=.int i/\PEd K f tb ρ fun y=>∃ j,y=.int j/\P (.int (g i j))):PEd K f (tOp (rI0 fun i j=>.int (g i j)) ta tb) ρ P :=
 aeP (h.imp fun x ⟨i,ex,h2⟩=>h2.imp fun y ⟨j,ey,p⟩ v w H Q fo rx ry q=>by
  subst ex ey
  exact⟨i,j,rep_int.mp rx,rep_int.mp ry,q _ _ H (.refl fo) (rep_int.mpr rfl) p⟩)
theorem vV {C:Int->Int->Prop} {g:Int->Int->Int} (h:PEd K f ta ρ fun x=>∃ i,x=.int i/\PEd K f tb ρ fun y=>∃ j,y=.int j/\C i j/\P (.int (g i j))):PEd K f (tOp (rI C fun i j=>.int (g i j)) ta tb) ρ P :=
 aeP (h.imp fun x ⟨i,ex,h2⟩=>h2.imp fun y ⟨j,ey,c,p⟩ v w H Q fo rx ry q=>by
  subst ex ey
  exact⟨i,j,rep_int.mp rx,rep_int.mp ry,c,q _ _ H (.refl fo) (rep_int.mpr rfl) p⟩)
theorem abw {g:Int->Int->Bool} (h:PEd K f ta ρ fun x=>∃ i,x=.int i/\PEd K f tb ρ fun y=>∃ j,y=.int j/\P (.bool (g i j))):PEd K f (tOp (rI0 fun i j=>.bl (g i j)) ta tb) ρ P :=
 aeP (h.imp fun x ⟨i,ex,h2⟩=>h2.imp fun y ⟨j,ey,p⟩ v w H Q fo rx ry q=>by
  subst ex ey
  exact⟨i,j,rep_int.mp rx,rep_int.mp ry,q _ _ H (.refl fo) (rep_bool.mpr rfl) p⟩)
theorem aaL {neg:Bool} (h:PEd K f ta ρ fun x=>PEd K f tb ρ fun y=>x.canLay0=true/\y.canLay0=true/\min x.depth y.depth<=60/\P (.bool (if neg then !ak3 x y else ak3 x y))):PEd K f (tOp (abU K neg) ta tb) ρ P :=
 aeP (h.imp fun x h2=>h2.imp fun y ⟨c1,c2,c3,p⟩ v w H Q fo rx ry q =>
  ⟨x,y,Rep.mono (zm _ _) x v rx,Rep.mono (zm _ _) y w ry,c1,c2,c3,q _ _ H (.refl fo) (rep_bool.mpr rfl) p⟩)
theorem vB (h:PEd K f ta ρ fun x=>∃ ds,x=.list ds/\PEd K f tb ρ fun y=>∃ k,y=.int k/\∃ d,atI ds k=some d/\P d):PEd K f (tOp (adi K) ta tb) ρ P :=
 aeP (h.imp fun x ⟨ds,ex,h2⟩=>h2.imp fun y ⟨k,ey,d,a,p⟩ v w H Q fo rx ry q=>by
  subst ex ey
  obtain⟨l,xs,rfl,hs,hr⟩:=rep_list.mp rx
  unfold atI at a
  cases hi:ixN ds.length k with
  | none=>rw [hi] at a;cases a
  | some j =>
   rw [hi] at a
   obtain⟨u,hu,ru⟩:=hr.get a
   exact⟨l,xs,k,u,rfl,rep_int.mp ry,(zm H f).seq hs,by unfold atI;rw [hr.length,hi];exact hu,q d u H (.refl fo) ru p⟩)
theorem qJ (h:PEd K f ta ρ fun x=>∃ ds,x=.tuple ds/\PEd K f tb ρ fun y=>∃ k,y=.int k/\∃ d,atI ds k=some d/\P d):PEd K f (tOp (jA K) ta tb) ρ P :=
 aeP (h.imp fun x ⟨ds,ex,h2⟩=>h2.imp fun y ⟨k,ey,d,a,p⟩ v w H Q fo rx ry q=>by
  subst ex ey
  obtain⟨l,xs,rfl,hs,hr⟩:=rep_tuple.mp rx
  unfold atI at a
  cases hi:ixN ds.length k with
  | none=>rw [hi] at a;cases a
  | some j =>
   rw [hi] at a
   obtain⟨u,hu,ru⟩:=hr.get a
   exact⟨l,xs,k,u,rfl,rep_int.mp ry,(zm H f).seqT hs,by unfold atI;rw [hr.length,hi];exact hu,q d u H (.refl fo) ru p⟩)
theorem ajN {i:Nat} (hi:ρ[i]?=some (some .feed)) (h:PEd K f tb ρ fun y=>(y=.int 0/\∀ a:Int,0<=a->P (.int a)) \/ (y=.int 1/\∀ b:Int,0<=b->b<2147483647->P (.int b))):PEd K f (tOp (adi K) (zO i) tb) ρ P:=fun σ H Q e q=>by
 obtain⟨v,h1,p,ef,ev⟩:=e.get i _ hi
 refine⟨v,h1,h σ H _ e fun y w H' g r c=>?_⟩
 obtain⟨a,b,hf,c1,c2,c3⟩:=g.2.fd p ef
 rcases c with⟨rfl,c⟩ | ⟨rfl,c⟩
 ·exact⟨p,_,0,.int a,ev,rep_int.mp r,SqL.of hf,rfl,q (.int a) _ H' g (rep_int.mpr rfl) (c a c1)⟩
 ·exact⟨p,_,1,.int b,ev,rep_int.mp r,SqL.of hf,rfl,q (.int b) _ H' g (rep_int.mpr rfl) (c b c2 c3)⟩
theorem zY {R:List DV->Prop} (p:R []):PAd K f yR ρ R:=fun σ H Q e q=>q [] [] H (.refl e.fd) .nil p
theorem zu {R:List DV->Prop} {u:TA} (h:PEd K f te ρ fun x=>PAd K f u ρ fun xs=>R (.dat x :: xs)):PAd K f (zG te u) ρ R:=fun σ H Q e q =>
 h σ H _ e fun x v H1 g1 r1 p1=>p1 σ H1 _ (e.mono g1) fun xs vs H2 g2 r2 p2=>q (.dat x :: xs) (v :: vs) H2 (g1.trans g2) (.cons (RepV.mono (x:=.dat x) g2 r1) r2) p2
theorem adm {R:List DV->Prop} {u:TA} {i:Nat} (hi:ρ[i]?=some (some .feed)) (h:PAd K f u ρ fun xs=>R (.feed :: xs)):PAd K f (zG (zO i) u) ρ R:=fun σ H Q e q=>by
 obtain⟨v,h1,h2⟩:=e.get i _ hi
 exact⟨v,h1,h σ H _ e fun xs vs H2 g2 r2 p2=>q (.feed :: xs) (v :: vs) H2 g2 (.cons (RepV.mono (x:=.feed) g2 h2) r2) p2⟩
noncomputable def j9:List DV->Option (List PyData)
 | []=>some []
 | .dat d :: r=>(j9 r).map (d :: ·)
 | .feed :: _=>none
 | .own _ :: _=>none
 | .exc _ :: _=>none
 | .mon _ :: _=>none
theorem qU {H:Hp}:∀ {xs:List DV} {vs:List V} {ds:List PyData},RepVs K f H xs vs->j9 xs=some ds->Reps K (hide H f) ds vs
 | _,_,ds,.nil,e=>by cases e;exact .nil'
 | .dat d :: xs,v :: vs,ds,.cons r t,e=>by
  unfold j9 at e
  cases q:j9 xs with
  | none=>rw [q] at e;cases e
  | some es=>rw [q] at e;cases e;exact .cons' r (qU t q)
 | .feed :: xs,_,ds,.cons r t,e=>by cases e
 | .own _ :: xs,_,ds,.cons r t,e=>by cases e
 | .exc _ :: xs,_,ds,.cons r t,e=>by cases e
 | .mon _ :: xs,_,ds,.cons r t,e=>by cases e
theorem aij {t:TA} (h:PAd K f t ρ fun xs=>∃ ds,j9 xs=some ds/\ds.length<=1000/\P (.list ds)):PEd K f (afU t) ρ P:=fun σ H Q e q =>
 h σ H _ e fun xs vs H1 g1 r1 ⟨ds,ea,hl,p⟩=>by
  have rs:=qU r1 ea
  refine⟨by rw [rs.length];exact ale (z9 hl),fun l hn=>?_⟩
  have sm:=zW hn (.lst vs)
  have g2:Goes f H1 (upd H1 l (.lst vs)):=.of_same sm g1.2
  exact q (.list ds) _ _ (g1.trans g2) (rep_list.mpr ⟨l,vs,rfl,.of (zC (fresh_ne g1.2 hn) zx),Reps.mono g2.1 ds vs rs⟩) p
theorem vh {t:TA} (h:PAd K f t ρ fun xs=>∃ ds,j9 xs=some ds/\ds.length<=1000/\P (.tuple ds)):PEd K f (aiN t) ρ P:=fun σ H Q e q =>
 h σ H _ e fun xs vs H1 g1 r1 ⟨ds,ea,hl,p⟩=>by
  have rs:=qU r1 ea
  refine⟨by rw [rs.length];exact ale (z9 hl),fun l hn=>?_⟩
  have sm:=zW hn (.tup vs)
  have g2:Goes f H1 (upd H1 l (.tup vs)):=.of_same sm g1.2
  exact q (.tuple ds) _ _ (g1.trans g2) (rep_tuple.mpr ⟨l,vs,rfl,.of (zC (fresh_ne g1.2 hn) zx),Reps.mono g2.1 ds vs rs⟩) p
theorem zt {γ:Type} {n:Nat} {pre:γ->List DV->Prop} {post:γ->PyData->Prop} {E:XK} {t:TA} (c:γ) (h:PAd K f t ρ fun xs=>xs.length=n/\pre c xs/\∀ r,post c r->P r):PEd K f (yZ (spD K n pre post) [] E t) ρ P:=fun σ H Q e q =>
 h σ H _ e fun xs vs H1 g1 r1 ⟨hl,hp,k⟩=>by
  refine⟨f,xs,c,by rw [akY];exact r1,hl,g1.2,hp,fun r v H' g' r' p'=>q r v H' (g1.trans g') r' (k r p')⟩
theorem acA {r:List V->Hp->VK->Prop} {t:TA} (h:PAd K f t ρ fun xs=>∃ ds,j9 xs=some ds/\∀ (vs:List V) (H:Hp) (Q:VK),FOk f H->Reps K (hide H f) ds vs->(∀ d u H',Goes f H H'->Rep K (hide H' f) d u->P d->Q u H')->r vs H Q):PEd K f (tCB r t) ρ P:=fun σ H Q e q =>
 h σ H _ e fun xs vs H1 g1 r1 ⟨ds,ea,k⟩=>k vs H1 Q g1.2 (qU r1 ea) fun d u H' g' r' p'=>q d u H' (g1.trans g') r' p'
end
section
variable {K:akq} {f:Fx} {ρ:zy} {P:PyData->Prop} {B:Bool->Prop} {te ta tb tc:TE} {tt tu:TT}
theorem PTd.imp {B':Bool->Prop} (h:PTd K f tt ρ B) (i:∀ d,B d->B' d):PTd K f tt ρ B':=fun σ H Q e q=>h σ H Q e fun d H' g p=>q d H' g (i d p)
theorem yL (h:PEd K f te ρ fun d=>∃ k,d=.bool k/\B k):PTd K f (aaD te) ρ B:=fun σ H Q e q=>h σ H _ e fun d v H' g r ⟨k,ed,p⟩=>by
 subst ed
 exact⟨k,rep_bool.mp r,q k H' g p⟩
theorem af3 (h:PTd K f tt ρ fun c=>if c=true then PTd K f tu ρ B else B false):PTd K f (afE tt tu) ρ B:=fun σ H Q e q=>h σ H _ e fun c H1 g p=>by
 cases c with
 | true =>
  rw [if_pos rfl] at p ⊢
  exact p σ H1 Q (e.mono g) fun b H2 g2 p2=>q b H2 (g.trans g2) p2
 | false =>
  rw [if_neg akr] at p ⊢
  exact q false H1 g p
theorem ahw (h:PTd K f tt ρ fun c=>if c=true then B true else PTd K f tu ρ B):PTd K f (tOr tt tu) ρ B:=fun σ H Q e q=>h σ H _ e fun c H1 g p=>by
 cases c with
 | true =>
  rw [if_pos rfl] at p ⊢
  exact q true H1 g p
 | false =>
  rw [if_neg akr] at p ⊢
  exact p σ H1 Q (e.mono g) fun b H2 g2 p2=>q b H2 (g.trans g2) p2
theorem af4 (h:PTd K f tt ρ fun c=>B (!c)):PTd K f (ajD tt) ρ B:=fun σ H Q e q=>h σ H _ e fun c H1 g p=>q (!c) H1 g p
noncomputable def ake:PyData->Option Bool
 | .none=>some false
 | .bool b=>some b
 | .int i=>some (i != 0)
 | .list ds=>some (!ds.isEmpty)
 | .tuple ds=>some (!ds.isEmpty)
 | _=>none
noncomputable def af5 (K:akq) (ta:TE):TT:=fun σ H Q=>ta σ H fun x H'=>∃ k,aiL K x H' k/\Q k H'
theorem aiZ {X:Cx} {a:Expr} (ha:PE X a ta) (he:∀ whole,isTrue a X.env whole=(do let v <- whole;standAt a.pos;holding [v] (truthy v))):PT X a (af5 X.K ta):=afS ha he
theorem qA (h:PEd K f ta ρ fun d=>∃ k,ake d=some k/\B k):PTd K f (af5 K ta) ρ B:=fun σ H Q e q=>h σ H _ e fun d v H' g r ⟨k,ed,p⟩=>by
 refine⟨k,?_,q k H' g p⟩
 cases d with
 | none=>rw [rep_none.mp r];cases ed;rfl
 | bool b=>rw [rep_bool.mp r];cases ed;rfl
 | int i=>rw [rep_int.mp r];cases ed;rfl
 | str x=>cases ed
 | list ds =>
  obtain⟨a,xs,rfl,h1,h2⟩:=rep_list.mp r
  cases ed
  refine .inl ⟨xs,(zm _ _).seq h1,?_⟩
  cases ds with
  | nil=>rw [reps_nil.mp h2];rfl
  | cons d ds=>obtain⟨x,r,rfl,_⟩:=reps_cons.mp h2;rfl
 | tuple ds =>
  obtain⟨a,xs,rfl,h1,h2⟩:=rep_tuple.mp r
  cases ed
  refine .inr (.inl ⟨xs,(zm _ _).seqT h1,?_⟩)
  cases ds with
  | nil=>rw [reps_nil.mp h2];rfl
  | cons d ds=>obtain⟨x,r,rfl,_⟩:=reps_cons.mp h2;rfl
 | dict _=>cases ed
theorem akf (h:PTd K f tt ρ fun c=>if c=true then PEd K f ta ρ P else PEd K f tb ρ P):PEd K f (tIf tt ta tb) ρ P:=fun σ H Q e q=>h σ H _ e fun c H1 g p=>by
 cases c with
 | true=>rw [if_pos rfl] at p ⊢;exact p σ H1 Q (e.mono g) fun d v H2 g2 r2 p2=>q d v H2 (g.trans g2) r2 p2
 | false=>rw [if_neg akr] at p ⊢;exact p σ H1 Q (e.mono g) fun d v H2 g2 r2 p2=>q d v H2 (g.trans g2) r2 p2
theorem abV (h:PEd K f ta ρ fun x=>∃ c,x=.bool c/\if c=true then PEd K f tb ρ P else P (.bool false)):PEd K f (afG ta tb) ρ P:=fun σ H Q e q=>h σ H _ e fun x v H1 g r ⟨c,ex,p⟩=>by
 subst ex
 refine⟨c,rep_bool.mp r,?_⟩
 cases c with
 | true=>rw [if_pos rfl] at p ⊢;exact p σ H1 Q (e.mono g) fun d v H2 g2 r2 p2=>q d v H2 (g.trans g2) r2 p2
 | false=>rw [if_neg akr] at p ⊢;exact q _ _ H1 g (rep_bool.mpr rfl) p
theorem ajO (h:PEd K f ta ρ fun x=>∃ c,x=.bool c/\if c=true then P (.bool true) else PEd K f tb ρ P):PEd K f (ajE ta tb) ρ P:=fun σ H Q e q=>h σ H _ e fun x v H1 g r ⟨c,ex,p⟩=>by
 subst ex
 refine⟨c,rep_bool.mp r,?_⟩
 cases c with
 | true=>rw [if_pos rfl] at p ⊢;exact q _ _ H1 g (rep_bool.mpr rfl) p
 | false=>rw [if_neg akr] at p ⊢;exact p σ H1 Q (e.mono g) fun d v H2 g2 r2 p2=>q d v H2 (g.trans g2) r2 p2
theorem adn (h:PEd K f ta ρ fun x=>∃ c,x=.bool c/\P (.bool !c)):PEd K f (aia ta) ρ P:=fun σ H Q e q=>h σ H _ e fun x v H1 g r ⟨c,ex,p⟩=>by
 subst ex
 exact⟨c,rep_bool.mp r,q _ _ H1 g (rep_bool.mpr rfl) p⟩
theorem ahx {g g':Int->Int->Bool} (h:PEd K f ta ρ fun x=>∃ i,x=.int i/\PEd K f tb ρ fun y=>∃ j,y=.int j/\if g i j=true then PEd K f tc ρ fun z=>∃ k,z=.int k/\P (.bool (g' j k)) else P (.bool false)) :
  PEd K f (abM (rI0 fun i j=>.bl (g i j)) (rI0 fun i j=>.bl (g' i j)) ta tb tc) ρ P:=fun σ H Q e q=>h σ H _ e fun x v H1 g1 r1 ⟨i,ex,p1⟩=>p1 σ H1 _ (e.mono g1) fun y w H2 g2 r2 ⟨j,ey,p2⟩=>by
 subst ex ey
 refine⟨i,j,rep_int.mp r1,rep_int.mp r2,g i j,rfl,?_⟩
 by_cases hg:g i j=true
 ·rw [if_pos hg] at p2 ⊢
  exact p2 σ H2 _ ((e.mono g1).mono g2) fun z u H3 g3 r3 ⟨k,ez,p3⟩=>by
   subst ez
   exact⟨j,k,rep_int.mp r2,rep_int.mp r3,q _ _ H3 (g1.trans (g2.trans g3)) (rep_bool.mpr rfl) p3⟩
 ·rw [if_neg hg] at p2 ⊢
  exact q _ _ H2 (g1.trans g2) (rep_bool.mpr rfl) p2
theorem ajP {t:TA} (h:PAd K f t ρ fun xs=>(∃ ds,xs=[.dat (.list ds)]/\P (.int ds.length)) \/ (∃ ds,xs=[.dat (.tuple ds)]/\P (.int ds.length))) :
  PEd K f (tCB (fun xs H Q=>∃ p ys,xs=[.ref p]/\(SqL K H p ys \/ SqT K H p ys)/\Q (.int ys.length) H) t) ρ P :=
 acA fun σ H Q e q=>h σ H Q e fun xs vs H' g r p=>by
  rcases p with⟨ds,rfl,p⟩ | ⟨ds,rfl,p⟩
  ·refine q _ vs H' g r ⟨_,rfl,fun vs H Q fo rs k=>?_⟩
   obtain⟨x,r,rfl,h2,h3⟩:=reps_cons.mp rs
   rw [reps_nil.mp h3]
   obtain⟨a,ys,rfl,s1,s2⟩:=rep_list.mp h2
   exact⟨a,ys,rfl,.inl ((zm _ _).seq s1),k (.int ds.length) _ H (.refl fo) (rep_int.mpr (by rw [s2.length])) p⟩
  ·refine q _ vs H' g r ⟨_,rfl,fun vs H Q fo rs k=>?_⟩
   obtain⟨x,r,rfl,h2,h3⟩:=reps_cons.mp rs
   rw [reps_nil.mp h3]
   obtain⟨a,ys,rfl,s1,s2⟩:=rep_tuple.mp h2
   exact⟨a,ys,rfl,.inr ((zm _ _).seqT s1),k (.int ds.length) _ H (.refl fo) (rep_int.mpr (by rw [s2.length])) p⟩
theorem ai0 {t:TA} (h:PAd K f t ρ fun xs=>∃ ns:List Int,xs=[.dat (.list (ns.map .int))]/\ns≠[]/\∀ M,M∈ns->(∀ b∈ns,M<=b)->P (.int M)) :
  PEd K f (tCB (fun xs H Q=>∃ a ns,xs=[.ref a]/\SqL K H a (ns.map V.int)/\ns≠[]/\∀ M,M∈ns->(∀ b∈ns,M<=b)->Q (.int M) H) t) ρ P :=
 acA fun σ H Q e q=>h σ H Q e fun xs vs H' g r ⟨ns,ex,hne,p⟩=>by
  subst ex
  refine q _ vs H' g r ⟨_,rfl,fun vs H Q fo rs k=>?_⟩
  obtain⟨x,r,rfl,h2,h3⟩:=reps_cons.mp rs
  rw [reps_nil.mp h3]
  obtain⟨a,ys,rfl,s1,s2⟩:=rep_list.mp h2
  rw [s2.ints] at s1
  exact⟨a,ns,rfl,(zm _ _).seq s1,hne,fun M h1 h2=>k (.int M) _ H (.refl fo) (rep_int.mpr rfl) (p M h1 h2)⟩
theorem ai1 {t:TA} (h:PAd K f t ρ fun xs=>∃ ns:List Int,xs=[.dat (.list (ns.map .int))]/\ns≠[]/\∀ M,M∈ns->(∀ b∈ns,b<=M)->P (.int M)) :
  PEd K f (tCB (fun xs H Q=>∃ a ns,xs=[.ref a]/\SqL K H a (ns.map V.int)/\ns≠[]/\∀ M,M∈ns->(∀ b∈ns,b<=M)->Q (.int M) H) t) ρ P :=
 acA fun σ H Q e q=>h σ H Q e fun xs vs H' g r ⟨ns,ex,hne,p⟩=>by
  subst ex
  refine q _ vs H' g r ⟨_,rfl,fun vs H Q fo rs k=>?_⟩
  obtain⟨x,r,rfl,h2,h3⟩:=reps_cons.mp rs
  rw [reps_nil.mp h3]
  obtain⟨a,ys,rfl,s1,s2⟩:=rep_list.mp h2
  rw [s2.ints] at s1
  exact⟨a,ns,rfl,(zm _ _).seq s1,hne,fun M h1 h2=>k (.int M) _ H (.refl fo) (rep_int.mpr rfl) (p M h1 h2)⟩
theorem ai2 {g:Int->Int->Int} {t:TA} (h:PAd K f t ρ fun xs=>∃ i j,xs=[.dat (.int i),.dat (.int j)]/\P (.int (g i j))):PEd K f (tCB (fun xs H Q=>∃ i j,xs=[.int i,.int j]/\Q (.int (g i j)) H) t) ρ P :=
 acA fun σ H Q e q=>h σ H Q e fun xs vs H' g' r ⟨i,j,ex,p⟩=>by
  subst ex
  refine q _ vs H' g' r ⟨_,rfl,fun vs H Q fo rs k=>?_⟩
  obtain⟨x,r,rfl,h2,h3⟩:=reps_cons.mp rs
  obtain⟨y,r',rfl,h4,h5⟩:=reps_cons.mp h3
  rw [reps_nil.mp h5,rep_int.mp h2,rep_int.mp h4]
  exact⟨i,j,rfl,k _ _ H (.refl fo) (rep_int.mpr rfl) p⟩
theorem ai3 {g:Int->Int} {t:TA} (h:PAd K f t ρ fun xs=>∃ i,xs=[.dat (.int i)]/\P (.int (g i))):PEd K f (tCB (fun xs H Q=>∃ i,xs=[.int i]/\Q (.int (g i)) H) t) ρ P :=
 acA fun σ H Q e q=>h σ H Q e fun xs vs H' g' r ⟨i,ex,p⟩=>by
  subst ex
  refine q _ vs H' g' r ⟨_,rfl,fun vs H Q fo rs k=>?_⟩
  obtain⟨x,r,rfl,h2,h3⟩:=reps_cons.mp rs
  rw [reps_nil.mp h3,rep_int.mp h2]
  exact⟨i,rfl,k _ _ H (.refl fo) (rep_int.mpr rfl) p⟩
theorem acB {t:TA} (h:PAd K f t ρ fun xs=>(∃ ds,xs=[.dat (.list ds)]/\P (.list ds)) \/ (∃ ds,xs=[.dat (.tuple ds)]/\P (.list ds))) :
  PEd K f (tCB (fun xs H Q=>∃ p ys,xs=[.ref p]/\(SqL K H p ys \/ SqT K H p ys)/\∀ l,H l=none->Q (.ref l) (upd H l (.lst ys))) t) ρ P :=
 acA fun σ H Q e q=>h σ H Q e fun xs vs H' g r p=>by
  rcases p with⟨ds,rfl,p⟩ | ⟨ds,rfl,p⟩
  ·refine q _ vs H' g r ⟨_,rfl,fun vs H Q fo rs k=>?_⟩
   obtain⟨x,r,rfl,h2,h3⟩:=reps_cons.mp rs
   rw [reps_nil.mp h3]
   obtain⟨a,ys,rfl,s1,s2⟩:=rep_list.mp h2
   refine⟨a,ys,rfl,.inl ((zm _ _).seq s1),fun l hn=>?_⟩
   have g2:Goes f H (upd H l (.lst ys)):=.of_same (zW hn _) fo
   exact k (.list ds) _ _ g2 (rep_list.mpr ⟨l,ys,rfl,.of (zC (fresh_ne fo hn) zx),Reps.mono g2.1 ds ys s2⟩) p
  ·refine q _ vs H' g r ⟨_,rfl,fun vs H Q fo rs k=>?_⟩
   obtain⟨x,r,rfl,h2,h3⟩:=reps_cons.mp rs
   rw [reps_nil.mp h3]
   obtain⟨a,ys,rfl,s1,s2⟩:=rep_tuple.mp h2
   refine⟨a,ys,rfl,.inr ((zm _ _).seqT s1),fun l hn=>?_⟩
   have g2:Goes f H (upd H l (.lst ys)):=.of_same (zW hn _) fo
   exact k (.list ds) _ _ g2 (rep_list.mpr ⟨l,ys,rfl,.of (zC (fresh_ne fo hn) zx),Reps.mono g2.1 ds ys s2⟩) p
end
section
variable {K:akq} {f:Fx} {ρ:zy} {D:DEnds} {te ta tb:TE} {tt:TT} {ts tu:TS}
theorem PSd.imp {D':DEnds} (h:PSd K f ts ρ D) (h1:∀ r,D.nx r->D'.nx r) (h2:∀ r,D.rt r->D'.rt r) (h3:∀ r,D.bk r->D'.bk r) (h4:∀ r,D.ct r->D'.ct r):PSd K f ts ρ D':=fun σ H E e n r b c =>
 h σ H E e (fun ρ' σ' H' g e' p=>n ρ' σ' H' g e' (h1 _ p)) (fun d v H' g r' p=>r d v H' g r' (h2 _ p)) (fun ρ' σ' H' g e' p=>b ρ' σ' H' g e' (h3 _ p)) (fun ρ' σ' H' g e' p=>c ρ' σ' H' g e' (h4 _ p))
theorem yc (p:D.nx ρ):PSd K f aab ρ D:=fun σ H E e n _ _ _=>n ρ σ H (.refl e.fd) e p
theorem zM (h:PSd K f ts ρ { D with nx:=fun ρ'=>PSd K f tu ρ' D }):PSd K f (qD ts tu) ρ D:=fun σ H E e n r b c =>
 h σ H { E with nx:=tu E } e (fun ρ' σ' H' g e' p=>p σ' H' E e' (fun ρ'' σ'' H'' g' e'' p'=>n ρ'' σ'' H'' (g.trans g') e'' p') (fun d v H'' g' r' p'=>r d v H'' (g.trans g') r' p') (fun ρ'' σ'' H'' g' e'' p'=>b ρ'' σ'' H'' (g.trans g') e'' p') (fun ρ'' σ'' H'' g' e'' p'=>c ρ'' σ'' H'' (g.trans g') e'' p')) r b c
theorem ye (h:PEd K f te ρ D.rt):PSd K f (aa6 te) ρ D:=fun σ H E e n r b c=>h σ H _ e r
theorem jV (h:PTd K f tt ρ fun b=>if b=true then PSd K f ts ρ D else PSd K f tu ρ D):PSd K f (abK tt ts tu) ρ D:=fun σ H E e n r b c=>h σ H _ e fun k H1 g p=>by
 cases k with
 | true =>
  rw [if_pos rfl] at p ⊢
  exact p σ H1 E (e.mono g) (fun ρ'' σ'' H'' g' e'' p'=>n ρ'' σ'' H'' (g.trans g') e'' p') (fun d v H'' g' r' p'=>r d v H'' (g.trans g') r' p') (fun ρ'' σ'' H'' g' e'' p'=>b ρ'' σ'' H'' (g.trans g') e'' p') (fun ρ'' σ'' H'' g' e'' p'=>c ρ'' σ'' H'' (g.trans g') e'' p')
 | false =>
  rw [if_neg akr] at p ⊢
  exact p σ H1 E (e.mono g) (fun ρ'' σ'' H'' g' e'' p'=>n ρ'' σ'' H'' (g.trans g') e'' p') (fun d v H'' g' r' p'=>r d v H'' (g.trans g') r' p') (fun ρ'' σ'' H'' g' e'' p'=>b ρ'' σ'' H'' (g.trans g') e'' p') (fun ρ'' σ'' H'' g' e'' p'=>c ρ'' σ'' H'' (g.trans g') e'' p')
noncomputable def PGd (K:akq) (f:Fx) (g:TG) (d:PyData) (ρ:zy) (R:zy->Prop):Prop:=∀ (σ:St) (H:Hp) (v:V) (Q:St->Hp->Prop),EnvOk K f ρ σ H->Rep K (hide H f) d v->(∀ ρ' σ' H',Goes f H H'->EnvOk K f ρ' σ' H'->R ρ'->Q σ' H')->g v σ H Q
noncomputable def ahy (K:akq) (f:Fx) (g:TGs) (ds:List PyData) (ρ:zy) (R:zy->Prop):Prop:=∀ (σ:St) (H:Hp) (vs:List V) (Q:St->Hp->Prop),EnvOk K f ρ σ H->Reps K (hide H f) ds vs->(∀ ρ' σ' H',Goes f H H'->EnvOk K f ρ' σ' H'->R ρ'->Q σ' H')->g vs σ H Q
theorem zr {i:Nat} {d:PyData} {R:zy->Prop} (h:R (ρ.set i (some (.dat d)))):PGd K f (qG i) d ρ R:=fun σ H v Q e r q=>q _ _ H (.refl e.fd) (e.set i (x:=.dat d) r) h
theorem yD {R:zy->Prop} (h:R ρ):ahy K f ajH [] ρ R:=fun σ H vs Q e r q=>⟨reps_nil.mp r,q ρ σ H (.refl e.fd) e h⟩
theorem zN {g:TG} {gs:TGs} {d:PyData} {ds:List PyData} {R:zy->Prop} (h:PGd K f g d ρ fun ρ'=>ahy K f gs ds ρ' R):ahy K f (aib g gs) (d :: ds) ρ R:=fun σ H vs Q e r q=>by
 obtain⟨x,r',rfl,h2,h3⟩:=reps_cons.mp r
 exact⟨x,r',rfl,h σ H x _ e h2 fun ρ' σ' H' g' e' p=>p σ' H' r' Q e' (Reps.mono g'.1 ds r' h3) fun ρ'' σ'' H'' g'' e'' p'=>q ρ'' σ'' H'' (g'.trans g'') e'' p'⟩
theorem jq {n:Nat} {gs:TGs} {ds:List PyData} {R:zy->Prop} (hn:ds.length=n) (h:ahy K f gs ds ρ R):PGd K f (aiF K n gs) (.tuple ds) ρ R:=fun σ H v Q e r q=>by
 obtain⟨a,xs,rfl,h1,h2⟩:=rep_tuple.mp r
 exact⟨a,xs,rfl,(zm _ _).seqT h1,by rw [h2.length];exact hn,h σ H xs Q e h2 q⟩
theorem zR {g:TG} (h:PEd K f te ρ fun d=>PGd K f g d ρ D.nx):PSd K f (vR te g) ρ D:=fun σ H E e n r b c =>
 h σ H _ e fun d v H1 g1 r1 p1=>p1 σ H1 v _ (e.mono g1) r1 fun ρ' σ' H' g' e' p'=>n ρ' σ' H' (g1.trans g') e' p'
end
end L2
end
section
namespace L2
open PySem PySem.Spec PyProof.Rows
noncomputable def frD (fr:List Nat) (ρ:zy):zy:=fr.map fun j=>(ρ[j]?).getD none
noncomputable def qK (own:Nat) (fr:List Nat) (ρ:zy):zy:=al0 own none++frD fr ρ
noncomputable abbrev Fx.with (f:Fx) (D:Addr):Fx:=⟨f.f,D :: f.M⟩
section
variable {K:akq} {f:Fx} {ρ:zy} {σ:St} {H H':Hp} {D:Addr} {o:HO}
theorem abx {own:Nat} {fr:List Nat} (e:EnvOk K f ρ σ H):EnvOk K f (qK own fr ρ) (jl own fr σ) H:=by
 refine⟨by unfold qK jl frD;simp,fun i x h=>?_,e.fd⟩
 unfold qK frD at h
 unfold jl
 by_cases hi:i<own
 ·rw [akK (by simpa using hi),alR] at h
  split at h <;> cases h
 ·rw [akL (by simpa using hi)] at h ⊢
  simp only [amn,akz] at h ⊢
  cases hj:fr[i - own]? with
  | none=>rw [hj] at h;cases h
  | some j =>
   rw [hj] at h
   have h':(ρ[j]?).getD none=some x:=Option.some.inj h
   have hρ:ρ[j]?=some (some x):=by
    cases q:ρ[j]? with
    | none=>rw [q] at h';cases h'
    | some w=>rw [q] at h';exact congrArg some h'
   obtain⟨v,h1,h2⟩:=e.get j x hρ
   exact⟨v,by simp [h1],h2⟩
theorem yt:hide (upd H D o) (f.with D)=hide H (f.with D):=by
 funext b
 unfold hide
 by_cases hb:f.f=some b \/ b∈D :: f.M
 ·rw [if_pos hb,if_pos hb]
 ·rw [if_neg hb,if_neg hb]
  have:b≠D:=fun z=>hb (.inr (z▸akE))
  exact zv this
theorem same_with:Same (hide H (f.with D)) (hide H f):=fun b o h=>by
 obtain⟨h1,h2⟩:=zU h
 exact zC (fun z=>h1 (z.elim .inl fun z=>.inr (akv _ z))) h2
theorem qV (hn:H D=none):Same (hide H f) (hide (upd H D o) (f.with D)):=fun b u h=>by
 obtain⟨h1,h2⟩:=zU h
 have hb:b≠D:=zP h2 hn
 exact zC (fun z=>z.elim (fun z=>h1 (.inl z)) fun z=>(akB.mp z).elim hb fun z=>h1 (.inr z)) (by rw [zv hb];exact h2)
theorem af6 (h:FOk f H) (hn:H D=none):FOk (f.with D) (upd H D o) :=
 ⟨fun p e=>let⟨a,b,h1,h2⟩:=h.fd p e;⟨a,b,by rw [zv (zP h1 hn)];exact h1,h2⟩,fun b hb=>by
  rcases akB.mp hb with rfl | hb
  ·exact⟨_,zx⟩
  ·obtain⟨o',h1⟩:=h.mm b hb
   exact⟨o',by rw [zv (zP h1 hn)];exact h1⟩,fun p e hp=>by
  rcases akB.mp hp with rfl | hp
  ·exact fresh_ne h hn (.inl e)
  ·exact h.nm p e hp⟩
theorem af7 (e:EnvOk K f ρ σ H) (hn:H D=none):EnvOk K (f.with D) ρ σ (upd H D o) :=
 ⟨e.len,fun i x h=>let⟨v,h1,h2⟩:=e.get i x h;⟨v,h1,by
  cases x with
  | dat d=>exact Rep.mono (qV hn) d v h2
  | feed=>exact h2
  | own k =>
   obtain⟨p,h3,h4⟩:=h2
   refine⟨p,?_,h4⟩
   show (D :: f.M).reverse[k]?=some p
   rw [alg,akK (aks.mp h3).1]
   exact h3
  | exc C =>
   obtain⟨a,h3,h4⟩:=h2
   exact⟨a,h3,qV hn _ _ h4⟩
  | mon φ=>exact fun H' s=>h2 H' ((qV hn).trans s)⟩,af6 e.fd hn⟩
theorem ad2 (hD:f.f≠some D) (e:EnvOk K (f.with D) ρ σ H):EnvOk K (f.with D) ρ σ (upd H D o) :=
 ⟨e.len,fun i x h=>let⟨v,h1,h2⟩:=e.get i x h;⟨v,h1,by
  cases x with
  | dat d =>
   have h2':Rep K (hide H (f.with D)) d v:=h2
   show Rep K (hide (upd H D o) (f.with D)) d v
   rw [yt];exact h2'
  | feed=>exact h2
  | own k=>exact h2
  | exc C =>
   obtain⟨a,h3,h4⟩:=h2
   refine⟨a,h3,?_⟩
   rw [yt]
   exact h4
  | mon φ =>
   intro H' s
   rw [yt] at s
   exact h2 H' s⟩,⟨fun p ep=>let⟨a,b,h1,h2⟩:=e.fd.fd p ep;⟨a,b,by rw [zv (fun z=>hD (by rw [<-z];exact ep))];exact h1,h2⟩,fun b hb=>by
   by_cases hb':b=D
   ·subst hb';exact⟨_,zx⟩
   ·rw [zv hb'];exact e.fd.mm b hb,e.fd.nm⟩⟩
end
section
variable {K:akq} {f:Fx} {ρ:zy} {P:PyData->Prop} {te tl:TE} {tt:TT} {g:TG} {own:Nat} {fr:List Nat}
structure CSt (K:akq) (f:Fx) (D:Addr) (H2:Hp) (ρ':zy) (es:List PyData) (σ:St) (H:Hp):Prop where
 env:EnvOk K (f.with D) ρ' σ H
 sm:Same (hide H2 (f.with D)) (hide H (f.with D))
 kp:∀ b∈f.M,H b=H2 b
 lst:∃ vs,H D=some (.lst vs)/\Reps K (hide H (f.with D)) es vs
theorem CSt.go {D:Addr} {H2 H H':Hp} {ρ':zy} {es:List PyData} {σ:St} (c:CSt K f D H2 ρ' es σ H) (gg:Goes (f.with D) H H') {ρ2:zy} {σ2:St} (e2:EnvOk K (f.with D) ρ2 σ2 H'):CSt K f D H2 ρ2 es σ2 H' :=
 ⟨e2,c.sm.trans gg.sm,fun b hb=>(gg.kp b (akv _ hb)).trans (c.kp b hb),let⟨vs,h1,h2⟩:=c.lst;⟨vs,(gg.kp D akE).trans h1,Reps.mono gg.sm es vs h2⟩⟩
theorem CSt.put {D:Addr} {H2 H:Hp} {ρ':zy} {es:List PyData} {σ:St} {d:PyData} {v:V} {vs:List V} (hD:f.f≠some D) (hM:D∉f.M) (c:CSt K f D H2 ρ' es σ H) (h1:H D=some (.lst vs)) (h2:Reps K (hide H (f.with D)) es vs) (r:Rep K (hide H (f.with D)) d v) :
  CSt K f D H2 ρ' (es++[d]) σ (upd H D (.lst (vs++[v]))) :=
 ⟨ad2 hD c.env,by rw [yt];exact c.sm,fun b hb=>(zv (fun (z:b=D)=>hM (z▸hb))).trans (c.kp b hb),⟨_,zx,by rw [yt];exact h2.snoc r⟩⟩
theorem af8 {D:Addr} {H1 H:Hp} {ρ':zy} {es:List PyData} {σ σ':St} (hn:H1 D=none) (fo:FOk f H1) (c:CSt K f D (upd H1 D (.lst [])) ρ' es σ H):Goes f H1 H/\Rep K (hide H f) (.list es) (.ref D):=by
 obtain⟨vs,h1,h2⟩:=c.lst
 have nD:=fresh_ne fo hn
 refine⟨⟨((qV hn).trans c.sm).trans same_with,⟨c.env.fd.fd,fun b hb=>c.env.fd.mm b (akv _ hb),fun p e hp=>c.env.fd.nm p e (akv _ hp)⟩,fun b hb=>?_⟩,rep_list.mpr ⟨D,vs,rfl,.of (zC nD h1),Reps.mono same_with es vs h2⟩⟩
 rw [c.kp b hb,zv]
 obtain⟨o,h3⟩:=fo.mm b hb
 exact zP h3 hn
theorem ado {D:Addr} {H1:Hp} {σ:St} (hn:H1 D=none) (e:EnvOk K f ρ σ H1):CSt K f D (upd H1 D (.lst [])) (qK own fr ρ) [] (jl own fr σ) (upd H1 D (.lst [])) :=
 ⟨af7 (abx e) hn,Same.refl _,fun _ _=>rfl,⟨[],zx,.nil'⟩⟩
end
section
variable {K:akq} {f:Fx} {ρ:zy} {D:DEnds} {te:TE} {i:Nat}
theorem acC {σ:St} {H:Hp} {p:Addr} {a b:Int} (e:EnvOk K f ρ σ H) (ef:f.f=some p) (h0:0<=a) (h1:0<=b) (h2:b<2147483647):Goes f H (upd H p (.lst [.int a,.int b])) :=
 have hM:=e.fd.nm p ef
 ⟨fun x o h=>by
  obtain⟨n,hx⟩:=zU h
  exact zC n (by rw [zv (fun z=>n (.inl (by rw [z];exact ef)))];exact hx),
 ⟨fun q eq=>by
   rw [ef] at eq;cases eq
   exact⟨a,b,zx,h0,h1,h2⟩,fun x hx=>by
   by_cases hxp:x=p
   ·subst hxp;exact absurd hx hM
   ·rw [zv hxp];exact e.fd.mm x hx,e.fd.nm⟩,
fun x hx=>zv (fun z=>hM (z▸hx))⟩
theorem ahz (hi:ρ[i]?=some (some .feed)) (h:PEd K f te ρ fun d=>∃ a:Int,d=.int a/\0<=a/\D.nx ρ):PSd K f (vR te (afK (zO i) (tC (.int 0)) acs)) ρ D:=fun σ H E e n r b c=>h σ H _ e fun d v H1 g1 r1 ⟨a,ed,h0,p⟩=>by
 subst ed
 obtain⟨u,h1,q,ef,eu⟩:=e.get i _ hi
 obtain⟨a',b',hf,c1,c2,c3⟩:=g1.2.fd q ef
 refine⟨u,h1,q,_,0,0,eu,rfl,hf,rfl,?_⟩
 rw [rep_int.mp r1]
 have g2:Goes f H1 (upd H1 q (.lst [.int a,.int b'])):=acC (e.mono g1) ef h0 c2 c3
 exact n ρ σ _ (g1.trans g2) ((e.mono g1).mono g2) p
theorem ahA (hi:ρ[i]?=some (some .feed)) (h:PEd K f te ρ fun d=>∃ a:Int,d=.int a/\0<=a/\a<2147483647/\D.nx ρ):PSd K f (vR te (afK (zO i) (tC (.int 1)) acs)) ρ D:=fun σ H E e n r b c=>h σ H _ e fun d v H1 g1 r1 ⟨a,ed,h0,h0',p⟩=>by
 subst ed
 obtain⟨u,h1,q,ef,eu⟩:=e.get i _ hi
 obtain⟨a',b',hf,c1,c2,c3⟩:=g1.2.fd q ef
 refine⟨u,h1,q,_,1,1,eu,rfl,hf,rfl,?_⟩
 rw [rep_int.mp r1]
 have g2:Goes f H1 (upd H1 q (.lst [.int a',.int a])):=acC (e.mono g1) ef c1 h0 h0'
 exact n ρ σ _ (g1.trans g2) ((e.mono g1).mono g2) p
end
noncomputable def jm (N:List Str) (xs:List DV):zy:=xs.map some++al0 (N.length - xs.length) none
theorem y7 {K:akq} {f:Fx} {H:Hp} {N:List Str} {xs:List DV} {vs:List V} (r:RepVs K f H xs vs) (fo:FOk f H):EnvOk K f (jm N xs) (start N vs) H:=by
 have hl:=r.length
 refine⟨by unfold jm start;simp [hl],fun i x h=>?_,fo⟩
 unfold jm at h
 unfold start
 have get:∀ {xs:List DV} {vs:List V} {i:Nat} {x:DV},RepVs K f H xs vs->xs[i]?=some x->∃ v,vs[i]?=some v/\RepV K f H x v:=by
  intro xs vs i x r
  induction r generalizing i with
  | nil=>intro h;simp at h
  | cons r1 r2 ih =>
   intro h
   cases i with
   | zero=>simp at h;subst h;exact⟨_,rfl,r1⟩
   | succ i=>simp at h;obtain⟨v,h1,h2⟩:=ih h;exact⟨v,by simpa using h1,h2⟩
 by_cases hi:i<xs.length
 ·rw [akK (by simpa using hi),akz] at h
  cases q:xs[i]? with
  | none=>rw [q] at h;cases h
  | some y =>
   rw [q] at h
   cases h
   obtain⟨v,h1,h2⟩:=get r q
   exact⟨v,by rw [akK (by simp;omega),akz,h1];rfl,h2⟩
 ·rw [akL (by simpa using hi),alR] at h
  split at h <;> cases h
structure Def (K:akq) (mg:Str->Option Value) (x:Str) (st:Stmt) (ps:List Str):Prop where
 ex:∃ (f:Addr) (fd:FuncData),Fun K x x st f fd/\Binds K fd ps []/\mg x=some (.ref f)
structure FnIn (P:Program) (w:World) (K:akq) (mg:Str->Option Value) (base:Heap) (k:Nat) (x:Str) (ps:List Str) (sp:Sp):Prop where
 ex:∃ (f:Addr) (fd:FuncData),FnOk P w K mg base CX0 k f fd ps sp/\mg x=some (.ref f)/\ak0 K (.ref f)=true/\Binds K fd ps []
section
variable {P:Program} {w:World} {K:akq} {mg:Str->Option Value} {base:Heap} {j k n:Nat} {x:Str} {st:Stmt} {ps N:List Str} {γ:Type} {pre:γ->List DV->Prop} {post:γ->PyData->Prop} {sp:Sp}
theorem FnIn.mono (h:FnIn P w K mg base j x ps sp) (hk:j<=k):FnIn P w K mg base k x ps sp :=
 let⟨f,fd,a,b,c,d⟩:=h.ex;⟨f,fd,a.mono hk,b,c,d⟩
theorem Def.ok (F:Def K mg x st ps) (S:FnScope N ps (zj st)) (hn:ps.length=n)
  (h:∀ (fa:Addr) (cdv:Value) (A:Around) (outer:List Env) (s:Shared) (H:Hp) (E:XK),Room k (A.deeper (envOfC x (zj st) s.heap.objs.size fa cdv)) ->
   ∃ t,PSs (zV CX0 P w K mg base N x (zj st) fa cdv A outer s H E).nox (z6 st) t/\∀ (f:Fx) (xs:List DV) (c:γ),xs.length=n->pre c xs->PSd K f t (jm N xs) { nx:=fun _=>post c .none,rt:=post c }) :
  FnIn P w K mg base (k+1) x ps (spD K n pre post):=by
 obtain⟨fa,fd,F1,F2,F3⟩:=F.ex
 refine⟨fa,fd,F1.ok S (fun vs H Q E h=>?_) (fun cdv A outer s H vs Q E hr hs=>?_),F3,F1.kp,F2⟩
 ·obtain⟨f,xs,c,r,hl,_⟩:=h
  rw [r.length,hl,hn]
 ·obtain⟨f,xs,c,r,hl,fo,hp,q⟩:=hs
  obtain⟨t,h1,h2⟩:=h fa cdv A outer s H E hr
  exact⟨t,h1,h2 f xs c hl hp (start N vs) H _ (y7 r fo) (fun _ _ H' g _ p=>q .none _ H' g (rep_none.mpr rfl) p) (fun d v H' g r p=>q d v H' g r p) (fun _ _ _ _ _ z=>z.elim) (fun _ _ _ _ _ z=>z.elim)⟩
theorem Def.raw (F:Def K mg x st ps) (S:FnScope N ps (zj st)) (len:∀ vs H Q E,sp vs H Q E->vs.length=ps.length)
  (h:∀ (fa:Addr) (cdv:Value) (A:Around) (outer:List Env) (s:Shared) (H:Hp) (vs:List V) (Q:VK) (E:XK),Room k (A.deeper (envOfC x (zj st) s.heap.objs.size fa cdv))->sp vs H Q E ->
   ∃ t,PSs (zV CX0 P w K mg base N x (zj st) fa cdv A outer s H E).nox (z6 st) t/\t { nx:=fun _ H'=>Q .non H',rt:=Q } (start N vs) H) :
  FnIn P w K mg base (k+1) x ps sp:=by
 obtain⟨fa,fd,F1,F2,F3⟩:=F.ex
 exact⟨fa,fd,F1.ok S len (fun cdv A outer s H vs Q E hr hs=>h fa cdv A outer s H vs Q E hr hs),F3,F1.kp,F2⟩
theorem zg {X:Cx} {e:Expr} {es:List Expr} {t:TA} {p pos:Pos} (G:FnIn X.prog X.w X.K X.mg X.base k x ps sp) (hr:Room k X.A) (hg:Gl X x) (ha:PA X (e :: es) t) (hdb:(x == ("__debug__":Str))=false:=by decide)
  (he:starEach (e :: es) X.env=(false,eval e X.env) :: starEach es X.env:=by rfl) (hpl:(backTo pos (starEach es X.env)).any (·.1)=false:=by rfl):PE X (.Call (.Name x p) (e :: es) [] pos) (yZ sp [] E0 t):=by
 obtain⟨f,fd,a,b,c,d⟩:=G.ex
 exact ahn a hr hg b c d .nil ajK ha hdb he hpl
end
section
variable {K:akq} {f:Fx} {ρ:zy} {σ:St} {H:Hp} {E:Ends} {ts tu:TS} {D:DEnds}
theorem af9 (h:PSd K f ts ρ D) (e:EnvOk K f ρ σ H) (hn:∀ ρ' σ' H',Goes f H H'->EnvOk K f ρ' σ' H'->D.nx ρ'->tu E σ' H') (hr:∀ d v H',Goes f H H'->Rep K (hide H' f) d v->D.rt d->E.rt v H') (hb:∀ ρ,¬ D.bk ρ) (hc:∀ ρ,¬ D.ct ρ):qD ts tu E σ H :=
 h σ H { E with nx:=tu E } e hn hr (fun ρ' _ _ _ _ p=>(hb ρ' p).elim) (fun ρ' _ _ _ _ p=>(hc ρ' p).elim)
theorem aga {ta:TA} {Q:VK} {R:List PyData->Prop} (h:PAd K f ta ρ fun xs=>∃ ds,j9 xs=some ds/\ds.length<=1000/\R ds) (e:EnvOk K f ρ σ H)
  (q:∀ p ds vs H1,Goes f H H1->H1 p=none->Reps K (hide H1 f) ds vs->R ds->Q (.ref p) (upd H1 p (.lst vs))):afU ta σ H Q :=
 h σ H _ e fun xs vs H1 g1 r1 ⟨ds,ea,hl,p⟩=>by
  have rs:=qU r1 ea
  exact⟨by rw [rs.length];exact ale (z9 hl),fun l hn=>q l ds vs H1 g1 hn rs p⟩
end
section
variable {K:akq} {f:Fx} {ρ:zy}
theorem Goes.free {H H':Hp} {p:Addr} (g:Goes f H H') (fo:FOk f H) (h:H' p=none):H p=none:=by
 cases q:H p with
 | none=>rfl
 | some o =>
  by_cases hh:f.f=some p \/ p∈f.M
  ·rcases hh with hh | hh
   ·obtain⟨a,b,h1,_⟩:=g.ok.fd p hh
    rw [h] at h1;cases h1
   ·rw [g.kp p hh,q] at h;cases h
  ·have:=zU (g.sm p o (zC hh q))
   rw [h] at this;cases this.2
noncomputable def PEdL (K:akq) (f:Fx) (te:TE) (ρ:zy) (P:List PyData->Prop):Prop:=∀ (σ:St) (H:Hp) (Q:VK),EnvOk K f ρ σ H ->
 (∀ es D vs H',Goes f H H'->H D=none->H' D=some (.lst vs)->Reps K (hide H' f) es vs->P es->Q (.ref D) H')->te σ H Q
theorem PEdL.ped {te:TE} {P:PyData->Prop} (h:PEdL K f te ρ fun es=>P (.list es)):PEd K f te ρ P:=fun σ H Q e q=>h σ H Q e fun es D vs H' g n h1 r p =>
 q (.list es) _ H' g (rep_list.mpr ⟨D,vs,rfl,.of (zC (fresh_ne e.fd n) h1),r⟩) p
end
structure TabAt (H:Hp) (a:Addr) (as:List Addr) (rows:List (List Int)):Prop where
 top:H a=some (.lst (as.map .ref))
 nd:(a :: as).Nodup
 len:as.length=rows.length
 row:∀ (i:Nat) x r,as[i]?=some x->rows[i]?=some r->H x=some (.lst (r.map .int))
noncomputable def ajQ (K:akq) (f:Fx) (te:TE) (ρ:zy) (P:List (List Int)->Prop):Prop:=∀ (σ:St) (H:Hp) (Q:VK),EnvOk K f ρ σ H ->
 (∀ rows a as H',Goes f H H'->H a=none->(∀ x∈as,H x=none)->TabAt H' a as rows->P rows->Q (.ref a) H')->te σ H Q
section
variable {K:akq} {f:Fx} {ρ:zy} {te tl:TE} {fr:List Nat}
theorem TabAt.rep {H:Hp} {a:Addr} {as:List Addr} {rows:List (List Int)} (t:TabAt H a as rows) (ha:¬ (f.f=some a \/ a∈f.M)) (hs:∀ x∈as,¬ (f.f=some x \/ x∈f.M)):Rep K (hide H f) (.list (rows.map fun r=>.list (r.map .int))) (.ref a):=by
 refine rep_list.mpr ⟨a,_,rfl,.of (zC ha t.top),?_⟩
 have key:∀ (as:List Addr) (rows:List (List Int)),as.length=rows.length->(∀ x∈as,¬ (f.f=some x \/ x∈f.M))->(∀ (i:Nat) x r,as[i]?=some x->rows[i]?=some r->H x=some (.lst (r.map .int)))->Reps K (hide H f) (rows.map fun r=>.list (r.map .int)) (as.map .ref):=by
  intro as
  induction as with
  | nil=>intro rows hl _ _;cases rows with
   | nil=>exact .nil'
   | cons r rs=>cases hl
  | cons x as ih =>
   intro rows hl hs hr
   cases rows with
   | nil=>cases hl
   | cons r rs =>
    exact .cons' (rep_list.mpr ⟨x,_,rfl,.of (zC (hs x akE) (hr 0 x r rfl rfl)),Reps.ints' r⟩) (ih rs (by simpa using hl) (fun y hy=>hs y (akv _ hy)) fun i y q h1 h2=>hr (i+1) y q (by simpa using h1) (by simpa using h2))
 exact key as rows t.len hs t.row
end
end L2
end
section
namespace L2
open PySem PySem.Spec PyProof.Rows
section
variable {X:Cx} {K:akq}
theorem zA (hK:X.K=K):IxR X (adi K):=hK▸ahq
theorem ze (hK:X.K=K):IxR X (jA K):=hK▸aiS
theorem zE (hK:X.K=K):yn X (.builtin "len") (fun xs H Q=>∃ p ys,xs=[.ref p]/\(SqL K H p ys \/ SqT K H p ys)/\Q (.int ys.length) H):=hK▸abQ
theorem aaM (hK:X.K=K):yn X (.type "list") (fun xs H Q=>∃ p ys,xs=[.ref p]/\(SqL K H p ys \/ SqT K H p ys)/\∀ l,H l=none->Q (.ref l) (upd H l (.lst ys))):=hK▸abR
theorem jE (hK:X.K=K):yn X (.type "tuple") (fun xs H Q=>∃ p ys,xs=[.ref p]/\((SqL K H p ys/\∀ l,H l=none->Q (.ref l) (upd H l (.tup ys))) \/ (SqT K H p ys/\Q (.ref p) H))):=hK▸aa9
theorem aeQ (hK:X.K=K) (hc:X.calm=true):yn X (.builtin "min") (fun xs H Q=>∃ a ns,xs=[.ref a]/\SqL K H a (ns.map V.int)/\ns≠[]/\∀ M,M∈ns->(∀ b∈ns,M<=b)->Q (.int M) H):=hK▸aeN hc
theorem aeR (hK:X.K=K) (hc:X.calm=true):yn X (.builtin "max") (fun xs H Q=>∃ a ns,xs=[.ref a]/\SqL K H a (ns.map V.int)/\ns≠[]/\∀ M,M∈ns->(∀ b∈ns,b<=M)->Q (.int M) H):=hK▸aeO hc
theorem zZ (hK:X.K=K) (hu:X.A.units+64<cLine):OpR X (compareOp .Eq) (abU K false):=hK▸aiX hu
theorem abW (hK:X.K=K) (hu:X.A.units+64<cLine):OpR X (compareOp .NotEq) (abU K true):=hK▸aiY hu
variable {tg l e st:Expr} {tl te ts:TE} {ta:TA} {p pos p2:Pos}
theorem yd (hK:X.K=K) (hl:PE X l tl):PI X tg l (afP K tl):=hK▸ahj hl
theorem ad3 (hK:X.K=K) (hl:PE X l tl):PI X tg l (ahi K tl):=hK▸aiI hl
theorem aaN {es:List Expr} {k:Nat} {tpos:Pos} (hK:X.K=K) (hg:Gl X "enumerate") (hm:X.mg "enumerate"=none) (ha:PA X [l] ta) (hs:starEach [l] X.env=[(false,eval l X.env)]:=by rfl):PI X (.Tuple es k tpos) (.Call (.Name "enumerate" p) [l] [] pos) (af2 K ta):=hK▸ahu hg hm ha hs
theorem yF (hK:X.K=K) (ha:PE X e te) (he:∀ whole,isTrue e X.env whole=(do let v <- whole;standAt e.pos;holding [v] (truthy v))):PT X e (af5 K te):=hK▸aiZ ha he
theorem zL {es:List Expr} {k:Nat} {t:TGs} {n:Nat} (hK:X.K=K) (hc:X.calm=true) (h:PGs X es t) (hn:(assignEach es X.env).length=n:=by rfl) (hst:(assignEach es X.env).findIdx? (·.1)=none:=by rfl):PG X (.Tuple es k pos) (aiF K n t):=hK▸aiG hc h hn hst
end
structure ItD (K:akq) (f:Fx) (ds:List PyData) (J:It) (H1:Hp):Prop where
 go:∀ (f':Fx) (H':Hp) (i:Nat) d,FOk f' H'->Same (hide H1 f) (hide H' f')->ds[i]?=some d->J.go i H'/\∀ x H3,J.yld i H' x H3->Goes f' H' H3/\Rep K (hide H3 f') d x
 st:∀ (f':Fx) (H':Hp),FOk f' H'->Same (hide H1 f) (hide H' f')->J.stop ds.length H'
noncomputable def PId (K:akq) (f:Fx) (wi:TI) (ρ:zy) (R:List PyData->Prop):Prop:=∀ (σ:St) (H:Hp) (C:It->Hp->Prop),EnvOk K f ρ σ H ->
 (∀ ds J H1,Goes f H H1->ItD K f ds J H1->R ds->C J H1)->wi σ H C
noncomputable def jn (n:Nat):List PyData:=(alc n).map fun (i:Nat)=>.int (i:Int)
noncomputable def vC (i j:Int):List PyData:=(alc (j - i).toNat).map fun (k:Nat)=>.int (i+(k:Int))
noncomputable def aah (ds:List PyData):List PyData:=ds.mapIdx fun i d=>.tuple [.int (i:Int),d]
section
variable {K:akq} {f:Fx} {ρ:zy} {R:List PyData->Prop} {tl:TE} {t:TA}
theorem PId.imp {wi:TI} {R':List PyData->Prop} (h:PId K f wi ρ R) (i:∀ ds,R ds->R' ds):PId K f wi ρ R':=fun σ H C e q=>h σ H C e fun ds J H1 g it r=>q ds J H1 g it (i ds r)
theorem ja (h:PAd K f t ρ fun xs=>∃ j:Int,xs=[.dat (.int j)]/\-(2 ^ 62)<=j/\j<2 ^ 62/\R (jn j.toNat)):PId K f (aic t) ρ R:=fun σ H C e q=>h σ H _ e fun xs vs H1 g1 r1 ⟨j,ex,q1,q2,p⟩=>by
 subst ex
 cases r1 with
 | @cons _ v0 _ _ rx r' =>
  cases r'
  have rx':Rep K (hide H1 f) (.int j) v0:=rx
  refine⟨j,by rw [rep_int.mp rx'],q1,q2,q _ _ H1 g1 ⟨fun f' H' i d fo _ hd=>?_,fun f' H' _ _=>?_⟩ p⟩
  ·unfold jn at hd
   rw [akz] at hd
   by_cases hi:i<j.toNat
   ·rw [alQ hi] at hd
    cases hd
    refine⟨hi,fun x H3 hy=>?_⟩
    obtain⟨rfl,rfl⟩:=hy
    exact⟨.refl fo,rep_int.mpr (by rw [Int.zero_add])⟩
   ·rw [ali (by rw [alh];omega)] at hd
    cases hd
  ·show j.toNat<=(jn j.toNat).length
   unfold jn
   rw [akp,alh]
   exact akA _
theorem agb (h:PAd K f t ρ fun xs=>∃ i j:Int,xs=[.dat (.int i),.dat (.int j)]/\(-(2 ^ 62)<=i/\i<2 ^ 62/\-(2 ^ 62)<=j/\j<2 ^ 62)/\R (vC i j)):PId K f (aid t) ρ R:=fun σ H C e q=>h σ H _ e fun xs vs H1 g1 r1 ⟨i,j,ex,q1,p⟩=>by
 subst ex
 cases r1 with
 | @cons _ v0 _ _ rx r' =>
  cases r' with
  | @cons _ v1 _ _ ry r'' =>
   cases r''
   have rx':Rep K (hide H1 f) (.int i) v0:=rx
   have ry':Rep K (hide H1 f) (.int j) v1:=ry
   refine⟨i,j,by rw [rep_int.mp rx',rep_int.mp ry'],q1,q _ _ H1 g1 ⟨fun f' H' k d fo _ hd=>?_,fun f' H' _ _=>?_⟩ p⟩
   ·unfold vC at hd
    rw [akz] at hd
    by_cases hi:k<(j - i).toNat
    ·rw [alQ hi] at hd
     cases hd
     refine⟨hi,fun x H3 hy=>?_⟩
     obtain⟨rfl,rfl⟩:=hy
     exact⟨.refl fo,rep_int.mpr rfl⟩
    ·rw [ali (by rw [alh];omega)] at hd
     cases hd
   ·show (j - i).toNat<=(vC i j).length
    unfold vC
    rw [akp,alh]
    exact akA _
theorem yM (h:PEd K f tl ρ fun x=>∃ ds,x=.list ds/\R ds):PId K f (afP K tl) ρ R:=fun σ H C e q=>h σ H _ e fun x v H1 g1 r1 ⟨ds,ex,p⟩=>by
 subst ex
 obtain⟨a,xs,rfl,h1,h2⟩:=rep_list.mp r1
 have hl:=h2.length
 refine⟨a,rfl,⟨xs,(zm _ _).seq h1⟩,q ds _ H1 g1 ⟨fun f' H' i d fo sm hd=>?_,fun f' H' _ sm=>⟨xs,(zm _ _).seq (sm.seq h1),amC hl⟩⟩ p⟩
 obtain⟨z,hz,rz⟩:=h2.get hd
 have sq:SqL K H' a xs:=(zm _ _).seq (sm.seq h1)
 refine⟨⟨xs,z,sq,hz⟩,fun x H3 hy=>?_⟩
 obtain⟨rfl,hy⟩:=hy
 have ez:=hy xs sq
 rw [hz] at ez
 cases ez
 exact⟨.refl fo,Rep.mono sm _ _ rz⟩
theorem aik (h:PEd K f tl ρ fun x=>∃ ds,x=.tuple ds/\R ds):PId K f (ahi K tl) ρ R:=fun σ H C e q=>h σ H _ e fun x v H1 g1 r1 ⟨ds,ex,p⟩=>by
 subst ex
 obtain⟨a,xs,rfl,h1,h2⟩:=rep_tuple.mp r1
 have hl:=h2.length
 refine⟨a,rfl,⟨xs,(zm _ _).seqT h1⟩,q ds _ H1 g1 ⟨fun f' H' i d fo sm hd=>?_,fun f' H' _ sm=>⟨xs,(zm _ _).seqT (sm.seqT h1),amC hl⟩⟩ p⟩
 obtain⟨z,hz,rz⟩:=h2.get hd
 have sq:SqT K H' a xs:=(zm _ _).seqT (sm.seqT h1)
 refine⟨⟨xs,z,sq,hz⟩,fun x H3 hy=>?_⟩
 obtain⟨rfl,hy⟩:=hy
 have ez:=hy xs sq
 rw [hz] at ez
 cases ez
 exact⟨.refl fo,Rep.mono sm _ _ rz⟩
theorem adp (h:PAd K f t ρ fun xs=>∃ ds,xs=[.dat (.list ds)]/\R (aah ds)):PId K f (af2 K t) ρ R:=fun σ H C e q=>h σ H _ e fun xs vs H1 g1 r1 ⟨ds,ex,p⟩=>by
 subst ex
 cases r1 with
 | cons rx r' =>
  cases r'
  obtain⟨a,xs,rfl,h1,h2⟩:=rep_list.mp rx
  have hl:=h2.length
  refine⟨a,rfl,⟨xs,(zm _ _).seq h1⟩,q (aah ds) _ H1 g1 ⟨fun f' H' i d fo sm hd=>?_,fun f' H' _ sm=>⟨xs,(zm _ _).seq (sm.seq h1),by unfold aah;rw [List.length_mapIdx];exact amC hl⟩⟩ p⟩
  unfold aah at hd
  rw [anf] at hd
  cases eq:ds[i]? with
  | none=>rw [eq] at hd;cases hd
  | some d0 =>
   rw [eq] at hd
   cases hd
   obtain⟨z,hz,rz⟩:=h2.get eq
   have sq:SqL K H' a xs:=(zm _ _).seq (sm.seq h1)
   refine⟨⟨xs,z,sq,hz⟩,fun x H3 hy=>?_⟩
   obtain⟨tp,y,rfl,hn,rfl,hy⟩:=hy
   have ez:=hy xs sq
   rw [hz] at ez
   cases ez
   have gn:Goes f' H' (upd H' tp (.tup [.int i,z])):=.of_same (zW hn _) fo
   exact⟨gn,rep_tuple.mpr ⟨tp,_,rfl,.of (zC (fresh_ne fo hn) zx),.cons' (rep_int.mpr rfl) (.cons' (Rep.mono gn.1 _ _ (Rep.mono sm _ _ rz)) .nil')⟩⟩
end
section
variable {K:akq} {f:Fx} {ρ:zy} {D:DEnds} {wi:TI} {g:TG} {ts:TS}
theorem vD (h:PId K f wi ρ fun ds=>∃ J:Nat->zy->Prop,J 0 ρ /\
   (∀ (i:Nat) d ρ',ds[i]?=some d->J i ρ'->PGd K f g d ρ' fun ρ2=>PSd K f ts ρ2 { D with nx:=J (i+1),ct:=J (i+1),bk:=D.nx })/\∀ ρ',J ds.length ρ'->D.nx ρ') :
  PSd K f (ahk wi g ts) ρ D:=fun σ H E e n r b c=>h σ H _ e fun ds J H1 g1 it ⟨Jv,j0,js,jd⟩=>by
 refine⟨fun i m σ' H'=>∃ ρ',EnvOk K f ρ' σ' H'/\Goes f H1 H'/\Jv i ρ'/\m+i=ds.length,⟨ds.length,ρ,e.mono g1,.refl g1.2,j0,rfl⟩,fun i m σ' H' ⟨ρ',e',g',p,hm⟩=>?_⟩
 by_cases hi:i<ds.length
 ·obtain⟨hgo,hy⟩:=it.go f H' i _ e'.fd g'.sm (akt hi)
  refine .inr ⟨hgo,fun σ2 H2=>∃ ρ2,EnvOk K f ρ2 σ2 H2/\Goes f H1 H2/\Jv (i+1) ρ2,fun σ2 H2 ⟨ρ2,e2,g2,p2⟩=>⟨m - 1,by omega,ρ2,e2,g2,p2,by omega⟩,fun x H3 hx=>?_⟩
  obtain⟨g3,r3⟩:=hy x H3 hx
  refine js i _ ρ' (akt hi) p σ' H3 x _ (e'.mono g3) r3 fun ρ2 σ2 H4 g4 e4 p4=>?_
  have gg:=g'.trans (g3.trans g4)
  exact p4 σ2 H4 _ e4 (fun ρ5 σ5 H5 g5 e5 p5=>⟨ρ5,e5,gg.trans g5,p5⟩) (fun d v H5 g5 r5 p5=>r d v H5 (g1.trans (gg.trans g5)) r5 p5) (fun ρ5 σ5 H5 g5 e5 p5=>n ρ5 σ5 H5 (g1.trans (gg.trans g5)) e5 p5) (fun ρ5 σ5 H5 g5 e5 p5=>⟨ρ5,e5,gg.trans g5,p5⟩)
 ·have ei:i=ds.length:=by omega
  subst ei
  exact .inl ⟨it.st f H' e'.fd g'.sm,n ρ' σ' H' (g1.trans g') e' (jd ρ' p)⟩
end
section
variable {K:akq} {f:Fx} {ρ:zy} {D:Addr} {wi:TI} {g:TG} {tt:TT} {te:TE}
theorem CSt.self {H2 H:Hp} {es:List PyData} {σ:St} (c:CSt K f D H2 ρ es σ H):CSt K f D H ρ es σ H:=⟨c.env,Same.refl _,fun _ _=>rfl,c.lst⟩
theorem CSt.trans {H2 H H':Hp} {es es':List PyData} {ρ':zy} {σ σ':St} (c:CSt K f D H2 ρ es σ H) (d:CSt K f D H ρ' es' σ' H'):CSt K f D H2 ρ' es' σ' H':=⟨d.env,c.sm.trans d.sm,fun b hb=>(d.kp b hb).trans (c.kp b hb),d.lst⟩
noncomputable def PBd (K:akq) (f:Fx) (D:Addr) (tb:TB) (ρ:zy) (es:List PyData) (R:zy->List PyData->Prop):Prop:=f.f≠some D->D∉f.M->∀ (σ:St) (H H2:Hp) (W:St->Hp->Prop),CSt K f D H2 ρ es σ H ->
 (∀ ρ2 es2 σ2 H',CSt K f D H2 ρ2 es2 σ2 H'->R ρ2 es2->W σ2 H')->tb σ H W
theorem yN {es:List PyData} {R:zy->List PyData->Prop} (hl:es.length<1000) (h:PEd K (f.with D) te ρ fun e=>R ρ (es++[e])):PBd K f D (aag D te) ρ es R:=fun hD hM σ H H2 W c q =>
 h σ H _ c.env fun e u H5 g5 r5 p5=>by
  have c5:=c.go g5 (c.env.mono g5)
  obtain⟨vs,h1,h2⟩:=c5.lst
  exact⟨vs,h1,z9 (by rw [h2.length];omega),q _ _ _ _ (c5.put hD hM h1 h2 r5) p5⟩
theorem agc {fi:Fx} {Hi H2 H:Hp} {ds es:List PyData} {J:It} {tb:TB} {σ:St} {W:St->Hp->Prop} (it:ItD K fi ds J Hi) (hD:f.f≠some D) (hM:D∉f.M) (c:CSt K f D H2 ρ es σ H) (sm:Same (hide Hi fi) (hide H (f.with D)))
  (Jv:Nat->zy->List PyData->Prop) (j0:Jv 0 ρ es)
  (js:∀ (i:Nat) d ρ' es',ds[i]?=some d->Jv i ρ' es'->PGd K (f.with D) g d ρ' fun ρ2=>PTd K (f.with D) tt ρ2 fun b=>if b=true then PBd K f D tb ρ2 es' (Jv (i+1)) else Jv (i+1) ρ2 es')
  (hW:∀ ρ' es' σ' H',CSt K f D H2 ρ' es' σ' H'->Jv ds.length ρ' es'->W σ' H'):acv J g tt tb σ H W:=by
 refine⟨fun i m σ' H'=>∃ ρ' es',CSt K f D H2 ρ' es' σ' H'/\Same (hide Hi fi) (hide H' (f.with D))/\Jv i ρ' es'/\m+i=ds.length,⟨ds.length,ρ,es,c,sm,j0,rfl⟩,fun i m σ' H' ⟨ρ',es',c',sm',p,hm⟩=>?_⟩
 by_cases hi:i<ds.length
 ·obtain⟨hgo,hy⟩:=it.go (f.with D) H' i _ c'.env.fd sm' (akt hi)
  refine .inr ⟨hgo,fun x H3 hx=>?_⟩
  obtain⟨g3,r3⟩:=hy x H3 hx
  have c3:=c'.go g3 (c'.env.mono g3)
  refine js i _ ρ' es' (akt hi) p σ' H3 x _ c3.env r3 fun ρ2 σ2 H4 g4 e4 p4=>?_
  have c4:=c3.go g4 e4
  refine p4 σ2 H4 _ e4 fun b H5 g5 p5=>?_
  have c5:=c4.go g5 (e4.mono g5)
  have sm5:=((sm'.trans g3.sm).trans g4.sm).trans g5.sm
  cases b with
  | false =>
   rw [if_neg akr] at p5 ⊢
   exact⟨m - 1,by omega,ρ2,es',c5,sm5,p5,by omega⟩
  | true =>
   rw [if_pos rfl] at p5 ⊢
   exact p5 hD hM σ2 H5 H5 _ c5.self fun ρ6 es6 σ6 H6 c6 p6=>⟨m - 1,by omega,ρ6,es6,c5.trans c6,sm5.trans c6.sm,p6,by omega⟩
 ·have ei:i=ds.length:=by omega
  subst ei
  exact .inl ⟨it.st (f.with D) H' c'.env.fd sm',hW ρ' es' σ' H' c' p⟩
theorem ajR {es:List PyData} {tb:TB} {R:zy->List PyData->Prop} (h:PId K (f.with D) wi ρ fun ds=>∃ Jv:Nat->zy->List PyData->Prop,Jv 0 ρ es /\
   (∀ (i:Nat) d ρ' es',ds[i]?=some d->Jv i ρ' es'->PGd K (f.with D) g d ρ' fun ρ2=>PTd K (f.with D) tt ρ2 fun b=>if b=true then PBd K f D tb ρ2 es' (Jv (i+1)) else Jv (i+1) ρ2 es') /\
   ∀ ρ' es',Jv ds.length ρ' es'->R ρ' es'):PBd K f D (tIn wi g tt tb) ρ es R:=fun hD hM σ H H2 W c q =>
 h σ H _ c.env fun ds J H1 g1 it ⟨Jv,j0,js,jd⟩ =>
  agc it hD hM (c.go g1 (c.env.mono g1)) (Same.refl _) Jv j0 js fun ρ' es' σ' H' c' p=>q ρ' es' σ' H' c' (jd ρ' es' p)
noncomputable def PEdO (K:akq) (f:Fx) (te:TE) (ρ:zy) (P:List PyData->Prop):Prop:=∀ (σ:St) (H:Hp) (Q:VK),EnvOk K f ρ σ H ->
 (∀ es D vs H',Goes f H H'->H D=none->H' D=some (.lst vs)->Reps K (hide H' (f.with D)) es vs->P es->Q (.ref D) H')->te σ H Q
theorem PEdO.pedl {P:List PyData->Prop} (h:PEdO K f te ρ P):PEdL K f te ρ P:=fun σ H Q e q=>h σ H Q e fun es D vs H' g n h1 r p=>q es D vs H' g n h1 (Reps.mono same_with es vs r) p
theorem PEdO.ped {P:PyData->Prop} (h:PEdO K f te ρ fun es=>P (.list es)):PEd K f te ρ P:=h.pedl.ped
theorem ad4 {P:List PyData->Prop} (h:P []):PEdO K f (afU yR) ρ P:=fun σ H Q e q=>⟨alp _,fun p hn=>q [] p [] _ (.of_same (zW hn _) e.fd) hn zx .nil' h⟩
theorem jQ {own:Nat} {fr:List Nat} {tb:Addr->TB} {P:List PyData->Prop} (h:PId K f wi ρ fun ds=>∃ Jv:Nat->zy->List PyData->Prop,Jv 0 (qK own fr ρ) [] /\
   (∀ D (i:Nat) d ρ' es',ds[i]?=some d->Jv i ρ' es'->PGd K (f.with D) g d ρ' fun ρ2=>PTd K (f.with D) tt ρ2 fun b=>if b=true then PBd K f D (tb D) ρ2 es' (Jv (i+1)) else Jv (i+1) ρ2 es') /\
   ∀ ρ' es',Jv ds.length ρ' es'->P es'):PEdO K f (vg wi own fr g tt tb) ρ P:=fun σ H Q e q =>
 h σ H _ e fun ds J H1 g1 it ⟨Jv,j0,js,jd⟩ D hn=>by
  have nD:=fresh_ne g1.2 hn
  have hD:f.f≠some D:=fun z=>nD (.inl z)
  have hM:D∉f.M:=fun z=>nD (.inr z)
  refine agc it hD hM (ado hn (e.mono g1)) (qV hn) Jv j0 (js D) fun ρ' es' σ' H' c' p=>?_
  obtain⟨ge,rep⟩:=af8 (σ':=σ') hn g1.2 c'
  obtain⟨vs,h1,h2⟩:=c'.lst
  exact q es' D vs H' (g1.trans ge) (g1.free e.fd hn) h1 h2 (jd ρ' es' p)
end
section
variable {K:akq} {f:Fx} {ρ:zy} {D:Addr} {wi:TI} {g:TG} {tt:TT} {te:TE}
noncomputable def OwnE (own:Nat) (ρ0:zy) (ρ':zy):Prop:=∃ us:zy,us.length=own/\ρ'=us++ρ0
theorem OwnE.one {ρ0 ρ':zy} (h:OwnE 1 ρ0 ρ'):∃ u,ρ'=u :: ρ0:=by
 obtain⟨us,h1,rfl⟩:=h
 match us,h1 with
 | [u],_=>exact⟨u,rfl⟩
theorem OwnE.two {ρ0 ρ':zy} (h:OwnE 2 ρ0 ρ'):∃ u v,ρ'=u :: v :: ρ0:=by
 obtain⟨us,h1,rfl⟩:=h
 match us,h1 with
 | [u,v],_=>exact⟨u,v,rfl⟩
theorem OwnE.mk1 {ρ0:zy} {u:Option DV}:OwnE 1 ρ0 (u :: ρ0):=⟨[u],rfl,rfl⟩
theorem OwnE.mk2 {ρ0:zy} {u v:Option DV}:OwnE 2 ρ0 (u :: v :: ρ0):=⟨[u,v],rfl,rfl⟩
theorem ji {B:Bool->Prop} (h:B true):PTd K f af0 ρ B:=fun σ H Q e q=>q true H (.refl e.fd) h
end
structure OEnds where
 nx:zy->List PyData->Prop
 rt:PyData->Prop
 bk:zy->List PyData->Prop:=fun _ _=>False
 ct:zy->List PyData->Prop:=fun _ _=>False
noncomputable def PSo (K:akq) (f:Fx) (D:Addr) (ts:TS) (ρ:zy) (es:List PyData) (O:OEnds):Prop:=f.f≠some D->D∉f.M->∀ (σ:St) (H H2:Hp) (E:Ends),CSt K f D H2 ρ es σ H ->
 (∀ ρ' es' σ' H',CSt K f D H2 ρ' es' σ' H'->O.nx ρ' es'->E.nx σ' H')->(∀ d v ρ' es' σ' H',CSt K f D H2 ρ' es' σ' H'->Rep K (hide H' f) d v->O.rt d->E.rt v H') ->
 (∀ ρ' es' σ' H',CSt K f D H2 ρ' es' σ' H'->O.bk ρ' es'->E.bk σ' H')->(∀ ρ' es' σ' H',CSt K f D H2 ρ' es' σ' H'->O.ct ρ' es'->E.ct σ' H')->ts E σ H
section
variable {K:akq} {f:Fx} {ρ:zy} {D:Addr} {wi:TI} {g:TG} {tt:TT} {te:TE} {ts tu:TS} {es:List PyData} {O:OEnds} {i:Nat}
theorem adq (h:PSd K (f.with D) ts ρ { nx:=fun ρ'=>O.nx ρ' es,rt:=O.rt,bk:=fun ρ'=>O.bk ρ' es,ct:=fun ρ'=>O.ct ρ' es }):PSo K f D ts ρ es O:=fun hD hM σ H H2 E c n r b k =>
 h σ H E c.env (fun ρ' σ' H' g' e' p=>n ρ' es σ' H' (c.go g' e') p) (fun d v H' g' r' p=>r d v ρ es σ H' (c.go g' (c.env.mono g')) (Rep.mono same_with d v r') p) (fun ρ' σ' H' g' e' p=>b ρ' es σ' H' (c.go g' e') p) (fun ρ' σ' H' g' e' p=>k ρ' es σ' H' (c.go g' e') p)
theorem agd (h:PSo K f D ts ρ es { O with nx:=fun ρ' es'=>PSo K f D tu ρ' es' O }):PSo K f D (qD ts tu) ρ es O:=fun hD hM σ H H2 E c n r b k =>
 h hD hM σ H H2 _ c (fun ρ' es' σ' H' c' p=>p hD hM σ' H' H2 E c' n r b k) r b k
theorem age (h:O.nx ρ es):PSo K f D aab ρ es O:=fun _ _ σ H H2 E c n r b k=>n ρ es σ H c h
theorem akg (h:PTd K (f.with D) tt ρ fun b=>if b=true then PSo K f D ts ρ es O else PSo K f D tu ρ es O):PSo K f D (abK tt ts tu) ρ es O:=fun hD hM σ H H2 E c n r b k =>
 h σ H _ c.env fun q H1 g1 p=>by
  have c1:=c.go g1 (c.env.mono g1)
  cases q with
  | false =>
   rw [if_neg akr] at p ⊢
   exact p hD hM σ H1 H2 E c1 n r b k
  | true =>
   rw [if_pos rfl] at p ⊢
   exact p hD hM σ H1 H2 E c1 n r b k
theorem agf {σ:St} {H H2:Hp} (hi:ρ[i]?=some (some (.own f.M.length))) (c:CSt K f D H2 ρ es σ H):σ[i]?=some (some (.ref D)):=by
 obtain⟨v,h1,p,h2,rfl⟩:=c.env.get i _ hi
 have e:(D :: f.M).reverse[f.M.length]?=some D:=by
  rw [alg,akL (by simp)]
  simp
 have h2':(D :: f.M).reverse[f.M.length]?=some p:=h2
 rw [e] at h2'
 cases h2'
 exact h1
theorem ad5 (hi:ρ[i]?=some (some (.own f.M.length))) (hl:es.length<1000) (h:PEd K (f.with D) te ρ fun d=>O.nx ρ (es++[d])):PSo K f D (afJ (tBM K "list" adY (zO i) (zG te yR))) ρ es O:=fun hD hM σ H H2 E c n r b k=>by
 obtain⟨vs0,h0,_⟩:=c.lst
 refine⟨_,agf hi c,Or.inl ⟨rfl,vs0,.of h0⟩,?_⟩
 refine h σ H _ c.env fun d v H1 g1 r1 p1=>?_
 have c1:=c.go g1 (c.env.mono g1)
 obtain⟨vs,h1,h2⟩:=c1.lst
 exact⟨D,vs,v,rfl,rfl,h1,z9 (by rw [h2.length];omega),n _ _ _ _ (c1.put hD hM h1 h2 r1) p1⟩
theorem acD (h:PId K (f.with D) wi ρ fun ds=>∃ J:Nat->zy->List PyData->Prop,J 0 ρ es /\
   (∀ (i:Nat) d ρ' es',ds[i]?=some d->J i ρ' es'->PGd K (f.with D) g d ρ' fun ρ2=>PSo K f D ts ρ2 es' { O with nx:=J (i+1),ct:=J (i+1),bk:=O.nx })/\∀ ρ' es',J ds.length ρ' es'->O.nx ρ' es') :
  PSo K f D (ahk wi g ts) ρ es O:=fun hD hM σ H H2 E c n r b k=>h σ H _ c.env fun ds J H1 g1 it ⟨Jv,j0,js,jd⟩=>by
 have c1:=c.go g1 (c.env.mono g1)
 refine⟨fun i m σ' H'=>∃ ρ' es',CSt K f D H2 ρ' es' σ' H'/\Same (hide H1 (f.with D)) (hide H' (f.with D))/\Jv i ρ' es'/\m+i=ds.length,⟨ds.length,ρ,es,c1,Same.refl _,j0,rfl⟩,fun i m σ' H' ⟨ρ',es',c',sm',p,hm⟩=>?_⟩
 by_cases hi:i<ds.length
 ·obtain⟨hgo,hy⟩:=it.go (f.with D) H' i _ c'.env.fd sm' (akt hi)
  refine .inr ⟨hgo,fun σ2 H3=>∃ ρ2 es2,CSt K f D H2 ρ2 es2 σ2 H3/\Same (hide H1 (f.with D)) (hide H3 (f.with D))/\Jv (i+1) ρ2 es2,fun σ2 H3 ⟨ρ2,es2,e2,g2,p2⟩=>⟨m - 1,by omega,ρ2,es2,e2,g2,p2,by omega⟩,fun x H3 hx=>?_⟩
  obtain⟨g3,r3⟩:=hy x H3 hx
  have c3:=c'.go g3 (c'.env.mono g3)
  refine js i _ ρ' es' (akt hi) p σ' H3 x _ c3.env r3 fun ρ2 σ2 H4 g4 e4 p4=>?_
  have c4:=c3.go g4 e4
  have sm4:=(sm'.trans g3.sm).trans g4.sm
  exact p4 hD hM σ2 H4 H4 _ c4.self (fun ρ5 es5 σ5 H5 c5 p5=>⟨ρ5,es5,c4.trans c5,sm4.trans c5.sm,p5⟩) (fun d v ρ5 es5 σ5 H5 c5 r5 p5=>r d v ρ5 es5 σ5 H5 (c4.trans c5) r5 p5) (fun ρ5 es5 σ5 H5 c5 p5=>n ρ5 es5 σ5 H5 (c4.trans c5) p5) (fun ρ5 es5 σ5 H5 c5 p5=>⟨ρ5,es5,c4.trans c5,sm4.trans c5.sm,p5⟩)
 ·have ei:i=ds.length:=by omega
  subst ei
  exact .inl ⟨it.st (f.with D) H' c'.env.fd sm',n ρ' es' σ' H' c' (jd ρ' es' p)⟩
noncomputable def jb (n:Nat):Option DV->Option DV
 | some (.own k)=>if k<n then some (.own k) else none
 | x=>x
theorem aau {σ:St} {H H2:Hp} (c:CSt K f D H2 ρ es σ H):EnvOk K f (ρ.map (jb f.M.length)) σ H:=by
 refine⟨by rw [akp];exact c.env.len,fun i x h=>?_,⟨c.env.fd.fd,fun b hb=>c.env.fd.mm b (akv _ hb),fun p e hp=>c.env.fd.nm p e (akv _ hp)⟩⟩
 rw [akz] at h
 cases e:ρ[i]? with
 | none=>rw [e] at h;cases h
 | some y =>
  rw [e] at h
  cases y with
  | none=>cases h
  | some y =>
   obtain⟨v,h1,h2⟩:=c.env.get i y e
   cases y with
   | dat d =>
    cases h
    exact⟨v,h1,Rep.mono same_with d v h2⟩
   | feed =>
    cases h
    exact⟨v,h1,h2⟩
   | exc C =>
    cases h
    obtain⟨a,h3,h4⟩:=h2
    exact⟨v,h1,a,h3,same_with _ _ h4⟩
   | mon φ =>
    cases h
    exact⟨v,h1,fun H' s=>h2 H' (same_with.trans s)⟩
   | own k =>
    have h':(if k<f.M.length then some (DV.own k) else none)=some x:=Option.some.inj h
    by_cases hk:k<f.M.length
    ·rw [if_pos hk] at h'
     cases h'
     obtain⟨p,h3,h4⟩:=h2
     refine⟨v,h1,p,?_,h4⟩
     have h3':(D :: f.M).reverse[k]?=some p:=h3
     rw [alg,akK (by simpa using hk)] at h3'
     exact h3'
    ·rw [if_neg hk] at h'
     cases h'
theorem ahB {σ:St} {H:Hp} {d:PyData} {v:V} (e:EnvOk K f ρ σ H) (hs:σ[i]?=some (some v)) (r:Rep K (hide H f) d v):EnvOk K f (ρ.set i (some (.dat d))) σ H:=by
 refine⟨by rw [ald];exact e.len,fun j y h=>?_,e.fd⟩
 by_cases hj:i=j
 ·subst hj
  have hi:i<ρ.length:=by rw [e.len];exact (aks.mp hs).1
  rw [ak4 hi] at h
  cases h
  exact⟨v,hs,r⟩
 ·rw [ak5 hj] at h
  exact e.get j y h
theorem ad6 {Dn:DEnds} (h:PEdO K f te ρ fun es0=>i<ρ.length/\∀ D,PSo K f D ts (ρ.set i (some (.own f.M.length))) es0 { nx:=fun ρ' es=>ρ'[i]?=some (some (.own f.M.length))/\PSd K f tu ((ρ'.map (jb f.M.length)).set i (some (.dat (.list es)))) Dn,rt:=Dn.rt,bk:=fun ρ' es=>Dn.bk (ρ'.map (jb f.M.length)),ct:=fun ρ' es=>Dn.ct (ρ'.map (jb f.M.length)) }) :
  PSd K f (qD (vR te (qG i)) (qD ts tu)) ρ Dn:=fun σ H E e n r b k=>h σ H _ e fun es0 D vs H1 g1 hn h1 rs ⟨hil,p⟩=>by
 have nD:¬ (f.f=some D \/ D∈f.M):=fresh_ne e.fd hn
 have hD:f.f≠some D:=fun z=>nD (.inl z)
 have hM:D∉f.M:=fun z=>nD (.inr z)
 have sm0:Same (hide H f) (hide H1 (f.with D)):=fun b o hb=>by
  have hb1:=g1.sm b o hb
  refine zC (fun z=>?_) (zU hb1).2
  rcases z with z | z
  ·exact (zU hb1).1 (.inl z)
  ·rcases akB.mp z with rfl | z
   ·have:=(zU hb).2
    rw [hn] at this
    cases this
   ·exact (zU hb1).1 (.inr z)
 have fo1:FOk (f.with D) H1:=⟨g1.ok.fd,fun b hb=>by
  rcases akB.mp hb with rfl | hb
  ·exact⟨_,h1⟩
  ·exact g1.ok.mm b hb,fun q eq hq=>by
  rcases akB.mp hq with rfl | hq
  ·exact hD eq
  ·exact g1.ok.nm q eq hq⟩
 have e1:EnvOk K (f.with D) ρ σ H1:=⟨e.len,fun j x hx=>by
  obtain⟨v,a1,a2⟩:=e.get j x hx
  refine⟨v,a1,?_⟩
  cases x with
  | dat d=>exact Rep.mono sm0 d v a2
  | feed=>exact a2
  | exc C =>
   obtain⟨q,h3,h4⟩:=a2
   exact⟨q,h3,sm0 _ _ h4⟩
  | mon φ=>exact fun H' s=>a2 H' (sm0.trans s)
  | own k =>
   obtain⟨q,h3,h4⟩:=a2
   refine⟨q,?_,h4⟩
   show (D :: f.M).reverse[k]?=some q
   rw [alg,akK (aks.mp h3).1]
   exact h3,fo1⟩
 have rv:RepV K (f.with D) H1 (.own f.M.length) (.ref D):=⟨D,by
  show (D :: f.M).reverse[f.M.length]?=some D
  rw [alg,akL (by simp)]
  simp,rfl⟩
 have c1:CSt K f D H1 (ρ.set i (some (.own f.M.length))) es0 (σ.set i (some (.ref D))) H1:=⟨e1.set i rv,Same.refl _,fun _ _=>rfl,vs,h1,rs⟩
 have gg:∀ {ρ':zy} {es':List PyData} {σ':St} {H':Hp},CSt K f D H1 ρ' es' σ' H'->Goes f H H':=fun c=>by
  refine⟨fun b o hb=>?_,(aau c).fd,fun b hb=>(c.kp b hb).trans (g1.kp b hb)⟩
  exact same_with (D:=D) b o (c.sm b o (sm0 b o hb))
 refine p D hD hM _ H1 H1 _ c1 (fun ρ' es' σ' H' c' ⟨hi,p'⟩=>?_) (fun d v ρ' es' σ' H' c' r' p'=>r d v H' (gg c') r' p') (fun ρ' es' σ' H' c' p'=>b _ σ' H' (gg c') (aau c') p') (fun ρ' es' σ' H' c' p'=>k _ σ' H' (gg c') (aau c') p')
 obtain⟨vs',h1',h2'⟩:=c'.lst
 have rl:Rep K (hide H' f) (.list es') (.ref D):=rep_list.mpr ⟨D,vs',rfl,.of (zC nD h1'),Reps.mono same_with es' vs' h2'⟩
 exact p' σ' H' E (ahB (aau c') (agf hi c') rl) (fun ρ2 σ2 H2 g2=>n ρ2 σ2 H2 ((gg c').trans g2)) (fun d v H2 g2=>r d v H2 ((gg c').trans g2)) (fun ρ2 σ2 H2 g2=>b ρ2 σ2 H2 ((gg c').trans g2)) (fun ρ2 σ2 H2 g2=>k ρ2 σ2 H2 ((gg c').trans g2))
end
section
variable {K:akq} {f:Fx} {ρ:zy} {P:PyData->Prop} {te ta tb:TE} {t:TA}
theorem Reps.drop {H:Hp}:∀ {ds:List PyData} {xs:List V} (n:Nat),Reps K H ds xs->Reps K H (ds.drop n) (xs.drop n)
 | _,_,0,r=>r
 | [],xs,n+1,r=>by
  rw [reps_nil.mp r]
  exact .nil'
 | d :: ds,xs,n+1,r=>by
  obtain⟨x,r',rfl,_,h⟩:=reps_cons.mp r
  exact Reps.drop n h
theorem Reps.take {H:Hp}:∀ {ds:List PyData} {xs:List V} (n:Nat),Reps K H ds xs->Reps K H (ds.take n) (xs.take n)
 | _,_,0,r=>.nil'
 | [],xs,n+1,r=>by
  rw [reps_nil.mp r]
  exact .nil'
 | d :: ds,xs,n+1,r=>by
  obtain⟨x,r',rfl,h0,h⟩:=reps_cons.mp r
  exact .cons' h0 (Reps.take n h)
noncomputable def cutD (ds:List PyData) (lo hi:Option Int):List PyData:=(ds.drop (HT.sIx ds.length 0 lo)).take (HT.sIx ds.length ds.length hi - HT.sIx ds.length 0 lo)
theorem Reps.cut {H:Hp} {ds:List PyData} {xs:List V} {lo hi:Option Int} (r:Reps K H ds xs):Reps K H (cutD ds lo hi) (aa7 xs lo hi):=by
 unfold cutD aa7
 rw [r.length]
 exact (r.drop _).take _
theorem jW {ds:List PyData} {n:Nat}:cutD ds (some (n:Int)) none=ds.drop n:=by
 unfold cutD
 rw [HT.sIx_nat,HT.sIx_none]
 by_cases h:n<=ds.length
 ·rw [amx h]
  exact alB (by rw [als];exact akA _)
 ·rw [Nat.min_eq_right (by omega),amD,ang,List.drop_eq_nil_of_le (by omega)]
noncomputable def POd (K:akq) (f:Fx) (t:TO) (ρ:zy) (R:Option Int->Prop):Prop:=∀ (σ:St) (H:Hp) (Q:Option Int->Hp->Prop),EnvOk K f ρ σ H->(∀ o H',Goes f H H'->R o->Q o H')->t σ H Q
theorem ajS {R:Option Int->Prop} (h:R none):POd K f adV ρ R:=fun σ H Q e q=>q none H (.refl e.fd) h
theorem ajT {R:Option Int->Prop} (h:PEd K f te ρ fun d=>∃ i:Int,d=.int i/\R (some i)):POd K f (aii te) ρ R:=fun σ H Q e q=>h σ H _ e fun d v H1 g1 r1 ⟨i,ed,p⟩=>by
 subst ed
 exact⟨i,rep_int.mp r1,q (some i) H1 g1 p⟩
theorem ajU {tl th:TO} {P:List PyData->Prop} (h:PEd K f te ρ fun x=>∃ ds,x=.list ds/\POd K f tl ρ fun lo=>POd K f th ρ fun hi=>P (cutD ds lo hi)):PEdL K f (tSl (ahr K) te tl th) ρ P:=fun σ H Q e q =>
 h σ H _ e fun x v H1 g1 r1 ⟨ds,ex,p1⟩=>p1 σ H1 _ (e.mono g1) fun lo H2 g2 p2=>p2 σ H2 _ ((e.mono g1).mono g2) fun hi H3 g3 p3=>by
  subst ex
  have gg:=g1.trans (g2.trans g3)
  obtain⟨a,xs,rfl,h1,h2⟩:=rep_list.mp (Rep.mono (g2.trans g3).sm _ _ r1)
  refine⟨a,xs,rfl,(zm _ _).seq h1,fun p hn=>?_⟩
  have g4:Goes f H3 (upd H3 p (.lst (aa7 xs lo hi))):=.of_same (zW hn _) g3.ok
  exact q _ p _ _ (gg.trans g4) (gg.free e.fd hn) zx (Reps.mono g4.sm _ _ h2.cut) p3
theorem agg {tl th:TO} (h:PEd K f te ρ fun x=>∃ ds,x=.list ds/\POd K f tl ρ fun lo=>POd K f th ρ fun hi=>P (.list (cutD ds lo hi))):PEd K f (tSl (ahr K) te tl th) ρ P:=(ajU h).ped
theorem ai4 (h:PEd K f ta ρ fun x=>∃ ds,x=.tuple ds/\ds≠[]/\PEd K f tb ρ fun y=>∃ es,y=.tuple es/\es≠[]/\ds.length+es.length<=1000/\P (.tuple (ds++es))):PEd K f (tOp (afW K) ta tb) ρ P:=fun σ H Q e q =>
 h σ H _ e fun x v H1 g1 r1 ⟨ds,ex,hd,p1⟩=>p1 σ H1 _ (e.mono g1) fun y w H2 g2 r2 ⟨es,ey,he,hl,p2⟩=>by
  subst ex ey
  obtain⟨a,xs,rfl,h1,h2⟩:=rep_tuple.mp (Rep.mono g2.sm _ _ r1)
  obtain⟨b,ys,rfl,h3,h4⟩:=rep_tuple.mp r2
  have l1:=h2.length
  have l2:=h4.length
  refine⟨a,b,xs,ys,rfl,rfl,(zm _ _).seqT h1,(zm _ _).seqT h3,fun z=>hd (alx (by rw [<-l1,z];rfl)),by rw [l1,l2];exact ale (z9 hl),fun z=>absurd (alx (by rw [<-l2,z];rfl)) he,fun _ p hn=>?_⟩
  have g3:Goes f H2 (upd H2 p (.tup (xs++ys))):=.of_same (zW hn _) g2.ok
  exact q (.tuple (ds++es)) _ _ (g1.trans (g2.trans g3)) (rep_tuple.mpr ⟨p,_,rfl,.of (zC (fresh_ne g2.ok hn) zx),Reps.mono g3.sm _ _ (h2.append h4)⟩) p2
theorem ai5 (h:PAd K f t ρ fun xs=>(∃ i,xs=[.dat (.int i)]/\P (.int i)) \/ (∃ k:Bool,xs=[.dat (.bool k)]/\P (.int (if k then 1 else 0)))) :
  PEd K f (tCB (fun xs H Q=>(∃ i,xs=[.int i]/\Q (.int i) H) \/ ∃ k:Bool,xs=[.bl k]/\Q (.int (if k then 1 else 0)) H) t) ρ P :=
 acA fun σ H Q e q=>h σ H Q e fun xs vs H' g r p=>by
  rcases p with⟨i,rfl,p⟩ | ⟨i,rfl,p⟩
  ·refine q _ vs H' g r ⟨_,rfl,fun vs H Q fo rs k=>?_⟩
   obtain⟨x,r,rfl,h2,h3⟩:=reps_cons.mp rs
   rw [reps_nil.mp h3,rep_int.mp h2]
   exact .inl ⟨i,rfl,k _ _ H (.refl fo) (rep_int.mpr rfl) p⟩
  ·refine q _ vs H' g r ⟨_,rfl,fun vs H Q fo rs k=>?_⟩
   obtain⟨x,r,rfl,h2,h3⟩:=reps_cons.mp rs
   rw [reps_nil.mp h3,rep_bool.mp h2]
   exact .inr ⟨i,rfl,k _ _ H (.refl fo) (rep_int.mpr rfl) p⟩
theorem ad7 (h:PAd K f t ρ fun xs=>(∃ ds,xs=[.dat (.list ds)]/\P (.tuple ds)) \/ (∃ ds,xs=[.dat (.tuple ds)]/\P (.tuple ds))) :
  PEd K f (tCB (fun xs H Q=>∃ p ys,xs=[.ref p]/\((SqL K H p ys/\∀ l,H l=none->Q (.ref l) (upd H l (.tup ys))) \/ (SqT K H p ys/\Q (.ref p) H))) t) ρ P :=
 acA fun σ H Q e q=>h σ H Q e fun xs vs H' g r p=>by
  rcases p with⟨ds,rfl,p⟩ | ⟨ds,rfl,p⟩
  ·refine q _ vs H' g r ⟨_,rfl,fun vs H Q fo rs k=>?_⟩
   obtain⟨x,r,rfl,h2,h3⟩:=reps_cons.mp rs
   rw [reps_nil.mp h3]
   obtain⟨a,ys,rfl,s1,s2⟩:=rep_list.mp h2
   refine⟨a,ys,rfl,.inl ⟨(zm _ _).seq s1,fun l hn=>?_⟩⟩
   have g2:Goes f H (upd H l (.tup ys)):=.of_same (zW hn _) fo
   exact k (.tuple ds) _ _ g2 (rep_tuple.mpr ⟨l,ys,rfl,.of (zC (fresh_ne fo hn) zx),Reps.mono g2.1 ds ys s2⟩) p
  ·refine q _ vs H' g r ⟨_,rfl,fun vs H Q fo rs k=>?_⟩
   obtain⟨x,r,rfl,h2,h3⟩:=reps_cons.mp rs
   rw [reps_nil.mp h3]
   obtain⟨a,ys,rfl,s1,s2⟩:=rep_tuple.mp h2
   exact⟨a,ys,rfl,.inr ⟨(zm _ _).seqT s1,k (.tuple ds) _ H (.refl fo) (rep_tuple.mpr ⟨a,ys,rfl,s1,s2⟩) p⟩⟩
end
noncomputable abbrev f0:Fx:=⟨none,[]⟩
theorem fok0 (H:Hp):FOk f0 H:=⟨(fun p e=>by cases e),(fun b hb=>by cases hb),(fun p e=>by cases e)⟩
theorem ajV {H H':Hp} (s:Same H H'):Goes f0 H H':=.of_same s (fok0 H)
theorem same0 {H H':Hp} (g:Goes f0 H H'):Same H H':=fun b o h=>(zU (g.sm b o (by rw [yP];exact h))).2
noncomputable def abX:Option DV->Option DV
 | some (.dat d)=>some (.dat d)
 | _=>none
section
variable {K:akq} {ρ:zy} {te:TE} {tu:TS} {i:Nat}
theorem aaO {p:Addr} {σ:St} {H:Hp} (e:EnvOk K ⟨some p,[]⟩ ρ σ H):EnvOk K f0 (ρ.map abX) σ H:=by
 refine⟨by rw [akp];exact e.len,fun i x h=>?_,fok0 H⟩
 rw [akz] at h
 cases eq:ρ[i]? with
 | none=>rw [eq] at h;cases h
 | some y =>
  rw [eq] at h
  cases y with
  | none=>cases h
  | some y =>
   obtain⟨v,h1,h2⟩:=e.get i y eq
   cases y with
   | dat d =>
    cases h
    refine⟨v,h1,?_⟩
    show Rep K (hide H f0) d v
    rw [yP]
    exact Rep.mono (zm _ _) d v h2
   | feed=>cases h
   | own k=>cases h
   | exc C=>cases h
   | mon φ=>cases h
theorem ai6 {Dn:DEnds} (h:∀ (σ:St) (H:Hp) (Q:VK),EnvOk K f0 ρ σ H->(∀ (p:Addr) (x y:Int) (H':Hp),Same H H'->H p=none->H' p=some (.lst [.int x,.int y])->0<=x->0<=y->y<2147483647->Q (.ref p) H')->te σ H Q)
  (hr:∀ p,PSd K ⟨some p,[]⟩ tu (ρ.set i (some .feed)) { nx:=fun ρ'=>Dn.nx (ρ'.map abX),rt:=Dn.rt,bk:=fun ρ'=>Dn.bk (ρ'.map abX),ct:=fun ρ'=>Dn.ct (ρ'.map abX) }) :
  PSd K f0 (qD (vR te (qG i)) tu) ρ Dn:=fun σ H E e n r b k=>h σ H _ e fun p x y H1 sm hn hp x0 y0 y1=>by
 have fo:FOk ⟨some p,[]⟩ H1:=⟨fun p' e=>by cases e;exact⟨x,y,hp,x0,y0,y1⟩,(fun b hb=>by cases hb),fun _ _ hb=>by cases hb⟩
 have sm0:Same H (hide H1 ⟨some p,[]⟩):=fun b o hb=>by
  have nb:b≠p:=fun e=>by rw [e,hn] at hb;cases hb
  refine zC (fun z=>?_) (sm b o hb)
  rcases z with z | z
  ·cases z;exact nb rfl
  ·cases z
 have e1:EnvOk K ⟨some p,[]⟩ ρ σ H1:=by
  refine⟨e.len,fun j z hz=>?_,fo⟩
  obtain⟨v,a1,a2⟩:=e.get j z hz
  refine⟨v,a1,?_⟩
  cases z with
  | dat d =>
   have a2':Rep K (hide H f0) d v:=a2
   rw [yP] at a2'
   exact Rep.mono sm0 d v a2'
  | feed=>obtain⟨q,hq,_⟩:=a2;cases hq
  | own k=>obtain⟨q,hq,_⟩:=a2;cases hq
  | exc C =>
   obtain⟨q,h3,h4⟩:=a2
   refine⟨q,h3,sm0 _ _ ?_⟩
   rw [yP] at h4
   exact h4
  | mon φ =>
   intro H' s
   refine a2 H' (Same.trans ?_ s)
   rw [yP]
   exact sm0
 have gg:∀ {H':Hp},Goes ⟨some p,[]⟩ H1 H'->Goes f0 H H':=fun g=>ajV fun b o hb=>zm _ _ b o (g.sm b o (sm0 b o hb))
 refine hr p _ H1 E (e1.set i (x:=.feed) ⟨p,rfl,rfl⟩) (fun ρ' σ' H' g' e' p'=>n _ σ' H' (gg g') (aaO e') p') (fun d v H' g' r' p'=>r d v H' (gg g') ?_ p') (fun ρ' σ' H' g' e' p'=>b _ σ' H' (gg g') (aaO e') p') (fun ρ' σ' H' g' e' p'=>k _ σ' H' (gg g') (aaO e') p')
 rw [yP]
 exact Rep.mono (zm _ _) d v r'
end
section
variable {X:Cx} {K:akq}
noncomputable def ajW (i j:Int):Prop:=0<j/\j<1152921504606846976
theorem qL:OpR X (binaryOp .FloorDiv) (rI ajW fun i j=>.int (i / j)):=opI fun i j _ _ _ _ _ hc q=>by
 obtain⟨h1,h2⟩:=hc
 rw [<-Int.fdiv_eq_ediv_of_nonneg i (Int.le_of_lt h1)] at q
 refine floordiv_int (by omega) q (.inl (PyProof.noPylong_of_log2 ?_))
 have h0:j.natAbs≠0:=by omega
 have:j.natAbs.log2<60:=(Nat.log2_lt h0).mpr (by omega)
 omega
theorem jX (hK:X.K=K):SlR X (ahr K):=hK▸ahs
theorem ad8 (hK:X.K=K):SlR X (aiQ K):=hK▸aiR
theorem agh (hK:X.K=K):OpR X (binaryOp .Add) (afW K):=hK▸aho
end
section
variable {K:akq} {f:Fx} {ρ:zy} {wi:TI} {g:TG} {tt:TT} {own:Nat} {fr:List Nat} {tb:Addr->TB} {P:List PyData->Prop}
theorem acE {α:Type} {A B:α->PyData} (xs:List α) (h:PId K f wi ρ fun ds=>ds=xs.map A/\xs.length<=1000 /\
   (∀ D x ρ' es,x∈xs->OwnE own (frD fr ρ) ρ'->es.length<1000->PGd K (f.with D) g (A x) ρ' fun ρ2=>PTd K (f.with D) tt ρ2 fun b=>if b=true then PBd K f D (tb D) ρ2 es fun ρ3 es3=>OwnE own (frD fr ρ) ρ3/\es3=es++[B x] else False)/\P (xs.map B)) :
  PEdO K f (vg wi own fr g tt tb) ρ P :=
 jQ (h.imp fun ds ⟨ed,hl,hs,hp⟩=>by
  subst ed
  refine⟨fun i ρ' es=>OwnE own (frD fr ρ) ρ'/\es=(xs.take i).map B,⟨⟨al0 own none,by simp,rfl⟩,by simp⟩,fun D i d ρ' es hd ⟨ho,he⟩=>?_,fun ρ' es ⟨_,he⟩=>?_⟩
  ·rw [akz] at hd
   cases eq:xs[i]? with
   | none=>rw [eq] at hd;cases hd
   | some x =>
    rw [eq] at hd
    cases hd
    have hi:i<xs.length:=(aks.mp eq).1
    have hb:es.length<1000:=by
     rw [he,akp,akW]
     omega
    intro σ H v Q e r q
    refine hs D x ρ' es (akC eq) ho hb σ H v Q e r fun ρ2 σ2 H2 g2 e2 p2=>q ρ2 σ2 H2 g2 e2 (p2.imp fun b hb2=>?_)
    cases b with
    | false =>
     rw [if_neg akr] at hb2
     exact hb2.elim
    | true =>
     rw [if_pos rfl] at hb2 ⊢
     intro h1 h2 σ3 H3 H4 W c k
     exact hb2 h1 h2 σ3 H3 H4 W c fun ρ5 es5 σ5 H5 c5 ⟨o5,p5⟩=>k ρ5 es5 σ5 H5 c5 ⟨o5,by rw [p5,he,alF,eq,akQ];rfl⟩
  ·rw [he,akp,al6]
   exact hp)
theorem agi {α:Type} {B:α->PyData} {ok:α->Prop} (n:Nat) (h:PId K f wi ρ fun ds=>ds.length=n/\n<=1000 /\
   (∀ D (i:Nat) d ρ' es,ds[i]?=some d->OwnE own (frD fr ρ) ρ'->es.length<1000->PGd K (f.with D) g d ρ' fun ρ2=>PTd K (f.with D) tt ρ2 fun b=>if b=true then PBd K f D (tb D) ρ2 es fun ρ3 es3=>OwnE own (frD fr ρ) ρ3/\∃ x,ok x/\es3=es++[B x] else False) /\
   ∀ xs:List α,xs.length=n->(∀ x∈xs,ok x)->P (xs.map B)) :
  PEdO K f (vg wi own fr g tt tb) ρ P :=
 jQ (h.imp fun ds ⟨ed,hl,hs,hp⟩=>by
  refine⟨fun i ρ' es=>OwnE own (frD fr ρ) ρ'/\∃ xs:List α,xs.length=i/\(∀ x∈xs,ok x)/\es=xs.map B,⟨⟨al0 own none,by simp,rfl⟩,[],rfl,(fun x hx=>by cases hx),rfl⟩,fun D i d ρ' es hd ⟨ho,xs,hxl,hxo,he⟩=>?_,fun ρ' es ⟨_,xs,hxl,hxo,he⟩=>?_⟩
  ·have hi:i<ds.length:=(aks.mp hd).1
   have hb:es.length<1000:=by
    rw [he,akp]
    omega
   intro σ H v Q e r q
   refine hs D i d ρ' es hd ho hb σ H v Q e r fun ρ2 σ2 H2 g2 e2 p2=>q ρ2 σ2 H2 g2 e2 (p2.imp fun b hb2=>?_)
   cases b with
   | false =>
    rw [if_neg akr] at hb2
    exact hb2.elim
   | true =>
    rw [if_pos rfl] at hb2 ⊢
    intro h1 h2 σ3 H3 H4 W c k
    refine hb2 h1 h2 σ3 H3 H4 W c fun ρ5 es5 σ5 H5 c5 ⟨o5,x,hx,p5⟩=>k ρ5 es5 σ5 H5 c5 ⟨o5,xs++[x],by rw [akD,hxl];rfl,fun y hy=>?_,by rw [p5,he,akQ];rfl⟩
    rcases akF.mp hy with hy | hy
    ·exact hxo y hy
    ·rw [akO.mp hy]
     exact hx
  ·rw [he]
   exact hp xs (by omega) hxo)
end
structure XLie (P:Program) (w:World) (outer:List Env) (H:Hp) (s:Shared) (e:Addr) (C:Value) (H':Hp) (s':Shared):Prop where
 os:s'.os=s.os
 bare:AllBare s'.gens
 un:Un (frs outer) [] H H' s.heap s'.heap
 hok:HOk P w H' s'.heap
 fly:∃ B a0,am3 B outer e C a0 s'.heap/\(∀ b o,s.heap.get? b=some o->b∉frs outer->∃ o',B.get? b=some o')/\∀ b o,H' b=some o->∃ o',B.get? b=some o'
 new:s.heap.get? e=none
 free:H' e=none
noncomputable def CXe (P:Program) (w:World):CXT:=fun outer H s E e s'=>∃ a C H',e=.ref a/\XLie P w outer H s a C H' s'/\E C none H'
section
variable {P:Program} {w:World} {H H':Hp} {h h':Heap}
theorem ObjOk.is {a:Addr} {o:HO} (x:ObjOk P w H h a o):∃ u,h.get? a=some u:=by
 induction o with
 | lst xs=>obtain⟨_,_,_,_,e⟩:=x;exact⟨_,e⟩
 | tup xs=>obtain⟨_,_,_,ob,e,_⟩:=x;exact⟨_,e⟩
 | dK kvs=>obtain⟨_,_,_,_,o,_,_,e,_⟩:=x;exact⟨_,e⟩
 | dT kvs=>obtain⟨_,_,_,_,o,_,_,e,_⟩:=x;exact⟨_,e⟩
 | set S n=>obtain⟨o,_,_,_,e,_⟩:=x;exact⟨_,e⟩
 | ins C dx fs=>obtain⟨_,_,_,e,_⟩:=x;exact⟨_,e⟩
 | own y=>exact x
 | xd fs=>obtain⟨_,⟨o,_,_,e,_⟩,_⟩:=x;exact⟨_,e⟩
 | rng lo hi=>obtain⟨_,_,_,e⟩:=x;exact⟨_,e⟩
 | frz ob u ih=>exact⟨_,x.1⟩
 | tbl ps=>exact⟨_,x⟩
 | met f y=>exact⟨_,x⟩
 | ext φ=>exact x.2.1
theorem HOk.stays (x:HOk P w H h) (k:∀ b o u,H b=some o->h.get? b=some u->h'.get? b=some u):HOk P w H h':=fun a o e =>
 (x a o e).stay (fun b u hb q=>by
  rcases hb with rfl | hb
  ·exact k b o u e q
  ·exact k b _ u hb q) (fun _ q=>q) fun _ _ q=>q
end
section
variable {X:Cx} {pins:List (Addr×Obj)} {σ:St} {H H':Hp} {s s':Shared} {a:Addr} {C:Value} {outer:List Env}
theorem Inv.old_ne (I:Inv X pins σ H s) (hst:X.stack=X.env :: X.outer) (hf:X.env.frame=some X.env.locals) {b:Addr} {o:Obj} (q:X.s₀.heap.get? b=some o) (hb:b∉frs X.outer):b∉frs X.stack:=fun z=>by
 rw [hst] at z
 unfold frs at z
 rw [alO,hf] at z
 rcases akB.mp z with z | z
 ·have h1:b<X.s₀.heap.objs.size:=akw q
  rw [z] at h1
  exact absurd h1 (anu.mpr I.ok.above)
 ·exact hb z
end
end L2
end
section
namespace L2
open PySem PySem.Spec PyProof.Rows
section
variable {X:Cx} {pins:List (Addr×Obj)} {σ:St} {H H' H1 H2:Hp} {s s' s1 s2:Shared} {a:Addr} {C:Value} {i j:Nat}
theorem ai7 {M:Model} {A:Around} {E:Value->Shared->Prop} {x:Str} {v:V} {Q:Unit->Shared->Prop} (I:Inv X pins σ H s) (hN:X.N.Nodup) (hi:X.N[i]?=some x) (hk:X.env.scope.names.lookup x=some .local) (hv:σ[i]?=some (some v))
  (h:∀ s',Inv X pins (σ.set i none) H s'->Q () s'):wpAny M A (unbindName X.env x) Q E s:=by
 obtain⟨m,hn,hl⟩:=id I.loc
 obtain⟨u,r,lk⟩:=hl i x v hi hv (.inl hk)
 have hm:m x=some u:=by
  rcases lk with⟨_,e⟩ | ⟨z,_⟩
  ·exact e
  ·rcases z with z | z
   ·have z':X.env.scope.names.lookup x=some .cell:=z
    rw [hk] at z';cases z'
   ·have z':X.env.scope.names.lookup x=some .free:=z
    rw [hk] at z';cases z'
 have plain:(X.env.scope.kind == .class
   || (X.env.scope.kind == .module
    && X.env.locals != X.env.globals))=false:=by
  rw [I.ok.kind]
  rfl
 have cne:=I.cne
 refine wpAny_unbindName_local hk hn hm plain fun h' w hn' hs=>?_
 have old:∀ {b:Addr} {o:Obj},X.s₀.heap.get? b=some o->b≠X.env.locals:=fun {b o} e=>akN (akG (akw e) I.ok.above)
 refine h _ ⟨I.ok,I.os,I.bare,⟨fun b o e n hb hx=>(hs.2 b (old e)).trans (I.base.keep b o e n hb hx),fun b o e n hb hx=>?_,I.base.free,fun b o e hx=>?_,I.base.tups,I.base.frzs,I.base.tbls⟩,⟨_,hn',fun q y v' e1 e2 e3=>?_⟩,fun y c e=>?_,I.free,I.freeC,fun p hp=>?_,?_,by rw [ald];exact I.len⟩
 ·obtain⟨sl,e1⟩:=I.base.slot b o e n hb hx
  exact⟨sl,(hs.2 b (old e)).trans e1⟩
 ·obtain⟨o',e1⟩:=I.base.there b o e hx
  exact⟨o',(hs.2 b (old e)).trans e1⟩
 ·by_cases hj:q=i
  ·subst hj
   rw [amS] at e2
   rw [if_pos rfl] at e2
   split at e2 <;> cases e2
  ·rw [ak5 (alo hj)] at e2
   obtain⟨u',r',z⟩:=hl q y v' e1 e2 e3
   refine⟨u',r',?_⟩
   rcases z with⟨k,e⟩ | ⟨k,c,e,z⟩
   ·refine .inl ⟨k,?_⟩
    have:y≠x:=fun e=>hj (aay hN e1 (e▸hi))
    show (if y=x then w else m y)=some u'
    rw [if_neg this]
    exact e
   ·exact .inr ⟨k,c,e,z.sameBut hs (cne y c e)⟩
 ·obtain⟨w',z⟩:=I.cell y c e
  exact⟨w',z.sameBut hs (cne y c e)⟩
 ·obtain⟨e,n,ne,nf,d⟩:=I.pin p hp
  exact⟨(hs.2 p.1 ne).trans e,n,ne,nf,d⟩
 ·refine HOk.stays I.hok fun b o u e q=>(hs.2 b ?_).trans q
  rintro rfl
  rw [I.free] at e
  cases e
noncomputable def Cx.marked (X:Cx) (e:Value):Cx:={ X with A:=X.A.mark (some e),calm:=false,xe:=fun _ _=>False }
theorem Cx.Ok.marked (ok:X.Ok) (e:Value):(X.marked e).Ok :=
 ⟨ok.mod,ok.kind,ok.glob,ok.blt,ok.above,ok.inj,ok.has,ok.cab,(fun z=>by cases z),ok.frames,ok.stk,ok.exf,ok.bs,ok.bsz,ok.noex,ok.exfs,ok.funs,ok.frf⟩
theorem Inv.marked (I:Inv X pins σ H s) (e:Value):Inv (X.marked e) pins σ H s:=⟨I.ok.marked e,I.os,I.bare,I.base,I.loc,I.cell,I.free,I.freeC,I.pin,I.hok,I.len⟩
theorem Inv.unmarked {e:Value} (ok:X.Ok) (I:Inv (X.marked e) pins σ H s):Inv X pins σ H s:=⟨ok,I.os,I.bare,I.base,I.loc,I.cell,I.free,I.freeC,I.pin,I.hok,I.len⟩
theorem XLie.move {P:Program} {w:World} {outer:List Env} {B:Heap} {a0:Value} {h'':Heap} (x:XLie P w outer H s a C H' s') (fl:am3 B outer a C a0 s'.heap) (dom:∀ b o,s.heap.get? b=some o->b∉frs outer->∃ o',B.get? b=some o')
  (trk:∀ b o,H' b=some o->∃ o',B.get? b=some o') (st:B.StaysIn h'') (up:s'.heap.UpToSlots h''):Un (frs outer) [] H H' s.heap h''/\HOk P w H' h'':=by
 have eqB:∀ b o o',B.get? b=some o'->s'.heap.get? b=some o->h''.get? b=some o:=fun b o o' hb q=>by
  have:=fl.1 b o' hb
  rw [q] at this
  cases this
  exact st b o hb
 have noF:∀ b o,b∈frs outer->s'.heap.get? b=some o->∀ vs,o.data≠.fields vs:=fun b o hb q=>by
  obtain⟨_,o1,q1,hd⟩:=fl.2.2.1.mem hb
  rw [q] at q1
  cases q1
  exact hd
 refine⟨⟨fun b o q n hb z=>?_,fun b o q n hb z=>?_,x.un.free,fun b o q z=>?_,x.un.tups,x.un.frzs,x.un.tbls⟩,HOk.stays x.hok fun b o u e q=>?_⟩
 ·obtain⟨o',hB⟩:=dom b o q hb
  exact eqB b o o' hB (x.un.keep b o q n hb z)
 ·obtain⟨sl,q1⟩:=x.un.slot b o q n hb z
  obtain⟨sl',q2⟩:=up b _ q1 (noF b _ hb q1)
  exact⟨sl',q2⟩
 ·by_cases hb:b∈frs outer
  ·obtain⟨o1,q1⟩:=x.un.there b o q z
   obtain⟨sl',q2⟩:=up b _ q1 (noF b _ hb q1)
   exact⟨_,q2⟩
  ·obtain⟨o',hB⟩:=dom b o q hb
   exact⟨_,st b o' hB⟩
 ·obtain⟨o',hB⟩:=trk b o e
  exact eqB b u o' hB q
end
noncomputable def abY (D:Ends) (j:Nat):Ends where
 nx:=fun σ H=>D.nx (σ.set j none) H
 rt:=D.rt
 bk:=fun σ H=>D.bk (σ.set j none) H
 ct:=fun σ H=>D.ct (σ.set j none) H
section
variable {X:Cx} {pins:List (Addr×Obj)} {σ:St} {H H1 H2:Hp} {s s1 s2:Shared} {a C0:Addr} {C:Value} {i j:Nat} {n hx:Str} {b0:Stmt} {suite:List Stmt} {hp hpos:Pos} {ts:TS} {D:Ends}
theorem abZ {M:Model} {A:Around} {E:Value->Shared->Prop} {Q:Unit->Shared->Prop} (I:Inv X pins σ H s) (hN:X.N.Nodup) (hj:X.N[j]?=some n) (hn:X.env.scope.names.lookup n=some .local) (h:∀ s',Inv X pins (σ.set j none) H s'->Q () s') :
  wpAny M A (do bindName X.env n .none;unbindBehindTheSuite X.env n hpos) Q E s:=by
 refine wpAny_bind (wpAny_bindName (jT (v:=.non) I hN hj (.inl hn) rfl (fun s' I'=>?_) (.inr hn)))
 unfold unbindBehindTheSuite
 refine wpAny_onRaise (ai7 (v:=.non) I' hN hj hn ?_ fun s'' I''=>?_)
 ·have:j<σ.length:=by rw [I.len];exact (aks.mp hj).1
  rw [ak4 this]
 ·rw [List.set_set] at I''
  exact h s'' I''
end
end L2
end
section
namespace L2
open PySem PySem.Spec PySem.W PyProof.Rows PySem.Calls PySem.Builtin Builtin Builtin.ObjectAttr Builtin.Getset_descriptor
section
variable {prog:Program} {w:World} {A:Around} {E:Value->Shared->Prop} {s:Shared} {K:akq} {a C:Addr}
structure ExcWays (K:akq) (C:Addr):Prop where
 ga:findIn K (.ref C) "__getattribute__"=some (some (.builtin "BaseException.__getattribute__"))
 gt:findIn K (.ref C) "__getattr__"=some none
 cl:findIn K (.ref C) "__class__"=some (some (.builtin "object.__class__"))
 gs:specialIn K (.builtin "object.__class__") "__get__"=some (some (.builtin "getset_descriptor.__get__"))
 tk:takesIn K (.builtin "object.__class__")=some true
 ob:mroIn K C (.type "object")=some true
 be:mroIn K C (.type "BaseException")=some true
 iz:(clsIn K C).isSome=true
noncomputable def aai (a C:Addr) (h:Heap):Prop:=∃ o,h.get? a=some o/\o.cls=.ref C
theorem qM {M:Model} {h:Heap} (x:aai a C h):Looks M h (typeOf (.ref a)) (.ref C):=by
 obtain⟨o,h1,h2⟩:=x
 exact h2▸(Looks.ld h1).andThen .now
theorem aeS {M:Model} {h:Heap} {x:Value} {nm:Str} {d g:Value} (X:K.In h) (h1:findIn K (.ref C) nm=some (some d)) (h2:specialIn K d "__get__"=some (some g)) (h3:takesIn K d=some true):Looks M h (find x (.ref C) nm) (.bind g d):=by
 have L1:=looks_findIn (M:=M) X h1
 have L2:Looks M h (getOf (some d)) (some g):=looks_specialIn X h2
 have L3:Looks M h (dataDescriptor? (some d) (some g)) (some (g,d)):=(looks_takesIn (M:=M) X h3).andThen .now
 exact L1.andThen (L2.andThen (L3.andThen (Looks.tag .now)))
theorem ads {R:Result->Shared->Prop} {tp:Value} (X:K.In s.heap) (I:aai a C s.heap) (hm:mroIn K C (.type "object")=some true) (h:R (.ok (.ret (.ref C))) s) :
  codeAny (model prog w) A (.call (.builtin "getset_descriptor.__get__") ⟨[.builtin "object.__class__",.ref a,tp],[]⟩) R s:=by
 obtain⟨hh,g,dr,t,os⟩:=s
 have L0:=qM (M:=model prog w) I
 have L1:=looks_mroIn (M:=model prog w) X hm
 refine codeAny_call_builtin KF.slot_gs.plain KF.entry_gs (KF.slot_gs.check _ _ _ _ _ _ _ _ KF.type_class (KF.args_gs _ _ _) ?_)
 unfold Builtin.«getset_descriptor.__get__» descrGet
 rw [dga_obj]
 refine wpAny_bind (wpAny_pure ?_)
 unfold descrGetter descrCheckInstance descrNameAndClass isInstance
 simp only [KF.owner_class]
 repeat lk
 refine⟨amL _ (by decide +kernel),codeAny_builtin KF.entry_class ?_⟩
 unfold Builtin.«object.__class__» shownTypeOf
 repeat lk
 exact h
theorem acF {M:Model} {nameV:Value} {Q:Unit->Shared->Prop} (X:K.In s.heap) (I:aai a C s.heap) (Wy:ExcWays K C) (h:Q () s):wpAny M A (checkBuiltinCall "BaseException.__getattribute__" ⟨[.ref a,nameV],[]⟩) Q E s:=by
 obtain⟨hh,g,dr,t,os⟩:=s
 have hk:builtinKind "BaseException.__getattribute__"=some .slot:=by decide +kernel
 have hsp:splitId "BaseException.__getattribute__"=some ("BaseException","__getattribute__"):=by decide +kernel
 have L0:=qM (M:=M) I
 have L1:=looks_mroIn (M:=M) X Wy.be
 have ha:=F.args_bexc_ga (.ref a) nameV
 simp only [checkBuiltinCall,hk,hsp]
 unfold isInstance
 refine wpAny_bind (wpAny_bind (L0.at (L1.at ?_)))
 rw [alK,if_neg akr]
 exact wpAny_of_eq ha h
theorem ahC {Q:Option Value->Shared->Prop} (X:K.In s.heap) (I:aai a C s.heap) (Wy:ExcWays K C) (h:Q (some (.ref C)) { s with toks:=s.toks+1 }):wpAny (model prog w) A (getAttr? (.ref a) "__class__") Q E s:=by
 obtain⟨hh,g,d,t,os⟩:=s
 have L0:=qM (M:=model prog w) I
 have L1:=looks_findIn (M:=model prog w) X Wy.ga
 have L2:=looks_findIn (M:=model prog w) X Wy.gt
 unfold getAttr? getAttrBy? getAttrBy
 refine wpAny_bind (wpAny_mkText (wpAny_bind (wpAny_attempt (wpAny_holding (wpAny_bind (L0.at (wpAny_bind (L1.at ?_))))))))
 dsimp only
 rw [if_neg (by
  have z:(Value.builtin "BaseException.__getattribute__" == Value.builtin "object.__getattribute__")=false:=by decide +kernel
  rw [z,alS]
  exact akr)]
 unfold getAttrByItsOwn hookBefore
 rw [if_pos (show onTheHeap (Value.ref C)=true from rfl)]
 refine wpAny_bind (L2.at (wpAny_bind (wpAny_attempt (wpAny_holding ?_))))
 unfold callGetattribute
 rw [alZ,if_neg akr]
 unfold boundAndCalled
 have f3:=anh.ga.bind (.ref a)
 rw [f3]
 refine wpAny_bind (wpAny_pure ?_)
 dsimp only
 refine wpAny_call (codeAny_call_builtin anh.ga.plain F.entry_bexc_ga (acF (K:=K) (C:=C) X I Wy ?_))
 have LF:=aeS (M:=model prog w) (x:=.ref a) X Wy.cl Wy.gs Wy.tk
 unfold Builtin.«object.__getattribute__»
 refine wpAny_bind (wpAny_of_eq (a:=(Value.ref a,[Value.str (amB "__class__") t])) rfl ?_)
 dsimp only
 refine wpAny_bind (wpAny_of_eq (a:=(amB "__class__")) rfl ?_)
 refine wpAny_bind (L0.at (wpAny_bind (LF.at ?_)))
 dsimp only
 unfold bindTo
 refine wpAny_bind (wpAny_call (ads (K:=K) X I Wy.ob ?_))
 show wpAny _ _ (pure _) _ _ _
 refine wpAny_pure ?_
 dsimp only
 exact handed_on rfl (wpAny_pure h)
theorem agj (Wy:ExcWays K C):KitX K (.ref a) (.ref C) (aai a C) where
 ty:=fun _ _ _ I=>qM I
 it:=fun _ _ X _=>by
  obtain⟨cd,hc⟩:=alw.mp Wy.iz
  unfold clsIn at hc
  split at hc
  ·rename_i lk
   intro A' Q' E' s' k q
   unfold isType loadHead
   exact wpAny_bind (wpAny_loadPart (k _ _ (X _ _ lk)) (wpAny_pure q))
  ·cases hc
 ne:=fun h tp dd its n sl X htp=>by
  obtain⟨cd,hc⟩:=alw.mp Wy.iz
  refine Bool.eq_false_iff.mpr fun q=>?_
  have e:C=tp:=Value.ref.inj (beq_iff_eq.mp q)
  unfold clsIn at hc
  split at hc
  ·rename_i lk
   have z:=X _ _ lk
   rw [e] at z
   rw [htp] at z
   cases z
  ·cases hc
 ca:=fun X I k=>ahC X I Wy k
end
structure FnInX (P:Program) (w:World) (K:akq) (mg:Str->Option Value) (base:Heap) (k:Nat) (x:Str) (ps:List Str) (sp:Sp):Prop where
 ex:∃ (f:Addr) (fd:FuncData),FnOk P w K mg base (CXe P w) k f fd ps sp/\mg x=some (.ref f)/\ak0 K (.ref f)=true/\Binds K fd ps []
end L2
end
section
namespace L2
open PySem PySem.Spec PyProof.Rows
noncomputable def ai8 (K:akq):List V->Hp->VK->Prop:=fun xs H Q=>∃ (a:Addr) (bs:List Bool),xs=[.ref a]/\SqL K H a (bs.map V.bl)/\Q (.bl (bs.all id)) H
noncomputable def ahD (K:akq):List V->Hp->VK->Prop:=fun xs H Q=>∃ (a:Addr) (bs:List Bool),xs=[.ref a]/\SqL K H a (bs.map V.bl)/\Q (.bl (bs.any id)) H
theorem vE:∀ {bs:List Bool} {us:List Value},Vals (bs.map V.bl) us->us=bs.map Value.bool
 | [],us,r=>by
  cases r
  rfl
 | b :: bs,us,r=>by
  cases r with
  | cons h t =>
   rw [vE t]
   cases (show _=Value.bool b from h)
   rfl
theorem range_all (bs:List Bool):(alc bs.length).all (fun i=>bs.getD i false)=bs.all id:=by
 rw [Bool.eq_iff_iff,am0,am0]
 constructor
 ·intro h b hb
  obtain⟨i,hi,rfl⟩:=ani.mp hb
  have:=h i (alD.mpr hi)
  rwa [aky,akt hi] at this
 ·intro h i hi
  have hi':=alD.mp hi
  rw [aky,akt hi']
  exact h _ (ak7 hi')
theorem range_any (bs:List Bool):(alc bs.length).any (fun i=>bs.getD i false)=bs.any id:=by
 rw [Bool.eq_iff_iff,List.any_eq_true,List.any_eq_true]
 constructor
 ·rintro⟨i,hi,h⟩
  have hi':=alD.mp hi
  rw [aky,akt hi'] at h
  exact⟨_,ak7 hi',h⟩
 ·rintro⟨b,hb,h⟩
  obtain⟨i,hi,rfl⟩:=ani.mp hb
  refine⟨i,alD.mpr hi,?_⟩
  rw [aky,akt hi]
  exact h
theorem qN (prog:Program) (w:World) (A:Around) (bs:List Bool):TruthOf prog w A (fun i v=>(bs.map Value.bool).toArray[i]?=some v) (fun i=>bs.getD i false):=by
 intro i v s Q E hv hq
 rw [List.getElem?_toArray,akz] at hv
 cases eb:bs[i]? with
 | none=>rw [eb] at hv;cases hv
 | some b =>
  rw [eb] at hv
  cases hv
  dsimp only at hq
  rw [aky,eb] at hq
  exact wpAny_pure hq
theorem aeT {X:Cx} (hc:X.calm=true):yn X (.builtin "all") (ai8 X.K):=by
 intro pins s σ H xs us Q I r h
 obtain⟨a,bs,rfl,hq,q⟩:=h
 obtain⟨u,rfl,r1⟩:=vals1 r
 cases r1
 obtain⟨its,rv,p,_⟩:=I.list hq
 have hl:=p.isList
 rw [vE rv] at hl
 have ha:a<s.heap.objs.size:=by
  obtain⟨o,ho,_⟩:=hl
  exact akw ho
 refine call_all_walk (wpAny_pyIter_list hl ?_)
 have hne:a≠s.heap.objs.size:=akN ha
 refine⟨s.heap.objs.size,_,_,_,_,_,_,rfl,Walks.list (show (X.A.in1).handled=none from I.ok.hd hc) _ a hne _,⟨?_,?_⟩,qN _ _ _ bs,fun h' tk hk=>?_⟩
 ·exact⟨_,akS _ rfl,rfl,rfl⟩
 ·exact hl.at fun o e=>aku _ e
 ·have kp:∀ b o,s.heap.get? b=some o->h'.get? b=some o:=fun b o e=>hk b o (by
   intro z
   have:=akw e
   rw [akO.mp z] at this
   exact alv _ this) (aku _ e)
  refine⟨.bl _,H,I.kept (t':=tk) kp,?_,q⟩
  show Value.bool _=Value.bool _
  rw [akx,akp,range_all]
theorem aeU {X:Cx} (hc:X.calm=true):yn X (.builtin "any") (ahD X.K):=by
 intro pins s σ H xs us Q I r h
 obtain⟨a,bs,rfl,hq,q⟩:=h
 obtain⟨u,rfl,r1⟩:=vals1 r
 cases r1
 obtain⟨its,rv,p,_⟩:=I.list hq
 have hl:=p.isList
 rw [vE rv] at hl
 have ha:a<s.heap.objs.size:=by
  obtain⟨o,ho,_⟩:=hl
  exact akw ho
 refine call_any_walk (wpAny_pyIter_list hl ?_)
 have hne:a≠s.heap.objs.size:=akN ha
 refine⟨s.heap.objs.size,_,_,_,_,_,_,rfl,Walks.list (show (X.A.in1).handled=none from I.ok.hd hc) _ a hne _,⟨?_,?_⟩,qN _ _ _ bs,fun h' tk hk=>?_⟩
 ·exact⟨_,akS _ rfl,rfl,rfl⟩
 ·exact hl.at fun o e=>aku _ e
 ·have kp:∀ b o,s.heap.get? b=some o->h'.get? b=some o:=fun b o e=>hk b o (by
   intro z
   have:=akw e
   rw [akO.mp z] at this
   exact alv _ this) (aku _ e)
  refine⟨.bl _,H,I.kept (t':=tk) kp,?_,q⟩
  show Value.bool _=Value.bool _
  rw [akx,akp,range_any]
theorem aeV {X:Cx} {K:akq} (hK:X.K=K) (hc:X.calm=true):yn X (.builtin "all") (ai8 K):=hK▸aeT hc
theorem aeW {X:Cx} {K:akq} (hK:X.K=K) (hc:X.calm=true):yn X (.builtin "any") (ahD K):=hK▸aeU hc
section
variable {K:akq} {f:Fx} {ρ:zy} {P:PyData->Prop} {te:TE}
theorem qh {H:Hp}:∀ {bs:List Bool} {xs:List V},Reps K H (bs.map .bool) xs->xs=bs.map V.bl
 | [],xs,r=>reps_nil.mp r
 | b :: bs,xs,r=>by
  obtain⟨x,r',rfl,h1,h2⟩:=reps_cons.mp r
  rw [qh h2,rep_bool.mp h1]
  rfl
theorem ail (h:PEd K f te ρ fun x=>∃ bs:List Bool,x=.list (bs.map .bool)/\P (.bool (bs.all id))):PEd K f (tCB (ai8 K) (zG te yR)) ρ P:=fun σ H Q e q=>h σ H _ e fun x v H1 g1 r1 ⟨bs,ex,p⟩=>by
 subst ex
 obtain⟨a,xs,rfl,h1,h2⟩:=rep_list.mp r1
 rw [qh h2] at h1
 exact⟨a,bs,rfl,(zm _ _).seq h1,q _ _ H1 g1 (rep_bool.mpr rfl) p⟩
theorem ajX (h:PEd K f te ρ fun x=>∃ bs:List Bool,x=.list (bs.map .bool)/\P (.bool (bs.any id))):PEd K f (tCB (ahD K) (zG te yR)) ρ P:=fun σ H Q e q=>h σ H _ e fun x v H1 g1 r1 ⟨bs,ex,p⟩=>by
 subst ex
 obtain⟨a,xs,rfl,h1,h2⟩:=rep_list.mp r1
 rw [qh h2] at h1
 exact⟨a,bs,rfl,(zm _ _).seq h1,q _ _ H1 g1 (rep_bool.mpr rfl) p⟩
end
open Classical in
noncomputable def eqR (h:Heap) (d:PyData) (u:Value):Bool:=if z:∃ e as,Reads h u e as/\e.canLay0=true then ak3 z.choose d else false
theorem adt {h:Heap} {d e:PyData} {u:Value} {as:List Addr} (r:Reads h u e as) (c:e.canLay0=true):eqR h d u=ak3 e d:=by
 have z:∃ e as,Reads h u e as/\e.canLay0=true:=⟨e,as,r,c⟩
 unfold eqR
 rw [dif_pos z]
 obtain⟨as',r',c'⟩:=z.choose_spec
 rw [SeqAt.Reads.unique _ _ _ _ _ c' r' r]
section
variable {X:Cx} {pins:List (Addr×Obj)} {σ:St} {H:Hp} {s:Shared}
theorem ad9 (I:Inv X pins σ H s) {d:PyData}:∀ {ds:List PyData} {xs:List V} {us:List Value},Reps X.K H ds xs->Vals xs us->(∀ e∈ds,e.canLay0=true)->us.any (eqR s.heap d)=ds.any (fun e=>ak3 e d)
 | [],xs,us,r,v,_=>by
  rw [reps_nil.mp r] at v
  cases v
  rfl
 | e :: ds,xs,us,r,v,c=>by
  obtain⟨x,xs',rfl,h1,h2⟩:=reps_cons.mp r
  cases v with
  | cons r1 r2 =>
   obtain⟨as,ra⟩:=yE I e x _ h1 r1
   rw [amV,amV,adt ra (c e akE),ad9 I h2 r2 fun e he=>c e (akv _ he)]
theorem aaP (I:Inv X pins σ H s) {A:Around} {d:PyData} {v:Value} {bs:List Addr} (rb:Reads s.heap v d bs) (cd:d.canLay0=true) (dd:d.depth<=50) (hu:A.units+60<cLine):∀ {ds:List PyData} {xs:List V} {us:List Value},Reps X.K H ds xs->Vals xs us->(∀ e∈ds,e.canLay0=true)->∀ u∈us,SeqAt.EqAt A s u v (eqR s.heap d u)
 | [],xs,us,r,w,_=>by
  rw [reps_nil.mp r] at w
  cases w
  intro u hu
  cases hu
 | e :: ds,xs,us,r,w,c=>by
  obtain⟨x,xs',rfl,h1,h2⟩:=reps_cons.mp r
  cases w with
  | cons r1 r2 =>
   intro u hm
   rcases akB.mp hm with rfl | hm
   ·obtain⟨as,ra⟩:=yE I e x _ h1 r1
    rw [adt ra (c e akE)]
    refine SeqAt.eqAt_reads e d A s _ v as bs ra rb (c e akE) cd ?_
    have:=amZ e.depth d.depth
    omega
   ·exact aaP I rb cd dd hu h2 r2 (fun e he=>c e (akv _ he)) u hm
theorem aeX {K:akq} (hK:X.K=K):OpR X (compareOp .NotIn) (rIn K true):=hK▸abP
end
section
variable {K:akq} {f:Fx} {ρ:zy} {P:PyData->Prop} {te ta tb:TE} {t:TA} {D:DEnds} {i j:Nat}
theorem agk (h:PEd K f ta ρ fun d=>∃ n:Int,d=.int n/\PEd K f tb ρ fun y=>∃ ns:List Int,y=.tuple (ns.map .int)/\P (.bool (!ns.contains n))):PEd K f (tOp (rIn K true) ta tb) ρ P:=fun σ H Q e q =>
 h σ H _ e fun d v H1 g1 r1 ⟨n,ed,p1⟩=>p1 σ H1 _ (e.mono g1) fun y w H2 g2 r2 ⟨ns,ey,p2⟩=>by
  subst ed ey
  obtain⟨a,xs,rfl,h1,h2⟩:=rep_tuple.mp r2
  have ex:=h2.ints
  subst ex
  rw [rep_int.mp r1]
  have e1:inV (.int n) (ns.map V.int)=ns.contains n:=by
   unfold inV
   rw [List.any_map,List.contains_eq_any_beq]
   congr 1
   funext m
   show (m == n)=(n == m)
   exact BEq.comm
  refine⟨a,_,rfl,.inr ((zm _ _).seqT h1),rfl,?_,?_⟩
  ·rw [List.all_map]
   exact am0.mpr fun _ _=>rfl
  ·rw [if_pos rfl,e1]
   exact q _ _ H2 (g1.trans g2) (rep_bool.mpr rfl) p2
theorem ajY (h:PAd K f t ρ fun xs=>∃ d d',xs=[.dat d,.dat d']/\D.nx ((ρ.set i (some (.dat d))).set j (some (.dat d')))):PSd K f (ajI i j t) ρ D:=fun σ H E e n r b c =>
 h σ H _ e fun xs vs H1 g1 r1 ⟨d,d',ex,p⟩=>by
  subst ex
  cases r1 with
  | cons ra rs =>
   cases rs with
   | cons rb rs =>
    cases rs
    exact⟨_,_,rfl,n _ _ H1 g1 (((e.mono g1).set i (x:=.dat d) ra).set j (x:=.dat d') rb) p⟩
end
end L2
end
section
namespace L2
open PySem PySem.Spec PyProof.Rows
section
variable {K:akq} {f:Fx} {ρ:zy} {E:XK} {te:TE} {ts tu:TS} {tt:TT} {t:TA} {P:PyData->Prop} {D:DEnds}
theorem aim (h:PEd K f te ρ fun x=>∃ i,x=.int i/\P (.int (-i))):PEd K f (tUn (rU fun i=>.int (-i)) te) ρ P :=
 akd (h.imp fun x ⟨i,ex,p⟩ v H Q fo r q=>by
  subst ex
  exact⟨i,rep_int.mp r,q _ _ H (.refl fo) (rep_int.mpr rfl) p⟩)
end
end L2
end
section
namespace L2
open PySem PySem.Spec PyProof.Rows
noncomputable def CMulB (i j:Int):Prop:=(-1267650600228229401496703205376<i/\i<1267650600228229401496703205376)/\(-1267650600228229401496703205376<j/\j<1267650600228229401496703205376)
theorem aaj {k:Int} (h1:-1267650600228229401496703205376<k) (h2:k<1267650600228229401496703205376):ama k<=100:=by
 unfold ama
 split
 ·exact alp _
 ·have hn:k.natAbs<2 ^ 100:=by
   have:(2:Nat) ^ 100=1267650600228229401496703205376:=by decide +kernel
   omega
  have:k.natAbs.log2<100:=by
   rcases Nat.eq_zero_or_pos k.natAbs with h0 | hp
   ·rw [h0];decide
   ·exact (Nat.log2_lt (al5 hp)).mpr hn
  omega
theorem CMulB.ok {i j:Int} (h:CMulB i j):IntMulOk i j:=by
 obtain⟨⟨a,b⟩,c,d⟩:=h
 have e1:=aaj a b
 have e2:=aaj c d
 have:am8 ((ama i:Int)+(ama j:Int))=false:=by
  unfold am8
  refine decide_eq_false ?_
  have:(1000:Int)<=(bitsLine:Int):=by decide +kernel
  omega
 unfold IntMulOk
 rw [this,alS]
 exact akr
theorem aea {X:Cx}:OpR X (binaryOp .Mult) (rI CMulB fun i j=>.int (i * j)):=opI fun _ _ _ _ _ _ _ hc q=>mul_int q hc.ok
section
variable {P:Program} {w:World} {A:Around} {X:Value->Shared->Prop} {s:Shared} {it l:Addr} {xs:Array Value}
theorem adu {A:Around} {Q:Bool->Shared->Prop} (ty:s.TypeIs (.ref it) "list_reverseiterator") (q:Q false s):wpAny (model P w) A (amE (.ref it)) Q X s:=by
 have no:typeLookup (.type "list_reverseiterator") "__len__"=pure none:=by rw [typeLookup_type,builtinLookup_eq_fast];kernel_rfl
 have yes:typeLookup (.type "list_reverseiterator") "__length_hint__"=pure (some (.builtin "list_reverseiterator.__length_hint__")):=by rw [typeLookup_type,builtinLookup_eq_fast];kernel_rfl
 unfold amE
 apply wpAny_bind;apply wpAny_specialOf ty no
 show wpAny _ A (specialOf _ (amB "__length_hint__") >>= _) _ _ _
 apply wpAny_bind;apply wpAny_specialOf ty yes
 generalize e:("list_reverseiterator.__length_hint__":String)=id0
 wp_delta
 have sp:splitId id0=some ("list_reverseiterator","__length_hint__"):=by rw [<-e];decide +kernel
 rw [sp]
 subst e
 apply wpAny_bind
 apply wpAny_isInstance (T:="list_reverseiterator") (b:=true) ty (by rw [isSubtype_type];kernel_rfl)
 repeat' (refine wpAny_ite_split (fun z=>?_) (fun z=>?_))
 all_goals first
  | exact wpAny_pure q
  | exact absurd z (by decide)
  | exact absurd z (by decide +kernel)
  | exact absurd (by decide +kernel) z
theorem abc {Q:Value->Shared->Prop} (hh:A.handled=none) (ne:l≠it) (hit:s.heap.IsRevIter it l ((xs.size:Int) - 1)) (hl:s.heap.IsList l xs) (small:xs.size<=sizeLine)
  (q:∀ h' tk ys c,(∀ b o,b≠it->s.heap.get? b=some o->h'.get? b=some o)->h'.get? s.heap.objs.size=some { cls:=.type "list",dict:=none,data:=.seq ys c,slots:=#[] } ->
   ItemsOf (fun i v=>xs[xs.size - 1 - i]?=some v) ys xs.size->Q (.ref s.heap.objs.size) { s with heap:=h',toks:=tk }) :
  wpAny (model P w) A (call (.type "list") [.ref it]) Q X s:=by
 let D:=s.heap.objs.size
 have below:∀ b o,s.heap.get? b=some o->b≠D:=fun b o e z=>alv D (by have:=akw e;rwa [z] at this)
 have nit:it≠D:=let⟨o,e,_⟩:=hit;below it o e
 have nl:l≠D:=let⟨o,e,_⟩:=hl;below l o e
 let h1:Heap:=s.heap.push { cls:=.type "list",data:=.seq #[] }
 have at1:h1.get? D=some { cls:=.type "list",data:=.seq #[] }:=akS _ rfl
 let h2:Heap:=h1.update D (ams fun _=>#[])
 have at2:=alr (ams fun _=>(#[]:Array Value)) at1 rfl
 have stay:∀ b o,s.heap.get? b=some o->h2.get? b=some o:=fun b o e =>
  (akU _ _ (alo (below b o e))).trans (aku _ e)
 have ty:({ s with heap:=h2 }:Shared).TypeIs (.ref it) "list_reverseiterator":=(hit.at fun o e=>stay it o e).typeIs
 have walk:=(Walks.listRev (prog:=P) (w:=w) (A:=A.in1.in1) hh it l ne xs).toS
 refine callType_codes (Q₁:=fun v t=>v=.ref D/\t={ s with heap:=h1 }) F.called_list (F.typeCall_list_1 _) F.entry_list_init (code_list_new _ ⟨rfl,rfl⟩) ?_
 rintro _ _ ⟨rfl,rfl⟩
 refine⟨⟨_,at1,rfl⟩,F.args_list_init_2 _ _,?_⟩
 show wpAny _ A.in1.in1 (am4 (.ref D) >>= fun old=>Builtin.List.listUpdate (.ref D) (fun _=>#[]) >>= fun _=>letGo old.toList.reverse >>= fun _=>alX (.ref D) (.ref it) .none) _ _ _
 unfold am4
 apply wpAny_bind;apply wpAny_bind
 apply wpAny_seqItems at1 rfl;apply wpAny_pure
 show wpAny _ A.in1.in1 (updateSeq D (fun _=>#[]) >>= fun _=>letGo [] >>= fun _=>alX (.ref D) (.ref it) .none) _ _ _
 apply wpAny_bind;apply wpAny_updateSeq at1 rfl
 apply wpAny_bind;apply wpAny_letGo
 unfold alX
 apply wpAny_bind;apply wpAny_typeOf ty
 have other:amW (.ref D) (.ref it)=false:=by simp [amW,alo nit]
 rw [other]
 have k2:(Value.type "list_reverseiterator" == Value.type "list" || Value.type "list_reverseiterator" == Value.type "tuple")=false:=by decide
 simp only [k2,Bool.false_or,Bool.false_eq_true,if_false]
 have start:(0:Nat)<=xs.size/\h2.IsRevIter it l ((xs.size:Int) - 1 - ((0:Nat):Int))/\h2.IsList l xs:=by
  refine⟨alp _,?_,hl.at fun o e=>stay l o e⟩
  rw [Int.natCast_zero,Int.sub_zero]
  exact hit.at fun o e=>stay it o e
 apply wpAny_bind;apply walk.self 0 _ _ _ start
 apply wpAny_bind;apply wpAny_holding;apply adu ty
 refine wpAny_ite_split (fun z=>absurd z (by decide +kernel)) fun _=>wpAny_pure ⟨plainId_quiet F.plain_extend_loop _,?_⟩
 refine codeAny_extend_loopS walk small D (by simp [alo nit,alo nl]) _ _ 0 _ _ _ rfl (alp _) start at2 (ItemsOf.nil _) fun s' ys c mv at' its=>?_
 have go:∀ b o,b≠it->s.heap.get? b=some o->s'.heap.get? b=some o:=fun b o nb e =>
  mv.heap b o (by simp [nb];exact below b o e) (stay b o e)
 rw [Moved.eq_with mv]
 exact⟨rfl,q s'.heap s'.toks ys c go at' its⟩
end
theorem aeY {its:List Value} {acc:Array Value} (h:ItemsOf (fun i v=>its.toArray[its.toArray.size - 1 - i]?=some v) acc its.toArray.size):acc.toList=its.reverse:=by
 obtain⟨h1,h2⟩:=h
 have h1':acc.toList.length=its.length:=by simpa using h1
 refine List.ext_getElem? fun j=>?_
 by_cases hj:j<its.length
 ·have hj':j<acc.size:=by rw [h1];simpa using hj
  have:=h2 j acc[j] (amN hj')
  rw [List.getElem?_reverse hj,Array.getElem?_toList,amN hj',<- this]
  simp
 ·rw [ali (by omega),ali (by rw [amz];omega)]
noncomputable def ain (K:akq) (te:TE):TE:=fun σ H Q=>zG te yR σ H fun vs H1=>∃ a ys,vs=[.ref a]/\SqL K H1 a ys/\∀ l,H1 l=none->Q (.ref l) (upd H1 l (.lst ys.reverse))
section
variable {X:Cx} {x y:Str} {p p2 pos pos2:Pos} {e:Expr} {te:TE}
theorem adv {K:akq} (hK:X.K=K) (hc:X.calm=true) (hg:Gl X x) (hm:X.mg x=none) (hv:bootBuiltins x=some (.type "list")) (hg2:Gl X y) (hm2:X.mg y=none) (hv2:bootBuiltins y=some (.type "reversed")) (ha:PE X e te)
  (hs:starEach [e] X.env=(false,eval e X.env) :: starEach [] X.env:=by rfl)
  (hn:x ≠ "__name__":=by decide) (hdb:(x == ("__debug__":Str))=false:=by decide) (hn2:y ≠ "__name__":=by decide) (hdb2:(y == ("__debug__":Str))=false:=by decide)
  (he:starEach [.Call (.Name y p2) [e] [] pos2] X.env=(false,eval (.Call (.Name y p2) [e] [] pos2) X.env) :: starEach [] X.env:=by rfl) :
  PE X (.Call (.Name x p) [.Call (.Name y p2) [e] [] pos2] [] pos) (ain K te):=by
 subst hK
 intro pins s σ H Q I h
 refine wpAny_Call_Name_kw (jx I hg hm hv ?_ hn hdb)
 refine akT ?_ he rfl
 rw [he]
 show wpAny _ _ (spliced ((false,eval (.Call (.Name y p2) [e] [] pos2) X.env) :: backTo pos (starEach [] X.env))) _ _ s
 refine amI ?_
 refine wpAny_Call_Name_kw (jx I hg2 hm2 hv2 ?_ hn2 hdb2)
 refine akT (thn (za ha zc hs pos2 pins s σ H _ I h) fun us s1 ⟨vs,H1,I1,r1,q1⟩=>?_) hs rfl
 obtain⟨a,ys,rfl,hq,q⟩:=q1
 obtain⟨u,rfl,rx⟩:=vals1 r1
 cases rx
 obtain⟨its,rv,pl,hz⟩:=I1.list hq
 have hl:=pl.isList
 have lt:a<s1.heap.objs.size:=by
  obtain⟨o,ho,_⟩:=hl
  exact akw ho
 refine call_reversed_list hl ?_
 refine amQ ?_
 refine abc (show (X.A).handled=none from I1.ok.hd hc) (xs:=its.toArray) (akN lt) ⟨_,akS _ rfl,rfl,rfl⟩ (hl.at fun o e=>aku _ e) (by rw [akx,<- rv.length];exact hz) fun h' tk acc' c' hk hS' hacc=>?_
 have kp:∀ b o,s1.heap.get? b=some o->h'.get? b=some o:=fun b o e=>hk b o (fun z=>by
  have:=akw e
  rw [z] at this
  exact alv _ this) (aku _ e)
 have sz:(s1.heap.push (revObj a ((its.toArray.size:Int) - 1))).objs.size=s1.heap.objs.size+1:=by simp [Heap.push]
 have ea:=aeY hacc
 refine⟨.ref _,_,I1.laid (a:=(s1.heap.push (revObj a ((its.toArray.size:Int) - 1))).objs.size) (t':=tk) kp (by rw [sz];exact al3 _) (o:=.lst ys.reverse) ?_,rfl,q _ (I1.hok.fresh (by rw [sz];exact al3 _))⟩
 refine⟨by rw [amz];exact hz,its.reverse,c',rv.reverse,?_⟩
 rw [<-ea]
 exact hS'
end
section
variable {K:akq} {f:Fx} {ρ:zy} {P:PyData->Prop} {te:TE}
theorem agl {H:Hp} {ds:List PyData} {xs:List V} (r:Reps K H ds xs):Reps K H ds.reverse xs.reverse:=by
 induction ds generalizing xs with
 | nil =>
  rw [reps_nil.mp r]
  exact reps_nil.mpr rfl
 | cons d ds ih =>
  obtain⟨x,r',rfl,h1,h2⟩:=reps_cons.mp r
  rw [alg,alg]
  exact (ih h2).append (reps_cons.mpr ⟨x,[],rfl,h1,reps_nil.mpr rfl⟩)
theorem aeZ (h:PEd K f te ρ fun x=>∃ ds,x=.list ds/\P (.list ds.reverse)):PEd K f (ain K te) ρ P:=fun σ H Q e q=>h σ H _ e fun x v H1 g1 r1 ⟨ds,ex,p⟩=>by
 subst ex
 obtain⟨a,xs,rfl,h1,h2⟩:=rep_list.mp r1
 refine⟨a,xs,rfl,(zm _ _).seq h1,fun l hn=>?_⟩
 have sm:=zW hn (.lst xs.reverse)
 have g2:Goes f H1 (upd H1 l (.lst xs.reverse)):=.of_same sm g1.2
 exact q (.list ds.reverse) _ _ (g1.trans g2) (rep_list.mpr ⟨l,xs.reverse,rfl,.of (zC (fresh_ne g1.2 hn) zx),Reps.mono g2.1 _ _ (agl h2)⟩) p
end
noncomputable def ai9 (K:akq):List V->Hp->VK->Prop:=fun xs H Q=>∃ (a:Addr) (ns:List Int),xs=[.ref a]/\SqL K H a (ns.map V.int)/\Q (.int ns.sum) H
theorem ae0 {X:Cx} (hc:X.calm=true):yn X (.builtin "sum") (ai9 X.K):=by
 intro pins s σ H xs us Q I r h
 obtain⟨a,ns,rfl,hq,q⟩:=h
 obtain⟨u,rfl,r1⟩:=vals1 r
 cases r1
 obtain⟨its,rv,p,_⟩:=I.list hq
 have hl:=p.isList
 have hi:IntsAre its ns:=intsAre_of rv
 obtain⟨zs,ez⟩:=hi.allInts.items
 rw [ez] at hl
 refine sum_intListG (show (X.A).handled=none from I.ok.hd hc) hl fun h' tk t' kp=>⟨.int _,H,I.kept (t':=tk) kp,⟨_,rfl⟩,?_⟩
 have e:preSum (numAt zs) zs.size=ns.sum:=by
  rw [<-hi.numsOf,show its=its.toArray.toList from rfl,ez,nums_intItems,preSum_eq,alB (by simp)]
 rw [e]
 exact q
theorem aaQ {X:Cx} {K:akq} (hK:X.K=K) (hc:X.calm=true):yn X (.builtin "sum") (ai9 K):=hK▸ae0 hc
section
variable {K:akq} {f:Fx} {ρ:zy} {P:PyData->Prop} {te:TE}
theorem aio (h:PEd K f te ρ fun x=>∃ ns:List Int,x=.list (ns.map .int)/\P (.int ns.sum)):PEd K f (tCB (ai9 K) (zG te yR)) ρ P:=fun σ H Q e q=>h σ H _ e fun x v H1 g1 r1 ⟨ns,ex,p⟩=>by
 subst ex
 obtain⟨a,xs,rfl,h1,h2⟩:=rep_list.mp r1
 rw [h2.ints] at h1
 exact⟨a,ns,rfl,(zm _ _).seq h1,q _ _ H1 g1 (rep_int.mpr rfl) p⟩
end
section
variable {prog:Program} {w:World} {A:Around} {E:Value->Shared->Prop} {s:Shared}
theorem ahE {t b:Addr} {vs ws:List Value} {Q:Value->Shared->Prop} (ht:PlainL s.heap t vs.toArray) (hb:PlainL s.heap b ws.toArray)
  (h2:Q (.ref s.heap.objs.size) { s with heap:=s.heap.push { cls:=.type "list",data:=.seq (vs++ws).toArray } })
  (hsz:vs.length+ws.length<=sizeLine):wpAny (model prog w) A (binaryOp .Add (.ref t) (.ref b)) Q E s:=by
 obtain⟨⟨cls,dd,data,sl⟩,n,ho,hc,_,hd⟩:=ht
 obtain⟨⟨cls2,dd2,data2,sl2⟩,n2,ho2,hc2,_,hd2⟩:=hb
 simp only at hc hd hc2 hd2
 subst hc hd hc2 hd2
 have e:vs.toArray++ws.toArray=(vs++ws).toArray:=by simp
 refine concat_meets ⟨_,ho,rfl⟩ ⟨_,ho2,rfl⟩ noFill_list_add seq_list_add PySem.F.slot_list_add PySem.F.entry_list_add (PySem.F.args_list_add_2 _ _) (list_addW t b vs.toArray ws.toArray n n2 dd dd2 sl sl2 (by rw [akx,akx];exact hsz)) ⟨ho,ho2,?_⟩
 rw [e]
 exact h2
theorem agm {t b:Addr} {vs ws:List Value} {Q:Value->Shared->Prop} (ht:IsTup s.heap t vs.toArray) (hb:IsTup s.heap b ws.toArray) (h0:vs=[]->Q (.ref b) s)
  (h1:ws=[]->Q (.ref t) s) (h2:vs≠[]->ws≠[]->Q (.ref s.heap.objs.size) { s with heap:=s.heap.push { cls:=.type "tuple",data:=.seq (vs++ws).toArray } })
  (hsz:vs.length+ws.length<=sizeLine):wpAny (model prog w) A (binaryOp .Add (.ref t) (.ref b)) Q E s:=by
 by_cases hv:vs=[]
 ·obtain⟨⟨cls,dd,data,sl⟩,ho,hc,n,hd⟩:=id ht
  obtain⟨⟨cls2,dd2,data2,sl2⟩,ho2,hc2,n2,hd2⟩:=id hb
  simp only at hc hd hc2 hd2
  subst hc hd hc2 hd2
  exact concat_meets ⟨_,ho,rfl⟩ ⟨_,ho2,rfl⟩ noFill_tuple_add seq_tuple_add amh amf (amb _ _)
   (tuple_addW0 t b vs.toArray ws.toArray n n2 dd dd2 sl sl2 (by simp [hv])) ⟨ho,ho2,h0 hv⟩
 ·exact HT.cat_tup ht hb hv h1 (h2 hv) hsz
end
noncomputable def agn (K:akq):R2:=fun x y H Q=>∃ l b xs zs,x=.ref l/\y=.ref b/\SqL K H l xs/\SqL K H b zs/\xs.length+zs.length<=sizeLine/\∀ p,H p=none->Q (.ref p) (upd H p (.lst (xs++zs)))
noncomputable def ago (K:akq):R2:=fun x y H Q=>∃ a b xs ys,x=.ref a/\y=.ref b/\SqT K H a xs/\SqT K H b ys/\xs.length+ys.length<=sizeLine/\(xs=[]->Q (.ref b) H)/\(ys=[]->Q (.ref a) H)/\(xs≠[]->ys≠[]->∀ p,H p=none->Q (.ref p) (upd H p (.tup (xs++ys))))
section
variable {X:Cx}
theorem ahF:OpR X (binaryOp .Add) (agn X.K):=by
 intro pins s σ H x y v u Q I rx ry h
 obtain⟨l,b,xs,zs,rfl,rfl,ha,hb,hz,q⟩:=h
 cases rx
 cases ry
 obtain⟨its,r1,p1,_⟩:=I.list ha
 obtain⟨its2,r2,p2,_⟩:=I.list hb
 refine ahE p1 p2 ?_ (by rw [<-r1.length,<- r2.length];exact hz)
 exact⟨.ref _,_,I.lnew (t':=s.toks) (r1.append r2) (by rw [akD];omega),rfl,q _ I.fresh⟩
theorem ahG:OpR X (binaryOp .Add) (ago X.K):=by
 intro pins s σ H x y v u Q I rx ry h
 obtain⟨a,b,xs,ys,rfl,rfl,ha,hb,hz,q0,q1,q2⟩:=h
 cases rx
 cases ry
 obtain⟨its,r1,p1,_⟩:=I.tuple ha
 obtain⟨its2,r2,p2,_⟩:=I.tuple hb
 refine agm p1 p2 (fun z=>⟨.ref b,H,I,rfl,q0 (r1.nil_iff.mp z)⟩) (fun z=>⟨.ref a,H,I,rfl,q1 (r2.nil_iff.mp z)⟩) (fun z z2=>?_) (by rw [<-r1.length,<- r2.length];exact hz)
 refine⟨.ref s.heap.objs.size,_,I.laid (t':=s.toks) (o:=.tup (xs++ys)) (fun b ob q=>aku _ q) (akA _) ?_,rfl,q2 (fun w=>z (r1.nil_iff.mpr w)) (fun w=>z2 (r2.nil_iff.mpr w)) _ (I.hok.fresh (akA _))⟩
 exact⟨by rw [akD];exact hz,_,r1.append r2,anm _ _⟩
theorem yS {K:akq} (hK:X.K=K):OpR X (binaryOp .Add) (agn K):=hK▸ahF
theorem acG {K:akq} (hK:X.K=K):OpR X (binaryOp .Add) (ago K):=hK▸ahG
end
section
variable {K:akq} {f:Fx} {ρ:zy} {P:PyData->Prop} {te ta tb:TE} {t:TA}
theorem qi (h:PEd K f ta ρ fun x=>∃ ds,x=.list ds/\PEd K f tb ρ fun y=>∃ es,y=.list es/\ds.length+es.length<=1000/\P (.list (ds++es))):PEd K f (tOp (agn K) ta tb) ρ P:=fun σ H Q e q =>
 h σ H _ e fun x v H1 g1 r1 ⟨ds,ex,p1⟩=>p1 σ H1 _ (e.mono g1) fun y w H2 g2 r2 ⟨es,ey,hl,p2⟩=>by
  subst ex ey
  obtain⟨a,xs,rfl,h1,h2⟩:=rep_list.mp (Rep.mono g2.sm _ _ r1)
  obtain⟨b,ys,rfl,h3,h4⟩:=rep_list.mp r2
  have l1:=h2.length
  have l2:=h4.length
  refine⟨a,b,xs,ys,rfl,rfl,(zm _ _).seq h1,(zm _ _).seq h3,by rw [l1,l2];exact ale (z9 hl),fun p hn=>?_⟩
  have g3:Goes f H2 (upd H2 p (.lst (xs++ys))):=.of_same (zW hn _) g2.ok
  exact q (.list (ds++es)) _ _ (g1.trans (g2.trans g3)) (rep_list.mpr ⟨p,_,rfl,.of (zC (fresh_ne g2.ok hn) zx),Reps.mono g3.sm _ _ (h2.append h4)⟩) p2
theorem agp (h:PEd K f ta ρ fun x=>∃ ds,x=.tuple ds/\PEd K f tb ρ fun y=>∃ es,y=.tuple es/\ds.length+es.length<=1000/\P (.tuple (ds++es))):PEd K f (tOp (ago K) ta tb) ρ P:=fun σ H Q e q =>
 h σ H _ e fun x v H1 g1 r1 ⟨ds,ex,p1⟩=>p1 σ H1 _ (e.mono g1) fun y w H2 g2 r2 ⟨es,ey,hl,p2⟩=>by
  subst ex ey
  have r1':=Rep.mono g2.sm _ _ r1
  obtain⟨a,xs,rfl,h1,h2⟩:=rep_tuple.mp r1'
  obtain⟨b,ys,rfl,h3,h4⟩:=rep_tuple.mp r2
  have l1:=h2.length
  have l2:=h4.length
  refine⟨a,b,xs,ys,rfl,rfl,(zm _ _).seqT h1,(zm _ _).seqT h3,by rw [l1,l2];exact ale (z9 hl),fun z=>?_,fun z=>?_,fun z z2 p hn=>?_⟩
  ·have:ds=[]:=alx (by rw [<-l1,z];rfl)
   subst this
   exact q _ _ _ (g1.trans g2) r2 p2
  ·have:es=[]:=alx (by rw [<-l2,z];rfl)
   subst this
   rw [akY] at p2
   exact q _ _ _ (g1.trans g2) r1' p2
  ·have g3:Goes f H2 (upd H2 p (.tup (xs++ys))):=.of_same (zW hn _) g2.ok
   exact q (.tuple (ds++es)) _ _ (g1.trans (g2.trans g3)) (rep_tuple.mpr ⟨p,_,rfl,.of (zC (fresh_ne g2.ok hn) zx),Reps.mono g3.sm _ _ (h2.append h4)⟩) p2
theorem ajZ {R:List PyData->Prop} (h:PAd K f t ρ fun xs=>∃ ds,j9 xs=some ds/\ds.length<=1000/\R ds):PEdO K f (afU t) ρ R:=fun σ H Q e q =>
 h σ H _ e fun xs vs H1 g1 r1 ⟨ds,ea,hl,p⟩=>by
  have rs:=qU r1 ea
  refine⟨by rw [rs.length];exact ale (z9 hl),fun l hn=>?_⟩
  have g2:Goes f H1 (upd H1 l (.lst vs)):=.of_same (zW hn _) g1.2
  have nl:=fresh_ne g1.2 hn
  refine q ds l vs _ (g1.trans g2) (g1.free e.fd hn) zx (Reps.mono (fun b o hb=>?_) _ _ rs) p
  have hb':=zU hb
  have hbl:b≠l:=fun z=>by
   have:=hb'.2
   rw [z,hn] at this
   cases this
  refine zC (fun z=>?_) (by rw [zv hbl];exact hb'.2)
  rcases z with z | z
  ·exact hb'.1 (.inl z)
  ·rcases akB.mp z with z | z
   ·exact hbl z
   ·exact hb'.1 (.inr z)
theorem agq {tl th:TO} (h:PEd K f te ρ fun x=>∃ ds,x=.tuple ds/\POd K f tl ρ fun lo=>POd K f th ρ fun hi=>¬ (HT.sIx ds.length 0 lo=0/\HT.sIx ds.length ds.length hi=ds.length)/\P (.tuple (L2.cutD ds lo hi))):PEd K f (tSl (aiQ K) te tl th) ρ P:=fun σ H Q e q =>
 h σ H _ e fun x v H1 g1 r1 ⟨ds,ex,p1⟩=>p1 σ H1 _ (e.mono g1) fun lo H2 g2 p2=>p2 σ H2 _ ((e.mono g1).mono g2) fun hi H3 g3 ⟨nw,p3⟩=>by
  subst ex
  have gg:=g1.trans (g2.trans g3)
  obtain⟨a,xs,rfl,h1,h2⟩:=rep_tuple.mp (Rep.mono (g2.trans g3).sm _ _ r1)
  refine⟨a,xs,rfl,(zm _ _).seqT h1,by rw [h2.length];exact nw,fun p hn=>?_⟩
  have g4:Goes f H3 (upd H3 p (.tup (aa7 xs lo hi))):=.of_same (zW hn _) g3.ok
  exact q _ _ _ (gg.trans g4) (rep_tuple.mpr ⟨p,_,rfl,.of (zC (fresh_ne g3.ok hn) zx),Reps.mono g4.sm _ _ h2.cut⟩) p3
end
noncomputable def spN {γ:Type} (K:akq) (n:Nat) (pre:γ->List DV->Prop) (post:γ->List PyData->Prop):Sp:=fun vs H Q _=>∃ f xs c,RepVs K f H xs vs/\xs.length=n/\FOk f H/\pre c xs /\
 ∀ es D vs' H',Goes f H H'->H D=none->H' D=some (.lst vs')->Reps K (hide H' (f.with D)) es vs'->post c es->Q (.ref D) H'
noncomputable def PSn (K:akq) (f:Fx) (ts:TS) (ρ:zy) (R:List PyData->Prop):Prop:=∀ (σ:St) (H:Hp) (E:Ends),EnvOk K f ρ σ H ->
 (∀ es D vs H',Goes f H H'->H D=none->H' D=some (.lst vs)->Reps K (hide H' (f.with D)) es vs->R es->E.rt (.ref D) H')->ts E σ H
section
variable {K:akq} {f:Fx} {ρ:zy} {R:List PyData->Prop} {te:TE} {ts tu:TS} {tt:TT} {t:TA} {i:Nat} {D:Addr} {es:List PyData} {O:OEnds}
theorem aj0 (h:PEdO K f te ρ R):PSn K f (aa6 te) ρ R:=fun σ H E e q=>h σ H E.rt e q
theorem aja {γ:Type} {n:Nat} {pre:γ->List DV->Prop} {post:γ->List PyData->Prop} {E:XK} (c:γ) (h:PAd K f t ρ fun xs=>xs.length=n/\pre c xs/\∀ es,post c es->R es):PEdO K f (yZ (spN K n pre post) [] E t) ρ R:=fun σ H Q e q =>
 h σ H _ e fun xs vs H1 g1 r1 ⟨hl,hp,k⟩=>⟨f,xs,c,by rw [akY];exact r1,hl,g1.2,hp,fun es D vs' H' g' hn h1 rs p=>q es D vs' H' (g1.trans g') (g1.free e.fd hn) h1 rs (k es p)⟩
end
section
variable {P:Program} {w:World} {K:akq} {mg:Str->Option Value} {base:Heap} {k:Nat} {x:Str} {st:Stmt} {ps:List Str} {N:List Str} {n:Nat} {γ:Type} {pre:γ->List DV->Prop} {post:γ->List PyData->Prop}
theorem Def.okN (F:Def K mg x st ps) (S:FnScope N ps (zj st)) (hn:ps.length=n)
  (h:∀ (fa:Addr) (cdv:Value) (A:Around) (outer:List Env) (s:Shared) (H:Hp) (E:XK),Room k (A.deeper (envOfC x (zj st) s.heap.objs.size fa cdv)) ->
   ∃ t,PSs (zV CX0 P w K mg base N x (zj st) fa cdv A outer s H E).nox (z6 st) t/\∀ (f:Fx) (xs:List DV) (c:γ),xs.length=n->pre c xs->PSn K f t (jm N xs) (post c)) :
  FnIn P w K mg base (k+1) x ps (spN K n pre post):=by
 obtain⟨fa,fd,F1,F2,F3⟩:=F.ex
 refine⟨fa,fd,F1.ok S (fun vs H Q E h=>?_) (fun cdv A outer s H vs Q E hr hs=>?_),F3,F1.kp,F2⟩
 ·obtain⟨f,xs,c,r,hl,_⟩:=h
  rw [r.length,hl,hn]
 ·obtain⟨f,xs,c,r,hl,fo,hp,q⟩:=hs
  obtain⟨t,h1,h2⟩:=h fa cdv A outer s H E hr
  exact⟨t,h1,h2 f xs c hl hp (start N vs) H _ (y7 r fo) (fun es D vs' H' g hn' h1' rs p=>q es D vs' H' g hn' h1' rs p)⟩
end
end L2
end
section
namespace L2
open PySem PySem.W PyProof.Rows
structure Tot (n:Nat) (lt:Nat->Nat->Bool):Prop where
 tri:∀ i j,i<n->j<n->i≠j->lt i j=!lt j i
 tra:∀ i j k,i<n->j<n->k<n->lt i j=true->lt j k=true->lt i k=true
noncomputable def Ans (cmp:Nat->Nat->(Bool->Shared->Prop)->Shared->Prop) (n:Nat) (lt:Nat->Nat->Bool) (s:Shared):Prop:=∀ i j C,i<n->j<n->C (lt i j) s->cmp i j C s
noncomputable def Dn (lt:Nat->Nat->Bool) (p:Array Nat) (m:Nat):Prop:=∀ i j,i<j->j<m->lt (p.getD j 0) (p.getD i 0)=true
end L2
end
section
namespace L2
open PySem PySem.W PySem.Calls PyProof.Rows
section
variable {P:Program} {w:World} {A:Around} {X:Value->Shared->Prop} {s:Shared} {κ:SortKind} {vs:List Value} {lt:Nat->Nat->Bool}
structure Asks (P:Program) (w:World) (A:Around) (s:Shared) (κ:SortKind) (vs:List Value) (lt:Nat->Nat->Bool):Prop where
 kind:2<=vs.length->∀ (h':Heap),(∀ b o,s.heap.get? b=some o->h'.get? b=some o)->∀ R:SortKind->Shared->Prop,R κ { s with heap:=h' }->wpAny (model P w) A (keyKind' vs.toArray) R (fun _ _=>False) { s with heap:=h' }
 less:∀ (h':Heap),(∀ b o,s.heap.get? b=some o->h'.get? b=some o)->Ans (kas_ask P w A κ vs) vs.length lt { s with heap:=h' }
 ord:Tot vs.length lt
 few:vs.length<64 \/ ∀ i,i+1<vs.length->lt (i+1) i=false
end
mutual
noncomputable def aaR:PyData->Bool
 | .int _=>true
 | .str s=>(PyData.str s).canLay0
 | .tuple xs=>agr xs
 | _=>false
noncomputable def agr:List PyData->Bool
 | []=>true
 | x :: xs=>aaR x && agr xs
end
mutual
noncomputable def ajb:PyData->PyData->Bool
 | .int _,.int _=>true
 | .str _,.str _=>true
 | .tuple xs,.tuple ys=>aj1 xs ys
 | _,_=>false
noncomputable def aj1:List PyData->List PyData->Bool
 | [],_=>true
 | _ :: _,[]=>true
 | x :: xs,y :: ys=>if ak3 x y=true then aj1 xs ys else ajb x y
end
end L2
end
section
namespace L2
open PySem PySem.Spec PyProof.Rows PySem.SeqAt
open PySem.AutoSeq1 (wpAny_loadPart')
open PySem.MeetsSeq PySem.MeetsSeq2 PySem.MeetsSeq3
noncomputable def akh (A:Around) (s:Shared) (y x:Value) (b:Bool):Prop :=
 ∀ (prog:Program) (w:World) (E:Value->Shared->Prop) (Q:Value->Shared->Prop),Q (.bool b) s->wpAny (model prog w) A (richCompare .Lt y x) Q E s
inductive Lex (A:Around) (s:Shared):List Value->List Value->Bool->Prop where
 | nn:Lex A s [] [] false
 | nc {w ws}:Lex A s [] (w :: ws) true
 | cn {v vs}:Lex A s (v :: vs) [] false
 | eq {v w vs ws b}:EqAt A s v w true->Lex A s vs ws b->Lex A s (v :: vs) (w :: ws) b
 | lt {v w vs ws b}:EqAt A s v w false->akh A s v w b->Lex A s (v :: vs) (w :: ws) b
end L2
end
section
namespace L2
open PySem PySem.Spec PyProof.Rows PySem.SeqAt PySem.W
noncomputable def ags:PyData->Option String
 | .tuple (.int _ :: _)=>some "int"
 | .tuple (.str _ :: _)=>some "str"
 | .tuple (.tuple _ :: _)=>some "tuple"
 | _=>none
structure SortOk (T:String) (ds:List PyData):Prop where
 plain:∀ d∈ds,aaR d=true
 head:∀ d∈ds,ags d=some T
 cmp:∀ d∈ds,∀ e∈ds,ajb d e=true
 depth:∀ d∈ds,d.depth<=50
 nd:ds.Nodup
end L2
end
section
namespace L2.ST
open PySem PySem.SetTable
noncomputable def aki (xs:Array Nat):Prop:=∀ i j,i<j->j<xs.size->xs.getD i 0<xs.getD j 0
noncomputable def Tk (t:SetTable) (j:Nat):Prop:=∃ i,i<t.place.size/\t.place.getD i 0=j
noncomputable def road (mask:Nat) (h:Int):Nat->Probe
 | 0=>{ j:=bits h % (mask+1),more:=runEnd mask (bits h % (mask+1)) - bits h % (mask+1),i:=bits h % (mask+1),perturb:=bits h,dummy:=none }
 | k+1=>if (road mask h k).more > 0 then { road mask h k with j:=(road mask h k).j+1,more:=(road mask h k).more - 1 } else
  { road mask h k with j:=(leap mask (road mask h k).i (road mask h k).perturb).1,more:=runEnd mask (leap mask (road mask h k).i (road mask h k).perturb).1 - (leap mask (road mask h k).i (road mask h k).perturb).1,i:=(leap mask (road mask h k).i (road mask h k).perturb).1,perturb:=(leap mask (road mask h k).i (road mask h k).perturb).2 }
noncomputable abbrev pos (mask:Nat) (h:Int) (k:Nat):Nat:=(road mask h k).j
end L2.ST
end
section
namespace L2.ST
open PySem PySem.SetTable
structure TB (t:SetTable) (hs:List Int):Prop where
 mask:t.mask=7 \/ t.mask=31 \/ t.mask=127 \/ t.mask=511
 dum:t.dummies=#[]
 rise:aki t.place
 le:∀ i,i<t.place.size->t.place.getD i 0<=t.mask
 size:t.place.size=hs.length
 most:hs.length<=t.mask
 reach:∀ i,i<hs.length->∃ k,pos t.mask (hs.getD i 0) k=t.place.getD i 0/\∀ k',k'<k->Tk t (pos t.mask (hs.getD i 0) k')
structure TOk (t:SetTable) (hs:List Int):Prop extends TB t hs where
 room:hs.length * 5<t.mask * 3
structure First (t:SetTable) (h:Int) (E:Nat):Prop where
 lt:E<10 * turns t.mask
 free:¬ Tk t (pos t.mask h E)
 ahead:∀ k,k<E->Tk t (pos t.mask h k)
end L2.ST
end
section
namespace L2.ST
open PySem PySem.SetTable
end L2.ST
end
section
namespace L2.ST
open PySem PySem.SetTable
structure OwnT (mask:Nat) (ow:Array (Option Nat)) (hs:List Int) (sl:List Nat):Prop where
 size:ow.size=mask+1
 len:sl.length=hs.length
 nd:sl.Nodup
 le:∀ j∈sl,j<=mask
 own:∀ j,j<=mask->∀ i,ow.getD j none=some i↔sl[i]?=some j
 reach:∀ i,i<hs.length->∃ q,pos mask (hs.getD i 0) q=sl.getD i 0/\∀ q',q'<q->pos mask (hs.getD i 0) q'∈sl
end L2.ST
end
section
namespace L2
open PySem PySem.Spec PyProof.Rows
mutual
noncomputable def aeb (w:World):PyData->Int
 | .int i=>hashInt i
 | .str x=>hashStr w x
 | .tuple xs=>reduceHash (Builtin.Tuple.tupleHashOf (aip w xs))
 | _=>0
noncomputable def aip (w:World):List PyData->List Int
 | []=>[]
 | x :: xs=>aeb w x :: aip w xs
end
noncomputable instance decPy:DecidableEq PyData:=fun a b=>Classical.propDecidable _
structure KeyAt (h:Heap) (d:PyData) (a:Addr):Prop where
 rd:∃ as,Reads h (.ref a) d as
 pl:aaR d=true
 dp:d.depth<=8
end L2
end
section
namespace L2
open PySem PySem.Spec PyProof.Rows PySem.SetTable
section
variable {P:Program} {w:World} {A:Around} {E:Value->Shared->Prop} {s:Shared}
structure SetObj (w:World) (h:Heap) (a:Addr) (xs:List (PyData×Addr)) (o:Obj) (es:Array (Int×Value)) (ep:Nat) (t:SetTable):Prop where
 ob:h.get? a=some o
 ex:o.ExactSet
 da:o.data=.set es ep t
 el:es.toList=xs.map fun x=>(aeb w x.1,Value.ref x.2)
 ok:ST.TOk t (xs.map fun x=>aeb w x.1)
end
end L2
end
section
namespace L2
open PySem PySem.Spec PyProof.Rows PySem.SetTable
inductive OC where
 | lst (es:List PyData)
 | set (ks:List PyData)
 | dic (kvs:List (PyData×PyData))
noncomputable def akj (w:World) (a:Addr) (xs:List (PyData×Addr)):HO:=.ext fun h=>∃ o es ep t,SetObj w h a xs o es ep t
structure DicObj (w:World) (h:Heap) (a:Addr) (xs:List (PyData×Addr×Value)) (o:Obj) (es:Array DictEntry) (ep:Nat):Prop where
 ob:h.get? a=some o
 ex:o.ExactDict
 da:o.data=.dict es ep
 el:es.toList=xs.map fun x=>(⟨aeb w x.1,.ref x.2.1,x.2.2⟩:DictEntry)
 nd:(xs.map (·.1)).Nodup
 ns:(a == sysModules)=false
noncomputable def akk (w:World) (a:Addr) (xs:List (PyData×Addr×Value)):HO:=.ext fun h=>∃ o es ep,DicObj w h a xs o es ep
noncomputable def ajc (d:PyData):Prop:=aaR d=true/\d.depth<=8
noncomputable def akl (K:akq) (Hh:Hp) (x:PyData×Addr×Value) (p:PyData×PyData):Prop:=x.1=p.1/\ajc x.1/\Rep K Hh x.1 (.ref x.2.1)/\∃ v,Rep K Hh p.2 v/\RelV v x.2.2
noncomputable def aiq (w:World) (K:akq) (Hh H:Hp) (D:Addr):OC->Prop
 | .lst es=>∃ vs,H D=some (.lst vs)/\Reps K Hh es vs
 | .set ks=>∃ xs:List (PyData×Addr),H D=some (akj w D xs)/\(∀ x∈xs,ajc x.1/\Rep K Hh x.1 (.ref x.2))/\(∀ d,d∈xs.map (·.1)↔d∈ks)/\xs.length<=ks.length
 | .dic kvs=>∃ xs:List (PyData×Addr×Value),H D=some (akk w D xs)/\Paired (akl K Hh) xs kvs
noncomputable def Fx.withs (f:Fx) (Ds:List Addr):Fx:={ f with M:=Ds.reverse++f.M }
structure CM (w:World) (K:akq) (f:Fx) (Ds:List Addr) (H2:Hp) (ρ:zy) (cs:List OC) (σ:St) (H:Hp):Prop where
 env:EnvOk K (f.withs Ds) ρ σ H
 sm:Same (hide H2 (f.withs Ds)) (hide H (f.withs Ds))
 kp:∀ b∈f.M,H b=H2 b
 len:cs.length=Ds.length
 own:∀ (i:Nat) D c,Ds[i]?=some D->cs[i]?=some c->aiq w K (hide H (f.withs Ds)) H D c
structure Sep (f:Fx) (Ds:List Addr):Prop where
 nd:Ds.Nodup
 nf:∀ D∈Ds,f.f≠some D
 nm:∀ D∈Ds,D∉f.M
section
variable {w:World} {K:akq} {f:Fx} {Ds:List Addr} {H H' H2:Hp} {ρ ρ2:zy} {cs:List OC} {σ σ2:St} {i:Nat} {D:Addr} {c:OC} {o:HO}
theorem vW (hD:D∈Ds):D∈(f.withs Ds).M:=amu _ (alu.mpr hD)
theorem yT (hD:D∈Ds):hide (upd H D o) (f.withs Ds)=hide H (f.withs Ds):=by
 funext b
 unfold hide
 by_cases h:(f.withs Ds).f=some b \/ b∈(f.withs Ds).M
 ·rw [if_pos h,if_pos h]
 ·rw [if_neg h,if_neg h,zv fun (z:b=D)=>h (.inr (z▸vW hD))]
theorem ahH (se:Sep f Ds) (hD:D∈Ds) (h:FOk (f.withs Ds) H):FOk (f.withs Ds) (upd H D o) :=
 ⟨fun p e=>let⟨a,b,h1,h2⟩:=h.fd p e;⟨a,b,by rw [zv (fun (z:p=D)=>se.nf D hD (z▸e))];exact h1,h2⟩,fun b hb=>by
  by_cases e:b=D
  ·exact⟨o,by rw [e];exact zx⟩
  ·obtain⟨u,hu⟩:=h.mm b hb
   exact⟨u,by rw [zv e];exact hu⟩,h.nm⟩
theorem ahI (se:Sep f Ds) (hD:D∈Ds) (e:EnvOk K (f.withs Ds) ρ σ H):EnvOk K (f.withs Ds) ρ σ (upd H D o) :=
 ⟨e.len,fun i x h=>by
  obtain⟨v,h1,h2⟩:=e.get i x h
  refine⟨v,h1,?_⟩
  cases x with
  | dat d =>
   show Rep K (hide (upd H D o) (f.withs Ds)) d v
   rw [yT hD]
   exact h2
  | feed=>exact h2
  | own k=>exact h2
  | exc C =>
   obtain⟨a,e1,q⟩:=h2
   exact⟨a,e1,by rw [yT hD];exact q⟩
  | mon φ =>
   intro H' s
   rw [yT hD] at s
   exact h2 H' s,ahH se hD e.fd⟩
end
structure MEnds where
 nx:zy->List OC->Prop
 rt:PyData->Prop
 bk:zy->List OC->Prop:=fun _ _=>False
 ct:zy->List OC->Prop:=fun _ _=>False
section
variable {w:World} {K:akq} {f:Fx} {Ds:List Addr} {ρ:zy} {cs:List OC} {ts tu:TS} {tt:TT} {te:TE} {wi:TI} {g:TG} {O:MEnds} {i j:Nat}
theorem same_withs {H:Hp}:Same (hide H (f.withs Ds)) (hide H f):=fun b o h=>by
 obtain⟨h1,h2⟩:=zU h
 exact zC (fun z=>h1 (z.elim .inl fun z=>.inr (akM _ z))) h2
end
end L2
end
section
namespace L2
open PySem PySem.Spec PyProof.Rows
noncomputable abbrev ajd (K:akq) (H:Hp) (xs:List (PyData×Addr×Value)):Prop:=∀ z∈xs,ajc z.1/\Rep K H z.1 (.ref z.2.1)
end L2
end
section
namespace L2
open PySem PySem.Spec PyProof.Rows
section
variable {X:Cx}
theorem aec {pins:List (Addr×Obj)} {s:Shared} {σ:St} {H:Hp} (I:Inv X pins σ H s) {d:PyData}:∀ {ds:List PyData} {xs:List V} {us:List Value},Reps X.K H ds xs->Vals xs us->(∀ e∈ds,e.canLay0=true)->us.map (eqR s.heap d)=ds.map fun e=>ak3 e d
 | [],xs,us,r,v,_=>by
  cases reps_nil.mp r
  cases v
  rfl
 | e :: ds,xs,us,r,v,c=>by
  obtain⟨x,xs',rfl,h1,h2⟩:=reps_cons.mp r
  cases v with
  | cons a b =>
   obtain⟨as,ra⟩:=yE I e x _ h1 a
   rw [alJ,alJ,adt ra (c e akE),aec I h2 b fun e he=>c e (akv _ he)]
noncomputable def ab0 (K:akq):V->List V->Hp->VK->Prop:=fun x ys H Q=>∃ d ds y,∃ j:Nat,ys=[y]/\Rep K H d y/\Rep K H (.list ds) x/\d.canLay0=true/\(∀ e∈ds,e.canLay0=true)/\d.depth<=50/\ds.length<=1000 /\
 (ds.map fun e=>ak3 e d)[j]?=some true/\(∀ m,m<j->(ds.map fun e=>ak3 e d)[m]?=some false)/\Q (.int j) H
theorem ae1 (hu:X.A.units+64<cLine):MtR X "list.index" (ab0 X.K):=by
 intro pins s σ H x xs v us Q I rx rv h
 obtain⟨d,ds,y,j,rfl,hd,hl,c1,c2,dd,few,hit,miss,q⟩:=h
 obtain⟨a,zs,rfl,hq,hr⟩:=rep_list.mp hl
 cases rx
 obtain⟨u,rfl,ru⟩:=rv.one
 obtain⟨bs,rb⟩:=yE I d y u hd ru
 obtain⟨its,r,pl,hz⟩:=I.list hq
 obtain⟨⟨cl,dd',da,sl⟩,n,e,e1,e2,e3⟩:=pl
 dsimp only at e1 e2 e3
 subst e1 e3
 have key:=aec I (d:=d) hr r c2
 rw [<-key] at hit miss
 have hj:j<its.length:=by
  obtain⟨hlt,_⟩:=aks.mp hit
  rw [akp] at hlt
  exact hlt
 have len:its.length=ds.length:=by have:=congrArg amR key;rw [akp,akp] at this;exact this
 refine call_meets F.slot_list_index ⟨_,e,rfl⟩ F.entry_list_index (F.args_list_index_2 _ _) (SeqAt.list_indexAt a its.toArray n dd' sl u (eqR s.heap d) j (by rw [akx];exact hj) (by omega) ?_ ?_)
  ⟨e,fun w hw=>aaP I rb c1 dd (show X.A.in1.units+60<cLine from by show X.A.units+1+60<cLine;omega) hr r c2 w (by simpa using hw),?_⟩
 ·rw [akz,akt hj] at hit
  simpa using hit
 ·intro m hm hlt
  rw [akx] at hm
  have:=miss m hlt
  rw [akz,akt hm] at this
  simpa using this
 ·exact⟨.int j,H,I.tok _,⟨_,rfl⟩,q⟩
theorem adw {K:akq} (hK:X.K=K) (hu:X.A.units+64<cLine):MtR X "list.index" (ab0 K):=hK▸ae1 hu
end
structure MinAt (h0:Heap) (its:List Value) (ds:List PyData) (as:List Addr):Prop where
 ra:ReadsAll h0 its ds as
 pl:∀ d∈ds,aaR d=true
 cp:∀ d∈ds,∀ e∈ds,ajb d e=true
 dp:∀ d∈ds,d.depth<=50
section
variable {K:akq} {f:Fx} {ρ:zy} {P:PyData->Prop} {te ta tb:TE}
theorem agt (h:PEd K f ta ρ fun x=>∃ ds,x=.list ds/\PEd K f tb ρ fun d=>∃ j:Nat,d.canLay0=true/\(∀ e∈ds,e.canLay0=true)/\d.depth<=50/\ds.length<=1000/\(ds.map fun e=>ak3 e d)[j]?=some true/\(∀ m,m<j->(ds.map fun e=>ak3 e d)[m]?=some false)/\P (.int j)) :
  PEd K f (tBM K "list" (ab0 K) ta (zG tb yR)) ρ P:=fun σ H Q e q =>
 h σ H _ e fun x v H1 g1 r1 ⟨ds,ex,p1⟩=>by
  subst ex
  refine⟨?_,p1 σ H1 _ (e.mono g1) fun d u H2 g2 r2 ⟨j,c1,c2,dd,fw,hit,miss,p⟩=>⟨d,ds,u,j,rfl,Rep.mono (zm _ _) _ _ r2,Rep.mono (zm _ _) _ _ (Rep.mono g2.sm _ _ r1),c1,c2,dd,fw,hit,miss,q _ _ H2 (g1.trans g2) (rep_int.mpr rfl) p⟩⟩
  obtain⟨a,zs,rfl,h1,_⟩:=rep_list.mp r1
  exact .inl ⟨rfl,zs,(zm _ _).seq h1⟩
end
end L2
end
section
namespace L2
open PySem PySem.Spec PyProof.Rows
structure TM (K:akq) (f:Fx) (a:Addr) (as:List Addr) (H2:Hp) (ρ:zy) (rows:List (List Int)) (σ:St) (H:Hp):Prop where
 env:EnvOk K (f.withs (a :: as)) ρ σ H
 sm:Same (hide H2 (f.withs (a :: as))) (hide H (f.withs (a :: as)))
 kp:∀ b∈f.M,H b=H2 b
 tab:TabAt H a as rows
section
variable {K:akq} {f:Fx} {a:Addr} {as:List Addr} {ρ ρ2:zy} {rows:List (List Int)} {O:zy->List (List Int)->Prop} {ts tu:TS} {te ty tx:TE} {i:Nat} {σ σ2:St} {H H' H2:Hp}
theorem TabAt.keep (t:TabAt H a as rows) (h:∀ b∈a :: as,H' b=H b):TabAt H' a as rows :=
 ⟨(h a (akE ..)).trans t.top,t.nd,t.len,fun i x r h1 h2=>(h x (akv _ (akC h1))).trans (t.row i x r h1 h2)⟩
theorem ae2 {Ds:List Addr} (g:Same (hide H f) (hide H' f)) (hn:∀ D∈Ds,H D=none):Same (hide H f) (hide H' (f.withs Ds)):=fun b o hb=>by
 have hb1:=g b o hb
 refine zC (fun z=>?_) (zU hb1).2
 rcases z with z | z
 ·exact (zU hb1).1 (.inl z)
 ·rcases akF.mp z with z | z
  ·have:=(zU hb).2
   rw [hn b (alu.mp z)] at this
   cases this
  ·exact (zU hb1).1 (.inr z)
end
theorem qW {K:akq} {H:Hp}:∀ {es:List (PyData×Addr×Value)},ajd K H es->Reps K H (es.map (·.1)) (es.map fun x=>V.ref x.2.1)
 | [],_=>.nil'
 | x :: es,h=>.cons' (h x (akE ..)).2 (qW fun z hz=>h z (akv _ hz))
section
variable {K:akq} {f:Fx} {ρ:zy} {ts tu:TS} {O:DEnds} {te:TE} {i:Nat}
theorem aed (J:zy->Prop) (h1:PSd K f ts ρ { O with nx:=J }) (h2:∀ ρ',J ρ'->PSd K f tu ρ' O):PSd K f (qD ts tu) ρ O :=
 zM fun σ H E e n r b k=>h1 σ H E e (fun ρ' σ' H' g' e' p=>n ρ' σ' H' g' e' (h2 ρ' p)) r b k
theorem ahJ {P:PyData->Prop} {γ:Type} {n:Nat} {pre:γ->List DV->Prop} {post:γ->PyData->Prop} {E:XK} {t:TA} (h:PAd K f t ρ fun xs=>∃ c,xs.length=n/\pre c xs/\∀ r,post c r->P r):PEd K f (yZ (spD K n pre post) [] E t) ρ P:=fun σ H Q e q =>
 h σ H _ e fun xs vs H1 g1 r1 ⟨c,hl,hp,k⟩=>⟨f,xs,c,by rw [akY];exact r1,hl,g1.2,hp,fun r v H' g' r' p'=>q r v H' (g1.trans g') r' (k r p')⟩
end
end L2
end
section
namespace L2
open PySem PySem.Spec PyProof.Rows
noncomputable def PEv (K:akq) (f:Fx) (te:TE) (ρ:zy) (P:DV->Prop):Prop:=∀ (σ:St) (H:Hp) (Q:VK),EnvOk K f ρ σ H->(∀ x v H',Goes f H H'->RepV K f H' x v->P x->Q v H')->te σ H Q
section
variable {w:World} {K:akq} {f:Fx} {ρ:zy} {Ds:List Addr} {cs:List OC} {te ta tk:TE} {ts tu:TS} {t:TA} {O:DEnds} {i j:Nat} {R:OC->Prop}
theorem v_var {P:DV->Prop} {x:DV} (h:ρ[i]?=some (some x)) (p:P x):PEv K f (zO i) ρ P:=fun σ H Q e q=>by
 obtain⟨v,h1,h2⟩:=e.get i x h
 exact⟨v,h1,q x v H (.refl e.fd) h2 p⟩
theorem aj2 {R:List DV->Prop} {u:TA} (h:PEv K f te ρ fun x=>PAd K f u ρ fun xs=>R (x :: xs)):PAd K f (zG te u) ρ R:=fun σ H Q e q =>
 h σ H _ e fun x v H1 g1 r1 p=>p σ H1 _ (e.mono g1) fun xs vs H2 g2 r2 p2=>q (x :: xs) (v :: vs) H2 (g1.trans g2) (.cons (RepV.mono g2 r1) r2) p2
end
noncomputable def agu (K:akq):R2:=fun x y H Q=>∃ d ds,Rep K H d x/\Rep K H (.tuple ds) y/\d.canLay0=true/\(∀ e∈ds,e.canLay0=true)/\d.depth<=50/\Q (.bl (!ds.any (fun e=>ak3 e d))) H
theorem adx {X:Cx} (hu:X.A.units+64<cLine):OpR X (compareOp .NotIn) (agu X.K):=by
 intro pins s σ H x y v u Q I rx ry h
 obtain⟨d,ds,h1,h2,c1,c2,dd,q⟩:=h
 obtain⟨a,xs,rfl,hq,hr⟩:=rep_tuple.mp h2
 cases ry
 obtain⟨bs,rb⟩:=yE I d x v h1 rx
 obtain⟨its,r,pl,hz⟩:=I.tuple hq
 refine anp (eqR s.heap d) pl (fun w hw=>aaP I rb c1 dd (show X.A.in1.units+60<cLine from by show X.A.units+1+60<cLine;omega) hr r c2 w (by simpa using hw)) ⟨.bl _,H,I,rfl,?_⟩
 rw [show its.toArray.any (eqR s.heap d)=its.any (eqR s.heap d) by simp,ad9 I hr r c2]
 exact q
theorem acH {X:Cx} {K:akq} (hK:X.K=K) (hu:X.A.units+64<cLine):OpR X (compareOp .NotIn) (agu K):=hK▸adx hu
theorem ae3 {K:akq} {f:Fx} {ρ:zy} {P:PyData->Prop} {ta tb:TE} (h:PEd K f ta ρ fun d=>PEd K f tb ρ fun y=>∃ ds,y=.tuple ds/\d.canLay0=true/\(∀ e∈ds,e.canLay0=true)/\d.depth<=50/\P (.bool (!ds.any fun e=>ak3 e d))):PEd K f (tOp (agu K) ta tb) ρ P:=fun σ H Q e q =>
 h σ H _ e fun d v H1 g1 r1 p1=>p1 σ H1 _ (e.mono g1) fun y w H2 g2 r2 ⟨ds,ey,c1,c2,dd,p2⟩=>by
  subst ey
  exact⟨d,ds,Rep.mono (zm _ _) _ _ (Rep.mono g2.sm _ _ r1),Rep.mono (zm _ _) _ _ r2,c1,c2,dd,q _ _ H2 (g1.trans g2) (rep_bool.mpr rfl) p2⟩
noncomputable def Itz (K:akq) (a b:Addr):It :=
 ⟨fun i H=>∃ xs ys x y,SqL K H a xs/\SqL K H b ys/\xs[i]?=some x/\ys[i]?=some y,fun i H v H'=>∃ t x y,v=.ref t/\H t=none/\H'=upd H t (.tup [x,y])/\(∀ xs,SqL K H a xs->xs[i]?=some x)/\∀ ys,SqL K H b ys->ys[i]?=some y,
  fun i H=>∃ xs ys,SqL K H a xs/\SqL K H b ys/\(xs.length<=i \/ ys.length<=i)⟩
theorem agv {P:Program} {w:World} {K:akq} {es:List Expr} {k:Nat} {pos:Pos} (a b z q1 q2 c1 c2:Addr) (D:ZipApart z q1 q2 c1 c2 a b) :
  Turn P w K (.Tuple es k pos) (Itz K a b) [z,q1,q2,c1,c2] z (fun i h=>IsZip h z q1 q2 .none/\IsPair h q1 (.ref c1) (.ref c2)/\(∃ u v,IsPair h q2 u v)/\h.IsListIter c1 a i/\h.IsListIter c2 b i) where
 mem:=by simp
 obj:=fun i h st x hx=>by
  obtain⟨s1,s2,⟨u,v,s3⟩,⟨o4,e4,_,d4⟩,⟨o5,e5,_,d5⟩⟩:=st
  simp only [akB,alm,or_false] at hx
  rcases hx with rfl | rfl | rfl | rfl | rfl
  ·exact⟨_,s1,fun y z=>by have z':Data.fields _=Data.cell y:=z;cases z'⟩
  ·exact⟨_,s2,fun y z=>by have z':Data.seq _=Data.cell y:=z;cases z'⟩
  ·exact⟨_,s3,fun y z=>by have z':Data.seq _=Data.cell y:=z;cases z'⟩
  ·exact⟨o4,e4,fun y z=>by rw [d4] at z;cases z⟩
  ·exact⟨o5,e5,fun y z=>by rw [d5] at z;cases z⟩
 keep:=fun i h h' st kk=>by
  obtain⟨s1,s2,⟨u,v,s3⟩,s4,s5⟩:=st
  exact⟨kk z (by simp) _ s1,kk q1 (by simp) _ s2,⟨u,v,kk q2 (by simp) _ s3⟩,s4.at fun o e=>kk c1 (by simp) o e,s5.at fun o e=>kk c2 (by simp) o e⟩
 item:=by
  intro X hP hw hK hc i pins s σ H E I hf st hg
  subst hP hw hK
  obtain⟨xs,ys,x,y,hq,hp,hx,hy⟩:=hg
  obtain⟨its,rv,p,_⟩:=I.list hq
  obtain⟨u,hu,ru⟩:=rv.get hx
  obtain⟨its',rv',p',_⟩:=I.list hp
  obtain⟨v,hv,rv2⟩:=rv'.get hy
  obtain⟨s1,s2,⟨u0,v0,s3⟩,s4,s5⟩:=st
  refine wpAny_pyNext_zip_item D s1 s2 s3 s4 s5 p.isList p'.isList (x:=u) (y:=v) (by simpa using hu) (by simpa using hv) fun h' n1 n3 n4 n5 tp sz kp=>?_
  refine⟨_,rfl,?_⟩
  refine wpAny_letOwnedTupleGo_zip (s:={ s with heap:=h' }) n1 fun h2 m1 sb=>?_
  have old:∀ c∈[z,q1,q2,c1,c2],c<s.heap.objs.size:=fun c hc=>by
   obtain⟨o4,e4,_,_⟩:=s4
   obtain⟨o5,e5,_,_⟩:=s5
   simp only [akB,alm,or_false] at hc
   rcases hc with rfl | rfl | rfl | rfl | rfl
   ·exact akw s1
   ·exact akw s2
   ·exact akw s3
   ·exact akw e4
   ·exact akw e5
  have kk:∀ c o,c∉[z,q1,q2,c1,c2]->s.heap.get? c=some o->h2.get? c=some o:=fun c o hc e=>by
   have z1:c≠z:=fun z=>hc (by simp [z])
   have z3:c≠q2:=fun z=>hc (by simp [z])
   have z4:c≠c1:=fun z=>hc (by simp [z])
   have z5:c≠c2:=fun z=>hc (by simp [z])
   exact (sb.2 c z1).trans (kp c o z1 z3 z4 z5 e)
  have hlt:z<s.heap.objs.size:=old z (by simp)
  have I2:Inv X pins σ (upd H s.heap.objs.size (.tup [x,y])) { s with heap:=h2,toks:=s.toks }:=I.turnedNew (t':=s.toks) hf kk (akA _)
   ⟨by show 2<=sizeLine;decide,[u,v],.cons ru (.cons rv2 .nil),⟨_,(sb.2 _ (al5 hlt)).trans tp,rfl,_,rfl⟩⟩
  refine⟨.ref s.heap.objs.size,_,I2,rfl,⟨_,x,y,rfl,I.fresh,rfl,fun zs hz=>by rw [I.list_inj hz hq];exact hx,fun zs hz=>by rw [I.list_inj hz hp];exact hy⟩,⟨m1,?_,⟨u,v,?_⟩,?_,?_⟩,fun c hc=>?_⟩
  ·exact (sb.2 q1 D.TIz).trans (kp q1 _ D.TIz D.TITO D.TIi1 D.TIi2 s2)
  ·exact (sb.2 q2 D.TOz).trans n3
  ·exact n4.at fun o eo=>(sb.2 c1 D.i1z).trans eo
  ·exact n5.at fun o eo=>(sb.2 c2 D.i2z).trans eo
  ·rw [zv (akN (old c hc))]
   exact (hf c hc).1
 done:=by
  intro X hP hw hK hc i pins s σ H E I hf st hg
  subst hP hw hK
  obtain⟨xs,ys,hq,hp,hx⟩:=hg
  obtain⟨its,rv,p,_⟩:=I.list hq
  obtain⟨its',rv',p',_⟩:=I.list hp
  obtain⟨s1,s2,⟨u0,v0,s3⟩,s4,s5⟩:=st
  have hl:=rv.length
  have hl':=rv'.length
  exact wpAny_pyNext_zip_end (I.ok.hd hc) D s1 s2 s3 s4 s5 p.isList p'.isList (hx.imp (fun h=>by simp;omega) fun h=>by simp;omega) fun h' eb=>⟨rfl,I.turnedAll (t':=s.toks) hf fun c o hb e'=>eb c o (fun z=>hb (by simp [z])) (fun z=>hb (by simp [z])) (fun z=>hb (by simp [z])) (fun z=>hb (by simp [z])) e'⟩
 self:=fun _ _ _ _ _ st h=>wpAny_pyIter_zip st.1 h
section
variable {X:Cx} {es:List Expr} {k:Nat} {tpos:Pos}
noncomputable def aje (K:akq) (ta:TA):TI:=fun σ H R=>ta σ H fun vs H1=>∃ a b,vs=[.ref a,.ref b]/\(∃ xs,SqL K H1 a xs)/\(∃ ys,SqL K H1 b ys)/\R (Itz K a b) H1
theorem ajf {a b:Expr} {ta:TA} {p pos:Pos} (hg:Gl X "zip") (hm:X.mg "zip"=none) (ha:PA X [a,b] ta) (hs:starEach [a,b] X.env=(false,eval a X.env) :: starEach [b] X.env:=by rfl) (hl:(backTo pos (starEach [b] X.env)).any (·.1)=false:=by rfl):PI X (.Tuple es k tpos) (.Call (.Name "zip" p) [a,b] [] pos) (aje X.K ta):=by
 intro pins s σ H R I h
 refine Call_ (jx I hg hm boot_zip (akT (thn (ha pos pins s σ H _ I h) fun us s1 ⟨vs,H1,I1,r1,q1⟩=>?_) hs hl))
 obtain⟨l,l',e,⟨xs,hq⟩,⟨ys,hp⟩,q⟩:=q1
 subst e
 cases r1 with
 | cons r rr =>
  cases rr with
  | cons r' rr' =>
   cases rr'
   cases r
   cases r'
   obtain⟨its,rv,p,_⟩:=I1.list hq
   obtain⟨its',rv',p',_⟩:=I1.list hp
   obtain⟨o1,e1,_⟩:=id p.isList
   obtain⟨o2,e2,_⟩:=id p'.isList
   refine call_zip_2 p.isList p'.isList fun h' n1 n2 n3 n4 n5 hsz kp=>?_
   refine wpAny_pyIter_zip n1 ?_
   refine⟨_,[s1.heap.objs.size+4,s1.heap.objs.size+2,s1.heap.objs.size+3,s1.heap.objs.size,s1.heap.objs.size+1],_,_,H1,rfl,I1.kept (t':=s1.toks) kp,agv l l' _ _ _ _ _ (zipApart_new (akw e1) (akw e2)),⟨n1,n2,⟨_,_,n3⟩,n4,n5⟩,fun c hc=>?_,q⟩
   have hle:s1.heap.objs.size<=c:=by
    simp only [akB,alm,or_false] at hc
    rcases hc with rfl | rfl | rfl | rfl | rfl <;> omega
   exact I1.fpOk hle (I1.hok.fresh hle)
theorem aee {K:akq} {a b:Expr} {ta:TA} {p pos:Pos} (hK:X.K=K) (hg:Gl X "zip") (hm:X.mg "zip"=none) (ha:PA X [a,b] ta) (hs:starEach [a,b] X.env=(false,eval a X.env) :: starEach [b] X.env:=by rfl) (hl:(backTo pos (starEach [b] X.env)).any (·.1)=false:=by rfl):PI X (.Tuple es k tpos) (.Call (.Name "zip" p) [a,b] [] pos) (aje K ta):=hK▸ajf hg hm ha hs hl
end
end L2
end
section
namespace L2
open PySem PySem.Spec PyProof.Rows
open PySem.SeqAt
open PySem.AutoSeq1 (wpAny_loadPart')
noncomputable def akm (A:Around) (s:Shared) (y x:Value) (b:Bool):Prop :=
 ∀ (prog:Program) (w:World) (E:Value->Shared->Prop) (Q:Value->Shared->Prop),Q (.bool b) s->wpAny (model prog w) A (richCompare .GtE y x) Q E s
inductive Gex (A:Around) (s:Shared):List Value->List Value->Bool->Prop where
 | nn:Gex A s [] [] true
 | eq {v w vs ws b}:EqAt A s v w true->Gex A s vs ws b->Gex A s (v :: vs) (w :: ws) b
 | ge {v w vs ws b}:EqAt A s v w false->akm A s v w b->vs.length=ws.length->Gex A s (v :: vs) (w :: ws) b
noncomputable def vX (o:Obj):Option Value:=match o.data with
 | .fields vs=>vs[2]?
 | _=>none
noncomputable def KD (h h':Heap):Prop:=∀ b o,h.get? b=some o->∃ u,h'.get? b=some u/\u.dict=o.dict/\vX u=vX o
theorem KD.refl (h:Heap):KD h h:=fun _ o e=>⟨o,e,rfl,rfl⟩
theorem KD.trans {h i j:Heap} (a:KD h i) (b:KD i j):KD h j:=fun c o e =>
 let⟨u,e1,d1,f1⟩:=a c o e
 let⟨v,e2,d2,f2⟩:=b c u e1
 ⟨v,e2,d2.trans d1,f2.trans f1⟩
theorem KD.push (h:Heap) (o:Obj):KD h (h.push o):=fun _ u e=>⟨u,aku _ e,rfl,rfl⟩
theorem KD.update (h:Heap) (a:Addr) (f:Obj->Obj) (k:∀ o,(f o).dict=o.dict/\(f o).isFreed=o.isFreed/\vX (f o)=vX o):KD h (h.update a f):=fun b o e=>by
 by_cases q:a=b
 ·subst q
  exact⟨f o,alr f e (by rw [(k o).2.1];exact (Heap.get?_some_iff.mp e).2),(k o).1,(k o).2.2⟩
 ·exact⟨o,(akU h f q).trans e,rfl,rfl⟩
noncomputable def yo {α:Type} (t:Sem α):Prop:=∀ (M:Model) (Γ:PySem.Ctx) (Q:α->Pos->Shared->Prop) (E:Value->Pos->Shared->Prop) (p:Pos) (s:Shared),
 Sem.wp M Γ t Q E p s->Sem.wp M Γ t (fun a p' s'=>Q a p' s'/\KD s.heap s'.heap) E p s
section
variable {α β:Type}
theorem ab1 (a:α):yo (pure a:Sem α):=fun _ _ _ _ _ s h=>⟨h,.refl _⟩
theorem ajg (x:String):yo (unsupported x:Sem α):=fun _ _ _ _ _ _ h=>h
theorem aef {m:Sem α} {f:α->Sem β} (a:yo m) (b:∀ x,yo (f x)):yo (m >>= f):=fun M Γ Q E p s h=>by
 rw [Sem.wp_bind'] at h ⊢
 refine anA M Γ m (fun x p' s' z=>?_) (fun _ _ _ z=>z) p s (a M Γ _ E p s h)
 exact anA M Γ (f x) (fun _ _ _ y=>⟨y.1,z.2.trans y.2⟩) (fun _ _ _ y=>y) p' s' (b x M Γ Q E p' s' z.1)
theorem ajh {c:Prop} [Decidable c] {t u:Sem α} (a:yo t) (b:yo u):yo (if c then t else u):=by split <;> assumption
theorem ahK (a:Addr):yo (load a):=fun _ _ _ _ _ _ h=>let⟨o,e,q⟩:=h;⟨o,e,q,.refl _⟩
theorem agw:yo stack:=fun _ _ _ _ _ _ h=>⟨h,.refl _⟩
theorem agx (o:Obj):yo (alloc o):=fun _ _ _ _ _ _ h=>⟨h,.push _ _⟩
theorem ae4 (a:Addr) (f:Obj->Obj) (k:∀ o,(f o).dict=o.dict/\(f o).isFreed=o.isFreed/\vX (f o)=vX o):yo (update a f):=fun _ _ _ _ _ _ h=>⟨h.1,h.2,.update _ _ _ k⟩
end
local macro_rules | `(tactic| walk_at "kd")=>`(tactic| with_reducible first
  | assumption
  | exact ab1 _
  | exact ajg _
  | exact ahK _
  | exact kd_loadPart _ _
  | exact agw
  | exact agx _
  | exact kd_reg _
  | apply ajh
  | apply aef
  | intro _
  | split)
theorem aaS (v:Value) (i:Nat):yo (field v i):=fun _ Γ Q E p s h=>by
 obtain⟨a,o,vs,x,h1,h2,h3,h4,h5⟩:=(wp_field_iff Γ v i Q E p s).mp h
 exact (wp_field_iff Γ v i _ E p s).mpr ⟨a,o,vs,x,h1,h2,h3,h4,h5,.refl _⟩
theorem aak (v:Value) (i:Nat) (x:Value) (hi:i≠2):yo (setField v i x):=fun _ Γ Q E p s h=>by
 obtain⟨a,o,vs,h1,h2,h3,h4,h5⟩:=(wp_setField_iff Γ v i x Q E p s).mp h
 refine (wp_setField_iff Γ v i x _ E p s).mpr ⟨a,o,vs,h1,h2,h3,h4,h5,.update _ _ _ fun u=>?_⟩
 obtain⟨c,d,dt,sl⟩:=u
 cases dt <;> first | exact⟨rfl,rfl,rfl⟩ | exact⟨rfl,rfl,Array.getElem?_setIfInBounds_ne hi⟩
theorem ae5 (env:Env) (l:List Env):yo (behindIsImport env l):=by
 unfold behindIsImport
 have:=aaS env.code 12
 repeat' walk_at "kd"
theorem ae6:yo underTheClaimsCaller:=by
 unfold underTheClaimsCaller
 repeat' walk_at "kd"
theorem ahL (env:Env) (i:Bool) (l:List Env):yo (keptBack env i l):=by
 have:=ae6
 cases l <;> unfold keptBack <;> repeat' walk_at "kd"
theorem acI:∀ l:List Env,yo (readyFrames l)
 | []=>ab1 _
 | env :: l=>by
  have ih:=acI l
  have h1:=ae5 env l
  have h2:=fun i=>ahL env i l
  unfold readyFrames
  repeat' (first | walk_at "kd" | exact h2 _ | (refine ae4 _ _ fun⟨c,d,dt,sl⟩=>?_;cases dt <;> exact⟨rfl,rfl,rfl⟩))
theorem agy (env:Env):yo (PySem.frameOf env):=by
 unfold PySem.frameOf frameEnvs
 have h2:∀ l,yo (frameObject l):=fun l=>by
  cases l with
  | nil=>exact ab1 _
  | cons a l =>
   have:=acI (a :: l)
   unfold frameObject
   repeat' walk_at "kd"
 repeat' (first | walk_at "kd" | exact h2 _)
theorem vY (e:Value) (f:Option Addr):yo (setFlight e f):=by
 unfold setFlight
 repeat' (first | walk_at "kd" | exact aaS _ _ | exact aak _ _ _ (by decide))
theorem agz (f:Addr) (b:Bool):yo (entryPlaceOf f b):=by
 unfold entryPlaceOf
 repeat' walk_at "kd"
theorem agA (a b c d e:Value) (l:List Value):yo (anr a b c d e l):=by
 unfold anr newFields newObj newObjAsIs classHasDel
 repeat' walk_at "kd"
theorem aeg (e:Value) (env:Env):yo (noteFrame e env):=by
 unfold noteFrame
 repeat' (first | walk_at "kd" | exact aaS _ _ | exact aak _ _ _ (by decide) | exact agy _ | exact agz _ _ | exact agA _ _ _ _ _ _)
theorem agB (env:Env) (e:Value):yo (leaving env e):=by
 unfold leaving
 exact aef (aeg _ _) fun _=>vY _ _
theorem aeh {α:Type} {t:Sem α} {M:Model} {A:Around} {Q Q':α->Shared->Prop} {E:Value->Shared->Prop} {s:Shared} (k:yo t) (h:wpAny M A t Q E s) (q:∀ a s',Q a s'->KD s.heap s'.heap->Q' a s'):wpAny M A t Q' E s:=fun Γ p hΓ =>
 anA M Γ t (fun a _ s' z=>q a s' z.1 z.2) (fun _ _ _ z=>z) p s (k M Γ _ _ p s (h Γ p hΓ))
noncomputable def Dct (a:Addr) (o:Option Addr) (h:Heap):Prop:=∃ u,h.get? a=some u/\vX u=some .none/\∀ dx,o=some dx->u.dict=some dx
theorem Dct.kd {a:Addr} {o:Option Addr} {h h':Heap} (x:Dct a o h) (k:KD h h'):Dct a o h' :=
 let⟨u,q,f,d⟩:=x
 let⟨v,q2,d2,f2⟩:=k a u q
 ⟨v,q2,f2.trans f,fun dx e=>d2.trans (d dx e)⟩
noncomputable def CXf (P:Program) (w:World):CXT:=fun outer H s E e s'=>∃ a C o H',e=.ref a/\XLie P w outer H s a C H' s'/\Dct a o s'.heap/\E C o H'
noncomputable def yp (a:Addr) (C:Value) (o:Option Addr) (h:Heap):Prop:=∃ t,h.get? a=some { cls:=C,dict:=o,data:=.fields #[.ref t,.none,.none,.none,.bool false,.none] }
noncomputable def drp (H:Hp) (a:Addr):Hp:=fun b=>if b=a then none else H b
theorem aaT {H:Hp} {a:Addr}:drp H a a=none:=by unfold drp;rw [if_pos rfl]
theorem qj {H:Hp} {a b:Addr} (h:b≠a):drp H a b=H b:=by unfold drp;rw [if_neg h]
theorem agC {H:Hp} {a b:Addr} {o:HO} (h:drp H a b=some o):b≠a/\H b=some o:=by
 by_cases e:b=a
 ·rw [e,aaT] at h;cases h
 ·rw [qj e] at h;exact⟨e,h⟩
section
variable {X:Cx} {pins:List (Addr×Obj)} {σ:St} {H H':Hp} {s s':Shared} {a dx:Addr} {C:Value} {o:Option Addr}
theorem ady {E:Value->Shared->Prop} (I:Inv X pins σ H s) (hst:X.stack=X.env :: X.outer) (hf:X.env.frame=some X.env.locals) (hex:X.ex=[]) (ha:H a=some (.ext (yp a C (some dx)))) (hnew:X.s₀.heap.get? a=none) :
  wpAny (model X.prog X.w) X.A (leaving X.env (.ref a)) (fun _ s''=>XLie X.prog X.w X.outer X.H₀ X.s₀ a C (drp H a) s''/\Dct a (some dx) s''.heap) E s:=by
 obtain⟨⟨t,hu⟩,_,_⟩:=I.hok a _ ha
 have ex0:∀ b:Addr,b∉X.ex:=fun b=>by rw [hex];simp
 have hsub:∀ env∈X.env :: X.outer,∀ b,env.frame=some b->b∈a :: frs X.stack:=fun env he b hb=>by
  rw [hst]
  exact akv _ (amd.mpr ⟨env,he,hb⟩)
 have ff:=I.stack
 rw [hst] at ff
 have inF:∀ b,b∈frs X.outer->b∈frs X.stack:=fun b hb=>by
  rw [hst]
  unfold frs
  rw [alO,hf]
  exact akv _ hb
 have hid:∀ {b:Addr} {v:Obj},s.heap.get? b=some v->b≠a->b∉frs X.stack->(amc s.heap (a :: frs X.stack)).get? b=some v:=fun q n1 n2=>ano _ q fun z=>(akB.mp z).elim n1 n2
 have hen:(amc s.heap (a :: frs X.stack)).get? a=none:=anb _ (akE ..)
 refine aeh (agB _ _) (wpAny_leaving_firstW (base:=amc s.heap (a :: frs X.stack)) (oe:={ cls:=C,dict:=some dx,data:=.fields #[.ref t,.none,.none,.none,.bool false,.none] }) (a0:=.ref t) (by rw [I.ok.frames,hst]) (PySem.W.funFrames_hide ff hsub) hf hu (fun b v hb=>PySem.W.of_hideAll _ hb) hen rfl rfl rfl
  (Q:=fun _ s''=>XLie X.prog X.w X.outer X.H₀ X.s₀ a C (drp H a) s'') fun h' hL=>?_) fun _ s'' y k=>⟨y,Dct.kd ⟨_,hu,rfl,fun d e=>e⟩ k⟩
 obtain⟨k1,⟨_,_,k2⟩,k3,up⟩:=hL
 have kp:∀ b v,s.heap.get? b=some v->b≠a->b∉frs X.stack->h'.get? b=some v:=fun b v q n1 n2=>k1 b v (hid q n1 n2)
 have ne:∀ {b:Addr} {v:Obj},X.s₀.heap.get? b=some v->b≠a:=fun q e=>by rw [e,hnew] at q;cases q
 have slots:∀ b v,b∈frs X.outer->s.heap.get? b=some v->∃ sl,h'.get? b=some { v with slots:=sl }:=fun b v hb q=>by
  obtain⟨_,o1,q1,hd⟩:=I.stack.mem (b:=b) (inF b hb)
  rw [q] at q1
  cases q1
  exact up b v q hd
 have trk:∀ b v,drp H a b=some v->∃ w,s.heap.get? b=some w/\b≠a/\b∉frs X.stack:=fun b v e=>by
  obtain⟨n1,e⟩:=agC e
  obtain⟨w,q⟩:=(I.hok b v e).is
  exact⟨w,q,n1,fun z=>by rw [I.stkFree b z] at e;cases e⟩
 have inB:∀ b v,X.s₀.heap.get? b=some v->b∉frs X.outer->∃ o',(amc s.heap (a :: frs X.stack)).get? b=some o':=fun b v q hb=>by
  obtain⟨o1,q1⟩:=I.base.there b v q (ex0 b)
  exact⟨o1,hid q1 (ne q) (I.old_ne hst hf q hb)⟩
 have na:∀ {b:Addr} {v:HO},H b=some v->(∀ φ,v≠.ext φ)->b≠a:=fun {b v} q n e=>by
  rw [e,ha] at q
  cases q
  exact n _ rfl
 refine⟨I.os,I.bare,⟨fun b v q n hb _=>kp b v (I.base.keep b v q n hb (ex0 b)) (ne q) (I.old_ne hst hf q hb),fun b v q n hb _=>?_,fun b v q n _=>?_,fun b v q _=>?_,fun b xs q=>?_,fun b v w q=>?_,fun b ps q=>?_⟩,fun b v e=>?_,⟨_,_,⟨k1,hen,k2,k3⟩,inB,fun b v e=>?_⟩,hnew,aaT⟩
 ·obtain⟨sl,q1⟩:=I.base.slot b v q n hb (ex0 b)
  obtain⟨sl',q2⟩:=slots b _ hb q1
  exact⟨sl',q2⟩
 ·rw [qj (ne q)];exact I.base.free b v q n (ex0 b)
 ·obtain⟨o1,q1⟩:=I.base.there b v q (ex0 b)
  by_cases hb:b∈frs X.outer
  ·obtain⟨sl',q2⟩:=slots b _ hb q1
   exact⟨_,q2⟩
  ·exact⟨_,kp b o1 q1 (ne q) (I.old_ne hst hf q hb)⟩
 ·have q1:=I.base.tups b xs q
  rw [qj (na q1 fun φ z=>by cases z)];exact q1
 ·have q1:=I.base.frzs b v w q
  rw [qj (na q1 fun φ z=>by cases z)];exact q1
 ·obtain⟨more,q1⟩:=I.base.tbls b ps q
  exact⟨more,by rw [qj (na q1 fun φ z=>by cases z)];exact q1⟩
 ·obtain⟨n1,e1⟩:=agC e
  refine (I.hok b v e1).stay (fun c w hc' q=>?_) (fun c q=>by rw [qj (na q fun φ z=>by cases z)];exact q) fun c xs q=>by rw [qj (na q fun φ z=>by cases z)];exact q
  rcases hc' with rfl | hc'
  ·obtain⟨_,_,n2,n3⟩:=trk c v e
   exact kp c w q n2 n3
  ·have e2:drp H a c=some (.own b):=by rw [qj (na hc' fun φ z=>by cases z)];exact hc'
   obtain⟨_,_,n2,n3⟩:=trk c _ e2
   exact kp c w q n2 n3
 ·obtain⟨w,q,n1,n2⟩:=trk b v e
  exact⟨w,hid q n1 n2⟩
end
end L2
end
section
namespace L2
open PySem PySem.Spec PyProof.Rows PySem.Builtin Builtin Builtin.ObjectAttr
noncomputable def vF (K:akq) (C f:Addr) (bmB:List Value) (newId:String):Bool :=
 match K.lookup C with
 | some ⟨c0,_,.cls cd,sl⟩=>c0 == .type "type" && cd.mro.head? == some (.ref C) && cd.hasDel == false && cd.hasDict && PySem.W.tailIn K bmB cd.mro.tail && PySem.W.nsOkIn K cd.ns && akJ K cd.ns "__init__" == some (some (.ref f))
   && sl.toList.length == 6 && sl.toList[4]? == some (some (.builtin newId))
 | _=>false
structure XCls (h:Heap) (C f:Addr) (bmB:List Value) (newId:String):Prop where
 ex:∃ nm q N bs bm sn sub ab col dd k0 k1 k2 k3 k5 mN,h.get? C=some (excClassObj nm q C N bs bm true sn sub ab col dd k0 k1 k2 k3 k5 newId)/\h.Ns N mN/\mN "__init__"=some (.ref f)/\OwnTail h bmB bm
theorem ahM {K:akq} {h:Heap} {N:Addr} {m:Str->Option Value} {n:Str} {v:Value} (X:K.In h) (G:h.Ns N m) (e:akJ K N n=some (some v)):m n=some v:=by
 obtain⟨o,es,ep,ho,hd,_,hf⟩:=G
 unfold akJ at e
 split at e
 ·rename_i lk
  have z:=X _ _ lk
  rw [ho] at z
  cases z
  cases hd
  have z2:=hf n
  unfold nsFind findBy at z2
  rw [<-Array.find?_toList] at z2
  cases q:List.find? (fun x=>x.key.isStr n) es.toList with
  | none=>rw [q] at e;dsimp only at e;split at e <;> cases e
  | some y =>
   rw [q] at e z2
   cases e
   exact z2.symm
 ·cases e
theorem aji {sl:Array (Option Value)} {v:Value} (h:sl.toList.length=6) (h4:sl.toList[4]?=some (some v)):∃ k0 k1 k2 k3 k5,sl=#[k0,k1,k2,k3,some v,k5]:=by
 obtain⟨l⟩:=sl
 match l,h with
 | [a,b,c,d,e,f],_ =>
  have:e=some v:=by simpa using h4
  subst this
  exact⟨a,b,c,d,f,rfl⟩
theorem vG {K:akq} {h:Heap} {C f:Addr} {bmB:List Value} {newId:String} (Y:K.In h) (e:vF K C f bmB newId=true):XCls h C f bmB newId:=by
 unfold vF at e
 split at e
 case h_2=>cases e
 case h_1 c0 dd cd sl lk =>
  simp only [alk,beq_iff_eq] at e
  obtain⟨⟨⟨⟨⟨⟨⟨⟨e0,e1⟩,e2⟩,e3⟩,e4⟩,e5⟩,e6⟩,e7⟩,e8⟩:=e
  obtain⟨k0,k1,k2,k3,k5,rfl⟩:=aji e7 e8
  obtain⟨nm,bs,mro,ns,qn,hd,sn,sub,ab,col,del⟩:=cd
  dsimp only at e1 e2 e3 e4 e5 e6
  cases mro with
  | nil=>cases e1
  | cons z bm =>
   cases e1
   subst e0 e2 e3
   have G:h.Ns ns (h.nsMap ns):=.of_isNs (PySem.W.isNs_of_in Y e5)
   exact⟨nm,qn,ns,bs,bm,sn,sub,ab,col,dd,k0,k1,k2,k3,k5,_,Y _ _ lk,G,ahM Y G e6,PySem.W.tail_of_in Y e4⟩
section
variable {prog:Program} {w:World} {A:Around} {E:Value->Shared->Prop} {h:Heap} {g:Array GenState} {d:Drawn} {t:Nat} {os:OsState}
variable {C fI e:Addr} {bmB:List Value} {B newId initId:String}
theorem agD (F:ExcBaseFacts B newId initId bmB) {K:akq} {rest:List Value} {Q:Value->Shared->Prop} (X:K.In h) (Y:XCls h C fI bmB newId) (hf:PySem.W.typeIn K (.ref fI)=some (.type "function")) (hrest:rest.length<=sizeLine)
  (go:∀ h' e,Heap.MadeExcOf h h' e (.ref C) rest->wpAny (model prog w) (A.under (.builtin "type.__call__" ⟨.ref C :: rest,[]⟩)) (call (.ref fI) (.ref e :: rest)) (fun r s'=>r=.none/\Q (.ref e) s') E ⟨h',g,d,t,os⟩) :
  wpAny (model prog w) A (call (.ref C) rest) Q E ⟨h,g,d,t,os⟩:=by
 obtain⟨nm,q,N,bs,bm,sn,sub,ab,col,dd,k0,k1,k2,k3,k5,mN,hC,hn,hi,T⟩:=Y.ex
 have l1:=tc_lookup
 have l2:=tc_bind (.ref C)
 have hT:(⟨h,g,d,t,os⟩:Shared).TypeIs (.ref C) "type":=⟨_,hC,rfl⟩
 refine wpAny_call (codeAny_of_tree ?_)
 show wpAny _ _ (callAny (.ref C) _) _ _ _
 repeat (any_goals (first | with_reducible refine wpAny_loadPart_at hC ?_ | wp_step | assumption))
 refine⟨rfl,?_⟩
 refine codeAny_call_builtin_at (amL _ (by decide +kernel)) entry_typeCall (wpAny_check_type_call_sub hC ?_)
 show wpAny _ _ (Builtin.«type.__call__» ⟨.ref C :: rest,[]⟩) _ _ _
 repeat (first | with_reducible refine wpAny_madeBy_exc hC ?_ | with_reducible refine wpAny_loadPart_at hC ?_ | wp_step)
 refine codeAny_call_builtin_code (amL _ F.quiet) (wpAny_check_new_subT F T hC (codeAny_exc_new_subT F T hC ?_ hrest))
 show wpAny _ _ _ _ _ _
 have up:∀ b o,h.get? b=some o->((h.push { cls:=.type "tuple",data:=.seq rest.toArray }).push { cls:=.ref C,data:=.fields #[.ref h.objs.size,.none,.none,.none,.bool false,.none] }).get? b=some o :=
  fun b o z=>aku _ (aku _ z)
 have gE:((h.push { cls:=.type "tuple",data:=.seq rest.toArray }).push { cls:=.ref C,data:=.fields #[.ref h.objs.size,.none,.none,.none,.bool false,.none] }).get? (h.objs.size+1) =
   some { cls:=.ref C,data:=.fields #[.ref h.objs.size,.none,.none,.none,.bool false,.none] }:=amT (by simp only [al2]) rfl
 have gT:((h.push { cls:=.type "tuple",data:=.seq rest.toArray }).push { cls:=.ref C,data:=.fields #[.ref h.objs.size,.none,.none,.none,.bool false,.none] }).get? h.objs.size =
   some { cls:=.type "tuple",data:=.seq rest.toArray }:=aku _ (amT rfl rfl)
 have self:(Value.ref C :: bm).contains (.ref C)=true:=by simp
 have hC1:=up _ _ hC
 unfold isInstance
 repeat (first | with_reducible refine wpAny_loadPart_at gE ?_ | (dsimp only;with_reducible refine wpAny_isSubtype_exc hC1 ?_;rw [self]) | wp_step)
 show wpAny _ _ (typeLookup (.ref C) _) _ _ _
 refine wpAny_typeLookup_tail (up _ _ hC) (hn.keeps up) (T.keeps up) F.mroIs F.init.lookup ?_
 rw [hi]
 refine wpAny_holding (wpAny_bind ?_)
 refine (PySem.W.bind_fn (X.keeps up) (.ref (h.objs.size+1)) hf).at ?_
 refine (wpAny_bind (wpAny_mono (go _ (h.objs.size+1) ⟨up,alY (al3 _),h.objs.size,gE,alY (akA _),gT⟩) (fun r s' z=>?_) fun _ _ z=>z))
 obtain⟨rfl,z⟩:=z
 wp_walk
 exact z
theorem ae7 (F:ExcBaseFacts B newId initId bmB) {rest:List Value} {t0:Addr} {ot:Obj} {R:Result->Shared->Prop} {T0:List Value} (Y:XCls h C fI bmB newId)
  (he:h.get? e=some { cls:=.ref C,data:=.fields #[.ref t0,.none,.none,.none,.bool false,.none] }) (hrest:rest.length<=sizeLine)
  (go:∀ h',(∀ b o,b≠e->h.get? b=some o->h'.get? b=some o)->(∃ t1,h'.get? e=some { cls:=.ref C,data:=.fields #[.ref t1,.none,.none,.none,.bool false,.none] })->R (.ok (.ret .none)) ⟨h',g,d,t,os⟩) :
  codeAny (model prog w) A (.call (.builtin initId) ⟨.ref e :: rest,[]⟩) R ⟨h,g,d,t,os⟩:=by
 obtain⟨nm,q,N,bs,bm,sn,sub,ab,col,dd,k0,k1,k2,k3,k5,mN,hC,hn,hi,T⟩:=Y.ex
 refine codeAny_call_builtin F.init.plain F.initEntry (wpAny_check_init_subT F T hC he rfl ?_)
 wp_walk
 refine go _ (fun b o n z=>?_) ⟨h.objs.size,?_⟩
 ·rw [akU _ _ (alo n)]
  exact aku _ z
 ·rw [alr _ (aku _ he) rfl]
  rfl
end
end L2
end
section
namespace L2
open PySem PySem.Spec PySem.W PyProof.Rows PySem.Calls PySem.Builtin Builtin Builtin.ObjectAttr
theorem acJ {h:Heap} {bmB bm:List Value} {self:Value} {what:Str} (T:OwnTail h bmB bm) (p:refuseLoop self what bmB=pure ()):refuseLoop self what bm=pure ():=by
 induction T with
 | base=>exact p
 | own _ _ _ _ ih=>rw [refuseLoop_ref];exact ih
noncomputable abbrev bare (C:Addr) (o:Option Addr) (t:Addr):Obj:={ cls:=.ref C,dict:=o,data:=.fields #[.ref t,.none,.none,.none,.bool false,.none] }
noncomputable abbrev bmV:List Value:=[.type "ValueError",.type "Exception",.type "BaseException",.type "object"]
section
variable {prog:Program} {w:World} {A:Around} {E:Value->Shared->Prop} {h:Heap} {g:Array GenState} {d:Drawn} {t:Nat} {os:OsState} {K:akq}
variable {C fI e t0:Addr} {name:Str} {v:Value}
theorem agE {M:Model} {Q:Option Addr->Shared->Prop} {nm q:Str} {N:Addr} {bs bm:List Value} {sn:List Str} {sub:List Value} {ab:Bool} {col:Option Bool} {dd:Option Addr} {k0 k1 k2 k3 k5:Option Value} {newId:String}
  (he:h.get? e=some (bare C none t0)) (hC:h.get? C=some (excClassObj nm q C N bs bm true sn sub ab col dd k0 k1 k2 k3 k5 newId))
  (go:∀ h' dx,h.objs.size<=dx->h'.get? dx=some { cls:=.type "dict",data:=.dict #[] }->h'.get? e=some (bare C (some dx) t0)->(∀ b o,b≠e->h.get? b=some o->h'.get? b=some o)->Q (some dx) ⟨h',g,d,t,os⟩) :
  wpAny M A (ownDictForStores (.ref e)) Q E ⟨h,g,d,t,os⟩:=by
 have hne:e≠h.objs.size:=akN (akw he)
 unfold ownDictForStores instanceDict
 repeat (first | with_reducible refine wpAny_loadPart_at he ?_ | with_reducible refine wpAny_loadPart_at hC ?_ | wp_step)
 refine go _ h.objs.size (akA _) ((akU _ _ hne).trans (amT rfl rfl)) (alr _ (aku _ he) rfl) fun b o nb z=>?_
 exact (akU _ _ (alo nb)).trans (aku _ z)
theorem abu {Q:Unit->Shared->Prop} (X:K.In h) (Y:XCls h C fI bmV "ValueError.__new__") (he:h.get? e=some (bare C none t0)) (ob:mroIn K C (.type "object")=some true)
  (hsa:findIn K (.ref C) "__setattr__"=some (some (.builtin "object.__setattr__"))) (hna:findIn K (.ref C) name=some none)
  (go:∀ h' tk dx,h.objs.size<=dx->h'.get? e=some (bare C (some dx) t0)->h'.Ns1 dx (fun y=>if y=name then some v else none)->(∀ b o,b≠e->h.get? b=some o->h'.get? b=some o)->Q () ⟨h',g,d,tk,os⟩) :
  wpAny (model prog w) A (setAttr (.ref e) name v) Q E ⟨h,g,d,t,os⟩:=by
 obtain⟨nm,q,N,bs,bm,sn,sub,ab,col,dd,k0,k1,k2,k3,k5,mN,hC,hn,hi,T⟩:=Y.ex
 have SF:=PySem.F.store_ValueError
 have LT:Looks (model prog w) h (typeOf (.ref e)) (.ref C):=(Looks.ld he).andThen .now
 have LS:=looks_findIn (M:=model prog w) X hsa
 have LN:=looks_findIn (M:=model prog w) X hna
 have LI:Looks (model prog w) h (isInstance (.ref e) (.type "object")) true:=LT.andThen (looks_mroIn X ob)
 refine wpAny_bind (wpAny_mkText (wpAny_bind ?_))
 unfold callSpecial? specialOf
 refine wpAny_bind (wpAny_bind (LT.at (LS.at (wpAny_holding ?_))))
 rw [SF.slot.bind (.ref e)]
 refine wpAny_bind (wpAny_pure (wpAny_bind (wpAny_call (codeAny_call_builtin SF.slot.plain SF.entry (@check_slot (model prog w) _ _ ⟨h,g,d,t+1,os⟩ _ _ _ (.ref e) [.str name t,v] [] _ SF.kind SF.split LI (SF.args _ _ _) ?_)))))
 show wpAny _ _ (Builtin.«object.__setattr__» ⟨[.ref e,.str name t,v],[]⟩) _ _ _
 rw [osa_eq,refuse_eq]
 refine wpAny_bind (wpAny_bind (LT.at (wpAny_bind (wpAny_mroOf_exc hC ?_))))
 rw [refuseLoop_ref,acJ T (SF.passes _)]
 refine wpAny_pure (wpAny_bind (LT.at (wpAny_bind (LN.at (wpAny_bind (wpAny_pure ?_))))))
 dsimp only
 unfold storeInOwnDict
 refine wpAny_bind (wpAny_pure (wpAny_bind ?_))
 refine agE he hC fun h2 dx l2 g2 e2 k2=>?_
 have n2:h.get? dx=none:=alY l2
 show wpAny _ _ (storeInDict dx (.str name t) name v) _ _ _
 unfold storeInDict newKeyGuard
 refine wpAny_bind (wpAny_pure (wpAny_bind (wpAny_nsSet1 (Heap.Ns1.of_empty ⟨_,#[],_,g2,rfl,fun z hz=>absurd hz (by simp),fun _=>rfl⟩) fun h3 n3 s3=>?_)))
 obtain⟨o4,es4,ep4,ho4,hd4,hc4⟩:=n3.count (Within.cons name v Within.nil)
 refine wpAny_bind (wpAny_lookBehind ho4 (by rw [hd4];exact pastItsLine_dict (akV hc4 (by rw [ala,am5,sizeLine_eq];omega))) ?_)
 refine wpAny_pure (wpAny_pure (wpAny_pure ?_))
 have ne:e≠dx:=fun z=>by rw [z,n2] at he;cases he
 exact go h3 _ dx l2 ((s3.2 e ne).trans e2) n3 fun b o nb z=>(s3.2 b fun y=>by rw [y,n2] at z;cases z).trans (k2 b o nb z)
end
noncomputable def vH (K:akq) (C f D:Addr) (name:Str):Bool :=
 vF K C f bmV "ValueError.__new__" && am2 K (.ref f) && amt K C (.type "object") == some true && ak8 K (.ref C) "__setattr__" == some (some (.builtin "object.__setattr__"))
  && ak8 K (.ref C) name == some none && PySem.W.readsIn K D (.type "type") && alW K (.ref D) "__getattribute__" == some (some (.builtin "type.__getattribute__")) && ak0 K (.ref C)
  && (match PySem.W.findCls K (.ref D) (.type "type") "__init__" with | some (.val v)=>v == .builtin "ValueError.__init__" | _=>false)
structure FldC (K:akq) (C f D:Addr) (name:Str):Prop where
 wi:vF K C f bmV "ValueError.__new__"=true
 fn:PySem.W.typeIn K (.ref f)=some (.type "function")
 ob:amt K C (.type "object")=some true
 sa:ak8 K (.ref C) "__setattr__"=some (some (.builtin "object.__setattr__"))
 na:ak8 K (.ref C) name=some none
 rd:PySem.W.readsIn K D (.type "type")=true
 sp:alW K (.ref D) "__getattribute__"=some (some (.builtin "type.__getattribute__"))
 kp:ak0 K (.ref C)=true
 fi:PySem.W.findCls K (.ref D) (.type "type") "__init__"=some (.val (.builtin "ValueError.__init__"))
theorem FldC.of {K:akq} {C f D:Addr} {name:Str} (h:vH K C f D name=true):FldC K C f D name:=by
 unfold vH am2 at h
 simp only [alk,beq_iff_eq] at h
 obtain⟨⟨⟨⟨⟨⟨⟨⟨h1,h2⟩,h3⟩,h4⟩,h5⟩,h6⟩,h7⟩,h8⟩,h9⟩:=h
 refine⟨h1,h2,h3,h4,h5,h6,h7,h8,?_⟩
 split at h9
 ·rename_i v e
  rw [e,beq_iff_eq.mp h9]
 ·cases h9
theorem adz {P:Program} {w:World} {H:Hp} {h:Heap} {a:Addr} {C:Value} {o:Option Addr} (x:yp a C o h):ObjOk P w H h a (.ext (yp a C o)):=by
 obtain⟨t,e⟩:=x
 exact⟨⟨t,e⟩,⟨_,e⟩,fun h1 h2 p k=>let⟨t,e⟩:=p;⟨t,k _ e⟩⟩
theorem ajj {H:Hp} {a:Addr} {o:HO} (h:H a=some o):upd H a o=H:=by
 funext b
 by_cases e:b=a
 ·rw [e,zx,h]
 ·rw [zv e]
section
variable {X:Cx} {pins:List (Addr×Obj)} {σ:St} {H H':Hp} {s s':Shared} {h':Heap} {a b dx C D f:Addr} {o:HO} {t':Nat} {name:Str}
theorem Inv.born (I:Inv X pins σ H s) (k:∀ b u,s.heap.get? b=some u->h'.get? b=some u) (n:s.heap.get? a=none) (new:ObjOk X.prog X.w (upd H a o) h' a o):Inv X pins σ (upd H a o) { s with heap:=h',toks:=t' }:=by
 have hn:H a=none:=by
  cases q:H a with
  | none=>rfl
  | some u =>
   obtain⟨v,z⟩:=(I.hok a u q).is
   rw [n] at z;cases z
 have ne:∀ {c:Addr} {u:Obj},s.heap.get? c=some u->c≠a:=fun q e=>by rw [e,n] at q;cases q
 have nh:∀ {c:Addr} {u:HO},H c=some u->upd H a o c=some u:=fun q=>by rw [zv (zP q hn)];exact q
 refine I.un ⟨fun c u q _ _ _=>k c u q,fun c u q _ _ _=>⟨u.slots,k c u q⟩,fun c u q m _=>by rw [zv (ne q)];exact m,fun c u q _=>⟨u,k c u q⟩,fun c xs q=>nh q,fun c u xs q=>nh q,fun c ps q=>⟨#[],by rw [nh q];simp⟩⟩ fun c u q=>?_
 by_cases e:c=a
 ·subst e;rw [zx] at q;cases q;exact new
 ·rw [zv e] at q
  exact (I.hok c u q).stay (fun x v _ z=>k x v z) (fun x z=>nh z) fun x xs z=>nh z
theorem Inv.field {y:V} {u:Value} (I:Inv X pins σ H s) (ha:H a=some (.ext (yp a (.ref C) none))) (hd:s.heap.objs.size<=dx) (ry:RelV y u) (he:yp a (.ref C) (some dx) h') (hn:h'.Ns1 dx fun x=>if x=name then some u else none)
  (k:∀ b o,b≠a->s.heap.get? b=some o->h'.get? b=some o):Inv X pins σ (upd (upd H dx (.xd [(name,y)])) a (.ext (yp a (.ref C) (some dx)))) { s with heap:=h',toks:=t' }:=by
 have hdn:=I.hok.fresh hd
 have nd:∀ {c:Addr} {v:Obj},s.heap.get? c=some v->c≠dx:=fun q=>akN (akG (akw q) hd)
 have na:∀ {c:Addr} {v:HO},H c=some v->(∀ φ,v≠.ext φ)->c≠a:=fun {c v} q n e=>by
  rw [e,ha] at q
  cases q
  exact n _ rfl
 have nh:∀ {c:Addr} {v:HO},H c=some v->(∀ φ,v≠.ext φ)->upd (upd H dx (.xd [(name,y)])) a (.ext (yp a (.ref C) (some dx))) c=some v:=fun q n=>by
  rw [zv (na q n),zv (zP q hdn)];exact q
 have nn:∀ {c:Addr},H c=none->c≠a:=fun m e=>by rw [e,ha] at m;cases m
 refine I.un ⟨fun c v q m _ _=>k c v (nn m) q,fun c v q m _ _=>⟨v.slots,k c v (nn m) q⟩,fun c v q m _=>by rw [zv (nn m),zv (nd q)];exact m,fun c v q _=>?_,fun c xs q=>nh q fun φ z=>(by cases z),fun c v xs q=>nh q fun φ z=>(by cases z),
  fun c ps q=>⟨#[],by rw [nh q fun φ z=>(by cases z)];simp⟩⟩ fun c v q=>?_
 ·by_cases e:c=a
  ·subst e;obtain⟨t,z⟩:=he;exact⟨_,z⟩
  ·exact⟨v,k c v e q⟩
 ·by_cases e:c=a
  ·subst e;rw [zx] at q;cases q;exact adz he
  ·rw [zv e] at q
   by_cases e2:c=dx
   ·subst e2
    rw [zx] at q
    cases q
    refine⟨_,hn,fun g=>?_⟩
    by_cases eg:g=name
    ·subst eg
     rw [if_pos rfl,akX,beq_self_eq_true]
     exact ry
    ·rw [if_neg eg,akX,beq_eq_false_iff_ne.mpr eg]
     exact trivial
   ·rw [zv e2] at q
    refine (I.hok c v q).stay (fun x w hx z=>k x w ?_ z) (fun x z=>nh z fun φ z=>(by cases z)) fun x xs z=>nh z fun φ z=>(by cases z)
    rcases hx with rfl | hx
    ·exact e
    ·exact na hx fun φ z=>(by cases z)
noncomputable def ae8 (C:Addr) (t:TA):TE:=fun σ H Q=>t σ H fun vs H1=>∃ a r,vs=.ref a :: r/\r.length<=1000/\H1 a=some (.ext (yp a (.ref C) none))/\Q .non H1
theorem acK {x:Str} {p apos pos:Pos} {e:Expr} {es:List Expr} {t:TA} {pl:Sem Bool} (T:FldC X.K C f D name) (hg:Gl X x) (hm:X.mg x=some (.ref D)) (ha:PA X (e :: es) t) (hdb:(x == ("__debug__":Str))=false:=by decide)
  (hst:starEach (e :: es) X.env=(false,eval e X.env) :: starEach es X.env:=by rfl) (hpl:(backTo pos (starEach es X.env)).any (·.1)=false:=by rfl)
  (ht:eval (.Call (.Attribute (.Name x p) "__init__" apos) (e :: es) [] pos) X.env=(do
   let ov <- eval (.Name x p) X.env
   standAt apos.atName
   let (f,first) <- holding [ov] (getMethod ov "__init__" pl)
   callWith pos f first (backTo pos (starEach (e :: es) X.env)) (backToKw pos (keywordEach [] X.env))):=by rfl) :
  PE X (.Call (.Attribute (.Name x p) "__init__" apos) (e :: es) [] pos) (ae8 C t):=by
 intro pins s σ H Q I h
 refine PySem.W.methodCall_KW (pl:=pl) (j6 I hg hm ?_ hdb) ht
 refine PySem.W.method_cls I.kIn T.sp (PySem.W.cls_value I.kIn T.rd T.fi rfl ?_)
 refine amr (thn (ha pos pins _ σ H _ (I.tok _) h) fun us s1 ⟨vs,H1,I1,r1,a,r,ev,hl,hH,q⟩=>?_) hst hpl
 subst ev
 cases r1 with
 | cons ra rr =>
  obtain rfl:=(show _=Value.ref a from ra)
  obtain⟨⟨t0,he⟩,_,_⟩:=I1.hok a _ hH
  obtain⟨hh,g,d,tk,os'⟩:=s1
  refine wpAny_call (ae7 (ot:=default) (T0:=[]) al4 (vG I1.kIn T.wi) he (by rw [<-Vals.length rr];exact ale (z9 hl)) fun h' k ⟨t1,e1⟩=>?_)
  have I2:=I1.write (x:=a) (e:=a) (o:=.ext (yp a (.ref C) none)) (h':=h') (t':=tk) (by rw [hH];exact trivial) (.inl rfl) (fun b u nb z=>k b u nb z) ⟨_,e1⟩ (adz ⟨t1,e1⟩)
  rw [ajj hH] at I2
  exact⟨.non,H1,I2,rfl,q⟩
noncomputable def aj3 (C:Addr) (name:Str) (ta tv:TE):TS:=fun D σ H=>tv σ H fun y H1=>ta σ H1 fun x H2=>∃ a,x=.ref a/\H2 a=some (.ext (yp a (.ref C) none))/\∀ dx,H2 dx=none->dx≠a->D.nx σ (upd (upd H2 dx (.xd [(name,y)])) a (.ext (yp a (.ref C) (some dx))))
theorem ahN {o value:Expr} {ta tv:TE} {pos' pos:Pos} (T:FldC X.K C f D name) (ha:PE X o ta) (hv:PE X value tv) (hs:swapsWith value (some (.Attribute o name pos')) pos.line X.env=pure false:=by rfl) :
  PS X (.Assign [.Attribute o name pos'] value pos) (aj3 C name ta tv):=by
 intro pins s σ H D' I h
 refine plainObj_wpAny_Assign_Attribute (thn (hv pins s σ H _ I h) fun u s1 ⟨y,H1,I1,ry,q⟩=>thn (ha pins s1 σ H1 _ I1 q) fun ov s2 ⟨x,H2,I2,rx,a,ex,hH,q2⟩=>?_) hs
 subst ex
 obtain rfl:ov=Value.ref a:=rx
 obtain⟨⟨t0,he⟩,_,_⟩:=I2.hok a _ hH
 obtain⟨hh,g,d,tk,os'⟩:=s2
 refine abu (K:=X.K) (t0:=t0) I2.kIn (vG I2.kIn T.wi) he T.ob T.sa T.na fun h' tk' dx hd e1 hn k=>?_
 refine⟨σ,_,I2.field hH hd ry ⟨t0,e1⟩ hn k,q2 dx (I2.hok.fresh hd) ?_⟩
 rintro rfl
 exact absurd (akw he) (anu.mpr hd)
noncomputable def ab2 (C:Addr) (name:Str):Sp:=fun vs H Q _=>∃ a y,vs=[.ref a,y]/\H a=some (.ext (yp a (.ref C) none))/\∀ dx,H dx=none->dx≠a->Q .non (upd (upd H dx (.xd [(name,y)])) a (.ext (yp a (.ref C) (some dx))))
end
section
variable {M:Model} {A:Around} {E:Value->Shared->Prop} {s:Shared} {C e:Addr}
theorem ae9 {env:Env} {x:Sem Value} {Q:Flow->Shared->Prop} {bmB:List Value} {newId B initId:String} {f:Addr} (F:ExcBaseFacts B newId initId bmB) (hh:A.handled=none)
  (h:wpAny M A x (fun v s1=>∃ a o t,v=.ref a/\XCls s1.heap C f bmB newId/\s1.heap.get? a=some (bare C o t)/\E (.ref a) s1) E s):wpAny M A (raiseStmt env (some x) none) Q E s:=by
 unfold raiseStmt
 refine wpAny_bind (wpAny_mono h (fun v s1 z=>?_) fun _ _ z=>z)
 obtain⟨a,o,t,rfl,Y,he,hE⟩:=z
 obtain⟨nm,q,N,bs,bm,sn,sub,ab,col,dd,k0,k1,k2,k3,k5,mN,hC,hn,hi,T⟩:=Y.ex
 have base:(Value.ref C :: bm).contains (.type "BaseException")=true:=by rw [List.contains_cons,T.hasType F.hasBase,anz]
 obtain⟨hp,g,d,tk,os⟩:=s1
 repeat (first | with_reducible refine wpAny_loadPart_at he ?_ | with_reducible refine wpAny_loadPart_at hC ?_ | (with_reducible refine wpAny_isSubtype_exc hC ?_;rw [base]) | wp_step)
 exact wpAny_raiseNew_none hh hE
end
section
variable {X:Cx} {pins:List (Addr×Obj)} {σ:St} {H H':Hp} {s s':Shared} {C D f:Addr} {name:Str} {k:Nat} {fd:FuncData} {ps:List Str}
theorem afa {Q:Value->Shared->Prop} {y:V} {u:Value} (T:FldC X.K C f D name) (F:FnOk X.prog X.w X.K X.mg X.base CX0 k f fd ps (ab2 C name)) (hr:Room (k+1) X.A) (hb:Binds X.K fd ps []) (I:Inv X pins σ H s) (r:RelV y u)
  (h:∀ a dx s',s.heap.get? a=none->H a=none->H dx=none->dx≠a->Inv X pins σ (upd (upd H dx (.xd [(name,y)])) a (.ext (yp a (.ref C) (some dx)))) s'->Q (.ref a) s'):wpAny (model X.prog X.w) X.A (call (.ref C) [u]) Q X.xe s:=by
 obtain⟨hh,g,d,tk,os⟩:=s
 refine agD al4 I.kIn (vG I.kIn T.wi) T.fn (show 1<=sizeLine by decide) fun h' e hm=>?_
 obtain⟨t0,he,_,_⟩:=hm.there
 have hn:H e=none:=by
  cases q:H e with
  | none=>rfl
  | some u =>
   obtain⟨v,z⟩:=(I.hok e u q).is
   rw [hm.new] at z;cases z
 have I2:=I.born (a:=e) (o:=.ext (yp e (.ref C) none)) (h':=h') (t':=tk) hm.keeps hm.new (adz ⟨t0,he⟩)
 have r2:Vals [V.ref e,y] [Value.ref e,u]:=.cons rfl (.cons r .nil)
 have sp:ab2 C name [V.ref e,y] (upd H e (.ext (yp e (.ref C) none))) (fun v H2=>v=.non/\∃ dx,upd H e (.ext (yp e (.ref C) none)) dx=none/\dx≠e/\H2=upd (upd (upd H e (.ext (yp e (.ref C) none))) dx (.xd [(name,y)])) e (.ext (yp e (.ref C) (some dx)))) E0 :=
  ⟨e,y,rfl,zx,fun dx h1 h2=>⟨rfl,dx,h1,h2,rfl⟩⟩
 have hl:[Value.ref e,u].length=ps.length:=by
  rw [<-Vals.length r2]
  exact F.len _ _ _ _ sp
 have b2:=hb { heap:=h',gens:=g,drawn:=d,toks:=tk,os:=os } [.ref e,u] I2.kIn (by rw [akY];exact hl)
 rw [akY] at b2
 refine wpAny_call (codeAny_mono (F.run _ X.stack _ _ ⟨[Value.ref e,u],[]⟩ [Value.ref e,u] _ _ E0 (hr.make C [u] []) (I2.env0.make C [u] []) b2 r2 sp) fun res s' z=>?_)
 cases res with
 | error e=>exact ak2 z
 | ok fl =>
  cases fl with
  | ret v =>
   obtain⟨v',H3,I3,rv,ev,dx,n1,n2,eH⟩:=I2.after z
   subst ev
   refine⟨rv,h e dx s' hm.new hn ?_ n2 ?_⟩
   ·rw [zv n2] at n1;exact n1
   ·rw [eH] at I3
    have eu:upd (upd (upd H e (.ext (yp e (.ref C) none))) dx (.xd [(name,y)])) e (.ext (yp e (.ref C) (some dx)))=upd (upd H dx (.xd [(name,y)])) e (.ext (yp e (.ref C) (some dx))):=by
     funext b
     by_cases e1:b=e
     ·rw [e1,zx,zx]
     ·rw [zv e1,zv e1]
      by_cases e2:b=dx
      ·rw [e2,zx,zx]
      ·rw [zv e2,zv e2,zv e1]
    rw [eu] at I3
    exact I3
  | next=>exact ak2 z
  | brk=>exact ak2 z
  | cont=>exact ak2 z
noncomputable def ab3 (C:Addr) (name:Str) (E:XK) (t:TA):TS:=fun _ σ H=>t σ H fun vs H1=>∃ y,vs=[y]/\∀ dx,H1 dx=none->E (.ref C) (some dx) (upd H1 dx (.xd [(name,y)]))
theorem afb {x:Str} {e0:Expr} {t:TA} {np cpos pos:Pos} {E:XK} (T:FldC X.K C f D name) (F:FnOk X.prog X.w X.K X.mg X.base CX0 k f fd ps (ab2 C name)) (hr:Room (k+1) X.A) (hb:Binds X.K fd ps [])
  (hxe:∀ e s',wpAny (model X.prog X.w) X.A (leaving X.env e) (fun _ s''=>CXf X.prog X.w X.outer X.H₀ X.s₀ E e s'') (fun _ _=>False) s'->X.xe e s')
  (hst:X.stack=X.env :: X.outer) (hf:X.env.frame=some X.env.locals) (hex:X.ex=[]) (hc:X.calm=true) (hg:Gl X x) (hm:X.mg x=some (.ref C)) (ha:PA X [e0] t)
  (hse:starEach [e0] X.env=(false,eval e0 X.env) :: starEach [] X.env:=by rfl) (hpl:(backTo cpos (starEach [] X.env)).any (·.1)=false:=by rfl) (hd:(x == ("__debug__":Str))=false:=by decide) :
  PS X (.Raise (some (.Call (.Name x np) [e0] [] cpos)) none pos) (ab3 C name E t):=by
 intro pins s σ H D' I h
 rw [arm_exec_Raise]
 refine wpAny_bind (wpAny_standAt ?_)
 show wpAny _ _ (raiseStmt X.env (some (do let v <- eval (.Call (.Name x np) [e0] [] cpos) X.env;standAt pos;pure v)) none) _ _ _
 refine ae9 (C:=C) (f:=f) al4 (I.ok.hd hc) (wpAny_bind ?_)
 refine wpAny_Call_Name_kw (j6 I hg hm ?_ hd)
 refine ame (h₀:=X.base) I.ok.mod.kin T.kp (thn (ha cpos pins s σ H _ I h) fun us s1 ⟨vs,H1,I1,r,y,ev,q⟩=>⟨I1.kIn,?_⟩) hse hpl
 subst ev
 cases r with
 | cons ry rn =>
  cases rn
  refine afa T F hr hb I1 ry fun a dx s2 n1 n2 n3 n4 I2=>wpAny_bind (wpAny_standAt (wpAny_pure ?_))
  have hH:upd (upd H1 dx (.xd [(name,y)])) a (.ext (yp a (.ref C) (some dx))) a=some (.ext (yp a (.ref C) (some dx))):=zx
  obtain⟨⟨t0,he⟩,_,_⟩:=I2.hok a _ hH
  refine⟨a,some dx,t0,rfl,vG I2.kIn T.wi,he,hxe _ _ ?_⟩
  have hnew:X.s₀.heap.get? a=none:=by
   cases z:X.s₀.heap.get? a with
   | none=>rfl
   | some o =>
    obtain⟨o1,z1⟩:=I1.base.there a o z (by rw [hex];simp)
    rw [n1] at z1;cases z1
  have ed:drp (upd (upd H1 dx (.xd [(name,y)])) a (.ext (yp a (.ref C) (some dx)))) a=upd H1 dx (.xd [(name,y)]):=by
   funext b
   by_cases e1:b=a
   ·rw [e1,aaT,zv (alo n4),n2]
   ·rw [qj e1,zv e1]
  have L:=ady (E:=fun _ _=>False) I2 hst hf hex hH hnew
  rw [ed] at L
  exact wpAny_mono L (fun _ s'' z=>⟨a,.ref C,some dx,_,rfl,z.1,z.2,q dx n3⟩) fun _ _ z=>z
theorem agF {P:Program} {w:World} {K:akq} {mg:Str->Option Value} {base:Heap} {N:List Str} {qual:Str} {scope:Scope} {f:Addr} {cd:Value} {A:Around} {outer:List Env} {s:Shared} {H:Hp} {E:XK} :
  ∀ e s',wpAny (model P w) (zV (CXf P w) P w K mg base N qual scope f cd A outer s H E).A (leaving (zV (CXf P w) P w K mg base N qual scope f cd A outer s H E).env e) (fun _ s''=>CXf P w outer H s E e s'') (fun _ _=>False) s' ->
   (zV (CXf P w) P w K mg base N qual scope f cd A outer s H E).xe e s':=fun e s' h=>wpAny_mono h (fun _ _ y=>y) fun _ _ z=>z.elim
theorem Fun.okF {P:Program} {w:World} {K:akq} {mg:Str->Option Value} {base:Heap} {x qual:Str} {st:Stmt} {f:Addr} {fd:FuncData} {N ps:List Str} {k:Nat} {sp:Sp} (F:Fun K x qual st f fd) (S:FnScope N ps (zj st)) (len:∀ vs H Q E,sp vs H Q E->vs.length=ps.length)
  (hbody:∀ (cdv:Value) (A:Around) (outer:List Env) (s:Shared) (H:Hp) (vs:List V) (Q:VK) (E:XK),Room k (A.deeper (envOfC qual (zj st) s.heap.objs.size f cdv))->sp vs H Q E ->
   ∃ t,PSs (zV (CXf P w) P w K mg base N qual (zj st) f cdv A outer s H E) (z6 st) t/\t { nx:=fun _ H'=>Q .non H',rt:=Q } (start N vs) H):FnOk P w K mg base (CXf P w) (k+1) f fd ps sp:=by
 obtain⟨oc,od,kV,doc,pm,an,cdv,ct,osl,rfl,lk,hcd⟩:=F.ex
 exact aih lk hcd S len fun A outer s H vs Q E hr hsp=>hbody cdv A outer s H vs Q E hr hsp
end
noncomputable def ExcAt (a:Addr) (C:Value) (o:Option Addr) (h:Heap):Prop:=∃ u,h.get? a=some u/\u.cls=C/\vX u=some .none/\∀ dx,o=some dx->u.dict=some dx
section
variable {X:Cx} {pins:List (Addr×Obj)} {σ:St} {H H1 H2:Hp} {s s1 s2:Shared} {a C0:Addr} {C:Value} {o:Option Addr} {i j:Nat} {n hx:Str} {b0:Stmt} {suite:List Stmt} {hp hpos:Pos} {ts:TS} {D:Ends}
theorem aj4 (I:Inv X pins σ H1 s1) (x:XLie X.prog X.w X.stack H1 s1 a C H2 s2) (dc:Dct a o s2.heap) (hst:X.stack=X.env :: X.outer) (hf:X.env.frame=some X.env.locals) (hN:X.N.Nodup) (hj:X.N[j]?=some n) (hn:X.env.scope.names.lookup n=some .local)
  (hg:Gl X hx) (hm:X.mg hx=some (.ref C0)) (hit:amj X.K C (.ref C0)=some true) (hs:PSs (X.marked (.ref a)) (b0 :: suite) ts) (h:ts (abY D j) (σ.set j (some (.ref a))) (upd H2 a (.ext (ExcAt a C o))))
  (hd:(hx == ("__debug__":Str))=false:=by decide) :
  wpAny (model X.prog X.w) X.A (noteFrame (.ref a) X.env) (fun _ t2=>wpAny (model X.prog X.w) X.A (setFlight (.ref a) none) (fun _ t3 =>
   wpAny (model X.prog X.w) X.A (handleBy (.ref a) X.env [.ExceptHandler (some (.Name hx hp)) (some n) (b0 :: suite) hpos]) (SP X pins D) X.xe t3) X.xe t2) X.xe s2:=by
 obtain⟨B,a0,fl,dom,trk⟩:=x.fly
 have fl0:=fl
 rw [hst] at fl0
 refine aeh (aeg _ _) (wpAny_looks_onW (by rw [I.ok.frames,hst]) hf fl0 (Q:=fun _ s'=>∃ h4,s'={ s2 with heap:=h4 }/\Heap.HeldW B (X.env :: X.outer) a C a0 X.env.locals h4/\s2.heap.UpToSlots h4) fun h4 held up4=>⟨h4,rfl,held,up4⟩) ?_
 rintro _ _ ⟨h4,rfl,held,up4⟩ kd4
 refine aeh (vY _ _) (wpAny_landsW held (Q:=fun _ s'=>∃ h5,s'={ s2 with heap:=h5 }/\am3 B (X.env :: X.outer) a C a0 h5/\h4.UpToSlots h5) fun h5 fl5 up5=>⟨h5,rfl,fl5,up5⟩) ?_
 rintro _ _ ⟨h5,rfl,fl5,up5⟩ kd5
 have mv:∀ {hh:Heap},B.StaysIn hh->s2.heap.UpToSlots hh->Un (frs X.stack) [] H1 H2 s1.heap hh/\HOk X.prog X.w H2 hh:=fun st up=>x.move fl dom trk st up
 have I5:Inv X pins σ H2 { s2 with heap:=h5 }:=I.call' (s':={ s2 with heap:=h5 }) x.os (mv fl5.1 (up4.trans up5)).1 (mv fl5.1 (up4.trans up5)).2 x.bare (fun b z=>absurd z (by simp))
 refine wpAny_handleBy_cons (codeAny_handlers_test (j6 (X:=X.marked (.ref a)) (I5.marked (.ref a)) hg hm ?_ hd)) (by intro q;cases q)
 obtain⟨ob,hob,hoc⟩:=fl5.there
 have LT:PySem.W.Looks (model X.prog X.w) h5 (typeOf (.ref a)) C:=by
  subst hoc
  exact (PySem.W.Looks.ld hob).andThen .now
 refine (PySem.W.exm_one I5.kIn LT hit).at (codeAny_handlers_suite_as ?_)
 refine aeh (vY _ _) (lands_againW fl5 (Q:=fun _ s'=>∃ h6,s'={ s2 with heap:=h6 }/\am3 B (X.env :: X.outer) a C a0 h6/\h5.UpToSlots h6) fun h6 fl6 up6=>⟨h6,rfl,fl6,up6⟩) ?_
 rintro _ _ ⟨h6,rfl,fl6,up6⟩ kd6
 obtain⟨un,ok⟩:=mv fl6.1 ((up4.trans up5).trans up6)
 have fr6:H2 a=none:=x.free
 have ne:∀ {b:Addr} {u:HO},H2 b=some u->upd H2 a (.ext (ExcAt a C o)) b=some u:=fun {b u} e=>by
  rw [zv fun z=>by rw [z,fr6] at e;cases e]
  exact e
 have here:ExcAt a C o h6:=by
  obtain⟨u,h1,h2⟩:=fl6.there
  obtain⟨v,z1,z2,z3⟩:=((dc.kd kd4).kd kd5).kd kd6
  rw [h1] at z1
  cases z1
  exact⟨u,h1,h2,z2,z3⟩
 have I7:Inv X pins σ (upd H2 a (.ext (ExcAt a C o))) { s2 with heap:=h6 }:=by
  refine I.call' (s':={ s2 with heap:=h6 }) x.os ⟨un.keep,un.slot,fun b u q m z=>?_,un.there,fun b xs q=>ne (un.tups b xs q),fun b u v q=>ne (un.frzs b u v q),fun b ps q=>?_⟩ (fun b u e=>?_) x.bare (fun b z=>absurd z (by simp))
  ·rw [zv fun e=>by rw [e,x.new] at q;cases q]
   exact un.free b u q m z
  ·obtain⟨more,q2⟩:=un.tbls b ps q
   exact⟨more,ne q2⟩
  ·by_cases hb:b=a
   ·subst hb
    rw [zx] at e
    cases e
    obtain⟨u,z⟩:=here
    exact⟨⟨u,z⟩,⟨u,z.1⟩,fun g1 g2 p k=>let⟨v,q1,q2⟩:=p;⟨v,k v q1,q2⟩⟩
   ·rw [zv hb] at e
    exact (ok b u e).stay (fun c v _ q=>q) (fun c q=>ne q) fun c xs q=>ne q
 refine jT (X:=X.marked (.ref a)) (v:=.ref a) (I7.marked _) hN hj (.inl hn) rfl (fun s8 I8=>?_) (.inr hn)
 refine wpAny_mono (hs pins s8 _ _ (abY D j) I8 h) (fun f s9 q=>?_) fun _ _ z=>z.elim
 show wpAny (model X.prog X.w) X.A (do bindName X.env n .none;unbindBehindTheSuite X.env n hpos) (fun _ t=>SP X pins D f t) X.xe s9
 cases f with
 | next =>
  obtain⟨σ',H',I9,q9⟩:=q
  exact abZ (I9.unmarked I.ok) hN hj hn fun s' I'=>⟨_,H',I',q9⟩
 | brk =>
  obtain⟨σ',H',I9,q9⟩:=q
  exact abZ (I9.unmarked I.ok) hN hj hn fun s' I'=>⟨_,H',I',q9⟩
 | cont =>
  obtain⟨σ',H',I9,q9⟩:=q
  exact abZ (I9.unmarked I.ok) hN hj hn fun s' I'=>⟨_,H',I',q9⟩
 | ret u =>
  obtain⟨v,σ',H',I9,r9,q9⟩:=q
  exact abZ (I9.unmarked I.ok) hN hj hn fun s' I'=>⟨v,_,H',I',r9,q9⟩
end
end L2
end
section
namespace L2
open PySem PySem.Spec PySem.W PyProof.Rows PySem.Calls PySem.Builtin Builtin Builtin.ObjectAttr Builtin.Getset_descriptor
section
variable {prog:Program} {w:World} {A:Around} {E:Value->Shared->Prop} {s:Shared} {K:akq} {a C f dx:Addr} {name:Str} {v:Value}
theorem agG {Q:Value->Shared->Prop} {o:Option Addr} {m:Str->Option Value} (X:K.In s.heap) (Y:XCls s.heap C f bmV "ValueError.__new__") (I:ExcAt a (.ref C) (some dx) s.heap) (Wy:ExcWays K C) (na:findIn K (.ref C) name=some none) (hn:s.heap.Ns1 dx m) (hm:m name=some v) (hh:handedIn v=true)
  (h:Q v { s with toks:=s.toks+1 }):wpAny (model prog w) A (getAttr (.ref a) name true) Q E s:=by
 obtain⟨u,hu,hc,hnc,hd⟩:=I
 have II:aai a C s.heap:=⟨u,hu,hc⟩
 obtain⟨nm,q,N,bs,bm,sn,sub,ab,col,dd,k0,k1,k2,k3,k5,mN,hC,hN,hi,T⟩:=Y.ex
 obtain⟨hh',g,d,t,os⟩:=s
 have L0:=qM (M:=model prog w) II
 have L1:=looks_findIn (M:=model prog w) X Wy.ga
 have L2:=looks_findIn (M:=model prog w) X Wy.gt
 have L3:=looks_findIn (M:=model prog w) X na
 unfold getAttr getAttrBy
 refine wpAny_bind (wpAny_mkText (wpAny_holding (wpAny_bind (L0.at (wpAny_bind (L1.at ?_))))))
 dsimp only
 rw [if_neg (by
  have z:(Value.builtin "BaseException.__getattribute__" == Value.builtin "object.__getattribute__")=false:=by decide +kernel
  rw [z,alS]
  exact akr)]
 unfold getAttrByItsOwn hookBefore
 rw [if_pos (show onTheHeap (Value.ref C)=true from rfl)]
 refine wpAny_bind (L2.at (wpAny_bind (wpAny_attempt (wpAny_holding ?_))))
 unfold callGetattribute
 rw [if_neg (show ¬ (true && onTheHeap (Value.builtin "BaseException.__getattribute__"))=true by decide)]
 unfold boundAndCalled
 rw [amM.ga.bind (.ref a)]
 refine wpAny_bind (wpAny_pure ?_)
 dsimp only
 refine wpAny_call (codeAny_call_builtin amM.ga.plain PySem.F.entry_bexc_ga (acF (K:=K) (C:=C) X II Wy ?_))
 unfold Builtin.«object.__getattribute__»
 refine wpAny_bind (wpAny_of_eq (a:=(Value.ref a,[Value.str name t])) rfl ?_)
 dsimp only
 refine wpAny_bind (wpAny_of_eq (a:=name) rfl ?_)
 refine wpAny_bind (L0.at (wpAny_bind ?_))
 unfold find
 refine wpAny_bind (L3.at (wpAny_bind (wpAny_pure (wpAny_bind (wpAny_pure ?_)))))
 dsimp only
 unfold ownThenClass
 refine wpAny_bind ?_
 have own:wpAny (model prog w) A.in1 (inOwnDict name (.ref a)) (fun r s'=>r=some v/\s'=⟨hh',g,d,t+1,os⟩) (fun _ _=>False) ⟨hh',g,d,t+1,os⟩:=by
  unfold inOwnDict ObjectAttr.ownDict loadHead
  refine wpAny_bind (wpAny_bind (wpAny_loadPart_at hu ?_))
  have go:wpAny (model prog w) A.in1 (instanceDict a false) (fun r s'=>wpAny (model prog w) A.in1 (inDict name r) (fun r s'=>r=some v/\s'=⟨hh',g,d,t+1,os⟩) (fun _ _=>False) s') (fun _ _=>False) ⟨hh',g,d,t+1,os⟩:=by
   unfold instanceDict
   refine wpAny_bind (wpAny_loadPart_at hu ?_)
   rw [hc,hd dx rfl]
   refine wpAny_bind (wpAny_bind (wpAny_loadPart_at hC (wpAny_pure ?_)))
   dsimp only
   refine wpAny_pure (wpAny_nsGet hn.ns ?_)
   exact⟨hm,rfl⟩
  cases q:u.data with
  | cls c=>rw [vX,q] at hnc;cases hnc
  | _=>exact go
 refine wpAny_mono own (fun r s' z=>?_) fun _ _ z=>z.elim
 obtain⟨rfl,rfl⟩:=z
 dsimp only
 refine wpAny_bind (wpAny_rule (wpAny_pure ?_))
 dsimp only
 refine wpAny_pure ?_
 show wpAny _ _ (handedOut v) _ _ _
 rw [handedOut_of hh]
 exact wpAny_pure h
end
theorem ajk {h:Heap} {a C:Addr} {o:Option Addr} (x:ExcAt a (.ref C) o h):aai a C h:=let⟨u,h1,h2,_⟩:=x;⟨u,h1,h2⟩
noncomputable def ajl (K:akq):List V->Hp->VK->Prop:=fun xs H Q=>∃ a C o c b,xs=[.ref a,c]/\H a=some (.ext (ExcAt a (.ref C) o))/\ExcWays K C/\((∃ n,c=.ty n/\akI K (.ref C) (.type n)=some b) \/ ∃ D,c=.ref D/\akI K (.ref C) (.ref D)=some b)/\Q (.bl b) H
theorem yy {X:Cx} {K:akq} (hK:X.K=K):yn X (.builtin "isinstance") (ajl K):=by
 subst hK
 intro pins s σ H xs us Q I r h
 obtain⟨a,C,o,c,b,rfl,hH,Wy,hc,q⟩:=h
 obtain⟨u,w',rfl,rx,rn⟩:=vals2 r
 cases rx
 have hI:aai a C s.heap:=ajk (I.hok a _ hH).1
 rcases hc with⟨n,rfl,hk⟩ | ⟨D,rfl,hk⟩ <;> cases rn <;> exact PySem.W.kia_one (agj Wy) I.kIn hI hk (fun z=>nomatch z) fun tk=>⟨.bl b,H,I.tok tk,rfl,q⟩
noncomputable def air (K:akq) (name:Str) (ta:TE):TE:=fun σ H Q=>ta σ H fun x H1=>∃ a C f D dx y,x=.ref a/\FldC K C f D name/\ExcWays K C/\H1 a=some (.ext (ExcAt a (.ref C) (some dx)))/\H1 dx=some (.xd [(name,y)])/\Q y H1
theorem acL {y:V} {u:Value} (r:RelV y u):handedIn u=true:=by
 cases y <;> first | (cases r;rfl) | (obtain⟨t,rfl⟩:=r;rfl)
theorem afc {X:Cx} {K:akq} {e:Expr} {ta:TE} {name:Str} {pos:Pos} (hK:X.K=K) (he:PE X e ta) (hb:attributeBase e name X.env (eval e X.env)=eval e X.env:=by rfl):PE X (.Attribute e name pos) (air K name ta):=by
 subst hK
 intro pins s σ H Q I h
 refine ahm hb (thn (he pins s σ H _ I h) fun u s1 ⟨x,H1,I1,rx,a,C,f,D,dx,y,ex,T,Wy,hH,hD,q⟩=>?_)
 subst ex
 obtain rfl:u=Value.ref a:=rx
 obtain⟨m,hn,hm⟩:=I1.hok dx _ hD
 have hy:=hm name
 rw [akX,beq_self_eq_true] at hy
 cases z:m name with
 | none=>rw [z] at hy;exact hy.elim
 | some u =>
  rw [z] at hy
  have ry:RelV y u:=hy
  exact agG (o:=none) I1.kIn (vG I1.kIn T.wi) (I1.hok a _ hH).1 Wy T.na hn z (acL ry) ⟨y,H1,I1.tok _,ry,q⟩
noncomputable def PBy (X:Cx) (body:List Stmt) (tb:XK->TS):Prop:=∀ (pins:List (Addr×Obj)) (s:Shared) (σ:St) (H:Hp) (D:Ends) (E:XK),Inv X pins σ H s->tb E D σ H ->
 wpAny (model X.prog X.w) X.A (execs body X.env) (SP X pins D) (fun e s'=>∃ H1 s1,Inv X pins σ H1 s1/\CXf X.prog X.w X.stack H1 s1 E e s') s
section
variable {X:Cx} {k:Nat} {f:Addr} {fd:FuncData} {ps:List Str} {sp:Sp} {t:TA} {fx y:Str} {e0:Expr} {es:List Expr} {p py cpos spos pos:Pos} {rest:List Stmt} {tr:TS} {i:Nat}
theorem ahO {pins:List (Addr×Obj)} {σ:St} {H:Hp} {s:Shared} {E:XK} {Q:VK} (F:FnOk X.prog X.w X.K X.mg X.base (CXf X.prog X.w) k f fd ps sp) (hr:Room k X.A) (hgf:Gl X fx) (hmf:X.mg fx=some (.ref f)) (hk:ak0 X.K (.ref f)=true) (hb:L2.Binds X.K fd ps [])
  (ha:PA X.nox (e0 :: es) t) (I:Inv X pins σ H s) (h:t σ H fun vs H1=>sp vs H1 Q E)
  (hdf:(fx == ("__debug__":Str))=false) (he:starEach (e0 :: es) X.env=(false,eval e0 X.env) :: starEach es X.env) (hpl:(backTo cpos (starEach es X.env)).any (·.1)=false) :
  wpAny (model X.prog X.w) X.A (eval (.Call (.Name fx p) (e0 :: es) [] cpos) X.env) (EP X pins σ Q) (fun e s'=>∃ H1 s1,Inv X pins σ H1 s1/\CXf X.prog X.w X.stack H1 s1 E e s') s:=by
 refine wpAny_Call_Name_kw (j6 I hgf hmf ?_ hdf)
 refine ame (h₀:=X.base) I.ok.mod.kin hk (wpAny_mono (ha cpos pins s σ H _ (I.wish _) h) (fun us s1 q=>?_) fun _ _ z=>z.elim) he hpl
 obtain⟨vs,H1,I1',r,q⟩:=q
 have I1:Inv X pins σ H1 s1:=I1'.unwish
 refine⟨I1.kIn,?_⟩
 have b2:=hb s1 us I1.kIn (by rw [akY,<- r.length];exact F.len _ _ _ _ q)
 rw [akY] at b2
 refine wpAny_call (codeAny_mono (F.run X.A X.stack s1 H1 ⟨us,[]⟩ us vs _ _ hr I1.env0 b2 r q) fun res s' z=>?_)
 cases res with
 | error e=>exact⟨H1,s1,I1,z⟩
 | ok fl =>
  cases fl with
  | ret u=>exact I1.after z
  | next=>exact ak2 z
  | brk=>exact ak2 z
  | cont=>exact ak2 z
noncomputable def ais (sp:Sp) (t:TA):XK->TS:=fun E D σ H=>t σ H fun vs H1=>sp vs H1 (fun _ H2=>D.nx σ H2) E
theorem ahP (F:FnOk X.prog X.w X.K X.mg X.base (CXf X.prog X.w) k f fd ps sp) (hr:Room k X.A) (hgf:Gl X fx) (hmf:X.mg fx=some (.ref f)) (hk:ak0 X.K (.ref f)=true) (hb:L2.Binds X.K fd ps [])
  (ha:PA X.nox (e0 :: es) t)
  (hdf:(fx == ("__debug__":Str))=false:=by decide) (he:starEach (e0 :: es) X.env=(false,eval e0 X.env) :: starEach es X.env:=by rfl) (hpl:(backTo cpos (starEach es X.env)).any (·.1)=false:=by rfl)
  (hsw:swapsWith (.Call (.Name fx p) (e0 :: es) [] cpos) none spos.line X.env=pure false:=by rfl) :
  PBy X [.Expr (.Call (.Name fx p) (e0 :: es) [] cpos) spos] (ais sp t):=by
 intro pins s σ H D E I h
 refine wpAny_execs_cons (wpAny_Expr_any ?_ I.quiet hsw)
 refine wpAny_mono (ahO F hr hgf hmf hk hb ha I h hdf he hpl) (fun u s2 z=>?_) fun _ _ z=>z
 obtain⟨v,H2,I2,r2,q2⟩:=z
 exact wpAny_execs_nil ⟨σ,H2,I2,q2⟩
noncomputable def ait (K:akq) (C0:Addr) (tb:XK->TS) (j:Nat) (ts:Addr->TS):TS:=fun D σ H=>tb (fun C o H2=>amj K C (.ref C0)=some true/\∀ a,H2 a=none->ts a (abY D j) (σ.set j (some (.ref a))) (upd H2 a (.ext (ExcAt a C o)))) D σ H
theorem ahQ {body suite:List Stmt} {tb:XK->TS} {b0:Stmt} {hx n:Str} {hp hpos:Pos} {C0:Addr} {j:Nat} {tss:Addr->TS} (hB:PBy X body tb) (hN:X.N.Nodup) (hst:X.stack=X.env :: X.outer) (hf:X.env.frame=some X.env.locals) (hj:X.N[j]?=some n) (hn:X.env.scope.names.lookup n=some .local)
  (hg:Gl X hx) (hm:X.mg hx=some (.ref C0)) (hs:∀ a,PSs (X.marked (.ref a)) (b0 :: suite) (tss a)) (hd:(hx == ("__debug__":Str))=false:=by decide) :
  PS X (.Try body [.ExceptHandler (some (.Name hx hp)) (some n) (b0 :: suite) hpos] [] [] pos) (ait X.K C0 tb j tss):=by
 intro pins s σ H D I h
 refine wpAny_Try_except (wpAny_mono (hB pins s σ H D _ I h) (fun fl s1 z=>?_) fun e s' z=>?_)
 ·cases fl with
  | next=>exact wpAny_execs_nil z
  | brk=>exact z
  | cont=>exact z
  | ret u=>exact z
 ·obtain⟨H1,s1,I1,a,C,o,H2,rfl,x,dc,hit,hts⟩:=z
  exact aj4 (ts:=tss a) I1 x dc hst hf hN hj hn hg hm hit (hs a) (hts a x.free) hd
end
noncomputable abbrev XD:=Option (Str×PyData)
noncomputable def FieldIs (K:akq) (Hh:Hp):Option Addr->XD->Prop
 | none,none=>True
 | some dx,some (n,d)=>∃ v,Hh dx=some (.xd [(n,v)])/\Rep K Hh d v
 | _,_=>False
theorem FieldIs.mono {K:akq} {H H':Hp} (s:Same H H'):∀ {o:Option Addr} {x:XD},FieldIs K H o x->FieldIs K H' o x
 | none,none,_=>trivial
 | some dx,some (n,d),h=>let⟨v,h1,h2⟩:=h;⟨v,s _ _ h1,Rep.mono s d v h2⟩
 | none,some _,h=>h.elim
 | some _,none,h=>h.elim
noncomputable def jR (K:akq) (a:Addr) (C:Value) (x:XD):Hp->V->Prop:=fun Hh v=>∃ o,v=.ref a/\Hh a=some (.ext (ExcAt a C o))/\FieldIs K Hh o x
noncomputable def Wish (K:akq) (f:Fx) (E:XK) (H:Hp) (Z:Value->XD->Prop):Prop:=∀ C o x H',Goes f H H'->FieldIs K (hide H' f) o x->Z C x->E C o H'
theorem Wish.go {K:akq} {f:Fx} {E:XK} {H H1:Hp} {Z:Value->XD->Prop} (z:Wish K f E H Z) (g:Goes f H H1):Wish K f E H1 Z:=fun C o x H' g'=>z C o x H' (g.trans g')
noncomputable def PSf (K:akq) (f:Fx) (E:XK) (ts:TS) (ρ:zy) (D:DEnds) (Z:Value->XD->Prop):Prop:=∀ (σ:St) (H:Hp) (N:Ends),EnvOk K f ρ σ H->(∀ ρ' σ' H',Goes f H H'->EnvOk K f ρ' σ' H'->D.nx ρ'->N.nx σ' H') ->
 (∀ d v H',Goes f H H'->Rep K (hide H' f) d v->D.rt d->N.rt v H')->(∀ ρ' σ' H',Goes f H H'->EnvOk K f ρ' σ' H'->D.bk ρ'->N.bk σ' H')->(∀ ρ' σ' H',Goes f H H'->EnvOk K f ρ' σ' H'->D.ct ρ'->N.ct σ' H')->Wish K f E H Z->ts N σ H
noncomputable def spF {γ:Type} (K:akq) (n:Nat) (pre:γ->List DV->Prop) (post:γ->PyData->Prop) (exc:γ->Value->XD->Prop):Sp:=fun vs H Q E=>∃ f xs c,RepVs K f H xs vs/\xs.length=n/\FOk f H/\pre c xs /\
 (∀ r v H',Goes f H H'->Rep K (hide H' f) r v->post c r->Q v H')/\Wish K f E H (exc c)
section
variable {K:akq} {f:Fx} {ρ:zy} {E:XK} {te:TE} {ts tu:TS} {tt:TT} {t:TA} {P:PyData->Prop} {D:DEnds} {Z:Value->XD->Prop} {g:TG} {wi:TI}
theorem adA (h:PSd K f ts ρ D):PSf K f E ts ρ D Z:=fun σ H N e n r b c _=>h σ H N e n r b c
theorem ahR {C:Addr} {name:Str} (h:PAd K f t ρ fun xs=>∃ d,xs=[.dat d]/\Z (.ref C) (some (name,d))):PSf K f E (ab3 C name E t) ρ D Z:=fun σ H N e n r b c z =>
 h σ H _ e fun xs vs H1 g1 r1 ⟨d,ex,hz⟩=>by
  subst ex
  cases r1 with
  | @cons _ v _ _ rd rn =>
   cases rn
   refine⟨v,rfl,fun dx hn=>?_⟩
   have g2:Goes f H1 (upd H1 dx (.xd [(name,v)])):=.of_same (zW hn _) g1.2
   exact z (.ref C) (some dx) (some (name,d)) _ (g1.trans g2) ⟨v,zC (fresh_ne g1.2 hn) zx,Rep.mono g2.1 d v rd⟩ hz
theorem aiu (h:PSf K f E ts ρ { D with nx:=fun ρ'=>PSf K f E tu ρ' D Z } Z):PSf K f E (qD ts tu) ρ D Z:=fun σ H N e n r b c z =>
 h σ H _ e (fun ρ' σ' H' g' e' p=>p σ' H' N e' (fun ρ2 σ2 H2 g2=>n ρ2 σ2 H2 (g'.trans g2)) (fun d v H2 g2=>r d v H2 (g'.trans g2)) (fun ρ2 σ2 H2 g2=>b ρ2 σ2 H2 (g'.trans g2)) (fun ρ2 σ2 H2 g2=>c ρ2 σ2 H2 (g'.trans g2)) (z.go g')) r b c z
theorem akn (h:PTd K f tt ρ fun q=>if q=true then PSf K f E ts ρ D Z else PSf K f E tu ρ D Z):PSf K f E (abK tt ts tu) ρ D Z:=fun σ H N e n r b c z =>
 h σ H _ e fun q H1 g1 p=>by
  have go:∀ tx,PSf K f E tx ρ D Z->tx N σ H1:=fun tx p=>p σ H1 N (e.mono g1) (fun ρ2 σ2 H2 g2=>n ρ2 σ2 H2 (g1.trans g2)) (fun d v H2 g2=>r d v H2 (g1.trans g2)) (fun ρ2 σ2 H2 g2=>b ρ2 σ2 H2 (g1.trans g2)) (fun ρ2 σ2 H2 g2=>c ρ2 σ2 H2 (g1.trans g2)) (z.go g1)
  cases q with
  | false=>rw [if_neg akr] at p ⊢;exact go _ p
  | true=>rw [if_pos rfl] at p ⊢;exact go _ p
noncomputable def PYd (K:akq) (f:Fx) (tb:XK->TS) (ρ:zy) (D:DEnds) (Z:Value->XD->Prop):Prop:=∀ (E:XK),PSf K f E (tb E) ρ D Z
theorem ajm {γ:Type} {n:Nat} {pre:γ->List DV->Prop} {post:γ->PyData->Prop} {exc:γ->Value->XD->Prop} (c:γ)
  (h:PAd K f t ρ fun xs=>xs.length=n/\pre c xs/\(∀ r,post c r->D.nx ρ)/\∀ C x,exc c C x->Z C x):PYd K f (ais (spF K n pre post exc) t) ρ D Z:=fun E σ H N e nx rt bk ct z =>
 h σ H _ e fun xs vs H1 g1 r1 ⟨hl,hp,k,kz⟩=>⟨f,xs,c,r1,hl,g1.2,hp,fun r v H' g' r' p'=>nx _ _ H' (g1.trans g') (e.mono (g1.trans g')) (k r p'),fun C o x H' g' fi p'=>z C o x H' (g1.trans g') fi (kz C x p')⟩
theorem ajn {tb:XK->TS} {C0:Addr} {j:Nat} {tss:Addr->TS}
  (h:PYd K f tb ρ D fun C x=>amj K C (.ref C0)=some true/\∀ a,PSd K f (tss a) (ρ.set j (some (.mon (jR K a C x)))) { nx:=fun ρ'=>D.nx (ρ'.set j none),rt:=D.rt,bk:=fun ρ'=>D.bk (ρ'.set j none),ct:=fun ρ'=>D.ct (ρ'.set j none) }) :
  PSd K f (ait K C0 tb j tss) ρ D:=fun σ H N e nx rt bk ct=>by
 refine h _ σ H N e nx rt bk ct fun C o x H' g' fi ⟨hit,hs⟩=>⟨hit,fun a hn=>?_⟩
 have gn:Goes f H' (upd H' a (.ext (ExcAt a C o))):=.of_same (zW hn _) g'.ok
 have gg:=g'.trans gn
 have e2:=(e.mono gg).set j (x:=.mon (jR K a C x)) (v:=.ref a) fun H'' s''=>⟨o,rfl,s'' _ _ (zC (fresh_ne g'.ok hn) zx),FieldIs.mono (gn.1.trans s'') fi⟩
 have none_ok:∀ {ρ':zy} {σ':St} {H'':Hp},EnvOk K f ρ' σ' H''->EnvOk K f (ρ'.set j none) (σ'.set j none) H'':=fun {ρ' σ' H''} e'=>by
  refine⟨by rw [ald,ald];exact e'.len,fun q y hy=>?_,e'.fd⟩
  by_cases hq:j=q
  ·subst hq
   rw [amS] at hy
   rw [if_pos rfl] at hy
   split at hy <;> cases hy
  ·rw [ak5 hq] at hy ⊢
   exact e'.get q y hy
 exact hs a _ _ _ e2 (fun ρ' σ' H'' g'' e'' p''=>nx _ _ H'' (gg.trans g'') (none_ok e'') p'') (fun d v H'' g'' r'' p''=>rt d v H'' (gg.trans g'') r'' p'') (fun ρ' σ' H'' g'' e'' p''=>bk _ _ H'' (gg.trans g'') (none_ok e'') p'') (fun ρ' σ' H'' g'' e'' p''=>ct _ _ H'' (gg.trans g'') (none_ok e'') p'')
theorem agH {j:Nat} {C a:Addr} {x:XD} {c:V} {b:Bool} (hj:ρ[j]?=some (some (.mon (jR K a (.ref C) x)))) (Wy:ExcWays K C) (hk:(∃ n,c=.ty n/\akI K (.ref C) (.type n)=some b) \/ ∃ D,c=.ref D/\akI K (.ref C) (.ref D)=some b) (p:P (.bool b)) :
  PEd K f (tCB (ajl K) (zG (zO j) (zG (tC c) yR))) ρ P:=fun σ H Q e q=>by
 obtain⟨v,hv,r⟩:=e.get j _ hj
 obtain⟨o,rfl,hH,_⟩:=r H (zm H f)
 exact⟨_,hv,a,C,o,c,b,rfl,hH,Wy,hk,q _ _ H (.refl e.fd) (rep_bool.mpr rfl) p⟩
theorem agI {j:Nat} {C a fa Dc:Addr} {name:Str} {d:PyData} (hj:ρ[j]?=some (some (.mon (jR K a (.ref C) (some (name,d)))))) (T:FldC K C fa Dc name) (Wy:ExcWays K C) (p:P d):PEd K f (air K name (zO j)) ρ P:=fun σ H Q e q=>by
 obtain⟨v,hv,r⟩:=e.get j _ hj
 obtain⟨o,rfl,hH,fi⟩:=r (hide H f) (Same.refl _)
 cases o with
 | none=>exact fi.elim
 | some dx =>
  obtain⟨y,h1,h2⟩:=fi
  exact⟨_,hv,a,C,fa,Dc,dx,y,rfl,T,Wy,(zU hH).2,(zU h1).2,q d y H (.refl e.fd) h2 p⟩
end
structure FnInF (P:Program) (w:World) (K:akq) (mg:Str->Option Value) (base:Heap) (k:Nat) (x:Str) (ps:List Str) (sp:Sp):Prop where
 ex:∃ (f:Addr) (fd:FuncData),FnOk P w K mg base (CXf P w) k f fd ps sp/\mg x=some (.ref f)/\ak0 K (.ref f)=true/\Binds K fd ps []
section
variable {P:Program} {w:World} {K:akq} {mg:Str->Option Value} {base:Heap} {j k n:Nat} {x:Str} {st:Stmt} {ps N:List Str} {γ:Type} {pre:γ->List DV->Prop} {post:γ->PyData->Prop} {exc:γ->Value->XD->Prop} {sp:Sp}
theorem FnInF.mono (h:FnInF P w K mg base j x ps sp) (hk:j<=k):FnInF P w K mg base k x ps sp:=let⟨f,fd,a,b,c,d⟩:=h.ex;⟨f,fd,a.mono hk,b,c,d⟩
theorem Def.okF (F:Def K mg x st ps) (S:FnScope N ps (zj st)) (hn:ps.length=n)
  (h:∀ (fa:Addr) (cdv:Value) (A:Around) (outer:List Env) (s:Shared) (H:Hp) (E:XK),Room k (A.deeper (envOfC x (zj st) s.heap.objs.size fa cdv)) ->
   ∃ t,PSs (zV (CXf P w) P w K mg base N x (zj st) fa cdv A outer s H E) (z6 st) t/\∀ f xs c,xs.length=n->pre c xs->PSf K f E t (jm N xs) { nx:=fun _=>post c .none,rt:=post c } (exc c)) :
  FnInF P w K mg base (k+1) x ps (spF K n pre post exc):=by
 obtain⟨fa,fd,F1,F2,F3⟩:=F.ex
 refine⟨fa,fd,F1.okF S (fun vs H Q E h=>?_) (fun cdv A outer s H vs Q E hr hs=>?_),F3,F1.kp,F2⟩
 ·obtain⟨f,xs,c,r,hl,_⟩:=h
  rw [r.length,hl,hn]
 ·obtain⟨f,xs,c,r,hl,fo,hp,q,z⟩:=hs
  obtain⟨t,h1,h2⟩:=h fa cdv A outer s H E hr
  refine⟨t,h1,h2 f xs c hl hp _ H _ (y7 r fo) (fun ρ' σ' H' g' e' p=>q .none .non H' g' (rep_none.mpr rfl) p) (fun d v H' g' r' p=>q d v H' g' r' p) (fun _ _ _ _ _ z=>z.elim) (fun _ _ _ _ _ z=>z.elim) z⟩
end
noncomputable def ahS (s:Stmt):List Stmt:=match s with
 | .ClassDef _ _ _ b _ _ _ _ _ _ _=>b
 | _=>[]
structure FCls (K:akq) (mg:Str->Option Value) (x base:Str) (C:Addr) (name:Str) (st:Stmt) (ps:List Str):Prop where
 ex:∃ (f D:Addr) (fd:FuncData),FldC K C f D name/\mg x=some (.ref C)/\mg base=some (.ref D)/\Fun K "__init__" (x ++ ".__init__") st f fd/\Binds K fd ps []
structure InitOk (P:Program) (w:World) (K:akq) (mg:Str->Option Value) (base:Heap) (k:Nat) (C:Addr) (name:Str):Prop where
 ex:∃ (f D:Addr) (fd:FuncData) (ps:List Str),FldC K C f D name/\FnOk P w K mg base CX0 k f fd ps (ab2 C name)/\Binds K fd ps []
theorem afd {P:Program} {w:World} {K:akq} {mg:Str->Option Value} {base:Heap} {N:List Str} {qual:Str} {scope:Scope} {f:Addr} {cd:Value} {A:Around} {outer:List Env} {s:Shared} {H:Hp} {E:XK} {k:Nat} {C:Addr} {name x:Str} {e0:Expr} {t:TA} {np cpos pos:Pos}
  (G:InitOk P w K mg base k C name) (hr:Room (k+1) (zV (CXf P w) P w K mg base N qual scope f cd A outer s H E).A) (hg:Gl (zV (CXf P w) P w K mg base N qual scope f cd A outer s H E) x) (hm:mg x=some (.ref C)) (ha:PA (zV (CXf P w) P w K mg base N qual scope f cd A outer s H E) [e0] t)
  (hse:starEach [e0] (zV (CXf P w) P w K mg base N qual scope f cd A outer s H E).env=(false,eval e0 (zV (CXf P w) P w K mg base N qual scope f cd A outer s H E).env) :: starEach [] (zV (CXf P w) P w K mg base N qual scope f cd A outer s H E).env:=by rfl) (hpl:(backTo cpos (starEach [] (zV (CXf P w) P w K mg base N qual scope f cd A outer s H E).env)).any (·.1)=false:=by rfl) (hd:(x == ("__debug__":Str))=false:=by decide) :
  PS (zV (CXf P w) P w K mg base N qual scope f cd A outer s H E) (.Raise (some (.Call (.Name x np) [e0] [] cpos)) none pos) (ab3 C name E t):=by
 obtain⟨fI,D,fd,ps,T,F,hb⟩:=G.ex
 exact afb T F hr hb agF rfl rfl rfl rfl hg hm ha hse hpl hd
theorem InitOk.fld {P:Program} {w:World} {K:akq} {mg:Str->Option Value} {base:Heap} {k:Nat} {C:Addr} {name:Str} (h:InitOk P w K mg base k C name):∃ f D,FldC K C f D name:=let⟨f,D,_,_,T,_⟩:=h.ex;⟨f,D,T⟩
theorem adB {K:akq} {f:Fx} {ρ:zy} {P:PyData->Prop} {j:Nat} {C D a:Addr} {x:XD} {b:Bool} (hj:ρ[j]?=some (some (.mon (jR K a (.ref C) x)))) (Wy:ExcWays K C) (hk:akI K (.ref C) (.ref D)=some b) (p:P (.bool b)) :
  PEd K f (tCB (ajl K) (zG (zO j) (zG (tC (.ref D)) yR))) ρ P:=agH hj Wy (.inr ⟨D,rfl,hk⟩) p
theorem agJ {K:akq} {f:Fx} {ρ:zy} {D:DEnds} {tt:TT} {ts tu:TS} (h:PTd K f tt ρ fun _=>True) (h1:PSd K f ts ρ D) (h2:PSd K f tu ρ D):PSd K f (abK tt ts tu) ρ D:=jV fun σ H Q e q=>h σ H Q e fun b H' g _=>q b H' g (by cases b <;> simpa)
noncomputable def vI (K:akq) (C:Addr):Bool :=
 ak8 K (.ref C) "__getattribute__" == some (some (.builtin "BaseException.__getattribute__")) && ak8 K (.ref C) "__getattr__" == some none && ak8 K (.ref C) "__class__" == some (some (.builtin "object.__class__"))
  && alW K (.builtin "object.__class__") "__get__" == some (some (.builtin "getset_descriptor.__get__")) && PySem.W.takesIn K (.builtin "object.__class__") == some true && amt K C (.type "object") == some true && amt K C (.type "BaseException") == some true && (PySem.W.clsIn K C).isSome
theorem aei {K:akq} {C:Addr} (h:vI K C=true):ExcWays K C:=by
 unfold vI at h
 simp only [alk,beq_iff_eq] at h
 obtain⟨⟨⟨⟨⟨⟨⟨h1,h2⟩,h3⟩,h4⟩,h5⟩,h6⟩,h7⟩,h8⟩:=h
 exact⟨h1,h2,h3,h4,h5,h6,h7,h8⟩
theorem abd:entryFor table "proto.unchain"=some Builtin.«proto.unchain»:=entryFor_of_tree (by kernel_rfl)
section
variable {prog:Program} {w:World} {A:Around} {E:Value->Shared->Prop} {s:Shared}
theorem adC {α:Type} {e h:Addr} {u oe:Obj} {vs:Array Value} {Q:α->Shared->Prop} (hh:A.handled=some (.ref h)) (he:s.heap.get? e=some oe) (hd:oe.data=.fields vs) (h2:2<vs.size) (hu:s.heap.get? h=some u) (hf:vX u=some .none) (ne:h≠e)
  (q:∀ h',(∀ b o,b≠e->s.heap.get? b=some o->h'.get? b=some o)->(∃ o',h'.get? e=some o'/\o'.cls=oe.cls)->E (.ref e) { s with heap:=h' }):wpAny (model prog w) A (raiseNew (.ref e):Sem α) Q E s:=by
 unfold raiseNew
 refine wpAny_bind (wpAny_handled ?_)
 rw [hh]
 dsimp only
 rw [if_pos (show ((Value.ref h != Value.ref e)=true) from by simp [ne])]
 refine wpAny_bind (wpAny_holding (wpAny_runValue (codeAny_builtin abd ?_)))
 unfold vX at hf
 split at hf
 ·rename_i ws hw
  show wpAny _ _ (field (.ref h) 2 >>= _) _ _ s
  refine wpAny_bind (wpAny_field hu hw hf ?_)
  rw [if_pos (show ((Value.none == Value.none)=true) from rfl)]
  refine wpAny_bind (wpAny_pure (wpAny_pure ?_))
  show wpAny _ _ (updateField e 2 (.ref h) >>= fun _=>throw (Value.ref e)) _ _ _
  refine wpAny_bind ?_
  show wpAny _ _ (setField (.ref e) 2 (.ref h)) _ _ _
  refine wpAny_setField he hd h2 (wpAny_throw (q _ (fun b o nb z=>?_) ?_))
  ·exact (akU _ _ (alo nb)).trans z
  ·exact⟨_,alr _ he (Obj.isFreed_of_fields (Obj.data_mapFields hd _)),Obj.cls_mapFields _ _⟩
 ·cases hf
theorem abe {it l h:Addr} {i:Nat} {items:Array Value} {u:Obj} {Q:Option Value->Shared->Prop} (hh:A.handled=some (.ref h)) (hit:s.heap.IsListIter it l i) (hl:s.heap.IsList l items) (hx:items[i]?=none) (hu:s.heap.get? h=some u) (hf:vX u=some .none) (hne:h≠it)
  (q:∀ h',(∀ b o,b≠it->s.heap.get? b=some o->h'.get? b=some o)->Q none { s with heap:=h' }):wpAny (model prog w) A (pyNext (.ref it)) Q E s:=by
 obtain⟨o,ho,_,hd⟩:=id hit
 obtain⟨ol,hol,_,nl,hdl⟩:=hl
 refine wpAny_bind (wpAny_attempt (wpAny_callSpecial?_slot (name:=amB "__next__") hit.typeIs slot_listiter_next (wpAny_call_entry slot_listiter_next hit.typeIs entry_listiter_next ?_ (args_listiter_next _))))
 show wpAny _ _ (PySem.field (.ref it) 0 >>= _) _ _ s
 refine wpAny_bind (wpAny_field ho hd (x:=.ref l) rfl (a:=it) ?_)
 rw [if_neg (show ¬ (Value.ref l == Value.none)=true from akr)]
 refine wpAny_bind (wpAny_field ho hd (x:=.int i 0) rfl (wpAny_bind (wpAny_seqItems hol hdl ?_)))
 simp only [akR,hx]
 refine wpAny_bind (wpAny_rule (wpAny_bind (wpAny_setField ho hd (by simp) (wpAny_bind ?_))))
 simp only [newExc,newTuple]
 refine wpAny_bind (wpAny_newObj_type (wpAny_bind (m:=firstArgMember _ _) (wpAny_of_eq (a:=Value.none) (by first | rfl | (simp only [firstArgMember];rfl)) (wpAny_newObj_type ?_ (by size_fits)))) (by size_fits))
 have up:∀ b o,b≠it->s.heap.get? b=some o->∀ o1 o2:Obj,(((s.heap.update it (ans (·.setIfInBounds 0 Value.none))).push o1).push o2).get? b=some o:=fun b o nb z o1 o2=>aku _ (aku _ ((akU _ _ (alo nb)).trans z))
 refine adC (u:=u) hh (akS _ rfl) rfl (show 2<6 from by decide) (up h u hne hu _ _) hf ?_ fun h' kp ⟨o',e1,e2⟩=>?_
 ·exact fun z=>absurd (akw (aku _ ((akU _ _ (alo hne)).trans hu):((s.heap.update it (ans (·.setIfInBounds 0 Value.none))).push _).get? h=some u)) (by rw [z];exact alv _)
 ·refine wpAny_bind (wpAny_isInstance (T:="StopIteration") (b:=true) ⟨o',e1,e2⟩ isSubtype_stop (wpAny_pure (q h' fun b o nb z=>kp b o ?_ (up b o nb z _ _))))
  have lt:b<(s.heap.update it (ans (·.setIfInBounds 0 Value.none))).objs.size:=akw ((akU _ _ (alo nb)).trans z)
  exact akN (akG lt (by rw [al2];exact al3 _))
theorem adD (hh:A.handled=some (.ref h)) (I ax:Addr) (hne:ax≠I) (hI:h≠I) (u:Obj) (hf:vX u=some .none) (items:Array Value) :
  Walks prog w A I [I,ax,h] [I] items.size (fun i v=>items[i]?=some v) (fun i hp=>hp.IsListIter I ax i/\hp.IsList ax items/\hp.get? h=some u) where
 sub:=fun b hb=>by rw [akO.mp hb];exact akE
 frame:=fun _ _ _ st k=>⟨st.1.at fun o e=>k I (by simp) o e,st.2.1.at fun o e=>k ax (by simp) o e,k h (by simp) u st.2.2⟩
 item:=fun i s Q E hi st q=>wpAny_pyNext_list_item st.1 st.2.1 (x:=items[i]) (by simp [hi]) fun h' it' sb=>q _ h' s.toks (by simp [hi]) ⟨it',st.2.1.extBut sb.extBut hne,sb.extBut h u hI st.2.2⟩ fun b o nb e=>sb.extBut b o (fun z=>nb (by simp [z])) e
 done:=fun s Q E st q=>abe hh st.1 st.2.1 (by simp) st.2.2 hf hI fun h' k=>q h' s.toks fun b o nb e=>k b o (fun z=>nb (by simp [z])) e
 self:=fun _ _ _ _ st q=>wpAny_pyIter_listiter st.1 q
end
noncomputable def aiv (K:akq) (e:Addr):List V->Hp->VK->Prop:=fun xs H Q=>(∃ C o,H e=some (.ext (ExcAt e C o)))/\ahD K xs H Q
theorem afe {X:Cx} {K:akq} {e:Addr} (hK:X.K=K) (hm:X.A.handled=some (.ref e)):yn X (.builtin "any") (aiv K e):=by
 subst hK
 intro pins s σ H xs us Q I r h
 obtain⟨⟨C,o,he⟩,a,bs,rfl,hq,q⟩:=h
 obtain⟨v,rfl,r1⟩:=vals1 r
 cases r1
 obtain⟨its,rv,p,_⟩:=I.list hq
 have hl:=p.isList
 rw [vE rv] at hl
 obtain⟨u,hu,_,hf,_⟩:=(I.hok e _ he).1
 have lt:∀ {b:Addr} {o:Obj},s.heap.get? b=some o->b≠s.heap.objs.size:=fun z=>akN (akw z)
 have ha:a≠s.heap.objs.size:=by
  obtain⟨o,ho,_⟩:=hl
  exact lt ho
 refine call_any_walk (wpAny_pyIter_list hl ⟨s.heap.objs.size,_,_,_,_,_,_,rfl,adD (show (X.A.in1).handled=some (.ref e) from hm) _ a ha (lt hu) u hf _,⟨⟨_,akS _ rfl,rfl,rfl⟩,hl.at fun o z=>aku _ z,aku _ hu⟩,qN _ _ _ bs,fun h' tk hk=>?_⟩)
 refine⟨.bl _,H,I.kept (t':=tk) fun b o z=>hk b o (fun y=>lt z (akO.mp y)) (aku _ z),?_,q⟩
 show Value.bool _=Value.bool _
 rw [akx,akp,range_any]
structure RoomM (k:Nat) (A:Around):Prop where
 dp:A.depth+3 * k+5<recursionLimit
 un:A.units+16 * k+200<cLine
structure FnOkM (P:Program) (w:World) (K:akq) (mg:Str->Option Value) (base:Heap) (k:Nat) (f:Addr) (fd:FuncData) (ps:List Str) (sp:Addr->Sp):Prop where
 len:∀ a vs H Q E,sp a vs H Q E->vs.length=ps.length
 run:∀ (A:Around) (outer:List Env) (s:Shared) (H:Hp) (args:Args) (us:List Value) (vs:List V) (Q:VK) (a:Addr),A.handled=some (.ref a)->RoomM k A->Env0 P w K mg base A outer s H->BindsTo s fd args (ps.zip us)->Vals vs us->sp a vs H Q E0 ->
  codeAny (model P w) A (.call (.ref f) args) (CR CX0 outer P w H s Q E0) s
noncomputable def cxM (P:Program) (w:World) (K:akq) (mg:Str->Option Value) (base:Heap) (N:List Str) (qual:Str) (scope:Scope) (f:Addr) (cd:Value) (A:Around) (outer:List Env) (s:Shared) (H:Hp):Cx :=
 { zV CX0 P w K mg base N qual scope f cd A outer s H E0 with calm:=false,xe:=fun _ _=>False }
theorem ajo {P:Program} {w:World} {K:akq} {mg:Str->Option Value} {base:Heap} {k:Nat} {f:Addr} {name qual:Str} {params:Arguments} {body:List Stmt} {scope:Scope} {dV kV doc pm cdv ct oc:Value} {an od:Option Addr}
  {osl:Array (Option Value)} {N ps:List Str} {sp:Addr->Sp} (lk:K.lookup f=some ⟨oc,od,.func (ak6 name qual params body scope dV kV doc pm an cdv ct),osl⟩) (hcd:al1 K cdv qual=true) (S:FnScope N ps scope)
  (len:∀ a vs H Q E,sp a vs H Q E->vs.length=ps.length)
  (hbody:∀ (A:Around) (outer:List Env) (s:Shared) (H:Hp) (vs:List V) (Q:VK) (a:Addr),A.handled=some (.ref a)->RoomM k (A.deeper (envOfC qual scope s.heap.objs.size f cdv))->sp a vs H Q E0 ->
   ∃ t,PSs (cxM P w K mg base N qual scope f cdv A outer s H) body t/\t { nx:=fun _ H'=>Q .non H',rt:=Q } (start N vs) H) :
  FnOkM P w K mg base (k+1) f (ak6 name qual params body scope dV kV doc pm an cdv ct) ps sp:=by
 refine⟨len,fun A outer s H args us vs Q a hm hr e0 hb r hsp=>?_⟩
 have KX:K.In s.heap:=e0.mod.kin.keeps fun b o e=>(e0.bs b o e).1
 have hkind:∀ y∈ps.zip us,scope.names.lookup y.1=some .local \/ (scope.names.lookup y.1=some .cell/\((cellsFrom (s.heap.objs.size+1) scope.names []).lookup y.1).isSome=true):=fun⟨n,v⟩ hy=>(S.par n (amw hy).1).imp id fun q=>⟨q,alA _ _ _ (.inl q)⟩
 have rd:RoomM k (A.deeper (envOfC qual scope s.heap.objs.size f cdv)):=⟨by have:=hr.dp;show A.depth+1+3 * k+5<_;omega,by have:=hr.un;show A.units+3+16 * k+200<_;omega⟩
 refine codeAny_call_function (by have:=hr.dp;omega) (KX _ _ lk) rfl S.co S.gen rfl (PySem.W.codeRec_of KX hcd) (hb _ _ _ _ (wpAny_newFunctionEnv_cells S.kind hkind fun env he s1 x=>?_))
 subst he
 refine⟨(e0.mod.nolimit.keeps fun b o e=>(e0.bs b o e).1).keeps x.toInCall.keep,codeAny_func ?_⟩
 obtain⟨t,ht,hq⟩:=hbody A outer s H vs Q a hm rd hsp
 have e1:Env0 P w K mg base { A with handled:=none } outer s H:=⟨e0.frames,e0.mod,e0.bs,e0.bsz,e0.funs,e0.frf,e0.hok,e0.bare⟩
 have J:Inv (zV CX0 P w K mg base N qual scope f cdv { A with handled:=none } outer s H E0) [] (start N vs) H s1:=abr S rfl e1 (len _ _ _ _ _ hsp) r x
 have I:Inv (cxM P w K mg base N qual scope f cdv A outer s H) [] (start N vs) H s1 :=
  ⟨⟨J.ok.mod,J.ok.kind,J.ok.glob,J.ok.blt,J.ok.above,J.ok.inj,J.ok.has,J.ok.cab,(fun z=>by cases z),anc e0.frames,J.ok.stk,J.ok.exf,J.ok.bs,J.ok.bsz,J.ok.noex,J.ok.exfs,J.ok.funs,J.ok.frf⟩,J.os,J.bare,J.base,J.loc,J.cell,J.free,J.freeC,J.pin,J.hok,J.len⟩
 refine wpAny_mono (ht [] s1 (start N vs) H _ I hq) (fun fl s' hs=>?_) fun e s' hs=>hs.elim
 cases fl with
 | ret u =>
  obtain⟨v,σ',H',Y,rv,q⟩:=hs
  exact⟨v,H',Y.os,Y.bare,Y.base,Y.hok,rv,q⟩
 | next =>
  obtain⟨σ',H',Y,q⟩:=hs
  exact⟨V.non,H',Y.os,Y.bare,Y.base,Y.hok,rfl,q⟩
 | brk=>exact ak2 hs.choose_spec.choose_spec.2
 | cont=>exact ak2 hs.choose_spec.choose_spec.2
structure FnInM (P:Program) (w:World) (K:akq) (mg:Str->Option Value) (base:Heap) (k:Nat) (x:Str) (ps:List Str) (sp:Addr->Sp):Prop where
 ex:∃ (f:Addr) (fd:FuncData),FnOkM P w K mg base k f fd ps sp/\mg x=some (.ref f)/\ak0 K (.ref f)=true/\Binds K fd ps []
noncomputable def spM {γ:Type} (K:akq) (n:Nat) (pre:Addr->γ->List DV->Prop) (post:γ->PyData->Prop):Addr->Sp:=fun a=>spD K n (pre a) post
section
variable {P:Program} {w:World} {K:akq} {mg:Str->Option Value} {base:Heap} {j k n:Nat} {x:Str} {st:Stmt} {ps N:List Str} {γ:Type} {pre:Addr->γ->List DV->Prop} {post:γ->PyData->Prop} {sp:Addr->Sp}
theorem FnInM.mono (h:FnInM P w K mg base j x ps sp) (hk:j<=k):FnInM P w K mg base k x ps sp :=
 let⟨f,fd,a,b,c,d⟩:=h.ex
 ⟨f,fd,⟨a.len,fun A outer s H args us vs Q e hm hr=>a.run A outer s H args us vs Q e hm ⟨by have:=hr.dp;omega,by have:=hr.un;omega⟩⟩,b,c,d⟩
theorem Def.okM (F:Def K mg x st ps) (S:FnScope N ps (zj st)) (hn:ps.length=n)
  (h:∀ (fa:Addr) (cdv:Value) (A:Around) (outer:List Env) (s:Shared) (H:Hp) (a:Addr),A.handled=some (.ref a)->RoomM k (A.deeper (envOfC x (zj st) s.heap.objs.size fa cdv)) ->
   ∃ t,PSs (cxM P w K mg base N x (zj st) fa cdv A outer s H) (z6 st) t/\∀ f xs c,xs.length=n->pre a c xs->PSd K f t (jm N xs) { nx:=fun _=>post c .none,rt:=post c }) :
  FnInM P w K mg base (k+1) x ps (spM K n pre post):=by
 obtain⟨fa,fd,F1,F2,F3⟩:=F.ex
 obtain⟨oc,od,kV,doc,pm,an,cdv,ct,osl,rfl,lk,hcd⟩:=F1.ex
 refine⟨fa,_,ajo lk hcd S (fun a vs H Q E h=>?_) (fun A outer s H vs Q a hm hr hs=>?_),F3,F1.kp,F2⟩
 ·obtain⟨f,xs,c,r,hl,_⟩:=h
  rw [r.length,hl,hn]
 ·obtain⟨f,xs,c,r,hl,fo,hp,q⟩:=hs
  obtain⟨t,h1,h2⟩:=h fa cdv A outer s H a hm hr
  exact⟨t,h1,h2 f xs c hl hp _ H _ (y7 r fo) (fun ρ' σ' H' g' e' p=>q .none .non H' g' (rep_none.mpr rfl) p) (fun d v H' g' r' p=>q d v H' g' r' p) (fun _ _ _ _ _ z=>z.elim) (fun _ _ _ _ _ z=>z.elim)⟩
theorem agK {X:Cx} {a:Addr} {e:Expr} {es:List Expr} {t:TA} {p pos:Pos} (G:FnInM X.prog X.w X.K X.mg X.base k x ps sp) (hr:Room k X.A) (hg:Gl X x) (ha:PA (X.marked (.ref a)) (e :: es) t) (hdb:(x == ("__debug__":Str))=false:=by decide)
  (he:starEach (e :: es) X.env=(false,eval e X.env) :: starEach es X.env:=by rfl) (hpl:(backTo pos (starEach es X.env)).any (·.1)=false:=by rfl):PE (X.marked (.ref a)) (.Call (.Name x p) (e :: es) [] pos) (yZ (sp a) [] E0 t):=by
 obtain⟨f,fd,F,hm,hk,hb⟩:=G.ex
 intro pins s σ H Q I h
 refine wpAny_Call_Name_kw (j6 I hg hm ?_ hdb)
 refine ame (h₀:=X.base) I.ok.mod.kin hk (thn (ha pos pins s σ H _ I h) fun us s1 ⟨vs,H1,I1,r,q⟩=>⟨I1.kIn,?_⟩) he hpl
 have q:sp a vs H1 Q E0:=by have:=q;dsimp only at this;rw [akY] at this;exact this
 have b2:=hb s1 us I1.kIn (by rw [akY,<- r.length];exact F.len _ _ _ _ _ q)
 rw [akY] at b2
 refine wpAny_call (codeAny_mono (F.run _ _ s1 H1 ⟨us,[]⟩ us vs Q a rfl ⟨hr.dp,hr.un⟩ I1.env0 b2 r q) fun res s' z=>?_)
 cases res with
 | error e=>exact ak2 z
 | ok fl =>
  cases fl with
  | ret u=>exact I1.after z
  | next=>exact ak2 z
  | brk=>exact ak2 z
  | cont=>exact ak2 z
end
theorem ajp {K:akq} {f:Fx} {ρ:zy} {P:PyData->Prop} {te:TE} {j:Nat} {a:Addr} {C:Value} {x:XD} (hj:ρ[j]?=some (some (.mon (jR K a C x)))) (h:PEd K f te ρ fun x=>∃ bs:List Bool,x=.list (bs.map .bool)/\P (.bool (bs.any id))):PEd K f (tCB (aiv K a) (zG te yR)) ρ P:=fun σ H Q e q =>
 h σ H _ e fun x v H1 g1 r1 ⟨bs,ex,p⟩=>by
  subst ex
  obtain⟨u,_,r⟩:=(e.mono g1).get j _ hj
  obtain⟨o,_,hH,_⟩:=r H1 (zm H1 f)
  obtain⟨b,xs,rfl,h1,h2⟩:=rep_list.mp r1
  rw [qh h2] at h1
  exact⟨⟨C,o,hH⟩,b,bs,rfl,(zm H1 f).seq h1,q _ _ H1 g1 (rep_bool.mpr rfl) p⟩
noncomputable abbrev acM (rows:List (List Int)):PyData:=.list (rows.map fun r=>.list (r.map .int))
structure TN (K:akq) (f:Fx) (a:Addr) (as:List Addr) (H2:Hp) (ρ:zy) (R:Option (List (List Int))) (σ:St) (H:Hp):Prop where
 env:EnvOk K (f.withs (a :: as)) ρ σ H
 sm:Same (hide H2 (f.withs (a :: as))) (hide H (f.withs (a :: as)))
 kp:∀ b∈f.M,H b=H2 b
 tab:∀ rows,R=some rows->TabAt H a as rows
noncomputable def PSu (K:akq) (f:Fx) (a:Addr) (as:List Addr) (ts:TS) (ρ:zy) (R:Option (List (List Int))) (O:zy->Option (List (List Int))->Prop):Prop:=Sep f (a :: as)->∀ (σ:St) (H H2:Hp) (E:Ends),TN K f a as H2 ρ R σ H ->
 (∀ ρ' R' σ' H',TN K f a as H2 ρ' R' σ' H'->O ρ' R'->E.nx σ' H')->ts E σ H
section
variable {K:akq} {f:Fx} {a:Addr} {as:List Addr} {ρ ρ2:zy} {rows:List (List Int)} {R:Option (List (List Int))} {O:zy->Option (List (List Int))->Prop} {ts tu:TS} {tt:TT} {te ty tx:TE} {i:Nat} {σ σ2:St} {H H' H2:Hp}
theorem TN.go (x:TN K f a as H2 ρ R σ H) (g:Goes (f.withs (a :: as)) H H') (e2:EnvOk K (f.withs (a :: as)) ρ2 σ2 H'):TN K f a as H2 ρ2 R σ2 H' :=
 ⟨e2,x.sm.trans g.sm,fun b hb=>(g.kp b (akM _ hb)).trans (x.kp b hb),fun rows e=>(x.tab rows e).keep fun b hb=>g.kp b (vW hb)⟩
theorem qX:(f.withs (a :: as)).M.reverse=f.M.reverse++a :: as:=by
 show ((a :: as).reverse++f.M).reverse=_
 rw [List.reverse_append,List.reverse_reverse]
theorem TN.at (x:TN K f a as H2 ρ R σ H) (hi:ρ[i]?=some (some (.own f.M.length))):σ[i]?=some (some (.ref a)):=by
 obtain⟨v,a1,p,a2,rfl⟩:=x.env.get i _ hi
 rw [qX,akL (by simp)] at a2
 simp at a2
 rw [a2]
 exact a1
theorem TN.fok (x:TN K f a as H2 ρ R σ H):FOk f H:=⟨x.env.fd.fd,fun b hb=>x.env.fd.mm b (akM _ hb),fun p e hp=>x.env.fd.nm p e (akM _ hp)⟩
theorem TN.out (x:TN K f a as H2 ρ R σ H):EnvOk K f (ρ.map (jb f.M.length)) σ H:=by
 refine⟨by rw [akp];exact x.env.len,fun q z hz=>?_,x.fok⟩
 rw [akz] at hz
 cases e0:ρ[q]? with
 | none=>rw [e0] at hz;cases hz
 | some z0 =>
  rw [e0] at hz
  cases z0 with
  | none=>cases hz
  | some z0 =>
   obtain⟨v,a1,a2⟩:=x.env.get q z0 e0
   cases z0 with
   | dat d=>cases hz;exact⟨v,a1,Rep.mono same_withs d v a2⟩
   | feed=>cases hz;exact⟨v,a1,a2⟩
   | exc C=>cases hz;obtain⟨b,h3,h4⟩:=a2;exact⟨v,a1,b,h3,same_withs _ _ h4⟩
   | mon φ=>cases hz;exact⟨v,a1,fun H' s=>a2 H' (same_withs.trans s)⟩
   | own k =>
    have hz':(if k<f.M.length then some (DV.own k) else none)=some z:=Option.some.inj hz
    by_cases hk:k<f.M.length
    ·rw [if_pos hk] at hz'
     cases hz'
     obtain⟨b,h3,h4⟩:=a2
     refine⟨v,a1,b,?_,h4⟩
     rw [qX,akK (by simpa using hk)] at h3
     exact h3
    ·rw [if_neg hk] at hz'
     cases hz'
theorem adE (se:Sep f (a :: as)):∀ D∈a :: as,¬ (f.f=some D \/ D∈f.M):=fun D hD z=>z.elim (se.nf D hD) (se.nm D hD)
theorem TN.read (se:Sep f (a :: as)) (x:TN K f a as H2 ρ (some rows) σ H) (hi:ρ[i]?=some (some (.own f.M.length))):EnvOk K f ((ρ.map (jb f.M.length)).set i (some (.dat (acM rows)))) σ H:=by
 have o:=x.out
 refine⟨by rw [ald];exact o.len,fun q z hz=>?_,o.fd⟩
 by_cases e:i=q
 ·subst e
  rw [amS,if_pos rfl] at hz
  split at hz
  ·cases hz
   exact⟨_,x.at hi,(x.tab rows rfl).rep (adE se a (akE ..)) fun y hy=>adE se y (akv _ hy)⟩
  ·cases hz
 ·rw [ak5 e] at hz
  exact o.get q z hz
theorem TN.beside (se:Sep f (a :: as)) (x:TN K f a as H2 ρ R σ H) (g:Goes f H H'):Goes (f.withs (a :: as)) H H':=by
 have kp:∀ b∈a :: as,H' b=H b:=fun b hb=>by
  obtain⟨o,h1⟩:=x.env.fd.mm b (vW hb)
  rw [h1]
  exact (zU (g.sm b o (zC (adE se b hb) h1))).2
 refine⟨fun b o hb=>?_,⟨g.ok.fd,fun b hb=>?_,x.env.fd.nm⟩,fun b hb=>?_⟩
 ·obtain⟨n1,h1⟩:=zU hb
  have n2:¬ (f.f=some b \/ b∈f.M):=fun z=>n1 (z.elim .inl fun z=>.inr (akM _ z))
  exact zC n1 (zU (g.sm b o (zC n2 h1))).2
 ·rcases akF.mp hb with h | h
  ·obtain⟨o,h1⟩:=x.env.fd.mm b hb
   exact⟨o,(kp b (alu.mp h)).trans h1⟩
  ·exact g.ok.mm b h
 ·rcases akF.mp hb with h | h
  ·exact kp b (alu.mp h)
  ·exact g.kp b h
theorem adF (h:PSd K (f.withs (a :: as)) ts ρ { nx:=fun ρ'=>O ρ' R,rt:=fun _=>False }):PSu K f a as ts ρ R O:=fun se σ H H2 E x n =>
 h σ H E x.env (fun ρ' σ' H' g' e' p=>n ρ' R σ' H' (x.go g' e') p) (fun _ _ _ _ _ z=>z.elim) (fun _ _ _ _ _ z=>z.elim) (fun _ _ _ _ _ z=>z.elim)
theorem aiw (h:PSu K f a as ts ρ R fun ρ' R'=>PSu K f a as tu ρ' R' O):PSu K f a as (qD ts tu) ρ R O:=fun se σ H H2 E x n =>
 h se σ H H2 _ x fun ρ' R' σ' H' x' p=>p se σ' H' H2 E x' n
theorem ajq (h:O ρ R):PSu K f a as aab ρ R O:=fun se σ H H2 E x n=>n ρ R σ H x h
theorem ako (hi:ρ[i]?=some (some (.own f.M.length))) (h:PTd K f tt ((ρ.map (jb f.M.length)).set i (some (.dat (acM rows)))) fun b=>if b=true then PSu K f a as ts ρ (some rows) O else PSu K f a as tu ρ (some rows) O):PSu K f a as (abK tt ts tu) ρ (some rows) O:=fun se σ H H2 E x n =>
 h σ H _ (x.read se hi) fun b H1 g1 p=>by
  have g2:=x.beside se g1
  have x1:=x.go g2 (x.env.mono g2)
  cases b with
  | true=>rw [if_pos rfl] at p ⊢;exact p se σ H1 H2 E x1 n
  | false=>rw [if_neg akr] at p ⊢;exact p se σ H1 H2 E x1 n
theorem TN.turn {r:Nat} {row row':List Int} (se:Sep f (a :: as)) (x:TN K f a as H2 ρ (some rows) σ H) (hr:rows[r]?=some row) (hl:r<as.length):TN K f a as H2 ρ (some (rows.set r row')) σ (upd H as[r] (.lst (row'.map .int))):=by
 have t:=x.tab rows rfl
 have ha:as[r]?=some as[r]:=akt hl
 have hm:as[r]∈a :: as:=akv _ (akC ha)
 have nd:=alz.mp t.nd
 have ne:a≠as[r]:=fun z=>nd.1 (z▸akC ha)
 refine⟨ahI se hm x.env,by rw [yT hm];exact x.sm,fun b hb=>(zv (fun (z:b=as[r])=>se.nm _ hm (z▸hb))).trans (x.kp b hb),fun rows' e=>?_⟩
 cases e
 refine⟨(zv ne).trans t.top,t.nd,by rw [ald];exact t.len,fun j y q h1 h2=>?_⟩
 by_cases e:r=j
 ·subst e
  rw [ha] at h1
  cases h1
  rw [ak4 (aks.mp hr).1] at h2
  cases h2
  exact zx
 ·rw [ak5 e] at h2
  have hy:y≠as[r]:=fun z=>by
   subst z
   exact e ((List.getElem?_inj hl nd.2).mp (ha.trans h1.symm))
  exact (zv hy).trans (t.row j y q h1 h2)
theorem ajr {Dn:DEnds} (h:ajQ K f te ρ fun rows=>i<ρ.length/\∀ a as,PSu K f a as ts (ρ.set i (some (.own f.M.length))) (some rows) fun ρ' R'=>Dn.nx (ρ'.map (jb f.M.length)) \/ ∃ rows',R'=some rows'/\ρ'[i]?=some (some (.own f.M.length))/\Dn.nx ((ρ'.map (jb f.M.length)).set i (some (.dat (acM rows'))))) :
  PSd K f (qD (vR te (qG i)) ts) ρ Dn:=fun σ H E e n r b k =>
 h σ H _ e fun rows a as H1 g1 na nas t1 ⟨hi,p⟩=>by
  have hn:∀ D∈a :: as,H D=none:=fun D hD=>(akB.mp hD).elim (fun z=>z▸na) (nas D)
  have nf:∀ D∈a :: as,¬ (f.f=some D \/ D∈f.M):=fun D hD=>fresh_ne e.fd (hn D hD)
  have se:Sep f (a :: as):=⟨t1.nd,fun D hD z=>nf D hD (.inl z),fun D hD z=>nf D hD (.inr z)⟩
  have sm1:=ae2 (Ds:=a :: as) g1.sm hn
  have there:∀ D∈a :: as,∃ o,H1 D=some o:=fun D hD=>by
   rcases akB.mp hD with rfl | h
   ·exact⟨_,t1.top⟩
   ·obtain⟨j,hj⟩:=alG h
    exact⟨_,t1.row j D _ hj (akt (by rw [<-t1.len];exact (aks.mp hj).1))⟩
  have fo1:FOk (f.withs (a :: as)) H1:=⟨g1.ok.fd,fun b hb=>(akF.mp hb).elim (fun h=>there b (alu.mp h)) (g1.ok.mm b),fun q eq hq=>(akF.mp hq).elim (fun h=>nf q (alu.mp h) (.inl eq)) (g1.ok.nm q eq)⟩
  have e1:EnvOk K (f.withs (a :: as)) ρ σ H1:=⟨e.len,fun q y hy=>by
   obtain⟨v,a1,a2⟩:=e.get q y hy
   refine⟨v,a1,?_⟩
   cases y with
   | dat d=>exact Rep.mono sm1 d v a2
   | feed=>exact a2
   | exc C=>obtain⟨b,h3,h4⟩:=a2;exact⟨b,h3,sm1 _ _ h4⟩
   | mon φ=>exact fun H' s=>a2 H' (sm1.trans s)
   | own k =>
    obtain⟨b,h3,h4⟩:=a2
    exact⟨b,by rw [qX,akK (aks.mp h3).1];exact h3,h4⟩,fo1⟩
  have rv:RepV K (f.withs (a :: as)) H1 (.own f.M.length) (.ref a):=⟨a,by rw [qX,akL (by simp)];simp,rfl⟩
  refine p a as se _ H1 H1 _ ⟨e1.set i rv,Same.refl _,fun _ _=>rfl,fun rows' z=>by cases z;exact t1⟩ fun ρ' R' σ' H' x ho=>?_
  have gg:Goes f H H':=⟨(sm1.trans x.sm).trans same_withs,x.fok,fun b hb=>(x.kp b hb).trans (g1.kp b hb)⟩
  rcases ho with ho | ⟨rows',rfl,h1,ho⟩
  ·exact n _ σ' H' gg x.out ho
  ·exact n _ σ' H' gg (x.read se h1) ho
end
end L2
end
section
namespace L2
open PySem PySem.Spec PyProof.Rows
structure GoesW (f:Fx) (As:List Addr) (H2 H':Hp):Prop where
 sm:Same (hide H2 (f.withs As)) (hide H' f)
 ok:FOk f H'
 kp:∀ b∈f.M,H' b=H2 b
structure FnAt (P:Program) (w:World) (K:akq) (mg:Str->Option Value) (base:Heap) (CX:CXT) (k:Nat) (a:Addr) (sp:Sp):Prop where
 ex:∃ (fd:FuncData) (ps:List Str),FnOk P w K mg base CX k a fd ps sp/\ak0 K (.ref a)=true/\Binds K fd ps []
end L2
end
section
namespace L2
open PySem PySem.Spec PyProof.Rows
end L2
end
section
namespace L2
open PySem PySem.Spec PyProof.Rows
noncomputable def aff (ds es:List PyData):List PyData:=List.zipWith (fun d e=>.tuple [d,e]) ds es
section
variable {K:akq} {f:Fx} {ρ:zy} {t:TA} {R:List PyData->Prop}
theorem aix (h:PAd K f t ρ fun xs=>∃ ds es,xs=[.dat (.list ds),.dat (.list es)]/\R (aff ds es)):PId K f (aje K t) ρ R:=fun σ H C e q=>h σ H _ e fun xs vs H1 g1 r1 ⟨ds,es,ex,p⟩=>by
 subst ex
 cases r1 with
 | cons rx r' =>
  cases r' with
  | cons ry r'' =>
   cases r''
   obtain⟨a,xs,rfl,h1,h2⟩:=rep_list.mp rx
   obtain⟨b,ys,rfl,k1,k2⟩:=rep_list.mp ry
   have l1:=h2.length
   have l2:=k2.length
   refine⟨a,b,rfl,⟨xs,(zm _ _).seq h1⟩,⟨ys,(zm _ _).seq k1⟩,q (aff ds es) _ H1 g1 ⟨fun f' H' i d fo sm hd=>?_,fun f' H' _ sm=>⟨xs,ys,(zm _ _).seq (sm.seq h1),(zm _ _).seq (sm.seq k1),?_⟩⟩ p⟩
   ·unfold aff at hd
    rw [amo] at hd
    cases e1:ds[i]? with
    | none=>rw [e1] at hd;cases hd
    | some d1 =>
     cases e2:es[i]? with
     | none=>rw [e1,e2] at hd;cases hd
     | some d2 =>
      rw [e1,e2] at hd
      cases hd
      obtain⟨z1,hz1,rz1⟩:=h2.get e1
      obtain⟨z2,hz2,rz2⟩:=k2.get e2
      have s1:SqL K H' a xs:=(zm _ _).seq (sm.seq h1)
      have s2:SqL K H' b ys:=(zm _ _).seq (sm.seq k1)
      refine⟨⟨xs,ys,z1,z2,s1,s2,hz1,hz2⟩,fun x H3 hy=>?_⟩
      obtain⟨tp,y1,y2,rfl,hn,rfl,hy1,hy2⟩:=hy
      have q1:=hy1 xs s1
      rw [hz1] at q1
      cases q1
      have q2:=hy2 ys s2
      rw [hz2] at q2
      cases q2
      have gn:Goes f' H' (upd H' tp (.tup [z1,z2])):=.of_same (zW hn _) fo
      exact⟨gn,rep_tuple.mpr ⟨tp,_,rfl,.of (zC (fresh_ne fo hn) zx),.cons' (Rep.mono gn.1 _ _ (Rep.mono sm _ _ rz1)) (.cons' (Rep.mono gn.1 _ _ (Rep.mono sm _ _ rz2)) .nil')⟩⟩
   ·unfold aff
    rw [List.length_zipWith]
    omega
end
structure Src (prog:Program) (w:World) (j:Addr) (xs:Array Value) (dep:List Addr) (St:Nat->Heap->Prop):Prop where
 own:j∈dep
 keep:∀ {k:Nat} {h h':Heap},St k h->(∀ c∈dep,∀ o,h.get? c=some o->h'.get? c=some o)->St k h'
 there:∀ {k:Nat} {h:Heap},St k h->∃ o,h.get? j=some o
 item:∀ {A:Around} {E:Value->Shared->Prop} {s:Shared} {k:Nat} {x:Value} {Q:Value->Shared->Prop},St k s.heap->xs[k]?=some x->(∀ h',St (k+1) h'->amA j s.heap h'->Q x { s with heap:=h' })->wpAny (model prog w) A (amO (.ref j)) Q E s
 stop:∀ {A:Around} {E:Value->Shared->Prop} {s:Shared} {k:Nat} {Q:Value->Shared->Prop},A.handled=none->St k s.heap->xs[k]?=none->(∀ h' e,Heap.ExtBut j s.heap h'->(∃ o,h'.get? e=some o/\o.cls=.type "StopIteration")->E (.ref e) { s with heap:=h' })->wpAny (model prog w) A (amO (.ref j)) Q E s
section
variable {prog:Program} {w:World} {A:Around} {E:Value->Shared->Prop} {s:Shared}
structure Far (z q1 q2 j1 j2:Addr) (e1 e2:List Addr):Prop where
 q1z:q1≠z
 q2z:q2≠z
 q12:q1≠q2
 j12:j1≠j2
 q1j1:q1≠j1
 q1j2:q1≠j2
 z1:z∉e1
 z2:z∉e2
 o1:q2∉e1
 o2:q2∉e2
 d12:j2∉e1
 d21:j1∉e2
end
end L2
end
section
namespace L2
open PySem PySem.Spec PyProof.Rows
noncomputable def Keeps (h0 h:Heap):Prop:=∀ b o,h0.get? b=some o->h.get? b=some o
end L2
end
section
namespace L2
open PySem PySem.Spec PyProof.Rows
end L2
end
section
namespace L2
open PySem PySem.Spec PyProof.Rows
noncomputable abbrev FD (K:akq) (x:Str) (st:Stmt) (f:Addr) (od an:Option Addr) (sl:Array (Option Value)) (oc kV dc pm cd ct:Value):Prop:=akJ K mainGlobals x=some (some (.ref f))/\K.lookup f=some ⟨oc,od,.func (ak6 x x (yA st) (z6 st) (zj st) .none kV dc pm an cd ct),sl⟩/\al1 K cd x=true/\ak0 K (.ref f)=true
theorem agL {K:akq} {h:Heap} {mg:Str->Option Value} {x:Str} {st:Stmt} {f:Addr} {od an:Option Addr} {sl:Array (Option Value)} {oc kV dc pm cd ct:Value} (X:K.In h) (G:h.Ns mainGlobals mg) (a:FD K x st f od an sl oc kV dc pm cd ct) {ps:List Str}
  (hb:∀ (kV doc pm:Value) (an:Option Addr) (cdv ct:Value) (us:List Value),us.length=ps.length->bindArgs (ak6 x x (yA st) (z6 st) (zj st) .none kV doc pm an cdv ct) ⟨us,[]⟩=pure (ps.zip us)):Def K mg x st ps :=
 ⟨f,_,abS a.2.1 a.2.2.1 a.2.2.2,(abS (st:=st) a.2.1 a.2.2.1 a.2.2.2).binds hb,ak9 X G a.1⟩
end L2
end
section
namespace L2
open PySem PySem.Spec PyProof.Rows
end L2
end
section
open PySem PySem.Spec PyProof.Rows
namespace L2
end L2
end
section
namespace L2
open PySem PySem.Spec PyProof.Rows
end L2
end
section
namespace L2
open PySem PySem.Spec PyProof.Rows
end L2
end
section
namespace L2
open PySem PySem.Spec PyProof.Rows
structure TQ (K:akq) (f:Fx) (a:Addr) (as:List Addr) (H2:Hp) (ρ:zy) (rows:List (List PyData)) (σ:St) (H:Hp):Prop where
 env:EnvOk K (f.withs (a :: as)) ρ σ H
 sm:Same (hide H2 (f.withs (a :: as))) (hide H (f.withs (a :: as)))
 kp:∀ b∈f.M,H b=H2 b
 top:H a=some (.lst (as.map .ref))
 nd:(a :: as).Nodup
 len:as.length=rows.length
 row:∀ (i:Nat) x r,as[i]?=some x->rows[i]?=some r->∃ vs,H x=some (.lst vs)/\Reps K (hide H (f.withs (a :: as))) r vs
noncomputable def aej:V->List V->Hp->VK->Prop:=fun x vs H Q=>∃ l,∃ ns:List Int,∃ k:Int,∃ j:Nat,x=.ref l/\vs=[.int k]/\H l=some (.lst (ns.map V.int))/\ns[j]?=some k/\(∀ m,m<j->ns[m]?≠some k)/\ns.length<1000/\Q .non (upd H l (.lst ((ns.eraseIdx j).map V.int)))
theorem acN:∀ {xs:List V} {us:List Value},Vals xs us->∀ (m:Nat) (x:V),xs[m]?=some x->∃ u,us[m]?=some u/\RelV x u
 | _,_,.nil,m,x,h=>nomatch h
 | _,_,.cons r rs,0,x,h=>by cases h;exact⟨_,rfl,r⟩
 | _,_,.cons r rs,m+1,x,h=>acN rs m x h
theorem aek:∀ {xs:List V} {us:List Value},Vals xs us->∀ m:Nat,Vals (xs.eraseIdx m) (us.eraseIdx m)
 | _,_,.nil,m=>.nil
 | _,_,.cons r rs,0=>rs
 | _,_,.cons r rs,m+1=>.cons r (aek rs m)
theorem agM:∀ (ns:List Int) (m:Nat),(ns.map V.int).eraseIdx m=(ns.eraseIdx m).map V.int
 | [],_=>rfl
 | n :: ns,0=>rfl
 | n :: ns,m+1=>by show V.int n :: (ns.map V.int).eraseIdx m=_;rw [agM ns m];rfl
noncomputable def isK (k:Int):Value->Bool
 | .int a _=>a == k
 | _=>false
theorem afg {X:Cx}:MtM X "list.remove" aej:=by
 intro pins s σ H x vs v us Q I rx rv h
 obtain⟨l,ns,k,j,rfl,rfl,hH,hj,hno,hl,q⟩:=h
 cases rx
 obtain⟨u,rfl,ru⟩:=rv.one
 obtain⟨t,rfl⟩:=ru
 obtain⟨z,its,n,r,hl',e⟩:=I.lstM hH
 have ln:its.length=ns.length:=by rw [<-r.length,akp]
 have sm:=z9 (ale hl)
 have fz:its.toArray.size<=sizeLine:=by
  rw [akx,ln]
  omega
 have hjl:=(aks.mp hj).1
 have ats:∀ m (hm:m<ns.length),∃ t,its[m]?=some (.int ns[m] t):=fun m hm=>by
  obtain⟨u,h1,h2⟩:=acN r m (.int ns[m]) (by rw [akz,akt hm];rfl)
  obtain⟨t,rfl⟩:=h2
  exact⟨t,h1⟩
 have M:=PySem.MeetsSeq.list_remove l its.toArray n (.int k t) (isK k) (fun y hy=>by
  obtain⟨m,hm⟩:=alG (List.mem_toArray.mp hy)
  have hm':=(aks.mp hm).1
  obtain⟨t',h1⟩:=ats m (by omega)
  rw [h1] at hm
  cases hm
  exact PySem.MeetsSeq.EqGives.int _ _ _ _) j (by rw [akx,ln];exact hjl) (by
  obtain⟨t',h1⟩:=ats j hjl
  have e1:its.toArray[j]'(by rw [akx,ln];exact hjl)=.int ns[j] t':=by
   have:=(aks.mp h1).2
   simpa using this
  rw [e1]
  have:ns[j]=k:=(aks.mp hj).2
  show (ns[j] == k)=true
  rw [this]
  exact beq_self_eq_true k) (fun m hm lt=>by
  have hm':m<ns.length:=by rw [akx,ln] at hm;exact hm
  obtain⟨t',h1⟩:=ats m hm'
  have e1:its.toArray[m]'hm=.int ns[m] t':=by
   have:=(aks.mp h1).2
   simpa using this
  rw [e1]
  show (ns[m] == k)=false
  have ne:=hno m lt
  rw [akt hm'] at ne
  exact beq_false_of_ne fun z=>ne (by rw [z])) fz
 refine call_meets F.slot_list_remove ⟨_,e,rfl⟩ F.entry_list_remove (F.args_list_remove_2 _ _) M ⟨e,?_⟩
 refine⟨.non,_,I.lset (its':=its.eraseIdx j) hH e ?_ ?_ ?_,rfl,q⟩
 ·show its.toArray.eraseIdxIfInBounds j=_
  simp
 ·have:=aek r j
  rwa [show (ns.map V.int).eraseIdx j=(ns.eraseIdx j).map V.int from agM ns j] at this
 ·rw [akp,anj]
  split <;> omega
inductive PEs (X:Cx):List (Expr×Expr)->List (TE×TE)->Prop where
 | nil:PEs X [] []
 | cons {k v:Expr} {tk tv:TE} {es:List (Expr×Expr)} {ts:List (TE×TE)}:PE X k tk->PE X v tv->PEs X es ts->PEs X ((k,v) :: es) ((tk,tv) :: ts)
inductive RelPs:List (V×V)->List (Value×Value)->Prop where
 | nil:RelPs [] []
 | cons {k v:V} {a b:Value} {l:List (V×V)} {us:List (Value×Value)}:RelV k a->RelV v b->RelPs l us->RelPs ((k,v) :: l) ((a,b) :: us)
inductive RepP (K:akq) (Hh:Hp):List (PyData×PyData)->List (V×V)->Prop where
 | nil:RepP K Hh [] []
 | cons {k v:PyData} {a b:V} {l:List (PyData×PyData)} {us:List (V×V)}:Rep K Hh k a->Rep K Hh v b->RepP K Hh l us->RepP K Hh ((k,v) :: l) ((a,b) :: us)
theorem vJ {K:akq} {f:Fx} {ρ:zy} {te:TE} {P:PyData->Prop} (h:PEd K f te ρ fun d=>(d=.none/\P (.bool false)) \/ ∃ ds,d=.tuple ds/\P (.bool true)):PEd K f (tOp (fun x y H Q=>y=.non/\Q (.bl (!decide (x=.non))) H) te (tC .non)) ρ P:=fun σ H Q e q =>
 h σ H _ e fun d v H1 g1 r1 hd=>by
  refine⟨rfl,?_⟩
  rcases hd with⟨ed,p⟩ | ⟨i,ed,p⟩
  ·subst ed
   rw [rep_none.mp r1]
   exact q _ _ H1 g1 (rep_bool.mpr rfl) p
  ·subst ed
   obtain⟨a,xs,rfl,_⟩:=rep_tuple.mp r1
   exact q _ _ H1 g1 (rep_bool.mpr rfl) p
end L2
end
section
set_option maxHeartbeats 400000
namespace L2
open PySem PySem.Spec PyProof.Rows
structure PEw (X:Cx) (e:Expr) (t:TE):Prop where
 pe:PE X e t
structure PEsW (X:Cx) (es:List (Expr×Expr)) (ts:List (TE×TE)):Prop where
 pes:PEs X es ts
structure CSo (w:World) (K:akq) (f:Fx) (D:Addr) (H2:Hp) (ρ':zy) (kvs:List (PyData×PyData)) (σ:St) (H:Hp):Prop where
 env:EnvOk K (f.with D) ρ' σ H
 sm:Same (hide H2 (f.with D)) (hide H (f.with D))
 kp:∀ b∈f.M,H b=H2 b
 own:aiq w K (hide H (f.with D)) H D (.dic kvs)
end L2
end
section
namespace L2
open PySem PySem.Spec PyProof.Rows PySem.SetTable
end L2
end
section
namespace L2
open PySem PySem.Spec PyProof.Rows PySem.SetTable
noncomputable def byT (w:World):Bool:=w.params.followText "set-order"
structure ISet (w:World) (h:Heap) (a:Addr) (xs:List (Int×Tok)) (o:Obj) (es:Array (Int×Value)) (ep:Nat) (t:SetTable):Prop where
 ob:h.get? a=some o
 ex:o.ExactSet
 da:o.data=.set es ep t
 el:es.toList=xs.map fun x=>(hashInt x.1,Value.int x.1 x.2)
 ok:ST.TOk t (xs.map fun x=>hashInt x.1)
 pl:t.plain=true
 ld:byT w=true \/ t.led=true
end L2
end
section
namespace L2
open PySem PySem.Spec PyProof.Rows PySem.SetTable
end L2
end
section
namespace L2
open PySem PySem.Spec PyProof.Rows PySem.SetTable PySem.W
theorem aby {K:akq} {H:Hp}:∀ ns:List Int,Reps K H (ns.map .int) (ns.map V.int)
 | []=>.nil'
 | n :: ns=>.cons' (rep_int.mpr rfl) (aby ns)
section
variable {K:akq} {f:Fx} {a:Addr} {as:List Addr} {ρ:zy} {rows:List (List Int)} {R:Option (List (List Int))} {O:zy->Option (List (List Int))->Prop} {ts tu:TS} {tt:TT} {te ty tx:TE} {wi:TI} {g:TG} {i j:Nat}
theorem TN.self {H H2:Hp} {σ:St} (x:TN K f a as H2 ρ R σ H):TN K f a as H ρ R σ H:=⟨x.env,Same.refl _,fun _ _=>rfl,x.tab⟩
theorem TN.trans {ρ':zy} {R':Option (List (List Int))} {H H' H2:Hp} {σ σ':St} (x:TN K f a as H2 ρ R σ H) (y:TN K f a as H ρ' R' σ' H'):TN K f a as H2 ρ' R' σ' H':=⟨y.env,x.sm.trans y.sm,fun b hb=>(y.kp b hb).trans (x.kp b hb),y.tab⟩
theorem aj5 (h:PId K (f.withs (a :: as)) wi ρ fun ds=>∃ J:Nat->zy->Option (List (List Int))->Prop,J 0 ρ R /\
   (∀ (i:Nat) d ρ' R',ds[i]?=some d->J i ρ' R'->PGd K (f.withs (a :: as)) g d ρ' fun ρ2=>PSu K f a as ts ρ2 R' (J (i+1)))/\∀ ρ' R',J ds.length ρ' R'->O ρ' R') :
  PSu K f a as (ahk wi g ts) ρ R O:=fun se σ H H2 E x n=>h σ H _ x.env fun ds J H1 g1 it ⟨Jv,j0,js,jd⟩=>by
 have x1:=x.go g1 (x.env.mono g1)
 refine⟨fun i m σ' H'=>∃ ρ' cs',TN K f a as H2 ρ' cs' σ' H'/\Same (hide H1 (f.withs (a :: as))) (hide H' (f.withs (a :: as)))/\Jv i ρ' cs'/\m+i=ds.length,⟨ds.length,ρ,R,x1,Same.refl _,j0,rfl⟩,fun i m σ' H' ⟨ρ',cs',x',sm',p,hm⟩=>?_⟩
 by_cases hi:i<ds.length
 ·obtain⟨hgo,hy⟩:=it.go (f.withs (a :: as)) H' i _ x'.env.fd sm' (akt hi)
  refine .inr ⟨hgo,fun σ2 H3=>∃ ρ2 cs2,TN K f a as H2 ρ2 cs2 σ2 H3/\Same (hide H1 (f.withs (a :: as))) (hide H3 (f.withs (a :: as)))/\Jv (i+1) ρ2 cs2,fun σ2 H3 ⟨ρ2,cs2,e2,g2,p2⟩=>⟨m - 1,by omega,ρ2,cs2,e2,g2,p2,by omega⟩,fun v H3 hx=>?_⟩
  obtain⟨g3,r3⟩:=hy v H3 hx
  have x3:=x'.go g3 (x'.env.mono g3)
  refine js i _ ρ' cs' (akt hi) p σ' H3 v _ x3.env r3 fun ρ2 σ2 H4 g4 e4 p4=>?_
  have x4:=x3.go g4 e4
  have sm4:=(sm'.trans g3.sm).trans g4.sm
  exact p4 se σ2 H4 H4 _ x4.self fun ρ5 cs5 σ5 H5 x5 p5=>⟨ρ5,cs5,x4.trans x5,sm4.trans x5.sm,p5⟩
 ·have ei:i=ds.length:=by omega
  subst ei
  exact .inl ⟨it.st (f.withs (a :: as)) H' x'.env.fd sm',n ρ' cs' σ' H' x' (jd ρ' cs' p)⟩
end
end L2
end
section
namespace L2
open PySem PySem.Spec PyProof.Rows
end L2
end
section
namespace L2
open PySem PySem.Spec PyProof.Rows
structure TV (K:akq) (f:Fx) (H0:Hp) (a:Addr) (as:List Addr) (ρ:zy) (rows:List (List Int)) (σ:St) (H:Hp):Prop where
 env:EnvOk K (f.withs (a :: as)) ρ σ H
 go:Goes f H0 H
 na:H0 a=none
 nas:∀ x∈as,H0 x=none
 tab:TabAt H a as rows
theorem afh {acc:Array Value} {n:Nat} (h:ItemsOf (fun i v=>∃ t,v=.int (0+i * 1) t) acc n):Vals ((alc n).map fun (i:Nat)=>V.int (i:Int)) acc.toList:=by
 obtain⟨h1,h2⟩:=h
 have key:∀ (us:List Value) (m k:Nat),us.length=m->(∀ (j:Nat) v,us[j]?=some v->∃ t,v=.int ((k:Int)+j) t)->Vals ((List.range' k m).map fun (i:Nat)=>V.int (i:Int)) us:=by
  intro us
  induction us with
  | nil=>intro m k hm _;subst hm;exact .nil
  | cons u us ih =>
   intro m k hm hv
   subst hm
   obtain⟨t,et⟩:=hv 0 u rfl
   rw [ala,List.range'_succ,alJ]
   refine .cons ⟨t,by rw [et];simp⟩ (ih _ (k+1) rfl fun j v hj=>?_)
   obtain⟨t',e'⟩:=hv (j+1) v hj
   exact⟨t',by rw [e'];congr 1;omega⟩
 rw [List.range_eq_range']
 refine key _ n 0 (by simpa using h1) fun j v hj=>?_
 obtain⟨t,e⟩:=h2 j v (by simpa using hj)
 exact⟨t,by rw [e];congr 1;omega⟩
noncomputable def aiy (te:TE):TE:=fun σ H Q=>zG te yR σ H fun vs H1=>∃ n:Nat,vs=[.int (n:Int)]/\n<=1000/\∀ l,H1 l=none->Q (.ref l) (upd H1 l (.lst ((alc n).map fun (i:Nat)=>V.int (i:Int))))
section
variable {X:Cx} {x y:Str} {p p2 pos pos2:Pos} {e:Expr} {te:TE}
theorem adG (hc:X.calm=true) (hg:Gl X x) (hm:X.mg x=none) (hv:bootBuiltins x=some (.type "list")) (hg2:Gl X y) (hm2:X.mg y=none) (hv2:bootBuiltins y=some (.type "range")) (ha:PE X e te)
  (hs:starEach [e] X.env=(false,eval e X.env) :: starEach [] X.env:=by rfl)
  (hn:x ≠ "__name__":=by decide) (hdb:(x == ("__debug__":Str))=false:=by decide) (hn2:y ≠ "__name__":=by decide) (hdb2:(y == ("__debug__":Str))=false:=by decide)
  (he:starEach [.Call (.Name y p2) [e] [] pos2] X.env=(false,eval (.Call (.Name y p2) [e] [] pos2) X.env) :: starEach [] X.env:=by rfl) :
  PE X (.Call (.Name x p) [.Call (.Name y p2) [e] [] pos2] [] pos) (aiy te):=by
 intro pins s σ H Q I h
 refine wpAny_Call_Name_kw (jx I hg hm hv ?_ hn hdb)
 refine akT ?_ he rfl
 rw [he]
 show wpAny _ _ (spliced ((false,eval (.Call (.Name y p2) [e] [] pos2) X.env) :: backTo pos (starEach [] X.env))) _ _ s
 refine amI ?_
 refine wpAny_Call_Name_kw (jx I hg2 hm2 hv2 ?_ hn2 hdb2)
 refine akT (thn (za ha zc hs pos2 pins s σ H _ I h) fun us s1 ⟨vs,H1,I1,r1,q1⟩=>?_) hs rfl
 obtain⟨n,rfl,hl,q⟩:=q1
 obtain⟨u,rfl,rx⟩:=vals1 r1
 obtain⟨t,rfl⟩:=rx
 refine call_range_1 ?_
 refine amQ ?_
 have rs:amY 0 (n:Int) 1=n:=by rw [rangeSize_one];split <;> omega
 refine call_list_range (show (X.A).handled=none from I1.ok.hd hc) (IsRange.new ..) (small_one (by decide) (by decide) (by omega) (by omega)) rs (by omega) fun h' tk acc' c' hk hS' hacc=>?_
 have kp:∀ b o,s1.heap.get? b=some o->h'.get? b=some o:=fun b o e=>hk b o (aku _ e)
 have sz:(s1.heap.push { cls:=.type "range",data:=.fields #[.int 0 s1.toks,.int n t,.int 1 (s1.toks+1)] }).objs.size=s1.heap.objs.size+1:=by simp [Heap.push]
 refine⟨.ref _,_,I1.laid (a:=(s1.heap.push { cls:=.type "range",data:=.fields #[.int 0 s1.toks,.int n t,.int 1 (s1.toks+1)] }).objs.size) (t':=tk) kp (by rw [sz];exact al3 _) (o:=.lst ((alc n).map fun (i:Nat)=>V.int (i:Int))) ?_,rfl,q _ (I1.hok.fresh (by rw [sz];exact al3 _))⟩
 refine⟨by rw [akp,alh];exact ale (z9 (by omega)),acc'.toList,c',afh hacc,?_⟩
 exact hS'
end
section
variable {K:akq} {f:Fx} {ρ:zy} {te tl:TE} {fr:List Nat} {wi:TI} {g:TG}
theorem aj6 {P:List PyData->Prop} (h:PEd K f te ρ fun d=>∃ n:Nat,d=.int n/\n<=1000/\P (((alc n).map fun (i:Nat)=>(i:Int)).map .int)):PEdL K f (aiy te) ρ P:=fun σ H Q e q =>
 h σ H _ e fun d v H1 g1 r1 ⟨n,ed,hl,p⟩=>by
  subst ed
  rw [rep_int.mp r1]
  refine⟨n,rfl,hl,fun l hn=>q _ l _ _ (g1.trans (.of_same (zW hn _) g1.2)) (g1.free e.fd hn) zx ?_ p⟩
  have:=aby (K:=K) (H:=hide (upd H1 l (.lst ((alc n).map fun (i:Nat)=>V.int (i:Int)))) f) ((alc n).map fun (i:Nat)=>(i:Int))
  rw [alC] at this
  rw [alC]
  rw [alC] at this
  exact this
theorem ahT {own:Nat} {P:List (List Int)->Prop} (h:PId K f wi ρ fun ds=>ds.length<=1000/\∃ (I:zy->Prop) (R:Nat->List Int->Prop),I (qK own fr ρ) /\
   (∀ D (i:Nat) d ρ',ds[i]?=some d->I ρ'->PGd K (f.with D) g d ρ' fun ρ2=>I ρ2/\PEdL K (f.with D) te ρ2 fun es=>∃ ns:List Int,es=ns.map .int/\R i ns) /\
   ∀ rows,rows.length=ds.length->(∀ (k:Nat) r,rows[k]?=some r->R k r)->P rows) :
  ajQ K f (vg wi own fr g af0 fun D=>aag D te) ρ P:=fun σ H Q e q=>h σ H _ e fun ds J H1 g1 it ⟨hz,I,R,i0,hte,re⟩ D hn=>by
 have e1:=e.mono g1
 have nD:=fresh_ne e1.fd hn
 have hD:f.f≠some D:=fun z=>nD (.inl z)
 have hM:D∉f.M:=fun z=>nD (.inr z)
 have fo2:FOk (f.with D) (upd H1 D (.lst [])):=af6 e1.fd hn
 refine⟨fun i m σ' H'=>i<=ds.length/\m+i=ds.length/\∃ ρ' as rows,EnvOk K (f.with D) ρ' σ' H'/\I ρ'/\Same (hide (upd H1 D (.lst [])) (f.with D)) (hide H' (f.with D))/\(∀ b∈f.M,H' b=(upd H1 D (.lst [])) b)/\(∀ p,H' p=none->(upd H1 D (.lst [])) p=none) /\
   H' D=some (.lst (as.map .ref))/\as.Nodup/\D∉as/\(∀ x∈as,(upd H1 D (.lst [])) x=none)/\as.length=i/\rows.length=i/\(∀ (k:Nat) x r,as[k]?=some x->rows[k]?=some r->H' x=some (.lst (r.map .int)))/\∀ (k:Nat) r,rows[k]?=some r->R k r,
  ⟨ds.length,alp _,rfl,qK own fr ρ,[],[],af7 (abx (own:=own) (fr:=fr) e1) hn,i0,Same.refl _,fun _ _=>rfl,fun _ h=>h,zx,List.nodup_nil,by simp,(fun x hx=>by cases hx),rfl,rfl,(fun k x r h=>by simp at h),fun k r h=>by simp at h⟩,?_⟩
 rintro i m σ' H' ⟨hi,hm,ρ',as,rows,env,ih,sm,kp,fre,top,nd,nDas,asf,la,lr,rw',hR⟩
 have smk:Same (hide H1 f) (hide H' (f.with D)):=(qV hn).trans sm
 by_cases hlt:i<ds.length
 ·have hd:ds[i]?=some ds[i]:=akt hlt
  obtain⟨go,yl⟩:=it.go (f.with D) H' i _ env.fd smk hd
  refine .inr ⟨go,fun x H3 hy=>?_⟩
  obtain⟨g3,rx⟩:=yl x H3 hy
  refine hte D i _ ρ' hd ih σ' H3 x _ (env.mono g3) rx fun ρ2 σ2 H3' g3' env2 ⟨ih2,hel⟩=>?_
  unfold af0
  dsimp only
  rw [if_pos rfl]
  unfold aag
  refine hel _ H3' _ env2 fun es Dn vs H4 g4 n4 h4 r4 ⟨ns,hes,hRn⟩=>?_
  subst hes
  have evs:vs=ns.map V.int:=r4.ints
  subst evs
  have ga:Goes (f.with D) H' H4:=g3.trans (g3'.trans g4)
  have n4':H' Dn=none:=g3.free env.fd (g3'.free g3.ok n4)
  have hDn:Dn≠D:=fun z=>by rw [z,top] at n4';cases n4'
  have keep:∀ x∈as,∀ o,H' x=some o->H4 x=some o:=fun x hx o ho=>(zU (ga.sm x o (zC (fresh_ne fo2 (asf x hx)) ho))).2
  have hasome:∀ x∈as,∃ o,H' x=some o:=fun x hx=>by
   obtain⟨k,hk,ek⟩:=List.getElem_of_mem hx
   exact⟨_,rw' k x _ (by rw [akt hk,ek]) (akt (by omega))⟩
  have nDn:Dn∉as:=fun hx=>by
   obtain⟨o,ho⟩:=hasome Dn hx
   rw [n4'] at ho;cases ho
  refine⟨as.map .ref,(ga.kp D akE).trans top,z9 (by rw [akp];omega),m - 1,by omega,by omega,by omega,ρ2,as++[Dn],rows++[ns],ad2 hD (env2.mono g4),ih2,?_,?_,?_,?_,?_,?_,?_,?_,?_,?_,?_⟩
  ·rw [yt (H:=H4)];exact sm.trans ga.sm
  ·exact fun b hb=>(zv (fun (z:b=D)=>hM (z▸hb))).trans ((ga.kp b (akv _ hb)).trans (kp b hb))
  ·intro p hp
   by_cases hpd:p=D
   ·subst hpd;rw [zx] at hp;cases hp
   ·rw [zv hpd] at hp
    exact fre p (ga.free env.fd hp)
  ·rw [zx,akQ];rfl
  ·exact List.nodup_append.mpr ⟨nd,by simp,fun x hx z hz=>by
    have:z=Dn:=by simpa using hz
    subst this
    exact fun e=>nDn (e▸hx)⟩
  ·simp [nDas,alo hDn]
  ·intro x hx
   rcases akF.mp hx with hx | hx
   ·exact asf x hx
   ·have:x=Dn:=by simpa using hx
    subst this
    exact fre _ n4'
  ·simp [la]
  ·simp [lr]
  ·intro k x r hx hr
   have hxm:=akC hx
   have hxD:x≠D:=by
    rintro rfl
    rcases akF.mp hxm with hx' | hx'
    ·exact nDas hx'
    ·have:x=Dn:=by simpa using hx'
     exact hDn this.symm
   rw [zv hxD]
   by_cases hk:k<as.length
   ·rw [akK hk] at hx
    rw [akK (by omega)] at hr
    exact keep x (akC hx) _ (rw' k x r hx hr)
   ·have hk':k=as.length:=by
     have:=(aks.mp hx).1
     simp at this;omega
    subst hk'
    rw [akL (akA _)] at hx
    rw [akL (by omega)] at hr
    simp only [amD,amg] at hx
    rw [la,<- lr,amD,amg] at hr
    cases hx
    cases hr
    exact h4
  ·intro k r hr
   by_cases hk:k<rows.length
   ·rw [akK hk] at hr;exact hR k r hr
   ·have hk':k=rows.length:=by
     have:=(aks.mp hr).1
     simp at this;omega
    subst hk'
    rw [akL (akA _),amD,amg] at hr
    cases hr
    rw [lr];exact hRn
 ·have ei:i=ds.length:=by omega
  subst ei
  refine .inl ⟨it.st (f.with D) H' env.fd smk,q rows D as H' ⟨g1.sm.trans (smk.trans same_with),⟨env.fd.fd,fun b hb=>env.fd.mm b (akv _ hb),fun p e hp=>env.fd.nm p e (akv _ hp)⟩,fun b hb=>?_⟩ (g1.free e.fd hn) (fun x hx=>g1.free e.fd ?_) ⟨top,alz.mpr ⟨nDas,nd⟩,by omega,rw'⟩ (re rows lr hR)⟩
  ·rw [kp b hb,zv,g1.kp b hb]
   obtain⟨o,h3⟩:=e1.fd.mm b hb
   exact zP h3 hn
  ·have:=asf x hx
   rw [zv (fun (z:x=D)=>nDas (z▸hx))] at this
   exact this
end
noncomputable def ajs {γ:Type} (K:akq) (n:Nat) (pre:γ->Nat->List DV->List (List Int)->Prop) (post:γ->List (List Int)->List (List Int)->Bool->Prop):Sp:=fun vs H Q _=>∃ f a as xs c rows,Sep f (a :: as)/\RepVs K (f.withs (a :: as)) H xs vs/\xs.length=n/\FOk (f.withs (a :: as)) H/\TabAt H a as rows/\pre c f.M.length xs rows /\
 ∀ rows' b H',Same (hide H (f.withs (a :: as))) (hide H' (f.withs (a :: as)))->FOk (f.withs (a :: as)) H'->(∀ b∈f.M,H' b=H b)->TabAt H' a as rows'->post c rows rows' b->Q (.bl b) H'
noncomputable def PSy (K:akq) (f:Fx) (a:Addr) (as:List Addr) (ts:TS) (ρ:zy) (rows:List (List Int)) (R:List (List Int)->Bool->Prop):Prop:=Sep f (a :: as)->∀ (σ:St) (H H2:Hp) (E:Ends),TN K f a as H2 ρ (some rows) σ H ->
 (∀ ρ' rows' σ' H' b,TN K f a as H2 ρ' (some rows') σ' H'->R rows' b->E.rt (.bl b) H')->ts E σ H
section
variable {K:akq} {f:Fx} {a:Addr} {as:List Addr} {ρ ρ2:zy} {rows:List (List Int)} {R:List (List Int)->Bool->Prop} {Ro:Option (List (List Int))} {O:zy->Option (List (List Int))->Prop} {ts tu:TS} {tt:TT} {te ty tx:TE} {ta:TA} {i j:Nat} {σ σ2:St} {H H' H2:Hp}
theorem agN (h:PSu K f a as ts ρ (some rows) fun ρ' R'=>∃ rows',R'=some rows'/\PSy K f a as tu ρ' rows' R):PSy K f a as (qD ts tu) ρ rows R:=fun se σ H H2 E x n =>
 h se σ H H2 _ x fun ρ' R' σ' H' x' ⟨rows',eR,p⟩=>by
  subst eR
  exact p se σ' H' H2 E x' n
theorem y_ret (h:PEd K (f.withs (a :: as)) te ρ fun d=>∃ b,d=.bool b/\R rows b):PSy K f a as (aa6 te) ρ rows R:=fun se σ H H2 E x n =>
 h σ H _ x.env fun d v H1 g1 r1 ⟨b,ed,p⟩=>by
  subst ed
  rw [rep_bool.mp r1]
  exact n ρ rows σ H1 b (x.go g1 (x.env.mono g1)) p
theorem agO (hi:ρ[i]?=some (some (.own f.M.length))) (h:PEd K (f.withs (a :: as)) ty ρ fun y=>∃ r:Nat,y=.int r/\∃ row,rows[r]?=some row/\row.length<1000/\PEd K (f.withs (a :: as)) te ρ fun d=>∃ v:Int,d=.int v/\∃ m,row[m]?=some v/\(∀ q,q<m->row[q]?≠some v)/\O ρ (some (rows.set r (row.eraseIdx m)))) :
  PSu K f a as (afJ (tBM K "list" aej (tOp (adi K) (zO i) ty) (zG te yR))) ρ (some rows) O:=fun se σ H H2 E x n=>by
 refine⟨.ref a,x.at hi,h σ H _ x.env fun y u H1 g1 r1 ⟨r,ey,row,hr,hl,h4⟩=>?_⟩
 subst ey
 rw [rep_int.mp r1]
 have x1:=x.go g1 (x.env.mono g1)
 have t1:=x1.tab rows rfl
 have hlt:r<as.length:=by rw [t1.len];exact (aks.mp hr).1
 have ha:as[r]?=some as[r]:=akt hlt
 refine⟨a,as.map .ref,(r:Int),.ref as[r],rfl,rfl,.of t1.top,vA (by rw [akz,ha];rfl),Or.inl ⟨rfl,_,.of (t1.row r _ row ha hr)⟩,?_⟩
 refine h4 σ H1 _ x1.env fun d v H3 g3 r3 ⟨vi,ed,m,hm,hno,ho⟩=>?_
 subst ed
 rw [rep_int.mp r3]
 have x3:=x1.go g3 (x1.env.mono g3)
 refine⟨as[r],row,vi,m,rfl,rfl,(x3.tab rows rfl).row r _ row ha hr,hm,hno,hl,?_⟩
 exact n ρ _ σ _ (x3.turn (row':=row.eraseIdx m) se hr hlt) ho
theorem agP {γ:Type} {n:Nat} {pre:γ->Nat->List DV->List (List Int)->Prop} {post:γ->List (List Int)->List (List Int)->Bool->Prop} {E:XK} (c:γ) (J:List (List Int)->Prop) (μ:List (List Int)->Nat) (j0:J rows)
  (h:∀ rows,J rows->PAd K (f.withs (a :: as)) ta ρ fun xs=>xs.length=n/\pre c f.M.length xs rows/\∀ rows' b,post c rows rows' b->J rows'/\(b=true->μ rows'<μ rows)/\(b=false->O ρ (some rows'))) :
  PSu K f a as (afM (af5 K (yZ (ajs K n pre post) [] E ta)) aab) ρ (some rows) O:=fun se σ H H2 E' x k=>by
 refine⟨fun m σ' H'=>∃ rows',TN K f a as H2 ρ (some rows') σ' H'/\J rows'/\m=μ rows',⟨_,rows,x,j0,rfl⟩,?_⟩
 rintro m σ1 H1 ⟨rows1,x1,j1,rfl⟩
 refine h rows1 j1 σ1 H1 _ x1.env fun xs vs H3 g3 r3 ⟨hl,hp,hk⟩=>?_
 have x3:=x1.go g3 (x1.env.mono g3)
 refine⟨f,a,as,xs,c,rows1,se,by rw [akY];exact r3,hl,x3.env.fd,x3.tab rows1 rfl,hp,fun rows' b H' sm fo kp t' po=>?_⟩
 obtain⟨p1,p2,p3⟩:=hk rows' b po
 have x4:TN K f a as H2 ρ (some rows') σ1 H':=by
  refine⟨⟨x3.env.len,fun q z hz=>?_,fo⟩,x3.sm.trans sm,fun b hb=>(kp b hb).trans (x3.kp b hb),fun r er=>by cases er;exact t'⟩
  obtain⟨v,a1,a2⟩:=x3.env.get q z hz
  refine⟨v,a1,?_⟩
  cases z with
  | dat d=>exact Rep.mono sm d v a2
  | feed=>exact a2
  | exc C=>obtain⟨b',h3,h4⟩:=a2;exact⟨b',h3,sm _ _ h4⟩
  | mon φ=>exact fun H'' s=>a2 H'' (sm.trans s)
  | own k=>exact a2
 refine⟨b,rfl,?_⟩
 cases b with
 | true =>
  rw [if_pos rfl]
  exact⟨fun σ' H''=>∃ rows'',TN K f a as H2 ρ (some rows'') σ' H''/\J rows''/\μ rows''<μ rows1,fun σ' H'' ⟨r2,z1,z2,z3⟩=>⟨_,z3,r2,z1,z2,rfl⟩,rows',x4,p1,p2 rfl⟩
 | false =>
  rw [if_neg akr]
  exact k ρ _ σ1 H' x4 (p3 rfl)
end
section
variable {P:Program} {w:World} {K:akq} {mg:Str->Option Value} {base:Heap} {k n:Nat} {x:Str} {st:Stmt} {ps N:List Str} {γ:Type} {pre:γ->Nat->List DV->List (List Int)->Prop} {post:γ->List (List Int)->List (List Int)->Bool->Prop}
theorem Def.okWr (F:Def K mg x st ps) (S:FnScope N ps (zj st)) (hn:ps.length=n)
  (h:∀ (fa:Addr) (cdv:Value) (A:Around) (outer:List Env) (s:Shared) (H:Hp) (E:XK),Room k (A.deeper (envOfC x (zj st) s.heap.objs.size fa cdv)) ->
   ∃ t,PSs (zV CX0 P w K mg base N x (zj st) fa cdv A outer s H E).nox (z6 st) t/\∀ (f:Fx) (a:Addr) (as:List Addr) (xs:List DV) (c:γ) (rows:List (List Int)),xs.length=n->pre c f.M.length xs rows->PSy K f a as t (jm N xs) rows (post c rows)) :
  FnIn P w K mg base (k+1) x ps (ajs K n pre post):=by
 obtain⟨fa,fd,F1,F2,F3⟩:=F.ex
 refine⟨fa,fd,F1.ok S (fun vs H Q E h=>?_) (fun cdv A outer s H vs Q E hr hs=>?_),F3,F1.kp,F2⟩
 ·obtain⟨f,a,as,xs,c,rows,_,r,hl,_⟩:=h
  rw [r.length,hl,hn]
 ·obtain⟨f,a,as,xs,c,rows,se,r,hl,fo,t0,hp,q⟩:=hs
  obtain⟨t,h1,h2⟩:=h fa cdv A outer s H E hr
  exact⟨t,h1,h2 f a as xs c rows hl hp se (start N vs) H H _ ⟨y7 r fo,Same.refl _,fun _ _=>rfl,fun r' er=>by cases er;exact t0⟩ fun ρ' rows' σ' H' b y p=>q rows' b H' y.sm y.env.fd y.kp (y.tab rows' rfl) p⟩
end
noncomputable def afi:List V->Hp->VK->Prop:=fun xs H Q=>∃ i j k:Int,xs=[.int i,.int j,.int k]/\∀ m:Int,Q (.int m) H
section
variable {X:Cx}
theorem vals3 {x y z:V} {us:List Value} (r:Vals [x,y,z] us):∃ u v w,us=[u,v,w]/\RelV x u/\RelV y v/\RelV z w:=by
 cases r with
 | cons a r =>
  obtain⟨v,w,rfl,b,c⟩:=vals2 r
  exact⟨_,v,w,rfl,a,b,c⟩
theorem afj (hc:X.calm=true):yn X (.builtin "max") afi:=by
 intro pins s σ H xs us Q I r h
 obtain⟨i,j,k,rfl,q⟩:=h
 obtain⟨u,v,w',rfl,⟨t,rfl⟩,⟨t',rfl⟩,⟨t2,rfl⟩⟩:=vals3 r
 refine max_three_ints (I.ok.hd hc) fun h' tk kk=>?_
 split <;> split
 all_goals exact⟨.int _,H,I.kept kk,⟨_,rfl⟩,q _⟩
theorem afk (hc:X.calm=true):yn X (.builtin "min") afi:=by
 intro pins s σ H xs us Q I r h
 obtain⟨i,j,k,rfl,q⟩:=h
 obtain⟨u,v,w',rfl,⟨t,rfl⟩,⟨t',rfl⟩,⟨t2,rfl⟩⟩:=vals3 r
 refine min_three_ints (I.ok.hd hc) fun h' tk kk=>?_
 split <;> split
 all_goals exact⟨.int _,H,I.kept kk,⟨_,rfl⟩,q _⟩
noncomputable def aj7 (i j:Int):Prop:=j=2/\i.natAbs<2 ^ 100
theorem jc:OpR X (binaryOp .Pow) (rI aj7 fun i j=>.int (i ^ j.toNat)):=opI fun _ _ _ _ _ _ _ hc q=>pow_int (by rw [hc.1];decide) (by
 have:=intBits_le hc.2
 rw [hc.1]
 omega) q
end
section
variable {K:akq} {f:Fx} {ρ:zy} {P:PyData->Prop} {t:TA}
theorem aj8 (h:PAd K f t ρ fun xs=>∃ i j k:Int,xs=[.dat (.int i),.dat (.int j),.dat (.int k)]/\∀ m:Int,P (.int m)):PEd K f (tCB afi t) ρ P:=fun σ H Q e q =>
 h σ H _ e fun xs vs H1 g1 r1 ⟨i,j,k,ex,p⟩=>by
  subst ex
  cases r1 with
  | @cons _ v0 _ _ r0 r1 =>
   cases r1 with
   | @cons _ v1 _ _ r2 r3 =>
    cases r3 with
    | @cons _ v2 _ _ r4 r5 =>
     cases r5
     have e0:v0=.int i:=(rep_int (K:=K) (H:=hide H1 f)).mp r0
     have e1:v1=.int j:=(rep_int (K:=K) (H:=hide H1 f)).mp r2
     have e2:v2=.int k:=(rep_int (K:=K) (H:=hide H1 f)).mp r4
     subst e0 e1 e2
     exact⟨i,j,k,rfl,fun m=>q (.int m) _ H1 g1 (rep_int.mpr rfl) (p m)⟩
end
end L2
end
section
namespace My
open PySem PySem.Spec PyProof.Rows L2
noncomputable abbrev pd:List Str:=["a","b","c","d"]
noncomputable abbrev pf:List Str:=["_law_feed_here","_law_many"]
noncomputable abbrev ph:List Str:=["web"]
noncomputable abbrev pj:List Str:=["_law_web"]
noncomputable abbrev pk:List Str:=["word","path"]
noncomputable abbrev pq:List Str:=["a","b","c"]
noncomputable abbrev pw:List Str:=["point","field"]
noncomputable abbrev pz:List Str:=["word","some","i"]
noncomputable abbrev pA:List Str:=["ahead","behind","many"]
noncomputable abbrev pB:List Str:=["web","kept"]
noncomputable abbrev pC:List Str:=["_law_feed_here","_law_row"]
noncomputable abbrev pD:List Str:=["_law_feed_here","_law_chain_here","_law_top"]
noncomputable abbrev pE:List Str:=["_law_one","_law_other","_law_point"]
noncomputable abbrev pF:List Str:=["_law_one","_law_other","_law_k"]
noncomputable abbrev pG:List Str:=["_law_word","_law_points"]
noncomputable abbrev pH:List Str:=["web","one","other"]
noncomputable abbrev pI:List Str:=["web","first","second"]
noncomputable abbrev pJ:List Str:=["ahead","between","behind"]
noncomputable abbrev pK:List Str:=["point","start","end","bound"]
noncomputable abbrev pL:List Str:=["web","bound","pins"]
noncomputable abbrev pM:List Str:=["web","kept","bound","pins"]
noncomputable abbrev pN:List Str:=["web","kept","key","bound","pins"]
noncomputable abbrev pO:List Str:=["some","i"]
noncomputable abbrev pP:List Str:=["_law_script","_law_k"]
noncomputable abbrev pQ:List Str:=["_law_feed_here","_law_many","_law_top"]
noncomputable abbrev pR:List Str:=["_law_feed_here","_law_many","_law_top","_law_room"]
noncomputable abbrev pS:List Str:=["_law_feed_here","_law_most"]
noncomputable abbrev pT:List Str:=["_law_one","_law_other"]
noncomputable abbrev pU:List Str:=["_law_one","_law_middle","_law_other"]
noncomputable abbrev pV:List Str:=["_law_web","_law_here","_law_there"]
noncomputable abbrev pW:List Str:=["_law_web","_law_k","_law_at","_law_point"]
noncomputable abbrev pX:List Str:=["_law_feed_here","_law_web"]
noncomputable abbrev pY:List Str:=["_law_caught"]
noncomputable abbrev pZ:List Str:=["_law_web","_law_bound","_law_pins"]
noncomputable abbrev qa:List Str:=["_law_script"]
noncomputable abbrev qb:List Str:=["word","path","some","i"]
noncomputable abbrev qc:List Str:=["k","some","i"]
noncomputable abbrev qd:List Str:=["word","path","some"]
noncomputable abbrev qe:List Str:=["_law_x","_law_y","_law_k"]
noncomputable abbrev qf:List Str:=["_law_word","_law_points","_law_by","_law_far"]
noncomputable abbrev qg:List Str:=["_law_x","_law_y","_law_by","_law_far"]
local macro_rules | `(tactic| walk_at "w")=>`(tactic| repeat walk_at "dl")
local macro_rules | `(tactic| walk_at "s")=>`(tactic| exact⟨rfl,rfl,rfl,by decide +kernel,rfl,by decide +kernel,by decide +kernel⟩)
noncomputable abbrev Pt:=Int×Int
noncomputable abbrev Ln:=Bool×List Pt
noncomputable abbrev Web:=List Ln
structure Sg where
 k:Nat
 i:Nat
 p:Pt
 q:Pt
noncomputable def ptD (p:Pt):PyData:=.tuple [.int p.1,.int p.2]
noncomputable def qO (b:Bool):Str:=if b then "ring" else "run"
noncomputable def lnD (l:Ln):PyData:=.tuple [.str (qO l.1),.tuple (l.2.map ptD)]
noncomputable def yO (w:Web):PyData:=.list (w.map lnD)
noncomputable def aap (s:Sg):PyData:=.tuple [.tuple [.int s.k,.int s.i],ptD s.p,ptD s.q]
noncomputable def yQ (s:Sg):PyData:=.tuple [.int s.k,.int s.i,.tuple [ptD s.p,ptD s.q]]
noncomputable def mx (a b:Int):Int:=if b > a then b else a
noncomputable def mn (a b:Int):Int:=if b<a then b else a
noncomputable def zT (a b c:Pt):Int:=(b.1 - a.1) * (c.2 - a.2) - (b.2 - a.2) * (c.1 - a.1)
noncomputable def yf (a b c d:Int):Bool:=decide (mx a b<mn c d) || decide (mx c d<mn a b)
noncomputable def yj (a b c d:Pt):Bool:=!(yf a.1 b.1 c.1 d.1 || yf a.2 b.2 c.2 d.2) && (decide (zT a b c * zT a b d<=0) && decide (zT c d a * zT c d b<=0))
noncomputable def jY (a m c:Pt):Bool:=decide (zT a m c=0) && decide ((a.1 - m.1) * (c.1 - m.1)+(a.2 - m.2) * (c.2 - m.2) > 0)
noncomputable def vj (l:Ln):Nat:=if l.1 then l.2.length else l.2.length - 1
noncomputable def atP (ps:List Pt) (i:Nat):Pt:=ps.getD i (0,0)
noncomputable def yk (k:Nat) (l:Ln):List Sg:=(alc (vj l)).map fun i=>⟨k,i,atP l.2 i,atP l.2 ((i+1) % l.2.length)⟩
noncomputable def z7 (w:Web):List Sg:=(w.mapIdx yk).flatten
noncomputable def zS (w:Web) (k:Nat):Ln:=w.getD k (false,[])
noncomputable def yB (w:Web) (k i l j:Nat):Bool:=(zS w l).1 && (decide (k=l/\i=0) && decide ((j:Int)=(zS w l).2.length - 1))
noncomputable def jZ (w:Web) (s t:Sg):Bool :=
 if s.k=t.k/\s.i+1=t.i then jY s.p s.q t.q else if yB w s.k s.i t.k t.i=true then jY t.p t.q s.q else yj s.p s.q t.p t.q
noncomputable def yv (w:Web) (s t:Sg):Bool:=if s.k=t.k/\s.i=t.i then decide (s.p=s.q) else jZ w s t
noncomputable def look (f:Sg->Sg->Bool):List Sg->Option (Sg×Sg)
 | []=>none
 | s :: r=>match (s :: r).find? (f s) with
  | some t=>some (s,t)
  | none=>look f r
noncomputable def yq (w:Web):Option (Sg×Sg):=look (yv w) (z7 w)
noncomputable def qB:Option (Sg×Sg)->PyData
 | none=>.none
 | some (s,t)=>.tuple [.int s.k,.int s.i,.int t.k,.int t.i]
structure Near (o p:Pt):Prop where
 a:o.1<=p.1
 b:p.1<=o.1+4398046511104
 c:o.2<=p.2
 d:p.2<=o.2+4398046511104
theorem zQ {b:Bool} {p q:Prop} (h1:b=true->p) (h2:b=false->q):if b=true then p else q:=by
 cases b with
 | true=>rw [if_pos rfl];exact h1 rfl
 | false=>rw [if_neg akr];exact h2 rfl
structure OkWeb (o:Pt) (w:Web):Prop where
 len:w.length<=20
 two:∀ l∈w,2<=l.2.length
 few:∀ l∈w,l.2.length<=40
 near:∀ l∈w,∀ p∈l.2,Near o p
theorem bnd {B:Int} {x y:Int} (h1:-B<=x) (h2:x<=B) (h3:-B<=y) (h4:y<=B):-(B * B)<=x * y/\x * y<=B * B:=by
 have hB:0<=B:=by omega
 have a:x.natAbs<=B.natAbs:=by omega
 have b:y.natAbs<=B.natAbs:=by omega
 have c:(x * y).natAbs<=(B * B).natAbs:=by rw [Int.natAbs_mul,Int.natAbs_mul];exact Nat.mul_le_mul a b
 have d:0<=B * B:=amk hB hB
 omega
theorem jz {o a b c:Pt} (ha:Near o a) (hb:Near o b) (hc:Near o c):-(1267650600228229401496703205376)<zT a b c/\zT a b c<1267650600228229401496703205376:=by
 obtain⟨a1,a2,a3,a4⟩:=ha
 obtain⟨b1,b2,b3,b4⟩:=hb
 obtain⟨c1,c2,c3,c4⟩:=hc
 have e1:=bnd (B:=4398046511104) (x:=b.1 - a.1) (y:=c.2 - a.2) (by omega) (by omega) (by omega) (by omega)
 have e2:=bnd (B:=4398046511104) (x:=b.2 - a.2) (y:=c.1 - a.1) (by omega) (by omega) (by omega) (by omega)
 unfold zT
 omega
theorem afl (x y:Int):x * y<=0↔mn x y<=0/\0<=mx x y:=by
 unfold mn mx
 rcases Int.lt_trichotomy x 0 with hx | hx | hx <;> rcases Int.lt_trichotomy y 0 with hy | hy | hy
 ·have:=Int.mul_pos_of_neg_of_neg hx hy
  constructor
  ·intro h;omega
  ·intro h;split at h <;> split at h <;> omega
 ·subst hy;simp;constructor <;> intros <;> split <;> omega
 ·have:=Int.mul_neg_of_neg_of_pos hx hy
  constructor
  ·intro _;constructor <;> split <;> omega
  ·intro h;omega
 ·subst hx;simp;constructor <;> intros <;> split <;> omega
 ·subst hx hy;simp
 ·subst hx;simp;constructor <;> intros <;> split <;> omega
 ·have:=Int.mul_neg_of_pos_of_neg hx hy
  constructor
  ·intro _;constructor <;> split <;> omega
  ·intro h;omega
 ·subst hy;simp;constructor <;> intros <;> split <;> omega
 ·have:=Int.mul_pos hx hy
  constructor
  ·intro h;omega
  ·intro h;split at h <;> split at h <;> omega
theorem j3 {α β:Type} {F:α->β} {xs:List α} {k:Int} {j:Nat} (hk:(j:Int)=k) (h:j<xs.length):atI (xs.map F) k=some (F xs[j]):=by
 subst hk
 refine vA ?_
 rw [akz,akt h]
 rfl
theorem ab4 {ps:List Pt} {k:Int} {j:Nat} (hk:(j:Int)=k) (h:j<ps.length):atI (ps.map ptD) k=some (ptD (atP ps j)):=by
 rw [j3 hk h]
 unfold atP
 rw [aky,akt h]
 rfl
theorem ab5 {w:Web} {k:Int} {j:Nat} (hk:(j:Int)=k) (h:j<w.length):atI (w.map lnD) k=some (lnD (zS w j)):=by
 rw [j3 hk h]
 unfold zS
 rw [aky,akt h]
 rfl
theorem qP (b:Bool):(PyData.str (qO b)).canLay0=true:=by cases b <;> decide +kernel
theorem vZ (b:Bool):ak3 (.str (qO b)) (.str "ring")=b:=by cases b <;> rfl
theorem agQ (b:Bool):ak3 (.str (qO b)) (.str "run")=!b:=by cases b <;> rfl
theorem jr (a b:Int):ak3 (.int a) (.int b)=decide (a=b):=rfl
theorem ab6 (k i l j:Int):ak3 (.tuple [.int k,.int i]) (.tuple [.int l,.int j])=decide (k=l/\i=j):=by
 show ((k == l) && ((i == j) && true))=_
 rw [Bool.and_true,am6]
 rfl
theorem ab7 (a b:Pt):ak3 (ptD a) (ptD b)=decide (a=b):=by
 unfold ptD
 rw [ab6]
 congr 1
 rw [Prod.ext_iff]
theorem ajt (a:Pt):(ptD a).canLay0=true:=rfl
theorem ab8 (a b:Pt):min (ptD a).depth (ptD b).depth<=60:=by unfold ptD;simp [al7,alq]
noncomputable def yU (w:Web) (n:Nat):List Sg:=((w.take n).mapIdx yk).flatten
theorem jF {w:Web} {n:Nat} {l:Ln} (h:w[n]?=some l):yU w (n+1)=yU w n++yk n l:=by
 unfold yU
 have hn:n<w.length:=(aks.mp h).1
 rw [alF,h,List.mapIdx_append,List.flatten_append]
 congr 1
 simp [akW,amx (ale hn)]
theorem qk (w:Web):yU w w.length=z7 w:=by
 unfold yU z7
 rw [al6]
theorem yV (k:Nat) (l:Ln):(yk k l).length=vj l:=by unfold yk;simp
theorem aav (l:Ln):vj l<=l.2.length:=by unfold vj;split <;> omega
theorem qY {w:Web} (h:∀ l∈w,l.2.length<=40):∀ n,n<=w.length->(yU w n).length<=40 * n
 | 0,_=>by simp [yU]
 | n+1,hn=>by
  have hl:w[n]?=some w[n]:=akt (by omega)
  rw [jF hl,akD,yV]
  have:=qY h n (by omega)
  have:=h w[n] (ak7 _)
  have:=aav w[n]
  omega
theorem vk {k m:Nat} {l:Ln} (h:m<vj l):(yk k l).take (m+1)=(yk k l).take m++[⟨k,m,atP l.2 m,atP l.2 ((m+1) % l.2.length)⟩]:=by
 rw [alF]
 congr 1
 unfold yk
 rw [akz,alQ h]
 rfl
theorem ael {ps:List Pt} {i:Nat} (h:i<ps.length):atP ps i∈ps:=by
 unfold atP
 rw [aky,akt h]
 exact ak7 h
structure SegOf (w:Web) (s:Sg):Prop where
 k:s.k<w.length
 i:s.i<vj (zS w s.k)
 p:s.p=atP (zS w s.k).2 s.i
 q:s.q=atP (zS w s.k).2 ((s.i+1) % (zS w s.k).2.length)
theorem ab9 {w:Web} {s:Sg} (h:s∈z7 w):SegOf w s:=by
 unfold z7 at h
 rw [List.mem_flatten] at h
 obtain⟨L,h1,h2⟩:=h
 rw [List.mem_mapIdx] at h1
 obtain⟨i,hi,rfl⟩:=h1
 unfold yk at h2
 rw [alf] at h2
 obtain⟨j,hj,rfl⟩:=h2
 rw [alD] at hj
 have e:zS w i=w[i]:=by
  unfold zS
  rw [aky,akt hi]
  rfl
 exact⟨hi,by rw [e];exact hj,by rw [e],by rw [e]⟩
theorem acO {w:Web} {k:Nat} (h:k<w.length):zS w k∈w:=by
 unfold zS
 rw [aky,akt h]
 exact ak7 h
theorem SegOf.near {o:Pt} {w:Web} {s:Sg} (x:SegOf w s) (g:OkWeb o w):Near o s.p/\Near o s.q:=by
 have m:=acO x.k
 have l2:=g.two _ m
 have hi:=x.i
 have:=aav (zS w s.k)
 refine⟨by rw [x.p];exact g.near _ m _ (ael (by omega)),by rw [x.q];exact g.near _ m _ (ael (Nat.mod_lt _ (by omega)))⟩
theorem aaU {f:Sg->Sg->Bool} {s t:Sg} {r:List Sg} {m:Nat} (ht:(s :: r)[m]?=some t) (h0:∀ u∈(s :: r).take m,f s u=false) (h1:f s t=true):look f (s :: r)=some (s,t):=by
 have e:(s :: r).find? (f s)=some t:=by
  rw [List.find?_eq_some_iff_append]
  refine⟨h1,(s :: r).take m,(s :: r).drop (m+1),?_,fun u hu=>by rw [h0 u hu];rfl⟩
  have hm:m<(s :: r).length:=(aks.mp ht).1
  have:=(aks.mp ht).2
  rw [<-this,List.getElem_cons_drop,List.take_append_drop]
 show (match (s :: r).find? (f s) with | some t=>some (s,t) | none=>look f r)=_
 rw [e]
theorem abz {f:Sg->Sg->Bool} {s:Sg} {r:List Sg} (h0:∀ u∈s :: r,f s u=false):look f (s :: r)=look f r:=by
 have e:(s :: r).find? (f s)=none:=by
  rw [List.find?_eq_none]
  intro u hu
  rw [h0 u hu]
  exact akr
 show (match (s :: r).find? (f s) with | some t=>some (s,t) | none=>look f r)=_
 rw [e]
noncomputable def top (i:Nat):Stmt:=PySem.Challenge.pw_heightrings_k61_no_webs.main.body.getD i (.Pass ⟨0,0,0,0⟩)
noncomputable abbrev qZ:=top 13
noncomputable abbrev afm:List Str:=["web","some","at","one","other"]
theorem sc_meeting:FnScope afm ph (zj qZ):=by walk_at "s"
noncomputable abbrev qp:=top 14
noncomputable abbrev adH:List Str:=["web","found","k","word","path","i"]
theorem sc_segments:FnScope adH ph (zj qp):=by walk_at "s"
noncomputable abbrev yG:=top 15
noncomputable abbrev aaq:List Str:=pk
theorem v5:FnScope aaq pk (zj yG):=by walk_at "s"
noncomputable abbrev aaw:=top 16
noncomputable abbrev ahU:List Str:=["web","one","other","first","a","b","second","c","d"]
theorem sc_meets:FnScope ahU pH (zj aaw):=by walk_at "s"
noncomputable abbrev vK:=top 17
noncomputable abbrev agR:List Str:=["web","first","second","word","path"]
theorem sc_closes:FnScope agR pI (zj vK):=by walk_at "s"
noncomputable abbrev jt:=top 18
noncomputable abbrev aca:List Str:=["ahead","between","behind","a","b","x","y","c","d"]
theorem sc_turns_back:FnScope aca pJ (zj jt):=by walk_at "s"
noncomputable abbrev acb:=top 19
noncomputable abbrev aju:List Str:=pq
theorem ahV:FnScope aju pq (zj acb):=by walk_at "s"
noncomputable abbrev va:=top 20
noncomputable abbrev abA:List Str:=pd
theorem adI:FnScope abA pd (zj va):=by walk_at "s"
noncomputable abbrev aax:=top 21
noncomputable abbrev ahW:List Str:=pd
theorem agS:FnScope ahW pd (zj aax):=by walk_at "s"
noncomputable abbrev jG:=top 22
noncomputable abbrev acP:List Str:=["point","start","end","bound","x","y","a","b","c","d","squared","along"]
theorem sc_lies_near:FnScope acP pK (zj jG):=by walk_at "s"
noncomputable abbrev vb:=top 24
noncomputable abbrev afn:List Str:=["web","bound","pins","at","kept"]
theorem sc_thinned:FnScope afn pL (zj vb):=by walk_at "s"
noncomputable abbrev vL:=top 25
noncomputable abbrev agT:List Str:=["web","kept","bound","pins","gone","keys","key","k","i"]
theorem sc_let_go:FnScope agT pM (zj vL):=by walk_at "s"
noncomputable abbrev jH:=top 26
noncomputable abbrev acQ:List Str:=["kept"]
theorem acd:FnScope acQ ["kept"] (zj jH):=by walk_at "s"
noncomputable abbrev vM:=top 27
noncomputable abbrev agU:List Str:=["web","kept","key","bound","pins","k","i","word","path","ahead","behind","start","end","j","field","others"]
theorem sc_may_go:FnScope agU pN (zj vM):=by walk_at "s"
noncomputable abbrev qq:=top 28
noncomputable abbrev adJ:List Str:=pz
theorem acR:FnScope adJ pz (zj qq):=by walk_at "s"
noncomputable abbrev je:=top 29
noncomputable abbrev abf:List Str:=["some","i","at"]
theorem sc_kept_beside:FnScope abf pO (zj je):=by walk_at "s"
noncomputable abbrev yw:=top 30
noncomputable abbrev vN:List Str:=pA
theorem vq:FnScope vN pA (zj yw):=by walk_at "s"
noncomputable abbrev jf:=top 31
noncomputable abbrev abg:List Str:=pB
theorem aaV:FnScope abg pB (zj jf):=by walk_at "s"
noncomputable abbrev yH:=top 32
noncomputable abbrev aar:List Str:=["point","field","a","b","c","turns"]
theorem sc_lies_in_field:FnScope aar pw (zj yH):=by walk_at "s"
noncomputable abbrev qr:=top 34
noncomputable abbrev vt:List Str:=["_law_script","_law_k","_law_cell"]
theorem sc_law_feed:FnScope vt pP (zj qr):=by walk_at "s"
noncomputable abbrev qt:=top 35
noncomputable abbrev adK:List Str:=["_law_feed_here","_law_many","_law_found"]
theorem sc_law_draw:FnScope adK pf (zj qt):=by walk_at "s"
noncomputable abbrev ju:=top 36
noncomputable abbrev ace:List Str:=pC
theorem abh:FnScope ace pC (zj ju):=by walk_at "s"
noncomputable abbrev jI:=top 37
noncomputable abbrev acS:List Str:=["_law_feed_here","_law_many","_law_top","_law_x","_law_found","_law_k"]
theorem sc_law_chain:FnScope acS pQ (zj jI):=by walk_at "s"
noncomputable abbrev qu:=top 38
noncomputable abbrev adL:List Str:=pD
theorem acT:FnScope adL pD (zj qu):=by walk_at "s"
noncomputable abbrev jv:=top 39
noncomputable abbrev acf:List Str:=["_law_feed_here","_law_many","_law_top","_law_room","_law_chain_here","_law_copies","_law_some","_law_ring_here","_law_at","_law_web","_law_x"]
theorem sc_law_bundle:FnScope acf pR (zj jv):=by walk_at "s"
noncomputable abbrev jJ:=top 40
noncomputable abbrev acU:List Str:=["_law_feed_here","_law_most","_law_web","_law_left","_law_turn_here","_law_many","_law_by","_law_far"]
theorem sc_law_clean:FnScope acU pS (zj jJ):=by walk_at "s"
noncomputable abbrev qv:=top 41
noncomputable abbrev adM:List Str:=["_law_one","_law_other","_law_point","_law_wide","_law_high"]
theorem sc_law_turn:FnScope adM pE (zj qv):=by walk_at "s"
noncomputable abbrev jK:=top 42
noncomputable abbrev acV:List Str:=pF
theorem acg:FnScope acV pF (zj jK):=by walk_at "s"
noncomputable abbrev jL:=top 43
noncomputable abbrev acW:List Str:=["_law_one","_law_other","_law_k","_law_first","_law_second","_law_third","_law_last"]
theorem sc_law_touch:FnScope acW pT (zj jL):=by walk_at "s"
noncomputable abbrev jM:=top 44
noncomputable abbrev acX:List Str:=["_law_one","_law_middle","_law_other","_law_wide"]
theorem sc_law_folds:FnScope acX pU (zj jM):=by walk_at "s"
noncomputable abbrev yW:=top 45
noncomputable abbrev aaW:List Str:=["_law_web","_law_found","_law_k","_law_word","_law_points","_law_i"]
theorem sc_law_segments:FnScope aaW pj (zj yW):=by walk_at "s"
noncomputable abbrev vc:=top 46
noncomputable abbrev afo:List Str:=["_law_web","_law_here","_law_there","_law_k","_law_i","_law_one","_law_many"]
theorem sc_law_bad:FnScope afo pV (zj vc):=by walk_at "s"
noncomputable abbrev jg:=top 47
noncomputable abbrev abi:List Str:=["_law_web","_law_some","_law_at","_law_k","_law_i","_law_one","_law_there"]
theorem sc_law_meeting:FnScope abi pj (zj jg):=by walk_at "s"
noncomputable abbrev jN:=top 48
noncomputable abbrev acY:List Str:=["_law_web","_law_k","_law_at","_law_point","_law_word","_law_points"]
theorem sc_law_moved:FnScope acY pW (zj jN):=by walk_at "s"
noncomputable abbrev jw:=top 49
noncomputable abbrev ach:List Str:=["_law_feed_here","_law_web","_law_way","_law_k","_law_at","_law_row","_law_one","_law_other","_law_point","_law_before"]
theorem sc_law_spoilt:FnScope ach pX (zj jw):=by walk_at "s"
noncomputable abbrev jO:=top 50
noncomputable abbrev acZ:List Str:=["_law_caught","_law_some"]
theorem sc_law_alone:FnScope acZ pY (zj jO):=by walk_at "s"
noncomputable abbrev qw:=top 51
noncomputable abbrev adN:List Str:=["_law_web","_law_bound","_law_pins","_law_found","_law_caught"]
theorem sc_law_told:FnScope adN pZ (zj qw):=by walk_at "s"
noncomputable abbrev aal:=top 52
noncomputable abbrev aem:List Str:=["_law_script","_law_k","_law_feed_here","_law_web","_law_kept","_law_bound","_law_due","_law_pins","_law_turn_here","_law_found"]
theorem sc_law:FnScope aem qa (zj aal):=by walk_at "s"
noncomputable abbrev j4:Stmt:=(ahS (top 7)).getD 0 (.Pass ⟨0,0,0,0⟩)
theorem abj:FnScope ["self","at"] ["self","at"] (zj j4):=by walk_at "s"
local macro_rules | `(tactic| walk_at "dl")=>`(tactic| first
 | (with_reducible show PSd _ _ (vR _ (afK (zO _) (tC (V.int 0)) acs)) _ _;refine ahz rfl ?_)
 | (with_reducible show PSd _ _ (vR _ (afK (zO _) (tC (V.int 1)) acs)) _ _;refine ahA rfl ?_)
 | with_reducible refine zM ?_ | with_reducible refine jV ?_ | with_reducible refine ye ?_ | with_reducible refine zR ?_ | with_reducible refine s_drop ?_ | with_reducible refine yc ?_
 | with_reducible refine zr ?_ | with_reducible refine jq rfl ?_ | with_reducible refine zN ?_ | with_reducible refine yD ?_
 | with_reducible refine yL ?_ | with_reducible refine t_b ?_ | with_reducible refine af3 ?_ | with_reducible refine ahw ?_ | with_reducible refine af4 ?_ | with_reducible refine qA ?_
 | with_reducible refine ahx ?_ | with_reducible refine abw ?_ | with_reducible refine aaK ?_ | with_reducible refine vV ?_ | with_reducible refine aaL ?_
 | with_reducible refine akf ?_ | with_reducible refine abV ?_ | with_reducible refine ajO ?_ | with_reducible refine adn ?_
 | with_reducible refine jU ?_ | with_reducible refine ahv ?_ | with_reducible refine ad1 ?_ | with_reducible refine ajM ?_
 | (with_reducible show PEd _ _ (zO _) _ _;refine zp rfl ?_)
 | (with_reducible show PEd _ _ (tOp (adi _) (zO _) _) _ _;refine ajN rfl ?_)
 | with_reducible refine vB ?_ | with_reducible refine qJ ?_
 | (with_reducible show PAd _ _ (zG (zO _) _) _ _;refine adm rfl ?_)
 | with_reducible refine zu ?_ | with_reducible refine zY ?_
 | with_reducible refine ai4 ?_ | with_reducible refine agg ?_ | with_reducible refine ajS ?_ | with_reducible refine ajT ?_ | with_reducible refine ai5 ?_ | with_reducible refine ad7 ?_ | with_reducible refine ji ?_
 | with_reducible refine vh ?_ | with_reducible refine aij ?_ | with_reducible refine ajP ?_ | with_reducible refine ai0 ?_ | with_reducible refine ai1 ?_ | with_reducible refine ai2 ?_ | with_reducible refine ai3 ?_
 | (with_reducible show (∃ _,_) \/ (∃ _,_);first | refine Or.inl ⟨_,rfl,?_⟩ | refine Or.inr ⟨_,rfl,?_⟩) | refine⟨_,rfl,?_⟩ | refine⟨_,_,rfl,?_⟩
 | (with_reducible show (_=_/\∀ _,_) \/ _;first | refine Or.inl ⟨rfl,fun a ha=>?_⟩ | refine Or.inr ⟨rfl,fun b hb hb'=>?_⟩)
 | (with_reducible show PyData.canLay0 _=true/\_;refine And.intro (by first | rfl | assumption | decide +kernel) ?_)
 | (with_reducible show min _ _<=60/\_;refine And.intro (by first | assumption | (simp [al7,alq];done)) ?_)
 | refine⟨rfl,?_⟩
 | (refine And.intro ?side ?_;(case side=>first | omega | exact Int.ediv_nonneg (by omega) (by omega) | exact alV _ (by omega) | exact alj _ (by omega) | decide | exact⟨by decide,by decide,by decide⟩ | exact⟨by omega,by omega⟩ | exact Or.inl ⟨by omega,by omega⟩ | exact Or.inr ⟨by omega,by omega⟩ | (refine akV (amC (by rfl)) (show _<=1000 by decide)) | ((repeat' apply And.intro) <;> first | rfl | omega | decide | assumption) | (simp [al7]))))
section
variable {P:Program} {w:World} {K:akq} {mg:Str->Option Value} {base:Heap} {k:Nat}
noncomputable abbrev yI (K:akq):Sp:=spD K 3 (fun (c:Pt×Pt×Pt×Pt) xs=>xs=[.dat (ptD c.2.1),.dat (ptD c.2.2.1),.dat (ptD c.2.2.2)]/\Near c.1 c.2.1/\Near c.1 c.2.2.1/\Near c.1 c.2.2.2) fun c r=>r=.int (zT c.2.1 c.2.2.1 c.2.2.2)
theorem agV (F:Def K mg "turn" acb pq):FnIn P w K mg base (k+1) "turn" pq (yI K):=by
 refine F.ok ahV rfl fun fa cdv A outer s H E hr=>⟨_,(zh (zw (zi zI (zi yu (zi zI (zf (ze (K:=K) rfl) (pv 1) zb (fun _ _=>rfl)) (zf (ze (K:=K) rfl) (pv 0) zb (fun _ _=>rfl))) (zi zI (zf (ze (K:=K) rfl) (pv 2) zb (fun _ _=>rfl)) (zf (ze (K:=K) rfl) (pv 0) zb (fun _ _=>rfl)))) (zi yu (zi zI (zf (ze (K:=K) rfl) (pv 1) zb (fun _ _=>rfl)) (zf (ze (K:=K) rfl) (pv 0) zb (fun _ _=>rfl))) (zi zI (zf (ze (K:=K) rfl) (pv 2) zb (fun _ _=>rfl)) (zf (ze (K:=K) rfl) (pv 0) zb (fun _ _=>rfl))))))),?_⟩
 rintro f xs ⟨o,a,b,c⟩ hl ⟨rfl,⟨a1,a2,a3,a4⟩,⟨b1,b2,b3,b4⟩,⟨c1,c2,c3,c4⟩⟩
 try dsimp only [zV,zq]
 unfold ptD
 dsimp only at *
 walk_at "w"
 rfl
noncomputable abbrev aen (K:akq):Sp:=spD K 4 (fun (c:Int×Int×Int×Int) xs=>xs=[.dat (.int c.1),.dat (.int c.2.1),.dat (.int c.2.2.1),.dat (.int c.2.2.2)]) fun c r=>r=.bool (yf c.1 c.2.1 c.2.2.1 c.2.2.2)
theorem agW (F:Def K mg "apart" aax pd) (uae:mg "min"=none) (uaf:mg "max"=none):FnIn P w K mg base (k+1) "apart" pd (aen K):=by
 refine F.ok agS rfl fun fa cdv A outer s H E hr=>⟨_,(zh (zw (ajF (z8 aaC (zo (y3 rfl) rfl uaf boot_max (za (pv 0) (za (pv 1) zc))) (zo (y4 rfl) rfl uae boot_min (za (pv 2) (za (pv 3) zc))) (zB _)) (aaA (z8 aaC (zo (y3 rfl) rfl uaf boot_max (za (pv 2) (za (pv 3) zc))) (zo (y4 rfl) rfl uae boot_min (za (pv 0) (za (pv 1) zc))) (zB _)))))),?_⟩
 rintro f xs ⟨a,b,c,d⟩ hl rfl
 try dsimp only [zV,zq]
 walk_at "w"
 refine zQ (fun h=>?_) fun h=>?_
 ·show PyData.bool true=PyData.bool (yf a b c d)
  unfold yf mx mn
  rw [h]
  rfl
 ·walk_at "w"
  show PyData.bool _=PyData.bool (yf a b c d)
  unfold yf mx mn
  rw [h]
  rfl
noncomputable abbrev v7 (K:akq):Sp:=spD K 4 (fun (c:Pt×Pt×Pt×Pt×Pt) xs=>xs=[.dat (ptD c.2.1),.dat (ptD c.2.2.1),.dat (ptD c.2.2.2.1),.dat (ptD c.2.2.2.2)]/\Near c.1 c.2.1/\Near c.1 c.2.2.1/\Near c.1 c.2.2.2.1/\Near c.1 c.2.2.2.2) fun c r=>r=.bool (yj c.2.1 c.2.2.1 c.2.2.2.1 c.2.2.2.2)
theorem adO (F:Def K mg "touches" va pd) (ubi:FnIn P w K mg base k "apart" pd (aen K)) (uah:FnIn P w K mg base k "turn" pq (yI K)):FnIn P w K mg base (k+1) "touches" pd (v7 K):=by
 refine F.ok adI rfl fun fa cdv A outer s H E hr=>⟨_,(zd (zX (PW.pt (acp (yF (K:=K) rfl (zg ubi hr rfl (za (zf (ze (K:=K) rfl) (pv 0) zb (fun _ _=>rfl)) (za (zf (ze (K:=K) rfl) (pv 1) zb (fun _ _=>rfl)) (za (zf (ze (K:=K) rfl) (pv 2) zb (fun _ _=>rfl)) (za (zf (ze (K:=K) rfl) (pv 3) zb (fun _ _=>rfl)) zc))))) (fun _=>rfl)) (abJ (yF (K:=K) rfl (zg ubi hr rfl (za (zf (ze (K:=K) rfl) (pv 0) zb (fun _ _=>rfl)) (za (zf (ze (K:=K) rfl) (pv 1) zb (fun _ _=>rfl)) (za (zf (ze (K:=K) rfl) (pv 2) zb (fun _ _=>rfl)) (za (zf (ze (K:=K) rfl) (pv 3) zb (fun _ _=>rfl)) zc))))) (fun _=>rfl))))) (zh (zw qE)) zF) (zh (zw (vQ (z8 jB (zi aea (zg uah hr rfl (za (pv 0) (za (pv 1) (za (pv 2) zc)))) (zg uah hr rfl (za (pv 0) (za (pv 1) (za (pv 3) zc))))) zb (zB _)) (aaA (z8 jB (zi aea (zg uah hr rfl (za (pv 2) (za (pv 3) (za (pv 0) zc)))) (zg uah hr rfl (za (pv 2) (za (pv 3) (za (pv 1) zc))))) zb (zB _))))))),?_⟩
 rintro f xs ⟨o,a,b,c,d⟩ hl ⟨rfl,na,nb,nc,nd⟩
 try dsimp only [zV,zq]
 dsimp only at *
 have fin:PEd K f (afG
            (tOp (rI0 fun i j=>V.bl (decide (i<=j)))
             (tOp (rI CMulB fun i j=>V.int (i * j))
              (yZ (yI K) [] E0 (zG (zO 0) (zG (zO 1) (zG (zO 2) yR))))
              (yZ (yI K) [] E0 (zG (zO 0) (zG (zO 1) (zG (zO 3) yR)))))
             (tC (V.int 0)))
            (tOp (rI0 fun i j=>V.bl (decide (i<=j)))
             (tOp (rI CMulB fun i j=>V.int (i * j))
              (yZ (yI K) [] E0 (zG (zO 2) (zG (zO 3) (zG (zO 0) yR))))
              (yZ (yI K) [] E0 (zG (zO 2) (zG (zO 3) (zG (zO 1) yR)))))
             (tC (V.int 0)))) (jm abA [DV.dat (ptD a),DV.dat (ptD b),DV.dat (ptD c),DV.dat (ptD d)])
   fun r=>r=.bool (decide (zT a b c * zT a b d<=0) && decide (zT c d a * zT c d b<=0)):=by
  refine abV (abw (vV (zt (o,a,b,c) ?_)))
  walk_at "w"
  rintro _ rfl
  refine⟨_,rfl,zt (o,a,b,d) ?_⟩
  walk_at "w"
  rintro _ rfl
  refine⟨_,rfl,⟨jz na nb nc,jz na nb nd⟩,?_⟩
  walk_at "w"
  refine zQ (fun h=>?_) fun h=>?_
  ·refine abw (vV (zt (o,c,d,a) ?_))
   walk_at "w"
   rintro _ rfl
   refine⟨_,rfl,zt (o,c,d,b) ?_⟩
   walk_at "w"
   rintro _ rfl
   refine⟨_,rfl,⟨jz nc nd na,jz nc nd nb⟩,?_⟩
   walk_at "w"
   dsimp only at h ⊢
   rw [h,amX]
  ·dsimp only at h ⊢
   rw [h,alZ]
 refine zM (jV (ahw (qA (zt (a.1,b.1,c.1,d.1) ?_))))
 walk_at "w"
 rintro _ rfl
 refine⟨_,rfl,?_⟩
 have tt:yj a b c d=(!(yf a.1 b.1 c.1 d.1 || yf a.2 b.2 c.2 d.2) && (decide (zT a b c * zT a b d<=0) && decide (zT c d a * zT c d b<=0))):=rfl
 dsimp only
 cases h1:yf a.1 b.1 c.1 d.1 with
 | true =>
  rw [if_pos rfl,if_pos rfl]
  walk_at "w"
  rw [tt,h1]
  rfl
 | false =>
  rw [if_neg akr]
  refine qA (zt (a.2,b.2,c.2,d.2) ?_)
  walk_at "w"
  rintro _ rfl
  refine⟨_,rfl,?_⟩
  dsimp only
  cases h2:yf a.2 b.2 c.2 d.2 with
  | true =>
   rw [if_pos rfl]
   walk_at "w"
   rw [tt,h1,h2]
   rfl
  | false =>
   rw [if_neg akr]
   refine yc (ye (fin.imp fun r hr=>?_))
   rw [hr,tt,h1,h2]
   rfl
noncomputable abbrev v8 (K:akq):Sp:=spD K 3 (fun (c:Pt×Pt×Pt×Pt) xs=>xs=[.dat (ptD c.2.1),.dat (ptD c.2.2.1),.dat (ptD c.2.2.2)]/\Near c.1 c.2.1/\Near c.1 c.2.2.1/\Near c.1 c.2.2.2) fun c r=>r=.bool (jY c.2.1 c.2.2.1 c.2.2.2)
theorem abk (F:Def K mg "turns_back" jt pJ) (uah:FnIn P w K mg base k "turn" pq (yI K)):FnIn P w K mg base (k+1) "turns_back" pJ (v8 K):=by
 refine F.ok sc_turns_back rfl fun fa cdv A outer s H E hr=>⟨_,(zd (zX (zD (abW (K:=K) rfl hr.units) (zg uah hr rfl (za (pv 0) (za (pv 1) (za (pv 2) zc)))) zb (zB _)) (zh (zw qE)) zF) (zd (yC (zJ (za (pv 0) (za (pv 1) (za (pv 2) zc)))) (zL (K:=K) (n:=3) rfl rfl (zk (zL (K:=K) (n:=2) rfl rfl (zk (zl (i:=3) sc_turns_back.nd rfl (Or.inl rfl) (Or.inr rfl)) (zk (zl (i:=4) sc_turns_back.nd rfl (Or.inl rfl) (Or.inr rfl)) zK))) (zk (zL (K:=K) (n:=2) rfl rfl (zk (zl (i:=5) sc_turns_back.nd rfl (Or.inl rfl) (Or.inr rfl)) (zk (zl (i:=6) sc_turns_back.nd rfl (Or.inl rfl) (Or.inr rfl)) zK))) (zk (zL (K:=K) (n:=2) rfl rfl (zk (zl (i:=7) sc_turns_back.nd rfl (Or.inl rfl) (Or.inr rfl)) (zk (zl (i:=8) sc_turns_back.nd rfl (Or.inl rfl) (Or.inr rfl)) zK))) zK))))) (zh (zw (z8 aac (zi zH (zi yu (zi zI (pv 3) (pv 5)) (zi zI (pv 7) (pv 5))) (zi yu (zi zI (pv 4) (pv 6)) (zi zI (pv 8) (pv 6)))) zb (zB _)))))),?_⟩
 rintro f xs ⟨o,a,b,c⟩ hl ⟨rfl,na,nb,nc⟩
 try dsimp only [zV,zq]
 dsimp only at *
 refine zM (jV (yL (aaL (zt (o,a,b,c) ?_))))
 walk_at "w"
 rintro _ rfl
 refine jU ⟨rfl,rfl,by simp [al7],_,rfl,?_⟩
 dsimp only
 rw [if_pos rfl,show ak3 (.int (zT a b c)) (.int 0)=decide (zT a b c=0) from rfl]
 by_cases h:zT a b c=0
 ·rw [decide_eq_true h,alK,if_neg akr]
  unfold ptD
  obtain⟨a1,a2,a3,a4⟩:=na
  obtain⟨b1,b2,b3,b4⟩:=nb
  obtain⟨c1,c2,c3,c4⟩:=nc
  walk_at "w"
  show PyData.bool _=PyData.bool _
  unfold jY
  rw [decide_eq_true h]
  rfl
 ·rw [decide_eq_false h,aml,if_pos rfl]
  walk_at "w"
  show PyData.bool _=PyData.bool _
  unfold jY
  rw [decide_eq_false h]
  rfl
noncomputable abbrev agX (k i:Nat):PyData:=.tuple [.int k,.int i]
noncomputable abbrev aaX (K:akq):Sp:=spD K 3 (fun (c:Web×Nat×Nat×Nat×Nat) xs=>xs=[.dat (yO c.1),.dat (agX c.2.1 c.2.2.1),.dat (agX c.2.2.2.1 c.2.2.2.2)]/\c.2.2.2.1<c.1.length) fun c r=>r=.bool (yB c.1 c.2.1 c.2.2.1 c.2.2.2.1 c.2.2.2.2)
theorem afp (F:Def K mg "closes" vK pI) (uaa:mg "len"=none):FnIn P w K mg base (k+1) "closes" pI (aaX K):=by
 refine F.ok sc_closes rfl fun fa cdv A outer s H E hr=>⟨_,(zd (yC (zf (zA (K:=K) rfl) (pv 0) (zf (ze (K:=K) rfl) (pv 2) zb (fun _ _=>rfl)) (fun _ _=>rfl)) (zL (K:=K) (n:=2) rfl rfl (zk (zl (i:=3) sc_closes.nd rfl (Or.inl rfl) (Or.inr rfl)) (zk (zl (i:=4) sc_closes.nd rfl (Or.inl rfl) (Or.inr rfl)) zK)))) (zh (zw (vQ (z8 (zZ (K:=K) rfl hr.units) (pv 3) yJ (zB _)) (vQ (z8 (zZ (K:=K) rfl hr.units) (pv 1) (zJ (za (zf (ze (K:=K) rfl) (pv 2) zb (fun _ _=>rfl)) (za zb zc))) (zB _)) (aaA (z8 (zZ (K:=K) rfl hr.units) (zf (ze (K:=K) rfl) (pv 2) zb (fun _ _=>rfl)) (zi zI (zo (zE (K:=K) rfl) rfl uaa akH (za (pv 4) zc)) zb) (zB _)))))))),?_⟩
 rintro f xs ⟨w,k,i,l,j⟩ hl ⟨rfl,hlw⟩
 try dsimp only [zV,zq]
 dsimp only at *
 have lw:=qP (zS w l).1
 unfold yO agX
 walk_at "w"
 refine⟨_,ab5 rfl hlw,?_⟩
 unfold lnD
 walk_at "w"
 rw [if_neg akr,vZ]
 refine zQ (fun h=>?_) fun h=>?_
 ·walk_at "w"
  rw [if_neg akr,ab6]
  refine zQ (fun h2=>?_) fun h2=>?_
  ·walk_at "w"
   rw [if_neg akr,jr]
   show PyData.bool _=PyData.bool (yB w k i l j)
   unfold yB
   have h2':k=l/\i=0:=by have:=of_decide_eq_true h2;omega
   rw [h,akp,decide_eq_true h2',amX,amX]
  ·show PyData.bool _=PyData.bool (yB w k i l j)
   unfold yB
   have h2':¬ (k=l/\i=0):=by have:=of_decide_eq_false h2;omega
   rw [h,decide_eq_false h2']
   rfl
 ·show PyData.bool _=PyData.bool (yB w k i l j)
  unfold yB
  rw [h]
  rfl
noncomputable abbrev aeo (K:akq):Sp:=spD K 3 (fun (c:Pt×Web×Sg×Sg) xs=>xs=[.dat (yO c.2.1),.dat (aap c.2.2.1),.dat (aap c.2.2.2)]/\c.2.2.2.k<c.2.1.length/\Near c.1 c.2.2.1.p/\Near c.1 c.2.2.1.q/\Near c.1 c.2.2.2.p/\Near c.1 c.2.2.2.q) fun c r=>r=.bool (yv c.2.1 c.2.2.1 c.2.2.2)
theorem agY (F:Def K mg "meets" aaw pH) (ubn:FnIn P w K mg base k "closes" pI (aaX K)) (ubj:FnIn P w K mg base k "turns_back" pJ (v8 K)) (ubo:FnIn P w K mg base k "touches" pd (v7 K)) :
  FnIn P w K mg base (k+1) "meets" pH (aeo K):=by
 refine F.ok sc_meets rfl fun fa cdv A outer s H E hr=>⟨_,(zd (yC (pv 1) (zL (K:=K) (n:=3) rfl rfl (zk (zl (i:=3) sc_meets.nd rfl (Or.inl rfl) (Or.inr rfl)) (zk (zl (i:=4) sc_meets.nd rfl (Or.inl rfl) (Or.inr rfl)) (zk (zl (i:=5) sc_meets.nd rfl (Or.inl rfl) (Or.inr rfl)) zK))))) (zd (yC (pv 2) (zL (K:=K) (n:=3) rfl rfl (zk (zl (i:=6) sc_meets.nd rfl (Or.inl rfl) (Or.inr rfl)) (zk (zl (i:=7) sc_meets.nd rfl (Or.inl rfl) (Or.inr rfl)) (zk (zl (i:=8) sc_meets.nd rfl (Or.inl rfl) (Or.inr rfl)) zK))))) (zd (zX (zD (zZ (K:=K) rfl hr.units) (pv 3) (pv 6) (zB _)) (zh (zw (z8 (zZ (K:=K) rfl hr.units) (pv 4) (pv 5) (zB _)))) zF) (zd (zX (PW.pt (qF (zD (zZ (K:=K) rfl hr.units) (zf (ze (K:=K) rfl) (pv 3) zb (fun _ _=>rfl)) (zf (ze (K:=K) rfl) (pv 6) zb (fun _ _=>rfl)) (zB _)) (qR (zD (zZ (K:=K) rfl hr.units) (zi zH (zf (ze (K:=K) rfl) (pv 3) zb (fun _ _=>rfl)) zb) (zf (ze (K:=K) rfl) (pv 6) zb (fun _ _=>rfl)) (zB _))))) (zh (zw (zg ubj hr rfl (za (pv 4) (za (pv 5) (za (pv 8) zc)))))) zF) (zd (zX (yF (K:=K) rfl (zg ubn hr rfl (za (pv 0) (za (pv 3) (za (pv 6) zc)))) (fun _=>rfl)) (zh (zw (zg ubj hr rfl (za (pv 7) (za (pv 8) (za (pv 5) zc)))))) zF) (zh (zw (zg ubo hr rfl (za (pv 4) (za (pv 5) (za (pv 7) (za (pv 8) zc)))))))))))),?_⟩
 rintro f xs ⟨o,w,s,t⟩ hl ⟨rfl,hk,n1,n2,n3,n4⟩
 try dsimp only [zV,zq]
 dsimp only at *
 unfold aap
 walk_at "w"
 rw [if_neg akr,ab6]
 refine zQ (fun h=>?_) fun h=>?_
 ·have h':=of_decide_eq_true h
  have dp:=ab8 s.p s.q
  walk_at "w"
  rw [if_neg akr,ab7]
  show PyData.bool _=PyData.bool (yv w s t)
  unfold yv
  rw [if_pos (by omega)]
 ·have h':=of_decide_eq_false h
  have e0:yv w s t=jZ w s t:=by
   unfold yv
   rw [if_neg (by omega)]
  rw [e0]
  walk_at "w"
  rw [if_neg akr,jr]
  have rest:¬ (s.k=t.k/\s.i+1=t.i)->PSd K f (qD (abK (af5 K (yZ (aaX K) [] E0 (zG (zO 0) (zG (zO 3) (zG (zO 6) yR))))) (aa6 (yZ (v8 K) [] E0 (zG (zO 7) (zG (zO 8) (zG (zO 5) yR))))) aab)
    (aa6 (yZ (v7 K) [] E0 (zG (zO 4) (zG (zO 5) (zG (zO 7) (zG (zO 8) yR)))))))
    [some (.dat (yO w)),some (.dat (aap s)),some (.dat (aap t)),some (.dat (agX s.k s.i)),some (.dat (ptD s.p)),some (.dat (ptD s.q)),some (.dat (agX t.k t.i)),some (.dat (ptD t.p)),some (.dat (ptD t.q))] { nx:=fun _=>PyData.none=PyData.bool (jZ w s t),rt:=fun r=>r=.bool (jZ w s t) }:=fun hne=>by
   refine zM (jV (qA (zt (w,s.k,s.i,t.k,t.i) ?_)))
   walk_at "w"
   rintro _ rfl
   refine⟨_,rfl,?_⟩
   dsimp only
   refine zQ (fun h3=>?_) fun h3=>?_
   ·refine ye (zt (o,t.p,t.q,s.q) ?_)
    walk_at "w"
    rintro _ rfl
    show PyData.bool _=PyData.bool _
    unfold jZ
    rw [if_neg hne,if_pos h3]
   ·refine yc (ye (zt (o,s.p,s.q,t.p,t.q) ?_))
    walk_at "w"
    rintro _ rfl
    show PyData.bool _=PyData.bool _
    unfold jZ
    rw [if_neg hne,if_neg (by rw [h3];exact akr)]
  refine zQ (fun h1=>?_) fun h1=>?_
  ·have h1':=of_decide_eq_true h1
   walk_at "w"
   rw [if_neg akr,jr]
   refine zQ (fun h2=>?_) fun h2=>?_
   ·have h2':=of_decide_eq_true h2
    refine ye (zt (o,s.p,s.q,t.q) ?_)
    walk_at "w"
    rintro _ rfl
    show PyData.bool _=PyData.bool _
    unfold jZ
    rw [if_pos (by omega)]
   ·have h2':=of_decide_eq_false h2
    exact yc (rest (by omega))
  ·have h1':=of_decide_eq_false h1
   exact yc (rest (by omega))
noncomputable abbrev agZ (K:akq):Sp:=spD K 2 (fun (c:Ln) xs=>xs=[.dat (.str (qO c.1)),.dat (.tuple (c.2.map ptD))]/\1<=c.2.length) fun c r=>r=.int (vj c)
theorem ahX (F:Def K mg "many_segments" yG pk) (uaa:mg "len"=none):FnIn P w K mg base (k+1) "many_segments" pk (agZ K):=by
 refine F.ok v5 rfl fun fa cdv A outer s H E hr=>⟨_,(zh (zw (afI (zD (zZ (K:=K) rfl hr.units) (pv 0) yJ (zB _)) (zo (zE (K:=K) rfl) rfl uaa akH (za (pv 1) zc)) (zi zI (zo (zE (K:=K) rfl) rfl uaa akH (za (pv 1) zc)) zb)))),?_⟩
 rintro f xs ⟨b,ps⟩ hl ⟨rfl,hp⟩
 have lw:=qP b
 try dsimp only [zV,zq]
 dsimp only at *
 walk_at "w"
 rw [if_neg akr,vZ]
 unfold vj
 refine zQ (fun h=>?_) fun h=>?_
 ·walk_at "w"
  show PyData.int _=PyData.int _
  rw [akp,h,if_pos rfl]
 ·walk_at "w"
  walk_at "w"
  show PyData.int _=PyData.int _
  rw [akp,h,if_neg akr]
  dsimp only
  congr 1
  omega
theorem aci {ds:List PyData} {i:Nat} {d:PyData} (h:(aah ds)[i]?=some d):∃ e,ds[i]?=some e/\d=.tuple [.int (i:Int),e]:=by
 unfold aah at h
 rw [anf] at h
 cases eq:ds[i]? with
 | none=>rw [eq] at h;cases h
 | some e=>rw [eq] at h;cases h;exact⟨e,rfl,rfl⟩
theorem aaY (ds:List PyData):(aah ds).length=ds.length:=by unfold aah;rw [List.length_mapIdx]
theorem j5 {n i:Nat} {d:PyData} (h:(jn n)[i]?=some d):i<n/\d=.int (i:Int):=by
 unfold jn at h
 rw [akz] at h
 by_cases hi:i<n
 ·rw [alQ hi] at h
  cases h
  exact⟨hi,rfl⟩
 ·rw [ali (by rw [alh];omega)] at h
  cases h
theorem vd (n:Nat):(jn n).length=n:=by unfold jn;simp
theorem y8 {α:Type} {F:α->PyData} {xs:List α} {i:Nat} {d:PyData} (h:(xs.map F)[i]?=some d):∃ x,xs[i]?=some x/\d=F x:=by
 rw [akz] at h
 cases eq:xs[i]? with
 | none=>rw [eq] at h;cases h
 | some x=>rw [eq] at h;cases h;exact⟨x,rfl,rfl⟩
noncomputable abbrev ag0 (K:akq):Sp:=spD K 1 (fun (c:Pt×Web) xs=>xs=[.dat (yO c.2)]/\OkWeb c.1 c.2) fun c r=>r=.list ((z7 c.2).map aap)
theorem ac0 (F:Def K mg "segments" qp ph) (uaa:mg "len"=none) (uac:mg "range"=none) (uak:mg "enumerate"=none) (ubp:FnIn P w K mg base k "many_segments" pk (agZ K)):FnIn P w K mg base (k+1) "segments" ph (ag0 K):=by
 refine F.ok sc_segments rfl fun fa cdv A outer s H E hr=>⟨_,(zd (zz (i:=1) sc_segments.nd rfl (Or.inl rfl) (ya zc)) (zd (yK akZ rfl (aaN (K:=K) rfl rfl uak (za (pv 0) zc)) (zL (K:=K) (n:=2) rfl rfl (zk (zl (i:=2) sc_segments.nd rfl (Or.inl rfl) (Or.inr rfl)) (zk (zL (K:=K) (n:=2) rfl rfl (zk (zl (i:=3) sc_segments.nd rfl (Or.inl rfl) (Or.inr rfl)) (zk (zl (i:=4) sc_segments.nd rfl (Or.inl rfl) (Or.inr rfl)) zK))) zK))) (zh (yK akZ rfl (yr rfl uac (za (zg ubp hr rfl (za (pv 3) (za (pv 4) zc))) zc)) (zl (i:=5) sc_segments.nd rfl (Or.inl rfl) (Or.inr rfl)) (zh (qS (abt aln alL alM qT (pv 1) (za (zJ (za (zJ (za (pv 2) (za (pv 5) zc))) (za (zf (ze (K:=K) rfl) (pv 4) (pv 5) (fun _ _=>rfl)) (za (zf (ze (K:=K) rfl) (pv 4) (zi jj (zi zH (pv 5) zb) (zo (zE (K:=K) rfl) rfl uaa akH (za (pv 4) zc))) (fun _ _=>rfl)) zc)))) zc))))))) (zh (zw (pv 1))))),?_⟩
 rintro f xs ⟨o,w⟩ hl ⟨rfl,g⟩
 try dsimp only [zV,zq]
 dsimp only at *
 refine ad6 (ad4 ⟨show 1<6 by decide,fun D=>?_⟩)
 refine acD (adp ?_)
 unfold yO
 walk_at "w"
 refine⟨fun n ρ es=>(∃ x2 x3 x4 x5,ρ=[some (.dat (yO w)),some (.own f.M.length),x2,x3,x4,x5])/\es=(yU w n).map aap,⟨⟨_,_,_,_,rfl⟩,rfl⟩,?_,?_⟩
 ·rintro n d _ _ hd ⟨⟨x2,x3,x4,x5,rfl⟩,rfl⟩
  obtain⟨e,h1,rfl⟩:=aci hd
  obtain⟨l,h2,rfl⟩:=y8 h1
  have hm:=akC h2
  have hn:n<w.length:=(aks.mp h2).1
  have two:=g.two l hm
  have few:=g.few l hm
  have wl:=g.len
  have le:=qY g.few n (by omega)
  have ml:=aav l
  unfold lnD
  walk_at "w"
  refine acD (ja (zu (zt l ?_)))
  walk_at "w"
  rintro _ rfl
  walk_at "w"
  refine⟨fun m ρ es=>(∃ x5,ρ=[some (.dat (yO w)),some (.own f.M.length),some (.dat (.int n)),some (.dat (.str (qO l.1))),some (.dat (.tuple (l.2.map ptD))),x5])/\es=(yU w n++(yk n l).take m).map aap,⟨⟨_,rfl⟩,by rw [ang,akY]⟩,?_,?_⟩
  ·rintro m d _ _ hd ⟨⟨x5,rfl⟩,rfl⟩
   obtain⟨hm',rfl⟩:=j5 hd
   rw [akR] at hm'
   refine zr (ad5 rfl ?_ ?_)
   ·rw [akp,akD,akW,yV]
    omega
   walk_at "w"
   refine⟨_,ab4 rfl (by omega),?_⟩
   walk_at "w"
   rw [akp]
   refine⟨by omega,_,rfl,_,ab4 (j:=(m+1) % l.2.length) (by rw [Int.natCast_emod];rfl) (Nat.mod_lt _ (by omega)),?_⟩
   walk_at "w"
   rw [vk hm',<- amm]
   simp only [akQ]
   rfl
  ·rintro _ _ ⟨⟨x5,rfl⟩,rfl⟩
   refine⟨⟨_,_,_,_,rfl⟩,?_⟩
   rw [jF h2,vd,akR,alB (by rw [yV];exact akA _)]
 ·rintro _ _ ⟨⟨x2,x3,x4,x5,rfl⟩,rfl⟩
  refine⟨rfl,?_⟩
  rw [aaY,akp,qk]
  walk_at "w"
  rfl
noncomputable abbrev abB (K:akq):Sp:=spD K 1 (fun (c:Pt×Web) xs=>xs=[.dat (yO c.2)]/\OkWeb c.1 c.2) fun c r=>r=qB (yq c.2)
theorem adP (F:Def K mg "meeting" qZ ph) (uak:mg "enumerate"=none) (ubq:FnIn P w K mg base k "segments" ph (ag0 K)) (ubr:FnIn P w K mg base k "meets" pH (aeo K)):FnIn P w K mg base (k+1) "meeting" ph (abB K):=by
 refine F.ok sc_meeting rfl fun fa cdv A outer s H E hr=>⟨_,(zd (zz (i:=1) sc_meeting.nd rfl (Or.inl rfl) (zg ubq hr rfl (za (pv 0) zc))) (zd (yK akZ rfl (aaN (K:=K) rfl rfl uak (za (pv 1) zc)) (zL (K:=K) (n:=2) rfl rfl (zk (zl (i:=2) sc_meeting.nd rfl (Or.inl rfl) (Or.inr rfl)) (zk (zl (i:=3) sc_meeting.nd rfl (Or.inl rfl) (Or.inr rfl)) zK))) (zh (yK akZ rfl (yd (K:=K) rfl (jh (jX (K:=K) rfl) (pv 1) (jD (pv 2)) jC)) (zl (i:=4) sc_meeting.nd rfl (Or.inl rfl) (Or.inr rfl)) (zh (zX (yF (K:=K) rfl (zg ubr hr rfl (za (pv 0) (za (pv 3) (za (pv 4) zc)))) (fun _=>rfl)) (zh (zw (zi (agh (K:=K) rfl) (zf (ze (K:=K) rfl) (pv 3) zb (fun _ _=>rfl)) (zf (ze (K:=K) rfl) (pv 4) zb (fun _ _=>rfl))))) zF))))) (zh (zw aaz)))),?_⟩
 rintro f xs ⟨o,w⟩ hl ⟨rfl,g⟩
 try dsimp only [zV,zq]
 dsimp only at *
 refine zM (zR (zt (o,w) ?_))
 walk_at "w"
 rintro _ rfl
 dsimp only
 refine zr (zM (vD (adp ?_)))
 walk_at "w"
 refine⟨fun n ρ=>(∃ x2 x3 x4,ρ=[some (.dat (yO w)),some (.dat (.list ((z7 w).map aap))),x2,x3,x4])/\look (yv w) (z7 w)=look (yv w) ((z7 w).drop n),⟨⟨_,_,_,rfl⟩,rfl⟩,?_,?_⟩
 ·rintro n d _ hd ⟨⟨x2,x3,x4,rfl⟩,hlook⟩
  obtain⟨e,h1,rfl⟩:=aci hd
  obtain⟨s,h2,rfl⟩:=y8 h1
  have hn:n<(z7 w).length:=(aks.mp h2).1
  have hs:(z7 w).drop n=s :: (z7 w).drop (n+1):=by
   rw [al9 hn]
   congr 1
   exact (aks.mp h2).2
  have sm:=ab9 (akC h2)
  walk_at "w"
  refine vD (yM ?_)
  walk_at "w"
  rw [jW,<- ant]
  refine⟨fun m ρ=>(∃ x4,ρ=[some (.dat (yO w)),some (.dat (.list ((z7 w).map aap))),some (.dat (.int n)),some (.dat (aap s)),x4])/\∀ u∈((z7 w).drop n).take m,yv w s u=false,⟨⟨_,rfl⟩,fun u hu=>by simp at hu⟩,?_,?_⟩
  ·rintro m d _ hd ⟨⟨x4,rfl⟩,hall⟩
   obtain⟨t,h3,rfl⟩:=y8 hd
   have tm:=ab9 (alH (akC h3))
   refine zr (jV (qA (zt (o,w,s,t) ?_)))
   have n1:=sm.near g
   have n2:=tm.near g
   have tk:=tm.k
   obtain⟨n11,n12⟩:=n1
   obtain⟨n21,n22⟩:=n2
   walk_at "w"
   rintro _ rfl
   refine⟨_,rfl,?_⟩
   dsimp only
   refine zQ (fun h=>?_) fun h=>?_
   ·unfold aap
    walk_at "w"
    show PyData.tuple _=qB (yq w)
    unfold yq
    rw [hlook,hs,aaU (m:=m) (by rw [<-hs];exact h3) (fun u hu=>hall u (by rw [hs];exact hu)) h]
    rfl
   ·refine yc ⟨⟨_,rfl⟩,fun u hu=>?_⟩
    rw [alF,h3] at hu
    rcases akF.mp hu with hu | hu
    ·exact hall u hu
    ·cases akO.mp (by simpa using hu)
     exact h
  ·rintro _ ⟨⟨x4,rfl⟩,hall⟩
   refine⟨⟨_,_,_,rfl⟩,?_⟩
   rw [hlook,hs]
   refine abz fun u hu=>hall u ?_
   rw [akp,al6,hs]
   exact hu
 ·rintro _ ⟨⟨x2,x3,x4,rfl⟩,hlook⟩
  walk_at "w"
  show PyData.none=qB (yq w)
  unfold yq
  rw [hlook,aaY,akp,List.drop_length]
  rfl
theorem aam {w:Web}:∀ n,n<=w.length->(yU w n).Pairwise (fun s t=>¬ (s.k=t.k/\s.i=t.i))/\∀ s∈yU w n,s.k<n
 | 0,_=>by simp [yU]
 | n+1,hn=>by
  have hl:w[n]?=some w[n]:=akt (by omega)
  obtain⟨h1,h2⟩:=aam (w:=w) n (by omega)
  rw [jF hl]
  have hk:∀ s∈yk n w[n],s.k=n:=fun s hs=>by
   unfold yk at hs
   rw [alf] at hs
   obtain⟨j,_,rfl⟩:=hs
   rfl
  refine⟨List.pairwise_append.mpr ⟨h1,?_,fun s hs t ht=>?_⟩,fun s hs=>?_⟩
  ·unfold yk
   rw [List.pairwise_map]
   refine List.Pairwise.imp ?_ List.pairwise_lt_range
   intro a b hab h
   have:=h.2
   dsimp only at this
   omega
  ·have:=h2 s hs
   have:=hk t ht
   omega
  ·rcases akF.mp hs with hs | hs
   ·have:=h2 s hs
    omega
   ·have:=hk s hs
    omega
theorem ahY {w:Web} {n:Nat} {s t:Sg} (h:(z7 w)[n]?=some s) (ht:t∈(z7 w).drop (n+1)):¬ (s.k=t.k/\s.i=t.i):=by
 have p:=(aam (w:=w) w.length (akA _)).1
 rw [qk] at p
 have hn:n<(z7 w).length:=(aks.mp h).1
 have e:(z7 w).drop n=s :: (z7 w).drop (n+1):=by
  rw [al9 hn]
  congr 1
  exact (aks.mp h).2
 have q:=p.sublist (List.drop_sublist n _)
 rw [e,amK] at q
 exact q.1 t ht
theorem afq {w:Web} {s:Sg} {r:List Sg} (h:s.p=s.q):look (yv w) (s :: r)=some (s,s) :=
 aaU (m:=0) rfl (fun u hu=>by simp at hu) (by unfold yv;rw [if_pos ⟨rfl,rfl⟩,decide_eq_true h])
theorem aep {w:Web} {s:Sg} (h:¬ s.p=s.q):yv w s s=false:=by unfold yv;rw [if_pos ⟨rfl,rfl⟩,decide_eq_false h]
theorem afr {w:Web} {s t:Sg} (h:¬ (s.k=t.k/\s.i=t.i)):yv w s t=jZ w s t:=by unfold yv;rw [if_neg h]
theorem fold_zero (m a c:Pt):(zT m a c=0)↔zT a m c=0:=by
 have:zT m a c=- zT a m c:=by unfold zT;grind
 omega
theorem abC {a m c:Pt} (h:a=m \/ c=m):jY a m c=false:=by
 unfold jY
 rw [Bool.and_eq_false_iff]
 refine .inr (decide_eq_false ?_)
 rcases h with h | h
 ·rw [h];simp
 ·rw [h];simp
theorem afs {w:Web} {s t:Sg} (hs:SegOf w s) (ht:SegOf w t) (h2:1<=(zS w t.k).2.length) (h:yB w s.k s.i t.k t.i=true):t.q=s.p:=by
 unfold yB at h
 rw [alk,alk] at h
 obtain⟨h1,h3,h4⟩:=h
 have h3:=of_decide_eq_true h3
 have h4:=of_decide_eq_true h4
 rw [ht.q,hs.p,h3.1,h3.2]
 congr 1
 have:t.i+1=(zS w t.k).2.length:=by omega
 rw [this,Nat.mod_self]
structure Keeps (g:Pt->Pt):Prop where
 inj:∀ a b,g a=g b↔a=b
 back:∀ a m c,jY (g a) (g m) (g c)=jY a m c
 touch:∀ a b c d,yj (g a) (g b) (g c) (g d)=yj a b c d
structure FewWeb (w:Web):Prop where
 len:w.length<=20
 two:∀ l∈w,2<=l.2.length
 few:∀ l∈w,l.2.length<=40
 pts:∀ l∈w,∀ p∈l.2,0<=p.1/\p.1<=9/\0<=p.2/\p.2<=9
theorem ag1 (F:Def K mg "_law_turn" qv pE):FnIn P w K mg base (k+1) "_law_turn" pE (yI K):=by
 refine F.ok sc_law_turn rfl fun fa cdv A outer s H E hr=>⟨_,(zd (zz (i:=3) sc_law_turn.nd rfl (Or.inl rfl) (zi zI (zf (ze (K:=K) rfl) (pv 1) zb (fun _ _=>rfl)) (zf (ze (K:=K) rfl) (pv 0) zb (fun _ _=>rfl)))) (zd (zz (i:=4) sc_law_turn.nd rfl (Or.inl rfl) (zi zI (zf (ze (K:=K) rfl) (pv 1) zb (fun _ _=>rfl)) (zf (ze (K:=K) rfl) (pv 0) zb (fun _ _=>rfl)))) (zh (zw (zi zI (zi yu (pv 3) (zi zI (zf (ze (K:=K) rfl) (pv 2) zb (fun _ _=>rfl)) (zf (ze (K:=K) rfl) (pv 0) zb (fun _ _=>rfl)))) (zi yu (pv 4) (zi zI (zf (ze (K:=K) rfl) (pv 2) zb (fun _ _=>rfl)) (zf (ze (K:=K) rfl) (pv 0) zb (fun _ _=>rfl))))))))),?_⟩
 rintro f xs ⟨o,a,b,c⟩ hl ⟨rfl,⟨a1,a2,a3,a4⟩,⟨b1,b2,b3,b4⟩,⟨c1,c2,c3,c4⟩⟩
 try dsimp only [zV,zq]
 unfold ptD
 dsimp only at *
 walk_at "w"
 rfl
noncomputable abbrev qC (a b:Pt):PyData:=.tuple [ptD a,ptD b]
noncomputable def co (i:Nat) (p:Pt):Int:=if i=0 then p.1 else p.2
theorem aan {p:Pt} {i:Nat} (h:i<2):atI [PyData.int p.1,PyData.int p.2] (i:Int)=some (.int (co i p)):=by
 have:i=0 \/ i=1:=by omega
 rcases this with rfl | rfl <;> rfl
noncomputable abbrev ac1 (K:akq):Sp:=spD K 3 (fun (c:Pt×Pt×Pt×Pt×Nat) xs=>xs=[.dat (qC c.1 c.2.1),.dat (qC c.2.2.1 c.2.2.2.1),.dat (.int c.2.2.2.2)]/\c.2.2.2.2<2) fun c r=>r=.bool (decide (mx (co c.2.2.2.2 c.1) (co c.2.2.2.2 c.2.1)<mn (co c.2.2.2.2 c.2.2.1) (co c.2.2.2.2 c.2.2.2.1)))
theorem aft (F:Def K mg "_law_apart" jK pF) (uae:mg "min"=none) (uaf:mg "max"=none):FnIn P w K mg base (k+1) "_law_apart" pF (ac1 K):=by
 refine F.ok acg rfl fun fa cdv A outer s H E hr=>⟨_,(zh (zw (z8 aaC (zo (y3 rfl) rfl uaf boot_max (za (zf (ze (K:=K) rfl) (zf (ze (K:=K) rfl) (pv 0) zb (fun _ _=>rfl)) (pv 2) (fun _ _=>rfl)) (za (zf (ze (K:=K) rfl) (zf (ze (K:=K) rfl) (pv 0) zb (fun _ _=>rfl)) (pv 2) (fun _ _=>rfl)) zc))) (zo (y4 rfl) rfl uae boot_min (za (zf (ze (K:=K) rfl) (zf (ze (K:=K) rfl) (pv 1) zb (fun _ _=>rfl)) (pv 2) (fun _ _=>rfl)) (za (zf (ze (K:=K) rfl) (zf (ze (K:=K) rfl) (pv 1) zb (fun _ _=>rfl)) (pv 2) (fun _ _=>rfl)) zc))) (zB _)))),?_⟩
 rintro f xs ⟨a,b,c,d,i⟩ hl ⟨rfl,hi⟩
 try dsimp only [zV,zq]
 dsimp only at *
 unfold qC ptD
 walk_at "w"
 refine⟨_,aan hi,?_⟩
 walk_at "w"
 refine⟨_,aan hi,?_⟩
 walk_at "w"
 refine⟨_,aan hi,?_⟩
 walk_at "w"
 refine⟨_,aan hi,?_⟩
 walk_at "w"
 rfl
noncomputable abbrev vO (K:akq):Sp:=spD K 2 (fun (c:Pt×Pt×Pt×Pt×Pt) xs=>xs=[.dat (qC c.2.1 c.2.2.1),.dat (qC c.2.2.2.1 c.2.2.2.2)]/\Near c.1 c.2.1/\Near c.1 c.2.2.1/\Near c.1 c.2.2.2.1/\Near c.1 c.2.2.2.2) fun c r=>r=.bool (yj c.2.1 c.2.2.1 c.2.2.2.1 c.2.2.2.2)
theorem afu (a b c d:Pt) (h:(yf a.1 b.1 c.1 d.1 || yf a.2 b.2 c.2 d.2)=false):yj a b c d=(decide (mn (zT a b c) (zT a b d)<=0/\0<=mx (zT a b c) (zT a b d)) && decide (mn (zT c d a) (zT c d b)<=0/\0<=mx (zT c d a) (zT c d b))):=by
 unfold yj
 rw [h,aml,amX]
 congr 1 <;> exact decide_eq_decide.mpr (afl _ _)
theorem afv (F:Def K mg "_law_touch" jL pT) (uae:mg "min"=none) (uaf:mg "max"=none) (uac:mg "range"=none) (ubk:FnIn P w K mg base k "_law_apart" pF (ac1 K)) (uan:FnIn P w K mg base k "_law_turn" pE (yI K)) :
  FnIn P w K mg base (k+1) "_law_touch" pT (vO K):=by
 refine F.ok sc_law_touch rfl fun fa cdv A outer s H E hr=>⟨_,(zd (yK akZ rfl (yr rfl uac (za zb zc)) (zl (i:=2) sc_law_touch.nd rfl (Or.inl rfl) (Or.inr rfl)) (zh (zX (PW.pt (acp (yF (K:=K) rfl (zg ubk hr rfl (za (pv 0) (za (pv 1) (za (pv 2) zc)))) (fun _=>rfl)) (abJ (yF (K:=K) rfl (zg ubk hr rfl (za (pv 1) (za (pv 0) (za (pv 2) zc)))) (fun _=>rfl))))) (zh (zw qE)) zF))) (zd (zz (i:=3) sc_law_touch.nd rfl (Or.inl rfl) (zg uan hr rfl (za (zf (ze (K:=K) rfl) (pv 0) zb (fun _ _=>rfl)) (za (zf (ze (K:=K) rfl) (pv 0) zb (fun _ _=>rfl)) (za (zf (ze (K:=K) rfl) (pv 1) zb (fun _ _=>rfl)) zc))))) (zd (zz (i:=4) sc_law_touch.nd rfl (Or.inl rfl) (zg uan hr rfl (za (zf (ze (K:=K) rfl) (pv 0) zb (fun _ _=>rfl)) (za (zf (ze (K:=K) rfl) (pv 0) zb (fun _ _=>rfl)) (za (zf (ze (K:=K) rfl) (pv 1) zb (fun _ _=>rfl)) zc))))) (zd (zz (i:=5) sc_law_touch.nd rfl (Or.inl rfl) (zg uan hr rfl (za (zf (ze (K:=K) rfl) (pv 1) zb (fun _ _=>rfl)) (za (zf (ze (K:=K) rfl) (pv 1) zb (fun _ _=>rfl)) (za (zf (ze (K:=K) rfl) (pv 0) zb (fun _ _=>rfl)) zc))))) (zd (zz (i:=6) sc_law_touch.nd rfl (Or.inl rfl) (zg uan hr rfl (za (zf (ze (K:=K) rfl) (pv 1) zb (fun _ _=>rfl)) (za (zf (ze (K:=K) rfl) (pv 1) zb (fun _ _=>rfl)) (za (zf (ze (K:=K) rfl) (pv 0) zb (fun _ _=>rfl)) zc))))) (zh (zw (vQ (aaE jB jB (zo (y4 rfl) rfl uae boot_min (za (pv 3) (za (pv 4) zc))) zb (zo (y3 rfl) rfl uaf boot_max (za (pv 3) (za (pv 4) zc)))) (aaA (aaE jB jB (zo (y4 rfl) rfl uae boot_min (za (pv 5) (za (pv 6) zc))) zb (zo (y3 rfl) rfl uaf boot_max (za (pv 5) (za (pv 6) zc))))))))))))),?_⟩
 rintro f xs ⟨o,a,b,c,d⟩ hl ⟨rfl,na,nb,nc,nd⟩
 try dsimp only [zV,zq]
 dsimp only at *
 have ap:∀ i,i<2->yf (co i a) (co i b) (co i c) (co i d)=true->yj a b c d=false:=fun i hi h=>by
  unfold yj
  have:i=0 \/ i=1:=by omega
  rcases this with rfl | rfl
  ·rw [show yf a.1 b.1 c.1 d.1=true from h];rfl
  ·rw [show yf a.2 b.2 c.2 d.2=true from h,anz];rfl
 refine zM (vD (ja ?_))
 walk_at "w"
 refine⟨fun n ρ=>(∃ x2 x3 x4 x5 x6,ρ=[some (.dat (qC a b)),some (.dat (qC c d)),x2,x3,x4,x5,x6])/\∀ i,i<n->yf (co i a) (co i b) (co i c) (co i d)=false,⟨⟨_,_,_,_,_,rfl⟩,fun i hi=>by omega⟩,?_,?_⟩
 ·rintro n e _ he ⟨⟨x2,x3,x4,x5,x6,rfl⟩,hall⟩
  obtain⟨hn,rfl⟩:=j5 he
  have hn2:n<2:=hn
  refine zr (jV (ahw (qA (zt (a,b,c,d,n) ?_))))
  walk_at "w"
  rintro _ rfl
  refine⟨_,rfl,?_⟩
  dsimp only
  refine zQ (fun h=>?_) fun h=>?_
  ·rw [if_pos rfl]
   walk_at "w"
   show PyData.bool false=PyData.bool _
   rw [ap n hn2 (by unfold yf;rw [h];rfl)]
  ·refine qA (zt (c,d,a,b,n) ?_)
   walk_at "w"
   rintro _ rfl
   refine⟨_,rfl,?_⟩
   dsimp only
   refine zQ (fun h'=>?_) fun h'=>?_
   ·walk_at "w"
    show PyData.bool false=PyData.bool _
    rw [ap n hn2 (by unfold yf;rw [h',anz])]
   ·refine yc ⟨⟨_,_,_,_,_,rfl⟩,fun i hi=>?_⟩
    by_cases hin:i=n
    ·subst hin
     unfold yf
     rw [h,h']
     rfl
    ·exact hall i (by omega)
 ·rintro _ ⟨⟨x2,x3,x4,x5,x6,rfl⟩,hall⟩
  have a0:yf a.1 b.1 c.1 d.1=false:=hall 0 (by show 0<2;decide)
  have a1:yf a.2 b.2 c.2 d.2=false:=hall 1 (by show 1<2;decide)
  have tl:=afu a b c d (by rw [a0,a1];rfl)
  refine zM (zR (zt (o,a,b,c) ?_))
  unfold qC
  walk_at "w"
  rintro _ rfl
  refine zr (zM (zR (zt (o,a,b,d) ?_)))
  walk_at "w"
  rintro _ rfl
  refine zr (zM (zR (zt (o,c,d,a) ?_)))
  walk_at "w"
  rintro _ rfl
  refine zr (zM (zR (zt (o,c,d,b) ?_)))
  walk_at "w"
  rintro _ rfl
  dsimp only
  walk_at "w"
  have fin:∀ x:Bool,x=yj a b c d->PyData.bool x=PyData.bool (yj a b c d):=fun x h=>by rw [h]
  rw [am6,am6] at tl
  unfold mn mx at tl
  refine zQ (fun h=>?_) fun h=>?_
  ·walk_at "w"
   refine zQ (fun h2=>?_) fun h2=>?_
   ·walk_at "w"
    refine zQ (fun h3=>?_) fun h3=>?_
    ·walk_at "w"
     refine fin _ ?_
     rw [tl,h,h2,h3]
     rfl
    ·refine fin _ ?_
     rw [tl,h,h2,h3]
     rfl
   ·refine fin _ ?_
    rw [tl,h,h2]
    rfl
  ·refine⟨_,rfl,?_⟩
   rw [if_neg akr]
   refine fin _ ?_
   rw [tl,h]
   rfl
theorem afw (F:Def K mg "_law_folds" jM pU) (uan:FnIn P w K mg base k "_law_turn" pE (yI K)):FnIn P w K mg base (k+1) "_law_folds" pU (v8 K):=by
 refine F.ok sc_law_folds rfl fun fa cdv A outer s H E hr=>⟨_,(zd (zX (PW.pt (acp (zD (abW (K:=K) rfl hr.units) (zg uan hr rfl (za (pv 1) (za (pv 0) (za (pv 2) zc)))) zb (zB _)) (acp (zD (zZ (K:=K) rfl hr.units) (pv 0) (pv 1) (zB _)) (abJ (zD (zZ (K:=K) rfl hr.units) (pv 2) (pv 1) (zB _)))))) (zh (zw qE)) zF) (zd (zz (i:=3) sc_law_folds.nd rfl (Or.inl rfl) (zi yu (zi zI (zf (ze (K:=K) rfl) (pv 0) zb (fun _ _=>rfl)) (zf (ze (K:=K) rfl) (pv 1) zb (fun _ _=>rfl))) (zi zI (zf (ze (K:=K) rfl) (pv 2) zb (fun _ _=>rfl)) (zf (ze (K:=K) rfl) (pv 1) zb (fun _ _=>rfl))))) (zh (zw (z8 aac (zi zH (pv 3) (zi yu (zi zI (zf (ze (K:=K) rfl) (pv 0) zb (fun _ _=>rfl)) (zf (ze (K:=K) rfl) (pv 1) zb (fun _ _=>rfl))) (zi zI (zf (ze (K:=K) rfl) (pv 2) zb (fun _ _=>rfl)) (zf (ze (K:=K) rfl) (pv 1) zb (fun _ _=>rfl))))) zb (zB _)))))),?_⟩
 rintro f xs ⟨o,a,m,c⟩ hl ⟨rfl,na,nm,nc⟩
 try dsimp only [zV,zq]
 dsimp only at *
 have fin:∀ x:Bool,x=jY a m c->PyData.bool x=PyData.bool (jY a m c):=fun x h=>by rw [h]
 have d1:=ab8 a m
 have d2:=ab8 c m
 refine zM (jV (ahw (yL (aaL (zt (o,m,a,c) ?_)))))
 walk_at "w"
 rintro _ rfl
 dsimp only
 walk_at "w"
 rw [if_pos rfl,jr]
 refine zQ (fun h=>?_) fun h=>?_
 ·rw [if_pos rfl]
  walk_at "w"
  refine fin _ ?_
  have h':¬ zT a m c=0:=fun z=>by
   rw [decide_eq_true ((fold_zero m a c).mpr z)] at h
   cases h
  unfold jY
  rw [decide_eq_false h']
  rfl
 ·have h':zT a m c=0:=by
   refine (fold_zero m a c).mp (Decidable.byContradiction fun z=>?_)
   rw [decide_eq_false z] at h
   cases h
  walk_at "w"
  rw [if_neg akr,ab7]
  refine zQ (fun h2=>?_) fun h2=>?_
  ·rw [if_pos rfl]
   walk_at "w"
   refine fin _ ?_
   rw [abC (.inl (of_decide_eq_true h2))]
  ·walk_at "w"
   rw [if_neg akr,ab7]
   refine zQ (fun h3=>?_) fun h3=>?_
   ·walk_at "w"
    refine fin _ ?_
    rw [abC (.inr (of_decide_eq_true h3))]
   ·obtain⟨a1,a2,a3,a4⟩:=na
    obtain⟨b1,b2,b3,b4⟩:=nm
    obtain⟨c1,c2,c3,c4⟩:=nc
    unfold ptD
    walk_at "w"
    refine fin _ ?_
    unfold jY
    rw [decide_eq_true h']
    rfl
noncomputable abbrev aeq (K:akq):Sp:=spD K 1 (fun (c:Pt×Web) xs=>xs=[.dat (yO c.2)]/\OkWeb c.1 c.2) fun c r=>r=.list ((z7 c.2).map yQ)
theorem acj (F:Def K mg "_law_segments" yW pj) (uaa:mg "len"=none) (uac:mg "range"=none) (ual:mg "int"=none):FnIn P w K mg base (k+1) "_law_segments" pj (aeq K):=by
 refine F.ok sc_law_segments rfl fun fa cdv A outer s H E hr=>⟨_,(zd (zz (i:=1) sc_law_segments.nd rfl (Or.inl rfl) (ya zc)) (zd (yK akZ rfl (yr rfl uac (za (zo (zE (K:=K) rfl) rfl uaa akH (za (pv 0) zc)) zc)) (zl (i:=2) sc_law_segments.nd rfl (Or.inl rfl) (Or.inr rfl)) (zd (yC (zf (zA (K:=K) rfl) (pv 0) (pv 2) (fun _ _=>rfl)) (zL (K:=K) (n:=2) rfl rfl (zk (zl (i:=3) sc_law_segments.nd rfl (Or.inl rfl) (Or.inr rfl)) (zk (zl (i:=4) sc_law_segments.nd rfl (Or.inl rfl) (Or.inr rfl)) zK)))) (zh (yK akZ rfl (yr rfl uac (za (zi zI (zo (zE (K:=K) rfl) rfl uaa akH (za (pv 4) zc)) (yz vT rfl ual amq (za (z8 (zZ (K:=K) rfl hr.units) (pv 3) yJ (zB _)) zc))) zc)) (zl (i:=5) sc_law_segments.nd rfl (Or.inl rfl) (Or.inr rfl)) (zh (qS (abt aln alL alM qT (pv 1) (za (zJ (za (pv 2) (za (pv 5) (za (zJ (za (zf (ze (K:=K) rfl) (pv 4) (pv 5) (fun _ _=>rfl)) (za (zf (ze (K:=K) rfl) (pv 4) (zi jj (zi zH (pv 5) zb) (zo (zE (K:=K) rfl) rfl uaa akH (za (pv 4) zc))) (fun _ _=>rfl)) zc))) zc)))) zc)))))))) (zh (zw (pv 1))))),?_⟩
 rintro f xs ⟨o,w⟩ hl ⟨rfl,g⟩
 try dsimp only [zV,zq]
 dsimp only at *
 have wl:=g.len
 have wl':(w.map lnD).length<=20:=by rw [akp];exact g.len
 refine ad6 (ad4 ⟨show 1<6 by decide,fun D=>?_⟩)
 refine acD (ja ?_)
 unfold yO
 walk_at "w"
 rw [akp]
 refine⟨fun n ρ es=>(∃ x2 x3 x4 x5,ρ=[some (.dat (yO w)),some (.own f.M.length),x2,x3,x4,x5])/\es=(yU w n).map yQ,⟨⟨_,_,_,_,rfl⟩,rfl⟩,?_,?_⟩
 ·rintro n d _ _ hd ⟨⟨x2,x3,x4,x5,rfl⟩,rfl⟩
  obtain⟨hn,rfl⟩:=j5 hd
  rw [akR] at hn
  have h2:w[n]?=some (zS w n):=by
   unfold zS
   rw [aky,akt hn]
   rfl
  have hm:=akC h2
  have two:=g.two _ hm
  have few:=g.few _ hm
  have le:=qY g.few n (by omega)
  have ml:=aav (zS w n)
  have lw:=qP (zS w n).1
  refine zr (agd (adq (zR ?_)))
  unfold yO
  walk_at "w"
  refine⟨_,ab5 rfl hn,?_⟩
  unfold lnD
  walk_at "w"
  refine acD (ja ?_)
  walk_at "w"
  rw [if_neg akr,agQ,akp]
  have em:(((zS w n).2.length:Int) - if (!(zS w n).1)=true then 1 else 0)=(vj (zS w n):Int):=by
   unfold vj
   cases (zS w n).1 with
   | true=>rw [alK,if_neg akr,if_pos rfl];omega
   | false=>rw [aml,if_pos rfl,if_neg akr];omega
  rw [em]
  refine⟨by omega,fun m ρ es=>(∃ x5,ρ=[some (.dat (yO w)),some (.own f.M.length),some (.dat (.int n)),some (.dat (.str (qO (zS w n).1))),some (.dat (.tuple ((zS w n).2.map ptD))),x5])/\es=(yU w n++(yk n (zS w n)).take m).map yQ,⟨⟨_,rfl⟩,by rw [ang,akY]⟩,?_,?_⟩
  ·rintro m d _ _ hd ⟨⟨x5,rfl⟩,rfl⟩
   obtain⟨hm',rfl⟩:=j5 hd
   rw [akR] at hm'
   refine zr (ad5 rfl ?_ ?_)
   ·rw [akp,akD,akW,yV]
    omega
   walk_at "w"
   refine⟨_,ab4 rfl (by omega),?_⟩
   walk_at "w"
   rw [akp]
   refine⟨by omega,_,rfl,_,ab4 (j:=(m+1) % (zS w n).2.length) (by rw [Int.natCast_emod];rfl) (Nat.mod_lt _ (by omega)),?_⟩
   walk_at "w"
   rw [vk hm',<- amm]
   simp only [akQ]
   rfl
  ·rintro _ _ ⟨⟨x5,rfl⟩,rfl⟩
   refine⟨⟨_,_,_,_,rfl⟩,?_⟩
   rw [jF h2,vd,akR,alB (by rw [yV];exact akA _)]
 ·rintro _ _ ⟨⟨x2,x3,x4,x5,rfl⟩,rfl⟩
  refine⟨rfl,?_⟩
  rw [vd,akR,qk]
  walk_at "w"
  rfl
noncomputable abbrev ag2 (K:akq):Sp:=spD K 3 (fun (c:Pt×Web×Sg×Sg) xs=>xs=[.dat (yO c.2.1),.dat (yQ c.2.2.1),.dat (yQ c.2.2.2)]/\OkWeb c.1 c.2.1/\SegOf c.2.1 c.2.2.1/\SegOf c.2.1 c.2.2.2) fun c r=>r=.bool (jZ c.2.1 c.2.2.1 c.2.2.2)
theorem ahZ (F:Def K mg "_law_bad" vc pV) (uaa:mg "len"=none) (ubl:FnIn P w K mg base k "_law_folds" pU (v8 K)) (ubs:FnIn P w K mg base k "_law_touch" pT (vO K)) :
  FnIn P w K mg base (k+1) "_law_bad" pV (ag2 K):=by
 refine F.ok sc_law_bad rfl fun fa cdv A outer s H E hr=>⟨_,(zd (yC (pv 1) (zL (K:=K) (n:=3) rfl rfl (zk (zl (i:=3) sc_law_bad.nd rfl (Or.inl rfl) (Or.inr rfl)) (zk (zl (i:=4) sc_law_bad.nd rfl (Or.inl rfl) (Or.inr rfl)) (zk (zl (i:=5) sc_law_bad.nd rfl (Or.inl rfl) (Or.inr rfl)) zK))))) (zd (zz (i:=6) sc_law_bad.nd rfl (Or.inl rfl) (zo (zE (K:=K) rfl) rfl uaa akH (za (zf (ze (K:=K) rfl) (zf (zA (K:=K) rfl) (pv 0) (pv 3) (fun _ _=>rfl)) zb (fun _ _=>rfl)) zc))) (zd (zX (PW.pt (qF (zD (zZ (K:=K) rfl hr.units) (pv 3) (zf (ze (K:=K) rfl) (pv 2) zb (fun _ _=>rfl)) (zB _)) (qR (zD (zZ (K:=K) rfl hr.units) (zf (ze (K:=K) rfl) (pv 2) zb (fun _ _=>rfl)) (zi zH (pv 4) zb) (zB _))))) (zh (zw (zg ubl hr rfl (za (zf (ze (K:=K) rfl) (pv 5) zb (fun _ _=>rfl)) (za (zf (ze (K:=K) rfl) (pv 5) zb (fun _ _=>rfl)) (za (zf (ze (K:=K) rfl) (zf (ze (K:=K) rfl) (pv 2) zb (fun _ _=>rfl)) zb (fun _ _=>rfl)) zc)))))) zF) (zd (zX (PW.pt (qF (zD (zZ (K:=K) rfl hr.units) (pv 3) (zf (ze (K:=K) rfl) (pv 2) zb (fun _ _=>rfl)) (zB _)) (qF (zD (zZ (K:=K) rfl hr.units) (zf (ze (K:=K) rfl) (zf (zA (K:=K) rfl) (pv 0) (pv 3) (fun _ _=>rfl)) zb (fun _ _=>rfl)) yJ (zB _)) (qF (zD (zZ (K:=K) rfl hr.units) (pv 4) zb (zB _)) (qR (zD (zZ (K:=K) rfl hr.units) (zf (ze (K:=K) rfl) (pv 2) zb (fun _ _=>rfl)) (zi zI (pv 6) zb) (zB _))))))) (zh (zw (zg ubl hr rfl (za (zf (ze (K:=K) rfl) (zf (ze (K:=K) rfl) (pv 2) zb (fun _ _=>rfl)) zb (fun _ _=>rfl)) (za (zf (ze (K:=K) rfl) (pv 5) zb (fun _ _=>rfl)) (za (zf (ze (K:=K) rfl) (pv 5) zb (fun _ _=>rfl)) zc)))))) zF) (zh (zw (zg ubs hr rfl (za (pv 5) (za (zf (ze (K:=K) rfl) (pv 2) zb (fun _ _=>rfl)) zc))))))))),?_⟩
 rintro f xs ⟨o,w,s,t⟩ hl ⟨rfl,g,sm,tm⟩
 try dsimp only [zV,zq]
 dsimp only at *
 obtain⟨n1,n2⟩:=sm.near g
 obtain⟨n3,n4⟩:=tm.near g
 have lw:=qP (zS w s.k).1
 have two:=g.two _ (acO tm.k)
 have fin:∀ x:Bool,x=jZ w s t->PyData.bool x=PyData.bool (jZ w s t):=fun x h=>by rw [h]
 have tch:jZ w s t=yj s.p s.q t.p t.q->PSd K f (aa6 (yZ (vO K) [] E0 (zG (zO 5) (zG (tOp (jA K) (zO 2) (tC (V.int 2))) yR))))
   [some (.dat (yO w)),some (.dat (yQ s)),some (.dat (yQ t)),some (.dat (.int s.k)),some (.dat (.int s.i)),some (.dat (qC s.p s.q)),some (.dat (.int (zS w s.k).2.length))] { nx:=fun _=>PyData.none=PyData.bool (jZ w s t),rt:=fun r=>r=.bool (jZ w s t) }:=fun he=>by
  refine ye (zt (o,s.p,s.q,t.p,t.q) ?_)
  unfold yQ
  walk_at "w"
  rintro _ rfl
  exact fin _ he.symm
 have second:¬ (s.k=t.k/\s.i+1=t.i)->PSd K f (qD (abK (afE (aaD (tOp (abU K false) (zO 3) (tOp (jA K) (zO 2) (tC (V.int 0))))) (afE (aaD (tOp (abU K false) (tOp (jA K) (tOp (adi K) (zO 0) (zO 3)) (tC (V.int 0))) (tC (V.str "ring")))) (afE (aaD (tOp (abU K false) (zO 4) (tC (V.int 0)))) (aaD (tOp (abU K false) (tOp (jA K) (zO 2) (tC (V.int 1))) (tOp (rI0 fun i j=>V.int (i - j)) (zO 6) (tC (V.int 1)))))))) (aa6 (yZ (v8 K) [] E0 (zG (tOp (jA K) (tOp (jA K) (zO 2) (tC (V.int 2))) (tC (V.int 0))) (zG (tOp (jA K) (zO 5) (tC (V.int 0))) (zG (tOp (jA K) (zO 5) (tC (V.int 1))) yR))))) aab)
   (aa6 (yZ (vO K) [] E0 (zG (zO 5) (zG (tOp (jA K) (zO 2) (tC (V.int 2))) yR)))))
   [some (.dat (yO w)),some (.dat (yQ s)),some (.dat (yQ t)),some (.dat (.int s.k)),some (.dat (.int s.i)),some (.dat (qC s.p s.q)),some (.dat (.int (zS w s.k).2.length))] { nx:=fun _=>PyData.none=PyData.bool (jZ w s t),rt:=fun r=>r=.bool (jZ w s t) }:=fun hne=>by
  have cl:yB w s.k s.i t.k t.i=((zS w t.k).1 && (decide (s.k=t.k/\s.i=0) && decide ((t.i:Int)=(zS w t.k).2.length - 1))):=rfl
  have nb:yB w s.k s.i t.k t.i=false->jZ w s t=yj s.p s.q t.p t.q:=fun h=>by
   unfold jZ
   rw [if_neg hne,if_neg (by rw [h];exact akr)]
  refine zM (jV ?_)
  unfold yQ
  walk_at "w"
  rw [if_neg akr,jr]
  refine zQ (fun h1=>?_) fun h1=>?_
  ·have h1':=of_decide_eq_true h1
   have ek:s.k=t.k:=by omega
   walk_at "w"
   unfold yO
   walk_at "w"
   refine⟨_,ab5 rfl sm.k,?_⟩
   unfold lnD
   walk_at "w"
   rw [if_neg akr,vZ]
   refine zQ (fun h2=>?_) fun h2=>?_
   ·walk_at "w"
    rw [if_neg akr,jr]
    refine zQ (fun h3=>?_) fun h3=>?_
    ·walk_at "w"
     rw [if_neg akr,jr]
     have h3':=of_decide_eq_true h3
     refine zQ (fun h4=>?_) fun h4=>?_
     ·have h4':=of_decide_eq_true h4
      have hc:yB w s.k s.i t.k t.i=true:=by
       rw [cl,<- ek,h2,decide_eq_true (by omega),decide_eq_true (by omega)]
       rfl
      refine ye (zt (o,t.p,s.p,s.q) ?_)
      unfold qC
      walk_at "w"
      rintro _ rfl
      refine fin _ ?_
      unfold jZ
      rw [if_neg hne,if_pos hc,afs sm tm (by omega) hc]
     ·have h4':=of_decide_eq_false h4
      refine yc (tch (nb ?_))
      rw [cl,<- ek,decide_eq_false (p:=((t.i:Int)=(zS w s.k).2.length - 1)) (by omega),alS,alS]
    ·have h3':=of_decide_eq_false h3
     refine yc (tch (nb ?_))
     rw [cl,decide_eq_false (p:=(s.k=t.k/\s.i=0)) (by omega),alZ,alS]
   ·refine yc (tch (nb ?_))
    rw [cl,<- ek,h2,alZ]
  ·have h1':=of_decide_eq_false h1
   refine yc (tch (nb ?_))
   rw [cl,decide_eq_false (p:=(s.k=t.k/\s.i=0)) (by omega),alZ,alS]
 unfold yQ yO
 walk_at "w"
 refine⟨_,ab5 rfl sm.k,?_⟩
 unfold lnD
 walk_at "w"
 rw [if_neg akr,jr]
 rw [akp]
 refine zQ (fun h1=>?_) fun h1=>?_
 ·have h1':=of_decide_eq_true h1
  walk_at "w"
  rw [if_neg akr,jr]
  refine zQ (fun h2=>?_) fun h2=>?_
  ·have h2':=of_decide_eq_true h2
   refine ye (zt (o,s.p,s.q,t.q) ?_)
   walk_at "w"
   rintro _ rfl
   refine fin _ ?_
   unfold jZ
   rw [if_pos (by omega)]
  ·have h2':=of_decide_eq_false h2
   exact yc (second (by omega))
 ·have h1':=of_decide_eq_false h1
  exact yc (second (by omega))
noncomputable abbrev aaZ (K:akq):Sp:=spD K 1 (fun (c:Pt×Web) xs=>xs=[.dat (yO c.2)]/\OkWeb c.1 c.2) fun c r=>r=qB (yq c.2)
theorem ac2 (F:Def K mg "_law_meeting" jg pj) (uaa:mg "len"=none) (uac:mg "range"=none) (ubt:FnIn P w K mg base k "_law_segments" pj (aeq K)) (ubu:FnIn P w K mg base k "_law_bad" pV (ag2 K)):FnIn P w K mg base (k+1) "_law_meeting" pj (aaZ K):=by
 refine F.ok sc_law_meeting rfl fun fa cdv A outer s H E hr=>⟨_,(zd (zz (i:=1) sc_law_meeting.nd rfl (Or.inl rfl) (zg ubt hr rfl (za (pv 0) zc))) (zd (yK akZ rfl (yr rfl uac (za (zo (zE (K:=K) rfl) rfl uaa akH (za (pv 1) zc)) zc)) (zl (i:=2) sc_law_meeting.nd rfl (Or.inl rfl) (Or.inr rfl)) (zd (yC (zf (zA (K:=K) rfl) (pv 1) (pv 2) (fun _ _=>rfl)) (zL (K:=K) (n:=3) rfl rfl (zk (zl (i:=3) sc_law_meeting.nd rfl (Or.inl rfl) (Or.inr rfl)) (zk (zl (i:=4) sc_law_meeting.nd rfl (Or.inl rfl) (Or.inr rfl)) (zk (zl (i:=5) sc_law_meeting.nd rfl (Or.inl rfl) (Or.inr rfl)) zK))))) (zd (zX (zD (zZ (K:=K) rfl hr.units) (zf (ze (K:=K) rfl) (pv 5) zb (fun _ _=>rfl)) (zf (ze (K:=K) rfl) (pv 5) zb (fun _ _=>rfl)) (zB _)) (zh (zw (zJ (za (pv 3) (za (pv 4) (za (pv 3) (za (pv 4) zc))))))) zF) (zh (yK akZ rfl (yd (K:=K) rfl (jh (jX (K:=K) rfl) (pv 1) (jD (zi zH (pv 2) zb)) jC)) (zl (i:=6) sc_law_meeting.nd rfl (Or.inl rfl) (Or.inr rfl)) (zh (zX (yF (K:=K) rfl (zg ubu hr rfl (za (pv 0) (za (zf (zA (K:=K) rfl) (pv 1) (pv 2) (fun _ _=>rfl)) (za (pv 6) zc)))) (fun _=>rfl)) (zh (zw (zJ (za (pv 3) (za (pv 4) (za (zf (ze (K:=K) rfl) (pv 6) zb (fun _ _=>rfl)) (za (zf (ze (K:=K) rfl) (pv 6) zb (fun _ _=>rfl)) zc))))))) zF))))))) (zh (zw aaz)))),?_⟩
 rintro f xs ⟨o,w⟩ hl ⟨rfl,g⟩
 try dsimp only [zV,zq]
 dsimp only at *
 have sl:((z7 w).map yQ).length<=1000:=by
  have:=qY g.few w.length (akA _)
  rw [qk] at this
  rw [akp]
  have:=g.len
  omega
 have fin:∀ x:Option (Sg×Sg),x=yq w->qB x=qB (yq w):=fun x h=>by rw [h]
 refine zM (zR (zt (o,w) ?_))
 walk_at "w"
 rintro _ rfl
 dsimp only
 refine zr (zM (vD (ja ?_)))
 walk_at "w"
 rw [akp,akR]
 refine⟨fun n ρ=>(∃ x2 x3 x4 x5 x6,ρ=[some (.dat (yO w)),some (.dat (.list ((z7 w).map yQ))),x2,x3,x4,x5,x6])/\look (yv w) (z7 w)=look (yv w) ((z7 w).drop n),⟨⟨_,_,_,_,_,rfl⟩,rfl⟩,?_,?_⟩
 ·rintro n d _ hd ⟨⟨x2,x3,x4,x5,x6,rfl⟩,hlook⟩
  obtain⟨hn,rfl⟩:=j5 hd
  have h2:(z7 w)[n]?=some (z7 w)[n]:=akt hn
  have sm:=ab9 (akC h2)
  have hs:(z7 w).drop n=(z7 w)[n] :: (z7 w).drop (n+1):=al9 hn
  have kn:=fun t ht=>ahY (t:=t) h2 ht
  generalize (z7 w)[n]=s at h2 sm hs kn
  have hat:atI ((z7 w).map yQ) (n:Int)=some (yQ s):=vA (by rw [akz,h2];rfl)
  refine zr (zM (zR ?_))
  walk_at "w"
  refine⟨_,hat,?_⟩
  unfold yQ
  have dp:=ab8 s.p s.q
  walk_at "w"
  rw [if_neg akr,ab7]
  refine zQ (fun h=>?_) fun h=>?_
  ·walk_at "w"
   refine fin (some (s,s)) ?_
   unfold yq
   rw [hlook,hs,afq (of_decide_eq_true h)]
  ·have hpq:=of_decide_eq_false h
   refine yc (vD (yM ?_))
   walk_at "w"
   rw [show ((n:Int)+1)=((n+1:Nat):Int) from rfl,jW,<- ant]
   refine⟨fun m ρ=>(∃ x6,ρ=[some (.dat (yO w)),some (.dat (.list ((z7 w).map yQ))),some (.dat (.int n)),some (.dat (.int s.k)),some (.dat (.int s.i)),some (.dat (qC s.p s.q)),x6])/\∀ u∈((z7 w).drop (n+1)).take m,yv w s u=false,⟨⟨_,rfl⟩,fun u hu=>by simp at hu⟩,?_,?_⟩
   ·rintro m d _ hd ⟨⟨x6,rfl⟩,hall⟩
    obtain⟨t,h3,rfl⟩:=y8 (F:=yQ) hd
    have tin:=akC h3
    have tm:=ab9 (alH tin)
    refine zr (jV (qA (zt (o,w,s,t) ?_)))
    walk_at "w"
    refine⟨_,hat,?_⟩
    walk_at "w"
    rintro _ rfl
    refine⟨_,rfl,?_⟩
    dsimp only
    have mb:=afr (w:=w) (kn t tin)
    refine zQ (fun h=>?_) fun h=>?_
    ·unfold yQ
     walk_at "w"
     refine fin (some (s,t)) ?_
     unfold yq
     rw [hlook,hs,aaU (m:=m+1) h3 (fun u hu=>?_) (by rw [mb];exact h)]
     rcases akB.mp hu with rfl | hu
     ·exact aep hpq
     ·exact hall u hu
    ·refine yc ⟨⟨_,rfl⟩,fun u hu=>?_⟩
     rw [alF,h3] at hu
     rcases akF.mp hu with hu | hu
     ·exact hall u hu
     ·cases akO.mp (by simpa using hu)
      rw [mb]
      exact h
   ·rintro _ ⟨⟨x6,rfl⟩,hall⟩
    refine⟨⟨_,_,_,_,_,rfl⟩,?_⟩
    rw [hlook,hs]
    refine abz fun u hu=>?_
    rcases akB.mp hu with rfl | hu
    ·exact aep hpq
    ·refine hall u ?_
     rw [akp,al6]
     exact hu
 ·rintro _ ⟨⟨x2,x3,x4,x5,x6,rfl⟩,hlook⟩
  walk_at "w"
  refine fin none ?_
  unfold yq
  rw [hlook,vd,List.drop_length]
  rfl
noncomputable abbrev scr (ns:List Int):PyData:=.list (ns.map .int)
theorem aer {K:akq} {H:Hp} {a:Addr} {ns:List Int} (h:SqL K H a (ns.map V.int)):Rep K (hide H L2.f0) (scr ns) (.ref a):=by
 rw [yP]
 exact rep_list.mpr ⟨a,_,rfl,h,Reps.ints' ns⟩
theorem ah0 {K:akq} {H:Hp} {v:V} {ns:List Int} (h:Rep K (hide H L2.f0) (scr ns) v):∃ a,v=.ref a/\SqL K H a (ns.map V.int):=by
 rw [yP] at h
 obtain⟨a,xs,rfl,h1,h2⟩:=rep_list.mp h
 rw [h2.ints] at h1
 exact⟨a,rfl,h1⟩
noncomputable def adQ (K:akq):Sp:=fun vs H Q _=>∃ (a:Addr) (ns:List Int) (i:Int),vs=[.ref a,.int i]/\SqL K H a (ns.map V.int)/\ns.length<=63/\0<=i/\i<=63 /\
 ∀ (p:Addr) (x y:Int) (H':Hp),Same H H'->H p=none->H' p=some (.lst [.int x,.int y])->0<=x->0<=y->y<2147483647->Q (.ref p) H'
noncomputable abbrev qQ (K:akq):Sp:=spD K 2 (fun (c:Int) xs=>xs=[.feed,.dat (.int c)]/\0<c/\c<1152921504606846976) fun c r=>∃ i:Int,r=.int i/\0<=i/\i<c
theorem ah1 (F:Def K mg "_law_draw" qt pf):FnIn P w K mg base (k+1) "_law_draw" pf (qQ K):=by
 refine F.ok sc_law_draw rfl fun fa cdv A outer s H E hr=>⟨_,(zd (zX (zD aif (zf (zA (K:=K) rfl) (pv 0) zb (fun _ _=>rfl)) (zi vS zb zb) (zB _)) (zd (zz (i:=2) sc_law_draw.nd rfl (Or.inl rfl) (zi jj (zf (zA (K:=K) rfl) (pv 0) zb (fun _ _=>rfl)) (pv 1))) (zd (yC (zi qL (zf (zA (K:=K) rfl) (pv 0) zb (fun _ _=>rfl)) (pv 1)) (afL (pv 0) zb set_list)) (zh (zw (pv 2))))) zF) (zd (yC (zi jj (zi zH (zi zH (zi yu (zf (zA (K:=K) rfl) (pv 0) zb (fun _ _=>rfl)) zb) (zi jj (zf (zA (K:=K) rfl) (pv 0) zb (fun _ _=>rfl)) zb)) zb) zb) (afL (pv 0) zb set_list)) (zh (zw (zi jj (zi qL (zi jj (zi yu (zf (zA (K:=K) rfl) (pv 0) zb (fun _ _=>rfl)) zb) zb) zb) (pv 1)))))),?_⟩
 rintro f xs c hl ⟨rfl,c0,c1⟩
 try dsimp only [zV,zq]
 walk_at "w"
 split
 ·walk_at "w"
  exact alj _ c0
 ·walk_at "w"
  exact alj _ c0
theorem ah2 (F:Def K mg "_law_feed" qr pP) (uaa:mg "len"=none) (uaE:mg "abs"=none):FnIn P w K mg base (k+1) "_law_feed" pP (adQ K):=by
 refine F.raw sc_law_feed (fun vs H Q E h=>?_) fun fa cdv A outer s H vs Q E hr hs=>⟨_,(zd (zz (i:=2) sc_law_feed.nd rfl (Or.inl rfl) zb) (zd (zX (zD aac (zo (zE (K:=K) rfl) rfl uaa akH (za (pv 0) zc)) zb (zB _)) (zh (zz (i:=2) sc_law_feed.nd rfl (Or.inl rfl) (zf (zA (K:=K) rfl) (pv 0) (zi jj (pv 1) (zo (zE (K:=K) rfl) rfl uaa akH (za (pv 0) zc))) (fun _ _=>rfl)))) zF) (zh (zw (ya (za (zo (afT) rfl uaE PyProof.Rows.boot_abs (za (pv 2) zc)) (za (zi zH (zi yu zb (pv 1)) zb) zc))))))),?_⟩
 ·obtain⟨a,ns,i,rfl,_⟩:=h
  rfl
 obtain⟨a,ns,i,rfl,hS,h63,i0,i1,q⟩:=hs
 have e0:EnvOk K L2.f0 (jm vt [.dat (scr ns),.dat (.int i)]) (start vt [.ref a,.int i]) H:=y7 (.cons (aer hS) (.cons (show RepV K L2.f0 H (.dat (.int i)) (.int i) from (rep_int (K:=K) (H:=hide H L2.f0)).mpr rfl) .nil)) (L2.fok0 H)
 refine af9 (D:={ nx:=fun ρ=>ρ=[some (.dat (scr ns)),some (.dat (.int i)),some (.dat (.int 0))],rt:=fun _=>False }) ?_ e0 ?_ (fun _ _ _ _ _ z=>z.elim) (fun _ z=>z) (fun _ z=>z)
 ·walk_at "w"
  rfl
 rintro _ σ1 H1 g1 e1 rfl
 refine af9 (D:={ nx:=fun ρ=>∃ c:Int,ρ=[some (.dat (scr ns)),some (.dat (.int i)),some (.dat (.int c))],rt:=fun _=>False }) ?_ e1 ?_ (fun _ _ _ _ _ z=>z.elim) (fun _ z=>z) (fun _ z=>z)
 ·walk_at "w"
  rw [akp]
  by_cases h:0<ns.length
  ·rw [if_pos (by simpa using h)]
   walk_at "w"
   rw [akp]
   have z0:=alV i (b:=(ns.length:Int)) (by omega)
   have z1:=alj i (b:=(ns.length:Int)) (by omega)
   refine⟨by omega,_,rfl,_,j3 (j:=(i % (ns.length:Int)).toNat) (by omega) (by omega),?_⟩
   walk_at "w"
   exact⟨_,rfl⟩
  ·rw [if_neg (by simpa using h)]
   walk_at "w"
   exact⟨_,rfl⟩
 rintro _ σ2 H2 g2 e2 ⟨c,rfl⟩
 unfold aa6
 have ss:Same H H2:=(L2.same0 g1).trans (L2.same0 g2)
 refine aga (R:=fun ds=>∃ x y:Int,ds=[.int x,.int y]/\0<=x/\0<=y/\y<2147483647) ?_ e2 ?_
 ·walk_at "w"
  omega
 ·rintro p ds vs H3 g3 hn rs ⟨x,y,rfl,hx,hy,hy'⟩
  have sf:Same H H3:=ss.trans (L2.same0 g3)
  have ev:vs=[.int x,.int y]:=Reps.ints (ns:=[x,y]) rs
  subst ev
  exact q p x y _ (sf.trans (zW hn _)) (sf.free hn) zx hx hy hy'
noncomputable abbrev ac3 (K:akq):Sp:=spD K 2 (fun (c:List PyData) xs=>xs=[.feed,.dat (.list c)]) fun c r=>r=.list c \/ r=.list c.reverse
theorem afx (F:Def K mg "_law_either" ju pC) (uai:mg "list"=none) (uaF:mg "reversed"=none) (uad:FnIn P w K mg base k "_law_draw" pf (qQ K)):FnIn P w K mg base (k+1) "_law_either" pC (ac3 K):=by
 refine F.ok abh rfl fun fa cdv A outer s H E hr=>⟨_,(zd (zX (zD (zZ (K:=K) rfl hr.units) (zg uad hr rfl (za (pv 0) (za zb zc))) zb (zB _)) (zh (zw (adv (K:=K) rfl rfl rfl uai alU rfl uaF boot_reversed (pv 1)))) zF) (zh (zw (yz (aaM (K:=K) rfl) rfl uai alU (za (pv 1) zc))))),?_⟩
 rintro f xs c hl rfl
 try dsimp only [zV,zq]
 refine zM (jV (yL (aaL (zt 2 ?_))))
 walk_at "w"
 rintro _ ⟨i,rfl,i0,i1⟩
 walk_at "w"
 refine zQ (fun h=>?_) fun h=>?_
 ·refine ye (aeZ ?_)
  walk_at "w"
  exact .inr rfl
 ·refine yc (ye (acB ?_))
  walk_at "w"
  exact .inl rfl
noncomputable def Sml (a b:Int) (p:Pt):Prop:=0<=p.1/\p.1<=a/\0<=p.2/\p.2<=b
noncomputable abbrev aes (K:akq):Sp:=spD K 3 (fun (c:Nat×Int) xs=>xs=[.feed,.dat (.int c.1),.dat (.int c.2)]/\c.1<=26/\0<=c.2/\c.2<=24) fun c r=>∃ ps:List Pt,r=.list (ps.map ptD)/\ps.length=c.1/\∀ p∈ps,Sml 81 27 p
theorem v9 {n i:Nat} {d:PyData} (h:(jn n)[i]?=some d):i<n/\d=.int (i:Int):=by
 unfold jn at h
 rw [akz] at h
 by_cases hi:i<n
 ·rw [alQ hi] at h
  cases h
  exact⟨hi,rfl⟩
 ·rw [ali (by rw [alh];omega)] at h
  cases h
theorem vv (n:Nat):(jn n).length=n:=by unfold jn;simp
theorem ag3 (F:Def K mg "_law_chain" jI pQ) (uac:mg "range"=none) (uad:FnIn P w K mg base k "_law_draw" pf (qQ K)):FnIn P w K mg base (k+1) "_law_chain" pQ (aes K):=by
 refine F.ok sc_law_chain rfl fun fa cdv A outer s H E hr=>⟨_,(zd (zz (i:=3) sc_law_chain.nd rfl (Or.inl rfl) (zg uad hr rfl (za (pv 0) (za zb zc)))) (zd (zz (i:=4) sc_law_chain.nd rfl (Or.inl rfl) (ya zc)) (zd (yK akZ rfl (yr rfl uac (za (pv 1) zc)) (zl (i:=5) sc_law_chain.nd rfl (Or.inl rfl) (Or.inr rfl)) (zd (qS (abt aln alL alM qT (pv 4) (za (zJ (za (pv 3) (za (zi zH (pv 2) (zg uad hr rfl (za (pv 0) (za zb zc)))) zc))) zc))) (zh (zz (i:=3) sc_law_chain.nd rfl (Or.inl rfl) (zi zH (zi zH (pv 3) zb) (zg uad hr rfl (za (pv 0) (za zb zc)))))))) (zh (zw (pv 4)))))),?_⟩
 rintro f xs ⟨many,top⟩ hl ⟨rfl,hm,t0,t1⟩
 try dsimp only [zV,zq]
 dsimp only at *
 refine zM (zR (zt 4 ?_))
 walk_at "w"
 rintro _ ⟨x,rfl,x0,x1⟩
 refine zr (ad6 (ad4 ⟨show 4<6 by decide,fun D=>?_⟩))
 refine acD (ja (zu (zp rfl (zY ⟨_,rfl,by omega,by omega,fun n ρ es=>∃ (X:Int) (x5:Option DV) (ps:List Pt),ρ=[some .feed,some (.dat (.int many)),some (.dat (.int top)),some (.dat (.int X)),some (.own f.M.length),x5]/\es=ps.map ptD/\ps.length=n/\(∀ p∈ps,Sml 81 27 p)/\0<=X/\X<=3+3 * n,⟨x,none,[],rfl,rfl,rfl,(fun p hp=>by cases hp),x0,by omega⟩,?_,?_⟩))))
 ·rintro n d _ _ hd ⟨X,x5,ps,rfl,rfl,hps,hs,X0,X1⟩
  obtain⟨hn,rfl⟩:=v9 hd
  refine zr (agd (ad5 rfl (by rw [akp];omega) ?_))
  walk_at "w"
  refine zt 4 ?_
  walk_at "w"
  rintro _ ⟨y,rfl,y0,y1⟩
  walk_at "w"
  refine adq (zR ?_)
  walk_at "w"
  refine zt 3 ?_
  walk_at "w"
  rintro _ ⟨z,rfl,z0,z1⟩
  walk_at "w"
  refine⟨X+1+z,_,ps++[(X,top+y)],rfl,by simp [ptD],by rw [akD,hps];rfl,fun p hp=>?_,by omega,by omega⟩
  rcases akF.mp hp with hp | hp
  ·exact hs p hp
  ·rw [akO.mp hp]
   exact⟨X0,by show X<=81;omega,by show 0<=top+y;omega,by show top+y<=27;omega⟩
 ·rintro _ _ ⟨X,x5,ps,rfl,rfl,hps,hs,X0,X1⟩
  refine⟨rfl,?_⟩
  rw [vv] at hps
  walk_at "w"
  exact hs
noncomputable abbrev ag4 (K:akq):Sp:=spD K 3 (fun (c:List Pt×Int) xs=>xs=[.feed,.dat (.list (c.1.map ptD)),.dat (.int c.2)]/\2<=c.1.length/\c.1.length<=26/\(∀ p∈c.1,Sml 81 27 p)/\0<=c.2/\c.2<=24) fun c r=>∃ ps:List Pt,r=.list (ps.map ptD)/\3<=ps.length/\ps.length<=28/\∀ p∈ps,Sml 84 33 p
theorem ac4 {ps:List Pt} (h:2<=ps.length):∃ p∈ps,atI (ps.map ptD) 0=some (ptD p):=by
 cases ps with
 | nil=>simp at h
 | cons p ps=>exact⟨p,akE,j3 (xs:=p :: ps) (j:=0) rfl (Nat.succ_pos _)⟩
theorem ah3 {ps:List Pt} (h:2<=ps.length):∃ p∈ps,atI (ps.map ptD) (-1)=some (ptD p):=by
 have hl:ps.length - 1<ps.length:=by omega
 refine⟨ps[ps.length - 1],ak7 hl,?_⟩
 unfold atI ixN
 rw [if_neg (by omega),if_pos (by rw [akp];omega),akp]
 show (ps.map ptD)[_]?=_
 rw [show ((-1:Int)+(ps.length:Int)).toNat=ps.length - 1 by omega,akz,akt hl]
 rfl
theorem ah4 (F:Def K mg "_law_ring" qu pD) (uad:FnIn P w K mg base k "_law_draw" pf (qQ K)):FnIn P w K mg base (k+1) "_law_ring" pD (ag4 K):=by
 refine F.ok acT rfl fun fa cdv A outer s H E hr=>⟨_,(zd (zX (zD (zZ (K:=K) rfl hr.units) (zg uad hr rfl (za (pv 0) (za zb zc))) zb (zB _)) (zh (zw (ya (za (zf (zA (K:=K) rfl) (pv 1) zb (fun _ _=>rfl)) (za (zJ (za (zi zH (zf (ze (K:=K) rfl) (zf (zA (K:=K) rfl) (pv 1) zb (fun _ _=>rfl)) zb (fun _ _=>rfl)) zb) (za (zi zH (pv 2) zb) zc))) (za (zJ (za (zf (ze (K:=K) rfl) (zf (zA (K:=K) rfl) (pv 1) zb (fun _ _=>rfl)) zb (fun _ _=>rfl)) (za (zi zH (pv 2) zb) zc))) zc)))))) zF) (zh (zw (zi (yS (K:=K) rfl) (pv 1) (ya (za (zJ (za (zf (ze (K:=K) rfl) (zf (zA (K:=K) rfl) (pv 1) (aie afQ zb) (fun _ _=>rfl)) zb (fun _ _=>rfl)) (za (zi zH (pv 2) zb) zc))) (za (zJ (za (zf (ze (K:=K) rfl) (zf (zA (K:=K) rfl) (pv 1) zb (fun _ _=>rfl)) zb (fun _ _=>rfl)) (za (zi zH (pv 2) zb) zc))) zc))))))),?_⟩
 rintro f xs ⟨ps,top⟩ hl ⟨rfl,h2,h26,hs,t0,t1⟩
 try dsimp only [zV,zq]
 dsimp only at *
 obtain⟨p,hp,ep⟩:=ac4 h2
 obtain⟨q,hq,eq⟩:=ah3 h2
 obtain⟨p1,p2,p3,p4⟩:=hs p hp
 obtain⟨q1,q2,q3,q4⟩:=hs q hq
 refine zM (jV (yL (aaL (zt 4 ?_))))
 walk_at "w"
 rintro _ ⟨i,rfl,i0,i1⟩
 walk_at "w"
 refine zQ (fun h=>?_) fun h=>?_
 ·walk_at "w"
  refine⟨_,ep,?_⟩
  walk_at "w"
  refine⟨_,ep,?_⟩
  unfold ptD
  walk_at "w"
  refine⟨_,ep,?_⟩
  unfold ptD
  walk_at "w"
  refine⟨[p,(p.1+3,top+9),(p.1,top+9)],rfl,akA _,by show 3<=28;decide,fun r hr=>?_⟩
  simp only [akB,alm,or_false] at hr
  rcases hr with rfl | rfl | rfl
  ·exact⟨p1,by omega,p3,by omega⟩
  ·exact⟨by show 0<=p.1+3;omega,by show p.1+3<=84;omega,by show 0<=top+9;omega,by show top+9<=33;omega⟩
  ·exact⟨p1,by show p.1<=84;omega,by show 0<=top+9;omega,by show top+9<=33;omega⟩
 ·refine yc (ye (qi ?_))
  walk_at "w"
  refine aim ?_
  walk_at "w"
  refine⟨_,eq,?_⟩
  unfold ptD
  walk_at "w"
  refine⟨_,ep,?_⟩
  unfold ptD
  walk_at "w"
  refine⟨by rw [akp];show ps.length+2<=1000;omega,ps++[(q.1,top+9),(p.1,top+9)],by rw [akQ];rfl,by rw [akD];show 3<=ps.length+2;omega,by rw [akD];show ps.length+2<=28;omega,fun r hr=>?_⟩
  rcases akF.mp hr with hr | hr
  ·obtain⟨r1,r2,r3,r4⟩:=hs r hr
   exact⟨r1,by omega,r3,by omega⟩
  ·simp only [akB,alm,or_false] at hr
   rcases hr with rfl | rfl
   ·exact⟨q1,by show q.1<=84;omega,by show 0<=top+9;omega,by show top+9<=33;omega⟩
   ·exact⟨p1,by show p.1<=84;omega,by show 0<=top+9;omega,by show top+9<=33;omega⟩
theorem aa0 {qs:List Pt} {r:PyData} (h:r=.list (qs.map ptD) \/ r=.list (qs.map ptD).reverse):∃ qs':List Pt,r=.list (qs'.map ptD)/\qs'.length=qs.length/\∀ p∈qs',p∈qs:=by
 rcases h with rfl | rfl
 ·exact⟨qs,rfl,rfl,fun p hp=>hp⟩
 ·exact⟨qs.reverse,by rw [List.map_reverse],amz,fun p hp=>alu.mp hp⟩
theorem jW {α:Type} {F:α->PyData} {rs:List α} {a:Int} (h0:0<=a) (h1:a<=rs.length):cutD (rs.map F) (some a) none=(rs.drop a.toNat).map F:=by
 unfold L2.cutD HT.sIx
 dsimp only
 rw [if_neg (by omega),akp,amx (by omega),alB (by rw [als,akp];omega),ant]
theorem adR {α:Type} {F:α->PyData} {rs:List α} {a:Int} (h0:0<=a) (h1:a<=rs.length):cutD (rs.map F) none (some a)=(rs.take a.toNat).map F:=by
 unfold L2.cutD HT.sIx
 dsimp only
 rw [if_neg (by omega),akp,amx (by omega),List.drop_zero,Nat.sub_zero,List.map_take]
noncomputable def OkL (a b:Int) (l:Ln):Prop:=2<=l.2.length/\l.2.length<=28/\∀ p∈l.2,Sml a b p
noncomputable abbrev ac5 (K:akq):Sp:=spD K 4 (fun (c:Nat×Int×Int) xs=>xs=[.feed,.dat (.int c.1),.dat (.int c.2.1),.dat (.int c.2.2)]/\2<=c.1/\c.1<=26/\0<=c.2.1/\c.2.1<=24) fun c r=>∃ w:Web,r=.list (w.map lnD)/\1<=w.length/\w.length<=3/\∀ l∈w,OkL 84 33 l
theorem afy (F:Def K mg "_law_bundle" jv pR) (uac:mg "range"=none) (uaa:mg "len"=none) (uaf:mg "max"=none) (uae:mg "min"=none) (uaj:mg "tuple"=none) (uad:FnIn P w K mg base k "_law_draw" pf (qQ K))
  (ubv:FnIn P w K mg base k "_law_chain" pQ (aes K)) (ubw:FnIn P w K mg base k "_law_ring" pD (ag4 K)) (ubm:FnIn P w K mg base k "_law_either" pC (ac3 K)) :
  FnIn P w K mg base (k+1) "_law_bundle" pR (ac5 K):=by
 refine F.ok sc_law_bundle rfl fun fa cdv A outer s H E hr=>⟨_,(zd (zz (i:=4) sc_law_bundle.nd rfl (Or.inr rfl) (zg ubv hr rfl (za (pv 0) (za (pv 1) (za (pv 2) zc))))) (zd (zX (zD aac (zg uad hr rfl (za (pv 0) (za zb zc))) zb (zB _)) (zd (zz (i:=5) sc_law_bundle.nd rfl (Or.inl rfl) (zo (y3 rfl) rfl uaf boot_max (za zb (za (zo (y4 rfl) rfl uae boot_min (za (zi zH zb (zg uad hr rfl (za (pv 0) (za zb zc)))) (za (zi qL (pv 3) (pv 1)) zc))) zc)))) (zd (qH (i:=6) (N:=["_law_k","_law_chain_here"]) (own:=1) (fr:=[4]) ⟨rfl,by decide +kernel,of_decide_eq_true (by kernel_rfl),of_decide_eq_true (by kernel_rfl),of_decide_eq_true (by kernel_rfl),rfl⟩ rfl sc_law_bundle.nd rfl (Or.inl rfl) (yr rfl uac (za (pv 5) zc)) (fun _ _ _ _=>(zl (i:=0) (show (["_law_k","_law_chain_here"]:List Str).Nodup by decide +kernel) rfl (Or.inr rfl) (Or.inl rfl))) (fun _ _ _ _=>yi) (fun _ _ _ _=>(yx (N:=qe) (own:=2) (fr:=[0]) ⟨rfl,by decide +kernel,of_decide_eq_true (by kernel_rfl),of_decide_eq_true (by kernel_rfl),of_decide_eq_true (by kernel_rfl),rfl⟩ rfl (yd (K:=K) rfl (pv 1)) (fun _ _ _ _=>(zL (K:=K) (n:=2) rfl rfl (zk (zl (i:=0) (show (qe:List Str).Nodup by decide +kernel) rfl (Or.inl rfl) (Or.inr rfl)) (zk (zl (i:=1) (show (qe:List Str).Nodup by decide +kernel) rfl (Or.inl rfl) (Or.inr rfl)) zK)))) (fun _ _ _ _=>yi) (fun _ _ _ _=>(zJ (za (pv 0) (za (zi zH (pv 1) (pv 2)) zc)))) rfl rfl (fun _=>rfl))) rfl rfl (fun _=>rfl) (Or.inl rfl) rfl) (zh (zw (yx (N:=["_law_row","_law_feed_here"]) (own:=1) (fr:=[0]) ⟨rfl,by decide +kernel,of_decide_eq_true (by kernel_rfl),of_decide_eq_true (by kernel_rfl),of_decide_eq_true (by kernel_rfl),rfl⟩ rfl (yd (K:=K) rfl (pv 6)) (fun _ _ _ _=>(zl (i:=0) (show (["_law_row","_law_feed_here"]:List Str).Nodup by decide +kernel) rfl (Or.inl rfl) (Or.inr rfl))) (fun _ _ _ _=>yi) (fun _ _ _ _=>(zJ (za yJ (za (yz (jE (K:=K) rfl) rfl uaj alT (za (zg ubm hr rfl (za (pv 1) (za (pv 0) zc))) zc)) zc)))) rfl rfl (fun _=>rfl)))))) zF) (zd (zz (i:=7) sc_law_bundle.nd rfl (Or.inl rfl) (zg ubw hr rfl (za (pv 0) (za (pv 4) (za (pv 2) zc))))) (zd (zz (i:=8) sc_law_bundle.nd rfl (Or.inl rfl) (zg uad hr rfl (za (pv 0) (za (zo (zE (K:=K) rfl) rfl uaa akH (za (pv 7) zc)) zc)))) (zd (zz (i:=9) sc_law_bundle.nd rfl (Or.inl rfl) (ya (za (zJ (za yJ (za (yz (jE (K:=K) rfl) rfl uaj alT (za (zg ubm hr rfl (za (pv 0) (za (zi (yS (K:=K) rfl) (jh (jX (K:=K) rfl) (pv 7) (jD (pv 8)) jC) (jh (jX (K:=K) rfl) (pv 7) jC (jD (pv 8)))) zc))) zc)) zc))) zc))) (zd (zX (PW.pt (qF (zD aac (zo (zE (K:=K) rfl) rfl uaa akH (za (pv 7) zc)) zb (zB _)) (qR (zD aac (pv 3) (zi zH (zo (zE (K:=K) rfl) rfl uaa akH (za (pv 7) zc)) zb) (zB _))))) (zd (zz (i:=10) sc_law_bundle.nd rfl (Or.inl rfl) (zf (ze (K:=K) rfl) (zf (zA (K:=K) rfl) (pv 4) zb (fun _ _=>rfl)) zb (fun _ _=>rfl))) (zh (qS (abt aln alL alM qT (pv 9) (za (zJ (za yJ (za (zJ (za (zJ (za (zi zH (pv 10) zb) (za (zi zH (pv 2) zb) zc))) (za (zJ (za (zi zH (pv 10) zb) (za (zi zH (pv 2) zb) zc))) (za (zJ (za (zi zH (pv 10) zb) (za (zi zH (pv 2) zb) zc))) zc)))) zc))) zc))))) zF) (zh (zw (pv 9))))))))),?_⟩
 rintro f xs ⟨many,top,room⟩ hl ⟨rfl,h2,h26,t0,t1⟩
 try dsimp only [zV,zq]
 dsimp only at *
 refine zM (zR (zt (many,top) ?_))
 walk_at "w"
 rintro _ ⟨ps,rfl,pl,hs⟩
 dsimp only at pl
 refine zr (zM (jV (yL (abw (zt 3 ?_)))))
 walk_at "w"
 rintro _ ⟨i,rfl,i0,i1⟩
 walk_at "w"
 refine zQ (fun h=>?_) fun h=>?_
 ·walk_at "w"
  refine zt 3 ?_
  walk_at "w"
  rintro _ ⟨j,rfl,j0,j1⟩
  walk_at "w"
  generalize room / (many:Int)=q
  generalize hX:(if (if q<1+j then q else 1+j) > 1 then if q<1+j then q else 1+j else 1)=X
  have hX1:1<=X/\X<=3:=by
   rw [<-hX]
   split <;> split <;> omega
  clear hX
  obtain⟨X0,X3⟩:=hX1
  refine PEdO.ped (agi (B:=fun qs:List Pt=>PyData.list (qs.map ptD)) (ok:=fun qs:List Pt=>qs.length=many/\∀ p∈qs,Sml 84 33 p) X.toNat (ja ?_))
  walk_at "w"
  refine⟨vv _,by omega,?_,?_⟩
  ·rintro D' n d ρ' es hd ho hes
   obtain⟨hn,rfl⟩:=v9 hd
   obtain⟨u,rfl⟩:=ho.one
   refine zr (ji ?_)
   rw [if_pos rfl]
   refine yN hes (PEdO.ped (acE (A:=ptD) (B:=fun p:Pt=>ptD (p.1,p.2+n)) ps (yM (zp rfl ⟨_,rfl,rfl,by omega,?_,?_⟩))))
   ·rintro D2 p ρ2 es2 hp ho2 hes2
    obtain⟨u,v,rfl⟩:=ho2.two
    unfold ptD
    refine jq rfl (zN (zr (zN (zr (yD (ji ?_))))))
    rw [if_pos rfl]
    refine yN hes2 ?_
    walk_at "w"
    exact⟨.mk2,rfl⟩
   ·refine⟨.mk1,ps.map fun p=>(p.1,p.2+(n:Int)),⟨by rw [akp];exact pl,fun p hp=>?_⟩,by rw [alC];rfl⟩
    obtain⟨p',hp',rfl⟩:=alf.mp hp
    obtain⟨a1,a2,a3,a4⟩:=hs p' hp'
    exact⟨a1,by show p'.1<=84;omega,by show 0<=p'.2+(n:Int);omega,by show p'.2+(n:Int)<=33;omega⟩
  ·rintro qss hq hok
   refine zr (ye (PEdO.ped (agi (B:=lnD) (ok:=OkL 84 33) qss.length (yM (zp rfl ⟨_,rfl,akp _,by omega,?_,?_⟩)))))
   ·rintro D' n d ρ' es hd ho hes
    obtain⟨qs,hqs,rfl⟩:=alf.mp (akC hd)
    obtain⟨ql,qo⟩:=hok qs hqs
    obtain⟨u,rfl⟩:=ho.one
    refine zr (ji ?_)
    rw [if_pos rfl]
    refine yN hes ?_
    walk_at "w"
    refine zt (qs.map ptD) ?_
    walk_at "w"
    rintro _ hr
    obtain⟨qs',rfl,l',m'⟩:=aa0 hr
    walk_at "w"
    refine⟨.mk1,(false,qs'),⟨by dsimp only;omega,by dsimp only;omega,fun p hp=>qo p (m' p hp)⟩,rfl⟩
   ·rintro w hw hok2
    exact⟨w,rfl,by omega,by omega,hok2⟩
 ·refine yc (zM (zR (zt (ps,top) ?_)))
  walk_at "w"
  refine⟨⟨rfl,by dsimp only;omega,by dsimp only;omega,hs,t0,t1⟩,?_⟩
  rintro _ ⟨rs,rfl,r3,r28,ro⟩
  have lm:(rs.map ptD).length=rs.length:=akp _
  have lm1:3<=(rs.map ptD).length:=by omega
  have lm2:(rs.map ptD).length<=28:=by omega
  refine zr (zM (zR (zt (((rs.map ptD).length:Nat):Int) ?_)))
  walk_at "w"
  rintro _ ⟨a,rfl,a0,a1⟩
  refine zr (ad6 (ajZ ?_))
  walk_at "w"
  refine zt (cutD (rs.map ptD) (some a) none++cutD (rs.map ptD) none (some a)) ?_
  refine adm rfl (zu (qi ?_))
  walk_at "w"
  have ha1:a<=rs.length:=by omega
  rw [jW a0 ha1,adR a0 ha1,<- akQ]
  refine⟨by rw [akp,akp,als,akW];omega,zY ⟨rfl,rfl,?_⟩⟩
  rintro _ hr
  obtain⟨qs',rfl,l',m'⟩:=aa0 hr
  have ql:qs'.length=rs.length:=by
   rw [l',akD,als,akW]
   omega
  have qo:∀ p∈qs',Sml 84 33 p:=fun p hp=>by
   rcases akF.mp (m' p hp) with h | h
   ·exact ro p (alH h)
   ·exact ro p (amv h)
  have ok1:OkL 84 33 (true,qs'):=⟨by dsimp only;omega,by dsimp only;omega,qo⟩
  obtain⟨p0,hp0,ep0⟩:=ac4 (ps:=ps) (by omega)
  obtain⟨b1,b2,b3,b4⟩:=hs p0 hp0
  walk_at "w"
  refine⟨show 9<11 by decide,fun D=>?_⟩
  refine akg ?_
  walk_at "w"
  refine zQ (fun h=>?_) fun h=>?_
  ·walk_at "w"
   refine zQ (fun h=>?_) fun h=>?_
   ·refine agd (adq (zR ?_))
    walk_at "w"
    refine⟨_,ep0,?_⟩
    unfold ptD
    walk_at "w"
    refine ad5 rfl (show 1<1000 by decide) ?_
    walk_at "w"
    refine⟨[(true,qs'),(false,[(p0.1+1,top+6),(p0.1+2,top+5),(p0.1+3,top+7)])],rfl,Nat.le_add_left 1 1,am1 2 1,fun l hl=>?_⟩
    simp only [akB,alm,or_false] at hl
    rcases hl with rfl | rfl
    ·exact ok1
    ·refine⟨by show 2<=3;decide,by show 3<=28;decide,fun p hp=>?_⟩
     simp only [akB,alm,or_false] at hp
     rcases hp with rfl | rfl | rfl <;> refine⟨?_,?_,?_,?_⟩ <;> dsimp only <;> omega
   ·refine age ⟨rfl,?_⟩
    walk_at "w"
    exact⟨[(true,qs')],rfl,akA _,am1 1 2,fun l hl=>by rw [akO.mp hl];exact ok1⟩
  ·refine age ⟨rfl,?_⟩
   walk_at "w"
   exact⟨[(true,qs')],rfl,akA _,am1 1 2,fun l hl=>by rw [akO.mp hl];exact ok1⟩
theorem ack {α:Type} {F:α->PyData} (h:∀ x,(F x).canLay0=true):∀ xs:List α,amU (xs.map F)=true
 | []=>rfl
 | x :: xs=>by
  show ((F x).canLay0 && amU (xs.map F))=true
  rw [h x,ack h xs]
  rfl
theorem ajv (l:Ln):(lnD l).canLay0=true:=by
 show ((PyData.str (qO l.1)).canLay0 && (amU (l.2.map ptD) && true))=true
 rw [qP,ack ajt]
 rfl
theorem aet (w:Web):(PyData.list (w.map lnD)).canLay0=true:=ack ajv w
noncomputable def Far (B:Int) (p:Pt):Prop:=-B<=p.1/\p.1<=B/\-B<=p.2/\p.2<=B
structure FarWeb (n:Nat) (B:Int) (w:Web):Prop where
 one:1<=w.length
 len:w.length<=n
 two:∀ l∈w,2<=l.2.length
 few:∀ l∈w,l.2.length<=28
 far:∀ l∈w,∀ p∈l.2,Far B p
noncomputable abbrev aeu (K:akq):Sp:=spD K 2 (fun (c:Int) xs=>xs=[.feed,.dat (.int c)]) fun c r=>∃ w:Web,r=.list (w.map lnD)/\FarWeb 9 1000000000000 w
theorem ag5 (F:Def K mg "_law_clean" jJ pS) (uac:mg "range"=none) (uaa:mg "len"=none) (uao:mg "sum"=none) (ual:mg "int"=none) (uaj:mg "tuple"=none) (uad:FnIn P w K mg base k "_law_draw" pf (qQ K))
  (ubx:FnIn P w K mg base k "_law_bundle" pR (ac5 K)) :
  FnIn P w K mg base (k+1) "_law_clean" pS (aeu K):=by
 refine F.ok sc_law_clean rfl fun fa cdv A outer s H E hr=>⟨_,(zd (zz (i:=2) sc_law_clean.nd rfl (Or.inl rfl) (ya zc)) (zd (zz (i:=3) sc_law_clean.nd rfl (Or.inl rfl) (pv 1)) (zd (yK akZ rfl (yr rfl uac (za (zi zH zb (zg uad hr rfl (za (pv 0) (za zb zc)))) zc)) (zl (i:=4) sc_law_clean.nd rfl (Or.inl rfl) (Or.inr rfl)) (zd (zz (i:=5) sc_law_clean.nd rfl (Or.inl rfl) (zi zH zb (zi yu (zg uad hr rfl (za (pv 0) (za zb zc))) (zf (zA (K:=K) rfl) (ya (za zb (za zb zc))) (yz vT rfl ual amq (za (z8 aac (pv 1) zb (zB _)) zc)) (fun _ _=>rfl))))) (zh (zX (zD jB (zi zH (pv 5) zb) (pv 3) (zB _)) (zd (zz (i:=2) sc_law_clean.nd rfl (Or.inl rfl) (zi (yS (K:=K) rfl) (pv 2) (zg ubx hr rfl (za (pv 0) (za (pv 5) (za (zi yu zb (pv 4)) (za (zi zI (pv 3) zb) zc))))))) (zh (zz (i:=3) sc_law_clean.nd rfl (Or.inl rfl) (zi zI (pv 1) (zo (aaQ (K:=K) rfl rfl) rfl uao am9 (za (yx (N:=pG) (own:=2) (fr:=[]) ⟨rfl,by decide +kernel,of_decide_eq_true (by kernel_rfl),of_decide_eq_true (by kernel_rfl),of_decide_eq_true (by kernel_rfl),rfl⟩ rfl (yd (K:=K) rfl (pv 2)) (fun _ _ _ _=>(zL (K:=K) (n:=2) rfl rfl (zk (zl (i:=0) (show (pG:List Str).Nodup by decide +kernel) rfl (Or.inl rfl) (Or.inr rfl)) (zk (zl (i:=1) (show (pG:List Str).Nodup by decide +kernel) rfl (Or.inl rfl) (Or.inr rfl)) zK)))) (fun _ _ _ _=>yi) (fun _ _ _ _=>(zo (zE (K:=K) rfl) rfl uaa akH (za (pv 1) zc))) rfl rfl (fun _=>rfl)) zc)))))) zF)))) (zd (zX (zD (zZ (K:=K) rfl hr.units) (pv 2) (ya zc) (zB _)) (zh (zz (i:=2) sc_law_clean.nd rfl (Or.inl rfl) (ya (za (zJ (za yJ (za (zJ (za (zJ (za zb (za zb zc))) (za (zJ (za zb (za zb zc))) zc))) zc))) zc)))) zF) (zd (zz (i:=6) sc_law_clean.nd rfl (Or.inr rfl) (zf (zA (K:=K) rfl) (ya (za zb (za zb (za zb (za (zi vS zb zb) zc))))) (zg uad hr rfl (za (pv 0) (za zb zc))) (fun _ _=>rfl))) (zd (zz (i:=7) sc_law_clean.nd rfl (Or.inr rfl) (zf (zA (K:=K) rfl) (ya (za zb (za zb (za (zi zI zb zb) (za (zi vS zb zb) zc))))) (zg uad hr rfl (za (pv 0) (za zb zc))) (fun _ _=>rfl))) (zh (zw (yx (N:=qf) (own:=2) (fr:=[6,7]) ⟨rfl,by decide +kernel,of_decide_eq_true (by kernel_rfl),of_decide_eq_true (by kernel_rfl),of_decide_eq_true (by kernel_rfl),rfl⟩ rfl (yd (K:=K) rfl (pv 2)) (fun _ _ _ _=>(zL (K:=K) (n:=2) rfl rfl (zk (zl (i:=0) (show (qf:List Str).Nodup by decide +kernel) rfl (Or.inl rfl) (Or.inr rfl)) (zk (zl (i:=1) (show (qf:List Str).Nodup by decide +kernel) rfl (Or.inl rfl) (Or.inr rfl)) zK)))) (fun _ _ _ _=>yi) (fun _ _ _ _=>(zJ (za (pv 0) (za (yz (jE (K:=K) rfl) rfl uaj alT (za (yx (N:=qg) (own:=2) (fr:=[2,3]) ⟨rfl,by decide +kernel,of_decide_eq_true (by kernel_rfl),of_decide_eq_true (by kernel_rfl),of_decide_eq_true (by kernel_rfl),rfl⟩ rfl (ad3 (K:=K) rfl (pv 1)) (fun _ _ _ _=>(zL (K:=K) (n:=2) rfl rfl (zk (zl (i:=0) (show (qg:List Str).Nodup by decide +kernel) rfl (Or.inl rfl) (Or.inr rfl)) (zk (zl (i:=1) (show (qg:List Str).Nodup by decide +kernel) rfl (Or.inl rfl) (Or.inr rfl)) zK)))) (fun _ _ _ _=>yi) (fun _ _ _ _=>(zJ (za (zi zH (zi yu (pv 0) (pv 2)) (pv 3)) (za (zi zI (zi yu (pv 1) (pv 2)) (pv 3)) zc)))) rfl rfl (fun _=>rfl)) zc)) zc)))) rfl rfl (fun _=>rfl)))))))))),?_⟩
 rintro f xs most hl rfl
 try dsimp only [zV,zq]
 refine zM (zR ?_)
 walk_at "w"
 refine vD (ja ?_)
 walk_at "w"
 refine zt 3 ?_
 walk_at "w"
 rintro _ ⟨tm,rfl,t0,t1⟩
 walk_at "w"
 refine⟨fun n ρ=>∃ (w:Web) (left:Int) (x4 x5 x6 x7:Option DV),ρ=[some .feed,some (.dat (.int most)),some (.dat (.list (w.map lnD))),some (.dat (.int left)),x4,x5,x6,x7]/\w.length<=3 * n/\∀ l∈w,OkL 84 33 l,⟨[],most,_,_,_,_,rfl,alp _,fun l hl=>by cases hl⟩,?_,?_⟩
 ·rintro n d _ hd ⟨w,left,x4,x5,x6,x7,rfl,wl,wo⟩
  obtain⟨hn,rfl⟩:=v9 hd
  refine zr (zM (zR ?_))
  walk_at "w"
  refine zt 9 ?_
  walk_at "w"
  rintro _ ⟨i,rfl,i0,i1⟩
  walk_at "w"
  have hm:∃ m:Int,atI [PyData.int 1,PyData.int 3] (if decide (30<most)=true then 1 else 0)=some (.int m)/\1<=m/\m<=3:=by
   cases decide (30<most) with
   | true=>exact⟨3,rfl,by decide,by decide⟩
   | false=>exact⟨1,rfl,by decide,by decide⟩
  obtain⟨m,hm,m0,m1⟩:=hm
  refine⟨_,hm,_,rfl,.inr ⟨by omega,by omega⟩,_,rfl,?_⟩
  have e0:0<=i * m:=amk i0 (by omega)
  have e1:i * m<=8 * 3:=ank (by omega) m1 (by omega) (by decide)
  generalize i * m=im at e0 e1
  have hn3:(n:Int)<3:=by
   have:n<(1+tm).toNat:=hn
   omega
  obtain⟨mn,hmn⟩:∃ mn:Nat,2+im=(mn:Int):=⟨(2+im).toNat,by omega⟩
  rw [hmn]
  refine zr (jV (yL (abw ?_)))
  walk_at "w"
  refine zQ (fun h=>?_) fun h=>?_
  ·refine zM (zR (qi (zp rfl ⟨_,rfl,zt (mn,12 * (n:Int),left - 2) ?_⟩)))
   walk_at "w"
   refine⟨⟨rfl,by dsimp only;omega,by dsimp only;omega,by dsimp only;omega,by dsimp only;omega⟩,?_⟩
   rintro _ ⟨w2,rfl,v1,v2,vo⟩
   refine⟨_,rfl,by rw [akp,akp];omega,?_⟩
   rw [<-akQ]
   refine zr (zR (aaK (zp rfl ⟨_,rfl,aio (PEdO.ped (acE (A:=lnD) (B:=fun l:Ln=>PyData.int (l.2.length:Int)) (w++w2) (yM (zp rfl ⟨_,rfl,rfl,by rw [akD];omega,?_,?_⟩))))⟩)))
   ·rintro D2 l ρ2 es2 hl ho2 hes2
    obtain⟨u,v,rfl⟩:=ho2.two
    unfold lnD
    refine jq rfl (zN (zr (zN (zr (yD (ji ?_))))))
    rw [if_pos rfl]
    refine yN hes2 ?_
    walk_at "w"
    rw [akp]
    exact⟨.mk2,rfl⟩
   ·refine⟨(w++w2).map fun l=>(l.2.length:Int),by rw [alC];rfl,?_⟩
    walk_at "w"
    exact⟨w++w2,_,_,_,_,_,rfl,by rw [akD];omega,fun l hl=>(akF.mp hl).elim (wo l) (vo l)⟩
  ·walk_at "w"
   exact⟨w,left,_,_,_,_,rfl,by omega,wo⟩
 ·rintro _ ⟨w,left,x4,x5,x6,x7,rfl,wl,wo⟩
  rw [vv] at wl
  have lw:=aet w
  have dw:min (PyData.list (w.map lnD)).depth (PyData.list []).depth<=60:=akV (amZ _ _) (by decide +kernel)
  refine zM (PSd.imp (D:={ nx:=fun ρ=>∃ (w:Web) (left:Int) (x4 x5 x6 x7:Option DV),ρ=[some .feed,some (.dat (.int most)),some (.dat (.list (w.map lnD))),some (.dat (.int left)),x4,x5,x6,x7]/\1<=w.length/\w.length<=9/\∀ l∈w,OkL 84 33 l,rt:=fun _=>False }) ?_ ?_ (fun _ z=>z.elim) (fun _ z=>z.elim) (fun _ z=>z.elim))
  ·walk_at "w"
   refine zQ (fun h=>?_) fun h=>?_
   ·walk_at "w"
    refine⟨[(false,[(0,0),(3,1)])],left,_,_,_,_,rfl,akA _,by show 1<=9;decide,fun l hl=>?_⟩
    rw [akO.mp hl]
    refine⟨by show 2<=2;decide,by show 2<=28;decide,fun p hp=>?_⟩
    simp only [akB,alm,or_false] at hp
    rcases hp with rfl | rfl <;> refine⟨?_,?_,?_,?_⟩ <;> dsimp only <;> omega
   ·refine yc ⟨w,left,_,_,_,_,rfl,?_,by omega,wo⟩
    cases w with
    | nil=>exact absurd h (by decide +kernel)
    | cons l w=>exact Nat.succ_le_succ (alp _)
  ·rintro _ ⟨w,left,x4,x5,x6,x7,rfl,w1,w9,wo⟩
   walk_at "w"
   refine zt 4 ?_
   walk_at "w"
   rintro _ ⟨q,rfl,q0,q1⟩
   have hq:∃ v:Int,atI [PyData.int 1,PyData.int 2,PyData.int 3,PyData.int (10 ^ amG 9)] q=some (.int v)/\1<=v/\v<=1000000000:=by
    have:q=0 \/ q=1 \/ q=2 \/ q=3:=by omega
    rcases this with rfl | rfl | rfl | rfl <;> exact⟨_,rfl,by decide +kernel,by decide +kernel⟩
   obtain⟨by',hb,b0,b1⟩:=hq
   refine⟨_,rfl,_,hb,?_⟩
   walk_at "w"
   refine zt 4 ?_
   walk_at "w"
   rintro _ ⟨q,rfl,q0,q1⟩
   have hq:∃ v:Int,atI [PyData.int 0,PyData.int 0,PyData.int (0 - 17),PyData.int (10 ^ amG 11)] q=some (.int v)/\-17<=v/\v<=100000000000:=by
    have:q=0 \/ q=1 \/ q=2 \/ q=3:=by omega
    rcases this with rfl | rfl | rfl | rfl <;> exact⟨_,rfl,by decide +kernel,by decide +kernel⟩
   obtain⟨far,hf,f0,f1⟩:=hq
   refine⟨_,rfl,_,hf,?_⟩
   walk_at "w"
   refine PEdO.ped (acE (A:=lnD) (B:=fun l:Ln=>lnD (l.1,l.2.map fun p=>(p.1 * by'+far,p.2 * by' - far))) w (yM (zp rfl ⟨_,rfl,rfl,by omega,?_,?_⟩)))
   ·rintro D2 l ρ2 es2 hl ho2 hes2
    obtain⟨u,v,rfl⟩:=ho2.two
    have lo:=wo l hl
    unfold lnD
    refine jq rfl (zN (zr (zN (zr (yD (ji ?_))))))
    rw [if_pos rfl]
    refine yN hes2 ?_
    walk_at "w"
    refine PEdO.ped (acE (A:=ptD) (B:=fun p:Pt=>ptD (p.1 * by'+far,p.2 * by' - far)) l.2 (aik (zp rfl ⟨_,rfl,rfl,by have:=lo.2.1;omega,?_,?_⟩)))
    ·rintro D3 p ρ3 es3 hp ho3 hes3
     obtain⟨u3,v3,rfl⟩:=ho3.two
     obtain⟨a1,a2,a3,a4⟩:=lo.2.2 p hp
     unfold ptD
     refine jq rfl (zN (zr (zN (zr (yD (ji ?_))))))
     rw [if_pos rfl]
     refine yN hes3 ?_
     walk_at "w"
     exact⟨.mk2,rfl⟩
    ·walk_at "w"
     exact⟨.mk2,by rw [alC];rfl⟩
   ·refine⟨w.map fun l=>(l.1,l.2.map fun p=>(p.1 * by'+far,p.2 * by' - far)),by rw [alC];rfl,⟨by rw [akp];exact w1,by rw [akp];exact w9,fun l hl=>?_,fun l hl=>?_,fun l hl p hp=>?_⟩⟩
    ·obtain⟨l',hl',rfl⟩:=alf.mp hl
     dsimp only
     rw [akp]
     exact (wo l' hl').1
    ·obtain⟨l',hl',rfl⟩:=alf.mp hl
     dsimp only
     rw [akp]
     exact (wo l' hl').2.1
    ·obtain⟨l',hl',rfl⟩:=alf.mp hl
     obtain⟨p',hp',rfl⟩:=alf.mp hp
     obtain⟨a1,a2,a3,a4⟩:=(wo l' hl').2.2 p' hp'
     have e1:0<=p'.1 * by':=amk a1 (by omega)
     have e2:p'.1 * by'<=84 * 1000000000:=ank a2 b1 (by omega) (by decide)
     have e3:0<=p'.2 * by':=amk a3 (by omega)
     have e4:p'.2 * by'<=33 * 1000000000:=ank a4 b1 (by omega) (by decide)
     refine⟨?_,?_,?_,?_⟩ <;> dsimp only <;> omega
noncomputable def qx (l:Ln) (a:Nat) (p:Pt):Ln:=(l.1,l.2.take a++[p]++l.2.drop (a+1))
noncomputable def yX (w:Web) (k a:Nat) (p:Pt):Web:=w.take k++[qx (zS w k) a p]++w.drop (k+1)
theorem adS {w:Web} {k:Nat} (h:k<w.length):zS w k∈w:=by
 unfold zS
 rw [aky,akt h]
 exact ak7 h
theorem vw {l:Ln} {a:Nat} {p:Pt} (h:a<l.2.length):(qx l a p).2.length=l.2.length:=by
 unfold qx
 simp
 omega
theorem qy {w:Web} {k a:Nat} {p:Pt} (h:k<w.length):(yX w k a p).length=w.length:=by
 unfold yX
 simp
 omega
theorem afz {w:Web} {k a:Nat} {p:Pt} (h:k<w.length):zS (yX w k a p) k=qx (zS w k) a p:=by
 unfold yX
 have:(List.take k w).length=k:=by rw [akW];omega
 show (List.take k w++[qx (zS w k) a p]++List.drop (k+1) w).getD k (false,[])=_
 rw [aky,amm,akL (by omega),this,amD]
 rfl
theorem aa1 {n:Nat} {B:Int} {w:Web} {k a:Nat} {p:Pt} (hw:FarWeb n B w) (h:k<w.length) (ha:a<(zS w k).2.length) (hp:Far B p):FarWeb n B (yX w k a p):=by
 have key:∀ l∈yX w k a p,l∈w \/ l=qx (zS w k) a p:=fun l hl=>by
  unfold yX at hl
  rcases akF.mp hl with hl | hl
  ·rcases akF.mp hl with hl | hl
   ·exact .inl (amv hl)
   ·exact .inr (akO.mp hl)
  ·exact .inl (alH hl)
 have hm:=adS h
 refine⟨by rw [qy h];exact hw.one,by rw [qy h];exact hw.len,fun l hl=>?_,fun l hl=>?_,fun l hl q hq=>?_⟩
 ·rcases key l hl with hl | rfl
  ·exact hw.two l hl
  ·rw [vw ha];exact hw.two _ hm
 ·rcases key l hl with hl | rfl
  ·exact hw.few l hl
  ·rw [vw ha];exact hw.few _ hm
 ·rcases key l hl with hl | rfl
  ·exact hw.far l hl q hq
  ·unfold qx at hq
   rcases akF.mp hq with hq | hq
   ·rcases akF.mp hq with hq | hq
    ·exact hw.far _ hm q (amv hq)
    ·rw [akO.mp hq];exact hp
   ·exact hw.far _ hm q (alH hq)
theorem ag6 {w:Web} {k:Int} (h0:0<=k) (h:k<w.length):atI (w.map lnD) k=some (lnD (zS w k.toNat)):=by
 rw [j3 (j:=k.toNat) (by omega) (by omega)]
 unfold zS
 rw [aky,akt (by omega)]
 rfl
noncomputable abbrev aev (K:akq):Sp:=spD K 4 (fun (c:Web×Nat×Nat×Pt) xs=>xs=[.dat (.list (c.1.map lnD)),.dat (.int c.2.1),.dat (.int c.2.2.1),.dat (ptD c.2.2.2)]/\c.1.length<=20/\c.2.1<c.1.length/\c.2.2.1<(zS c.1 c.2.1).2.length/\(zS c.1 c.2.1).2.length<=28) fun c r=>r=.list ((yX c.1 c.2.1 c.2.2.1 c.2.2.2).map lnD)
theorem ag7 (F:Def K mg "_law_moved" jN pW):FnIn P w K mg base (k+1) "_law_moved" pW (aev K):=by
 refine F.ok sc_law_moved rfl fun fa cdv A outer s H E hr=>⟨_,(zd (yC (zf (zA (K:=K) rfl) (pv 0) (pv 1) (fun _ _=>rfl)) (zL (K:=K) (n:=2) rfl rfl (zk (zl (i:=4) sc_law_moved.nd rfl (Or.inl rfl) (Or.inr rfl)) (zk (zl (i:=5) sc_law_moved.nd rfl (Or.inl rfl) (Or.inr rfl)) zK)))) (zd (zz (i:=5) sc_law_moved.nd rfl (Or.inl rfl) (zi (acG (K:=K) rfl) (zi (acG (K:=K) rfl) (jh (ad8 (K:=K) rfl) (pv 5) jC (jD (pv 2))) (zJ (za (pv 3) zc))) (jh (ad8 (K:=K) rfl) (pv 5) (jD (zi zH (pv 2) zb)) jC))) (zh (zw (zi (yS (K:=K) rfl) (zi (yS (K:=K) rfl) (jh (jX (K:=K) rfl) (pv 0) jC (jD (pv 1))) (ya (za (zJ (za (pv 4) (za (pv 5) zc))) zc))) (jh (jX (K:=K) rfl) (pv 0) (jD (zi zH (pv 1) zb)) jC)))))),?_⟩
 rintro f xs ⟨w,k,a,p⟩ hl ⟨rfl,w20,hk,ha,h28⟩
 try dsimp only [zV,zq]
 dsimp only at *
 have hat:=ag6 (w:=w) (k:=(k:Int)) (by omega) (by omega)
 rw [akR] at hat
 walk_at "w"
 refine⟨_,hat,?_⟩
 unfold lnD at hat
 unfold lnD
 generalize hl0:zS w k=l at *
 walk_at "w"
 refine agp (agp (agq ?_))
 walk_at "w"
 refine⟨fun z=>?_,?_⟩
 ·have z2:=z.2
  rw [HT.sIx_nat,akp] at z2
  omega
 rw [adR (by omega) (by omega),akR]
 walk_at "w"
 refine⟨by rw [akp,akW];show _+1<=1000;omega,_,rfl,agq ?_⟩
 walk_at "w"
 have e1:(a:Int)+1=((a+1:Nat):Int):=by omega
 rw [e1]
 refine⟨fun z=>?_,?_⟩
 ·have z2:=z.1
  rw [HT.sIx_nat,akp] at z2
  omega
 rw [jW (by omega) (by omega),akR]
 walk_at "w"
 refine⟨by simp only [akD,akp,akW,als,ala,am5];omega,?_⟩
 rw [show (List.map ptD (List.take a l.2)++[ptD p]++List.map ptD (List.drop (a+1) l.2))=(qx l a p).2.map ptD by unfold qx;rw [akQ,akQ];rfl]
 refine zr (ye (qi (qi (agg ?_))))
 walk_at "w"
 rw [adR (by omega) (by omega),akR]
 walk_at "w"
 refine⟨by rw [akp,akW];show _+1<=1000;omega,_,rfl,agg ?_⟩
 walk_at "w"
 rw [show (k:Int)+1=((k+1:Nat):Int) by omega,jW (by omega) (by omega),akR]
 refine⟨by simp only [akD,akp,akW,als,ala,am5];omega,?_⟩
 show PyData.list _=PyData.list _
 unfold yX
 rw [hl0,akQ,akQ]
 rfl
theorem aew {ps:List Pt} {q:Int} (h0:-(ps.length:Int)<=q) (h1:q<ps.length):∃ p∈ps,atI (ps.map ptD) q=some (ptD p):=by
 by_cases hq:0<=q
 ·have hi:q.toNat<ps.length:=by omega
  exact⟨ps[q.toNat],ak7 hi,j3 (j:=q.toNat) (by omega) hi⟩
 ·have hi:(q+ps.length).toNat<ps.length:=by omega
  refine⟨ps[(q+ps.length).toNat],ak7 hi,?_⟩
  unfold atI ixN
  rw [if_neg hq,if_pos (by rw [akp];omega),akp]
  show (ps.map ptD)[_]?=_
  rw [akz,akt hi]
  rfl
theorem Far.mono {B B':Int} {p:Pt} (h:Far B p) (hb:B<=B'):Far B' p:=⟨by have:=h.1;omega,by have:=h.2.1;omega,by have:=h.2.2.1;omega,by have:=h.2.2.2;omega⟩
theorem FarWeb.mono {n n':Nat} {B B':Int} {w:Web} (h:FarWeb n B w) (hn:n<=n') (hb:B<=B'):FarWeb n' B' w:=⟨h.one,akV h.len hn,h.two,h.few,fun l hl p hp=>(h.far l hl p hp).mono hb⟩
noncomputable abbrev ac6 (K:akq):Sp:=spD K 2 (fun (c:Web) xs=>xs=[.feed,.dat (.list (c.map lnD))]/\FarWeb 9 1000000000000 c) fun c r=>∃ w:Web,r=.list (w.map lnD)/\FarWeb 10 1000000000002 w
theorem agJ {f:Fx} {ρ:zy} {D:DEnds} {tt:TT} {ts tu:TS} (h:PTd K f tt ρ fun _=>True) (h1:PSd K f ts ρ D) (h2:PSd K f tu ρ D):PSd K f (abK tt ts tu) ρ D:=jV fun σ H Q e q=>h σ H Q e fun b H' g _=>q b H' g (by cases b <;> simpa)
theorem afA (F:Def K mg "_law_spoilt" jw pX) (uaa:mg "len"=none) (uao:mg "sum"=none) (uad:FnIn P w K mg base k "_law_draw" pf (qQ K)) (uap:FnIn P w K mg base k "_law_moved" pW (aev K)):FnIn P w K mg base (k+1) "_law_spoilt" pX (ac6 K):=by
 refine F.ok sc_law_spoilt rfl fun fa cdv A outer s H E hr=>⟨_,(zd (zz (i:=2) sc_law_spoilt.nd rfl (Or.inl rfl) (zg uad hr rfl (za (pv 0) (za zb zc)))) (zd (zz (i:=3) sc_law_spoilt.nd rfl (Or.inl rfl) (zg uad hr rfl (za (pv 0) (za (zo (zE (K:=K) rfl) rfl uaa akH (za (pv 1) zc)) zc)))) (zd (zz (i:=4) sc_law_spoilt.nd rfl (Or.inl rfl) (zg uad hr rfl (za (pv 0) (za (zo (zE (K:=K) rfl) rfl uaa akH (za (zf (ze (K:=K) rfl) (zf (zA (K:=K) rfl) (pv 1) (pv 3) (fun _ _=>rfl)) zb (fun _ _=>rfl)) zc)) zc)))) (zd (zz (i:=5) sc_law_spoilt.nd rfl (Or.inl rfl) (zf (ze (K:=K) rfl) (zf (zA (K:=K) rfl) (pv 1) (zg uad hr rfl (za (pv 0) (za (zo (zE (K:=K) rfl) rfl uaa akH (za (pv 1) zc)) zc))) (fun _ _=>rfl)) zb (fun _ _=>rfl))) (zd (zz (i:=6) sc_law_spoilt.nd rfl (Or.inl rfl) (zf (ze (K:=K) rfl) (pv 5) (zg uad hr rfl (za (pv 0) (za (zo (zE (K:=K) rfl) rfl uaa akH (za (pv 5) zc)) zc))) (fun _ _=>rfl))) (zd (zz (i:=7) sc_law_spoilt.nd rfl (Or.inl rfl) (zf (ze (K:=K) rfl) (pv 5) (zg uad hr rfl (za (pv 0) (za (zo (zE (K:=K) rfl) rfl uaa akH (za (pv 5) zc)) zc))) (fun _ _=>rfl))) (zd (zX (zD (zZ (K:=K) rfl hr.units) (pv 2) zb (zB _)) (zh (zw (pv 1))) zF) (zd (zX (zD aaC (pv 2) zb (zB _)) (zh (zw (zg uap hr rfl (za (pv 1) (za (pv 3) (za (pv 4) (za (pv 6) zc))))))) zF) (zd (zX (zD (zZ (K:=K) rfl hr.units) (pv 2) zb (zB _)) (zh (zw (zg uap hr rfl (za (pv 1) (za (pv 3) (za (pv 4) (za (zf (ze (K:=K) rfl) (zf (ze (K:=K) rfl) (zf (zA (K:=K) rfl) (pv 1) (pv 3) (fun _ _=>rfl)) zb (fun _ _=>rfl)) (zi zI (pv 4) zb) (fun _ _=>rfl)) zc))))))) zF) (zd (zX (zD (zZ (K:=K) rfl hr.units) (pv 2) zb (zB _)) (zh (zw (zg uap hr rfl (za (pv 1) (za (pv 3) (za (pv 4) (za (zJ (za (zi qL (zi zH (zf (ze (K:=K) rfl) (pv 6) zb (fun _ _=>rfl)) (zf (ze (K:=K) rfl) (pv 7) zb (fun _ _=>rfl))) zb) (za (zi qL (zi zH (zf (ze (K:=K) rfl) (pv 6) zb (fun _ _=>rfl)) (zf (ze (K:=K) rfl) (pv 7) zb (fun _ _=>rfl))) zb) zc))) zc))))))) zF) (zd (zz (i:=8) sc_law_spoilt.nd rfl (Or.inl rfl) (zJ (za (zi zI (zi zH (zf (ze (K:=K) rfl) (pv 6) zb (fun _ _=>rfl)) (zg uad hr rfl (za (pv 0) (za zb zc)))) zb) (za (zi zI (zi zH (zf (ze (K:=K) rfl) (pv 7) zb (fun _ _=>rfl)) (zg uad hr rfl (za (pv 0) (za zb zc)))) zb) zc)))) (zd (zX (PW.pt (qF (zD (zZ (K:=K) rfl hr.units) (pv 2) zb (zB _)) (qR (zD jB (zi zH (zo (aaQ (K:=K) rfl rfl) rfl uao am9 (za (yx (N:=pG) (own:=2) (fr:=[]) ⟨rfl,by decide +kernel,of_decide_eq_true (by kernel_rfl),of_decide_eq_true (by kernel_rfl),of_decide_eq_true (by kernel_rfl),rfl⟩ rfl (yd (K:=K) rfl (pv 1)) (fun _ _ _ _=>(zL (K:=K) (n:=2) rfl rfl (zk (zl (i:=0) (show (pG:List Str).Nodup by decide +kernel) rfl (Or.inl rfl) (Or.inr rfl)) (zk (zl (i:=1) (show (pG:List Str).Nodup by decide +kernel) rfl (Or.inl rfl) (Or.inr rfl)) zK)))) (fun _ _ _ _=>yi) (fun _ _ _ _=>(zo (zE (K:=K) rfl) rfl uaa akH (za (pv 1) zc))) rfl rfl (fun _=>rfl)) zc)) (zo (zE (K:=K) rfl) rfl uaa akH (za (zf (ze (K:=K) rfl) (zf (zA (K:=K) rfl) (pv 1) (pv 3) (fun _ _=>rfl)) zb (fun _ _=>rfl)) zc))) zb (zB _))))) (zh (zw (zi (yS (K:=K) rfl) (pv 1) (ya (za (zf (zA (K:=K) rfl) (pv 1) (pv 3) (fun _ _=>rfl)) zc))))) zF) (zd (zX (zD aaC (pv 2) zb (zB _)) (zh (zw (zg uap hr rfl (za (pv 1) (za (pv 3) (za (pv 4) (za (pv 8) zc))))))) zF) (zd (zz (i:=9) sc_law_spoilt.nd rfl (Or.inl rfl) (zi jj (zi zI (pv 4) zb) (zo (zE (K:=K) rfl) rfl uaa akH (za (zf (ze (K:=K) rfl) (zf (zA (K:=K) rfl) (pv 1) (pv 3) (fun _ _=>rfl)) zb (fun _ _=>rfl)) zc)))) (zh (zw (zg uap hr rfl (za (zg uap hr rfl (za (pv 1) (za (pv 3) (za (pv 4) (za (zf (ze (K:=K) rfl) (zf (ze (K:=K) rfl) (zf (zA (K:=K) rfl) (pv 1) (pv 3) (fun _ _=>rfl)) zb (fun _ _=>rfl)) (zi zI (pv 4) zb) (fun _ _=>rfl)) zc))))) (za (pv 3) (za (pv 9) (za (pv 8) zc))))))))))))))))))))),?_⟩
 rintro f xs w hl ⟨rfl,hw⟩
 try dsimp only [zV,zq]
 try dsimp only at *
 have w1:=hw.one
 have w9:=hw.len
 have hw':FarWeb 10 1000000000002 w:=hw.mono (by decide) (by decide)
 have lm:(w.map lnD).length=w.length:=akp _
 refine zM (zR (zt 8 ?_))
 walk_at "w"
 rintro _ ⟨way,rfl,y0,y1⟩
 refine zr (zM (zR (zt ((w.map lnD).length:Int) ?_)))
 walk_at "w"
 rintro _ ⟨kk,rfl,k0,k1⟩
 have hk:kk.toNat<w.length:=by omega
 obtain⟨kn,rfl⟩:∃ kn:Nat,kk=(kn:Int):=⟨kk.toNat,by omega⟩
 rw [akR] at hk
 have hat:=ag6 (w:=w) (k:=(kn:Int)) (by omega) (by omega)
 rw [akR] at hat
 have hm:=adS hk
 have l2:=hw.two _ hm
 have l28:=hw.few _ hm
 have lf:=hw.far _ hm
 have lml:((zS w kn).2.map ptD).length=(zS w kn).2.length:=akp _
 refine zr (zM (zR (zt (((zS w kn).2.map ptD).length:Int) ?_)))
 walk_at "w"
 refine⟨_,hat,_,rfl,?_⟩
 walk_at "w"
 rintro _ ⟨aa,rfl,a0,a1⟩
 obtain⟨an,rfl⟩:∃ an:Nat,aa=(an:Int):=⟨aa.toNat,by omega⟩
 have han:an<(zS w kn).2.length:=by omega
 refine zr (zM (zR ?_))
 walk_at "w"
 refine zt ((w.map lnD).length:Int) ?_
 walk_at "w"
 rintro _ ⟨rr,rfl,r0,r1⟩
 have hat2:=ag6 (w:=w) (k:=rr) (by omega) (by omega)
 have hm2:=adS (w:=w) (k:=rr.toNat) (by omega)
 have m2:=hw.two _ hm2
 have m28:=hw.few _ hm2
 have mf:=hw.far _ hm2
 refine⟨_,rfl,_,hat2,_,rfl,?_⟩
 generalize zS w rr.toNat=rl at hat2 hm2 m2 m28 mf
 have mml:(rl.2.map ptD).length=rl.2.length:=akp _
 walk_at "w"
 refine zt ((rl.2.map ptD).length:Int) ?_
 walk_at "w"
 rintro _ ⟨u1,rfl,u10,u11⟩
 obtain⟨one,hone,eone⟩:=aew (ps:=rl.2) (q:=u1) (by omega) (by omega)
 refine⟨_,rfl,_,eone,?_⟩
 walk_at "w"
 refine zt ((rl.2.map ptD).length:Int) ?_
 walk_at "w"
 rintro _ ⟨u2,rfl,u20,u21⟩
 obtain⟨oth,hoth,eoth⟩:=aew (ps:=rl.2) (q:=u2) (by omega) (by omega)
 refine⟨_,rfl,_,eoth,?_⟩
 have fone:=mf one hone
 have foth:=mf oth hoth
 obtain⟨o1,o2,o3,o4⟩:=mf one hone
 obtain⟨v1,v2,v3,v4⟩:=mf oth hoth
 have mv:∀ p:Pt,Far 1000000000002 p->FarWeb 10 1000000000002 (yX w kn an p):=fun p hp=>aa1 hw' hk han hp
 walk_at "w"
 refine zQ (fun h=>?_) fun h=>?_
 ·walk_at "w"
  exact hw'
 walk_at "w"
 refine zQ (fun h=>?_) fun h=>?_
 ·refine ye (zt (w,kn,an,one) ?_)
  walk_at "w"
  refine⟨⟨rfl,by dsimp only;omega,hk,han,l28⟩,?_⟩
  rintro _ rfl
  exact⟨_,rfl,mv _ (fone.mono (by decide))⟩
 walk_at "w"
 refine zQ (fun h=>?_) fun h=>?_
 ·obtain⟨p3,hp3,ep3⟩:=aew (ps:=(zS w kn).2) (q:=(an:Int) - 1) (by omega) (by omega)
  refine ye (zt (w,kn,an,p3) ?_)
  walk_at "w"
  refine⟨_,hat,_,rfl,?_⟩
  walk_at "w"
  refine⟨_,ep3,?_⟩
  walk_at "w"
  refine⟨⟨rfl,by dsimp only;omega,hk,han,l28⟩,?_⟩
  rintro _ rfl
  exact⟨_,rfl,mv _ ((lf p3 hp3).mono (by decide))⟩
 walk_at "w"
 refine zQ (fun h=>?_) fun h=>?_
 ·refine ye (zt (w,kn,an,((one.1+oth.1) / 2,(one.2+oth.2) / 2)) ?_)
  unfold ptD
  walk_at "w"
  refine⟨⟨rfl,by dsimp only;omega,hk,han,l28⟩,?_⟩
  rintro _ rfl
  exact⟨_,rfl,mv _ ⟨by dsimp only;omega,by dsimp only;omega,by dsimp only;omega,by dsimp only;omega⟩⟩
 walk_at "w"
 refine zt 5 ?_
 walk_at "w"
 rintro _ ⟨z1,rfl,z10,z11⟩
 walk_at "w"
 refine zt 5 ?_
 walk_at "w"
 rintro _ ⟨z2,rfl,z20,z21⟩
 refine⟨_,rfl,_,rfl,jU ⟨_,rfl,zY ⟨_,rfl,by simp,?_⟩⟩⟩
 have fpt:Far 1000000000002 (one.1+z1 - 2,oth.2+z2 - 2):=⟨by dsimp only;omega,by dsimp only;omega,by dsimp only;omega,by dsimp only;omega⟩
 refine zr (zM (agJ ?_ ?_ ?_))
 ·walk_at "w"
  refine zQ (fun _=>?_) fun _=>trivial
  refine yL (abw (aaK (aio (PEdO.ped (acE (A:=lnD) (B:=fun l:Ln=>PyData.int (l.2.length:Int)) w (yM (zp rfl ⟨_,rfl,rfl,by omega,?_,?_⟩)))))))
  ·rintro D2 l ρ2 es2 hl ho2 hes2
   obtain⟨u,v,rfl⟩:=ho2.two
   unfold lnD
   refine jq rfl (zN (zr (zN (zr (yD (ji ?_))))))
   rw [if_pos rfl]
   refine yN hes2 ?_
   walk_at "w"
   rw [akp]
   exact⟨.mk2,rfl⟩
  ·refine⟨w.map fun l=>(l.2.length:Int),by rw [alC];rfl,?_⟩
   walk_at "w"
   refine⟨_,hat,_,rfl,?_⟩
   walk_at "w"
   trivial
 ·refine ye (qi (zp rfl ⟨_,rfl,aij ?_⟩))
  walk_at "w"
  refine⟨_,hat,?_⟩
  walk_at "w"
  refine⟨by rw [lm];show w.length+1<=1000;omega,w++[zS w kn],by rw [akQ];rfl,?_⟩
  have key:∀ l∈w++[zS w kn],l∈w:=fun l hl=>by
   rcases akF.mp hl with hl | hl
   ·exact hl
   ·rw [akO.mp hl];exact hm
  exact⟨by rw [akD];omega,by rw [akD];show w.length+1<=10;omega,fun l hl=>hw'.two l (key l hl),fun l hl=>hw'.few l (key l hl),fun l hl=>hw'.far l (key l hl)⟩
 ·refine yc (zM (agJ ?_ ?_ ?_))
  ·walk_at "w"
   trivial
  ·refine ye (zt (w,kn,an,(one.1+z1 - 2,oth.2+z2 - 2)) ?_)
   walk_at "w"
   refine⟨⟨rfl,by dsimp only;omega,hk,han,l28⟩,?_⟩
   rintro _ rfl
   exact⟨_,rfl,mv _ fpt⟩
  ·refine yc (zM (zR ?_))
   walk_at "w"
   refine⟨_,hat,_,rfl,?_⟩
   walk_at "w"
   have e0:=alV ((an:Int) - 1) (b:=(((zS w kn).2.map ptD).length:Int)) (by omega)
   have e1:=alj ((an:Int) - 1) (b:=(((zS w kn).2.map ptD).length:Int)) (by omega)
   obtain⟨bn,hbn⟩:∃ bn:Nat,((an:Int) - 1) % (((zS w kn).2.map ptD).length:Int)=(bn:Int):=⟨_,(Int.toNat_of_nonneg e0).symm⟩
   rw [hbn] at e0 e1 ⊢
   obtain⟨p4,hp4,ep4⟩:=aew (ps:=(zS w kn).2) (q:=(an:Int) - 2) (by omega) (by omega)
   have fw:=mv p4 ((lf p4 hp4).mono (by decide))
   have hk2:kn<(yX w kn an p4).length:=by rw [qy hk];exact hk
   have hl2:(zS (yX w kn an p4) kn).2.length=(zS w kn).2.length:=by rw [afz hk,vw han]
   have hbl:bn<(zS w kn).2.length:=by omega
   have hbl2:bn<(zS (yX w kn an p4) kn).2.length:=by rw [hl2];exact hbl
   refine zt (yX w kn an p4,kn,bn,(one.1+z1 - 2,oth.2+z2 - 2)) (zu (zt (w,kn,an,p4) ?_))
   walk_at "w"
   refine⟨_,hat,_,rfl,?_⟩
   walk_at "w"
   refine⟨_,ep4,?_⟩
   walk_at "w"
   refine⟨⟨rfl,by dsimp only;omega,hk,han,l28⟩,?_⟩
   rintro _ rfl
   walk_at "w"
   refine⟨⟨rfl,by dsimp only;rw [qy hk];omega,hk2,hbl2,by dsimp only;rw [hl2];omega⟩,?_⟩
   rintro _ rfl
   exact⟨_,rfl,aa1 fw hk2 hbl2 fpt⟩
theorem jS {α:Type} {F:α->PyData} {xs:List α} {q:Int} (h0:-(xs.length:Int)<=q) (h1:q<xs.length):∃ x∈xs,atI (xs.map F) q=some (F x):=by
 unfold atI ixN
 by_cases hq:0<=q
 ·have hi:q.toNat<xs.length:=by omega
  refine⟨xs[q.toNat],ak7 hi,?_⟩
  rw [if_pos hq,if_pos (by rw [akp];omega)]
  show (xs.map F)[_]?=_
  rw [akz,akt hi]
  rfl
 ·have hi:(q+xs.length).toNat<xs.length:=by omega
  refine⟨xs[(q+xs.length).toNat],ak7 hi,?_⟩
  rw [if_neg hq,if_pos (by rw [akp];omega),akp]
  show (xs.map F)[_]?=_
  rw [akz,akt hi]
  rfl
theorem aa2:∀ {ns:List Int} {i:Int},i∈ns->∃ j:Nat,ns[j]?=some i/\∀ q:Nat,q<j->ns[q]?≠some i
 | n :: ns,i,h=>by
  by_cases e:n=i
  ·exact⟨0,by rw [e];rfl,fun q hq=>absurd hq (Nat.not_lt_zero _)⟩
  ·obtain⟨j,h1,h2⟩:=aa2 (List.mem_of_ne_of_mem (alo e) h)
   refine⟨j+1,h1,fun q hq=>?_⟩
   cases q with
   | zero=>exact fun z=>e (Option.some.inj z)
   | succ q=>exact h2 q (by omega)
noncomputable abbrev aex (r:PyData):Prop:=∃ b:Bool,r=.bool b
noncomputable abbrev aey (K:akq):Sp:=spD K 4 (fun (c:Pt×Pt×Pt×Pt×Int) xs=>xs=[.dat (ptD c.2.1),.dat (ptD c.2.2.1),.dat (ptD c.2.2.2.1),.dat (.int c.2.2.2.2)]/\Near c.1 c.2.1/\Near c.1 c.2.2.1/\Near c.1 c.2.2.2.1/\0<=c.2.2.2.2/\c.2.2.2.2<=1000000) fun c r=>aex r
theorem acm (F:Def K mg "lies_near" jG pK) (uah:FnIn P w K mg base k "turn" pq (yI K)):FnIn P w K mg base (k+1) "lies_near" pK (aey K):=by
 refine F.ok sc_lies_near rfl fun fa cdv A outer s H E hr=>⟨_,(zd (yC (zJ (za (pv 0) (za (pv 1) (za (pv 2) zc)))) (zL (K:=K) (n:=3) rfl rfl (zk (zL (K:=K) (n:=2) rfl rfl (zk (zl (i:=4) sc_lies_near.nd rfl (Or.inl rfl) (Or.inr rfl)) (zk (zl (i:=5) sc_lies_near.nd rfl (Or.inl rfl) (Or.inr rfl)) zK))) (zk (zL (K:=K) (n:=2) rfl rfl (zk (zl (i:=6) sc_lies_near.nd rfl (Or.inl rfl) (Or.inr rfl)) (zk (zl (i:=7) sc_lies_near.nd rfl (Or.inl rfl) (Or.inr rfl)) zK))) (zk (zL (K:=K) (n:=2) rfl rfl (zk (zl (i:=8) sc_lies_near.nd rfl (Or.inl rfl) (Or.inr rfl)) (zk (zl (i:=9) sc_lies_near.nd rfl (Or.inl rfl) (Or.inr rfl)) zK))) zK))))) (zd (zz (i:=10) sc_lies_near.nd rfl (Or.inl rfl) (zi zH (zi jc (zi zI (pv 8) (pv 6)) zb) (zi jc (zi zI (pv 9) (pv 7)) zb))) (zd (zz (i:=11) sc_lies_near.nd rfl (Or.inl rfl) (zi zH (zi yu (zi zI (pv 4) (pv 6)) (zi zI (pv 8) (pv 6))) (zi yu (zi zI (pv 5) (pv 7)) (zi zI (pv 9) (pv 7))))) (zd (zX (zD jB (pv 11) zb (zB _)) (zh (zw (z8 jB (zi zH (zi jc (zi zI (pv 4) (pv 6)) zb) (zi jc (zi zI (pv 5) (pv 7)) zb)) (zi jc (pv 3) zb) (zB _)))) zF) (zd (zX (zD aif (pv 11) (pv 10) (zB _)) (zh (zw (z8 jB (zi zH (zi jc (zi zI (pv 4) (pv 8)) zb) (zi jc (zi zI (pv 5) (pv 9)) zb)) (zi jc (pv 3) zb) (zB _)))) zF) (zh (zw (z8 jB (zi jc (zg uah hr rfl (za (pv 1) (za (pv 2) (za (pv 0) zc)))) zb) (zi yu (zi jc (pv 3) zb) (pv 10)) (zB _))))))))),?_⟩
 rintro f xs ⟨o,p,a,b,m⟩ hl ⟨rfl,np,na,nb,m0,m1⟩
 have np':=np
 have na':=na
 have nb':=nb
 obtain⟨p1,p2,p3,p4⟩:=np'
 obtain⟨a1,a2,a3,a4⟩:=na'
 obtain⟨b1,b2,b3,b4⟩:=nb'
 try dsimp only [zV,zq]
 unfold ptD
 dsimp only at *
 walk_at "w"
 have ms:0<=m ^ amG 2/\m ^ amG 2<=1000000000000:=by
  rw [show amG 2=2 from rfl,Int.pow_succ,Int.pow_succ,Int.pow_zero,Int.one_mul]
  have h2:=bnd (B:=1000000) (x:=m) (y:=m) (by omega) m1 (by omega) m1
  exact⟨amk m0 m0,by omega⟩
 refine zQ (fun h=>?_) fun h=>?_
 ·walk_at "w"
  exact⟨_,rfl⟩
 ·walk_at "w"
  refine zQ (fun h=>?_) fun h=>?_
  ·walk_at "w"
   exact⟨_,rfl⟩
  ·walk_at "w"
   refine zt (o,a,b,p) ?_
   walk_at "w"
   rintro _ rfl
   have ts:=jz na nb np
   refine⟨_,rfl,jU ⟨_,rfl,⟨rfl,by dsimp only;omega⟩,_,rfl,?_⟩⟩
   walk_at "w"
   exact⟨_,rfl⟩
noncomputable abbrev aez (K:akq):Sp:=spD K 3 (fun (c:Bool×List Int×Int) xs=>xs=[.dat (.str (qO c.1)),.dat (.list (c.2.1.map .int)),.dat (.int c.2.2)]/\c.2.1≠[]/\c.2.1.length<=40) fun c r=>aex r
theorem ac7 (F:Def K mg "is_spare" qq pz) (uaa:mg "len"=none):FnIn P w K mg base (k+1) "is_spare" pz (aez K):=by
 refine F.ok acR rfl fun fa cdv A outer s H E hr=>⟨_,(zd (zX (zD (zZ (K:=K) rfl hr.units) (pv 0) yJ (zB _)) (zh (zw (z8 aac (zo (zE (K:=K) rfl) rfl uaa akH (za (pv 1) zc)) zb (zB _)))) zF) (zh (zw (z8 (aeX (K:=K) rfl) (pv 2) (zJ (za (zf (zA (K:=K) rfl) (pv 1) zb (fun _ _=>rfl)) (za (zf (zA (K:=K) rfl) (pv 1) (aie afQ zb) (fun _ _=>rfl)) zc))) rfl)))),?_⟩
 rintro f xs ⟨b,so,i⟩ hl ⟨rfl,ne,few⟩
 try dsimp only [zV,zq]
 dsimp only at *
 walk_at "w"
 refine⟨by cases b <;> decide +kernel,by decide +kernel,by cases b <;> decide +kernel,_,rfl,?_⟩
 refine zQ (fun h=>?_) fun h=>?_
 ·walk_at "w"
  exact⟨_,rfl⟩
 ·refine yc (ye (agk (zp rfl ⟨_,rfl,?_⟩)))
  have l0:0<so.length:=amy.mpr ne
  obtain⟨x,_,hx⟩:=jS (F:=PyData.int) (xs:=so) (q:=0) (by omega) (by omega)
  obtain⟨y,_,hy⟩:=jS (F:=PyData.int) (xs:=so) (q:=-1) (by omega) (by omega)
  refine vh (zu (vB (zp rfl ⟨_,rfl,jU ⟨_,rfl,_,hx,zu (vB (zp rfl ⟨_,rfl,aim (jU ⟨_,rfl,_,rfl,_,hy,zY ?_⟩)⟩))⟩⟩)))
  exact⟨[PyData.int x,PyData.int y],rfl,ak1 rfl,[x,y],rfl,_,rfl⟩
noncomputable abbrev ac8 (K:akq):Sp:=spD K 2 (fun (c:List Int×Int) xs=>xs=[.dat (.list (c.1.map .int)),.dat (.int c.2)]/\c.2∈c.1/\c.1.length<=40) fun c r=>∃ x y,r=.tuple [.int x,.int y]/\x∈c.1/\y∈c.1
theorem aa3 (F:Def K mg "kept_beside" je pO) (uaa:mg "len"=none):FnIn P w K mg base (k+1) "kept_beside" pO (ac8 K):=by
 refine F.ok sc_kept_beside rfl fun fa cdv A outer s H E hr=>⟨_,(zd (zz (i:=2) sc_kept_beside.nd rfl (Or.inl rfl) (abt aln PySem.F.slot_list_index PySem.F.type_list_index (adw (K:=K) rfl hr.units) (pv 0) (za (pv 1) zc))) (zh (zw (zJ (za (zf (zA (K:=K) rfl) (pv 0) (zi zI (pv 2) zb) (fun _ _=>rfl)) (za (zf (zA (K:=K) rfl) (pv 0) (zi jj (zi zH (pv 2) zb) (zo (zE (K:=K) rfl) rfl uaa akH (za (pv 0) zc))) (fun _ _=>rfl)) zc)))))),?_⟩
 rintro f xs ⟨so,i⟩ hl ⟨rfl,im,few⟩
 try dsimp only [zV,zq]
 dsimp only at *
 walk_at "w"
 obtain⟨j,hj,hno⟩:=aa2 im
 have hjl:j<so.length:=(aks.mp hj).1
 refine agt (zp rfl ⟨_,rfl,zp rfl ⟨j,rfl,?_,by show 0<=50;decide,by rw [akp];omega,?_,fun m hm=>?_,?_⟩⟩)
 ·intro e he
  obtain⟨x,_,rfl⟩:=alf.mp he
  rfl
 ·rw [alC,akz,hj]
  show some (decide (i=i))=_
  rw [decide_eq_true rfl]
 ·rw [alC,akz,akt (by omega)]
  show some (decide (so[m]=i))=_
  rw [decide_eq_false fun z=>hno m hm (by rw [akt (by omega),z])]
 obtain⟨x,mx,hx⟩:=jS (F:=PyData.int) (xs:=so) (q:=(j:Int) - 1) (by omega) (by omega)
 have hp:(0:Int)<so.length:=by omega
 obtain⟨y,my,hy⟩:=jS (F:=PyData.int) (xs:=so) (q:=((j:Int)+1) % (so.length:Int)) (by have:=alV ((j:Int)+1) (Int.ne_of_gt hp);omega) (alj _ hp)
 refine zr (ye (vh (zu (vB (zp rfl ⟨_,rfl,aaK (zp rfl ⟨_,rfl,jU ⟨_,rfl,_,rfl,_,hx,zu (vB (zp rfl ⟨_,rfl,?_⟩))⟩⟩)⟩)))))
 refine vV (aaK (zp rfl ⟨_,rfl,jU ⟨_,rfl,_,rfl,?_⟩⟩))
 walk_at "w"
 rw [akp]
 exact⟨hp,_,rfl,_,hy,zY ⟨_,rfl,ak1 rfl,x,y,rfl,mx,my⟩⟩
noncomputable abbrev abD (K:akq):Sp:=spD K 3 (fun (c:Int×Int×Nat) xs=>xs=[.dat (.int c.1),.dat (.int c.2.1),.dat (.int c.2.2)]/\0<c.2.2/\c.2.2<=40) fun c r=>∃ ns:List Int,r=.list (ns.map .int)/\∀ n∈ns,0<=n/\n<c.2.2
theorem vx (F:Def K mg "indexes_between" yw pA) (uac:mg "range"=none):FnIn P w K mg base (k+1) "indexes_between" pA (abD K):=by
 refine F.ok vq rfl fun fa cdv A outer s H E hr=>⟨_,(zh (zw (yx (N:=["step","ahead","many"]) (own:=1) (fr:=[0,2]) ⟨rfl,by decide +kernel,of_decide_eq_true (by kernel_rfl),of_decide_eq_true (by kernel_rfl),of_decide_eq_true (by kernel_rfl),rfl⟩ rfl (aeI rfl uac (za zb (za (zi jj (zi zI (pv 1) (pv 0)) (pv 2)) zc))) (fun _ _ _ _=>(zl (i:=0) (show (["step","ahead","many"]:List Str).Nodup by decide +kernel) rfl (Or.inl rfl) (Or.inr rfl))) (fun _ _ _ _=>yi) (fun _ _ _ _=>(zi jj (zi zH (pv 1) (pv 0)) (pv 2))) rfl rfl (fun _=>rfl)))),?_⟩
 rintro f xs ⟨x,y,n⟩ hl ⟨rfl,n0,n1⟩
 try dsimp only [zV,zq]
 dsimp only at *
 have hm:=alV (y - x) (b:=(n:Int)) (by omega)
 have hm2:=alj (y - x) (b:=(n:Int)) (by omega)
 refine ye (PEdO.ped (jQ (agb (zu (jU (zu (vV (aaK (zp rfl ⟨_,rfl,zp rfl ⟨_,rfl,_,rfl,zp rfl ⟨_,rfl,by omega,zY ⟨_,_,rfl,⟨by decide,by decide,by omega,by omega⟩,fun i ρ es=>(∃ v,ρ=[v,some (.dat (.int x)),some (.dat (.int n))])/\∃ ns:List Int,es=ns.map .int/\ns.length=i/\∀ q∈ns,0<=q/\q<n,⟨⟨_,rfl⟩,[],rfl,rfl,by simp⟩,?_,?_⟩⟩⟩⟩)))))))))
 ·rintro D i d ρ' es hd ⟨⟨v,rfl⟩,ns,rfl,hn,hall⟩
  refine zr (ji ?_)
  rw [if_pos rfl]
  unfold vC at hd
  rw [akz] at hd
  obtain⟨z,rfl,hi⟩:∃ z:Int,d=.int z/\i<40:=by
   cases e:(alc ((y - x) % (n:Int) - 1).toNat)[i]? with
   | none=>rw [e] at hd;cases hd
   | some z =>
    rw [e] at hd
    cases hd
    have:=(aks.mp e).1
    rw [alh] at this
    exact⟨_,rfl,by omega⟩
  have q0:=alV (x+z) (b:=(n:Int)) (by omega)
  have q1:=alj (x+z) (b:=(n:Int)) (by omega)
  refine yN (by rw [akp];omega) (vV (aaK (zp rfl ⟨_,rfl,zp rfl ⟨_,rfl,_,rfl,zp rfl ⟨_,rfl,by omega,⟨⟨_,rfl⟩,ns++[(x+z) % (n:Int)],by rw [akQ];rfl,by rw [akD,hn];rfl,fun q hq=>?_⟩⟩⟩⟩)))
  rcases akF.mp hq with hq | hq
  ·exact hall q hq
  ·rw [akO.mp hq]
   exact⟨q0,q1⟩
 ·rintro ρ' es ⟨_,ns,rfl,_,hall⟩
  exact⟨ns,rfl,hall⟩
noncomputable abbrev aeA (K:akq):Sp:=spD K 2 (fun (c:Pt×Pt×Pt×Pt×Pt) xs=>xs=[.dat (ptD c.2.1),.dat (.tuple [ptD c.2.2.1,ptD c.2.2.2.1,ptD c.2.2.2.2])]/\Near c.1 c.2.1/\Near c.1 c.2.2.1/\Near c.1 c.2.2.2.1/\Near c.1 c.2.2.2.2) fun c r=>aex r
theorem aa4 {f:Fx} {ρ:zy} {p a b c:Pt} {R:List PyData->Prop} (h0:ρ[0]?=some (some (.dat (ptD p)))) (h1:ρ[2]?=some (some (.dat (ptD a)))) (h2:ρ[3]?=some (some (.dat (ptD b)))) (h3:ρ[4]?=some (some (.dat (ptD c)))) (h:∀ bs:List Bool,R (bs.map .bool)) :
  PEdO K f (vg (ahi K (aiN (zG (tC (V.int 0)) (zG (tC (V.int 1)) yR)))) 1 [0,2,3,4] (qG 0) af0 fun D=>aag D (abM (rI0 fun i j=>V.bl (decide (i<=j))) (rI0 fun i j=>V.bl (decide (i<=j))) (tCB afi (zG (tOp (jA K) (zO 2) (zO 0)) (zG (tOp (jA K) (zO 3) (zO 0)) (zG (tOp (jA K) (zO 4) (zO 0)) yR)))) (tOp (jA K) (zO 1) (zO 0)) (tCB afi (zG (tOp (jA K) (zO 2) (zO 0)) (zG (tOp (jA K) (zO 3) (zO 0)) (zG (tOp (jA K) (zO 4) (zO 0)) yR)))))) ρ R:=by
 refine jQ (aik (vh (zu (jU (zu (jU (zY ⟨_,rfl,ak1 rfl,_,rfl,fun i ρ' es=>(∃ v,ρ'=[v,some (.dat (ptD p)),some (.dat (ptD a)),some (.dat (ptD b)),some (.dat (ptD c))])/\∃ bs:List Bool,es=bs.map .bool/\bs.length=i,⟨⟨none,?_⟩,[],rfl,rfl⟩,?_,?_⟩)))))))
 ·unfold qK frD
  simp only [alJ,anx,h0,h1,h2,h3]
  rfl
 ·rintro D i d ρ' es hd ⟨⟨v,rfl⟩,bs,rfl,hb⟩
  obtain⟨z,rfl,hz,hi⟩:∃ z:Nat,d=.int (z:Int)/\z<2/\i<2:=by
   match i,hd with
   | 0,hd=>cases hd;exact⟨0,rfl,by decide,by decide⟩
   | 1,hd=>cases hd;exact⟨1,rfl,by decide,by decide⟩
  refine zr (ji ?_)
  rw [if_pos rfl]
  refine yN (by rw [akp];omega) ?_
  have mm:∀ {P:PyData->Prop},(∀ m:Int,P (.int m))->PEd K (f.with D) (tCB afi (zG (tOp (jA K) (zO 2) (zO 0)) (zG (tOp (jA K) (zO 3) (zO 0)) (zG (tOp (jA K) (zO 4) (zO 0)) yR)))) ([v,some (DV.dat (ptD p)),some (DV.dat (ptD a)),some (DV.dat (ptD b)),some (DV.dat (ptD c))].set 0 (some (DV.dat (PyData.int z)))) P:=fun hP =>
   aj8 (zu (qJ (zp rfl ⟨_,rfl,zp rfl ⟨_,rfl,_,aan hz,zu (qJ (zp rfl ⟨_,rfl,zp rfl ⟨_,rfl,_,aan hz,zu (qJ (zp rfl ⟨_,rfl,zp rfl ⟨_,rfl,_,aan hz,zY ⟨_,_,_,rfl,hP⟩⟩⟩))⟩⟩))⟩⟩)))
  have go:∀ x:Bool,True/\∃ bs':List Bool,bs.map PyData.bool++[PyData.bool x]=bs'.map .bool/\bs'.length=i+1:=fun x=>⟨trivial,bs++[x],by rw [akQ];rfl,by rw [akD,hb];rfl⟩
  walk_at "w"
  refine mm fun m=>⟨m,rfl,qJ (zp rfl ⟨_,rfl,zp rfl ⟨_,rfl,_,aan hz,_,rfl,?_⟩⟩)⟩
  refine zQ (fun h=>?_) fun h=>?_
  ·exact mm fun m2=>⟨m2,rfl,⟨_,rfl⟩,(go _).2⟩
  ·exact⟨⟨_,rfl⟩,(go _).2⟩
 ·rintro ρ' es ⟨_,bs,rfl,_⟩
  exact h bs
theorem aaa (F:Def K mg "lies_in_field" yH pw) (uae:mg "min"=none) (uaf:mg "max"=none) (uaG:mg "all"=none) (uah:FnIn P w K mg base k "turn" pq (yI K)):FnIn P w K mg base (k+1) "lies_in_field" pw (aeA K):=by
 refine F.ok sc_lies_in_field rfl fun fa cdv A outer s H E hr=>⟨_,(zd (yC (pv 1) (zL (K:=K) (n:=3) rfl rfl (zk (zl (i:=2) sc_lies_in_field.nd rfl (Or.inr rfl) (Or.inl rfl)) (zk (zl (i:=3) sc_lies_in_field.nd rfl (Or.inr rfl) (Or.inl rfl)) (zk (zl (i:=4) sc_lies_in_field.nd rfl (Or.inr rfl) (Or.inl rfl)) zK))))) (zd (zz (i:=5) sc_lies_in_field.nd rfl (Or.inl rfl) (ya (za (zg uah hr rfl (za (pv 2) (za (pv 3) (za (pv 0) zc)))) (za (zg uah hr rfl (za (pv 3) (za (pv 4) (za (pv 0) zc)))) (za (zg uah hr rfl (za (pv 4) (za (pv 2) (za (pv 0) zc)))) zc))))) (zd (zX (afR aaC aaC (zo (aeQ (K:=K) rfl rfl) rfl uae boot_min (za (pv 5) zc)) zb (zo (aeR (K:=K) rfl rfl) rfl uaf boot_max (za (pv 5) zc))) (zh (zw qE)) zF) (zh (zw (zo (aeV (K:=K) rfl rfl) rfl uaG PyProof.Rows.boot_all (za (yx (N:=["axis","point","a","b","c"]) (own:=1) (fr:=[0,2,3,4]) ⟨rfl,by decide +kernel,of_decide_eq_true (by kernel_rfl),of_decide_eq_true (by kernel_rfl),of_decide_eq_true (by kernel_rfl),rfl⟩ rfl (ad3 (K:=K) rfl (zJ (za zb (za zb zc)))) (fun _ _ _ _=>(zl (i:=0) (show (["axis","point","a","b","c"]:List Str).Nodup by decide +kernel) rfl (Or.inl rfl) (Or.inr rfl))) (fun _ _ _ _=>yi) (fun _ _ _ _=>(aaE jB jB (zo (afk rfl) rfl uae boot_min (za (zf (ze (K:=K) rfl) (pv 2) (pv 0) (fun _ _=>rfl)) (za (zf (ze (K:=K) rfl) (pv 3) (pv 0) (fun _ _=>rfl)) (za (zf (ze (K:=K) rfl) (pv 4) (pv 0) (fun _ _=>rfl)) zc)))) (zf (ze (K:=K) rfl) (pv 1) (pv 0) (fun _ _=>rfl)) (zo (afj rfl) rfl uaf boot_max (za (zf (ze (K:=K) rfl) (pv 2) (pv 0) (fun _ _=>rfl)) (za (zf (ze (K:=K) rfl) (pv 3) (pv 0) (fun _ _=>rfl)) (za (zf (ze (K:=K) rfl) (pv 4) (pv 0) (fun _ _=>rfl)) zc)))))) rfl rfl (fun _=>rfl)) zc))))))),?_⟩
 rintro f xs ⟨o,p,a,b,c⟩ hl ⟨rfl,np,na,nb,nc⟩
 try dsimp only [zV,zq]
 dsimp only at *
 walk_at "w"
 refine zt (o,a,b,p) ?_
 walk_at "w"
 rintro _ rfl
 refine zu (zt (o,b,c,p) ?_)
 walk_at "w"
 rintro _ rfl
 refine zu (zt (o,c,a,p) ?_)
 walk_at "w"
 rintro _ rfl
 refine zY ⟨_,rfl,ak1 rfl,zr ?_⟩
 walk_at "w"
 refine⟨[zT a b p,zT b c p,zT c a p],rfl,List.cons_ne_nil _ _,fun M _ _=>⟨M,rfl,jU ⟨0,rfl,?_⟩⟩⟩
 refine zQ (fun h=>?_) fun h=>?_
 ·walk_at "w"
  refine⟨[zT a b p,zT b c p,zT c a p],rfl,List.cons_ne_nil _ _,fun M2 _ _=>⟨M2,rfl,_,rfl,?_⟩⟩
  refine zQ (fun h=>?_) fun h=>?_
  ·walk_at "w"
   exact⟨_,rfl⟩
  ·refine yc (ye (ail (PEdO.ped (aa4 (p:=p) (a:=a) (b:=b) (c:=c) rfl rfl rfl rfl fun bs=>⟨bs,rfl,_,rfl⟩))))
 ·refine⟨_,rfl,?_⟩
  rw [if_neg akr]
  refine yc (ye (ail (PEdO.ped (aa4 (p:=p) (a:=a) (b:=b) (c:=c) rfl rfl rfl rfl fun bs=>⟨bs,rfl,_,rfl⟩))))
structure KO (w:Web) (rows:List (List Int)):Prop where
 len:rows.length=w.length
 nd:∀ r∈rows,r.Nodup
 row:∀ (k:Nat) r l,rows[k]?=some r->w[k]?=some l->r.length<=l.2.length/\∀ i∈r,0<=i/\i<l.2.length
theorem KO.ln {w:Web} {rows:List (List Int)} (h:KO w rows) {k:Nat} {r:List Int} (hr:rows[k]?=some r):∃ l,w[k]?=some l/\l∈w/\r.length<=l.2.length/\∀ i∈r,0<=i/\i<l.2.length:=by
 have hk:k<w.length:=by rw [<-h.len];exact (aks.mp hr).1
 have e:w[k]?=some w[k]:=akt hk
 exact⟨_,e,ak7 hk,h.row k r _ hr e⟩
noncomputable def aas (p:Nat×Int):PyData:=.tuple [.int p.1,.int p.2]
noncomputable def yY (rows:List (List Int)):Nat->List (Nat×Int)
 | 0=>[]
 | n+1=>yY rows n++(rows.getD n []).map fun i=>(n,i)
theorem abE {rows:List (List Int)} (h:∀ (k:Nat) r,rows[k]?=some r->r.length<=40):∀ n,(yY rows n).length<=40 * n
 | 0=>akA _
 | n+1=>by
  have h1:=abE h n
  unfold yY
  rw [akD,akp,aky]
  cases e:rows[n]? with
  | none=>simp;omega
  | some r=>have:=h n r e;simp;omega
theorem vy {rows:List (List Int)}:∀ n k i,(k,i)∈yY rows n↔k<n/\i∈rows.getD k []
 | 0,k,i=>by simp [yY]
 | n+1,k,i=>by
  unfold yY
  rw [akF,vy n k i,alf]
  constructor
  ·rintro (⟨h1,h2⟩ | ⟨j,h1,h2⟩)
   ·exact⟨by omega,h2⟩
   ·cases h2
    exact⟨by omega,h1⟩
  ·rintro⟨h1,h2⟩
   by_cases e:k=n
   ·subst e;exact .inr ⟨i,h2,rfl⟩
   ·exact .inl ⟨by omega,h2⟩
theorem abF {rows:List (List Int)} (h:∀ r∈rows,r.Nodup):∀ n,(yY rows n).Nodup
 | 0=>List.nodup_nil
 | n+1=>by
  unfold yY
  refine List.nodup_append.mpr ⟨abF h n,?_,fun x hx y hy=>?_⟩
  ·refine List.Pairwise.map (R:=(·≠·)) _ (fun a b hab z=>hab (Prod.mk.inj z).2) ?_
   rw [aky]
   cases e:rows[n]? with
   | none=>exact List.Pairwise.nil
   | some r=>exact h r (akC e)
  ·obtain⟨j,_,rfl⟩:=alf.mp hy
   rintro rfl
   have:=((vy n n j).mp hx).1
   omega
noncomputable abbrev ag8 (K:akq):Sp:=spN K 1 (fun (c:Pt×Web×List (List Int)) xs=>xs=[.dat (acM c.2.2)]/\OkWeb c.1 c.2.1/\KO c.2.1 c.2.2) fun c es=>es=(yY c.2.2 c.2.2.length).map aas
theorem acn (F:Def K mg "kept_keys" jH ["kept"]) (uak:mg "enumerate"=none):FnIn P w K mg base (k+1) "kept_keys" ["kept"] (ag8 K):=by
 refine F.okN acd rfl fun fa cdv A outer s H E hr=>⟨_,(zh (zw (acz (N:=qc) (own:=3) (fr:=[]) ⟨rfl,by decide +kernel,of_decide_eq_true (by kernel_rfl),of_decide_eq_true (by kernel_rfl),of_decide_eq_true (by kernel_rfl),rfl⟩ rfl (aaN (K:=K) rfl rfl uak (za (pv 0) zc)) (fun _ _ _ _=>(zL (K:=K) (n:=2) rfl rfl (zk (zl (i:=0) (show (qc:List Str).Nodup by decide +kernel) rfl (Or.inl rfl) (Or.inr rfl)) (zk (zl (i:=1) (show (qc:List Str).Nodup by decide +kernel) rfl (Or.inl rfl) (Or.inr rfl)) zK)))) (fun _ _ _ _=>yi) (fun _ _ _ _=>(yd (K:=K) rfl (pv 1))) (fun _ _ _ _=>(zl (i:=2) (show (qc:List Str).Nodup by decide +kernel) rfl (Or.inl rfl) (Or.inr rfl))) (fun _ _ _ _=>yi) (fun _ _ _ _=>(zJ (za (pv 0) (za (pv 2) zc)))) rfl rfl (fun _=>rfl) (fun _ _ _ _ _=>rfl)))),?_⟩
 rintro f xs ⟨o,w,rows⟩ hl ⟨rfl,g,ko⟩
 try dsimp only [zV,zq]
 dsimp only at *
 have few:∀ (k:Nat) r,rows[k]?=some r->r.length<=40:=fun k r hr=>by
  obtain⟨l,_,hm,h1,_⟩:=ko.ln hr
  exact akV h1 (g.few l hm)
 have wl:=g.len
 have rl:=ko.len
 refine aj0 (jQ (adp (zu (zp rfl (zY ⟨_,rfl,fun n ρ es=>(∃ x y z,ρ=[x,y,z])/\es=(yY rows n).map aas,⟨⟨_,_,_,rfl⟩,rfl⟩,?_,?_⟩)))))
 ·rintro D n d ρ' es hd ⟨⟨x,y,z,rfl⟩,rfl⟩
  obtain⟨e,h1,rfl⟩:=aci hd
  obtain⟨r,h2,rfl⟩:=y8 h1
  have hn:n<rows.length:=(aks.mp h2).1
  have f1:=abE few n
  have f2:=few n r h2
  refine jq rfl (zN (zr (zN (zr (yD (ji ?_))))))
  rw [if_pos rfl]
  refine ajR (yM (zp rfl ⟨_,rfl,fun m ρ es=>(∃ z,ρ=[some (.dat (.int n)),some (.dat (.list (r.map .int))),z])/\es=(yY rows n++(r.take m).map fun i=>(n,i)).map aas,⟨⟨_,rfl⟩,by simp⟩,?_,?_⟩))
  ·rintro m d ρ2 es2 hd2 ⟨⟨z,rfl⟩,rfl⟩
   obtain⟨i,hi,rfl⟩:=y8 hd2
   refine zr (ji ?_)
   rw [if_pos rfl]
   refine yN (by rw [akp,akD,akp,akW];omega) (vh (zu (zp rfl (zu (zp rfl (zY ⟨_,rfl,ak1 rfl,⟨_,rfl⟩,?_⟩))))))
   rw [alF,hi]
   simp only [akQ,amm]
   rfl
  ·rintro ρ2 es2 ⟨⟨z,rfl⟩,rfl⟩
   refine⟨⟨_,_,_,rfl⟩,?_⟩
   rw [akp,al6]
   show _=((yY rows n++(rows.getD n []).map fun i=>(n,i)).map aas)
   rw [aky,h2]
   rfl
 ·rintro ρ' es ⟨_,rfl⟩
  rw [aaY,akp]
noncomputable abbrev abG (K:akq):Sp:=spD K 2 (fun (c:Pt×Web×List (List Int)) xs=>xs=[.dat (yO c.2.1),.dat (acM c.2.2)]/\OkWeb c.1 c.2.1/\KO c.2.1 c.2.2) fun c r=>∃ ps:List Pt,r=.list (ps.map ptD)/\(∀ p∈ps,Near c.1 p)/\ps.length<=800
theorem aa5 (F:Def K mg "kept_points" jf pB) (uaq:mg "zip"=none):FnIn P w K mg base (k+1) "kept_points" pB (abG K):=by
 refine F.ok aaV rfl fun fa cdv A outer s H E hr=>⟨_,(zh (zw (acz (N:=qb) (own:=4) (fr:=[]) ⟨rfl,by decide +kernel,of_decide_eq_true (by kernel_rfl),of_decide_eq_true (by kernel_rfl),of_decide_eq_true (by kernel_rfl),rfl⟩ rfl (aee (K:=K) rfl rfl uaq (za (pv 0) (za (pv 1) zc))) (fun _ _ _ _=>(zL (K:=K) (n:=2) rfl rfl (zk (zL (K:=K) (n:=2) rfl rfl (zk (zl (i:=0) (show (qb:List Str).Nodup by decide +kernel) rfl (Or.inl rfl) (Or.inr rfl)) (zk (zl (i:=1) (show (qb:List Str).Nodup by decide +kernel) rfl (Or.inl rfl) (Or.inr rfl)) zK))) (zk (zl (i:=2) (show (qb:List Str).Nodup by decide +kernel) rfl (Or.inl rfl) (Or.inr rfl)) zK)))) (fun _ _ _ _=>yi) (fun _ _ _ _=>(yd (K:=K) rfl (pv 2))) (fun _ _ _ _=>(zl (i:=3) (show (qb:List Str).Nodup by decide +kernel) rfl (Or.inl rfl) (Or.inr rfl))) (fun _ _ _ _=>yi) (fun _ _ _ _=>(zf (ze (K:=K) rfl) (pv 1) (pv 3) (fun _ _=>rfl))) rfl rfl (fun _=>rfl) (fun _ _ _ _ _=>rfl)))),?_⟩
 rintro f xs ⟨o,w,rows⟩ hl ⟨rfl,g,ko⟩
 try dsimp only [zV,zq]
 dsimp only at *
 have wl:=g.len
 have rl:=ko.len
 refine ye (PEdO.ped (jQ (aix (zu (zp rfl (zu (zp rfl (zY ⟨_,_,rfl,fun n ρ es=>(∃ x y z u,ρ=[x,y,z,u])/\n<=w.length/\∃ ps:List Pt,es=ps.map ptD/\(∀ p∈ps,Near o p)/\ps.length<=40 * n,⟨⟨_,_,_,_,rfl⟩,alp _,[],rfl,by simp,by simp⟩,?_,?_⟩))))))))
 ·rintro D n d ρ' es hd ⟨⟨x,y,z,u,rfl⟩,hn0,ps,rfl,hps,lps⟩
  obtain⟨l,r,h1,h2,rfl⟩:∃ l r,w[n]?=some l/\rows[n]?=some r/\d=.tuple [lnD l,.list (r.map .int)]:=by
   unfold aff at hd
   rw [amo,akz,akz] at hd
   cases e1:w[n]? with
   | none=>rw [e1] at hd;cases hd
   | some l =>
    cases e2:rows[n]? with
    | none=>rw [e1,e2] at hd;cases hd
    | some r=>rw [e1,e2] at hd;cases hd;exact⟨l,r,rfl,rfl,rfl⟩
  have hn:n<w.length:=(aks.mp h1).1
  have lm:=akC h1
  obtain⟨q1,q2⟩:=ko.row n r l h2 h1
  have f2:=g.few l lm
  refine jq rfl (zN (jq rfl (zN (zr (zN (zr (yD (zN (zr (yD (ji ?_)))))))))))
  rw [if_pos rfl]
  refine ajR (yM (zp rfl ⟨_,rfl,fun m ρ es=>(∃ u,ρ=[some (.dat (.str (qO l.1))),some (.dat (.tuple (l.2.map ptD))),some (.dat (.list (r.map .int))),u])/\m<=r.length/\∃ ps:List Pt,es=ps.map ptD/\(∀ p∈ps,Near o p)/\ps.length<=40 * n+m,⟨⟨_,rfl⟩,alp _,ps,rfl,hps,lps⟩,?_,?_⟩))
  ·rintro m d ρ2 es2 hd2 ⟨⟨u,rfl⟩,hm0,ps2,rfl,hps2,lps2⟩
   obtain⟨i,hi,rfl⟩:=y8 hd2
   have hm:m<r.length:=(aks.mp hi).1
   obtain⟨i0,i1⟩:=q2 i (akC hi)
   obtain⟨p,mp,hp⟩:=jS (F:=ptD) (xs:=l.2) (q:=i) (by omega) i1
   refine zr (ji ?_)
   rw [if_pos rfl]
   refine yN (by rw [akp];omega) (qJ (zp rfl ⟨_,rfl,zp rfl ⟨_,rfl,_,hp,⟨_,rfl⟩,by omega,ps2++[p],by rw [akQ];rfl,fun p' hp'=>?_,by rw [akD];show ps2.length+1<=_;omega⟩⟩))
   rcases akF.mp hp' with h | h
   ·exact hps2 p' h
   ·rw [akO.mp h];exact g.near l lm p mp
  ·rintro ρ2 es2 ⟨⟨u,rfl⟩,_,ps2,rfl,hps2,lps2⟩
   rw [akp] at lps2
   exact⟨⟨_,_,_,_,rfl⟩,by omega,ps2,rfl,hps2,by omega⟩
 ·rintro ρ' es ⟨_,hn,ps,rfl,hps,lps⟩
  exact⟨ps,rfl,hps,by omega⟩
noncomputable abbrev aeB (K:akq):Sp:=spD K 5 (fun (c:Pt×Web×List (List Int)×Nat×Int×Int) xs=>xs=[.dat (yO c.2.1),.dat (acM c.2.2.1),.dat (aas (c.2.2.2.1,c.2.2.2.2.1)),.dat (.int c.2.2.2.2.2),.dat (.list [])]/\OkWeb c.1 c.2.1/\KO c.2.1 c.2.2.1/\(∃ r,c.2.2.1[c.2.2.2.1]?=some r/\c.2.2.2.2.1∈r)/\0<=c.2.2.2.2.2/\c.2.2.2.2.2<=1000000) fun c r=>aex r
theorem afB (F:Def K mg "may_go" vM pN) (uaa:mg "len"=none) (uar:mg "any"=none) (uby:FnIn P w K mg base k "is_spare" pz (aez K)) (ubz:FnIn P w K mg base k "kept_beside" pO (ac8 K)) (ubA:FnIn P w K mg base k "indexes_between" pA (abD K)) (ubB:FnIn P w K mg base k "lies_near" pK (aey K)) (ubC:FnIn P w K mg base k "kept_points" pB (abG K)) (ubD:FnIn P w K mg base k "lies_in_field" pw (aeA K)):FnIn P w K mg base (k+1) "may_go" pN (aeB K):=by
 refine F.ok sc_may_go rfl fun fa cdv A outer s H E hr=>⟨_,(zd (yC (pv 2) (zL (K:=K) (n:=2) rfl rfl (zk (zl (i:=5) sc_may_go.nd rfl (Or.inl rfl) (Or.inr rfl)) (zk (zl (i:=6) sc_may_go.nd rfl (Or.inl rfl) (Or.inr rfl)) zK)))) (zd (yC (zf (zA (K:=K) rfl) (pv 0) (pv 5) (fun _ _=>rfl)) (zL (K:=K) (n:=2) rfl rfl (zk (zl (i:=7) sc_may_go.nd rfl (Or.inl rfl) (Or.inr rfl)) (zk (zl (i:=8) sc_may_go.nd rfl (Or.inl rfl) (Or.inr rfl)) zK)))) (zd (zX (afF (yF (K:=K) rfl (zg uby hr rfl (za (pv 7) (za (zf (zA (K:=K) rfl) (pv 1) (pv 5) (fun _ _=>rfl)) (za (pv 6) zc)))) (fun _=>rfl))) (zh (zw qE)) zF) (zd (yC (zg ubz hr rfl (za (zf (zA (K:=K) rfl) (pv 1) (pv 5) (fun _ _=>rfl)) (za (pv 6) zc))) (zL (K:=K) (n:=2) rfl rfl (zk (zl (i:=9) sc_may_go.nd rfl (Or.inl rfl) (Or.inr rfl)) (zk (zl (i:=10) sc_may_go.nd rfl (Or.inl rfl) (Or.inr rfl)) zK)))) (zd (aiH (i:=11) (j:=12) rfl sc_may_go.nd rfl rfl (by decide) rfl rfl (za (zf (ze (K:=K) rfl) (pv 8) (pv 9) (fun _ _=>rfl)) (za (zf (ze (K:=K) rfl) (pv 8) (pv 10) (fun _ _=>rfl)) zc)) rfl) (zd (yK akZ rfl (yd (K:=K) rfl (zg ubA hr rfl (za (pv 9) (za (pv 10) (za (zo (zE (K:=K) rfl) rfl uaa akH (za (pv 8) zc)) zc))))) (zl (i:=13) sc_may_go.nd rfl (Or.inl rfl) (Or.inr rfl)) (zh (zX (afF (yF (K:=K) rfl (zg ubB hr rfl (za (zf (ze (K:=K) rfl) (pv 8) (pv 13) (fun _ _=>rfl)) (za (pv 11) (za (pv 12) (za (pv 3) zc))))) (fun _=>rfl))) (zh (zw qE)) zF))) (zd (zz (i:=14) sc_may_go.nd rfl (Or.inr rfl) (zJ (za (pv 11) (za (zf (ze (K:=K) rfl) (pv 8) (pv 6) (fun _ _=>rfl)) (za (pv 12) zc))))) (zd (qH (i:=15) (N:=pw) (own:=1) (fr:=[14]) ⟨rfl,by decide +kernel,of_decide_eq_true (by kernel_rfl),of_decide_eq_true (by kernel_rfl),of_decide_eq_true (by kernel_rfl),rfl⟩ rfl sc_may_go.nd rfl (Or.inl rfl) (yd (K:=K) rfl (zg ubC hr rfl (za (pv 0) (za (pv 1) zc)))) (fun _ _ _ _=>(zl (i:=0) (show (pw:List Str).Nodup by decide +kernel) rfl (Or.inl rfl) (Or.inr rfl))) (fun _ _ _ _=>(aht (zD (acH (K:=K) rfl hr.units) (pv 0) (pv 1) rfl))) (fun _ _ _ _=>(pv 0)) rfl rfl (fun _=>rfl) (Or.inl rfl) rfl) (zh (zw (afH (zo (aeW (K:=K) rfl rfl) rfl uar ana (za (yx (N:=pw) (own:=1) (fr:=[14]) ⟨rfl,by decide +kernel,of_decide_eq_true (by kernel_rfl),of_decide_eq_true (by kernel_rfl),of_decide_eq_true (by kernel_rfl),rfl⟩ rfl (yd (K:=K) rfl (zi (yS (K:=K) rfl) (pv 15) (pv 4))) (fun _ _ _ _=>(zl (i:=0) (show (pw:List Str).Nodup by decide +kernel) rfl (Or.inl rfl) (Or.inr rfl))) (fun _ _ _ _=>yi) (fun _ _ _ _=>(zg ubD hr rfl (za (pv 0) (za (pv 1) zc)))) rfl rfl (fun _=>rfl)) zc))))))))))))),?_⟩
 rintro f xs ⟨o,w,rows,kk,i,bd⟩ hl ⟨rfl,g,ko,⟨r,hr2,im⟩,b0,b1⟩
 try dsimp only [zV,zq]
 dsimp only at *
 obtain⟨l,hw,lm,rle,rin⟩:=ko.ln hr2
 obtain⟨i0,i1⟩:=rin i im
 have f2:=g.few l lm
 have hat:atI (w.map lnD) (kk:Int)=some (lnD l):=vA (by rw [akz,hw];rfl)
 have hat2:atI (rows.map fun r=>PyData.list (r.map .int)) (kk:Int)=some (.list (r.map .int)):=vA (by rw [akz,hr2];rfl)
 have rne:r≠[]:=List.ne_nil_of_mem im
 refine zM (zR (zp rfl (jq rfl (zN (zr (zN (zr (yD ?_))))))))
 refine zM (zR (vB (zp rfl ⟨_,rfl,zp rfl ⟨_,rfl,_,hat,jq rfl (zN (zr (zN (zr (yD ?_)))))⟩⟩)))
 refine zM (jV (af4 (qA (zt (l.1,r,i) (zu (zp rfl (zu (vB (zp rfl ⟨_,rfl,zp rfl ⟨_,rfl,_,hat2,zu (zp rfl (zY ⟨rfl,⟨rfl,rne,by dsimp only;omega⟩,?_⟩))⟩⟩))))))))) 
 rintro _ ⟨b,rfl⟩
 refine⟨b,rfl,?_⟩
 cases b with
 | false =>
  rw [aml,if_pos rfl]
  walk_at "w"
  exact⟨_,rfl⟩
 | true =>
 rw [alK,if_neg akr]
 refine yc (zM (zR (zt (r,i) (zu (vB (zp rfl ⟨_,rfl,zp rfl ⟨_,rfl,_,hat2,zu (zp rfl (zY ⟨rfl,⟨rfl,im,by dsimp only;omega⟩,?_⟩))⟩⟩))))))
 rintro _ ⟨x,y,rfl,xm,ym⟩
 refine jq rfl (zN (zr (zN (zr (yD ?_)))))
 obtain⟨x0,x1⟩:=rin x xm
 obtain⟨y0,y1⟩:=rin y ym
 obtain⟨p,pm,hp⟩:=jS (F:=ptD) (xs:=l.2) (q:=x) (by omega) x1
 obtain⟨q,qm,hq⟩:=jS (F:=ptD) (xs:=l.2) (q:=y) (by omega) y1
 obtain⟨c,cm,hc⟩:=jS (F:=ptD) (xs:=l.2) (q:=i) (by omega) i1
 have np:=g.near l lm p pm
 have nq:=g.near l lm q qm
 have nc:=g.near l lm c cm
 refine zM (ajY (zu (qJ (zp rfl ⟨_,rfl,zp rfl ⟨_,rfl,_,hp,zu (qJ (zp rfl ⟨_,rfl,zp rfl ⟨_,rfl,_,hq,zY ⟨_,_,rfl,?_⟩⟩⟩))⟩⟩))))
 refine zM (vD (yM (zt (x,y,l.2.length) (zu (zp rfl (zu (zp rfl (zu ?_))))))))
 walk_at "w"
 rw [akp]
 refine⟨⟨rfl,by dsimp only;omega,f2⟩,?_⟩
 rintro _ ⟨ns,rfl,hns⟩
 refine⟨_,rfl,fun _ ρ=>∃ u,ρ=[some (.dat (yO w)),some (.dat (acM rows)),some (.dat (aas (kk,i))),some (.dat (.int bd)),some (.dat (.list [])),some (.dat (.int kk)),some (.dat (.int i)),some (.dat (.str (qO l.1))),some (.dat (.tuple (l.2.map ptD))),some (.dat (.int x)),some (.dat (.int y)),some (.dat (ptD p)),some (.dat (ptD q)),u,none,none],⟨_,rfl⟩,?_,?_⟩
 ·rintro m d _ hd ⟨u,rfl⟩
  obtain⟨j,hj,rfl⟩:=y8 hd
  obtain⟨j0,j1⟩:=hns j (akC hj)
  obtain⟨v,vm,hv⟩:=jS (F:=ptD) (xs:=l.2) (q:=j) (by omega) j1
  refine zr (jV (af4 (qA (zt (o,v,p,q,bd) (zu (qJ (zp rfl ⟨_,rfl,zp rfl ⟨_,rfl,_,hv,zu (zp rfl (zu (zp rfl (zu (zp rfl (zY ⟨rfl,⟨rfl,g.near l lm v vm,np,nq,b0,b1⟩,?_⟩))))))⟩⟩)))))))
  rintro _ ⟨b,rfl⟩
  refine⟨b,rfl,?_⟩
  cases b with
  | false =>
   rw [aml,if_pos rfl]
   walk_at "w"
   exact⟨_,rfl⟩
  | true =>
   rw [alK,if_neg akr]
   exact yc ⟨_,rfl⟩
 rintro _ ⟨u,rfl⟩
 refine zM (zR (vh (zu (zp rfl (zu (qJ (zp rfl ⟨_,rfl,zp rfl ⟨_,rfl,_,hc,zu (zp rfl (zY ⟨_,rfl,ak1 rfl,zr ?_⟩))⟩⟩)))))))
 refine zM (zR (PEdO.ped (jQ (yM (zt (o,w,rows) (zu (zp rfl (zu (zp rfl (zY ⟨rfl,⟨rfl,g,ko⟩,?_⟩))))))))))
 rintro _ ⟨ps,rfl,hps,lps⟩
 refine⟨_,rfl,fun n ρ es=>(∃ v,ρ=[v,some (.dat (.tuple [ptD p,ptD c,ptD q]))])/\n<=ps.length/\∃ qs:List Pt,es=qs.map ptD/\(∀ z∈qs,Near o z)/\qs.length<=n,⟨⟨_,rfl⟩,alp _,[],rfl,by simp,by simp⟩,?_,?_⟩
 ·rintro D n d _ _ hd ⟨⟨v,rfl⟩,hn,qs,rfl,hqs,lqs⟩
  obtain⟨z,hz,rfl⟩:=y8 hd
  have hn':n<ps.length:=(aks.mp hz).1
  refine zr (yL (ae3 (zp rfl (zp rfl ⟨_,rfl,rfl,fun e he=>?_,show (ptD z).depth<=50 from ak1 rfl,_,rfl,?_⟩))))
  ·simp only [akB,alm,or_false] at he
   rcases he with rfl | rfl | rfl <;> rfl
  refine zQ (fun _=>?_) fun _=>?_
  ·refine yN (by rw [akp];omega) (zp rfl ⟨⟨_,rfl⟩,by omega,qs++[z],by rw [akQ];rfl,fun z' hz'=>?_,by rw [akD];show qs.length+1<=_;omega⟩)
   rcases akF.mp hz' with h | h
   ·exact hqs z' h
   ·rw [akO.mp h];exact hps z (akC hz)
  ·exact⟨⟨_,rfl⟩,by omega,qs,rfl,hqs,by omega⟩
 rintro _ es ⟨_,_,qs,rfl,hqs,lqs⟩
 rw [akp] at lqs
 have ql:qs.length<=800:=by omega
 refine zr (ye (adn (ajX (PEdO.ped (jQ (yM (qi (zp rfl ⟨_,rfl,zp rfl ⟨[],rfl,by rw [akp];show qs.length+0<=1000;omega,_,rfl,fun n ρ es=>(∃ v,ρ=[v,some (.dat (.tuple [ptD p,ptD c,ptD q]))])/\n<=qs.length/\∃ bs:List Bool,es=bs.map .bool/\bs.length=n,⟨⟨_,rfl⟩,alp _,[],rfl,rfl⟩,?_,?_⟩⟩))))))))
 ·rintro D n d _ _ hd ⟨⟨v,rfl⟩,hn,bs,rfl,hb⟩
  rw [akY] at hd
  obtain⟨z,hz,rfl⟩:=y8 hd
  have hn':n<qs.length:=(aks.mp hz).1
  refine zr (ji ?_)
  rw [if_pos rfl]
  refine yN (by rw [akp];omega) (zt (o,z,p,c,q) (zu (zp rfl (zu (zp rfl (zY ⟨rfl,⟨rfl,hqs z (akC hz),np,nc,nq⟩,?_⟩))))))
  rintro _ ⟨b,rfl⟩
  exact⟨⟨_,rfl⟩,by omega,bs++[b],by rw [akQ];rfl,by rw [akD,hb];rfl⟩
 ·rintro _ _ ⟨_,_,bs,rfl,_⟩
  refine⟨bs,rfl,?_⟩
  exact⟨_,rfl,_,rfl⟩
theorem qW {K:akq} {f:Fx} {a D:Addr} {as:List Addr} {rows:List (List Int)} {H1:Hp} (t:TabAt H1 a as rows):∀ {ks:List (Nat×Int)} {vs:List V},Reps K (hide H1 (f.with D)) (ks.map aas) vs->Reps K (hide H1 (f.withs (a :: as))) (ks.map aas) vs
 | [],vs,h=>by rw [reps_nil.mp h];exact .nil'
 | p :: ks,vs,h=>by
  obtain⟨x,r,rfl,h1,h2⟩:=reps_cons.mp h
  refine .cons' ?_ (qW t h2)
  obtain⟨q,xs,rfl,sq,rs⟩:=rep_tuple.mp h1
  have rs':Reps K (hide H1 (f.withs (a :: as))) [.int p.1,.int p.2] xs:=by
   obtain⟨y,r,rfl,h3,h4⟩:=reps_cons.mp rs
   obtain⟨z,r,rfl,h5,h6⟩:=reps_cons.mp h4
   rw [reps_nil.mp h6,rep_int.mp h3,rep_int.mp h5]
   exact .cons' (rep_int.mpr rfl) (.cons' (rep_int.mpr rfl) .nil')
  refine rep_tuple.mpr ⟨q,xs,rfl,?_,rs'⟩
  have key:∀ o:HO,(∀ zs,o≠.lst zs)->hide H1 (f.with D) q=some o->hide H1 (f.withs (a :: as)) q=some o:=fun o hno ho=>by
   obtain⟨n1,h3⟩:=zU ho
   refine zC (fun z=>?_) h3
   rcases z with z | z
   ·exact n1 (.inl z)
   ·rcases akF.mp z with z | z
    ·rcases akB.mp (alu.mp z) with rfl | z
     ·rw [t.top] at h3;exact hno _ (Option.some.inj h3).symm
     ·obtain⟨j,hj⟩:=alG z
      have:=t.row j q _ hj (akt (by rw [<-t.len];exact (aks.mp hj).1))
      rw [this] at h3;exact hno _ (Option.some.inj h3).symm
    ·exact n1 (.inr (akv _ z))
  rcases sq with (h | ⟨o,h⟩) | h
  ·exact .inl (.inl (key _ (fun _ z=>nomatch z) h))
  ·exact .inl (.inr ⟨o,key _ (fun _ z=>nomatch z) h⟩)
  ·exact .inr h
theorem ajw {K:akq} {f:Fx} {a:Addr} {as:List Addr} {ρ:zy} {rows:List (List Int)} {O:zy->Option (List (List Int))->Prop} {te:TE} {i j:Nat} (hi:ρ[i]?=some (some (.own f.M.length))) (h:PEdO K f te ((ρ.map (jb f.M.length)).set i (some (.dat (acM rows)))) fun es=>∃ ks:List (Nat×Int),es=ks.map aas/\O (ρ.set j (some (.dat (.list es)))) (some rows)) :
  PSu K f a as (vR te (qG j)) ρ (some rows) O:=fun se σ H H2 E x n =>
 h σ H _ (x.read se hi) fun es D vs H1 g1 hn h1 rs ⟨ks,eks,ho⟩=>by
  subst eks
  have g2:=x.beside se g1
  have x1:=x.go g2 (x.env.mono g2)
  have nD:¬ ((f.withs (a :: as)).f=some D \/ D∈(f.withs (a :: as)).M):=fresh_ne x.env.fd hn
  have rp:Rep K (hide H1 (f.withs (a :: as))) (.list (ks.map aas)) (.ref D):=rep_list.mpr ⟨D,vs,rfl,.of (zC nD h1),qW (x1.tab rows rfl) rs⟩
  exact n _ (some rows) _ H1 ⟨x1.env.set j (x:=.dat (.list (ks.map aas))) rp,x1.sm,x1.kp,x1.tab⟩ ho
noncomputable def tot (rows:List (List Int)):Nat:=(rows.map amR).sum
theorem aeC:∀ {rows:List (List Int)} {k:Nat} {r r':List Int},rows[k]?=some r->r'.length+1=r.length->tot (rows.set k r')+1=tot rows
 | r0 :: rows,0,r,r',h,hl=>by
  cases h
  show (r'.length+(rows.map amR).sum)+1=r0.length+(rows.map amR).sum
  omega
 | r0 :: rows,k+1,r,r',h,hl=>by
  have:=aeC (rows:=rows) (k:=k) h hl
  show (r0.length+tot (rows.set k r'))+1=r0.length+tot rows
  omega
theorem KO.drop {w:Web} {rows:List (List Int)} (h:KO w rows) {k m:Nat} {r:List Int} (hr:rows[k]?=some r):KO w (rows.set k (r.eraseIdx m)):=by
 have sub:(r.eraseIdx m).Sublist r:=List.eraseIdx_sublist r m
 refine⟨by rw [ald];exact h.len,fun r' hr'=>?_,fun j r' l h1 h2=>?_⟩
 ·rcases List.mem_or_eq_of_mem_set hr' with z | z
  ·exact h.nd r' z
  ·rw [z];exact (h.nd r (akC hr)).sublist sub
 ·by_cases e:k=j
  ·subst e
   rw [ak4 (aks.mp hr).1] at h1
   cases h1
   obtain⟨q1,q2⟩:=h.row k r l hr h2
   exact⟨akV sub.length_le q1,fun i hi=>q2 i (sub.subset hi)⟩
  ·rw [ak5 e] at h1
   exact h.row j r' l h1 h2
theorem ag9 {r:List Int} {m:Nat} {i j:Int} (hm:r[m]?=some i) (hj:j∈r) (ne:j≠i):j∈r.eraseIdx m:=by
 obtain⟨q,hq⟩:=alG hj
 rw [List.mem_eraseIdx_iff_getElem?]
 refine⟨q,fun e=>?_,hq⟩
 subst e
 rw [hm] at hq
 exact ne (Option.some.inj hq).symm
noncomputable abbrev aeD (K:akq):Sp:=ajs K 4 (fun (c:Pt×Web×Int) m xs rows=>xs=[.dat (yO c.2.1),.own m,.dat (.int c.2.2),.dat (.list [])]/\OkWeb c.1 c.2.1/\KO c.2.1 rows/\0<=c.2.2/\c.2.2<=1000000) fun c rows rows' b=>KO c.2.1 rows'/\(b=true->tot rows'<tot rows)
theorem afC (F:Def K mg "let_go" vL pM) (ubE:FnIn P w K mg base k "kept_keys" ["kept"] (ag8 K)) (ubF:FnIn P w K mg base k "may_go" pN (aeB K)):FnIn P w K mg base (k+1) "let_go" pM (aeD K):=by
 refine F.okWr sc_let_go rfl fun fa cdv A outer s H E hr=>⟨_,(zd (zz (i:=4) sc_let_go.nd rfl (Or.inl rfl) qE) (zd (zz (i:=5) sc_let_go.nd rfl (Or.inl rfl) (zg ubE hr rfl (za (pv 1) zc))) (zd (yK akZ rfl (yd (K:=K) rfl (pv 5)) (zl (i:=6) sc_let_go.nd rfl (Or.inl rfl) (Or.inr rfl)) (zh (zX (yF (K:=K) rfl (zg ubF hr rfl (za (pv 0) (za (pv 1) (za (pv 6) (za (pv 2) (za (pv 3) zc)))))) (fun _=>rfl)) (zd (yC (pv 6) (zL (K:=K) (n:=2) rfl rfl (zk (zl (i:=7) sc_let_go.nd rfl (Or.inl rfl) (Or.inr rfl)) (zk (zl (i:=8) sc_let_go.nd rfl (Or.inl rfl) (Or.inr rfl)) zK)))) (zd (qS (abt aln PySem.F.slot_list_remove PySem.F.type_list_remove afg (zf (zA (K:=K) rfl) (pv 1) (pv 7) (fun _ _=>rfl)) (za (pv 8) zc))) (zh (zz (i:=4) sc_let_go.nd rfl (Or.inl rfl) qE)))) zF))) (zh (zw (pv 4)))))),?_⟩
 rintro f a as xs ⟨o,w,bd⟩ rows hl ⟨rfl,g,ko,b0,b1⟩
 try dsimp only [zV,zq]
 dsimp only at *
 refine agN (adF (zR (ahv (zr ⟨rows,rfl,?_⟩))))
 refine agN (ajw (i:=1) rfl (aja (o,w,rows) (zu (zp rfl (zY ⟨rfl,⟨rfl,g,ko⟩,?_⟩)))))
 rintro es rfl
 refine⟨_,rfl,rows,rfl,?_⟩
 have nd:=abF ko.nd rows.length
 refine agN (aj5 (yM (zp rfl ⟨_,rfl,fun n ρ R=>∃ rows' gn u v z,R=some rows'/\KO w rows'/\ρ=[some (.dat (yO w)),some (.own f.M.length),some (.dat (.int bd)),some (.dat (.list [])),some (.dat (.bool gn)),some (.dat (.list ((yY rows rows.length).map aas))),u,v,z]/\(gn=true->tot rows'<tot rows)/\tot rows'<=tot rows/\∀ (q:Nat) kk i,n<=q->(yY rows rows.length)[q]?=some (kk,i)->i∈rows'.getD kk [],⟨rows,false,_,_,_,rfl,ko,rfl,(fun z=>nomatch z),akA _,fun q kk i _ hq=>((vy _ _ _).mp (akC hq)).2⟩,?_,?_⟩)))
 ·rintro n d _ _ hd ⟨rows',gn,u,v,z,rfl,ko',rfl,hg,ht,hk⟩
  obtain⟨⟨kk,i⟩,hi,rfl⟩:=y8 hd
  have im:=hk n kk i (akA _) hi
  obtain⟨r,hr2,im2⟩:∃ r,rows'[kk]?=some r/\i∈r:=by
   rw [aky] at im
   cases e:rows'[kk]? with
   | none=>rw [e] at im;cases im
   | some r=>rw [e] at im;exact⟨r,rfl,im⟩
  refine zr (ako (i:=1) rfl (qA (zt (o,w,rows',kk,i,bd) (zu (zp rfl (zu (zp rfl (zu (zp rfl (zu (zp rfl (zu (zp rfl (zY ⟨rfl,⟨rfl,g,ko',⟨r,hr2,im2⟩,b0,b1⟩,?_⟩))))))))))))))
  rintro _ ⟨b,rfl⟩
  refine⟨b,rfl,?_⟩
  cases b with
  | false =>
   rw [if_neg akr]
   exact ajq ⟨rows',gn,_,_,_,rfl,ko',rfl,hg,ht,fun q k2 i2 hq=>hk q k2 i2 (by omega)⟩
  | true =>
   rw [if_pos rfl]
   obtain⟨m,hm,hno⟩:=aa2 im2
   have ml:m<r.length:=(aks.mp hm).1
   obtain⟨l,_,lm,rle,_⟩:=ko'.ln hr2
   have f2:=g.few l lm
   have ts:=aeC hr2 (r':=r.eraseIdx m) (by rw [anj,if_pos ml];omega)
   refine aiw (adF (zR (zp rfl (jq rfl (zN (zr (zN (zr (yD ?_)))))))))
   refine aiw (agO (i:=1) rfl (zp rfl ⟨kk,rfl,r,hr2,by omega,zp rfl ⟨i,rfl,m,hm,hno,?_⟩⟩))
   refine adF (zR (ahv (zr ?_)))
   refine⟨_,true,_,_,_,rfl,ko'.drop hr2,rfl,fun _=>by omega,by omega,fun q k2 i2 hq h2=>?_⟩
   have old:=hk q k2 i2 (by omega) h2
   have hne:(k2,i2)≠(kk,i):=fun z=>by
    have:=(List.getElem?_inj (aks.mp hi).1 nd).mp (hi.trans (z▸h2).symm)
    omega
   by_cases ek:k2=kk
   ·subst ek
    rw [aky,ak4 (aks.mp hr2).1]
    rw [aky,hr2] at old
    exact ag9 hm old fun z=>hne (by rw [z])
   ·rw [aky,ak5 (alo ek),<- aky]
    exact old
 ·rintro _ _ ⟨rows',gn,u,v,z,rfl,ko',rfl,hg,ht,hk⟩
  exact⟨rows',rfl,y_ret (zp rfl ⟨gn,rfl,ko',hg⟩)⟩
theorem abl {P:Program} {w:World} {K:akq} {mg:Str->Option Value} {base:Heap} {C f D:Addr} {fd:FuncData} (hfc:vH K C f D "at"=true) (hD:mg "HeightError"=some (.ref D)) (F:Fun K "__init__" "NoWeb.__init__" j4 f fd):InitOk P w K mg base 1 C "at":=by
 have T:=FldC.of hfc
 refine⟨f,D,fd,["self","at"],T,F.ok abj (fun vs H Q E h=>?_) (fun cdv A outer s H vs Q E hr hs=>⟨_,zd (qS (acK T rfl hD (za (pv 0) (za yJ zc)))) (zh (ahN T (pv 0) (pv 1))),?_⟩),F.binds (ps:=["self","at"]) fun _ _ _ _ _ _ us hl=>match us,hl with | [_,_],_=>rfl⟩
 ·obtain⟨a,y,rfl,_⟩:=h
  rfl
 ·obtain⟨a,y,rfl,hH,q⟩:=hs
  exact⟨.ref a,rfl,a,_,rfl,by decide,hH,y,rfl,.ref a,rfl,a,rfl,hH,fun dx h1 h2=>q dx h1 h2⟩
theorem ajx {f:Fx} {ρ:zy} {R:List DV->Prop} {u:TA} {i:Nat} {x:DV} (hi:ρ[i]?=some (some x)) (h:PAd K f u ρ fun xs=>R (x :: xs)):PAd K f (zG (zO i) u) ρ R:=fun σ H Q e q=>by
 obtain⟨v,h1,h2⟩:=e.get i _ hi
 exact⟨v,h1,h σ H _ e fun xs vs H' g r p=>q (x :: xs) (v :: vs) H' g (.cons (h2.mono g) r) p⟩
theorem aha {f:Fx} {ρ:zy} {a b c:TS} {O:DEnds} (h:PSd K f (qD (qD a b) c) ρ O):PSd K f (qD a (qD b c)) ρ O:=h
theorem KO.start (w:Web) {rows:List (List Int)} (hl:rows.length=w.length) (h:∀ (k:Nat) r,rows[k]?=some r->∃ l,w[k]?=some l/\r=(alc l.2.length).map fun (i:Nat)=>(i:Int)):KO w rows:=by
 refine⟨hl,fun r hr=>?_,fun k r l h1 h2=>?_⟩
 ·obtain⟨j,hj⟩:=alG hr
  obtain⟨l,_,rfl⟩:=h j r hj
  exact List.Pairwise.map (R:=(·≠·)) _ (fun a b hab z=>hab (Int.ofNat.inj z)) List.nodup_range
 ·obtain⟨l',h3,rfl⟩:=h k r h1
  rw [h2] at h3
  cases h3
  refine⟨by rw [akp,alh];exact akA _,fun i hi=>?_⟩
  obtain⟨j,hj,rfl⟩:=alf.mp hi
  have:=alD.mp hj
  omega
noncomputable abbrev ahb (K:akq) (uab:Addr):Sp:=spF K 3 (fun (c:Pt×Web×Int×List PyData) xs=>xs=[.dat (yO c.2.1),.dat (.int c.2.2.1),.dat (.list c.2.2.2)]/\OkWeb c.1 c.2.1/\0<=c.2.2.1/\c.2.2.1<=1000000/\(yq c.2.1=none->c.2.2.2=[])) (fun c r=>yq c.2.1=none) fun c Cv x=>Cv=.ref uab/\∃ m,yq c.2.1=some m/\x=some (("at":Str),qB (some m))
theorem adT {uab:Addr} (F:Def K mg "thinned" vb pL) (uaa:mg "len"=none) (uai:mg "list"=none) (uac:mg "range"=none) (uaq:mg "zip"=none) (uaj:mg "tuple"=none) (uas:mg "NoWeb"=some (.ref uab)) (I_NoWeb:InitOk P w K mg base 1 uab "at")
  (ubG:FnIn P w K mg base (k+2) "meeting" ph (abB K)) (ubH:FnIn P w K mg base (k+2) "let_go" pM (aeD K)):FnInF P w K mg base (k+3) "thinned" pL (ahb K uab):=by
 refine F.okF (k:=k+2) sc_thinned rfl fun fa cdv A outer s H E hr=>⟨_,(zd (zz (i:=3) sc_thinned.nd rfl (Or.inl rfl) (zg ubG hr rfl (za (pv 0) zc))) (zd (zX (zD abL (pv 3) aaz (zB _)) (zh (afd I_NoWeb (hr.mono (by omega)) rfl uas (za (pv 3) zc))) zF) (zd (qH (i:=4) (N:=pk) (own:=2) (fr:=[]) ⟨rfl,by decide +kernel,of_decide_eq_true (by kernel_rfl),of_decide_eq_true (by kernel_rfl),of_decide_eq_true (by kernel_rfl),rfl⟩ rfl sc_thinned.nd rfl (Or.inl rfl) (yd (K:=K) rfl (pv 0)) (fun _ _ _ _=>(zL (K:=K) (n:=2) rfl rfl (zk (zl (i:=0) (show (pk:List Str).Nodup by decide +kernel) rfl (Or.inl rfl) (Or.inr rfl)) (zk (zl (i:=1) (show (pk:List Str).Nodup by decide +kernel) rfl (Or.inl rfl) (Or.inr rfl)) zK)))) (fun _ _ _ _=>yi) (fun _ _ _ _=>(adG rfl rfl uai alU rfl uac boot_range (zo (zE (K:=K) rfl) rfl uaa akH (za (pv 1) zc)))) rfl rfl (fun _=>rfl) (Or.inl rfl) rfl) (zd (afN PassesOwn.leaving (yF (K:=K) rfl (zg ubH hr rfl (za (pv 0) (za (pv 4) (za (pv 1) (za (pv 2) zc))))) (fun _=>rfl)) (zh ahh)) (zh (zw (yx (N:=qd) (own:=3) (fr:=[]) ⟨rfl,by decide +kernel,of_decide_eq_true (by kernel_rfl),of_decide_eq_true (by kernel_rfl),of_decide_eq_true (by kernel_rfl),rfl⟩ rfl (aee (K:=K) rfl rfl uaq (za (pv 0) (za (pv 4) zc))) (fun _ _ _ _=>(zL (K:=K) (n:=2) rfl rfl (zk (zL (K:=K) (n:=2) rfl rfl (zk (zl (i:=0) (show (qd:List Str).Nodup by decide +kernel) rfl (Or.inl rfl) (Or.inr rfl)) (zk (zl (i:=1) (show (qd:List Str).Nodup by decide +kernel) rfl (Or.inr rfl) (Or.inl rfl)) zK))) (zk (zl (i:=2) (show (qd:List Str).Nodup by decide +kernel) rfl (Or.inl rfl) (Or.inr rfl)) zK)))) (fun _ _ _ _=>yi) (fun _ _ _ _=>(zJ (za (pv 0) (za (yz (jE (K:=K) rfl) rfl uaj alT (za (yx (N:=["i","path"]) (own:=1) (fr:=[1]) ⟨rfl,by decide +kernel,of_decide_eq_true (by kernel_rfl),of_decide_eq_true (by kernel_rfl),of_decide_eq_true (by kernel_rfl),rfl⟩ rfl (yd (K:=K) rfl (pv 2)) (fun _ _ _ _=>(zl (i:=0) (show (["i","path"]:List Str).Nodup by decide +kernel) rfl (Or.inl rfl) (Or.inr rfl))) (fun _ _ _ _=>yi) (fun _ _ _ _=>(zf (ze (K:=K) rfl) (pv 1) (pv 0) (fun _ _=>rfl))) rfl rfl (fun _=>rfl)) zc)) zc)))) rfl rfl (fun _=>rfl)))))))),?_⟩
 rintro f xs ⟨o,w,bd,pins⟩ hl ⟨rfl,g,b0,b1,hpin⟩
 try dsimp only [zV,zq]
 dsimp only at *
 refine aiu (adA (zR (zt (o,w) (zu (zp rfl (zY ⟨rfl,⟨rfl,g⟩,?_⟩))))))
 rintro _ rfl
 dsimp only
 refine zr (aiu (akn ?_))
 cases em:yq w with
 | some mt =>
  obtain⟨s0,t0⟩:=mt
  refine yL (vJ (zp rfl (.inr ⟨_,rfl,true,rfl,?_⟩)))
  rw [if_pos rfl]
  exact ahR (zu (zp rfl (zY ⟨_,rfl,rfl,_,rfl,rfl⟩)))
 | none =>
 cases hpin em
 refine yL (vJ (zp rfl (.inl ⟨rfl,false,rfl,?_⟩)))
 rw [if_neg akr]
 refine adA (yc (adA (aha (zM (ajr (ahT (yM (zp rfl ⟨_,rfl,by rw [akp];have:=g.len;omega,fun ρ=>∃ x y,ρ=[x,y],fun k r=>∃ l,w[k]?=some l/\r=(alc l.2.length).map fun (i:Nat)=>(i:Int),⟨_,_,rfl⟩,?_,?_⟩))))))))
 ·rintro D n d _ hd ⟨x,y,rfl⟩
  obtain⟨l,h1,rfl⟩:=y8 hd
  have f2:=g.few l (akC h1)
  refine jq rfl (zN (zr (zN (zr (yD ⟨⟨_,_,rfl⟩,aj6 ?_⟩)))))
  walk_at "w"
  rw [akp]
  exact⟨by omega,_,rfl,l,h1,rfl⟩
 ·intro rows hl2 hr2
  rw [akp] at hl2
  have ko:=KO.start w hl2 hr2
  refine⟨show 4<5 by decide,fun a as=>?_⟩
  refine agP (o,w,bd) (KO w) tot ko fun rows1 ko1=>zu (zp rfl (ajx rfl (zu (zp rfl (zu (zp rfl (zY ⟨rfl,⟨rfl,g,ko1,b0,b1⟩,fun rows2 b ⟨ko2,hb⟩=>⟨ko2,hb,fun _=>.inr ⟨rows2,rfl,rfl,?_⟩⟩⟩)))))))
  have wl:=g.len
  refine ye (PEdO.ped (jQ (aix (zu (zp rfl (zu (zp rfl (zY ⟨_,_,rfl,fun n ρ es=>(∃ x y z,ρ=[x,y,z])/\es.length=n,⟨⟨_,_,_,rfl⟩,rfl⟩,?_,fun _ _ _=>rfl⟩))))))))
  rintro D n d _ es hd ⟨⟨x,y,z,rfl⟩,he⟩
  obtain⟨l,r,h1,h2,rfl⟩:∃ l r,w[n]?=some l/\rows2[n]?=some r/\d=.tuple [lnD l,.list (r.map .int)]:=by
   unfold aff at hd
   rw [amo,akz,akz] at hd
   cases e1:w[n]? with
   | none=>rw [e1] at hd;cases hd
   | some l =>
    cases e2:rows2[n]? with
    | none=>rw [e1,e2] at hd;cases hd
    | some r=>rw [e1,e2] at hd;cases hd;exact⟨l,r,rfl,rfl,rfl⟩
  have hn:n<w.length:=(aks.mp h1).1
  have lm:=akC h1
  obtain⟨q1,q2⟩:=ko2.row n r l h2 h1
  have f2:=g.few l lm
  refine jq rfl (zN (jq rfl (zN (zr (zN (zr (yD (zN (zr (yD (ji ?_)))))))))))
  rw [if_pos rfl]
  refine yN (by omega) (vh (zu (zp rfl (zu ?_))))
  refine ad7 (zu (PEdO.ped (jQ (yM (zp rfl ⟨_,rfl,fun m ρ es=>(∃ u,ρ=[u,some (.dat (.tuple (l.2.map ptD)))])/\es.length=m,⟨⟨_,rfl⟩,rfl⟩,?_,fun _ es2 _=>zY (.inl ⟨_,rfl,zY ⟨_,rfl,ak1 rfl,⟨_,_,_,rfl⟩,by rw [akD,he];rfl⟩⟩)⟩)))))
  rintro D2 m d _ es3 hd2 ⟨⟨u,rfl⟩,he2⟩
  obtain⟨i,hi,rfl⟩:=y8 hd2
  have hm:m<r.length:=(aks.mp hi).1
  obtain⟨i0,i1⟩:=q2 i (akC hi)
  obtain⟨p,mp,hp⟩:=jS (F:=ptD) (xs:=l.2) (q:=i) (by omega) i1
  refine zr (ji ?_)
  rw [if_pos rfl]
  exact yN (by omega) (qJ (zp rfl ⟨_,rfl,zp rfl ⟨_,rfl,_,hp,⟨_,rfl⟩,by rw [akD,he2];rfl⟩⟩))
theorem vP:bootBuiltins "ValueError"=some (.type "ValueError"):=by kernel_rfl
noncomputable abbrev aeE (K:akq) (uab:Addr):Addr->Sp:=spM K 1 (fun a (x:XD) xs=>xs=[.mon (jR K a (.ref uab) x)]) fun _ r=>r=.bool true
theorem ahc {uat uau uav uaw uax uab uay uaz uaA uaB:Addr} (F:Def K mg "_law_alone" jO pY) (uag:mg "isinstance"=none) (uar:mg "any"=none) (uaH:mg "ValueError"=none)
  (uaI:mg "NoTable"=some (.ref uat)) (uaJ:mg "NoPoint"=some (.ref uau)) (uaK:mg "NoGate"=some (.ref uav)) (uaL:mg "NoRing"=some (.ref uaw)) (uaM:mg "TooSteep"=some (.ref uax)) (uas:mg "NoWeb"=some (.ref uab)) (uaN:mg "NoBack"=some (.ref uay)) (uaO:mg "NoText"=some (.ref uaz)) (uaP:mg "NoRow"=some (.ref uaA)) (uaQ:mg "NoDeed"=some (.ref uaB))
  (uam:vI K uab=true) (kt0:akI K (.ref uab) (.ref uab)=some true) (ktv:akI K (.ref uab) (.type "ValueError")=some true) (kt1:akI K (.ref uab) (.ref uau)=some false) (kt2:akI K (.ref uab) (.ref uav)=some false) (kt3:akI K (.ref uab) (.ref uaw)=some false) (kt4:akI K (.ref uab) (.ref uax)=some false) (kt5:akI K (.ref uab) (.ref uat)=some false) (kt6:akI K (.ref uab) (.ref uay)=some false) (kt7:akI K (.ref uab) (.ref uaz)=some false) (kt8:akI K (.ref uab) (.ref uaA)=some false) (kt9:akI K (.ref uab) (.ref uaB)=some false) :
  FnInM P w K mg base (k+1) "_law_alone" pY (aeE K uab):=by
 have W:=aei uam
 refine F.okM sc_law_alone rfl fun fa cdv A outer s H ea hM hr=>⟨_,(zd (zz (i:=1) sc_law_alone.nd rfl (Or.inl rfl) (ya (za (zo (yy (K:=K) rfl) rfl uag boot_isinstance (za (pv 0) (za (y9 (v:=.ref uau) rfl uaJ rfl) zc))) (za (zo (yy (K:=K) rfl) rfl uag boot_isinstance (za (pv 0) (za (y9 (v:=.ref uav) rfl uaK rfl) zc))) (za (zo (yy (K:=K) rfl) rfl uag boot_isinstance (za (pv 0) (za (y9 (v:=.ref uaw) rfl uaL rfl) zc))) zc))))) (zd (zz (i:=1) sc_law_alone.nd rfl (Or.inl rfl) (zi (yS (K:=K) rfl) (pv 1) (ya (za (zo (yy (K:=K) rfl) rfl uag boot_isinstance (za (pv 0) (za (y9 (v:=.ref uax) rfl uaM rfl) zc))) (za (zo (yy (K:=K) rfl) rfl uag boot_isinstance (za (pv 0) (za (y9 (v:=.ref uat) rfl uaI rfl) zc))) (za (zo (yy (K:=K) rfl) rfl uag boot_isinstance (za (pv 0) (za (y9 (v:=.ref uay) rfl uaN rfl) zc))) zc)))))) (zd (zz (i:=1) sc_law_alone.nd rfl (Or.inl rfl) (zi (yS (K:=K) rfl) (pv 1) (ya (za (zo (yy (K:=K) rfl) rfl uag boot_isinstance (za (pv 0) (za (y9 (v:=.ref uaz) rfl uaO rfl) zc))) (za (zo (yy (K:=K) rfl) rfl uag boot_isinstance (za (pv 0) (za (y9 (v:=.ref uaA) rfl uaP rfl) zc))) (za (zo (yy (K:=K) rfl) rfl uag boot_isinstance (za (pv 0) (za (y9 (v:=.ref uaB) rfl uaQ rfl) zc))) zc)))))) (zh (zw (vQ (zo (yy (K:=K) rfl) rfl uag boot_isinstance (za (pv 0) (za (y9 (v:=.ref uab) rfl uas rfl) zc))) (vQ (zo (yy (K:=K) rfl) rfl uag boot_isinstance (za (pv 0) (za (ahg (v:=.ty "ValueError") rfl uaH vP rfl) zc))) (aaA (afH (zo (afe (K:=K) rfl hM) rfl uar ana (za (pv 1) zc))))))))))),?_⟩
 rintro f xs x hl rfl
 try dsimp only [cxM,zV,zq]
 refine aed (fun ρ=>ρ=[some (.mon (jR K ea (.ref uab) x)),some (.dat (.list [.bool false,.bool false,.bool false]))]) ?_ ?_
 ·repeat (first | walk_at "dl" | refine adB rfl W (by assumption) ?_)
  rfl
 rintro _ rfl
 refine aed (fun ρ=>ρ=[some (.mon (jR K ea (.ref uab) x)),some (.dat (.list [.bool false,.bool false,.bool false,.bool false,.bool false,.bool false]))]) (zR (qi (zp rfl ⟨_,rfl,?_⟩))) ?_
 ·repeat (first | walk_at "dl" | refine adB rfl W (by assumption) ?_)
  rfl
 rintro _ rfl
 refine aed (fun ρ=>ρ=[some (.mon (jR K ea (.ref uab) x)),some (.dat (.list [.bool false,.bool false,.bool false,.bool false,.bool false,.bool false,.bool false,.bool false,.bool false]))]) (zR (qi (zp rfl ⟨_,rfl,?_⟩))) ?_
 ·repeat (first | walk_at "dl" | refine adB rfl W (by assumption) ?_)
  rfl
 rintro _ rfl
 refine ye (abV (agH rfl W (.inr ⟨_,rfl,kt0⟩) ⟨true,rfl,?_⟩))
 rw [if_pos rfl]
 refine abV (agH rfl W (.inl ⟨_,rfl,ktv⟩) ⟨true,rfl,?_⟩)
 rw [if_pos rfl]
 refine adn (ajp (j:=0) rfl (zp rfl ⟨[false,false,false,false,false,false,false,false,false],rfl,?_⟩))
 exact⟨_,rfl,rfl⟩
noncomputable def aat (w:Web):PyData:=match yq w with
 | none=>.tuple [.str "told"]
 | some m=>.tuple [.str "refused",qB (some m)]
noncomputable abbrev ahd (K:akq):Sp:=spD K 3 (fun (c:Pt×Web×Int×List PyData) xs=>xs=[.dat (yO c.2.1),.dat (.int c.2.2.1),.dat (.list c.2.2.2)]/\OkWeb c.1 c.2.1/\0<=c.2.2.1/\c.2.2.1<=1000000/\(yq c.2.1=none->c.2.2.2=[])) fun c r=>r=aat c.2.1
theorem ah5 {uab uaC:Addr} (F:Def K mg "_law_told" qw pZ) (uaD:mg "HeightError"=some (.ref uaC)) (I_NoWeb:InitOk P w K mg base 1 uab "at") (uam:vI K uab=true) (eh:amj K (.ref uab) (.ref uaC)=some true)
  (ubI:FnInF P w K mg base k "thinned" pL (ahb K uab)) (ubJ:FnInM P w K mg base k "_law_alone" pY (aeE K uab)):FnIn P w K mg base (k+1) "_law_told" pZ (ahd K):=by
 obtain⟨fT,dT,T⟩:=I_NoWeb.fld
 have W:=aei uam
 obtain⟨_,_,ubK,ubL,ubM,ubN⟩:=ubI.ex
 refine F.ok sc_law_told rfl fun fa cdv A outer s H E hr=>⟨_,(zd (zz (i:=3) sc_law_told.nd rfl (Or.inl rfl) (zJ (za yJ zc))) (zd (ahQ (j:=4) (ahP ubK hr rfl ubL ubM ubN (za (pv 0) (za (pv 1) (za (pv 2) zc)))) sc_law_told.nd rfl rfl rfl rfl rfl uaD (fun _=>(zd (zz (i:=3) sc_law_told.nd rfl (Or.inl rfl) (zJ (za yJ zc))) (zh (zX (yF (K:=K) rfl (agK ubJ hr rfl (za (pv 4) zc)) (fun _=>rfl)) (zh (zz (i:=3) sc_law_told.nd rfl (Or.inl rfl) (zJ (za yJ (za (afc (K:=K) rfl (pv 4)) zc))))) zF))))) (zh (zw (pv 3))))),?_⟩
 rintro f xs ⟨o,w,bd,pins⟩ hl ⟨rfl,g,b0,b1,hpin⟩
 try dsimp only [zV,zq]
 dsimp only at *
 refine zM (zR (vh (zu (ad1 (zY ⟨_,rfl,by show 1<=1000;decide,zr ?_⟩)))))
 refine zM (ajn (ajm (o,w,bd,pins) (zu (zp rfl (zu (zp rfl (zu (zp rfl (zY ⟨rfl,⟨rfl,g,b0,b1,hpin⟩,fun r hm=>?_,?_⟩)))))))))
 ·exact ye (zp rfl (by unfold aat;rw [show yq w=none from hm]))
 rintro _ _ ⟨rfl,m,hm,rfl⟩
 refine⟨eh,fun a=>zM (zR (vh (zu (ad1 (zY ⟨_,rfl,by show 1<=1000;decide,zr ?_⟩)))))⟩
 refine jV (qA (zt _ (aj2 (v_var rfl (zY ⟨rfl,rfl,?_⟩)))))
 rintro _ rfl
 refine⟨true,rfl,?_⟩
 rw [if_pos rfl]
 refine zR (vh (zu (ad1 (zu (agI rfl T W (zY ⟨_,rfl,by show 2<=1000;decide,zr ?_⟩))))))
 exact ye (zp rfl (by unfold aat;rw [show yq w=some m from hm]))
noncomputable def aeF (K:akq):Sp:=fun vs H Q _=>∃ (a:Addr) (ns:List Int),vs=[.ref a]/\SqL K H a (ns.map V.int)/\ns.length<=63/\∀ H',Q (.bl true) H'
theorem ah6 {K:akq} {f:Fx} {t:TA} {ρ:zy} {R R':List DV->Prop} (h:PAd K f t ρ R) (i:∀ xs,R xs->R' xs):PAd K f t ρ R':=fun σ H Q e q=>h σ H Q e fun xs vs H' g r p=>q xs vs H' g r (i xs p)
theorem ajy {K:akq} {ρ:zy} {ns:List Int} {i:Int} {E2:XK} (h0:ρ[0]?=some (some (.dat (scr ns)))) (h1:ρ[1]?=some (some (.dat (.int i)))) (hl:ns.length<=63) (i0:0<=i) (i1:i<=63) :
  ∀ (σ:L2.St) (H:Hp) (Q:VK),EnvOk K L2.f0 ρ σ H->(∀ (p:Addr) (x y:Int) (H':Hp),Same H H'->H p=none->H' p=some (.lst [.int x,.int y])->0<=x->0<=y->y<2147483647->Q (.ref p) H')->yZ (adQ K) [] E2 (zG (zO 0) (zG (zO 1) yR)) σ H Q:=by
 intro σ H Q e q
 obtain⟨v0,hv0,r0⟩:=e.get 0 _ h0
 obtain⟨v1,hv1,r1⟩:=e.get 1 _ h1
 obtain⟨a,rfl,hS⟩:=ah0 r0
 have e1:v1=.int i:=rep_int.mp (show Rep K (hide H L2.f0) (.int i) v1 from r1)
 subst e1
 exact⟨_,hv0,_,hv1,a,ns,i,rfl,hS,hl,i0,i1,q⟩
theorem aco {α:Type} {F:α->PyData} {n:Nat} (h:∀ x,(F x).depth<=n):∀ xs:List α,alq (xs.map F)<=n
 | []=>by simp [alq]
 | x :: xs=>by
  have h1:=h x
  have h2:=aco h xs
  show max (F x).depth (alq (xs.map F))<=n
  omega
theorem ajz (l:Ln):(lnD l).depth<=10:=by
 have h:alq (l.2.map ptD)<=5:=aco (fun p=>by simp [ptD,al7,alq]) l.2
 simp [lnD,al7,alq]
 omega
theorem ah7 (w:Web):min (PyData.list (w.map lnD)).depth (PyData.list (w.map lnD)).depth<=60:=by
 have h:alq (w.map lnD)<=10:=aco ajz w
 simp [al7]
 omega
theorem ajA {n:Nat} {w:Web} (h:FarWeb n 1000000000002 w) (hn:n<=20):OkWeb (-1000000000002,-1000000000002) w:=by
 refine⟨akV h.len hn,h.two,fun l hl=>akV (h.few l hl) (by decide),fun l hl p hp=>?_⟩
 obtain⟨a,b,c,d⟩:=h.far l hl p hp
 exact⟨by dsimp only;omega,by dsimp only;omega,by dsimp only;omega,by dsimp only;omega⟩
theorem ah8 (w:Web):(aat w).canLay0=true/\(aat w).depth<=60:=by
 have c1:(PyData.str "told").canLay0=true:=by decide +kernel
 have c2:(PyData.str "refused").canLay0=true:=by decide +kernel
 unfold aat
 cases yq w with
 | none =>
  refine⟨?_,by show 1<=60;decide⟩
  show ((PyData.str "told").canLay0 && true)=true
  rw [c1];rfl
 | some m =>
  refine⟨?_,ak1 rfl⟩
  show ((PyData.str "refused").canLay0 && ((qB (some m)).canLay0 && true))=true
  rw [c2];rfl
theorem ajB {f:Addr} {fd:FuncData} (F:Fun K "law" "law" aal f fd) (uaa:mg "len"=none) (uac:mg "range"=none) (uaf:mg "max"=none) (uae:mg "min"=none) (uai:mg "list"=none) (ual:mg "int"=none)
  (ubO:FnIn P w K mg base k "_law_feed" pP (adQ K)) (ubP:FnIn P w K mg base k "_law_clean" pS (aeu K)) (ubQ:FnIn P w K mg base k "_law_spoilt" pX (ac6 K)) (uad:FnIn P w K mg base k "_law_draw" pf (qQ K))
  (ubR:FnIn P w K mg base k "_law_meeting" pj (aaZ K)) (ubS:FnIn P w K mg base k "_law_told" pZ (ahd K)) :
  FnOk P w K mg base CX0 (k+1) f fd qa (aeF K):=by
 refine F.ok sc_law (fun vs H Q E h=>?_) fun cdv A outer s H vs Q E hr hs=>⟨_,(zd (yK akZ rfl (yr rfl uac (za (zo (y3 rfl) rfl uaf boot_max (za zb (za (zo (y4 rfl) rfl uae boot_min (za zb (za (zo (zE (K:=K) rfl) rfl uaa akH (za (pv 0) zc)) zc))) zc))) zc)) (zl (i:=1) sc_law.nd rfl (Or.inl rfl) (Or.inr rfl)) (zd (zz (i:=2) sc_law.nd rfl (Or.inl rfl) (zg ubO hr rfl (za (pv 0) (za (pv 1) zc)))) (zd (zz (i:=3) sc_law.nd rfl (Or.inl rfl) (zg ubQ hr rfl (za (pv 2) (za (zg ubP hr rfl (za (pv 2) (za zb zc))) zc)))) (zd (zz (i:=4) sc_law.nd rfl (Or.inl rfl) (yz (aaM (K:=K) rfl) rfl uai alU (za (pv 3) zc))) (zd (zz (i:=5) sc_law.nd rfl (Or.inl rfl) (zf (zA (K:=K) rfl) (ya (za zb (za zb (za (zi vS zb zb) zc)))) (zg uad hr rfl (za (pv 2) (za zb zc))) (fun _ _=>rfl))) (zd (zz (i:=6) sc_law.nd rfl (Or.inl rfl) (zg ubR hr rfl (za (pv 4) zc))) (zd (zz (i:=7) sc_law.nd rfl (Or.inl rfl) (ya zc)) (zd (zX (PW.pt (qF (zD abL (pv 6) aaz (zB _)) (qR (zD (zZ (K:=K) rfl hr.units) (zg uad hr rfl (za (pv 2) (za zb zc))) zb (zB _))))) (zh (zz (i:=7) sc_law.nd rfl (Or.inl rfl) (ya (za (zJ (za (zi vS zb zb) (za (zi zI zb (zi vS zb zb)) zc))) zc)))) zF) (zh (yK akZ rfl (yr rfl uac (za zb zc)) (zl (i:=8) sc_law.nd rfl (Or.inl rfl) (Or.inr rfl)) (zd (zz (i:=9) sc_law.nd rfl (Or.inl rfl) (zg ubS hr rfl (za (pv 3) (za (pv 5) (za (pv 7) zc))))) (zh (zX (PW.pt (acp (zD (abW (K:=K) rfl hr.units) (pv 3) (pv 4) (zB _)) (abJ (zD (abW (K:=K) rfl hr.units) (pv 9) (zf (zA (K:=K) rfl) (ya (za (zJ (za yJ zc)) (za (zJ (za yJ (za (pv 6) zc))) zc))) (yz vT rfl ual amq (za (z8 abL (pv 6) aaz (zB _)) zc)) (fun _ _=>rfl)) (zB _))))) (zh (zw qE)) zF))))))))))))) (zh (zw qE))),?_⟩
 ·obtain⟨a,ns,rfl,_⟩:=h
  rfl
 obtain⟨a,ns,rfl,hS,h63,q⟩:=hs
 have e0:EnvOk K L2.f0 (jm aem [.dat (scr ns)]) (start aem [.ref a]) H:=y7 (.cons (aer hS) .nil) (L2.fok0 H)
 suffices h:PSd K L2.f0 _ (jm aem [.dat (scr ns)]) { nx:=fun _=>False,rt:=fun d=>d=.bool true } from
  h _ H _ e0 (fun _ _ _ _ _ z=>z.elim) (fun d v H' _ r z=>by
   subst z
   rw [rep_bool.mp r]
   exact q H') (fun _ _ _ _ _ z=>z) (fun _ _ _ _ _ z=>z)
 refine zM (vD (ja (ah6 (R:=fun xs=>∃ j:Int,xs=[.dat (.int j)]/\0<=j/\j<=63) ?_ ?_)))
 ·walk_at "w"
  rw [akp]
  split <;> split <;> omega
 rintro _ ⟨j,rfl,j0,j1⟩
 refine⟨j,rfl,by omega,by omega,fun i ρ=>∃ x1 x2 x3 x4 x5 x6 x7 x8 x9,ρ=[some (.dat (scr ns)),x1,x2,x3,x4,x5,x6,x7,x8,x9],⟨_,_,_,_,_,_,_,_,_,rfl⟩,?_,?_⟩
 ·rintro i d _ hi ⟨x1,x2,x3,x4,x5,x6,x7,x8,x9,rfl⟩
  obtain⟨hi,rfl⟩:=j5 hi
  refine zr (ai6 (ajy rfl rfl h63 (by omega) (by omega)) fun p=>?_)
  refine zM (zR (ahJ (adm rfl (zu (zt 24 ?_)))))
  walk_at "w"
  rintro _ ⟨w0,rfl,hw0⟩
  refine zY ⟨w0,rfl,⟨rfl,hw0⟩,?_⟩
  rintro _ ⟨w,rfl,hw⟩
  have okw:=ajA hw (by decide)
  refine zr (zM (zR (acB ?_)))
  walk_at "w"
  refine zt 3 ?_
  walk_at "w"
  rintro _ ⟨bq,rfl,q0,q1⟩
  obtain⟨bd,hb,b0,b1⟩:∃ bd:Int,atI [PyData.int 0,PyData.int 1,PyData.int (10 ^ amG 6)] bq=some (.int bd)/\0<=bd/\bd<=1000000:=by
   rcases (show bq=0 \/ bq=1 \/ bq=2 by omega) with rfl | rfl | rfl
   ·exact⟨0,rfl,by decide,by decide⟩
   ·exact⟨1,rfl,by decide,by decide⟩
   ·exact⟨10 ^ amG 6,rfl,by decide,by decide⟩
  refine⟨_,rfl,_,hb,?_⟩
  refine zr (zM (zR (zt ((-1000000000002,-1000000000002),w) ?_)))
  walk_at "w"
  rintro _ rfl
  dsimp only
  refine zr (zM (zR (PEdO.ped (ad4 (zr ?_)))))
  have lw:=aet w
  have dw:=ah7 w
  have dl:=ah8 w
  refine aed (fun ρ=>∃ pins,(yq w=none->pins=[])/\ρ=[some (.dat (scr ns)),some (.dat (.int i)),some .feed,some (.dat (.list (w.map lnD))),some (.dat (.list (w.map lnD))),some (.dat (.int bd)),some (.dat (qB (yq w))),some (.dat (.list pins)),x8,x9]) ?_ ?_
  ·cases em:yq w with
   | none =>
    refine jV (af3 (yL (vJ (zp rfl (.inl ⟨rfl,false,rfl,?_⟩)))))
    rw [if_neg akr,if_neg akr]
    exact yc ⟨[],fun _=>rfl,rfl⟩
   | some m =>
    obtain⟨m1,m2⟩:=m
    refine jV (af3 (yL (vJ (zp rfl (.inr ⟨_,rfl,true,rfl,?_⟩)))))
    rw [if_pos rfl]
    refine yL (aaL (zt 2 ?_))
    walk_at "w"
    rintro _ ⟨z,rfl,_,_⟩
    refine jU ⟨rfl,rfl,ak1 rfl,_,rfl,?_⟩
    refine zQ (fun _=>?_) fun _=>?_
    ·walk_at "w"
     exact⟨_,(fun z=>nomatch z),rfl⟩
    ·exact yc ⟨[],fun _=>rfl,rfl⟩
  rintro _ ⟨pins,hpin,rfl⟩
  refine vD (ja ?_)
  walk_at "w"
  refine⟨fun n ρ=>∃ x8 x9,ρ=[some (.dat (scr ns)),some (.dat (.int i)),some .feed,some (.dat (.list (w.map lnD))),some (.dat (.list (w.map lnD))),some (.dat (.int bd)),some (.dat (qB (yq w))),some (.dat (.list pins)),x8,x9],⟨_,_,rfl⟩,?_,?_⟩
  ·rintro n d _ hd ⟨x8,x9,rfl⟩
   refine zr (zM (zR (zt ((-1000000000002,-1000000000002),w,bd,pins) (zu (zp rfl (zu (zp rfl (zu (zp rfl (zY ⟨rfl,⟨rfl,okw,b0,b1,hpin⟩,?_⟩))))))))))
   rintro _ rfl
   refine zr ?_
   walk_at "w"
   rw [if_pos rfl,anl _ lw,alK,if_neg akr]
   refine yL (aaL (zp rfl (vB ?_)))
   walk_at "w"
   refine vJ (zp rfl ?_)
   cases em:yq w with
   | none =>
    have ed:aat w=.tuple [.str "told"]:=by unfold aat;rw [em]
    refine .inl ⟨rfl,zY (.inr ⟨false,rfl,_,rfl,aat w,by rw [ed];rfl,dl.1,dl.1,akV (Nat.min_le_left _ _) dl.2,_,rfl,?_⟩)⟩
    rw [if_pos rfl,anl _ dl.1,alK,if_neg akr]
    exact yc ⟨_,_,rfl⟩
   | some m =>
    obtain⟨m1,m2⟩:=m
    have ed:aat w=.tuple [.str "refused",qB (some (m1,m2))]:=by unfold aat;rw [em]
    refine .inr ⟨_,rfl,zY (.inr ⟨true,rfl,_,rfl,aat w,by rw [ed];rfl,dl.1,dl.1,akV (Nat.min_le_left _ _) dl.2,_,rfl,?_⟩)⟩
    rw [if_pos rfl,anl _ dl.1,alK,if_neg akr]
    exact yc ⟨_,_,rfl⟩
  ·rintro _ ⟨x8,x9,rfl⟩
   exact⟨_,_,_,_,_,_,_,_,_,rfl⟩
 ·rintro _ ⟨x1,x2,x3,x4,x5,x6,x7,x8,x9,rfl⟩
  exact ye (ahv rfl)
end
theorem _root_.L2.FnIn.m {P w K mg base j k x ps sp} (h:FnIn P w K mg base j x ps sp) (hk:j<=k:=by decide):FnIn P w K mg base k x ps sp:=h.mono hk
theorem _root_.L2.FnInF.m {P w K mg base j k x ps sp} (h:FnInF P w K mg base j x ps sp) (hk:j<=k:=by decide):FnInF P w K mg base k x ps sp:=h.mono hk
theorem _root_.L2.FnInM.m {P w K mg base j k x ps sp} (h:FnInM P w K mg base j x ps sp) (hk:j<=k:=by decide):FnInM P w K mg base k x ps sp:=h.mono hk
theorem xf1 {K:amF} {h:Heap} {mg:Str->Option Value} {x:Str} {st:Stmt} {f:Addr} {od an:Option Addr} {sl:Array (Option Value)} {oc kV dc pm cd ct:Value} (X:K.In h) (G:h.Ns mainGlobals mg) (a:FD K x st f od an sl oc kV dc pm cd ct) {p0:Str} (hb:∀ (kV doc pm:Value) (an:Option Addr) (cdv ct:Value) (u0:Value),bindArgs (ak6 x x (yA st) (z6 st) (zj st) .none kV doc pm an cdv ct) ⟨[u0],[]⟩=pure ([p0].zip [u0])):Def K mg x st [p0]:=agL X G a (fun _ _ _ _ _ _ us hl=>match us,hl with | [u0],_=>hb _ _ _ _ _ _ u0)
theorem xf2 {K:amF} {h:Heap} {mg:Str->Option Value} {x:Str} {st:Stmt} {f:Addr} {od an:Option Addr} {sl:Array (Option Value)} {oc kV dc pm cd ct:Value} (X:K.In h) (G:h.Ns mainGlobals mg) (a:FD K x st f od an sl oc kV dc pm cd ct) {p0 p1:Str} (hb:∀ (kV doc pm:Value) (an:Option Addr) (cdv ct:Value) (u0 u1:Value),bindArgs (ak6 x x (yA st) (z6 st) (zj st) .none kV doc pm an cdv ct) ⟨[u0,u1],[]⟩=pure ([p0,p1].zip [u0,u1])):Def K mg x st [p0,p1]:=agL X G a (fun _ _ _ _ _ _ us hl=>match us,hl with | [u0,u1],_=>hb _ _ _ _ _ _ u0 u1)
theorem xf3 {K:amF} {h:Heap} {mg:Str->Option Value} {x:Str} {st:Stmt} {f:Addr} {od an:Option Addr} {sl:Array (Option Value)} {oc kV dc pm cd ct:Value} (X:K.In h) (G:h.Ns mainGlobals mg) (a:FD K x st f od an sl oc kV dc pm cd ct) {p0 p1 p2:Str} (hb:∀ (kV doc pm:Value) (an:Option Addr) (cdv ct:Value) (u0 u1 u2:Value),bindArgs (ak6 x x (yA st) (z6 st) (zj st) .none kV doc pm an cdv ct) ⟨[u0,u1,u2],[]⟩=pure ([p0,p1,p2].zip [u0,u1,u2])):Def K mg x st [p0,p1,p2]:=agL X G a (fun _ _ _ _ _ _ us hl=>match us,hl with | [u0,u1,u2],_=>hb _ _ _ _ _ _ u0 u1 u2)
theorem xf4 {K:amF} {h:Heap} {mg:Str->Option Value} {x:Str} {st:Stmt} {f:Addr} {od an:Option Addr} {sl:Array (Option Value)} {oc kV dc pm cd ct:Value} (X:K.In h) (G:h.Ns mainGlobals mg) (a:FD K x st f od an sl oc kV dc pm cd ct) {p0 p1 p2 p3:Str} (hb:∀ (kV doc pm:Value) (an:Option Addr) (cdv ct:Value) (u0 u1 u2 u3:Value),bindArgs (ak6 x x (yA st) (z6 st) (zj st) .none kV doc pm an cdv ct) ⟨[u0,u1,u2,u3],[]⟩=pure ([p0,p1,p2,p3].zip [u0,u1,u2,u3])):Def K mg x st [p0,p1,p2,p3]:=agL X G a (fun _ _ _ _ _ _ us hl=>match us,hl with | [u0,u1,u2,u3],_=>hb _ _ _ _ _ _ u0 u1 u2 u3)
theorem xf5 {K:amF} {h:Heap} {mg:Str->Option Value} {x:Str} {st:Stmt} {f:Addr} {od an:Option Addr} {sl:Array (Option Value)} {oc kV dc pm cd ct:Value} (X:K.In h) (G:h.Ns mainGlobals mg) (a:FD K x st f od an sl oc kV dc pm cd ct) {p0 p1 p2 p3 p4:Str} (hb:∀ (kV doc pm:Value) (an:Option Addr) (cdv ct:Value) (u0 u1 u2 u3 u4:Value),bindArgs (ak6 x x (yA st) (z6 st) (zj st) .none kV doc pm an cdv ct) ⟨[u0,u1,u2,u3,u4],[]⟩=pure ([p0,p1,p2,p3,p4].zip [u0,u1,u2,u3,u4])):Def K mg x st [p0,p1,p2,p3,p4]:=agL X G a (fun _ _ _ _ _ _ us hl=>match us,hl with | [u0,u1,u2,u3,u4],_=>hb _ _ _ _ _ _ u0 u1 u2 u3 u4)
set_option autoImplicit true in
set_option relaxedAutoImplicit true in
theorem all_mk {l:PySem.W.OpenLaw} {w:World} {K:akq} {h:Heap} {mg:Str->Option Value} {fa:Addr} (X:K.In h) (G:h.Ns mainGlobals mg) (hfa:mg "law"=some (.ref fa))
  (a1:FD K "meeting" qZ f1 od1 an1 sl1 oc1 kV1 dc1 pm1 cd1 ct1)
  (a2:FD K "segments" qp f2 od2 an2 sl2 oc2 kV2 dc2 pm2 cd2 ct2)
  (a3:FD K "many_segments" yG f3 od3 an3 sl3 oc3 kV3 dc3 pm3 cd3 ct3)
  (a4:FD K "meets" aaw f4 od4 an4 sl4 oc4 kV4 dc4 pm4 cd4 ct4)
  (a5:FD K "closes" vK f5 od5 an5 sl5 oc5 kV5 dc5 pm5 cd5 ct5)
  (a6:FD K "turns_back" jt f6 od6 an6 sl6 oc6 kV6 dc6 pm6 cd6 ct6)
  (a7:FD K "turn" acb f7 od7 an7 sl7 oc7 kV7 dc7 pm7 cd7 ct7)
  (a8:FD K "touches" va f8 od8 an8 sl8 oc8 kV8 dc8 pm8 cd8 ct8)
  (a9:FD K "apart" aax f9 od9 an9 sl9 oc9 kV9 dc9 pm9 cd9 ct9)
  (a10:FD K "lies_near" jG f10 od10 an10 sl10 oc10 kV10 dc10 pm10 cd10 ct10)
  (a11:FD K "thinned" vb f11 od11 an11 sl11 oc11 kV11 dc11 pm11 cd11 ct11)
  (a12:FD K "let_go" vL f12 od12 an12 sl12 oc12 kV12 dc12 pm12 cd12 ct12)
  (a13:FD K "kept_keys" jH f13 od13 an13 sl13 oc13 kV13 dc13 pm13 cd13 ct13)
  (a14:FD K "may_go" vM f14 od14 an14 sl14 oc14 kV14 dc14 pm14 cd14 ct14)
  (a15:FD K "is_spare" qq f15 od15 an15 sl15 oc15 kV15 dc15 pm15 cd15 ct15)
  (a16:FD K "kept_beside" je f16 od16 an16 sl16 oc16 kV16 dc16 pm16 cd16 ct16)
  (a17:FD K "indexes_between" yw f17 od17 an17 sl17 oc17 kV17 dc17 pm17 cd17 ct17)
  (a18:FD K "kept_points" jf f18 od18 an18 sl18 oc18 kV18 dc18 pm18 cd18 ct18)
  (a19:FD K "lies_in_field" yH f19 od19 an19 sl19 oc19 kV19 dc19 pm19 cd19 ct19)
  (a20:FD K "_law_feed" qr f20 od20 an20 sl20 oc20 kV20 dc20 pm20 cd20 ct20)
  (a21:FD K "_law_draw" qt f21 od21 an21 sl21 oc21 kV21 dc21 pm21 cd21 ct21)
  (a22:FD K "_law_either" ju f22 od22 an22 sl22 oc22 kV22 dc22 pm22 cd22 ct22)
  (a23:FD K "_law_chain" jI f23 od23 an23 sl23 oc23 kV23 dc23 pm23 cd23 ct23)
  (a24:FD K "_law_ring" qu f24 od24 an24 sl24 oc24 kV24 dc24 pm24 cd24 ct24)
  (a25:FD K "_law_bundle" jv f25 od25 an25 sl25 oc25 kV25 dc25 pm25 cd25 ct25)
  (a26:FD K "_law_clean" jJ f26 od26 an26 sl26 oc26 kV26 dc26 pm26 cd26 ct26)
  (a27:FD K "_law_turn" qv f27 od27 an27 sl27 oc27 kV27 dc27 pm27 cd27 ct27)
  (a28:FD K "_law_apart" jK f28 od28 an28 sl28 oc28 kV28 dc28 pm28 cd28 ct28)
  (a29:FD K "_law_touch" jL f29 od29 an29 sl29 oc29 kV29 dc29 pm29 cd29 ct29)
  (a30:FD K "_law_folds" jM f30 od30 an30 sl30 oc30 kV30 dc30 pm30 cd30 ct30)
  (a31:FD K "_law_segments" yW f31 od31 an31 sl31 oc31 kV31 dc31 pm31 cd31 ct31)
  (a32:FD K "_law_bad" vc f32 od32 an32 sl32 oc32 kV32 dc32 pm32 cd32 ct32)
  (a33:FD K "_law_meeting" jg f33 od33 an33 sl33 oc33 kV33 dc33 pm33 cd33 ct33)
  (a34:FD K "_law_moved" jN f34 od34 an34 sl34 oc34 kV34 dc34 pm34 cd34 ct34)
  (a35:FD K "_law_spoilt" jw f35 od35 an35 sl35 oc35 kV35 dc35 pm35 cd35 ct35)
  (a36:FD K "_law_alone" jO f36 od36 an36 sl36 oc36 kV36 dc36 pm36 cd36 ct36)
  (a37:FD K "_law_told" qw f37 od37 an37 sl37 oc37 kV37 dc37 pm37 cd37 ct37)
  (a38:FD K "law" aal f38 od38 an38 sl38 oc38 kV38 dc38 pm38 cd38 ct38)
  (uaR:akJ K mainGlobals "min"=some none)
  (uaS:akJ K mainGlobals "max"=some none)
  (uaT:akJ K mainGlobals "len"=some none)
  (uaU:akJ K mainGlobals "range"=some none)
  (uaV:akJ K mainGlobals "enumerate"=some none)
  (uaW:akJ K mainGlobals "int"=some none)
  (uaX:akJ K mainGlobals "abs"=some none)
  (uaY:akJ K mainGlobals "list"=some none)
  (uaZ:akJ K mainGlobals "reversed"=some none)
  (ua0:akJ K mainGlobals "tuple"=some none)
  (ua1:akJ K mainGlobals "sum"=some none)
  (ua2:akJ K mainGlobals "all"=some none)
  (ua3:akJ K mainGlobals "zip"=some none)
  (ua4:akJ K mainGlobals "any"=some none)
  (ua5:akJ K mainGlobals "isinstance"=some none)
  (ua6:akJ K mainGlobals "ValueError"=some none)
  {uab:Addr} (ua7:akJ K mainGlobals "NoWeb"=some (some (.ref uab)))
  {uat:Addr} (ua8:akJ K mainGlobals "NoTable"=some (some (.ref uat)))
  {uau:Addr} (ua9:akJ K mainGlobals "NoPoint"=some (some (.ref uau)))
  {uav:Addr} (uba:akJ K mainGlobals "NoGate"=some (some (.ref uav)))
  {uaw:Addr} (ubb:akJ K mainGlobals "NoRing"=some (some (.ref uaw)))
  {uax:Addr} (ubc:akJ K mainGlobals "TooSteep"=some (some (.ref uax)))
  {uay:Addr} (ubd:akJ K mainGlobals "NoBack"=some (some (.ref uay)))
  {uaz:Addr} (ube:akJ K mainGlobals "NoText"=some (some (.ref uaz)))
  {uaA:Addr} (ubf:akJ K mainGlobals "NoRow"=some (some (.ref uaA)))
  {uaB:Addr} (ubg:akJ K mainGlobals "NoDeed"=some (some (.ref uaB)))
  {uaC:Addr} (ubh:akJ K mainGlobals "HeightError"=some (some (.ref uaC)))
  {fI_NoWeb:Addr} {odI_NoWeb anI_NoWeb:Option Addr} {slI_NoWeb:Array (Option Value)} {ocI_NoWeb kVI_NoWeb dcI_NoWeb pmI_NoWeb cdI_NoWeb ctI_NoWeb:Value} (ii_NoWeb:ak8 K (.ref uab) "__init__"=some (some (.ref fI_NoWeb)))
  (li_NoWeb:K.lookup fI_NoWeb=some ⟨ocI_NoWeb,odI_NoWeb,.func (ak6 "__init__" "NoWeb.__init__" (yA j4) (z6 j4) (zj j4) .none kVI_NoWeb dcI_NoWeb pmI_NoWeb anI_NoWeb cdI_NoWeb ctI_NoWeb),slI_NoWeb⟩) (ci_NoWeb:al1 K cdI_NoWeb "NoWeb.__init__"=true) (ki_NoWeb:ak0 K (.ref fI_NoWeb)=true) (fi_NoWeb:vH K uab fI_NoWeb uaC "at"=true)
  (uam:vI K uab=true)
  (kt0:akI K (.ref uab) (.ref uab)=some true)
  (ktv:akI K (.ref uab) (.type "ValueError")=some true)
  (kt1:akI K (.ref uab) (.ref uau)=some false)
  (kt2:akI K (.ref uab) (.ref uav)=some false)
  (kt3:akI K (.ref uab) (.ref uaw)=some false)
  (kt4:akI K (.ref uab) (.ref uax)=some false)
  (kt5:akI K (.ref uab) (.ref uat)=some false)
  (kt6:akI K (.ref uab) (.ref uay)=some false)
  (kt7:akI K (.ref uab) (.ref uaz)=some false)
  (kt8:akI K (.ref uab) (.ref uaA)=some false)
  (kt9:akI K (.ref uab) (.ref uaB)=some false)
  (eh:amj K (.ref uab) (.ref uaC)=some true) :
  ∃ fd:FuncData,(∀ (s:Shared) (v:Value),BindsTo s fd ⟨[v],[]⟩ [("_law_script",v)])/\∀ base:Heap,K.In base->base.Ns mainGlobals mg->FnOk l.prog w K mg base CX0 9 fa fd qa (aeF K):=by
 have ubT:Def K mg "meeting" qZ ph:=xf1 X G a1 (fun _ _ _ _ _ _ _=>rfl)
 have ubU:Def K mg "segments" qp ph:=xf1 X G a2 (fun _ _ _ _ _ _ _=>rfl)
 have ubV:Def K mg "many_segments" yG pk:=xf2 X G a3 (fun _ _ _ _ _ _ _ _=>rfl)
 have ubW:Def K mg "meets" aaw pH:=xf3 X G a4 (fun _ _ _ _ _ _ _ _ _=>rfl)
 have ubX:Def K mg "closes" vK pI:=xf3 X G a5 (fun _ _ _ _ _ _ _ _ _=>rfl)
 have ubY:Def K mg "turns_back" jt pJ:=xf3 X G a6 (fun _ _ _ _ _ _ _ _ _=>rfl)
 have ubZ:Def K mg "turn" acb pq:=xf3 X G a7 (fun _ _ _ _ _ _ _ _ _=>rfl)
 have ub0:Def K mg "touches" va pd:=xf4 X G a8 (fun _ _ _ _ _ _ _ _ _ _=>rfl)
 have ub1:Def K mg "apart" aax pd:=xf4 X G a9 (fun _ _ _ _ _ _ _ _ _ _=>rfl)
 have ub2:Def K mg "lies_near" jG pK:=xf4 X G a10 (fun _ _ _ _ _ _ _ _ _ _=>rfl)
 have ub3:Def K mg "thinned" vb pL:=xf3 X G a11 (fun _ _ _ _ _ _ _ _ _=>rfl)
 have ub4:Def K mg "let_go" vL pM:=xf4 X G a12 (fun _ _ _ _ _ _ _ _ _ _=>rfl)
 have ub5:Def K mg "kept_keys" jH ["kept"]:=xf1 X G a13 (fun _ _ _ _ _ _ _=>rfl)
 have ub6:Def K mg "may_go" vM pN:=xf5 X G a14 (fun _ _ _ _ _ _ _ _ _ _ _=>rfl)
 have ub7:Def K mg "is_spare" qq pz:=xf3 X G a15 (fun _ _ _ _ _ _ _ _ _=>rfl)
 have ub8:Def K mg "kept_beside" je pO:=xf2 X G a16 (fun _ _ _ _ _ _ _ _=>rfl)
 have ub9:Def K mg "indexes_between" yw pA:=xf3 X G a17 (fun _ _ _ _ _ _ _ _ _=>rfl)
 have uca:Def K mg "kept_points" jf pB:=xf2 X G a18 (fun _ _ _ _ _ _ _ _=>rfl)
 have ucb:Def K mg "lies_in_field" yH pw:=xf2 X G a19 (fun _ _ _ _ _ _ _ _=>rfl)
 have ucc:Def K mg "_law_feed" qr pP:=xf2 X G a20 (fun _ _ _ _ _ _ _ _=>rfl)
 have ucd:Def K mg "_law_draw" qt pf:=xf2 X G a21 (fun _ _ _ _ _ _ _ _=>rfl)
 have uce:Def K mg "_law_either" ju pC:=xf2 X G a22 (fun _ _ _ _ _ _ _ _=>rfl)
 have ucf:Def K mg "_law_chain" jI pQ:=xf3 X G a23 (fun _ _ _ _ _ _ _ _ _=>rfl)
 have ucg:Def K mg "_law_ring" qu pD:=xf3 X G a24 (fun _ _ _ _ _ _ _ _ _=>rfl)
 have uch:Def K mg "_law_bundle" jv pR:=xf4 X G a25 (fun _ _ _ _ _ _ _ _ _ _=>rfl)
 have uci:Def K mg "_law_clean" jJ pS:=xf2 X G a26 (fun _ _ _ _ _ _ _ _=>rfl)
 have ucj:Def K mg "_law_turn" qv pE:=xf3 X G a27 (fun _ _ _ _ _ _ _ _ _=>rfl)
 have uck:Def K mg "_law_apart" jK pF:=xf3 X G a28 (fun _ _ _ _ _ _ _ _ _=>rfl)
 have ucl:Def K mg "_law_touch" jL pT:=xf2 X G a29 (fun _ _ _ _ _ _ _ _=>rfl)
 have ucm:Def K mg "_law_folds" jM pU:=xf3 X G a30 (fun _ _ _ _ _ _ _ _ _=>rfl)
 have ucn:Def K mg "_law_segments" yW pj:=xf1 X G a31 (fun _ _ _ _ _ _ _=>rfl)
 have uco:Def K mg "_law_bad" vc pV:=xf3 X G a32 (fun _ _ _ _ _ _ _ _ _=>rfl)
 have ucp:Def K mg "_law_meeting" jg pj:=xf1 X G a33 (fun _ _ _ _ _ _ _=>rfl)
 have ucq:Def K mg "_law_moved" jN pW:=xf4 X G a34 (fun _ _ _ _ _ _ _ _ _ _=>rfl)
 have ucr:Def K mg "_law_spoilt" jw pX:=xf2 X G a35 (fun _ _ _ _ _ _ _ _=>rfl)
 have ucs:Def K mg "_law_alone" jO pY:=xf1 X G a36 (fun _ _ _ _ _ _ _=>rfl)
 have uct:Def K mg "_law_told" qw pZ:=xf3 X G a37 (fun _ _ _ _ _ _ _ _ _=>rfl)
 have ucu:Def K mg "law" aal qa:=xf1 X G a38 (fun _ _ _ _ _ _ _=>rfl)
 have uae:=akP X G uaR
 have uaf:=akP X G uaS
 have uaa:=akP X G uaT
 have uac:=akP X G uaU
 have uak:=akP X G uaV
 have ual:=akP X G uaW
 have uaE:=akP X G uaX
 have uai:=akP X G uaY
 have uaF:=akP X G uaZ
 have uaj:=akP X G ua0
 have uao:=akP X G ua1
 have uaG:=akP X G ua2
 have uaq:=akP X G ua3
 have uar:=akP X G ua4
 have uag:=akP X G ua5
 have uaH:=akP X G ua6
 have uas:=ak9 X G ua7
 have uaI:=ak9 X G ua8
 have uaJ:=ak9 X G ua9
 have uaK:=ak9 X G uba
 have uaL:=ak9 X G ubb
 have uaM:=ak9 X G ubc
 have uaN:=ak9 X G ubd
 have uaO:=ak9 X G ube
 have uaP:=ak9 X G ubf
 have uaQ:=ak9 X G ubg
 have uaD:=ak9 X G ubh
 have e:=hfa.symm.trans (ak9 X G a38.1)
 cases e
 have F0:=abS (st:=aal) a38.2.1 a38.2.2.1 a38.2.2.2
 refine⟨ak6 "law" "law" (yA aal) (z6 aal) (zj aal) .none kV38 dc38 pm38 an38 cd38 ct38,fun s v=>.of_eq rfl,fun base _ _=>?_⟩
 have I_NoWeb:=abl (P:=l.prog) (w:=w) (base:=base) fi_NoWeb uaD (abS (st:=j4) li_NoWeb ci_NoWeb ki_NoWeb)
 have H0:=ah2 (P:=l.prog) (w:=w) (base:=base) (k:=0) ucc uaa uaE
 have H1:=ah1 (P:=l.prog) (w:=w) (base:=base) (k:=0) ucd
 have H2:=ag7 (P:=l.prog) (w:=w) (base:=base) (k:=0) ucq
 have H3:=acj (P:=l.prog) (w:=w) (base:=base) (k:=0) ucn uaa uac ual
 have H4:=ag1 (P:=l.prog) (w:=w) (base:=base) (k:=0) ucj
 have H5:=aft (P:=l.prog) (w:=w) (base:=base) (k:=0) uck uae uaf
 have H6:=ahX (P:=l.prog) (w:=w) (base:=base) (k:=0) ubV uaa
 have H7:=afp (P:=l.prog) (w:=w) (base:=base) (k:=0) ubX uaa
 have H8:=agV (P:=l.prog) (w:=w) (base:=base) (k:=0) ubZ
 have H9:=agW (P:=l.prog) (w:=w) (base:=base) (k:=0) ub1 uae uaf
 have H10:=acn (P:=l.prog) (w:=w) (base:=base) (k:=0) ub5 uak
 have H11:=ac7 (P:=l.prog) (w:=w) (base:=base) (k:=0) ub7 uaa
 have H12:=aa3 (P:=l.prog) (w:=w) (base:=base) (k:=0) ub8 uaa
 have H13:=vx (P:=l.prog) (w:=w) (base:=base) (k:=0) ub9 uac
 have H14:=aa5 (P:=l.prog) (w:=w) (base:=base) (k:=0) uca uaq
 have H15:=ahc (P:=l.prog) (w:=w) (base:=base) (k:=0) ucs uag uar uaH uaI uaJ uaK uaL uaM uas uaN uaO uaP uaQ uam kt0 ktv kt1 kt2 kt3 kt4 kt5 kt6 kt7 kt8 kt9
 have H16:=ag3 (k:=1) ucf uac H1.m
 have H17:=ah4 (k:=1) ucg H1.m
 have H18:=afx (k:=1) uce uai uaF H1.m
 have H19:=afA (k:=1) ucr uaa uao H1.m H2.m
 have H20:=afw (k:=1) ucm H4.m
 have H21:=afv (k:=1) ucl uae uaf uac H5.m H4.m
 have H22:=ac0 (k:=1) ubU uaa uac uak H6.m
 have H23:=abk (k:=1) ubY H8.m
 have H24:=adO (k:=1) ub0 H9.m H8.m
 have H25:=acm (k:=1) ub2 H8.m
 have H26:=aaa (k:=1) ucb uae uaf uaG H8.m
 have H27:=afy (k:=2) uch uac uaa uaf uae uaj H1.m H16.m H17.m H18.m
 have H28:=ahZ (k:=2) uco uaa H20.m H21.m
 have H29:=agY (k:=2) ubW H7.m H23.m H24.m
 have H30:=afB (k:=2) ub6 uaa uar H11.m H12.m H13.m H25.m H14.m H26.m
 have H31:=ag5 (k:=3) uci uac uaa uao ual uaj H1.m H27.m
 have H32:=ac2 (k:=3) ucp uaa uac H3.m H28.m
 have H33:=adP (k:=3) ubT uak H22.m H29.m
 have H34:=afC (k:=3) ub4 H10.m H30.m
 have H35:=adT (k:=4) ub3 uaa uai uac uaq uaj uas I_NoWeb H33.m H34.m
 have H36:=ah5 (k:=7) uct uaD I_NoWeb uam eh H35.m H15.m
 exact ajB (k:=8) F0 uaa uac uaf uae uai ual H0.m H31.m H19.m H1.m H32.m H36.m
theorem walk {l:PySem.W.OpenLaw} {q:Program} {loose:List Str} {XP:(Str->Option Value)->Heap->Prop} {YP:World->Heap->Prop} {d:DefRec} {K:Params->akq} (hn:l.most=some 63) (hdf:d.params.defaults=[])
  (hY:∀ (w:World) (h:Heap),YP w h->(K w.params).In h)
  (F:∀ (w:World) (mg:Str->Option Value) (fa:Addr) (h:Heap),(K w.params).In h->h.Ns mainGlobals mg->mg d.name=some (.ref fa) ->
   ∃ fd:FuncData,(∀ (s:Shared) (u:Value),BindsTo s fd ⟨[u],[]⟩ [("_law_script",u)])/\∀ base:Heap,(K w.params).In base->base.Ns mainGlobals mg->FnOk l.prog w (K w.params) mg base CX0 9 fa fd qa (aeF (K w.params))) :
  PySem.W.WalkO q loose XP YP l.row.toRowW d [] (fun f vs=>PySem.call f vs) :=
 L2.walk_of (n:=63) (k:=9) (x:="_law_script") (CX:=fun _=>CX0) (sp:=fun w=>aeF (K w.params)) hn (by decide) hdf ⟨rfl,by decide,by decide⟩ hY F (fun _ _ a ns hl _ hS=>⟨a,ns,rfl,hS,hl,fun _=>rfl⟩) fun _ _ _ _ _ z=>z
end My
noncomputable def PySem.W.Fast.tw10045496152171520007:Nat:=0
noncomputable def PySem.W.Fast.tw10086339485997906265:Nat:=0
noncomputable def PySem.W.Fast.tw10131507013967106719:Nat:=0
noncomputable def PySem.W.Fast.tw10248863589407980510:Nat:=0
noncomputable def PySem.W.Fast.tw10263489291200010839:Nat:=0
noncomputable def PySem.W.Fast.tw10295187302864044149:Nat:=0
noncomputable def PySem.W.Fast.tw10360703942804588431:Nat:=0
noncomputable def PySem.W.Fast.tw10440665035343382099:Nat:=0
noncomputable def PySem.W.Fast.tw10605175556049516194:Nat:=0
noncomputable def PySem.W.Fast.tw10987725092308112990:Nat:=0
noncomputable def PySem.W.Fast.tw11344687610559361851:Nat:=0
noncomputable def PySem.W.Fast.tw11369578405191277293:Nat:=0
noncomputable def PySem.W.Fast.tw11415410018007104724:Nat:=0
noncomputable def PySem.W.Fast.tw1143071053184424848:Nat:=0
noncomputable def PySem.W.Fast.tw11624825888629358281:Nat:=0
noncomputable def PySem.W.Fast.tw11645254788827753997:Nat:=0
noncomputable def PySem.W.Fast.tw11758103324585755151:Nat:=0
noncomputable def PySem.W.Fast.tw118850536024551183:Nat:=0
noncomputable def PySem.W.Fast.tw12065874078854632663:Nat:=0
noncomputable def PySem.W.Fast.tw12068116440621261229:Nat:=0
noncomputable def PySem.W.Fast.tw12074632225426602546:Nat:=0
noncomputable def PySem.W.Fast.tw12139645860289564038:Nat:=0
noncomputable def PySem.W.Fast.tw12156346623802680128:Nat:=0
noncomputable def PySem.W.Fast.tw12196024024918661971:Nat:=0
noncomputable def PySem.W.Fast.tw1226210843409644108:Nat:=0
noncomputable def PySem.W.Fast.tw12271802131444535186:Nat:=0
noncomputable def PySem.W.Fast.tw12349822176598579544:Nat:=0
noncomputable def PySem.W.Fast.tw12441720250529110105:Nat:=0
noncomputable def PySem.W.Fast.tw12456385418445802919:Nat:=0
noncomputable def PySem.W.Fast.tw12486843717194183133:Nat:=0
noncomputable def PySem.W.Fast.tw12548898343595749824:Nat:=0
noncomputable def PySem.W.Fast.tw12636404959065715477:Nat:=0
noncomputable def PySem.W.Fast.tw12773463915427466889:Nat:=0
noncomputable def PySem.W.Fast.tw12780700637259042579:Nat:=0
noncomputable def PySem.W.Fast.tw12871746214042692278:Nat:=0
noncomputable def PySem.W.Fast.tw12916787796584631581:Nat:=0
noncomputable def PySem.W.Fast.tw13197513777681265512:Nat:=0
noncomputable def PySem.W.Fast.tw13227239048758674679:Nat:=0
noncomputable def PySem.W.Fast.tw1351714219880319345:Nat:=0
noncomputable def PySem.W.Fast.tw13883270853718551159:Nat:=0
noncomputable def PySem.W.Fast.tw13892525834756854569:Nat:=0
noncomputable def PySem.W.Fast.tw14002723975577840358:Nat:=0
noncomputable def PySem.W.Fast.tw14166244925725497538:Nat:=0
noncomputable def PySem.W.Fast.tw14221405655259776753:Nat:=0
noncomputable def PySem.W.Fast.tw14235587706979501866:Nat:=0
noncomputable def PySem.W.Fast.tw1424642925730310729:Nat:=0
noncomputable def PySem.W.Fast.tw14294400844148706756:Nat:=0
noncomputable def PySem.W.Fast.tw14788578622142208636:Nat:=0
noncomputable def PySem.W.Fast.tw14806695994129505011:Nat:=0
noncomputable def PySem.W.Fast.tw15156516954965943796:Nat:=0
noncomputable def PySem.W.Fast.tw15167247102531408906:Nat:=0
noncomputable def PySem.W.Fast.tw1520865762312453424:Nat:=0
noncomputable def PySem.W.Fast.tw15310255978438727330:Nat:=0
noncomputable def PySem.W.Fast.tw15311659080839480151:Nat:=0
noncomputable def PySem.W.Fast.tw15458228075298217940:Nat:=0
noncomputable def PySem.W.Fast.tw15478827790187693104:Nat:=0
noncomputable def PySem.W.Fast.tw15506307636552486831:Nat:=0
noncomputable def PySem.W.Fast.tw15585034869793147569:Nat:=0
noncomputable def PySem.W.Fast.tw15659378075926629744:Nat:=0
noncomputable def PySem.W.Fast.tw15672632055951023004:Nat:=0
noncomputable def PySem.W.Fast.tw15769379042226722745:Nat:=0
noncomputable def PySem.W.Fast.tw15812858579354677620:Nat:=0
noncomputable def PySem.W.Fast.tw15871514222975551638:Nat:=0
noncomputable def PySem.W.Fast.tw16002605449237104693:Nat:=0
noncomputable def PySem.W.Fast.tw16094039173846978445:Nat:=0
noncomputable def PySem.W.Fast.tw16594335930789347675:Nat:=0
noncomputable def PySem.W.Fast.tw16660399297903545847:Nat:=0
noncomputable def PySem.W.Fast.tw16868034310621959885:Nat:=0
noncomputable def PySem.W.Fast.tw16902672147148408080:Nat:=0
noncomputable def PySem.W.Fast.tw16997713728398228278:Nat:=0
noncomputable def PySem.W.Fast.tw170286666772044123:Nat:=0
noncomputable def PySem.W.Fast.tw17157462565673918626:Nat:=0
noncomputable def PySem.W.Fast.tw17364427669583946330:Nat:=0
noncomputable def PySem.W.Fast.tw17624421401295072240:Nat:=0
noncomputable def PySem.W.Fast.tw17629835809458890542:Nat:=0
noncomputable def PySem.W.Fast.tw17775594730543188617:Nat:=0
noncomputable def PySem.W.Fast.tw17821596714238944971:Nat:=0
noncomputable def PySem.W.Fast.tw1791447543038394725:Nat:=0
noncomputable def PySem.W.Fast.tw18020343886290755190:Nat:=0
noncomputable def PySem.W.Fast.tw180205920368706485:Nat:=0
noncomputable def PySem.W.Fast.tw18103779773426864985:Nat:=0
noncomputable def PySem.W.Fast.tw18159211968868019722:Nat:=0
noncomputable def PySem.W.Fast.tw18208204993129649206:Nat:=0
noncomputable def PySem.W.Fast.tw18412400146389787211:Nat:=0
noncomputable def PySem.W.Fast.tw1864801648628282828:Nat:=0
noncomputable def PySem.W.Fast.tw2116706085139070125:Nat:=0
noncomputable def PySem.W.Fast.tw2163392667266765190:Nat:=0
noncomputable def PySem.W.Fast.tw2176578283827967412:Nat:=0
noncomputable def PySem.W.Fast.tw2340040945055875267:Nat:=0
noncomputable def PySem.W.Fast.tw2424564811867338073:Nat:=0
noncomputable def PySem.W.Fast.tw2426346134042426645:Nat:=0
noncomputable def PySem.W.Fast.tw2561185050952446246:Nat:=0
noncomputable def PySem.W.Fast.tw2768971561779175970:Nat:=0
noncomputable def PySem.W.Fast.tw2808543419812404643:Nat:=0
noncomputable def PySem.W.Fast.tw2824467590665288901:Nat:=0
noncomputable def PySem.W.Fast.tw2831054705532076313:Nat:=0
noncomputable def PySem.W.Fast.tw2857148696345795075:Nat:=0
noncomputable def PySem.W.Fast.tw3424818628203129794:Nat:=0
noncomputable def PySem.W.Fast.tw3538248190503395510:Nat:=0
noncomputable def PySem.W.Fast.tw3770882008814380392:Nat:=0
noncomputable def PySem.W.Fast.tw3842658740369765720:Nat:=0
noncomputable def PySem.W.Fast.tw3910345038964046938:Nat:=0
noncomputable def PySem.W.Fast.tw3924878703954308204:Nat:=0
noncomputable def PySem.W.Fast.tw4151000366190274472:Nat:=0
noncomputable def PySem.W.Fast.tw4205021189459526983:Nat:=0
noncomputable def PySem.W.Fast.tw4470535865983630792:Nat:=0
noncomputable def PySem.W.Fast.tw4842695641579096735:Nat:=0
noncomputable def PySem.W.Fast.tw4979529792110220522:Nat:=0
noncomputable def PySem.W.Fast.tw5209179263898858563:Nat:=0
noncomputable def PySem.W.Fast.tw5231036091616218642:Nat:=0
noncomputable def PySem.W.Fast.tw5333537611130439763:Nat:=0
noncomputable def PySem.W.Fast.tw5743034790378401204:Nat:=0
noncomputable def PySem.W.Fast.tw596226642968985295:Nat:=0
noncomputable def PySem.W.Fast.tw5965905154968258179:Nat:=0
noncomputable def PySem.W.Fast.tw6139669510759539591:Nat:=0
noncomputable def PySem.W.Fast.tw6248872432713633926:Nat:=0
noncomputable def PySem.W.Fast.tw6491491834546161652:Nat:=0
noncomputable def PySem.W.Fast.tw6520400528766038624:Nat:=0
noncomputable def PySem.W.Fast.tw6597728057631518831:Nat:=0
noncomputable def PySem.W.Fast.tw6821239693657079743:Nat:=0
noncomputable def PySem.W.Fast.tw6968179896396075638:Nat:=0
noncomputable def PySem.W.Fast.tw6979008614402887385:Nat:=0
noncomputable def PySem.W.Fast.tw7019913470578672931:Nat:=0
noncomputable def PySem.W.Fast.tw7036401952504801287:Nat:=0
noncomputable def PySem.W.Fast.tw7229831095510859871:Nat:=0
noncomputable def PySem.W.Fast.tw7272118172253396158:Nat:=0
noncomputable def PySem.W.Fast.tw7368121273519821622:Nat:=0
noncomputable def PySem.W.Fast.tw7440479399225239030:Nat:=0
noncomputable def PySem.W.Fast.tw7462209335267524742:Nat:=0
noncomputable def PySem.W.Fast.tw7462361826990103595:Nat:=0
noncomputable def PySem.W.Fast.tw7652377290543784788:Nat:=0
noncomputable def PySem.W.Fast.tw7821755835454236260:Nat:=0
noncomputable def PySem.W.Fast.tw7905794546356549393:Nat:=0
noncomputable def PySem.W.Fast.tw8102082290518912191:Nat:=0
noncomputable def PySem.W.Fast.tw8173208264450071325:Nat:=0
noncomputable def PySem.W.Fast.tw8315050589861125959:Nat:=0
noncomputable def PySem.W.Fast.tw8416366394329599911:Nat:=0
noncomputable def PySem.W.Fast.tw8417454876141874116:Nat:=0
noncomputable def PySem.W.Fast.tw8467725060510346393:Nat:=0
noncomputable def PySem.W.Fast.tw8666601669745550806:Nat:=0
noncomputable def PySem.W.Fast.tw8810724725878343319:Nat:=0
noncomputable def PySem.W.Fast.tw8950544494887111772:Nat:=0
noncomputable def PySem.W.Fast.tw9081879421403084342:Nat:=0
noncomputable def PySem.W.Fast.tw9240965072623549111:Nat:=0
noncomputable def PySem.W.Fast.tw9466449629373824664:Nat:=0
noncomputable def PySem.W.Fast.tw9541846579132528837:Nat:=0
noncomputable def PySem.W.Fast.tw9672851402192658360:Nat:=0
noncomputable def PySem.W.Fast.tw9846715840342566638:Nat:=0
noncomputable def PySem.W.Fast.tw9899525435970060950:Nat:=0
noncomputable def PySem.W.Fast.tw9970406215615058033:Nat:=0
open PySem PySem.W PyProof.Rows
set_option maxRecDepth 100000 in
set_option maxHeartbeats 0 in
theorem PySem.Challenge.cw_heightrings_k61_no_webs_holds : PySem.Challenge.rw_heightrings_k61_no_webs.Holds := by
 w_on;o_law;k_head;(case hw=>w_witness2)
 k_fill
 refine My.walk (l:=PySem.Challenge.rw_heightrings_k61_no_webs) rfl rfl (fun w h Y=>by first | exact PySem.W.kIn_of Y | exact PySem.W.km_in_of Y) ?F
 case F =>
  intro w mg fa h KX G hmg
  refine' My.all_mk KX G hmg ?a1 ?a2 ?a3 ?a4 ?a5 ?a6 ?a7 ?a8 ?a9 ?a10 ?a11 ?a12 ?a13 ?a14 ?a15 ?a16 ?a17 ?a18 ?a19 ?a20 ?a21 ?a22 ?a23 ?a24 ?a25 ?a26 ?a27 ?a28 ?a29 ?a30 ?a31 ?a32 ?a33 ?a34 ?a35 ?a36 ?a37 ?a38 ?uaR ?uaS ?uaT ?uaU ?uaV ?uaW ?uaX ?uaY ?uaZ ?ua0 ?ua1 ?ua2 ?ua3 ?ua4 ?ua5 ?ua6 ?ua7 ?ua8 ?ua9 ?uba ?ubb ?ubc ?ubd ?ube ?ubf ?ubg ?ubh ?ii_NoWeb ?li_NoWeb ?ci_NoWeb ?ki_NoWeb ?fi_NoWeb ?uam ?kt0 ?ktv ?kt1 ?kt2 ?kt3 ?kt4 ?kt5 ?kt6 ?kt7 ?kt8 ?kt9 ?eh
  (case a1=>refine⟨?_,?_,?_,?_⟩ <;> k_is)
  (case a2=>refine⟨?_,?_,?_,?_⟩ <;> k_is)
  (case a3=>refine⟨?_,?_,?_,?_⟩ <;> k_is)
  (case a4=>refine⟨?_,?_,?_,?_⟩ <;> k_is)
  (case a5=>refine⟨?_,?_,?_,?_⟩ <;> k_is)
  (case a6=>refine⟨?_,?_,?_,?_⟩ <;> k_is)
  (case a7=>refine⟨?_,?_,?_,?_⟩ <;> k_is)
  (case a8=>refine⟨?_,?_,?_,?_⟩ <;> k_is)
  (case a9=>refine⟨?_,?_,?_,?_⟩ <;> k_is)
  (case a10=>refine⟨?_,?_,?_,?_⟩ <;> k_is)
  (case a11=>refine⟨?_,?_,?_,?_⟩ <;> k_is)
  (case a12=>refine⟨?_,?_,?_,?_⟩ <;> k_is)
  (case a13=>refine⟨?_,?_,?_,?_⟩ <;> k_is)
  (case a14=>refine⟨?_,?_,?_,?_⟩ <;> k_is)
  (case a15=>refine⟨?_,?_,?_,?_⟩ <;> k_is)
  (case a16=>refine⟨?_,?_,?_,?_⟩ <;> k_is)
  (case a17=>refine⟨?_,?_,?_,?_⟩ <;> k_is)
  (case a18=>refine⟨?_,?_,?_,?_⟩ <;> k_is)
  (case a19=>refine⟨?_,?_,?_,?_⟩ <;> k_is)
  (case a20=>refine⟨?_,?_,?_,?_⟩ <;> k_is)
  (case a21=>refine⟨?_,?_,?_,?_⟩ <;> k_is)
  (case a22=>refine⟨?_,?_,?_,?_⟩ <;> k_is)
  (case a23=>refine⟨?_,?_,?_,?_⟩ <;> k_is)
  (case a24=>refine⟨?_,?_,?_,?_⟩ <;> k_is)
  (case a25=>refine⟨?_,?_,?_,?_⟩ <;> k_is)
  (case a26=>refine⟨?_,?_,?_,?_⟩ <;> k_is)
  (case a27=>refine⟨?_,?_,?_,?_⟩ <;> k_is)
  (case a28=>refine⟨?_,?_,?_,?_⟩ <;> k_is)
  (case a29=>refine⟨?_,?_,?_,?_⟩ <;> k_is)
  (case a30=>refine⟨?_,?_,?_,?_⟩ <;> k_is)
  (case a31=>refine⟨?_,?_,?_,?_⟩ <;> k_is)
  (case a32=>refine⟨?_,?_,?_,?_⟩ <;> k_is)
  (case a33=>refine⟨?_,?_,?_,?_⟩ <;> k_is)
  (case a34=>refine⟨?_,?_,?_,?_⟩ <;> k_is)
  (case a35=>refine⟨?_,?_,?_,?_⟩ <;> k_is)
  (case a36=>refine⟨?_,?_,?_,?_⟩ <;> k_is)
  (case a37=>refine⟨?_,?_,?_,?_⟩ <;> k_is)
  (case a38=>refine⟨?_,?_,?_,?_⟩ <;> k_is)
  (case uaR=>k_is)
  (case uaS=>k_is)
  (case uaT=>k_is)
  (case uaU=>k_is)
  (case uaV=>k_is)
  (case uaW=>k_is)
  (case uaX=>k_is)
  (case uaY=>k_is)
  (case uaZ=>k_is)
  (case ua0=>k_is)
  (case ua1=>k_is)
  (case ua2=>k_is)
  (case ua3=>k_is)
  (case ua4=>k_is)
  (case ua5=>k_is)
  (case ua6=>k_is)
  (case ua7=>k_is)
  (case ua8=>k_is)
  (case ua9=>k_is)
  (case uba=>k_is)
  (case ubb=>k_is)
  (case ubc=>k_is)
  (case ubd=>k_is)
  (case ube=>k_is)
  (case ubf=>k_is)
  (case ubg=>k_is)
  (case ubh=>k_is)
  (case ii_NoWeb=>k_is)
  (case li_NoWeb=>k_is)
  (case ci_NoWeb=>k_is)
  (case ki_NoWeb=>k_is)
  (case fi_NoWeb=>kernel_rfl)
  (case uam=>kernel_rfl)
  (case kt0=>kernel_rfl)
  (case ktv=>kernel_rfl)
  (case kt1=>kernel_rfl)
  (case kt2=>kernel_rfl)
  (case kt3=>kernel_rfl)
  (case kt4=>kernel_rfl)
  (case kt5=>kernel_rfl)
  (case kt6=>kernel_rfl)
  (case kt7=>kernel_rfl)
  (case kt8=>kernel_rfl)
  (case kt9=>kernel_rfl)
  (case eh=>kernel_rfl)
end
