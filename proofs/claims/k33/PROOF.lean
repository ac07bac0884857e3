import PyProof.Rows.All
import Wide.All
import OpenK.AllK
import Wide.FinOn
import Lean
import PyProof.EqAt
import PyProof.EqKinds
import PyProof.TupleCall
import KE.KTryMore
import PyProof.ExcArgs
import PyProof.ConsumeWalk
import PyProof.P3Eq
import KE.KRevIter
import PyProof.ListRange
import PyProof.Rows.SumAny
import KE.KSortTup
import PyProof.SetScanFacts
import PyProof.TupleKey
import PyProof.DictRoadsH
import PyProof.SetRoads
import KE.KTabLook
import PyProof.Rows.ListMul
import PyProof.InstStoreFacts
import PyProof.Rows.SetFrom
import PyProof.AutoListH
import PyProof.StrCalls2
import PyProof.MeetsSeq
import PyProof.DictCompW
import KE.KSortKey
import PyProof.SliceStr2
import PyProof.StrWalks
import PyProof.StrOps2
import PyProof.StrLawsIdx
import PyProof.StrLawsTight
import PyProof.StrLawsChain
import PyProof.Rows.StrSplitCount
import KE.KIntText
import PyProof.MaxThree
import PySem.Challenge.RW_heightrings_k33_areas_turned
open List renaming getElem?_eq_getElem → DQ,length_map → DS,getElem?_eq_some_iff → DU,mem_cons_of_mem → DW,getD_eq_getElem?_getD → DZ,mem_cons_self → D4,mem_cons → D5,getElem?_map → D7,mem_of_getElem? → D9,getElem?_append_left → Ec,mem_append_right → Ed,getElem?_append_right → Ee,range → Ef,length_append → Eh,mem_map → Ei,mem_singleton → Ej,size_toArray → Em,mem_append → En,length_cons → Ep,getElem_mem → Et,mem_range → Eu,mem_append_left → Ew,getElem?_eq_none → Ex,map_append → Ey,map_cons → Ez,map_map → EA,length_range → EF,length_take → EL,not_mem_nil → EN,append_nil → EO,mem_filter → ET,lookup_cons → EU,length_singleton → EX,reverse_cons → EY,take_add_one → EZ,getElem?_set_self → E4,nodup_cons → E5,take_length → E6,getElem?_range → E9,length_filter_le → Fb,getElem?_set_ne → Fe,toArray → Fm,map_congr_left → Fp,pairwise_map → Fq,append_assoc → Fs,pairwise_cons → Fw,nodup_nil → FC,nodup_append → FE,length_set → FH,find?_cons → FI,getElem?_of_mem → FO,ext_getElem? → FQ,forIn_cons → FT,length_nil → FU,getElem_of_mem → FY,flatMap_append → FZ,mem_reverse → Gb,filter_cons → Gd,mem_flatMap → Ge,forIn_nil → Gg,flatMap_cons → Gp,getElem?_take_of_lt → Gu,getElem?_replicate → Gz,length_drop → GA,all_eq_true → GB,zip_cons_cons → GJ,range_succ → GL,replicate → GU,getElem?_mapIdx → GV,mem_of_mem_take → GX,pairwise_iff_getElem → GZ,filterMap_cons → G2,length_pos_iff → G3,reverse_append → G4,of_mem_zip → Hb,getElem?_cons_zero → He,take_zero → Hn,length_replicate → Ho,getElem_inj → Hs,map_take → Ht,map_drop → Hu,reverse_reverse → Hx,pairwise_append → Hy,dropLast_concat_getLast → HE,length_reverse → HF,mem_filterMap → HK,perm_ext_iff_of_nodup → HN,filter_append → HS,all_cons → HZ,any_cons → Ia,nodup_range → Ij,length_eq_zero_iff → Il,take_of_length_le → Iq,pairwise_lt_range → Ir,filter_nil → IC,take_append_drop → IE,getElem?_zipWith → IF,length_zipWith → IU,filter_flatMap → IV,map_nil → IY,any_map → I9,map → Jb,getD → Ji
open PySem renaming wpAny_bind → DR,Addr → DY,wpAny_pure → D3,wpAny → Eo,mainGlobals → EB,starEach → EG,sizeLine → EJ,wpAny_holding → EM,cLine → E1,compareOp → E8,foldedSetIterable → Fc,boot_len → Fg,wpAny_mono → FW,letOwnedTupleGo → FX,wpAny_truthy_bool → Gs,mem_of_lookup → Gw,wpAny_specialOf → GP,wpAny_isInstance → Io,wpAny_rule → IA,wpAny_attempt → IX,codeAny_mono → Jh
open PySem.W renaming Frag → DT,mg_none_of → ES,nsIn → EV,keepIn → Ff,fnOf → Fv,findIn → Gy,cellsFrom_some → GF,mg_of → GQ,codeIn → GS,codeHdIn → GY,tabObj → Hg,methodObj → HW,specialIn → HX,Frag → Iz
open Bool renaming false_ne_true → DX,and_eq_true → Eb,false_eq_true → EK,not_true → E7,false_and → Gf,true_and → G9,and_true → Hv,and_false → HM,not_false → HP
open PySem.Heap renaming get?_push_of_some → D6,lt_size → Ea,get?_push_size → El,size_push → FN,SameBut → F4,get?_update_other → F6,get?_update_self → Gj,IsList → Jo
open Nat renaming le_refl → D8,le_trans → Er,lt_of_lt_of_le → Es,ne_of_lt → EE,le_of_ble_eq_true → EH,zero_le → EI,mul_le_mul → Fh,le_of_lt → Fj,lt_of_le_of_lt → FJ,lt_succ_of_lt → FP,not_lt_zero → FV,ne_of_gt → F5,sub_self → F7,lt_irrefl → Ga,le_of_eq → Gn,pow_lt_pow_right → Gq,pow_le_pow_right → GW,le_of_succ_le → Hj,lt_succ_of_le → Hk,lt_succ_iff → Hz,succ_pos → HG,lt_trans → HH,add_assoc → Ie,lt_succ_self → Ii,zero_add → Ip,pow_add → IS,pow_succ → Ja,mul_succ → Je,mul_zero → Jf,le_succ → Jk,log2_lt → Jl,one_mul → Jn,mul_one → Jq,mul_pos → Jt
open PySem.PyData renaming depthAll → Eg,eqv → EC,canLayAll0 → HY,eqvAll → Ic,depth → Jc
open Array renaming length_toList → Ek,getElem?_toList → Ft,getD_eq_getD_getElem? → F8,getElem?_eq_getElem → Gm,getD → GI,forIn_toList → Hd,getElem?_eq_none → Hl,replicate → HB,size_map → IL,mem_toList_iff → IM
open Rat renaming divInt → ED,divInt_eq_div → EW,add_zero → Gr,num_divInt_den → GK,intCast_mul → GN,intCast_add → Hc,zero_add → HI,zero_mul → Iw,le_iff → Iy,mul_zero → Jg,one_mul → Jr,mul_one → Js
open PySem.PassesOwn renaming never → ER
open Classical renaming byContradiction → E3,propDecidable → Fd
open Int renaming natAbs_natCast → Fi,gcd → FA,toNat_natCast → FF,sign_eq_neg_one_of_neg → FG,sign_eq_one_of_pos → F9,emod_lt_of_pos → Gh,natAbs_mul → GC,lt_trichotomy → Hm,emod_nonneg → HA,gcd_pos_of_ne_zero_right → HC,mul_ediv_cancel_left → Ih,eq_ofNat_of_zero_le → Im,mul_ne_zero → IB,natCast_mul → ID,le_trans → Jd,toNat → Jj,one_mul → Jm
open PySem.Builtin.SmallTypes renaming nextOf → Fn,ownedTupleIsFree → Fu,ownedTupleHandOut → G6
open Prod renaming ext → Fo,fst → IK,snd → IZ
open PySem.F renaming plainAttrs_list → Fy,slot_list_append → FK,type_list_append → FL,slot_tuple_hash → FR,slot_dict_keyiterator_next → Gi,slot_set_contains → G1,slot_dict_get → Hr,slot_zip_next → HD,slot_dict_getitem → HV,slot_dict_iter → Iv,type_dict_get → II,args_list_append_2 → IJ,slot_set_add → IP,entry_list_append → IT
open PyProof.Rows renaming callWith_type1 → Fz,boot_abs → GR,boot_sorted → Ha,boot_tuple → Hf,boot_all → IH
open PySem.Builtin.Tuple renaming tupleHashOf → Gk
open Ne renaming symm → Gv
open PySem.Heap.SameBut renaming update → Gx
open False renaming elim → GD
open PySem.Obj renaming mapSeq → GG,putSet → Iu
open PySem.Calls renaming callWith_builtin → GH,evalArgs_plain → Hw,Name_function_global → HJ,call_function_entry → HU
open Option renaming isNone_iff_eq_none → G0,isSome_iff_exists → G7
open PySem.Builtin.Int renaming intBits → G5,intTooBig → IG
open PySem.SetTable renaming toList_insertAt → G8,sizeAbove → HR,fill → IW
open PySem.SeqAt.ReadsAll renaming length → Hq
open PySem.SeqAt renaming eqv_refl → HL
open PySem.Builtin.Frozenset renaming oneOther → HQ,addrOf → Ig
open PyProof renaming noPylong_of_log2 → Ib
open PySem.Heap.IsList renaming push → Ik
open List.Pairwise renaming of_map → IQ
open PySem.Shared renaming heap → Jp
set_option Elab.async false
set_option linter.all false
set_option maxRecDepth 100000
set_option maxHeartbeats 4000000
theorem Jx.{u} {c:Prop} {h:Decidable c} (q:¬c) {α:Sort u} {t e:α}:(ite c t e)=e:=if_neg q
theorem Jy.{u} {c:Prop} {h:Decidable c} (q:c) {α:Sort u} {t e:α}:(ite c t e)=t:=if_pos q
section
namespace L2
open PySem PySem.Spec PyProof.Rows
abbrev Key:=Sum Int Str
noncomputable def xK:Key->Value->Bool
 | .inl k,v=>Value.isInt k v
 | .inr x,v=>Value.isStrOf x v
noncomputable def Dz (w:World):Key->Int
 | .inl k=>hashInt k
 | .inr x=>hashStr w x
theorem yC:∀ {k:Key} {v:Value},xK k v=true->(∃ i t,k=Sum.inl i/\v=Value.int i t) \/ (∃ x t,k=Sum.inr x/\v=Value.str x t)
 | .inl i,v,h=>by
  obtain⟨t,e⟩:=Value.isInt_shape (k:=i) (v:=v) h;exact .inl ⟨i,t,rfl,e⟩
 | .inr x,v,h=>by
  obtain⟨t,e⟩:=Value.isStrOf_shape (x:=x) (v:=v) h;exact .inr ⟨x,t,rfl,e⟩
theorem Ar (a b:Int):decide ((Sum.inl a:Key)=Sum.inl b)=(a == b):=by
 by_cases e:a=b
 ·subst e;simp
 ·have h:¬ (Sum.inl a:Key)=Sum.inl b:=fun q=>e (Sum.inl.inj q);rw [decide_eq_false h];exact (beq_eq_false_iff_ne.mpr e).symm
theorem Au (a b:Str):decide ((Sum.inr a:Key)=Sum.inr b)=decide (a=b):=by
 by_cases e:a=b
 ·subst e;simp
 ·have h:¬ (Sum.inr a:Key)=Sum.inr b:=fun q=>e (Sum.inr.inj q);rw [decide_eq_false h,decide_eq_false e]
theorem Av (a:Int) (b:Str):decide ((Sum.inl a:Key)=Sum.inr b)=false:=decide_eq_false (fun q=>nomatch q)
theorem Aw (a:Str) (b:Int):decide ((Sum.inr a:Key)=Sum.inl b)=false:=decide_eq_false (fun q=>nomatch q)
noncomputable def fc (prog:Program) (w:World):PySem.KeyKind prog w Key where
 is:=xK
 hash:=Dz w
 inj:=fun v a b ha hb=>by
  rcases yC ha with⟨i,t,rfl,rfl⟩ | ⟨x,t,rfl,rfl⟩
  ·rcases yC hb with⟨j,u,rfl,e⟩ | ⟨y,u,rfl,e⟩
   ·injection e with e1 _;rw [e1]
   ·exact nomatch e
  ·rcases yC hb with⟨j,u,rfl,e⟩ | ⟨y,u,rfl,e⟩
   ·exact nomatch e
   ·injection e with e1 _;rw [e1]
 byValue:=fun k v h=>by
  rcases yC h with⟨i,t,rfl,rfl⟩ | ⟨x,t,rfl,rfl⟩ <;> rfl
 pyHash:=fun hv h=>by
  rcases yC hv with⟨i,t,rfl,rfl⟩ | ⟨x,t,rfl,rfl⟩
  ·exact wpAny_pyHash_int h
  ·exact wpAny_pyHash_str h
 eqBool:=fun hu hv h=>by
  rcases yC hu with⟨i,t,rfl,rfl⟩ | ⟨x,t,rfl,rfl⟩
  ·rcases yC hv with⟨j,u,rfl,rfl⟩ | ⟨y,u,rfl,rfl⟩
   ·rw [Ar] at h;exact wpAny_eqBool_int h
   ·rw [Av] at h;exact SeqAt.EqAt.int_str i t y u _ _ _ _ h
  ·rcases yC hv with⟨j,u,rfl,rfl⟩ | ⟨y,u,rfl,rfl⟩
   ·rw [Aw] at h;exact SeqAt.EqAt.str_int x t j u _ _ _ _ h
   ·rw [Au] at h;exact wpAny_eqBool_str h
 «strs»:=fun k x t v h=>by
  rcases yC h with⟨i,u,rfl,e⟩ | ⟨y,u,rfl,e⟩
  ·exact nomatch e
  ·injection e with e1 _;subst e1;cases v <;> rfl
inductive V where
 | non | bl (b:Bool) | int (i:Int) | str (x:Str) | byt (b:Array UInt8) | flt (b:UInt64) | ref (a:DY) | ty (n:String)
 deriving DecidableEq
def RelV:V->Value->Prop
 | .non,u=>u=Value.none
 | .bl b,u=>u=Value.bool b
 | .int i,u=>∃ t,u=Value.int i t
 | .str x,u=>∃ t,u=Value.str x t
 | .byt b,u=>∃ t,u=Value.bytes b t
 | .flt b,u=>∃ t,u=Value.float b t
 | .ref a,u=>u=Value.ref a
 | .ty n,u=>u=Value.type n
abbrev Vals:List V->List Value->Prop:=Paired RelV
theorem Vals.length {xs:List V} {us:List Value} (r:Vals xs us):xs.length=us.length:=Paired.length r
theorem Vals.get:∀ {xs:List V} {us:List Value} {i:Nat} {x:V},Vals xs us->xs[i]?=some x->∃ u,us[i]?=some u/\RelV x u
 | _,_,_,_,.nil,e=>by simp at e
 | _,_,0,_,.cons r _,e=>by simp at e;subst e;exact⟨_,rfl,r⟩
 | _,_,i+1,x,.cons _ t,e=>by
  obtain⟨u,h1,h2⟩:=Vals.get (i:=i) (x:=x) t (by simpa using e);exact⟨u,by simpa using h1,h2⟩
theorem Vals.set {x:V} {u:Value} (r:RelV x u):∀ {xs:List V} {us:List Value} (i:Nat),Vals xs us->Vals (xs.set i x) (us.set i u)
 | _,_,_,.nil=>.nil
 | _,_,0,.cons _ t=>.cons r t
 | _,_,i+1,.cons q t=>.cons q (Vals.set r i t)
theorem Vals.append:∀ {xs ys:List V} {us ws:List Value},Vals xs us->Vals ys ws->Vals (xs++ys) (us++ws)
 | _,_,_,_,.nil,s=>s
 | _,_,_,_,.cons r t,s=>.cons r (Vals.append t s)
theorem Vals.take:∀ {xs:List V} {us:List Value} (n:Nat),Vals xs us->Vals (xs.take n) (us.take n)
 | _,_,0,_=>.nil
 | _,_,_+1,.nil=>.nil
 | _,_,n+1,.cons r t=>.cons r (Vals.take n t)
theorem Vals.drop:∀ {xs:List V} {us:List Value} (n:Nat),Vals xs us->Vals (xs.drop n) (us.drop n)
 | _,_,0,r=>r
 | _,_,_+1,.nil=>.nil
 | _,_,n+1,.cons _ t=>Vals.drop n t
def Ce:Option V->Option Value->Prop
 | some v,some u=>RelV v u
 | none,none=>True
 | _,_=>False
def KV {κ:Type}:List (κ×V)->List (κ×Value)->Prop:=Paired fun (p:κ×V) (q:κ×Value)=>p.1=q.1/\RelV p.2 q.2
noncomputable def kV:Key->V
 | .inl i=>.int i
 | .inr x=>.str x
inductive HO where
  | lst (xs:List V)
  | tup (xs:List V)
  | dK (kvs:List (Key×V)) | dT (kvs:List (List Key×V))
  | set (S:Int->Bool) (n:Nat)
  | ins (C dx:DY) (fs:List (Str×V))
  | own (x:DY)
  | xd (fs:List (Str×V))
  | met (f x:DY)
  | rng (lo hi:Int)
  | frz (o:Obj) (u:HO)
  | tbl (q:Str)
  | ext (φ:Heap->Prop)
abbrev Hp:=DY->Option HO
noncomputable def upd (H:Hp) (a:DY) (o:HO):Hp:=fun b=>if b=a then some o else H b
theorem zy {H:Hp} {a:DY} {o:HO}:upd H a o a=some o:=by unfold upd;rw [Jy rfl]
theorem zu {H:Hp} {a b:DY} {o:HO} (h:b≠a):upd H a o b=H b:=by unfold upd;rw [Jx h]
theorem zM {H:Hp} {a b:DY} {o:HO} (h:H a=some o) (h':H b=none):a≠b:=by
 intro e;subst e;rw [h] at h';cases h'
section
variable (P:Program) (w:World)
def ObjOk (H:Hp) (h:Heap) (a:DY):HO->Prop
 | .lst xs=>xs.length<=EJ/\∃ (its:List Value) (n:Nat),Vals xs its/\h.get? a=some { cls:=.type "list",data:=.seq its.toArray n }
 | .tup xs=>xs.length<=EJ/\∃ its:List Value,Vals xs its/\IsTup h a its.toArray
 | .dK kvs=>kvs.length<=EJ/\(a == sysModules)=false/\∃ vs,KV kvs vs/\h.DictOf (fc P w) a vs
 | .dT kvs=>kvs.length<=EJ/\(a == sysModules)=false/\∃ xs:List (List Key×DY×Value),
   Paired (fun (p:List Key×V) (q:List Key×DY×Value)=>p.1=q.1/\H q.2.1=some (.tup (p.1.map kV))/\RelV p.2 q.2.2) kvs xs /\
   ∃ o es ep,h.get? a=some o/\o.ExactDict/\o.data=.dict es ep/\es.toList=xs.map (entryOfKey (tupleKind (fc P w)))/\(xs.map (·.1)).Nodup
 | .set S n=>h.SetOf (intKind P w) a S n
 | .ins C dx fs=>H dx=some (.own a)/\fs.length<=1000/\dx≠a/\h.get? a=some (PySem.W.instObj C dx) /\
   ∃ mA,h.Ns1 dx mA/\(∀ f,Ce (fs.lookup f) (mA f))/\PySem.Within mA (fs.map (·.1))
 | .own _=>∃ o,h.get? a=some o
 | .xd fs=>∃ mA,h.Ns1 a mA/\∀ f,Ce (fs.lookup f) (mA f)
 | .rng lo hi=>∃ t u v,h.get? a=some { cls:=.type "range",data:=.fields #[.int lo t,.int hi u,.int 1 v] }
 | .frz o u=>h.get? a=some o/\ObjOk H h a u
 | .tbl q=>∃ ps,h.get? a=some (Hg ps)/\TriplesOk ps.toList/\∀ pos cv,codeAmong pos ps.toList=some cv->∃ c,cv=.ref c/\H c=some (.own a)/\h.CodeRec (.ref c) q
 | .met f x=>h.get? a=some (HW (.ref f) (.ref x))
 | .ext φ=>φ h/\(∃ o,h.get? a=some o)/\∀ h1 h2:Heap,φ h1->(∀ o,h1.get? a=some o->h2.get? a=some o)->φ h2
def HOk (H:Hp) (h:Heap):Prop:=∀ a o,H a=some o->ObjOk P w H h a o
end
section
variable {P:Program} {w:World} {H H':Hp} {h h':Heap} {a:DY} {o:HO}
theorem ObjOk.lt (x:ObjOk P w H h a o):a<h.objs.size:=by
 cases o with
 | lst xs=>obtain⟨_,_,_,_,e⟩:=x;exact Ea e
 | tup xs=>obtain⟨_,_,_,p⟩:=x;exact p.lt
 | dK kvs=>obtain⟨_,_,_,_,o,_,_,e,_⟩:=x;exact Ea e
 | dT kvs=>obtain⟨_,_,_,_,o,_,_,e,_⟩:=x;exact Ea e
 | set S n=>obtain⟨o,_,_,_,e,_⟩:=x;exact Ea e
 | ins C dx fs=>obtain⟨_,_,_,e,_⟩:=x;exact Ea e
 | own y=>obtain⟨_,e⟩:=x;exact Ea e
 | xd fs=>obtain⟨_,⟨_,_,_,e,_⟩,_⟩:=x;exact Ea e
 | rng lo hi=>obtain⟨_,_,_,e⟩:=x;exact Ea e
 | frz ob u=>obtain⟨e,_⟩:=x;exact Ea e
 | tbl q=>obtain⟨_,e,_⟩:=x;exact Ea e
 | met f y=>exact Ea (show h.get? a=some _ from x)
 | ext φ=>obtain⟨_,⟨_,e⟩,_⟩:=x;exact Ea e
theorem Paired.mapP {α β:Type} {F G:α->β->Prop}:∀ {l₁:List α} {l₂:List β},Paired F l₁ l₂->(∀ a b,F a b->G a b)->Paired G l₁ l₂
 | _,_,.nil,_=>.nil
 | _,_,.cons r t,f=>.cons (f _ _ r) (Paired.mapP t f)
theorem ObjOk.stay (x:ObjOk P w H h a o) (k:∀ b u,(b=a \/ H b=some (.own a))->h.get? b=some u->h'.get? b=some u)
  (ho:∀ b,H b=some (.own a)->H' b=some (.own a)) (ht:∀ b xs,H b=some (.tup xs)->H' b=some (.tup xs)):ObjOk P w H' h' a o:=by
 induction o with
 | lst xs=>obtain⟨z,its,n,r,e⟩:=x;exact⟨z,its,n,r,k _ _ (.inl rfl) e⟩
 | tup xs=>obtain⟨z,its,r,ob,e,c⟩:=x;exact⟨z,its,r,ob,k _ _ (.inl rfl) e,c⟩
 | dK kvs=>obtain⟨z,y,vs,r,ob,es,ep,e,c⟩:=x;exact⟨z,y,vs,r,ob,es,ep,k _ _ (.inl rfl) e,c⟩
 | dT kvs =>
  obtain⟨z,y,xs,r,ob,es,ep,e,c⟩:=x;exact⟨z,y,xs,Paired.mapP r fun p q z=>⟨z.1,ht _ _ z.2.1,z.2.2⟩,ob,es,ep,k _ _ (.inl rfl) e,c⟩
 | set S n=>obtain⟨ob,es,ep,t,e,c⟩:=x;exact⟨ob,es,ep,t,k _ _ (.inl rfl) e,c⟩
 | ins C dx fs =>
  obtain⟨d,z,ne,e,mA,⟨od,es,ep,e2,c⟩,r⟩:=x;exact⟨ho _ d,z,ne,k _ _ (.inl rfl) e,mA,⟨od,es,ep,k _ _ (.inr d) e2,c⟩,r⟩
 | own y=>obtain⟨ob,e⟩:=x;exact⟨ob,k _ _ (.inl rfl) e⟩
 | xd fs=>obtain⟨mA,⟨od,es,ep,e,c⟩,r⟩:=x;exact⟨mA,⟨od,es,ep,k _ _ (.inl rfl) e,c⟩,r⟩
 | rng lo hi=>obtain⟨t,u,v,e⟩:=x;exact⟨t,u,v,k _ _ (.inl rfl) e⟩
 | frz ob u ih=>obtain⟨e,q⟩:=x;exact⟨k _ _ (.inl rfl) e,ih q⟩
 | tbl q =>
  obtain⟨ps,e,tr,r⟩:=x;refine⟨ps,k _ _ (.inl rfl) e,tr,fun pos cv z=>?_⟩;obtain⟨c,ec,hc,c2,oc,vs,tq,e2,e3,e4,e5⟩:=r pos cv z;cases e2;exact⟨c,ec,ho _ hc,c,oc,vs,tq,rfl,k _ _ (.inr hc) e3,e4,e5⟩
 | met f y =>
  have e:h.get? a=some (HW (.ref f) (.ref y)):=x;show h'.get? a=some (HW (.ref f) (.ref y));exact k a _ (.inl rfl) e
 | ext φ=>obtain⟨p,⟨o,e⟩,st⟩:=x;exact⟨st _ _ p fun o q=>k _ _ (.inl rfl) q,⟨o,k _ _ (.inl rfl) e⟩,st⟩
theorem HOk.lt (x:HOk P w H h) (e:H a=some o):a<h.objs.size:=(x a o e).lt
theorem HOk.fresh (x:HOk P w H h) (e:h.objs.size<=a):H a=none:=by
 cases q:H a with
 | none=>rfl
 | some u=>exact absurd (Es (x.lt q) e) (Ga _)
theorem HOk.kept (x:HOk P w H h) (k:∀ b u,h.get? b=some u->h'.get? b=some u):HOk P w H h':=fun a o e =>
 (x a o e).stay (fun b u _ q=>k b u q) (fun _ q=>q) fun _ _ q=>q
theorem HOk.laid (x:HOk P w H h) (k:∀ b u,h.get? b=some u->h'.get? b=some u) (hp:h.objs.size<=a) (new:ObjOk P w (upd H a o) h' a o):HOk P w (upd H a o) h':=fun b u e=>by
 have hn:=x.fresh hp;by_cases hb:b=a
 ·subst hb;rw [zy] at e;cases e;exact new
 ·rw [zu hb] at e;exact (x b u e).stay (fun c v _ q=>k c v q) (fun c q=>by rw [zu (zM q hn)];exact q) fun c xs q=>by rw [zu (zM q hn)];exact q
end
def Rd (H:Hp) (a:DY) (u:HO):Prop:=H a=some u \/ ∃ o,H a=some (.frz o u)
theorem Rd.ok {P:Program} {w:World} {H:Hp} {h:Heap} {a:DY} {u:HO} (r:Rd H a u) (x:HOk P w H h):ObjOk P w H h a u:=by
 rcases r with r | ⟨o,r⟩
 ·exact x a u r
 ·obtain⟨_,q⟩:=x a _ r;exact q
def Mut:Option HO->Prop
 | some (.lst _)=>True
 | some (.dK _)=>True
 | some (.dT _)=>True
 | some (.set _ _)=>True
 | some (.ins _ _ _)=>True
 | some (.ext _)=>True
 | _=>False
section
variable {P:Program} {w:World} {H:Hp} {h h':Heap} {x e:DY} {o':HO}
theorem HOk.write (ok:HOk P w H h) (mu:Mut (H x)) (he:e=x \/ H e=some (.own x)) (k:∀ b u,b≠e->h.get? b=some u->h'.get? b=some u) (heo:∃ u,h'.get? e=some u)
  (new:ObjOk P w (upd H x o') h' x o'):HOk P w (upd H x o') h':=fun b u q=>by
 have nown:∀ c y,H c=some (.own y)->c≠x:=fun c y r z=>by subst z;rw [r] at mu;exact mu
 have ntup:∀ c xs,H c=some (.tup xs)->c≠x:=fun c xs r z=>by subst z;rw [r] at mu;exact mu
 by_cases hb:b=x
 ·subst hb;rw [zy] at q;cases q;exact new
 ·rw [zu hb] at q;by_cases hbe:b=e
  ·have q':H b=some (.own x):=by
    rcases he with z | z
    ·exact absurd (hbe.trans z) hb
    ·rw [hbe];exact z
   rw [q] at q';cases q';obtain⟨v,hv⟩:=heo;exact⟨v,by rw [hbe];exact hv⟩
  ·refine (ok b u q).stay (fun c v hc r=>k c v ?_ r) (fun c r=>by rw [zu (nown c b r)];exact r) fun c xs r=>by rw [zu (ntup c xs r)];exact r
   rcases hc with rfl | hc
   ·exact hbe
   ·rintro rfl;rcases he with z | z
    ·exact nown c b hc z
    ·rw [hc] at z;cases z;exact hb rfl
end
structure Un (fs ex:List DY) (H H':Hp) (h h':Heap):Prop where
 keep:∀ b o,h.get? b=some o->H b=none->b∉fs->b∉ex->h'.get? b=some o
 slot:∀ b o,h.get? b=some o->H b=none->b∈fs->b∉ex->∃ sl,h'.get? b=some { o with slots:=sl }
 free:∀ b o,h.get? b=some o->H b=none->b∉ex->H' b=none
 there:∀ b o,h.get? b=some o->b∉ex->∃ o',h'.get? b=some o'
 tups:∀ b xs,H b=some (.tup xs)->H' b=some (.tup xs)
 frzs:∀ b o u,H b=some (.frz o u)->H' b=some (.frz o u)
 tbls:∀ b q,H b=some (.tbl q)->H' b=some (.tbl q)
section
variable {fs fs' ex ex':List DY} {H H1 H2:Hp} {h h1 h2 h':Heap} {a x e:DY} {o:HO}
theorem Un.any (u:Un fs ex H H1 h h1) {b:DY} {ob:Obj} (q:h.get? b=some ob) (n:H b=none) (hx:b∉ex):∃ sl,h1.get? b=some { ob with slots:=sl }:=by
 by_cases hb:b∈fs
 ·exact u.slot b ob q n hb hx
 ·exact⟨ob.slots,u.keep b ob q n hb hx⟩
theorem Un.kept (k:∀ b u,h.get? b=some u->h'.get? b=some u):Un fs ex H H h h' :=
 ⟨fun b ob q _ _ _=>k b ob q,fun b ob q _ _ _=>⟨ob.slots,k b ob q⟩,fun _ _ _ n _=>n,fun b ob q _=>⟨ob,k b ob q⟩,fun _ _ q=>q,fun _ _ _ q=>q,fun _ ps q=>by exact q⟩
theorem Un.refl:Un fs ex H H h h:=Un.kept fun _ _ q=>q
theorem Un.laid (k:∀ b u,h.get? b=some u->h'.get? b=some u) (hp:h.objs.size<=a) (hn:H a=none):Un fs ex H (upd H a o) h h' where
 keep:=fun b u q _ _ _=>k b u q
 slot:=fun b u q _ _ _=>⟨u.slots,k b u q⟩
 free:=fun b u q n _=>by rw [zu (EE (Es (Ea q) hp))];exact n
 there:=fun b u q _=>⟨u,k b u q⟩
 tups:=fun b xs q=>by rw [zu (zM q hn)];exact q
 frzs:=fun b u xs q=>by rw [zu (zM q hn)];exact q
 tbls:=fun b ps q=>by rw [zu (zM q hn)];exact q
theorem Un.write (mu:Mut (H x)) (he:e=x \/ H e=some (.own x)) (k:∀ b u,b≠e->h.get? b=some u->h'.get? b=some u) (heo:∃ u,h'.get? e=some u):Un fs ex H (upd H x o) h h':=by
 have hx:∀ b,H b=none->b≠x:=fun b n z=>by subst z;rw [n] at mu;exact mu
 have hb:∀ b,H b=none->b≠e:=fun b n z=>by
  subst z;rcases he with r | r
  ·exact hx b n r
  ·rw [n] at r;cases r
 have hm:∀ b u,H b=some u->¬ Mut (some u)->b≠x:=fun b u q nm z=>by subst z;rw [q] at mu;exact nm mu
 refine⟨fun b u q n _ _=>k b u (hb b n) q,fun b u q n _ _=>⟨u.slots,k b u (hb b n) q⟩,fun b u q n _=>by rw [zu (hx b n)];exact n,fun b u q _=>?_,
  fun b xs q=>by rw [zu (hm b _ q fun z=>z)];exact q,fun b u xs q=>by rw [zu (hm b _ q fun z=>z)];exact q,fun b ps q=>by rw [zu (hm b _ q fun z=>z)];exact q⟩
 by_cases hbe:b=e
 ·subst hbe;exact heo
 ·exact⟨u,k b u hbe q⟩
end
noncomputable def trk (h:Heap) (H:Hp):List DY:=(Ef h.objs.size).filter fun a=>(H a).isSome
noncomputable def gM (h:Heap) (H:Hp):Heap:=PySem.W.hideAll h (trk h H)
theorem nS (h:Heap) (H:Hp):(gM h H).objs.size=h.objs.size:=PySem.W.hideAll_size _ _
theorem cA {h:Heap} {H:Hp} {b:DY} {o:Obj} (e:h.get? b=some o) (n:H b=none):(gM h H).get? b=some o :=
 PySem.W.hideAll_get _ e fun hm=>by
  have q:(H b).isSome=true:=(ET.mp hm).2;rw [n] at q;simp at q
theorem uG {h:Heap} {H:Hp} {b:DY} {o:Obj} (e:(gM h H).get? b=some o):h.get? b=some o/\H b=none:=by
 have e':h.get? b=some o:=PySem.W.of_hideAll (trk h H) e;refine⟨e',?_⟩;cases q:H b with
 | none=>rfl
 | some x =>
  have hm:b∈trk h H:=ET.mpr ⟨Eu.mpr (Ea e'),by simp [q]⟩;have z:(gM h H).get? b=none:=PySem.W.hideAll_none (trk h H) hm;rw [z] at e;cases e
noncomputable def uH (g h:Heap) (L:DY):List (DY×Obj):=(Ef h.objs.size).filterMap fun a=>if a=L \/ (g.get? a).isSome=true then none else (h.get? a).map fun o=>(a,o)
noncomputable def rest (g h:Heap) (L d:DY):List (DY×Obj):=(uH g h L).filter fun p=>decide (p.1≠d)
structure Mod (K:DT) (mg:Str->Option Value) (base:Heap):Prop where
 kin:K.In base
 glob:base.Ns EB mg
 blt:∃ mb,base.Ns builtinsNs mb/\∀ x:Str,x ≠ "__name__"->mb x=bootBuiltins x
 nolimit:base.NoLimit
 bm:∃ b o,mg "__builtins__"=some (.ref b)/\b≠builtinsNs/\base.get? b=some o/\o.cls=.type "module"/\o.dict=some builtinsNs/\o.data=.plain
structure Cx where
 prog:Program
 w:World
 K:DT
 mg:Str->Option Value
 base:Heap
 A:Around
 N:List Str
 s₀:Shared
 H₀:Hp
 env:Env
 outer:List Env
 stack:List Env
 ex:List DY
 fn:Str->Bool
 calm:Bool
 pn:List (DY×Obj)
 xe:Value->Shared->Prop
noncomputable def frs (l:List Env):List DY:=l.filterMap (·.frame)
noncomputable abbrev Cx.fs (X:Cx):List DY:=frs X.outer
def Vis (sc:Scope) (x:Str):Prop:=sc.names.lookup x=some .local \/ sc.names.lookup x=some .cell \/ sc.names.lookup x=some .free
def Loc (sc:Scope) (x:Str):Prop:=sc.names.lookup x=some .local \/ sc.names.lookup x=some .cell
def Look (env:Env) (h:Heap) (m:Str->Option Value) (x:Str) (u:Value):Prop :=
 (env.kindOf x=some .local/\m x=some u) \/ ((env.kindOf x=some .cell \/ env.kindOf x=some .free)/\∃ c,env.cells.lookup x=some c/\h.IsCell c (some u))
noncomputable def fe:List Str:=["least_kept","pair_beside","peaks"]
noncomputable def Ax (q:Str):Str:=(q ++ ".<locals>.") ++ "<lambda>"
def TabsOk (K:DT) (H:Hp):Prop:=∀ c P q,q∈fe->GY K c P=true->GS K (.ref c) q=true->H P=some (.tbl (Ax q))
structure Cx.Ok (X:Cx):Prop where
 mod:Mod X.K X.mg X.base
 kind:X.env.scope.kind=.function
 glob:X.env.globals=EB
 blt:X.env.builtins=builtinsNs
 above:X.s₀.heap.objs.size<=X.env.locals
 inj:∀ x y c,X.env.cells.lookup x=some c->X.env.cells.lookup y=some c->x=y
 has:∀ x,(X.env.kindOf x=some .cell \/ X.env.kindOf x=some .free)->∃ c,X.env.cells.lookup x=some c
 cab:∀ x c,X.fn x=true->X.env.cells.lookup x=some c->X.s₀.heap.objs.size<=c
 hd:X.calm=true->X.A.handled=none
 frames:X.A.frames=some X.stack
 stk:X.stack=X.outer \/ (X.stack=X.env :: X.outer/\X.env.frame=some X.env.locals)
 exf:∀ b∈X.ex,b≠X.env.locals/\∀ x c,X.env.cells.lookup x=some c->c≠b
 bs:∀ b o,X.base.get? b=some o->X.s₀.heap.get? b=some o/\X.H₀ b=none
 bsz:X.base.objs.size<=X.s₀.heap.objs.size
 noex:∀ b o,X.base.get? b=some o->b∉X.ex
 exfs:∀ b∈X.ex,b∉X.fs
 funs:X.s₀.heap.FunFrames X.base X.outer
 frf:∀ b∈X.fs,X.H₀ b=none
 tabs:TabsOk X.K X.H₀
structure Inv (X:Cx) (Jw:List (DY×Obj)) (σ:List (Option V)) (H:Hp) (s:Shared):Prop where
 ok:X.Ok
 os:s.os=X.s₀.os
 bare:AllBare s.gens
 base:Un X.fs X.ex X.H₀ H X.s₀.heap s.heap
 loc:∃ m,s.heap.Ns X.env.locals m/\∀ (i:Nat) (x:Str) (v:V),X.N[i]?=some x->σ[i]?=some (some v)->Vis X.env.scope x->∃ u,RelV v u/\Look X.env s.heap m x u
 cell:∀ x c,X.env.cells.lookup x=some c->∃ v,s.heap.IsCell c v
 free:H X.env.locals=none
 freeC:∀ x c,X.env.cells.lookup x=some c->H c=none
 pin:∀ p∈X.pn++Jw,s.heap.get? p.1=some p.2/\H p.1=none/\p.1≠X.env.locals/\p.1∉X.fs/\∀ v,p.2.data≠.cell v
 hok:HOk X.prog X.w H s.heap
 len:σ.length=X.N.length
section
variable {X:Cx} {Jw:List (DY×Obj)} {σ:List (Option V)} {H H':Hp} {s:Shared} {h':Heap}
theorem Cx.Ok.nofr (ok:X.Ok) {b:DY} {o:Obj} (e:X.base.get? b=some o):b∉X.fs:=fun hb=>by
 have:=(ok.funs.mem hb).1;rw [e] at this;cases this
theorem Inv.bs (I:Inv X Jw σ H s):∀ b o,X.base.get? b=some o->s.heap.get? b=some o/\H b=none:=fun b o e =>
 ⟨I.base.keep b o (I.ok.bs b o e).1 (I.ok.bs b o e).2 (I.ok.nofr e) (I.ok.noex b o e),I.base.free b o (I.ok.bs b o e).1 (I.ok.bs b o e).2 (I.ok.noex b o e)⟩
theorem Inv.bk (I:Inv X Jw σ H s):∀ b o,X.base.get? b=some o->s.heap.get? b=some o:=fun b o e=>(I.bs b o e).1
theorem Inv.mod (I:Inv X Jw σ H s):Mod X.K X.mg X.base:=I.ok.mod
theorem Inv.kIn (I:Inv X Jw σ H s):X.K.In s.heap:=I.ok.mod.kin.keeps I.bk
theorem Inv.fr (I:Inv X Jw σ H s):∃ m,Fr X.base X.env.locals s.heap m :=
 let⟨m,hn,_⟩:=I.loc
 ⟨m,hn,I.bk,Er I.ok.bsz I.ok.above⟩
theorem Inv.lt (I:Inv X Jw σ H s):X.env.locals<s.heap.objs.size:=let⟨_,hn,_⟩:=I.loc;hn.lt
theorem Inv.sz (I:Inv X Jw σ H s):X.s₀.heap.objs.size<=s.heap.objs.size:=Er I.ok.above (Fj I.lt)
theorem Inv.nofs (I:Inv X Jw σ H s) {a:DY} (h:s.heap.objs.size<=a):a∉X.fs:=fun hb=>by
 obtain⟨_,o,ho,_⟩:=I.ok.funs.mem hb;exact absurd (Es (Ea ho) (Er I.sz h)) (Ga _)
theorem Inv.cne (I:Inv X Jw σ H s):∀ x c,X.env.cells.lookup x=some c->c≠X.env.locals:=fun x c e z=>by
 obtain⟨v,o,ho,hd⟩:=I.cell x c e;obtain⟨m,⟨o',es,ep,ho',hd',_⟩,_⟩:=I.loc;rw [z,ho'] at ho;cases ho;rw [hd'] at hd;cases hd
theorem Inv.funs (I:Inv X Jw σ H s):s.heap.FunFrames X.base X.outer:=by
 have all:∀ (l:List Env),(∀ b∈frs l,b∈X.fs)->X.s₀.heap.FunFrames X.base l->s.heap.FunFrames X.base l:=by
  intro l
  induction l with
  | nil=>intro _ _;trivial
  | cons env r ih =>
   intro hs hl;obtain⟨hk,⟨L,o,hf,hn,ho,hd⟩,hr⟩:=hl;have hL:L∈X.fs:=hs L (by unfold frs;rw [G2,hf];exact D4);obtain⟨sl,e⟩:=I.base.slot L o ho (I.ok.frf L hL) hL fun z=>I.ok.exfs L z hL;exact⟨hk,⟨L,_,hf,hn,e,hd⟩,ih (fun b hb=>hs b (by unfold frs;rw [G2,hf];exact DW _ hb)) hr⟩
 exact all X.outer (fun _ hb=>hb) I.ok.funs
theorem Inv.stack (I:Inv X Jw σ H s):s.heap.FunFrames X.base X.stack:=by
 rcases I.ok.stk with e | ⟨e,hf⟩
 ·rw [e];exact I.funs
 ·rw [e];obtain⟨m,hn,_⟩:=I.loc;refine .cons (by rw [I.ok.kind];decide) hf hn ?_ I.funs;exact Heap.get?_none_of_le (Er I.ok.bsz I.ok.above)
theorem Inv.stkSub (I:Inv X Jw σ H s):∀ b∈frs X.stack,b∈X.env.locals :: X.fs:=fun b hb=>by
 rcases I.ok.stk with e | ⟨e,hf⟩
 ·rw [e] at hb;exact DW _ hb
 ·rw [e] at hb;unfold frs at hb;rw [G2,hf] at hb;exact hb
theorem Inv.stkFree (I:Inv X Jw σ H s):∀ b∈frs X.stack,H b=none:=fun b hb=>by
 rcases D5.mp (I.stkSub b hb) with e | hb
 ·rw [e];exact I.free
 ·obtain⟨_,o,ho,_⟩:=I.ok.funs.mem hb;exact I.base.free b o ho (I.ok.frf b hb) fun z=>I.ok.exfs b z hb
theorem Inv.step {g':Array GenState} {t':Nat} {d':Drawn} {ch:List DY} (I:Inv X Jw σ H s)
  (hch:∀ b∈ch,(b∈X.ex \/ X.s₀.heap.objs.size<=b)/\b≠X.env.locals/\(∀ x c,X.env.cells.lookup x=some c->c≠b)/\∀ p∈X.pn++Jw,p.1≠b)
  (keep:∀ b o,b≠X.env.locals->b∉X.fs->b∉ch->s.heap.get? b=some o->H b=none->h'.get? b=some o)
  (slot:∀ b o,b≠X.env.locals->b∈X.fs->b∉ch->s.heap.get? b=some o->H b=none->∃ sl,h'.get? b=some { o with slots:=sl }) (free:∀ b o,b∉ch->s.heap.get? b=some o->H b=none->H' b=none)
  (there:∀ b o,b∉ch->s.heap.get? b=some o->∃ o',h'.get? b=some o')
  (tups:∀ b xs,H b=some (.tup xs)->H' b=some (.tup xs)) (frzs:∀ b o u,H b=some (.frz o u)->H' b=some (.frz o u)) (tbls:∀ b q,H b=some (.tbl q)->H' b=some (.tbl q))
  (ns:∀ m,s.heap.Ns X.env.locals m->h'.Ns X.env.locals m) (hok:HOk X.prog X.w H' h') (hg:AllBare g') :
  Inv X Jw σ H' { s with heap:=h',gens:=g',drawn:=d',toks:=t' }:=by
 have neL:∀ b o,X.s₀.heap.get? b=some o->b≠X.env.locals:=fun b o e=>EE (Es (Ea e) I.ok.above);have neC:∀ b o,X.s₀.heap.get? b=some o->b∉X.ex->b∉ch:=fun b o e hx hb=>by
  rcases (hch b hb).1 with z | z
  ·exact hx z
  ·exact absurd (Es (Ea e) z) (Ga _)
 have cellK:∀ x c,X.env.cells.lookup x=some c->∀ v,s.heap.IsCell c v->h'.IsCell c v:=fun x c e v ⟨o,ho,hd⟩=>by
  have nch:c∉ch:=fun z=>(hch c z).2.2.1 x c e rfl;by_cases hc:c∈X.fs
  ·obtain⟨sl,q⟩:=slot c o (I.cne x c e) hc nch ho (I.freeC x c e);exact⟨_,q,hd⟩
  ·exact⟨o,keep c o (I.cne x c e) hc nch ho (I.freeC x c e),hd⟩
 refine⟨I.ok,I.os,hg,⟨fun b o e n hb hx=>?_,fun b o e n hb hx=>?_,fun b o e n hx=>?_,fun b o e hx=>?_,fun b xs e=>tups b xs (I.base.tups b xs e),fun b o xs e=>frzs b o xs (I.base.frzs b o xs e),fun b ps e=>?_⟩,?_,fun x c e=>?_,?_,fun x c e=>?_,fun p hp=>?_,hok,I.len⟩
 ·exact keep b o (neL b o e) hb (neC b o e hx) (I.base.keep b o e n hb hx) (I.base.free b o e n hx)
 ·obtain⟨sl,e1⟩:=I.base.slot b o e n hb hx;obtain⟨sl',e2⟩:=slot b _ (neL b o e) hb (neC b o e hx) e1 (I.base.free b o e n hx);exact⟨sl',e2⟩
 ·obtain⟨o',e1⟩:=I.base.there b o e hx;exact free b o' (neC b o e hx) e1 (I.base.free b o e n hx)
 ·obtain⟨o',e1⟩:=I.base.there b o e hx;exact there b o' (neC b o e hx) e1
 ·exact tbls b _ (I.base.tbls b _ e)
 ·obtain⟨m,hn,hl⟩:=I.loc;refine⟨m,ns m hn,fun i x v e1 e2 e3=>?_⟩;obtain⟨u,r,l⟩:=hl i x v e1 e2 e3;refine⟨u,r,?_⟩;rcases l with l | ⟨k,c,e,z⟩
  ·exact .inl l
  ·exact .inr ⟨k,c,e,cellK x c e _ z⟩
 ·obtain⟨v,z⟩:=I.cell x c e;exact⟨v,cellK x c e v z⟩
 ·obtain⟨m,⟨o,_,_,ho,_⟩,_⟩:=I.loc;exact free _ o (fun z=>(hch _ z).2.1 rfl) ho I.free
 ·obtain⟨v,o,ho,hd⟩:=I.cell x c e;exact free c o (fun z=>(hch c z).2.2.1 x c e rfl) ho (I.freeC x c e)
 ·obtain⟨e,n,ne,nf,d⟩:=I.pin p hp;have nch:p.1∉ch:=fun z=>(hch p.1 z).2.2.2 p hp rfl;exact⟨keep p.1 p.2 ne nf nch e n,free p.1 p.2 nch e n,ne,nf,d⟩
theorem Inv.un {t':Nat} (I:Inv X Jw σ H s) (u:Un X.fs [] H H' s.heap h') (hok:HOk X.prog X.w H' h'):Inv X Jw σ H' { s with heap:=h',toks:=t' }:=by
 obtain⟨m,⟨o,es,ep,ho,r⟩,_⟩:=id I.loc;obtain⟨sl,hL⟩:=u.any ho I.free (by simp);exact I.step (g':=s.gens) (d':=s.drawn) (ch:=[]) (fun _ z=>nomatch z) (fun b o _ hb _ e n=>u.keep b o e n hb (by simp)) (fun b o _ hb _ e n=>u.slot b o e n hb (by simp)) (fun b o _ e n=>u.free b o e n (by simp)) (fun b o _ e=>u.there b o e (by simp)) u.tups u.frzs u.tbls (fun m' hm=>by
  obtain⟨o',es',ep',ho',r'⟩:=hm;rw [ho] at ho';cases ho';exact⟨_,es',ep',hL,r'⟩) hok I.bare
theorem Inv.call {g':Array GenState} {t':Nat} {d':Drawn} {ch:List DY} (I:Inv X Jw σ H s) (u:Un (frs X.stack) ch H H' s.heap h') (hok:HOk X.prog X.w H' h') (hg:AllBare g')
  (hch:∀ b∈ch,(b∈X.ex \/ X.s₀.heap.objs.size<=b)/\b≠X.env.locals/\(∀ x c,X.env.cells.lookup x=some c->c≠b)/\∀ p∈X.pn++Jw,p.1≠b) :
  Inv X Jw σ H' { s with heap:=h',gens:=g',drawn:=d',toks:=t' }:=by
 obtain⟨m,⟨o,es,ep,ho,r⟩,_⟩:=id I.loc;obtain⟨sl,hL⟩:=u.any ho I.free fun z=>(hch _ z).2.1 rfl;exact I.step (ch:=ch) hch (fun b o hL hb hc e n=>u.keep b o e n (fun z=>(D5.mp (I.stkSub b z)).elim hL hb) hc) (fun b o _ _ hc e n=>u.any e n hc) (fun b o hc e n=>u.free b o e n hc) (fun b o hc e=>u.there b o e hc) u.tups u.frzs u.tbls (fun m' hm=>by
  obtain⟨o',es',ep',ho',r'⟩:=hm;rw [ho] at ho';cases ho';exact⟨_,es',ep',hL,r'⟩) hok hg
theorem Inv.turned {t':Nat} {it:DY} (I:Inv X Jw σ H s) (k:∀ b o,b≠it->s.heap.get? b=some o->h'.get? b=some o) (hn:H it=none) (hL:it≠X.env.locals)
  (h1:it∈X.ex \/ X.s₀.heap.objs.size<=it) (h2:∀ x c,X.env.cells.lookup x=some c->c≠it) (h3:∀ p∈X.pn++Jw,p.1≠it):Inv X Jw σ H { s with heap:=h',toks:=t' }:=by
 have nit:∀ b u,H b=some u->b≠it:=fun b u e z=>by rw [z,hn] at e;cases e
 refine I.step (g':=s.gens) (d':=s.drawn) (ch:=[it]) (fun b hb=>?_) (fun b o _ _ hc e _=>k b o (fun z=>hc (by simp [z])) e) (fun b o _ _ hc e _=>⟨o.slots,k b o (fun z=>hc (by simp [z])) e⟩) (fun _ _ _ _ n=>n)
  (fun b o hc e=>⟨o,k b o (fun z=>hc (by simp [z])) e⟩) (fun _ _ e=>e) (fun _ _ _ e=>e) (fun b ps e=>by exact e) (fun m hm=>?_) (fun b u e=>?_) I.bare
 ·have e:b=it:=by simpa using hb
  subst e;exact⟨h1,hL,h2,h3⟩
 ·obtain⟨o,es,ep,ho,r⟩:=hm;exact⟨o,es,ep,k _ o (Gv hL) ho,r⟩
 ·refine (I.hok b u e).stay (fun c v hc q=>k c v ?_ q) (fun _ q=>q) fun _ _ q=>q;rcases hc with z | z
  ·rw [z];exact nit b u e
  ·exact nit c _ z
theorem Inv.tok (I:Inv X Jw σ H s) (t:Nat):Inv X Jw σ H { s with toks:=t }:=I.un (h':=s.heap) (t':=t) Un.refl I.hok
theorem Inv.kept {t':Nat} (I:Inv X Jw σ H s) (k:∀ b u,s.heap.get? b=some u->h'.get? b=some u):Inv X Jw σ H { s with heap:=h',toks:=t' }:=I.un (Un.kept k) (I.hok.kept k)
theorem Inv.laid {a:DY} {o:HO} {t':Nat} (I:Inv X Jw σ H s) (k:∀ b u,s.heap.get? b=some u->h'.get? b=some u) (hp:s.heap.objs.size<=a) (new:ObjOk X.prog X.w (upd H a o) h' a o) :
  Inv X Jw σ (upd H a o) { s with heap:=h',toks:=t' }:=I.un (Un.laid k hp (I.hok.fresh hp)) (I.hok.laid k hp new)
theorem Inv.write {x e:DY} {o:HO} {t':Nat} (I:Inv X Jw σ H s) (mu:Mut (H x)) (he:e=x \/ H e=some (.own x)) (k:∀ b u,b≠e->s.heap.get? b=some u->h'.get? b=some u) (heo:∃ u,h'.get? e=some u)
  (new:ObjOk X.prog X.w (upd H x o) h' x o):Inv X Jw σ (upd H x o) { s with heap:=h',toks:=t' }:=I.un (Un.write mu he k heo) (I.hok.write mu he k heo new)
theorem Inv.pins_of {pins':List (DY×Obj)} (I:Inv X Jw σ H s) (h:∀ p∈pins',s.heap.get? p.1=some p.2/\H p.1=none/\p.1≠X.env.locals/\p.1∉X.fs/\∀ v,p.2.data≠.cell v):Inv X pins' σ H s :=
 ⟨I.ok,I.os,I.bare,I.base,I.loc,I.cell,I.free,I.freeC,fun p hp=>(En.mp hp).elim (fun z=>I.pin p (Ew _ z)) (h p),I.hok,I.len⟩
theorem gN {N:List Str} (hN:N.Nodup) {i j:Nat} {x:Str} (a:N[i]?=some x) (b:N[j]?=some x):i=j:=by
 obtain⟨h1,e1⟩:=DU.mp a;obtain⟨h2,e2⟩:=DU.mp b;exact (Hs hN).mp (e1.trans e2.symm)
theorem dU {M:Model} {A:Around} {E:Value->Shared->Prop} {i:Nat} {x:Str} {v:V} {u:Value} {Q:Unit->Shared->Prop} (I:Inv X Jw σ H s) (hN:X.N.Nodup) (hi:X.N[i]?=some x) (hx:Loc X.env.scope x) (r:RelV v u)
  (h:∀ s',Inv X Jw (σ.set i (some v)) H s'->(∃ a,F4 a s.heap s'.heap/\(a=X.env.locals \/ X.env.cells.lookup x=some a))->Q () s') (hf:X.fn x=true \/ X.env.scope.names.lookup x=some .local:=by first | exact .inl rfl | exact .inr rfl | assumption):Eo M A (storeName X.env x u) Q E s:=by
 obtain⟨m,hn,hl⟩:=id I.loc;have hcls:(X.env.scope.kind == .class || (X.env.scope.kind == .module && X.env.locals != X.env.globals))=false:=by rw [I.ok.kind];rfl
 have hiσ:i<σ.length:=by rw [I.len];exact (DU.mp hi).1
 have cne:=I.cne;have tracked:∀ {a:DY} {h':Heap},(∃ o,s.heap.get? a=some o/\H a=none)->F4 a s.heap h'->HOk X.prog X.w H h':=fun {a h'} ha hs b ob e=>by
  obtain⟨_,_,hfree⟩:=ha;refine (I.hok b ob e).stay (fun c w' hc q=>(hs.2 c ?_).trans q) (fun _ q=>q) fun _ _ q=>q;rintro rfl;rcases hc with rfl | hc
  ·rw [hfree] at e;cases e
  ·rw [hfree] at hc;cases hc
 rcases hx with hk | hk
 ·refine wpAny_storeName_local hk hn (fun h' hn' hs=>?_) hcls;obtain⟨oL,_,_,hoL,_⟩:=id hn;refine h _ ⟨I.ok,I.os,I.bare,⟨fun b o e n hb hx=>?_,fun b o e n hb hx=>?_,I.base.free,fun b o e hx=>?_,I.base.tups,I.base.frzs,I.base.tbls⟩,⟨_,hn',fun j y v' e1 e2 e3=>?_⟩,fun y c e=>?_,I.free,I.freeC,fun p hp=>?_,tracked ⟨oL,hoL,I.free⟩ hs,by simpa using I.len⟩ ⟨_,hs,.inl rfl⟩
  ·exact (hs.2 b (EE (Es (Ea e) I.ok.above))).trans (I.base.keep b o e n hb hx)
  ·obtain⟨sl,e1⟩:=I.base.slot b o e n hb hx;exact⟨sl,(hs.2 b (EE (Es (Ea e) I.ok.above))).trans e1⟩
  ·obtain⟨o',e1⟩:=I.base.there b o e hx;exact⟨o',(hs.2 b (EE (Es (Ea e) I.ok.above))).trans e1⟩
  ·by_cases hj:j=i
   ·subst hj;rw [hi] at e1;cases e1;rw [E4 hiσ] at e2;cases e2;exact⟨u,r,.inl ⟨hk,by simp⟩⟩
   ·rw [Fe (Gv hj)] at e2;obtain⟨u',r',q⟩:=hl j y v' e1 e2 e3;refine⟨u',r',?_⟩;rcases q with⟨k,e⟩ | ⟨k,c,e,z⟩
    ·refine .inl ⟨k,?_⟩;have:y≠x:=fun e=>hj (gN hN e1 (e▸hi));simp [this,e]
    ·exact .inr ⟨k,c,e,z.sameBut hs (cne y c e)⟩
  ·obtain⟨w',z⟩:=I.cell y c e;exact⟨w',z.sameBut hs (cne y c e)⟩
  ·obtain⟨e,n,ne,nf,d⟩:=I.pin p hp;exact⟨(hs.2 p.1 ne).trans e,n,ne,nf,d⟩
 ·have hfn:X.fn x=true:=by
   rcases hf with z | z
   ·exact z
   ·rw [z] at hk;cases hk
  obtain⟨c,hc⟩:=I.ok.has x (.inl hk);obtain⟨w',z⟩:=I.cell x c hc;refine wpAny_storeName_cell I.ok.kind hk hc z (fun h' hc' hs=>?_);obtain⟨oc,hoc,hocd⟩:=id z;refine h { s with heap:=h' } ⟨I.ok,I.os,I.bare,⟨fun b o e n hb hx=>?_,fun b o e n hb hx=>?_,I.base.free,fun b o e hx=>?_,I.base.tups,I.base.frzs,I.base.tbls⟩,⟨m,hn.sameBut hs (Gv (cne x c hc)),fun j y v' e1 e2 e3=>?_⟩,fun y c' e=>?_,I.free,I.freeC,fun p hp=>?_,tracked ⟨oc,hoc,I.freeC x c hc⟩ hs,by simpa using I.len⟩ ⟨c,hs,.inr hc⟩
  ·exact (hs.2 b (EE (Es (Ea e) (I.ok.cab x c hfn hc)))).trans (I.base.keep b o e n hb hx)
  ·obtain⟨sl,e1⟩:=I.base.slot b o e n hb hx;exact⟨sl,(hs.2 b (EE (Es (Ea e) (I.ok.cab x c hfn hc)))).trans e1⟩
  ·obtain⟨o',e1⟩:=I.base.there b o e hx;exact⟨o',(hs.2 b (EE (Es (Ea e) (I.ok.cab x c hfn hc)))).trans e1⟩
  ·by_cases hj:j=i
   ·subst hj;rw [hi] at e1;cases e1;rw [E4 hiσ] at e2;cases e2;exact⟨u,r,.inr ⟨.inl hk,c,hc,hc'⟩⟩
   ·rw [Fe (Gv hj)] at e2;obtain⟨u',r',q⟩:=hl j y v' e1 e2 e3;refine⟨u',r',?_⟩;rcases q with q | ⟨k,c',e,z'⟩
    ·exact .inl q
    ·refine .inr ⟨k,c',e,z'.sameBut hs ?_⟩;rintro rfl;exact hj (gN hN e1 (I.ok.inj _ _ _ e hc▸hi))
  ·by_cases hcc:c'=c
   ·subst hcc;exact⟨_,hc'⟩
   ·obtain⟨w2,z2⟩:=I.cell y c' e;exact⟨w2,z2.sameBut hs hcc⟩
  ·obtain⟨e,n,ne,nf,d⟩:=I.pin p hp;refine⟨(hs.2 p.1 ?_).trans e,n,ne,nf,d⟩;intro q;rw [q,hoc] at e;have q':oc=p.2:=Option.some.inj e;exact d w' (by rw [<-q'];exact hocd)
theorem af {M:Model} {A:Around} {E:Value->Shared->Prop} {i:Nat} {x:Str} {v:V} {u:Value} {Q:Unit->Shared->Prop} (I:Inv X Jw σ H s) (hN:X.N.Nodup) (hi:X.N[i]?=some x) (hx:Loc X.env.scope x) (r:RelV v u)
  (h:∀ s',Inv X Jw (σ.set i (some v)) H s'->Q () s') (hf:X.fn x=true \/ X.env.scope.names.lookup x=some .local:=by first | exact .inl rfl | exact .inr rfl | assumption):Eo M A (storeName X.env x u) Q E s :=
 dU I hN hi hx r (fun s' I' _=>h s' I') hf
theorem Inv.call' {s':Shared} {ch:List DY} (I:Inv X Jw σ H s) (ho:s'.os=s.os) (u:Un (frs X.stack) ch H H' s.heap s'.heap) (hok:HOk X.prog X.w H' s'.heap) (hg:AllBare s'.gens)
  (hch:∀ b∈ch,(b∈X.ex \/ X.s₀.heap.objs.size<=b)/\b≠X.env.locals/\(∀ x c,X.env.cells.lookup x=some c->c≠b)/\∀ p∈X.pn++Jw,p.1≠b):Inv X Jw σ H' s':=by
 obtain⟨h',g',d',t',o'⟩:=s';have e:o'=s.os:=ho;subst e;exact I.call (g':=g') (t':=t') (d':=d') u hok hg hch
end
abbrev XK:=Value->Option DY->Hp->Prop
abbrev St:=List (Option V)
abbrev VK:=V->Hp->Prop
abbrev TE:=St->Hp->VK->Prop
noncomputable abbrev TT:=St->Hp->(Bool->Hp->Prop)->Prop
abbrev TA:=St->Hp->(List V->Hp->Prop)->Prop
structure Ends where
 nx:St->Hp->Prop
 rt:VK
 bk:St->Hp->Prop:=fun _ _=>False
 ct:St->Hp->Prop:=fun _ _=>False
abbrev TS:=Ends->St->Hp->Prop
def EP (X:Cx) (Jw:List (DY×Obj)) (σ:St) (Q:VK) (u:Value) (s':Shared):Prop:=∃ v H',Inv X Jw σ H' s'/\RelV v u/\Q v H'
def TP (X:Cx) (Jw:List (DY×Obj)) (σ:St) (Q:Bool->Hp->Prop) (b:Bool) (s':Shared):Prop:=∃ H',Inv X Jw σ H' s'/\Q b H'
def AP (X:Cx) (Jw:List (DY×Obj)) (σ:St) (Q:List V->Hp->Prop) (us:List Value) (s':Shared):Prop:=∃ vs H',Inv X Jw σ H' s'/\Vals vs us/\Q vs H'
def SP (X:Cx) (Jw:List (DY×Obj)) (D:Ends) (f:Flow) (s':Shared):Prop :=
 match f with
 | .next=>∃ σ' H',Inv X Jw σ' H' s'/\D.nx σ' H'
 | .brk=>∃ σ' H',Inv X Jw σ' H' s'/\D.bk σ' H'
 | .cont=>∃ σ' H',Inv X Jw σ' H' s'/\D.ct σ' H'
 | .ret u=>∃ v σ' H',Inv X Jw σ' H' s'/\RelV v u/\D.rt v H'
def PE (X:Cx) (e:Expr) (t:TE):Prop :=
 ∀ (Jw:List (DY×Obj)) (s:Shared) (σ:St) (H:Hp) (Q:VK),Inv X Jw σ H s->t σ H Q->Eo (model X.prog X.w) X.A (eval e X.env) (EP X Jw σ Q) X.xe s
def PT (X:Cx) (e:Expr) (t:TT):Prop :=
 ∀ (Jw:List (DY×Obj)) (s:Shared) (σ:St) (H:Hp) (Q:Bool->Hp->Prop),Inv X Jw σ H s->t σ H Q->Eo (model X.prog X.w) X.A (isTrue e X.env (eval e X.env)) (TP X Jw σ Q) X.xe s
def PW (X:Cx) (e:Expr) (t:TT):Prop :=
 ∀ (whole:Sem Value) (Jw:List (DY×Obj)) (s:Shared) (σ:St) (H:Hp) (Q:Bool->Hp->Prop),Inv X Jw σ H s->t σ H Q->Eo (model X.prog X.w) X.A (isTrue e X.env whole) (TP X Jw σ Q) X.xe s
theorem PW.pt {X:Cx} {e:Expr} {t:TT} (h:PW X e t):PT X e t:=h _
def PA (X:Cx) (es:List Expr) (t:TA):Prop :=
 ∀ (pos:Pos) (Jw:List (DY×Obj)) (s:Shared) (σ:St) (H:Hp) (Q:List V->Hp->Prop),Inv X Jw σ H s->t σ H Q->Eo (model X.prog X.w) X.A (spliced (backTo pos (EG es X.env))) (AP X Jw σ Q) X.xe s
def PS (X:Cx) (st:Stmt) (t:TS):Prop :=
 ∀ (Jw:List (DY×Obj)) (s:Shared) (σ:St) (H:Hp) (D:Ends),Inv X Jw σ H s->t D σ H->Eo (model X.prog X.w) X.A (exec st X.env) (SP X Jw D) X.xe s
def PSs (X:Cx) (st:List Stmt) (t:TS):Prop :=
 ∀ (Jw:List (DY×Obj)) (s:Shared) (σ:St) (H:Hp) (D:Ends),Inv X Jw σ H s->t D σ H->Eo (model X.prog X.w) X.A (execs st X.env) (SP X Jw D) X.xe s
theorem thn {α:Type} {t:Sem α} {Q Q':α->Shared->Prop} {M:Model} {A:Around} {E:Value->Shared->Prop} {s:Shared} (h:Eo M A t Q E s) (hQ:∀ a s,Q a s->Q' a s):Eo M A t Q' E s:=FW h hQ fun _ _ x=>x
section
variable {X:Cx}
def yD (i:Nat):TE:=fun σ H Q=>∃ v,σ[i]?=some (some v)/\Q v H
def tC (v:V):TE:=fun _ H Q=>Q v H
theorem Ay {i:Nat} {x:Str} {pos:Pos} (hN:X.N[i]?=some x) (hv:Vis X.env.scope x) (hd:(x == ("__debug__":Str))=false:=by decide) (hcd:(x == ("__classdict__":Str))=false:=by decide):PE X (.Name x pos) (yD i):=by
 intro Jw s σ H Q I h;obtain⟨v,e,h⟩:=h;obtain⟨m,hn,hl⟩:=I.loc;obtain⟨u,r,l⟩:=hl i x v hN e hv;have fin:EP X Jw σ Q u s:=⟨v,H,I,r,h⟩;rcases l with⟨hk,hm⟩ | ⟨hk,c,hc,hcell⟩
 ·exact wpAny_Name (wpAny_loadName_local I.ok.kind hk hn hm fin) hd
 ·rcases hk with hk | hk
  ·exact wpAny_Name (wpAny_loadName_cell I.ok.kind hk hc hcell fin) hd
  ·exact wpAny_Name (wpAny_loadName_free I.ok.kind hk hc hcell fin hcd) hd
theorem zh {i j pos}:PE X (.Constant (.int i) j pos) (tC (.int i)):=fun _ _ _ H _ I h=>wpAny_Constant_int ⟨.int i,H,I.tok _,⟨_,rfl⟩,h⟩
theorem ag {b j pos}:PE X (.Constant (.bool b) j pos) (tC (.bl b)):=fun _ _ _ H _ I h=>Constant_bool ⟨.bl b,H,I,rfl,h⟩
theorem rh {x j pos}:PE X (.Constant (.str x) j pos) (tC (.str x)):=fun _ _ _ H _ I h=>Calls.Constant_str ⟨.str x,H,I.tok _,⟨_,rfl⟩,h⟩
def Gl (X:Cx) (x:Str):Prop:=X.env.kindOf x=some .globalImplicit
theorem lR {E:Value->Shared->Prop} {Jw:List (DY×Obj)} {s:Shared} {σ:St} {H:Hp} {x:Str} {u:Value} {pos:Pos} {Q:Value->Shared->Prop} (I:Inv X Jw σ H s) (hg:Gl X x) (hm:X.mg x=some u) (h:Q u s)
  (hd:(x == ("__debug__":Str))=false:=by decide):Eo (model X.prog X.w) X.A (eval (.Name x pos) X.env) Q E s :=
 HJ I.ok.kind hg (Calls.loadGlobal_global (by rw [I.ok.glob];exact I.mod.glob.keeps I.bk) hm h) hd
theorem vT {E:Value->Shared->Prop} {Jw:List (DY×Obj)} {s:Shared} {σ:St} {H:Hp} {x:Str} {u:Value} {pos:Pos} {Q:Value->Shared->Prop} (I:Inv X Jw σ H s) (hg:Gl X x) (hm:X.mg x=none) (hv:bootBuiltins x=some u) (h:Q u s)
  (hn:x ≠ "__name__":=by decide) (hd:(x == ("__debug__":Str))=false:=by decide):Eo (model X.prog X.w) X.A (eval (.Name x pos) X.env) Q E s:=by
 obtain⟨mb,h1,h2⟩:=I.mod.blt;exact HJ I.ok.kind hg (Calls.loadGlobal_builtin (by rw [I.ok.glob];exact I.mod.glob.keeps I.bk) hm (by rw [I.ok.blt];exact h1.keeps I.bk) ((h2 x hn).trans hv) h) hd
theorem uI {x:Str} {v:V} {u:Value} {pos:Pos} (hg:Gl X x) (hm:X.mg x=some u) (r:RelV v u) (hd:(x == ("__debug__":Str))=false:=by decide):PE X (.Name x pos) (tC v) :=
 fun _ _ _ H _ I h=>lR I hg hm ⟨v,H,I,r,h⟩ hd
variable {a b:Expr} {ta tb:TE} {pos:Pos}
def tB (t:TE):TT:=fun σ H Q=>t σ H fun x H1=>∃ c,x=.bl c/\Q c H1
variable {tA tB':TT} {rest:List Expr}
def Cf (t u:TT):TT:=fun σ H Q=>t σ H fun c H1=>if c=true then u σ H1 Q else Q false H1
def tOr (t u:TT):TT:=fun σ H Q=>t σ H fun c H1=>if c=true then Q true H1 else u σ H1 Q
def Cg (t:TT):TT:=fun σ H Q=>t σ H fun c H1=>Q (!c) H1
theorem lS (ha:PT X a tA):PW X (.BoolOp .And [a] pos) tA:=by
 intro wh Jw s σ H Q I h;refine isTrue_and (thn (ha Jw s σ H Q I h) fun c s1 e=>?_);cases c with
 | true=>exact isTrue_and_nil e
 | false=>exact e
theorem rj (ha:PT X a tA):PW X (.BoolOp .Or [a] pos) tA:=by
 intro wh Jw s σ H Q I h;refine isTrue_or (thn (ha Jw s σ H Q I h) fun c s1 e=>?_);cases c with
 | false=>exact isTrue_or_nil e
 | true=>exact e
theorem rn (ha:PT X a tA) (hb:PW X (.BoolOp .And (b :: rest) pos) tB'):PW X (.BoolOp .And (a :: b :: rest) pos) (Cf tA tB'):=by
 intro wh Jw s σ H Q I h;refine isTrue_and (thn (ha Jw s σ H _ I h) fun c s1 ⟨H1,I1,q1⟩=>?_);cases c with
 | true=>exact hb wh Jw s1 σ H1 Q I1 q1
 | false=>exact⟨H1,I1,q1⟩
theorem xM (ha:PT X a tA) (hb:PW X (.BoolOp .Or (b :: rest) pos) tB'):PW X (.BoolOp .Or (a :: b :: rest) pos) (tOr tA tB'):=by
 intro wh Jw s σ H Q I h;refine isTrue_or (thn (ha Jw s σ H _ I h) fun c s1 ⟨H1,I1,q1⟩=>?_);cases c with
 | true=>exact⟨H1,I1,q1⟩
 | false=>exact hb wh Jw s1 σ H1 Q I1 q1
theorem cB (ha:PT X a tA):PT X (.UnaryOp .Not a pos) (Cg tA):=by
 intro Jw s σ H Q I h;exact isTrue_not (ha Jw s σ H (fun c H1=>Q (!c) H1) I h)
def xN (ta tb:TE):TE:=fun σ H Q=>ta σ H fun x H1=>∃ c,x=.bl c/\if c=true then tb σ H1 Q else Q (.bl false) H1
theorem kh {op} {t:TE} (h:PE X a t):PE X (.BoolOp op [a] pos) t:=fun Jw s σ H Q I hw=>BoolOp_one (h Jw s σ H Q I hw)
theorem ff (ha:PE X a ta) (hb:PE X (.BoolOp .And (b :: rest) pos) tb):PE X (.BoolOp .And (a :: b :: rest) pos) (xN ta tb):=by
 intro Jw s σ H Q I h;refine BoolOp_and (thn (ha Jw s σ H _ I h) fun v s1 ⟨x,H1,I1,r1,q1⟩=>?_);obtain⟨c,rfl,q1⟩:=q1;cases r1;refine Gs ?_;cases c with
 | true=>exact hb Jw s1 σ H1 Q I1 q1
 | false=>exact⟨.bl false,H1,I1,rfl,q1⟩
def tIf (t:TT) (ta tb:TE):TE:=fun σ H Q=>t σ H fun c H1=>if c=true then ta σ H1 Q else tb σ H1 Q
theorem rp {c:Expr} (hc:PT X c tA) (ha:PE X a ta) (hb:PE X b tb):PE X (.IfExp c a b pos) (tIf tA ta tb):=by
 intro Jw s σ H Q I h;refine wpAny_IfExp (thn (hc Jw s σ H _ I h) fun d s1 ⟨H1,I1,q1⟩=>?_);cases d with
 | true=>exact ha Jw s1 σ H1 Q I1 q1
 | false=>exact hb Jw s1 σ H1 Q I1 q1
end
def SqL (K:DT) (H:Hp) (a:DY) (xs:List V):Prop :=
 Rd H a (.lst xs) \/
  ∃ (o:Obj) (its:Array Value) (n:Nat),K.lookup a=some o/\o.cls=.type "list"/\o.dict=none/\o.data=.seq its n/\its.size<=EJ/\Vals xs its.toList
def SqT (K:DT) (H:Hp) (a:DY) (xs:List V):Prop :=
 Rd H a (.tup xs) \/
  ∃ (o:Obj) (its:Array Value) (n:Nat),K.lookup a=some o/\o.cls=.type "tuple"/\o.data=.seq its n/\its.size<=EJ/\Vals xs its.toList
noncomputable def DA:Value->Option V
 | .none=>some .non
 | .bool b=>some (.bl b)
 | .int i _=>some (.int i)
 | .str x _=>some (.str x)
 | .bytes b _=>some (.byt b)
 | .float b _=>some (.flt b)
 | .ref a=>some (.ref a)
 | .type n=>some (.ty n)
 | _=>none
theorem RelV.abs {x:V} {u:Value} (r:RelV x u):DA u=some x:=by
 cases x with
 | non=>cases r;rfl
 | bl _=>cases r;rfl
 | int _=>obtain⟨t,rfl⟩:=r;rfl
 | str _=>obtain⟨t,rfl⟩:=r;rfl
 | byt _=>obtain⟨t,rfl⟩:=r;rfl
 | flt _=>obtain⟨t,rfl⟩:=r;rfl
 | ref _=>cases r;rfl
 | ty _=>cases r;rfl
theorem RelV.inj {x y:V} {u:Value} (r:RelV x u) (q:RelV y u):x=y:=Option.some.inj (r.abs.symm.trans q.abs)
theorem Vals.inj:∀ {xs ys:List V} {us:List Value},Vals xs us->Vals ys us->xs=ys
 | _,_,_,.nil,.nil=>rfl
 | _,_,_,.cons r t,.cons r' t'=>by rw [r.inj r',Vals.inj t t']
section
variable {X:Cx} {Jw:List (DY×Obj)} {σ:St} {H:Hp} {s:Shared} {a:DY} {xs ys:List V}
theorem SqL.of {K:DT} (h:H a=some (.lst xs)):SqL K H a xs:=.inl (.inl h)
theorem SqT.of {K:DT} (h:H a=some (.tup xs)):SqT K H a xs:=.inl (.inl h)
theorem Inv.list (I:Inv X Jw σ H s) (h:SqL X.K H a xs):∃ its:List Value,Vals xs its/\PlainL s.heap a its.toArray/\xs.length<=EJ:=by
 rcases h with h | ⟨o,its,n,hk,hc,hd,hs,hz,r⟩
 ·obtain⟨z,its,n,r,e⟩:=h.ok I.hok;exact⟨its,r,⟨_,n,e,rfl,rfl,rfl⟩,z⟩
 ·refine⟨its.toList,r,⟨o,n,I.kIn a o hk,hc,hd,by simpa using hs⟩,?_⟩;have e:=r.length;simp only [Ek] at e;omega
theorem Inv.tuple (I:Inv X Jw σ H s) (h:SqT X.K H a xs):∃ its:List Value,Vals xs its/\IsTup s.heap a its.toArray/\xs.length<=EJ:=by
 rcases h with h | ⟨o,its,n,hk,hc,hs,hz,r⟩
 ·obtain⟨z,its,r,p⟩:=h.ok I.hok;exact⟨its,r,p,z⟩
 ·refine⟨its.toList,r,⟨o,I.kIn a o hk,hc,n,by simpa using hs⟩,?_⟩;have e:=r.length;simp only [Ek] at e;omega
theorem Inv.list_inj (I:Inv X Jw σ H s) (h:SqL X.K H a xs) (h':SqL X.K H a ys):xs=ys:=by
 obtain⟨its,r,⟨o,n,e,_,_,d⟩,_⟩:=I.list h;obtain⟨its',r',⟨o',n',e',_,_,d'⟩,_⟩:=I.list h';rw [e] at e';cases e';rw [d] at d';injection d' with d1 _;have:its=its':=by simpa using congrArg Array.toList d1
 subst this;exact r.inj r'
theorem Inv.tuple_inj (I:Inv X Jw σ H s) (h:SqT X.K H a xs) (h':SqT X.K H a ys):xs=ys:=by
 obtain⟨its,r,⟨o,e,_,n,d⟩,_⟩:=I.tuple h;obtain⟨its',r',⟨o',e',_,n',d'⟩,_⟩:=I.tuple h';rw [e] at e';cases e';rw [d] at d';injection d' with d1 _;have:its=its':=by simpa using congrArg Array.toList d1
 subst this;exact r.inj r'
end
noncomputable abbrev Cx.wish (X:Cx) (E:Value->Shared->Prop):Cx:={ X with xe:=E }
noncomputable abbrev Cx.nox (X:Cx):Cx:=X.wish fun _ _=>False
theorem Cx.Ok.wish {X:Cx} (ok:X.Ok) (E:Value->Shared->Prop):(X.wish E).Ok :=
 ⟨ok.mod,ok.kind,ok.glob,ok.blt,ok.above,ok.inj,ok.has,ok.cab,ok.hd,ok.frames,ok.stk,ok.exf,ok.bs,ok.bsz,ok.noex,ok.exfs,ok.funs,ok.frf,ok.tabs⟩
theorem Cx.Ok.unwish {X:Cx} {E:Value->Shared->Prop} (ok:(X.wish E).Ok):X.Ok :=
 ⟨ok.mod,ok.kind,ok.glob,ok.blt,ok.above,ok.inj,ok.has,ok.cab,ok.hd,ok.frames,ok.stk,ok.exf,ok.bs,ok.bsz,ok.noex,ok.exfs,ok.funs,ok.frf,ok.tabs⟩
section
variable {X:Cx} {Jw:List (DY×Obj)} {σ:St} {H:Hp} {s:Shared} {E:Value->Shared->Prop}
theorem Inv.wish (I:Inv X Jw σ H s) (E:Value->Shared->Prop):Inv (X.wish E) Jw σ H s:=⟨I.ok.wish E,I.os,I.bare,I.base,I.loc,I.cell,I.free,I.freeC,I.pin,I.hok,I.len⟩
theorem Inv.unwish (I:Inv (X.wish E) Jw σ H s):Inv X Jw σ H s:=⟨I.ok.unwish,I.os,I.bare,I.base,I.loc,I.cell,I.free,I.freeC,I.pin,I.hok,I.len⟩
theorem SP.unwish {D:Ends} {f:Flow} {s':Shared} (h:SP (X.wish E) Jw D f s'):SP X Jw D f s':=by
 cases f with
 | next=>obtain⟨σ',H',I,q⟩:=h;exact⟨σ',H',I.unwish,q⟩
 | brk=>obtain⟨σ',H',I,q⟩:=h;exact⟨σ',H',I.unwish,q⟩
 | cont=>obtain⟨σ',H',I,q⟩:=h;exact⟨σ',H',I.unwish,q⟩
 | ret u=>obtain⟨v,σ',H',I,r,q⟩:=h;exact⟨v,σ',H',I.unwish,r,q⟩
theorem PSs.nox {st:List Stmt} {t:TS} (h:PSs X.nox st t):PSs X st t:=fun Jw s σ H D I hw =>
 FW (h Jw s σ H D (I.wish _) hw) (fun _ _ q=>q.unwish) fun _ _ z=>GD z
end
section
variable {X:Cx} {st:Stmt} {rest:List Stmt} {t u:TS} {e:Expr} {te:TE} {pos:Pos}
def lT:TS:=fun D σ H=>D.nx σ H
def qt (t u:TS):TS:=fun D σ H=>t { D with nx:=u D } σ H
theorem yp:PSs X [] lT:=fun _ _ σ H _ I h=>wpAny_execs_nil ⟨σ,H,I,h⟩
theorem zc (h1:PS X st t) (h2:PSs X rest u):PSs X (st :: rest) (qt t u):=by
 intro Jw s σ H D I h;refine wpAny_execs_cons (thn (h1 Jw s σ H { D with nx:=u D } I h) fun f s1 q=>?_);cases f with
 | next =>
  obtain⟨σ',H',I',q⟩:=q;exact h2 Jw s1 σ' H' D I' q
 | ret v=>exact q
 | brk=>exact q
 | cont=>exact q
theorem zl (h1:PS X st t):PSs X [st] t:=by
 intro Jw s σ H D I h;refine wpAny_execs_cons (thn (h1 Jw s σ H D I h) fun f s1 q=>?_);cases f with
 | next=>exact wpAny_execs_nil q
 | ret v=>exact q
 | brk=>exact q
 | cont=>exact q
theorem Inv.quiet {Jw:List (DY×Obj)} {σ:St} {H:Hp} {s:Shared} (I:Inv X Jw σ H s):interactive X.env=false:=by simp [interactive,I.ok.kind]
def dW (te:TE):TS:=fun D σ H=>te σ H fun _ H1=>D.nx σ H1
theorem jb (he:PE X e te) (hs:swapsWith e none pos.line X.env=pure false:=by rfl):PS X (.Expr e pos) (dW te):=by
 intro Jw s σ H D I h;exact wpAny_Expr_any (thn (he Jw s σ H _ I h) fun v s1 ⟨x,H1,I1,r1,q1⟩=>⟨σ,H1,I1,q1⟩) I.quiet hs
def gO (te:TE):TS:=fun D σ H=>te σ H D.rt
theorem zG (he:PE X e te):PS X (.Return (some e) pos) (gO te):=by
 intro Jw s σ H D I h;exact wpAny_Return_some (thn (he Jw s σ H _ I h) fun v s1 ⟨x,H1,I1,r1,q1⟩=>⟨x,σ,H1,I1,r1,q1⟩)
def rq (c:TT) (t u:TS):TS:=fun D σ H=>c σ H fun b H1=>if b=true then t D σ H1 else u D σ H1
theorem jl {c:Expr} {a b:List Stmt} {tc:TT} (hc:PT X c tc) (ha:PSs X a t) (hb:PSs X b u):PS X (.If c a b pos) (rq tc t u):=by
 intro Jw s σ H D I h;refine wpAny_If (thn (hc Jw s σ H _ I h) fun d s1 ⟨H1,I1,q1⟩=>?_);cases d with
 | true=>exact ha Jw s1 σ H1 D I1 q1
 | false=>exact hb Jw s1 σ H1 D I1 q1
def Az:TS:=fun _ _ _=>False
theorem gP:PS X st Az:=fun _ _ _ _ _ _ h=>h.elim
end
abbrev TG:=V->St->Hp->(St->Hp->Prop)->Prop
abbrev TGs:=List V->St->Hp->(St->Hp->Prop)->Prop
def PG (X:Cx) (target:Expr) (t:TG):Prop :=
 ∀ (Jw:List (DY×Obj)) (s:Shared) (σ:St) (H:Hp) (v:V) (u:Value) (Q:St->Hp->Prop),Inv X Jw σ H s->RelV v u->t v σ H Q ->
  Eo (model X.prog X.w) X.A (assign target X.env u) (fun _ s'=>∃ σ' H',Inv X Jw σ' H' s'/\Q σ' H') X.xe s
def PGs (X:Cx) (ts:List Expr) (t:TGs):Prop :=
 ∀ (Jw:List (DY×Obj)) (s:Shared) (σ:St) (H:Hp) (vs:List V) (us:List Value) (Q:St->Hp->Prop),Inv X Jw σ H s->Vals vs us->t vs σ H Q ->
  Eo (model X.prog X.w) X.A (assignInOrder ((assignEach ts X.env).map (·.2)) us) (fun _ s'=>∃ σ' H',Inv X Jw σ' H' s'/\Q σ' H') X.xe s
abbrev AA:=V->V->V->Hp->(Hp->Prop)->Prop
def uJ (X:Cx) (t:AA):Prop :=
 ∀ (Jw:List (DY×Obj)) (s:Shared) (σ:St) (H:Hp) (o i v:V) (ov iv u:Value) (Q:Hp->Prop),Inv X Jw σ H s->RelV o ov->RelV i iv->RelV v u->t o i v H Q ->
  Eo (model X.prog X.w) X.A (setItem ov iv u) (fun _ s'=>∃ H',Inv X Jw σ H' s'/\Q H') X.xe s
section
variable {X:Cx} {pos:Pos}
def yS (i:Nat):TG:=fun v σ H Q=>Q (σ.set i (some v)) H
theorem zd {i:Nat} {x:Str} (hN:X.N.Nodup) (hi:X.N[i]?=some x) (hx:Loc X.env.scope x) (hf:X.fn x=true \/ X.env.scope.names.lookup x=some .local:=by first | exact .inl rfl | exact .inr rfl | assumption):PG X (.Name x pos) (yS i):=by
 intro Jw s σ H v u Q I r h;exact wpAny_assign_Name (af I hN hi hx r (fun s' I'=>⟨_,H,I',h⟩) hf)
def AB:TGs:=fun vs σ H Q=>vs=[]/\Q σ H
def gQ (t:TG) (u:TGs):TGs:=fun vs σ H Q=>∃ v r,vs=v :: r/\t v σ H fun σ' H'=>u r σ' H' Q
theorem zL:PGs X [] AB:=by
 intro Jw s σ H vs us Q I r h;obtain⟨e,h⟩:=h;subst e;cases r;exact assignInOrder_nil ⟨σ,H,I,h⟩
theorem zg {e:Expr} {es:List Expr} {t:TG} {u:TGs} (h1:PG X e t) (h2:PGs X es u)
  (hs:(assignEach (e :: es) X.env).map (·.2)=assign e X.env :: (assignEach es X.env).map (·.2):=by rfl):PGs X (e :: es) (gQ t u):=by
 intro Jw s σ H vs us Q I r h;obtain⟨v,vr,e1,h⟩:=h;subst e1;cases r with
 | cons r rr =>
  rw [hs];refine assignInOrder_cons (thn (h1 Jw s σ H _ _ _ I r h) fun _ s1 ⟨σ1,H1,I1,q1⟩=>?_);exact h2 Jw s1 σ1 H1 _ _ Q I1 rr q1
def uK (K:DT) (n:Nat) (t:TGs):TG:=fun v σ H Q=>∃ a xs,v=.ref a/\SqT K H a xs/\xs.length=n/\t xs σ H Q
theorem AD {es:List Expr} {k:Nat} {t:TGs} {n:Nat} (hc:X.calm=true) (h:PGs X es t)
  (hn:(assignEach es X.env).length=n:=by rfl) (hst:(assignEach es X.env).findIdx? (·.1)=none:=by rfl):PG X (.Tuple es k pos) (uK X.K n t):=by
 intro Jw s σ H v u Q I r hw;obtain⟨a,xs,e1,hq,hl,hw⟩:=hw;subst e1;cases r;obtain⟨its,rv,ht,hz⟩:=I.tuple hq;refine assign_Tuple_tuple (I.ok.hd hc) ht (by simp [hn,<- hl,rv.length]) hst fun h' hx=>?_;have I1:Inv X Jw σ H { s with heap:=h' }:=I.kept (t':=s.toks) fun b o e=>hx b o (EE (Ea e)) e;exact h Jw _ σ H xs _ Q I1 (by simpa using rv) hw
def gR (to ti:TE) (t:AA):TG:=fun v σ H Q=>to σ H fun o H1=>ti σ H1 fun i H2=>t o i v H2 fun H3=>Q σ H3
theorem cC {o i:Expr} {to ti:TE} {t:AA} (ho:PE X o to) (hi:PE X i ti) (hs:uJ X t)
  (ha:∀ v,assign (.Subscript o i pos) X.env v=(do
   let ov <- holding [v] (eval o X.env)
   let iv <- holding [v,ov] (eval i X.env)
   standAt pos
   holding [v,ov,iv] (setItem ov iv v)
   release [v,ov,iv] []):=by intro _;rfl):PG X (.Subscript o i pos) (gR to ti t):=by
 intro Jw s σ H v u Q I r h;rw [ha];refine DR (EM (thn (ho Jw s σ H _ I h) fun ov s1 ⟨x,H1,I1,r1,q1⟩=>?_));refine DR (EM (thn (hi Jw s1 σ H1 _ I1 q1) fun iv s2 ⟨y,H2,I2,r2,q2⟩=>?_));refine DR (wpAny_standAt (DR (EM (thn (hs Jw s2 σ H2 x y v ov iv u _ I2 r1 r2 r q2) fun _ s3 ⟨H3,I3,q3⟩=>?_))));exact wpAny_release ⟨σ,H3,I3,q3⟩
def qe (te:TE) (g:TG):TS:=fun D σ H=>te σ H fun x H1=>g x σ H1 D.nx
theorem yr {tg e:Expr} {te:TE} {g:TG} (he:PE X e te) (hg:PG X tg g) (hs:swapsWithSole [tg] e pos.line X.env=pure false:=by rfl) (hw:swappedStores [tg] e X.env=pure none:=by rfl)
  (h1:(assignEach [tg] X.env).map (·.2)=[assign tg X.env]:=by rfl):PS X (.Assign [tg] e pos) (qe te g):=by
 intro Jw s σ H D I h;refine wpAny_Assign_stores (thn (he Jw s σ H _ I h) fun v s1 ⟨x,H1,I1,r1,q1⟩=>?_) hs hw;rw [h1];exact thn (hg Jw s1 σ H1 x v _ I1 r1 q1) fun _ s2 q=>q
theorem zS {i:Nat} {x:Str} {e:Expr} {te:TE} {pos':Pos} (hN:X.N.Nodup) (hi:X.N[i]?=some x) (hx:Loc X.env.scope x) (he:PE X e te) (hs:swapsWith e (some (.Name x pos')) pos.line X.env=pure false:=by rfl) (hf:X.fn x=true \/ X.env.scope.names.lookup x=some .local:=by first | exact .inl rfl | exact .inr rfl | assumption) :
  PS X (.Assign [.Name x pos'] e pos) (qe te (yS i)):=by
 intro Jw s σ H D I h;refine wpAny_Assign_Name (thn (he Jw s σ H _ I h) fun v s1 ⟨y,H1,I1,r1,q1⟩=>?_) hs;exact af I1 hN hi hx r1 (fun s2 I2=>⟨_,H1,I2,q1⟩) hf
def Ci (i j:Nat) (ta:TA):TS:=fun D σ H=>ta σ H fun vs H1=>∃ v w,vs=[v,w]/\D.nx ((σ.set i (some v)).set j (some w)) H1
theorem rA {i j:Nat} {x y:Str} {a b:Expr} {ta:TA} {px py pt:Pos} {kt k2 pt2} (hc:X.calm=true) (hN:X.N.Nodup) (hi:X.N[i]?=some x) (hj:X.N[j]?=some y) (hij:i≠j)
  (hx:X.env.scope.names.lookup x=some .local) (hy:X.env.scope.names.lookup y=some .local) (ha:PA X [a,b] ta)
  (hw:swappedStores [.Tuple [.Name x px,.Name y py] kt pt] (.Tuple [a,b] k2 pt2) X.env=pure (some [x,y]))
  (hs:swapsWithSole [.Tuple [.Name x px,.Name y py] kt pt] (.Tuple [a,b] k2 pt2) pos.line X.env=pure false:=by rfl) :
  PS X (.Assign [.Tuple [.Name x px,.Name y py] kt pt] (.Tuple [a,b] k2 pt2) pos) (Ci i j ta):=by
 intro Jw s σ H D I h;rw [exec_Assign_arm];refine DR (wpAny_standAt ?_);rw [hs];refine DR (D3 ?_);rw [Jx (by decide)];refine DR (Tuple_ (thn (ha _ Jw s σ H _ I h) fun us s1 ⟨vs,H1,I1,r1,q1⟩=>?_));obtain⟨v,w,e1,q1⟩:=q1;subst e1;obtain⟨u1,u2,rfl,rv,rw'⟩:∃ u1 u2,us=[u1,u2]/\RelV v u1/\RelV w u2:=by
  cases r1 with
  | cons p q =>
   cases q with
   | cons p' q' =>
    cases q';exact⟨_,_,rfl,p,p'⟩
 refine wpAny_newObj_type ?_ (by show 2<=EJ;decide);have I2:Inv X Jw σ H1 { s1 with heap:=s1.heap.push { cls:=.type "tuple",data:=.seq [u1,u2].toArray } }:=I1.kept (t':=s1.toks) fun b o e=>D6 _ e;rw [hw];refine DR (D3 ?_);show Eo (model X.prog X.w) X.A (do rule "assign.swapped-stores";let items <- unpackItems (.ref s1.heap.objs.size) 2 none;assignInOrder [fun v=>bindName X.env y v,fun v=>bindName X.env x v] items.reverse;pure Flow.next) _ _ _;refine DR (IA (DR (unpackItems_tuple (items:=#[u1,u2]) (I.ok.hd hc) (IsTup.new s1.heap _) fun h' hx'=>?_)));have I3:=I2.kept (h':=h') (t':=s1.toks) fun b o e=>hx' b o (EE (Ea e)) e;show Eo _ _ (assignInOrder [fun v=>bindName X.env y v,fun v=>bindName X.env x v] [u2,u1] >>= fun _=>pure Flow.next) _ _ _;refine DR (assignInOrder_cons (wpAny_bindName (af I3 hN hj (.inl hy) rw' (fun s2 I4=>?_) (.inr hy))));refine assignInOrder_cons (wpAny_bindName (af I4 hN hi (.inl hx) rv (fun s3 I5=>assignInOrder_nil (D3 ?_)) (.inr hx)));rw [List.set_comm _ _ (Gv hij)] at I5;exact⟨_,H1,I5,q1⟩
end
section
variable {X:Cx} {pos:Pos}
def kj (c:TT) (tb:TS):TS:=fun D σ H=>∃ W:Nat->St->Hp->Prop,(∃ m,W m σ H)/\∀ m σ H,W m σ H ->
 c σ H fun b H1=>if b=true then ∃ N:St->Hp->Prop,(∀ σ' H',N σ' H'->∃ m',m'<m/\W m' σ' H')/\tb { D with nx:=N,ct:=N,bk:=D.nx } σ H1 else D.nx σ H1
theorem gS {c:Expr} {body:List Stmt} {tc:TT} {tb:TS} (hp:PassesOwn (model X.prog X.w) X.A X.env X.xe) (hc:PT X c tc) (hb:PSs X body tb):PS X (.While c body [] pos) (kj tc tb):=by
 intro Jw s σ H D I h;obtain⟨W,⟨m0,w0⟩,turn⟩:=h;refine wpAny_While (codeAny_whileLoop (fun n s'=>∃ σ' H',Inv X Jw σ' H' s'/\W n σ' H') ?_ m0 ⟨σ,H,I,w0⟩);rintro n s1 ⟨σ1,H1,I1,w1⟩;refine wpAny_passesOwn hp (thn (hc Jw s1 σ1 H1 _ I1 (turn n σ1 H1 w1)) fun b s2 ⟨H2,I2,q2⟩=>?_);cases b with
 | true =>
  obtain⟨N,hN,q2⟩:=q2;rw [Jy rfl];refine wpAny_passesOwn hp (thn (hb Jw s2 σ1 H2 _ I2 q2) fun f s3 q3=>?_);cases f with
  | next =>
   obtain⟨σ3,H3,I3,n3⟩:=q3;obtain⟨m',hm,w3⟩:=hN σ3 H3 n3;exact⟨m',hm,σ3,H3,I3,w3⟩
  | cont =>
   obtain⟨σ3,H3,I3,n3⟩:=q3;obtain⟨m',hm,w3⟩:=hN σ3 H3 n3;exact⟨m',hm,σ3,H3,I3,w3⟩
  | brk=>exact q3
  | ret v=>exact q3
 | false =>
  rw [Jx DX];exact wpAny_execs_nil ⟨σ1,H2,I2,q2⟩
end
structure It where
 go:Nat->Hp->Prop
 yld:Nat->Hp->V->Hp->Prop
 stop:Nat->Hp->Prop
def ah (X:Cx) (Jw:List (DY×Obj)) (H:Hp) (b:DY):Prop :=
 H b=none/\b≠X.env.locals/\b∉X.fs/\(b∈X.ex \/ X.s₀.heap.objs.size<=b)/\(∀ x c,X.env.cells.lookup x=some c->c≠b)/\∀ p∈X.pn++Jw,p.1≠b
theorem Inv.fpOk {X:Cx} {Jw:List (DY×Obj)} {σ:St} {H H':Hp} {s:Shared} {b:DY} (I:Inv X Jw σ H s) (hb:s.heap.objs.size<=b) (hn:H' b=none):ah X Jw H' b:=by
 refine⟨hn,F5 (Es I.lt hb),I.nofs hb,.inr (Er I.sz hb),fun x c e z=>?_,fun p hp z=>?_⟩
 ·obtain⟨v,q⟩:=I.cell x c e;exact absurd (Es q.lt (by rw [z];exact hb)) (Ga _)
 ·exact absurd (Es (Ea (I.pin p hp).1) (by rw [z];exact hb)) (Ga _)
structure Turn (P:Program) (w:World) (K:DT) (tg:Expr) (J:It) (fp:List DY) (it:DY) (tn:Nat->Heap->Prop):Prop where
 mem:it∈fp
 obj:∀ i h,tn i h->∀ b∈fp,∃ o,h.get? b=some o/\∀ v,o.data≠.cell v
 keep:∀ i h h',tn i h->(∀ b∈fp,∀ o,h.get? b=some o->h'.get? b=some o)->tn i h'
 item:∀ (X:Cx),X.prog=P->X.w=w->X.K=K->X.calm=true->∀ (i:Nat) (Jw:List (DY×Obj)) (s:Shared) (σ:St) (H:Hp) (E:Value->Shared->Prop),Inv X Jw σ H s->(∀ b∈fp,ah X Jw H b)->tn i s.heap->J.go i H ->
  Eo (model P w) X.A (pyNext (.ref it)) (fun r s1=>∃ u,r=some u /\
   Eo (model P w) X.A (FX tg (.ref it) u) (fun _ s2=>∃ x H',Inv X Jw σ H' s2/\RelV x u/\J.yld i H x H'/\tn (i+1) s2.heap/\∀ b∈fp,H' b=none) E s1) E s
 done:∀ (X:Cx),X.prog=P->X.w=w->X.K=K->X.calm=true->∀ (i:Nat) (Jw:List (DY×Obj)) (s:Shared) (σ:St) (H:Hp) (E:Value->Shared->Prop),Inv X Jw σ H s->(∀ b∈fp,ah X Jw H b)->tn i s.heap->J.stop i H ->
  Eo (model P w) X.A (pyNext (.ref it)) (fun r s1=>r=none/\Inv X Jw σ H s1) E s
 self:∀ (A:Around) (i:Nat) (s:Shared) (Q:Value->Shared->Prop) (E:Value->Shared->Prop),tn i s.heap->Q (.ref it) s->Eo (model P w) A (pyIter (.ref it)) Q E s
abbrev TI:=St->Hp->(It->Hp->Prop)->Prop
def PIE (X:Cx) (Jw:List (DY×Obj)) (σ:St) (tg:Expr) (R:It->Hp->Prop) (itv:Value) (s2:Shared):Prop :=
 ∃ (it:DY) (fp:List DY) (tn:Nat->Heap->Prop) (J:It) (H':Hp),itv=.ref it/\Inv X Jw σ H' s2/\Turn X.prog X.w X.K tg J fp it tn/\tn 0 s2.heap/\(∀ b∈fp,ah X Jw H' b)/\R J H'
def PI (X:Cx) (tg iter:Expr) (wi:TI):Prop :=
 ∀ (Jw:List (DY×Obj)) (s:Shared) (σ:St) (H:Hp) (R:It->Hp->Prop),Inv X Jw σ H s->wi σ H R ->
  Eo (model X.prog X.w) X.A (eval iter X.env) (fun v s1=>Eo (model X.prog X.w) X.A (pyIter v) (PIE X Jw σ tg R) X.xe s1) X.xe s
theorem lU {M:Model} {A:Around} {E:Value->Shared->Prop} {s:Shared} {tg:Expr} {it:DY} {u:Value} {o:Obj} {n:String} {vs:Array Value} {Q:Unit->Shared->Prop} (ho:s.heap.get? it=some o) (hc:o.cls=.type n) (hd:o.data=.fields vs)
  (hn:["enumerate","zip","dict_itemiterator","dict_reverseitemiterator","odict_iterator","itertools.zip_longest","itertools.pairwise"].contains n=false) (hQ:Q () s):Eo M A (FX tg (.ref it) u) Q E s:=by
 unfold FX;cases tg <;> first
  | exact D3 hQ
  | (cases u <;> first
    | exact D3 hQ
    | (refine DR (wpAny_load ho ?_)
       rw [hc,hd];show Eo M A (if (["enumerate","zip","dict_itemiterator","dict_reverseitemiterator","odict_iterator","itertools.zip_longest","itertools.pairwise"].contains n && vs[0]? == some (rawInt _))=true then _ else _) Q E s;rw [Jx (by intro h;rw [hn,Gf] at h;cases h)];exact D3 hQ))
noncomputable def Itl (K:DT) (a:DY):It :=
 ⟨fun i H=>∃ xs x,SqL K H a xs/\xs[i]?=some x,fun i H x H'=>H'=H/\∀ xs,SqL K H a xs->xs[i]?=some x,fun i H=>∃ xs,SqL K H a xs/\xs.length<=i⟩
noncomputable def Itt (K:DT) (a:DY):It :=
 ⟨fun i H=>∃ xs x,SqT K H a xs/\xs[i]?=some x,fun i H x H'=>H'=H/\∀ xs,SqT K H a xs->xs[i]?=some x,fun i H=>∃ xs,SqT K H a xs/\xs.length<=i⟩
noncomputable def Itr (lo:Int) (n:Nat):It:=⟨fun i _=>i<n,fun i H x H'=>H'=H/\x=.int (lo+i),fun i _=>n<=i⟩
theorem nT {P:Program} {w:World} {K:DT} {tg:Expr} (a it:DY):Turn P w K tg (Itl K a) [it] it (fun i h=>h.IsListIter it a i) where
 mem:=by simp
 obj:=fun i h st b hb=>by
  have e:b=it:=by simpa using hb
  subst e;obtain⟨o,e,c,d⟩:=st;exact⟨o,e,fun v z=>by rw [d] at z;cases z⟩
 keep:=fun i h h' st k=>st.at fun o e=>k it (by simp) o e
 item:=by
  intro X hP hw hK hc i Jw s σ H E I hf st hg;subst hP hw hK;obtain⟨xs,x,hq,hx⟩:=hg;obtain⟨its,rv,p,hz⟩:=I.list hq;obtain⟨u,hu,ru⟩:=rv.get hx;obtain⟨f0,f1,f2,f3,f4,f5⟩:=hf it (by simp);refine wpAny_pyNext_list_item st p.isList (x:=u) (by simpa using hu) fun h' st' sb=>?_;have I1:Inv X Jw σ H { s with heap:=h' }:=I.turned (t':=s.toks) (fun b o hb e=>(sb.2 b hb).trans e) f0 f1 f3 f4 f5;obtain⟨o,e,c,d⟩:=id st';exact⟨u,rfl,lU (s:={ s with heap:=h' }) e c d (by decide) ⟨x,H,I1,ru,⟨rfl,fun ys hy=>by rw [I.list_inj hy hq];exact hx⟩,st',fun b hb=>(hf b hb).1⟩⟩
 done:=by
  intro X hP hw hK hc i Jw s σ H E I hf st hg;subst hP hw hK;obtain⟨xs,hq,hx⟩:=hg;obtain⟨its,rv,p,hz⟩:=I.list hq;obtain⟨f0,f1,f2,f3,f4,f5⟩:=hf it (by simp);have hl:=rv.length;exact wpAny_pyNext_list_end (I.ok.hd hc) st p.isList (by simp;omega) fun h' eb=>⟨rfl,I.turned (t':=s.toks) (fun b o hb e=>eb b o hb e) f0 f1 f3 f4 f5⟩
 self:=fun _ _ _ _ _ st h=>wpAny_pyIter_listiter st h
theorem km {P:Program} {w:World} {K:DT} {tg:Expr} (a it:DY):Turn P w K tg (Itt K a) [it] it (fun i h=>h.IsTupleIter it a i) where
 mem:=by simp
 obj:=fun i h st b hb=>by
  have e:b=it:=by simpa using hb
  subst e;obtain⟨o,e,c,d⟩:=st;exact⟨o,e,fun v z=>by rw [d] at z;cases z⟩
 keep:=fun i h h' st k=>st.at fun o e=>k it (by simp) o e
 item:=by
  intro X hP hw hK hc i Jw s σ H E I hf st hg;subst hP hw hK;obtain⟨xs,x,hq,hx⟩:=hg;obtain⟨its,rv,p,hz⟩:=I.tuple hq;obtain⟨u,hu,ru⟩:=rv.get hx;obtain⟨f0,f1,f2,f3,f4,f5⟩:=hf it (by simp);refine wpAny_pyNext_tuple_item st (show s.heap.IsTuple a its.toArray from p) (x:=u) (by simpa using hu) fun h' st' sb=>?_;have I1:Inv X Jw σ H { s with heap:=h' }:=I.turned (t':=s.toks) (fun b o hb e=>(sb.2 b hb).trans e) f0 f1 f3 f4 f5;obtain⟨o,e,c,d⟩:=id st';exact⟨u,rfl,lU (s:={ s with heap:=h' }) e c d (by decide) ⟨x,H,I1,ru,⟨rfl,fun ys hy=>by rw [I.tuple_inj hy hq];exact hx⟩,st',fun b hb=>(hf b hb).1⟩⟩
 done:=by
  intro X hP hw hK hc i Jw s σ H E I hf st hg;subst hP hw hK;obtain⟨xs,hq,hx⟩:=hg;obtain⟨its,rv,p,hz⟩:=I.tuple hq;obtain⟨f0,f1,f2,f3,f4,f5⟩:=hf it (by simp);have hl:=rv.length;exact wpAny_pyNext_tuple_end (I.ok.hd hc) st (show s.heap.IsTuple a its.toArray from p) (by simp;omega) fun h' eb=>⟨rfl,I.turned (t':=s.toks) (fun b o hb e=>eb b o hb e) f0 f1 f3 f4 f5⟩
 self:=fun _ _ _ _ _ st h=>wpAny_pyIter_tupleiter st h
theorem kn {P:Program} {w:World} {K:DT} {tg:Expr} (it:DY) (lo:Int) (n:Nat):Turn P w K tg (Itr lo n) [it] it (fun i h=>IsRangeIter h it (lo+(i:Nat) * 1) ((n:Int) - (i:Nat)) 1) where
 mem:=by simp
 obj:=fun i h st b hb=>by
  have e:b=it:=by simpa using hb
  subst e;exact⟨_,st,fun v z=>by
   have z':Data.fields _=Data.cell v:=z;cases z'⟩
 keep:=fun i h h' st k=>k it (by simp) _ st
 item:=by
  intro X hP hw hK hc i Jw s σ H E I hf st hg;subst hP hw hK;obtain⟨f0,f1,f2,f3,f4,f5⟩:=hf it (by simp);have W:=Walks.range (prog:=X.prog) (w:=X.w) (I.ok.hd hc) it lo 1 n;refine W.item i s _ _ hg st fun v h' tk hv st' kk=>?_;obtain⟨t,rfl⟩:=hv;have I1:Inv X Jw σ H { s with heap:=h',toks:=tk }:=I.turned (fun b o hb e=>kk b o (by simpa using hb) e) f0 f1 f3 f4 f5;refine⟨_,rfl,lU (s:={ s with heap:=h',toks:=tk }) (n:="range_iterator") st' rfl rfl (by decide) ⟨.int (lo+i),H,I1,⟨t,?_⟩,⟨rfl,rfl⟩,st',fun b hb=>(hf b hb).1⟩⟩;rw [Int.mul_one]
 done:=by
  intro X hP hw hK hc i Jw s σ H E I hf st hg;subst hP hw hK;obtain⟨f0,f1,f2,f3,f4,f5⟩:=hf it (by simp);exact wpAny_pyNext_range_end (I.ok.hd hc) st (by have:n<=i:=hg;omega) fun h' eb=>⟨rfl,I.turned (t':=s.toks) (fun b o hb e=>eb b o hb e) f0 f1 f3 f4 f5⟩
 self:=fun _ _ _ _ _ st h=>wpAny_pyIter_rangeiter st h
section
variable {X:Cx} {tg:Expr}
def dX (K:DT) (tl:TE):TI:=fun σ H R=>tl σ H fun x H1=>∃ a,x=.ref a/\(∃ xs,SqL K H1 a xs)/\R (Itl K a) H1
def AE (K:DT) (tl:TE):TI:=fun σ H R=>tl σ H fun x H1=>∃ a,x=.ref a/\(∃ xs,SqT K H1 a xs)/\R (Itt K a) H1
theorem uL {l:Expr} {tl:TE} (hl:PE X l tl):PI X tg l (dX X.K tl):=by
 intro Jw s σ H R I h;refine thn (hl Jw s σ H _ I h) fun v s1 ⟨x,H1,I1,r1,q1⟩=>?_;obtain⟨a,e,⟨xs,hq⟩,q⟩:=q1;subst e;cases r1;obtain⟨its,rv,p,hz⟩:=I1.list hq;refine wpAny_pyIter_list p.isList ?_;refine⟨s1.heap.objs.size,[s1.heap.objs.size],_,_,H1,rfl,I1.kept (t':=s1.toks) fun b o e=>D6 _ e,nT a _,⟨_,El _ rfl,rfl,rfl⟩,fun b hb=>?_,q⟩;have e:b=s1.heap.objs.size:=by simpa using hb
 subst e;exact I1.fpOk (D8 _) (I1.hok.fresh (D8 _))
theorem AF {l:Expr} {tl:TE} (hl:PE X l tl):PI X tg l (AE X.K tl):=by
 intro Jw s σ H R I h;refine thn (hl Jw s σ H _ I h) fun v s1 ⟨x,H1,I1,r1,q1⟩=>?_;obtain⟨a,e,⟨xs,hq⟩,q⟩:=q1;subst e;cases r1;obtain⟨its,rv,p,hz⟩:=I1.tuple hq;refine wpAny_pyIter_tuple (show s1.heap.IsTuple a its.toArray from p) ?_;refine⟨s1.heap.objs.size,[s1.heap.objs.size],_,_,H1,rfl,I1.kept (t':=s1.toks) fun b o e=>D6 _ e,km a _,⟨_,El _ rfl,rfl,rfl⟩,fun b hb=>?_,q⟩;have e:b=s1.heap.objs.size:=by simpa using hb
 subst e;exact I1.fpOk (D8 _) (I1.hok.fresh (D8 _))
theorem rB {Jw:List (DY×Obj)} {σ:St} {H:Hp} {s:Shared} {R:It->Hp->Prop} {E:Value->Shared->Prop} {lo hi:Int} {t u v:Tok} {tk:Nat} (I:Inv X Jw σ H s) (h1:-(2 ^ 62)<=lo) (h2:lo<2 ^ 62) (h3:-(2 ^ 62)<=hi) (h4:hi<2 ^ 62)
  (q:R (Itr lo (hi - lo).toNat) H):Eo (model X.prog X.w) X.A (pyIter (.ref s.heap.objs.size)) (PIE X Jw σ tg R) E { s with heap:=s.heap.push { cls:=.type "range",data:=.fields #[.int lo t,.int hi u,.int 1 v] },toks:=tk }:=by
 refine wpAny_pyIter_range (IsRange.new ..) (small_one h1 h2 h3 h4) ?_;have I1:Inv X Jw σ H { s with heap:=s.heap.push { cls:=.type "range",data:=.fields #[.int lo t,.int hi u,.int 1 v] },toks:=tk }:=I.kept fun b o e=>D6 _ e;refine⟨(s.heap.push { cls:=.type "range",data:=.fields #[.int lo t,.int hi u,.int 1 v] }).objs.size,[(s.heap.push { cls:=.type "range",data:=.fields #[.int lo t,.int hi u,.int 1 v] }).objs.size],_,_,H,rfl,
  I1.kept (t':=tk) fun b o e=>D6 _ e,kn _ lo (hi - lo).toNat,?_,fun b hb=>?_,q⟩
 ·have e1:lo+((0:Nat):Int) * 1=lo:=by simp
  have e2:(((hi - lo).toNat:Nat):Int) - ((0:Nat):Int)=Builtin.Range.rangeSize lo hi 1:=by rw [rangeSize_one];split <;> omega
  show IsRangeIter _ _ (lo+((0:Nat):Int) * 1) ((((hi - lo).toNat:Nat):Int) - ((0:Nat):Int)) 1;rw [e1,e2];exact El _ rfl
 ·have e:b=(s.heap.push { cls:=.type "range",data:=.fields #[.int lo t,.int hi u,.int 1 v] }).objs.size:=by simpa using hb
  subst e;exact I1.fpOk (D8 _) (I1.hok.fresh (D8 _))
def lV (ta:TA):TI:=fun σ H R=>ta σ H fun vs H1=>∃ j:Int,vs=[.int j]/\-(2 ^ 62)<=j/\j<2 ^ 62/\R (Itr 0 j.toNat) H1
theorem y6 {a:Expr} {ta:TA} {p pos:Pos} (hg:Gl X "range") (hm:X.mg "range"=none) (ha:PA X [a] ta) (hs:EG [a] X.env=[(false,eval a X.env)]:=by rfl):PI X tg (.Call (.Name "range" p) [a] [] pos) (lV ta):=by
 intro Jw s σ H R I h;refine Call_ (vT I hg hm boot_range (Fz (thn (ha pos Jw s σ H _ I h) fun us s1 ⟨vs,H1,I1,r1,q1⟩=>?_) hs rfl));obtain⟨j,e,q1,q2,q⟩:=q1;subst e;cases r1 with
 | cons r rr =>
  cases rr;obtain⟨t,rfl⟩:=r;exact call_range_1 (rB I1 (by omega) (by omega) q1 q2 (by simpa using q))
def nU (wi:TI) (g:TG) (tb:TS):TS:=fun D σ H=>wi σ H fun J H1=>∃ W:Nat->Nat->St->Hp->Prop,(∃ m,W 0 m σ H1)/\∀ i m σ H,W i m σ H ->
 (J.stop i H/\D.nx σ H) \/ (J.go i H/\∃ N:St->Hp->Prop,(∀ σ' H',N σ' H'->∃ m',m'<m/\W (i+1) m' σ' H')/\∀ x H',J.yld i H x H'->g x σ H' fun σ2 H2=>tb { D with nx:=N,ct:=N,bk:=D.nx } σ2 H2)
noncomputable def cD (fp:List DY) (h:Heap):List (DY×Obj):=fp.filterMap fun b=>(h.get? b).map fun o=>(b,o)
theorem qL {fp:List DY} {h:Heap} {b:DY} {o:Obj} (hb:b∈fp) (e:h.get? b=some o):(b,o)∈cD fp h:=HK.mpr ⟨b,hb,by rw [e];rfl⟩
theorem nV {fp:List DY} {h:Heap} {p:DY×Obj} (hp:p∈cD fp h):p.1∈fp/\h.get? p.1=some p.2:=by
 obtain⟨b,hb,e⟩:=HK.mp hp;cases q:h.get? b with
 | none=>rw [q] at e;cases e
 | some o =>
  rw [q] at e;have e':(b,o)=p:=Option.some.inj e;subst e';exact⟨hb,q⟩
theorem Inv.pinned {Jw:List (DY×Obj)} {σ:St} {H:Hp} {s:Shared} {fp:List DY} (I:Inv X Jw σ H s) (hf:∀ b∈fp,ah X Jw H b) (ho:∀ b∈fp,∃ o,s.heap.get? b=some o/\∀ v,o.data≠.cell v):Inv X (Jw++cD fp s.heap) σ H s :=
 I.pins_of fun p hp=>(En.mp hp).elim (fun z=>I.pin p (Ed _ z)) fun z=>by
  obtain⟨hb,e⟩:=nV z;obtain⟨f0,f1,f2,_⟩:=hf p.1 hb;obtain⟨o,e',d⟩:=ho p.1 hb;rw [e] at e';cases e';exact⟨e,f0,f1,f2,d⟩
theorem Inv.unpinned {Jw pl:List (DY×Obj)} {σ:St} {H:Hp} {s:Shared} (I:Inv X (Jw++pl) σ H s):Inv X Jw σ H s:=I.pins_of fun p hp=>I.pin p (Ed _ (Ew _ hp))
theorem jz {iter:Expr} {body:List Stmt} {wi:TI} {g:TG} {tb:TS} {pos:Pos} (hp:PassesOwn (model X.prog X.w) X.A X.env X.xe) (hc:X.calm=true) (hi:PI X tg iter wi) (hg:PG X tg g) (hb:PSs X body tb)
  (hs:∀ x,Fc iter X.env x=pure x:=by intro _;rfl):PS X (.For tg iter body [] pos) (nU wi g tb):=by
 intro Jw s σ H D I h;refine wpAny_For (thn (hi Jw s σ H _ I h) fun v s1 h1=>thn h1 fun itv s2 h2=>?_) hs;obtain⟨it,fp,tn,J,H2,e,I2,T,st2,f2,W,⟨m0,w0⟩,turn⟩:=h2;subst e
 -- what stays true of the iterator's objects through the loop
 have stat:∀ {H':Hp},(∀ b∈fp,H' b=none)->∀ b∈fp,ah X Jw H' b:=fun hn b hb=>⟨hn b hb,(f2 b hb).2⟩;refine codeAny_forLoop_any (fun n s'=>∃ i σ' H',Inv X Jw σ' H' s'/\tn i s'.heap/\(∀ b∈fp,H' b=none)/\W i n σ' H') ?_ m0 ⟨0,σ,H2,I2,st2,fun b hb=>(f2 b hb).1,w0⟩;rintro n s3 ⟨i,σ3,H3,I3,st3,fr3,w3⟩;rcases turn i n σ3 H3 w3 with⟨stop,qn⟩ | ⟨go,N,hN,step⟩
 ·refine wpAny_passesOwn hp (thn (T.done X rfl rfl rfl hc i Jw s3 σ3 H3 X.xe I3 (stat fr3) st3 stop) fun r s4 ⟨hr,I4⟩=>?_);subst hr;exact wpAny_execs_nil ⟨σ3,H3,I4,qn⟩
 ·refine wpAny_passesOwn hp (thn (T.item X rfl rfl rfl hc i Jw s3 σ3 H3 X.xe I3 (stat fr3) st3 go) fun r s4 ⟨u,hr,h4⟩=>?_);subst hr;refine wpAny_passesOwn hp (thn h4 fun _ s5 ⟨x,H5,I5,r5,y5,st5,fr5⟩=>?_);have I5':=I5.pinned (stat fr5) (T.obj _ _ st5);refine wpAny_passesOwn hp (thn (hg _ s5 σ3 H5 x u _ I5' r5 (step x H5 y5)) fun _ s6 ⟨σ6,H6,I6,q6⟩=>?_);refine wpAny_passesOwn hp (thn (hb _ s6 σ6 H6 _ I6 q6) fun f s7 q7=>?_);have again:∀ {σ7:St} {H7:Hp},Inv X (Jw++cD fp s5.heap) σ7 H7 s7->N σ7 H7->∃ m,m<n/\∃ i σ' H',Inv X Jw σ' H' s7/\tn i s7.heap/\(∀ b∈fp,H' b=none)/\W i m σ' H':=fun {σ7 H7} I7 n7=>by
   obtain⟨m',hm,w7⟩:=hN σ7 H7 n7;refine⟨m',hm,i+1,σ7,H7,I7.unpinned,T.keep _ _ _ st5 fun b hb o e=>(I7.pin (b,o) (Ed _ (Ed _ (qL hb e)))).1,fun b hb=>?_,w7⟩;obtain⟨o,e,d⟩:=T.obj _ _ st5 b hb;exact (I7.pin (b,o) (Ed _ (Ed _ (qL hb e)))).2.1
  cases f with
  | next=>obtain⟨σ7,H7,I7,n7⟩:=q7;exact again I7 n7
  | cont=>obtain⟨σ7,H7,I7,n7⟩:=q7;exact again I7 n7
  | brk=>obtain⟨σ7,H7,I7,q7⟩:=q7;exact⟨σ7,H7,I7.unpinned,q7⟩
  | ret v=>obtain⟨x7,σ7,H7,I7,r7,q7⟩:=q7;exact⟨x7,σ7,H7,I7.unpinned,r7,q7⟩
end
abbrev R2:=V->V->Hp->VK->Prop
def OpR (X:Cx) (f:Value->Value->Sem Value) (r:R2):Prop :=
 ∀ (Jw:List (DY×Obj)) (s:Shared) (σ:St) (H:Hp) (x y:V) (v u:Value) (Q:VK),Inv X Jw σ H s->RelV x v->RelV y u->r x y H Q ->
  Eo (model X.prog X.w) X.A (f v u) (EP X Jw σ Q) X.xe s
def UnR (X:Cx) (f:Value->Sem Value) (r:V->Hp->VK->Prop):Prop :=
 ∀ (Jw:List (DY×Obj)) (s:Shared) (σ:St) (H:Hp) (x:V) (v:Value) (Q:VK),Inv X Jw σ H s->RelV x v->r x H Q ->
  Eo (model X.prog X.w) X.A (f v) (EP X Jw σ Q) X.xe s
def yT (X:Cx) (f:Value) (r:List V->Hp->VK->Prop):Prop :=
 ∀ (Jw:List (DY×Obj)) (s:Shared) (σ:St) (H:Hp) (xs:List V) (us:List Value) (Q:VK),Inv X Jw σ H s->Vals xs us->r xs H Q ->
  Eo (model X.prog X.w) X.A (call f us) (EP X Jw σ Q) X.xe s
def DB (X:Cx) (r:V->Hp->(Bool->Hp->Prop)->Prop):Prop :=
 ∀ (Jw:List (DY×Obj)) (s:Shared) (σ:St) (H:Hp) (x:V) (v:Value) (Q:Bool->Hp->Prop),Inv X Jw σ H s->RelV x v->r x H Q ->
  Eo (model X.prog X.w) X.A (truthy v) (TP X Jw σ Q) X.xe s
def tOp (r:R2) (ta tb:TE):TE:=fun σ H Q=>ta σ H fun x H1=>tb σ H1 fun y H2=>r x y H2 Q
def tUn (r:V->Hp->VK->Prop) (ta:TE):TE:=fun σ H Q=>ta σ H fun x H1=>r x H1 Q
def rI (C:Int->Int->Prop) (g:Int->Int->V):R2:=fun x y H Q=>∃ i j,x=.int i/\y=.int j/\C i j/\Q (g i j) H
def rI0 (g:Int->Int->V):R2:=fun x y H Q=>∃ i j,x=.int i/\y=.int j/\Q (g i j) H
def rU (g:Int->V):V->Hp->VK->Prop:=fun x H Q=>∃ i,x=.int i/\Q (g i) H
section
variable {X:Cx} {a b c:Expr} {ta tb tc:TE} {pos:Pos}
theorem AG (ha:PE X a ta) (hb:PE X b tb) {Jw:List (DY×Obj)} {s:Shared} {σ:St} {H:Hp} {R:V->V->Hp->Prop} (I:Inv X Jw σ H s)
  (h:ta σ H fun x H1=>tb σ H1 fun y H2=>R x y H2) {Q:Value->Shared->Prop} {f:Value->Value->Sem Value}
  (hf:∀ v u s2 x y H2,Inv X Jw σ H2 s2->RelV x v->RelV y u->R x y H2->Eo (model X.prog X.w) X.A (f v u) Q X.xe s2) :
  Eo (model X.prog X.w) X.A (eval a X.env) (fun v s₁=>Eo (model X.prog X.w) X.A (eval b X.env) (fun u s₂=>Eo (model X.prog X.w) X.A (f v u) Q X.xe s₂) X.xe s₁) X.xe s:=by
 refine thn (ha Jw s σ H _ I h) fun v s1 ⟨x,H1,I1,r1,q1⟩=>?_;refine thn (hb Jw s1 σ H1 _ I1 q1) fun u s2 ⟨y,H2,I2,r2,q2⟩=>?_;exact hf v u s2 x y H2 I2 r1 r2 q2
theorem zt {op:Operator} {r:R2} (ho:OpR X (binaryOp op) r) (ha:PE X a ta) (hb:PE X b tb):PE X (.BinOp a op b pos) (tOp r ta tb):=by
 intro Jw s σ H Q I h;exact wpAny_BinOp (AG ha hb I h fun v u s2 x y H2 I2 rx ry q=>ho Jw s2 σ H2 x y v u Q I2 rx ry q)
theorem xO {op:UnaryOp} {r:V->Hp->VK->Prop} (ho:UnR X (unaryOp op) r) (ha:PE X a ta):PE X (.UnaryOp op a pos) (tUn r ta):=by
 intro Jw s σ H Q I h;exact UnaryOp_ (thn (ha Jw s σ H _ I h) fun v s1 ⟨x,H1,I1,r1,q1⟩=>ho Jw s1 σ H1 x v Q I1 r1 q1)
theorem opI {f:Value->Value->Sem Value} {C:Int->Int->Prop} {g:Int->Int->Int}
  (rule:∀ (i j:Int) (t u:Tok) (s:Shared) (Q:Value->Shared->Prop) (E:Value->Shared->Prop),C i j->Q (.int (g i j) s.toks) { s with toks:=s.toks+1 }->Eo (model X.prog X.w) X.A (f (.int i t) (.int j u)) Q E s) :
  OpR X f (rI C fun i j=>.int (g i j)):=by
 intro Jw s σ H x y v u Q I rx ry h;obtain⟨i,j,rfl,rfl,hc,q⟩:=h;obtain⟨t,rfl⟩:=rx;obtain⟨t',rfl⟩:=ry;exact rule i j t t' s _ _ hc ⟨.int (g i j),H,I.tok _,⟨_,rfl⟩,q⟩
theorem Cj {f:Value->Value->Sem Value} {g:Int->Int->Int}
  (rule:∀ (i j:Int) (t u:Tok) (s:Shared) (Q:Value->Shared->Prop) (E:Value->Shared->Prop),Q (.int (g i j) s.toks) { s with toks:=s.toks+1 }->Eo (model X.prog X.w) X.A (f (.int i t) (.int j u)) Q E s) :
  OpR X f (rI0 fun i j=>.int (g i j)):=by
 intro Jw s σ H x y v u Q I rx ry h;obtain⟨i,j,rfl,rfl,q⟩:=h;obtain⟨t,rfl⟩:=rx;obtain⟨t',rfl⟩:=ry;exact rule i j t t' s _ _ ⟨.int (g i j),H,I.tok _,⟨_,rfl⟩,q⟩
theorem uM {f:Value->Value->Sem Value} {g:Int->Int->Bool}
  (rule:∀ (i j:Int) (t u:Tok) (s:Shared) (Q:Value->Shared->Prop) (E:Value->Shared->Prop),Q (.bool (g i j)) s->Eo (model X.prog X.w) X.A (f (.int i t) (.int j u)) Q E s) :
  OpR X f (rI0 fun i j=>.bl (g i j)):=by
 intro Jw s σ H x y v u Q I rx ry h;obtain⟨i,j,rfl,rfl,q⟩:=h;obtain⟨t,rfl⟩:=rx;obtain⟨t',rfl⟩:=ry;exact rule i j t t' s _ _ ⟨.bl (g i j),H,I,rfl,q⟩
def DC (i j:Int):Prop:=0<=j/\j<=1000000/\i.natAbs<2 ^ 64
def CMul (i j:Int):Prop:=(-(2 ^ 64)<i/\i<2 ^ 64) \/ (-(2 ^ 64)<j/\j<2 ^ 64)
theorem CMul.ok {i j:Int} (h:CMul i j):IntMulOk i j:=by
 rcases h with⟨h1,h2⟩ | ⟨h1,h2⟩
 ·exact .of_left (intBits_le_64 h1 h2)
 ·exact .of_right (intBits_le_64 h1 h2)
theorem yd:OpR X (binaryOp .Add) (rI0 fun i j=>.int (i+j)):=Cj fun _ _ _ _ _ _ _ q=>add_int q
theorem ym:OpR X (binaryOp .Sub) (rI0 fun i j=>.int (i - j)):=Cj fun _ _ _ _ _ _ _ q=>sub_int q
theorem vU:OpR X (binaryOp .Mult) (rI CMul fun i j=>.int (i * j)):=opI fun _ _ _ _ _ _ _ hc q=>mul_int q hc.ok
theorem vV:OpR X (binaryOp .Mod) (rI (fun _ j=>0<j) fun i j=>.int (i % j)):=opI fun i j _ _ _ _ _ hc q=>by
 have h1:(0:Int)<j:=hc;exact mod_int' (by omega) (by rw [Int.fmod_eq_emod_of_nonneg i (by omega)];exact q)
theorem aY:OpR X (binaryOp .Pow) (rI DC fun i j=>.int (i ^ j.toNat)):=opI fun _ _ _ _ _ _ _ hc q=>pow_int_small hc.1 hc.2.1 hc.2.2 q
theorem unI {f:Value->Sem Value} {g:Int->Int}
  (rule:∀ (i:Int) (t:Tok) (s:Shared) (Q:Value->Shared->Prop) (E:Value->Shared->Prop),Q (.int (g i) s.toks) { s with toks:=s.toks+1 }->Eo (model X.prog X.w) X.A (f (.int i t)) Q E s) :
  UnR X f (rU fun i=>.int (g i)):=by
 intro Jw s σ H x v Q I rx h;obtain⟨i,rfl,q⟩:=h;obtain⟨t,rfl⟩:=rx;exact rule i t s _ _ ⟨.int (g i),H,I.tok _,⟨_,rfl⟩,q⟩
theorem rC:UnR X (unaryOp .USub) (rU fun i=>.int (-i)):=unI fun _ _ _ _ _ q=>neg_int q
end
section
variable {X:Cx} {a b c:Expr} {ta tb tc:TE} {pos:Pos}
theorem rD:OpR X (E8 .Lt) (rI0 fun i j=>.bl (decide (i<j))):=uM fun _ _ _ _ _ _ _ q=>lt_int q
theorem dY:OpR X (E8 .LtE) (rI0 fun i j=>.bl (decide (i<=j))):=uM fun _ _ _ _ _ _ _ q=>le_int q
theorem rE:OpR X (E8 .Gt) (rI0 fun i j=>.bl (decide (j<i))):=uM fun _ _ _ _ _ _ _ q=>gt_int q
theorem xP:OpR X (E8 .GtE) (rI0 fun i j=>.bl (decide (j<=i))):=uM fun _ _ _ _ _ _ _ q=>ge_int q
theorem yY (b:Expr) {op:CmpOp} (h:op≠.In:=by decide) (h2:op≠.NotIn:=by decide):behindInMarks op b=false:=by
 have e1:(op == CmpOp.In)=false:=by cases op <;> first | rfl | exact absurd rfl h
 have e2:(op == CmpOp.NotIn)=false:=by cases op <;> first | rfl | exact absurd rfl h2
 cases b <;> simp [behindInMarks,e1,e2]
theorem ai {op:CmpOp} {r:R2} (ho:OpR X (E8 op) r) (ha:PE X a ta) (hb:PE X b tb) (hm:behindInMarks op b=false):PE X (.Compare a [op] [b] pos) (tOp r ta tb):=by
 intro Jw s σ H Q I h;exact wpAny_Compare1 (AG ha hb I h fun v u s2 x y H2 I2 rx ry q=>ho Jw s2 σ H2 x y v u Q I2 rx ry q) hm
def gT (t:TE):TT:=fun σ H Q=>t σ H fun x H'=>∃ k,x=.bl k/\Q k H'
theorem yy {op:CmpOp} {r:R2} (ho:OpR X (E8 op) r) (ha:PE X a ta) (hb:PE X b tb) (hm:behindInMarks op b=false):PT X (.Compare a [op] [b] pos) (gT (tOp r ta tb)):=by
 intro Jw s σ H Q I h;refine wpAny_isTrue_Compare1 (thn (ha Jw s σ H _ I h) fun v s1 ⟨x,H1,I1,r1,q1⟩=>thn (hb Jw s1 σ H1 _ I1 q1) fun u s2 ⟨y,H2,I2,r2,q2⟩ =>
  thn (ho Jw s2 σ H2 x y v u _ I2 r1 r2 q2) fun c s3 ⟨z,H3,I3,r3,k,e,q3⟩=>?_) hm
 subst e;cases r3;exact Gs ⟨H3,I3,q3⟩
def rF (r r':R2) (ta tb tc:TE):TE:=fun σ H Q=>ta σ H fun x H1=>tb σ H1 fun y H2=>r x y H2 fun z H3=>∃ k,z=.bl k /\
 (if k=true then tc σ H3 fun w' H4=>r' y w' H4 Q else Q (.bl false) H3)
theorem cE {op op':CmpOp} {r r':R2} (ho:OpR X (E8 op) r) (ho':OpR X (E8 op') r') (ha:PE X a ta) (hb:PE X b tb) (hc:PE X c tc)
  (hm:lastMarks [op,op'] [b,c]=false:=by with_unfolding_all rfl):PE X (.Compare a [op,op'] [b,c] pos) (rF r r' ta tb tc):=by
 intro Jw s σ H Q I h;refine Compare_chain (thn (ha Jw s σ H _ I h) fun v s1 ⟨x,H1,I1,r1,q1⟩=>chain_link (thn (hb Jw s1 σ H1 _ I1 q1) fun u s2 ⟨y,H2,I2,r2,q2⟩ =>
  thn (ho Jw s2 σ H2 x y v u _ I2 r1 r2 q2) fun d s3 ⟨z,H3,I3,r3,k,e,q3⟩=>?_)) hm
 subst e;cases r3;refine Gs ?_;cases k with
 | false=>exact ite_ff ⟨.bl false,H3,I3,rfl,q3⟩
 | true=>exact ite_tt (chain_last (thn (hc Jw s3 σ H3 _ I3 q3) fun w' s4 ⟨z',H4,I4,r4,q4⟩=>ho' Jw s4 σ H4 y z' u w' Q I4 r2 r4 q4))
def AH (K:DT) (x:V) (H:Hp) (k:Bool):Prop :=
 match x with
 | .non=>k=false
 | .bl b=>k=b
 | .int i=>k=(i != 0)
 | .str y=>y.length<=EJ/\k=((y.length:Int) != 0)
 | .byt y=>y.size<=EJ/\k=((y.size:Int) != 0)
 | .ref p=>(∃ xs,SqL K H p xs/\k=!xs.isEmpty) \/ (∃ xs,SqT K H p xs/\k=!xs.isEmpty) \/ ∃ kvs,H p=some (.dK kvs)/\k=!kvs.isEmpty
 | _=>False
theorem kq {κ:Type} {kvs:List (κ×V)} {vs:List (κ×Value)} (r:KV kvs vs):(!vs.isEmpty)=!kvs.isEmpty:=by
 cases r <;> rfl
theorem cF {xs:List V} {its:List Value} (r:Vals xs its):(!its.toArray.isEmpty)=!xs.isEmpty:=by
 cases r <;> simp
theorem cG:(EJ:Nat)<2 ^ 63:=by rw [sizeLine_eq];decide
theorem AI:DB X (fun x H Q=>∃ k,AH X.K x H k/\Q k H):=by
 intro Jw s σ H x v Q I rx h;obtain⟨k,e,q⟩:=h;have hl:=cG;have hs:EJ=16777216:=sizeLine_eq;cases x with
 | non =>
  cases rx;have e':k=false:=e;subst e';exact truthy_none ⟨H,I,q⟩
 | bl b =>
  cases rx;have e':k=b:=e;subst e';exact Gs ⟨H,I,q⟩
 | int i =>
  obtain⟨t,rfl⟩:=rx;have e':k=(i != 0):=e;subst e';exact PySem.P.truthy_int ⟨H,I,q⟩
 | str y =>
  obtain⟨t,rfl⟩:=rx;obtain⟨hy,e'⟩:y.length<=EJ/\k=((y.length:Int) != 0):=e;subst e';exact PySem.P.truthy_str (by omega) ⟨H,I.tok _,q⟩
 | byt y =>
  obtain⟨t,rfl⟩:=rx;obtain⟨hy,e'⟩:y.size<=EJ/\k=((y.size:Int) != 0):=e;subst e';exact PySem.W.truthy_bytes (by omega) ⟨H,I.tok _,q⟩
 | ref p =>
  cases rx;have e':(∃ xs,SqL X.K H p xs/\k=!xs.isEmpty) \/ (∃ xs,SqT X.K H p xs/\k=!xs.isEmpty) \/ ∃ kvs,H p=some (.dK kvs)/\k=!kvs.isEmpty:=e;rcases e' with⟨xs,hx,e'⟩ | ⟨xs,hx,e'⟩ | ⟨kvs,hx,e'⟩
  ·subst e';obtain⟨its,r,pl,hz⟩:=I.list hx;have hlen:=r.length;exact wpAny_truthy_list pl.isList (by simp only [Em];omega) ⟨H,I.tok _,by rw [cF r];exact q⟩
  ·subst e';obtain⟨its,r,pl,hz⟩:=I.tuple hx;have hlen:=r.length;exact truthy_tuple pl (by simp only [Em];omega) ⟨H,I.tok _,by rw [cF r];exact q⟩
  ·subst e';obtain⟨hz,hS,vs,r,m⟩:kvs.length<=EJ/\(p == sysModules)=false/\∃ vs,KV kvs vs/\s.heap.DictOf (fc X.prog X.w) p vs:=I.hok p _ hx;have hlen:kvs.length=vs.length:=Paired.length r;exact wpAny_truthy_dict hS m (by omega) ⟨H,I.tok _,by rw [kq r];exact q⟩
 | _=>exact (show False from e).elim
theorem rG (ha:PE X a ta) (he:∀ whole,isTrue a X.env whole=(do let v <- whole;standAt a.pos;holding [v] (truthy v))) :
  PT X a (fun σ H Q=>ta σ H fun x H'=>∃ k,AH X.K x H' k/\Q k H'):=by
 intro Jw s σ H Q I h;exact isTrue_plain (thn (ha Jw s σ H _ I h) fun v s1 ⟨x,H1,I1,r1,q1⟩=>AI Jw s1 σ H1 x v Q I1 r1 q1) (he _)
theorem vals1 {x:V} {us:List Value} (r:Vals [x] us):∃ u,us=[u]/\RelV x u:=by
 cases r with
 | cons r1 r2=>cases r2;exact⟨_,rfl,r1⟩
theorem vals2 {x y:V} {us:List Value} (r:Vals [x,y] us):∃ u w',us=[u,w']/\RelV x u/\RelV y w':=by
 cases r with
 | cons r1 r2 =>
  cases r2 with
  | cons r3 r4=>cases r4;exact⟨_,_,rfl,r1,r3⟩
theorem aj:yT X (.builtin "abs") (fun xs H Q=>∃ i,xs=[.int i]/\Q (.int (if i<0 then -i else i)) H):=by
 intro Jw s σ H xs us Q I r h;obtain⟨i,rfl,q⟩:=h;obtain⟨u,rfl,t,rfl⟩:=vals1 r;exact call_abs_int fun u tk=>⟨.int (if i<0 then -i else i),H,I.tok _,⟨_,rfl⟩,q⟩
theorem nW (hc:X.calm=true):yT X (.builtin "max") (fun xs H Q=>∃ i j,xs=[.int i,.int j]/\Q (.int (if j > i then j else i)) H):=by
 intro Jw s σ H xs us Q I r h;obtain⟨i,j,rfl,q⟩:=h;obtain⟨u,w',rfl,⟨t,rfl⟩,⟨t',rfl⟩⟩:=vals2 r;refine max_two_ints (I.ok.hd hc) fun h' tk k=>⟨_,H,I.kept k,?_,q⟩;by_cases hj:j > i
 ·rw [Jy hj,Jy hj];exact⟨_,rfl⟩
 ·rw [Jx hj,Jx hj];exact⟨_,rfl⟩
theorem aZ (hc:X.calm=true):yT X (.builtin "min") (fun xs H Q=>∃ i j,xs=[.int i,.int j]/\Q (.int (if j<i then j else i)) H):=by
 intro Jw s σ H xs us Q I r h;obtain⟨i,j,rfl,q⟩:=h;obtain⟨u,w',rfl,⟨t,rfl⟩,⟨t',rfl⟩⟩:=vals2 r;refine min_two_ints (I.ok.hd hc) fun h' tk k=>⟨_,H,I.kept k,?_,q⟩;by_cases hj:j<i
 ·rw [Jy hj,Jy hj];exact⟨_,rfl⟩
 ·rw [Jx hj,Jx hj];exact⟨_,rfl⟩
end
structure ObjM (h:Heap) (x dx C:DY) (mA:Str->Option Value):Prop where
 obj:h.get? x=some (PySem.W.instObj C dx)
 ns:h.Ns1 dx mA
 ne:dx≠x
section
variable {prog:Program} {w:World} {A:Around} {E:Value->Shared->Prop} {s:Shared} {K:DT} {x dx C f:DY} {mA:Str->Option Value} {name:Str} {v:Value}
end
structure Cls (K:DT) (C:DY):Prop where
 pg:PySem.W.plainGet K C Str.empty=true
 hd:PySem.W.hasDictIn K C=true
 po:PySem.W.plainOver K C=true
 sa:Gy K (.ref C) "__setattr__"=some (some (.builtin "object.__setattr__"))
structure Con (K:DT) (C:DY) (f:Str) (v:V) (u:Value):Prop where
 at_:Gy K (.ref C) f=some (some u)
 rel:RelV v u
 get:HX K u "__get__"=some none
 cp:PySem.W.copiedNames.contains f=false
structure Meth (K:DT) (C:DY) (m:Str) (f:DY):Prop where
 at_:Gy K (.ref C) m=some (some (.ref f))
 fn:PySem.W.isFn K (.ref f)=true
 kp:Ff K (.ref f)=true
section
variable {X:Cx} {Jw:List (DY×Obj)} {σ:St} {H:Hp} {s:Shared} {a C dx:DY} {fs:List (Str×V)} {f:Str} {v:V} {A:Around} {E:Value->Shared->Prop}
end
section
variable {X:Cx} {Jw:List (DY×Obj)} {σ:St} {H:Hp} {s:Shared} {A:Around} {E:Value->Shared->Prop} {Q:Value->Shared->Prop} {c:Value} {b:Bool}
inductive TyOf (K:DT) (H:Hp):V->Value->Prop where
 | non:TyOf K H .non (.type "NoneType")
 | bl (x:Bool):TyOf K H (.bl x) (.type "bool")
 | int (i:Int):TyOf K H (.int i) (.type "int")
 | str (x:Str):TyOf K H (.str x) (.type "str")
 | flt (x:UInt64):TyOf K H (.flt x) (.type "float")
 | lst {a:DY} {xs:List V} (e:H a=some (.lst xs)):TyOf K H (.ref a) (.type "list")
 | frz {a:DY} {o:Obj} {xs:List V} (e:H a=some (.frz o (.lst xs))):TyOf K H (.ref a) (.type "list")
 | tup {a:DY} {xs:List V} (e:H a=some (.tup xs)):TyOf K H (.ref a) (.type "tuple")
 | dK {a:DY} {kvs:List (Key×V)} (e:H a=some (.dK kvs)):TyOf K H (.ref a) (.type "dict")
 | dT {a:DY} {kvs:List (List Key×V)} (e:H a=some (.dT kvs)):TyOf K H (.ref a) (.type "dict")
 | ins {a C dx:DY} {fs:List (Str×V)} (e:H a=some (.ins C dx fs)) (cl:Cls K C) (ha:Gy K (.ref C) "__class__"=some (some (.builtin "object.__class__")))
   (hn:HX K (.builtin "object.__class__") "__get__"=some (some (.builtin "getset_descriptor.__get__"))) (htk:PySem.W.takesIn K (.builtin "object.__class__")=some true)
   (hm:PySem.W.mroIn K C (.type "object")=some true):TyOf K H (.ref a) (.ref C)
end
structure Room (k:Nat) (A:Around):Prop where
 hd:A.handled=none
 dp:A.depth+3 * k+5<recursionLimit
 un:A.units+16 * k+200<E1
theorem Room.mono {j k:Nat} {A:Around} (r:Room k A) (h:j<=k):Room j A:=⟨r.hd,by have:=r.dp;omega,by have:=r.un;omega⟩
theorem Room.deeper {k:Nat} {A:Around} (r:Room (k+1) A) (env:Env):Room k (A.deeper env) :=
 ⟨r.hd,by have:=r.dp;show A.depth+1+3 * k+5<_;omega,by have:=r.un;show A.units+3+16 * k+200<_;omega⟩
theorem Room.depth {k:Nat} {A:Around} (r:Room k A):A.depth<recursionLimit:=by have:=r.dp;omega
theorem Room.units {k:Nat} {A:Around} (r:Room k A):A.units+64<E1:=by have:=r.un;omega
def qM:TA:=fun _ H Q=>Q [] H
def yK (ta:TE) (tr:TA):TA:=fun σ H Q=>ta σ H fun x H1=>tr σ H1 fun xs H2=>Q (x :: xs) H2
section
variable {X:Cx} {e:Expr} {es:List Expr} {te:TE} {t:TA} {pos:Pos}
theorem zb:PA X [] qM:=fun _ _ _ _ H Q I h=>Calls.spliced_nil ⟨[],H,I,.nil,h⟩
theorem za (ha:PE X e te) (hr:PA X es t) (hs:EG (e :: es) X.env=(false,eval e X.env) :: EG es X.env:=by rfl):PA X (e :: es) (yK te t):=by
 intro pos Jw s σ H Q I h;rw [hs];show Eo _ _ (spliced ((false,eval e X.env) :: backTo pos (EG es X.env))) _ _ s;refine Calls.spliced_cons (thn (ha Jw s σ H _ I h) fun u s1 ⟨x,H1,I1,r1,q1⟩=>?_);exact thn (hr pos Jw s1 σ H1 _ I1 q1) fun us s2 ⟨xs,H2,I2,r2,q2⟩=>⟨x :: xs,H2,I2,.cons r1 r2,q2⟩
def Ck (t:TA):TE:=fun σ H Q=>t σ H fun xs H1=>xs.length<=EJ/\∀ p,H1 p=none->Q (.ref p) (upd H1 p (.tup xs))
def nX (t:TA):TE:=fun σ H Q=>t σ H fun xs H1=>xs.length<=EJ/\∀ p,H1 p=none->Q (.ref p) (upd H1 p (.lst xs))
theorem zO {x1} (h:PA X es t):PE X (.Tuple es x1 pos) (Ck t):=by
 intro Jw s σ H Q I hq;refine wpAny_Tuple_spliced (thn (h pos Jw s σ H _ I hq) fun us s1 ⟨xs,H1,I1,r,z,q⟩=>⟨by rw [<-r.length];exact z,?_⟩);have hf:H1 s1.heap.objs.size=none:=I1.hok.fresh (D8 _);refine⟨.ref s1.heap.objs.size,upd H1 s1.heap.objs.size (.tup xs),I1.laid (t':=s1.toks) (fun b u e=>D6 _ e) (D8 _) ?_,rfl,q _ hf⟩;exact⟨z,us,r,⟨_,El _ rfl,rfl,_,rfl⟩⟩
theorem yQ (h:PA X es t):PE X (.List es pos) (nX t):=by
 intro Jw s σ H Q I hq;refine wpAny_List_spliced (thn (h pos Jw s σ H _ I hq) fun us s1 ⟨xs,H1,I1,r,z,q⟩=>⟨by rw [<-r.length];exact z,?_⟩);have hf:H1 s1.heap.objs.size=none:=I1.hok.fresh (D8 _);refine⟨.ref s1.heap.objs.size,upd H1 s1.heap.objs.size (.lst xs),I1.laid (t':=s1.toks) (fun b u e=>D6 _ e) (D8 _) ?_,rfl,q _ hf⟩;exact⟨z,us,0,r,El _ rfl⟩
end
abbrev Sp:=List V->Hp->VK->XK->Prop
abbrev CXT:=List Env->Hp->Shared->XK->Value->Shared->Prop
structure Env0 (P:Program) (w:World) (K:DT) (mg:Str->Option Value) (base:Heap) (A:Around) (outer:List Env) (s:Shared) (H:Hp):Prop where
 frames:A.frames=some outer
 mod:Mod K mg base
 bs:∀ b o,base.get? b=some o->s.heap.get? b=some o/\H b=none
 bsz:base.objs.size<=s.heap.objs.size
 funs:s.heap.FunFrames base outer
 frf:∀ b∈frs outer,H b=none
 tabs:TabsOk K H
 hok:HOk P w H s.heap
 bare:AllBare s.gens
def CE (outer:List Env) (P:Program) (w:World) (H:Hp) (s:Shared) (Q:VK) (u:Value) (s':Shared):Prop :=
 ∃ v H',s'.os=s.os/\AllBare s'.gens/\Un (frs outer) [] H H' s.heap s'.heap/\HOk P w H' s'.heap/\RelV v u/\Q v H'
def CR (CX:CXT) (outer:List Env) (P:Program) (w:World) (H:Hp) (s:Shared) (Q:VK) (E:XK) (r:Result) (s':Shared):Prop :=
 match r with
 | .ok (.ret u)=>CE outer P w H s Q u s'
 | .ok _=>False
 | .error e=>CX outer H s E e s'
structure FnOk (P:Program) (w:World) (K:DT) (mg:Str->Option Value) (base:Heap) (CX:CXT) (k:Nat) (f:DY) (fd:FuncData) (ps:List Str) (sp:Sp):Prop where
 len:∀ vs H Q E,sp vs H Q E->vs.length=ps.length
 run:∀ (A:Around) (outer:List Env) (s:Shared) (H:Hp) (args:Args) (us:List Value) (vs:List V) (Q:VK) (E:XK),Room k A->Env0 P w K mg base A outer s H->BindsTo s fd args (ps.zip us)->Vals vs us->sp vs H Q E ->
  codeAny (model P w) A (.call (.ref f) args) (CR CX outer P w H s Q E) s
theorem FnOk.mono {P:Program} {w:World} {K:DT} {mg:Str->Option Value} {base:Heap} {CX:CXT} {j k:Nat} {f:DY} {fd:FuncData} {ps:List Str} {sp:Sp} (F:FnOk P w K mg base CX j f fd ps sp) (h:j<=k) :
  FnOk P w K mg base CX k f fd ps sp:=⟨F.len,fun A outer s H args us vs Q E hr=>F.run A outer s H args us vs Q E (hr.mono h)⟩
section
variable {X:Cx} {Jw:List (DY×Obj)} {σ:St} {H:Hp} {s s':Shared}
theorem Inv.env0 (I:Inv X Jw σ H s):Env0 X.prog X.w X.K X.mg X.base X.A X.stack s H :=
 ⟨I.ok.frames,I.ok.mod,I.bs,Er I.ok.bsz I.sz,I.stack,I.stkFree,fun c P q h1 h2 h3=>I.base.tbls _ _ (I.ok.tabs c P q h1 h2 h3),I.hok,I.bare⟩
theorem Inv.after {Q:VK} {u:Value} (I:Inv X Jw σ H s) (h:CE X.stack X.prog X.w H s Q u s'):EP X Jw σ Q u s':=by
 obtain⟨v,H',os,bare,un,hok,r,q⟩:=h;obtain⟨hh,g,d,t,os'⟩:=s';obtain rfl:os'=s.os:=os;exact⟨v,H',I.call (h':=hh) (g':=g) (d':=d) (t':=t) (ch:=[]) un hok bare (fun b z=>absurd z (by simp)),r,q⟩
end
def dZ (sp:Sp) (dvs:List V) (E:XK) (t:TA):TE:=fun σ H Q=>t σ H fun vs H1=>sp (vs++dvs) H1 Q E
def Binds (K:DT) (fd:FuncData) (ps:List Str) (ds:List Value):Prop :=
 ∀ (s:Shared) (us:List Value),K.In s.heap->(us++ds).length=ps.length->BindsTo s fd ⟨us,[]⟩ (ps.zip (us++ds))
theorem Binds.all {K:DT} {fd:FuncData} {ps:List Str} (h:∀ us:List Value,us.length=ps.length->bindArgs fd ⟨us,[]⟩=pure (ps.zip us)):Binds K fd ps []:=fun s us _ hl=>by
 rw [EO] at hl ⊢;exact .of_eq (h us hl)
def Passes (CX:CXT) (X:Cx) (E:XK):Prop:=∀ (Jw:List (DY×Obj)) (σ:St) (H:Hp) (s:Shared) (e:Value) (s':Shared),Inv X Jw σ H s->CX X.stack H s E e s'->X.xe e s'
section
variable {X:Cx} {CX:CXT} {k:Nat} {f C:DY} {fd:FuncData} {ps:List Str} {sp:Sp} {dvs:List V} {ds:List Value} {E:XK} {x m:Str} {p pos apos:Pos} {e o:Expr} {es:List Expr} {ta:TE} {t:TA}
theorem AJ {Jw:List (DY×Obj)} {σ:St} {H:Hp} {s:Shared} {Q:VK} {us:List Value} {vs:List V} (F:FnOk X.prog X.w X.K X.mg X.base CX k f fd ps sp) (hr:Room k X.A) (hb:Binds X.K fd ps ds) (hd:Vals dvs ds) (hx:Passes CX X E)
  (I:Inv X Jw σ H s) (r:Vals vs us) (h:sp (vs++dvs) H Q E):Eo (model X.prog X.w) X.A (call (.ref f) us) (EP X Jw σ Q) X.xe s:=by
 have r2:Vals (vs++dvs) (us++ds):=r.append hd;have hl:(us++ds).length=ps.length:=by rw [<-r2.length];exact F.len _ _ _ _ h
 refine wpAny_call (Jh (F.run X.A X.stack s H ⟨us,[]⟩ (us++ds) (vs++dvs) Q E hr I.env0 (hb s us I.kIn hl) r2 h) fun r s' hq=>?_);cases r with
 | error e=>exact hx Jw σ H s e s' I hq
 | ok fl =>
  cases fl with
  | ret u=>exact I.after hq
  | next=>exact GD hq
  | brk=>exact GD hq
  | cont=>exact GD hq
theorem uN (F:FnOk X.prog X.w X.K X.mg X.base CX k f fd ps sp) (hr:Room k X.A) (hg:Gl X x) (hm:X.mg x=some (.ref f)) (hk:Ff X.K (.ref f)=true) (hb:Binds X.K fd ps ds) (hd:Vals dvs ds) (hx:Passes CX X E)
  (ha:PA X (e :: es) t) (hdb:(x == ("__debug__":Str))=false:=by decide) (he:EG (e :: es) X.env=(false,eval e X.env) :: EG es X.env:=by rfl) (hpl:(backTo pos (EG es X.env)).any (·.1)=false:=by rfl) :
  PE X (.Call (.Name x p) (e :: es) [] pos) (dZ sp dvs E t):=by
 intro Jw s σ H Q I h;refine wpAny_Call_Name_kw (lR I hg hm ?_ hdb);refine PySem.W.callWith_K (h₀:=X.base) I.ok.mod.kin hk (thn (ha pos Jw s σ H _ I h) fun us s1 ⟨vs,H1,I1,r,q⟩=>⟨I1.kIn,?_⟩) he hpl;exact AJ F hr hb hd hx I1 r q
structure Mk (K:DT) (C f:DY):Prop where
 makes:PySem.W.makesIn K C=true
 init:Gy K (.ref C) "__init__"=some (some (.ref f))
 fn:PySem.W.isFn K (.ref f)=true
 kp:Ff K (.ref C)=true
end
section
variable {X:Cx} {CX:CXT} {k:Nat} {f C:DY} {fd:FuncData} {ps ks:List Str} {sp:Sp} {E:XK} {x m:Str} {p pos apos kpos:Pos} {e o:Expr} {es:List Expr} {kws:List Keyword} {te ta:TE} {t tk:TA} {nm:Option Str}
structure KBinds (K:DT) (fd:FuncData) (ps ks:List Str) (g:List Value->List Value->List Value) (gV:List V->List V->List V):Prop where
 to:∀ (s:Shared) (us ws:List Value),K.In s.heap->(g us ws).length=ps.length->BindsTo s fd ⟨us,ks.zip ws⟩ (ps.zip (g us ws))
 rel:∀ {vs:List V} {us:List Value} {zs:List V} {ws:List Value},Vals vs us->Vals zs ws->Vals (gV vs zs) (g us ws)
variable {g:List Value->List Value->List Value} {gV:List V->List V->List V}
end
structure FnScope (N P:List Str) (sc:Scope):Prop where
 kind:sc.kind=.function
 co:sc.isCoroutine=false
 gen:sc.isGenerator=false
 nd:N.Nodup
 pre:N.take P.length=P
 par:∀ x∈P,sc.names.lookup x=some .local \/ sc.names.lookup x=some .cell
 nofree:∀ y∈sc.names,y.2≠.free
theorem d7 {kindOf:Str->Option NameKind} {x:Str}:∀ {binds:List (Str×Value)} {m:Str->Option Value},(∀ v,(x,v)∉binds)->bindL kindOf binds m x=m x
 | [],_,_=>rfl
 | (n,v) :: r,m,h=>by
  unfold bindL;rw [d7 fun w hw=>h w (DW _ hw)];split
  ·have:x≠n:=by rintro rfl;exact h v D4
   simp [this]
  ·rfl
theorem d8 {kindOf:Str->Option NameKind} {x:Str}:∀ {binds:List (Str×Value)} {m:Str->Option Value},(∀ v,(x,v)∉binds)->bindC kindOf binds m x=m x
 | [],_,_=>rfl
 | (n,v) :: r,m,h=>by
  unfold bindC;rw [d8 fun w hw=>h w (DW _ hw)];split
  ·rfl
  ·have:x≠n:=by rintro rfl;exact h v D4
   simp [this]
theorem d9 {kindOf:Str->Option NameKind} {x:Str} {v:Value}:∀ {P:List Str} {vs:List Value} {i:Nat} {m:Str->Option Value},P.Nodup->P[i]?=some x->vs[i]?=some v->kindOf x=some .local ->
  bindL kindOf (P.zip vs) m x=some v
 | [],_,_,_,_,h,_,_=>by simp at h
 | _ :: _,[],_,_,_,_,h,_=>by simp at h
 | p :: P,w :: vs,0,m,nd,h1,h2,hk=>by
  simp at h1 h2;subst h1;subst h2;show bindL kindOf ((p,w) :: P.zip vs) m p=_;unfold bindL;rw [d7 fun v hv=>(E5.mp nd).1 (Hb hv).1,Jy hk];simp
 | p :: P,w :: vs,i+1,m,nd,h1,h2,hk=>by
  show bindL kindOf ((p,w) :: P.zip vs) m x=_;unfold bindL;exact d9 (i:=i) (E5.mp nd).2 (by simpa using h1) (by simpa using h2) hk
theorem ej {kindOf:Str->Option NameKind} {x:Str} {v:Value}:∀ {P:List Str} {vs:List Value} {i:Nat} {m:Str->Option Value},P.Nodup->P[i]?=some x->vs[i]?=some v->kindOf x≠some .local ->
  bindC kindOf (P.zip vs) m x=some v
 | [],_,_,_,_,h,_,_=>by simp at h
 | _ :: _,[],_,_,_,_,h,_=>by simp at h
 | p :: P,w :: vs,0,m,nd,h1,h2,hk=>by
  simp at h1 h2;subst h1;subst h2;show bindC kindOf ((p,w) :: P.zip vs) m p=_;unfold bindC;rw [d8 fun v hv=>(E5.mp nd).1 (Hb hv).1,Jx hk];simp
 | p :: P,w :: vs,i+1,m,nd,h1,h2,hk=>by
  show bindC kindOf ((p,w) :: P.zip vs) m x=_;unfold bindC;exact ej (i:=i) (E5.mp nd).2 (by simpa using h1) (by simpa using h2) hk
noncomputable def start (N:List Str) (vs:List V):St:=vs.map some++GU (N.length - vs.length) none
noncomputable def yu (CX:CXT) (P:Program) (w:World) (K:DT) (mg:Str->Option Value) (base:Heap) (N:List Str) (qual:Str) (scope:Scope) (f:DY) (cd:Value) (A:Around) (outer:List Env) (s:Shared) (H:Hp) (E:XK):Cx where
 prog:=P
 w:=w
 K:=K
 mg:=mg
 base:=base
 A:=A.deeper (envOfC qual scope s.heap.objs.size f cd)
 N:=N
 s₀:=s
 H₀:=H
 env:=envOfC qual scope s.heap.objs.size f cd
 outer:=outer
 stack:=envOfC qual scope s.heap.objs.size f cd :: outer
 ex:=[]
 calm:=true
 fn:=fun _=>true
 pn:=[]
 xe:=fun e s'=>Eo (model P w) (A.deeper (envOfC qual scope s.heap.objs.size f cd)) (leaving (envOfC qual scope s.heap.objs.size f cd) e) (fun _ s''=>CX outer H s E e s'') (fun e' s''=>CX outer H s E e' s'') s'
theorem gU {sc:Scope} {n:Nat} {x:Str} (h:sc.names.lookup x=some .cell):∃ c,(cellsFrom n sc.names []).lookup x=some c:=by
 have q:=GF sc.names n [] (.inl h);exact G7.mp q
theorem nY {CX:CXT} {P:Program} {w:World} {K:DT} {mg:Str->Option Value} {base:Heap} {N ps:List Str} {qual:Str} {scope:Scope} {f:DY} {cd:Value} {A:Around} {outer:List Env} {s s1:Shared} {H:Hp} {E:XK} {us:List Value} {vs:List V}
  (S:FnScope N ps scope) (hd:A.handled=none) (e0:Env0 P w K mg base A outer s H) (hl:vs.length=ps.length) (r:Vals vs us)
  (x:InCallC s s.heap.objs.size (bindL (envOfC qual scope s.heap.objs.size f cd).kindOf (ps.zip us) fun _=>none) (cellsFrom (s.heap.objs.size+1) scope.names []) (bindC (envOfC qual scope s.heap.objs.size f cd).kindOf (ps.zip us) fun _=>none) s1) :
  Inv (yu CX P w K mg base N qual scope f cd A outer s H E) [] (start N vs) H s1:=by
 have hpl:ps.length<=N.length:=by have:=congrArg List.length S.pre;rw [EL] at this;omega
 obtain⟨h1,tk,rfl,hk⟩:=x.done;have noA:∀ b:DY,b∉(yu CX P w K mg base N qual scope f cd A outer s H E).ex:=fun b z=>absurd (show b∈([]:List DY) from z) (by simp);refine⟨⟨e0.mod,S.kind,rfl,rfl,D8 _,fun y z c h1 h2=>?_,fun y hy=>?_,fun y c _ h=>?_,fun _=>hd,Around.frames_deeper e0.frames,.inr ⟨rfl,rfl⟩,fun b z=>absurd z (noA b),e0.bs,e0.bsz,fun b _ _=>noA b,fun b z=>absurd z (noA b),e0.funs,e0.frf,e0.tabs⟩,
  rfl,e0.bare,Un.kept hk,⟨_,x.toInCall.ns,fun i y v h1 h2 h3=>?_⟩,fun y c h=>⟨_,x.cell y c h⟩,e0.hok.fresh (D8 _),fun y c h=>?_,fun p hp=>absurd (show p∈([]:List (DY×Obj)) from hp) (by simp),e0.hok.kept hk,?_⟩
 ·exact name_of_addr x.apart (Gw h1) (Gw h2)
 ·have hy:scope.names.lookup y=some .cell \/ scope.names.lookup y=some .free:=hy;rcases hy with hy | hy
  ·exact gU hy
  ·exact absurd rfl (S.nofree _ (Gw hy))
 ·exact Fj (x.above y c (Gw h))
 ·have hi:i<vs.length:=by
   unfold start at h2;by_cases hi:i<vs.length
   ·exact hi
   ·rw [Ee (by simpa using hi)] at h2;rw [Gz] at h2;split at h2 <;> cases h2
  have ha:vs[i]?=some v:=by
   unfold start at h2;rw [Ec (by simpa using hi),D7] at h2;cases e:vs[i]? with
   | none=>rw [e] at h2;cases h2
   | some a=>rw [e] at h2;cases h2;rfl
  obtain⟨u,hu,rv⟩:=r.get ha;have hp:ps[i]?=some y:=by
   rw [<-S.pre,Gu (by omega)];exact h1
  have ndP:ps.Nodup:=by rw [<-S.pre];exact S.nd.sublist (List.take_sublist _ _)
  refine⟨u,rv,?_⟩;rcases S.par y (D9 hp) with k | k
  ·exact .inl ⟨k,d9 ndP hp hu k⟩
  ·obtain⟨c,e⟩:=gU (n:=s.heap.objs.size+1) k;refine .inr ⟨.inl k,c,e,?_⟩;have q:=x.cell y c e;rw [ej ndP hp hu (by show scope.names.lookup y≠_;rw [k];decide)] at q;exact q
 ·exact e0.hok.fresh (Fj (x.above y c (Gw h)))
 ·unfold start;show _=N.length;rw [Eh,DS,Ho];omega
theorem Cm {CX:CXT} {P:Program} {w:World} {K:DT} {mg:Str->Option Value} {base:Heap} {k:Nat} {f:DY} {name qual:Str} {params:Arguments} {body:List Stmt} {scope:Scope} {dV kV doc pm cdv ct oc:Value} {an od:Option DY}
  {osl:Array (Option Value)} {N ps:List Str} {sp:Sp} (lk:K.lookup f=some ⟨oc,od,.func (Fv name qual params body scope dV kV doc pm an cdv ct),osl⟩) (hcd:GS K cdv qual=true) (S:FnScope N ps scope)
  (len:∀ vs H Q E,sp vs H Q E->vs.length=ps.length)
  (hbody:∀ (A:Around) (outer:List Env) (s:Shared) (H:Hp) (vs:List V) (Q:VK) (E:XK),Room k (A.deeper (envOfC qual scope s.heap.objs.size f cdv))->sp vs H Q E ->
   ∃ t,PSs (yu CX P w K mg base N qual scope f cdv A outer s H E) body t/\t { nx:=fun _ H'=>Q .non H',rt:=Q } (start N vs) H) :
  FnOk P w K mg base CX (k+1) f (Fv name qual params body scope dV kV doc pm an cdv ct) ps sp:=by
 refine⟨len,fun A outer s H args us vs Q E hr e0 hb r hsp=>?_⟩;have hl:=len _ _ _ _ hsp;have KX:K.In s.heap:=e0.mod.kin.keeps fun b o e=>(e0.bs b o e).1;have lim:s.heap.NoLimit:=e0.mod.nolimit.keeps fun b o e=>(e0.bs b o e).1;have hkind:∀ y∈ps.zip us,scope.names.lookup y.1=some .local \/ (scope.names.lookup y.1=some .cell/\((cellsFrom (s.heap.objs.size+1) scope.names []).lookup y.1).isSome=true):=fun⟨n,v⟩ hy=>by
  rcases S.par n (Hb hy).1 with q | q
  ·exact .inl q
  ·exact .inr ⟨q,GF _ _ _ (.inl q)⟩
 refine codeAny_call_function hr.depth (KX _ _ lk) rfl S.co S.gen rfl (PySem.W.codeRec_of KX hcd) (hb _ _ _ _ ?_);refine wpAny_newFunctionEnv_cells S.kind hkind fun env he s1 x=>?_;subst he;refine⟨lim.keeps x.toInCall.keep,codeAny_func ?_⟩;obtain⟨t,ht,hq⟩:=hbody A outer s H vs Q E (hr.deeper _) hsp;have I:Inv (yu CX P w K mg base N qual scope f cdv A outer s H E) [] (start N vs) H s1:=nY S hr.hd e0 hl r x;refine FW (ht [] s1 (start N vs) H _ I hq) (fun fl s' hs=>?_) fun e s' hs=>hs;have fin:∀ {σ':St} {H':Hp} {v:V} {u:Value},Inv (yu CX P w K mg base N qual scope f cdv A outer s H E) [] σ' H' s'->RelV v u->Q v H'->CE outer P w H s Q u s' :=
  fun {σ' H' v u} J rv q=>⟨v,H',J.os,J.bare,J.base,J.hok,rv,q⟩
 cases fl with
 | ret u =>
  obtain⟨v,σ',H',J,rv,q⟩:=hs;exact fin J rv q
 | next =>
  obtain⟨σ',H',J,q⟩:=hs;exact fin (v:=V.non) (u:=Value.none) J rfl q
 | brk =>
  obtain⟨_,_,_,q⟩:=hs;exact GD q
 | cont =>
  obtain⟨_,_,_,q⟩:=hs;exact GD q
section
variable {X:Cx} {x:Str} {p pos:Pos} {e:Expr} {es:List Expr} {t:TA} {id T:String} {r:List V->Hp->VK->Prop}
def tCB (r:List V->Hp->VK->Prop) (t:TA):TE:=fun σ H Q=>t σ H fun vs H1=>r vs H1 Q
theorem zK (hc:yT X (.builtin id) r) (hg:Gl X x) (hm:X.mg x=none) (hv:bootBuiltins x=some (.builtin id)) (ha:PA X (e :: es) t) (hn:x ≠ "__name__":=by decide) (hdb:(x == ("__debug__":Str))=false:=by decide)
  (he:EG (e :: es) X.env=(false,eval e X.env) :: EG es X.env:=by rfl) (hpl:(backTo pos (EG es X.env)).any (·.1)=false:=by rfl):PE X (.Call (.Name x p) (e :: es) [] pos) (tCB r t):=by
 intro Jw s σ H Q I h;refine wpAny_Call_Name_kw (vT I hg hm hv ?_ hn hdb);exact PyProof.Rows.callWith_builtin1 (thn (ha pos Jw s σ H _ I h) fun us s1 ⟨vs,H1,I1,r1,q1⟩=>hc Jw s1 σ H1 vs us Q I1 r1 q1) he hpl
theorem ba (hc:yT X (.type T) r) (hg:Gl X x) (hm:X.mg x=none) (hv:bootBuiltins x=some (.type T)) (ha:PA X (e :: es) t) (hn:x ≠ "__name__":=by decide) (hdb:(x == ("__debug__":Str))=false:=by decide)
  (he:EG (e :: es) X.env=(false,eval e X.env) :: EG es X.env:=by rfl) (hpl:(backTo pos (EG es X.env)).any (·.1)=false:=by rfl):PE X (.Call (.Name x p) (e :: es) [] pos) (tCB r t):=by
 intro Jw s σ H Q I h;refine wpAny_Call_Name_kw (vT I hg hm hv ?_ hn hdb);exact Fz (thn (ha pos Jw s σ H _ I h) fun us s1 ⟨vs,H1,I1,r1,q1⟩=>hc Jw s1 σ H1 vs us Q I1 r1 q1) he hpl
theorem kr (hc:yT X (.type T) r) (hg:Gl X x) (hm:X.mg x=none) (hv:bootBuiltins x=some (.type T)) (hn:x ≠ "__name__":=by decide) (hdb:(x == ("__debug__":Str))=false:=by decide) :
  PE X (.Call (.Name x p) [] [] pos) (tCB r qM):=by
 intro Jw s σ H Q I h;refine wpAny_Call_Name_kw (vT I hg hm hv ?_ hn hdb);exact PyProof.Rows.callWith_type0 (hc Jw s σ H [] [] Q I .nil h)
end
end L2
namespace HT
open PySem PyProof.Rows
theorem rcLt_int (A:Around) (s:Shared) (a:Int) (t:Tok) (c:Int) (u:Tok) (prog:Program) (w:World) (E:Value->Shared->Prop) (Q:Value->Shared->Prop) (h:Q (.bool (decide (a<c))) s) :
  Eo (model prog w) A (richCompare .Lt (.int a t) (.int c u)) Q E s :=
 (PyProof.Rows.lt_int h:Eo (model prog w) A (E8 .Lt (.int a t) (.int c u)) Q E s)
section
open PySem.SeqAt
open PySem.AutoSeq1 (wpAny_loadPart')
open PySem.MeetsSeq PySem.MeetsSeq2 PySem.MeetsSeq3
end
section
variable {prog:Program} {w:World} {A:Around} {E:Value->Shared->Prop} {s:Shared}
def sIx (n d:Nat):Option Int->Nat
 | none=>d
 | some v=>if v<0 then (v+(n:Int)).toNat else min v.toNat n
end
end HT
namespace L2
open PySem PySem.Spec PyProof.Rows
abbrev TO:=St->Hp->(Option Int->Hp->Prop)->Prop
def PO (X:Cx) (e:Option Expr) (t:TO):Prop :=
 ∀ (Jw:List (DY×Obj)) (s:Shared) (σ:St) (H:Hp) (Q:Option Int->Hp->Prop),Inv X Jw σ H s->t σ H Q ->
  Eo (model X.prog X.w) X.A (evalPart e X.env) (fun u s'=>∃ o H',Inv X Jw σ H' s'/\IsPart u o/\Q o H') X.xe s
def lW:TO:=fun _ H Q=>Q none H
def xQ (t:TE):TO:=fun σ H Q=>t σ H fun x H1=>∃ i,x=.int i/\Q (some i) H1
theorem intsAre_of {ns:List Int}:∀ {us:List Value},Vals (ns.map V.int) us->IntsAre us ns:=by
 induction ns with
 | nil=>intro us r;rw [IY] at r;cases r;exact .nil
 | cons n ns ih =>
  intro us r;rw [Ez] at r;cases r with
  | cons r1 r2 =>
   obtain⟨t,e⟩:=r1;subst e;exact .cons n t (ih r2)
section
variable {X:Cx} {e:Expr} {te:TE} {lo hi:Option Expr} {tl th:TO} {pos p2:Pos}
theorem bV:PO X none lW:=by
 intro Jw s σ H Q I h;rw [evalPart_none];exact D3 ⟨none,H,I,.none,h⟩
theorem bW (h:PE X e te):PO X (some e) (xQ te):=by
 intro Jw s σ H Q I hw;rw [evalPart_some];refine thn (h Jw s σ H _ I hw) fun u s1 ⟨x,H1,I1,r1,q1⟩=>?_;obtain⟨i,rfl,q⟩:=q1;obtain⟨t,rfl⟩:=r1;exact⟨some i,H1,I1,.int i t,q⟩
def SlR (X:Cx) (r:V->Option Int->Option Int->Hp->VK->Prop):Prop :=
 ∀ (Jw:List (DY×Obj)) (s:Shared) (σ:St) (H:Hp) (x:V) (v vl vu:Value) (lo hi:Option Int) (sl:DY) (Q:VK),Inv X Jw σ H s->RelV x v->s.heap.IsSliceOf sl vl vu .none->IsPart vl lo->IsPart vu hi->r x lo hi H Q ->
  ∃ T id,typeLookup (.type T) "__getitem__"=pure (some (.builtin id))/\s.TypeIs v T/\Eo (model X.prog X.w) X.A (getItem v (.ref sl)) (EP X Jw σ Q) X.xe s
def tSl (r:V->Option Int->Option Int->Hp->VK->Prop) (te:TE) (tl th:TO):TE:=fun σ H Q=>te σ H fun x H1=>tl σ H1 fun l H2=>th σ H2 fun u H3=>r x l u H3 Q
theorem ak {r:V->Option Int->Option Int->Hp->VK->Prop} (hr:SlR X r) (he:PE X e te) (hl:PO X lo tl) (hu:PO X hi th):PE X (.Subscript e (.Slice lo hi none p2) pos) (tSl r te tl th):=by
 intro Jw s σ H Q I h;refine Subscript_ (thn (he Jw s σ H _ I h) fun v s1 ⟨x,H1,I1,r1,q1⟩=>?_);refine wpAny_Slice (thn (hl Jw s1 σ H1 _ I1 q1) fun vl s2 ⟨l,H2,I2,pl,q2⟩=>thn (hu Jw s2 σ H2 _ I2 q2) fun vu s3 ⟨u,H3,I3,pu,q3⟩=>?_);rw [evalPart_none];refine D3 ?_;have I4:Inv X Jw σ H3 { s3 with heap:=s3.heap.push { cls:=.type "slice",data:=.fields #[vl,vu,.none] } }:=I3.kept (t':=s3.toks) fun b ob q=>D6 _ q;obtain⟨T,id,hT,ht,hg⟩:=hr Jw { s3 with heap:=s3.heap.push { cls:=.type "slice",data:=.fields #[vl,vu,.none] } } σ H3 x v vl vu l u s3.heap.objs.size Q I4 r1 (Heap.IsSliceOf.new ..) pl pu q3;show Eo (model X.prog X.w) X.A (subscriptTail e (.Slice lo hi none p2) v (.ref s3.heap.objs.size)) (EP X Jw σ Q) X.xe { s3 with heap:=s3.heap.push { cls:=.type "slice",data:=.fields #[vl,vu,.none] } };exact tail_any (ops:=[.ref s3.heap.objs.size,v]) ht hT hg (by with_unfolding_all rfl)
noncomputable def ku (xs:List V) (lo hi:Option Int):List V:=(xs.drop (HT.sIx xs.length 0 lo)).take (HT.sIx xs.length xs.length hi - HT.sIx xs.length 0 lo)
theorem gW (xs:List V) (lo hi:Option Int):(ku xs lo hi).length<=xs.length:=by
 unfold ku;rw [EL,GA];omega
end
noncomputable def ixN (n:Nat) (i:Int):Option Nat:=if 0<=i then (if i<n then some i.toNat else none) else if -(n:Int)<=i then some (i+n).toNat else none
noncomputable def atI {α:Type} (xs:List α) (i:Int):Option α:=(ixN xs.length i).bind fun j=>xs[j]?
theorem lX {n:Nat} {i:Int} {j:Nat} (h:ixN n i=some j):seqIndex? i n=some j/\j<n/\-(n:Int)<=i/\i<n:=by
 unfold ixN at h;by_cases h0:0<=i
 ·rw [Jy h0] at h;by_cases h1:i<n
  ·rw [Jy h1] at h;have e:i.toNat=j:=Option.some.inj h;exact⟨by rw [seqIndex_of h0 h1,e],by omega,by omega,h1⟩
  ·rw [Jx h1] at h;cases h
 ·rw [Jx h0] at h;by_cases h1:-(n:Int)<=i
  ·rw [Jy h1] at h;have e:(i+n).toNat=j:=Option.some.inj h;exact⟨by rw [seqIndex_neg (by omega) h1,e],by omega,h1,by omega⟩
  ·rw [Jx h1] at h;cases h
theorem lY {α:Type} {xs:List α} {i:Int} {v:α} (h:atI xs i=some v):∃ j,seqIndex? i xs.length=some j/\xs[j]?=some v/\j<xs.length/\-(xs.length:Int)<=i/\i<xs.length:=by
 unfold atI at h;cases e:ixN xs.length i with
 | none=>rw [e] at h;cases h
 | some j =>
  rw [e] at h;obtain⟨h1,h2,h3,h4⟩:=lX e;exact⟨j,h1,h,h2,h3,h4⟩
theorem fg {α:Type} {xs:List α} {j:Nat} {v:α} (h:xs[j]?=some v):atI xs (j:Int)=some v:=by
 have hj:j<xs.length:=(DU.mp h).1;have e:ixN xs.length (j:Int)=some j:=by
  unfold ixN;rw [Jy (by omega),Jy (by omega)];simp
 unfold atI;rw [e];exact h
def uO (b:Expr):Prop:=∀ o i,subscripted b false o i=operate [o,i] (getItem o i)
def IxR (X:Cx) (r:R2):Prop :=
 ∀ (value slice:Expr) (Jw:List (DY×Obj)) (s:Shared) (σ:St) (H:Hp) (x y:V) (v u:Value) (Q:VK),Inv X Jw σ H s->RelV x v->RelV y u->r x y H Q ->
  subscripted slice false v u=operate [v,u] (getItem v u)->Eo (model X.prog X.w) X.A (subscriptTail value slice v u) (EP X Jw σ Q) X.xe s
def MtR (X:Cx) (id:String) (r:V->List V->Hp->VK->Prop):Prop :=
 ∀ (Jw:List (DY×Obj)) (s:Shared) (σ:St) (H:Hp) (x:V) (xs:List V) (v:Value) (us:List Value) (Q:VK),Inv X Jw σ H s->RelV x v->Vals xs us->r x xs H Q ->
  Eo (model X.prog X.w) X.A (call (.builtin id) (v :: us)) (EP X Jw σ Q) X.xe s
section
variable {X:Cx} {a b:Expr} {ta tb:TE} {pos:Pos}
theorem yw {r:R2} (hr:IxR X r) (ha:PE X a ta) (hb:PE X b tb) (hs:uO b):PE X (.Subscript a b pos) (tOp r ta tb):=by
 intro Jw s σ H Q I h;exact Subscript_ (AG ha hb I h fun v u s2 x y H2 I2 rx ry q=>hr a b Jw s2 σ H2 x y v u Q I2 rx ry q (hs _ _))
def kE (K:DT):R2:=fun x y H Q=>∃ p xs i v,x=.ref p/\y=.int i/\SqL K H p xs/\atI xs i=some v/\Q v H
def AK (K:DT):R2:=fun x y H Q=>∃ p xs i v,x=.ref p/\y=.int i/\SqT K H p xs/\atI xs i=some v/\Q v H
theorem uP:IxR X (kE X.K):=by
 intro value slice Jw s σ H x y v u Q I rx ry h hs;obtain⟨p,xs,i,z,rfl,rfl,hq,he,q⟩:=h;cases rx;obtain⟨t,rfl⟩:=ry;obtain⟨its,r,pl,hz⟩:=I.list hq;obtain⟨j,h1,h2,h3,h4,h5⟩:=lY he;obtain⟨w,ew,rw'⟩:=r.get h2;have hl:=r.length;have hn:=cG;have fin:EP X Jw σ Q w s:=⟨z,H,I,rw',q⟩;by_cases h0:0<=i
 ·have hj:i.toNat=j:=by
   rw [seqIndex_of h0 h5] at h1;exact Option.some.inj h1
  exact item_listR pl.isList h0 (by omega) (by rw [hj];simpa using ew) fin hs
 ·have hj:(i+(its.toArray.size:Int)).toNat=j:=by
   rw [seqIndex_neg (by omega) h4] at h1;rw [Em,<- hl];exact Option.some.inj h1
  exact subscriptTail_builtinR (x:=w) pl.isList.typeIs slot_list_getitem.lookup
   (wpAny_getItem_list_neg (Q:=fun r s'=>r=w/\EP X Jw σ Q r s') pl.isList (by omega) (by rw [Em] <;> omega) (by omega) (by rw [hj];simpa using ew) ⟨rfl,fin⟩) hs
theorem AL:IxR X (AK X.K):=by
 intro value slice Jw s σ H x y v u Q I rx ry h hs;obtain⟨p,xs,i,z,rfl,rfl,hq,he,q⟩:=h;cases rx;obtain⟨t,rfl⟩:=ry;obtain⟨its,r,pl,hz⟩:=I.tuple hq;obtain⟨j,h1,h2,h3,h4,h5⟩:=lY he;obtain⟨w,ew,rw'⟩:=r.get h2;have hl:=r.length;have hn:=cG;have fin:EP X Jw σ Q w s:=⟨z,H,I,rw',q⟩;exact subscriptTail_builtinR (x:=w) pl.typeIs slot_tuple_getitem.lookup
  (getItem_tuple (j:=j) (Q:=fun r s'=>r=w/\EP X Jw σ Q r s') pl (by omega) (by omega) (by rw [Em,<- hl];exact h1) (by simpa using ew) ⟨rfl,fin⟩) hs
theorem kF (its:List Value) (n j:Nat) (u:Value):GG (·.setIfInBounds j u) { cls:=.type "list",data:=.seq its.toArray n }={ cls:=.type "list",data:=.seq (its.set j u).toArray n }:=by
 simp [GG]
theorem Inv.lst {Jw:List (DY×Obj)} {σ:St} {H:Hp} {s:Shared} {p:DY} {xs:List V} (I:Inv X Jw σ H s) (h:H p=some (.lst xs)) :
  ∃ (its:List Value) (n:Nat),Vals xs its/\s.heap.get? p=some { cls:=.type "list",data:=.seq its.toArray n }/\xs.length<=EJ:=by
 obtain⟨z,its,n,r,e⟩:=I.hok p _ h;exact⟨its,n,r,e,z⟩
theorem Inv.lstUpd {Jw:List (DY×Obj)} {σ:St} {H:Hp} {s:Shared} {p:DY} {xs ys:List V} {its its':List Value} {n n':Nat} {f:Obj->Obj} (I:Inv X Jw σ H s) (h:H p=some (.lst xs))
  (ho:s.heap.get? p=some { cls:=.type "list",data:=.seq its.toArray n }) (hf:f { cls:=.type "list",data:=.seq its.toArray n }={ cls:=.type "list",data:=.seq its'.toArray n' }) (r:Vals ys its') (hz:ys.length<=EJ) (t:Nat) :
  Inv X Jw σ (upd H p (.lst ys)) { s with heap:=s.heap.update p f,toks:=t }:=by
 have e:(s.heap.update p f).get? p=some { cls:=.type "list",data:=.seq its'.toArray n' }:=by
  rw [Gj f ho (by rw [hf] <;> rfl),hf]
 refine I.write (x:=p) (e:=p) (by rw [h];trivial) (.inl rfl) (fun b u hb q=>(F6 _ _ (Gv hb)).trans q) ⟨_,e⟩ ?_;exact⟨hz,its',n',r,e⟩
def cH:V->V->V->Hp->(Hp->Prop)->Prop:=fun o i v H Q=>∃ p xs k j,o=.ref p/\i=.int k/\H p=some (.lst xs)/\ixN xs.length k=some j/\Q (upd H p (.lst (xs.set j v)))
theorem set_list:uJ X cH:=by
 intro Jw s σ H o i v ov iv u Q I ro ri rv h;obtain⟨p,xs,k,j,rfl,rfl,hp,hj,q⟩:=h;cases ro;obtain⟨t,rfl⟩:=ri;obtain⟨its,n,r,ho,hz⟩:=I.lst hp;obtain⟨h1,h2,h3,h4⟩:=lX hj;have hl:=r.length;have hn:=cG;have I':Inv X Jw σ (upd H p (.lst (xs.set j v))) { s with heap:=s.heap.update p (GG (·.setIfInBounds j u)) } :=
  I.lstUpd hp ho (kF its n j u) (r.set rv j) (by rw [FH];exact hz) s.toks
 by_cases h0:0<=k
 ·have hk:k.toNat=j:=by
   rw [seqIndex_of h0 h4] at h1;exact Option.some.inj h1
  exact PySem.W.ki_setAt ho h0 (by omega) (by rw [Em,<- hl];exact h4) (by rw [hk];exact⟨_,I',q⟩)
 ·have hk:(k+(its.toArray.size:Int)).toNat=j:=by
   rw [seqIndex_neg (by omega) h3] at h1;rw [Em,<- hl];exact Option.some.inj h1
  exact PySem.W.ki_setBack ho (by omega) (by rw [Em,<- hl];exact h3) (by omega) (by rw [hk];exact⟨_,I',q⟩)
theorem fh (lo hi:Option Int) (n:Nat):(sliceBounds lo hi none n).1=((HT.sIx n 0 lo:Nat):Int)/\(sliceBounds lo hi none n).2.1=((HT.sIx n n hi:Nat):Int)/\(sliceBounds lo hi none n).2.2=1:=by
 refine⟨?_,?_,rfl⟩
 ·cases lo with
  | none=>simp [sliceBounds,HT.sIx]
  | some i =>
   simp only [sliceBounds,HT.sIx,Option.getD_none,show (1:Int) > 0 by decide,if_true];by_cases h:i<0
   ·simp only [h,if_true] <;> omega
   ·simp only [h,if_false] <;> omega
 ·cases hi with
  | none=>simp [sliceBounds,HT.sIx]
  | some i =>
   simp only [sliceBounds,HT.sIx,Option.getD_none,show (1:Int) > 0 by decide,if_true];by_cases h:i<0
   ·simp only [h,if_true] <;> omega
   ·simp only [h,if_false] <;> omega
theorem dE (its:List Value) (lo hi:Option Int):slicePick its.toArray lo hi none=((its.drop (HT.sIx its.length 0 lo)).take (HT.sIx its.length its.length hi - HT.sIx its.length 0 lo)).toArray:=by
 obtain⟨h1,h2,h3⟩:=fh lo hi its.toArray.size;unfold slicePick;rw [h1,h2,h3];simp only [sliceRange_one,pick_run,Em] <;> rfl
def uQ (K:DT):V->Option Int->Option Int->Hp->VK->Prop:=fun x lo hi H Q=>∃ a xs,x=.ref a/\SqL K H a xs/\∀ p,H p=none->Q (.ref p) (upd H p (.lst (ku xs lo hi)))
theorem uR:SlR X (uQ X.K):=by
 intro Jw s σ H x v vl vu lo hi sl Q I rx hs pl pu h;obtain⟨a,xs,rfl,hx,q⟩:=h;cases rx;obtain⟨its,r,ht,hz⟩:=I.list hx;have hlen:=r.length;refine⟨"list",_,slot_list_getitem.lookup,ht.isList.typeIs,?_⟩;refine wpAny_getItem_list_slice ht.isList hs pl pu .none (by simp) ?_ (by rw [Em] <;> omega);rw [dE,<- hlen];refine⟨.ref s.heap.objs.size,_,I.laid (t':=s.toks) (o:=.lst (ku xs lo hi)) (fun b ob q=>D6 _ q) (D8 _) ?_,rfl,q _ (I.hok.fresh (D8 _))⟩;exact⟨Er (gW xs lo hi) hz,_,0,(r.drop (HT.sIx xs.length 0 lo)).take (HT.sIx xs.length xs.length hi - HT.sIx xs.length 0 lo),El _ rfl⟩
noncomputable def bD:V->Bool
 | .non=>true
 | .bl _=>true
 | .int _=>true
 | .str _=>true
 | _=>false
noncomputable def eqV:V->V->Bool
 | .non,.non=>true
 | .bl a,.bl b=>a == b
 | .bl a,.int b=>(if a then 1 else 0) == b
 | .int a,.bl b=>a == (if b then 1 else 0)
 | .int a,.int b=>a == b
 | .str a,.str b=>a == b
 | _,_=>false
theorem AM {A:Around} {s:Shared} {y x:V} {u v:Value} (ry:RelV y u) (rx:RelV x v) (fy:bD y=true) (fx:bD x=true):SeqAt.EqAt A s u v (eqV y x):=by
 cases y with
 | non =>
  cases ry;cases x with
  | non=>cases rx;exact SeqAt.EqAt.same _
  | bl b=>cases rx;exact SeqAt.EqAt.none_bool b
  | int b=>obtain⟨t,rfl⟩:=rx;exact SeqAt.EqAt.none_int b t
  | str b=>obtain⟨t,rfl⟩:=rx;exact SeqAt.EqAt.none_str b t
  | _=>exact absurd (show false=true from fx) DX
 | bl a =>
  cases ry;cases x with
  | non=>cases rx;exact SeqAt.EqAt.bool_none a
  | bl b=>cases rx;exact SeqAt.EqAt.bool_bool a b
  | int b=>obtain⟨t,rfl⟩:=rx;exact SeqAt.EqAt.bool_int a b t
  | str b=>obtain⟨t,rfl⟩:=rx;exact SeqAt.EqAt.bool_str a b t
  | _=>exact absurd (show false=true from fx) DX
 | int a =>
  obtain⟨t',rfl⟩:=ry;cases x with
  | non=>cases rx;exact SeqAt.EqAt.int_none a t'
  | bl b=>cases rx;exact SeqAt.EqAt.int_bool a t' b
  | int b=>obtain⟨t,rfl⟩:=rx;exact SeqAt.EqAt.int_int a t' b t
  | str b=>obtain⟨t,rfl⟩:=rx;exact SeqAt.EqAt.int_str a t' b t
  | _=>exact absurd (show false=true from fx) DX
 | str a =>
  obtain⟨t',rfl⟩:=ry;cases x with
  | non=>cases rx;exact SeqAt.EqAt.str_none a t'
  | bl b=>cases rx;exact SeqAt.EqAt.str_bool a t' b
  | int b=>obtain⟨t,rfl⟩:=rx;exact SeqAt.EqAt.str_int a t' b t
  | str b=>obtain⟨t,rfl⟩:=rx;exact SeqAt.EqAt.str_str a t' b t
  | _=>exact absurd (show false=true from fx) DX
 | _=>exact absurd (show false=true from fy) DX
noncomputable def eqU (x:V) (u:Value):Bool:=match u with
 | .none=>eqV .non x
 | .bool b=>eqV (.bl b) x
 | .int i _=>eqV (.int i) x
 | .str z _=>eqV (.str z) x
 | _=>false
theorem rH {x y:V} {u:Value} (r:RelV y u) (f:bD y=true):eqU x u=eqV y x:=by
 cases y with
 | non=>cases r;rfl
 | bl b=>cases r;rfl
 | int i=>obtain⟨t,rfl⟩:=r;rfl
 | str z=>obtain⟨t,rfl⟩:=r;rfl
 | _=>exact absurd (show false=true from f) DX
theorem fj {x:V}:∀ {xs:List V} {us:List Value},Vals xs us->xs.all bD=true->us.any (eqU x)=xs.any fun y=>eqV y x
 | _,_,.nil,_=>rfl
 | y :: xs,u :: us,.cons r t,f=>by
  rw [HZ,Eb] at f;rw [Ia,Ia,rH r f.1,fj t f.2]
theorem cI {A:Around} {s:Shared} {x:V} {v:Value} (rx:RelV x v) (fx:bD x=true):∀ {xs:List V} {us:List Value},Vals xs us->xs.all bD=true->∀ u∈us,SeqAt.EqAt A s u v (eqU x u)
 | _,_,.nil,_=>fun u hu=>by cases hu
 | y :: xs,u :: us,.cons r t,f=>fun u' hu=>by
  rw [HZ,Eb] at f;rcases D5.mp hu with rfl | hu
  ·rw [rH r f.1];exact AM r rx f.1 fx
  ·exact cI rx fx t f.2 u' hu
noncomputable def inV (x:V) (xs:List V):Bool:=xs.any fun y=>eqV y x
def rIn (K:DT) (neg:Bool):R2:=fun x y H Q=>∃ p xs,y=.ref p/\(SqL K H p xs \/ SqT K H p xs)/\bD x=true/\xs.all bD=true/\Q (.bl (if neg then !inV x xs else inV x xs)) H
theorem fk:OpR X (E8 .NotIn) (rIn X.K true):=by
 intro Jw s σ H x y v u Q I rx ry h;obtain⟨p,xs,rfl,hq,fx,fs,q⟩:=h;cases ry;rcases hq with hq | hq
 ·obtain⟨its,r,pl,hz⟩:=I.list hq;refine SeqAt.notIn_listAt (eqU x) pl.isList (fun w hw=>cI rx fx r fs w (by simpa using hw)) ⟨.bl _,H,I,rfl,?_⟩;rw [show its.toArray.any (eqU x)=its.any (eqU x) by simp,fj r fs];exact q
 ·obtain⟨its,r,pl,hz⟩:=I.tuple hq;refine SeqAt.notIn_tupleAt (eqU x) pl (fun w hw=>cI rx fx r fs w (by simpa using hw)) ⟨.bl _,H,I,rfl,?_⟩;rw [show its.toArray.any (eqU x)=its.any (eqU x) by simp,fj r fs];exact q
theorem fm:yT X (.builtin "len") (fun xs H Q=>∃ p ys,xs=[.ref p]/\(SqL X.K H p ys \/ SqT X.K H p ys)/\Q (.int ys.length) H):=by
 intro Jw s σ H xs us Q I r h;obtain⟨p,ys,rfl,hq,q⟩:=h;obtain⟨u,rfl,rx⟩:=vals1 r;cases rx;have hn:=cG;rcases hq with hq | hq
 ·obtain⟨its,r',pl,hz⟩:=I.list hq;have hlen:=r'.length;exact Calls.call_len_list pl.isList (by simp only [Em] <;> omega) ⟨.int ys.length,H,I.tok _,⟨s.toks+1,by rw [Em,hlen]⟩,q⟩
 ·obtain⟨its,r',pl,hz⟩:=I.tuple hq;have hlen:=r'.length;exact len_tuple pl (by simp only [Em] <;> omega) ⟨.int ys.length,H,I.tok _,⟨s.toks+1,by rw [Em,hlen]⟩,q⟩
theorem dF:yT X (.type "tuple") (fun xs H Q=>∃ p ys,xs=[.ref p]/\((SqL X.K H p ys/\∀ l,H l=none->Q (.ref l) (upd H l (.tup ys))) \/ (SqT X.K H p ys/\Q (.ref p) H))):=by
 intro Jw s σ H xs us Q I r h;obtain⟨p,ys,rfl,h⟩:=h;obtain⟨u,rfl,rx⟩:=vals1 r;cases rx;rcases h with⟨hq,q⟩ | ⟨hq,q⟩
 ·obtain⟨its,r',pl,hz⟩:=I.list hq;have hlen:=r'.length;refine call_tuple_list pl.isList (fun h' kp=>?_) (by simp only [Em] <;> omega);have I1:Inv X Jw σ H { s with heap:=h' }:=I.kept (t':=s.toks) kp;have I2:Inv X Jw σ (upd H h'.objs.size (.tup ys)) { s with heap:=h'.push { cls:=.type "tuple",data:=.seq its.toArray } } :=
   I1.laid (t':=s.toks) (fun b o e=>D6 _ e) (D8 _) (show ObjOk X.prog X.w _ _ _ (.tup ys) from⟨hz,its,r',IsTup.new _ _⟩)
  exact⟨.ref h'.objs.size,_,I2,rfl,q _ (I1.hok.fresh (D8 _))⟩
 ·obtain⟨its,r',pl,hz⟩:=I.tuple hq;exact call_tuple_same pl ⟨.ref p,H,I,rfl,q⟩
def tyV (K:DT) (T:String) (x:V) (H:Hp):Prop:=match x with
 | .str _=>T="str"
 | .int _=>T="int"
 | .ref p=>(T="list"/\∃ xs,SqL K H p xs) \/ (T="tuple"/\∃ o,K.lookup p=some o/\o.cls=.type "tuple"/\o.dict=none) \/
   (T="dict"/\((∃ kvs,H p=some (.dK kvs)) \/ ∃ kvs,H p=some (.dT kvs))) \/ (T="set"/\∃ S n,H p=some (.set S n))
 | _=>False
theorem rJ {Jw:List (DY×Obj)} {σ:St} {H:Hp} {s:Shared} {T:String} {x:V} {v:Value} (I:Inv X Jw σ H s) (r:RelV x v) (ty:tyV X.K T x H) :
  s.TypeIs v T/\∀ a,v=.ref a->∃ ob,s.heap.get? a=some ob/\ob.dict=none:=by
 cases x with
 | str z =>
  obtain⟨t,rfl⟩:=r;cases (show T="str" from ty);exact⟨typeIs_str s z t,fun _ e=>nomatch e⟩
 | int i =>
  obtain⟨t,rfl⟩:=r;cases (show T="int" from ty);exact⟨typeIs_int s i t,fun _ e=>nomatch e⟩
 | ref p =>
  cases r;rcases ty with⟨rfl,xs,hq⟩ | ⟨rfl,o,hk,hc,hd⟩ | ⟨rfl,hk⟩ | ⟨rfl,S,n,hk⟩
  ·obtain⟨its,_,pl,_⟩:=I.list hq;refine⟨pl.isList.typeIs,fun a e=>?_⟩;cases e;obtain⟨o,n,e,c,hd,_⟩:=pl;exact⟨o,e,hd⟩
  ·refine⟨⟨o,I.kIn p o hk,hc⟩,fun a e=>?_⟩;cases e;exact⟨o,I.kIn _ o hk,hd⟩
  ·have z:∃ o,s.heap.get? p=some o/\o.ExactDict:=by
    rcases hk with⟨kvs,hk⟩ | ⟨kvs,hk⟩
    ·obtain⟨_,_,_,_,o,_,_,e,ex,_⟩:=I.hok p _ hk;exact⟨o,e,ex⟩
    ·obtain⟨_,_,_,_,o,_,_,e,ex,_⟩:=I.hok p _ hk;exact⟨o,e,ex⟩
   obtain⟨o,e,ex⟩:=z;refine⟨⟨o,e,ex.1⟩,fun a e2=>?_⟩;cases e2;exact⟨o,e,ex.2.1⟩
  ·obtain⟨o,_,_,_,e,ex,_⟩:=I.hok p _ hk;refine⟨⟨o,e,ex.1⟩,fun a e2=>?_⟩;cases e2;exact⟨o,e,ex.2.1⟩
 | _=>exact GD ty
def Cn (K:DT) (T:String) (r:V->List V->Hp->VK->Prop) (to:TE):TE:=fun σ H Q=>to σ H fun x H1=>tyV K T x H1/\r x [] H1 Q
def tBM (K:DT) (T:String) (r:V->List V->Hp->VK->Prop) (to:TE) (t:TA):TE:=fun σ H Q=>to σ H fun x H1=>tyV K T x H1/\t σ H1 fun xs H2=>r x xs H2 Q
variable {o e:Expr} {es:List Expr} {to:TE} {t:TA} {name:Str} {apos cpos:Pos} {T id:String} {r:V->List V->Hp->VK->Prop}
theorem AN (pa:PlainAttrs T) (slot:Slot T name id) (hty:typeOf (.builtin id)=pure (.type "method_descriptor")) (hm:MtR X id r) (ho:PE X o to)
  (hbase:attributeBase o name X.env (eval o X.env)=eval o X.env:=by rfl) (hline:(apos.endLine == cpos.line)=true:=by rfl):PE X (.Call (.Attribute o name apos) [] [] cpos) (Cn X.K T r to):=by
 intro Jw s σ H Q I h;refine wpAny_Call_method0_late hbase hline (thn (ho Jw s σ H _ I h) fun v s1 ⟨x,H1,I1,r1,ty,q1⟩=>?_);obtain⟨h1,h2⟩:=rJ I1 r1 ty;exact⟨T,id,pa,slot,hty,h1,h2,GH rfl (PySem.evalArgs_none (hm Jw s1 σ H1 x [] v [] Q I1 r1 .nil q1))⟩
theorem gX (pa:PlainAttrs T) (slot:Slot T name id) (hty:typeOf (.builtin id)=pure (.type "method_descriptor")) (hm:MtR X id r) (ho:PE X o to) (ha:PA X (e :: es) t)
  (hbase:attributeBase o name X.env (eval o X.env)=eval o X.env:=by rfl)
  (hfew:((backTo cpos (EG (e :: es) X.env)).all (fun x=>!x.1) && (backToKw cpos (keywordEach [] X.env)).all (fun x=>x.1.isSome)
   && decide ((e :: es).length+([]:List Keyword).length+(if ([]:List Keyword).isEmpty then 0 else 1)<30))=true:=by rfl)
  (hline:(apos.endLine == cpos.line)=true:=by rfl) (hs:EG (e :: es) X.env=(false,eval e X.env) :: EG es X.env:=by rfl) (hplain:(backTo cpos (EG es X.env)).any (·.1)=false:=by rfl) :
  PE X (.Call (.Attribute o name apos) (e :: es) [] cpos) (tBM X.K T r to t):=by
 intro Jw s σ H Q I h;refine wpAny_Call_method_late hbase hfew hline rfl (thn (ho Jw s σ H _ I h) fun v s1 ⟨x,H1,I1,r1,ty,q1⟩=>?_);obtain⟨h1,h2⟩:=rJ I1 r1 ty;refine⟨T,id,pa,slot,hty,h1,h2,?_⟩;have hA:=ha cpos Jw s1 σ H1 _ I1 q1;rw [hs] at hA ⊢;refine GH (by show (false || (backTo cpos (EG es X.env)).any (·.1))=false;rw [hplain] <;> rfl) (Hw ?_);exact thn hA fun us s2 ⟨vs,H2,I2,r2,q2⟩=>hm Jw s2 σ H2 x vs v us Q I2 r1 r2 q2
/- xs.append(e),list.index on a module's tuple .. are MtR facts of 06m -/
end
def MtM (X:Cx) (id:String) (r:V->List V->Hp->VK->Prop):Prop :=
 ∀ (Jw:List (DY×Obj)) (s:Shared) (σ:St) (H:Hp) (x:V) (xs:List V) (v:Value) (us:List Value) (Q:VK),Inv X Jw σ H s->RelV x v->Vals xs us->r x xs H Q ->
  Eo (model X.prog X.w) X.A (call (.builtin id) (v :: us)) (EP X Jw σ Q) X.xe s
theorem Vals.one:∀ {x:V} {us:List Value},Vals [x] us->∃ u,us=[u]/\RelV x u
 | _,_,.cons r .nil=>⟨_,rfl,r⟩
theorem Vals.zero:∀ {us:List Value},Vals [] us->us=[]
 | _,.nil=>rfl
theorem Vals.dropLast {xs:List V} {us:List Value} (h:Vals xs us):Vals xs.dropLast us.dropLast:=by
 induction h with
 | nil=>exact .nil
 | cons r t ih =>
  cases t with
  | nil=>exact .nil
  | cons q t'=>exact .cons r ih
theorem Vals.reverse {xs:List V} {us:List Value} (h:Vals xs us):Vals xs.reverse us.reverse:=by
 induction h with
 | nil=>exact .nil
 | cons r t ih=>rw [EY,EY];exact Vals.append ih (.cons r .nil)
theorem kG {α:Type} (l:List α):l.eraseIdx (l.length - 1)=l.dropLast:=by
 induction l with
 | nil=>rfl
 | cons a r ih =>
  cases r with
  | nil=>rfl
  | cons b r =>
   have e:(a :: b :: r).length - 1=((b :: r).length - 1)+1:=by
    have h1:(a :: b :: r).length=r.length+2:=rfl;have h2:(b :: r).length=r.length+1:=rfl;omega
   rw [e,List.eraseIdx_cons_succ,ih]
   all_goals rfl
section
variable {X:Cx} {Jw:List (DY×Obj)} {σ:St} {H:Hp} {s:Shared} {l b:DY} {xs ys zs:List V}
theorem Inv.lset {its its':List Value} {n:Nat} {f:Array Value->Array Value} {t':Nat} (I:Inv X Jw σ H s) (hH:H l=some (.lst xs))
  (e:s.heap.get? l=some { cls:=.type "list",data:=.seq its.toArray n }) (hf:f its.toArray=its'.toArray) (hv:Vals ys its') (hz:ys.length<=EJ) :
  Inv X Jw σ (upd H l (.lst ys)) { s with heap:=s.heap.update l (GG f),toks:=t' }:=by
 have q:=PySem.IsL.update e f;rw [hf] at q;refine I.write (x:=l) (e:=l) (by rw [hH];exact trivial) (.inl rfl) (fun b' u hb hu=>(F6 s.heap (GG f) (Gv hb)).trans hu) ⟨_,q⟩ ?_;exact⟨hz,its',_,hv,q⟩
theorem Inv.lnew {its:List Value} {t':Nat} (I:Inv X Jw σ H s) (hv:Vals ys its) (hz:ys.length<=EJ) :
  Inv X Jw σ (upd H s.heap.objs.size (.lst ys)) { s with heap:=s.heap.push { cls:=.type "list",data:=.seq its.toArray },toks:=t' } :=
 I.laid (fun _ _ q=>D6 _ q) (D8 _) ⟨hz,its,0,hv,El _ rfl⟩
theorem Inv.fresh (I:Inv X Jw σ H s):H s.heap.objs.size=none:=I.hok.fresh (D8 _)
theorem Inv.lstM (I:Inv X Jw σ H s) (hH:H l=some (.lst xs)):xs.length<=EJ/\∃ (its:List Value) (n:Nat),Vals xs its/\xs.length=its.length/\s.heap.get? l=some { cls:=.type "list",data:=.seq its.toArray n }:=by
 obtain⟨z,its,n,r,e⟩:=I.hok l _ hH;exact⟨z,its,n,r,r.length,e⟩
end
section
variable {X:Cx}
def bX:V->List V->Hp->VK->Prop:=fun x vs H Q=>∃ l xs y,x=.ref l/\vs=[y]/\H l=some (.lst xs)/\xs.length<EJ/\Q .non (upd H l (.lst (xs++[y])))
theorem qB:MtM X "list.append" bX:=by
 intro Jw s σ H x vs v us Q I rx rv h;obtain⟨l,xs,y,rfl,rfl,hH,hz,q⟩:=h;cases rx;obtain⟨u,rfl,ru⟩:=rv.one;obtain⟨z,its,n,r,hl,e⟩:=I.lstM hH;refine call_meets F.slot_list_append ⟨_,e,rfl⟩ IT (IJ _ _) (PySem.list_append l its.toArray n u (by rw [Em];omega)) ⟨e,?_⟩;refine⟨.non,_,I.lset (its':=its++[u]) hH e (by simp) (r.append (.cons ru .nil)) ?_,rfl,q⟩;rw [Eh,EX];omega
def Co:V->List V->Hp->VK->Prop:=fun x vs H Q=>∃ l xs y,x=.ref l/\vs=[]/\H l=some (.lst xs)/\xs[xs.length - 1]?=some y/\Q y (upd H l (.lst xs.dropLast))
theorem AO:MtM X "list.pop" Co:=by
 intro Jw s σ H x vs v us Q I rx rv h;obtain⟨l,xs,y,rfl,rfl,hH,hy,q⟩:=h;cases rx;have hus:=rv.zero;subst hus;obtain⟨z,its,n,r,hl,e⟩:=I.lstM hH;obtain⟨u,hu,ru⟩:=r.get hy;have hy':its.toArray[its.toArray.size - 1]?=some u:=by
  show its.toArray[its.length - 1]?=some u;rw [<-Ft,<- hl];exact hu
 refine call_meets F.slot_list_pop ⟨_,e,rfl⟩ F.entry_list_pop (F.args_list_pop_1 _) (MeetsSeq.list_pop_last l its.toArray n u hy' (by rw [Em];omega)) ⟨e,?_⟩;refine⟨y,_,I.lset (its':=its.dropLast) hH e ?_ r.dropLast ?_,ru,q⟩
 ·show its.toArray.eraseIdxIfInBounds (its.toArray.size - 1)=its.dropLast.toArray;rw [Em,List.eraseIdxIfInBounds_toArray,kG]
 ·rw [List.length_dropLast];omega
end
end L2
namespace Att
open PySem PySem.W PySem.Calls PyProof.Rows
theorem bO {P:Params} {h:Heap}:∀ (ns:List Int) (vs:List Value),WellAll P h vs (ns.map WData.int)->IntsAre vs ns:=by
 intro ns
 induction ns with
 | nil =>
  intro vs w;rw [IY] at w;cases w;exact .nil
 | cons n ns ih =>
  intro vs w;rw [Ez] at w;cases w with
  | cons a b =>
   cases a;exact .cons _ _ (ih _ b)
theorem nZ {l:OpenLaw} {n:Nat} (hn:l.most=some n) {P:Params} {h:Heap} {args:List WData} {vals:List Value}
  (hpre:l.row.toRowW.claim.pre args=true) (hwl:WellAll P h vals args) :
  ∃ a vs ns,vals=[Value.ref a]/\args=[WData.list (ns.map WData.int)]/\h.get? a=some { cls:=.type "list",data:=.seq vs.toArray }/\IntsAre vs ns/\ns.length<=n:=by
 have hsh:WShape.hasAll [] args [.list .int]=true:=(pre_splitW hpre).1;have hc:l.pre.holds [] { args:=args }=true:=(pre_splitW hpre).2;obtain⟨d,r,rfl,h1,h2⟩:=hasAllW_cons hsh;obtain rfl:=hasAllW_nil h2;obtain⟨xs,rfl,h3⟩:=hasW_list h1;obtain⟨ns,rfl⟩:=items_int h3;have hlen:ns.length<=n:=by
  unfold OpenLaw.pre at hc;have h4:(WTm.not (.lt (.lit (.int (n:Int))) (.len (.arg 0)))).holds [] { args:=[.list (ns.map .int)] }=true:=by
   have h4:=(holds_andW hc).1;rw [hn] at h4;exact h4
  have h5:=condW_of h4 (w_not (w_lt w_lit (w_len_list (w_arg rfl))));rw [DS] at h5;refine Nat.le_of_not_lt fun q=>?_;have q':(n:Int)<((ns.length:Nat):Int):=by omega
  first
   | (rw [decide_eq_true q'] at h5;exact absurd h5 (by decide))
   | (simp at h5;omega)
 cases hwl with
 | cons w1 w2 =>
  cases w2;cases w1 with
  | list ho hall=>exact⟨_,_,ns,rfl,rfl,ho,bO ns _ hall,hlen⟩
theorem n8 (l:OpenLaw) (args:List WData):l.row.toRowW.claim.post args (.bool true) args=true :=
 postW_of (r:=l.row.toRowW) (X:=(true == true))
  (show WShape.has [] (.bool true) .bool=true by first | rfl | decide | simp [WShape.has,WShape.arms,WShape.armsAll])
  (show (WTm.eq .res (.lit (.bool true))).value [] { args:=args,res:=some (.bool true),after:=args }=some (.bool (true == true)) from w_eq_bool (w_res rfl) w_lit) rfl
theorem attach_call {l:OpenLaw} {n:Nat} {q:Program} {loose:List Str} {XP:(Str->Option Value)->Heap->Prop} {YP:World->Heap->Prop} {d:DefRec}
  (hn:l.most=some n) (hdf:d.params.defaults=[])
  (call:∀ (w:World) (s₀ s₁:Shared) (mg mb:Str->Option Value) (fa:DY) (o:Obj) (pm cd doc:Value) (a:DY) (vs:List Value) (ns:List Int),
   Ground q loose [] XP w s₀ mg mb s₁.heap->YP w s₁.heap ->
   s₁.heap.get? fa=some o->o.data=.func (docDef d.name d.params d.body d.scope pm cd doc)->s₁.heap.CodeRec cd d.name->mg d.name=some (.ref fa) ->
   s₁.heap.get? a=some { cls:=.type "list",data:=.seq vs.toArray }->IntsAre vs ns->ns.length<=n->s₁.gens=#[] ->
   codeAny (model l.prog w) callerA (.call (.ref fa) ⟨[.ref a],[]⟩) (fun r s'=>r=.ok (.ret (.bool true))/\OldK s₁.heap s'.heap/\s'.os=s₁.os/\AllBare s'.gens) s₁) :
  WalkO q loose XP YP l.row.toRowW d [] (fun f vs=>PySem.call f vs):=by
 intro w s₀ s₁ mg mb G Y fa o pm cd doc dV kV ho hd hcd hD hmg hg args vals as hpre hlay hrd hwl hlo;obtain rfl:dV=.none:=Dflts.none hD hdf;obtain rfl:kV=.none:=Dflts.noKw hD;obtain⟨a,vs,ns,rfl,rfl,hobj,hints,hlen⟩:=nZ hn hpre hwl;refine enter_call (Jh (call w s₀ s₁ mg mb fa o pm cd doc a vs ns G Y ho (fd_plain hd) hcd hmg hobj hints hlen hg) fun r s' hq=>?_);obtain⟨rfl,h2,h3,h4⟩:=hq;exact⟨.inl ⟨.bool true,.bool true,[],rfl,fun _=>rfl,.bool true,n8 l _,fun _=>⟨List.Pairwise.nil,fun _ hm=>(nomatch hm)⟩⟩,h2,h3,h4⟩
section
variable {prog:Program} {w:World} {A:Around} {E:Value->Shared->Prop} {s:Shared} {K:Frag}
end
end Att
namespace L2
open PySem PySem.Spec PyProof.Rows
theorem en:∀ {vs:List Value} {ns:List Int},IntsAre vs ns->Vals (ns.map V.int) vs
 | _,_,.nil=>.nil
 | _,_,.cons n t h=>.cons ⟨t,rfl⟩ (en h)
end L2
/- THE LAST THEOREM (shape;LID,My.* are yours):
   My.Adr: a structure of the addresses that your layer names (classes,functions);My.Txt K t: a structure (Prop) of the equations over K;
   My.txt_mk:{K} {implicit addresses ..} (e1:nsIn K EB "law"=some (some (.ref f))) (e2:K.lookup f=some ⟨oc,od,.func (fnOf "law" "law" params body scope dV kV doc pm an cdv ct),sl⟩) (e3:codeIn K cdv "law"=true) ..:∃ t,My.Txt K t
set_option maxRecDepth 100000 in
set_option maxHeartbeats 0 in
theorem PySem.Challenge.cw_LID_holds : PySem.Challenge.rw_LID.Holds := by
 w_on;o_law;k_head;(case hw=>w_witness2)
 k_fill
 refine L2.walk_of (l:=PySem.Challenge.rw_LID) (n:=63) (k:=40) (x:="script") (CX:=fun w=>..) (sp:=fun _=>My.sp_law) rfl (by decide) rfl ⟨rfl,by decide,by decide⟩ (fun w h Y=>PySem.W.kIn_of Y) ?F ?S ?C
 case F =>
  intro w mg fa h KX G hmg;have T:∃ t,My.Txt (L2.KOf KX) t:=by
   dsimp only [L2.KOf]                          -- K must stand as «<heap const> w.params» for k_is
   refine' My.txt_mk ?e1 ?e2 ?e3 ..
   (case e1=>PySem.W.k_is)                    -- in the order: a name->its address->its object->its parts
   (case e2=>PySem.W.k_is)
   ..
  obtain⟨t,T⟩:=T;have e0:=hmg.symm.trans (GQ KX G T.law);cases e0                                       -- fa is the law's own address;exact⟨_,fun s u=>.of_eq rfl,fun base kb nb=>My.law_fn T kb nb⟩     -- if «.of_eq rfl» comes too early: refine' ⟨_,?b,fun base kb nb=>My.law_fn T kb nb⟩;exact fun s u=>.of_eq rfl
 case S=>exact fun w H a ns hl hO hS=>..
 case C=>exact ..
(the tactic k_is has no namespace: write k_is) -/
namespace L2
open PySem PySem.Spec PyProof.Rows
noncomputable def jm (s:Stmt):Arguments:=match s with
 | .FunctionDef _ a _ _ _ _ _ _ _ _=>a
 | _=>{ posonlyargs:=[],args:=[],vararg:=none,kwonlyargs:=[],kw_defaults:=[],kwarg:=none,defaults:=[] }
noncomputable def yG (s:Stmt):List Stmt:=match s with
 | .FunctionDef _ _ b _ _ _ _ _ _ _=>b
 | _=>[]
noncomputable def zj (s:Stmt):Scope:=match s with
 | .FunctionDef _ _ _ _ _ _ sc _ _ _=>sc
 | _=>{ kind:=.function,names:=[],isGenerator:=false,isCoroutine:=false }
abbrev CX0:CXT:=fun _ _ _ _ _ _=>False
abbrev E0:XK:=fun _ _ _=>False
theorem Cp {X:Cx}:Passes CX0 X E0:=fun _ _ _ _ _ _ _ h=>h.elim
structure Fun (K:DT) (x qual:Str) (st:Stmt) (f:DY) (fd:FuncData):Prop where
 ex:∃ (oc:Value) (od:Option DY) (kV doc pm:Value) (an:Option DY) (cdv ct:Value) (osl:Array (Option Value)),
  fd=Fv x qual (jm st) (yG st) (zj st) .none kV doc pm an cdv ct/\K.lookup f=some ⟨oc,od,.func fd,osl⟩/\GS K cdv qual=true
 kp:Ff K (.ref f)=true
section
variable {P:Program} {w:World} {K:DT} {mg:Str->Option Value} {base:Heap}
theorem Fun.ok {x qual:Str} {st:Stmt} {f:DY} {fd:FuncData} {N ps:List Str} {k:Nat} {sp:Sp} (F:Fun K x qual st f fd) (S:FnScope N ps (zj st)) (len:∀ vs H Q E,sp vs H Q E->vs.length=ps.length)
  (hbody:∀ (cdv:Value) (A:Around) (outer:List Env) (s:Shared) (H:Hp) (vs:List V) (Q:VK) (E:XK),Room k (A.deeper (envOfC qual (zj st) s.heap.objs.size f cdv))->sp vs H Q E ->
   ∃ t,PSs (yu CX0 P w K mg base N qual (zj st) f cdv A outer s H E).nox (yG st) t/\t { nx:=fun _ H'=>Q .non H',rt:=Q } (start N vs) H):FnOk P w K mg base CX0 (k+1) f fd ps sp:=by
 obtain⟨oc,od,kV,doc,pm,an,cdv,ct,osl,rfl,lk,hcd⟩:=F.ex;refine Cm lk hcd S len fun A outer s H vs Q E hr hsp=>?_;obtain⟨t,h,q⟩:=hbody cdv A outer s H vs Q E hr hsp;exact⟨t,h.nox,q⟩
theorem Fun.binds {x qual:Str} {st:Stmt} {f:DY} {fd:FuncData} {ps:List Str} (F:Fun K x qual st f fd)
  (h:∀ (kV doc pm:Value) (an:Option DY) (cdv ct:Value) (us:List Value),us.length=ps.length->bindArgs (Fv x qual (jm st) (yG st) (zj st) .none kV doc pm an cdv ct) ⟨us,[]⟩=pure (ps.zip us)):Binds K fd ps []:=by
 obtain⟨oc,od,kV,doc,pm,an,cdv,ct,osl,rfl,lk,hcd⟩:=F.ex;exact .all (h kV doc pm an cdv ct)
theorem kH {x qual:Str} {st:Stmt} {f:DY} {oc:Value} {od an:Option DY} {osl:Array (Option Value)} {kV doc pm cdv ct:Value} (l:K.lookup f=some ⟨oc,od,.func (Fv x qual (jm st) (yG st) (zj st) .none kV doc pm an cdv ct),osl⟩)
  (c:GS K cdv qual=true) (k:Ff K (.ref f)=true):Fun K x qual st f (Fv x qual (jm st) (yG st) (zj st) .none kV doc pm an cdv ct):=⟨⟨oc,od,kV,doc,pm,an,cdv,ct,osl,rfl,l,c⟩,k⟩
end
theorem yg {n:Nat} (h:n<=1000):n<EJ:=FJ h (by decide)
section
variable {X:Cx}
theorem pv (i:Nat) {x:Str} {pos:Pos} (hN:X.N[i]?=some x:=by rfl) (hv:Vis X.env.scope x:=by first | exact Or.inl rfl | exact Or.inr (Or.inl rfl) | exact Or.inr (Or.inr rfl)) (hd:(x == ("__debug__":Str))=false:=by decide)
  (hcd:(x == ("__classdict__":Str))=false:=by decide):PE X (.Name x pos) (yD i):=Ay hN hv hd hcd
end
def Same (H H':Hp):Prop:=∀ b o,H b=some o->H' b=some o
theorem Same.refl (H:Hp):Same H H:=fun _ _ h=>h
theorem Same.trans {H H1 H2:Hp} (a:Same H H1) (b:Same H1 H2):Same H H2:=fun c o h=>b c o (a c o h)
theorem Same.free {H H':Hp} (e:Same H H') {l:DY} (h:H' l=Option.none):H l=Option.none:=by
 cases q:H l with
 | none=>rfl
 | some o =>
  rw [e l o q] at h;cases h
theorem Same.seq {K:DT} {H H':Hp} {a:DY} {xs:List V} (e:Same H H') (h:SqL K H a xs):SqL K H' a xs:=by
 rcases h with (h | ⟨o,h⟩) | h
 ·exact .inl (.inl (e _ _ h))
 ·exact .inl (.inr ⟨o,e _ _ h⟩)
 ·exact .inr h
noncomputable def yx (env:Env):List (Str×NameKind)->List (Str×DY)->List (Str×DY)
 | [],acc=>acc
 | (x,k) :: r,acc=>if k == .free then yx env r ((x,(env.cells.lookup x).getD 0) :: acc) else yx env r acc
theorem kI {sc:Scope} {env:Env} (h:∀ x,(x,NameKind.free)∈sc.names->∃ c,env.cells.lookup x=some c):closureFor sc env=pure (yx env sc.names []):=by
 have key:∀ (names:List (Str×NameKind)) (acc:List (Str×DY)),(∀ x,(x,NameKind.free)∈names->∃ c,env.cells.lookup x=some c) ->
   (forIn names acc fun (x:Str×NameKind) (cs:List (Str×DY))=>if (x.2 == NameKind.free)=true then (do let c <- cellOf env x.1;pure (ForInStep.yield ((x.1,c) :: cs))) else pure (ForInStep.yield cs))=(pure (yx env names acc):Sem (List (Str×DY))):=by
  intro names
  induction names with
  | nil=>intro acc _;rfl
  | cons p r ih =>
   intro acc hh;obtain⟨x,k⟩:=p;rw [FT];unfold yx;by_cases hk:(k == NameKind.free)=true
   ·have hk':k=.free:=by simpa using hk
    subst hk';obtain⟨c,hc⟩:=hh x D4;simp only [beq_self_eq_true,if_true];rw [<-ih _ fun y hy=>hh y (DW _ hy)];have:cellOf env x=pure c:=by unfold cellOf;rw [hc]
    rw [this,hc];rfl
   ·simp only [hk,EK,if_false];rw [<-ih _ fun y hy=>hh y (DW _ hy)];rfl
 simp only [closureFor];have q:=key sc.names [] h;refine Eq.trans ?_ (Eq.trans (congrArg (fun z=>z >>= fun r=>pure r) q) ?_)
 ·rfl
 ·rfl
theorem qN {env:Env}:∀ {names:List (Str×NameKind)} {acc:List (Str×DY)} {p:Str×DY},p∈yx env names acc->p∈acc \/ ((p.1,NameKind.free)∈names/\p.2=(env.cells.lookup p.1).getD 0)
 | [],acc,p,h=>.inl h
 | (x,k) :: r,acc,p,h=>by
  unfold yx at h;split at h
  ·rename_i hk;have hk':k=.free:=by simpa using hk
   subst hk';rcases qN h with q | ⟨q,e⟩
   ·rcases D5.mp q with q | q
    ·subst q;exact .inr ⟨D4,rfl⟩
    ·exact .inl q
   ·exact .inr ⟨DW _ q,e⟩
  ·rcases qN h with q | ⟨q,e⟩
   ·exact .inl q
   ·exact .inr ⟨DW _ q,e⟩
theorem vd {α:Type}:∀ {l:List (Str×α)} {x:Str} {v:α},(x,v)∈l->∃ u,l.lookup x=some u
 | (y,u) :: r,x,v,h=>by
  rw [EU];cases hb:x == y with
  | true=>exact⟨u,rfl⟩
  | false =>
   rcases D5.mp h with e | h
   ·have:x=y:=congrArg IK e;subst this;simp at hb
   ·exact vd h
theorem vW {env:Env}:∀ {names:List (Str×NameKind)} {acc:List (Str×DY)} {x:Str},(x,NameKind.free)∈names->(x,(env.cells.lookup x).getD 0)∈yx env names acc
 | (y,k) :: r,acc,x,h=>by
  have mono:∀ (names:List (Str×NameKind)) (acc:List (Str×DY)) (p:Str×DY),p∈acc->p∈yx env names acc:=by
   intro names
   induction names with
   | nil=>intro acc p hp;exact hp
   | cons q r ih =>
    intro acc p hp;obtain⟨a,b⟩:=q;unfold yx;split
    ·exact ih _ _ (DW _ hp)
    ·exact ih _ _ hp
  unfold yx;rcases D5.mp h with e | h
  ·cases e;simp only [beq_self_eq_true,if_true];exact mono _ _ _ D4
  ·split
   ·exact vW h
   ·exact vW h
theorem vP {env:Env} {names:List (Str×NameKind)} {x:Str} {c:DY} (h:∀ x,(x,NameKind.free)∈names->∃ c,env.cells.lookup x=some c) (e:(yx env names []).lookup x=some c):env.cells.lookup x=some c/\(x,NameKind.free)∈names:=by
 rcases qN (mem_of_lookup e) with q | ⟨q,e'⟩
 ·cases q
 ·obtain⟨c',hc⟩:=h _ q;dsimp only at hc e';rw [hc] at e';exact⟨by rw [hc];exact congrArg some e'.symm,q⟩
theorem bE {env:Env} {names:List (Str×NameKind)} {x:Str} {c:DY} (h:∀ x,(x,NameKind.free)∈names->∃ c,env.cells.lookup x=some c) (hx:(x,NameKind.free)∈names) (e:env.cells.lookup x=some c):(yx env names []).lookup x=some c:=by
 obtain⟨u,hu⟩:=vd (vW (env:=env) (acc:=[]) hx);have:=(vP h hu).1;rw [this] at e;rw [hu,e]
theorem jA:∀ {names:List (Str×NameKind)} {n:Nat} {acc:List (Str×DY)} {x:Str} {c:DY},(cellsFrom n names acc).lookup x=some c->(n<=c/\c<n+names.length/\(x,NameKind.cell)∈names) \/ (acc.lookup x=some c/\(x,NameKind.cell)∉names)
 | [],n,acc,x,c,h=>.inr ⟨h,by simp⟩
 | (y,k) :: r,n,acc,x,c,h=>by
  unfold cellsFrom at h;split at h
  ·rename_i hk;have hk':k=.cell:=by simpa using hk
   subst hk';rcases jA h with⟨q1,q2,q3⟩ | ⟨q1,q2⟩
   ·exact .inl ⟨Hj q1,Es q2 (by rw [Ep];omega),DW _ q3⟩
   ·rw [EU] at q1;cases hb:x == y with
    | true =>
     rw [hb] at q1;cases q1;have:x=y:=by simpa using hb
     subst this;exact .inl ⟨D8 _,by rw [Ep];exact Nat.lt_add_of_pos_right (HG _),D4⟩
    | false =>
     rw [hb] at q1;refine .inr ⟨q1,fun z=>?_⟩;rcases D5.mp z with e | z
     ·have:x=y:=congrArg IK e;subst this;simp at hb
     ·exact q2 z
  ·rename_i hk;rcases jA h with⟨q1,q2,q3⟩ | ⟨q1,q2⟩
   ·exact .inl ⟨q1,Es q2 (by rw [Ep];omega),DW _ q3⟩
   ·refine .inr ⟨q1,fun z=>?_⟩;rcases D5.mp z with e | z
    ·have:k=.cell:=(congrArg IZ e).symm;subst this;simp at hk
    ·exact q2 z
theorem jM:∀ (names:List (Str×NameKind)) (n:Nat) (acc:List (Str×DY)),(acc.Pairwise fun x y=>x.2≠y.2)->(∀ p∈acc,p.2<n)->(cellsFrom n names acc).Pairwise fun x y=>x.2≠y.2
 | [],n,acc,h,_=>h
 | (y,k) :: r,n,acc,h,hl=>by
  unfold cellsFrom;split
  ·refine jM r (n+1) _ (Fw.mpr ⟨fun p hp=>?_,h⟩) fun p hp=>?_
   ·exact F5 (hl p hp)
   ·rcases D5.mp hp with e | hp
    ·subst e;exact Ii _
    ·exact FP (hl p hp)
  ·exact jM r n acc h hl
theorem dG {names:List (Str×NameKind)} {n:Nat} {acc:List (Str×DY)} {x:Str} (h:names.lookup x=some .cell):∃ c,(cellsFrom n names acc).lookup x=some c :=
 G7.mp (GF names n acc (.inl h))
theorem vQ {names:List (Str×NameKind)} {n:Nat} {acc:List (Str×DY)} {x:Str} (h:(acc.lookup x).isSome=true):∃ c,(cellsFrom n names acc).lookup x=some c :=
 G7.mp (GF names n acc (.inr h))
theorem qu:∀ (names:List (Str×NameKind)) (h:Heap) (acc:List (Str×DY)) (x:Str) (c:DY),(cellsFrom h.objs.size names acc).lookup x=some c->h.objs.size<=c->(∀ p∈acc,p.2<h.objs.size)->(pushCells h names).IsCell c none
 | [],h,acc,x,c,e,hc,hl=>absurd (hl _ (mem_of_lookup e)) (Nat.not_lt.mpr hc)
 | (y,k) :: r,h,acc,x,c,e,hc,hl=>by
  unfold cellsFrom at e;unfold pushCells;split at e
  ·rename_i hk;rw [Jy hk];by_cases hcc:c=h.objs.size
   ·subst hcc;exact⟨_,pushCells_keeps _ _ _ _ (El _ rfl),rfl⟩
   ·have es:(h.push { cls:=.type "cell",data:=.cell none }).objs.size=h.objs.size+1:=FN ..;refine qu r _ ((y,h.objs.size) :: acc) x c (by rw [es];exact e) (by rw [es];exact Nat.lt_of_le_of_ne hc (Gv hcc)) fun p hp=>?_;rw [es];rcases D5.mp hp with e | hp
    ·subst e;exact Ii _
    ·exact FP (hl p hp)
  ·rename_i hk;rw [Jx hk];exact qu r h acc x c e hc hl
noncomputable def zp (X:Cx) (sc:Scope) (N:List Str) (s₀:Shared) (H₀:Hp) (ex:List DY) (pn:List (DY×Obj)):Cx :=
 { X with N:=N,s₀:=s₀,H₀:=H₀,env:=compEnvC sc (cellsFrom (s₀.heap.objs.size+1) sc.names (yx X.env sc.names [])) s₀.heap.objs.size X.env,
          outer:=X.stack,ex:=ex,fn:=fun x=>decide (sc.names.lookup x=some .cell),pn:=pn,xe:=fun _ _=>False }
structure CompScope (NO:List Str) (scO:Scope) (N:List Str) (sc:Scope) (own:Nat) (fr:List Nat):Prop where
 kind:sc.kind=.function
 nd:N.Nodup
 snd:(sc.names.map (·.1)).Nodup
 free:∀ p∈sc.names,p.2=.free->scO.names.lookup p.1=some .cell \/ scO.names.lookup p.1=some .free
 frn:∀ p∈(N.drop own).zip fr,NO[p.2]?=some p.1/\sc.names.lookup p.1=some .free
 len:N.length=own+fr.length
noncomputable def jB (own:Nat) (fr:List Nat) (σ:St):St:=GU own none++fr.map fun j=>(σ[j]?).getD none
theorem yA {α:Type}:∀ {l:List (Str×α)} {x:Str} {k:α},(l.map (·.1)).Nodup->(x,k)∈l->l.lookup x=some k
 | (y,u) :: r,x,k,nd,h=>by
  rw [Ez] at nd;obtain⟨h1,h2⟩:=E5.mp nd;rw [EU];rcases D5.mp h with e | h'
  ·cases e;simp
  ·have:x≠y:=by
    intro e;subst e;exact h1 (Ei.mpr ⟨(x,k),h',rfl⟩)
   rw [beq_eq_false_iff_ne.mpr this];exact yA h2 h'
theorem jZ {env:Env}:∀ {names:List (Str×NameKind)} {x:Str} {k:NameKind},names.lookup x=some k ->
  (names.map fun (n,k)=>if (k == NameKind.free && env.scope.kind == .function && env.kindOf n == some .cell) then (n,NameKind.cell) else (n,k)).lookup x=some (if (k == NameKind.free && env.scope.kind == .function && env.kindOf x == some .cell) then .cell else k)
 | (n,k') :: r,x,k,h=>by
  have ih:=@jZ env r x k;show List.lookup x ((if (k' == NameKind.free && env.scope.kind == .function && env.kindOf n == some .cell)=true then (n,NameKind.cell) else (n,k')) :: _)=_;cases hx:x == n with
  | true =>
   have:x=n:=by simpa using hx
   subst this;simp only [EU,hx] at h;cases h;split <;> simp [EU]
  | false =>
   simp only [EU,hx] at h;split
   ·simp only [EU,hx];exact ih h
   ·simp only [EU,hx];exact ih h
theorem jQ {env:Env}:∀ {names:List (Str×NameKind)} {x:Str},names.lookup x=none ->
  (names.map fun (n,k)=>if (k == NameKind.free && env.scope.kind == .function && env.kindOf n == some .cell) then (n,NameKind.cell) else (n,k)).lookup x=none
 | [],_,_=>rfl
 | (n,k') :: r,x,h=>by
  have ih:=@jQ env r x;show List.lookup x ((if (k' == NameKind.free && env.scope.kind == .function && env.kindOf n == some .cell)=true then (n,NameKind.cell) else (n,k')) :: _)=_;cases hx:x == n with
  | true=>simp only [EU,hx] at h;cases h
  | false =>
   simp only [EU,hx] at h;split
   ·simp only [EU,hx];exact ih h
   ·simp only [EU,hx];exact ih h
section
variable {X:Cx} {Jw:List (DY×Obj)} {σ:St} {H:Hp} {s:Shared} {NO N:List Str} {scO sc:Scope} {own:Nat} {fr:List Nat} {fp:List DY}
theorem rK {tk:Nat} (S:CompScope NO scO N sc own fr) (hN:X.N=NO) (hsc:X.env.scope=scO) (I:Inv X Jw σ H s) (hf:∀ b∈fp,ah X Jw H b) (ho:∀ b∈fp,∃ o,s.heap.get? b=some o/\∀ v,o.data≠.cell v) :
  Inv (zp X sc N s H fp (X.pn++Jw)) [] (jB own fr σ) H { s with heap:=pushCells (s.heap.push { cls:=.type "dict",data:=.dict #[] }) sc.names,toks:=tk }:=by
 have hfree:∀ x,(x,NameKind.free)∈sc.names->∃ c,X.env.cells.lookup x=some c:=fun x hx=>I.ok.has x (by
  show X.env.scope.names.lookup x=_ \/ X.env.scope.names.lookup x=_;rw [hsc];exact S.free _ hx rfl)
 have hclt:∀ p∈yx X.env sc.names [],p.2<s.heap.objs.size:=fun p hp=>by
  rcases qN hp with q | ⟨q,e⟩
  ·cases q
  ·obtain⟨c,hc⟩:=hfree _ q;rw [e,hc];obtain⟨v,o,ho,_⟩:=I.cell _ c hc;exact Ea ho
 have hsz:(s.heap.push { cls:=.type "dict",data:=.dict #[] }).objs.size=s.heap.objs.size+1:=FN ..;have hk:∀ b o,s.heap.get? b=some o->(pushCells (s.heap.push { cls:=.type "dict",data:=.dict #[] }) sc.names).get? b=some o:=fun b o e=>pushCells_keeps _ _ _ _ (D6 _ e);have hcase:∀ {x:Str} {c:DY},(cellsFrom (s.heap.objs.size+1) sc.names (yx X.env sc.names [])).lookup x=some c->(s.heap.objs.size+1<=c/\(x,NameKind.cell)∈sc.names) \/ (X.env.cells.lookup x=some c/\(x,NameKind.free)∈sc.names):=fun {x c} e=>by
  rcases jA e with⟨q1,_,q3⟩ | ⟨q1,_⟩
  ·exact .inl ⟨q1,q3⟩
  ·exact .inr (vP hfree q1)
 have clap:(yx X.env sc.names []).Pairwise fun x y=>x.2≠y.2:=by
  have key:∀ (names:List (Str×NameKind)) (acc:List (Str×DY)),(∀ p∈acc,X.env.cells.lookup p.1=some p.2)->(∀ x,(x,NameKind.free)∈names->∃ c,X.env.cells.lookup x=some c)->(acc.Pairwise fun x y=>x.2≠y.2)->(∀ p∈acc,(p.1,NameKind.free)∉names)->(names.map (·.1)).Nodup ->
    (yx X.env names acc).Pairwise fun x y=>x.2≠y.2:=by
   intro names
   induction names with
   | nil=>intro acc _ _ h _ _;exact h
   | cons p r ih =>
    intro acc h1 h2 h3 h4 h5;obtain⟨y,k⟩:=p;rw [Ez] at h5;obtain⟨n1,n2⟩:=E5.mp h5;unfold yx;split
    ·rename_i hk;have hk':k=.free:=by simpa using hk
     subst hk';obtain⟨c,hc⟩:=h2 y D4;rw [hc];refine ih _ (fun p hp=>?_) (fun x hx=>h2 x (DW _ hx)) (Fw.mpr ⟨fun p hp=>?_,h3⟩) (fun p hp=>?_) n2
     ·rcases D5.mp hp with e | hp
      ·subst e;exact hc
      ·exact h1 p hp
     ·intro e;have e':p.2=c:=e.symm;have:=I.ok.inj _ _ _ hc (e'▸h1 p hp);exact h4 p hp (this▸D4)
     ·rcases D5.mp hp with e | hp
      ·subst e;intro z;exact n1 (Ei.mpr ⟨_,z,rfl⟩)
      ·intro z;exact h4 p hp (DW _ z)
    ·exact ih acc h1 (fun x hx=>h2 x (DW _ hx)) h3 (fun p hp z=>h4 p hp (DW _ z)) n2
  exact key sc.names [] (fun p hp=>by cases hp) hfree List.Pairwise.nil (fun p hp=>by cases hp) S.snd
 have apart:=jM sc.names (s.heap.objs.size+1) _ clap fun p hp=>FP (hclt p hp);have hkd:∀ x,(zp X sc N s H fp (X.pn++Jw)).env.kindOf x=some .cell \/ (zp X sc N s H fp (X.pn++Jw)).env.kindOf x=some .free->(x,NameKind.cell)∈sc.names \/ (x,NameKind.free)∈sc.names:=fun x hx=>by
  cases q:sc.names.lookup x with
  | none =>
   have e:(zp X sc N s H fp (X.pn++Jw)).env.kindOf x=none:=jQ q;rw [e] at hx;rcases hx with z | z <;> cases z
  | some k =>
   have e:(zp X sc N s H fp (X.pn++Jw)).env.kindOf x=some _:=jZ (env:=X.env) q;rw [e] at hx;have hm:=mem_of_lookup q;cases k <;> first | exact .inl hm | exact .inr hm | (rcases hx with z | z <;> cases z)
 have cellAt:∀ x c,(cellsFrom (s.heap.objs.size+1) sc.names (yx X.env sc.names [])).lookup x=some c->∃ v,(pushCells (s.heap.push { cls:=.type "dict",data:=.dict #[] }) sc.names).IsCell c v:=fun x c e=>by
  rcases hcase e with⟨q,_⟩ | ⟨q,_⟩
  ·exact⟨none,qu _ _ _ x c (by rw [hsz];exact e) (by rw [hsz];exact q) fun p hp=>by rw [hsz];exact FP (hclt p hp)⟩
  ·obtain⟨v,o,ho,hd⟩:=I.cell x c q;exact⟨v,o,hk _ _ ho,hd⟩
 have lt_of_cell:∀ x c,X.env.cells.lookup x=some c->c<s.heap.objs.size:=fun x c e=>by
  obtain⟨v,o,ho,hd⟩:=I.cell x c e;exact Ea ho
 have lt_of_fp:∀ b∈fp,b<s.heap.objs.size:=fun b hb=>by
  obtain⟨o,e,_⟩:=ho b hb;exact Ea e
 have okX:(zp X sc N s H fp (X.pn++Jw)).Ok:=by
  refine⟨I.mod,S.kind,I.ok.glob,I.ok.blt,D8 _,fun x y c h1 h2=>name_of_addr apart (mem_of_lookup h1) (mem_of_lookup h2),fun x hx=>?_,fun x c hx hc=>?_,I.ok.hd,I.ok.frames,.inl rfl,fun b hb=>⟨EE (lt_of_fp b hb),fun x c e=>?_⟩,I.bs,Er I.ok.bsz I.sz,fun b o e hb=>?_,fun b hb z=>?_,I.stack,I.stkFree,I.env0.tabs⟩
  ·rcases hkd x hx with q | q
   ·exact dG (yA S.snd q)
   ·obtain⟨c,hc⟩:=hfree x q;exact vQ (by rw [bE hfree q hc];rfl)
  ·have hx':sc.names.lookup x=some .cell:=of_decide_eq_true hx;rcases hcase hc with⟨q,_⟩ | ⟨_,q⟩
   ·exact Hj q
   ·rw [yA S.snd q] at hx';cases hx'
  ·rcases hcase e with⟨q,_⟩ | ⟨q,_⟩
   ·exact F5 (Es (lt_of_fp b hb) (Hj q))
   ·exact (hf b hb).2.2.2.2.1 x c q
  ·rcases (hf b hb).2.2.2.1 with z | z
   ·exact I.ok.noex b o e z
   ·exact absurd (Ea e) (Nat.not_lt.mpr (Er I.ok.bsz z))
  ·rcases D5.mp (I.stkSub b z) with q | q
   ·exact (hf b hb).2.1 q
   ·exact (hf b hb).2.2.1 q
 refine⟨okX,rfl,I.bare,Un.kept hk,⟨fun _=>none,(Heap.Ns.new s.heap (.type "dict")).keeps (pushCells_keeps _ _),fun i x v h1 h2 h3=>?_⟩,cellAt,I.hok.fresh (D8 _),fun x c e=>?_,fun p hp=>?_,I.hok.kept hk,?_⟩
 ·obtain⟨m,_,hl⟩:=id I.loc;have h2':(jB own fr σ)[i]?=some (some v):=h2;have hio:own<=i:=by
   unfold jB at h2';refine Nat.le_of_not_lt fun hi=>?_;rw [Ec (by simpa using hi),Gz] at h2';split at h2' <;> cases h2'
  obtain⟨k,rfl⟩:=Nat.exists_eq_add_of_le hio;have h1':N[own+k]?=some x:=h1;unfold jB at h2';rw [Ee (by simp)] at h2';simp only [Ho,Nat.add_sub_cancel_left,D7] at h2';cases hj:fr[k]? with
  | none=>rw [hj] at h2';cases h2'
  | some j =>
   rw [hj] at h2';have h2'':(σ[j]?).getD none=some v:=Option.some.inj h2';have hp:(x,j)∈(N.drop own).zip fr:=by
    refine D9 (i:=k) ?_;rw [List.getElem?_zip_eq_some];exact⟨by rw [List.getElem?_drop];exact h1',hj⟩
   obtain⟨f1,f2⟩:=S.frn _ hp;have hσ:σ[j]?=some (some v):=by
    cases q:σ[j]? with
    | none=>rw [q] at h2'';cases h2''
    | some w=>rw [q] at h2'';exact congrArg some h2''
   have hxf:(x,NameKind.free)∈sc.names:=mem_of_lookup f2;have hko:=S.free _ hxf rfl;have hvis:Vis X.env.scope x:=by rw [hsc];exact .inr hko
   obtain⟨u,ru,q⟩:=hl j x v (by rw [hN];exact f1) hσ hvis;refine⟨u,ru,.inr ⟨?_,?_⟩⟩
   ·have e:(zp X sc N s H fp (X.pn++Jw)).env.kindOf x=some _:=jZ (env:=X.env) f2;rw [e];split
    ·exact .inl rfl
    ·exact .inr rfl
   ·rcases q with⟨k1,_⟩ | ⟨_,c,hc,z⟩
    ·have k1':X.env.scope.names.lookup x=some .local:=k1;rw [hsc] at k1';rcases hko with z | z <;> rw [z] at k1' <;> cases k1'
    ·obtain⟨o,ho,hd⟩:=z;refine⟨c,?_,o,hk _ _ ho,hd⟩;have hcl:=bE hfree hxf hc;obtain⟨c',hc'⟩:=vQ (names:=sc.names) (n:=s.heap.objs.size+1) (acc:=yx X.env sc.names []) (x:=x) (by rw [hcl];rfl);rcases hcase hc' with⟨_,z⟩ | ⟨z,_⟩
     ·have:=yA S.snd z;rw [f2] at this;cases this
     ·rw [hc] at z;cases z;exact hc'
 ·rcases hcase e with⟨q,_⟩ | ⟨q,_⟩
  ·exact I.hok.fresh (Hj q)
  ·exact I.freeC x c q
 ·have hp':p∈X.pn++Jw:=by simpa [zp] using hp
  obtain⟨e,n,ne,nf,d⟩:=I.pin p hp';refine⟨hk _ _ e,n,EE (Ea e),fun z=>?_,d⟩;rcases D5.mp (I.stkSub _ z) with q | q
  ·exact ne q
  ·exact nf q
 ·show (jB own fr σ).length=N.length;unfold jB;rw [S.len];simp
end
abbrev TB:=St->Hp->(St->Hp->Prop)->Prop
def PB (X:Cx) (act:Sem Unit) (t:TB):Prop :=
 ∀ (Jw:List (DY×Obj)) (s:Shared) (σ:St) (H:Hp) (Q:St->Hp->Prop),Inv X Jw σ H s->t σ H Q->Eo (model X.prog X.w) X.A act (fun _ s'=>∃ σ' H',Inv X Jw σ' H' s'/\Q σ' H') X.xe s
def PTs (X:Cx) (ifs:List Expr) (t:TT):Prop :=
 ∀ (Jw:List (DY×Obj)) (s:Shared) (σ:St) (H:Hp) (Q:Bool->Hp->Prop),Inv X Jw σ H s->t σ H Q ->
  Eo (model X.prog X.w) X.A (forIn ifs true fun c r=>if r=true then do let ok <- isTrue c X.env (eval c X.env);pure (ForInStep.yield ok) else pure (ForInStep.yield r)) (TP X Jw σ Q) X.xe s
def kJ:TT:=fun _ H Q=>Q true H
theorem yb {X:Cx}:PTs X [] kJ:=fun Jw s σ H Q I h=>wpAny_tests_nil ⟨H,I,h⟩
theorem qO {X:Cx} {c:Expr} {t:TT} (hc:PT X c t):PTs X [c] t:=fun Jw s σ H Q I h=>wpAny_tests_one (hc Jw s σ H Q I h)
def eB (J:It) (g:TG) (tt:TT) (tb:TB):TB:=fun σ H Q=>∃ W:Nat->Nat->St->Hp->Prop,(∃ m,W 0 m σ H)/\∀ i m σ H,W i m σ H ->
 (J.stop i H/\Q σ H) \/ (J.go i H/\∀ x H',J.yld i H x H'->g x σ H' fun σ2 H2=>tt σ2 H2 fun b H3=>if b=true then tb σ2 H3 fun σ' H'=>∃ m',m'<m/\W (i+1) m' σ' H' else ∃ m',m'<m/\W (i+1) m' σ2 H3)
section
variable {X:Cx} {Jw:List (DY×Obj)} {s:Shared} {σ:St} {H:Hp} {tg:Expr} {e:Expr} {d:Nat} {acc:Value} {ifs:List Expr} {g:TG} {tt:TT} {tb:TB} {act:Sem Unit} {pos:Pos}
theorem gY (hx:∀ e s,X.xe e s->False) (hc:X.calm=true) (hg:PG X tg g) (ht:PTs X ifs tt) (hb:PB X act tb)
  (heq:∀ it,compTurn e d it acc X.env=(do
   standAt pos
   match <- pyNext it with
   | none=>pure (.done .next)
   | some v =>
    FX tg it v
    assign tg X.env v
    let mut ok:=true
    for c in ifs do
     if ok then ok <- isTrue c X.env (eval c X.env)
    if ok then
     act
    again (.compLoop e d it acc X.env)))
  (hqt:∀ it,(Code.compLoop e d it acc X.env).quiet=true)
  (hden:∀ it,(model X.prog X.w).den (.compLoop e d it acc X.env)=(compTurn e d it acc X.env).onRaise (fun x=>do noteFrame x X.env;theTreesLotGoes x))
  (hund:∀ it,X.A.under (.compLoop e d it acc X.env)=X.A)
  {it:DY} {fp:List DY} {tn:Nat->Heap->Prop} {J:It} {Q:St->Hp->Prop} {R:Result->Shared->Prop} (I:Inv X Jw σ H s) (T:Turn X.prog X.w X.K tg J fp it tn) (st:tn 0 s.heap) (f:∀ b∈fp,ah X Jw H b)
  (h:eB J g tt tb σ H Q) (hR:∀ σ' H' s',Inv X Jw σ' H' s'->(∀ b∈fp,H' b=none)->Q σ' H'->R (.ok .next) s'):codeAny (model X.prog X.w) X.A (.compLoop e d (.ref it) acc X.env) R s:=by
 obtain⟨W,⟨m0,w0⟩,turn⟩:=h;have stat:∀ {H':Hp},(∀ b∈fp,H' b=none)->∀ b∈fp,ah X Jw H' b:=fun hn b hb=>⟨hn b hb,(f b hb).2⟩;refine codeAny_loop (hqt _) (fun n s'=>∃ i σ' H',Inv X Jw σ' H' s'/\tn i s'.heap/\(∀ b∈fp,H' b=none)/\W i n σ' H') ?_ m0 ⟨0,σ,H,I,st,fun b hb=>(f b hb).1,w0⟩;rintro n s3 ⟨i,σ3,H3,I3,st3,fr3,w3⟩;rw [hden,hund];refine wpAny_noted ?_;rw [heq];have nox:∀ e' s',X.xe e' s'->notedBy (model X.prog X.w) X.A X.env (fun e s'=>R (.error e) s') e' s':=fun e' s' z=>(hx e' s' z).elim;refine DR (wpAny_standAt (DR ?_));rcases turn i n σ3 H3 w3 with⟨stop,qn⟩ | ⟨go,step⟩
 ·refine FW (T.done X rfl rfl rfl hc i Jw s3 σ3 H3 X.xe I3 (stat fr3) st3 stop) (fun r s4 hr4=>?_) nox;obtain⟨hr,I4⟩:=hr4;subst hr;exact D3 (hR σ3 H3 s4 I4 fr3 qn)
 ·refine FW (T.item X rfl rfl rfl hc i Jw s3 σ3 H3 X.xe I3 (stat fr3) st3 go) (fun r s4 hr4=>?_) nox;obtain⟨u,hr,h4⟩:=hr4;subst hr;refine DR (FW h4 (fun _ s5 h5=>?_) nox);obtain⟨x,H5,I5,r5,y5,st5,fr5⟩:=h5;have I5':=I5.pinned (stat fr5) (T.obj _ _ st5);refine DR (FW (hg _ s5 σ3 H5 x u _ I5' r5 (step x H5 y5)) (fun _ s6 h6=>?_) nox);obtain⟨σ6,H6,I6,q6⟩:=h6;refine DR (FW (ht _ s6 σ6 H6 _ I6 q6) (fun ok s7 h7=>?_) nox);obtain⟨H7,I7,q7⟩:=h7;have again:∀ {σ7:St} {H7:Hp} {s7:Shared},Inv X (Jw++cD fp s5.heap) σ7 H7 s7->(∃ m',m'<n/\W (i+1) m' σ7 H7)->∃ m,m<n/\∃ i σ' H',Inv X Jw σ' H' s7/\tn i s7.heap/\(∀ b∈fp,H' b=none)/\W i m σ' H':=fun {σ7 H7 s7} I7 n7=>by
   obtain⟨m',hm,w7⟩:=n7;refine⟨m',hm,i+1,σ7,H7,I7.unpinned,T.keep _ _ _ st5 fun b hb o e=>(I7.pin (b,o) (Ed _ (Ed _ (qL hb e)))).1,fun b hb=>?_,w7⟩;obtain⟨o,e,d⟩:=T.obj _ _ st5 b hb;exact (I7.pin (b,o) (Ed _ (Ed _ (qL hb e)))).2.1
  cases ok with
  | false =>
   rw [Jx DX] at q7;exact D3 ⟨rfl,again I7 q7⟩
  | true =>
   rw [Jy rfl] at q7;refine DR (FW (hb _ s7 σ6 H7 _ I7 q7) (fun _ s8 h8=>?_) nox);obtain⟨σ8,H8,I8,q8⟩:=h8;exact D3 ⟨rfl,again I8 q8⟩
theorem fq {D:DY} {elt:Expr} {te:TE} (he:PE X elt te):PB X (do let _ <- call (.builtin "list.append") [.ref D,<- eval elt X.env]) (fun σ H Q=>te σ H fun y H1=>∃ xs,H1 D=some (.lst xs)/\xs.length<EJ/\Q σ (upd H1 D (.lst (xs++[y])))):=by
 intro Jw s σ H Q I h;refine DR (thn (he Jw s σ H _ I h) fun v s1 h1=>?_);obtain⟨y,H1,I1,r1,xs,hD,hz,q⟩:=h1;obtain⟨z,its,n,r,hl,e⟩:=I1.lstM hD;refine DR ?_;refine call_meets F.slot_list_append ⟨_,e,rfl⟩ IT (IJ _ _) (PySem.list_append D its.toArray n v (by rw [Em];omega)) ⟨e,?_⟩;refine D3 ⟨σ,_,I1.lset (its':=its++[v]) hD e (by simp) (r.append (.cons r1 .nil)) ?_,q⟩;rw [Eh,EX];omega
theorem gZ {M:Model} {A:Around} {E:Value->Shared->Prop} {sc:Scope} {gl:DY} {cl:List (Str×DY)} {qual:Str} {env:Env} {Q:Env->Shared->Prop} {s:Shared}
  (h:Q { scope:=sc,locals:=s.heap.objs.size,globals:=gl,cells:=cellsFrom (s.heap.objs.size+1) sc.names cl,qual:=qual,func:=none,code:=env.code,frame:=env.frame,builtins:=env.builtins } { s with heap:=pushCells (s.heap.push { cls:=.type "dict",data:=.dict #[] }) sc.names }) :
  Eo M A (newFunctionEnv sc gl cl [] qual none .none (some env)) Q E s:=by
 simp only [newFunctionEnv,Option.isSome_some,if_true];refine DR (wpAny_alloc ?_);refine DR (wpAny_layCells _ (fun name kind cells=>by cases hkc:kind == NameKind.cell <;> simp [hkc]) _ _ _ _ ?_);rw [show ({ s with heap:=s.heap.push { cls:=.type "dict",data:=.dict #[] } }:Shared).heap.objs.size=s.heap.objs.size+1 from FN ..];refine DR ?_;rw [Gg];exact D3 (D3 h)
theorem comp_back {sc:Scope} {N:List Str} {fp:List DY} {σ':St} {H':Hp} {s':Shared} {h':Heap} (I:Inv X Jw σ H s) (hf:∀ b∈fp,ah X Jw H b) (J:Inv (zp X sc N s H fp (X.pn++Jw)) [] σ' H' s') (hs:F4 s.heap.objs.size s'.heap h') :
  Inv X Jw σ H' { s' with heap:=h' }:=by
 have u:Un (frs X.stack) fp H H' s.heap s'.heap:=J.base;have ne:∀ b o,s.heap.get? b=some o->b≠s.heap.objs.size:=fun b o e=>EE (Ea e);have hfree:H' s.heap.objs.size=none:=J.free;refine I.call' (s':={ s' with heap:=h' }) (ch:=fp) J.os ⟨fun b o e n h1 h2=>(hs.2 b (ne b o e)).trans (u.keep b o e n h1 h2),fun b o e n h1 h2=>?_,u.free,fun b o e h2=>?_,u.tups,u.frzs,u.tbls⟩ (fun a o e=>?_) J.bare fun b hb=>?_
 ·obtain⟨sl,q⟩:=u.slot b o e n h1 h2;exact⟨sl,(hs.2 b (ne b o e)).trans q⟩
 ·obtain⟨o',q⟩:=u.there b o e h2;exact⟨o',(hs.2 b (ne b o e)).trans q⟩
 ·refine (J.hok a o e).stay (fun c v hc q=>(hs.2 c ?_).trans q) (fun _ q=>q) fun _ _ q=>q;intro z;subst z;rcases hc with hc | hc
  ·rw [<-hc] at e;rw [hfree] at e;cases e
  ·rw [hfree] at hc;cases hc
 ·exact⟨(hf b hb).2.2.2.1,(hf b hb).2.1,(hf b hb).2.2.2.2⟩
end
def qC (D:DY) (te:TE):TB:=fun σ H Q=>te σ H fun y H1=>∃ xs,H1 D=some (.lst xs)/\xs.length<EJ/\Q σ (upd H1 D (.lst (xs++[y])))
def qD (wi:TI) (own:Nat) (fr:List Nat) (g:TG) (tt:TT) (tb:DY->TB):TE:=fun σ H Q=>wi σ H fun J H1=>∀ D,H1 D=none ->
 eB J g tt (tb D) (jB own fr σ) (upd H1 D (.lst [])) fun _ H2=>Q (.ref D) H2
section
variable {X:Cx} {Jw:List (DY×Obj)} {s:Shared} {σ:St} {H:Hp} {tg elt iter:Expr} {ifs:List Expr} {rest:List Comprehension} {sc scO:Scope} {NO N:List Str} {own:Nat} {fr:List Nat} {wi:TI} {g:TG} {tt:TT} {tb:DY->TB} {pos:Pos}
theorem g8 {RR:Value->DY->Result->Shared->Prop} {it:DY} {fp:List DY} {tn:Nat->Heap->Prop} {J:It} {Q:VK} (S:CompScope NO scO N sc own fr) (hN:X.N=NO) (hsc:X.env.scope=scO) (hc:X.calm=true)
  (hg:∀ s₀ H₀ ex pn,PG (zp X sc N s₀ H₀ ex pn) tg g) (ht:∀ s₀ H₀ ex pn,PTs (zp X sc N s₀ H₀ ex pn) ifs tt)
  (hb:∀ D s₀ H₀ ex pn,∃ act,PB (zp X sc N s₀ H₀ ex pn) act (tb D)/\∀ it,compTurn (.ListComp elt (⟨tg,iter,ifs,0⟩ :: rest) sc pos) 0 it (.ref D) (zp X sc N s₀ H₀ ex pn).env=(do
   standAt iter.pos
   match <- pyNext it with
   | none=>pure (.done .next)
   | some v =>
    FX tg it v
    assign tg (zp X sc N s₀ H₀ ex pn).env v
    let mut ok:=true
    for c in ifs do
     if ok then ok <- isTrue c (zp X sc N s₀ H₀ ex pn).env (eval c (zp X sc N s₀ H₀ ex pn).env)
    if ok then
     act
    again (.compLoop (.ListComp elt (⟨tg,iter,ifs,0⟩ :: rest) sc pos) 0 it (.ref D) (zp X sc N s₀ H₀ ex pn).env)))
  (I:Inv X Jw σ H s) (T:Turn X.prog X.w X.K tg J fp it tn) (st:tn 0 s.heap) (f:∀ b∈fp,ah X Jw H b)
  (h:∀ D,H D=none->eB J g tt (tb D) (jB own fr σ) (upd H D (.lst [])) fun _ H2=>Q (.ref D) H2)
  (hRR:∀ (D C:DY) (s':Shared) (H':Hp),(∃ m,s'.heap.Ns C m)->C≠X.env.locals->(∀ x c,X.env.cells.lookup x=some c->c≠C)->H' C=none->X.s₀.heap.objs.size<=C->(∀ p∈X.pn++Jw,p.1≠C)->Inv X Jw σ H' s'->Q (.ref D) H'->RR (.ref D) C (.ok .next) s') :
  Eo (model X.prog X.w) X.A (newList []) (fun acc s₃=>Eo (model X.prog X.w) X.A (newFunctionEnv sc X.env.globals (yx X.env sc.names []) [] X.env.qual none .none (some X.env)) (fun cenv s₄ =>
   codeAny (model X.prog X.w) X.A (.compStart (.ListComp elt (⟨tg,iter,ifs,0⟩ :: rest) sc pos) 0 (.ref it) acc { cenv with scope:=relabel sc X.env }) (RR acc cenv.locals) s₄) X.xe s₃) X.xe s:=by
 refine wpAny_newObj_type (gZ ?_);have fpsz:∀ b∈fp,b<s.heap.objs.size:=fun b hb=>by
  obtain⟨o,e,_⟩:=T.obj _ _ st b hb;exact Ea e
 have I3:=I.lnew (its:=[]) (ys:=[]) (t':=s.toks) .nil (EI _);have f3:∀ b∈fp,ah X Jw (upd H s.heap.objs.size (.lst [])) b:=fun b hb=>⟨by rw [zu (EE (fpsz b hb))];exact (f b hb).1,(f b hb).2⟩;have st3:tn 0 (s.heap.push { cls:=.type "list",data:=.seq ([]:List Value).toArray }):=T.keep _ _ _ st fun b _ o e=>D6 _ e;have I4:=rK (tk:=s.toks) S hN hsc I3 f3 (T.obj _ _ st3);obtain⟨act,pb,heq⟩:=hb s.heap.objs.size _ _ _ _;have st4:=T.keep _ _ (pushCells ((s.heap.push { cls:=.type "list",data:=.seq ([]:List Value).toArray }).push { cls:=.type "dict",data:=.dict #[] }) sc.names) st3 fun b _ o e=>pushCells_keeps _ _ _ _ (D6 _ e);have cells_lt:∀ x c,X.env.cells.lookup x=some c->c<s.heap.objs.size:=fun x c e=>by
  obtain⟨v,o,ho,hd⟩:=I.cell x c e;exact Ea ho
 have esz:(s.heap.push { cls:=.type "list",data:=.seq ([]:List Value).toArray }).objs.size=s.heap.objs.size+1:=FN ..;have loop:=gY (X:=zp X sc N { s with heap:=s.heap.push { cls:=.type "list",data:=.seq ([]:List Value).toArray } } (upd H s.heap.objs.size (.lst [])) fp (X.pn++Jw)) (R:=RR (.ref s.heap.objs.size) (s.heap.push { cls:=.type "list",data:=.seq ([]:List Value).toArray }).objs.size) (fun _ _ z=>z) hc (hg _ _ _ _) (ht _ _ _ _) pb heq (fun _=>rfl) (fun _=>rfl) (fun _=>rfl) I4 T st4
  (fun b hb=>⟨(f3 b hb).1,I4.ok.exf b hb |>.1,I4.ok.exfs b hb,.inl hb,I4.ok.exf b hb |>.2,fun p hp=>by
   have hp':p∈X.pn++Jw:=by simpa [zp] using hp
   exact (f b hb).2.2.2.2.2 p hp'⟩) (h _ I.fresh)
  (fun σ' H' s' J' fr' q'=>hRR _ _ s' H' (let⟨m,hm,_⟩:=J'.loc;⟨m,hm⟩) (by rw [esz];exact F5 (FP I.lt)) (fun x c e=>by rw [esz];exact EE (FP (cells_lt x c e))) J'.free (by rw [esz];exact Nat.le_succ_of_le I.sz) (fun p hp=>by rw [esz];exact EE (FP (Ea (I.pin p hp).1))) (comp_back (h':=s'.heap) I3 f3 J' (Heap.SameBut.refl ..)) q')
 exact codeAny_compStart_list loop (T.self X.A 0 _ _ _ st4 loop)
theorem Inv.touch {C:DY} {h':Heap} (I:Inv X Jw σ H s) (hs:F4 C s.heap h') (hn:H C=none) (h0:C≠X.env.locals) (h1:∀ x c,X.env.cells.lookup x=some c->c≠C) (h2:X.s₀.heap.objs.size<=C) (h3:∀ p∈X.pn++Jw,p.1≠C) :
  Inv X Jw σ H { s with heap:=h' } :=
 I.turned (t':=s.toks) (fun b o hb e=>(hs.2 b hb).trans e) hn h0 (.inr h2) h1 h3
theorem dH {prog:Program} {w:World} {A:Around} {R:Result->Shared->Prop} {s:Shared} {elt':Expr} {g0:Comprehension} {tg' it':Expr} {ifs':List Expr} {sc':Scope} {pos':Pos} {itv acc:Value} {env:Env}
  (here:codeAny (model prog w) A (.compLoop (.ListComp elt' [g0,⟨tg',it',ifs',0⟩] sc' pos') 1 itv acc env) R s)
  (once:Eo (model prog w) A (pyIter itv) (fun j s1=>codeAny (model prog w) A (.compLoop (.ListComp elt' [g0,⟨tg',it',ifs',0⟩] sc' pos') 1 j acc env) R s1) (notedBy (model prog w) A env fun x s1=>R (.error x) s1) s) :
  codeAny (model prog w) A (.compStart (.ListComp elt' [g0,⟨tg',it',ifs',0⟩] sc' pos') 1 itv acc env) R s:=by
 apply codeAny_of_tree;show Eo _ _ ((compStart (.ListComp elt' [g0,⟨tg',it',ifs',0⟩] sc' pos') 1 itv acc env).onRaise (fun z=>do noteFrame z env;standAt theWindowsPlace)) _ _ s;apply wpAny_notedAt;unfold compStart;show Eo _ _ (ask >>= _) _ _ s;apply DR;apply wpAny_askSetting;apply wpAny_ite;split
 ·first
   | exact DR (D3 (D3 (And.intro rfl here)))
   | exact D3 (And.intro rfl here)
 ·apply DR;apply IA;show Eo _ _ (standAt it'.pos >>= _) _ _ s;exact DR (wpAny_standAt (DR (FW once (fun j s1 q=>D3 (And.intro rfl q)) fun _ _ z=>z)))
section
variable {elt2:Expr} {te:TE} {tg2 iter2:Expr} {ifs2:List Expr} {wi2:TI} {g2:TG} {tt2:TT} {tb2:TB} {y:Str} {i:Nat} {py spos:Pos}
def tIn (wi2:TI) (g2:TG) (tt2:TT) (tb2:TB):TB:=fun σ H Q=>wi2 σ H fun J H1=>eB J g2 tt2 tb2 σ H1 Q
theorem Cq {D:DY} (hx:∀ e s,X.xe e s->False) (hc:X.calm=true) (hi:PI X tg2 iter2 wi2) (hg:PG X tg2 g2) (ht:PTs X ifs2 tt2) (he:PE X elt te)
  (hs:∀ x,Fc iter2 X.env x=pure x) :
  PB X (do
   let x <- eval iter2 X.env
   standAt iter2.pos
   let x <- Fc iter2 X.env x
   let _ <- runOwn (.compStart (.ListComp elt [⟨tg,iter,ifs,0⟩,⟨tg2,iter2,ifs2,0⟩] sc pos) 1 (<- holding [x] (pyIter x)) (.ref D) X.env) X.env) (tIn wi2 g2 tt2 (qC D te)):=by
 intro Jw s σ H Q I h;refine DR (thn (hi Jw s σ H _ I h) fun v s1 h1=>?_);refine DR (wpAny_standAt ?_);refine DR (wpAny_of_eq (hs v) ?_);refine DR (EM (thn h1 fun itv s2 h2=>?_));obtain⟨it,fp,tn,J,H2,e,I2,T,st2,f2,q⟩:=h2;subst e;refine DR (wpAny_runOwn ?_);have loop:=gY (e:=.ListComp elt [⟨tg,iter,ifs,0⟩,⟨tg2,iter2,ifs2,0⟩] sc pos) (d:=1) (pos:=iter2.pos)
  (R:=fun r s'=>match r with | .ok f=>Eo (model X.prog X.w) X.A (pure ()) (fun _ s'=>∃ σ' H',Inv X Jw σ' H' s'/\Q σ' H') X.xe s' | .error e=>cameBackBy (model X.prog X.w) X.A X.env X.xe e s')
  hx hc hg ht (fq (D:=D) he) (fun _=>rfl) (fun _=>rfl) (fun _=>rfl) (fun _=>rfl) I2 T st2 f2 q (fun σ' H' s' J' _ q'=>D3 ⟨σ',H',J',q'⟩)
 exact dH loop (T.self X.A 0 _ _ _ st2 loop)
theorem lZ (S:CompScope NO scO N sc own fr) (hsc:X.env.scope=scO) (ok:X.Ok):closureFor sc X.env=pure (yx X.env sc.names []) :=
 kI fun x hx=>ok.has x (by
  show X.env.scope.names.lookup x=_ \/ X.env.scope.names.lookup x=_;rw [hsc];exact S.free _ hx rfl)
theorem l0 (S:CompScope NO scO N sc own fr) (hc:X.calm=true) (hi:PI X tg iter wi) (hg:∀ s₀ H₀ ex pn,PG (zp X sc N s₀ H₀ ex pn) tg g) (ht:∀ s₀ H₀ ex pn,PTs (zp X sc N s₀ H₀ ex pn) ifs tt)
  (hb:∀ D s₀ H₀ ex pn,∃ act,PB (zp X sc N s₀ H₀ ex pn) act (tb D)/\∀ it,compTurn (.ListComp elt (⟨tg,iter,ifs,0⟩ :: rest) sc pos) 0 it (.ref D) (zp X sc N s₀ H₀ ex pn).env=(do
   standAt iter.pos
   match <- pyNext it with
   | none=>pure (.done .next)
   | some v =>
    FX tg it v
    assign tg (zp X sc N s₀ H₀ ex pn).env v
    let mut ok:=true
    for c in ifs do
     if ok then ok <- isTrue c (zp X sc N s₀ H₀ ex pn).env (eval c (zp X sc N s₀ H₀ ex pn).env)
    if ok then
     act
    again (.compLoop (.ListComp elt (⟨tg,iter,ifs,0⟩ :: rest) sc pos) 0 it (.ref D) (zp X sc N s₀ H₀ ex pn).env)))
  (hN:X.N=NO) (hsc:X.env.scope=scO) (hs:∀ x,Fc iter X.env x=pure x) :
  PE X (.ListComp elt (⟨tg,iter,ifs,0⟩ :: rest) sc pos) (qD wi own fr g tt tb):=by
 intro Jw s σ H Q I h;rw [eval_ListComp];refine wpAny_comprehension_free (use:=none) rfl hs (lZ S hsc I.ok) S.kind (fun p hp hl=>yA S.snd (k:=.local) (by rw [<-hl];exact hp)) (thn (hi Jw s σ H _ I h) fun v s1 h1=>thn h1 fun itv s2 h2=>?_);obtain⟨it,fp,tn,J,H2,e,I2,T,st2,f2,q⟩:=h2;subst e;refine g8 (RR:=fun acc C=>compPost (model X.prog X.w) X.A X.xe none (EP X Jw σ Q) acc C) S hN hsc hc hg ht hb I2 T st2 f2 q ?_;rintro D C s' H' ⟨m,hm⟩ c0 c1 c2 c3 c4 J' q';exact⟨m,hm,fun h' hs'=>⟨.ref D,H',J'.touch hs' c2 c0 c1 c3 c4,rfl,q'⟩⟩
theorem kK (S:CompScope NO scO N sc own fr) (hc:X.calm=true) (hNd:X.N.Nodup) (hiN:X.N[i]?=some y) (hy:Loc X.env.scope y) (hi:PI X tg iter wi) (hg:∀ s₀ H₀ ex pn,PG (zp X sc N s₀ H₀ ex pn) tg g) (ht:∀ s₀ H₀ ex pn,PTs (zp X sc N s₀ H₀ ex pn) ifs tt)
  (hb:∀ D s₀ H₀ ex pn,∃ act,PB (zp X sc N s₀ H₀ ex pn) act (tb D)/\∀ it,compTurn (.ListComp elt (⟨tg,iter,ifs,0⟩ :: rest) sc pos) 0 it (.ref D) (zp X sc N s₀ H₀ ex pn).env=(do
   standAt iter.pos
   match <- pyNext it with
   | none=>pure (.done .next)
   | some v =>
    FX tg it v
    assign tg (zp X sc N s₀ H₀ ex pn).env v
    let mut ok:=true
    for c in ifs do
     if ok then ok <- isTrue c (zp X sc N s₀ H₀ ex pn).env (eval c (zp X sc N s₀ H₀ ex pn).env)
    if ok then
     act
    again (.compLoop (.ListComp elt (⟨tg,iter,ifs,0⟩ :: rest) sc pos) 0 it (.ref D) (zp X sc N s₀ H₀ ex pn).env)))
  (hN:X.N=NO) (hsc:X.env.scope=scO) (hs:∀ x,Fc iter X.env x=pure x) (hf:X.fn y=true \/ X.env.scope.names.lookup y=some .local)
  (hsw:swapsWith (.ListComp elt (⟨tg,iter,ifs,0⟩ :: rest) sc pos) (some (.Name y py)) spos.line X.env=pure true) :
  PS X (.Assign [.Name y py] (.ListComp elt (⟨tg,iter,ifs,0⟩ :: rest) sc pos) spos) (qe (qD wi own fr g tt tb) (yS i)):=by
 intro Jw s σ H D I h;rw [exec_Assign_Name_used _ _ _ _ hsw];refine DR (wpAny_standAt (DR ?_));show Eo _ X.A (do let _ <- comprehension (.ListComp elt (⟨tg,iter,ifs,0⟩ :: rest) sc pos) sc X.env _ (newList []) false (eval iter X.env) (some (assign (.Name y py) X.env))) _ _ s;refine DR (FW (wpAny_comprehension_free (use:=some (assign (.Name y py) X.env)) (Q:=fun _ s'=>SP X Jw D .next s') rfl hs (lZ S hsc I.ok) S.kind (fun p hp hl=>yA S.snd (k:=.local) (by rw [<-hl];exact hp))
  (thn (hi Jw s σ H _ I h) fun v s1 h1=>thn h1 fun itv s2 h2=>?_)) (fun _ s' hq=>D3 (D3 hq)) fun _ _ e=>e)
 obtain⟨it,fp,tn,J,H2,e,I2,T,st2,f2,q⟩:=h2;subst e;refine g8 (Q:=fun x H1=>yS i x σ H1 D.nx) (RR:=fun acc C=>compPost (model X.prog X.w) X.A X.xe (some (assign (.Name y py) X.env)) (fun _ s'=>SP X Jw D .next s') acc C) S hN hsc hc hg ht hb I2 T st2 f2 q ?_;rintro A' C s' H' ⟨m,hm⟩ c0 c1 c2 c3 c4 J' q';show Eo _ X.A (assign (.Name y py) X.env (.ref A')) _ _ _;refine wpAny_assign_Name (dU (v:=.ref A') J' hNd hiN hy rfl (fun s2' I2' hsb=>?_) hf);obtain⟨a,hs2,ha⟩:=hsb;have hCa:C≠a:=by
  rcases ha with ha | ha
  ·rw [ha];exact c0
  ·exact Gv (c1 _ _ ha)
 exact⟨m,hm.sameBut hs2 hCa,fun h' hs'=>⟨_,H',I2'.touch hs' c2 c0 c1 c3 c4,q'⟩⟩
end
end
section
variable {X:Cx} {tg elt iter tg2 iter2:Expr} {ifs ifs2:List Expr} {sc scO:Scope} {NO N:List Str} {own:Nat} {fr:List Nat} {wi wi2:TI} {g g2:TG} {tt tt2:TT} {te:TE} {pos py spos:Pos} {y:Str} {i:Nat}
theorem zY (S:CompScope NO scO N sc own fr) (hc:X.calm=true) (hi:PI X tg iter wi) (hg:∀ s₀ H₀ ex pn,PG (zp X sc N s₀ H₀ ex pn) tg g) (ht:∀ s₀ H₀ ex pn,PTs (zp X sc N s₀ H₀ ex pn) ifs tt) (he:∀ s₀ H₀ ex pn,PE (zp X sc N s₀ H₀ ex pn) elt te)
  (hN:X.N=NO) (hsc:X.env.scope=scO) (hs:∀ x,Fc iter X.env x=pure x):PE X (.ListComp elt [⟨tg,iter,ifs,0⟩] sc pos) (qD wi own fr g tt fun D=>qC D te) :=
 l0 S hc hi hg ht (fun D s₀ H₀ ex pn=>⟨_,fq (D:=D) (he s₀ H₀ ex pn),fun _=>rfl⟩) hN hsc hs
theorem jh (S:CompScope NO scO N sc own fr) (hc:X.calm=true) (hNd:X.N.Nodup) (hiN:X.N[i]?=some y) (hy:Loc X.env.scope y) (hi:PI X tg iter wi) (hg:∀ s₀ H₀ ex pn,PG (zp X sc N s₀ H₀ ex pn) tg g) (ht:∀ s₀ H₀ ex pn,PTs (zp X sc N s₀ H₀ ex pn) ifs tt) (he:∀ s₀ H₀ ex pn,PE (zp X sc N s₀ H₀ ex pn) elt te)
  (hN:X.N=NO) (hsc:X.env.scope=scO) (hs:∀ x,Fc iter X.env x=pure x) (hf:X.fn y=true \/ X.env.scope.names.lookup y=some .local)
  (hsw:swapsWith (.ListComp elt [⟨tg,iter,ifs,0⟩] sc pos) (some (.Name y py)) spos.line X.env=pure true) :
  PS X (.Assign [.Name y py] (.ListComp elt [⟨tg,iter,ifs,0⟩] sc pos) spos) (qe (qD wi own fr g tt fun D=>qC D te) (yS i)) :=
 kK S hc hNd hiN hy hi hg ht (fun D s₀ H₀ ex pn=>⟨_,fq (D:=D) (he s₀ H₀ ex pn),fun _=>rfl⟩) hN hsc hs hf hsw
end
theorem rL {elt tg iter tg2 iter2:Expr} {ifs ifs2:List Expr} {sc:Scope} {pos:Pos} {it acc:Value} {env:Env} :
  compTurn (.ListComp elt [⟨tg,iter,ifs,0⟩,⟨tg2,iter2,ifs2,0⟩] sc pos) 0 it acc env=(do
   standAt iter.pos
   match <- pyNext it with
   | none=>pure (.done .next)
   | some v =>
    FX tg it v
    assign tg env v
    let mut ok:=true
    for c in ifs do
     if ok then ok <- isTrue c env (eval c env)
    if ok then
     (do
      let x <- eval iter2 env
      standAt iter2.pos
      let x <- Fc iter2 env x
      let _ <- runOwn (.compStart (.ListComp elt [⟨tg,iter,ifs,0⟩,⟨tg2,iter2,ifs2,0⟩] sc pos) 1 (<- holding [x] (pyIter x)) acc env) env)
    again (.compLoop (.ListComp elt [⟨tg,iter,ifs,0⟩,⟨tg2,iter2,ifs2,0⟩] sc pos) 0 it acc env)):=by
 unfold compTurn;simp only [bind_assoc,pure_bind];rfl
section
variable {X:Cx} {tg elt iter tg2 iter2:Expr} {ifs ifs2:List Expr} {sc scO:Scope} {NO N:List Str} {own:Nat} {fr:List Nat} {wi wi2:TI} {g g2:TG} {tt tt2:TT} {te:TE} {pos py spos:Pos} {y:Str} {i:Nat}
theorem hC (S:CompScope NO scO N sc own fr) (hc:X.calm=true) (hi:PI X tg iter wi) (hg:∀ s₀ H₀ ex pn,PG (zp X sc N s₀ H₀ ex pn) tg g) (ht:∀ s₀ H₀ ex pn,PTs (zp X sc N s₀ H₀ ex pn) ifs tt)
  (hi2:∀ s₀ H₀ ex pn,PI (zp X sc N s₀ H₀ ex pn) tg2 iter2 wi2) (hg2:∀ s₀ H₀ ex pn,PG (zp X sc N s₀ H₀ ex pn) tg2 g2) (ht2:∀ s₀ H₀ ex pn,PTs (zp X sc N s₀ H₀ ex pn) ifs2 tt2)
  (he:∀ s₀ H₀ ex pn,PE (zp X sc N s₀ H₀ ex pn) elt te) (hN:X.N=NO) (hsc:X.env.scope=scO) (hs:∀ x,Fc iter X.env x=pure x) (hs2:∀ s₀ H₀ ex pn x,Fc iter2 (zp X sc N s₀ H₀ ex pn).env x=pure x) :
  PE X (.ListComp elt [⟨tg,iter,ifs,0⟩,⟨tg2,iter2,ifs2,0⟩] sc pos) (qD wi own fr g tt fun D=>tIn wi2 g2 tt2 (qC D te)) :=
 l0 S hc hi hg ht (fun D s₀ H₀ ex pn=>⟨_,Cq (D:=D) (fun _ _ z=>z) hc (hi2 s₀ H₀ ex pn) (hg2 s₀ H₀ ex pn) (ht2 s₀ H₀ ex pn) (he s₀ H₀ ex pn) (hs2 s₀ H₀ ex pn),fun it=>rL⟩) hN hsc hs
end
section
variable {X:Cx} {Jw:List (DY×Obj)} {σ:St} {H:Hp} {s:Shared} {h':Heap} {fp:List DY}
theorem Inv.turnedAll {t':Nat} (I:Inv X Jw σ H s) (hf:∀ b∈fp,ah X Jw H b) (k:∀ b o,b∉fp->s.heap.get? b=some o->h'.get? b=some o):Inv X Jw σ H { s with heap:=h',toks:=t' }:=by
 refine I.step (g':=s.gens) (d':=s.drawn) (ch:=fp) (fun b hb=>⟨(hf b hb).2.2.2.1,(hf b hb).2.1,(hf b hb).2.2.2.2⟩) (fun b o _ _ hc e _=>k b o hc e) (fun b o _ _ hc e _=>⟨o.slots,k b o hc e⟩) (fun _ _ _ _ n=>n)
  (fun b o hc e=>⟨o,k b o hc e⟩) (fun _ _ e=>e) (fun _ _ _ e=>e) (fun _ _ e=>e) (fun m hm=>?_) (fun b u e=>?_) I.bare
 ·obtain⟨o,es,ep,ho,r⟩:=hm;exact⟨o,es,ep,k _ o (fun z=>(hf _ z).2.1 rfl) ho,r⟩
 ·refine (I.hok b u e).stay (fun c v hc q=>k c v (fun z=>?_) q) (fun _ q=>q) fun _ _ q=>q;have hn:=(hf c z).1;rcases hc with hc | hc
  ·subst hc;rw [e] at hn;cases hn
  ·rw [hc] at hn;cases hn
theorem Inv.turnedNew {t':Nat} {t:DY} {o:HO} (I:Inv X Jw σ H s) (hf:∀ b∈fp,ah X Jw H b) (k:∀ b o,b∉fp->s.heap.get? b=some o->h'.get? b=some o) (ht:s.heap.objs.size<=t) (new:ObjOk X.prog X.w (upd H t o) h' t o) :
  Inv X Jw σ (upd H t o) { s with heap:=h',toks:=t' }:=by
 have hn:H t=none:=I.hok.fresh ht;have ne:∀ b ob,s.heap.get? b=some ob->b≠t:=fun b ob e=>EE (Es (Ea e) ht);refine I.step (g':=s.gens) (d':=s.drawn) (ch:=fp) (fun b hb=>⟨(hf b hb).2.2.2.1,(hf b hb).2.1,(hf b hb).2.2.2.2⟩) (fun b o _ _ hc e _=>k b o hc e) (fun b o _ _ hc e _=>⟨o.slots,k b o hc e⟩) (fun b ob _ e n=>by rw [zu (ne b ob e)];exact n)
  (fun b o hc e=>⟨o,k b o hc e⟩) (fun b xs e=>by rw [zu (zM e hn)];exact e) (fun b ob u e=>by rw [zu (zM e hn)];exact e) (fun b ps e=>by rw [zu (zM e hn)];exact e) (fun m hm=>?_) (fun b u e=>?_) I.bare
 ·obtain⟨o,es,ep,ho,r⟩:=hm;exact⟨o,es,ep,k _ o (fun z=>(hf _ z).2.1 rfl) ho,r⟩
 ·by_cases hb:b=t
  ·subst hb;rw [zy] at e;cases e;exact new
  ·rw [zu hb] at e;refine (I.hok b u e).stay (fun c v hc q=>k c v (fun z=>?_) q) (fun c q=>by rw [zu (zM q hn)];exact q) fun c xs q=>by rw [zu (zM q hn)];exact q
   have hn':=(hf c z).1;rcases hc with hc | hc
   ·subst hc;rw [e] at hn';cases hn'
   ·rw [hc] at hn';cases hn'
end
noncomputable def Ite (K:DT) (a:DY):It :=
 ⟨fun i H=>∃ xs x,SqL K H a xs/\xs[i]?=some x,fun i H x H'=>∃ t y,x=.ref t/\H t=none/\H'=upd H t (.tup [.int i,y])/\∀ xs,SqL K H a xs->xs[i]?=some y,fun i H=>∃ xs,SqL K H a xs/\xs.length<=i⟩
theorem n9 {P:Program} {w:World} {K:DT} {es:List Expr} {k:Nat} {pos:Pos} (a e it:DY) (hne:e≠it):Turn P w K (.Tuple es k pos) (Ite K a) [e,it] e (fun i h=>(∃ old,IsEnum h e it i old)/\h.IsListIter it a i) where
 mem:=by simp
 obj:=fun i h st b hb=>by
  obtain⟨⟨old,se⟩,o,eo,c,d⟩:=st;rcases D5.mp hb with z | z
  ·subst z;exact⟨_,se,fun v z=>by
    have z':Data.fields _=Data.cell v:=z;cases z'⟩
  ·have z:b=it:=by simpa using z
   subst z;exact⟨o,eo,fun v z=>by rw [d] at z;cases z⟩
 keep:=fun i h h' st kk=>⟨let⟨old,se⟩:=st.1;⟨old,kk e (by simp) _ se⟩,st.2.at fun o eo=>kk it (by simp) o eo⟩
 item:=by
  intro X hP hw hK hc i Jw s σ H E I hf st hg;subst hP hw hK;obtain⟨xs,x,hq,hx⟩:=hg;obtain⟨its,rv,p,hz⟩:=I.list hq;obtain⟨u,hu,ru⟩:=rv.get hx;obtain⟨⟨old,se⟩,si⟩:=st;refine wpAny_pyNext_enum_item se si p.isList (x:=u) (by simpa using hu) hne fun h' so si' tp sz kp=>?_;refine⟨_,rfl,?_⟩;refine wpAny_letOwnedTupleGo_enum (s:={ s with heap:=h',toks:=s.toks+1 }) so fun h2 se2 sb=>?_;have hlt:e<s.heap.objs.size:=Ea se;obtain⟨oi,eoi,_,_⟩:=id si;have hlt2:it<s.heap.objs.size:=Ea eoi;have kk:∀ b o,b∉[e,it]->s.heap.get? b=some o->h2.get? b=some o:=fun b o hb eb=>by
   have h1:b≠e:=fun z=>hb (by simp [z]);have h2':b≠it:=fun z=>hb (by simp [z]);exact (sb.2 b h1).trans (kp b o h1 h2' eb)
  have I2:Inv X Jw σ (upd H s.heap.objs.size (.tup [.int i,x])) { s with heap:=h2,toks:=s.toks+1 }:=I.turnedNew hf kk (D8 _)
   ⟨by show 2<=EJ;decide,[.int i s.toks,u],.cons ⟨_,rfl⟩ (.cons ru .nil),⟨_,(sb.2 _ (F5 hlt)).trans tp,rfl,_,rfl⟩⟩
  refine⟨.ref s.heap.objs.size,_,I2,rfl,⟨_,x,rfl,I.fresh,rfl,fun ys hy=>by rw [I.list_inj hy hq];exact hx⟩,⟨⟨_,se2⟩,?_⟩,fun b hb=>?_⟩
  ·exact si'.at fun o eo=>(sb.2 it (Gv hne)).trans eo
  ·rw [zu]
   ·exact (hf b hb).1
   ·rcases D5.mp hb with z | z
    ·subst z;exact EE hlt
    ·have z:b=it:=by simpa using z
     subst z;exact EE hlt2
 done:=by
  intro X hP hw hK hc i Jw s σ H E I hf st hg;subst hP hw hK;obtain⟨xs,hq,hx⟩:=hg;obtain⟨its,rv,p,hz⟩:=I.list hq;obtain⟨⟨old,se⟩,si⟩:=st;have hl:=rv.length;exact wpAny_pyNext_enum_end (I.ok.hd hc) se si p.isList (by simp;omega) fun h' eb=>⟨rfl,I.turnedAll (t':=s.toks) hf fun b o hb e'=>eb b o (fun z=>hb (by simp [z])) e'⟩
 self:=fun _ _ _ _ _ st h=>let⟨_,se⟩:=st.1;wpAny_pyIter_enum se h
section
variable {X:Cx} {es:List Expr} {k:Nat} {tpos:Pos}
def l4 (K:DT) (ta:TA):TI:=fun σ H R=>ta σ H fun vs H1=>∃ a,vs=[.ref a]/\(∃ xs,SqL K H1 a xs)/\R (Ite K a) H1
theorem uS {a:Expr} {ta:TA} {p pos:Pos} (hg:Gl X "enumerate") (hm:X.mg "enumerate"=none) (ha:PA X [a] ta) (hs:EG [a] X.env=[(false,eval a X.env)]:=by rfl):PI X (.Tuple es k tpos) (.Call (.Name "enumerate" p) [a] [] pos) (l4 X.K ta):=by
 intro Jw s σ H R I h;refine Call_ (vT I hg hm boot_enumerate (Fz (thn (ha pos Jw s σ H _ I h) fun us s1 ⟨vs,H1,I1,r1,q1⟩=>?_) hs rfl));obtain⟨l,e,⟨xs,hq⟩,q⟩:=q1;subst e;cases r1 with
 | cons r rr =>
  cases rr;cases r;obtain⟨its,rv,p,hz⟩:=I1.list hq;refine call_enumerate_list p.isList fun h' he hi hsz kp=>?_;refine wpAny_pyIter_enum he ?_;have hne:s1.heap.objs.size+1≠s1.heap.objs.size:=Nat.succ_ne_self _;refine⟨s1.heap.objs.size+1,[s1.heap.objs.size+1,s1.heap.objs.size],_,_,H1,rfl,I1.kept (t':=s1.toks) kp,n9 l _ _ hne,⟨⟨_,he⟩,hi⟩,fun b hb=>?_,q⟩;rcases D5.mp hb with z | z
  ·subst z;exact I1.fpOk (Jk _) (I1.hok.fresh (Jk _))
  ·have z:b=s1.heap.objs.size:=by simpa using z
   subst z;exact I1.fpOk (D8 _) (I1.hok.fresh (D8 _))
end
theorem rM {K:DT} {a:DY} {xs:List V} {g:TG} {tb:TS} {D:Ends} {σ:St} {H:Hp} (Pv:Nat->St->Hp->Prop) (h0:Pv 0 σ H) (hl:∀ i σ H,i<=xs.length->Pv i σ H->SqL K H a xs)
  (hs:∀ i x σ H t,xs[i]?=some x->Pv i σ H->H t=none->g (.ref t) σ (upd H t (.tup [.int i,x])) fun σ2 H2=>tb { D with nx:=Pv (i+1),ct:=Pv (i+1),bk:=D.nx } σ2 H2) (hd:∀ σ H,Pv xs.length σ H->D.nx σ H) :
  ∃ W:Nat->Nat->St->Hp->Prop,(∃ m,W 0 m σ H)/\∀ i m σ H,W i m σ H ->
   ((Ite K a).stop i H/\D.nx σ H) \/ ((Ite K a).go i H/\∃ N:St->Hp->Prop,(∀ σ' H',N σ' H'->∃ m',m'<m/\W (i+1) m' σ' H')/\∀ x H',(Ite K a).yld i H x H'->g x σ H' fun σ2 H2=>tb { D with nx:=N,ct:=N,bk:=D.nx } σ2 H2):=by
 refine⟨fun i m σ H=>Pv i σ H/\i<=xs.length/\m+i=xs.length,⟨xs.length,h0,EI _,rfl⟩,fun i m σ H ⟨p,hi,hm⟩=>?_⟩;have q:=hl i σ H hi p;by_cases hlt:i<xs.length
 ·refine .inr ⟨⟨xs,xs[i],q,DQ hlt⟩,Pv (i+1),fun σ' H' n=>⟨m - 1,by omega,n,hlt,by omega⟩,fun x H' hy=>?_⟩;obtain⟨t,y,rfl,ht,rfl,hy⟩:=hy;exact hs i y σ H t (hy xs q) p ht
 ·have e:i=xs.length:=by omega
  subst e;exact .inl ⟨⟨xs,q,D8 _⟩,hd σ H p⟩
mutual
def Rep (K:DT) (H:Hp):PyData->V->Prop
 | .none,v=>v=.non
 | .bool b,v=>v=.bl b
 | .int i,v=>v=.int i
 | .str x,v=>v=.str x
 | .list ds,v=>∃ a xs,v=.ref a/\SqL K H a xs/\Reps K H ds xs
 | .tuple ds,v=>∃ a xs,v=.ref a/\SqT K H a xs/\Reps K H ds xs
 | .dict _,_=>False
def Reps (K:DT) (H:Hp):List PyData->List V->Prop
 | [],xs=>xs=[]
 | d :: ds,xs=>∃ x r,xs=x :: r/\Rep K H d x/\Reps K H ds r
end
theorem Same.seqT {K:DT} {H H':Hp} {a:DY} {xs:List V} (e:Same H H') (h:SqT K H a xs):SqT K H' a xs:=by
 rcases h with (h | ⟨o,h⟩) | h
 ·exact .inl (.inl (e _ _ h))
 ·exact .inl (.inr ⟨o,e _ _ h⟩)
 ·exact .inr h
mutual
theorem Rep.mono {K:DT} {H H':Hp} (e:Same H H'):∀ (d:PyData) (v:V),Rep K H d v->Rep K H' d v
 | .none,_,h=>by rw [Rep] at h ⊢;exact h
 | .bool _,_,h=>by rw [Rep] at h ⊢;exact h
 | .int _,_,h=>by rw [Rep] at h ⊢;exact h
 | .str _,_,h=>by rw [Rep] at h ⊢;exact h
 | .list ds,v,h=>by
  rw [Rep] at h ⊢;obtain⟨a,xs,h1,h2,h3⟩:=h;exact⟨a,xs,h1,e.seq h2,Reps.mono e ds xs h3⟩
 | .tuple ds,v,h=>by
  rw [Rep] at h ⊢;obtain⟨a,xs,h1,h2,h3⟩:=h;exact⟨a,xs,h1,e.seqT h2,Reps.mono e ds xs h3⟩
 | .dict _,_,h=>by rw [Rep] at h;exact h.elim
theorem Reps.mono {K:DT} {H H':Hp} (e:Same H H'):∀ (ds:List PyData) (xs:List V),Reps K H ds xs->Reps K H' ds xs
 | [],_,h=>by rw [Reps] at h ⊢;exact h
 | d :: ds,xs,h=>by
  rw [Reps] at h ⊢;obtain⟨x,r,h1,h2,h3⟩:=h;exact⟨x,r,h1,Rep.mono e d x h2,Reps.mono e ds r h3⟩
end
theorem zw {K:DT} {H:Hp} {i:Int} {v:V}:Rep K H (.int i) v↔v=.int i:=by rw [Rep]
theorem yo {K:DT} {H:Hp} {b:Bool} {v:V}:Rep K H (.bool b) v↔v=.bl b:=by rw [Rep]
theorem ao {K:DT} {H:Hp} {v:V}:Rep K H .none v↔v=.non:=by rw [Rep]
theorem l5 {K:DT} {H:Hp} {x:Str} {v:V}:Rep K H (.str x) v↔v=.str x:=by rw [Rep]
theorem zB {K:DT} {H:Hp} {ds:List PyData} {v:V}:Rep K H (.list ds) v↔∃ a xs,v=.ref a/\SqL K H a xs/\Reps K H ds xs:=by rw [Rep]
theorem zZ {K:DT} {H:Hp} {ds:List PyData} {v:V}:Rep K H (.tuple ds) v↔∃ a xs,v=.ref a/\SqT K H a xs/\Reps K H ds xs:=by rw [Rep]
theorem zP {K:DT} {H:Hp} {xs:List V}:Reps K H [] xs↔xs=[]:=by rw [Reps]
theorem zH {K:DT} {H:Hp} {d:PyData} {ds:List PyData} {xs:List V}:Reps K H (d :: ds) xs↔∃ x r,xs=x :: r/\Rep K H d x/\Reps K H ds r:=by rw [Reps]
theorem Reps.nil' {K:DT} {H:Hp}:Reps K H [] []:=zP.mpr rfl
theorem Reps.cons' {K:DT} {H:Hp} {d:PyData} {ds:List PyData} {x:V} {r:List V} (h:Rep K H d x) (t:Reps K H ds r):Reps K H (d :: ds) (x :: r):=zH.mpr ⟨x,r,rfl,h,t⟩
theorem Reps.length {K:DT} {H:Hp}:∀ {ds:List PyData} {xs:List V},Reps K H ds xs->xs.length=ds.length
 | [],xs,h=>by rw [zP.mp h];rfl
 | d :: ds,xs,h=>by
  obtain⟨x,r,rfl,_,h3⟩:=zH.mp h;rw [Ep,Ep,Reps.length h3]
theorem Reps.get {K:DT} {H:Hp}:∀ {ds:List PyData} {xs:List V} {i:Nat} {d:PyData},Reps K H ds xs->ds[i]?=some d->∃ x,xs[i]?=some x/\Rep K H d x
 | [],_,_,_,_,e=>by simp at e
 | d :: ds,xs,0,d',h,e=>by
  obtain⟨x,r,rfl,h2,_⟩:=zH.mp h;simp at e;subst e;exact⟨x,rfl,h2⟩
 | d :: ds,xs,i+1,d',h,e=>by
  obtain⟨x,r,rfl,_,h3⟩:=zH.mp h;obtain⟨y,h1,h2⟩:=Reps.get (i:=i) h3 (by simpa using e);exact⟨y,by simpa using h1,h2⟩
theorem Reps.snoc {K:DT} {H:Hp} {d:PyData} {x:V} (h:Rep K H d x):∀ {ds:List PyData} {xs:List V},Reps K H ds xs->Reps K H (ds++[d]) (xs++[x])
 | [],xs,t=>by rw [zP.mp t];exact .cons' h .nil'
 | d' :: ds,xs,t=>by
  obtain⟨y,r,rfl,h2,h3⟩:=zH.mp t;exact .cons' h2 (Reps.snoc h h3)
theorem Reps.append {K:DT} {H:Hp}:∀ {ds es:List PyData} {xs ys:List V},Reps K H ds xs->Reps K H es ys->Reps K H (ds++es) (xs++ys)
 | [],es,xs,ys,t,u=>by rw [zP.mp t];exact u
 | d' :: ds,es,xs,ys,t,u=>by
  obtain⟨y,r,rfl,h2,h3⟩:=zH.mp t;exact .cons' h2 (Reps.append h3 u)
theorem Reps.ints {K:DT} {H:Hp}:∀ {ns:List Int} {xs:List V},Reps K H (ns.map .int) xs->xs=ns.map V.int
 | [],xs,h=>zP.mp h
 | n :: ns,xs,h=>by
  obtain⟨x,r,rfl,h2,h3⟩:=zH.mp h;rw [zw.mp h2,Reps.ints h3];rfl
theorem Reps.ints' {K:DT} {H:Hp}:∀ (ns:List Int),Reps K H (ns.map .int) (ns.map V.int)
 | []=>.nil'
 | n :: ns=>.cons' (zw.mpr rfl) (Reps.ints' ns)
section
variable {X:Cx} {Jw:List (DY×Obj)} {σ:St} {H:Hp} {s:Shared}
mutual
theorem jn (I:Inv X Jw σ H s):∀ (d:PyData) (v:V) (u:Value),Rep X.K H d v->RelV v u->∃ as,Reads s.heap u d as
 | .none,v,u,h,r=>by rw [ao.mp h] at r;cases r;exact⟨_,.none⟩
 | .bool b,v,u,h,r=>by rw [yo.mp h] at r;cases r;exact⟨_,.bool b⟩
 | .int i,v,u,h,r=>by rw [zw.mp h] at r;obtain⟨t,rfl⟩:=r;exact⟨_,.int i t⟩
 | .str x,v,u,h,r=>by rw [l5.mp h] at r;obtain⟨t,rfl⟩:=r;exact⟨_,.str x t⟩
 | .list ds,v,u,h,r=>by
  obtain⟨a,xs,rfl,h2,h3⟩:=zB.mp h;cases r;obtain⟨its,rv,p,_⟩:=I.list h2;obtain⟨o,ho,hc,n,hd⟩:=p.isList;obtain⟨as,ra⟩:=jJ I ds xs its h3 rv;exact⟨_,.list ho hc hd (by simpa using ra)⟩
 | .tuple ds,v,u,h,r=>by
  obtain⟨a,xs,rfl,h2,h3⟩:=zZ.mp h;cases r;obtain⟨its,rv,p,_⟩:=I.tuple h2;obtain⟨o,ho,hc,n,hd⟩:=p;obtain⟨as,ra⟩:=jJ I ds xs its h3 rv;exact⟨_,.tuple ho hc hd (by simpa using ra)⟩
 | .dict _,_,_,h,_=>by rw [Rep] at h;exact h.elim
theorem jJ (I:Inv X Jw σ H s):∀ (ds:List PyData) (xs:List V) (us:List Value),Reps X.K H ds xs->Vals xs us->∃ as,ReadsAll s.heap us ds as
 | [],xs,us,h,r=>by rw [zP.mp h] at r;cases r;exact⟨_,.nil⟩
 | d :: ds,xs,us,h,r=>by
  obtain⟨x,q,rfl,h2,h3⟩:=zH.mp h;cases r with
  | cons r1 r2 =>
   obtain⟨as,ra⟩:=jn I d x _ h2 r1;obtain⟨bs,rb⟩:=jJ I ds q _ h3 r2;exact⟨_,.cons ra rb⟩
end
def oa (K:DT) (neg:Bool):R2:=fun x y H Q=>∃ d d',Rep K H d x/\Rep K H d' y/\d.canLay0=true/\d'.canLay0=true/\min d.depth d'.depth<=60/\Q (.bl (if neg then !EC d d' else EC d d')) H
theorem AQ (hu:X.A.units+64<E1):OpR X (E8 .Eq) (oa X.K false):=by
 intro Jw s σ H x y v u Q I rx ry h;obtain⟨d,d',h1,h2,c1,c2,hm,q⟩:=h;obtain⟨as,ra⟩:=jn I d x v h1 rx;obtain⟨bs,rb⟩:=jn I d' y u h2 ry;exact SeqAt.compareEq_reads ra rb c1 c2 (by omega) ⟨.bl (EC d d'),H,I,rfl,q⟩
theorem AR (hu:X.A.units+64<E1):OpR X (E8 .NotEq) (oa X.K true):=by
 intro Jw s σ H x y v u Q I rx ry h;obtain⟨d,d',h1,h2,c1,c2,hm,q⟩:=h;obtain⟨as,ra⟩:=jn I d x v h1 rx;obtain⟨bs,rb⟩:=jn I d' y u h2 ry;exact SeqAt.compareNe_reads ra rb c1 c2 (by omega) ⟨.bl (!EC d d'),H,I,rfl,q⟩
theorem og (hc:X.calm=true):yT X (.builtin "min") (fun xs H Q=>∃ a ns,xs=[.ref a]/\SqL X.K H a (ns.map V.int)/\ns≠[]/\∀ M,M∈ns->(∀ b∈ns,M<=b)->Q (.int M) H):=by
 intro Jw s σ H xs us Q I r h;obtain⟨a,ns,rfl,hq,hne,q⟩:=h;obtain⟨u,rfl,r1⟩:=vals1 r;cases r1;obtain⟨its,rv,p,_⟩:=I.list hq;obtain⟨m,F⟩:=I.fr;have hi:=intsAre_of rv;obtain⟨ys,e⟩:=hi.allInts.items;have hns:ns=ys.toList.map (·.1):=by rw [<-hi.numsOf,<- nums_intItems,<- e]
 have hsz:0<ys.size:=by
  have h3:0<ns.length:=G3.mpr hne;rw [hns,DS,Ek] at h3;exact h3
 have hl:=p.isList;rw [e] at hl;refine min_intList (I.ok.hd hc) hl hsz fun v h' tk hv hk=>?_;obtain⟨t,rfl⟩:=intItems_at hv;obtain⟨_,h2⟩:=argBest_lt (numAt ys) (ys.size - 1);refine⟨.int _,H,I.kept (t':=tk) hk,⟨t,rfl⟩,q _ ?_ fun b hb=>?_⟩
 ·rw [hns,numAt_eq];exact getD_mem (by rw [DS,Ek];omega)
 ·rw [hns] at hb;obtain⟨j,hj,rfl⟩:=mem_getD hb;rw [DS,Ek] at hj;rw [<-numAt_eq];exact h2 j (by omega)
theorem oh (hc:X.calm=true):yT X (.builtin "max") (fun xs H Q=>∃ a ns,xs=[.ref a]/\SqL X.K H a (ns.map V.int)/\ns≠[]/\∀ M,M∈ns->(∀ b∈ns,b<=M)->Q (.int M) H):=by
 intro Jw s σ H xs us Q I r h;obtain⟨a,ns,rfl,hq,hne,q⟩:=h;obtain⟨u,rfl,r1⟩:=vals1 r;cases r1;obtain⟨its,rv,p,_⟩:=I.list hq;have hi:=intsAre_of rv;obtain⟨ys,e⟩:=hi.allInts.items;have hns:ns=ys.toList.map (·.1):=by rw [<-hi.numsOf,<- nums_intItems,<- e]
 have hsz:0<ys.size:=by
  have h3:0<ns.length:=G3.mpr hne;rw [hns,DS,Ek] at h3;exact h3
 have hl:=p.isList;rw [e] at hl;refine max_intList (I.ok.hd hc) hl hsz fun v h' tk hv hk=>?_;obtain⟨t,rfl⟩:=intItems_at hv;obtain⟨_,h2⟩:=argBest_gt (numAt ys) (ys.size - 1);refine⟨.int _,H,I.kept (t':=tk) hk,⟨t,rfl⟩,q _ ?_ fun b hb=>?_⟩
 ·rw [hns,numAt_eq];exact getD_mem (by rw [DS,Ek];omega)
 ·rw [hns] at hb;obtain⟨j,hj,rfl⟩:=mem_getD hb;rw [DS,Ek] at hj;rw [<-numAt_eq];exact h2 j (by omega)
end
inductive DV where
 | dat (d:PyData)
 | feed
 | own (k:Nat)
 | exc (C:Value)
 | mon (φ:Hp->V->Prop)
abbrev zq:=List (Option DV)
structure Fx where
 f:Option DY
 M:List DY
noncomputable def hide (H:Hp) (f:Fx):Hp:=fun b=>if f.f=some b \/ b∈f.M then none else H b
structure FOk (f:Fx) (H:Hp):Prop where
 fd:∀ p,f.f=some p->∃ a b:Int,H p=some (.lst [.int a,.int b])/\0<=a/\0<=b/\b<2147483647
 mm:∀ b∈f.M,∃ o,H b=some o
 nm:∀ p,f.f=some p->p∉f.M
def RepV (K:DT) (f:Fx) (H:Hp):DV->V->Prop
 | .dat d,v=>Rep K (hide H f) d v
 | .feed,v=>∃ p,f.f=some p/\v=.ref p
 | .own k,v=>∃ p,f.M.reverse[k]?=some p/\v=.ref p
 | .exc C,v=>∃ a,v=.ref a/\hide H f a=some (.ext fun h=>∃ o,h.get? a=some o/\o.cls=C)
 | .mon φ,v=>∀ H',Same (hide H f) H'->φ H' v
structure Goes (f:Fx) (H H':Hp):Prop where
 sm:Same (hide H f) (hide H' f)
 ok:FOk f H'
 kp:∀ b∈f.M,H' b=H b
structure EnvOk (K:DT) (f:Fx) (ρ:zq) (σ:St) (H:Hp):Prop where
 len:ρ.length=σ.length
 get:∀ (i:Nat) x,ρ[i]?=some (some x)->∃ v,σ[i]?=some (some v)/\RepV K f H x v
 fd:FOk f H
theorem ji (H:Hp):hide H ⟨none,[]⟩=H:=by funext b;unfold hide;rw [Jx (by rintro (h | h) <;> cases h)]
theorem zf (H:Hp) (f:Fx):Same (hide H f) H:=fun b o h=>by
 unfold hide at h;split at h
 ·cases h
 ·exact h
theorem zI {H:Hp} {f:Fx} {b:DY} {o:HO} (h:hide H f b=some o):¬ (f.f=some b \/ b∈f.M)/\H b=some o:=by
 unfold hide at h;split at h
 ·cases h
 ·rename_i n;exact⟨n,h⟩
theorem zC {H:Hp} {f:Fx} {b:DY} {o:HO} (n:¬ (f.f=some b \/ b∈f.M)) (h:H b=some o):hide H f b=some o:=by unfold hide;rw [Jx n];exact h
theorem Goes.refl {f:Fx} {H:Hp} (h:FOk f H):Goes f H H:=⟨Same.refl _,h,fun _ _=>rfl⟩
theorem Goes.trans {f:Fx} {H H1 H2:Hp} (a:Goes f H H1) (b:Goes f H1 H2):Goes f H H2:=⟨a.1.trans b.1,b.2,fun x hx=>(b.kp x hx).trans (a.kp x hx)⟩
theorem Goes.of_same {f:Fx} {H H':Hp} (s:Same H H') (h:FOk f H):Goes f H H' :=
 ⟨fun b o e=>zC (zI e).1 (s b o (zI e).2),⟨fun p e=>let⟨a,b,h1,h2⟩:=h.fd p e;⟨a,b,s _ _ h1,h2⟩,fun b hb=>let⟨o,e⟩:=h.mm b hb;⟨o,s _ _ e⟩,h.nm⟩,fun b hb=>let⟨o,e⟩:=h.mm b hb;(s _ _ e).trans e.symm⟩
theorem yc {H:Hp} {p:DY} (h:H p=none) (o:HO):Same H (upd H p o):=fun b u q=>by rw [zu (zM q h)];exact q
theorem RepV.mono {K:DT} {f:Fx} {H H':Hp} (g:Goes f H H'):∀ {x:DV} {v:V},RepV K f H x v->RepV K f H' x v
 | .dat d,v,h=>Rep.mono g.1 d v h
 | .feed,v,h=>h
 | .own _,v,h=>h
 | .exc _,v,h=>let⟨a,e,q⟩:=h;⟨a,e,g.1 _ _ q⟩
 | .mon _,v,h=>fun H' s=>h H' (g.1.trans s)
theorem EnvOk.mono {K:DT} {f:Fx} {ρ:zq} {σ:St} {H H':Hp} (e:EnvOk K f ρ σ H) (g:Goes f H H'):EnvOk K f ρ σ H' :=
 ⟨e.len,fun i x h=>let⟨v,h1,h2⟩:=e.get i x h;⟨v,h1,h2.mono g⟩,g.2⟩
theorem EnvOk.set {K:DT} {f:Fx} {ρ:zq} {σ:St} {H:Hp} {x:DV} {v:V} (e:EnvOk K f ρ σ H) (i:Nat) (r:RepV K f H x v):EnvOk K f (ρ.set i (some x)) (σ.set i (some v)) H:=by
 refine⟨by rw [FH,FH];exact e.len,fun j y h=>?_,e.fd⟩;by_cases hj:i=j
 ·subst hj;by_cases hi:i<ρ.length
  ·rw [E4 hi] at h;cases h;exact⟨v,by rw [E4 (by rw [<-e.len];exact hi)],r⟩
  ·rw [Ex (by rw [FH];omega)] at h;cases h
 ·rw [Fe hj] at h ⊢;exact e.get j y h
theorem fresh_ne {f:Fx} {H:Hp} {p:DY} (h:FOk f H) (n:H p=none):¬ (f.f=some p \/ p∈f.M):=fun e=>by
 rcases e with e | e
 ·obtain⟨a,b,h1,_⟩:=h.fd p e;rw [n] at h1;cases h1
 ·obtain⟨o,h1⟩:=h.mm p e;rw [n] at h1;cases h1
inductive RepVs (K:DT) (f:Fx) (H:Hp):List DV->List V->Prop where
 | nil:RepVs K f H [] []
 | cons {x v xs vs}:RepV K f H x v->RepVs K f H xs vs->RepVs K f H (x :: xs) (v :: vs)
theorem RepVs.mono {K:DT} {f:Fx} {H H':Hp} (g:Goes f H H'):∀ {xs:List DV} {vs:List V},RepVs K f H xs vs->RepVs K f H' xs vs
 | _,_,.nil=>.nil
 | _,_,.cons r t=>.cons (r.mono g) (t.mono g)
theorem RepVs.length {K:DT} {f:Fx} {H:Hp}:∀ {xs:List DV} {vs:List V},RepVs K f H xs vs->vs.length=xs.length
 | _,_,.nil=>rfl
 | _,_,.cons _ t=>by rw [Ep,Ep,t.length]
section
variable (K:DT) (f:Fx)
def PEd (te:TE) (ρ:zq) (P:PyData->Prop):Prop:=∀ (σ:St) (H:Hp) (Q:VK),EnvOk K f ρ σ H->(∀ d v H',Goes f H H'->Rep K (hide H' f) d v->P d->Q v H')->te σ H Q
def PTd (tt:TT) (ρ:zq) (P:Bool->Prop):Prop:=∀ (σ:St) (H:Hp) (Q:Bool->Hp->Prop),EnvOk K f ρ σ H->(∀ b H',Goes f H H'->P b->Q b H')->tt σ H Q
def PAd (ta:TA) (ρ:zq) (P:List DV->Prop):Prop:=∀ (σ:St) (H:Hp) (Q:List V->Hp->Prop),EnvOk K f ρ σ H->(∀ xs vs H',Goes f H H'->RepVs K f H' xs vs->P xs->Q vs H')->ta σ H Q
structure DEnds where
 nx:zq->Prop
 rt:PyData->Prop
 bk:zq->Prop:=fun _=>False
 ct:zq->Prop:=fun _=>False
def PSd (ts:TS) (ρ:zq) (D:DEnds):Prop:=∀ (σ:St) (H:Hp) (E:Ends),EnvOk K f ρ σ H->(∀ ρ' σ' H',Goes f H H'->EnvOk K f ρ' σ' H'->D.nx ρ'->E.nx σ' H')->(∀ d v H',Goes f H H'->Rep K (hide H' f) d v->D.rt d->E.rt v H') ->
 (∀ ρ' σ' H',Goes f H H'->EnvOk K f ρ' σ' H'->D.bk ρ'->E.bk σ' H')->(∀ ρ' σ' H',Goes f H H'->EnvOk K f ρ' σ' H'->D.ct ρ'->E.ct σ' H')->ts E σ H
def spD {γ:Type} (n:Nat) (pre:γ->List DV->Prop) (post:γ->PyData->Prop):Sp:=fun vs H Q _=>∃ f xs c,RepVs K f H xs vs/\xs.length=n/\FOk f H/\pre c xs/\∀ r v H',Goes f H H'->Rep K (hide H' f) r v->post c r->Q v H'
end
section
variable {K:DT} {f:Fx} {ρ:zq} {P:PyData->Prop} {te ta tb tc:TE}
theorem zk {i:Nat} {d:PyData} (h:ρ[i]?=some (some (.dat d))) (p:P d):PEd K f (yD i) ρ P:=fun σ H Q e q=>by
 obtain⟨v,h1,h2⟩:=e.get i _ h;exact⟨v,h1,q d v H (.refl e.fd) h2 p⟩
theorem yU {i:Int} (p:P (.int i)):PEd K f (tC (.int i)) ρ P:=fun σ H Q e q=>q (.int i) _ H (.refl e.fd) (zw.mpr rfl) p
theorem rN {i:Bool} (p:P (.bool i)):PEd K f (tC (.bl i)) ρ P:=fun σ H Q e q=>q (.bool i) _ H (.refl e.fd) (yo.mpr rfl) p
theorem xR {i:Str} (p:P (.str i)):PEd K f (tC (.str i)) ρ P:=fun σ H Q e q=>q (.str i) _ H (.refl e.fd) (l5.mpr rfl) p
theorem PEd.imp {P':PyData->Prop} (h:PEd K f te ρ P) (i:∀ d,P d->P' d):PEd K f te ρ P':=fun σ H Q e q=>h σ H Q e fun d v H' g r p=>q d v H' g r (i d p)
theorem oj {r:R2} (h:PEd K f ta ρ fun x=>PEd K f tb ρ fun y=>∀ (v w:V) (H:Hp) (Q:VK),FOk f H->Rep K (hide H f) x v->Rep K (hide H f) y w->(∀ d u H',Goes f H H'->Rep K (hide H' f) d u->P d->Q u H')->r v w H Q):PEd K f (tOp r ta tb) ρ P:=fun σ H Q e q =>
 h σ H _ e fun x v H1 g1 r1 p1=>p1 σ H1 _ (e.mono g1) fun y w H2 g2 r2 p2=>p2 v w H2 Q g2.2 (Rep.mono g2.1 x v r1) r2 fun d u H' g' r' p'=>q d u H' (g1.trans (g2.trans g')) r' p'
theorem DD {r:V->Hp->VK->Prop} (h:PEd K f ta ρ fun x=>∀ (v:V) (H:Hp) (Q:VK),FOk f H->Rep K (hide H f) x v->(∀ d u H',Goes f H H'->Rep K (hide H' f) d u->P d->Q u H')->r v H Q):PEd K f (tUn r ta) ρ P:=fun σ H Q e q =>
 h σ H _ e fun x v H1 g1 r1 p1=>p1 v H1 Q g1.2 r1 fun d u H' g' r' p'=>q d u H' (g1.trans g') r' p'
theorem jo {g:Int->Int->Int} (h:PEd K f ta ρ fun x=>∃ i,x=.int i/\PEd K f tb ρ fun y=>∃ j,y=.int j/\P (.int (g i j))):PEd K f (tOp (rI0 fun i j=>.int (g i j)) ta tb) ρ P :=
 oj (h.imp fun x ⟨i,ex,h2⟩=>h2.imp fun y ⟨j,ey,p⟩ v w H Q fo rx ry q=>by
  subst ex ey;exact⟨i,j,zw.mp rx,zw.mp ry,q _ _ H (.refl fo) (zw.mpr rfl) p⟩)
theorem yR {C:Int->Int->Prop} {g:Int->Int->Int} (h:PEd K f ta ρ fun x=>∃ i,x=.int i/\PEd K f tb ρ fun y=>∃ j,y=.int j/\C i j/\P (.int (g i j))):PEd K f (tOp (rI C fun i j=>.int (g i j)) ta tb) ρ P :=
 oj (h.imp fun x ⟨i,ex,h2⟩=>h2.imp fun y ⟨j,ey,c,p⟩ v w H Q fo rx ry q=>by
  subst ex ey;exact⟨i,j,zw.mp rx,zw.mp ry,c,q _ _ H (.refl fo) (zw.mpr rfl) p⟩)
theorem l6 {g:Int->Int->Bool} (h:PEd K f ta ρ fun x=>∃ i,x=.int i/\PEd K f tb ρ fun y=>∃ j,y=.int j/\P (.bool (g i j))):PEd K f (tOp (rI0 fun i j=>.bl (g i j)) ta tb) ρ P :=
 oj (h.imp fun x ⟨i,ex,h2⟩=>h2.imp fun y ⟨j,ey,p⟩ v w H Q fo rx ry q=>by
  subst ex ey;exact⟨i,j,zw.mp rx,zw.mp ry,q _ _ H (.refl fo) (yo.mpr rfl) p⟩)
theorem aq {neg:Bool} (h:PEd K f ta ρ fun x=>PEd K f tb ρ fun y=>x.canLay0=true/\y.canLay0=true/\min x.depth y.depth<=60/\P (.bool (if neg then !EC x y else EC x y))):PEd K f (tOp (oa K neg) ta tb) ρ P :=
 oj (h.imp fun x h2=>h2.imp fun y ⟨c1,c2,c3,p⟩ v w H Q fo rx ry q =>
  ⟨x,y,Rep.mono (zf _ _) x v rx,Rep.mono (zf _ _) y w ry,c1,c2,c3,q _ _ H (.refl fo) (yo.mpr rfl) p⟩)
theorem cJ (h:PEd K f ta ρ fun x=>∃ ds,x=.list ds/\PEd K f tb ρ fun y=>∃ k,y=.int k/\∃ d,atI ds k=some d/\P d):PEd K f (tOp (kE K) ta tb) ρ P :=
 oj (h.imp fun x ⟨ds,ex,h2⟩=>h2.imp fun y ⟨k,ey,d,a,p⟩ v w H Q fo rx ry q=>by
  subst ex ey;obtain⟨l,xs,rfl,hs,hr⟩:=zB.mp rx;unfold atI at a;cases hi:ixN ds.length k with
  | none=>rw [hi] at a;cases a
  | some j =>
   rw [hi] at a;obtain⟨u,hu,ru⟩:=hr.get a;exact⟨l,xs,k,u,rfl,zw.mp ry,(zf H f).seq hs,by unfold atI;rw [hr.length,hi];exact hu,q d u H (.refl fo) ru p⟩)
theorem rO (h:PEd K f ta ρ fun x=>∃ ds,x=.tuple ds/\PEd K f tb ρ fun y=>∃ k,y=.int k/\∃ d,atI ds k=some d/\P d):PEd K f (tOp (AK K) ta tb) ρ P :=
 oj (h.imp fun x ⟨ds,ex,h2⟩=>h2.imp fun y ⟨k,ey,d,a,p⟩ v w H Q fo rx ry q=>by
  subst ex ey;obtain⟨l,xs,rfl,hs,hr⟩:=zZ.mp rx;unfold atI at a;cases hi:ixN ds.length k with
  | none=>rw [hi] at a;cases a
  | some j =>
   rw [hi] at a;obtain⟨u,hu,ru⟩:=hr.get a;exact⟨l,xs,k,u,rfl,zw.mp ry,(zf H f).seqT hs,by unfold atI;rw [hr.length,hi];exact hu,q d u H (.refl fo) ru p⟩)
theorem xS {i:Nat} (hi:ρ[i]?=some (some .feed)) (h:PEd K f tb ρ fun y=>(y=.int 0/\∀ a:Int,0<=a->P (.int a)) \/ (y=.int 1/\∀ b:Int,0<=b->b<2147483647->P (.int b))):PEd K f (tOp (kE K) (yD i) tb) ρ P:=fun σ H Q e q=>by
 obtain⟨v,h1,p,ef,ev⟩:=e.get i _ hi;refine⟨v,h1,h σ H _ e fun y w H' g r c=>?_⟩;obtain⟨a,b,hf,c1,c2,c3⟩:=g.2.fd p ef;rcases c with⟨rfl,c⟩ | ⟨rfl,c⟩
 ·exact⟨p,_,0,.int a,ev,zw.mp r,SqL.of hf,rfl,q (.int a) _ H' g (zw.mpr rfl) (c a c1)⟩
 ·exact⟨p,_,1,.int b,ev,zw.mp r,SqL.of hf,rfl,q (.int b) _ H' g (zw.mpr rfl) (c b c2 c3)⟩
theorem ye {R:List DV->Prop} (p:R []):PAd K f qM ρ R:=fun σ H Q e q=>q [] [] H (.refl e.fd) .nil p
theorem zz {R:List DV->Prop} {u:TA} (h:PEd K f te ρ fun x=>PAd K f u ρ fun xs=>R (.dat x :: xs)):PAd K f (yK te u) ρ R:=fun σ H Q e q =>
 h σ H _ e fun x v H1 g1 r1 p1=>p1 σ H1 _ (e.mono g1) fun xs vs H2 g2 r2 p2=>q (.dat x :: xs) (v :: vs) H2 (g1.trans g2) (.cons (RepV.mono (x:=.dat x) g2 r1) r2) p2
theorem rP {R:List DV->Prop} {u:TA} {i:Nat} (hi:ρ[i]?=some (some .feed)) (h:PAd K f u ρ fun xs=>R (.feed :: xs)):PAd K f (yK (yD i) u) ρ R:=fun σ H Q e q=>by
 obtain⟨v,h1,h2⟩:=e.get i _ hi;exact⟨v,h1,h σ H _ e fun xs vs H2 g2 r2 p2=>q (.feed :: xs) (v :: vs) H2 g2 (.cons (RepV.mono (x:=.feed) g2 h2) r2) p2⟩
noncomputable def qv:List DV->Option (List PyData)
 | []=>some []
 | .dat d :: r=>(qv r).map (d :: ·)
 | .feed :: _=>none
 | .own _ :: _=>none
 | .exc _ :: _=>none
 | .mon _ :: _=>none
theorem vz {H:Hp}:∀ {xs:List DV} {vs:List V} {ds:List PyData},RepVs K f H xs vs->qv xs=some ds->Reps K (hide H f) ds vs
 | _,_,ds,.nil,e=>by cases e;exact .nil'
 | .dat d :: xs,v :: vs,ds,.cons r t,e=>by
  unfold qv at e;cases q:qv xs with
  | none=>rw [q] at e;cases e
  | some es=>rw [q] at e;cases e;exact .cons' r (vz t q)
 | .feed :: xs,_,ds,.cons r t,e=>by cases e
 | .own _ :: xs,_,ds,.cons r t,e=>by cases e
 | .exc _ :: xs,_,ds,.cons r t,e=>by cases e
 | .mon _ :: xs,_,ds,.cons r t,e=>by cases e
theorem cK {t:TA} (h:PAd K f t ρ fun xs=>∃ ds,qv xs=some ds/\ds.length<=1000/\P (.list ds)):PEd K f (nX t) ρ P:=fun σ H Q e q =>
 h σ H _ e fun xs vs H1 g1 r1 ⟨ds,ea,hl,p⟩=>by
  have rs:=vz r1 ea;refine⟨by rw [rs.length];exact Fj (yg hl),fun l hn=>?_⟩;have sm:=yc hn (.lst vs);have g2:Goes f H1 (upd H1 l (.lst vs)):=.of_same sm g1.2;exact q (.list ds) _ _ (g1.trans g2) (zB.mpr ⟨l,vs,rfl,.of (zC (fresh_ne g1.2 hn) zy),Reps.mono g2.1 ds vs rs⟩) p
theorem ve {t:TA} (h:PAd K f t ρ fun xs=>∃ ds,qv xs=some ds/\ds.length<=1000/\P (.tuple ds)):PEd K f (Ck t) ρ P:=fun σ H Q e q =>
 h σ H _ e fun xs vs H1 g1 r1 ⟨ds,ea,hl,p⟩=>by
  have rs:=vz r1 ea;refine⟨by rw [rs.length];exact Fj (yg hl),fun l hn=>?_⟩;have sm:=yc hn (.tup vs);have g2:Goes f H1 (upd H1 l (.tup vs)):=.of_same sm g1.2;exact q (.tuple ds) _ _ (g1.trans g2) (zZ.mpr ⟨l,vs,rfl,.of (zC (fresh_ne g1.2 hn) zy),Reps.mono g2.1 ds vs rs⟩) p
theorem zr {γ:Type} {n:Nat} {pre:γ->List DV->Prop} {post:γ->PyData->Prop} {E:XK} {t:TA} (c:γ) (h:PAd K f t ρ fun xs=>xs.length=n/\pre c xs/\∀ r,post c r->P r):PEd K f (dZ (spD K n pre post) [] E t) ρ P:=fun σ H Q e q =>
 h σ H _ e fun xs vs H1 g1 r1 ⟨hl,hp,k⟩=>by
  refine⟨f,xs,c,by rw [EO];exact r1,hl,g1.2,hp,fun r v H' g' r' p'=>q r v H' (g1.trans g') r' (k r p')⟩
theorem om {r:List V->Hp->VK->Prop} {t:TA} (h:PAd K f t ρ fun xs=>∃ ds,qv xs=some ds/\∀ (vs:List V) (H:Hp) (Q:VK),FOk f H->Reps K (hide H f) ds vs->(∀ d u H',Goes f H H'->Rep K (hide H' f) d u->P d->Q u H')->r vs H Q):PEd K f (tCB r t) ρ P:=fun σ H Q e q =>
 h σ H _ e fun xs vs H1 g1 r1 ⟨ds,ea,k⟩=>k vs H1 Q g1.2 (vz r1 ea) fun d u H' g' r' p'=>q d u H' (g1.trans g') r' p'
end
section
variable {K:DT} {f:Fx} {ρ:zq} {P:PyData->Prop} {B:Bool->Prop} {te ta tb tc:TE} {tt tu:TT}
theorem PTd.imp {B':Bool->Prop} (h:PTd K f tt ρ B) (i:∀ d,B d->B' d):PTd K f tt ρ B':=fun σ H Q e q=>h σ H Q e fun d H' g p=>q d H' g (i d p)
theorem jN (h:PEd K f te ρ fun d=>∃ k,d=.bool k/\B k):PTd K f (gT te) ρ B:=fun σ H Q e q=>h σ H _ e fun d v H' g r ⟨k,ed,p⟩=>by
 subst ed;exact⟨k,yo.mp r,q k H' g p⟩
theorem t_b (h:PEd K f te ρ fun d=>∃ k,d=.bool k/\B k):PTd K f (tB te) ρ B:=fun σ H Q e q=>h σ H _ e fun d v H' g r ⟨k,ed,p⟩=>by
 subst ed;exact⟨k,yo.mp r,q k H' g p⟩
theorem l7 (h:PTd K f tt ρ fun c=>if c=true then PTd K f tu ρ B else B false):PTd K f (Cf tt tu) ρ B:=fun σ H Q e q=>h σ H _ e fun c H1 g p=>by
 cases c with
 | true =>
  rw [Jy rfl] at p ⊢;exact p σ H1 Q (e.mono g) fun b H2 g2 p2=>q b H2 (g.trans g2) p2
 | false =>
  rw [Jx DX] at p ⊢;exact q false H1 g p
theorem AS (h:PTd K f tt ρ fun c=>if c=true then B true else PTd K f tu ρ B):PTd K f (tOr tt tu) ρ B:=fun σ H Q e q=>h σ H _ e fun c H1 g p=>by
 cases c with
 | true =>
  rw [Jy rfl] at p ⊢;exact q true H1 g p
 | false =>
  rw [Jx DX] at p ⊢;exact p σ H1 Q (e.mono g) fun b H2 g2 p2=>q b H2 (g.trans g2) p2
theorem hE (h:PTd K f tt ρ fun c=>B (!c)):PTd K f (Cg tt) ρ B:=fun σ H Q e q=>h σ H _ e fun c H1 g p=>q (!c) H1 g p
noncomputable def DE:PyData->Option Bool
 | .none=>some false
 | .bool b=>some b
 | .int i=>some (i != 0)
 | .list ds=>some (!ds.isEmpty)
 | .tuple ds=>some (!ds.isEmpty)
 | _=>none
def AU (K:DT) (ta:TE):TT:=fun σ H Q=>ta σ H fun x H'=>∃ k,AH K x H' k/\Q k H'
theorem AV {X:Cx} {a:Expr} (ha:PE X a ta) (he:∀ whole,isTrue a X.env whole=(do let v <- whole;standAt a.pos;holding [v] (truthy v))):PT X a (AU X.K ta):=rG ha he
theorem j4 (h:PEd K f ta ρ fun d=>∃ k,DE d=some k/\B k):PTd K f (AU K ta) ρ B:=fun σ H Q e q=>h σ H _ e fun d v H' g r ⟨k,ed,p⟩=>by
 refine⟨k,?_,q k H' g p⟩;cases d with
 | none=>rw [ao.mp r];cases ed;rfl
 | bool b=>rw [yo.mp r];cases ed;rfl
 | int i=>rw [zw.mp r];cases ed;rfl
 | str x=>cases ed
 | list ds =>
  obtain⟨a,xs,rfl,h1,h2⟩:=zB.mp r;cases ed;refine .inl ⟨xs,(zf _ _).seq h1,?_⟩;cases ds with
  | nil=>rw [zP.mp h2];rfl
  | cons d ds=>obtain⟨x,r,rfl,_⟩:=zH.mp h2;rfl
 | tuple ds =>
  obtain⟨a,xs,rfl,h1,h2⟩:=zZ.mp r;cases ed;refine .inr (.inl ⟨xs,(zf _ _).seqT h1,?_⟩);cases ds with
  | nil=>rw [zP.mp h2];rfl
  | cons d ds=>obtain⟨x,r,rfl,_⟩:=zH.mp h2;rfl
 | dict _=>cases ed
theorem AW (h:PTd K f tt ρ fun c=>if c=true then PEd K f ta ρ P else PEd K f tb ρ P):PEd K f (tIf tt ta tb) ρ P:=fun σ H Q e q=>h σ H _ e fun c H1 g p=>by
 cases c with
 | true=>rw [Jy rfl] at p ⊢;exact p σ H1 Q (e.mono g) fun d v H2 g2 r2 p2=>q d v H2 (g.trans g2) r2 p2
 | false=>rw [Jx DX] at p ⊢;exact p σ H1 Q (e.mono g) fun d v H2 g2 r2 p2=>q d v H2 (g.trans g2) r2 p2
theorem kL (h:PEd K f ta ρ fun x=>∃ c,x=.bool c/\if c=true then PEd K f tb ρ P else P (.bool false)):PEd K f (xN ta tb) ρ P:=fun σ H Q e q=>h σ H _ e fun x v H1 g r ⟨c,ex,p⟩=>by
 subst ex;refine⟨c,yo.mp r,?_⟩;cases c with
 | true=>rw [Jy rfl] at p ⊢;exact p σ H1 Q (e.mono g) fun d v H2 g2 r2 p2=>q d v H2 (g.trans g2) r2 p2
 | false=>rw [Jx DX] at p ⊢;exact q _ _ H1 g (yo.mpr rfl) p
theorem l8 {g g':Int->Int->Bool} (h:PEd K f ta ρ fun x=>∃ i,x=.int i/\PEd K f tb ρ fun y=>∃ j,y=.int j/\if g i j=true then PEd K f tc ρ fun z=>∃ k,z=.int k/\P (.bool (g' j k)) else P (.bool false)) :
  PEd K f (rF (rI0 fun i j=>.bl (g i j)) (rI0 fun i j=>.bl (g' i j)) ta tb tc) ρ P:=fun σ H Q e q=>h σ H _ e fun x v H1 g1 r1 ⟨i,ex,p1⟩=>p1 σ H1 _ (e.mono g1) fun y w H2 g2 r2 ⟨j,ey,p2⟩=>by
 subst ex ey;refine⟨i,j,zw.mp r1,zw.mp r2,g i j,rfl,?_⟩;by_cases hg:g i j=true
 ·rw [Jy hg] at p2 ⊢;exact p2 σ H2 _ ((e.mono g1).mono g2) fun z u H3 g3 r3 ⟨k,ez,p3⟩=>by
   subst ez;exact⟨j,k,zw.mp r2,zw.mp r3,q _ _ H3 (g1.trans (g2.trans g3)) (yo.mpr rfl) p3⟩
 ·rw [Jx hg] at p2 ⊢;exact q _ _ H2 (g1.trans g2) (yo.mpr rfl) p2
theorem l9 {t:TA} (h:PAd K f t ρ fun xs=>(∃ ds,xs=[.dat (.list ds)]/\P (.int ds.length)) \/ (∃ ds,xs=[.dat (.tuple ds)]/\P (.int ds.length))) :
  PEd K f (tCB (fun xs H Q=>∃ p ys,xs=[.ref p]/\(SqL K H p ys \/ SqT K H p ys)/\Q (.int ys.length) H) t) ρ P :=
 om fun σ H Q e q=>h σ H Q e fun xs vs H' g r p=>by
  rcases p with⟨ds,rfl,p⟩ | ⟨ds,rfl,p⟩
  ·refine q _ vs H' g r ⟨_,rfl,fun vs H Q fo rs k=>?_⟩;obtain⟨x,r,rfl,h2,h3⟩:=zH.mp rs;rw [zP.mp h3];obtain⟨a,ys,rfl,s1,s2⟩:=zB.mp h2;exact⟨a,ys,rfl,.inl ((zf _ _).seq s1),k (.int ds.length) _ H (.refl fo) (zw.mpr (by rw [s2.length])) p⟩
  ·refine q _ vs H' g r ⟨_,rfl,fun vs H Q fo rs k=>?_⟩;obtain⟨x,r,rfl,h2,h3⟩:=zH.mp rs;rw [zP.mp h3];obtain⟨a,ys,rfl,s1,s2⟩:=zZ.mp h2;exact⟨a,ys,rfl,.inr ((zf _ _).seqT s1),k (.int ds.length) _ H (.refl fo) (zw.mpr (by rw [s2.length])) p⟩
theorem rQ {t:TA} (h:PAd K f t ρ fun xs=>∃ ns:List Int,xs=[.dat (.list (ns.map .int))]/\ns≠[]/\∀ M,M∈ns->(∀ b∈ns,M<=b)->P (.int M)) :
  PEd K f (tCB (fun xs H Q=>∃ a ns,xs=[.ref a]/\SqL K H a (ns.map V.int)/\ns≠[]/\∀ M,M∈ns->(∀ b∈ns,M<=b)->Q (.int M) H) t) ρ P :=
 om fun σ H Q e q=>h σ H Q e fun xs vs H' g r ⟨ns,ex,hne,p⟩=>by
  subst ex;refine q _ vs H' g r ⟨_,rfl,fun vs H Q fo rs k=>?_⟩;obtain⟨x,r,rfl,h2,h3⟩:=zH.mp rs;rw [zP.mp h3];obtain⟨a,ys,rfl,s1,s2⟩:=zB.mp h2;rw [s2.ints] at s1;exact⟨a,ns,rfl,(zf _ _).seq s1,hne,fun M h1 h2=>k (.int M) _ H (.refl fo) (zw.mpr rfl) (p M h1 h2)⟩
theorem kM {t:TA} (h:PAd K f t ρ fun xs=>∃ ns:List Int,xs=[.dat (.list (ns.map .int))]/\ns≠[]/\∀ M,M∈ns->(∀ b∈ns,b<=M)->P (.int M)) :
  PEd K f (tCB (fun xs H Q=>∃ a ns,xs=[.ref a]/\SqL K H a (ns.map V.int)/\ns≠[]/\∀ M,M∈ns->(∀ b∈ns,b<=M)->Q (.int M) H) t) ρ P :=
 om fun σ H Q e q=>h σ H Q e fun xs vs H' g r ⟨ns,ex,hne,p⟩=>by
  subst ex;refine q _ vs H' g r ⟨_,rfl,fun vs H Q fo rs k=>?_⟩;obtain⟨x,r,rfl,h2,h3⟩:=zH.mp rs;rw [zP.mp h3];obtain⟨a,ys,rfl,s1,s2⟩:=zB.mp h2;rw [s2.ints] at s1;exact⟨a,ns,rfl,(zf _ _).seq s1,hne,fun M h1 h2=>k (.int M) _ H (.refl fo) (zw.mpr rfl) (p M h1 h2)⟩
theorem rR {g:Int->Int->Int} {t:TA} (h:PAd K f t ρ fun xs=>∃ i j,xs=[.dat (.int i),.dat (.int j)]/\P (.int (g i j))):PEd K f (tCB (fun xs H Q=>∃ i j,xs=[.int i,.int j]/\Q (.int (g i j)) H) t) ρ P :=
 om fun σ H Q e q=>h σ H Q e fun xs vs H' g' r ⟨i,j,ex,p⟩=>by
  subst ex;refine q _ vs H' g' r ⟨_,rfl,fun vs H Q fo rs k=>?_⟩;obtain⟨x,r,rfl,h2,h3⟩:=zH.mp rs;obtain⟨y,r',rfl,h4,h5⟩:=zH.mp h3;rw [zP.mp h5,zw.mp h2,zw.mp h4];exact⟨i,j,rfl,k _ _ H (.refl fo) (zw.mpr rfl) p⟩
theorem kN {g:Int->Int} {t:TA} (h:PAd K f t ρ fun xs=>∃ i,xs=[.dat (.int i)]/\P (.int (g i))):PEd K f (tCB (fun xs H Q=>∃ i,xs=[.int i]/\Q (.int (g i)) H) t) ρ P :=
 om fun σ H Q e q=>h σ H Q e fun xs vs H' g' r ⟨i,ex,p⟩=>by
  subst ex;refine q _ vs H' g' r ⟨_,rfl,fun vs H Q fo rs k=>?_⟩;obtain⟨x,r,rfl,h2,h3⟩:=zH.mp rs;rw [zP.mp h3,zw.mp h2];exact⟨i,rfl,k _ _ H (.refl fo) (zw.mpr rfl) p⟩
end
section
variable {K:DT} {f:Fx} {ρ:zq} {D:DEnds} {te ta tb:TE} {tt:TT} {ts tu:TS}
theorem vi (p:D.nx ρ):PSd K f lT ρ D:=fun σ H E e n _ _ _=>n ρ σ H (.refl e.fd) e p
theorem zT (h:PSd K f ts ρ { D with nx:=fun ρ'=>PSd K f tu ρ' D }):PSd K f (qt ts tu) ρ D:=fun σ H E e n r b c =>
 h σ H { E with nx:=tu E } e (fun ρ' σ' H' g e' p=>p σ' H' E e' (fun ρ'' σ'' H'' g' e'' p'=>n ρ'' σ'' H'' (g.trans g') e'' p') (fun d v H'' g' r' p'=>r d v H'' (g.trans g') r' p') (fun ρ'' σ'' H'' g' e'' p'=>b ρ'' σ'' H'' (g.trans g') e'' p') (fun ρ'' σ'' H'' g' e'' p'=>c ρ'' σ'' H'' (g.trans g') e'' p')) r b c
theorem yL (h:PEd K f te ρ D.rt):PSd K f (gO te) ρ D:=fun σ H E e n r b c=>h σ H _ e r
theorem vj (h:PEd K f te ρ fun _=>D.nx ρ):PSd K f (dW te) ρ D:=fun σ H E e n r b c=>h σ H _ e fun d v H' g _ p=>n ρ σ H' g (e.mono g) p
theorem dI (h:PTd K f tt ρ fun b=>if b=true then PSd K f ts ρ D else PSd K f tu ρ D):PSd K f (rq tt ts tu) ρ D:=fun σ H E e n r b c=>h σ H _ e fun k H1 g p=>by
 cases k with
 | true =>
  rw [Jy rfl] at p ⊢;exact p σ H1 E (e.mono g) (fun ρ'' σ'' H'' g' e'' p'=>n ρ'' σ'' H'' (g.trans g') e'' p') (fun d v H'' g' r' p'=>r d v H'' (g.trans g') r' p') (fun ρ'' σ'' H'' g' e'' p'=>b ρ'' σ'' H'' (g.trans g') e'' p') (fun ρ'' σ'' H'' g' e'' p'=>c ρ'' σ'' H'' (g.trans g') e'' p')
 | false =>
  rw [Jx DX] at p ⊢;exact p σ H1 E (e.mono g) (fun ρ'' σ'' H'' g' e'' p'=>n ρ'' σ'' H'' (g.trans g') e'' p') (fun d v H'' g' r' p'=>r d v H'' (g.trans g') r' p') (fun ρ'' σ'' H'' g' e'' p'=>b ρ'' σ'' H'' (g.trans g') e'' p') (fun ρ'' σ'' H'' g' e'' p'=>c ρ'' σ'' H'' (g.trans g') e'' p')
def PGd (K:DT) (f:Fx) (g:TG) (d:PyData) (ρ:zq) (R:zq->Prop):Prop:=∀ (σ:St) (H:Hp) (v:V) (Q:St->Hp->Prop),EnvOk K f ρ σ H->Rep K (hide H f) d v->(∀ ρ' σ' H',Goes f H H'->EnvOk K f ρ' σ' H'->R ρ'->Q σ' H')->g v σ H Q
def rS (K:DT) (f:Fx) (g:TGs) (ds:List PyData) (ρ:zq) (R:zq->Prop):Prop:=∀ (σ:St) (H:Hp) (vs:List V) (Q:St->Hp->Prop),EnvOk K f ρ σ H->Reps K (hide H f) ds vs->(∀ ρ' σ' H',Goes f H H'->EnvOk K f ρ' σ' H'->R ρ'->Q σ' H')->g vs σ H Q
theorem zi {i:Nat} {d:PyData} {R:zq->Prop} (h:R (ρ.set i (some (.dat d)))):PGd K f (yS i) d ρ R:=fun σ H v Q e r q=>q _ _ H (.refl e.fd) (e.set i (x:=.dat d) r) h
theorem zV {R:zq->Prop} (h:R ρ):rS K f AB [] ρ R:=fun σ H vs Q e r q=>⟨zP.mp r,q ρ σ H (.refl e.fd) e h⟩
theorem zm {g:TG} {gs:TGs} {d:PyData} {ds:List PyData} {R:zq->Prop} (h:PGd K f g d ρ fun ρ'=>rS K f gs ds ρ' R):rS K f (gQ g gs) (d :: ds) ρ R:=fun σ H vs Q e r q=>by
 obtain⟨x,r',rfl,h2,h3⟩:=zH.mp r;exact⟨x,r',rfl,h σ H x _ e h2 fun ρ' σ' H' g' e' p=>p σ' H' r' Q e' (Reps.mono g'.1 ds r' h3) fun ρ'' σ'' H'' g'' e'' p'=>q ρ'' σ'' H'' (g'.trans g'') e'' p'⟩
theorem yz {n:Nat} {gs:TGs} {ds:List PyData} {R:zq->Prop} (hn:ds.length=n) (h:rS K f gs ds ρ R):PGd K f (uK K n gs) (.tuple ds) ρ R:=fun σ H v Q e r q=>by
 obtain⟨a,xs,rfl,h1,h2⟩:=zZ.mp r;exact⟨a,xs,rfl,(zf _ _).seqT h1,by rw [h2.length];exact hn,h σ H xs Q e h2 q⟩
theorem yj {g:TG} (h:PEd K f te ρ fun d=>PGd K f g d ρ D.nx):PSd K f (qe te g) ρ D:=fun σ H E e n r b c =>
 h σ H _ e fun d v H1 g1 r1 p1=>p1 σ H1 v _ (e.mono g1) r1 fun ρ' σ' H' g' e' p'=>n ρ' σ' H' (g1.trans g') e' p'
end
section
variable {K:DT} {f:Fx} {ρ:zq} {D:DEnds} {te ta tb:TE} {tt:TT} {ts tu:TS} {g:TG}
theorem kO {t:TA} (h:PAd K f t ρ fun xs=>∃ ds,xs=[.dat (.list ds)]/\∃ J:Nat->zq->Prop,J 0 ρ /\
   (∀ (i:Nat) d ρ',ds[i]?=some d->J i ρ'->PGd K f g (.tuple [.int i,d]) ρ' fun ρ2=>PSd K f ts ρ2 { D with nx:=J (i+1),ct:=J (i+1),bk:=D.nx })/\∀ ρ',J ds.length ρ'->D.nx ρ') :
  PSd K f (nU (l4 K t) g ts) ρ D:=fun σ H E e n r b c=>h σ H _ e fun xs vs H1 g1 r1 ⟨ds,ex,J,j0,js,jd⟩=>by
 subst ex;cases r1 with
 | cons rx r' =>
  cases r';obtain⟨a,xs,rfl,h1,h2⟩:=zB.mp rx;have hl:=h2.length;refine⟨a,rfl,⟨xs,(zf _ _).seq h1⟩,rM (K:=K) (a:=a) (xs:=xs) (fun i σ' H'=>∃ ρ',EnvOk K f ρ' σ' H'/\Goes f H H'/\Goes f H1 H'/\J i ρ') ⟨ρ,e.mono g1,g1,.refl g1.2,j0⟩ (fun i σ' H' _ ⟨ρ',e',g',g1',p⟩=>(zf _ _).seq (g1'.1.seq h1)) (fun i y σ' H' tp hy ⟨ρ',e',g',g1',p⟩ hn=>?_) fun σ' H' ⟨ρ',e',g',_,p⟩=>n ρ' σ' H' g' e' (jd ρ' (by rw [<-hl];exact p))⟩;have hi:i<ds.length:=by rw [<-hl];exact (DU.mp hy).1
  obtain⟨z,hz,rz⟩:=h2.get (DQ hi);rw [hy] at hz;cases hz;have gn:Goes f H' (upd H' tp (.tup [.int i,y])):=.of_same (yc hn _) e'.fd;have rt:Rep K (hide (upd H' tp (.tup [.int i,y])) f) (.tuple [.int i,ds[i]]) (.ref tp):=zZ.mpr ⟨tp,_,rfl,.of (zC (fresh_ne e'.fd hn) zy),.cons' (zw.mpr rfl) (.cons' (Rep.mono gn.1 _ _ (Rep.mono g1'.1 _ _ rz)) .nil')⟩;refine js i _ ρ' (DQ hi) p σ' _ _ _ (e'.mono gn) rt fun ρ2 σ2 H2 g2' e2 p2=>?_;have g2:=gn.trans g2';exact p2 σ2 H2 _ e2 (fun ρ3 σ3 H3 g3 e3 p3=>⟨ρ3,e3,g'.trans (g2.trans g3),g1'.trans (g2.trans g3),p3⟩) (fun d v H3 g3 r3 p3=>r d v H3 (g'.trans (g2.trans g3)) r3 p3) (fun ρ3 σ3 H3 g3 e3 p3=>n ρ3 σ3 H3 (g'.trans (g2.trans g3)) e3 p3) (fun ρ3 σ3 H3 g3 e3 p3=>⟨ρ3,e3,g'.trans (g2.trans g3),g1'.trans (g2.trans g3),p3⟩)
end
noncomputable def frD (fr:List Nat) (ρ:zq):zq:=fr.map fun j=>(ρ[j]?).getD none
noncomputable def vX (own:Nat) (fr:List Nat) (ρ:zq):zq:=GU own none++frD fr ρ
noncomputable abbrev Fx.with (f:Fx) (D:DY):Fx:=⟨f.f,D :: f.M⟩
section
variable {K:DT} {f:Fx} {ρ:zq} {σ:St} {H H':Hp} {D:DY} {o:HO}
theorem eC {own:Nat} {fr:List Nat} (e:EnvOk K f ρ σ H):EnvOk K f (vX own fr ρ) (jB own fr σ) H:=by
 refine⟨by unfold vX jB frD;simp,fun i x h=>?_,e.fd⟩;unfold vX frD at h;unfold jB;by_cases hi:i<own
 ·rw [Ec (by simpa using hi),Gz] at h;split at h <;> cases h
 ·rw [Ee (by simpa using hi)] at h ⊢;simp only [Ho,D7] at h ⊢;cases hj:fr[i - own]? with
  | none=>rw [hj] at h;cases h
  | some j =>
   rw [hj] at h;have h':(ρ[j]?).getD none=some x:=Option.some.inj h;have hρ:ρ[j]?=some (some x):=by
    cases q:ρ[j]? with
    | none=>rw [q] at h';cases h'
    | some w=>rw [q] at h';exact congrArg some h'
   obtain⟨v,h1,h2⟩:=e.get j x hρ;exact⟨v,by simp [h1],h2⟩
theorem yE:hide (upd H D o) (f.with D)=hide H (f.with D):=by
 funext b
 unfold hide;by_cases hb:f.f=some b \/ b∈D :: f.M
 ·rw [Jy hb,Jy hb]
 ·rw [Jx hb,Jx hb];have:b≠D:=fun z=>hb (.inr (z▸D4));exact zu this
theorem yH:Same (hide H (f.with D)) (hide H f):=fun b o h=>by
 obtain⟨h1,h2⟩:=zI h;exact zC (fun z=>h1 (z.elim .inl fun z=>.inr (DW _ z))) h2
theorem qh (hn:H D=none):Same (hide H f) (hide (upd H D o) (f.with D)):=fun b u h=>by
 obtain⟨h1,h2⟩:=zI h;have hb:b≠D:=zM h2 hn;exact zC (fun z=>z.elim (fun z=>h1 (.inl z)) fun z=>(D5.mp z).elim hb fun z=>h1 (.inr z)) (by rw [zu hb];exact h2)
theorem rT (h:FOk f H) (hn:H D=none):FOk (f.with D) (upd H D o) :=
 ⟨fun p e=>let⟨a,b,h1,h2⟩:=h.fd p e;⟨a,b,by rw [zu (zM h1 hn)];exact h1,h2⟩,fun b hb=>by
  rcases D5.mp hb with rfl | hb
  ·exact⟨_,zy⟩
  ·obtain⟨o',h1⟩:=h.mm b hb;exact⟨o',by rw [zu (zM h1 hn)];exact h1⟩,fun p e hp=>by
  rcases D5.mp hp with rfl | hp
  ·exact fresh_ne h hn (.inl e)
  ·exact h.nm p e hp⟩
theorem kP (e:EnvOk K f ρ σ H) (hn:H D=none):EnvOk K (f.with D) ρ σ (upd H D o) :=
 ⟨e.len,fun i x h=>let⟨v,h1,h2⟩:=e.get i x h;⟨v,h1,by
  cases x with
  | dat d=>exact Rep.mono (qh hn) d v h2
  | feed=>exact h2
  | own k =>
   obtain⟨p,h3,h4⟩:=h2;refine⟨p,?_,h4⟩;show (D :: f.M).reverse[k]?=some p;rw [EY,Ec (DU.mp h3).1];exact h3
  | exc C =>
   obtain⟨a,h3,h4⟩:=h2;exact⟨a,h3,qh hn _ _ h4⟩
  | mon φ=>exact fun H' s=>h2 H' ((qh hn).trans s)⟩,rT e.fd hn⟩
theorem ma (hD:f.f≠some D) (e:EnvOk K (f.with D) ρ σ H):EnvOk K (f.with D) ρ σ (upd H D o) :=
 ⟨e.len,fun i x h=>let⟨v,h1,h2⟩:=e.get i x h;⟨v,h1,by
  cases x with
  | dat d =>
   have h2':Rep K (hide H (f.with D)) d v:=h2;show Rep K (hide (upd H D o) (f.with D)) d v;rw [yE];exact h2'
  | feed=>exact h2
  | own k=>exact h2
  | exc C =>
   obtain⟨a,h3,h4⟩:=h2;refine⟨a,h3,?_⟩;rw [yE];exact h4
  | mon φ =>
   intro H' s;rw [yE] at s;exact h2 H' s⟩,⟨fun p ep=>let⟨a,b,h1,h2⟩:=e.fd.fd p ep;⟨a,b,by rw [zu (fun z=>hD (by rw [<-z];exact ep))];exact h1,h2⟩,fun b hb=>by
   by_cases hb':b=D
   ·subst hb';exact⟨_,zy⟩
   ·rw [zu hb'];exact e.fd.mm b hb,e.fd.nm⟩⟩
end
section
variable {K:DT} {f:Fx} {ρ:zq} {P:PyData->Prop} {te tl:TE} {tt:TT} {g:TG} {own:Nat} {fr:List Nat}
structure CSt (K:DT) (f:Fx) (D:DY) (H2:Hp) (ρ':zq) (es:List PyData) (σ:St) (H:Hp):Prop where
 env:EnvOk K (f.with D) ρ' σ H
 sm:Same (hide H2 (f.with D)) (hide H (f.with D))
 kp:∀ b∈f.M,H b=H2 b
 lst:∃ vs,H D=some (.lst vs)/\Reps K (hide H (f.with D)) es vs
theorem CSt.go {D:DY} {H2 H H':Hp} {ρ':zq} {es:List PyData} {σ:St} (c:CSt K f D H2 ρ' es σ H) (gg:Goes (f.with D) H H') {ρ2:zq} {σ2:St} (e2:EnvOk K (f.with D) ρ2 σ2 H'):CSt K f D H2 ρ2 es σ2 H' :=
 ⟨e2,c.sm.trans gg.sm,fun b hb=>(gg.kp b (DW _ hb)).trans (c.kp b hb),let⟨vs,h1,h2⟩:=c.lst;⟨vs,(gg.kp D D4).trans h1,Reps.mono gg.sm es vs h2⟩⟩
theorem CSt.put {D:DY} {H2 H:Hp} {ρ':zq} {es:List PyData} {σ:St} {d:PyData} {v:V} {vs:List V} (hD:f.f≠some D) (hM:D∉f.M) (c:CSt K f D H2 ρ' es σ H) (h1:H D=some (.lst vs)) (h2:Reps K (hide H (f.with D)) es vs) (r:Rep K (hide H (f.with D)) d v) :
  CSt K f D H2 ρ' (es++[d]) σ (upd H D (.lst (vs++[v]))) :=
 ⟨ma hD c.env,by rw [yE];exact c.sm,fun b hb=>(zu (fun (z:b=D)=>hM (z▸hb))).trans (c.kp b hb),⟨_,zy,by rw [yE];exact h2.snoc r⟩⟩
theorem eD {D:DY} {H2 H:Hp} {ρ':zq} {es:List PyData} {σ:St} {d:PyData} {v:V} {W:St->Hp->Prop} {R:zq->List PyData->Prop} (hD:f.f≠some D) (hM:D∉f.M) (c:CSt K f D H2 ρ' es σ H) (hl:es.length<1000) (r:Rep K (hide H (f.with D)) d v)
  (h:PGd K (f.with D) g d ρ' fun ρ2=>PTd K (f.with D) tt ρ2 fun b=>if b=true then PEd K (f.with D) te ρ2 fun e=>R ρ2 (es++[e]) else R ρ2 es)
  (hW:∀ ρ2 es2 σ2 H',CSt K f D H2 ρ2 es2 σ2 H'->R ρ2 es2->W σ2 H') :
  g v σ H fun σ2 H3=>tt σ2 H3 fun b H4=>if b=true then qC D te σ2 H4 W else W σ2 H4:=by
 refine h σ H v _ c.env r fun ρ2 σ2 H3 g3 e3 p3=>?_;have c3:=c.go g3 e3;refine p3 σ2 H3 _ e3 fun b H4 g4 p4=>?_;have c4:=c3.go g4 (e3.mono g4);cases b with
 | false =>
  rw [Jx DX] at p4 ⊢;exact hW _ _ _ _ c4 p4
 | true =>
  rw [Jy rfl] at p4 ⊢;refine p4 σ2 H4 _ (e3.mono g4) fun e u H5 g5 r5 p5=>?_;have c5:=c4.go g5 ((e3.mono g4).mono g5);obtain⟨vs,h1,h2⟩:=c5.lst;exact⟨vs,h1,yg (by rw [h2.length];omega),hW _ _ _ _ (c5.put hD hM h1 h2 r5) p5⟩
theorem cL {D:DY} {H1 H:Hp} {ρ':zq} {es:List PyData} {σ σ':St} (hn:H1 D=none) (fo:FOk f H1) (c:CSt K f D (upd H1 D (.lst [])) ρ' es σ H):Goes f H1 H/\Rep K (hide H f) (.list es) (.ref D):=by
 obtain⟨vs,h1,h2⟩:=c.lst;have nD:=fresh_ne fo hn;refine⟨⟨((qh hn).trans c.sm).trans yH,⟨c.env.fd.fd,fun b hb=>c.env.fd.mm b (DW _ hb),fun p e hp=>c.env.fd.nm p e (DW _ hp)⟩,fun b hb=>?_⟩,zB.mpr ⟨D,vs,rfl,.of (zC nD h1),Reps.mono yH es vs h2⟩⟩;rw [c.kp b hb,zu];obtain⟨o,h3⟩:=fo.mm b hb;exact zM h3 hn
theorem vY {D:DY} {H1:Hp} {σ:St} (hn:H1 D=none) (e:EnvOk K f ρ σ H1):CSt K f D (upd H1 D (.lst [])) (vX own fr ρ) [] (jB own fr σ) (upd H1 D (.lst [])) :=
 ⟨kP (eC e) hn,Same.refl _,fun _ _=>rfl,⟨[],zy,.nil'⟩⟩
theorem uT {t:TA} (h:PAd K f t ρ fun xs=>∃ j:Int,xs=[.dat (.int j)]/\j<=1000/\-1000<=j/\∃ R:Nat->zq->List PyData->Prop,R 0 (vX own fr ρ) [] /\
   (∀ D (i:Nat) ρ' es,(i:Int)<j->R i ρ' es->PGd K (f.with D) g (.int i) ρ' fun ρ2=>PTd K (f.with D) tt ρ2 fun b=>if b=true then PEd K (f.with D) te ρ2 fun e=>R (i+1) ρ2 (es++[e]) else R (i+1) ρ2 es) /\
   (∀ i ρ' es,R i ρ' es->es.length<=i)/\∀ ρ' es,R j.toNat ρ' es->P (.list es)) :
  PEd K f (qD (lV t) own fr g tt fun D=>qC D te) ρ P:=fun σ H Q e q=>h σ H _ e fun xs vs H1 g1 r1 ⟨j,ex,b1,b2,R,r0,rs,rl,re⟩=>by
 subst ex;cases r1 with
 | @cons _ v0 _ _ rx r' =>
  cases r';have rx':Rep K (hide H1 f) (.int j) v0:=rx;refine⟨j,by rw [zw.mp rx'],by omega,by omega,fun D hn=>?_⟩;have nD:=fresh_ne g1.2 hn;have hD:f.f≠some D:=fun z=>nD (.inl z);have hM:D∉f.M:=fun z=>nD (.inr z);have e1:=e.mono g1;refine⟨fun i m σ' H'=>∃ ρ' es,CSt K f D (upd H1 D (.lst [])) ρ' es σ' H'/\R i ρ' es/\i<=j.toNat/\m+i=j.toNat,⟨j.toNat,_,[],vY hn e1,r0,EI _,rfl⟩,fun i m σ' H' ⟨ρ',es,c,p,hi,hm⟩=>?_⟩;by_cases hlt:i<j.toNat
  ·refine .inr ⟨hlt,fun x H3 hy=>?_⟩;obtain⟨rfl,rfl⟩:=hy;have hz:(0:Int)+(i:Int)=(i:Int):=Int.zero_add _;rw [hz];refine eD (R:=R (i+1)) hD hM c (by have:=rl i ρ' es p;omega) ((zw (K:=K)).mpr rfl) (rs D i ρ' es (by omega) p) fun ρ2 es2 σ2 H4 c2 p2=>?_;exact⟨m - 1,by omega,ρ2,es2,c2,p2,by omega,by omega⟩
  ·have ei:i=j.toNat:=by omega
   subst ei;obtain⟨ge,rep⟩:=cL (σ':=σ') hn g1.2 c;exact .inl ⟨D8 _,q _ _ H' (g1.trans ge) rep (re ρ' es p)⟩
theorem AX (h:PEd K f tl ρ fun x=>∃ ds,x=.list ds/\ds.length<=1000/\∃ R:Nat->zq->List PyData->Prop,R 0 (vX own fr ρ) [] /\
   (∀ D (i:Nat) d ρ' es,ds[i]?=some d->R i ρ' es->PGd K (f.with D) g d ρ' fun ρ2=>PTd K (f.with D) tt ρ2 fun b=>if b=true then PEd K (f.with D) te ρ2 fun e=>R (i+1) ρ2 (es++[e]) else R (i+1) ρ2 es) /\
   (∀ i ρ' es,R i ρ' es->es.length<=i)/\∀ ρ' es,R ds.length ρ' es->P (.list es)) :
  PEd K f (qD (dX K tl) own fr g tt fun D=>qC D te) ρ P:=fun σ H Q e q=>h σ H _ e fun x v H1 g1 r1 ⟨ds,ex,hz,R,r0,rs,rl,re⟩=>by
 subst ex;obtain⟨a,xs,rfl,s1,s2⟩:=zB.mp r1;have hl:=s2.length;refine⟨a,rfl,⟨xs,(zf _ _).seq s1⟩,fun D hn=>?_⟩;have nD:=fresh_ne g1.2 hn;have hD:f.f≠some D:=fun z=>nD (.inl z);have hM:D∉f.M:=fun z=>nD (.inr z);have e1:=e.mono g1;have keep:∀ {ρ':zq} {es:List PyData} {σ':St} {H':Hp},CSt K f D (upd H1 D (.lst [])) ρ' es σ' H'->Same (hide H1 f) (hide H' (f.with D)):=fun c=>(qh hn).trans c.sm;refine⟨fun i m σ' H'=>∃ ρ' es,CSt K f D (upd H1 D (.lst [])) ρ' es σ' H'/\R i ρ' es/\i<=ds.length/\m+i=ds.length,⟨ds.length,_,[],vY hn e1,r0,EI _,rfl⟩,fun i m σ' H' ⟨ρ',es,c,p,hi,hm⟩=>?_⟩;have sq:SqL K H' a xs:=(zf _ _).seq ((keep c).seq s1);by_cases hlt:i<ds.length
 ·obtain⟨z,hzz,rz⟩:=s2.get (DQ hlt);refine .inr ⟨⟨xs,z,sq,hzz⟩,fun x H3 hy=>?_⟩;obtain⟨rfl,hy⟩:=hy;have ez:=hy xs sq;rw [hzz] at ez;cases ez;refine eD (R:=R (i+1)) hD hM c (by have:=rl i ρ' es p;omega) (Rep.mono (keep c) _ _ rz) (rs D i _ ρ' es (DQ hlt) p) fun ρ2 es2 σ2 H4 c2 p2=>?_;exact⟨m - 1,by omega,ρ2,es2,c2,p2,by omega,by omega⟩
 ·have ei:i=ds.length:=by omega
  subst ei;obtain⟨ge,rep⟩:=cL (σ':=σ') hn g1.2 c;exact .inl ⟨⟨xs,sq,by omega⟩,q _ _ H' (g1.trans ge) rep (re ρ' es p)⟩
theorem hI {t:TA} (h:PAd K f t ρ fun xs=>∃ j:Int,xs=[.dat (.int j)]/\j<=1000/\-1000<=j/\∃ R:Nat->PyData->Prop,
   (∀ D (i:Nat),(i:Int)<j->PEd K (f.with D) te (some (.dat (.int i)) :: frD fr ρ) (R i))/\∀ es:List PyData,es.length=j.toNat->(∀ (i:Nat) e,es[i]?=some e->R i e)->P (.list es)) :
  PEd K f (qD (lV t) 1 fr (yS 0) kJ fun D=>qC D te) ρ P :=
 uT fun σ H Q e q=>h σ H Q e fun xs vs H' g' r' ⟨j,ex,b1,b2,R,rs,re⟩=>by
  refine q xs vs H' g' r' ⟨j,ex,b1,b2,fun i ρ' es=>(∃ x,ρ'=x :: frD fr ρ)/\es.length=i/\∀ (k:Nat) e,es[k]?=some e->R k e,⟨⟨none,rfl⟩,rfl,fun k e h=>by simp at h⟩,fun D i ρ' es hi p=>?_,fun i ρ' es p=>Gn p.2.1,fun ρ' es p=>re es p.2.1 p.2.2⟩;obtain⟨⟨x,rfl⟩,hl,hp⟩:=p;refine zi ?_;intro σ H Q e q;refine q true H (.refl e.fd) ?_;dsimp only;rw [Jy rfl];refine (rs D i hi).imp fun d hd=>⟨⟨_,rfl⟩,by rw [Eh,hl];rfl,fun k e hk=>?_⟩;by_cases hkl:k<es.length
  ·rw [Ec hkl] at hk;exact hp k e hk
  ·rw [Ee (by omega)] at hk;have hk0:k - es.length=0:=by
    have:=(DU.mp hk).1;simp at this;omega
   rw [hk0] at hk;cases hk;have:k=i:=by omega
   subst this;exact hd
theorem uU (h:PEd K f tl ρ fun x=>∃ ds,x=.list ds/\ds.length<=1000/\∃ R:Nat->PyData->Prop,
   (∀ D (i:Nat) d,ds[i]?=some d->PEd K (f.with D) te (some (.dat d) :: frD fr ρ) (R i))/\∀ es:List PyData,es.length=ds.length->(∀ (i:Nat) e,es[i]?=some e->R i e)->P (.list es)) :
  PEd K f (qD (dX K tl) 1 fr (yS 0) kJ fun D=>qC D te) ρ P :=
 AX (h.imp fun x ⟨ds,ex,hz,R,rs,re⟩=>by
  refine⟨ds,ex,hz,fun i ρ' es=>(∃ x,ρ'=x :: frD fr ρ)/\es.length=i/\∀ (k:Nat) e,es[k]?=some e->R k e,⟨⟨none,rfl⟩,rfl,fun k e h=>by simp at h⟩,fun D i d ρ' es hi p=>?_,fun i ρ' es p=>Gn p.2.1,fun ρ' es p=>re es p.2.1 p.2.2⟩;obtain⟨⟨x,rfl⟩,hl,hp⟩:=p;refine zi ?_;intro σ H Q e q;refine q true H (.refl e.fd) ?_;dsimp only;rw [Jy rfl];refine (rs D i d hi).imp fun d hd=>⟨⟨_,rfl⟩,by rw [Eh,hl];rfl,fun k e hk=>?_⟩;by_cases hkl:k<es.length
  ·rw [Ec hkl] at hk;exact hp k e hk
  ·rw [Ee (by omega)] at hk;have hk0:k - es.length=0:=by
    have:=(DU.mp hk).1;simp at this;omega
   rw [hk0] at hk;cases hk;have:k=i:=by omega
   subst this;exact hd)
end
section
variable {K:DT} {f:Fx} {ρ:zq} {D:DEnds} {te:TE} {i:Nat}
theorem hU {σ:St} {H:Hp} {p:DY} {a b:Int} (e:EnvOk K f ρ σ H) (ef:f.f=some p) (h0:0<=a) (h1:0<=b) (h2:b<2147483647):Goes f H (upd H p (.lst [.int a,.int b])) :=
 have hM:=e.fd.nm p ef
 ⟨fun x o h=>by
  obtain⟨n,hx⟩:=zI h;exact zC n (by rw [zu (fun z=>n (.inl (by rw [z];exact ef)))];exact hx),
 ⟨fun q eq=>by
   rw [ef] at eq;cases eq;exact⟨a,b,zy,h0,h1,h2⟩,fun x hx=>by
   by_cases hxp:x=p
   ·subst hxp;exact absurd hx hM
   ·rw [zu hxp];exact e.fd.mm x hx,e.fd.nm⟩,
fun x hx=>zu (fun z=>hM (z▸hx))⟩
theorem md (hi:ρ[i]?=some (some .feed)) (h:PEd K f te ρ fun d=>∃ a:Int,d=.int a/\0<=a/\D.nx ρ):PSd K f (qe te (gR (yD i) (tC (.int 0)) cH)) ρ D:=fun σ H E e n r b c=>h σ H _ e fun d v H1 g1 r1 ⟨a,ed,h0,p⟩=>by
 subst ed;obtain⟨u,h1,q,ef,eu⟩:=e.get i _ hi;obtain⟨a',b',hf,c1,c2,c3⟩:=g1.2.fd q ef;refine⟨u,h1,q,_,0,0,eu,rfl,hf,rfl,?_⟩;rw [zw.mp r1];have g2:Goes f H1 (upd H1 q (.lst [.int a,.int b'])):=hU (e.mono g1) ef h0 c2 c3;exact n ρ σ _ (g1.trans g2) ((e.mono g1).mono g2) p
theorem me (hi:ρ[i]?=some (some .feed)) (h:PEd K f te ρ fun d=>∃ a:Int,d=.int a/\0<=a/\a<2147483647/\D.nx ρ):PSd K f (qe te (gR (yD i) (tC (.int 1)) cH)) ρ D:=fun σ H E e n r b c=>h σ H _ e fun d v H1 g1 r1 ⟨a,ed,h0,h0',p⟩=>by
 subst ed;obtain⟨u,h1,q,ef,eu⟩:=e.get i _ hi;obtain⟨a',b',hf,c1,c2,c3⟩:=g1.2.fd q ef;refine⟨u,h1,q,_,1,1,eu,rfl,hf,rfl,?_⟩;rw [zw.mp r1];have g2:Goes f H1 (upd H1 q (.lst [.int a',.int a])):=hU (e.mono g1) ef c1 h0 h0';exact n ρ σ _ (g1.trans g2) ((e.mono g1).mono g2) p
end
theorem au {X:Cx} {x:Str} {i:Int} {t:Tok} {pos:Pos} (hg:Gl X x) (hm:X.mg x=some (.int i t)) (hd:(x == ("__debug__":Str))=false:=by decide):PE X (.Name x pos) (tC (.int i)):=uI hg hm ⟨t,rfl⟩ hd
noncomputable def qP (N:List Str) (xs:List DV):zq:=xs.map some++GU (N.length - xs.length) none
theorem qE {K:DT} {f:Fx} {H:Hp} {N:List Str} {xs:List DV} {vs:List V} (r:RepVs K f H xs vs) (fo:FOk f H):EnvOk K f (qP N xs) (start N vs) H:=by
 have hl:=r.length;refine⟨by unfold qP start;simp [hl],fun i x h=>?_,fo⟩;unfold qP at h;unfold start;have get:∀ {xs:List DV} {vs:List V} {i:Nat} {x:DV},RepVs K f H xs vs->xs[i]?=some x->∃ v,vs[i]?=some v/\RepV K f H x v:=by
  intro xs vs i x r
  induction r generalizing i with
  | nil=>intro h;simp at h
  | cons r1 r2 ih =>
   intro h;cases i with
   | zero=>simp at h;subst h;exact⟨_,rfl,r1⟩
   | succ i=>simp at h;obtain⟨v,h1,h2⟩:=ih h;exact⟨v,by simpa using h1,h2⟩
 by_cases hi:i<xs.length
 ·rw [Ec (by simpa using hi),D7] at h;cases q:xs[i]? with
  | none=>rw [q] at h;cases h
  | some y =>
   rw [q] at h;cases h;obtain⟨v,h1,h2⟩:=get r q;exact⟨v,by rw [Ec (by simp;omega),D7,h1];rfl,h2⟩
 ·rw [Ee (by simpa using hi),Gz] at h;split at h <;> cases h
structure Def (K:DT) (mg:Str->Option Value) (x:Str) (st:Stmt) (ps:List Str):Prop where
 ex:∃ (f:DY) (fd:FuncData),Fun K x x st f fd/\Binds K fd ps []/\mg x=some (.ref f)
structure FnIn (P:Program) (w:World) (K:DT) (mg:Str->Option Value) (base:Heap) (k:Nat) (x:Str) (ps:List Str) (sp:Sp):Prop where
 ex:∃ (f:DY) (fd:FuncData),FnOk P w K mg base CX0 k f fd ps sp/\mg x=some (.ref f)/\Ff K (.ref f)=true/\Binds K fd ps []
section
variable {P:Program} {w:World} {K:DT} {mg:Str->Option Value} {base:Heap} {j k n:Nat} {x:Str} {st:Stmt} {ps N:List Str} {γ:Type} {pre:γ->List DV->Prop} {post:γ->PyData->Prop} {sp:Sp}
theorem FnIn.mono (h:FnIn P w K mg base j x ps sp) (hk:j<=k):FnIn P w K mg base k x ps sp :=
 let⟨f,fd,a,b,c,d⟩:=h.ex;⟨f,fd,a.mono hk,b,c,d⟩
theorem Def.ok (F:Def K mg x st ps) (S:FnScope N ps (zj st)) (hn:ps.length=n)
  (h:∀ (fa:DY) (cdv:Value) (A:Around) (outer:List Env) (s:Shared) (H:Hp) (E:XK),Room k (A.deeper (envOfC x (zj st) s.heap.objs.size fa cdv)) ->
   ∃ t,PSs (yu CX0 P w K mg base N x (zj st) fa cdv A outer s H E).nox (yG st) t/\∀ (f:Fx) (xs:List DV) (c:γ),xs.length=n->pre c xs->PSd K f t (qP N xs) { nx:=fun _=>post c .none,rt:=post c }) :
  FnIn P w K mg base (k+1) x ps (spD K n pre post):=by
 obtain⟨fa,fd,F1,F2,F3⟩:=F.ex;refine⟨fa,fd,F1.ok S (fun vs H Q E h=>?_) (fun cdv A outer s H vs Q E hr hs=>?_),F3,F1.kp,F2⟩
 ·obtain⟨f,xs,c,r,hl,_⟩:=h;rw [r.length,hl,hn]
 ·obtain⟨f,xs,c,r,hl,fo,hp,q⟩:=hs;obtain⟨t,h1,h2⟩:=h fa cdv A outer s H E hr;exact⟨t,h1,h2 f xs c hl hp (start N vs) H _ (qE r fo) (fun _ _ H' g _ p=>q .none _ H' g (ao.mpr rfl) p) (fun d v H' g r p=>q d v H' g r p) (fun _ _ _ _ _ z=>z.elim) (fun _ _ _ _ _ z=>z.elim)⟩
theorem Def.raw (F:Def K mg x st ps) (S:FnScope N ps (zj st)) (len:∀ vs H Q E,sp vs H Q E->vs.length=ps.length)
  (h:∀ (fa:DY) (cdv:Value) (A:Around) (outer:List Env) (s:Shared) (H:Hp) (vs:List V) (Q:VK) (E:XK),Room k (A.deeper (envOfC x (zj st) s.heap.objs.size fa cdv))->sp vs H Q E ->
   ∃ t,PSs (yu CX0 P w K mg base N x (zj st) fa cdv A outer s H E).nox (yG st) t/\t { nx:=fun _ H'=>Q .non H',rt:=Q } (start N vs) H) :
  FnIn P w K mg base (k+1) x ps sp:=by
 obtain⟨fa,fd,F1,F2,F3⟩:=F.ex;exact⟨fa,fd,F1.ok S len (fun cdv A outer s H vs Q E hr hs=>h fa cdv A outer s H vs Q E hr hs),F3,F1.kp,F2⟩
theorem ze {X:Cx} {e:Expr} {es:List Expr} {t:TA} {p pos:Pos} (G:FnIn X.prog X.w X.K X.mg X.base k x ps sp) (hr:Room k X.A) (hg:Gl X x) (ha:PA X (e :: es) t) (hdb:(x == ("__debug__":Str))=false:=by decide)
  (he:EG (e :: es) X.env=(false,eval e X.env) :: EG es X.env:=by rfl) (hpl:(backTo pos (EG es X.env)).any (·.1)=false:=by rfl):PE X (.Call (.Name x p) (e :: es) [] pos) (dZ sp [] E0 t):=by
 obtain⟨f,fd,a,b,c,d⟩:=G.ex;exact uN a hr hg b c d .nil Cp ha hdb he hpl
end
section
variable {K:DT} {f:Fx} {ρ:zq} {σ:St} {H:Hp} {E:Ends} {ts tu:TS} {D:DEnds}
theorem rV (h:PSd K f ts ρ D) (e:EnvOk K f ρ σ H) (hn:∀ ρ' σ' H',Goes f H H'->EnvOk K f ρ' σ' H'->D.nx ρ'->tu E σ' H') (hr:∀ d v H',Goes f H H'->Rep K (hide H' f) d v->D.rt d->E.rt v H') (hb:∀ ρ,¬ D.bk ρ) (hc:∀ ρ,¬ D.ct ρ):qt ts tu E σ H :=
 h σ H { E with nx:=tu E } e hn hr (fun ρ' _ _ _ _ p=>(hb ρ' p).elim) (fun ρ' _ _ _ _ p=>(hc ρ' p).elim)
theorem hV {ta:TA} {Q:VK} {R:List PyData->Prop} (h:PAd K f ta ρ fun xs=>∃ ds,qv xs=some ds/\ds.length<=1000/\R ds) (e:EnvOk K f ρ σ H)
  (q:∀ p ds vs H1,Goes f H H1->H1 p=none->Reps K (hide H1 f) ds vs->R ds->Q (.ref p) (upd H1 p (.lst vs))):nX ta σ H Q :=
 h σ H _ e fun xs vs H1 g1 r1 ⟨ds,ea,hl,p⟩=>by
  have rs:=vz r1 ea;exact⟨by rw [rs.length];exact Fj (yg hl),fun l hn=>q l ds vs H1 g1 hn rs p⟩
end
section
variable {X:Cx} {e st:Expr} {te ts:TE} {pos p2:Pos}
def AY (K:DT) (te ts:TE):TE:=fun σ H Q=>te σ H fun x H1=>ts σ H1 fun y H2=>∃ a xs,x=.ref a/\y=.int (-1)/\SqL K H2 a xs/\∀ p,H2 p=none->Q (.ref p) (upd H2 p (.lst xs.reverse))
theorem AZ (he:PE X e te) (hst:PE X st ts):PE X (.Subscript e (.Slice none none (some st) p2) pos) (AY X.K te ts):=by
 intro Jw s σ H Q I h;refine Subscript_ (thn (he Jw s σ H _ I h) fun v s1 ⟨x,H1,I1,r1,q1⟩=>?_);refine wpAny_Slice ?_;rw [evalPart_none];refine D3 (D3 ?_);rw [evalPart_some];refine thn (hst Jw s1 σ H1 _ I1 q1) fun vs s3 ⟨y,H3,I3,r3,a,xs,ex,ey,hq,q⟩=>?_;subst ex ey;cases r1;obtain⟨t,rfl⟩:=r3;have I4:Inv X Jw σ H3 { s3 with heap:=s3.heap.push { cls:=.type "slice",data:=.fields #[.none,.none,.int (-1) t] } }:=I3.kept (t':=s3.toks) fun b ob q=>D6 _ q;show Eo (model X.prog X.w) X.A (subscriptTail e (.Slice none none (some st) p2) (.ref a) (.ref s3.heap.objs.size)) (EP X Jw σ Q) X.xe { s3 with heap:=s3.heap.push { cls:=.type "slice",data:=.fields #[.none,.none,.int (-1) t] } };obtain⟨its,r,ht,hz⟩:=I4.list hq;have hlen:=r.length;refine tail_any (ops:=[.ref a,.ref s3.heap.objs.size]) ht.isList.typeIs slot_list_getitem.lookup (wpAny_getItem_list_slice ht.isList (Heap.IsSliceOf.new ..) .none .none (.int (-1) t) (by simp) ?_ (by rw [Em] <;> omega)) (by with_unfolding_all rfl);rw [PySem.W.krv_pick];refine⟨.ref _,_,I4.laid (t':=s3.toks) (o:=.lst xs.reverse) (fun b ob q=>D6 _ q) (D8 _) ?_,rfl,q _ (I4.hok.fresh (D8 _))⟩;exact⟨by rw [HF];exact hz,its.reverse,0,Vals.reverse r,El _ rfl⟩
end
section
variable {K:DT} {f:Fx} {ρ:zq}
theorem Goes.free {H H':Hp} {p:DY} (g:Goes f H H') (fo:FOk f H) (h:H' p=none):H p=none:=by
 cases q:H p with
 | none=>rfl
 | some o =>
  by_cases hh:f.f=some p \/ p∈f.M
  ·rcases hh with hh | hh
   ·obtain⟨a,b,h1,_⟩:=g.ok.fd p hh;rw [h] at h1;cases h1
   ·rw [g.kp p hh,q] at h;cases h
  ·have:=zI (g.sm p o (zC hh q));rw [h] at this;cases this.2
def PEdL (K:DT) (f:Fx) (te:TE) (ρ:zq) (P:List PyData->Prop):Prop:=∀ (σ:St) (H:Hp) (Q:VK),EnvOk K f ρ σ H ->
 (∀ es D vs H',Goes f H H'->H D=none->H' D=some (.lst vs)->Reps K (hide H' f) es vs->P es->Q (.ref D) H')->te σ H Q
theorem PEdL.ped {te:TE} {P:PyData->Prop} (h:PEdL K f te ρ fun es=>P (.list es)):PEd K f te ρ P:=fun σ H Q e q=>h σ H Q e fun es D vs H' g n h1 r p =>
 q (.list es) _ H' g (zB.mpr ⟨D,vs,rfl,.of (zC (fresh_ne e.fd n) h1),r⟩) p
theorem Cr {t:TA} {P:List PyData->Prop} (h:PAd K f t ρ fun xs=>∃ ds,qv xs=some ds/\ds.length<=1000/\P ds):PEdL K f (nX t) ρ P:=fun σ H Q e q =>
 hV h e fun p ds vs H1 g1 hn rs hp=>by
  have g2:Goes f H1 (upd H1 p (.lst vs)):=.of_same (yc hn _) g1.2;exact q ds p vs _ (g1.trans g2) (g1.free e.fd hn) zy (Reps.mono g2.1 ds vs rs) hp
theorem Cs {te ts:TE} {P:List PyData->Prop} (h:PEd K f te ρ fun x=>∃ ds,x=.list ds/\PEd K f ts ρ fun y=>y=.int (-1)/\P ds.reverse):PEdL K f (AY K te ts) ρ P:=fun σ H Q e q =>
 h σ H _ e fun x v H1 g1 r1 ⟨ds,ex,p1⟩=>p1 σ H1 _ (e.mono g1) fun y u H2 g2 r2 ⟨ey,p2⟩=>by
  subst ex ey;obtain⟨a,xs,rfl,h1,h2⟩:=zB.mp r1;refine⟨a,xs,rfl,zw.mp r2,(zf _ _).seq (g2.1.seq h1),fun l hn=>?_⟩;have g3:Goes f H2 (upd H2 l (.lst xs.reverse)):=.of_same (yc hn _) g2.2;have rr:∀ {ds:List PyData} {xs:List V},Reps K (hide (upd H2 l (.lst xs.reverse)) f) ds xs->True:=fun _=>trivial;have rev:∀ (H:Hp) (ds:List PyData) (xs:List V),Reps K H ds xs->Reps K H ds.reverse xs.reverse:=by
   intro H ds
   induction ds with
   | nil=>intro xs h;rw [zP.mp h];exact .nil'
   | cons d ds ih =>
    intro xs h;obtain⟨x,r,rfl,h2,h3⟩:=zH.mp h;rw [EY,EY];exact (ih r h3).snoc h2
  exact q ds.reverse l _ _ (g1.trans (g2.trans g3)) ((g1.trans g2).free e.fd hn) zy (Reps.mono g3.1 _ _ (rev _ _ _ (Reps.mono g2.1 _ _ h2))) p2
end
structure TabAt (H:Hp) (a:DY) (as:List DY) (Ju:List (List Int)):Prop where
 top:H a=some (.lst (as.map .ref))
 nd:(a :: as).Nodup
 len:as.length=Ju.length
 row:∀ (i:Nat) x r,as[i]?=some x->Ju[i]?=some r->H x=some (.lst (r.map .int))
def Ct (K:DT) (f:Fx) (te:TE) (ρ:zq) (P:List (List Int)->Prop):Prop:=∀ (σ:St) (H:Hp) (Q:VK),EnvOk K f ρ σ H ->
 (∀ Ju a as H',Goes f H H'->H a=none->(∀ x∈as,H x=none)->TabAt H' a as Ju->P Ju->Q (.ref a) H')->te σ H Q
section
variable {K:DT} {f:Fx} {ρ:zq} {te tl:TE} {fr:List Nat}
theorem rW {J:It} {n:Nat} {dd:Nat->PyData} {R:Nat->List Int->Prop} {D:DY} {H1:Hp} {σ:St} {Q:VK} (hn:H1 D=none) (e1:EnvOk K f ρ σ H1) (hz:n<=1000)
  (hJ:∀ (i:Nat) H',Same (hide H1 f) (hide H' (f.with D))->(i<n->J.go i H'/\∀ x H3,J.yld i H' x H3->H3=H'/\Rep K (hide H' (f.with D)) (dd i) x)/\(i=n->J.stop i H'))
  (hte:∀ i,i<n->PEdL K (f.with D) te (some (.dat (dd i)) :: frD fr ρ) fun es=>∃ ns:List Int,es=ns.map .int/\R i ns)
  (hQ:∀ Ju as H',Goes f H1 H'->(∀ x∈as,H1 x=none)->TabAt H' D as Ju->Ju.length=n->(∀ (k:Nat) r,Ju[k]?=some r->R k r)->Q (.ref D) H') :
  eB J (yS 0) kJ (qC D te) (jB 1 fr σ) (upd H1 D (.lst [])) fun _ H2=>Q (.ref D) H2:=by
 have nD:=fresh_ne e1.fd hn;have hD:f.f≠some D:=fun z=>nD (.inl z);have hM:D∉f.M:=fun z=>nD (.inr z);have fo2:FOk (f.with D) (upd H1 D (.lst [])):=rT e1.fd hn;refine⟨fun i m σ' H'=>i<=n/\m+i=n/\∃ y as Ju,EnvOk K (f.with D) (y :: frD fr ρ) σ' H'/\Same (hide (upd H1 D (.lst [])) (f.with D)) (hide H' (f.with D))/\(∀ b∈f.M,H' b=(upd H1 D (.lst [])) b)/\(∀ p,H' p=none->(upd H1 D (.lst [])) p=none) /\
   H' D=some (.lst (as.map .ref))/\as.Nodup/\D∉as/\(∀ x∈as,(upd H1 D (.lst [])) x=none)/\as.length=i/\Ju.length=i/\(∀ (k:Nat) x r,as[k]?=some x->Ju[k]?=some r->H' x=some (.lst (r.map .int)))/\∀ (k:Nat) r,Ju[k]?=some r->R k r,
  ⟨n,EI _,rfl,none,[],[],kP (eC (own:=1) (fr:=fr) e1) hn,Same.refl _,fun _ _=>rfl,fun _ h=>h,zy,FC,by simp,(fun x hx=>by cases hx),rfl,rfl,(fun k x r h=>by simp at h),fun k r h=>by simp at h⟩,?_⟩
 rintro i m σ' H' ⟨hi,hm,y,as,Ju,env,sm,kp,fre,top,nd,nDas,asf,la,lr,rw',hR⟩;have smk:Same (hide H1 f) (hide H' (f.with D)):=(qh hn).trans sm;obtain⟨jg,js⟩:=hJ i H' smk;by_cases hlt:i<n
 ·obtain⟨go,yl⟩:=jg hlt;refine .inr ⟨go,fun x H3 hy=>?_⟩;obtain⟨rfl,rx⟩:=yl x H3 hy;unfold yS kJ;dsimp only;rw [Jy rfl];unfold qC;have env2:EnvOk K (f.with D) (some (.dat (dd i)) :: frD fr ρ) (σ'.set 0 (some x)) H3:=env.set 0 (x:=.dat (dd i)) rx;refine hte i hlt _ H3 _ env2 fun es Dn vs H4 g4 n4 h4 r4 ⟨ns,hes,hRn⟩=>?_;subst hes;have evs:vs=ns.map V.int:=r4.ints;subst evs;have hDn:Dn≠D:=fun z=>by rw [z,top] at n4;cases n4
  have keep:∀ x∈as,∀ o,H3 x=some o->H4 x=some o:=fun x hx o ho=>(zI (g4.sm x o (zC (fresh_ne fo2 (asf x hx)) ho))).2;have hasome:∀ x∈as,∃ o,H3 x=some o:=fun x hx=>by
   obtain⟨k,hk,ek⟩:=FY hx;exact⟨_,rw' k x _ (by rw [DQ hk,ek]) (DQ (by omega))⟩
  have nDn:Dn∉as:=fun hx=>by
   obtain⟨o,ho⟩:=hasome Dn hx;rw [n4] at ho;cases ho
  refine⟨as.map .ref,(g4.kp D D4).trans top,yg (by rw [DS];omega),m - 1,by omega,by omega,by omega,some (.dat (dd i)),as++[Dn],Ju++[ns],ma hD (env2.mono g4),?_,?_,?_,?_,?_,?_,?_,?_,?_,?_,?_⟩
  ·rw [yE (H:=H4)];exact sm.trans g4.sm
  ·exact fun b hb=>(zu (fun (z:b=D)=>hM (z▸hb))).trans ((g4.kp b (DW _ hb)).trans (kp b hb))
  ·intro p hp;by_cases hpd:p=D
   ·subst hpd;rw [zy] at hp;cases hp
   ·rw [zu hpd] at hp;exact fre p (g4.free env2.fd hp)
  ·rw [zy,Ey];rfl
  ·exact FE.mpr ⟨nd,by simp,fun x hx z hz=>by
    have:z=Dn:=by simpa using hz
    subst this;exact fun e=>nDn (e▸hx)⟩
  ·simp [nDas,Gv hDn]
  ·intro x hx;rcases En.mp hx with hx | hx
   ·exact asf x hx
   ·have:x=Dn:=by simpa using hx
    subst this;exact fre _ n4
  ·simp [la]
  ·simp [lr]
  ·intro k x r hx hr;have hxm:=D9 hx;have hxD:x≠D:=by
    rintro rfl;rcases En.mp hxm with hx' | hx'
    ·exact nDas hx'
    ·have:x=Dn:=by simpa using hx'
     exact hDn this.symm
   rw [zu hxD];by_cases hk:k<as.length
   ·rw [Ec hk] at hx;rw [Ec (by omega)] at hr;exact keep x (D9 hx) _ (rw' k x r hx hr)
   ·have hk':k=as.length:=by
     have:=(DU.mp hx).1;simp at this;omega
    subst hk';rw [Ee (D8 _)] at hx;rw [Ee (by omega)] at hr;simp only [F7,He] at hx;rw [la,<- lr,F7,He] at hr;cases hx;cases hr;exact h4
  ·intro k r hr;by_cases hk:k<Ju.length
   ·rw [Ec hk] at hr;exact hR k r hr
   ·have hk':k=Ju.length:=by
     have:=(DU.mp hr).1;simp at this;omega
    subst hk';rw [Ee (D8 _),F7,He] at hr;cases hr;rw [lr];exact hRn
 ·have ei:i=n:=by omega
  subst ei;refine .inl ⟨js rfl,hQ Ju as H' ⟨smk.trans yH,⟨env.fd.fd,fun b hb=>env.fd.mm b (DW _ hb),fun p e hp=>env.fd.nm p e (DW _ hp)⟩,fun b hb=>?_⟩ (fun x hx=>?_) ⟨top,E5.mpr ⟨nDas,nd⟩,by omega,rw'⟩ lr hR⟩
  ·rw [kp b hb,zu];obtain⟨o,h3⟩:=e1.fd.mm b hb;exact zM h3 hn
  ·have:=asf x hx;rw [zu (fun (z:x=D)=>nDas (z▸hx))] at this;exact this
theorem A0 {P:List (List Int)->Prop} (h:PEd K f tl ρ fun x=>∃ ds,x=.list ds/\ds.length<=1000/\∃ R:Nat->List Int->Prop,
   (∀ D (i:Nat) d,ds[i]?=some d->PEdL K (f.with D) te (some (.dat d) :: frD fr ρ) fun es=>∃ ns:List Int,es=ns.map .int/\R i ns)/\∀ Ju,Ju.length=ds.length->(∀ (k:Nat) r,Ju[k]?=some r->R k r)->P Ju) :
  Ct K f (qD (dX K tl) 1 fr (yS 0) kJ fun D=>qC D te) ρ P:=fun σ H Q e q=>h σ H _ e fun x v H1 g1 r1 ⟨ds,ex,hz,R,rs,re⟩=>by
 subst ex;obtain⟨a,xs,rfl,s1,s2⟩:=zB.mp r1;have hl:=s2.length;refine⟨a,rfl,⟨xs,(zf _ _).seq s1⟩,fun D hn=>?_⟩;refine rW (n:=ds.length) (dd:=fun i=>ds.getD i .none) (R:=R) hn (e.mono g1) hz (fun i H' sk=>?_) (fun i hi=>?_) fun Ju as H' g' fa ta hl' hR=>?_
 ·have sq:SqL K H' a xs:=(zf _ _).seq (sk.seq s1);refine⟨fun hi=>?_,fun hi=>⟨xs,sq,by omega⟩⟩;obtain⟨z,hzz,rz⟩:=s2.get (DQ hi);refine⟨⟨xs,z,sq,hzz⟩,fun x H3 hy=>?_⟩;obtain⟨rfl,hy⟩:=hy;have ez:=hy xs sq;rw [hzz] at ez;cases ez;refine⟨rfl,?_⟩;have eg:ds.getD i .none=ds[i]:=by simp [Ji,hi]
  rw [eg];exact Rep.mono sk _ _ rz
 ·have eg:ds.getD i .none=ds[i]:=by simp [Ji,hi]
  rw [eg];exact rs D i _ (DQ hi)
 ·exact q Ju D as H' (g1.trans g') (g1.free e.fd hn) (fun x hx=>g1.free e.fd (fa x hx)) ta (re Ju hl' hR)
end
end L2
end
section
namespace L2
open PySem PySem.Spec PyProof.Rows
section
variable {X:Cx} {K:DT}
theorem zQ (hK:X.K=K):IxR X (kE K):=hK▸uP
theorem bY (hK:X.K=K):IxR X (AK K):=hK▸AL
theorem yB (hK:X.K=K):yT X (.builtin "len") (fun xs H Q=>∃ p ys,xs=[.ref p]/\(SqL K H p ys \/ SqT K H p ys)/\Q (.int ys.length) H):=hK▸fm
theorem vk (hK:X.K=K):yT X (.type "tuple") (fun xs H Q=>∃ p ys,xs=[.ref p]/\((SqL K H p ys/\∀ l,H l=none->Q (.ref l) (upd H l (.tup ys))) \/ (SqT K H p ys/\Q (.ref p) H))):=hK▸dF
theorem oo (hK:X.K=K) (hc:X.calm=true):yT X (.builtin "min") (fun xs H Q=>∃ a ns,xs=[.ref a]/\SqL K H a (ns.map V.int)/\ns≠[]/\∀ M,M∈ns->(∀ b∈ns,M<=b)->Q (.int M) H):=hK▸og hc
theorem bb (hK:X.K=K) (hc:X.calm=true):yT X (.builtin "max") (fun xs H Q=>∃ a ns,xs=[.ref a]/\SqL K H a (ns.map V.int)/\ns≠[]/\∀ M,M∈ns->(∀ b∈ns,b<=M)->Q (.int M) H):=hK▸oh hc
theorem ft (hK:X.K=K) (hu:X.A.units+64<E1):OpR X (E8 .Eq) (oa K false):=hK▸AQ hu
theorem cM (hK:X.K=K) (hu:X.A.units+64<E1):OpR X (E8 .NotEq) (oa K true):=hK▸AR hu
variable {tg l e st:Expr} {tl te ts:TE} {ta:TA} {p pos p2:Pos}
theorem zU (hK:X.K=K) (hl:PE X l tl):PI X tg l (dX K tl):=hK▸uL hl
theorem av (hK:X.K=K) (hl:PE X l tl):PI X tg l (AE K tl):=hK▸AF hl
theorem hX {es:List Expr} {k:Nat} {tpos:Pos} (hK:X.K=K) (hg:Gl X "enumerate") (hm:X.mg "enumerate"=none) (ha:PA X [l] ta) (hs:EG [l] X.env=[(false,eval l X.env)]:=by rfl):PI X (.Tuple es k tpos) (.Call (.Name "enumerate" p) [l] [] pos) (l4 K ta):=hK▸uS hg hm ha hs
theorem yM (hK:X.K=K) (ha:PE X e te) (he:∀ whole,isTrue e X.env whole=(do let v <- whole;standAt e.pos;holding [v] (truthy v))):PT X e (AU K te):=hK▸AV ha he
theorem uV (hK:X.K=K) (he:PE X e te) (hst:PE X st ts):PE X (.Subscript e (.Slice none none (some st) p2) pos) (AY K te ts):=hK▸AZ he hst
theorem zN {es:List Expr} {k:Nat} {t:TGs} {n:Nat} (hK:X.K=K) (hc:X.calm=true) (h:PGs X es t) (hn:(assignEach es X.env).length=n:=by rfl) (hst:(assignEach es X.env).findIdx? (·.1)=none:=by rfl):PG X (.Tuple es k pos) (uK K n t):=hK▸AD hc h hn hst
end
structure ItD (K:DT) (f:Fx) (ds:List PyData) (J:It) (H1:Hp):Prop where
 go:∀ (f':Fx) (H':Hp) (i:Nat) d,FOk f' H'->Same (hide H1 f) (hide H' f')->ds[i]?=some d->J.go i H'/\∀ x H3,J.yld i H' x H3->Goes f' H' H3/\Rep K (hide H3 f') d x
 st:∀ (f':Fx) (H':Hp),FOk f' H'->Same (hide H1 f) (hide H' f')->J.stop ds.length H'
def PId (K:DT) (f:Fx) (wi:TI) (ρ:zq) (R:List PyData->Prop):Prop:=∀ (σ:St) (H:Hp) (C:It->Hp->Prop),EnvOk K f ρ σ H ->
 (∀ ds J H1,Goes f H H1->ItD K f ds J H1->R ds->C J H1)->wi σ H C
noncomputable def qw (n:Nat):List PyData:=(Ef n).map fun (i:Nat)=>.int (i:Int)
noncomputable def bF (ds:List PyData):List PyData:=ds.mapIdx fun i d=>.tuple [.int (i:Int),d]
section
variable {K:DT} {f:Fx} {ρ:zq} {R:List PyData->Prop} {tl:TE} {t:TA}
theorem PId.imp {wi:TI} {R':List PyData->Prop} (h:PId K f wi ρ R) (i:∀ ds,R ds->R' ds):PId K f wi ρ R':=fun σ H C e q=>h σ H C e fun ds J H1 g it r=>q ds J H1 g it (i ds r)
theorem qQ (h:PAd K f t ρ fun xs=>∃ j:Int,xs=[.dat (.int j)]/\-(2 ^ 62)<=j/\j<2 ^ 62/\R (qw j.toNat)):PId K f (lV t) ρ R:=fun σ H C e q=>h σ H _ e fun xs vs H1 g1 r1 ⟨j,ex,q1,q2,p⟩=>by
 subst ex;cases r1 with
 | @cons _ v0 _ _ rx r' =>
  cases r';have rx':Rep K (hide H1 f) (.int j) v0:=rx;refine⟨j,by rw [zw.mp rx'],q1,q2,q _ _ H1 g1 ⟨fun f' H' i d fo _ hd=>?_,fun f' H' _ _=>?_⟩ p⟩
  ·unfold qw at hd;rw [D7] at hd;by_cases hi:i<j.toNat
   ·rw [E9 hi] at hd;cases hd;refine⟨hi,fun x H3 hy=>?_⟩;obtain⟨rfl,rfl⟩:=hy;exact⟨.refl fo,zw.mpr (by rw [Int.zero_add])⟩
   ·rw [Ex (by rw [EF];omega)] at hd;cases hd
  ·show j.toNat<=(qw j.toNat).length;unfold qw;rw [DS,EF];exact D8 _
theorem yF (h:PEd K f tl ρ fun x=>∃ ds,x=.list ds/\R ds):PId K f (dX K tl) ρ R:=fun σ H C e q=>h σ H _ e fun x v H1 g1 r1 ⟨ds,ex,p⟩=>by
 subst ex;obtain⟨a,xs,rfl,h1,h2⟩:=zB.mp r1;have hl:=h2.length;refine⟨a,rfl,⟨xs,(zf _ _).seq h1⟩,q ds _ H1 g1 ⟨fun f' H' i d fo sm hd=>?_,fun f' H' _ sm=>⟨xs,(zf _ _).seq (sm.seq h1),Gn hl⟩⟩ p⟩;obtain⟨z,hz,rz⟩:=h2.get hd;have sq:SqL K H' a xs:=(zf _ _).seq (sm.seq h1);refine⟨⟨xs,z,sq,hz⟩,fun x H3 hy=>?_⟩;obtain⟨rfl,hy⟩:=hy;have ez:=hy xs sq;rw [hz] at ez;cases ez;exact⟨.refl fo,Rep.mono sm _ _ rz⟩
theorem h9 (h:PEd K f tl ρ fun x=>∃ ds,x=.tuple ds/\R ds):PId K f (AE K tl) ρ R:=fun σ H C e q=>h σ H _ e fun x v H1 g1 r1 ⟨ds,ex,p⟩=>by
 subst ex;obtain⟨a,xs,rfl,h1,h2⟩:=zZ.mp r1;have hl:=h2.length;refine⟨a,rfl,⟨xs,(zf _ _).seqT h1⟩,q ds _ H1 g1 ⟨fun f' H' i d fo sm hd=>?_,fun f' H' _ sm=>⟨xs,(zf _ _).seqT (sm.seqT h1),Gn hl⟩⟩ p⟩;obtain⟨z,hz,rz⟩:=h2.get hd;have sq:SqT K H' a xs:=(zf _ _).seqT (sm.seqT h1);refine⟨⟨xs,z,sq,hz⟩,fun x H3 hy=>?_⟩;obtain⟨rfl,hy⟩:=hy;have ez:=hy xs sq;rw [hz] at ez;cases ez;exact⟨.refl fo,Rep.mono sm _ _ rz⟩
theorem A1 (h:PAd K f t ρ fun xs=>∃ ds,xs=[.dat (.list ds)]/\R (bF ds)):PId K f (l4 K t) ρ R:=fun σ H C e q=>h σ H _ e fun xs vs H1 g1 r1 ⟨ds,ex,p⟩=>by
 subst ex;cases r1 with
 | cons rx r' =>
  cases r';obtain⟨a,xs,rfl,h1,h2⟩:=zB.mp rx;have hl:=h2.length;refine⟨a,rfl,⟨xs,(zf _ _).seq h1⟩,q (bF ds) _ H1 g1 ⟨fun f' H' i d fo sm hd=>?_,fun f' H' _ sm=>⟨xs,(zf _ _).seq (sm.seq h1),by unfold bF;rw [List.length_mapIdx];exact Gn hl⟩⟩ p⟩;unfold bF at hd;rw [GV] at hd;cases eq:ds[i]? with
  | none=>rw [eq] at hd;cases hd
  | some d0 =>
   rw [eq] at hd;cases hd;obtain⟨z,hz,rz⟩:=h2.get eq;have sq:SqL K H' a xs:=(zf _ _).seq (sm.seq h1);refine⟨⟨xs,z,sq,hz⟩,fun x H3 hy=>?_⟩;obtain⟨tp,y,rfl,hn,rfl,hy⟩:=hy;have ez:=hy xs sq;rw [hz] at ez;cases ez;have gn:Goes f' H' (upd H' tp (.tup [.int i,z])):=.of_same (yc hn _) fo;exact⟨gn,zZ.mpr ⟨tp,_,rfl,.of (zC (fresh_ne fo hn) zy),.cons' (zw.mpr rfl) (.cons' (Rep.mono gn.1 _ _ (Rep.mono sm _ _ rz)) .nil')⟩⟩
end
section
variable {K:DT} {f:Fx} {ρ:zq} {D:DEnds} {wi:TI} {g:TG} {ts:TS}
theorem rX (h:PId K f wi ρ fun ds=>∃ J:Nat->zq->Prop,J 0 ρ /\
   (∀ (i:Nat) d ρ',ds[i]?=some d->J i ρ'->PGd K f g d ρ' fun ρ2=>PSd K f ts ρ2 { D with nx:=J (i+1),ct:=J (i+1),bk:=D.nx })/\∀ ρ',J ds.length ρ'->D.nx ρ') :
  PSd K f (nU wi g ts) ρ D:=fun σ H E e n r b c=>h σ H _ e fun ds J H1 g1 it ⟨Jv,j0,js,jd⟩=>by
 refine⟨fun i m σ' H'=>∃ ρ',EnvOk K f ρ' σ' H'/\Goes f H1 H'/\Jv i ρ'/\m+i=ds.length,⟨ds.length,ρ,e.mono g1,.refl g1.2,j0,rfl⟩,fun i m σ' H' ⟨ρ',e',g',p,hm⟩=>?_⟩;by_cases hi:i<ds.length
 ·obtain⟨hgo,hy⟩:=it.go f H' i _ e'.fd g'.sm (DQ hi);refine .inr ⟨hgo,fun σ2 H2=>∃ ρ2,EnvOk K f ρ2 σ2 H2/\Goes f H1 H2/\Jv (i+1) ρ2,fun σ2 H2 ⟨ρ2,e2,g2,p2⟩=>⟨m - 1,by omega,ρ2,e2,g2,p2,by omega⟩,fun x H3 hx=>?_⟩;obtain⟨g3,r3⟩:=hy x H3 hx;refine js i _ ρ' (DQ hi) p σ' H3 x _ (e'.mono g3) r3 fun ρ2 σ2 H4 g4 e4 p4=>?_;have gg:=g'.trans (g3.trans g4);exact p4 σ2 H4 _ e4 (fun ρ5 σ5 H5 g5 e5 p5=>⟨ρ5,e5,gg.trans g5,p5⟩) (fun d v H5 g5 r5 p5=>r d v H5 (g1.trans (gg.trans g5)) r5 p5) (fun ρ5 σ5 H5 g5 e5 p5=>n ρ5 σ5 H5 (g1.trans (gg.trans g5)) e5 p5) (fun ρ5 σ5 H5 g5 e5 p5=>⟨ρ5,e5,gg.trans g5,p5⟩)
 ·have ei:i=ds.length:=by omega
  subst ei;exact .inl ⟨it.st f H' e'.fd g'.sm,n ρ' σ' H' (g1.trans g') e' (jd ρ' p)⟩
end
section
variable {K:DT} {f:Fx} {ρ:zq} {D:DY} {wi:TI} {g:TG} {tt:TT} {te:TE}
theorem CSt.self {H2 H:Hp} {es:List PyData} {σ:St} (c:CSt K f D H2 ρ es σ H):CSt K f D H ρ es σ H:=⟨c.env,Same.refl _,fun _ _=>rfl,c.lst⟩
theorem CSt.trans {H2 H H':Hp} {es es':List PyData} {ρ':zq} {σ σ':St} (c:CSt K f D H2 ρ es σ H) (d:CSt K f D H ρ' es' σ' H'):CSt K f D H2 ρ' es' σ' H':=⟨d.env,c.sm.trans d.sm,fun b hb=>(d.kp b hb).trans (c.kp b hb),d.lst⟩
def PBd (K:DT) (f:Fx) (D:DY) (tb:TB) (ρ:zq) (es:List PyData) (R:zq->List PyData->Prop):Prop:=f.f≠some D->D∉f.M->∀ (σ:St) (H H2:Hp) (W:St->Hp->Prop),CSt K f D H2 ρ es σ H ->
 (∀ ρ2 es2 σ2 H',CSt K f D H2 ρ2 es2 σ2 H'->R ρ2 es2->W σ2 H')->tb σ H W
theorem yv {es:List PyData} {R:zq->List PyData->Prop} (hl:es.length<1000) (h:PEd K (f.with D) te ρ fun e=>R ρ (es++[e])):PBd K f D (qC D te) ρ es R:=fun hD hM σ H H2 W c q =>
 h σ H _ c.env fun e u H5 g5 r5 p5=>by
  have c5:=c.go g5 (c.env.mono g5);obtain⟨vs,h1,h2⟩:=c5.lst;exact⟨vs,h1,yg (by rw [h2.length];omega),q _ _ _ _ (c5.put hD hM h1 h2 r5) p5⟩
theorem rY {fi:Fx} {Hi H2 H:Hp} {ds es:List PyData} {J:It} {tb:TB} {σ:St} {W:St->Hp->Prop} (it:ItD K fi ds J Hi) (hD:f.f≠some D) (hM:D∉f.M) (c:CSt K f D H2 ρ es σ H) (sm:Same (hide Hi fi) (hide H (f.with D)))
  (Jv:Nat->zq->List PyData->Prop) (j0:Jv 0 ρ es)
  (js:∀ (i:Nat) d ρ' es',ds[i]?=some d->Jv i ρ' es'->PGd K (f.with D) g d ρ' fun ρ2=>PTd K (f.with D) tt ρ2 fun b=>if b=true then PBd K f D tb ρ2 es' (Jv (i+1)) else Jv (i+1) ρ2 es')
  (hW:∀ ρ' es' σ' H',CSt K f D H2 ρ' es' σ' H'->Jv ds.length ρ' es'->W σ' H'):eB J g tt tb σ H W:=by
 refine⟨fun i m σ' H'=>∃ ρ' es',CSt K f D H2 ρ' es' σ' H'/\Same (hide Hi fi) (hide H' (f.with D))/\Jv i ρ' es'/\m+i=ds.length,⟨ds.length,ρ,es,c,sm,j0,rfl⟩,fun i m σ' H' ⟨ρ',es',c',sm',p,hm⟩=>?_⟩;by_cases hi:i<ds.length
 ·obtain⟨hgo,hy⟩:=it.go (f.with D) H' i _ c'.env.fd sm' (DQ hi);refine .inr ⟨hgo,fun x H3 hx=>?_⟩;obtain⟨g3,r3⟩:=hy x H3 hx;have c3:=c'.go g3 (c'.env.mono g3);refine js i _ ρ' es' (DQ hi) p σ' H3 x _ c3.env r3 fun ρ2 σ2 H4 g4 e4 p4=>?_;have c4:=c3.go g4 e4;refine p4 σ2 H4 _ e4 fun b H5 g5 p5=>?_;have c5:=c4.go g5 (e4.mono g5);have sm5:=((sm'.trans g3.sm).trans g4.sm).trans g5.sm;cases b with
  | false =>
   rw [Jx DX] at p5 ⊢;exact⟨m - 1,by omega,ρ2,es',c5,sm5,p5,by omega⟩
  | true =>
   rw [Jy rfl] at p5 ⊢;exact p5 hD hM σ2 H5 H5 _ c5.self fun ρ6 es6 σ6 H6 c6 p6=>⟨m - 1,by omega,ρ6,es6,c5.trans c6,sm5.trans c6.sm,p6,by omega⟩
 ·have ei:i=ds.length:=by omega
  subst ei;exact .inl ⟨it.st (f.with D) H' c'.env.fd sm',hW ρ' es' σ' H' c' p⟩
theorem Cu {es:List PyData} {tb:TB} {R:zq->List PyData->Prop} (h:PId K (f.with D) wi ρ fun ds=>∃ Jv:Nat->zq->List PyData->Prop,Jv 0 ρ es /\
   (∀ (i:Nat) d ρ' es',ds[i]?=some d->Jv i ρ' es'->PGd K (f.with D) g d ρ' fun ρ2=>PTd K (f.with D) tt ρ2 fun b=>if b=true then PBd K f D tb ρ2 es' (Jv (i+1)) else Jv (i+1) ρ2 es') /\
   ∀ ρ' es',Jv ds.length ρ' es'->R ρ' es'):PBd K f D (tIn wi g tt tb) ρ es R:=fun hD hM σ H H2 W c q =>
 h σ H _ c.env fun ds J H1 g1 it ⟨Jv,j0,js,jd⟩ =>
  rY it hD hM (c.go g1 (c.env.mono g1)) (Same.refl _) Jv j0 js fun ρ' es' σ' H' c' p=>q ρ' es' σ' H' c' (jd ρ' es' p)
def PEdO (K:DT) (f:Fx) (te:TE) (ρ:zq) (P:List PyData->Prop):Prop:=∀ (σ:St) (H:Hp) (Q:VK),EnvOk K f ρ σ H ->
 (∀ es D vs H',Goes f H H'->H D=none->H' D=some (.lst vs)->Reps K (hide H' (f.with D)) es vs->P es->Q (.ref D) H')->te σ H Q
theorem PEdO.pedl {P:List PyData->Prop} (h:PEdO K f te ρ P):PEdL K f te ρ P:=fun σ H Q e q=>h σ H Q e fun es D vs H' g n h1 r p=>q es D vs H' g n h1 (Reps.mono yH es vs r) p
theorem PEdO.ped {P:PyData->Prop} (h:PEdO K f te ρ fun es=>P (.list es)):PEd K f te ρ P:=h.pedl.ped
theorem xT {P:List PyData->Prop} (h:P []):PEdO K f (nX qM) ρ P:=fun σ H Q e q=>⟨EI _,fun p hn=>q [] p [] _ (.of_same (yc hn _) e.fd) hn zy .nil' h⟩
theorem fu {own:Nat} {fr:List Nat} {tb:DY->TB} {P:List PyData->Prop} (h:PId K f wi ρ fun ds=>∃ Jv:Nat->zq->List PyData->Prop,Jv 0 (vX own fr ρ) [] /\
   (∀ D (i:Nat) d ρ' es',ds[i]?=some d->Jv i ρ' es'->PGd K (f.with D) g d ρ' fun ρ2=>PTd K (f.with D) tt ρ2 fun b=>if b=true then PBd K f D (tb D) ρ2 es' (Jv (i+1)) else Jv (i+1) ρ2 es') /\
   ∀ ρ' es',Jv ds.length ρ' es'->P es'):PEdO K f (qD wi own fr g tt tb) ρ P:=fun σ H Q e q =>
 h σ H _ e fun ds J H1 g1 it ⟨Jv,j0,js,jd⟩ D hn=>by
  have nD:=fresh_ne g1.2 hn;have hD:f.f≠some D:=fun z=>nD (.inl z);have hM:D∉f.M:=fun z=>nD (.inr z);refine rY it hD hM (vY hn (e.mono g1)) (qh hn) Jv j0 (js D) fun ρ' es' σ' H' c' p=>?_;obtain⟨ge,rep⟩:=cL (σ':=σ') hn g1.2 c';obtain⟨vs,h1,h2⟩:=c'.lst;exact q es' D vs H' (g1.trans ge) (g1.free e.fd hn) h1 h2 (jd ρ' es' p)
end
section
variable {K:DT} {f:Fx} {ρ:zq} {D:DY} {wi:TI} {g:TG} {tt:TT} {te:TE}
def OwnE (own:Nat) (ρ0:zq) (ρ':zq):Prop:=∃ us:zq,us.length=own/\ρ'=us++ρ0
theorem OwnE.one {ρ0 ρ':zq} (h:OwnE 1 ρ0 ρ'):∃ u,ρ'=u :: ρ0:=by
 obtain⟨us,h1,rfl⟩:=h;rcases us with _ | ⟨u,_ | ⟨z,zs⟩⟩ <;> first | exact⟨_,rfl⟩ | (simp at h1)
theorem OwnE.two {ρ0 ρ':zq} (h:OwnE 2 ρ0 ρ'):∃ u v,ρ'=u :: v :: ρ0:=by
 obtain⟨us,h1,rfl⟩:=h;rcases us with _ | ⟨u,_ | ⟨v,_ | ⟨z,zs⟩⟩⟩ <;> first | exact⟨_,_,rfl⟩ | (simp at h1)
theorem OwnE.mk1 {ρ0:zq} {u:Option DV}:OwnE 1 ρ0 (u :: ρ0):=⟨[u],rfl,rfl⟩
theorem OwnE.mk2 {ρ0:zq} {u v:Option DV}:OwnE 2 ρ0 (u :: v :: ρ0):=⟨[u,v],rfl,rfl⟩
theorem jj {B:Bool->Prop} (h:B true):PTd K f kJ ρ B:=fun σ H Q e q=>q true H (.refl e.fd) h
end
structure OEnds where
 nx:zq->List PyData->Prop
 rt:PyData->Prop
 bk:zq->List PyData->Prop:=fun _ _=>False
 ct:zq->List PyData->Prop:=fun _ _=>False
def PSo (K:DT) (f:Fx) (D:DY) (ts:TS) (ρ:zq) (es:List PyData) (O:OEnds):Prop:=f.f≠some D->D∉f.M->∀ (σ:St) (H H2:Hp) (E:Ends),CSt K f D H2 ρ es σ H ->
 (∀ ρ' es' σ' H',CSt K f D H2 ρ' es' σ' H'->O.nx ρ' es'->E.nx σ' H')->(∀ d v ρ' es' σ' H',CSt K f D H2 ρ' es' σ' H'->Rep K (hide H' f) d v->O.rt d->E.rt v H') ->
 (∀ ρ' es' σ' H',CSt K f D H2 ρ' es' σ' H'->O.bk ρ' es'->E.bk σ' H')->(∀ ρ' es' σ' H',CSt K f D H2 ρ' es' σ' H'->O.ct ρ' es'->E.ct σ' H')->ts E σ H
section
variable {K:DT} {f:Fx} {ρ:zq} {D:DY} {wi:TI} {g:TG} {tt:TT} {te:TE} {ts tu:TS} {es:List PyData} {O:OEnds} {i:Nat}
theorem Cv (h:PSo K f D ts ρ es { O with nx:=fun ρ' es'=>PSo K f D tu ρ' es' O }):PSo K f D (qt ts tu) ρ es O:=fun hD hM σ H H2 E c n r b k =>
 h hD hM σ H H2 _ c (fun ρ' es' σ' H' c' p=>p hD hM σ' H' H2 E c' n r b k) r b k
theorem kQ (h:O.nx ρ es):PSo K f D lT ρ es O:=fun _ _ σ H H2 E c n r b k=>n ρ es σ H c h
theorem Cw (h:PTd K (f.with D) tt ρ fun b=>if b=true then PSo K f D ts ρ es O else PSo K f D tu ρ es O):PSo K f D (rq tt ts tu) ρ es O:=fun hD hM σ H H2 E c n r b k =>
 h σ H _ c.env fun q H1 g1 p=>by
  have c1:=c.go g1 (c.env.mono g1);cases q with
  | false =>
   rw [Jx DX] at p ⊢;exact p hD hM σ H1 H2 E c1 n r b k
  | true =>
   rw [Jy rfl] at p ⊢;exact p hD hM σ H1 H2 E c1 n r b k
theorem rZ {σ:St} {H H2:Hp} (hi:ρ[i]?=some (some (.own f.M.length))) (c:CSt K f D H2 ρ es σ H):σ[i]?=some (some (.ref D)):=by
 obtain⟨v,h1,p,h2,rfl⟩:=c.env.get i _ hi;have e:(D :: f.M).reverse[f.M.length]?=some D:=by
  rw [EY,Ee (by simp)];simp
 have h2':(D :: f.M).reverse[f.M.length]?=some p:=h2;rw [e] at h2';cases h2';exact h1
theorem r8 (hi:ρ[i]?=some (some (.own f.M.length))) (hl:es.length<1000) (h:PEd K (f.with D) te ρ fun d=>O.nx ρ (es++[d])):PSo K f D (dW (tBM K "list" bX (yD i) (yK te qM))) ρ es O:=fun hD hM σ H H2 E c n r b k=>by
 obtain⟨vs0,h0,_⟩:=c.lst;refine⟨_,rZ hi c,Or.inl ⟨rfl,vs0,.of h0⟩,?_⟩;refine h σ H _ c.env fun d v H1 g1 r1 p1=>?_;have c1:=c.go g1 (c.env.mono g1);obtain⟨vs,h1,h2⟩:=c1.lst;exact⟨D,vs,v,rfl,rfl,h1,yg (by rw [h2.length];omega),n _ _ _ _ (c1.put hD hM h1 h2 r1) p1⟩
theorem Cy (h:PId K (f.with D) wi ρ fun ds=>∃ J:Nat->zq->List PyData->Prop,J 0 ρ es /\
   (∀ (i:Nat) d ρ' es',ds[i]?=some d->J i ρ' es'->PGd K (f.with D) g d ρ' fun ρ2=>PSo K f D ts ρ2 es' { O with nx:=J (i+1),ct:=J (i+1),bk:=O.nx })/\∀ ρ' es',J ds.length ρ' es'->O.nx ρ' es') :
  PSo K f D (nU wi g ts) ρ es O:=fun hD hM σ H H2 E c n r b k=>h σ H _ c.env fun ds J H1 g1 it ⟨Jv,j0,js,jd⟩=>by
 have c1:=c.go g1 (c.env.mono g1);refine⟨fun i m σ' H'=>∃ ρ' es',CSt K f D H2 ρ' es' σ' H'/\Same (hide H1 (f.with D)) (hide H' (f.with D))/\Jv i ρ' es'/\m+i=ds.length,⟨ds.length,ρ,es,c1,Same.refl _,j0,rfl⟩,fun i m σ' H' ⟨ρ',es',c',sm',p,hm⟩=>?_⟩;by_cases hi:i<ds.length
 ·obtain⟨hgo,hy⟩:=it.go (f.with D) H' i _ c'.env.fd sm' (DQ hi);refine .inr ⟨hgo,fun σ2 H3=>∃ ρ2 es2,CSt K f D H2 ρ2 es2 σ2 H3/\Same (hide H1 (f.with D)) (hide H3 (f.with D))/\Jv (i+1) ρ2 es2,fun σ2 H3 ⟨ρ2,es2,e2,g2,p2⟩=>⟨m - 1,by omega,ρ2,es2,e2,g2,p2,by omega⟩,fun x H3 hx=>?_⟩;obtain⟨g3,r3⟩:=hy x H3 hx;have c3:=c'.go g3 (c'.env.mono g3);refine js i _ ρ' es' (DQ hi) p σ' H3 x _ c3.env r3 fun ρ2 σ2 H4 g4 e4 p4=>?_;have c4:=c3.go g4 e4;have sm4:=(sm'.trans g3.sm).trans g4.sm;exact p4 hD hM σ2 H4 H4 _ c4.self (fun ρ5 es5 σ5 H5 c5 p5=>⟨ρ5,es5,c4.trans c5,sm4.trans c5.sm,p5⟩) (fun d v ρ5 es5 σ5 H5 c5 r5 p5=>r d v ρ5 es5 σ5 H5 (c4.trans c5) r5 p5) (fun ρ5 es5 σ5 H5 c5 p5=>n ρ5 es5 σ5 H5 (c4.trans c5) p5) (fun ρ5 es5 σ5 H5 c5 p5=>⟨ρ5,es5,c4.trans c5,sm4.trans c5.sm,p5⟩)
 ·have ei:i=ds.length:=by omega
  subst ei;exact .inl ⟨it.st (f.with D) H' c'.env.fd sm',n ρ' es' σ' H' c' (jd ρ' es' p)⟩
noncomputable def jq (n:Nat):Option DV->Option DV
 | some (.own k)=>if k<n then some (.own k) else none
 | x=>x
theorem bZ {σ:St} {H H2:Hp} (c:CSt K f D H2 ρ es σ H):EnvOk K f (ρ.map (jq f.M.length)) σ H:=by
 refine⟨by rw [DS];exact c.env.len,fun i x h=>?_,⟨c.env.fd.fd,fun b hb=>c.env.fd.mm b (DW _ hb),fun p e hp=>c.env.fd.nm p e (DW _ hp)⟩⟩;rw [D7] at h;cases e:ρ[i]? with
 | none=>rw [e] at h;cases h
 | some y =>
  rw [e] at h;cases y with
  | none=>cases h
  | some y =>
   obtain⟨v,h1,h2⟩:=c.env.get i y e;cases y with
   | dat d =>
    cases h;exact⟨v,h1,Rep.mono yH d v h2⟩
   | feed =>
    cases h;exact⟨v,h1,h2⟩
   | exc C =>
    cases h;obtain⟨a,h3,h4⟩:=h2;exact⟨v,h1,a,h3,yH _ _ h4⟩
   | mon φ =>
    cases h;exact⟨v,h1,fun H' s=>h2 H' (yH.trans s)⟩
   | own k =>
    have h':(if k<f.M.length then some (DV.own k) else none)=some x:=Option.some.inj h;by_cases hk:k<f.M.length
    ·rw [Jy hk] at h';cases h';obtain⟨p,h3,h4⟩:=h2;refine⟨v,h1,p,?_,h4⟩;have h3':(D :: f.M).reverse[k]?=some p:=h3;rw [EY,Ec (by simpa using hk)] at h3';exact h3'
    ·rw [Jx hk] at h';cases h'
theorem uW {σ:St} {H:Hp} {d:PyData} {v:V} (e:EnvOk K f ρ σ H) (hs:σ[i]?=some (some v)) (r:Rep K (hide H f) d v):EnvOk K f (ρ.set i (some (.dat d))) σ H:=by
 refine⟨by rw [FH];exact e.len,fun j y h=>?_,e.fd⟩;by_cases hj:i=j
 ·subst hj;have hi:i<ρ.length:=by rw [e.len];exact (DU.mp hs).1
  rw [E4 hi] at h;cases h;exact⟨v,hs,r⟩
 ·rw [Fe hj] at h;exact e.get j y h
theorem Cz {Dn:DEnds} (h:PEdO K f te ρ fun es0=>i<ρ.length/\∀ D,PSo K f D ts (ρ.set i (some (.own f.M.length))) es0 { nx:=fun ρ' es=>ρ'[i]?=some (some (.own f.M.length))/\PSd K f tu ((ρ'.map (jq f.M.length)).set i (some (.dat (.list es)))) Dn,rt:=Dn.rt,bk:=fun ρ' es=>Dn.bk (ρ'.map (jq f.M.length)),ct:=fun ρ' es=>Dn.ct (ρ'.map (jq f.M.length)) }) :
  PSd K f (qt (qe te (yS i)) (qt ts tu)) ρ Dn:=fun σ H E e n r b k=>h σ H _ e fun es0 D vs H1 g1 hn h1 rs ⟨hil,p⟩=>by
 have nD:¬ (f.f=some D \/ D∈f.M):=fresh_ne e.fd hn;have hD:f.f≠some D:=fun z=>nD (.inl z);have hM:D∉f.M:=fun z=>nD (.inr z);have sm0:Same (hide H f) (hide H1 (f.with D)):=fun b o hb=>by
  have hb1:=g1.sm b o hb;refine zC (fun z=>?_) (zI hb1).2;rcases z with z | z
  ·exact (zI hb1).1 (.inl z)
  ·rcases D5.mp z with rfl | z
   ·have:=(zI hb).2;rw [hn] at this;cases this
   ·exact (zI hb1).1 (.inr z)
 have fo1:FOk (f.with D) H1:=⟨g1.ok.fd,fun b hb=>by
  rcases D5.mp hb with rfl | hb
  ·exact⟨_,h1⟩
  ·exact g1.ok.mm b hb,fun q eq hq=>by
  rcases D5.mp hq with rfl | hq
  ·exact hD eq
  ·exact g1.ok.nm q eq hq⟩
 have e1:EnvOk K (f.with D) ρ σ H1:=⟨e.len,fun j x hx=>by
  obtain⟨v,a1,a2⟩:=e.get j x hx;refine⟨v,a1,?_⟩;cases x with
  | dat d=>exact Rep.mono sm0 d v a2
  | feed=>exact a2
  | exc C =>
   obtain⟨q,h3,h4⟩:=a2;exact⟨q,h3,sm0 _ _ h4⟩
  | mon φ=>exact fun H' s=>a2 H' (sm0.trans s)
  | own k =>
   obtain⟨q,h3,h4⟩:=a2;refine⟨q,?_,h4⟩;show (D :: f.M).reverse[k]?=some q;rw [EY,Ec (DU.mp h3).1];exact h3,fo1⟩
 have rv:RepV K (f.with D) H1 (.own f.M.length) (.ref D):=⟨D,by
  show (D :: f.M).reverse[f.M.length]?=some D;rw [EY,Ee (by simp)]
  simp,rfl⟩
 have c1:CSt K f D H1 (ρ.set i (some (.own f.M.length))) es0 (σ.set i (some (.ref D))) H1:=⟨e1.set i rv,Same.refl _,fun _ _=>rfl,vs,h1,rs⟩;have gg:∀ {ρ':zq} {es':List PyData} {σ':St} {H':Hp},CSt K f D H1 ρ' es' σ' H'->Goes f H H':=fun c=>by
  refine⟨fun b o hb=>?_,(bZ c).fd,fun b hb=>(c.kp b hb).trans (g1.kp b hb)⟩;exact yH (D:=D) b o (c.sm b o (sm0 b o hb))
 refine p D hD hM _ H1 H1 _ c1 (fun ρ' es' σ' H' c' ⟨hi,p'⟩=>?_) (fun d v ρ' es' σ' H' c' r' p'=>r d v H' (gg c') r' p') (fun ρ' es' σ' H' c' p'=>b _ σ' H' (gg c') (bZ c') p') (fun ρ' es' σ' H' c' p'=>k _ σ' H' (gg c') (bZ c') p');obtain⟨vs',h1',h2'⟩:=c'.lst;have rl:Rep K (hide H' f) (.list es') (.ref D):=zB.mpr ⟨D,vs',rfl,.of (zC nD h1'),Reps.mono yH es' vs' h2'⟩;exact p' σ' H' E (uW (bZ c') (rZ hi c') rl) (fun ρ2 σ2 H2 g2=>n ρ2 σ2 H2 ((gg c').trans g2)) (fun d v H2 g2=>r d v H2 ((gg c').trans g2)) (fun ρ2 σ2 H2 g2=>b ρ2 σ2 H2 ((gg c').trans g2)) (fun ρ2 σ2 H2 g2=>k ρ2 σ2 H2 ((gg c').trans g2))
end
section
variable {K:DT} {f:Fx} {ρ:zq} {P:PyData->Prop} {te ta tb:TE} {t:TA}
theorem Reps.drop {H:Hp}:∀ {ds:List PyData} {xs:List V} (n:Nat),Reps K H ds xs->Reps K H (ds.drop n) (xs.drop n)
 | _,_,0,r=>r
 | [],xs,n+1,r=>by
  rw [zP.mp r];exact .nil'
 | d :: ds,xs,n+1,r=>by
  obtain⟨x,r',rfl,_,h⟩:=zH.mp r;exact Reps.drop n h
theorem Reps.take {H:Hp}:∀ {ds:List PyData} {xs:List V} (n:Nat),Reps K H ds xs->Reps K H (ds.take n) (xs.take n)
 | _,_,0,r=>.nil'
 | [],xs,n+1,r=>by
  rw [zP.mp r];exact .nil'
 | d :: ds,xs,n+1,r=>by
  obtain⟨x,r',rfl,h0,h⟩:=zH.mp r;exact .cons' h0 (Reps.take n h)
noncomputable def cutD (ds:List PyData) (lo hi:Option Int):List PyData:=(ds.drop (HT.sIx ds.length 0 lo)).take (HT.sIx ds.length ds.length hi - HT.sIx ds.length 0 lo)
theorem Reps.cut {H:Hp} {ds:List PyData} {xs:List V} {lo hi:Option Int} (r:Reps K H ds xs):Reps K H (cutD ds lo hi) (ku xs lo hi):=by
 unfold cutD ku;rw [r.length];exact (r.drop _).take _
def POd (K:DT) (f:Fx) (t:TO) (ρ:zq) (R:Option Int->Prop):Prop:=∀ (σ:St) (H:Hp) (Q:Option Int->Hp->Prop),EnvOk K f ρ σ H->(∀ o H',Goes f H H'->R o->Q o H')->t σ H Q
theorem ia {R:Option Int->Prop} (h:R none):POd K f lW ρ R:=fun σ H Q e q=>q none H (.refl e.fd) h
theorem ib {R:Option Int->Prop} (h:PEd K f te ρ fun d=>∃ i:Int,d=.int i/\R (some i)):POd K f (xQ te) ρ R:=fun σ H Q e q=>h σ H _ e fun d v H1 g1 r1 ⟨i,ed,p⟩=>by
 subst ed;exact⟨i,zw.mp r1,q (some i) H1 g1 p⟩
theorem CA {tl th:TO} {P:List PyData->Prop} (h:PEd K f te ρ fun x=>∃ ds,x=.list ds/\POd K f tl ρ fun lo=>POd K f th ρ fun hi=>P (cutD ds lo hi)):PEdL K f (tSl (uQ K) te tl th) ρ P:=fun σ H Q e q =>
 h σ H _ e fun x v H1 g1 r1 ⟨ds,ex,p1⟩=>p1 σ H1 _ (e.mono g1) fun lo H2 g2 p2=>p2 σ H2 _ ((e.mono g1).mono g2) fun hi H3 g3 p3=>by
  subst ex;have gg:=g1.trans (g2.trans g3);obtain⟨a,xs,rfl,h1,h2⟩:=zB.mp (Rep.mono (g2.trans g3).sm _ _ r1);refine⟨a,xs,rfl,(zf _ _).seq h1,fun p hn=>?_⟩;have g4:Goes f H3 (upd H3 p (.lst (ku xs lo hi))):=.of_same (yc hn _) g3.ok;exact q _ p _ _ (gg.trans g4) (gg.free e.fd hn) zy (Reps.mono g4.sm _ _ h2.cut) p3
theorem ic {tl th:TO} (h:PEd K f te ρ fun x=>∃ ds,x=.list ds/\POd K f tl ρ fun lo=>POd K f th ρ fun hi=>P (.list (cutD ds lo hi))):PEd K f (tSl (uQ K) te tl th) ρ P:=(CA h).ped
theorem fv (h:PAd K f t ρ fun xs=>(∃ ds,xs=[.dat (.list ds)]/\P (.tuple ds)) \/ (∃ ds,xs=[.dat (.tuple ds)]/\P (.tuple ds))) :
  PEd K f (tCB (fun xs H Q=>∃ p ys,xs=[.ref p]/\((SqL K H p ys/\∀ l,H l=none->Q (.ref l) (upd H l (.tup ys))) \/ (SqT K H p ys/\Q (.ref p) H))) t) ρ P :=
 om fun σ H Q e q=>h σ H Q e fun xs vs H' g r p=>by
  rcases p with⟨ds,rfl,p⟩ | ⟨ds,rfl,p⟩
  ·refine q _ vs H' g r ⟨_,rfl,fun vs H Q fo rs k=>?_⟩;obtain⟨x,r,rfl,h2,h3⟩:=zH.mp rs;rw [zP.mp h3];obtain⟨a,ys,rfl,s1,s2⟩:=zB.mp h2;refine⟨a,ys,rfl,.inl ⟨(zf _ _).seq s1,fun l hn=>?_⟩⟩;have g2:Goes f H (upd H l (.tup ys)):=.of_same (yc hn _) fo;exact k (.tuple ds) _ _ g2 (zZ.mpr ⟨l,ys,rfl,.of (zC (fresh_ne fo hn) zy),Reps.mono g2.1 ds ys s2⟩) p
  ·refine q _ vs H' g r ⟨_,rfl,fun vs H Q fo rs k=>?_⟩;obtain⟨x,r,rfl,h2,h3⟩:=zH.mp rs;rw [zP.mp h3];obtain⟨a,ys,rfl,s1,s2⟩:=zZ.mp h2;exact⟨a,ys,rfl,.inr ⟨(zf _ _).seqT s1,k (.tuple ds) _ H (.refl fo) (zZ.mpr ⟨a,ys,rfl,s1,s2⟩) p⟩⟩
end
noncomputable abbrev f0:Fx:=⟨none,[]⟩
theorem fok0 (H:Hp):FOk f0 H:=⟨(fun p e=>by cases e),(fun b hb=>by cases hb),(fun p e=>by cases e)⟩
theorem CB {H H':Hp} (s:Same H H'):Goes f0 H H':=.of_same s (fok0 H)
theorem same0 {H H':Hp} (g:Goes f0 H H'):Same H H':=fun b o h=>(zI (g.sm b o (by rw [ji];exact h))).2
noncomputable def fz:Option DV->Option DV
 | some (.dat d)=>some (.dat d)
 | _=>none
section
variable {K:DT} {ρ:zq} {te:TE} {tu:TS} {i:Nat}
theorem cN {p:DY} {σ:St} {H:Hp} (e:EnvOk K ⟨some p,[]⟩ ρ σ H):EnvOk K f0 (ρ.map fz) σ H:=by
 refine⟨by rw [DS];exact e.len,fun i x h=>?_,fok0 H⟩;rw [D7] at h;cases eq:ρ[i]? with
 | none=>rw [eq] at h;cases h
 | some y =>
  rw [eq] at h;cases y with
  | none=>cases h
  | some y =>
   obtain⟨v,h1,h2⟩:=e.get i y eq;cases y with
   | dat d =>
    cases h;refine⟨v,h1,?_⟩;show Rep K (hide H f0) d v;rw [ji];exact Rep.mono (zf _ _) d v h2
   | feed=>cases h
   | own k=>cases h
   | exc C=>cases h
   | mon φ=>cases h
theorem A2 {Dn:DEnds} (h:∀ (σ:St) (H:Hp) (Q:VK),EnvOk K f0 ρ σ H->(∀ (p:DY) (x y:Int) (H':Hp),Same H H'->H p=none->H' p=some (.lst [.int x,.int y])->0<=x->0<=y->y<2147483647->Q (.ref p) H')->te σ H Q)
  (hr:∀ p,PSd K ⟨some p,[]⟩ tu (ρ.set i (some .feed)) { nx:=fun ρ'=>Dn.nx (ρ'.map fz),rt:=Dn.rt,bk:=fun ρ'=>Dn.bk (ρ'.map fz),ct:=fun ρ'=>Dn.ct (ρ'.map fz) }) :
  PSd K f0 (qt (qe te (yS i)) tu) ρ Dn:=fun σ H E e n r b k=>h σ H _ e fun p x y H1 sm hn hp x0 y0 y1=>by
 have fo:FOk ⟨some p,[]⟩ H1:=⟨fun p' e=>by cases e;exact⟨x,y,hp,x0,y0,y1⟩,(fun b hb=>by cases hb),fun _ _ hb=>by cases hb⟩;have sm0:Same H (hide H1 ⟨some p,[]⟩):=fun b o hb=>by
  have nb:b≠p:=fun e=>by rw [e,hn] at hb;cases hb
  refine zC (fun z=>?_) (sm b o hb);rcases z with z | z
  ·cases z;exact nb rfl
  ·cases z
 have e1:EnvOk K ⟨some p,[]⟩ ρ σ H1:=by
  refine⟨e.len,fun j z hz=>?_,fo⟩;obtain⟨v,a1,a2⟩:=e.get j z hz;refine⟨v,a1,?_⟩;cases z with
  | dat d =>
   have a2':Rep K (hide H f0) d v:=a2;rw [ji] at a2';exact Rep.mono sm0 d v a2'
  | feed=>obtain⟨q,hq,_⟩:=a2;cases hq
  | own k=>obtain⟨q,hq,_⟩:=a2;cases hq
  | exc C =>
   obtain⟨q,h3,h4⟩:=a2;refine⟨q,h3,sm0 _ _ ?_⟩;rw [ji] at h4;exact h4
  | mon φ =>
   intro H' s;refine a2 H' (Same.trans ?_ s);rw [ji];exact sm0
 have gg:∀ {H':Hp},Goes ⟨some p,[]⟩ H1 H'->Goes f0 H H':=fun g=>CB fun b o hb=>zf _ _ b o (g.sm b o (sm0 b o hb));refine hr p _ H1 E (e1.set i (x:=.feed) ⟨p,rfl,rfl⟩) (fun ρ' σ' H' g' e' p'=>n _ σ' H' (gg g') (cN e') p') (fun d v H' g' r' p'=>r d v H' (gg g') ?_ p') (fun ρ' σ' H' g' e' p'=>b _ σ' H' (gg g') (cN e') p') (fun ρ' σ' H' g' e' p'=>k _ σ' H' (gg g') (cN e') p');rw [ji];exact Rep.mono (zf _ _) d v r'
end
section
variable {X:Cx} {K:DT}
def CD (i j:Int):Prop:=0<j/\j<1152921504606846976
theorem ie:OpR X (binaryOp .FloorDiv) (rI CD fun i j=>.int (i / j)):=opI fun i j _ _ _ _ _ hc q=>by
 obtain⟨h1,h2⟩:=hc;rw [<-Int.fdiv_eq_ediv_of_nonneg i (Int.le_of_lt h1)] at q;refine floordiv_int (by omega) q (.inl (Ib ?_));have h0:j.natAbs≠0:=by omega
 have:j.natAbs.log2<60:=(Jl h0).mpr (by omega);omega
theorem aw (hK:X.K=K):SlR X (uQ K):=hK▸uR
end
section
variable {K:DT} {f:Fx} {ρ:zq} {wi:TI} {g:TG} {tt:TT} {own:Nat} {fr:List Nat} {tb:DY->TB} {P:List PyData->Prop}
theorem j5 {α:Type} {A B:α->PyData} (xs:List α) (h:PId K f wi ρ fun ds=>ds=xs.map A/\xs.length<=1000 /\
   (∀ D x ρ' es,x∈xs->OwnE own (frD fr ρ) ρ'->es.length<1000->PGd K (f.with D) g (A x) ρ' fun ρ2=>PTd K (f.with D) tt ρ2 fun b=>if b=true then PBd K f D (tb D) ρ2 es fun ρ3 es3=>OwnE own (frD fr ρ) ρ3/\es3=es++[B x] else False)/\P (xs.map B)) :
  PEdO K f (qD wi own fr g tt tb) ρ P :=
 fu (h.imp fun ds ⟨ed,hl,hs,hp⟩=>by
  subst ed;refine⟨fun i ρ' es=>OwnE own (frD fr ρ) ρ'/\es=(xs.take i).map B,⟨⟨GU own none,by simp,rfl⟩,by simp⟩,fun D i d ρ' es hd ⟨ho,he⟩=>?_,fun ρ' es ⟨_,he⟩=>?_⟩
  ·rw [D7] at hd;cases eq:xs[i]? with
   | none=>rw [eq] at hd;cases hd
   | some x =>
    rw [eq] at hd;cases hd;have hi:i<xs.length:=(DU.mp eq).1;have hb:es.length<1000:=by
     rw [he,DS,EL];omega
    intro σ H v Q e r q;refine hs D x ρ' es (D9 eq) ho hb σ H v Q e r fun ρ2 σ2 H2 g2 e2 p2=>q ρ2 σ2 H2 g2 e2 (p2.imp fun b hb2=>?_);cases b with
    | false =>
     rw [Jx DX] at hb2;exact hb2.elim
    | true =>
     rw [Jy rfl] at hb2 ⊢;intro h1 h2 σ3 H3 H4 W c k;exact hb2 h1 h2 σ3 H3 H4 W c fun ρ5 es5 σ5 H5 c5 ⟨o5,p5⟩=>k ρ5 es5 σ5 H5 c5 ⟨o5,by rw [p5,he,EZ,eq,Ey];rfl⟩
  ·rw [he,DS,E6];exact hp)
end
structure XLie (P:Program) (w:World) (outer:List Env) (H:Hp) (s:Shared) (e:DY) (C:Value) (H':Hp) (s':Shared):Prop where
 os:s'.os=s.os
 bare:AllBare s'.gens
 un:Un (frs outer) [] H H' s.heap s'.heap
 hok:HOk P w H' s'.heap
 fly:∃ B a0,Heap.FlyingW B outer e C a0 s'.heap/\(∀ b o,s.heap.get? b=some o->b∉frs outer->∃ o',B.get? b=some o')/\∀ b o,H' b=some o->∃ o',B.get? b=some o'
 new:s.heap.get? e=none
 free:H' e=none
def CXe (P:Program) (w:World):CXT:=fun outer H s E e s'=>∃ a C H',e=.ref a/\XLie P w outer H s a C H' s'/\E C none H'
end L2
end
section
namespace L2
open PySem PySem.Spec PyProof.Rows
end L2
end
section
namespace L2
open PySem PySem.Spec PySem.W PyProof.Rows PySem.Calls PySem.Builtin Builtin Builtin.ObjectAttr Builtin.Getset_descriptor
section
variable {prog:Program} {w:World} {A:Around} {E:Value->Shared->Prop} {s:Shared} {K:DT} {a C:DY}
structure ExcWays (K:DT) (C:DY):Prop where
 ga:findIn K (.ref C) "__getattribute__"=some (some (.builtin "BaseException.__getattribute__"))
 gt:findIn K (.ref C) "__getattr__"=some none
 cl:findIn K (.ref C) "__class__"=some (some (.builtin "object.__class__"))
 gs:specialIn K (.builtin "object.__class__") "__get__"=some (some (.builtin "getset_descriptor.__get__"))
 tk:takesIn K (.builtin "object.__class__")=some true
 ob:mroIn K C (.type "object")=some true
 be:mroIn K C (.type "BaseException")=some true
 iz:(clsIn K C).isSome=true
end
structure FnInX (P:Program) (w:World) (K:DT) (mg:Str->Option Value) (base:Heap) (k:Nat) (x:Str) (ps:List Str) (sp:Sp):Prop where
 ex:∃ (f:DY) (fd:FuncData),FnOk P w K mg base (CXe P w) k f fd ps sp/\mg x=some (.ref f)/\Ff K (.ref f)=true/\Binds K fd ps []
end L2
end
section
namespace L2
open PySem PySem.Spec PyProof.Rows
def A3 (K:DT):List V->Hp->VK->Prop:=fun xs H Q=>∃ (a:DY) (bs:List Bool),xs=[.ref a]/\SqL K H a (bs.map V.bl)/\Q (.bl (bs.all id)) H
theorem ig:∀ {bs:List Bool} {us:List Value},Vals (bs.map V.bl) us->us=bs.map Value.bool
 | [],us,r=>by
  cases r;rfl
 | b :: bs,us,r=>by
  cases r with
  | cons h t =>
   rw [ig t];cases (show _=Value.bool b from h);rfl
theorem range_all (bs:List Bool):(Ef bs.length).all (fun i=>bs.getD i false)=bs.all id:=by
 rw [Bool.eq_iff_iff,GB,GB];constructor
 ·intro h b hb;obtain⟨i,hi,rfl⟩:=List.mem_iff_getElem.mp hb;have:=h i (Eu.mpr hi)
  rwa [DZ,DQ hi] at this
 ·intro h i hi;have hi':=Eu.mp hi;rw [DZ,DQ hi'];exact h _ (Et hi')
theorem ij (prog:Program) (w:World) (A:Around) (bs:List Bool):TruthOf prog w A (fun i v=>(bs.map Value.bool).toArray[i]?=some v) (fun i=>bs.getD i false):=by
 intro i v s Q E hv hq;rw [List.getElem?_toArray,D7] at hv;cases eb:bs[i]? with
 | none=>rw [eb] at hv;cases hv
 | some b =>
  rw [eb] at hv;cases hv;dsimp only at hq;rw [DZ,eb] at hq;exact D3 hq
theorem oq {X:Cx} (hc:X.calm=true):yT X (.builtin "all") (A3 X.K):=by
 intro Jw s σ H xs us Q I r h;obtain⟨a,bs,rfl,hq,q⟩:=h;obtain⟨u,rfl,r1⟩:=vals1 r;cases r1;obtain⟨its,rv,p,_⟩:=I.list hq;have hl:=p.isList;rw [ig rv] at hl;have ha:a<s.heap.objs.size:=by
  obtain⟨o,ho,_⟩:=hl;exact Ea ho
 refine call_all_walk (wpAny_pyIter_list hl ?_);have hne:a≠s.heap.objs.size:=EE ha;refine⟨s.heap.objs.size,_,_,_,_,_,_,rfl,Walks.list (show (X.A.in1).handled=none from I.ok.hd hc) _ a hne _,⟨?_,?_⟩,ij _ _ _ bs,fun h' tk hk=>?_⟩
 ·exact⟨_,El _ rfl,rfl,rfl⟩
 ·exact hl.at fun o e=>D6 _ e
 ·have kp:∀ b o,s.heap.get? b=some o->h'.get? b=some o:=fun b o e=>hk b o (by
   intro z;have:=Ea e;rw [Ej.mp z] at this;exact Ga _ this) (D6 _ e)
  refine⟨.bl _,H,I.kept (t':=tk) kp,?_,q⟩;show Value.bool _=Value.bool _;rw [Em,DS,range_all]
theorem eE {X:Cx} {K:DT} (hK:X.K=K) (hc:X.calm=true):yT X (.builtin "all") (A3 K):=hK▸oq hc
section
variable {K:DT} {f:Fx} {ρ:zq} {P:PyData->Prop} {te:TE}
theorem cO {H:Hp}:∀ {bs:List Bool} {xs:List V},Reps K H (bs.map .bool) xs->xs=bs.map V.bl
 | [],xs,r=>zP.mp r
 | b :: bs,xs,r=>by
  obtain⟨x,r',rfl,h1,h2⟩:=zH.mp r;rw [cO h2,yo.mp h1];rfl
theorem xU (h:PEd K f te ρ fun x=>∃ bs:List Bool,x=.list (bs.map .bool)/\P (.bool (bs.all id))):PEd K f (tCB (A3 K) (yK te qM)) ρ P:=fun σ H Q e q=>h σ H _ e fun x v H1 g1 r1 ⟨bs,ex,p⟩=>by
 subst ex;obtain⟨a,xs,rfl,h1,h2⟩:=zB.mp r1;rw [cO h2] at h1;exact⟨a,bs,rfl,(zf _ _).seq h1,q _ _ H1 g1 (yo.mpr rfl) p⟩
end
section
variable {prog:Program} {w:World} {A:Around} {E:Value->Shared->Prop}
theorem eF {I:DY} {fp wr:List DY} {n:Nat} {P:Nat->Value->Prop} {St:Nat->Heap->Prop} (W:Walks prog w A I fp wr n P St):∀ (k i:Nat) (s:Shared) (Q:List Value->Shared->Prop),i+k<=n->St i s.heap ->
  (∀ vs h' tk,vs.length=k->(∀ (j:Nat) v,vs[j]?=some v->P (i+j) v)->St (i+k) h'->(∀ b o,b∉wr->s.heap.get? b=some o->h'.get? b=some o)->Q vs { s with heap:=h',toks:=tk })->Eo (model prog w) A (draw (.ref I) k) Q E s
 | 0,i,s,Q,_,st,hQ=>D3 (hQ [] s.heap s.toks rfl (fun j v e=>by simp at e) st fun _ _ _ e=>e)
 | k+1,i,s,Q,hle,st,hQ=>by
  show Eo _ _ (pyNext (.ref I) >>= _) Q E s;refine DR (W.item i s _ E (by omega) st fun v h1 tk1 hv st1 k1=>?_);refine DR (EM (eF W k (i+1) _ _ (by omega) st1 fun vs h2 tk2 hl hp st2 k2=>D3 ?_));refine hQ (v :: vs) h2 tk2 (by rw [Ep,hl]) (fun j u e=>?_) (by rw [show i+(k+1)=i+1+k by omega];exact st2) fun b o hb e=>k2 b o hb (k1 b o hb e);cases j with
  | zero=>cases e;exact hv
  | succ j =>
   have:=hp j u e
   rwa [show i+(j+1)=i+1+j by omega]
theorem kR {s:Shared} {a:DY} {items:Array Value} {targets:List (Bool×(Value->Sem Unit))} {Q:Unit->Shared->Prop} (hh:A.handled=none) (hl:s.heap.IsList a items)
  (hn:targets.length=items.size) (hstar:targets.findIdx? (·.1)=none)
  (h:∀ h' tk,(∀ b o,s.heap.get? b=some o->h'.get? b=some o)->Eo (model prog w) A (assignInOrder (targets.map (·.2)) items.toList) Q E { s with heap:=h',toks:=tk }):Eo (model prog w) A (unpack (.ref a) targets) Q E s:=by
 have ha:a<s.heap.objs.size:=by
  obtain⟨o,ho,_⟩:=hl;exact Ea ho
 unfold unpack;rw [hn,hstar];refine DR (EM ?_);unfold unpackItems;refine DR ?_;unfold notIterableAtAll;refine DR (GP hl.typeIs slot_list_iter.lookup (D3 ?_));simp only [EK,if_false];refine DR (EM (wpAny_pyIter_list hl ?_));have W:=Walks.list (prog:=prog) (w:=w) hh s.heap.objs.size a (EE ha) items;have fr:∀ b o,s.heap.get? b=some o->b∉[s.heap.objs.size]:=fun b o e z=>by
  have:=Ea e;rw [Ej.mp z] at this;exact Ga _ this
 refine DR (EM (eF W items.size 0 _ _ (by omega) ⟨⟨_,El _ rfl,rfl,rfl⟩,hl.at fun o e=>D6 _ e⟩ fun vs h1 tk1 hvl hp st1 k1=>?_));have ev:vs=items.toList:=by
  refine FQ fun j=>?_;by_cases hj:j<vs.length
  ·have:=hp j _ (DQ hj);rw [Ip] at this;rw [DQ hj,<- this,Ft]
  ·rw [Ex (by omega),Ex (by rw [Ek];omega)]
 subst ev;rw [Jx (by simp)];rw [Ip] at st1;refine DR (EM (W.done _ _ _ st1 fun h2 tk2 k2=>?_));simp only [Option.isSome_none,EK,if_false];exact D3 (h h2 tk2 fun b o e=>k2 b o (fr b o e) (k1 b o (fr b o e) (D6 _ e)))
end
def CF (K:DT) (n:Nat) (gs:TGs):TG:=fun v σ H Q=>∃ a xs,v=.ref a/\SqL K H a xs/\xs.length=n/\gs xs σ H Q
theorem fA {X:Cx} {K:DT} {es:List Expr} {k:Nat} {t:TGs} {n:Nat} {pos:Pos} (hK:X.K=K) (hc:X.calm=true) (h:PGs X es t)
  (hn:(assignEach es X.env).length=n:=by rfl) (hst:(assignEach es X.env).findIdx? (·.1)=none:=by rfl):PG X (.Tuple es k pos) (CF K n t):=by
 subst hK;intro Jw s σ H v u Q I r hw;obtain⟨a,xs,e1,hq,hl,hw⟩:=hw;subst e1;cases r;obtain⟨its,rv,p,hz⟩:=I.list hq;rw [assign_Tuple];refine DR (wpAny_standAt (kR (I.ok.hd hc) p.isList (by rw [hn,<- hl,rv.length,Em]) hst fun h' tk kp=>?_));exact h Jw _ σ H xs _ Q (I.kept (t':=tk) kp) rv hw
section
variable {K:DT} {f:Fx} {ρ:zq}
theorem r9 {n:Nat} {gs:TGs} {ds:List PyData} {R:zq->Prop} (hn:ds.length=n) (h:rS K f gs ds ρ R):PGd K f (CF K n gs) (.list ds) ρ R:=fun σ H v Q e r q=>by
 obtain⟨a,xs,rfl,h1,h2⟩:=zB.mp r;exact⟨a,xs,rfl,(zf _ _).seq h1,by rw [h2.length];exact hn,h σ H xs Q e h2 q⟩
end
def A4 (K:DT) (neg:Bool):R2:=fun x y H Q=>∃ d ds,Rep K H d x/\Rep K H (.list ds) y/\d.canLay0=true/\(∀ e∈ds,e.canLay0=true)/\d.depth<=50/\Q (.bl (if neg then !ds.any (fun e=>EC e d) else ds.any (fun e=>EC e d))) H
open Classical in
noncomputable def eqR (h:Heap) (d:PyData) (u:Value):Bool:=if z:∃ e as,Reads h u e as/\e.canLay0=true then EC z.choose d else false
theorem sh {h:Heap} {d e:PyData} {u:Value} {as:List DY} (r:Reads h u e as) (c:e.canLay0=true):eqR h d u=EC e d:=by
 have z:∃ e as,Reads h u e as/\e.canLay0=true:=⟨e,as,r,c⟩;unfold eqR;rw [dif_pos z];obtain⟨as',r',c'⟩:=z.choose_spec;rw [SeqAt.Reads.unique _ _ _ _ _ c' r' r]
section
variable {X:Cx} {Jw:List (DY×Obj)} {σ:St} {H:Hp} {s:Shared}
theorem mf (I:Inv X Jw σ H s) {d:PyData}:∀ {ds:List PyData} {xs:List V} {us:List Value},Reps X.K H ds xs->Vals xs us->(∀ e∈ds,e.canLay0=true)->us.any (eqR s.heap d)=ds.any (fun e=>EC e d)
 | [],xs,us,r,v,_=>by
  rw [zP.mp r] at v;cases v;rfl
 | e :: ds,xs,us,r,v,c=>by
  obtain⟨x,xs',rfl,h1,h2⟩:=zH.mp r;cases v with
  | cons r1 r2 =>
   obtain⟨as,ra⟩:=jn I e x _ h1 r1;rw [Ia,Ia,sh ra (c e D4),mf I h2 r2 fun e he=>c e (DW _ he)]
theorem il (I:Inv X Jw σ H s) {A:Around} {d:PyData} {v:Value} {bs:List DY} (rb:Reads s.heap v d bs) (cd:d.canLay0=true) (dd:d.depth<=50) (hu:A.units+60<E1):∀ {ds:List PyData} {xs:List V} {us:List Value},Reps X.K H ds xs->Vals xs us->(∀ e∈ds,e.canLay0=true)->∀ u∈us,SeqAt.EqAt A s u v (eqR s.heap d u)
 | [],xs,us,r,w,_=>by
  rw [zP.mp r] at w;cases w;intro u hu;cases hu
 | e :: ds,xs,us,r,w,c=>by
  obtain⟨x,xs',rfl,h1,h2⟩:=zH.mp r;cases w with
  | cons r1 r2 =>
   intro u hm;rcases D5.mp hm with rfl | hm
   ·obtain⟨as,ra⟩:=jn I e x _ h1 r1;rw [sh ra (c e D4)];refine SeqAt.eqAt_reads e d A s _ v as bs ra rb (c e D4) cd ?_;have:=Nat.min_le_right e.depth d.depth;omega
   ·exact il I rb cd dd hu h2 r2 (fun e he=>c e (DW _ he)) u hm
theorem A5 (hu:X.A.units+64<E1):OpR X (E8 .In) (A4 X.K false):=by
 intro Jw s σ H x y v u Q I rx ry h;obtain⟨d,ds,h1,h2,c1,c2,dd,q⟩:=h;obtain⟨a,xs,rfl,hq,hr⟩:=zB.mp h2;cases ry;obtain⟨bs,rb⟩:=jn I d x v h1 rx;obtain⟨its,r,pl,hz⟩:=I.list hq;refine SeqAt.in_listAt (eqR s.heap d) pl.isList (fun w hw=>il I rb c1 dd (show X.A.in1.units+60<E1 from by show X.A.units+1+60<E1;omega) hr r c2 w (by simpa using hw)) ⟨.bl _,H,I,rfl,?_⟩;rw [show its.toArray.any (eqR s.heap d)=its.any (eqR s.heap d) by simp,mf I hr r c2];exact q
theorem fB {K:DT} (hK:X.K=K) (hu:X.A.units+64<E1):OpR X (E8 .In) (A4 K false):=hK▸A5 hu
theorem ot {K:DT} (hK:X.K=K):OpR X (E8 .NotIn) (rIn K true):=hK▸fk
end
section
variable {K:DT} {f:Fx} {ρ:zq} {P:PyData->Prop} {te ta tb:TE} {t:TA} {D:DEnds} {i j:Nat}
theorem sj (h:PEd K f ta ρ fun d=>PEd K f tb ρ fun y=>∃ ds,y=.list ds/\d.canLay0=true/\(∀ e∈ds,e.canLay0=true)/\d.depth<=50/\P (.bool (ds.any fun e=>EC e d))):PEd K f (tOp (A4 K false) ta tb) ρ P:=fun σ H Q e q =>
 h σ H _ e fun d v H1 g1 r1 p1=>p1 σ H1 _ (e.mono g1) fun y w H2 g2 r2 ⟨ds,ey,c1,c2,dd,p2⟩=>by
  subst ey;exact⟨d,ds,Rep.mono (zf _ _) _ _ (Rep.mono g2.sm _ _ r1),Rep.mono (zf _ _) _ _ r2,c1,c2,dd,q _ _ H2 (g1.trans g2) (yo.mpr rfl) p2⟩
theorem sr (h:PEd K f ta ρ fun d=>∃ n:Int,d=.int n/\PEd K f tb ρ fun y=>∃ ns:List Int,y=.tuple (ns.map .int)/\P (.bool (!ns.contains n))):PEd K f (tOp (rIn K true) ta tb) ρ P:=fun σ H Q e q =>
 h σ H _ e fun d v H1 g1 r1 ⟨n,ed,p1⟩=>p1 σ H1 _ (e.mono g1) fun y w H2 g2 r2 ⟨ns,ey,p2⟩=>by
  subst ed ey;obtain⟨a,xs,rfl,h1,h2⟩:=zZ.mp r2;have ex:=h2.ints;subst ex;rw [zw.mp r1];have e1:inV (.int n) (ns.map V.int)=ns.contains n:=by
   unfold inV;rw [I9,List.contains_eq_any_beq]
   congr 1
   funext m
   show (m == n)=(n == m);exact BEq.comm
  refine⟨a,_,rfl,.inr ((zf _ _).seqT h1),rfl,?_,?_⟩
  ·rw [List.all_map];exact GB.mpr fun _ _=>rfl
  ·rw [Jy rfl,e1];exact q _ _ H2 (g1.trans g2) (yo.mpr rfl) p2
theorem xV (h:PAd K f t ρ fun xs=>∃ d d',xs=[.dat d,.dat d']/\D.nx ((ρ.set i (some (.dat d))).set j (some (.dat d')))):PSd K f (Ci i j t) ρ D:=fun σ H E e n r b c =>
 h σ H _ e fun xs vs H1 g1 r1 ⟨d,d',ex,p⟩=>by
  subst ex;cases r1 with
  | cons ra rs =>
   cases rs with
   | cons rb rs =>
    cases rs;exact⟨_,_,rfl,n _ _ H1 g1 (((e.mono g1).set i (x:=.dat d) ra).set j (x:=.dat d') rb) p⟩
end
section
variable {K:DT} {f:Fx} {ρ:zq} {D:DEnds}
theorem uX {tc:TT} {tb:TS} (J:zq->Prop) (μ:zq->Nat) (h0:J ρ)
  (hs:∀ ρ',J ρ'->PTd K f tc ρ' fun b=>if b=true then PSd K f tb ρ' { D with nx:=fun r=>J r/\μ r<μ ρ',ct:=fun r=>J r/\μ r<μ ρ',bk:=D.nx } else D.nx ρ'):PSd K f (kj tc tb) ρ D:=fun σ H E e n r b c=>by
 refine⟨fun m σ' H'=>∃ ρ',EnvOk K f ρ' σ' H'/\Goes f H H'/\J ρ'/\m=μ ρ',⟨_,ρ,e,.refl e.fd,h0,rfl⟩,?_⟩;rintro m σ1 H1 ⟨ρ1,e1,g1,j1,rfl⟩;refine hs ρ1 j1 σ1 H1 _ e1 fun t H2 g2 p=>?_;cases t with
 | true =>
  rw [Jy rfl] at p ⊢;refine⟨fun σ' H'=>∃ ρ',EnvOk K f ρ' σ' H'/\Goes f H H'/\J ρ'/\μ ρ'<μ ρ1,fun σ' H' ⟨ρ',e',g',j',l'⟩=>⟨_,l',ρ',e',g',j',rfl⟩,?_⟩;have gg:=g1.trans g2;exact p σ1 H2 _ (e1.mono g2) (fun ρ5 σ5 H5 g5 e5 p5=>⟨ρ5,e5,gg.trans g5,p5⟩) (fun d v H5 g5 r5 p5=>r d v H5 (gg.trans g5) r5 p5) (fun ρ5 σ5 H5 g5 e5 p5=>n ρ5 σ5 H5 (gg.trans g5) e5 p5) (fun ρ5 σ5 H5 g5 e5 p5=>⟨ρ5,e5,gg.trans g5,p5⟩)
 | false =>
  rw [Jx DX] at p ⊢;exact n ρ1 σ1 H2 (g1.trans g2) (e1.mono g2) p
end
section
variable {K:DT} {f:Fx} {ρ:zq} {E:XK} {te:TE} {ts tu:TS} {tt:TT} {t:TA} {P:PyData->Prop} {D:DEnds}
theorem xW (h:PEd K f te ρ fun x=>∃ i,x=.int i/\P (.int (-i))):PEd K f (tUn (rU fun i=>.int (-i)) te) ρ P :=
 DD (h.imp fun x ⟨i,ex,p⟩ v H Q fo r q=>by
  subst ex;exact⟨i,zw.mp r,q _ _ H (.refl fo) (zw.mpr rfl) p⟩)
end
end L2
end
section
namespace L2
open PySem PySem.Spec PyProof.Rows
end L2
end
section
namespace L2
open PySem PySem.Spec PyProof.Rows
def A6 (K:DT):List V->Hp->VK->Prop:=fun xs H Q=>∃ (a:DY) (ns:List Int),xs=[.ref a]/\SqL K H a (ns.map V.int)/\Q (.int ns.sum) H
theorem ou {X:Cx} (hc:X.calm=true):yT X (.builtin "sum") (A6 X.K):=by
 intro Jw s σ H xs us Q I r h;obtain⟨a,ns,rfl,hq,q⟩:=h;obtain⟨u,rfl,r1⟩:=vals1 r;cases r1;obtain⟨its,rv,p,_⟩:=I.list hq;have hl:=p.isList;have hi:IntsAre its ns:=intsAre_of rv;obtain⟨zs,ez⟩:=hi.allInts.items;rw [ez] at hl;refine sum_intListG (show (X.A).handled=none from I.ok.hd hc) hl fun h' tk t' kp=>⟨.int _,H,I.kept (t':=tk) kp,⟨_,rfl⟩,?_⟩;have e:preSum (numAt zs) zs.size=ns.sum:=by
  rw [<-hi.numsOf,show its=its.toArray.toList from rfl,ez,nums_intItems,preSum_eq,Iq (by simp)]
 rw [e];exact q
theorem kS {X:Cx} {K:DT} (hK:X.K=K) (hc:X.calm=true):yT X (.builtin "sum") (A6 K):=hK▸ou hc
section
variable {K:DT} {f:Fx} {ρ:zq} {P:PyData->Prop} {te:TE}
theorem CG (h:PEd K f te ρ fun x=>∃ ns:List Int,x=.list (ns.map .int)/\P (.int ns.sum)):PEd K f (tCB (A6 K) (yK te qM)) ρ P:=fun σ H Q e q=>h σ H _ e fun x v H1 g1 r1 ⟨ns,ex,p⟩=>by
 subst ex;obtain⟨a,xs,rfl,h1,h2⟩:=zB.mp r1;rw [h2.ints] at h1;exact⟨a,ns,rfl,(zf _ _).seq h1,q _ _ H1 g1 (zw.mpr rfl) p⟩
end
section
variable {prog:Program} {w:World} {A:Around} {E:Value->Shared->Prop} {s:Shared}
theorem uY {t b:DY} {vs ws:List Value} {Q:Value->Shared->Prop} (ht:PlainL s.heap t vs.toArray) (hb:PlainL s.heap b ws.toArray)
  (h2:Q (.ref s.heap.objs.size) { s with heap:=s.heap.push { cls:=.type "list",data:=.seq (vs++ws).toArray } })
  (hsz:vs.length+ws.length<=EJ):Eo (model prog w) A (binaryOp .Add (.ref t) (.ref b)) Q E s:=by
 obtain⟨⟨cls,dd,data,sl⟩,n,ho,hc,_,hd⟩:=ht;obtain⟨⟨cls2,dd2,data2,sl2⟩,n2,ho2,hc2,_,hd2⟩:=hb;simp only at hc hd hc2 hd2;subst hc hd hc2 hd2;have e:vs.toArray++ws.toArray=(vs++ws).toArray:=by simp
 refine concat_meets ⟨_,ho,rfl⟩ ⟨_,ho2,rfl⟩ noFill_list_add seq_list_add PySem.F.slot_list_add PySem.F.entry_list_add (PySem.F.args_list_add_2 _ _) (list_addW t b vs.toArray ws.toArray n n2 dd dd2 sl sl2 (by rw [Em,Em];exact hsz)) ⟨ho,ho2,?_⟩;rw [e];exact h2
end
def su (K:DT):R2:=fun x y H Q=>∃ l b xs zs,x=.ref l/\y=.ref b/\SqL K H l xs/\SqL K H b zs/\xs.length+zs.length<=EJ/\∀ p,H p=none->Q (.ref p) (upd H p (.lst (xs++zs)))
section
variable {X:Cx}
theorem uZ:OpR X (binaryOp .Add) (su X.K):=by
 intro Jw s σ H x y v u Q I rx ry h;obtain⟨l,b,xs,zs,rfl,rfl,ha,hb,hz,q⟩:=h;cases rx;cases ry;obtain⟨its,r1,p1,_⟩:=I.list ha;obtain⟨its2,r2,p2,_⟩:=I.list hb;refine uY p1 p2 ?_ (by rw [<-r1.length,<- r2.length];exact hz);exact⟨.ref _,_,I.lnew (t':=s.toks) (r1.append r2) (by rw [Eh];omega),rfl,q _ I.fresh⟩
theorem vm {K:DT} (hK:X.K=K):OpR X (binaryOp .Add) (su K):=hK▸uZ
end
section
variable {K:DT} {f:Fx} {ρ:zq} {P:PyData->Prop} {te ta tb:TE} {t:TA}
theorem cP (h:PEd K f ta ρ fun x=>∃ ds,x=.list ds/\PEd K f tb ρ fun y=>∃ es,y=.list es/\ds.length+es.length<=1000/\P (.list (ds++es))):PEd K f (tOp (su K) ta tb) ρ P:=fun σ H Q e q =>
 h σ H _ e fun x v H1 g1 r1 ⟨ds,ex,p1⟩=>p1 σ H1 _ (e.mono g1) fun y w H2 g2 r2 ⟨es,ey,hl,p2⟩=>by
  subst ex ey;obtain⟨a,xs,rfl,h1,h2⟩:=zB.mp (Rep.mono g2.sm _ _ r1);obtain⟨b,ys,rfl,h3,h4⟩:=zB.mp r2;have l1:=h2.length;have l2:=h4.length;refine⟨a,b,xs,ys,rfl,rfl,(zf _ _).seq h1,(zf _ _).seq h3,by rw [l1,l2];exact Fj (yg hl),fun p hn=>?_⟩;have g3:Goes f H2 (upd H2 p (.lst (xs++ys))):=.of_same (yc hn _) g2.ok;exact q (.list (ds++es)) _ _ (g1.trans (g2.trans g3)) (zB.mpr ⟨p,_,rfl,.of (zC (fresh_ne g2.ok hn) zy),Reps.mono g3.sm _ _ (h2.append h4)⟩) p2
theorem CH {R:List PyData->Prop} (h:PAd K f t ρ fun xs=>∃ ds,qv xs=some ds/\ds.length<=1000/\R ds):PEdO K f (nX t) ρ R:=fun σ H Q e q =>
 h σ H _ e fun xs vs H1 g1 r1 ⟨ds,ea,hl,p⟩=>by
  have rs:=vz r1 ea;refine⟨by rw [rs.length];exact Fj (yg hl),fun l hn=>?_⟩;have g2:Goes f H1 (upd H1 l (.lst vs)):=.of_same (yc hn _) g1.2;have nl:=fresh_ne g1.2 hn;refine q ds l vs _ (g1.trans g2) (g1.free e.fd hn) zy (Reps.mono (fun b o hb=>?_) _ _ rs) p;have hb':=zI hb;have hbl:b≠l:=fun z=>by
   have:=hb'.2;rw [z,hn] at this;cases this
  refine zC (fun z=>?_) (by rw [zu hbl];exact hb'.2);rcases z with z | z
  ·exact hb'.1 (.inl z)
  ·rcases D5.mp z with z | z
   ·exact hbl z
   ·exact hb'.1 (.inr z)
end
def spN {γ:Type} (K:DT) (n:Nat) (pre:γ->List DV->Prop) (post:γ->List PyData->Prop):Sp:=fun vs H Q _=>∃ f xs c,RepVs K f H xs vs/\xs.length=n/\FOk f H/\pre c xs /\
 ∀ es D vs' H',Goes f H H'->H D=none->H' D=some (.lst vs')->Reps K (hide H' (f.with D)) es vs'->post c es->Q (.ref D) H'
def PSn (K:DT) (f:Fx) (ts:TS) (ρ:zq) (R:List PyData->Prop):Prop:=∀ (σ:St) (H:Hp) (E:Ends),EnvOk K f ρ σ H ->
 (∀ es D vs H',Goes f H H'->H D=none->H' D=some (.lst vs)->Reps K (hide H' (f.with D)) es vs->R es->E.rt (.ref D) H')->ts E σ H
section
variable {K:DT} {f:Fx} {ρ:zq} {R:List PyData->Prop} {te:TE} {ts tu:TS} {tt:TT} {t:TA} {i:Nat} {D:DY} {es:List PyData} {O:OEnds}
theorem CI (h:PEdO K f te ρ R):PSn K f (gO te) ρ R:=fun σ H E e q=>h σ H E.rt e q
theorem sv (h:PSd K f ts ρ { nx:=fun ρ'=>PSn K f tu ρ' R,rt:=fun _=>False }):PSn K f (qt ts tu) ρ R:=fun σ H E e q =>
 h σ H _ e (fun ρ' σ' H' g' e' p=>p σ' H' E e' fun es D vs H2 g2 hn h1 rs r=>q es D vs H2 (g'.trans g2) (g'.free e.fd hn) h1 rs r) (fun _ _ _ _ _ z=>z.elim) (fun _ _ _ _ _ z=>z.elim) (fun _ _ _ _ _ z=>z.elim)
theorem bc {γ:Type} {n:Nat} {pre:γ->List DV->Prop} {post:γ->List PyData->Prop} {E:XK} (c:γ) (h:PAd K f t ρ fun xs=>xs.length=n/\pre c xs/\∀ es,post c es->R es):PEdO K f (dZ (spN K n pre post) [] E t) ρ R:=fun σ H Q e q =>
 h σ H _ e fun xs vs H1 g1 r1 ⟨hl,hp,k⟩=>⟨f,xs,c,by rw [EO];exact r1,hl,g1.2,hp,fun es D vs' H' g' hn h1 rs p=>q es D vs' H' (g1.trans g') (g1.free e.fd hn) h1 rs (k es p)⟩
end
section
variable {P:Program} {w:World} {K:DT} {mg:Str->Option Value} {base:Heap} {k:Nat} {x:Str} {st:Stmt} {ps:List Str} {N:List Str} {n:Nat} {γ:Type} {pre:γ->List DV->Prop} {post:γ->List PyData->Prop}
theorem Def.okN (F:Def K mg x st ps) (S:FnScope N ps (zj st)) (hn:ps.length=n)
  (h:∀ (fa:DY) (cdv:Value) (A:Around) (outer:List Env) (s:Shared) (H:Hp) (E:XK),Room k (A.deeper (envOfC x (zj st) s.heap.objs.size fa cdv)) ->
   ∃ t,PSs (yu CX0 P w K mg base N x (zj st) fa cdv A outer s H E).nox (yG st) t/\∀ (f:Fx) (xs:List DV) (c:γ),xs.length=n->pre c xs->PSn K f t (qP N xs) (post c)) :
  FnIn P w K mg base (k+1) x ps (spN K n pre post):=by
 obtain⟨fa,fd,F1,F2,F3⟩:=F.ex;refine⟨fa,fd,F1.ok S (fun vs H Q E h=>?_) (fun cdv A outer s H vs Q E hr hs=>?_),F3,F1.kp,F2⟩
 ·obtain⟨f,xs,c,r,hl,_⟩:=h;rw [r.length,hl,hn]
 ·obtain⟨f,xs,c,r,hl,fo,hp,q⟩:=hs;obtain⟨t,h1,h2⟩:=h fa cdv A outer s H E hr;exact⟨t,h1,h2 f xs c hl hp (start N vs) H _ (qE r fo) (fun es D vs' H' g hn' h1' rs p=>q es D vs' H' g hn' h1' rs p)⟩
end
section
variable {X:Cx} {Jw:List (DY×Obj)} {σ:St} {H:Hp} {s:Shared} {h':Heap}
theorem Inv.laidL {t':Nat} {D:DY} {o:HO} (I:Inv X Jw σ H s) (k:∀ b u,b≠X.env.locals->s.heap.get? b=some u->h'.get? b=some u) (hL:∃ o,h'.get? X.env.locals=some o) (ns:∀ m,s.heap.Ns X.env.locals m->h'.Ns X.env.locals m)
  (nD:∀ b u,s.heap.get? b=some u->b≠D) (hD:H D=none) (new:ObjOk X.prog X.w (upd H D o) h' D o):Inv X Jw σ (upd H D o) { s with heap:=h',toks:=t' }:=by
 have fL:H X.env.locals=none:=I.free;refine I.step (g':=s.gens) (d':=s.drawn) (ch:=[]) (fun _ z=>nomatch z) (fun b o n _ _ e _=>k b o n e) (fun b o n _ _ e _=>⟨o.slots,k b o n e⟩) (fun b u _ e n=>by rw [zu (nD b u e)];exact n) (fun b o _ e=>?_) (fun b xs e=>by rw [zu (zM e hD)];exact e) (fun b u v e=>by rw [zu (zM e hD)];exact e) (fun b ps e=>by rw [zu (zM e hD)];exact e) ns (fun a u e=>?_) I.bare
 ·by_cases hb:b=X.env.locals
  ·subst hb;exact hL
  ·exact⟨o,k b o hb e⟩
 ·by_cases ha:a=D
  ·subst ha;rw [zy] at e;cases e;exact new
  ·rw [zu ha] at e;refine (I.hok a u e).stay (fun b v hb q=>k b v (fun z=>?_) q) (fun c q=>by rw [zu (zM q hD)];exact q) fun c xs q=>by rw [zu (zM q hD)];exact q
   rcases hb with hb | hb
   ·rw [<-hb,z,fL] at e;cases e
   ·rw [z,fL] at hb;cases hb
end
end L2
end
section
namespace L2
open PySem PySem.W PyProof.Rows
structure Tot (n:Nat) (lt:Nat->Nat->Bool):Prop where
 tri:∀ i j,i<n->j<n->i≠j->lt i j=!lt j i
 tra:∀ i j k,i<n->j<n->k<n->lt i j=true->lt j k=true->lt i k=true
def Ans (cmp:Nat->Nat->(Bool->Shared->Prop)->Shared->Prop) (n:Nat) (lt:Nat->Nat->Bool) (s:Shared):Prop:=∀ i j C,i<n->j<n->C (lt i j) s->cmp i j C s
def Pm (n:Nat) (p:Array Nat):Prop:=p.toList.Perm (Ef n)
def Up (lt:Nat->Nat->Bool) (p:Array Nat) (m:Nat):Prop:=∀ i j,i<j->j<m->lt (p.getD i 0) (p.getD j 0)=true
def Dn (lt:Nat->Nat->Bool) (p:Array Nat) (m:Nat):Prop:=∀ i j,i<j->j<m->lt (p.getD j 0) (p.getD i 0)=true
theorem Pm.size {n:Nat} {p:Array Nat} (h:Pm n p):p.size=n:=by
 have:=h.length_eq
 rwa [Ek,EF] at this
theorem qi (p:Array Nat) (i:Nat):p.getD i 0=p.toList.getD i 0:=by
 by_cases h:i<p.size <;> simp [GI,h,Ji]
theorem Pm.lt {n:Nat} {p:Array Nat} (h:Pm n p) {i:Nat} (hi:i<n):p.getD i 0<n:=by
 have hs:=h.size;have hl:i<p.toList.length:=by rw [Ek,hs];exact hi
 rw [qi,DZ,DQ hl];exact Eu.mp (h.mem_iff.mp (Et hl))
theorem Pm.ne {n:Nat} {p:Array Nat} (h:Pm n p) {i j:Nat} (hi:i<n) (hj:j<n) (ne:i≠j):p.getD i 0≠p.getD j 0:=by
 have hs:=h.size;have nd:p.toList.Nodup:=h.nodup_iff.mpr Ij;have li:i<p.toList.length:=by rw [Ek,hs];exact hi
 have lj:j<p.toList.length:=by rw [Ek,hs];exact hj
 rw [qi,qi,DZ,DZ,DQ li,DQ lj];intro e;exact ne ((Hs nd).mp e)
theorem Pm.range (n:Nat):Pm n (Fm (Ef n)):=List.Perm.refl _
theorem Pm.of {n:Nat} {p q:Array Nat} (h:Pm n p) (e:q.Perm p):Pm n q:=(Array.perm_iff_toList_perm.mp e).trans h
theorem mh {p q:Array Nat} {i j:Nat} (h:p[i]?=q[j]?):p.getD i 0=q.getD j 0:=by
 rw [F8,F8,h]
section
variable {cmp:Nat->Nat->(Bool->Shared->Prop)->Shared->Prop} {n:Nat} {lt:Nat->Nat->Bool} {s:Shared} {p:Array Nat}
theorem Up.more (T:Tot n lt) (hp:Pm n p) {m:Nat} (h1:1<=m) (hm:m<n) (u:Up lt p m) (h:lt (p.getD (m - 1) 0) (p.getD m 0)=true):Up lt p (m+1):=fun i j hij hj=>by
 by_cases e:j=m
 ·subst e;by_cases e2:i=j - 1
  ·subst e2;exact h
  ·exact T.tra _ _ _ (hp.lt (by omega)) (hp.lt (by omega)) (hp.lt hm) (u i (j - 1) (by omega) (by omega)) h
 ·exact u i j hij (by omega)
theorem Dn.more (T:Tot n lt) (hp:Pm n p) {m:Nat} (h1:1<=m) (hm:m<n) (u:Dn lt p m) (h:lt (p.getD m 0) (p.getD (m - 1) 0)=true):Dn lt p (m+1):=fun i j hij hj=>by
 by_cases e:j=m
 ·subst e;by_cases e2:i=j - 1
  ·subst e2;exact h
  ·exact T.tra _ _ _ (hp.lt hm) (hp.lt (by omega)) (hp.lt (by omega)) h (u i (j - 1) (by omega) (by omega))
 ·exact u i j hij (by omega)
theorem b6 (T:Tot n lt) (W:Ans cmp n lt s) (hp:Pm n p) {Q:Nat->Shared->Prop}:∀ f m,1<=m->m+f<=n->Up lt p m->(∀ m',m<=m'->m'<=m+f->Up lt p m'->(m'=m+f \/ lt (p.getD m' 0) (p.getD (m' - 1) 0)=true)->Q m' s)->(kas_asc p f m).kasWp cmp Q s
 | 0,m,h1,hf,u,q=>q m (D8 _) (D8 _) u (.inl rfl)
 | f+1,m,h1,hf,u,q=>by
  refine W _ _ _ (hp.lt (by omega)) (hp.lt (by omega)) ?_;cases e:lt (p.getD m 0) (p.getD (m - 1) 0) with
  | true=>exact q m (D8 _) (by omega) u (.inr e)
  | false =>
   have e2:lt (p.getD (m - 1) 0) (p.getD m 0)=true:=by
    rw [T.tri _ _ (hp.lt (by omega)) (hp.lt (by omega)) (hp.ne (by omega) (by omega) (by omega)),e];rfl
   exact b6 T W hp f (m+1) (by omega) (by omega) (u.more T hp h1 (by omega) e2) fun m' a b c d=>q m' (by omega) (by omega) c (d.imp (fun z=>by omega) id)
theorem ir (T:Tot n lt) (W:Ans cmp n lt s) (hp:Pm n p) {Q:Array Nat×Nat×Nat->Shared->Prop}:∀ f m,1<=m->m+f<=n->Dn lt p m->(∀ m',m<=m'->m'<=m+f->Dn lt p m'->Q (p,m',0) s)->(kas_desc f p m 0).kasWp cmp Q s
 | 0,m,h1,hf,u,q=>q m (D8 _) (D8 _) u
 | f+1,m,h1,hf,u,q=>by
  refine W _ _ _ (hp.lt (by omega)) (hp.lt (by omega)) ?_;cases e:lt (p.getD m 0) (p.getD (m - 1) 0) with
  | true=>exact ir T W hp f (m+1) (by omega) (by omega) (u.more T hp h1 (by omega) e) fun m' a b c=>q m' (by omega) (by omega) c
  | false =>
   have e2:lt (p.getD (m - 1) 0) (p.getD m 0)=true:=by
    rw [T.tri _ _ (hp.lt (by omega)) (hp.lt (by omega)) (hp.ne (by omega) (by omega) (by omega)),e];rfl
   refine W _ _ _ (hp.lt (by omega)) (hp.lt (by omega)) ?_;rw [e2];exact q m (D8 _) (by omega) u
theorem A7 {m:Nat} (hm:m<=p.size) (d:Dn lt p m):Up lt (kas_rev p 0 m) m:=fun i j hij hj=>by
 have g:∀ k,k<m->(kas_rev p 0 m).getD k 0=p.getD (m - 1 - k) 0:=fun k hk=>mh (by
  unfold kas_rev;rw [getElem?_mirror_all hm,Jy ⟨EI _,hk⟩,Ip])
 rw [g i (by omega),g j hj];exact d _ _ (by omega) (by omega)
theorem ox (T:Tot n lt) (W:Ans cmp n lt s) (hp:Pm n p) (hn:1<=n) {Q:Nat×Array Nat->Shared->Prop} (q:∀ m p',1<=m->m<=n->Pm n p'->Up lt p' m->Q (m,p') s):(kas_count n p).kasWp cmp Q s:=by
 unfold kas_count;rw [KasT.kasWp_bind];refine b6 T W hp (n - 1) 1 (D8 _) (by omega) (fun i j a b=>by omega) fun m h1 h2 u c=>?_;by_cases e:(m == n)=true
 ·rw [Jy e];exact q m p h1 (by omega) hp u
 ·rw [Jx e];have hm:m<n:=by
   have:m≠n:=fun z=>e (by rw [z];exact beq_self_eq_true _);omega
  by_cases e2:m > 1
  ·rw [Jy e2];refine W _ _ _ (hp.lt (by omega)) (hp.lt (by omega)) ?_;rw [u 0 (m - 1) (by omega) (by omega)];exact q m p h1 (by omega) hp u
  ·rw [Jx e2];obtain rfl:m=1:=by omega
   have c':lt (p.getD 1 0) (p.getD (1 - 1) 0)=true:=c.resolve_left (by omega);unfold kas_descPart;rw [KasT.kasWp_bind];refine ir T W hp (n - (1+1)) (1+1) (by omega) (by omega) (Dn.more T hp (D8 1) hm (fun i j a b=>by omega) c') fun m' a b d=>?_;rw [Jx (by show ¬ (0 > 0);omega)];unfold kas_tail3;rw [KasT.kasWp_bind];have hp2:Pm n (kas_rev p 0 m'):=hp.of (mirror_perm _ _ _ _);exact b6 T W hp2 (n - m') m' (by omega) (by omega) (A7 (by rw [hp.size];omega) d) fun m2 a2 b2 u2 _=>q m2 _ (by omega) (by omega) hp2 u2
theorem bf (T:Tot n lt) (W:Ans cmp n lt s) (hp:Pm n p) {k:Nat} (hk:k<n) (u:Up lt p k) {Q:Nat->Shared->Prop}:∀ f l r,r - l<=f->l<=r->r<=k->(∀ i,i<l->lt (p.getD i 0) (p.getD k 0)=true)->(∀ i,r<=i->i<k->lt (p.getD k 0) (p.getD i 0)=true) ->
  (∀ m,m<=k->(∀ i,i<m->lt (p.getD i 0) (p.getD k 0)=true)->(∀ i,m<=i->i<k->lt (p.getD k 0) (p.getD i 0)=true)->Q m s)->(kas_place p k f l r).kasWp cmp Q s
 | 0,l,r,hf,hlr,hr,lo,hi,q=>by
  obtain rfl:l=r:=by omega
  exact q l hr lo hi
 | f+1,l,r,hf,hlr,hr,lo,hi,q=>by
  unfold kas_place;by_cases e:l >= r
  ·rw [Jy e];obtain rfl:l=r:=by omega
   exact q l hr lo hi
  ·rw [Jx e];refine W _ _ _ (hp.lt hk) (hp.lt (by omega)) ?_;have hm:(l+r) / 2<k:=by omega
   cases e2:lt (p.getD k 0) (p.getD ((l+r) / 2) 0) with
   | true =>
    refine bf T W hp hk u f l ((l+r) / 2) (by omega) (by omega) (by omega) lo (fun i h1 h2=>?_) q;by_cases e3:i=(l+r) / 2
    ·rw [e3];exact e2
    ·exact T.tra _ _ _ (hp.lt hk) (hp.lt (by omega)) (hp.lt (by omega)) e2 (u _ _ (by omega) h2)
   | false =>
    have e4:lt (p.getD ((l+r) / 2) 0) (p.getD k 0)=true:=by
     rw [T.tri _ _ (hp.lt (by omega)) (hp.lt hk) (hp.ne (by omega) hk (by omega)),e2];rfl
    refine bf T W hp hk u f ((l+r) / 2+1) r (by omega) (by omega) hr (fun i h1=>?_) hi q;by_cases e3:i=(l+r) / 2
    ·rw [e3];exact e4
    ·exact T.tra _ _ _ (hp.lt (by omega)) (hp.lt (by omega)) (hp.lt hk) (u _ _ (by omega) hm) e4
theorem A8 {k m:Nat} (hk:k<p.size) (hm:m<=k) (u:Up lt p k) (lo:∀ i,i<m->lt (p.getD i 0) (p.getD k 0)=true) (hi:∀ i,m<=i->i<k->lt (p.getD k 0) (p.getD i 0)=true):Up lt (bubble p k (k - m)) (k+1):=fun i j hij hj=>by
 have g:∀ t,t<=k->(bubble p k (k - m)).getD t 0=p.getD (if t=m then k else if t<m then t else t - 1) 0:=fun t ht=>mh (by
  rw [getElem?_bubble hk (k - m) (by omega),show k - (k - m)=m by omega];by_cases e1:t=m
  ·rw [Jy e1,Jy e1]
  ·rw [Jx e1,Jx e1];by_cases e2:t<m
   ·rw [Jx (by omega),Jy e2]
   ·rw [Jy (by omega),Jx e2])
 rw [g i (by omega),g j (by omega)];by_cases a1:i=m
 ·rw [Jy a1,Jx (by omega),Jx (by omega)];exact hi _ (by omega) (by omega)
 ·rw [Jx a1];by_cases a2:j=m
  ·rw [Jy a2,Jy (by omega)];exact lo _ (by omega)
  ·rw [Jx a2];by_cases a3:i<m
   ·rw [Jy a3];by_cases a4:j<m
    ·rw [Jy a4];exact u _ _ hij (by omega)
    ·rw [Jx a4];exact u _ _ (by omega) (by omega)
   ·rw [Jx a3,Jx (by omega)];exact u _ _ (by omega) (by omega)
theorem mj (T:Tot n lt) (W:Ans cmp n lt s) {Q:Array Nat->Shared->Prop}:∀ f k (p:Array Nat),Pm n p->k+f=n->Up lt p k->(∀ p',Pm n p'->Up lt p' n->Q p' s)->(kas_bin f p k).kasWp cmp Q s
 | 0,k,p,hp,hf,u,q=>by
  obtain rfl:k=n:=by omega
  exact q p hp u
 | f+1,k,p,hp,hf,u,q=>by
  unfold kas_bin;rw [KasT.kasWp_bind];refine bf T W hp (by omega) u k 0 k (by omega) (EI _) (D8 _) (fun i hi=>by omega) (fun i a b=>by omega) fun m h1 lo hi=>?_;exact mj T W f (k+1) _ (hp.of (bubble_perm _ _ _)) (by omega) (A8 (by rw [hp.size];omega) h1 u lo hi) q
theorem sx (T:Tot n lt) (W:Ans cmp n lt s) (hn:1<=n) {Q:Array Nat->Shared->Prop} (q:∀ p,Pm n p->Up lt p n->Q p s):(kas_sort n).kasWp cmp Q s:=by
 unfold kas_sort;rw [KasT.kasWp_bind];refine ox T W (Pm.range n) hn fun m p h1 h2 hp u=>?_;by_cases e:m<n
 ·show (if m<n then _ else _:KasT (Array Nat)).kasWp cmp Q s;rw [Jy e,show max m 1=m by omega];exact mj T W (n - m) m p hp (by omega) u q
 ·show (if m<n then _ else _:KasT (Array Nat)).kasWp cmp Q s;rw [Jx e];obtain rfl:m=n:=by omega
  exact q p hp u
end
end L2
end
section
namespace L2
open PySem PySem.W PySem.Calls PyProof.Rows
theorem eG:∀ f n r,r<=1->minRun' f n r<=n+1
 | 0,n,r,h=>by show n+r<=n+1;omega
 | f+1,n,r,h=>by
  rw [minRun'_succ];by_cases e:n<64
  ·rw [Jy e];omega
  ·rw [Jx e];have:=eG f (n / 2) (max r (n % 2)) (by omega);omega
theorem kT {n:Nat} (h:1<=n):minRun' n n 0<=n:=by
 obtain⟨f,rfl⟩:∃ f,n=f+1:=⟨n - 1,by omega⟩;rw [minRun'_succ];by_cases e:f+1<64
 ·rw [Jy e];omega
 ·rw [Jx e];have:=eG f ((f+1) / 2) (max 0 ((f+1) % 2)) (by omega);omega
section
variable {P:Program} {w:World} {A:Around} {X:Value->Shared->Prop} {s:Shared} {κ:SortKind} {it:Array Keyed} {n:Nat} {lt:Nat->Nat->Bool} {Q:SortSt->Shared->Prop}
theorem u9 (W:Ans (kas_cmp P w A κ it) n lt s) (T:Tot n lt) (h2:2<=n) (up:∀ i,i+1<n->lt (i+1) i=false)
  (q:∀ st',arrOf st'=(Fm (Ef n)).map (kas_item it)->failedOf st'=none->Q st' s):kasC (model P w) A X sortRuns' (fun _ st' s'=>Q st' s') (kas_st κ it (Fm (Ef n))) s:=by
 obtain⟨r,rfl⟩:∃ r,n=r+2:=⟨n - 2,by omega⟩;have sz:(Fm (Ef (r+2))).size=r+2:=by simp
 have szA:(arrOf (kas_st κ it (Fm (Ef (r+2))))).size=r+2:=by
  show (Array.map _ _).size=_;rw [IL,sz]
 have mr:=kT (n:=r+2) (by omega);have at_:∀ i,i<r+2->(Fm (Ef (r+2))).getD i 0=i:=fun i hi=>by simp [GI,hi]
 have cnt:(kas_count (r+2) (Fm (Ef (r+2)))).kasWp (kas_cmp P w A κ it) (fun z s'=>z=(r+2,Fm (Ef (r+2)))/\s'=s) s:=by
  unfold kas_count;rw [KasT.kasWp_bind];refine b6 T W (Pm.range _) (r+2 - 1) 1 (D8 _) (by omega) (fun i j a b=>by omega) fun m a b u c=>?_;have e:m=r+2:=by
   rcases c with c | c
   ·omega
   ·by_cases hm:m<r+2
    ·rw [at_ m hm,at_ (m - 1) (by omega)] at c;have:=up (m - 1) (by omega);rw [show m - 1+1=m by omega,c] at this;cases this
    ·omega
  subst e;rw [Jy (beq_self_eq_true _)];exact⟨rfl,rfl⟩
 rw [sortRuns'_eq];apply kasC_bind;apply kasC_get;simp only [szA];apply kasC_bind;apply kasC_range
 change kasC _ _ _ (forIn (0 :: 1 :: List.range' 2 r) _ _) _ _ _
 apply kasC_cons;simp only [Nat.sub_zero,Ip,show ¬ (0 >= r+2) by omega,if_false];refine kasC_bind (kas_count_ (by omega) (Gn sz.symm) (fun m p' s' _ _ _ z=>?_) cnt);obtain⟨z,rfl⟩:=z;cases z;simp only [show ¬ (r+2<minRun' (r+2) (r+2) 0) by omega,if_false];apply kasC_bind;apply kasC_get
 change kasC _ _ _ (modify (fun st=>setPending st ((pendingOf st).push (0,r+2,0))) >>= _) _ _ _
 apply kasC_bind;apply kasC_modify;apply kasC_pure;apply kasC_cons;simp only [show r+2 >= r+2 from D8 _,if_true];apply kasC_pure;apply kasC_bind;apply kasC_range
 change kasC _ _ _ (forIn (0 :: 1 :: List.range' 2 r) _ _) _ _ _
 apply kasC_cons;apply kasC_bind;apply kasC_get;rw [Jy (show (pendingOf (setPending (kas_st κ it (Fm (Ef (r+2)))) ((pendingOf (kas_st κ it (Fm (Ef (r+2))))).push (0,r+2,0)))).size<=1 from D8 1)];apply kasC_pure;exact kasC_pure (q _ rfl rfl)
theorem sy (W:Ans (kas_cmp P w A κ it) n lt s) (T:Tot n lt) (h2:2<=n) (hs:n<64 \/ ∀ i,i+1<n->lt (i+1) i=false)
  (q:∀ st' p,Pm n p->Up lt p n->arrOf st'=p.map (kas_item it)->failedOf st'=none->Q st' s):kasC (model P w) A X sortRuns' (fun _ st' s'=>Q st' s') (kas_st κ it (Fm (Ef n))) s:=by
 rcases hs with hs | hs
 ·exact kas_runs h2 hs (G:=fun p s'=>s'=s/\Pm n p/\Up lt p n) (fun p st' s' _ e f ⟨z,a,b⟩=>by subst z;exact q st' p a b e f) (sx T W (by omega) fun p a b=>⟨rfl,a,b⟩)
 ·refine u9 W T h2 hs fun st' e f=>q st' _ (Pm.range n) (fun i j hij hj=>?_) e f;have at_:∀ i,i<n->(Fm (Ef n)).getD i 0=i:=fun i hi=>by simp [GI,hi]
  rw [at_ i (by omega),at_ j hj];have key:∀ d,i+d+1<n->lt i (i+d+1)=true:=fun d=>by
   induction d with
   | zero=>intro hd;rw [T.tri _ _ (by omega) hd (by omega),hs i hd];rfl
   | succ d ih =>
    intro hd;refine T.tra _ (i+d+1) _ (by omega) (by omega) hd (ih (by omega)) ?_;rw [T.tri _ _ (by omega) hd (by omega),show i+(d+1)+1=i+d+1+1 by omega,hs (i+d+1) (by omega)];rfl
  have:=key (j - i - 1) (by omega)
  rwa [show i+(j - i - 1)+1=j by omega] at this
end
section
variable {P:Program} {w:World} {A:Around} {X:Value->Shared->Prop} {s:Shared} {κ:SortKind} {vs:List Value} {lt:Nat->Nat->Bool}
structure Asks (P:Program) (w:World) (A:Around) (s:Shared) (κ:SortKind) (vs:List Value) (lt:Nat->Nat->Bool):Prop where
 kind:2<=vs.length->∀ (h':Heap),(∀ b o,s.heap.get? b=some o->h'.get? b=some o)->∀ R:SortKind->Shared->Prop,R κ { s with heap:=h' }->Eo (model P w) A (keyKind' vs.toArray) R (fun _ _=>False) { s with heap:=h' }
 less:∀ (h':Heap),(∀ b o,s.heap.get? b=some o->h'.get? b=some o)->Ans (kas_ask P w A κ vs) vs.length lt { s with heap:=h' }
 ord:Tot vs.length lt
 few:vs.length<64 \/ ∀ i,i+1<vs.length->lt (i+1) i=false
theorem mn {a:DY} {e:Nat} {R:PySem.Fin->Shared->Prop} (hz:vs.length<=EJ) (ha:s.heap.get? a=some (seqObj "list" vs.toArray e)) {h0:Heap} (h0s:∀ b o,h0.get? b=some o->b≠a/\s.heap.get? b=some o) (K:Asks P w A { s with heap:=h0 } κ vs lt)
  (q:∀ (h':Heap) p c,Pm vs.length p->Up lt p vs.length->(∀ b o,b≠a->s.heap.get? b=some o->h'.get? b=some o)->h'.get? a=some (seqObj "list" (p.toList.map fun i=>vs.getD i Value.none).toArray c)->R (.done (.ret .none)) { s with heap:=h' }) :
  Eo (model P w) A (Builtin.«list.sort» ⟨[.ref a],[]⟩) R X s:=by
 let h1:=s.heap.update a (GG fun _=>(#[]:Array Value))
 obtain⟨e1,a1⟩:∃ e1,h1.get? a=some (seqObj "list" #[] e1):=⟨_,get?_update_seq ha fun _=>#[]⟩
 let h2':=(h1.push (seqObj "tuple" vs.toArray 0)).push (seqObj "list" #[] 0)
 have a2:h2'.get? a=some (seqObj "list" #[] e1):=D6 _ (D6 _ a1);have k2:∀ b o,b≠a->s.heap.get? b=some o->h2'.get? b=some o:=fun b o nb eb=>D6 _ (D6 _ ((F6 _ _ (Gv nb)).trans eb));have kz:∀ b o,h0.get? b=some o->h2'.get? b=some o:=fun b o eb=>k2 b o (h0s b o eb).1 (h0s b o eb).2;rw [list_sort_plain];apply DR;apply listItems_at ha rfl;apply DR;refine listUpdate_at ha rfl ?_ (by simpa using hz) (EI _);apply DR;apply seqEpoch_at a1 rfl;apply DR;refine wpAny_newTuple ?_ (by simpa using hz);apply DR;refine wpAny_newList ?_ (EI _);apply EM;dsimp only
 change Eo _ A _ _ _ { s with heap:=h2' }
 have st0:SortSt.mk' κ (vs.toArray.zip vs.toArray) #[] 7 none=kas_st κ (pairsOf vs) (Fm (Ef vs.length)):=by
  have z:=kas_range (pairsOf vs);rw [pairsOf_size] at z;unfold kas_st;rw [z];rfl
 have fin:∀ (st':SortSt) (p:Array Nat),Pm vs.length p->Up lt p vs.length->arrOf st'=p.map (kas_item (pairsOf vs))->failedOf st'=none->Eo (model P w) A (do
   let sorted:=(arrOf st').map (·.2)
   let touched:=(<- seqEpoch a) != e1
   Builtin.List.listUpdate (.ref a) fun _=>sorted
   if let some e:=failedOf st' then rule "list.sort.comparison-raised";throw e
   if touched then rule "list.sort.modified";raiseError "ValueError" "list modified during sort"
   ret .none) R X { s with heap:=h2' }:=fun st' p x1 x2 x3 x4=>by
  have out:(arrOf st').map (·.2)=(p.toList.map fun i=>vs.getD i Value.none).toArray:=by
   apply Array.toList_inj.mp;rw [x3,Array.map_map,Array.toList_map];refine Fp fun i _=>?_;show (kas_item (pairsOf vs) i).2=_;rw [kas_item_eq]
  dsimp only;rw [out,x4];obtain⟨c,a3⟩:∃ c,(h2'.update a (GG fun _=>(p.toList.map fun i=>vs.getD i Value.none).toArray)).get? a=some (seqObj "list" (p.toList.map fun i=>vs.getD i Value.none).toArray c):=⟨_,get?_update_seq a2 fun _=>(p.toList.map fun i=>vs.getD i Value.none).toArray⟩;apply DR;apply seqEpoch_at a2 rfl;apply DR;refine listUpdate_at a2 rfl ?_ (EI _) (by
   rw [Em,DS,Ek,x1.size];omega)
  simp only [bne_self_eq_false,EK,if_false];exact D3 (q _ p c x1 x2 (fun b o nb eb=>(F6 _ _ (Gv nb)).trans (k2 b o nb eb)) a3)
 by_cases h2:vs.length<2
 ·have two:vs.toArray.size<2:=by rw [Em];exact h2
  rw [Jy two,Jy two];apply DR;apply D3;apply DR;rw [StateT.run_pure];apply D3;have z:=kas_range (pairsOf vs);rw [pairsOf_size] at z;exact fin _ (Fm (Ef vs.length)) (Pm.range _) (fun i j x y=>by omega) z.symm rfl
 have two:¬ vs.toArray.size<2:=by rw [Em];exact h2
 rw [Jx two,Jx two];apply DR;refine FW (K.kind (by omega) h2' kz (fun κ' s'=>κ'=κ/\s'={ s with heap:=h2' }) ⟨rfl,rfl⟩) ?_ fun _ _ z=>z.elim;rintro κ' s' ⟨eκ,es⟩;rw [eκ,es];have W:=K.less h2' kz;rw [kas_ask_eq] at W;rw [st0];apply DR;refine FW (sy (Q:=fun st' s'=>s'={ s with heap:=h2' }/\∃ p,Pm vs.length p/\Up lt p vs.length/\arrOf st'=p.map (kas_item (pairsOf vs))/\failedOf st'=none) W K.ord (by omega) K.few fun st' p x1 x2 x3 x4=>⟨rfl,p,x1,x2,x3,x4⟩) ?_ fun _ _ z=>z;rintro⟨⟨⟩,st'⟩ s' ⟨rfl,p,x1,x2,x3,x4⟩;exact fin st' p x1 x2 x3 x4
theorem iu {l:DY} {Q:Value->Shared->Prop} (hz:vs.length<=EJ) (hl:s.heap.IsList l vs.toArray) (K:Asks P w A.in1.in1 s κ vs lt)
  (q:∀ (h':Heap) D p c,Pm vs.length p->Up lt p vs.length->s.heap.objs.size<=D->(∀ b o,s.heap.get? b=some o->h'.get? b=some o)->h'.get? D=some (seqObj "list" (p.toList.map fun i=>vs.getD i Value.none).toArray c)->Q (.ref D) { s with heap:=h' }) :
  Eo (model P w) A (call (.builtin "sorted") [.ref l]) Q X s:=by
 let h1:=(s.heap.push (seqObj "list" #[] 0)).update s.heap.objs.size (GG (·++vs.toArray))
 have s1:h1.objs.size=s.heap.objs.size+1:=by rw [Heap.size_update,size_push']
 let h2':=h1.push (seqObj "list" vs.toArray 0)
 have at2:h2'.get? (s.heap.objs.size+1)=some (seqObj "list" vs.toArray 0):=by rw [<-s1];exact El _ rfl
 have keep:∀ b o,s.heap.get? b=some o->b≠s.heap.objs.size+1/\h2'.get? b=some o:=fun b o eb=>by
  have lb:=Ea eb;refine⟨fun z=>?_,D6 _ ((F6 _ _ fun z=>?_).trans (D6 _ eb))⟩
  ·rw [z] at lb;exact Ga _ (HH lb (Ii _))
  ·rw [<-z] at lb;exact Ga _ lb
 refine HU kind_sorted plain_sorted entry_sorted (args_sorted1 _) ?_;unfold Builtin.«sorted»;apply DR (m:=checkCount "sorted" 1 1 _);apply D3;apply DR;refine collect_list hl ?_ hz;apply DR;refine wpAny_newList ?_ hz
 change Eo _ _ _ _ _ { s with heap:=h2' }
 rw [show Value.ref ((s.heap.push (seqObj "list" #[] 0)).update s.heap.objs.size (GG (·++vs.toArray))).objs.size=Value.ref (s.heap.objs.size+1) from congrArg Value.ref s1];apply DR;apply EM;refine wpAny_call_entry slot_list_sort ⟨_,at2,rfl⟩ entry_list_sort ?_ (args_list_sort _);refine mn (s:={ s with heap:=h2' }) hz at2 (h0:=s.heap) keep K fun h' p c x1 x2 x3 x4=>⟨_,rfl,D3 ⟨_,rfl,?_⟩⟩;exact q h' _ p c x1 x2 (Jk _) (fun b o eb=>x3 b o (keep b o eb).1 (keep b o eb).2) x4
end
mutual
noncomputable def zJ:PyData->Bool
 | .int _=>true
 | .str s=>(PyData.str s).canLay0
 | .tuple xs=>zR xs
 | _=>false
noncomputable def zR:List PyData->Bool
 | []=>true
 | x :: xs=>zJ x && zR xs
end
mutual
noncomputable def ltD:PyData->PyData->Bool
 | .int a,.int b=>decide (a<b)
 | .str a,.str b=>decide (a.cps.toList<b.cps.toList)
 | .tuple xs,.tuple ys=>ltL xs ys
 | .int _,.str _=>true
 | .int _,.tuple _=>true
 | .str _,.tuple _=>true
 | _,_=>false
noncomputable def ltL:List PyData->List PyData->Bool
 | [],[]=>false
 | [],_ :: _=>true
 | _ :: _,[]=>false
 | x :: xs,y :: ys=>if EC x y=true then ltL xs ys else ltD x y
end
mutual
noncomputable def fC:PyData->PyData->Bool
 | .int _,.int _=>true
 | .str _,.str _=>true
 | .tuple xs,.tuple ys=>fD xs ys
 | _,_=>false
noncomputable def fD:List PyData->List PyData->Bool
 | [],_=>true
 | _ :: _,[]=>true
 | x :: xs,y :: ys=>if EC x y=true then fD xs ys else fC x y
end
mutual
theorem y7:∀ d:PyData,zJ d=true->d.canLay0=true
 | .int _,_=>rfl
 | .str _,h=>h
 | .tuple xs,h=>by rw [PyData.canLay0];exact cQ xs (by rw [zJ] at h;exact h)
 | .none,h=>by cases h
 | .bool _,h=>by cases h
 | .list _,h=>by cases h
 | .dict _,h=>by cases h
theorem cQ:∀ xs:List PyData,zR xs=true->HY xs=true
 | [],_=>rfl
 | x :: xs,h=>by
  rw [zR,Eb] at h;rw [HY,y7 x h.1,cQ xs h.2];rfl
end
mutual
theorem sA:∀ a b:PyData,zJ a=true->zJ b=true->EC a b=true->a=b
 | .int a,.int b,_,_,h=>by simpa [EC] using h
 | .str a,.str b,_,_,h=>by simpa [EC] using h
 | .tuple xs,.tuple ys,h1,h2,h=>by rw [mq xs ys (by rw [zJ] at h1;exact h1) (by rw [zJ] at h2;exact h2) (by rw [EC] at h;exact h)]
 | .int _,.str _,_,_,h=>by simp [EC] at h
 | .int _,.tuple _,_,_,h=>by simp [EC] at h
 | .str _,.int _,_,_,h=>by simp [EC] at h
 | .str _,.tuple _,_,_,h=>by simp [EC] at h
 | .tuple _,.int _,_,_,h=>by simp [EC] at h
 | .tuple _,.str _,_,_,h=>by simp [EC] at h
 | .none,_,h,_,_=>by cases h
 | .bool _,_,h,_,_=>by cases h
 | .list _,_,h,_,_=>by cases h
 | .dict _,_,h,_,_=>by cases h
 | .int _,.none,_,h,_=>by cases h
 | .int _,.bool _,_,h,_=>by cases h
 | .int _,.list _,_,h,_=>by cases h
 | .int _,.dict _,_,h,_=>by cases h
 | .str _,.none,_,h,_=>by cases h
 | .str _,.bool _,_,h,_=>by cases h
 | .str _,.list _,_,h,_=>by cases h
 | .str _,.dict _,_,h,_=>by cases h
 | .tuple _,.none,_,h,_=>by cases h
 | .tuple _,.bool _,_,h,_=>by cases h
 | .tuple _,.list _,_,h,_=>by cases h
 | .tuple _,.dict _,_,h,_=>by cases h
theorem mq:∀ xs ys:List PyData,zR xs=true->zR ys=true->Ic xs ys=true->xs=ys
 | [],[],_,_,_=>rfl
 | [],_ :: _,_,_,h=>by simp [Ic] at h
 | _ :: _,[],_,_,h=>by simp [Ic] at h
 | x :: xs,y :: ys,h1,h2,h=>by
  rw [zR,Eb] at h1 h2;rw [Ic,Eb] at h;rw [sA x y h1.1 h2.1 h.1,mq xs ys h1.2 h2.2 h.2]
end
theorem b7 {a b:PyData} (ha:zJ a=true) (hb:zJ b=true):EC a b=true↔a=b :=
 ⟨sA a b ha hb,fun h=>by subst h;exact HL a (y7 a ha)⟩
theorem qG {x y:PyData} {xs ys:List PyData} (hx:zJ x=true) (hy:zJ y=true) [Decidable (x=y)]:ltL (x :: xs) (y :: ys)=if x=y then ltL xs ys else ltD x y:=by
 rw [ltL];by_cases h:x=y
 ·rw [Jy ((b7 hx hy).mpr h),Jy h]
 ·rw [Jx (fun z=>h ((b7 hx hy).mp z)),Jx h]
theorem sC {a b:List Nat} (h:a≠b):decide (a<b)=!decide (b<a):=by
 by_cases h1:a<b
 ·rw [decide_eq_true h1,decide_eq_false (fun z=>List.lt_irrefl a (List.lt_trans h1 z))];rfl
 ·have h2:b<a:=by
   have:b<=a:=List.not_lt.mp h1;rcases List.le_iff_lt_or_eq.mp this with z | z
   ·exact z
   ·exact absurd z.symm h
  rw [decide_eq_false h1,decide_eq_true h2];rfl
theorem A9 {a b:Str} (h:a≠b):a.cps.toList≠b.cps.toList:=fun z=>h (by
 cases a;cases b;simp only [Str.mk.injEq] at *;exact Array.toList_inj.mp z)
mutual
theorem kU:∀ a b:PyData,zJ a=true->zJ b=true->a≠b->ltD a b=!ltD b a
 | .int a,b,ha,hb,ne=>by
  cases b with
  | int b =>
   rw [ltD,ltD];have:a≠b:=fun z=>ne (by rw [z]);by_cases h:a<b
   ·rw [decide_eq_true h,decide_eq_false (by omega)];rfl
   ·rw [decide_eq_false h,decide_eq_true (by omega)];rfl
  | str b=>simp [ltD]
  | tuple ys=>simp [ltD]
  | none=>cases hb
  | bool _=>cases hb
  | list _=>cases hb
  | dict _=>cases hb
 | .str a,b,ha,hb,ne=>by
  cases b with
  | int b=>simp [ltD]
  | str b =>
   rw [ltD,ltD];exact sC (A9 fun z=>ne (by rw [z]))
  | tuple ys=>simp [ltD]
  | none=>cases hb
  | bool _=>cases hb
  | list _=>cases hb
  | dict _=>cases hb
 | .tuple xs,b,ha,hb,ne=>by
  cases b with
  | int b=>simp [ltD]
  | str b=>simp [ltD]
  | tuple ys =>
   rw [ltD,ltD];rw [zJ] at ha hb;exact mv xs ys ha hb fun z=>ne (by rw [z])
  | none=>cases hb
  | bool _=>cases hb
  | list _=>cases hb
  | dict _=>cases hb
 | .none,_,h,_,_=>by cases h
 | .bool _,_,h,_,_=>by cases h
 | .list _,_,h,_,_=>by cases h
 | .dict _,_,h,_,_=>by cases h
theorem mv:∀ xs ys:List PyData,zR xs=true->zR ys=true->xs≠ys->ltL xs ys=!ltL ys xs
 | [],[],_,_,ne=>absurd rfl ne
 | [],_ :: _,_,_,_=>by simp [ltL]
 | _ :: _,[],_,_,_=>by simp [ltL]
 | x :: xs,y :: ys,h1,h2,ne=>by
  rw [zR,Eb] at h1 h2;have:=Fd (x=y);have:=Fd (y=x);rw [qG h1.1 h2.1,qG h2.1 h1.1];by_cases e:x=y
  ·rw [Jy e,Jy e.symm];exact mv xs ys h1.2 h2.2 fun z=>ne (by rw [e,z])
  ·rw [Jx e,Jx (Gv e)];exact kU x y h1.1 h2.1 e
end
mutual
theorem j6:∀ a:PyData,zJ a=true->ltD a a=false
 | .int a,_=>by rw [ltD];exact decide_eq_false (Int.lt_irrefl a)
 | .str a,_=>by rw [ltD];exact decide_eq_false (List.lt_irrefl _)
 | .tuple xs,h=>by rw [ltD];rw [zJ] at h;exact mw xs h
 | .none,h=>by cases h
 | .bool _,h=>by cases h
 | .list _,h=>by cases h
 | .dict _,h=>by cases h
theorem mw:∀ xs:List PyData,zR xs=true->ltL xs xs=false
 | [],_=>by rw [ltL]
 | x :: xs,h=>by
  rw [zR,Eb] at h;have:=Fd (x=x);rw [qG h.1 h.1,Jy rfl];exact mw xs h.2
end
theorem lt_asymm {a b:PyData} (ha:zJ a=true) (hb:zJ b=true) (h:ltD a b=true):a≠b:=fun z=>by
 subst z;rw [j6 a ha] at h;cases h
mutual
theorem cR:∀ a b c:PyData,zJ a=true->zJ b=true->zJ c=true->ltD a b=true->ltD b c=true->ltD a c=true
 | .int a,b,c,ha,hb,hc,h1,h2=>by
  cases b <;> first | (cases hb;done) | skip
  all_goals cases c <;> first | (cases hc;done) | skip
  all_goals first | (simp [ltD] at h1 h2 ⊢;omega) | (simp [ltD] at h1 h2 ⊢;done) | (simp [ltD] at h1;done) | (simp [ltD] at h2;done)
 | .str a,b,c,ha,hb,hc,h1,h2=>by
  cases b <;> first | (cases hb;done) | skip
  all_goals cases c <;> first | (cases hc;done) | skip
  all_goals first | (simp [ltD] at h1;done) | (simp [ltD] at h2;done) | (rw [ltD] at h1 h2 ⊢;exact decide_eq_true (List.lt_trans (of_decide_eq_true h1) (of_decide_eq_true h2))) | (simp [ltD] at h1 h2 ⊢;done)
 | .tuple xs,b,c,ha,hb,hc,h1,h2=>by
  cases b with
  | tuple ys =>
   cases c with
   | tuple zs =>
    rw [ltD] at h1 h2 ⊢;rw [zJ] at ha hb hc;exact my xs ys zs ha hb hc h1 h2
   | int _=>simp [ltD] at h2
   | str _=>simp [ltD] at h2
   | none=>cases hc
   | bool _=>cases hc
   | list _=>cases hc
   | dict _=>cases hc
  | int _=>simp [ltD] at h1
  | str _=>simp [ltD] at h1
  | none=>cases hb
  | bool _=>cases hb
  | list _=>cases hb
  | dict _=>cases hb
 | .none,_,_,h,_,_,_,_=>by cases h
 | .bool _,_,_,h,_,_,_,_=>by cases h
 | .list _,_,_,h,_,_,_,_=>by cases h
 | .dict _,_,_,h,_,_,_,_=>by cases h
theorem my:∀ xs ys zs:List PyData,zR xs=true->zR ys=true->zR zs=true->ltL xs ys=true->ltL ys zs=true->ltL xs zs=true
 | [],ys,[],_,_,_,h1,h2=>by
  cases ys with
  | nil=>exact h1
  | cons y ys=>simp [ltL] at h2
 | [],_,_ :: _,_,_,_,_,_=>by rw [ltL]
 | _ :: _,[],_,_,_,_,h1,_=>by simp [ltL] at h1
 | _ :: _,_ :: _,[],_,_,_,_,h2=>by simp [ltL] at h2
 | x :: xs,y :: ys,z :: zs,p1,p2,p3,h1,h2=>by
  rw [zR,Eb] at p1 p2 p3;have:=Fd (x=y);have:=Fd (y=z);have:=Fd (x=z);rw [qG p1.1 p2.1] at h1;rw [qG p2.1 p3.1] at h2;rw [qG p1.1 p3.1];by_cases e1:x=y
  ·rw [Jy e1] at h1;by_cases e2:y=z
   ·rw [Jy e2] at h2;rw [Jy (e1.trans e2)];exact my xs ys zs p1.2 p2.2 p3.2 h1 h2
   ·rw [Jx e2] at h2;rw [Jx (fun q=>e2 (e1.symm.trans q)),e1];exact h2
  ·rw [Jx e1] at h1;by_cases e2:y=z
   ·rw [Jx (fun q=>e1 (q.trans e2.symm)),<- e2];exact h1
   ·rw [Jx e2] at h2;have h3:=cR x y z p1.1 p2.1 p3.1 h1 h2;rw [Jx (lt_asymm p1.1 p3.1 h3)];exact h3
end
end L2
end
section
namespace L2
open PySem PySem.Spec PyProof.Rows PySem.SeqAt
open PySem.AutoSeq1 (wpAny_loadPart')
open PySem.MeetsSeq PySem.MeetsSeq2 PySem.MeetsSeq3
def CJ (A:Around) (s:Shared) (y x:Value) (b:Bool):Prop :=
 ∀ (prog:Program) (w:World) (E:Value->Shared->Prop) (Q:Value->Shared->Prop),Q (.bool b) s->Eo (model prog w) A (richCompare .Lt y x) Q E s
inductive Lex (A:Around) (s:Shared):List Value->List Value->Bool->Prop where
 | nn:Lex A s [] [] false
 | nc {w ws}:Lex A s [] (w :: ws) true
 | cn {v vs}:Lex A s (v :: vs) [] false
 | eq {v w vs ws b}:EqAt A s v w true->Lex A s vs ws b->Lex A s (v :: vs) (w :: ws) b
 | lt {v w vs ws b}:EqAt A s v w false->CJ A s v w b->Lex A s (v :: vs) (w :: ws) b
theorem fE (l m:DY) (xs ys:Array Value) (n n2:Nat) (dd dd2:Option DY) (sl sl2:Array (Option Value)) (c:Bool) :
  Meets (Builtin.«tuple.__lt__» ⟨[.ref l,.ref m],[]⟩)
   (fun A R s=>s.heap.get? l=some { cls:=.type "tuple",dict:=dd,data:=.seq xs n,slots:=sl }/\s.heap.get? m=some { cls:=.type "tuple",dict:=dd2,data:=.seq ys n2,slots:=sl2 } /\
    Lex A.in1 s xs.toList ys.toList c/\R (.ok (.ret (.bool c))) s) :=
 .of_wp fun prog w A R s h=>by
  obtain⟨hp,g,d,tk,os⟩:=s;obtain⟨hl,hb,hx,h⟩:=h;have f2:=AutoSeq1.sub_tuple_tuple
  wp_walk using wpAny_loadPart' hl,wpAny_loadPart' hb,wpAny_forIn_list _ (fun rest b s'=>b.1=none/\s'=⟨hp,g,d,tk,os⟩/\∃ (vs ws:List Value),rest=vs.zip ws/\Lex A.in1 ⟨hp,g,d,tk,os⟩ vs ws c/\vs.length+ys.size=ws.length+xs.size) _
  case turn =>
   rintro⟨y,x⟩ rest b s' ⟨hb',rfl,vs,ws,hz,lx,hn⟩;cases lx with
   | nn=>cases hz
   | nc=>cases hz
   | cn=>cases hz
   | eq he lx' =>
    rw [GJ] at hz;cases hz;refine DR (he prog w _ _ ?_)
    wp_walk
    exact⟨rfl,rfl,_,_,rfl,lx',by simp only [Ep] at hn;omega⟩
   | lt he hlt =>
    rw [GJ] at hz;cases hz;refine DR (he prog w _ _ ?_);have hri:=hlt prog w
    wp_walk using hri
    exact⟨_,rfl,h⟩
  case fin =>
   rintro⟨b1,b2⟩ s' ⟨hb',rfl,vs,ws,hz,lx,hn⟩;simp only at hb';subst hb';have hv:decide (xs.size<ys.size)=c:=by
    cases lx with
    | nn=>simp only [FU] at hn;exact decide_eq_false (by omega)
    | nc=>simp only [FU,Ep] at hn;exact decide_eq_true (by omega)
    | cn=>simp only [FU,Ep] at hn;exact decide_eq_false (by omega)
    | eq _ _=>cases hz
    | lt _ _=>cases hz
   wp_walk
   rw [<-hv] at h;exact⟨_,rfl,by simpa [Builtin.Tuple.tupleCompareSizes] using h⟩
  case h=>exact⟨rfl,rfl,_,_,rfl,hx,by simp only [Ek];omega⟩
mutual
theorem iw:∀ (da db:PyData) (A:Around) (s:Shared) (a b:Value) (as bs:List DY),Reads s.heap a da as->Reads s.heap b db bs->zJ da=true->zJ db=true->fC da db=true ->
  A.units+max da.depth db.depth<E1->CJ A s a b (ltD da db)
 | .int x,db,A,s,_,_,_,_,ra,rb,_,_,hc,hu=>by
  cases ra with
  | int _ t =>
   cases db with
   | int y =>
    cases rb with
    | int _ u =>
     intro prog w E Q q;exact HT.rcLt_int A s x t y u prog w E Q (by rw [ltD] at q;exact q)
   | _=>cases hc
 | .str x,db,A,s,_,_,_,_,ra,rb,_,_,hc,hu=>by
  cases ra with
  | str _ t =>
   cases db with
   | str y =>
    cases rb with
    | str _ u =>
     intro prog w E Q q;exact (PyProof.Rows.lt_str (by rw [ltD] at q;exact q):Eo (model prog w) A (E8 .Lt (.str x t) (.str y u)) Q E s)
   | _=>cases hc
 | .tuple xs,db,A,s,_,_,_,_,ra,rb,pa,pb,hc,hu=>by
  cases ra with
  | @tuple l o vs n _ as h1 h2 h3 h4 =>
   cases db with
   | tuple ys =>
    cases rb with
    | @tuple m o2 ws n2 _ bs k1 k2 k3 k4 =>
     intro prog w E Q q;obtain⟨cls,dd,data,sl⟩:=o;obtain⟨cls2,dd2,data2,sl2⟩:=o2;simp only at h2 h3 k2 k3;subst h2 h3 k2 k3;rw [zJ] at pa pb;rw [fC] at hc;rw [ltD] at q;have hd:A.in1.units+max (Eg xs) (Eg ys)<E1:=by
      have e1:(PyData.tuple xs).depth=Eg xs+1:=rfl;have e2:(PyData.tuple ys).depth=Eg ys+1:=rfl;have e3:A.in1.units=A.units+1:=rfl;rw [e1,e2] at hu;omega
     have lx:=eH xs ys A.in1 s _ _ _ _ h4 k4 pa pb hc hd;exact richCompare_meets_room (op:=.Lt) ⟨_,h1,rfl⟩ ⟨_,k1,rfl⟩ PySem.F.slot_tuple_lt PySem.F.entry_tuple_lt (PySem.F.args_tuple_lt_2 _ _) (fE l m vs ws n n2 dd dd2 sl sl2 (ltL xs ys))
      ⟨h1,k1,lx,show Value.bool (ltL xs ys)≠Value.notImplemented/\Q (.bool (ltL xs ys)) s from⟨(fun x=>nomatch x),q⟩⟩ (by omega)
   | _=>cases hc
 | .none,_,_,_,_,_,_,_,_,_,h,_,_,_=>by cases h
 | .bool _,_,_,_,_,_,_,_,_,_,h,_,_,_=>by cases h
 | .list _,_,_,_,_,_,_,_,_,_,h,_,_,_=>by cases h
 | .dict _,_,_,_,_,_,_,_,_,_,h,_,_,_=>by cases h
theorem eH:∀ (xs ys:List PyData) (A:Around) (s:Shared) (vs ws:List Value) (as bs:List DY),ReadsAll s.heap vs xs as->ReadsAll s.heap ws ys bs->zR xs=true->zR ys=true->fD xs ys=true ->
  A.units+max (Eg xs) (Eg ys)<E1->Lex A s vs ws (ltL xs ys)
 | [],[],_,_,_,_,_,_,ra,rb,_,_,_,_=>by cases ra;cases rb;rw [ltL];exact .nn
 | [],_ :: _,_,_,_,_,_,_,ra,rb,_,_,_,_=>by cases ra;cases rb;rw [ltL];exact .nc
 | _ :: _,[],_,_,_,_,_,_,ra,rb,_,_,_,_=>by cases ra;cases rb;rw [ltL];exact .cn
 | x :: xs,y :: ys,A,s,_,_,_,_,ra,rb,pa,pb,hc,hu=>by
  cases ra with
  | cons r rs =>
   cases rb with
   | cons r' rs' =>
    rw [zR,Eb] at pa pb;rw [fD] at hc;rw [ltL];have e1:Eg (x :: xs)=max x.depth (Eg xs):=rfl;have e2:Eg (y :: ys)=max y.depth (Eg ys):=rfl;rw [e1,e2] at hu;have eq:=eqAt_reads x y A s _ _ _ _ r r' (y7 x pa.1) (y7 y pb.1) (by omega);by_cases e:EC x y=true
    ·rw [Jy e] at hc ⊢;rw [e] at eq;exact .eq eq (eH xs ys A s _ _ _ _ rs rs' pa.2 pb.2 hc (by omega))
    ·rw [Jx e] at hc ⊢;rw [Bool.not_eq_true] at e;rw [e] at eq;exact .lt eq (iw x y A s _ _ _ _ r r' pa.1 pb.1 hc (by omega))
end
end L2
end
section
namespace L2
open PySem PySem.Spec PyProof.Rows PySem.SeqAt PySem.W
section
variable {P:Program} {w:World} {A:Around} {s:Shared} {b:Bool} {Q:Bool->Shared->Prop}
theorem fF {fin:Bool} {x y:PyData} {p q:Value} {r:List (Value×Value)} {i:Nat} {as bs:List DY} {c:Bool} (rx:Reads s.heap p x as) (ry:Reads s.heap q y bs) (px:zJ x=true) (py:zJ y=true) (hu:A.units+max x.depth y.depth<E1)
  (h1:EC x y=true->KatLex P w A b fin Q r (i+1) s) (h2:EC x y=false->Eo (model P w) A (oneLt' (b && i == 0) p q) Q (fun _ _=>False) s):KatLex P w A b fin Q ((p,q) :: r) i s:=by
 refine kat_cons (eqAt_reads x y A s _ _ _ _ rx ry (y7 x px) (y7 y py) (by omega) P w _ _ ?_);exact kat_go (fun e=>kat_yes (h1 e)) fun e=>kat_no (h2 e)
theorem ax {m n:Nat}:∀ (xs ys:List PyData) (vs ws:List Value) (as bs:List DY) (i:Nat),(1<=i \/ b=false)->ReadsAll s.heap vs xs as->ReadsAll s.heap ws ys bs->zR xs=true->zR ys=true->fD xs ys=true ->
  A.units+max (Eg xs) (Eg ys)<E1->xs.length+n=ys.length+m->Q (ltL xs ys) s->KatLex P w A b (decide (m<n)) Q (vs.zip ws) i s
 | [],[],_,_,_,_,i,_,ra,rb,_,_,_,_,hl,q=>by
  cases ra;cases rb;rw [ltL] at q;simp only [FU] at hl;rw [decide_eq_false (show ¬ m<n by omega)];exact kat_nil q
 | [],y :: ys,_,_,_,_,i,_,ra,rb,_,_,_,_,hl,q=>by
  cases ra;cases rb;rw [ltL] at q;simp only [FU,Ep] at hl;rw [decide_eq_true (show m<n by omega)];exact kat_nil q
 | x :: xs,[],_,_,_,_,i,_,ra,rb,_,_,_,_,hl,q=>by
  cases ra;cases rb;rw [ltL] at q;simp only [FU,Ep] at hl;rw [decide_eq_false (show ¬ m<n by omega),List.zip_nil_right];exact kat_nil q
 | x :: xs,y :: ys,_,_,_,_,i,hi,ra,rb,pa,pb,hc,hu,hl,q=>by
  cases ra with
  | cons r rs =>
   cases rb with
   | cons r' rs' =>
    rw [zR,Eb] at pa pb;rw [fD] at hc;rw [ltL] at q;have e1:Eg (x :: xs)=max x.depth (Eg xs):=rfl;have e2:Eg (y :: ys)=max y.depth (Eg ys):=rfl;rw [e1,e2] at hu;simp only [Ep] at hl;rw [GJ];refine fF (c:=true) r r' pa.1 pb.1 (by omega) (fun e=>?_) fun e=>?_
    ·rw [Jy e] at hc q;exact ax xs ys _ _ _ _ (i+1) (.inl (by omega)) rs rs' pa.2 pb.2 hc (by omega) (by omega) q
    ·rw [Jx (by rw [e];exact DX)] at hc q;have ef:(b && i == 0)=false:=by
      rcases hi with hi | hi
      ·rw [show (i == 0)=false from beq_eq_false_iff_ne.mpr (by omega),HM]
      ·rw [hi];rfl
     rw [ef];exact kat_one _ _ (iw x y A s _ _ _ _ r r' pa.1 pb.1 hc (by omega) P w _ _ q)
end
noncomputable def qH:PyData->Option String
 | .tuple (.int _ :: _)=>some "int"
 | .tuple (.str _ :: _)=>some "str"
 | .tuple (.tuple _ :: _)=>some "tuple"
 | _=>none
structure SortOk (T:String) (ds:List PyData):Prop where
 plain:∀ d∈ds,zJ d=true
 head:∀ d∈ds,qH d=some T
 cmp:∀ d∈ds,∀ e∈ds,fC d e=true
 depth:∀ d∈ds,d.depth<=50
 nd:ds.Nodup
theorem vn {d:PyData} {T:String} (h:qH d=some T):∃ x xs,d=.tuple (x :: xs)/\((T="int"/\∃ n,x=.int n) \/ (T="str"/\∃ n,x=.str n) \/ (T="tuple"/\∃ n,x=.tuple n)):=by
 unfold qH at h;split at h
 ·cases h;exact⟨_,_,rfl,.inl ⟨rfl,_,rfl⟩⟩
 ·cases h;exact⟨_,_,rfl,.inr (.inl ⟨rfl,_,rfl⟩)⟩
 ·cases h;exact⟨_,_,rfl,.inr (.inr ⟨rfl,_,rfl⟩)⟩
 ·cases h
section
variable {P:Program} {w:World} {A:Around} {s:Shared} {T:String}
theorem Ba {d e:PyData} {v u:Value} {as bs:List DY} {C:Bool->Shared->Prop} (rd:Reads s.heap v d as) (re:Reads s.heap u e bs) (pd:zJ d=true) (pe:zJ e=true) (hd:qH d=some T) (he:qH e=some T) (hc:fC d e=true)
  (hu:A.units+60<E1) (d1:d.depth<=50) (d2:e.depth<=50) (q:C (ltD d e) s):Eo (model P w) A (keyLt' (tuples' (Value.type T != Value.type "tuple")) v u) C (fun _ _=>False) s:=by
 obtain⟨x,xs,rfl,hx⟩:=vn hd;obtain⟨y,ys,rfl,hy⟩:=vn he;cases rd with
 | @tuple l o vs n _ as h1 h2 h3 h4 =>
  cases re with
  | @tuple m o2 ws n2 _ bs k1 k2 k3 k4 =>
   have l1:=Hq _ _ _ h4;have l2:=Hq _ _ _ k4;rw [Ek] at l1 l2;refine kat_lt h1 h3 k1 k3 ?_;rw [zJ] at pd pe;rw [fC] at hc;rw [ltD] at q;have e1:(PyData.tuple (x :: xs)).depth=Eg (x :: xs)+1:=rfl;have e2:(PyData.tuple (y :: ys)).depth=Eg (y :: ys)+1:=rfl;have e3:Eg (x :: xs)=max x.depth (Eg xs):=rfl;have e4:Eg (y :: ys)=max y.depth (Eg ys):=rfl;rcases hx with⟨rfl,nx,rfl⟩ | ⟨rfl,nx,rfl⟩ | ⟨rfl,nx,rfl⟩
   ·obtain⟨ny,rfl⟩:∃ ny,y=.int ny:=by
     rcases hy with⟨_,h⟩ | ⟨z,_⟩ | ⟨z,_⟩
     ·exact h
     ·exact absurd z (by decide)
     ·exact absurd z (by decide)
    obtain⟨vl⟩:=vs;obtain⟨wl⟩:=ws;cases h4 with
    | cons r rs =>
     cases k4 with
     | cons r' rs' =>
      rw [zR,Eb] at pd pe;rw [fD] at hc;rw [ltL] at q;rw [GJ];refine fF (c:=true) r r' rfl rfl (by omega) (fun e=>?_) fun e=>?_
      ·rw [Jy e] at hc q;exact ax xs ys _ _ _ _ 1 (.inl (D8 1)) rs rs' pd.2 pe.2 hc (by omega) (by simp only [Ep] at l1 l2;omega) q
      ·rw [Jx (by rw [e];exact DX)] at q;rw [show ((Value.type "int" != Value.type "tuple") && (0 == 0))=true by decide];cases r;cases r';rw [ltD] at q;exact oneLt_int q
   ·obtain⟨ny,rfl⟩:∃ ny,y=.str ny:=by
     rcases hy with⟨z,_⟩ | ⟨_,h⟩ | ⟨z,_⟩
     ·exact absurd z (by decide)
     ·exact h
     ·exact absurd z (by decide)
    obtain⟨vl⟩:=vs;obtain⟨wl⟩:=ws;cases h4 with
    | cons r rs =>
     cases k4 with
     | cons r' rs' =>
      rw [zR,Eb] at pd pe;rw [fD] at hc;rw [ltL] at q;rw [GJ];refine fF (c:=true) r r' pd.1 pe.1 (by omega) (fun e=>?_) fun e=>?_
      ·rw [Jy e] at hc q;exact ax xs ys _ _ _ _ 1 (.inl (D8 1)) rs rs' pd.2 pe.2 hc (by omega) (by simp only [Ep] at l1 l2;omega) q
      ·rw [Jx (by rw [e];exact DX)] at q;rw [show ((Value.type "str" != Value.type "tuple") && (0 == 0))=true by decide];cases r;cases r';rw [ltD] at q;exact oneLt_str q
   ·exact ax _ _ _ _ _ _ 0 (.inr (by decide)) h4 k4 pd pe hc (by omega) (by rw [l1,l2];omega) q
theorem ReadsAll.at {h:Heap}:∀ {vs:List Value} {ds:List PyData} {as:List DY},ReadsAll h vs ds as->∀ i,i<ds.length->∃ bs,Reads h (vs.getD i Value.none) (ds.getD i .none) bs
 | _,_,_,.nil,i,hi=>absurd hi (FV _)
 | _,_,_,.cons r rs,0,_=>⟨_,r⟩
 | _,_,_,.cons r rs,i+1,hi=>ReadsAll.at rs i (Nat.lt_of_succ_lt_succ hi)
theorem ReadsAll.keep {h h':Heap} (k:∀ b o,h.get? b=some o->h'.get? b=some o):∀ {vs:List Value} {ds:List PyData} {as:List DY},ReadsAll h vs ds as->ReadsAll h' vs ds as
 | _,_,_,.nil=>.nil
 | _,_,_,.cons r rs=>.cons (PyProof.Rows.Reads.keeps k r) (ReadsAll.keep k rs)
theorem mB {h:Heap}:∀ {vs:List Value} {ds:List PyData} {as:List DY},ReadsAll h vs ds as->(∀ d∈ds,qH d=some T)->∃ fs,KatTups h vs fs/\fs.length=vs.length/\∀ v∈fs,Looks (model P w) h (typeOf v) (.type T)
 | _,_,_,.nil,_=>⟨[],.nil,rfl,fun _ h=>nomatch h⟩
 | _,d :: ds,_,.cons r rs,hh=>by
  obtain⟨fs,h1,h2,h3⟩:=mB rs fun d hd=>hh d (DW _ hd);obtain⟨x,xs,rfl,hx⟩:=vn (hh d D4);cases r with
  | @tuple l o vs n _ as k1 k2 k3 k4 =>
   obtain⟨vl⟩:=vs;cases k4 with
   | @cons v0 vs0 _ _ _ _ r0 rs0 =>
    refine⟨v0 :: fs,.cons k1 k2 k3 rfl h1,by simp [h2],fun v hv=>?_⟩;rcases D5.mp hv with rfl | hv
    ·rcases hx with⟨rfl,nx,rfl⟩ | ⟨rfl,nx,rfl⟩ | ⟨rfl,nx,rfl⟩
     ·cases r0;exact Looks.of_pure rfl
     ·cases r0;exact Looks.of_pure rfl
     ·cases r0 with
      | tuple q1 q2 q3 q4=>rw [<-q2];exact (Looks.ld q1).andThen .now
    ·exact h3 v hv
theorem Bb {ds:List PyData} (ok:SortOk T ds):Tot ds.length fun i j=>ltD (ds.getD i .none) (ds.getD j .none):=by
 have mem:∀ i,i<ds.length->ds.getD i .none∈ds:=fun i hi=>by
  rw [DZ,DQ hi];exact Et hi
 refine⟨fun i j hi hj ne=>kU _ _ (ok.plain _ (mem i hi)) (ok.plain _ (mem j hj)) fun z=>ne ?_,fun i j k hi hj hk=>cR _ _ _ (ok.plain _ (mem i hi)) (ok.plain _ (mem j hj)) (ok.plain _ (mem k hk))⟩;rw [DZ,DZ,DQ hi,DQ hj] at z;exact (Hs ok.nd).mp z
theorem mC {vs:List Value} {ds:List PyData} {as:List DY} (ra:ReadsAll s.heap vs ds as) (ok:SortOk T ds) (hu:A.units+60<E1) (few:ds.length<64 \/ ds.Pairwise fun d e=>ltD d e=true) :
  Asks P w A s (tuples' (Value.type T != Value.type "tuple")) vs fun i j=>ltD (ds.getD i .none) (ds.getD j .none):=by
 have len:=Hq _ _ _ ra;have mem:∀ i,i<ds.length->ds.getD i .none∈ds:=fun i hi=>by
  rw [DZ,DQ hi];exact Et hi
 refine⟨fun h2 h' k R q=>?_,fun h' k i j C hi hj q=>?_,by rw [len];exact Bb ok,?_⟩
 ·obtain⟨fs,f1,f2,f3⟩:=mB (P:=P) (w:=w) (ReadsAll.keep k ra) ok.head;exact kat_kind f1 (by omega) f3 (beq_self_eq_true _) q
 ·rw [len] at hi hj;obtain⟨b1,r1⟩:=ReadsAll.at (ReadsAll.keep k ra) i hi;obtain⟨b2,r2⟩:=ReadsAll.at (ReadsAll.keep k ra) j hj;exact Ba r1 r2 (ok.plain _ (mem i hi)) (ok.plain _ (mem j hj)) (ok.head _ (mem i hi)) (ok.head _ (mem j hj)) (ok.cmp _ (mem i hi) _ (mem j hj)) hu (ok.depth _ (mem i hi)) (ok.depth _ (mem j hj)) q
 ·rw [len];refine few.imp id fun pw i hi=>?_;have h1:=GZ.mp pw i (i+1) (by omega) hi (by omega);have g:∀ j (hj:j<ds.length),ds.getD j .none=ds[j]:=fun j hj=>by rw [DZ,DQ hj];rfl
  rw [g _ hi,g i (by omega)];have ne:=lt_asymm (ok.plain _ (Et _)) (ok.plain _ (Et _)) h1;have:=kU _ _ (ok.plain _ (Et _)) (ok.plain _ (Et _)) ne;rw [h1] at this
  revert this
  cases ltD ds[i+1] ds[i] <;> simp
end
noncomputable def pick {α:Type} (d:α) (p:Array Nat) (xs:List α):List α:=p.toList.map fun i=>xs.getD i d
theorem mD:∀ {xs:List V} {us:List Value},Vals xs us->∀ i,RelV (xs.getD i .non) (us.getD i Value.none)
 | _,_,.nil,i=>rfl
 | _,_,.cons r t,0=>r
 | _,_,.cons r t,i+1=>mD t i
theorem eI {xs:List V} {us:List Value} (r:Vals xs us) (p:Array Nat):Vals (pick .non p xs) (pick Value.none p us):=by
 unfold pick
 induction p.toList with
 | nil=>exact .nil
 | cons i l ih=>exact .cons (mD r i) ih
theorem mE {K:DT} {H:Hp}:∀ {ds:List PyData} {xs:List V},Reps K H ds xs->∀ i,Rep K H (ds.getD i .none) (xs.getD i .non)
 | [],xs,r,i=>by
  rw [zP.mp r];exact ao.mpr rfl
 | d :: ds,xs,r,i=>by
  obtain⟨x,xs',rfl,r1,r2⟩:=zH.mp r;cases i with
  | zero=>exact r1
  | succ i=>exact mE r2 i
theorem eJ {K:DT} {H:Hp} {ds:List PyData} {xs:List V} (r:Reps K H ds xs) (p:Array Nat):Reps K H (pick .none p ds) (pick .non p xs):=by
 unfold pick
 induction p.toList with
 | nil=>exact .nil'
 | cons i l ih=>exact .cons' (mE r i) ih
theorem eK {α:Type} {d:α} {n:Nat} {p:Array Nat} {xs:List α} (h:Pm n p) (hn:n=xs.length):(pick d p xs).Perm xs:=by
 have e:(Ef n).map (fun i=>xs.getD i d)=xs:=by
  subst hn;refine FQ fun i=>?_;rw [D7];by_cases hi:i<xs.length
  ·rw [E9 hi,DQ hi];simp [hi]
  ·rw [Ex (by simp;omega),Ex (by omega)];rfl
 have:=h.map fun i=>xs.getD i d;rw [e] at this;exact this
theorem mG {n:Nat} {p:Array Nat} {ds:List PyData} (h:Pm n p) (u:Up (fun i j=>ltD (ds.getD i .none) (ds.getD j .none)) p n):(pick .none p ds).Pairwise fun d e=>ltD d e=true:=by
 unfold pick;rw [Fq];refine GZ.mpr fun i j hi hj hij=>?_;have hs:=h.size;rw [Ek] at hi hj;have:=u i j hij (by omega);have g:∀ k (hk:k<p.toList.length),p.getD k 0=p.toList[k]:=fun k hk=>by
  rw [qi,DZ,DQ hk];rfl
 rw [g i (by simpa using hi),g j (by simpa using hj)] at this;exact this
def fG (K:DT):List V->Hp->VK->Prop:=fun xs H Q=>∃ (a:DY) (vs:List V) (ds:List PyData) (T:String),xs=[.ref a]/\SqL K H a vs/\Reps K H ds vs/\SortOk T ds/\ds.length<=1000/\(ds.length<64 \/ ds.Pairwise fun d e=>ltD d e=true) /\
 ∀ l p,H l=none->Pm ds.length p->Up (fun i j=>ltD (ds.getD i .none) (ds.getD j .none)) p ds.length->Q (.ref l) (upd H l (.lst (pick .non p vs)))
theorem fH {X:Cx} (hu:X.A.units+64<E1):yT X (.builtin "sorted") (fG X.K):=by
 intro Jw s σ H xs us Q I r h;obtain⟨a,vs,ds,T,rfl,ha,rd,ok,hl,few,q⟩:=h;obtain⟨u,rfl,rx⟩:=vals1 r;cases rx;obtain⟨its,rv,pl,hz⟩:=I.list ha;have le:=rv.length;have ld:=rd.length;obtain⟨as,ra⟩:=jJ I ds vs its rd rv;have e2:X.A.in1.in1.units=X.A.units+1+1:=rfl;have lt':its.length=ds.length:=by omega
 refine iu (by omega) pl.isList (mC ra ok (by omega) few) fun h' D p c x1 x2 x3 x4 x5=>?_;rw [lt'] at x1 x2;have hD:H D=none:=I.hok.fresh x3;have lp:p.toList.length=ds.length:=by rw [Ek];exact x1.size
 exact⟨.ref D,upd H D (.lst (pick .non p vs)),I.laid (t':=s.toks) x4 x3 ⟨by unfold pick;rw [DS];omega,pick Value.none p its,c,eI rv p,x5⟩,rfl,q D p hD x1 x2⟩
theorem ay {X:Cx} {K:DT} (hK:X.K=K) (hu:X.A.units+64<E1):yT X (.builtin "sorted") (fG K):=hK▸fH hu
section
variable {K:DT} {f:Fx} {ρ:zq} {P:List PyData->Prop} {te:TE}
theorem iA (T:String) (h:PEd K f te ρ fun x=>∃ ds,x=.list ds/\SortOk T ds/\ds.length<=1000/\(ds.length<64 \/ ds.Pairwise fun d e=>ltD d e=true)/\∀ es,es.Perm ds->(es.Pairwise fun d e=>ltD d e=true)->P es) :
  PEdO K f (tCB (fG K) (yK te qM)) ρ P:=fun σ H Q e q=>h σ H _ e fun x v H1 g1 r1 ⟨ds,ex,ok,hl,few,p⟩=>by
 subst ex;obtain⟨a,xs,rfl,h1,h2⟩:=zB.mp r1;refine⟨a,xs,ds,T,rfl,(zf _ _).seq h1,Reps.mono (zf _ _) _ _ h2,ok,hl,few,fun l pm hn m u=>?_⟩;have g2:Goes f H1 (upd H1 l (.lst (pick .non pm xs))):=.of_same (yc hn _) g1.2;refine q (pick .none pm ds) l _ _ (g1.trans g2) (g1.free e.fd hn) zy (Reps.mono (fun b o hb=>?_) _ _ (eJ h2 pm)) (p _ (eK m rfl) (mG m u));have hb':=zI hb;have hbl:b≠l:=fun z=>by
  have:=hb'.2;rw [z,hn] at this;cases this
 refine zC (fun z=>?_) (by rw [zu hbl];exact hb'.2);rcases z with z | z
 ·exact hb'.1 (.inl z)
 ·rcases D5.mp z with z | z
  ·exact hbl z
  ·exact hb'.1 (.inr z)
end
end L2
end
section
namespace L2.ST
open PySem PySem.SetTable
def iB (xs:Array Nat):Prop:=∀ i j,i<j->j<xs.size->xs.getD i 0<xs.getD j 0
theorem sD {xs:Array Nat} {i d e:Nat} (h:i<xs.size):xs.getD i d=xs.getD i e:=by simp [GI,h]
theorem cS {xs:Array Nat} {j:Nat}:∀ f lo hi,hi - lo<=f->lo<=hi->hi<=xs.size->(∀ i,i<lo->xs.getD i 0<j)->(∀ i,hi<=i->i<xs.size->j<=xs.getD i 0)->iB xs ->
  lo<=below.go xs j f lo hi/\below.go xs j f lo hi<=hi/\(∀ i,i<below.go xs j f lo hi->xs.getD i 0<j)/\(∀ i,below.go xs j f lo hi<=i->i<xs.size->j<=xs.getD i 0)
 | 0,lo,hi,hf,hl,hh,a,b,r=>by
  obtain rfl:lo=hi:=by omega
  exact⟨D8 _,D8 _,a,b⟩
 | f+1,lo,hi,hf,hl,hh,a,b,r=>by
  unfold below.go;by_cases h:lo<hi
  ·rw [Jy h];have hm:(lo+hi) / 2<xs.size:=by omega
   simp only;rw [sD (e:=0) hm];by_cases h2:xs.getD ((lo+hi) / 2) 0<j
   ·rw [Jy h2];have:=cS f ((lo+hi) / 2+1) hi (by omega) (by omega) hh (fun i hi'=>by
     by_cases e:i=(lo+hi) / 2
     ·rw [e];exact h2
     ·exact HH (r i _ (by omega) hm) h2) b r
    exact⟨by omega,this.2.1,this.2.2⟩
   ·rw [Jx h2];have:=cS f lo ((lo+hi) / 2) (by omega) (by omega) (by omega) a (fun i hi' hs=>by
     by_cases e:i=(lo+hi) / 2
     ·rw [e];omega
     ·have:=r ((lo+hi) / 2) i (by omega) hs;omega) r
    exact⟨this.1,by omega,this.2.2⟩
  ·rw [Jx h];obtain rfl:lo=hi:=by omega
   exact⟨D8 _,D8 _,a,b⟩
theorem iC {xs:Array Nat} (r:iB xs) (j:Nat):below xs j<=xs.size/\(∀ i,i<below xs j->xs.getD i 0<j)/\(∀ i,below xs j<=i->i<xs.size->j<=xs.getD i 0):=by
 have:=cS (xs:=xs) (j:=j) xs.size 0 xs.size (by omega) (EI _) (D8 _) (fun i hi=>absurd hi (FV _)) (fun i a b=>by omega) r;exact this.2
theorem below_at {xs:Array Nat} (r:iB xs) {i:Nat} (hi:i<xs.size):below xs (xs.getD i 0)=i:=by
 obtain⟨a,b,c⟩:=iC r (xs.getD i 0);by_cases h:below xs (xs.getD i 0)<i
 ·have h1:=c _ (D8 _) (by omega);have h2:=r _ i h hi;omega
 ·by_cases h2:i<below xs (xs.getD i 0)
  ·have:=b i h2;omega
  ·omega
def Tk (t:SetTable) (j:Nat):Prop:=∃ i,i<t.place.size/\t.place.getD i 0=j
theorem slot_live {t:SetTable} (r:iB t.place) {i:Nat} (hi:i<t.place.size):t.slot (t.place.getD i 0)=.live i:=by
 unfold slot;simp only;rw [below_at r hi];have:(t.place[i]? == some (t.place.getD i 0))=true:=by simp [GI,hi]
 rw [Jy this]
theorem oy {t:SetTable} (d:t.dummies=#[]) {j:Nat} (h:¬ Tk t j):t.slot j=.empty:=by
 unfold slot;simp only;have h1:¬ (t.place[below t.place j]? == some j)=true:=fun e=>h (by
  have e2:=eq_of_beq e;obtain⟨hl,e3⟩:=Array.getElem?_eq_some_iff.mp e2;exact⟨_,hl,by simp [GI,hl,e3]⟩)
 rw [Jx h1];have h2:has t.dummies j=false:=by rw [d];rfl
 rw [h2];rfl
def road (mask:Nat) (h:Int):Nat->Probe
 | 0=>{ j:=bits h % (mask+1),more:=runEnd mask (bits h % (mask+1)) - bits h % (mask+1),i:=bits h % (mask+1),perturb:=bits h,dummy:=none }
 | k+1=>if (road mask h k).more > 0 then { road mask h k with j:=(road mask h k).j+1,more:=(road mask h k).more - 1 } else
  { road mask h k with j:=(leap mask (road mask h k).i (road mask h k).perturb).1,more:=runEnd mask (leap mask (road mask h k).i (road mask h k).perturb).1 - (leap mask (road mask h k).i (road mask h k).perturb).1,i:=(leap mask (road mask h k).i (road mask h k).perturb).1,perturb:=(leap mask (road mask h k).i (road mask h k).perturb).2 }
theorem road_start (t:SetTable) (h:Int):t.probeStart h=road t.mask h 0:=rfl
theorem vZ (mask:Nat) (h:Int):∀ k,(road mask h k).dummy=none
 | 0=>rfl
 | k+1=>by
  unfold road;split
  ·exact vZ mask h k
  ·exact vZ mask h k
abbrev pos (mask:Nat) (h:Int) (k:Nat):Nat:=(road mask h k).j
def lp (mask:Nat) (h:Int):Nat->Nat×Nat
 | 0=>(bits h % (mask+1),bits h)
 | r+1=>leap mask (lp mask h r).1 (lp mask h r).2
theorem bg (mask i:Nat) (h:i<=mask):i<=runEnd mask i/\runEnd mask i<=mask/\runEnd mask i - i<=9:=by
 unfold runEnd;split <;> omega
theorem iD (mask:Nat) (h:Int):∀ r,(lp mask h r).1<=mask
 | 0=>Hz.mp (Nat.mod_lt _ (HG _))
 | r+1=>Hz.mp (Nat.mod_lt _ (HG _))
def At (mask:Nat) (h:Int) (k r d:Nat):Prop:=d<=runEnd mask (lp mask h r).1 - (lp mask h r).1/\road mask h k={ j:=(lp mask h r).1+d,more:=runEnd mask (lp mask h r).1 - (lp mask h r).1 - d,i:=(lp mask h r).1,perturb:=(lp mask h r).2,dummy:=none }
theorem fI (mask:Nat) (h:Int):At mask h 0 0 0:=⟨EI _,rfl⟩
theorem mH {mask:Nat} {h:Int} {k r d:Nat} (a:At mask h k r d) (hd:d<runEnd mask (lp mask h r).1 - (lp mask h r).1):At mask h (k+1) r (d+1):=by
 obtain⟨a1,a2⟩:=a;refine⟨hd,?_⟩;unfold road;rw [a2];simp only;rw [Jy (by omega)];simp only [Probe.mk.injEq,and_true];omega
theorem fJ {mask:Nat} {h:Int} {k r d:Nat} (a:At mask h k r d) (hd:d=runEnd mask (lp mask h r).1 - (lp mask h r).1):At mask h (k+1) (r+1) 0:=by
 obtain⟨a1,a2⟩:=a;refine⟨EI _,?_⟩;unfold road;rw [a2];simp only;rw [Jx (by omega)];rfl
theorem fK {mask:Nat} {h:Int} {k r:Nat} (a:At mask h k r 0):∀ d,d<=runEnd mask (lp mask h r).1 - (lp mask h r).1->At mask h (k+d) r d
 | 0,_=>a
 | d+1,hd=>mH (fK a d (by omega)) (by omega)
theorem iE (mask:Nat) (h:Int):∀ r,∃ k,k<=10 * r/\At mask h k r 0
 | 0=>⟨0,D8 _,fI mask h⟩
 | r+1=>by
  obtain⟨k,hk,a⟩:=iE mask h r;have:=(bg mask _ (iD mask h r)).2.2;exact⟨_,by omega,fJ (fK a _ (D8 _)) rfl⟩
theorem sE (mask:Nat) (h:Int):∀ k,∃ r d,At mask h k r d
 | 0=>⟨0,0,fI mask h⟩
 | k+1=>by
  obtain⟨r,d,a⟩:=sE mask h k;by_cases e:d<runEnd mask (lp mask h r).1 - (lp mask h r).1
  ·exact⟨r,d+1,mH a e⟩
  ·exact⟨r+1,0,fJ a (Nat.le_antisymm a.1 (by omega))⟩
theorem fM (mask:Nat) (h:Int) (k:Nat):pos mask h k<=mask:=by
 obtain⟨r,d,a1,a2⟩:=sE mask h k;unfold pos;rw [a2];have:=bg mask _ (iD mask h r);show (lp mask h r).1+d<=mask;omega
def stp (m i:Nat):Nat:=(i * 5+1) % m
def itr (m:Nat):Nat->Nat->Nat
 | 0,i=>i
 | r+1,i=>stp m (itr m r i)
theorem az (m:Nat) (a:Nat):∀ b i,itr m (a+b) i=itr m b (itr m a i)
 | 0,i=>rfl
 | b+1,i=>by show stp m (itr m (a+b) i)=stp m (itr m b (itr m a i));rw [az m a b i]
def orb (m:Nat):Nat->Nat->List Nat
 | 0,_=>[]
 | f+1,i=>i :: orb m f (stp m i)
theorem sF (m:Nat):∀ f i r,r<f->(orb m f i)[r]?=some (itr m r i)
 | 0,_,_,h=>absurd h (FV _)
 | f+1,i,0,_=>rfl
 | f+1,i,r+1,h=>by
  show (orb m f (stp m i))[r]?=_;rw [sF m f (stp m i) r (by omega),show r+1=1+r by omega,az m 1 r i];rfl
def j7 (m:Nat):Bool:=(Ef m).all (fun j=>(orb m m 0).contains j) && itr m m 0 == 0
theorem mI:j7 8=true:=by decide +kernel
theorem iF:j7 32=true:=by decide +kernel
theorem eL:j7 128=true:=by decide +kernel
theorem eM:j7 512=true:=by decide +kernel
theorem fN (m:Nat):∀ f i,(orb m f i).length=f
 | 0,_=>rfl
 | f+1,i=>by show (orb m f (stp m i)).length+1=f+1;rw [fN m f]
theorem iG {m:Nat} (h:j7 m=true) {j:Nat} (hj:j<m):∃ r,r<m/\itr m r 0=j:=by
 unfold j7 at h;rw [Eb] at h;have:=GB.mp h.1 j (Eu.mpr hj);have hm:j∈orb m m 0:=by simpa using this
 obtain⟨r,hr,e⟩:=FY hm;rw [fN] at hr;have e2:=sF m m 0 r hr;rw [DQ (by rw [fN];exact hr),e] at e2;exact⟨r,hr,(Option.some.inj e2).symm⟩
theorem mJ {m:Nat} (h:j7 m=true) {i j:Nat} (hi:i<m) (hj:j<m):∃ r,r<m/\itr m r i=j:=by
 obtain⟨a,ha,ea⟩:=iG h hi;obtain⟨b,hb,eb⟩:=iG h hj;have e0:itr m m 0=0:=by
  unfold j7 at h;rw [Eb] at h;exact eq_of_beq h.2
 by_cases hab:a<=b
 ·exact⟨b - a,by omega,by rw [<-ea,<- az,show a+(b - a)=b by omega];exact eb⟩
 ·refine⟨m - a+b,by omega,?_⟩;rw [<-ea,<- az,show a+(m - a+b)=m+b by omega,az,e0];exact eb
theorem mK (mask:Nat) (h:Int):∀ r,(lp mask h r).2=bits h / 32 ^ r
 | 0=>by simp [lp]
 | r+1=>by
  show (lp mask h r).2 / 32=_;rw [mK mask h r,Nat.div_div_eq_div_mul,Ja]
theorem wc (h:Int):bits h<2 ^ 64:=by
 unfold bits;have:=Gh h (show (0:Int)<2 ^ 64 by decide);have:=HA h (show (2 ^ 64:Int)≠0 by decide);omega
theorem we (mask:Nat) (h:Int) (r:Nat) (hr:13<=r):(lp mask h r).2=0:=by
 rw [mK];refine Nat.div_eq_of_lt (Es (wc h) ?_);exact Er (show 2 ^ 64<=32 ^ 13 by decide) (GW (by decide) hr)
theorem kW (mask:Nat) (h:Int):∀ r,(lp mask h (13+r)).1=itr (mask+1) r (lp mask h 13).1
 | 0=>rfl
 | r+1=>by
  show (leap mask (lp mask h (13+r)).1 (lp mask h (13+r)).2).1=stp (mask+1) (itr (mask+1) r (lp mask h 13).1);rw [we mask h (13+r) (by omega),kW mask h r];rfl
theorem sG {mask:Nat} (g:j7 (mask+1)=true) (h:Int) {j:Nat} (hj:j<=mask):∃ k,k<10 * turns mask/\pos mask h k=j:=by
 obtain⟨r,hr,e⟩:=mJ g (i:=(lp mask h 13).1) (j:=j) (Hk (iD mask h 13)) (Hk hj);obtain⟨k,hk,a1,a2⟩:=iE mask h (13+r);refine⟨k,by unfold turns;omega,?_⟩;unfold pos;rw [a2];show (lp mask h (13+r)).1+0=j;rw [kW,e];rfl
end L2.ST
end
section
namespace L2.ST
open PySem PySem.SetTable
structure TB (t:SetTable) (hs:List Int):Prop where
 mask:t.mask=7 \/ t.mask=31 \/ t.mask=127 \/ t.mask=511
 dum:t.dummies=#[]
 rise:iB t.place
 le:∀ i,i<t.place.size->t.place.getD i 0<=t.mask
 size:t.place.size=hs.length
 most:hs.length<=t.mask
 reach:∀ i,i<hs.length->∃ k,pos t.mask (hs.getD i 0) k=t.place.getD i 0/\∀ k',k'<k->Tk t (pos t.mask (hs.getD i 0) k')
structure TOk (t:SetTable) (hs:List Int):Prop extends TB t hs where
 room:hs.length * 5<t.mask * 3
theorem Bc {t:SetTable} {hs:List Int} (o:TB t hs):j7 (t.mask+1)=true:=by
 rcases o.mask with e | e | e | e <;> rw [e]
 ·exact mI
 ·exact iF
 ·exact eL
 ·exact eM
theorem oz {t:SetTable} (r:iB t.place) (hs:t.place.size<=t.mask):∃ j,j<=t.mask/\¬ Tk t j:=by
 refine E3 fun no=>?_;have all:∀ j,j<=t.mask->Tk t j:=fun j hj=>E3 fun z=>no ⟨j,hj,z⟩;have up:∀ j,j<=t.mask->j<=below t.place j/\below t.place j<t.place.size:=fun j=>by
  induction j with
  | zero =>
   intro hj;obtain⟨i,hi,e⟩:=all 0 hj;have:=below_at r hi;rw [e] at this;exact⟨EI _,by omega⟩
  | succ j ih =>
   intro hj;obtain⟨i,hi,e⟩:=all (j+1) hj;obtain⟨i',hi',e'⟩:=all j (by omega);have b1:=below_at r hi;have b2:=below_at r hi';rw [e] at b1;rw [e'] at b2;have lt:i'<i:=by
    by_cases h:i'<i
    ·exact h
    ·by_cases h2:i'=i
     ·subst h2;omega
     ·have:=r i i' (by omega) hi';omega
   have:=ih (by omega);omega
 have:=up t.mask (D8 _);omega
structure First (t:SetTable) (h:Int) (E:Nat):Prop where
 lt:E<10 * turns t.mask
 free:¬ Tk t (pos t.mask h E)
 ahead:∀ k,k<E->Tk t (pos t.mask h k)
theorem least {p:Nat->Prop}:∀ n,p n->∃ m,m<=n/\p m/\∀ k,k<m->¬ p k:=fun n=>by
 induction n using Nat.strongRecOn with
 | ind n ih =>
  intro h;by_cases q:∃ k,k<n/\p k
  ·obtain⟨k,hk,pk⟩:=q;obtain⟨m,a,b⟩:=ih k hk pk;exact⟨m,by omega,b⟩
  ·exact⟨n,D8 _,h,fun k hk z=>q ⟨k,hk,z⟩⟩
theorem oA {t:SetTable} (g:j7 (t.mask+1)=true) (r:iB t.place) (hs:t.place.size<=t.mask) (h:Int):∃ E,First t h E:=by
 obtain⟨j,hj,nj⟩:=oz r hs;obtain⟨k,hk,e⟩:=sG g h hj;obtain⟨m,a,b,c⟩:=least (p:=fun k=>¬ Tk t (pos t.mask h k)) k (by show ¬ Tk t (pos t.mask h k);rw [e];exact nj);exact⟨m,by omega,b,fun q hq=>E3 (c q hq)⟩
theorem first_of {t:SetTable} {hs:List Int} (o:TB t hs) (h:Int):∃ E,First t h E:=oA (Bc o) o.rise (by have:=o.size;have:=o.most;omega) h
theorem probe_go {t:SetTable} (d:t.dummies=#[]) (r:iB t.place) {hashAt:Nat->Int} {h:Int} {E:Nat} (F:First t h E):∀ f k,k<=E->E<k+f ->
  (probe.go t hashAt h f (road t.mask h k)=some (.empty (pos t.mask h E) none)/\∀ q i,k<=q->q<E->i<t.place.size->pos t.mask h q=t.place.getD i 0->hashAt i≠h) \/
  ∃ q i,k<=q/\q<E/\i<t.place.size/\pos t.mask h q=t.place.getD i 0/\hashAt i=h/\probe.go t hashAt h f (road t.mask h k)=some (.candidate (pos t.mask h q) i (road t.mask h (q+1)))/\∀ q' i',k<=q'->q'<q->i'<t.place.size->pos t.mask h q'=t.place.getD i' 0->hashAt i'≠h
 | 0,k,h1,h2=>by omega
 | f+1,k,h1,h2=>by
  unfold probe.go;by_cases e:k=E
  ·subst e;refine .inl ⟨?_,fun q i a b=>by omega⟩;rw [oy d F.free];show some (Met.empty _ _)=_;rw [vZ]
  ·obtain⟨i,hi,ei⟩:=F.ahead k (by omega);have sl:t.slot (road t.mask h k).j=.live i:=by
    have:=slot_live r hi;rw [ei] at this;exact this
   rw [sl];show (if (hashAt i == h)=true then _ else _:Option Met)=_/\_ \/ _;have uniq:∀ i',i'<t.place.size->pos t.mask h k=t.place.getD i' 0->i'=i:=fun i' hi' e'=>by
    have b1:=below_at r hi;have b2:=below_at r hi';rw [ei] at b1;rw [<-e'] at b2;omega
   by_cases hh:(hashAt i == h)=true
   ·rw [Jy hh];refine .inr ⟨k,i,D8 _,by omega,hi,ei.symm,eq_of_beq hh,?_,fun q' i' a b=>by omega⟩;show (if (hashAt i == h)=true then _ else _:Option Met)=_;rw [Jy hh];rfl
   ·rw [Jx hh];have hne:hashAt i≠h:=fun z=>hh (by rw [z];exact beq_self_eq_true _);rcases probe_go d r (hashAt:=hashAt) F f (k+1) (by omega) (by omega) with⟨a,b⟩ | ⟨q,i2,a1,a2,a3,a4,a5,a6,a7⟩
    ·refine .inl ⟨a,fun q i' c1 c2 c3 c4=>?_⟩;by_cases eq:q=k
     ·subst eq;rw [uniq i' c3 c4];exact hne
     ·exact b q i' (by omega) c2 c3 c4
    ·refine .inr ⟨q,i2,by omega,a2,a3,a4,a5,?_,fun q' i' c1 c2 c3 c4=>?_⟩
     ·show (if (hashAt i == h)=true then _ else _:Option Met)=_;rw [Jx hh];exact a6
     ·by_cases eq:q'=k
      ·subst eq;rw [uniq i' c3 c4];exact hne
      ·exact a7 q' i' (by omega) c2 c3 c4
end L2.ST
end
section
namespace L2.ST
open PySem PySem.SetTable
theorem aA {α:Type} (xs:Array α) (i:Nat) (d:α):xs.getD i d=xs.toList.getD i d:=by
 by_cases h:i<xs.size <;> simp [GI,h,Ji]
theorem iH {α:Type} (l:List α) (p:Nat) (x d:α) (hp:p<=l.length) (i:Nat):(l.take p++x :: l.drop p).getD i d=if i<p then l.getD i d else if i=p then x else l.getD (i - 1) d:=by
 have lt:(l.take p).length=p:=by rw [EL];omega
 by_cases h1:i<p
 ·rw [Jy h1,DZ,Ec (by omega),Gu h1,DZ]
 ·rw [Jx h1,DZ,Ee (by omega),lt];by_cases h2:i=p
  ·rw [Jy h2,h2,F7];rfl
  ·rw [Jx h2,show i - p=(i - p - 1)+1 by omega,List.getElem?_cons_succ,List.getElem?_drop,show p+(i - p - 1)=i - 1 by omega,DZ]
section
variable {t:SetTable} {hs:List Int} {h:Int} {E:Nat}
theorem put_tb (o:TB t hs) (F:First t h E) (more:hs.length+1<=t.mask):below t.place (pos t.mask h E)<=hs.length/\TB (t.put (pos t.mask h E)).1 (hs.take (below t.place (pos t.mask h E))++h :: hs.drop (below t.place (pos t.mask h E))):=by
 obtain⟨b1,b2,b3⟩:=iC o.rise (pos t.mask h E);have sz:=o.size;generalize hp:below t.place (pos t.mask h E)=p at *;have hpl:p<=t.place.toList.length:=by rw [Ek];exact b1
 have pl:∀ i,(t.put (pos t.mask h E)).1.place.getD i 0=if i<p then t.place.getD i 0 else if i=p then pos t.mask h E else t.place.getD (i - 1) 0:=fun i=>by
  show (insertAt t.place (below t.place (pos t.mask h E)) (pos t.mask h E)).getD i 0=_;rw [hp,aA,G8,iH _ _ _ _ hpl,aA,aA]
 have psz:(t.put (pos t.mask h E)).1.place.size=t.place.size+1:=by
  show (insertAt t.place (below t.place (pos t.mask h E)) (pos t.mask h E)).size=_;rw [<-Ek,G8,hp,Eh,Ep,EL,GA,Ek];omega
 have ne:∀ i,i<t.place.size->t.place.getD i 0≠pos t.mask h E:=fun i hi e=>F.free ⟨i,hi,e⟩;have b3':∀ i,p<=i->i<t.place.size->pos t.mask h E<t.place.getD i 0:=fun i a b=>by
  have:=b3 i a b;have:=ne i b;omega
 have hm:(t.put (pos t.mask h E)).1.mask=t.mask:=rfl;have tk:∀ j,Tk t j->Tk (t.put (pos t.mask h E)).1 j:=fun j ⟨i,hi,e⟩=>by
  by_cases q:i<p
  ·exact⟨i,by omega,by rw [pl,Jy q];exact e⟩
  ·exact⟨i+1,by omega,by rw [pl,Jx (by omega),Jx (by omega),Nat.add_sub_cancel];exact e⟩
 have hl:∀ i,(hs.take p++h :: hs.drop p).getD i 0=if i<p then hs.getD i 0 else if i=p then h else hs.getD (i - 1) 0:=fun i=>iH hs p h 0 (by omega) i
 have ln:(hs.take p++h :: hs.drop p).length=hs.length+1:=by
  rw [Eh,Ep,EL,GA];omega
 refine⟨by omega,⟨o.mask,?_,fun i j hij hj=>?_,fun i hi=>?_,by rw [psz,ln,sz],by rw [ln,hm];exact more,fun i hi=>?_⟩⟩
 ·show (if has t.dummies (pos t.mask h E)=true then _ else t.dummies)=#[];rw [o.dum];rfl
 ·rw [pl,pl];rw [psz] at hj;by_cases c1:i<p
  ·rw [Jy c1];by_cases c2:j<p
   ·rw [Jy c2];exact o.rise i j hij (by omega)
   ·rw [Jx c2];by_cases c3:j=p
    ·rw [Jy c3];exact b2 i c1
    ·rw [Jx c3];exact o.rise i (j - 1) (by omega) (by omega)
  ·rw [Jx c1,Jx (show ¬ j<p by omega)];by_cases c3:i=p
   ·rw [Jy c3,Jx (by omega)];exact b3' (j - 1) (by omega) (by omega)
   ·rw [Jx c3,Jx (by omega)];exact o.rise (i - 1) (j - 1) (by omega) (by omega)
 ·rw [pl,hm];rw [psz] at hi;by_cases c1:i<p
  ·rw [Jy c1];exact o.le i (by omega)
  ·rw [Jx c1];by_cases c3:i=p
   ·rw [Jy c3];exact fM _ _ _
   ·rw [Jx c3];exact o.le (i - 1) (by omega)
 ·rw [hl,pl,hm];rw [ln] at hi;by_cases c1:i<p
  ·rw [Jy c1,Jy c1];obtain⟨k,e,a⟩:=o.reach i (by omega);exact⟨k,e,fun k' hk=>tk _ (a k' hk)⟩
  ·rw [Jx c1,Jx c1];by_cases c3:i=p
   ·rw [Jy c3,Jy c3];exact⟨E,rfl,fun k' hk=>tk _ (F.ahead k' hk)⟩
   ·rw [Jx c3,Jx c3];obtain⟨k,e,a⟩:=o.reach (i - 1) (by omega);exact⟨k,e,fun k' hk=>tk _ (a k' hk)⟩
end
def Occ (ow:Array (Option Nat)) (j:Nat):Prop:=ow.getD j (some 0)≠none
theorem mL {mask:Nat} {ow:Array (Option Nat)} {h:Int}:∀ f r k,At mask h k r 0->(∃ r',r<=r'/\r'<r+f/\¬ Occ ow (lp mask h r').1) ->
  ∃ E,k<=E/\(∀ q,k<=q->q<E->Occ ow (pos mask h q))/\¬ Occ ow (pos mask h E)/\layClean.free mask ow f (lp mask h r).1 (lp mask h r).2=some (pos mask h E)
 | 0,r,k,a,⟨r',h1,h2,_⟩=>by omega
 | f+1,r,k,a,⟨r',h1,h2,h3⟩=>by
  have re:=bg mask _ (iD mask h r);have at_:∀ d,d<=runEnd mask (lp mask h r).1 - (lp mask h r).1->pos mask h (k+d)=(lp mask h r).1+d:=fun d hd=>by
   have:=(fK a d hd).2;unfold pos;rw [this]
  unfold layClean.free;cases hf:(Ef (runEnd mask (lp mask h r).1+1 - (lp mask h r).1)).find? fun k=>(ow.getD ((lp mask h r).1+k) (some 0)).isNone with
  | some d =>
   have hm:=List.mem_of_find?_eq_some hf;have hd:=Eu.mp hm;have hs:=List.find?_some hf;have bef:∀ d',d'<d->¬ (ow.getD ((lp mask h r).1+d') (some 0)).isNone=true:=fun d' hd'=>by
    obtain⟨_,as,bs,e,al⟩:=List.find?_eq_some_iff_append.mp hf;have:as=Ef d:=by
     have l1:(Ef (runEnd mask (lp mask h r).1+1 - (lp mask h r).1))[as.length]?=some d:=by
      rw [e,Ee (D8 _),F7];rfl
     have lt:as.length<runEnd mask (lp mask h r).1+1 - (lp mask h r).1:=by
      have:=congrArg List.length e;simp at this;omega
     rw [E9 lt] at l1;have el:as.length=d:=Option.some.inj l1;have:as=(Ef (runEnd mask (lp mask h r).1+1 - (lp mask h r).1)).take as.length:=by
      rw [e,List.take_append_of_le_length (D8 _),E6]
     rw [this,List.take_range,Nat.min_eq_left (by omega),el]
    have al2:=al d' (by rw [this];exact Eu.mpr hd');intro z;have z2:(!(ow.getD ((lp mask h r).1+d') (some 0)).isNone)=true:=al2;rw [z] at z2;cases z2
   refine⟨k+d,by omega,fun q hq1 hq2=>?_,?_,?_⟩
   ·have:=bef (q - k) (by omega);rw [show q=k+(q - k) by omega,at_ (q - k) (by omega)];intro z;rw [z] at this;exact this rfl
   ·rw [at_ d (by omega)];intro z;have hs':(ow.getD ((lp mask h r).1+d) (some 0)).isNone=true:=hs;exact z (G0.mp hs')
   ·rw [at_ d (by omega)]
  | none =>
   have all:∀ d,d<runEnd mask (lp mask h r).1+1 - (lp mask h r).1->Occ ow ((lp mask h r).1+d):=fun d hd z=>by
    have:=List.find?_eq_none.mp hf d (Eu.mpr hd);simp [z] at this
   have ne:r'≠r:=fun z=>by
    rw [z] at h3;exact h3 (by have:=all 0 (by omega);rwa [Nat.add_zero] at this)
   have a2:=fJ (fK a _ (D8 _)) rfl;obtain⟨E,e1,e2,e3,e4⟩:=mL f (r+1) _ a2 ⟨r',by omega,by omega,h3⟩;refine⟨E,by omega,fun q hq1 hq2=>?_,e3,e4⟩;by_cases hq:q<k+(runEnd mask (lp mask h r).1 - (lp mask h r).1)+1
   ·rw [show q=k+(q - k) by omega,at_ (q - k) (by omega)];exact all _ (by omega)
   ·exact e2 q (by omega) hq2
end L2.ST
end
section
namespace L2.ST
open PySem PySem.SetTable
structure OwnT (mask:Nat) (ow:Array (Option Nat)) (hs:List Int) (sl:List Nat):Prop where
 size:ow.size=mask+1
 len:sl.length=hs.length
 nd:sl.Nodup
 le:∀ j∈sl,j<=mask
 own:∀ j,j<=mask->∀ i,ow.getD j none=some i↔sl[i]?=some j
 reach:∀ i,i<hs.length->∃ q,pos mask (hs.getD i 0) q=sl.getD i 0/\∀ q',q'<q->pos mask (hs.getD i 0) q'∈sl
theorem OwnT.occ {mask:Nat} {ow:Array (Option Nat)} {hs:List Int} {sl:List Nat} (o:OwnT mask ow hs sl) {j:Nat} (hj:j<=mask):Occ ow j↔j∈sl:=by
 have hs':j<ow.size:=by rw [o.size];omega
 have e:ow.getD j (some 0)=ow.getD j none:=by simp [GI,hs']
 unfold Occ;rw [e];constructor
 ·intro h;obtain⟨i,hi⟩:=Option.ne_none_iff_exists'.mp h;exact D9 ((o.own j hj i).mp hi)
 ·intro h z;obtain⟨i,hi,e2⟩:=FY h;have:=(o.own j hj i).mpr (by rw [DQ hi,e2]);rw [z] at this;cases this
def mM (mask:Nat):Option (Array (Option Nat)×Nat)->Int->Option (Array (Option Nat)×Nat):=fun acc h=>do
  let (owner,k) <- acc
  let j <- layClean.free mask owner (turns mask) (bits h % (mask+1)) (bits h)
  pure (owner.setIfInBounds j (some k),k+1)
theorem sH {mask:Nat} (g:j7 (mask+1)=true) {ow:Array (Option Nat)} {hs:List Int} {sl:List Nat} (o:OwnT mask ow hs sl) (hm:hs.length<=mask) (h:Int) :
  ∃ ow' sl',mM mask (some (ow,hs.length)) h=some (ow',hs.length+1)/\OwnT mask ow' (hs++[h]) sl':=by
 obtain⟨j,hj,nj⟩:∃ j,j<=mask/\j∉sl:=by
  refine E3 fun no=>?_;have sub:Ef (mask+1) ⊆ sl:=fun j hj=>E3 fun z=>no ⟨j,Hz.mp (Eu.mp hj),z⟩;have:=List.Nodup.length_le_of_subset Ij sub;rw [EF,o.len] at this;omega
 obtain⟨r,hr,e⟩:=mJ g (i:=(lp mask h 13).1) (j:=j) (Hk (iD mask h 13)) (Hk hj);obtain⟨E,_,e2,e3,e4⟩:=mL (ow:=ow) (turns mask) 0 0 (fI mask h) ⟨13+r,EI _,by unfold turns;omega,by rw [kW,e,o.occ hj];exact nj⟩;have e3':pos mask h E∉sl:=fun z=>e3 ((o.occ (fM mask h E)).mpr z);have e2':∀ q,q<E->pos mask h q∈sl:=fun q hq=>(o.occ (fM mask h q)).mp (e2 q (EI _) hq);have e4':layClean.free mask ow (turns mask) (bits h % (mask+1)) (bits h)=some (pos mask h E):=e4;refine⟨ow.setIfInBounds (pos mask h E) (some hs.length),sl++[pos mask h E],?_,?_⟩
 ·show (layClean.free mask ow (turns mask) (bits h % (mask+1)) (bits h) >>= fun j=>pure (ow.setIfInBounds j (some hs.length),hs.length+1))=_;rw [e4'];rfl
 ·have ls:∀ i,(sl++[pos mask h E])[i]?=if i<sl.length then sl[i]? else if i=sl.length then some (pos mask h E) else none:=fun i=>by
   by_cases c:i<sl.length
   ·rw [Jy c,Ec c]
   ·rw [Jx c,Ee (by omega)];by_cases c2:i=sl.length
    ·rw [Jy c2,c2,F7];rfl
    ·rw [Jx c2];exact Ex (by simp;omega)
  refine⟨by rw [Array.size_setIfInBounds];exact o.size,by simp [o.len],?_,fun j hj=>?_,fun j hj i=>?_,fun i hi=>?_⟩
  ·rw [FE];refine⟨o.nd,by simp,fun a ha b hb=>?_⟩;rw [Ej.mp hb];intro z;rw [z] at ha;exact e3' ha
  ·rcases En.mp hj with hj | hj
   ·exact o.le j hj
   ·rw [Ej.mp hj];exact fM _ _ _
  ·have hsz:j<ow.size:=by rw [o.size];omega
   rw [ls];by_cases c:j=pos mask h E
   ·subst c;have:(ow.setIfInBounds (pos mask h E) (some hs.length)).getD (pos mask h E) none=some hs.length:=by simp [GI,hsz]
    rw [this];constructor
    ·intro z;have z':hs.length=i:=Option.some.inj z;rw [Jx (by rw [o.len];omega),Jy (by rw [o.len];omega)]
    ·intro z;by_cases c2:i<sl.length
     ·rw [Jy c2] at z;exact absurd (D9 z) e3'
     ·rw [Jx c2] at z;by_cases c3:i=sl.length
      ·rw [c3,o.len]
      ·rw [Jx c3] at z;cases z
   ·have:(ow.setIfInBounds (pos mask h E) (some hs.length)).getD j none=ow.getD j none:=by
     rw [F8,F8,Array.getElem?_setIfInBounds_ne (Gv c)]
    rw [this,o.own j hj i];by_cases c2:i<sl.length
    ·rw [Jy c2]
    ·rw [Jx c2];constructor
     ·intro z;rw [Ex (by omega)] at z;cases z
     ·intro z;by_cases c3:i=sl.length
      ·rw [Jy c3] at z;exact absurd (Option.some.inj z).symm c
      ·rw [Jx c3] at z;cases z
  ·have gl:∀ i,(hs++[h]).getD i 0=if i<hs.length then hs.getD i 0 else if i=hs.length then h else 0:=fun i=>by
    by_cases c:i<hs.length
    ·rw [Jy c,DZ,Ec c,DZ]
    ·rw [Jx c,DZ,Ee (by omega)];by_cases c2:i=hs.length
     ·rw [Jy c2,c2,F7];rfl
     ·rw [Jx c2,Ex (by simp;omega)];rfl
   rw [Eh,EX] at hi;have gs:(sl++[pos mask h E]).getD i 0=((sl++[pos mask h E])[i]?).getD 0:=DZ ..;rw [gl,gs,ls];by_cases c:i<hs.length
   ·rw [Jy c,Jy (by rw [o.len];exact c)];obtain⟨q,a,b⟩:=o.reach i c;exact⟨q,by rw [<-DZ];exact a,fun q' hq=>Ew _ (b q' hq)⟩
   ·rw [Jx c,Jy (by omega),Jx (by rw [o.len];omega),Jy (by rw [o.len];omega)];exact⟨E,rfl,fun q' hq=>Ew _ (e2' q' hq)⟩
theorem mO {mask:Nat} (g:j7 (mask+1)=true):∀ (l:List Int) (ow:Array (Option Nat)) (hs:List Int) (sl:List Nat),OwnT mask ow hs sl->hs.length+l.length<=mask+1 ->
  ∃ ow' sl',l.foldl (mM mask) (some (ow,hs.length))=some (ow',hs.length+l.length)/\OwnT mask ow' (hs++l) sl'
 | [],ow,hs,sl,o,_=>⟨ow,sl,rfl,by rw [EO];exact o⟩
 | h :: l,ow,hs,sl,o,hm=>by
  rw [Ep] at hm;obtain⟨ow1,sl1,e1,o1⟩:=sH g o (by omega) h;obtain⟨ow2,sl2,e2,o2⟩:=mO g l ow1 (hs++[h]) sl1 o1 (by rw [Eh,EX];omega);refine⟨ow2,sl2,?_,by rw [Fs] at o2;exact o2⟩;rw [List.foldl_cons,e1];rw [Eh,EX] at e2;rw [e2,Ep,Ie,Nat.add_comm 1]
theorem wg (mask:Nat):OwnT mask (HB (mask+1) none) [] [] where
 size:=by simp
 len:=rfl
 nd:=.nil
 le:=fun _ h=>nomatch h
 own:=fun j hj i=>by
  have:(HB (mask+1) (none:Option Nat)).getD j none=none:=by simp [GI]
  rw [this];constructor <;> intro z <;> cases z
 reach:=fun i hi=>absurd hi (FV _)
theorem sI {mask:Nat} (g:j7 (mask+1)=true) (hs:Array Int) (hm:hs.size<=mask+1):∃ ow sl,layClean mask hs=some ow/\OwnT mask ow hs.toList sl:=by
 obtain⟨ow,sl,e,o⟩:=mO g hs.toList _ [] [] (wg mask) (by simpa using hm);refine⟨ow,sl,?_,by simpa using o⟩;unfold layClean;rw [<-Array.foldl_toList];have:hs.toList.foldl (mM mask) (some (HB (mask+1) none,0))=some (ow,0+hs.toList.length):=e;show Option.map _ (hs.toList.foldl (mM mask) (some (HB (mask+1) none,0)))=_;rw [this];rfl
theorem laid_ok {mask:Nat} (mk:mask=7 \/ mask=31 \/ mask=127 \/ mask=511) (hs:Array Int) (hm:hs.size<=mask) (finger moves:Nat) (led plain:Bool) :
  ∃ t ord,laid mask finger moves led plain hs=some (t,ord)/\t.mask=mask/\t.plain=plain/\t.led=led/\ord.toList.Perm (Ef hs.size)/\TB t (ord.toList.map fun i=>hs.toList.getD i 0):=by
 have g:j7 (mask+1)=true:=by
  rcases mk with rfl | rfl | rfl | rfl
  ·exact mI
  ·exact iF
  ·exact eL
  ·exact eM
 obtain⟨ow,sl,e,o⟩:=sI g hs (by omega)
 let live:=(Ef (mask+1)).filterMap fun j=>(ow.getD j none).map (j,·)
 have mem:∀ p:Nat×Nat,p∈live↔p.1<=mask/\sl[p.2]?=some p.1:=fun⟨j,i⟩=>by
  show (j,i)∈List.filterMap _ _↔_;rw [HK];constructor
  ·rintro⟨j',hj,e⟩;have hj':=Hz.mp (Eu.mp hj);cases e2:ow.getD j' none with
   | none=>rw [e2] at e;cases e
   | some i' =>
    rw [e2] at e;cases e;exact⟨hj',(o.own _ hj' _).mp e2⟩
  ·rintro⟨h1,h2⟩;refine⟨j,Eu.mpr (by omega),?_⟩;rw [(o.own j h1 i).mpr h2];rfl
 have up:(live.map (·.1)).Pairwise (·<·):=by
  rw [Fq];show (List.filterMap _ _).Pairwise _;rw [List.pairwise_filterMap];refine Ir.imp fun {a b} hab p hp q hq=>?_;cases e1:ow.getD a none with
  | none=>rw [e1] at hp;cases hp
  | some i =>
   cases e2:ow.getD b none with
   | none=>rw [e2] at hq;cases hq
   | some i2 =>
    rw [e1] at hp;rw [e2] at hq;cases hp;cases hq;exact hab
 have nd2:(live.map (·.2)).Nodup:=by
  show List.Pairwise _ _;rw [Fq];have u2:=Fq.mp up;refine u2.imp_of_mem fun {p q} hp hq hlt hz=>?_;have a1:=((mem p).mp hp).2;have a2:=((mem q).mp hq).2;rw [hz,a2] at a1;have:=Option.some.inj a1;omega
 have pm:(live.map (·.2)).Perm (Ef hs.size):=by
  refine (HN nd2 Ij).mpr fun i=>?_;have ls:sl.length=hs.size:=by rw [o.len,Ek]
  constructor
  ·intro hi;obtain⟨p,hp,rfl⟩:=Ei.mp hi;have:=(DU.mp ((mem p).mp hp).2).1;exact Eu.mpr (by omega)
  ·intro hi;have hi':=Eu.mp hi;have hl:i<sl.length:=by omega
   exact Ei.mpr ⟨(sl[i],i),(mem _).mpr ⟨o.le _ (Et hl),DQ hl⟩,rfl⟩
 refine⟨_,_,by unfold laid;rw [e];rfl,rfl,rfl,rfl,pm,?_⟩;have ln:live.length=hs.size:=by have:=pm.length_eq;rwa [DS,EF] at this
 have tk:∀ j,j∈sl->∃ i,i<live.length/\(live.map (·.1)).getD i 0=j:=fun j hj=>by
  obtain⟨i,hi,e2⟩:=FY hj;have:(j,i)∈live:=(mem _).mpr ⟨o.le j hj,by rw [DQ hi,e2]⟩;obtain⟨q,hq,e3⟩:=FY this;exact⟨q,hq,by rw [DZ,D7,DQ hq,e3];rfl⟩
 have gd:∀ i,(live.map (·.1)).toArray.getD i 0=(live.map (·.1)).getD i 0:=fun i=>by rw [aA]
 refine⟨mk,rfl,fun i j hij hj=>?_,fun i hi=>?_,?_,?_,fun i hi=>?_⟩
 ·show (live.map (·.1)).toArray.getD i 0<(live.map (·.1)).toArray.getD j 0;have hj':j<(live.map (·.1)).length:=by
   have h2:j<(live.map (·.1)).toArray.size:=hj
   rwa [Em] at h2
  rw [gd,gd,DZ,DZ,DQ hj',DQ (show i<(live.map (·.1)).length by omega)];exact GZ.mp up i j (by omega) hj' hij
 ·show (live.map (·.1)).toArray.getD i 0<=mask;have hi':i<(live.map (·.1)).length:=by
   have h2:i<(live.map (·.1)).toArray.size:=hi
   rwa [Em] at h2
  rw [gd,DZ,DQ hi'];obtain⟨p,hp,e2⟩:=Ei.mp (Et hi');show (live.map (·.1))[i]<=mask;rw [<-e2];exact ((mem p).mp hp).1
 ·show (live.map (·.1)).toArray.size=_;simp
 ·show (Jb _ (live.map (·.2))).length<=mask;rw [DS,DS,ln];exact hm
 ·have hi':i<live.length:=by
   have hi2:i<(Jb (fun i=>hs.toList.getD i 0) (live.map (·.2))).length:=hi
   rwa [DS,DS] at hi2
  have pl:(live.map (·.1)).toArray.getD i 0=live[i].1:=by
   rw [gd,DZ,D7,DQ hi'];rfl
  have hh:(Jb (fun i=>hs.toList.getD i 0) (live.map (·.2))).getD i 0=hs.toList.getD live[i].2 0:=by
   rw [DZ,D7,D7,DQ hi'];rfl
  have m2:=(mem live[i]).mp (Et hi');have l2:=(DU.mp m2.2).1;obtain⟨q,a,b⟩:=o.reach live[i].2 (by rw [<-o.len];exact l2);refine⟨q,?_,fun q' hq=>?_⟩
  ·show pos mask ((Jb (fun i=>hs.toList.getD i 0) (live.map (·.2))).getD i 0) q=(live.map (·.1)).toArray.getD i 0;rw [hh,pl,a,DZ,m2.2];rfl
  ·show Tk _ (pos mask ((Jb (fun i=>hs.toList.getD i 0) (live.map (·.2))).getD i 0) q');rw [hh];obtain⟨z,hz,ez⟩:=tk _ (b q' hq);exact⟨z,by show z<(live.map (·.1)).toArray.size;simpa using hz,by show (live.map (·.1)).toArray.getD z 0=_;rw [gd];exact ez⟩
end L2.ST
end
section
namespace L2
open PySem PySem.Spec PyProof.Rows
mutual
noncomputable def zx (w:World):PyData->Int
 | .int i=>hashInt i
 | .str x=>hashStr w x
 | .tuple xs=>reduceHash (Gk (vf w xs))
 | _=>0
noncomputable def vf (w:World):List PyData->List Int
 | []=>[]
 | x :: xs=>zx w x :: vf w xs
end
mutual
noncomputable def yh:PyData->Nat
 | .int _=>1
 | .str _=>1
 | .tuple xs=>cT xs+1
 | _=>0
noncomputable def cT:List PyData->Nat
 | []=>0
 | x :: xs=>yh x+cT xs
end
mutual
theorem cU {P:Program} {w:World}:∀ (d:PyData) (A:Around) (s:Shared) (v:Value) (as:List DY) (E:Value->Shared->Prop) (Q:Int->Shared->Prop),Reads s.heap v d as->zJ d=true->A.units+4 * d.depth<E1 ->
  Q (zx w d) { s with toks:=s.toks+yh d }->Eo (model P w) A (pyHash v) Q E s
 | .int i,A,s,_,_,E,Q,r,_,_,q=>by
  cases r;rw [zx,yh] at q;exact wpAny_pyHash_int q
 | .str x,A,s,_,_,E,Q,r,_,_,q=>by
  cases r;rw [zx,yh] at q;exact wpAny_pyHash_str q
 | .tuple xs,A,s,_,_,E,Q,r,p,hu,q=>by
  cases r with
  | @tuple a o vs n _ as h1 h2 h3 h4 =>
   rw [zJ] at p;rw [zx,yh] at q;have hT:s.TypeIs (.ref a) "tuple":=⟨o,h1,h2⟩;have e1:(PyData.tuple xs).depth=Eg xs+1:=rfl;rw [e1] at hu;show Eo _ A (pyHashByItsType (.ref a)) Q E s;unfold pyHashByItsType;apply DR;apply wpAny_cRoomFor_or (.inr (by omega));apply DR;apply GP hT FR.lookup;show Eo _ _ (if (some (Value.builtin "tuple.__hash__") == some Value.none)=true then _ else _) Q E s;rw [Jx (by rw [beq_builtin_none];exact DX)];apply DR;apply GP hT FR.lookup;show Eo _ _ (callSpecialIfBoundUnlessNone? (.ref a) "__hash__" _ >>= _) Q E s;apply DR;refine wpAny_callSpecialIfBoundUnlessNone?_slot hT FR (wpAny_call_entry FR hT PySem.F.entry_tuple_hash ?_ (PySem.F.args_tuple_hash_1 _));show Eo _ _ (Builtin.Tuple.tupleItemsOf (.ref a) >>= _) _ _ s;apply DR;apply wpAny_tupleItemsOf h1 h3;apply DR;rw [<-Hd];have hu1:A.in1.units=A.units+1:=rfl;refine cV xs A.in1 s vs.toList _ #[] _ _ h4 p (by omega) ?_;simp only [EO,List.nil_append];show Eo _ _ (retInt (Gk (#[]++(vf w xs).toArray).toList)) _ _ _;rw [show (#[]++(vf w xs).toArray:Array Int).toList=vf w xs by simp];refine wpAny_ret_mkInt ?_;show Eo _ _ (pyHashByItsType.reduced _) Q E _;unfold reduceHash at q;unfold pyHashByItsType.reduced;by_cases hr:(decide (-(2:Int) ^ 63<=Gk (vf w xs)) && decide (Gk (vf w xs)<2 ^ 63))=true
   ·rw [Jy hr] at q ⊢;exact D3 (by simpa [Ie] using q)
   ·rw [Jx hr] at q ⊢;exact DR (IA (D3 (by simpa [Ie] using q)))
 | .none,_,_,_,_,_,_,_,h,_,_=>by cases h
 | .bool _,_,_,_,_,_,_,_,h,_,_=>by cases h
 | .list _,_,_,_,_,_,_,_,h,_,_=>by cases h
 | .dict _,_,_,_,_,_,_,_,h,_,_=>by cases h
theorem cV {P:Program} {w:World}:∀ (xs:List PyData) (A:Around) (s:Shared) (vs:List Value) (as:List DY) (acc:Array Int) (E:Value->Shared->Prop) (Q:Array Int->Shared->Prop),ReadsAll s.heap vs xs as->zR xs=true->A.units+4 * Eg xs<E1 ->
  Q (acc++(vf w xs).toArray) { s with toks:=s.toks+cT xs }->Eo (model P w) A (forIn vs acc fun x r=>do
   let h <- pyHash x
   pure (ForInStep.yield (r.push h))) Q E s
 | [],A,s,_,_,acc,E,Q,r,_,_,q=>by
  cases r;rw [Gg];rw [vf,cT] at q;exact D3 (by simpa using q)
 | x :: xs,A,s,_,_,acc,E,Q,r,p,hu,q=>by
  cases r with
  | cons r1 r2 =>
   rw [zR,Eb] at p;rw [vf,cT] at q;have e1:Eg (x :: xs)=max x.depth (Eg xs):=rfl;rw [e1] at hu;rw [FT];apply DR;apply DR;refine cU x A s _ _ _ _ r1 p.1 (by omega) (D3 ?_);refine cV xs A { s with toks:=s.toks+yh x } _ _ _ _ _ r2 p.2 (by omega) ?_;have e2:acc.push (zx w x)++(vf w xs).toArray=acc++(zx w x :: vf w xs).toArray:=by simp
   rw [e2];rw [<-Ie] at q;exact q
end
mutual
theorem qj {P:Program} {w:World}:∀ (d:PyData) (n:Nat) (A:Around) (s:Shared) (v:Value) (as:List DY) (E:Value->Shared->Prop) (Q:Bool->Shared->Prop),Reads s.heap v d as->zJ d=true->d.depth<=n->Q true s->Eo (model P w) A (eqIsQuiet n v) Q E s
 | .int i,n,A,s,_,_,E,Q,r,_,_,q=>by
  cases r;rw [eqIsQuiet_byValue n rfl];exact D3 q
 | .str x,n,A,s,_,_,E,Q,r,_,_,q=>by
  cases r;rw [eqIsQuiet_byValue n rfl];exact D3 q
 | .tuple xs,n,A,s,_,_,E,Q,r,p,hn,q=>by
  cases r with
  | @tuple a o vs n' _ as h1 h2 h3 h4 =>
   rw [zJ] at p;have e1:(PyData.tuple xs).depth=Eg xs+1:=rfl;rw [e1] at hn;obtain⟨m,rfl⟩:∃ m,n=m+1:=⟨n - 1,by omega⟩;have hT:s.TypeIs (.ref a) "tuple":=⟨o,h1,h2⟩;unfold eqIsQuiet;apply DR;apply GP hT PySem.F.slot_tuple_eq.lookup;show Eo _ _ (isInstance (.ref a) (.type "tuple") >>= _) _ _ s;apply DR;apply Io hT isSubtype_tuple_tuple;simp only [E7,EK,if_false];apply DR;apply wpAny_seqItems h1 h3;apply DR;show Eo _ _ (forIn vs _ _) _ _ s;rw [<-Hd];exact bG xs m A s _ _ _ _ h4 p (by omega) (D3 q)
 | .none,_,_,_,_,_,_,_,_,h,_,_=>by cases h
 | .bool _,_,_,_,_,_,_,_,_,h,_,_=>by cases h
 | .list _,_,_,_,_,_,_,_,_,h,_,_=>by cases h
 | .dict _,_,_,_,_,_,_,_,_,h,_,_=>by cases h
theorem bG {P:Program} {w:World}:∀ (xs:List PyData) (m:Nat) (A:Around) (s:Shared) (vs:List Value) (as:List DY) (E:Value->Shared->Prop) (Q:Option Bool×Unit->Shared->Prop),ReadsAll s.heap vs xs as->zR xs=true->Eg xs<=m->Q (none,()) s ->
  Eo (model P w) A (forIn vs ((none,()):Option Bool×Unit) fun y _=>do
   let b <- eqIsQuiet m y
   if (!b)=true then pure (ForInStep.done (some false,())) else pure (ForInStep.yield (none,()))) Q E s
 | [],m,A,s,_,_,E,Q,r,_,_,q=>by
  cases r;rw [Gg];exact D3 q
 | x :: xs,m,A,s,_,_,E,Q,r,p,hn,q=>by
  cases r with
  | cons r1 r2 =>
   rw [zR,Eb] at p;have e1:Eg (x :: xs)=max x.depth (Eg xs):=rfl;rw [e1] at hn;rw [FT];apply DR;apply DR;refine qj x m A s _ _ _ _ r1 p.1 (by omega) ?_;simp only [E7,EK,if_false];exact D3 (bG xs m A s _ _ _ _ r2 p.2 (by omega) q)
end
mutual
theorem bj {P:Program} {w:World}:∀ (d:PyData) (n:Nat) (A:Around) (s:Shared) (v:Value) (as:List DY) (E:Value->Shared->Prop) (Q:Bool->Shared->Prop),Reads s.heap v d as->zJ d=true->d.depth<=n->Q false s->Eo (model P w) A (ofAClassStatement n v) Q E s
 | .int i,n,A,s,_,_,E,Q,r,_,_,q=>by
  cases r;unfold ofAClassStatement;exact D3 q
 | .str x,n,A,s,_,_,E,Q,r,_,_,q=>by
  cases r;unfold ofAClassStatement;exact D3 q
 | .tuple xs,n,A,s,_,_,E,Q,r,p,hn,q=>by
  cases r with
  | @tuple a o vs n' _ as h1 h2 h3 h4 =>
   rw [zJ] at p;have e1:(PyData.tuple xs).depth=Eg xs+1:=rfl;rw [e1] at hn;obtain⟨m,rfl⟩:∃ m,n=m+1:=⟨n - 1,by omega⟩;have hT:s.TypeIs (.ref a) "tuple":=⟨o,h1,h2⟩;unfold ofAClassStatement;apply DR;apply wpAny_typeOf hT;dsimp only;rw [Jy (show ("tuple" == "tuple")=true from rfl)];apply DR;apply D3;simp only [E7,EK,if_false];apply DR;apply wpAny_seqItems h1 h3;dsimp only;apply DR;rw [<-Hd];exact eN xs m A s _ _ _ _ h4 p (by omega) (D3 q)
 | .none,_,_,_,_,_,_,_,_,h,_,_=>by cases h
 | .bool _,_,_,_,_,_,_,_,_,h,_,_=>by cases h
 | .list _,_,_,_,_,_,_,_,_,h,_,_=>by cases h
 | .dict _,_,_,_,_,_,_,_,_,h,_,_=>by cases h
theorem eN {P:Program} {w:World}:∀ (xs:List PyData) (m:Nat) (A:Around) (s:Shared) (vs:List Value) (as:List DY) (E:Value->Shared->Prop) (Q:Option Bool×Unit->Shared->Prop),ReadsAll s.heap vs xs as->zR xs=true->Eg xs<=m->Q (none,()) s ->
  Eo (model P w) A (forIn vs ((none,()):Option Bool×Unit) fun y _=>do
   let b <- ofAClassStatement m y
   if b=true then pure (ForInStep.done (some true,())) else pure (ForInStep.yield (none,()))) Q E s
 | [],m,A,s,_,_,E,Q,r,_,_,q=>by
  cases r;rw [Gg];exact D3 q
 | x :: xs,m,A,s,_,_,E,Q,r,p,hn,q=>by
  cases r with
  | cons r1 r2 =>
   rw [zR,Eb] at p;have e1:Eg (x :: xs)=max x.depth (Eg xs):=rfl;rw [e1] at hn;rw [FT];apply DR;apply DR;refine bj x m A s _ _ _ _ r1 p.1 (by omega) ?_;simp only [EK,if_false];exact D3 (eN xs m A s _ _ _ _ r2 p.2 (by omega) q)
end
mutual
theorem bH {P:Program} {w:World}:∀ (d:PyData) (n:Nat) (A:Around) (s:Shared) (v:Value) (as:List DY) (E:Value->Shared->Prop) (Q:Bool->Shared->Prop),Reads s.heap v d as->zJ d=true->(∀ b,Q b s)->Eo (model P w) A (hashByValue n v) Q E s
 | .int i,n,A,s,_,_,E,Q,r,_,q=>by
  cases r;unfold hashByValue;exact D3 (q _)
 | .str x,n,A,s,_,_,E,Q,r,_,q=>by
  cases r;unfold hashByValue;exact D3 (q _)
 | .tuple xs,n,A,s,_,_,E,Q,r,p,q=>by
  cases r with
  | @tuple a o vs n' _ as h1 h2 h3 h4 =>
   rw [zJ] at p;have hT:s.TypeIs (.ref a) "tuple":=⟨o,h1,h2⟩;cases n with
   | zero =>
    unfold hashByValue;exact D3 (q _)
   | succ m =>
    unfold hashByValue;apply DR;apply GP hT FR.lookup;show Eo _ _ (seqItems? (.ref a) >>= _) _ _ s;apply DR;apply wpAny_seqItems h1 h3;apply DR;show Eo _ _ (forIn vs _ _) _ _ s;rw [<-Hd];exact bI xs m A s _ _ _ _ h4 p (D3 (q _)) fun b=>D3 (q b)
 | .none,_,_,_,_,_,_,_,_,h,_=>by cases h
 | .bool _,_,_,_,_,_,_,_,_,h,_=>by cases h
 | .list _,_,_,_,_,_,_,_,_,h,_=>by cases h
 | .dict _,_,_,_,_,_,_,_,_,h,_=>by cases h
theorem bI {P:Program} {w:World}:∀ (xs:List PyData) (m:Nat) (A:Around) (s:Shared) (vs:List Value) (as:List DY) (E:Value->Shared->Prop) (Q:Option Bool×Unit->Shared->Prop),ReadsAll s.heap vs xs as->zR xs=true->Q (none,()) s->(∀ b,Q (some b,()) s) ->
  Eo (model P w) A (forIn vs ((none,()):Option Bool×Unit) fun y _=>do
   let b <- hashByValue m y
   if (!b)=true then pure (ForInStep.done (some false,())) else pure (ForInStep.yield (none,()))) Q E s
 | [],m,A,s,_,_,E,Q,r,_,q,_=>by
  cases r;rw [Gg];exact D3 q
 | x :: xs,m,A,s,_,_,E,Q,r,p,q,q2=>by
  cases r with
  | cons r1 r2 =>
   rw [zR,Eb] at p;rw [FT];apply DR;apply DR;refine bH x m A s _ _ _ _ r1 p.1 fun b=>?_;cases b with
   | true =>
    simp only [E7,EK,if_false];exact D3 (bI xs m A s _ _ _ _ r2 p.2 q q2)
   | false =>
    simp only [HP,if_true];exact D3 (D3 (q2 false))
end
noncomputable instance decPy:DecidableEq PyData:=fun a b=>Fd _
structure KeyAt (h:Heap) (d:PyData) (a:DY):Prop where
 rd:∃ as,Reads h (.ref a) d as
 pl:zJ d=true
 dp:d.depth<=8
theorem KeyAt.keep {h h':Heap} {d:PyData} {a:DY} (x:KeyAt h d a) (k:∀ b o,h.get? b=some o->(∀ es ep,o.data≠.dict es ep)->(∀ es ep t,o.data≠.set es ep t)->h'.get? b=some o):KeyAt h' d a:=by
 obtain⟨⟨as,r⟩,p,q⟩:=x;refine⟨?_,p,q⟩;have go:(∀ (d:PyData) (v:Value) (as:List DY),Reads h v d as->zJ d=true->Reads h' v d as):=by
  intro d v as r;refine Reads.rec (motive_1:=fun v d as _=>zJ d=true->Reads h' v d as) (motive_2:=fun vs ds as _=>zR ds=true->ReadsAll h' vs ds as) ?_ ?_ ?_ ?_ ?_ ?_ ?_ ?_ ?_ r
  ·intro p;cases p
  ·intro b p;cases p
  ·intro i t p;exact .int i t
  ·intro x t p;exact .str x t
  ·intro a o vs n xs as h1 h2 h3 h4 ih p;cases p
  ·intro a o vs n xs as h1 h2 h3 h4 ih p;rw [zJ] at p;exact .tuple (k a o h1 (fun es ep z=>by rw [h3] at z;cases z) (fun es ep t z=>by rw [h3] at z;cases z)) h2 h3 (ih p)
  ·intros;rename_i p;cases p
  ·intro p;exact .nil
  ·intro v vs d ds as bs r rs ih1 ih2 p;rw [zR,Eb] at p;exact .cons (ih1 p.1) (ih2 p.2)
 exact⟨as,go d _ as r p⟩
noncomputable def vA (P:Program) (w:World):HeapKind P w PyData where
 is:=KeyAt
 hash:=zx w
 draws:=yh
 room:=fun A=>A.units+40<E1
 inj:=fun {h a x y} hx hy=>by
  obtain⟨⟨as,r⟩,p,_⟩:=hx;obtain⟨⟨bs,r'⟩,p',_⟩:=hy;exact SeqAt.Reads.unique _ _ _ _ _ (y7 x p) r r'
 keeps:=fun {h h' k a d o es ep} x ho hd sb=>x.keep fun b u hb n1 n2=>by
  have:b≠d:=fun z=>by
   rw [z,ho] at hb;cases hb;exact n1 es ep hd
  exact (sb.2 b this).trans hb
 pyHash:=fun {A E s k a Q} hu x q=>by
  obtain⟨⟨as,r⟩,p,hd⟩:=x;exact cU k A s _ as E Q r p (by omega) q
 eqBool:=fun {A E s x y a b Q} hu hx hy q=>by
  obtain⟨⟨as,r⟩,p,hd⟩:=hx;obtain⟨⟨bs,r'⟩,p',hd'⟩:=hy;refine SeqAt.eqAt_reads x y A s _ _ _ _ r r' (y7 x p) (y7 y p') (by omega) P w E Q ?_;have:EC x y=decide (x=y):=by
   by_cases e:x=y
   ·rw [decide_eq_true e];exact (b7 p p').mpr e
   ·rw [decide_eq_false e];cases z:EC x y with
    | false=>rfl
    | true=>exact absurd ((b7 p p').mp z) e
  rw [this];exact q
 quiet:=fun {A E s k a Q} x q=>by
  obtain⟨⟨as,r⟩,p,hd⟩:=x;exact qj k 8 A s _ as E Q r p hd q
end L2
end
section
namespace L2
open PySem PySem.Spec PyProof.Rows PySem.SetTable
section
variable {P:Program} {w:World} {A:Around} {E:Value->Shared->Prop} {s:Shared}
theorem wj {b:DY} {d:PyData} {Q:Bool->Shared->Prop} (kb:KeyAt s.heap d b):∀ l:List Value,(∀ y∈l,∃ d' b',y=.ref b'/\KeyAt s.heap d' b')->Q false s->Eo (model P w) A (searchCouldBeSeen (.ref b) l) Q E s:=by
 intro l hl q;unfold searchCouldBeSeen;apply DR;refine wpAny_forIn_list _ (fun rest r s'=>r=(none,())/\s'=s/\∀ y∈rest,y∈l) _ ?_ ?_ _ _ ⟨rfl,rfl,fun _ h=>h⟩
 ·rintro y rest r s' ⟨rfl,rfl,hm⟩;obtain⟨d',b',rfl,kb'⟩:=hl y (hm y D4);obtain⟨⟨as,rd⟩,pd,dd⟩:=id kb;obtain⟨⟨bs,rd'⟩,pd',dd'⟩:=id kb';have more:∀ z∈rest,z∈l:=fun z hz=>hm z (DW _ hz);dsimp only;split
  ·exact D3 ⟨rfl,rfl,more⟩
  ·apply DR;refine qj d 8 A _ _ as _ _ rd pd dd ?_;simp only [E7,EK,if_false];apply DR;refine qj d' 8 A _ _ bs _ _ rd' pd' dd' ?_;simp only [E7,EK,if_false];apply DR;refine bj d 8 A _ _ as _ _ rd pd dd ?_;simp only [EK,if_false];apply DR;refine bj d' 8 A _ _ bs _ _ rd' pd' dd' ?_;simp only [EK,if_false];exact D3 ⟨rfl,rfl,more⟩
 ·rintro r s' ⟨rfl,rfl,_⟩;exact D3 q
structure SetObj (w:World) (h:Heap) (a:DY) (xs:List (PyData×DY)) (o:Obj) (es:Array (Int×Value)) (ep:Nat) (t:SetTable):Prop where
 ob:h.get? a=some o
 ex:o.ExactSet
 da:o.data=.set es ep t
 el:es.toList=xs.map fun x=>(zx w x.1,Value.ref x.2)
 ok:ST.TOk t (xs.map fun x=>zx w x.1)
theorem SetObj.size {h:Heap} {a:DY} {xs:List (PyData×DY)} {o:Obj} {es:Array (Int×Value)} {ep:Nat} {t:SetTable} (x:SetObj w h a xs o es ep t):es.size=xs.length:=by
 rw [<-Ek,x.el,DS]
theorem SetObj.fits {h:Heap} {a:DY} {xs:List (PyData×DY)} {o:Obj} {es:Array (Int×Value)} {ep:Nat} {t:SetTable} (x:SetObj w h a xs o es ep t):t.fits es.size=true:=by
 unfold SetTable.fits IW;have h1:=x.ok.size;have h2:=x.ok.most;rw [DS] at h1 h2;rw [x.size,h1,x.ok.dum];simp;exact h2
theorem SetObj.at {h:Heap} {a:DY} {xs:List (PyData×DY)} {o:Obj} {es:Array (Int×Value)} {ep:Nat} {t:SetTable} (x:SetObj w h a xs o es ep t) {i:Nat} (hi:i<xs.length):es[i]?=some (zx w xs[i].1,Value.ref xs[i].2):=by
 rw [<-Ft,x.el,D7,DQ hi];rfl
theorem sJ {t:SetTable} {hs:List Int} (o:ST.TOk t hs):t.gaveWay=false:=by
 unfold SetTable.gaveWay;rcases o.mask with e | e | e | e <;> rw [e] <;> rfl
theorem sL {α:Type} {M:Model} {c:Bool} {m:Sem Bool} {u:Sem Unit} {r:Sem α} {Q:α->Shared->Prop} (hr:Eo M A r Q E s) (hm:∀ R:Bool->Shared->Prop,R false s->Eo M A m R E s) :
  Eo M A (if c=true then (do
   let b <- m
   if b=true then do
    u
    r
   else r) else r) Q E s:=by
 cases c with
 | false=>rw [Jx DX];exact hr
 | true =>
  rw [Jy rfl];apply DR;refine hm _ ?_;rw [Jx DX];exact hr
theorem iI {M:Model} {a:DY} {Q:Bool->Shared->Prop} (q:Q true s):Eo M A (isSame (.ref a) (.ref a)) Q E s:=by
 unfold isSame;simp only [beq_self_eq_true];exact D3 q
theorem bo {a b:DY} {d:PyData} {xs:List (PyData×DY)} {o:Obj} {es:Array (Int×Value)} {ep:Nat} {t:SetTable} {adding:Bool} {Q:SetFound->Shared->Prop} (S:SetObj w s.heap a xs o es ep t) (ks:∀ x∈xs,KeyAt s.heap x.1 x.2)
  (kb:KeyAt s.heap d b) (hu:A.units+40<E1) {F:Nat} (hF:ST.First t (zx w d) F) (yes:d∈xs.map (·.1)->∀ r:Option Nat,(adding=false->r.isSome=true)->Q (.there r) s) (no:d∉xs.map (·.1)->Q (.free (ST.pos t.mask (zx w d) F) false) s) :
  ∀ f k stand,k<=F->F<k+f->stand.getD (t.probeStart (zx w d))=ST.road t.mask (zx w d) k ->
   (∀ q i,q<k->i<xs.length->ST.pos t.mask (zx w d) q=t.place.getD i 0->(xs.getD i (.none,0)).1≠d) ->
   Eo (model P w) A (setSearchFrom a (.ref b) (zx w d) adding f stand) Q E s
 | 0,k,stand,h1,h2,_,_=>by omega
 | f+1,k,stand,h1,h2,hst,past=>by
  have sz:=S.ok.size;rw [DS] at sz;have key:∀ g:Nat->Int,(∀ i,g i=(es[i]?.map (·.1)).getD 0) ->
    (t.probe g (zx w d) (ST.road t.mask (zx w d) k)=some (.empty (ST.pos t.mask (zx w d) F) none)/\∀ q i,k<=q->q<F->i<t.place.size->ST.pos t.mask (zx w d) q=t.place.getD i 0->g i≠zx w d) \/
    ∃ q i,k<=q/\q<F/\i<t.place.size/\ST.pos t.mask (zx w d) q=t.place.getD i 0/\g i=zx w d/\t.probe g (zx w d) (ST.road t.mask (zx w d) k)=some (.candidate (ST.pos t.mask (zx w d) q) i (ST.road t.mask (zx w d) (q+1)))/\∀ q' i',k<=q'->q'<q->i'<t.place.size->ST.pos t.mask (zx w d) q'=t.place.getD i' 0->g i'≠zx w d :=
   fun g _=>ST.probe_go S.ok.dum S.ok.rise hF (10 * turns t.mask) k h1 (by have:=hF.lt;omega)
  have gat:∀ i (hi:i<xs.length),(es[i]?.map (·.1)).getD 0=zx w xs[i].1:=fun i hi=>by rw [S.at hi];rfl
  unfold setSearchFrom;apply DR;refine wpAny_setState_of S.ob S.da S.fits ?_;dsimp only;rw [sJ S.ok,Jx DX,hst];have reach:∀ i (hi:i<xs.length),xs[i].1=d->∃ q,q<F/\ST.pos t.mask (zx w d) q=t.place.getD i 0:=fun i hi ed=>by
   obtain⟨q,a1,a2⟩:=S.ok.reach i (by rw [DS];exact hi);have eh:(xs.map fun x=>zx w x.1).getD i 0=zx w d:=by
    rw [DZ,D7,DQ hi,<- ed];rfl
   rw [eh] at a1 a2;refine⟨q,?_,a1⟩;by_cases c:q<F
   ·exact c
   ·by_cases c2:q=F
    ·subst c2;exact absurd ⟨i,by omega,a1.symm⟩ hF.free
    ·exact absurd (a2 F (by omega)) hF.free
  have ggd:∀ i (hi:i<xs.length),xs.getD i (.none,0)=xs[i]:=fun i hi=>by rw [DZ,DQ hi];rfl
  rcases key (fun i=>(es[i]?.map (·.1)).getD 0) (fun i=>rfl) with⟨e,none_⟩ | ⟨q,i,q1,q2,q3,q4,q5,e,none_⟩
  ·have ee:∀ g:Nat->Int,(∀ i,g i=(es[i]?.map (·.1)).getD 0)->t.probe g (zx w d) (ST.road t.mask (zx w d) k)=some (.empty (ST.pos t.mask (zx w d) F) none):=fun g hg=>by
    rw [show g=fun i=>(es[i]?.map (·.1)).getD 0 from funext hg];exact e
   rw [ee]
   rotate_left
   ·exact fun i=>rfl
   dsimp only;refine D3 (no fun hd=>?_);obtain⟨x,hx,ex⟩:=Ei.mp hd;obtain⟨i,hi,ei⟩:=FY hx;have ed:xs[i].1=d:=by rw [ei];exact ex
   obtain⟨q,qF,qp⟩:=reach i hi ed;by_cases c:q<k
   ·exact past q i c hi qp (by rw [ggd i hi];exact ed)
   ·exact none_ q i (by omega) qF (by omega) qp (by rw [gat i hi,ed])
  ·have ee:∀ g:Nat->Int,(∀ i,g i=(es[i]?.map (·.1)).getD 0)->t.probe g (zx w d) (ST.road t.mask (zx w d) k)=some (.candidate (ST.pos t.mask (zx w d) q) i (ST.road t.mask (zx w d) (q+1))):=fun g hg=>by
    rw [show g=fun i=>(es[i]?.map (·.1)).getD 0 from funext hg];exact e
   have hi:i<xs.length:=by omega
   have mi:xs[i]∈xs:=Et hi;have ki:=ks _ mi;rw [ee]
   rotate_left
   ·exact fun i=>rfl
   dsimp only;refine sL ?_ fun R hR=>wj kb _ (fun y hy=>?_) hR
   rotate_left
   ·obtain⟨p,hp,rfl⟩:=Ei.mp hy;have hp2:p∈es.toList:=by
     have:=IM.mp hp;exact IM.mpr (Array.mem_filter.mp this).1
    rw [S.el] at hp2;obtain⟨x,hx,rfl⟩:=Ei.mp hp2;exact⟨x.1,x.2,rfl,ks x hx⟩
   rw [S.at hi];dsimp only;apply DR;apply EM;refine (vA P w).eqBool (A:=A) hu ki kb ?_;apply DR;refine wpAny_setState_of S.ob S.da S.fits ?_;dsimp only;have same:t.sameMemory t.moves t.mask=some true:=by
    unfold SetTable.sameMemory;rw [Jy (beq_self_eq_true _)]
   have live:t.slot (ST.pos t.mask (zx w d) q)=.live i:=by rw [q4];exact ST.slot_live S.ok.rise q3
   by_cases ed:xs[i].1=d
   ·have y2:=yes (Ei.mpr ⟨_,mi,ed⟩);rw [decide_eq_true ed];cases adding with
    | true=>exact D3 (y2 _ fun z=>nomatch z)
    | false =>
     rw [Gf,Jx DX,same];dsimp only;rw [Jy rfl,live];dsimp only;rw [S.at hi];dsimp only;apply DR;refine iI ?_;apply DR;apply D3;rw [Jy rfl];dsimp only;rw [Jy rfl];exact D3 (y2 _ fun _=>rfl)
   ·rw [decide_eq_false ed,HM,Jx DX,same];dsimp only;rw [Jy rfl,live];dsimp only;rw [S.at hi];dsimp only;apply DR;refine iI ?_;apply DR;apply D3;rw [Jy rfl];dsimp only;rw [Jx DX];refine bo S ks kb hu hF yes no f (q+1) _ (by omega) (by omega) rfl fun q' i' c1 c2 c3=>?_;rw [ggd i' c2];intro z;by_cases c4:q'<k
    ·exact past q' i' c4 c2 c3 (by rw [ggd i' c2];exact z)
    ·by_cases c5:q'=q
     ·subst c5;have ii:i'=i:=by
       have b1:=ST.below_at S.ok.rise (i:=i) (by omega);have b2:=ST.below_at S.ok.rise (i:=i') (by omega);rw [<-q4] at b1;rw [<-c3] at b2;omega
      subst ii;exact ed z
     ·exact none_ q' i' (by omega) (by omega) (by omega) c3 (by rw [gat i' c2,z])
end
end L2
end
section
namespace L2
open PySem PySem.Spec PyProof.Rows PySem.SetTable
section
variable {P:Program} {w:World} {A:Around} {E:Value->Shared->Prop} {s:Shared} {a b:DY} {d:PyData} {xs:List (PyData×DY)} {o:Obj} {es:Array (Int×Value)} {ep:Nat} {t:SetTable}
theorem SetObj.type (S:SetObj w s.heap a xs o es ep t):s.TypeIs (.ref a) "set":=⟨o,S.ob,S.ex.1⟩
theorem mP (b:DY) (es:Array (Int×Value)):byScan (.ref b) es=false:=rfl
theorem iJ {Q:Bool->Shared->Prop} (S:SetObj w s.heap a xs o es ep t) (ks:∀ x∈xs,KeyAt s.heap x.1 x.2) (kb:KeyAt s.heap d b) (hu:A.units+60<E1) (q:Q (decide (d∈xs.map (·.1))) { s with toks:=s.toks+yh d }) :
  Eo (model P w) A (contains (.ref a) (.ref b)) Q E s:=by
 obtain⟨F,hF⟩:=ST.first_of S.ok.toTB (zx w d);have hl:=hF.lt;have ht:turns t.mask<=526:=by
  unfold turns;rcases S.ok.mask with e | e | e | e <;> omega
 unfold contains
 try with_reducible refine EM ?_
 apply DR;apply GP S.type G1.lookup;show Eo _ _ (if (some (Value.builtin "set.__contains__") == some Value.none)=true then _ else _) _ E s;rw [Jx (by rw [beq_builtin_none];exact DX)];apply DR;refine wpAny_callSpecialUnlessNone?_slot (name:=Str.ofString "__contains__") S.type G1 (wpAny_call_entry G1 S.type entry_set_contains ?_ (PySem.F.args_set_contains_2 _ _));unfold Builtin.«frozenset.__contains__» HQ;simp only [List.isEmpty_nil,bind_assoc];unfold Ig Builtin.Frozenset.withSetAsKey setContains;apply DR;apply D3;dsimp only;apply DR;apply D3;dsimp only;apply DR;apply wpAny_tryCatch;apply EM;apply DR;have hu1:A.in1.units=A.units+1:=rfl;have hu2:A.in1.in1.units=A.units+1+1:=rfl;refine (vA P w).pyHash (by show _+40<E1;omega) kb ?_;apply DR;unfold setFind setFindIn;apply DR;refine wpAny_setState_of (s:={ s with toks:=s.toks+yh d }) S.ob S.da S.fits ?_;dsimp only;rw [mP,Jx DX];apply DR;unfold setSearch;have fin:∀ r:Option Nat,r.isSome=decide (d∈xs.map (·.1))->∀ R:Value->Shared->Prop,R (.bool (decide (d∈xs.map (·.1)))) { s with toks:=s.toks+yh d }->R (.bool r.isSome) { s with toks:=s.toks+yh d }:=fun r e R hR=>by rw [e];exact hR
 refine bo (s:={ s with toks:=s.toks+yh d }) (adding:=false) S ks kb (by omega) hF (fun hd r hr=>?_) (fun hd=>?_) 100000 0 none (EI _) (by omega) (ST.road_start t _) (fun q i c=>by omega)
 ·refine D3 (D3 ?_);show Eo _ _ (ret (Value.bool r.isSome)) _ _ _;rw [hr rfl];rw [decide_eq_true hd] at q;exact D3 ⟨_,rfl,Gs q⟩
 ·refine D3 (D3 ?_);show Eo _ _ (ret (Value.bool false)) _ _ _;rw [decide_eq_false hd] at q;exact D3 ⟨_,rfl,Gs q⟩
noncomputable def mQ (es:Array (Int×Value)) (laid:Option (SetTable×Array Nat)):Sem (Array (Int×Value)×SetTable):=do
 let some (t,order):=laid | unsupported "internal:set-table-without-room"
 let es':=order.filterMap (es[·]?)
 if es'.size != es.size then unsupported "internal:set-table-lost-an-element"
 pure (es',t)
theorem sM (a:DY) (wanted:Nat):setRelay a wanted=(do
  let (es,_,t) <- setState a
  if HR wanted > EJ then unsupported "set:memory"
  let (es,t) <- mQ es (t.relaid (es.map (·.1)) wanted)
  storeSet a es t):=rfl
theorem vR {α:Type} (es:Array α):∀ l:List Nat,(∀ i∈l,i<es.size)->∀ dflt:α,l.filterMap (fun i=>es[i]?)=l.map fun i=>es.toList.getD i dflt
 | [],_,_=>rfl
 | i :: l,h,dflt=>by
  have hi:=h i D4;rw [G2,Gm hi,Ez,vR es l (fun j hj=>h j (DW _ hj)) dflt];simp [hi]
theorem sN {Q:Unit->Shared->Prop} {mask wanted:Nat} (S0:s.heap.get? a=some o) (ex:o.ExactSet) (da:o.data=.set es ep t) (el:es.toList=xs.map fun x=>(zx w x.1,Value.ref x.2)) (tb:ST.TB t (xs.map fun x=>zx w x.1)) (mk:mask=31 \/ mask=127 \/ mask=511) (hw:HR wanted=mask+1)
  (room:xs.length * 5<mask * 3) (q:∀ xs' o' es' ep' t' h',xs'.Perm xs->F4 a s.heap h'->SetObj w h' a xs' o' es' ep' t'->Q () { s with heap:=h' }):Eo (model P w) A (setRelay a wanted) Q E s:=by
 have sz:es.size=xs.length:=by rw [<-Ek,el,DS]
 have fits:t.fits es.size=true:=by
  unfold SetTable.fits IW;have h1:=tb.size;have h2:=tb.most;rw [DS] at h1 h2;rw [sz,h1,tb.dum];simp;exact h2
 have mk2:mask=7 \/ mask=31 \/ mask=127 \/ mask=511:=.inr mk;obtain⟨t2,ord,e1,e2,_,_,pm,tb2⟩:=ST.laid_ok mk2 (es.map (·.1)) (by rw [IL,sz];omega) t.finger (t.movedTo mask) t.led t.plain;rw [IL] at pm;have hlt:∀ i∈ord.toList,i<es.size:=fun i hi=>Eu.mp (pm.mem_iff.mp hi)
 let xs':=ord.toList.map fun i=>xs.getD i (.none,0)
 have px:xs'.Perm xs:=by
  have e:(Ef es.size).map (fun i=>xs.getD i (.none,0))=xs:=by
   rw [sz];refine FQ fun i=>?_;rw [D7];by_cases hi:i<xs.length
   ·rw [E9 hi,DQ hi];simp [hi]
   ·rw [Ex (by simp;omega),Ex (by omega)];rfl
  have:=pm.map fun i=>xs.getD i (.none,0);rw [e] at this;exact this
 have ee:(ord.filterMap (es[·]?)).toList=xs'.map fun x=>(zx w x.1,Value.ref x.2):=by
  rw [Array.toList_filterMap,vR es ord.toList hlt (0,Value.none),EA];refine Fp fun i hi=>?_;have h2:=hlt i hi;have h3:i<xs.length:=by omega
  rw [el,DZ,D7,DQ h3];show _=(zx w (xs.getD i (.none,0)).1,Value.ref (xs.getD i (.none,0)).2);rw [DZ,DQ h3];rfl
 have es_sz:(ord.filterMap (es[·]?)).size=es.size:=by
  rw [<-Ek,ee,DS,px.length_eq,sz]
 have tok:ST.TOk t2 (xs'.map fun x=>zx w x.1):=by
  have eh:(ord.toList.map fun i=>(es.map (·.1)).toList.getD i 0)=xs'.map fun x=>zx w x.1:=by
   rw [EA];refine Fp fun i hi=>?_;have h3:i<xs.length:=by have:=hlt i hi;omega
   rw [Array.toList_map,el,EA,DZ,D7,DQ h3];show zx w xs[i].1=zx w (xs.getD i (.none,0)).1;rw [DZ,DQ h3];rfl
  rw [eh] at tb2;refine⟨tb2,?_⟩;rw [DS,px.length_eq,e2];exact room
 rw [sM];apply DR;refine wpAny_setState_of S0 da fits ?_;dsimp only;rw [hw,Jx (by rw [sizeLine_eq];omega)];have e1':t.relaid (es.map (·.1)) wanted=some (t2,ord):=by
  unfold SetTable.relaid;rw [hw];exact e1
 unfold mQ;rw [e1'];apply DR;dsimp only;rw [es_sz,bne_self_eq_false,Jx DX];apply D3;dsimp only;refine wpAny_storeSet_of S0 da ?_ (by rw [es_sz,sz,sizeLine_eq];omega);refine q xs' { o with data:=.set (ord.filterMap (es[·]?)) (ep+1) t2 } (ord.filterMap (es[·]?)) (ep+1) t2 _ px (Gx _ _ _) ⟨?_,ex,rfl,ee,tok⟩;have:=Gj (Iu (ord.filterMap (es[·]?)) t2) S0 (by rw [putSet_of _ _ da];rfl);rw [putSet_of _ _ da] at this;exact this
theorem sO {t:SetTable} {hs:List Int} {p:Bool} (x:ST.TB t hs):ST.TB { t with plain:=p } hs:=⟨x.mask,x.dum,x.rise,x.le,x.size,x.most,x.reach⟩
theorem wk {Q:Shared->Prop} (S:SetObj w s.heap a xs o es ep t) (ks:∀ x∈xs,KeyAt s.heap x.1 x.2) (kb:KeyAt s.heap d b) (hu:A.units+59<E1) (few:xs.length<300)
  (old:d∈xs.map (·.1)->Q { s with toks:=s.toks+yh d })
  (new:d∉xs.map (·.1)->∀ xs' o' es' ep' t' h',xs'.Perm ((d,b) :: xs)->F4 a s.heap h'->SetObj w h' a xs' o' es' ep' t'->Q { s with heap:=h',toks:=s.toks+yh d }) :
  Eo (model P w) A (setAdd a (.ref b)) (fun _ s'=>Q s') E s:=by
 obtain⟨F,hF⟩:=ST.first_of S.ok.toTB (zx w d);have hl:=hF.lt;have ht:turns t.mask<=526:=by
  unfold turns;rcases S.ok.mask with e | e | e | e <;> omega
 have room:=S.ok.room;rw [DS] at room;unfold setAdd;apply EM;apply DR;refine (vA P w).pyHash (by show _+40<E1;omega) kb ?_;show Eo _ _ (setAddHashed a (.ref b) (zx w d)) _ _ _;unfold setAddHashed setAddHashedIn;apply EM;apply DR;refine wpAny_setState_of (s:={ s with toks:=s.toks+yh d }) S.ob S.da S.fits ?_;dsimp only;rw [mP,Jx DX];apply DR;unfold setSearch;refine bo (s:={ s with toks:=s.toks+yh d }) (adding:=true) S ks kb (by omega) hF (fun hd r _=>?_) (fun hd=>?_) 100000 0 none (EI _) (by omega) (ST.road_start t _) (fun q i c=>by omega)
 ·exact D3 (old hd)
 ·dsimp only;apply DR;refine wpAny_setState_of (s:={ s with toks:=s.toks+yh d }) S.ob S.da S.fits ?_;dsimp only;obtain⟨hp,tb⟩:=ST.put_tb S.ok.toTB hF (by rw [DS];rcases S.ok.mask with e | e | e | e <;> rw [e] at room ⊢ <;> omega);rw [DS] at hp;have ep2:(t.put (ST.pos t.mask (zx w d) F)).2=below t.place (ST.pos t.mask (zx w d) F):=rfl;rw [ep2];generalize below t.place (ST.pos t.mask (zx w d) F)=p at *;have pm:(xs.take p++(d,b) :: xs.drop p).Perm ((d,b) :: xs):=by
   refine List.perm_middle.trans ?_;rw [IE]
  have el:(insertAt es p (zx w d,Value.ref b)).toList=(xs.take p++(d,b) :: xs.drop p).map fun x=>(zx w x.1,Value.ref x.2):=by
   rw [G8,S.el,Ey,Ez,Ht,Hu]
  have eh:(xs.map fun x=>zx w x.1).take p++zx w d :: (xs.map fun x=>zx w x.1).drop p=(xs.take p++(d,b) :: xs.drop p).map fun x=>zx w x.1:=by
   rw [Ey,Ez,Ht,Hu]
  rw [eh] at tb;have ln:(xs.take p++(d,b) :: xs.drop p).length=xs.length+1:=by rw [pm.length_eq];rfl
  have sze:(insertAt es p (zx w d,Value.ref b)).size=xs.length+1:=by rw [<-Ek,el,DS,ln]
  have step:∀ bv:Bool,∀ t2,t2=(if bv=true then (t.put (ST.pos t.mask (zx w d) F)).1 else { (t.put (ST.pos t.mask (zx w d) F)).1 with plain:=false }) ->
    ST.TB t2 ((xs.take p++(d,b) :: xs.drop p).map fun x=>zx w x.1)/\t2.mask=t.mask:=fun bv t2 e=>by
   subst e;cases bv with
   | true=>exact⟨tb,rfl⟩
   | false=>exact⟨sO tb,rfl⟩
  have tail:∀ bv:Bool,Eo (model P w) A (do
    storeSet a (insertAt es p (zx w d,Value.ref b)) (if bv=true then (t.put (ST.pos t.mask (zx w d) F)).1 else { (t.put (ST.pos t.mask (zx w d) F)).1 with plain:=false })
    if (!false && (if bv=true then (t.put (ST.pos t.mask (zx w d) F)).1 else { (t.put (ST.pos t.mask (zx w d) F)).1 with plain:=false }).tooFull)=true then do
     setRelay a (SetTable.grown (es.size+1))
     pure true
    else pure true) (fun _ s'=>Q s') E { s with toks:=s.toks+yh d }:=fun bv=>by
   obtain⟨tb2,em⟩:=step bv _ rfl;generalize (if bv=true then (t.put (ST.pos t.mask (zx w d) F)).1 else { (t.put (ST.pos t.mask (zx w d) F)).1 with plain:=false })=t2 at *;apply DR;refine wpAny_storeSet_of (s:={ s with toks:=s.toks+yh d }) S.ob S.da ?_ (by rw [sze,sizeLine_eq];omega);have g:(s.heap.update a (Iu (insertAt es p (zx w d,Value.ref b)) t2)).get? a=some { o with data:=.set (insertAt es p (zx w d,Value.ref b)) (ep+1) t2 }:=by
    have:=Gj (Iu (insertAt es p (zx w d,Value.ref b)) t2) S.ob (by rw [putSet_of _ _ S.da];rfl);rw [putSet_of _ _ S.da] at this;exact this
   have sb:=Gx s.heap a (Iu (insertAt es p (zx w d,Value.ref b)) t2);have fill:t2.tooFull=decide ((xs.length+1) * 5 >= t.mask * 3):=by
    unfold SetTable.tooFull IW;have h1:=tb2.size;rw [DS,ln] at h1;rw [h1,tb2.dum,em];rfl
   rw [HP,G9,fill];by_cases full:(xs.length+1) * 5 >= t.mask * 3
   ·rw [Jy (decide_eq_true full),S.size];have:∃ mask,(mask=31 \/ mask=127 \/ mask=511)/\HR (SetTable.grown (xs.length+1))=mask+1/\(xs.length+1) * 5<mask * 3:=by
     rcases S.ok.mask with e | e | e | e
     ·rw [e] at room full;have:xs.length=4:=by omega
      rw [this];exact⟨31,.inl rfl,by decide,by decide⟩
     ·rw [e] at room full;have:xs.length=18:=by omega
      rw [this];exact⟨127,.inr (.inl rfl),by decide,by decide⟩
     ·rw [e] at room full;have:xs.length=76:=by omega
      rw [this];exact⟨511,.inr (.inr rfl),by decide,by decide⟩
     ·rw [e] at room full;omega
    obtain⟨mask,mk,hw,rm⟩:=this;apply DR;refine sN (s:={ s with heap:=s.heap.update a (Iu (insertAt es p (zx w d,Value.ref b)) t2),toks:=s.toks+yh d }) (o:={ o with data:=.set (insertAt es p (zx w d,Value.ref b)) (ep+1) t2 }) g S.ex rfl el tb2 mk hw (by rw [ln];exact rm) fun xs' o' es' ep' t' h' px sb' S'=>D3 ?_;exact new hd xs' o' es' ep' t' h' (px.trans pm) (sb.trans sb') S'
   ·rw [Jx (by rw [decide_eq_false full];exact DX)];refine D3 (new hd _ _ _ _ _ _ pm sb ⟨g,S.ex,rfl,el,⟨tb2,?_⟩⟩);rw [DS,ln,em];omega
  obtain⟨as,rd⟩:=kb.rd;split
  ·apply DR;exact bH d 8 _ { s with toks:=s.toks+yh d } _ as _ _ rd kb.pl fun bv=>tail bv
  ·apply DR;apply D3;exact tail true
theorem Be {Q:Value->Shared->Prop} (S:SetObj w s.heap a xs o es ep t) (ks:∀ x∈xs,KeyAt s.heap x.1 x.2) (kb:KeyAt s.heap d b) (hu:A.units+60<E1) (few:xs.length<300)
  (old:d∈xs.map (·.1)->Q .none { s with toks:=s.toks+yh d })
  (new:d∉xs.map (·.1)->∀ xs' o' es' ep' t' h',xs'.Perm ((d,b) :: xs)->F4 a s.heap h'->SetObj w h' a xs' o' es' ep' t'->Q .none { s with heap:=h',toks:=s.toks+yh d }) :
  Eo (model P w) A (call (.builtin "set.add") [.ref a,.ref b]) Q E s:=by
 refine wpAny_call_entry IP S.type PySem.F.entry_set_add ?_ (PySem.F.args_set_add_2 _ _);unfold Builtin.«set.add» HQ;simp only [List.isEmpty_nil,bind_assoc];unfold Ig;apply DR;apply D3
 try dsimp only
 apply DR;apply D3
 try dsimp only
 apply DR;have hu1:A.in1.units=A.units+1:=rfl;refine wk (Q:=fun s'=>Eo (model P w) A.in1 (ret Value.none) (fun fin s'=>∃ r,fin=.done (.ret r)/\Q r s') E s') S ks kb (by omega) few (fun hd=>D3 ⟨_,rfl,old hd⟩) fun hd xs' o' es' ep' t' h' p1 p2 p3=>D3 ⟨_,rfl,new hd xs' o' es' ep' t' h' p1 p2 p3⟩
end
inductive OC where
 | lst (es:List PyData)
 | set (ks:List PyData)
 | dic (kvs:List (PyData×PyData))
noncomputable def SetO (w:World) (a:DY) (xs:List (PyData×DY)):HO:=.ext fun h=>∃ o es ep t,SetObj w h a xs o es ep t
structure DicObj (w:World) (h:Heap) (a:DY) (xs:List (PyData×DY×Value)) (o:Obj) (es:Array DictEntry) (ep:Nat):Prop where
 ob:h.get? a=some o
 ex:o.ExactDict
 da:o.data=.dict es ep
 el:es.toList=xs.map fun x=>(⟨zx w x.1,.ref x.2.1,x.2.2⟩:DictEntry)
 nd:(xs.map (·.1)).Nodup
 ns:(a == sysModules)=false
noncomputable def DicO (w:World) (a:DY) (xs:List (PyData×DY×Value)):HO:=.ext fun h=>∃ o es ep,DicObj w h a xs o es ep
def vo (d:PyData):Prop:=zJ d=true/\d.depth<=8
def EntR (K:DT) (Hh:Hp) (x:PyData×DY×Value) (p:PyData×PyData):Prop:=x.1=p.1/\vo x.1/\Rep K Hh x.1 (.ref x.2.1)/\∃ v,Rep K Hh p.2 v/\RelV v x.2.2
theorem EntR.mono {K:DT} {Hh Hh':Hp} (s:Same Hh Hh'):∀ {xs:List (PyData×DY×Value)} {kvs:List (PyData×PyData)},Paired (EntR K Hh) xs kvs->Paired (EntR K Hh') xs kvs
 | _,_,.nil=>.nil
 | _,_,.cons ⟨h1,h2,h3,v,h4,h5⟩ t=>.cons ⟨h1,h2,Rep.mono s _ _ h3,v,Rep.mono s _ _ h4,h5⟩ (EntR.mono s t)
def OwnAt (w:World) (K:DT) (Hh H:Hp) (D:DY):OC->Prop
 | .lst es=>∃ vs,H D=some (.lst vs)/\Reps K Hh es vs
 | .set ks=>∃ xs:List (PyData×DY),H D=some (SetO w D xs)/\(∀ x∈xs,vo x.1/\Rep K Hh x.1 (.ref x.2))/\(∀ d,d∈xs.map (·.1)↔d∈ks)/\xs.length<=ks.length
 | .dic kvs=>∃ xs:List (PyData×DY×Value),H D=some (DicO w D xs)/\Paired (EntR K Hh) xs kvs
theorem OwnAt.mono {w:World} {K:DT} {Hh Hh' H H':Hp} {D:DY} (e:H' D=H D) (s:Same Hh Hh'):∀ {c:OC},OwnAt w K Hh H D c->OwnAt w K Hh' H' D c
 | .lst es,⟨vs,h1,h2⟩=>⟨vs,e.trans h1,Reps.mono s es vs h2⟩
 | .set ks,⟨xs,h1,h2,h3⟩=>⟨xs,e.trans h1,fun x hx=>⟨(h2 x hx).1,Rep.mono s _ _ (h2 x hx).2⟩,h3⟩
 | .dic kvs,⟨xs,h1,h2⟩=>⟨xs,e.trans h1,EntR.mono s h2⟩
noncomputable def Fx.withs (f:Fx) (Ds:List DY):Fx:={ f with M:=Ds.reverse++f.M }
theorem yN (f:Fx) (Ds:List DY) (D:DY):f.withs (Ds++[D])=(f.withs Ds).with D:=by
 unfold Fx.withs Fx.with;rw [G4];rfl
structure CM (w:World) (K:DT) (f:Fx) (Ds:List DY) (H2:Hp) (ρ:zq) (cs:List OC) (σ:St) (H:Hp):Prop where
 env:EnvOk K (f.withs Ds) ρ σ H
 sm:Same (hide H2 (f.withs Ds)) (hide H (f.withs Ds))
 kp:∀ b∈f.M,H b=H2 b
 len:cs.length=Ds.length
 own:∀ (i:Nat) D c,Ds[i]?=some D->cs[i]?=some c->OwnAt w K (hide H (f.withs Ds)) H D c
structure Sep (f:Fx) (Ds:List DY):Prop where
 nd:Ds.Nodup
 nf:∀ D∈Ds,f.f≠some D
 nm:∀ D∈Ds,D∉f.M
section
variable {w:World} {K:DT} {f:Fx} {Ds:List DY} {H H' H2:Hp} {ρ ρ2:zq} {cs:List OC} {σ σ2:St} {i:Nat} {D:DY} {c:OC} {o:HO}
theorem jC (hD:D∈Ds):D∈(f.withs Ds).M:=Ew _ (Gb.mpr hD)
theorem yk (hD:D∈Ds):hide (upd H D o) (f.withs Ds)=hide H (f.withs Ds):=by
 funext b
 unfold hide;by_cases h:(f.withs Ds).f=some b \/ b∈(f.withs Ds).M
 ·rw [Jy h,Jy h]
 ·rw [Jx h,Jx h,zu fun (z:b=D)=>h (.inr (z▸jC hD))]
theorem CM.go (x:CM w K f Ds H2 ρ cs σ H) (g:Goes (f.withs Ds) H H') (e2:EnvOk K (f.withs Ds) ρ2 σ2 H'):CM w K f Ds H2 ρ2 cs σ2 H' :=
 ⟨e2,x.sm.trans g.sm,fun b hb=>(g.kp b (Ed _ hb)).trans (x.kp b hb),x.len,fun i D c h1 h2=>(x.own i D c h1 h2).mono (g.kp D (jC (D9 h1))) g.sm⟩
theorem CM.self (x:CM w K f Ds H2 ρ cs σ H):CM w K f Ds H ρ cs σ H:=⟨x.env,Same.refl _,fun _ _=>rfl,x.len,x.own⟩
theorem CM.trans {cs':List OC} {ρ':zq} {σ':St} (x:CM w K f Ds H2 ρ cs σ H) (y:CM w K f Ds H ρ' cs' σ' H'):CM w K f Ds H2 ρ' cs' σ' H':=⟨y.env,x.sm.trans y.sm,fun b hb=>(y.kp b hb).trans (x.kp b hb),y.len,y.own⟩
theorem wm (se:Sep f Ds) (hD:D∈Ds) (h:FOk (f.withs Ds) H):FOk (f.withs Ds) (upd H D o) :=
 ⟨fun p e=>let⟨a,b,h1,h2⟩:=h.fd p e;⟨a,b,by rw [zu (fun (z:p=D)=>se.nf D hD (z▸e))];exact h1,h2⟩,fun b hb=>by
  by_cases e:b=D
  ·exact⟨o,by rw [e];exact zy⟩
  ·obtain⟨u,hu⟩:=h.mm b hb;exact⟨u,by rw [zu e];exact hu⟩,h.nm⟩
theorem mR (se:Sep f Ds) (hD:D∈Ds) (e:EnvOk K (f.withs Ds) ρ σ H):EnvOk K (f.withs Ds) ρ σ (upd H D o) :=
 ⟨e.len,fun i x h=>by
  obtain⟨v,h1,h2⟩:=e.get i x h;refine⟨v,h1,?_⟩;cases x with
  | dat d =>
   show Rep K (hide (upd H D o) (f.withs Ds)) d v;rw [yk hD];exact h2
  | feed=>exact h2
  | own k=>exact h2
  | exc C =>
   obtain⟨a,e1,q⟩:=h2;exact⟨a,e1,by rw [yk hD];exact q⟩
  | mon φ =>
   intro H' s;rw [yk hD] at s;exact h2 H' s,wm se hD e.fd⟩
theorem CM.put {c':OC} (se:Sep f Ds) (x:CM w K f Ds H2 ρ cs σ H) (hi:Ds[i]?=some D) (ho:OwnAt w K (hide H (f.withs Ds)) (upd H D o) D c'):CM w K f Ds H2 ρ (cs.set i c') σ (upd H D o):=by
 have hD:=D9 hi;refine⟨mR se hD x.env,by rw [yk hD];exact x.sm,fun b hb=>(zu (fun (z:b=D)=>se.nm D hD (z▸hb))).trans (x.kp b hb),by rw [FH];exact x.len,fun j D' c h1 h2=>?_⟩;rw [yk hD];by_cases e:i=j
 ·subst e;rw [hi] at h1;cases h1;have hl:i<cs.length:=by rw [x.len];exact (DU.mp hi).1
  rw [E4 hl] at h2;cases h2;exact ho
 ·rw [Fe e] at h2;have ne:D'≠D:=fun z=>by
   subst z;obtain⟨l1,e1⟩:=DU.mp hi;obtain⟨l2,e2⟩:=DU.mp h1;exact e ((Hs se.nd).mp (e1.trans e2.symm))
  exact (x.own j D' c h1 h2).mono (zu ne) (Same.refl _)
end
structure MEnds where
 nx:zq->List OC->Prop
 rt:PyData->Prop
 bk:zq->List OC->Prop:=fun _ _=>False
 ct:zq->List OC->Prop:=fun _ _=>False
def PSm (w:World) (K:DT) (f:Fx) (Ds:List DY) (ts:TS) (ρ:zq) (cs:List OC) (O:MEnds):Prop:=Sep f Ds->∀ (σ:St) (H H2:Hp) (E:Ends),CM w K f Ds H2 ρ cs σ H ->
 (∀ ρ' cs' σ' H',CM w K f Ds H2 ρ' cs' σ' H'->O.nx ρ' cs'->E.nx σ' H')->(∀ d v ρ' cs' σ' H',CM w K f Ds H2 ρ' cs' σ' H'->Rep K (hide H' f) d v->O.rt d->E.rt v H') ->
 (∀ ρ' cs' σ' H',CM w K f Ds H2 ρ' cs' σ' H'->O.bk ρ' cs'->E.bk σ' H')->(∀ ρ' cs' σ' H',CM w K f Ds H2 ρ' cs' σ' H'->O.ct ρ' cs'->E.ct σ' H')->ts E σ H
def PTm (w:World) (K:DT) (f:Fx) (Ds:List DY) (tt:TT) (ρ:zq) (cs:List OC) (B:Bool->Prop):Prop:=Sep f Ds->∀ (σ:St) (H H2:Hp) (Q:Bool->Hp->Prop),CM w K f Ds H2 ρ cs σ H->(∀ b H',Goes (f.withs Ds) H H'->B b->Q b H')->tt σ H Q
def PEm (w:World) (K:DT) (f:Fx) (Ds:List DY) (te:TE) (ρ:zq) (cs:List OC) (P:PyData->Prop):Prop:=Sep f Ds->∀ (σ:St) (H H2:Hp) (Q:VK),CM w K f Ds H2 ρ cs σ H->(∀ d v H',Goes (f.withs Ds) H H'->Rep K (hide H' (f.withs Ds)) d v->P d->Q v H')->te σ H Q
def fO (w:World) (K:DT) (f:Fx) (te:TE) (ρ:zq) (P:OC->Prop):Prop:=∀ (σ:St) (H:Hp) (Q:VK),EnvOk K f ρ σ H ->
 (∀ c D H',Goes f H H'->H D=none->OwnAt w K (hide H' (f.with D)) H' D c->P c->Q (.ref D) H')->te σ H Q
section
variable {w:World} {K:DT} {f:Fx} {Ds:List DY} {ρ:zq} {cs:List OC} {ts tu:TS} {tt:TT} {te:TE} {wi:TI} {g:TG} {O:MEnds} {i j:Nat}
theorem yn {H:Hp}:Same (hide H (f.withs Ds)) (hide H f):=fun b o h=>by
 obtain⟨h1,h2⟩:=zI h;exact zC (fun z=>h1 (z.elim .inl fun z=>.inr (Ed _ z))) h2
theorem Bf {D:DEnds} (h:PSm w K f [] ts ρ [] { nx:=fun ρ' _=>D.nx ρ',rt:=D.rt,bk:=fun ρ' _=>D.bk ρ',ct:=fun ρ' _=>D.ct ρ' }):PSd K f ts ρ D:=fun σ H E e n r b k=>by
 have gg:∀ {ρ':zq} {cs':List OC} {σ':St} {H':Hp},CM w K f [] H ρ' cs' σ' H'->Goes f H H':=fun x=>⟨x.sm,x.env.fd,x.kp⟩;exact h ⟨FC,(fun _ z=>nomatch z),(fun _ z=>nomatch z)⟩ σ H H E ⟨e,Same.refl _,fun _ _=>rfl,rfl,(fun i D c z=>nomatch z)⟩
  (fun ρ' cs' σ' H' x p=>n ρ' σ' H' (gg x) x.env p) (fun d v ρ' cs' σ' H' x r' p=>r d v H' (gg x) r' p) (fun ρ' cs' σ' H' x p=>b ρ' σ' H' (gg x) x.env p) (fun ρ' cs' σ' H' x p=>k ρ' σ' H' (gg x) x.env p)
theorem Bg (h:PSd K (f.withs Ds) ts ρ { nx:=fun ρ'=>O.nx ρ' cs,rt:=O.rt,bk:=fun ρ'=>O.bk ρ' cs,ct:=fun ρ'=>O.ct ρ' cs }):PSm w K f Ds ts ρ cs O:=fun se σ H H2 E x n r b k =>
 h σ H E x.env (fun ρ' σ' H' g' e' p=>n ρ' cs σ' H' (x.go g' e') p) (fun d v H' g' r' p=>r d v ρ cs σ H' (x.go g' (x.env.mono g')) (Rep.mono yn d v r') p) (fun ρ' σ' H' g' e' p=>b ρ' cs σ' H' (x.go g' e') p) (fun ρ' σ' H' g' e' p=>k ρ' cs σ' H' (x.go g' e') p)
theorem sP (h:PSm w K f Ds ts ρ cs { O with nx:=fun ρ' cs'=>PSm w K f Ds tu ρ' cs' O }):PSm w K f Ds (qt ts tu) ρ cs O:=fun se σ H H2 E x n r b k =>
 h se σ H H2 _ x (fun ρ' cs' σ' H' x' p=>p se σ' H' H2 E x' n r b k) r b k
theorem sQ (h:O.nx ρ cs):PSm w K f Ds lT ρ cs O:=fun _ σ H H2 E x n r b k=>n ρ cs σ H x h
theorem sR {P:PyData->Prop} (h:PEd K (f.withs Ds) te ρ P):PEm w K f Ds te ρ cs P:=fun se σ H H2 Q x q=>h σ H Q x.env q
theorem CK (h:PTm w K f Ds tt ρ cs fun b=>if b=true then PSm w K f Ds ts ρ cs O else PSm w K f Ds tu ρ cs O):PSm w K f Ds (rq tt ts tu) ρ cs O:=fun se σ H H2 E x n r b k =>
 h se σ H H2 _ x fun q H1 g1 p=>by
  have x1:=x.go g1 (x.env.mono g1);cases q with
  | false =>
   rw [Jx DX] at p ⊢;exact p se σ H1 H2 E x1 n r b k
  | true =>
   rw [Jy rfl] at p ⊢;exact p se σ H1 H2 E x1 n r b k
theorem eO (h:PId K (f.withs Ds) wi ρ fun ds=>∃ J:Nat->zq->List OC->Prop,J 0 ρ cs /\
   (∀ (i:Nat) d ρ' cs',ds[i]?=some d->J i ρ' cs'->PGd K (f.withs Ds) g d ρ' fun ρ2=>PSm w K f Ds ts ρ2 cs' { O with nx:=J (i+1),ct:=J (i+1),bk:=O.nx })/\∀ ρ' cs',J ds.length ρ' cs'->O.nx ρ' cs') :
  PSm w K f Ds (nU wi g ts) ρ cs O:=fun se σ H H2 E x n r b k=>h σ H _ x.env fun ds J H1 g1 it ⟨Jv,j0,js,jd⟩=>by
 have x1:=x.go g1 (x.env.mono g1);refine⟨fun i m σ' H'=>∃ ρ' cs',CM w K f Ds H2 ρ' cs' σ' H'/\Same (hide H1 (f.withs Ds)) (hide H' (f.withs Ds))/\Jv i ρ' cs'/\m+i=ds.length,⟨ds.length,ρ,cs,x1,Same.refl _,j0,rfl⟩,fun i m σ' H' ⟨ρ',cs',x',sm',p,hm⟩=>?_⟩;by_cases hi:i<ds.length
 ·obtain⟨hgo,hy⟩:=it.go (f.withs Ds) H' i _ x'.env.fd sm' (DQ hi);refine .inr ⟨hgo,fun σ2 H3=>∃ ρ2 cs2,CM w K f Ds H2 ρ2 cs2 σ2 H3/\Same (hide H1 (f.withs Ds)) (hide H3 (f.withs Ds))/\Jv (i+1) ρ2 cs2,fun σ2 H3 ⟨ρ2,cs2,e2,g2,p2⟩=>⟨m - 1,by omega,ρ2,cs2,e2,g2,p2,by omega⟩,fun v H3 hx=>?_⟩;obtain⟨g3,r3⟩:=hy v H3 hx;have x3:=x'.go g3 (x'.env.mono g3);refine js i _ ρ' cs' (DQ hi) p σ' H3 v _ x3.env r3 fun ρ2 σ2 H4 g4 e4 p4=>?_;have x4:=x3.go g4 e4;have sm4:=(sm'.trans g3.sm).trans g4.sm;exact p4 se σ2 H4 H4 _ x4.self (fun ρ5 cs5 σ5 H5 x5 p5=>⟨ρ5,cs5,x4.trans x5,sm4.trans x5.sm,p5⟩) (fun d v ρ5 cs5 σ5 H5 x5 r5 p5=>r d v ρ5 cs5 σ5 H5 (x4.trans x5) r5 p5) (fun ρ5 cs5 σ5 H5 x5 p5=>n ρ5 cs5 σ5 H5 (x4.trans x5) p5) (fun ρ5 cs5 σ5 H5 x5 p5=>⟨ρ5,cs5,x4.trans x5,sm4.trans x5.sm,p5⟩)
 ·have ei:i=ds.length:=by omega
  subst ei;exact .inl ⟨it.st (f.withs Ds) H' x'.env.fd sm',n ρ' cs' σ' H' x' (jd ρ' cs' p)⟩
theorem wo {tb:TS} (J:zq->List OC->Prop) (μ:zq->List OC->Nat) (h0:J ρ cs)
  (hs:∀ ρ' cs',J ρ' cs'->PTm w K f Ds tt ρ' cs' fun b=>if b=true then PSm w K f Ds tb ρ' cs' { O with nx:=fun r c=>J r c/\μ r c<μ ρ' cs',ct:=fun r c=>J r c/\μ r c<μ ρ' cs',bk:=O.nx } else O.nx ρ' cs'):PSm w K f Ds (kj tt tb) ρ cs O:=fun se σ H H2 E x n r b k=>by
 refine⟨fun m σ' H'=>∃ ρ' cs',CM w K f Ds H2 ρ' cs' σ' H'/\J ρ' cs'/\m=μ ρ' cs',⟨_,ρ,cs,x,h0,rfl⟩,?_⟩;rintro m σ1 H1 ⟨ρ1,cs1,x1,j1,rfl⟩;refine hs ρ1 cs1 j1 se σ1 H1 H2 _ x1 fun t H3 g3 p=>?_;have x3:=x1.go g3 (x1.env.mono g3);cases t with
 | true =>
  rw [Jy rfl] at p ⊢;refine⟨fun σ' H'=>∃ ρ' cs',CM w K f Ds H2 ρ' cs' σ' H'/\J ρ' cs'/\μ ρ' cs'<μ ρ1 cs1,fun σ' H' ⟨ρ',cs',x',j',l'⟩=>⟨_,l',ρ',cs',x',j',rfl⟩,?_⟩;exact p se σ1 H3 H2 _ x3 (fun ρ5 cs5 σ5 H5 x5 p5=>⟨ρ5,cs5,x5,p5⟩) r (fun ρ5 cs5 σ5 H5 x5 p5=>n ρ5 cs5 σ5 H5 x5 p5) (fun ρ5 cs5 σ5 H5 x5 p5=>⟨ρ5,cs5,x5,p5⟩)
 | false =>
  rw [Jx DX] at p ⊢;exact n ρ1 cs1 σ1 H3 x3 p
theorem jF {σ:St} {H H2:Hp} {D:DY} (hi:ρ[i]?=some (some (.own (f.M.length+j)))) (x:CM w K f Ds H2 ρ cs σ H) (hD:Ds[j]?=some D):σ[i]?=some (some (.ref D)):=by
 obtain⟨v,h1,p,h2,rfl⟩:=x.env.get i _ hi;have e:(f.withs Ds).M.reverse[f.M.length+j]?=some D:=by
  show (Ds.reverse++f.M).reverse[f.M.length+j]?=some D;rw [G4,Hx,Ee (by simp)];simpa using hD
 rw [e] at h2;cases h2;exact h1
theorem xX {es:List PyData} (hi:ρ[i]?=some (some (.own (f.M.length+j)))) (hc:cs[j]?=some (.lst es)) (hl:es.length<1000) (h:PEm w K f Ds te ρ cs fun d=>O.nx ρ (cs.set j (.lst (es++[d])))):PSm w K f Ds (dW (tBM K "list" bX (yD i) (yK te qM))) ρ cs O:=fun se σ H H2 E x n r b k=>by
 have hj:j<Ds.length:=by rw [<-x.len];exact (DU.mp hc).1
 have hD:Ds[j]?=some Ds[j]:=DQ hj;obtain⟨vs0,h0,_⟩:=x.own j _ _ hD hc;refine⟨_,jF hi x hD,Or.inl ⟨rfl,vs0,.of h0⟩,?_⟩;refine h se σ H H2 _ x fun d v H1 g1 r1 p1=>?_;have x1:=x.go g1 (x.env.mono g1);obtain⟨vs,h1,h2⟩:=x1.own j _ _ hD hc;refine⟨_,vs,v,rfl,rfl,h1,yg (by rw [h2.length];omega),n _ _ _ _ (x1.put se hD (o:=.lst (vs++[v])) (c':=.lst (es++[d])) ⟨vs++[v],zy,h2.snoc r1⟩) p1⟩
theorem CM.more {σ:St} {H H1 H2:Hp} {D:DY} {c:OC} (x:CM w K f Ds H2 ρ cs σ H) (g:Goes (f.withs Ds) H H1) (hn:H D=none) (ho:OwnAt w K (hide H1 ((f.withs Ds).with D)) H1 D c) (hi:i<ρ.length) :
  CM w K f (Ds++[D]) H1 (ρ.set i (some (.own (f.M.length+Ds.length)))) (cs++[c]) (σ.set i (some (.ref D))) H1:=by
 have nD:¬ ((f.withs Ds).f=some D \/ D∈(f.withs Ds).M):=fresh_ne x.env.fd hn;have sm0:Same (hide H (f.withs Ds)) (hide H1 (f.withs (Ds++[D]))):=fun b o hb=>by
  have hb1:=g.sm b o hb;rw [yN];refine zC (fun z=>?_) (zI hb1).2;rcases z with z | z
  ·exact (zI hb1).1 (.inl z)
  ·rcases D5.mp z with rfl | z
   ·have:=(zI hb).2;rw [hn] at this;cases this
   ·exact (zI hb1).1 (.inr z)
 have hD1:∃ o,H1 D=some o:=by
  cases c with
  | lst es=>exact⟨_,ho.choose_spec.1⟩
  | set ks=>exact⟨_,ho.choose_spec.1⟩
  | dic kvs=>exact⟨_,ho.choose_spec.1⟩
 have fo1:FOk (f.withs (Ds++[D])) H1:=by
  rw [yN];refine⟨g.ok.fd,fun b hb=>?_,fun q eq hq=>?_⟩
  ·rcases D5.mp hb with rfl | hb
   ·exact hD1
   ·exact g.ok.mm b hb
  ·rcases D5.mp hq with rfl | hq
   ·exact nD (.inl eq)
   ·exact g.ok.nm q eq hq
 have rev:(f.withs (Ds++[D])).M.reverse=(f.withs Ds).M.reverse++[D]:=by
  rw [yN];show (D :: (f.withs Ds).M).reverse=_;rw [EY]
 have lenr:(f.withs Ds).M.reverse.length=f.M.length+Ds.length:=by
  show (Ds.reverse++f.M).reverse.length=_;simp
 have e1:EnvOk K (f.withs (Ds++[D])) ρ σ H1:=⟨x.env.len,fun q y hy=>by
  obtain⟨v,a1,a2⟩:=x.env.get q y hy;refine⟨v,a1,?_⟩;cases y with
  | dat d=>exact Rep.mono sm0 d v a2
  | feed=>exact a2
  | exc C =>
   obtain⟨b,h3,h4⟩:=a2;exact⟨b,h3,sm0 _ _ h4⟩
  | mon φ=>exact fun H' s=>a2 H' (sm0.trans s)
  | own k =>
   obtain⟨b,h3,h4⟩:=a2;refine⟨b,?_,h4⟩;rw [rev,Ec (DU.mp h3).1];exact h3,fo1⟩
 have rv:RepV K (f.withs (Ds++[D])) H1 (.own (f.M.length+Ds.length)) (.ref D):=⟨D,by
  rw [rev,Ee (by omega),lenr,F7]
  rfl,rfl⟩
 refine⟨e1.set i rv,Same.refl _,fun _ _=>rfl,by simp [x.len],fun q D' c' h1 h2=>?_⟩;by_cases hq:q<Ds.length
 ·rw [Ec hq] at h1;rw [Ec (by rw [x.len];exact hq)] at h2;exact (x.own q D' c' h1 h2).mono (g.kp D' (jC (D9 h1))) sm0
 ·by_cases hq2:q=Ds.length
  ·subst hq2;rw [Ee (D8 _),F7] at h1;rw [Ee (by rw [x.len];exact D8 _),x.len,F7] at h2;cases h1;cases h2;rw [yN];exact ho
  ·rw [Ex (by simp;omega)] at h1;cases h1
theorem Sep.more {H:Hp} {D:DY} (se:Sep f Ds) (fo:FOk (f.withs Ds) H) (hn:H D=none):Sep f (Ds++[D]):=by
 have nD:=fresh_ne fo hn;refine⟨FE.mpr ⟨se.nd,by simp,fun a ha b hb=>?_⟩,fun D' h=>?_,fun D' h=>?_⟩
 ·rw [Ej.mp hb];intro z;exact nD (.inr (jC (z▸ha)))
 ·rcases En.mp h with h | h
  ·exact se.nf D' h
  ·rw [Ej.mp h];exact fun z=>nD (.inl z)
 ·rcases En.mp h with h | h
  ·exact se.nm D' h
  ·rw [Ej.mp h];exact fun z=>nD (.inr (Ed _ z))
theorem CM.less {σ σ':St} {H H1 H2 H':Hp} {D:DY} {ρ':zq} {cs':List OC} (x:CM w K f Ds H2 ρ cs σ H) (g:Goes (f.withs Ds) H H1) (hn:H D=none) (y:CM w K f (Ds++[D]) H1 ρ' cs' σ' H') :
  CM w K f Ds H2 (ρ'.map (jq (f.M.length+Ds.length))) (cs'.take Ds.length) σ' H':=by
 have sub:Same (hide H' (f.withs (Ds++[D]))) (hide H' (f.withs Ds)):=by rw [yN];exact yH
 have sm1:Same (hide H (f.withs Ds)) (hide H1 (f.withs (Ds++[D]))):=fun b o hb=>by
  have hb1:=g.sm b o hb;rw [yN];refine zC (fun z=>?_) (zI hb1).2;rcases z with z | z
  ·exact (zI hb1).1 (.inl z)
  ·rcases D5.mp z with rfl | z
   ·have:=(zI hb).2;rw [hn] at this;cases this
   ·exact (zI hb1).1 (.inr z)
 have lenr:(f.withs Ds).M.reverse.length=f.M.length+Ds.length:=by
  show (Ds.reverse++f.M).reverse.length=_;simp
 have rev:(f.withs (Ds++[D])).M.reverse=(f.withs Ds).M.reverse++[D]:=by
  rw [yN];show (D :: (f.withs Ds).M).reverse=_;rw [EY]
 have fo:FOk (f.withs Ds) H':=by
  have h:=y.env.fd;rw [yN] at h;exact⟨h.fd,fun b hb=>h.mm b (DW _ hb),fun p e hp=>h.nm p e (DW _ hp)⟩
 refine⟨⟨by rw [DS];exact y.env.len,fun q z hz=>?_,fo⟩,(x.sm.trans sm1).trans (y.sm.trans sub),fun b hb=>(y.kp b hb).trans ((g.kp b (Ed _ hb)).trans (x.kp b hb)),?_,fun q D' c' h1 h2=>?_⟩
 ·rw [D7] at hz;cases e:ρ'[q]? with
  | none=>rw [e] at hz;cases hz
  | some z0 =>
   rw [e] at hz;cases z0 with
   | none=>cases hz
   | some z0 =>
    obtain⟨v,a1,a2⟩:=y.env.get q z0 e;cases z0 with
    | dat d =>
     cases hz;exact⟨v,a1,Rep.mono sub d v a2⟩
    | feed =>
     cases hz;rw [yN] at a2;exact⟨v,a1,a2⟩
    | exc C =>
     cases hz;obtain⟨b,h3,h4⟩:=a2;exact⟨v,a1,b,h3,sub _ _ h4⟩
    | mon φ =>
     cases hz;exact⟨v,a1,fun H' s=>a2 H' (sub.trans s)⟩
    | own k =>
     have hz':(if k<f.M.length+Ds.length then some (DV.own k) else none)=some z:=Option.some.inj hz;by_cases hk:k<f.M.length+Ds.length
     ·rw [Jy hk] at hz';cases hz';obtain⟨b,h3,h4⟩:=a2;refine⟨v,a1,b,?_,h4⟩;rw [rev,Ec (by omega)] at h3;exact h3
     ·rw [Jx hk] at hz';cases hz'
 ·rw [EL,y.len];simp
 ·have hq:q<Ds.length:=(DU.mp h1).1;rw [Gu hq] at h2;exact (y.own q D' c' (by rw [Ec hq];exact h1) h2).mono rfl sub
theorem xY (h:fO w K (f.withs Ds) te ρ fun c=>i<ρ.length/\∀ D,PSm w K f (Ds++[D]) ts (ρ.set i (some (.own (f.M.length+Ds.length)))) (cs++[c]) { nx:=fun ρ' cs'=>O.nx (ρ'.map (jq (f.M.length+Ds.length))) (cs'.take Ds.length),rt:=O.rt,bk:=fun ρ' cs'=>O.bk (ρ'.map (jq (f.M.length+Ds.length))) (cs'.take Ds.length),ct:=fun ρ' cs'=>O.ct (ρ'.map (jq (f.M.length+Ds.length))) (cs'.take Ds.length) }) :
  PSm w K f Ds (qt (qe te (yS i)) ts) ρ cs O:=fun se σ H H2 E x n r b k =>
 h σ H _ x.env fun c D H1 g1 hn ho ⟨hi,p⟩ =>
  p D (se.more x.env.fd hn) _ H1 H1 E (x.more g1 hn ho hi) (fun ρ' cs' σ' H' y q=>n _ _ σ' H' (x.less g1 hn y) q) (fun d v ρ' cs' σ' H' y r' q=>r d v _ _ σ' H' (x.less g1 hn y) r' q) (fun ρ' cs' σ' H' y q=>b _ _ σ' H' (x.less g1 hn y) q) (fun ρ' cs' σ' H' y q=>k _ _ σ' H' (x.less g1 hn y) q)
theorem mS {P:OC->Prop} (h:PEdO K f te ρ fun es=>P (.lst es)):fO w K f te ρ P:=fun σ H Q e q=>h σ H Q e fun es D vs H' g hn h1 rs p=>q (.lst es) D H' g hn ⟨vs,h1,rs⟩ p
noncomputable def freed (n:Nat) (cs:List OC):Option DV->Option DV
 | some (.own k)=>if k<n then some (.own k) else match cs[k - n]? with
  | some (.lst es)=>some (.dat (.list es))
  | _=>none
 | x=>x
theorem CM.free {σ:St} {H H2:Hp} (se:Sep f Ds) (x:CM w K f Ds H2 ρ cs σ H):EnvOk K f (ρ.map (freed f.M.length cs)) σ H:=by
 have fo:FOk f H:=⟨x.env.fd.fd,fun b hb=>x.env.fd.mm b (Ed _ hb),fun p e hp=>x.env.fd.nm p e (Ed _ hp)⟩;refine⟨by rw [DS];exact x.env.len,fun q z hz=>?_,fo⟩;rw [D7] at hz;cases e:ρ[q]? with
 | none=>rw [e] at hz;cases hz
 | some z0 =>
  rw [e] at hz;cases z0 with
  | none=>cases hz
  | some z0 =>
   obtain⟨v,a1,a2⟩:=x.env.get q z0 e;cases z0 with
   | dat d =>
    cases hz;exact⟨v,a1,Rep.mono yn d v a2⟩
   | feed =>
    cases hz;exact⟨v,a1,a2⟩
   | exc C =>
    cases hz;obtain⟨b,h3,h4⟩:=a2;exact⟨v,a1,b,h3,yn _ _ h4⟩
   | mon φ =>
    cases hz;exact⟨v,a1,fun H' s=>a2 H' (yn.trans s)⟩
   | own k =>
    obtain⟨b,h3,h4⟩:=a2;have h3':(Ds.reverse++f.M).reverse[k]?=some b:=h3;rw [G4,Hx] at h3';have hz':(if k<f.M.length then some (DV.own k) else match cs[k - f.M.length]? with | some (.lst es)=>some (.dat (.list es)) | _=>none)=some z:=Option.some.inj hz;by_cases hk:k<f.M.length
    ·rw [Jy hk] at hz';cases hz';rw [Ec (by simpa using hk)] at h3';exact⟨v,a1,b,h3',h4⟩
    ·rw [Jx hk] at hz';rw [Ee (by simpa using Nat.not_lt.mp hk),HF] at h3';cases ec:cs[k - f.M.length]? with
     | none=>rw [ec] at hz';cases hz'
     | some c =>
      rw [ec] at hz';cases c with
      | lst es =>
       cases hz';obtain⟨vs,h5,h6⟩:=x.own _ _ _ h3' ec;have hb:=D9 h3';exact⟨v,a1,zB.mpr ⟨b,vs,h4,.of (zC (fun z=>z.elim (se.nf b hb) (se.nm b hb)) h5),Reps.mono yn es vs h6⟩⟩
      | set ks=>cases hz'
      | dic kvs=>cases hz'
end
theorem SetO.ok {P:Program} {w:World} {H:Hp} {h:Heap} {a:DY} {xs:List (PyData×DY)} {o:Obj} {es:Array (Int×Value)} {ep:Nat} {t:SetTable} (S:SetObj w h a xs o es ep t):ObjOk P w H h a (SetO w a xs) :=
 ⟨⟨o,es,ep,t,S⟩,⟨o,S.ob⟩,fun h1 h2 ⟨o,es,ep,t,S⟩ k=>⟨o,es,ep,t,⟨k o S.ob,S.ex,S.da,S.el,S.ok⟩⟩⟩
theorem oB (led:Bool):ST.TOk (SetTable.fresh 0 0 led) [] where
 mask:=.inl rfl
 dum:=rfl
 rise:=fun i j _ hj=>absurd hj (FV _)
 le:=fun i hi=>absurd hi (FV _)
 size:=rfl
 most:=EI _
 reach:=fun i hi=>absurd hi (FV _)
 room:=by show 0 * 5<7 * 3;decide
def fP (w:World):List V->Hp->VK->Prop:=fun xs H Q=>xs=[]/\∀ a,H a=none->Q (.ref a) (upd H a (SetO w a []))
theorem iK {X:Cx}:yT X (.type "set") (fP X.w):=by
 intro Jw s σ H xs us Q I r h;obtain⟨rfl,q⟩:=h;cases r;refine call_set_0 fun led=>?_;refine⟨.ref s.heap.objs.size,_,I.laid (t':=s.toks) (fun b u e=>D6 _ e) (D8 _) (SetO.ok (xs:=[]) (o:={ cls:=.type "set",dict:=none,data:=.set #[] 0 (.fresh 0 0 led) }) (es:=#[]) (ep:=0) (t:=.fresh 0 0 led) ⟨El _ rfl,⟨rfl,rfl,rfl⟩,rfl,rfl,oB led⟩),rfl,q _ (I.hok.fresh (D8 _))⟩
def bP (d:PyData):Prop:=vo d/\∃ xs,d=.tuple xs
theorem qk {K:DT} {H:Hp} {d:PyData} {v:V} (k:bP d) (r:Rep K H d v):∃ b,v=.ref b:=by
 obtain⟨_,xs,rfl⟩:=k;obtain⟨a,_,e,_⟩:=zZ.mp r;exact⟨a,e⟩
theorem jO {X:Cx} {Jw:List (DY×Obj)} {σ:St} {H:Hp} {s:Shared} {d:PyData} {b:DY} (I:Inv X Jw σ H s) (k:vo d) (r:Rep X.K H d (.ref b)):KeyAt s.heap d b:=by
 obtain⟨as,ra⟩:=jn I d (.ref b) (.ref b) r rfl;exact⟨⟨as,ra⟩,k.1,k.2⟩
def Bh (w:World) (K:DT) (neg:Bool):R2:=fun x y H Q=>∃ a b d xs,x=.ref b/\y=.ref a/\H a=some (SetO w a xs)/\(∀ z∈xs,vo z.1/\Rep K H z.1 (.ref z.2))/\vo d/\Rep K H d (.ref b)/\Q (.bl (if neg then !decide (d∈xs.map (·.1)) else decide (d∈xs.map (·.1)))) H
theorem wq {X:Cx} (hu:X.A.units+64<E1) {Jw:List (DY×Obj)} {s:Shared} {σ:St} {H:Hp} {a b:DY} {d:PyData} {xs:List (PyData×DY)} (I:Inv X Jw σ H s) (hS:H a=some (SetO X.w a xs)) (ks:∀ z∈xs,vo z.1/\Rep X.K H z.1 (.ref z.2)) (kd:vo d) (rd:Rep X.K H d (.ref b)) {Q:Bool->Shared->Prop} {E:Value->Shared->Prop}
  (q:Q (decide (d∈xs.map (·.1))) { s with toks:=s.toks+yh d }):Eo (model X.prog X.w) X.A (contains (.ref a) (.ref b)) Q E s:=by
 obtain⟨⟨o,es,ep,t,S⟩,_⟩:=I.hok a _ hS;exact iJ S (fun x hx=>jO I (ks x hx).1 (ks x hx).2) (jO I kd rd) (by omega) q
theorem oC {X:Cx} (hu:X.A.units+64<E1):OpR X (E8 .NotIn) (Bh X.w X.K true):=by
 intro Jw s σ H x y v u Q I rx ry h;obtain⟨a,b,d,xs,rfl,rfl,hS,ks,kd,rd,q⟩:=h;cases rx;cases ry;show Eo _ _ (do return Value.bool (!(<- contains (.ref a) (.ref b)))) _ _ s;apply DR;exact wq hu I hS ks kd rd (D3 ⟨.bl _,H,I.tok _,rfl,q⟩)
theorem kX {X:Cx} {K:DT} {w:World} (hw:X.w=w) (hK:X.K=K) (hu:X.A.units+64<E1):OpR X (E8 .NotIn) (Bh w K true):=hw▸hK▸oC hu
def sS (w:World) (K:DT):V->List V->Hp->VK->Prop:=fun x ys H Q=>∃ a b d xs,x=.ref a/\ys=[.ref b]/\H a=some (SetO w a xs)/\(∀ z∈xs,vo z.1/\Rep K H z.1 (.ref z.2))/\vo d/\Rep K H d (.ref b)/\xs.length<300 /\
 (d∈xs.map (·.1)->Q .non H)/\(d∉xs.map (·.1)->∀ xs',xs'.Perm ((d,b) :: xs)->Q .non (upd H a (SetO w a xs')))
theorem wt {X:Cx} (hu:X.A.units+64<E1):MtR X "set.add" (sS X.w X.K):=by
 intro Jw s σ H x ys v us Q I rx ry h;obtain⟨a,b,d,xs,rfl,rfl,hS,ks,kd,rd,few,q1,q2⟩:=h;obtain⟨u,rfl,ru⟩:=vals1 ry;cases rx;cases ru;obtain⟨⟨o,es,ep,t,S⟩,_⟩:=I.hok a _ hS;refine Be S (fun x hx=>jO I (ks x hx).1 (ks x hx).2) (jO I kd rd) (by omega) few (fun hd=>⟨.non,H,I.tok _,rfl,q1 hd⟩) fun hd xs' o' es' ep' t' h' pm sb S'=>?_;refine⟨.non,_,I.write (t':=s.toks+yh d) (x:=a) (e:=a) (by rw [hS];exact trivial) (.inl rfl) (fun b u nb e=>(sb.2 b nb).trans e) ⟨o',S'.ob⟩ (SetO.ok S'),rfl,q2 hd xs' pm⟩
theorem sT {X:Cx} {K:DT} {w:World} (hw:X.w=w) (hK:X.K=K) (hu:X.A.units+64<E1):MtR X "set.add" (sS w K):=hw▸hK▸wt hu
theorem fQ {X:Cx} {w:World} (hw:X.w=w):yT X (.type "set") (fP w):=hw▸iK
def CL (w:World) (r:V->List V->Hp->VK->Prop) (to:TE) (t:TA):TE:=fun σ H Q=>to σ H fun x H1=>(∃ a xs,x=.ref a/\H1 a=some (SetO w a xs))/\t σ H1 fun xs H2=>r x xs H2 Q
theorem Bi {X:Cx} {w:World} {o e:Expr} {es:List Expr} {to:TE} {t:TA} {name:Str} {apos cpos:Pos} {id:String} {r:V->List V->Hp->VK->Prop} (hw:X.w=w) (slot:Slot "set" name id) (hty:typeOf (.builtin id)=pure (.type "method_descriptor")) (hm:MtR X id r) (ho:PE X o to) (ha:PA X (e :: es) t)
  (hbase:attributeBase o name X.env (eval o X.env)=eval o X.env:=by rfl)
  (hfew:((backTo cpos (EG (e :: es) X.env)).all (fun x=>!x.1) && (backToKw cpos (keywordEach [] X.env)).all (fun x=>x.1.isSome)
   && decide ((e :: es).length+([]:List Keyword).length+(if ([]:List Keyword).isEmpty then 0 else 1)<30))=true:=by rfl)
  (hline:(apos.endLine == cpos.line)=true:=by rfl) (hs:EG (e :: es) X.env=(false,eval e X.env) :: EG es X.env:=by rfl) (hplain:(backTo cpos (EG es X.env)).any (·.1)=false:=by rfl) :
  PE X (.Call (.Attribute o name apos) (e :: es) [] cpos) (CL w r to t):=by
 subst hw;intro Jw s σ H Q I h;refine wpAny_Call_method_late hbase hfew hline rfl (thn (ho Jw s σ H _ I h) fun v s1 ⟨x,H1,I1,r1,ty,q1⟩=>?_);obtain⟨a,xs,rfl,hS⟩:=ty;cases r1;obtain⟨⟨ob,es',ep,t',S⟩,_⟩:=I1.hok a _ hS;refine⟨"set",id,PySem.F.plainAttrs_set,slot,hty,⟨ob,S.ob,S.ex.1⟩,fun b e=>?_,?_⟩
 ·cases e;exact⟨ob,S.ob,S.ex.2.1⟩
 have hA:=ha cpos Jw s1 σ H1 _ I1 q1;rw [hs] at hA ⊢;refine GH (by show (false || (backTo cpos (EG es X.env)).any (·.1))=false;rw [hplain] <;> rfl) (Hw ?_);exact thn hA fun us s2 ⟨vs,H2,I2,r2,q2⟩=>hm Jw s2 σ H2 (.ref a) vs (.ref a) us Q I2 rfl r2 q2
section
variable {w:World} {K:DT} {f:Fx} {Ds:List DY} {ρ:zq} {cs:List OC} {te:TE} {O:MEnds} {i j:Nat} {ks:List PyData}
theorem Bj {P:OC->Prop} (p:P (.set [])):fO w K f (tCB (fP w) qM) ρ P:=fun σ H Q e q =>
 ⟨rfl,fun a hn=>q (.set []) a _ (.of_same (yc hn _) e.fd) hn ⟨[],zy,(fun _ z=>nomatch z),(fun d=>Iff.rfl),D8 0⟩ p⟩
theorem CN {neg:Bool} {B:Bool->Prop} (hi:ρ[i]?=some (some (.own (f.M.length+j)))) (hc:cs[j]?=some (.set ks)) (h:PEm w K f Ds te ρ cs fun d=>bP d/\B (if neg then !decide (d∈ks) else decide (d∈ks))) :
  PTm w K f Ds (gT (tOp (Bh w K neg) te (yD i))) ρ cs B:=fun se σ H H2 Q x q=>by
 have hj:j<Ds.length:=by rw [<-x.len];exact (DU.mp hc).1
 have hD:Ds[j]?=some Ds[j]:=DQ hj;refine h se σ H H2 _ x fun d v H1 g1 r1 ⟨kd,p⟩=>?_;have x1:=x.go g1 (x.env.mono g1);obtain⟨b,rfl⟩:=qk kd r1;obtain⟨xs,h1,h2,h3,_⟩:=x1.own j _ _ hD hc;refine⟨_,jF hi x1 hD,Ds[j],b,d,xs,rfl,rfl,h1,fun z hz=>⟨(h2 z hz).1,Rep.mono (zf _ _) _ _ (h2 z hz).2⟩,kd.1,Rep.mono (zf _ _) _ _ r1,_,rfl,?_⟩;have:decide (d∈xs.map (·.1))=decide (d∈ks):=decide_eq_decide.mpr (h3 d);rw [this];exact q _ H1 g1 p
theorem CO (hi:ρ[i]?=some (some (.own (f.M.length+j)))) (hc:cs[j]?=some (.set ks)) (hl:ks.length<300) (h:PEm w K f Ds te ρ cs fun d=>bP d/\(d∈ks->O.nx ρ cs)/\(d∉ks->O.nx ρ (cs.set j (.set (d :: ks))))) :
  PSm w K f Ds (dW (CL w (sS w K) (yD i) (yK te qM))) ρ cs O:=fun se σ H H2 E x n r b k=>by
 have hj:j<Ds.length:=by rw [<-x.len];exact (DU.mp hc).1
 have hD:Ds[j]?=some Ds[j]:=DQ hj;obtain⟨xs0,h0,_⟩:=x.own j _ _ hD hc;refine⟨_,jF hi x hD,⟨Ds[j],xs0,rfl,h0⟩,?_⟩;refine h se σ H H2 _ x fun d v H1 g1 r1 ⟨kd,p1,p2⟩=>?_;have x1:=x.go g1 (x.env.mono g1);obtain⟨b,rfl⟩:=qk kd r1;obtain⟨xs,h1,h2,h3,h4⟩:=x1.own j _ _ hD hc;refine⟨Ds[j],b,d,xs,rfl,rfl,h1,fun z hz=>⟨(h2 z hz).1,Rep.mono (zf _ _) _ _ (h2 z hz).2⟩,kd.1,Rep.mono (zf _ _) _ _ r1,by omega,fun hd=>n _ _ _ _ x1 (p1 ((h3 d).mp hd)),fun hd xs' pm=>n _ _ _ _ (x1.put se hD (c':=.set (d :: ks)) ⟨xs',zy,fun z hz=>?_,fun e=>?_,?_⟩) (p2 fun z=>hd ((h3 d).mpr z))⟩
 ·rcases D5.mp (pm.mem_iff.mp hz) with rfl | hz
  ·exact⟨kd.1,r1⟩
  ·exact h2 z hz
 ·rw [(pm.map (·.1)).mem_iff,Ez,D5,D5,h3 e]
 ·rw [pm.length_eq,Ep,Ep];omega
end
theorem DicO.ok {P:Program} {w:World} {H:Hp} {h:Heap} {a:DY} {xs:List (PyData×DY×Value)} {o:Obj} {es:Array DictEntry} {ep:Nat} (S:DicObj w h a xs o es ep):ObjOk P w H h a (DicO w a xs) :=
 ⟨⟨o,es,ep,S⟩,⟨o,S.ob⟩,fun h1 h2 ⟨o,es,ep,S⟩ k=>⟨o,es,ep,⟨k o S.ob,S.ex,S.da,S.el,S.nd,S.ns⟩⟩⟩
theorem mT {X:Cx} {Jw:List (DY×Obj)} {σ:St} {H:Hp} {s:Shared} (I:Inv X Jw σ H s):sysModules<s.heap.objs.size :=
 HH (by decide) (I.ok.mod.glob.keeps I.bk).lt
def mU (w:World):TE:=fun _ H Q=>∀ p,H p=none->Q (.ref p) (upd H p (DicO w p []))
theorem eP {X:Cx} {w:World} {pos:Pos} (hw:X.w=w):PE X (.Dict [] [] pos) (mU w):=by
 subst hw;intro Jw s σ H Q I h;refine wpAny_Dict_empty ⟨.ref s.heap.objs.size,_,I.laid (a:=s.heap.objs.size) (t':=s.toks) (fun _ _ q=>D6 _ q) (D8 _) (DicO.ok (xs:=[]) (o:={ cls:=.type "dict",data:=.dict #[] }) (es:=#[]) (ep:=0) ⟨El _ rfl,⟨rfl,rfl,rfl⟩,rfl,rfl,FC,beq_eq_false_iff_ne.mpr (Gv (EE (mT I)))⟩),rfl,h _ (I.hok.fresh (D8 _))⟩
abbrev qx (K:DT) (H:Hp) (xs:List (PyData×DY×Value)):Prop:=∀ z∈xs,vo z.1/\Rep K H z.1 (.ref z.2.1)
theorem fR {X:Cx} {Jw:List (DY×Obj)} {σ:St} {H:Hp} {s:Shared} {a:DY} {xs:List (PyData×DY×Value)} (I:Inv X Jw σ H s) (hS:H a=some (DicO X.w a xs)) (ks:qx X.K H xs):s.heap.DictOfH (vA X.prog X.w) a xs/\(a == sysModules)=false:=by
 obtain⟨⟨o,es,ep,S⟩,_⟩:=I.hok a _ hS;exact⟨⟨o,es,ep,S.ob,S.ex,S.da,S.el,fun x hx=>jO I (ks x hx).1 (ks x hx).2,S.nd⟩,S.ns⟩
def b8 (w:World) (K:DT):V->V->V->Hp->(Hp->Prop)->Prop:=fun o i v H Q=>∃ a b d xs,o=.ref a/\i=.ref b/\H a=some (DicO w a xs)/\qx K H xs/\vo d/\Rep K H d (.ref b)/\xs.length<=1000/\∀ u,RelV v u->Q (upd H a (DicO w a (storedH xs d b u)))
theorem wu {X:Cx} (hu:X.A.units+64<E1):uJ X (b8 X.w X.K):=by
 intro Jw s σ H o i v ov iv u Q I ro ri rv h;obtain⟨a,b,d,xs,rfl,rfl,hS,ks,kd,rd,hl,q⟩:=h;cases ro;cases ri;obtain⟨hm,ns⟩:=fR I hS ks;have hu1:X.A.in1.units=X.A.units+1:=rfl;refine wpAny_setItem_heap (by show _+40<E1;omega) (jO I kd rd) hm (fun h' hm' sb=>?_) (Fj (yg hl));obtain⟨o',es',ep',x1,x2,x3,x4,x5,x6⟩:=hm';exact⟨_,I.write (t':=s.toks+yh d) (x:=a) (e:=a) (by rw [hS];exact trivial) (.inl rfl) (fun b u nb e=>(sb.2 b nb).trans e) ⟨o',x1⟩ (DicO.ok ⟨x1,x2,x3,x4,x6,ns⟩),q u rv⟩
theorem cW {X:Cx} {K:DT} {w:World} (hw:X.w=w) (hK:X.K=K) (hu:X.A.units+64<E1):uJ X (b8 w K):=hw▸hK▸wu hu
def kY (w:World) (K:DT):R2:=fun x y H Q=>∃ a b d xs p v,x=.ref a/\y=.ref b/\H a=some (DicO w a xs)/\qx K H xs/\vo d/\Rep K H d (.ref b)/\atKey xs d=some p/\RelV v p.2/\Q v H
theorem Bk {X:Cx} (hu:X.A.units+64<E1):IxR X (kY X.w X.K):=by
 intro value slice Jw s σ H x y v u Q I rx ry h hs;obtain⟨a,b,d,xs,p,z,rfl,rfl,hS,ks,kd,rd,hp,rz,q⟩:=h;cases rx;cases ry;obtain⟨hm,ns⟩:=fR I hS ks;have hu1:X.A.in1.units=X.A.units+1:=rfl;refine subscriptTail_builtinR (x:=p.2) hm.typeIs HV.lookup ?_ hs;exact wpAny_getItem_heap (by show _+40<E1;omega) (jO I kd rd) hm hp ⟨rfl,z,H,I.tok _,rz,q⟩
theorem wx {X:Cx} {K:DT} {w:World} (hw:X.w=w) (hK:X.K=K) (hu:X.A.units+64<E1):IxR X (kY w K):=hw▸hK▸Bk hu
def kZ (w:World) (K:DT) (neg:Bool):R2:=fun x y H Q=>∃ a b d xs,x=.ref b/\y=.ref a/\H a=some (DicO w a xs)/\qx K H xs/\vo d/\Rep K H d (.ref b)/\Q (.bl (if neg then !(atKey xs d).isSome else (atKey xs d).isSome)) H
noncomputable def dput (k v:PyData) (kvs:List (PyData×PyData)):List (PyData×PyData):=if k∈kvs.map (·.1) then kvs.map (fun p=>if p.1=k then (p.1,v) else p) else kvs++[(k,v)]
noncomputable def qy (k:PyData) (kvs:List (PyData×PyData)):Option PyData:=(kvs.find? fun p=>decide (p.1=k)).map (·.2)
section
variable {K:DT} {Hh:Hp}
theorem b9:∀ {xs:List (PyData×DY×Value)} {kvs:List (PyData×PyData)},Paired (EntR K Hh) xs kvs->xs.length=kvs.length
 | _,_,.nil=>rfl
 | _,_,.cons _ t=>by rw [Ep,Ep,b9 t]
theorem yO:∀ {xs:List (PyData×DY×Value)} {kvs:List (PyData×PyData)},Paired (EntR K Hh) xs kvs->qx K Hh xs
 | _,_,.nil=>fun z hz=>nomatch hz
 | _,_,.cons h t=>fun z hz=>by
  rcases D5.mp hz with rfl | hz
  ·exact⟨h.2.1,h.2.2.1⟩
  ·exact yO t z hz
theorem vB (k:PyData):∀ {xs:List (PyData×DY×Value)} {kvs:List (PyData×PyData)},Paired (EntR K Hh) xs kvs->(atKey xs k=none/\qy k kvs=none/\k∉kvs.map (·.1)) \/ ∃ p d v,atKey xs k=some p/\qy k kvs=some d/\Rep K Hh d v/\RelV v p.2/\k∈kvs.map (·.1)
 | _,_,.nil=>.inl ⟨rfl,rfl,fun z=>nomatch z⟩
 | x :: xs,p :: kvs,.cons ⟨h1,h2,h3,v,h4,h5⟩ t=>by
  by_cases e:x.1=k
  ·refine .inr ⟨x.2,p.2,v,?_,?_,h4,h5,?_⟩
   ·unfold atKey;rw [FI,decide_eq_true e];rfl
   ·unfold qy;rw [FI,decide_eq_true (h1▸e)];rfl
   ·rw [Ez];exact D5.mpr (.inl (h1▸e).symm)
  ·have e':¬ p.1=k:=fun z=>e (h1.trans z);have a1:atKey (x :: xs) k=atKey xs k:=by unfold atKey;rw [FI,decide_eq_false e]
   have a2:qy k (p :: kvs)=qy k kvs:=by unfold qy;rw [FI,decide_eq_false e']
   rw [a1,a2,Ez];rcases vB k t with⟨b1,b2,b3⟩ | ⟨q,d,u,b1,b2,b3,b4,b5⟩
   ·exact .inl ⟨b1,b2,fun z=>(D5.mp z).elim (fun z=>e' z.symm) b3⟩
   ·exact .inr ⟨q,d,u,b1,b2,b3,b4,DW _ b5⟩
theorem mV (k:PyData) {d:PyData} {v:V} {u:Value} (rd:Rep K Hh d v) (rv:RelV v u):∀ {xs:List (PyData×DY×Value)} {kvs:List (PyData×PyData)},Paired (EntR K Hh) xs kvs->Paired (EntR K Hh) (xs.map (putAt k u)) (kvs.map fun p=>if p.1=k then (p.1,d) else p)
 | _,_,.nil=>.nil
 | x :: xs,p :: kvs,.cons ⟨h1,h2,h3,w,h4,h5⟩ t=>by
  rw [Ez,Ez];refine .cons ?_ (mV k rd rv t);unfold putAt;by_cases e:x.1=k
  ·rw [Jy e,Jy (h1▸e)];exact⟨h1,h2,h3,v,rd,rv⟩
  ·rw [Jx e,Jx (fun z=>e (h1.trans z))];exact⟨h1,h2,h3,w,h4,h5⟩
theorem mW {x:PyData×DY×Value} {p:PyData×PyData} (h:EntR K Hh x p):∀ {xs:List (PyData×DY×Value)} {kvs:List (PyData×PyData)},Paired (EntR K Hh) xs kvs->Paired (EntR K Hh) (xs++[x]) (kvs++[p])
 | _,_,.nil=>.cons h .nil
 | _,_,.cons h' t=>.cons h' (mW h t)
theorem mX {k d:PyData} {b:DY} {v:V} {u:Value} (kk:vo k) (rk:Rep K Hh k (.ref b)) (rd:Rep K Hh d v) (rv:RelV v u) {xs:List (PyData×DY×Value)} {kvs:List (PyData×PyData)} (t:Paired (EntR K Hh) xs kvs):Paired (EntR K Hh) (storedH xs k b u) (dput k d kvs):=by
 unfold storedH dput;rcases vB k t with⟨b1,b2,b3⟩ | ⟨q,d',v',b1,b2,b3,b4,b5⟩
 ·rw [b1,Jx (by simp),Jx b3];exact mW ⟨rfl,kk,rk,v,rd,rv⟩ t
 ·rw [b1,Jy (show (some q).isSome=true from rfl),Jy b5];exact mV k rd rv t
end
section
variable {w:World} {K:DT} {f:Fx} {Ds:List DY} {ρ:zq} {cs:List OC} {te tk:TE} {O:MEnds} {i j:Nat} {kvs:List (PyData×PyData)}
theorem sU {P:OC->Prop} (p:P (.dic [])):fO w K f (mU w) ρ P:=fun σ H Q e q =>
 fun a hn=>q (.dic []) a _ (.of_same (yc hn _) e.fd) hn ⟨[],zy,.nil⟩ p
theorem sV (hi:ρ[i]?=some (some (.own (f.M.length+j)))) (hc:cs[j]?=some (.dic kvs)) (hl:kvs.length<=1000)
  (h:PEd K (f.withs Ds) te ρ fun v=>PEd K (f.withs Ds) tk ρ fun k=>bP k/\O.nx ρ (cs.set j (.dic (dput k v kvs)))) :
  PSm w K f Ds (qe te (gR (yD i) tk (b8 w K))) ρ cs O:=fun se σ H H2 E x n r b k=>by
 have hj:j<Ds.length:=by rw [<-x.len];exact (DU.mp hc).1
 have hD:Ds[j]?=some Ds[j]:=DQ hj;refine h σ H _ x.env fun v vv H1 g1 r1 p1=>?_;have x1:=x.go g1 (x.env.mono g1);refine⟨_,jF hi x1 hD,?_⟩;refine p1 σ H1 _ x1.env fun kd kv H3 g3 r3 ⟨kt,p3⟩=>?_;have x3:=x1.go g3 (x1.env.mono g3);obtain⟨b',rfl⟩:=qk kt r3;obtain⟨xs,h1,h2⟩:=x3.own j _ _ hD hc;have rv:=Rep.mono g3.sm _ _ r1;refine⟨Ds[j],b',kd,xs,rfl,rfl,h1,fun z hz=>⟨(yO h2 z hz).1,Rep.mono (zf _ _) _ _ (yO h2 z hz).2⟩,kt.1,Rep.mono (zf _ _) _ _ r3,by rw [b9 h2];exact hl,fun u ru=>?_⟩;exact n _ _ _ _ (x3.put se hD (c':=.dic (dput kd v kvs)) ⟨_,zy,mX kt.1 r3 rv ru h2⟩) p3
theorem CP (h:PEm w K f Ds te ρ cs O.rt):PSm w K f Ds (gO te) ρ cs O:=fun se σ H H2 E x n r b k =>
 h se σ H H2 _ x fun d v H' g' r' p=>r d v ρ cs σ H' (x.go g' (x.env.mono g')) (Rep.mono yn d v r') p
end
end L2
end
section
namespace L2
open PySem PySem.Spec PyProof.Rows
structure MinAt (h0:Heap) (its:List Value) (ds:List PyData) (as:List DY):Prop where
 ra:ReadsAll h0 its ds as
 pl:∀ d∈ds,zJ d=true
 cp:∀ d∈ds,∀ e∈ds,fC d e=true
 dp:∀ d∈ds,d.depth<=50
section
variable {w:World} {K:DT} {f:Fx} {Ds:List DY} {ρ:zq} {cs:List OC} {O:MEnds} {tt:TT} {te:TE} {i j n:Nat}
theorem oD {H H' H2:Hp} {σ:St} (se:Sep f Ds) (x:CM w K f Ds H2 ρ cs σ H) (g:Goes f H H'):Goes (f.withs Ds) H H':=by
 have kp:∀ D∈Ds,H' D=H D:=fun D hD=>by
  obtain⟨o,ho⟩:=x.env.fd.mm D (jC hD);have h1:hide H f D=some o:=zC (fun z=>z.elim (se.nf D hD) (se.nm D hD)) ho;rw [ho,(zI (g.sm D o h1)).2]
 refine⟨fun b o hb=>?_,⟨fun p e=>?_,fun b hb=>?_,x.env.fd.nm⟩,fun b hb=>?_⟩
 ·obtain⟨n1,n2⟩:=zI hb;have h1:hide H f b=some o:=zC (fun z=>n1 (z.elim .inl fun z=>.inr (Ed _ z))) n2;exact zC n1 (zI (g.sm b o h1)).2
 ·exact g.2.fd p e
 ·rcases En.mp hb with h | h
  ·rw [kp b (Gb.mp h)];exact x.env.fd.mm b hb
  ·exact g.2.mm b h
 ·rcases En.mp hb with h | h
  ·exact kp b (Gb.mp h)
  ·exact g.kp b h
theorem mY {B:Bool->Prop} (h:PTd K f tt (ρ.map (freed f.M.length cs)) B):PTm w K f Ds tt ρ cs B:=fun se σ H H2 Q x q =>
 h σ H Q (x.free se) fun b H' g p=>q b H' (oD se x g) p
end
end L2
end
section
namespace L2
open PySem PySem.Spec PyProof.Rows
structure TM (K:DT) (f:Fx) (a:DY) (as:List DY) (H2:Hp) (ρ:zq) (Ju:List (List Int)) (σ:St) (H:Hp):Prop where
 env:EnvOk K (f.withs (a :: as)) ρ σ H
 sm:Same (hide H2 (f.withs (a :: as))) (hide H (f.withs (a :: as)))
 kp:∀ b∈f.M,H b=H2 b
 tab:TabAt H a as Ju
section
variable {K:DT} {f:Fx} {a:DY} {as:List DY} {ρ ρ2:zq} {Ju:List (List Int)} {O:zq->List (List Int)->Prop} {ts tu:TS} {te ty tx:TE} {i:Nat} {σ σ2:St} {H H' H2:Hp}
theorem oE {Ds:List DY} (g:Same (hide H f) (hide H' f)) (hn:∀ D∈Ds,H D=none):Same (hide H f) (hide H' (f.withs Ds)):=fun b o hb=>by
 have hb1:=g b o hb;refine zC (fun z=>?_) (zI hb1).2;rcases z with z | z
 ·exact (zI hb1).1 (.inl z)
 ·rcases En.mp z with z | z
  ·have:=(zI hb).2;rw [hn b (Gb.mp z)] at this;cases this
  ·exact (zI hb1).1 (.inr z)
end
section
variable {P:Program} {w:World} {A:Around} {E:Value->Shared->Prop} {s:Shared} {I d:DY} {o:Obj} {es:Array DictEntry} {ep i:Nat}
theorem cX {Q:Value->Shared->Prop} (nd:(d == sysModules)=false) (g:s.heap.get? d=some o) (x:o.ExactDict) (y:o.data=.dict es ep)
  (q:Q (.ref s.heap.objs.size) { s with heap:=s.heap.push { cls:=.type "dict_keyiterator",data:=.fields #[.ref d,.int 0 0,.int es.size 0,.int ep 0] } }):Eo (model P w) A (pyIter (.ref d)) Q E s:=by
 have T:s.TypeIs (.ref d) "dict":=⟨o,g,x.1⟩;refine wpAny_pyIter_slot T Iv (wpAny_call_entry Iv T PySem.F.entry_dict_iter ?_ (PySem.F.args_dict_iter_1 _));unfold Builtin.«dict.__iter__» Builtin.Dict.dictSlotNone Builtin.Dict.showsAll;apply DR;apply DR;apply wpAny_notOrdered_dict T;apply D3;apply DR;refine D3 (a:=d) ?_;apply DR;rw [Jx (fun z=>DX (nd.symm.trans z))];apply D3;apply DR;apply wpAny_dictEntries g y;apply DR;apply wpAny_dictEpoch g y;apply DR;refine wpAny_newObj_type ?_ (by size_fits);exact D3 ⟨_,rfl, "dict_keyiterator",_,⟨_,El _ rfl,rfl⟩,Gi.lookup,q⟩
theorem vC {Q:Option Value->Shared->Prop} (hh:A.handled=none) (t:s.heap.IsKeyIter I d i es.size ep) (g:s.heap.get? d=some o) (y:o.data=.dict es ep)
  (q1:∀ e h',es[i]?=some e->h'.IsKeyIter I d (i+1) es.size ep->F4 I s.heap h'->Q (some e.key) { s with heap:=h' })
  (q2:es[i]?=none->∀ h',Heap.ExtBut I s.heap h'->Q none { s with heap:=h' }):Eo (model P w) A (pyNext (.ref I)) Q E s:=by
 obtain⟨oi,gi,ci,di⟩:=id t;have T:=t.typeIs;have own:Builtin.Dict_items.ownsTuple "dict_keyiterator"=false:=by decide
 have nn:¬ ((Value.ref d == Value.none)=true):=DX;have pos:¬ ((i:Int)<0):=by omega
 unfold pyNext;apply DR;apply IX;refine wpAny_callSpecial?_slot (name:=Str.ofString "__next__") T Gi (wpAny_call_entry Gi T PySem.F.entry_dict_keyiterator_next ?_ (PySem.F.args_dict_keyiterator_next_1 _));apply DR;apply D3;apply DR;apply DR;apply DR;apply wpAny_typeNameOfWhole_keyiter T;apply D3;apply DR;apply wpAny_fieldsOf gi di;simp only [own,EK,if_false];show Eo _ _ (if (Value.ref d == Value.none)=true then _ else _) _ _ s;rw [Jx nn];apply DR;apply D3;apply DR;apply wpAny_dictEntries g y;rw [Jx (by simp)];apply DR;apply D3;apply DR;apply wpAny_dictEpoch g y;rw [Jx (by simp)];apply D3;cases hx:es[i]? with
 | some e =>
  simp only [pos,if_false,FF,hx];apply DR;apply DR;apply wpAny_typeNameOfWhole_keyiter T;apply D3;apply DR;apply wpAny_isOneOf_keyiter T;apply DR (m:=setField (.ref I) 1 (rawInt ((i:Int)+1)));refine wpAny_setField gi di (by simp) ?_;have t':(s.heap.update I (Obj.mapFields (·.setIfInBounds 1 (rawInt ((i:Int)+1))))).IsKeyIter I d (i+1) es.size ep:=by
   refine⟨_,Gj _ gi (Obj.isFreed_of_fields (Obj.data_mapFields di _)),?_,?_⟩
   ·rw [Obj.cls_mapFields];exact ci
   ·rw [Obj.data_mapFields di];simp [rawInt]
  apply DR;apply EM;apply DR;refine wpAny_isOneOf_keyiter (s:={ s with heap:=s.heap.update I (Obj.mapFields (·.setIfInBounds 1 (rawInt ((i:Int)+1)))) }) t'.typeIs ?_;exact D3 (D3 ⟨_,rfl,D3 (q1 e _ hx t' (Gx ..))⟩)
 | none =>
  simp only [pos,if_false,FF,hx];apply DR;apply DR;apply wpAny_typeNameOfWhole_keyiter T;apply D3;apply DR (m:=setField (.ref I) 0 .none);refine wpAny_setField gi di (by simp) ?_;apply DR (m:=newExc (.type "StopIteration") []);simp only [newExc,newTuple];apply DR;refine wpAny_newObj_type ?_ (by size_fits);apply DR (m:=firstArgMember _ _);refine wpAny_of_eq (a:=Value.none) rfl ?_;refine wpAny_newObj_type ?_ (by size_fits);simp only [raiseNew];apply DR;apply wpAny_handled;rw [show A.in1.handled=none from hh];refine DR (D3 ?_);apply wpAny_throw;apply DR;refine Io (T:="StopIteration") (b:=true) ⟨_,El _ rfl,rfl⟩ isSubtype_stop ?_;exact D3 (q2 hx _ (((Gx ..).extBut.push _).push _))
end
section
variable {P:Program} {w:World} {A:Around} {E:Value->Shared->Prop} {s:Shared} {d:DY} {o:Obj} {es:Array DictEntry} {ep:Nat}
theorem oF (hh:A.handled=none) (I:DY) (ne:d≠I) (y:o.data=.dict es ep) :
  Walks P w A I [I,d] [I] es.size (fun i v=>∃ e,es[i]?=some e/\v=e.key) (fun i h=>h.IsKeyIter I d i es.size ep/\h.get? d=some o) where
 sub:=fun b hb=>by rw [Ej.mp hb];exact D4 ..
 frame:=fun i h h' ⟨t,g⟩ k=>⟨t.at (k I (D4 ..)),k d (DW _ (D4 ..)) o g⟩
 item:=fun i s Q E hi ⟨t,g⟩ q=>vC hh t g y (fun e h' he t' sb=>q e.key h' s.toks ⟨e,he,rfl⟩ ⟨t',(sb.2 d ne).trans g⟩ fun b u hb hu=>(sb.2 b fun z=>hb (by rw [z];exact D4 ..)).trans hu) fun z=>by
  rw [Gm hi] at z;cases z
 done:=fun s Q E ⟨t,g⟩ q=>vC hh t g y (fun e h' he=>by
  rw [Hl (D8 _)] at he;cases he) fun _ h' eb=>q h' s.toks fun b u hb hu=>eb b u (fun z=>hb (by rw [z];exact D4 ..)) hu
 self:=fun i s Q E st q=>wpAny_pyIter_keyiter st.1 q
theorem sW (nd:(d == sysModules)=false) (x:o.ExactDict) (y:o.data=.dict es ep):PySem.W.KdlSrc P w "dict" d d es.size (fun i v=>∃ e,es[i]?=some e/\v=e.key) (fun h=>h.get? d=some o) where
 type:=fun s g=>⟨o,g,x.1⟩
 there:=fun h g=>⟨Ea g,Ea g⟩
 keep:=fun h h' g k=>k d (.inl rfl) o g
 notList:=rfl
 notTuple:=rfl
 hint:=fun A E s Q g q=>PySem.W.kdl_hint_dict ⟨o,g,x.1⟩ q
 iter:=fun A s hh g=>⟨_,_,fun E Q q=>cX nd g x y q,oF hh _ (EE (Ea g)) y,⟨_,El _ rfl,rfl,rfl⟩,D6 _ g⟩
theorem bQ {vs:List Value} {κ:SortKind} {lt:Nat->Nat->Bool} {Q:Value->Shared->Prop} (hh:A.handled=none) (nd:(d == sysModules)=false) (g:s.heap.get? d=some o) (x:o.ExactDict) (y:o.data=.dict es ep) (ev:vs=es.toList.map (·.key)) (hz:vs.length<=EJ)
  (K:∀ tk,Asks P w A.in1.in1 { s with toks:=tk } κ vs lt)
  (q:∀ (h':Heap) tk D p c,Pm vs.length p->Up lt p vs.length->(∃ h1:Heap,(∀ b u,s.heap.get? b=some u->h1.get? b=some u)/\h1.objs.size<=D)->(∀ b u,s.heap.get? b=some u->h'.get? b=some u)->h'.get? D=some (seqObj "list" (p.toList.map fun i=>vs.getD i Value.none).toArray c)->Q (.ref D) { s with heap:=h',toks:=tk }) :
  Eo (model P w) A (call (.builtin "sorted") [.ref d]) Q E s:=by
 have hn:es.size<=EJ:=by rw [ev,DS,Ek] at hz;exact hz
 refine HU kind_sorted plain_sorted entry_sorted (args_sorted1 _) ?_;unfold Builtin.«sorted»;apply DR (m:=checkCount "sorted" 1 1 _);apply D3;apply DR;refine PySem.W.kdu_collect (A:=A.in1) (sW nd x y) hh g hn fun h1 tk acc k1 hacc=>?_;have ea:acc.toList=vs:=by
  rw [ev];refine FQ fun i=>?_;rw [D7,Ft,Ft];by_cases hi:i<acc.size
  ·obtain⟨e,he,hv⟩:=hacc.2 i _ (Gm hi);rw [Gm hi,he,hv];rfl
  ·rw [Hl (by omega),Hl (by rw [<-hacc.1];omega)];rfl
 rw [ea]
 let h2':=h1.push (seqObj "list" vs.toArray 0)
 have at2:h2'.get? h1.objs.size=some (seqObj "list" vs.toArray 0):=El _ rfl;have keep:∀ b u,s.heap.get? b=some u->b≠h1.objs.size/\h2'.get? b=some u:=fun b u eb =>
  ⟨EE (Ea (k1 b u eb)),D6 _ (k1 b u eb)⟩
 apply DR;refine wpAny_newList ?_ hz
 change Eo _ _ _ _ _ { s with heap:=h2',toks:=tk }
 apply DR;apply EM;refine wpAny_call_entry slot_list_sort ⟨_,at2,rfl⟩ entry_list_sort ?_ (args_list_sort _);refine mn (s:={ s with heap:=h2',toks:=tk }) hz at2 (h0:=s.heap) keep (K tk) fun h' p c x1 x2 x3 x4=>⟨_,rfl,D3 ⟨_,rfl,?_⟩⟩;exact q h' tk _ p c x1 x2 ⟨h1,k1,D8 _⟩ (fun b u eb=>x3 b u (keep b u eb).1 (keep b u eb).2) x4
end
def k6 (w:World) (K:DT):List V->Hp->VK->Prop:=fun xs H Q=>∃ (a:DY) (es:List (PyData×DY×Value)) (T:String),xs=[.ref a]/\H a=some (DicO w a es)/\qx K H es/\SortOk T (es.map (·.1))/\es.length<64 /\
 ∀ l p,H l=none->Pm es.length p->Up (fun i j=>ltD ((es.map (·.1)).getD i .none) ((es.map (·.1)).getD j .none)) p es.length->Q (.ref l) (upd H l (.lst (pick .non p (es.map fun x=>.ref x.2.1))))
theorem bp {K:DT} {H:Hp}:∀ {es:List (PyData×DY×Value)},qx K H es->Reps K H (es.map (·.1)) (es.map fun x=>V.ref x.2.1)
 | [],_=>.nil'
 | x :: es,h=>.cons' (h x (D4 ..)).2 (bp fun z hz=>h z (DW _ hz))
theorem bq:∀ es:List (PyData×DY×Value),Vals (es.map fun x=>V.ref x.2.1) (es.map fun x=>Value.ref x.2.1)
 | []=>.nil
 | x :: es=>.cons rfl (bq es)
theorem k7 {X:Cx} (hc:X.calm=true) (hu:X.A.units+64<E1):yT X (.builtin "sorted") (k6 X.w X.K):=by
 intro Jw s σ H xs us Q I r h;obtain⟨a,es,T,rfl,hS,ks,ok,few,q⟩:=h;obtain⟨u,rfl,rx⟩:=vals1 r;cases rx;obtain⟨⟨o,es',ep,S⟩,_⟩:=I.hok a _ hS;obtain⟨as,ra⟩:=jJ I _ _ _ (bp ks) (bq es);have e2:X.A.in1.in1.units=X.A.units+1+1:=rfl;have ev:(es.map fun x=>Value.ref x.2.1)=es'.toList.map (·.key):=by
  rw [S.el,EA];rfl
 have lm:(es.map fun x=>Value.ref x.2.1).length=es.length:=DS _;have lm2:(es.map (·.1)).length=es.length:=DS _;refine bQ (I.ok.hd hc) S.ns S.ob S.ex S.da ev (by rw [lm];exact Fj (yg (by omega))) (fun tk=>mC (s:={ s with toks:=tk }) ra ok (by omega) (.inl (by rw [lm2];exact few))) fun h' tk D p c x1 x2 x3 x4 x5=>?_;rw [lm] at x1 x2;obtain⟨h1,k1,l1⟩:=x3;have hD:H D=none:=(I.hok.kept k1).fresh l1;have x3:∀ b u,s.heap.get? b=some u->b≠D:=fun b u e=>EE (Es (Ea (k1 b u e)) l1);have lp:p.toList.length=es.length:=by rw [Ek];exact x1.size
 obtain⟨m,hm,_⟩:=I.loc;refine⟨.ref D,upd H D (.lst (pick .non p (es.map fun x=>.ref x.2.1))),I.laidL (t':=tk) (fun b u _ e=>x4 b u e) ?_ (fun m hm=>hm.keeps x4) x3 hD ⟨by unfold pick;rw [DS];exact Fj (yg (by omega)),_,c,eI (bq es) p,x5⟩,rfl,q D p hD x1 x2⟩;obtain⟨o2,g2⟩:∃ o2,s.heap.get? X.env.locals=some o2:=let⟨u,_,_,hu,_⟩:=hm;⟨u,hu⟩
 exact⟨o2,x4 _ _ g2⟩
theorem iL {X:Cx} {K:DT} {w:World} (hc:X.calm=true) (hw:X.w=w) (hK:X.K=K) (hu:X.A.units+64<E1):yT X (.builtin "sorted") (k6 w K):=hw▸hK▸k7 hc hu
def xZ (w:World) (K:DT) (tk tv:TE):TE:=fun σ H Q=>∀ p,H p=none->tk σ (upd H p (DicO w p [])) fun kx H1=>tv σ H1 fun vx H2=>b8 w K (.ref p) kx vx H2 fun H3=>Q (.ref p) H3
theorem iM {X:Cx} (hu:X.A.units+64<E1):OpR X (E8 .NotIn) (kZ X.w X.K true):=by
 intro Jw s σ H x y v u Q I rx ry h;obtain⟨a,b,d,xs,rfl,rfl,hS,ks,kd,rd,q⟩:=h;cases rx;cases ry;obtain⟨hm,ns⟩:=fR I hS ks;have hu1:X.A.in1.units=X.A.units+1:=rfl;exact wpAny_notIn_heap (by show _+40<E1;omega) (jO I kd rd) ns hm ⟨.bl _,H,I.tok _,rfl,q⟩
theorem fS {X:Cx} {K:DT} {w:World} (hw:X.w=w) (hK:X.K=K) (hu:X.A.units+64<E1):OpR X (E8 .NotIn) (kZ w K true):=hw▸hK▸iM hu
theorem wy {X:Cx} {w:World} {K:DT} {pos:Pos} {k v:Expr} {tk tv:TE} (hw:X.w=w) (hK:X.K=K) (hu:X.A.units+64<E1) (hk:PE X k tk) (hv:PE X v tv):PE X (.Dict [some k] [v] pos) (xZ w K tk tv):=by
 subst hw hK;intro Jw s σ H Q I h;refine wpAny_Dict_any rfl rfl (by simp) (EH rfl) ?_;have I0:=I.laid (a:=s.heap.objs.size) (t':=s.toks) (fun _ _ q=>D6 _ q) (D8 _) (DicO.ok (xs:=[]) (o:={ cls:=.type "dict",data:=.dict #[] }) (es:=#[]) (ep:=0) ⟨El _ rfl,⟨rfl,rfl,rfl⟩,rfl,rfl,FC,beq_eq_false_iff_ne.mpr (Gv (EE (mT I)))⟩);refine pairTrees_cons_walk (thn (hk Jw _ σ _ _ I0 (h _ (I.hok.fresh (D8 _)))) fun kv s1 ⟨kx,H1,I1,r1,q1⟩=>?_);refine thn (hv Jw s1 σ H1 _ I1 q1) fun vv s2 ⟨vx,H2,I2,r2,q2⟩=>?_;refine pairTrees_nil_walk ?_;obtain⟨a,b,d,xs,ea,rfl,hS,ks,kd,rd,hl,q⟩:=q2;cases ea;cases r1;obtain⟨hm,ns⟩:=fR I2 hS ks;unfold storeAll;rw [FT];refine DR (DR (wpAny_dictSet_heap (by show _+40<E1;omega) (jO I2 kd rd) hm (fun h' hm' sb=>?_) (Fj (yg hl))));refine D3 ?_;show Eo _ _ (forIn [] _ _) _ _ _;rw [Gg];refine D3 ?_;obtain⟨o',es',ep',x1,x2,x3,x4,x5,x6⟩:=hm';exact⟨.ref _,_,I2.write (t':=s2.toks+yh d) (x:=s.heap.objs.size) (e:=s.heap.objs.size) (by rw [hS];exact trivial) (.inl rfl) (fun b u nb e=>(sb.2 b nb).trans e) ⟨o',x1⟩ (DicO.ok ⟨x1,x2,x3,x4,x6,ns⟩),rfl,q _ r2⟩
section
variable {w:World} {K:DT} {f:Fx} {Ds:List DY} {ρ:zq} {cs:List OC} {te tk tv:TE} {O:MEnds} {i j n:Nat} {kvs:List (PyData×PyData)}
theorem CQ {es:List PyData} {d:PyData} (hi:ρ[i]?=some (some (.own (f.M.length+j)))) (hc:cs[j]?=some (.lst (es++[d]))) (h:O.nx (ρ.set n (some (.dat d))) (cs.set j (.lst es))):PSm w K f Ds (qe (Cn K "list" Co (yD i)) (yS n)) ρ cs O:=fun se σ H H2 E x nn r b k=>by
 have hj:j<Ds.length:=by rw [<-x.len];exact (DU.mp hc).1
 have hD:Ds[j]?=some Ds[j]:=DQ hj;obtain⟨vs,h0,rs⟩:=x.own j _ _ hD hc;obtain⟨vs',v,rfl,rs',rv⟩:∃ vs' v,vs=vs'++[v]/\Reps K (hide H (f.withs Ds)) es vs'/\Rep K (hide H (f.withs Ds)) d v:=by
  have key:∀ (es:List PyData) (vs:List V),Reps K (hide H (f.withs Ds)) (es++[d]) vs->∃ vs' v,vs=vs'++[v]/\Reps K (hide H (f.withs Ds)) es vs'/\Rep K (hide H (f.withs Ds)) d v:=fun es=>by
   induction es with
   | nil =>
    intro vs q;obtain⟨v,vs',rfl,r1,r2⟩:=zH.mp q;rw [zP.mp r2];exact⟨[],v,rfl,.nil',r1⟩
   | cons e es ih =>
    intro vs q;obtain⟨v,vs',rfl,r1,r2⟩:=zH.mp q;obtain⟨us,z,rfl,r3,r4⟩:=ih vs' r2;exact⟨v :: us,z,rfl,.cons' r1 r3,r4⟩
  exact key es vs rs
 refine⟨_,jF hi x hD,Or.inl ⟨rfl,_,.of h0⟩,Ds[j],vs'++[v],v,rfl,rfl,h0,by simp,?_⟩;rw [List.dropLast_concat];have x1:=x.put se hD (o:=.lst vs') (c':=.lst es) ⟨vs',zy,rs'⟩;have hm:=D9 hD;refine nn _ _ _ _ ⟨x1.env.set n (x:=.dat d) ?_,x1.sm,x1.kp,x1.len,x1.own⟩ h;show Rep K (hide (upd H Ds[j] (.lst vs')) (f.withs Ds)) d v;rw [yk hm];exact rv
theorem wz {neg:Bool} {B:Bool->Prop} (hi:ρ[i]?=some (some (.own (f.M.length+j)))) (hc:cs[j]?=some (.dic kvs)) (h:PEm w K f Ds te ρ cs fun d=>bP d/\B (if neg then !decide (d∈kvs.map (·.1)) else decide (d∈kvs.map (·.1)))) :
  PTm w K f Ds (gT (tOp (kZ w K neg) te (yD i))) ρ cs B:=fun se σ H H2 Q x q=>by
 have hj:j<Ds.length:=by rw [<-x.len];exact (DU.mp hc).1
 have hD:Ds[j]?=some Ds[j]:=DQ hj;refine h se σ H H2 _ x fun d v H1 g1 r1 ⟨kd,p⟩=>?_;have x1:=x.go g1 (x.env.mono g1);obtain⟨b,rfl⟩:=qk kd r1;obtain⟨xs,h1,h2⟩:=x1.own j _ _ hD hc;refine⟨_,jF hi x1 hD,Ds[j],b,d,xs,rfl,rfl,h1,fun z hz=>⟨(yO h2 z hz).1,Rep.mono (zf _ _) _ _ (yO h2 z hz).2⟩,kd.1,Rep.mono (zf _ _) _ _ r1,_,rfl,?_⟩;have:(atKey xs d).isSome=decide (d∈kvs.map (·.1)):=by
  rcases vB d h2 with⟨a1,_,a3⟩ | ⟨p',_,_,a1,_,_,_,a3⟩
  ·rw [a1,decide_eq_false a3];rfl
  ·rw [a1,decide_eq_true a3];rfl
 rw [this];exact q _ H1 g1 p
theorem wA {P:OC->Prop} (h:∀ p,PEd K (f.with p) tk ρ fun k=>bP k/\PEd K (f.with p) tv ρ fun v=>P (.dic [(k,v)])):fO w K f (xZ w K tk tv) ρ P:=fun σ H Q e q p hp=>by
 have np:=fresh_ne e.fd hp;have e0:EnvOk K (f.with p) ρ σ (upd H p (DicO w p [])):=kP e hp;have top:(upd H p (DicO w p [])) p=some (DicO w p []):=zy;refine h p σ _ _ e0 fun k kx H1 g1 r1 ⟨kt,h2⟩=>h2 σ H1 _ (e0.mono g1) fun v vx H2 g2 r2 pv=>?_;obtain⟨b,rfl⟩:=qk kt r1;have g12:=g1.trans g2;have hp2:H2 p=some (DicO w p []):=(g12.kp p (D4 ..)).trans top;have rk:=Rep.mono g2.sm _ _ r1;refine⟨p,b,k,[],rfl,rfl,hp2,(fun z hz=>nomatch hz),kt.1,Rep.mono (zf _ _) _ _ rk,EI _,fun u ru=>?_⟩;have hw:hide (upd H2 p (DicO w p (storedH [] k b u))) (f.with p)=hide H2 (f.with p):=yE;have fo:FOk f (upd H2 p (DicO w p (storedH [] k b u))):=by
  have fo2:=g12.ok;refine⟨fun c ec=>?_,fun c hc=>?_,fun c ec hc=>fo2.nm c ec (DW _ hc)⟩
  ·obtain⟨a1,a2,a3,a4⟩:=fo2.fd c ec;exact⟨a1,a2,by rw [zu (fun (z:c=p)=>np (.inl (z▸ec)))];exact a3,a4⟩
  ·obtain⟨o,ho⟩:=fo2.mm c (DW _ hc);exact⟨o,by rw [zu (fun (z:c=p)=>np (.inr (z▸hc)))];exact ho⟩
 have sm:Same (hide H f) (hide (upd H2 p (DicO w p (storedH [] k b u))) (f.with p)):=by
  rw [hw];exact (qh hp).trans g12.sm
 refine q (.dic [(k,v)]) p _ ⟨sm.trans yH,fo,fun c hc=>?_⟩ hp ⟨_,zy,?_⟩ pv
 ·have ncp:c≠p:=fun z=>np (.inr (z▸hc));rw [zu ncp,g12.kp c (DW _ hc),zu ncp]
 ·rw [hw];exact mX (xs:=[]) (kvs:=[]) kt.1 rk r2 ru .nil
abbrev Bl (K:DT):List V->Hp->VK->Prop:=fun xs H Q=>∃ p ys,xs=[V.ref p]/\((SqL K H p ys/\∀ l,H l=none->Q (V.ref l) (upd H l (HO.tup ys))) \/ (SqT K H p ys/\Q (V.ref p) H))
theorem Bm {P:PyData->Prop} (T:String) (hi:ρ[i]?=some (some (.own (f.M.length+j)))) (hc:cs[j]?=some (.dic kvs)) (ok:SortOk T (kvs.map (·.1))) (few:kvs.length<64) (h:∀ es,es.Perm (kvs.map (·.1))->(es.Pairwise fun d e=>ltD d e=true)->P (.tuple es)) :
  PEm w K f Ds (tCB (Bl K) (yK (tCB (k6 w K) (yK (yD i) qM)) qM)) ρ cs P:=fun se σ H H2 Q x q=>by
 have hj:j<Ds.length:=by rw [<-x.len];exact (DU.mp hc).1
 have hD:Ds[j]?=some Ds[j]:=DQ hj;obtain⟨xs,h1,h2⟩:=x.own j _ _ hD hc;have ek:xs.map (·.1)=kvs.map (·.1):=by
  have key:∀ {xs:List (PyData×DY×Value)} {kvs:List (PyData×PyData)},Paired (EntR K (hide H (f.withs Ds))) xs kvs->xs.map (·.1)=kvs.map (·.1):=fun {xs kvs} t=>by
   induction t with
   | nil=>rfl
   | cons a _ ih=>rw [Ez,Ez,ih,a.1]
  exact key h2
 have el:=b9 h2;have ko:=yO h2;refine⟨_,jF hi x hD,Ds[j],xs,T,rfl,h1,fun z hz=>⟨(ko z hz).1,Rep.mono (zf _ _) _ _ (ko z hz).2⟩,by rw [ek];exact ok,by rw [el];exact few,fun l p hl pm up=>?_⟩;have nl:=fresh_ne x.env.fd hl;have g1:Goes (f.withs Ds) H (upd H l (.lst (pick .non p (xs.map fun z=>.ref z.2.1)))):=.of_same (yc hl _) x.env.fd;refine⟨l,_,rfl,.inl ⟨.inl (.inl zy),fun l2 hl2=>?_⟩⟩;have g2:Goes (f.withs Ds) (upd H l (.lst (pick .non p (xs.map fun z=>.ref z.2.1)))) (upd (upd H l (.lst (pick .non p (xs.map fun z=>.ref z.2.1)))) l2 (.tup (pick .non p (xs.map fun z=>.ref z.2.1)))):=.of_same (yc hl2 _) g1.ok;have rr:Reps K (hide H (f.withs Ds)) (pick .none p (xs.map (·.1))) (pick .non p (xs.map fun z=>.ref z.2.1)):=eJ (bp ko) p;have pr:(pick .none p (xs.map (·.1))).Perm (xs.map (·.1)):=eK pm (by rw [DS]);have pu:=mG (ds:=xs.map (·.1)) pm (fun a b hab hb=>up a b hab hb);refine q (.tuple (pick .none p (xs.map (·.1)))) _ _ (g1.trans g2) (zZ.mpr ⟨l2,_,rfl,.of (zC (fresh_ne g1.ok hl2) zy),Reps.mono (g1.trans g2).sm _ _ rr⟩) (h _ ?_ pu);rw [<-ek];exact pr
end
section
variable {K:DT} {f:Fx} {ρ:zq} {ts tu:TS} {O:DEnds} {te:TE} {i:Nat}
theorem cY (J:zq->Prop) (h1:PSd K f ts ρ { O with nx:=J }) (h2:∀ ρ',J ρ'->PSd K f tu ρ' O):PSd K f (qt ts tu) ρ O :=
 zT fun σ H E e n r b k=>h1 σ H E e (fun ρ' σ' H' g' e' p=>n ρ' σ' H' g' e' (h2 ρ' p)) r b k
theorem sX {w:World} {Ds:List DY} {cs:List OC} {O:MEnds} (J:zq->List OC->Prop) (h1:PSm w K f Ds ts ρ cs { O with nx:=J }) (h2:∀ ρ' cs',J ρ' cs'->PSm w K f Ds tu ρ' cs' O):PSm w K f Ds (qt ts tu) ρ cs O :=
 sP fun se σ H H2 E x n r b k=>h1 se σ H H2 E x (fun ρ' cs' σ' H' x' p=>n ρ' cs' σ' H' x' (h2 ρ' cs' p)) r b k
end
section
variable {K:DT} {f:Fx} {ρ:zq} {wi:TI} {g:TG} {tt:TT} {own:Nat} {fr:List Nat} {tb:DY->TB} {P:List PyData->Prop}
theorem v3 {α:Type} {A B:α->PyData} (p:α->Bool) (xs:List α) (h:PId K f wi ρ fun ds=>ds=xs.map A/\xs.length<=1000 /\
   (∀ D x ρ' es,x∈xs->OwnE own (frD fr ρ) ρ'->es.length<1000->PGd K (f.with D) g (A x) ρ' fun ρ2=>PTd K (f.with D) tt ρ2 fun b=>b=p x/\if b=true then PBd K f D (tb D) ρ2 es fun ρ3 es3=>OwnE own (frD fr ρ) ρ3/\es3=es++[B x] else OwnE own (frD fr ρ) ρ2)/\P ((xs.filter p).map B)) :
  PEdO K f (qD wi own fr g tt tb) ρ P :=
 fu (h.imp fun ds ⟨ed,hl,hs,hp⟩=>by
  subst ed;refine⟨fun i ρ' es=>OwnE own (frD fr ρ) ρ'/\es=((xs.take i).filter p).map B,⟨⟨GU own none,by simp,rfl⟩,by simp⟩,fun D i d ρ' es hd ⟨ho,he⟩=>?_,fun ρ' es ⟨_,he⟩=>?_⟩
  ·rw [D7] at hd;cases eq:xs[i]? with
   | none=>rw [eq] at hd;cases hd
   | some x =>
    rw [eq] at hd;cases hd;have hi:i<xs.length:=(DU.mp eq).1;have tk:xs.take (i+1)=xs.take i++[x]:=by rw [EZ,eq];rfl
    have hb:es.length<1000:=by
     have:=Fb p (xs.take i);rw [EL] at this;rw [he,DS];omega
    intro σ H v Q e r q;refine hs D x ρ' es (D9 eq) ho hb σ H v Q e r fun ρ2 σ2 H2 g2 e2 p2=>q ρ2 σ2 H2 g2 e2 (p2.imp fun b hb2=>?_);obtain⟨eb,hb2⟩:=hb2;cases b with
    | false =>
     rw [Jx DX] at hb2 ⊢;refine⟨hb2,?_⟩;rw [tk,HS,Ey,Gd,<- eb,Jx DX,he];simp
    | true =>
     rw [Jy rfl] at hb2 ⊢;intro h1 h2 σ3 H3 H4 W c k;exact hb2 h1 h2 σ3 H3 H4 W c fun ρ5 es5 σ5 H5 c5 ⟨o5,p5⟩=>k ρ5 es5 σ5 H5 c5 ⟨o5,by rw [p5,he,tk,HS,Ey,Gd,<- eb,Jy rfl];rfl⟩
  ·rw [he,DS,E6];exact hp)
end
end L2
end
section
namespace L2
open PySem PySem.Spec PyProof.Rows
def k8 (w:World) (K:DT) (kvs:List (PyData×PyData)):Hp->V->Prop:=fun Hh v=>∃ a xs,v=.ref a/\Hh a=some (DicO w a xs)/\Paired (EntR K Hh) xs kvs
def PEv (K:DT) (f:Fx) (te:TE) (ρ:zq) (P:DV->Prop):Prop:=∀ (σ:St) (H:Hp) (Q:VK),EnvOk K f ρ σ H->(∀ x v H',Goes f H H'->RepV K f H' x v->P x->Q v H')->te σ H Q
def spV {γ:Type} (K:DT) (n:Nat) (pre:γ->List DV->Prop) (post:γ->DV->Prop):Sp:=fun vs H Q _=>∃ f xs c,RepVs K f H xs vs/\xs.length=n/\FOk f H/\pre c xs/\∀ r v H',Goes f H H'->RepV K f H' r v->post c r->Q v H'
def PSv (K:DT) (f:Fx) (ts:TS) (ρ:zq) (R:DV->Prop):Prop:=∀ (σ:St) (H:Hp) (E:Ends),EnvOk K f ρ σ H->(∀ x v H',Goes f H H'->RepV K f H' x v->R x->E.rt v H')->ts E σ H
def wB (w:World) (K:DT) (f:Fx) (Ds:List DY) (ts:TS) (ρ:zq) (cs:List OC) (j:Nat) (R:OC->Prop):Prop:=Sep f Ds->∀ (σ:St) (H H2:Hp) (E:Ends),CM w K f Ds H2 ρ cs σ H ->
 (∀ D c ρ' cs' σ' H',CM w K f Ds H2 ρ' cs' σ' H'->Ds[j]?=some D->cs'[j]?=some c->R c->E.rt (.ref D) H')->ts E σ H
section
variable {w:World} {K:DT} {f:Fx} {ρ:zq} {Ds:List DY} {cs:List OC} {te ta tk:TE} {ts tu:TS} {t:TA} {O:DEnds} {i j:Nat} {R:OC->Prop}
theorem v_var {P:DV->Prop} {x:DV} (h:ρ[i]?=some (some x)) (p:P x):PEv K f (yD i) ρ P:=fun σ H Q e q=>by
 obtain⟨v,h1,h2⟩:=e.get i x h;exact⟨v,h1,q x v H (.refl e.fd) h2 p⟩
theorem fT {P:DV->Prop} {γ:Type} {n:Nat} {pre:γ->List DV->Prop} {post:γ->DV->Prop} {E:XK} (c:γ) (h:PAd K f t ρ fun xs=>xs.length=n/\pre c xs/\∀ r,post c r->P r):PEv K f (dZ (spV K n pre post) [] E t) ρ P:=fun σ H Q e q =>
 h σ H _ e fun xs vs H1 g1 r1 ⟨hl,hp,k⟩=>⟨f,xs,c,by rw [EO];exact r1,hl,g1.2,hp,fun r v H' g' r' p'=>q r v H' (g1.trans g') r' (k r p')⟩
theorem fU (h:PEv K f te ρ fun x=>O.nx (ρ.set i (some x))):PSd K f (qe te (yS i)) ρ O:=fun σ H E e n r b k =>
 h σ H _ e fun x v H1 g1 r1 p=>n _ _ H1 g1 ((e.mono g1).set i (x:=x) r1) p
theorem CS {P:PyData->Prop} (h:PEv K f ta ρ fun x=>∃ kvs,x=.mon (k8 w K kvs)/\PEd K f tk ρ fun k=>bP k/\∃ d,qy k kvs=some d/\P d):PEd K f (tOp (kY w K) ta tk) ρ P:=fun σ H Q e q =>
 h σ H _ e fun x v H1 g1 r1 ⟨kvs,ex,h2⟩=>h2 σ H1 _ (e.mono g1) fun k kv H2 g2 r2 ⟨kt,d,hd,p⟩=>by
  subst ex;obtain⟨b,rfl⟩:=qk kt r2;obtain⟨a,xs,rfl,h3,h4⟩:=(RepV.mono g2 r1:RepV K f H2 (.mon (k8 w K kvs)) v) (hide H2 f) (Same.refl _);rcases vB k h4 with⟨_,a2,_⟩ | ⟨p',d',v',a1,a2,a3,a4,_⟩
  ·rw [hd] at a2;cases a2
  ·rw [hd] at a2;cases a2;exact⟨a,b,k,xs,p',v',rfl,rfl,(zI h3).2,fun z hz=>⟨(yO h4 z hz).1,Rep.mono (zf _ _) _ _ (yO h4 z hz).2⟩,kt.1,Rep.mono (zf _ _) _ _ r2,a1,a4,q d v' H2 (g1.trans g2) a3 p⟩
theorem Bn (h:PSm w K f Ds ts ρ cs { nx:=fun ρ' cs'=>wB w K f Ds tu ρ' cs' j R,rt:=fun _=>False }):wB w K f Ds (qt ts tu) ρ cs j R:=fun se σ H H2 E x q =>
 h se σ H H2 _ x (fun ρ' cs' σ' H' x' p=>p se σ' H' H2 E x' q) (fun _ _ _ _ _ _ _ _ z=>z.elim) (fun _ _ _ _ _ z=>z.elim) (fun _ _ _ _ _ z=>z.elim)
theorem Bo {c:OC} (hi:ρ[i]?=some (some (.own (f.M.length+j)))) (hc:cs[j]?=some c) (h:R c):wB w K f Ds (gO (yD i)) ρ cs j R:=fun se σ H H2 E x q=>by
 have hj:j<Ds.length:=by rw [<-x.len];exact (DU.mp hc).1
 have hD:Ds[j]?=some Ds[j]:=DQ hj;exact⟨_,jF hi x hD,q _ c ρ cs σ H x hD hc h⟩
theorem Bp {R:DV->Prop} (h:fO w K f te ρ fun c=>i<ρ.length/\∀ D,wB w K f [D] ts (ρ.set i (some (.own (f.M.length+0)))) [c] 0 fun c=>∃ kvs,c=.dic kvs/\R (.mon (k8 w K kvs))):PSv K f (qt (qe te (yS i)) ts) ρ R:=fun σ H E e q=>by
 have se0:Sep f []:=⟨FC,(fun _ z=>nomatch z),(fun _ z=>nomatch z)⟩;have x0:CM w K f [] H ρ [] σ H:=⟨e,Same.refl _,fun _ _=>rfl,rfl,(fun i D c z=>nomatch z)⟩;refine h σ H _ e fun c D H1 g1 hn ho ⟨hi,p⟩=>?_;have nD:=fresh_ne e.fd hn;refine p D (se0.more e.fd hn) _ H1 H1 E (x0.more g1 hn ho hi) fun D' c' ρ' cs' σ' H' y h1 h2 ⟨kvs,ec,r⟩=>?_;cases h1;subst ec;have z:=x0.less g1 hn y;obtain⟨xs,h3,h4⟩:=y.own 0 D _ rfl h2;exact q (.mon (k8 w K kvs)) _ H' ⟨z.sm,z.env.fd,z.kp⟩ (fun H'' s=>⟨D,xs,rfl,s D _ (zC nD h3),EntR.mono (yn.trans s) h4⟩) r
end
theorem oH (k v:PyData) (kvs:List (PyData×PyData)):qy k (dput k v kvs)=some v:=by
 unfold dput qy;by_cases h:k∈kvs.map (·.1)
 ·rw [Jy h]
  induction kvs with
  | nil=>cases h
  | cons p kvs ih =>
   rw [Ez,FI];by_cases e:p.1=k
   ·rw [Jy e,decide_eq_true (show p.1=k from e)];rfl
   ·rw [Jx e,decide_eq_false (show ¬ p.1=k from e)];rw [Ez,D5] at h;exact ih (h.resolve_left fun z=>e z.symm)
 ·rw [Jx h,List.find?_append,List.find?_eq_none.mpr,Option.none_or,FI,decide_eq_true rfl]
  ·rfl
  ·intro p hp;have:p.1≠k:=fun z=>h (Ei.mpr ⟨p,hp,z⟩);simpa using this
theorem cZ {k k':PyData} (v:PyData) (ne:k'≠k) (kvs:List (PyData×PyData)):qy k' (dput k v kvs)=qy k' kvs:=by
 unfold dput qy;split
 ·rename_i hk;clear hk
  congr 1
  induction kvs with
  | nil=>rfl
  | cons p kvs ih =>
   rw [Ez,FI,FI];by_cases e:p.1=k
   ·rw [Jy e,decide_eq_false (show ¬ (p.1,v).1=k' from fun z=>ne (z.symm.trans e))];exact ih
   ·rw [Jx e];cases decide (p.1=k')
    ·exact ih
    ·rfl
 ·rw [List.find?_append,FI,decide_eq_false (show ¬ (k,v).1=k' from fun z=>ne z.symm)];simp
section
variable {γ:Type} {P:Program} {w:World} {K:DT} {mg:Str->Option Value} {base:Heap} {k:Nat} {x:Str} {st:Stmt} {N:List Str} {ps:List Str} {n:Nat} {pre:γ->List DV->Prop} {post:γ->DV->Prop}
theorem Def.okV (F:Def K mg x st ps) (S:FnScope N ps (zj st)) (hn:ps.length=n)
  (h:∀ (fa:DY) (cdv:Value) (A:Around) (outer:List Env) (s:Shared) (H:Hp) (E:XK),Room k (A.deeper (envOfC x (zj st) s.heap.objs.size fa cdv)) ->
   ∃ t,PSs (yu CX0 P w K mg base N x (zj st) fa cdv A outer s H E).nox (yG st) t/\∀ (f:Fx) (xs:List DV) (c:γ),xs.length=n->pre c xs->PSv K f t (qP N xs) (post c)) :
  FnIn P w K mg base (k+1) x ps (spV K n pre post):=by
 obtain⟨fa,fd,F1,F2,F3⟩:=F.ex;refine⟨fa,fd,F1.ok S (fun vs H Q E h=>?_) (fun cdv A outer s H vs Q E hr hs=>?_),F3,F1.kp,F2⟩
 ·obtain⟨f,xs,c,r,hl,_⟩:=h;rw [r.length,hl,hn]
 ·obtain⟨f,xs,c,r,hl,fo,hp,q⟩:=hs;obtain⟨t,h1,h2⟩:=h fa cdv A outer s H E hr;exact⟨t,h1,h2 f xs c hl hp (start N vs) H _ (qE r fo) fun x v H' g r p=>q x v H' g r p⟩
end
end L2
end
section
namespace L2
open PySem PySem.Spec PyProof.Rows
noncomputable def Itz (K:DT) (a b:DY):It :=
 ⟨fun i H=>∃ xs ys x y,SqL K H a xs/\SqL K H b ys/\xs[i]?=some x/\ys[i]?=some y,fun i H v H'=>∃ t x y,v=.ref t/\H t=none/\H'=upd H t (.tup [x,y])/\(∀ xs,SqL K H a xs->xs[i]?=some x)/\∀ ys,SqL K H b ys->ys[i]?=some y,
  fun i H=>∃ xs ys,SqL K H a xs/\SqL K H b ys/\(xs.length<=i \/ ys.length<=i)⟩
theorem sY {P:Program} {w:World} {K:DT} {es:List Expr} {k:Nat} {pos:Pos} (a b z q1 q2 c1 c2:DY) (D:ZipApart z q1 q2 c1 c2 a b) :
  Turn P w K (.Tuple es k pos) (Itz K a b) [z,q1,q2,c1,c2] z (fun i h=>IsZip h z q1 q2 .none/\IsPair h q1 (.ref c1) (.ref c2)/\(∃ u v,IsPair h q2 u v)/\h.IsListIter c1 a i/\h.IsListIter c2 b i) where
 mem:=by simp
 obj:=fun i h st x hx=>by
  obtain⟨s1,s2,⟨u,v,s3⟩,⟨o4,e4,_,d4⟩,⟨o5,e5,_,d5⟩⟩:=st;simp only [D5,EN,or_false] at hx;rcases hx with rfl | rfl | rfl | rfl | rfl
  ·exact⟨_,s1,fun y z=>by have z':Data.fields _=Data.cell y:=z;cases z'⟩
  ·exact⟨_,s2,fun y z=>by have z':Data.seq _=Data.cell y:=z;cases z'⟩
  ·exact⟨_,s3,fun y z=>by have z':Data.seq _=Data.cell y:=z;cases z'⟩
  ·exact⟨o4,e4,fun y z=>by rw [d4] at z;cases z⟩
  ·exact⟨o5,e5,fun y z=>by rw [d5] at z;cases z⟩
 keep:=fun i h h' st kk=>by
  obtain⟨s1,s2,⟨u,v,s3⟩,s4,s5⟩:=st;exact⟨kk z (by simp) _ s1,kk q1 (by simp) _ s2,⟨u,v,kk q2 (by simp) _ s3⟩,s4.at fun o e=>kk c1 (by simp) o e,s5.at fun o e=>kk c2 (by simp) o e⟩
 item:=by
  intro X hP hw hK hc i Jw s σ H E I hf st hg;subst hP hw hK;obtain⟨xs,ys,x,y,hq,hp,hx,hy⟩:=hg;obtain⟨its,rv,p,_⟩:=I.list hq;obtain⟨u,hu,ru⟩:=rv.get hx;obtain⟨its',rv',p',_⟩:=I.list hp;obtain⟨v,hv,rv2⟩:=rv'.get hy;obtain⟨s1,s2,⟨u0,v0,s3⟩,s4,s5⟩:=st;refine wpAny_pyNext_zip_item D s1 s2 s3 s4 s5 p.isList p'.isList (x:=u) (y:=v) (by simpa using hu) (by simpa using hv) fun h' n1 n3 n4 n5 tp sz kp=>?_;refine⟨_,rfl,?_⟩;refine wpAny_letOwnedTupleGo_zip (s:={ s with heap:=h' }) n1 fun h2 m1 sb=>?_;have old:∀ c∈[z,q1,q2,c1,c2],c<s.heap.objs.size:=fun c hc=>by
   obtain⟨o4,e4,_,_⟩:=s4;obtain⟨o5,e5,_,_⟩:=s5;simp only [D5,EN,or_false] at hc;rcases hc with rfl | rfl | rfl | rfl | rfl
   ·exact Ea s1
   ·exact Ea s2
   ·exact Ea s3
   ·exact Ea e4
   ·exact Ea e5
  have kk:∀ c o,c∉[z,q1,q2,c1,c2]->s.heap.get? c=some o->h2.get? c=some o:=fun c o hc e=>by
   have z1:c≠z:=fun z=>hc (by simp [z]);have z3:c≠q2:=fun z=>hc (by simp [z]);have z4:c≠c1:=fun z=>hc (by simp [z]);have z5:c≠c2:=fun z=>hc (by simp [z]);exact (sb.2 c z1).trans (kp c o z1 z3 z4 z5 e)
  have hlt:z<s.heap.objs.size:=old z (by simp);have I2:Inv X Jw σ (upd H s.heap.objs.size (.tup [x,y])) { s with heap:=h2,toks:=s.toks }:=I.turnedNew (t':=s.toks) hf kk (D8 _)
   ⟨by show 2<=EJ;decide,[u,v],.cons ru (.cons rv2 .nil),⟨_,(sb.2 _ (F5 hlt)).trans tp,rfl,_,rfl⟩⟩
  refine⟨.ref s.heap.objs.size,_,I2,rfl,⟨_,x,y,rfl,I.fresh,rfl,fun zs hz=>by rw [I.list_inj hz hq];exact hx,fun zs hz=>by rw [I.list_inj hz hp];exact hy⟩,⟨m1,?_,⟨u,v,?_⟩,?_,?_⟩,fun c hc=>?_⟩
  ·exact (sb.2 q1 D.TIz).trans (kp q1 _ D.TIz D.TITO D.TIi1 D.TIi2 s2)
  ·exact (sb.2 q2 D.TOz).trans n3
  ·exact n4.at fun o eo=>(sb.2 c1 D.i1z).trans eo
  ·exact n5.at fun o eo=>(sb.2 c2 D.i2z).trans eo
  ·rw [zu (EE (old c hc))];exact (hf c hc).1
 done:=by
  intro X hP hw hK hc i Jw s σ H E I hf st hg;subst hP hw hK;obtain⟨xs,ys,hq,hp,hx⟩:=hg;obtain⟨its,rv,p,_⟩:=I.list hq;obtain⟨its',rv',p',_⟩:=I.list hp;obtain⟨s1,s2,⟨u0,v0,s3⟩,s4,s5⟩:=st;have hl:=rv.length;have hl':=rv'.length;exact wpAny_pyNext_zip_end (I.ok.hd hc) D s1 s2 s3 s4 s5 p.isList p'.isList (hx.imp (fun h=>by simp;omega) fun h=>by simp;omega) fun h' eb=>⟨rfl,I.turnedAll (t':=s.toks) hf fun c o hb e'=>eb c o (fun z=>hb (by simp [z])) (fun z=>hb (by simp [z])) (fun z=>hb (by simp [z])) (fun z=>hb (by simp [z])) e'⟩
 self:=fun _ _ _ _ _ st h=>wpAny_pyIter_zip st.1 h
section
variable {X:Cx} {es:List Expr} {k:Nat} {tpos:Pos}
def Bq (K:DT) (ta:TA):TI:=fun σ H R=>ta σ H fun vs H1=>∃ a b,vs=[.ref a,.ref b]/\(∃ xs,SqL K H1 a xs)/\(∃ ys,SqL K H1 b ys)/\R (Itz K a b) H1
theorem Br {a b:Expr} {ta:TA} {p pos:Pos} (hg:Gl X "zip") (hm:X.mg "zip"=none) (ha:PA X [a,b] ta) (hs:EG [a,b] X.env=(false,eval a X.env) :: EG [b] X.env:=by rfl) (hl:(backTo pos (EG [b] X.env)).any (·.1)=false:=by rfl):PI X (.Tuple es k tpos) (.Call (.Name "zip" p) [a,b] [] pos) (Bq X.K ta):=by
 intro Jw s σ H R I h;refine Call_ (vT I hg hm boot_zip (Fz (thn (ha pos Jw s σ H _ I h) fun us s1 ⟨vs,H1,I1,r1,q1⟩=>?_) hs hl));obtain⟨l,l',e,⟨xs,hq⟩,⟨ys,hp⟩,q⟩:=q1;subst e;cases r1 with
 | cons r rr =>
  cases rr with
  | cons r' rr' =>
   cases rr';cases r;cases r';obtain⟨its,rv,p,_⟩:=I1.list hq;obtain⟨its',rv',p',_⟩:=I1.list hp;obtain⟨o1,e1,_⟩:=id p.isList;obtain⟨o2,e2,_⟩:=id p'.isList;refine call_zip_2 p.isList p'.isList fun h' n1 n2 n3 n4 n5 hsz kp=>?_;refine wpAny_pyIter_zip n1 ?_;refine⟨_,[s1.heap.objs.size+4,s1.heap.objs.size+2,s1.heap.objs.size+3,s1.heap.objs.size,s1.heap.objs.size+1],_,_,H1,rfl,I1.kept (t':=s1.toks) kp,sY l l' _ _ _ _ _ (zipApart_new (Ea e1) (Ea e2)),⟨n1,n2,⟨_,_,n3⟩,n4,n5⟩,fun c hc=>?_,q⟩;have hle:s1.heap.objs.size<=c:=by
    simp only [D5,EN,or_false] at hc;rcases hc with rfl | rfl | rfl | rfl | rfl <;> omega
   exact I1.fpOk hle (I1.hok.fresh hle)
theorem mZ {K:DT} {a b:Expr} {ta:TA} {p pos:Pos} (hK:X.K=K) (hg:Gl X "zip") (hm:X.mg "zip"=none) (ha:PA X [a,b] ta) (hs:EG [a,b] X.env=(false,eval a X.env) :: EG [b] X.env:=by rfl) (hl:(backTo pos (EG [b] X.env)).any (·.1)=false:=by rfl):PI X (.Tuple es k tpos) (.Call (.Name "zip" p) [a,b] [] pos) (Bq K ta):=hK▸Br hg hm ha hs hl
end
end L2
end
section
namespace L2
open PySem PySem.Spec PyProof.Rows
open PySem.SeqAt
open PySem.AutoSeq1 (wpAny_loadPart')
def DF (A:Around) (s:Shared) (y x:Value) (b:Bool):Prop :=
 ∀ (prog:Program) (w:World) (E:Value->Shared->Prop) (Q:Value->Shared->Prop),Q (.bool b) s->Eo (model prog w) A (richCompare .GtE y x) Q E s
inductive Gex (A:Around) (s:Shared):List Value->List Value->Bool->Prop where
 | nn:Gex A s [] [] true
 | eq {v w vs ws b}:EqAt A s v w true->Gex A s vs ws b->Gex A s (v :: vs) (w :: ws) b
 | ge {v w vs ws b}:EqAt A s v w false->DF A s v w b->vs.length=ws.length->Gex A s (v :: vs) (w :: ws) b
noncomputable def DG (o:Obj):Option Value:=match o.data with
 | .fields vs=>vs[2]?
 | _=>none
local macro_rules | `(tactic| walk_at "kd")=>`(tactic| with_reducible first
  | assumption
  | exact kd_pure _
  | exact kd_uns _
  | exact kd_load _
  | exact kd_loadPart _ _
  | exact kd_stack
  | exact kd_alloc _
  | exact kd_reg _
  | apply kd_ite
  | apply kd_bind
  | intro _
  | split)
def Dct (a:DY) (o:Option DY) (h:Heap):Prop:=∃ u,h.get? a=some u/\DG u=some .none/\∀ dx,o=some dx->u.dict=some dx
def CXf (P:Program) (w:World):CXT:=fun outer H s E e s'=>∃ a C o H',e=.ref a/\XLie P w outer H s a C H' s'/\Dct a o s'.heap/\E C o H'
def Aa (a:DY) (C:Value) (o:Option DY) (h:Heap):Prop:=∃ t,h.get? a=some { cls:=C,dict:=o,data:=.fields #[.ref t,.none,.none,.none,.bool false,.none] }
end L2
end
section
namespace L2
open PySem PySem.Spec PyProof.Rows PySem.Builtin Builtin Builtin.ObjectAttr
noncomputable def sZ (K:DT) (C f:DY) (bmB:List Value) (newId:String):Bool :=
 match K.lookup C with
 | some ⟨c0,_,.cls cd,sl⟩=>c0 == .type "type" && cd.mro.head? == some (.ref C) && cd.hasDel == false && cd.hasDict && PySem.W.tailIn K bmB cd.mro.tail && PySem.W.nsOkIn K cd.ns && EV K cd.ns "__init__" == some (some (.ref f))
   && sl.toList.length == 6 && sl.toList[4]? == some (some (.builtin newId))
 | _=>false
structure XCls (h:Heap) (C f:DY) (bmB:List Value) (newId:String):Prop where
 ex:∃ nm q N bs bm sn sub ab col dd k0 k1 k2 k3 k5 mN,h.get? C=some (excClassObj nm q C N bs bm true sn sub ab col dd k0 k1 k2 k3 k5 newId)/\h.Ns N mN/\mN "__init__"=some (.ref f)/\OwnTail h bmB bm
end L2
end
section
namespace L2
open PySem PySem.Spec PySem.W PyProof.Rows PySem.Calls PySem.Builtin Builtin Builtin.ObjectAttr
noncomputable abbrev bare (C:DY) (o:Option DY) (t:DY):Obj:={ cls:=.ref C,dict:=o,data:=.fields #[.ref t,.none,.none,.none,.bool false,.none] }
noncomputable abbrev bmV:List Value:=[.type "ValueError",.type "Exception",.type "BaseException",.type "object"]
structure FldC (K:DT) (C f D:DY) (name:Str):Prop where
 wi:sZ K C f bmV "ValueError.__new__"=true
 fn:PySem.W.typeIn K (.ref f)=some (.type "function")
 ob:PySem.W.mroIn K C (.type "object")=some true
 sa:Gy K (.ref C) "__setattr__"=some (some (.builtin "object.__setattr__"))
 na:Gy K (.ref C) name=some none
 rd:PySem.W.readsIn K D (.type "type")=true
 sp:HX K (.ref D) "__getattribute__"=some (some (.builtin "type.__getattribute__"))
 kp:Ff K (.ref C)=true
 fi:PySem.W.findCls K (.ref D) (.type "type") "__init__"=some (.val (.builtin "ValueError.__init__"))
section
variable {X:Cx} {Jw:List (DY×Obj)} {σ:St} {H H':Hp} {s s':Shared} {h':Heap} {a b dx C D f:DY} {o:HO} {t':Nat} {name:Str}
def Bs (C:DY) (name:Str):Sp:=fun vs H Q _=>∃ a y,vs=[.ref a,y]/\H a=some (.ext (Aa a (.ref C) none))/\∀ dx,H dx=none->dx≠a->Q .non (upd (upd H dx (.xd [(name,y)])) a (.ext (Aa a (.ref C) (some dx))))
end
end L2
end
section
namespace L2
open PySem PySem.Spec PyProof.Rows
end L2
end
section
namespace L2
open PySem PySem.Spec PySem.W PyProof.Rows PySem.Calls PySem.Builtin Builtin Builtin.ObjectAttr Builtin.Getset_descriptor
abbrev XD:=Option (Str×PyData)
structure FnInF (P:Program) (w:World) (K:DT) (mg:Str->Option Value) (base:Heap) (k:Nat) (x:Str) (ps:List Str) (sp:Sp):Prop where
 ex:∃ (f:DY) (fd:FuncData),FnOk P w K mg base (CXf P w) k f fd ps sp/\mg x=some (.ref f)/\Ff K (.ref f)=true/\Binds K fd ps []
structure FCls (K:DT) (mg:Str->Option Value) (x base:Str) (C:DY) (name:Str) (st:Stmt) (ps:List Str):Prop where
 ex:∃ (f D:DY) (fd:FuncData),FldC K C f D name/\mg x=some (.ref C)/\mg base=some (.ref D)/\Fun K "__init__" (x ++ ".__init__") st f fd/\Binds K fd ps []
structure InitOk (P:Program) (w:World) (K:DT) (mg:Str->Option Value) (base:Heap) (k:Nat) (C:DY) (name:Str):Prop where
 ex:∃ (f D:DY) (fd:FuncData) (ps:List Str),FldC K C f D name/\FnOk P w K mg base CX0 k f fd ps (Bs C name)/\Binds K fd ps []
theorem Ab {K:DT} {f:Fx} {ρ:zq} {D:DEnds} {tt:TT} {ts tu:TS} (p:Prop) [Decidable p] (h:PTd K f tt ρ fun b=>b=decide p) (h1:p->PSd K f ts ρ D) (h2:¬ p->PSd K f tu ρ D):PSd K f (rq tt ts tu) ρ D:=dI fun σ H Q e q=>h σ H Q e fun b H' g z=>q b H' g (by
 subst z;by_cases hp:p
 ·rw [decide_eq_true hp,Jy rfl];exact h1 hp
 ·rw [decide_eq_false hp,Jx DX];exact h2 hp)
structure RoomM (k:Nat) (A:Around):Prop where
 dp:A.depth+3 * k+5<recursionLimit
 un:A.units+16 * k+200<E1
structure FnOkM (P:Program) (w:World) (K:DT) (mg:Str->Option Value) (base:Heap) (k:Nat) (f:DY) (fd:FuncData) (ps:List Str) (sp:DY->Sp):Prop where
 len:∀ a vs H Q E,sp a vs H Q E->vs.length=ps.length
 run:∀ (A:Around) (outer:List Env) (s:Shared) (H:Hp) (args:Args) (us:List Value) (vs:List V) (Q:VK) (a:DY),A.handled=some (.ref a)->RoomM k A->Env0 P w K mg base A outer s H->BindsTo s fd args (ps.zip us)->Vals vs us->sp a vs H Q E0 ->
  codeAny (model P w) A (.call (.ref f) args) (CR CX0 outer P w H s Q E0) s
structure FnInM (P:Program) (w:World) (K:DT) (mg:Str->Option Value) (base:Heap) (k:Nat) (x:Str) (ps:List Str) (sp:DY->Sp):Prop where
 ex:∃ (f:DY) (fd:FuncData),FnOkM P w K mg base k f fd ps sp/\mg x=some (.ref f)/\Ff K (.ref f)=true/\Binds K fd ps []
structure TN (K:DT) (f:Fx) (a:DY) (as:List DY) (H2:Hp) (ρ:zq) (R:Option (List (List Int))) (σ:St) (H:Hp):Prop where
 env:EnvOk K (f.withs (a :: as)) ρ σ H
 sm:Same (hide H2 (f.withs (a :: as))) (hide H (f.withs (a :: as)))
 kp:∀ b∈f.M,H b=H2 b
 tab:∀ Ju,R=some Ju->TabAt H a as Ju
section
variable {K:DT} {f:Fx} {a:DY} {as:List DY} {ρ ρ2:zq} {Ju:List (List Int)} {R:Option (List (List Int))} {O:zq->Option (List (List Int))->Prop} {ts tu:TS} {tt:TT} {te ty tx:TE} {i:Nat} {σ σ2:St} {H H' H2:Hp}
theorem vD:(f.withs (a :: as)).M.reverse=f.M.reverse++a :: as:=by
 show ((a :: as).reverse++f.M).reverse=_;rw [G4,Hx]
theorem TN.at (x:TN K f a as H2 ρ R σ H) (hi:ρ[i]?=some (some (.own f.M.length))):σ[i]?=some (some (.ref a)):=by
 obtain⟨v,a1,p,a2,rfl⟩:=x.env.get i _ hi;rw [vD,Ee (by simp)] at a2;simp at a2;rw [a2];exact a1
theorem TN.fok (x:TN K f a as H2 ρ R σ H):FOk f H:=⟨x.env.fd.fd,fun b hb=>x.env.fd.mm b (Ed _ hb),fun p e hp=>x.env.fd.nm p e (Ed _ hp)⟩
theorem TN.out (x:TN K f a as H2 ρ R σ H):EnvOk K f (ρ.map (jq f.M.length)) σ H:=by
 refine⟨by rw [DS];exact x.env.len,fun q z hz=>?_,x.fok⟩;rw [D7] at hz;cases e0:ρ[q]? with
 | none=>rw [e0] at hz;cases hz
 | some z0 =>
  rw [e0] at hz;cases z0 with
  | none=>cases hz
  | some z0 =>
   obtain⟨v,a1,a2⟩:=x.env.get q z0 e0;cases z0 with
   | dat d=>cases hz;exact⟨v,a1,Rep.mono yn d v a2⟩
   | feed=>cases hz;exact⟨v,a1,a2⟩
   | exc C=>cases hz;obtain⟨b,h3,h4⟩:=a2;exact⟨v,a1,b,h3,yn _ _ h4⟩
   | mon φ=>cases hz;exact⟨v,a1,fun H' s=>a2 H' (yn.trans s)⟩
   | own k =>
    have hz':(if k<f.M.length then some (DV.own k) else none)=some z:=Option.some.inj hz;by_cases hk:k<f.M.length
    ·rw [Jy hk] at hz';cases hz';obtain⟨b,h3,h4⟩:=a2;refine⟨v,a1,b,?_,h4⟩;rw [vD,Ec (by simpa using hk)] at h3;exact h3
    ·rw [Jx hk] at hz';cases hz'
theorem Bt (se:Sep f (a :: as)):∀ D∈a :: as,¬ (f.f=some D \/ D∈f.M):=fun D hD z=>z.elim (se.nf D hD) (se.nm D hD)
end
end L2
end
section
namespace L2
open PySem PySem.Spec PyProof.Rows
structure GoesW (f:Fx) (As:List DY) (H2 H':Hp):Prop where
 sm:Same (hide H2 (f.withs As)) (hide H' f)
 ok:FOk f H'
 kp:∀ b∈f.M,H' b=H2 b
structure FnAt (P:Program) (w:World) (K:DT) (mg:Str->Option Value) (base:Heap) (CX:CXT) (k:Nat) (a:DY) (sp:Sp):Prop where
 ex:∃ (fd:FuncData) (ps:List Str),FnOk P w K mg base CX k a fd ps sp/\Ff K (.ref a)=true/\Binds K fd ps []
end L2
end
section
namespace L2
open PySem PySem.Spec PyProof.Rows
end L2
end
section
namespace L2
open PySem PySem.Spec PyProof.Rows
noncomputable def dJ (ds es:List PyData):List PyData:=List.zipWith (fun d e=>.tuple [d,e]) ds es
section
variable {K:DT} {f:Fx} {ρ:zq} {t:TA} {R:List PyData->Prop}
theorem Ac (h:PAd K f t ρ fun xs=>∃ ds es,xs=[.dat (.list ds),.dat (.list es)]/\R (dJ ds es)):PId K f (Bq K t) ρ R:=fun σ H C e q=>h σ H _ e fun xs vs H1 g1 r1 ⟨ds,es,ex,p⟩=>by
 subst ex;cases r1 with
 | cons rx r' =>
  cases r' with
  | cons ry r'' =>
   cases r'';obtain⟨a,xs,rfl,h1,h2⟩:=zB.mp rx;obtain⟨b,ys,rfl,k1,k2⟩:=zB.mp ry;have l1:=h2.length;have l2:=k2.length;refine⟨a,b,rfl,⟨xs,(zf _ _).seq h1⟩,⟨ys,(zf _ _).seq k1⟩,q (dJ ds es) _ H1 g1 ⟨fun f' H' i d fo sm hd=>?_,fun f' H' _ sm=>⟨xs,ys,(zf _ _).seq (sm.seq h1),(zf _ _).seq (sm.seq k1),?_⟩⟩ p⟩
   ·unfold dJ at hd;rw [IF] at hd;cases e1:ds[i]? with
    | none=>rw [e1] at hd;cases hd
    | some d1 =>
     cases e2:es[i]? with
     | none=>rw [e1,e2] at hd;cases hd
     | some d2 =>
      rw [e1,e2] at hd;cases hd;obtain⟨z1,hz1,rz1⟩:=h2.get e1;obtain⟨z2,hz2,rz2⟩:=k2.get e2;have s1:SqL K H' a xs:=(zf _ _).seq (sm.seq h1);have s2:SqL K H' b ys:=(zf _ _).seq (sm.seq k1);refine⟨⟨xs,ys,z1,z2,s1,s2,hz1,hz2⟩,fun x H3 hy=>?_⟩;obtain⟨tp,y1,y2,rfl,hn,rfl,hy1,hy2⟩:=hy;have q1:=hy1 xs s1;rw [hz1] at q1;cases q1;have q2:=hy2 ys s2;rw [hz2] at q2;cases q2;have gn:Goes f' H' (upd H' tp (.tup [z1,z2])):=.of_same (yc hn _) fo;exact⟨gn,zZ.mpr ⟨tp,_,rfl,.of (zC (fresh_ne fo hn) zy),.cons' (Rep.mono gn.1 _ _ (Rep.mono sm _ _ rz1)) (.cons' (Rep.mono gn.1 _ _ (Rep.mono sm _ _ rz2)) .nil')⟩⟩
   ·unfold dJ;rw [IU];omega
end
structure Src (prog:Program) (w:World) (j:DY) (xs:Array Value) (dep:List DY) (St:Nat->Heap->Prop):Prop where
 own:j∈dep
 keep:∀ {k:Nat} {h h':Heap},St k h->(∀ c∈dep,∀ o,h.get? c=some o->h'.get? c=some o)->St k h'
 there:∀ {k:Nat} {h:Heap},St k h->∃ o,h.get? j=some o
 item:∀ {A:Around} {E:Value->Shared->Prop} {s:Shared} {k:Nat} {x:Value} {Q:Value->Shared->Prop},St k s.heap->xs[k]?=some x->(∀ h',St (k+1) h'->F4 j s.heap h'->Q x { s with heap:=h' })->Eo (model prog w) A (Fn (.ref j)) Q E s
 stop:∀ {A:Around} {E:Value->Shared->Prop} {s:Shared} {k:Nat} {Q:Value->Shared->Prop},A.handled=none->St k s.heap->xs[k]?=none->(∀ h' e,Heap.ExtBut j s.heap h'->(∃ o,h'.get? e=some o/\o.cls=.type "StopIteration")->E (.ref e) { s with heap:=h' })->Eo (model prog w) A (Fn (.ref j)) Q E s
section
variable {prog:Program} {w:World} {A:Around} {E:Value->Shared->Prop} {s:Shared}
structure Far (z q1 q2 j1 j2:DY) (e1 e2:List DY):Prop where
 q1z:q1≠z
 q2z:q2≠z
 q12:q1≠q2
 j12:j1≠j2
 q1j1:q1≠j1
 q1j2:q1≠j2
 z1:z∉e1
 z2:z∉e2
 o1:q2∉e1
 o2:q2∉e2
 d12:j2∉e1
 d21:j1∉e2
end
end L2
end
section
namespace L2
open PySem PySem.Spec PyProof.Rows
end L2
end
section
namespace L2
open PySem PySem.Spec PyProof.Rows
section
variable {K:DT} {f:Fx} {ρ:zq} {R:List DV->Prop} {i j m n:Nat} {d0 d1 d2 d3:PyData}
theorem qz (h0:ρ[i]?=some (some (.dat d0))) (h:R [.dat d0]):PAd K f (yK (yD i) qM) ρ R:=zz (zk h0 (ye h))
theorem bR (h0:ρ[i]?=some (some (.dat d0))) (h1:ρ[j]?=some (some (.dat d1))) (h:R [.dat d0,.dat d1]):PAd K f (yK (yD i) (yK (yD j) qM)) ρ R:=zz (zk h0 (qz h1 h))
theorem dM (h0:ρ[i]?=some (some (.dat d0))) (h1:ρ[j]?=some (some (.dat d1))) (h2:ρ[m]?=some (some (.dat d2))) (h:R [.dat d0,.dat d1,.dat d2]):PAd K f (yK (yD i) (yK (yD j) (yK (yD m) qM))) ρ R:=zz (zk h0 (bR h1 h2 h))
theorem DH (h0:ρ[i]?=some (some (.dat d0))) (h1:ρ[j]?=some (some (.dat d1))) (h2:ρ[m]?=some (some (.dat d2))) (h3:ρ[n]?=some (some (.dat d3))) (h:R [.dat d0,.dat d1,.dat d2,.dat d3]):PAd K f (yK (yD i) (yK (yD j) (yK (yD m) (yK (yD n) qM)))) ρ R:=zz (zk h0 (dM h1 h2 h3 h))
end
theorem aB {α β:Type} {F:α->β} {l:List β} {m:List α} (h:l.Perm (m.map F)):∃ m':List α,m'.Perm m/\l=m'.map F:=by
 generalize e:m.map F=k at h
 induction h generalizing m with
 | nil=>exact⟨m,.refl _,e.symm⟩
 | cons x _ ih =>
  cases m with
  | nil=>cases e
  | cons a m =>
   injection e with e1 e2;obtain⟨m',p,r⟩:=ih e2;exact⟨a :: m',p.cons a,by rw [Ez,e1,r]⟩
 | swap x y l =>
  cases m with
  | nil=>cases e
  | cons a m =>
   cases m with
   | nil=>injection e with _ e;cases e
   | cons b m =>
    injection e with e1 e2;injection e2 with e2 e3;exact⟨b :: a :: m,.swap a b m,by rw [Ez,Ez,e1,e2,e3]⟩
 | trans _ _ ih1 ih2 =>
  obtain⟨m',p,r⟩:=ih2 e;obtain⟨m'',p',r'⟩:=ih1 r.symm;exact⟨m'',p'.trans p,r'⟩
abbrev FD (K:DT) (x:Str) (st:Stmt) (f:DY) (od an:Option DY) (sl:Array (Option Value)) (oc kV dc pm cd ct:Value):Prop:=EV K EB x=some (some (.ref f))/\K.lookup f=some ⟨oc,od,.func (Fv x x (jm st) (yG st) (zj st) .none kV dc pm an cd ct),sl⟩/\GS K cd x=true/\Ff K (.ref f)=true
theorem wC {K:DT} {h:Heap} {mg:Str->Option Value} {x:Str} {st:Stmt} {f:DY} {od an:Option DY} {sl:Array (Option Value)} {oc kV dc pm cd ct:Value} (X:K.In h) (G:h.Ns EB mg) (a:FD K x st f od an sl oc kV dc pm cd ct) {ps:List Str}
  (hb:∀ (kV doc pm:Value) (an:Option DY) (cdv ct:Value) (us:List Value),us.length=ps.length->bindArgs (Fv x x (jm st) (yG st) (zj st) .none kV doc pm an cdv ct) ⟨us,[]⟩=pure (ps.zip us)):Def K mg x st ps :=
 ⟨f,_,kH a.2.1 a.2.2.1 a.2.2.2,(kH (st:=st) a.2.1 a.2.2.1 a.2.2.2).binds hb,GQ X G a.1⟩
section
variable {w:World} {K:DT} {f:Fx} {Ds:List DY} {ρ:zq} {cs:List OC} {O:MEnds} {i:Nat}
theorem CT {v k:Int} (hi:ρ[i]?=some (some (.dat (.int v)))):PTd K f (gT (tOp (oa K false) (yD i) (tC (.int k)))) ρ fun b=>b=decide (v=k) :=
 jN (aq (zk hi (yU ⟨rfl,rfl,by show min 0 0<=60;decide,_,rfl,rfl⟩)))
end
end L2
end
section
namespace L2
open PySem PySem.Spec PyProof.Rows
noncomputable def bS:Nat:=2 ^ 9000
theorem jr {n m:Nat} (h:n<2 ^ m) (hm:m<=9000):n<bS:=Es h (GW (by decide) hm)
theorem eQ {k:Int} (h:k.natAbs<bS):G5 k<=9000:=by
 unfold G5;split
 ·exact EI _
 ·have:k.natAbs.log2<9000:=by
   rcases Nat.eq_zero_or_pos k.natAbs with h0 | hp
   ·rw [h0];decide
   ·exact (Jl (F5 hp)).mpr h
  omega
def CMulH (i j:Int):Prop:=i.natAbs<bS/\j.natAbs<bS
theorem CMulH.ok {i j:Int} (h:CMulH i j):IntMulOk i j:=by
 have e1:=eQ h.1;have e2:=eQ h.2;have:IG ((G5 i:Int)+(G5 j:Int))=false:=by
  unfold IG;refine decide_eq_false ?_;have:(100000:Int)<=(bitsLine:Int):=by decide +kernel
  omega
 unfold IntMulOk;rw [this,HM];exact DX
theorem yV {X:Cx}:OpR X (binaryOp .Mult) (rI CMulH fun i j=>.int (i * j)):=opI fun _ _ _ _ _ _ _ hc q=>mul_int q hc.ok
def CU (_ j:Int):Prop:=j≠0/\j.natAbs<bS
theorem iN {X:Cx}:OpR X (binaryOp .FloorDiv) (rI CU fun i j=>.int (i.fdiv j)):=opI fun i j _ _ _ _ _ hc q=>by
 obtain⟨h1,h2⟩:=hc;refine floordiv_int h1 q (.inl (Ib ?_));exact (Jl (by omega)).mpr h2
noncomputable def jy (q:Rat):PyData:=.tuple [.int q.num,.int (q.den:Nat)]
theorem c7 {g t:Int} (h:g≠0):(g * t).fdiv g=t:=by
 rw [Int.mul_fdiv_cancel_left _ h]
theorem oI {t b:Int} (hb:b≠0):(t.fdiv (b.sign * (FA t b:Int))=(ED t b).num)/\(b.fdiv (b.sign * (FA t b:Int))=((ED t b).den:Int)):=by
 have gp:0<FA t b:=HC t hb;have g0:((FA t b:Nat):Int)≠0:=by omega
 obtain⟨u,hu⟩:=Int.gcd_dvd_left t b;obtain⟨v,hv⟩:=Int.gcd_dvd_right t b;have ss:b.sign * b.sign=1:=by
  rcases Hm b 0 with h | h | h
  ·rw [FG h];rfl
  ·exact absurd h hb
  ·rw [F9 h];rfl
 have s0:b.sign * ((FA t b:Nat):Int)≠0:=IB (fun z=>by rw [z] at ss;cases ss) g0;refine⟨?_,?_⟩
 ·rw [Rat.num_divInt,Int.gcd_comm b t];have e1:t=b.sign * ((FA t b:Nat):Int) * (b.sign * u):=by
   rw [show b.sign * ((FA t b:Nat):Int) * (b.sign * u)=(b.sign * b.sign) * (((FA t b:Nat):Int) * u) by grind,ss,Jm,<- hu]
  have e2:b.sign * t=((FA t b:Nat):Int) * (b.sign * u):=by rw [show ((FA t b:Nat):Int) * (b.sign * u)=b.sign * (((FA t b:Nat):Int) * u) by grind,<- hu]
  rw [e2,Ih _ g0];generalize hG:b.sign * ((FA t b:Nat):Int)=G at *;rw [e1];exact c7 s0
 ·rw [Rat.den_divInt,Jx hb,Int.gcd_comm b t];have e1:b=b.sign * ((FA t b:Nat):Int) * (b.sign * v):=by
   rw [show b.sign * ((FA t b:Nat):Int) * (b.sign * v)=(b.sign * b.sign) * (((FA t b:Nat):Int) * v) by grind,ss,Jm,<- hv]
  have e3:(b.natAbs:Int)=((FA t b:Nat):Int) * (b.sign * v):=by
   rw [show ((FA t b:Nat):Int) * (b.sign * v)=b.sign * (((FA t b:Nat):Int) * v) by grind,<- hv];rcases Hm b 0 with h | h | h
   ·rw [FG h];omega
   ·exact absurd h hb
   ·rw [F9 h];omega
  rw [Int.natCast_ediv,e3,Ih _ g0];have key:∀ G X:Int,G≠0->b=G * X->b.fdiv G=X:=fun G X h e=>by rw [e];exact c7 h
  exact key _ _ s0 e1
theorem c8 (t b:Int):(ED t b).num.natAbs<=t.natAbs:=by
 rw [Rat.num_divInt];refine Er (Int.natAbs_ediv_le_natAbs _ _) ?_;rw [GC];refine Er (Nat.mul_le_mul_right _ (show b.sign.natAbs<=1 from ?_)) (by rw [Jn];exact D8 _);rcases Hm b 0 with h | h | h
 ·rw [FG h];decide
 ·rw [h];decide
 ·rw [F9 h];decide
theorem c9 {t b:Int} (h:b≠0):(ED t b).den<=b.natAbs:=by
 rw [Rat.den_divInt,Jx h];exact Nat.div_le_self _ _
section
variable {K:DT} {f:Fx} {ρ:zq} {R:zq->Prop} {P:PyData->Prop} {i j m:Nat}
theorem DI {a b c:PyData} (h:R (((ρ.set i (some (.dat a))).set j (some (.dat b))).set m (some (.dat c)))):PGd K f (uK K 3 (gQ (yS i) (gQ (yS j) (gQ (yS m) AB)))) (.tuple [a,b,c]) ρ R:=yz rfl (zm (zi (zm (zi (zm (zi (zV h)))))))
end
end L2
end
section
open PySem PySem.Spec PyProof.Rows
namespace L2
end L2
end
section
namespace L2
open PySem PySem.Spec PyProof.Rows
end L2
end
section
namespace L2
open PySem PySem.Spec PyProof.Rows
end L2
end
section
namespace L2
open PySem PySem.Spec PyProof.Rows
abbrev jK (h:Heap) (T:DY) (a b c:Value):Prop:=h.get? T=some { cls:=.type "tuple",data:=.seq #[a,b,c] }
section
variable {prog:Program} {w:World} {A:Around} {E:Value->Shared->Prop} {s:Shared} {n l1 l2 l3 i:Nat} {xs ys zs:Array Value} {x y v a b c:Value}
theorem aN {a b:Nat} (h:a≠b):@Ne DY a b:=h
theorem fV {T:DY} {k:Nat} {Q:Unit->Shared->Prop} (hT:jK s.heap T a b c) (h:∀ h',h'.get? T=some { cls:=.type "tuple",data:=.seq ((#[a,b,c]:Array Value).setIfInBounds k x) }->F4 T s.heap h'->Q () { s with heap:=h' }):Eo (model prog w) A (updateSeq T (·.setIfInBounds k x)) Q E s:=by
 refine wpAny_updateSeq hT rfl (h _ ?_ (Gx ..));rw [Gj _ hT rfl];simp [GG]
theorem wD {Q:Value->Shared->Prop} (L1:l1<n) (L2:l2<n) (L3:l3<n) (hz:IsZip s.heap (n+5) (n+3) (n+4) .none) (hTI:jK s.heap (n+3) (.ref n) (.ref (n+1)) (.ref (n+2))) (hTO:jK s.heap (n+4) a b c)
  (h1:s.heap.IsListIter n l1 i) (h2:s.heap.IsListIter (n+1) l2 i) (h3:s.heap.IsListIter (n+2) l3 i) (k1:s.heap.IsList l1 xs) (k2:s.heap.IsList l2 ys) (k3:s.heap.IsList l3 zs) (hx:xs[i]?=some x) (hy:ys[i]?=some y) (hv:zs[i]?=some v)
  (q:∀ h',IsZip h' (n+5) (n+3) (n+4) (rawInt s.heap.objs.size)->jK h' (n+4) x y v->h'.IsListIter n l1 (i+1)->h'.IsListIter (n+1) l2 (i+1)->h'.IsListIter (n+2) l3 (i+1)->jK h' s.heap.objs.size x y v ->
   (∀ d o,d≠n+5->d≠n+4->d≠n->d≠n+1->d≠n+2->s.heap.get? d=some o->h'.get? d=some o)->Q (.ref s.heap.objs.size) { s with heap:=h' }) :
  Eo (model prog w) A (Builtin.«zip.__next__» ⟨[.ref (n+5)],[]⟩) (fun fin s'=>∃ r,fin=.done (.ret r)/\Q r s') E s:=by
 show Eo _ _ (field (.ref (n+5)) 2 >>= _) _ _ _;refine DR (wpAny_field hz rfl (x:=.bool false) rfl ?_);show Eo _ _ (field (.ref (n+5)) 3 >>= _) _ _ _;refine DR (wpAny_field hz rfl (x:=.ref (n+3)) rfl (DR (wpAny_seqItems hTI rfl ?_)));show Eo _ _ (Fu (.ref (n+5)) >>= _) _ _ _;refine DR ?_;unfold Fu;refine DR (wpAny_field hz rfl (x:=.none) rfl (D3 ?_));simp only [if_true];refine DR (IA (DR (wpAny_field hz rfl (x:=.ref (n+4)) rfl ?_)));refine DR (wpAny_setField_rec hz (by simp) fun g1 z1 e1=>?_)
 replace z1:IsZip g1 (n+5) (n+3) (n+4) .ellipsis:=z1
 refine DR ?_;simp only [List.zipIdx_cons,List.zipIdx_nil,FT,Gg];refine DR (DR (wpAny_onRaise ?_));show Eo _ _ (Fn (.ref n) >>= _) _ _ _;refine DR (wpAny_nextOf_list_item (h1.extBut e1.extBut (aN (by omega))) (k1.extBut e1.extBut (aN (by omega))) hx fun g2 i2 e2=>D3 ?_);have t2:jK g2 (n+4) a b c:=e2.extBut _ _ (aN (by omega)) (e1.extBut _ _ (aN (by omega)) hTO);refine DR (wpAny_seqItems t2 rfl (DR (fV t2 fun g3 t3 e3=>?_)))
 replace t3:jK g3 (n+4) x b c:=t3
 refine DR (wpAny_letGo (D3 ?_));refine DR (DR (wpAny_onRaise ?_));show Eo _ _ (Fn (.ref (n+1)) >>= _) _ _ _;refine DR (wpAny_nextOf_list_item (((h2.extBut e1.extBut (aN (by omega))).extBut e2.extBut (aN (by omega))).extBut e3.extBut (aN (by omega))) (((k2.extBut e1.extBut (aN (by omega))).extBut e2.extBut (aN (by omega))).extBut e3.extBut (aN (by omega))) hy fun g4 i4 e4=>D3 ?_);have t4:jK g4 (n+4) x b c:=e4.extBut _ _ (aN (by omega)) t3;refine DR (wpAny_seqItems t4 rfl (DR (fV t4 fun g5 t5 e5=>?_)))
 replace t5:jK g5 (n+4) x y c:=t5
 refine DR (wpAny_letGo (D3 ?_));refine DR (DR (wpAny_onRaise ?_));show Eo _ _ (Fn (.ref (n+2)) >>= _) _ _ _;have u5:∀ d o,d≠n+5->d≠n+4->d≠n->d≠n+1->s.heap.get? d=some o->g5.get? d=some o:=fun d o c1 c2 c3 c4 e =>
  e5.extBut _ _ c2 (e4.extBut _ _ c4 (e3.extBut _ _ c2 (e2.extBut _ _ c3 (e1.extBut _ _ c1 e))))
 refine DR (wpAny_nextOf_list_item (h3.at fun o e=>u5 _ o (aN (by omega)) (aN (by omega)) (aN (by omega)) (aN (by omega)) e) (k3.at fun o e=>u5 _ o (aN (by omega)) (aN (by omega)) (aN (by omega)) (aN (by omega)) e) hv fun g6 i6 e6=>D3 ?_);have t6:jK g6 (n+4) x y c:=e6.extBut _ _ (aN (by omega)) t5;refine DR (wpAny_seqItems t6 rfl (DR (fV t6 fun g7 t7 e7=>?_)))
 replace t7:jK g7 (n+4) x y v:=t7
 refine DR (wpAny_letGo (D3 (D3 ?_)));refine DR (wpAny_seqItems t7 rfl (DR (wpAny_newTuple ?_)));have sz:g7.objs.size=s.heap.objs.size:=by rw [e7.1,e6.1,e5.1,e4.1,e3.1,e2.1,e1.1]
 have z7:IsZip g7 (n+5) (n+3) (n+4) .ellipsis:=e7.extBut _ _ (aN (by omega)) (e6.extBut _ _ (aN (by omega)) (e5.extBut _ _ (aN (by omega)) (e4.extBut _ _ (aN (by omega)) (e3.extBut _ _ (aN (by omega)) (e2.extBut _ _ (aN (by omega)) z1)))));have u7:∀ d o,d≠n+5->d≠n+4->d≠n->d≠n+1->d≠n+2->s.heap.get? d=some o->g7.get? d=some o:=fun d o c1 c2 c3 c4 c5 e=>e7.extBut _ _ c2 (e6.extBut _ _ c5 (u5 d o c1 c2 c3 c4 e));have j1:g7.IsListIter n l1 (i+1):=((((i2.extBut e3.extBut (aN (by omega))).extBut e4.extBut (aN (by omega))).extBut e5.extBut (aN (by omega))).extBut e6.extBut (aN (by omega))).extBut e7.extBut (aN (by omega));have j2:g7.IsListIter (n+1) l2 (i+1):=((i4.extBut e5.extBut (aN (by omega))).extBut e6.extBut (aN (by omega))).extBut e7.extBut (aN (by omega));have j3:g7.IsListIter (n+2) l3 (i+1):=i6.extBut e7.extBut (aN (by omega));have zlt:n+5<g7.objs.size:=Ea z7;show Eo _ _ (G6 (.ref (n+5)) (.ref g7.objs.size) >>= _) _ _ _;refine DR ?_;unfold G6;have z8:IsZip (g7.push { cls:=.type "tuple",data:=.seq #[x,y,v] }) (n+5) (n+3) (n+4) .ellipsis:=D6 _ z7;refine DR (wpAny_setField_rec z8 (by simp) fun g9 z9 e9=>?_)
 replace z9:IsZip g9 (n+5) (n+3) (n+4) (rawInt g7.objs.size):=z9
 refine wpAny_setField_rec z9 (by simp) fun gA zA eA=>?_
 replace zA:IsZip gA (n+5) (n+3) (n+4) (rawInt g7.objs.size):=zA
 have up:∀ d o,d≠n+5->g7.get? d=some o->gA.get? d=some o:=fun d o c1 e=>eA.extBut _ _ c1 (e9.extBut _ _ c1 (D6 _ e));have tA:jK gA g7.objs.size x y v:=eA.extBut _ _ (F5 zlt) (e9.extBut _ _ (F5 zlt) (El _ rfl));rw [sz] at zA tA;refine D3 ⟨_,rfl,?_⟩;show Q (.ref g7.objs.size) _;rw [sz];exact q gA zA (up _ _ (aN (by omega)) t7) (j1.at fun o e=>up _ o (aN (by omega)) e) (j2.at fun o e=>up _ o (aN (by omega)) e) (j3.at fun o e=>up _ o (aN (by omega)) e) tA fun d o c1 c2 c3 c4 c5 e=>up d o c1 (u7 d o c1 c2 c3 c4 c5 e)
theorem Bu {Q:PySem.Fin->Shared->Prop} (hh:A.handled=none) (L1:l1<n) (hz:IsZip s.heap (n+5) (n+3) (n+4) .none) (hTI:jK s.heap (n+3) (.ref n) (.ref (n+1)) (.ref (n+2))) (h1:s.heap.IsListIter n l1 i) (k1:s.heap.IsList l1 xs) (hx:xs[i]?=none)
  (q:∀ h' e,(∀ d o,d≠n+5->d≠n->s.heap.get? d=some o->h'.get? d=some o)->(∃ o,h'.get? e=some o/\o.cls=.type "StopIteration")->E (.ref e) { s with heap:=h' }) :
  Eo (model prog w) A (Builtin.«zip.__next__» ⟨[.ref (n+5)],[]⟩) Q E s:=by
 show Eo _ _ (field (.ref (n+5)) 2 >>= _) _ _ _;refine DR (wpAny_field hz rfl (x:=.bool false) rfl ?_);show Eo _ _ (field (.ref (n+5)) 3 >>= _) _ _ _;refine DR (wpAny_field hz rfl (x:=.ref (n+3)) rfl (DR (wpAny_seqItems hTI rfl ?_)));show Eo _ _ (Fu (.ref (n+5)) >>= _) _ _ _;refine DR ?_;unfold Fu;refine DR (wpAny_field hz rfl (x:=.none) rfl (D3 ?_));simp only [if_true];refine DR (IA (DR (wpAny_field hz rfl (x:=.ref (n+4)) rfl ?_)));refine DR (wpAny_setField_rec hz (by simp) fun g1 z1 e1=>?_)
 replace z1:IsZip g1 (n+5) (n+3) (n+4) .ellipsis:=z1
 refine DR ?_;simp only [List.zipIdx_cons,List.zipIdx_nil,FT,Gg];refine DR (DR (wpAny_onRaise ?_));show Eo _ _ (Fn (.ref n) >>= _) _ _ _;refine DR (wpAny_nextOf_list_end hh (h1.extBut e1.extBut (aN (by omega))) (k1.extBut e1.extBut (aN (by omega))) hx fun g2 e e2 he=>?_);obtain⟨oe,hoe,hce⟩:=he;have z2:IsZip g2 (n+5) (n+3) (n+4) .ellipsis:=e2 _ _ (aN (by omega)) z1;have hez:e≠n+5:=fun z=>by subst z;rw [z2] at hoe;cases hoe;simp at hce
 exact wpAny_setField_rec z2 (by simp) fun g3 _ e3=>q g3 e (fun d o c1 c3 z=>e3.extBut _ _ c1 (e2 _ _ c3 (e1.extBut _ _ c1 z))) ⟨oe,e3.extBut _ _ hez hoe,hce⟩
noncomputable abbrev zA (h:Heap) (l:DY):Heap:=h.push { cls:=.type "list_iterator",data:=.fields #[.ref l,.int 0 0] }
noncomputable abbrev zD (h:Heap) (l1 l2 l3:DY):Heap:=(zA (zA (zA h l1) l2) l3).push { cls:=.type "tuple",data:=.seq #[.ref h.objs.size,.ref (zA h l1).objs.size,.ref (zA (zA h l1) l2).objs.size] }
noncomputable abbrev zE (h:Heap) (l1 l2 l3:DY):Heap:=(zD h l1 l2 l3).push { cls:=.type "tuple",data:=.seq #[.none,.none,.none] }
noncomputable abbrev zF (h:Heap) (l1 l2 l3:DY):Heap:=(zE h l1 l2 l3).push { cls:=.type "zip",data:=.fields #[.none,.bool false,.bool false,.ref (zA (zA (zA h l1) l2) l3).objs.size,.ref (zD h l1 l2 l3).objs.size] }
theorem Bv (l1 l2 l3:DY) (xs ys zs:Array Value):Meets (Builtin.«zip.__new__» ⟨[.type "zip",.ref l1,.ref l2,.ref l3],[]⟩) (fun _ R s=>s.heap.IsList l1 xs/\s.heap.IsList l2 ys/\s.heap.IsList l3 zs/\R (.ok (.ret (.ref (zE s.heap l1 l2 l3).objs.size))) { s with heap:=zF s.heap l1 l2 l3 }) :=
 .of_wp fun prog w A R s h=>by
  obtain⟨hp,g,d,tk,os⟩:=s;obtain⟨hl1,hl2,hl3,h⟩:=h;have hsub:=sub_zip;have hL1:Jo (Jp ⟨hp,g,d,tk,os⟩) l1 xs:=hl1;have hL2:Jo (Jp ⟨zA hp l1,g,d,tk,os⟩) l2 ys:=Ik hl2 _;have hL3:Jo (Jp ⟨zA (zA hp l1) l2,g,d,tk,os⟩) l3 zs:=Ik (Ik hl3 _) _
  wp_walk using wpAny_pyIter_list hL1,wpAny_pyIter_list hL2,wpAny_pyIter_list hL3
  exact⟨_,rfl,h⟩
theorem CV (a b c:Value):checkTypeCall "zip" ⟨[a,b,c],[]⟩=pure ():=by kernel_rfl
theorem CW (a b c:Value):checkBuiltinCall "zip.__new__" ⟨[.type "zip",a,b,c],[]⟩=pure ():=by kernel_rfl
theorem CY (o a b c:Value):argsOk "object.__init__" ⟨[o,a,b,c],[]⟩:=by unfold argsOk;kernel_rfl
theorem wF {Q:Value->Shared->Prop} (k1:s.heap.IsList l1 xs) (k2:s.heap.IsList l2 ys) (k3:s.heap.IsList l3 zs)
  (h:∀ h',IsZip h' (s.heap.objs.size+5) (s.heap.objs.size+3) (s.heap.objs.size+4) .none->jK h' (s.heap.objs.size+3) (.ref s.heap.objs.size) (.ref (s.heap.objs.size+1)) (.ref (s.heap.objs.size+2))->jK h' (s.heap.objs.size+4) .none .none .none ->
    h'.IsListIter s.heap.objs.size l1 0->h'.IsListIter (s.heap.objs.size+1) l2 0->h'.IsListIter (s.heap.objs.size+2) l3 0->(∀ c o,s.heap.get? c=some o->h'.get? c=some o)->Q (.ref (s.heap.objs.size+5)) { s with heap:=h' }) :
  Eo (model prog w) A (call (.type "zip") [.ref l1,.ref l2,.ref l3]) Q E s:=by
 refine callType_new F.called_zip (by decide) (CV _ _ _) (CW _ _ _) (fun obj=>CY obj _ _ _) F.entry_zip_new (Bv l1 l2 l3 xs ys zs) ⟨k1,k2,k3,?_⟩;have y1:(zA s.heap l1).objs.size=s.heap.objs.size+1:=FN ..;have y2:(zA (zA s.heap l1) l2).objs.size=s.heap.objs.size+2:=by rw [FN,y1]
 have y3:(zA (zA (zA s.heap l1) l2) l3).objs.size=s.heap.objs.size+3:=by rw [FN,y2]
 have y4:(zD s.heap l1 l2 l3).objs.size=s.heap.objs.size+4:=by rw [FN,y3]
 have y5:(zE s.heap l1 l2 l3).objs.size=s.heap.objs.size+5:=by rw [FN,y4]
 have up1:∀ {c:DY} {o:Obj},(zE s.heap l1 l2 l3).get? c=some o->(zF s.heap l1 l2 l3).get? c=some o:=fun e=>D6 _ e;have up2:∀ {c:DY} {o:Obj},(zD s.heap l1 l2 l3).get? c=some o->(zF s.heap l1 l2 l3).get? c=some o:=fun e=>up1 (D6 _ e);have up3:∀ {c:DY} {o:Obj},(zA (zA (zA s.heap l1) l2) l3).get? c=some o->(zF s.heap l1 l2 l3).get? c=some o:=fun e=>up2 (D6 _ e);have up4:∀ {c:DY} {o:Obj},(zA (zA s.heap l1) l2).get? c=some o->(zF s.heap l1 l2 l3).get? c=some o:=fun e=>up3 (D6 _ e);have up5:∀ {c:DY} {o:Obj},(zA s.heap l1).get? c=some o->(zF s.heap l1 l2 l3).get? c=some o:=fun e=>up4 (D6 _ e);have r6:(zF s.heap l1 l2 l3).get? (zE s.heap l1 l2 l3).objs.size=some _:=El _ rfl;have r5:(zF s.heap l1 l2 l3).get? (zD s.heap l1 l2 l3).objs.size=some _:=up1 (El _ rfl);have r4:(zF s.heap l1 l2 l3).get? (zA (zA (zA s.heap l1) l2) l3).objs.size=some _:=up2 (El _ rfl);have r3:(zF s.heap l1 l2 l3).get? (zA (zA s.heap l1) l2).objs.size=some _:=up3 (El _ rfl);have r2:(zF s.heap l1 l2 l3).get? (zA s.heap l1).objs.size=some _:=up4 (El _ rfl);have r1:(zF s.heap l1 l2 l3).get? s.heap.objs.size=some _:=up5 (El _ rfl);show _/\_;rw [y5,y3,y4] at r6;rw [y4] at r5;rw [y3,y1,y2] at r4;rw [y2] at r3;rw [y1] at r2;rw [y5];exact⟨⟨_,r6,rfl⟩,h _ r6 r4 r5 ⟨_,r1,rfl,rfl⟩ ⟨_,r2,rfl,rfl⟩ ⟨_,r3,rfl,rfl⟩ fun c o e=>up5 (D6 _ e)⟩
end
noncomputable def CZ (K:DT) (a b c:DY):It where
 go:=fun i H=>∃ xs ys zs x y z,SqL K H a xs/\SqL K H b ys/\SqL K H c zs/\xs[i]?=some x/\ys[i]?=some y/\zs[i]?=some z
 yld:=fun i H v H'=>∃ t x y z,v=.ref t/\H t=none/\H'=upd H t (.tup [x,y,z])/\(∀ xs,SqL K H a xs->xs[i]?=some x)/\(∀ ys,SqL K H b ys->ys[i]?=some y)/\∀ zs,SqL K H c zs->zs[i]?=some z
 stop:=fun i H=>∃ xs,SqL K H a xs/\xs.length<=i
theorem wG {P:Program} {w:World} {K:DT} {es:List Expr} {k:Nat} {pos:Pos} {a b c n:DY} (La:a<n) (Lb:b<n) (Lc:c<n) :
  Turn P w K (.Tuple es k pos) (CZ K a b c) [n+5,n+3,n+4,n,n+1,n+2] (n+5) (fun i h=>IsZip h (n+5) (n+3) (n+4) .none/\jK h (n+3) (.ref n) (.ref (n+1)) (.ref (n+2))/\(∃ u v t,jK h (n+4) u v t)/\h.IsListIter n a i/\h.IsListIter (n+1) b i/\h.IsListIter (n+2) c i) where
 mem:=by simp
 obj:=fun i h st x hx=>by
  obtain⟨s1,s2,⟨u,v,t,s3⟩,⟨o4,e4,_,d4⟩,⟨o5,e5,_,d5⟩,⟨o6,e6,_,d6⟩⟩:=st;simp only [D5,EN,or_false] at hx;rcases hx with rfl | rfl | rfl | rfl | rfl | rfl
  ·exact⟨_,s1,fun y z=>by have z':Data.fields _=Data.cell y:=z;cases z'⟩
  ·exact⟨_,s2,fun y z=>by have z':Data.seq _=Data.cell y:=z;cases z'⟩
  ·exact⟨_,s3,fun y z=>by have z':Data.seq _=Data.cell y:=z;cases z'⟩
  ·exact⟨o4,e4,fun y z=>by rw [d4] at z;cases z⟩
  ·exact⟨o5,e5,fun y z=>by rw [d5] at z;cases z⟩
  ·exact⟨o6,e6,fun y z=>by rw [d6] at z;cases z⟩
 keep:=fun i h h' st kk=>by
  obtain⟨s1,s2,⟨u,v,t,s3⟩,s4,s5,s6⟩:=st;exact⟨kk _ (by simp) _ s1,kk _ (by simp) _ s2,⟨u,v,t,kk _ (by simp) _ s3⟩,s4.at fun o e=>kk _ (by simp) o e,s5.at fun o e=>kk _ (by simp) o e,s6.at fun o e=>kk _ (by simp) o e⟩
 item:=by
  intro X hP hw hK hc i Jw s σ H E I hf st hg;subst hP hw hK;obtain⟨xs,ys,zs,x,y,z,hq,hp,hr,hx,hy,hz⟩:=hg;obtain⟨its,rv,p,_⟩:=I.list hq;obtain⟨u,hu,ru⟩:=rv.get hx;obtain⟨its',rv',p',_⟩:=I.list hp;obtain⟨v,hv,rv2⟩:=rv'.get hy;obtain⟨its2,rv3,p2,_⟩:=I.list hr;obtain⟨t,ht,rt⟩:=rv3.get hz;obtain⟨s1,s2,⟨u0,v0,t0,s3⟩,s4,s5,s6⟩:=st;have hT:s.TypeIs (.ref (n+5)) "zip":=⟨_,s1,rfl⟩;unfold pyNext;refine DR (IX (wpAny_callSpecial?_slot hT HD (wpAny_call_entry HD hT F.entry_zip_next (wD La Lb Lc s1 s2 s3 s4 s5 s6 p.isList p'.isList p2.isList (x:=u) (y:=v) (v:=t) (by simpa using hu) (by simpa using hv) (by simpa using ht) fun h' n1 n3 n4 n5 n6 tp kp=>D3 ?_) (F.args_zip_next_1 _))));refine⟨_,rfl,?_⟩;refine wpAny_letOwnedTupleGo_zip (s:={ s with heap:=h' }) n1 fun h2 m1 sb=>?_;have old:∀ d∈[n+5,n+3,n+4,n,n+1,n+2],d<s.heap.objs.size:=fun d hd=>by
   have:=Ea s1;have e:(n+5:Nat)<s.heap.objs.size:=this;simp only [D5,EN,or_false] at hd;have hd':(d:Nat)<=n+5:=by rcases hd with rfl | rfl | rfl | rfl | rfl | rfl <;> exact EH (by simp)
   exact FJ hd' e
  have kk:∀ d o,d∉[n+5,n+3,n+4,n,n+1,n+2]->s.heap.get? d=some o->h2.get? d=some o:=fun d o hd e=>by
   have z1:d≠n+5:=fun z=>hd (by simp [z]);have z3:d≠n+4:=fun z=>hd (by simp [z]);have z4:d≠n:=fun z=>hd (by simp [z]);have z5:d≠n+1:=fun z=>hd (by simp [z]);have z6:d≠n+2:=fun z=>hd (by simp [z]);exact (sb.2 d z1).trans (kp d o z1 z3 z4 z5 z6 e)
  have hlt:n+5<s.heap.objs.size:=old _ (by simp);have I2:Inv X Jw σ (upd H s.heap.objs.size (.tup [x,y,z])) { s with heap:=h2,toks:=s.toks }:=I.turnedNew (t':=s.toks) hf kk (D8 _)
   ⟨by show 3<=EJ;decide,[u,v,t],.cons ru (.cons rv2 (.cons rt .nil)),⟨_,(sb.2 _ (F5 hlt)).trans tp,rfl,_,rfl⟩⟩
  refine⟨.ref s.heap.objs.size,_,I2,rfl,⟨_,x,y,z,rfl,I.fresh,rfl,fun q hz=>by rw [I.list_inj hz hq];exact hx,fun q hz=>by rw [I.list_inj hz hp];exact hy,fun q hz'=>by rw [I.list_inj hz' hr];exact hz⟩,⟨m1,?_,⟨u,v,t,?_⟩,?_,?_,?_⟩,fun d hd=>?_⟩
  ·exact (sb.2 _ (aN (by omega))).trans (kp _ _ (aN (by omega)) (aN (by omega)) (aN (by omega)) (aN (by omega)) (aN (by omega)) s2)
  ·exact (sb.2 _ (aN (by omega))).trans n3
  ·exact n4.at fun o eo=>(sb.2 _ (aN (by omega))).trans eo
  ·exact n5.at fun o eo=>(sb.2 _ (aN (by omega))).trans eo
  ·exact n6.at fun o eo=>(sb.2 _ (aN (by omega))).trans eo
  ·rw [zu (EE (old d hd))];exact (hf d hd).1
 done:=by
  intro X hP hw hK hc i Jw s σ H E I hf st hg;subst hP hw hK;obtain⟨xs,hq,hx⟩:=hg;obtain⟨its,rv,p,_⟩:=I.list hq;obtain⟨s1,s2,_,s4,_,_⟩:=st;have hl:=rv.length;have hT:s.TypeIs (.ref (n+5)) "zip":=⟨_,s1,rfl⟩;unfold pyNext;refine DR (IX (wpAny_callSpecial?_slot hT HD (wpAny_call_entry HD hT F.entry_zip_next (Bu (I.ok.hd hc) La s1 s2 s4 p.isList (by simp;omega) fun h' e hk he=>?_) (F.args_zip_next_1 _))));obtain⟨o,ho,hc⟩:=he;refine DR (Io (T:="StopIteration") (b:=true) ⟨o,ho,hc⟩ isSubtype_stop (D3 ⟨rfl,?_⟩));exact I.turnedAll (t':=s.toks) hf fun d o hb e'=>hk d o (fun z=>hb (by simp [z])) (fun z=>hb (by simp [z])) e'
 self:=fun _ _ _ _ _ st h=>wpAny_pyIter_zip st.1 h
section
variable {X:Cx} {es:List Expr} {k:Nat} {tpos:Pos}
def Ad (K:DT) (ta:TA):TI:=fun σ H R=>ta σ H fun vs H1=>∃ a b c,vs=[.ref a,.ref b,.ref c]/\(∃ xs,SqL K H1 a xs)/\(∃ ys,SqL K H1 b ys)/\(∃ zs,SqL K H1 c zs)/\R (CZ K a b c) H1
theorem s9 {K:DT} {a b c:Expr} {ta:TA} {p pos:Pos} (hK:X.K=K) (hg:Gl X "zip") (hm:X.mg "zip"=none) (ha:PA X [a,b,c] ta) (hs:EG [a,b,c] X.env=(false,eval a X.env) :: EG [b,c] X.env:=by rfl) (hl:(backTo pos (EG [b,c] X.env)).any (·.1)=false:=by rfl):PI X (.Tuple es k tpos) (.Call (.Name "zip" p) [a,b,c] [] pos) (Ad K ta):=by
 subst hK;intro Jw s σ H R I h;refine Call_ (vT I hg hm boot_zip (Fz (thn (ha pos Jw s σ H _ I h) fun us s1 ⟨vs,H1,I1,r1,q1⟩=>?_) hs hl));obtain⟨l,l',l2,e,⟨xs,hq⟩,⟨ys,hp⟩,⟨zs,hr⟩,q⟩:=q1;subst e;cases r1 with
 | cons r rr =>
  cases rr with
  | cons r' rr' =>
   cases rr' with
   | cons r2 rr2 =>
    cases rr2;cases r;cases r';cases r2;obtain⟨its,rv,p,_⟩:=I1.list hq;obtain⟨its',rv',p',_⟩:=I1.list hp;obtain⟨its2,rv2,p2,_⟩:=I1.list hr;obtain⟨o1,e1,_⟩:=id p.isList;obtain⟨o2,e2,_⟩:=id p'.isList;obtain⟨o3,e3,_⟩:=id p2.isList;refine wF p.isList p'.isList p2.isList fun h' n1 n2 n3 n4 n5 n6 kp=>?_;refine wpAny_pyIter_zip n1 ?_;refine⟨_,[s1.heap.objs.size+5,s1.heap.objs.size+3,s1.heap.objs.size+4,s1.heap.objs.size,s1.heap.objs.size+1,s1.heap.objs.size+2],_,_,H1,rfl,I1.kept (t':=s1.toks) kp,wG (Ea e1) (Ea e2) (Ea e3),⟨n1,n2,⟨_,_,_,n3⟩,n4,n5,n6⟩,fun d hd=>?_,q⟩;have hle:s1.heap.objs.size<=d:=by
     simp only [D5,EN,or_false] at hd;rcases hd with rfl | rfl | rfl | rfl | rfl | rfl <;> first | exact D8 _ | exact Nat.le_add_right _ _
    exact I1.fpOk hle (I1.hok.fresh hle)
end
noncomputable def iO:List PyData->List PyData->List PyData->List PyData
 | d :: ds,e :: es,g :: gs=>.tuple [d,e,g] :: iO ds es gs
 | _,_,_=>[]
theorem m5:∀ {ds es gs:List PyData} {i:Nat} {x:PyData},(iO ds es gs)[i]?=some x->∃ d e g,ds[i]?=some d/\es[i]?=some e/\gs[i]?=some g/\x=.tuple [d,e,g]
 | d :: ds,e :: es,g :: gs,0,x,h=>⟨d,e,g,rfl,rfl,rfl,(Option.some.inj h).symm⟩
 | d :: ds,e :: es,g :: gs,i+1,x,h=>m5 (ds:=ds) (es:=es) (gs:=gs) h
 | [],_,_,_,_,h=>nomatch h
 | _ :: _,[],_,_,_,h=>nomatch h
 | _ :: _,_ :: _,[],_,_,h=>nomatch h
theorem iP:∀ {ds es gs:List PyData},es.length=ds.length->gs.length=ds.length->(iO ds es gs).length=ds.length
 | [],_,_,_,_=>rfl
 | d :: ds,[],_,h,_=>nomatch h
 | d :: ds,e :: es,[],_,h=>nomatch h
 | d :: ds,e :: es,g :: gs,h,h'=>congrArg (·+1) (iP (Nat.succ.inj h) (Nat.succ.inj h'))
section
variable {K:DT} {f:Fx} {ρ:zq} {R:List PyData->Prop} {t:TA}
theorem Bw (h:PAd K f t ρ fun xs=>∃ ds es gs,xs=[.dat (.list ds),.dat (.list es),.dat (.list gs)]/\es.length=ds.length/\gs.length=ds.length/\R (iO ds es gs)):PId K f (Ad K t) ρ R:=fun σ H C e q=>h σ H _ e fun xs vs H1 g1 r1 ⟨ds,es,gs,ex,le,lg,p⟩=>by
 subst ex;cases r1 with
 | cons rx r' =>
  cases r' with
  | cons ry r2 =>
   cases r2 with
   | cons rz r3 =>
    cases r3;obtain⟨a,xs,rfl,h1,h2⟩:=zB.mp rx;obtain⟨b,ys,rfl,k1,k2⟩:=zB.mp ry;obtain⟨c,zs,rfl,m1,m2⟩:=zB.mp rz;have l1:=h2.length;refine⟨a,b,c,rfl,⟨xs,(zf _ _).seq h1⟩,⟨ys,(zf _ _).seq k1⟩,⟨zs,(zf _ _).seq m1⟩,q (iO ds es gs) _ H1 g1 ⟨fun f' H' i d fo sm hd=>?_,fun f' H' _ sm=>⟨xs,(zf _ _).seq (sm.seq h1),by rw [iP le lg];omega⟩⟩ p⟩;obtain⟨d1,d2,d3,e1,e2,e3,rfl⟩:=m5 hd;obtain⟨z1,hz1,rz1⟩:=h2.get e1;obtain⟨z2,hz2,rz2⟩:=k2.get e2;obtain⟨z3,hz3,rz3⟩:=m2.get e3;have q1:SqL K H' a xs:=(zf _ _).seq (sm.seq h1);have q2:SqL K H' b ys:=(zf _ _).seq (sm.seq k1);have q3:SqL K H' c zs:=(zf _ _).seq (sm.seq m1);refine⟨⟨xs,ys,zs,z1,z2,z3,q1,q2,q3,hz1,hz2,hz3⟩,fun x H3 hy=>?_⟩;obtain⟨t,x1,x2,x3,rfl,hn,rfl,y1,y2,y3⟩:=hy;have w1:=y1 xs q1;rw [hz1] at w1;cases w1;have w2:=y2 ys q2;rw [hz2] at w2;cases w2;have w3:=y3 zs q3;rw [hz3] at w3;cases w3;have gn:Goes f' H' (upd H' t (.tup [z1,z2,z3])):=.of_same (yc hn _) fo;exact⟨gn,zZ.mpr ⟨t,_,rfl,.of (zC (fresh_ne fo hn) zy),.cons' (Rep.mono gn.1 _ _ (Rep.mono sm _ _ rz1)) (.cons' (Rep.mono gn.1 _ _ (Rep.mono sm _ _ rz2)) (.cons' (Rep.mono gn.1 _ _ (Rep.mono sm _ _ rz3)) .nil'))⟩⟩
end
structure TQ (K:DT) (f:Fx) (a:DY) (as:List DY) (H2:Hp) (ρ:zq) (Ju:List (List PyData)) (σ:St) (H:Hp):Prop where
 env:EnvOk K (f.withs (a :: as)) ρ σ H
 sm:Same (hide H2 (f.withs (a :: as))) (hide H (f.withs (a :: as)))
 kp:∀ b∈f.M,H b=H2 b
 top:H a=some (.lst (as.map .ref))
 nd:(a :: as).Nodup
 len:as.length=Ju.length
 row:∀ (i:Nat) x r,as[i]?=some x->Ju[i]?=some r->∃ vs,H x=some (.lst vs)/\Reps K (hide H (f.withs (a :: as))) r vs
def PSq (K:DT) (f:Fx) (a:DY) (as:List DY) (ts:TS) (ρ:zq) (Ju:List (List PyData)) (O:zq->List (List PyData)->Prop):Prop:=Sep f (a :: as)->∀ (σ:St) (H H2:Hp) (E:Ends),TQ K f a as H2 ρ Ju σ H ->
 (∀ ρ' rows' σ' H',TQ K f a as H2 ρ' rows' σ' H'->O ρ' rows'->E.nx σ' H')->ts E σ H
section
variable {K:DT} {f:Fx} {a:DY} {as:List DY} {ρ ρ2:zq} {Ju:List (List PyData)} {O:zq->List (List PyData)->Prop} {ts tu:TS} {te ty:TE} {i:Nat} {σ σ2:St} {H H' H2:Hp} {wi:TI} {g:TG}
theorem TQ.tn (x:TQ K f a as H2 ρ Ju σ H):TN K f a as H2 ρ none σ H:=⟨x.env,x.sm,x.kp,fun _ z=>nomatch z⟩
theorem TQ.go (x:TQ K f a as H2 ρ Ju σ H) (g:Goes (f.withs (a :: as)) H H') (e2:EnvOk K (f.withs (a :: as)) ρ2 σ2 H'):TQ K f a as H2 ρ2 Ju σ2 H' :=
 ⟨e2,x.sm.trans g.sm,fun b hb=>(g.kp b (Ed _ hb)).trans (x.kp b hb),(g.kp a (jC D4)).trans x.top,x.nd,x.len,fun i y r h1 h2=>by
  obtain⟨vs,h3,h4⟩:=x.row i y r h1 h2;exact⟨vs,(g.kp y (jC (DW _ (D9 h1)))).trans h3,Reps.mono g.sm _ _ h4⟩⟩
theorem TQ.self (x:TQ K f a as H2 ρ Ju σ H):TQ K f a as H ρ Ju σ H:=⟨x.env,Same.refl _,fun _ _=>rfl,x.top,x.nd,x.len,x.row⟩
theorem TQ.trans {rows':List (List PyData)} (x:TQ K f a as H2 ρ Ju σ H) (y:TQ K f a as H ρ2 rows' σ2 H'):TQ K f a as H2 ρ2 rows' σ2 H':=⟨y.env,x.sm.trans y.sm,fun b hb=>(y.kp b hb).trans (x.kp b hb),y.top,y.nd,y.len,y.row⟩
theorem TQ.rep (se:Sep f (a :: as)) (x:TQ K f a as H2 ρ Ju σ H):Rep K (hide H f) (.list (Ju.map .list)) (.ref a):=by
 have nf:=Bt se;refine zB.mpr ⟨a,_,rfl,.of (zC (nf a D4) x.top),?_⟩;have key:∀ (as:List DY) (Ju:List (List PyData)),as.length=Ju.length->(∀ x∈as,¬ (f.f=some x \/ x∈f.M))->(∀ (i:Nat) x r,as[i]?=some x->Ju[i]?=some r->∃ vs,H x=some (.lst vs)/\Reps K (hide H f) r vs)->Reps K (hide H f) (Ju.map .list) (as.map .ref):=by
  intro as
  induction as with
  | nil=>intro Ju hl _ _;cases Ju with
   | nil=>exact .nil'
   | cons r rs=>cases hl
  | cons x as ih =>
   intro Ju hl hs hr;cases Ju with
   | nil=>cases hl
   | cons r rs =>
    obtain⟨vs,h1,h2⟩:=hr 0 x r rfl rfl;exact .cons' (zB.mpr ⟨x,vs,rfl,.of (zC (hs x D4) h1),h2⟩) (ih rs (by simpa using hl) (fun y hy=>hs y (DW _ hy)) fun i y q h1 h2=>hr (i+1) y q (by simpa using h1) (by simpa using h2))
 exact key as Ju x.len (fun y hy=>nf y (DW _ hy)) fun i y r h1 h2=>by
  obtain⟨vs,h3,h4⟩:=x.row i y r h1 h2;exact⟨vs,h3,Reps.mono yn _ _ h4⟩
theorem TQ.read (se:Sep f (a :: as)) (x:TQ K f a as H2 ρ Ju σ H) (hi:ρ[i]?=some (some (.own f.M.length))):EnvOk K f ((ρ.map (jq f.M.length)).set i (some (.dat (.list (Ju.map .list))))) σ H:=by
 have o:=x.tn.out;refine⟨by rw [FH];exact o.len,fun q z hz=>?_,o.fd⟩;by_cases e:i=q
 ·subst e;rw [List.getElem?_set,Jy rfl] at hz;split at hz
  ·cases hz;exact⟨_,x.tn.at hi,x.rep se⟩
  ·cases hz
 ·rw [Fe e] at hz;exact o.get q z hz
theorem Ae (h:PId K (f.withs (a :: as)) wi ρ fun ds=>∃ J:Nat->zq->List (List PyData)->Prop,J 0 ρ Ju /\
   (∀ (i:Nat) d ρ' rows',ds[i]?=some d->J i ρ' rows'->PGd K (f.withs (a :: as)) g d ρ' fun ρ2=>PSq K f a as ts ρ2 rows' (J (i+1)))/\∀ ρ' rows',J ds.length ρ' rows'->O ρ' rows') :
  PSq K f a as (nU wi g ts) ρ Ju O:=fun se σ H H2 E x n=>h σ H _ x.env fun ds J H1 g1 it ⟨Jv,j0,js,jd⟩=>by
 have x1:=x.go g1 (x.env.mono g1);refine⟨fun i m σ' H'=>∃ ρ' cs',TQ K f a as H2 ρ' cs' σ' H'/\Same (hide H1 (f.withs (a :: as))) (hide H' (f.withs (a :: as)))/\Jv i ρ' cs'/\m+i=ds.length,⟨ds.length,ρ,Ju,x1,Same.refl _,j0,rfl⟩,fun i m σ' H' ⟨ρ',cs',x',sm',p,hm⟩=>?_⟩;by_cases hi:i<ds.length
 ·obtain⟨hgo,hy⟩:=it.go (f.withs (a :: as)) H' i _ x'.env.fd sm' (DQ hi);refine .inr ⟨hgo,fun σ2 H3=>∃ ρ2 cs2,TQ K f a as H2 ρ2 cs2 σ2 H3/\Same (hide H1 (f.withs (a :: as))) (hide H3 (f.withs (a :: as)))/\Jv (i+1) ρ2 cs2,fun σ2 H3 ⟨ρ2,cs2,e2,g2,p2⟩=>⟨m - 1,by omega,ρ2,cs2,e2,g2,p2,by omega⟩,fun v H3 hx=>?_⟩;obtain⟨g3,r3⟩:=hy v H3 hx;have x3:=x'.go g3 (x'.env.mono g3);refine js i _ ρ' cs' (DQ hi) p σ' H3 v _ x3.env r3 fun ρ2 σ2 H4 g4 e4 p4=>?_;have x4:=x3.go g4 e4;have sm4:=(sm'.trans g3.sm).trans g4.sm;exact p4 se σ2 H4 H4 _ x4.self fun ρ5 cs5 σ5 H5 x5 p5=>⟨ρ5,cs5,x4.trans x5,sm4.trans x5.sm,p5⟩
 ·have ei:i=ds.length:=by omega
  subst ei;exact .inl ⟨it.st (f.withs (a :: as)) H' x'.env.fd sm',n ρ' cs' σ' H' x' (jd ρ' cs' p)⟩
theorem C0 (hi:ρ[i]?=some (some (.own f.M.length))) (h:PEd K (f.withs (a :: as)) ty ρ fun y=>∃ r:Nat,y=.int r/\∃ row,Ju[r]?=some row/\row.length<1000/\PEd K (f.withs (a :: as)) te ρ fun d=>O ρ (Ju.set r (row++[d]))) :
  PSq K f a as (dW (tBM K "list" bX (tOp (kE K) (yD i) ty) (yK te qM))) ρ Ju O:=fun se σ H H2 E x n=>by
 refine⟨.ref a,x.tn.at hi,h σ H _ x.env fun y u H1 g1 r1 ⟨r,ey,row,hr,hl,h4⟩=>?_⟩;subst ey;rw [zw.mp r1];have x1:=x.go g1 (x.env.mono g1);have hlt:r<as.length:=by rw [x1.len];exact (DU.mp hr).1
 have ha:as[r]?=some as[r]:=DQ hlt;obtain⟨vs1,hv1,_⟩:=x1.row r _ row ha hr;refine⟨a,as.map .ref,(r:Int),.ref as[r],rfl,rfl,.of x1.top,fg (by rw [D7,ha];rfl),Or.inl ⟨rfl,_,.of hv1⟩,?_⟩;refine h4 σ H1 _ x1.env fun d v H3 g3 r3 ho=>?_;have x3:=x1.go g3 (x1.env.mono g3);obtain⟨vs,hv,rv⟩:=x3.row r _ row ha hr;have lv:=rv.length;refine⟨as[r],vs,v,rfl,rfl,hv,yg (by omega),?_⟩;have hm:as[r]∈a :: as:=DW _ (D9 ha);have nd:=E5.mp x3.nd;have ne:a≠as[r]:=fun z=>nd.1 (z▸D9 ha);refine n ρ _ σ _ ⟨mR se hm x3.env,by rw [yk hm];exact x3.sm,fun b hb=>(zu (fun (z:b=as[r])=>se.nm _ hm (z▸hb))).trans (x3.kp b hb),(zu ne).trans x3.top,x3.nd,by rw [FH];exact x3.len,fun j y q h1 h2=>?_⟩ ho;rw [yk hm];by_cases e:r=j
 ·subst e;rw [ha] at h1;cases h1;rw [E4 (DU.mp hr).1] at h2;cases h2;exact⟨_,zy,Reps.snoc r3 rv⟩
 ·rw [Fe e] at h2;have hy:y≠as[r]:=fun z=>by
   subst z;exact e ((List.getElem?_inj hlt nd.2).mp (ha.trans h1.symm))
  obtain⟨vs',h3,h4⟩:=x3.row j y q h1 h2;exact⟨vs',(zu hy).trans h3,h4⟩
theorem Bx {R:List PyData->Prop} (h:Ct K f te ρ fun rows0=>(∀ r∈rows0,r=[])/\i<ρ.length/\∀ a as,PSq K f a as ts (ρ.set i (some (.own f.M.length))) (rows0.map fun _=>[]) fun ρ' rows'=>ρ'[i]?=some (some (.own f.M.length))/\PSn K f tu ((ρ'.map (jq f.M.length)).set i (some (.dat (.list (rows'.map .list))))) R) :
  PSn K f (qt (qe te (yS i)) (qt ts tu)) ρ R:=fun σ H E e q =>
 h σ H _ e fun Ju a as H1 g1 na nas t1 ⟨h0,hi,p⟩=>by
  have hn:∀ D∈a :: as,H D=none:=fun D hD=>(D5.mp hD).elim (fun z=>z▸na) (nas D);have nf:∀ D∈a :: as,¬ (f.f=some D \/ D∈f.M):=fun D hD=>fresh_ne e.fd (hn D hD);have se:Sep f (a :: as):=⟨t1.nd,fun D hD z=>nf D hD (.inl z),fun D hD z=>nf D hD (.inr z)⟩;have sm1:=oE (Ds:=a :: as) g1.sm hn;have there:∀ D∈a :: as,∃ o,H1 D=some o:=fun D hD=>by
   rcases D5.mp hD with rfl | h
   ·exact⟨_,t1.top⟩
   ·obtain⟨j,hj⟩:=FO h;exact⟨_,t1.row j D _ hj (DQ (by rw [<-t1.len];exact (DU.mp hj).1))⟩
  have fo1:FOk (f.withs (a :: as)) H1:=⟨g1.ok.fd,fun b hb=>(En.mp hb).elim (fun h=>there b (Gb.mp h)) (g1.ok.mm b),fun q eq hq=>(En.mp hq).elim (fun h=>nf q (Gb.mp h) (.inl eq)) (g1.ok.nm q eq)⟩;have e1:EnvOk K (f.withs (a :: as)) ρ σ H1:=⟨e.len,fun q y hy=>by
   obtain⟨v,a1,a2⟩:=e.get q y hy;refine⟨v,a1,?_⟩;cases y with
   | dat d=>exact Rep.mono sm1 d v a2
   | feed=>exact a2
   | exc C=>obtain⟨b,h3,h4⟩:=a2;exact⟨b,h3,sm1 _ _ h4⟩
   | mon φ=>exact fun H' s=>a2 H' (sm1.trans s)
   | own k =>
    obtain⟨b,h3,h4⟩:=a2;exact⟨b,by rw [vD,Ec (DU.mp h3).1];exact h3,h4⟩,fo1⟩
  have rv:RepV K (f.withs (a :: as)) H1 (.own f.M.length) (.ref a):=⟨a,by rw [vD,Ee (by simp)];simp,rfl⟩;refine p a as se _ H1 H1 _ ⟨e1.set i rv,Same.refl _,fun _ _=>rfl,t1.top,t1.nd,by rw [DS];exact t1.len,fun j x r hx hr=>?_⟩ fun ρ' rows' σ' H' x' ⟨hi',pn⟩=>?_
  ·rw [D7] at hr;cases hj:Ju[j]? with
   | none=>rw [hj] at hr;cases hr
   | some r0 =>
    rw [hj] at hr;cases hr;have:=t1.row j x r0 hx hj;rw [h0 r0 (D9 hj)] at this;exact⟨[],this,.nil'⟩
  ·have G:Goes f H H':=⟨(sm1.trans x'.sm).trans yn,x'.tn.fok,fun b hb=>(x'.kp b hb).trans (g1.kp b hb)⟩;exact pn σ' H' E (x'.read se hi') fun es D vs H5 g5 hD hv rv r=>q es D vs H5 (G.trans g5) (G.free e.fd hD) hv rv r
end
end L2
end
section
namespace L2
open PySem PySem.Spec PyProof.Rows
inductive PEs (X:Cx):List (Expr×Expr)->List (TE×TE)->Prop where
 | nil:PEs X [] []
 | cons {k v:Expr} {tk tv:TE} {es:List (Expr×Expr)} {ts:List (TE×TE)}:PE X k tk->PE X v tv->PEs X es ts->PEs X ((k,v) :: es) ((tk,tv) :: ts)
inductive RelPs:List (V×V)->List (Value×Value)->Prop where
 | nil:RelPs [] []
 | cons {k v:V} {a b:Value} {l:List (V×V)} {us:List (Value×Value)}:RelV k a->RelV v b->RelPs l us->RelPs ((k,v) :: l) ((a,b) :: us)
inductive RepP (K:DT) (Hh:Hp):List (PyData×PyData)->List (V×V)->Prop where
 | nil:RepP K Hh [] []
 | cons {k v:PyData} {a b:V} {l:List (PyData×PyData)} {us:List (V×V)}:Rep K Hh k a->Rep K Hh v b->RepP K Hh l us->RepP K Hh ((k,v) :: l) ((a,b) :: us)
end L2
end
section
set_option maxHeartbeats 400000
namespace L2
open PySem PySem.Spec PyProof.Rows
structure PEw (X:Cx) (e:Expr) (t:TE):Prop where
 pe:PE X e t
structure PEsW (X:Cx) (es:List (Expr×Expr)) (ts:List (TE×TE)):Prop where
 pes:PEs X es ts
structure CSo (w:World) (K:DT) (f:Fx) (D:DY) (H2:Hp) (ρ':zq) (kvs:List (PyData×PyData)) (σ:St) (H:Hp):Prop where
 env:EnvOk K (f.with D) ρ' σ H
 sm:Same (hide H2 (f.with D)) (hide H (f.with D))
 kp:∀ b∈f.M,H b=H2 b
 own:OwnAt w K (hide H (f.with D)) H D (.dic kvs)
end L2
end
section
namespace L2
open PySem PySem.Spec PyProof.Rows PySem.SetTable
end L2
end
section
namespace L2
open PySem PySem.Spec PyProof.Rows PySem.SetTable
def byT (w:World):Bool:=w.params.followText "set-order"
structure ISet (w:World) (h:Heap) (a:DY) (xs:List (Int×Tok)) (o:Obj) (es:Array (Int×Value)) (ep:Nat) (t:SetTable):Prop where
 ob:h.get? a=some o
 ex:o.ExactSet
 da:o.data=.set es ep t
 el:es.toList=xs.map fun x=>(hashInt x.1,Value.int x.1 x.2)
 ok:ST.TOk t (xs.map fun x=>hashInt x.1)
 pl:t.plain=true
 ld:byT w=true \/ t.led=true
end L2
end
section
namespace L2
open PySem PySem.Spec PyProof.Rows PySem.SetTable
end L2
end
section
namespace L2
open PySem PySem.Spec PyProof.Rows PySem.SetTable PySem.W
end L2
end
section
namespace L2
open PySem PySem.Spec PyProof.Rows
end L2
end
section
namespace L2
open PySem PySem.Spec PyProof.Rows
structure TV (K:DT) (f:Fx) (H0:Hp) (a:DY) (as:List DY) (ρ:zq) (Ju:List (List Int)) (σ:St) (H:Hp):Prop where
 env:EnvOk K (f.withs (a :: as)) ρ σ H
 go:Goes f H0 H
 na:H0 a=none
 nas:∀ x∈as,H0 x=none
 tab:TabAt H a as Ju
end L2
end
section
namespace L2
open PySem PySem.Spec PyProof.Rows
end L2
end
section
namespace L2
open PySem PySem.Spec PyProof.Rows
def Reads (P:Program) (w:World) (env:Env) (h:Heap) (e:Expr) (R:Value->Prop):Prop :=
 ∀ (A:Around) (s:Shared) (Q:Value->Shared->Prop) (E:Value->Shared->Prop),s.heap=h->(∀ v tk,R v->Q v { s with toks:=tk })->Eo (model P w) A (eval e env) Q E s
end L2
end
section
namespace L2
open PySem PySem.Spec PyProof.Rows
theorem de {β:Type}:∀ {l:List (Nat×β)} {x:Nat} {y:β},l.lookup x=some y->(x,y)∈l
 | [],_,_,h=>by cases h
 | (a,b) :: r,x,y,h=>by
  rw [EU] at h;cases e:x == a with
  | true=>rw [e] at h;cases h;rw [beq_iff_eq.mp e];exact D4
  | false=>rw [e] at h;exact DW _ (de h)
noncomputable def aC (K:DT) (ts:List (DY×Str)):Bool :=
 ts.all (fun p=>(K.lookup p.1).isNone && K.any fun c=>GY K c.1 p.1) && K.all fun x=>match x.2.data with
  | .fields vs=>(match (vs[1]?:Option Value),(vs[11]?:Option Value) with
   | some (.str q _),some (.ref P)=>!fe.contains q || decide (ts.lookup P=some (Ax q))
   | _,_=>true)
  | _=>true
theorem By {K:DT} {h:Heap} (X:K.In h) {ts:List (DY×Str)} (hB:aC K ts=true) {c P:DY} {q:Str} (hq:q∈fe) (h1:GY K c P=true) (h2:GS K (.ref c) q=true):ts.lookup P=some (Ax q):=by
 unfold aC at hB;rw [Eb] at hB;obtain⟨c2,oc,us,tq,z1,z2,z3,z4⟩:=PySem.W.codeRec_of X h2;cases z1;unfold GY at h1;split at h1
 ·rename_i vs _ hk;have hm:=GB.mp hB.2 _ (de hk);dsimp only at hm;have z5:=X _ _ hk;rw [z2] at z5;cases z5;cases z3;have e11:(us[11]?:Option Value)=some (.ref P):=by
   simp only [Eb] at h1;obtain⟨⟨⟨⟨⟨e1,_⟩,_⟩,_⟩,_⟩,_⟩:=h1;split at e1
   ·rename_i P' h11;rw [h11,beq_iff_eq.mp e1]
   ·cases e1
  rw [z4,e11] at hm;simp only [Bool.or_eq_true,Bool.not_eq_true'] at hm;rcases hm with z | z
  ·have:=List.contains_iff_mem.mpr hq;rw [this] at z;cases z
  ·exact of_decide_eq_true z
 ·cases h1
noncomputable def eR (ts:List (DY×Str)) (tr:Bool) (a:DY) (o:Obj) (xs:List V):Hp:=fun b=>match ts.lookup b with
 | some q=>some (.tbl q)
 | none=>if tr=true/\b=a then some (.frz o (.lst xs)) else none
theorem oJ {ts:List (DY×Str)} {tr:Bool} {a b:DY} {o:Obj} {xs:List V} {q:Str} (h:ts.lookup b=some q):eR ts tr a o xs b=some (.tbl q):=by unfold eR;rw [h]
theorem td {ts:List (DY×Str)} {tr:Bool} {a b:DY} {o:Obj} {xs:List V} {u:HO} (h:eR ts tr a o xs b=some u):(∃ q,ts.lookup b=some q/\u=.tbl q) \/ (tr=true/\b=a/\u=.frz o (.lst xs)):=by
 unfold eR at h;cases e:ts.lookup b with
 | some q=>rw [e] at h;cases h;exact .inl ⟨q,rfl,rfl⟩
 | none =>
  rw [e] at h;dsimp only at h;split at h
  ·rename_i z;cases h;exact .inr ⟨z.1,z.2,rfl⟩
  ·cases h
theorem oK {P:Program} {w:World} {K:DT} {mg mb:Str->Option Value} {CX:CXT} {k:Nat} {fa a:DY} {fd:FuncData} {x:Str} {sp:Sp} {s₁:Shared} {vs:List Value} {ns:List Int} {ts:List (DY×Str)}
  (hB:aC K ts=true) (hts:∀ p∈ts,s₁.heap.get? p.1=some (Hg #[])) (hbm:∃ b o,mg "__builtins__"=some (.ref b)/\b≠builtinsNs/\s₁.heap.get? b=some o/\o.cls=.type "module"/\o.dict=some builtinsNs/\o.data=.plain)
  (KX:K.In s₁.heap) (hns:s₁.heap.Ns EB mg) (hb:s₁.heap.Ns builtinsNs mb) (hbb:∀ x:Str,x ≠ "__name__"->mb x=bootBuiltins x) (hlim:s₁.heap.NoLimit) (hg:s₁.gens=#[])
  (ha:s₁.heap.get? a=some { cls:=.type "list",data:=.seq vs.toArray }) (hi:IntsAre vs ns) (hl:ns.length<=EJ) (hr:Room k callerA)
  (F:∀ base:Heap,K.In base->base.Ns EB mg->FnOk P w K mg base CX k fa fd [x] sp) (hbind:∀ (s:Shared) (u:Value),BindsTo s fd ⟨[u],[]⟩ [(x,u)])
  (hsp:∀ H:Hp,SqL K H a (ns.map V.int)->sp [.ref a] H (fun v _=>v=.bl true) fun _ _ _=>False)
  (hCX:∀ H e s',CX [] H s₁ (fun _ _ _=>False) e s'->False) :
  codeAny (model P w) callerA (.call (.ref fa) ⟨[.ref a],[]⟩) (fun r s'=>r=.ok (.ret (.bool true))/\OldK s₁.heap s'.heap/\s'.os=s₁.os/\AllBare s'.gens) s₁:=by
 have rv:=en hi;have lenV:=hi.length;have hB1:∀ p∈ts,K.lookup p.1=none/\∃ c,GY K c p.1=true:=fun p hp=>by
  have h1:=GB.mp (Eb _ _▸hB).1 p hp;rw [Eb] at h1;obtain⟨c,_,hc⟩:=List.any_eq_true.mp h1.2;exact⟨G0.mp h1.1,c.1,hc⟩
 obtain⟨tr,htr⟩:∃ tr:Bool,tr=(K.lookup a).isNone:=⟨_,rfl⟩;generalize hH:eR ts tr a { cls:=.type "list",data:=.seq vs.toArray } (ns.map V.int)=H;have ofH:∀ {b u},H b=some u->(∃ q,(b,q)∈ts/\u=.tbl q/\s₁.heap.get? b=some (Hg #[])) \/ (tr=true/\b=a/\u=.frz { cls:=.type "list",data:=.seq vs.toArray } (.lst (ns.map V.int))):=fun {b u} e=>by
  rw [<-hH] at e;rcases td e with⟨q,e1,e2⟩ | z
  ·exact .inl ⟨q,de e1,e2,hts _ (de e1)⟩
  ·exact .inr z
 have ataT:ts.lookup a=none:=by
  cases e:ts.lookup a with
  | none=>rfl
  | some q=>have:=hts _ (de e);rw [ha] at this;cases this
 have hok:HOk P w H s₁.heap:=fun b u e=>by
  rcases ofH e with⟨q,e1,rfl,e3⟩ | ⟨e1,rfl,rfl⟩
  ·exact⟨#[],e3,trivial,fun pos cv z=>by cases z⟩
  ·exact⟨ha,by rw [DS];exact hl,vs,_,rv,ha⟩
 have free:∀ {b:DY} {o:Obj},s₁.heap.get? b=some o->(∀ vs,o.data≠.fields vs)->(∀ vs n,o.data≠.seq vs n)->H b=none:=fun {b o} e d1 d2=>by
  cases q:H b with
  | none=>rfl
  | some u =>
   rcases ofH q with⟨_,_,_,e3⟩ | ⟨_,rfl,_⟩
   ·rw [e] at e3;cases e3;exact absurd rfl (d1 _)
   ·rw [ha] at e;cases e;exact absurd rfl (d2 _ _)
 have nsK:∀ {b:DY} {m:Str->Option Value},s₁.heap.Ns b m->(gM s₁.heap H).Ns b m:=fun {b m} ⟨o,es,ep,e,d,r⟩=>⟨o,es,ep,cA e (free e (fun _ z=>by rw [d] at z;cases z) fun _ _ z=>by rw [d] at z;cases z),d,r⟩;have hKb:K.In (gM s₁.heap H):=fun b o e=>cA (KX b o e) (by
  cases q:H b with
  | none=>rfl
  | some u =>
   rcases ofH q with⟨_,e1,_,_⟩ | ⟨e1,rfl,_⟩
   ·rw [(hB1 _ e1).1] at e;cases e
   ·rw [htr,G0] at e1;rw [e1] at e;cases e)
 have hM:Mod K mg (gM s₁.heap H):=⟨hKb,nsK hns,⟨mb,nsK hb,hbb⟩,let⟨mc,h1,h2⟩:=hlim;⟨mc,nsK h1,h2⟩,by
  obtain⟨b,o,h1,h2,h3,h4,h5,h6⟩:=hbm;exact⟨b,o,h1,h2,cA h3 (free h3 (fun _ z=>by rw [h6] at z;cases z) fun _ _ z=>by rw [h6] at z;cases z),h4,h5,h6⟩⟩
 have tabs:TabsOk K H:=fun c P q hq h1 h2=>by rw [<-hH];exact oJ (By KX hB hq h1 h2)
 have e0:Env0 P w K mg (gM s₁.heap H) callerA [] s₁ H:=⟨rfl,hM,fun b o e=>uG e,Gn (nS _ _),trivial,(fun b z=>by cases z),tabs,hok,.of_eq hg⟩;have hS:SqL K H a (ns.map V.int):=by
  cases hk:K.lookup a with
  | some o =>
   have e:=KX a o hk;rw [ha] at e;cases e;exact .inr ⟨_,vs.toArray,_,hk,rfl,rfl,rfl,by rw [Em,lenV];exact hl,by simpa using rv⟩
  | none =>
   refine .inl (.inr ⟨{ cls:=.type "list",data:=.seq vs.toArray },?_⟩);rw [<-hH];unfold eR;rw [ataT];exact Jy ⟨by rw [htr,hk];rfl,rfl⟩
 refine Jh ((F _ hKb (nsK hns)).run callerA [] s₁ H ⟨[.ref a],[]⟩ [.ref a] [.ref a] _ _ hr e0 (hbind s₁ (.ref a)) (.cons rfl .nil) (hsp H hS)) fun r s' h=>?_;cases r with
 | error e=>exact (hCX H e s' h).elim
 | ok fl =>
  cases fl with
  | next=>exact GD h
  | brk=>exact GD h
  | cont=>exact GD h
  | ret u =>
   obtain⟨v,H',os,bare,un,hok',r',rfl⟩:=h;obtain rfl:u=Value.bool true:=r';refine⟨rfl,⟨fun b o e=>?_,fun b o e=>un.there b o e (by simp)⟩,os,bare⟩;cases q:H b with
   | none=>exact .inl (un.keep b o e q (fun z=>by cases z) (fun z=>by cases z))
   | some u =>
    rcases ofH q with⟨qq,e1,rfl,e3⟩ | ⟨_,rfl,rfl⟩
    ·rw [e] at e3;cases e3;obtain⟨ps,e4,_⟩:=hok' b _ (un.tbls b _ q);obtain⟨c,hc⟩:=(hB1 _ e1).2;obtain⟨oc,us,_,_,_,_,_,_,_,c1,c2,c3,c4,_⟩:=PySem.W.codeHd_of_K KX hc;refine .inr (.inl ⟨⟨c,oc,us,c1,c2,c3,c4⟩,rfl,#[],ps,rfl,?_⟩);rw [Array.empty_append];exact e4
    ·obtain⟨e1,_⟩:=hok b _ q;obtain⟨e2,_⟩:=hok' b _ (un.frzs b _ _ q);rw [e] at e1;cases e1;exact .inl e2
theorem walk_T {l:PySem.W.OpenLaw} {n k:Nat} {q:Program} {loose:List Str} {XP:(Str->Option Value)->Heap->Prop} {YP:World->Heap->Prop} {d:DefRec} {K:Params->DT} {CX:World->CXT} {sp:World->Sp} {x:Str} (ts:List (DY×Str))
  (hn:l.most=some n) (hn2:n<=EJ) (hdf:d.params.defaults=[]) (hr:Room k callerA)
  (hY:∀ (w:World) (h:Heap),YP w h->(K w.params).In h/\∀ p∈ts,h.get? p.1=some (Hg #[])) (hB:∀ w:World,aC (K w.params) ts=true)
  (F:∀ (w:World) (mg:Str->Option Value) (fa:DY) (h:Heap),(K w.params).In h->h.Ns EB mg->mg d.name=some (.ref fa) ->
   ∃ fd:FuncData,(∀ (s:Shared) (u:Value),BindsTo s fd ⟨[u],[]⟩ [(x,u)]) /\
    ∀ base:Heap,(K w.params).In base->base.Ns EB mg->FnOk l.prog w (K w.params) mg base (CX w) k fa fd [x] (sp w))
  (hsp:∀ (w:World) (H:Hp) (a:DY) (ns:List Int),ns.length<=n->SqL (K w.params) H a (ns.map V.int)->sp w [.ref a] H (fun v _=>v=.bl true) fun _ _ _=>False)
  (hCX:∀ (w:World) (H:Hp) (s:Shared) (e:Value) (s':Shared),CX w [] H s (fun _ _ _=>False) e s'->False) :
  PySem.W.WalkO q loose XP YP l.row.toRowW d [] (fun f vs=>PySem.call f vs):=by
 refine Att.attach_call hn hdf fun w s₀ s₁ mg mb fa o pm cd doc a vs ns G Y ho hd hcd hmg hobj hints hlen hg=>?_;obtain⟨KX,hts⟩:=hY w _ Y;obtain⟨fd,hb,hF⟩:=F w mg fa _ KX G.T.g hmg;exact oK (hB w) hts G.T.bmain KX G.T.g G.T.b G.T.builtins G.T.nolimit hg hobj hints (Er hlen hn2) hr hF hb (fun H hS=>hsp w H a ns hlen hS) fun H e s'=>hCX w H s₁ e s'
end L2
end
section
namespace L2
open PySem PySem.Spec PyProof.Rows
end L2
end
section
namespace L2
open PySem PySem.Spec PyProof.Rows
noncomputable def DicZ (w:World) (a:DY) (xs:List (PyData×DY×Value)) (o:Obj):HO:=.ext fun h=>∃ es ep,DicObj w h a xs o es ep
theorem DicZ.ok {P:Program} {w:World} {H:Hp} {h:Heap} {a:DY} {xs:List (PyData×DY×Value)} {o:Obj} {es:Array DictEntry} {ep:Nat} (S:DicObj w h a xs o es ep):ObjOk P w H h a (DicZ w a xs o) :=
 ⟨⟨es,ep,S⟩,⟨o,S.ob⟩,fun h1 h2 ⟨es,ep,S⟩ k=>⟨es,ep,⟨k o S.ob,S.ex,S.da,S.el,S.nd,S.ns⟩⟩⟩
def C1 (w:World) (te:TE):TE:=fun σ H Q=>te σ H fun x H1=>∃ a xs,x=.ref a/\H1 a=some (DicO w a xs)/\∀ o,Q x (upd H1 a (DicZ w a xs o))
theorem Bz {X:Cx} {w:World} {e:Expr} {te:TE} (hw:X.w=w) (h:PE X e te):PE X e (C1 w te):=by
 subst hw;intro Jw s σ H Q I q;refine thn (h Jw s σ H _ I q) fun v s1 ⟨x,H1,I1,r1,a,xs,ex,hS,q1⟩=>?_;subst ex;obtain⟨⟨o,es,ep,S⟩,_⟩:=I1.hok a _ hS;exact⟨.ref a,_,I1.write (h':=s1.heap) (t':=s1.toks) (x:=a) (e:=a) (by rw [hS];exact trivial) (.inl rfl) (fun b u nb e=>e) ⟨o,S.ob⟩ (DicZ.ok S),r1,q1 o⟩
def dzF (w:World) (K:DT) (kvs:List (PyData×PyData)):Hp->V->Prop:=fun Hh v=>∃ a xs o,v=.ref a/\Hh a=some (DicZ w a xs o)/\Paired (EntR K Hh) xs kvs
def wH (w:World) (K:DT) (f:Fx) (Ds:List DY) (ts:TS) (ρ:zq) (cs:List OC) (j:Nat) (R:List (PyData×PyData)->Prop):Prop:=Sep f Ds->∀ (σ:St) (H H2:Hp) (E:Ends),CM w K f Ds H2 ρ cs σ H ->
 (∀ D kvs ρ' cs' σ' H' xs o,CM w K f Ds H2 ρ' cs' σ' H'->Ds[j]?=some D->H' D=some (DicO w D xs)->Paired (EntR K (hide H' (f.withs Ds))) xs kvs->R kvs->E.rt (.ref D) (upd H' D (DicZ w D xs o)))->ts E σ H
section
variable {w:World} {K:DT} {f:Fx} {ρ:zq} {Ds:List DY} {cs:List OC} {te ta tk:TE} {ts tu:TS} {t:TA} {O:DEnds} {i j:Nat} {R:List (PyData×PyData)->Prop} {kvs:List (PyData×PyData)} {P:PyData->Prop}
theorem BA (h:PSm w K f Ds ts ρ cs { nx:=fun ρ' cs'=>wH w K f Ds tu ρ' cs' j R,rt:=fun _=>False }):wH w K f Ds (qt ts tu) ρ cs j R:=fun se σ H H2 E x q =>
 h se σ H H2 _ x (fun ρ' cs' σ' H' x' p=>p se σ' H' H2 E x' q) (fun _ _ _ _ _ _ _ _ z=>z.elim) (fun _ _ _ _ _ z=>z.elim) (fun _ _ _ _ _ z=>z.elim)
theorem BC (hi:ρ[i]?=some (some (.own (f.M.length+j)))) (hc:cs[j]?=some (.dic kvs)) (h:R kvs):wH w K f Ds (gO (C1 w (yD i))) ρ cs j R:=fun se σ H H2 E x q=>by
 have hj:j<Ds.length:=by rw [<-x.len];exact (DU.mp hc).1
 have hD:Ds[j]?=some Ds[j]:=DQ hj;obtain⟨xs,h1,h2⟩:=x.own j _ _ hD hc;exact⟨_,jF hi x hD,Ds[j],xs,rfl,h1,fun o=>q _ kvs ρ cs σ H xs o x hD h1 h2 h⟩
theorem BD {R:DV->Prop} (h:fO w K f te ρ fun c=>i<ρ.length/\∀ D,wH w K f [D] ts (ρ.set i (some (.own (f.M.length+0)))) [c] 0 fun kvs=>R (.mon (dzF w K kvs))):PSv K f (qt (qe te (yS i)) ts) ρ R:=fun σ H E e q=>by
 have se0:Sep f []:=⟨FC,(fun _ z=>nomatch z),(fun _ z=>nomatch z)⟩;have x0:CM w K f [] H ρ [] σ H:=⟨e,Same.refl _,fun _ _=>rfl,rfl,(fun i D c z=>nomatch z)⟩;refine h σ H _ e fun c D H1 g1 hn ho ⟨hi,p⟩=>?_;have nD:=fresh_ne e.fd hn;refine p D (se0.more e.fd hn) _ H1 H1 E (x0.more g1 hn ho hi) fun D' kvs ρ' cs' σ' H' xs o y h1 h3 h4 r=>?_;cases h1;have z:=x0.less g1 hn y;have zs:Same (hide H f) (hide H' f):=z.sm;have zo:FOk f H':=z.env.fd;have ne:∀ {b:DY},(f.f=some b \/ b∈f.M)->b≠D:=fun hb e=>nD (e▸hb);refine q (.mon (dzF w K kvs)) _ _ ⟨fun b u hb=>?_,⟨fun p hp=>?_,fun b hb=>?_,zo.nm⟩,fun b hb=>?_⟩ (fun H'' s=>⟨D,xs,o,rfl,s D _ (zC nD zy),EntR.mono (fun b u hb=>s b u ?_) h4⟩) r
 ·have nb:b≠D:=zM (zI hb).2 hn;exact zC (zI hb).1 (by rw [zu nb];exact (zI (zs b u hb)).2)
 ·obtain⟨a,b,h5,h6⟩:=zo.fd p hp;exact⟨a,b,by rw [zu (ne (.inl hp))];exact h5,h6⟩
 ·obtain⟨o',h5⟩:=zo.mm b hb;exact⟨o',by rw [zu (ne (.inr hb))];exact h5⟩
 ·rw [zu (ne (.inr hb))];exact z.kp b hb
 ·have h5:=zI hb;have nb:b≠D:=fun e=>h5.1 (.inr (by rw [e];show D∈([D].reverse++f.M);exact Ew _ (Ej.mpr rfl)));exact zC (fun z=>h5.1 (z.elim .inl fun z=>.inr (Ed _ z))) (by rw [zu nb];exact h5.2)
end
theorem m6 {X:Cx} {Jw:List (DY×Obj)} {σ:St} {H:Hp} {s:Shared} {a:DY} {xs:List (PyData×DY×Value)} {o:Obj} (I:Inv X Jw σ H s) (hS:H a=some (DicZ X.w a xs o)) (ks:qx X.K H xs):s.heap.DictOfH (vA X.prog X.w) a xs/\(a == sysModules)=false:=by
 obtain⟨⟨es,ep,S⟩,_⟩:=I.hok a _ hS;exact⟨⟨o,es,ep,S.ob,S.ex,S.da,S.el,fun x hx=>jO I (ks x hx).1 (ks x hx).2,S.nd⟩,S.ns⟩
def tf (w:World) (K:DT):R2:=fun x y H Q=>∃ a b d xs o p v,x=.ref a/\y=.ref b/\H a=some (DicZ w a xs o)/\qx K H xs/\vo d/\Rep K H d (.ref b)/\atKey xs d=some p/\RelV v p.2/\Q v H
theorem C2 {X:Cx} (hu:X.A.units+64<E1):IxR X (tf X.w X.K):=by
 intro value slice Jw s σ H x y v u Q I rx ry h hs;obtain⟨a,b,d,xs,o,p,z,rfl,rfl,hS,ks,kd,rd,hp,rz,q⟩:=h;cases rx;cases ry;obtain⟨hm,ns⟩:=m6 I hS ks;have hu1:X.A.in1.units=X.A.units+1:=rfl;refine subscriptTail_builtinR (x:=p.2) hm.typeIs HV.lookup ?_ hs;exact wpAny_getItem_heap (by show _+40<E1;omega) (jO I kd rd) hm hp ⟨rfl,z,H,I.tok _,rz,q⟩
theorem tj {X:Cx} {K:DT} {w:World} (hw:X.w=w) (hK:X.K=K) (hu:X.A.units+64<E1):IxR X (tf w K):=hw▸hK▸C2 hu
def k9 (w:World) (K:DT):V->List V->Hp->VK->Prop:=fun x ys H Q=>∃ a b d xs o p v,x=.ref a/\ys=[.ref b]/\H a=some (DicZ w a xs o)/\qx K H xs/\vo d/\Rep K H d (.ref b)/\atKey xs d=some p/\RelV v p.2/\Q v H
theorem tm {X:Cx} (hu:X.A.units+64<E1):MtR X "dict.get" (k9 X.w X.K):=by
 intro Jw s σ H x ys v us Q I rx ry h;obtain⟨a,b,d,xs,o,p,z,rfl,rfl,hS,ks,kd,rd,hp,rz,q⟩:=h;obtain⟨u,rfl,ru⟩:=vals1 ry;cases rx;cases ru;obtain⟨hm,ns⟩:=m6 I hS ks;have hu1:X.A.in1.units=X.A.units+1:=rfl;refine call_meetsIn Hr hm.typeIs PySem.F.entry_dict_get (PySem.F.args_dict_get_2 _ _) (meetsH_dict_get (vA X.prog X.w) a b ns) ⟨by show _+40<E1;omega,d,xs,jO I kd rd,hm,?_⟩;rw [hp];exact⟨z,H,I.tok _,rz,q⟩
theorem eS {X:Cx} {K:DT} {w:World} (hw:X.w=w) (hK:X.K=K) (hu:X.A.units+64<E1):MtR X "dict.get" (k9 w K):=hw▸hK▸tm hu
def C3 (w:World) (r:V->List V->Hp->VK->Prop) (to:TE) (t:TA):TE:=fun σ H Q=>to σ H fun x H1=>(∃ a xs o,x=.ref a/\H1 a=some (DicZ w a xs o))/\t σ H1 fun xs H2=>r x xs H2 Q
theorem tw {X:Cx} {w:World} {o e:Expr} {es:List Expr} {to:TE} {t:TA} {name:Str} {apos cpos:Pos} {id:String} {r:V->List V->Hp->VK->Prop} (hw:X.w=w) (slot:Slot "dict" name id) (hty:typeOf (.builtin id)=pure (.type "method_descriptor")) (hm:MtR X id r) (ho:PE X o to) (ha:PA X (e :: es) t)
  (hbase:attributeBase o name X.env (eval o X.env)=eval o X.env:=by rfl)
  (hfew:((backTo cpos (EG (e :: es) X.env)).all (fun x=>!x.1) && (backToKw cpos (keywordEach [] X.env)).all (fun x=>x.1.isSome)
   && decide ((e :: es).length+([]:List Keyword).length+(if ([]:List Keyword).isEmpty then 0 else 1)<30))=true:=by rfl)
  (hline:(apos.endLine == cpos.line)=true:=by rfl) (hs:EG (e :: es) X.env=(false,eval e X.env) :: EG es X.env:=by rfl) (hplain:(backTo cpos (EG es X.env)).any (·.1)=false:=by rfl) :
  PE X (.Call (.Attribute o name apos) (e :: es) [] cpos) (C3 w r to t):=by
 subst hw;intro Jw s σ H Q I h;refine wpAny_Call_method_late hbase hfew hline rfl (thn (ho Jw s σ H _ I h) fun v s1 ⟨x,H1,I1,r1,ty,q1⟩=>?_);obtain⟨a,xs,ob,rfl,hS⟩:=ty;cases r1;obtain⟨⟨es',ep,S⟩,_⟩:=I1.hok a _ hS;refine⟨"dict",id,PySem.F.plainAttrs_dict,slot,hty,⟨ob,S.ob,S.ex.1⟩,fun b e=>?_,?_⟩
 ·cases e;exact⟨ob,S.ob,S.ex.2.1⟩
 have hA:=ha cpos Jw s1 σ H1 _ I1 q1;rw [hs] at hA ⊢;refine GH (by show (false || (backTo cpos (EG es X.env)).any (·.1))=false;rw [hplain] <;> rfl) (Hw ?_);exact thn hA fun us s2 ⟨vs,H2,I2,r2,q2⟩=>hm Jw s2 σ H2 (.ref a) vs (.ref a) us Q I2 rfl r2 q2
section
variable {w:World} {K:DT} {f:Fx} {ρ:zq} {te ta tk:TE} {t:TA} {P:PyData->Prop} {kvs:List (PyData×PyData)}
theorem Af (h:PEv K f ta ρ fun x=>∃ kvs,x=.mon (dzF w K kvs)/\PEd K f tk ρ fun k=>bP k/\∃ d,qy k kvs=some d/\P d):PEd K f (tOp (tf w K) ta tk) ρ P:=fun σ H Q e q =>
 h σ H _ e fun x v H1 g1 r1 ⟨kvs,ex,h2⟩=>h2 σ H1 _ (e.mono g1) fun k kv H2 g2 r2 ⟨kt,d,hd,p⟩=>by
  subst ex;obtain⟨b,rfl⟩:=qk kt r2;obtain⟨a,xs,o,rfl,h3,h4⟩:=(RepV.mono g2 r1:RepV K f H2 (.mon (dzF w K kvs)) v) (hide H2 f) (Same.refl _);rcases vB k h4 with⟨_,a2,_⟩ | ⟨p',d',v',a1,a2,a3,a4,_⟩
  ·rw [hd] at a2;cases a2
  ·rw [hd] at a2;cases a2;exact⟨a,b,k,xs,o,p',v',rfl,rfl,(zI h3).2,fun z hz=>⟨(yO h4 z hz).1,Rep.mono (zf _ _) _ _ (yO h4 z hz).2⟩,kt.1,Rep.mono (zf _ _) _ _ r2,a1,a4,q d v' H2 (g1.trans g2) a3 p⟩
theorem tD (h:PEv K f ta ρ fun x=>∃ kvs,x=.mon (dzF w K kvs)/\PAd K f t ρ fun xs=>∃ k,xs=[.dat k]/\bP k/\∃ d,qy k kvs=some d/\P d):PEd K f (C3 w (k9 w K) ta t) ρ P:=fun σ H Q e q =>
 h σ H _ e fun x v H1 g1 r1 ⟨kvs,ex,h2⟩=>by
  subst ex;obtain⟨a0,xs0,o0,e0,h30,h40⟩:=(r1:RepV K f H1 (.mon (dzF w K kvs)) v) (hide H1 f) (Same.refl _);refine⟨⟨a0,xs0,o0,e0,(zI h30).2⟩,h2 σ H1 _ (e.mono g1) fun ks kv H2 g2 r2 ⟨k,ek,kt,d,hd,p⟩=>?_⟩;subst ek;cases r2 with
  | cons rk r' =>
   cases r';obtain⟨b,rfl⟩:=qk kt rk;obtain⟨a,xs,o,rfl,h3,h4⟩:=(RepV.mono g2 r1:RepV K f H2 (.mon (dzF w K kvs)) v) (hide H2 f) (Same.refl _);rcases vB k h4 with⟨_,a2,_⟩ | ⟨p',d',v',a1,a2,a3,a4,_⟩
   ·rw [hd] at a2;cases a2
   ·rw [hd] at a2;cases a2;exact⟨a,b,k,xs,o,p',v',rfl,rfl,(zI h3).2,fun z hz=>⟨(yO h4 z hz).1,Rep.mono (zf _ _) _ _ (yO h4 z hz).2⟩,kt.1,Rep.mono (zf _ _) _ _ rk,a1,a4,q d v' H2 (g1.trans g2) a3 p⟩
end
noncomputable def Itd (w:World) (a:DY) (xs:List (PyData×DY×Value)) (o:Obj):It :=
 ⟨fun i H=>(∃ p,xs[i]?=some p)/\H a=some (DicZ w a xs o),fun i H x H'=>H'=H/\∀ p,xs[i]?=some p->x=.ref p.2.1,fun i H=>xs.length<=i/\H a=some (DicZ w a xs o)⟩
theorem wI {P:Program} {w:World} {K:DT} {tg:Expr} (a it:DY) (xs:List (PyData×DY×Value)) (o:Obj) (es:Array DictEntry) (ep:Nat) (da:o.data=.dict es ep) (el:es.toList=xs.map fun x=>(⟨zx w x.1,.ref x.2.1,x.2.2⟩:DictEntry)) :
  Turn P w K tg (Itd w a xs o) [it] it (fun i h=>h.IsKeyIter it a i es.size ep) where
 mem:=by simp
 obj:=fun i h st b hb=>by
  have e:b=it:=by simpa using hb
  subst e;obtain⟨o,e,c,d⟩:=st;exact⟨o,e,fun v z=>by rw [d] at z;cases z⟩
 keep:=fun i h h' st k=>st.at fun o e=>k it (by simp) o e
 item:=by
  intro X hP hw hK hc i Jw s σ H E I hf st hg;subst hP hw hK;obtain⟨⟨p,hp⟩,hS⟩:=hg;obtain⟨⟨es',ep',S⟩,_⟩:=I.hok a _ hS;have he:es[i]?=some ⟨zx X.w p.1,.ref p.2.1,p.2.2⟩:=by rw [<-Ft,el,D7,hp];rfl
  obtain⟨f0,f1,f2,f3,f4,f5⟩:=hf it (by simp);refine vC (I.ok.hd hc) st S.ob da (fun e h' he' st' sb=>?_) fun z=>by rw [he] at z;cases z
  rw [he] at he';cases he';have I1:Inv X Jw σ H { s with heap:=h' }:=I.turned (t':=s.toks) (fun b o hb e=>(sb.2 b hb).trans e) f0 f1 f3 f4 f5;obtain⟨o',e',c',d'⟩:=id st';exact⟨.ref p.2.1,rfl,lU (s:={ s with heap:=h' }) e' c' d' (by decide) ⟨.ref p.2.1,H,I1,rfl,⟨rfl,fun q hq=>by rw [hp] at hq;cases hq;rfl⟩,st',fun b hb=>(hf b hb).1⟩⟩
 done:=by
  intro X hP hw hK hc i Jw s σ H E I hf st hg;subst hP hw hK;obtain⟨hl,hS⟩:=hg;obtain⟨⟨es',ep',S⟩,_⟩:=I.hok a _ hS;have hn:es[i]?=none:=by rw [<-Ft,el,D7,Ex hl];rfl
  obtain⟨f0,f1,f2,f3,f4,f5⟩:=hf it (by simp);exact vC (I.ok.hd hc) st S.ob da (fun e h' he'=>by rw [hn] at he';cases he') fun _ h' eb=>⟨rfl,I.turned (t':=s.toks) (fun b o hb e=>eb b o hb e) f0 f1 f3 f4 f5⟩
 self:=fun _ _ _ _ _ st h=>wpAny_pyIter_keyiter st h
def iDz (w:World) (te:TE):TI:=fun σ H R=>te σ H fun x H1=>∃ a xs o,x=.ref a/\H1 a=some (DicZ w a xs o)/\R (Itd w a xs o) H1
theorem C4 {X:Cx} {w:World} {tg e:Expr} {te:TE} (hw:X.w=w) (he:PE X e te):PI X tg e (iDz w te):=by
 subst hw;intro Jw s σ H R I h;refine thn (he Jw s σ H _ I h) fun v s1 ⟨x,H1,I1,r1,a,xs,o,ex,hS,q⟩=>?_;subst ex;cases r1;obtain⟨⟨es,ep,S⟩,_⟩:=I1.hok a _ hS;refine cX S.ns S.ob S.ex S.da ?_;refine⟨s1.heap.objs.size,[s1.heap.objs.size],_,_,H1,rfl,I1.kept (t':=s1.toks) fun c o e=>D6 _ e,wI a _ xs o es ep S.da S.el,⟨_,El _ rfl,rfl,rfl⟩,fun c hc=>?_,q⟩;have e:c=s1.heap.objs.size:=Ej.mp hc;subst e;exact I1.fpOk (D8 _) (I1.hok.fresh (D8 _))
section
variable {w:World} {K:DT} {f:Fx} {ρ:zq} {te:TE} {R:List PyData->Prop} {kvs:List (PyData×PyData)}
theorem tE {Hh:Hp}:∀ {xs:List (PyData×DY×Value)} {kvs:List (PyData×PyData)},Paired (EntR K Hh) xs kvs->∀ {i:Nat} {d:PyData},(kvs.map (·.1))[i]?=some d->∃ p,xs[i]?=some p/\Rep K Hh d (.ref p.2.1)
 | _,_,.nil,i,d,h=>by cases i <;> cases h
 | _,_,.cons h1 t,0,d,h=>by
  cases h;exact⟨_,rfl,by have z:=h1.2.2.1;rw [h1.1] at z;exact z⟩
 | _,_,.cons h1 t,i+1,d,h=>tE t h
theorem DJ (h:PEv K f te ρ fun x=>∃ kvs,x=.mon (dzF w K kvs)/\R (kvs.map (·.1))):PId K f (iDz w te) ρ R:=fun σ H C e q=>h σ H _ e fun x v H1 g1 r1 ⟨kvs,ex,p⟩=>by
 subst ex;obtain⟨a,xs,o,rfl,h1,h2⟩:=(r1:RepV K f H1 (.mon (dzF w K kvs)) v) (hide H1 f) (Same.refl _);refine⟨a,xs,o,rfl,(zI h1).2,q (kvs.map (·.1)) _ H1 g1 ⟨fun f' H' i d fo sm hd=>?_,fun f' H' _ sm=>⟨by rw [DS,b9 h2];exact D8 _,(zI (sm a _ h1)).2⟩⟩ p⟩;obtain⟨z,hz,rz⟩:=tE h2 hd;refine⟨⟨⟨z,hz⟩,(zI (sm a _ h1)).2⟩,fun x H3 hy=>?_⟩;obtain⟨rfl,hy⟩:=hy;rw [hy z hz];exact⟨.refl fo,Rep.mono sm _ _ rz⟩
end
end L2
end
section
namespace My
open PySem PySem.Spec PyProof.Rows L2
abbrev pf:List Str:=["rows"]
abbrev ph:List Str:=["rows","x","y"]
abbrev pj:List Str:=["rows","cut","cell"]
abbrev pq:List Str:=["rows","cut"]
abbrev pz:List Str:=["rows","cut","gate"]
abbrev pA:List Str:=["rows","cut","point"]
abbrev pB:List Str:=["a","b","rows"]
abbrev pC:List Str:=["x","y"]
abbrev pE:List Str:=["some"]
abbrev pF:List Str:=["top","bottom"]
abbrev pG:List Str:=["things"]
abbrev pH:List Str:=["_law_feed_here","_law_many"]
abbrev pI:List Str:=["a","b","v","c","d","w"]
abbrev pJ:List Str:=["one","other"]
abbrev pK:List Str:=["rows","gate"]
abbrev pL:List Str:=["_law_feed_here","_law_far","_law_base"]
abbrev pM:List Str:=["x","y","rows"]
abbrev pN:List Str:=["x","y","tall"]
abbrev pO:List Str:=["rows","by"]
abbrev pP:List Str:=["rows","cut","start"]
abbrev pQ:List Str:=["rows","cut","cell","piece"]
abbrev pR:List Str:=["_law_script","_law_k"]
abbrev pS:List Str:=["_law_feed_here"]
abbrev pT:List Str:=["_law_feed_here","_law_rows"]
abbrev pU:List Str:=["_law_rows","_law_cut_here"]
abbrev pV:List Str:=["_law_script"]
abbrev pW:List Str:=["corner","rows","cut"]
abbrev pX:List Str:=["rows","wide","tall"]
abbrev pY:List Str:=["a","b","rows","cut","x","y","high"]
abbrev pZ:List Str:=["_law_x","_law_y","_law_high"]
abbrev qa:List Str:=["_law_x","_law_y","_law_wide"]
abbrev qb:List Str:=["rows","cut","gate","first","second"]
abbrev qc:List Str:=["_law_y","_law_feed_here","_law_wide","_law_far","_law_base"]
abbrev qd:List Str:=["_law_x","_law_feed_here","_law_far","_law_base"]
local macro_rules | `(tactic| walk_at "w")=>`(tactic| repeat walk_at "dl")
local macro_rules | `(tactic| walk_at "c")=>`(tactic| exact⟨rfl,by decide +kernel,of_decide_eq_true (by kernel_rfl),of_decide_eq_true (by kernel_rfl),of_decide_eq_true (by kernel_rfl),rfl⟩)
local macro_rules | `(tactic| walk_at "s")=>`(tactic| exact⟨rfl,rfl,rfl,by decide +kernel,rfl,by decide +kernel,by decide +kernel⟩)
noncomputable def top (i:Nat):Stmt:=PySem.Challenge.pw_heightrings_k33_areas_turned.main.body.getD i (.Pass ⟨0,0,0,0⟩)
noncomputable abbrev fW:=top 1
noncomputable abbrev BE:List Str:=pf
theorem wJ:FnScope BE pf (zj fW):=by walk_at "s"
noncomputable abbrev aE:=top 2
noncomputable abbrev tG:List Str:=pX
theorem br:FnScope tG pf (zj aE):=by walk_at "s"
noncomputable abbrev ql:=top 3
noncomputable abbrev iQ:List Str:=["rows","x","y","wide","tall"]
theorem qS:FnScope iQ ph (zj ql):=by walk_at "s"
noncomputable abbrev jR:=top 4
noncomputable abbrev fX:List Str:=["rows","x","y","beside"]
theorem vS:FnScope fX ph (zj jR):=by walk_at "s"
noncomputable abbrev cf:=top 5
noncomputable abbrev wK:List Str:=pX
theorem df:FnScope wK pf (zj cf):=by walk_at "s"
noncomputable abbrev qT:=top 6
noncomputable abbrev lh:List Str:=ph
theorem iR:FnScope lh ph (zj qT):=by walk_at "s"
noncomputable abbrev vE:=top 7
noncomputable abbrev oM:List Str:=pC
theorem lq:FnScope oM pC (zj vE):=by walk_at "s"
noncomputable abbrev qU:=top 8
noncomputable abbrev lu:List Str:=["rows","x","y","around"]
theorem bJ:FnScope lu ph (zj qU):=by walk_at "s"
noncomputable abbrev aF:=top 13
noncomputable abbrev tH:List Str:=pJ
theorem bt:FnScope tH pJ (zj aF):=by walk_at "s"
noncomputable abbrev qm:=top 14
noncomputable abbrev iS:List Str:=["top","bottom","by"]
theorem qV:FnScope iS pF (zj qm):=by walk_at "s"
noncomputable abbrev cj:=top 15
noncomputable abbrev wM:List Str:=["some","top","bottom","more","parts"]
theorem j8:FnScope wM pE (zj cj):=by walk_at "s"
noncomputable abbrev qo:=top 21
noncomputable abbrev iT:List Str:=["rows","at","row"]
theorem qW:FnScope iT pf (zj qo):=by walk_at "s"
noncomputable abbrev fY:=top 22
noncomputable abbrev BF:List Str:=pG
theorem wN:FnScope BF pG (zj fY):=by walk_at "s"
noncomputable abbrev aG:=top 23
noncomputable abbrev tI:List Str:=["row"]
theorem oN:FnScope tI ["row"] (zj aG):=by walk_at "s"
noncomputable abbrev aH:=top 24
noncomputable abbrev tJ:List Str:=pX
theorem bu:FnScope tJ pf (zj aH):=by walk_at "s"
noncomputable abbrev qX:=top 25
noncomputable abbrev lz:List Str:=pf
theorem iU:FnScope lz pf (zj qX):=by walk_at "s"
noncomputable abbrev aI:=top 26
noncomputable abbrev tK:List Str:=["rows","by","higher"]
theorem eT:FnScope tK pO (zj aI):=by walk_at "s"
noncomputable abbrev jG:=top 28
noncomputable abbrev dN:List Str:=["rows","cut","point","x","y"]
theorem j9:FnScope dN pA (zj jG):=by walk_at "s"
noncomputable abbrev jH:=top 29
noncomputable abbrev dO:List Str:=["gate","x","y","way"]
theorem jt:FnScope dO ["gate"] (zj jH):=by walk_at "s"
noncomputable abbrev qY:=top 30
noncomputable abbrev lA:List Str:=pK
theorem iV:FnScope lA pK (zj qY):=by walk_at "s"
noncomputable abbrev vF:=top 31
noncomputable abbrev oO:List Str:=qb
theorem v5:FnScope oO pz (zj vF):=by walk_at "s"
noncomputable abbrev jS:=top 32
noncomputable abbrev fZ:List Str:=["cell","x","y"]
theorem qA:FnScope fZ ["cell"] (zj jS):=by walk_at "s"
noncomputable abbrev jT:=top 33
noncomputable abbrev gc:List Str:=pj
theorem dP:FnScope gc pj (zj jT):=by walk_at "s"
noncomputable abbrev yW:=top 34
noncomputable abbrev aJ:List Str:=["rows","cut","cell","x","y"]
theorem je:FnScope aJ pj (zj yW):=by walk_at "s"
noncomputable abbrev qZ:=top 36
noncomputable abbrev lB:List Str:=["rows","cut","gate","x","y","way","part","whole"]
theorem jk:FnScope lB pz (zj qZ):=by walk_at "s"
noncomputable abbrev ck:=top 37
noncomputable abbrev wO:List Str:=qb
theorem dg:FnScope wO pz (zj ck):=by walk_at "s"
noncomputable abbrev vG:=top 39
noncomputable abbrev oP:List Str:=["rows","cut","told","placed","point","within","other"]
theorem jD:FnScope oP pq (zj vG):=by walk_at "s"
noncomputable abbrev vH:=top 40
noncomputable abbrev oQ:List Str:=["rows","cut","places","at","word","within","point"]
theorem jE:FnScope oQ pq (zj vH):=by walk_at "s"
noncomputable abbrev jU:=top 41
noncomputable abbrev gf:List Str:=["rows","cut","start","found","waiting","point","other"]
theorem y9:FnScope gf pP (zj jU):=by walk_at "s"
noncomputable abbrev aK:=top 42
noncomputable abbrev tL:List Str:=["rows","cut","point","x","y","high","beside","aslant"]
theorem jY:FnScope tL pA (zj aK):=by walk_at "s"
noncomputable abbrev ju:=top 44
noncomputable abbrev dh:List Str:=["rows","cut","region_at","parts","cell","piece"]
theorem yP:FnScope dh pq (zj ju):=by walk_at "s"
noncomputable abbrev aL:=top 45
noncomputable abbrev tM:List Str:=["rows","cut","cell","x","y","highs","lows"]
theorem qI:FnScope tM pj (zj aL):=by walk_at "s"
noncomputable abbrev vI:=top 46
noncomputable abbrev oR:List Str:=["rows","cut","cell","piece","x","y","above","left","below","right","start","end","found","corner","gate","after"]
theorem yi:FnScope oR pQ (zj vI):=by walk_at "s"
noncomputable abbrev jV:=top 47
noncomputable abbrev gh:List Str:=["around","after","top","bottom"]
theorem jI:FnScope gh ["around"] (zj jV):=by walk_at "s"
noncomputable abbrev q9:=top 49
noncomputable abbrev v7:List Str:=["_law_script","_law_k","_law_cell"]
theorem vp:FnScope v7 pR (zj q9):=by walk_at "s"
noncomputable abbrev va:=top 50
noncomputable abbrev lC:List Str:=["_law_feed_here","_law_many","_law_found"]
theorem bK:FnScope lC pH (zj va):=by walk_at "s"
noncomputable abbrev jW:=top 51
noncomputable abbrev gj:List Str:=pL
theorem dQ:FnScope gj pL (zj jW):=by walk_at "s"
noncomputable abbrev qr:=top 52
noncomputable abbrev iW:List Str:=["_law_feed_here","_law_wide","_law_high","_law_far","_law_base"]
theorem jv:FnScope iW pS (zj qr):=by walk_at "s"
noncomputable abbrev vJ:=top 53
noncomputable abbrev oS:List Str:=["_law_feed_here","_law_rows","_law_row"]
theorem dj:FnScope oS pT (zj vJ):=by walk_at "s"
noncomputable abbrev jc:=top 54
noncomputable abbrev bT:List Str:=["_law_rows","_law_cut_here","_law_found","_law_region","_law_area"]
theorem y8:FnScope bT pU (zj jc):=by walk_at "s"
noncomputable abbrev bL:=top 55
noncomputable abbrev m7:List Str:=["_law_script","_law_k","_law_feed_here","_law_rows","_law_cut_here","_law_wide","_law_high","_law_here","_law_one","_law_other","_law_points","_law_by"]
theorem jP:FnScope m7 pV (zj bL):=by walk_at "s"
noncomputable def tab (Ju:List (List Int)):PyData:=.list (Ju.map fun r=>.list (r.map .int))
structure Good (w:Nat) (Ju:List (List Int)):Prop where
 h1:2<=Ju.length
 h2:Ju.length<=7
 w1:2<=w
 w2:w<=7
 row:∀ r∈Ju,r.length=w
 hgt:∀ r∈Ju,∀ n∈r,-1000000000<=n/\n<=1000000000
theorem Good.ne {w:Nat} {Ju:List (List Int)} (g:Good w Ju):∃ r rs,Ju=r :: rs:=by
 cases Ju with
 | nil=>have:=g.h1;simp at this
 | cons r rs=>exact⟨r,rs,rfl⟩
theorem jX {α β:Type} {F:α->β} {xs:List α} {k:Int} {j:Nat} (hk:(j:Int)=k) (h:j<xs.length):atI (xs.map F) k=some (F xs[j]):=by
 subst hk;exact fg (by rw [D7,DQ h];rfl)
local macro_rules | `(tactic| walk_at "dl")=>`(tactic| first
 | (with_reducible show PSd _ _ (qe _ (gR (yD _) (tC (V.int 0)) cH)) _ _;refine md rfl ?_)
 | (with_reducible show PSd _ _ (qe _ (gR (yD _) (tC (V.int 1)) cH)) _ _;refine me rfl ?_)
 | with_reducible refine zT ?_ | with_reducible refine dI ?_ | with_reducible refine yL ?_ | with_reducible refine yj ?_ | with_reducible refine vj ?_ | with_reducible refine vi ?_
 | with_reducible refine zi ?_ | with_reducible refine yz rfl ?_ | with_reducible refine zm ?_ | with_reducible refine zV ?_
 | with_reducible refine jN ?_ | with_reducible refine t_b ?_ | with_reducible refine l7 ?_ | with_reducible refine AS ?_ | with_reducible refine hE ?_ | with_reducible refine j4 ?_
 | with_reducible refine l8 ?_ | with_reducible refine l6 ?_ | with_reducible refine jo ?_ | with_reducible refine yR ?_ | with_reducible refine aq ?_
 | with_reducible refine AW ?_ | with_reducible refine kL ?_ | with_reducible refine d_orV ?_ | with_reducible refine d_notV ?_
 | with_reducible refine yU ?_ | with_reducible refine rN ?_ | with_reducible refine xR ?_ | with_reducible refine d_non ?_
 | (with_reducible show PEd _ _ (yD _) _ _;refine zk rfl ?_)
 | (with_reducible show PEd _ _ (tOp (kE _) (yD _) _) _ _;refine xS rfl ?_)
 | with_reducible refine cJ ?_ | with_reducible refine rO ?_
 | (with_reducible show PAd _ _ (yK (yD _) _) _ _;refine rP rfl ?_)
 | with_reducible refine zz ?_ | with_reducible refine ye ?_
 | with_reducible refine ve ?_ | with_reducible refine cK ?_ | with_reducible refine l9 ?_ | with_reducible refine rQ ?_ | with_reducible refine kM ?_ | with_reducible refine rR ?_ | with_reducible refine kN ?_
 | (with_reducible show (∃ _,_) \/ (∃ _,_);refine Or.inl ⟨_,rfl,?_⟩) | refine⟨_,rfl,?_⟩ | refine⟨_,_,rfl,?_⟩
 | (with_reducible show (_=_/\∀ _,_) \/ _;first | refine Or.inl ⟨rfl,fun a ha=>?_⟩ | refine Or.inr ⟨rfl,fun b hb hb'=>?_⟩)
 | refine⟨rfl,?_⟩
 | (refine And.intro ?side ?_;(case side=>first | omega | exact Int.ediv_nonneg (by omega) (by omega) | exact HA _ (by omega) | exact Gh _ (by omega) | decide | exact⟨by decide,by decide,by decide⟩ | exact⟨by omega,by omega⟩ | exact Or.inl ⟨by omega,by omega⟩ | exact Or.inr ⟨by omega,by omega⟩ | (refine Er (Gn (by rfl)) (show _<=1000 by decide)) | ((repeat' apply And.intro) <;> first | rfl | omega | decide | assumption) | (simp [Jc]))))
section
variable {P:Program} {w:World} {K:DT} {mg:Str->Option Value} {base:Heap} {k:Nat}
theorem wQ (F:Def K mg "size" fW pf) (uaa:mg "len"=none):FnIn P w K mg base (k+1) "size" pf (spD K 1 (fun (c:List (List Int)×Nat) xs=>xs=[.dat (tab c.1)]/\Good c.2 c.1) fun c r=>r=.tuple [.int c.2,.int c.1.length]):=by
 refine F.ok wJ rfl fun fa cdv A outer s H E hr=>⟨_,(zl (zG (zO (za (zK (yB (K:=K) rfl) rfl uaa Fg (za (yw (zQ (K:=K) rfl) (pv 0) zh (fun _ _=>rfl)) zb)) (za (zK (yB (K:=K) rfl) rfl uaa Fg (za (pv 0) zb)) zb))))),?_⟩;rintro f xs ⟨Ju,wd⟩ hl ⟨rfl,g⟩
 try dsimp only [yu,zp]
 obtain⟨r,rs,rfl⟩:=g.ne;walk_at "w";refine⟨_,jX (j:=0) rfl (by simp),?_⟩;walk_at "w";have hw:=g.row r D4;show PyData.tuple [.int _,.int _]=_;rw [DS,DS];show PyData.tuple [.int (r.length:Nat),_]=_;rw [hw]
theorem wR (F:Def K mg "fits" fY pG) (uaa:mg "len"=none) (uaq:∃ t,mg "FEWEST"=some (.int 2 t)) (uar:∃ t,mg "MOST"=some (.int 7 t)) :
  FnIn P w K mg base (k+1) "fits" pG (spD K 1 (fun (c:List PyData) xs=>xs=[.dat (.list c)]) fun c r=>r=.bool (decide (2<=c.length/\c.length<=7))):=by
 obtain⟨_,uaq⟩:=uaq;obtain⟨_,uar⟩:=uar;refine F.ok wN rfl fun fa cdv A outer s H E hr=>⟨_,(zl (zG (cE dY dY (au rfl uaq) (zK (yB (K:=K) rfl) rfl uaa Fg (za (pv 0) zb)) (au rfl uar)))),?_⟩;rintro f xs ds hl rfl
 try dsimp only [yu,zp]
 walk_at "w";by_cases h:2<=ds.length
 ·rw [Jy (by simp;omega)];walk_at "w";show PyData.bool _=_
  congr 1
  by_cases h7:ds.length<=7 <;> simp [h,h7] <;> omega
 ·rw [Jx (by simp;omega)];show PyData.bool _=_
  congr 1
  simp [h]
theorem oT (F:Def K mg "is_row" aG ["row"]) (uad:mg "min"=none) (uai:mg "max"=none) (uas:∃ t,mg "LEAST"=some (.int (-1000000000) t)) (uat:∃ t,mg "GREATEST"=some (.int 1000000000 t))
  (uay:FnIn P w K mg base k "fits" pG (spD K 1 (fun (c:List PyData) xs=>xs=[.dat (.list c)]) fun c r=>r=.bool (decide (2<=c.length/\c.length<=7)))) :
  FnIn P w K mg base (k+1) "is_row" ["row"] (spD K 1 (fun (c:List Int) xs=>xs=[.dat (.list (c.map .int))]) fun c r=>r=.bool (decide (2<=c.length/\c.length<=7/\∀ n∈c,-1000000000<=n/\n<=1000000000))):=by
 obtain⟨_,uas⟩:=uas;obtain⟨_,uat⟩:=uat;refine F.ok oN rfl fun fa cdv A outer s H E hr=>⟨_,(zl (zG (ff (ze uay hr rfl (za (pv 0) zb)) (ff (ai dY (au rfl uas) (zK (oo (K:=K) rfl rfl) rfl uad boot_min (za (pv 0) zb)) (yY _)) (kh (ai dY (zK (bb (K:=K) rfl rfl) rfl uai boot_max (za (pv 0) zb)) (au rfl uat) (yY _))))))),?_⟩;rintro f xs c hl rfl
 try dsimp only [yu,zp]
 walk_at "w";refine zr (c.map .int) ?_;walk_at "w";rintro r rfl;rw [DS];walk_at "w";by_cases h:2<=c.length/\c.length<=7
 ·have hne:c≠[]:=by rintro rfl;simp at h
  rw [Jy (by simpa using h)];walk_at "w";intro M hM hM';walk_at "w";by_cases h2:-1000000000<=M
  ·rw [Jy (by simpa using h2)];walk_at "w";intro M' hN hN';walk_at "w";show PyData.bool _=_
   congr 1
   rw [decide_eq_decide];refine⟨fun q=>⟨h.1,h.2,fun n hn=>⟨Jd h2 (hM' n hn),Jd (hN' n hn) q⟩⟩,fun q=>(q.2.2 M' hN).2⟩
  ·rw [Jx (by simpa using h2)];show PyData.bool _=_
   congr 1
   symm;rw [decide_eq_false_iff_not];exact fun q=>h2 (q.2.2 M hM).1
 ·rw [Jx (by simpa using h)];show PyData.bool _=_
  congr 1
  symm;rw [decide_eq_false_iff_not];exact fun q=>h ⟨q.1,q.2.1⟩
abbrev eU (K:DT):Sp:=spD K 1 (fun (c:List (List Int)×Nat) xs=>xs=[.dat (tab c.1)]/\Good c.2 c.1) fun _ r=>r=.bool true
theorem BG (F:Def K mg "ask_table" qo pf) (uaa:mg "len"=none) (uam:mg "enumerate"=none)
  (uay:FnIn P w K mg base k "fits" pG (spD K 1 (fun (c:List PyData) xs=>xs=[.dat (.list c)]) fun c r=>r=.bool (decide (2<=c.length/\c.length<=7))))
  (uaX:FnIn P w K mg base k "is_row" ["row"] (spD K 1 (fun (c:List Int) xs=>xs=[.dat (.list (c.map .int))]) fun c r=>r=.bool (decide (2<=c.length/\c.length<=7/\∀ n∈c,-1000000000<=n/\n<=1000000000)))) :
  FnIn P w K mg base (k+1) "ask_table" pf (eU K):=by
 refine F.ok qW rfl fun fa cdv A outer s H E hr=>⟨_,(zc (jl (cB (yM (K:=K) rfl (ze uay hr rfl (za (pv 0) zb)) (fun _=>rfl))) (zl gP) yp) (zc (jz ER rfl (hX (K:=K) rfl rfl uam (za (pv 0) zb)) (zN (K:=K) (n:=2) rfl rfl (zg (zd (i:=1) qW.nd rfl (Or.inl rfl) (Or.inr rfl)) (zg (zd (i:=2) qW.nd rfl (Or.inl rfl) (Or.inr rfl)) zL))) (zl (jl (PW.pt (xM (yy (cM (K:=K) rfl hr.units) (zK (yB (K:=K) rfl) rfl uaa Fg (za (pv 2) zb)) (zK (yB (K:=K) rfl) rfl uaa Fg (za (yw (zQ (K:=K) rfl) (pv 0) zh (fun _ _=>rfl)) zb)) (yY _)) (rj (cB (yM (K:=K) rfl (ze uaX hr rfl (za (pv 2) zb)) (fun _=>rfl)))))) (zl gP) yp))) (zl (zG ag)))),?_⟩;rintro f xs ⟨Ju,wd⟩ hl ⟨rfl,g⟩
 try dsimp only [yu,zp]
 have g1:=g.h1;have g2:=g.h2;walk_at "w";refine zr (Ju.map fun r=>.list (r.map .int)) ?_;walk_at "w";rintro r rfl;dsimp only at g1 g2;refine⟨_,rfl,?_⟩;rw [DS,decide_eq_true ⟨g1,g2⟩,E7,Jx DX];walk_at "w";refine kO ?_;walk_at "w";refine⟨fun i ρ=>∃ a b,ρ=[some (.dat (tab Ju)),a,b],⟨_,_,rfl⟩,?_,?_⟩
 ·rintro i d ρ hd ⟨a,b,rfl⟩;rw [D7] at hd;cases hr:Ju[i]? with
  | none=>rw [hr] at hd;cases hd
  | some r =>
   rw [hr] at hd;cases hd;have hm:=D9 hr;have hw:=g.row r hm;obtain⟨r0,rs,hrs⟩:=g.ne;dsimp only at hrs;subst hrs;have hw0:=g.row r0 D4;walk_at "w";refine⟨_,jX (j:=0) rfl (by simp),?_⟩;walk_at "w";dsimp only at hw hw0;rw [Jy rfl,DS,DS];show (if (!(((r.length:Nat):Int) == ((r0.length:Nat):Int)))=true then _ else _);rw [hw,hw0,beq_self_eq_true,E7,Jx DX];walk_at "w";refine zr r ?_;walk_at "w";rintro _ rfl;refine⟨_,rfl,?_⟩;have w1:=g.w1;have w2:=g.w2;dsimp only at w1 w2;rw [decide_eq_true ⟨by omega,by omega,g.hgt r hm⟩,E7,Jx DX];walk_at "w";exact⟨_,_,rfl⟩
 ·rintro ρ ⟨a,b,rfl⟩;walk_at "w";rfl
theorem wU (F:Def K mg "_law_draw" va pH):FnIn P w K mg base (k+1) "_law_draw" pH (spD K 2 (fun (c:Int) xs=>xs=[.feed,.dat (.int c)]/\0<c/\c<1152921504606846976) fun c r=>∃ i:Int,r=.int i/\0<=i/\i<c):=by
 refine F.ok bK rfl fun fa cdv A outer s H E hr=>⟨_,(zc (jl (yy xP (yw (zQ (K:=K) rfl) (pv 0) zh (fun _ _=>rfl)) (zt aY zh zh) (yY _)) (zc (zS (i:=2) bK.nd rfl (Or.inl rfl) (zt vV (yw (zQ (K:=K) rfl) (pv 0) zh (fun _ _=>rfl)) (pv 1))) (zc (yr (zt ie (yw (zQ (K:=K) rfl) (pv 0) zh (fun _ _=>rfl)) (pv 1)) (cC (pv 0) zh set_list)) (zl (zG (pv 2))))) yp) (zc (yr (zt vV (zt yd (zt yd (zt vU (yw (zQ (K:=K) rfl) (pv 0) zh (fun _ _=>rfl)) zh) (zt vV (yw (zQ (K:=K) rfl) (pv 0) zh (fun _ _=>rfl)) zh)) zh) zh) (cC (pv 0) zh set_list)) (zl (zG (zt vV (zt ie (zt vV (zt vU (yw (zQ (K:=K) rfl) (pv 0) zh (fun _ _=>rfl)) zh) zh) zh) (pv 1)))))),?_⟩;rintro f xs c hl ⟨rfl,c0,c1⟩
 try dsimp only [yu,zp]
 walk_at "w";split
 ·walk_at "w";exact Gh _ c0
 ·walk_at "w";exact Gh _ c0
abbrev lD (K:DT):Sp:=spD K 2 (fun (c:Int) xs=>xs=[.feed,.dat (.int c)]/\0<c/\c<1152921504606846976) fun c r=>∃ i:Int,r=.int i/\0<=i/\i<c
abbrev iX (K:DT):Sp:=spD K 3 (fun (c:Int×Int) xs=>xs=[.feed,.dat (.int c.1),.dat (.int c.2)]/\0<=c.1/\c.1<=10/\-1000000000<=c.2/\c.2<=999999991) fun c r=>∃ i:Int,r=.int i/\-1000000000<=i/\i<=1000000000
theorem oU (F:Def K mg "_law_height" jW pL) (uad:mg "min"=none) (uac:FnIn P w K mg base k "_law_draw" pH (lD K)) :
  FnIn P w K mg base (k+1) "_law_height" pL (iX K):=by
 refine F.ok dQ rfl fun fa cdv A outer s H E hr=>⟨_,(zc (jl (yy rE (pv 1) zh (yY _)) (zl (zG (zt yd (pv 2) (ze uac hr rfl (za (pv 0) (za (pv 1) zb)))))) yp) (zl (zG (zK (aZ rfl) rfl uad boot_min (za (zt aY zh zh) (za (zt ym (zt yd (zt vU (ze uac hr rfl (za (pv 0) (za zh zb))) zh) (ze uac hr rfl (za (pv 0) (za zh zb)))) (zt aY zh zh)) zb)))))),?_⟩;rintro f xs ⟨far,bs⟩ hl ⟨rfl,c0,c1,c2,c3⟩;dsimp only at c0 c1 c2 c3
 try dsimp only [yu,zp]
 walk_at "w";by_cases h:0<far
 ·rw [Jy (by simpa using h)];walk_at "w";refine zr far ?_;walk_at "w";rintro r ⟨i,rfl,h1,h2⟩;walk_at "w";show bs+i<=1000000000;omega
 ·rw [Jx (by simpa using h)];walk_at "w";refine zr 20001 ?_;walk_at "w";rintro r ⟨i,rfl,h1,h2⟩;walk_at "w";refine zr 100000 ?_;walk_at "w";rintro r ⟨j,rfl,h3,h4⟩;walk_at "w";have e9:(10:Int) ^ Jj 9=1000000000:=by decide
  rw [e9];omega
abbrev m8 (K:DT):Sp:=spD K 1 (fun (_:Unit) xs=>xs=[.feed]) fun _ r=>∃ wd Ju,r=tab Ju/\Good wd Ju
theorem menu {ds:List PyData} {i n:Int} (h0:0<=i) (h1:i<n) (hn:n=(ds.length:Int)):∃ d,atI ds i=some d/\d∈ds:=by
 have hi:i.toNat<ds.length:=by omega
 have e:i=((i.toNat:Nat):Int):=by omega
 have q:=fg (DQ hi);rw [<-e] at q;exact⟨_,q,Et hi⟩
theorem m9:∀ {es:List PyData} {p:Int->Prop},(∀ (i:Nat) e,es[i]?=some e->∃ n:Int,e=.int n/\p n)->∃ ns:List Int,es=ns.map .int/\∀ n∈ns,p n
 | [],p,_=>⟨[],rfl,fun n h=>by cases h⟩
 | e :: es,p,h=>by
  obtain⟨n,rfl,hn⟩:=h 0 e rfl;obtain⟨ns,rfl,hs⟩:=m9 (es:=es) (p:=p) fun i e' he=>h (i+1) e' (by simpa using he);exact⟨n :: ns,rfl,fun m hm=>by
   rcases D5.mp hm with rfl | hm
   ·exact hn
   ·exact hs m hm⟩
theorem ng:∀ {es:List PyData} {p:List Int->Prop},(∀ (i:Nat) e,es[i]?=some e->∃ r:List Int,e=.list (r.map .int)/\p r)->∃ Ju:List (List Int),es=Ju.map (fun r=>.list (r.map .int))/\∀ r∈Ju,p r
 | [],p,_=>⟨[],rfl,fun n h=>by cases h⟩
 | e :: es,p,h=>by
  obtain⟨n,rfl,hn⟩:=h 0 e rfl;obtain⟨ns,rfl,hs⟩:=ng (es:=es) (p:=p) fun i e' he=>h (i+1) e' (by simpa using he);exact⟨n :: ns,rfl,fun m hm=>by
   rcases D5.mp hm with rfl | hm
   ·exact hn
   ·exact hs m hm⟩
theorem tN (F:Def K mg "_law_table" qr pS) (uab:mg "range"=none) (uac:FnIn P w K mg base k "_law_draw" pH (lD K)) (uaY:FnIn P w K mg base k "_law_height" pL (iX K)) :
  FnIn P w K mg base (k+1) "_law_table" pS (m8 K):=by
 refine F.ok jv rfl fun fa cdv A outer s H E hr=>⟨_,(zc (zS (i:=1) jv.nd rfl (Or.inr rfl) (zt yd zh (ze uac hr rfl (za (pv 0) (za zh zb))))) (zc (zS (i:=2) jv.nd rfl (Or.inl rfl) (zt yd zh (ze uac hr rfl (za (pv 0) (za zh zb))))) (zc (zS (i:=3) jv.nd rfl (Or.inr rfl) (yw (zQ (K:=K) rfl) (yQ (za zh (za zh (za zh (za zh (za zh (za zh (za zh zb)))))))) (ze uac hr rfl (za (pv 0) (za zh zb))) (fun _ _=>rfl))) (zc (zS (i:=4) jv.nd rfl (Or.inr rfl) (yw (zQ (K:=K) rfl) (yQ (za zh (za (zt ym zh zh) (za (zt ym (zt aY zh zh) zh) (za (zt ym zh (zt aY zh zh)) zb))))) (ze uac hr rfl (za (pv 0) (za zh zb))) (fun _ _=>rfl))) (zl (zG (zY (N:=qc) (own:=1) (fr:=[0,1,3,4]) (by walk_at "c") rfl (y6 rfl uab (za (pv 2) zb)) (fun _ _ _ _=>(zd (i:=0) (show (qc:List Str).Nodup by decide +kernel) rfl (Or.inl rfl) (Or.inr rfl))) (fun _ _ _ _=>yb) (fun _ _ _ _=>(zY (N:=qd) (own:=1) (fr:=[1,3,4]) (by walk_at "c") rfl (y6 rfl uab (za (pv 2) zb)) (fun _ _ _ _=>(zd (i:=0) (show (qd:List Str).Nodup by decide +kernel) rfl (Or.inl rfl) (Or.inr rfl))) (fun _ _ _ _=>yb) (fun _ _ _ _=>(ze uaY hr rfl (za (pv 1) (za (pv 2) (za (pv 3) zb))))) rfl rfl (fun _=>rfl))) rfl rfl (fun _=>rfl)))))))),?_⟩;rintro f xs ⟨⟩ hl rfl
 try dsimp only [yu,zp]
 walk_at "w";refine zr 6 ?_;walk_at "w";rintro r ⟨i1,rfl,h1,h2⟩;walk_at "w";refine zr 6 ?_;walk_at "w";rintro r ⟨i2,rfl,h3,h4⟩;walk_at "w";refine zr 7 ?_;walk_at "w";rintro r ⟨i3,rfl,h5,h6⟩;refine⟨_,rfl,?_⟩;obtain⟨d3,e3,m3⟩:=menu (ds:=[.int 2,.int 3,.int 5,.int 10,.int 2,.int 3,.int 0]) h5 h6 (by simp);obtain⟨far,rfl,f0,f1⟩:∃ n:Int,d3=.int n/\0<=n/\n<=10:=by
  simp only [D5,EN,or_false] at m3;rcases m3 with rfl | rfl | rfl | rfl | rfl | rfl | rfl <;> exact⟨_,rfl,by decide,by decide⟩
 refine⟨_,e3,?_⟩;walk_at "w";refine zr 4 ?_;walk_at "w";rintro r ⟨i4,rfl,h7,h8⟩;refine⟨_,rfl,?_⟩;obtain⟨d4,e4,m4⟩:=menu (ds:=[.int 0,.int (0 - 3),.int (10 ^ Jj 9 - 9),.int (0 - 10 ^ Jj 9)]) h7 h8 (by simp);obtain⟨bs,rfl,b0,b1⟩:∃ n:Int,d4=.int n/\-1000000000<=n/\n<=999999991:=by
  simp only [D5,EN,or_false] at m4;rcases m4 with rfl | rfl | rfl | rfl <;> exact⟨_,rfl,by decide,by decide⟩
 refine⟨_,e4,?_⟩;walk_at "w";refine hI ?_;walk_at "w";refine⟨fun _ e=>∃ r:List Int,e=.list (r.map .int)/\r.length=(2+i1).toNat/\∀ n∈r,-1000000000<=n/\n<=1000000000,fun D i hi=>?_,fun es hes hR=>?_⟩
 ·refine hI ?_;walk_at "w";refine⟨fun _ e=>∃ n:Int,e=.int n/\-1000000000<=n/\n<=1000000000,fun D' i' hi'=>?_,fun es hes hR=>?_⟩
  ·refine zr (far,bs) ?_;walk_at "w";rintro r ⟨n,rfl,n0,n1⟩;exact⟨n,rfl,n0,n1⟩
  ·obtain⟨ns,rfl,hs⟩:=m9 (p:=fun n=>-1000000000<=n/\n<=1000000000) hR;exact⟨ns,rfl,by rw [DS] at hes;exact hes,hs⟩
 ·obtain⟨Ju,rfl,hs⟩:=ng (p:=fun r=>r.length=(2+i1).toNat/\∀ n∈r,-1000000000<=n/\n<=1000000000) hR;rw [DS] at hes;exact⟨(2+i1).toNat,Ju,rfl,by omega,by omega,by omega,by omega,fun r hr=>(hs r hr).1,fun r hr=>(hs r hr).2⟩
abbrev Ag (K:DT):Sp:=spD K 2 (fun (c:List (List Int)×Nat) xs=>xs=[.feed,.dat (tab c.1)]/\Good c.2 c.1) fun _ r=>∃ n:Int,r=.int n/\-1000000001<=n/\n<=1000000000
local macro_rules | `(tactic| walk_at "dl")=>`(tactic| first
 | (with_reducible show PSd _ _ (qe _ (gR (yD _) (tC (V.int 0)) cH)) _ _;refine md rfl ?_)
 | (with_reducible show PSd _ _ (qe _ (gR (yD _) (tC (V.int 1)) cH)) _ _;refine me rfl ?_)
 | with_reducible refine zT ?_ | with_reducible refine dI ?_ | with_reducible refine yL ?_ | with_reducible refine yj ?_ | with_reducible refine vj ?_ | with_reducible refine vi ?_
 | with_reducible refine zi ?_ | with_reducible refine yz rfl ?_ | with_reducible refine zm ?_ | with_reducible refine zV ?_
 | with_reducible refine jN ?_ | with_reducible refine t_b ?_ | with_reducible refine l7 ?_ | with_reducible refine AS ?_ | with_reducible refine hE ?_ | with_reducible refine j4 ?_
 | with_reducible refine l8 ?_ | with_reducible refine l6 ?_ | with_reducible refine jo ?_ | with_reducible refine yR ?_ | with_reducible refine aq ?_
 | with_reducible refine AW ?_ | with_reducible refine kL ?_ | with_reducible refine d_orV ?_ | with_reducible refine d_notV ?_
 | with_reducible refine yU ?_ | with_reducible refine rN ?_ | with_reducible refine xR ?_ | with_reducible refine d_non ?_
 | (with_reducible show PEd _ _ (yD _) _ _;refine zk rfl ?_)
 | (with_reducible show PEd _ _ (tOp (kE _) (yD _) _) _ _;refine xS rfl ?_)
 | with_reducible refine cJ ?_ | with_reducible refine rO ?_
 | (with_reducible show PAd _ _ (yK (yD _) _) _ _;refine rP rfl ?_)
 | with_reducible refine zz ?_ | with_reducible refine ye ?_
 | with_reducible refine d_catT ?_ | with_reducible refine ic ?_ | with_reducible refine ia ?_ | with_reducible refine ib ?_ | with_reducible refine d_int1 ?_ | with_reducible refine fv ?_ | with_reducible refine jj ?_
 | with_reducible refine ve ?_ | with_reducible refine cK ?_ | with_reducible refine l9 ?_ | with_reducible refine rQ ?_ | with_reducible refine kM ?_ | with_reducible refine rR ?_ | with_reducible refine kN ?_
 | (with_reducible show (∃ _,_) \/ (∃ _,_);first | refine Or.inl ⟨_,rfl,?_⟩ | refine Or.inr ⟨_,rfl,?_⟩) | refine⟨_,rfl,?_⟩ | refine⟨_,_,rfl,?_⟩
 | (with_reducible show (_=_/\∀ _,_) \/ _;first | refine Or.inl ⟨rfl,fun a ha=>?_⟩ | refine Or.inr ⟨rfl,fun b hb hb'=>?_⟩)
 | (with_reducible show PyData.canLay0 _=true/\_;refine And.intro (by first | rfl | assumption | decide +kernel) ?_)
 | (with_reducible show min _ _<=60/\_;refine And.intro (by first | assumption | (simp [Jc,Eg];done)) ?_)
 | refine⟨rfl,?_⟩
 | (refine And.intro ?side ?_;(case side=>first | omega | exact Int.ediv_nonneg (by omega) (by omega) | exact HA _ (by omega) | exact Gh _ (by omega) | decide | exact⟨by decide,by decide,by decide⟩ | exact⟨by omega,by omega⟩ | exact Or.inl ⟨by omega,by omega⟩ | exact Or.inr ⟨by omega,by omega⟩ | (refine Er (Gn (by rfl)) (show _<=1000 by decide)) | ((repeat' apply And.intro) <;> first | rfl | omega | decide | assumption) | (simp [Jc]))))
theorem jw {b:Bool} {p q:Prop} (h1:b=true->p) (h2:b=false->q):if b=true then p else q:=by
 cases b with
 | true=>rw [Jy rfl];exact h1 rfl
 | false=>rw [Jx DX];exact h2 rfl
noncomputable def zW (Ju:List (List Int)) (wd:Nat) (x y:Int):Bool:=decide (0<=x/\x<wd) && decide (0<=y/\y<Ju.length)
noncomputable def zv (Ju:List (List Int)) (x y:Int):Int:=(Ju.getD y.toNat []).getD x.toNat 0
theorem jx {Ju:List (List Int)} {wd:Nat} {x y:Int} (h:zW Ju wd x y=true):0<=x/\x<wd/\0<=y/\y<Ju.length:=by
 unfold zW at h;rw [Eb] at h;have h1:=of_decide_eq_true h.1;have h2:=of_decide_eq_true h.2;omega
noncomputable def bM (x y w:Int):PyData:=.tuple [.int x,.int y,.int w]
noncomputable def px (x:Int) (w:Int):Int:=if w=0 then x+1 else x
noncomputable def py (y:Int) (w:Int):Int:=if w=0 then y else y+1
noncomputable def aM (Ju:List (List Int)) (wd:Nat) (x y w:Int):Bool:=decide (w=0 \/ w=1) && (zW Ju wd x y && zW Ju wd (px x w) (py y w))
noncomputable def yI (Ju:List (List Int)) (wd:Nat) (cut x y w:Int):Bool:=aM Ju wd x y w && (decide (cut<zv Ju x y) != decide (cut<zv Ju (px x w) (py y w)))
theorem gk (a b:Int):EC (.int a) (.int b)=decide (a=b):=rfl
theorem tO (a b:Bool):EC (.bool a) (.bool b)=(a == b):=rfl
abbrev gm (K:DT):Sp:=spD K 1 (fun (c:List (List Int)×Nat) xs=>xs=[.dat (tab c.1)]/\Good c.2 c.1) fun c r=>r=.tuple [.int c.2,.int c.1.length]
abbrev ni (K:DT):Sp:=spD K 3 (fun (c:List (List Int)×Nat×Int×Int) xs=>xs=[.dat (tab c.1),.dat (.int c.2.2.1),.dat (.int c.2.2.2)]/\Good c.2.1 c.1) fun c r=>r=.bool (zW c.1 c.2.1 c.2.2.1 c.2.2.2)
theorem BH (F:Def K mg "has_point" ql ph) (uaj:FnIn P w K mg base k "size" pf (gm K)):FnIn P w K mg base (k+1) "has_point" ph (ni K):=by
 refine F.ok qS rfl fun fa cdv A outer s H E hr=>⟨_,(zc (yr (ze uaj hr rfl (za (pv 0) zb)) (zN (K:=K) (n:=2) rfl rfl (zg (zd (i:=3) qS.nd rfl (Or.inl rfl) (Or.inr rfl)) (zg (zd (i:=4) qS.nd rfl (Or.inl rfl) (Or.inr rfl)) zL)))) (zl (zG (ff (cE dY rD zh (pv 1) (pv 3)) (kh (cE dY rD zh (pv 2) (pv 4))))))),?_⟩;rintro f xs ⟨Ju,wd,x,y⟩ hl ⟨rfl,g⟩
 try dsimp only [yu,zp]
 dsimp only at *;refine zT (yj (zr (Ju,wd) ?_));walk_at "w";rintro _ rfl;walk_at "w";have fin:∀ b:Bool,b=zW Ju wd x y->PyData.bool b=PyData.bool (zW Ju wd x y):=fun b h=>by rw [h]
 refine jw (fun h1=>?_) fun h1=>?_
 ·have h1':=of_decide_eq_true h1;walk_at "w";refine jw (fun h2=>?_) fun h2=>?_
  ·have h2':=of_decide_eq_true h2;walk_at "w";refine jw (fun h3=>?_) fun h3=>?_
   ·have h3':=of_decide_eq_true h3;walk_at "w";refine fin _ ?_;unfold zW;dsimp only at h2' ⊢;rw [decide_eq_true (p:=(0<=x/\x<(wd:Int))) (by omega),G9];exact decide_eq_decide.mpr (by omega)
   ·have h3':=of_decide_eq_false h3;refine fin _ ?_;unfold zW;rw [decide_eq_false (p:=(0<=y/\y<(Ju.length:Int))) (by omega),HM]
  ·have h2':=of_decide_eq_false h2;refine fin _ ?_;unfold zW;dsimp only at h2';rw [decide_eq_false (p:=(0<=x/\x<(wd:Int))) (by omega),Gf]
 ·have h1':=of_decide_eq_false h1;refine⟨_,rfl,?_⟩;rw [Jx DX];refine fin _ ?_;unfold zW;rw [decide_eq_false (p:=(0<=x/\x<(wd:Int))) (by omega),Gf]
abbrev dk (K:DT):Sp:=spD K 3 (fun (c:List (List Int)×Nat×Int×Int×Int) xs=>xs=[.dat (tab c.1),.dat (.int c.2.2.1),.dat (.tuple [.int c.2.2.2.1,.int c.2.2.2.2])]/\Good c.2.1 c.1/\zW c.1 c.2.1 c.2.2.2.1 c.2.2.2.2=true) fun c r=>r=.bool (decide (c.2.2.1<zv c.1 c.2.2.2.1 c.2.2.2.2))
theorem aO {Ju:List (List Int)} {wd:Nat} {x y:Int} (g:Good wd Ju) (h:zW Ju wd x y=true):∃ r:List Int,atI (Ju.map fun q=>PyData.list (q.map .int)) y=some (.list (r.map .int))/\atI (r.map PyData.int) x=some (.int (zv Ju x y)):=by
 obtain⟨x0,x1,y0,y1⟩:=jx h;have hy:y.toNat<Ju.length:=by omega
 have hr:=g.row _ (Et hy);have hx:x.toNat<Ju[y.toNat].length:=by omega
 refine⟨Ju[y.toNat],jX (F:=fun q:List Int=>PyData.list (q.map .int)) (by omega) hy,?_⟩;rw [jX (j:=x.toNat) (by omega) hx];unfold zv;rw [DZ,DZ,DQ hy,Option.getD_some,DQ hx];rfl
theorem wV (F:Def K mg "stands_high" jG pA):FnIn P w K mg base (k+1) "stands_high" pA (dk K):=by
 refine F.ok j9 rfl fun fa cdv A outer s H E hr=>⟨_,(zc (yr (pv 2) (zN (K:=K) (n:=2) rfl rfl (zg (zd (i:=3) j9.nd rfl (Or.inl rfl) (Or.inr rfl)) (zg (zd (i:=4) j9.nd rfl (Or.inl rfl) (Or.inr rfl)) zL)))) (zl (zG (ai rE (yw (zQ (K:=K) rfl) (yw (zQ (K:=K) rfl) (pv 0) (pv 4) (fun _ _=>rfl)) (pv 3) (fun _ _=>rfl)) (pv 1) (yY _))))),?_⟩;rintro f xs ⟨Ju,wd,cut,x,y⟩ hl ⟨rfl,g,hi⟩
 try dsimp only [yu,zp]
 dsimp only at *;obtain⟨r,h1,h2⟩:=aO g hi;unfold tab;walk_at "w";refine⟨_,h1,?_⟩;walk_at "w";refine⟨_,h2,?_⟩;walk_at "w";rfl
abbrev nk (K:DT):Sp:=spD K 1 (fun (c:Int×Int×Int) xs=>xs=[.dat (bM c.1 c.2.1 c.2.2)]) fun c r=>r=.list [.tuple [.int c.1,.int c.2.1],.tuple [.int (px c.1 c.2.2),.int (py c.2.1 c.2.2)]]
theorem BI (F:Def K mg "gate_points" jH ["gate"]):FnIn P w K mg base (k+1) "gate_points" ["gate"] (nk K):=by
 refine F.ok jt rfl fun fa cdv A outer s H E hr=>⟨_,(zc (yr (pv 0) (zN (K:=K) (n:=3) rfl rfl (zg (zd (i:=1) jt.nd rfl (Or.inl rfl) (Or.inr rfl)) (zg (zd (i:=2) jt.nd rfl (Or.inl rfl) (Or.inr rfl)) (zg (zd (i:=3) jt.nd rfl (Or.inl rfl) (Or.inr rfl)) zL))))) (zc (jl (yy (ft (K:=K) rfl hr.units) (pv 3) zh (yY _)) (zl (zG (yQ (za (zO (za (pv 1) (za (pv 2) zb))) (za (zO (za (zt yd (pv 1) zh) (za (pv 2) zb))) zb))))) yp) (zl (zG (yQ (za (zO (za (pv 1) (za (pv 2) zb))) (za (zO (za (pv 1) (za (zt yd (pv 2) zh) zb))) zb))))))),?_⟩;rintro f xs ⟨x,y,w⟩ hl rfl
 try dsimp only [yu,zp]
 dsimp only at *;unfold bM;walk_at "w";rw [Jx DX,gk];refine jw (fun h=>?_) fun h=>?_
 ·have h':=of_decide_eq_true h;walk_at "w";unfold px py;rw [Jy h',Jy h']
 ·have h':=of_decide_eq_false h;walk_at "w";unfold px py;rw [Jx h',Jx h']
abbrev tP (K:DT):Sp:=spD K 2 (fun (c:List (List Int)×Nat×Int×Int×Int) xs=>xs=[.dat (tab c.1),.dat (bM c.2.2.1 c.2.2.2.1 c.2.2.2.2)]/\Good c.2.1 c.1) fun c r=>r=.bool (aM c.1 c.2.1 c.2.2.1 c.2.2.2.1 c.2.2.2.2)
theorem wW (F:Def K mg "has_gate" qY pK) (uan:mg "all"=none) (uao:FnIn P w K mg base k "has_point" ph (ni K)) (uau:FnIn P w K mg base k "gate_points" ["gate"] (nk K)):FnIn P w K mg base (k+1) "has_gate" pK (tP K):=by
 refine F.ok iV rfl fun fa cdv A outer s H E hr=>⟨_,(zc (jl (yy (ot (K:=K) rfl) (yw (bY (K:=K) rfl) (pv 1) zh (fun _ _=>rfl)) (zO (za zh (za zh zb))) rfl) (zl (zG ag)) yp) (zl (zG (zK (eE (K:=K) rfl rfl) rfl uan IH (za (zY (N:=pM) (own:=2) (fr:=[0]) (by walk_at "c") rfl (zU (K:=K) rfl (ze uau hr rfl (za (pv 1) zb))) (fun _ _ _ _=>(zN (K:=K) (n:=2) rfl rfl (zg (zd (i:=0) (show (pM:List Str).Nodup by decide +kernel) rfl (Or.inl rfl) (Or.inr rfl)) (zg (zd (i:=1) (show (pM:List Str).Nodup by decide +kernel) rfl (Or.inl rfl) (Or.inr rfl)) zL)))) (fun _ _ _ _=>yb) (fun _ _ _ _=>(ze uao hr rfl (za (pv 2) (za (pv 0) (za (pv 1) zb))))) rfl rfl (fun _=>rfl)) zb))))),?_⟩;rintro f xs ⟨Ju,wd,x,y,w⟩ hl ⟨rfl,g⟩
 try dsimp only [yu,zp]
 dsimp only at *;refine zT (dI (jN (sr ?_)));unfold bM;walk_at "w";refine⟨[0,1],rfl,_,rfl,?_⟩;have hc:(([0,1]:List Int).contains w)=decide (w=0 \/ w=1):=by
  rw [Bool.eq_iff_iff];simp
 rw [hc];by_cases h:w=0 \/ w=1
 ·rw [decide_eq_true h,E7,Jx DX];refine vi (yL (xU (PEdO.ped (j5 (A:=fun p:Int×Int=>PyData.tuple [.int p.1,.int p.2]) (B:=fun p:Int×Int=>PyData.bool (zW Ju wd p.1 p.2)) [(x,y),(px x w,py y w)] (yF (zr (x,y,w) ?_))))));walk_at "w";rintro _ rfl;refine⟨_,rfl,rfl,show 2<=1000 by decide,?_,?_⟩
  ·rintro D p ρ' es hp ho hes;obtain⟨u,v,rfl⟩:=ho.two;refine yz rfl (zm (zi (zm (zi (zV (jj ?_))))));rw [Jy rfl];refine yv hes (zr (Ju,wd,p.1,p.2) ?_);walk_at "w";rintro _ rfl;exact⟨.mk2,rfl⟩
  ·refine⟨[zW Ju wd x y,zW Ju wd (px x w) (py y w)],rfl,?_⟩;show PyData.bool _=PyData.bool _;unfold aM;rw [decide_eq_true h,G9];show PyData.bool (zW Ju wd x y && (zW Ju wd (px x w) (py y w) && true))=_;rw [Hv]
 ·rw [decide_eq_false h,HP,Jy rfl];walk_at "w";unfold aM;rw [decide_eq_false h];rfl
abbrev lE (K:DT):Sp:=spD K 3 (fun (c:List (List Int)×Nat×Int×Int×Int×Int) xs=>xs=[.dat (tab c.1),.dat (.int c.2.2.1),.dat (bM c.2.2.2.1 c.2.2.2.2.1 c.2.2.2.2.2)]/\Good c.2.1 c.1) fun c r=>r=.bool (yI c.1 c.2.1 c.2.2.1 c.2.2.2.1 c.2.2.2.2.1 c.2.2.2.2.2)
theorem vq {Ju:List (List Int)} {wd:Nat} {x y w:Int} (h:aM Ju wd x y w=true):zW Ju wd x y=true/\zW Ju wd (px x w) (py y w)=true:=by
 unfold aM at h;rw [Eb,Eb] at h;exact h.2
theorem wX (F:Def K mg "is_open" vF pz) (uaZ:FnIn P w K mg base k "has_gate" pK (tP K)) (uau:FnIn P w K mg base k "gate_points" ["gate"] (nk K)) (uae:FnIn P w K mg base k "stands_high" pA (dk K)):FnIn P w K mg base (k+1) "is_open" pz (lE K):=by
 refine F.ok v5 rfl fun fa cdv A outer s H E hr=>⟨_,(zc (jl (cB (yM (K:=K) rfl (ze uaZ hr rfl (za (pv 0) (za (pv 2) zb))) (fun _=>rfl))) (zl (zG ag)) yp) (zc (yr (ze uau hr rfl (za (pv 2) zb)) (fA (K:=K) (n:=2) rfl rfl (zg (zd (i:=3) v5.nd rfl (Or.inl rfl) (Or.inr rfl)) (zg (zd (i:=4) v5.nd rfl (Or.inl rfl) (Or.inr rfl)) zL)))) (zl (zG (ai (cM (K:=K) rfl hr.units) (ze uae hr rfl (za (pv 0) (za (pv 1) (za (pv 3) zb)))) (ze uae hr rfl (za (pv 0) (za (pv 1) (za (pv 4) zb)))) (yY _)))))),?_⟩;rintro f xs ⟨Ju,wd,cut,x,y,w⟩ hl ⟨rfl,g⟩
 try dsimp only [yu,zp]
 dsimp only at *;refine zT (dI (hE (j4 (zr (Ju,wd,x,y,w) ?_))));walk_at "w";rintro _ rfl;refine⟨_,rfl,?_⟩;dsimp only;cases h:aM Ju wd x y w with
 | false =>
  rw [HP,Jy rfl];walk_at "w";unfold yI;rw [h];rfl
 | true =>
  rw [E7,Jx DX];obtain⟨i1,i2⟩:=vq h;refine vi (zT (yj (zr (x,y,w) ?_)));walk_at "w";rintro _ rfl;dsimp only;refine r9 rfl (zm (zi (zm (zi (zV ?_)))));refine yL (aq (zr (Ju,wd,cut,x,y) ?_));walk_at "w";rintro _ rfl;refine zr (Ju,wd,cut,px x w,py y w) ?_;walk_at "w";rintro _ rfl;dsimp only;walk_at "w";show PyData.bool _=PyData.bool _;unfold yI;rw [h,G9,Jy rfl,tO];rfl
theorem BJ (F:Def K mg "_law_cut" vJ pT) (uaa:mg "len"=none) (uac:FnIn P w K mg base k "_law_draw" pH (lD K)):FnIn P w K mg base (k+1) "_law_cut" pT (Ag K):=by
 refine F.ok dj rfl fun fa cdv A outer s H E hr=>⟨_,(zc (zS (i:=2) dj.nd rfl (Or.inl rfl) (yw (zQ (K:=K) rfl) (pv 1) (ze uac hr rfl (za (pv 0) (za (zK (yB (K:=K) rfl) rfl uaa Fg (za (pv 1) zb)) zb))) (fun _ _=>rfl))) (zl (zG (zt ym (yw (zQ (K:=K) rfl) (pv 2) (ze uac hr rfl (za (pv 0) (za (zK (yB (K:=K) rfl) rfl uaa Fg (za (pv 2) zb)) zb))) (fun _ _=>rfl)) (ze uac hr rfl (za (pv 0) (za zh zb))))))),?_⟩;rintro f xs ⟨Ju,wd⟩ hl ⟨rfl,g⟩
 try dsimp only [yu,zp]
 dsimp only at *;have g1:=g.h1;have g2:=g.h2;have w1:=g.w1;have w2:=g.w2;have ml:(Ju.map fun r=>PyData.list (r.map .int)).length=Ju.length:=DS _;have ml1:2<=(Ju.map fun r=>PyData.list (r.map .int)).length:=by omega
 have ml2:(Ju.map fun r=>PyData.list (r.map .int)).length<=7:=by omega
 refine zT (yj (cJ ?_));unfold tab;walk_at "w";refine zr (((Ju.map fun r=>PyData.list (r.map .int)).length:Nat):Int) ?_;walk_at "w";rintro _ ⟨i,rfl,i0,i1⟩;have hi:i.toNat<Ju.length:=by omega
 have hr:=g.row _ (Et hi);have hh:=g.hgt _ (Et hi);refine⟨_,rfl,_,jX (F:=fun q:List Int=>PyData.list (q.map .int)) (j:=i.toNat) (by omega) hi,?_⟩;generalize Ju[i.toNat]=row at hr hh;have rl:(row.map PyData.int).length=row.length:=DS _;have rl1:2<=(row.map PyData.int).length:=by omega
 have rl2:(row.map PyData.int).length<=7:=by omega
 walk_at "w";refine zr (((row.map PyData.int).length:Nat):Int) ?_;walk_at "w";rintro _ ⟨q,rfl,q0,q1⟩;have hq:q.toNat<row.length:=by omega
 refine⟨_,rfl,_,jX (F:=PyData.int) (j:=q.toNat) (by omega) hq,?_⟩;have hb:=hh _ (Et hq);generalize row[q.toNat]=v at hb;walk_at "w";refine zr 2 ?_;walk_at "w";rintro _ ⟨u,rfl,u0,u1⟩;walk_at "w";omega
theorem vt {n i:Nat} {d:PyData} (h:(qw n)[i]?=some d):i<n/\d=.int (i:Int):=by
 unfold qw at h;rw [D7] at h;by_cases hi:i<n
 ·rw [E9 hi] at h;cases h;exact⟨hi,rfl⟩
 ·rw [Ex (by rw [EF];omega)] at h;cases h
theorem vK (n:Nat):(qw n).length=n:=by unfold qw;simp
noncomputable def wY (x y:Nat):PyData:=.tuple [.int x,.int y]
noncomputable def vg (t n:Nat):List PyData:=(Ef n).flatMap fun x=>(Ef t).map (wY x)
theorem dm (t n:Nat):vg t (n+1)=vg t n++(Ef t).map (wY n):=by
 unfold vg;rw [GL,FZ];simp
theorem gq (t:Nat):∀ n,(vg t n).length=t * n
 | 0=>rfl
 | n+1=>by rw [dm,Eh,gq t n,DS,EF,Je]
abbrev iY (K:DT):Sp:=spD K 1 (fun (c:List (List Int)×Nat) xs=>xs=[.dat (tab c.1)]/\Good c.2 c.1) fun c r=>r=.list (vg c.1.length c.2)
theorem oV (F:Def K mg "points" aE pf) (uab:mg "range"=none) (uaj:FnIn P w K mg base k "size" pf (gm K)):FnIn P w K mg base (k+1) "points" pf (iY K):=by
 refine F.ok br rfl fun fa cdv A outer s H E hr=>⟨_,(zc (yr (ze uaj hr rfl (za (pv 0) zb)) (zN (K:=K) (n:=2) rfl rfl (zg (zd (i:=1) br.nd rfl (Or.inl rfl) (Or.inr rfl)) (zg (zd (i:=2) br.nd rfl (Or.inr rfl) (Or.inl rfl)) zL)))) (zl (zG (hC (N:=pN) (own:=2) (fr:=[2]) (by walk_at "c") rfl (y6 rfl uab (za (pv 1) zb)) (fun _ _ _ _=>(zd (i:=0) (show (pN:List Str).Nodup by decide +kernel) rfl (Or.inl rfl) (Or.inr rfl))) (fun _ _ _ _=>yb) (fun _ _ _ _=>(y6 rfl uab (za (pv 2) zb))) (fun _ _ _ _=>(zd (i:=1) (show (pN:List Str).Nodup by decide +kernel) rfl (Or.inl rfl) (Or.inr rfl))) (fun _ _ _ _=>yb) (fun _ _ _ _=>(zO (za (pv 0) (za (pv 1) zb)))) rfl rfl (fun _=>rfl) (fun _ _ _ _ _=>rfl))))),?_⟩;rintro f xs ⟨Ju,wd⟩ hl ⟨rfl,g⟩
 try dsimp only [yu,zp]
 dsimp only at *;have g2:=g.h2;have w2:=g.w2;refine zT (yj (zr (Ju,wd) ?_));walk_at "w";rintro _ rfl;refine yz rfl (zm (zi (zm (zi (zV ?_)))));refine yL (PEdO.ped (fu (qQ (zz (zk rfl (ye ⟨_,rfl,by dsimp only;omega,by dsimp only;omega,fun n ρ es=>(∃ u v,ρ=[u,v,some (.dat (.int Ju.length))])/\es=vg Ju.length n,⟨⟨_,_,rfl⟩,rfl⟩,?_,?_⟩))))))
 ·rintro D n d ρ' es hd ⟨⟨u,v,rfl⟩,rfl⟩;obtain⟨hn,rfl⟩:=vt hd;have hn':n<wd:=by have:n<((wd:Int)).toNat:=hn;omega
  have l1:Ju.length * n<=7 * 7:=Fh g2 (by omega);refine zi (jj ?_);rw [Jy rfl];refine Cu (qQ (zz (zk rfl (ye ⟨_,rfl,by omega,by omega,fun m ρ es=>(∃ v,ρ=[some (.dat (.int n)),v,some (.dat (.int Ju.length))])/\es=vg Ju.length n++(Ef m).map (wY n),⟨⟨_,rfl⟩,by simp⟩,?_,?_⟩))))
  ·rintro m d ρ2 es2 hd2 ⟨⟨v,rfl⟩,rfl⟩;obtain⟨hm,rfl⟩:=vt hd2;have hm':m<Ju.length:=by have:m<((Ju.length:Int)).toNat:=hm;omega
   refine zi (jj ?_);rw [Jy rfl];refine yv (by rw [Eh,gq,DS,EF];omega) ?_;walk_at "w";rw [GL,Ey,Fs];rfl
  ·rintro ρ2 es2 ⟨⟨v,rfl⟩,rfl⟩;rw [vK,FF];exact⟨⟨_,_,rfl⟩,by rw [dm]⟩
 ·rintro ρ' es ⟨_,rfl⟩;rw [vK,FF]
noncomputable def F2:PyData->List PyData
 | .tuple [.int x,.int y]=>[bM x y 0,bM x y 1]
 | _=>[]
noncomputable def gD3 (g:Int×Int×Int):PyData:=bM g.1 g.2.1 g.2.2
noncomputable def opG (Ju:List (List Int)) (wd:Nat) (cut:Int) (g:Int×Int×Int):Bool:=yI Ju wd cut g.1 g.2.1 g.2.2
noncomputable def lF (t n:Nat):List (Int×Int×Int):=(Ef n).flatMap fun (x:Nat)=>(Ef t).flatMap fun (y:Nat)=>[((x:Int),(y:Int),(0:Int)),((x:Int),(y:Int),(1:Int))]
theorem dn {α:Type} {F:Nat->List α} {b:Nat} (h:∀ n,(F n).length<=b):∀ n,((Ef n).flatMap F).length<=b * n
 | 0=>by simp
 | n+1=>by
  rw [GL,FZ,Eh];have:=dn h n;have:=h n;simp only [Gp,List.flatMap_nil,EO];rw [Je];omega
theorem oW {t n:Nat} (ht:t<=7) (hn:n<=7):(lF t n).length<=98:=by
 have h:=dn (F:=fun (x:Nat)=>(Ef t).flatMap fun (y:Nat)=>[((x:Int),(y:Int),(0:Int)),((x:Int),(y:Int),(1:Int))]) (b:=2 * t) (fun x=>dn (F:=fun (y:Nat)=>[((x:Int),(y:Int),(0:Int)),((x:Int),(y:Int),(1:Int))]) (b:=2) (fun y=>D8 2) t) n;exact Er h (Fh (show 2 * t<=14 by omega) hn)
noncomputable def BK (Ju:List (List Int)) (wd:Nat) (cut:Int) (x y:Nat):List (Int×Int×Int):=(if yI Ju wd cut x y 0=true then [((x:Int),(y:Int),(0:Int))] else [])++if yI Ju wd cut x y 1=true then [((x:Int),(y:Int),(1:Int))] else []
noncomputable def bw (Ju:List (List Int)) (wd:Nat) (cut:Int):List (Int×Int×Int):=(Ef wd).flatMap fun x=>(Ef Ju.length).flatMap fun y=>BK Ju wd cut x y
theorem oX {α:Type} {F:Nat->List α} (n:Nat):(Ef (n+1)).flatMap F=(Ef n).flatMap F++F n:=by
 rw [GL,FZ];simp
theorem wZ (Ju:List (List Int)) (wd:Nat) (cut:Int) (x y:Nat):BK Ju wd cut x y=[((x:Int),(y:Int),(0:Int)),((x:Int),(y:Int),(1:Int))].filter (opG Ju wd cut):=by
 unfold BK opG;simp only [Gd,IC];cases yI Ju wd cut x y 0 <;> cases yI Ju wd cut x y 1 <;> rfl
theorem dq (Ju:List (List Int)) (wd:Nat) (cut:Int):bw Ju wd cut=(lF Ju.length wd).filter (opG Ju wd cut):=by
 unfold bw lF;rw [IV]
 congr 1
 funext x
 rw [IV]
 congr 1
 funext y
 exact wZ Ju wd cut x y
theorem w4 {α:Type} {R:α->α->Prop} {F:Nat->List α} (n:Nat) (h1:∀ i,i<n->(F i).Pairwise R) (h2:∀ i j,i<j->j<n->∀ a∈F i,∀ b∈F j,R a b):((Ef n).flatMap F).Pairwise R:=by
 induction n with
 | zero=>simp
 | succ n ih =>
  rw [oX,Hy];refine⟨ih (fun i hi=>h1 i (by omega)) (fun i j hij hj=>h2 i j hij (by omega)),h1 n (by omega),fun a ha b hb=>?_⟩;obtain⟨i,hi,ha⟩:=Ge.mp ha;exact h2 i n (Eu.mp hi) (by omega) a ha b hb
theorem oY {Ju:List (List Int)} {wd:Nat} {cut:Int} (g:Good wd Ju):(bw Ju wd cut).length<=98:=by
 rw [dq];exact Er (Fb _ _) (oW g.h2 g.w2)
abbrev CC:=List (List Int)×Nat×Int×Int×Int
noncomputable def yf (Ju:List (List Int)) (wd:Nat) (x y:Int):Bool:=zW Ju wd x y && zW Ju wd (x+1) (y+1)
noncomputable def hiB (Ju:List (List Int)) (cut x y:Int):Bool:=decide (cut<zv Ju x y)
theorem cell_in {Ju:List (List Int)} {wd:Nat} {x y:Int} (h:yf Ju wd x y=true):zW Ju wd x y=true/\zW Ju wd (x+1) y=true/\zW Ju wd (x+1) (y+1)=true/\zW Ju wd x (y+1)=true:=by
 unfold yf at h;rw [Eb] at h;obtain⟨a0,a1,a2,a3⟩:=jx h.1;obtain⟨b0,b1,b2,b3⟩:=jx h.2;refine⟨h.1,?_,h.2,?_⟩ <;> unfold zW <;> rw [decide_eq_true (by omega),decide_eq_true (by omega)] <;> rfl
section
variable {Ju:List (List Int)} {wd:Nat} {cut x y:Int}
theorem gr (h:yf Ju wd x y=true):yI Ju wd cut x y 0=(hiB Ju cut x y != hiB Ju cut (x+1) y):=by
 obtain⟨a,b,c,d⟩:=cell_in h;unfold yI aM;show (decide ((0:Int)=0 \/ (0:Int)=1) && (zW Ju wd x y && zW Ju wd (x+1) y) && _)=_;rw [a,b];rfl
theorem lG (h:yf Ju wd x y=true):yI Ju wd cut x y 1=(hiB Ju cut x y != hiB Ju cut x (y+1)):=by
 obtain⟨a,b,c,d⟩:=cell_in h;unfold yI aM;show (decide ((1:Int)=0 \/ (1:Int)=1) && (zW Ju wd x y && zW Ju wd x (y+1)) && _)=_;rw [a,d];rfl
theorem gu (h:yf Ju wd x y=true):yI Ju wd cut x (y+1) 0=(hiB Ju cut x (y+1) != hiB Ju cut (x+1) (y+1)):=by
 obtain⟨a,b,c,d⟩:=cell_in h;unfold yI aM;show (decide ((0:Int)=0 \/ (0:Int)=1) && (zW Ju wd x (y+1) && zW Ju wd (x+1) (y+1)) && _)=_;rw [c,d];rfl
theorem gv (h:yf Ju wd x y=true):yI Ju wd cut (x+1) y 1=(hiB Ju cut (x+1) y != hiB Ju cut (x+1) (y+1)):=by
 obtain⟨a,b,c,d⟩:=cell_in h;unfold yI aM;show (decide ((1:Int)=0 \/ (1:Int)=1) && (zW Ju wd (x+1) y && zW Ju wd (x+1) (y+1)) && _)=_;rw [b,c];rfl
end
noncomputable def cg (x y:Int):List (Int×Int×Int):=[(x,y,0),(x,y,1),(x,y+1,0),(x+1,y,1)]
noncomputable def jf (Ju:List (List Int)) (wd:Nat) (cut x y:Int):Bool:=(cg x y).all (opG Ju wd cut)
noncomputable def eV (Ju:List (List Int)) (x y:Int):Int:=zv Ju x y+(zv Ju (x+1) y+(zv Ju (x+1) (y+1)+(zv Ju x (y+1)+0)))
noncomputable def dR (Ju:List (List Int)) (cut x y:Int):Bool:=decide (4 * cut+2<=eV Ju x y)
abbrev tQ (K:DT):Sp:=spD K 3 (fun (c:List (List Int)×Nat×Int×Int) xs=>xs=[.dat (tab c.1),.dat (.int c.2.2.1),.dat (.int c.2.2.2)]/\Good c.2.1 c.1) fun c r=>r=.bool (yf c.1 c.2.1 c.2.2.1 c.2.2.2)
theorem w5 (F:Def K mg "has_cell" qT ph) (uao:FnIn P w K mg base k "has_point" ph (ni K)):FnIn P w K mg base (k+1) "has_cell" ph (tQ K):=by
 refine F.ok iR rfl fun fa cdv A outer s H E hr=>⟨_,(zl (zG (ff (ze uao hr rfl (za (pv 0) (za (pv 1) (za (pv 2) zb)))) (kh (ze uao hr rfl (za (pv 0) (za (zt yd (pv 1) zh) (za (zt yd (pv 2) zh) zb)))))))),?_⟩;rintro f xs ⟨Ju,wd,x,y⟩ hl ⟨rfl,g⟩
 try dsimp only [yu,zp]
 dsimp only at *;refine yL (kL (zr (Ju,wd,x,y) ?_));walk_at "w";rintro _ rfl;dsimp only;refine⟨_,rfl,?_⟩;refine jw (fun h=>?_) fun h=>?_
 ·refine zr (Ju,wd,x+1,y+1) ?_;walk_at "w";rintro _ rfl;dsimp only;unfold yf;rw [h,G9]
 ·unfold yf;rw [h,Gf]
abbrev vL (K:DT):Sp:=spD K 2 (fun (c:Int×Int) xs=>xs=[.dat (.int c.1),.dat (.int c.2)]) fun c r=>r=.list [.tuple [.int c.1,.int c.2],.tuple [.int (c.1+1),.int c.2],.tuple [.int (c.1+1),.int (c.2+1)],.tuple [.int c.1,.int (c.2+1)]]
theorem lH (F:Def K mg "corners" vE pC):FnIn P w K mg base (k+1) "corners" pC (vL K):=by
 refine F.ok lq rfl fun fa cdv A outer s H E hr=>⟨_,(zl (zG (yQ (za (zO (za (pv 0) (za (pv 1) zb))) (za (zO (za (zt yd (pv 0) zh) (za (pv 1) zb))) (za (zO (za (zt yd (pv 0) zh) (za (zt yd (pv 1) zh) zb))) (za (zO (za (pv 0) (za (zt yd (pv 1) zh) zb))) zb))))))),?_⟩;rintro f xs ⟨x,y⟩ hl rfl
 try dsimp only [yu,zp]
 dsimp only at *;walk_at "w";rfl
abbrev dr (K:DT):Sp:=spD K 1 (fun (c:Int×Int) xs=>xs=[.dat (.tuple [.int c.1,.int c.2])]) fun c r=>r=.list ((cg c.1 c.2).map gD3)
theorem oZ (F:Def K mg "cell_gates" jS ["cell"]):FnIn P w K mg base (k+1) "cell_gates" ["cell"] (dr K):=by
 refine F.ok qA rfl fun fa cdv A outer s H E hr=>⟨_,(zc (yr (pv 0) (zN (K:=K) (n:=2) rfl rfl (zg (zd (i:=1) qA.nd rfl (Or.inl rfl) (Or.inr rfl)) (zg (zd (i:=2) qA.nd rfl (Or.inl rfl) (Or.inr rfl)) zL)))) (zl (zG (yQ (za (zO (za (pv 1) (za (pv 2) (za zh zb)))) (za (zO (za (pv 1) (za (pv 2) (za zh zb)))) (za (zO (za (pv 1) (za (zt yd (pv 2) zh) (za zh zb)))) (za (zO (za (zt yd (pv 1) zh) (za (pv 2) (za zh zb)))) zb)))))))),?_⟩;rintro f xs ⟨x,y⟩ hl rfl
 try dsimp only [yu,zp]
 dsimp only at *;walk_at "w";rfl
abbrev C5 (c:CC) (xs:List DV):Prop:=xs=[.dat (tab c.1),.dat (.int c.2.2.1),.dat (.tuple [.int c.2.2.2.1,.int c.2.2.2.2])]/\Good c.2.1 c.1/\yf c.1 c.2.1 c.2.2.2.1 c.2.2.2.2=true
abbrev bx (K:DT):Sp:=spD K 3 C5 fun c r=>r=.bool (jf c.1 c.2.1 c.2.2.1 c.2.2.2.1 c.2.2.2.2)
theorem lI (F:Def K mg "is_crossed" jT pj) (uan:mg "all"=none) (uaz:FnIn P w K mg base k "is_open" pz (lE K)) (uaA:FnIn P w K mg base k "cell_gates" ["cell"] (dr K)):FnIn P w K mg base (k+1) "is_crossed" pj (bx K):=by
 refine F.ok dP rfl fun fa cdv A outer s H E hr=>⟨_,(zl (zG (zK (eE (K:=K) rfl rfl) rfl uan IH (za (zY (N:=["gate","rows","cut"]) (own:=1) (fr:=[0,1]) (by walk_at "c") rfl (zU (K:=K) rfl (ze uaA hr rfl (za (pv 2) zb))) (fun _ _ _ _=>(zd (i:=0) (show (["gate","rows","cut"]:List Str).Nodup by decide +kernel) rfl (Or.inl rfl) (Or.inr rfl))) (fun _ _ _ _=>yb) (fun _ _ _ _=>(ze uaz hr rfl (za (pv 1) (za (pv 2) (za (pv 0) zb))))) rfl rfl (fun _=>rfl)) zb)))),?_⟩;rintro f xs ⟨Ju,wd,cut,x,y⟩ hl ⟨rfl,g,hc⟩
 try dsimp only [yu,zp]
 dsimp only at *;refine yL (xU (PEdO.ped (j5 (A:=gD3) (B:=fun q=>PyData.bool (opG Ju wd cut q)) (cg x y) (yF (zr (x,y) ?_)))));walk_at "w";rintro _ rfl;refine⟨_,rfl,rfl,show 4<=1000 by decide,?_,?_⟩
 ·rintro D q ρ' es hq ho hes;obtain⟨u,rfl⟩:=ho.one;refine zi (jj ?_);rw [Jy rfl];refine yv hes (zr (Ju,wd,cut,q.1,q.2.1,q.2.2) ?_);unfold gD3;walk_at "w";rintro _ rfl;exact⟨.mk1,rfl⟩
 ·refine⟨(cg x y).map (opG Ju wd cut),by rw [EA];rfl,?_⟩;show PyData.bool _=PyData.bool _;unfold jf;rw [List.all_map];rfl
abbrev tR (K:DT):Sp:=spD K 3 C5 fun c r=>r=.bool (dR c.1 c.2.2.1 c.2.2.2.1 c.2.2.2.2)
theorem BL (F:Def K mg "has_high_middle" yW pj) (uaB:mg "sum"=none) (uap:FnIn P w K mg base k "corners" pC (vL K)):FnIn P w K mg base (k+1) "has_high_middle" pj (tR K):=by
 refine F.ok je rfl fun fa cdv A outer s H E hr=>⟨_,(zc (yr (pv 2) (zN (K:=K) (n:=2) rfl rfl (zg (zd (i:=3) je.nd rfl (Or.inl rfl) (Or.inr rfl)) (zg (zd (i:=4) je.nd rfl (Or.inl rfl) (Or.inr rfl)) zL)))) (zl (zG (ai xP (zK (kS (K:=K) rfl rfl) rfl uaB PyProof.Rows.boot_sum (za (zY (N:=pB) (own:=2) (fr:=[0]) (by walk_at "c") rfl (zU (K:=K) rfl (ze uap hr rfl (za (pv 3) (za (pv 4) zb)))) (fun _ _ _ _=>(zN (K:=K) (n:=2) rfl rfl (zg (zd (i:=0) (show (pB:List Str).Nodup by decide +kernel) rfl (Or.inl rfl) (Or.inr rfl)) (zg (zd (i:=1) (show (pB:List Str).Nodup by decide +kernel) rfl (Or.inl rfl) (Or.inr rfl)) zL)))) (fun _ _ _ _=>yb) (fun _ _ _ _=>(yw (zQ (K:=K) rfl) (yw (zQ (K:=K) rfl) (pv 2) (pv 1) (fun _ _=>rfl)) (pv 0) (fun _ _=>rfl))) rfl rfl (fun _=>rfl)) zb)) (zt yd (zt vU zh (pv 1)) zh) (yY _))))),?_⟩;rintro f xs ⟨Ju,wd,cut,x,y⟩ hl ⟨rfl,g,hc⟩
 try dsimp only [yu,zp]
 dsimp only at *;obtain⟨i1,i2,i3,i4⟩:=cell_in hc;refine zT (yj (zk rfl (yz rfl (zm (zi (zm (zi (zV ?_))))))));refine yL (l6 (CG (PEdO.ped (j5 (A:=fun p:Int×Int=>PyData.tuple [.int p.1,.int p.2]) (B:=fun p:Int×Int=>PyData.int (zv Ju p.1 p.2)) [(x,y),(x+1,y),(x+1,y+1),(x,y+1)] (yF (zr (x,y) ?_))))));walk_at "w";rintro _ rfl;refine⟨_,rfl,rfl,show 4<=1000 by decide,?_,?_⟩
 ·rintro D p ρ' es hp ho hes;obtain⟨u,v,rfl⟩:=ho.two;have hi:zW Ju wd p.1 p.2=true:=by
   simp only [D5,EN,or_false] at hp;rcases hp with rfl | rfl | rfl | rfl
   ·exact i1
   ·exact i2
   ·exact i3
   ·exact i4
  obtain⟨r,h1,h2⟩:=aO g hi;refine yz rfl (zm (zi (zm (zi (zV (jj ?_))))));rw [Jy rfl];refine yv hes ?_;unfold tab;walk_at "w";refine⟨_,h1,?_⟩;walk_at "w";refine⟨_,h2,?_⟩;exact⟨.mk2,rfl⟩
 ·refine⟨[zv Ju x y,zv Ju (x+1) y,zv Ju (x+1) (y+1),zv Ju x (y+1)],rfl,?_⟩;walk_at "w";rfl
abbrev Pt:=Int×Int
noncomputable def pD (p:Pt):PyData:=.tuple [.int p.1,.int p.2]
theorem v8 {a b:Pt} (h:pD a=pD b):a=b:=by
 obtain⟨x,y⟩:=a;obtain⟨x',y'⟩:=b;unfold pD at h;simp at h;simp [h]
theorem v9 (p:Pt):bP (pD p):=⟨⟨rfl,EH rfl⟩,_,rfl⟩
theorem vb {l:List Pt} {p:Pt}:pD p∈l.map pD↔p∈l:=by
 rw [Ei];exact⟨fun⟨q,hq,e⟩=>v8 e▸hq,fun h=>⟨p,h,rfl⟩⟩
theorem tS {l:List Pt} (nd:l.Nodup):SortOk "int" (l.map pD) where
 plain:=fun d hd=>by obtain⟨g,_,rfl⟩:=Ei.mp hd;rfl
 head:=fun d hd=>by obtain⟨g,_,rfl⟩:=Ei.mp hd;rfl
 cmp:=fun d hd e he=>by
  obtain⟨⟨x,y⟩,_,rfl⟩:=Ei.mp hd;obtain⟨⟨x',y'⟩,_,rfl⟩:=Ei.mp he;show fC (.tuple [.int x,.int y]) (.tuple [.int x',.int y'])=true;simp only [fC,fD];split
  ·split <;> rfl
  ·rfl
 depth:=fun d hd=>by obtain⟨g,_,rfl⟩:=Ei.mp hd;exact EH rfl
 nd:=Fq.mpr (nd.imp fun {a b} h e=>h (v8 e))
theorem aa:∀ {l m:List PyData},(∀ d∈l,zJ d=true)->(l.Pairwise fun d e=>ltD d e=true)->(m.Pairwise fun d e=>ltD d e=true)->(∀ d,d∈l↔d∈m)->l=m
 | [],[],_,_,_,_=>rfl
 | [],b :: m,_,_,_,h=>nomatch (h b).mpr (D4 ..)
 | a :: l,[],_,_,_,h=>nomatch (h a).mp (D4 ..)
 | a :: l,b :: m,pl,p,q,h=>by
  obtain⟨p1,p2⟩:=Fw.mp p;obtain⟨q1,q2⟩:=Fw.mp q;have pa:=pl a (D4 ..);have pb:=pl b ((h b).mpr (D4 ..));have ab:a=b:=by
   rcases D5.mp ((h a).mp (D4 ..)) with e | e
   ·exact e
   ·rcases D5.mp ((h b).mpr (D4 ..)) with e' | e'
    ·exact e'.symm
    ·have:=cR _ _ _ pa pb pa (p1 b e') (q1 a e);rw [j6 a pa] at this;cases this
  subst ab;rw [aa (fun d hd=>pl d (DW _ hd)) p2 q2 fun d=>?_];constructor
  ·intro hd;rcases D5.mp ((h d).mp (DW _ hd)) with e | e
   ·have:=p1 d hd;rw [e,j6 a pa] at this;cases this
   ·exact e
  ·intro hd;rcases D5.mp ((h d).mpr (DW _ hd)) with e | e
   ·have:=q1 d hd;rw [e,j6 a pa] at this;cases this
   ·exact e
theorem aB {α β:Type} {f:α->β} {l1 l2:List β} (h:l1.Perm l2):∀ ts:List α,l2=ts.map f->∃ us:List α,us.Perm ts/\l1=us.map f:=by
 induction h with
 | nil=>intro ts e;exact⟨ts,.refl _,e⟩
 | cons x _ ih =>
  intro ts e;cases ts with
  | nil=>cases e
  | cons t ts =>
   rw [Ez] at e;injection e with e1 e2;obtain⟨us,p,q⟩:=ih ts e2;exact⟨t :: us,.cons t p,by rw [Ez,<- q,e1]⟩
 | swap x y l =>
  intro ts e
  match ts,e with
  | [],e=>cases e
  | [_],e=>cases e
  | a :: b :: ts,e =>
   simp only [Ez] at e;injection e with e1 e2;injection e2 with e2 e3;exact⟨b :: a :: ts,.swap a b ts,by rw [Ez,Ez,e1,e2,e3]⟩
 | trans _ _ ih1 ih2 =>
  intro ts e;obtain⟨us,p,q⟩:=ih2 ts e;obtain⟨vs,p2,q2⟩:=ih1 us q;exact⟨vs,p2.trans p,q2⟩
theorem o7 (l:List Pt):∀ d∈l.map pD,zJ d=true:=fun d hd=>by obtain⟨g,_,rfl⟩:=Ei.mp hd;rfl
theorem w6 {l m:List Pt} (p:(l.map pD).Pairwise fun d e=>ltD d e=true) (q:(m.map pD).Pairwise fun d e=>ltD d e=true) (h:∀ x,x∈l↔x∈m):l=m:=by
 have e:l.map pD=m.map pD:=aa (o7 l) p q fun d=>by
  constructor
  ·intro hd;obtain⟨x,hx,rfl⟩:=Ei.mp hd;exact vb.mpr ((h x).mp hx)
  ·intro hd;obtain⟨x,hx,rfl⟩:=Ei.mp hd;exact vb.mpr ((h x).mpr hx)
 exact (List.map_inj_right fun _ _=>v8).mp e
section
variable (Ju:List (List Int)) (wd:Nat) (cut:Int)
noncomputable def inP (p:Pt):Bool:=zW Ju wd p.1 p.2
noncomputable def hiP (p:Pt):Bool:=hiB Ju cut p.1 p.2
noncomputable def nbL (p:Pt):List Pt:=[(p.1 - 1,p.2),(p.1,p.2 - 1),(p.1,p.2+1),(p.1+1,p.2)]
noncomputable def caL (p:Pt):List Pt:=[(p.1 - 1,p.2 - 1),(p.1 - 1,p.2),(p.1,p.2 - 1),(p.1,p.2)]
noncomputable def asl (p c:Pt):Pt:=(2 * c.1+1 - p.1,2 * c.2+1 - p.2)
noncomputable def ya (c:Pt):Bool:=yf Ju wd c.1 c.2
noncomputable def ja (p:Pt):List Pt:=(((nbL p).filter (inP Ju wd)).filter fun q=>hiP Ju cut q == hiP Ju cut p)++((((caL p).filter (ya Ju wd)).filter fun c=>jf Ju wd cut c.1 c.2 && (dR Ju cut c.1 c.2 == hiP Ju cut p)).map (asl p))
inductive Reach (s:Pt):Pt->Prop where
 | refl:Reach s s
 | step {p q:Pt}:Reach s p->q∈ja Ju wd cut p->Reach s q
end
section
variable {Ju:List (List Int)} {wd:Nat} {cut:Int}
theorem tT {a b:Int} (c:yf Ju wd a b=true) (h:jf Ju wd cut a b=true):hiB Ju cut (a+1) b=!hiB Ju cut a b/\hiB Ju cut a (b+1)=!hiB Ju cut a b/\hiB Ju cut (a+1) (b+1)=hiB Ju cut a b:=by
 unfold jf cg opG at h;simp only [HZ,List.all_nil,Hv,Eb] at h;rw [gr c,lG c,gu c,gv c] at h
 revert h
 cases hiB Ju cut a b <;> cases hiB Ju cut (a+1) b <;> cases hiB Ju cut a (b+1) <;> cases hiB Ju cut (a+1) (b+1) <;> decide
theorem bz {p q:Pt}:q∈nbL p↔(q=(p.1 - 1,p.2) \/ q=(p.1,p.2 - 1) \/ q=(p.1,p.2+1) \/ q=(p.1+1,p.2)):=by
 unfold nbL;simp only [D5,EN,or_false]
theorem w8 {p q:Pt} (h:q∈nbL p):p∈nbL q:=by
 rw [bz] at h ⊢;obtain⟨x,y⟩:=p;rcases h with rfl | rfl | rfl | rfl
 ·exact .inr (.inr (.inr (by simp)))
 ·exact .inr (.inr (.inl (by simp)))
 ·exact .inr (.inl (by simp))
 ·exact .inl (by simp)
theorem BM {p c:Pt}:c∈caL p↔(c=(p.1 - 1,p.2 - 1) \/ c=(p.1 - 1,p.2) \/ c=(p.1,p.2 - 1) \/ c=(p.1,p.2)):=by
 unfold caL;simp only [D5,EN,or_false]
theorem gw {p c:Pt}:c∈caL p↔((p.1=c.1 \/ p.1=c.1+1)/\(p.2=c.2 \/ p.2=c.2+1)):=by
 rw [BM];obtain⟨x,y⟩:=p;obtain⟨a,b⟩:=c;simp only [Prod.mk.injEq];omega
theorem w9 (p c:Pt):asl (asl p c) c=p:=by
 obtain⟨x,y⟩:=p;unfold asl;simp only [Prod.mk.injEq];omega
theorem BN {p c:Pt} (h:c∈caL p):c∈caL (asl p c):=by
 rw [gw] at h ⊢;unfold asl;dsimp only;omega
theorem lJ {p c:Pt} (h:c∈caL p) (cc:ya Ju wd c=true) (x:jf Ju wd cut c.1 c.2=true):hiP Ju cut (asl p c)=hiP Ju cut p/\inP Ju wd (asl p c)=true:=by
 obtain⟨h1,h2,h3⟩:=tT cc x;obtain⟨i1,i2,i3,i4⟩:=cell_in cc;obtain⟨a,b⟩:=c;obtain⟨u,v⟩:=p;rw [gw] at h;dsimp only at h h1 h2 h3 i1 i2 i3 i4;unfold hiP inP asl;dsimp only;obtain⟨hu,hv⟩:=h;rcases hu with rfl | rfl <;> rcases hv with rfl | rfl
 ·rw [show 2 * u+1 - u=u+1 by omega,show 2 * v+1 - v=v+1 by omega];exact⟨h3,i3⟩
 ·rw [show 2 * u+1 - u=u+1 by omega,show 2 * b+1 - (b+1)=b by omega];exact⟨by rw [h1,h2],i2⟩
 ·rw [show 2 * a+1 - (a+1)=a by omega,show 2 * v+1 - v=v+1 by omega];exact⟨by rw [h1,h2],i4⟩
 ·rw [show 2 * a+1 - (a+1)=a by omega,show 2 * b+1 - (b+1)=b by omega];exact⟨h3.symm,i1⟩
theorem mem_join {p q:Pt}:q∈ja Ju wd cut p↔((q∈nbL p/\inP Ju wd q=true/\hiP Ju cut q=hiP Ju cut p) \/ ∃ c,c∈caL p/\ya Ju wd c=true/\jf Ju wd cut c.1 c.2=true/\dR Ju cut c.1 c.2=hiP Ju cut p/\q=asl p c):=by
 unfold ja;rw [En,ET,ET,Ei];constructor
 ·rintro (⟨⟨h1,h2⟩,h3⟩ | ⟨c,hc,rfl⟩)
  ·exact .inl ⟨h1,h2,by simpa using h3⟩
  ·obtain⟨h1,h2⟩:=ET.mp hc;obtain⟨h3,h4⟩:=ET.mp h1;rw [Eb] at h2;exact .inr ⟨c,h3,h4,h2.1,by simpa using h2.2,rfl⟩
 ·rintro (⟨h1,h2,h3⟩ | ⟨c,h1,h2,h3,h4,rfl⟩)
  ·exact .inl ⟨⟨h1,h2⟩,by simpa using h3⟩
  ·refine .inr ⟨c,ET.mpr ⟨ET.mpr ⟨h1,h2⟩,?_⟩,rfl⟩;rw [h3,h4];simp
theorem gx {p q:Pt} (h:q∈ja Ju wd cut p):inP Ju wd q=true/\hiP Ju cut q=hiP Ju cut p:=by
 rcases mem_join.mp h with⟨_,h2,h3⟩ | ⟨c,h1,h2,h3,_,rfl⟩
 ·exact⟨h2,h3⟩
 ·exact⟨(lJ h1 h2 h3).2,(lJ h1 h2 h3).1⟩
theorem o8 {p q:Pt} (hp:inP Ju wd p=true) (h:q∈ja Ju wd cut p):p∈ja Ju wd cut q:=by
 rcases mem_join.mp h with⟨h1,h2,h3⟩ | ⟨c,h1,h2,h3,h4,rfl⟩
 ·exact mem_join.mpr (.inl ⟨w8 h1,hp,h3.symm⟩)
 ·exact mem_join.mpr (.inr ⟨c,BN h1,h2,h3,h4.trans (lJ h1 h2 h3).1.symm,(w9 p c).symm⟩)
theorem Reach.trans {s p q:Pt} (h:Reach Ju wd cut s p) (h':Reach Ju wd cut p q):Reach Ju wd cut s q:=by
 induction h' with
 | refl=>exact h
 | step _ hq ih=>exact ih.step hq
theorem Reach.ins {s p:Pt} (hs:inP Ju wd s=true) (h:Reach Ju wd cut s p):inP Ju wd p=true/\hiP Ju cut p=hiP Ju cut s:=by
 induction h with
 | refl=>exact⟨hs,rfl⟩
 | step _ hq ih=>exact⟨(gx hq).1,(gx hq).2.trans ih.2⟩
theorem Reach.symm {s p:Pt} (hs:inP Ju wd s=true) (h:Reach Ju wd cut s p):Reach Ju wd cut p s:=by
 induction h with
 | refl=>exact .refl
 | step h1 hq ih=>exact (Reach.refl.step (o8 (h1.ins hs).1 hq)).trans ih
structure Reg (Ju:List (List Int)) (wd:Nat) (cut:Int) (r:Bool×List Pt) (h:Pt):Prop where
 hd:r.2.head?=some h
 up:(r.2.map pD).Pairwise fun d e=>ltD d e=true
 mem:∀ q,q∈r.2↔Reach Ju wd cut h q
 inn:inP Ju wd h=true
 hi:r.1=hiP Ju cut h
structure Regs (Ju:List (List Int)) (wd:Nat) (cut:Int) (rs:List (Bool×List Pt)):Prop where
 reg:∀ r∈rs,∃ h,Reg Ju wd cut r h
 all:∀ p,inP Ju wd p=true->∃ r∈rs,p∈r.2
 ord:rs.Pairwise fun a b=>∀ p q,a.2.head?=some p->b.2.head?=some q->ltD (pD p) (pD q)=true
theorem nq {r r':Bool×List Pt} {h h':Pt} (R:Reg Ju wd cut r h) (R':Reg Ju wd cut r' h') {p:Pt} (hp:p∈r.2) (hp':p∈r'.2):r=r':=by
 have a1:=(R.mem p).mp hp;have a2:=(R'.mem p).mp hp';have e:r.2=r'.2:=w6 R.up R'.up fun x=>by
  rw [R.mem,R'.mem];exact⟨fun z=>a2.trans ((a1.symm R.inn).trans z),fun z=>a1.trans ((a2.symm R'.inn).trans z)⟩
 have eh:h=h':=by
  have:=R.hd;rw [e,R'.hd] at this;exact (Option.some.inj this).symm
 exact Fo (by rw [R.hi,R'.hi,eh]) e
theorem dt {rs us:List (Bool×List Pt)} (A:Regs Ju wd cut rs) (B:Regs Ju wd cut us):rs=us:=by
 have mem:∀ {rs us:List (Bool×List Pt)},Regs Ju wd cut rs->Regs Ju wd cut us->∀ r∈rs,r∈us:=fun A B r hr=>by
  obtain⟨h,R⟩:=A.reg r hr;have hm:h∈r.2:=List.mem_of_head? R.hd;obtain⟨u,hu,hmu⟩:=B.all h R.inn;obtain⟨h',U⟩:=B.reg u hu;rw [nq R U hm hmu];exact hu
 have key:∀ (rs us:List (Bool×List Pt)),(∀ r∈rs,∃ h,Reg Ju wd cut r h)->(∀ r∈us,∃ h,Reg Ju wd cut r h)->(rs.Pairwise fun a b=>∀ p q,a.2.head?=some p->b.2.head?=some q->ltD (pD p) (pD q)=true)->(us.Pairwise fun a b=>∀ p q,a.2.head?=some p->b.2.head?=some q->ltD (pD p) (pD q)=true)->(∀ r,r∈rs↔r∈us)->rs=us:=fun rs=>by
  induction rs with
  | nil =>
   intro us _ _ _ _ h;cases us with
   | nil=>rfl
   | cons u us=>exact nomatch (h u).mpr (D4 ..)
  | cons r rs ih =>
   intro us ra rb pa pb h;cases us with
   | nil=>exact nomatch (h r).mp (D4 ..)
   | cons u us =>
    obtain⟨a1,a2⟩:=Fw.mp pa;obtain⟨b1,b2⟩:=Fw.mp pb;obtain⟨hr,R⟩:=ra r (D4 ..);obtain⟨hu,U⟩:=rb u (D4 ..);have e:r=u:=by
     rcases D5.mp ((h r).mp (D4 ..)) with e | e
     ·exact e
     ·rcases D5.mp ((h u).mpr (D4 ..)) with e' | e'
      ·exact e'.symm
      ·have:=cR (pD hr) (pD hu) (pD hr) rfl rfl rfl (a1 u e' _ _ R.hd U.hd) (b1 r e _ _ U.hd R.hd);rw [j6 _ rfl] at this;cases this
    subst e;have no:∀ {l:List (Bool×List Pt)},(∀ x∈l,∀ p q,r.2.head?=some p->x.2.head?=some q->ltD (pD p) (pD q)=true)->r∉l:=fun hl hm=>by
     have:=hl r hm _ _ R.hd R.hd;rw [j6 _ rfl] at this;cases this
    rw [ih us (fun x hx=>ra x (DW _ hx)) (fun x hx=>rb x (DW _ hx)) a2 b2 fun x=>?_];constructor
    ·intro hx;rcases D5.mp ((h x).mp (DW _ hx)) with e | e
     ·exact absurd (e▸hx) (no a1)
     ·exact e
    ·intro hx;rcases D5.mp ((h x).mpr (DW _ hx)) with e | e
     ·exact absurd (e▸hx) (no b1)
     ·exact e
 exact key rs us A.reg B.reg A.ord B.ord fun r=>⟨mem A B r,mem B A r⟩
noncomputable def jL (t n:Nat):List Pt:=(Ef n).flatMap fun (x:Nat)=>(Ef t).map fun (y:Nat)=>((x:Int),(y:Int))
theorem nr (t n:Nat):vg t n=(jL t n).map pD:=by
 unfold vg jL;rw [List.map_flatMap]
 congr 1
 funext x
 rw [EA];rfl
theorem aP {p:Pt}:p∈jL Ju.length wd↔inP Ju wd p=true:=by
 unfold jL inP zW;rw [Ge];constructor
 ·rintro⟨x,hx,h⟩;obtain⟨y,hy,rfl⟩:=Ei.mp h;rw [Eu] at hx hy;simp only [Eb,decide_eq_true_eq];omega
 ·intro h;simp only [Eb,decide_eq_true_eq] at h;obtain⟨u,v⟩:=p;dsimp only at h;refine⟨u.toNat,Eu.mpr (by omega),Ei.mpr ⟨v.toNat,Eu.mpr (by omega),?_⟩⟩;simp only [Prod.mk.injEq];omega
theorem aQ (t:Nat):∀ n,(jL t n).length=t * n
 | 0=>rfl
 | n+1=>by
  unfold jL;rw [GL,FZ,Eh];have:=aQ t n;unfold jL at this;rw [this];simp only [Gp,List.flatMap_nil,EO,DS,EF];rw [Je]
theorem tU {a b:Pt} (h:a.1<b.1 \/ (a.1=b.1/\a.2<b.2)):ltD (pD a) (pD b)=true:=by
 obtain⟨x,y⟩:=a;obtain⟨x',y'⟩:=b;dsimp only at h;show ltD (.tuple [.int x,.int y]) (.tuple [.int x',.int y'])=true;have e:∀ i j:Int,EC (.int i) (.int j)=(i == j):=fun i j=>rfl;simp only [ltD,ltL,e,beq_iff_eq];by_cases h1:x=x'
 ·rw [Jy h1,Jx (by omega)];exact decide_eq_true (by omega)
 ·rw [Jx h1];exact decide_eq_true (by omega)
theorem nt (t n:Nat):((jL t n).map pD).Pairwise fun d e=>ltD d e=true:=by
 rw [Fq];unfold jL;refine w4 n (fun x _=>?_) fun x x' hx _ a ha b hb=>?_
 ·rw [Fq];refine List.Pairwise.imp (fun {a b} h=>?_) Ir;exact tU (a:=((x:Int),(a:Int))) (b:=((x:Int),(b:Int))) (.inr ⟨rfl,by show (a:Int)<b;omega⟩)
 ·obtain⟨y,_,rfl⟩:=Ei.mp ha;obtain⟨y',_,rfl⟩:=Ei.mp hb;exact tU (.inl (by show (x:Int)<x';omega))
theorem vM (g:Good wd Ju) {l:List Pt} (nd:l.Nodup) (h:∀ p∈l,inP Ju wd p=true):l.length<=49:=by
 have key:∀ (l m:List Pt),l.Nodup->(∀ x∈l,x∈m)->l.length<=m.length:=fun l=>by
  induction l with
  | nil=>intro m _ _;exact EI _
  | cons a l ih =>
   intro m nd sub;have ha:=sub a (D4 ..);have hn:=E5.mp nd;have le:=List.length_erase_of_mem ha;have hp:0<m.length:=List.length_pos_of_mem ha;have:=ih (m.erase a) hn.2 (fun y hy=>(List.mem_erase_of_ne (fun (z:y=a)=>hn.1 (z▸hy))).mpr (sub y (DW _ hy)));rw [Ep];omega
 have h1:=key l (jL Ju.length wd) nd fun p hp=>aP.mpr (h p hp);rw [aQ] at h1;exact Er h1 (Fh g.h2 g.w2)
end
structure Seek (Ju:List (List Int)) (wd:Nat) (cut:Int) (st:Pt) (fs ws:List Pt):Prop where
 nd:fs.Nodup
 wn:ws.Nodup
 fst:st∈fs
 re:∀ p∈fs,Reach Ju wd cut st p
 sub:∀ p∈ws,p∈fs
 cl:∀ p∈fs,p∉ws->∀ q∈ja Ju wd cut p,q∈fs
theorem Seek.done {Ju:List (List Int)} {wd:Nat} {cut:Int} {st:Pt} {fs:List Pt} (S:Seek Ju wd cut st fs []) (q:Pt):q∈fs↔Reach Ju wd cut st q:=by
 refine⟨S.re q,fun h=>?_⟩
 induction h with
 | refl=>exact S.fst
 | step _ hq ih=>exact S.cl _ ih EN _ hq
theorem Seek.turn {Ju:List (List Int)} {wd:Nat} {cut:Int} {st p:Pt} {fs ws new:List Pt} (S:Seek Ju wd cut st fs (ws++[p])) (nd:(fs++new).Nodup) (hn:∀ q∈new,q∈ja Ju wd cut p) (all:∀ q∈ja Ju wd cut p,q∈fs++new):Seek Ju wd cut st (fs++new) (ws++new) where
 nd:=nd
 wn:=by
  obtain⟨n1,n2,n3⟩:=FE.mp nd;obtain⟨m1,_,_⟩:=FE.mp S.wn;exact FE.mpr ⟨m1,n2,fun a ha b hb=>n3 a (S.sub a (Ew _ ha)) b hb⟩
 fst:=Ew _ S.fst
 re:=fun q hq=>by
  rcases En.mp hq with h | h
  ·exact S.re q h
  ·exact (S.re p (S.sub p (by simp))).step (hn q h)
 sub:=fun q hq=>by
  rcases En.mp hq with h | h
  ·exact Ew _ (S.sub q (Ew _ h))
  ·exact Ed _ h
 cl:=fun r hr nw q hq=>by
  by_cases e:r=p
  ·rw [e] at hq;exact all q hq
  ·rcases En.mp hr with h | h
   ·refine Ew _ (S.cl r h (fun z=>?_) q hq);rcases En.mp z with z | z
    ·exact nw (Ew _ z)
    ·exact e (Ej.mp z)
   ·exact absurd (Ed _ h) nw
theorem Seek.few {Ju:List (List Int)} {wd:Nat} {cut:Int} {st:Pt} {fs ws:List Pt} (S:Seek Ju wd cut st fs ws) (g:Good wd Ju) (hi:inP Ju wd st=true):fs.length<=49:=vM g S.nd fun p hp=>((S.re p hp).ins hi).1
noncomputable abbrev dS (fs:List Pt):List (PyData×PyData):=fs.map fun p=>(pD p,.bool true)
theorem vN (fs:List Pt):(dS fs).map (·.1)=fs.map pD:=by rw [EA];rfl
theorem tV {fs:List Pt} {q:Pt} (h:q∉fs):dput (pD q) (.bool true) (dS fs)=dS (fs++[q]):=by
 unfold dput;rw [Jx (by rw [vN,vb];exact h)];unfold dS;rw [Ey];rfl
noncomputable def bU (r:Bool×List Pt):PyData:=.tuple [.str (if r.1=true then "high" else "low"),.tuple (r.2.map pD)]
abbrev TP:=List (List Int)×Nat×Int×Int
abbrev C6 (K:DT):Sp:=spD K 3 (fun (c:TP) xs=>xs=[.dat (tab c.1),.dat (.int c.2.2.1),.dat (.int c.2.2.2)]/\Good c.2.1 c.1) fun c r=>r=.list (((nbL (c.2.2.1,c.2.2.2)).filter (inP c.1 c.2.1)).map pD)
theorem C7 (F:Def K mg "neighbours" jR ph) (uao:FnIn P w K mg base k "has_point" ph (ni K)):FnIn P w K mg base (k+1) "neighbours" ph (C6 K):=by
 refine F.ok vS rfl fun fa cdv A outer s H E hr=>⟨_,(zc (zS (i:=3) vS.nd rfl (Or.inl rfl) (yQ (za (zO (za (zt ym (pv 1) zh) (za (pv 2) zb))) (za (zO (za (pv 1) (za (zt ym (pv 2) zh) zb))) (za (zO (za (pv 1) (za (zt yd (pv 2) zh) zb))) (za (zO (za (zt yd (pv 1) zh) (za (pv 2) zb))) zb)))))) (zl (zG (zY (N:=pB) (own:=2) (fr:=[0]) (by walk_at "c") rfl (zU (K:=K) rfl (pv 3)) (fun _ _ _ _=>(zN (K:=K) (n:=2) rfl rfl (zg (zd (i:=0) (show (pB:List Str).Nodup by decide +kernel) rfl (Or.inl rfl) (Or.inr rfl)) (zg (zd (i:=1) (show (pB:List Str).Nodup by decide +kernel) rfl (Or.inl rfl) (Or.inr rfl)) zL)))) (fun _ _ _ _=>(qO (yM (K:=K) rfl (ze uao hr rfl (za (pv 2) (za (pv 0) (za (pv 1) zb)))) (fun _=>rfl)))) (fun _ _ _ _=>(zO (za (pv 0) (za (pv 1) zb)))) rfl rfl (fun _=>rfl))))),?_⟩;rintro f xs ⟨Ju,wd,x,y⟩ hl ⟨rfl,g⟩
 try dsimp only [yu,zp]
 dsimp only at *;refine cY (fun ρ=>ρ=[some (.dat (tab Ju)),some (.dat (.int x)),some (.dat (.int y)),some (.dat (.list ((nbL (x,y)).map pD)))]) ?_ ?_
 ·walk_at "w";rfl
 rintro _ rfl;refine yL (PEdO.ped (v3 (A:=pD) (B:=pD) (inP Ju wd) (nbL (x,y)) (yF (zk rfl ⟨_,rfl,rfl,EH rfl,?_,rfl⟩))));rintro D ⟨a,b⟩ ρ' es hg ho hes;obtain⟨us,hus,rfl⟩:=ho
 match us,hus with
 | [u1,u2],_ =>
  refine yz rfl (zm (zi (zm (zi (zV (j4 (zr (Ju,wd,a,b) ?_)))))));walk_at "w";rintro _ rfl;refine⟨_,rfl,rfl,jw (fun h=>?_) fun h=>?_⟩
  ·refine yv hes ?_;walk_at "w";exact⟨⟨[_,_],rfl,rfl⟩,rfl⟩
  ·exact⟨[_,_],rfl,rfl⟩
abbrev C8 (K:DT):Sp:=spD K 3 (fun (c:TP) xs=>xs=[.dat (tab c.1),.dat (.int c.2.2.1),.dat (.int c.2.2.2)]/\Good c.2.1 c.1) fun c r=>r=.list (((caL (c.2.2.1,c.2.2.2)).filter (ya c.1 c.2.1)).map pD)
theorem C9 (F:Def K mg "cells_at" qU ph) (ua0:FnIn P w K mg base k "has_cell" ph (tQ K)):FnIn P w K mg base (k+1) "cells_at" ph (C8 K):=by
 refine F.ok bJ rfl fun fa cdv A outer s H E hr=>⟨_,(zc (zS (i:=3) bJ.nd rfl (Or.inl rfl) (yQ (za (zO (za (zt ym (pv 1) zh) (za (zt ym (pv 2) zh) zb))) (za (zO (za (zt ym (pv 1) zh) (za (pv 2) zb))) (za (zO (za (pv 1) (za (zt ym (pv 2) zh) zb))) (za (zO (za (pv 1) (za (pv 2) zb))) zb)))))) (zl (zG (zY (N:=pB) (own:=2) (fr:=[0]) (by walk_at "c") rfl (zU (K:=K) rfl (pv 3)) (fun _ _ _ _=>(zN (K:=K) (n:=2) rfl rfl (zg (zd (i:=0) (show (pB:List Str).Nodup by decide +kernel) rfl (Or.inl rfl) (Or.inr rfl)) (zg (zd (i:=1) (show (pB:List Str).Nodup by decide +kernel) rfl (Or.inl rfl) (Or.inr rfl)) zL)))) (fun _ _ _ _=>(qO (yM (K:=K) rfl (ze ua0 hr rfl (za (pv 2) (za (pv 0) (za (pv 1) zb)))) (fun _=>rfl)))) (fun _ _ _ _=>(zO (za (pv 0) (za (pv 1) zb)))) rfl rfl (fun _=>rfl))))),?_⟩;rintro f xs ⟨Ju,wd,x,y⟩ hl ⟨rfl,g⟩
 try dsimp only [yu,zp]
 dsimp only at *;refine cY (fun ρ=>ρ=[some (.dat (tab Ju)),some (.dat (.int x)),some (.dat (.int y)),some (.dat (.list ((caL (x,y)).map pD)))]) ?_ ?_
 ·walk_at "w";rfl
 rintro _ rfl;refine yL (PEdO.ped (v3 (A:=pD) (B:=pD) (ya Ju wd) (caL (x,y)) (yF (zk rfl ⟨_,rfl,rfl,EH rfl,?_,rfl⟩))));rintro D ⟨a,b⟩ ρ' es hg ho hes;obtain⟨us,hus,rfl⟩:=ho
 match us,hus with
 | [u1,u2],_ =>
  refine yz rfl (zm (zi (zm (zi (zV (j4 (zr (Ju,wd,a,b) ?_)))))));walk_at "w";rintro _ rfl;refine⟨_,rfl,rfl,jw (fun h=>?_) fun h=>?_⟩
  ·refine yv hes ?_;walk_at "w";exact⟨⟨[_,_],rfl,rfl⟩,rfl⟩
  ·exact⟨[_,_],rfl,rfl⟩
abbrev TC:=List (List Int)×Nat×Int×Pt
abbrev Dc (c:TC) (xs:List DV):Prop:=xs=[.dat (tab c.1),.dat (.int c.2.2.1),.dat (pD c.2.2.2)]/\Good c.2.1 c.1/\inP c.1 c.2.1 c.2.2.2=true
abbrev tW (K:DT):Sp:=spD K 3 Dc fun c r=>r=.list ((ja c.1 c.2.1 c.2.2.1 c.2.2.2).map pD)
theorem iZ {α:Type} {p q:α->Bool} {l:List α} {n:Nat} (h:l.length<=n):((l.filter p).filter q).length<=n:=Er (Fb _ _) (Er (Fb _ _) h)
theorem xa (F:Def K mg "joined" aK pA) (uae:FnIn P w K mg base k "stands_high" pA (dk K)) (ua1:FnIn P w K mg base k "neighbours" ph (C6 K)) (ua2:FnIn P w K mg base k "cells_at" ph (C8 K))
  (uaC:FnIn P w K mg base k "is_crossed" pj (bx K)) (uaD:FnIn P w K mg base k "has_high_middle" pj (tR K)):FnIn P w K mg base (k+1) "joined" pA (tW K):=by
 refine F.ok jY rfl fun fa cdv A outer s H E hr=>⟨_,(zc (yr (pv 2) (zN (K:=K) (n:=2) rfl rfl (zg (zd (i:=3) jY.nd rfl (Or.inr rfl) (Or.inl rfl)) (zg (zd (i:=4) jY.nd rfl (Or.inr rfl) (Or.inl rfl)) zL)))) (zc (zS (i:=5) jY.nd rfl (Or.inr rfl) (ze uae hr rfl (za (pv 0) (za (pv 1) (za (pv 2) zb))))) (zc (jh (i:=6) (N:=["other","rows","cut","high"]) (own:=1) (fr:=[0,1,5]) (by walk_at "c") rfl jY.nd rfl (Or.inl rfl) (zU (K:=K) rfl (ze ua1 hr rfl (za (pv 0) (za (pv 3) (za (pv 4) zb))))) (fun _ _ _ _=>(zd (i:=0) (show (["other","rows","cut","high"]:List Str).Nodup by decide +kernel) rfl (Or.inl rfl) (Or.inr rfl))) (fun _ _ _ _=>(qO (yy (ft (K:=K) rfl hr.units) (ze uae hr rfl (za (pv 1) (za (pv 2) (za (pv 0) zb)))) (pv 3) (yY _)))) (fun _ _ _ _=>(pv 0)) rfl rfl (fun _=>rfl) (Or.inl rfl) rfl) (zc (jh (i:=7) (N:=pY) (own:=2) (fr:=[0,1,3,4,5]) (by walk_at "c") rfl jY.nd rfl (Or.inl rfl) (zU (K:=K) rfl (ze ua2 hr rfl (za (pv 0) (za (pv 3) (za (pv 4) zb))))) (fun _ _ _ _=>(zN (K:=K) (n:=2) rfl rfl (zg (zd (i:=0) (show (pY:List Str).Nodup by decide +kernel) rfl (Or.inl rfl) (Or.inr rfl)) (zg (zd (i:=1) (show (pY:List Str).Nodup by decide +kernel) rfl (Or.inl rfl) (Or.inr rfl)) zL)))) (fun _ _ _ _=>(qO (PW.pt (rn (yM (K:=K) rfl (ze uaC hr rfl (za (pv 2) (za (pv 3) (za (zO (za (pv 0) (za (pv 1) zb))) zb)))) (fun _=>rfl)) (lS (yy (ft (K:=K) rfl hr.units) (ze uaD hr rfl (za (pv 2) (za (pv 3) (za (zO (za (pv 0) (za (pv 1) zb))) zb)))) (pv 6) (yY _))))))) (fun _ _ _ _=>(zO (za (zt ym (zt yd (zt vU zh (pv 0)) zh) (pv 4)) (za (zt ym (zt yd (zt vU zh (pv 1)) zh) (pv 5)) zb)))) rfl rfl (fun _=>rfl) (Or.inl rfl) rfl) (zl (zG (zt (vm (K:=K) rfl) (pv 6) (pv 7)))))))),?_⟩;rintro f xs ⟨Ju,wd,cut,⟨x,y⟩⟩ hl ⟨rfl,g,ip⟩
 try dsimp only [yu,zp]
 dsimp only at *;refine zT (yj (zk rfl (yz rfl (zm (zi (zm (zi (zV ?_))))))));refine cY (fun ρ=>ρ=[some (.dat (tab Ju)),some (.dat (.int cut)),some (.dat (pD (x,y))),some (.dat (.int x)),some (.dat (.int y)),some (.dat (.bool (hiP Ju cut (x,y)))),none,none]) (yj (zr (Ju,wd,cut,x,y) ?_)) ?_
 ·walk_at "w";rintro _ rfl;exact zi rfl
 rintro _ rfl;refine cY (fun ρ=>ρ=[some (.dat (tab Ju)),some (.dat (.int cut)),some (.dat (pD (x,y))),some (.dat (.int x)),some (.dat (.int y)),some (.dat (.bool (hiP Ju cut (x,y)))),some (.dat (.list ((((nbL (x,y)).filter (inP Ju wd)).filter fun q=>hiP Ju cut q == hiP Ju cut (x,y)).map pD))),none])
  (yj (PEdO.ped (v3 (A:=pD) (B:=pD) (fun q=>hiP Ju cut q == hiP Ju cut (x,y)) ((nbL (x,y)).filter (inP Ju wd)) (yF (zr (Ju,wd,x,y) ?_))))) ?_
 ·walk_at "w";rintro _ rfl;refine⟨_,rfl,rfl,Er (Fb _ _) (EH rfl),?_,zi rfl⟩;rintro D ⟨a,b⟩ ρ' es hg ho hes;have hi:inP Ju wd (a,b)=true:=(ET.mp hg).2;obtain⟨us,hus,rfl⟩:=ho
  match us,hus with
  | [u1],_ =>
   refine zi (jN (aq (zr (Ju,wd,cut,a,b) ?_)));walk_at "w";rintro _ rfl;walk_at "w";refine jw (fun h=>?_) fun h=>?_
   ·refine yv hes ?_;walk_at "w";exact⟨⟨[_],rfl,rfl⟩,rfl⟩
   ·exact⟨[_],rfl,rfl⟩
 rintro _ rfl;refine cY (fun ρ=>ρ=[some (.dat (tab Ju)),some (.dat (.int cut)),some (.dat (pD (x,y))),some (.dat (.int x)),some (.dat (.int y)),some (.dat (.bool (hiP Ju cut (x,y)))),some (.dat (.list ((((nbL (x,y)).filter (inP Ju wd)).filter fun q=>hiP Ju cut q == hiP Ju cut (x,y)).map pD))),some (.dat (.list (((((caL (x,y)).filter (ya Ju wd)).filter fun c=>jf Ju wd cut c.1 c.2 && (dR Ju cut c.1 c.2 == hiP Ju cut (x,y))).map (asl (x,y))).map pD)))])
  (yj (PEdO.ped (v3 (A:=pD) (B:=fun c=>pD (asl (x,y) c)) (fun c=>jf Ju wd cut c.1 c.2 && (dR Ju cut c.1 c.2 == hiP Ju cut (x,y))) ((caL (x,y)).filter (ya Ju wd)) (yF (zr (Ju,wd,x,y) ?_))))) ?_
 ·walk_at "w";rintro _ rfl;refine⟨_,rfl,rfl,Er (Fb _ _) (EH rfl),?_,zi (by rw [EA];rfl)⟩;rintro D ⟨a,b⟩ ρ' es hg ho hes;have hi:yf Ju wd a b=true:=(ET.mp hg).2;obtain⟨us,hus,rfl⟩:=ho
  match us,hus with
  | [u1,u2],_ =>
   refine yz rfl (zm (zi (zm (zi (zV (l7 (j4 (zr (Ju,wd,cut,a,b) ?_))))))));walk_at "w";rintro _ rfl;refine⟨_,rfl,jw (fun h1=>?_) fun h1=>?_⟩
   ·have h1:jf Ju wd cut a b=true:=h1;refine jN (aq (zr (Ju,wd,cut,a,b) ?_));walk_at "w";rintro _ rfl;walk_at "w";refine⟨by dsimp only;rw [h1,G9];rfl,jw (fun h=>?_) fun h=>?_⟩
    ·refine yv hes ?_;walk_at "w";exact⟨⟨[_,_],rfl,rfl⟩,rfl⟩
    ·exact⟨[_,_],rfl,rfl⟩
   ·have h1:jf Ju wd cut a b=false:=h1;exact⟨by dsimp only;rw [h1,Gf],⟨[_,_],rfl,rfl⟩⟩
 rintro _ rfl;refine yL (cP (zk rfl ⟨_,rfl,zk rfl ⟨_,rfl,?_,?_⟩⟩))
 ·rw [DS,DS,DS];have h1:=iZ (p:=inP Ju wd) (q:=fun q=>hiP Ju cut q == hiP Ju cut (x,y)) (l:=nbL (x,y)) (n:=4) (D8 4);have h2:=iZ (p:=ya Ju wd) (q:=fun c=>jf Ju wd cut c.1 c.2 && (dR Ju cut c.1 c.2 == hiP Ju cut (x,y))) (l:=caL (x,y)) (n:=4) (D8 4);omega
 ·rw [<-Ey];rfl
noncomputable def Dd (cs:List OC):Nat:=match cs with
 | [.dic kvs,.lst es]=>2 * (100 - kvs.length)+es.length
 | _=>0
abbrev tX (K:DT):Sp:=spD K 3 Dc fun c r=>∃ l:List Pt,r=.tuple (l.map pD)/\((l.map pD).Pairwise fun d e=>ltD d e=true)/\∀ q,q∈l↔Reach c.1 c.2.1 c.2.2.1 c.2.2.2 q
theorem xb (F:Def K mg "all_joined" jU pP) (uak:mg "sorted"=none) (ual:mg "tuple"=none) (ua3:FnIn P w K mg base k "joined" pA (tW K)):FnIn P w K mg base (k+1) "all_joined" pP (tX K):=by
 refine F.ok y9 rfl fun fa cdv A outer s H E hr=>⟨_,(zc (zS (i:=3) y9.nd rfl (Or.inl rfl) (wy (w:=w) (K:=K) rfl rfl hr.units (pv 2) ag)) (zc (zS (i:=4) y9.nd rfl (Or.inl rfl) (yQ (za (pv 2) zb))) (zc (gS ER (yM (K:=K) rfl (pv 4) (fun _=>rfl)) (zc (zS (i:=5) y9.nd rfl (Or.inl rfl) (AN Fy PySem.F.slot_list_pop PySem.F.type_list_pop AO (pv 4))) (zl (jz ER rfl (zU (K:=K) rfl (ze ua3 hr rfl (za (pv 0) (za (pv 1) (za (pv 5) zb))))) (zd (i:=6) y9.nd rfl (Or.inl rfl) (Or.inr rfl)) (zl (jl (yy (fS (w:=w) (K:=K) rfl rfl hr.units) (pv 6) (pv 3) rfl) (zc (yr ag (cC (pv 3) (pv 6) (cW (w:=w) (K:=K) rfl rfl hr.units))) (zl (jb (gX Fy FK FL qB (pv 4) (za (pv 6) zb))))) yp)))))) (zl (zG (ba (vk (K:=K) rfl) rfl ual Hf (za (zK (iL (w:=w) (K:=K) rfl rfl rfl hr.units) rfl uak Ha (za (pv 3) zb)) zb))))))),?_⟩;rintro f xs ⟨Ju,wd,cut,st⟩ hl ⟨rfl,g,ip⟩
 try dsimp only [yu,zp]
 dsimp only at *;refine Bf (w:=w) (xY (wA fun p=>zk rfl ⟨v9 st,rN ⟨show 3<7 by decide,fun D0=>?_⟩⟩));refine xY (mS (CH (zz (zk rfl (ye ⟨[pD st],rfl,EH rfl,show 4<7 by decide,fun D1=>?_⟩)))));refine sX (fun ρ cs=>∃ (u5 u6:Option DV) (fs:List Pt),ρ=[some (.dat (tab Ju)),some (.dat (.int cut)),some (.dat (pD st)),some (.own (f.M.length+0)),some (.own (f.M.length+1)),u5,u6]/\cs=[.dic (dS fs),.lst []]/\Seek Ju wd cut st fs [])
  (wo (fun ρ cs=>∃ (u5 u6:Option DV) (fs ws:List Pt),ρ=[some (.dat (tab Ju)),some (.dat (.int cut)),some (.dat (pD st)),some (.own (f.M.length+0)),some (.own (f.M.length+1)),u5,u6]/\cs=[.dic (dS fs),.lst (ws.map pD)]/\Seek Ju wd cut st fs ws) (fun _ cs=>Dd cs) ⟨none,none,[st],[st],rfl,rfl,?_⟩ ?_) ?_
 ·exact⟨by simp,by simp,Ej.mpr rfl,fun p hp=>by rw [Ej.mp hp];exact .refl,fun p hp=>hp,fun p hp nw=>absurd hp nw⟩
 ·rintro _ _ ⟨u5,u6,fs,ws,rfl,rfl,S⟩;have few:=S.few g ip;rcases List.eq_nil_or_concat ws with rfl | ⟨ws',p,rfl⟩
  ·refine mY (j4 (zk (i:=4) (d:=.list []) ?_ ⟨false,rfl,?_⟩))
   ·show some (freed _ _ _)=_;simp [freed]
   ·rw [Jx DX];exact⟨u5,u6,fs,rfl,rfl,S⟩
  ·rw [List.concat_eq_append] at S ⊢;have hp:=S.sub p (by simp);have ipp:=((S.re p hp).ins ip).1;have fw:(ws'++[p]).length<=49:=vM g S.wn fun q hq=>((S.re q (S.sub q hq)).ins ip).1;rw [Eh] at fw;refine mY (j4 (zk (i:=4) (d:=.list ((ws'++[p]).map pD)) ?_ ⟨true,?_,?_⟩))
   ·show some (freed _ _ _)=_;simp [freed]
   ·rw [Ey];show some _=some _;simp
   ·rw [Jy rfl];refine sP (CQ (i:=4) (j:=1) (es:=ws'.map pD) (d:=pD p) rfl (by rw [Ey];rfl) ?_);refine eO (yF (zr (Ju,wd,cut,p) ?_));walk_at "w";rintro _ rfl;refine⟨_,rfl,fun i ρ cs=>∃ (u6:Option DV) (new:List Pt),ρ=[some (.dat (tab Ju)),some (.dat (.int cut)),some (.dat (pD st)),some (.own (f.M.length+0)),some (.own (f.M.length+1)),some (.dat (pD p)),u6]/\cs=[.dic (dS (fs++new)),.lst ((ws'++new).map pD)]/\(fs++new).Nodup/\(∀ q∈new,q∈ja Ju wd cut p)/\∀ q∈(ja Ju wd cut p).take i,q∈fs++new,⟨u6,[],rfl,?_,?_,?_,?_⟩,?_,?_⟩
    ·rw [EO,EO];rfl
    ·rw [EO];exact S.nd
    ·exact fun q hq=>nomatch hq
    ·exact fun q hq=>by rw [Hn] at hq;cases hq
    ·rintro i d _ _ hd ⟨u6,new,rfl,rfl,nd,hn,tk⟩;rw [D7] at hd;cases eq:(ja Ju wd cut p)[i]? with
     | none=>rw [eq] at hd;cases hd
     | some q =>
      rw [eq] at hd;cases hd;have hq:q∈ja Ju wd cut p:=D9 eq;have few2:(fs++new).length<=49:=vM g nd fun r hr=>by
       rcases En.mp hr with h | h
       ·exact ((S.re r h).ins ip).1
       ·exact (gx (hn r h)).1
      rw [Eh] at few2;have tk':(ja Ju wd cut p).take (i+1)=(ja Ju wd cut p).take i++[q]:=by rw [EZ,eq];rfl
      have dec:decide (pD q∈(dS (fs++new)).map (·.1))=decide (q∈fs++new):=by
       rw [vN];exact decide_eq_decide.mpr vb
      refine zi (CK (wz (neg:=true) (i:=3) (j:=0) rfl rfl (sR (zk rfl ⟨v9 q,?_⟩))));rw [Jy rfl,dec];refine jw (fun h=>?_) fun h=>?_
      ·have hq':q∉fs++new:=by simpa using h
       refine sP (sV (i:=3) (j:=0) rfl rfl (by rw [DS,Eh];omega) (rN (zk rfl ⟨v9 q,?_⟩)));refine xX (i:=4) (j:=1) rfl rfl (by rw [DS,Eh];omega) (sR (zk rfl ?_));refine⟨_,new++[q],rfl,?_,?_,?_,?_⟩
       ·rw [tV hq',Fs,<- Fs ws',Ey (l₁:=ws'++new)];rfl
       ·rw [<-Fs];exact FE.mpr ⟨nd,by simp,fun a ha b hb e=>hq' (by rw [Ej.mp hb] at e;exact e▸ha)⟩
       ·intro r hr;rcases En.mp hr with h | h
        ·exact hn r h
        ·rw [Ej.mp h];exact hq
       ·intro r hr;rw [tk'] at hr;rw [<-Fs];rcases En.mp hr with h | h
        ·exact Ew _ (tk r h)
        ·exact Ed _ h
      ·have hq':q∈fs++new:=E3 fun z=>by rw [decide_eq_false z] at h;cases h
       refine sQ ⟨_,new,rfl,rfl,nd,hn,fun r hr=>?_⟩;rw [tk'] at hr;rcases En.mp hr with h | h
       ·exact tk r h
       ·rw [Ej.mp h];exact hq'
    ·rintro _ _ ⟨u6,new,rfl,rfl,nd,hn,tk⟩;rw [DS] at tk;rw [E6] at tk;refine⟨⟨_,u6,fs++new,ws'++new,rfl,rfl,S.turn nd hn tk⟩,?_⟩;have few2:=(S.turn nd hn tk).few g ip;show 2 * (100 - (dS (fs++new)).length)+((ws'++new).map pD).length<2 * (100 - (dS fs).length)+((ws'++[p]).map pD).length;simp only [DS,Eh,EX] at few2 ⊢;omega
 rintro _ _ ⟨u5,u6,fs,rfl,rfl,S⟩;have few:=S.few g ip;refine CP (Bm "int" (i:=3) (j:=0) rfl rfl (by rw [vN];exact tS S.nd) (by rw [DS];omega) fun es pm up=>?_);rw [vN] at pm;obtain⟨l,pl,rfl⟩:=aB pm fs rfl;exact⟨l,rfl,up,fun q=>by rw [pl.mem_iff];exact S.done q⟩
theorem o9 {Ju:List (List Int)} {wd:Nat} {cut:Int} {st:Pt} {l:List Pt} (up:(l.map pD).Pairwise fun d e=>ltD d e=true) (mem:∀ q,q∈l↔Reach Ju wd cut st q) (least:∀ q,Reach Ju wd cut st q->q=st \/ ltD (pD st) (pD q)=true):l.head?=some st:=by
 have hs:st∈l:=(mem st).mpr .refl;cases l with
 | nil=>cases hs
 | cons a l =>
  rcases D5.mp hs with e | e
  ·rw [e];rfl
  ·have h1:=(Fw.mp up).1 (pD st) (vb.mpr e);rcases least a ((mem a).mp (D4 ..)) with e' | e'
   ·rw [e'];rfl
   ·have:=cR (pD a) (pD st) (pD a) rfl rfl rfl h1 e';rw [j6 _ rfl] at this;cases this
structure Sofar (Ju:List (List Int)) (wd:Nat) (cut:Int) (ps:List Pt) (rs:List (Bool×List Pt)) (ks:List PyData):Prop where
 reg:∀ r∈rs,∃ h,Reg Ju wd cut r h/\h∈ps
 all:∀ p∈ps,∃ r∈rs,p∈r.2
 ord:rs.Pairwise fun a b=>∀ p q,a.2.head?=some p->b.2.head?=some q->ltD (pD p) (pD q)=true
 key:∀ p,pD p∈ks↔∃ r∈rs,p∈r.2
theorem Sofar.done {Ju:List (List Int)} {wd:Nat} {cut:Int} {rs:List (Bool×List Pt)} {ks:List PyData} (S:Sofar Ju wd cut (jL Ju.length wd) rs ks):Regs Ju wd cut rs :=
 ⟨fun r hr=>let⟨h,R,_⟩:=S.reg r hr;⟨h,R⟩,fun p hp=>S.all p (aP.mpr hp),S.ord⟩
theorem Sofar.more {Ju:List (List Int)} {wd:Nat} {cut:Int} {ps:List Pt} {rs:List (Bool×List Pt)} {ks:List PyData} (S:Sofar Ju wd cut ps rs ks) {p:Pt} {qs:List Pt} (e:jL Ju.length wd=ps++p :: qs) (hn:pD p∉ks) {l:List Pt} (up:(l.map pD).Pairwise fun d e=>ltD d e=true) (mem:∀ q,q∈l↔Reach Ju wd cut p q) :
  Sofar Ju wd cut (ps++[p]) (rs++[(hiP Ju cut p,l)]) (l.map pD++ks):=by
 have ip:inP Ju wd p=true:=aP.mp (by rw [e];simp);have hup:=nt Ju.length wd;rw [e,Ey,Ez,Hy] at hup;obtain⟨_,u2,u3⟩:=hup;obtain⟨u4,_⟩:=Fw.mp u2;have free:∀ q,Reach Ju wd cut p q->∀ r∈rs,q∉r.2:=fun q hq r hr hm=>by
  obtain⟨h,R,_⟩:=S.reg r hr;exact hn ((S.key p).mpr ⟨r,hr,(R.mem p).mpr (((R.mem q).mp hm).trans (hq.symm ip))⟩)
 have least:∀ q,Reach Ju wd cut p q->q=p \/ ltD (pD p) (pD q)=true:=fun q hq=>by
  have iq:=(hq.ins ip).1;have hm:=aP.mpr iq;rw [e,En,D5] at hm;rcases hm with h | h | h
  ·obtain⟨r,hr,hm⟩:=S.all q h;exact absurd hm (free q hq r hr)
  ·exact .inl h
  ·exact .inr (u4 _ (vb.mpr h))
 have hd:=o9 up mem least;have R:Reg Ju wd cut (hiP Ju cut p,l) p:=⟨hd,up,mem,ip,rfl⟩;refine⟨fun r hr=>?_,fun q hq=>?_,?_,fun q=>?_⟩
 ·rcases En.mp hr with h | h
  ·obtain⟨h',R',m⟩:=S.reg r h;exact⟨h',R',Ew _ m⟩
  ·rw [Ej.mp h];exact⟨p,R,by simp⟩
 ·rcases En.mp hq with h | h
  ·obtain⟨r,hr,hm⟩:=S.all q h;exact⟨r,Ew _ hr,hm⟩
  ·rw [Ej.mp h];exact⟨_,Ed _ (Ej.mpr rfl),(mem p).mpr .refl⟩
 ·refine Hy.mpr ⟨S.ord,by simp,fun a ha b hb x y hx hy=>?_⟩;rw [Ej.mp hb,hd] at hy;cases hy;obtain⟨h,R',m⟩:=S.reg a ha;rw [R'.hd] at hx;cases hx;exact u3 _ (vb.mpr m) _ (D4 ..)
 ·rw [En,vb,S.key];constructor
  ·rintro (h | ⟨r,hr,hm⟩)
   ·exact⟨_,Ed _ (Ej.mpr rfl),h⟩
   ·exact⟨r,Ew _ hr,hm⟩
  ·rintro⟨r,hr,hm⟩;rcases En.mp hr with h | h
   ·exact .inr ⟨r,h,hm⟩
   ·rw [Ej.mp h] at hm;exact .inl hm
theorem Sofar.skip {Ju:List (List Int)} {wd:Nat} {cut:Int} {ps:List Pt} {rs:List (Bool×List Pt)} {ks:List PyData} (S:Sofar Ju wd cut ps rs ks) {p:Pt} (h:pD p∈ks):Sofar Ju wd cut (ps++[p]) rs ks :=
 ⟨fun r hr=>let⟨h,R,m⟩:=S.reg r hr;⟨h,R,Ew _ m⟩,fun q hq=>by
  rcases En.mp hq with h' | h'
  ·exact S.all q h'
  ·rw [Ej.mp h'];exact (S.key p).mp h,S.ord,S.key⟩
theorem Sofar.keys {Ju:List (List Int)} {wd:Nat} {cut:Int} {ps:List Pt} {rs:List (Bool×List Pt)} {ks ks':List PyData} (S:Sofar Ju wd cut ps rs ks) (h:∀ p,pD p∈ks'↔pD p∈ks):Sofar Ju wd cut ps rs ks':=⟨S.reg,S.all,S.ord,fun p=>(h p).trans (S.key p)⟩
theorem Sofar.nil {Ju:List (List Int)} {wd:Nat} {cut:Int}:Sofar Ju wd cut [] [] []:=⟨fun _ h=>(nomatch h),fun _ h=>(nomatch h),List.Pairwise.nil,fun p=>⟨fun h=>(nomatch h),fun⟨_,h,_⟩=>(nomatch h)⟩⟩
def p7 (w:World) (K:DT) (f:Fx) (Ds:List DY) (ts:TS) (ρ:zq) (cs:List OC) (j:Nat) (R:List PyData->Prop):Prop:=Sep f Ds->∀ (σ:L2.St) (H H2:Hp) (E:Ends),CM w K f Ds H2 ρ cs σ H ->
 (∀ D es ρ' cs' σ' H',CM w K f Ds H2 ρ' cs' σ' H'->Ds[j]?=some D->cs'[j]?=some (.lst es)->R es->E.rt (.ref D) H')->ts E σ H
section
variable {w:World} {K:DT} {f:Fx} {Ds:List DY} {ρ:zq} {cs:List OC} {ts tu:TS} {te:TE} {R:List PyData->Prop} {i j:Nat}
theorem BO (h:PSm w K f Ds ts ρ cs { nx:=fun ρ' cs'=>p7 w K f Ds tu ρ' cs' j R,rt:=fun _=>False }):p7 w K f Ds (qt ts tu) ρ cs j R:=fun se σ H H2 E x q =>
 h se σ H H2 _ x (fun ρ' cs' σ' H' x' p=>p se σ' H' H2 E x' q) (fun _ _ _ _ _ _ _ _ z=>z.elim) (fun _ _ _ _ _ z=>z.elim) (fun _ _ _ _ _ z=>z.elim)
theorem BP (hj:j<Ds.length) (h:fO w K (f.withs Ds) te ρ fun c=>i<ρ.length/\∀ D,p7 w K f (Ds++[D]) ts (ρ.set i (some (.own (f.M.length+Ds.length)))) (cs++[c]) j R):p7 w K f Ds (qt (qe te (yS i)) ts) ρ cs j R:=fun se σ H H2 E x q =>
 h σ H _ x.env fun c D H1 g1 hn ho ⟨hi,p⟩ =>
  p D (se.more x.env.fd hn) _ H1 H1 E (x.more g1 hn ho hi) fun D' es ρ' cs' σ' H' y h1 h2 r=>by
   rw [Ec hj] at h1;exact q D' es _ _ σ' H' (x.less g1 hn y) h1 (by rw [Gu hj];exact h2) r
theorem BQ {es:List PyData} (hi:ρ[i]?=some (some (.own (f.M.length+j)))) (hc:cs[j]?=some (.lst es)) (h:R es):p7 w K f Ds (gO (yD i)) ρ cs j R:=fun se σ H H2 E x q=>by
 have hj:j<Ds.length:=by rw [<-x.len];exact (DU.mp hc).1
 have hD:Ds[j]?=some Ds[j]:=DQ hj;exact⟨_,jF hi x hD,q _ es ρ cs σ H x hD hc h⟩
theorem BR (h:fO w K f te ρ fun c=>i<ρ.length/\∀ D,p7 w K f [D] ts (ρ.set i (some (.own (f.M.length+0)))) [c] 0 R):PSn K f (qt (qe te (yS i)) ts) ρ R:=fun σ H E e q=>by
 have se0:Sep f []:=⟨FC,(fun _ z=>nomatch z),(fun _ z=>nomatch z)⟩;have x0:CM w K f [] H ρ [] σ H:=⟨e,Same.refl _,fun _ _=>rfl,rfl,(fun i D c z=>nomatch z)⟩;refine h σ H _ e fun c D H1 g1 hn ho ⟨hi,p⟩=>?_;refine p D (se0.more e.fd hn) _ H1 H1 E (x0.more g1 hn ho hi) fun D' es ρ' cs' σ' H' y h1 h2 r=>?_;cases h1;have z:=x0.less g1 hn y;obtain⟨vs,h3,h4⟩:=y.own 0 D _ rfl h2;exact q es D vs H' ⟨z.sm,z.env.fd,z.kp⟩ hn h3 h4 r
end
theorem i5 {Ju:List (List Int)} {wd:Nat} (g:Good wd Ju) {ks:List PyData} (nd:ks.Nodup) (h:∀ d∈ks,∃ p,d=pD p/\inP Ju wd p=true):ks.length<=49:=by
 have key:∀ ks:List PyData,(∀ d∈ks,∃ p,d=pD p/\inP Ju wd p=true)->∃ l:List Pt,ks=l.map pD/\∀ p∈l,inP Ju wd p=true:=fun ks=>by
  induction ks with
  | nil=>exact fun _=>⟨[],rfl,(fun _ z=>nomatch z)⟩
  | cons d ks ih =>
   intro h;obtain⟨p,rfl,hp⟩:=h d (D4 ..);obtain⟨l,rfl,hl⟩:=ih fun e he=>h e (DW _ he);exact⟨p :: l,rfl,fun q hq=>by
    rcases D5.mp hq with rfl | hq
    ·exact hp
    ·exact hl q hq⟩
 obtain⟨l,rfl,hl⟩:=key ks h;rw [DS];exact vM g (IQ _ (fun a b z e=>z (by rw [e])) nd) hl
abbrev xc (c:List (List Int)×Nat×Int) (xs:List DV):Prop:=xs=[.dat (tab c.1),.dat (.int c.2.2)]/\Good c.2.1 c.1
abbrev gy (K:DT):Sp:=spN K 2 xc fun c es=>∃ rs,es=rs.map bU/\Regs c.1 c.2.1 c.2.2 rs/\rs.length<=49
theorem xf (F:Def K mg "regions" vG pq) (uaE:mg "set"=none) (uaf:FnIn P w K mg base k "ask_table" pf (eU K)) (ua4:FnIn P w K mg base k "points" pf (iY K)) (ua5:FnIn P w K mg base k "all_joined" pP (tX K)) (uae:FnIn P w K mg base k "stands_high" pA (dk K)):FnIn P w K mg base (k+1) "regions" pq (gy K):=by
 refine F.okN jD rfl fun fa cdv A outer s H E hr=>⟨_,(zc (jb (ze uaf hr rfl (za (pv 0) zb))) (zc (zS (i:=2) jD.nd rfl (Or.inl rfl) (yQ zb)) (zc (zS (i:=3) jD.nd rfl (Or.inl rfl) (kr (fQ (w:=w) rfl) rfl uaE PyProof.Rows.boot_set)) (zc (jz ER rfl (zU (K:=K) rfl (ze ua4 hr rfl (za (pv 0) zb))) (zd (i:=4) jD.nd rfl (Or.inl rfl) (Or.inr rfl)) (zl (jl (yy (kX (w:=w) (K:=K) rfl rfl hr.units) (pv 4) (pv 3) rfl) (zc (zS (i:=5) jD.nd rfl (Or.inl rfl) (ze ua5 hr rfl (za (pv 0) (za (pv 1) (za (pv 4) zb))))) (zc (jb (gX Fy FK FL qB (pv 2) (za (zO (za (rp (yM (K:=K) rfl (ze uae hr rfl (za (pv 0) (za (pv 1) (za (pv 4) zb)))) (fun _=>rfl)) rh rh) (za (pv 5) zb))) zb))) (zl (jz ER rfl (av (K:=K) rfl (pv 5)) (zd (i:=6) jD.nd rfl (Or.inl rfl) (Or.inr rfl)) (zl (jb (Bi (w:=w) rfl IP PySem.F.type_set_add (sT (w:=w) (K:=K) rfl rfl hr.units) (pv 3) (za (pv 6) zb)))))))) yp))) (zl (zG (pv 2))))))),?_⟩;rintro f xs ⟨Ju,wd,cut⟩ hl ⟨rfl,g⟩
 try dsimp only [yu,zp]
 dsimp only at *;refine sv (vj (zr (Ju,wd) ?_));walk_at "w";rintro _ rfl;refine BR (w:=w) (mS (xT ⟨show 2<7 by decide,fun D0=>?_⟩));refine BP (show 0<1 by decide) (Bj ⟨show 3<7 by decide,fun D1=>?_⟩);refine BO (eO (yF (zr (Ju,wd) ?_)));walk_at "w";rintro _ rfl;dsimp only;rw [nr];have pl:(jL Ju.length wd).length<=49:=by rw [aQ];exact Fh g.h2 g.w2
 refine⟨_,rfl,fun i ρ cs=>∃ (u4 u5 u6:Option DV) (rs:List (Bool×List Pt)) (ks:List PyData),ρ=[some (.dat (tab Ju)),some (.dat (.int cut)),some (.own (f.M.length+0)),some (.own (f.M.length+1)),u4,u5,u6]/\cs=[.lst (rs.map bU),.set ks]/\Sofar Ju wd cut ((jL Ju.length wd).take i) rs ks/\rs.length<=i/\ks.Nodup/\∀ d∈ks,∃ p,d=pD p/\inP Ju wd p=true,⟨_,_,_,[],[],rfl,rfl,by rw [Hn];exact .nil,D8 0,FC,(fun _ z=>nomatch z)⟩,?_,?_⟩
 ·rintro i d _ _ hd ⟨u4,u5,u6,rs,ks,rfl,rfl,S,rl,kl,kp⟩;rw [D7] at hd;cases eq:(jL Ju.length wd)[i]? with
  | none=>rw [eq] at hd;cases hd
  | some p =>
   rw [eq] at hd;cases hd;have hil:=(DU.mp eq).1;have ip:inP Ju wd p=true:=aP.mp (D9 eq);have tk:(jL Ju.length wd).take (i+1)=(jL Ju.length wd).take i++[p]:=by rw [EZ,eq];rfl
   have sp:jL Ju.length wd=(jL Ju.length wd).take i++p :: (jL Ju.length wd).drop (i+1):=by
    have:=DU.mp eq;rw [<-this.2,<- List.drop_eq_getElem_cons this.1,IE]
   refine zi (CK (CN (neg:=true) (i:=3) (j:=1) rfl rfl (sR (zk rfl ⟨v9 p,?_⟩))));rw [Jy rfl];refine jw (fun h=>?_) fun h=>?_
   ·have hn:pD p∉ks:=by simpa using h
    refine sX (fun ρ cs=>∃ l:List Pt,ρ=[some (.dat (tab Ju)),some (.dat (.int cut)),some (.own (f.M.length+0)),some (.own (f.M.length+1)),some (.dat (pD p)),some (.dat (.tuple (l.map pD))),u6]/\cs=[.lst (rs.map bU),.set ks]/\((l.map pD).Pairwise fun d e=>ltD d e=true)/\∀ q,q∈l↔Reach Ju wd cut p q) (Bg (yj (zr (Ju,wd,cut,p) ?_))) ?_
    ·walk_at "w";rintro _ ⟨l,rfl,up,mem⟩;exact zi ⟨l,rfl,rfl,up,mem⟩
    rintro _ _ ⟨l,rfl,rfl,up,mem⟩;have S':=S.more sp hn up mem;rw [<-tk] at S';have nd:l.Nodup:=IQ _ (fun a b (z:ltD (pD a) (pD b)=true) e=>by rw [e,j6 _ rfl] at z;cases z) up;have ll:l.length<=49:=vM g nd fun q hq=>(((mem q).mp hq).ins ip).1;refine sX (fun ρ cs=>ρ=[some (.dat (tab Ju)),some (.dat (.int cut)),some (.own (f.M.length+0)),some (.own (f.M.length+1)),some (.dat (pD p)),some (.dat (.tuple (l.map pD))),u6]/\cs=[.lst ((rs++[(hiP Ju cut p,l)]).map bU),.set ks]) (xX (i:=2) (j:=0) rfl rfl (by rw [DS];omega) (sR (ve (zz (AW (j4 (zr (Ju,wd,cut,p.1,p.2) ?_)))))))  ?_
    ·walk_at "w";rintro _ rfl;refine⟨_,rfl,jw (fun h1=>?_) fun h1=>?_⟩
     ·have h1:hiP Ju cut p=true:=h1;walk_at "w";rw [h1,Ey];rfl
     ·have h1:hiP Ju cut p=false:=h1;walk_at "w";rw [h1,Ey];rfl
    rintro _ _ ⟨rfl,rfl⟩;refine eO (h9 (zk rfl ⟨_,rfl,fun j ρ cs=>∃ (u6:Option DV) (ks':List PyData),ρ=[some (.dat (tab Ju)),some (.dat (.int cut)),some (.own (f.M.length+0)),some (.own (f.M.length+1)),some (.dat (pD p)),some (.dat (.tuple (l.map pD))),u6]/\cs=[.lst ((rs++[(hiP Ju cut p,l)]).map bU),.set ks']/\ks'.Nodup/\(∀ d∈ks',∃ p,d=pD p/\inP Ju wd p=true)/\∀ q,pD q∈ks'↔(q∈l.take j \/ pD q∈ks),⟨_,ks,rfl,rfl,kl,kp,fun q=>⟨.inr,fun z=>z.elim (fun z=>by rw [Hn] at z;cases z) id⟩⟩,?_,?_⟩))
    ·rintro j d _ _ hd ⟨u6,ks',rfl,rfl,nd',kp',mk⟩;rw [D7] at hd;cases eq':l[j]? with
     | none=>rw [eq'] at hd;cases hd
     | some q =>
      rw [eq'] at hd;cases hd;have hq:q∈l:=D9 eq';have iq:=(((mem q).mp hq).ins ip).1;have tk':l.take (j+1)=l.take j++[q]:=by rw [EZ,eq'];rfl
      have kl':=i5 g nd' kp';refine zi (CO (i:=3) (j:=1) rfl rfl (by omega) (sR (zk rfl ⟨v9 q,fun h=>?_,fun h=>?_⟩)))
      ·refine⟨_,ks',rfl,rfl,nd',kp',fun r=>?_⟩;rw [tk',En,Ej,mk];constructor
       ·rintro (z | z)
        ·exact .inl (.inl z)
        ·exact .inr z
       ·rintro ((z | z) | z)
        ·exact .inl z
        ·rw [z];exact (mk q).mp h
        ·exact .inr z
      ·refine⟨_,pD q :: ks',rfl,rfl,E5.mpr ⟨h,nd'⟩,fun d hd=>?_,fun r=>?_⟩
       ·rcases D5.mp hd with rfl | hd
        ·exact⟨q,rfl,iq⟩
        ·exact kp' d hd
       ·rw [tk',En,Ej,D5,mk];constructor
        ·rintro (z | z | z)
         ·exact .inl (.inr (v8 z))
         ·exact .inl (.inl z)
         ·exact .inr z
        ·rintro ((z | z) | z)
         ·exact .inr (.inl z)
         ·exact .inl (by rw [z])
         ·exact .inr (.inr z)
    ·rintro _ _ ⟨u6,ks',rfl,rfl,nd',kp',mk⟩;rw [DS,E6] at mk;refine⟨_,_,_,rs++[(hiP Ju cut p,l)],ks',rfl,rfl,S'.keys fun q=>?_,by rw [Eh,EX];omega,nd',kp'⟩;rw [mk,En,vb]
   ·have hm:pD p∈ks:=E3 fun z=>by rw [decide_eq_false z] at h;cases h
    refine sQ ⟨_,_,_,rs,ks,rfl,rfl,?_,by omega,kl,kp⟩;rw [tk];exact S.skip hm
 ·rintro _ _ ⟨u4,u5,u6,rs,ks,rfl,rfl,S,rl,kl,kp⟩;rw [DS,E6] at S;rw [DS] at rl;exact BQ (i:=2) (j:=0) rfl rfl ⟨rs,rfl,S.done,by omega⟩
theorem lK {Ju:List (List Int)} {wd:Nat} {cut:Int} {rs:List (Bool×List Pt)} (R:Regs Ju wd cut rs) {i j:Nat} {r r':Bool×List Pt} (hi:rs[i]?=some r) (hj:rs[j]?=some r') {p:Pt} (h:p∈r.2) (h':p∈r'.2):i=j:=by
 obtain⟨x,X⟩:=R.reg r (D9 hi);obtain⟨y,Y⟩:=R.reg r' (D9 hj);have e:=nq X Y h h';have nd:rs.Nodup:=R.ord.imp_of_mem fun {a b} ha hb z e=>by
  obtain⟨x,X⟩:=R.reg a ha;have:=z x x X.hd (e▸X.hd);rw [j6 _ rfl] at this;cases this
 rw [<-e] at hj;exact (List.getElem?_inj (DU.mp hi).1 nd).mp (hi.trans hj.symm)
theorem vO {k v:PyData} {kvs:List (PyData×PyData)}:(dput k v kvs).map (·.1)=if k∈kvs.map (·.1) then kvs.map (·.1) else kvs.map (·.1)++[k]:=by
 unfold dput;by_cases h:k∈kvs.map (·.1)
 ·rw [Jy h,Jy h,EA];refine Fp fun p _=>?_;show (if p.1=k then (p.1,v) else p).1=p.1;split <;> rfl
 ·rw [Jx h,Jx h,Ey];rfl
structure Keyed (Ju:List (List Int)) (wd:Nat) (kvs:List (PyData×PyData)):Prop where
 nd:(kvs.map (·.1)).Nodup
 pt:∀ d∈kvs.map (·.1),∃ p,d=pD p/\inP Ju wd p=true
theorem Keyed.put {Ju:List (List Int)} {wd:Nat} {kvs:List (PyData×PyData)} (h:Keyed Ju wd kvs) {p:Pt} (ip:inP Ju wd p=true) (v:PyData):Keyed Ju wd (dput (pD p) v kvs):=by
 by_cases z:pD p∈kvs.map (·.1)
 ·exact⟨by rw [vO,Jy z];exact h.nd,by rw [vO,Jy z];exact h.pt⟩
 ·refine⟨?_,?_⟩
  ·rw [vO,Jx z];exact FE.mpr ⟨h.nd,by simp,fun a ha b hb e=>z (by rw [Ej.mp hb] at e;exact e▸ha)⟩
  ·rw [vO,Jx z];intro d hd;rcases En.mp hd with hd | hd
   ·exact h.pt d hd
   ·rw [Ej.mp hd];exact⟨p,rfl,ip⟩
theorem Keyed.few {Ju:List (List Int)} {wd:Nat} {kvs:List (PyData×PyData)} (g:Good wd Ju) (h:Keyed Ju wd kvs):kvs.length<=49:=by
 have:=i5 g h.nd h.pt;rw [DS] at this;exact this
theorem BS {Ju:List (List Int)} {wd:Nat} {cut:Int} {rs:List (Bool×List Pt)} (R:Regs Ju wd cut rs) {r:Bool×List Pt} (hr:r∈rs) {p:Pt} (h:p∈r.2):inP Ju wd p=true:=by
 obtain⟨x,X⟩:=R.reg r hr;exact (((X.mem p).mp h).ins X.inn).1
def told (rs:List (Bool×List Pt)) (kvs:List (PyData×PyData)):Prop:=∀ (n:Nat) r p,rs[n]?=some r->p∈r.2->qy (pD p) kvs=some (.int n)
noncomputable def De (b:Bool):PyData:=.str (if b=true then "high" else "low")
theorem xg {rs:List (Bool×List Pt)} {n:Nat} {d:PyData} (h:(bF (rs.map bU))[n]?=some d):∃ r,rs[n]?=some r/\d=.tuple [.int n,bU r]:=by
 unfold bF at h;rw [GV,D7] at h;cases e:rs[n]? with
 | none=>rw [e] at h;cases h
 | some r =>
  rw [e] at h;cases h;exact⟨r,rfl,rfl⟩
theorem tY (ds:List PyData):(bF ds).length=ds.length:=by
 unfold bF;simp
abbrev eW (w:World) (K:DT):Sp:=spV K 2 xc fun c x=>∃ rs kvs,x=.mon (k8 w K kvs)/\Regs c.1 c.2.1 c.2.2 rs/\rs.length<=49/\told rs kvs
theorem lL (F:Def K mg "indexes" vH pq) (uam:mg "enumerate"=none) (uav:FnIn P w K mg base k "regions" pq (gy K)):FnIn P w K mg base (k+1) "indexes" pq (eW w K):=by
 refine F.okV jE rfl fun fa cdv A outer s H E hr=>⟨_,(zc (zS (i:=2) jE.nd rfl (Or.inl rfl) (eP (w:=w) rfl)) (zc (jz ER rfl (hX (K:=K) rfl rfl uam (za (ze uav hr rfl (za (pv 0) (za (pv 1) zb))) zb)) (zN (K:=K) (n:=2) rfl rfl (zg (zd (i:=3) jE.nd rfl (Or.inl rfl) (Or.inr rfl)) (zg (zN (K:=K) (n:=2) rfl rfl (zg (zd (i:=4) jE.nd rfl (Or.inl rfl) (Or.inr rfl)) (zg (zd (i:=5) jE.nd rfl (Or.inl rfl) (Or.inr rfl)) zL))) zL))) (zl (jz ER rfl (av (K:=K) rfl (pv 5)) (zd (i:=6) jE.nd rfl (Or.inl rfl) (Or.inr rfl)) (zl (yr (pv 3) (cC (pv 2) (pv 6) (cW (w:=w) (K:=K) rfl rfl hr.units))))))) (zl (zG (pv 2))))),?_⟩;rintro f xs ⟨Ju,wd,cut⟩ hl ⟨rfl,g⟩
 try dsimp only [yu,zp]
 dsimp only at *;refine Bp (w:=w) (sU ⟨show 2<7 by decide,fun D0=>?_⟩);refine Bn (eO (A1 (zz (PEdO.ped (bc (Ju,wd,cut) ?_)))));walk_at "w";rintro _ ⟨rs,rfl,R,rl⟩;dsimp only at R;refine ye ⟨_,rfl,fun n ρ cs=>∃ (u3 u4 u5 u6:Option DV) (kvs:List (PyData×PyData)),ρ=[some (.dat (tab Ju)),some (.dat (.int cut)),some (.own (f.M.length+0)),u3,u4,u5,u6]/\cs=[.dic kvs]/\Keyed Ju wd kvs/\∀ (m:Nat) r p,m<n->rs[m]?=some r->p∈r.2->qy (pD p) kvs=some (.int m),⟨_,_,_,_,[],rfl,rfl,⟨FC,(fun _ z=>nomatch z)⟩,(fun m r p z=>absurd z (FV _))⟩,?_,?_⟩
 ·rintro n d _ _ hd ⟨u3,u4,u5,u6,kvs,rfl,rfl,ky,tl⟩;obtain⟨r,hrn,rfl⟩:∃ r,rs[n]?=some r/\d=.tuple [.int n,bU r]:=xg hd;have hm:=D9 hrn;refine yz rfl (zm (zi (zm (yz rfl (zm (zi (zm (zi (zV (zV ?_))))))))));refine eO (h9 (zk rfl ⟨_,rfl,fun j ρ cs=>∃ (u6:Option DV) (kvs:List (PyData×PyData)),ρ=[some (.dat (tab Ju)),some (.dat (.int cut)),some (.own (f.M.length+0)),some (.dat (.int n)),some (.dat (De r.1)),some (.dat (.tuple (r.2.map pD))),u6]/\cs=[.dic kvs]/\Keyed Ju wd kvs/\(∀ (m:Nat) r p,m<n->rs[m]?=some r->p∈r.2->qy (pD p) kvs=some (.int m))/\∀ p∈r.2.take j,qy (pD p) kvs=some (.int n),⟨_,kvs,rfl,rfl,ky,tl,fun p hp=>by rw [Hn] at hp;cases hp⟩,?_,?_⟩))
  ·rintro j d _ _ hd ⟨u6,kvs,rfl,rfl,ky,tl,tk⟩;rw [D7] at hd;cases eq:r.2[j]? with
   | none=>rw [eq] at hd;cases hd
   | some q =>
    rw [eq] at hd;cases hd;have hq:=D9 eq;have few:=ky.few g;refine zi (sV (i:=2) (j:=0) rfl rfl (by omega) (zk rfl (zk rfl ⟨v9 q,?_⟩)));refine⟨_,_,rfl,rfl,ky.put (BS R hm hq) _,fun m r' p hmn hr hp=>?_,fun p hp=>?_⟩
    ·rw [cZ _ (fun z=>?_)]
     ·exact tl m r' p hmn hr hp
     ·have:=lK R hr hrn hp (v8 z▸hq);omega
    ·rw [EZ,eq] at hp;by_cases e:p=q
     ·rw [e];exact oH ..
     ·rw [cZ _ (fun z=>e (v8 z))];rcases En.mp hp with h | h
      ·exact tk p h
      ·exact absurd (Ej.mp h) e
  ·rintro _ _ ⟨u6,kvs,rfl,rfl,ky,tl,tk⟩;rw [DS,E6] at tk;refine⟨_,_,_,_,kvs,rfl,rfl,ky,fun m r' p hmn hr hp=>?_⟩;by_cases e:m=n
   ·subst e;rw [hrn] at hr;cases hr;exact tk p hp
   ·exact tl m r' p (by omega) hr hp
 ·rintro _ _ ⟨u3,u4,u5,u6,kvs,rfl,rfl,ky,tl⟩;refine Bo (i:=2) (j:=0) rfl rfl ⟨kvs,rfl,rs,kvs,rfl,R,rl,fun n r p hr hp=>tl n r p ?_ hr hp⟩;have:=(DU.mp hr).1;rw [tY,DS];exact this
abbrev TO:=List (List Int)×Nat×Int×Int×Int
noncomputable abbrev scr (ns:List Int):PyData:=.list (ns.map .int)
theorem nu {K:DT} {H:Hp} {a:DY} {ns:List Int} (h:SqL K H a (ns.map V.int)):Rep K (hide H L2.f0) (scr ns) (.ref a):=by
 rw [ji];exact zB.mpr ⟨a,_,rfl,h,Reps.ints' ns⟩
theorem xh {K:DT} {H:Hp} {v:V} {ns:List Int} (h:Rep K (hide H L2.f0) (scr ns) v):∃ a,v=.ref a/\SqL K H a (ns.map V.int):=by
 rw [ji] at h;obtain⟨a,xs,rfl,h1,h2⟩:=zB.mp h;rw [h2.ints] at h1;exact⟨a,rfl,h1⟩
def lM (K:DT):Sp:=fun vs H Q _=>∃ (a:DY) (ns:List Int) (i:Int),vs=[.ref a,.int i]/\SqL K H a (ns.map V.int)/\ns.length<=63/\0<=i/\i<=63 /\
 ∀ (p:DY) (x y:Int) (H':Hp),Same H H'->H p=none->H' p=some (.lst [.int x,.int y])->0<=x->0<=y->y<2147483647->Q (.ref p) H'
def nv (K:DT):Sp:=fun vs H Q _=>∃ (a:DY) (ns:List Int),vs=[.ref a]/\SqL K H a (ns.map V.int)/\ns.length<=63/\∀ H',Q (.bl true) H'
theorem xi {K:DT} {f:Fx} {t:TA} {ρ:zq} {R R':List DV->Prop} (h:PAd K f t ρ R) (i:∀ xs,R xs->R' xs):PAd K f t ρ R':=fun σ H Q e q=>h σ H Q e fun xs vs H' g r p=>q xs vs H' g r (i xs p)
theorem BU {K:DT} {ρ:zq} {ns:List Int} {i:Int} {E2:XK} (h0:ρ[0]?=some (some (.dat (scr ns)))) (h1:ρ[1]?=some (some (.dat (.int i)))) (hl:ns.length<=63) (i0:0<=i) (i1:i<=63) :
  ∀ (σ:L2.St) (H:Hp) (Q:VK),EnvOk K L2.f0 ρ σ H->(∀ (p:DY) (x y:Int) (H':Hp),Same H H'->H p=none->H' p=some (.lst [.int x,.int y])->0<=x->0<=y->y<2147483647->Q (.ref p) H')->dZ (lM K) [] E2 (yK (yD 0) (yK (yD 1) qM)) σ H Q:=by
 intro σ H Q e q;obtain⟨v0,hv0,r0⟩:=e.get 0 _ h0;obtain⟨v1,hv1,r1⟩:=e.get 1 _ h1;obtain⟨a,rfl,hS⟩:=xh r0;have e1:v1=.int i:=zw.mp (show Rep K (hide H L2.f0) (.int i) v1 from r1);subst e1;exact⟨_,hv0,_,hv1,a,ns,i,rfl,hS,hl,i0,i1,q⟩
theorem xj (F:Def K mg "_law_feed" q9 pR) (uaa:mg "len"=none) (uag:mg "abs"=none):FnIn P w K mg base (k+1) "_law_feed" pR (lM K):=by
 refine F.raw vp (fun vs H Q E h=>?_) fun fa cdv A outer s H vs Q E hr hs=>⟨_,(zc (zS (i:=2) vp.nd rfl (Or.inl rfl) zh) (zc (jl (yy rE (zK (yB (K:=K) rfl) rfl uaa Fg (za (pv 0) zb)) zh (yY _)) (zl (zS (i:=2) vp.nd rfl (Or.inl rfl) (yw (zQ (K:=K) rfl) (pv 0) (zt vV (pv 1) (zK (yB (K:=K) rfl) rfl uaa Fg (za (pv 0) zb))) (fun _ _=>rfl)))) yp) (zl (zG (yQ (za (zK (aj) rfl uag GR (za (pv 2) zb)) (za (zt yd (zt vU zh (pv 1)) zh) zb))))))),?_⟩
 ·obtain⟨a,ns,i,rfl,_⟩:=h;rfl
 obtain⟨a,ns,i,rfl,hS,h63,i0,i1,q⟩:=hs;have e0:EnvOk K L2.f0 (qP v7 [.dat (scr ns),.dat (.int i)]) (start v7 [.ref a,.int i]) H:=qE (.cons (nu hS) (.cons (show RepV K L2.f0 H (.dat (.int i)) (.int i) from (zw (K:=K) (H:=hide H L2.f0)).mpr rfl) .nil)) (L2.fok0 H);refine rV (D:={ nx:=fun ρ=>ρ=[some (.dat (scr ns)),some (.dat (.int i)),some (.dat (.int 0))],rt:=fun _=>False }) ?_ e0 ?_ (fun _ _ _ _ _ z=>z.elim) (fun _ z=>z) (fun _ z=>z)
 ·walk_at "w";rfl
 rintro _ σ1 H1 g1 e1 rfl;refine rV (D:={ nx:=fun ρ=>∃ c:Int,ρ=[some (.dat (scr ns)),some (.dat (.int i)),some (.dat (.int c))],rt:=fun _=>False }) ?_ e1 ?_ (fun _ _ _ _ _ z=>z.elim) (fun _ z=>z) (fun _ z=>z)
 ·walk_at "w";rw [DS];by_cases h:0<ns.length
  ·rw [Jy (by simpa using h)];walk_at "w";rw [DS];have z0:=HA i (b:=(ns.length:Int)) (by omega);have z1:=Gh i (b:=(ns.length:Int)) (by omega);refine⟨by omega,_,rfl,_,jX (j:=(i % (ns.length:Int)).toNat) (by omega) (by omega),?_⟩;walk_at "w";exact⟨_,rfl⟩
  ·rw [Jx (by simpa using h)];walk_at "w";exact⟨_,rfl⟩
 rintro _ σ2 H2 g2 e2 ⟨c,rfl⟩;unfold gO;have ss:Same H H2:=(L2.same0 g1).trans (L2.same0 g2);refine hV (R:=fun ds=>∃ x y:Int,ds=[.int x,.int y]/\0<=x/\0<=y/\y<2147483647) ?_ e2 ?_
 ·walk_at "w";omega
 ·rintro p ds vs H3 g3 hn rs ⟨x,y,rfl,hx,hy,hy'⟩;have sf:Same H H3:=ss.trans (L2.same0 g3);have ev:vs=[.int x,.int y]:=Reps.ints (ns:=[x,y]) rs;subst ev;exact q p x y _ (sf.trans (yc hn _)) (sf.free hn) zy hx hy hy'
noncomputable def opF (A B C D:Bool) (i:Fin 4):Bool:=match i with
 | 0=>A != B
 | 1=>A != D
 | 2=>D != C
 | 3=>B != C
noncomputable def Df (A B C D M:Bool):List (Fin 4×Fin 4) :=
 if (opF A B C D 0 && opF A B C D 1 && opF A B C D 2 && opF A B C D 3)=true then (if (A == M)=true then [(0,3),(1,2)] else [(0,1),(2,3)]) else
 match ([0,1,2,3]:List (Fin 4)).filter (opF A B C D) with
 | a :: b :: _=>[(a,b)]
 | _=>[]
abbrev Gt:=Int×Int×Int
noncomputable def gt (x y:Int) (i:Fin 4):Gt:=match i with
 | 0=>(x,y,0)
 | 1=>(x,y,1)
 | 2=>(x,y+1,0)
 | 3=>(x+1,y,1)
section
variable (Ju:List (List Int)) (wd:Nat) (cut:Int)
noncomputable def t4 (x y:Int):List (Fin 4×Fin 4):=Df (hiB Ju cut x y) (hiB Ju cut (x+1) y) (hiB Ju cut (x+1) (y+1)) (hiB Ju cut x (y+1)) (dR Ju cut x y)
end
section
variable {Ju:List (List Int)} {wd:Nat} {cut x y:Int}
theorem BV {g:Gt} (o:opG Ju wd cut g=true):g.2.2=0 \/ g.2.2=1:=by
 unfold opG yI aM at o;rw [Eb,Eb] at o;exact of_decide_eq_true o.1.1
end
abbrev GO:=List (List Int)×Nat×Int×Gt
abbrev Dg (c:GO) (xs:List DV):Prop:=xs=[.dat (tab c.1),.dat (.int c.2.2.1),.dat (gD3 c.2.2.2)]/\Good c.2.1 c.1/\opG c.1 c.2.1 c.2.2.1 c.2.2.2=true
abbrev i7 (K:DT):Sp:=spD K 2 (fun (c:Int×Int) xs=>xs=[.dat (.int c.1),.dat (.int c.2)]) fun c r=>r=.int (FA c.1 c.2:Int)
noncomputable def DK:zq->Nat
 | [_,some (.dat (.int b))]=>b.toNat
 | _=>0
theorem tZ (a b:Nat):Nat.gcd b (a % b)=Nat.gcd a b:=by rw [Nat.gcd_comm b,<- Nat.gcd_rec,Nat.gcd_comm]
theorem p8 (F:Def K mg "common" aF pJ) (uag:mg "abs"=none):FnIn P w K mg base (k+1) "common" pJ (i7 K):=by
 refine F.ok bt rfl fun fa cdv A outer s H E hr=>⟨_,(zc (rA (i:=0) (j:=1) rfl bt.nd rfl rfl (by decide) rfl rfl (za (zK (aj) rfl uag GR (za (pv 0) zb)) (za (zK (aj) rfl uag GR (za (pv 1) zb)) zb)) rfl) (zc (gS ER (yM (K:=K) rfl (pv 1) (fun _=>rfl)) (zl (rA (i:=0) (j:=1) rfl bt.nd rfl rfl (by decide) rfl rfl (za (pv 1) (za (zt vV (pv 0) (pv 1)) zb)) rfl))) (zl (zG (pv 0))))),?_⟩;rintro f xs ⟨a,b⟩ hl rfl
 try dsimp only [yu,zp]
 dsimp only at *;refine zT (xV ?_);walk_at "w";have ha:(if a<0 then -a else a)=(a.natAbs:Int):=by split <;> omega
 have hb:(if b<0 then -b else b)=(b.natAbs:Int):=by split <;> omega
 refine (uX (fun ρ=>∃ p q:Nat,ρ=[some (.dat (.int p)),some (.dat (.int q))]/\Nat.gcd p q=FA a b) DK ⟨a.natAbs,b.natAbs,?_,rfl⟩ ?_)
 ·rw [ha,hb];rfl
 rintro _ ⟨p,q,rfl,h⟩;walk_at "w";refine jw (fun h2=>?_) fun h2=>?_
 ·have hq:0<q:=by
   have:(q:Int)≠0:=by simpa using h2
   omega
  refine xV ?_;walk_at "w";refine⟨⟨q,p % q,?_,?_⟩,?_⟩
  ·rfl
  ·rw [tZ];exact h
  ·show ((p:Int) % (q:Int)).toNat<((q:Int)).toNat;have:=Nat.mod_lt p hq;omega
 ·have hq:q=0:=by
   have:(q:Int)=0:=by simpa using h2
   omega
  subst hq;walk_at "w";rw [Nat.gcd_zero_right] at h;rw [h]
abbrev Fr2:=Int×Int
noncomputable def frD (p:Fr2):PyData:=.tuple [.int p.1,.int p.2]
noncomputable def zX (l:List Fr2):Rat:=l.foldl (fun q p=>q+ED p.1 p.2) 0
theorem bA (l:List Fr2) (p:Fr2):zX (l++[p])=zX l+ED p.1 p.2:=by unfold zX;rw [List.foldl_append];rfl
theorem t8 {q:Rat} {m p:Int} (hp:p≠0):ED (q.num * p+m * (q.den:Int)) ((q.den:Int) * p)=q+ED m p:=by
 have hd:((q.den:Nat):Int)≠0:=by have:=q.den_nz;omega
 conv=>rhs;rw [<-GK q]
 rw [Rat.divInt_add_divInt _ _ hd hp]
def Com (M:Nat) (q:Rat):Prop:=∃ N:Int,q * (M:Rat)=(N:Rat)
theorem Com.add {M:Nat} {p q:Rat} (hp:Com M p) (hq:Com M q):Com M (p+q):=by
 obtain⟨a,ha⟩:=hp;obtain⟨b,hb⟩:=hq;exact⟨a+b,by rw [Hc,<- ha,<- hb,Rat.add_mul]⟩
theorem Com.den {M:Nat} {q:Rat} (hM:0<M) (h:Com M q):q.den<=M:=by
 obtain⟨N,h⟩:=h;have mz:(M:Rat)≠0:=by
  intro z;have:=Rat.natCast_eq_zero_iff.mp z;omega
 have e:q=ED N (M:Int):=by
  rw [EW,<- h];show q=q * (M:Rat) / (((M:Nat):Int):Rat);rw [Rat.intCast_natCast];exact (Rat.mul_div_cancel mz).symm
 rw [e];exact Er (c9 (by omega)) (by rw [Fi];exact D8 _)
abbrev cq (K:DT):Sp:=spD K 2 (fun (c:Fr2) xs=>xs=[.dat (.int c.1),.dat (.int c.2)]/\c.2≠0/\c.2.natAbs<bS) fun c r=>r=jy (ED c.1 c.2)
theorem t9 (F:Def K mg "shortened" qm pF) (ua6:FnIn P w K mg base k "common" pJ (i7 K)):FnIn P w K mg base (k+1) "shortened" pF (cq K):=by
 refine F.ok qV rfl fun fa cdv A outer s H E hr=>⟨_,(zc (zS (i:=2) qV.nd rfl (Or.inl rfl) (ze ua6 hr rfl (za (pv 0) (za (pv 1) zb)))) (zc (jl (yy rD (pv 1) zh (yY _)) (zl (zS (i:=2) qV.nd rfl (Or.inl rfl) (xO rC (pv 2)))) yp) (zl (zG (zO (za (zt iN (pv 0) (pv 2)) (za (zt iN (pv 1) (pv 2)) zb))))))),?_⟩;rintro f xs ⟨t,b⟩ hl ⟨rfl,b0,bh⟩
 try dsimp only [yu,zp]
 dsimp only at *;obtain⟨s1,s2⟩:=oI (t:=t) b0;have gp:0<FA t b:=HC t b0;have gl:FA t b<=b.natAbs:=Nat.le_of_dvd (by omega) (Int.ofNat_dvd_left.mp (Int.gcd_dvd_right t b));refine zT (yj (zr (t,b) (bR rfl rfl ⟨rfl,rfl,?_⟩)));rintro _ rfl;refine zi (cY (fun ρ=>ρ=[some (.dat (.int t)),some (.dat (.int b)),some (.dat (.int (b.sign * (FA t b:Int))))]) ?_ ?_)
 ·refine Ab (b<0) (t_b (l6 (zk rfl ⟨_,rfl,yU ⟨_,rfl,_,rfl,rfl⟩⟩))) (fun h=>?_) fun h=>vi ?_
  ·refine yj (xW (zk rfl ⟨_,rfl,zi ?_⟩));rw [FG h,Int.neg_one_mul];rfl
  ·have:0<b:=by omega
   rw [F9 this,Jm];rfl
 rintro _ rfl;have nz:b.sign * ((FA t b:Nat):Int)≠0:=IB (fun z=>b0 (Int.sign_eq_zero_iff_zero.mp z)) (by omega);have nh:(b.sign * ((FA t b:Nat):Int)).natAbs<bS:=by
  rw [GC,Fi];have:b.sign.natAbs=1:=by
   rcases Hm b 0 with h | h | h
   ·rw [FG h];rfl
   ·exact absurd h b0
   ·rw [F9 h];rfl
  rw [this,Jn];omega
 refine yL (ve (zz (yR (zk rfl ⟨_,rfl,zk rfl ⟨_,rfl,⟨nz,nh⟩,zz (yR (zk rfl ⟨_,rfl,zk rfl ⟨_,rfl,⟨nz,nh⟩,ye ⟨_,rfl,by show 2<=1000;decide,?_⟩⟩⟩))⟩⟩))));show PyData.tuple [.int _,.int _]=jy _;rw [s1,s2];rfl
abbrev TTo:=List Fr2×Nat×Nat×Nat
abbrev gz (K:DT):Sp:=spD K 1 (fun (c:TTo) xs=>xs=[.dat (.list (c.1.map frD))]/\0<c.2.1/\c.2.1<2 ^ 3500/\(∀ p∈c.1,p.1.natAbs<2 ^ c.2.2.1/\0<p.2/\p.2.natAbs<2 ^ c.2.2.1/\Com c.2.1 (ED p.1 p.2))/\c.2.2.1<=3500/\c.1.length<=1000) fun c r=>r=jy (zX c.1)
theorem gB {M:Nat}:∀ l:List Fr2,(∀ p∈l,Com M (ED p.1 p.2))->Com M (zX l):=by
 intro l;have key:∀ n (l:List Fr2),l.length=n->(∀ p∈l,Com M (ED p.1 p.2))->Com M (zX l):=fun n=>by
  induction n with
  | zero =>
   intro l hl _;rw [Il.mp hl];exact⟨0,by show (0:Rat) * _=_;rw [Iw];rfl⟩
  | succ n ih =>
   intro l hl h;obtain⟨l',p,rfl⟩:∃ l' p,l=l'++[p]:=⟨l.dropLast,l.getLast (fun z=>by rw [z] at hl;cases hl),(HE _).symm⟩;rw [Eh,EX] at hl;rw [bA];exact (ih l' (by omega) fun q hq=>h q (Ew _ hq)).add (h p (Ed _ (Ej.mpr rfl)))
 exact key _ l rfl
def Bd (B:Nat) (q:Rat):Prop:=-(B:Rat)<=q/\q<=(B:Rat)
theorem Bd.add {B C:Nat} {p q:Rat} (hp:Bd B p) (hq:Bd C q):Bd (B+C) (p+q):=by
 obtain⟨a,b⟩:=hp;obtain⟨c,d⟩:=hq;unfold Bd;rw [Rat.natCast_add];constructor <;> grind
theorem Bd.num {B:Nat} {q:Rat} (h:Bd B q):q.num.natAbs<=B * q.den:=by
 obtain⟨h1,h2⟩:=h;have e2:=(Iy _ _).mp h2;have e1:=(Iy _ _).mp h1;have n1:(-(B:Rat)).num=-(B:Int):=rfl;have d1:(-(B:Rat)).den=1:=rfl;have n2:((B:Rat)).num=(B:Int):=rfl;have d2:((B:Rat)).den=1:=rfl;rw [n2,d2] at e2;rw [n1,d1] at e1;have e3:q.num<=(B:Int) * (q.den:Int):=by simpa using e2
 have e4:-((B:Int) * (q.den:Int))<=q.num:=by simpa [Int.neg_mul] using e1
 have:(((B * q.den:Nat)):Int)=(B:Int) * (q.den:Int):=ID ..;omega
theorem Dh {A:Nat} {t b:Int} (hb:0<b) (ht:t.natAbs<=A):Bd A (ED t b):=by
 have hq:=c8 t b;have dp:=(ED t b).den_pos;have le:(ED t b).num.natAbs<=A * (ED t b).den:=Er (Er hq ht) (Nat.le_mul_of_pos_right _ dp);have:(((A * (ED t b).den:Nat)):Int)=(A:Int) * ((ED t b).den:Int):=ID ..;refine⟨(Iy _ _).mpr ?_,(Iy _ _).mpr ?_⟩
 ·show -(A:Int) * ((ED t b).den:Int)<=(ED t b).num * ((1:Nat):Int);rw [Int.neg_mul];omega
 ·show (ED t b).num * ((1:Nat):Int)<=(A:Int) * ((ED t b).den:Int);omega
theorem ua {A:Nat}:∀ (n:Nat) (l:List Fr2),l.length=n->(∀ p∈l,p.1.natAbs<=A/\0<p.2)->Bd (A * n) (zX l)
 | 0,l,hl,_=>by
  rw [Il.mp hl];exact⟨by show -((A * 0:Nat):Rat)<=0;rw [Jf];decide,by show (0:Rat)<=((A * 0:Nat):Rat);rw [Jf];decide⟩
 | n+1,l,hl,h=>by
  obtain⟨l',p,rfl⟩:∃ l' p,l=l'++[p]:=⟨l.dropLast,l.getLast (fun z=>by rw [z] at hl;cases hl),(HE _).symm⟩;rw [Eh,EX] at hl;obtain⟨p1,p2⟩:=h p (Ed _ (Ej.mpr rfl));rw [bA,Nat.mul_add,Jq];exact (ua n l' (by omega) fun q hq=>h q (Ew _ hq)).add (Dh p2 p1)
theorem ub (F:Def K mg "total" cj pE) (uaw:FnIn P w K mg base k "shortened" pF (cq K)):FnIn P w K mg base (k+1) "total" pE (gz K):=by
 refine F.ok j8 rfl fun fa cdv A outer s H E hr=>⟨_,(zc (yr (zO (za zh (za zh zb))) (zN (K:=K) (n:=2) rfl rfl (zg (zd (i:=1) j8.nd rfl (Or.inl rfl) (Or.inr rfl)) (zg (zd (i:=2) j8.nd rfl (Or.inl rfl) (Or.inr rfl)) zL)))) (zc (jz ER rfl (zU (K:=K) rfl (pv 0)) (zN (K:=K) (n:=2) rfl rfl (zg (zd (i:=3) j8.nd rfl (Or.inl rfl) (Or.inr rfl)) (zg (zd (i:=4) j8.nd rfl (Or.inl rfl) (Or.inr rfl)) zL))) (zl (yr (ze uaw hr rfl (za (zt yd (zt yV (pv 1) (pv 4)) (zt yV (pv 3) (pv 2))) (za (zt yV (pv 2) (pv 4)) zb))) (zN (K:=K) (n:=2) rfl rfl (zg (zd (i:=1) j8.nd rfl (Or.inl rfl) (Or.inr rfl)) (zg (zd (i:=2) j8.nd rfl (Or.inl rfl) (Or.inr rfl)) zL)))))) (zl (zG (zO (za (pv 1) (za (pv 2) zb))))))),?_⟩;rintro f xs ⟨l,M,A,B⟩ hl ⟨rfl,m0,m1,bd,a1,few⟩
 try dsimp only [yu,zp]
 dsimp only at *;refine zT (yj (ve (zz (yU (zz (yU (ye ⟨_,rfl,by show 2<=1000;decide,yz rfl (zm (zi (zm (zi (zV ?_)))))⟩)))))));refine zT (rX (yF (zk rfl ⟨_,rfl,fun n ρ=>∃ u v,ρ=[some (.dat (.list (l.map frD))),some (.dat (.int (zX (l.take n)).num)),some (.dat (.int ((zX (l.take n)).den:Nat))),u,v],⟨_,_,rfl⟩,?_,?_⟩)))
 ·rintro n d _ hd ⟨u,v,rfl⟩;rw [D7] at hd;cases et:l[n]? with
  | none=>rw [et] at hd;cases hd
  | some p =>
   rw [et] at hd;cases hd;have hp:=D9 et;obtain⟨b1,b2,b3,_⟩:=bd p hp;have tk:l.take (n+1)=l.take n++[p]:=by rw [EZ,et];rfl
   have hn:=(DU.mp et).1;have lt:(l.take n).length=n:=by rw [EL];omega
   have n2:(zX (l.take n)).den<2 ^ 3500:=FJ ((gB (l.take n) fun q hq=>(bd q (GX hq)).2.2.2).den m0) m1;have n1:(zX (l.take n)).num.natAbs<2 ^ 7100:=by
    have h1:=(ua n (l.take n) lt fun q hq=>⟨Fj (bd q (GX hq)).1,(bd q (GX hq)).2.1⟩).num;have h2:2 ^ A * n * (zX (l.take n)).den<=2 ^ 3500 * 2 ^ 10 * 2 ^ 3500:=Fh (Fh (GW (by decide) a1) (by omega)) (Fj n2);refine FJ (Er h1 h2) ?_;rw [<-IS,<- IS];exact Gq (by decide) (by decide)
   have h1:=jr n1 (by decide);have h2:=jr n2 (by decide);have h3:=jr b1 (by omega);have h4:=jr b3 (by omega);have nz:((zX (l.take n)).den:Int) * p.2≠0:=IB (by have:=(zX (l.take n)).den_nz;omega) (by omega);have nh:(((zX (l.take n)).den:Int) * p.2).natAbs<bS:=by
    rw [GC,Fi];refine jr (m:=3500+3500) ?_ (by decide);rw [IS];exact Nat.mul_lt_mul'' n2 (Es b3 (GW (by decide) a1))
   refine yz rfl (zm (zi (zm (zi (zV (yj (zr ((zX (l.take n)).num * p.2+p.1 * ((zX (l.take n)).den:Int),((zX (l.take n)).den:Int) * p.2) ?_)))))));refine zz (jo (yR (zk rfl ⟨_,rfl,zk rfl ⟨_,rfl,⟨h1,h4⟩,_,rfl,yR (zk rfl ⟨_,rfl,zk rfl ⟨_,rfl,⟨h3,by rw [Fi];exact h2⟩,_,rfl,?_⟩⟩)⟩⟩)));refine zz (yR (zk rfl ⟨_,rfl,zk rfl ⟨_,rfl,⟨by rw [Fi];exact h2,h4⟩,ye ⟨rfl,⟨rfl,nz,nh⟩,?_⟩⟩⟩));rintro _ rfl;dsimp only;rw [t8 (by omega),<- bA,<- tk];exact yz rfl (zm (zi (zm (zi (zV ⟨_,_,rfl⟩)))))
 ·rintro _ ⟨u,v,rfl⟩;rw [DS,E6];exact yL (ve (zz (zk rfl (zz (zk rfl (ye ⟨_,rfl,by show 2<=1000;decide,rfl⟩))))))
theorem aR {Ju:List (List Int)} {wd:Nat} {cut x y w:Int} (h:yI Ju wd cut x y w=true):aM Ju wd x y w=true:=by
 unfold yI at h;rw [Eb] at h;exact h.1
theorem cu {Ju:List (List Int)} {wd:Nat} {x y:Int} (g:Good wd Ju) (h:zW Ju wd x y=true):-1000000000<=zv Ju x y/\zv Ju x y<=1000000000:=by
 obtain⟨x0,x1,y0,y1⟩:=jx h;have hy:y.toNat<Ju.length:=by omega
 have hr:=g.row _ (Et hy);have hx:x.toNat<Ju[y.toNat].length:=by omega
 have:=g.hgt _ (Et hy) _ (Et hx);unfold zv;rw [DZ,DZ,DQ hy,Option.getD_some,DQ hx];exact this
noncomputable def TT (Ju:List (List Int)) (cut x y:Int):Int:=2 * cut+1 - 2 * zv Ju x y
noncomputable def BB (Ju:List (List Int)) (x y w:Int):Int:=2 * (zv Ju (px x w) (py y w) - zv Ju x y)
theorem aS {Ju:List (List Int)} {wd:Nat} {cut x y w:Int} (h:yI Ju wd cut x y w=true):(0<TT Ju cut x y/\TT Ju cut x y<BB Ju x y w) \/ (TT Ju cut x y<0/\BB Ju x y w<TT Ju cut x y):=by
 unfold yI at h;rw [Eb] at h;have h2:=h.2;unfold TT BB;generalize zv Ju x y=a at *;generalize zv Ju (px x w) (py y w)=b at *;by_cases ha:cut<a
 ·by_cases hb:cut<b
  ·rw [decide_eq_true ha,decide_eq_true hb] at h2;cases h2
  ·omega
 ·by_cases hb:cut<b
  ·omega
  ·rw [decide_eq_false ha,decide_eq_false hb] at h2;cases h2
theorem Ah {Ju:List (List Int)} {wd:Nat} {cut x y w:Int} (h:yI Ju wd cut x y w=true):BB Ju x y w≠0:=by
 have:=aS h;omega
theorem Ai {Ju:List (List Int)} {wd:Nat} {cut x y w:Int} (g:Good wd Ju) (h:yI Ju wd cut x y w=true):(BB Ju x y w).natAbs<=4000000000:=by
 obtain⟨i1,i2⟩:=vq (aR h);have b1:=cu g i1;have b2:=cu g i2;unfold BB;omega
noncomputable def shQ (Ju:List (List Int)) (cut:Int) (g:Gt):Rat:=ED (TT Ju cut g.1 g.2.1) (BB Ju g.1 g.2.1 g.2.2)
noncomputable def plT (Ju:List (List Int)) (cut:Int) (g:Gt):Gt:=if g.2.2=0 then (g.1 * ((shQ Ju cut g).den:Int)+(shQ Ju cut g).num,g.2.1 * ((shQ Ju cut g).den:Int),((shQ Ju cut g).den:Int)) else (g.1 * ((shQ Ju cut g).den:Int),g.2.1 * ((shQ Ju cut g).den:Int)+(shQ Ju cut g).num,((shQ Ju cut g).den:Int))
theorem nA {Ju:List (List Int)} {wd:Nat} {cut:Int} {g:Gt} (gd:Good wd Ju) (o:opG Ju wd cut g=true):(shQ Ju cut g).num.natAbs<=4000000000/\(shQ Ju cut g).den<=4000000000/\0<(shQ Ju cut g).den:=by
 have h1:=Ai gd o;have h2:=aS o;refine⟨Er (c8 _ _) (by omega),Er (c9 (Ah o)) h1,(shQ Ju cut g).den_pos⟩
def PlB (p:Gt):Prop:=p.1.natAbs<=32000000000/\p.2.1.natAbs<=32000000000/\0<p.2.2/\p.2.2<=4000000000
theorem Di {Ju:List (List Int)} {wd:Nat} {cut:Int} {g:Gt} (gd:Good wd Ju) (o:opG Ju wd cut g=true):PlB (plT Ju cut g):=by
 obtain⟨b1,b2,b3⟩:=nA gd o;obtain⟨i1,i2⟩:=vq (aR o);obtain⟨x0,x1,y0,y1⟩:=jx i1;have w2:=gd.w2;have h2:=gd.h2;have mx:∀ a:Int,0<=a->a<7->(a * ((shQ Ju cut g).den:Int)).natAbs<=28000000000:=fun a a0 a1=>by
  have:a=0 \/ a=1 \/ a=2 \/ a=3 \/ a=4 \/ a=5 \/ a=6:=by omega
  rcases this with rfl | rfl | rfl | rfl | rfl | rfl | rfl <;> omega
 have m1:=mx g.1 x0 (by omega);have m2:=mx g.2.1 y0 (by omega);unfold PlB plT;split
 ·dsimp only;omega
 ·dsimp only;omega
abbrev nB (K:DT):Sp:=spD K 3 Dg fun c r=>r=jy (shQ c.1 c.2.2.1 c.2.2.2)
theorem uc (F:Def K mg "share" ck pz) (uau:FnIn P w K mg base k "gate_points" ["gate"] (nk K)) (uaw:FnIn P w K mg base k "shortened" pF (cq K)):FnIn P w K mg base (k+1) "share" pz (nB K):=by
 refine F.ok dg rfl fun fa cdv A outer s H E hr=>⟨_,(zc (yr (zY (N:=pM) (own:=2) (fr:=[0]) (by walk_at "c") rfl (zU (K:=K) rfl (ze uau hr rfl (za (pv 2) zb))) (fun _ _ _ _=>(zN (K:=K) (n:=2) rfl rfl (zg (zd (i:=0) (show (pM:List Str).Nodup by decide +kernel) rfl (Or.inl rfl) (Or.inr rfl)) (zg (zd (i:=1) (show (pM:List Str).Nodup by decide +kernel) rfl (Or.inl rfl) (Or.inr rfl)) zL)))) (fun _ _ _ _=>yb) (fun _ _ _ _=>(yw (zQ (K:=K) rfl) (yw (zQ (K:=K) rfl) (pv 2) (pv 1) (fun _ _=>rfl)) (pv 0) (fun _ _=>rfl))) rfl rfl (fun _=>rfl)) (fA (K:=K) (n:=2) rfl rfl (zg (zd (i:=3) dg.nd rfl (Or.inl rfl) (Or.inr rfl)) (zg (zd (i:=4) dg.nd rfl (Or.inl rfl) (Or.inr rfl)) zL)))) (zl (zG (ze uaw hr rfl (za (zt ym (zt yd (zt yV zh (pv 1)) zh) (zt yV zh (pv 3))) (za (zt yV zh (zt ym (pv 4) (pv 3))) zb)))))),?_⟩;rintro f xs ⟨Ju,wd,cut,x,y,w⟩ hl ⟨rfl,g,ho⟩
 try dsimp only [yu,zp]
 dsimp only at *;obtain⟨i1,i2⟩:=vq (aR ho);have n0:BB Ju x y w≠0:=Ah ho;have n1:(BB Ju x y w).natAbs<=4000000000:=Ai g ho;refine zT (yj (PEdO.ped (j5 (A:=fun p:Int×Int=>PyData.tuple [.int p.1,.int p.2]) (B:=fun p:Int×Int=>PyData.int (zv Ju p.1 p.2)) [(x,y),(px x w,py y w)] (yF (zr (x,y,w) (qz rfl ⟨rfl,rfl,?_⟩))))));rintro _ rfl;refine⟨_,rfl,rfl,show 2<=1000 by decide,?_,?_⟩
 ·rintro D p ρ' es hp ho hes;obtain⟨u,v,rfl⟩:=ho.two;have hi:zW Ju wd p.1 p.2=true:=by
   simp only [D5,EN,or_false] at hp;rcases hp with rfl | rfl
   ·exact i1
   ·exact i2
  obtain⟨r,h1,h2⟩:=aO g hi;refine yz rfl (zm (zi (zm (zi (zV (jj ?_))))));rw [Jy rfl];refine yv hes ?_;unfold tab;walk_at "w";refine⟨_,h1,?_⟩;walk_at "w";refine⟨_,h2,?_⟩;exact⟨.mk2,rfl⟩
 ·refine r9 rfl (zm (zi (zm (zi (zV ?_)))));have sm:∀ {i:Int},i.natAbs<2 ^ 60->i.natAbs<bS:=fun h=>jr h (by decide);have b1:-1000000000<=zv Ju x y/\zv Ju x y<=1000000000:=cu g i1;have b2:-1000000000<=zv Ju (px x w) (py y w)/\zv Ju (px x w) (py y w)<=1000000000:=cu g i2;have cb:(cut:Int).natAbs<2 ^ 60:=by
   have:(0<TT Ju cut x y/\TT Ju cut x y<BB Ju x y w) \/ (TT Ju cut x y<0/\BB Ju x y w<TT Ju cut x y):=aS ho;unfold TT BB at this;omega
  refine yL (zr (TT Ju cut x y,BB Ju x y w) ?_);refine zz (jo (jo (yR (yU ⟨_,rfl,zk rfl ⟨_,rfl,⟨sm (by decide),sm cb⟩,_,rfl,yU ⟨_,rfl,_,rfl,yR (yU ⟨_,rfl,zk rfl ⟨_,rfl,⟨sm (by decide),sm (show (zv Ju x y).natAbs<_ by omega)⟩,_,rfl,?_⟩⟩)⟩⟩⟩))));refine zz (yR (yU ⟨_,rfl,jo (zk rfl ⟨_,rfl,zk rfl ⟨_,rfl,_,rfl,⟨sm (by decide),sm (show (zv Ju (px x w) (py y w) - zv Ju x y).natAbs<_ by omega)⟩,ye ⟨rfl,⟨rfl,n0,sm (by omega)⟩,?_⟩⟩⟩)⟩));rintro _ rfl;rfl
abbrev eX (K:DT):Sp:=spD K 3 Dg fun c r=>r=gD3 (plT c.1 c.2.2.1 c.2.2.2)
theorem i8 (F:Def K mg "place_of" qZ pz) (ua7:FnIn P w K mg base k "share" pz (nB K)):FnIn P w K mg base (k+1) "place_of" pz (eX K):=by
 refine F.ok jk rfl fun fa cdv A outer s H E hr=>⟨_,(zc (yr (pv 2) (zN (K:=K) (n:=3) rfl rfl (zg (zd (i:=3) jk.nd rfl (Or.inl rfl) (Or.inr rfl)) (zg (zd (i:=4) jk.nd rfl (Or.inl rfl) (Or.inr rfl)) (zg (zd (i:=5) jk.nd rfl (Or.inl rfl) (Or.inr rfl)) zL))))) (zc (yr (ze ua7 hr rfl (za (pv 0) (za (pv 1) (za (pv 2) zb)))) (zN (K:=K) (n:=2) rfl rfl (zg (zd (i:=6) jk.nd rfl (Or.inl rfl) (Or.inr rfl)) (zg (zd (i:=7) jk.nd rfl (Or.inl rfl) (Or.inr rfl)) zL)))) (zc (jl (yy (ft (K:=K) rfl hr.units) (pv 5) zh (yY _)) (zl (zG (zO (za (zt yd (zt yV (pv 3) (pv 7)) (pv 6)) (za (zt yV (pv 4) (pv 7)) (za (pv 7) zb)))))) yp) (zl (zG (zO (za (zt yV (pv 3) (pv 7)) (za (zt yd (zt yV (pv 4) (pv 7)) (pv 6)) (za (pv 7) zb))))))))),?_⟩;rintro f xs ⟨Ju,wd,cut,x,y,w⟩ hl ⟨rfl,g,ho⟩
 try dsimp only [yu,zp]
 dsimp only at *;obtain⟨b1,b2,b3⟩:=nA g ho;obtain⟨i1,i2⟩:=vq (aR ho);obtain⟨x0,x1,y0,y1⟩:=jx i1;have w2:=g.w2;have h2:=g.h2;have sm:∀ {i:Int},i.natAbs<2 ^ 60->i.natAbs<bS:=fun h=>jr h (by decide);refine zT (yj (zk rfl (yz rfl (zm (zi (zm (zi (zm (zi (zV ?_))))))))));refine zT (yj (zr (Ju,wd,cut,x,y,w) (dM rfl rfl rfl ⟨rfl,⟨rfl,g,ho⟩,?_⟩)));rintro _ rfl;dsimp only;have cx:CMulH x ((shQ Ju cut (x,y,w)).den:Int):=⟨sm (by dsimp only at x0 x1;omega),sm (by rw [Fi];omega)⟩;have cy:CMulH y ((shQ Ju cut (x,y,w)).den:Int):=⟨sm (by dsimp only at y0 y1;omega),sm (by rw [Fi];omega)⟩;refine yz rfl (zm (zi (zm (zi (zV ?_)))));refine zT (Ab (w=0) (CT rfl) (fun h=>?_) fun h=>vi ?_)
 ·refine yL (ve (zz (jo (yR (zk rfl ⟨_,rfl,zk rfl ⟨_,rfl,cx,_,rfl,zk rfl ⟨_,rfl,zz (yR (zk rfl ⟨_,rfl,zk rfl ⟨_,rfl,cy,zz (zk rfl (ye ⟨_,rfl,by show 3<=1000;decide,?_⟩))⟩⟩))⟩⟩⟩)))));unfold plT;rw [Jy h];rfl
 ·refine yL (ve (zz (yR (zk rfl ⟨_,rfl,zk rfl ⟨_,rfl,cx,zz (jo (yR (zk rfl ⟨_,rfl,zk rfl ⟨_,rfl,cy,_,rfl,zk rfl ⟨_,rfl,zz (zk rfl (ye ⟨_,rfl,by show 3<=1000;decide,?_⟩))⟩⟩⟩)))⟩⟩))));unfold plT;rw [Jx h];rfl
noncomputable def crs (p q:Gt):Fr2:=(p.1 * q.2.1 - p.2.1 * q.1,p.2.2 * q.2.2)
noncomputable def nxL (ps:List Gt):List Gt:=ps.drop 1++ps.take 1
noncomputable def prs (ps:List Gt):List Fr2:=(ps.zip (nxL ps)).map fun p=>crs p.1 p.2
noncomputable def vh (ps:List Gt):Rat:=ED ((zX (prs ps)).num.natAbs:Int) (2 * ((zX (prs ps)).den:Int))
theorem BW {p q:Gt} (hp:PlB p) (hq:PlB q):(crs p q).1.natAbs<2 ^ 74/\0<(crs p q).2/\(crs p q).2.natAbs<2 ^ 74:=by
 obtain⟨a1,a2,a3,a4⟩:=hp;obtain⟨b1,b2,b3,b4⟩:=hq;have m1:p.1.natAbs * q.2.1.natAbs<=32000000000 * 32000000000:=Fh a1 b2;have m2:p.2.1.natAbs * q.1.natAbs<=32000000000 * 32000000000:=Fh a2 b1;have m3:p.2.2.natAbs * q.2.2.natAbs<=4000000000 * 4000000000:=Fh (by omega) (by omega);refine⟨?_,Int.mul_pos a3 b3,?_⟩
 ·show (p.1 * q.2.1 - p.2.1 * q.1).natAbs<_;have e1:(p.1 * q.2.1).natAbs=p.1.natAbs * q.2.1.natAbs:=GC ..;have e2:(p.2.1 * q.1).natAbs=p.2.1.natAbs * q.1.natAbs:=GC ..;omega
 ·show (p.2.2 * q.2.2).natAbs<_;rw [GC];omega
theorem ud {ps:List Gt} {q:Gt} (h:q∈nxL ps):q∈ps:=by
 rcases En.mp h with z | z
 ·exact List.mem_of_mem_drop z
 ·exact GX z
theorem BX {ps:List Gt} (h:ps≠[]):(nxL ps).length=ps.length:=by
 have:=G3.mpr h;unfold nxL;rw [Eh,GA,EL];omega
theorem xk {ps:List Gt} (h:ps≠[]):(prs ps).length=ps.length:=by
 unfold prs;rw [DS,List.length_zip,BX h,Nat.min_self]
theorem lN {ps:List Gt} (h:∀ p∈ps,PlB p):∀ p∈prs ps,p.1.natAbs<2 ^ 74/\0<p.2/\p.2.natAbs<2 ^ 74:=fun p hp=>by
 obtain⟨z,hz,rfl⟩:=Ei.mp hp;obtain⟨h1,h2⟩:=Hb hz;exact BW (h _ h1) (h _ (ud h2))
theorem six {α:Type} {l:List α} (h:l.length=6):∃ a b c d e f,l=[a,b,c,d,e,f]:=by
 rcases l with _ | ⟨a,_ | ⟨b,_ | ⟨c,_ | ⟨d,_ | ⟨e,_ | ⟨f,_ | ⟨g,l⟩⟩⟩⟩⟩⟩⟩ <;> first | exact⟨_,_,_,_,_,_,rfl⟩ | (simp at h;done)
abbrev nC (K:DT):Sp:=spD K 1 (fun (c:List Gt×Nat) xs=>xs=[.dat (.list (c.1.map gD3))]/\(∀ p∈c.1,PlB p)/\c.1≠[]/\c.1.length<=98/\0<c.2/\c.2<2 ^ 3500/\∀ p∈prs c.1,Com c.2 (ED p.1 p.2)) fun c r=>r=jy (vh c.1)
theorem ue (F:Def K mg "field_area" jV ["around"]) (uah:mg "zip"=none) (uag:mg "abs"=none) (uaF:FnIn P w K mg base k "total" pE (gz K)) (uaw:FnIn P w K mg base k "shortened" pF (cq K)):FnIn P w K mg base (k+1) "field_area" ["around"] (nC K):=by
 refine F.ok jI rfl fun fa cdv A outer s H E hr=>⟨_,(zc (zS (i:=1) jI.nd rfl (Or.inl rfl) (zt (vm (K:=K) rfl) (ak (aw (K:=K) rfl) (pv 0) (bW zh) bV) (ak (aw (K:=K) rfl) (pv 0) bV (bW zh)))) (zc (yr (ze uaF hr rfl (za (zY (N:=pI) (own:=6) (fr:=[]) (by walk_at "c") rfl (mZ (K:=K) rfl rfl uah (za (pv 0) (za (pv 1) zb))) (fun _ _ _ _=>(zN (K:=K) (n:=2) rfl rfl (zg (zN (K:=K) (n:=3) rfl rfl (zg (zd (i:=0) (show (pI:List Str).Nodup by decide +kernel) rfl (Or.inl rfl) (Or.inr rfl)) (zg (zd (i:=1) (show (pI:List Str).Nodup by decide +kernel) rfl (Or.inl rfl) (Or.inr rfl)) (zg (zd (i:=2) (show (pI:List Str).Nodup by decide +kernel) rfl (Or.inl rfl) (Or.inr rfl)) zL)))) (zg (zN (K:=K) (n:=3) rfl rfl (zg (zd (i:=3) (show (pI:List Str).Nodup by decide +kernel) rfl (Or.inl rfl) (Or.inr rfl)) (zg (zd (i:=4) (show (pI:List Str).Nodup by decide +kernel) rfl (Or.inl rfl) (Or.inr rfl)) (zg (zd (i:=5) (show (pI:List Str).Nodup by decide +kernel) rfl (Or.inl rfl) (Or.inr rfl)) zL)))) zL)))) (fun _ _ _ _=>yb) (fun _ _ _ _=>(zO (za (zt ym (zt yV (pv 0) (pv 4)) (zt yV (pv 1) (pv 3))) (za (zt yV (pv 2) (pv 5)) zb)))) rfl rfl (fun _=>rfl)) zb)) (zN (K:=K) (n:=2) rfl rfl (zg (zd (i:=2) jI.nd rfl (Or.inl rfl) (Or.inr rfl)) (zg (zd (i:=3) jI.nd rfl (Or.inl rfl) (Or.inr rfl)) zL)))) (zl (zG (ze uaw hr rfl (za (zK (aj) rfl uag GR (za (pv 2) zb)) (za (zt yV zh (pv 3)) zb))))))),?_⟩;rintro f xs ⟨ps,M⟩ hl ⟨rfl,bd,ne,few,m0,m1,cm⟩
 try dsimp only [yu,zp]
 dsimp only at *;have pos:=G3.mpr ne;have ml:(ps.map gD3).length=ps.length:=DS _;have s1:HT.sIx (ps.map gD3).length 0 (some 1)=1:=by
  unfold HT.sIx;simp only;rw [Jx (by decide)];show min 1 _=1;omega
 have s2:HT.sIx (ps.map gD3).length (ps.map gD3).length (some 1)=1:=by
  unfold HT.sIx;simp only;rw [Jx (by decide)];show min 1 _=1;omega
 have c1:L2.cutD (ps.map gD3) (some 1) none=(ps.drop 1).map gD3:=by
  unfold L2.cutD;rw [s1,show HT.sIx (ps.map gD3).length (ps.map gD3).length none=(ps.map gD3).length from rfl,Iq (by rw [GA];omega),Hu]
 have c2:L2.cutD (ps.map gD3) none (some 1)=(ps.take 1).map gD3:=by
  unfold L2.cutD;rw [s2,show HT.sIx (ps.map gD3).length 0 none=0 from rfl,List.drop_zero,Nat.sub_zero,Ht]
 refine zT (yj (cP (ic (zk rfl ⟨_,rfl,ib (yU ⟨_,rfl,ia ⟨_,rfl,ic (zk rfl ⟨_,rfl,ia (ib (yU ⟨_,rfl,_,rfl,?_⟩))⟩)⟩⟩)⟩))));rw [c1,c2];refine⟨by rw [DS,DS,GA,EL];omega,zi ?_⟩;rw [<-Ey];show PSd K f _ [some (.dat (.list (ps.map gD3))),some (.dat (.list ((nxL ps).map gD3))),none,none] _;have n2:(zX (prs ps)).den<2 ^ 3500:=FJ ((gB (prs ps) cm).den m0) m1;refine zT (yj (zr (prs ps,M,74,0) (zz (PEdO.ped (j5 (A:=fun p:Gt×Gt=>.tuple [gD3 p.1,gD3 p.2]) (B:=fun p=>frD (crs p.1 p.2)) (ps.zip (nxL ps)) (Ac (bR rfl rfl ⟨_,_,rfl,?_,?_,?_,?_⟩)))))))
 ·unfold dJ;rw [List.zipWith_map,List.zip,List.map_zipWith]
 ·rw [List.length_zip];omega
 ·rintro D ⟨p,q⟩ ρ' es hq ho hes;obtain⟨m1,m2⟩:=Hb hq;obtain⟨a1,a2,a3,a4⟩:=bd p m1;obtain⟨b1,b2,b3,b4⟩:=bd q (ud m2);obtain⟨us,hus,rfl⟩:=ho;have sm:∀ {i:Int},i.natAbs<2 ^ 60->i.natAbs<bS:=fun h=>jr h (by decide);obtain⟨u1,u2,u3,u4,u5,u6,rfl⟩:=six hus
  ·refine yz rfl (zm (yz rfl (zm (zi (zm (zi (zm (zi (zV ?_)))))))));refine zm (yz rfl (zm (zi (zm (zi (zm (zi (zV ?_))))))));refine zV (jj ?_);rw [Jy rfl];refine yv hes (ve (zz (jo (yR (zk rfl ⟨_,rfl,zk rfl ⟨_,rfl,⟨sm (show p.1.natAbs<_ by omega),sm (show q.2.1.natAbs<_ by omega)⟩,_,rfl,?_⟩⟩)))));refine yR (zk rfl ⟨_,rfl,zk rfl ⟨_,rfl,⟨sm (show p.2.1.natAbs<_ by omega),sm (show q.1.natAbs<_ by omega)⟩,_,rfl,?_⟩⟩);refine zz (yR (zk rfl ⟨_,rfl,zk rfl ⟨_,rfl,⟨sm (show p.2.2.natAbs<_ by omega),sm (show q.2.2.natAbs<_ by omega)⟩,ye ⟨_,rfl,by show 2<=1000;decide,⟨[_,_,_,_,_,_],rfl,rfl⟩,rfl⟩⟩⟩))
 refine ye ⟨rfl,⟨by unfold prs;rw [EA];rfl,m0,m1,fun p hp=>⟨(lN bd p hp).1,(lN bd p hp).2.1,(lN bd p hp).2.2,cm p hp⟩,by show 74<=3500;decide,by rw [xk ne];omega⟩,?_⟩;rintro _ rfl;refine yz rfl (zm (zi (zm (zi (zV ?_)))));have ha:(if (zX (prs ps)).num<0 then -(zX (prs ps)).num else (zX (prs ps)).num)=((zX (prs ps)).num.natAbs:Int):=by split <;> omega
 have dp:=(zX (prs ps)).den_pos;have hd:(2 * ((zX (prs ps)).den:Int)).natAbs<bS:=by
  rw [GC,Fi];refine jr (m:=3500+1) ?_ (by decide);rw [Ja];show 2 * _<_;omega
 refine yL (zr (((zX (prs ps)).num.natAbs:Int),2 * ((zX (prs ps)).den:Int)) ?_);refine zz (kN (qz rfl ⟨_,rfl,?_⟩));rw [ha];refine zz (yR (yU ⟨_,rfl,zk rfl ⟨_,rfl,⟨jr (m:=60) (by decide) (by decide),by rw [Fi];exact jr n2 (by decide)⟩,ye ⟨rfl,⟨rfl,by omega,hd⟩,?_⟩⟩⟩));rintro _ rfl;rfl
abbrev Fl:=Bool×Bool×Bool×Bool
noncomputable def sgl (f:Fl):List Fl:=(if f.1 then [(true,false,false,false)] else [])++(if f.2.1 then [(false,true,false,false)] else [])++(if f.2.2.1 then [(false,false,true,false)] else [])++(if f.2.2.2 then [(false,false,false,true)] else [])
noncomputable def anyF (f:Fl):Bool:=f.1 || f.2.1 || f.2.2.1 || f.2.2.2
noncomputable def aT (f:Fl):Fl:=(!f.1,!f.2.1,!f.2.2.1,!f.2.2.2)
noncomputable def aU (h:Fl):Bool:=(h.1 != h.2.1) && ((h.1 != h.2.2.2) && ((h.2.2.2 != h.2.2.1) && (h.2.1 != h.2.2.1)))
noncomputable def PL (h:Fl) (m:Bool):List Fl:=if aU h then (if m then h :: sgl (aT h) else aT h :: sgl h) else [h,aT h].filter anyF
noncomputable def qf (h s:Fl):List (Fin 8) :=
 (if s.1 then [0] else [])++(if (h.1 != h.2.1) && (s.1 || s.2.1) then [1] else [])++(if s.2.1 then [2] else [])++(if (h.2.1 != h.2.2.1) && (s.2.1 || s.2.2.1) then [3] else [])++(if s.2.2.1 then [4] else [])++(if (h.2.2.2 != h.2.2.1) && (s.2.2.1 || s.2.2.2) then [5] else [])++(if s.2.2.2 then [6] else [])++(if (h.1 != h.2.2.2) && (s.2.2.2 || s.1) then [7] else [])
noncomputable def shT (X Y:Fin 8->Rat) (T:List (Fin 8)):Rat:=((T.zip (T.drop 1++T.take 1)).map fun p=>X p.1 * Y p.2 - Y p.1 * X p.2).foldl (·+·) 0
noncomputable def XX (x t0 t2:Rat) (i:Fin 8):Rat:=match i with
 | 0=>x | 1=>x+t0 | 2=>x+1 | 3=>x+1 | 4=>x+1 | 5=>x+t2 | 6=>x | 7=>x
noncomputable def YY (y t1 t3:Rat) (i:Fin 8):Rat:=match i with
 | 0=>y | 1=>y | 2=>y | 3=>y+t3 | 4=>y+1 | 5=>y+1 | 6=>y+1 | 7=>y+t1
theorem pr1 {a b:Rat} (ha:0<a/\a<1) (hb:0<b/\b<1):0<a * b/\a * b<1:=by
 refine⟨Rat.mul_pos ha.1 hb.1,?_⟩;have:=Rat.mul_lt_mul_of_pos_right ha.2 hb.1;grind
theorem co {a:Rat} (h:0<a/\a<1):0<1 - a/\1 - a<1:=by grind
theorem Aj {X Y:Fin 8->Rat} {x y:Rat} {z:Fin 8}:∀ (l:List (Fin 8)) (u:Fin 8) (c d:Rat),(((u :: l).zip (l++[z])).map fun p=>(x+X p.1) * (y+Y p.2) - (y+Y p.1) * (x+X p.2)).foldl (·+·) d=(((u :: l).zip (l++[z])).map fun p=>X p.1 * Y p.2 - Y p.1 * X p.2).foldl (·+·) c+x * (Y z - Y u)+y * (X u - X z)+(d - c)
 | [],u,c,d=>by
  show d+((x+X u) * (y+Y z) - (y+Y u) * (x+X z))=c+(X u * Y z - Y u * X z)+x * (Y z - Y u)+y * (X u - X z)+(d - c);grind
 | v :: l,u,c,d=>by
  have:=Aj (X:=X) (Y:=Y) (x:=x) (y:=y) (z:=z) l v (c+(X u * Y v - Y u * X v)) (d+((x+X u) * (y+Y v) - (y+Y u) * (x+X v)));show (((v :: l).zip (l++[z])).map fun p=>(x+X p.1) * (y+Y p.2) - (y+Y p.1) * (x+X p.2)).foldl (·+·) (d+((x+X u) * (y+Y v) - (y+Y u) * (x+X v)))=(((v :: l).zip (l++[z])).map fun p=>X p.1 * Y p.2 - Y p.1 * X p.2).foldl (·+·) (c+(X u * Y v - Y u * X v))+x * (Y z - Y u)+y * (X u - X z)+(d - c);rw [this];grind
theorem nE (x y t0 t1 t2 t3:Rat) (T:List (Fin 8)):shT (XX x t0 t2) (YY y t1 t3) T=shT (XX 0 t0 t2) (YY 0 t1 t3) T:=by
 have ex:XX x t0 t2=fun i=>x+XX 0 t0 t2 i:=by
  funext i
  match i with
  | 0 | 1 | 2 | 3 | 4 | 5 | 6 | 7=>simp [XX,HI,Gr]
 have ey:YY y t1 t3=fun i=>y+YY 0 t1 t3 i:=by
  funext i
  match i with
  | 0 | 1 | 2 | 3 | 4 | 5 | 6 | 7=>simp [YY,HI,Gr]
 rw [ex,ey];cases T with
 | nil=>rfl
 | cons u l =>
  unfold shT;show (((u :: l).zip (l++[u])).map fun p=>(x+XX 0 t0 t2 p.1) * (y+YY 0 t1 t3 p.2) - (y+YY 0 t1 t3 p.1) * (x+XX 0 t0 t2 p.2)).foldl (·+·) 0=_;rw [Aj l u 0 0];show (((u :: l).zip (l++[u])).map fun p=>XX 0 t0 t2 p.1 * YY 0 t1 t3 p.2 - YY 0 t1 t3 p.1 * XX 0 t0 t2 p.2).foldl (·+·) 0+_+_+_=(((u :: l).zip (l++[u])).map fun p=>XX 0 t0 t2 p.1 * YY 0 t1 t3 p.2 - YY 0 t1 t3 p.1 * XX 0 t0 t2 p.2).foldl (·+·) 0;grind
theorem BY (h0 h1 h2 h3 m:Bool) (t0 t1 t2 t3:Rat) (c0:h0≠h1->0<t0/\t0<1) (c1:h0≠h3->0<t1/\t1<1) (c2:h3≠h2->0<t2/\t2<1) (c3:h1≠h2->0<t3/\t3<1) :
  ((PL (h0,h1,h2,h3) m).map fun s=>shT (XX 0 t0 t2) (YY 0 t1 t3) (qf (h0,h1,h2,h3) s)).foldl (·+·) 0=2/\∀ s∈PL (h0,h1,h2,h3) m,0<shT (XX 0 t0 t2) (YY 0 t1 t3) (qf (h0,h1,h2,h3) s):=by
 have kA:h0≠h1->h0≠h3->0<t0 * t1/\t0 * t1<1:=fun a b=>pr1 (c0 a) (c1 b);have kB:h0≠h1->h1≠h2->0<(1 - t0) * t3/\(1 - t0) * t3<1:=fun a b=>pr1 (co (c0 a)) (c3 b);have kC:h1≠h2->h3≠h2->0<(1 - t3) * (1 - t2)/\(1 - t3) * (1 - t2)<1:=fun a b=>pr1 (co (c3 a)) (co (c2 b));have kD:h3≠h2->h0≠h3->0<t2 * (1 - t1)/\t2 * (1 - t1)<1:=fun a b=>pr1 (c2 a) (co (c1 b));cases h0 <;> cases h1 <;> cases h2 <;> cases h3 <;> cases m <;> simp [PL,aU,sgl,aT,anyF,qf,shT,XX,YY,HI,Gr,Iw,Jg,Jr,Js] at * <;> grind
theorem Dj (h0 h1 h2 h3 m:Bool) (x y t0 t1 t2 t3:Rat) (c0:h0≠h1->0<t0/\t0<1) (c1:h0≠h3->0<t1/\t1<1) (c2:h3≠h2->0<t2/\t2<1) (c3:h1≠h2->0<t3/\t3<1) :
  ((PL (h0,h1,h2,h3) m).map fun s=>shT (XX x t0 t2) (YY y t1 t3) (qf (h0,h1,h2,h3) s)).foldl (·+·) 0=2/\∀ s∈PL (h0,h1,h2,h3) m,0<shT (XX x t0 t2) (YY y t1 t3) (qf (h0,h1,h2,h3) s):=by
 simp only [nE x y];exact BY h0 h1 h2 h3 m t0 t1 t2 t3 c0 c1 c2 c3
noncomputable def cnL (c:Pt):List Pt:=[(c.1,c.2),(c.1+1,c.2),(c.1+1,c.2+1),(c.1,c.2+1)]
noncomputable def pcL (c:Pt) (s:Fl):List Pt:=(if s.1=true then [(c.1,c.2)] else [])++((if s.2.1=true then [(c.1+1,c.2)] else [])++((if s.2.2.1=true then [(c.1+1,c.2+1)] else [])++if s.2.2.2=true then [(c.1,c.2+1)] else []))
noncomputable def hF (Ju:List (List Int)) (cut:Int) (c:Pt):Fl:=(hiB Ju cut c.1 c.2,hiB Ju cut (c.1+1) c.2,hiB Ju cut (c.1+1) (c.2+1),hiB Ju cut c.1 (c.2+1))
theorem Dk {Ju:List (List Int)} {cut:Int} (c:Pt):(cnL c).filter (hiP Ju cut)=pcL c (hF Ju cut c):=by
 unfold cnL pcL hF hiP;simp only [Gd,IC];cases hiB Ju cut c.1 c.2 <;> cases hiB Ju cut (c.1+1) c.2 <;> cases hiB Ju cut (c.1+1) (c.2+1) <;> cases hiB Ju cut c.1 (c.2+1) <;> rfl
theorem Dl {Ju:List (List Int)} {cut:Int} (c:Pt):((cnL c).filter fun p=>!hiP Ju cut p)=pcL c (aT (hF Ju cut c)):=by
 unfold cnL pcL hF hiP aT;simp only [Gd,IC];cases hiB Ju cut c.1 c.2 <;> cases hiB Ju cut (c.1+1) c.2 <;> cases hiB Ju cut (c.1+1) (c.2+1) <;> cases hiB Ju cut c.1 (c.2+1) <;> rfl
theorem cw {Ju:List (List Int)} {wd:Nat} {cut:Int} {c:Pt} (h:ya Ju wd c=true):jf Ju wd cut c.1 c.2=aU (hF Ju cut c):=by
 have e1:opG Ju wd cut (c.1,c.2,0)=_:=gr (cut:=cut) h;have e2:opG Ju wd cut (c.1,c.2,1)=_:=lG (cut:=cut) h;have e3:opG Ju wd cut (c.1,c.2+1,0)=_:=gu (cut:=cut) h;have e4:opG Ju wd cut (c.1+1,c.2,1)=_:=gv (cut:=cut) h;unfold jf cg aU hF;simp only [HZ,List.all_nil,e1,e2,e3,e4,Hv]
theorem uf (c:Pt) (s:Fl):(pcL c s).map (fun p=>[p])=(sgl s).map (pcL c):=by
 obtain⟨a,b,d,e⟩:=s;cases a <;> cases b <;> cases d <;> cases e <;> rfl
theorem nF {Ju:List (List Int)} {wd:Nat} {c p:Pt} (h:ya Ju wd c=true) (hp:p∈cnL c):inP Ju wd p=true:=by
 obtain⟨a,b,d,e⟩:=cell_in h;unfold cnL at hp;simp only [D5,EN,or_false] at hp;rcases hp with rfl | rfl | rfl | rfl
 ·exact a
 ·exact b
 ·exact d
 ·exact e
noncomputable def plD (l:List Pt):PyData:=.list (l.map pD)
abbrev Dm (c:List (List Int)×Nat) (xs:List DV):Prop:=xs=[.dat (tab c.1)]/\Good c.2 c.1
abbrev nG (K:DT):Sp:=spD K 1 Dm fun c r=>r=.list (vg (c.1.length - 1) (c.2 - 1))
theorem ug (F:Def K mg "cells" cf pf) (uab:mg "range"=none) (uaj:FnIn P w K mg base k "size" pf (gm K)):FnIn P w K mg base (k+1) "cells" pf (nG K):=by
 refine F.ok df rfl fun fa cdv A outer s H E hr=>⟨_,(zc (yr (ze uaj hr rfl (za (pv 0) zb)) (zN (K:=K) (n:=2) rfl rfl (zg (zd (i:=1) df.nd rfl (Or.inl rfl) (Or.inr rfl)) (zg (zd (i:=2) df.nd rfl (Or.inr rfl) (Or.inl rfl)) zL)))) (zl (zG (hC (N:=pN) (own:=2) (fr:=[2]) (by walk_at "c") rfl (y6 rfl uab (za (zt ym (pv 1) zh) zb)) (fun _ _ _ _=>(zd (i:=0) (show (pN:List Str).Nodup by decide +kernel) rfl (Or.inl rfl) (Or.inr rfl))) (fun _ _ _ _=>yb) (fun _ _ _ _=>(y6 rfl uab (za (zt ym (pv 2) zh) zb))) (fun _ _ _ _=>(zd (i:=1) (show (pN:List Str).Nodup by decide +kernel) rfl (Or.inl rfl) (Or.inr rfl))) (fun _ _ _ _=>yb) (fun _ _ _ _=>(zO (za (pv 0) (za (pv 1) zb)))) rfl rfl (fun _=>rfl) (fun _ _ _ _ _=>rfl))))),?_⟩;rintro f xs ⟨Ju,wd⟩ hl ⟨rfl,g⟩
 try dsimp only [yu,zp]
 dsimp only at *;have g2:=g.h2;have w2:=g.w2;have g1:=g.h1;have w1:=g.w1;refine zT (yj (zr (Ju,wd) ?_));walk_at "w";rintro _ rfl;refine yz rfl (zm (zi (zm (zi (zV ?_)))));have ew:((wd:Int) - 1).toNat=wd - 1:=by omega
 have eh:((Ju.length:Int) - 1).toNat=Ju.length - 1:=by omega
 refine yL (PEdO.ped (fu (qQ (zz (jo (zk rfl ⟨_,rfl,yU ⟨_,rfl,ye ⟨_,rfl,by dsimp only;omega,by dsimp only;omega,fun n ρ es=>(∃ u v,ρ=[u,v,some (.dat (.int Ju.length))])/\es=vg (Ju.length - 1) n,⟨⟨_,_,rfl⟩,rfl⟩,?_,?_⟩⟩⟩))))))
 ·rintro D n d ρ' es hd ⟨⟨u,v,rfl⟩,rfl⟩;obtain⟨hn,rfl⟩:=vt hd;have hn':n<wd - 1:=by have:n<((wd:Int) - 1).toNat:=hn;omega
  have l1:(Ju.length - 1) * n<=7 * 7:=Fh (by omega) (by omega);refine zi (jj ?_);rw [Jy rfl];refine Cu (qQ (zz (jo (zk rfl ⟨_,rfl,yU ⟨_,rfl,ye ⟨_,rfl,by omega,by omega,fun m ρ es=>(∃ v,ρ=[some (.dat (.int n)),v,some (.dat (.int Ju.length))])/\es=vg (Ju.length - 1) n++(Ef m).map (wY n),⟨⟨_,rfl⟩,by simp⟩,?_,?_⟩⟩⟩))))
  ·rintro m d ρ2 es2 hd2 ⟨⟨v,rfl⟩,rfl⟩;obtain⟨hm,rfl⟩:=vt hd2;have hm':m<Ju.length - 1:=by have:m<((Ju.length:Int) - 1).toNat:=hm;omega
   refine zi (jj ?_);rw [Jy rfl];refine yv (by rw [Eh,gq,DS,EF];omega) ?_;walk_at "w";rw [GL,Ey,Fs];rfl
  ·rintro ρ2 es2 ⟨⟨v,rfl⟩,rfl⟩;rw [vK,eh];exact⟨⟨_,_,rfl⟩,by rw [dm]⟩
 ·rintro ρ' es ⟨_,rfl⟩;rw [vK];dsimp only;rw [ew]
abbrev TPc:=List (List Int)×Nat×Int×Pt
abbrev Dp (c:TPc) (xs:List DV):Prop:=xs=[.dat (tab c.1),.dat (.int c.2.2.1),.dat (pD c.2.2.2)]/\Good c.2.1 c.1/\ya c.1 c.2.1 c.2.2.2=true
noncomputable def mF (Ju:List (List Int)) (cut:Int) (c:Pt):Bool:=dR Ju cut c.1 c.2
abbrev i9 (K:DT):Sp:=spD K 3 Dp fun c r=>r=.list ((PL (hF c.1 c.2.2.1 c.2.2.2) (mF c.1 c.2.2.1 c.2.2.2)).map fun s=>plD (pcL c.2.2.2 s))
theorem p9 (F:Def K mg "pieces" aL pj) (uap:FnIn P w K mg base k "corners" pC (vL K)) (uae:FnIn P w K mg base k "stands_high" pA (dk K)) (uaC:FnIn P w K mg base k "is_crossed" pj (bx K)) (uaD:FnIn P w K mg base k "has_high_middle" pj (tR K)):FnIn P w K mg base (k+1) "pieces" pj (i9 K):=by
 refine F.ok qI rfl fun fa cdv A outer s H E hr=>⟨_,(zc (yr (pv 2) (zN (K:=K) (n:=2) rfl rfl (zg (zd (i:=3) qI.nd rfl (Or.inl rfl) (Or.inr rfl)) (zg (zd (i:=4) qI.nd rfl (Or.inl rfl) (Or.inr rfl)) zL)))) (zc (jh (i:=5) (N:=pW) (own:=1) (fr:=[0,1]) (by walk_at "c") rfl qI.nd rfl (Or.inl rfl) (zU (K:=K) rfl (ze uap hr rfl (za (pv 3) (za (pv 4) zb)))) (fun _ _ _ _=>(zd (i:=0) (show (pW:List Str).Nodup by decide +kernel) rfl (Or.inl rfl) (Or.inr rfl))) (fun _ _ _ _=>(qO (yM (K:=K) rfl (ze uae hr rfl (za (pv 1) (za (pv 2) (za (pv 0) zb)))) (fun _=>rfl)))) (fun _ _ _ _=>(pv 0)) rfl rfl (fun _=>rfl) (Or.inl rfl) rfl) (zc (jh (i:=6) (N:=pW) (own:=1) (fr:=[0,1]) (by walk_at "c") rfl qI.nd rfl (Or.inl rfl) (zU (K:=K) rfl (ze uap hr rfl (za (pv 3) (za (pv 4) zb)))) (fun _ _ _ _=>(zd (i:=0) (show (pW:List Str).Nodup by decide +kernel) rfl (Or.inl rfl) (Or.inr rfl))) (fun _ _ _ _=>(qO (cB (yM (K:=K) rfl (ze uae hr rfl (za (pv 1) (za (pv 2) (za (pv 0) zb)))) (fun _=>rfl))))) (fun _ _ _ _=>(pv 0)) rfl rfl (fun _=>rfl) (Or.inl rfl) rfl) (zc (jl (cB (yM (K:=K) rfl (ze uaC hr rfl (za (pv 0) (za (pv 1) (za (pv 2) zb)))) (fun _=>rfl))) (zl (zG (zY (N:=["piece"]) (own:=1) (fr:=[]) (by walk_at "c") rfl (av (K:=K) rfl (zO (za (pv 5) (za (pv 6) zb)))) (fun _ _ _ _=>(zd (i:=0) (show (["piece"]:List Str).Nodup by decide +kernel) rfl (Or.inl rfl) (Or.inr rfl))) (fun _ _ _ _=>(qO (yM (K:=K) rfl (pv 0) (fun _=>rfl)))) (fun _ _ _ _=>(pv 0)) rfl rfl (fun _=>rfl)))) yp) (zc (jl (yM (K:=K) rfl (ze uaD hr rfl (za (pv 0) (za (pv 1) (za (pv 2) zb)))) (fun _=>rfl)) (zl (zG (zt (vm (K:=K) rfl) (yQ (za (pv 5) zb)) (zY (N:=["corner"]) (own:=1) (fr:=[]) (by walk_at "c") rfl (zU (K:=K) rfl (pv 6)) (fun _ _ _ _=>(zd (i:=0) (show (["corner"]:List Str).Nodup by decide +kernel) rfl (Or.inl rfl) (Or.inr rfl))) (fun _ _ _ _=>yb) (fun _ _ _ _=>(yQ (za (pv 0) zb))) rfl rfl (fun _=>rfl))))) yp) (zl (zG (zt (vm (K:=K) rfl) (yQ (za (pv 6) zb)) (zY (N:=["corner"]) (own:=1) (fr:=[]) (by walk_at "c") rfl (zU (K:=K) rfl (pv 5)) (fun _ _ _ _=>(zd (i:=0) (show (["corner"]:List Str).Nodup by decide +kernel) rfl (Or.inl rfl) (Or.inr rfl))) (fun _ _ _ _=>yb) (fun _ _ _ _=>(yQ (za (pv 0) zb))) rfl rfl (fun _=>rfl)))))))))),?_⟩;rintro f xs ⟨Ju,wd,cut,c⟩ hl ⟨rfl,g,hc⟩
 try dsimp only [yu,zp]
 dsimp only at *;have e4:∀ p∈cnL c,inP Ju wd p=true:=fun p hp=>nF hc hp;have cr:=cw (cut:=cut) hc;obtain⟨x,y⟩:=c;refine zT (yj (zk rfl (yz rfl (zm (zi (zm (zi (zV ?_))))))));refine zT (yj (PEdO.ped (v3 (A:=pD) (B:=pD) (hiP Ju cut) (cnL (x,y)) (yF (zr (x,y) (bR rfl rfl ⟨rfl,rfl,?_⟩))))));rintro _ rfl;refine⟨_,rfl,rfl,show 4<=1000 by decide,?_,?_⟩
 ·rintro D p ρ' es hp ho hes;obtain⟨u,rfl⟩:=ho.one;refine zi (j4 (zr (Ju,wd,cut,p.1,p.2) (dM rfl rfl rfl ⟨rfl,⟨rfl,g,e4 p hp⟩,?_⟩)));rintro _ rfl;refine⟨_,rfl,rfl,?_⟩;refine jw (fun h=>yv hes (zk rfl ⟨.mk1,rfl⟩)) fun h=>.mk1
 rw [Dk];refine zi (zT (yj (PEdO.ped (v3 (A:=pD) (B:=pD) (fun p=>!hiP Ju cut p) (cnL (x,y)) (yF (zr (x,y) (bR rfl rfl ⟨rfl,rfl,?_⟩)))))));rintro _ rfl;refine⟨_,rfl,rfl,show 4<=1000 by decide,?_,?_⟩
 ·rintro D p ρ' es hp ho hes;obtain⟨u,rfl⟩:=ho.one;refine zi (hE (j4 (zr (Ju,wd,cut,p.1,p.2) (dM rfl rfl rfl ⟨rfl,⟨rfl,g,e4 p hp⟩,?_⟩))));rintro _ rfl;refine⟨_,rfl,rfl,?_⟩;refine jw (fun h=>yv hes (zk rfl ⟨.mk1,rfl⟩)) fun h=>.mk1
 rw [Dl];have few:∀ s:Fl,(pcL (x,y) s).length<=4:=fun⟨a,b,d,e⟩=>by cases a <;> cases b <;> cases d <;> cases e <;> exact EH rfl
 refine zi (zT (dI (hE (j4 (zr (Ju,wd,cut,x,y) (dM rfl rfl rfl ⟨rfl,⟨rfl,g,hc⟩,?_⟩))))));rintro _ rfl;refine⟨_,rfl,?_⟩;dsimp only at cr ⊢;rw [cr];unfold PL mF;generalize hF Ju cut (x,y)=hh;refine jw (fun h=>?_) fun h=>?_
 ·rw [Bool.not_eq_true'] at h;rw [h,Jx DX];refine yL (PEdO.ped (v3 (A:=fun s=>plD (pcL (x,y) s)) (B:=fun s=>plD (pcL (x,y) s)) anyF [hh,aT hh] (h9 (ve (bR rfl rfl ⟨_,rfl,by show 2<=1000;decide,_,rfl,rfl,show 2<=1000 by decide,?_,rfl⟩)))));rintro D s ρ' es hs ho hes;obtain⟨u,rfl⟩:=ho.one;refine zi (j4 (zk rfl ⟨anyF s,?_,rfl,?_⟩))
  ·obtain⟨a,b,d,e⟩:=s;cases a <;> cases b <;> cases d <;> cases e <;> rfl
  ·exact jw (fun h=>yv hes (zk rfl ⟨.mk1,rfl⟩)) fun h=>.mk1
 ·rw [Bool.not_eq_false'] at h;rw [h,Jy rfl];refine vi (zT (dI (j4 (zr (Ju,wd,cut,x,y) (dM rfl rfl rfl ⟨rfl,⟨rfl,g,hc⟩,?_⟩)))));rintro _ rfl;refine⟨_,rfl,?_⟩;dsimp only;refine jw (fun h2=>?_) fun h2=>?_
  ·rw [h2,Jy rfl];refine yL (cP (cK (qz rfl ⟨_,rfl,by show 1<=1000;decide,_,rfl,PEdO.ped (j5 (A:=pD) (B:=fun p=>plD [p]) (pcL (x,y) (aT hh)) (yF (zk rfl ⟨_,rfl,rfl,Er (few _) (by decide),?_,?_⟩)))⟩)))
   ·rintro D p ρ' es hp ho hes;obtain⟨u,rfl⟩:=ho.one;refine zi (jj ?_);rw [Jy rfl];exact yv hes (cK (qz rfl ⟨_,rfl,by show 1<=1000;decide,.mk1,rfl⟩))
   ·refine⟨_,rfl,?_,?_⟩
    ·have:=few (aT hh);rw [DS];show 1+_<=1000;omega
    ·have e:=uf (x,y) (aT hh);rw [Ez,show (pcL (x,y) (aT hh)).map (fun p=>plD [p])=((pcL (x,y) (aT hh)).map fun p=>[p]).map plD by rw [EA];rfl,e,EA];rfl
  ·rw [h2,Jx DX];refine vi (yL (cP (cK (qz rfl ⟨_,rfl,by show 1<=1000;decide,_,rfl,PEdO.ped (j5 (A:=pD) (B:=fun p=>plD [p]) (pcL (x,y) hh) (yF (zk rfl ⟨_,rfl,rfl,Er (few _) (by decide),?_,?_⟩)))⟩))))
   ·rintro D p ρ' es hp ho hes;obtain⟨u,rfl⟩:=ho.one;refine zi (jj ?_);rw [Jy rfl];exact yv hes (cK (qz rfl ⟨_,rfl,by show 1<=1000;decide,.mk1,rfl⟩))
   ·refine⟨_,rfl,?_,?_⟩
    ·have:=few hh;rw [DS];show 1+_<=1000;omega
    ·have e:=uf (x,y) hh;rw [Ez,show (pcL (x,y) hh).map (fun p=>plD [p])=((pcL (x,y) hh).map fun p=>[p]).map plD by rw [EA];rfl,e,EA];rfl
theorem BZ {K:DT} {f:Fx} {D:DY} {ts:TS} {ρ:zq} {es:List PyData} {O O':OEnds} (h:PSo K f D ts ρ es O) (h1:∀ r e,O.nx r e->O'.nx r e) (h2:∀ d,O.rt d->O'.rt d) (h3:∀ r e,O.bk r e->O'.bk r e) (h4:∀ r e,O.ct r e->O'.ct r e):PSo K f D ts ρ es O' :=
 fun hD hM σ H H2 E c n r b k=>h hD hM σ H H2 E c (fun a b c d e z=>n a b c d e (h1 _ _ z)) (fun a b c d e f g h z=>r a b c d e f g h (h2 _ z)) (fun a b' c d e z=>b a b' c d e (h3 _ _ z)) (fun a b c d e z=>k a b c d e (h4 _ _ z))
theorem xl:∀ a:Fin 4,a=0 \/ a=1 \/ a=2 \/ a=3:=by decide
noncomputable def cnF (c:Pt) (k:Fin 4):Pt:=match k with
 | 0=>(c.1,c.2) | 1=>(c.1+1,c.2) | 2=>(c.1+1,c.2+1) | 3=>(c.1,c.2+1)
noncomputable def gkF (c:Pt) (k:Fin 4):Gt:=match k with
 | 0=>(c.1,c.2,0) | 1=>(c.1+1,c.2,1) | 2=>(c.1,c.2+1,0) | 3=>(c.1,c.2,1)
noncomputable def flF (s:Fl) (k:Fin 4):Bool:=match k with
 | 0=>s.1 | 1=>s.2.1 | 2=>s.2.2.1 | 3=>s.2.2.2
noncomputable def evF (k:Fin 4):Fin 8:=match k with | 0=>0 | 1=>2 | 2=>4 | 3=>6
noncomputable def odF (k:Fin 4):Fin 8:=match k with | 0=>1 | 1=>3 | 2=>5 | 3=>7
noncomputable def sdF (h s:Fl) (k:Fin 4):List (Fin 8):=(if flF s k=true then [evF k] else [])++if ((flF h k != flF h (k+1)) && (flF s k || flF s (k+1)))=true then [odF k] else []
noncomputable def dfF (c:Pt) (k:Fin 4):Gt:=match k with
 | 0=>(c.1,c.2,1) | 1=>(c.1+1,c.2,1) | 2=>(c.1,c.2+1,1) | 3=>(c.1,c.2,1)
noncomputable def ptF (Ju:List (List Int)) (wd:Nat) (cut:Int) (c:Pt) (i:Fin 8):Gt :=
 let od:=fun k:Fin 4=>if opG Ju wd cut (gkF c k)=true then plT Ju cut (gkF c k) else dfF c k
 match i with
 | 0=>(c.1,c.2,1) | 1=>od 0 | 2=>(c.1+1,c.2,1) | 3=>od 1 | 4=>(c.1+1,c.2+1,1) | 5=>od 2 | 6=>(c.1,c.2+1,1) | 7=>od 3
theorem B0:∀ h s:Fl,qf h s=sdF h s 0++(sdF h s 1++(sdF h s 2++sdF h s 3)):=by
 rintro⟨a,b,c,d⟩ ⟨e,f,g,i⟩
 revert a b c d e f g i
 decide
theorem B1 (c:Pt):∀ i j:Fin 4,cnF c i=cnF c j↔i=j:=by
 obtain⟨x,y⟩:=c;intro i j;refine⟨fun h=>?_,fun h=>by rw [h]⟩;have h1:(cnF (x,y) i).1=(cnF (x,y) j).1:=by rw [h]
 have h2:(cnF (x,y) i).2=(cnF (x,y) j).2:=by rw [h]
 revert h1 h2
 clear h
 match i,j with
 | 0,0=>intros;rfl
 | 0,1=>intro h _;simp [cnF] at h;omega
 | 0,2=>intro h _;simp [cnF] at h;omega
 | 0,3=>intro _ h;simp [cnF] at h;omega
 | 1,0=>intro h _;simp [cnF] at h;omega
 | 1,1=>intros;rfl
 | 1,2=>intro _ h;simp [cnF] at h;omega
 | 1,3=>intro h _;simp [cnF] at h;omega
 | 2,0=>intro h _;simp [cnF] at h;omega
 | 2,1=>intro _ h;simp [cnF] at h;omega
 | 2,2=>intros;rfl
 | 2,3=>intro h _;simp [cnF] at h;omega
 | 3,0=>intro _ h;simp [cnF] at h;omega
 | 3,1=>intro h _;simp [cnF] at h;omega
 | 3,2=>intro h _;simp [cnF] at h;omega
 | 3,3=>intros;rfl
theorem Dq (c:Pt) (s:Fl):pcL c s=(([0,1,2,3]:List (Fin 4)).filter (flF s)).map (cnF c):=by
 obtain⟨a,b,d,e⟩:=s;cases a <;> cases b <;> cases d <;> cases e <;> rfl
theorem B2:∀ (s:Fl) (k:Fin 4),((([0,1,2,3]:List (Fin 4)).filter (flF s)).any fun j=>decide (j=k))=flF s k:=by
 rintro⟨a,b,c,d⟩ k
 revert a b c d k
 decide
theorem uh (c:Pt) (s:Fl) (k:Fin 4):(((pcL c s).map pD).any fun e=>EC e (pD (cnF c k)))=flF s k:=by
 rw [Dq,<- B2 s k,I9,I9]
 congr 1
 funext j
 show (EC (.int (cnF c j).1) (.int (cnF c k).1) && (EC (.int (cnF c j).2) (.int (cnF c k).2) && true))=decide (j=k);rw [gk,gk,Hv,<- Bool.decide_and];refine decide_eq_decide.mpr ?_;rw [<-B1 c j k];exact⟨fun h=>Fo h.1 h.2,fun h=>by rw [h];exact⟨rfl,rfl⟩⟩
theorem bN {Ju:List (List Int)} {wd:Nat} {cut:Int} {c:Pt} (h:ya Ju wd c=true) (k:Fin 4):opG Ju wd cut (gkF c k)=(flF (hF Ju cut c) k != flF (hF Ju cut c) (k+1)):=by
 have sw:∀ a b:Bool,(a != b)=(b != a):=by decide
 match k with
 | 0=>exact gr (cut:=cut) h
 | 1=>exact gv (cut:=cut) h
 | 2=>exact (gu (cut:=cut) h).trans (sw _ _)
 | 3=>exact (lG (cut:=cut) h).trans (sw _ _)
noncomputable abbrev Dr (Ju:List (List Int)) (cut:Int) (c:Pt) (s:Fl) (m:Nat) (u v z:Option DV):zq:=[some (.dat (tab Ju)),some (.dat (.int cut)),some (.dat (pD c)),some (.dat (plD (pcL c s))),some (.dat (.int c.1)),some (.dat (.int c.2)),some (.dat (gD3 (c.1,c.2,0))),some (.dat (gD3 (c.1,c.2,1))),some (.dat (gD3 (c.1,c.2+1,0))),some (.dat (gD3 (c.1+1,c.2,1))),some (.dat (.list [pD (cnF c 0),pD (cnF c 1),pD (cnF c 2),pD (cnF c 3)])),some (.dat (.list [pD (cnF c 1),pD (cnF c 2),pD (cnF c 3),pD (cnF c 0)])),some (.own m),u,v,z]
abbrev TOu:=List (List Int)×Nat×Int×Pt×Fl
abbrev Dt (c:TOu) (xs:List DV):Prop:=xs=[.dat (tab c.1),.dat (.int c.2.2.1),.dat (pD c.2.2.2.1),.dat (plD (pcL c.2.2.2.1 c.2.2.2.2))]/\Good c.2.1 c.1/\ya c.1 c.2.1 c.2.2.2.1=true
noncomputable def ouL (Ju:List (List Int)) (wd:Nat) (cut:Int) (c:Pt) (s:Fl):List Gt:=(qf (hF Ju cut c) s).map (ptF Ju wd cut c)
abbrev ui (K:DT):Sp:=spD K 4 Dt fun c r=>r=.list ((ouL c.1 c.2.1 c.2.2.1 c.2.2.2.1 c.2.2.2.2).map gD3)
theorem lO (F:Def K mg "outline" vI pQ) (uah:mg "zip"=none) (uaA:FnIn P w K mg base k "cell_gates" ["cell"] (dr K)) (uap:FnIn P w K mg base k "corners" pC (vL K)) (uaz:FnIn P w K mg base k "is_open" pz (lE K)) (ua8:FnIn P w K mg base k "place_of" pz (eX K)):FnIn P w K mg base (k+1) "outline" pQ (ui K):=by
 refine F.ok yi rfl fun fa cdv A outer s H E hr=>⟨_,(zc (yr (pv 2) (zN (K:=K) (n:=2) rfl rfl (zg (zd (i:=4) yi.nd rfl (Or.inl rfl) (Or.inr rfl)) (zg (zd (i:=5) yi.nd rfl (Or.inl rfl) (Or.inr rfl)) zL)))) (zc (yr (ze uaA hr rfl (za (pv 2) zb)) (fA (K:=K) (n:=4) rfl rfl (zg (zd (i:=6) yi.nd rfl (Or.inl rfl) (Or.inr rfl)) (zg (zd (i:=7) yi.nd rfl (Or.inl rfl) (Or.inr rfl)) (zg (zd (i:=8) yi.nd rfl (Or.inl rfl) (Or.inr rfl)) (zg (zd (i:=9) yi.nd rfl (Or.inl rfl) (Or.inr rfl)) zL)))))) (zc (zS (i:=10) yi.nd rfl (Or.inl rfl) (ze uap hr rfl (za (pv 4) (za (pv 5) zb)))) (zc (zS (i:=11) yi.nd rfl (Or.inl rfl) (zt (vm (K:=K) rfl) (ak (aw (K:=K) rfl) (pv 10) (bW zh) bV) (ak (aw (K:=K) rfl) (pv 10) bV (bW zh)))) (zc (zS (i:=12) yi.nd rfl (Or.inl rfl) (yQ zb)) (zc (jz ER rfl (s9 (K:=K) rfl rfl uah (za (pv 10) (za (yQ (za (pv 6) (za (pv 9) (za (pv 8) (za (pv 7) zb))))) (za (pv 11) zb)))) (zN (K:=K) (n:=3) rfl rfl (zg (zd (i:=13) yi.nd rfl (Or.inl rfl) (Or.inr rfl)) (zg (zd (i:=14) yi.nd rfl (Or.inl rfl) (Or.inr rfl)) (zg (zd (i:=15) yi.nd rfl (Or.inl rfl) (Or.inr rfl)) zL)))) (zc (jl (yy (fB (K:=K) rfl hr.units) (pv 13) (pv 3) rfl) (zl (jb (gX Fy FK FL qB (pv 12) (za (zO (za (yw (bY (K:=K) rfl) (pv 13) zh (fun _ _=>rfl)) (za (yw (bY (K:=K) rfl) (pv 13) zh (fun _ _=>rfl)) (za zh zb)))) zb)))) yp) (zl (jl (PW.pt (rn (yM (K:=K) rfl (ze uaz hr rfl (za (pv 0) (za (pv 1) (za (pv 14) zb)))) (fun _=>rfl)) (lS (PW.pt (xM (yy (fB (K:=K) rfl hr.units) (pv 13) (pv 3) rfl) (rj (yy (fB (K:=K) rfl hr.units) (pv 15) (pv 3) rfl))))))) (zl (jb (gX Fy FK FL qB (pv 12) (za (ze ua8 hr rfl (za (pv 0) (za (pv 1) (za (pv 14) zb)))) zb)))) yp)))) (zl (zG (pv 12))))))))),?_⟩;rintro f xs ⟨Ju,wd,cut,c,s⟩ hl ⟨rfl,g,hc⟩
 try dsimp only [yu,zp]
 dsimp only at *;have layP:∀ e∈(pcL c s).map pD,e.canLay0=true:=fun e he=>by obtain⟨p,_,rfl⟩:=Ei.mp he;rfl
 refine zT (yj (zk rfl (yz rfl (zm (zi (zm (zi (zV ?_))))))));refine zT (yj (zr c (qz rfl ⟨rfl,rfl,?_⟩)));rintro _ rfl;refine r9 rfl (zm (zi (zm (zi (zm (zi (zm (zi (zV ?_)))))))));refine zT (yj (zr c (bR rfl rfl ⟨rfl,rfl,?_⟩)));rintro _ rfl;refine zi (zT (yj (cP (ic (zk rfl ⟨_,rfl,ib (yU ⟨_,rfl,ia ⟨_,rfl,ic (zk rfl ⟨_,rfl,ia (ib (yU ⟨_,rfl,_,rfl,?_⟩))⟩)⟩⟩)⟩)))));refine⟨show 3+1<=1000 by decide,zi ?_⟩;refine Cz (xT ⟨show 12<16 by decide,fun D=>?_⟩);refine Cy (Bw (zz (zk rfl (zz (cK (zz (zk rfl (zz (zk rfl (zz (zk rfl (zz (zk rfl (ye ⟨_,rfl,by show 4<=1000;decide,zz (zk rfl (ye ⟨_,_,_,rfl,rfl,rfl,fun n ρ es=>∃ l:List (Fin 8),n<=4/\(∃ u v z,ρ=Dr Ju cut c s f.M.length u v z)/\es=(l.map (ptF Ju wd cut c)).map gD3/\l=((([0,1,2,3]:List (Fin 4)).take n).flatMap (sdF (hF Ju cut c) s)),⟨[],by decide,⟨_,_,_,rfl⟩,rfl,rfl⟩,?_,?_⟩))⟩))))))))))))))
 ·rintro n d _ _ hd ⟨l,n4,⟨u,v,z,rfl⟩,rfl,hl'⟩;obtain⟨q,hq,rfl⟩:∃ q:Fin 4,([0,1,2,3]:List (Fin 4))[n]?=some q/\d=.tuple [pD (cnF c q),gD3 (gkF c q),pD (cnF c (q+1))]:=by
   rcases n with _ | _ | _ | _ | n
   ·cases hd;exact⟨0,rfl,rfl⟩
   ·cases hd;exact⟨1,rfl,rfl⟩
   ·cases hd;exact⟨2,rfl,rfl⟩
   ·cases hd;exact⟨3,rfl,rfl⟩
   ·cases hd
  have hn:n<4:=(DU.mp hq).1;have tk:([0,1,2,3]:List (Fin 4)).take (n+1)=([0,1,2,3]:List (Fin 4)).take n++[q]:=by rw [EZ,hq];rfl
  have len:l.length<=8:=by
   rw [hl'];have sd:∀ k,(sdF (hF Ju cut c) s k).length<=2:=fun k=>by unfold sdF;rw [Eh];split <;> split <;> simp
   have:∀ m:List (Fin 4),(m.flatMap (sdF (hF Ju cut c) s)).length<=2 * m.length:=fun m=>by
    induction m with
    | nil=>exact EI _
    | cons k m ih =>
     have:=sd k;rw [Gp,Eh,Ep];omega
   refine Er (this _) ?_;rw [EL];show 2 * min n 4<=8;omega
  have op:=bN (cut:=cut) hc q;have ev:ptF Ju wd cut c (evF q)=((cnF c q).1,(cnF c q).2,1):=by
   clear op hq;rcases xl q with rfl | rfl | rfl | rfl <;> rfl
  have od:opG Ju wd cut (gkF c q)=true->ptF Ju wd cut c (odF q)=plT Ju cut (gkF c q):=fun h=>by
   clear op ev hq;rcases xl q with rfl | rfl | rfl | rfl <;> exact Jy h
  have nx:(([0,1,2,3]:List (Fin 4)).take (n+1)).flatMap (sdF (hF Ju cut c) s)=l++sdF (hF Ju cut c) s q:=by
   rw [tk,FZ,<- hl'];simp
  refine DI (Cv (BZ (O:={ nx:=fun ρ' es'=>ρ'=Dr Ju cut c s f.M.length (some (.dat (pD (cnF c q)))) (some (.dat (gD3 (gkF c q)))) (some (.dat (pD (cnF c (q+1)))))/\es'=((l++if flF s q=true then [evF q] else []).map (ptF Ju wd cut c)).map gD3,rt:=fun _=>False }) ?_ ?_ (fun _ z=>z.elim) (fun _ _ z=>z.elim) (fun _ _ z=>z.elim)))
  ·refine Cw (jN (sj (zk rfl (zk rfl ⟨_,rfl,rfl,layP,EH rfl,_,rfl,?_⟩))));rw [uh];cases hs:flF s q with
   | false =>
    rw [Jx DX];exact kQ ⟨rfl,by rw [Jx DX,EO]⟩
   | true =>
    rw [Jy rfl];refine r8 rfl (by rw [DS,DS];omega) ?_;walk_at "w";rw [Jy rfl,Ey,Ey];show _=_++[gD3 (ptF Ju wd cut c (evF q))];rw [ev];rfl
  ·rintro _ _ ⟨rfl,rfl⟩;have ad:l++sdF (hF Ju cut c) s q=(l++if flF s q=true then [evF q] else [])++if ((flF (hF Ju cut c) q != flF (hF Ju cut c) (q+1)) && (flF s q || flF s (q+1)))=true then [odF q] else []:=by unfold sdF;rw [Fs]
   refine Cw (l7 (j4 (zr (Ju,wd,cut,gkF c q) (dM rfl rfl rfl ⟨rfl,⟨rfl,g⟩,?_⟩))));rintro _ rfl;refine⟨_,rfl,?_⟩;have ho':yI Ju wd cut (gkF c q).1 (gkF c q).2.1 (gkF c q).2.2=(flF (hF Ju cut c) q != flF (hF Ju cut c) (q+1)):=op;show if yI Ju wd cut (gkF c q).1 (gkF c q).2.1 (gkF c q).2.2=true then _ else _
   rw [ho'];cases h1:(flF (hF Ju cut c) q != flF (hF Ju cut c) (q+1)) with
   | false =>
    rw [Jx DX,Jx DX];refine kQ ⟨_,hn,⟨_,_,_,rfl⟩,?_,rfl⟩;rw [nx,ad,h1,Gf,Jx DX,EO]
   | true =>
    have put:flF s q=true \/ flF s (q+1)=true->((l++sdF (hF Ju cut c) s q).map (ptF Ju wd cut c)).map gD3=((l++if flF s q=true then [evF q] else []).map (ptF Ju wd cut c)).map gD3++[gD3 (plT Ju cut (gkF c q))]:=fun h=>by
     have hh:(flF s q || flF s (q+1))=true:=by rcases h with h | h <;> rw [h] <;> simp
     rw [ad,h1,hh,Jy (show (true && true)=true from rfl),Ey,Ey,<- od (op.trans h1)];rfl
    have ln:(((l++if flF s q=true then [evF q] else []).map (ptF Ju wd cut c)).map gD3).length<1000:=by
     rw [DS,DS,Eh];split <;> simp <;> omega
    rw [Jy rfl];refine AS (jN (sj (zk rfl (zk rfl ⟨_,rfl,rfl,layP,EH rfl,_,rfl,?_⟩))));rw [uh];cases h2:flF s q with
    | true =>
     rw [h2] at ln;rw [Jy rfl,Jy rfl];refine r8 rfl ln (zr (Ju,wd,cut,gkF c q) (dM rfl rfl rfl ⟨rfl,⟨rfl,g,op.trans h1⟩,?_⟩));rintro _ rfl;refine⟨_,hn,⟨_,_,_,rfl⟩,?_,rfl⟩;have:=put (.inl h2);rw [h2] at this;rw [nx,this]
    | false =>
     rw [h2] at ln;rw [Jx DX];refine jN (sj (zk rfl (zk rfl ⟨_,rfl,rfl,layP,EH rfl,_,rfl,?_⟩)));rw [uh];cases h3:flF s (q+1) with
     | true =>
      rw [Jy rfl];refine r8 rfl ln (zr (Ju,wd,cut,gkF c q) (dM rfl rfl rfl ⟨rfl,⟨rfl,g,op.trans h1⟩,?_⟩));rintro _ rfl;refine⟨_,hn,⟨_,_,_,rfl⟩,?_,rfl⟩;have:=put (.inr h3);rw [h2] at this;rw [nx,this]
     | false =>
      rw [Jx DX];refine kQ ⟨_,hn,⟨_,_,_,rfl⟩,?_,rfl⟩;rw [nx,ad,h1,h2,h3,Jx (show ¬ (true && (false || false))=true from DX),EO]
 ·rintro _ _ ⟨l,_,⟨u,v,z,rfl⟩,rfl,hl'⟩;refine⟨rfl,?_⟩;have e4:l=qf (hF Ju cut c) s:=by
   rw [hl',B0];show ([0,1,2,3]:List (Fin 4)).flatMap (sdF (hF Ju cut c) s)=_;simp
  rw [e4];exact yL (zk rfl rfl)
noncomputable def xq (p:Gt):Rat:=ED p.1 p.2.2
noncomputable def yq (p:Gt):Rat:=ED p.2.1 p.2.2
theorem ae {n:Int} (h:n≠0):(n:Rat)≠0:=fun z=>h (Rat.intCast_eq_zero_iff.mp z)
theorem Du {p q:Gt} (hp:p.2.2≠0) (hq:q.2.2≠0):ED (crs p q).1 (crs p q).2=xq p * yq q - yq p * xq q:=by
 have h1:=ae hp;have h2:=ae hq;unfold crs xq yq;simp only [EW,Rat.intCast_sub,GN];grind
theorem du:∀ (l:List Fr2) (a:Rat),l.foldl (fun q p=>q+ED p.1 p.2) a=(l.map fun p=>ED p.1 p.2).foldl (·+·) a
 | [],_=>rfl
 | p :: l,a=>du l _
theorem uj {pt:Fin 8->Gt} (h:∀ i,(pt i).2.2≠0) (T:List (Fin 8)):zX (prs (T.map pt))=shT (fun i=>xq (pt i)) (fun i=>yq (pt i)) T:=by
 unfold zX prs nxL shT;rw [du,EA,<- Hu,<- Ht,<- Ey,List.zip_map,EA]
 congr 1
 refine Fp fun p _=>?_;exact Du (h p.1) (h p.2)
theorem DL {Ju:List (List Int)} {cut:Int} {g:Gt}:(g.2.2=0->xq (plT Ju cut g)=g.1+shQ Ju cut g/\yq (plT Ju cut g)=g.2.1)/\(g.2.2≠0->xq (plT Ju cut g)=g.1/\yq (plT Ju cut g)=g.2.1+shQ Ju cut g):=by
 have hd:(((shQ Ju cut g).den:Int):Rat)≠0:=ae (by have:=(shQ Ju cut g).den_nz;omega);have hn:((shQ Ju cut g).num:Rat)=shQ Ju cut g * (((shQ Ju cut g).den:Int):Rat):=by
  have:=GK (shQ Ju cut g);rw [EW] at this;grind
 unfold xq yq plT;constructor
 ·intro h;rw [Jy h];simp only [EW,Hc,GN];constructor <;> grind
 ·intro h;rw [Jx h];simp only [EW,Hc,GN];constructor <;> grind
theorem Dv {Ju:List (List Int)} {wd:Nat} {cut:Int} {g:Gt} (o:opG Ju wd cut g=true):0<shQ Ju cut g/\shQ Ju cut g<1:=by
 have w:=aS o;unfold shQ;generalize TT Ju cut g.1 g.2.1=t at *;generalize BB Ju g.1 g.2.1 g.2.2=b at *;rw [EW];have bn:(b:Rat)≠0:=ae (by omega);rcases w with⟨h1,h2⟩ | ⟨h1,h2⟩
 ·have e1:(0:Rat)<(t:Rat):=by exact_mod_cast h1
  have e2:(t:Rat)<(b:Rat):=by exact_mod_cast h2
  have hb:0<(b:Rat):=by grind
  exact⟨(Rat.lt_div_iff hb).mpr (by grind),(Rat.div_lt_iff hb).mpr (by grind)⟩
 ·have e1:(t:Rat)<0:=by exact_mod_cast h1
  have e2:(b:Rat)<(t:Rat):=by exact_mod_cast h2
  have hb:0 < -(b:Rat):=by grind
  have e:(t:Rat) / (b:Rat)=(-(t:Rat)) / (-(b:Rat)):=by grind
  rw [e];exact⟨(Rat.lt_div_iff hb).mpr (by grind),(Rat.div_lt_iff hb).mpr (by grind)⟩
theorem xm {ps:List Gt} (hS:0<zX (prs ps)):vh ps=zX (prs ps) / 2:=by
 unfold vh;generalize zX (prs ps)=S at *;have hn:0<=S.num:=Rat.num_nonneg.mpr (by grind);have e:((S.num.natAbs:Int))=S.num:=by omega
 have hd:(((S.den:Int)):Rat)≠0:=ae (by have:=S.den_nz;omega);rw [e,EW,GN];have:=GK S;rw [EW] at this;have two:(((2:Int)):Rat)=2:=rfl;rw [two];grind
section
variable {Ju:List (List Int)} {wd:Nat} {cut:Int} {c:Pt}
noncomputable def tF (Ju:List (List Int)) (wd:Nat) (cut:Int) (c:Pt) (k:Fin 4):Rat:=if opG Ju wd cut (gkF c k)=true then shQ Ju cut (gkF c k) else 0
theorem xn (i:Fin 8):xq (ptF Ju wd cut c i)=XX (c.1:Rat) (tF Ju wd cut c 0) (tF Ju wd cut c 2) i/\yq (ptF Ju wd cut c i)=YY (c.2:Rat) (tF Ju wd cut c 3) (tF Ju wd cut c 1) i:=by
 have one:∀ a b:Int,xq (a,b,1)=a/\yq (a,b,1)=b:=fun a b=>by
  unfold xq yq;simp only [EW];have:(((1:Int)):Rat)=1:=rfl;rw [this];constructor <;> grind
 have c1:(((c.1+1:Int)):Rat)=(c.1:Rat)+1:=by rw [Hc];rfl
 have c2:(((c.2+1:Int)):Rat)=(c.2:Rat)+1:=by rw [Hc];rfl
 have od:∀ k:Fin 4,(xq (if opG Ju wd cut (gkF c k)=true then plT Ju cut (gkF c k) else dfF c k)=((gkF c k).1:Rat)+(if (gkF c k).2.2=0 then tF Ju wd cut c k else 0))/\yq (if opG Ju wd cut (gkF c k)=true then plT Ju cut (gkF c k) else dfF c k)=((gkF c k).2.1:Rat)+(if (gkF c k).2.2=0 then 0 else tF Ju wd cut c k):=fun k=>by
  unfold tF;by_cases h:opG Ju wd cut (gkF c k)=true
  ·rw [Jy h,Jy h];obtain⟨q1,q2⟩:=DL (Ju:=Ju) (cut:=cut) (g:=gkF c k);by_cases z:(gkF c k).2.2=0
   ·obtain⟨a,b⟩:=q1 z;rw [a,b,Jy z,Jy z];exact⟨rfl,by grind⟩
   ·obtain⟨a,b⟩:=q2 z;rw [a,b,Jx z,Jx z];exact⟨by grind,rfl⟩
  ·rw [Jx h,Jx h];obtain⟨a,b⟩:xq (dfF c k)=((gkF c k).1:Rat)/\yq (dfF c k)=((gkF c k).2.1:Rat):=by
    match k with
    | 0=>exact one _ _ | 1=>exact one _ _ | 2=>exact one _ _ | 3=>exact one _ _
   rw [a,b];constructor <;> split <;> grind
 match i with
 | 0=>exact one _ _
 | 2=>exact⟨(one _ _).1.trans c1,(one _ _).2⟩
 | 4=>exact⟨(one _ _).1.trans c1,(one _ _).2.trans c2⟩
 | 6=>exact⟨(one _ _).1,(one _ _).2.trans c2⟩
 | 1 =>
  obtain⟨a,b⟩:=od 0;refine⟨a.trans ?_,b.trans ?_⟩
  ·show ((c.1:Int):Rat)+(if (0:Int)=0 then _ else _)=_+_;rw [Jy rfl]
  ·show ((c.2:Int):Rat)+(if (0:Int)=0 then _ else _)=_;rw [Jy rfl];exact Gr _
 | 3 =>
  obtain⟨a,b⟩:=od 1;refine⟨a.trans ?_,b.trans ?_⟩
  ·show ((c.1+1:Int):Rat)+(if (1:Int)=0 then _ else _)=_+1;rw [Jx (by decide),c1];exact Gr _
  ·show ((c.2:Int):Rat)+(if (1:Int)=0 then _ else _)=_+_;rw [Jx (by decide)]
 | 5 =>
  obtain⟨a,b⟩:=od 2;refine⟨a.trans ?_,b.trans ?_⟩
  ·show ((c.1:Int):Rat)+(if (0:Int)=0 then _ else _)=_+_;rw [Jy rfl]
  ·show ((c.2+1:Int):Rat)+(if (0:Int)=0 then _ else _)=_+1;rw [Jy rfl,c2];exact Gr _
 | 7 =>
  obtain⟨a,b⟩:=od 3;refine⟨a.trans ?_,b.trans ?_⟩
  ·show ((c.1:Int):Rat)+(if (1:Int)=0 then _ else _)=_;rw [Jx (by decide)];exact Gr _
  ·show ((c.2:Int):Rat)+(if (1:Int)=0 then _ else _)=_+_;rw [Jx (by decide)]
theorem ka (gd:Good wd Ju) (hc:ya Ju wd c=true) (i:Fin 8):PlB (ptF Ju wd cut c i):=by
 obtain⟨a,_,b,_⟩:=cell_in hc;obtain⟨x0,x1,y0,y1⟩:=jx a;obtain⟨x2,x3,y2,y3⟩:=jx b;have w2:=gd.w2;have h2:=gd.h2;have od:∀ k,PlB (if opG Ju wd cut (gkF c k)=true then plT Ju cut (gkF c k) else dfF c k):=fun k=>by
  by_cases h:opG Ju wd cut (gkF c k)=true
  ·rw [Jy h];exact Di gd h
  ·rw [Jx h]
   match k with
   | 0=>exact⟨by show c.1.natAbs<=_;omega,by show c.2.natAbs<=_;omega,by show (0:Int)<1;decide,by show (1:Int)<=_;decide⟩
   | 1=>exact⟨by show (c.1+1).natAbs<=_;omega,by show c.2.natAbs<=_;omega,by show (0:Int)<1;decide,by show (1:Int)<=_;decide⟩
   | 2=>exact⟨by show c.1.natAbs<=_;omega,by show (c.2+1).natAbs<=_;omega,by show (0:Int)<1;decide,by show (1:Int)<=_;decide⟩
   | 3=>exact⟨by show c.1.natAbs<=_;omega,by show c.2.natAbs<=_;omega,by show (0:Int)<1;decide,by show (1:Int)<=_;decide⟩
 match i with
 | 0=>exact⟨by show c.1.natAbs<=_;omega,by show c.2.natAbs<=_;omega,by show (0:Int)<1;decide,by show (1:Int)<=_;decide⟩
 | 1=>exact od 0
 | 2=>exact⟨by show (c.1+1).natAbs<=_;omega,by show c.2.natAbs<=_;omega,by show (0:Int)<1;decide,by show (1:Int)<=_;decide⟩
 | 3=>exact od 1
 | 4=>exact⟨by show (c.1+1).natAbs<=_;omega,by show (c.2+1).natAbs<=_;omega,by show (0:Int)<1;decide,by show (1:Int)<=_;decide⟩
 | 5=>exact od 2
 | 6=>exact⟨by show c.1.natAbs<=_;omega,by show (c.2+1).natAbs<=_;omega,by show (0:Int)<1;decide,by show (1:Int)<=_;decide⟩
 | 7=>exact od 3
noncomputable def arS (Ju:List (List Int)) (wd:Nat) (cut:Int) (c:Pt) (s:Fl):Rat:=zX (prs (ouL Ju wd cut c s))
theorem kc (gd:Good wd Ju) (hc:ya Ju wd c=true):((PL (hF Ju cut c) (mF Ju cut c)).map (arS Ju wd cut c)).foldl (·+·) 0=2/\∀ s∈PL (hF Ju cut c) (mF Ju cut c),0<arS Ju wd cut c s:=by
 have e:∀ s,arS Ju wd cut c s=shT (XX (c.1:Rat) (tF Ju wd cut c 0) (tF Ju wd cut c 2)) (YY (c.2:Rat) (tF Ju wd cut c 3) (tF Ju wd cut c 1)) (qf (hF Ju cut c) s):=fun s=>by
  unfold arS ouL;rw [uj (fun i=>by have:=(ka (cut:=cut) gd hc i).2.2.1;omega)]
  congr 1
  ·funext i;exact (xn i).1
  ·funext i;exact (xn i).2
 have ee:arS Ju wd cut c=fun s=>shT (XX (c.1:Rat) (tF Ju wd cut c 0) (tF Ju wd cut c 2)) (YY (c.2:Rat) (tF Ju wd cut c 3) (tF Ju wd cut c 1)) (qf (hF Ju cut c) s):=funext e;have op:∀ k,flF (hF Ju cut c) k≠flF (hF Ju cut c) (k+1)->0<tF Ju wd cut c k/\tF Ju wd cut c k<1:=fun k h=>by
  have o:opG Ju wd cut (gkF c k)=true:=by
   rw [bN hc];exact bne_iff_ne.mpr h
  unfold tF;rw [Jy o];exact Dv o
 rw [ee];exact Dj _ _ _ _ _ _ _ _ _ _ _ (op 0) (fun h=>op 3 (fun z=>h z.symm)) (fun h=>op 2 (fun z=>h z.symm)) (op 1)
end
noncomputable def prN {α:Type} (f:α->Nat):List α->Nat
 | []=>1
 | a :: l=>f a * prN f l
theorem aV {α:Type} {f:α->Nat} {a:α}:∀ {l:List α},a∈l->f a ∣ prN f l
 | b :: l,h=>by
  rcases D5.mp h with rfl | h
  ·exact Nat.dvd_mul_right _ _
  ·exact Nat.dvd_trans (aV h) (Nat.dvd_mul_left _ _)
theorem nH {α:Type} {f:α->Nat} {a b:α} (ne:a≠b):∀ {l:List α},a∈l->b∈l->f a * f b ∣ prN f l
 | d :: l,ha,hb=>by
  rcases D5.mp ha with rfl | ha'
  ·rcases D5.mp hb with rfl | hb'
   ·exact absurd rfl ne
   ·exact Nat.mul_dvd_mul (Nat.dvd_refl _) (aV hb')
  ·rcases D5.mp hb with rfl | hb'
   ·rw [Nat.mul_comm];exact Nat.mul_dvd_mul (Nat.dvd_refl _) (aV ha')
   ·exact Nat.dvd_trans (nH ne ha' hb') (Nat.dvd_mul_left _ _)
theorem nI {α:Type} {f:α->Nat}:∀ {l:List α},(∀ a∈l,0<f a)->0<prN f l
 | [],_=>Nat.one_pos
 | a :: l,h=>Jt (h a D4) (nI fun b hb=>h b (DW _ hb))
theorem uk {α:Type} {f:α->Nat} {b:Nat}:∀ {l:List α},(∀ a∈l,f a<=2 ^ b)->prN f l<=2 ^ (b * l.length)
 | [],_=>by show 1<=2 ^ (b * 0);rw [Jf];decide
 | a :: l,h=>by
  have h1:=h a D4;have h2:=uk (l:=l) fun x hx=>h x (DW _ hx);show f a * prN f l<=2 ^ (b * (l.length+1));rw [Nat.mul_add,Jq,Nat.add_comm,IS];exact Fh h1 h2
theorem B3 {M d:Nat} {t:Int} (h0:0<d) (h:d ∣ M):Com M (ED t (d:Int)):=by
 obtain⟨e,rfl⟩:=h;refine⟨t * (e:Int),?_⟩;have hd:((d:Int):Rat)≠0:=ae (by omega);rw [EW,GN];have e1:((d * e:Nat):Rat)=((d:Int):Rat) * ((e:Int):Rat):=by rw [<-GN];rfl
 rw [e1];grind
section
variable {Ju:List (List Int)} {wd:Nat} {cut:Int} {c:Pt}
noncomputable def M1 (Ju:List (List Int)) (wd:Nat) (cut:Int):Nat:=prN (fun g=>(shQ Ju cut g).den) (bw Ju wd cut)
theorem vc {g:Gt} (o:opG Ju wd cut g=true):g∈bw Ju wd cut:=by
 rw [dq,ET];refine⟨?_,o⟩;obtain⟨x,y,w⟩:=g;have hw:=BV o;have hi:zW Ju wd x y=true:=by
  have o':yI Ju wd cut x y w=true:=o;unfold yI aM at o';rw [Eb,Eb,Eb] at o';exact o'.1.2.1
 obtain⟨x0,x1,y0,y1⟩:=jx hi;obtain⟨a,rfl⟩:=Im x0;obtain⟨b,rfl⟩:=Im y0;refine Ge.mpr ⟨a,Eu.mpr (by omega),Ge.mpr ⟨b,Eu.mpr (by omega),?_⟩⟩;rcases hw with h | h
 ·have h:w=0:=h;subst h;exact D4 ..
 ·have h:w=1:=h;subst h;exact DW _ (D4 ..)
theorem Ak (gd:Good wd Ju):0<M1 Ju wd cut/\M1 Ju wd cut<2 ^ 3200:=by
 have op:∀ g∈bw Ju wd cut,opG Ju wd cut g=true:=fun g hg=>by
  rw [dq,ET] at hg;exact hg.2
 refine⟨nI fun g hg=>(nA gd (op g hg)).2.2,FJ (uk (b:=32) fun g hg=>Er (nA gd (op g hg)).2.1 (by decide)) ?_⟩;have:=oY (cut:=cut) gd;exact Gq (by decide) (by omega)
noncomputable def oG (Ju:List (List Int)) (wd:Nat) (cut:Int) (c:Pt) (i:Fin 8):Option Gt :=
 let od:=fun k:Fin 4=>if opG Ju wd cut (gkF c k)=true then some (gkF c k) else none
 match i with
 | 1=>od 0 | 3=>od 1 | 5=>od 2 | 7=>od 3 | _=>none
noncomputable def dnF (Ju:List (List Int)) (cut:Int):Option Gt->Nat
 | none=>1
 | some g=>(shQ Ju cut g).den
theorem gC (i:Fin 8):(ptF Ju wd cut c i).2.2=(dnF Ju cut (oG Ju wd cut c i):Int):=by
 have od:∀ k:Fin 4,(if opG Ju wd cut (gkF c k)=true then plT Ju cut (gkF c k) else dfF c k).2.2=(dnF Ju cut (if opG Ju wd cut (gkF c k)=true then some (gkF c k) else none):Int):=fun k=>by
  by_cases h:opG Ju wd cut (gkF c k)=true
  ·rw [Jy h,Jy h];unfold plT;split <;> rfl
  ·rw [Jx h,Jx h]
   match k with
   | 0=>rfl | 1=>rfl | 2=>rfl | 3=>rfl
 match i with
 | 0=>rfl | 2=>rfl | 4=>rfl | 6=>rfl
 | 1=>exact od 0 | 3=>exact od 1 | 5=>exact od 2 | 7=>exact od 3
theorem nJ {i:Fin 8} {g:Gt} (h:oG Ju wd cut c i=some g):opG Ju wd cut g=true/\∃ k,g=gkF c k/\i=odF k:=by
 have od:∀ k:Fin 4,(if opG Ju wd cut (gkF c k)=true then some (gkF c k) else none)=some g->opG Ju wd cut g=true/\g=gkF c k:=fun k h=>by
  by_cases z:opG Ju wd cut (gkF c k)=true
  ·rw [Jy z] at h;cases h;exact⟨z,rfl⟩
  ·rw [Jx z] at h;cases h
 match i,h with
 | 1,h=>exact⟨(od 0 h).1,0,(od 0 h).2,rfl⟩
 | 3,h=>exact⟨(od 1 h).1,1,(od 1 h).2,rfl⟩
 | 5,h=>exact⟨(od 2 h).1,2,(od 2 h).2,rfl⟩
 | 7,h=>exact⟨(od 3 h).1,3,(od 3 h).2,rfl⟩
 | 0,h=>cases h
 | 2,h=>cases h
 | 4,h=>cases h
 | 6,h=>cases h
theorem B4 {i j:Fin 4} (h:gkF c i=gkF c j):i=j:=by
 have h1:(gkF c i).1=(gkF c j).1:=by rw [h]
 have h2:(gkF c i).2.1=(gkF c j).2.1:=by rw [h]
 have h3:(gkF c i).2.2=(gkF c j).2.2:=by rw [h]
 revert h1 h2 h3
 clear h
 match i,j with
 | 0,0=>intros;rfl
 | 0,1=>intro _ _ h;simp [gkF] at h
 | 0,2=>intro _ h _;simp [gkF] at h;omega
 | 0,3=>intro _ _ h;simp [gkF] at h
 | 1,0=>intro _ _ h;simp [gkF] at h
 | 1,1=>intros;rfl
 | 1,2=>intro _ _ h;simp [gkF] at h
 | 1,3=>intro h _ _;simp [gkF] at h;omega
 | 2,0=>intro _ h _;simp [gkF] at h;omega
 | 2,1=>intro _ _ h;simp [gkF] at h
 | 2,2=>intros;rfl
 | 2,3=>intro _ _ h;simp [gkF] at h
 | 3,0=>intro _ _ h;simp [gkF] at h
 | 3,1=>intro h _ _;simp [gkF] at h;omega
 | 3,2=>intro _ _ h;simp [gkF] at h
 | 3,3=>intros;rfl
theorem xo {i j:Fin 8} (ne:i≠j):dnF Ju cut (oG Ju wd cut c i) * dnF Ju cut (oG Ju wd cut c j) ∣ M1 Ju wd cut:=by
 cases hi:oG Ju wd cut c i with
 | none =>
  cases hj:oG Ju wd cut c j with
  | none=>exact Nat.one_dvd _
  | some b=>rw [show dnF Ju cut none=1 from rfl,Jn];exact aV (vc (nJ hj).1)
 | some a =>
  cases hj:oG Ju wd cut c j with
  | none=>rw [show dnF Ju cut none=1 from rfl,Jq];exact aV (vc (nJ hi).1)
  | some b =>
   obtain⟨o1,k1,e1,f1⟩:=nJ hi;obtain⟨o2,k2,e2,f2⟩:=nJ hj;refine nH (fun z=>ne ?_) (vc o1) (vc o2);rw [e1,e2] at z;rw [f1,f2,B4 z]
theorem um:∀ (a b d e m:Bool),∀ s∈PL (a,b,d,e) m,qf (a,b,d,e) s≠[]/\(qf (a,b,d,e) s).length<=8/\∀ p∈(qf (a,b,d,e) s).zip ((qf (a,b,d,e) s).drop 1++(qf (a,b,d,e) s).take 1),p.1≠p.2:=by decide
theorem nK (gd:Good wd Ju) (hc:ya Ju wd c=true) {s:Fl} (hs:s∈PL (hF Ju cut c) (mF Ju cut c)):∀ p∈prs (ouL Ju wd cut c s),Com (M1 Ju wd cut) (ED p.1 p.2):=by
 intro p hp;unfold prs nxL ouL at hp;rw [<-Hu,<- Ht,<- Ey,List.zip_map,EA] at hp;obtain⟨⟨i,j⟩,hij,rfl⟩:=Ei.mp hp;have ne:i≠j:=(um _ _ _ _ _ s hs).2.2 (i,j) hij;show Com _ (ED _ ((ptF Ju wd cut c i).2.2 * (ptF Ju wd cut c j).2.2));rw [gC,gC,<- ID];refine B3 (Jt ?_ ?_) (xo ne)
 ·have:=(ka (cut:=cut) gd hc i).2.2.1;rw [gC] at this;omega
 ·have:=(ka (cut:=cut) gd hc j).2.2.1;rw [gC] at this;omega
theorem gD (gd:Good wd Ju) (hc:ya Ju wd c=true) {s:Fl} (hs:s∈PL (hF Ju cut c) (mF Ju cut c)):vh (ouL Ju wd cut c s)=arS Ju wd cut c s / 2/\Com (2 * M1 Ju wd cut) (vh (ouL Ju wd cut c s)):=by
 have pos:=(kc (cut:=cut) gd hc).2 s hs;have e:=xm (ps:=ouL Ju wd cut c s) pos;refine⟨e,?_⟩;obtain⟨N,hN⟩:=gB _ (nK (cut:=cut) gd hc hs);refine⟨N,?_⟩;rw [e,<- hN];show zX (prs (ouL Ju wd cut c s)) / 2 * _=_;have:((2 * M1 Ju wd cut:Nat):Rat)=2 * ((M1 Ju wd cut:Nat):Rat):=Rat.natCast_mul ..;rw [this];grind
end
noncomputable def wL (Ju:List (List Int)) (cut:Int) (cs:List Pt):List (Pt×Fl):=cs.flatMap fun c=>(PL (hF Ju cut c) (mF Ju cut c)).map fun s=>(c,s)
noncomputable def hdF (q:Pt×Fl):Pt:=(pcL q.1 q.2).headD (0,0)
noncomputable def ixF (rs:List (Bool×List Pt)) (p:Pt):Nat:=rs.findIdx fun r=>decide (p∈r.2)
noncomputable def aD (Ju:List (List Int)) (wd:Nat) (cut:Int) (q:Pt×Fl):PyData:=jy (vh (ouL Ju wd cut q.1 q.2))
noncomputable def inJ (rs:List (Bool×List Pt)) (j:Nat) (q:Pt×Fl):Bool:=decide (ixF rs (hdF q)=j)
noncomputable def dv (rs:List (Bool×List Pt)) (Ju:List (List Int)) (wd:Nat) (cut:Int) (l:List (Pt×Fl)):List (List PyData):=(Ef rs.length).map fun j=>(l.filter (inJ rs j)).map (aD Ju wd cut)
theorem gE {rs:List (Bool×List Pt)} {Ju:List (List Int)} {wd:Nat} {cut:Int} {l:List (Pt×Fl)} {j:Nat} (h:j<rs.length):(dv rs Ju wd cut l)[j]?=some ((l.filter (inJ rs j)).map (aD Ju wd cut)):=by
 unfold dv;rw [D7,E9 h];rfl
theorem uo {rs:List (Bool×List Pt)} {Ju:List (List Int)} {wd:Nat} {cut:Int} {l:List (Pt×Fl)} {q:Pt×Fl}:(dv rs Ju wd cut l).set (ixF rs (hdF q)) ((l.filter (inJ rs (ixF rs (hdF q)))).map (aD Ju wd cut)++[aD Ju wd cut q])=dv rs Ju wd cut (l++[q]):=by
 have ln:∀ l,(dv rs Ju wd cut l).length=rs.length:=fun l=>by unfold dv;rw [DS,EF]
 refine FQ fun j=>?_;by_cases hj:j<rs.length
 ·rw [gE hj,HS,Ey];by_cases e:ixF rs (hdF q)=j
  ·subst e;rw [E4 (by rw [ln];exact hj)];have:inJ rs (ixF rs (hdF q)) q=true:=decide_eq_true rfl;rw [Gd,this,Jy rfl];rfl
  ·rw [Fe e,gE hj];have:inJ rs j q=false:=decide_eq_false e;rw [Gd,this,Jx DX];simp
 ·rw [Ex (by rw [FH,ln];omega),Ex (by rw [ln];omega)]
theorem xp {rs:List (Bool×List Pt)} {Ju:List (List Int)} {wd:Nat} {cut:Int} {r0:List (List Int)} (h:r0.length=rs.length):(r0.map fun _=>([]:List PyData))=dv rs Ju wd cut []:=by
 refine FQ fun j=>?_;by_cases hj:j<rs.length
 ·rw [gE hj,D7,DQ (by omega)];rfl
 ·rw [Ex (by rw [DS];omega),Ex (by unfold dv;rw [DS,EF];omega)]
theorem uq:∀ (a b d e m:Bool),∀ s∈PL (a,b,d,e) m,anyF s=true:=by decide
theorem ur:∀ (a b d e m:Bool),(PL (a,b,d,e) m).length<=3:=by decide
theorem Dw {c:Pt} {s:Fl} (h:anyF s=true):∃ l,pcL c s=hdF (c,s) :: l/\hdF (c,s)∈cnL c:=by
 obtain⟨a,b,d,e⟩:=s;cases a <;> cases b <;> cases d <;> cases e <;> first | (exact absurd h (by decide)) | exact⟨_,rfl,by simp [hdF,pcL,cnL]⟩
noncomputable def csL (Ju:List (List Int)) (wd:Nat):List Pt:=jL (Ju.length - 1) (wd - 1)
theorem gF {Ju:List (List Int)} {wd:Nat} {c:Pt} (h:c∈csL Ju wd):ya Ju wd c=true:=by
 obtain⟨x,hx,h⟩:=Ge.mp h;obtain⟨y,hy,rfl⟩:=Ei.mp h;have hx:=Eu.mp hx;have hy:=Eu.mp hy;show yf Ju wd (x:Int) (y:Int)=true;unfold yf zW;rw [decide_eq_true (by omega),decide_eq_true (by omega),decide_eq_true (by omega),decide_eq_true (by omega)];rfl
theorem nL {Ju:List (List Int)} {wd:Nat} {cut:Int} {rs:List (Bool×List Pt)} (R:Regs Ju wd cut rs) {p:Pt} (hp:inP Ju wd p=true):∃ r,rs[ixF rs p]?=some r/\p∈r.2:=by
 obtain⟨r,hr,hm⟩:=R.all p hp;have lt:ixF rs p<rs.length:=List.findIdx_lt_length_of_exists ⟨r,hr,decide_eq_true hm⟩;exact⟨rs[ixF rs p],DQ lt,of_decide_eq_true (List.findIdx_getElem (w:=lt))⟩
theorem lP {Ju:List (List Int)} {cut:Int}:∀ cs:List Pt,(wL Ju cut cs).length<=3 * cs.length
 | []=>EI _
 | c :: cs=>by
  have:=lP (Ju:=Ju) (cut:=cut) cs;have h3:(PL (hF Ju cut c) (mF Ju cut c)).length<=3:=ur _ _ _ _ _;unfold wL at *;rw [Gp,Eh,DS,Ep];omega
theorem B5 {Ju:List (List Int)} {wd:Nat} (g:Good wd Ju):(csL Ju wd).length<=36:=by
 unfold csL;rw [aQ];have h2:=g.h2;have w2:=g.w2;exact Fh (show Ju.length - 1<=6 by omega) (show wd - 1<=6 by omega)
noncomputable def qsF (rs:List (Bool×List Pt)) (Ju:List (List Int)) (wd:Nat) (cut:Int) (j:Nat):List Fr2:=((wL Ju cut (csL Ju wd)).filter (inJ rs j)).map fun q=>((vh (ouL Ju wd cut q.1 q.2)).num,((vh (ouL Ju wd cut q.1 q.2)).den:Int))
theorem uu {Ju:List (List Int)} {cut:Int} {cs:List Pt} {q:Pt×Fl} (h:q∈wL Ju cut cs):q.1∈cs/\q.2∈PL (hF Ju cut q.1) (mF Ju cut q.1):=by
 obtain⟨c,hc,h⟩:=Ge.mp h;obtain⟨s,hs,rfl⟩:=Ei.mp h;exact⟨hc,hs⟩
theorem xr {n:Nat} {l:List Rat} (h:∀ q∈l,0<q):∀ a:Rat,(∀ q∈l,q<=l.foldl (·+·) a - a)/\a<=l.foldl (·+·) a:=by
 induction l with
 | nil=>exact fun a=>⟨fun q hq=>(nomatch hq),by grind⟩
 | cons x l ih =>
  intro a;have hx:=h x D4;obtain⟨h1,h2⟩:=ih (fun q hq=>h q (DW _ hq)) (a+x);refine⟨fun q hq=>?_,?_⟩
  ·rcases D5.mp hq with rfl | hq
   ·show q<=l.foldl (·+·) (a+q) - a;grind
   ·have:=h1 q hq;show q<=l.foldl (·+·) (a+x) - a;grind
  ·show a<=l.foldl (·+·) (a+x);grind
theorem xt {Ju:List (List Int)} {wd:Nat} {cut:Int} {c:Pt} (gd:Good wd Ju) (hc:ya Ju wd c=true) {s:Fl} (hs:s∈PL (hF Ju cut c) (mF Ju cut c)):0<vh (ouL Ju wd cut c s)/\vh (ouL Ju wd cut c s)<=1:=by
 obtain⟨two,pos⟩:=kc (cut:=cut) gd hc;have e:=(gD (cut:=cut) gd hc hs).1;have p:=pos s hs;have le:=(xr (n:=0) (l:=(PL (hF Ju cut c) (mF Ju cut c)).map (arS Ju wd cut c)) (fun q hq=>by obtain⟨t,ht,rfl⟩:=Ei.mp hq;exact pos t ht) 0).1 _ (Ei.mpr ⟨s,hs,rfl⟩);rw [two] at le;rw [e];constructor <;> grind
theorem B6 {q:Rat} (h0:0<q) (h1:q<=1):q.num.natAbs<=q.den:=by
 have e:=(Iy _ _).mp h1;have n0:0<=q.num:=Rat.num_nonneg.mpr (by grind);have e':q.num * ((1:Nat):Int)<=1 * (q.den:Int):=e;omega
abbrev gG (K:DT):Sp:=spN K 2 xc fun c es=>∃ rs,Regs c.1 c.2.1 c.2.2 rs/\rs.length<=49/\es=(Ef rs.length).map fun j=>jy (zX (qsF rs c.1 c.2.1 c.2.2 j))
theorem uv (F:Def K mg "region_areas" ju pq) (uaf:FnIn P w K mg base k "ask_table" pf (eU K)) (ua9:FnIn P w K mg base k "indexes" pq (eW w K)) (uav:FnIn P w K mg base k "regions" pq (gy K)) (uba:FnIn P w K mg base k "cells" pf (nG K)) (ubb:FnIn P w K mg base k "pieces" pj (i9 K)) (ubc:FnIn P w K mg base k "outline" pQ (ui K)) (ubd:FnIn P w K mg base k "field_area" ["around"] (nC K)) (uaF:FnIn P w K mg base k "total" pE (gz K)):FnIn P w K mg base (k+1) "region_areas" pq (gG K):=by
 refine F.okN yP rfl fun fa cdv A outer s H E hr=>⟨_,(zc (jb (ze uaf hr rfl (za (pv 0) zb))) (zc (zS (i:=2) yP.nd rfl (Or.inl rfl) (ze ua9 hr rfl (za (pv 0) (za (pv 1) zb)))) (zc (jh (i:=3) (N:=["region"]) (own:=1) (fr:=[]) (by walk_at "c") rfl yP.nd rfl (Or.inl rfl) (zU (K:=K) rfl (ze uav hr rfl (za (pv 0) (za (pv 1) zb)))) (fun _ _ _ _=>(zd (i:=0) (show (["region"]:List Str).Nodup by decide +kernel) rfl (Or.inl rfl) (Or.inr rfl))) (fun _ _ _ _=>yb) (fun _ _ _ _=>(yQ zb)) rfl rfl (fun _=>rfl) (Or.inl rfl) rfl) (zc (jz ER rfl (zU (K:=K) rfl (ze uba hr rfl (za (pv 0) zb))) (zd (i:=4) yP.nd rfl (Or.inl rfl) (Or.inr rfl)) (zl (jz ER rfl (zU (K:=K) rfl (ze ubb hr rfl (za (pv 0) (za (pv 1) (za (pv 4) zb))))) (zd (i:=5) yP.nd rfl (Or.inl rfl) (Or.inr rfl)) (zl (jb (gX Fy FK FL qB (yw (zQ (K:=K) rfl) (pv 3) (yw (wx (w:=w) (K:=K) rfl rfl hr.units) (pv 2) (yw (zQ (K:=K) rfl) (pv 5) zh (fun _ _=>rfl)) (fun _ _=>rfl)) (fun _ _=>rfl)) (za (ze ubd hr rfl (za (ze ubc hr rfl (za (pv 0) (za (pv 1) (za (pv 4) (za (pv 5) zb))))) zb)) zb))))))) (zl (zG (zY (N:=pE) (own:=1) (fr:=[]) (by walk_at "c") rfl (zU (K:=K) rfl (pv 3)) (fun _ _ _ _=>(zd (i:=0) (show (pE:List Str).Nodup by decide +kernel) rfl (Or.inl rfl) (Or.inr rfl))) (fun _ _ _ _=>yb) (fun _ _ _ _=>(ze uaF hr rfl (za (pv 0) zb))) rfl rfl (fun _=>rfl)))))))),?_⟩;rintro f xs ⟨Ju,wd,cut⟩ hl ⟨rfl,g⟩
 try dsimp only [yu,zp]
 dsimp only at *;refine sv (vj (zr (Ju,wd) (qz rfl ⟨rfl,⟨rfl,g⟩,?_⟩)));rintro _ rfl;refine sv (fU (fT (Ju,wd,cut) (bR rfl rfl ⟨rfl,⟨rfl,g⟩,?_⟩)));rintro _ ⟨rs,kvs,rfl,R,rl,tl⟩;dsimp only at R;have cl:=B5 g;have few:∀ (cs:List Pt) (j:Nat),cs.length<=36->((wL Ju cut cs).filter (inJ rs j)).length<=108:=fun cs j h=>by
  have:=lP (Ju:=Ju) (cut:=cut) cs;exact Er (Fb _ _) (by omega)
 refine Bx (A0 (PEdO.ped (bc (Ju,wd,cut) (bR rfl rfl ⟨rfl,⟨rfl,g⟩,?_⟩))));rintro _ ⟨us,rfl,U,ul⟩;dsimp only at U;obtain rfl:=dt R U;refine⟨_,rfl,by rw [DS];omega,fun _ ns=>ns=[],fun D i d hd=>Cr (ye ⟨_,rfl,by show 0<=1000;decide,[],rfl,rfl⟩),fun rows0 hl0 hr0=>⟨fun r hr=>?_,show 3<6 by decide,fun a as=>?_⟩⟩
 ·obtain⟨i,hi⟩:=FO hr;exact hr0 i r hi
 rw [DS] at hl0;rw [xp (Ju:=Ju) (wd:=wd) (cut:=cut) hl0];refine Ae (yF (zr (Ju,wd) (qz rfl ⟨rfl,⟨rfl,g⟩,?_⟩)));rintro _ rfl;dsimp only;rw [nr];refine⟨_,rfl,fun n ρ rows'=>(∃ u v,ρ=[some (.dat (tab Ju)),some (.dat (.int cut)),some (.mon (k8 w K kvs)),some (.own f.M.length),u,v])/\rows'=dv rs Ju wd cut (wL Ju cut ((csL Ju wd).take n)),⟨⟨_,_,rfl⟩,rfl⟩,?_,?_⟩
 ·rintro n d _ _ hd ⟨⟨u,v,rfl⟩,rfl⟩;rw [D7] at hd;cases hq:(csL Ju wd)[n]? with
  | none=>rw [show (jL (Ju.length - 1) (wd - 1))[n]?=none from hq] at hd;cases hd
  | some c =>
   rw [show (jL (Ju.length - 1) (wd - 1))[n]?=some c from hq] at hd;cases hd;have hc:=gF (D9 hq);have tk:(csL Ju wd).take (n+1)=(csL Ju wd).take n++[c]:=by rw [EZ,hq];rfl
   have tl36:((csL Ju wd).take n).length<=36:=by rw [EL];omega
   refine zi (Ae (yF (zr (Ju,wd,cut,c) (dM rfl rfl rfl ⟨rfl,⟨rfl,g,hc⟩,?_⟩))));rintro _ rfl;refine⟨_,rfl,fun m ρ rows'=>(∃ v,ρ=[some (.dat (tab Ju)),some (.dat (.int cut)),some (.mon (k8 w K kvs)),some (.own f.M.length),some (.dat (pD c)),v])/\rows'=dv rs Ju wd cut (wL Ju cut ((csL Ju wd).take n)++((PL (hF Ju cut c) (mF Ju cut c)).take m).map fun s=>(c,s)),⟨⟨_,rfl⟩,by rw [Hn,IY,EO]⟩,?_,?_⟩
   ·rintro m d _ _ hd ⟨⟨v,rfl⟩,rfl⟩;rw [D7] at hd;cases hs':(PL (hF Ju cut c) (mF Ju cut c))[m]? with
    | none=>dsimp only at hd;rw [hs'] at hd;cases hd
    | some s =>
     dsimp only at hd;rw [hs'] at hd;cases hd;have hs:=D9 hs';obtain⟨tne,tlen,_⟩:=um _ _ _ _ _ s hs;obtain⟨ps,e1,hm⟩:=Dw (c:=c) (uq _ _ _ _ _ s hs);obtain⟨r,hr1,hr2⟩:=nL R (nF hc hm);have tk2:(PL (hF Ju cut c) (mF Ju cut c)).take (m+1)=(PL (hF Ju cut c) (mF Ju cut c)).take m++[s]:=by rw [EZ,hs'];rfl
     obtain⟨m0,m1⟩:=Ak (cut:=cut) g;have lt:=(DU.mp hr1).1;refine zi (C0 rfl (CS (v_var rfl ⟨kvs,rfl,cJ (zk rfl ⟨_,rfl,yU ⟨_,rfl,_,?_,v9 (hdF (c,s)),_,tl _ r _ hr1 hr2,ixF rs (hdF (c,s)),rfl,_,gE lt,?_,?_⟩⟩)⟩)))
     ·rw [e1];exact jX (F:=pD) (xs:=hdF (c,s) :: ps) (j:=0) rfl (HG _)
     ·rw [DS];refine FJ (Er (Fb _ _) ?_) (show 200<1000 by decide);have h1:=lP (Ju:=Ju) (cut:=cut) ((csL Ju wd).take n);have h2:(PL (hF Ju cut c) (mF Ju cut c)).length<=3:=ur _ _ _ _ _;rw [Eh,DS,EL];omega
     ·refine zr (ouL Ju wd cut c s,M1 Ju wd cut) (zz (zr (Ju,wd,cut,c,s) (DH rfl rfl rfl rfl ⟨rfl,⟨rfl,g,hc⟩,?_⟩)));rintro _ rfl;refine ye ⟨rfl,⟨rfl,fun p hp=>?_,fun z=>tne (List.map_eq_nil_iff.mp z),?_,m0,HH m1 (Gq (by decide) (by decide)),nK g hc hs⟩,?_⟩
      ·obtain⟨i,_,rfl⟩:=Ei.mp hp;exact ka g hc i
      ·unfold ouL;rw [DS];exact Er tlen (by decide)
      ·rintro _ rfl;refine⟨⟨_,rfl⟩,?_⟩;rw [tk2,Ey,<- Fs];exact uo (q:=(c,s))
   ·rintro ρ' rows' ⟨⟨v,rfl⟩,rfl⟩;refine⟨⟨_,_,rfl⟩,?_⟩;rw [DS,E6,tk];unfold wL;rw [FZ];simp
 ·rintro ρ' rows' ⟨⟨u,v,rfl⟩,rfl⟩;rw [DS,show (csL Ju wd).take (jL (Ju.length - 1) (wd - 1)).length=csL Ju wd from E6];refine⟨rfl,CI (j5 (A:=fun j=>.list (((wL Ju cut (csL Ju wd)).filter (inJ rs j)).map (aD Ju wd cut))) (B:=fun j=>jy (zX (qsF rs Ju wd cut j))) (Ef rs.length) (yF (zk rfl ⟨_,rfl,?_,by rw [EF];omega,?_,rs,R,rl,rfl⟩)))⟩
  ·unfold dv;rw [EA];rfl
  ·rintro D j ρ' es hj ho hes;obtain⟨u,rfl⟩:=ho.one;refine zi (jj ?_);rw [Jy rfl];obtain⟨m0,m1⟩:=Ak (cut:=cut) g;have m2:2 * M1 Ju wd cut<2 ^ 3201:=by
    rw [show 2 ^ 3201=2 ^ 3200 * 2 from Ja ..];generalize 2 ^ 3200=Z at *;omega
   clear m1;refine yv hes (zr (qsF rs Ju wd cut j,2 * M1 Ju wd cut,3300,0) (qz rfl ⟨rfl,⟨?_,Jt (by decide) m0,HH m2 (Gq (by decide) (by decide)),fun p hp=>?_,by show 3300<=3500;decide,?_⟩,?_⟩))
   ·unfold qsF;rw [EA];rfl
   ·obtain⟨q,hq,rfl⟩:=Ei.mp hp;obtain⟨h1,h2⟩:=uu (ET.mp hq).1;have hc:=gF h1;obtain⟨p0,p1⟩:=xt (cut:=cut) g hc h2;have cm:=(gD (cut:=cut) g hc h2).2;have dl:=cm.den (by omega);have nl:=B6 p0 p1;have dp:=(vh (ouL Ju wd cut q.1 q.2)).den_pos;have e33:2 ^ 3201<2 ^ 3300:=Gq (by decide) (by decide);generalize 2 ^ 3201=X at *;generalize 2 ^ 3300=Y at *;refine⟨by dsimp only;omega,by dsimp only;omega,by dsimp only;omega,?_⟩;rw [GK];exact cm
   ·show (qsF rs Ju wd cut j).length<=1000;unfold qsF;rw [DS];exact Er (few _ j cl) (by decide)
   ·rintro _ rfl;exact⟨.mk1,rfl⟩
noncomputable def sm:List Rat->Rat
 | []=>0
 | a :: l=>a+sm l
theorem nM:∀ (l:List Rat) (a:Rat),l.foldl (·+·) a=a+sm l
 | [],a=>by show a=a+0;grind
 | b :: l,a=>by
  show l.foldl (·+·) (a+b)=a+(b+sm l);rw [nM l (a+b)];grind
theorem xu (l:List Fr2):zX l=sm (l.map fun p=>ED p.1 p.2):=by
 unfold zX;rw [du,nM];grind
section
variable {Ju:List (List Int)} {wd:Nat} {cut:Int} {rs:List (Bool×List Pt)}
noncomputable def arQ (Ju:List (List Int)) (wd:Nat) (cut:Int) (q:Pt×Fl):Rat:=vh (ouL Ju wd cut q.1 q.2)
noncomputable def ArQ (rs:List (Bool×List Pt)) (Ju:List (List Int)) (wd:Nat) (cut:Int) (j:Nat):Rat:=zX (qsF rs Ju wd cut j)
theorem uw (j:Nat):ArQ rs Ju wd cut j=sm (((wL Ju cut (csL Ju wd)).filter (inJ rs j)).map (arQ Ju wd cut)):=by
 unfold ArQ;rw [xu];unfold qsF;rw [EA]
 congr 1
 refine Fp fun q _=>?_;exact GK _
noncomputable def ke (h:Fl) (m:Bool) (a b:Fin 4):Bool:=(decide (b=a+1 \/ a=b+1) && (flF h a == flF h b)) || (aU h && ((m == flF h a) && decide (b=a+2)))
theorem DM:∀ (p q r s m:Bool),∀ f∈PL (p,q,r,s) m,∀ a b:Fin 4,flF f a=true->flF f b=true->a=b \/ ke (p,q,r,s) m a b=true \/ ∃ d,ke (p,q,r,s) m a d=true/\ke (p,q,r,s) m d b=true:=by decide
theorem dw (c:Pt) (k:Fin 4):hiP Ju cut (cnF c k)=flF (hF Ju cut c) k:=by
 match k with
 | 0=>rfl | 1=>rfl | 2=>rfl | 3=>rfl
theorem ux (c:Pt) (k:Fin 4):cnF c k∈cnL c:=by
 match k with
 | 0=>simp [cnF,cnL] | 1=>simp [cnF,cnL] | 2=>simp [cnF,cnL] | 3=>simp [cnF,cnL]
theorem vw {c:Pt} (hc:ya Ju wd c=true) {a b:Fin 4} (h:ke (hF Ju cut c) (mF Ju cut c) a b=true):cnF c b∈ja Ju wd cut (cnF c a):=by
 unfold ke at h;rw [Bool.or_eq_true,Eb,Eb,Eb] at h;rcases h with⟨h1,h2⟩ | ⟨h1,h2,h3⟩
 ·refine mem_join.mpr (.inl ⟨?_,nF hc (ux c b),?_⟩)
  ·have h1:=of_decide_eq_true h1;obtain⟨x,y⟩:=c;rw [bz];clear h2 hc;rcases xl a with rfl | rfl | rfl | rfl <;> rcases xl b with rfl | rfl | rfl | rfl <;> first | exact absurd h1 (by decide) | simp [cnF]
  ·rw [dw,dw];exact (beq_iff_eq.mp h2).symm
 ·refine mem_join.mpr (.inr ⟨c,?_,hc,by rw [cw hc];exact h1,by rw [dw];exact beq_iff_eq.mp h2,?_⟩)
  ·rw [gw]
   match a with
   | 0=>simp [cnF] | 1=>simp [cnF] | 2=>simp [cnF] | 3=>simp [cnF]
  ·obtain rfl:=of_decide_eq_true h3;obtain⟨x,y⟩:=c
   match a with
   | 0=>simp [cnF,asl];omega
   | 1=>simp [cnF,asl];omega
   | 2=>simp [cnF,asl];omega
   | 3=>simp [cnF,asl];omega
theorem Al {c:Pt} {s:Fl} (h:anyF s=true):∃ k,hdF (c,s)=cnF c k/\flF s k=true:=by
 obtain⟨a,b,d,e⟩:=s;cases a
 ·cases b
  ·cases d
   ·cases e
    ·exact absurd h (by decide)
    ·exact⟨3,rfl,rfl⟩
   ·exact⟨2,rfl,rfl⟩
  ·exact⟨1,rfl,rfl⟩
 ·exact⟨0,rfl,rfl⟩
end
structure Mov (A:List (List Int)) (wa:Nat) (ca:Int) (B:List (List Int)) (wb:Nat) (cb:Int) (τ κ:Pt->Pt) (σ:Fin 4->Fin 4) (φ:Fl->Fl):Prop where
 ga:Good wa A
 gb:Good wb B
 inp:∀ p,inP B wb (τ p)=true↔inP A wa p=true
 hip:∀ p,inP A wa p=true->hiP B cb (τ p)=hiP A ca p
 inj:∀ p q,τ p=τ q->p=q
 sur:∀ q,∃ p,τ p=q
 nb:∀ p q,τ q∈nbL (τ p)↔q∈nbL p
 cel:∀ c,ya B wb (κ c)=true↔ya A wa c=true
 cinj:∀ c d,κ c=κ d->c=d
 csur:∀ d,∃ c,κ c=d
 cn:∀ c k,cnF (κ c) (σ k)=τ (cnF c k)
 sg:∀ k,∃ j,σ j=k
 sg2:∀ k,σ (k+2)=σ k+2
 cr:∀ h,aU (φ h)=aU h
 mid:∀ c,ya A wa c=true->mF B cb (κ c)=mF A ca c
 fl:∀ s k,flF (φ s) (σ k)=flF s k
 pl:∀ h m,(PL (φ h) m).Perm ((PL h m).map φ)
 ar:∀ c s,ya A wa c=true->s∈PL (hF A ca c) (mF A ca c)->arS B wb cb (κ c) (φ s)=arS A wa ca c s
theorem B7 {s t:Fl} (h:∀ k,flF s k=flF t k):s=t:=by
 have h0:=h 0;have h1:=h 1;have h2:=h 2;have h3:=h 3;obtain⟨a,b,c,d⟩:=s;obtain⟨a',b',c',d'⟩:=t;have h0:a=a':=h0;have h1:b=b':=h1;have h2:c=c':=h2;have h3:d=d':=h3;rw [h0,h1,h2,h3]
theorem Am {p c:Pt} (h:c∈caL p):∃ a:Fin 4,p=cnF c a/\asl p c=cnF c (a+2):=by
 obtain⟨x,y⟩:=c;obtain⟨u,v⟩:=p;obtain⟨hu,hv⟩:=gw.mp h;dsimp only at hu hv;unfold asl;dsimp only;rcases hu with rfl | rfl <;> rcases hv with rfl | rfl
 ·exact⟨0,rfl,Fo (show _=u+1 by omega) (show _=v+1 by omega)⟩
 ·exact⟨3,rfl,Fo (show _=u+1 by omega) (show _=y by omega)⟩
 ·exact⟨1,rfl,Fo (show _=x by omega) (show _=v+1 by omega)⟩
 ·exact⟨2,rfl,Fo (show _=x by omega) (show _=y by omega)⟩
theorem Dx {h:Fl} {m:Bool} {a:Fin 4}:ke h m a (a+2)=true↔aU h=true/\m=flF h a:=by
 have e:∀ a:Fin 4,decide (a+2=a+1 \/ a=a+2+1)=false/\decide (a+2=a+2)=true:=by decide
 unfold ke;rw [(e a).1,(e a).2,Gf,Bool.false_or,Hv,Eb,beq_iff_eq]
section
variable {A:List (List Int)} {wa:Nat} {ca:Int} {B:List (List Int)} {wb:Nat} {cb:Int} {τ κ:Pt->Pt} {σ:Fin 4->Fin 4} {φ:Fl->Fl}
theorem uy {c:Pt} (hc:ya A wa c=true) (k:Fin 4):inP A wa (cnF c k)=true:=nF hc (ux c k)
theorem Mov.hF (M:Mov A wa ca B wb cb τ κ σ φ) {c:Pt} (hc:ya A wa c=true):My.hF B cb (κ c)=φ (My.hF A ca c):=by
 refine B7 fun k=>?_;obtain⟨j,rfl⟩:=M.sg k;rw [<-dw,M.cn,M.hip _ (uy hc j),dw,M.fl]
theorem Mov.join (M:Mov A wa ca B wb cb τ κ σ φ) {p q:Pt} (ip:inP A wa p=true) (h:q∈ja A wa ca p):τ q∈ja B wb cb (τ p):=by
 rcases mem_join.mp h with⟨n,iq,hq⟩ | ⟨c,hc,cc,cr,mid,rfl⟩
 ·exact mem_join.mpr (.inl ⟨(M.nb _ _).mpr n,(M.inp q).mpr iq,by rw [M.hip q iq,M.hip p ip,hq]⟩)
 ·obtain⟨a,rfl,e⟩:=Am hc;rw [e];have s:ke (My.hF B cb (κ c)) (mF B cb (κ c)) (σ a) (σ a+2)=true:=by
   rw [Dx,M.hF cc,M.cr,M.mid c cc,M.fl,<- dw,<- cw cc];exact⟨cr,mid⟩
  have:=vw ((M.cel c).mpr cc) s;rw [<-M.sg2,M.cn,M.cn] at this;exact this
theorem Mov.back (M:Mov A wa ca B wb cb τ κ σ φ) {p q':Pt} (ip:inP A wa p=true) (h:q'∈ja B wb cb (τ p)):∃ q,τ q=q'/\q∈ja A wa ca p:=by
 rcases mem_join.mp h with⟨n,iq,hq⟩ | ⟨d,hd,dd,cr,mid,rfl⟩
 ·obtain⟨q,rfl⟩:=M.sur q';have iq:=(M.inp q).mp iq;exact⟨q,rfl,mem_join.mpr (.inl ⟨(M.nb _ _).mp n,iq,by rw [<-M.hip q iq,<- M.hip p ip,hq]⟩)⟩
 ·obtain⟨c,rfl⟩:=M.csur d;have cc:=(M.cel c).mp dd;obtain⟨a',e1,e2⟩:=Am hd;obtain⟨a,rfl⟩:=M.sg a';rw [M.cn] at e1;obtain rfl:=M.inj _ _ e1;rw [e2,<- M.sg2,M.cn];refine⟨_,rfl,vw cc (Dx.mpr ?_)⟩;rw [M.hip _ ip] at mid;have cr':jf B wb cb (κ c).1 (κ c).2=true:=cr;rw [cw dd,M.hF cc,M.cr] at cr';refine⟨cr',?_⟩;rw [<-M.mid c cc,<- dw];exact mid
theorem Mov.reach (M:Mov A wa ca B wb cb τ κ σ φ) {p q:Pt} (ip:inP A wa p=true) (h:Reach A wa ca p q):Reach B wb cb (τ p) (τ q):=by
 induction h with
 | refl=>exact .refl
 | step h1 hq ih=>exact ih.step (M.join (h1.ins ip).1 hq)
theorem Mov.reachB (M:Mov A wa ca B wb cb τ κ σ φ) {p q':Pt} (ip:inP A wa p=true) (h:Reach B wb cb (τ p) q'):∃ q,τ q=q'/\Reach A wa ca p q:=by
 induction h with
 | refl=>exact⟨p,rfl,.refl⟩
 | step h1 hq ih =>
  obtain⟨q,rfl,r⟩:=ih;obtain⟨q2,rfl,j⟩:=M.back (r.ins ip).1 hq;exact⟨q2,rfl,r.step j⟩
theorem gH {rs:List (Bool×List Pt)} (R:Regs A wa ca rs) {p q:Pt} (ip:inP A wa p=true) (iq:inP A wa q=true):ixF rs p=ixF rs q↔Reach A wa ca p q:=by
 constructor
 ·intro e;obtain⟨r,hr,hp⟩:=nL R ip;obtain⟨r',hr',hq⟩:=nL R iq;rw [e,hr'] at hr;cases hr;obtain⟨h0,X⟩:=R.reg r (D9 hr');exact (((X.mem p).mp hp).symm X.inn).trans ((X.mem q).mp hq)
 ·intro h;have key:∀ r∈rs,decide (p∈r.2)=decide (q∈r.2):=fun r hr=>by
   obtain⟨h0,X⟩:=R.reg r hr;refine decide_eq_decide.mpr ?_;rw [X.mem,X.mem];exact⟨fun z=>z.trans h,fun z=>z.trans (h.symm ip)⟩
  unfold ixF;clear R
  induction rs with
  | nil=>rfl
  | cons r rs ih =>
   rw [List.findIdx_cons,List.findIdx_cons,key r (D4 ..),ih fun s hs=>key s (DW _ hs)]
theorem Mov.ix (M:Mov A wa ca B wb cb τ κ σ φ) {rs rs':List (Bool×List Pt)} (R:Regs A wa ca rs) (R':Regs B wb cb rs') {p q:Pt} (ip:inP A wa p=true) (iq:inP A wa q=true):ixF rs' (τ p)=ixF rs' (τ q)↔ixF rs p=ixF rs q:=by
 rw [gH R ip iq,gH R' ((M.inp p).mpr ip) ((M.inp q).mpr iq)];refine⟨fun h=>?_,M.reach ip⟩;obtain⟨q2,e,r⟩:=M.reachB ip h;rw [M.inj _ _ e] at r;exact r
end
theorem xv {l m:List Rat} (h:l.Perm m):sm l=sm m:=by
 induction h with
 | nil=>rfl
 | cons a _ ih=>show a+sm _=a+sm _;rw [ih]
 | swap a b l=>show b+(a+sm l)=a+(b+sm l);grind
 | trans _ _ ih1 ih2=>exact ih1.trans ih2
theorem eY {α β:Type} {f g:α->List β}:∀ {l:List α},(∀ a∈l,(f a).Perm (g a))->(l.flatMap f).Perm (l.flatMap g)
 | [],_=>.refl _
 | a :: l,h=>by
  rw [Gp,Gp];exact (h a (D4 ..)).append (eY fun b hb=>h b (DW _ hb))
theorem uz (t n:Nat):(jL t n).Nodup:=by
 have:=nt t n;rw [Fq] at this;exact this.imp fun {a b} lt e=>by
  subst e;rw [j6 _ rfl] at lt;cases lt
theorem dy {Ju:List (List Int)} {wd:Nat} {c:Pt}:c∈csL Ju wd↔ya Ju wd c=true:=by
 refine⟨gF,fun cc=>?_⟩;obtain⟨i1,_,i3,_⟩:=cell_in (show yf Ju wd c.1 c.2=true from cc);obtain⟨a0,a1,a2,a3⟩:=jx i1;obtain⟨b0,b1,b2,b3⟩:=jx i3;unfold csL jL;rw [Ge];refine⟨c.1.toNat,Eu.mpr (by omega),Ei.mpr ⟨c.2.toNat,Eu.mpr (by omega),?_⟩⟩;exact Fo (show ((c.1.toNat:Nat):Int)=c.1 by omega) (show ((c.2.toNat:Nat):Int)=c.2 by omega)
theorem gI {α β:Type} {f:α->β} (inj:∀ a b,f a=f b->a=b):∀ {l:List α},l.Nodup->(l.map f).Nodup
 | [],_=>FC
 | a :: l,h=>by
  obtain⟨h1,h2⟩:=E5.mp h;rw [Ez];refine E5.mpr ⟨fun z=>?_,gI inj h2⟩;obtain⟨b,hb,e⟩:=Ei.mp z;exact h1 (inj _ _ e▸hb)
section
variable {A:List (List Int)} {wa:Nat} {ca:Int} {B:List (List Int)} {wb:Nat} {cb:Int} {τ κ:Pt->Pt} {σ:Fin 4->Fin 4} {φ:Fl->Fl}
theorem Mov.cs (M:Mov A wa ca B wb cb τ κ σ φ):(csL B wb).Perm ((csL A wa).map κ):=by
 refine (HN (uz _ _) (gI M.cinj (uz _ _))).mpr fun d=>?_;show d∈csL B wb↔d∈(csL A wa).map κ;rw [dy,Ei];constructor
 ·intro h;obtain⟨c,rfl⟩:=M.csur d;exact⟨c,dy.mpr ((M.cel c).mp h),rfl⟩
 ·rintro⟨c,hc,rfl⟩;exact (M.cel c).mpr (dy.mp hc)
theorem Mov.wL (M:Mov A wa ca B wb cb τ κ σ φ):(My.wL B cb (csL B wb)).Perm ((My.wL A ca (csL A wa)).map fun q=>(κ q.1,φ q.2)):=by
 unfold My.wL;refine (M.cs.flatMap_right _).trans ?_;rw [List.flatMap_map,List.map_flatMap];refine eY fun c hc=>?_;have cc:=dy.mp hc;rw [M.hF cc,M.mid c cc,EA];refine ((M.pl _ _).map _).trans ?_;rw [EA];exact .refl _
theorem kf {c:Pt} (hc:ya A wa c=true) {s:Fl} (hs:s∈PL (My.hF A ca c) (mF A ca c)) {a b:Fin 4} (ha:flF s a=true) (hb:flF s b=true):Reach A wa ca (cnF c a) (cnF c b):=by
 rcases DM _ _ _ _ _ s hs a b ha hb with rfl | h | ⟨d,h1,h2⟩
 ·exact .refl
 ·exact Reach.refl.step (vw hc h)
 ·exact (Reach.refl.step (vw hc h1)).step (vw hc h2)
theorem nN {h:Fl} {m:Bool} {s:Fl} (hs:s∈PL h m):anyF s=true:=by
 obtain⟨a,b,d,e⟩:=h;exact uq a b d e m s hs
theorem Mov.area (M:Mov A wa ca B wb cb τ κ σ φ) {rs rs':List (Bool×List Pt)} (R:Regs A wa ca rs) (R':Regs B wb cb rs') {p:Pt} (ip:inP A wa p=true):ArQ rs' B wb cb (ixF rs' (τ p))=ArQ rs A wa ca (ixF rs p):=by
 rw [uw,uw];refine (xv ((M.wL.filter _).map _)).trans ?_;rw [List.filter_map,EA];have e1:∀ q∈My.wL A ca (csL A wa),inJ rs' (ixF rs' (τ p)) (κ q.1,φ q.2)=inJ rs (ixF rs p) q/\arQ B wb cb (κ q.1,φ q.2)=arQ A wa ca q:=fun q hq=>by
  obtain⟨hc,hs⟩:=uu hq;have cc:=dy.mp hc;have cd:=(M.cel q.1).mpr cc;have hs':φ q.2∈PL (My.hF B cb (κ q.1)) (mF B cb (κ q.1)):=by
   rw [M.hF cc,M.mid _ cc];exact (M.pl _ _).mem_iff.mpr (List.mem_map_of_mem hs)
  constructor
  ·obtain⟨k,e1,f1⟩:=Al (c:=q.1) (nN hs);obtain⟨k',e2,f2⟩:=Al (c:=κ q.1) (nN hs');have f3:flF (φ q.2) (σ k)=true:=by rw [M.fl];exact f1
   have r:=kf cd hs' f2 f3;rw [M.cn] at r;unfold inJ;refine decide_eq_decide.mpr ?_;have ik:=uy (A:=A) cc k;have ik':=uy (A:=B) cd k';have e3:hdF (κ q.1,φ q.2)=cnF (κ q.1) k':=e2;have e4:hdF q=cnF q.1 k:=e1;rw [e3,e4,(gH R' ik' ((M.inp _).mpr ik)).mpr r];exact M.ix R R' ik ip
  ·unfold arQ;rw [(gD M.gb cd hs').1,(gD M.ga cc hs).1,M.ar q.1 q.2 cc hs]
 have e2:(My.wL A ca (csL A wa)).filter (inJ rs' (ixF rs' (τ p)) ∘ fun q=>(κ q.1,φ q.2))=(My.wL A ca (csL A wa)).filter (inJ rs (ixF rs p)):=List.filter_congr fun q hq=>(e1 q hq).1;rw [e2];refine congrArg sm (Fp fun q hq=>?_);exact (e1 q (ET.mp hq).1).2
end
noncomputable def yX (wd:Nat) (Ju:List (List Int)):List (List Int):=(Ef wd).map fun (y:Nat)=>(Ef Ju.length).map fun (x:Nat)=>zv Ju y (Ju.length - 1 - x:Nat)
noncomputable def qg (Ju:List (List Int)):List (List Int):=Ju.map List.reverse
noncomputable def yZ (by_:Int) (Ju:List (List Int)):List (List Int):=Ju.map fun r=>r.map (·+by_)
theorem qJ {Ju:List (List Int)} {x y:Int} {r:List Int} {n:Int} (hr:Ju[y.toNat]?=some r) (hn:r[x.toNat]?=some n):zv Ju x y=n:=by
 unfold zv;rw [show Ju.getD y.toNat []=r by rw [DZ,hr];rfl,DZ,hn];rfl
section
variable {Ju:List (List Int)} {wd:Nat} {cut:Int}
theorem dz:(yX wd Ju).length=wd:=by unfold yX;rw [DS,EF]
theorem bB (g:Good wd Ju):Good Ju.length (yX wd Ju):=by
 have hl:∀ r∈yX wd Ju,∃ y:Nat,y<wd/\r=(Ef Ju.length).map fun (x:Nat)=>zv Ju y (Ju.length - 1 - x:Nat):=fun r hr=>by
  obtain⟨y,hy,rfl⟩:=Ei.mp hr;exact⟨y,Eu.mp hy,rfl⟩
 refine⟨by rw [dz];exact g.w1,by rw [dz];exact g.w2,g.h1,g.h2,fun r hr=>?_,fun r hr n hn=>?_⟩
 ·obtain⟨y,hy,rfl⟩:=hl r hr;rw [DS,EF]
 ·obtain⟨y,hy,rfl⟩:=hl r hr;obtain⟨x,hx,rfl⟩:=Ei.mp hn;have hx:=Eu.mp hx;have hi:Ju.length - 1 - x<Ju.length:=by omega
  have hm:=Et hi;have hy':y<Ju[Ju.length - 1 - x].length:=by rw [g.row _ hm];exact hy
  have e:zv Ju y (Ju.length - 1 - x:Nat)=Ju[Ju.length - 1 - x][y]:=qJ (by rw [FF];exact DQ hi) (by rw [FF];exact DQ hy');rw [e];exact g.hgt _ hm _ (Et hy')
theorem dA {x y:Int}:zW (yX wd Ju) Ju.length ((Ju.length:Int) - 1 - y) x=zW Ju wd x y:=by
 unfold zW;rw [dz,Bool.and_comm]
 congr 1
 exact decide_eq_decide.mpr (by omega)
theorem qK {x y:Int} (h:zW Ju wd x y=true):zv (yX wd Ju) ((Ju.length:Int) - 1 - y) x=zv Ju x y:=by
 obtain⟨x0,x1,y0,y1⟩:=jx h;have e:zv Ju x y=zv Ju (x.toNat:Nat) (Ju.length - 1 - ((Ju.length:Int) - 1 - y).toNat:Nat):=by
  congr 1 <;> omega
 rw [e];refine qJ (r:=(Ef Ju.length).map fun (z:Nat)=>zv Ju x.toNat (Ju.length - 1 - z:Nat)) ?_ ?_
 ·unfold yX;rw [D7,E9 (by omega)];rfl
 ·rw [D7,E9 (by omega)];rfl
theorem xw {x y:Int} (h:zW Ju wd x y=true):hiB (yX wd Ju) cut ((Ju.length:Int) - 1 - y) x=hiB Ju cut x y:=by
 unfold hiB;rw [qK h]
theorem dB {x y:Int}:yf (yX wd Ju) Ju.length ((Ju.length:Int) - 2 - y) x=yf Ju wd x y:=by
 have a:=dA (Ju:=Ju) (wd:=wd) (x:=x) (y:=y+1);have b:=dA (Ju:=Ju) (wd:=wd) (x:=x+1) (y:=y);rw [show (Ju.length:Int) - 1 - (y+1)=Ju.length - 2 - y by omega] at a;rw [show (Ju.length:Int) - 1 - y=Ju.length - 2 - y+1 by omega] at b;unfold yf;rw [a,b];unfold zW;cases h1:decide (0<=x/\x<(wd:Int)) <;> cases h2:decide (0<=y+1/\y+1<(Ju.length:Int)) <;> cases h3:decide (0<=x+1/\x+1<(wd:Int)) <;> cases h4:decide (0<=y/\y<(Ju.length:Int)) <;> rfl
theorem gJ:(qg Ju).length=Ju.length:=DS _
theorem dC (g:Good wd Ju):Good wd (qg Ju):=by
 refine⟨by rw [gJ];exact g.h1,by rw [gJ];exact g.h2,g.w1,g.w2,fun r hr=>?_,fun r hr n hn=>?_⟩
 ·obtain⟨q,hq,rfl⟩:=Ei.mp hr;rw [HF];exact g.row q hq
 ·obtain⟨q,hq,rfl⟩:=Ei.mp hr;exact g.hgt q hq n (Gb.mp hn)
theorem gK {x y:Int}:zW (qg Ju) wd ((wd:Int) - 1 - x) y=zW Ju wd x y:=by
 unfold zW;rw [gJ]
 congr 1
 exact decide_eq_decide.mpr (by omega)
theorem vy (g:Good wd Ju) {x y:Int} (h:zW Ju wd x y=true):zv (qg Ju) ((wd:Int) - 1 - x) y=zv Ju x y:=by
 obtain⟨x0,x1,y0,y1⟩:=jx h;have hy:y.toNat<Ju.length:=by omega
 have hr:=g.row _ (Et hy);have hx:x.toNat<Ju[y.toNat].length:=by omega
 rw [qJ (Ju:=Ju) (x:=x) (y:=y) (DQ hy) (DQ hx)];refine qJ (r:=Ju[y.toNat].reverse) ?_ ?_
 ·unfold qg;rw [D7,DQ hy];rfl
 ·rw [List.getElem?_reverse (by omega),hr,show wd - 1 - ((wd:Int) - 1 - x).toNat=x.toNat by omega];exact DQ hx
theorem B8 (g:Good wd Ju) {x y:Int} (h:zW Ju wd x y=true):hiB (qg Ju) cut ((wd:Int) - 1 - x) y=hiB Ju cut x y:=by
 unfold hiB;rw [vy g h]
theorem eZ {x y:Int}:yf (qg Ju) wd ((wd:Int) - 2 - x) y=yf Ju wd x y:=by
 have a:=gK (Ju:=Ju) (wd:=wd) (x:=x+1) (y:=y);have b:=gK (Ju:=Ju) (wd:=wd) (x:=x) (y:=y+1);rw [show (wd:Int) - 1 - (x+1)=wd - 2 - x by omega] at a;rw [show (wd:Int) - 1 - x=wd - 2 - x+1 by omega] at b;unfold yf;rw [a,b];unfold zW;cases h1:decide (0<=x/\x<(wd:Int)) <;> cases h2:decide (0<=y+1/\y+1<(Ju.length:Int)) <;> cases h3:decide (0<=x+1/\x+1<(wd:Int)) <;> cases h4:decide (0<=y/\y<(Ju.length:Int)) <;> rfl
end
section
variable {Ju:List (List Int)} {wd:Nat} {cut by_:Int}
theorem gL:(yZ by_ Ju).length=Ju.length:=DS _
theorem aW {x y:Int}:zW (yZ by_ Ju) wd x y=zW Ju wd x y:=by
 unfold zW;rw [gL]
theorem yJ (g:Good wd Ju) {x y:Int} (h:zW Ju wd x y=true):zv (yZ by_ Ju) x y=zv Ju x y+by_:=by
 obtain⟨x0,x1,y0,y1⟩:=jx h;have hy:y.toNat<Ju.length:=by omega
 have hr:=g.row _ (Et hy);have hx:x.toNat<Ju[y.toNat].length:=by omega
 rw [qJ (Ju:=Ju) (x:=x) (y:=y) (DQ hy) (DQ hx)];refine qJ (r:=Ju[y.toNat].map (·+by_)) ?_ ?_
 ·unfold yZ;rw [D7,DQ hy];rfl
 ·rw [D7,DQ hx];rfl
theorem dD (g:Good wd Ju) {x y:Int} (h:zW Ju wd x y=true):hiB (yZ by_ Ju) (cut+by_) x y=hiB Ju cut x y:=by
 unfold hiB;rw [yJ g h];exact decide_eq_decide.mpr (by omega)
end
noncomputable def φT (s:Fl):Fl:=(s.2.2.2,s.1,s.2.1,s.2.2.1)
noncomputable def φM (s:Fl):Fl:=(s.2.1,s.1,s.2.2.2,s.2.2.1)
theorem Dy (h0 h1 h2 h3 m:Bool) (t0 t1 t2 t3 u0 u1 u2 u3:Rat) (c0:h0≠h1->u1=t0) (c1:h1≠h2->u2=1 - t1) (c2:h3≠h2->u3=t2) (c3:h0≠h3->u0=1 - t3) :
  ∀ s∈PL (h0,h1,h2,h3) m,shT (XX 0 u0 u2) (YY 0 u3 u1) (qf (φT (h0,h1,h2,h3)) (φT s))=shT (XX 0 t0 t2) (YY 0 t3 t1) (qf (h0,h1,h2,h3) s):=by
 cases h0 <;> cases h1 <;> cases h2 <;> cases h3 <;> cases m <;> simp [PL,aU,sgl,aT,anyF,qf,shT,XX,YY,φT,HI,Gr,Iw,Jg,Jr,Js] at * <;> grind
theorem DN (h0 h1 h2 h3 m:Bool) (t0 t1 t2 t3 u0 u1 u2 u3:Rat) (c0:h0≠h1->u0=1 - t0) (c1:h1≠h2->u3=t1) (c2:h3≠h2->u2=1 - t2) (c3:h0≠h3->u1=t3) :
  ∀ s∈PL (h0,h1,h2,h3) m,shT (XX 0 u0 u2) (YY 0 u3 u1) (qf (φM (h0,h1,h2,h3)) (φM s))=shT (XX 0 t0 t2) (YY 0 t3 t1) (qf (h0,h1,h2,h3) s):=by
 cases h0 <;> cases h1 <;> cases h2 <;> cases h3 <;> cases m <;> simp [PL,aU,sgl,aT,anyF,qf,shT,XX,YY,φM,HI,Gr,Iw,Jg,Jr,Js] at * <;> grind
theorem DO:∀ (a b c d m:Bool),(PL (φT (a,b,c,d)) m).isPerm ((PL (a,b,c,d) m).map φT)=true:=by decide
theorem DP:∀ (a b c d m:Bool),(PL (φM (a,b,c,d)) m).isPerm ((PL (a,b,c,d) m).map φM)=true:=by decide
theorem crT:∀ (a b c d:Bool),aU (φT (a,b,c,d))=aU (a,b,c,d):=by decide
theorem crM:∀ (a b c d:Bool),aU (φM (a,b,c,d))=aU (a,b,c,d):=by decide
theorem flT:∀ (a b c d:Bool) (k:_root_.Fin 4),flF (φT (a,b,c,d)) (k+1)=flF (a,b,c,d) k:=by decide
theorem flM:∀ (a b c d:Bool) (k:_root_.Fin 4),flF (φM (a,b,c,d)) (1 - k)=flF (a,b,c,d) k:=by decide
noncomputable def qR (a b cut:Int):Rat:=ED (2 * cut+1 - 2 * a) (2 * (b - a))
theorem xx (a b cut d:Int):qR (a+d) (b+d) (cut+d)=qR a b cut:=by
 unfold qR
 congr 1 <;> omega
theorem xy {a b cut:Int} (h:a≠b):qR b a cut=1 - qR a b cut:=by
 unfold qR;rw [EW,EW];have e1:(2 * cut+1 - 2 * b:Int)=(2 * cut+1 - 2 * a) - 2 * (b - a):=by omega
 have e2:(2 * (a - b):Int)=-(2 * (b - a)):=by omega
 have n0:((2 * (b - a):Int):Rat)≠0:=ae (by omega);rw [e1,e2,Rat.intCast_sub,Rat.intCast_neg];generalize ((2 * (b - a):Int):Rat)=y at *;generalize ((2 * cut+1 - 2 * a:Int):Rat)=x;grind
section
variable {Ju:List (List Int)} {wd:Nat} {cut:Int} {c:Pt}
theorem bC (gd:Good wd Ju) (hc:ya Ju wd c=true) (s:Fl):arS Ju wd cut c s=shT (XX 0 (tF Ju wd cut c 0) (tF Ju wd cut c 2)) (YY 0 (tF Ju wd cut c 3) (tF Ju wd cut c 1)) (qf (hF Ju cut c) s):=by
 rw [<-nE (c.1:Rat) (c.2:Rat)];unfold arS ouL;rw [uj (fun i=>by have:=(ka (cut:=cut) gd hc i).2.2.1;omega)]
 congr 1
 ·funext i;exact (xn i).1
 ·funext i;exact (xn i).2
theorem nO {a b:Int} (h:decide (cut<a)≠decide (cut<b)):a≠b:=fun e=>h (by rw [e])
theorem xA (hc:ya Ju wd c=true) (h:hiB Ju cut c.1 c.2≠hiB Ju cut (c.1+1) c.2):tF Ju wd cut c 0=qR (zv Ju c.1 c.2) (zv Ju (c.1+1) c.2) cut:=by
 unfold tF;rw [Jy (by rw [bN hc];exact bne_iff_ne.mpr h)];rfl
theorem xB (hc:ya Ju wd c=true) (h:hiB Ju cut (c.1+1) c.2≠hiB Ju cut (c.1+1) (c.2+1)):tF Ju wd cut c 1=qR (zv Ju (c.1+1) c.2) (zv Ju (c.1+1) (c.2+1)) cut:=by
 unfold tF;rw [Jy (by rw [bN hc];exact bne_iff_ne.mpr h)];rfl
theorem xC (hc:ya Ju wd c=true) (h:hiB Ju cut c.1 (c.2+1)≠hiB Ju cut (c.1+1) (c.2+1)):tF Ju wd cut c 2=qR (zv Ju c.1 (c.2+1)) (zv Ju (c.1+1) (c.2+1)) cut:=by
 unfold tF;rw [Jy (by rw [bN hc];exact bne_iff_ne.mpr (fun z=>h (Eq.symm z)))];rfl
theorem xD (hc:ya Ju wd c=true) (h:hiB Ju cut c.1 c.2≠hiB Ju cut c.1 (c.2+1)):tF Ju wd cut c 3=qR (zv Ju c.1 c.2) (zv Ju c.1 (c.2+1)) cut:=by
 unfold tF;rw [Jy (by rw [bN hc];exact bne_iff_ne.mpr (fun z=>h (Eq.symm z)))];rfl
end
noncomputable def τT (n:Nat) (p:Pt):Pt:=((n:Int) - 1 - p.2,p.1)
noncomputable def κT (n:Nat) (c:Pt):Pt:=((n:Int) - 2 - c.2,c.1)
noncomputable def τM (n:Nat) (p:Pt):Pt:=((n:Int) - 1 - p.1,p.2)
noncomputable def κM (n:Nat) (c:Pt):Pt:=((n:Int) - 2 - c.1,c.2)
section
variable {Ju:List (List Int)} {wd:Nat} {cut:Int}
theorem uA {c:Pt} (hc:ya Ju wd c=true):zv (yX wd Ju) ((κT Ju.length c).1+1) (κT Ju.length c).2=zv Ju c.1 c.2/\zv (yX wd Ju) ((κT Ju.length c).1+1) ((κT Ju.length c).2+1)=zv Ju (c.1+1) c.2 /\
  zv (yX wd Ju) (κT Ju.length c).1 ((κT Ju.length c).2+1)=zv Ju (c.1+1) (c.2+1)/\zv (yX wd Ju) (κT Ju.length c).1 (κT Ju.length c).2=zv Ju c.1 (c.2+1):=by
 obtain⟨i1,i2,i3,i4⟩:=cell_in (show yf Ju wd c.1 c.2=true from hc);have e:((κT Ju.length c).1+1)=(Ju.length:Int) - 1 - c.2:=by show (Ju.length:Int) - 2 - c.2+1=_;omega
 have e':(κT Ju.length c).1=(Ju.length:Int) - 1 - (c.2+1):=by show (Ju.length:Int) - 2 - c.2=_;omega
 rw [e,e'];exact⟨qK i1,qK i2,qK i3,qK i4⟩
theorem xE {c:Pt} (hc:ya Ju wd c=true):hF (yX wd Ju) cut (κT Ju.length c)=φT (hF Ju cut c):=by
 obtain⟨e0,e1,e2,e3⟩:=uA hc;unfold hF φT hiB;dsimp only;rw [e0,e1,e2,e3]
theorem uB (g:Good wd Ju):Mov Ju wd cut (yX wd Ju) Ju.length cut (τT Ju.length) (κT Ju.length) (fun k=>k+1) φT where
 ga:=g
 gb:=bB g
 inp:=fun p=>by
  show zW (yX wd Ju) Ju.length ((Ju.length:Int) - 1 - p.2) p.1=true↔zW Ju wd p.1 p.2=true;rw [dA]
 hip:=fun p ip=>xw ip
 inj:=fun p q e=>by
  have e1:(Ju.length:Int) - 1 - p.2=(Ju.length:Int) - 1 - q.2:=congrArg IK e;exact Fo (congrArg IZ e) (by omega)
 sur:=fun q=>⟨(q.2,(Ju.length:Int) - 1 - q.1),Fo (show (Ju.length:Int) - 1 - ((Ju.length:Int) - 1 - q.1)=q.1 by omega) rfl⟩
 nb:=fun p q=>by
  rw [bz,bz];obtain⟨a,b⟩:=p;obtain⟨u,v⟩:=q;unfold τT;simp only [Prod.mk.injEq];omega
 cel:=fun c=>by
  show yf (yX wd Ju) Ju.length ((Ju.length:Int) - 2 - c.2) c.1=true↔yf Ju wd c.1 c.2=true;rw [dB]
 cinj:=fun p q e=>by
  have e1:(Ju.length:Int) - 2 - p.2=(Ju.length:Int) - 2 - q.2:=congrArg IK e;exact Fo (congrArg IZ e) (by omega)
 csur:=fun q=>⟨(q.2,(Ju.length:Int) - 2 - q.1),Fo (show (Ju.length:Int) - 2 - ((Ju.length:Int) - 2 - q.1)=q.1 by omega) rfl⟩
 cn:=fun c k=>by
  match k with
  | 0=>exact Fo (show (Ju.length:Int) - 2 - c.2+1=(Ju.length:Int) - 1 - c.2 by omega) rfl
  | 1=>exact Fo (show (Ju.length:Int) - 2 - c.2+1=(Ju.length:Int) - 1 - c.2 by omega) rfl
  | 2=>exact Fo (show (Ju.length:Int) - 2 - c.2=(Ju.length:Int) - 1 - (c.2+1) by omega) rfl
  | 3=>exact Fo (show (Ju.length:Int) - 2 - c.2=(Ju.length:Int) - 1 - (c.2+1) by omega) rfl
 sg:=fun k=>⟨k - 1,by revert k;decide⟩
 sg2:=by decide
 cr:=fun h=>crT h.1 h.2.1 h.2.2.1 h.2.2.2
 mid:=fun c hc=>by
  obtain⟨e0,e1,e2,e3⟩:=uA hc;unfold mF dR eV;rw [e0,e1,e2,e3];exact decide_eq_decide.mpr (by omega)
 fl:=fun s k=>flT s.1 s.2.1 s.2.2.1 s.2.2.2 k
 pl:=fun h m=>List.isPerm_iff.mp (DO h.1 h.2.1 h.2.2.1 h.2.2.2 m)
 ar:=fun c s hc hs=>by
  have hc':ya (yX wd Ju) Ju.length (κT Ju.length c)=true:=by
   show yf (yX wd Ju) Ju.length ((Ju.length:Int) - 2 - c.2) c.1=true;rw [dB];exact hc
  obtain⟨e0,e1,e2,e3⟩:=uA hc;rw [bC (bB g) hc',bC g hc,xE hc];refine Dy _ _ _ _ _ _ _ _ _ _ _ _ _ (fun h=>?_) (fun h=>?_) (fun h=>?_) (fun h=>?_) s hs
  ·rw [xA hc h,xB hc' (by unfold hiB;rw [e0,e1];exact h),e0,e1]
  ·rw [xB hc h,xC hc' (by unfold hiB;rw [e1,e2];exact fun z=>h z.symm),e1,e2];exact xy (nO h)
  ·rw [xC hc h,xD hc' (by unfold hiB;rw [e2,e3];exact h),e2,e3]
  ·rw [xD hc h,xA hc' (by unfold hiB;rw [e0,e3];exact fun z=>h z.symm),e0,e3];exact xy (nO h)
end
section
variable {Ju:List (List Int)} {wd:Nat} {cut:Int}
theorem B9 (g:Good wd Ju) {c:Pt} (hc:ya Ju wd c=true):zv (qg Ju) ((κM wd c).1+1) (κM wd c).2=zv Ju c.1 c.2/\zv (qg Ju) (κM wd c).1 (κM wd c).2=zv Ju (c.1+1) c.2 /\
  zv (qg Ju) (κM wd c).1 ((κM wd c).2+1)=zv Ju (c.1+1) (c.2+1)/\zv (qg Ju) ((κM wd c).1+1) ((κM wd c).2+1)=zv Ju c.1 (c.2+1):=by
 obtain⟨i1,i2,i3,i4⟩:=cell_in (show yf Ju wd c.1 c.2=true from hc);have e:((κM wd c).1+1)=(wd:Int) - 1 - c.1:=by show (wd:Int) - 2 - c.1+1=_;omega
 have e':(κM wd c).1=(wd:Int) - 1 - (c.1+1):=by show (wd:Int) - 2 - c.1=_;omega
 rw [e,e'];exact⟨vy g i1,vy g i2,vy g i3,vy g i4⟩
theorem Ca (g:Good wd Ju) {c:Pt} (hc:ya Ju wd c=true):hF (qg Ju) cut (κM wd c)=φM (hF Ju cut c):=by
 obtain⟨e0,e1,e2,e3⟩:=B9 g hc;unfold hF φM hiB;dsimp only;rw [e0,e1,e2,e3]
theorem xF (g:Good wd Ju):Mov Ju wd cut (qg Ju) wd cut (τM wd) (κM wd) (fun k=>1 - k) φM where
 ga:=g
 gb:=dC g
 inp:=fun p=>by
  show zW (qg Ju) wd ((wd:Int) - 1 - p.1) p.2=true↔zW Ju wd p.1 p.2=true;rw [gK]
 hip:=fun p ip=>B8 g ip
 inj:=fun p q e=>by
  have e1:(wd:Int) - 1 - p.1=(wd:Int) - 1 - q.1:=congrArg IK e;have e2:(τM wd p).2=(τM wd q).2:=congrArg IZ e;exact Fo (by omega) e2
 sur:=fun q=>⟨((wd:Int) - 1 - q.1,q.2),Fo (show (wd:Int) - 1 - ((wd:Int) - 1 - q.1)=q.1 by omega) rfl⟩
 nb:=fun p q=>by
  rw [bz,bz];obtain⟨a,b⟩:=p;obtain⟨u,v⟩:=q;unfold τM;simp only [Prod.mk.injEq];omega
 cel:=fun c=>by
  show yf (qg Ju) wd ((wd:Int) - 2 - c.1) c.2=true↔yf Ju wd c.1 c.2=true;rw [eZ]
 cinj:=fun p q e=>by
  have e1:(wd:Int) - 2 - p.1=(wd:Int) - 2 - q.1:=congrArg IK e;have e2:(κM wd p).2=(κM wd q).2:=congrArg IZ e;exact Fo (by omega) e2
 csur:=fun q=>⟨((wd:Int) - 2 - q.1,q.2),Fo (show (wd:Int) - 2 - ((wd:Int) - 2 - q.1)=q.1 by omega) rfl⟩
 cn:=fun c k=>by
  match k with
  | 0=>exact Fo (show (wd:Int) - 2 - c.1+1=(wd:Int) - 1 - c.1 by omega) rfl
  | 1=>exact Fo (show (wd:Int) - 2 - c.1=(wd:Int) - 1 - (c.1+1) by omega) rfl
  | 2=>exact Fo (show (wd:Int) - 2 - c.1=(wd:Int) - 1 - (c.1+1) by omega) rfl
  | 3=>exact Fo (show (wd:Int) - 2 - c.1+1=(wd:Int) - 1 - c.1 by omega) rfl
 sg:=fun k=>⟨1 - k,by revert k;decide⟩
 sg2:=by decide
 cr:=fun h=>crM h.1 h.2.1 h.2.2.1 h.2.2.2
 mid:=fun c hc=>by
  obtain⟨e0,e1,e2,e3⟩:=B9 g hc;unfold mF dR eV;rw [e0,e1,e2,e3];exact decide_eq_decide.mpr (by omega)
 fl:=fun s k=>flM s.1 s.2.1 s.2.2.1 s.2.2.2 k
 pl:=fun h m=>List.isPerm_iff.mp (DP h.1 h.2.1 h.2.2.1 h.2.2.2 m)
 ar:=fun c s hc hs=>by
  have hc':ya (qg Ju) wd (κM wd c)=true:=by
   show yf (qg Ju) wd ((wd:Int) - 2 - c.1) c.2=true;rw [eZ];exact hc
  obtain⟨e0,e1,e2,e3⟩:=B9 g hc;rw [bC (dC g) hc',bC g hc,Ca g hc];refine DN _ _ _ _ _ _ _ _ _ _ _ _ _ (fun h=>?_) (fun h=>?_) (fun h=>?_) (fun h=>?_) s hs
  ·rw [xA hc h,xA hc' (by unfold hiB;rw [e0,e1];exact fun z=>h z.symm),e0,e1];exact xy (nO h)
  ·rw [xB hc h,xD hc' (by unfold hiB;rw [e1,e2];exact h),e1,e2]
  ·rw [xC hc (fun z=>h z),xC hc' (by unfold hiB;rw [e2,e3];exact fun z=>h z.symm),e2,e3];exact xy (nO h)
  ·rw [xD hc h,xB hc' (by unfold hiB;rw [e0,e3];exact h),e0,e3]
end
section
variable {Ju:List (List Int)} {wd:Nat} {cut by_:Int}
theorem xG (g:Good wd Ju) (g':Good wd (yZ by_ Ju)):Mov Ju wd cut (yZ by_ Ju) wd (cut+by_) id id id id where
 ga:=g
 gb:=g'
 inp:=fun p=>by
  show zW (yZ by_ Ju) wd p.1 p.2=true↔zW Ju wd p.1 p.2=true;rw [aW]
 hip:=fun p ip=>dD g ip
 inj:=fun p q e=>e
 sur:=fun q=>⟨q,rfl⟩
 nb:=fun p q=>Iff.rfl
 cel:=fun c=>by
  show yf (yZ by_ Ju) wd c.1 c.2=true↔yf Ju wd c.1 c.2=true;unfold yf;rw [aW,aW]
 cinj:=fun p q e=>e
 csur:=fun q=>⟨q,rfl⟩
 cn:=fun c k=>rfl
 sg:=fun k=>⟨k,rfl⟩
 sg2:=fun k=>rfl
 cr:=fun h=>rfl
 mid:=fun c hc=>by
  obtain⟨i1,i2,i3,i4⟩:=cell_in (show yf Ju wd c.1 c.2=true from hc);show decide (4 * (cut+by_)+2<=eV (yZ by_ Ju) c.1 c.2)=decide (4 * cut+2<=eV Ju c.1 c.2);unfold eV;rw [yJ g i1,yJ g i2,yJ g i3,yJ g i4];exact decide_eq_decide.mpr (by omega)
 fl:=fun s k=>rfl
 pl:=fun h m=>by rw [List.map_id];exact .refl _
 ar:=fun c s hc hs=>by
  obtain⟨i1,i2,i3,i4⟩:=cell_in (show yf Ju wd c.1 c.2=true from hc);have hc':ya (yZ by_ Ju) wd c=true:=by
   show yf (yZ by_ Ju) wd c.1 c.2=true;unfold yf;rw [aW,aW];exact hc
  show arS (yZ by_ Ju) wd (cut+by_) c s=_;have eh:hF (yZ by_ Ju) (cut+by_) c=hF Ju cut c:=by
   unfold hF;rw [dD g i1,dD g i2,dD g i3,dD g i4]
  have et:∀ k,tF (yZ by_ Ju) wd (cut+by_) c k=tF Ju wd cut c k:=fun k=>by
   unfold tF;have eo:opG (yZ by_ Ju) wd (cut+by_) (gkF c k)=opG Ju wd cut (gkF c k):=by rw [bN hc',bN hc,eh]
   rw [eo];split
   ·match k with
    | 0=>show qR (zv (yZ by_ Ju) c.1 c.2) (zv (yZ by_ Ju) (c.1+1) c.2) (cut+by_)=qR (zv Ju c.1 c.2) (zv Ju (c.1+1) c.2) cut;rw [yJ g i1,yJ g i2,xx]
    | 1=>show qR (zv (yZ by_ Ju) (c.1+1) c.2) (zv (yZ by_ Ju) (c.1+1) (c.2+1)) (cut+by_)=qR (zv Ju (c.1+1) c.2) (zv Ju (c.1+1) (c.2+1)) cut;rw [yJ g i2,yJ g i3,xx]
    | 2=>show qR (zv (yZ by_ Ju) c.1 (c.2+1)) (zv (yZ by_ Ju) (c.1+1) (c.2+1)) (cut+by_)=qR (zv Ju c.1 (c.2+1)) (zv Ju (c.1+1) (c.2+1)) cut;rw [yJ g i4,yJ g i3,xx]
    | 3=>show qR (zv (yZ by_ Ju) c.1 c.2) (zv (yZ by_ Ju) c.1 (c.2+1)) (cut+by_)=qR (zv Ju c.1 c.2) (zv Ju c.1 (c.2+1)) cut;rw [yJ g i1,yJ g i4,xx]
   ·rfl
  rw [bC g' hc',bC g hc,eh,et,et,et,et]
end
abbrev An (c:List (List Int)×Nat) (xs:List DV):Prop:=xs=[.dat (tab c.1)]/\Good c.2 c.1
abbrev uC (K:DT):Sp:=spD K 1 An fun c r=>r=tab (yX c.2 c.1)
theorem rf (F:Def K mg "turned" aH pf) (uab:mg "range"=none) (uaf:FnIn P w K mg base k "ask_table" pf (eU K)) (uaj:FnIn P w K mg base k "size" pf (gm K)):FnIn P w K mg base (k+1) "turned" pf (uC K):=by
 refine F.ok bu rfl fun fa cdv A outer s H E hr=>⟨_,(zc (jb (ze uaf hr rfl (za (pv 0) zb))) (zc (yr (ze uaj hr rfl (za (pv 0) zb)) (zN (K:=K) (n:=2) rfl rfl (zg (zd (i:=1) bu.nd rfl (Or.inl rfl) (Or.inr rfl)) (zg (zd (i:=2) bu.nd rfl (Or.inr rfl) (Or.inl rfl)) zL)))) (zl (zG (zY (N:=["y","rows","tall"]) (own:=1) (fr:=[0,2]) (by walk_at "c") rfl (y6 rfl uab (za (pv 1) zb)) (fun _ _ _ _=>(zd (i:=0) (show (["y","rows","tall"]:List Str).Nodup by decide +kernel) rfl (Or.inr rfl) (Or.inl rfl))) (fun _ _ _ _=>yb) (fun _ _ _ _=>(zY (N:=["x","y","rows","tall"]) (own:=1) (fr:=[0,1,2]) (by walk_at "c") rfl (y6 rfl uab (za (pv 2) zb)) (fun _ _ _ _=>(zd (i:=0) (show (["x","y","rows","tall"]:List Str).Nodup by decide +kernel) rfl (Or.inl rfl) (Or.inr rfl))) (fun _ _ _ _=>yb) (fun _ _ _ _=>(yw (zQ (K:=K) rfl) (yw (zQ (K:=K) rfl) (pv 2) (zt ym (zt ym (pv 3) zh) (pv 0)) (fun _ _=>rfl)) (pv 1) (fun _ _=>rfl))) rfl rfl (fun _=>rfl))) rfl rfl (fun _=>rfl)))))),?_⟩;rintro f xs ⟨Ju,wd⟩ hl ⟨rfl,g⟩
 try dsimp only [yu,zp]
 dsimp only at *;have g2:=g.h2;have w2:=g.w2;refine zT (vj (zr (Ju,wd) (qz rfl ⟨rfl,⟨rfl,g⟩,?_⟩)));rintro _ rfl;refine zT (yj (zr (Ju,wd) (qz rfl ⟨rfl,⟨rfl,g⟩,?_⟩)));rintro _ rfl;refine yz rfl (zm (zi (zm (zi (zV ?_)))));refine yL (PEdO.ped (j5 (A:=fun n:Nat=>.int (n:Int)) (B:=fun y:Nat=>.list (((Ef Ju.length).map fun (x:Nat)=>zv Ju y (Ju.length - 1 - x:Nat)).map .int)) (Ef wd) (qQ (zz (zk rfl (ye ⟨_,rfl,by omega,by omega,?_,by rw [EF];omega,?_,?_⟩))))))
 ·unfold qw;rw [FF]
 ·rintro D y ρ' es hy ho hes;have hy:=Eu.mp hy;obtain⟨u,rfl⟩:=ho.one;refine zi (jj ?_);rw [Jy rfl];refine yv hes (PEdO.ped (j5 (A:=fun n:Nat=>.int (n:Int)) (B:=fun x:Nat=>.int (zv Ju y (Ju.length - 1 - x:Nat))) (Ef Ju.length) (qQ (zz (zk rfl (ye ⟨_,rfl,by dsimp only;omega,by dsimp only;omega,?_,by rw [EF];omega,?_,?_⟩))))))
  ·unfold qw;rw [FF]
  ·rintro D2 x ρ2 es2 hx ho2 hes2;have hx:=Eu.mp hx;obtain⟨u2,rfl⟩:=ho2.one;refine zi (jj ?_);rw [Jy rfl];have hi:zW Ju wd y (Ju.length - 1 - x:Nat)=true:=by
    unfold zW;rw [decide_eq_true (by omega),decide_eq_true (by omega)];rfl
   obtain⟨r,h1,h2⟩:=aO g hi;rw [show ((Ju.length - 1 - x:Nat):Int)=(Ju.length:Int) - 1 - (x:Int) by omega] at h1;refine yv hes2 (cJ (cJ (zk rfl ⟨_,rfl,jo (jo (zk rfl ⟨_,rfl,yU ⟨_,rfl,_,rfl,zk rfl ⟨_,rfl,_,rfl,_,h1,?_⟩⟩⟩))⟩)));exact⟨_,rfl,zk rfl ⟨_,rfl,_,h2,.mk1,rfl⟩⟩
  ·exact⟨.mk1,by rw [EA];rfl⟩
 ·unfold tab yX;rw [EA];rfl
abbrev Ao (K:DT):Sp:=spD K 1 An fun c r=>r=tab (qg c.1)
theorem kg (F:Def K mg "mirrored" qX pf) (uaf:FnIn P w K mg base k "ask_table" pf (eU K)):FnIn P w K mg base (k+1) "mirrored" pf (Ao K):=by
 refine F.ok iU rfl fun fa cdv A outer s H E hr=>⟨_,(zc (jb (ze uaf hr rfl (za (pv 0) zb))) (zl (zG (zY (N:=["row"]) (own:=1) (fr:=[]) (by walk_at "c") rfl (zU (K:=K) rfl (pv 0)) (fun _ _ _ _=>(zd (i:=0) (show (["row"]:List Str).Nodup by decide +kernel) rfl (Or.inl rfl) (Or.inr rfl))) (fun _ _ _ _=>yb) (fun _ _ _ _=>(uV (K:=K) rfl (pv 0) (xO rC zh))) rfl rfl (fun _=>rfl))))),?_⟩;rintro f xs ⟨Ju,wd⟩ hl ⟨rfl,g⟩
 try dsimp only [yu,zp]
 dsimp only at *;have g2:=g.h2;refine zT (vj (zr (Ju,wd) (qz rfl ⟨rfl,⟨rfl,g⟩,?_⟩)));rintro _ rfl;refine yL (PEdO.ped (j5 (A:=fun r=>.list (r.map .int)) (B:=fun r:List Int=>.list (r.reverse.map .int)) Ju (yF (zk rfl ⟨_,rfl,rfl,by omega,?_,?_⟩))))
 ·rintro D r ρ' es hr' ho hes;obtain⟨u,rfl⟩:=ho.one;refine zi (jj ?_);rw [Jy rfl];refine yv hes (PEdL.ped (Cs (zk rfl ⟨_,rfl,?_⟩)));rw [<-List.map_reverse];exact xW (yU ⟨_,rfl,rfl,.mk1,rfl⟩)
 ·unfold tab qg;rw [EA];rfl
abbrev Ap (K:DT):Sp:=spD K 2 (fun (c:List (List Int)×Nat×Int) xs=>xs=[.dat (tab c.1),.dat (.int c.2.2)]/\Good c.2.1 c.1/\Good c.2.1 (yZ c.2.2 c.1)) fun c r=>r=tab (yZ c.2.2 c.1)
theorem rg (F:Def K mg "raised" aI pO) (uaf:FnIn P w K mg base k "ask_table" pf (eU K)):FnIn P w K mg base (k+1) "raised" pO (Ap K):=by
 refine F.ok eT rfl fun fa cdv A outer s H E hr=>⟨_,(zc (jb (ze uaf hr rfl (za (pv 0) zb))) (zc (jh (i:=2) (N:=["row","by"]) (own:=1) (fr:=[1]) (by walk_at "c") rfl eT.nd rfl (Or.inl rfl) (zU (K:=K) rfl (pv 0)) (fun _ _ _ _=>(zd (i:=0) (show (["row","by"]:List Str).Nodup by decide +kernel) rfl (Or.inl rfl) (Or.inr rfl))) (fun _ _ _ _=>yb) (fun _ _ _ _=>(zY (N:=["height","by"]) (own:=1) (fr:=[1]) (by walk_at "c") rfl (zU (K:=K) rfl (pv 0)) (fun _ _ _ _=>(zd (i:=0) (show (["height","by"]:List Str).Nodup by decide +kernel) rfl (Or.inl rfl) (Or.inr rfl))) (fun _ _ _ _=>yb) (fun _ _ _ _=>(zt yd (pv 0) (pv 1))) rfl rfl (fun _=>rfl))) rfl rfl (fun _=>rfl) (Or.inl rfl) rfl) (zc (jb (ze uaf hr rfl (za (pv 2) zb))) (zl (zG (pv 2)))))),?_⟩;rintro f xs ⟨Ju,wd,by_⟩ hl ⟨rfl,g,g'⟩
 try dsimp only [yu,zp]
 dsimp only at *;have g2:=g.h2;have w2:=g.w2;refine zT (vj (zr (Ju,wd) (qz rfl ⟨rfl,⟨rfl,g⟩,?_⟩)));rintro _ rfl;refine zT (yj (PEdO.ped (j5 (A:=fun r=>.list (r.map .int)) (B:=fun r:List Int=>.list ((r.map (·+by_)).map .int)) Ju (yF (zk rfl ⟨_,rfl,rfl,by omega,?_,?_⟩)))))
 ·rintro D r ρ' es hr' ho hes;have rl:=g.row r hr';obtain⟨u,rfl⟩:=ho.one;refine zi (jj ?_);rw [Jy rfl];refine yv hes (PEdO.ped (j5 (A:=.int) (B:=fun n:Int=>.int (n+by_)) r (yF (zk rfl ⟨_,rfl,rfl,by omega,?_,?_⟩))))
  ·rintro D2 n ρ2 es2 hn ho2 hes2;obtain⟨u2,rfl⟩:=ho2.one;refine zi (jj ?_);rw [Jy rfl];exact yv hes2 (jo (zk rfl ⟨_,rfl,zk rfl ⟨_,rfl,.mk1,rfl⟩⟩))
  ·exact⟨.mk1,by rw [EA];rfl⟩
 ·rw [show (Ju.map fun r:List Int=>PyData.list ((r.map (·+by_)).map .int))=(yZ by_ Ju).map fun r=>.list (r.map .int) by unfold yZ;rw [EA];rfl];refine zi (zT (vj (zr (yZ by_ Ju,wd) (qz rfl ⟨rfl,⟨rfl,g'⟩,?_⟩))));rintro _ rfl;exact yL (zk rfl rfl)
noncomputable def kvL (rs:List (Bool×List Pt)) (q:Nat->Rat):List (PyData×PyData):=rs.mapIdx fun j r=>(.tuple (r.2.map pD),jy (q j))
theorem uD {a b:List Pt} (h:PyData.tuple (a.map pD)=.tuple (b.map pD)):a=b:=by
 injection h with h;exact (List.map_inj_right fun _ _ e=>v8 e).mp h
theorem uE {k v:PyData} {kvs:List (PyData×PyData)} (h:k∉kvs.map (·.1)):dput k v kvs=kvs++[(k,v)]:=by unfold dput;rw [Jx h]
theorem e8 {α:Type} {F:α->PyData} (h:∀ a,zJ (F a)=true):∀ l:List α,zR (l.map F)=true
 | []=>rfl
 | a :: l=>by
  show (zJ (F a) && zR (l.map F))=true;rw [h a,e8 h l];rfl
theorem fb {α:Type} {F:α->PyData} {n:Nat} (h:∀ a,(F a).depth<=n):∀ l:List α,Eg (l.map F)<=n
 | []=>EI _
 | a :: l=>Nat.max_le.mpr ⟨h a,fb h l⟩
theorem aX (l:List Pt):bP (.tuple (l.map pD)):=⟨⟨e8 (fun _=>rfl) l,by
 have:=fb (F:=pD) (n:=1) (fun _=>D8 _) l;show Eg (l.map pD)+1<=8
 omega⟩,_,rfl⟩
theorem cz {rs:List (Bool×List Pt)} {q:Nat->Rat}:(kvL rs q).length=rs.length:=List.length_mapIdx
theorem lQ {rs:List (Bool×List Pt)} {q:Nat->Rat} {n:Nat} {r:Bool×List Pt} (h:rs[n]?=some r):(kvL rs q)[n]?=some (.tuple (r.2.map pD),jy (q n)):=by
 unfold kvL;rw [GV,h];rfl
theorem nP {Ju:List (List Int)} {wd:Nat} {cut:Int} {rs:List (Bool×List Pt)} (R:Regs Ju wd cut rs) {q:Nat->Rat} {n:Nat} {r:Bool×List Pt} (h:rs[n]?=some r):PyData.tuple (r.2.map pD)∉((kvL rs q).take n).map (·.1):=fun z=>by
 obtain⟨p,hp,e⟩:=Ei.mp z;obtain⟨m,hm⟩:=FO hp;rw [List.getElem?_take] at hm;split at hm
 ·rename_i lt;have lm:m<rs.length:=by have:=(DU.mp h).1;omega
  have hr:rs[m]?=some rs[m]:=DQ lm;rw [lQ hr] at hm;cases hm;have e2:=uD e;obtain⟨x,X⟩:=R.reg r (D9 h);have mx:x∈r.2:=(X.mem x).mpr .refl;have:=lK R hr h (e2▸mx) mx;omega
 ·cases hm
theorem xH {Ju:List (List Int)} {wd:Nat} {cut:Int} {rs:List (Bool×List Pt)} (R:Regs Ju wd cut rs) {q:Nat->Rat} {n:Nat} {r:Bool×List Pt} (h:rs[n]?=some r):dput (.tuple (r.2.map pD)) (jy (q n)) ((kvL rs q).take n)=(kvL rs q).take (n+1):=by
 rw [uE (nP R h),EZ,lQ h];rfl
theorem nQ {Ju:List (List Int)} {wd:Nat} {cut:Int} {rs:List (Bool×List Pt)} (R:Regs Ju wd cut rs) {q:Nat->Rat} {n:Nat} {r:Bool×List Pt} (h:rs[n]?=some r):qy (.tuple (r.2.map pD)) (kvL rs q)=some (jy (q n)):=by
 unfold qy;have e:(kvL rs q).find? (fun p=>decide (p.1=.tuple (r.2.map pD)))=some (.tuple (r.2.map pD),jy (q n)):=by
  have lt:=(DU.mp h).1;rw [List.find?_eq_some_iff_getElem];refine⟨decide_eq_true rfl,n,by rw [cz];exact lt,(DU.mp (lQ h)).2,fun j hj=>?_⟩;have lj:j<(kvL rs q).length:=by rw [cz];omega
  have ne:¬ ((kvL rs q)[j]'lj).1=PyData.tuple (r.2.map pD):=fun z=>nP R (q:=q) h (Ei.mpr ⟨(kvL rs q)[j]'lj,D9 (i:=j) (by rw [List.getElem?_take,Jy hj];exact DQ lj),z⟩);simpa using ne
 rw [e];rfl
abbrev Aq (w:World) (K:DT):Sp:=spV K 2 xc fun c x=>∃ rs,x=.mon (dzF w K (kvL rs fun j=>zX (qsF rs c.1 c.2.1 c.2.2 j)))/\Regs c.1 c.2.1 c.2.2 rs/\rs.length<=49
theorem Cb (F:Def K mg "_law_by_points" jc pU) (uah:mg "zip"=none) (uav:FnIn P w K mg base k "regions" pq (gy K)) (uax:FnIn P w K mg base k "region_areas" pq (gG K)):FnIn P w K mg base (k+1) "_law_by_points" pU (Aq w K):=by
 refine F.okV y8 rfl fun fa cdv A outer s H E hr=>⟨_,(zc (zS (i:=2) y8.nd rfl (Or.inl rfl) (eP (w:=w) rfl)) (zc (jz ER rfl (mZ (K:=K) rfl rfl uah (za (ze uav hr rfl (za (pv 0) (za (pv 1) zb))) (za (ze uax hr rfl (za (pv 0) (za (pv 1) zb))) zb))) (zN (K:=K) (n:=2) rfl rfl (zg (zd (i:=3) y8.nd rfl (Or.inl rfl) (Or.inr rfl)) (zg (zd (i:=4) y8.nd rfl (Or.inl rfl) (Or.inr rfl)) zL))) (zl (yr (pv 4) (cC (pv 2) (yw (bY (K:=K) rfl) (pv 3) zh (fun _ _=>rfl)) (cW (w:=w) (K:=K) rfl rfl hr.units))))) (zl (zG (Bz (w:=w) rfl (pv 2)))))),?_⟩;rintro f xs ⟨Ju,wd,cut⟩ hl ⟨rfl,g⟩
 try dsimp only [yu,zp]
 dsimp only at *;refine BD (w:=w) (sU ⟨show 2<5 by decide,fun D0=>?_⟩);refine BA (eO (Ac (zz (PEdO.ped (bc (Ju,wd,cut) ?_)))));walk_at "w";rintro _ ⟨rs,rfl,R,rl⟩;refine zz (PEdO.ped (bc (Ju,wd,cut) ?_));walk_at "w";rintro _ ⟨rs',R',rl',rfl⟩;dsimp only at R R';obtain rfl:=dt R R';have at_:∀ (n:Nat) d,(dJ (rs.map bU) ((Ef rs.length).map fun j=>jy (zX (qsF rs Ju wd cut j))))[n]?=some d->n<rs.length/\∃ r,rs[n]?=some r/\d=.tuple [bU r,jy (zX (qsF rs Ju wd cut n))]:=fun n d h=>by
  unfold dJ at h;rw [IF,D7,D7] at h;cases e:rs[n]? with
  | none=>rw [e] at h;cases h
  | some r =>
   have hn:=(DU.mp e).1;rw [e,E9 hn] at h;cases h;exact⟨hn,r,rfl,rfl⟩
 have len:(dJ (rs.map bU) ((Ef rs.length).map fun j=>jy (zX (qsF rs Ju wd cut j)))).length=rs.length:=by
  unfold dJ;rw [IU,DS,DS,EF,Nat.min_self]
 generalize hZ:dJ (rs.map bU) ((Ef rs.length).map fun j=>jy (zX (qsF rs Ju wd cut j)))=Z at *;refine ye ⟨_,_,rfl,?_⟩;dsimp only;rw [hZ];refine⟨fun n ρ cs=>∃ u3 u4:Option DV,ρ=[some (.dat (tab Ju)),some (.dat (.int cut)),some (.own (f.M.length+0)),u3,u4]/\cs=[.dic ((kvL rs fun j=>zX (qsF rs Ju wd cut j)).take n)],⟨_,_,rfl,rfl⟩,?_,?_⟩
 ·rintro n d _ _ hd ⟨u3,u4,rfl,rfl⟩;obtain⟨hn,r,hr,rfl⟩:=at_ n d hd;refine yz rfl (zm (zi (zm (zi (zV ?_)))));refine sV (i:=2) (j:=0) rfl rfl (by rw [EL,cz];omega) (zk rfl (rO (zk rfl ⟨_,rfl,yU ⟨_,rfl,_,rfl,aX r.2,?_⟩⟩)));refine⟨_,_,rfl,?_⟩;rw [xH R (q:=fun j=>zX (qsF rs Ju wd cut j)) hr];rfl
 ·rintro _ _ ⟨u3,u4,rfl,rfl⟩;refine BC (i:=2) (j:=0) rfl rfl ?_;rw [len,<- cz (rs:=rs) (q:=fun j=>zX (qsF rs Ju wd cut j)),E6];exact⟨rs,rfl,R,rl⟩
section
variable {A B:List (List Int)} {wa wb:Nat} {ca cb:Int} {τ κ:Pt->Pt} {σ:Fin 4->Fin 4} {φ:Fl->Fl}
theorem nR {Ju:List (List Int)} {wd:Nat} {cut:Int} {rs:List (Bool×List Pt)} (R:Regs Ju wd cut rs) {n:Nat} {r:Bool×List Pt} {p:Pt} (h:rs[n]?=some r) (hp:p∈r.2) (ip:inP Ju wd p=true):ixF rs p=n:=by
 obtain⟨r',h1,h2⟩:=nL R ip;exact lK R h1 h h2 hp
theorem Mov.reg (M:Mov A wa ca B wb cb τ κ σ φ) {rs rs':List (Bool×List Pt)} (R:Regs A wa ca rs) (R':Regs B wb cb rs') {n:Nat} {r:Bool×List Pt} (h:rs[n]?=some r) :
  ∃ m r',rs'[m]?=some r'/\ArQ rs' B wb cb m=ArQ rs A wa ca n/\(r'.2.map pD).Pairwise (fun d e=>ltD d e=true)/\(r.2.map τ).Nodup/\r.2.length<=49/\∀ q,q∈r'.2↔q∈r.2.map τ:=by
 obtain⟨x,X⟩:=R.reg r (D9 h);have mx:x∈r.2:=(X.mem x).mpr .refl;have it:inP B wb (τ x)=true:=(M.inp x).mpr X.inn;obtain⟨r',hr',ht⟩:=R'.all _ it;obtain⟨m,hm⟩:=FO hr';obtain⟨y,Y⟩:=R'.reg r' hr';have nd:r.2.Nodup:=(Fq.mp X.up).imp fun {a b} z e=>by
  rw [e,j6 (pD b) rfl] at z;cases z
 have yt:=(Y.mem _).mp ht;refine⟨m,r',hm,?_,Y.up,gI M.inj nd,vM M.ga nd fun p hp=>(((X.mem p).mp hp).ins X.inn).1,fun q=>?_⟩
 ·have a:=M.area R R' X.inn;rw [nR R h mx X.inn,nR R' hm ht it] at a;exact a
 ·rw [Y.mem,Ei];constructor
  ·intro z;obtain⟨p,e,z2⟩:=M.reachB X.inn ((yt.symm Y.inn).trans z);exact⟨p,(X.mem p).mpr z2,e⟩
  ·rintro⟨p,hp,rfl⟩;exact yt.trans (M.reach X.inn ((X.mem p).mp hp))
theorem Mov.srt (M:Mov A wa ca B wb cb τ κ σ φ) {rs rs':List (Bool×List Pt)} (R:Regs A wa ca rs) (R':Regs B wb cb rs') {n:Nat} {r:Bool×List Pt} (h:rs[n]?=some r) :
  SortOk "int" (r.2.map fun p=>pD (τ p))/\(r.2.map fun p=>pD (τ p)).length<64/\∀ es,es.Perm (r.2.map fun p=>pD (τ p))->(es.Pairwise fun d e=>ltD d e=true)->bP (.tuple es)/\qy (.tuple es) (kvL rs' fun j=>zX (qsF rs' B wb cb j))=some (jy (zX (qsF rs A wa ca n))):=by
 obtain⟨m,r',h1,h2,h3,h4,h5,h6⟩:=M.reg R R' h;have e:(r.2.map fun p=>pD (τ p))=(r.2.map τ).map pD:=by rw [EA];rfl
 rw [e];have ok:=tS h4;refine⟨ok,by rw [DS,DS];omega,fun es pm up=>?_⟩;have ee:es=r'.2.map pD:=aa (fun d hd=>ok.plain d (pm.mem_iff.mp hd)) up h3 fun d=>by
  rw [pm.mem_iff,Ei,Ei];constructor
  ·rintro⟨q,hq,rfl⟩;exact⟨q,(h6 q).mpr hq,rfl⟩
  ·rintro⟨q,hq,rfl⟩;exact⟨q,(h6 q).mp hq,rfl⟩
 subst ee;refine⟨aX _,?_⟩;rw [nQ R' (q:=fun j=>zX (qsF rs' B wb cb j)) h1];exact congrArg (fun q=>some (jy q)) h2
theorem Cc {by_:Int} {Ju:List (List Int)} {wd:Nat} {cut:Int} {rs rs':List (Bool×List Pt)} (M:Mov Ju wd cut (yZ by_ Ju) wd (cut+by_) id id id id) (R:Regs Ju wd cut rs) (R':Regs (yZ by_ Ju) wd (cut+by_) rs') :
  ((Ef rs'.length).map fun j=>jy (zX (qsF rs' (yZ by_ Ju) wd (cut+by_) j)))=(Ef rs.length).map fun j=>jy (zX (qsF rs Ju wd cut j)):=by
 have S:Regs Ju wd cut rs':=⟨fun r hr=>by
  obtain⟨y,Y⟩:=R'.reg r hr;have iy:inP Ju wd y=true:=(M.inp y).mp Y.inn;exact⟨y,Y.hd,Y.up,fun q=>(Y.mem q).trans ⟨fun z=>by obtain⟨p,e,z2⟩:=M.reachB iy z;exact e▸z2,fun z=>M.reach iy z⟩,iy,by rw [Y.hi];exact M.hip y iy⟩,fun p ip=>R'.all p ((M.inp p).mpr ip),R'.ord⟩
 obtain rfl:=dt R S;refine Fp fun j hj=>?_;have hj:=Eu.mp hj;have hr:rs[j]?=some rs[j]:=DQ hj;obtain⟨x,X⟩:=R.reg _ (D9 hr);have mx:x∈rs[j].2:=(X.mem x).mpr .refl;have a:=M.area R R' X.inn;rw [show ixF rs (id x)=j from nR R hr mx X.inn,nR R hr mx X.inn] at a;exact congrArg jy a
end
theorem xI {Q:Nat->Int->Prop} {es:List PyData} (h:∀ (i:Nat) e,es[i]?=some e->∃ n:Int,e=.int n/\Q i n):∃ ns:List Int,es=ns.map .int/\∀ (i:Nat) n,ns[i]?=some n->Q i n:=by
 let F:PyData->Int:=fun e=>match e with | .int n=>n | _=>0
 refine⟨es.map F,?_,fun i n hn=>?_⟩
 ·rw [EA];refine (FQ fun i=>?_);rw [D7];cases he:es[i]? with
  | none=>rfl
  | some e =>
   obtain⟨n,rfl,_⟩:=h i e he;rfl
 ·rw [D7] at hn;cases he:es[i]? with
  | none=>rw [he] at hn;cases hn
  | some e =>
   obtain⟨m,rfl,q⟩:=h i e he;rw [he] at hn;cases hn;exact q
theorem uF {wd:Nat} {Ju:List (List Int)} {b:Int} (g:Good wd Ju) (h:∀ r∈Ju,∀ n∈r,-1000000000<=n+b/\n+b<=1000000000):Good wd (yZ b Ju):=by
 refine⟨by rw [gL];exact g.h1,by rw [gL];exact g.h2,g.w1,g.w2,fun r hr=>?_,fun r hr n hn=>?_⟩
 ·obtain⟨q,hq,rfl⟩:=Ei.mp hr;rw [DS];exact g.row q hq
 ·obtain⟨q,hq,rfl⟩:=Ei.mp hr;obtain⟨m,hm,rfl⟩:=Ei.mp hn;exact h q hq m hm
theorem xJ {rs:List (Bool×List Pt)} {q:Nat->Rat} {n:Nat} {d:PyData} (h:((kvL rs q).map (·.1))[n]?=some d):∃ r,rs[n]?=some r/\d=.tuple (r.2.map pD):=by
 unfold kvL at h;rw [D7,GV] at h;cases e:rs[n]? with
 | none=>rw [e] at h;cases h
 | some r=>rw [e] at h;cases h;exact⟨r,rfl,rfl⟩
theorem Cd {f:DY} {fd:FuncData} (F:Fun K "law" "law" bL f fd) (uaa:mg "len"=none) (uab:mg "range"=none) (uai:mg "max"=none) (uad:mg "min"=none) (uak:mg "sorted"=none) (ual:mg "tuple"=none)
  (ube:FnIn P w K mg base k "_law_feed" pR (lM K)) (ubf:FnIn P w K mg base k "_law_table" pS (m8 K)) (ubg:FnIn P w K mg base k "_law_cut" pT (Ag K)) (uaG:FnIn P w K mg base k "_law_by_points" pU (Aq w K)) (uax:FnIn P w K mg base k "region_areas" pq (gG K))
  (ubh:FnIn P w K mg base k "turned" pf (uC K)) (ubi:FnIn P w K mg base k "mirrored" pf (Ao K)) (ubj:FnIn P w K mg base k "raised" pO (Ap K)) :
  FnOk P w K mg base CX0 (k+1) f fd pV (nv K):=by
 refine F.ok jP (fun vs H Q E h=>?_) fun cdv A outer s H vs Q E hr hs=>⟨_,(zc (jz ER rfl (y6 rfl uab (za (zK (nW rfl) rfl uai boot_max (za zh (za (zK (aZ rfl) rfl uad boot_min (za zh (za (zK (yB (K:=K) rfl) rfl uaa Fg (za (pv 0) zb)) zb))) zb))) zb)) (zd (i:=1) jP.nd rfl (Or.inl rfl) (Or.inr rfl)) (zc (zS (i:=2) jP.nd rfl (Or.inl rfl) (ze ube hr rfl (za (pv 0) (za (pv 1) zb)))) (zc (zS (i:=3) jP.nd rfl (Or.inl rfl) (ze ubf hr rfl (za (pv 2) zb))) (zc (zS (i:=4) jP.nd rfl (Or.inl rfl) (ze ubg hr rfl (za (pv 2) (za (pv 3) zb)))) (zc (zS (i:=5) jP.nd rfl (Or.inr rfl) (zK (yB (K:=K) rfl) rfl uaa Fg (za (yw (zQ (K:=K) rfl) (pv 3) zh (fun _ _=>rfl)) zb))) (zc (zS (i:=6) jP.nd rfl (Or.inr rfl) (zK (yB (K:=K) rfl) rfl uaa Fg (za (pv 3) zb))) (zc (zS (i:=7) jP.nd rfl (Or.inl rfl) (ze uaG hr rfl (za (pv 3) (za (pv 4) zb)))) (zc (zS (i:=8) jP.nd rfl (Or.inl rfl) (ze uaG hr rfl (za (ze ubh hr rfl (za (pv 3) zb)) (za (pv 4) zb)))) (zc (zS (i:=9) jP.nd rfl (Or.inl rfl) (ze uaG hr rfl (za (ze ubi hr rfl (za (pv 3) zb)) (za (pv 4) zb)))) (zc (jz ER rfl (C4 (w:=w) rfl (pv 7)) (zd (i:=10) jP.nd rfl (Or.inl rfl) (Or.inr rfl)) (zc (jl (yy (cM (K:=K) rfl hr.units) (tw (w:=w) rfl Hr II (eS (w:=w) (K:=K) rfl rfl hr.units) (pv 8) (za (ba (vk (K:=K) rfl) rfl ual Hf (za (zK (ay (K:=K) rfl hr.units) rfl uak Ha (za (zY (N:=pZ) (own:=2) (fr:=[6]) (by walk_at "c") rfl (av (K:=K) rfl (pv 10)) (fun _ _ _ _=>(zN (K:=K) (n:=2) rfl rfl (zg (zd (i:=0) (show (pZ:List Str).Nodup by decide +kernel) rfl (Or.inl rfl) (Or.inr rfl)) (zg (zd (i:=1) (show (pZ:List Str).Nodup by decide +kernel) rfl (Or.inl rfl) (Or.inr rfl)) zL)))) (fun _ _ _ _=>yb) (fun _ _ _ _=>(zO (za (zt ym (zt ym (pv 2) zh) (pv 1)) (za (pv 0) zb)))) rfl rfl (fun _=>rfl)) zb)) zb)) zb)) (yw (tj (w:=w) (K:=K) rfl rfl hr.units) (pv 7) (pv 10) (fun _ _=>rfl)) (yY _)) (zl (zG ag)) yp) (zl (jl (yy (cM (K:=K) rfl hr.units) (tw (w:=w) rfl Hr II (eS (w:=w) (K:=K) rfl rfl hr.units) (pv 9) (za (ba (vk (K:=K) rfl) rfl ual Hf (za (zK (ay (K:=K) rfl hr.units) rfl uak Ha (za (zY (N:=qa) (own:=2) (fr:=[5]) (by walk_at "c") rfl (av (K:=K) rfl (pv 10)) (fun _ _ _ _=>(zN (K:=K) (n:=2) rfl rfl (zg (zd (i:=0) (show (qa:List Str).Nodup by decide +kernel) rfl (Or.inl rfl) (Or.inr rfl)) (zg (zd (i:=1) (show (qa:List Str).Nodup by decide +kernel) rfl (Or.inl rfl) (Or.inr rfl)) zL)))) (fun _ _ _ _=>yb) (fun _ _ _ _=>(zO (za (zt ym (zt ym (pv 2) zh) (pv 0)) (za (pv 1) zb)))) rfl rfl (fun _=>rfl)) zb)) zb)) zb)) (yw (tj (w:=w) (K:=K) rfl rfl hr.units) (pv 7) (pv 10) (fun _ _=>rfl)) (yY _)) (zl (zG ag)) yp)))) (zc (zS (i:=11) jP.nd rfl (Or.inl rfl) (zK (aZ rfl) rfl uad boot_min (za zh (za (zt ym (zt aY zh zh) (zK (bb (K:=K) rfl rfl) rfl uai boot_max (za (zY (N:=["_law_row"]) (own:=1) (fr:=[]) (by walk_at "c") rfl (zU (K:=K) rfl (pv 3)) (fun _ _ _ _=>(zd (i:=0) (show (["_law_row"]:List Str).Nodup by decide +kernel) rfl (Or.inl rfl) (Or.inr rfl))) (fun _ _ _ _=>yb) (fun _ _ _ _=>(zK (bb (K:=K) rfl rfl) rfl uai boot_max (za (pv 0) zb))) rfl rfl (fun _=>rfl)) zb))) zb)))) (zl (jl (yy (cM (K:=K) rfl hr.units) (ze uax hr rfl (za (ze ubj hr rfl (za (pv 3) (za (pv 11) zb))) (za (zt yd (pv 4) (pv 11)) zb))) (ze uax hr rfl (za (pv 3) (za (pv 4) zb))) (yY _)) (zl (zG ag)) yp))))))))))))) (zl (zG ag))),?_⟩
 ·obtain⟨a,ns,rfl,_⟩:=h;rfl
 obtain⟨a,ns,rfl,hS,h63,q⟩:=hs;have e0:EnvOk K L2.f0 (qP m7 [.dat (scr ns)]) (start m7 [.ref a]) H:=qE (.cons (nu hS) .nil) (L2.fok0 H);suffices h:PSd K L2.f0 _ (qP m7 [.dat (scr ns)]) { nx:=fun _=>False,rt:=fun d=>d=.bool true } from
  h _ H _ e0 (fun _ _ _ _ _ z=>z.elim) (fun d v H' _ r z=>by
   subst z;rw [yo.mp r];exact q H') (fun _ _ _ _ _ z=>z) (fun _ _ _ _ _ z=>z)
 refine zT (rX (qQ (xi (R:=fun xs=>∃ j:Int,xs=[.dat (.int j)]/\0<=j/\j<=63) ?_ ?_)))
 ·walk_at "w";rw [DS];split <;> split <;> omega
 rintro _ ⟨j,rfl,j0,j1⟩;refine⟨j,rfl,by omega,by omega,fun i ρ=>∃ x1 x2 x3 x4 x5 x6 x7 x8 x9 x10 x11,ρ=[some (.dat (scr ns)),x1,x2,x3,x4,x5,x6,x7,x8,x9,x10,x11],⟨_,_,_,_,_,_,_,_,_,_,_,rfl⟩,?_,?_⟩
 ·rintro i d _ hi ⟨x1,x2,x3,x4,x5,x6,x7,x8,x9,x10,x11,rfl⟩;obtain⟨hi,rfl⟩:=vt hi;refine zi (A2 (BU rfl rfl h63 (by omega) (by omega)) fun p=>?_);refine zT (yj (zr () ?_));walk_at "w";rintro _ ⟨wd,Ju,rfl,g⟩;have g2:=g.h2;have w2:=g.w2;obtain⟨r0,rs0,er⟩:=g.ne;have hr0:r0.length=wd:=g.row r0 (by rw [er];exact D4);have hat0:atI (Ju.map fun q=>PyData.list (q.map .int)) 0=some (.list (r0.map .int)):=by
   rw [er];exact jX (F:=fun q:List Int=>PyData.list (q.map .int)) (xs:=r0 :: rs0) (j:=0) rfl (HG _)
  refine zi (zT (yj (zr (Ju,wd) ?_)));walk_at "w";rintro _ ⟨cut,rfl,c0,c1⟩;refine zi (zT (yj (l9 (zz (cJ (zk rfl ⟨_,rfl,yU ⟨_,rfl,_,hat0,ye (.inl ⟨_,rfl,?_⟩)⟩⟩))))));rw [DS,hr0];refine zi (zT (yj (l9 (zz (zk rfl (ye (.inl ⟨_,rfl,?_⟩)))))));rw [DS];refine zi (zT (fU (fT (Ju,wd,cut) (bR rfl rfl ⟨rfl,⟨rfl,g⟩,?_⟩))));rintro _ ⟨rs,rfl,R,rl⟩;dsimp only at R;refine zT (fU (fT (yX wd Ju,Ju.length,cut) (zz (zr (Ju,wd) (qz rfl ⟨rfl,⟨rfl,g⟩,?_⟩)))));rintro _ rfl;refine qz rfl ⟨rfl,⟨rfl,bB g⟩,?_⟩;rintro _ ⟨rs1,rfl,R1,rl1⟩;dsimp only at R1;refine zT (fU (fT (qg Ju,wd,cut) (zz (zr (Ju,wd) (qz rfl ⟨rfl,⟨rfl,g⟩,?_⟩)))));rintro _ rfl;refine qz rfl ⟨rfl,⟨rfl,dC g⟩,?_⟩;rintro _ ⟨rs2,rfl,R2,rl2⟩;dsimp only at R2;have MT:=uB (cut:=cut) g;have MM:=xF (cut:=cut) g;refine zT (rX (DJ (v_var rfl ⟨_,rfl,fun n ρ=>∃ u10:Option DV,ρ=[some (.dat (scr ns)),some (.dat (.int i)),some .feed,some (.dat (tab Ju)),some (.dat (.int cut)),some (.dat (.int wd)),some (.dat (.int Ju.length)),some (.mon (dzF w K (kvL rs fun j=>zX (qsF rs Ju wd cut j)))),some (.mon (dzF w K (kvL rs1 fun j=>zX (qsF rs1 (yX wd Ju) Ju.length cut j)))),some (.mon (dzF w K (kvL rs2 fun j=>zX (qsF rs2 (qg Ju) wd cut j)))),u10,x11],⟨_,rfl⟩,?_,?_⟩)))
  ·rintro n d _ hd ⟨u10,rfl⟩;obtain⟨r,hr,rfl⟩:=xJ hd;obtain⟨ok1,l1,s1⟩:=MT.srt R R1 hr;obtain⟨ok2,l2,s2⟩:=MM.srt R R2 hr;obtain⟨_,_,_,_,_,_,r49,_⟩:=MT.reg R R1 hr;have gt0:=nQ R (q:=fun j=>zX (qsF rs Ju wd cut j)) hr;have ly:(jy (zX (qsF rs Ju wd cut n))).canLay0=true:=rfl;refine zi (zT (dI (jN (aq (tD (v_var rfl ⟨_,rfl,zz (fv (zz (PEdO.ped (iA "int" (PEdO.ped (j5 (A:=pD) (B:=fun p=>pD (τT Ju.length p)) r.2 (h9 (zk rfl ⟨_,rfl,rfl,by omega,?_,?_⟩))))))))⟩))))))
   ·rintro D p ρ' es hp ho hes;obtain⟨u,v,rfl⟩:=ho.two;refine yz rfl (zm (zi (zm (zi (zV (jj ?_))))));rw [Jy rfl];exact yv hes (ve (zz (jo (jo (zk rfl ⟨_,rfl,yU ⟨_,rfl,_,rfl,zk rfl ⟨_,rfl,zz (zk rfl (ye ⟨_,rfl,by show 2<=1000;decide,.mk2,rfl⟩))⟩⟩⟩)))))
   ·refine⟨_,rfl,ok1,by omega,.inl l1,fun es pm up=>?_⟩;obtain⟨kt,gt⟩:=s1 es pm up;refine ye (.inl ⟨_,rfl,ye ⟨_,rfl,kt,_,gt,Af (v_var rfl ⟨_,rfl,zk rfl ⟨aX r.2,_,gt0,ly,ly,by show min 1 1<=60;decide,_,rfl,?_⟩⟩)⟩⟩);rw [Jy rfl,HL _ ly,E7,Jx DX];refine vi ?_;refine dI (jN (aq (tD (v_var rfl ⟨_,rfl,zz (fv (zz (PEdO.ped (iA "int" (PEdO.ped (j5 (A:=pD) (B:=fun p=>pD (τM wd p)) r.2 (h9 (zk rfl ⟨_,rfl,rfl,by omega,?_,?_⟩))))))))⟩))))
    ·rintro D p ρ' es hp ho hes;obtain⟨u,v,rfl⟩:=ho.two;refine yz rfl (zm (zi (zm (zi (zV (jj ?_))))));rw [Jy rfl];exact yv hes (ve (zz (jo (jo (zk rfl ⟨_,rfl,yU ⟨_,rfl,_,rfl,zk rfl ⟨_,rfl,zz (zk rfl (ye ⟨_,rfl,by show 2<=1000;decide,.mk2,rfl⟩))⟩⟩⟩)))))
    ·refine⟨_,rfl,ok2,by omega,.inl l2,fun es pm up=>?_⟩;obtain⟨kt,gt⟩:=s2 es pm up;refine ye (.inl ⟨_,rfl,ye ⟨_,rfl,kt,_,gt,Af (v_var rfl ⟨_,rfl,zk rfl ⟨aX r.2,_,gt0,ly,ly,by show min 1 1<=60;decide,_,rfl,?_⟩⟩)⟩⟩);rw [Jy rfl,HL _ ly,E7,Jx DX];exact vi ⟨_,rfl⟩
  ·rintro _ ⟨u10,rfl⟩;have row_ne:∀ r∈Ju,r≠[]:=fun r hr z=>by
    have:=g.row r hr;have:=g.w1;rw [z,FU] at *;omega
   refine cY (fun ρ=>∃ b:Int,ρ=[some (.dat (scr ns)),some (.dat (.int i)),some .feed,some (.dat (tab Ju)),some (.dat (.int cut)),some (.dat (.int wd)),some (.dat (.int Ju.length)),some (.mon (dzF w K (kvL rs fun j=>zX (qsF rs Ju wd cut j)))),some (.mon (dzF w K (kvL rs1 fun j=>zX (qsF rs1 (yX wd Ju) Ju.length cut j)))),some (.mon (dzF w K (kvL rs2 fun j=>zX (qsF rs2 (qg Ju) wd cut j)))),u10,some (.dat (.int b))]/\Good wd (yZ b Ju)) (yj ?_) ?_
   ·walk_at "w";refine uU (zk rfl ⟨_,rfl,by rw [DS];omega,fun i e=>∃ n:Int,e=.int n/\∃ r,Ju[i]?=some r/\n∈r/\∀ m∈r,m<=n,fun D i d hd=>?_,fun es hes hR=>?_⟩)
    ·rw [D7] at hd;cases hq:Ju[i]? with
     | none=>rw [hq] at hd;cases hd
     | some r =>
      rw [hq] at hd;cases hd;exact kM (qz rfl ⟨r,rfl,row_ne r (D9 hq),fun M hM hl=>⟨M,rfl,r,hq,hM,hl⟩⟩)
    ·obtain⟨ms,rfl,hm⟩:=xI hR;rw [DS,DS] at hes;refine ye ⟨ms,rfl,fun z=>?_,fun M hM hl=>⟨M,rfl,ye ⟨_,_,rfl,zi ⟨_,rfl,?_⟩⟩⟩⟩
     ·have:=g.h1;rw [z,FU] at hes;omega
     ·have e9:(10:Int) ^ Jj 9=1000000000:=by decide
      obtain⟨i,hi⟩:=FO hM;obtain⟨r,hr,mr,_⟩:=hm i M hi;have b0:=g.hgt r (D9 hr) M mr;refine uF g fun r hr n hn=>?_;have h3:=g.hgt r hr n hn;obtain⟨i,hi⟩:=FO hr;have hil:=(DU.mp hi).1;obtain⟨r',hr',_,le⟩:=hm i ms[i] (DQ (by omega));rw [hi] at hr';cases hr';have h4:=Jd (le n hn) (hl _ (Et _));rw [e9];split <;> omega
   rintro _ ⟨b,rfl,gb⟩;have MR:=xG (by_:=b) (cut:=cut) g gb;refine dI (jN (aq (PEdO.ped (bc (yZ b Ju,wd,cut+b) (zz (zr (Ju,wd,b) (bR rfl rfl ⟨rfl,⟨rfl,g,gb⟩,?_⟩)))))));rintro _ rfl;refine zz (jo (zk rfl ⟨_,rfl,zk rfl ⟨_,rfl,ye ⟨rfl,⟨rfl,gb⟩,?_⟩⟩⟩));rintro _ ⟨rs3,R3,_,rfl⟩;dsimp only at R3;refine PEdO.ped (bc (Ju,wd,cut) (bR rfl rfl ⟨rfl,⟨rfl,g⟩,?_⟩));rintro _ ⟨rs4,R4,_,rfl⟩;dsimp only at R4;have e:=Cc MR R4 R3;have layA:(PyData.list ((Ef rs4.length).map fun j=>jy (zX (qsF rs4 Ju wd cut j)))).canLay0=true/\(PyData.list ((Ef rs4.length).map fun j=>jy (zX (qsF rs4 Ju wd cut j)))).depth<=60:=by
    have key:∀ l:List Nat,HY (l.map fun j=>jy (zX (qsF rs4 Ju wd cut j)))=true/\Eg (l.map fun j=>jy (zX (qsF rs4 Ju wd cut j)))<=1:=fun l=>by
     induction l with
     | nil=>exact⟨rfl,EI _⟩
     | cons n l ih=>exact⟨ih.1,Nat.max_le.mpr ⟨D8 1,ih.2⟩⟩
    refine⟨(key _).1,?_⟩;show Eg _+1<=60;have:=(key (Ef rs4.length)).2;omega
   dsimp only;rw [e];generalize (Ef rs4.length).map (fun j=>jy (zX (qsF rs4 Ju wd cut j)))=As at *;refine⟨layA.1,layA.1,Er (Nat.min_le_left _ _) layA.2,_,rfl,?_⟩;rw [Jy rfl,HL _ layA.1,E7,Jx DX];exact vi ⟨_,_,_,_,_,_,_,_,_,_,_,rfl⟩
 ·rintro _ ⟨x1,x2,x3,x4,x5,x6,x7,x8,x9,x10,x11,rfl⟩;exact yL (rN rfl)
end
theorem _root_.L2.FnIn.m {P w K mg base j k x ps sp} (h:FnIn P w K mg base j x ps sp) (hk:j<=k:=by decide):FnIn P w K mg base k x ps sp:=h.mono hk
theorem xf1 {K:Iz} {h:Heap} {mg:Str->Option Value} {x:Str} {st:Stmt} {f:DY} {od an:Option DY} {sl:Array (Option Value)} {oc kV dc pm cd ct:Value} (X:K.In h) (G:h.Ns EB mg) (a:FD K x st f od an sl oc kV dc pm cd ct) {p0:Str} (hb:∀ (kV doc pm:Value) (an:Option DY) (cdv ct:Value) (u0:Value),bindArgs (Fv x x (jm st) (yG st) (zj st) .none kV doc pm an cdv ct) ⟨[u0],[]⟩=pure ([p0].zip [u0])):Def K mg x st [p0]:=wC X G a (fun _ _ _ _ _ _ us hl=>by
  rcases us with _ | ⟨u0,_ | ⟨z,zs⟩⟩ <;> first | exact hb _ _ _ _ _ _ _ | (simp at hl))
theorem xf2 {K:Iz} {h:Heap} {mg:Str->Option Value} {x:Str} {st:Stmt} {f:DY} {od an:Option DY} {sl:Array (Option Value)} {oc kV dc pm cd ct:Value} (X:K.In h) (G:h.Ns EB mg) (a:FD K x st f od an sl oc kV dc pm cd ct) {p0 p1:Str} (hb:∀ (kV doc pm:Value) (an:Option DY) (cdv ct:Value) (u0 u1:Value),bindArgs (Fv x x (jm st) (yG st) (zj st) .none kV doc pm an cdv ct) ⟨[u0,u1],[]⟩=pure ([p0,p1].zip [u0,u1])):Def K mg x st [p0,p1]:=wC X G a (fun _ _ _ _ _ _ us hl=>by
  rcases us with _ | ⟨u0,_ | ⟨u1,_ | ⟨z,zs⟩⟩⟩ <;> first | exact hb _ _ _ _ _ _ _ _ | (simp at hl))
theorem xf3 {K:Iz} {h:Heap} {mg:Str->Option Value} {x:Str} {st:Stmt} {f:DY} {od an:Option DY} {sl:Array (Option Value)} {oc kV dc pm cd ct:Value} (X:K.In h) (G:h.Ns EB mg) (a:FD K x st f od an sl oc kV dc pm cd ct) {p0 p1 p2:Str} (hb:∀ (kV doc pm:Value) (an:Option DY) (cdv ct:Value) (u0 u1 u2:Value),bindArgs (Fv x x (jm st) (yG st) (zj st) .none kV doc pm an cdv ct) ⟨[u0,u1,u2],[]⟩=pure ([p0,p1,p2].zip [u0,u1,u2])):Def K mg x st [p0,p1,p2]:=wC X G a (fun _ _ _ _ _ _ us hl=>by
  rcases us with _ | ⟨u0,_ | ⟨u1,_ | ⟨u2,_ | ⟨z,zs⟩⟩⟩⟩ <;> first | exact hb _ _ _ _ _ _ _ _ _ | (simp at hl))
theorem xf4 {K:Iz} {h:Heap} {mg:Str->Option Value} {x:Str} {st:Stmt} {f:DY} {od an:Option DY} {sl:Array (Option Value)} {oc kV dc pm cd ct:Value} (X:K.In h) (G:h.Ns EB mg) (a:FD K x st f od an sl oc kV dc pm cd ct) {p0 p1 p2 p3:Str} (hb:∀ (kV doc pm:Value) (an:Option DY) (cdv ct:Value) (u0 u1 u2 u3:Value),bindArgs (Fv x x (jm st) (yG st) (zj st) .none kV doc pm an cdv ct) ⟨[u0,u1,u2,u3],[]⟩=pure ([p0,p1,p2,p3].zip [u0,u1,u2,u3])):Def K mg x st [p0,p1,p2,p3]:=wC X G a (fun _ _ _ _ _ _ us hl=>by
  rcases us with _ | ⟨u0,_ | ⟨u1,_ | ⟨u2,_ | ⟨u3,_ | ⟨z,zs⟩⟩⟩⟩⟩ <;> first | exact hb _ _ _ _ _ _ _ _ _ _ | (simp at hl))
set_option autoImplicit true in
set_option relaxedAutoImplicit true in
theorem all_mk {l:PySem.W.OpenLaw} {w:World} {K:DT} {h:Heap} {mg:Str->Option Value} {fa:DY} (X:K.In h) (G:h.Ns EB mg) (hfa:mg "law"=some (.ref fa))
  (a1:FD K "size" fW f1 od1 an1 sl1 oc1 kV1 dc1 pm1 cd1 ct1)
  (a2:FD K "points" aE f2 od2 an2 sl2 oc2 kV2 dc2 pm2 cd2 ct2)
  (a3:FD K "has_point" ql f3 od3 an3 sl3 oc3 kV3 dc3 pm3 cd3 ct3)
  (a4:FD K "neighbours" jR f4 od4 an4 sl4 oc4 kV4 dc4 pm4 cd4 ct4)
  (a5:FD K "cells" cf f5 od5 an5 sl5 oc5 kV5 dc5 pm5 cd5 ct5)
  (a6:FD K "has_cell" qT f6 od6 an6 sl6 oc6 kV6 dc6 pm6 cd6 ct6)
  (a7:FD K "corners" vE f7 od7 an7 sl7 oc7 kV7 dc7 pm7 cd7 ct7)
  (a8:FD K "cells_at" qU f8 od8 an8 sl8 oc8 kV8 dc8 pm8 cd8 ct8)
  (a9:FD K "common" aF f9 od9 an9 sl9 oc9 kV9 dc9 pm9 cd9 ct9)
  (a10:FD K "shortened" qm f10 od10 an10 sl10 oc10 kV10 dc10 pm10 cd10 ct10)
  (a11:FD K "total" cj f11 od11 an11 sl11 oc11 kV11 dc11 pm11 cd11 ct11)
  (a12:FD K "ask_table" qo f12 od12 an12 sl12 oc12 kV12 dc12 pm12 cd12 ct12)
  (a13:FD K "fits" fY f13 od13 an13 sl13 oc13 kV13 dc13 pm13 cd13 ct13)
  (a14:FD K "is_row" aG f14 od14 an14 sl14 oc14 kV14 dc14 pm14 cd14 ct14)
  (a15:FD K "turned" aH f15 od15 an15 sl15 oc15 kV15 dc15 pm15 cd15 ct15)
  (a16:FD K "mirrored" qX f16 od16 an16 sl16 oc16 kV16 dc16 pm16 cd16 ct16)
  (a17:FD K "raised" aI f17 od17 an17 sl17 oc17 kV17 dc17 pm17 cd17 ct17)
  (a18:FD K "stands_high" jG f18 od18 an18 sl18 oc18 kV18 dc18 pm18 cd18 ct18)
  (a19:FD K "gate_points" jH f19 od19 an19 sl19 oc19 kV19 dc19 pm19 cd19 ct19)
  (a20:FD K "has_gate" qY f20 od20 an20 sl20 oc20 kV20 dc20 pm20 cd20 ct20)
  (a21:FD K "is_open" vF f21 od21 an21 sl21 oc21 kV21 dc21 pm21 cd21 ct21)
  (a22:FD K "cell_gates" jS f22 od22 an22 sl22 oc22 kV22 dc22 pm22 cd22 ct22)
  (a23:FD K "is_crossed" jT f23 od23 an23 sl23 oc23 kV23 dc23 pm23 cd23 ct23)
  (a24:FD K "has_high_middle" yW f24 od24 an24 sl24 oc24 kV24 dc24 pm24 cd24 ct24)
  (a25:FD K "place_of" qZ f25 od25 an25 sl25 oc25 kV25 dc25 pm25 cd25 ct25)
  (a26:FD K "share" ck f26 od26 an26 sl26 oc26 kV26 dc26 pm26 cd26 ct26)
  (a27:FD K "regions" vG f27 od27 an27 sl27 oc27 kV27 dc27 pm27 cd27 ct27)
  (a28:FD K "indexes" vH f28 od28 an28 sl28 oc28 kV28 dc28 pm28 cd28 ct28)
  (a29:FD K "all_joined" jU f29 od29 an29 sl29 oc29 kV29 dc29 pm29 cd29 ct29)
  (a30:FD K "joined" aK f30 od30 an30 sl30 oc30 kV30 dc30 pm30 cd30 ct30)
  (a31:FD K "region_areas" ju f31 od31 an31 sl31 oc31 kV31 dc31 pm31 cd31 ct31)
  (a32:FD K "pieces" aL f32 od32 an32 sl32 oc32 kV32 dc32 pm32 cd32 ct32)
  (a33:FD K "outline" vI f33 od33 an33 sl33 oc33 kV33 dc33 pm33 cd33 ct33)
  (a34:FD K "field_area" jV f34 od34 an34 sl34 oc34 kV34 dc34 pm34 cd34 ct34)
  (a35:FD K "_law_feed" q9 f35 od35 an35 sl35 oc35 kV35 dc35 pm35 cd35 ct35)
  (a36:FD K "_law_draw" va f36 od36 an36 sl36 oc36 kV36 dc36 pm36 cd36 ct36)
  (a37:FD K "_law_height" jW f37 od37 an37 sl37 oc37 kV37 dc37 pm37 cd37 ct37)
  (a38:FD K "_law_table" qr f38 od38 an38 sl38 oc38 kV38 dc38 pm38 cd38 ct38)
  (a39:FD K "_law_cut" vJ f39 od39 an39 sl39 oc39 kV39 dc39 pm39 cd39 ct39)
  (a40:FD K "_law_by_points" jc f40 od40 an40 sl40 oc40 kV40 dc40 pm40 cd40 ct40)
  (a41:FD K "law" bL f41 od41 an41 sl41 oc41 kV41 dc41 pm41 cd41 ct41)
  {ubk:Tok} (uaH:EV K EB "FEWEST"=some (some (.int (2) ubk)))
  {ubl:Tok} (uaI:EV K EB "MOST"=some (some (.int (7) ubl)))
  {ubm:Tok} (uaJ:EV K EB "LEAST"=some (some (.int (-1000000000) ubm)))
  {ubn:Tok} (uaK:EV K EB "GREATEST"=some (some (.int (1000000000) ubn)))
  (uaL:EV K EB "len"=some none)
  (uaM:EV K EB "min"=some none)
  (uaN:EV K EB "max"=some none)
  (uaO:EV K EB "enumerate"=some none)
  (uaP:EV K EB "range"=some none)
  (uaQ:EV K EB "all"=some none)
  (uaR:EV K EB "sum"=some none)
  (uaS:EV K EB "sorted"=some none)
  (uaT:EV K EB "tuple"=some none)
  (uaU:EV K EB "set"=some none)
  (uaV:EV K EB "abs"=some none)
  (uaW:EV K EB "zip"=some none)
:
  ∃ fd:FuncData,(∀ (s:Shared) (v:Value),BindsTo s fd ⟨[v],[]⟩ [("_law_script",v)])/\∀ base:Heap,K.In base->base.Ns EB mg->FnOk l.prog w K mg base CX0 12 fa fd pV (nv K):=by
 have ubo:Def K mg "size" fW pf:=xf1 X G a1 (fun _ _ _ _ _ _ _=>rfl);have ubp:Def K mg "points" aE pf:=xf1 X G a2 (fun _ _ _ _ _ _ _=>rfl);have ubq:Def K mg "has_point" ql ph:=xf3 X G a3 (fun _ _ _ _ _ _ _ _ _=>rfl);have ubr:Def K mg "neighbours" jR ph:=xf3 X G a4 (fun _ _ _ _ _ _ _ _ _=>rfl);have ubs:Def K mg "cells" cf pf:=xf1 X G a5 (fun _ _ _ _ _ _ _=>rfl);have ubt:Def K mg "has_cell" qT ph:=xf3 X G a6 (fun _ _ _ _ _ _ _ _ _=>rfl);have ubu:Def K mg "corners" vE pC:=xf2 X G a7 (fun _ _ _ _ _ _ _ _=>rfl);have ubv:Def K mg "cells_at" qU ph:=xf3 X G a8 (fun _ _ _ _ _ _ _ _ _=>rfl);have ubw:Def K mg "common" aF pJ:=xf2 X G a9 (fun _ _ _ _ _ _ _ _=>rfl);have ubx:Def K mg "shortened" qm pF:=xf2 X G a10 (fun _ _ _ _ _ _ _ _=>rfl);have uby:Def K mg "total" cj pE:=xf1 X G a11 (fun _ _ _ _ _ _ _=>rfl);have ubz:Def K mg "ask_table" qo pf:=xf1 X G a12 (fun _ _ _ _ _ _ _=>rfl);have ubA:Def K mg "fits" fY pG:=xf1 X G a13 (fun _ _ _ _ _ _ _=>rfl);have ubB:Def K mg "is_row" aG ["row"]:=xf1 X G a14 (fun _ _ _ _ _ _ _=>rfl);have ubC:Def K mg "turned" aH pf:=xf1 X G a15 (fun _ _ _ _ _ _ _=>rfl);have ubD:Def K mg "mirrored" qX pf:=xf1 X G a16 (fun _ _ _ _ _ _ _=>rfl);have ubE:Def K mg "raised" aI pO:=xf2 X G a17 (fun _ _ _ _ _ _ _ _=>rfl);have ubF:Def K mg "stands_high" jG pA:=xf3 X G a18 (fun _ _ _ _ _ _ _ _ _=>rfl);have ubG:Def K mg "gate_points" jH ["gate"]:=xf1 X G a19 (fun _ _ _ _ _ _ _=>rfl);have ubH:Def K mg "has_gate" qY pK:=xf2 X G a20 (fun _ _ _ _ _ _ _ _=>rfl);have ubI:Def K mg "is_open" vF pz:=xf3 X G a21 (fun _ _ _ _ _ _ _ _ _=>rfl);have ubJ:Def K mg "cell_gates" jS ["cell"]:=xf1 X G a22 (fun _ _ _ _ _ _ _=>rfl);have ubK:Def K mg "is_crossed" jT pj:=xf3 X G a23 (fun _ _ _ _ _ _ _ _ _=>rfl);have ubL:Def K mg "has_high_middle" yW pj:=xf3 X G a24 (fun _ _ _ _ _ _ _ _ _=>rfl);have ubM:Def K mg "place_of" qZ pz:=xf3 X G a25 (fun _ _ _ _ _ _ _ _ _=>rfl);have ubN:Def K mg "share" ck pz:=xf3 X G a26 (fun _ _ _ _ _ _ _ _ _=>rfl);have ubO:Def K mg "regions" vG pq:=xf2 X G a27 (fun _ _ _ _ _ _ _ _=>rfl);have ubP:Def K mg "indexes" vH pq:=xf2 X G a28 (fun _ _ _ _ _ _ _ _=>rfl);have ubQ:Def K mg "all_joined" jU pP:=xf3 X G a29 (fun _ _ _ _ _ _ _ _ _=>rfl);have ubR:Def K mg "joined" aK pA:=xf3 X G a30 (fun _ _ _ _ _ _ _ _ _=>rfl);have ubS:Def K mg "region_areas" ju pq:=xf2 X G a31 (fun _ _ _ _ _ _ _ _=>rfl);have ubT:Def K mg "pieces" aL pj:=xf3 X G a32 (fun _ _ _ _ _ _ _ _ _=>rfl);have ubU:Def K mg "outline" vI pQ:=xf4 X G a33 (fun _ _ _ _ _ _ _ _ _ _=>rfl);have ubV:Def K mg "field_area" jV ["around"]:=xf1 X G a34 (fun _ _ _ _ _ _ _=>rfl);have ubW:Def K mg "_law_feed" q9 pR:=xf2 X G a35 (fun _ _ _ _ _ _ _ _=>rfl);have ubX:Def K mg "_law_draw" va pH:=xf2 X G a36 (fun _ _ _ _ _ _ _ _=>rfl);have ubY:Def K mg "_law_height" jW pL:=xf3 X G a37 (fun _ _ _ _ _ _ _ _ _=>rfl);have ubZ:Def K mg "_law_table" qr pS:=xf1 X G a38 (fun _ _ _ _ _ _ _=>rfl);have ub0:Def K mg "_law_cut" vJ pT:=xf2 X G a39 (fun _ _ _ _ _ _ _ _=>rfl);have ub1:Def K mg "_law_by_points" jc pU:=xf2 X G a40 (fun _ _ _ _ _ _ _ _=>rfl);have ub2:Def K mg "law" bL pV:=xf1 X G a41 (fun _ _ _ _ _ _ _=>rfl);have uaq:=GQ X G uaH;have uar:=GQ X G uaI;have uas:=GQ X G uaJ;have uat:=GQ X G uaK;have uaa:=ES X G uaL;have uad:=ES X G uaM;have uai:=ES X G uaN;have uam:=ES X G uaO;have uab:=ES X G uaP;have uan:=ES X G uaQ;have uaB:=ES X G uaR;have uak:=ES X G uaS;have ual:=ES X G uaT;have uaE:=ES X G uaU;have uag:=ES X G uaV;have uah:=ES X G uaW;have e:=hfa.symm.trans (GQ X G a41.1);cases e;have F0:=kH (st:=bL) a41.2.1 a41.2.2.1 a41.2.2.2;refine⟨Fv "law" "law" (jm bL) (yG bL) (zj bL) .none kV41 dc41 pm41 an41 cd41 ct41,fun s v=>.of_eq rfl,fun base _ _=>?_⟩;have H0:=xj (P:=l.prog) (w:=w) (base:=base) (k:=0) ubW uaa uag;have H1:=wU (P:=l.prog) (w:=w) (base:=base) (k:=0) ubX;have H2:=wR (P:=l.prog) (w:=w) (base:=base) (k:=0) ubA uaa ⟨_,uaq⟩ ⟨_,uar⟩;have H3:=wQ (P:=l.prog) (w:=w) (base:=base) (k:=0) ubo uaa;have H4:=wV (P:=l.prog) (w:=w) (base:=base) (k:=0) ubF;have H5:=BI (P:=l.prog) (w:=w) (base:=base) (k:=0) ubG;have H6:=oZ (P:=l.prog) (w:=w) (base:=base) (k:=0) ubJ;have H7:=lH (P:=l.prog) (w:=w) (base:=base) (k:=0) ubu;have H8:=p8 (P:=l.prog) (w:=w) (base:=base) (k:=0) ubw uag;have H9:=oU (k:=1) ubY uad H1.m;have H10:=BJ (k:=1) ub0 uaa H1.m;have H11:=oT (k:=1) ubB uad uai ⟨_,uas⟩ ⟨_,uat⟩ H2.m;have H12:=oV (k:=1) ubp uab H3.m;have H13:=BH (k:=1) ubq H3.m;have H14:=BL (k:=1) ubL uaB H7.m;have H15:=ug (k:=1) ubs uab H3.m;have H16:=t9 (k:=1) ubx H8.m;have H17:=tN (k:=2) ubZ uab H1.m H9.m;have H18:=BG (k:=2) ubz uaa uam H2.m H11.m;have H19:=C7 (k:=2) ubr H13.m;have H20:=w5 (k:=2) ubt H13.m;have H21:=wW (k:=2) ubH uan H13.m H5.m;have H22:=uc (k:=2) ubN H5.m H16.m;have H23:=ub (k:=2) uby H16.m;have H24:=C9 (k:=3) ubv H20.m;have H25:=wX (k:=3) ubI H21.m H5.m H4.m;have H26:=i8 (k:=3) ubM H22.m;have H27:=ue (k:=3) ubV uah uag H23.m H16.m;have H28:=rf (k:=3) ubC uab H18.m H3.m;have H29:=kg (k:=3) ubD H18.m;have H30:=rg (k:=3) ubE H18.m;have H31:=lI (k:=4) ubK uan H25.m H6.m;have H32:=lO (k:=4) ubU uah H6.m H7.m H25.m H26.m;have H33:=xa (k:=5) ubR H4.m H19.m H24.m H31.m H14.m;have H34:=p9 (k:=5) ubT H7.m H4.m H31.m H14.m;have H35:=xb (k:=6) ubQ uak ual H33.m;have H36:=xf (k:=7) ubO uaE H18.m H12.m H35.m H4.m;have H37:=lL (k:=8) ubP uam H36.m;have H38:=uv (k:=9) ubS H18.m H37.m H36.m H15.m H34.m H32.m H27.m H23.m;have H39:=Cb (k:=10) ub1 uah H36.m H38.m;exact Cd (k:=11) F0 uaa uab uai uad uak ual H0.m H17.m H10.m H39.m H38.m H28.m H29.m H30.m
theorem walk {l:PySem.W.OpenLaw} {q:Program} {loose:List Str} {XP:(Str->Option Value)->Heap->Prop} {YP:World->Heap->Prop} {d:DefRec} {K:Params->DT} (ts:List (DY×Str)) (hn:l.most=some 63) (hdf:d.params.defaults=[])
  (hY:∀ (w:World) (h:Heap),YP w h->(K w.params).In h/\∀ p∈ts,h.get? p.1=some (Hg #[])) (hB:∀ w:World,aC (K w.params) ts=true)
  (F:∀ (w:World) (mg:Str->Option Value) (fa:DY) (h:Heap),(K w.params).In h->h.Ns EB mg->mg d.name=some (.ref fa) ->
   ∃ fd:FuncData,(∀ (s:Shared) (u:Value),BindsTo s fd ⟨[u],[]⟩ [("_law_script",u)])/\∀ base:Heap,(K w.params).In base->base.Ns EB mg->FnOk l.prog w (K w.params) mg base CX0 12 fa fd pV (nv (K w.params))) :
  PySem.W.WalkO q loose XP YP l.row.toRowW d [] (fun f vs=>PySem.call f vs) :=
 L2.walk_T (n:=63) (k:=12) (x:="_law_script") (CX:=fun _=>CX0) (sp:=fun w=>nv (K w.params)) ts hn (by decide) hdf ⟨rfl,by decide,by decide⟩ hY hB F (fun _ _ a ns hl hS=>⟨a,ns,rfl,hS,hl,fun _=>rfl⟩) fun _ _ _ _ _ z=>z
end My
namespace PySem.W.Fast
def tw10041075038698971753:Nat:=0
def tw10166184254978521521:Nat:=0
def tw10572671196747161330:Nat:=0
def tw10633138566271670835:Nat:=0
def tw10655564272297856332:Nat:=0
def tw10717460976474985162:Nat:=0
def tw10781929222534430009:Nat:=0
def tw11353284305534689659:Nat:=0
def tw1194241245882229354:Nat:=0
def tw1228858239480239172:Nat:=0
def tw12303167790519226261:Nat:=0
def tw12324409207193652606:Nat:=0
def tw12784488861299927380:Nat:=0
def tw12845502869672773396:Nat:=0
def tw12848895989259910249:Nat:=0
def tw13068033425753856311:Nat:=0
def tw13069612187425867440:Nat:=0
def tw1344470344008931220:Nat:=0
def tw13681646125153686499:Nat:=0
def tw13705796989961296709:Nat:=0
def tw13791933427564297350:Nat:=0
def tw13807071481919525626:Nat:=0
def tw13891385491151907656:Nat:=0
def tw14189583389069547195:Nat:=0
def tw1419714391269076278:Nat:=0
def tw14439132906569779792:Nat:=0
def tw14552645088585298243:Nat:=0
def tw14738903723005902261:Nat:=0
def tw14987785330454016701:Nat:=0
def tw1520367850150844031:Nat:=0
def tw15337744969345952327:Nat:=0
def tw15462216702242839396:Nat:=0
def tw155080635394494624:Nat:=0
def tw15663467623849711565:Nat:=0
def tw15777052638310453093:Nat:=0
def tw15862042948747623205:Nat:=0
def tw15908751550559452508:Nat:=0
def tw15946999246696507440:Nat:=0
def tw15947077948298184727:Nat:=0
def tw15969460462609664275:Nat:=0
def tw162072197840041954:Nat:=0
def tw16368348185409181758:Nat:=0
def tw16401814056031434926:Nat:=0
def tw1672748004531319359:Nat:=0
def tw17031093755797738907:Nat:=0
def tw17091516081011203338:Nat:=0
def tw17178132174091371421:Nat:=0
def tw17495226868880862954:Nat:=0
def tw1754416841144967592:Nat:=0
def tw17562356902716723277:Nat:=0
def tw17586549099637840612:Nat:=0
def tw17599024274228482135:Nat:=0
def tw1769440312541761304:Nat:=0
def tw17813163960656076300:Nat:=0
def tw18325617112077247845:Nat:=0
def tw1839849915339146436:Nat:=0
def tw1852070731933149093:Nat:=0
def tw203418033184495000:Nat:=0
def tw2266977529994759701:Nat:=0
def tw2482223156516127005:Nat:=0
def tw2491538887535043499:Nat:=0
def tw2676232493754333418:Nat:=0
def tw2686430147163920580:Nat:=0
def tw2716060738373815562:Nat:=0
def tw3040121531297206995:Nat:=0
def tw3047802614209789921:Nat:=0
def tw309214858922906609:Nat:=0
def tw3516356807486402477:Nat:=0
def tw3525958032348449532:Nat:=0
def tw3535028104316487099:Nat:=0
def tw354224273840605003:Nat:=0
def tw3578694843247501860:Nat:=0
def tw3595047350069990943:Nat:=0
def tw3619252323819918315:Nat:=0
def tw3683454729582038965:Nat:=0
def tw3832999976757319430:Nat:=0
def tw3849551576268804197:Nat:=0
def tw3995731375775326761:Nat:=0
def tw3996097207589161038:Nat:=0
def tw4159399269150773987:Nat:=0
def tw4483495537609373889:Nat:=0
def tw4531151767865304304:Nat:=0
def tw4619603633985336996:Nat:=0
def tw4649506604950551794:Nat:=0
def tw4672235888164429423:Nat:=0
def tw4999214300227169241:Nat:=0
def tw5369986707976483597:Nat:=0
def tw5448950680904114233:Nat:=0
def tw5795883589722464990:Nat:=0
def tw5858068159125990575:Nat:=0
def tw5868294270939675837:Nat:=0
def tw5920042574420595932:Nat:=0
def tw6131282460673732881:Nat:=0
def tw6175679157681880651:Nat:=0
def tw6318950485493286433:Nat:=0
def tw664892344769421078:Nat:=0
def tw6884804682653950364:Nat:=0
def tw7036226055749802301:Nat:=0
def tw7581568483247555905:Nat:=0
def tw7639492924856858497:Nat:=0
def tw7645757693261999477:Nat:=0
def tw7869418447720884058:Nat:=0
def tw7974528520515726576:Nat:=0
def tw8319774231660566154:Nat:=0
def tw8324118515501062774:Nat:=0
def tw8329765934127780845:Nat:=0
def tw8672981707508466268:Nat:=0
def tw8862592716653437425:Nat:=0
def tw8905036049601628709:Nat:=0
def tw8938193715956607088:Nat:=0
def tw916148052021292578:Nat:=0
def tw9275787707932595799:Nat:=0
def tw9310343900331985497:Nat:=0
def tw9644421333848343715:Nat:=0
def tw9796307080745927996:Nat:=0
end PySem.W.Fast
open PySem PySem.W PyProof.Rows
set_option maxRecDepth 100000 in
set_option maxHeartbeats 0 in
theorem PySem.Challenge.cw_heightrings_k33_areas_turned_holds : PySem.Challenge.rw_heightrings_k33_areas_turned.Holds := by
 w_on;o_law;k_head;(case hw=>w_witness2)
 k_fill
 refine My.walk (l:=PySem.Challenge.rw_heightrings_k33_areas_turned) [] rfl rfl (fun w h Y=>⟨by first | exact PySem.W.kIn_of Y | exact PySem.W.km_in_of Y,fun p hp=>by cases hp⟩) (fun w=>by kernel_rfl) ?F
 case F =>
  intro w mg fa h KX G hmg
  refine' My.all_mk KX G hmg ?a1 ?a2 ?a3 ?a4 ?a5 ?a6 ?a7 ?a8 ?a9 ?a10 ?a11 ?a12 ?a13 ?a14 ?a15 ?a16 ?a17 ?a18 ?a19 ?a20 ?a21 ?a22 ?a23 ?a24 ?a25 ?a26 ?a27 ?a28 ?a29 ?a30 ?a31 ?a32 ?a33 ?a34 ?a35 ?a36 ?a37 ?a38 ?a39 ?a40 ?a41 ?uaH ?uaI ?uaJ ?uaK ?uaL ?uaM ?uaN ?uaO ?uaP ?uaQ ?uaR ?uaS ?uaT ?uaU ?uaV ?uaW 
  (case a1=>refine⟨?_,?_,?_,?_⟩ <;> k_is)
  (case a2=>refine⟨?_,?_,?_,?_⟩ <;> k_is)
  (case a3=>refine⟨?_,?_,?_,?_⟩ <;> k_is)
  (case a4=>refine⟨?_,?_,?_,?_⟩ <;> k_is)
  (case a5=>refine⟨?_,?_,?_,?_⟩ <;> k_is)
  (case a6=>refine⟨?_,?_,?_,?_⟩ <;> k_is)
  (case a7=>refine⟨?_,?_,?_,?_⟩ <;> k_is)
  (case a8=>refine⟨?_,?_,?_,?_⟩ <;> k_is)
  (case a9=>refine⟨?_,?_,?_,?_⟩ <;> k_is)
  (case a10=>refine⟨?_,?_,?_,?_⟩ <;> k_is)
  (case a11=>refine⟨?_,?_,?_,?_⟩ <;> k_is)
  (case a12=>refine⟨?_,?_,?_,?_⟩ <;> k_is)
  (case a13=>refine⟨?_,?_,?_,?_⟩ <;> k_is)
  (case a14=>refine⟨?_,?_,?_,?_⟩ <;> k_is)
  (case a15=>refine⟨?_,?_,?_,?_⟩ <;> k_is)
  (case a16=>refine⟨?_,?_,?_,?_⟩ <;> k_is)
  (case a17=>refine⟨?_,?_,?_,?_⟩ <;> k_is)
  (case a18=>refine⟨?_,?_,?_,?_⟩ <;> k_is)
  (case a19=>refine⟨?_,?_,?_,?_⟩ <;> k_is)
  (case a20=>refine⟨?_,?_,?_,?_⟩ <;> k_is)
  (case a21=>refine⟨?_,?_,?_,?_⟩ <;> k_is)
  (case a22=>refine⟨?_,?_,?_,?_⟩ <;> k_is)
  (case a23=>refine⟨?_,?_,?_,?_⟩ <;> k_is)
  (case a24=>refine⟨?_,?_,?_,?_⟩ <;> k_is)
  (case a25=>refine⟨?_,?_,?_,?_⟩ <;> k_is)
  (case a26=>refine⟨?_,?_,?_,?_⟩ <;> k_is)
  (case a27=>refine⟨?_,?_,?_,?_⟩ <;> k_is)
  (case a28=>refine⟨?_,?_,?_,?_⟩ <;> k_is)
  (case a29=>refine⟨?_,?_,?_,?_⟩ <;> k_is)
  (case a30=>refine⟨?_,?_,?_,?_⟩ <;> k_is)
  (case a31=>refine⟨?_,?_,?_,?_⟩ <;> k_is)
  (case a32=>refine⟨?_,?_,?_,?_⟩ <;> k_is)
  (case a33=>refine⟨?_,?_,?_,?_⟩ <;> k_is)
  (case a34=>refine⟨?_,?_,?_,?_⟩ <;> k_is)
  (case a35=>refine⟨?_,?_,?_,?_⟩ <;> k_is)
  (case a36=>refine⟨?_,?_,?_,?_⟩ <;> k_is)
  (case a37=>refine⟨?_,?_,?_,?_⟩ <;> k_is)
  (case a38=>refine⟨?_,?_,?_,?_⟩ <;> k_is)
  (case a39=>refine⟨?_,?_,?_,?_⟩ <;> k_is)
  (case a40=>refine⟨?_,?_,?_,?_⟩ <;> k_is)
  (case a41=>refine⟨?_,?_,?_,?_⟩ <;> k_is)
  (case uaH=>k_is)
  (case uaI=>k_is)
  (case uaJ=>k_is)
  (case uaK=>k_is)
  (case uaL=>k_is)
  (case uaM=>k_is)
  (case uaN=>k_is)
  (case uaO=>k_is)
  (case uaP=>k_is)
  (case uaQ=>k_is)
  (case uaR=>k_is)
  (case uaS=>k_is)
  (case uaT=>k_is)
  (case uaU=>k_is)
  (case uaV=>k_is)
  (case uaW=>k_is)
end
