import PyProof.Rows.All
import KE.KDictSum
import KE.KEqDict
import KE.KFromBytes
import KE.KIntText
import KE.KLam
import KE.KMinKey
import KE.KNestM
import KE.KRevIter
import KE.KRevSl
import KE.KSortTup
import KE.KTabLook
import KE.KTryMore
import OpenK.ZHead
import PySem.Challenge.RW_heightrings_k44_too_steep
import Wide.FinOn
open List renaming getElem?_eq_getElem → Ia,length_map → Ib,getElem?_eq_some_iff → Ig,mem_cons_of_mem → Ii,mem_cons_self → Ik,getD_eq_getElem?_getD → Il,getElem?_map → Iq,mem_of_getElem? → Ir,mem_cons → Iv,mem_singleton → Iw,getElem?_append_left → Iy,mem_append → Iz,getElem?_append_right → IC,mem_map → ID,length_append → IE,mem_append_right → IF,size_toArray → II,length_cons → IJ,map_cons → IL,map_append → IM,range → IQ,mem_append_left → IY,mem_range → Jb,getElem?_of_mem → Jc,mem_filter → Jd,getElem?_eq_none → Jf,length_range → Jh,getElem?_set_self → Jj,take_length → Jk,mem_flatMap → Jl,getElem_mem → Jm,append_nil → Jo,nodup_cons → Jp,length_filter_le → Jq,length_take → Jt,nodup_append → Jw,filter_cons → Jx,not_mem_nil → Jy,mem_flatten → Jz,map_map → JB,nodup_nil → JC,take_add_one → JE,pairwise_map → JF,length_singleton → JJ,lookup_cons → JK,getElem?_set_ne → JN,toArray → JQ,filter_append → JV,length_set → JX,append_assoc → J0,mem_reverse → J5,getElem?_range → J6,flatMap_append → J7,filterMap_cons → Kj,find?_cons → Kk,getElem_of_mem → Kr,reverse_append → Ks,all_eq_true → Kz,mem_filterMap → KA,replicate → KC,pairwise_cons → KG,pairwise_iff_getElem → KL,length_nil → KP,ext_getElem? → KR,flatMap_cons → KS,getElem?_take_of_lt → KU,map_congr_left → KY,getElem?_replicate → K3,zip_cons_cons → K5,head?_eq_getElem? → K6,forIn_cons → K7,range_succ → K8,take_append_drop → Lc,forIn_nil → Le,reverse_reverse → Lf,mem_erase_of_ne → Lg,take_zero → Lh,exists_cons_of_ne_nil → Li,exists_mem_of_ne_nil → Lm,mem_or_eq_of_mem_set → Ln,length_pos_iff → Lp,findSome?_cons → Lq,all_cons → Lr,length_erase_of_mem → Lu,getElem?_cons_zero → Lx,length_eq_zero_iff → Ly,map_nil → LB,map → LJ,take_succ → LN,length_pos_of_mem → LO,mem_of_head? → LP,length_replicate → LS,getElem_inj → LV,any_cons → LY,getElem?_mapIdx → L9,pairwise_append → Mc,of_mem_zip → Mf,filter_sublist → Mi,mem_map_of_mem → Mj,find?_eq_none → Ms,getLast?_eq_getElem? → MB,drop_eq_getElem_cons → MC,reverse_cons → ME,getElem?_set → MF,getElem?_inj → MG,any_eq_true → MN,nodup_range → MO,map_flatMap → MQ,take_of_length_le → MV,pairwise_lt_range → MX,all_nil → M0,filter_nil → M7,length → Nd,mem_iff_getElem → Ni,mem_of_getLast? → Nn,length_reverse → Nr,filter_flatMap → Nx
open PySem renaming wpAny_bind → Ic,Addr → Ij,wpAny_pure → Ip,wpAny → IK,mainGlobals → IP,starEach → Jg,wpAny_holding → Ji,sizeLine → Jr,wpAny_mono → JD,foldedSetIterable → JG,compareOp → JI,cLine → JR,letOwnedTupleGo → J4,wpAny_truthy_bool → J8,boot_len → Kb,mem_of_lookup → KW,wpAny_specialOf → La,codeAny_mono → LQ,wpAny_execs_cons → LX,wpAny_attempt → L6,wpAny_setField → Mw,wpAny_isInstance → MT,wpAny_rule → NB
open Bool renaming false_ne_true → Ie,and_eq_true → Io,false_eq_true → Js,not_true → JP,false_and → K1,true_and → Lb,not_false → LK,and_true → L5,and_false → Mq,noConfusion → MS,not_not → M3,eq_iff_iff → M5
open PySem.W renaming Frag → Ih,nsIn → Ja,kitOne → Je,mg_none_of → Jn,mg_of → Ju,codeIn → JH,keepIn → JW,fnOf → JZ,findIn → Kh,cellsFrom_some → Kt,tabObj → K0,codeHdIn → Lj,hideAll_get → Lo,specialIn → LA,exmOne → LL,excIn → LZ,hideAll → Me,envX → Mm,callWith_K → Mo,codeRec_of → Mp,methodObj → MD,mroIn → MH,Frag → M4,kla_obj → M6,kla_fn → Nm,codeHd_of_K → Nu
open PySem.Heap renaming get?_push_of_some → Im,lt_size → IA,get?_push_size → IT,get?_update_other → IZ,get?_update_self → Kl,SameBut → KQ,size_push → Ld,size_update → MP,FlyingW → MU
open Nat renaming le_refl → Iu,le_of_ble_eq_true → IG,le_trans → IS,ne_of_lt → IU,zero_le → IV,lt_of_lt_of_le → IW,le_of_lt → JL,lt_succ_of_lt → JO,min_le_right → JY,lt_irrefl → Ka,mul_le_mul → Kc,not_lt_zero → Kf,le_of_eq → Ku,sub_self → Kv,ne_of_gt → Lz,le_of_succ_le → LD,succ_pos → LG,lt_succ_of_le → LI,lt_succ_self → LW,le_succ → L8,lt_succ_iff → Mg,zero_add → Ml,add_assoc → MJ,lt_succ_iff_lt_or_eq → ML,lt_trans → MW,not_lt → NA,mul_succ → NF
open PySem.PyData renaming depthAll → IB,eqv → IX,canLayAll0 → LH,eqvAll → MI
open Array renaming length_toList → IH,getElem?_eq_getElem → JT,getElem?_toList → J9,getD_eq_getD_getElem? → Kw,getElem?_eq_none → Kx,forIn_toList → KH,getD → K4,getElem?_setIfInBounds_ne → LR,mem_toList_iff → Ma,replicate → Mh,getElem?_eq_some_iff → Mr,size_map → Nj,toList_append → Nv
open PySem.PassesOwn renaming never → JA
open Ne renaming symm → JM
open Classical renaming byContradiction → JS,propDecidable → J1
open False renaming elim → JU
open PySem.F renaming plainAttrs_list → J2,slot_list_append → Kd,type_list_append → Ke,slot_tuple_hash → Kp,slot_dict_keyiterator_next → KI,slot_set_contains → Ll,slot_set_add → Mb,slot_dict_getitem → Mz,slot_dict_iter → MZ,args_list_append_2 → Ng,excAttr_ValueError → Nh,type_set_add → Np,entry_list_append → Nq
open PySem.Obj renaming mapSeq → J3,mapFields → L4,data_mapFields → Mv,putSet → MY,isFreed_of_fields → M8
open PyProof.Rows renaming callWith_type1 → Kg,boot_tuple → Kq,boot_sorted → Lv,boot_all → M9,boot_sum → Na,boot_set → Nb
open Int renaming toNat_natCast → Ki,emod_lt_of_pos → Km,emod_nonneg → Lw,le_trans → LM,eq_ofNat_of_zero_le → MR,mul_ediv_add_emod → Nc,toNat_of_nonneg → Ny,zero_add → NC,toNat → NG
open Option renaming isSome_iff_exists → Kn,map_eq_some_iff → Ky,isNone_iff_eq_none → KJ,map_some → KO,getD_some → Lk
open PySem.Str renaming ofString → Ko
open PySem.Builtin.Tuple renaming tupleHashOf → KN
open PySem.Heap.SameBut renaming update → KZ
open PySem.Builtin.Range renaming rangeSize → K2,small → Nw
open Prod renaming ext → K9,fst → MM
open PySem.SetTable renaming toList_insertAt → Ls,sizeAbove → Mu,fill → Nz
open PySem.Calls renaming callWith_builtin → LC,evalArgs_plain → L7,Name_function_global → Mn,call_function_entry → Mx
open PySem.SeqAt.ReadsAll renaming length → LU
open List.Pairwise renaming of_map → Md
open PySem.Builtin.Frozenset renaming oneOther → Mt,addrOf → MK
open PySem.Builtin.SmallTypes renaming nextOf → MA
open PySem.Around renaming frames_deeper → Nf
open PySem.SeqAt renaming eqv_refl → Nk
open PyProof.Rows.KTD renaming datumAt → Nl
open PySem.EntryCells renaming newEntry → Nt
open PySem.Sem renaming wp_mono → NH
open Option renaming some → NQ,none → NW
open PySem renaming PyData → NR,Value → NT,Shared → NU,World → NX,Program → NY,Around → NZ
open Bool renaming true → NS,false → NV
set_option Elab.async false
set_option linter.all false
set_option maxRecDepth 100000
set_option maxHeartbeats 4000000
abbrev N6:=List NT
abbrev N7:=Option NT
abbrev N8:=List Ij
abbrev N9:=List (Ij×PySem.Obj)
abbrev Oa:=List PySem.Str
abbrev Ob:=List PySem.Env
abbrev Oc:=Option Ij
abbrev Od:=List PySem.Expr
abbrev Oe:=List PySem.Stmt
abbrev Of:=List PySem.Keyword
abbrev Og:=Option PySem.NameKind
abbrev Oh:=List Int
abbrev Oi:=Option Nat
abbrev Oj:=List (PySem.Str×PySem.NameKind)
abbrev Ol:=List (PySem.Str×Ij)
abbrev Om:=List Nat
abbrev Oo:=List NR
abbrev Oq:=Option Bool
abbrev Ot:=List (List Int)
abbrev Ou:=List Bool
abbrev Ov:=List (NR×Ij)
abbrev Ow:=List (NR×NR)
abbrev Ox:=List (NR×Ij×NT)
abbrev Oy:=List (PySem.Str×List Int)
abbrev Oz:=List (PySem.Expr×PySem.Expr)
abbrev OA:=List (Ij×PySem.Str)
abbrev OB:=List (NR×List NR)
abbrev OD:=List (Int×Int×Int)
theorem N1 {c:Type _} {a b:c} (h:NQ a=NQ b):a=b:=Option.some.inj h
theorem N2 {a b:Prop} (h:a):a\/b:=Or.inl h
theorem N3 {a b:Prop} (h:b):a\/b:=Or.inr h
theorem N4 {p:Prop} [h:Decidable p]:decide p=NS->p:=of_decide_eq_true
theorem N5 {p:Prop} [h:Decidable p]:decide p=NV->¬p:=of_decide_eq_false
theorem NL.{u} {c:Prop} {h:Decidable c} (q:¬c) {a:Sort u} {t e:a}:(ite c t e)=e:=if_neg q
theorem NM.{u} {c:Prop} {h:Decidable c} (q:c) {a:Sort u} {t e:a}:(ite c t e)=t:=if_pos q
theorem NN {p:Prop} [h:Decidable p]:p → decide p=NS:=decide_eq_true
theorem NP {p:Prop} [h:Decidable p]:¬p → decide p=NV:=decide_eq_false
section
namespace L2
open PySem PySem.Spec PyProof.Rows
abbrev Key:=Sum Int Str
noncomputable def Ed:Key->NT->Bool
 | .inl k,v=>Value.isInt k v
 | .inr x,v=>Value.isStrOf x v
noncomputable def HP (w:NX):Key->Int
 | .inl k=>hashInt k
 | .inr x=>hashStr w x
theorem yH:∀ {k:Key} {v:NT},Ed k v=NS->(∃ i t,k=Sum.inl i/\v=Value.int i t) \/ (∃ x t,k=Sum.inr x/\v=Value.str x t)
 | .inl i,v,h=>by
  obtain⟨t,e⟩:=Value.isInt_shape (k:=i) (v:=v) h;exact .inl ⟨i,t,rfl,e⟩
 | .inr x,v,h=>by
  obtain⟨t,e⟩:=Value.isStrOf_shape (x:=x) (v:=v) h;exact .inr ⟨x,t,rfl,e⟩
theorem EG (a b:Int):decide ((Sum.inl a:Key)=Sum.inl b)=(a == b):=by
 by_cases e:a=b
 ·subst e;simp
 ·have h:¬ (Sum.inl a:Key)=Sum.inl b:=λq=>e (Sum.inl.inj q);rw [NP h];exact (beq_eq_false_iff_ne.mpr e).symm
theorem EH (a b:Str):decide ((Sum.inr a:Key)=Sum.inr b)=decide (a=b):=by
 by_cases e:a=b
 ·subst e;simp
 ·have h:¬ (Sum.inr a:Key)=Sum.inr b:=λq=>e (Sum.inr.inj q);rw [NP h,NP e]
theorem EI (a:Int) (b:Str):decide ((Sum.inl a:Key)=Sum.inr b)=NV:=NP (λq=>nomatch q)
theorem EJ (a:Str) (b:Int):decide ((Sum.inr a:Key)=Sum.inl b)=NV:=NP (λq=>nomatch q)
noncomputable def kr (prog:NY) (w:NX):PySem.KeyKind prog w Key where
 is:=Ed
 hash:=HP w
 inj:=λv a b l f=>by
  rcases yH l with⟨i,t,rfl,rfl⟩ | ⟨x,t,rfl,rfl⟩
  ·rcases yH f with⟨j,u,rfl,e⟩ | ⟨y,u,rfl,e⟩
   ·injection e with c _;rw [c]
   ·exact nomatch e
  ·rcases yH f with⟨j,u,rfl,e⟩ | ⟨y,u,rfl,e⟩
   ·exact nomatch e
   ·injection e with c _;rw [c]
 byValue:=λk v h=>by
  rcases yH h with⟨i,t,rfl,rfl⟩ | ⟨x,t,rfl,rfl⟩ <;> rfl
 pyHash:=λd h=>by
  rcases yH d with⟨i,t,rfl,rfl⟩ | ⟨x,t,rfl,rfl⟩
  ·exact wpAny_pyHash_int h
  ·exact wpAny_pyHash_str h
 eqBool:=λg d h=>by
  rcases yH g with⟨i,t,rfl,rfl⟩ | ⟨x,t,rfl,rfl⟩
  ·rcases yH d with⟨j,u,rfl,rfl⟩ | ⟨y,u,rfl,rfl⟩
   ·rw [EG] at h;exact wpAny_eqBool_int h
   ·rw [EI] at h;exact SeqAt.EqAt.int_str i t y u _ _ _ _ h
  ·rcases yH d with⟨j,u,rfl,rfl⟩ | ⟨y,u,rfl,rfl⟩
   ·rw [EJ] at h;exact SeqAt.EqAt.str_int x t j u _ _ _ _ h
   ·rw [EH] at h;exact wpAny_eqBool_str h
 «strs»:=λk x t v h=>by
  rcases yH h with⟨i,u,rfl,e⟩ | ⟨y,u,rfl,e⟩
  ·exact nomatch e
  ·injection e with c _;subst c;cases v <;> rfl
inductive V where
 | non | bl (b:Bool) | int (i:Int) | str (x:Str) | byt (b:Array UInt8) | flt (b:UInt64) | ref (a:Ij) | ty (n:String)
 deriving DecidableEq
def RelV:V->NT->Prop
 | .non,u=>u=Value.none
 | .bl b,u=>u=Value.bool b
 | .int i,u=>∃ t,u=Value.int i t
 | .str x,u=>∃ t,u=Value.str x t
 | .byt b,u=>∃ t,u=Value.bytes b t
 | .flt b,u=>∃ t,u=Value.float b t
 | .ref a,u=>u=Value.ref a
 | .ty n,u=>u=Value.type n
abbrev Vals:List V->N6->Prop:=Paired RelV
theorem Vals.length {xs:List V} {a:N6} (r:Vals xs a):xs.length=a.length:=Paired.length r
theorem Vals.get:∀ {xs:List V} {a:N6} {i:Nat} {x:V},Vals xs a->xs[i]?=NQ x->∃ u,a[i]?=NQ u/\RelV x u
 | _,_,_,_,.nil,e=>by simp at e
 | _,_,0,_,.cons r _,e=>by simp at e;subst e;exact⟨_,rfl,r⟩
 | _,_,i+1,x,.cons _ t,e=>by
  obtain⟨u,c,b⟩:=Vals.get (i:=i) (x:=x) t (by simpa using e);exact⟨u,by simpa using c,b⟩
theorem Vals.set {x:V} {u:NT} (r:RelV x u):∀ {xs:List V} {a:N6} (i:Nat),Vals xs a->Vals (xs.set i x) (a.set i u)
 | _,_,_,.nil=>.nil
 | _,_,0,.cons _ t=>.cons r t
 | _,_,i+1,.cons q t=>.cons q (Vals.set r i t)
theorem Vals.append:∀ {xs ys:List V} {b a:N6},Vals xs b->Vals ys a->Vals (xs++ys) (b++a)
 | _,_,_,_,.nil,s=>s
 | _,_,_,_,.cons r t,s=>.cons r (Vals.append t s)
def GP:Option V->N7->Prop
 | some v,NQ u=>RelV v u
 | none,NW=>True
 | _,_=>False
def KV {a:Type}:List (a×V)->List (a×NT)->Prop:=Paired λ(p:a×V) (q:a×NT)=>p.1=q.1/\RelV p.2 q.2
noncomputable def kV:Key->V
 | .inl i=>.int i
 | .inr x=>.str x
inductive HO where
  | lst (xs:List V)
  | tup (xs:List V)
  | dK (kvs:List (Key×V)) | dT (kvs:List (List Key×V))
  | set (S:Int->Bool) (n:Nat)
  | ins (C dx:Ij) (fs:List (Str×V))
  | own (x:Ij)
  | xd (fs:List (Str×V))
  | met (f x:Ij)
  | rng (lo hi:Int)
  | frz (o:Obj) (u:HO)
  | tbl (q:Str)
  | ext (φ:Heap->Prop)
abbrev Hp:=Ij->Option HO
noncomputable def upd (H:Hp) (a:Ij) (o:HO):Hp:=λb=>if b=a then NQ o else H b
theorem zy {H:Hp} {a:Ij} {o:HO}:upd H a o a=NQ o:=by unfold upd;rw [NM rfl]
theorem zx {H:Hp} {a b:Ij} {o:HO} (h:b≠a):upd H a o b=H b:=by unfold upd;rw [NL h]
theorem zN {H:Hp} {a b:Ij} {o:HO} (h:H a=NQ o) (h':H b=NW):a≠b:=by
 intro e;subst e;rw [h] at h';cases h'
section
variable (P:NY) (w:NX)
def ObjOk (H:Hp) (h:Heap) (a:Ij):HO->Prop
 | .lst xs=>xs.length<=Jr/\∃ (its:N6) (n:Nat),Vals xs its/\h.get? a=NQ { cls:=.type "list",data:=.seq its.toArray n }
 | .tup xs=>xs.length<=Jr/\∃ its:N6,Vals xs its/\IsTup h a its.toArray
 | .dK kvs=>kvs.length<=Jr/\(a == sysModules)=NV/\∃ j,KV kvs j/\h.DictOf (kr P w) a j
 | .dT kvs=>kvs.length<=Jr/\(a == sysModules)=NV/\∃ xs:List (List Key×Ij×NT),
   Paired (λ(p:List Key×V) (q:List Key×Ij×NT)=>p.1=q.1/\H q.2.1=NQ (.tup (p.1.map kV))/\RelV p.2 q.2.2) kvs xs /\
   ∃ o es ep,h.get? a=NQ o/\o.ExactDict/\o.data=.dict es ep/\es.toList=xs.map (entryOfKey (tupleKind (kr P w)))/\(xs.map (·.1)).Nodup
 | .set S n=>h.SetOf (intKind P w) a S n
 | .ins C e d=>H e=NQ (.own a)/\d.length<=1000/\e≠a/\h.get? a=NQ (PySem.W.instObj C e) /\
   ∃ b,h.Ns1 e b/\(∀ f,GP (d.lookup f) (b f))/\PySem.Within b (d.map (·.1))
 | .own _=>∃ o,h.get? a=NQ o
 | .xd d=>∃ b,h.Ns1 a b/\∀ f,GP (d.lookup f) (b f)
 | .rng lo r=>∃ t u v,h.get? a=NQ { cls:=.type "range",data:=.fields #[.int lo t,.int r u,.int 1 v] }
 | .frz o u=>h.get? a=NQ o/\ObjOk H h a u
 | .tbl q=>∃ i,h.get? a=NQ (K0 i)/\TriplesOk i.toList/\∀ pos m,codeAmong pos i.toList=NQ m->∃ c,m=.ref c/\H c=NQ (.own a)/\h.CodeRec (.ref c) q
 | .met f x=>h.get? a=NQ (MD (.ref f) (.ref x))
 | .ext g=>g h/\(∃ o,h.get? a=NQ o)/\∀ l k:Heap,g l->(∀ o,l.get? a=NQ o->k.get? a=NQ o)->g k
def HOk (H:Hp) (h:Heap):Prop:=∀ a o,H a=NQ o->ObjOk P w H h a o
end
section
variable {P:NY} {w:NX} {H H':Hp} {h h':Heap} {a:Ij} {o:HO}
theorem ObjOk.lt (x:ObjOk P w H h a o):a<h.objs.size:=by
 cases o with
 | lst c=>obtain⟨_,_,_,_,e⟩:=x;exact IA e
 | tup c=>obtain⟨_,_,_,p⟩:=x;exact p.lt
 | dK b=>obtain⟨_,_,_,_,o,_,_,e,_⟩:=x;exact IA e
 | dT b=>obtain⟨_,_,_,_,o,_,_,e,_⟩:=x;exact IA e
 | set S n=>obtain⟨o,_,_,_,e,_⟩:=x;exact IA e
 | ins C k d=>obtain⟨_,_,_,e,_⟩:=x;exact IA e
 | own y=>obtain⟨_,e⟩:=x;exact IA e
 | xd d=>obtain⟨_,⟨_,_,_,e,_⟩,_⟩:=x;exact IA e
 | rng lo j=>obtain⟨_,_,_,e⟩:=x;exact IA e
 | frz i u=>obtain⟨e,_⟩:=x;exact IA e
 | tbl q=>obtain⟨_,e,_⟩:=x;exact IA e
 | met f y=>exact IA (show h.get? a=NQ _ from x)
 | ext g=>obtain⟨_,⟨_,e⟩,_⟩:=x;exact IA e
theorem Paired.mapP {e d:Type} {F G:e->d->Prop}:∀ {l₁:List e} {c:List d},Paired F l₁ c->(∀ a b,F a b->G a b)->Paired G l₁ c
 | _,_,.nil,_=>.nil
 | _,_,.cons r t,f=>.cons (f _ _ r) (Paired.mapP t f)
theorem ObjOk.stay (x:ObjOk P w H h a o) (k:∀ b u,(b=a \/ H b=NQ (.own a))->h.get? b=NQ u->h'.get? b=NQ u)
  (E:∀ b,H b=NQ (.own a)->H' b=NQ (.own a)) (M:∀ b xs,H b=NQ (.tup xs)->H' b=NQ (.tup xs)):ObjOk P w H' h' a o:=by
 induction o with
 | lst xs=>obtain⟨z,l,n,r,e⟩:=x;exact⟨z,l,n,r,k _ _ (.inl rfl) e⟩
 | tup xs=>obtain⟨z,l,r,g,e,c⟩:=x;exact⟨z,l,r,g,k _ _ (.inl rfl) e,c⟩
 | dK B=>obtain⟨z,y,m,r,g,i,j,e,c⟩:=x;exact⟨z,y,m,r,g,i,j,k _ _ (.inl rfl) e,c⟩
 | dT B =>
  obtain⟨z,y,xs,r,g,i,j,e,c⟩:=x;exact⟨z,y,xs,Paired.mapP r λp q z=>⟨z.1,M _ _ z.2.1,z.2.2⟩,g,i,j,k _ _ (.inl rfl) e,c⟩
 | set S n=>obtain⟨g,i,j,t,e,c⟩:=x;exact⟨g,i,j,t,k _ _ (.inl rfl) e,c⟩
 | ins C Y N =>
  obtain⟨d,z,L,e,A,⟨s,i,j,D,c⟩,r⟩:=x;exact⟨E _ d,z,L,k _ _ (.inl rfl) e,A,⟨s,i,j,k _ _ (.inr d) D,c⟩,r⟩
 | own y=>obtain⟨g,e⟩:=x;exact⟨g,k _ _ (.inl rfl) e⟩
 | xd N=>obtain⟨A,⟨s,i,j,e,c⟩,r⟩:=x;exact⟨A,⟨s,i,j,k _ _ (.inl rfl) e,c⟩,r⟩
 | rng lo X=>obtain⟨t,u,v,e⟩:=x;exact⟨t,u,v,k _ _ (.inl rfl) e⟩
 | frz g u ih=>obtain⟨e,q⟩:=x;exact⟨k _ _ (.inl rfl) e,ih q⟩
 | tbl q =>
  obtain⟨J,e,G,r⟩:=x;refine⟨J,k _ _ (.inl rfl) e,G,λpos U z=>?_⟩;obtain⟨c,O,F,Z,K,m,I,D,T,R,Q⟩:=r pos U z;cases D;exact⟨c,O,E _ F,c,K,m,I,rfl,k _ _ (.inr F) T,R,Q⟩
 | met f y =>
  have e:h.get? a=NQ (MD (.ref f) (.ref y)):=x;show h'.get? a=NQ (MD (.ref f) (.ref y));exact k a _ (.inl rfl) e
 | ext W=>obtain⟨p,⟨o,e⟩,st⟩:=x;exact⟨st _ _ p λo q=>k _ _ (.inl rfl) q,⟨o,k _ _ (.inl rfl) e⟩,st⟩
theorem HOk.lt (x:HOk P w H h) (e:H a=NQ o):a<h.objs.size:=(x a o e).lt
theorem HOk.fresh (x:HOk P w H h) (e:h.objs.size<=a):H a=NW:=by
 cases q:H a with
 | none=>rfl
 | some u=>exact absurd (IW (x.lt q) e) (Ka _)
theorem HOk.kept (x:HOk P w H h) (k:∀ b u,h.get? b=NQ u->h'.get? b=NQ u):HOk P w H h':=λa o e =>
 (x a o e).stay (λb u _ q=>k b u q) (λ_ q=>q) λ_ _ q=>q
theorem HOk.laid (x:HOk P w H h) (k:∀ b u,h.get? b=NQ u->h'.get? b=NQ u) (i:h.objs.size<=a) (d:ObjOk P w (upd H a o) h' a o):HOk P w (upd H a o) h':=λb u e=>by
 have f:=x.fresh i;by_cases g:b=a
 ·subst g;rw [zy] at e;cases e;exact d
 ·rw [zx g] at e;exact (x b u e).stay (λc v _ q=>k c v q) (λc q=>by rw [zx (zN q f)];exact q) λc j q=>by rw [zx (zN q f)];exact q
end
def Rd (H:Hp) (a:Ij) (u:HO):Prop:=H a=NQ u \/ ∃ o,H a=NQ (.frz o u)
theorem Rd.ok {P:NY} {w:NX} {H:Hp} {h:Heap} {a:Ij} {u:HO} (r:Rd H a u) (x:HOk P w H h):ObjOk P w H h a u:=by
 rcases r with r | ⟨o,r⟩
 ·exact x a u r
 ·obtain⟨_,q⟩:=x a _ r;exact q
def Mut:Option HO->Prop
 | some (.lst _)=>True
 | some (.dK _)=>True
 | some (.dT _)=>True
 | some (.set _ _)=>True
 | some (.ins _ _ _)=>True
 | some (.ext _)=>True
 | _=>False
section
variable {P:NY} {w:NX} {H:Hp} {h h':Heap} {x e:Ij} {o':HO}
theorem HOk.write (s:HOk P w H h) (i:Mut (H x)) (p:e=x \/ H e=NQ (.own x)) (k:∀ b u,b≠e->h.get? b=NQ u->h'.get? b=NQ u) (n:∃ u,h'.get? e=NQ u)
  (m:ObjOk P w (upd H x o') h' x o'):HOk P w (upd H x o') h':=λb u q=>by
 have d:∀ c y,H c=NQ (.own y)->c≠x:=λc y r z=>by subst z;rw [r] at i;exact i
 have f:∀ c g,H c=NQ (.tup g)->c≠x:=λc g r z=>by subst z;rw [r] at i;exact i
 by_cases l:b=x
 ·subst l;rw [zy] at q;cases q;exact m
 ·rw [zx l] at q;by_cases a:b=e
  ·have o:H b=NQ (.own x):=by
    rcases p with z | z
    ·exact absurd (a.trans z) l
    ·rw [a];exact z
   rw [q] at o;cases o;obtain⟨v,t⟩:=n;exact⟨v,by rw [a];exact t⟩
  ·refine (s b u q).stay (λc v j r=>k c v ?_ r) (λc r=>by rw [zx (d c b r)];exact r) λc g r=>by rw [zx (f c g r)];exact r
   rcases j with rfl | j
   ·exact a
   ·rintro rfl;rcases p with z | z
    ·exact d c b j z
    ·rw [j] at z;cases z;exact l rfl
end
structure Un (fs ex:N8) (H H':Hp) (h h':Heap):Prop where
 keep:∀ b o,h.get? b=NQ o->H b=NW->b∉fs->b∉ex->h'.get? b=NQ o
 slot:∀ b o,h.get? b=NQ o->H b=NW->b∈fs->b∉ex->∃ sl,h'.get? b=NQ { o with slots:=sl }
 free:∀ b o,h.get? b=NQ o->H b=NW->b∉ex->H' b=NW
 there:∀ b o,h.get? b=NQ o->b∉ex->∃ o',h'.get? b=NQ o'
 tups:∀ b xs,H b=NQ (.tup xs)->H' b=NQ (.tup xs)
 frzs:∀ b o u,H b=NQ (.frz o u)->H' b=NQ (.frz o u)
 tbls:∀ b q,H b=NQ (.tbl q)->H' b=NQ (.tbl q)
section
variable {fs fs' ex ex':N8} {H H1 H2:Hp} {h h1 h2 h':Heap} {a x e:Ij} {o:HO}
theorem Un.any (u:Un fs ex H H1 h h1) {b:Ij} {c:Obj} (q:h.get? b=NQ c) (n:H b=NW) (d:b∉ex):∃ g,h1.get? b=NQ { c with slots:=g }:=by
 by_cases f:b∈fs
 ·exact u.slot b c q n f d
 ·exact⟨c.slots,u.keep b c q n f d⟩
theorem Un.kept (k:∀ b u,h.get? b=NQ u->h'.get? b=NQ u):Un fs ex H H h h' :=
 ⟨λb c q _ _ _=>k b c q,λb c q _ _ _=>⟨c.slots,k b c q⟩,λ_ _ _ n _=>n,λb c q _=>⟨c,k b c q⟩,λ_ _ q=>q,λ_ _ _ q=>q,λ_ d q=>by exact q⟩
theorem Un.refl:Un fs ex H H h h:=Un.kept λ_ _ q=>q
theorem Un.laid (k:∀ b u,h.get? b=NQ u->h'.get? b=NQ u) (f:h.objs.size<=a) (c:H a=NW):Un fs ex H (upd H a o) h h' where
 keep:=λb u q _ _ _=>k b u q
 slot:=λb u q _ _ _=>⟨u.slots,k b u q⟩
 free:=λb u q n _=>by rw [zx (IU (IW (IA q) f))];exact n
 there:=λb u q _=>⟨u,k b u q⟩
 tups:=λb d q=>by rw [zx (zN q c)];exact q
 frzs:=λb u d q=>by rw [zx (zN q c)];exact q
 tbls:=λb g q=>by rw [zx (zN q c)];exact q
theorem Un.write (d:Mut (H x)) (p:e=x \/ H e=NQ (.own x)) (k:∀ b u,b≠e->h.get? b=NQ u->h'.get? b=NQ u) (g:∃ u,h'.get? e=NQ u):Un fs ex H (upd H x o) h h':=by
 have i:∀ b,H b=NW->b≠x:=λb n z=>by subst z;rw [n] at d;exact d
 have j:∀ b,H b=NW->b≠e:=λb n z=>by
  subst z;rcases p with r | r
  ·exact i b n r
  ·rw [n] at r;cases r
 have f:∀ b u,H b=NQ u->¬ Mut (NQ u)->b≠x:=λb u q m z=>by subst z;rw [q] at d;exact m d
 refine⟨λb u q n _ _=>k b u (j b n) q,λb u q n _ _=>⟨u.slots,k b u (j b n) q⟩,λb u q n _=>by rw [zx (i b n)];exact n,λb u q _=>?_,
  λb l q=>by rw [zx (f b _ q λz=>z)];exact q,λb u l q=>by rw [zx (f b _ q λz=>z)];exact q,λb s q=>by rw [zx (f b _ q λz=>z)];exact q⟩
 by_cases c:b=e
 ·subst c;exact g
 ·exact⟨u,k b u c q⟩
end
noncomputable def trk (h:Heap) (H:Hp):N8:=(IQ h.objs.size).filter λa=>(H a).isSome
noncomputable def mB (h:Heap) (H:Hp):Heap:=Me h (trk h H)
theorem uS (h:Heap) (H:Hp):(mB h H).objs.size=h.objs.size:=PySem.W.hideAll_size _ _
theorem fE {h:Heap} {H:Hp} {b:Ij} {o:Obj} (e:h.get? b=NQ o) (n:H b=NW):(mB h H).get? b=NQ o :=
 Lo _ e λa=>by
  have q:(H b).isSome=NS:=(Jd.mp a).2;rw [n] at q;simp at q
theorem Cn {h:Heap} {H:Hp} {b:Ij} {o:Obj} (e:(mB h H).get? b=NQ o):h.get? b=NQ o/\H b=NW:=by
 have a:h.get? b=NQ o:=PySem.W.of_hideAll (trk h H) e;refine⟨a,?_⟩;cases q:H b with
 | none=>rfl
 | some x =>
  have c:b∈trk h H:=Jd.mpr ⟨Jb.mpr (IA a),by simp [q]⟩;have z:(mB h H).get? b=NW:=PySem.W.hideAll_none (trk h H) c;rw [z] at e;cases e
noncomputable def jz (g h:Heap) (L:Ij):N9:=(IQ h.objs.size).filterMap λa=>if a=L \/ (g.get? a).isSome=NS then NW else (h.get? a).map λo=>(a,o)
theorem aO {g h:Heap} {L a:Ij} {o:Obj} (d:a≠L) (c:g.get? a=NW) (b:h.get? a=NQ o):(a,o)∈jz g h L :=
 KA.mpr ⟨a,Jb.mpr (IA b),by simp [d,c,b]⟩
theorem fF {g h:Heap} {L:Ij} {p:Ij×Obj} (c:p∈jz g h L):p.1≠L/\g.get? p.1=NW/\h.get? p.1=NQ p.2:=by
 obtain⟨b,_,e⟩:=KA.mp c;split at e
 ·cases e
 ·rename_i a;cases q:h.get? b with
  | none=>rw [q] at e;simp at e
  | some u =>
   rw [q] at e;simp only [KO,Option.some.injEq] at e;subst e;refine⟨λz=>a (.inl z),?_,q⟩;show g.get? b=NW;cases r:g.get? b with
   | none=>rfl
   | some v=>exact (a (.inr (by simp [r]))).elim
noncomputable def rest (g h:Heap) (L d:Ij):N9:=(jz g h L).filter λp=>decide (p.1≠d)
theorem xG {g h:Heap} {L:Ij}:News g L h (jz g h L):=λp d=>let⟨a,b,c⟩:=fF d;⟨c,a,b⟩
structure Mod (K:Ih) (mg:Str->N7) (base:Heap):Prop where
 kin:K.In base
 glob:base.Ns IP mg
 blt:∃ mb,base.Ns builtinsNs mb/\∀ x:Str,x ≠ "__name__"->mb x=bootBuiltins x
 nolimit:base.NoLimit
 bm:∃ b o,mg "__builtins__"=NQ (.ref b)/\b≠builtinsNs/\base.get? b=NQ o/\o.cls=.type "module"/\o.dict=NQ builtinsNs/\o.data=.plain
structure Cx where
 prog:NY
 w:NX
 K:Ih
 mg:Str->N7
 base:Heap
 A:NZ
 N:Oa
 s₀:NU
 H₀:Hp
 env:Env
 outer:Ob
 stack:Ob
 ex:N8
 fn:Str->Bool
 calm:Bool
 pn:N9
 xe:NT->NU->Prop
noncomputable def frs (l:Ob):N8:=l.filterMap (·.frame)
noncomputable abbrev Cx.fs (X:Cx):N8:=frs X.outer
def Vis (a:Scope) (x:Str):Prop:=a.names.lookup x=NQ .local \/ a.names.lookup x=NQ .cell \/ a.names.lookup x=NQ .free
def Loc (a:Scope) (x:Str):Prop:=a.names.lookup x=NQ .local \/ a.names.lookup x=NQ .cell
def Look (env:Env) (h:Heap) (m:Str->N7) (x:Str) (u:NT):Prop :=
 (env.kindOf x=NQ .local/\m x=NQ u) \/ ((env.kindOf x=NQ .cell \/ env.kindOf x=NQ .free)/\∃ c,env.cells.lookup x=NQ c/\h.IsCell c (NQ u))
noncomputable def v5:Oa:=["least_kept","pair_beside","peaks","_law_inside","_law_crossed"]
noncomputable def lamQ (q:Str):Str:=(q ++ ".<locals>.") ++ "<lambda>"
noncomputable def aK (K:Ih) (c P:Ij):Bool:=Lj K c P && (K.lookup P).isNone
theorem mC {K:Ih} {c P:Ij} (h:aK K c P=NS):Lj K c P=NS/\K.lookup P=NW:=by
 unfold aK at h;rw [Io,KJ] at h;exact h
def TabsOk (K:Ih) (H:Hp):Prop:=∀ c P q,q∈v5->aK K c P=NS->JH K (.ref c) q=NS->H P=NQ (.tbl (lamQ q))
structure Cx.Ok (X:Cx):Prop where
 mod:Mod X.K X.mg X.base
 kind:X.env.scope.kind=.function
 glob:X.env.globals=IP
 blt:X.env.builtins=builtinsNs
 above:X.s₀.heap.objs.size<=X.env.locals
 inj:∀ x y c,X.env.cells.lookup x=NQ c->X.env.cells.lookup y=NQ c->x=y
 has:∀ x,(X.env.kindOf x=NQ .cell \/ X.env.kindOf x=NQ .free)->∃ c,X.env.cells.lookup x=NQ c
 cab:∀ x c,X.fn x=NS->X.env.cells.lookup x=NQ c->X.s₀.heap.objs.size<=c
 hd:X.calm=NS->X.A.handled=NW
 frames:X.A.frames=NQ X.stack
 stk:X.stack=X.outer \/ (X.stack=X.env :: X.outer/\X.env.frame=NQ X.env.locals)
 exf:∀ b∈X.ex,b≠X.env.locals/\∀ x c,X.env.cells.lookup x=NQ c->c≠b
 bs:∀ b o,X.base.get? b=NQ o->X.s₀.heap.get? b=NQ o/\X.H₀ b=NW
 bsz:X.base.objs.size<=X.s₀.heap.objs.size
 noex:∀ b o,X.base.get? b=NQ o->b∉X.ex
 exfs:∀ b∈X.ex,b∉X.fs
 funs:X.s₀.heap.FunFrames X.base X.outer
 frf:∀ b∈X.fs,X.H₀ b=NW
 tabs:TabsOk X.K X.H₀
structure Inv (X:Cx) (NJ:N9) (σ:List (Option V)) (H:Hp) (s:NU):Prop where
 ok:X.Ok
 os:s.os=X.s₀.os
 bare:AllBare s.gens
 base:Un X.fs X.ex X.H₀ H X.s₀.heap s.heap
 loc:∃ m,s.heap.Ns X.env.locals m/\∀ (i:Nat) (x:Str) (v:V),X.N[i]?=NQ x->σ[i]?=NQ (NQ v)->Vis X.env.scope x->∃ u,RelV v u/\Look X.env s.heap m x u
 cell:∀ x c,X.env.cells.lookup x=NQ c->∃ v,s.heap.IsCell c v
 free:H X.env.locals=NW
 freeC:∀ x c,X.env.cells.lookup x=NQ c->H c=NW
 pin:∀ p∈X.pn++NJ,s.heap.get? p.1=NQ p.2/\H p.1=NW/\p.1≠X.env.locals/\p.1∉X.fs/\∀ v,p.2.data≠.cell v
 hok:HOk X.prog X.w H s.heap
 len:σ.length=X.N.length
section
variable {X:Cx} {NJ:N9} {σ:List (Option V)} {H H':Hp} {s:NU} {h':Heap}
theorem Cx.Ok.nofr (a:X.Ok) {b:Ij} {o:Obj} (e:X.base.get? b=NQ o):b∉X.fs:=λc=>by
 have:=(a.funs.mem c).1;rw [e] at this;cases this
theorem Inv.bs (I:Inv X NJ σ H s):∀ b o,X.base.get? b=NQ o->s.heap.get? b=NQ o/\H b=NW:=λb o e =>
 ⟨I.base.keep b o (I.ok.bs b o e).1 (I.ok.bs b o e).2 (I.ok.nofr e) (I.ok.noex b o e),I.base.free b o (I.ok.bs b o e).1 (I.ok.bs b o e).2 (I.ok.noex b o e)⟩
theorem Inv.bk (I:Inv X NJ σ H s):∀ b o,X.base.get? b=NQ o->s.heap.get? b=NQ o:=λb o e=>(I.bs b o e).1
theorem Inv.mod (I:Inv X NJ σ H s):Mod X.K X.mg X.base:=I.ok.mod
theorem Inv.kIn (I:Inv X NJ σ H s):X.K.In s.heap:=I.ok.mod.kin.keeps I.bk
theorem Inv.nolimit (I:Inv X NJ σ H s):s.heap.NoLimit:=I.ok.mod.nolimit.keeps I.bk
theorem Inv.fr (I:Inv X NJ σ H s):∃ m,Fr X.base X.env.locals s.heap m :=
 let⟨m,a,_⟩:=I.loc
 ⟨m,a,I.bk,IS I.ok.bsz I.ok.above⟩
theorem Inv.lt (I:Inv X NJ σ H s):X.env.locals<s.heap.objs.size:=let⟨_,a,_⟩:=I.loc;a.lt
theorem Inv.sz (I:Inv X NJ σ H s):X.s₀.heap.objs.size<=s.heap.objs.size:=IS I.ok.above (JL I.lt)
theorem Inv.nofs (I:Inv X NJ σ H s) {a:Ij} (h:s.heap.objs.size<=a):a∉X.fs:=λc=>by
 obtain⟨_,o,b,_⟩:=I.ok.funs.mem c;exact absurd (IW (IA b) (IS I.sz h)) (Ka _)
theorem Inv.cne (I:Inv X NJ σ H s):∀ x c,X.env.cells.lookup x=NQ c->c≠X.env.locals:=λx c e z=>by
 obtain⟨v,o,d,f⟩:=I.cell x c e;obtain⟨m,⟨g,h,i,a,b,_⟩,_⟩:=I.loc;rw [z,a] at d;cases d;rw [b] at f;cases f
theorem Inv.funs (I:Inv X NJ σ H s):s.heap.FunFrames X.base X.outer:=by
 have all:∀ (l:Ob),(∀ b∈frs l,b∈X.fs)->X.s₀.heap.FunFrames X.base l->s.heap.FunFrames X.base l:=by
  intro l
  induction l with
  | nil=>intro _ _;trivial
  | cons n r ih =>
   intro f j;obtain⟨k,⟨L,o,a,i,h,m⟩,g⟩:=j;have d:L∈X.fs:=f L (by unfold frs;rw [Kj,a];exact Ik);obtain⟨p,e⟩:=I.base.slot L o h (I.ok.frf L d) d λz=>I.ok.exfs L z d;exact⟨k,⟨L,_,a,i,e,m⟩,ih (λb c=>f b (by unfold frs;rw [Kj,a];exact Ii _ c)) g⟩
 exact all X.outer (λ_ c=>c) I.ok.funs
theorem Inv.stack (I:Inv X NJ σ H s):s.heap.FunFrames X.base X.stack:=by
 rcases I.ok.stk with e | ⟨e,b⟩
 ·rw [e];exact I.funs
 ·rw [e];obtain⟨m,a,_⟩:=I.loc;refine .cons (by rw [I.ok.kind];decide) b a ?_ I.funs;exact Heap.get?_none_of_le (IS I.ok.bsz I.ok.above)
theorem Inv.stkSub (I:Inv X NJ σ H s):∀ b∈frs X.stack,b∈X.env.locals :: X.fs:=λb a=>by
 rcases I.ok.stk with e | ⟨e,c⟩
 ·rw [e] at a;exact Ii _ a
 ·rw [e] at a;unfold frs at a;rw [Kj,c] at a;exact a
theorem Inv.stkFree (I:Inv X NJ σ H s):∀ b∈frs X.stack,H b=NW:=λb a=>by
 rcases Iv.mp (I.stkSub b a) with e | a
 ·rw [e];exact I.free
 ·obtain⟨_,o,c,_⟩:=I.ok.funs.mem a;exact I.base.free b o c (I.ok.frf b a) λz=>I.ok.exfs b z a
theorem Inv.step {g':Array GenState} {t':Nat} {d':Drawn} {ch:N8} (I:Inv X NJ σ H s)
  (j:∀ b∈ch,(b∈X.ex \/ X.s₀.heap.objs.size<=b)/\b≠X.env.locals/\(∀ x c,X.env.cells.lookup x=NQ c->c≠b)/\∀ p∈X.pn++NJ,p.1≠b)
  (h:∀ b o,b≠X.env.locals->b∉X.fs->b∉ch->s.heap.get? b=NQ o->H b=NW->h'.get? b=NQ o)
  (A:∀ b o,b≠X.env.locals->b∈X.fs->b∉ch->s.heap.get? b=NQ o->H b=NW->∃ N,h'.get? b=NQ { o with slots:=N }) (f:∀ b o,b∉ch->s.heap.get? b=NQ o->H b=NW->H' b=NW)
  (B:∀ b o,b∉ch->s.heap.get? b=NQ o->∃ J,h'.get? b=NQ J)
  (F:∀ b xs,H b=NQ (.tup xs)->H' b=NQ (.tup xs)) (L:∀ b o u,H b=NQ (.frz o u)->H' b=NQ (.frz o u)) (G:∀ b q,H b=NQ (.tbl q)->H' b=NQ (.tbl q))
  (ns:∀ m,s.heap.Ns X.env.locals m->h'.Ns X.env.locals m) (O:HOk X.prog X.w H' h') (hg:AllBare g') :
  Inv X NJ σ H' { s with heap:=h',gens:=g',drawn:=d',toks:=t' }:=by
 have K:∀ b o,X.s₀.heap.get? b=NQ o->b≠X.env.locals:=λb o e=>IU (IW (IA e) I.ok.above);have y:∀ b o,X.s₀.heap.get? b=NQ o->b∉X.ex->b∉ch:=λb o e a C=>by
  rcases (j b C).1 with z | z
  ·exact a z
  ·exact absurd (IW (IA e) z) (Ka _)
 have t:∀ x c,X.env.cells.lookup x=NQ c->∀ v,s.heap.IsCell c v->h'.IsCell c v:=λx c e v ⟨o,E,P⟩=>by
  have g:c∉ch:=λz=>(j c z).2.2.1 x c e rfl;by_cases U:c∈X.fs
  ·obtain⟨N,q⟩:=A c o (I.cne x c e) U g E (I.freeC x c e);exact⟨_,q,P⟩
  ·exact⟨o,h c o (I.cne x c e) U g E (I.freeC x c e),P⟩
 refine⟨I.ok,I.os,hg,⟨λb o e n C a=>?_,λb o e n C a=>?_,λb o e n a=>?_,λb o e a=>?_,λb xs e=>F b xs (I.base.tups b xs e),λb o xs e=>L b o xs (I.base.frzs b o xs e),λb ps e=>?_⟩,?_,λx c e=>?_,?_,λx c e=>?_,λp T=>?_,O,I.len⟩
 ·exact h b o (K b o e) C (y b o e a) (I.base.keep b o e n C a) (I.base.free b o e n a)
 ·obtain⟨N,D⟩:=I.base.slot b o e n C a;obtain⟨M,Q⟩:=A b _ (K b o e) C (y b o e a) D (I.base.free b o e n a);exact⟨M,Q⟩
 ·obtain⟨J,D⟩:=I.base.there b o e a;exact f b J (y b o e a) D (I.base.free b o e n a)
 ·obtain⟨J,D⟩:=I.base.there b o e a;exact B b J (y b o e a) D
 ·exact G b _ (I.base.tbls b _ e)
 ·obtain⟨m,W,Y⟩:=I.loc;refine⟨m,ns m W,λi x v D Q Z=>?_⟩;obtain⟨u,r,l⟩:=Y i x v D Q Z;refine⟨u,r,?_⟩;rcases l with l | ⟨k,c,e,z⟩
  ·exact .inl l
  ·exact .inr ⟨k,c,e,t x c e _ z⟩
 ·obtain⟨v,z⟩:=I.cell x c e;exact⟨v,t x c e v z⟩
 ·obtain⟨m,⟨o,_,_,E,_⟩,_⟩:=I.loc;exact f _ o (λz=>(j _ z).2.1 rfl) E I.free
 ·obtain⟨v,o,E,P⟩:=I.cell x c e;exact f c o (λz=>(j c z).2.2.1 x c e rfl) E (I.freeC x c e)
 ·obtain⟨e,n,S,R,d⟩:=I.pin p T;have g:p.1∉ch:=λz=>(j p.1 z).2.2.2 p T rfl;exact⟨h p.1 p.2 S R g e n,f p.1 p.2 g e n,S,R,d⟩
theorem Inv.un {t':Nat} (I:Inv X NJ σ H s) (u:Un X.fs [] H H' s.heap h') (c:HOk X.prog X.w H' h'):Inv X NJ σ H' { s with heap:=h',toks:=t' }:=by
 obtain⟨m,⟨o,t,v,h,r⟩,_⟩:=id I.loc;obtain⟨l,k⟩:=u.any h I.free (by simp);exact I.step (g':=s.gens) (d':=s.drawn) (ch:=[]) (λ_ z=>nomatch z) (λb o _ d _ e n=>u.keep b o e n d (by simp)) (λb o _ d _ e n=>u.slot b o e n d (by simp)) (λb o _ e n=>u.free b o e n (by simp)) (λb o _ e=>u.there b o e (by simp)) u.tups u.frzs u.tbls (λq j=>by
  obtain⟨p,f,g,a,i⟩:=j;rw [h] at a;cases a;exact⟨_,f,g,k,i⟩) c I.bare
theorem Inv.call {g':Array GenState} {t':Nat} {d':Drawn} {ch:N8} (I:Inv X NJ σ H s) (u:Un (frs X.stack) ch H H' s.heap h') (g:HOk X.prog X.w H' h') (hg:AllBare g')
  (f:∀ b∈ch,(b∈X.ex \/ X.s₀.heap.objs.size<=b)/\b≠X.env.locals/\(∀ x c,X.env.cells.lookup x=NQ c->c≠b)/\∀ p∈X.pn++NJ,p.1≠b) :
  Inv X NJ σ H' { s with heap:=h',gens:=g',drawn:=d',toks:=t' }:=by
 obtain⟨m,⟨o,B,C,k,r⟩,_⟩:=id I.loc;obtain⟨v,h⟩:=u.any k I.free λz=>(f _ z).2.1 rfl;exact I.step (ch:=ch) f (λb o h t a e n=>u.keep b o e n (λz=>(Iv.mp (I.stkSub b z)).elim h t) a) (λb o _ _ a e n=>u.any e n a) (λb o a e n=>u.free b o e n a) (λb o a e=>u.there b o e a) u.tups u.frzs u.tbls (λA q=>by
  obtain⟨y,i,j,d,l⟩:=q;rw [k] at d;cases d;exact⟨_,i,j,h,l⟩) g hg
theorem Inv.turned {t':Nat} {a:Ij} (I:Inv X NJ σ H s) (k:∀ b o,b≠a->s.heap.get? b=NQ o->h'.get? b=NQ o) (i:H a=NW) (g:a≠X.env.locals)
  (y:a∈X.ex \/ X.s₀.heap.objs.size<=a) (w:∀ x c,X.env.cells.lookup x=NQ c->c≠a) (t:∀ p∈X.pn++NJ,p.1≠a):Inv X NJ σ H { s with heap:=h',toks:=t' }:=by
 have f:∀ b u,H b=NQ u->b≠a:=λb u e z=>by rw [z,i] at e;cases e
 refine I.step (g':=s.gens) (d':=s.drawn) (ch:=[a]) (λb l=>?_) (λb o _ _ d e _=>k b o (λz=>d (by simp [z])) e) (λb o _ _ d e _=>⟨o.slots,k b o (λz=>d (by simp [z])) e⟩) (λ_ _ _ _ n=>n)
  (λb o d e=>⟨o,k b o (λz=>d (by simp [z])) e⟩) (λ_ _ e=>e) (λ_ _ _ e=>e) (λb C e=>by exact e) (λm j=>?_) (λb u e=>?_) I.bare
 ·have e:b=a:=by simpa using l
  subst e;exact⟨y,g,w,t⟩
 ·obtain⟨o,A,B,h,r⟩:=j;exact⟨o,A,B,k _ o (JM g) h,r⟩
 ·refine (I.hok b u e).stay (λc v d q=>k c v ?_ q) (λ_ q=>q) λ_ _ q=>q;rcases d with z | z
  ·rw [z];exact f b u e
  ·exact f c _ z
theorem Inv.tok (I:Inv X NJ σ H s) (t:Nat):Inv X NJ σ H { s with toks:=t }:=I.un (h':=s.heap) (t':=t) Un.refl I.hok
theorem Inv.kept {t':Nat} (I:Inv X NJ σ H s) (k:∀ b u,s.heap.get? b=NQ u->h'.get? b=NQ u):Inv X NJ σ H { s with heap:=h',toks:=t' }:=I.un (Un.kept k) (I.hok.kept k)
theorem Inv.laid {a:Ij} {o:HO} {t':Nat} (I:Inv X NJ σ H s) (k:∀ b u,s.heap.get? b=NQ u->h'.get? b=NQ u) (d:s.heap.objs.size<=a) (c:ObjOk X.prog X.w (upd H a o) h' a o) :
  Inv X NJ σ (upd H a o) { s with heap:=h',toks:=t' }:=I.un (Un.laid k d (I.hok.fresh d)) (I.hok.laid k d c)
theorem Inv.write {x e:Ij} {o:HO} {t':Nat} (I:Inv X NJ σ H s) (d:Mut (H x)) (f:e=x \/ H e=NQ (.own x)) (k:∀ b u,b≠e->s.heap.get? b=NQ u->h'.get? b=NQ u) (a:∃ u,h'.get? e=NQ u)
  (c:ObjOk X.prog X.w (upd H x o) h' x o):Inv X NJ σ (upd H x o) { s with heap:=h',toks:=t' }:=I.un (Un.write d f k a) (I.hok.write d f k a c)
theorem Inv.pins_of {a:N9} (I:Inv X NJ σ H s) (h:∀ p∈a,s.heap.get? p.1=NQ p.2/\H p.1=NW/\p.1≠X.env.locals/\p.1∉X.fs/\∀ v,p.2.data≠.cell v):Inv X a σ H s :=
 ⟨I.ok,I.os,I.bare,I.base,I.loc,I.cell,I.free,I.freeC,λp b=>(Iz.mp b).elim (λz=>I.pin p (IY _ z)) (h p),I.hok,I.len⟩
theorem fG {N:Oa} (c:N.Nodup) {i j:Nat} {x:Str} (a:N[i]?=NQ x) (b:N[j]?=NQ x):i=j:=by
 obtain⟨g,e⟩:=Ig.mp a;obtain⟨f,d⟩:=Ig.mp b;exact (LV c).mp (e.trans d.symm)
theorem ij {M:Model} {A:NZ} {E:NT->NU->Prop} {i:Nat} {x:Str} {v:V} {u:NT} {Q:Unit->NU->Prop} (I:Inv X NJ σ H s) (hN:X.N.Nodup) (R:X.N[i]?=NQ x) (B:Loc X.env.scope x) (r:RelV v u)
  (h:∀ s',Inv X NJ (σ.set i (NQ v)) H s'->(∃ a,KQ a s.heap s'.heap/\(a=X.env.locals \/ X.env.cells.lookup x=NQ a))->Q () s') (hf:X.fn x=NS \/ X.env.scope.names.lookup x=NQ .local:=by first | exact .inl rfl | exact .inr rfl | assumption):IK M A (storeName X.env x u) Q E s:=by
 obtain⟨m,hn,hl⟩:=id I.loc;have S:(X.env.scope.kind == .class || (X.env.scope.kind == .module && X.env.locals != X.env.globals))=NV:=by rw [I.ok.kind];rfl
 have F:i<σ.length:=by rw [I.len];exact (Ig.mp R).1
 have L:=I.cne;have g:∀ {a:Ij} {h':Heap},(∃ o,s.heap.get? a=NQ o/\H a=NW)->KQ a s.heap h'->HOk X.prog X.w H h':=λ{a h'} ha f b ob e=>by
  obtain⟨_,_,C⟩:=ha;refine (I.hok b ob e).stay (λc W t q=>(f.2 c ?_).trans q) (λ_ q=>q) λ_ _ q=>q;rintro rfl;rcases t with rfl | t
  ·rw [C] at e;cases e
  ·rw [C] at t;cases t
 rcases B with hk | hk
 ·refine wpAny_storeName_local hk hn (λh' hn' f=>?_) S;obtain⟨oL,_,_,hoL,_⟩:=id hn;refine h _ ⟨I.ok,I.os,I.bare,⟨λb o e n K B=>?_,λb o e n K B=>?_,I.base.free,λb o e B=>?_,I.base.tups,I.base.frzs,I.base.tbls⟩,⟨_,hn',λj y v' l D e3=>?_⟩,λy c e=>?_,I.free,I.freeC,λp hp=>?_,g ⟨oL,hoL,I.free⟩ f,by simpa using I.len⟩ ⟨_,f,.inl rfl⟩
  ·exact (f.2 b (IU (IW (IA e) I.ok.above))).trans (I.base.keep b o e n K B)
  ·obtain⟨sl,l⟩:=I.base.slot b o e n K B;exact⟨sl,(f.2 b (IU (IW (IA e) I.ok.above))).trans l⟩
  ·obtain⟨o',l⟩:=I.base.there b o e B;exact⟨o',(f.2 b (IU (IW (IA e) I.ok.above))).trans l⟩
  ·by_cases G:j=i
   ·subst G;rw [R] at l;cases l;rw [Jj F] at D;cases D;exact⟨u,r,.inl ⟨hk,by simp⟩⟩
   ·rw [JN (JM G)] at D;obtain⟨u',r',q⟩:=hl j y v' l D e3;refine⟨u',r',?_⟩;rcases q with⟨k,e⟩ | ⟨k,c,e,z⟩
    ·refine .inl ⟨k,?_⟩;have:y≠x:=λe=>G (fG hN l (e▸R));simp [this,e]
    ·exact .inr ⟨k,c,e,z.sameBut f (L y c e)⟩
  ·obtain⟨W,z⟩:=I.cell y c e;exact⟨W,z.sameBut f (L y c e)⟩
  ·obtain⟨e,n,Y,nf,d⟩:=I.pin p hp;exact⟨(f.2 p.1 Y).trans e,n,Y,nf,d⟩
 ·have J:X.fn x=NS:=by
   rcases hf with z | z
   ·exact z
   ·rw [z] at hk;cases hk
  obtain⟨c,t⟩:=I.ok.has x (.inl hk);obtain⟨W,z⟩:=I.cell x c t;refine wpAny_storeName_cell I.ok.kind hk t z (λh' U f=>?_);obtain⟨oc,P,O⟩:=id z;refine h { s with heap:=h' } ⟨I.ok,I.os,I.bare,⟨λb o e n K B=>?_,λb o e n K B=>?_,I.base.free,λb o e B=>?_,I.base.tups,I.base.frzs,I.base.tbls⟩,⟨m,hn.sameBut f (JM (L x c t)),λj y v' l D e3=>?_⟩,λy Z e=>?_,I.free,I.freeC,λp hp=>?_,g ⟨oc,P,I.freeC x c t⟩ f,by simpa using I.len⟩ ⟨c,f,.inr t⟩
  ·exact (f.2 b (IU (IW (IA e) (I.ok.cab x c J t)))).trans (I.base.keep b o e n K B)
  ·obtain⟨sl,l⟩:=I.base.slot b o e n K B;exact⟨sl,(f.2 b (IU (IW (IA e) (I.ok.cab x c J t)))).trans l⟩
  ·obtain⟨o',l⟩:=I.base.there b o e B;exact⟨o',(f.2 b (IU (IW (IA e) (I.ok.cab x c J t)))).trans l⟩
  ·by_cases G:j=i
   ·subst G;rw [R] at l;cases l;rw [Jj F] at D;cases D;exact⟨u,r,.inr ⟨.inl hk,c,t,U⟩⟩
   ·rw [JN (JM G)] at D;obtain⟨u',r',q⟩:=hl j y v' l D e3;refine⟨u',r',?_⟩;rcases q with q | ⟨k,Z,e,z'⟩
    ·exact .inl q
    ·refine .inr ⟨k,Z,e,z'.sameBut f ?_⟩;rintro rfl;exact G (fG hN l (I.ok.inj _ _ _ e t▸R))
  ·by_cases T:Z=c
   ·subst T;exact⟨_,U⟩
   ·obtain⟨w2,z2⟩:=I.cell y Z e;exact⟨w2,z2.sameBut f T⟩
  ·obtain⟨e,n,Y,nf,d⟩:=I.pin p hp;refine⟨(f.2 p.1 ?_).trans e,n,Y,nf,d⟩;intro q;rw [q,P] at e;have q':oc=p.2:=N1 e;exact d W (by rw [<-q'];exact O)
theorem cG {M:Model} {A:NZ} {E:NT->NU->Prop} {i:Nat} {x:Str} {v:V} {u:NT} {Q:Unit->NU->Prop} (I:Inv X NJ σ H s) (d:X.N.Nodup) (b:X.N[i]?=NQ x) (a:Loc X.env.scope x) (r:RelV v u)
  (h:∀ s',Inv X NJ (σ.set i (NQ v)) H s'->Q () s') (c:X.fn x=NS \/ X.env.scope.names.lookup x=NQ .local:=by first | exact .inl rfl | exact .inr rfl | assumption):IK M A (storeName X.env x u) Q E s :=
 ij I d b a r (λs' e _=>h s' e) c
theorem Inv.call' {s':NU} {ch:N8} (I:Inv X NJ σ H s) (g:s'.os=s.os) (u:Un (frs X.stack) ch H H' s.heap s'.heap) (a:HOk X.prog X.w H' s'.heap) (hg:AllBare s'.gens)
  (d:∀ b∈ch,(b∈X.ex \/ X.s₀.heap.objs.size<=b)/\b≠X.env.locals/\(∀ x c,X.env.cells.lookup x=NQ c->c≠b)/\∀ p∈X.pn++NJ,p.1≠b):Inv X NJ σ H' s':=by
 obtain⟨h',g',d',t',f⟩:=s';have e:f=s.os:=g;subst e;exact I.call (g':=g') (t':=t') (d':=d') u a hg d
end
abbrev XK:=NT->Oc->Hp->Prop
abbrev St:=List (Option V)
abbrev VK:=V->Hp->Prop
abbrev TE:=St->Hp->VK->Prop
abbrev TT:=St->Hp->(Bool->Hp->Prop)->Prop
abbrev TA:=St->Hp->(List V->Hp->Prop)->Prop
structure Ends where
 nx:St->Hp->Prop
 rt:VK
 bk:St->Hp->Prop:=λ_ _=>False
 ct:St->Hp->Prop:=λ_ _=>False
abbrev TS:=Ends->St->Hp->Prop
def EP (X:Cx) (c:N9) (b:St) (Q:VK) (u:NT) (s':NU):Prop:=∃ v a,Inv X c b a s'/\RelV v u/\Q v a
def TP (X:Cx) (d:N9) (c:St) (Q:Bool->Hp->Prop) (b:Bool) (s':NU):Prop:=∃ a,Inv X d c a s'/\Q b a
def AP (X:Cx) (e:N9) (c:St) (Q:List V->Hp->Prop) (d:N6) (s':NU):Prop:=∃ a b,Inv X e c b s'/\Vals a d/\Q a b
def SP (X:Cx) (c:N9) (D:Ends) (f:Flow) (s':NU):Prop :=
 match f with
 | .next=>∃ a b,Inv X c a b s'/\D.nx a b
 | .brk=>∃ a b,Inv X c a b s'/\D.bk a b
 | .cont=>∃ a b,Inv X c a b s'/\D.ct a b
 | .ret u=>∃ v a b,Inv X c a b s'/\RelV v u/\D.rt v b
def PE (X:Cx) (e:Expr) (t:TE):Prop :=
 ∀ (b:N9) (s:NU) (a:St) (H:Hp) (Q:VK),Inv X b a H s->t a H Q->IK (model X.prog X.w) X.A (eval e X.env) (EP X b a Q) X.xe s
def PT (X:Cx) (e:Expr) (t:TT):Prop :=
 ∀ (b:N9) (s:NU) (a:St) (H:Hp) (Q:Bool->Hp->Prop),Inv X b a H s->t a H Q->IK (model X.prog X.w) X.A (isTrue e X.env (eval e X.env)) (TP X b a Q) X.xe s
def PW (X:Cx) (e:Expr) (t:TT):Prop :=
 ∀ (a:Sem NT) (c:N9) (s:NU) (b:St) (H:Hp) (Q:Bool->Hp->Prop),Inv X c b H s->t b H Q->IK (model X.prog X.w) X.A (isTrue e X.env a) (TP X c b Q) X.xe s
theorem PW.pt {X:Cx} {e:Expr} {t:TT} (h:PW X e t):PT X e t:=h _
def PA (X:Cx) (es:Od) (t:TA):Prop :=
 ∀ (pos:Pos) (b:N9) (s:NU) (a:St) (H:Hp) (Q:List V->Hp->Prop),Inv X b a H s->t a H Q->IK (model X.prog X.w) X.A (spliced (backTo pos (Jg es X.env))) (AP X b a Q) X.xe s
def PS (X:Cx) (st:Stmt) (t:TS):Prop :=
 ∀ (b:N9) (s:NU) (a:St) (H:Hp) (D:Ends),Inv X b a H s->t D a H->IK (model X.prog X.w) X.A (exec st X.env) (SP X b D) X.xe s
def PSs (X:Cx) (st:Oe) (t:TS):Prop :=
 ∀ (b:N9) (s:NU) (a:St) (H:Hp) (D:Ends),Inv X b a H s->t D a H->IK (model X.prog X.w) X.A (execs st X.env) (SP X b D) X.xe s
theorem thn {b:Type} {t:Sem b} {Q c:b->NU->Prop} {M:Model} {A:NZ} {E:NT->NU->Prop} {s:NU} (h:IK M A t Q E s) (d:∀ a s,Q a s->c a s):IK M A t c E s:=JD h d λ_ _ x=>x
section
variable {X:Cx}
def yB (i:Nat):TE:=λa H Q=>∃ v,a[i]?=NQ (NQ v)/\Q v H
def tC (v:V):TE:=λ_ H Q=>Q v H
theorem EK {i:Nat} {x:Str} {pos:Pos} (t:X.N[i]?=NQ x) (n:Vis X.env.scope x) (f:(x == ("__debug__":Str))=NV:=by decide) (g:(x == ("__classdict__":Str))=NV:=by decide):PE X (.Name x pos) (yB i):=by
 intro w s k H Q I h;obtain⟨v,e,h⟩:=h;obtain⟨m,o,q⟩:=I.loc;obtain⟨u,r,l⟩:=q i x v t e n;have d:EP X w k Q u s:=⟨v,H,I,r,h⟩;rcases l with⟨b,p⟩ | ⟨b,c,j,a⟩
 ·exact wpAny_Name (wpAny_loadName_local I.ok.kind b o p d) f
 ·rcases b with b | b
  ·exact wpAny_Name (wpAny_loadName_cell I.ok.kind b j a d) f
  ·exact wpAny_Name (wpAny_loadName_free I.ok.kind b j a d g) f
theorem zp {i j pos}:PE X (.Constant (.int i) j pos) (tC (.int i)):=λ_ _ _ H _ I h=>wpAny_Constant_int ⟨.int i,H,I.tok _,⟨_,rfl⟩,h⟩
theorem cH {b j pos}:PE X (.Constant (.bool b) j pos) (tC (.bl b)):=λ_ _ _ H _ I h=>Constant_bool ⟨.bl b,H,I,rfl,h⟩
theorem ku {j pos}:PE X (.Constant .none j pos) (tC .non):=λ_ _ _ H _ I h=>Constant_none ⟨.non,H,I,rfl,h⟩
theorem yC {x j pos}:PE X (.Constant (.str x) j pos) (tC (.str x)):=λ_ _ _ H _ I h=>Calls.Constant_str ⟨.str x,H,I.tok _,⟨_,rfl⟩,h⟩
def Gl (X:Cx) (x:Str):Prop:=X.env.kindOf x=NQ .globalImplicit
theorem v7 {E:NT->NU->Prop} {d:N9} {s:NU} {a:St} {H:Hp} {x:Str} {u:NT} {pos:Pos} {Q:NT->NU->Prop} (I:Inv X d a H s) (hg:Gl X x) (b:X.mg x=NQ u) (h:Q u s)
  (c:(x == ("__debug__":Str))=NV:=by decide):IK (model X.prog X.w) X.A (eval (.Name x pos) X.env) Q E s :=
 Mn I.ok.kind hg (Calls.loadGlobal_global (by rw [I.ok.glob];exact I.mod.glob.keeps I.bk) b h) c
theorem vE {E:NT->NU->Prop} {i:N9} {s:NU} {a:St} {H:Hp} {x:Str} {u:NT} {pos:Pos} {Q:NT->NU->Prop} (I:Inv X i a H s) (hg:Gl X x) (d:X.mg x=NW) (b:bootBuiltins x=NQ u) (h:Q u s)
  (c:x ≠ "__name__":=by decide) (e:(x == ("__debug__":Str))=NV:=by decide):IK (model X.prog X.w) X.A (eval (.Name x pos) X.env) Q E s:=by
 obtain⟨j,g,f⟩:=I.mod.blt;exact Mn I.ok.kind hg (Calls.loadGlobal_builtin (by rw [I.ok.glob];exact I.mod.glob.keeps I.bk) d (by rw [I.ok.blt];exact g.keeps I.bk) ((f x c).trans b) h) e
theorem jA {x:Str} {v:V} {u:NT} {pos:Pos} (hg:Gl X x) (a:X.mg x=NQ u) (r:RelV v u) (b:(x == ("__debug__":Str))=NV:=by decide):PE X (.Name x pos) (tC v) :=
 λ_ _ _ H _ I h=>v7 I hg a ⟨v,H,I,r,h⟩ b
theorem Co {x:Str} {v:V} {u:NT} {pos:Pos} (hg:Gl X x) (c:X.mg x=NW) (a:bootBuiltins x=NQ u) (r:RelV v u) (b:x ≠ "__name__":=by decide) (d:(x == ("__debug__":Str))=NV:=by decide):PE X (.Name x pos) (tC v) :=
 λ_ _ _ H _ I h=>vE I hg c a ⟨v,H,I,r,h⟩ b d
variable {a b:Expr} {ta tb:TE} {pos:Pos}
variable {tA tB':TT} {rest:Od}
def EL (t u:TT):TT:=λd H Q=>t d H λc e=>if c=NS then u d e Q else Q NV e
def tOr (t u:TT):TT:=λd H Q=>t d H λc e=>if c=NS then Q NS e else u d e Q
def GQ (t:TT):TT:=λd H Q=>t d H λc e=>Q (!c) e
theorem fc (f:PT X a tA):PW X (.BoolOp .And [a] pos) tA:=by
 intro i g s d H Q I h;refine isTrue_and (thn (f g s d H Q I h) λc j e=>?_);cases c with
 | true=>exact isTrue_and_nil e
 | false=>exact e
theorem oP (f:PT X a tA):PW X (.BoolOp .Or [a] pos) tA:=by
 intro i g s d H Q I h;refine isTrue_or (thn (f g s d H Q I h) λc j e=>?_);cases c with
 | false=>exact isTrue_or_nil e
 | true=>exact e
theorem kA (m:PT X a tA) (l:PW X (.BoolOp .And (b :: rest) pos) tB'):PW X (.BoolOp .And (a :: b :: rest) pos) (EL tA tB'):=by
 intro j f s d H Q I h;refine isTrue_and (thn (m f s d H _ I h) λc k ⟨i,g,e⟩=>?_);cases c with
 | true=>exact l j f k d i Q g e
 | false=>exact⟨i,g,e⟩
theorem xH (m:PT X a tA) (l:PW X (.BoolOp .Or (b :: rest) pos) tB'):PW X (.BoolOp .Or (a :: b :: rest) pos) (tOr tA tB'):=by
 intro j f s d H Q I h;refine isTrue_or (thn (m f s d H _ I h) λc k ⟨i,g,e⟩=>?_);cases c with
 | true=>exact⟨i,g,e⟩
 | false=>exact l j f k d i Q g e
theorem bZ (e:PT X a tA):PT X (.UnaryOp .Not a pos) (GQ tA):=by
 intro f s d H Q I h;exact isTrue_not (e f s d H (λc g=>Q (!c) g) I h)
def xI (ta tb:TE):TE:=λd H Q=>ta d H λx e=>∃ c,x=.bl c/\if c=NS then tb d e Q else Q (.bl NV) e
def Ee (ta:TE):TE:=λd H Q=>ta d H λx e=>∃ c,x=.bl c/\Q (.bl (!c)) e
theorem fH {op} {t:TE} (h:PE X a t):PE X (.BoolOp op [a] pos) t:=λe s c H Q I d=>BoolOp_one (h e s c H Q I d)
theorem b6 (m:PE X a ta) (l:PE X (.BoolOp .And (b :: rest) pos) tb):PE X (.BoolOp .And (a :: b :: rest) pos) (xI ta tb):=by
 intro f s e H Q I h;refine BoolOp_and (thn (m f s e H _ I h) λv j ⟨x,i,g,k,d⟩=>?_);obtain⟨c,rfl,d⟩:=d;cases k;refine J8 ?_;cases c with
 | true=>exact l f j e i Q g d
 | false=>exact⟨.bl NV,i,g,rfl,d⟩
theorem xJ (g:PE X a ta):PE X (.UnaryOp .Not a pos) (Ee ta):=by
 intro i s e H Q I h;refine UnaryOp_ (thn (g i s e H _ I h) λv l ⟨x,k,j,f,d⟩=>?_);obtain⟨c,rfl,d⟩:=d;cases f;exact not_of (J8 ⟨.bl (!c),k,j,rfl,d⟩)
def tIf (t:TT) (ta tb:TE):TE:=λd H Q=>t d H λc e=>if c=NS then ta d e Q else tb d e Q
theorem j8 {c:Expr} (l:PT X c tA) (n:PE X a ta) (m:PE X b tb):PE X (.IfExp c a b pos) (tIf tA ta tb):=by
 intro f s e H Q I h;refine wpAny_IfExp (thn (l f s e H _ I h) λd g ⟨k,j,i⟩=>?_);cases d with
 | true=>exact n f g e k Q j i
 | false=>exact m f g e k Q j i
end
def SqL (K:Ih) (H:Hp) (a:Ij) (xs:List V):Prop :=
 Rd H a (.lst xs) \/
  ∃ (o:Obj) (b:Array NT) (n:Nat),K.lookup a=NQ o/\o.cls=.type "list"/\o.dict=NW/\o.data=.seq b n/\b.size<=Jr/\Vals xs b.toList
def SqT (K:Ih) (H:Hp) (a:Ij) (xs:List V):Prop :=
 Rd H a (.tup xs) \/
  ∃ (o:Obj) (b:Array NT) (n:Nat),K.lookup a=NQ o/\o.cls=.type "tuple"/\o.data=.seq b n/\b.size<=Jr/\Vals xs b.toList
noncomputable def HQ:NT->Option V
 | .none=>NQ .non
 | .bool b=>NQ (.bl b)
 | .int i _=>NQ (.int i)
 | .str x _=>NQ (.str x)
 | .bytes b _=>NQ (.byt b)
 | .float b _=>NQ (.flt b)
 | .ref a=>NQ (.ref a)
 | .type n=>NQ (.ty n)
 | _=>NW
theorem RelV.abs {x:V} {u:NT} (r:RelV x u):HQ u=NQ x:=by
 cases x with
 | non=>cases r;rfl
 | bl _=>cases r;rfl
 | int _=>obtain⟨t,rfl⟩:=r;rfl
 | str _=>obtain⟨t,rfl⟩:=r;rfl
 | byt _=>obtain⟨t,rfl⟩:=r;rfl
 | flt _=>obtain⟨t,rfl⟩:=r;rfl
 | ref _=>cases r;rfl
 | ty _=>cases r;rfl
theorem RelV.inj {x y:V} {u:NT} (r:RelV x u) (q:RelV y u):x=y:=N1 (r.abs.symm.trans q.abs)
theorem Vals.inj:∀ {xs ys:List V} {a:N6},Vals xs a->Vals ys a->xs=ys
 | _,_,_,.nil,.nil=>rfl
 | _,_,_,.cons r t,.cons r' t'=>by rw [r.inj r',Vals.inj t t']
section
variable {X:Cx} {NJ:N9} {σ:St} {H:Hp} {s:NU} {a:Ij} {xs ys:List V}
theorem SqL.of {K:Ih} (h:H a=NQ (.lst xs)):SqL K H a xs:=.inl (.inl h)
theorem SqT.of {K:Ih} (h:H a=NQ (.tup xs)):SqT K H a xs:=.inl (.inl h)
theorem Inv.list (I:Inv X NJ σ H s) (h:SqL X.K H a xs):∃ its:N6,Vals xs its/\PlainL s.heap a its.toArray/\xs.length<=Jr:=by
 rcases h with h | ⟨o,its,n,c,f,d,b,g,r⟩
 ·obtain⟨z,its,n,r,e⟩:=h.ok I.hok;exact⟨its,r,⟨_,n,e,rfl,rfl,rfl⟩,z⟩
 ·refine⟨its.toList,r,⟨o,n,I.kIn a o c,f,d,by simpa using b⟩,?_⟩;have e:=r.length;simp only [IH] at e;lia
theorem Inv.tuple (I:Inv X NJ σ H s) (h:SqT X.K H a xs):∃ its:N6,Vals xs its/\IsTup s.heap a its.toArray/\xs.length<=Jr:=by
 rcases h with h | ⟨o,its,n,c,d,b,f,r⟩
 ·obtain⟨z,its,r,p⟩:=h.ok I.hok;exact⟨its,r,p,z⟩
 ·refine⟨its.toList,r,⟨o,I.kIn a o c,d,n,by simpa using b⟩,?_⟩;have e:=r.length;simp only [IH] at e;lia
theorem Inv.list_inj (I:Inv X NJ σ H s) (h:SqL X.K H a xs) (h':SqL X.K H a ys):xs=ys:=by
 obtain⟨c,r,⟨o,n,e,_,_,d⟩,_⟩:=I.list h;obtain⟨b,i,⟨k,l,f,_,_,g⟩,_⟩:=I.list h';rw [e] at f;cases f;rw [d] at g;injection g with j _;have:c=b:=by simpa using congrArg Array.toList j
 subst this;exact r.inj i
theorem Inv.tuple_inj (I:Inv X NJ σ H s) (h:SqT X.K H a xs) (h':SqT X.K H a ys):xs=ys:=by
 obtain⟨c,r,⟨o,e,_,n,d⟩,_⟩:=I.tuple h;obtain⟨b,i,⟨k,f,_,l,g⟩,_⟩:=I.tuple h';rw [e] at f;cases f;rw [d] at g;injection g with j _;have:c=b:=by simpa using congrArg Array.toList j
 subst this;exact r.inj i
end
noncomputable abbrev Cx.wish (X:Cx) (E:NT->NU->Prop):Cx:={ X with xe:=E }
noncomputable abbrev Cx.nox (X:Cx):Cx:=X.wish λ_ _=>False
theorem Cx.Ok.wish {X:Cx} (a:X.Ok) (E:NT->NU->Prop):(X.wish E).Ok :=
 ⟨a.mod,a.kind,a.glob,a.blt,a.above,a.inj,a.has,a.cab,a.hd,a.frames,a.stk,a.exf,a.bs,a.bsz,a.noex,a.exfs,a.funs,a.frf,a.tabs⟩
theorem Cx.Ok.unwish {X:Cx} {E:NT->NU->Prop} (a:(X.wish E).Ok):X.Ok :=
 ⟨a.mod,a.kind,a.glob,a.blt,a.above,a.inj,a.has,a.cab,a.hd,a.frames,a.stk,a.exf,a.bs,a.bsz,a.noex,a.exfs,a.funs,a.frf,a.tabs⟩
section
variable {X:Cx} {NJ:N9} {σ:St} {H:Hp} {s:NU} {E:NT->NU->Prop}
theorem Inv.wish (I:Inv X NJ σ H s) (E:NT->NU->Prop):Inv (X.wish E) NJ σ H s:=⟨I.ok.wish E,I.os,I.bare,I.base,I.loc,I.cell,I.free,I.freeC,I.pin,I.hok,I.len⟩
theorem Inv.unwish (I:Inv (X.wish E) NJ σ H s):Inv X NJ σ H s:=⟨I.ok.unwish,I.os,I.bare,I.base,I.loc,I.cell,I.free,I.freeC,I.pin,I.hok,I.len⟩
theorem SP.unwish {D:Ends} {f:Flow} {s':NU} (h:SP (X.wish E) NJ D f s'):SP X NJ D f s':=by
 cases f with
 | next=>obtain⟨a,b,I,q⟩:=h;exact⟨a,b,I.unwish,q⟩
 | brk=>obtain⟨a,b,I,q⟩:=h;exact⟨a,b,I.unwish,q⟩
 | cont=>obtain⟨a,b,I,q⟩:=h;exact⟨a,b,I.unwish,q⟩
 | ret u=>obtain⟨v,a,b,I,r,q⟩:=h;exact⟨v,a,b,I.unwish,r,q⟩
theorem PSs.nox {st:Oe} {t:TS} (h:PSs X.nox st t):PSs X st t:=λNJ s σ H D I a =>
 JD (h NJ s σ H D (I.wish _) a) (λ_ _ q=>q.unwish) λ_ _ z=>JU z
end
section
variable {X:Cx} {st:Stmt} {rest:Oe} {t u:TS} {e:Expr} {te:TE} {pos:Pos}
def sN:TS:=λD a H=>D.nx a H
def jK (t u:TS):TS:=λD a H=>t { D with nx:=u D } a H
theorem z6:PSs X [] sN:=λ_ _ a H _ I h=>wpAny_execs_nil ⟨a,H,I,h⟩
theorem ze (i:PS X st t) (g:PSs X rest u):PSs X (st :: rest) (jK t u):=by
 intro b s c H D I h;refine LX (thn (i b s c H { D with nx:=u D } I h) λf d q=>?_);cases f with
 | next =>
  obtain⟨a,k,j,q⟩:=q;exact g b d a k D j q
 | ret v=>exact q
 | brk=>exact q
 | cont=>exact q
theorem zm (b:PS X st t):PSs X [st] t:=by
 intro c s a H D I h;refine LX (thn (b c s a H D I h) λf d q=>?_);cases f with
 | next=>exact wpAny_execs_nil q
 | ret v=>exact q
 | brk=>exact q
 | cont=>exact q
theorem Inv.quiet {b:N9} {a:St} {H:Hp} {s:NU} (I:Inv X b a H s):interactive X.env=NV:=by simp [interactive,I.ok.kind]
def sO (te:TE):TS:=λD a H=>te a H λ_ b=>D.nx a b
theorem yI (d:PE X e te) (c:swapsWith e NW pos.line X.env=pure NV:=by rfl):PS X (.Expr e pos) (sO te):=by
 intro f s a H D I h;exact wpAny_Expr_any (thn (d f s a H _ I h) λv j ⟨x,i,g,k,b⟩=>⟨a,i,g,b⟩) I.quiet c
def g9 (te:TE):TS:=λD a H=>te a H D.rt
theorem zz (d:PE X e te):PS X (.Return (NQ e) pos) (g9 te):=by
 intro f s a H D I h;exact wpAny_Return_some (thn (d f s a H _ I h) λv j ⟨x,i,g,b,c⟩=>⟨x,a,i,g,b,c⟩)
def xK (c:TT) (t u:TS):TS:=λD a H=>c a H λb d=>if b=NS then t D a d else u D a d
theorem yL {c:Expr} {a b:Oe} {i:TT} (n:PT X c i) (p:PSs X a t) (o:PSs X b u):PS X (.If c a b pos) (xK i t u):=by
 intro g s f H D I h;refine wpAny_If (thn (n g s f H _ I h) λd j ⟨m,l,k⟩=>?_);cases d with
 | true=>exact p g j f m D l k
 | false=>exact o g j f m D l k
def xM:TS:=λ_ _ _=>False
theorem fI:PS X st xM:=λ_ _ _ _ _ _ h=>h.elim
theorem dO {a:Oe}:PSs X a xM:=λ_ _ _ _ _ _ h=>h.elim
end
abbrev TG:=V->St->Hp->(St->Hp->Prop)->Prop
abbrev TGs:=List V->St->Hp->(St->Hp->Prop)->Prop
def PG (X:Cx) (a:Expr) (t:TG):Prop :=
 ∀ (d:N9) (s:NU) (c:St) (H:Hp) (v:V) (u:NT) (Q:St->Hp->Prop),Inv X d c H s->RelV v u->t v c H Q ->
  IK (model X.prog X.w) X.A (assign a X.env u) (λ_ f=>∃ b e,Inv X d b e f/\Q b e) X.xe s
def PGs (X:Cx) (ts:Od) (t:TGs):Prop :=
 ∀ (e:N9) (s:NU) (b:St) (H:Hp) (c:List V) (d:N6) (Q:St->Hp->Prop),Inv X e b H s->Vals c d->t c b H Q ->
  IK (model X.prog X.w) X.A (assignInOrder ((assignEach ts X.env).map (·.2)) d) (λ_ g=>∃ a f,Inv X e a f g/\Q a f) X.xe s
abbrev EM:=V->V->V->Hp->(Hp->Prop)->Prop
def Cp (X:Cx) (t:EM):Prop :=
 ∀ (d:N9) (s:NU) (a:St) (H:Hp) (o i v:V) (b c u:NT) (Q:Hp->Prop),Inv X d a H s->RelV o b->RelV i c->RelV v u->t o i v H Q ->
  IK (model X.prog X.w) X.A (setItem b c u) (λ_ f=>∃ e,Inv X d a e f/\Q e) X.xe s
section
variable {X:Cx} {pos:Pos}
def yW (i:Nat):TG:=λv a H Q=>Q (a.set i (NQ v)) H
theorem zf {i:Nat} {x:Str} (d:X.N.Nodup) (b:X.N[i]?=NQ x:=by rfl) (a:Loc X.env.scope x:=by exact .inl rfl) (c:X.fn x=NS \/ X.env.scope.names.lookup x=NQ .local:=by first | exact .inl rfl | exact .inr rfl | assumption):PG X (.Name x pos) (yW i):=by
 intro j s f H v u Q I r h;exact wpAny_assign_Name (cG I d b a r (λg e=>⟨_,H,e,h⟩) c)
def EN:TGs:=λb a H Q=>b=[]/\Q a H
def sP (t:TG) (u:TGs):TGs:=λc b H Q=>∃ v r,c=v :: r/\t v b H λa d=>u r a d Q
theorem zF:PGs X [] EN:=by
 intro d s a H b c Q I r h;obtain⟨e,h⟩:=h;subst e;cases r;exact assignInOrder_nil ⟨a,H,I,h⟩
theorem zh {e:Expr} {es:Od} {t:TG} {u:TGs} (k:PG X e t) (j:PGs X es u)
  (i:(assignEach (e :: es) X.env).map (·.2)=assign e X.env :: (assignEach es X.env).map (·.2):=by rfl):PGs X (e :: es) (sP t u):=by
 intro b s c H o q Q I r h;obtain⟨v,p,l,h⟩:=h;subst l;cases r with
 | cons r f =>
  rw [i];refine assignInOrder_cons (thn (k b s c H _ _ _ I r h) λ_ d ⟨a,n,m,g⟩=>?_);exact j b d a n _ _ Q m f g
def Cq (K:Ih) (n:Nat) (t:TGs):TG:=λv c H Q=>∃ a b,v=.ref a/\SqT K H a b/\b.length=n/\t b c H Q
theorem EO {es:Od} {k:Nat} {t:TGs} {n:Nat} (y:X.calm=NS) (h:PGs X es t)
  (w:(assignEach es X.env).length=n:=by rfl) (d:(assignEach es X.env).findIdx? (·.1)=NW:=by rfl):PG X (.Tuple es k pos) (Cq X.K n t):=by
 intro i s f H v u Q I r c;obtain⟨a,j,A,q,x,c⟩:=c;subst A;cases r;obtain⟨l,g,p,C⟩:=I.tuple q;refine assign_Tuple_tuple (I.ok.hd y) p (by simp [w,<- x,g.length]) d λz m=>?_;have B:Inv X i f H { s with heap:=z }:=I.kept (t':=s.toks) λb o e=>m b o (IU (IA e)) e;exact h i _ f H j _ Q B (by simpa using g) c
def oQ (b c:TE) (t:EM):TG:=λv a H Q=>b a H λo f=>c a f λi e=>t o i v e λd=>Q a d
theorem v8 {o i:Expr} {e f:TE} {t:EM} (w:PE X o e) (z:PE X i f) (q:Cp X t)
  (A:∀ v,assign (.Subscript o i pos) X.env v=(do
   let a <- holding [v] (eval o X.env)
   let b <- holding [v,a] (eval i X.env)
   standAt pos
   holding [v,a,b] (setItem a b v)
   release [v,a,b] []):=by intro _;rfl):PG X (.Subscript o i pos) (oQ e f t):=by
 intro d s c H v u Q I r h;rw [A];refine Ic (Ji (thn (w d s c H _ I h) λa j ⟨x,G,D,l,p⟩=>?_));refine Ic (Ji (thn (z d j c G _ D p) λb g ⟨y,F,C,k,n⟩=>?_));refine Ic (wpAny_standAt (Ic (Ji (thn (q d g c F x y v a b u _ C l k r n) λ_ J ⟨E,B,m⟩=>?_))));exact wpAny_release ⟨c,E,B,m⟩
def ve (b:TE) (g:TG):TS:=λD a H=>b a H λx c=>g x a c D.nx
theorem z8 {a e:Expr} {c:TE} {g:TG} (m:PE X e c) (hg:PG X a g) (l:swapsWithSole [a] e pos.line X.env=pure NV:=by rfl) (k:swappedStores [a] e X.env=pure NW:=by rfl)
  (n:(assignEach [a] X.env).map (·.2)=[assign a X.env]:=by rfl):PS X (.Assign [a] e pos) (ve c g):=by
 intro d s b H D I h;refine wpAny_Assign_stores (thn (m d s b H _ I h) λv f ⟨x,p,o,i,j⟩=>?_) l k;rw [n];exact thn (hg d f b p x v _ o i j) λ_ r q=>q
theorem zL {i:Nat} {x:Str} {e:Expr} {b:TE} {a:Pos} (n:X.N.Nodup) (k:X.N[i]?=NQ x) (g:Loc X.env.scope x) (m:PE X e b) (j:swapsWith e (NQ (.Name x a)) pos.line X.env=pure NV:=by rfl) (l:X.fn x=NS \/ X.env.scope.names.lookup x=NQ .local:=by first | exact .inl rfl | exact .inr rfl | assumption) :
  PS X (.Assign [.Name x a] e pos) (ve b (yW i)):=by
 intro o s c H D I h;refine wpAny_Assign_Name (thn (m o s c H _ I h) λv u ⟨y,r,q,d,f⟩=>?_) j;exact cG q n k g d (λt p=>⟨_,r,p,f⟩) l
end
section
variable {X:Cx} {pos:Pos}
def xN (c:TT) (h:TS):TS:=λD a H=>∃ W:Nat->St->Hp->Prop,(∃ m,W m a H)/\∀ m a H,W m a H ->
 c a H λb f=>if b=NS then ∃ N:St->Hp->Prop,(∀ d g,N d g->∃ e,e<m/\W e d g)/\h { D with nx:=N,ct:=N,bk:=D.nx } a f else D.nx a f
theorem mD {c:Expr} {e:Oe} {u:TT} {x:TS} (y:PassesOwn (model X.prog X.w) X.A X.env X.xe) (Q:PT X c u) (R:PSs X e x):PS X (.While c e [] pos) (xN u x):=by
 intro r s G H D I h;obtain⟨W,⟨P,K⟩,i⟩:=h;refine wpAny_While (codeAny_whileLoop (λn O=>∃ g F,Inv X r g F O/\W n g F) ?_ P ⟨G,H,I,K⟩);rintro n M ⟨d,E,S,J⟩;refine wpAny_passesOwn y (thn (Q r M d E _ S (i n d E J)) λb L ⟨C,B,l⟩=>?_);cases b with
 | true =>
  obtain⟨N,z,l⟩:=l;rw [NM rfl];refine wpAny_passesOwn y (thn (R r L d C _ B l) λf T k=>?_);cases f with
  | next =>
   obtain⟨a,j,t,o⟩:=k;obtain⟨p,q,m⟩:=z a j o;exact⟨p,q,a,j,t,m⟩
  | cont =>
   obtain⟨a,j,t,o⟩:=k;obtain⟨p,q,m⟩:=z a j o;exact⟨p,q,a,j,t,m⟩
  | brk=>exact k
  | ret v=>exact k
 | false =>
  rw [NL Ie];exact wpAny_execs_nil ⟨d,C,B,l⟩
end
structure It where
 go:Nat->Hp->Prop
 yld:Nat->Hp->V->Hp->Prop
 stop:Nat->Hp->Prop
def bM (X:Cx) (a:N9) (H:Hp) (b:Ij):Prop :=
 H b=NW/\b≠X.env.locals/\b∉X.fs/\(b∈X.ex \/ X.s₀.heap.objs.size<=b)/\(∀ x c,X.env.cells.lookup x=NQ c->c≠b)/\∀ p∈X.pn++a,p.1≠b
theorem Inv.fpOk {X:Cx} {d:N9} {g:St} {H f:Hp} {s:NU} {b:Ij} (I:Inv X d g H s) (a:s.heap.objs.size<=b) (i:f b=NW):bM X d f b:=by
 refine⟨i,Lz (IW I.lt a),I.nofs a,.inr (IS I.sz a),λx c e z=>?_,λp h z=>?_⟩
 ·obtain⟨v,q⟩:=I.cell x c e;exact absurd (IW q.lt (by rw [z];exact a)) (Ka _)
 ·exact absurd (IW (IA (I.pin p h).1) (by rw [z];exact a)) (Ka _)
structure Turn (P:NY) (w:NX) (K:Ih) (tg:Expr) (J:It) (fp:N8) (it:Ij) (tn:Nat->Heap->Prop):Prop where
 mem:it∈fp
 obj:∀ i h,tn i h->∀ b∈fp,∃ o,h.get? b=NQ o/\∀ v,o.data≠.cell v
 keep:∀ i h h',tn i h->(∀ b∈fp,∀ o,h.get? b=NQ o->h'.get? b=NQ o)->tn i h'
 item:∀ (X:Cx),X.prog=P->X.w=w->X.K=K->X.calm=NS->∀ (i:Nat) (NJ:N9) (s:NU) (σ:St) (H:Hp) (E:NT->NU->Prop),Inv X NJ σ H s->(∀ b∈fp,bM X NJ H b)->tn i s.heap->J.go i H ->
  IK (model P w) X.A (pyNext (.ref it)) (λr s1=>∃ u,r=NQ u /\
   IK (model P w) X.A (J4 tg (.ref it) u) (λ_ s2=>∃ x H',Inv X NJ σ H' s2/\RelV x u/\J.yld i H x H'/\tn (i+1) s2.heap/\∀ b∈fp,H' b=NW) E s1) E s
 done:∀ (X:Cx),X.prog=P->X.w=w->X.K=K->X.calm=NS->∀ (i:Nat) (NJ:N9) (s:NU) (σ:St) (H:Hp) (E:NT->NU->Prop),Inv X NJ σ H s->(∀ b∈fp,bM X NJ H b)->tn i s.heap->J.stop i H ->
  IK (model P w) X.A (pyNext (.ref it)) (λr s1=>r=NW/\Inv X NJ σ H s1) E s
 self:∀ (A:NZ) (i:Nat) (s:NU) (Q:NT->NU->Prop) (E:NT->NU->Prop),tn i s.heap->Q (.ref it) s->IK (model P w) A (pyIter (.ref it)) Q E s
abbrev TI:=St->Hp->(It->Hp->Prop)->Prop
def PIE (X:Cx) (h:N9) (i:St) (j:Expr) (R:It->Hp->Prop) (a:NT) (e:NU):Prop :=
 ∃ (f:Ij) (g:N8) (d:Nat->Heap->Prop) (J:It) (c:Hp),a=.ref f/\Inv X h i c e/\Turn X.prog X.w X.K j J g f d/\d 0 e.heap/\(∀ b∈g,bM X h c b)/\R J c
def PI (X:Cx) (e a:Expr) (d:TI):Prop :=
 ∀ (c:N9) (s:NU) (b:St) (H:Hp) (R:It->Hp->Prop),Inv X c b H s->d b H R ->
  IK (model X.prog X.w) X.A (eval a X.env) (λv f=>IK (model X.prog X.w) X.A (pyIter v) (PIE X c b e R) X.xe f) X.xe s
theorem sQ {M:Model} {A:NZ} {E:NT->NU->Prop} {s:NU} {c:Expr} {d:Ij} {u:NT} {o:Obj} {n:String} {b:Array NT} {Q:Unit->NU->Prop} (e:s.heap.get? d=NQ o) (i:o.cls=.type n) (g:o.data=.fields b)
  (f:["enumerate","zip","dict_itemiterator","dict_reverseitemiterator","odict_iterator","itertools.zip_longest","itertools.pairwise"].contains n=NV) (a:Q () s):IK M A (J4 c (.ref d) u) Q E s:=by
 unfold J4;cases c <;> first
  | exact Ip a
  | (cases u <;> first
    | exact Ip a
    | (refine Ic (wpAny_load e ?_)
       rw [i,g];show IK M A (if (["enumerate","zip","dict_itemiterator","dict_reverseitemiterator","odict_iterator","itertools.zip_longest","itertools.pairwise"].contains n && b[0]? == NQ (rawInt _))=NS then _ else _) Q E s;rw [NL (by intro h;rw [f,K1] at h;cases h)];exact Ip a))
noncomputable def Itl (K:Ih) (a:Ij):It :=
 ⟨λi H=>∃ b x,SqL K H a b/\b[i]?=NQ x,λi H x c=>c=H/\∀ b,SqL K H a b->b[i]?=NQ x,λi H=>∃ b,SqL K H a b/\b.length<=i⟩
noncomputable def Itt (K:Ih) (a:Ij):It :=
 ⟨λi H=>∃ b x,SqT K H a b/\b[i]?=NQ x,λi H x c=>c=H/\∀ b,SqT K H a b->b[i]?=NQ x,λi H=>∃ b,SqT K H a b/\b.length<=i⟩
noncomputable def Itr (a:Int) (n:Nat):It:=⟨λi _=>i<n,λi H x b=>b=H/\x=.int (a+i),λi _=>n<=i⟩
theorem uT {P:NY} {w:NX} {K:Ih} {Q:Expr} (a f:Ij):Turn P w K Q (Itl K a) [f] f (λi h=>h.IsListIter f a i) where
 mem:=by simp
 obj:=λi h st b g=>by
  have e:b=f:=by simpa using g
  subst e;obtain⟨o,e,c,d⟩:=st;exact⟨o,e,λv z=>by rw [d] at z;cases z⟩
 keep:=λi h n st k=>st.at λo e=>k f (by simp) o e
 item:=by
  intro X B y C M i N s L H E I m st A;subst B y C;obtain⟨O,x,l,t⟩:=A;obtain⟨r,q,p,T⟩:=I.list l;obtain⟨u,W,S⟩:=q.get t;obtain⟨f0,J,Y,G,F,D⟩:=m f (by simp);refine wpAny_pyNext_list_item st p.isList (x:=u) (by simpa using W) λn j R=>?_;have I1:Inv X N L H { s with heap:=n }:=I.turned (t':=s.toks) (λb o g e=>(R.2 b g).trans e) f0 J G F D;obtain⟨o,e,c,d⟩:=id j;exact⟨u,rfl,sQ (s:={ s with heap:=n }) e c d (by decide) ⟨x,H,I1,S,⟨rfl,λys U=>by rw [I.list_inj U l];exact t⟩,j,λb g=>(m b g).1⟩⟩
 done:=by
  intro X B y C M i N s L H E I m st A;subst B y C;obtain⟨O,l,t⟩:=A;obtain⟨r,q,p,T⟩:=I.list l;obtain⟨f0,J,Y,G,F,D⟩:=m f (by simp);have hl:=q.length;exact wpAny_pyNext_list_end (I.ok.hd M) st p.isList (by simp;lia) λn Z=>⟨rfl,I.turned (t':=s.toks) (λb o g e=>Z b o g e) f0 J G F D⟩
 self:=λ_ _ _ _ _ st h=>wpAny_pyIter_listiter st h
theorem oR {P:NY} {w:NX} {K:Ih} {Q:Expr} (a g:Ij):Turn P w K Q (Itt K a) [g] g (λi h=>h.IsTupleIter g a i) where
 mem:=by simp
 obj:=λi h st b j=>by
  have e:b=g:=by simpa using j
  subst e;obtain⟨o,e,c,d⟩:=st;exact⟨o,e,λv z=>by rw [d] at z;cases z⟩
 keep:=λi h q st k=>st.at λo e=>k g (by simp) o e
 item:=by
  intro X B y C M i N s L H E I n st A;subst B y C;obtain⟨O,x,m,t⟩:=A;obtain⟨f,r,p,T⟩:=I.tuple m;obtain⟨u,W,S⟩:=r.get t;obtain⟨f0,J,Y,G,F,D⟩:=n g (by simp);refine wpAny_pyNext_tuple_item st (show s.heap.IsTuple a f.toArray from p) (x:=u) (by simpa using W) λq l R=>?_;have I1:Inv X N L H { s with heap:=q }:=I.turned (t':=s.toks) (λb o j e=>(R.2 b j).trans e) f0 J G F D;obtain⟨o,e,c,d⟩:=id l;exact⟨u,rfl,sQ (s:={ s with heap:=q }) e c d (by decide) ⟨x,H,I1,S,⟨rfl,λys U=>by rw [I.tuple_inj U m];exact t⟩,l,λb j=>(n b j).1⟩⟩
 done:=by
  intro X B y C M i N s L H E I n st A;subst B y C;obtain⟨O,m,t⟩:=A;obtain⟨f,r,p,T⟩:=I.tuple m;obtain⟨f0,J,Y,G,F,D⟩:=n g (by simp);have hl:=r.length;exact wpAny_pyNext_tuple_end (I.ok.hd M) st (show s.heap.IsTuple a f.toArray from p) (by simp;lia) λq Z=>⟨rfl,I.turned (t':=s.toks) (λb o j e=>Z b o j e) f0 J G F D⟩
 self:=λ_ _ _ _ _ st h=>wpAny_pyIter_tupleiter st h
theorem oS {P:NY} {w:NX} {K:Ih} {G:Expr} (a:Ij) (f:Int) (n:Nat):Turn P w K G (Itr f n) [a] a (λi h=>IsRangeIter h a (f+(i:Nat) * 1) ((n:Int) - (i:Nat)) 1) where
 mem:=by simp
 obj:=λi h st b c=>by
  have e:b=a:=by simpa using c
  subst e;exact⟨_,st,λv z=>by
   have F:Data.fields _=Data.cell v:=z;cases F⟩
 keep:=λi h j st k=>k a (by simp) _ st
 item:=by
  intro X q l r p i D s B H E I g st m;subst q l r;obtain⟨f0,A,M,y,x,u⟩:=g a (by simp);have W:=Walks.range (prog:=X.prog) (w:=X.w) (I.ok.hd p) a f 1 n;refine W.item i s _ _ m st λv j C L d J=>?_;obtain⟨t,rfl⟩:=L;have O:Inv X D B H { s with heap:=j,toks:=C }:=I.turned (λb o c e=>J b o (by simpa using c) e) f0 A y x u;refine⟨_,rfl,sQ (s:={ s with heap:=j,toks:=C }) (n:="range_iterator") d rfl rfl (by decide) ⟨.int (f+i),H,O,⟨t,?_⟩,⟨rfl,rfl⟩,d,λb c=>(g b c).1⟩⟩;rw [Int.mul_one]
 done:=by
  intro X q l r p i D s B H E I g st m;subst q l r;obtain⟨f0,A,M,y,x,u⟩:=g a (by simp);exact wpAny_pyNext_range_end (I.ok.hd p) st (by have:n<=i:=m;lia) λj N=>⟨rfl,I.turned (t':=s.toks) (λb o c e=>N b o c e) f0 A y x u⟩
 self:=λ_ _ _ _ _ st h=>wpAny_pyIter_rangeiter st h
section
variable {X:Cx} {tg:Expr}
def ik (K:Ih) (e:TE):TI:=λc H R=>e c H λx b=>∃ a,x=.ref a/\(∃ d,SqL K b a d)/\R (Itl K a) b
def ER (K:Ih) (e:TE):TI:=λc H R=>e c H λx b=>∃ a,x=.ref a/\(∃ d,SqT K b a d)/\R (Itt K a) b
theorem Cr {l:Expr} {f:TE} (n:PE X l f):PI X tg l (ik X.K f):=by
 intro t s g H R I h;refine thn (n t s g H _ I h) λv c ⟨x,u,d,i,j⟩=>?_;obtain⟨a,e,⟨w,m⟩,q⟩:=j;subst e;cases i;obtain⟨k,y,p,z⟩:=d.list m;refine wpAny_pyIter_list p.isList ?_;refine⟨c.heap.objs.size,[c.heap.objs.size],_,_,u,rfl,d.kept (t':=c.toks) λb o e=>Im _ e,uT a _,⟨_,IT _ rfl,rfl,rfl⟩,λb r=>?_,q⟩;have e:b=c.heap.objs.size:=by simpa using r
 subst e;exact d.fpOk (Iu _) (d.hok.fresh (Iu _))
theorem ES {l:Expr} {g:TE} (n:PE X l g):PI X tg l (ER X.K g):=by
 intro t s i H R I h;refine thn (n t s i H _ I h) λv c ⟨x,u,d,j,k⟩=>?_;obtain⟨a,e,⟨w,m⟩,q⟩:=k;subst e;cases j;obtain⟨f,y,p,z⟩:=d.tuple m;refine wpAny_pyIter_tuple (show c.heap.IsTuple a f.toArray from p) ?_;refine⟨c.heap.objs.size,[c.heap.objs.size],_,_,u,rfl,d.kept (t':=c.toks) λb o e=>Im _ e,oR a _,⟨_,IT _ rfl,rfl,rfl⟩,λb r=>?_,q⟩;have e:b=c.heap.objs.size:=by simpa using r
 subst e;exact d.fpOk (Iu _) (d.hok.fresh (Iu _))
theorem mE {f:N9} {d:St} {H:Hp} {s:NU} {R:It->Hp->Prop} {E:NT->NU->Prop} {a c:Int} {t u v:Tok} {tk:Nat} (I:Inv X f d H s) (l:-(2 ^ 62)<=a) (k:a<2 ^ 62) (j:-(2 ^ 62)<=c) (i:c<2 ^ 62)
  (q:R (Itr a (c - a).toNat) H):IK (model X.prog X.w) X.A (pyIter (.ref s.heap.objs.size)) (PIE X f d tg R) E { s with heap:=s.heap.push { cls:=.type "range",data:=.fields #[.int a t,.int c u,.int 1 v] },toks:=tk }:=by
 refine wpAny_pyIter_range (IsRange.new ..) (small_one l k j i) ?_;have g:Inv X f d H { s with heap:=s.heap.push { cls:=.type "range",data:=.fields #[.int a t,.int c u,.int 1 v] },toks:=tk }:=I.kept λb o e=>Im _ e;refine⟨(s.heap.push { cls:=.type "range",data:=.fields #[.int a t,.int c u,.int 1 v] }).objs.size,[(s.heap.push { cls:=.type "range",data:=.fields #[.int a t,.int c u,.int 1 v] }).objs.size],_,_,H,rfl,
  g.kept (t':=tk) λb o e=>Im _ e,oS _ a (c - a).toNat,?_,λb h=>?_,q⟩
 ·have n:a+((0:Nat):Int) * 1=a:=by simp
  have m:(((c - a).toNat:Nat):Int) - ((0:Nat):Int)=K2 a c 1:=by rw [rangeSize_one];split <;> lia
  show IsRangeIter _ _ (a+((0:Nat):Int) * 1) ((((c - a).toNat:Nat):Int) - ((0:Nat):Int)) 1;rw [n,m];exact IT _ rfl
 ·have e:b=(s.heap.push { cls:=.type "range",data:=.fields #[.int a t,.int c u,.int 1 v] }).objs.size:=by simpa using h
  subst e;exact g.fpOk (Iu _) (g.hok.fresh (Iu _))
def mF (c:TA):TI:=λa H R=>c a H λb d=>∃ j:Int,b=[.int j]/\-(2 ^ 62)<=j/\j<2 ^ 62/\R (Itr 0 j.toNat) d
def Ef (c:TA):TI:=λa H R=>c a H λb d=>∃ i j:Int,b=[.int i,.int j]/\(-(2 ^ 62)<=i/\i<2 ^ 62/\-(2 ^ 62)<=j/\j<2 ^ 62)/\R (Itr i (j - i).toNat) d
theorem jN {a:Expr} {c:TA} {p pos:Pos} (hg:Gl X "range") (l:X.mg "range"=NW) (m:PA X [a] c) (k:Jg [a] X.env=[(NV,eval a X.env)]:=by rfl):PI X tg (.Call (.Name "range" p) [a] [] pos) (mF c):=by
 intro n s d H R I h;refine Call_ (vE I hg l boot_range (Kg (thn (m pos n s d H _ I h) λv w ⟨u,x,o,g,b⟩=>?_) k rfl));obtain⟨j,e,b,i,q⟩:=b;subst e;cases g with
 | cons r f =>
  cases f;obtain⟨t,rfl⟩:=r;exact call_range_1 (mE o (by lia) (by lia) b i (by simpa using q))
theorem uU {a b:Expr} {g:TA} {p pos:Pos} (hg:Gl X "range") (w:X.mg "range"=NW) (x:PA X [a,b] g) (v:Jg [a,b] X.env=[(NV,eval a X.env),(NV,eval b X.env)]:=by rfl) (c:Jg [b] X.env=[(NV,eval b X.env)]:=by rfl) :
  PI X tg (.Call (.Name "range" p) [a,b] [] pos) (Ef g):=by
 intro y s k H R I h;refine Call_ (vE I hg w boot_range (Kg (thn (x pos y s k H _ I h) λB D ⟨A,E,z,l,f⟩=>?_) (by rw [v,c]) (by rw [c];rfl)));obtain⟨i,j,e,⟨f,u,o,n⟩,q⟩:=f;subst e;cases l with
 | cons r d =>
  cases d with
  | cons m d =>
   cases d;obtain⟨t,rfl⟩:=r;obtain⟨C,rfl⟩:=m;exact call_range_2 (mE z f u o n q)
def xO (f:TI) (g:TG) (h:TS):TS:=λD a H=>f a H λJ k=>∃ W:Nat->Nat->St->Hp->Prop,(∃ m,W 0 m a k)/\∀ i m a H,W i m a H ->
 (J.stop i H/\D.nx a H) \/ (J.go i H/\∃ N:St->Hp->Prop,(∀ b c,N b c->∃ e,e<m/\W (i+1) e b c)/\∀ x c,J.yld i H x c->g x a c λd j=>h { D with nx:=N,ct:=N,bk:=D.nx } d j)
noncomputable def fJ (a:N8) (h:Heap):N9:=a.filterMap λb=>(h.get? b).map λo=>(b,o)
theorem v9 {a:N8} {h:Heap} {b:Ij} {o:Obj} (c:b∈a) (e:h.get? b=NQ o):(b,o)∈fJ a h:=KA.mpr ⟨b,c,by rw [e];rfl⟩
theorem uV {a:N8} {h:Heap} {p:Ij×Obj} (c:p∈fJ a h):p.1∈a/\h.get? p.1=NQ p.2:=by
 obtain⟨b,d,e⟩:=KA.mp c;cases q:h.get? b with
 | none=>rw [q] at e;cases e
 | some o =>
  rw [q] at e;have f:(b,o)=p:=N1 e;subst f;exact⟨d,q⟩
theorem Inv.pinned {c:N9} {f:St} {H:Hp} {s:NU} {a:N8} (I:Inv X c f H s) (k:∀ b∈a,bM X c H b) (j:∀ b∈a,∃ o,s.heap.get? b=NQ o/\∀ v,o.data≠.cell v):Inv X (c++fJ a s.heap) f H s :=
 I.pins_of λp i=>(Iz.mp i).elim (λz=>I.pin p (IF _ z)) λz=>by
  obtain⟨g,e⟩:=uV z;obtain⟨f0,m,l,_⟩:=k p.1 g;obtain⟨o,h,d⟩:=j p.1 g;rw [e] at h;cases h;exact⟨e,f0,m,l,d⟩
theorem Inv.unpinned {b c:N9} {a:St} {H:Hp} {s:NU} (I:Inv X (b++c) a H s):Inv X b a H s:=I.pins_of λp d=>I.pin p (IF _ (IY _ d))
theorem y8 {k:Expr} {y:Oe} {wi:TI} {g:TG} {tb:TS} {pos:Pos} (K:PassesOwn (model X.prog X.w) X.A X.env X.xe) (hc:X.calm=NS) (hi:PI X tg k wi) (hg:PG X tg g) (l:PSs X y tb)
  (hs:∀ x,JG k X.env x=pure x:=by intro _;rfl):PS X (.For tg k y [] pos) (xO wi g tb):=by
 intro B s Z H D I h;refine wpAny_For (thn (hi B s Z H _ I h) λv s1 h1=>thn h1 λitv s2 h2=>?_) hs;obtain⟨it,M,tn,J,H2,e,I2,T,Q,f2,W,⟨m0,w0⟩,C⟩:=h2;subst e
 have j:∀ {q:Hp},(∀ b∈M,q b=NW)->∀ b∈M,bM X B q b:=λhn b l=>⟨hn b l,(f2 b l).2⟩;refine codeAny_forLoop_any (λn s'=>∃ i c q,Inv X B c q s'/\tn i s'.heap/\(∀ b∈M,q b=NW)/\W i n c q) ?_ m0 ⟨0,Z,H2,I2,Q,λb l=>(f2 b l).1,w0⟩;rintro n s3 ⟨i,a,O,I3,F,L,w3⟩;rcases C i n a O w3 with⟨E,qn⟩ | ⟨go,N,hN,step⟩
 ·refine wpAny_passesOwn K (thn (T.done X rfl rfl rfl hc i B s3 a O X.xe I3 (j L) F E) λr s4 ⟨S,I4⟩=>?_);subst S;exact wpAny_execs_nil ⟨a,O,I4,qn⟩
 ·refine wpAny_passesOwn K (thn (T.item X rfl rfl rfl hc i B s3 a O X.xe I3 (j L) F go) λr s4 ⟨u,S,h4⟩=>?_);subst S;refine wpAny_passesOwn K (thn h4 λ_ s5 ⟨x,H5,I5,r5,y5,z,U⟩=>?_);have Y:=I5.pinned (j U) (T.obj _ _ z);refine wpAny_passesOwn K (thn (hg _ s5 a H5 x u _ Y r5 (step x H5 y5)) λ_ s6 ⟨P,H6,I6,q6⟩=>?_);refine wpAny_passesOwn K (thn (l _ s6 P H6 _ I6 q6) λf R t=>?_);have again:∀ {σ7:St} {H7:Hp},Inv X (B++fJ M s5.heap) σ7 H7 R->N σ7 H7->∃ m,m<n/\∃ i c q,Inv X B c q R/\tn i R.heap/\(∀ b∈M,q b=NW)/\W i m c q:=λ{σ7 H7} p G=>by
   obtain⟨m',hm,w7⟩:=hN σ7 H7 G;refine⟨m',hm,i+1,σ7,H7,p.unpinned,T.keep _ _ _ z λb l o e=>(p.pin (b,o) (IF _ (IF _ (v9 l e)))).1,λb l=>?_,w7⟩;obtain⟨o,e,d⟩:=T.obj _ _ z b l;exact (p.pin (b,o) (IF _ (IF _ (v9 l e)))).2.1
  cases f with
  | next=>obtain⟨σ7,H7,p,G⟩:=t;exact again p G
  | cont=>obtain⟨σ7,H7,p,G⟩:=t;exact again p G
  | brk=>obtain⟨σ7,H7,p,t⟩:=t;exact⟨σ7,H7,p.unpinned,t⟩
  | ret v=>obtain⟨x7,σ7,H7,p,r7,t⟩:=t;exact⟨x7,σ7,H7,p.unpinned,r7,t⟩
end
abbrev R2:=V->V->Hp->VK->Prop
def OpR (X:Cx) (f:NT->NT->Sem NT) (r:R2):Prop :=
 ∀ (b:N9) (s:NU) (a:St) (H:Hp) (x y:V) (v u:NT) (Q:VK),Inv X b a H s->RelV x v->RelV y u->r x y H Q ->
  IK (model X.prog X.w) X.A (f v u) (EP X b a Q) X.xe s
def UnR (X:Cx) (f:NT->Sem NT) (r:V->Hp->VK->Prop):Prop :=
 ∀ (b:N9) (s:NU) (a:St) (H:Hp) (x:V) (v:NT) (Q:VK),Inv X b a H s->RelV x v->r x H Q ->
  IK (model X.prog X.w) X.A (f v) (EP X b a Q) X.xe s
def yJ (X:Cx) (f:NT) (r:List V->Hp->VK->Prop):Prop :=
 ∀ (d:N9) (s:NU) (a:St) (H:Hp) (b:List V) (c:N6) (Q:VK),Inv X d a H s->Vals b c->r b H Q ->
  IK (model X.prog X.w) X.A (call f c) (EP X d a Q) X.xe s
def HR (X:Cx) (r:V->Hp->(Bool->Hp->Prop)->Prop):Prop :=
 ∀ (b:N9) (s:NU) (a:St) (H:Hp) (x:V) (v:NT) (Q:Bool->Hp->Prop),Inv X b a H s->RelV x v->r x H Q ->
  IK (model X.prog X.w) X.A (truthy v) (TP X b a Q) X.xe s
def tOp (r:R2) (c b:TE):TE:=λa H Q=>c a H λx e=>b a e λy d=>r x y d Q
def tUn (r:V->Hp->VK->Prop) (b:TE):TE:=λa H Q=>b a H λx c=>r x c Q
def rI (C:Int->Int->Prop) (g:Int->Int->V):R2:=λx y H Q=>∃ i j,x=.int i/\y=.int j/\C i j/\Q (g i j) H
def rI0 (g:Int->Int->V):R2:=λx y H Q=>∃ i j,x=.int i/\y=.int j/\Q (g i j) H
def rU (g:Int->V):V->Hp->VK->Prop:=λx H Q=>∃ i,x=.int i/\Q (g i) H
section
variable {X:Cx} {a b c:Expr} {ta tb tc:TE} {pos:Pos}
theorem ET (z:PE X a ta) (t:PE X b tb) {k:N9} {s:NU} {d:St} {H:Hp} {R:V->V->Hp->Prop} (I:Inv X k d H s)
  (h:ta d H λx l=>tb d l λy e=>R x y e) {Q:NT->NU->Prop} {f:NT->NT->Sem NT}
  (r:∀ v u j x y e,Inv X k d e j->RelV x v->RelV y u->R x y e->IK (model X.prog X.w) X.A (f v u) Q X.xe j) :
  IK (model X.prog X.w) X.A (eval a X.env) (λv i=>IK (model X.prog X.w) X.A (eval b X.env) (λu g=>IK (model X.prog X.w) X.A (f v u) Q X.xe g) X.xe i) X.xe s:=by
 refine thn (z k s d H _ I h) λv m ⟨x,l,C,o,q⟩=>?_;refine thn (t k m d l _ C q) λu j ⟨y,e,B,n,p⟩=>?_;exact r v u j x y e B o n p
theorem zA {op:Operator} {r:R2} (i:OpR X (binaryOp op) r) (k:PE X a ta) (j:PE X b tb):PE X (.BinOp a op b pos) (tOp r ta tb):=by
 intro l s d H Q I h;exact wpAny_BinOp (ET k j I h λv u e x y n m g f q=>i l e d n x y v u Q m g f q)
theorem GR {op:UnaryOp} {r:V->Hp->VK->Prop} (j:UnR X (unaryOp op) r) (k:PE X a ta):PE X (.UnaryOp op a pos) (tUn r ta):=by
 intro e s d H Q I h;exact UnaryOp_ (thn (k e s d H _ I h) λv f ⟨x,m,l,g,i⟩=>j e f d m x v Q l g i)
theorem opI {f:NT->NT->Sem NT} {C:Int->Int->Prop} {g:Int->Int->Int}
  (d:∀ (i j:Int) (t u:Tok) (s:NU) (Q:NT->NU->Prop) (E:NT->NU->Prop),C i j->Q (.int (g i j) s.toks) { s with toks:=s.toks+1 }->IK (model X.prog X.w) X.A (f (.int i t) (.int j u)) Q E s) :
  OpR X f (rI C λi j=>.int (g i j)):=by
 intro o s n H x y v u Q I l k h;obtain⟨i,j,rfl,rfl,m,q⟩:=h;obtain⟨t,rfl⟩:=l;obtain⟨e,rfl⟩:=k;exact d i j t e s _ _ m ⟨.int (g i j),H,I.tok _,⟨_,rfl⟩,q⟩
theorem GS {f:NT->NT->Sem NT} {g:Int->Int->Int}
  (d:∀ (i j:Int) (t u:Tok) (s:NU) (Q:NT->NU->Prop) (E:NT->NU->Prop),Q (.int (g i j) s.toks) { s with toks:=s.toks+1 }->IK (model X.prog X.w) X.A (f (.int i t) (.int j u)) Q E s) :
  OpR X f (rI0 λi j=>.int (g i j)):=by
 intro n s m H x y v u Q I l k h;obtain⟨i,j,rfl,rfl,q⟩:=h;obtain⟨t,rfl⟩:=l;obtain⟨e,rfl⟩:=k;exact d i j t e s _ _ ⟨.int (g i j),H,I.tok _,⟨_,rfl⟩,q⟩
theorem Cs {f:NT->NT->Sem NT} {g:Int->Int->Bool}
  (d:∀ (i j:Int) (t u:Tok) (s:NU) (Q:NT->NU->Prop) (E:NT->NU->Prop),Q (.bool (g i j)) s->IK (model X.prog X.w) X.A (f (.int i t) (.int j u)) Q E s) :
  OpR X f (rI0 λi j=>.bl (g i j)):=by
 intro n s m H x y v u Q I l k h;obtain⟨i,j,rfl,rfl,q⟩:=h;obtain⟨t,rfl⟩:=l;obtain⟨e,rfl⟩:=k;exact d i j t e s _ _ ⟨.bl (g i j),H,I,rfl,q⟩
def HS (i j:Int):Prop:=0<=j/\j<=1000000/\i.natAbs<2 ^ 64
def CMul (i j:Int):Prop:=(-(2 ^ 64)<i/\i<2 ^ 64) \/ (-(2 ^ 64)<j/\j<2 ^ 64)
theorem CMul.ok {i j:Int} (h:CMul i j):IntMulOk i j:=by
 rcases h with⟨e,d⟩ | ⟨e,d⟩
 ·exact .of_left (intBits_le_64 e d)
 ·exact .of_right (intBits_le_64 e d)
theorem yd:OpR X (binaryOp .Add) (rI0 λi j=>.int (i+j)):=GS λ_ _ _ _ _ _ _ q=>add_int q
theorem yK:OpR X (binaryOp .Sub) (rI0 λi j=>.int (i - j)):=GS λ_ _ _ _ _ _ _ q=>sub_int q
theorem qR:OpR X (binaryOp .Mult) (rI CMul λi j=>.int (i * j)):=opI λ_ _ _ _ _ _ _ d q=>mul_int q d.ok
theorem aa:OpR X (binaryOp .Mod) (rI (λ_ j=>0<j) λi j=>.int (i % j)):=opI λi j _ _ _ _ _ d q=>by
 have e:(0:Int)<j:=d;exact mod_int' (by lia) (by rw [Int.fmod_eq_emod_of_nonneg i (by lia)];exact q)
theorem kB:OpR X (binaryOp .Pow) (rI HS λi j=>.int (i ^ j.toNat)):=opI λ_ _ _ _ _ _ _ d q=>pow_int_small d.1 d.2.1 d.2.2 q
theorem unI {f:NT->Sem NT} {g:Int->Int}
  (d:∀ (i:Int) (t:Tok) (s:NU) (Q:NT->NU->Prop) (E:NT->NU->Prop),Q (.int (g i) s.toks) { s with toks:=s.toks+1 }->IK (model X.prog X.w) X.A (f (.int i t)) Q E s) :
  UnR X f (rU λi=>.int (g i)):=by
 intro k s j H x v Q I e h;obtain⟨i,rfl,q⟩:=h;obtain⟨t,rfl⟩:=e;exact d i t s _ _ ⟨.int (g i),H,I.tok _,⟨_,rfl⟩,q⟩
theorem EU:UnR X (unaryOp .USub) (rU λi=>.int (-i)):=unI λ_ _ _ _ _ q=>neg_int q
end
section
variable {X:Cx} {a b c:Expr} {ta tb tc:TE} {pos:Pos}
theorem xP {g:N9} {d:St} {H:Hp} {s:NU} {Q:VK} {k f:Bool} (I:Inv X g d H s) (q:Q (.bl k) H) (e:k=f):EP X g d Q (.bool f) s:=by
 subst e;exact⟨.bl k,H,I,rfl,q⟩
theorem xQ:OpR X (JI .Lt) (rI0 λi j=>.bl (decide (i<j))):=Cs λ_ _ _ _ _ _ _ q=>lt_int q
theorem bO:OpR X (JI .LtE) (rI0 λi j=>.bl (decide (i<=j))):=Cs λ_ _ _ _ _ _ _ q=>le_int q
theorem iw:OpR X (JI .Gt) (rI0 λi j=>.bl (decide (j<i))):=Cs λ_ _ _ _ _ _ _ q=>gt_int q
theorem xR:OpR X (JI .GtE) (rI0 λi j=>.bl (decide (j<=i))):=Cs λ_ _ _ _ _ _ _ q=>ge_int q
theorem EV:OpR X (JI .Is) (λx y H Q=>y=.non/\Q (.bl (decide (x=.non))) H):=by
 intro g s f H x y v u Q I d e h;obtain⟨rfl,q⟩:=h;cases e;refine is_none_gen (xP I q ?_);cases x <;> first
  | (cases d;rfl)
  | (obtain⟨t,rfl⟩:=d;rfl)
theorem Ct:OpR X (JI .IsNot) (λx y H Q=>y=.non/\Q (.bl (!decide (x=.non))) H):=by
 intro g s f H x y v u Q I d e h;obtain⟨rfl,q⟩:=h;cases e;refine isnot_none_gen (xP I q ?_);cases x <;> first
  | (cases d;rfl)
  | (obtain⟨t,rfl⟩:=d;rfl)
theorem z9 (b:Expr) {op:CmpOp} (h:op≠.In:=by decide) (d:op≠.NotIn:=by decide):behindInMarks op b=NV:=by
 have f:(op == CmpOp.In)=NV:=by cases op <;> first | rfl | exact absurd rfl h
 have e:(op == CmpOp.NotIn)=NV:=by cases op <;> first | rfl | exact absurd rfl d
 cases b <;> simp [behindInMarks,f,e]
theorem vh {op:CmpOp} {r:R2} (i:OpR X (JI op) r) (l:PE X a ta) (k:PE X b tb) (j:behindInMarks op b=NV):PE X (.Compare a [op] [b] pos) (tOp r ta tb):=by
 intro m s d H Q I h;exact wpAny_Compare1 (ET l k I h λv u e x y o n g f q=>i m e d o x y v u Q n g f q) j
def mG (t:TE):TT:=λd H Q=>t d H λx e=>∃ k,x=.bl k/\Q k e
theorem zR {op:CmpOp} {r:R2} (q:OpR X (JI op) r) (A:PE X a ta) (w:PE X b tb) (t:behindInMarks op b=NV):PT X (.Compare a [op] [b] pos) (mG (tOp r ta tb)):=by
 intro f s d H Q I h;refine wpAny_isTrue_Compare1 (thn (A f s d H _ I h) λv i ⟨x,G,D,m,p⟩=>thn (w f i d G _ D p) λu g ⟨y,F,C,l,o⟩ =>
  thn (q f g d F x y v u _ C m l o) λc J ⟨z,E,B,j,k,e,n⟩=>?_) t
 subst e;cases j;exact J8 ⟨E,B,n⟩
def oT (r g:R2) (ta tb tc:TE):TE:=λd H Q=>ta d H λx j=>tb d j λy i=>r x y i λz e=>∃ k,z=.bl k /\
 (if k=NS then tc d e λf h=>g y f h Q else Q (.bl NV) e)
theorem cI {op f:CmpOp} {r m:R2} (L:OpR X (JI op) r) (j:OpR X (JI f) m) (P:PE X a ta) (O:PE X b tb) (N:PE X c tc)
  (M:lastMarks [op,f] [b,c]=NV:=by with_unfolding_all rfl):PE X (.Compare a [op,f] [b,c] pos) (oT r m ta tb tc):=by
 intro i s g H Q I h;refine Compare_chain (thn (P i s g H _ I h) λv C ⟨x,Y,T,F,K⟩=>chain_link (thn (O i C g Y _ T K) λu B ⟨y,W,S,l,J⟩ =>
  thn (L i B g W x y v u _ S F l J) λd A ⟨z,p,o,E,k,e,n⟩=>?_)) M
 subst e;cases E;refine J8 ?_;cases k with
 | false=>exact ite_ff ⟨.bl NV,p,o,rfl,n⟩
 | true=>exact ite_tt (chain_last (thn (N i A g p _ o n) λt w ⟨q,U,R,D,G⟩=>j i w g U y q u t Q R l D G))
theorem xS {op f:CmpOp} {r m:R2} (O:OpR X (JI op) r) (j:OpR X (JI f) m) (T:PE X a ta) (S:PE X b tb) (R:PE X c tc)
  (P:lastMarks [op,f] [b,c]=NV:=by with_unfolding_all rfl):PT X (.Compare a [op,f] [b,c] pos) (mG (oT r m ta tb tc)):=by
 intro i s g H Q I h;refine isTrue_chain (thn (T i s g H _ I h) λv C ⟨x,H1,I1,G,M⟩=>test_link (thn (S i C g H1 _ I1 M) λu B ⟨y,H2,I2,l,L⟩ =>
  thn (O i B g H2 x y v u _ I2 G l L) λd A ⟨z,p,o,F,k,e,n⟩=>?_)) P
 subst e;cases F;refine J8 ?_;cases k with
 | false =>
  obtain⟨k',W,N⟩:=n;cases W;exact ite_ff ⟨p,o,N⟩
 | true =>
  refine ite_tt (test_last (thn (R i A g p _ o n) λt w ⟨q,H4,Z,E,K⟩=>thn (j i w g H4 y q u t _ Z l E K) λd' s5 ⟨z2,H5,Y,D,k2,U,J⟩=>?_));subst U;cases D;exact J8 ⟨H5,Y,J⟩
def EW (K:Ih) (x:V) (H:Hp) (k:Bool):Prop :=
 match x with
 | .non=>k=NV
 | .bl b=>k=b
 | .int i=>k=(i != 0)
 | .str y=>y.length<=Jr/\k=((y.length:Int) != 0)
 | .byt y=>y.size<=Jr/\k=((y.size:Int) != 0)
 | .ref p=>(∃ d,SqL K H p d/\k=!d.isEmpty) \/ (∃ d,SqT K H p d/\k=!d.isEmpty) \/ ∃ e,H p=NQ (.dK e)/\k=!e.isEmpty
 | _=>False
theorem oU {d:Type} {kvs:List (d×V)} {e:List (d×NT)} (r:KV kvs e):(!e.isEmpty)=!kvs.isEmpty:=by
 cases r <;> rfl
theorem fK {xs:List V} {its:N6} (r:Vals xs its):(!its.toArray.isEmpty)=!xs.isEmpty:=by
 cases r <;> simp
theorem dP:(Jr:Nat)<2 ^ 63:=by rw [sizeLine_eq];decide
theorem EX:HR X (λx H Q=>∃ k,EW X.K x H k/\Q k H):=by
 intro G s D H x v Q I l h;obtain⟨k,e,q⟩:=h;have F:=dP;have E:Jr=16777216:=sizeLine_eq;cases x with
 | non =>
  cases l;have d:k=NV:=e;subst d;exact truthy_none ⟨H,I,q⟩
 | bl b =>
  cases l;have d:k=b:=e;subst d;exact J8 ⟨H,I,q⟩
 | int i =>
  obtain⟨t,rfl⟩:=l;have d:k=(i != 0):=e;subst d;exact PySem.P.truthy_int ⟨H,I,q⟩
 | str y =>
  obtain⟨t,rfl⟩:=l;obtain⟨B,d⟩:y.length<=Jr/\k=((y.length:Int) != 0):=e;subst d;exact PySem.P.truthy_str (by lia) ⟨H,I.tok _,q⟩
 | byt y =>
  obtain⟨t,rfl⟩:=l;obtain⟨B,d⟩:y.size<=Jr/\k=((y.size:Int) != 0):=e;subst d;exact PySem.W.truthy_bytes (by lia) ⟨H,I.tok _,q⟩
 | ref p =>
  cases l;have d:(∃ j,SqL X.K H p j/\k=!j.isEmpty) \/ (∃ j,SqT X.K H p j/\k=!j.isEmpty) \/ ∃ f,H p=NQ (.dK f)/\k=!f.isEmpty:=e;rcases d with⟨j,n,d⟩ | ⟨j,n,d⟩ | ⟨f,n,d⟩
  ·subst d;obtain⟨z,r,u,A⟩:=I.list n;have g:=r.length;exact wpAny_truthy_list u.isList (by simp only [II];lia) ⟨H,I.tok _,by rw [fK r];exact q⟩
  ·subst d;obtain⟨z,r,u,A⟩:=I.tuple n;have g:=r.length;exact truthy_tuple u (by simp only [II];lia) ⟨H,I.tok _,by rw [fK r];exact q⟩
  ·subst d;obtain⟨A,C,o,r,m⟩:f.length<=Jr/\(p == sysModules)=NV/\∃ o,KV f o/\s.heap.DictOf (kr X.prog X.w) p o:=I.hok p _ n;have g:f.length=o.length:=Paired.length r;exact wpAny_truthy_dict C m (by lia) ⟨H,I.tok _,by rw [oU r];exact q⟩
 | _=>exact (show False from e).elim
theorem xT (n:PE X a ta) (m:∀ d,isTrue a X.env d=(do let v <- d;standAt a.pos;holding [v] (truthy v))) :
  PT X a (λe H Q=>ta e H λx g=>∃ k,EW X.K x g k/\Q k g):=by
 intro f s e H Q I h;exact isTrue_plain (thn (n f s e H _ I h) λv i ⟨x,p,o,j,l⟩=>EX f i e p x v Q o j l) (m _)
theorem vals1 {x:V} {d:N6} (r:Vals [x] d):∃ u,d=[u]/\RelV x u:=by
 cases r with
 | cons f e=>cases e;exact⟨_,rfl,f⟩
theorem vals2 {x y:V} {e:N6} (r:Vals [x,y] e):∃ u d,e=[u,d]/\RelV x u/\RelV y d:=by
 cases r with
 | cons i h =>
  cases h with
  | cons g f=>cases f;exact⟨_,_,rfl,i,g⟩
theorem xU:yJ X (.builtin "abs") (λxs H Q=>∃ i,xs=[.int i]/\Q (.int (if i<0 then -i else i)) H):=by
 intro g s d H xs e Q I r h;obtain⟨i,rfl,q⟩:=h;obtain⟨u,rfl,t,rfl⟩:=vals1 r;exact call_abs_int λu f=>⟨.int (if i<0 then -i else i),H,I.tok _,⟨_,rfl⟩,q⟩
theorem uW (e:X.calm=NS):yJ X (.builtin "max") (λxs H Q=>∃ i j,xs=[.int i,.int j]/\Q (.int (if j > i then j else i)) H):=by
 intro p s f H xs l Q I r h;obtain⟨i,j,rfl,q⟩:=h;obtain⟨u,g,rfl,⟨t,rfl⟩,⟨n,rfl⟩⟩:=vals2 r;refine max_two_ints (I.ok.hd e) λo m k=>⟨_,H,I.kept k,?_,q⟩;by_cases d:j > i
 ·rw [NM d,NM d];exact⟨_,rfl⟩
 ·rw [NL d,NL d];exact⟨_,rfl⟩
theorem uX (e:X.calm=NS):yJ X (.builtin "min") (λxs H Q=>∃ i j,xs=[.int i,.int j]/\Q (.int (if j<i then j else i)) H):=by
 intro p s f H xs l Q I r h;obtain⟨i,j,rfl,q⟩:=h;obtain⟨u,g,rfl,⟨t,rfl⟩,⟨n,rfl⟩⟩:=vals2 r;refine min_two_ints (I.ok.hd e) λo m k=>⟨_,H,I.kept k,?_,q⟩;by_cases d:j<i
 ·rw [NM d,NM d];exact⟨_,rfl⟩
 ·rw [NL d,NL d];exact⟨_,rfl⟩
theorem uY:yJ X (.type "int") (λxs H Q=>(∃ i,xs=[.int i]/\Q (.int i) H) \/ ∃ k,xs=[.bl k]/\Q (.int (if k then 1 else 0)) H):=by
 intro g s e H xs f Q I r h;rcases h with⟨i,rfl,q⟩ | ⟨k,rfl,q⟩
 ·obtain⟨u,rfl,t,rfl⟩:=vals1 r;exact call_int_int ⟨.int i,H,I,⟨_,rfl⟩,q⟩
 ·obtain⟨u,rfl,d⟩:=vals1 r;cases d;exact call_int_bool ⟨.int (if k then 1 else 0),H,I.tok _,⟨_,rfl⟩,q⟩
end
structure ObjM (h:Heap) (x dx C:Ij) (mA:Str->N7):Prop where
 obj:h.get? x=NQ (PySem.W.instObj C dx)
 ns:h.Ns1 dx mA
 ne:dx≠x
section
variable {prog:NY} {w:NX} {A:NZ} {E:NT->NU->Prop} {s:NU} {K:Ih} {x dx C f:Ij} {mA:Str->N7} {name:Str} {v:NT}
end
structure Cls (K:Ih) (C:Ij):Prop where
 pg:PySem.W.plainGet K C Str.empty=NS
 hd:PySem.W.hasDictIn K C=NS
 po:PySem.W.plainOver K C=NS
 sa:Kh K (.ref C) "__setattr__"=NQ (NQ (.builtin "object.__setattr__"))
structure Con (K:Ih) (C:Ij) (f:Str) (v:V) (u:NT):Prop where
 at_:Kh K (.ref C) f=NQ (NQ u)
 rel:RelV v u
 get:LA K u "__get__"=NQ NW
 cp:PySem.W.copiedNames.contains f=NV
structure Meth (K:Ih) (C:Ij) (m:Str) (f:Ij):Prop where
 at_:Kh K (.ref C) m=NQ (NQ (.ref f))
 fn:PySem.W.isFn K (.ref f)=NS
 kp:JW K (.ref f)=NS
section
variable {X:Cx} {NJ:N9} {σ:St} {H:Hp} {s:NU} {a C dx:Ij} {fs:List (Str×V)} {f:Str} {v:V} {A:NZ} {E:NT->NU->Prop}
end
section
variable {X:Cx} {NJ:N9} {σ:St} {H:Hp} {s:NU} {A:NZ} {E:NT->NU->Prop} {Q:NT->NU->Prop} {c:NT} {b:Bool}
inductive TyOf (K:Ih) (H:Hp):V->NT->Prop where
 | non:TyOf K H .non (.type "NoneType")
 | bl (x:Bool):TyOf K H (.bl x) (.type "bool")
 | int (i:Int):TyOf K H (.int i) (.type "int")
 | str (x:Str):TyOf K H (.str x) (.type "str")
 | flt (x:UInt64):TyOf K H (.flt x) (.type "float")
 | lst {a:Ij} {xs:List V} (e:H a=NQ (.lst xs)):TyOf K H (.ref a) (.type "list")
 | frz {a:Ij} {o:Obj} {xs:List V} (e:H a=NQ (.frz o (.lst xs))):TyOf K H (.ref a) (.type "list")
 | tup {a:Ij} {xs:List V} (e:H a=NQ (.tup xs)):TyOf K H (.ref a) (.type "tuple")
 | dK {a:Ij} {kvs:List (Key×V)} (e:H a=NQ (.dK kvs)):TyOf K H (.ref a) (.type "dict")
 | dT {a:Ij} {kvs:List (List Key×V)} (e:H a=NQ (.dT kvs)):TyOf K H (.ref a) (.type "dict")
 | ins {a C dx:Ij} {fs:List (Str×V)} (e:H a=NQ (.ins C dx fs)) (cl:Cls K C) (ha:Kh K (.ref C) "__class__"=NQ (NQ (.builtin "object.__class__")))
   (hn:LA K (.builtin "object.__class__") "__get__"=NQ (NQ (.builtin "getset_descriptor.__get__"))) (htk:PySem.W.takesIn K (.builtin "object.__class__")=NQ NS)
   (hm:MH K C (.type "object")=NQ NS):TyOf K H (.ref a) (.ref C)
end
structure Room (k:Nat) (A:NZ):Prop where
 hd:A.handled=NW
 dp:A.depth+3 * k+5<recursionLimit
 un:A.units+16 * k+200<JR
theorem Room.mono {j k:Nat} {A:NZ} (r:Room k A) (h:j<=k):Room j A:=⟨r.hd,by have:=r.dp;lia,by have:=r.un;lia⟩
theorem Room.deeper {k:Nat} {A:NZ} (r:Room (k+1) A) (env:Env):Room k (A.deeper env) :=
 ⟨r.hd,by have:=r.dp;show A.depth+1+3 * k+5<_;lia,by have:=r.un;show A.units+3+16 * k+200<_;lia⟩
theorem Room.in1 {k:Nat} {A:NZ} (r:Room (k+1) A):Room k A.in1 :=
 ⟨r.hd,by have:=r.dp;show A.depth+3 * k+5<_;lia,by have:=r.un;show A.units+1+16 * k+200<_;lia⟩
theorem Room.depth {k:Nat} {A:NZ} (r:Room k A):A.depth<recursionLimit:=by have:=r.dp;lia
theorem Room.units {k:Nat} {A:NZ} (r:Room k A):A.units+64<JR:=by have:=r.un;lia
def qC:TA:=λ_ H Q=>Q [] H
def yy (d:TE) (c:TA):TA:=λa H Q=>d a H λx f=>c a f λb e=>Q (x :: b) e
section
variable {X:Cx} {e:Expr} {es:Od} {te:TE} {t:TA} {pos:Pos}
theorem zd:PA X [] qC:=λ_ _ _ _ H Q I h=>Calls.spliced_nil ⟨[],H,I,.nil,h⟩
theorem zc (m:PE X e te) (l:PA X es t) (k:Jg (e :: es) X.env=(NV,eval e X.env) :: Jg es X.env:=by rfl):PA X (e :: es) (yy te t):=by
 intro pos b s a H Q I h;rw [k];show IK _ _ (spliced ((NV,eval e X.env) :: backTo pos (Jg es X.env))) _ _ s;refine Calls.spliced_cons (thn (m b s a H _ I h) λu d ⟨x,q,o,g,j⟩=>?_);exact thn (l pos b d a q _ o j) λr v ⟨c,p,n,f,i⟩=>⟨x :: c,p,n,.cons g f,i⟩
def EY (t:TA):TE:=λc H Q=>t c H λa b=>a.length<=Jr/\∀ p,b p=NW->Q (.ref p) (upd b p (.tup a))
def uZ (t:TA):TE:=λc H Q=>t c H λa b=>a.length<=Jr/\∀ p,b p=NW->Q (.ref p) (upd b p (.lst a))
theorem zH {x1} (h:PA X es t):PE X (.Tuple es x1 pos) (EY t):=by
 intro l s f H Q I j;refine wpAny_Tuple_spliced (thn (h pos l s f H _ I j) λi a ⟨g,d,c,r,z,q⟩=>⟨by rw [<-r.length];exact z,?_⟩);have k:d a.heap.objs.size=NW:=c.hok.fresh (Iu _);refine⟨.ref a.heap.objs.size,upd d a.heap.objs.size (.tup g),c.laid (t':=a.toks) (λb u e=>Im _ e) (Iu _) ?_,rfl,q _ k⟩;exact⟨z,i,r,⟨_,IT _ rfl,rfl,_,rfl⟩⟩
theorem yi (h:PA X es t):PE X (.List es pos) (uZ t):=by
 intro l s f H Q I j;refine wpAny_List_spliced (thn (h pos l s f H _ I j) λi a ⟨g,d,c,r,z,q⟩=>⟨by rw [<-r.length];exact z,?_⟩);have k:d a.heap.objs.size=NW:=c.hok.fresh (Iu _);refine⟨.ref a.heap.objs.size,upd d a.heap.objs.size (.lst g),c.laid (t':=a.toks) (λb u e=>Im _ e) (Iu _) ?_,rfl,q _ k⟩;exact⟨z,i,0,r,IT _ rfl⟩
end
abbrev Sp:=List V->Hp->VK->XK->Prop
abbrev CXT:=Ob->Hp->NU->XK->NT->NU->Prop
structure Env0 (P:NY) (w:NX) (K:Ih) (mg:Str->N7) (base:Heap) (A:NZ) (outer:Ob) (s:NU) (H:Hp):Prop where
 frames:A.frames=NQ outer
 mod:Mod K mg base
 bs:∀ b o,base.get? b=NQ o->s.heap.get? b=NQ o/\H b=NW
 bsz:base.objs.size<=s.heap.objs.size
 funs:s.heap.FunFrames base outer
 frf:∀ b∈frs outer,H b=NW
 tabs:TabsOk K H
 hok:HOk P w H s.heap
 bare:AllBare s.gens
def CE (a:Ob) (P:NY) (w:NX) (H:Hp) (s:NU) (Q:VK) (u:NT) (s':NU):Prop :=
 ∃ v b,s'.os=s.os/\AllBare s'.gens/\Un (frs a) [] H b s.heap s'.heap/\HOk P w b s'.heap/\RelV v u/\Q v b
def CR (CX:CXT) (a:Ob) (P:NY) (w:NX) (H:Hp) (s:NU) (Q:VK) (E:XK) (r:Result) (s':NU):Prop :=
 match r with
 | .ok (.ret u)=>CE a P w H s Q u s'
 | .ok _=>False
 | .error e=>CX a H s E e s'
structure FnOk (P:NY) (w:NX) (K:Ih) (mg:Str->N7) (base:Heap) (CX:CXT) (k:Nat) (f:Ij) (fd:FuncData) (ps:Oa) (sp:Sp):Prop where
 len:∀ vs H Q E,sp vs H Q E->vs.length=ps.length
 run:∀ (A:NZ) (outer:Ob) (s:NU) (H:Hp) (args:Args) (us:N6) (vs:List V) (Q:VK) (E:XK),Room k A->Env0 P w K mg base A outer s H->BindsTo s fd args (ps.zip us)->Vals vs us->sp vs H Q E ->
  codeAny (model P w) A (.call (.ref f) args) (CR CX outer P w H s Q E) s
theorem FnOk.mono {P:NY} {w:NX} {K:Ih} {d:Str->N7} {base:Heap} {CX:CXT} {j k:Nat} {f:Ij} {e:FuncData} {c:Oa} {sp:Sp} (F:FnOk P w K d base CX j f e c sp) (h:j<=k) :
  FnOk P w K d base CX k f e c sp:=⟨F.len,λA a s H b i g Q E l=>F.run A a s H b i g Q E (l.mono h)⟩
section
variable {X:Cx} {NJ:N9} {σ:St} {H:Hp} {s s':NU}
theorem Inv.env0 (I:Inv X NJ σ H s):Env0 X.prog X.w X.K X.mg X.base X.A X.stack s H :=
 ⟨I.ok.frames,I.ok.mod,I.bs,IS I.ok.bsz I.sz,I.stack,I.stkFree,λc P q d b a=>I.base.tbls _ _ (I.ok.tabs c P q d b a),I.hok,I.bare⟩
theorem Inv.after {Q:VK} {u:NT} (I:Inv X NJ σ H s) (h:CE X.stack X.prog X.w H s Q u s'):EP X NJ σ Q u s':=by
 obtain⟨v,i,os,bare,e,c,r,q⟩:=h;obtain⟨f,g,d,t,a⟩:=s';obtain rfl:a=s.os:=os;exact⟨v,i,I.call (h':=f) (g':=g) (d':=d) (t':=t) (ch:=[]) e c bare (λb z=>absurd z (by simp)),r,q⟩
end
def bP (sp:Sp) (dvs:List V) (E:XK) (t:TA):TE:=λa H Q=>t a H λb c=>sp (b++dvs) c Q E
def Binds (K:Ih) (c:FuncData) (b:Oa) (ds:N6):Prop :=
 ∀ (s:NU) (a:N6),K.In s.heap->(a++ds).length=b.length->BindsTo s c ⟨a,[]⟩ (b.zip (a++ds))
theorem Binds.all {K:Ih} {d:FuncData} {b:Oa} (h:∀ a:N6,a.length=b.length->bindArgs d ⟨a,[]⟩=pure (b.zip a)):Binds K d b []:=λs a _ c=>by
 rw [Jo] at c ⊢;exact .of_eq (h a c)
def Passes (CX:CXT) (X:Cx) (E:XK):Prop:=∀ (c:N9) (b:St) (H:Hp) (s:NU) (e:NT) (a:NU),Inv X c b H s->CX X.stack H s E e a->X.xe e a
section
variable {X:Cx} {CX:CXT} {k:Nat} {f C:Ij} {fd:FuncData} {ps:Oa} {sp:Sp} {dvs:List V} {ds:N6} {E:XK} {x m:Str} {p pos apos:Pos} {e o:Expr} {es:Od} {ta:TE} {t:TA}
theorem EZ {g:N9} {d:St} {H:Hp} {s:NU} {Q:VK} {a:N6} {c:List V} (F:FnOk X.prog X.w X.K X.mg X.base CX k f fd ps sp) (n:Room k X.A) (y:Binds X.K fd ps ds) (v:Vals dvs ds) (l:Passes CX X E)
  (I:Inv X g d H s) (r:Vals c a) (h:sp (c++dvs) H Q E):IK (model X.prog X.w) X.A (call (.ref f) a) (EP X g d Q) X.xe s:=by
 have i:Vals (c++dvs) (a++ds):=r.append v;have q:(a++ds).length=ps.length:=by rw [<-i.length];exact F.len _ _ _ _ h
 refine wpAny_call (LQ (F.run X.A X.stack s H ⟨a,[]⟩ (a++ds) (c++dvs) Q E n I.env0 (y s a I.kIn q) i h) λr j b=>?_);cases r with
 | error e=>exact l g d H s e j I b
 | ok z =>
  cases z with
  | ret u=>exact I.after b
  | next=>exact JU b
  | brk=>exact JU b
  | cont=>exact JU b
theorem sR (F:FnOk X.prog X.w X.K X.mg X.base CX k f fd ps sp) (i:Room k X.A) (hg:Gl X x) (j:X.mg x=NQ (.ref f)) (l:JW X.K (.ref f)=NS) (v:Binds X.K fd ps ds) (u:Vals dvs ds) (g:Passes CX X E)
  (y:PA X (e :: es) t) (b:(x == ("__debug__":Str))=NV:=by decide) (n:Jg (e :: es) X.env=(NV,eval e X.env) :: Jg es X.env:=by rfl) (a:(backTo pos (Jg es X.env)).any (·.1)=NV:=by rfl) :
  PE X (.Call (.Name x p) (e :: es) [] pos) (bP sp dvs E t):=by
 intro z s d H Q I h;refine wpAny_Call_Name_kw (v7 I hg j ?_ b);refine Mo (h₀:=X.base) I.ok.mod.kin l (thn (y pos z s d H _ I h) λD G ⟨B,J,c,r,q⟩=>⟨c.kIn,?_⟩) n a;exact EZ F i v u g c r q
structure Mk (K:Ih) (C f:Ij):Prop where
 makes:PySem.W.makesIn K C=NS
 init:Kh K (.ref C) "__init__"=NQ (NQ (.ref f))
 fn:PySem.W.isFn K (.ref f)=NS
 kp:JW K (.ref C)=NS
end
section
variable {X:Cx} {CX:CXT} {k:Nat} {f C:Ij} {fd:FuncData} {ps ks:Oa} {sp:Sp} {E:XK} {x m:Str} {p pos apos kpos:Pos} {e o:Expr} {es:Od} {kws:Of} {te ta:TE} {t tk:TA} {nm:Option Str}
structure KBinds (K:Ih) (fd:FuncData) (ps ks:Oa) (g:N6->N6->N6) (gV:List V->List V->List V):Prop where
 to:∀ (s:NU) (us ws:N6),K.In s.heap->(g us ws).length=ps.length->BindsTo s fd ⟨us,ks.zip ws⟩ (ps.zip (g us ws))
 rel:∀ {vs:List V} {us:N6} {zs:List V} {ws:N6},Vals vs us->Vals zs ws->Vals (gV vs zs) (g us ws)
variable {g:N6->N6->N6} {gV:List V->List V->List V}
end
structure FnScope (N P:Oa) (sc:Scope):Prop where
 kind:sc.kind=.function
 co:sc.isCoroutine=NV
 gen:sc.isGenerator=NV
 nd:N.Nodup
 pre:N.take P.length=P
 par:∀ x∈P,sc.names.lookup x=NQ .local \/ sc.names.lookup x=NQ .cell
 nofree:∀ y∈sc.names,y.2≠.free
theorem ix {b:Str->Og} {x:Str}:∀ {a:List (Str×NT)} {m:Str->N7},(∀ v,(x,v)∉a)->bindL b a m x=m x
 | [],_,_=>rfl
 | (n,v) :: r,m,h=>by
  unfold bindL;rw [ix λw c=>h w (Ii _ c)];split
  ·have:x≠n:=by rintro rfl;exact h v Ik
   simp [this]
  ·rfl
theorem iy {b:Str->Og} {x:Str}:∀ {a:List (Str×NT)} {m:Str->N7},(∀ v,(x,v)∉a)->bindC b a m x=m x
 | [],_,_=>rfl
 | (n,v) :: r,m,h=>by
  unfold bindC;rw [iy λw c=>h w (Ii _ c)];split
  ·rfl
  ·have:x≠n:=by rintro rfl;exact h v Ik
   simp [this]
theorem iA {a:Str->Og} {x:Str} {v:NT}:∀ {P:Oa} {b:N6} {i:Nat} {m:Str->N7},P.Nodup->P[i]?=NQ x->b[i]?=NQ v->a x=NQ .local ->
  bindL a (P.zip b) m x=NQ v
 | [],_,_,_,_,h,_,_=>by simp at h
 | _ :: _,[],_,_,_,_,h,_=>by simp at h
 | p :: P,w :: b,0,m,nd,h1,h2,hk=>by
  simp at h1 h2;subst h1;subst h2;show bindL a ((p,w) :: P.zip b) m p=_;unfold bindL;rw [ix λv c=>(Jp.mp nd).1 (Mf c).1,NM hk];simp
 | p :: P,w :: b,i+1,m,nd,h1,h2,hk=>by
  show bindL a ((p,w) :: P.zip b) m x=_;unfold bindL;exact iA (i:=i) (Jp.mp nd).2 (by simpa using h1) (by simpa using h2) hk
theorem iB {a:Str->Og} {x:Str} {v:NT}:∀ {P:Oa} {b:N6} {i:Nat} {m:Str->N7},P.Nodup->P[i]?=NQ x->b[i]?=NQ v->a x≠NQ .local ->
  bindC a (P.zip b) m x=NQ v
 | [],_,_,_,_,h,_,_=>by simp at h
 | _ :: _,[],_,_,_,_,h,_=>by simp at h
 | p :: P,w :: b,0,m,nd,h1,h2,hk=>by
  simp at h1 h2;subst h1;subst h2;show bindC a ((p,w) :: P.zip b) m p=_;unfold bindC;rw [iy λv c=>(Jp.mp nd).1 (Mf c).1,NL hk];simp
 | p :: P,w :: b,i+1,m,nd,h1,h2,hk=>by
  show bindC a ((p,w) :: P.zip b) m x=_;unfold bindC;exact iB (i:=i) (Jp.mp nd).2 (by simpa using h1) (by simpa using h2) hk
noncomputable def start (N:Oa) (a:List V):St:=a.map NQ++KC (N.length - a.length) NW
noncomputable def zV (CX:CXT) (P:NY) (w:NX) (K:Ih) (mg:Str->N7) (base:Heap) (N:Oa) (b:Str) (a:Scope) (f:Ij) (d:NT) (A:NZ) (outer:Ob) (s:NU) (H:Hp) (E:XK):Cx where
 prog:=P
 w:=w
 K:=K
 mg:=mg
 base:=base
 A:=A.deeper (envOfC b a s.heap.objs.size f d)
 N:=N
 s₀:=s
 H₀:=H
 env:=envOfC b a s.heap.objs.size f d
 outer:=outer
 stack:=envOfC b a s.heap.objs.size f d :: outer
 ex:=[]
 calm:=NS
 fn:=λ_=>NS
 pn:=[]
 xe:=λe g=>IK (model P w) (A.deeper (envOfC b a s.heap.objs.size f d)) (leaving (envOfC b a s.heap.objs.size f d) e) (λ_ c=>CX outer H s E e c) (λh c=>CX outer H s E h c) g
theorem mH {a:Scope} {n:Nat} {x:Str} (h:a.names.lookup x=NQ .cell):∃ c,(cellsFrom n a.names []).lookup x=NQ c:=by
 have q:=Kt a.names n [] (.inl h);exact Kn.mp q
theorem iC {CX:CXT} {P:NY} {w:NX} {K:Ih} {M:Str->N7} {base:Heap} {N t:Oa} {j:Str} {d:Scope} {f:Ij} {J:NT} {A:NZ} {g:Ob} {s O:NU} {H:Hp} {E:XK} {L:N6} {o:List V}
  (S:FnScope N t d) (W:A.handled=NW) (m:Env0 P w K M base A g s H) (Z:o.length=t.length) (r:Vals o L)
  (x:InCallC s s.heap.objs.size (bindL (envOfC j d s.heap.objs.size f J).kindOf (t.zip L) λ_=>NW) (cellsFrom (s.heap.objs.size+1) d.names []) (bindC (envOfC j d s.heap.objs.size f J).kindOf (t.zip L) λ_=>NW) O) :
  Inv (zV CX P w K M base N j d f J A g s H E) [] (start N o) H O:=by
 have U:t.length<=N.length:=by have:=congrArg Nd S.pre;rw [Jt] at this;lia
 obtain⟨I,Y,rfl,R⟩:=x.done;have B:∀ b:Ij,b∉(zV CX P w K M base N j d f J A g s H E).ex:=λb z=>absurd (show b∈([]:N8) from z) (by simp);refine⟨⟨m.mod,S.kind,rfl,rfl,Iu _,λy z c I l=>?_,λy C=>?_,λy c _ h=>?_,λ_=>W,Nf m.frames,.inr ⟨rfl,rfl⟩,λb z=>absurd z (B b),m.bs,m.bsz,λb _ _=>B b,λb z=>absurd z (B b),m.funs,m.frf,m.tabs⟩,
  rfl,m.bare,Un.kept R,⟨_,x.toInCall.ns,λi y v I l h3=>?_⟩,λy c h=>⟨_,x.cell y c h⟩,m.hok.fresh (Iu _),λy c h=>?_,λp F=>absurd (show p∈([]:N9) from F) (by simp),m.hok.kept R,?_⟩
 ·exact name_of_addr x.apart (KW I) (KW l)
 ·have C:d.names.lookup y=NQ .cell \/ d.names.lookup y=NQ .free:=C;rcases C with C | C
  ·exact mH C
  ·exact absurd rfl (S.nofree _ (KW C))
 ·exact JL (x.above y c (KW h))
 ·have G:i<o.length:=by
   unfold start at l;by_cases G:i<o.length
   ·exact G
   ·rw [IC (by simpa using G)] at l;rw [K3] at l;split at l <;> cases l
  have X:o[i]?=NQ v:=by
   unfold start at l;rw [Iy (by simpa using G),Iq] at l;cases e:o[i]? with
   | none=>rw [e] at l;cases l
   | some a=>rw [e] at l;cases l;rfl
  obtain⟨u,Q,T⟩:=r.get X;have F:t[i]?=NQ y:=by
   rw [<-S.pre,KU (by lia)];exact I
  have D:t.Nodup:=by rw [<-S.pre];exact S.nd.sublist (List.take_sublist _ _)
  refine⟨u,T,?_⟩;rcases S.par y (Ir F) with k | k
  ·exact .inl ⟨k,iA D F Q k⟩
  ·obtain⟨c,e⟩:=mH (n:=s.heap.objs.size+1) k;refine .inr ⟨.inl k,c,e,?_⟩;have q:=x.cell y c e;rw [iB D F Q (by show d.names.lookup y≠_;rw [k];decide)] at q;exact q
 ·exact m.hok.fresh (JL (x.above y c (KW h)))
 ·unfold start;show _=N.length;rw [IE,Ib,LS];lia
theorem sS {CX:CXT} {P:NY} {w:NX} {K:Ih} {L:Str->N7} {base:Heap} {k:Nat} {f:Ij} {name d:Str} {h:Arguments} {i:Oe} {a:Scope} {dV Z F Y g ct oc:NT} {an od:Oc}
  {R:Array (N7)} {N G:Oa} {sp:Sp} (lk:K.lookup f=NQ ⟨oc,od,.func (JZ name d h i a dV Z F Y an g ct),R⟩) (W:JH K g d=NS) (S:FnScope N G a)
  (z:∀ j H Q E,sp j H Q E->j.length=G.length)
  (m:∀ (A:NZ) (c:Ob) (s:NU) (H:Hp) (j:List V) (Q:VK) (E:XK),Room k (A.deeper (envOfC d a s.heap.objs.size f g))->sp j H Q E ->
   ∃ t,PSs (zV CX P w K L base N d a f g A c s H E) i t/\t { nx:=λ_ H'=>Q .non H',rt:=Q } (start N j) H) :
  FnOk P w K L base CX (k+1) f (JZ name d h i a dV Z F Y an g ct) G sp:=by
 refine⟨z,λA c s H args us j Q E U D hb r B=>?_⟩;have hl:=z _ _ _ _ B;have KX:K.In s.heap:=D.mod.kin.keeps λb o e=>(D.bs b o e).1;have T:s.heap.NoLimit:=D.mod.nolimit.keeps λb o e=>(D.bs b o e).1;have l:∀ y∈G.zip us,a.names.lookup y.1=NQ .local \/ (a.names.lookup y.1=NQ .cell/\((cellsFrom (s.heap.objs.size+1) a.names []).lookup y.1).isSome=NS):=λ⟨n,v⟩ hy=>by
  rcases S.par n (Mf hy).1 with q | q
  ·exact .inl q
  ·exact .inr ⟨q,Kt _ _ _ (.inl q)⟩
 refine codeAny_call_function U.depth (KX _ _ lk) rfl S.co S.gen rfl (Mp KX W) (hb _ _ _ _ ?_);refine wpAny_newFunctionEnv_cells S.kind l λenv he X x=>?_;subst he;refine⟨T.keeps x.toInCall.keep,codeAny_func ?_⟩;obtain⟨t,ht,hq⟩:=m A c s H j Q E (U.deeper _) B;have I:Inv (zV CX P w K L base N d a f g A c s H E) [] (start N j) H X:=iC S U.hd D hl r x;refine JD (ht [] X (start N j) H _ I hq) (λfl M p=>?_) λe M p=>p;have C:∀ {σ':St} {H':Hp} {v:V} {u:NT},Inv (zV CX P w K L base N d a f g A c s H E) [] σ' H' M->RelV v u->Q v H'->CE c P w H s Q u M :=
  λ{σ' H' v u} J O q=>⟨v,H',J.os,J.bare,J.base,J.hok,O,q⟩
 cases fl with
 | ret u =>
  obtain⟨v,σ',H',J,O,q⟩:=p;exact C J O q
 | next =>
  obtain⟨σ',H',J,q⟩:=p;exact C (v:=V.non) (u:=Value.none) J rfl q
 | brk =>
  obtain⟨_,_,_,q⟩:=p;exact JU q
 | cont =>
  obtain⟨_,_,_,q⟩:=p;exact JU q
section
variable {X:Cx} {x:Str} {p pos:Pos} {e:Expr} {es:Od} {t:TA} {id T:String} {r:List V->Hp->VK->Prop}
def tCB (r:List V->Hp->VK->Prop) (t:TA):TE:=λa H Q=>t a H λb c=>r b c Q
theorem zB (q:yJ X (.builtin id) r) (hg:Gl X x) (n:X.mg x=NW) (l:bootBuiltins x=NQ (.builtin id)) (u:PA X (e :: es) t) (m:x ≠ "__name__":=by decide) (b:(x == ("__debug__":Str))=NV:=by decide)
  (o:Jg (e :: es) X.env=(NV,eval e X.env) :: Jg es X.env:=by rfl) (a:(backTo pos (Jg es X.env)).any (·.1)=NV:=by rfl):PE X (.Call (.Name x p) (e :: es) [] pos) (tCB r t):=by
 intro d s c H Q I h;refine wpAny_Call_Name_kw (vE I hg n l ?_ m b);exact PyProof.Rows.callWith_builtin1 (thn (u pos d s c H _ I h) λg i ⟨f,w,v,j,k⟩=>q d i c w f g Q v j k) o a
theorem jO (q:yJ X (.type T) r) (hg:Gl X x) (n:X.mg x=NW) (l:bootBuiltins x=NQ (.type T)) (u:PA X (e :: es) t) (m:x ≠ "__name__":=by decide) (b:(x == ("__debug__":Str))=NV:=by decide)
  (o:Jg (e :: es) X.env=(NV,eval e X.env) :: Jg es X.env:=by rfl) (a:(backTo pos (Jg es X.env)).any (·.1)=NV:=by rfl):PE X (.Call (.Name x p) (e :: es) [] pos) (tCB r t):=by
 intro d s c H Q I h;refine wpAny_Call_Name_kw (vE I hg n l ?_ m b);exact Kg (thn (u pos d s c H _ I h) λg i ⟨f,w,v,j,k⟩=>q d i c w f g Q v j k) o a
theorem fM (g:yJ X (.type T) r) (hg:Gl X x) (f:X.mg x=NW) (c:bootBuiltins x=NQ (.type T)) (d:x ≠ "__name__":=by decide) (a:(x == ("__debug__":Str))=NV:=by decide) :
  PE X (.Call (.Name x p) [] [] pos) (tCB r qC):=by
 intro i s b H Q I h;refine wpAny_Call_Name_kw (vE I hg f c ?_ d a);exact PyProof.Rows.callWith_type0 (g i s b H [] [] Q I .nil h)
end
end L2
namespace HT
open PySem PyProof.Rows
theorem rcLt_int (A:NZ) (s:NU) (a:Int) (t:Tok) (c:Int) (u:Tok) (prog:NY) (w:NX) (E:NT->NU->Prop) (Q:NT->NU->Prop) (h:Q (.bool (decide (a<c))) s) :
  IK (model prog w) A (richCompare .Lt (.int a t) (.int c u)) Q E s :=
 (PyProof.Rows.lt_int h:IK (model prog w) A (JI .Lt (.int a t) (.int c u)) Q E s)
section
open PySem.SeqAt
open PySem.AutoSeq1 (wpAny_loadPart')
open PySem.MeetsSeq PySem.MeetsSeq2 PySem.MeetsSeq3
end
section
variable {prog:NY} {w:NX} {A:NZ} {E:NT->NU->Prop} {s:NU}
end
end HT
namespace L2
open PySem PySem.Spec PyProof.Rows
abbrev TO:=St->Hp->(Option Int->Hp->Prop)->Prop
theorem intsAre_of {ns:Oh}:∀ {a:N6},Vals (ns.map V.int) a->IntsAre a ns:=by
 induction ns with
 | nil=>intro a r;rw [LB] at r;cases r;exact .nil
 | cons n ns ih =>
  intro a r;rw [IL] at r;cases r with
  | cons c b =>
   obtain⟨t,e⟩:=c;subst e;exact .cons n t (ih b)
section
variable {X:Cx} {e:Expr} {te:TE} {lo hi:Option Expr} {tl th:TO} {pos p2:Pos}
end
noncomputable def ixN (n:Nat) (i:Int):Oi:=if 0<=i then (if i<n then NQ i.toNat else NW) else if -(n:Int)<=i then NQ (i+n).toNat else NW
noncomputable def atI {a:Type} (xs:List a) (i:Int):Option a:=(ixN xs.length i).bind λj=>xs[j]?
theorem sT {n:Nat} {i:Int} {j:Nat} (h:ixN n i=NQ j):seqIndex? i n=NQ j/\j<n/\-(n:Int)<=i/\i<n:=by
 unfold ixN at h;by_cases b:0<=i
 ·rw [NM b] at h;by_cases a:i<n
  ·rw [NM a] at h;have e:i.toNat=j:=N1 h;exact⟨by rw [seqIndex_of b a,e],by lia,by lia,a⟩
  ·rw [NL a] at h;cases h
 ·rw [NL b] at h;by_cases a:-(n:Int)<=i
  ·rw [NM a] at h;have e:(i+n).toNat=j:=N1 h;exact⟨by rw [seqIndex_neg (by lia) a,e],by lia,a,by lia⟩
  ·rw [NL a] at h;cases h
theorem sU {a:Type} {xs:List a} {i:Int} {v:a} (h:atI xs i=NQ v):∃ j,seqIndex? i xs.length=NQ j/\xs[j]?=NQ v/\j<xs.length/\-(xs.length:Int)<=i/\i<xs.length:=by
 unfold atI at h;cases e:ixN xs.length i with
 | none=>rw [e] at h;cases h
 | some j =>
  rw [e] at h;obtain⟨f,d,c,b⟩:=sT e;exact⟨j,f,h,d,c,b⟩
theorem fg {a:Type} {xs:List a} {j:Nat} {v:a} (h:xs[j]?=NQ v):atI xs (j:Int)=NQ v:=by
 have b:j<xs.length:=(Ig.mp h).1;have e:ixN xs.length (j:Int)=NQ j:=by
  unfold ixN;rw [NM (by lia),NM (by lia)];simp
 unfold atI;rw [e];exact h
def fh (b:Expr):Prop:=∀ o i,subscripted b NV o i=operate [o,i] (getItem o i)
def IxR (X:Cx) (r:R2):Prop :=
 ∀ (b a:Expr) (d:N9) (s:NU) (c:St) (H:Hp) (x y:V) (v u:NT) (Q:VK),Inv X d c H s->RelV x v->RelV y u->r x y H Q ->
  subscripted a NV v u=operate [v,u] (getItem v u)->IK (model X.prog X.w) X.A (subscriptTail b a v u) (EP X d c Q) X.xe s
def MtR (X:Cx) (id:String) (r:V->List V->Hp->VK->Prop):Prop :=
 ∀ (d:N9) (s:NU) (a:St) (H:Hp) (x:V) (b:List V) (v:NT) (c:N6) (Q:VK),Inv X d a H s->RelV x v->Vals b c->r x b H Q ->
  IK (model X.prog X.w) X.A (call (.builtin id) (v :: c)) (EP X d a Q) X.xe s
section
variable {X:Cx} {a b:Expr} {ta tb:TE} {pos:Pos}
theorem zX {r:R2} (i:IxR X r) (k:PE X a ta) (j:PE X b tb) (g:fh b):PE X (.Subscript a b pos) (tOp r ta tb):=by
 intro l s c H Q I h;exact Subscript_ (ET k j I h λv u d x y n m f e q=>i a b l d c n x y v u Q m f e q (g _ _))
def mI (K:Ih):R2:=λx y H Q=>∃ p c i v,x=.ref p/\y=.int i/\SqL K H p c/\atI c i=NQ v/\Q v H
def u9 (K:Ih):R2:=λx y H Q=>∃ p c i v,x=.ref p/\y=.int i/\SqT K H p c/\atI c i=NQ v/\Q v H
theorem Cu:IxR X (mI X.K):=by
 intro e f C s n H x y v u Q I F E h o;obtain⟨p,P,i,z,rfl,rfl,G,L,q⟩:=h;cases F;obtain⟨t,rfl⟩:=E;obtain⟨l,r,k,R⟩:=I.list G;obtain⟨j,d,O,T,N,M⟩:=sU L;obtain⟨w,B,g⟩:=r.get O;have J:=r.length;have S:=dP;have c:EP X C n Q w s:=⟨z,H,I,g,q⟩;by_cases A:0<=i
 ·have m:i.toNat=j:=by
   rw [seqIndex_of A M] at d;exact N1 d
  exact item_listR k.isList A (by lia) (by rw [m];simpa using B) c o
 ·have m:(i+(l.toArray.size:Int)).toNat=j:=by
   rw [seqIndex_neg (by lia) N] at d;rw [II,<- J];exact N1 d
  exact subscriptTail_builtinR (x:=w) k.isList.typeIs slot_list_getitem.lookup
   (wpAny_getItem_list_neg (Q:=λr D=>r=w/\EP X C n Q r D) k.isList (by lia) (by rw [II] <;> lia) (by lia) (by rw [m];simpa using B) ⟨rfl,c⟩) o
theorem E1:IxR X (u9 X.K):=by
 intro c d l s g H x y v u Q I o n h B;obtain⟨p,L,i,z,rfl,rfl,C,E,q⟩:=h;cases o;obtain⟨t,rfl⟩:=n;obtain⟨A,r,k,M⟩:=I.tuple C;obtain⟨j,G,F,R,P,O⟩:=sU E;obtain⟨w,J,e⟩:=r.get F;have D:=r.length;have N:=dP;have f:EP X l g Q w s:=⟨z,H,I,e,q⟩;exact subscriptTail_builtinR (x:=w) k.typeIs slot_tuple_getitem.lookup
  (getItem_tuple (j:=j) (Q:=λr m=>r=w/\EP X l g Q r m) k (by lia) (by lia) (by rw [II,<- D];exact G) (by simpa using J) ⟨rfl,f⟩) B
theorem oV (its:N6) (n j:Nat) (u:NT):J3 (·.setIfInBounds j u) { cls:=.type "list",data:=.seq its.toArray n }={ cls:=.type "list",data:=.seq (its.set j u).toArray n }:=by
 simp [J3]
theorem Inv.lst {d:N9} {c:St} {H:Hp} {s:NU} {p:Ij} {xs:List V} (I:Inv X d c H s) (h:H p=NQ (.lst xs)) :
  ∃ (its:N6) (n:Nat),Vals xs its/\s.heap.get? p=NQ { cls:=.type "list",data:=.seq its.toArray n }/\xs.length<=Jr:=by
 obtain⟨z,its,n,r,e⟩:=I.hok p _ h;exact⟨its,n,r,e,z⟩
theorem Inv.lstUpd {i:N9} {d:St} {H:Hp} {s:NU} {p:Ij} {xs ys:List V} {its its':N6} {n c:Nat} {f:Obj->Obj} (I:Inv X i d H s) (h:H p=NQ (.lst xs))
  (k:s.heap.get? p=NQ { cls:=.type "list",data:=.seq its.toArray n }) (g:f { cls:=.type "list",data:=.seq its.toArray n }={ cls:=.type "list",data:=.seq its'.toArray c }) (r:Vals ys its') (j:ys.length<=Jr) (t:Nat) :
  Inv X i d (upd H p (.lst ys)) { s with heap:=s.heap.update p f,toks:=t }:=by
 have e:(s.heap.update p f).get? p=NQ { cls:=.type "list",data:=.seq its'.toArray c }:=by
  rw [Kl f k (by rw [g] <;> rfl),g]
 refine I.write (x:=p) (e:=p) (by rw [h];trivial) (.inl rfl) (λb u l q=>(IZ _ _ (JM l)).trans q) ⟨_,e⟩ ?_;exact⟨j,its',c,r,e⟩
def iD:V->V->V->Hp->(Hp->Prop)->Prop:=λo i v H Q=>∃ p c k j,o=.ref p/\i=.int k/\H p=NQ (.lst c)/\ixN c.length k=NQ j/\Q (upd H p (.lst (c.set j v)))
theorem set_list:Cp X iD:=by
 intro G s z H o i v J K u Q I C D B h;obtain⟨p,A,k,j,rfl,rfl,l,F,q⟩:=h;cases C;obtain⟨t,rfl⟩:=D;obtain⟨c,n,r,e,E⟩:=I.lst l;obtain⟨d,M,w,m⟩:=sT F;have f:=r.length;have L:=dP;have y:Inv X G z (upd H p (.lst (A.set j v))) { s with heap:=s.heap.update p (J3 (·.setIfInBounds j u)) } :=
  I.lstUpd l e (oV c n j u) (r.set B j) (by rw [JX];exact E) s.toks
 by_cases x:0<=k
 ·have g:k.toNat=j:=by
   rw [seqIndex_of x m] at d;exact N1 d
  exact PySem.W.ki_setAt e x (by lia) (by rw [II,<- f];exact m) (by rw [g];exact⟨_,y,q⟩)
 ·have g:(k+(c.toArray.size:Int)).toNat=j:=by
   rw [seqIndex_neg (by lia) w] at d;rw [II,<- f];exact N1 d
  exact PySem.W.ki_setBack e (by lia) (by rw [II,<- f];exact w) (by lia) (by rw [g];exact⟨_,y,q⟩)
noncomputable def eE:V->Bool
 | .non=>NS
 | .bl _=>NS
 | .int _=>NS
 | .str _=>NS
 | _=>NV
noncomputable def eqV:V->V->Bool
 | .non,.non=>NS
 | .bl a,.bl b=>a == b
 | .bl a,.int b=>(if a then 1 else 0) == b
 | .int a,.bl b=>a == (if b then 1 else 0)
 | .int a,.int b=>a == b
 | .str a,.str b=>a == b
 | _,_=>NV
theorem E3 {A:NZ} {s:NU} {y x:V} {u v:NT} (e:RelV y u) (c:RelV x v) (g:eE y=NS) (f:eE x=NS):SeqAt.EqAt A s u v (eqV y x):=by
 cases y with
 | non =>
  cases e;cases x with
  | non=>cases c;exact SeqAt.EqAt.same _
  | bl b=>cases c;exact SeqAt.EqAt.none_bool b
  | int b=>obtain⟨t,rfl⟩:=c;exact SeqAt.EqAt.none_int b t
  | str b=>obtain⟨t,rfl⟩:=c;exact SeqAt.EqAt.none_str b t
  | _=>exact absurd (show NV=NS from f) Ie
 | bl a =>
  cases e;cases x with
  | non=>cases c;exact SeqAt.EqAt.bool_none a
  | bl b=>cases c;exact SeqAt.EqAt.bool_bool a b
  | int b=>obtain⟨t,rfl⟩:=c;exact SeqAt.EqAt.bool_int a b t
  | str b=>obtain⟨t,rfl⟩:=c;exact SeqAt.EqAt.bool_str a b t
  | _=>exact absurd (show NV=NS from f) Ie
 | int a =>
  obtain⟨d,rfl⟩:=e;cases x with
  | non=>cases c;exact SeqAt.EqAt.int_none a d
  | bl b=>cases c;exact SeqAt.EqAt.int_bool a d b
  | int b=>obtain⟨t,rfl⟩:=c;exact SeqAt.EqAt.int_int a d b t
  | str b=>obtain⟨t,rfl⟩:=c;exact SeqAt.EqAt.int_str a d b t
  | _=>exact absurd (show NV=NS from f) Ie
 | str a =>
  obtain⟨d,rfl⟩:=e;cases x with
  | non=>cases c;exact SeqAt.EqAt.str_none a d
  | bl b=>cases c;exact SeqAt.EqAt.str_bool a d b
  | int b=>obtain⟨t,rfl⟩:=c;exact SeqAt.EqAt.str_int a d b t
  | str b=>obtain⟨t,rfl⟩:=c;exact SeqAt.EqAt.str_str a d b t
  | _=>exact absurd (show NV=NS from f) Ie
 | _=>exact absurd (show NV=NS from g) Ie
noncomputable def eqU (x:V) (u:NT):Bool:=match u with
 | .none=>eqV .non x
 | .bool b=>eqV (.bl b) x
 | .int i _=>eqV (.int i) x
 | .str z _=>eqV (.str z) x
 | _=>NV
theorem xV {x y:V} {u:NT} (r:RelV y u) (f:eE y=NS):eqU x u=eqV y x:=by
 cases y with
 | non=>cases r;rfl
 | bl b=>cases r;rfl
 | int i=>obtain⟨t,rfl⟩:=r;rfl
 | str z=>obtain⟨t,rfl⟩:=r;rfl
 | _=>exact absurd (show NV=NS from f) Ie
theorem kC {x:V}:∀ {xs:List V} {c:N6},Vals xs c->xs.all eE=NS->c.any (eqU x)=xs.any λy=>eqV y x
 | _,_,.nil,_=>rfl
 | y :: xs,u :: c,.cons r t,f=>by
  rw [Lr,Io] at f;rw [LY,LY,xV r f.1,kC t f.2]
theorem fN {A:NZ} {s:NU} {x:V} {v:NT} (e:RelV x v) (g:eE x=NS):∀ {xs:List V} {d:N6},Vals xs d->xs.all eE=NS->∀ u∈d,SeqAt.EqAt A s u v (eqU x u)
 | _,_,.nil,_=>λu c=>by cases c
 | y :: xs,u :: d,.cons r t,f=>λh c=>by
  rw [Lr,Io] at f;rcases Iv.mp c with rfl | c
  ·rw [xV r f.1];exact E3 r e f.1 g
  ·exact fN e g t f.2 h c
noncomputable def inV (x:V) (xs:List V):Bool:=xs.any λy=>eqV y x
def rIn (K:Ih) (neg:Bool):R2:=λx y H Q=>∃ p c,y=.ref p/\(SqL K H p c \/ SqT K H p c)/\eE x=NS/\c.all eE=NS/\Q (.bl (if neg then !inV x c else inV x c)) H
theorem kE:OpR X (JI .NotIn) (rIn X.K NS):=by
 intro o s m H x y v u Q I i k h;obtain⟨p,n,rfl,d,j,e,q⟩:=h;cases k;rcases d with d | d
 ·obtain⟨c,r,f,l⟩:=I.list d;refine SeqAt.notIn_listAt (eqU x) f.isList (λw g=>fN i j r e w (by simpa using g)) ⟨.bl _,H,I,rfl,?_⟩;rw [show c.toArray.any (eqU x)=c.any (eqU x) by simp,kC r e];exact q
 ·obtain⟨c,r,f,l⟩:=I.tuple d;refine SeqAt.notIn_tupleAt (eqU x) f (λw g=>fN i j r e w (by simpa using g)) ⟨.bl _,H,I,rfl,?_⟩;rw [show c.toArray.any (eqU x)=c.any (eqU x) by simp,kC r e];exact q
theorem kF:yJ X (.builtin "len") (λxs H Q=>∃ p ys,xs=[.ref p]/\(SqL X.K H p ys \/ SqT X.K H p ys)/\Q (.int ys.length) H):=by
 intro n s k H xs l Q I r h;obtain⟨p,ys,rfl,d,q⟩:=h;obtain⟨u,rfl,i⟩:=vals1 r;cases i;have m:=dP;rcases d with d | d
 ·obtain⟨g,e,f,j⟩:=I.list d;have c:=e.length;exact Calls.call_len_list f.isList (by simp only [II] <;> lia) ⟨.int ys.length,H,I.tok _,⟨s.toks+1,by rw [II,c]⟩,q⟩
 ·obtain⟨g,e,f,j⟩:=I.tuple d;have c:=e.length;exact len_tuple f (by simp only [II] <;> lia) ⟨.int ys.length,H,I.tok _,⟨s.toks+1,by rw [II,c]⟩,q⟩
theorem hU:yJ X (.type "tuple") (λxs H Q=>∃ p ys,xs=[.ref p]/\((SqL X.K H p ys/\∀ l,H l=NW->Q (.ref l) (upd H l (.tup ys))) \/ (SqT X.K H p ys/\Q (.ref p) H))):=by
 intro n s j H xs z Q I r h;obtain⟨p,ys,rfl,h⟩:=h;obtain⟨u,rfl,v⟩:=vals1 r;cases v;rcases h with⟨i,q⟩ | ⟨i,q⟩
 ·obtain⟨c,f,g,k⟩:=I.list i;have m:=f.length;refine call_tuple_list g.isList (λd x=>?_) (by simp only [II] <;> lia);have t:Inv X n j H { s with heap:=d }:=I.kept (t':=s.toks) x;have y:Inv X n j (upd H d.objs.size (.tup ys)) { s with heap:=d.push { cls:=.type "tuple",data:=.seq c.toArray } } :=
   t.laid (t':=s.toks) (λb o e=>Im _ e) (Iu _) (show ObjOk X.prog X.w _ _ _ (.tup ys) from⟨k,c,f,IsTup.new _ _⟩)
  exact⟨.ref d.objs.size,_,y,rfl,q _ (t.hok.fresh (Iu _))⟩
 ·obtain⟨c,f,g,k⟩:=I.tuple i;exact call_tuple_same g ⟨.ref p,H,I,rfl,q⟩
def tyV (K:Ih) (T:String) (x:V) (H:Hp):Prop:=match x with
 | .str _=>T="str"
 | .int _=>T="int"
 | .ref p=>(T="list"/\∃ d,SqL K H p d) \/ (T="tuple"/\∃ o,K.lookup p=NQ o/\o.cls=.type "tuple"/\o.dict=NW) \/
   (T="dict"/\((∃ c,H p=NQ (.dK c)) \/ ∃ c,H p=NQ (.dT c))) \/ (T="set"/\∃ S n,H p=NQ (.set S n))
 | _=>False
theorem xW {A:N9} {q:St} {H:Hp} {s:NU} {T:String} {x:V} {v:NT} (I:Inv X A q H s) (r:RelV x v) (g:tyV X.K T x H) :
  s.TypeIs v T/\∀ a,v=.ref a->∃ m,s.heap.get? a=NQ m/\m.dict=NW:=by
 cases x with
 | str z =>
  obtain⟨t,rfl⟩:=r;cases (show T="str" from g);exact⟨typeIs_str s z t,λ_ e=>nomatch e⟩
 | int i =>
  obtain⟨t,rfl⟩:=r;cases (show T="int" from g);exact⟨typeIs_int s i t,λ_ e=>nomatch e⟩
 | ref p =>
  cases r;rcases g with⟨rfl,B,w⟩ | ⟨rfl,o,d,y,j⟩ | ⟨rfl,d⟩ | ⟨rfl,S,n,d⟩
  ·obtain⟨u,_,l,_⟩:=I.list w;refine⟨l.isList.typeIs,λa e=>?_⟩;cases e;obtain⟨o,n,e,c,j,_⟩:=l;exact⟨o,e,j⟩
  ·refine⟨⟨o,I.kIn p o d,y⟩,λa e=>?_⟩;cases e;exact⟨o,I.kIn _ o d,j⟩
  ·have z:∃ o,s.heap.get? p=NQ o/\o.ExactDict:=by
    rcases d with⟨h,d⟩ | ⟨h,d⟩
    ·obtain⟨_,_,_,_,o,_,_,e,f,_⟩:=I.hok p _ d;exact⟨o,e,f⟩
    ·obtain⟨_,_,_,_,o,_,_,e,f,_⟩:=I.hok p _ d;exact⟨o,e,f⟩
   obtain⟨o,e,f⟩:=z;refine⟨⟨o,e,f.1⟩,λa k=>?_⟩;cases k;exact⟨o,e,f.2.1⟩
  ·obtain⟨o,_,_,_,e,f,_⟩:=I.hok p _ d;refine⟨⟨o,e,f.1⟩,λa k=>?_⟩;cases k;exact⟨o,e,f.2.1⟩
 | _=>exact JU g
def GU (K:Ih) (T:String) (r:V->List V->Hp->VK->Prop) (e:TE):TE:=λd H Q=>e d H λx c=>tyV K T x c/\r x [] c Q
def tBM (K:Ih) (T:String) (r:V->List V->Hp->VK->Prop) (f:TE) (t:TA):TE:=λc H Q=>f c H λx d=>tyV K T x d/\t c d λe g=>r x e g Q
variable {o e:Expr} {es:Od} {to:TE} {t:TA} {name:Str} {apos cpos:Pos} {T id:String} {r:V->List V->Hp->VK->Prop}
theorem E4 (q:PlainAttrs T) (f:Slot T name id) (g:typeOf (.builtin id)=pure (.type "method_descriptor")) (w:MtR X id r) (u:PE X o to)
  (d:attributeBase o name X.env (eval o X.env)=eval o X.env:=by rfl) (c:(apos.endLine == cpos.line)=NS:=by rfl):PE X (.Call (.Attribute o name apos) [] [] cpos) (GU X.K T r to):=by
 intro k s i H Q I h;refine wpAny_Call_method0_late d c (thn (u k s i H _ I h) λv n ⟨x,A,l,j,m,p⟩=>?_);obtain⟨z,y⟩:=xW l j m;exact⟨T,id,q,f,g,z,y,LC rfl (PySem.evalArgs_none (w k n i A x [] v [] Q l j .nil p))⟩
theorem iE (D:PlainAttrs T) (g:Slot T name id) (k:typeOf (.builtin id)=pure (.type "method_descriptor")) (G:MtR X id r) (F:PE X o to) (J:PA X (e :: es) t)
  (f:attributeBase o name X.env (eval o X.env)=eval o X.env:=by rfl)
  (i:((backTo cpos (Jg (e :: es) X.env)).all (λx=>!x.1) && (backToKw cpos (keywordEach [] X.env)).all (λx=>x.1.isSome)
   && decide ((e :: es).length+([]:Of).length+(if ([]:Of).isEmpty then 0 else 1)<30))=NS:=by rfl)
  (d:(apos.endLine == cpos.line)=NS:=by rfl) (E:Jg (e :: es) X.env=(NV,eval e X.env) :: Jg es X.env:=by rfl) (c:(backTo cpos (Jg es X.env)).any (·.1)=NV:=by rfl) :
  PE X (.Call (.Attribute o name apos) (e :: es) [] cpos) (tBM X.K T r to t):=by
 intro l s j H Q I h;refine wpAny_Call_method_late f i d rfl (thn (F l s j H _ I h) λv z ⟨x,P,p,m,w,C⟩=>?_);obtain⟨M,L⟩:=xW p m w;refine⟨T,id,D,g,k,M,L,?_⟩;have n:=J cpos l z j P _ p C;rw [E] at n ⊢;refine LC (by show (NV || (backTo cpos (Jg es X.env)).any (·.1))=NV;rw [c] <;> rfl) (L7 ?_);exact thn n λu y ⟨q,O,N,A,B⟩=>G l y j O x q v u Q N m A B
end
def MtM (X:Cx) (id:String) (r:V->List V->Hp->VK->Prop):Prop :=
 ∀ (d:N9) (s:NU) (a:St) (H:Hp) (x:V) (b:List V) (v:NT) (c:N6) (Q:VK),Inv X d a H s->RelV x v->Vals b c->r x b H Q ->
  IK (model X.prog X.w) X.A (call (.builtin id) (v :: c)) (EP X d a Q) X.xe s
theorem Vals.one:∀ {x:V} {a:N6},Vals [x] a->∃ u,a=[u]/\RelV x u
 | _,_,.cons r .nil=>⟨_,rfl,r⟩
theorem Vals.zero:∀ {a:N6},Vals [] a->a=[]
 | _,.nil=>rfl
theorem Vals.dropLast {xs:List V} {a:N6} (h:Vals xs a):Vals xs.dropLast a.dropLast:=by
 induction h with
 | nil=>exact .nil
 | cons r t ih =>
  cases t with
  | nil=>exact .nil
  | cons q b=>exact .cons r ih
theorem oW {c:Type} (l:List c):l.eraseIdx (l.length - 1)=l.dropLast:=by
 induction l with
 | nil=>rfl
 | cons a r ih =>
  cases r with
  | nil=>rfl
  | cons b r =>
   have e:(a :: b :: r).length - 1=((b :: r).length - 1)+1:=by
    have f:(a :: b :: r).length=r.length+2:=rfl;have d:(b :: r).length=r.length+1:=rfl;lia
   rw [e,List.eraseIdx_cons_succ,ih]
   all_goals rfl
section
variable {X:Cx} {NJ:N9} {σ:St} {H:Hp} {s:NU} {l b:Ij} {xs ys zs:List V}
theorem Inv.lset {its its':N6} {n:Nat} {f:Array NT->Array NT} {t':Nat} (I:Inv X NJ σ H s) (i:H l=NQ (.lst xs))
  (e:s.heap.get? l=NQ { cls:=.type "list",data:=.seq its.toArray n }) (g:f its.toArray=its'.toArray) (c:Vals ys its') (a:ys.length<=Jr) :
  Inv X NJ σ (upd H l (.lst ys)) { s with heap:=s.heap.update l (J3 f),toks:=t' }:=by
 have q:=PySem.IsL.update e f;rw [g] at q;refine I.write (x:=l) (e:=l) (by rw [i];exact trivial) (.inl rfl) (λj u h d=>(IZ s.heap (J3 f) (JM h)).trans d) ⟨_,q⟩ ?_;exact⟨a,its',_,c,q⟩
theorem Inv.lnew {its:N6} {t':Nat} (I:Inv X NJ σ H s) (c:Vals ys its) (a:ys.length<=Jr) :
  Inv X NJ σ (upd H s.heap.objs.size (.lst ys)) { s with heap:=s.heap.push { cls:=.type "list",data:=.seq its.toArray },toks:=t' } :=
 I.laid (λ_ _ q=>Im _ q) (Iu _) ⟨a,its,0,c,IT _ rfl⟩
theorem Inv.fresh (I:Inv X NJ σ H s):H s.heap.objs.size=NW:=I.hok.fresh (Iu _)
theorem Inv.lstM (I:Inv X NJ σ H s) (a:H l=NQ (.lst xs)):xs.length<=Jr/\∃ (its:N6) (n:Nat),Vals xs its/\xs.length=its.length/\s.heap.get? l=NQ { cls:=.type "list",data:=.seq its.toArray n }:=by
 obtain⟨z,its,n,r,e⟩:=I.hok l _ a;exact⟨z,its,n,r,r.length,e⟩
end
section
variable {X:Cx}
def sV:V->List V->Hp->VK->Prop:=λx b H Q=>∃ l a y,x=.ref l/\b=[y]/\H l=NQ (.lst a)/\a.length<Jr/\Q .non (upd H l (.lst (a++[y])))
theorem qO:MtM X "list.append" sV:=by
 intro p s g H x j v k Q I c d h;obtain⟨l,i,y,rfl,rfl,b,m,q⟩:=h;cases c;obtain⟨u,rfl,f⟩:=d.one;obtain⟨z,a,n,r,o,e⟩:=I.lstM b;refine call_meets F.slot_list_append ⟨_,e,rfl⟩ Nq (Ng _ _) (PySem.list_append l a.toArray n u (by rw [II];lia)) ⟨e,?_⟩;refine⟨.non,_,I.lset (its':=a++[u]) b e (by simp) (r.append (.cons f .nil)) ?_,rfl,q⟩;rw [IE,JJ];lia
def GV:V->List V->Hp->VK->Prop:=λx b H Q=>∃ l a y,x=.ref l/\b=[]/\H l=NQ (.lst a)/\a[a.length - 1]?=NQ y/\Q y (upd H l (.lst a.dropLast))
theorem E5:MtM X "list.pop" GV:=by
 intro A s o H x t v w Q I f g h;obtain⟨l,p,y,rfl,rfl,d,j,q⟩:=h;cases f;have c:=g.zero;subst c;obtain⟨z,a,n,r,m,e⟩:=I.lstM d;obtain⟨u,k,i⟩:=r.get j;have b:a.toArray[a.toArray.size - 1]?=NQ u:=by
  show a.toArray[a.length - 1]?=NQ u;rw [<-J9,<- m];exact k
 refine call_meets F.slot_list_pop ⟨_,e,rfl⟩ F.entry_list_pop (F.args_list_pop_1 _) (MeetsSeq.list_pop_last l a.toArray n u b (by rw [II];lia)) ⟨e,?_⟩;refine⟨y,_,I.lset (its':=a.dropLast) d e ?_ r.dropLast ?_,i,q⟩
 ·show a.toArray.eraseIdxIfInBounds (a.toArray.size - 1)=a.dropLast.toArray;rw [II,List.eraseIdxIfInBounds_toArray,oW]
 ·rw [List.length_dropLast];lia
end
end L2
namespace Att
open PySem PySem.W PySem.Calls PyProof.Rows
theorem eW {P:Params} {h:Heap}:∀ (ns:Oh) (c:N6),WellAll P h c (ns.map WData.int)->IntsAre c ns:=by
 intro ns
 induction ns with
 | nil =>
  intro c w;rw [LB] at w;cases w;exact .nil
 | cons n ns ih =>
  intro c w;rw [IL] at w;cases w with
  | cons a b =>
   cases a;exact .cons _ _ (ih _ b)
theorem wa {l:OpenLaw} {n:Nat} (v:l.most=NQ n) {P:Params} {h:Heap} {args:List WData} {b:N6}
  (c:l.row.toRowW.claim.pre args=NS) (j:WellAll P h b args) :
  ∃ a m ns,b=[Value.ref a]/\args=[WData.list (ns.map WData.int)]/\h.get? a=NQ { cls:=.type "list",data:=.seq m.toArray }/\IntsAre m ns/\ns.length<=n:=by
 have k:WShape.hasAll [] args [.list .int]=NS:=(pre_splitW c).1;have o:l.pre.holds [] { args:=args }=NS:=(pre_splitW c).2;obtain⟨d,r,rfl,y,x⟩:=hasAllW_cons k;obtain rfl:=hasAllW_nil x;obtain⟨z,rfl,w⟩:=hasW_list y;obtain⟨ns,rfl⟩:=items_int w;have e:ns.length<=n:=by
  unfold OpenLaw.pre at o;have i:(WTm.not (.lt (.lit (.int (n:Int))) (.len (.arg 0)))).holds [] { args:=[.list (ns.map .int)] }=NS:=by
   have i:=(holds_andW o).1;rw [v] at i;exact i
  have g:=condW_of i (w_not (w_lt w_lit (w_len_list (w_arg rfl))));rw [Ib] at g;refine Nat.le_of_not_lt λq=>?_;have t:(n:Int)<((ns.length:Nat):Int):=by lia
  first
   | (rw [NN t] at g;exact absurd g (by decide))
   | (simp at g;lia)
 cases j with
 | cons s p =>
  cases p;cases s with
  | list u f=>exact⟨_,_,ns,rfl,rfl,u,eW ns _ f,e⟩
theorem wb (l:OpenLaw) (args:List WData):l.row.toRowW.claim.post args (.bool NS) args=NS :=
 postW_of (r:=l.row.toRowW) (X:=(NS == NS))
  (show WShape.has [] (.bool NS) .bool=NS by first | rfl | decide | simp [WShape.has,WShape.arms,WShape.armsAll])
  (show (WTm.eq .res (.lit (.bool NS))).value [] { args:=args,res:=NQ (.bool NS),after:=args }=NQ (.bool (NS == NS)) from w_eq_bool (w_res rfl) w_lit) rfl
theorem attach_call {l:OpenLaw} {n:Nat} {q:NY} {e:Oa} {I:(Str->N7)->Heap->Prop} {H:NX->Heap->Prop} {d:DefRec}
  (M:l.most=NQ n) (A:d.params.defaults=[])
  (s:∀ (w:NX) (c b:NU) (t x:Str->N7) (p:Ij) (o:Obj) (v u h:NT) (a:Ij) (i:N6) (ns:Oh),
   Ground q e [] I w c t x b.heap->H w b.heap ->
   b.heap.get? p=NQ o->o.data=.func (docDef d.name d.params d.body d.scope v u h)->b.heap.CodeRec u d.name->t d.name=NQ (.ref p) ->
   b.heap.get? a=NQ { cls:=.type "list",data:=.seq i.toArray }->IntsAre i ns->ns.length<=n->b.gens=#[] ->
   codeAny (model l.prog w) callerA (.call (.ref p) ⟨[.ref a],[]⟩) (λr s'=>r=.ok (.ret (.bool NS))/\OldK b.heap s'.heap/\s'.os=b.os/\AllBare s'.gens) b) :
  WalkO q e I H l.row.toRowW d [] (λf i=>PySem.call f i):=by
 intro w c b t x G Y p o v u h U kV L Q B E z P F C W j D J y O;obtain rfl:U=.none:=Dflts.none E A;obtain rfl:kV=.none:=Dflts.noKw E;obtain⟨a,i,ns,rfl,rfl,k,g,m⟩:=wa M j y;refine enter_call (LQ (s w c b t x p o v u h a i ns G Y L (fd_plain Q) B z k g m P) λr s' K=>?_);obtain⟨rfl,T,S,R⟩:=K;exact⟨.inl ⟨.bool NS,.bool NS,[],rfl,λ_=>rfl,.bool NS,wb l _,λ_=>⟨List.Pairwise.nil,λ_ N=>(nomatch N)⟩⟩,T,S,R⟩
section
variable {prog:NY} {w:NX} {A:NZ} {E:NT->NU->Prop} {s:NU} {K:Frag}
def noObjs (h:Heap):Heap:={ h with objs:=#[] }
theorem noObjs_get (h:Heap) (b:Ij):(noObjs h).get? b=NW:=by
 cases e:(noObjs h).get? b with
 | none=>rfl
 | some o=>exact absurd (IA e) (Kf _)
theorem fr_all {h:Heap} {L:Ij} {m:Str->N7} (n:h.Ns L m):Fr (noObjs h) L h m :=
 ⟨n,λb o e=>(by rw [noObjs_get] at e;cases e),IV _⟩
end
end Att
namespace L2
open PySem PySem.Spec PyProof.Rows
theorem iF:∀ {a:N6} {ns:Oh},IntsAre a ns->Vals (ns.map V.int) a
 | _,_,.nil=>.nil
 | _,_,.cons n t h=>.cons ⟨t,rfl⟩ (iF h)
end L2
namespace L2
open PySem PySem.Spec PyProof.Rows
noncomputable def jB (s:Stmt):Arguments:=match s with
 | .FunctionDef _ a _ _ _ _ _ _ _ _=>a
 | _=>{ posonlyargs:=[],args:=[],vararg:=NW,kwonlyargs:=[],kw_defaults:=[],kwarg:=NW,defaults:=[] }
noncomputable def ym (s:Stmt):Oe:=match s with
 | .FunctionDef _ _ b _ _ _ _ _ _ _=>b
 | _=>[]
noncomputable def zi (s:Stmt):Scope:=match s with
 | .FunctionDef _ _ _ _ _ _ a _ _ _=>a
 | _=>{ kind:=.function,names:=[],isGenerator:=NV,isCoroutine:=NV }
abbrev CX0:CXT:=λ_ _ _ _ _ _=>False
abbrev E0:XK:=λ_ _ _=>False
theorem GW {X:Cx}:Passes CX0 X E0:=λ_ _ _ _ _ _ _ h=>h.elim
structure Fun (K:Ih) (x qual:Str) (st:Stmt) (f:Ij) (fd:FuncData):Prop where
 ex:∃ (oc:NT) (od:Oc) (kV doc pm:NT) (an:Oc) (cdv ct:NT) (osl:Array (N7)),
  fd=JZ x qual (jB st) (ym st) (zi st) .none kV doc pm an cdv ct/\K.lookup f=NQ ⟨oc,od,.func fd,osl⟩/\JH K cdv qual=NS
 kp:JW K (.ref f)=NS
section
variable {P:NY} {w:NX} {K:Ih} {mg:Str->N7} {base:Heap}
theorem Fun.ok {x b:Str} {st:Stmt} {f:Ij} {m:FuncData} {N g:Oa} {k:Nat} {sp:Sp} (F:Fun K x b st f m) (S:FnScope N g (zi st)) (i:∀ d H Q E,sp d H Q E->d.length=g.length)
  (e:∀ (c:NT) (A:NZ) (a:Ob) (s:NU) (H:Hp) (d:List V) (Q:VK) (E:XK),Room k (A.deeper (envOfC b (zi st) s.heap.objs.size f c))->sp d H Q E ->
   ∃ t,PSs (zV CX0 P w K mg base N b (zi st) f c A a s H E).nox (ym st) t/\t { nx:=λ_ u=>Q .non u,rt:=Q } (start N d) H):FnOk P w K mg base CX0 (k+1) f m g sp:=by
 obtain⟨z,y,kV,r,v,C,c,B,n,rfl,o,l⟩:=F.ex;refine sS o l S i λA a s H d Q E p j=>?_;obtain⟨t,h,q⟩:=e c A a s H d Q E p j;exact⟨t,h.nox,q⟩
theorem Fun.binds {x a:Str} {st:Stmt} {f:Ij} {k:FuncData} {e:Oa} (F:Fun K x a st f k)
  (h:∀ (kV b g:NT) (j:Oc) (c i:NT) (d:N6),d.length=e.length->bindArgs (JZ x a (jB st) (ym st) (zi st) .none kV b g j c i) ⟨d,[]⟩=pure (e.zip d)):Binds K k e []:=by
 obtain⟨o,n,kV,b,g,j,c,i,l,rfl,p,m⟩:=F.ex;exact .all (h kV b g j c i)
theorem oX {x a:Str} {st:Stmt} {f:Ij} {n:NT} {m j:Oc} {e:Array (N7)} {h d g b i:NT} (l:K.lookup f=NQ ⟨n,m,.func (JZ x a (jB st) (ym st) (zi st) .none h d g j b i),e⟩)
  (c:JH K b a=NS) (k:JW K (.ref f)=NS):Fun K x a st f (JZ x a (jB st) (ym st) (zi st) .none h d g j b i):=⟨⟨n,m,h,d,g,j,b,i,e,rfl,l,c⟩,k⟩
end
theorem z7 {n:Nat} (h:n<=1000):n<Jr:=Nat.lt_of_le_of_lt h (by decide)
section
variable {X:Cx}
theorem pv (i:Nat) {x:Str} {pos:Pos} (d:X.N[i]?=NQ x:=by rfl) (b:Vis X.env.scope x:=by first | exact N2 rfl | exact N3 (N2 rfl) | exact N3 (N3 rfl)) (c:(x == ("__debug__":Str))=NV:=by decide)
  (a:(x == ("__classdict__":Str))=NV:=by decide):PE X (.Name x pos) (yB i):=EK d b c a
end
def Same (H a:Hp):Prop:=∀ b o,H b=NQ o->a b=NQ o
theorem Same.refl (H:Hp):Same H H:=λ_ _ h=>h
theorem Same.trans {H e d:Hp} (a:Same H e) (b:Same e d):Same H d:=λc o h=>b c o (a c o h)
theorem Same.free {H a:Hp} (e:Same H a) {l:Ij} (h:a l=Option.none):H l=Option.none:=by
 cases q:H l with
 | none=>rfl
 | some o =>
  rw [e l o q] at h;cases h
theorem Same.seq {K:Ih} {H b:Hp} {a:Ij} {xs:List V} (e:Same H b) (h:SqL K H a xs):SqL K b a xs:=by
 rcases h with (h | ⟨o,h⟩) | h
 ·exact .inl (.inl (e _ _ h))
 ·exact .inl (.inr ⟨o,e _ _ h⟩)
 ·exact .inr h
noncomputable def yj (env:Env):Oj->Ol->Ol
 | [],acc=>acc
 | (x,k) :: r,acc=>if k == .free then yj env r ((x,(env.cells.lookup x).getD 0) :: acc) else yj env r acc
theorem b7 {d:Scope} {env:Env} (h:∀ x,(x,NameKind.free)∈d.names->∃ c,env.cells.lookup x=NQ c):closureFor d env=pure (yj env d.names []):=by
 have e:∀ (a:Oj) (b:Ol),(∀ x,(x,NameKind.free)∈a->∃ c,env.cells.lookup x=NQ c) ->
   (forIn a b λ(x:Str×NameKind) (m:Ol)=>if (x.2 == NameKind.free)=NS then (do let c <- cellOf env x.1;pure (ForInStep.yield ((x.1,c) :: m))) else pure (ForInStep.yield m))=(pure (yj env a b):Sem (Ol)):=by
  intro a
  induction a with
  | nil=>intro b _;rfl
  | cons p r ih =>
   intro b i;obtain⟨x,k⟩:=p;rw [K7];unfold yj;by_cases j:(k == NameKind.free)=NS
   ·have g:k=.free:=by simpa using j
    subst g;obtain⟨c,l⟩:=i x Ik;simp only [beq_self_eq_true,if_true];rw [<-ih _ λy f=>i y (Ii _ f)];have:cellOf env x=pure c:=by unfold cellOf;rw [l]
    rw [this,l];rfl
   ·simp only [j,Js,if_false];rw [<-ih _ λy f=>i y (Ii _ f)];rfl
 simp only [closureFor];have q:=e d.names [] h;refine Eq.trans ?_ (Eq.trans (congrArg (λz=>z >>= λr=>pure r) q) ?_)
 ·rfl
 ·rfl
theorem ae {env:Env}:∀ {names:Oj} {acc:Ol} {p:Str×Ij},p∈yj env names acc->p∈acc \/ ((p.1,NameKind.free)∈names/\p.2=(env.cells.lookup p.1).getD 0)
 | [],acc,p,h=>.inl h
 | (x,k) :: r,acc,p,h=>by
  unfold yj at h;split at h
  ·rename_i b;have a:k=.free:=by simpa using b
   subst a;rcases ae h with q | ⟨q,e⟩
   ·rcases Iv.mp q with q | q
    ·subst q;exact .inr ⟨Ik,rfl⟩
    ·exact .inl q
   ·exact .inr ⟨Ii _ q,e⟩
  ·rcases ae h with q | ⟨q,e⟩
   ·exact .inl q
   ·exact .inr ⟨Ii _ q,e⟩
theorem aL {a:Type}:∀ {l:List (Str×a)} {x:Str} {v:a},(x,v)∈l->∃ u,l.lookup x=NQ u
 | (y,u) :: r,x,v,h=>by
  rw [JK];cases hb:x == y with
  | true=>exact⟨u,rfl⟩
  | false =>
   rcases Iv.mp h with e | h
   ·have:x=y:=congrArg MM e;subst this;simp at hb
   ·exact aL h
theorem b8 {env:Env}:∀ {names:Oj} {acc:Ol} {x:Str},(x,NameKind.free)∈names->(x,(env.cells.lookup x).getD 0)∈yj env names acc
 | (y,k) :: r,acc,x,h=>by
  have c:∀ (names:Oj) (acc:Ol) (p:Str×Ij),p∈acc->p∈yj env names acc:=by
   intro names
   induction names with
   | nil=>intro acc p d;exact d
   | cons q r ih =>
    intro acc p d;obtain⟨a,b⟩:=q;unfold yj;split
    ·exact ih _ _ (Ii _ d)
    ·exact ih _ _ d
  unfold yj;rcases Iv.mp h with e | h
  ·cases e;simp only [beq_self_eq_true,if_true];exact c _ _ _ Ik
  ·split
   ·exact b8 h
   ·exact b8 h
theorem bQ {env:Env} {names:Oj} {x:Str} {c:Ij} (h:∀ x,(x,NameKind.free)∈names->∃ c,env.cells.lookup x=NQ c) (e:(yj env names []).lookup x=NQ c):env.cells.lookup x=NQ c/\(x,NameKind.free)∈names:=by
 rcases ae (mem_of_lookup e) with q | ⟨q,b⟩
 ·cases q
 ·obtain⟨d,a⟩:=h _ q;dsimp only at a b;rw [a] at b;exact⟨by rw [a];exact congrArg NQ b.symm,q⟩
theorem aP {env:Env} {names:Oj} {x:Str} {c:Ij} (h:∀ x,(x,NameKind.free)∈names->∃ c,env.cells.lookup x=NQ c) (b:(x,NameKind.free)∈names) (e:env.cells.lookup x=NQ c):(yj env names []).lookup x=NQ c:=by
 obtain⟨u,a⟩:=aL (b8 (env:=env) (acc:=[]) b);have:=(bQ h a).1;rw [this] at e;rw [a,e]
theorem jP:∀ {names:Oj} {n:Nat} {acc:Ol} {x:Str} {c:Ij},(cellsFrom n names acc).lookup x=NQ c->(n<=c/\c<n+names.length/\(x,NameKind.cell)∈names) \/ (acc.lookup x=NQ c/\(x,NameKind.cell)∉names)
 | [],n,acc,x,c,h=>.inr ⟨h,by simp⟩
 | (y,k) :: r,n,acc,x,c,h=>by
  unfold cellsFrom at h;split at h
  ·rename_i g;have f:k=.cell:=by simpa using g
   subst f;rcases jP h with⟨a,b,d⟩ | ⟨a,b⟩
   ·exact .inl ⟨LD a,IW b (by rw [IJ];lia),Ii _ d⟩
   ·rw [JK] at a;cases hb:x == y with
    | true =>
     rw [hb] at a;cases a;have:x=y:=by simpa using hb
     subst this;exact .inl ⟨Iu _,by rw [IJ];exact Nat.lt_add_of_pos_right (LG _),Ik⟩
    | false =>
     rw [hb] at a;refine .inr ⟨a,λz=>?_⟩;rcases Iv.mp z with e | z
     ·have:x=y:=congrArg MM e;subst this;simp at hb
     ·exact b z
  ·rename_i g;rcases jP h with⟨a,b,d⟩ | ⟨a,b⟩
   ·exact .inl ⟨a,IW b (by rw [IJ];lia),Ii _ d⟩
   ·refine .inr ⟨a,λz=>?_⟩;rcases Iv.mp z with e | z
    ·have:k=.cell:=(congrArg Prod.snd e).symm;subst this;simp at g
    ·exact b z
theorem qu:∀ (names:Oj) (n:Nat) (acc:Ol),(acc.Pairwise λx y=>x.2≠y.2)->(∀ p∈acc,p.2<n)->(cellsFrom n names acc).Pairwise λx y=>x.2≠y.2
 | [],n,acc,h,_=>h
 | (y,k) :: r,n,acc,h,hl=>by
  unfold cellsFrom;split
  ·refine qu r (n+1) _ (KG.mpr ⟨λp a=>?_,h⟩) λp a=>?_
   ·exact Lz (hl p a)
   ·rcases Iv.mp a with e | a
    ·subst e;exact LW _
    ·exact JO (hl p a)
  ·exact qu r n acc h hl
theorem hV {names:Oj} {n:Nat} {acc:Ol} {x:Str} (h:names.lookup x=NQ .cell):∃ c,(cellsFrom n names acc).lookup x=NQ c :=
 Kn.mp (Kt names n acc (.inl h))
theorem bR {names:Oj} {n:Nat} {acc:Ol} {x:Str} (h:(acc.lookup x).isSome=NS):∃ c,(cellsFrom n names acc).lookup x=NQ c :=
 Kn.mp (Kt names n acc (.inr h))
theorem vF:∀ (names:Oj) (h:Heap) (acc:Ol) (x:Str) (c:Ij),(cellsFrom h.objs.size names acc).lookup x=NQ c->h.objs.size<=c->(∀ p∈acc,p.2<h.objs.size)->(pushCells h names).IsCell c NW
 | [],h,acc,x,c,e,hc,hl=>absurd (hl _ (mem_of_lookup e)) (NA.mpr hc)
 | (y,k) :: r,h,acc,x,c,e,hc,hl=>by
  unfold cellsFrom at e;unfold pushCells;split at e
  ·rename_i d;rw [NM d];by_cases a:c=h.objs.size
   ·subst a;exact⟨_,pushCells_keeps _ _ _ _ (IT _ rfl),rfl⟩
   ·have es:(h.push { cls:=.type "cell",data:=.cell NW }).objs.size=h.objs.size+1:=Ld ..;refine vF r _ ((y,h.objs.size) :: acc) x c (by rw [es];exact e) (by rw [es];exact Nat.lt_of_le_of_ne hc (JM a)) λp b=>?_;rw [es];rcases Iv.mp b with e | b
    ·subst e;exact LW _
    ·exact JO (hl p b)
  ·rename_i d;rw [NL d];exact vF r h acc x c e hc hl
noncomputable def zk (X:Cx) (a:Scope) (N:Oa) (s₀:NU) (H₀:Hp) (ex:N8) (pn:N9):Cx :=
 { X with N:=N,s₀:=s₀,H₀:=H₀,env:=compEnvC a (cellsFrom (s₀.heap.objs.size+1) a.names (yj X.env a.names [])) s₀.heap.objs.size X.env,
          outer:=X.stack,ex:=ex,fn:=λx=>decide (a.names.lookup x=NQ .cell),pn:=pn,xe:=λ_ _=>False }
structure CompScope (NO:Oa) (scO:Scope) (N:Oa) (sc:Scope) (own:Nat) (fr:Om):Prop where
 kind:sc.kind=.function
 nd:N.Nodup
 snd:(sc.names.map (·.1)).Nodup
 free:∀ p∈sc.names,p.2=.free->scO.names.lookup p.1=NQ .cell \/ scO.names.lookup p.1=NQ .free
 frn:∀ p∈(N.drop own).zip fr,NO[p.2]?=NQ p.1/\sc.names.lookup p.1=NQ .free
 len:N.length=own+fr.length
noncomputable def y9 (own:Nat) (fr:Om) (a:St):St:=KC own NW++fr.map λj=>(a[j]?).getD NW
theorem yu {a:Type}:∀ {l:List (Str×a)} {x:Str} {k:a},(l.map (·.1)).Nodup->(x,k)∈l->l.lookup x=NQ k
 | (y,u) :: r,x,k,nd,h=>by
  rw [IL] at nd;obtain⟨c,b⟩:=Jp.mp nd;rw [JK];rcases Iv.mp h with e | h'
  ·cases e;simp
  ·have:x≠y:=by
    intro e;subst e;exact c (ID.mpr ⟨(x,k),h',rfl⟩)
   rw [beq_eq_false_iff_ne.mpr this];exact yu b h'
theorem qS {env:Env}:∀ {names:Oj} {x:Str} {k:NameKind},names.lookup x=NQ k ->
  (names.map λ(n,k)=>if (k == NameKind.free && env.scope.kind == .function && env.kindOf n == NQ .cell) then (n,NameKind.cell) else (n,k)).lookup x=NQ (if (k == NameKind.free && env.scope.kind == .function && env.kindOf x == NQ .cell) then .cell else k)
 | (n,k') :: r,x,k,h=>by
  have ih:=@qS env r x k;show List.lookup x ((if (k' == NameKind.free && env.scope.kind == .function && env.kindOf n == NQ .cell)=NS then (n,NameKind.cell) else (n,k')) :: _)=_;cases hx:x == n with
  | true =>
   have:x=n:=by simpa using hx
   subst this;simp only [JK,hx] at h;cases h;split <;> simp [JK]
  | false =>
   simp only [JK,hx] at h;split
   ·simp only [JK,hx];exact ih h
   ·simp only [JK,hx];exact ih h
theorem qy {env:Env}:∀ {names:Oj} {x:Str},names.lookup x=NW ->
  (names.map λ(n,k)=>if (k == NameKind.free && env.scope.kind == .function && env.kindOf n == NQ .cell) then (n,NameKind.cell) else (n,k)).lookup x=NW
 | [],_,_=>rfl
 | (n,k') :: r,x,h=>by
  have ih:=@qy env r x;show List.lookup x ((if (k' == NameKind.free && env.scope.kind == .function && env.kindOf n == NQ .cell)=NS then (n,NameKind.cell) else (n,k')) :: _)=_;cases hx:x == n with
  | true=>simp only [JK,hx] at h;cases h
  | false =>
   simp only [JK,hx] at h;split
   ·simp only [JK,hx];exact ih h
   ·simp only [JK,hx];exact ih h
section
variable {X:Cx} {NJ:N9} {σ:St} {H:Hp} {s:NU} {NO N:Oa} {scO sc:Scope} {own:Nat} {fr:Om} {fp:N8}
theorem mJ {tk:Nat} (S:CompScope NO scO N sc own fr) (hN:X.N=NO) (L:X.env.scope=scO) (I:Inv X NJ σ H s) (hf:∀ b∈fp,bM X NJ H b) (E:∀ b∈fp,∃ o,s.heap.get? b=NQ o/\∀ v,o.data≠.cell v) :
  Inv (zk X sc N s H fp (X.pn++NJ)) [] (y9 own fr σ) H { s with heap:=pushCells (s.heap.push { cls:=.type "dict",data:=.dict #[] }) sc.names,toks:=tk }:=by
 have a:∀ x,(x,NameKind.free)∈sc.names->∃ c,X.env.cells.lookup x=NQ c:=λx A=>I.ok.has x (by
  show X.env.scope.names.lookup x=_ \/ X.env.scope.names.lookup x=_;rw [L];exact S.free _ A rfl)
 have G:∀ p∈yj X.env sc.names [],p.2<s.heap.objs.size:=λp f=>by
  rcases ae f with q | ⟨q,e⟩
  ·cases q
  ·obtain⟨c,C⟩:=a _ q;rw [e,C];obtain⟨v,o,E,_⟩:=I.cell _ c C;exact IA E
 have K:(s.heap.push { cls:=.type "dict",data:=.dict #[] }).objs.size=s.heap.objs.size+1:=Ld ..;have M:∀ b o,s.heap.get? b=NQ o->(pushCells (s.heap.push { cls:=.type "dict",data:=.dict #[] }) sc.names).get? b=NQ o:=λb o e=>pushCells_keeps _ _ _ _ (Im _ e);have g:∀ {x:Str} {c:Ij},(cellsFrom (s.heap.objs.size+1) sc.names (yj X.env sc.names [])).lookup x=NQ c->(s.heap.objs.size+1<=c/\(x,NameKind.cell)∈sc.names) \/ (X.env.cells.lookup x=NQ c/\(x,NameKind.free)∈sc.names):=λ{x c} e=>by
  rcases jP e with⟨q1,_,q3⟩ | ⟨q1,_⟩
  ·exact .inl ⟨q1,q3⟩
  ·exact .inr (bQ a q1)
 have Z:(yj X.env sc.names []).Pairwise λx y=>x.2≠y.2:=by
  have key:∀ (names:Oj) (acc:Ol),(∀ p∈acc,X.env.cells.lookup p.1=NQ p.2)->(∀ x,(x,NameKind.free)∈names->∃ c,X.env.cells.lookup x=NQ c)->(acc.Pairwise λx y=>x.2≠y.2)->(∀ p∈acc,(p.1,NameKind.free)∉names)->(names.map (·.1)).Nodup ->
    (yj X.env names acc).Pairwise λx y=>x.2≠y.2:=by
   intro names
   induction names with
   | nil=>intro acc _ _ h _ _;exact h
   | cons p r ih =>
    intro acc P O h3 h4 h5;obtain⟨y,k⟩:=p;rw [IL] at h5;obtain⟨n1,n2⟩:=Jp.mp h5;unfold yj;split
    ·rename_i M;have hk':k=.free:=by simpa using M
     subst hk';obtain⟨c,C⟩:=O y Ik;rw [C];refine ih _ (λp f=>?_) (λx A=>O x (Ii _ A)) (KG.mpr ⟨λp f=>?_,h3⟩) (λp f=>?_) n2
     ·rcases Iv.mp f with e | f
      ·subst e;exact C
      ·exact P p f
     ·intro e;have e':p.2=c:=e.symm;have:=I.ok.inj _ _ _ C (e'▸P p f);exact h4 p f (this▸Ik)
     ·rcases Iv.mp f with e | f
      ·subst e;intro z;exact n1 (ID.mpr ⟨_,z,rfl⟩)
      ·intro z;exact h4 p f (Ii _ z)
    ·exact ih acc P (λx A=>O x (Ii _ A)) h3 (λp f z=>h4 p f (Ii _ z)) n2
  exact key sc.names [] (λp f=>by cases f) a List.Pairwise.nil (λp f=>by cases f) S.snd
 have Q:=qu sc.names (s.heap.objs.size+1) _ Z λp f=>JO (G p f);have hkd:∀ x,(zk X sc N s H fp (X.pn++NJ)).env.kindOf x=NQ .cell \/ (zk X sc N s H fp (X.pn++NJ)).env.kindOf x=NQ .free->(x,NameKind.cell)∈sc.names \/ (x,NameKind.free)∈sc.names:=λx A=>by
  cases q:sc.names.lookup x with
  | none =>
   have e:(zk X sc N s H fp (X.pn++NJ)).env.kindOf x=NW:=qy q;rw [e] at A;rcases A with z | z <;> cases z
  | some k =>
   have e:(zk X sc N s H fp (X.pn++NJ)).env.kindOf x=NQ _:=qS (env:=X.env) q;rw [e] at A;have hm:=mem_of_lookup q;cases k <;> first | exact .inl hm | exact .inr hm | (rcases A with z | z <;> cases z)
 have cellAt:∀ x c,(cellsFrom (s.heap.objs.size+1) sc.names (yj X.env sc.names [])).lookup x=NQ c->∃ v,(pushCells (s.heap.push { cls:=.type "dict",data:=.dict #[] }) sc.names).IsCell c v:=λx c e=>by
  rcases g e with⟨q,_⟩ | ⟨q,_⟩
  ·exact⟨NW,vF _ _ _ x c (by rw [K];exact e) (by rw [K];exact q) λp f=>by rw [K];exact JO (G p f)⟩
  ·obtain⟨v,o,E,hd⟩:=I.cell x c q;exact⟨v,o,M _ _ E,hd⟩
 have F:∀ x c,X.env.cells.lookup x=NQ c->c<s.heap.objs.size:=λx c e=>by
  obtain⟨v,o,E,hd⟩:=I.cell x c e;exact IA E
 have t:∀ b∈fp,b<s.heap.objs.size:=λb D=>by
  obtain⟨o,e,_⟩:=E b D;exact IA e
 have okX:(zk X sc N s H fp (X.pn++NJ)).Ok:=by
  refine⟨I.mod,S.kind,I.ok.glob,I.ok.blt,Iu _,λx y c P O=>name_of_addr Q (mem_of_lookup P) (mem_of_lookup O),λx A=>?_,λx c A C=>?_,I.ok.hd,I.ok.frames,.inl rfl,λb D=>⟨IU (t b D),λx c e=>?_⟩,I.bs,IS I.ok.bsz I.sz,λb o e D=>?_,λb D z=>?_,I.stack,I.stkFree,I.env0.tabs⟩
  ·rcases hkd x A with q | q
   ·exact hV (yu S.snd q)
   ·obtain⟨c,C⟩:=a x q;exact bR (by rw [aP a q C];rfl)
  ·have T:sc.names.lookup x=NQ .cell:=N4 A;rcases g C with⟨q,_⟩ | ⟨_,q⟩
   ·exact LD q
   ·rw [yu S.snd q] at T;cases T
  ·rcases g e with⟨q,_⟩ | ⟨q,_⟩
   ·exact Lz (IW (t b D) (LD q))
   ·exact (hf b D).2.2.2.2.1 x c q
  ·rcases (hf b D).2.2.2.1 with z | z
   ·exact I.ok.noex b o e z
   ·exact absurd (IA e) (NA.mpr (IS I.ok.bsz z))
  ·rcases Iv.mp (I.stkSub b z) with q | q
   ·exact (hf b D).2.1 q
   ·exact (hf b D).2.2.1 q
 refine⟨okX,rfl,I.bare,Un.kept M,⟨λ_=>NW,(Heap.Ns.new s.heap (.type "dict")).keeps (pushCells_keeps _ _),λi x v P O h3=>?_⟩,cellAt,I.hok.fresh (Iu _),λx c e=>?_,λp f=>?_,I.hok.kept M,?_⟩
 ·obtain⟨m,_,hl⟩:=id I.loc;have l:(y9 own fr σ)[i]?=NQ (NQ v):=O;have hio:own<=i:=by
   unfold y9 at l;refine Nat.le_of_not_lt λhi=>?_;rw [Iy (by simpa using hi),K3] at l;split at l <;> cases l
  obtain⟨k,rfl⟩:=Nat.exists_eq_add_of_le hio;have h1':N[own+k]?=NQ x:=P;unfold y9 at l;rw [IC (by simp)] at l;simp only [LS,Nat.add_sub_cancel_left,Iq] at l;cases hj:fr[k]? with
  | none=>rw [hj] at l;cases l
  | some j =>
   rw [hj] at l;have B:(σ[j]?).getD NW=NQ v:=N1 l;have f:(x,j)∈(N.drop own).zip fr:=by
    refine Ir (i:=k) ?_;rw [List.getElem?_zip_eq_some];exact⟨by rw [List.getElem?_drop];exact h1',hj⟩
   obtain⟨f1,f2⟩:=S.frn _ f;have hσ:σ[j]?=NQ (NQ v):=by
    cases q:σ[j]? with
    | none=>rw [q] at B;cases B
    | some w=>rw [q] at B;exact congrArg NQ B
   have R:(x,NameKind.free)∈sc.names:=mem_of_lookup f2;have W:=S.free _ R rfl;have U:Vis X.env.scope x:=by rw [L];exact .inr W
   obtain⟨u,ru,q⟩:=hl j x v (by rw [hN];exact f1) hσ U;refine⟨u,ru,.inr ⟨?_,?_⟩⟩
   ·have e:(zk X sc N s H fp (X.pn++NJ)).env.kindOf x=NQ _:=qS (env:=X.env) f2;rw [e];split
    ·exact .inl rfl
    ·exact .inr rfl
   ·rcases q with⟨k1,_⟩ | ⟨_,c,C,z⟩
    ·have J:X.env.scope.names.lookup x=NQ .local:=k1;rw [L] at J;rcases W with z | z <;> rw [z] at J <;> cases J
    ·obtain⟨o,E,hd⟩:=z;refine⟨c,?_,o,M _ _ E,hd⟩;have hcl:=aP a R C;obtain⟨c',Y⟩:=bR (names:=sc.names) (n:=s.heap.objs.size+1) (acc:=yj X.env sc.names []) (x:=x) (by rw [hcl];rfl);rcases g Y with⟨_,z⟩ | ⟨z,_⟩
     ·have:=yu S.snd z;rw [f2] at this;cases this
     ·rw [C] at z;cases z;exact Y
 ·rcases g e with⟨q,_⟩ | ⟨q,_⟩
  ·exact I.hok.fresh (LD q)
  ·exact I.freeC x c q
 ·have hp':p∈X.pn++NJ:=by simpa [zk] using f
  obtain⟨e,n,ne,nf,d⟩:=I.pin p hp';refine⟨M _ _ e,n,IU (IA e),λz=>?_,d⟩;rcases Iv.mp (I.stkSub _ z) with q | q
  ·exact ne q
  ·exact nf q
 ·show (y9 own fr σ).length=N.length;unfold y9;rw [S.len];simp
end
abbrev TB:=St->Hp->(St->Hp->Prop)->Prop
def PB (X:Cx) (b:Sem Unit) (t:TB):Prop :=
 ∀ (d:N9) (s:NU) (c:St) (H:Hp) (Q:St->Hp->Prop),Inv X d c H s->t c H Q->IK (model X.prog X.w) X.A b (λ_ f=>∃ a e,Inv X d a e f/\Q a e) X.xe s
def PTs (X:Cx) (b:Od) (t:TT):Prop :=
 ∀ (d:N9) (s:NU) (a:St) (H:Hp) (Q:Bool->Hp->Prop),Inv X d a H s->t a H Q ->
  IK (model X.prog X.w) X.A (forIn b NS λc r=>if r=NS then do let ok <- isTrue c X.env (eval c X.env);pure (ForInStep.yield ok) else pure (ForInStep.yield r)) (TP X d a Q) X.xe s
def mK:TT:=λ_ H Q=>Q NS H
theorem ye {X:Cx}:PTs X [] mK:=λb s a H Q I h=>wpAny_tests_nil ⟨H,I,h⟩
theorem jW {X:Cx} {c:Expr} {t:TT} (b:PT X c t):PTs X [c] t:=λd s a H Q I h=>wpAny_tests_one (b d s a H Q I h)
def cJ (J:It) (g:TG) (j:TT) (k:TB):TB:=λc H Q=>∃ W:Nat->Nat->St->Hp->Prop,(∃ m,W 0 m c H)/\∀ i m c H,W i m c H ->
 (J.stop i H/\Q c H) \/ (J.go i H/\∀ x e,J.yld i H x e->g x c e λa l=>j a l λb h=>if b=NS then k a h λf e=>∃ d,d<m/\W (i+1) d f e else ∃ d,d<m/\W (i+1) d a h)
section
variable {X:Cx} {NJ:N9} {s:NU} {σ:St} {H:Hp} {tg:Expr} {e:Expr} {d:Nat} {acc:NT} {ifs:Od} {g:TG} {tt:TT} {tb:TB} {act:Sem Unit} {pos:Pos}
theorem fO (hx:∀ e s,X.xe e s->False) (hc:X.calm=NS) (hg:PG X tg g) (ht:PTs X ifs tt) (q:PB X act tb)
  (heq:∀ a,compTurn e d a acc X.env=(do
   standAt pos
   match <- pyNext a with
   | none=>pure (.done .next)
   | some v =>
    J4 tg a v
    assign tg X.env v
    let mut ok:=NS
    for c in ifs do
     if ok then ok <- isTrue c X.env (eval c X.env)
    if ok then
     act
    again (.compLoop e d a acc X.env)))
  (hqt:∀ a,(Code.compLoop e d a acc X.env).quiet=NS)
  (N:∀ a,(model X.prog X.w).den (.compLoop e d a acc X.env)=(compTurn e d a acc X.env).onRaise (λx=>do noteFrame x X.env;theTreesLotGoes x))
  (M:∀ a,X.A.under (.compLoop e d a acc X.env)=X.A)
  {a:Ij} {t:N8} {O:Nat->Heap->Prop} {J:It} {Q:St->Hp->Prop} {R:Result->NU->Prop} (I:Inv X NJ σ H s) (T:Turn X.prog X.w X.K tg J t a O) (st:O 0 s.heap) (f:∀ b∈t,bM X NJ H b)
  (h:cJ J g tt tb σ H Q) (hR:∀ σ' j s',Inv X NJ σ' j s'->(∀ b∈t,j b=NW)->Q σ' j->R (.ok .next) s'):codeAny (model X.prog X.w) X.A (.compLoop e d (.ref a) acc X.env) R s:=by
 obtain⟨W,⟨m0,w0⟩,F⟩:=h;have p:∀ {j:Hp},(∀ b∈t,j b=NW)->∀ b∈t,bM X NJ j b:=λhn b q=>⟨hn b q,(f b q).2⟩;refine codeAny_loop (hqt _) (λn s'=>∃ i σ' j,Inv X NJ σ' j s'/\O i s'.heap/\(∀ b∈t,j b=NW)/\W i n σ' j) ?_ m0 ⟨0,σ,H,I,st,λb q=>(f b q).1,w0⟩;rintro n s3 ⟨i,l,Y,I3,L,C,w3⟩;rw [N,M];refine wpAny_noted ?_;rw [heq];have k:∀ U s',X.xe U s'->notedBy (model X.prog X.w) X.A X.env (λe s'=>R (.error e) s') U s':=λU s' z=>(hx U s' z).elim;refine Ic (wpAny_standAt (Ic ?_));rcases F i n l Y w3 with⟨G,qn⟩ | ⟨go,step⟩
 ·refine JD (T.done X rfl rfl rfl hc i NJ s3 l Y X.xe I3 (p C) L G) (λr s4 B=>?_) k;obtain⟨Z,I4⟩:=B;subst Z;exact Ip (hR l Y s4 I4 C qn)
 ·refine JD (T.item X rfl rfl rfl hc i NJ s3 l Y X.xe I3 (p C) L go) (λr s4 B=>?_) k;obtain⟨u,Z,h4⟩:=B;subst Z;refine Ic (JD h4 (λ_ s5 h5=>?_) k);obtain⟨x,H5,I5,r5,y5,y,fr5⟩:=h5;have I5':=I5.pinned (p fr5) (T.obj _ _ y);refine Ic (JD (hg _ s5 l H5 x u _ I5' r5 (step x H5 y5)) (λ_ s6 h6=>?_) k);obtain⟨E,H6,I6,q6⟩:=h6;refine Ic (JD (ht _ s6 E H6 _ I6 q6) (λok s7 h7=>?_) k);obtain⟨H7,D,P⟩:=h7;have again:∀ {σ7:St} {H7:Hp} {s7:NU},Inv X (NJ++fJ t s5.heap) σ7 H7 s7->(∃ S,S<n/\W (i+1) S σ7 H7)->∃ m,m<n/\∃ i σ' j,Inv X NJ σ' j s7/\O i s7.heap/\(∀ b∈t,j b=NW)/\W i m σ' j:=λ{σ7 H7 s7} D n7=>by
   obtain⟨S,hm,w7⟩:=n7;refine⟨S,hm,i+1,σ7,H7,D.unpinned,T.keep _ _ _ y λb q o e=>(D.pin (b,o) (IF _ (IF _ (v9 q e)))).1,λb q=>?_,w7⟩;obtain⟨o,e,d⟩:=T.obj _ _ y b q;exact (D.pin (b,o) (IF _ (IF _ (v9 q e)))).2.1
  cases ok with
  | false =>
   rw [NL Ie] at P;exact Ip ⟨rfl,again D P⟩
  | true =>
   rw [NM rfl] at P;refine Ic (JD (q _ s7 E H7 _ D P) (λ_ s8 h8=>?_) k);obtain⟨σ8,H8,I8,q8⟩:=h8;exact Ip ⟨rfl,again I8 q8⟩
theorem kG {D:Ij} {b:Expr} {f:TE} (l:PE X b f):PB X (do let _ <- call (.builtin "list.append") [.ref D,<- eval b X.env]) (λσ H Q=>f σ H λy c=>∃ xs,c D=NQ (.lst xs)/\xs.length<Jr/\Q σ (upd c D (.lst (xs++[y])))):=by
 intro NJ s σ H Q I h;refine Ic (thn (l NJ s σ H _ I h) λv o m=>?_);obtain⟨y,c,j,k,xs,i,p,q⟩:=m;obtain⟨z,a,n,r,t,e⟩:=j.lstM i;refine Ic ?_;refine call_meets F.slot_list_append ⟨_,e,rfl⟩ Nq (Ng _ _) (PySem.list_append D a.toArray n v (by rw [II];lia)) ⟨e,?_⟩;refine Ip ⟨σ,_,j.lset (its':=a++[v]) i e (by simp) (r.append (.cons k .nil)) ?_,q⟩;rw [IE,JJ];lia
theorem eF {M:Model} {A:NZ} {E:NT->NU->Prop} {b:Scope} {f:Ij} {i:Ol} {qual:Str} {env:Env} {Q:Env->NU->Prop} {s:NU}
  (h:Q { scope:=b,locals:=s.heap.objs.size,globals:=f,cells:=cellsFrom (s.heap.objs.size+1) b.names i,qual:=qual,func:=NW,code:=env.code,frame:=env.frame,builtins:=env.builtins } { s with heap:=pushCells (s.heap.push { cls:=.type "dict",data:=.dict #[] }) b.names }) :
  IK M A (newFunctionEnv b f i [] qual NW .none (NQ env)) Q E s:=by
 simp only [newFunctionEnv,Option.isSome_some,if_true];refine Ic (wpAny_alloc ?_);refine Ic (wpAny_layCells _ (λc a cells=>by cases hkc:a == NameKind.cell <;> simp [hkc]) _ _ _ _ ?_);rw [show ({ s with heap:=s.heap.push { cls:=.type "dict",data:=.dict #[] } }:NU).heap.objs.size=s.heap.objs.size+1 from Ld ..];refine Ic ?_;rw [Le];exact Ip (Ip h)
theorem comp_back {x:Scope} {N:Oa} {k:N8} {σ':St} {l:Hp} {s':NU} {h':Heap} (I:Inv X NJ σ H s) (p:∀ b∈k,bM X NJ H b) (J:Inv (zk X x N s H k (X.pn++NJ)) [] σ' l s') (j:KQ s.heap.objs.size s'.heap h') :
  Inv X NJ σ l { s' with heap:=h' }:=by
 have u:Un (frs X.stack) k H l s.heap s'.heap:=J.base;have m:∀ b o,s.heap.get? b=NQ o->b≠s.heap.objs.size:=λb o e=>IU (IA e);have f:l s.heap.objs.size=NW:=J.free;refine I.call' (s':={ s' with heap:=h' }) (ch:=k) J.os ⟨λb o e n t i=>(j.2 b (m b o e)).trans (u.keep b o e n t i),λb o e n t i=>?_,u.free,λb o e i=>?_,u.tups,u.frzs,u.tbls⟩ (λa o e=>?_) J.bare λb r=>?_
 ·obtain⟨w,q⟩:=u.slot b o e n t i;exact⟨w,(j.2 b (m b o e)).trans q⟩
 ·obtain⟨y,q⟩:=u.there b o e i;exact⟨y,(j.2 b (m b o e)).trans q⟩
 ·refine (J.hok a o e).stay (λc v h q=>(j.2 c ?_).trans q) (λ_ q=>q) λ_ _ q=>q;intro z;subst z;rcases h with h | h
  ·rw [<-h] at e;rw [f] at e;cases e
  ·rw [f] at h;cases h
 ·exact⟨(p b r).2.2.2.1,(p b r).2.1,(p b r).2.2.2.2⟩
end
def qT (D:Ij) (d:TE):TB:=λb H Q=>d b H λy c=>∃ a,c D=NQ (.lst a)/\a.length<Jr/\Q b (upd c D (.lst (a++[y])))
def qz (c:TI) (own:Nat) (fr:Om) (g:TG) (d:TT) (e:Ij->TB):TE:=λa H Q=>c a H λJ b=>∀ D,b D=NW ->
 cJ J g d (e D) (y9 own fr a) (upd b D (.lst [])) λ_ f=>Q (.ref D) f
section
variable {X:Cx} {NJ:N9} {s:NU} {σ:St} {H:Hp} {tg elt iter:Expr} {ifs:Od} {rest:List Comprehension} {sc scO:Scope} {NO N:Oa} {own:Nat} {fr:Om} {wi:TI} {g:TG} {tt:TT} {tb:Ij->TB} {pos:Pos}
theorem mL {RR:NT->Ij->Result->NU->Prop} {t:Ij} {L:N8} {P:Nat->Heap->Prop} {J:It} {Q:VK} (S:CompScope NO scO N sc own fr) (hN:X.N=NO) (U:X.env.scope=scO) (hc:X.calm=NS)
  (hg:∀ a d l k,PG (zk X sc N a d l k) tg g) (ht:∀ a d l k,PTs (zk X sc N a d l k) ifs tt)
  (i:∀ D a d l k,∃ u,PB (zk X sc N a d l k) u (tb D)/\∀ t,compTurn (.ListComp elt (⟨tg,iter,ifs,0⟩ :: rest) sc pos) 0 t (.ref D) (zk X sc N a d l k).env=(do
   standAt iter.pos
   match <- pyNext t with
   | none=>pure (.done .next)
   | some v =>
    J4 tg t v
    assign tg (zk X sc N a d l k).env v
    let mut ok:=NS
    for c in ifs do
     if ok then ok <- isTrue c (zk X sc N a d l k).env (eval c (zk X sc N a d l k).env)
    if ok then
     u
    again (.compLoop (.ListComp elt (⟨tg,iter,ifs,0⟩ :: rest) sc pos) 0 t (.ref D) (zk X sc N a d l k).env)))
  (I:Inv X NJ σ H s) (T:Turn X.prog X.w X.K tg J L t P) (st:P 0 s.heap) (f:∀ b∈L,bM X NJ H b)
  (h:∀ D,H D=NW->cJ J g tt (tb D) (y9 own fr σ) (upd H D (.lst [])) λ_ H2=>Q (.ref D) H2)
  (hRR:∀ (D C:Ij) (s':NU) (M:Hp),(∃ m,s'.heap.Ns C m)->C≠X.env.locals->(∀ x c,X.env.cells.lookup x=NQ c->c≠C)->M C=NW->X.s₀.heap.objs.size<=C->(∀ p∈X.pn++NJ,p.1≠C)->Inv X NJ σ M s'->Q (.ref D) M->RR (.ref D) C (.ok .next) s') :
  IK (model X.prog X.w) X.A (newList []) (λacc B=>IK (model X.prog X.w) X.A (newFunctionEnv sc X.env.globals (yj X.env sc.names []) [] X.env.qual NW .none (NQ X.env)) (λr y =>
   codeAny (model X.prog X.w) X.A (.compStart (.ListComp elt (⟨tg,iter,ifs,0⟩ :: rest) sc pos) 0 (.ref t) acc { r with scope:=relabel sc X.env }) (RR acc r.locals) y) X.xe B) X.xe s:=by
 refine wpAny_newObj_type (eF ?_);have G:∀ b∈L,b<s.heap.objs.size:=λb i=>by
  obtain⟨o,e,_⟩:=T.obj _ _ st b i;exact IA e
 have I3:=I.lnew (its:=[]) (ys:=[]) (t':=s.toks) .nil (IV _);have f3:∀ b∈L,bM X NJ (upd H s.heap.objs.size (.lst [])) b:=λb i=>⟨by rw [zx (IU (G b i))];exact (f b i).1,(f b i).2⟩;have F:P 0 (s.heap.push { cls:=.type "list",data:=.seq ([]:N6).toArray }):=T.keep _ _ _ st λb _ o e=>Im _ e;have O:=mJ (tk:=s.toks) S hN U I3 f3 (T.obj _ _ F);obtain⟨u,pb,Z⟩:=i s.heap.objs.size _ _ _ _;have E:=T.keep _ _ (pushCells ((s.heap.push { cls:=.type "list",data:=.seq ([]:N6).toArray }).push { cls:=.type "dict",data:=.dict #[] }) sc.names) F λb _ o e=>pushCells_keeps _ _ _ _ (Im _ e);have j:∀ x c,X.env.cells.lookup x=NQ c->c<s.heap.objs.size:=λx c e=>by
  obtain⟨v,o,ho,hd⟩:=I.cell x c e;exact IA ho
 have n:(s.heap.push { cls:=.type "list",data:=.seq ([]:N6).toArray }).objs.size=s.heap.objs.size+1:=Ld ..;have q:=fO (X:=zk X sc N { s with heap:=s.heap.push { cls:=.type "list",data:=.seq ([]:N6).toArray } } (upd H s.heap.objs.size (.lst [])) L (X.pn++NJ)) (R:=RR (.ref s.heap.objs.size) (s.heap.push { cls:=.type "list",data:=.seq ([]:N6).toArray }).objs.size) (λ_ _ z=>z) hc (hg _ _ _ _) (ht _ _ _ _) pb Z (λ_=>rfl) (λ_=>rfl) (λ_=>rfl) O T E
  (λb i=>⟨(f3 b i).1,O.ok.exf b i |>.1,O.ok.exfs b i,.inl i,O.ok.exf b i |>.2,λp Y=>by
   have W:p∈X.pn++NJ:=by simpa [zk] using Y
   exact (f b i).2.2.2.2.2 p W⟩) (h _ I.fresh)
  (λσ' M s' J' fr' q'=>hRR _ _ s' M (let⟨m,hm,_⟩:=J'.loc;⟨m,hm⟩) (by rw [n];exact Lz (JO I.lt)) (λx c e=>by rw [n];exact IU (JO (j x c e))) J'.free (by rw [n];exact Nat.le_succ_of_le I.sz) (λp Y=>by rw [n];exact IU (JO (IA (I.pin p Y).1))) (comp_back (h':=s'.heap) I3 f3 J' (Heap.SameBut.refl ..)) q')
 exact codeAny_compStart_list q (T.self X.A 0 _ _ _ E q)
theorem Inv.touch {C:Ij} {h':Heap} (I:Inv X NJ σ H s) (a:KQ C s.heap h') (d:H C=NW) (h0:C≠X.env.locals) (j:∀ x c,X.env.cells.lookup x=NQ c->c≠C) (i:X.s₀.heap.objs.size<=C) (h:∀ p∈X.pn++NJ,p.1≠C) :
  Inv X NJ σ H { s with heap:=h' } :=
 I.turned (t':=s.toks) (λb o f e=>(a.2 b f).trans e) d h0 (.inr i) j h
theorem hX {prog:NY} {w:NX} {A:NZ} {R:Result->NU->Prop} {s:NU} {c:Expr} {m:Comprehension} {e d:Expr} {b:Od} {f:Scope} {a:Pos} {h acc:NT} {env:Env}
  (i:codeAny (model prog w) A (.compLoop (.ListComp c [m,⟨e,d,b,0⟩] f a) 1 h acc env) R s)
  (k:IK (model prog w) A (pyIter h) (λj l=>codeAny (model prog w) A (.compLoop (.ListComp c [m,⟨e,d,b,0⟩] f a) 1 j acc env) R l) (notedBy (model prog w) A env λx l=>R (.error x) l) s) :
  codeAny (model prog w) A (.compStart (.ListComp c [m,⟨e,d,b,0⟩] f a) 1 h acc env) R s:=by
 apply codeAny_of_tree;show IK _ _ ((compStart (.ListComp c [m,⟨e,d,b,0⟩] f a) 1 h acc env).onRaise (λz=>do noteFrame z env;standAt theWindowsPlace)) _ _ s;apply wpAny_notedAt;unfold compStart;show IK _ _ (ask >>= _) _ _ s;apply Ic;apply wpAny_askSetting;apply wpAny_ite;split
 ·first
   | exact Ic (Ip (Ip (And.intro rfl i)))
   | exact Ip (And.intro rfl i)
 ·apply Ic;apply NB;show IK _ _ (standAt d.pos >>= _) _ _ s;exact Ic (wpAny_standAt (Ic (JD k (λj l q=>Ip (And.intro rfl q)) λ_ _ z=>z)))
section
variable {elt2:Expr} {te:TE} {tg2 iter2:Expr} {ifs2:Od} {wi2:TI} {g2:TG} {tt2:TT} {tb2:TB} {y:Str} {i:Nat} {py spos:Pos}
def tIn (wi2:TI) (g2:TG) (tt2:TT) (tb2:TB):TB:=λσ H Q=>wi2 σ H λJ a=>cJ J g2 tt2 tb2 σ a Q
theorem Eg {D:Ij} (n:∀ e s,X.xe e s->False) (z:X.calm=NS) (t:PI X tg2 iter2 wi2) (hg:PG X tg2 g2) (o:PTs X ifs2 tt2) (u:PE X elt te)
  (p:∀ x,JG iter2 X.env x=pure x) :
  PB X (do
   let x <- eval iter2 X.env
   standAt iter2.pos
   let x <- JG iter2 X.env x
   let _ <- runOwn (.compStart (.ListComp elt [⟨tg,iter,ifs,0⟩,⟨tg2,iter2,ifs2,0⟩] sc pos) 1 (<- holding [x] (pyIter x)) (.ref D) X.env) X.env) (tIn wi2 g2 tt2 (qT D te)):=by
 intro NJ s σ H Q I h;refine Ic (thn (t NJ s σ H _ I h) λv M C=>?_);refine Ic (wpAny_standAt ?_);refine Ic (wpAny_of_eq (p v) ?_);refine Ic (Ji (thn C λm L B=>?_));obtain⟨O,P,K,J,S,e,G,T,c,E,q⟩:=B;subst e;refine Ic (wpAny_runOwn ?_);have b:=fO (e:=.ListComp elt [⟨tg,iter,ifs,0⟩,⟨tg2,iter2,ifs2,0⟩] sc pos) (d:=1) (pos:=iter2.pos)
  (R:=λr j=>match r with | .ok f=>IK (model X.prog X.w) X.A (pure ()) (λ_ j=>∃ a k,Inv X NJ a k j/\Q a k) X.xe j | .error e=>cameBackBy (model X.prog X.w) X.A X.env X.xe e j)
  n z hg o (kG (D:=D) u) (λ_=>rfl) (λ_=>rfl) (λ_=>rfl) (λ_=>rfl) G T c E q (λa k j F _ l=>Ip ⟨a,k,F,l⟩)
 exact hX b (T.self X.A 0 _ _ _ c b)
theorem kH (S:CompScope NO scO N sc own fr) (a:X.env.scope=scO) (b:X.Ok):closureFor sc X.env=pure (yj X.env sc.names []) :=
 b7 λx c=>b.has x (by
  show X.env.scope.names.lookup x=_ \/ X.env.scope.names.lookup x=_;rw [a];exact S.free _ c rfl)
theorem sW (S:CompScope NO scO N sc own fr) (M:X.calm=NS) (L:PI X tg iter wi) (hg:∀ a b f d,PG (zk X sc N a b f d) tg g) (B:∀ a b f d,PTs (zk X sc N a b f d) ifs tt)
  (O:∀ D a b f d,∃ n,PB (zk X sc N a b f d) n (tb D)/\∀ j,compTurn (.ListComp elt (⟨tg,iter,ifs,0⟩ :: rest) sc pos) 0 j (.ref D) (zk X sc N a b f d).env=(do
   standAt iter.pos
   match <- pyNext j with
   | none=>pure (.done .next)
   | some v =>
    J4 tg j v
    assign tg (zk X sc N a b f d).env v
    let mut ok:=NS
    for c in ifs do
     if ok then ok <- isTrue c (zk X sc N a b f d).env (eval c (zk X sc N a b f d).env)
    if ok then
     n
    again (.compLoop (.ListComp elt (⟨tg,iter,ifs,0⟩ :: rest) sc pos) 0 j (.ref D) (zk X sc N a b f d).env)))
  (P:X.N=NO) (l:X.env.scope=scO) (E:∀ x,JG iter X.env x=pure x) :
  PE X (.ListComp elt (⟨tg,iter,ifs,0⟩ :: rest) sc pos) (qz wi own fr g tt tb):=by
 intro NJ s σ H Q I h;rw [eval_ListComp];refine wpAny_comprehension_free (use:=NW) rfl E (kH S l I.ok) S.kind (λp F K=>yu S.snd (k:=.local) (by rw [<-K];exact F)) (thn (L NJ s σ H _ I h) λv s1 U=>thn U λz s2 R=>?_);obtain⟨j,fp,tn,J,H2,e,I2,T,o,W,q⟩:=R;subst e;refine mL (RR:=λt C=>compPost (model X.prog X.w) X.A X.xe NW (EP X NJ σ Q) t C) S P l M hg B O I2 T o W q ?_;rintro D C s' H' ⟨m,G⟩ c0 c1 c2 Z Y J' u;exact⟨m,G,λh' r=>⟨.ref D,H',J'.touch r c2 c0 c1 Z Y,rfl,u⟩⟩
theorem fQ (S:CompScope NO scO N sc own fr) (hc:X.calm=NS) (K:X.N.Nodup) (G:X.N[i]?=NQ y) (hy:Loc X.env.scope y) (hi:PI X tg iter wi) (hg:∀ b d j f,PG (zk X sc N b d j f) tg g) (ht:∀ b d j f,PTs (zk X sc N b d j f) ifs tt)
  (hb:∀ D b d j f,∃ t,PB (zk X sc N b d j f) t (tb D)/\∀ n,compTurn (.ListComp elt (⟨tg,iter,ifs,0⟩ :: rest) sc pos) 0 n (.ref D) (zk X sc N b d j f).env=(do
   standAt iter.pos
   match <- pyNext n with
   | none=>pure (.done .next)
   | some v =>
    J4 tg n v
    assign tg (zk X sc N b d j f).env v
    let mut ok:=NS
    for c in ifs do
     if ok then ok <- isTrue c (zk X sc N b d j f).env (eval c (zk X sc N b d j f).env)
    if ok then
     t
    again (.compLoop (.ListComp elt (⟨tg,iter,ifs,0⟩ :: rest) sc pos) 0 n (.ref D) (zk X sc N b d j f).env)))
  (hN:X.N=NO) (o:X.env.scope=scO) (hs:∀ x,JG iter X.env x=pure x) (hf:X.fn y=NS \/ X.env.scope.names.lookup y=NQ .local)
  (z:swapsWith (.ListComp elt (⟨tg,iter,ifs,0⟩ :: rest) sc pos) (NQ (.Name y py)) spos.line X.env=pure NS) :
  PS X (.Assign [.Name y py] (.ListComp elt (⟨tg,iter,ifs,0⟩ :: rest) sc pos) spos) (ve (qz wi own fr g tt tb) (yW i)):=by
 intro NJ s σ H D I h;rw [exec_Assign_Name_used _ _ _ _ z];refine Ic (wpAny_standAt (Ic ?_));show IK _ X.A (do let _ <- comprehension (.ListComp elt (⟨tg,iter,ifs,0⟩ :: rest) sc pos) sc X.env _ (newList []) NV (eval iter X.env) (NQ (assign (.Name y py) X.env))) _ _ s;refine Ic (JD (wpAny_comprehension_free (use:=NQ (assign (.Name y py) X.env)) (Q:=λ_ l=>SP X NJ D .next l) rfl hs (kH S o I.ok) S.kind (λp hp hl=>yu S.snd (k:=.local) (by rw [<-hl];exact hp))
  (thn (hi NJ s σ H _ I h) λv s1 h1=>thn h1 λZ s2 h2=>?_)) (λ_ l hq=>Ip (Ip hq)) λ_ _ e=>e)
 obtain⟨n,fp,tn,J,H2,e,I2,T,u,f2,q⟩:=h2;subst e;refine mL (Q:=λx H1=>yW i x σ H1 D.nx) (RR:=λM C=>compPost (model X.prog X.w) X.A X.xe (NQ (assign (.Name y py) X.env)) (λ_ l=>SP X NJ D .next l) M C) S hN o hc hg ht hb I2 T u f2 q ?_;rintro U C l H' ⟨m,hm⟩ R P c2 c3 c4 J' Y;show IK _ X.A (assign (.Name y py) X.env (.ref U)) _ _ _;refine wpAny_assign_Name (ij (v:=.ref U) J' K G hy rfl (λW O B=>?_) hf);obtain⟨a,E,r⟩:=B;have L:C≠a:=by
  rcases r with r | r
  ·rw [r];exact R
  ·exact JM (P _ _ r)
 exact⟨m,hm.sameBut E L,λh' F=>⟨_,H',O.touch F c2 R P c3 c4,Y⟩⟩
end
end
section
variable {X:Cx} {tg elt iter tg2 iter2:Expr} {ifs ifs2:Od} {sc scO:Scope} {NO N:Oa} {own:Nat} {fr:Om} {wi wi2:TI} {g g2:TG} {tt tt2:TT} {te:TE} {pos py spos:Pos} {y:Str} {i:Nat}
theorem yq (S:CompScope NO scO N sc own fr) (l:X.calm=NS) (j:PI X tg iter wi) (hg:∀ a b d c,PG (zk X sc N a b d c) tg g) (f:∀ a b d c,PTs (zk X sc N a b d c) ifs tt) (k:∀ a b d c,PE (zk X sc N a b d c) elt te)
  (m:X.N=NO) (e:X.env.scope=scO) (h:∀ x,JG iter X.env x=pure x):PE X (.ListComp elt [⟨tg,iter,ifs,0⟩] sc pos) (qz wi own fr g tt λD=>qT D te) :=
 sW S l j hg f (λD a b d c=>⟨_,kG (D:=D) (k a b d c),λ_=>rfl⟩) m e h
theorem yY (S:CompScope NO scO N sc own fr) (q:X.calm=NS) (j:X.N.Nodup) (h:X.N[i]?=NQ y) (k:Loc X.env.scope y) (n:PI X tg iter wi) (hg:∀ a b d c,PG (zk X sc N a b d c) tg g) (l:∀ a b d c,PTs (zk X sc N a b d c) ifs tt) (p:∀ a b d c,PE (zk X sc N a b d c) elt te)
  (r:X.N=NO) (f:X.env.scope=scO) (m:∀ x,JG iter X.env x=pure x) (o:X.fn y=NS \/ X.env.scope.names.lookup y=NQ .local)
  (e:swapsWith (.ListComp elt [⟨tg,iter,ifs,0⟩] sc pos) (NQ (.Name y py)) spos.line X.env=pure NS) :
  PS X (.Assign [.Name y py] (.ListComp elt [⟨tg,iter,ifs,0⟩] sc pos) spos) (ve (qz wi own fr g tt λD=>qT D te) (yW i)) :=
 fQ S q j h k n hg l (λD a b d c=>⟨_,kG (D:=D) (p a b d c),λ_=>rfl⟩) r f m o e
end
theorem mO {g h b f a:Expr} {e d:Od} {j:Scope} {pos:Pos} {i acc:NT} {env:Env} :
  compTurn (.ListComp g [⟨h,b,e,0⟩,⟨f,a,d,0⟩] j pos) 0 i acc env=(do
   standAt b.pos
   match <- pyNext i with
   | none=>pure (.done .next)
   | some v =>
    J4 h i v
    assign h env v
    let mut ok:=NS
    for c in e do
     if ok then ok <- isTrue c env (eval c env)
    if ok then
     (do
      let x <- eval a env
      standAt a.pos
      let x <- JG a env x
      let _ <- runOwn (.compStart (.ListComp g [⟨h,b,e,0⟩,⟨f,a,d,0⟩] j pos) 1 (<- holding [x] (pyIter x)) acc env) env)
    again (.compLoop (.ListComp g [⟨h,b,e,0⟩,⟨f,a,d,0⟩] j pos) 0 i acc env)):=by
 unfold compTurn;simp only [bind_assoc,pure_bind];rfl
section
variable {X:Cx} {tg elt iter tg2 iter2:Expr} {ifs ifs2:Od} {sc scO:Scope} {NO N:Oa} {own:Nat} {fr:Om} {wi wi2:TI} {g g2:TG} {tt tt2:TT} {te:TE} {pos py spos:Pos} {y:Str} {i:Nat}
theorem fR (S:CompScope NO scO N sc own fr) (l:X.calm=NS) (o:PI X tg iter wi) (hg:∀ a b d c,PG (zk X sc N a b d c) tg g) (m:∀ a b d c,PTs (zk X sc N a b d c) ifs tt)
  (j:∀ a b d c,PI (zk X sc N a b d c) tg2 iter2 wi2) (k:∀ a b d c,PG (zk X sc N a b d c) tg2 g2) (e:∀ a b d c,PTs (zk X sc N a b d c) ifs2 tt2)
  (p:∀ a b d c,PE (zk X sc N a b d c) elt te) (q:X.N=NO) (f:X.env.scope=scO) (n:∀ x,JG iter X.env x=pure x) (h:∀ a b d c x,JG iter2 (zk X sc N a b d c).env x=pure x) :
  PE X (.ListComp elt [⟨tg,iter,ifs,0⟩,⟨tg2,iter2,ifs2,0⟩] sc pos) (qz wi own fr g tt λD=>tIn wi2 g2 tt2 (qT D te)) :=
 sW S l o hg m (λD a b d c=>⟨_,Eg (D:=D) (λ_ _ z=>z) l (j a b d c) (k a b d c) (e a b d c) (p a b d c) (h a b d c),λr=>mO⟩) q f n
theorem mP (S:CompScope NO scO N sc own fr) (o:X.calm=NS) (n:X.N.Nodup) (k:X.N[i]?=NQ y) (p:Loc X.env.scope y) (s:PI X tg iter wi) (hg:∀ a b d c,PG (zk X sc N a b d c) tg g) (q:∀ a b d c,PTs (zk X sc N a b d c) ifs tt)
  (l:∀ a b d c,PI (zk X sc N a b d c) tg2 iter2 wi2) (m:∀ a b d c,PG (zk X sc N a b d c) tg2 g2) (e:∀ a b d c,PTs (zk X sc N a b d c) ifs2 tt2)
  (u:∀ a b d c,PE (zk X sc N a b d c) elt te) (v:X.N=NO) (h:X.env.scope=scO) (r:∀ x,JG iter X.env x=pure x) (j:∀ a b d c x,JG iter2 (zk X sc N a b d c).env x=pure x)
  (t:X.fn y=NS \/ X.env.scope.names.lookup y=NQ .local)
  (f:swapsWith (.ListComp elt [⟨tg,iter,ifs,0⟩,⟨tg2,iter2,ifs2,0⟩] sc pos) (NQ (.Name y py)) spos.line X.env=pure NS) :
  PS X (.Assign [.Name y py] (.ListComp elt [⟨tg,iter,ifs,0⟩,⟨tg2,iter2,ifs2,0⟩] sc pos) spos) (ve (qz wi own fr g tt λD=>tIn wi2 g2 tt2 (qT D te)) (yW i)) :=
 fQ S o n k p s hg q (λD a b d c=>⟨_,Eg (D:=D) (λ_ _ z=>z) o (l a b d c) (m a b d c) (e a b d c) (u a b d c) (j a b d c),λw=>mO⟩) v h r t f
end
section
variable {X:Cx} {NJ:N9} {σ:St} {H:Hp} {s:NU} {h':Heap} {fp:N8}
theorem Inv.turnedAll {t':Nat} (I:Inv X NJ σ H s) (d:∀ b∈fp,bM X NJ H b) (k:∀ b o,b∉fp->s.heap.get? b=NQ o->h'.get? b=NQ o):Inv X NJ σ H { s with heap:=h',toks:=t' }:=by
 refine I.step (g':=s.gens) (d':=s.drawn) (ch:=fp) (λb g=>⟨(d b g).2.2.2.1,(d b g).2.1,(d b g).2.2.2.2⟩) (λb o _ _ a e _=>k b o a e) (λb o _ _ a e _=>⟨o.slots,k b o a e⟩) (λ_ _ _ _ n=>n)
  (λb o a e=>⟨o,k b o a e⟩) (λ_ _ e=>e) (λ_ _ _ e=>e) (λ_ _ e=>e) (λm i=>?_) (λb u e=>?_) I.bare
 ·obtain⟨o,j,l,h,r⟩:=i;exact⟨o,j,l,k _ o (λz=>(d _ z).2.1 rfl) h,r⟩
 ·refine (I.hok b u e).stay (λc v a q=>k c v (λz=>?_) q) (λ_ q=>q) λ_ _ q=>q;have f:=(d c z).1;rcases a with a | a
  ·subst a;rw [e] at f;cases f
  ·rw [a] at f;cases f
theorem Inv.turnedNew {t':Nat} {t:Ij} {o:HO} (I:Inv X NJ σ H s) (i:∀ b∈fp,bM X NJ H b) (k:∀ b o,b∉fp->s.heap.get? b=NQ o->h'.get? b=NQ o) (l:s.heap.objs.size<=t) (j:ObjOk X.prog X.w (upd H t o) h' t o) :
  Inv X NJ σ (upd H t o) { s with heap:=h',toks:=t' }:=by
 have h:H t=NW:=I.hok.fresh l;have x:∀ b g,s.heap.get? b=NQ g->b≠t:=λb g e=>IU (IW (IA e) l);refine I.step (g':=s.gens) (d':=s.drawn) (ch:=fp) (λb f=>⟨(i b f).2.2.2.1,(i b f).2.1,(i b f).2.2.2.2⟩) (λb o _ _ a e _=>k b o a e) (λb o _ _ a e _=>⟨o.slots,k b o a e⟩) (λb g _ e n=>by rw [zx (x b g e)];exact n)
  (λb o a e=>⟨o,k b o a e⟩) (λb p e=>by rw [zx (zN e h)];exact e) (λb g u e=>by rw [zx (zN e h)];exact e) (λb D e=>by rw [zx (zN e h)];exact e) (λm A=>?_) (λb u e=>?_) I.bare
 ·obtain⟨o,B,C,y,r⟩:=A;exact⟨o,B,C,k _ o (λz=>(i _ z).2.1 rfl) y,r⟩
 ·by_cases f:b=t
  ·subst f;rw [zy] at e;cases e;exact j
  ·rw [zx f] at e;refine (I.hok b u e).stay (λc v a q=>k c v (λz=>?_) q) (λc q=>by rw [zx (zN q h)];exact q) λc p q=>by rw [zx (zN q h)];exact q
   have d:=(i c z).1;rcases a with a | a
   ·subst a;rw [e] at d;cases d
   ·rw [a] at d;cases d
end
noncomputable def Ite (K:Ih) (a:Ij):It :=
 ⟨λi H=>∃ b x,SqL K H a b/\b[i]?=NQ x,λi H x c=>∃ t y,x=.ref t/\H t=NW/\c=upd H t (.tup [.int i,y])/\∀ b,SqL K H a b->b[i]?=NQ y,λi H=>∃ b,SqL K H a b/\b.length<=i⟩
theorem wc {P:NY} {w:NX} {K:Ih} {es:Od} {k:Nat} {pos:Pos} (a e g:Ij) (m:e≠g):Turn P w K (.Tuple es k pos) (Ite K a) [e,g] e (λi h=>(∃ f,IsEnum h e g i f)/\h.IsListIter g a i) where
 mem:=by simp
 obj:=λi h st b l=>by
  obtain⟨⟨f,j⟩,o,r,c,d⟩:=st;rcases Iv.mp l with z | z
  ·subst z;exact⟨_,j,λv z=>by
    have z':Data.fields _=Data.cell v:=z;cases z'⟩
  ·have z:b=g:=by simpa using z
   subst z;exact⟨o,r,λv z=>by rw [d] at z;cases z⟩
 keep:=λi h S st y=>⟨let⟨f,j⟩:=st.1;⟨f,y e (by simp) _ j⟩,st.2.at λo r=>y g (by simp) o r⟩
 item:=by
  intro X O M Q Y i NJ s W H E I B st N;subst O M Q;obtain⟨xs,x,A,L⟩:=N;obtain⟨J,G,p,hz⟩:=I.list A;obtain⟨u,hu,ru⟩:=G.get L;obtain⟨⟨f,j⟩,t⟩:=st;refine wpAny_pyNext_enum_item j t p.isList (x:=u) (by simpa using hu) m λS so C tp sz kp=>?_;refine⟨_,rfl,?_⟩;refine wpAny_letOwnedTupleGo_enum (s:={ s with heap:=S,toks:=s.toks+1 }) so λZ D F=>?_;have q:e<s.heap.objs.size:=IA j;obtain⟨oi,T,_,_⟩:=id t;have n:g<s.heap.objs.size:=IA T;have y:∀ b o,b∉[e,g]->s.heap.get? b=NQ o->Z.get? b=NQ o:=λb o l U=>by
   have h1:b≠e:=λz=>l (by simp [z]);have R:b≠g:=λz=>l (by simp [z]);exact (F.2 b h1).trans (kp b o h1 R U)
  have I2:Inv X NJ W (upd H s.heap.objs.size (.tup [.int i,x])) { s with heap:=Z,toks:=s.toks+1 }:=I.turnedNew B y (Iu _)
   ⟨by show 2<=Jr;decide,[.int i s.toks,u],.cons ⟨_,rfl⟩ (.cons ru .nil),⟨_,(F.2 _ (Lz q)).trans tp,rfl,_,rfl⟩⟩
  refine⟨.ref s.heap.objs.size,_,I2,rfl,⟨_,x,rfl,I.fresh,rfl,λys hy=>by rw [I.list_inj hy A];exact L⟩,⟨⟨_,D⟩,?_⟩,λb l=>?_⟩
  ·exact C.at λo r=>(F.2 g (JM m)).trans r
  ·rw [zx]
   ·exact (B b l).1
   ·rcases Iv.mp l with z | z
    ·subst z;exact IU q
    ·have z:b=g:=by simpa using z
     subst z;exact IU n
 done:=by
  intro X O M Q Y i NJ s W H E I B st N;subst O M Q;obtain⟨xs,A,L⟩:=N;obtain⟨J,G,p,hz⟩:=I.list A;obtain⟨⟨f,j⟩,t⟩:=st;have hl:=G.length;exact wpAny_pyNext_enum_end (I.ok.hd Y) j t p.isList (by simp;lia) λS U=>⟨rfl,I.turnedAll (t':=s.toks) B λb o l e'=>U b o (λz=>l (by simp [z])) e'⟩
 self:=λ_ _ _ _ _ st h=>let⟨_,j⟩:=st.1;wpAny_pyIter_enum j h
section
variable {X:Cx} {es:Od} {k:Nat} {tpos:Pos}
def sX (K:Ih) (f:TA):TI:=λc H R=>f c H λe b=>∃ a,e=[.ref a]/\(∃ d,SqL K b a d)/\R (Ite K a) b
theorem Cv {a:Expr} {g:TA} {p pos:Pos} (hg:Gl X "enumerate") (y:X.mg "enumerate"=NW) (C:PA X [a] g) (w:Jg [a] X.env=[(NV,eval a X.env)]:=by rfl):PI X (.Tuple es k tpos) (.Call (.Name "enumerate" p) [a] [] pos) (sX X.K g):=by
 intro D s j H R I h;refine Call_ (vE I hg y boot_enumerate (Kg (thn (C pos D s j H _ I h) λJ c ⟨G,E,d,n,o⟩=>?_) w rfl));obtain⟨l,e,⟨F,x⟩,q⟩:=o;subst e;cases n with
 | cons r m =>
  cases m;cases r;obtain⟨u,L,p,M⟩:=d.list x;refine call_enumerate_list p.isList λN i A v t=>?_;refine wpAny_pyIter_enum i ?_;have f:c.heap.objs.size+1≠c.heap.objs.size:=Nat.succ_ne_self _;refine⟨c.heap.objs.size+1,[c.heap.objs.size+1,c.heap.objs.size],_,_,E,rfl,d.kept (t':=c.toks) t,wc l _ _ f,⟨⟨_,i⟩,A⟩,λb B=>?_,q⟩;rcases Iv.mp B with z | z
  ·subst z;exact d.fpOk (L8 _) (d.hok.fresh (L8 _))
  ·have z:b=c.heap.objs.size:=by simpa using z
   subst z;exact d.fpOk (Iu _) (d.hok.fresh (Iu _))
end
theorem xX {K:Ih} {a:Ij} {xs:List V} {g:TG} {l:TS} {D:Ends} {b:St} {H:Hp} (c:Nat->St->Hp->Prop) (h0:c 0 b H) (u:∀ i b H,i<=xs.length->c i b H->SqL K H a xs)
  (s:∀ i x b H t,xs[i]?=NQ x->c i b H->H t=NW->g (.ref t) b (upd H t (.tup [.int i,x])) λd k=>l { D with nx:=c (i+1),ct:=c (i+1),bk:=D.nx } d k) (w:∀ b H,c xs.length b H->D.nx b H) :
  ∃ W:Nat->Nat->St->Hp->Prop,(∃ m,W 0 m b H)/\∀ i m b H,W i m b H ->
   ((Ite K a).stop i H/\D.nx b H) \/ ((Ite K a).go i H/\∃ N:St->Hp->Prop,(∀ σ' f,N σ' f->∃ o,o<m/\W (i+1) o σ' f)/\∀ x f,(Ite K a).yld i H x f->g x b f λd k=>l { D with nx:=N,ct:=N,bk:=D.nx } d k):=by
 refine⟨λi m b H=>c i b H/\i<=xs.length/\m+i=xs.length,⟨xs.length,h0,IV _,rfl⟩,λi m b H ⟨p,v,z⟩=>?_⟩;have q:=u i b H v p;by_cases h:i<xs.length
 ·refine .inr ⟨⟨xs,xs[i],q,Ia h⟩,c (i+1),λσ' f n=>⟨m - 1,by lia,n,h,by lia⟩,λx f j=>?_⟩;obtain⟨t,y,rfl,r,rfl,j⟩:=j;exact s i y b H t (j xs q) p r
 ·have e:i=xs.length:=by lia
  subst e;exact .inl ⟨⟨xs,q,Iu _⟩,w b H p⟩
mutual
def Rep (K:Ih) (H:Hp):NR->V->Prop
 | .none,v=>v=.non
 | .bool b,v=>v=.bl b
 | .int i,v=>v=.int i
 | .str x,v=>v=.str x
 | .list ds,v=>∃ a xs,v=.ref a/\SqL K H a xs/\Reps K H ds xs
 | .tuple ds,v=>∃ a xs,v=.ref a/\SqT K H a xs/\Reps K H ds xs
 | .dict _,_=>False
def Reps (K:Ih) (H:Hp):Oo->List V->Prop
 | [],xs=>xs=[]
 | d :: ds,xs=>∃ x r,xs=x :: r/\Rep K H d x/\Reps K H ds r
end
theorem Same.seqT {K:Ih} {H b:Hp} {a:Ij} {xs:List V} (e:Same H b) (h:SqT K H a xs):SqT K b a xs:=by
 rcases h with (h | ⟨o,h⟩) | h
 ·exact .inl (.inl (e _ _ h))
 ·exact .inl (.inr ⟨o,e _ _ h⟩)
 ·exact .inr h
mutual
theorem Rep.mono {K:Ih} {H g:Hp} (e:Same H g):∀ (d:NR) (v:V),Rep K H d v->Rep K g d v
 | .none,_,h=>by rw [Rep] at h ⊢;exact h
 | .bool _,_,h=>by rw [Rep] at h ⊢;exact h
 | .int _,_,h=>by rw [Rep] at h ⊢;exact h
 | .str _,_,h=>by rw [Rep] at h ⊢;exact h
 | .list ds,v,h=>by
  rw [Rep] at h ⊢;obtain⟨a,xs,f,c,b⟩:=h;exact⟨a,xs,f,e.seq c,Reps.mono e ds xs b⟩
 | .tuple ds,v,h=>by
  rw [Rep] at h ⊢;obtain⟨a,xs,f,c,b⟩:=h;exact⟨a,xs,f,e.seqT c,Reps.mono e ds xs b⟩
 | .dict _,_,h=>by rw [Rep] at h;exact h.elim
theorem Reps.mono {K:Ih} {H a:Hp} (e:Same H a):∀ (ds:Oo) (xs:List V),Reps K H ds xs->Reps K a ds xs
 | [],_,h=>by rw [Reps] at h ⊢;exact h
 | d :: ds,xs,h=>by
  rw [Reps] at h ⊢;obtain⟨x,r,f,c,b⟩:=h;exact⟨x,r,f,Rep.mono e d x c,Reps.mono e ds r b⟩
end
theorem zw {K:Ih} {H:Hp} {i:Int} {v:V}:Rep K H (.int i) v↔v=.int i:=by rw [Rep]
theorem ya {K:Ih} {H:Hp} {b:Bool} {v:V}:Rep K H (.bool b) v↔v=.bl b:=by rw [Rep]
theorem j9 {K:Ih} {H:Hp} {v:V}:Rep K H .none v↔v=.non:=by rw [Rep]
theorem kI {K:Ih} {H:Hp} {x:Str} {v:V}:Rep K H (.str x) v↔v=.str x:=by rw [Rep]
theorem zI {K:Ih} {H:Hp} {ds:Oo} {v:V}:Rep K H (.list ds) v↔∃ a xs,v=.ref a/\SqL K H a xs/\Reps K H ds xs:=by rw [Rep]
theorem zZ {K:Ih} {H:Hp} {ds:Oo} {v:V}:Rep K H (.tuple ds) v↔∃ a xs,v=.ref a/\SqT K H a xs/\Reps K H ds xs:=by rw [Rep]
theorem zQ {K:Ih} {H:Hp} {xs:List V}:Reps K H [] xs↔xs=[]:=by rw [Reps]
theorem zE {K:Ih} {H:Hp} {d:NR} {ds:Oo} {xs:List V}:Reps K H (d :: ds) xs↔∃ x r,xs=x :: r/\Rep K H d x/\Reps K H ds r:=by rw [Reps]
theorem Reps.nil' {K:Ih} {H:Hp}:Reps K H [] []:=zQ.mpr rfl
theorem Reps.cons' {K:Ih} {H:Hp} {d:NR} {ds:Oo} {x:V} {r:List V} (h:Rep K H d x) (t:Reps K H ds r):Reps K H (d :: ds) (x :: r):=zE.mpr ⟨x,r,rfl,h,t⟩
theorem Reps.length {K:Ih} {H:Hp}:∀ {ds:Oo} {xs:List V},Reps K H ds xs->xs.length=ds.length
 | [],xs,h=>by rw [zQ.mp h];rfl
 | d :: ds,xs,h=>by
  obtain⟨x,r,rfl,_,a⟩:=zE.mp h;rw [IJ,IJ,Reps.length a]
theorem Reps.get {K:Ih} {H:Hp}:∀ {ds:Oo} {xs:List V} {i:Nat} {d:NR},Reps K H ds xs->ds[i]?=NQ d->∃ x,xs[i]?=NQ x/\Rep K H d x
 | [],_,_,_,_,e=>by simp at e
 | d :: ds,xs,0,d',h,e=>by
  obtain⟨x,r,rfl,a,_⟩:=zE.mp h;simp at e;subst e;exact⟨x,rfl,a⟩
 | d :: ds,xs,i+1,d',h,e=>by
  obtain⟨x,r,rfl,_,b⟩:=zE.mp h;obtain⟨y,c,a⟩:=Reps.get (i:=i) b (by simpa using e);exact⟨y,by simpa using c,a⟩
theorem Reps.snoc {K:Ih} {H:Hp} {d:NR} {x:V} (h:Rep K H d x):∀ {ds:Oo} {xs:List V},Reps K H ds xs->Reps K H (ds++[d]) (xs++[x])
 | [],xs,t=>by rw [zQ.mp t];exact .cons' h .nil'
 | d' :: ds,xs,t=>by
  obtain⟨y,r,rfl,b,a⟩:=zE.mp t;exact .cons' b (Reps.snoc h a)
theorem Reps.append {K:Ih} {H:Hp}:∀ {ds es:Oo} {xs ys:List V},Reps K H ds xs->Reps K H es ys->Reps K H (ds++es) (xs++ys)
 | [],es,xs,ys,t,u=>by rw [zQ.mp t];exact u
 | d' :: ds,es,xs,ys,t,u=>by
  obtain⟨y,r,rfl,b,a⟩:=zE.mp t;exact .cons' b (Reps.append a u)
theorem Reps.ints {K:Ih} {H:Hp}:∀ {ns:Oh} {xs:List V},Reps K H (ns.map .int) xs->xs=ns.map V.int
 | [],xs,h=>zQ.mp h
 | n :: ns,xs,h=>by
  obtain⟨x,r,rfl,b,a⟩:=zE.mp h;rw [zw.mp b,Reps.ints a];rfl
theorem Reps.ints' {K:Ih} {H:Hp}:∀ (ns:Oh),Reps K H (ns.map .int) (ns.map V.int)
 | []=>.nil'
 | n :: ns=>.cons' (zw.mpr rfl) (Reps.ints' ns)
section
variable {X:Cx} {NJ:N9} {σ:St} {H:Hp} {s:NU}
mutual
theorem jh (I:Inv X NJ σ H s):∀ (d:NR) (v:V) (u:NT),Rep X.K H d v->RelV v u->∃ w,Reads s.heap u d w
 | .none,v,u,h,r=>by rw [j9.mp h] at r;cases r;exact⟨_,.none⟩
 | .bool b,v,u,h,r=>by rw [ya.mp h] at r;cases r;exact⟨_,.bool b⟩
 | .int i,v,u,h,r=>by rw [zw.mp h] at r;obtain⟨t,rfl⟩:=r;exact⟨_,.int i t⟩
 | .str x,v,u,h,r=>by rw [kI.mp h] at r;obtain⟨t,rfl⟩:=r;exact⟨_,.str x t⟩
 | .list ds,v,u,h,r=>by
  obtain⟨a,e,rfl,q,m⟩:=zI.mp h;cases r;obtain⟨c,f,p,_⟩:=I.list q;obtain⟨o,j,l,n,k⟩:=p.isList;obtain⟨w,g⟩:=jq I ds e c m f;exact⟨_,.list j l k (by simpa using g)⟩
 | .tuple ds,v,u,h,r=>by
  obtain⟨a,e,rfl,q,m⟩:=zZ.mp h;cases r;obtain⟨c,f,p,_⟩:=I.tuple q;obtain⟨o,j,l,n,k⟩:=p;obtain⟨w,g⟩:=jq I ds e c m f;exact⟨_,.tuple j l k (by simpa using g)⟩
 | .dict _,_,_,h,_=>by rw [Rep] at h;exact h.elim
theorem jq (I:Inv X NJ σ H s):∀ (ds:Oo) (xs:List V) (a:N6),Reps X.K H ds xs->Vals xs a->∃ b,ReadsAll s.heap a ds b
 | [],xs,a,h,r=>by rw [zQ.mp h] at r;cases r;exact⟨_,.nil⟩
 | d :: ds,xs,a,h,r=>by
  obtain⟨x,q,rfl,j,i⟩:=zE.mp h;cases r with
  | cons g f =>
   obtain⟨b,e⟩:=jh I d x _ j g;obtain⟨k,c⟩:=jq I ds q _ i f;exact⟨_,.cons e c⟩
end
def xY (K:Ih) (neg:Bool):R2:=λx y H Q=>∃ d a,Rep K H d x/\Rep K H a y/\d.canLay0=NS/\a.canLay0=NS/\min d.depth a.depth<=60/\Q (.bl (if neg then !IX d a else IX d a)) H
theorem E6 (m:X.A.units+64<JR):OpR X (JI .Eq) (xY X.K NV):=by
 intro r s l H x y v u Q I c b h;obtain⟨d,a,i,g,k,j,n,q⟩:=h;obtain⟨p,f⟩:=jh I d x v i c;obtain⟨o,e⟩:=jh I a y u g b;exact SeqAt.compareEq_reads f e k j (by lia) ⟨.bl (IX d a),H,I,rfl,q⟩
theorem E7 (m:X.A.units+64<JR):OpR X (JI .NotEq) (xY X.K NS):=by
 intro r s l H x y v u Q I c b h;obtain⟨d,a,i,g,k,j,n,q⟩:=h;obtain⟨p,f⟩:=jh I d x v i c;obtain⟨o,e⟩:=jh I a y u g b;exact SeqAt.compareNe_reads f e k j (by lia) ⟨.bl (!IX d a),H,I,rfl,q⟩
theorem we (D:X.calm=NS):yJ X (.builtin "min") (λxs H Q=>∃ a ns,xs=[.ref a]/\SqL X.K H a (ns.map V.int)/\ns≠[]/\∀ M,M∈ns->(∀ b∈ns,M<=b)->Q (.int M) H):=by
 intro N s G H xs J Q I r h;obtain⟨a,ns,rfl,A,g,q⟩:=h;obtain⟨u,rfl,x⟩:=vals1 r;cases x;obtain⟨y,w,p,_⟩:=I.list A;obtain⟨m,F⟩:=I.fr;have k:=intsAre_of w;obtain⟨d,e⟩:=k.allInts.items;have c:ns=d.toList.map (·.1):=by rw [<-k.numsOf,<- nums_intItems,<- e]
 have f:0<d.size:=by
  have n:0<ns.length:=Lp.mpr g;rw [c,Ib,IH] at n;exact n
 have i:=p.isList;rw [e] at i;refine min_intList (I.ok.hd D) i f λv L o z B=>?_;obtain⟨t,rfl⟩:=intItems_at z;obtain⟨_,E⟩:=argBest_lt (numAt d) (d.size - 1);refine⟨.int _,H,I.kept (t':=o) B,⟨t,rfl⟩,q _ ?_ λb l=>?_⟩
 ·rw [c,numAt_eq];exact getD_mem (by rw [Ib,IH];lia)
 ·rw [c] at l;obtain⟨j,C,rfl⟩:=mem_getD l;rw [Ib,IH] at C;rw [<-numAt_eq];exact E j (by lia)
theorem wg (C:X.calm=NS):yJ X (.builtin "max") (λxs H Q=>∃ a ns,xs=[.ref a]/\SqL X.K H a (ns.map V.int)/\ns≠[]/\∀ M,M∈ns->(∀ b∈ns,b<=M)->Q (.int M) H):=by
 intro J s E H xs F Q I r h;obtain⟨a,ns,rfl,z,g,q⟩:=h;obtain⟨u,rfl,w⟩:=vals1 r;cases w;obtain⟨x,o,p,_⟩:=I.list z;have k:=intsAre_of o;obtain⟨d,e⟩:=k.allInts.items;have c:ns=d.toList.map (·.1):=by rw [<-k.numsOf,<- nums_intItems,<- e]
 have f:0<d.size:=by
  have m:0<ns.length:=Lp.mpr g;rw [c,Ib,IH] at m;exact m
 have i:=p.isList;rw [e] at i;refine max_intList (I.ok.hd C) i f λv G n y A=>?_;obtain⟨t,rfl⟩:=intItems_at y;obtain⟨_,D⟩:=argBest_gt (numAt d) (d.size - 1);refine⟨.int _,H,I.kept (t':=n) A,⟨t,rfl⟩,q _ ?_ λb l=>?_⟩
 ·rw [c,numAt_eq];exact getD_mem (by rw [Ib,IH];lia)
 ·rw [c] at l;obtain⟨j,B,rfl⟩:=mem_getD l;rw [Ib,IH] at B;rw [<-numAt_eq];exact D j (by lia)
end
inductive DV where
 | dat (d:NR)
 | feed
 | own (k:Nat)
 | exc (C:NT)
 | mon (φ:Hp->V->Prop)
abbrev zu:=List (Option DV)
structure Fx where
 f:Oc
 M:N8
noncomputable def hide (H:Hp) (f:Fx):Hp:=λb=>if f.f=NQ b \/ b∈f.M then NW else H b
structure FOk (f:Fx) (H:Hp):Prop where
 fd:∀ p,f.f=NQ p->∃ a b:Int,H p=NQ (.lst [.int a,.int b])/\0<=a/\0<=b/\b<2147483647
 mm:∀ b∈f.M,∃ o,H b=NQ o
 nm:∀ p,f.f=NQ p->p∉f.M
def RepV (K:Ih) (f:Fx) (H:Hp):DV->V->Prop
 | .dat d,v=>Rep K (hide H f) d v
 | .feed,v=>∃ p,f.f=NQ p/\v=.ref p
 | .own k,v=>∃ p,f.M.reverse[k]?=NQ p/\v=.ref p
 | .exc C,v=>∃ a,v=.ref a/\hide H f a=NQ (.ext λh=>∃ o,h.get? a=NQ o/\o.cls=C)
 | .mon φ,v=>∀ b,Same (hide H f) b->φ b v
structure Goes (f:Fx) (H H':Hp):Prop where
 sm:Same (hide H f) (hide H' f)
 ok:FOk f H'
 kp:∀ b∈f.M,H' b=H b
structure EnvOk (K:Ih) (f:Fx) (ρ:zu) (σ:St) (H:Hp):Prop where
 len:ρ.length=σ.length
 get:∀ (i:Nat) x,ρ[i]?=NQ (NQ x)->∃ v,σ[i]?=NQ (NQ v)/\RepV K f H x v
 fd:FOk f H
theorem jt (H:Hp):hide H ⟨NW,[]⟩=H:=by funext b;unfold hide;rw [NL (by rintro (h | h) <;> cases h)]
theorem zo (H:Hp) (f:Fx):Same (hide H f) H:=λb o h=>by
 unfold hide at h;split at h
 ·cases h
 ·exact h
theorem zW {H:Hp} {f:Fx} {b:Ij} {o:HO} (h:hide H f b=NQ o):¬ (f.f=NQ b \/ b∈f.M)/\H b=NQ o:=by
 unfold hide at h;split at h
 ·cases h
 ·rename_i n;exact⟨n,h⟩
theorem zG {H:Hp} {f:Fx} {b:Ij} {o:HO} (n:¬ (f.f=NQ b \/ b∈f.M)) (h:H b=NQ o):hide H f b=NQ o:=by unfold hide;rw [NL n];exact h
theorem Goes.refl {f:Fx} {H:Hp} (h:FOk f H):Goes f H H:=⟨Same.refl _,h,λ_ _=>rfl⟩
theorem Goes.trans {f:Fx} {H e d:Hp} (a:Goes f H e) (b:Goes f e d):Goes f H d:=⟨a.1.trans b.1,b.2,λx c=>(b.kp x c).trans (a.kp x c)⟩
theorem Goes.of_same {f:Fx} {H d:Hp} (s:Same H d) (h:FOk f H):Goes f H d :=
 ⟨λb o e=>zG (zW e).1 (s b o (zW e).2),⟨λp e=>let⟨a,b,i,g⟩:=h.fd p e;⟨a,b,s _ _ i,g⟩,λb c=>let⟨o,e⟩:=h.mm b c;⟨o,s _ _ e⟩,h.nm⟩,λb c=>let⟨o,e⟩:=h.mm b c;(s _ _ e).trans e.symm⟩
theorem yf {H:Hp} {p:Ij} (h:H p=NW) (o:HO):Same H (upd H p o):=λb u q=>by rw [zx (zN q h)];exact q
theorem RepV.mono {K:Ih} {f:Fx} {H b:Hp} (g:Goes f H b):∀ {x:DV} {v:V},RepV K f H x v->RepV K f b x v
 | .dat d,v,h=>Rep.mono g.1 d v h
 | .feed,v,h=>h
 | .own _,v,h=>h
 | .exc _,v,h=>let⟨a,e,q⟩:=h;⟨a,e,g.1 _ _ q⟩
 | .mon _,v,h=>λb s=>h b (g.1.trans s)
theorem EnvOk.mono {K:Ih} {f:Fx} {b:zu} {a:St} {H c:Hp} (e:EnvOk K f b a H) (g:Goes f H c):EnvOk K f b a c :=
 ⟨e.len,λi x h=>let⟨v,j,d⟩:=e.get i x h;⟨v,j,d.mono g⟩,g.2⟩
theorem EnvOk.set {K:Ih} {f:Fx} {a:zu} {b:St} {H:Hp} {x:DV} {v:V} (e:EnvOk K f a b H) (i:Nat) (r:RepV K f H x v):EnvOk K f (a.set i (NQ x)) (b.set i (NQ v)) H:=by
 refine⟨by rw [JX,JX];exact e.len,λj y h=>?_,e.fd⟩;by_cases c:i=j
 ·subst c;by_cases d:i<a.length
  ·rw [Jj d] at h;cases h;exact⟨v,by rw [Jj (by rw [<-e.len];exact d)],r⟩
  ·rw [Jf (by rw [JX];lia)] at h;cases h
 ·rw [JN c] at h ⊢;exact e.get j y h
theorem fresh_ne {f:Fx} {H:Hp} {p:Ij} (h:FOk f H) (n:H p=NW):¬ (f.f=NQ p \/ p∈f.M):=λe=>by
 rcases e with e | e
 ·obtain⟨a,b,c,_⟩:=h.fd p e;rw [n] at c;cases c
 ·obtain⟨o,c⟩:=h.mm p e;rw [n] at c;cases c
inductive RepVs (K:Ih) (f:Fx) (H:Hp):List DV->List V->Prop where
 | nil:RepVs K f H [] []
 | cons {x v xs vs}:RepV K f H x v->RepVs K f H xs vs->RepVs K f H (x :: xs) (v :: vs)
theorem RepVs.mono {K:Ih} {f:Fx} {H b:Hp} (g:Goes f H b):∀ {xs:List DV} {a:List V},RepVs K f H xs a->RepVs K f b xs a
 | _,_,.nil=>.nil
 | _,_,.cons r t=>.cons (r.mono g) (t.mono g)
theorem RepVs.length {K:Ih} {f:Fx} {H:Hp}:∀ {xs:List DV} {a:List V},RepVs K f H xs a->a.length=xs.length
 | _,_,.nil=>rfl
 | _,_,.cons _ t=>by rw [IJ,IJ,t.length]
section
variable (K:Ih) (f:Fx)
def PEd (e:TE) (c:zu) (P:NR->Prop):Prop:=∀ (b:St) (H:Hp) (Q:VK),EnvOk K f c b H->(∀ d v a,Goes f H a->Rep K (hide a f) d v->P d->Q v a)->e b H Q
def PTd (e:TT) (d:zu) (P:Bool->Prop):Prop:=∀ (a:St) (H:Hp) (Q:Bool->Hp->Prop),EnvOk K f d a H->(∀ b c,Goes f H c->P b->Q b c)->e a H Q
def PAd (g:TA) (e:zu) (P:List DV->Prop):Prop:=∀ (b:St) (H:Hp) (Q:List V->Hp->Prop),EnvOk K f e b H->(∀ c d a,Goes f H a->RepVs K f a c d->P c->Q d a)->g b H Q
structure DEnds where
 nx:zu->Prop
 rt:NR->Prop
 bk:zu->Prop:=λ_=>False
 ct:zu->Prop:=λ_=>False
def PSd (ts:TS) (g:zu) (D:DEnds):Prop:=∀ (e:St) (H:Hp) (E:Ends),EnvOk K f g e H->(∀ b a c,Goes f H c->EnvOk K f b a c->D.nx b->E.nx a c)->(∀ d v c,Goes f H c->Rep K (hide c f) d v->D.rt d->E.rt v c) ->
 (∀ b a c,Goes f H c->EnvOk K f b a c->D.bk b->E.bk a c)->(∀ b a c,Goes f H c->EnvOk K f b a c->D.ct b->E.ct a c)->ts E e H
def spD {g:Type} (n:Nat) (d:g->List DV->Prop) (a:g->NR->Prop):Sp:=λh H Q _=>∃ f b c,RepVs K f H b h/\b.length=n/\FOk f H/\d c b/\∀ r v e,Goes f H e->Rep K (hide e f) r v->a c r->Q v e
end
section
variable {K:Ih} {f:Fx} {ρ:zu} {P:NR->Prop} {te ta tb tc:TE}
theorem zr {i:Nat} {d:NR} (h:ρ[i]?=NQ (NQ (.dat d))) (p:P d):PEd K f (yB i) ρ P:=λc H Q e q=>by
 obtain⟨v,b,a⟩:=e.get i _ h;exact⟨v,b,q d v H (.refl e.fd) a p⟩
theorem yQ {i:Int} (p:P (.int i)):PEd K f (tC (.int i)) ρ P:=λa H Q e q=>q (.int i) _ H (.refl e.fd) (zw.mpr rfl) p
theorem Cw {i:Bool} (p:P (.bool i)):PEd K f (tC (.bl i)) ρ P:=λa H Q e q=>q (.bool i) _ H (.refl e.fd) (ya.mpr rfl) p
theorem qU {i:Str} (p:P (.str i)):PEd K f (tC (.str i)) ρ P:=λa H Q e q=>q (.str i) _ H (.refl e.fd) (kI.mpr rfl) p
theorem Eh (p:P .none):PEd K f (tC .non) ρ P:=λa H Q e q=>q .none _ H (.refl e.fd) (j9.mpr rfl) p
theorem PEd.imp {a:NR->Prop} (h:PEd K f te ρ P) (i:∀ d,P d->a d):PEd K f te ρ a:=λb H Q e q=>h b H Q e λd v c g r p=>q d v c g r (i d p)
theorem wj {r:R2} (h:PEd K f ta ρ λx=>PEd K f tb ρ λy=>∀ (v w:V) (H:Hp) (Q:VK),FOk f H->Rep K (hide H f) x v->Rep K (hide H f) y w->(∀ d u a,Goes f H a->Rep K (hide a f) d u->P d->Q u a)->r v w H Q):PEd K f (tOp r ta tb) ρ P:=λc H Q e q =>
 h c H _ e λx v s g j m=>m c s _ (e.mono g) λy w p b i l=>l v w p Q b.2 (Rep.mono b.1 x v j) i λd u a o k n=>q d u a (g.trans (b.trans o)) k n
theorem HU {r:V->Hp->VK->Prop} (h:PEd K f ta ρ λx=>∀ (v:V) (H:Hp) (Q:VK),FOk f H->Rep K (hide H f) x v->(∀ d u a,Goes f H a->Rep K (hide a f) d u->P d->Q u a)->r v H Q):PEd K f (tUn r ta) ρ P:=λc H Q e q =>
 h c H _ e λx v m b g j=>j v m Q b.2 g λd u a l i k=>q d u a (b.trans l) i k
theorem bS {g:Int->Int->Int} (h:PEd K f ta ρ λx=>∃ i,x=.int i/\PEd K f tb ρ λy=>∃ j,y=.int j/\P (.int (g i j))):PEd K f (tOp (rI0 λi j=>.int (g i j)) ta tb) ρ P :=
 wj (h.imp λx ⟨i,k,c⟩=>c.imp λy ⟨j,e,p⟩ v w H Q d b a q=>by
  subst k e;exact⟨i,j,zw.mp b,zw.mp a,q _ _ H (.refl d) (zw.mpr rfl) p⟩)
theorem oY {C:Int->Int->Prop} {g:Int->Int->Int} (h:PEd K f ta ρ λx=>∃ i,x=.int i/\PEd K f tb ρ λy=>∃ j,y=.int j/\C i j/\P (.int (g i j))):PEd K f (tOp (rI C λi j=>.int (g i j)) ta tb) ρ P :=
 wj (h.imp λx ⟨i,l,d⟩=>d.imp λy ⟨j,k,c,p⟩ v w H Q e b a q=>by
  subst l k;exact⟨i,j,zw.mp b,zw.mp a,c,q _ _ H (.refl e) (zw.mpr rfl) p⟩)
theorem mQ {g:Int->Int->Bool} (h:PEd K f ta ρ λx=>∃ i,x=.int i/\PEd K f tb ρ λy=>∃ j,y=.int j/\P (.bool (g i j))):PEd K f (tOp (rI0 λi j=>.bl (g i j)) ta tb) ρ P :=
 wj (h.imp λx ⟨i,k,c⟩=>c.imp λy ⟨j,e,p⟩ v w H Q d b a q=>by
  subst k e;exact⟨i,j,zw.mp b,zw.mp a,q _ _ H (.refl d) (ya.mpr rfl) p⟩)
theorem qA {neg:Bool} (h:PEd K f ta ρ λx=>PEd K f tb ρ λy=>x.canLay0=NS/\y.canLay0=NS/\min x.depth y.depth<=60/\P (.bool (if neg then !IX x y else IX x y))):PEd K f (tOp (xY K neg) ta tb) ρ P :=
 wj (h.imp λx c=>c.imp λy ⟨i,g,e,p⟩ v w H Q d b a q =>
  ⟨x,y,Rep.mono (zo _ _) x v b,Rep.mono (zo _ _) y w a,i,g,e,q _ _ H (.refl d) (ya.mpr rfl) p⟩)
theorem E8 {n:Nat} {k:Int} {j:Nat} (h:(j:Int)=k) (a:j<n):ixN n k=NQ j:=by
 unfold ixN;rw [NM (by lia),NM (by lia)]
 congr 1
 lia
theorem xZ (h:PEd K f ta ρ λx=>∃ ds,x=.list ds/\PEd K f tb ρ λy=>∃ k,y=.int k/\∃ d,atI ds k=NQ d/\P d):PEd K f (tOp (mI K) ta tb) ρ P :=
 wj (h.imp λx ⟨ds,t,o⟩=>o.imp λy ⟨k,s,d,a,p⟩ v w H Q r g e q=>by
  subst t s;obtain⟨l,c,rfl,n,b⟩:=zI.mp g;unfold atI at a;cases hi:ixN ds.length k with
  | none=>rw [hi] at a;cases a
  | some j =>
   rw [hi] at a;obtain⟨u,m,i⟩:=b.get a;exact⟨l,c,k,u,rfl,zw.mp e,(zo H f).seq n,by unfold atI;rw [b.length,hi];exact m,q d u H (.refl r) i p⟩)
theorem eG (h:PEd K f ta ρ λx=>∃ ds,x=.tuple ds/\PEd K f tb ρ λy=>∃ k,y=.int k/\∃ d,atI ds k=NQ d/\P d):PEd K f (tOp (u9 K) ta tb) ρ P :=
 wj (h.imp λx ⟨ds,t,o⟩=>o.imp λy ⟨k,s,d,a,p⟩ v w H Q r g e q=>by
  subst t s;obtain⟨l,c,rfl,n,b⟩:=zZ.mp g;unfold atI at a;cases hi:ixN ds.length k with
  | none=>rw [hi] at a;cases a
  | some j =>
   rw [hi] at a;obtain⟨u,m,i⟩:=b.get a;exact⟨l,c,k,u,rfl,zw.mp e,(zo H f).seqT n,by unfold atI;rw [b.length,hi];exact m,q d u H (.refl r) i p⟩)
theorem GX {i:Nat} (m:ρ[i]?=NQ (NQ .feed)) (h:PEd K f tb ρ λy=>(y=.int 0/\∀ a:Int,0<=a->P (.int a)) \/ (y=.int 1/\∀ b:Int,0<=b->b<2147483647->P (.int b))):PEd K f (tOp (mI K) (yB i) tb) ρ P:=λl H Q e q=>by
 obtain⟨v,n,p,o,j⟩:=e.get i _ m;refine⟨v,n,h l H _ e λy w k g r c=>?_⟩;obtain⟨a,b,d,u,t,s⟩:=g.2.fd p o;rcases c with⟨rfl,c⟩ | ⟨rfl,c⟩
 ·exact⟨p,_,0,.int a,j,zw.mp r,SqL.of d,rfl,q (.int a) _ k g (zw.mpr rfl) (c a u)⟩
 ·exact⟨p,_,1,.int b,j,zw.mp r,SqL.of d,rfl,q (.int b) _ k g (zw.mpr rfl) (c b t s)⟩
theorem zP {R:List DV->Prop} (p:R []):PAd K f qC ρ R:=λa H Q e q=>q [] [] H (.refl e.fd) .nil p
theorem zv {R:List DV->Prop} {u:TA} (h:PEd K f te ρ λx=>PAd K f u ρ λxs=>R (.dat x :: xs)):PAd K f (yy te u) ρ R:=λa H Q e q =>
 h a H _ e λx v m c i k=>k a m _ (e.mono c) λxs d l b g j=>q (.dat x :: xs) (v :: d) l (c.trans b) (.cons (RepV.mono (x:=.dat x) b i) g) j
theorem E9 {R:List DV->Prop} {u:TA} {i:Nat} (j:ρ[i]?=NQ (NQ .feed)) (h:PAd K f u ρ λxs=>R (.feed :: xs)):PAd K f (yy (yB i) u) ρ R:=λb H Q e q=>by
 obtain⟨v,l,k⟩:=e.get i _ j;exact⟨v,l,h b H _ e λxs c m a d g=>q (.feed :: xs) (v :: c) m a (.cons (RepV.mono (x:=.feed) a k) d) g⟩
noncomputable def af:List DV->Option (List NR)
 | []=>NQ []
 | .dat d :: r=>(af r).map (d :: ·)
 | .feed :: _=>NW
 | .own _ :: _=>NW
 | .exc _ :: _=>NW
 | .mon _ :: _=>NW
theorem bq {H:Hp}:∀ {xs:List DV} {a:List V} {ds:Oo},RepVs K f H xs a->af xs=NQ ds->Reps K (hide H f) ds a
 | _,_,ds,.nil,e=>by cases e;exact .nil'
 | .dat d :: xs,v :: a,ds,.cons r t,e=>by
  unfold af at e;cases q:af xs with
  | none=>rw [q] at e;cases e
  | some es=>rw [q] at e;cases e;exact .cons' r (bq t q)
 | .feed :: xs,_,ds,.cons r t,e=>by cases e
 | .own _ :: xs,_,ds,.cons r t,e=>by cases e
 | .exc _ :: xs,_,ds,.cons r t,e=>by cases e
 | .mon _ :: xs,_,ds,.cons r t,e=>by cases e
theorem mR {t:TA} (h:PAd K f t ρ λxs=>∃ ds,af xs=NQ ds/\ds.length<=1000/\P (.list ds)):PEd K f (uZ t) ρ P:=λj H Q e q =>
 h j H _ e λxs a i b m ⟨ds,o,n,p⟩=>by
  have c:=bq m o;refine⟨by rw [c.length];exact JL (z7 n),λl d=>?_⟩;have k:=yf d (.lst a);have g:Goes f i (upd i l (.lst a)):=.of_same k b.2;exact q (.list ds) _ _ (b.trans g) (zI.mpr ⟨l,a,rfl,.of (zG (fresh_ne b.2 d) zy),Reps.mono g.1 ds a c⟩) p
theorem qk {t:TA} (h:PAd K f t ρ λxs=>∃ ds,af xs=NQ ds/\ds.length<=1000/\P (.tuple ds)):PEd K f (EY t) ρ P:=λj H Q e q =>
 h j H _ e λxs a i b m ⟨ds,o,n,p⟩=>by
  have c:=bq m o;refine⟨by rw [c.length];exact JL (z7 n),λl d=>?_⟩;have k:=yf d (.tup a);have g:Goes f i (upd i l (.tup a)):=.of_same k b.2;exact q (.tuple ds) _ _ (b.trans g) (zZ.mpr ⟨l,a,rfl,.of (zG (fresh_ne b.2 d) zy),Reps.mono g.1 ds a c⟩) p
theorem zt {d:Type} {n:Nat} {b:d->List DV->Prop} {a:d->NR->Prop} {E:XK} {t:TA} (c:d) (h:PAd K f t ρ λxs=>xs.length=n/\b c xs/\∀ r,a c r->P r):PEd K f (bP (spD K n b a) [] E t) ρ P:=λi H Q e q =>
 h i H _ e λxs w x g j ⟨p,o,k⟩=>by
  refine⟨f,xs,c,by rw [Jo];exact j,p,g.2,o,λr v u s l m=>q r v u (g.trans s) l (k r m)⟩
theorem oZ {r:List V->Hp->VK->Prop} {t:TA} (h:PAd K f t ρ λxs=>∃ ds,af xs=NQ ds/\∀ (b:List V) (H:Hp) (Q:VK),FOk f H->Reps K (hide H f) ds b->(∀ d u a,Goes f H a->Rep K (hide a f) d u->P d->Q u a)->r b H Q):PEd K f (tCB r t) ρ P:=λg H Q e q =>
 h g H _ e λxs b o c i ⟨ds,n,k⟩=>k b o Q c.2 (bq i n) λd u a m j l=>q d u a (c.trans m) j l
end
section
variable {K:Ih} {f:Fx} {ρ:zu} {P:NR->Prop} {B:Bool->Prop} {te ta tb tc:TE} {tt tu:TT}
theorem PTd.imp {a:Bool->Prop} (h:PTd K f tt ρ B) (i:∀ d,B d->a d):PTd K f tt ρ a:=λb H Q e q=>h b H Q e λd c g p=>q d c g (i d p)
theorem yr (h:PEd K f te ρ λd=>∃ k,d=.bool k/\B k):PTd K f (mG te) ρ B:=λa H Q e q=>h a H _ e λd v c g r ⟨k,b,p⟩=>by
 subst b;exact⟨k,ya.mp r,q k c g p⟩
theorem sY (h:PTd K f tt ρ λc=>if c=NS then PTd K f tu ρ B else B NV):PTd K f (EL tt tu) ρ B:=λa H Q e q=>h a H _ e λc d g p=>by
 cases c with
 | true =>
  rw [NM rfl] at p ⊢;exact p a d Q (e.mono g) λb k j i=>q b k (g.trans j) i
 | false =>
  rw [NL Ie] at p ⊢;exact q NV d g p
theorem Fb (h:PTd K f tt ρ λc=>if c=NS then B NS else PTd K f tu ρ B):PTd K f (tOr tt tu) ρ B:=λa H Q e q=>h a H _ e λc d g p=>by
 cases c with
 | true =>
  rw [NM rfl] at p ⊢;exact q NS d g p
 | false =>
  rw [NL Ie] at p ⊢;exact p a d Q (e.mono g) λb k j i=>q b k (g.trans j) i
theorem iG (h:PTd K f tt ρ λc=>B (!c)):PTd K f (GQ tt) ρ B:=λa H Q e q=>h a H _ e λc b g p=>q (!c) b g p
noncomputable def GY:NR->Oq
 | .none=>NQ NV
 | .bool b=>NQ b
 | .int i=>NQ (i != 0)
 | .list ds=>NQ (!ds.isEmpty)
 | .tuple ds=>NQ (!ds.isEmpty)
 | _=>NW
def Fc (K:Ih) (ta:TE):TT:=λb H Q=>ta b H λx a=>∃ k,EW K x a k/\Q k a
theorem Fd {X:Cx} {a:Expr} (d:PE X a ta) (c:∀ b,isTrue a X.env b=(do let v <- b;standAt a.pos;holding [v] (truthy v))):PT X a (Fc X.K ta):=xT d c
theorem ji (h:PEd K f ta ρ λd=>∃ k,GY d=NQ k/\B k):PTd K f (Fc K ta) ρ B:=λo H Q e q=>h o H _ e λd v s g r ⟨k,c,p⟩=>by
 refine⟨k,?_,q k s g p⟩;cases d with
 | none=>rw [j9.mp r];cases c;rfl
 | bool b=>rw [ya.mp r];cases c;rfl
 | int i=>rw [zw.mp r];cases c;rfl
 | str x=>cases c
 | list l =>
  obtain⟨a,m,rfl,n,j⟩:=zI.mp r;cases c;refine .inl ⟨m,(zo _ _).seq n,?_⟩;cases l with
  | nil=>rw [zQ.mp j];rfl
  | cons d l=>obtain⟨x,r,rfl,_⟩:=zE.mp j;rfl
 | tuple l =>
  obtain⟨a,m,rfl,n,j⟩:=zZ.mp r;cases c;refine .inr (.inl ⟨m,(zo _ _).seqT n,?_⟩);cases l with
  | nil=>rw [zQ.mp j];rfl
  | cons d l=>obtain⟨x,r,rfl,_⟩:=zE.mp j;rfl
 | dict _=>cases c
theorem o3 (h:PTd K f tt ρ λc=>if c=NS then PEd K f ta ρ P else PEd K f tb ρ P):PEd K f (tIf tt ta tb) ρ P:=λa H Q e q=>h a H _ e λc l g p=>by
 cases c with
 | true=>rw [NM rfl] at p ⊢;exact p a l Q (e.mono g) λd v k j b i=>q d v k (g.trans j) b i
 | false=>rw [NL Ie] at p ⊢;exact p a l Q (e.mono g) λd v k j b i=>q d v k (g.trans j) b i
theorem fS (h:PEd K f ta ρ λx=>∃ c,x=.bool c/\if c=NS then PEd K f tb ρ P else P (.bool NV)):PEd K f (xI ta tb) ρ P:=λa H Q e q=>h a H _ e λx v b g r ⟨c,l,p⟩=>by
 subst l;refine⟨c,ya.mp r,?_⟩;cases c with
 | true=>rw [NM rfl] at p ⊢;exact p a b Q (e.mono g) λd v m k i j=>q d v m (g.trans k) i j
 | false=>rw [NL Ie] at p ⊢;exact q _ _ b g (ya.mpr rfl) p
theorem Aa (h:PEd K f ta ρ λx=>∃ c,x=.bool c/\P (.bool !c)):PEd K f (Ee ta) ρ P:=λa H Q e q=>h a H _ e λx v d g r ⟨c,b,p⟩=>by
 subst b;exact⟨c,ya.mp r,q _ _ d g (ya.mpr rfl) p⟩
theorem kJ {g g':Int->Int->Bool} (h:PEd K f ta ρ λx=>∃ i,x=.int i/\PEd K f tb ρ λy=>∃ j,y=.int j/\if g i j=NS then PEd K f tc ρ λz=>∃ k,z=.int k/\P (.bool (g' j k)) else P (.bool NV)) :
  PEd K f (oT (rI0 λi j=>.bl (g i j)) (rI0 λi j=>.bl (g' i j)) ta tb tc) ρ P:=λc H Q e q=>h c H _ e λx v F b p ⟨i,D,s⟩=>s c F _ (e.mono b) λy w n d l ⟨j,C,a⟩=>by
 subst D C;refine⟨i,j,zw.mp p,zw.mp l,g i j,rfl,?_⟩;by_cases m:g i j=NS
 ·rw [NM m] at a ⊢;exact a c n _ ((e.mono b).mono d) λz u E t o ⟨k,A,r⟩=>by
   subst A;exact⟨j,k,zw.mp l,zw.mp o,q _ _ E (b.trans (d.trans t)) (ya.mpr rfl) r⟩
 ·rw [NL m] at a ⊢;exact q _ _ n (b.trans d) (ya.mpr rfl) a
theorem sZ {t:TA} (h:PAd K f t ρ λxs=>(∃ ds,xs=[.dat (.list ds)]/\P (.int ds.length)) \/ (∃ ds,xs=[.dat (.tuple ds)]/\P (.int ds.length))) :
  PEd K f (tCB (λxs H Q=>∃ p ys,xs=[.ref p]/\(SqL K H p ys \/ SqT K H p ys)/\Q (.int ys.length) H) t) ρ P :=
 oZ λo H Q e q=>h o H Q e λxs b n g r p=>by
  rcases p with⟨ds,rfl,p⟩ | ⟨ds,rfl,p⟩
  ·refine q _ b n g r ⟨_,rfl,λb H Q m i k=>?_⟩;obtain⟨x,r,rfl,l,j⟩:=zE.mp i;rw [zQ.mp j];obtain⟨a,ys,rfl,d,c⟩:=zI.mp l;exact⟨a,ys,rfl,.inl ((zo _ _).seq d),k (.int ds.length) _ H (.refl m) (zw.mpr (by rw [c.length])) p⟩
  ·refine q _ b n g r ⟨_,rfl,λb H Q m i k=>?_⟩;obtain⟨x,r,rfl,l,j⟩:=zE.mp i;rw [zQ.mp j];obtain⟨a,ys,rfl,d,c⟩:=zZ.mp l;exact⟨a,ys,rfl,.inr ((zo _ _).seqT d),k (.int ds.length) _ H (.refl m) (zw.mpr (by rw [c.length])) p⟩
theorem o4 {t:TA} (h:PAd K f t ρ λxs=>∃ ns:Oh,xs=[.dat (.list (ns.map .int))]/\ns≠[]/\∀ M,M∈ns->(∀ b∈ns,M<=b)->P (.int M)) :
  PEd K f (tCB (λxs H Q=>∃ a ns,xs=[.ref a]/\SqL K H a (ns.map V.int)/\ns≠[]/\∀ M,M∈ns->(∀ b∈ns,M<=b)->Q (.int M) H) t) ρ P :=
 oZ λl H Q e q=>h l H Q e λxs i w g r ⟨ns,v,c,p⟩=>by
  subst v;refine q _ i w g r ⟨_,rfl,λi H Q u n k=>?_⟩;obtain⟨x,r,rfl,d,o⟩:=zE.mp n;rw [zQ.mp o];obtain⟨a,y,rfl,j,m⟩:=zI.mp d;rw [m.ints] at j;exact⟨a,ns,rfl,(zo _ _).seq j,c,λM s d=>k (.int M) _ H (.refl u) (zw.mpr rfl) (p M s d)⟩
theorem kK {t:TA} (h:PAd K f t ρ λxs=>∃ ns:Oh,xs=[.dat (.list (ns.map .int))]/\ns≠[]/\∀ M,M∈ns->(∀ b∈ns,b<=M)->P (.int M)) :
  PEd K f (tCB (λxs H Q=>∃ a ns,xs=[.ref a]/\SqL K H a (ns.map V.int)/\ns≠[]/\∀ M,M∈ns->(∀ b∈ns,b<=M)->Q (.int M) H) t) ρ P :=
 oZ λl H Q e q=>h l H Q e λxs i w g r ⟨ns,v,c,p⟩=>by
  subst v;refine q _ i w g r ⟨_,rfl,λi H Q u n k=>?_⟩;obtain⟨x,r,rfl,d,o⟩:=zE.mp n;rw [zQ.mp o];obtain⟨a,y,rfl,j,m⟩:=zI.mp d;rw [m.ints] at j;exact⟨a,ns,rfl,(zo _ _).seq j,c,λM s d=>k (.int M) _ H (.refl u) (zw.mpr rfl) (p M s d)⟩
theorem Fe {g:Int->Int->Int} {t:TA} (h:PAd K f t ρ λxs=>∃ i j,xs=[.dat (.int i),.dat (.int j)]/\P (.int (g i j))):PEd K f (tCB (λxs H Q=>∃ i j,xs=[.int i,.int j]/\Q (.int (g i j)) H) t) ρ P :=
 oZ λb H Q e q=>h b H Q e λxs a v o r ⟨i,j,u,p⟩=>by
  subst u;refine q _ a v o r ⟨_,rfl,λa H Q s c k=>?_⟩;obtain⟨x,r,rfl,n,m⟩:=zE.mp c;obtain⟨y,w,rfl,l,d⟩:=zE.mp m;rw [zQ.mp d,zw.mp n,zw.mp l];exact⟨i,j,rfl,k _ _ H (.refl s) (zw.mpr rfl) p⟩
theorem Ff {g:Int->Int} {t:TA} (h:PAd K f t ρ λxs=>∃ i,xs=[.dat (.int i)]/\P (.int (g i))):PEd K f (tCB (λxs H Q=>∃ i,xs=[.int i]/\Q (.int (g i)) H) t) ρ P :=
 oZ λb H Q e q=>h b H Q e λxs a o l r ⟨i,n,p⟩=>by
  subst n;refine q _ a o l r ⟨_,rfl,λa H Q m c k=>?_⟩;obtain⟨x,r,rfl,j,d⟩:=zE.mp c;rw [zQ.mp d,zw.mp j];exact⟨i,rfl,k _ _ H (.refl m) (zw.mpr rfl) p⟩
end
section
variable {K:Ih} {f:Fx} {ρ:zu} {D:DEnds} {te ta tb:TE} {tt:TT} {ts tu:TS}
theorem aQ (p:D.nx ρ):PSd K f sN ρ D:=λa H E e n _ _ _=>n ρ a H (.refl e.fd) e p
theorem yt (h:PSd K f ts ρ { D with nx:=λo=>PSd K f tu o D }):PSd K f (jK ts tu) ρ D:=λs H E e n r b c =>
 h s H { E with nx:=tu E } e (λo q w g u p=>p q w E u (λi a j m k l=>n i a j (g.trans m) k l) (λd v j m t l=>r d v j (g.trans m) t l) (λi a j m k l=>b i a j (g.trans m) k l) (λi a j m k l=>c i a j (g.trans m) k l)) r b c
theorem yD (h:PEd K f te ρ D.rt):PSd K f (g9 te) ρ D:=λa H E e n r b c=>h a H _ e r
theorem vG (h:PEd K f te ρ λ_=>D.nx ρ):PSd K f (sO te) ρ D:=λa H E e n r b c=>h a H _ e λd v i g _ p=>n ρ a i g (e.mono g) p
theorem eX (h:PTd K f tt ρ λb=>if b=NS then PSd K f ts ρ D else PSd K f tu ρ D):PSd K f (xK tt ts tu) ρ D:=λq H E e n r b c=>h q H _ e λk t g p=>by
 cases k with
 | true =>
  rw [NM rfl] at p ⊢;exact p q t E (e.mono g) (λi a j o l m=>n i a j (g.trans o) l m) (λd v j o s m=>r d v j (g.trans o) s m) (λi a j o l m=>b i a j (g.trans o) l m) (λi a j o l m=>c i a j (g.trans o) l m)
 | false =>
  rw [NL Ie] at p ⊢;exact p q t E (e.mono g) (λi a j o l m=>n i a j (g.trans o) l m) (λd v j o s m=>r d v j (g.trans o) s m) (λi a j o l m=>b i a j (g.trans o) l m) (λi a j o l m=>c i a j (g.trans o) l m)
def PGd (K:Ih) (f:Fx) (g:TG) (d:NR) (ρ:zu) (R:zu->Prop):Prop:=∀ (e:St) (H:Hp) (v:V) (Q:St->Hp->Prop),EnvOk K f ρ e H->Rep K (hide H f) d v->(∀ b a c,Goes f H c->EnvOk K f b a c->R b->Q a c)->g v e H Q
def Ab (K:Ih) (f:Fx) (g:TGs) (ds:Oo) (ρ:zu) (R:zu->Prop):Prop:=∀ (d:St) (H:Hp) (e:List V) (Q:St->Hp->Prop),EnvOk K f ρ d H->Reps K (hide H f) ds e->(∀ b a c,Goes f H c->EnvOk K f b a c->R b->Q a c)->g e d H Q
theorem zj {i:Nat} {d:NR} {R:zu->Prop} (h:R (ρ.set i (NQ (.dat d)))):PGd K f (yW i) d ρ R:=λa H v Q e r q=>q _ _ H (.refl e.fd) (e.set i (x:=.dat d) r) h
theorem zT {R:zu->Prop} (h:R ρ):Ab K f EN [] ρ R:=λa H b Q e r q=>⟨zQ.mp r,q ρ a H (.refl e.fd) e h⟩
theorem zq {g:TG} {n:TGs} {d:NR} {ds:Oo} {R:zu->Prop} (h:PGd K f g d ρ λc=>Ab K f n ds c R):Ab K f (sP g n) (d :: ds) ρ R:=λs H z Q e r q=>by
 obtain⟨x,j,rfl,v,u⟩:=zE.mp r;exact⟨x,j,rfl,h s H x _ e v λc i y o w p=>p i y j Q w (Reps.mono o.1 ds j u) λb a m k l t=>q b a m (o.trans k) l t⟩
theorem yo {n:Nat} {d:TGs} {ds:Oo} {R:zu->Prop} (i:ds.length=n) (h:Ab K f d ds ρ R):PGd K f (Cq K n d) (.tuple ds) ρ R:=λg H v Q e r q=>by
 obtain⟨a,b,rfl,j,c⟩:=zZ.mp r;exact⟨a,b,rfl,(zo _ _).seqT j,by rw [c.length];exact i,h g H b Q e c q⟩
theorem zY {g:TG} (h:PEd K f te ρ λd=>PGd K f g d ρ D.nx):PSd K f (ve te g) ρ D:=λj H E e n r b c =>
 h j H _ e λd v s k l m=>m j s v _ (e.mono k) l λi a t p q o=>n i a t (k.trans p) q o
end
section
variable {K:Ih} {f:Fx} {ρ:zu} {D:DEnds} {te ta tb:TE} {tt:TT} {ts tu:TS} {g:TG}
theorem o6 {t:TA} (h:PAd K f t ρ λxs=>∃ ds,xs=[.dat (.list ds)]/\∃ J:Nat->zu->Prop,J 0 ρ /\
   (∀ (i:Nat) d j,ds[i]?=NQ d->J i j->PGd K f g (.tuple [.int i,d]) j λB=>PSd K f ts B { D with nx:=J (i+1),ct:=J (i+1),bk:=D.nx })/\∀ j,J ds.length j->D.nx j) :
  PSd K f (xO (sX K t) g ts) ρ D:=λW H E e n r b c=>h W H _ e λxs vs H1 N r1 ⟨ds,ex,J,j0,js,jd⟩=>by
 subst ex;cases r1 with
 | cons Y r' =>
  cases r';obtain⟨a,xs,rfl,U,T⟩:=zI.mp Y;have R:=T.length;refine⟨a,rfl,⟨xs,(zo _ _).seq U⟩,xX (K:=K) (a:=a) (xs:=xs) (λi k o=>∃ j,EnvOk K f j k o/\Goes f H o/\Goes f H1 o/\J i j) ⟨ρ,e.mono N,N,.refl N.2,j0⟩ (λi k o _ ⟨j,A,w,m,p⟩=>(zo _ _).seq (m.1.seq U)) (λi y k o G P ⟨j,A,w,m,p⟩ Q=>?_) λk o ⟨j,A,w,_,p⟩=>n j k o w A (jd j (by rw [<-R];exact p))⟩;have S:i<ds.length:=by rw [<-R];exact (Ig.mp P).1
  obtain⟨z,O,X⟩:=T.get (Ia S);rw [P] at O;cases O;have L:Goes f o (upd o G (.tup [.int i,y])):=.of_same (yf Q _) A.fd;have Z:Rep K (hide (upd o G (.tup [.int i,y])) f) (.tuple [.int i,ds[i]]) (.ref G):=zZ.mpr ⟨G,_,rfl,.of (zG (fresh_ne A.fd Q) zy),.cons' (zw.mpr rfl) (.cons' (Rep.mono L.1 _ _ (Rep.mono m.1 _ _ X)) .nil')⟩;refine js i _ j (Ia S) p k _ _ _ (A.mono L) Z λB I H2 M e2 p2=>?_;have x:=L.trans M;exact p2 I H2 _ e2 (λl s F q C u=>⟨l,C,w.trans (x.trans q),m.trans (x.trans q),u⟩) (λd v F q r3 u=>r d v F (w.trans (x.trans q)) r3 u) (λl s F q C u=>n l s F (w.trans (x.trans q)) C u) (λl s F q C u=>⟨l,C,w.trans (x.trans q),m.trans (x.trans q),u⟩)
end
noncomputable def frD (fr:Om) (a:zu):zu:=fr.map λj=>(a[j]?).getD NW
noncomputable def ag (own:Nat) (fr:Om) (a:zu):zu:=KC own NW++frD fr a
noncomputable abbrev Fx.with (f:Fx) (D:Ij):Fx:=⟨f.f,D :: f.M⟩
section
variable {K:Ih} {f:Fx} {ρ:zu} {σ:St} {H H':Hp} {D:Ij} {o:HO}
theorem dQ {own:Nat} {fr:Om} (e:EnvOk K f ρ σ H):EnvOk K f (ag own fr ρ) (y9 own fr σ) H:=by
 refine⟨by unfold ag y9 frD;simp,λi x h=>?_,e.fd⟩;unfold ag frD at h;unfold y9;by_cases c:i<own
 ·rw [Iy (by simpa using c),K3] at h;split at h <;> cases h
 ·rw [IC (by simpa using c)] at h ⊢;simp only [LS,Iq] at h ⊢;cases hj:fr[i - own]? with
  | none=>rw [hj] at h;cases h
  | some j =>
   rw [hj] at h;have a:(ρ[j]?).getD NW=NQ x:=N1 h;have b:ρ[j]?=NQ (NQ x):=by
    cases q:ρ[j]? with
    | none=>rw [q] at a;cases a
    | some w=>rw [q] at a;exact congrArg NQ a
   obtain⟨v,g,d⟩:=e.get j x b;exact⟨v,by simp [g],d⟩
theorem yp:hide (upd H D o) (f.with D)=hide H (f.with D):=by
 funext b
 unfold hide;by_cases a:f.f=NQ b \/ b∈D :: f.M
 ·rw [NM a,NM a]
 ·rw [NL a,NL a];have:b≠D:=λz=>a (.inr (z▸Ik));exact zx this
theorem y4:Same (hide H (f.with D)) (hide H f):=λb o h=>by
 obtain⟨c,a⟩:=zW h;exact zG (λz=>c (z.elim .inl λz=>.inr (Ii _ z))) a
theorem jX (e:H D=NW):Same (hide H f) (hide (upd H D o) (f.with D)):=λb u h=>by
 obtain⟨d,c⟩:=zW h;have a:b≠D:=zN c e;exact zG (λz=>z.elim (λz=>d (.inl z)) λz=>(Iv.mp z).elim a λz=>d (.inr z)) (by rw [zx a];exact c)
theorem Ac (h:FOk f H) (g:H D=NW):FOk (f.with D) (upd H D o) :=
 ⟨λp e=>let⟨a,b,c,k⟩:=h.fd p e;⟨a,b,by rw [zx (zN c g)];exact c,k⟩,λb i=>by
  rcases Iv.mp i with rfl | i
  ·exact⟨_,zy⟩
  ·obtain⟨j,c⟩:=h.mm b i;exact⟨j,by rw [zx (zN c g)];exact c⟩,λp e d=>by
  rcases Iv.mp d with rfl | d
  ·exact fresh_ne h g (.inl e)
  ·exact h.nm p e d⟩
theorem kL (e:EnvOk K f ρ σ H) (c:H D=NW):EnvOk K (f.with D) ρ σ (upd H D o) :=
 ⟨e.len,λi x h=>let⟨v,l,b⟩:=e.get i x h;⟨v,l,by
  cases x with
  | dat d=>exact Rep.mono (jX c) d v b
  | feed=>exact b
  | own k =>
   obtain⟨p,g,j⟩:=b;refine⟨p,?_,j⟩;show (D :: f.M).reverse[k]?=NQ p;rw [ME,Iy (Ig.mp g).1];exact g
  | exc C =>
   obtain⟨a,g,j⟩:=b;exact⟨a,g,jX c _ _ j⟩
  | mon m=>exact λH' s=>b H' ((jX c).trans s)⟩,Ac e.fd c⟩
theorem kM (q:f.f≠NQ D) (e:EnvOk K (f.with D) ρ σ H):EnvOk K (f.with D) ρ σ (upd H D o) :=
 ⟨e.len,λi x h=>let⟨v,l,c⟩:=e.get i x h;⟨v,l,by
  cases x with
  | dat d =>
   have j:Rep K (hide H (f.with D)) d v:=c;show Rep K (hide (upd H D o) (f.with D)) d v;rw [yp];exact j
  | feed=>exact c
  | own k=>exact c
  | exc C =>
   obtain⟨a,t,r⟩:=c;refine⟨a,t,?_⟩;rw [yp];exact r
  | mon u =>
   intro H' s;rw [yp] at s;exact c H' s⟩,⟨λp m=>let⟨a,b,l,c⟩:=e.fd.fd p m;⟨a,b,by rw [zx (λz=>q (by rw [<-z];exact m))];exact l,c⟩,λb n=>by
   by_cases g:b=D
   ·subst g;exact⟨_,zy⟩
   ·rw [zx g];exact e.fd.mm b n,e.fd.nm⟩⟩
end
section
variable {K:Ih} {f:Fx} {ρ:zu} {P:NR->Prop} {te tl:TE} {tt:TT} {g:TG} {own:Nat} {fr:Om}
structure CSt (K:Ih) (f:Fx) (D:Ij) (H2:Hp) (ρ':zu) (es:Oo) (σ:St) (H:Hp):Prop where
 env:EnvOk K (f.with D) ρ' σ H
 sm:Same (hide H2 (f.with D)) (hide H (f.with D))
 kp:∀ b∈f.M,H b=H2 b
 lst:∃ vs,H D=NQ (.lst vs)/\Reps K (hide H (f.with D)) es vs
theorem CSt.go {D:Ij} {l H i:Hp} {h:zu} {es:Oo} {m:St} (c:CSt K f D l h es m H) (e:Goes (f.with D) H i) {d:zu} {a:St} (p:EnvOk K (f.with D) d a i):CSt K f D l d es a i :=
 ⟨p,c.sm.trans e.sm,λb k=>(e.kp b (Ii _ k)).trans (c.kp b k),let⟨j,o,n⟩:=c.lst;⟨j,(e.kp D Ik).trans o,Reps.mono e.sm es j n⟩⟩
theorem CSt.put {D:Ij} {j H:Hp} {a:zu} {es:Oo} {h:St} {d:NR} {v:V} {e:List V} (l:f.f≠NQ D) (k:D∉f.M) (c:CSt K f D j a es h H) (n:H D=NQ (.lst e)) (m:Reps K (hide H (f.with D)) es e) (r:Rep K (hide H (f.with D)) d v) :
  CSt K f D j a (es++[d]) h (upd H D (.lst (e++[v]))) :=
 ⟨kM l c.env,by rw [yp];exact c.sm,λb i=>(zx (λ(z:b=D)=>k (z▸i))).trans (c.kp b i),⟨_,zy,by rw [yp];exact m.snoc r⟩⟩
theorem iH {D:Ij} {A H:Hp} {j:zu} {es:Oo} {p:St} {d:NR} {v:V} {W:St->Hp->Prop} {R:zu->Oo->Prop} (J:f.f≠NQ D) (I:D∉f.M) (c:CSt K f D A j es p H) (O:es.length<1000) (r:Rep K (hide H (f.with D)) d v)
  (h:PGd K (f.with D) g d j λi=>PTd K (f.with D) tt i λb=>if b=NS then PEd K (f.with D) te i λe=>R i (es++[e]) else R i es)
  (s:∀ i k a B,CSt K f D A i k a B->R i k->W a B) :
  g v p H λa q=>tt a q λb o=>if b=NS then qT D te a o W else W a o:=by
 refine h p H v _ c.env r λi a q L l G=>?_;have N:=c.go L l;refine G a q _ l λb o n m=>?_;have z:=N.go n (l.mono n);cases b with
 | false =>
  rw [NL Ie] at m ⊢;exact s _ _ _ _ z m
 | true =>
  rw [NM rfl] at m ⊢;refine m a o _ (l.mono n) λe u Q x E F=>?_;have y:=z.go x ((l.mono n).mono x);obtain⟨C,w,t⟩:=y.lst;exact⟨C,w,z7 (by rw [t.length];lia),s _ _ _ _ (y.put J I w t E) F⟩
theorem fT {D:Ij} {d H:Hp} {h:zu} {es:Oo} {l σ':St} (i:d D=NW) (k:FOk f d) (c:CSt K f D (upd d D (.lst [])) h es l H):Goes f d H/\Rep K (hide H f) (.list es) (.ref D):=by
 obtain⟨j,s,r⟩:=c.lst;have m:=fresh_ne k i;refine⟨⟨((jX i).trans c.sm).trans y4,⟨c.env.fd.fd,λb a=>c.env.fd.mm b (Ii _ a),λp e n=>c.env.fd.nm p e (Ii _ n)⟩,λb a=>?_⟩,zI.mpr ⟨D,j,rfl,.of (zG m s),Reps.mono y4 es j r⟩⟩;rw [c.kp b a,zx];obtain⟨o,q⟩:=k.mm b a;exact zN q i
theorem b9 {D:Ij} {a:Hp} {b:St} (c:a D=NW) (e:EnvOk K f ρ b a):CSt K f D (upd a D (.lst [])) (ag own fr ρ) [] (y9 own fr b) (upd a D (.lst [])) :=
 ⟨kL (dQ e) c,Same.refl _,λ_ _=>rfl,⟨[],zy,.nil'⟩⟩
theorem Fg (h:PEd K f tl ρ λx=>∃ ds,x=.list ds/\ds.length<=1000/\∃ R:Nat->zu->Oo->Prop,R 0 (ag own fr ρ) [] /\
   (∀ D (i:Nat) d j es,ds[i]?=NQ d->R i j es->PGd K (f.with D) g d j λk=>PTd K (f.with D) tt k λb=>if b=NS then PEd K (f.with D) te k λe=>R (i+1) k (es++[e]) else R (i+1) k es) /\
   (∀ i j es,R i j es->es.length<=i)/\∀ j es,R ds.length j es->P (.list es)) :
  PEd K f (qz (ik K tl) own fr g tt λD=>qT D te) ρ P:=λL H Q e q=>h L H _ e λx v C u U ⟨ds,ex,hz,R,W,O,S,T⟩=>by
 subst ex;obtain⟨a,o,rfl,F,E⟩:=zI.mp U;have hl:=E.length;refine⟨a,rfl,⟨o,(zo _ _).seq F⟩,λD t=>?_⟩;have G:=fresh_ne u.2 t;have Z:f.f≠NQ D:=λz=>G (.inl z);have Y:D∉f.M:=λz=>G (.inr z);have e1:=e.mono u;have l:∀ {j:zu} {es:Oo} {σ':St} {n:Hp},CSt K f D (upd C D (.lst [])) j es σ' n->Same (hide C f) (hide n (f.with D)):=λc=>(jX t).trans c.sm;refine⟨λi m σ' n=>∃ j es,CSt K f D (upd C D (.lst [])) j es σ' n/\R i j es/\i<=ds.length/\m+i=ds.length,⟨ds.length,_,[],b9 t e1,W,IV _,rfl⟩,λi m σ' n ⟨j,es,c,p,hi,hm⟩=>?_⟩;have w:SqL K n a o:=(zo _ _).seq ((l c).seq F);by_cases s:i<ds.length
 ·obtain⟨z,r,N⟩:=E.get (Ia s);refine .inr ⟨⟨o,z,w,r⟩,λx H3 A=>?_⟩;obtain⟨rfl,A⟩:=A;have I:=A o w;rw [r] at I;cases I;refine iH (R:=R (i+1)) Z Y c (by have:=S i j es p;lia) (Rep.mono (l c) _ _ N) (O D i _ j es (Ia s) p) λk B J H4 c2 X=>?_;exact⟨m - 1,by lia,k,B,c2,X,by lia,by lia⟩
 ·have ei:i=ds.length:=by lia
  subst ei;obtain⟨ge,y⟩:=fT (σ':=σ') t u.2 c;exact .inl ⟨⟨o,w,by lia⟩,q _ _ n (u.trans ge) y (T j es p)⟩
theorem td (h:PEd K f tl ρ λx=>∃ ds,x=.list ds/\ds.length<=1000/\∃ R:Nat->NR->Prop,
   (∀ D (i:Nat) d,ds[i]?=NQ d->PEd K (f.with D) te (NQ (.dat d) :: frD fr ρ) (R i))/\∀ es:Oo,es.length=ds.length->(∀ (i:Nat) e,es[i]?=NQ e->R i e)->P (.list es)) :
  PEd K f (qz (ik K tl) 1 fr (yW 0) mK λD=>qT D te) ρ P :=
 Fg (h.imp λx ⟨ds,u,n,R,l,m⟩=>by
  refine⟨ds,u,n,λi a es=>(∃ x,a=x :: frD fr ρ)/\es.length=i/\∀ (k:Nat) e,es[k]?=NQ e->R k e,⟨⟨NW,rfl⟩,rfl,λk e h=>by simp at h⟩,λD i d a es s p=>?_,λi a es p=>Ku p.2.1,λa es p=>m es p.2.1 p.2.2⟩;obtain⟨⟨x,rfl⟩,r,o⟩:=p;refine zj ?_;intro v H Q e q;refine q NS H (.refl e.fd) ?_;dsimp only;rw [NM rfl];refine (l D i d s).imp λd t=>⟨⟨_,rfl⟩,by rw [IE,r];rfl,λk e b=>?_⟩;by_cases c:k<es.length
  ·rw [Iy c] at b;exact o k e b
  ·rw [IC (by lia)] at b;have j:k - es.length=0:=by
    have:=(Ig.mp b).1;simp at this;lia
   rw [j] at b;cases b;have:k=i:=by lia
   subst this;exact t)
end
section
variable {K:Ih} {f:Fx} {ρ:zu} {D:DEnds} {te:TE} {i:Nat}
theorem mS {l:St} {H:Hp} {p:Ij} {a b:Int} (e:EnvOk K f ρ l H) (g:f.f=NQ p) (h0:0<=a) (r:0<=b) (m:b<2147483647):Goes f H (upd H p (.lst [.int a,.int b])) :=
 have j:=e.fd.nm p g
 ⟨λx o h=>by
  obtain⟨n,c⟩:=zW h;exact zG n (by rw [zx (λz=>n (.inl (by rw [z];exact g)))];exact c),
 ⟨λq k=>by
   rw [g] at k;cases k;exact⟨a,b,zy,h0,r,m⟩,λx c=>by
   by_cases d:x=p
   ·subst d;exact absurd c j
   ·rw [zx d];exact e.fd.mm x c,e.fd.nm⟩,
λx c=>zx (λz=>j (z▸c))⟩
theorem Cy (s:ρ[i]?=NQ (NQ .feed)) (h:PEd K f te ρ λd=>∃ a:Int,d=.int a/\0<=a/\D.nx ρ):PSd K f (ve te (oQ (yB i) (tC (.int 0)) iD)) ρ D:=λj H E e n r b c=>h j H _ e λd v m g o ⟨a,z,x,p⟩=>by
 subst z;obtain⟨u,w,q,l,y⟩:=e.get i _ s;obtain⟨G,C,t,F,B,A⟩:=g.2.fd q l;refine⟨u,w,q,_,0,0,y,rfl,t,rfl,?_⟩;rw [zw.mp o];have k:Goes f m (upd m q (.lst [.int a,.int C])):=mS (e.mono g) l x B A;exact n ρ j _ (g.trans k) ((e.mono g).mono k) p
theorem Cz (t:ρ[i]?=NQ (NQ .feed)) (h:PEd K f te ρ λd=>∃ a:Int,d=.int a/\0<=a/\a<2147483647/\D.nx ρ):PSd K f (ve te (oQ (yB i) (tC (.int 1)) iD)) ρ D:=λk H E e n r b c=>h k H _ e λd v o g s ⟨a,A,y,j,p⟩=>by
 subst A;obtain⟨u,x,q,m,z⟩:=e.get i _ t;obtain⟨C,I,w,B,G,F⟩:=g.2.fd q m;refine⟨u,x,q,_,1,1,z,rfl,w,rfl,?_⟩;rw [zw.mp s];have l:Goes f o (upd o q (.lst [.int C,.int a])):=mS (e.mono g) m B y j;exact n ρ k _ (g.trans l) ((e.mono g).mono l) p
end
theorem vO {X:Cx} {x:Str} {i:Int} {t:Tok} {pos:Pos} (hg:Gl X x) (a:X.mg x=NQ (.int i t)) (b:(x == ("__debug__":Str))=NV:=by decide):PE X (.Name x pos) (tC (.int i)):=jA hg a ⟨t,rfl⟩ b
noncomputable def jC (N:Oa) (xs:List DV):zu:=xs.map NQ++KC (N.length - xs.length) NW
theorem y6 {K:Ih} {f:Fx} {H:Hp} {N:Oa} {xs:List DV} {a:List V} (r:RepVs K f H xs a) (j:FOk f H):EnvOk K f (jC N xs) (start N a) H:=by
 have g:=r.length;refine⟨by unfold jC start;simp [g],λi x h=>?_,j⟩;unfold jC at h;unfold start;have get:∀ {xs:List DV} {a:List V} {i:Nat} {x:DV},RepVs K f H xs a->xs[i]?=NQ x->∃ v,a[i]?=NQ v/\RepV K f H x v:=by
  intro xs a i x r
  induction r generalizing i with
  | nil=>intro h;simp at h
  | cons e k ih =>
   intro h;cases i with
   | zero=>simp at h;subst h;exact⟨_,rfl,e⟩
   | succ i=>simp at h;obtain⟨v,c,b⟩:=ih h;exact⟨v,by simpa using c,b⟩
 by_cases d:i<xs.length
 ·rw [Iy (by simpa using d),Iq] at h;cases q:xs[i]? with
  | none=>rw [q] at h;cases h
  | some y =>
   rw [q] at h;cases h;obtain⟨v,c,b⟩:=get r q;exact⟨v,by rw [Iy (by simp;lia),Iq,c];rfl,b⟩
 ·rw [IC (by simpa using d),K3] at h;split at h <;> cases h
structure Def (K:Ih) (mg:Str->N7) (x:Str) (st:Stmt) (ps:Oa):Prop where
 ex:∃ (f:Ij) (fd:FuncData),Fun K x x st f fd/\Binds K fd ps []/\mg x=NQ (.ref f)
structure FnIn (P:NY) (w:NX) (K:Ih) (mg:Str->N7) (base:Heap) (k:Nat) (x:Str) (ps:Oa) (sp:Sp):Prop where
 ex:∃ (f:Ij) (fd:FuncData),FnOk P w K mg base CX0 k f fd ps sp/\mg x=NQ (.ref f)/\JW K (.ref f)=NS/\Binds K fd ps []
section
variable {P:NY} {w:NX} {K:Ih} {mg:Str->N7} {base:Heap} {j k n:Nat} {x:Str} {st:Stmt} {ps N:Oa} {γ:Type} {pre:γ->List DV->Prop} {post:γ->NR->Prop} {sp:Sp}
theorem FnIn.mono (h:FnIn P w K mg base j x ps sp) (e:j<=k):FnIn P w K mg base k x ps sp :=
 let⟨f,g,a,b,c,d⟩:=h.ex;⟨f,g,a.mono e,b,c,d⟩
theorem Def.ok (F:Def K mg x st ps) (S:FnScope N ps (zi st)) (C:ps.length=n)
  (h:∀ (e:Ij) (b:NT) (A:NZ) (a:Ob) (s:NU) (H:Hp) (E:XK),Room k (A.deeper (envOfC x (zi st) s.heap.objs.size e b)) ->
   ∃ t,PSs (zV CX0 P w K mg base N x (zi st) e b A a s H E).nox (ym st) t/\∀ (f:Fx) (xs:List DV) (c:γ),xs.length=n->pre c xs->PSd K f t (jC N xs) { nx:=λ_=>post c .none,rt:=post c }) :
  FnIn P w K mg base (k+1) x ps (spD K n pre post):=by
 obtain⟨e,J,o,F2,L⟩:=F.ex;refine⟨e,J,o.ok S (λm H Q E h=>?_) (λb A a s H m Q E y u=>?_),L,o.kp,F2⟩
 ·obtain⟨f,xs,c,r,i,_⟩:=h;rw [r.length,i,C]
 ·obtain⟨f,xs,c,r,i,I,B,q⟩:=u;obtain⟨t,G,D⟩:=h e b A a s H E y;exact⟨t,G,D f xs c i B (start N m) H _ (y6 r I) (λ_ _ l g _ p=>q .none _ l g (j9.mpr rfl) p) (λd v l g r p=>q d v l g r p) (λ_ _ _ _ _ z=>z.elim) (λ_ _ _ _ _ z=>z.elim)⟩
theorem Def.raw (F:Def K mg x st ps) (S:FnScope N ps (zi st)) (e:∀ c H Q E,sp c H Q E->c.length=ps.length)
  (h:∀ (d:Ij) (b:NT) (A:NZ) (a:Ob) (s:NU) (H:Hp) (c:List V) (Q:VK) (E:XK),Room k (A.deeper (envOfC x (zi st) s.heap.objs.size d b))->sp c H Q E ->
   ∃ t,PSs (zV CX0 P w K mg base N x (zi st) d b A a s H E).nox (ym st) t/\t { nx:=λ_ m=>Q .non m,rt:=Q } (start N c) H) :
  FnIn P w K mg base (k+1) x ps sp:=by
 obtain⟨d,l,f,F2,o⟩:=F.ex;exact⟨d,l,f.ok S e (λb A a s H c Q E i g=>h d b A a s H c Q E i g),o,f.kp,F2⟩
theorem zg {X:Cx} {e:Expr} {es:Od} {t:TA} {p pos:Pos} (G:FnIn X.prog X.w X.K X.mg X.base k x ps sp) (i:Room k X.A) (hg:Gl X x) (m:PA X (e :: es) t) (h:(x == ("__debug__":Str))=NV:=by decide)
  (l:Jg (e :: es) X.env=(NV,eval e X.env) :: Jg es X.env:=by rfl) (g:(backTo pos (Jg es X.env)).any (·.1)=NV:=by rfl):PE X (.Call (.Name x p) (e :: es) [] pos) (bP sp [] E0 t):=by
 obtain⟨f,o,a,b,c,d⟩:=G.ex;exact sR a i hg b c d .nil GW m h l g
end
section
variable {K:Ih} {f:Fx} {ρ:zu} {σ:St} {H:Hp} {E:Ends} {ts tu:TS} {D:DEnds}
theorem Ad (h:PSd K f ts ρ D) (e:EnvOk K f ρ σ H) (g:∀ a σ' b,Goes f H b->EnvOk K f a σ' b->D.nx a->tu E σ' b) (c:∀ d v b,Goes f H b->Rep K (hide b f) d v->D.rt d->E.rt v b) (j:∀ ρ,¬ D.bk ρ) (i:∀ ρ,¬ D.ct ρ):jK ts tu E σ H :=
 h σ H { E with nx:=tu E } e g c (λa _ _ _ _ p=>(j a p).elim) (λa _ _ _ _ p=>(i a p).elim)
theorem Ae {c:TA} {Q:VK} {R:Oo->Prop} (h:PAd K f c ρ λxs=>∃ ds,af xs=NQ ds/\ds.length<=1000/\R ds) (e:EnvOk K f ρ σ H)
  (q:∀ p ds b a,Goes f H a->a p=NW->Reps K (hide a f) ds b->R ds->Q (.ref p) (upd a p (.lst b))):uZ c σ H Q :=
 h σ H _ e λxs b a k g ⟨ds,m,j,p⟩=>by
  have d:=bq g m;exact⟨by rw [d.length];exact JL (z7 j),λl i=>q l ds b a k i d p⟩
end
section
variable {K:Ih} {f:Fx} {ρ:zu}
theorem Goes.free {H e:Hp} {p:Ij} (g:Goes f H e) (i:FOk f H) (h:e p=NW):H p=NW:=by
 cases q:H p with
 | none=>rfl
 | some o =>
  by_cases c:f.f=NQ p \/ p∈f.M
  ·rcases c with c | c
   ·obtain⟨a,b,d,_⟩:=g.ok.fd p c;rw [h] at d;cases d
   ·rw [g.kp p c,q] at h;cases h
  ·have:=zW (g.sm p o (zG c q));rw [h] at this;cases this.2
def PEdL (K:Ih) (f:Fx) (e:TE) (ρ:zu) (P:Oo->Prop):Prop:=∀ (b:St) (H:Hp) (Q:VK),EnvOk K f ρ b H ->
 (∀ d D c a,Goes f H a->H D=NW->a D=NQ (.lst c)->Reps K (hide a f) d c->P d->Q (.ref D) a)->e b H Q
theorem PEdL.ped {a:TE} {P:NR->Prop} (h:PEdL K f a ρ λes=>P (.list es)):PEd K f a ρ P:=λb H Q e q=>h b H Q e λes D c i g n d r p =>
 q (.list es) _ i g (zI.mpr ⟨D,c,rfl,.of (zG (fresh_ne e.fd n) d),r⟩) p
end
structure TabAt (H:Hp) (a:Ij) (as:N8) (NI:Ot):Prop where
 top:H a=NQ (.lst (as.map .ref))
 nd:(a :: as).Nodup
 len:as.length=NI.length
 row:∀ (i:Nat) x r,as[i]?=NQ x->NI[i]?=NQ r->H x=NQ (.lst (r.map .int))
def GZ (K:Ih) (f:Fx) (h:TE) (g:zu) (P:Ot->Prop):Prop:=∀ (c:St) (H:Hp) (Q:VK),EnvOk K f g c H ->
 (∀ e a d b,Goes f H b->H a=NW->(∀ x∈d,H x=NW)->TabAt b a d e->P e->Q (.ref a) b)->h c H Q
section
variable {K:Ih} {f:Fx} {ρ:zu} {te tl:TE} {fr:Om}
theorem Af {J:It} {n:Nat} {dd:Nat->NR} {R:Nat->Oh->Prop} {D:Ij} {j:Hp} {σ:St} {Q:VK} (N:j D=NW) (Y:EnvOk K f ρ σ j) (hz:n<=1000)
  (hJ:∀ (i:Nat) c,Same (hide j f) (hide c (f.with D))->(i<n->J.go i c/\∀ x v,J.yld i c x v->v=c/\Rep K (hide c (f.with D)) (dd i) x)/\(i=n->J.stop i c))
  (hte:∀ i,i<n->PEdL K (f.with D) te (NQ (.dat (dd i)) :: frD fr ρ) λes=>∃ ns:Oh,es=ns.map .int/\R i ns)
  (hQ:∀ NI d c,Goes f j c->(∀ x∈d,j x=NW)->TabAt c D d NI->NI.length=n->(∀ (k:Nat) r,NI[k]?=NQ r->R k r)->Q (.ref D) c) :
  cJ J (yW 0) mK (qT D te) (y9 1 fr σ) (upd j D (.lst [])) λ_ H2=>Q (.ref D) H2:=by
 have nD:=fresh_ne Y.fd N;have hD:f.f≠NQ D:=λz=>nD (.inl z);have hM:D∉f.M:=λz=>nD (.inr z);have fo2:FOk (f.with D) (upd j D (.lst [])):=Ac Y.fd N;refine⟨λi m w c=>i<=n/\m+i=n/\∃ y d NI,EnvOk K (f.with D) (y :: frD fr ρ) w c/\Same (hide (upd j D (.lst [])) (f.with D)) (hide c (f.with D))/\(∀ b∈f.M,c b=(upd j D (.lst [])) b)/\(∀ p,c p=NW->(upd j D (.lst [])) p=NW) /\
   c D=NQ (.lst (d.map .ref))/\d.Nodup/\D∉d/\(∀ x∈d,(upd j D (.lst [])) x=NW)/\d.length=i/\NI.length=i/\(∀ (k:Nat) x r,d[k]?=NQ x->NI[k]?=NQ r->c x=NQ (.lst (r.map .int)))/\∀ (k:Nat) r,NI[k]?=NQ r->R k r,
  ⟨n,IV _,rfl,NW,[],[],kL (dQ (own:=1) (fr:=fr) Y) N,Same.refl _,λ_ _=>rfl,λ_ h=>h,zy,JC,by simp,(λx a=>by cases a),rfl,rfl,(λk x r h=>by simp at h),λk r h=>by simp at h⟩,?_⟩
 rintro i m w c ⟨hi,hm,y,d,NI,t,sm,kp,T,top,nd,g,C,la,W,A,hR⟩;have G:Same (hide j f) (hide c (f.with D)):=(jX N).trans sm;obtain⟨jg,js⟩:=hJ i c G;by_cases O:i<n
 ·obtain⟨go,yl⟩:=jg O;refine .inr ⟨go,λx v hy=>?_⟩;obtain⟨rfl,rx⟩:=yl x v hy;unfold yW mK;dsimp only;rw [NM rfl];unfold qT;have q:EnvOk K (f.with D) (NQ (.dat (dd i)) :: frD fr ρ) (w.set 0 (NQ x)) v:=t.set 0 (x:=.dat (dd i)) rx;refine hte i O _ v _ q λes Dn vs H4 F U h4 r4 ⟨ns,hes,hRn⟩=>?_;subst hes;have evs:vs=ns.map V.int:=r4.ints;subst evs;have S:Dn≠D:=λz=>by rw [z,top] at U;cases U
  have I:∀ x∈d,∀ o,v x=NQ o->H4 x=NQ o:=λx a o X=>(zW (F.sm x o (zG (fresh_ne fo2 (C x a)) X))).2;have s:∀ x∈d,∃ o,v x=NQ o:=λx a=>by
   obtain⟨k,P,ek⟩:=Kr a;exact⟨_,A k x _ (by rw [Ia P,ek]) (Ia (by lia))⟩
  have Z:Dn∉d:=λa=>by
   obtain⟨o,X⟩:=s Dn a;rw [U] at X;cases X
  refine⟨d.map .ref,(F.kp D Ik).trans top,z7 (by rw [Ib];lia),m - 1,by lia,by lia,by lia,NQ (.dat (dd i)),d++[Dn],NI++[ns],kM hD (q.mono F),?_,?_,?_,?_,?_,?_,?_,?_,?_,?_,?_⟩
  ·rw [yp (H:=H4)];exact sm.trans F.sm
  ·exact λb u=>(zx (λ(z:b=D)=>hM (z▸u))).trans ((F.kp b (Ii _ u)).trans (kp b u))
  ·intro p E;by_cases L:p=D
   ·subst L;rw [zy] at E;cases E
   ·rw [zx L] at E;exact T p (F.free q.fd E)
  ·rw [zy,IM];rfl
  ·exact Jw.mpr ⟨nd,by simp,λx a z hz=>by
    have:z=Dn:=by simpa using hz
    subst this;exact λe=>Z (e▸a)⟩
  ·simp [g,JM S]
  ·intro x a;rcases Iz.mp a with a | a
   ·exact C x a
   ·have:x=Dn:=by simpa using a
    subst this;exact T _ U
  ·simp [la]
  ·simp [W]
  ·intro k x r a l;have hxm:=Ir a;have hxD:x≠D:=by
    rintro rfl;rcases Iz.mp hxm with hx' | hx'
    ·exact g hx'
    ·have:x=Dn:=by simpa using hx'
     exact S this.symm
   rw [zx hxD];by_cases P:k<d.length
   ·rw [Iy P] at a;rw [Iy (by lia)] at l;exact I x (Ir a) _ (A k x r a l)
   ·have B:k=d.length:=by
     have:=(Ig.mp a).1;simp at this;lia
    subst B;rw [IC (Iu _)] at a;rw [IC (by lia)] at l;simp only [Kv,Lx] at a;rw [la,<- W,Kv,Lx] at l;cases a;cases l;exact h4
  ·intro k r l;by_cases P:k<NI.length
   ·rw [Iy P] at l;exact hR k r l
   ·have B:k=NI.length:=by
     have:=(Ig.mp l).1;simp at this;lia
    subst B;rw [IC (Iu _),Kv,Lx] at l;cases l;rw [W];exact hRn
 ·have ei:i=n:=by lia
  subst ei;refine .inl ⟨js rfl,hQ NI d c ⟨G.trans y4,⟨t.fd.fd,λb u=>t.fd.mm b (Ii _ u),λp e E=>t.fd.nm p e (Ii _ E)⟩,λb u=>?_⟩ (λx a=>?_) ⟨top,Jp.mpr ⟨g,nd⟩,by lia,A⟩ W hR⟩
  ·rw [kp b u,zx];obtain⟨o,h3⟩:=Y.fd.mm b u;exact zN h3 N
  ·have:=C x a;rw [zx (λ(z:x=D)=>g (z▸a))] at this;exact this
theorem CA {t:TA} {P:Ot->Prop} (h:PAd K f t ρ λxs=>∃ j:Int,xs=[.dat (.int j)]/\j<=1000/\-1000<=j/\∃ R:Nat->Oh->Prop,
   (∀ D (i:Nat),(i:Int)<j->PEdL K (f.with D) te (NQ (.dat (.int i)) :: frD fr ρ) λes=>∃ ns:Oh,es=ns.map .int/\R i ns)/\∀ NI,NI.length=j.toNat->(∀ (k:Nat) r,NI[k]?=NQ r->R k r)->P NI) :
  GZ K f (qz (mF t) 1 fr (yW 0) mK λD=>qT D te) ρ P:=λl H Q e q=>h l H _ e λxs L J b v ⟨j,G,N,M,R,s,u⟩=>by
 subst G;cases v with
 | @cons _ m _ _ p w =>
  cases w;have c:Rep K (hide J f) (.int j) m:=p;refine⟨j,by rw [zw.mp c],by lia,by lia,λD d=>?_⟩;refine Af (n:=j.toNat) (dd:=λi=>.int i) (R:=R) d (e.mono b) (by lia) (λi g _=>⟨λa=>⟨a,λx O z=>?_⟩,λa=>Ku a.symm⟩) (λi a=>s D i (by lia)) λNI I g E F o B C=>?_
  ·obtain⟨rfl,rfl⟩:=z;have y:(0:Int)+(i:Int)=(i:Int):=NC _;exact⟨rfl,by rw [y];exact (zw (K:=K)).mpr rfl⟩
  ·exact q NI D I g (b.trans E) (b.free e.fd d) (λx A=>b.free e.fd (F x A)) o (u NI B C)
theorem TabAt.rep {H:Hp} {a:Ij} {b:N8} {NI:Ot} (t:TabAt H a b NI) (k:¬ (f.f=NQ a \/ a∈f.M)) (c:∀ x∈b,¬ (f.f=NQ x \/ x∈f.M)):Rep K (hide H f) (.list (NI.map λr=>.list (r.map .int))) (.ref a):=by
 refine zI.mpr ⟨a,_,rfl,.of (zG k t.top),?_⟩;have e:∀ (b:N8) (NI:Ot),b.length=NI.length->(∀ x∈b,¬ (f.f=NQ x \/ x∈f.M))->(∀ (i:Nat) x r,b[i]?=NQ x->NI[i]?=NQ r->H x=NQ (.lst (r.map .int)))->Reps K (hide H f) (NI.map λr=>.list (r.map .int)) (b.map .ref):=by
  intro b
  induction b with
  | nil=>intro NI d _ _;cases NI with
   | nil=>exact .nil'
   | cons r g=>cases d
  | cons x b ih =>
   intro NI d c h;cases NI with
   | nil=>cases d
   | cons r g =>
    exact .cons' (zI.mpr ⟨x,_,rfl,.of (zG (c x Ik) (h 0 x r rfl rfl)),Reps.ints' r⟩) (ih g (by simpa using d) (λy j=>c y (Ii _ j)) λi y q m l=>h (i+1) y q (by simpa using m) (by simpa using l))
 exact e b NI t.len c t.row
end
section
variable {K:Ih} {f:Fx} {ρ:zu} {P:Oo->Prop} {te tl:TE} {tt:TT} {g:TG} {own:Nat} {fr:Om}
theorem Ag {t:TA} (h:PAd K f t ρ λxs=>∃ j:Int,xs=[.dat (.int j)]/\j<=1000/\-1000<=j/\∃ R:Nat->zu->Oo->Prop,R 0 (ag own fr ρ) [] /\
   (∀ D (i:Nat) a es,(i:Int)<j->R i a es->PGd K (f.with D) g (.int i) a λd=>PTd K (f.with D) tt d λb=>if b=NS then PEd K (f.with D) te d λe=>R (i+1) d (es++[e]) else R (i+1) d es) /\
   (∀ i a es,R i a es->es.length<=i)/\∀ a es,R j.toNat a es->P es) :
  PEdL K f (qz (mF t) own fr g tt λD=>qT D te) ρ P:=λA H Q e q=>h A H _ e λxs n w k I ⟨j,Z,b1,b2,R,J,E,F,G⟩=>by
 subst Z;cases I with
 | @cons _ B _ _ C L =>
  cases L;have o:Rep K (hide w f) (.int j) B:=C;refine⟨j,by rw [zw.mp o],by lia,by lia,λD l=>?_⟩;have v:=fresh_ne k.2 l;have U:f.f≠NQ D:=λz=>v (.inl z);have T:D∉f.M:=λz=>v (.inr z);have e1:=e.mono k;refine⟨λi m σ' u=>∃ a es,CSt K f D (upd w D (.lst [])) a es σ' u/\R i a es/\i<=j.toNat/\m+i=j.toNat,⟨j.toNat,_,[],b9 l e1,J,IV _,rfl⟩,λi m σ' u ⟨a,es,c,p,hi,hm⟩=>?_⟩;by_cases r:i<j.toNat
  ·refine .inr ⟨r,λx H3 S=>?_⟩;obtain⟨rfl,rfl⟩:=S;have O:(0:Int)+(i:Int)=(i:Int):=NC _;rw [O];refine iH (R:=R (i+1)) U T c (by have:=F i a es p;lia) ((zw (K:=K)).mpr rfl) (E D i a es (by lia) p) λd s y H4 c2 N=>?_;exact⟨m - 1,by lia,d,s,c2,N,by lia,by lia⟩
  ·have ei:i=j.toNat:=by lia
   subst ei;obtain⟨Y,_⟩:=fT (σ':=σ') l k.2 c;obtain⟨n,X,W⟩:=c.lst;exact .inl ⟨Iu _,q es D n u (k.trans Y) (k.free e.fd l) X (Reps.mono y4 es n W) (G a es p)⟩
theorem wk {t:TA} (h:PAd K f t ρ λxs=>∃ j:Int,xs=[.dat (.int j)]/\j<=1000/\-1000<=j/\∃ R:Nat->NR->Prop,
   (∀ D (i:Nat),(i:Int)<j->PEd K (f.with D) te (NQ (.dat (.int i)) :: frD fr ρ) (R i))/\∀ es:Oo,es.length=j.toNat->(∀ (i:Nat) e,es[i]?=NQ e->R i e)->P es) :
  PEdL K f (qz (mF t) 1 fr (yW 0) mK λD=>qT D te) ρ P :=
 Ag λm H Q e q=>h m H Q e λxs n E z s ⟨j,A,C,B,R,o,r⟩=>by
  refine q xs n E z s ⟨j,A,C,B,λi a es=>(∃ x,a=x :: frD fr ρ)/\es.length=i/\∀ (k:Nat) e,es[k]?=NQ e->R k e,⟨⟨NW,rfl⟩,rfl,λk e h=>by simp at h⟩,λD i a es w p=>?_,λi a es p=>Ku p.2.1,λa es p=>r es p.2.1 p.2.2⟩;obtain⟨⟨x,rfl⟩,v,u⟩:=p;refine zj ?_;intro m H Q e q;refine q NS H (.refl e.fd) ?_;dsimp only;rw [NM rfl];refine (o D i w).imp λd y=>⟨⟨_,rfl⟩,by rw [IE,v];rfl,λk e b=>?_⟩;by_cases c:k<es.length
  ·rw [Iy c] at b;exact u k e b
  ·rw [IC (by lia)] at b;have l:k - es.length=0:=by
    have:=(Ig.mp b).1;simp at this;lia
   rw [l] at b;cases b;have:k=i:=by lia
   subst this;exact y
end
section
variable {X:Cx} {K:Ih}
theorem zM (a:X.K=K):IxR X (mI K):=a▸Cu
theorem jk (a:X.K=K):IxR X (u9 K):=a▸E1
theorem yM (a:X.K=K):yJ X (.builtin "len") (λxs H Q=>∃ p ys,xs=[.ref p]/\(SqL K H p ys \/ SqT K H p ys)/\Q (.int ys.length) H):=a▸kF
theorem ql (a:X.K=K):yJ X (.type "tuple") (λxs H Q=>∃ p ys,xs=[.ref p]/\((SqL K H p ys/\∀ l,H l=NW->Q (.ref l) (upd H l (.tup ys))) \/ (SqT K H p ys/\Q (.ref p) H))):=a▸hU
theorem dR (d:X.K=K) (c:X.calm=NS):yJ X (.builtin "min") (λxs H Q=>∃ a ns,xs=[.ref a]/\SqL K H a (ns.map V.int)/\ns≠[]/\∀ M,M∈ns->(∀ b∈ns,M<=b)->Q (.int M) H):=d▸we c
theorem br (d:X.K=K) (c:X.calm=NS):yJ X (.builtin "max") (λxs H Q=>∃ a ns,xs=[.ref a]/\SqL K H a (ns.map V.int)/\ns≠[]/\∀ M,M∈ns->(∀ b∈ns,b<=M)->Q (.int M) H):=d▸wg c
theorem jD (b:X.K=K) (a:X.A.units+64<JR):OpR X (JI .Eq) (xY K NV):=b▸E6 a
theorem fU (b:X.K=K) (a:X.A.units+64<JR):OpR X (JI .NotEq) (xY K NS):=b▸E7 a
variable {tg l e st:Expr} {tl te ts:TE} {ta:TA} {p pos p2:Pos}
theorem zK (b:X.K=K) (a:PE X l tl):PI X tg l (ik K tl):=b▸Cr a
theorem cK (b:X.K=K) (a:PE X l tl):PI X tg l (ER K tl):=b▸ES a
theorem fV {es:Od} {k:Nat} {a:Pos} (f:X.K=K) (hg:Gl X "enumerate") (c:X.mg "enumerate"=NW) (d:PA X [l] ta) (b:Jg [l] X.env=[(NV,eval l X.env)]:=by rfl):PI X (.Tuple es k a) (.Call (.Name "enumerate" p) [l] [] pos) (sX K ta):=f▸Cv hg c d b
theorem yn (d:X.K=K) (c:PE X e te) (b:∀ a,isTrue e X.env a=(do let v <- a;standAt e.pos;holding [v] (truthy v))):PT X e (Fc K te):=d▸Fd c b
theorem zJ {es:Od} {k:Nat} {t:TGs} {n:Nat} (d:X.K=K) (c:X.calm=NS) (h:PGs X es t) (b:(assignEach es X.env).length=n:=by rfl) (a:(assignEach es X.env).findIdx? (·.1)=NW:=by rfl):PG X (.Tuple es k pos) (Cq K n t):=d▸EO c h b a
end
structure ItD (K:Ih) (f:Fx) (ds:Oo) (J:It) (H1:Hp):Prop where
 go:∀ (f':Fx) (H':Hp) (i:Nat) d,FOk f' H'->Same (hide H1 f) (hide H' f')->ds[i]?=NQ d->J.go i H'/\∀ x H3,J.yld i H' x H3->Goes f' H' H3/\Rep K (hide H3 f') d x
 st:∀ (f':Fx) (H':Hp),FOk f' H'->Same (hide H1 f) (hide H' f')->J.stop ds.length H'
def PId (K:Ih) (f:Fx) (e:TI) (d:zu) (R:Oo->Prop):Prop:=∀ (b:St) (H:Hp) (C:It->Hp->Prop),EnvOk K f d b H ->
 (∀ c J a,Goes f H a->ItD K f c J a->R c->C J a)->e b H C
noncomputable def aR (n:Nat):Oo:=(IQ n).map λ(i:Nat)=>.int (i:Int)
noncomputable def ah (i j:Int):Oo:=(IQ (j - i).toNat).map λ(k:Nat)=>.int (i+(k:Int))
noncomputable def cM (ds:Oo):Oo:=ds.mapIdx λi d=>.tuple [.int (i:Int),d]
section
variable {K:Ih} {f:Fx} {ρ:zu} {R:Oo->Prop} {tl:TE} {t:TA}
theorem PId.imp {a:TI} {b:Oo->Prop} (h:PId K f a ρ R) (i:∀ ds,R ds->b ds):PId K f a ρ b:=λc H C e q=>h c H C e λds J j g d r=>q ds J j g d (i ds r)
theorem cN (h:PAd K f t ρ λxs=>∃ j:Int,xs=[.dat (.int j)]/\-(2 ^ 62)<=j/\j<2 ^ 62/\R (aR j.toNat)):PId K f (mF t) ρ R:=λk H C e q=>h k H _ e λxs B g v n ⟨j,z,s,r,p⟩=>by
 subst z;cases n with
 | @cons _ l _ _ m o =>
  cases o;have b:Rep K (hide g f) (.int j) l:=m;refine⟨j,by rw [zw.mp b],s,r,q _ _ g v ⟨λy A i d w _ a=>?_,λy A _ _=>?_⟩ p⟩
  ·unfold aR at a;rw [Iq] at a;by_cases c:i<j.toNat
   ·rw [J6 c] at a;cases a;refine⟨c,λx D u=>?_⟩;obtain⟨rfl,rfl⟩:=u;exact⟨.refl w,zw.mpr (by rw [NC])⟩
   ·rw [Jf (by rw [Jh];lia)] at a;cases a
  ·show j.toNat<=(aR j.toNat).length;unfold aR;rw [Ib,Jh];exact Iu _
theorem Ah (h:PAd K f t ρ λxs=>∃ i j:Int,xs=[.dat (.int i),.dat (.int j)]/\(-(2 ^ 62)<=i/\i<2 ^ 62/\-(2 ^ 62)<=j/\j<2 ^ 62)/\R (ah i j)):PId K f (Ef t) ρ R:=λn H C e q=>h n H _ e λxs G l A v ⟨i,j,E,y,p⟩=>by
 subst E;cases v with
 | @cons _ r _ _ u w =>
  cases w with
  | @cons _ o _ _ s g =>
   cases g;have c:Rep K (hide l f) (.int i) r:=u;have b:Rep K (hide l f) (.int j) o:=s;refine⟨i,j,by rw [zw.mp c,zw.mp b],y,q _ _ l A ⟨λD F k d B _ a=>?_,λD F _ _=>?_⟩ p⟩
   ·unfold ah at a;rw [Iq] at a;by_cases m:k<(j - i).toNat
    ·rw [J6 m] at a;cases a;refine⟨m,λx I z=>?_⟩;obtain⟨rfl,rfl⟩:=z;exact⟨.refl B,zw.mpr rfl⟩
    ·rw [Jf (by rw [Jh];lia)] at a;cases a
   ·show (j - i).toNat<=(ah i j).length;unfold ah;rw [Ib,Jh];exact Iu _
theorem yg (h:PEd K f tl ρ λx=>∃ ds,x=.list ds/\R ds):PId K f (ik K tl) ρ R:=λr H C e q=>h r H _ e λx v F A u ⟨ds,E,p⟩=>by
 subst E;obtain⟨a,b,rfl,j,m⟩:=zI.mp u;have w:=m.length;refine⟨a,rfl,⟨b,(zo _ _).seq j⟩,q ds _ F A ⟨λD o i d B c y=>?_,λD o _ c=>⟨b,(zo _ _).seq (c.seq j),Ku w⟩⟩ p⟩;obtain⟨z,l,s⟩:=m.get y;have k:SqL K o a b:=(zo _ _).seq (c.seq j);refine⟨⟨b,z,k,l⟩,λx G g=>?_⟩;obtain⟨rfl,g⟩:=g;have n:=g b k;rw [l] at n;cases n;exact⟨.refl B,Rep.mono c _ _ s⟩
theorem mT (h:PEd K f tl ρ λx=>∃ ds,x=.tuple ds/\R ds):PId K f (ER K tl) ρ R:=λr H C e q=>h r H _ e λx v F A u ⟨ds,E,p⟩=>by
 subst E;obtain⟨a,b,rfl,j,m⟩:=zZ.mp u;have w:=m.length;refine⟨a,rfl,⟨b,(zo _ _).seqT j⟩,q ds _ F A ⟨λD o i d B c y=>?_,λD o _ c=>⟨b,(zo _ _).seqT (c.seqT j),Ku w⟩⟩ p⟩;obtain⟨z,l,s⟩:=m.get y;have k:SqT K o a b:=(zo _ _).seqT (c.seqT j);refine⟨⟨b,z,k,l⟩,λx G g=>?_⟩;obtain⟨rfl,g⟩:=g;have n:=g b k;rw [l] at n;cases n;exact⟨.refl B,Rep.mono c _ _ s⟩
theorem Ai (h:PAd K f t ρ λxs=>∃ ds,xs=[.dat (.list ds)]/\R (cM ds)):PId K f (sX K t) ρ R:=λA H C e q=>h A H _ e λxs M L I E ⟨ds,J,p⟩=>by
 subst J;cases E with
 | cons D F =>
  cases F;obtain⟨a,xs,rfl,k,r⟩:=zI.mp D;have G:=r.length;refine⟨a,rfl,⟨xs,(zo _ _).seq k⟩,q (cM ds) _ L I ⟨λv g i d u c b=>?_,λv g _ c=>⟨xs,(zo _ _).seq (c.seq k),by unfold cM;rw [List.length_mapIdx];exact Ku G⟩⟩ p⟩;unfold cM at b;rw [L9] at b;cases eq:ds[i]? with
  | none=>rw [eq] at b;cases b
  | some N =>
   rw [eq] at b;cases b;obtain⟨z,n,B⟩:=r.get eq;have m:SqL K g a xs:=(zo _ _).seq (c.seq k);refine⟨⟨xs,z,m,n⟩,λx O j=>?_⟩;obtain⟨l,y,rfl,o,rfl,j⟩:=j;have w:=j xs m;rw [n] at w;cases w;have s:Goes v g (upd g l (.tup [.int i,z])):=.of_same (yf o _) u;exact⟨s,zZ.mpr ⟨l,_,rfl,.of (zG (fresh_ne u o) zy),.cons' (zw.mpr rfl) (.cons' (Rep.mono s.1 _ _ (Rep.mono c _ _ B)) .nil')⟩⟩
end
section
variable {K:Ih} {f:Fx} {ρ:zu} {D:DEnds} {wi:TI} {g:TG} {ts:TS}
theorem Ei (h:PId K f wi ρ λds=>∃ J:Nat->zu->Prop,J 0 ρ /\
   (∀ (i:Nat) d a,ds[i]?=NQ d->J i a->PGd K f g d a λj=>PSd K f ts j { D with nx:=J (i+1),ct:=J (i+1),bk:=D.nx })/\∀ a,J ds.length a->D.nx a) :
  PSd K f (xO wi g ts) ρ D:=λQ H E e n r b c=>h Q H _ e λds J P w I ⟨N,Y,W,X⟩=>by
 refine⟨λi m o u=>∃ a,EnvOk K f a o u/\Goes f P u/\N i a/\m+i=ds.length,⟨ds.length,ρ,e.mono w,.refl w.2,Y,rfl⟩,λi m o u ⟨a,C,B,p,hm⟩=>?_⟩;by_cases L:i<ds.length
 ·obtain⟨F,Z⟩:=I.go f u i _ C.fd B.sm (Ia L);refine .inr ⟨F,λl G=>∃ j,EnvOk K f j l G/\Goes f P G/\N (i+1) j,λl G ⟨j,e2,g2,U⟩=>⟨m - 1,by lia,j,e2,g2,U,by lia⟩,λx O hx=>?_⟩;obtain⟨M,S⟩:=Z x O hx;refine W i _ a (Ia L) p o O x _ (C.mono M) S λj l H4 g4 e4 T=>?_;have A:=B.trans (M.trans g4);exact T l H4 _ e4 (λk q z t y s=>⟨k,y,A.trans t,s⟩) (λd v z t R s=>r d v z (w.trans (A.trans t)) R s) (λk q z t y s=>n k q z (w.trans (A.trans t)) y s) (λk q z t y s=>⟨k,y,A.trans t,s⟩)
 ·have ei:i=ds.length:=by lia
  subst ei;exact .inl ⟨I.st f u C.fd B.sm,n a o u (w.trans B) C (X a p)⟩
end
section
variable {K:Ih} {f:Fx} {ρ:zu} {D:Ij} {wi:TI} {g:TG} {tt:TT} {te:TE}
theorem CSt.self {b H:Hp} {es:Oo} {a:St} (c:CSt K f D b ρ es a H):CSt K f D H ρ es a H:=⟨c.env,Same.refl _,λ_ _=>rfl,c.lst⟩
theorem CSt.trans {i H j:Hp} {es e:Oo} {a:zu} {k σ':St} (c:CSt K f D i ρ es k H) (d:CSt K f D H a e σ' j):CSt K f D i a e σ' j:=⟨d.env,c.sm.trans d.sm,λb h=>(d.kp b h).trans (c.kp b h),d.lst⟩
def PBd (K:Ih) (f:Fx) (D:Ij) (i:TB) (ρ:zu) (es:Oo) (R:zu->Oo->Prop):Prop:=f.f≠NQ D->D∉f.M->∀ (d:St) (H e:Hp) (W:St->Hp->Prop),CSt K f D e ρ es d H ->
 (∀ b c a h,CSt K f D e b c a h->R b c->W a h)->i d H W
theorem yx {es:Oo} {R:zu->Oo->Prop} (p:es.length<1000) (h:PEd K (f.with D) te ρ λe=>R ρ (es++[e])):PBd K f D (qT D te) ρ es R:=λo n j H s W c q =>
 h j H _ c.env λe u r d l m=>by
  have i:=c.go d (c.env.mono d);obtain⟨k,b,a⟩:=i.lst;exact⟨k,b,z7 (by rw [a.length];lia),q _ _ _ _ (i.put o n b a l) m⟩
theorem Aj {w:Fx} {B C H:Hp} {ds es:Oo} {J:It} {F:TB} {E:St} {W:St->Hp->Prop} (G:ItD K w ds J B) (hD:f.f≠NQ D) (hM:D∉f.M) (c:CSt K f D C ρ es E H) (S:Same (hide B w) (hide H (f.with D)))
  (l:Nat->zu->Oo->Prop) (Z:l 0 ρ es)
  (Y:∀ (i:Nat) d e a,ds[i]?=NQ d->l i e a->PGd K (f.with D) g d e λh=>PTd K (f.with D) tt h λb=>if b=NS then PBd K f D F h a (l (i+1)) else l (i+1) h a)
  (hW:∀ e a σ' j,CSt K f D C e a σ' j->l ds.length e a->W σ' j):cJ J g tt F E H W:=by
 refine⟨λi m σ' j=>∃ e a,CSt K f D C e a σ' j/\Same (hide B w) (hide j (f.with D))/\l i e a/\m+i=ds.length,⟨ds.length,ρ,es,c,S,Z,rfl⟩,λi m σ' j ⟨e,a,q,k,p,hm⟩=>?_⟩;by_cases I:i<ds.length
 ·obtain⟨t,hy⟩:=G.go (f.with D) j i _ q.env.fd k (Ia I);refine .inr ⟨t,λx Q hx=>?_⟩;obtain⟨v,T⟩:=hy x Q hx;have O:=q.go v (q.env.mono v);refine Y i _ e a (Ia I) p σ' Q x _ O.env T λh n H4 L z X=>?_;have c4:=O.go L z;refine X n H4 _ z λb P u r=>?_;have A:=c4.go u (z.mono u);have o:=((k.trans v.sm).trans L.sm).trans u.sm;cases b with
  | false =>
   rw [NL Ie] at r ⊢;exact⟨m - 1,by lia,h,a,A,o,r,by lia⟩
  | true =>
   rw [NM rfl] at r ⊢;exact r hD hM n P P _ A.self λs y R H6 N U=>⟨m - 1,by lia,s,y,A.trans N,o.trans N.sm,U,by lia⟩
 ·have ei:i=ds.length:=by lia
  subst ei;exact .inl ⟨G.st (f.with D) j q.env.fd k,hW e a σ' j q p⟩
theorem CB {es:Oo} {m:TB} {R:zu->Oo->Prop} (h:PId K (f.with D) wi ρ λds=>∃ k:Nat->zu->Oo->Prop,k 0 ρ es /\
   (∀ (i:Nat) d e a,ds[i]?=NQ d->k i e a->PGd K (f.with D) g d e λj=>PTd K (f.with D) tt j λb=>if b=NS then PBd K f D m j a (k (i+1)) else k (i+1) j a) /\
   ∀ e a,k ds.length e a->R e a):PBd K f D (tIn wi g tt m) ρ es R:=λw v o H z W c q =>
 h o H _ c.env λds J A n u ⟨k,t,r,s⟩ =>
  Aj u w v (c.go n (c.env.mono n)) (Same.refl _) k t r λe a l y x p=>q e a l y x (s e a p)
def PEdO (K:Ih) (f:Fx) (te:TE) (ρ:zu) (P:Oo->Prop):Prop:=∀ (b:St) (H:Hp) (Q:VK),EnvOk K f ρ b H ->
 (∀ d D c a,Goes f H a->H D=NW->a D=NQ (.lst c)->Reps K (hide a (f.with D)) d c->P d->Q (.ref D) a)->te b H Q
theorem PEdO.pedl {P:Oo->Prop} (h:PEdO K f te ρ P):PEdL K f te ρ P:=λc H Q e q=>h c H Q e λb D a i g n d r p=>q b D a i g n d (Reps.mono y4 b a r) p
theorem PEdO.ped {P:NR->Prop} (h:PEdO K f te ρ λes=>P (.list es)):PEd K f te ρ P:=h.pedl.ped
theorem Ej {P:Oo->Prop} (h:P []):PEdO K f (uZ qC) ρ P:=λb H Q e q=>⟨IV _,λp a=>q [] p [] _ (.of_same (yf a _) e.fd) a zy .nil' h⟩
theorem vH {own:Nat} {fr:Om} {n:Ij->TB} {P:Oo->Prop} (h:PId K f wi ρ λds=>∃ k:Nat->zu->Oo->Prop,k 0 (ag own fr ρ) [] /\
   (∀ D (i:Nat) d c a,ds[i]?=NQ d->k i c a->PGd K (f.with D) g d c λj=>PTd K (f.with D) tt j λb=>if b=NS then PBd K f D (n D) j a (k (i+1)) else k (i+1) j a) /\
   ∀ c a,k ds.length c a->P a):PEdO K f (qz wi own fr g tt n) ρ P:=λs H Q e q =>
 h s H _ e λds J I m y ⟨k,x,v,w⟩ D l=>by
  have o:=fresh_ne m.2 l;have B:f.f≠NQ D:=λz=>o (.inl z);have A:D∉f.M:=λz=>o (.inr z);refine Aj y B A (b9 l (e.mono m)) (jX l) k x (v D) λc a σ' G r p=>?_;obtain⟨F,u⟩:=fT (σ':=σ') l m.2 r;obtain⟨t,E,C⟩:=r.lst;exact q a D t G (m.trans F) (m.free e.fd l) E C (w c a p)
end
section
variable {K:Ih} {f:Fx} {ρ:zu} {D:Ij} {wi:TI} {g:TG} {tt:TT} {te:TE}
theorem dS {F:NR->Oo} {ds:Oo} {i:Nat} {d:NR} (h:ds[i]?=NQ d):(ds.take (i+1)).flatMap F=(ds.take i).flatMap F++F d:=by
 rw [JE,h,J7];simp
theorem CD {F:NR->Oo} {ds:Oo} {i:Nat}:((ds.take i).flatMap F).length<=(ds.flatMap F).length:=by
 conv=>rhs;rw [<-Lc i ds,J7,IE]
 lia
def OwnE (own:Nat) (a:zu) (b:zu):Prop:=∃ c:zu,c.length=own/\b=c++a
theorem OwnE.one {a b:zu} (h:OwnE 1 a b):∃ u,b=u :: a:=by
 obtain⟨c,d,rfl⟩:=h;rcases c with _ | ⟨u,_ | ⟨z,e⟩⟩ <;> first | exact⟨_,rfl⟩ | (simp at d)
theorem OwnE.two {a b:zu} (h:OwnE 2 a b):∃ u v,b=u :: v :: a:=by
 obtain⟨c,d,rfl⟩:=h;rcases c with _ | ⟨u,_ | ⟨v,_ | ⟨z,e⟩⟩⟩ <;> first | exact⟨_,_,rfl⟩ | (simp at d)
theorem OwnE.three {a b:zu} (h:OwnE 3 a b):∃ u v w,b=u :: v :: w :: a:=by
 obtain⟨c,d,rfl⟩:=h
 match c,d with
 | [u,v,w],_=>exact⟨u,v,w,rfl⟩
theorem OwnE.mk1 {a:zu} {u:Option DV}:OwnE 1 a (u :: a):=⟨[u],rfl,rfl⟩
theorem OwnE.mk2 {a:zu} {u v:Option DV}:OwnE 2 a (u :: v :: a):=⟨[u,v],rfl,rfl⟩
theorem Fh {own:Nat} {fr:Om} {y:Ij->TB} {P:Oo->Prop} (h:PId K f wi ρ λds=>∃ F:NR->Oo,(ds.flatMap F).length<=1000 /\
   (∀ D d a es,d∈ds->OwnE own (frD fr ρ) a->es.length+(F d).length<=1000->PGd K (f.with D) g d a λj=>PTd K (f.with D) tt j λb=>if b=NS then PBd K f D (y D) j es λu x=>OwnE own (frD fr ρ) u/\x=es++F d else OwnE own (frD fr ρ) j/\F d=[]) /\
   P (ds.flatMap F)):PEdO K f (qz wi own fr g tt y) ρ P :=
 vH (h.imp λds ⟨F,J,E,G⟩=>by
  refine⟨λi a es=>OwnE own (frD fr ρ) a/\es=(ds.take i).flatMap F,⟨⟨KC own NW,by simp,rfl⟩,by simp⟩,λD i d a es n ⟨I,m⟩=>?_,λa es ⟨_,m⟩=>?_⟩
  ·have L:es.length+(F d).length<=1000:=by
    rw [m,<- IE,<- dS n];exact IS CD J
   have:=E D d a es (Ir n) I L;intro z H v Q e r q;refine this z H v Q e r λj s Y O R B=>q j s Y O R (B.imp λb l=>?_);cases b with
   | false =>
    rw [NL Ie] at l ⊢;exact⟨l.1,by rw [dS n,l.2,Jo];exact m⟩
   | true =>
    rw [NM rfl] at l ⊢;intro N M p X U W c k;exact l N M p X U W c λt w o T S ⟨C,A⟩=>k t w o T S ⟨C,by rw [A,dS n,m]⟩
  ·rw [m,Jk];exact G)
theorem ju {B:Bool->Prop} (h:B NS):PTd K f mK ρ B:=λa H Q e q=>q NS H (.refl e.fd) h
end
structure OEnds where
 nx:zu->Oo->Prop
 rt:NR->Prop
 bk:zu->Oo->Prop:=λ_ _=>False
 ct:zu->Oo->Prop:=λ_ _=>False
section
variable {K:Ih} {f:Fx} {ρ:zu} {D:Ij} {wi:TI} {g:TG} {tt:TT} {te:TE} {ts tu:TS} {es:Oo} {O:OEnds} {i:Nat}
noncomputable def cO (n:Nat):Option DV->Option DV
 | some (.own k)=>if k<n then NQ (.own k) else NW
 | x=>x
end
section
variable {K:Ih} {f:Fx} {ρ:zu} {P:NR->Prop} {te ta tb:TE} {t:TA}
theorem Fi (h:PAd K f t ρ λxs=>(∃ i,xs=[.dat (.int i)]/\P (.int i)) \/ (∃ k:Bool,xs=[.dat (.bool k)]/\P (.int (if k then 1 else 0)))) :
  PEd K f (tCB (λxs H Q=>(∃ i,xs=[.int i]/\Q (.int i) H) \/ ∃ k:Bool,xs=[.bl k]/\Q (.int (if k then 1 else 0)) H) t) ρ P :=
 oZ λm H Q e q=>h m H Q e λxs a l g r p=>by
  rcases p with⟨i,rfl,p⟩ | ⟨i,rfl,p⟩
  ·refine q _ a l g r ⟨_,rfl,λa H Q j b k=>?_⟩;obtain⟨x,r,rfl,d,c⟩:=zE.mp b;rw [zQ.mp c,zw.mp d];exact .inl ⟨i,rfl,k _ _ H (.refl j) (zw.mpr rfl) p⟩
  ·refine q _ a l g r ⟨_,rfl,λa H Q j b k=>?_⟩;obtain⟨x,r,rfl,d,c⟩:=zE.mp b;rw [zQ.mp c,ya.mp d];exact .inr ⟨i,rfl,k _ _ H (.refl j) (zw.mpr rfl) p⟩
theorem fj (h:PAd K f t ρ λxs=>(∃ ds,xs=[.dat (.list ds)]/\P (.tuple ds)) \/ (∃ ds,xs=[.dat (.tuple ds)]/\P (.tuple ds))) :
  PEd K f (tCB (λxs H Q=>∃ p ys,xs=[.ref p]/\((SqL K H p ys/\∀ l,H l=NW->Q (.ref l) (upd H l (.tup ys))) \/ (SqT K H p ys/\Q (.ref p) H))) t) ρ P :=
 oZ λv H Q e q=>h v H Q e λxs b u g r p=>by
  rcases p with⟨ds,rfl,p⟩ | ⟨ds,rfl,p⟩
  ·refine q _ b u g r ⟨_,rfl,λb H Q d j k=>?_⟩;obtain⟨x,r,rfl,n,m⟩:=zE.mp j;rw [zQ.mp m];obtain⟨a,ys,rfl,c,i⟩:=zI.mp n;refine⟨a,ys,rfl,.inl ⟨(zo _ _).seq c,λl o=>?_⟩⟩;have s:Goes f H (upd H l (.tup ys)):=.of_same (yf o _) d;exact k (.tuple ds) _ _ s (zZ.mpr ⟨l,ys,rfl,.of (zG (fresh_ne d o) zy),Reps.mono s.1 ds ys i⟩) p
  ·refine q _ b u g r ⟨_,rfl,λb H Q d j k=>?_⟩;obtain⟨x,r,rfl,n,m⟩:=zE.mp j;rw [zQ.mp m];obtain⟨a,ys,rfl,c,i⟩:=zZ.mp n;exact⟨a,ys,rfl,.inr ⟨(zo _ _).seqT c,k (.tuple ds) _ H (.refl d) (zZ.mpr ⟨a,ys,rfl,c,i⟩) p⟩⟩
end
noncomputable abbrev f0:Fx:=⟨NW,[]⟩
theorem fok0 (H:Hp):FOk f0 H:=⟨(λp e=>by cases e),(λb a=>by cases a),(λp e=>by cases e)⟩
theorem G0 {H a:Hp} (s:Same H a):Goes f0 H a:=.of_same s (fok0 H)
theorem same0 {H a:Hp} (g:Goes f0 H a):Same H a:=λb o h=>(zW (g.sm b o (by rw [jt];exact h))).2
noncomputable def kN:Option DV->Option DV
 | some (.dat d)=>NQ (.dat d)
 | _=>NW
section
variable {K:Ih} {ρ:zu} {te:TE} {tu:TS} {i:Nat}
theorem fW {p:Ij} {a:St} {H:Hp} (e:EnvOk K ⟨NQ p,[]⟩ ρ a H):EnvOk K f0 (ρ.map kN) a H:=by
 refine⟨by rw [Ib];exact e.len,λi x h=>?_,fok0 H⟩;rw [Iq] at h;cases eq:ρ[i]? with
 | none=>rw [eq] at h;cases h
 | some y =>
  rw [eq] at h;cases y with
  | none=>cases h
  | some y =>
   obtain⟨v,c,b⟩:=e.get i y eq;cases y with
   | dat d =>
    cases h;refine⟨v,c,?_⟩;show Rep K (hide H f0) d v;rw [jt];exact Rep.mono (zo _ _) d v b
   | feed=>cases h
   | own k=>cases h
   | exc C=>cases h
   | mon f=>cases h
theorem Fj {G:DEnds} (h:∀ (w:St) (H:Hp) (Q:VK),EnvOk K f0 ρ w H->(∀ (p:Ij) (x y:Int) (c:Hp),Same H c->H p=NW->c p=NQ (.lst [.int x,.int y])->0<=x->0<=y->y<2147483647->Q (.ref p) c)->te w H Q)
  (U:∀ p,PSd K ⟨NQ p,[]⟩ tu (ρ.set i (NQ .feed)) { nx:=λa=>G.nx (a.map kN),rt:=G.rt,bk:=λa=>G.bk (a.map kN),ct:=λa=>G.ct (a.map kN) }) :
  PSd K f0 (jK (ve te (yW i)) tu) ρ G:=λw H E e n r b k=>h w H _ e λp x y F P X W O N M=>by
 have Z:FOk ⟨NQ p,[]⟩ F:=⟨λt e=>by cases e;exact⟨x,y,W,O,N,M⟩,(λb m=>by cases m),λ_ _ m=>by cases m⟩;have l:Same H (hide F ⟨NQ p,[]⟩):=λb o m=>by
  have S:b≠p:=λe=>by rw [e,X] at m;cases m
  refine zG (λz=>?_) (P b o m);rcases z with z | z
  ·cases z;exact S rfl
  ·cases z
 have e1:EnvOk K ⟨NQ p,[]⟩ ρ w F:=by
  refine⟨e.len,λj z T=>?_,Z⟩;obtain⟨v,a1,D⟩:=e.get j z T;refine⟨v,a1,?_⟩;cases z with
  | dat d =>
   have B:Rep K (hide H f0) d v:=D;rw [jt] at B;exact Rep.mono l d v B
  | feed=>obtain⟨q,J,_⟩:=D;cases J
  | own k=>obtain⟨q,J,_⟩:=D;cases J
  | exc C =>
   obtain⟨q,Y,L⟩:=D;refine⟨q,Y,l _ _ ?_⟩;rw [jt] at L;exact L
  | mon φ =>
   intro c s;refine D c (Same.trans ?_ s);rw [jt];exact l
 have I:∀ {c:Hp},Goes ⟨NQ p,[]⟩ F c->Goes f0 H c:=λg=>G0 λb o m=>zo _ _ b o (g.sm b o (l b o m));refine U p _ F E (e1.set i (x:=.feed) ⟨p,rfl,rfl⟩) (λa f c u A t=>n _ f c (I u) (fW A) t) (λd v c u R t=>r d v c (I u) ?_ t) (λa f c u A t=>b _ f c (I u) (fW A) t) (λa f c u A t=>k _ f c (I u) (fW A) t);rw [jt];exact Rep.mono (zo _ _) d v R
end
section
variable {X:Cx} {K:Ih}
def G5 (i j:Int):Prop:=0<j/\j<1152921504606846976
theorem cP:OpR X (binaryOp .FloorDiv) (rI G5 λi j=>.int (i / j)):=opI λi j _ _ _ _ _ a q=>by
 obtain⟨b,d⟩:=a;rw [<-Int.fdiv_eq_ediv_of_nonneg i (Int.le_of_lt b)] at q;refine floordiv_int (by lia) q (.inl (PyProof.noPylong_of_log2 ?_));have c:j.natAbs≠0:=by lia
 have:j.natAbs.log2<60:=(Nat.log2_lt c).mpr (by lia);lia
end
section
variable {K:Ih} {f:Fx} {ρ:zu} {wi:TI} {g:TG} {tt:TT} {own:Nat} {fr:Om} {tb:Ij->TB} {P:Oo->Prop}
theorem fX {z:Type} {A B:z->NR} (xs:List z) (h:PId K f wi ρ λds=>ds=xs.map A/\xs.length<=1000 /\
   (∀ D x a es,x∈xs->OwnE own (frD fr ρ) a->es.length<1000->PGd K (f.with D) g (A x) a λj=>PTd K (f.with D) tt j λb=>if b=NS then PBd K f D (tb D) j es λu y=>OwnE own (frD fr ρ) u/\y=es++[B x] else False)/\P (xs.map B)) :
  PEdO K f (qz wi own fr g tt tb) ρ P :=
 vH (h.imp λds ⟨S,hl,I,J⟩=>by
  subst S;refine⟨λi a es=>OwnE own (frD fr ρ) a/\es=(xs.take i).map B,⟨⟨KC own NW,by simp,rfl⟩,by simp⟩,λD i d a es m ⟨L,n⟩=>?_,λa es ⟨_,n⟩=>?_⟩
  ·rw [Iq] at m;cases eq:xs[i]? with
   | none=>rw [eq] at m;cases m
   | some x =>
    rw [eq] at m;cases m;have hi:i<xs.length:=(Ig.mp eq).1;have M:es.length<1000:=by
     rw [n,Ib,Jt];lia
    intro C H v Q e r q;refine I D x a es (Ir eq) L M C H v Q e r λj s H2 R T F=>q j s H2 R T (F.imp λb l=>?_);cases b with
    | false =>
     rw [NL Ie] at l;exact l.elim
    | true =>
     rw [NM rfl] at l ⊢;intro O N p Z Y W c k;exact l O N p Z Y W c λt w o X U ⟨G,E⟩=>k t w o X U ⟨G,by rw [E,n,JE,eq,IM];rfl⟩
  ·rw [n,Ib,Jk];exact J)
end
structure XLie (P:NY) (w:NX) (outer:Ob) (H:Hp) (s:NU) (e:Ij) (C:NT) (H':Hp) (s':NU):Prop where
 os:s'.os=s.os
 bare:AllBare s'.gens
 un:Un (frs outer) [] H H' s.heap s'.heap
 hok:HOk P w H' s'.heap
 fly:∃ B a0,MU B outer e C a0 s'.heap/\(∀ b o,s.heap.get? b=NQ o->b∉frs outer->∃ o',B.get? b=NQ o')/\∀ b o,H' b=NQ o->∃ o',B.get? b=NQ o'
 new:s.heap.get? e=NW
 free:H' e=NW
def CXe (P:NY) (w:NX):CXT:=λb H s E e d=>∃ a C c,e=.ref a/\XLie P w b H s a C c d/\E C NW c
section
variable {P:NY} {w:NX} {H H':Hp} {h h':Heap}
theorem ObjOk.is {a:Ij} {o:HO} (x:ObjOk P w H h a o):∃ u,h.get? a=NQ u:=by
 induction o with
 | lst c=>obtain⟨_,_,_,_,e⟩:=x;exact⟨_,e⟩
 | tup c=>obtain⟨_,_,_,d,e,_⟩:=x;exact⟨_,e⟩
 | dK b=>obtain⟨_,_,_,_,o,_,_,e,_⟩:=x;exact⟨_,e⟩
 | dT b=>obtain⟨_,_,_,_,o,_,_,e,_⟩:=x;exact⟨_,e⟩
 | set S n=>obtain⟨o,_,_,_,e,_⟩:=x;exact⟨_,e⟩
 | ins C l g=>obtain⟨_,_,_,e,_⟩:=x;exact⟨_,e⟩
 | own y=>exact x
 | xd g=>obtain⟨_,⟨o,_,_,e,_⟩,_⟩:=x;exact⟨_,e⟩
 | rng lo k=>obtain⟨_,_,_,e⟩:=x;exact⟨_,e⟩
 | frz d u ih=>exact⟨_,x.1⟩
 | tbl j=>obtain⟨_,e,_⟩:=x;exact⟨_,e⟩
 | met f y=>exact⟨_,x⟩
 | ext i=>exact x.2.1
theorem HOk.stays (x:HOk P w H h) (k:∀ b o u,H b=NQ o->h.get? b=NQ u->h'.get? b=NQ u):HOk P w H h':=λa o e =>
 (x a o e).stay (λb u c q=>by
  rcases c with rfl | c
  ·exact k b o u e q
  ·exact k b _ u c q) (λ_ q=>q) λ_ _ q=>q
end
section
variable {X:Cx} {NJ:N9} {σ:St} {H H':Hp} {s s':NU} {a:Ij} {C:NT} {outer:Ob}
theorem Inv.old_ne (I:Inv X NJ σ H s) (c:X.stack=X.env :: X.outer) (e:X.env.frame=NQ X.env.locals) {b:Ij} {o:Obj} (q:X.s₀.heap.get? b=NQ o) (f:b∉frs X.outer):b∉frs X.stack:=λz=>by
 rw [c] at z;unfold frs at z;rw [Kj,e] at z;rcases Iv.mp z with z | z
 ·have d:b<X.s₀.heap.objs.size:=IA q;rw [z] at d;exact absurd d (NA.mpr I.ok.above)
 ·exact f z
theorem Ak {E:NT->NU->Prop} (I:Inv X NJ σ H s) (h:X.stack=X.env :: X.outer) (D:X.env.frame=NQ X.env.locals) (m:X.ex=[]) (x:XLie X.prog X.w X.stack H s a C H' s') :
  IK (model X.prog X.w) X.A (leaving X.env (.ref a)) (λ_ v=>XLie X.prog X.w X.outer X.H₀ X.s₀ a C H' v) E s':=by
 obtain⟨B,O,K,F,trk⟩:=x.fly;have J:Inv X NJ σ H' s':=I.call' x.os x.un x.hok x.bare (λb z=>absurd z (by simp));have l:=K;rw [h] at l;refine wpAny_leaves_onW (by rw [I.ok.frames,h]) D l λN i G=>?_;have inB:∀ b o,X.s₀.heap.get? b=NQ o->b∉frs X.outer->∃ f,B.get? b=NQ f:=λb o q c=>by
  obtain⟨t,d⟩:=I.base.there b o q (by rw [m];simp);exact F b t d (I.old_ne h D q c)
 have r:∀ b o f,B.get? b=NQ f->s'.heap.get? b=NQ o->N.get? b=NQ o:=λb o f c q=>by
  have:=K.1 b f c;rw [q] at this;cases this;exact i.1 b o c
 have k:∀ b o,b∈frs X.outer->s'.heap.get? b=NQ o->∀ L,o.data≠.fields L:=λb o c q=>by
  obtain⟨_,t,d,M⟩:=J.stack.mem (b:=b) (by
   show b∈frs X.stack;rw [h];unfold frs;rw [Kj,D];exact Ii _ c)
  rw [q] at d;cases d;exact M
 have g:∀ b:Ij,b∉X.ex:=λb=>by rw [m];simp
 refine⟨x.os.trans I.os,x.bare,⟨λb o q n c _=>?_,λb o q n c _=>?_,λb o q n _=>J.base.free b o q n (g b),λb o q _=>?_,J.base.tups,J.base.frzs,J.base.tbls⟩,?_,⟨B,O,i,inB,trk⟩,?_,x.free⟩
 ·obtain⟨f,p⟩:=inB b o q c;exact r b o f p (J.base.keep b o q n c (g b))
 ·obtain⟨P,d⟩:=J.base.slot b o q n c (g b);obtain⟨j,y⟩:=G b _ d (k b _ c d);exact⟨j,y⟩
 ·obtain⟨t,d⟩:=J.base.there b o q (g b);by_cases c:b∈frs X.outer
  ·obtain⟨j,y⟩:=G b _ d (k b _ c d);exact⟨_,y⟩
  ·obtain⟨f,p⟩:=inB b o q c;exact⟨_,i.1 b f p⟩
 ·refine HOk.stays x.hok λb o u e q=>?_;obtain⟨f,p⟩:=trk b o e;exact r b u f p q
 ·cases q:X.s₀.heap.get? a with
  | none=>rfl
  | some o =>
   obtain⟨t,d⟩:=I.base.there a o q (g a);rw [x.new] at d;cases d
theorem leave_new {E:NT->NU->Prop} {J:Heap} {r:N6} (I:Inv X NJ σ H s) (f:X.stack=X.env :: X.outer) (p:X.env.frame=NQ X.env.locals) (F:X.ex=[]) (v:Heap.MadeExcOf s.heap J a C r) :
  IK (model X.prog X.w) X.A (leaving X.env (.ref a)) (λ_ x=>XLie X.prog X.w X.outer X.H₀ X.s₀ a C H x) E { s with heap:=J }:=by
 have g:∀ b:Ij,b∉X.ex:=λb=>by rw [F];simp
 have l:∀ i∈X.env :: X.outer,∀ b,i.frame=NQ b->b∈frs X.stack:=λi R b c=>by
  rw [f];exact KA.mpr ⟨i,R,c⟩
 have M:=I.stack;rw [f] at M;have st:(Me s.heap (frs X.stack)).StaysIn s.heap:=λb o c=>PySem.W.of_hideAll _ c;refine wpAny_leaves_madeW (base:=Me s.heap (frs X.stack)) (h:=s.heap) (by rw [I.ok.frames,f]) p st (PySem.W.funFrames_hide M l) v λK t L P T O=>?_;have D:∀ b o,s.heap.get? b=NQ o->b∉frs X.stack->K.get? b=NQ o:=λb o q c=>L.1 b o (Lo _ q c);have B:∀ b o,b∈frs X.outer->s.heap.get? b=NQ o->∀ N,o.data≠.fields N:=λb o c q=>by
  obtain⟨_,k,d,S⟩:=I.stack.mem (b:=b) (by
   show b∈frs X.stack;rw [f];unfold frs;rw [Kj,p];exact Ii _ c)
  rw [q] at d;cases d;exact S
 have slots:∀ b o,b∈frs X.outer->s.heap.get? b=NQ o->∃ G,K.get? b=NQ { o with slots:=G }:=λb o c q=>O b o (v.keeps b o q) (B b o c q);have inB:∀ b o,X.s₀.heap.get? b=NQ o->b∉frs X.outer->∃ Q,(Me s.heap (frs X.stack)).get? b=NQ Q:=λb o q c=>by
  obtain⟨k,d⟩:=I.base.there b o q (g b);exact⟨k,Lo _ d (I.old_ne f p q c)⟩
 have trk:∀ b o,H b=NQ o->∃ u,s.heap.get? b=NQ u/\b∉frs X.stack:=λb o e=>by
  have m:b∉frs X.stack:=λz=>by rw [I.stkFree b z] at e;cases e
  obtain⟨u,q⟩:=(I.hok b o e).is;exact⟨u,q,m⟩
 refine⟨I.os,I.bare,⟨λb o q n c _=>D b o (I.base.keep b o q n c (g b)) (I.old_ne f p q c),λb o q n c _=>?_,λb o q n _=>I.base.free b o q n (g b),λb o q _=>?_,I.base.tups,I.base.frzs,I.base.tbls⟩,?_,⟨_,_,L,inB,λb o e=>?_⟩,?_,?_⟩
 ·obtain⟨G,d⟩:=I.base.slot b o q n c (g b);obtain⟨j,y⟩:=slots b _ c d;exact⟨j,y⟩
 ·obtain⟨k,d⟩:=I.base.there b o q (g b);by_cases c:b∈frs X.outer
  ·obtain⟨j,y⟩:=slots b _ c d;exact⟨_,y⟩
  ·exact⟨_,D b k d (I.old_ne f p q c)⟩
 ·refine HOk.stays I.hok λb o u e q=>D b u q ?_;obtain⟨_,_,m⟩:=trk b o e;exact m
 ·obtain⟨u,q,m⟩:=trk b o e;exact⟨u,Lo _ q m⟩
 ·cases q:X.s₀.heap.get? a with
  | none=>rfl
  | some o =>
   obtain⟨k,d⟩:=I.base.there a o q (g a);rw [v.new] at d;cases d
 ·cases q:H a with
  | none=>rfl
  | some o =>
   obtain⟨u,d,_⟩:=trk a o q;rw [v.new] at d;cases d
end
theorem CF {K:Ih} {h:Heap} {d:Str->N7} {x:Str} {C:Ij} {c:N6} {a:String} (Y:K.In h) (i:d x=NQ (.ref C)) (b:LZ K C c a=NS):OwnCls x C c a d h:=by
 refine⟨i,?_⟩;unfold LZ at b;split at b
 case h_2=>cases b
 case h_1 dd cd sl lk =>
  split at b
  case h_2=>cases b
  case h_1 D bm a0 a1 a2 a3 nn a5 hmro hsl =>
   simp only [Io,beq_iff_eq,Bool.not_eq_true'] at b;obtain⟨⟨⟨⟨⟨o,n⟩,f⟩,m⟩,e⟩,k⟩:=b;have j:(Obj.mk (.type "type") dd (.cls cd) sl)=excClassObj cd.name cd.qualname C cd.ns cd.bases bm cd.hasDict cd.slotNames cd.subclasses cd.abstract cd.collection dd a0 a1 a2 a3 a5 a:=by
    have g:sl=#[a0,a1,a2,a3,NQ (.builtin nn),a5]:=by
     cases sl with
     | mk l=>exact congrArg Array.mk hsl
    rw [g,n];cases cd;simp only at hmro f;rw [hmro,o,f]
   exact⟨bm,cd.ns,_,_,_,_,_,_,_,_,_,_,_,_,_,_,_,(Y _ _ lk).trans (congrArg NQ j),.of_isNs (PySem.W.isNs_of_in Y e),PySem.W.nsMap_none_of_in Y e k,PySem.W.tail_of_in Y m⟩
def Al (C:NT) (E:XK) (t:TA):TS:=λ_ a H=>t a H λb c=>b.length<=1000/\E C NW c
section
variable {X:Cx} {NJ:N9} {σ:St} {H H' H1 H2:Hp} {s s' s1 s2:NU} {a:Ij} {C:NT} {i j:Nat}
theorem Fl {M:Model} {A:NZ} {E:NT->NU->Prop} {x:Str} {v:V} {Q:Unit->NU->Prop} (I:Inv X NJ σ H s) (hN:X.N.Nodup) (S:X.N[i]?=NQ x) (G:X.env.scope.names.lookup x=NQ .local) (hv:σ[i]?=NQ (NQ v))
  (h:∀ s',Inv X NJ (σ.set i NW) H s'->Q () s'):IK M A (unbindName X.env x) Q E s:=by
 obtain⟨m,hn,R⟩:=id I.loc;obtain⟨u,r,lk⟩:=R i x v S hv (.inl G);have hm:m x=NQ u:=by
  rcases lk with⟨_,e⟩ | ⟨z,_⟩
  ·exact e
  ·rcases z with z | z
   ·have B:X.env.scope.names.lookup x=NQ .cell:=z;rw [G] at B;cases B
   ·have B:X.env.scope.names.lookup x=NQ .free:=z;rw [G] at B;cases B
 have plain:(X.env.scope.kind == .class
   || (X.env.scope.kind == .module
    && X.env.locals != X.env.globals))=NV:=by
  rw [I.ok.kind];rfl
 have F:=I.cne;refine wpAny_unbindName_local G hn hm plain λh' w J g=>?_;have f:∀ {b:Ij} {o:Obj},X.s₀.heap.get? b=NQ o->b≠X.env.locals:=λ{b o} e=>IU (IW (IA e) I.ok.above);refine h _ ⟨I.ok,I.os,I.bare,⟨λb o e n L D=>(g.2 b (f e)).trans (I.base.keep b o e n L D),λb o e n L D=>?_,I.base.free,λb o e D=>?_,I.base.tups,I.base.frzs,I.base.tbls⟩,⟨_,J,λq y U t l e3=>?_⟩,λy c e=>?_,I.free,I.freeC,λp hp=>?_,?_,by rw [JX];exact I.len⟩
 ·obtain⟨W,t⟩:=I.base.slot b o e n L D;exact⟨W,(g.2 b (f e)).trans t⟩
 ·obtain⟨Z,t⟩:=I.base.there b o e D;exact⟨Z,(g.2 b (f e)).trans t⟩
 ·by_cases K:q=i
  ·subst K;rw [MF] at l;rw [NM rfl] at l;split at l <;> cases l
  ·rw [JN (JM K)] at l;obtain⟨O,Y,z⟩:=R q y U t l e3;refine⟨O,Y,?_⟩;rcases z with⟨k,e⟩ | ⟨k,c,e,z⟩
   ·refine .inl ⟨k,?_⟩;have:y≠x:=λe=>K (fG hN t (e▸S));show (if y=x then w else m y)=NQ O;rw [NL this];exact e
   ·exact .inr ⟨k,c,e,z.sameBut g (F y c e)⟩
 ·obtain⟨T,z⟩:=I.cell y c e;exact⟨T,z.sameBut g (F y c e)⟩
 ·obtain⟨e,n,P,nf,d⟩:=I.pin p hp;exact⟨(g.2 p.1 P).trans e,n,P,nf,d⟩
 ·refine HOk.stays I.hok λb o u e q=>(g.2 b ?_).trans q;rintro rfl;rw [I.free] at e;cases e
noncomputable def Cx.marked (X:Cx) (e:NT):Cx:={ X with A:=X.A.mark (NQ e),calm:=NV,xe:=λ_ _=>False }
theorem Cx.Ok.marked (b:X.Ok) (e:NT):(X.marked e).Ok :=
 ⟨b.mod,b.kind,b.glob,b.blt,b.above,b.inj,b.has,b.cab,(λz=>by cases z),b.frames,b.stk,b.exf,b.bs,b.bsz,b.noex,b.exfs,b.funs,b.frf,b.tabs⟩
theorem Inv.marked (I:Inv X NJ σ H s) (e:NT):Inv (X.marked e) NJ σ H s:=⟨I.ok.marked e,I.os,I.bare,I.base,I.loc,I.cell,I.free,I.freeC,I.pin,I.hok,I.len⟩
theorem Inv.unmarked {e:NT} (b:X.Ok) (I:Inv (X.marked e) NJ σ H s):Inv X NJ σ H s:=⟨b,I.os,I.bare,I.base,I.loc,I.cell,I.free,I.freeC,I.pin,I.hok,I.len⟩
theorem XLie.move {P:NY} {w:NX} {c:Ob} {B:Heap} {G:NT} {g:Heap} (x:XLie P w c H s a C H' s') (A:MU B c a C G s'.heap) (r:∀ b o,s.heap.get? b=NQ o->b∉frs c->∃ d,B.get? b=NQ d)
  (t:∀ b o,H' b=NQ o->∃ d,B.get? b=NQ d) (st:B.StaysIn g) (y:s'.heap.UpToSlots g):Un (frs c) [] H H' s.heap g/\HOk P w H' g:=by
 have p:∀ b o d,B.get? b=NQ d->s'.heap.get? b=NQ o->g.get? b=NQ o:=λb o d f q=>by
  have:=A.1 b d f;rw [q] at this;cases this;exact st b o f
 have l:∀ b o,b∈frs c->s'.heap.get? b=NQ o->∀ D,o.data≠.fields D:=λb o f q=>by
  obtain⟨_,E,h,F⟩:=A.2.2.1.mem f;rw [q] at h;cases h;exact F
 refine⟨⟨λb o q n f z=>?_,λb o q n f z=>?_,x.un.free,λb o q z=>?_,x.un.tups,x.un.frzs,x.un.tbls⟩,HOk.stays x.hok λb o u e q=>?_⟩
 ·obtain⟨d,m⟩:=r b o q f;exact p b o d m (x.un.keep b o q n f z)
 ·obtain⟨I,h⟩:=x.un.slot b o q n f z;obtain⟨k,v⟩:=y b _ h (l b _ f h);exact⟨k,v⟩
 ·by_cases f:b∈frs c
  ·obtain⟨E,h⟩:=x.un.there b o q z;obtain⟨k,v⟩:=y b _ h (l b _ f h);exact⟨_,v⟩
  ·obtain⟨d,m⟩:=r b o q f;exact⟨_,st b d m⟩
 ·obtain⟨d,m⟩:=t b o e;exact p b u d m q
end
noncomputable def kO (D:Ends) (j:Nat):Ends where
 nx:=λa H=>D.nx (a.set j NW) H
 rt:=D.rt
 bk:=λa H=>D.bk (a.set j NW) H
 ct:=λa H=>D.ct (a.set j NW) H
section
variable {X:Cx} {NJ:N9} {σ:St} {H H1 H2:Hp} {s s1 s2:NU} {a C0:Ij} {C:NT} {i j:Nat} {n hx:Str} {b0:Stmt} {suite:Oe} {hp hpos:Pos} {ts:TS} {D:Ends}
theorem kP {M:Model} {A:NZ} {E:NT->NU->Prop} {Q:Unit->NU->Prop} (I:Inv X NJ σ H s) (f:X.N.Nodup) (e:X.N[j]?=NQ n) (d:X.env.scope.names.lookup n=NQ .local) (h:∀ s',Inv X NJ (σ.set j NW) H s'->Q () s') :
  IK M A (do bindName X.env n .none;unbindBehindTheSuite X.env n hpos) Q E s:=by
 refine Ic (wpAny_bindName (cG (v:=.non) I f e (.inl d) rfl (λs' g=>?_) (.inr d)));unfold unbindBehindTheSuite;refine wpAny_onRaise (Fl (v:=.non) g f e d ?_ λc b=>?_)
 ·have:j<σ.length:=by rw [I.len];exact (Ig.mp e).1
  rw [Jj this]
 ·rw [List.set_set] at b;exact h c b
end
end L2
end
section
namespace L2
open PySem PySem.Spec PySem.W PyProof.Rows PySem.Calls PySem.Builtin Builtin Builtin.ObjectAttr Builtin.Getset_descriptor
section
variable {prog:NY} {w:NX} {A:NZ} {E:NT->NU->Prop} {s:NU} {K:Ih} {a C:Ij}
structure ExcWays (K:Ih) (C:Ij):Prop where
 ga:findIn K (.ref C) "__getattribute__"=NQ (NQ (.builtin "BaseException.__getattribute__"))
 gt:findIn K (.ref C) "__getattr__"=NQ NW
 cl:findIn K (.ref C) "__class__"=NQ (NQ (.builtin "object.__class__"))
 gs:specialIn K (.builtin "object.__class__") "__get__"=NQ (NQ (.builtin "getset_descriptor.__get__"))
 tk:takesIn K (.builtin "object.__class__")=NQ NS
 ob:mroIn K C (.type "object")=NQ NS
 be:mroIn K C (.type "BaseException")=NQ NS
 iz:(clsIn K C).isSome=NS
def fY (a C:Ij) (h:Heap):Prop:=∃ o,h.get? a=NQ o/\o.cls=.ref C
theorem cQ {M:Model} {h:Heap} (x:fY a C h):Looks M h (typeOf (.ref a)) (.ref C):=by
 obtain⟨o,c,b⟩:=x;exact b▸(Looks.ld c).andThen .now
theorem wm {M:Model} {h:Heap} {x:NT} {nm:Str} {d g:NT} (X:K.In h) (e:findIn K (.ref C) nm=NQ (NQ d)) (c:specialIn K d "__get__"=NQ (NQ g)) (b:takesIn K d=NQ NS):Looks M h (find x (.ref C) nm) (.bind g d):=by
 have i:=looks_findIn (M:=M) X e;have L2:Looks M h (getOf (NQ d)) (NQ g):=looks_specialIn X c;have f:Looks M h (dataDescriptor? (NQ d) (NQ g)) (NQ (g,d)):=(looks_takesIn (M:=M) X b).andThen .now;exact i.andThen (L2.andThen (f.andThen (Looks.tag .now)))
theorem o7 {R:Result->NU->Prop} {b:NT} (X:K.In s.heap) (I:fY a C s.heap) (c:mroIn K C (.type "object")=NQ NS) (h:R (.ok (.ret (.ref C))) s) :
  codeAny (model prog w) A (.call (.builtin "getset_descriptor.__get__") ⟨[.builtin "object.__class__",.ref a,b],[]⟩) R s:=by
 obtain⟨d,g,e,t,os⟩:=s;have i:=cQ (M:=model prog w) I;have f:=looks_mroIn (M:=model prog w) X c;refine codeAny_call_builtin KF.slot_gs.plain KF.entry_gs (KF.slot_gs.check _ _ _ _ _ _ _ _ KF.type_class (KF.args_gs _ _ _) ?_);unfold Builtin.«getset_descriptor.__get__» descrGet;rw [dga_obj];refine Ic (Ip ?_);unfold descrGetter descrCheckInstance descrNameAndClass isInstance;simp only [KF.owner_class]
 repeat lk
 refine⟨Code.quiet_builtin _ (by decide +kernel),codeAny_builtin KF.entry_class ?_⟩;unfold Builtin.«object.__class__» shownTypeOf
 repeat lk
 exact h
theorem Am {M:Model} {b:NT} {Q:Unit->NU->Prop} (X:K.In s.heap) (I:fY a C s.heap) (f:ExcWays K C) (h:Q () s):IK M A (checkBuiltinCall "BaseException.__getattribute__" ⟨[.ref a,b],[]⟩) Q E s:=by
 obtain⟨k,g,l,t,os⟩:=s;have d:builtinKind "BaseException.__getattribute__"=NQ .slot:=by decide +kernel
 have c:splitId "BaseException.__getattribute__"=NQ ("BaseException","__getattribute__"):=by decide +kernel
 have j:=cQ (M:=M) I;have i:=looks_mroIn (M:=M) X f.be;have e:=F.args_bexc_ga (.ref a) b;simp only [checkBuiltinCall,d,c];unfold isInstance;refine Ic (Ic (j.at (i.at ?_)));rw [JP,NL Ie];exact wpAny_of_eq e h
theorem CG {Q:N7->NU->Prop} (X:K.In s.heap) (I:fY a C s.heap) (b:ExcWays K C) (h:Q (NQ (.ref C)) { s with toks:=s.toks+1 }):IK (model prog w) A (getAttr? (.ref a) "__class__") Q E s:=by
 obtain⟨j,g,d,t,os⟩:=s;have c:=cQ (M:=model prog w) I;have i:=looks_findIn (M:=model prog w) X b.ga;have L2:=looks_findIn (M:=model prog w) X b.gt;unfold getAttr? getAttrBy? getAttrBy;refine Ic (wpAny_mkText (Ic (L6 (Ji (Ic (c.at (Ic (i.at ?_))))))));dsimp only;rw [NL (by
  have z:(Value.builtin "BaseException.__getattribute__" == Value.builtin "object.__getattribute__")=NV:=by decide +kernel
  rw [z,Mq];exact Ie)]
 unfold getAttrByItsOwn hookBefore;rw [NM (show onTheHeap (Value.ref C)=NS from rfl)];refine Ic (L2.at (Ic (L6 (Ji ?_))));unfold callGetattribute;rw [K1,NL Ie];unfold boundAndCalled;have e:=Nh.ga.bind (.ref a);rw [e];refine Ic (Ip ?_);dsimp only;refine wpAny_call (codeAny_call_builtin Nh.ga.plain F.entry_bexc_ga (Am (K:=K) (C:=C) X I b ?_));have f:=wm (M:=model prog w) (x:=.ref a) X b.cl b.gs b.tk;unfold Builtin.«object.__getattribute__»;refine Ic (wpAny_of_eq (a:=(Value.ref a,[Value.str (Ko "__class__") t])) rfl ?_);dsimp only;refine Ic (wpAny_of_eq (a:=(Ko "__class__")) rfl ?_);refine Ic (c.at (Ic (f.at ?_)));dsimp only;unfold bindTo;refine Ic (wpAny_call (o7 (K:=K) X I b.ob ?_));show IK _ _ (pure _) _ _ _;refine Ip ?_;dsimp only;exact handed_on rfl (Ip h)
theorem An (f:ExcWays K C):KitX K (.ref a) (.ref C) (fY a C) where
 ty:=λ_ _ _ I=>cQ I
 it:=λ_ _ X _=>by
  obtain⟨j,b⟩:=Kn.mp f.iz;unfold clsIn at b;split at b
  ·rename_i c;intro t p r m k q;unfold isType loadHead;exact Ic (wpAny_loadPart (k _ _ (X _ _ c)) (Ip q))
  ·cases b
 ne:=λh g o i n l X d=>by
  obtain⟨j,b⟩:=Kn.mp f.iz;refine Bool.eq_false_iff.mpr λq=>?_;have e:C=g:=Value.ref.inj (beq_iff_eq.mp q);unfold clsIn at b;split at b
  ·rename_i c;have z:=X _ _ c;rw [e] at z;rw [d] at z;cases z
  ·cases b
 ca:=λX I k=>CG X I f k
end
structure FnInX (P:NY) (w:NX) (K:Ih) (mg:Str->N7) (base:Heap) (k:Nat) (x:Str) (ps:Oa) (sp:Sp):Prop where
 ex:∃ (f:Ij) (fd:FuncData),FnOk P w K mg base (CXe P w) k f fd ps sp/\mg x=NQ (.ref f)/\JW K (.ref f)=NS/\Binds K fd ps []
def Fm (K:Ih):List V->Hp->VK->Prop:=λc H Q=>∃ (a:Ij) (b:Ou),c=[.ref a]/\SqL K H a (b.map V.bl)/\Q (.bl (b.all id)) H
def HV (K:Ih):List V->Hp->VK->Prop:=λc H Q=>∃ (a:Ij) (b:Ou),c=[.ref a]/\SqL K H a (b.map V.bl)/\Q (.bl (b.any id)) H
theorem fZ:∀ {bs:Ou} {a:N6},Vals (bs.map V.bl) a->a=bs.map Value.bool
 | [],a,r=>by
  cases r;rfl
 | b :: bs,a,r=>by
  cases r with
  | cons h t =>
   rw [fZ t];cases (show _=Value.bool b from h);rfl
theorem range_all (bs:Ou):(IQ bs.length).all (λi=>bs.getD i NV)=bs.all id:=by
 rw [M5,Kz,Kz];constructor
 ·intro h b d;obtain⟨i,c,rfl⟩:=Ni.mp d;have:=h i (Jb.mpr c)
  rwa [Il,Ia c] at this
 ·intro h i c;have a:=Jb.mp c;rw [Il,Ia a];exact h _ (Jm a)
theorem range_any (bs:Ou):(IQ bs.length).any (λi=>bs.getD i NV)=bs.any id:=by
 rw [M5,MN,MN];constructor
 ·rintro⟨i,c,h⟩;have a:=Jb.mp c;rw [Il,Ia a] at h;exact⟨_,Jm a,h⟩
 ·rintro⟨b,d,h⟩;obtain⟨i,c,rfl⟩:=Ni.mp d;refine⟨i,Jb.mpr c,?_⟩;rw [Il,Ia c];exact h
theorem eH (prog:NY) (w:NX) (A:NZ) (bs:Ou):TruthOf prog w A (λi v=>(bs.map Value.bool).toArray[i]?=NQ v) (λi=>bs.getD i NV):=by
 intro i v s Q E a c;rw [List.getElem?_toArray,Iq] at a;cases eb:bs[i]? with
 | none=>rw [eb] at a;cases a
 | some b =>
  rw [eb] at a;cases a;dsimp only at c;rw [Il,eb] at c;exact Ip c
theorem wo {X:Cx} (t:X.calm=NS):yJ X (.builtin "all") (Fm X.K):=by
 intro D s y H B C Q I r h;obtain⟨a,x,rfl,l,q⟩:=h;obtain⟨u,rfl,i⟩:=vals1 r;cases i;obtain⟨k,g,p,_⟩:=I.list l;have c:=p.isList;rw [fZ g] at c;have v:a<s.heap.objs.size:=by
  obtain⟨o,m,_⟩:=c;exact IA m
 refine call_all_walk (wpAny_pyIter_list c ?_);have d:a≠s.heap.objs.size:=IU v;refine⟨s.heap.objs.size,_,_,_,_,_,_,rfl,Walks.list (show (X.A.in1).handled=NW from I.ok.hd t) _ a d _,⟨?_,?_⟩,eH _ _ _ x,λw f n=>?_⟩
 ·exact⟨_,IT _ rfl,rfl,rfl⟩
 ·exact c.at λo e=>Im _ e
 ·have j:∀ b o,s.heap.get? b=NQ o->w.get? b=NQ o:=λb o e=>n b o (by
   intro z;have:=IA e;rw [Iw.mp z] at this;exact Ka _ this) (Im _ e)
  refine⟨.bl _,H,I.kept (t':=f) j,?_,q⟩;show Value.bool _=Value.bool _;rw [II,Ib,range_all]
theorem iI {X:Cx} {K:Ih} (b:X.K=K) (a:X.calm=NS):yJ X (.builtin "all") (Fm K):=b▸wo a
section
variable {K:Ih} {f:Fx} {ρ:zu} {P:NR->Prop} {te:TE}
theorem cf {H:Hp}:∀ {bs:Ou} {xs:List V},Reps K H (bs.map .bool) xs->xs=bs.map V.bl
 | [],xs,r=>zQ.mp r
 | b :: bs,xs,r=>by
  obtain⟨x,d,rfl,c,a⟩:=zE.mp r;rw [cf a,ya.mp c];rfl
theorem Ek (h:PEd K f te ρ λx=>∃ bs:Ou,x=.list (bs.map .bool)/\P (.bool (bs.all id))):PEd K f (tCB (Fm K) (yy te qC)) ρ P:=λc H Q e q=>h c H _ e λx v k i d ⟨bs,j,p⟩=>by
 subst j;obtain⟨a,l,rfl,b,g⟩:=zI.mp d;rw [cf g] at b;exact⟨a,bs,rfl,(zo _ _).seq b,q _ _ k i (ya.mpr rfl) p⟩
end
section
variable {prog:NY} {w:NX} {A:NZ} {E:NT->NU->Prop}
theorem iJ {I:Ij} {x h:N8} {n:Nat} {P:Nat->NT->Prop} {g:Nat->Heap->Prop} (W:Walks prog w A I x h n P g):∀ (k i:Nat) (s:NU) (Q:N6->NU->Prop),i+k<=n->g i s.heap ->
  (∀ a h' tk,a.length=k->(∀ (j:Nat) v,a[j]?=NQ v->P (i+j) v)->g (i+k) h'->(∀ b o,b∉h->s.heap.get? b=NQ o->h'.get? b=NQ o)->Q a { s with heap:=h',toks:=tk })->IK (model prog w) A (draw (.ref I) k) Q E s
 | 0,i,s,Q,_,st,hQ=>Ip (hQ [] s.heap s.toks rfl (λj v e=>by simp at e) st λ_ _ _ e=>e)
 | k+1,i,s,Q,hle,st,hQ=>by
  show IK _ _ (pyNext (.ref I) >>= _) Q E s;refine Ic (W.item i s _ E (by lia) st λv y m p f k1=>?_);refine Ic (Ji (iJ W k (i+1) _ _ (by lia) f λa t c r q d k2=>Ip ?_));refine hQ (v :: a) t c (by rw [IJ,r]) (λj u e=>?_) (by rw [show i+(k+1)=i+1+k by lia];exact d) λb o l e=>k2 b o l (k1 b o l e);cases j with
  | zero=>cases e;exact p
  | succ j =>
   have:=q j u e
   rwa [show i+(j+1)=i+1+j by lia]
theorem o8 {s:NU} {a:Ij} {items:Array NT} {c:List (Bool×(NT->Sem Unit))} {Q:Unit->NU->Prop} (x:A.handled=NW) (g:s.heap.IsList a items)
  (v:c.length=items.size) (d:c.findIdx? (·.1)=NW)
  (h:∀ h' tk,(∀ b o,s.heap.get? b=NQ o->h'.get? b=NQ o)->IK (model prog w) A (assignInOrder (c.map (·.2)) items.toList) Q E { s with heap:=h',toks:=tk }):IK (model prog w) A (unpack (.ref a) c) Q E s:=by
 have y:a<s.heap.objs.size:=by
  obtain⟨o,u,_⟩:=g;exact IA u
 unfold unpack;rw [v,d];refine Ic (Ji ?_);unfold unpackItems;refine Ic ?_;unfold notIterableAtAll;refine Ic (La g.typeIs slot_list_iter.lookup (Ip ?_));simp only [Js,if_false];refine Ic (Ji (wpAny_pyIter_list g ?_));have W:=Walks.list (prog:=prog) (w:=w) x s.heap.objs.size a (IU y) items;have m:∀ b o,s.heap.get? b=NQ o->b∉[s.heap.objs.size]:=λb o e z=>by
  have:=IA e;rw [Iw.mp z] at this;exact Ka _ this
 refine Ic (Ji (iJ W items.size 0 _ _ (by lia) ⟨⟨_,IT _ rfl,rfl,rfl⟩,g.at λo e=>Im _ e⟩ λk D n r t f q=>?_));have C:k=items.toList:=by
  refine KR λj=>?_;by_cases l:j<k.length
  ·have:=t j _ (Ia l);rw [Ml] at this;rw [Ia l,<- this,J9]
  ·rw [Jf (by lia),Jf (by rw [IH];lia)]
 subst C;rw [NL (by simp)];rw [Ml] at f;refine Ic (Ji (W.done _ _ _ f λB i p=>?_));simp only [Option.isSome_none,Js,if_false];exact Ip (h B i λb o e=>p b o (m b o e) (q b o (m b o e) (Im _ e)))
end
def G6 (K:Ih) (n:Nat) (d:TGs):TG:=λv c H Q=>∃ a b,v=.ref a/\SqL K H a b/\b.length=n/\d b c H Q
theorem kQ {X:Cx} {K:Ih} {es:Od} {k:Nat} {t:TGs} {n:Nat} {pos:Pos} (w:X.K=K) (q:X.calm=NS) (h:PGs X es t)
  (m:(assignEach es X.env).length=n:=by rfl) (c:(assignEach es X.env).findIdx? (·.1)=NW:=by rfl):PG X (.Tuple es k pos) (G6 K n t):=by
 subst w;intro y s e H v u Q I r b;obtain⟨a,f,x,l,o,b⟩:=b;subst x;cases r;obtain⟨j,d,p,z⟩:=I.list l;rw [assign_Tuple];refine Ic (wpAny_standAt (o8 (I.ok.hd q) p.isList (by rw [m,<- o,d.length,II]) c λA g i=>?_));exact h y _ e H f _ Q (I.kept (t':=g) i) d b
section
variable {K:Ih} {f:Fx} {ρ:zu}
theorem tm {n:Nat} {d:TGs} {ds:Oo} {R:zu->Prop} (i:ds.length=n) (h:Ab K f d ds ρ R):PGd K f (G6 K n d) (.list ds) ρ R:=λg H v Q e r q=>by
 obtain⟨a,b,rfl,j,c⟩:=zI.mp r;exact⟨a,b,rfl,(zo _ _).seq j,by rw [c.length];exact i,h g H b Q e c q⟩
end
def Fn (K:Ih) (neg:Bool):R2:=λx y H Q=>∃ d a,Rep K H d x/\Rep K H (.list a) y/\d.canLay0=NS/\(∀ e∈a,e.canLay0=NS)/\d.depth<=50/\Q (.bl (if neg then !a.any (λe=>IX e d) else a.any (λe=>IX e d))) H
open Classical in
noncomputable def eqR (h:Heap) (d:NR) (u:NT):Bool:=if z:∃ e a,Reads h u e a/\e.canLay0=NS then IX z.choose d else NV
theorem Ao {h:Heap} {d e:NR} {u:NT} {a:N8} (r:Reads h u e a) (c:e.canLay0=NS):eqR h d u=IX e d:=by
 have z:∃ e a,Reads h u e a/\e.canLay0=NS:=⟨e,a,r,c⟩;unfold eqR;rw [dif_pos z];obtain⟨g,b,f⟩:=z.choose_spec;rw [SeqAt.Reads.unique _ _ _ _ _ f b r]
section
variable {X:Cx} {NJ:N9} {σ:St} {H:Hp} {s:NU}
theorem kR (I:Inv X NJ σ H s) {d:NR}:∀ {ds:Oo} {xs:List V} {a:N6},Reps X.K H ds xs->Vals xs a->(∀ e∈ds,e.canLay0=NS)->a.any (eqR s.heap d)=ds.any (λe=>IX e d)
 | [],xs,a,r,v,_=>by
  rw [zQ.mp r] at v;cases v;rfl
 | e :: ds,xs,a,r,v,c=>by
  obtain⟨x,b,rfl,k,j⟩:=zE.mp r;cases v with
  | cons h g =>
   obtain⟨l,f⟩:=jh I e x _ k h;rw [LY,LY,Ao f (c e Ik),kR I j g λe i=>c e (Ii _ i)]
theorem gf (I:Inv X NJ σ H s) {A:NZ} {d:NR} {v:NT} {bs:N8} (g:Reads s.heap v d bs) (i:d.canLay0=NS) (dd:d.depth<=50) (b:A.units+60<JR):∀ {ds:Oo} {xs:List V} {a:N6},Reps X.K H ds xs->Vals xs a->(∀ e∈ds,e.canLay0=NS)->∀ u∈a,SeqAt.EqAt A s u v (eqR s.heap d u)
 | [],xs,a,r,w,_=>by
  rw [zQ.mp r] at w;cases w;intro u b;cases b
 | e :: ds,xs,a,r,w,c=>by
  obtain⟨x,j,rfl,o,n⟩:=zE.mp r;cases w with
  | cons l k =>
   intro u f;rcases Iv.mp f with rfl | f
   ·obtain⟨p,h⟩:=jh I e x _ o l;rw [Ao h (c e Ik)];refine SeqAt.eqAt_reads e d A s _ v p bs h g (c e Ik) i ?_;have:=JY e.depth d.depth;lia
   ·exact gf I g i dd b n k (λe m=>c e (Ii _ m)) u f
theorem Fo (B:X.A.units+64<JR):OpR X (JI .In) (Fn X.K NV):=by
 intro NJ s σ H x y v u Q I g f h;obtain⟨d,C,n,m,p,e,o,q⟩:=h;obtain⟨a,t,rfl,l,c⟩:=zI.mp m;cases f;obtain⟨D,i⟩:=jh I d x v n g;obtain⟨b,r,j,z⟩:=I.list l;refine SeqAt.in_listAt (eqR s.heap d) j.isList (λw k=>gf I i p o (show X.A.in1.units+60<JR from by show X.A.units+1+60<JR;lia) c r e w (by simpa using k)) ⟨.bl _,H,I,rfl,?_⟩;rw [show b.toArray.any (eqR s.heap d)=b.any (eqR s.heap d) by simp,kR I c r e];exact q
theorem tw {K:Ih} (b:X.K=K) (a:X.A.units+64<JR):OpR X (JI .In) (Fn K NV):=b▸Fo a
theorem wq {K:Ih} (a:X.K=K):OpR X (JI .NotIn) (rIn K NS):=a▸kE
end
section
variable {K:Ih} {f:Fx} {ρ:zu} {P:NR->Prop} {te ta tb:TE} {t:TA} {D:DEnds} {i j:Nat}
theorem El (h:PEd K f ta ρ λd=>PEd K f tb ρ λy=>∃ ds,y=.list ds/\d.canLay0=NS/\(∀ e∈ds,e.canLay0=NS)/\d.depth<=50/\P (.bool (ds.any λe=>IX e d))):PEd K f (tOp (Fn K NV) ta tb) ρ P:=λa H Q e q =>
 h a H _ e λd v u c k m=>m a u _ (e.mono c) λy w s b g ⟨ds,n,r,p,o,l⟩=>by
  subst n;exact⟨d,ds,Rep.mono (zo _ _) _ _ (Rep.mono b.sm _ _ k),Rep.mono (zo _ _) _ _ g,r,p,o,q _ _ s (c.trans b) (ya.mpr rfl) l⟩
theorem Ap (h:PEd K f ta ρ λd=>∃ n:Int,d=.int n/\PEd K f tb ρ λy=>∃ ns:Oh,y=.tuple (ns.map .int)/\P (.bool (!ns.contains n))):PEd K f (tOp (rIn K NS) ta tb) ρ P:=λb H Q e q =>
 h b H _ e λd v C c k ⟨n,z,o⟩=>o b C _ (e.mono c) λy w B s g ⟨ns,u,l⟩=>by
  subst z u;obtain⟨a,E,rfl,r,p⟩:=zZ.mp g;have x:=p.ints;subst x;rw [zw.mp k];have A:inV (.int n) (ns.map V.int)=ns.contains n:=by
   unfold inV;rw [List.any_map,List.contains_eq_any_beq]
   congr 1
   funext m
   show (m == n)=(n == m);exact BEq.comm
  refine⟨a,_,rfl,.inr ((zo _ _).seqT r),rfl,?_,?_⟩
  ·rw [List.all_map];exact Kz.mpr λ_ _=>rfl
  ·rw [NM rfl,A];exact q _ _ B (c.trans s) (ya.mpr rfl) l
end
section
variable {K:Ih} {f:Fx} {ρ:zu} {E:XK} {te:TE} {ts tu:TS} {tt:TT} {t:TA} {P:NR->Prop} {D:DEnds}
theorem G7 (h:PEd K f te ρ λx=>∃ i,x=.int i/\P (.int (-i))):PEd K f (tUn (rU λi=>.int (-i)) te) ρ P :=
 HU (h.imp λx ⟨i,b,p⟩ v H Q a r q=>by
  subst b;exact⟨i,zw.mp r,q _ _ H (.refl a) (zw.mpr rfl) p⟩)
end
end L2
end
section
namespace L2
open PySem PySem.Spec PyProof.Rows
def Fp (K:Ih):List V->Hp->VK->Prop:=λc H Q=>∃ (a:Ij) (b:Oh),c=[.ref a]/\SqL K H a (b.map V.int)/\Q (.int b.sum) H
theorem wt {X:Cx} (o:X.calm=NS):yJ X (.builtin "sum") (Fp X.K):=by
 intro y s t H v w Q I r h;obtain⟨a,d,rfl,n,q⟩:=h;obtain⟨u,rfl,l⟩:=vals1 r;cases l;obtain⟨b,k,p,_⟩:=I.list n;have f:=p.isList;have g:IntsAre b d:=intsAre_of k;obtain⟨c,i⟩:=g.allInts.items;rw [i] at f;refine sum_intListG (show (X.A).handled=NW from I.ok.hd o) f λx j t' m=>⟨.int _,H,I.kept (t':=j) m,⟨_,rfl⟩,?_⟩;have e:preSum (numAt c) c.size=d.sum:=by
  rw [<-g.numsOf,show b=b.toArray.toList from rfl,i,nums_intItems,preSum_eq,MV (by simp)]
 rw [e];exact q
theorem gh {X:Cx} {K:Ih} (b:X.K=K) (a:X.calm=NS):yJ X (.builtin "sum") (Fp K):=b▸wt a
section
variable {K:Ih} {f:Fx} {ρ:zu} {P:NR->Prop} {te:TE}
theorem Em (h:PEd K f te ρ λx=>∃ ns:Oh,x=.list (ns.map .int)/\P (.int ns.sum)):PEd K f (tCB (Fp K) (yy te qC)) ρ P:=λc H Q e q=>h c H _ e λx v k i d ⟨ns,j,p⟩=>by
 subst j;obtain⟨a,l,rfl,b,g⟩:=zI.mp d;rw [g.ints] at b;exact⟨a,ns,rfl,(zo _ _).seq b,q _ _ k i (zw.mpr rfl) p⟩
end
section
variable {prog:NY} {w:NX} {A:NZ} {E:NT->NU->Prop} {s:NU}
theorem CH {t b:Ij} {c a:N6} {Q:NT->NU->Prop} (r:PlainL s.heap t c.toArray) (u:PlainL s.heap b a.toArray)
  (v:Q (.ref s.heap.objs.size) { s with heap:=s.heap.push { cls:=.type "list",data:=.seq (c++a).toArray } })
  (i:c.length+a.length<=Jr):IK (model prog w) A (binaryOp .Add (.ref t) (.ref b)) Q E s:=by
 obtain⟨⟨cls,x,data,p⟩,n,k,m,_,l⟩:=r;obtain⟨⟨o,j,data2,h⟩,q,d,g,_,f⟩:=u;simp only at m l g f;subst m l g f;have e:c.toArray++a.toArray=(c++a).toArray:=by simp
 refine concat_meets ⟨_,k,rfl⟩ ⟨_,d,rfl⟩ noFill_list_add seq_list_add PySem.F.slot_list_add PySem.F.entry_list_add (PySem.F.args_list_add_2 _ _) (list_addW t b c.toArray a.toArray n q x j p h (by rw [II,II];exact i)) ⟨k,d,?_⟩;rw [e];exact v
end
def Aq (K:Ih):R2:=λx y H Q=>∃ l b c a,x=.ref l/\y=.ref b/\SqL K H l c/\SqL K H b a/\c.length+a.length<=Jr/\∀ p,H p=NW->Q (.ref p) (upd H p (.lst (c++a)))
section
variable {X:Cx}
theorem CI:OpR X (binaryOp .Add) (Aq X.K):=by
 intro t s o H x y v u Q I f e h;obtain⟨l,b,r,p,rfl,rfl,n,m,k,q⟩:=h;cases f;cases e;obtain⟨j,c,i,_⟩:=I.list n;obtain⟨d,a,g,_⟩:=I.list m;refine CH i g ?_ (by rw [<-c.length,<- a.length];exact k);exact⟨.ref _,_,I.lnew (t':=s.toks) (c.append a) (by rw [IE];lia),rfl,q _ I.fresh⟩
theorem aS {K:Ih} (a:X.K=K):OpR X (binaryOp .Add) (Aq K):=a▸CI
end
section
variable {K:Ih} {f:Fx} {ρ:zu} {P:NR->Prop} {te ta tb:TE} {t:TA}
theorem gj (h:PEd K f ta ρ λx=>∃ ds,x=.list ds/\PEd K f tb ρ λy=>∃ es,y=.list es/\ds.length+es.length<=1000/\P (.list (ds++es))):PEd K f (tOp (Aq K) ta tb) ρ P:=λd H Q e q =>
 h d H _ e λx v I n s ⟨ds,G,z⟩=>z d I _ (e.mono n) λy w o c r ⟨es,F,C,u⟩=>by
  subst G F;obtain⟨a,i,rfl,E,l⟩:=zI.mp (Rep.mono c.sm _ _ s);obtain⟨b,g,rfl,D,k⟩:=zI.mp r;have B:=l.length;have A:=k.length;refine⟨a,b,i,g,rfl,rfl,(zo _ _).seq E,(zo _ _).seq D,by rw [B,A];exact JL (z7 C),λp j=>?_⟩;have m:Goes f o (upd o p (.lst (i++g))):=.of_same (yf j _) c.ok;exact q (.list (ds++es)) _ _ (n.trans (c.trans m)) (zI.mpr ⟨p,_,rfl,.of (zG (fresh_ne c.ok j) zy),Reps.mono m.sm _ _ (l.append k)⟩) u
theorem cR {R:Oo->Prop} (h:PAd K f t ρ λxs=>∃ ds,af xs=NQ ds/\ds.length<=1000/\R ds):PEdO K f (uZ t) ρ R:=λm H Q e q =>
 h m H _ e λxs i k g n ⟨ds,v,r,p⟩=>by
  have j:=bq n v;refine⟨by rw [j.length];exact JL (z7 r),λl d=>?_⟩;have u:Goes f k (upd k l (.lst i)):=.of_same (yf d _) g.2;have w:=fresh_ne g.2 d;refine q ds l i _ (g.trans u) (g.free e.fd d) zy (Reps.mono (λb o s=>?_) _ _ j) p;have a:=zW s;have c:b≠l:=λz=>by
   have:=a.2;rw [z,d] at this;cases this
  refine zG (λz=>?_) (by rw [zx c];exact a.2);rcases z with z | z
  ·exact a.1 (.inl z)
  ·rcases Iv.mp z with z | z
   ·exact c z
   ·exact a.1 (.inr z)
end
def spN {h:Type} (K:Ih) (n:Nat) (g:h->List DV->Prop) (b:h->Oo->Prop):Sp:=λj H Q _=>∃ f e c,RepVs K f H e j/\e.length=n/\FOk f H/\g c e /\
 ∀ i D a d,Goes f H d->H D=NW->d D=NQ (.lst a)->Reps K (hide d (f.with D)) i a->b c i->Q (.ref D) d
def PSn (K:Ih) (f:Fx) (ts:TS) (e:zu) (R:Oo->Prop):Prop:=∀ (b:St) (H:Hp) (E:Ends),EnvOk K f e b H ->
 (∀ d D c a,Goes f H a->H D=NW->a D=NQ (.lst c)->Reps K (hide a (f.with D)) d c->R d->E.rt (.ref D) a)->ts E b H
section
variable {K:Ih} {f:Fx} {ρ:zu} {R:Oo->Prop} {te:TE} {ts tu:TS} {tt:TT} {t:TA} {i:Nat} {D:Ij} {es:Oo} {O:OEnds}
theorem gk (h:PEdO K f te ρ R):PSn K f (g9 te) ρ R:=λa H E e q=>h a H E.rt e q
theorem vj (h:PSd K f ts ρ { nx:=λa=>PSn K f tu a R,rt:=λ_=>False }):PSn K f (jK ts tu) ρ R:=λd H E e q =>
 h d H _ e (λa b s c n p=>p b s E n λes D g o m k l j r=>q es D g o (c.trans m) (c.free e.fd k) l j r) (λ_ _ _ _ _ z=>z.elim) (λ_ _ _ _ _ z=>z.elim) (λ_ _ _ _ _ z=>z.elim)
theorem Ar (h:PTd K f tt ρ λb=>if b=NS then PEdO K f te ρ R else PSn K f tu ρ R):PSn K f (jK (xK tt (g9 te) sN) tu) ρ R:=λj H E e q =>
 h j H _ e λb g d p=>by
  have k:∀ es D c a,Goes f g a->g D=NW->a D=NQ (.lst c)->Reps K (hide a (f.with D)) es c->R es->E.rt (.ref D) a:=λes D c a m l=>q es D c a (d.trans m) (d.free e.fd l);cases b with
  | true=>rw [NM rfl] at p ⊢;exact p j g E.rt (e.mono d) k
  | false=>rw [NL Ie] at p ⊢;exact p j g E (e.mono d) k
theorem ai {d:Type} {n:Nat} {b:d->List DV->Prop} {a:d->Oo->Prop} {E:XK} (c:d) (h:PAd K f t ρ λxs=>xs.length=n/\b c xs/\∀ es,a c es->R es):PEdO K f (bP (spN K n b a) [] E t) ρ R:=λl H Q e q =>
 h l H _ e λxs y z j o ⟨u,r,k⟩=>⟨f,xs,c,by rw [Jo];exact o,u,j.2,r,λes D g x w s v m p=>q es D g x (j.trans w) (j.free e.fd s) v m (k es p)⟩
theorem En {l k:TE} (h:PTd K f tt ρ λb=>if b=NS then PEdO K f l ρ R else PEdO K f k ρ R):PEdO K f (tIf tt l k) ρ R:=λj H Q e q =>
 h j H _ e λb g d p=>by
  have m:∀ es D c a,Goes f g a->g D=NW->a D=NQ (.lst c)->Reps K (hide a (f.with D)) es c->R es->Q (.ref D) a:=λes D c a o n=>q es D c a (d.trans o) (d.free e.fd n);cases b with
  | true=>rw [NM rfl] at p ⊢;exact p j g Q (e.mono d) m
  | false=>rw [NL Ie] at p ⊢;exact p j g Q (e.mono d) m
end
section
variable {P:NY} {w:NX} {K:Ih} {mg:Str->N7} {base:Heap} {k:Nat} {x:Str} {st:Stmt} {ps:Oa} {N:Oa} {n:Nat} {γ:Type} {pre:γ->List DV->Prop} {post:γ->Oo->Prop}
theorem Def.okN (F:Def K mg x st ps) (S:FnScope N ps (zi st)) (B:ps.length=n)
  (h:∀ (d:Ij) (b:NT) (A:NZ) (a:Ob) (s:NU) (H:Hp) (E:XK),Room k (A.deeper (envOfC x (zi st) s.heap.objs.size d b)) ->
   ∃ t,PSs (zV CX0 P w K mg base N x (zi st) d b A a s H E).nox (ym st) t/\∀ (f:Fx) (xs:List DV) (c:γ),xs.length=n->pre c xs->PSn K f t (jC N xs) (post c)) :
  FnIn P w K mg base (k+1) x ps (spN K n pre post):=by
 obtain⟨d,J,o,F2,O⟩:=F.ex;refine⟨d,J,o.ok S (λm H Q E h=>?_) (λb A a s H m Q E y v=>?_),O,o.kp,F2⟩
 ·obtain⟨f,xs,c,r,j,_⟩:=h;rw [r.length,j,B]
 ·obtain⟨f,xs,c,r,j,I,z,q⟩:=v;obtain⟨t,G,C⟩:=h d b A a s H E y;exact⟨t,G,C f xs c j z (start N m) H _ (y6 r I) (λL D e M g i l u p=>q L D e M g i l u p)⟩
end
section
variable {X:Cx} {NJ:N9} {σ:St} {H:Hp} {s:NU} {h':Heap}
theorem Inv.keptL {t':Nat} (I:Inv X NJ σ H s) (k:∀ b u,b≠X.env.locals->s.heap.get? b=NQ u->h'.get? b=NQ u) (f:∃ o,h'.get? X.env.locals=NQ o) (ns:∀ m,s.heap.Ns X.env.locals m->h'.Ns X.env.locals m):Inv X NJ σ H { s with heap:=h',toks:=t' }:=by
 have d:H X.env.locals=NW:=I.free;refine I.step (g':=s.gens) (d':=s.drawn) (ch:=[]) (λ_ z=>nomatch z) (λb o n _ _ e _=>k b o n e) (λb o n _ _ e _=>⟨o.slots,k b o n e⟩) (λb o _ _ e=>e) (λb o _ e=>?_) (λ_ _ e=>e) (λ_ _ _ e=>e) (λ_ _ e=>e) ns (λa o e=>(I.hok a o e).stay (λb u c q=>k b u (λz=>?_) q) (λ_ q=>q) λ_ _ q=>q) I.bare
 ·by_cases c:b=X.env.locals
  ·subst c;exact f
  ·exact⟨o,k b o c e⟩
 ·rcases c with c | c
  ·rw [<-c,z,d] at e;cases e
  ·rw [z,d] at c;cases c
end
section
variable {X:Cx} {NJ:N9} {σ:St} {H:Hp} {s:NU} {h':Heap}
theorem Inv.laidL {t':Nat} {D:Ij} {o:HO} (I:Inv X NJ σ H s) (k:∀ b u,b≠X.env.locals->s.heap.get? b=NQ u->h'.get? b=NQ u) (p:∃ o,h'.get? X.env.locals=NQ o) (ns:∀ m,s.heap.Ns X.env.locals m->h'.Ns X.env.locals m)
  (l:∀ b u,s.heap.get? b=NQ u->b≠D) (f:H D=NW) (g:ObjOk X.prog X.w (upd H D o) h' D o):Inv X NJ σ (upd H D o) { s with heap:=h',toks:=t' }:=by
 have i:H X.env.locals=NW:=I.free;refine I.step (g':=s.gens) (d':=s.drawn) (ch:=[]) (λ_ z=>nomatch z) (λb o n _ _ e _=>k b o n e) (λb o n _ _ e _=>⟨o.slots,k b o n e⟩) (λb u _ e n=>by rw [zx (l b u e)];exact n) (λb o _ e=>?_) (λb j e=>by rw [zx (zN e f)];exact e) (λb u v e=>by rw [zx (zN e f)];exact e) (λb r e=>by rw [zx (zN e f)];exact e) ns (λa u e=>?_) I.bare
 ·by_cases d:b=X.env.locals
  ·subst d;exact p
  ·exact⟨o,k b o d e⟩
 ·by_cases h:a=D
  ·subst h;rw [zy] at e;cases e;exact g
  ·rw [zx h] at e;refine (I.hok a u e).stay (λb v d q=>k b v (λz=>?_) q) (λc q=>by rw [zx (zN q f)];exact q) λc j q=>by rw [zx (zN q f)];exact q
   rcases d with d | d
   ·rw [<-d,z,i] at e;cases e
   ·rw [z,i] at d;cases d
end
theorem tup_ne {h:Heap} {L a:Ij} {m:Str->N7} {its:Array NT} (n:h.Ns L m) (t:IsTup h a its):a≠L:=λz=>by
 obtain⟨o,g,i,d,r⟩:=n;obtain⟨e,b,f,k,c⟩:=t;rw [z,d] at b;cases b;rw [r.1] at c;cases c
theorem mU {h h':Heap} {a:Ij} {its:Array NT} (t:IsTup h a its) (k:∀ u,h.get? a=NQ u->h'.get? a=NQ u):IsTup h' a its :=
 let⟨o,b,r⟩:=t
 ⟨o,k o b,r⟩
end L2
end
section
namespace L2
open PySem PySem.W PyProof.Rows
structure Tot (n:Nat) (lt:Nat->Nat->Bool):Prop where
 tri:∀ i j,i<n->j<n->i≠j->lt i j=!lt j i
 tra:∀ i j k,i<n->j<n->k<n->lt i j=NS->lt j k=NS->lt i k=NS
def Ans (a:Nat->Nat->(Bool->NU->Prop)->NU->Prop) (n:Nat) (lt:Nat->Nat->Bool) (s:NU):Prop:=∀ i j C,i<n->j<n->C (lt i j) s->a i j C s
def Pm (n:Nat) (p:Array Nat):Prop:=p.toList.Perm (IQ n)
def Up (lt:Nat->Nat->Bool) (p:Array Nat) (m:Nat):Prop:=∀ i j,i<j->j<m->lt (p.getD i 0) (p.getD j 0)=NS
def Dn (lt:Nat->Nat->Bool) (p:Array Nat) (m:Nat):Prop:=∀ i j,i<j->j<m->lt (p.getD j 0) (p.getD i 0)=NS
theorem Pm.size {n:Nat} {p:Array Nat} (h:Pm n p):p.size=n:=by
 have:=h.length_eq
 rwa [IH,Jh] at this
theorem vk (p:Array Nat) (i:Nat):p.getD i 0=p.toList.getD i 0:=by
 by_cases h:i<p.size <;> simp [K4,h,List.getD]
theorem Pm.lt {n:Nat} {p:Array Nat} (h:Pm n p) {i:Nat} (c:i<n):p.getD i 0<n:=by
 have b:=h.size;have a:i<p.toList.length:=by rw [IH,b];exact c
 rw [vk,Il,Ia a];exact Jb.mp (h.mem_iff.mp (Jm a))
theorem Pm.ne {n:Nat} {p:Array Nat} (h:Pm n p) {i j:Nat} (k:i<n) (g:j<n) (b:i≠j):p.getD i 0≠p.getD j 0:=by
 have a:=h.size;have c:p.toList.Nodup:=h.nodup_iff.mpr MO;have f:i<p.toList.length:=by rw [IH,a];exact k
 have d:j<p.toList.length:=by rw [IH,a];exact g
 rw [vk,vk,Il,Il,Ia f,Ia d];intro e;exact b ((LV c).mp e)
theorem Pm.range (n:Nat):Pm n (JQ (IQ n)):=List.Perm.refl _
theorem Pm.of {n:Nat} {p q:Array Nat} (h:Pm n p) (e:q.Perm p):Pm n q:=(Array.perm_iff_toList_perm.mp e).trans h
theorem tB {p q:Array Nat} {i j:Nat} (h:p[i]?=q[j]?):p.getD i 0=q.getD j 0:=by
 rw [Kw,Kw,h]
section
variable {cmp:Nat->Nat->(Bool->NU->Prop)->NU->Prop} {n:Nat} {lt:Nat->Nat->Bool} {s:NU} {p:Array Nat}
theorem Up.more (T:Tot n lt) (a:Pm n p) {m:Nat} (g:1<=m) (c:m<n) (u:Up lt p m) (h:lt (p.getD (m - 1) 0) (p.getD m 0)=NS):Up lt p (m+1):=λi j b f=>by
 by_cases e:j=m
 ·subst e;by_cases d:i=j - 1
  ·subst d;exact h
  ·exact T.tra _ _ _ (a.lt (by lia)) (a.lt (by lia)) (a.lt c) (u i (j - 1) (by lia) (by lia)) h
 ·exact u i j b (by lia)
theorem Dn.more (T:Tot n lt) (a:Pm n p) {m:Nat} (g:1<=m) (c:m<n) (u:Dn lt p m) (h:lt (p.getD m 0) (p.getD (m - 1) 0)=NS):Dn lt p (m+1):=λi j b f=>by
 by_cases e:j=m
 ·subst e;by_cases d:i=j - 1
  ·subst d;exact h
  ·exact T.tra _ _ _ (a.lt c) (a.lt (by lia)) (a.lt (by lia)) h (u i (j - 1) (by lia) (by lia))
 ·exact u i j b (by lia)
theorem fk (T:Tot n lt) (W:Ans cmp n lt s) (h:Pm n p) {Q:Nat->NU->Prop}:∀ f m,1<=m->m+f<=n->Up lt p m->(∀ g,m<=g->g<=m+f->Up lt p g->(g=m+f \/ lt (p.getD g 0) (p.getD (g - 1) 0)=NS)->Q g s)->(kas_asc p f m).kasWp cmp Q s
 | 0,m,h1,hf,u,q=>q m (Iu _) (Iu _) u (.inl rfl)
 | f+1,m,h1,hf,u,q=>by
  refine W _ _ _ (h.lt (by lia)) (h.lt (by lia)) ?_;cases e:lt (p.getD m 0) (p.getD (m - 1) 0) with
  | true=>exact q m (Iu _) (by lia) u (.inr e)
  | false =>
   have i:lt (p.getD (m - 1) 0) (p.getD m 0)=NS:=by
    rw [T.tri _ _ (h.lt (by lia)) (h.lt (by lia)) (h.ne (by lia) (by lia) (by lia)),e];rfl
   exact fk T W h f (m+1) (by lia) (by lia) (u.more T h h1 (by lia) i) λg a b c d=>q g (by lia) (by lia) c (d.imp (λz=>by lia) id)
theorem mV (T:Tot n lt) (W:Ans cmp n lt s) (d:Pm n p) {Q:Array Nat×Nat×Nat->NU->Prop}:∀ f m,1<=m->m+f<=n->Dn lt p m->(∀ g,m<=g->g<=m+f->Dn lt p g->Q (p,g,0) s)->(kas_desc f p m 0).kasWp cmp Q s
 | 0,m,h1,hf,u,q=>q m (Iu _) (Iu _) u
 | f+1,m,h1,hf,u,q=>by
  refine W _ _ _ (d.lt (by lia)) (d.lt (by lia)) ?_;cases e:lt (p.getD m 0) (p.getD (m - 1) 0) with
  | true=>exact mV T W d f (m+1) (by lia) (by lia) (u.more T d h1 (by lia) e) λg a b c=>q g (by lia) (by lia) c
  | false =>
   have h:lt (p.getD (m - 1) 0) (p.getD m 0)=NS:=by
    rw [T.tri _ _ (d.lt (by lia)) (d.lt (by lia)) (d.ne (by lia) (by lia) (by lia)),e];rfl
   refine W _ _ _ (d.lt (by lia)) (d.lt (by lia)) ?_;rw [h];exact q m (Iu _) (by lia) u
theorem Fq {m:Nat} (a:m<=p.size) (d:Dn lt p m):Up lt (kas_rev p 0 m) m:=λi j e c=>by
 have g:∀ k,k<m->(kas_rev p 0 m).getD k 0=p.getD (m - 1 - k) 0:=λk b=>tB (by
  unfold kas_rev;rw [getElem?_mirror_all a,NM ⟨IV _,b⟩,Ml])
 rw [g i (by lia),g j c];exact d _ _ (by lia) (by lia)
theorem wu (T:Tot n lt) (W:Ans cmp n lt s) (f:Pm n p) (x:1<=n) {Q:Nat×Array Nat->NU->Prop} (q:∀ m h,1<=m->m<=n->Pm n h->Up lt h m->Q (m,h) s):(kas_count n p).kasWp cmp Q s:=by
 unfold kas_count;rw [KasT.kasWp_bind];refine fk T W f (n - 1) 1 (Iu _) (by lia) (λi j a b=>by lia) λm l y u c=>?_;by_cases e:(m == n)=NS
 ·rw [NM e];exact q m p l (by lia) f u
 ·rw [NL e];have v:m<n:=by
   have:m≠n:=λz=>e (by rw [z];exact beq_self_eq_true _);lia
  by_cases o:m > 1
  ·rw [NM o];refine W _ _ _ (f.lt (by lia)) (f.lt (by lia)) ?_;rw [u 0 (m - 1) (by lia) (by lia)];exact q m p l (by lia) f u
  ·rw [NL o];obtain rfl:m=1:=by lia
   have w:lt (p.getD 1 0) (p.getD (1 - 1) 0)=NS:=c.resolve_left (by lia);unfold kas_descPart;rw [KasT.kasWp_bind];refine mV T W f (n - (1+1)) (1+1) (by lia) (by lia) (Dn.more T f (Iu 1) v (λi j a b=>by lia) w) λk a b d=>?_;rw [NL (by show ¬ (0 > 0);lia)];unfold kas_tail3;rw [KasT.kasWp_bind];have g:Pm n (kas_rev p 0 k):=f.of (mirror_perm _ _ _ _);exact fk T W g (n - k) k (by lia) (by lia) (Fq (by rw [f.size];lia) d) λt B A r _=>q t _ (by lia) (by lia) g r
theorem dU (T:Tot n lt) (W:Ans cmp n lt s) (a:Pm n p) {k:Nat} (b:k<n) (u:Up lt p k) {Q:Nat->NU->Prop}:∀ f l r,r - l<=f->l<=r->r<=k->(∀ i,i<l->lt (p.getD i 0) (p.getD k 0)=NS)->(∀ i,r<=i->i<k->lt (p.getD k 0) (p.getD i 0)=NS) ->
  (∀ m,m<=k->(∀ i,i<m->lt (p.getD i 0) (p.getD k 0)=NS)->(∀ i,m<=i->i<k->lt (p.getD k 0) (p.getD i 0)=NS)->Q m s)->(kas_place p k f l r).kasWp cmp Q s
 | 0,l,r,hf,hlr,hr,lo,hi,q=>by
  obtain rfl:l=r:=by lia
  exact q l hr lo hi
 | f+1,l,r,hf,hlr,hr,lo,hi,q=>by
  unfold kas_place;by_cases e:l >= r
  ·rw [NM e];obtain rfl:l=r:=by lia
   exact q l hr lo hi
  ·rw [NL e];refine W _ _ _ (a.lt b) (a.lt (by lia)) ?_;have g:(l+r) / 2<k:=by lia
   cases e2:lt (p.getD k 0) (p.getD ((l+r) / 2) 0) with
   | true =>
    refine dU T W a b u f l ((l+r) / 2) (by lia) (by lia) (by lia) lo (λi j h=>?_) q;by_cases c:i=(l+r) / 2
    ·rw [c];exact e2
    ·exact T.tra _ _ _ (a.lt b) (a.lt (by lia)) (a.lt (by lia)) e2 (u _ _ (by lia) h)
   | false =>
    have d:lt (p.getD ((l+r) / 2) 0) (p.getD k 0)=NS:=by
     rw [T.tri _ _ (a.lt (by lia)) (a.lt b) (a.ne (by lia) b (by lia)),e2];rfl
    refine dU T W a b u f ((l+r) / 2+1) r (by lia) (by lia) hr (λi j=>?_) hi q;by_cases c:i=(l+r) / 2
    ·rw [c];exact d
    ·exact T.tra _ _ _ (a.lt (by lia)) (a.lt (by lia)) (a.lt b) (u _ _ (by lia) g) d
theorem Fs {k m:Nat} (o:k<p.size) (v:m<=k) (u:Up lt p k) (l:∀ i,i<m->lt (p.getD i 0) (p.getD k 0)=NS) (q:∀ i,m<=i->i<k->lt (p.getD k 0) (p.getD i 0)=NS):Up lt (bubble p k (k - m)) (k+1):=λi j b w=>by
 have g:∀ t,t<=k->(bubble p k (k - m)).getD t 0=p.getD (if t=m then k else if t<m then t else t - 1) 0:=λt r=>tB (by
  rw [getElem?_bubble o (k - m) (by lia),show k - (k - m)=m by lia];by_cases a:t=m
  ·rw [NM a,NM a]
  ·rw [NL a,NL a];by_cases c:t<m
   ·rw [NL (by lia),NM c]
   ·rw [NM (by lia),NL c])
 rw [g i (by lia),g j (by lia)];by_cases h:i=m
 ·rw [NM h,NL (by lia),NL (by lia)];exact q _ (by lia) (by lia)
 ·rw [NL h];by_cases f:j=m
  ·rw [NM f,NM (by lia)];exact l _ (by lia)
  ·rw [NL f];by_cases e:i<m
   ·rw [NM e];by_cases d:j<m
    ·rw [NM d];exact u _ _ b (by lia)
    ·rw [NL d];exact u _ _ (by lia) (by lia)
   ·rw [NL e,NL (by lia)];exact u _ _ (by lia) (by lia)
theorem tD (T:Tot n lt) (W:Ans cmp n lt s) {Q:Array Nat->NU->Prop}:∀ f k (p:Array Nat),Pm n p->k+f=n->Up lt p k->(∀ c,Pm n c->Up lt c n->Q c s)->(kas_bin f p k).kasWp cmp Q s
 | 0,k,p,hp,hf,u,q=>by
  obtain rfl:k=n:=by lia
  exact q p hp u
 | f+1,k,p,hp,hf,u,q=>by
  unfold kas_bin;rw [KasT.kasWp_bind];refine dU T W hp (by lia) u k 0 k (by lia) (IV _) (Iu _) (λi d=>by lia) (λi a b=>by lia) λm e lo d=>?_;exact tD T W f (k+1) _ (hp.of (bubble_perm _ _ _)) (by lia) (Fs (by rw [hp.size];lia) e u lo d) q
theorem Au (T:Tot n lt) (W:Ans cmp n lt s) (b:1<=n) {Q:Array Nat->NU->Prop} (q:∀ p,Pm n p->Up lt p n->Q p s):(kas_sort n).kasWp cmp Q s:=by
 unfold kas_sort;rw [KasT.kasWp_bind];refine wu T W (Pm.range n) b λm p d c a u=>?_;by_cases e:m<n
 ·show (if m<n then _ else _:KasT (Array Nat)).kasWp cmp Q s;rw [NM e,show max m 1=m by lia];exact tD T W (n - m) m p a (by lia) u q
 ·show (if m<n then _ else _:KasT (Array Nat)).kasWp cmp Q s;rw [NL e];obtain rfl:m=n:=by lia
  exact q p a u
end
end L2
end
section
namespace L2
open PySem PySem.W PySem.Calls PyProof.Rows
theorem iK:∀ f n r,r<=1->minRun' f n r<=n+1
 | 0,n,r,h=>by show n+r<=n+1;lia
 | f+1,n,r,h=>by
  rw [minRun'_succ];by_cases e:n<64
  ·rw [NM e];lia
  ·rw [NL e];have:=iK f (n / 2) (max r (n % 2)) (by lia);lia
theorem o9 {n:Nat} (h:1<=n):minRun' n n 0<=n:=by
 obtain⟨f,rfl⟩:∃ f,n=f+1:=⟨n - 1,by lia⟩;rw [minRun'_succ];by_cases e:f+1<64
 ·rw [NM e];lia
 ·rw [NL e];have:=iK f ((f+1) / 2) (max 0 ((f+1) % 2)) (by lia);lia
section
variable {P:NY} {w:NX} {A:NZ} {X:NT->NU->Prop} {s:NU} {κ:SortKind} {it:Array Keyed} {n:Nat} {lt:Nat->Nat->Bool} {Q:SortSt->NU->Prop}
theorem CJ (W:Ans (kas_cmp P w A κ it) n lt s) (T:Tot n lt) (v:2<=n) (k:∀ i,i+1<n->lt (i+1) i=NV)
  (q:∀ d,arrOf d=(JQ (IQ n)).map (kas_item it)->failedOf d=NW->Q d s):kasC (model P w) A X sortRuns' (λ_ d s'=>Q d s') (kas_st κ it (JQ (IQ n))) s:=by
 obtain⟨r,rfl⟩:∃ r,n=r+2:=⟨n - 2,by lia⟩;have h:(JQ (IQ (r+2))).size=r+2:=by simp
 have g:(arrOf (kas_st κ it (JQ (IQ (r+2))))).size=r+2:=by
  show (Array.map _ _).size=_;rw [Nj,h]
 have t:=o9 (n:=r+2) (by lia);have f:∀ i,i<r+2->(JQ (IQ (r+2))).getD i 0=i:=λi o=>by simp [K4,o]
 have cnt:(kas_count (r+2) (JQ (IQ (r+2)))).kasWp (kas_cmp P w A κ it) (λz s'=>z=(r+2,JQ (IQ (r+2)))/\s'=s) s:=by
  unfold kas_count;rw [KasT.kasWp_bind];refine fk T W (Pm.range _) (r+2 - 1) 1 (Iu _) (by lia) (λi j a b=>by lia) λm a b u c=>?_;have e:m=r+2:=by
   rcases c with c | c
   ·lia
   ·by_cases l:m<r+2
    ·rw [f m l,f (m - 1) (by lia)] at c;have:=k (m - 1) (by lia);rw [show m - 1+1=m by lia,c] at this;cases this
    ·lia
  subst e;rw [NM (beq_self_eq_true _)];exact⟨rfl,rfl⟩
 rw [sortRuns'_eq];apply kasC_bind;apply kasC_get;simp only [g];apply kasC_bind;apply kasC_range
 change kasC _ _ _ (forIn (0 :: 1 :: List.range' 2 r) _ _) _ _ _
 apply kasC_cons;simp only [Nat.sub_zero,Ml,show ¬ (0 >= r+2) by lia,if_false];refine kasC_bind (kas_count_ (by lia) (Ku h.symm) (λm p s' _ _ _ z=>?_) cnt);obtain⟨z,rfl⟩:=z;cases z;simp only [show ¬ (r+2<minRun' (r+2) (r+2) 0) by lia,if_false];apply kasC_bind;apply kasC_get
 change kasC _ _ _ (modify (λst=>setPending st ((pendingOf st).push (0,r+2,0))) >>= _) _ _ _
 apply kasC_bind;apply kasC_modify;apply kasC_pure;apply kasC_cons;simp only [show r+2 >= r+2 from Iu _,if_true];apply kasC_pure;apply kasC_bind;apply kasC_range
 change kasC _ _ _ (forIn (0 :: 1 :: List.range' 2 r) _ _) _ _ _
 apply kasC_cons;apply kasC_bind;apply kasC_get;rw [NM (show (pendingOf (setPending (kas_st κ it (JQ (IQ (r+2)))) ((pendingOf (kas_st κ it (JQ (IQ (r+2))))).push (0,r+2,0)))).size<=1 from Iu 1)];apply kasC_pure;exact kasC_pure (q _ rfl rfl)
theorem mW (W:Ans (kas_cmp P w A κ it) n lt s) (T:Tot n lt) (m:2<=n) (g:n<64 \/ ∀ i,i+1<n->lt (i+1) i=NV)
  (q:∀ c p,Pm n p->Up lt p n->arrOf c=p.map (kas_item it)->failedOf c=NW->Q c s):kasC (model P w) A X sortRuns' (λ_ c s'=>Q c s') (kas_st κ it (JQ (IQ n))) s:=by
 rcases g with g | g
 ·exact kas_runs m g (G:=λp s'=>s'=s/\Pm n p/\Up lt p n) (λp c s' _ e f ⟨z,a,b⟩=>by subst z;exact q c p a b e f) (Au T W (by lia) λp a b=>⟨rfl,a,b⟩)
 ·refine CJ W T m g λc e f=>q c _ (Pm.range n) (λi j r o=>?_) e f;have k:∀ i,i<n->(JQ (IQ n)).getD i 0=i:=λi t=>by simp [K4,t]
  rw [k i (by lia),k j o];have l:∀ d,i+d+1<n->lt i (i+d+1)=NS:=λd=>by
   induction d with
   | zero=>intro h;rw [T.tri _ _ (by lia) h (by lia),g i h];rfl
   | succ d ih =>
    intro h;refine T.tra _ (i+d+1) _ (by lia) (by lia) h (ih (by lia)) ?_;rw [T.tri _ _ (by lia) h (by lia),show i+(d+1)+1=i+d+1+1 by lia,g (i+d+1) (by lia)];rfl
  have:=l (j - i - 1) (by lia)
  rwa [show i+(j - i - 1)+1=j by lia] at this
end
section
variable {P:NY} {w:NX} {A:NZ} {X:NT->NU->Prop} {s:NU} {κ:SortKind} {vs:N6} {lt:Nat->Nat->Bool}
structure Asks (P:NY) (w:NX) (A:NZ) (s:NU) (κ:SortKind) (vs:N6) (lt:Nat->Nat->Bool):Prop where
 kind:2<=vs.length->∀ (h':Heap),(∀ b o,s.heap.get? b=NQ o->h'.get? b=NQ o)->∀ R:SortKind->NU->Prop,R κ { s with heap:=h' }->IK (model P w) A (keyKind' vs.toArray) R (λ_ _=>False) { s with heap:=h' }
 less:∀ (h':Heap),(∀ b o,s.heap.get? b=NQ o->h'.get? b=NQ o)->Ans (kas_ask P w A κ vs) vs.length lt { s with heap:=h' }
 ord:Tot vs.length lt
 few:vs.length<64 \/ ∀ i,i+1<vs.length->lt (i+1) i=NV
theorem tE {a:Ij} {e:Nat} {R:PySem.Fin->NU->Prop} (M:vs.length<=Jr) (G:s.heap.get? a=NQ (seqObj "list" vs.toArray e)) {h0:Heap} (v:∀ b o,h0.get? b=NQ o->b≠a/\s.heap.get? b=NQ o) (K:Asks P w A { s with heap:=h0 } κ vs lt)
  (q:∀ (h':Heap) p c,Pm vs.length p->Up lt p vs.length->(∀ b o,b≠a->s.heap.get? b=NQ o->h'.get? b=NQ o)->h'.get? a=NQ (seqObj "list" (p.toList.map λi=>vs.getD i Value.none).toArray c)->R (.done (.ret .none)) { s with heap:=h' }) :
  IK (model P w) A (Builtin.«list.sort» ⟨[.ref a],[]⟩) R X s:=by
 let O:=s.heap.update a (J3 λ_=>(#[]:Array NT))
 obtain⟨D,S⟩:∃ D,O.get? a=NQ (seqObj "list" #[] D):=⟨_,get?_update_seq G λ_=>#[]⟩
 let f:=(O.push (seqObj "tuple" vs.toArray 0)).push (seqObj "list" #[] 0)
 have I:f.get? a=NQ (seqObj "list" #[] D):=Im _ (Im _ S);have L:∀ b o,b≠a->s.heap.get? b=NQ o->f.get? b=NQ o:=λb o C l=>Im _ (Im _ ((IZ _ _ (JM C)).trans l));have J:∀ b o,h0.get? b=NQ o->f.get? b=NQ o:=λb o l=>L b o (v b o l).1 (v b o l).2;rw [list_sort_plain];apply Ic;apply listItems_at G rfl;apply Ic;refine listUpdate_at G rfl ?_ (by simpa using M) (IV _);apply Ic;apply seqEpoch_at S rfl;apply Ic;refine wpAny_newTuple ?_ (by simpa using M);apply Ic;refine wpAny_newList ?_ (IV _);apply Ji;dsimp only
 change IK _ A _ _ _ { s with heap:=f }
 have E:SortSt.mk' κ (vs.toArray.zip vs.toArray) #[] 7 NW=kas_st κ (pairsOf vs) (JQ (IQ vs.length)):=by
  have z:=kas_range (pairsOf vs);rw [pairsOf_size] at z;unfold kas_st;rw [z];rfl
 have B:∀ (d:SortSt) (p:Array Nat),Pm vs.length p->Up lt p vs.length->arrOf d=p.map (kas_item (pairsOf vs))->failedOf d=NW->IK (model P w) A (do
   let sorted:=(arrOf d).map (·.2)
   let h:=(<- seqEpoch a) != D
   Builtin.List.listUpdate (.ref a) λ_=>sorted
   if let NQ e:=failedOf d then rule "list.sort.comparison-raised";throw e
   if h then rule "list.sort.modified";raiseError "ValueError" "list modified during sort"
   ret .none) R X { s with heap:=f }:=λd p k t r n=>by
  have F:(arrOf d).map (·.2)=(p.toList.map λi=>vs.getD i Value.none).toArray:=by
   apply Array.toList_inj.mp;rw [r,Array.map_map,Array.toList_map];refine KY λi _=>?_;show (kas_item (pairsOf vs) i).2=_;rw [kas_item_eq]
  dsimp only;rw [F,n];obtain⟨c,U⟩:∃ c,(f.update a (J3 λ_=>(p.toList.map λi=>vs.getD i Value.none).toArray)).get? a=NQ (seqObj "list" (p.toList.map λi=>vs.getD i Value.none).toArray c):=⟨_,get?_update_seq I λ_=>(p.toList.map λi=>vs.getD i Value.none).toArray⟩;apply Ic;apply seqEpoch_at I rfl;apply Ic;refine listUpdate_at I rfl ?_ (IV _) (by
   rw [II,Ib,IH,k.size];lia)
  simp only [bne_self_eq_false,Js,if_false];exact Ip (q _ p c k t (λb o C l=>(IZ _ _ (JM C)).trans (L b o C l)) U)
 by_cases N:vs.length<2
 ·have g:vs.toArray.size<2:=by rw [II];exact N
  rw [NM g,NM g];apply Ic;apply Ip;apply Ic;rw [StateT.run_pure];apply Ip;have z:=kas_range (pairsOf vs);rw [pairsOf_size] at z;exact B _ (JQ (IQ vs.length)) (Pm.range _) (λi j x y=>by lia) z.symm rfl
 have g:¬ vs.toArray.size<2:=by rw [II];exact N
 rw [NL g,NL g];apply Ic;refine JD (K.kind (by lia) f J (λm u=>m=κ/\u={ s with heap:=f }) ⟨rfl,rfl⟩) ?_ λ_ _ z=>z.elim;rintro m u ⟨H,T⟩;rw [H,T];have W:=K.less f J;rw [kas_ask_eq] at W;rw [E];apply Ic;refine JD (mW (Q:=λd u=>u={ s with heap:=f }/\∃ p,Pm vs.length p/\Up lt p vs.length/\arrOf d=p.map (kas_item (pairsOf vs))/\failedOf d=NW) W K.ord (by lia) K.few λd p k t r n=>⟨rfl,p,k,t,r,n⟩) ?_ λ_ _ z=>z;rintro⟨⟨⟩,d⟩ u ⟨rfl,p,k,t,r,n⟩;exact B d p k t r n
theorem mX {l:Ij} {Q:NT->NU->Prop} (h:vs.length<=Jr) (v:s.heap.IsList l vs.toArray) (K:Asks P w A.in1.in1 s κ vs lt)
  (q:∀ (h':Heap) D p c,Pm vs.length p->Up lt p vs.length->s.heap.objs.size<=D->(∀ b o,s.heap.get? b=NQ o->h'.get? b=NQ o)->h'.get? D=NQ (seqObj "list" (p.toList.map λi=>vs.getD i Value.none).toArray c)->Q (.ref D) { s with heap:=h' }) :
  IK (model P w) A (call (.builtin "sorted") [.ref l]) Q X s:=by
 let k:=(s.heap.push (seqObj "list" #[] 0)).update s.heap.objs.size (J3 (·++vs.toArray))
 have j:k.objs.size=s.heap.objs.size+1:=by rw [MP,size_push']
 let d:=k.push (seqObj "list" vs.toArray 0)
 have f:d.get? (s.heap.objs.size+1)=NQ (seqObj "list" vs.toArray 0):=by rw [<-j];exact IT _ rfl
 have a:∀ b o,s.heap.get? b=NQ o->b≠s.heap.objs.size+1/\d.get? b=NQ o:=λb o e=>by
  have g:=IA e;refine⟨λz=>?_,Im _ ((IZ _ _ λz=>?_).trans (Im _ e))⟩
  ·rw [z] at g;exact Ka _ (MW g (LW _))
  ·rw [<-z] at g;exact Ka _ g
 refine Mx kind_sorted plain_sorted entry_sorted (args_sorted1 _) ?_;unfold Builtin.«sorted»;apply Ic (m:=checkCount "sorted" 1 1 _);apply Ip;apply Ic;refine collect_list v ?_ h;apply Ic;refine wpAny_newList ?_ h
 change IK _ _ _ _ _ { s with heap:=d }
 rw [show Value.ref ((s.heap.push (seqObj "list" #[] 0)).update s.heap.objs.size (J3 (·++vs.toArray))).objs.size=Value.ref (s.heap.objs.size+1) from congrArg Value.ref j];apply Ic;apply Ji;refine wpAny_call_entry slot_list_sort ⟨_,f,rfl⟩ entry_list_sort ?_ (args_list_sort _);refine tE (s:={ s with heap:=d }) h f (h0:=s.heap) a K λh' p c u t r n=>⟨_,rfl,Ip ⟨_,rfl,?_⟩⟩;exact q h' _ p c u t (L8 _) (λb o e=>r b o (a b o e).1 (a b o e).2) n
end
mutual
noncomputable def zD:NR->Bool
 | .int _=>NS
 | .str s=>(PyData.str s).canLay0
 | .tuple xs=>zO xs
 | _=>NV
noncomputable def zO:Oo->Bool
 | []=>NS
 | x :: xs=>zD x && zO xs
end
mutual
noncomputable def ltD:NR->NR->Bool
 | .int a,.int b=>decide (a<b)
 | .str a,.str b=>decide (a.cps.toList<b.cps.toList)
 | .tuple xs,.tuple ys=>ltL xs ys
 | .int _,.str _=>NS
 | .int _,.tuple _=>NS
 | .str _,.tuple _=>NS
 | _,_=>NV
noncomputable def ltL:Oo->Oo->Bool
 | [],[]=>NV
 | [],_ :: _=>NS
 | _ :: _,[]=>NV
 | x :: xs,y :: ys=>if IX x y=NS then ltL xs ys else ltD x y
end
mutual
noncomputable def vI:NR->NR->Bool
 | .int _,.int _=>NS
 | .str _,.str _=>NS
 | .tuple xs,.tuple ys=>qv xs ys
 | _,_=>NV
noncomputable def qv:Oo->Oo->Bool
 | [],_=>NS
 | _ :: _,[]=>NS
 | x :: xs,y :: ys=>if IX x y=NS then qv xs ys else vI x y
end
mutual
theorem yT:∀ d:NR,zD d=NS->d.canLay0=NS
 | .int _,_=>rfl
 | .str _,h=>h
 | .tuple xs,h=>by rw [PyData.canLay0];exact gm xs (by rw [zD] at h;exact h)
 | .none,h=>by cases h
 | .bool _,h=>by cases h
 | .list _,h=>by cases h
 | .dict _,h=>by cases h
theorem gm:∀ xs:Oo,zO xs=NS->LH xs=NS
 | [],_=>rfl
 | x :: xs,h=>by
  rw [zO,Io] at h;rw [LH,yT x h.1,gm xs h.2];rfl
end
mutual
theorem Av:∀ a b:NR,zD a=NS->zD b=NS->IX a b=NS->a=b
 | .int a,.int b,_,_,h=>by simpa [IX] using h
 | .str a,.str b,_,_,h=>by simpa [IX] using h
 | .tuple xs,.tuple ys,h1,h2,h=>by rw [tF xs ys (by rw [zD] at h1;exact h1) (by rw [zD] at h2;exact h2) (by rw [IX] at h;exact h)]
 | .int _,.str _,_,_,h=>by simp [IX] at h
 | .int _,.tuple _,_,_,h=>by simp [IX] at h
 | .str _,.int _,_,_,h=>by simp [IX] at h
 | .str _,.tuple _,_,_,h=>by simp [IX] at h
 | .tuple _,.int _,_,_,h=>by simp [IX] at h
 | .tuple _,.str _,_,_,h=>by simp [IX] at h
 | .none,_,h,_,_=>by cases h
 | .bool _,_,h,_,_=>by cases h
 | .list _,_,h,_,_=>by cases h
 | .dict _,_,h,_,_=>by cases h
 | .int _,.none,_,h,_=>by cases h
 | .int _,.bool _,_,h,_=>by cases h
 | .int _,.list _,_,h,_=>by cases h
 | .int _,.dict _,_,h,_=>by cases h
 | .str _,.none,_,h,_=>by cases h
 | .str _,.bool _,_,h,_=>by cases h
 | .str _,.list _,_,h,_=>by cases h
 | .str _,.dict _,_,h,_=>by cases h
 | .tuple _,.none,_,h,_=>by cases h
 | .tuple _,.bool _,_,h,_=>by cases h
 | .tuple _,.list _,_,h,_=>by cases h
 | .tuple _,.dict _,_,h,_=>by cases h
theorem tF:∀ xs ys:Oo,zO xs=NS->zO ys=NS->MI xs ys=NS->xs=ys
 | [],[],_,_,_=>rfl
 | [],_ :: _,_,_,h=>by simp [MI] at h
 | _ :: _,[],_,_,h=>by simp [MI] at h
 | x :: xs,y :: ys,h1,h2,h=>by
  rw [zO,Io] at h1 h2;rw [MI,Io] at h;rw [Av x y h1.1 h2.1 h.1,tF xs ys h1.2 h2.2 h.2]
end
theorem fm {a b:NR} (c:zD a=NS) (d:zD b=NS):IX a b=NS↔a=b :=
 ⟨Av a b c d,λh=>by subst h;exact Nk a (yT a c)⟩
theorem vP {x y:NR} {xs ys:Oo} (b:zD x=NS) (a:zD y=NS) [Decidable (x=y)]:ltL (x :: xs) (y :: ys)=if x=y then ltL xs ys else ltD x y:=by
 rw [ltL];by_cases h:x=y
 ·rw [NM ((fm b a).mpr h),NM h]
 ·rw [NL (λz=>h ((fm b a).mp z)),NL h]
theorem Aw {a b:Om} (h:a≠b):decide (a<b)=!decide (b<a):=by
 by_cases c:a<b
 ·rw [NN c,NP (λz=>List.lt_irrefl a (List.lt_trans c z))];rfl
 ·have d:b<a:=by
   have:b<=a:=List.not_lt.mp c;rcases List.le_iff_lt_or_eq.mp this with z | z
   ·exact z
   ·exact absurd z.symm h
  rw [NP c,NN d];rfl
theorem Ft {a b:Str} (h:a≠b):a.cps.toList≠b.cps.toList:=λz=>h (by
 cases a;cases b;simp only [Str.mk.injEq] at *;exact Array.toList_inj.mp z)
mutual
theorem p7:∀ a b:NR,zD a=NS->zD b=NS->a≠b->ltD a b=!ltD b a
 | .int a,b,ha,hb,ne=>by
  cases b with
  | int b =>
   rw [ltD,ltD];have:a≠b:=λz=>ne (by rw [z]);by_cases h:a<b
   ·rw [NN h,NP (by lia)];rfl
   ·rw [NP h,NN (by lia)];rfl
  | str b=>simp [ltD]
  | tuple c=>simp [ltD]
  | none=>cases hb
  | bool _=>cases hb
  | list _=>cases hb
  | dict _=>cases hb
 | .str a,b,ha,hb,ne=>by
  cases b with
  | int b=>simp [ltD]
  | str b =>
   rw [ltD,ltD];exact Aw (Ft λz=>ne (by rw [z]))
  | tuple c=>simp [ltD]
  | none=>cases hb
  | bool _=>cases hb
  | list _=>cases hb
  | dict _=>cases hb
 | .tuple xs,b,ha,hb,ne=>by
  cases b with
  | int b=>simp [ltD]
  | str b=>simp [ltD]
  | tuple c =>
   rw [ltD,ltD];rw [zD] at ha hb;exact tG xs c ha hb λz=>ne (by rw [z])
  | none=>cases hb
  | bool _=>cases hb
  | list _=>cases hb
  | dict _=>cases hb
 | .none,_,h,_,_=>by cases h
 | .bool _,_,h,_,_=>by cases h
 | .list _,_,h,_,_=>by cases h
 | .dict _,_,h,_,_=>by cases h
theorem tG:∀ xs ys:Oo,zO xs=NS->zO ys=NS->xs≠ys->ltL xs ys=!ltL ys xs
 | [],[],_,_,ne=>absurd rfl ne
 | [],_ :: _,_,_,_=>by simp [ltL]
 | _ :: _,[],_,_,_=>by simp [ltL]
 | x :: xs,y :: ys,h1,h2,ne=>by
  rw [zO,Io] at h1 h2;have:=J1 (x=y);have:=J1 (y=x);rw [vP h1.1 h2.1,vP h2.1 h1.1];by_cases e:x=y
  ·rw [NM e,NM e.symm];exact tG xs ys h1.2 h2.2 λz=>ne (by rw [e,z])
  ·rw [NL e,NL (JM e)];exact p7 x y h1.1 h2.1 e
end
mutual
theorem vJ:∀ a:NR,zD a=NS->ltD a a=NV
 | .int a,_=>by rw [ltD];exact NP (Int.lt_irrefl a)
 | .str a,_=>by rw [ltD];exact NP (List.lt_irrefl _)
 | .tuple xs,h=>by rw [ltD];rw [zD] at h;exact tH xs h
 | .none,h=>by cases h
 | .bool _,h=>by cases h
 | .list _,h=>by cases h
 | .dict _,h=>by cases h
theorem tH:∀ xs:Oo,zO xs=NS->ltL xs xs=NV
 | [],_=>by rw [ltL]
 | x :: xs,h=>by
  rw [zO,Io] at h;have:=J1 (x=x);rw [vP h.1 h.1,NM rfl];exact tH xs h.2
end
theorem lt_asymm {a b:NR} (c:zD a=NS) (d:zD b=NS) (h:ltD a b=NS):a≠b:=λz=>by
 subst z;rw [vJ a c] at h;cases h
mutual
theorem kT:∀ a b c:NR,zD a=NS->zD b=NS->zD c=NS->ltD a b=NS->ltD b c=NS->ltD a c=NS
 | .int a,b,c,ha,hb,hc,h1,h2=>by
  cases b <;> first | (cases hb;done) | skip
  all_goals cases c <;> first | (cases hc;done) | skip
  all_goals first | (simp [ltD] at h1 h2 ⊢;lia) | (simp [ltD] at h1 h2 ⊢;done) | (simp [ltD] at h1;done) | (simp [ltD] at h2;done)
 | .str a,b,c,ha,hb,hc,h1,h2=>by
  cases b <;> first | (cases hb;done) | skip
  all_goals cases c <;> first | (cases hc;done) | skip
  all_goals first | (simp [ltD] at h1;done) | (simp [ltD] at h2;done) | (rw [ltD] at h1 h2 ⊢;exact NN (List.lt_trans (N4 h1) (N4 h2))) | (simp [ltD] at h1 h2 ⊢;done)
 | .tuple xs,b,c,ha,hb,hc,h1,h2=>by
  cases b with
  | tuple ys =>
   cases c with
   | tuple d =>
    rw [ltD] at h1 h2 ⊢;rw [zD] at ha hb hc;exact tI xs ys d ha hb hc h1 h2
   | int _=>simp [ltD] at h2
   | str _=>simp [ltD] at h2
   | none=>cases hc
   | bool _=>cases hc
   | list _=>cases hc
   | dict _=>cases hc
  | int _=>simp [ltD] at h1
  | str _=>simp [ltD] at h1
  | none=>cases hb
  | bool _=>cases hb
  | list _=>cases hb
  | dict _=>cases hb
 | .none,_,_,h,_,_,_,_=>by cases h
 | .bool _,_,_,h,_,_,_,_=>by cases h
 | .list _,_,_,h,_,_,_,_=>by cases h
 | .dict _,_,_,h,_,_,_,_=>by cases h
theorem tI:∀ xs ys c:Oo,zO xs=NS->zO ys=NS->zO c=NS->ltL xs ys=NS->ltL ys c=NS->ltL xs c=NS
 | [],ys,[],_,_,_,h1,h2=>by
  cases ys with
  | nil=>exact h1
  | cons y ys=>simp [ltL] at h2
 | [],_,_ :: _,_,_,_,_,_=>by rw [ltL]
 | _ :: _,[],_,_,_,_,h1,_=>by simp [ltL] at h1
 | _ :: _,_ :: _,[],_,_,_,_,h2=>by simp [ltL] at h2
 | x :: xs,y :: ys,z :: c,p1,p2,p3,h1,h2=>by
  rw [zO,Io] at p1 p2 p3;have:=J1 (x=y);have:=J1 (y=z);have:=J1 (x=z);rw [vP p1.1 p2.1] at h1;rw [vP p2.1 p3.1] at h2;rw [vP p1.1 p3.1];by_cases b:x=y
  ·rw [NM b] at h1;by_cases a:y=z
   ·rw [NM a] at h2;rw [NM (b.trans a)];exact tI xs ys c p1.2 p2.2 p3.2 h1 h2
   ·rw [NL a] at h2;rw [NL (λq=>a (b.symm.trans q)),b];exact h2
  ·rw [NL b] at h1;by_cases a:y=z
   ·rw [NL (λq=>b (q.trans a.symm)),<- a];exact h1
   ·rw [NL a] at h2;have d:=kT x y z p1.1 p2.1 p3.1 h1 h2;rw [NL (lt_asymm p1.1 p3.1 d)];exact d
end
end L2
end
section
namespace L2
open PySem PySem.Spec PyProof.Rows PySem.SeqAt
open PySem.AutoSeq1 (wpAny_loadPart')
open PySem.MeetsSeq PySem.MeetsSeq2 PySem.MeetsSeq3
def G8 (A:NZ) (s:NU) (y x:NT) (b:Bool):Prop :=
 ∀ (a:NY) (w:NX) (E:NT->NU->Prop) (Q:NT->NU->Prop),Q (.bool b) s->IK (model a w) A (richCompare .Lt y x) Q E s
inductive Lex (A:NZ) (s:NU):N6->N6->Bool->Prop where
 | nn:Lex A s [] [] NV
 | nc {w ws}:Lex A s [] (w :: ws) NS
 | cn {v vs}:Lex A s (v :: vs) [] NV
 | eq {v w vs ws b}:EqAt A s v w NS->Lex A s vs ws b->Lex A s (v :: vs) (w :: ws) b
 | lt {v w vs ws b}:EqAt A s v w NV->G8 A s v w b->Lex A s (v :: vs) (w :: ws) b
theorem kU (l m:Ij) (xs ys:Array NT) (n E:Nat) (dd z:Oc) (D o:Array (N7)) (c:Bool) :
  Meets (Builtin.«tuple.__lt__» ⟨[.ref l,.ref m],[]⟩)
   (λA R s=>s.heap.get? l=NQ { cls:=.type "tuple",dict:=dd,data:=.seq xs n,slots:=D }/\s.heap.get? m=NQ { cls:=.type "tuple",dict:=z,data:=.seq ys E,slots:=o } /\
    Lex A.in1 s xs.toList ys.toList c/\R (.ok (.ret (.bool c))) s) :=
 .of_wp λa w A R s h=>by
  obtain⟨C,g,d,B,os⟩:=s;obtain⟨H,I,F,h⟩:=h;have J:=AutoSeq1.sub_tuple_tuple
  wp_walk using wpAny_loadPart' H,wpAny_loadPart' I,wpAny_forIn_list _ (λrest b p=>b.1=NW/\p=⟨C,g,d,B,os⟩/\∃ (j i:N6),rest=j.zip i/\Lex A.in1 ⟨C,g,d,B,os⟩ j i c/\j.length+ys.size=i.length+xs.size) _
  case turn =>
   rintro⟨y,x⟩ rest b p ⟨f,rfl,j,i,e,r,k⟩;cases r with
   | nn=>cases e
   | nc=>cases e
   | cn=>cases e
   | eq v q =>
    rw [K5] at e;cases e;refine Ic (v a w _ _ ?_)
    wp_walk
    exact⟨rfl,rfl,_,_,rfl,q,by simp only [IJ] at k;lia⟩
   | lt v u =>
    rw [K5] at e;cases e;refine Ic (v a w _ _ ?_);have t:=u a w
    wp_walk using t
    exact⟨_,rfl,h⟩
  case fin =>
   rintro⟨L,K⟩ p ⟨f,rfl,j,i,e,r,k⟩;simp only at f;subst f;have G:decide (xs.size<ys.size)=c:=by
    cases r with
    | nn=>simp only [KP] at k;exact NP (by lia)
    | nc=>simp only [KP,IJ] at k;exact NN (by lia)
    | cn=>simp only [KP,IJ] at k;exact NP (by lia)
    | eq _ _=>cases e
    | lt _ _=>cases e
   wp_walk
   rw [<-G] at h;exact⟨_,rfl,by simpa [Builtin.Tuple.tupleCompareSizes] using h⟩
  case h=>exact⟨rfl,rfl,_,_,rfl,F,by simp only [IH];lia⟩
mutual
theorem mY:∀ (d c:NR) (A:NZ) (s:NU) (a b:NT) (r bs:N8),Reads s.heap a d r->Reads s.heap b c bs->zD d=NS->zD c=NS->vI d c=NS ->
  A.units+max d.depth c.depth<JR->G8 A s a b (ltD d c)
 | .int x,c,A,s,_,_,_,_,ra,rb,_,_,hc,hu=>by
  cases ra with
  | int _ t =>
   cases c with
   | int y =>
    cases rb with
    | int _ u =>
     intro prog w E Q q;exact HT.rcLt_int A s x t y u prog w E Q (by rw [ltD] at q;exact q)
   | _=>cases hc
 | .str x,c,A,s,_,_,_,_,ra,rb,_,_,hc,hu=>by
  cases ra with
  | str _ t =>
   cases c with
   | str y =>
    cases rb with
    | str _ u =>
     intro prog w E Q q;exact (PyProof.Rows.lt_str (by rw [ltD] at q;exact q):IK (model prog w) A (JI .Lt (.str x t) (.str y u)) Q E s)
   | _=>cases hc
 | .tuple xs,c,A,s,_,_,_,_,ra,rb,pa,pb,hc,hu=>by
  cases ra with
  | @tuple l o z n _ r j i g J =>
   cases c with
   | tuple ys =>
    cases rb with
    | @tuple m C v D _ bs k1 k2 k3 H =>
     intro prog w E Q q;obtain⟨M,dd,k,B⟩:=o;obtain⟨p,f,data2,e⟩:=C;simp only at i g k2 k3;subst i g k2 k3;rw [zD] at pa pb;rw [vI] at hc;rw [ltD] at q;have I:A.in1.units+max (IB xs) (IB ys)<JR:=by
      have L:(PyData.tuple xs).depth=IB xs+1:=rfl;have K:(PyData.tuple ys).depth=IB ys+1:=rfl;have N:A.in1.units=A.units+1:=rfl;rw [L,K] at hu;lia
     have G:=iL xs ys A.in1 s _ _ _ _ J H pa pb hc I;exact richCompare_meets_room (op:=.Lt) ⟨_,j,rfl⟩ ⟨_,k1,rfl⟩ PySem.F.slot_tuple_lt PySem.F.entry_tuple_lt (PySem.F.args_tuple_lt_2 _ _) (kU l m z v n D dd f B e (ltL xs ys))
      ⟨j,k1,G,show Value.bool (ltL xs ys)≠Value.notImplemented/\Q (.bool (ltL xs ys)) s from⟨(λx=>nomatch x),q⟩⟩ (by lia)
   | _=>cases hc
 | .none,_,_,_,_,_,_,_,_,_,h,_,_,_=>by cases h
 | .bool _,_,_,_,_,_,_,_,_,_,h,_,_,_=>by cases h
 | .list _,_,_,_,_,_,_,_,_,_,h,_,_,_=>by cases h
 | .dict _,_,_,_,_,_,_,_,_,_,h,_,_,_=>by cases h
theorem iL:∀ (xs ys:Oo) (A:NZ) (s:NU) (d c:N6) (j bs:N8),ReadsAll s.heap d xs j->ReadsAll s.heap c ys bs->zO xs=NS->zO ys=NS->qv xs ys=NS ->
  A.units+max (IB xs) (IB ys)<JR->Lex A s d c (ltL xs ys)
 | [],[],_,_,_,_,_,_,ra,rb,_,_,_,_=>by cases ra;cases rb;rw [ltL];exact .nn
 | [],_ :: _,_,_,_,_,_,_,ra,rb,_,_,_,_=>by cases ra;cases rb;rw [ltL];exact .nc
 | _ :: _,[],_,_,_,_,_,_,ra,rb,_,_,_,_=>by cases ra;cases rb;rw [ltL];exact .cn
 | x :: xs,y :: ys,A,s,_,_,_,_,ra,rb,pa,pb,hc,hu=>by
  cases ra with
  | cons r g =>
   cases rb with
   | cons f b =>
    rw [zO,Io] at pa pb;rw [qv] at hc;rw [ltL];have i:IB (x :: xs)=max x.depth (IB xs):=rfl;have h:IB (y :: ys)=max y.depth (IB ys):=rfl;rw [i,h] at hu;have a:=eqAt_reads x y A s _ _ _ _ r f (yT x pa.1) (yT y pb.1) (by lia);by_cases e:IX x y=NS
    ·rw [NM e] at hc ⊢;rw [e] at a;exact .eq a (iL xs ys A s _ _ _ _ g b pa.2 pb.2 hc (by lia))
    ·rw [NL e] at hc ⊢;rw [Bool.not_eq_true] at e;rw [e] at a;exact .lt a (mY x y A s _ _ _ _ r f pa.1 pb.1 hc (by lia))
end
end L2
end
section
namespace L2
open PySem PySem.Spec PyProof.Rows PySem.SeqAt PySem.W
section
variable {P:NY} {w:NX} {A:NZ} {s:NU} {b:Bool} {Q:Bool->NU->Prop}
theorem kW {a:Bool} {x y:NR} {p q:NT} {r:List (NT×NT)} {i:Nat} {l bs:N8} {c:Bool} (f:Reads s.heap p x l) (d:Reads s.heap q y bs) (h:zD x=NS) (g:zD y=NS) (m:A.units+max x.depth y.depth<JR)
  (k:IX x y=NS->KatLex P w A b a Q r (i+1) s) (j:IX x y=NV->IK (model P w) A (oneLt' (b && i == 0) p q) Q (λ_ _=>False) s):KatLex P w A b a Q ((p,q) :: r) i s:=by
 refine kat_cons (eqAt_reads x y A s _ _ _ _ f d (yT x h) (yT y g) (by lia) P w _ _ ?_);exact kat_go (λe=>kat_yes (k e)) λe=>kat_no (j e)
theorem cS {m n:Nat}:∀ (xs ys:Oo) (f d:N6) (o bs:N8) (i:Nat),(1<=i \/ b=NV)->ReadsAll s.heap f xs o->ReadsAll s.heap d ys bs->zO xs=NS->zO ys=NS->qv xs ys=NS ->
  A.units+max (IB xs) (IB ys)<JR->xs.length+n=ys.length+m->Q (ltL xs ys) s->KatLex P w A b (decide (m<n)) Q (f.zip d) i s
 | [],[],_,_,_,_,i,_,ra,rb,_,_,_,_,hl,q=>by
  cases ra;cases rb;rw [ltL] at q;simp only [KP] at hl;rw [NP (show ¬ m<n by lia)];exact kat_nil q
 | [],y :: ys,_,_,_,_,i,_,ra,rb,_,_,_,_,hl,q=>by
  cases ra;cases rb;rw [ltL] at q;simp only [KP,IJ] at hl;rw [NN (show m<n by lia)];exact kat_nil q
 | x :: xs,[],_,_,_,_,i,_,ra,rb,_,_,_,_,hl,q=>by
  cases ra;cases rb;rw [ltL] at q;simp only [KP,IJ] at hl;rw [NP (show ¬ m<n by lia),List.zip_nil_right];exact kat_nil q
 | x :: xs,y :: ys,_,_,_,_,i,hi,ra,rb,pa,pb,hc,hu,hl,q=>by
  cases ra with
  | cons r h =>
   cases rb with
   | cons g a =>
    rw [zO,Io] at pa pb;rw [qv] at hc;rw [ltL] at q;have l:IB (x :: xs)=max x.depth (IB xs):=rfl;have k:IB (y :: ys)=max y.depth (IB ys):=rfl;rw [l,k] at hu;simp only [IJ] at hl;rw [K5];refine kW (c:=NS) r g pa.1 pb.1 (by lia) (λe=>?_) λe=>?_
    ·rw [NM e] at hc q;exact cS xs ys _ _ _ _ (i+1) (.inl (by lia)) h a pa.2 pb.2 hc (by lia) (by lia) q
    ·rw [NL (by rw [e];exact Ie)] at hc q;have j:(b && i == 0)=NV:=by
      rcases hi with hi | hi
      ·rw [show (i == 0)=NV from beq_eq_false_iff_ne.mpr (by lia),Mq]
      ·rw [hi];rfl
     rw [j];exact kat_one _ _ (mY x y A s _ _ _ _ r g pa.1 pb.1 hc (by lia) P w _ _ q)
end
noncomputable def vQ:NR->Option String
 | .tuple (.int _ :: _)=>NQ "int"
 | .tuple (.str _ :: _)=>NQ "str"
 | .tuple (.tuple _ :: _)=>NQ "tuple"
 | _=>NW
structure SortOk (T:String) (ds:Oo):Prop where
 plain:∀ d∈ds,zD d=NS
 head:∀ d∈ds,vQ d=NQ T
 cmp:∀ d∈ds,∀ e∈ds,vI d e=NS
 depth:∀ d∈ds,d.depth<=50
 nd:ds.Nodup
theorem aT {d:NR} {T:String} (h:vQ d=NQ T):∃ x xs,d=.tuple (x :: xs)/\((T="int"/\∃ n,x=.int n) \/ (T="str"/\∃ n,x=.str n) \/ (T="tuple"/\∃ n,x=.tuple n)):=by
 unfold vQ at h;split at h
 ·cases h;exact⟨_,_,rfl,.inl ⟨rfl,_,rfl⟩⟩
 ·cases h;exact⟨_,_,rfl,.inr (.inl ⟨rfl,_,rfl⟩)⟩
 ·cases h;exact⟨_,_,rfl,.inr (.inr ⟨rfl,_,rfl⟩)⟩
 ·cases h
section
variable {P:NY} {w:NX} {A:NZ} {s:NU} {T:String}
theorem Fu {d e:NR} {v u:NT} {K bs:N8} {C:Bool->NU->Prop} (O:Reads s.heap v d K) (N:Reads s.heap u e bs) (g:zD d=NS) (f:zD e=NS) (W:vQ d=NQ T) (U:vQ e=NQ T) (a:vI d e=NS)
  (hu:A.units+60<JR) (d1:d.depth<=50) (d2:e.depth<=50) (q:C (ltD d e) s):IK (model P w) A (keyLt' (tuples' (Value.type T != Value.type "tuple")) v u) C (λ_ _=>False) s:=by
 obtain⟨x,j,rfl,S⟩:=aT W;obtain⟨y,i,rfl,J⟩:=aT U;cases O with
 | @tuple l o H n _ K Y h2 X E =>
  cases N with
  | @tuple m Z G n2 _ bs R k2 Q D =>
   have B:=LU _ _ _ E;have t:=LU _ _ _ D;rw [IH] at B t;refine kat_lt Y X R Q ?_;rw [zD] at g f;rw [vI] at a;rw [ltD] at q;have e1:(PyData.tuple (x :: j)).depth=IB (x :: j)+1:=rfl;have e2:(PyData.tuple (y :: i)).depth=IB (y :: i)+1:=rfl;have e3:IB (x :: j)=max x.depth (IB j):=rfl;have e4:IB (y :: i)=max y.depth (IB i):=rfl;rcases S with⟨rfl,I,rfl⟩ | ⟨rfl,I,rfl⟩ | ⟨rfl,I,rfl⟩
   ·obtain⟨p,rfl⟩:∃ p,y=.int p:=by
     rcases J with⟨_,h⟩ | ⟨z,_⟩ | ⟨z,_⟩
     ·exact h
     ·exact absurd z (by decide)
     ·exact absurd z (by decide)
    obtain⟨M⟩:=H;obtain⟨L⟩:=G;cases E with
    | cons r F =>
     cases D with
     | cons k b =>
      rw [zO,Io] at g f;rw [qv] at a;rw [ltL] at q;rw [K5];refine kW (c:=NS) r k rfl rfl (by lia) (λe=>?_) λe=>?_
      ·rw [NM e] at a q;exact cS j i _ _ _ _ 1 (.inl (Iu 1)) F b g.2 f.2 a (by lia) (by simp only [IJ] at B t;lia) q
      ·rw [NL (by rw [e];exact Ie)] at q;rw [show ((Value.type "int" != Value.type "tuple") && (0 == 0))=NS by decide];cases r;cases k;rw [ltD] at q;exact oneLt_int q
   ·obtain⟨p,rfl⟩:∃ p,y=.str p:=by
     rcases J with⟨z,_⟩ | ⟨_,h⟩ | ⟨z,_⟩
     ·exact absurd z (by decide)
     ·exact h
     ·exact absurd z (by decide)
    obtain⟨M⟩:=H;obtain⟨L⟩:=G;cases E with
    | cons r F =>
     cases D with
     | cons k b =>
      rw [zO,Io] at g f;rw [qv] at a;rw [ltL] at q;rw [K5];refine kW (c:=NS) r k g.1 f.1 (by lia) (λe=>?_) λe=>?_
      ·rw [NM e] at a q;exact cS j i _ _ _ _ 1 (.inl (Iu 1)) F b g.2 f.2 a (by lia) (by simp only [IJ] at B t;lia) q
      ·rw [NL (by rw [e];exact Ie)] at q;rw [show ((Value.type "str" != Value.type "tuple") && (0 == 0))=NS by decide];cases r;cases k;rw [ltD] at q;exact oneLt_str q
   ·exact cS _ _ _ _ _ _ 0 (.inr (by decide)) E D g f a (by lia) (by rw [B,t];lia) q
theorem ReadsAll.at {h:Heap}:∀ {a:N6} {ds:Oo} {b:N8},ReadsAll h a ds b->∀ i,i<ds.length->∃ bs,Reads h (a.getD i Value.none) (ds.getD i .none) bs
 | _,_,_,.nil,i,hi=>absurd hi (Kf _)
 | _,_,_,.cons r rs,0,_=>⟨_,r⟩
 | _,_,_,.cons r rs,i+1,hi=>ReadsAll.at rs i (Nat.lt_of_succ_lt_succ hi)
theorem ReadsAll.keep {h h':Heap} (k:∀ b o,h.get? b=NQ o->h'.get? b=NQ o):∀ {a:N6} {ds:Oo} {c:N8},ReadsAll h a ds c->ReadsAll h' a ds c
 | _,_,_,.nil=>.nil
 | _,_,_,.cons r rs=>.cons (PyProof.Rows.Reads.keeps k r) (ReadsAll.keep k rs)
theorem tJ {h:Heap}:∀ {a:N6} {ds:Oo} {g:N8},ReadsAll h a ds g->(∀ d∈ds,vQ d=NQ T)->∃ b,KatTups h a b/\b.length=a.length/\∀ v∈b,Looks (model P w) h (typeOf v) (.type T)
 | _,_,_,.nil,_=>⟨[],.nil,rfl,λ_ h=>nomatch h⟩
 | _,d :: ds,_,.cons r rs,hh=>by
  obtain⟨b,E,D,C⟩:=tJ rs λd B=>hh d (Ii _ B);obtain⟨x,F,rfl,z⟩:=aT (hh d Ik);cases r with
  | @tuple l o a n _ g y u t q =>
   obtain⟨G⟩:=a;cases q with
   | @cons j i _ _ _ _ c k =>
    refine⟨j :: b,.cons y u t rfl E,by simp [D],λv e=>?_⟩;rcases Iv.mp e with rfl | e
    ·rcases z with⟨rfl,f,rfl⟩ | ⟨rfl,f,rfl⟩ | ⟨rfl,f,rfl⟩
     ·cases c;exact Looks.of_pure rfl
     ·cases c;exact Looks.of_pure rfl
     ·cases c with
      | tuple p m I H=>rw [<-m];exact (Looks.ld p).andThen .now
    ·exact C v e
theorem Fv {ds:Oo} (c:SortOk T ds):Tot ds.length λi j=>ltD (ds.getD i .none) (ds.getD j .none):=by
 have a:∀ i,i<ds.length->ds.getD i .none∈ds:=λi b=>by
  rw [Il,Ia b];exact Jm b
 refine⟨λi j b d e=>p7 _ _ (c.plain _ (a i b)) (c.plain _ (a j d)) λz=>e ?_,λi j k b d f=>kT _ _ _ (c.plain _ (a i b)) (c.plain _ (a j d)) (c.plain _ (a k f))⟩;rw [Il,Il,Ia b,Ia d] at z;exact (LV c.nd).mp z
theorem kX {m:N6} {ds:Oo} {z:N8} (h:ReadsAll s.heap m ds z) (b:SortOk T ds) (u:A.units+60<JR) (l:ds.length<64 \/ ds.Pairwise λd e=>ltD d e=NS) :
  Asks P w A s (tuples' (Value.type T != Value.type "tuple")) m λi j=>ltD (ds.getD i .none) (ds.getD j .none):=by
 have len:=LU _ _ _ h;have a:∀ i,i<ds.length->ds.getD i .none∈ds:=λi c=>by
  rw [Il,Ia c];exact Jm c
 refine⟨λB v k R q=>?_,λv k i j C c f q=>?_,by rw [len];exact Fv b,?_⟩
 ·obtain⟨D,y,E,x⟩:=tJ (P:=P) (w:=w) (ReadsAll.keep k h) b.head;exact kat_kind y (by lia) x (beq_self_eq_true _) q
 ·rw [len] at c f;obtain⟨G,p⟩:=ReadsAll.at (ReadsAll.keep k h) i c;obtain⟨F,o⟩:=ReadsAll.at (ReadsAll.keep k h) j f;exact Fu p o (b.plain _ (a i c)) (b.plain _ (a j f)) (b.head _ (a i c)) (b.head _ (a j f)) (b.cmp _ (a i c) _ (a j f)) u (b.depth _ (a i c)) (b.depth _ (a j f)) q
 ·rw [len];refine l.imp id λr i c=>?_;have n:=KL.mp r i (i+1) (by lia) c (by lia);have g:∀ j (f:j<ds.length),ds.getD j .none=ds[j]:=λj f=>by rw [Il,Ia f];rfl
  rw [g _ c,g i (by lia)];have t:=lt_asymm (b.plain _ (Jm _)) (b.plain _ (Jm _)) n;have:=p7 _ _ (b.plain _ (Jm _)) (b.plain _ (Jm _)) t;rw [n] at this
  revert this
  cases ltD ds[i+1] ds[i] <;> simp
end
noncomputable def pick {a:Type} (d:a) (p:Array Nat) (xs:List a):List a:=p.toList.map λi=>xs.getD i d
theorem tK:∀ {xs:List V} {a:N6},Vals xs a->∀ i,RelV (xs.getD i .non) (a.getD i Value.none)
 | _,_,.nil,i=>rfl
 | _,_,.cons r t,0=>r
 | _,_,.cons r t,i+1=>tK t i
theorem dW {xs:List V} {a:N6} (r:Vals xs a) (p:Array Nat):Vals (pick .non p xs) (pick Value.none p a):=by
 unfold pick
 induction p.toList with
 | nil=>exact .nil
 | cons i l ih=>exact .cons (tK r i) ih
theorem tL {K:Ih} {H:Hp}:∀ {ds:Oo} {xs:List V},Reps K H ds xs->∀ i,Rep K H (ds.getD i .none) (xs.getD i .non)
 | [],xs,r,i=>by
  rw [zQ.mp r];exact j9.mpr rfl
 | d :: ds,xs,r,i=>by
  obtain⟨x,a,rfl,c,b⟩:=zE.mp r;cases i with
  | zero=>exact c
  | succ i=>exact tL b i
theorem dX {K:Ih} {H:Hp} {ds:Oo} {xs:List V} (r:Reps K H ds xs) (p:Array Nat):Reps K H (pick .none p ds) (pick .non p xs):=by
 unfold pick
 induction p.toList with
 | nil=>exact .nil'
 | cons i l ih=>exact .cons' (tL r i) ih
theorem dY {b:Type} {d:b} {n:Nat} {p:Array Nat} {xs:List b} (h:Pm n p) (c:n=xs.length):(pick d p xs).Perm xs:=by
 have e:(IQ n).map (λi=>xs.getD i d)=xs:=by
  subst c;refine KR λi=>?_;rw [Iq];by_cases a:i<xs.length
  ·rw [J6 a,Ia a];simp [a]
  ·rw [Jf (by simp;lia),Jf (by lia)];rfl
 have:=h.map λi=>xs.getD i d;rw [e] at this;exact this
theorem kY {n:Nat} {p:Array Nat} {ds:Oo} (h:Pm n p) (u:Up (λi j=>ltD (ds.getD i .none) (ds.getD j .none)) p n):(pick .none p ds).Pairwise λd e=>ltD d e=NS:=by
 unfold pick;rw [JF];refine KL.mpr λi j f c a=>?_;have l:=h.size;rw [IH] at f c;have:=u i j a (by lia);have g:∀ k (b:k<p.toList.length),p.getD k 0=p.toList[k]:=λk b=>by
  rw [vk,Il,Ia b];rfl
 rw [g i (by simpa using f),g j (by simpa using c)] at this;exact this
def kZ (K:Ih):List V->Hp->VK->Prop:=λf H Q=>∃ (a:Ij) (c:List V) (b:Oo) (T:String),f=[.ref a]/\SqL K H a c/\Reps K H b c/\SortOk T b/\b.length<=1000/\(b.length<64 \/ b.Pairwise λd e=>ltD d e=NS) /\
 ∀ l p,H l=NW->Pm b.length p->Up (λi j=>ltD (b.getD i .none) (b.getD j .none)) p b.length->Q (.ref l) (upd H l (.lst (pick .non p c)))
theorem k7 {X:Cx} (F:X.A.units+64<JR):yJ X (.builtin "sorted") (kZ X.K):=by
 intro N s y H z B Q I r h;obtain⟨a,k,g,T,rfl,w,l,ok,G,f,q⟩:=h;obtain⟨u,rfl,o⟩:=vals1 r;cases o;obtain⟨b,e,v,E⟩:=I.list w;have C:=e.length;have ld:=l.length;obtain⟨M,t⟩:=jq I g k b l e;have L:X.A.in1.in1.units=X.A.units+1+1:=rfl;have lt':b.length=g.length:=by lia
 refine mX (by lia) v.isList (kX t ok (by lia) f) λJ D p c d j i n m=>?_;rw [lt'] at d j;have x:H D=NW:=I.hok.fresh i;have lp:p.toList.length=g.length:=by rw [IH];exact d.size
 exact⟨.ref D,upd H D (.lst (pick .non p k)),I.laid (t':=s.toks) n i ⟨by unfold pick;rw [Ib];lia,pick Value.none p b,c,dW e p,m⟩,rfl,q D p x d j⟩
theorem cT {X:Cx} {K:Ih} (b:X.K=K) (a:X.A.units+64<JR):yJ X (.builtin "sorted") (kZ K):=b▸k7 a
section
variable {K:Ih} {f:Fx} {ρ:zu} {P:Oo->Prop} {te:TE}
theorem mZ (T:String) (h:PEd K f te ρ λx=>∃ ds,x=.list ds/\SortOk T ds/\ds.length<=1000/\(ds.length<64 \/ ds.Pairwise λd e=>ltD d e=NS)/\∀ es,es.Perm ds->(es.Pairwise λd e=>ltD d e=NS)->P es) :
  PEdO K f (tCB (kZ K) (yy te qC)) ρ P:=λw H Q e q=>h w H _ e λx v t k y ⟨ds,E,ok,A,n,p⟩=>by
 subst E;obtain⟨a,r,rfl,C,s⟩:=zI.mp y;refine⟨a,r,ds,T,rfl,(zo _ _).seq C,Reps.mono (zo _ _) _ _ s,ok,A,n,λl i j m u=>?_⟩;have D:Goes f t (upd t l (.lst (pick .non i r))):=.of_same (yf j _) k.2;refine q (pick .none i ds) l _ _ (k.trans D) (k.free e.fd j) zy (Reps.mono (λb o B=>?_) _ _ (dX s i)) (p _ (dY m rfl) (kY m u));have c:=zW B;have g:b≠l:=λz=>by
  have:=c.2;rw [z,j] at this;cases this
 refine zG (λz=>?_) (by rw [zx g];exact c.2);rcases z with z | z
 ·exact c.1 (.inl z)
 ·rcases Iv.mp z with z | z
  ·exact g z
  ·exact c.1 (.inr z)
end
end L2
end
section
namespace L2.ST
open PySem PySem.SetTable
def m4 (xs:Array Nat):Prop:=∀ i j,i<j->j<xs.size->xs.getD i 0<xs.getD j 0
theorem Ax {xs:Array Nat} {i d e:Nat} (h:i<xs.size):xs.getD i d=xs.getD i e:=by simp [K4,h]
theorem gp {xs:Array Nat} {j:Nat}:∀ f lo c,c - lo<=f->lo<=c->c<=xs.size->(∀ i,i<lo->xs.getD i 0<j)->(∀ i,c<=i->i<xs.size->j<=xs.getD i 0)->m4 xs ->
  lo<=below.go xs j f lo c/\below.go xs j f lo c<=c/\(∀ i,i<below.go xs j f lo c->xs.getD i 0<j)/\(∀ i,below.go xs j f lo c<=i->i<xs.size->j<=xs.getD i 0)
 | 0,lo,c,hf,hl,hh,a,b,r=>by
  obtain rfl:lo=c:=by lia
  exact⟨Iu _,Iu _,a,b⟩
 | f+1,lo,c,hf,hl,hh,a,b,r=>by
  unfold below.go;by_cases h:lo<c
  ·rw [NM h];have k:(lo+c) / 2<xs.size:=by lia
   simp only;rw [Ax (e:=0) k];by_cases d:xs.getD ((lo+c) / 2) 0<j
   ·rw [NM d];have:=gp f ((lo+c) / 2+1) c (by lia) (by lia) hh (λi g=>by
     by_cases e:i=(lo+c) / 2
     ·rw [e];exact d
     ·exact MW (r i _ (by lia) k) d) b r
    exact⟨by lia,this.2.1,this.2.2⟩
   ·rw [NL d];have:=gp f lo ((lo+c) / 2) (by lia) (by lia) (by lia) a (λi g l=>by
     by_cases e:i=(lo+c) / 2
     ·rw [e];lia
     ·have:=r ((lo+c) / 2) i (by lia) l;lia) r
    exact⟨this.1,by lia,this.2.2⟩
  ·rw [NL h];obtain rfl:lo=c:=by lia
   exact⟨Iu _,Iu _,a,b⟩
theorem m5 {xs:Array Nat} (r:m4 xs) (j:Nat):below xs j<=xs.size/\(∀ i,i<below xs j->xs.getD i 0<j)/\(∀ i,below xs j<=i->i<xs.size->j<=xs.getD i 0):=by
 have:=gp (xs:=xs) (j:=j) xs.size 0 xs.size (by lia) (IV _) (Iu _) (λi c=>absurd c (Kf _)) (λi a b=>by lia) r;exact this.2
theorem below_at {xs:Array Nat} (r:m4 xs) {i:Nat} (e:i<xs.size):below xs (xs.getD i 0)=i:=by
 obtain⟨a,b,c⟩:=m5 r (xs.getD i 0);by_cases h:below xs (xs.getD i 0)<i
 ·have f:=c _ (Iu _) (by lia);have d:=r _ i h e;lia
 ·by_cases d:i<below xs (xs.getD i 0)
  ·have:=b i d;lia
  ·lia
def Tk (t:SetTable) (j:Nat):Prop:=∃ i,i<t.place.size/\t.place.getD i 0=j
theorem slot_live {t:SetTable} (r:m4 t.place) {i:Nat} (a:i<t.place.size):t.slot (t.place.getD i 0)=.live i:=by
 unfold slot;simp only;rw [below_at r a];have:(t.place[i]? == NQ (t.place.getD i 0))=NS:=by simp [K4,a]
 rw [NM this]
theorem wx {t:SetTable} (d:t.dummies=#[]) {j:Nat} (h:¬ Tk t j):t.slot j=.empty:=by
 unfold slot;simp only;have c:¬ (t.place[below t.place j]? == NQ j)=NS:=λe=>h (by
  have g:=eq_of_beq e;obtain⟨a,f⟩:=Mr.mp g;exact⟨_,a,by simp [K4,a,f]⟩)
 rw [NL c];have b:has t.dummies j=NV:=by rw [d];rfl
 rw [b];rfl
def road (a:Nat) (h:Int):Nat->Probe
 | 0=>{ j:=bits h % (a+1),more:=runEnd a (bits h % (a+1)) - bits h % (a+1),i:=bits h % (a+1),perturb:=bits h,dummy:=NW }
 | k+1=>if (road a h k).more > 0 then { road a h k with j:=(road a h k).j+1,more:=(road a h k).more - 1 } else
  { road a h k with j:=(leap a (road a h k).i (road a h k).perturb).1,more:=runEnd a (leap a (road a h k).i (road a h k).perturb).1 - (leap a (road a h k).i (road a h k).perturb).1,i:=(leap a (road a h k).i (road a h k).perturb).1,perturb:=(leap a (road a h k).i (road a h k).perturb).2 }
theorem road_start (t:SetTable) (h:Int):t.probeStart h=road t.mask h 0:=rfl
theorem cj (a:Nat) (h:Int):∀ k,(road a h k).dummy=NW
 | 0=>rfl
 | k+1=>by
  unfold road;split
  ·exact cj a h k
  ·exact cj a h k
abbrev pos (a:Nat) (h:Int) (k:Nat):Nat:=(road a h k).j
def lp (a:Nat) (h:Int):Nat->Nat×Nat
 | 0=>(bits h % (a+1),bits h)
 | r+1=>leap a (lp a h r).1 (lp a h r).2
theorem dZ (a i:Nat) (h:i<=a):i<=runEnd a i/\runEnd a i<=a/\runEnd a i - i<=9:=by
 unfold runEnd;split <;> lia
theorem m6 (a:Nat) (h:Int):∀ r,(lp a h r).1<=a
 | 0=>Mg.mp (Nat.mod_lt _ (LG _))
 | r+1=>Mg.mp (Nat.mod_lt _ (LG _))
def At (a:Nat) (h:Int) (k r d:Nat):Prop:=d<=runEnd a (lp a h r).1 - (lp a h r).1/\road a h k={ j:=(lp a h r).1+d,more:=runEnd a (lp a h r).1 - (lp a h r).1 - d,i:=(lp a h r).1,perturb:=(lp a h r).2,dummy:=NW }
theorem k8 (a:Nat) (h:Int):At a h 0 0 0:=⟨IV _,rfl⟩
theorem tM {b:Nat} {h:Int} {k r d:Nat} (a:At b h k r d) (c:d<runEnd b (lp b h r).1 - (lp b h r).1):At b h (k+1) r (d+1):=by
 obtain⟨f,e⟩:=a;refine⟨c,?_⟩;unfold road;rw [e];simp only;rw [NM (by lia)];simp only [Probe.mk.injEq,and_true];lia
theorem k9 {b:Nat} {h:Int} {k r d:Nat} (a:At b h k r d) (e:d=runEnd b (lp b h r).1 - (lp b h r).1):At b h (k+1) (r+1) 0:=by
 obtain⟨f,c⟩:=a;refine⟨IV _,?_⟩;unfold road;rw [c];simp only;rw [NL (by lia)];rfl
theorem lg {b:Nat} {h:Int} {k r:Nat} (a:At b h k r 0):∀ d,d<=runEnd b (lp b h r).1 - (lp b h r).1->At b h (k+d) r d
 | 0,_=>a
 | d+1,hd=>tM (lg a d (by lia)) (by lia)
theorem m7 (b:Nat) (h:Int):∀ r,∃ k,k<=10 * r/\At b h k r 0
 | 0=>⟨0,Iu _,k8 b h⟩
 | r+1=>by
  obtain⟨k,c,a⟩:=m7 b h r;have:=(dZ b _ (m6 b h r)).2.2;exact⟨_,by lia,k9 (lg a _ (Iu _)) rfl⟩
theorem Ay (b:Nat) (h:Int):∀ k,∃ r d,At b h k r d
 | 0=>⟨0,0,k8 b h⟩
 | k+1=>by
  obtain⟨r,d,a⟩:=Ay b h k;by_cases e:d<runEnd b (lp b h r).1 - (lp b h r).1
  ·exact⟨r,d+1,tM a e⟩
  ·exact⟨r+1,0,k9 a (Nat.le_antisymm a.1 (by lia))⟩
theorem lh (a:Nat) (h:Int) (k:Nat):pos a h k<=a:=by
 obtain⟨r,d,c,b⟩:=Ay a h k;unfold pos;rw [b];have:=dZ a _ (m6 a h r);show (lp a h r).1+d<=a;lia
def stp (m i:Nat):Nat:=(i * 5+1) % m
def itr (m:Nat):Nat->Nat->Nat
 | 0,i=>i
 | r+1,i=>stp m (itr m r i)
theorem cU (m:Nat) (a:Nat):∀ b i,itr m (a+b) i=itr m b (itr m a i)
 | 0,i=>rfl
 | b+1,i=>by show stp m (itr m (a+b) i)=stp m (itr m b (itr m a i));rw [cU m a b i]
def orb (m:Nat):Nat->Nat->Om
 | 0,_=>[]
 | f+1,i=>i :: orb m f (stp m i)
theorem Az (m:Nat):∀ f i r,r<f->(orb m f i)[r]?=NQ (itr m r i)
 | 0,_,_,h=>absurd h (Kf _)
 | f+1,i,0,_=>rfl
 | f+1,i,r+1,h=>by
  show (orb m f (stp m i))[r]?=_;rw [Az m f (stp m i) r (by lia),show r+1=1+r by lia,cU m 1 r i];rfl
def qV (m:Nat):Bool:=(IQ m).all (λj=>(orb m m 0).contains j) && itr m m 0 == 0
theorem tN:qV 8=NS:=by decide +kernel
theorem m8:qV 32=NS:=by decide +kernel
theorem iM:qV 128=NS:=by decide +kernel
theorem iN:qV 512=NS:=by decide +kernel
theorem lq (m:Nat):∀ f i,(orb m f i).length=f
 | 0,_=>rfl
 | f+1,i=>by show (orb m f (stp m i)).length+1=f+1;rw [lq m f]
theorem m9 {m:Nat} (h:qV m=NS) {j:Nat} (d:j<m):∃ r,r<m/\itr m r 0=j:=by
 unfold qV at h;rw [Io] at h;have:=Kz.mp h.1 j (Jb.mpr d);have c:j∈orb m m 0:=by simpa using this
 obtain⟨r,a,e⟩:=Kr c;rw [lq] at a;have b:=Az m m 0 r a;rw [Ia (by rw [lq];exact a),e] at b;exact⟨r,a,(N1 b).symm⟩
theorem tO {m:Nat} (h:qV m=NS) {i j:Nat} (f:i<m) (e:j<m):∃ r,r<m/\itr m r i=j:=by
 obtain⟨a,n,d⟩:=m9 h f;obtain⟨b,l,c⟩:=m9 h e;have k:itr m m 0=0:=by
  unfold qV at h;rw [Io] at h;exact eq_of_beq h.2
 by_cases g:a<=b
 ·exact⟨b - a,by lia,by rw [<-d,<- cU,show a+(b - a)=b by lia];exact c⟩
 ·refine⟨m - a+b,by lia,?_⟩;rw [<-d,<- cU,show a+(m - a+b)=m+b by lia,cU,k];exact c
theorem tP (a:Nat) (h:Int):∀ r,(lp a h r).2=bits h / 32 ^ r
 | 0=>by simp [lp]
 | r+1=>by
  show (lp a h r).2 / 32=_;rw [tP a h r,Nat.div_div_eq_div_mul,Nat.pow_succ]
theorem CK (h:Int):bits h<2 ^ 64:=by
 unfold bits;have:=Km h (show (0:Int)<2 ^ 64 by decide);have:=Lw h (show (2 ^ 64:Int)≠0 by decide);lia
theorem CL (a:Nat) (h:Int) (r:Nat) (b:13<=r):(lp a h r).2=0:=by
 rw [tP];refine Nat.div_eq_of_lt (IW (CK h) ?_);exact IS (show 2 ^ 64<=32 ^ 13 by decide) (Nat.pow_le_pow_right (by decide) b)
theorem p8 (a:Nat) (h:Int):∀ r,(lp a h (13+r)).1=itr (a+1) r (lp a h 13).1
 | 0=>rfl
 | r+1=>by
  show (leap a (lp a h (13+r)).1 (lp a h (13+r)).2).1=stp (a+1) (itr (a+1) r (lp a h 13).1);rw [CL a h (13+r) (by lia),p8 a h r];rfl
theorem AA {a:Nat} (g:qV (a+1)=NS) (h:Int) {j:Nat} (b:j<=a):∃ k,k<10 * turns a/\pos a h k=j:=by
 obtain⟨r,d,e⟩:=tO g (i:=(lp a h 13).1) (j:=j) (LI (m6 a h 13)) (LI b);obtain⟨k,f,l,c⟩:=m7 a h (13+r);refine⟨k,by unfold turns;lia,?_⟩;unfold pos;rw [c];show (lp a h (13+r)).1+0=j;rw [p8,e];rfl
end L2.ST
end
section
namespace L2.ST
open PySem PySem.SetTable
structure TB (t:SetTable) (hs:Oh):Prop where
 mask:t.mask=7 \/ t.mask=31 \/ t.mask=127 \/ t.mask=511
 dum:t.dummies=#[]
 rise:m4 t.place
 le:∀ i,i<t.place.size->t.place.getD i 0<=t.mask
 size:t.place.size=hs.length
 most:hs.length<=t.mask
 reach:∀ i,i<hs.length->∃ k,pos t.mask (hs.getD i 0) k=t.place.getD i 0/\∀ k',k'<k->Tk t (pos t.mask (hs.getD i 0) k')
structure TOk (t:SetTable) (hs:Oh):Prop extends TB t hs where
 room:hs.length * 5<t.mask * 3
theorem AB {t:SetTable} {a:Oh} (o:TB t a):qV (t.mask+1)=NS:=by
 rcases o.mask with e | e | e | e <;> rw [e]
 ·exact tN
 ·exact m8
 ·exact iM
 ·exact iN
theorem wz {t:SetTable} (r:m4 t.place) (p:t.place.size<=t.mask):∃ j,j<=t.mask/\¬ Tk t j:=by
 refine JS λg=>?_;have all:∀ j,j<=t.mask->Tk t j:=λj a=>JS λz=>g ⟨j,a,z⟩;have f:∀ j,j<=t.mask->j<=below t.place j/\below t.place j<t.place.size:=λj=>by
  induction j with
  | zero =>
   intro a;obtain⟨i,d,e⟩:=all 0 a;have:=below_at r d;rw [e] at this;exact⟨IV _,by lia⟩
  | succ j ih =>
   intro a;obtain⟨i,d,e⟩:=all (j+1) a;obtain⟨c,b,l⟩:=all j (by lia);have n:=below_at r d;have m:=below_at r b;rw [e] at n;rw [l] at m;have o:c<i:=by
    by_cases h:c<i
    ·exact h
    ·by_cases k:c=i
     ·subst k;lia
     ·have:=r i c (by lia) b;lia
   have:=ih (by lia);lia
 have:=f t.mask (Iu _);lia
structure First (t:SetTable) (h:Int) (E:Nat):Prop where
 lt:E<10 * turns t.mask
 free:¬ Tk t (pos t.mask h E)
 ahead:∀ k,k<E->Tk t (pos t.mask h k)
theorem least {p:Nat->Prop}:∀ n,p n->∃ m,m<=n/\p m/\∀ k,k<m->¬ p k:=λn=>by
 induction n using Nat.strongRecOn with
 | ind n ih =>
  intro h;by_cases q:∃ k,k<n/\p k
  ·obtain⟨k,c,d⟩:=q;obtain⟨m,a,b⟩:=ih k c d;exact⟨m,by lia,b⟩
  ·exact⟨n,Iu _,h,λk c z=>q ⟨k,c,z⟩⟩
theorem wA {t:SetTable} (g:qV (t.mask+1)=NS) (r:m4 t.place) (f:t.place.size<=t.mask) (h:Int):∃ E,First t h E:=by
 obtain⟨j,l,d⟩:=wz r f;obtain⟨k,n,e⟩:=AA g h l;obtain⟨m,a,b,c⟩:=least (p:=λk=>¬ Tk t (pos t.mask h k)) k (by show ¬ Tk t (pos t.mask h k);rw [e];exact d);exact⟨m,by lia,b,λq i=>JS (c q i)⟩
theorem first_of {t:SetTable} {a:Oh} (o:TB t a) (h:Int):∃ E,First t h E:=wA (AB o) o.rise (by have:=o.size;have:=o.most;lia) h
theorem probe_go {t:SetTable} (d:t.dummies=#[]) (r:m4 t.place) {hashAt:Nat->Int} {h:Int} {E:Nat} (F:First t h E):∀ f k,k<=E->E<k+f ->
  (probe.go t hashAt h f (road t.mask h k)=NQ (.empty (pos t.mask h E) NW)/\∀ q i,k<=q->q<E->i<t.place.size->pos t.mask h q=t.place.getD i 0->hashAt i≠h) \/
  ∃ q i,k<=q/\q<E/\i<t.place.size/\pos t.mask h q=t.place.getD i 0/\hashAt i=h/\probe.go t hashAt h f (road t.mask h k)=NQ (.candidate (pos t.mask h q) i (road t.mask h (q+1)))/\∀ l c,k<=l->l<q->c<t.place.size->pos t.mask h l=t.place.getD c 0->hashAt c≠h
 | 0,k,h1,h2=>by lia
 | f+1,k,h1,h2=>by
  unfold probe.go;by_cases e:k=E
  ·subst e;refine .inl ⟨?_,λq i a b=>by lia⟩;rw [wx d F.free];show NQ (Met.empty _ _)=_;rw [cj]
  ·obtain⟨i,u,w⟩:=F.ahead k (by lia);have y:t.slot (road t.mask h k).j=.live i:=by
    have:=slot_live r u;rw [w] at this;exact this
   rw [y];show (if (hashAt i == h)=NS then _ else _:Option Met)=_/\_ \/ _;have g:∀ c,c<t.place.size->pos t.mask h k=t.place.getD c 0->c=i:=λc s B=>by
    have G:=below_at r u;have D:=below_at r s;rw [w] at G;rw [<-B] at D;lia
   by_cases m:(hashAt i == h)=NS
   ·rw [NM m];refine .inr ⟨k,i,Iu _,by lia,u,w.symm,eq_of_beq m,?_,λl c a b=>by lia⟩;show (if (hashAt i == h)=NS then _ else _:Option Met)=_;rw [NM m];rfl
   ·rw [NL m];have n:hashAt i≠h:=λz=>m (by rw [z];exact beq_self_eq_true _);rcases probe_go d r (hashAt:=hashAt) F f (k+1) (by lia) (by lia) with⟨a,b⟩ | ⟨q,A,N,M,L,K,J,I,H⟩
    ·refine .inl ⟨a,λq c C x p o=>?_⟩;by_cases v:q=k
     ·subst v;rw [g c p o];exact n
     ·exact b q c (by lia) x p o
    ·refine .inr ⟨q,A,by lia,M,L,K,J,?_,λl c C x p o=>?_⟩
     ·show (if (hashAt i == h)=NS then _ else _:Option Met)=_;rw [NL m];exact I
     ·by_cases v:l=k
      ·subst v;rw [g c p o];exact n
      ·exact H l c (by lia) x p o
end L2.ST
end
section
namespace L2.ST
open PySem PySem.SetTable
theorem cV {a:Type} (xs:Array a) (i:Nat) (d:a):xs.getD i d=xs.toList.getD i d:=by
 by_cases h:i<xs.size <;> simp [K4,h,List.getD]
theorem nh {c:Type} (l:List c) (p:Nat) (x d:c) (f:p<=l.length) (i:Nat):(l.take p++x :: l.drop p).getD i d=if i<p then l.getD i d else if i=p then x else l.getD (i - 1) d:=by
 have e:(l.take p).length=p:=by rw [Jt];lia
 by_cases b:i<p
 ·rw [NM b,Il,Iy (by lia),KU b,Il]
 ·rw [NL b,Il,IC (by lia),e];by_cases a:i=p
  ·rw [NM a,a,Kv];rfl
  ·rw [NL a,show i - p=(i - p - 1)+1 by lia,List.getElem?_cons_succ,List.getElem?_drop,show p+(i - p - 1)=i - 1 by lia,Il]
section
variable {t:SetTable} {hs:Oh} {h:Int} {E:Nat}
theorem put_tb (o:TB t hs) (F:First t h E) (m:hs.length+1<=t.mask):below t.place (pos t.mask h E)<=hs.length/\TB (t.put (pos t.mask h E)).1 (hs.take (below t.place (pos t.mask h E))++h :: hs.drop (below t.place (pos t.mask h E))):=by
 obtain⟨J,I,H⟩:=m5 o.rise (pos t.mask h E);have B:=o.size;generalize z:below t.place (pos t.mask h E)=p at *;have v:p<=t.place.toList.length:=by rw [IH];exact J
 have g:∀ i,(t.put (pos t.mask h E)).1.place.getD i 0=if i<p then t.place.getD i 0 else if i=p then pos t.mask h E else t.place.getD (i - 1) 0:=λi=>by
  show (insertAt t.place (below t.place (pos t.mask h E)) (pos t.mask h E)).getD i 0=_;rw [z,cV,Ls,nh _ _ _ _ v,cV,cV]
 have f:(t.put (pos t.mask h E)).1.place.size=t.place.size+1:=by
  show (insertAt t.place (below t.place (pos t.mask h E)) (pos t.mask h E)).size=_;rw [<-IH,Ls,z,IE,IJ,Jt,List.length_drop,IH];lia
 have C:∀ i,i<t.place.size->t.place.getD i 0≠pos t.mask h E:=λi l e=>F.free ⟨i,l,e⟩;have y:∀ i,p<=i->i<t.place.size->pos t.mask h E<t.place.getD i 0:=λi a b=>by
  have:=H i a b;have:=C i b;lia
 have w:(t.put (pos t.mask h E)).1.mask=t.mask:=rfl;have s:∀ j,Tk t j->Tk (t.put (pos t.mask h E)).1 j:=λj ⟨i,l,e⟩=>by
  by_cases q:i<p
  ·exact⟨i,by lia,by rw [g,NM q];exact e⟩
  ·exact⟨i+1,by lia,by rw [g,NL (by lia),NL (by lia),Nat.add_sub_cancel];exact e⟩
 have D:∀ i,(hs.take p++h :: hs.drop p).getD i 0=if i<p then hs.getD i 0 else if i=p then h else hs.getD (i - 1) 0:=λi=>nh hs p h 0 (by lia) i
 have u:(hs.take p++h :: hs.drop p).length=hs.length+1:=by
  rw [IE,IJ,Jt,List.length_drop];lia
 refine⟨by lia,⟨o.mask,?_,λi j x G=>?_,λi l=>?_,by rw [f,u,B],by rw [u,w];exact m,λi l=>?_⟩⟩
 ·show (if has t.dummies (pos t.mask h E)=NS then _ else t.dummies)=#[];rw [o.dum];rfl
 ·rw [g,g];rw [f] at G;by_cases d:i<p
  ·rw [NM d];by_cases A:j<p
   ·rw [NM A];exact o.rise i j x (by lia)
   ·rw [NL A];by_cases c:j=p
    ·rw [NM c];exact I i d
    ·rw [NL c];exact o.rise i (j - 1) (by lia) (by lia)
  ·rw [NL d,NL (show ¬ j<p by lia)];by_cases c:i=p
   ·rw [NM c,NL (by lia)];exact y (j - 1) (by lia) (by lia)
   ·rw [NL c,NL (by lia)];exact o.rise (i - 1) (j - 1) (by lia) (by lia)
 ·rw [g,w];rw [f] at l;by_cases d:i<p
  ·rw [NM d];exact o.le i (by lia)
  ·rw [NL d];by_cases c:i=p
   ·rw [NM c];exact lh _ _ _
   ·rw [NL c];exact o.le (i - 1) (by lia)
 ·rw [D,g,w];rw [u] at l;by_cases d:i<p
  ·rw [NM d,NM d];obtain⟨k,e,a⟩:=o.reach i (by lia);exact⟨k,e,λn r=>s _ (a n r)⟩
  ·rw [NL d,NL d];by_cases c:i=p
   ·rw [NM c,NM c];exact⟨E,rfl,λn r=>s _ (F.ahead n r)⟩
   ·rw [NL c,NL c];obtain⟨k,e,a⟩:=o.reach (i - 1) (by lia);exact⟨k,e,λn r=>s _ (a n r)⟩
end
def Occ (ow:Array (Oi)) (j:Nat):Prop:=ow.getD j (NQ 0)≠NW
theorem tQ {b:Nat} {ow:Array (Oi)} {h:Int}:∀ f r k,At b h k r 0->(∃ g,r<=g/\g<r+f/\¬ Occ ow (lp b h g).1) ->
  ∃ E,k<=E/\(∀ q,k<=q->q<E->Occ ow (pos b h q))/\¬ Occ ow (pos b h E)/\layClean.free b ow f (lp b h r).1 (lp b h r).2=NQ (pos b h E)
 | 0,r,k,a,⟨g,h1,h2,_⟩=>by lia
 | f+1,r,k,a,⟨g,h1,h2,h3⟩=>by
  have H:=dZ b _ (m6 b h r);have c:∀ d,d<=runEnd b (lp b h r).1 - (lp b h r).1->pos b h (k+d)=(lp b h r).1+d:=λd m=>by
   have:=(lg a d m).2;unfold pos;rw [this]
  unfold layClean.free;cases hf:(IQ (runEnd b (lp b h r).1+1 - (lp b h r).1)).find? λk=>(ow.getD ((lp b h r).1+k) (NQ 0)).isNone with
  | some d =>
   have y:=List.mem_of_find?_eq_some hf;have m:=Jb.mp y;have x:=List.find?_some hf;have s:∀ l,l<d->¬ (ow.getD ((lp b h r).1+l) (NQ 0)).isNone=NS:=λl p=>by
    obtain⟨_,i,L,e,F⟩:=List.find?_eq_some_iff_append.mp hf;have:i=IQ d:=by
     have v:(IQ (runEnd b (lp b h r).1+1 - (lp b h r).1))[i.length]?=NQ d:=by
      rw [e,IC (Iu _),Kv];rfl
     have w:i.length<runEnd b (lp b h r).1+1 - (lp b h r).1:=by
      have:=congrArg Nd e;simp at this;lia
     rw [J6 w] at v;have A:i.length=d:=N1 v;have:i=(IQ (runEnd b (lp b h r).1+1 - (lp b h r).1)).take i.length:=by
      rw [e,List.take_append_of_le_length (Iu _),Jk]
     rw [this,List.take_range,Nat.min_eq_left (by lia),A]
    have t:=F l (by rw [this];exact Jb.mpr p);intro z;have u:(!(ow.getD ((lp b h r).1+l) (NQ 0)).isNone)=NS:=t;rw [z] at u;cases u
   refine⟨k+d,by lia,λq o j=>?_,?_,?_⟩
   ·have:=s (q - k) (by lia);rw [show q=k+(q - k) by lia,c (q - k) (by lia)];intro z;rw [z] at this;exact this rfl
   ·rw [c d (by lia)];intro z;have n:(ow.getD ((lp b h r).1+d) (NQ 0)).isNone=NS:=x;exact z (KJ.mp n)
   ·rw [c d (by lia)]
  | none =>
   have all:∀ d,d<runEnd b (lp b h r).1+1 - (lp b h r).1->Occ ow ((lp b h r).1+d):=λd m z=>by
    have:=Ms.mp hf d (Jb.mpr m);simp [z] at this
   have I:g≠r:=λz=>by
    rw [z] at h3;exact h3 (by have:=all 0 (by lia);rwa [Nat.add_zero] at this)
   have G:=k9 (lg a _ (Iu _)) rfl;obtain⟨E,K,D,C,B⟩:=tQ f (r+1) _ G ⟨g,by lia,by lia,h3⟩;refine⟨E,by lia,λq o j=>?_,C,B⟩;by_cases J:q<k+(runEnd b (lp b h r).1 - (lp b h r).1)+1
   ·rw [show q=k+(q - k) by lia,c (q - k) (by lia)];exact all _ (by lia)
   ·exact D q (by lia) j
end L2.ST
end
section
namespace L2.ST
open PySem PySem.SetTable
structure OwnT (mask:Nat) (ow:Array (Oi)) (hs:Oh) (sl:Om):Prop where
 size:ow.size=mask+1
 len:sl.length=hs.length
 nd:sl.Nodup
 le:∀ j∈sl,j<=mask
 own:∀ j,j<=mask->∀ i,ow.getD j NW=NQ i↔sl[i]?=NQ j
 reach:∀ i,i<hs.length->∃ q,pos mask (hs.getD i 0) q=sl.getD i 0/\∀ q',q'<q->pos mask (hs.getD i 0) q'∈sl
theorem OwnT.occ {a:Nat} {ow:Array (Oi)} {g:Oh} {d:Om} (o:OwnT a ow g d) {j:Nat} (f:j<=a):Occ ow j↔j∈d:=by
 have b:j<ow.size:=by rw [o.size];lia
 have e:ow.getD j (NQ 0)=ow.getD j NW:=by simp [K4,b]
 unfold Occ;rw [e];constructor
 ·intro h;obtain⟨i,c⟩:=Option.ne_none_iff_exists'.mp h;exact Ir ((o.own j f i).mp c)
 ·intro h z;obtain⟨i,c,k⟩:=Kr h;have:=(o.own j f i).mpr (by rw [Ia c,k]);rw [z] at this;cases this
def tR (a:Nat):Option (Array (Oi)×Nat)->Int->Option (Array (Oi)×Nat):=λb h=>do
  let (owner,k) <- b
  let j <- layClean.free a owner (turns a) (bits h % (a+1)) (bits h)
  pure (owner.setIfInBounds j (NQ k),k+1)
theorem AD {d:Nat} (g:qV (d+1)=NS) {ow:Array (Oi)} {f:Oh} {k:Om} (o:OwnT d ow f k) (O:f.length<=d) (h:Int) :
  ∃ n u,tR d (NQ (ow,f.length)) h=NQ (n,f.length+1)/\OwnT d n (f++[h]) u:=by
 obtain⟨j,m,D⟩:∃ j,j<=d/\j∉k:=by
  refine JS λC=>?_;have sub:IQ (d+1) ⊆ k:=λj m=>JS λz=>C ⟨j,Mg.mp (Jb.mp m),z⟩;have:=List.Nodup.length_le_of_subset MO sub;rw [Jh,o.len] at this;lia
 obtain⟨r,N,e⟩:=tO g (i:=(lp d h 13).1) (j:=j) (LI (m6 d h 13)) (LI m);obtain⟨E,_,L,K,J⟩:=tQ (ow:=ow) (turns d) 0 0 (k8 d h) ⟨13+r,IV _,by unfold turns;lia,by rw [p8,e,o.occ m];exact D⟩;have s:pos d h E∉k:=λz=>K ((o.occ (lh d h E)).mpr z);have y:∀ q,q<E->pos d h q∈k:=λq p=>(o.occ (lh d h q)).mp (L q (IV _) p);have x:layClean.free d ow (turns d) (bits h % (d+1)) (bits h)=NQ (pos d h E):=J;refine⟨ow.setIfInBounds (pos d h E) (NQ f.length),k++[pos d h E],?_,?_⟩
 ·show (layClean.free d ow (turns d) (bits h % (d+1)) (bits h) >>= λj=>pure (ow.setIfInBounds j (NQ f.length),f.length+1))=_;rw [x];rfl
 ·have A:∀ i,(k++[pos d h E])[i]?=if i<k.length then k[i]? else if i=k.length then NQ (pos d h E) else NW:=λi=>by
   by_cases c:i<k.length
   ·rw [NM c,Iy c]
   ·rw [NL c,IC (by lia)];by_cases l:i=k.length
    ·rw [NM l,l,Kv];rfl
    ·rw [NL l];exact Jf (by simp;lia)
  refine⟨by rw [Array.size_setIfInBounds];exact o.size,by simp [o.len],?_,λj m=>?_,λj m i=>?_,λi F=>?_⟩
  ·rw [Jw];refine⟨o.nd,by simp,λa B b G=>?_⟩;rw [Iw.mp G];intro z;rw [z] at B;exact s B
  ·rcases Iz.mp m with m | m
   ·exact o.le j m
   ·rw [Iw.mp m];exact lh _ _ _
  ·have w:j<ow.size:=by rw [o.size];lia
   rw [A];by_cases c:j=pos d h E
   ·subst c;have:(ow.setIfInBounds (pos d h E) (NQ f.length)).getD (pos d h E) NW=NQ f.length:=by simp [K4,w]
    rw [this];constructor
    ·intro z;have M:f.length=i:=N1 z;rw [NL (by rw [o.len];lia),NM (by rw [o.len];lia)]
    ·intro z;by_cases l:i<k.length
     ·rw [NM l] at z;exact absurd (Ir z) s
     ·rw [NL l] at z;by_cases t:i=k.length
      ·rw [t,o.len]
      ·rw [NL t] at z;cases z
   ·have:(ow.setIfInBounds (pos d h E) (NQ f.length)).getD j NW=ow.getD j NW:=by
     rw [Kw,Kw,LR (JM c)]
    rw [this,o.own j m i];by_cases l:i<k.length
    ·rw [NM l]
    ·rw [NL l];constructor
     ·intro z;rw [Jf (by lia)] at z;cases z
     ·intro z;by_cases t:i=k.length
      ·rw [NM t] at z;exact absurd (N1 z).symm c
      ·rw [NL t] at z;cases z
  ·have I:∀ i,(f++[h]).getD i 0=if i<f.length then f.getD i 0 else if i=f.length then h else 0:=λi=>by
    by_cases c:i<f.length
    ·rw [NM c,Il,Iy c,Il]
    ·rw [NL c,Il,IC (by lia)];by_cases l:i=f.length
     ·rw [NM l,l,Kv];rfl
     ·rw [NL l,Jf (by simp;lia)];rfl
   rw [IE,JJ] at F;have H:(k++[pos d h E]).getD i 0=((k++[pos d h E])[i]?).getD 0:=Il ..;rw [I,H,A];by_cases c:i<f.length
   ·rw [NM c,NM (by rw [o.len];exact c)];obtain⟨q,a,b⟩:=o.reach i c;exact⟨q,by rw [<-Il];exact a,λv p=>IY _ (b v p)⟩
   ·rw [NL c,NM (by lia),NL (by rw [o.len];lia),NM (by rw [o.len];lia)];exact⟨E,rfl,λv p=>IY _ (y v p)⟩
theorem tS {a:Nat} (g:qV (a+1)=NS):∀ (l:Oh) (ow:Array (Oi)) (b:Oh) (d:Om),OwnT a ow b d->b.length+l.length<=a+1 ->
  ∃ c i,l.foldl (tR a) (NQ (ow,b.length))=NQ (c,b.length+l.length)/\OwnT a c (b++l) i
 | [],ow,b,d,o,_=>⟨ow,d,rfl,by rw [Jo];exact o⟩
 | h :: l,ow,b,d,o,hm=>by
  rw [IJ] at hm;obtain⟨k,f,q,p⟩:=AD g o (by lia) h;obtain⟨j,e,n,m⟩:=tS g l k (b++[h]) f p (by rw [IE,JJ];lia);refine⟨j,e,?_,by rw [J0] at m;exact m⟩;rw [List.foldl_cons,q];rw [IE,JJ] at n;rw [n,IJ,MJ,Nat.add_comm 1]
theorem CN (a:Nat):OwnT a (Mh (a+1) NW) [] [] where
 size:=by simp
 len:=rfl
 nd:=.nil
 le:=λ_ h=>nomatch h
 own:=λj c i=>by
  have:(Mh (a+1) (NW:Oi)).getD j NW=NW:=by simp [K4]
  rw [this];constructor <;> intro z <;> cases z
 reach:=λi b=>absurd b (Kf _)
theorem AE {a:Nat} (g:qV (a+1)=NS) (b:Array Int) (d:b.size<=a+1):∃ ow c,layClean a b=NQ ow/\OwnT a ow b.toList c:=by
 obtain⟨ow,c,e,o⟩:=tS g b.toList _ [] [] (CN a) (by simpa using d);refine⟨ow,c,?_,by simpa using o⟩;unfold layClean;rw [<-Array.foldl_toList];have:b.toList.foldl (tR a) (NQ (Mh (a+1) NW,0))=NQ (ow,0+b.toList.length):=e;show Option.map _ (b.toList.foldl (tR a) (NQ (Mh (a+1) NW,0)))=_;rw [this];rfl
theorem laid_ok {d:Nat} (M:d=7 \/ d=31 \/ d=127 \/ d=511) (k:Array Int) (Y:k.size<=d) (v w:Nat) (A l:Bool) :
  ∃ t ord,laid d v w A l k=NQ (t,ord)/\t.mask=d/\t.plain=l/\t.led=A/\ord.toList.Perm (IQ k.size)/\TB t (ord.toList.map λi=>k.toList.getD i 0):=by
 have g:qV (d+1)=NS:=by
  rcases M with rfl | rfl | rfl | rfl
  ·exact tN
  ·exact m8
  ·exact iM
  ·exact iN
 obtain⟨D,y,e,o⟩:=AE g k (by lia)
 let c:=(IQ (d+1)).filterMap λj=>(D.getD j NW).map (j,·)
 have f:∀ p:Nat×Nat,p∈c↔p.1<=d/\y[p.2]?=NQ p.1:=λ⟨j,i⟩=>by
  show (j,i)∈List.filterMap _ _↔_;rw [KA];constructor
  ·rintro⟨X,x,e⟩;have n:=Mg.mp (Jb.mp x);cases s:D.getD X NW with
   | none=>rw [s] at e;cases e
   | some i' =>
    rw [s] at e;cases e;exact⟨n,(o.own _ n _).mp s⟩
  ·rintro⟨h1,B⟩;refine⟨j,Jb.mpr (by lia),?_⟩;rw [(o.own j h1 i).mpr B];rfl
 have J:(c.map (·.1)).Pairwise (·<·):=by
  rw [JF];show (List.filterMap _ _).Pairwise _;rw [List.pairwise_filterMap];refine MX.imp λ{a b} I p r q m=>?_;cases e1:D.getD a NW with
  | none=>rw [e1] at r;cases r
  | some i =>
   cases s:D.getD b NW with
   | none=>rw [s] at m;cases m
   | some i2 =>
    rw [e1] at r;rw [s] at m;cases r;cases m;exact I
 have E:(c.map (·.2)).Nodup:=by
  show List.Pairwise _ _;rw [JF];have R:=JF.mp J;refine R.imp_of_mem λ{p q} r m Z F=>?_;have Q:=((f p).mp r).2;have a2:=((f q).mp m).2;rw [F,a2] at Q;have:=N1 Q;lia
 have L:(c.map (·.2)).Perm (IQ k.size):=by
  refine (List.perm_ext_iff_of_nodup E MO).mpr λi=>?_;have ls:y.length=k.size:=by rw [o.len,IH]
  constructor
  ·intro u;obtain⟨p,r,rfl⟩:=ID.mp u;have:=(Ig.mp ((f p).mp r).2).1;exact Jb.mpr (by lia)
  ·intro u;have h:=Jb.mp u;have O:i<y.length:=by lia
   exact ID.mpr ⟨(y[i],i),(f _).mpr ⟨o.le _ (Jm O),Ia O⟩,rfl⟩
 refine⟨_,_,by unfold laid;rw [e];rfl,rfl,rfl,rfl,L,?_⟩;have U:c.length=k.size:=by have:=L.length_eq;rwa [Ib,Jh] at this
 have S:∀ j,j∈y->∃ i,i<c.length/\(c.map (·.1)).getD i 0=j:=λj x=>by
  obtain⟨i,u,s⟩:=Kr x;have:(j,i)∈c:=(f _).mpr ⟨o.le j x,by rw [Ia u,s]⟩;obtain⟨q,m,e3⟩:=Kr this;exact⟨q,m,by rw [Il,Iq,Ia m,e3];rfl⟩
 have C:∀ i,(c.map (·.1)).toArray.getD i 0=(c.map (·.1)).getD i 0:=λi=>by rw [cV]
 refine⟨M,rfl,λi j G x=>?_,λi u=>?_,?_,?_,λi u=>?_⟩
 ·show (c.map (·.1)).toArray.getD i 0<(c.map (·.1)).toArray.getD j 0;have n:j<(c.map (·.1)).length:=by
   have B:j<(c.map (·.1)).toArray.size:=x
   rwa [II] at B
  rw [C,C,Il,Il,Ia n,Ia (show i<(c.map (·.1)).length by lia)];exact KL.mp J i j (by lia) n G
 ·show (c.map (·.1)).toArray.getD i 0<=d;have h:i<(c.map (·.1)).length:=by
   have B:i<(c.map (·.1)).toArray.size:=u
   rwa [II] at B
  rw [C,Il,Ia h];obtain⟨p,r,s⟩:=ID.mp (Jm h);show (c.map (·.1))[i]<=d;rw [<-s];exact ((f p).mp r).1
 ·show (c.map (·.1)).toArray.size=_;simp
 ·show (LJ _ (c.map (·.2))).length<=d;rw [Ib,Ib,U];exact Y
 ·have h:i<c.length:=by
   have H:i<(LJ (λi=>k.toList.getD i 0) (c.map (·.2))).length:=u
   rwa [Ib,Ib] at H
  have T:(c.map (·.1)).toArray.getD i 0=c[i].1:=by
   rw [C,Il,Iq,Ia h];rfl
  have P:(LJ (λi=>k.toList.getD i 0) (c.map (·.2))).getD i 0=k.toList.getD c[i].2 0:=by
   rw [Il,Iq,Iq,Ia h];rfl
  have N:=(f c[i]).mp (Jm h);have W:=(Ig.mp N.2).1;obtain⟨q,a,b⟩:=o.reach c[i].2 (by rw [<-o.len];exact W);refine⟨q,?_,λK m=>?_⟩
  ·show pos d ((LJ (λi=>k.toList.getD i 0) (c.map (·.2))).getD i 0) q=(c.map (·.1)).toArray.getD i 0;rw [P,T,a,Il,N.2];rfl
  ·show Tk _ (pos d ((LJ (λi=>k.toList.getD i 0) (c.map (·.2))).getD i 0) K);rw [P];obtain⟨z,F,ez⟩:=S _ (b K m);exact⟨z,by show z<(c.map (·.1)).toArray.size;simpa using F,by show (c.map (·.1)).toArray.getD z 0=_;rw [C];exact ez⟩
end L2.ST
end
section
namespace L2
open PySem PySem.Spec PyProof.Rows
mutual
noncomputable def zC (w:NX):NR->Int
 | .int i=>hashInt i
 | .str x=>hashStr w x
 | .tuple xs=>reduceHash (KN (aM w xs))
 | _=>0
noncomputable def aM (w:NX):Oo->Oh
 | []=>[]
 | x :: xs=>zC w x :: aM w xs
end
mutual
noncomputable def yk:NR->Nat
 | .int _=>1
 | .str _=>1
 | .tuple xs=>gq xs+1
 | _=>0
noncomputable def gq:Oo->Nat
 | []=>0
 | x :: xs=>yk x+gq xs
end
mutual
theorem gr {P:NY} {w:NX}:∀ (d:NR) (A:NZ) (s:NU) (v:NT) (f:N8) (E:NT->NU->Prop) (Q:Int->NU->Prop),Reads s.heap v d f->zD d=NS->A.units+4 * d.depth<JR ->
  Q (zC w d) { s with toks:=s.toks+yk d }->IK (model P w) A (pyHash v) Q E s
 | .int i,A,s,_,_,E,Q,r,_,_,q=>by
  cases r;rw [zC,yk] at q;exact wpAny_pyHash_int q
 | .str x,A,s,_,_,E,Q,r,_,_,q=>by
  cases r;rw [zC,yk] at q;exact wpAny_pyHash_str q
 | .tuple xs,A,s,_,_,E,Q,r,p,hu,q=>by
  cases r with
  | @tuple a o g n _ f e m l k =>
   rw [zD] at p;rw [zC,yk] at q;have b:s.TypeIs (.ref a) "tuple":=⟨o,e,m⟩;have t:(PyData.tuple xs).depth=IB xs+1:=rfl;rw [t] at hu;show IK _ A (pyHashByItsType (.ref a)) Q E s;unfold pyHashByItsType;apply Ic;apply wpAny_cRoomFor_or (.inr (by lia));apply Ic;apply La b Kp.lookup;show IK _ _ (if (NQ (Value.builtin "tuple.__hash__") == NQ Value.none)=NS then _ else _) Q E s;rw [NL (by rw [beq_builtin_none];exact Ie)];apply Ic;apply La b Kp.lookup;show IK _ _ (callSpecialIfBoundUnlessNone? (.ref a) "__hash__" _ >>= _) Q E s;apply Ic;refine wpAny_callSpecialIfBoundUnlessNone?_slot b Kp (wpAny_call_entry Kp b PySem.F.entry_tuple_hash ?_ (PySem.F.args_tuple_hash_1 _));show IK _ _ (Builtin.Tuple.tupleItemsOf (.ref a) >>= _) _ _ s;apply Ic;apply wpAny_tupleItemsOf e l;apply Ic;rw [<-KH];have j:A.in1.units=A.units+1:=rfl;refine gw xs A.in1 s g.toList _ #[] _ _ k p (by lia) ?_;simp only [Jo,List.nil_append];show IK _ _ (retInt (KN (#[]++(aM w xs).toArray).toList)) _ _ _;rw [show (#[]++(aM w xs).toArray:Array Int).toList=aM w xs by simp];refine wpAny_ret_mkInt ?_;show IK _ _ (pyHashByItsType.reduced _) Q E _;unfold reduceHash at q;unfold pyHashByItsType.reduced;by_cases c:(decide (-(2:Int) ^ 63<=KN (aM w xs)) && decide (KN (aM w xs)<2 ^ 63))=NS
   ·rw [NM c] at q ⊢;exact Ip (by simpa [MJ] using q)
   ·rw [NL c] at q ⊢;exact Ic (NB (Ip (by simpa [MJ] using q)))
 | .none,_,_,_,_,_,_,_,h,_,_=>by cases h
 | .bool _,_,_,_,_,_,_,_,h,_,_=>by cases h
 | .list _,_,_,_,_,_,_,_,h,_,_=>by cases h
 | .dict _,_,_,_,_,_,_,_,h,_,_=>by cases h
theorem gw {P:NY} {w:NX}:∀ (xs:Oo) (A:NZ) (s:NU) (a:N6) (f:N8) (acc:Array Int) (E:NT->NU->Prop) (Q:Array Int->NU->Prop),ReadsAll s.heap a xs f->zO xs=NS->A.units+4 * IB xs<JR ->
  Q (acc++(aM w xs).toArray) { s with toks:=s.toks+gq xs }->IK (model P w) A (forIn a acc λx r=>do
   let h <- pyHash x
   pure (ForInStep.yield (r.push h))) Q E s
 | [],A,s,_,_,acc,E,Q,r,_,_,q=>by
  cases r;rw [Le];rw [aM,gq] at q;exact Ip (by simpa using q)
 | x :: xs,A,s,_,_,acc,E,Q,r,p,hu,q=>by
  cases r with
  | cons c b =>
   rw [zO,Io] at p;rw [aM,gq] at q;have e:IB (x :: xs)=max x.depth (IB xs):=rfl;rw [e] at hu;rw [K7];apply Ic;apply Ic;refine gr x A s _ _ _ _ c p.1 (by lia) (Ip ?_);refine gw xs A { s with toks:=s.toks+yk x } _ _ _ _ _ b p.2 (by lia) ?_;have d:acc.push (zC w x)++(aM w xs).toArray=acc++(zC w x :: aM w xs).toArray:=by simp
   rw [d];rw [<-MJ] at q;exact q
end
mutual
theorem vm {P:NY} {w:NX}:∀ (d:NR) (n:Nat) (A:NZ) (s:NU) (v:NT) (e:N8) (E:NT->NU->Prop) (Q:Bool->NU->Prop),Reads s.heap v d e->zD d=NS->d.depth<=n->Q NS s->IK (model P w) A (eqIsQuiet n v) Q E s
 | .int i,n,A,s,_,_,E,Q,r,_,_,q=>by
  cases r;rw [eqIsQuiet_byValue n rfl];exact Ip q
 | .str x,n,A,s,_,_,E,Q,r,_,_,q=>by
  cases r;rw [eqIsQuiet_byValue n rfl];exact Ip q
 | .tuple xs,n,A,s,_,_,E,Q,r,p,hn,q=>by
  cases r with
  | @tuple a o f t _ e c k j g =>
   rw [zD] at p;have l:(PyData.tuple xs).depth=IB xs+1:=rfl;rw [l] at hn;obtain⟨m,rfl⟩:∃ m,n=m+1:=⟨n - 1,by lia⟩;have b:s.TypeIs (.ref a) "tuple":=⟨o,c,k⟩;unfold eqIsQuiet;apply Ic;apply La b PySem.F.slot_tuple_eq.lookup;show IK _ _ (isInstance (.ref a) (.type "tuple") >>= _) _ _ s;apply Ic;apply MT b isSubtype_tuple_tuple;simp only [JP,Js,if_false];apply Ic;apply wpAny_seqItems c j;apply Ic;show IK _ _ (forIn f _ _) _ _ s;rw [<-KH];exact eI xs m A s _ _ _ _ g p (by lia) (Ip q)
 | .none,_,_,_,_,_,_,_,_,h,_,_=>by cases h
 | .bool _,_,_,_,_,_,_,_,_,h,_,_=>by cases h
 | .list _,_,_,_,_,_,_,_,_,h,_,_=>by cases h
 | .dict _,_,_,_,_,_,_,_,_,h,_,_=>by cases h
theorem eI {P:NY} {w:NX}:∀ (xs:Oo) (m:Nat) (A:NZ) (s:NU) (a:N6) (f:N8) (E:NT->NU->Prop) (Q:Oq×Unit->NU->Prop),ReadsAll s.heap a xs f->zO xs=NS->IB xs<=m->Q (NW,()) s ->
  IK (model P w) A (forIn a ((NW,()):Oq×Unit) λy _=>do
   let b <- eqIsQuiet m y
   if (!b)=NS then pure (ForInStep.done (NQ NV,())) else pure (ForInStep.yield (NW,()))) Q E s
 | [],m,A,s,_,_,E,Q,r,_,_,q=>by
  cases r;rw [Le];exact Ip q
 | x :: xs,m,A,s,_,_,E,Q,r,p,hn,q=>by
  cases r with
  | cons d c =>
   rw [zO,Io] at p;have e:IB (x :: xs)=max x.depth (IB xs):=rfl;rw [e] at hn;rw [K7];apply Ic;apply Ic;refine vm x m A s _ _ _ _ d p.1 (by lia) ?_;simp only [JP,Js,if_false];exact Ip (eI xs m A s _ _ _ _ c p.2 (by lia) q)
end
mutual
theorem d4 {P:NY} {w:NX}:∀ (d:NR) (n:Nat) (A:NZ) (s:NU) (v:NT) (c:N8) (E:NT->NU->Prop) (Q:Bool->NU->Prop),Reads s.heap v d c->zD d=NS->d.depth<=n->Q NV s->IK (model P w) A (ofAClassStatement n v) Q E s
 | .int i,n,A,s,_,_,E,Q,r,_,_,q=>by
  cases r;unfold ofAClassStatement;exact Ip q
 | .str x,n,A,s,_,_,E,Q,r,_,_,q=>by
  cases r;unfold ofAClassStatement;exact Ip q
 | .tuple xs,n,A,s,_,_,E,Q,r,p,hn,q=>by
  cases r with
  | @tuple a o l t _ c b j g f =>
   rw [zD] at p;have k:(PyData.tuple xs).depth=IB xs+1:=rfl;rw [k] at hn;obtain⟨m,rfl⟩:∃ m,n=m+1:=⟨n - 1,by lia⟩;have e:s.TypeIs (.ref a) "tuple":=⟨o,b,j⟩;unfold ofAClassStatement;apply Ic;apply wpAny_typeOf e;dsimp only;rw [NM (show ("tuple" == "tuple")=NS from rfl)];apply Ic;apply Ip;simp only [JP,Js,if_false];apply Ic;apply wpAny_seqItems b g;dsimp only;apply Ic;rw [<-KH];exact iO xs m A s _ _ _ _ f p (by lia) (Ip q)
 | .none,_,_,_,_,_,_,_,_,h,_,_=>by cases h
 | .bool _,_,_,_,_,_,_,_,_,h,_,_=>by cases h
 | .list _,_,_,_,_,_,_,_,_,h,_,_=>by cases h
 | .dict _,_,_,_,_,_,_,_,_,h,_,_=>by cases h
theorem iO {P:NY} {w:NX}:∀ (xs:Oo) (m:Nat) (A:NZ) (s:NU) (a:N6) (f:N8) (E:NT->NU->Prop) (Q:Oq×Unit->NU->Prop),ReadsAll s.heap a xs f->zO xs=NS->IB xs<=m->Q (NW,()) s ->
  IK (model P w) A (forIn a ((NW,()):Oq×Unit) λy _=>do
   let b <- ofAClassStatement m y
   if b=NS then pure (ForInStep.done (NQ NS,())) else pure (ForInStep.yield (NW,()))) Q E s
 | [],m,A,s,_,_,E,Q,r,_,_,q=>by
  cases r;rw [Le];exact Ip q
 | x :: xs,m,A,s,_,_,E,Q,r,p,hn,q=>by
  cases r with
  | cons d c =>
   rw [zO,Io] at p;have e:IB (x :: xs)=max x.depth (IB xs):=rfl;rw [e] at hn;rw [K7];apply Ic;apply Ic;refine d4 x m A s _ _ _ _ d p.1 (by lia) ?_;simp only [Js,if_false];exact Ip (iO xs m A s _ _ _ _ c p.2 (by lia) q)
end
mutual
theorem eJ {P:NY} {w:NX}:∀ (d:NR) (n:Nat) (A:NZ) (s:NU) (v:NT) (e:N8) (E:NT->NU->Prop) (Q:Bool->NU->Prop),Reads s.heap v d e->zD d=NS->(∀ b,Q b s)->IK (model P w) A (hashByValue n v) Q E s
 | .int i,n,A,s,_,_,E,Q,r,_,q=>by
  cases r;unfold hashByValue;exact Ip (q _)
 | .str x,n,A,s,_,_,E,Q,r,_,q=>by
  cases r;unfold hashByValue;exact Ip (q _)
 | .tuple xs,n,A,s,_,_,E,Q,r,p,q=>by
  cases r with
  | @tuple a o f t _ e c l k j =>
   rw [zD] at p;have g:s.TypeIs (.ref a) "tuple":=⟨o,c,l⟩;cases n with
   | zero =>
    unfold hashByValue;exact Ip (q _)
   | succ m =>
    unfold hashByValue;apply Ic;apply La g Kp.lookup;show IK _ _ (seqItems? (.ref a) >>= _) _ _ s;apply Ic;apply wpAny_seqItems c k;apply Ic;show IK _ _ (forIn f _ _) _ _ s;rw [<-KH];exact eM xs m A s _ _ _ _ j p (Ip (q _)) λb=>Ip (q b)
 | .none,_,_,_,_,_,_,_,_,h,_=>by cases h
 | .bool _,_,_,_,_,_,_,_,_,h,_=>by cases h
 | .list _,_,_,_,_,_,_,_,_,h,_=>by cases h
 | .dict _,_,_,_,_,_,_,_,_,h,_=>by cases h
theorem eM {P:NY} {w:NX}:∀ (xs:Oo) (m:Nat) (A:NZ) (s:NU) (a:N6) (e:N8) (E:NT->NU->Prop) (Q:Oq×Unit->NU->Prop),ReadsAll s.heap a xs e->zO xs=NS->Q (NW,()) s->(∀ b,Q (NQ b,()) s) ->
  IK (model P w) A (forIn a ((NW,()):Oq×Unit) λy _=>do
   let b <- hashByValue m y
   if (!b)=NS then pure (ForInStep.done (NQ NV,())) else pure (ForInStep.yield (NW,()))) Q E s
 | [],m,A,s,_,_,E,Q,r,_,q,_=>by
  cases r;rw [Le];exact Ip q
 | x :: xs,m,A,s,_,_,E,Q,r,p,q,q2=>by
  cases r with
  | cons d c =>
   rw [zO,Io] at p;rw [K7];apply Ic;apply Ic;refine eJ x m A s _ _ _ _ d p.1 λb=>?_;cases b with
   | true =>
    simp only [JP,Js,if_false];exact Ip (eM xs m A s _ _ _ _ c p.2 q q2)
   | false =>
    simp only [LK,if_true];exact Ip (Ip (q2 NV))
end
noncomputable instance decPy:DecidableEq NR:=λa b=>J1 _
structure KeyAt (h:Heap) (d:NR) (a:Ij):Prop where
 rd:∃ as,Reads h (.ref a) d as
 pl:zD d=NS
 dp:d.depth<=8
theorem KeyAt.keep {h h':Heap} {d:NR} {a:Ij} (x:KeyAt h d a) (k:∀ b o,h.get? b=NQ o->(∀ es ep,o.data≠.dict es ep)->(∀ es ep t,o.data≠.set es ep t)->h'.get? b=NQ o):KeyAt h' d a:=by
 obtain⟨⟨c,r⟩,p,q⟩:=x;refine⟨?_,p,q⟩;have y:(∀ (d:NR) (v:NT) (c:N8),Reads h v d c->zD d=NS->Reads h' v d c):=by
  intro d v c r;refine Reads.rec (motive_1:=λv d c _=>zD d=NS->Reads h' v d c) (motive_2:=λe l c _=>zO l=NS->ReadsAll h' e l c) ?_ ?_ ?_ ?_ ?_ ?_ ?_ ?_ ?_ r
  ·intro p;cases p
  ·intro b p;cases p
  ·intro i t p;exact .int i t
  ·intro x t p;exact .str x t
  ·intro a o e n u c s m f w ih p;cases p
  ·intro a o e n u c s m f w ih p;rw [zD] at p;exact .tuple (k a o s (λes ep z=>by rw [f] at z;cases z) (λes ep t z=>by rw [f] at z;cases z)) m f (ih p)
  ·intros;rename_i p;cases p
  ·intro p;exact .nil
  ·intro v e d l c B r A j g p;rw [zO,Io] at p;exact .cons (j p.1) (g p.2)
 exact⟨c,y d _ c r p⟩
noncomputable def fq (P:NY) (w:NX):HeapKind P w NR where
 is:=KeyAt
 hash:=zC w
 draws:=yk
 room:=λA=>A.units+40<JR
 inj:=λ{h a x y} l j=>by
  obtain⟨⟨f,r⟩,p,_⟩:=l;obtain⟨⟨D,i⟩,g,_⟩:=j;exact SeqAt.Reads.unique _ _ _ _ _ (yT x p) r i
 keeps:=λ{h h' k a d o es ep} x B c n=>x.keep λb u m t F=>by
  have:b≠d:=λz=>by
   rw [z,B] at m;cases m;exact t es ep c
  exact (n.2 b this).trans m
 pyHash:=λ{A E s k a Q} v x q=>by
  obtain⟨⟨f,r⟩,p,c⟩:=x;exact gr k A s _ f E Q r p (by lia) q
 eqBool:=λ{A E s x y a b Q} v l j q=>by
  obtain⟨⟨f,r⟩,p,c⟩:=l;obtain⟨⟨D,i⟩,g,C⟩:=j;refine SeqAt.eqAt_reads x y A s _ _ _ _ r i (yT x p) (yT y g) (by lia) P w E Q ?_;have:IX x y=decide (x=y):=by
   by_cases e:x=y
   ·rw [NN e];exact (fm p g).mpr e
   ·rw [NP e];cases z:IX x y with
    | false=>rfl
    | true=>exact absurd ((fm p g).mp z) e
  rw [this];exact q
 quiet:=λ{A E s k a Q} x q=>by
  obtain⟨⟨f,r⟩,p,c⟩:=x;exact vm k 8 A s _ f E Q r p c q
end L2
end
section
namespace L2
open PySem PySem.Spec PyProof.Rows PySem.SetTable
section
variable {P:NY} {w:NX} {A:NZ} {E:NT->NU->Prop} {s:NU}
theorem CO {b:Ij} {d:NR} {Q:Bool->NU->Prop} (u:KeyAt s.heap d b):∀ l:N6,(∀ y∈l,∃ d' j,y=.ref j/\KeyAt s.heap d' j)->Q NV s->IK (model P w) A (searchCouldBeSeen (.ref b) l) Q E s:=by
 intro l x q;unfold searchCouldBeSeen;apply Ic;refine wpAny_forIn_list _ (λrest r g=>r=(NW,())/\g=s/\∀ y∈rest,y∈l) _ ?_ ?_ _ _ ⟨rfl,rfl,λ_ h=>h⟩
 ·rintro y rest r g ⟨rfl,rfl,n⟩;obtain⟨d',j,rfl,i⟩:=x y (n y Ik);obtain⟨⟨t,k⟩,m,o⟩:=id u;obtain⟨⟨p,c⟩,e,f⟩:=id i;have a:∀ z∈rest,z∈l:=λz v=>n z (Ii _ v);dsimp only;split
  ·exact Ip ⟨rfl,rfl,a⟩
  ·apply Ic;refine vm d 8 A _ _ t _ _ k m o ?_;simp only [JP,Js,if_false];apply Ic;refine vm d' 8 A _ _ p _ _ c e f ?_;simp only [JP,Js,if_false];apply Ic;refine d4 d 8 A _ _ t _ _ k m o ?_;simp only [Js,if_false];apply Ic;refine d4 d' 8 A _ _ p _ _ c e f ?_;simp only [Js,if_false];exact Ip ⟨rfl,rfl,a⟩
 ·rintro r g ⟨rfl,rfl,_⟩;exact Ip q
structure SetObj (w:NX) (h:Heap) (a:Ij) (xs:Ov) (o:Obj) (es:Array (Int×NT)) (ep:Nat) (t:SetTable):Prop where
 ob:h.get? a=NQ o
 ex:o.ExactSet
 da:o.data=.set es ep t
 el:es.toList=xs.map λx=>(zC w x.1,Value.ref x.2)
 ok:ST.TOk t (xs.map λx=>zC w x.1)
theorem SetObj.size {h:Heap} {a:Ij} {xs:Ov} {o:Obj} {es:Array (Int×NT)} {ep:Nat} {t:SetTable} (x:SetObj w h a xs o es ep t):es.size=xs.length:=by
 rw [<-IH,x.el,Ib]
theorem SetObj.fits {h:Heap} {a:Ij} {xs:Ov} {o:Obj} {es:Array (Int×NT)} {ep:Nat} {t:SetTable} (x:SetObj w h a xs o es ep t):t.fits es.size=NS:=by
 unfold SetTable.fits Nz;have c:=x.ok.size;have b:=x.ok.most;rw [Ib] at c b;rw [x.size,c,x.ok.dum];simp;exact b
theorem SetObj.at {h:Heap} {a:Ij} {xs:Ov} {o:Obj} {es:Array (Int×NT)} {ep:Nat} {t:SetTable} (x:SetObj w h a xs o es ep t) {i:Nat} (b:i<xs.length):es[i]?=NQ (zC w xs[i].1,Value.ref xs[i].2):=by
 rw [<-J9,x.el,Iq,Ia b];rfl
theorem AF {t:SetTable} {a:Oh} (o:ST.TOk t a):t.gaveWay=NV:=by
 unfold SetTable.gaveWay;rcases o.mask with e | e | e | e <;> rw [e] <;> rfl
theorem AG {a:Type} {M:Model} {c:Bool} {m:Sem Bool} {u:Sem Unit} {r:Sem a} {Q:a->NU->Prop} (d:IK M A r Q E s) (e:∀ R:Bool->NU->Prop,R NV s->IK M A m R E s) :
  IK M A (if c=NS then (do
   let b <- m
   if b=NS then do
    u
    r
   else r) else r) Q E s:=by
 cases c with
 | false=>rw [NL Ie];exact d
 | true =>
  rw [NM rfl];apply Ic;refine e _ ?_;rw [NL Ie];exact d
theorem ni {M:Model} {a:Ij} {Q:Bool->NU->Prop} (q:Q NS s):IK M A (isSame (.ref a) (.ref a)) Q E s:=by
 unfold isSame;simp only [beq_self_eq_true];exact Ip q
theorem d5 {a b:Ij} {d:NR} {xs:Ov} {o:Obj} {es:Array (Int×NT)} {ep:Nat} {t:SetTable} {adding:Bool} {Q:SetFound->NU->Prop} (S:SetObj w s.heap a xs o es ep t) (ks:∀ x∈xs,KeyAt s.heap x.1 x.2)
  (K:KeyAt s.heap d b) (hu:A.units+40<JR) {F:Nat} (H:ST.First t (zC w d) F) (D:d∈xs.map (·.1)->∀ r:Oi,(adding=NV->r.isSome=NS)->Q (.there r) s) (Y:d∉xs.map (·.1)->Q (.free (ST.pos t.mask (zC w d) F) NV) s) :
  ∀ f k h,k<=F->F<k+f->h.getD (t.probeStart (zC w d))=ST.road t.mask (zC w d) k ->
   (∀ q i,q<k->i<xs.length->ST.pos t.mask (zC w d) q=t.place.getD i 0->(xs.getD i (.none,0)).1≠d) ->
   IK (model P w) A (setSearchFrom a (.ref b) (zC w d) adding f h) Q E s
 | 0,k,h,h1,h2,_,_=>by lia
 | f+1,k,h,h1,h2,hst,past=>by
  have sz:=S.ok.size;rw [Ib] at sz;have J:∀ g:Nat->Int,(∀ i,g i=(es[i]?.map (·.1)).getD 0) ->
    (t.probe g (zC w d) (ST.road t.mask (zC w d) k)=NQ (.empty (ST.pos t.mask (zC w d) F) NW)/\∀ q i,k<=q->q<F->i<t.place.size->ST.pos t.mask (zC w d) q=t.place.getD i 0->g i≠zC w d) \/
    ∃ q i,k<=q/\q<F/\i<t.place.size/\ST.pos t.mask (zC w d) q=t.place.getD i 0/\g i=zC w d/\t.probe g (zC w d) (ST.road t.mask (zC w d) k)=NQ (.candidate (ST.pos t.mask (zC w d) q) i (ST.road t.mask (zC w d) (q+1)))/\∀ u m,k<=u->u<q->m<t.place.size->ST.pos t.mask (zC w d) u=t.place.getD m 0->g m≠zC w d :=
   λg _=>ST.probe_go S.ok.dum S.ok.rise H (10 * turns t.mask) k h1 (by have:=H.lt;lia)
  have I:∀ i (j:i<xs.length),(es[i]?.map (·.1)).getD 0=zC w xs[i].1:=λi j=>by rw [S.at j];rfl
  unfold setSearchFrom;apply Ic;refine wpAny_setState_of S.ob S.da S.fits ?_;dsimp only;rw [AF S.ok,NL Ie,hst];have reach:∀ i (j:i<xs.length),xs[i].1=d->∃ q,q<F/\ST.pos t.mask (zC w d) q=t.place.getD i 0:=λi j n=>by
   obtain⟨q,T,a2⟩:=S.ok.reach i (by rw [Ib];exact j);have eh:(xs.map λx=>zC w x.1).getD i 0=zC w d:=by
    rw [Il,Iq,Ia j,<- n];rfl
   rw [eh] at T a2;refine⟨q,?_,T⟩;by_cases c:q<F
   ·exact c
   ·by_cases C:q=F
    ·subst C;exact absurd ⟨i,by lia,T.symm⟩ H.free
    ·exact absurd (a2 F (by lia)) H.free
  have B:∀ i (j:i<xs.length),xs.getD i (.none,0)=xs[i]:=λi j=>by rw [Il,Ia j];rfl
  rcases J (λi=>(es[i]?.map (·.1)).getD 0) (λi=>rfl) with⟨e,l⟩ | ⟨q,i,q1,q2,q3,X,q5,e,l⟩
  ·have N:∀ g:Nat->Int,(∀ i,g i=(es[i]?.map (·.1)).getD 0)->t.probe g (zC w d) (ST.road t.mask (zC w d) k)=NQ (.empty (ST.pos t.mask (zC w d) F) NW):=λg M=>by
    rw [show g=λi=>(es[i]?.map (·.1)).getD 0 from funext M];exact e
   rw [N]
   rotate_left
   ·exact λi=>rfl
   dsimp only;refine Ip (Y λhd=>?_);obtain⟨x,L,ex⟩:=ID.mp hd;obtain⟨i,j,ei⟩:=Kr L;have n:xs[i].1=d:=by rw [ei];exact ex
   obtain⟨q,qF,W⟩:=reach i j n;by_cases c:q<k
   ·exact past q i c j W (by rw [B i j];exact n)
   ·exact l q i (by lia) qF (by lia) W (by rw [I i j,n])
  ·have N:∀ g:Nat->Int,(∀ i,g i=(es[i]?.map (·.1)).getD 0)->t.probe g (zC w d) (ST.road t.mask (zC w d) k)=NQ (.candidate (ST.pos t.mask (zC w d) q) i (ST.road t.mask (zC w d) (q+1))):=λg M=>by
    rw [show g=λi=>(es[i]?.map (·.1)).getD 0 from funext M];exact e
   have j:i<xs.length:=by lia
   have Z:xs[i]∈xs:=Jm j;have ki:=ks _ Z;rw [N]
   rotate_left
   ·exact λi=>rfl
   dsimp only;refine AG ?_ λR hR=>CO K _ (λy hy=>?_) hR
   rotate_left
   ·obtain⟨p,hp,rfl⟩:=ID.mp hy;have G:p∈es.toList:=by
     have:=Ma.mp hp;exact Ma.mpr (Array.mem_filter.mp this).1
    rw [S.el] at G;obtain⟨x,L,rfl⟩:=ID.mp G;exact⟨x.1,x.2,rfl,ks x L⟩
   rw [S.at j];dsimp only;apply Ic;apply Ji;refine (fq P w).eqBool (A:=A) hu ki K ?_;apply Ic;refine wpAny_setState_of S.ob S.da S.fits ?_;dsimp only;have same:t.sameMemory t.moves t.mask=NQ NS:=by
    unfold SetTable.sameMemory;rw [NM (beq_self_eq_true _)]
   have v:t.slot (ST.pos t.mask (zC w d) q)=.live i:=by rw [X];exact ST.slot_live S.ok.rise q3
   by_cases n:xs[i].1=d
   ·have U:=D (ID.mpr ⟨_,Z,n⟩);rw [NN n];cases adding with
    | true=>exact Ip (U _ λz=>nomatch z)
    | false =>
     rw [K1,NL Ie,same];dsimp only;rw [NM rfl,v];dsimp only;rw [S.at j];dsimp only;apply Ic;refine ni ?_;apply Ic;apply Ip;rw [NM rfl];dsimp only;rw [NM rfl];exact Ip (U _ λ_=>rfl)
   ·rw [NP n,Mq,NL Ie,same];dsimp only;rw [NM rfl,v];dsimp only;rw [S.at j];dsimp only;apply Ic;refine ni ?_;apply Ic;apply Ip;rw [NM rfl];dsimp only;rw [NL Ie];refine d5 S ks K hu H D Y f (q+1) _ (by lia) (by lia) rfl λu m c1 C O=>?_;rw [B m C];intro z;by_cases c4:u<k
    ·exact past u m c4 C O (by rw [B m C];exact z)
    ·by_cases c5:u=q
     ·subst c5;have ii:m=i:=by
       have b1:=ST.below_at S.ok.rise (i:=i) (by lia);have b2:=ST.below_at S.ok.rise (i:=m) (by lia);rw [<-X] at b1;rw [<-O] at b2;lia
      subst ii;exact n z
     ·exact l u m (by lia) (by lia) (by lia) O (by rw [I m C,z])
end
end L2
end
section
namespace L2
open PySem PySem.Spec PyProof.Rows PySem.SetTable
section
variable {P:NY} {w:NX} {A:NZ} {E:NT->NU->Prop} {s:NU} {a b:Ij} {d:NR} {xs:Ov} {o:Obj} {es:Array (Int×NT)} {ep:Nat} {t:SetTable}
theorem SetObj.type (S:SetObj w s.heap a xs o es ep t):s.TypeIs (.ref a) "set":=⟨o,S.ob,S.ex.1⟩
theorem tT (b:Ij) (es:Array (Int×NT)):byScan (.ref b) es=NV:=rfl
theorem nt {Q:Bool->NU->Prop} (S:SetObj w s.heap a xs o es ep t) (ks:∀ x∈xs,KeyAt s.heap x.1 x.2) (g:KeyAt s.heap d b) (p:A.units+60<JR) (q:Q (decide (d∈xs.map (·.1))) { s with toks:=s.toks+yk d }) :
  IK (model P w) A (contains (.ref a) (.ref b)) Q E s:=by
 obtain⟨F,h⟩:=ST.first_of S.ok.toTB (zC w d);have v:=h.lt;have u:turns t.mask<=526:=by
  unfold turns;rcases S.ok.mask with e | e | e | e <;> lia
 unfold contains
 try with_reducible refine Ji ?_
 apply Ic;apply La S.type Ll.lookup;show IK _ _ (if (NQ (Value.builtin "set.__contains__") == NQ Value.none)=NS then _ else _) _ E s;rw [NL (by rw [beq_builtin_none];exact Ie)];apply Ic;refine wpAny_callSpecialUnlessNone?_slot (name:=Ko "__contains__") S.type Ll (wpAny_call_entry Ll S.type entry_set_contains ?_ (PySem.F.args_set_contains_2 _ _));unfold Builtin.«frozenset.__contains__» Mt;simp only [List.isEmpty_nil,bind_assoc];unfold MK Builtin.Frozenset.withSetAsKey setContains;apply Ic;apply Ip;dsimp only;apply Ic;apply Ip;dsimp only;apply Ic;apply wpAny_tryCatch;apply Ji;apply Ic;have k:A.in1.units=A.units+1:=rfl;have j:A.in1.in1.units=A.units+1+1:=rfl;refine (fq P w).pyHash (by show _+40<JR;lia) g ?_;apply Ic;unfold setFind setFindIn;apply Ic;refine wpAny_setState_of (s:={ s with toks:=s.toks+yk d }) S.ob S.da S.fits ?_;dsimp only;rw [tT,NL Ie];apply Ic;unfold setSearch;have n:∀ r:Oi,r.isSome=decide (d∈xs.map (·.1))->∀ R:NT->NU->Prop,R (.bool (decide (d∈xs.map (·.1)))) { s with toks:=s.toks+yk d }->R (.bool r.isSome) { s with toks:=s.toks+yk d }:=λr e R m=>by rw [e];exact m
 refine d5 (s:={ s with toks:=s.toks+yk d }) (adding:=NV) S ks g (by lia) h (λf r l=>?_) (λf=>?_) 100000 0 NW (IV _) (by lia) (ST.road_start t _) (λq i c=>by lia)
 ·refine Ip (Ip ?_);show IK _ _ (ret (Value.bool r.isSome)) _ _ _;rw [l rfl];rw [NN f] at q;exact Ip ⟨_,rfl,J8 q⟩
 ·refine Ip (Ip ?_);show IK _ _ (ret (Value.bool NV)) _ _ _;rw [NP f] at q;exact Ip ⟨_,rfl,J8 q⟩
noncomputable def tU (es:Array (Int×NT)) (c:Option (SetTable×Array Nat)):Sem (Array (Int×NT)×SetTable):=do
 let NQ (t,order):=c | unsupported "internal:set-table-without-room"
 let e:=order.filterMap (es[·]?)
 if e.size != es.size then unsupported "internal:set-table-lost-an-element"
 pure (e,t)
theorem AH (a:Ij) (c:Nat):setRelay a c=(do
  let (es,_,t) <- setState a
  if Mu c > Jr then unsupported "set:memory"
  let (es,t) <- tU es (t.relaid (es.map (·.1)) c)
  storeSet a es t):=rfl
theorem bT {c:Type} (es:Array c):∀ l:Om,(∀ i∈l,i<es.size)->∀ dflt:c,l.filterMap (λi=>es[i]?)=l.map λi=>es.toList.getD i dflt
 | [],_,_=>rfl
 | i :: l,h,dflt=>by
  have e:=h i Ik;rw [Kj,JT e,IL,bT es l (λj f=>h j (Ii _ f)) dflt];simp [e]
theorem AI {Q:Unit->NU->Prop} {c f:Nat} (I:s.heap.get? a=NQ o) (O:o.ExactSet) (u:o.data=.set es ep t) (G:es.toList=xs.map λx=>(zC w x.1,Value.ref x.2)) (y:ST.TB t (xs.map λx=>zC w x.1)) (N:c=31 \/ c=127 \/ c=511) (J:Mu f=c+1)
  (p:xs.length * 5<c * 3) (q:∀ g M D F t' h',g.Perm xs->KQ a s.heap h'->SetObj w h' a g M D F t'->Q () { s with heap:=h' }):IK (model P w) A (setRelay a f) Q E s:=by
 have n:es.size=xs.length:=by rw [<-IH,G,Ib]
 have fits:t.fits es.size=NS:=by
  unfold SetTable.fits Nz;have K:=y.size;have C:=y.most;rw [Ib] at K C;rw [n,K,y.dum];simp;exact C
 have B:c=7 \/ c=31 \/ c=127 \/ c=511:=.inr N;obtain⟨m,ord,T,S,_,_,z,l⟩:=ST.laid_ok B (es.map (·.1)) (by rw [Nj,n];lia) t.finger (t.movedTo c) t.led t.plain;rw [Nj] at z;have k:∀ i∈ord.toList,i<es.size:=λi j=>Jb.mp (z.mem_iff.mp j)
 let g:=ord.toList.map λi=>xs.getD i (.none,0)
 have px:g.Perm xs:=by
  have e:(IQ es.size).map (λi=>xs.getD i (.none,0))=xs:=by
   rw [n];refine KR λi=>?_;rw [Iq];by_cases j:i<xs.length
   ·rw [J6 j,Ia j];simp [j]
   ·rw [Jf (by simp;lia),Jf (by lia)];rfl
  have:=z.map λi=>xs.getD i (.none,0);rw [e] at this;exact this
 have L:(ord.filterMap (es[·]?)).toList=g.map λx=>(zC w x.1,Value.ref x.2):=by
  rw [Array.toList_filterMap,bT es ord.toList k (0,Value.none),JB];refine KY λi j=>?_;have C:=k i j;have r:i<xs.length:=by lia
  rw [G,Il,Iq,Ia r];show _=(zC w (xs.getD i (.none,0)).1,Value.ref (xs.getD i (.none,0)).2);rw [Il,Ia r];rfl
 have h:(ord.filterMap (es[·]?)).size=es.size:=by
  rw [<-IH,L,Ib,px.length_eq,n]
 have v:ST.TOk m (g.map λx=>zC w x.1):=by
  have R:(ord.toList.map λi=>(es.map (·.1)).toList.getD i 0)=g.map λx=>zC w x.1:=by
   rw [JB];refine KY λi j=>?_;have r:i<xs.length:=by have:=k i j;lia
   rw [Array.toList_map,G,JB,Il,Iq,Ia r];show zC w xs[i].1=zC w (xs.getD i (.none,0)).1;rw [Il,Ia r];rfl
  rw [R] at l;refine⟨l,?_⟩;rw [Ib,px.length_eq,S];exact p
 rw [AH];apply Ic;refine wpAny_setState_of I u fits ?_;dsimp only;rw [J,NL (by rw [sizeLine_eq];lia)];have H:t.relaid (es.map (·.1)) f=NQ (m,ord):=by
  unfold SetTable.relaid;rw [J];exact T
 unfold tU;rw [H];apply Ic;dsimp only;rw [h,bne_self_eq_false,NL Ie];apply Ip;dsimp only;refine wpAny_storeSet_of I u ?_ (by rw [h,n,sizeLine_eq];lia);refine q g { o with data:=.set (ord.filterMap (es[·]?)) (ep+1) m } (ord.filterMap (es[·]?)) (ep+1) m _ px (KZ _ _ _) ⟨?_,O,rfl,L,v⟩;have:=Kl (MY (ord.filterMap (es[·]?)) m) I (by rw [putSet_of _ _ u];rfl);rw [putSet_of _ _ u] at this;exact this
theorem AJ {t:SetTable} {c:Oh} {p:Bool} (x:ST.TB t c):ST.TB { t with plain:=p } c:=⟨x.mask,x.dum,x.rise,x.le,x.size,x.most,x.reach⟩
theorem CP {Q:NU->Prop} (S:SetObj w s.heap a xs o es ep t) (ks:∀ x∈xs,KeyAt s.heap x.1 x.2) (B:KeyAt s.heap d b) (hu:A.units+59<JR) (Y:xs.length<300)
  (J:d∈xs.map (·.1)->Q { s with toks:=s.toks+yk d })
  (y:d∉xs.map (·.1)->∀ l K u v t' h',l.Perm ((d,b) :: xs)->KQ a s.heap h'->SetObj w h' a l K u v t'->Q { s with heap:=h',toks:=s.toks+yk d }) :
  IK (model P w) A (setAdd a (.ref b)) (λ_ s'=>Q s') E s:=by
 obtain⟨F,L⟩:=ST.first_of S.ok.toTB (zC w d);have hl:=L.lt;have ht:turns t.mask<=526:=by
  unfold turns;rcases S.ok.mask with e | e | e | e <;> lia
 have f:=S.ok.room;rw [Ib] at f;unfold setAdd;apply Ji;apply Ic;refine (fq P w).pyHash (by show _+40<JR;lia) B ?_;show IK _ _ (setAddHashed a (.ref b) (zC w d)) _ _ _;unfold setAddHashed setAddHashedIn;apply Ji;apply Ic;refine wpAny_setState_of (s:={ s with toks:=s.toks+yk d }) S.ob S.da S.fits ?_;dsimp only;rw [tT,NL Ie];apply Ic;unfold setSearch;refine d5 (s:={ s with toks:=s.toks+yk d }) (adding:=NS) S ks B (by lia) L (λC r _=>?_) (λC=>?_) 100000 0 NW (IV _) (by lia) (ST.road_start t _) (λq i c=>by lia)
 ·exact Ip (J C)
 ·dsimp only;apply Ic;refine wpAny_setState_of (s:={ s with toks:=s.toks+yk d }) S.ob S.da S.fits ?_;dsimp only;obtain⟨X,D⟩:=ST.put_tb S.ok.toTB L (by rw [Ib];rcases S.ok.mask with e | e | e | e <;> rw [e] at f ⊢ <;> lia);rw [Ib] at X;have M:(t.put (ST.pos t.mask (zC w d) F)).2=below t.place (ST.pos t.mask (zC w d) F):=rfl;rw [M];generalize below t.place (ST.pos t.mask (zC w d) F)=p at *;have I:(xs.take p++(d,b) :: xs.drop p).Perm ((d,b) :: xs):=by
   refine List.perm_middle.trans ?_;rw [Lc]
  have N:(insertAt es p (zC w d,Value.ref b)).toList=(xs.take p++(d,b) :: xs.drop p).map λx=>(zC w x.1,Value.ref x.2):=by
   rw [Ls,S.el,IM,IL,List.map_take,List.map_drop]
  have Z:(xs.map λx=>zC w x.1).take p++zC w d :: (xs.map λx=>zC w x.1).drop p=(xs.take p++(d,b) :: xs.drop p).map λx=>zC w x.1:=by
   rw [IM,IL,List.map_take,List.map_drop]
  rw [Z] at D;have z:(xs.take p++(d,b) :: xs.drop p).length=xs.length+1:=by rw [I.length_eq];rfl
  have G:(insertAt es p (zC w d,Value.ref b)).size=xs.length+1:=by rw [<-IH,N,Ib,z]
  have step:∀ k:Bool,∀ j,j=(if k=NS then (t.put (ST.pos t.mask (zC w d) F)).1 else { (t.put (ST.pos t.mask (zC w d) F)).1 with plain:=NV }) ->
    ST.TB j ((xs.take p++(d,b) :: xs.drop p).map λx=>zC w x.1)/\j.mask=t.mask:=λk j e=>by
   subst e;cases k with
   | true=>exact⟨D,rfl⟩
   | false=>exact⟨AJ D,rfl⟩
  have n:∀ k:Bool,IK (model P w) A (do
    storeSet a (insertAt es p (zC w d,Value.ref b)) (if k=NS then (t.put (ST.pos t.mask (zC w d) F)).1 else { (t.put (ST.pos t.mask (zC w d) F)).1 with plain:=NV })
    if (!false && (if k=NS then (t.put (ST.pos t.mask (zC w d) F)).1 else { (t.put (ST.pos t.mask (zC w d) F)).1 with plain:=NV }).tooFull)=NS then do
     setRelay a (SetTable.grown (es.size+1))
     pure NS
    else pure NS) (λ_ s'=>Q s') E { s with toks:=s.toks+yk d }:=λk=>by
   obtain⟨m,em⟩:=step k _ rfl;generalize (if k=NS then (t.put (ST.pos t.mask (zC w d) F)).1 else { (t.put (ST.pos t.mask (zC w d) F)).1 with plain:=NV })=j at *;apply Ic;refine wpAny_storeSet_of (s:={ s with toks:=s.toks+yk d }) S.ob S.da ?_ (by rw [G,sizeLine_eq];lia);have g:(s.heap.update a (MY (insertAt es p (zC w d,Value.ref b)) j)).get? a=NQ { o with data:=.set (insertAt es p (zC w d,Value.ref b)) (ep+1) j }:=by
    have:=Kl (MY (insertAt es p (zC w d,Value.ref b)) j) S.ob (by rw [putSet_of _ _ S.da];rfl);rw [putSet_of _ _ S.da] at this;exact this
   have O:=KZ s.heap a (MY (insertAt es p (zC w d,Value.ref b)) j);have fill:j.tooFull=decide ((xs.length+1) * 5 >= t.mask * 3):=by
    unfold SetTable.tooFull Nz;have R:=m.size;rw [Ib,z] at R;rw [R,m.dum,em];rfl
   rw [LK,Lb,fill];by_cases h:(xs.length+1) * 5 >= t.mask * 3
   ·rw [NM (NN h),S.size];have:∃ mask,(mask=31 \/ mask=127 \/ mask=511)/\Mu (SetTable.grown (xs.length+1))=mask+1/\(xs.length+1) * 5<mask * 3:=by
     rcases S.ok.mask with e | e | e | e
     ·rw [e] at f h;have:xs.length=4:=by lia
      rw [this];exact⟨31,.inl rfl,by decide,by decide⟩
     ·rw [e] at f h;have:xs.length=18:=by lia
      rw [this];exact⟨127,.inr (.inl rfl),by decide,by decide⟩
     ·rw [e] at f h;have:xs.length=76:=by lia
      rw [this];exact⟨511,.inr (.inr rfl),by decide,by decide⟩
     ·rw [e] at f h;lia
    obtain⟨mask,mk,W,T⟩:=this;apply Ic;refine AI (s:={ s with heap:=s.heap.update a (MY (insertAt es p (zC w d,Value.ref b)) j),toks:=s.toks+yk d }) (o:={ o with data:=.set (insertAt es p (zC w d,Value.ref b)) (ep+1) j }) g S.ex rfl N m mk W (by rw [z];exact T) λl K u v t' h' px H S'=>Ip ?_;exact y C l K u v t' h' (px.trans I) (O.trans H) S'
   ·rw [NL (by rw [NP h];exact Ie)];refine Ip (y C _ _ _ _ _ _ I O ⟨g,S.ex,rfl,N,⟨m,?_⟩⟩);rw [Ib,z,em];lia
  obtain⟨as,U⟩:=B.rd;split
  ·apply Ic;exact eJ d 8 _ { s with toks:=s.toks+yk d } _ as _ _ U B.pl λk=>n k
  ·apply Ic;apply Ip;exact n NS
theorem Fw {Q:NT->NU->Prop} (S:SetObj w s.heap a xs o es ep t) (ks:∀ x∈xs,KeyAt s.heap x.1 x.2) (u:KeyAt s.heap d b) (y:A.units+60<JR) (m:xs.length<300)
  (h:d∈xs.map (·.1)->Q .none { s with toks:=s.toks+yk d })
  (j:d∉xs.map (·.1)->∀ c i e f t' h',c.Perm ((d,b) :: xs)->KQ a s.heap h'->SetObj w h' a c i e f t'->Q .none { s with heap:=h',toks:=s.toks+yk d }) :
  IK (model P w) A (call (.builtin "set.add") [.ref a,.ref b]) Q E s:=by
 refine wpAny_call_entry Mb S.type PySem.F.entry_set_add ?_ (PySem.F.args_set_add_2 _ _);unfold Builtin.«set.add» Mt;simp only [List.isEmpty_nil,bind_assoc];unfold MK;apply Ic;apply Ip
 try dsimp only
 apply Ic;apply Ip
 try dsimp only
 apply Ic;have v:A.in1.units=A.units+1:=rfl;refine CP (Q:=λg=>IK (model P w) A.in1 (ret Value.none) (λl g=>∃ r,l=.done (.ret r)/\Q r g) E g) S ks u (by lia) m (λk=>Ip ⟨_,rfl,h k⟩) λk c i e f t' h' q p n=>Ip ⟨_,rfl,j k c i e f t' h' q p n⟩
end
inductive OC where
 | lst (es:Oo)
 | set (ks:Oo)
 | dic (kvs:Ow)
 | gen (φ:Hp->HO->Prop)
noncomputable def SetO (w:NX) (a:Ij) (xs:Ov):HO:=.ext λh=>∃ o b c t,SetObj w h a xs o b c t
structure DicObj (w:NX) (h:Heap) (a:Ij) (xs:Ox) (o:Obj) (es:Array DictEntry) (ep:Nat):Prop where
 ob:h.get? a=NQ o
 ex:o.ExactDict
 da:o.data=.dict es ep
 el:es.toList=xs.map λx=>(⟨zC w x.1,.ref x.2.1,x.2.2⟩:DictEntry)
 nd:(xs.map (·.1)).Nodup
 ns:(a == sysModules)=NV
noncomputable def DicO (w:NX) (a:Ij) (xs:Ox):HO:=.ext λh=>∃ o b c,DicObj w h a xs o b c
def ck (d:NR):Prop:=zD d=NS/\d.depth<=8
def EntR (K:Ih) (a:Hp) (x:NR×Ij×NT) (p:NR×NR):Prop:=x.1=p.1/\ck x.1/\Rep K a x.1 (.ref x.2.1)/\∃ v,Rep K a p.2 v/\RelV v x.2.2
theorem EntR.mono {K:Ih} {b a:Hp} (s:Same b a):∀ {xs:Ox} {kvs:Ow},Paired (EntR K b) xs kvs->Paired (EntR K a) xs kvs
 | _,_,.nil=>.nil
 | _,_,.cons ⟨h1,h2,h3,v,h4,h5⟩ t=>.cons ⟨h1,h2,Rep.mono s _ _ h3,v,Rep.mono s _ _ h4,h5⟩ (EntR.mono s t)
def OwnAt (w:NX) (K:Ih) (a H:Hp) (D:Ij):OC->Prop
 | .lst es=>∃ b,H D=NQ (.lst b)/\Reps K a es b
 | .set ks=>∃ xs:Ov,H D=NQ (SetO w D xs)/\(∀ x∈xs,ck x.1/\Rep K a x.1 (.ref x.2))/\(∀ d,d∈xs.map (·.1)↔d∈ks)/\xs.length<=ks.length
 | .dic kvs=>∃ xs:Ox,H D=NQ (DicO w D xs)/\Paired (EntR K a) xs kvs
 | .gen e=>∃ o,H D=NQ o/\∀ c,Same a c->e c o
theorem OwnAt.mono {w:NX} {K:Ih} {d a H f:Hp} {D:Ij} (e:f D=H D) (s:Same d a):∀ {c:OC},OwnAt w K d H D c->OwnAt w K a f D c
 | .lst es,⟨vs,h1,h2⟩=>⟨vs,e.trans h1,Reps.mono s es vs h2⟩
 | .set ks,⟨xs,h1,h2,h3⟩=>⟨xs,e.trans h1,λx b=>⟨(h2 x b).1,Rep.mono s _ _ (h2 x b).2⟩,h3⟩
 | .dic kvs,⟨xs,h1,h2⟩=>⟨xs,e.trans h1,EntR.mono s h2⟩
 | .gen φ,⟨o,h1,h2⟩=>⟨o,e.trans h1,λg t=>h2 g (s.trans t)⟩
noncomputable def Fx.withs (f:Fx) (Ds:N8):Fx:={ f with M:=Ds.reverse++f.M }
theorem yP (f:Fx) (Ds:N8) (D:Ij):f.withs (Ds++[D])=(f.withs Ds).with D:=by
 unfold Fx.withs Fx.with;rw [Ks];rfl
structure CM (w:NX) (K:Ih) (f:Fx) (Ds:N8) (H2:Hp) (ρ:zu) (cs:List OC) (σ:St) (H:Hp):Prop where
 env:EnvOk K (f.withs Ds) ρ σ H
 sm:Same (hide H2 (f.withs Ds)) (hide H (f.withs Ds))
 kp:∀ b∈f.M,H b=H2 b
 len:cs.length=Ds.length
 own:∀ (i:Nat) D c,Ds[i]?=NQ D->cs[i]?=NQ c->OwnAt w K (hide H (f.withs Ds)) H D c
structure Sep (f:Fx) (Ds:N8):Prop where
 nd:Ds.Nodup
 nf:∀ D∈Ds,f.f≠NQ D
 nm:∀ D∈Ds,D∉f.M
section
variable {w:NX} {K:Ih} {f:Fx} {Ds:N8} {H H' H2:Hp} {ρ ρ2:zu} {cs:List OC} {σ σ2:St} {i:Nat} {D:Ij} {c:OC} {o:HO}
theorem jQ (a:D∈Ds):D∈(f.withs Ds).M:=IY _ (J5.mpr a)
theorem yE (a:D∈Ds):hide (upd H D o) (f.withs Ds)=hide H (f.withs Ds):=by
 funext b
 unfold hide;by_cases h:(f.withs Ds).f=NQ b \/ b∈(f.withs Ds).M
 ·rw [NM h,NM h]
 ·rw [NL h,NL h,zx λ(z:b=D)=>h (.inr (z▸jQ a))]
theorem CM.go (x:CM w K f Ds H2 ρ cs σ H) (g:Goes (f.withs Ds) H H') (h:EnvOk K (f.withs Ds) ρ2 σ2 H'):CM w K f Ds H2 ρ2 cs σ2 H' :=
 ⟨h,x.sm.trans g.sm,λb a=>(g.kp b (IF _ a)).trans (x.kp b a),x.len,λi D c d e=>(x.own i D c d e).mono (g.kp D (jQ (Ir d))) g.sm⟩
theorem CM.self (x:CM w K f Ds H2 ρ cs σ H):CM w K f Ds H ρ cs σ H:=⟨x.env,Same.refl _,λ_ _=>rfl,x.len,x.own⟩
theorem CM.trans {d:List OC} {a:zu} {σ':St} (x:CM w K f Ds H2 ρ cs σ H) (y:CM w K f Ds H a d σ' H'):CM w K f Ds H2 a d σ' H':=⟨y.env,x.sm.trans y.sm,λb e=>(y.kp b e).trans (x.kp b e),y.len,y.own⟩
theorem CQ (d:Sep f Ds) (k:D∈Ds) (h:FOk (f.withs Ds) H):FOk (f.withs Ds) (upd H D o) :=
 ⟨λp e=>let⟨a,b,m,l⟩:=h.fd p e;⟨a,b,by rw [zx (λ(z:p=D)=>d.nf D k (z▸e))];exact m,l⟩,λb j=>by
  by_cases e:b=D
  ·exact⟨o,by rw [e];exact zy⟩
  ·obtain⟨u,g⟩:=h.mm b j;exact⟨u,by rw [zx e];exact g⟩,h.nm⟩
theorem tV (j:Sep f Ds) (g:D∈Ds) (e:EnvOk K (f.withs Ds) ρ σ H):EnvOk K (f.withs Ds) ρ σ (upd H D o) :=
 ⟨e.len,λi x h=>by
  obtain⟨v,l,b⟩:=e.get i x h;refine⟨v,l,?_⟩;cases x with
  | dat d =>
   show Rep K (hide (upd H D o) (f.withs Ds)) d v;rw [yE g];exact b
  | feed=>exact b
  | own k=>exact b
  | exc C =>
   obtain⟨a,m,q⟩:=b;exact⟨a,m,by rw [yE g];exact q⟩
  | mon n =>
   intro H' s;rw [yE g] at s;exact b H' s,CQ j g e.fd⟩
theorem CM.put {c':OC} (k:Sep f Ds) (x:CM w K f Ds H2 ρ cs σ H) (a:Ds[i]?=NQ D) (p:OwnAt w K (hide H (f.withs Ds)) (upd H D o) D c'):CM w K f Ds H2 ρ (cs.set i c') σ (upd H D o):=by
 have d:=Ir a;refine⟨tV k d x.env,by rw [yE d];exact x.sm,λb l=>(zx (λ(z:b=D)=>k.nm D d (z▸l))).trans (x.kp b l),by rw [JX];exact x.len,λj m c h g=>?_⟩;rw [yE d];by_cases e:i=j
 ·subst e;rw [a] at h;cases h;have q:i<cs.length:=by rw [x.len];exact (Ig.mp a).1
  rw [Jj q] at g;cases g;exact p
 ·rw [JN e] at g;have n:m≠D:=λz=>by
   subst z;obtain⟨u,s⟩:=Ig.mp a;obtain⟨t,r⟩:=Ig.mp h;exact e ((LV k.nd).mp (s.trans r.symm))
  exact (x.own j m c h g).mono (zx n) (Same.refl _)
end
structure MEnds where
 nx:zu->List OC->Prop
 rt:NR->Prop
 bk:zu->List OC->Prop:=λ_ _=>False
 ct:zu->List OC->Prop:=λ_ _=>False
def PSm (w:NX) (K:Ih) (f:Fx) (Ds:N8) (ts:TS) (i:zu) (j:List OC) (O:MEnds):Prop:=Sep f Ds->∀ (h:St) (H g:Hp) (E:Ends),CM w K f Ds g i j h H ->
 (∀ b c a e,CM w K f Ds g b c a e->O.nx b c->E.nx a e)->(∀ d v b c a e,CM w K f Ds g b c a e->Rep K (hide e f) d v->O.rt d->E.rt v e) ->
 (∀ b c a e,CM w K f Ds g b c a e->O.bk b c->E.bk a e)->(∀ b c a e,CM w K f Ds g b c a e->O.ct b c->E.ct a e)->ts E h H
def PTm (w:NX) (K:Ih) (f:Fx) (Ds:N8) (e:TT) (d:zu) (g:List OC) (B:Bool->Prop):Prop:=Sep f Ds->∀ (a:St) (H h:Hp) (Q:Bool->Hp->Prop),CM w K f Ds h d g a H->(∀ b c,Goes (f.withs Ds) H c->B b->Q b c)->e a H Q
def PEm (w:NX) (K:Ih) (f:Fx) (Ds:N8) (e:TE) (c:zu) (g:List OC) (P:NR->Prop):Prop:=Sep f Ds->∀ (b:St) (H h:Hp) (Q:VK),CM w K f Ds h c g b H->(∀ d v a,Goes (f.withs Ds) H a->Rep K (hide a (f.withs Ds)) d v->P d->Q v a)->e b H Q
def gx (w:NX) (K:Ih) (f:Fx) (e:TE) (d:zu) (P:OC->Prop):Prop:=∀ (b:St) (H:Hp) (Q:VK),EnvOk K f d b H ->
 (∀ c D a,Goes f H a->H D=NW->OwnAt w K (hide a (f.with D)) a D c->P c->Q (.ref D) a)->e b H Q
section
variable {w:NX} {K:Ih} {f:Fx} {Ds:N8} {ρ:zu} {cs:List OC} {ts tu:TS} {tt:TT} {te:TE} {wi:TI} {g:TG} {O:MEnds} {i j:Nat}
theorem yw {H:Hp}:Same (hide H (f.withs Ds)) (hide H f):=λb o h=>by
 obtain⟨c,a⟩:=zW h;exact zG (λz=>c (z.elim .inl λz=>.inr (IF _ z))) a
theorem lu {D:DEnds} (h:PSm w K f [] ts ρ [] { nx:=λa _=>D.nx a,rt:=D.rt,bk:=λa _=>D.bk a,ct:=λa _=>D.ct a }):PSd K f ts ρ D:=λs H E e n r b k=>by
 have q:∀ {a:zu} {m:List OC} {l:St} {o:Hp},CM w K f [] H a m l o->Goes f H o:=λx=>⟨x.sm,x.env.fd,x.kp⟩;exact h ⟨JC,(λ_ z=>nomatch z),(λ_ z=>nomatch z)⟩ s H H E ⟨e,Same.refl _,λ_ _=>rfl,rfl,(λi D c z=>nomatch z)⟩
  (λa m l o x p=>n a l o (q x) x.env p) (λd v a m l o x t p=>r d v o (q x) t p) (λa m l o x p=>b a l o (q x) x.env p) (λa m l o x p=>k a l o (q x) x.env p)
theorem gy (h:PSd K (f.withs Ds) ts ρ { nx:=λa=>O.nx a cs,rt:=O.rt,bk:=λa=>O.bk a cs,ct:=λa=>O.ct a cs }):PSm w K f Ds ts ρ cs O:=λs o H t E x n r b k =>
 h o H E x.env (λa c l e m p=>n a cs c l (x.go e m) p) (λd v l e q p=>r d v ρ cs o l (x.go e (x.env.mono e)) (Rep.mono yw d v q) p) (λa c l e m p=>b a cs c l (x.go e m) p) (λa c l e m p=>k a cs c l (x.go e m) p)
theorem vn (h:PSm w K f Ds ts ρ cs { O with nx:=λa c=>PSm w K f Ds tu a c O }):PSm w K f Ds (jK ts tu) ρ cs O:=λe m H l E x n r b k =>
 h e m H l _ x (λa c d q o p=>p e d q l E o n r b k) r b k
theorem d6 (h:O.nx ρ cs):PSm w K f Ds sN ρ cs O:=λ_ a H c E x n r b k=>n ρ cs a H x h
theorem CS {B:Bool->Prop} (h:PTd K (f.withs Ds) tt ρ B):PTm w K f Ds tt ρ cs B:=λb a H c Q x q=>h a H Q x.env q
theorem cW {P:NR->Prop} (h:PEd K (f.withs Ds) te ρ P):PEm w K f Ds te ρ cs P:=λb a H c Q x q=>h a H Q x.env q
theorem wB (h:PTm w K f Ds tt ρ cs λb=>if b=NS then PSm w K f Ds ts ρ cs O else PSm w K f Ds tu ρ cs O):PSm w K f Ds (xK tt ts tu) ρ cs O:=λc a H d E x n r b k =>
 h c a H d _ x λq m l p=>by
  have e:=x.go l (x.env.mono l);cases q with
  | false =>
   rw [NL Ie] at p ⊢;exact p c a m d E e n r b k
  | true =>
   rw [NM rfl] at p ⊢;exact p c a m d E e n r b k
theorem aN (h:PId K (f.withs Ds) wi ρ λds=>∃ J:Nat->zu->List OC->Prop,J 0 ρ cs /\
   (∀ (i:Nat) d a c,ds[i]?=NQ d->J i a c->PGd K (f.withs Ds) g d a λl=>PSm w K f Ds ts l c { O with nx:=J (i+1),ct:=J (i+1),bk:=O.nx })/\∀ a c,J ds.length a c->O.nx a c) :
  PSm w K f Ds (xO wi g ts) ρ cs O:=λse Y H W E x n r b k=>h Y H _ x.env λds J X S P ⟨T,j0,js,jd⟩=>by
 have Z:=x.go S (x.env.mono S);refine⟨λi m t C=>∃ a c,CM w K f Ds W a c t C/\Same (hide X (f.withs Ds)) (hide C (f.withs Ds))/\T i a c/\m+i=ds.length,⟨ds.length,ρ,cs,Z,Same.refl _,j0,rfl⟩,λi m t C ⟨a,c,F,z,p,hm⟩=>?_⟩;by_cases Q:i<ds.length
 ·obtain⟨L,hy⟩:=P.go (f.withs Ds) C i _ F.env.fd z (Ia Q);refine .inr ⟨L,λs B=>∃ l y,CM w K f Ds W l y s B/\Same (hide X (f.withs Ds)) (hide B (f.withs Ds))/\T (i+1) l y,λs B ⟨l,y,e2,g2,p2⟩=>⟨m - 1,by lia,l,y,e2,g2,p2,by lia⟩,λv B hx=>?_⟩;obtain⟨M,r3⟩:=hy v B hx;have N:=F.go M (F.env.mono M);refine js i _ a c (Ia Q) p t B v _ N.env r3 λl s U R e4 p4=>?_;have D:=N.go R e4;have G:=(z.trans M.sm).trans R.sm;exact p4 se s U U _ D.self (λe o q I u A=>⟨e,o,D.trans u,G.trans u.sm,A⟩) (λd v e o q I u r5 A=>r d v e o q I (D.trans u) r5 A) (λe o q I u A=>n e o q I (D.trans u) A) (λe o q I u A=>⟨e,o,D.trans u,G.trans u.sm,A⟩)
 ·have ei:i=ds.length:=by lia
  subst ei;exact .inl ⟨P.st (f.withs Ds) C F.env.fd z,n a c t C F (jd a c p)⟩
theorem tW {G:TS} (J:zu->List OC->Prop) (u:zu->List OC->Nat) (h0:J ρ cs)
  (S:∀ a d,J a d->PTm w K f Ds tt a d λb=>if b=NS then PSm w K f Ds G a d { O with nx:=λr c=>J r c/\u r c<u a d,ct:=λr c=>J r c/\u r c<u a d,bk:=O.nx } else O.nx a d):PSm w K f Ds (xN tt G) ρ cs O:=λI U H A E x n r b k=>by
 refine⟨λm l B=>∃ a d,CM w K f Ds A a d l B/\J a d/\m=u a d,⟨_,ρ,cs,x,h0,rfl⟩,?_⟩;rintro m q T ⟨s,v,C,Q,rfl⟩;refine S s v Q I q T A _ C λt M L p=>?_;have F:=C.go L (C.env.mono L);cases t with
 | true =>
  rw [NM rfl] at p ⊢;refine⟨λl B=>∃ a d,CM w K f Ds A a d l B/\J a d/\u a d<u s v,λl B ⟨a,d,N,R,P⟩=>⟨_,P,a,d,N,R,rfl⟩,?_⟩;exact p I q M A _ F (λe h o D y z=>⟨e,h,y,z⟩) r (λe h o D y z=>n e h o D y z) (λe h o D y z=>⟨e,h,y,z⟩)
 | false =>
  rw [NL Ie] at p ⊢;exact n s v q M F p
theorem jE {a:St} {H k:Hp} {D:Ij} (c:ρ[i]?=NQ (NQ (.own (f.M.length+j)))) (x:CM w K f Ds k ρ cs a H) (d:Ds[j]?=NQ D):a[i]?=NQ (NQ (.ref D)):=by
 obtain⟨v,h,p,b,rfl⟩:=x.env.get i _ c;have e:(f.withs Ds).M.reverse[f.M.length+j]?=NQ D:=by
  show (Ds.reverse++f.M).reverse[f.M.length+j]?=NQ D;rw [Ks,Lf,IC (by simp)];simpa using d
 rw [e] at b;cases b;exact h
theorem iP {es:Oo} (A:ρ[i]?=NQ (NQ (.own (f.M.length+j)))) (l:cs[j]?=NQ (.lst es)) (F:es.length<1000) (h:PEm w K f Ds te ρ cs λd=>O.nx ρ (cs.set j (.lst (es++[d])))):PSm w K f Ds (sO (tBM K "list" sV (yB i) (yy te qC))) ρ cs O:=λp t H D E x n r b k=>by
 have z:j<Ds.length:=by rw [<-x.len];exact (Ig.mp l).1
 have a:Ds[j]?=NQ Ds[j]:=Ia z;obtain⟨c,C,_⟩:=x.own j _ _ a l;refine⟨_,jE A x a,N2 ⟨rfl,c,.of C⟩,?_⟩;refine h p t H D _ x λd v G s u y=>?_;have m:=x.go s (x.env.mono s);obtain⟨e,B,q⟩:=m.own j _ _ a l;refine⟨_,e,v,rfl,rfl,B,z7 (by rw [q.length];lia),n _ _ _ _ (m.put p a (o:=.lst (e++[v])) (c':=.lst (es++[d])) ⟨e++[v],zy,q.snoc u⟩) y⟩
theorem CM.more {E:St} {H a Z:Hp} {D:Ij} {c:OC} (x:CM w K f Ds Z ρ cs E H) (g:Goes (f.withs Ds) H a) (L:H D=NW) (t:OwnAt w K (hide a ((f.withs Ds).with D)) a D c) (hi:i<ρ.length) :
  CM w K f (Ds++[D]) a (ρ.set i (NQ (.own (f.M.length+Ds.length)))) (cs++[c]) (E.set i (NQ (.ref D))) a:=by
 have S:¬ ((f.withs Ds).f=NQ D \/ D∈(f.withs Ds).M):=fresh_ne x.env.fd L;have e:Same (hide H (f.withs Ds)) (hide a (f.withs (Ds++[D]))):=λb o n=>by
  have h:=g.sm b o n;rw [yP];refine zG (λz=>?_) (zW h).2;rcases z with z | z
  ·exact (zW h).1 (.inl z)
  ·rcases Iv.mp z with rfl | z
   ·have:=(zW n).2;rw [L] at this;cases this
   ·exact (zW h).1 (.inr z)
 have G:∃ o,a D=NQ o:=by
  cases c with
  | lst es=>exact⟨_,t.choose_spec.1⟩
  | set ks=>exact⟨_,t.choose_spec.1⟩
  | dic T=>exact⟨_,t.choose_spec.1⟩
  | gen Q=>exact⟨_,t.choose_spec.1⟩
 have J:FOk (f.withs (Ds++[D])) a:=by
  rw [yP];refine⟨g.ok.fd,λb n=>?_,λq N m=>?_⟩
  ·rcases Iv.mp n with rfl | n
   ·exact G
   ·exact g.ok.mm b n
  ·rcases Iv.mp m with rfl | m
   ·exact S (.inl N)
   ·exact g.ok.nm q N m
 have p:(f.withs (Ds++[D])).M.reverse=(f.withs Ds).M.reverse++[D]:=by
  rw [yP];show (D :: (f.withs Ds).M).reverse=_;rw [ME]
 have r:(f.withs Ds).M.reverse.length=f.M.length+Ds.length:=by
  show (Ds.reverse++f.M).reverse.length=_;simp
 have W:EnvOk K (f.withs (Ds++[D])) ρ E a:=⟨x.env.len,λq y U=>by
  obtain⟨v,Y,u⟩:=x.env.get q y U;refine⟨v,Y,?_⟩;cases y with
  | dat d=>exact Rep.mono e d v u
  | feed=>exact u
  | exc C =>
   obtain⟨b,A,I⟩:=u;exact⟨b,A,e _ _ I⟩
  | mon Q=>exact λH' s=>u H' (e.trans s)
  | own k =>
   obtain⟨b,A,I⟩:=u;refine⟨b,?_,I⟩;rw [p,Iy (Ig.mp A).1];exact A,J⟩
 have R:RepV K (f.withs (Ds++[D])) a (.own (f.M.length+Ds.length)) (.ref D):=⟨D,by
  rw [p,IC (by lia),r,Kv]
  rfl,rfl⟩
 refine⟨W.set i R,Same.refl _,λ_ _=>rfl,by simp [x.len],λq P X l B=>?_⟩;by_cases m:q<Ds.length
 ·rw [Iy m] at l;rw [Iy (by rw [x.len];exact m)] at B;exact (x.own q P X l B).mono (g.kp P (jQ (Ir l))) e
 ·by_cases F:q=Ds.length
  ·subst F;rw [IC (Iu _),Kv] at l;rw [IC (by rw [x.len];exact Iu _),x.len,Kv] at B;cases l;cases B;rw [yP];exact t
  ·rw [Jf (by simp;lia)] at l;cases l
theorem Sep.more {H:Hp} {D:Ij} (c:Sep f Ds) (n:FOk (f.withs Ds) H) (k:H D=NW):Sep f (Ds++[D]):=by
 have d:=fresh_ne n k;refine⟨Jw.mpr ⟨c.nd,by simp,λa m b l=>?_⟩,λe h=>?_,λe h=>?_⟩
 ·rw [Iw.mp l];intro z;exact d (.inr (jQ (z▸m)))
 ·rcases Iz.mp h with h | h
  ·exact c.nf e h
  ·rw [Iw.mp h];exact λz=>d (.inl z)
 ·rcases Iz.mp h with h | h
  ·exact c.nm e h
  ·rw [Iw.mp h];exact λz=>d (.inr (IF _ z))
theorem CM.less {T σ':St} {H J S r:Hp} {D:Ij} {m:zu} {u:List OC} (x:CM w K f Ds S ρ cs T H) (g:Goes (f.withs Ds) H J) (W:H D=NW) (y:CM w K f (Ds++[D]) J m u σ' r) :
  CM w K f Ds S (m.map (cO (f.M.length+Ds.length))) (u.take Ds.length) σ' r:=by
 have sub:Same (hide r (f.withs (Ds++[D]))) (hide r (f.withs Ds)):=by rw [yP];exact y4
 have F:Same (hide H (f.withs Ds)) (hide J (f.withs (Ds++[D]))):=λb o l=>by
  have n:=g.sm b o l;rw [yP];refine zG (λz=>?_) (zW n).2;rcases z with z | z
  ·exact (zW n).1 (.inl z)
  ·rcases Iv.mp z with rfl | z
   ·have:=(zW l).2;rw [W] at this;cases this
   ·exact (zW n).1 (.inr z)
 have L:(f.withs Ds).M.reverse.length=f.M.length+Ds.length:=by
  show (Ds.reverse++f.M).reverse.length=_;simp
 have G:(f.withs (Ds++[D])).M.reverse=(f.withs Ds).M.reverse++[D]:=by
  rw [yP];show (D :: (f.withs Ds).M).reverse=_;rw [ME]
 have X:FOk (f.withs Ds) r:=by
  have h:=y.env.fd;rw [yP] at h;exact⟨h.fd,λb l=>h.mm b (Ii _ l),λp e U=>h.nm p e (Ii _ U)⟩
 refine⟨⟨by rw [Ib];exact y.env.len,λq z a=>?_,X⟩,(x.sm.trans F).trans (y.sm.trans sub),λb l=>(y.kp b l).trans ((g.kp b (IF _ l)).trans (x.kp b l)),?_,λq Z Y R Q=>?_⟩
 ·rw [Iq] at a;cases e:m[q]? with
  | none=>rw [e] at a;cases a
  | some B =>
   rw [e] at a;cases B with
   | none=>cases a
   | some B =>
    obtain⟨v,A,t⟩:=y.env.get q B e;cases B with
    | dat d =>
     cases a;exact⟨v,A,Rep.mono sub d v t⟩
    | feed =>
     cases a;rw [yP] at t;exact⟨v,A,t⟩
    | exc C =>
     cases a;obtain⟨b,E,I⟩:=t;exact⟨v,A,b,E,sub _ _ I⟩
    | mon φ =>
     cases a;exact⟨v,A,λr s=>t r (sub.trans s)⟩
    | own k =>
     have c:(if k<f.M.length+Ds.length then NQ (DV.own k) else NW)=NQ z:=N1 a;by_cases P:k<f.M.length+Ds.length
     ·rw [NM P] at c;cases c;obtain⟨b,E,I⟩:=t;refine⟨v,A,b,?_,I⟩;rw [G,Iy (by lia)] at E;exact E
     ·rw [NL P] at c;cases c
 ·rw [Jt,y.len];simp
 ·have N:q<Ds.length:=(Ig.mp R).1;rw [KU N] at Q;exact (y.own q Z Y (by rw [Iy N];exact R) Q).mono rfl sub
theorem nu (h:gx w K (f.withs Ds) te ρ λc=>i<ρ.length/\∀ D,PSm w K f (Ds++[D]) ts (ρ.set i (NQ (.own (f.M.length+Ds.length)))) (cs++[c]) { nx:=λa e=>O.nx (a.map (cO (f.M.length+Ds.length))) (e.take Ds.length),rt:=O.rt,bk:=λa e=>O.bk (a.map (cO (f.M.length+Ds.length))) (e.take Ds.length),ct:=λa e=>O.ct (a.map (cO (f.M.length+Ds.length))) (e.take Ds.length) }) :
  PSm w K f Ds (jK (ve te (yW i)) ts) ρ cs O:=λz u H F E x n r b k =>
 h u H _ x.env λc D t s o B ⟨C,p⟩ =>
  p D (z.more x.env.fd o) _ t t E (x.more s o B C) (λa e l m y q=>n _ _ l m (x.less s o y) q) (λd v a e l m y A q=>r d v _ _ l m (x.less s o y) A q) (λa e l m y q=>b _ _ l m (x.less s o y) q) (λa e l m y q=>k _ _ l m (x.less s o y) q)
theorem bt {P:OC->Prop} (h:PEdO K f te ρ λes=>P (.lst es)):gx w K f te ρ P:=λa H Q e q=>h a H Q e λes D b l g d k c p=>q (.lst es) D l g d ⟨b,k,c⟩ p
noncomputable def freed (n:Nat) (cs:List OC):Option DV->Option DV
 | some (.own k)=>if k<n then NQ (.own k) else match cs[k - n]? with
  | some (.lst es)=>NQ (.dat (.list es))
  | _=>NW
 | x=>x
theorem CM.free {B:St} {H P:Hp} (E:Sep f Ds) (x:CM w K f Ds P ρ cs B H):EnvOk K f (ρ.map (freed f.M.length cs)) B H:=by
 have N:FOk f H:=⟨x.env.fd.fd,λb t=>x.env.fd.mm b (IF _ t),λp e I=>x.env.fd.nm p e (IF _ I)⟩;refine⟨by rw [Ib];exact x.env.len,λq z l=>?_,N⟩;rw [Iq] at l;cases e:ρ[q]? with
 | none=>rw [e] at l;cases l
 | some o =>
  rw [e] at l;cases o with
  | none=>cases l
  | some o =>
   obtain⟨v,m,n⟩:=x.env.get q o e;cases o with
   | dat d =>
    cases l;exact⟨v,m,Rep.mono yw d v n⟩
   | feed =>
    cases l;exact⟨v,m,n⟩
   | exc C =>
    cases l;obtain⟨b,y,u⟩:=n;exact⟨v,m,b,y,yw _ _ u⟩
   | mon F =>
    cases l;exact⟨v,m,λQ s=>n Q (yw.trans s)⟩
   | own k =>
    obtain⟨b,y,u⟩:=n;have h:(Ds.reverse++f.M).reverse[k]?=NQ b:=y;rw [Ks,Lf] at h;have a:(if k<f.M.length then NQ (DV.own k) else match cs[k - f.M.length]? with | some (.lst A)=>NQ (.dat (.list A)) | _=>NW)=NQ z:=N1 l;by_cases r:k<f.M.length
    ·rw [NM r] at a;cases a;rw [Iy (by simpa using r)] at h;exact⟨v,m,b,h,u⟩
    ·rw [NL r] at a;rw [IC (by simpa using NA.mp r),Nr] at h;cases ec:cs[k - f.M.length]? with
     | none=>rw [ec] at a;cases a
     | some c =>
      rw [ec] at a;cases c with
      | lst A =>
       cases a;obtain⟨D,L,J⟩:=x.own _ _ _ h ec;have t:=Ir h;exact⟨v,m,zI.mpr ⟨b,D,u,.of (zG (λz=>z.elim (E.nf b t) (E.nm b t)) L),Reps.mono yw A D J⟩⟩
      | set R=>cases a
      | dic G=>cases a
      | gen F=>cases a
theorem CM.goF {k:St} {H n e:Hp} (l:Sep f Ds) (x:CM w K f Ds n ρ cs k H) (g:Goes f H e):CM w K f Ds n ρ cs k e:=by
 have c:∀ b∈Ds,e b=H b:=λb a=>by
  obtain⟨o,d⟩:=x.env.fd.mm b (jQ a);rw [d];exact (zW (g.sm b o (zG (λz=>z.elim (l.nf b a) (l.nm b a)) d))).2
 have m:Goes (f.withs Ds) H e:=⟨λb o a=>by
   have h:=zW a;have:=zW (g.sm b o (yw b o a));exact zG h.1 this.2,⟨g.ok.fd,λb a=>by
   rcases Iz.mp a with a | a
   ·obtain⟨o,d⟩:=x.env.fd.mm b (IY _ a);exact⟨o,by rw [c b (J5.mp a)];exact d⟩
   ·exact g.ok.mm b a,x.env.fd.nm⟩,λb a=>by
   rcases Iz.mp a with a | a
   ·exact c b (J5.mp a)
   ·exact g.kp b a⟩
 exact x.go m (x.env.mono m)
theorem AK (h:PSd K f ts (ρ.map (freed f.M.length cs)) { nx:=λ_=>False,rt:=O.rt }):PSm w K f Ds ts ρ cs O:=λc a H o E x n r b k =>
 h a H E (x.free c) (λ_ _ _ _ _ z=>z.elim) (λd v m l e p=>r d v ρ cs a m (x.goF c l) e p) (λ_ _ _ _ _ z=>z.elim) (λ_ _ _ _ _ z=>z.elim)
end
def p9 (w:NX) (K:Ih) (f:Fx) (Ds:N8) (ts:TS) (k:zu) (l:List OC) (R:Oo->Prop):Prop:=Sep f Ds->∀ (g:St) (H j:Hp) (E:Ends),CM w K f Ds j k l g H ->
 (∀ i D h c d b e a,CM w K f Ds j c d b e->Goes f e a->e D=NW->a D=NQ (.lst h)->Reps K (hide a (f.with D)) i h->R i->E.rt (.ref D) a)->ts E g H
section
variable {w:NX} {K:Ih} {f:Fx} {Ds:N8} {ρ:zu} {cs:List OC} {ts tu:TS} {te:TE} {R:Oo->Prop} {i:Nat}
theorem lz (h:p9 w K f [] ts ρ [] R):PSn K f ts ρ R:=λd H E e q=>by
 refine h ⟨JC,(λ_ z=>nomatch z),(λ_ z=>nomatch z)⟩ d H H E ⟨e,Same.refl _,λ_ _=>rfl,rfl,(λi D c z=>nomatch z)⟩ λo D k j r b s t x g m n l p=>?_;have a:Goes f H s:=⟨x.sm,x.env.fd,x.kp⟩;exact q o D k t (a.trans g) (a.free e.fd m) n l p
theorem rf (h:PSm w K f Ds ts ρ cs { nx:=λa b=>p9 w K f Ds tu a b R,rt:=λ_=>False }):p9 w K f Ds (jK ts tu) ρ cs R:=λd g H e E x q =>
 h d g H e _ x (λa b c k j p=>p d c k e E j q) (λ_ _ _ _ _ _ _ _ z=>z.elim) (λ_ _ _ _ _ z=>z.elim) (λ_ _ _ _ _ z=>z.elim)
theorem lA (h:gx w K (f.withs Ds) te ρ λc=>i<ρ.length/\∀ D,p9 w K f (Ds++[D]) ts (ρ.set i (NQ (.own (f.M.length+Ds.length)))) (cs++[c]) R) :
  p9 w K f Ds (jK (ve te (yW i)) ts) ρ cs R:=λn k H F E x q =>
 h k H _ x.env λc D j e d s ⟨t,p⟩ =>
  p D (n.more x.env.fd d) _ j j E (x.more e d s t) λv C m l z a A B y g b u o r=>q v C m _ _ a A B (x.less e d y) g b u o r
theorem lB (h:PSn K f ts (ρ.map (freed f.M.length cs)) R):p9 w K f Ds ts ρ cs R:=λc a H m E x q =>
 h a H E (x.free c) λk D b l g e j d p=>q k D b ρ cs a H l x g e j d p
end
theorem SetO.ok {P:NY} {w:NX} {H:Hp} {h:Heap} {a:Ij} {xs:Ov} {o:Obj} {es:Array (Int×NT)} {ep:Nat} {t:SetTable} (S:SetObj w h a xs o es ep t):ObjOk P w H h a (SetO w a xs) :=
 ⟨⟨o,es,ep,t,S⟩,⟨o,S.ob⟩,λc b ⟨o,es,ep,t,S⟩ k=>⟨o,es,ep,t,⟨k o S.ob,S.ex,S.da,S.el,S.ok⟩⟩⟩
theorem wC (a:Bool):ST.TOk (SetTable.fresh 0 0 a) [] where
 mask:=.inl rfl
 dum:=rfl
 rise:=λi j _ c=>absurd c (Kf _)
 le:=λi b=>absurd b (Kf _)
 size:=rfl
 most:=IV _
 reach:=λi b=>absurd b (Kf _)
 room:=by show 0 * 5<7 * 3;decide
def lC (w:NX):List V->Hp->VK->Prop:=λb H Q=>b=[]/\∀ a,H a=NW->Q (.ref a) (upd H a (SetO w a []))
theorem nz {X:Cx}:yJ X (.type "set") (lC X.w):=by
 intro d s a H xs c Q I r h;obtain⟨rfl,q⟩:=h;cases r;refine call_set_0 λled=>?_;refine⟨.ref s.heap.objs.size,_,I.laid (t':=s.toks) (λb u e=>Im _ e) (Iu _) (SetO.ok (xs:=[]) (o:={ cls:=.type "set",dict:=NW,data:=.set #[] 0 (.fresh 0 0 led) }) (es:=#[]) (ep:=0) (t:=.fresh 0 0 led) ⟨IT _ rfl,⟨rfl,rfl,rfl⟩,rfl,rfl,wC led⟩),rfl,q _ (I.hok.fresh (Iu _))⟩
def eY (d:NR):Prop:=ck d/\∃ a,d=.tuple a
theorem vo {K:Ih} {H:Hp} {d:NR} {v:V} (k:eY d) (r:Rep K H d v):∃ b,v=.ref b:=by
 obtain⟨_,c,rfl⟩:=k;obtain⟨a,_,e,_⟩:=zZ.mp r;exact⟨a,e⟩
theorem vK {X:Cx} {f:N9} {a:St} {H:Hp} {s:NU} {d:NR} {b:Ij} (I:Inv X f a H s) (k:ck d) (r:Rep X.K H d (.ref b)):KeyAt s.heap d b:=by
 obtain⟨e,c⟩:=jh I d (.ref b) (.ref b) r rfl;exact⟨⟨e,c⟩,k.1,k.2⟩
def Fy (w:NX) (K:Ih) (neg:Bool):R2:=λx y H Q=>∃ a b d c,x=.ref b/\y=.ref a/\H a=NQ (SetO w a c)/\(∀ z∈c,ck z.1/\Rep K H z.1 (.ref z.2))/\ck d/\Rep K H d (.ref b)/\Q (.bl (if neg then !decide (d∈c.map (·.1)) else decide (d∈c.map (·.1)))) H
theorem CT {X:Cx} (j:X.A.units+64<JR) {i:N9} {s:NU} {e:St} {H:Hp} {a b:Ij} {d:NR} {xs:Ov} (I:Inv X i e H s) (h:H a=NQ (SetO X.w a xs)) (ks:∀ z∈xs,ck z.1/\Rep X.K H z.1 (.ref z.2)) (g:ck d) (f:Rep X.K H d (.ref b)) {Q:Bool->NU->Prop} {E:NT->NU->Prop}
  (q:Q (decide (d∈xs.map (·.1))) { s with toks:=s.toks+yk d }):IK (model X.prog X.w) X.A (contains (.ref a) (.ref b)) Q E s:=by
 obtain⟨⟨o,k,l,t,S⟩,_⟩:=I.hok a _ h;exact nt S (λx c=>vK I (ks x c).1 (ks x c).2) (vK I g f) (by lia) q
theorem wD {X:Cx} (j:X.A.units+64<JR):OpR X (JI .NotIn) (Fy X.w X.K NS):=by
 intro n s l H x y v u Q I e c h;obtain⟨a,b,d,m,rfl,rfl,k,g,i,f,q⟩:=h;cases e;cases c;show IK _ _ (do return Value.bool (!(<- contains (.ref a) (.ref b)))) _ _ s;apply Ic;exact CT j I k g i f (Ip ⟨.bl _,H,I.tok _,rfl,q⟩)
theorem gz {X:Cx} {K:Ih} {w:NX} (a:X.w=w) (c:X.K=K) (b:X.A.units+64<JR):OpR X (JI .NotIn) (Fy w K NS):=a▸c▸wD b
def AL (w:NX) (K:Ih):V->List V->Hp->VK->Prop:=λx f H Q=>∃ a b d c,x=.ref a/\f=[.ref b]/\H a=NQ (SetO w a c)/\(∀ z∈c,ck z.1/\Rep K H z.1 (.ref z.2))/\ck d/\Rep K H d (.ref b)/\c.length<300 /\
 (d∈c.map (·.1)->Q .non H)/\(d∉c.map (·.1)->∀ e,e.Perm ((d,b) :: c)->Q .non (upd H a (SetO w a e)))
theorem CU {X:Cx} (O:X.A.units+64<JR):MtR X "set.add" (AL X.w X.K):=by
 intro U s J H x L v N Q I p n h;obtain⟨a,b,d,M,rfl,rfl,k,i,E,r,g,z,y⟩:=h;obtain⟨u,rfl,q⟩:=vals1 n;cases p;cases q;obtain⟨⟨o,R,T,t,S⟩,_⟩:=I.hok a _ k;refine Fw S (λx j=>vK I (i x j).1 (i x j).2) (vK I E r) (by lia) g (λf=>⟨.non,H,I.tok _,rfl,z f⟩) λf c C F G t' P B m l=>?_;refine⟨.non,_,I.write (t':=s.toks+yk d) (x:=a) (e:=a) (by rw [k];exact trivial) (.inl rfl) (λb u D e=>(m.2 b D).trans e) ⟨C,l.ob⟩ (SetO.ok l),rfl,y f c B⟩
theorem nA {X:Cx} {K:Ih} {w:NX} (a:X.w=w) (c:X.K=K) (b:X.A.units+64<JR):MtR X "set.add" (AL w K):=a▸c▸CU b
theorem cX {X:Cx} {w:NX} (a:X.w=w):yJ X (.type "set") (lC w):=a▸nz
def G9 (w:NX) (r:V->List V->Hp->VK->Prop) (e:TE) (t:TA):TE:=λc H Q=>e c H λx d=>(∃ a b,x=.ref a/\d a=NQ (SetO w a b))/\t c d λb f=>r x b f Q
theorem AM {X:Cx} {w:NX} {o e:Expr} {es:Od} {p:TE} {t:TA} {name:Str} {f c:Pos} {id:String} {r:V->List V->Hp->VK->Prop} (L:X.w=w) (j:Slot "set" name id) (m:typeOf (.builtin id)=pure (.type "method_descriptor")) (O:MtR X id r) (N:PE X o p) (P:PA X (e :: es) t)
  (i:attributeBase o name X.env (eval o X.env)=eval o X.env:=by rfl)
  (k:((backTo c (Jg (e :: es) X.env)).all (λx=>!x.1) && (backToKw c (keywordEach [] X.env)).all (λx=>x.1.isSome)
   && decide ((e :: es).length+([]:Of).length+(if ([]:Of).isEmpty then 0 else 1)<30))=NS:=by rfl)
  (g:(f.endLine == c.line)=NS:=by rfl) (M:Jg (e :: es) X.env=(NV,eval e X.env) :: Jg es X.env:=by rfl) (d:(backTo c (Jg es X.env)).any (·.1)=NV:=by rfl) :
  PE X (.Call (.Attribute o name f) (e :: es) [] c) (G9 w r p t):=by
 subst L;intro n s l H Q I h;refine wpAny_Call_method_late i k g rfl (thn (N n s l H _ I h) λv D ⟨x,Y,y,G,B,K⟩=>?_);obtain⟨a,Z,rfl,R⟩:=B;cases G;obtain⟨⟨q,T,ep,t',S⟩,_⟩:=y.hok a _ R;refine⟨"set",id,PySem.F.plainAttrs_set,j,m,⟨q,S.ob,S.ex.1⟩,λb e=>?_,?_⟩
 ·cases e;exact⟨q,S.ob,S.ex.2.1⟩
 have u:=P c n D l Y _ y K;rw [M] at u ⊢;refine LC (by show (NV || (backTo c (Jg es X.env)).any (·.1))=NV;rw [d] <;> rfl) (L7 ?_);exact thn u λA C ⟨z,W,U,E,J⟩=>O n C l W (.ref a) z (.ref a) A Q U rfl E J
section
variable {w:NX} {K:Ih} {f:Fx} {Ds:N8} {ρ:zu} {cs:List OC} {te:TE} {O:MEnds} {i j:Nat} {ks:Oo}
theorem AN {P:OC->Prop} (p:P (.set [])):gx w K f (tCB (lC w) qC) ρ P:=λc H Q e q =>
 ⟨rfl,λa b=>q (.set []) a _ (.of_same (yf b _) e.fd) b ⟨[],zy,(λ_ z=>nomatch z),(λd=>Iff.rfl),Iu 0⟩ p⟩
theorem Eo {neg:Bool} {B:Bool->Prop} (u:ρ[i]?=NQ (NQ (.own (f.M.length+j)))) (m:cs[j]?=NQ (.set ks)) (h:PEm w K f Ds te ρ cs λd=>eY d/\B (if neg then !decide (d∈ks) else decide (d∈ks))) :
  PTm w K f Ds (mG (tOp (Fy w K neg) te (yB i))) ρ cs B:=λs r H C Q x q=>by
 have t:j<Ds.length:=by rw [<-x.len];exact (Ig.mp m).1
 have n:Ds[j]?=NQ Ds[j]:=Ia t;refine h s r H C _ x λd v D a g ⟨k,p⟩=>?_;have e:=x.go a (x.env.mono a);obtain⟨b,rfl⟩:=vo k g;obtain⟨c,A,o,y,_⟩:=e.own j _ _ n m;refine⟨_,jE u e n,Ds[j],b,d,c,rfl,rfl,A,λz l=>⟨(o z l).1,Rep.mono (zo _ _) _ _ (o z l).2⟩,k.1,Rep.mono (zo _ _) _ _ g,_,rfl,?_⟩;have:decide (d∈c.map (·.1))=decide (d∈ks):=decide_eq_decide.mpr (y d);rw [this];exact q _ D a p
theorem Ep (J:ρ[i]?=NQ (NQ (.own (f.M.length+j)))) (t:cs[j]?=NQ (.set ks)) (Q:ks.length<300) (h:PEm w K f Ds te ρ cs λd=>eY d/\(d∈ks->O.nx ρ cs)/\(d∉ks->O.nx ρ (cs.set j (.set (d :: ks))))) :
  PSm w K f Ds (sO (G9 w (AL w K) (yB i) (yy te qC))) ρ cs O:=λA C H P E x n r b k=>by
 have I:j<Ds.length:=by rw [<-x.len];exact (Ig.mp t).1
 have c:Ds[j]?=NQ Ds[j]:=Ia I;obtain⟨g,N,_⟩:=x.own j _ _ c t;refine⟨_,jE J x c,⟨Ds[j],g,rfl,N⟩,?_⟩;refine h A C H P _ x λd v S B o ⟨q,G,F⟩=>?_;have m:=x.go B (x.env.mono B);obtain⟨b,rfl⟩:=vo q o;obtain⟨D,L,y,u,R⟩:=m.own j _ _ c t;refine⟨Ds[j],b,d,D,rfl,rfl,L,λz a=>⟨(y z a).1,Rep.mono (zo _ _) _ _ (y z a).2⟩,q.1,Rep.mono (zo _ _) _ _ o,by lia,λs=>n _ _ _ _ m (G ((u d).mp s)),λs l p=>n _ _ _ _ (m.put A c (c':=.set (d :: ks)) ⟨l,zy,λz a=>?_,λe=>?_,?_⟩) (F λz=>s ((u d).mpr z))⟩
 ·rcases Iv.mp (p.mem_iff.mp a) with rfl | a
  ·exact⟨q.1,o⟩
  ·exact y z a
 ·rw [(p.map (·.1)).mem_iff,IL,Iv,Iv,u e]
 ·rw [p.length_eq,IJ,IJ];lia
end
theorem DicO.ok {P:NY} {w:NX} {H:Hp} {h:Heap} {a:Ij} {xs:Ox} {o:Obj} {es:Array DictEntry} {ep:Nat} (S:DicObj w h a xs o es ep):ObjOk P w H h a (DicO w a xs) :=
 ⟨⟨o,es,ep,S⟩,⟨o,S.ob⟩,λc b ⟨o,es,ep,S⟩ k=>⟨o,es,ep,⟨k o S.ob,S.ex,S.da,S.el,S.nd,S.ns⟩⟩⟩
theorem lD {X:Cx} {b:N9} {a:St} {H:Hp} {s:NU} (I:Inv X b a H s):sysModules<s.heap.objs.size :=
 MW (by decide) (I.ok.mod.glob.keeps I.bk).lt
def tX (w:NX):TE:=λ_ H Q=>∀ p,H p=NW->Q (.ref p) (upd H p (DicO w p []))
theorem d7 {X:Cx} {w:NX} {pos:Pos} (b:X.w=w):PE X (.Dict [] [] pos) (tX w):=by
 subst b;intro d s c H Q I h;refine wpAny_Dict_empty ⟨.ref s.heap.objs.size,_,I.laid (a:=s.heap.objs.size) (t':=s.toks) (λ_ _ q=>Im _ q) (Iu _) (DicO.ok (xs:=[]) (o:={ cls:=.type "dict",data:=.dict #[] }) (es:=#[]) (ep:=0) ⟨IT _ rfl,⟨rfl,rfl,rfl⟩,rfl,rfl,JC,beq_eq_false_iff_ne.mpr (JM (IU (lD I)))⟩),rfl,h _ (I.hok.fresh (Iu _))⟩
abbrev cm (K:Ih) (H:Hp) (xs:Ox):Prop:=∀ z∈xs,ck z.1/\Rep K H z.1 (.ref z.2.1)
theorem gC {X:Cx} {g:N9} {c:St} {H:Hp} {s:NU} {a:Ij} {xs:Ox} (I:Inv X g c H s) (d:H a=NQ (DicO X.w a xs)) (ks:cm X.K H xs):s.heap.DictOfH (fq X.prog X.w) a xs/\(a == sysModules)=NV:=by
 obtain⟨⟨o,e,f,S⟩,_⟩:=I.hok a _ d;exact⟨⟨o,e,f,S.ob,S.ex,S.da,S.el,λx b=>vK I (ks x b).1 (ks x b).2,S.nd⟩,S.ns⟩
def cY (w:NX) (K:Ih):V->V->V->Hp->(Hp->Prop)->Prop:=λo i v H Q=>∃ a b d c,o=.ref a/\i=.ref b/\H a=NQ (DicO w a c)/\cm K H c/\ck d/\Rep K H d (.ref b)/\c.length<=1000/\∀ u,RelV v u->Q (upd H a (DicO w a (storedH c d b u)))
theorem CV {X:Cx} (T:X.A.units+64<JR):Cp X (cY X.w X.K):=by
 intro W s N H o i v R S u Q I r t p h;obtain⟨a,b,d,O,rfl,rfl,g,D,E,y,J,q⟩:=h;cases r;cases t;obtain⟨G,B⟩:=gC I g D;have F:X.A.in1.units=X.A.units+1:=rfl;refine wpAny_setItem_heap (by show _+40<JR;lia) (vK I E y) G (λU c n=>?_) (JL (z7 J));obtain⟨z,L,M,f,m,l,k,P,j⟩:=c;exact⟨_,I.write (t':=s.toks+yk d) (x:=a) (e:=a) (by rw [g];exact trivial) (.inl rfl) (λb u C e=>(n.2 b C).trans e) ⟨z,f⟩ (DicO.ok ⟨f,m,l,k,j,B⟩),q u p⟩
theorem aU {X:Cx} {K:Ih} {w:NX} (a:X.w=w) (c:X.K=K) (b:X.A.units+64<JR):Cp X (cY w K):=a▸c▸CV b
def d8 (w:NX) (K:Ih):R2:=λx y H Q=>∃ a b d c p v,x=.ref a/\y=.ref b/\H a=NQ (DicO w a c)/\cm K H c/\ck d/\Rep K H d (.ref b)/\atKey c d=NQ p/\RelV v p.2/\Q v H
theorem Fz {X:Cx} (E:X.A.units+64<JR):IxR X (d8 X.w X.K):=by
 intro c e F s B H x y v u Q I j i h o;obtain⟨a,b,d,C,p,z,rfl,rfl,t,l,m,k,r,g,q⟩:=h;cases j;cases i;obtain⟨f,D⟩:=gC I t l;have n:X.A.in1.units=X.A.units+1:=rfl;refine subscriptTail_builtinR (x:=p.2) f.typeIs Mz.lookup ?_ o;exact wpAny_getItem_heap (by show _+40<JR;lia) (vK I m k) f r ⟨rfl,z,H,I.tok _,g,q⟩
theorem qD {X:Cx} {K:Ih} {w:NX} (a:X.w=w) (c:X.K=K) (b:X.A.units+64<JR):IxR X (d8 w K):=a▸c▸Fz b
def rg (w:NX) (K:Ih) (neg:Bool):R2:=λx y H Q=>∃ a b d c,x=.ref b/\y=.ref a/\H a=NQ (DicO w a c)/\cm K H c/\ck d/\Rep K H d (.ref b)/\Q (.bl (if neg then !(atKey c d).isSome else (atKey c d).isSome)) H
noncomputable def dput (k v:NR) (kvs:Ow):Ow:=if k∈kvs.map (·.1) then kvs.map (λp=>if p.1=k then (p.1,v) else p) else kvs++[(k,v)]
noncomputable def jL (k:NR) (kvs:Ow):Option NR:=(kvs.find? λp=>decide (p.1=k)).map (·.2)
section
variable {K:Ih} {Hh:Hp}
theorem cZ:∀ {xs:Ox} {kvs:Ow},Paired (EntR K Hh) xs kvs->xs.length=kvs.length
 | _,_,.nil=>rfl
 | _,_,.cons _ t=>by rw [IJ,IJ,cZ t]
theorem yN:∀ {xs:Ox} {kvs:Ow},Paired (EntR K Hh) xs kvs->cm K Hh xs
 | _,_,.nil=>λz a=>nomatch a
 | _,_,.cons h t=>λz a=>by
  rcases Iv.mp a with rfl | a
  ·exact⟨h.2.1,h.2.2.1⟩
  ·exact yN t z a
theorem c7 (k:NR):∀ {xs:Ox} {kvs:Ow},Paired (EntR K Hh) xs kvs->(atKey xs k=NW/\jL k kvs=NW/\k∉kvs.map (·.1)) \/ ∃ p d v,atKey xs k=NQ p/\jL k kvs=NQ d/\Rep K Hh d v/\RelV v p.2/\k∈kvs.map (·.1)
 | _,_,.nil=>.inl ⟨rfl,rfl,λz=>nomatch z⟩
 | x :: xs,p :: kvs,.cons ⟨h1,h2,h3,v,h4,h5⟩ t=>by
  by_cases e:x.1=k
  ·refine .inr ⟨x.2,p.2,v,?_,?_,h4,h5,?_⟩
   ·unfold atKey;rw [Kk,NN e];rfl
   ·unfold jL;rw [Kk,NN (h1▸e)];rfl
   ·rw [IL];exact Iv.mpr (.inl (h1▸e).symm)
  ·have f:¬ p.1=k:=λz=>e (h1.trans z);have j:atKey (x :: xs) k=atKey xs k:=by unfold atKey;rw [Kk,NP e]
   have i:jL k (p :: kvs)=jL k kvs:=by unfold jL;rw [Kk,NP f]
   rw [j,i,IL];rcases c7 k t with⟨c,b,a⟩ | ⟨q,d,u,c,b,a,h,g⟩
   ·exact .inl ⟨c,b,λz=>(Iv.mp z).elim (λz=>f z.symm) a⟩
   ·exact .inr ⟨q,d,u,c,b,a,h,Ii _ g⟩
theorem tY (k:NR) {d:NR} {v:V} {u:NT} (b:Rep K Hh d v) (a:RelV v u):∀ {xs:Ox} {kvs:Ow},Paired (EntR K Hh) xs kvs->Paired (EntR K Hh) (xs.map (putAt k u)) (kvs.map λp=>if p.1=k then (p.1,d) else p)
 | _,_,.nil=>.nil
 | x :: xs,p :: kvs,.cons ⟨h1,h2,h3,w,h4,h5⟩ t=>by
  rw [IL,IL];refine .cons ?_ (tY k b a t);unfold putAt;by_cases e:x.1=k
  ·rw [NM e,NM (h1▸e)];exact⟨h1,h2,h3,v,b,a⟩
  ·rw [NL e,NL (λz=>e (h1.trans z))];exact⟨h1,h2,h3,w,h4,h5⟩
theorem tZ {x:NR×Ij×NT} {p:NR×NR} (h:EntR K Hh x p):∀ {xs:Ox} {kvs:Ow},Paired (EntR K Hh) xs kvs->Paired (EntR K Hh) (xs++[x]) (kvs++[p])
 | _,_,.nil=>.cons h .nil
 | _,_,.cons h' t=>.cons h' (tZ h t)
theorem lE {k d:NR} {b:Ij} {v:V} {u:NT} (h:ck k) (g:Rep K Hh k (.ref b)) (e:Rep K Hh d v) (c:RelV v u) {xs:Ox} {kvs:Ow} (t:Paired (EntR K Hh) xs kvs):Paired (EntR K Hh) (storedH xs k b u) (dput k d kvs):=by
 unfold storedH dput;rcases c7 k t with⟨a,j,f⟩ | ⟨q,m,l,a,j,f,n,i⟩
 ·rw [a,NL (by simp),NL f];exact tZ ⟨rfl,h,g,v,e,c⟩ t
 ·rw [a,NM (show (NQ q).isSome=NS from rfl),NM i];exact tY k e c t
end
section
variable {w:NX} {K:Ih} {f:Fx} {Ds:N8} {ρ:zu} {cs:List OC} {te tk:TE} {O:MEnds} {i j:Nat} {kvs:Ow}
theorem rh {P:OC->Prop} (p:P (.dic [])):gx w K f (tX w) ρ P:=λc H Q e q =>
 λa b=>q (.dic []) a _ (.of_same (yf b _) e.fd) b ⟨[],zy,.nil⟩ p
theorem nB (L:ρ[i]?=NQ (NQ (.own (f.M.length+j)))) (s:cs[j]?=NQ (.dic kvs)) (I:kvs.length<=1000)
  (h:PEd K (f.withs Ds) te ρ λv=>PEd K (f.withs Ds) tk ρ λk=>eY k/\O.nx ρ (cs.set j (.dic (dput k v kvs)))) :
  PSm w K f Ds (ve te (oQ (yB i) tk (cY w K))) ρ cs O:=λA m H U E x n r b k=>by
 have J:j<Ds.length:=by rw [<-x.len];exact (Ig.mp s).1
 have g:Ds[j]?=NQ Ds[j]:=Ia J;refine h m H _ x.env λv R Q t D G=>?_;have a:=x.go t (x.env.mono t);refine⟨_,jE L a g,?_⟩;refine G m Q _ a.env λp S T l d ⟨e,F⟩=>?_;have o:=a.go l (a.env.mono l);obtain⟨P,rfl⟩:=vo e d;obtain⟨y,N,c⟩:=o.own j _ _ g s;have B:=Rep.mono l.sm _ _ D;refine⟨Ds[j],P,p,y,rfl,rfl,N,λz q=>⟨(yN c z q).1,Rep.mono (zo _ _) _ _ (yN c z q).2⟩,e.1,Rep.mono (zo _ _) _ _ d,by rw [cZ c];exact I,λu C=>?_⟩;exact n _ _ _ _ (o.put A g (c':=.dic (dput p v kvs)) ⟨_,zy,lE e.1 d B C c⟩) F
theorem Ha {P:NR->Prop} (F:ρ[i]?=NQ (NQ (.own (f.M.length+j)))) (o:cs[j]?=NQ (.dic kvs)) (h:PEm w K f Ds tk ρ cs λk=>eY k/\∃ d,jL k kvs=NQ d/\P d):PEm w K f Ds (tOp (d8 w K) (yB i) tk) ρ cs P:=λC u H J Q x q=>by
 have E:j<Ds.length:=by rw [<-x.len];exact (Ig.mp o).1
 have r:Ds[j]?=NQ Ds[j]:=Ia E;refine⟨_,jE F x r,?_⟩;refine h C u H J _ x λk v L e l ⟨m,d,a,p⟩=>?_;have A:=x.go e (x.env.mono e);obtain⟨b,rfl⟩:=vo m l;obtain⟨y,G,c⟩:=A.own j _ _ r o;rcases c7 k c with⟨t,g,s⟩ | ⟨D,N,B,t,g,s,I,R⟩
 ·rw [g] at a;cases a
 ·rw [g] at a;cases a;exact⟨Ds[j],b,k,y,D,B,rfl,rfl,G,λz n=>⟨(yN c z n).1,Rep.mono (zo _ _) _ _ (yN c z n).2⟩,m.1,Rep.mono (zo _ _) _ _ l,t,I,q _ _ L e s p⟩
theorem AO (h:PEm w K f Ds te ρ cs O.rt):PSm w K f Ds (g9 te) ρ cs O:=λe a H l E x n r b k =>
 h e a H l _ x λd v m c g p=>r d v ρ cs a m (x.go c (x.env.mono c)) (Rep.mono yw d v g) p
end
noncomputable def CW (K:Ih) (ns:Oh) (v:NT):Bool:=match v with
 | .ref t=>(match K.lookup t with
  | some o=>o.cls == .type "tuple" && (match o.data with
   | .seq a _=>KTD.intsLook a.toList ns && decide (a.size<=1000)
   | _=>NV)
  | none=>NV)
 | _=>NV
noncomputable def wF (K:Ih) (a:Ij) (D:Oy):Bool:=!(a == sysModules) && (match K.lookup a with
 | some o=>o.cls == .type "dict" && o.dict.isNone && o.slots.isEmpty && (match o.data with
  | .dict b _=>KTD.rowsLook (CW K) b.toList D
  | _=>NV)
 | none=>NV)
theorem iQ:∀ {a:N6} {ns:Oh},IntsAre a ns->Vals (ns.map V.int) a
 | _,_,.nil=>.nil
 | _,_,.cons n t h=>.cons ⟨t,rfl⟩ (iQ h)
theorem FA {K:Ih} {ns:Oh} {v:NT} (h:CW K ns v=NS):∃ t,v=.ref t/\∀ H,SqT K H t (ns.map V.int):=by
 unfold CW at h;split at h
 ·rename_i t;split at h
  ·rename_i o c;rw [Io] at h;obtain⟨e,a⟩:=h;split at a
   ·rename_i b n d;rw [Io] at a;exact⟨t,rfl,λH=>.inr ⟨o,b,n,c,beq_iff_eq.mp e,d,JL (z7 (N4 a.2)),iQ (KTD.ints_of_look a.1)⟩⟩
   ·cases a
  ·cases h
 ·cases h
def Hb (K:Ih) (D:Oy) (tk:TE):TE:=λb H Q=>tk b H λy c=>∃ x a,y=.str x/\Nl x D=NQ a/\∀ t,(∀ d,SqT K d t (a.map V.int))->Q (.ref t) c
theorem AQ {X:Cx} {K:Ih} {x:Str} {a:Ij} {D:Oy} {f:Expr} {tk:TE} {p pos:Pos} (Z:X.K=K) (hg:Gl X x) (R:X.mg x=NQ (.ref a)) (c:wF K a D=NS) (S:PE X f tk) (N:fh f) (Y:(x == ("__debug__":Str))=NV:=by decide) :
  PE X (.Subscript (.Name x p) f pos) (Hb K D tk):=by
 subst Z;intro NJ s J H Q I h;unfold wF at c;rw [Io] at c;obtain⟨h0,c⟩:=c;split at c
 case h_2=>cases c
 case h_1 o ho =>
  simp only [Io] at c;obtain⟨⟨⟨e1,e2⟩,e3⟩,B⟩:=c;split at B
  case h_2=>cases B
  case h_1 es ep hdat =>
   have F:KTD.Rows (λE v=>CW X.K E v=NS) es.toList D:=KTD.rows_of_look (λ_ _ z=>z) B;refine Subscript_ (v7 I hg R ?_ Y);refine thn (S NJ s J H _ I h) λu d ⟨y,H1,G,M,z,E,ey,C,q⟩=>?_;subst ey;obtain⟨r,rfl⟩:=M;have g:d.heap.get? a=NQ o:=G.kIn a o ho;have b:d.TypeIs (.ref a) "dict":=⟨o,g,beq_iff_eq.mp e1⟩;obtain⟨v,n,O⟩:=F.find_some C;obtain⟨t,rfl,L⟩:=FA O;refine subscriptTail_builtinR (x:=.ref t) b Mz.lookup ?_ (N _ _);unfold getItem
   try with_reducible refine Ji ?_
   apply Ic;refine wpAny_sequenceKey b (by decide) ?_;apply Ic;refine wpAny_callSpecial?_slot (name:=Ko "__getitem__") b slot_dict_getitem (wpAny_call_entry slot_dict_getitem b entry_dict_getitem ?_ (args_dict_getitem _ _));show IK _ _ (dictGet a (.str z r) >>= _) _ _ d;apply Ic;unfold dictGet
   try with_reducible refine Ji ?_
   apply Ic;apply wpAny_pyHash_str;apply Ic;refine KTD.kt_dictFind_strs (s:={ d with toks:=d.toks+1 }) g hdat (by obtain⟨l⟩:=es;simpa using F.exact) ?_;cases hi:es.findIdx? λe=>e.key.isStr z with
   | none =>
    exfalso;have P:es.toList.find? (λe=>e.key.isStr z)=NW:=by
     rw [Ms];intro e W;have:=Array.findIdx?_eq_none_iff.mp hi e (Ma.mp W);simpa using this
    rw [P] at n;cases n
   | some i =>
    obtain⟨m,A,w⟩:=Array.findIdx?_eq_some_iff_getElem.mp hi;have k:es[i].val=.ref t:=by
     have U:es.toList.find? (λe=>e.key.isStr z)=NQ es[i]:=by
      rw [List.find?_eq_some_iff_getElem];refine⟨A,i,by simpa using m,by simp,λj T=>?_⟩;have:=w j T;simpa using this
     rw [U] at n;exact N1 n
    apply Ic;refine wpAny_dictEntries (s:={ d with toks:=d.toks+1 }) g hdat (Ip ?_);rw [JT m];refine Ip ⟨es[i].val,rfl,Ip ?_⟩;rw [k];exact⟨rfl,.ref t,H1,G.tok _,rfl,q t L⟩
section
variable {K:Ih} {f:Fx} {ρ:zu} {P:NR->Prop} {tk:TE} {D:Oy}
theorem Er (h:PEd K f tk ρ λy=>∃ x ns,y=.str x/\Nl x D=NQ ns/\P (.tuple (ns.map .int))):PEd K f (Hb K D tk) ρ P:=λa H Q e q =>
 h a H _ e λy v j g c ⟨x,ns,i,d,p⟩=>by
  subst i;exact⟨x,ns,kI.mp c,d,λt b=>q _ _ j g (zZ.mpr ⟨t,ns.map V.int,rfl,b _,Reps.ints' ns⟩) p⟩
end
structure MinAt (h0:Heap) (its:N6) (ds:Oo) (as:N8):Prop where
 ra:ReadsAll h0 its ds as
 pl:∀ d∈ds,zD d=NS
 cp:∀ d∈ds,∀ e∈ds,vI d e=NS
 dp:∀ d∈ds,d.depth<=50
section
variable {w:NX} {K:Ih} {f:Fx} {Ds:N8} {ρ:zu} {cs:List OC} {O:MEnds} {tt:TT} {te:TE} {i j n:Nat}
theorem wG {H k u:Hp} {s:St} (l:Sep f Ds) (x:CM w K f Ds u ρ cs s H) (g:Goes f H k):Goes (f.withs Ds) H k:=by
 have q:∀ D∈Ds,k D=H D:=λD c=>by
  obtain⟨o,r⟩:=x.env.fd.mm D (jQ c);have d:hide H f D=NQ o:=zG (λz=>z.elim (l.nf D c) (l.nm D c)) r;rw [r,(zW (g.sm D o d)).2]
 refine⟨λb o a=>?_,⟨λp e=>?_,λb a=>?_,x.env.fd.nm⟩,λb a=>?_⟩
 ·obtain⟨m,t⟩:=zW a;have d:hide H f b=NQ o:=zG (λz=>m (z.elim .inl λz=>.inr (IF _ z))) t;exact zG m (zW (g.sm b o d)).2
 ·exact g.2.fd p e
 ·rcases Iz.mp a with h | h
  ·rw [q b (J5.mp h)];exact x.env.fd.mm b a
  ·exact g.2.mm b h
 ·rcases Iz.mp a with h | h
  ·exact q b (J5.mp h)
  ·exact g.kp b h
theorem t5 {B:Bool->Prop} (h:PTd K f tt (ρ.map (freed f.M.length cs)) B):PTm w K f Ds tt ρ cs B:=λa c H e Q x q =>
 h c H Q (x.free a) λb d g p=>q b d (wG a x g) p
end
structure TM (K:Ih) (f:Fx) (a:Ij) (as:N8) (H2:Hp) (ρ:zu) (NI:Ot) (σ:St) (H:Hp):Prop where
 env:EnvOk K (f.withs (a :: as)) ρ σ H
 sm:Same (hide H2 (f.withs (a :: as))) (hide H (f.withs (a :: as)))
 kp:∀ b∈f.M,H b=H2 b
 tab:TabAt H a as NI
def PSt (K:Ih) (f:Fx) (a:Ij) (e:N8) (ts:TS) (j:zu) (NI:Ot) (O:zu->Ot->Prop):Prop:=Sep f (a :: e)->∀ (g:St) (H h:Hp) (E:Ends),TM K f a e h j NI g H ->
 (∀ d b c i,TM K f a e h d b c i->O d b->E.nx c i)->ts E g H
section
variable {K:Ih} {f:Fx} {a:Ij} {as:N8} {ρ ρ2:zu} {NI:Ot} {O:zu->Ot->Prop} {ts tu:TS} {te ty tx:TE} {i:Nat} {σ σ2:St} {H H' H2:Hp}
theorem TabAt.keep (t:TabAt H a as NI) (h:∀ b∈a :: as,H' b=H b):TabAt H' a as NI :=
 ⟨(h a (Ik ..)).trans t.top,t.nd,t.len,λi x r c d=>(h x (Ii _ (Ir c))).trans (t.row i x r c d)⟩
theorem TM.go (x:TM K f a as H2 ρ NI σ H) (g:Goes (f.withs (a :: as)) H H') (d:EnvOk K (f.withs (a :: as)) ρ2 σ2 H'):TM K f a as H2 ρ2 NI σ2 H' :=
 ⟨d,x.sm.trans g.sm,λb c=>(g.kp b (IF _ c)).trans (x.kp b c),x.tab.keep λb c=>g.kp b (jQ c)⟩
theorem t6 (h:PSd K (f.withs (a :: as)) ts ρ { nx:=λb=>O b NI,rt:=λ_=>False }):PSt K f a as ts ρ NI O:=λg σ H H2 E x n =>
 h σ H E x.env (λb c H' d e p=>n b NI c H' (x.go d e) p) (λ_ _ _ _ _ z=>z.elim) (λ_ _ _ _ _ z=>z.elim) (λ_ _ _ _ _ z=>z.elim)
theorem rj (h:PSt K f a as ts ρ NI λc b=>PSt K f a as tu c b O):PSt K f a as (jK ts tu) ρ NI O:=λe σ H H2 E x n =>
 h e σ H H2 _ x λc b d H' g p=>p e d H' H2 E g n
theorem AR (W:ρ[i]?=NQ (NQ (.own f.M.length)))
  (h:PEd K (f.withs (a :: as)) te ρ λd=>∃ v:Int,d=.int v/\PEd K (f.withs (a :: as)) ty ρ λy=>∃ r:Nat,y=.int r/\∃ row,NI[r]?=NQ row/\PEd K (f.withs (a :: as)) tx ρ λx=>∃ c:Nat,x=.int c/\c<row.length/\O ρ (NI.set r (row.set c v))) :
  PSt K f a as (ve te (oQ (tOp (mI K) (yB i) ty) tx iD)) ρ NI O:=λD σ H H2 E x n =>
 h σ H _ x.env λd v H1 L Q ⟨vi,ed,k⟩=>by
  subst ed;rw [zw.mp Q];have w:=x.go L (x.env.mono L);have T:σ[i]?=NQ (NQ (.ref a)):=by
   obtain⟨v',a1,p,a2,rfl⟩:=w.env.get i _ W;have e:((a :: as).reverse++f.M).reverse[f.M.length]?=NQ a:=by
    rw [Ks,Lf,IC (by simp)];simp
   have t:((a :: as).reverse++f.M).reverse[f.M.length]?=NQ p:=a2;rw [e] at t;cases t;exact a1
  refine⟨.ref a,T,k σ H1 _ w.env λy u H3 J P ⟨r,ey,row,B,Y⟩=>?_⟩;subst ey;rw [zw.mp P];have l:=w.go J (w.env.mono J);have m:r<as.length:=by rw [l.tab.len];exact (Ig.mp B).1
  have s:as[r]?=NQ as[r]:=Ia m;have o:=Ir s;refine⟨a,as.map .ref,(r:Int),.ref as[r],rfl,rfl,.of l.tab.top,fg (by rw [Iq,s];rfl),?_⟩;refine Y σ H3 _ l.env λz u' H5 I N ⟨c,Z,X,U⟩=>?_;subst Z;rw [zw.mp N];have g:=l.go I (l.env.mono I);refine⟨as[r],row.map .int,(c:Int),c,rfl,rfl,g.tab.row r _ row s B,E8 rfl (by rw [Ib];exact X),?_⟩;have C:as[r]∈a :: as:=Ii _ o;have F:=Jp.mp g.tab.nd;have R:a≠as[r]:=λz=>F.1 (z▸o);refine n ρ _ σ _ ⟨tV D C g.env,by rw [yE C];exact g.sm,λb G=>(zx (λ(z:b=as[r])=>D.nm _ C (z▸G))).trans (g.kp b G),⟨(zx R).trans g.tab.top,g.tab.nd,by rw [JX];exact g.tab.len,λj y q A k=>?_⟩⟩ U;by_cases e:r=j
  ·subst e;rw [s] at A;cases A;rw [Jj (Ig.mp B).1] at k;cases k;rw [zy,List.map_set]
  ·rw [JN e] at k;have S:y≠as[r]:=λz=>by
    subst z;exact e ((MG m F.2).mp (s.trans A.symm))
   exact (zx S).trans (g.tab.row j y q A k)
theorem wH {Ds:N8} (g:Same (hide H f) (hide H' f)) (e:∀ D∈Ds,H D=NW):Same (hide H f) (hide H' (f.withs Ds)):=λb o d=>by
 have c:=g b o d;refine zG (λz=>?_) (zW c).2;rcases z with z | z
 ·exact (zW c).1 (.inl z)
 ·rcases Iz.mp z with z | z
  ·have:=(zW d).2;rw [e b (J5.mp z)] at this;cases this
  ·exact (zW c).1 (.inr z)
theorem Hc {Dn:DEnds} (h:GZ K f te ρ λNI=>i<ρ.length/\∀ a as,PSt K f a as ts (ρ.set i (NQ (.own f.M.length))) NI λm l=>m[i]?=NQ (NQ (.own f.M.length))/\PSd K f tu ((m.map (cO f.M.length)).set i (NQ (.dat (.list (l.map λr=>.list (r.map .int)))))) Dn) :
  PSd K f (jK (ve te (yW i)) (jK ts tu)) ρ Dn:=λσ H E e n r b k =>
 h σ H _ e λNI a as P S na Z Q ⟨hi,p⟩=>by
  have hn:∀ D∈a :: as,H D=NW:=λD A=>by
   rcases Iv.mp A with rfl | h
   ·exact na
   ·exact Z D h
  have R:∀ D∈a :: as,¬ (f.f=NQ D \/ D∈f.M):=λD A=>fresh_ne e.fd (hn D A);have se:Sep f (a :: as):=⟨Q.nd,λD A z=>R D A (.inl z),λD A z=>R D A (.inr z)⟩;have t:=wH (Ds:=a :: as) S.sm hn;have G:∀ D∈a :: as,∃ o,P D=NQ o:=λD A=>by
   rcases Iv.mp A with rfl | h
   ·exact⟨_,Q.top⟩
   ·obtain⟨j,hj⟩:=Jc h;have hl:=(Ig.mp hj).1;exact⟨_,Q.row j D _ hj (Ia (by rw [<-Q.len];exact hl))⟩
  have fo1:FOk (f.withs (a :: as)) P:=⟨S.ok.fd,λb N=>by
   rcases Iz.mp N with h | h
   ·exact G b (J5.mp h)
   ·exact S.ok.mm b h,λq U hq=>by
   rcases Iz.mp hq with h | h
   ·exact R q (J5.mp h) (.inl U)
   ·exact S.ok.nm q U h⟩
  have u:(f.withs (a :: as)).M.reverse=f.M.reverse++a :: as:=by
   show ((a :: as).reverse++f.M).reverse=_;rw [Ks,Lf]
  have e1:EnvOk K (f.withs (a :: as)) ρ σ P:=⟨e.len,λq y hy=>by
   obtain⟨v,F,g⟩:=e.get q y hy;refine⟨v,F,?_⟩;cases y with
   | dat d=>exact Rep.mono t d v g
   | feed=>exact g
   | exc C =>
    obtain⟨b,B,I⟩:=g;exact⟨b,B,t _ _ I⟩
   | mon φ=>exact λH' s=>g H' (t.trans s)
   | own k =>
    obtain⟨b,B,I⟩:=g;refine⟨b,?_,I⟩;rw [u,Iy (Ig.mp B).1];exact B,fo1⟩
  have rv:RepV K (f.withs (a :: as)) P (.own f.M.length) (.ref a):=⟨a,by
   rw [u,IC (by simp)]
   simp,rfl⟩
  refine p a as se _ P P _ ⟨e1.set i rv,Same.refl _,λ_ _=>rfl,Q⟩ λm l Y H' x ⟨ho,hu⟩=>?_;have T:FOk f H':=⟨x.env.fd.fd,λb N=>x.env.fd.mm b (IF _ N),λp e hp=>x.env.fd.nm p e (IF _ hp)⟩;have X:Goes f H H':=⟨(t.trans x.sm).trans yw,T,λb N=>(x.kp b N).trans (S.kp b N)⟩;refine hu Y H' E ⟨by rw [JX,Ib];exact x.env.len,λq z c=>?_,T⟩ (λρ2 σ2 L J=>n ρ2 σ2 L (X.trans J)) (λd v L J=>r d v L (X.trans J)) (λρ2 σ2 L J=>b ρ2 σ2 L (X.trans J)) (λρ2 σ2 L J=>k ρ2 σ2 L (X.trans J));by_cases U:i=q
  ·subst U;rw [MF] at c;rw [NM rfl] at c;split at c
   ·cases c;obtain⟨v',F,b',g,rfl⟩:=x.env.get i _ ho;rw [u,IC (by simp)] at g;simp at g;subst g;exact⟨_,F,x.tab.rep (λz=>R a (Ik ..) z) λy hy=>R y (Ii _ hy)⟩
   ·cases c
  ·rw [JN U,Iq] at c;cases e0:m[q]? with
   | none=>rw [e0] at c;cases c
   | some W =>
    rw [e0] at c;cases W with
    | none=>cases c
    | some W =>
     obtain⟨v,F,g⟩:=x.env.get q W e0;cases W with
     | dat d =>
      cases c;exact⟨v,F,Rep.mono yw d v g⟩
     | feed =>
      cases c;exact⟨v,F,g⟩
     | exc C =>
      cases c;obtain⟨b,B,I⟩:=g;exact⟨v,F,b,B,yw _ _ I⟩
     | mon φ =>
      cases c;exact⟨v,F,λH' s=>g H' (yw.trans s)⟩
     | own k =>
      have w:(if k<f.M.length then NQ (DV.own k) else NW)=NQ z:=N1 c;by_cases hk:k<f.M.length
      ·rw [NM hk] at w;cases w;obtain⟨b,B,I⟩:=g;refine⟨v,F,b,?_,I⟩;rw [u,Iy (by simpa using hk)] at B;exact B
      ·rw [NL hk] at w;cases w
theorem lF {a b c d:TS} {O:DEnds} (h:PSd K f (jK a (jK (jK b c) d)) ρ O):PSd K f (jK a (jK b (jK c d))) ρ O:=h
end
section
variable {P:NY} {w:NX} {A:NZ} {E:NT->NU->Prop} {s:NU} {I d:Ij} {o:Obj} {es:Array DictEntry} {ep i:Nat}
theorem rp {Q:NT->NU->Prop} (b:(d == sysModules)=NV) (g:s.heap.get? d=NQ o) (x:o.ExactDict) (y:o.data=.dict es ep)
  (q:Q (.ref s.heap.objs.size) { s with heap:=s.heap.push { cls:=.type "dict_keyiterator",data:=.fields #[.ref d,.int 0 0,.int es.size 0,.int ep 0] } }):IK (model P w) A (pyIter (.ref d)) Q E s:=by
 have T:s.TypeIs (.ref d) "dict":=⟨o,g,x.1⟩;refine wpAny_pyIter_slot T MZ (wpAny_call_entry MZ T PySem.F.entry_dict_iter ?_ (PySem.F.args_dict_iter_1 _));unfold Builtin.«dict.__iter__» Builtin.Dict.dictSlotNone Builtin.Dict.showsAll;apply Ic;apply Ic;apply wpAny_notOrdered_dict T;apply Ip;apply Ic;refine Ip (a:=d) ?_;apply Ic;rw [NL (λz=>Ie (b.symm.trans z))];apply Ip;apply Ic;apply wpAny_dictEntries g y;apply Ic;apply wpAny_dictEpoch g y;apply Ic;refine wpAny_newObj_type ?_ (by size_fits);exact Ip ⟨_,rfl, "dict_keyiterator",_,⟨_,IT _ rfl,rfl⟩,KI.lookup,q⟩
theorem iR {Q:N7->NU->Prop} (p:A.handled=NW) (t:s.heap.IsKeyIter I d i es.size ep) (g:s.heap.get? d=NQ o) (y:o.data=.dict es ep)
  (l:∀ e h',es[i]?=NQ e->h'.IsKeyIter I d (i+1) es.size ep->KQ I s.heap h'->Q (NQ e.key) { s with heap:=h' })
  (k:es[i]?=NW->∀ h',Heap.ExtBut I s.heap h'->Q NW { s with heap:=h' }):IK (model P w) A (pyNext (.ref I)) Q E s:=by
 obtain⟨r,f,q,c⟩:=id t;have T:=t.typeIs;have h:Builtin.Dict_items.ownsTuple "dict_keyiterator"=NV:=by decide
 have n:¬ ((Value.ref d == Value.none)=NS):=Ie;have pos:¬ ((i:Int)<0):=by lia
 unfold pyNext;apply Ic;apply L6;refine wpAny_callSpecial?_slot (name:=Ko "__next__") T KI (wpAny_call_entry KI T PySem.F.entry_dict_keyiterator_next ?_ (PySem.F.args_dict_keyiterator_next_1 _));apply Ic;apply Ip;apply Ic;apply Ic;apply Ic;apply wpAny_typeNameOfWhole_keyiter T;apply Ip;apply Ic;apply wpAny_fieldsOf f c;simp only [h,Js,if_false];show IK _ _ (if (Value.ref d == Value.none)=NS then _ else _) _ _ s;rw [NL n];apply Ic;apply Ip;apply Ic;apply wpAny_dictEntries g y;rw [NL (by simp)];apply Ic;apply Ip;apply Ic;apply wpAny_dictEpoch g y;rw [NL (by simp)];apply Ip;cases hx:es[i]? with
 | some e =>
  simp only [pos,if_false,Ki,hx];apply Ic;apply Ic;apply wpAny_typeNameOfWhole_keyiter T;apply Ip;apply Ic;apply wpAny_isOneOf_keyiter T;apply Ic (m:=setField (.ref I) 1 (rawInt ((i:Int)+1)));refine Mw f c (by simp) ?_;have j:(s.heap.update I (L4 (·.setIfInBounds 1 (rawInt ((i:Int)+1))))).IsKeyIter I d (i+1) es.size ep:=by
   refine⟨_,Kl _ f (M8 (Mv c _)),?_,?_⟩
   ·rw [Obj.cls_mapFields];exact q
   ·rw [Mv c];simp [rawInt]
  apply Ic;apply Ji;apply Ic;refine wpAny_isOneOf_keyiter (s:={ s with heap:=s.heap.update I (L4 (·.setIfInBounds 1 (rawInt ((i:Int)+1)))) }) j.typeIs ?_;exact Ip (Ip ⟨_,rfl,Ip (l e _ hx j (KZ ..))⟩)
 | none =>
  simp only [pos,if_false,Ki,hx];apply Ic;apply Ic;apply wpAny_typeNameOfWhole_keyiter T;apply Ip;apply Ic (m:=setField (.ref I) 0 .none);refine Mw f c (by simp) ?_;apply Ic (m:=newExc (.type "StopIteration") []);simp only [newExc,newTuple];apply Ic;refine wpAny_newObj_type ?_ (by size_fits);apply Ic (m:=firstArgMember _ _);refine wpAny_of_eq (a:=Value.none) rfl ?_;refine wpAny_newObj_type ?_ (by size_fits);simp only [raiseNew];apply Ic;apply wpAny_handled;rw [show A.in1.handled=NW from p];refine Ic (Ip ?_);apply wpAny_throw;apply Ic;refine MT (T:="StopIteration") (b:=NS) ⟨_,IT _ rfl,rfl⟩ isSubtype_stop ?_;exact Ip (k hx _ (((KZ ..).extBut.push _).push _))
end
section
variable {P:NY} {w:NX} {A:NZ} {E:NT->NU->Prop} {s:NU} {d:Ij} {o:Obj} {es:Array DictEntry} {ep:Nat}
theorem wI (m:A.handled=NW) (I:Ij) (p:d≠I) (y:o.data=.dict es ep) :
  Walks P w A I [I,d] [I] es.size (λi v=>∃ e,es[i]?=NQ e/\v=e.key) (λi h=>h.IsKeyIter I d i es.size ep/\h.get? d=NQ o) where
 sub:=λb a=>by rw [Iw.mp a];exact Ik ..
 frame:=λi h c ⟨t,g⟩ k=>⟨t.at (k I (Ik ..)),k d (Ii _ (Ik ..)) o g⟩
 item:=λi s Q E r ⟨t,g⟩ q=>iR m t g y (λe c f n l=>q e.key c s.toks ⟨e,f,rfl⟩ ⟨n,(l.2 d p).trans g⟩ λb u a j=>(l.2 b λz=>a (by rw [z];exact Ik ..)).trans j) λz=>by
  rw [JT r] at z;cases z
 done:=λs Q E ⟨t,g⟩ q=>iR m t g y (λe c f=>by
  rw [Kx (Iu _)] at f;cases f) λ_ c x=>q c s.toks λb u a j=>x b u (λz=>a (by rw [z];exact Ik ..)) j
 self:=λi s Q E st q=>wpAny_pyIter_keyiter st.1 q
theorem nC (a:(d == sysModules)=NV) (x:o.ExactDict) (y:o.data=.dict es ep):PySem.W.KdlSrc P w "dict" d d es.size (λi v=>∃ e,es[i]?=NQ e/\v=e.key) (λh=>h.get? d=NQ o) where
 type:=λs g=>⟨o,g,x.1⟩
 there:=λh g=>⟨IA g,IA g⟩
 keep:=λh c g k=>k d (.inl rfl) o g
 notList:=rfl
 notTuple:=rfl
 hint:=λA E s Q g q=>PySem.W.kdl_hint_dict ⟨o,g,x.1⟩ q
 iter:=λA s b g=>⟨_,_,λE Q q=>rp a g x y q,wI b _ (IU (IA g)) y,⟨_,IT _ rfl,rfl,rfl⟩,Im _ g⟩
theorem eZ {f:N6} {C:SortKind} {lt:Nat->Nat->Bool} {Q:NT->NU->Prop} (N:A.handled=NW) (J:(d == sysModules)=NV) (g:s.heap.get? d=NQ o) (x:o.ExactDict) (y:o.data=.dict es ep) (B:f=es.toList.map (·.key)) (t:f.length<=Jr)
  (K:∀ tk,Asks P w A.in1.in1 { s with toks:=tk } C f lt)
  (q:∀ (h':Heap) tk D p c,Pm f.length p->Up lt p f.length->(∃ k:Heap,(∀ b u,s.heap.get? b=NQ u->k.get? b=NQ u)/\k.objs.size<=D)->(∀ b u,s.heap.get? b=NQ u->h'.get? b=NQ u)->h'.get? D=NQ (seqObj "list" (p.toList.map λi=>f.getD i Value.none).toArray c)->Q (.ref D) { s with heap:=h',toks:=tk }) :
  IK (model P w) A (call (.builtin "sorted") [.ref d]) Q E s:=by
 have M:es.size<=Jr:=by rw [B,Ib,IH] at t;exact t
 refine Mx kind_sorted plain_sorted entry_sorted (args_sorted1 _) ?_;unfold Builtin.«sorted»;apply Ic (m:=checkCount "sorted" 1 1 _);apply Ip;apply Ic;refine PySem.W.kdu_collect (A:=A.in1) (nC J x y) N g M λk tk r v j=>?_;have R:r.toList=f:=by
  rw [B];refine KR λi=>?_;rw [Iq,J9,J9];by_cases z:i<r.size
  ·obtain⟨e,O,L⟩:=j.2 i _ (JT z);rw [JT z,O,L];rfl
  ·rw [Kx (by lia),Kx (by rw [<-j.1];lia)];rfl
 rw [R]
 let h:=k.push (seqObj "list" f.toArray 0)
 have n:h.get? k.objs.size=NQ (seqObj "list" f.toArray 0):=IT _ rfl;have a:∀ b u,s.heap.get? b=NQ u->b≠k.objs.size/\h.get? b=NQ u:=λb u l =>
  ⟨IU (IA (v b u l)),Im _ (v b u l)⟩
 apply Ic;refine wpAny_newList ?_ t
 change IK _ _ _ _ _ { s with heap:=h,toks:=tk }
 apply Ic;apply Ji;refine wpAny_call_entry slot_list_sort ⟨_,n,rfl⟩ entry_list_sort ?_ (args_list_sort _);refine tE (s:={ s with heap:=h,toks:=tk }) t n (h0:=s.heap) a (K tk) λh' p c I H G F=>⟨_,rfl,Ip ⟨_,rfl,?_⟩⟩;exact q h' tk _ p c I H ⟨k,v,Iu _⟩ (λb u l=>G b u (a b u l).1 (a b u l).2) F
end
def rA (w:NX) (K:Ih):List V->Hp->VK->Prop:=λc H Q=>∃ (a:Ij) (b:Ox) (T:String),c=[.ref a]/\H a=NQ (DicO w a b)/\cm K H b/\SortOk T (b.map (·.1))/\b.length<64 /\
 ∀ l p,H l=NW->Pm b.length p->Up (λi j=>ltD ((b.map (·.1)).getD i .none) ((b.map (·.1)).getD j .none)) p b.length->Q (.ref l) (upd H l (.lst (pick .non p (b.map λx=>.ref x.2.1))))
theorem bu {K:Ih} {H:Hp}:∀ {es:Ox},cm K H es->Reps K H (es.map (·.1)) (es.map λx=>V.ref x.2.1)
 | [],_=>.nil'
 | x :: es,h=>.cons' (h x (Ik ..)).2 (bu λz a=>h z (Ii _ a))
theorem bw:∀ es:Ox,Vals (es.map λx=>V.ref x.2.1) (es.map λx=>Value.ref x.2.1)
 | []=>.nil
 | x :: es=>.cons rfl (bw es)
theorem rB {X:Cx} (N:X.calm=NS) (E:X.A.units+64<JR):yJ X (.builtin "sorted") (rA X.w X.K):=by
 intro NJ s U H W Y Q I r h;obtain⟨a,d,T,rfl,O,M,ok,t,q⟩:=h;obtain⟨u,rfl,J⟩:=vals1 r;cases J;obtain⟨⟨o,v,ep,S⟩,_⟩:=I.hok a _ O;obtain⟨as,L⟩:=jq I _ _ _ (bu M) (bw d);have e2:X.A.in1.in1.units=X.A.units+1+1:=rfl;have R:(d.map λx=>Value.ref x.2.1)=v.toList.map (·.key):=by
  rw [S.el,JB];rfl
 have z:(d.map λx=>Value.ref x.2.1).length=d.length:=Ib _;have l:(d.map (·.1)).length=d.length:=Ib _;refine eZ (I.ok.hd N) S.ns S.ob S.ex S.da R (by rw [z];exact JL (z7 (by lia))) (λj=>kX (s:={ s with toks:=j }) L ok (by lia) (.inl (by rw [l];exact t))) λh' j D p c i y g f G=>?_;rw [z] at i y;obtain⟨Z,C,B⟩:=g;have F:H D=NW:=(I.hok.kept C).fresh B;have g:∀ b u,s.heap.get? b=NQ u->b≠D:=λb u e=>IU (IW (IA (C b u e)) B);have lp:p.toList.length=d.length:=by rw [IH];exact i.size
 obtain⟨m,n,_⟩:=I.loc;refine⟨.ref D,upd H D (.lst (pick .non p (d.map λx=>.ref x.2.1))),I.laidL (t':=j) (λb u _ e=>f b u e) ?_ (λm n=>n.keeps f) g F ⟨by unfold pick;rw [Ib];exact JL (z7 (by lia)),_,c,dW (bw d) p,G⟩,rfl,q D p F i y⟩;obtain⟨k,P⟩:∃ k,s.heap.get? X.env.locals=NQ k:=let⟨u,_,_,E,_⟩:=n;⟨u,E⟩
 exact⟨k,f _ _ P⟩
theorem nE {X:Cx} {K:Ih} {w:NX} (c:X.calm=NS) (a:X.w=w) (d:X.K=K) (b:X.A.units+64<JR):yJ X (.builtin "sorted") (rA w K):=a▸d▸rB c b
def Es (w:NX) (K:Ih) (tk c:TE):TE:=λa H Q=>∀ p,H p=NW->tk a (upd H p (DicO w p [])) λd g=>c a g λb f=>cY w K (.ref p) d b f λe=>Q (.ref p) e
theorem nF {X:Cx} (p:X.A.units+64<JR):OpR X (JI .NotIn) (rg X.w X.K NS):=by
 intro r s n H x y v u Q I e c h;obtain⟨a,b,d,o,rfl,rfl,m,i,j,f,q⟩:=h;cases e;cases c;obtain⟨l,g⟩:=gC I m i;have k:X.A.in1.units=X.A.units+1:=rfl;exact wpAny_notIn_heap (by show _+40<JR;lia) (vK I j f) g l ⟨.bl _,H,I.tok _,rfl,q⟩
theorem lG {X:Cx} {K:Ih} {w:NX} (a:X.w=w) (c:X.K=K) (b:X.A.units+64<JR):OpR X (JI .NotIn) (rg w K NS):=a▸c▸nF b
theorem CY {X:Cx} {w:NX} {K:Ih} {pos:Pos} {k v:Expr} {tk j:TE} (P:X.w=w) (W:X.K=K) (hu:X.A.units+64<JR) (U:PE X k tk) (R:PE X v j):PE X (.Dict [NQ k] [v] pos) (Es w K tk j):=by
 subst P W;intro m s g H Q I h;refine wpAny_Dict_any rfl rfl (by simp) (IG rfl) ?_;have I0:=I.laid (a:=s.heap.objs.size) (t':=s.toks) (λ_ _ q=>Im _ q) (Iu _) (DicO.ok (xs:=[]) (o:={ cls:=.type "dict",data:=.dict #[] }) (es:=#[]) (ep:=0) ⟨IT _ rfl,⟨rfl,rfl,rfl⟩,rfl,rfl,JC,beq_eq_false_iff_ne.mpr (JM (IU (lD I)))⟩);refine pairTrees_cons_walk (thn (U m _ g _ _ I0 (h _ (I.hok.fresh (Iu _)))) λkv B ⟨kx,H1,I1,E,G⟩=>?_);refine thn (R m B g H1 _ I1 G) λvv z ⟨vx,H2,f,D,F⟩=>?_;refine pairTrees_nil_walk ?_;obtain⟨a,b,d,xs,ea,rfl,l,N,O,C,T,q⟩:=F;cases ea;cases E;obtain⟨S,L⟩:=gC f l N;unfold storeAll;rw [K7];refine Ic (Ic (wpAny_dictSet_heap (by show _+40<JR;lia) (vK f O C) S (λh' c y=>?_) (JL (z7 T))));refine Ip ?_;show IK _ _ (forIn [] _ _) _ _ _;rw [Le];refine Ip ?_;obtain⟨J,Y,Z,i,t,r,p,x5,n⟩:=c;exact⟨.ref _,_,f.write (t':=z.toks+yk d) (x:=s.heap.objs.size) (e:=s.heap.objs.size) (by rw [l];exact trivial) (.inl rfl) (λb u M e=>(y.2 b M).trans e) ⟨J,i⟩ (DicO.ok ⟨i,t,r,p,n,L⟩),rfl,q _ D⟩
section
variable {w:NX} {K:Ih} {f:Fx} {Ds:N8} {ρ:zu} {cs:List OC} {te tk tv:TE} {O:MEnds} {i j n:Nat} {kvs:Ow}
theorem Hd {es:Oo} {d:NR} (N:ρ[i]?=NQ (NQ (.own (f.M.length+j)))) (u:cs[j]?=NQ (.lst (es++[d]))) (h:O.nx (ρ.set n (NQ (.dat d))) (cs.set j (.lst es))):PSm w K f Ds (ve (GU K "list" GV (yB i)) (yW n)) ρ cs O:=λB P H Q E x I r b k=>by
 have L:j<Ds.length:=by rw [<-x.len];exact (Ig.mp u).1
 have l:Ds[j]?=NQ Ds[j]:=Ia L;obtain⟨c,y,D⟩:=x.own j _ _ l u;obtain⟨a,v,rfl,m,C⟩:∃ a v,c=a++[v]/\Reps K (hide H (f.withs Ds)) es a/\Rep K (hide H (f.withs Ds)) d v:=by
  have t:∀ (es:Oo) (c:List V),Reps K (hide H (f.withs Ds)) (es++[d]) c->∃ a v,c=a++[v]/\Reps K (hide H (f.withs Ds)) es a/\Rep K (hide H (f.withs Ds)) d v:=λes=>by
   induction es with
   | nil =>
    intro c q;obtain⟨v,a,rfl,s,p⟩:=zE.mp q;rw [zQ.mp p];exact⟨[],v,rfl,.nil',s⟩
   | cons e es ih =>
    intro c q;obtain⟨v,a,rfl,s,p⟩:=zE.mp q;obtain⟨A,z,rfl,G,F⟩:=ih a p;exact⟨v :: A,z,rfl,.cons' s G,F⟩
  exact t es c D
 refine⟨_,jE N x l,N2 ⟨rfl,_,.of y⟩,Ds[j],a++[v],v,rfl,rfl,y,by simp,?_⟩;rw [List.dropLast_concat];have g:=x.put B l (o:=.lst a) (c':=.lst es) ⟨a,zy,m⟩;have J:=Ir l;refine I _ _ _ _ ⟨g.env.set n (x:=.dat d) ?_,g.sm,g.kp,g.len,g.own⟩ h;show Rep K (hide (upd H Ds[j] (.lst a)) (f.withs Ds)) d v;rw [yE J];exact C
theorem CZ {neg:Bool} {B:Bool->Prop} (C:ρ[i]?=NQ (NQ (.own (f.M.length+j)))) (s:cs[j]?=NQ (.dic kvs)) (h:PEm w K f Ds te ρ cs λd=>eY d/\B (if neg then !decide (d∈kvs.map (·.1)) else decide (d∈kvs.map (·.1)))) :
  PTm w K f Ds (mG (tOp (rg w K neg) te (yB i))) ρ cs B:=λy u H E Q x q=>by
 have A:j<Ds.length:=by rw [<-x.len];exact (Ig.mp s).1
 have t:Ds[j]?=NQ Ds[j]:=Ia A;refine h y u H E _ x λd v F c m ⟨o,p⟩=>?_;have l:=x.go c (x.env.mono c);obtain⟨b,rfl⟩:=vo o m;obtain⟨k,D,a⟩:=l.own j _ _ t s;refine⟨_,jE C l t,Ds[j],b,d,k,rfl,rfl,D,λz r=>⟨(yN a z r).1,Rep.mono (zo _ _) _ _ (yN a z r).2⟩,o.1,Rep.mono (zo _ _) _ _ m,_,rfl,?_⟩;have:(atKey k d).isSome=decide (d∈kvs.map (·.1)):=by
  rcases c7 d a with⟨g,_,e⟩ | ⟨G,_,_,g,_,_,_,e⟩
  ·rw [g,NP e];rfl
  ·rw [g,NN e];rfl
 rw [this];exact q _ F c p
theorem C1 {P:OC->Prop} (h:∀ p,PEd K (f.with p) tk ρ λk=>eY k/\PEd K (f.with p) tv ρ λv=>P (.dic [(k,v)])):gx w K f (Es w K tk tv) ρ P:=λt H Q e q p r=>by
 have x:=fresh_ne e.fd r;have G:EnvOk K (f.with p) ρ t (upd H p (DicO w p [])):=kL e r;have top:(upd H p (DicO w p [])) p=NQ (DicO w p []):=zy;refine h p t _ _ G λk kx Y F C ⟨y,R⟩=>R t Y _ (G.mono F) λv Z m E L pv=>?_;obtain⟨b,rfl⟩:=vo y C;have a:=F.trans E;have A:m p=NQ (DicO w p []):=(a.kp p (Ik ..)).trans top;have B:=Rep.mono E.sm _ _ C;refine⟨p,b,k,[],rfl,rfl,A,(λz M=>nomatch M),y.1,Rep.mono (zo _ _) _ _ B,IV _,λu J=>?_⟩;have D:hide (upd m p (DicO w p (storedH [] k b u))) (f.with p)=hide m (f.with p):=yp;have S:FOk f (upd m p (DicO w p (storedH [] k b u))):=by
  have g:=a.ok;refine⟨λc s=>?_,λc d=>?_,λc s d=>g.nm c s (Ii _ d)⟩
  ·obtain⟨X,W,U,T⟩:=g.fd c s;exact⟨X,W,by rw [zx (λ(z:c=p)=>x (.inl (z▸s)))];exact U,T⟩
  ·obtain⟨o,N⟩:=g.mm c (Ii _ d);exact⟨o,by rw [zx (λ(z:c=p)=>x (.inr (z▸d)))];exact N⟩
 have I:Same (hide H f) (hide (upd m p (DicO w p (storedH [] k b u))) (f.with p)):=by
  rw [D];exact (jX r).trans a.sm
 refine q (.dic [(k,v)]) p _ ⟨I.trans y4,S,λc d=>?_⟩ r ⟨_,zy,?_⟩ pv
 ·have l:c≠p:=λz=>x (.inr (z▸d));rw [zx l,a.kp c (Ii _ d),zx l]
 ·rw [D];exact lE (xs:=[]) (kvs:=[]) y.1 B L J .nil
abbrev FC (K:Ih):List V->Hp->VK->Prop:=λb H Q=>∃ p a,b=[V.ref p]/\((SqL K H p a/\∀ l,H l=NW->Q (V.ref l) (upd H l (HO.tup a))) \/ (SqT K H p a/\Q (V.ref p) H))
theorem FE {P:NR->Prop} (T:String) (R:ρ[i]?=NQ (NQ (.own (f.M.length+j)))) (B:cs[j]?=NQ (.dic kvs)) (L:SortOk T (kvs.map (·.1))) (s:kvs.length<64) (h:∀ es,es.Perm (kvs.map (·.1))->(es.Pairwise λd e=>ltD d e=NS)->P (.tuple es)) :
  PEm w K f Ds (tCB (FC K) (yy (tCB (rA w K) (yy (yB i) qC)) qC)) ρ cs P:=λY X H H2 Q x q=>by
 have N:j<Ds.length:=by rw [<-x.len];exact (Ig.mp B).1
 have C:Ds[j]?=NQ Ds[j]:=Ia N;obtain⟨xs,U,r⟩:=x.own j _ _ C B;have E:xs.map (·.1)=kvs.map (·.1):=by
  have m:∀ {xs:Ox} {kvs:Ow},Paired (EntR K (hide H (f.withs Ds))) xs kvs->xs.map (·.1)=kvs.map (·.1):=λ{xs kvs} t=>by
   induction t with
   | nil=>rfl
   | cons a _ ih=>rw [IL,IL,ih,a.1]
  exact m r
 have W:=cZ r;have k:=yN r;refine⟨_,jE R x C,Ds[j],xs,T,rfl,U,λz y=>⟨(k z y).1,Rep.mono (zo _ _) _ _ (k z y).2⟩,by rw [E];exact L,by rw [W];exact s,λl p A u F=>?_⟩;have Z:=fresh_ne x.env.fd A;have g:Goes (f.withs Ds) H (upd H l (.lst (pick .non p (xs.map λz=>.ref z.2.1)))):=.of_same (yf A _) x.env.fd;refine⟨l,_,rfl,.inl ⟨.inl (.inl zy),λv c=>?_⟩⟩;have D:Goes (f.withs Ds) (upd H l (.lst (pick .non p (xs.map λz=>.ref z.2.1)))) (upd (upd H l (.lst (pick .non p (xs.map λz=>.ref z.2.1)))) v (.tup (pick .non p (xs.map λz=>.ref z.2.1)))):=.of_same (yf c _) g.ok;have G:Reps K (hide H (f.withs Ds)) (pick .none p (xs.map (·.1))) (pick .non p (xs.map λz=>.ref z.2.1)):=dX (bu k) p;have J:(pick .none p (xs.map (·.1))).Perm (xs.map (·.1)):=dY u (by rw [Ib]);have I:=kY (ds:=xs.map (·.1)) u (λa b o S=>F a b o S);refine q (.tuple (pick .none p (xs.map (·.1)))) _ _ (g.trans D) (zZ.mpr ⟨v,_,rfl,.of (zG (fresh_ne g.ok c) zy),Reps.mono (g.trans D).sm _ _ G⟩) (h _ ?_ I);rw [<-E];exact J
end
section
variable {K:Ih} {f:Fx} {ρ:zu} {ts tu:TS} {O:DEnds} {te:TE} {i:Nat}
theorem vR (J:zu->Prop) (h:PSd K f ts ρ { O with nx:=J }) (g:∀ a,J a->PSd K f tu a O):PSd K f (jK ts tu) ρ O :=
 yt λd H E e n r b k=>h d H E e (λa c m j l p=>n a c m j l (g a p)) r b k
theorem AS {w:NX} {Ds:N8} {e:List OC} {O:MEnds} (J:zu->List OC->Prop) (m:PSm w K f Ds ts ρ e { O with nx:=J }) (l:∀ a c,J a c->PSm w K f Ds tu a c O):PSm w K f Ds (jK ts tu) ρ e O :=
 vn λj g H o E x n r b k=>m j g H o E x (λa c d q h p=>n a c d q h (l a c p)) r b k
end
section
variable {K:Ih} {f:Fx} {ρ:zu} {wi:TI} {g:TG} {tt:TT} {own:Nat} {fr:Om} {tb:Ij->TB} {P:Oo->Prop}
theorem cq {y:Type} {A B:y->NR} (p:y->Bool) (xs:List y) (h:PId K f wi ρ λds=>ds=xs.map A/\xs.length<=1000 /\
   (∀ D x a es,x∈xs->OwnE own (frD fr ρ) a->es.length<1000->PGd K (f.with D) g (A x) a λl=>PTd K (f.with D) tt l λb=>b=p x/\if b=NS then PBd K f D (tb D) l es λw C=>OwnE own (frD fr ρ) w/\C=es++[B x] else OwnE own (frD fr ρ) l)/\P ((xs.filter p).map B)) :
  PEdO K f (qz wi own fr g tt tb) ρ P :=
 vH (h.imp λds ⟨X,hl,M,N⟩=>by
  subst X;refine⟨λi a es=>OwnE own (frD fr ρ) a/\es=((xs.take i).filter p).map B,⟨⟨KC own NW,by simp,rfl⟩,by simp⟩,λD i d a es n ⟨O,m⟩=>?_,λa es ⟨_,m⟩=>?_⟩
  ·rw [Iq] at n;cases eq:xs[i]? with
   | none=>rw [eq] at n;cases n
   | some x =>
    rw [eq] at n;cases n;have hi:i<xs.length:=(Ig.mp eq).1;have E:xs.take (i+1)=xs.take i++[x]:=by rw [JE,eq];rfl
    have R:es.length<1000:=by
     have:=Jq p (xs.take i);rw [Jt] at this;rw [m,Ib];lia
    intro G H v Q e r q;refine M D x a es (Ir eq) O R G H v Q e r λl t H2 U Y J=>q l t H2 U Y (J.imp λb j=>?_);obtain⟨F,j⟩:=j;cases b with
    | false =>
     rw [NL Ie] at j ⊢;refine⟨j,?_⟩;rw [E,JV,IM,Jx,<- F,NL Ie,m];simp
    | true =>
     rw [NM rfl] at j ⊢;intro T S s H3 H4 W c k;exact j T S s H3 H4 W c λu z o H5 Z ⟨L,I⟩=>k u z o H5 Z ⟨L,by rw [I,m,E,JV,IM,Jx,<- F,NM rfl];rfl⟩
  ·rw [m,Ib,Jk];exact N)
end
def rC (w:NX) (K:Ih):List V->Hp->VK->Prop:=λc H Q=>∃ (a:Ij) (b:Ox),c=[.ref a]/\H a=NQ (DicO w a b)/\b.length<=1000/\∀ l,H l=NW->Q (.ref l) (upd H l (.lst (b.map λx=>.ref x.2.1)))
theorem rD {X:Cx} (z:X.calm=NS):yJ X (.type "list") (rC X.w X.K):=by
 intro M s E H F G Q I r h;obtain⟨a,f,rfl,A,j,q⟩:=h;obtain⟨u,rfl,n⟩:=vals1 r;cases n;obtain⟨⟨o,d,L,S⟩,_⟩:=I.hok a _ A;have m:d.size=f.length:=by rw [<-IH,S.el,Ib]
 refine PySem.W.kdl_call (nC S.ns S.ex S.da) (I.ok.hd z) S.ob (by rw [m];exact JL (z7 j)) λJ l g c p B b=>?_;have C:g.toList=f.map λx=>Value.ref x.2.1:=by
  have D:(f.map λx=>Value.ref x.2.1)=d.toList.map (·.key):=by rw [S.el,JB];rfl
  rw [D];refine KR λi=>?_;rw [Iq,J9,J9];by_cases k:i<g.size
  ·obtain⟨e,y,t⟩:=b.2 i _ (JT k);rw [JT k,y,t];rfl
  ·rw [Kx (by lia),Kx (by rw [<-b.1];lia)];rfl
 have v:=I.hok.fresh (Iu s.heap.objs.size);refine⟨.ref _,_,I.laid (t':=l) (a:=s.heap.objs.size) (o:=.lst (f.map λx=>.ref x.2.1)) p (Iu _) ⟨by rw [Ib];exact JL (z7 j),_,c,bw f,?_⟩,rfl,q _ v⟩;rw [B,<- C]
theorem nG {X:Cx} {K:Ih} {w:NX} (b:X.calm=NS) (a:X.w=w) (c:X.K=K):yJ X (.type "list") (rC w K):=a▸c▸rD b
def qE (w:NX) (K:Ih) (kvs:Ow):Hp->V->Prop:=λc v=>∃ a b,v=.ref a/\c a=NQ (DicO w a b)/\Paired (EntR K c) b kvs
def PEv (K:Ih) (f:Fx) (d:TE) (c:zu) (P:DV->Prop):Prop:=∀ (b:St) (H:Hp) (Q:VK),EnvOk K f c b H->(∀ x v a,Goes f H a->RepV K f a x v->P x->Q v a)->d b H Q
def spV {g:Type} (K:Ih) (n:Nat) (d:g->List DV->Prop) (a:g->DV->Prop):Sp:=λh H Q _=>∃ f b c,RepVs K f H b h/\b.length=n/\FOk f H/\d c b/\∀ r v e,Goes f H e->RepV K f e r v->a c r->Q v e
def PSv (K:Ih) (f:Fx) (ts:TS) (c:zu) (R:DV->Prop):Prop:=∀ (b:St) (H:Hp) (E:Ends),EnvOk K f c b H->(∀ x v a,Goes f H a->RepV K f a x v->R x->E.rt v a)->ts E b H
def C2 (w:NX) (K:Ih) (f:Fx) (Ds:N8) (ts:TS) (i:zu) (k:List OC) (j:Nat) (R:OC->Prop):Prop:=Sep f Ds->∀ (e:St) (H g:Hp) (E:Ends),CM w K f Ds g i k e H ->
 (∀ D c d a b h,CM w K f Ds g d a b h->Ds[j]?=NQ D->a[j]?=NQ c->R c->E.rt (.ref D) h)->ts E e H
section
variable {w:NX} {K:Ih} {f:Fx} {ρ:zu} {Ds:N8} {cs:List OC} {te ta tk:TE} {ts tu:TS} {t:TA} {O:DEnds} {i j:Nat} {R:OC->Prop}
theorem v_var {P:DV->Prop} {x:DV} (h:ρ[i]?=NQ (NQ x)) (p:P x):PEv K f (yB i) ρ P:=λc H Q e q=>by
 obtain⟨v,b,a⟩:=e.get i x h;exact⟨v,b,q x v H (.refl e.fd) a p⟩
theorem rE {P:DV->Prop} {d:Type} {n:Nat} {b:d->List DV->Prop} {a:d->DV->Prop} {E:XK} (c:d) (h:PAd K f t ρ λxs=>xs.length=n/\b c xs/\∀ r,a c r->P r):PEv K f (bP (spV K n b a) [] E t) ρ P:=λl H Q e q =>
 h l H _ e λxs z A g m ⟨u,s,k⟩=>⟨f,xs,c,by rw [Jo];exact m,u,g.2,s,λr v y x o p=>q r v y (g.trans x) o (k r p)⟩
theorem rF (h:PEv K f te ρ λx=>O.nx (ρ.set i (NQ x))):PSd K f (ve te (yW i)) ρ O:=λc H E e n r b k =>
 h c H _ e λx v g a d p=>n _ _ g a ((e.mono a).set i (x:=x) d) p
theorem iS {R:List DV->Prop} {u:TA} (h:PEv K f te ρ λx=>PAd K f u ρ λxs=>R (x :: xs)):PAd K f (yy te u) ρ R:=λa H Q e q =>
 h a H _ e λx v n c k p=>p a n _ (e.mono c) λxs d m b g l=>q (x :: xs) (v :: d) m (c.trans b) (.cons (RepV.mono b k) g) l
theorem eN {P:NR->Prop} (h:PEv K f ta ρ λx=>∃ kvs,x=.mon (qE w K kvs)/\PEd K f tk ρ λk=>eY k/\∃ d,jL k kvs=NQ d/\P d):PEd K f (tOp (d8 w K) ta tk) ρ P:=λm H Q e q =>
 h m H _ e λx v M A C ⟨kvs,G,F⟩=>F m M _ (e.mono A) λk N l y o ⟨r,d,u,p⟩=>by
  subst G;obtain⟨b,rfl⟩:=vo r o;obtain⟨a,B,rfl,E,g⟩:=(RepV.mono y C:RepV K f l (.mon (qE w K kvs)) v) (hide l f) (Same.refl _);rcases c7 k g with⟨_,c,_⟩ | ⟨D,S,n,L,c,J,I,_⟩
  ·rw [u] at c;cases c
  ·rw [u] at c;cases c;exact⟨a,b,k,B,D,n,rfl,rfl,(zW E).2,λz s=>⟨(yN g z s).1,Rep.mono (zo _ _) _ _ (yN g z s).2⟩,r.1,Rep.mono (zo _ _) _ _ o,L,I,q d n l (A.trans y) J p⟩
theorem Et {R:DV->Prop} (h:PSd K f ts ρ { nx:=λa=>PSv K f tu a R,rt:=λ_=>False }):PSv K f (jK ts tu) ρ R:=λc H E e q =>
 h c H _ e (λa b m g k p=>p b m E k λx v l d=>q x v l (g.trans d)) (λ_ _ _ _ _ z=>z.elim) (λ_ _ _ _ _ z=>z.elim) (λ_ _ _ _ _ z=>z.elim)
theorem FF (h:PSm w K f Ds ts ρ cs { nx:=λa b=>C2 w K f Ds tu a b j R,rt:=λ_=>False }):C2 w K f Ds (jK ts tu) ρ cs j R:=λd g H e E x q =>
 h d g H e _ x (λa b c l k p=>p d c l e E k q) (λ_ _ _ _ _ _ _ _ z=>z.elim) (λ_ _ _ _ _ z=>z.elim) (λ_ _ _ _ _ z=>z.elim)
theorem FG {c:OC} (g:ρ[i]?=NQ (NQ (.own (f.M.length+j)))) (a:cs[j]?=NQ c) (h:R c):C2 w K f Ds (g9 (yB i)) ρ cs j R:=λk d H l E x q=>by
 have e:j<Ds.length:=by rw [<-x.len];exact (Ig.mp a).1
 have b:Ds[j]?=NQ Ds[j]:=Ia e;exact⟨_,jE g x b,q _ c ρ cs d H x b a h⟩
theorem FH {R:DV->Prop} (h:gx w K f te ρ λc=>i<ρ.length/\∀ D,C2 w K f [D] ts (ρ.set i (NQ (.own (f.M.length+0)))) [c] 0 λc=>∃ kvs,c=.dic kvs/\R (.mon (qE w K kvs))):PSv K f (jK (ve te (yW i)) ts) ρ R:=λd H E e q=>by
 have b:Sep f []:=⟨JC,(λ_ z=>nomatch z),(λ_ z=>nomatch z)⟩;have g:CM w K f [] H ρ [] d H:=⟨e,Same.refl _,λ_ _=>rfl,rfl,(λi D c z=>nomatch z)⟩;refine h d H _ e λc D l k a v ⟨x,p⟩=>?_;have u:=fresh_ne e.fd a;refine p D (b.more e.fd a) _ l l E (g.more k a v x) λP N n I m L y F C ⟨kvs,G,r⟩=>?_;cases F;subst G;have z:=g.less k a y;obtain⟨o,B,A⟩:=y.own 0 D _ rfl C;exact q (.mon (qE w K kvs)) _ L ⟨z.sm,z.env.fd,z.kp⟩ (λJ s=>⟨D,o,rfl,s D _ (zG u B),EntR.mono (yw.trans s) A⟩) r
end
theorem iT (k v:NR) (kvs:Ow):jL k (dput k v kvs)=NQ v:=by
 unfold dput jL;by_cases h:k∈kvs.map (·.1)
 ·rw [NM h]
  induction kvs with
  | nil=>cases h
  | cons p kvs ih =>
   rw [IL,Kk];by_cases e:p.1=k
   ·rw [NM e,NN (show p.1=k from e)];rfl
   ·rw [NL e,NP (show ¬ p.1=k from e)];rw [IL,Iv] at h;exact ih (h.resolve_left λz=>e z.symm)
 ·rw [NL h,List.find?_append,Ms.mpr,Option.none_or,Kk,NN rfl]
  ·rfl
  ·intro p a;have:p.1≠k:=λz=>h (ID.mpr ⟨p,a,z⟩);simpa using this
theorem cw {k a:NR} (v:NR) (b:a≠k) (kvs:Ow):jL a (dput k v kvs)=jL a kvs:=by
 unfold dput jL;split
 ·rename_i c;clear c
  congr 1
  induction kvs with
  | nil=>rfl
  | cons p kvs ih =>
   rw [IL,Kk,Kk];by_cases e:p.1=k
   ·rw [NM e,NP (show ¬ (p.1,v).1=a from λz=>b (z.symm.trans e))];exact ih
   ·rw [NL e];cases decide (p.1=a)
    ·exact ih
    ·rfl
 ·rw [List.find?_append,Kk,NP (show ¬ (k,v).1=a from λz=>b z.symm)];simp
section
variable {γ:Type} {P:NY} {w:NX} {K:Ih} {mg:Str->N7} {base:Heap} {k:Nat} {x:Str} {st:Stmt} {N:Oa} {ps:Oa} {n:Nat} {pre:γ->List DV->Prop} {post:γ->DV->Prop}
theorem Def.okV (F:Def K mg x st ps) (S:FnScope N ps (zi st)) (u:ps.length=n)
  (h:∀ (d:Ij) (b:NT) (A:NZ) (a:Ob) (s:NU) (H:Hp) (E:XK),Room k (A.deeper (envOfC x (zi st) s.heap.objs.size d b)) ->
   ∃ t,PSs (zV CX0 P w K mg base N x (zi st) d b A a s H E).nox (ym st) t/\∀ (f:Fx) (xs:List DV) (c:γ),xs.length=n->pre c xs->PSv K f t (jC N xs) (post c)) :
  FnIn P w K mg base (k+1) x ps (spV K n pre post):=by
 obtain⟨d,C,j,F2,G⟩:=F.ex;refine⟨d,C,j.ok S (λi H Q E h=>?_) (λb A a s H i Q E m l=>?_),G,j.kp,F2⟩
 ·obtain⟨f,xs,c,r,e,_⟩:=h;rw [r.length,e,u]
 ·obtain⟨f,xs,c,r,e,B,o,q⟩:=l;obtain⟨t,z,y⟩:=h d b A a s H E m;exact⟨t,z,y f xs c e o (start N i) H _ (y6 r B) λx v D g r p=>q x v D g r p⟩
end
end L2
end
section
namespace L2
open PySem PySem.Spec PyProof.Rows
open PySem.SeqAt
open PySem.AutoSeq1 (wpAny_loadPart')
def HW (A:NZ) (s:NU) (y x:NT) (b:Bool):Prop :=
 ∀ (a:NY) (w:NX) (E:NT->NU->Prop) (Q:NT->NU->Prop),Q (.bool b) s->IK (model a w) A (richCompare .GtE y x) Q E s
inductive Gex (A:NZ) (s:NU):N6->N6->Bool->Prop where
 | nn:Gex A s [] [] NS
 | eq {v w vs ws b}:EqAt A s v w NS->Gex A s vs ws b->Gex A s (v :: vs) (w :: ws) b
 | ge {v w vs ws b}:EqAt A s v w NV->HW A s v w b->vs.length=ws.length->Gex A s (v :: vs) (w :: ws) b
noncomputable def e7 (o:Obj):N7:=match o.data with
 | .fields a=>a[2]?
 | _=>NW
def KD (h h':Heap):Prop:=∀ b o,h.get? b=NQ o->∃ u,h'.get? b=NQ u/\u.dict=o.dict/\e7 u=e7 o
theorem KD.refl (h:Heap):KD h h:=λ_ o e=>⟨o,e,rfl,rfl⟩
theorem KD.trans {h i j:Heap} (a:KD h i) (b:KD i j):KD h j:=λc o e =>
 let⟨u,k,m,f⟩:=a c o e
 let⟨v,g,l,d⟩:=b c u k
 ⟨v,g,l.trans m,d.trans f⟩
theorem KD.push (h:Heap) (o:Obj):KD h (h.push o):=λ_ u e=>⟨u,Im _ e,rfl,rfl⟩
theorem KD.update (h:Heap) (a:Ij) (f:Obj->Obj) (k:∀ o,(f o).dict=o.dict/\(f o).isFreed=o.isFreed/\e7 (f o)=e7 o):KD h (h.update a f):=λb o e=>by
 by_cases q:a=b
 ·subst q;exact⟨f o,Kl f e (by rw [(k o).2.1];exact (Heap.get?_some_iff.mp e).2),(k o).1,(k o).2.2⟩
 ·exact⟨o,(IZ h f q).trans e,rfl,rfl⟩
def yO {b:Type} (t:Sem b):Prop:=∀ (M:Model) (Γ:PySem.Ctx) (Q:b->Pos->NU->Prop) (E:NT->Pos->NU->Prop) (p:Pos) (s:NU),
 Sem.wp M Γ t Q E p s->Sem.wp M Γ t (λa d c=>Q a d c/\KD s.heap c.heap) E p s
section
variable {α β:Type}
theorem lH (a:α):yO (pure a:Sem α):=λ_ _ _ _ _ s h=>⟨h,.refl _⟩
theorem FI (x:String):yO (unsupported x:Sem α):=λ_ _ _ _ _ _ h=>h
theorem t7 {m:Sem α} {f:α->Sem β} (a:yO m) (b:∀ x,yO (f x)):yO (m >>= f):=λM Γ Q E p s h=>by
 rw [Sem.wp_bind'] at h ⊢;refine NH M Γ m (λx d c z=>?_) (λ_ _ _ z=>z) p s (a M Γ _ E p s h);exact NH M Γ (f x) (λ_ _ _ y=>⟨y.1,z.2.trans y.2⟩) (λ_ _ _ y=>y) d c (b x M Γ Q E d c z.1)
theorem FJ {c:Prop} [Decidable c] {t u:Sem α} (a:yO t) (b:yO u):yO (if c then t else u):=by split <;> assumption
theorem C3 (a:Ij):yO (load a):=λ_ _ _ _ _ _ h=>let⟨o,e,q⟩:=h;⟨o,e,q,.refl _⟩
theorem AU:yO stack:=λ_ _ _ _ _ _ h=>⟨h,.refl _⟩
theorem AV (o:Obj):yO (alloc o):=λ_ _ _ _ _ _ h=>⟨h,.push _ _⟩
theorem wJ (a:Ij) (f:Obj->Obj) (k:∀ o,(f o).dict=o.dict/\(f o).isFreed=o.isFreed/\e7 (f o)=e7 o):yO (update a f):=λ_ _ _ _ _ _ h=>⟨h.1,h.2,.update _ _ _ k⟩
end
local macro_rules | `(tactic| walk_at "kd")=>`(tactic| with_reducible first
  | assumption
  | exact lH _
  | exact FI _
  | exact C3 _
  | exact kd_loadPart _ _
  | exact AU
  | exact AV _
  | exact kd_reg _
  | apply FJ
  | apply t7
  | intro _
  | split)
theorem gD (v:NT) (i:Nat):yO (field v i):=λ_ Γ Q E p s h=>by
 obtain⟨a,o,b,x,g,f,e,d,c⟩:=(wp_field_iff Γ v i Q E p s).mp h;exact (wp_field_iff Γ v i _ E p s).mpr ⟨a,o,b,x,g,f,e,d,c,.refl _⟩
theorem eO (v:NT) (i:Nat) (x:NT) (e:i≠2):yO (setField v i x):=λ_ Γ Q E p s h=>by
 obtain⟨a,o,b,l,k,j,g,f⟩:=(wp_setField_iff Γ v i x Q E p s).mp h;refine (wp_setField_iff Γ v i x _ E p s).mpr ⟨a,o,b,l,k,j,g,f,.update _ _ _ λu=>?_⟩;obtain⟨c,d,m,n⟩:=u;cases m <;> first | exact⟨rfl,rfl,rfl⟩ | exact⟨rfl,rfl,LR e⟩
theorem wK (env:Env) (l:Ob):yO (behindIsImport env l):=by
 unfold behindIsImport;have:=gD env.code 12
 repeat' walk_at "kd"
theorem wL:yO underTheClaimsCaller:=by
 unfold underTheClaimsCaller
 repeat' walk_at "kd"
theorem C4 (env:Env) (i:Bool) (l:Ob):yO (keptBack env i l):=by
 have:=wL;cases l <;> unfold keptBack <;> repeat' walk_at "kd"
theorem nH:∀ l:Ob,yO (readyFrames l)
 | []=>lH _
 | env :: l=>by
  have ih:=nH l;have f:=wK env l;have a:=λi=>C4 env i l;unfold readyFrames
  repeat' (first | walk_at "kd" | exact a _ | (refine wJ _ _ λ⟨c,d,b,e⟩=>?_;cases b <;> exact⟨rfl,rfl,rfl⟩))
theorem AW (env:Env):yO (PySem.frameOf env):=by
 unfold PySem.frameOf frameEnvs;have b:∀ l,yO (frameObject l):=λl=>by
  cases l with
  | nil=>exact lH _
  | cons a l =>
   have:=nH (a :: l);unfold frameObject
   repeat' walk_at "kd"
 repeat' (first | walk_at "kd" | exact b _)
theorem d9 (e:NT) (f:Oc):yO (setFlight e f):=by
 unfold setFlight
 repeat' (first | walk_at "kd" | exact gD _ _ | exact eO _ _ _ (by decide))
theorem AX (f:Ij) (b:Bool):yO (entryPlaceOf f b):=by
 unfold entryPlaceOf
 repeat' walk_at "kd"
theorem AY (a b c d e:NT) (l:N6):yO (Nt a b c d e l):=by
 unfold Nt newFields newObj newObjAsIs classHasDel
 repeat' walk_at "kd"
theorem t8 (e:NT) (env:Env):yO (noteFrame e env):=by
 unfold noteFrame
 repeat' (first | walk_at "kd" | exact gD _ _ | exact eO _ _ _ (by decide) | exact AW _ | exact AX _ _ | exact AY _ _ _ _ _ _)
theorem nI (env:Env) (e:NT):yO (leaving env e):=by
 unfold leaving;exact t7 (t8 _ _) λ_=>d9 _ _
theorem nJ {b:Type} {t:Sem b} {M:Model} {A:NZ} {Q c:b->NU->Prop} {E:NT->NU->Prop} {s:NU} (k:yO t) (h:IK M A t Q E s) (q:∀ a s',Q a s'->KD s.heap s'.heap->c a s'):IK M A t c E s:=λΓ p hΓ =>
 NH M Γ t (λa _ s' z=>q a s' z.1 z.2) (λ_ _ _ z=>z) p s (k M Γ _ _ p s (h Γ p hΓ))
def Dct (a:Ij) (o:Oc) (h:Heap):Prop:=∃ u,h.get? a=NQ u/\e7 u=NQ .none/\∀ b,o=NQ b->u.dict=NQ b
theorem Dct.kd {a:Ij} {o:Oc} {h h':Heap} (x:Dct a o h) (k:KD h h'):Dct a o h' :=
 let⟨u,q,f,d⟩:=x
 let⟨v,b,i,c⟩:=k a u q
 ⟨v,b,c.trans f,λg e=>i.trans (d g e)⟩
def CXf (P:NY) (w:NX):CXT:=λb H s E e c=>∃ a C o d,e=.ref a/\XLie P w b H s a C d c/\Dct a o c.heap/\E C o d
def Eu (a:Ij) (C:NT) (o:Oc) (h:Heap):Prop:=∃ t,h.get? a=NQ { cls:=C,dict:=o,data:=.fields #[.ref t,.none,.none,.none,.bool NV,.none] }
section
variable {X:Cx} {NJ:N9} {σ:St} {H H':Hp} {s s':NU} {a dx:Ij} {C:NT} {o:Oc}
theorem wM {E:NT->NU->Prop} (I:Inv X NJ σ H s) (c:X.stack=X.env :: X.outer) (f:X.env.frame=NQ X.env.locals) (e:X.ex=[]) (x:XLie X.prog X.w X.stack H s a C H' s') (d:Dct a o s'.heap) :
  IK (model X.prog X.w) X.A (leaving X.env (.ref a)) (λ_ b=>XLie X.prog X.w X.outer X.H₀ X.s₀ a C H' b/\Dct a o b.heap) E s' :=
 nJ (nI _ _) (Ak I c f e x) λ_ b y k=>⟨y,d.kd k⟩
end
theorem He {P:NY} {w:NX} {K:Ih} {i:Str->N7} {base:Heap} {N:Oa} {g:Str} {b:Scope} {f:Ij} {j:NT} {A:NZ} {c:Ob} {s:NU} {H:Hp} {E:XK} :
  Passes (CXf P w) (zV (CXf P w) P w K i base N g b f j A c s H E) E:=λr n t p e q I h=>by
 obtain⟨a,C,o,m,rfl,x,d,l⟩:=h;exact JD (wM (X:=zV (CXf P w) P w K i base N g b f j A c s H E) (E:=λ_ _=>False) I rfl rfl rfl x d) (λ_ k y=>⟨a,C,o,m,rfl,y.1,y.2,l⟩) λ_ _ z=>z.elim
end L2
end
section
namespace L2
open PySem PySem.Spec PyProof.Rows PySem.Builtin Builtin Builtin.ObjectAttr
noncomputable def AZ (K:Ih) (C f:Ij) (b:N6) (a:String):Bool :=
 match K.lookup C with
 | some ⟨c0,_,.cls cd,sl⟩=>c0 == .type "type" && cd.mro.head? == NQ (.ref C) && cd.hasDel == NV && cd.hasDict && PySem.W.tailIn K b cd.mro.tail && PySem.W.nsOkIn K cd.ns && Ja K cd.ns "__init__" == NQ (NQ (.ref f))
   && sl.toList.length == 6 && sl.toList[4]? == NQ (NQ (.builtin a))
 | _=>NV
structure XCls (h:Heap) (C f:Ij) (bmB:N6) (newId:String):Prop where
 ex:∃ nm q N bs bm sn sub ab col dd k0 k1 k2 k3 k5 mN,h.get? C=NQ (excClassObj nm q C N bs bm NS sn sub ab col dd k0 k1 k2 k3 k5 newId)/\h.Ns N mN/\mN "__init__"=NQ (.ref f)/\OwnTail h bmB bm
end L2
end
section
namespace L2
open PySem PySem.Spec PySem.W PyProof.Rows PySem.Calls PySem.Builtin Builtin Builtin.ObjectAttr
noncomputable abbrev bare (C:Ij) (o:Oc) (t:Ij):Obj:={ cls:=.ref C,dict:=o,data:=.fields #[.ref t,.none,.none,.none,.bool NV,.none] }
noncomputable abbrev bmV:N6:=[.type "ValueError",.type "Exception",.type "BaseException",.type "object"]
structure FldC (K:Ih) (C f D:Ij) (name:Str):Prop where
 wi:AZ K C f bmV "ValueError.__new__"=NS
 fn:PySem.W.typeIn K (.ref f)=NQ (.type "function")
 ob:MH K C (.type "object")=NQ NS
 sa:Kh K (.ref C) "__setattr__"=NQ (NQ (.builtin "object.__setattr__"))
 na:Kh K (.ref C) name=NQ NW
 rd:PySem.W.readsIn K D (.type "type")=NS
 sp:LA K (.ref D) "__getattribute__"=NQ (NQ (.builtin "type.__getattribute__"))
 kp:JW K (.ref C)=NS
 fi:PySem.W.findCls K (.ref D) (.type "type") "__init__"=NQ (.val (.builtin "ValueError.__init__"))
section
variable {X:Cx} {NJ:N9} {σ:St} {H H':Hp} {s s':NU} {h':Heap} {a b dx C D f:Ij} {o:HO} {t':Nat} {name:Str}
def FK (C:Ij) (name:Str):Sp:=λc H Q _=>∃ a y,c=[.ref a,y]/\H a=NQ (.ext (Eu a (.ref C) NW))/\∀ dx,H dx=NW->dx≠a->Q .non (upd (upd H dx (.xd [(name,y)])) a (.ext (Eu a (.ref C) (NQ dx))))
end
section
variable {X:Cx} {NJ:N9} {σ:St} {H H':Hp} {s s':NU} {C D f:Ij} {name:Str} {k:Nat} {fd:FuncData} {ps:Oa}
theorem A0 {P:NY} {w:NX} {K:Ih} {g:Str->N7} {base:Heap} {N:Oa} {c:Str} {b:Scope} {f:Ij} {i:NT} {A:NZ} {a:Ob} {s:NU} {H:Hp} {E:XK} :
  ∀ e s',IK (model P w) (zV (CXf P w) P w K g base N c b f i A a s H E).A (leaving (zV (CXf P w) P w K g base N c b f i A a s H E).env e) (λ_ d=>CXf P w a H s E e d) (λ_ _=>False) s' ->
   (zV (CXf P w) P w K g base N c b f i A a s H E).xe e s':=λe s' h=>JD h (λ_ _ y=>y) λ_ _ z=>z.elim
theorem Fun.okF {P:NY} {w:NX} {K:Ih} {j:Str->N7} {base:Heap} {x b:Str} {st:Stmt} {f:Ij} {fd:FuncData} {N ps:Oa} {k:Nat} {sp:Sp} (F:Fun K x b st f fd) (S:FnScope N ps (zi st)) (g:∀ d H Q E,sp d H Q E->d.length=ps.length)
  (e:∀ (c:NT) (A:NZ) (a:Ob) (s:NU) (H:Hp) (d:List V) (Q:VK) (E:XK),Room k (A.deeper (envOfC b (zi st) s.heap.objs.size f c))->sp d H Q E ->
   ∃ t,PSs (zV (CXf P w) P w K j base N b (zi st) f c A a s H E) (ym st) t/\t { nx:=λ_ H'=>Q .non H',rt:=Q } (start N d) H):FnOk P w K j base (CXf P w) (k+1) f fd ps sp:=by
 obtain⟨r,q,kV,o,p,v,c,u,l,rfl,m,i⟩:=F.ex;exact sS m i S g λA a s H d Q E n h=>e c A a s H d Q E n h
end
def ExcAt (a:Ij) (C:NT) (o:Oc) (h:Heap):Prop:=∃ u,h.get? a=NQ u/\u.cls=C/\e7 u=NQ .none/\∀ b,o=NQ b->u.dict=NQ b
section
variable {X:Cx} {NJ:N9} {σ:St} {H H1 H2:Hp} {s s1 s2:NU} {a C0:Ij} {C:NT} {o:Oc} {i j:Nat} {n hx:Str} {b0:Stmt} {suite:Oe} {hp hpos:Pos} {ts:TS} {D:Ends}
theorem Hf (I:Inv X NJ σ H1 s1) (x:XLie X.prog X.w X.stack H1 s1 a C H2 s2) (dc:Dct a o s2.heap) (Y:X.stack=X.env :: X.outer) (hf:X.env.frame=NQ X.env.locals) (hN:X.N.Nodup) (Z:X.N[j]?=NQ n) (T:X.env.scope.names.lookup n=NQ .local)
  (hg:Gl X hx) (hm:X.mg hx=NQ (.ref C0)) (hit:LL X.K C (.ref C0)=NQ NS) (hs:PSs (X.marked (.ref a)) (b0 :: suite) ts) (h:ts (kO D j) (σ.set j (NQ (.ref a))) (upd H2 a (.ext (ExcAt a C o))))
  (hd:(hx == ("__debug__":Str))=NV:=by decide) :
  IK (model X.prog X.w) X.A (noteFrame (.ref a) X.env) (λ_ t2=>IK (model X.prog X.w) X.A (setFlight (.ref a) NW) (λ_ t3 =>
   IK (model X.prog X.w) X.A (handleBy (.ref a) X.env [.ExceptHandler (NQ (.Name hx hp)) (NQ n) (b0 :: suite) hpos]) (SP X NJ D) X.xe t3) X.xe t2) X.xe s2:=by
 obtain⟨B,a0,fl,dom,trk⟩:=x.fly;have fl0:=fl;rw [Y] at fl0;refine nJ (t8 _ _) (wpAny_looks_onW (by rw [I.ok.frames,Y]) hf fl0 (Q:=λ_ s'=>∃ O,s'={ s2 with heap:=O }/\Heap.HeldW B (X.env :: X.outer) a C a0 X.env.locals O/\s2.heap.UpToSlots O) λO r l=>⟨O,rfl,r,l⟩) ?_;rintro _ _ ⟨O,rfl,r,l⟩ kd4;refine nJ (d9 _ _) (wpAny_landsW r (Q:=λ_ s'=>∃ y,s'={ s2 with heap:=y }/\MU B (X.env :: X.outer) a C a0 y/\O.UpToSlots y) λy d g=>⟨y,rfl,d,g⟩) ?_;rintro _ _ ⟨y,rfl,d,g⟩ kd5;have mv:∀ {hh:Heap},B.StaysIn hh->s2.heap.UpToSlots hh->Un (frs X.stack) [] H1 H2 s1.heap hh/\HOk X.prog X.w H2 hh:=λst up=>x.move fl dom trk st up;have I5:Inv X NJ σ H2 { s2 with heap:=y }:=I.call' (s':={ s2 with heap:=y }) x.os (mv d.1 (l.trans g)).1 (mv d.1 (l.trans g)).2 x.bare (λb z=>absurd z (by simp));refine wpAny_handleBy_cons (codeAny_handlers_test (v7 (X:=X.marked (.ref a)) (I5.marked (.ref a)) hg hm ?_ hd)) (by intro q;cases q);obtain⟨ob,hob,hoc⟩:=d.there;have LT:PySem.W.Looks (model X.prog X.w) y (typeOf (.ref a)) C:=by
  subst hoc;exact (PySem.W.Looks.ld hob).andThen .now
 refine (PySem.W.exm_one I5.kIn LT hit).at (codeAny_handlers_suite_as ?_);refine nJ (d9 _ _) (lands_againW d (Q:=λ_ s'=>∃ E,s'={ s2 with heap:=E }/\MU B (X.env :: X.outer) a C a0 E/\y.UpToSlots E) λE F J=>⟨E,rfl,F,J⟩) ?_;rintro _ _ ⟨E,rfl,F,J⟩ kd6;obtain⟨L,ok⟩:=mv F.1 ((l.trans g).trans J);have fr6:H2 a=NW:=x.free;have U:∀ {b:Ij} {u:HO},H2 b=NQ u->upd H2 a (.ext (ExcAt a C o)) b=NQ u:=λ{b u} e=>by
  rw [zx λz=>by rw [z,fr6] at e;cases e];exact e
 have here:ExcAt a C o E:=by
  obtain⟨u,h1,h2⟩:=F.there;obtain⟨v,z1,z2,z3⟩:=((dc.kd kd4).kd kd5).kd kd6;rw [h1] at z1;cases z1;exact⟨u,h1,h2,z2,z3⟩
 have I7:Inv X NJ σ (upd H2 a (.ext (ExcAt a C o))) { s2 with heap:=E }:=by
  refine I.call' (s':={ s2 with heap:=E }) x.os ⟨L.keep,L.slot,λb u q m z=>?_,L.there,λb xs q=>U (L.tups b xs q),λb u v q=>U (L.frzs b u v q),λb ps q=>?_⟩ (λb u e=>?_) x.bare (λb z=>absurd z (by simp))
  ·rw [zx λe=>by rw [e,x.new] at q;cases q];exact L.free b u q m z
  ·have q2:=L.tbls b ps q;exact U q2
  ·by_cases hb:b=a
   ·subst hb;rw [zy] at e;cases e;obtain⟨u,z⟩:=here;exact⟨⟨u,z⟩,⟨u,z.1⟩,λg1 g2 p k=>let⟨v,q1,q2⟩:=p;⟨v,k v q1,q2⟩⟩
   ·rw [zx hb] at e;exact (ok b u e).stay (λc v _ q=>q) (λc q=>U q) λc xs q=>U q
 refine cG (X:=X.marked (.ref a)) (v:=.ref a) (I7.marked _) hN Z (.inl T) rfl (λs8 I8=>?_) (.inr T);refine JD (hs NJ s8 _ _ (kO D j) I8 h) (λf s9 q=>?_) λ_ _ z=>z.elim;show IK (model X.prog X.w) X.A (do bindName X.env n .none;unbindBehindTheSuite X.env n hpos) (λ_ t=>SP X NJ D f t) X.xe s9;cases f with
 | next =>
  obtain⟨G,S,P,M⟩:=q;exact kP (P.unmarked I.ok) hN Z T λs' R=>⟨_,S,R,M⟩
 | brk =>
  obtain⟨G,S,P,M⟩:=q;exact kP (P.unmarked I.ok) hN Z T λs' R=>⟨_,S,R,M⟩
 | cont =>
  obtain⟨G,S,P,M⟩:=q;exact kP (P.unmarked I.ok) hN Z T λs' R=>⟨_,S,R,M⟩
 | ret u =>
  obtain⟨v,G,S,P,r9,M⟩:=q;exact kP (P.unmarked I.ok) hN Z T λs' R=>⟨v,_,S,R,r9,M⟩
end
end L2
end
section
namespace L2
open PySem PySem.Spec PySem.W PyProof.Rows PySem.Calls PySem.Builtin Builtin Builtin.ObjectAttr Builtin.Getset_descriptor
theorem FL {h:Heap} {a C:Ij} {o:Oc} (x:ExcAt a (.ref C) o h):fY a C h:=let⟨u,c,b,_⟩:=x;⟨u,c,b⟩
def FN (K:Ih):List V->Hp->VK->Prop:=λd H Q=>∃ a C o c b,d=[.ref a,c]/\H a=NQ (.ext (ExcAt a (.ref C) o))/\ExcWays K C/\((∃ n,c=.ty n/\Je K (.ref C) (.type n)=NQ b) \/ ∃ D,c=.ref D/\Je K (.ref C) (.ref D)=NQ b)/\Q (.bl b) H
theorem yZ {X:Cx} {K:Ih} (j:X.K=K):yJ X (.builtin "isinstance") (FN K):=by
 subst j;intro x s p H t w Q I r h;obtain⟨a,C,o,c,b,rfl,l,m,i,q⟩:=h;obtain⟨u,v,rfl,f,g⟩:=vals2 r;cases f;have k:fY a C s.heap:=FL (I.hok a _ l).1;rcases i with⟨n,rfl,d⟩ | ⟨D,rfl,d⟩ <;> cases g <;> exact PySem.W.kia_one (An m) I.kIn k d (λz=>nomatch z) λe=>⟨.bl b,H,I.tok e,rfl,q⟩
def PBy (X:Cx) (a:Oe) (g:XK->TS):Prop:=∀ (c:N9) (s:NU) (b:St) (H:Hp) (D:Ends) (E:XK),Inv X c b H s->g E D b H ->
 IK (model X.prog X.w) X.A (execs a X.env) (SP X c D) (λe h=>∃ f d,Inv X c b f d/\CXf X.prog X.w X.stack f d E e h) s
section
variable {X:Cx} {k:Nat} {f:Ij} {fd:FuncData} {ps:Oa} {sp:Sp} {t:TA} {fx y:Str} {e0:Expr} {es:Od} {p py cpos spos pos:Pos} {rest:Oe} {tr:TS} {i:Nat}
def bIf (c:TT) (t u:XK->TS):XK->TS:=λE D a H=>c a H λb d=>if b=NS then t E D a d else u E D a d
def Ew (K:Ih) (e:Ij) (d:XK->TS) (j:Nat) (ts:Ij->TS):TS:=λD b H=>d (λC o c=>LL K C (.ref e)=NQ NS/\∀ a,c a=NW->ts a (kO D j) (b.set j (NQ (.ref a))) (upd c a (.ext (ExcAt a C o)))) D b H
theorem C5 {c b:Oe} {v:XK->TS} {w:Stmt} {l n:Str} {G g:Pos} {A:Ij} {j:Nat} {d:Ij->TS} (R:PBy X c v) (Q:X.N.Nodup) (q:X.stack=X.env :: X.outer) (O:X.env.frame=NQ X.env.locals) (M:X.N[j]?=NQ n) (J:X.env.scope.names.lookup n=NQ .local)
  (hg:Gl X l) (L:X.mg l=NQ (.ref A)) (F:∀ a,PSs (X.marked (.ref a)) (w :: b) (d a)) (P:(l == ("__debug__":Str))=NV:=by decide) :
  PS X (.Try c [.ExceptHandler (NQ (.Name l G)) (NQ n) (w :: b) g] [] [] pos) (Ew X.K A v j d):=by
 intro U s B H D I h;refine wpAny_Try_except (JD (R U s B H D _ I h) (λS E z=>?_) λe Y z=>?_)
 ·cases S with
  | next=>exact wpAny_execs_nil z
  | brk=>exact z
  | cont=>exact z
  | ret u=>exact z
 ·obtain⟨H1,E,W,a,C,o,Z,rfl,x,T,r,m⟩:=z;exact Hf (ts:=d a) W x T q O Q M J hg L r (F a) (m a x.free) P
end
abbrev XD:=Option (Str×NR)
def FieldIs (K:Ih) (a:Hp):Oc->XD->Prop
 | none,NW=>True
 | some dx,NQ (n,d)=>∃ v,a dx=NQ (.xd [(n,v)])/\Rep K a d v
 | _,_=>False
theorem FieldIs.mono {K:Ih} {H a:Hp} (s:Same H a):∀ {o:Oc} {x:XD},FieldIs K H o x->FieldIs K a o x
 | none,NW,_=>trivial
 | some dx,NQ (n,d),h=>let⟨v,c,b⟩:=h;⟨v,s _ _ c,Rep.mono s d v b⟩
 | none,NQ _,h=>h.elim
 | some _,NW,h=>h.elim
def aj (K:Ih) (a:Ij) (C:NT) (x:XD):Hp->V->Prop:=λb v=>∃ o,v=.ref a/\b a=NQ (.ext (ExcAt a C o))/\FieldIs K b o x
def Wish (K:Ih) (f:Fx) (E:XK) (H:Hp) (Z:NT->XD->Prop):Prop:=∀ C o x a,Goes f H a->FieldIs K (hide a f) o x->Z C x->E C o a
theorem Wish.go {K:Ih} {f:Fx} {E:XK} {H a:Hp} {Z:NT->XD->Prop} (z:Wish K f E H Z) (g:Goes f H a):Wish K f E a Z:=λC o x c b=>z C o x c (g.trans b)
def PEf (K:Ih) (f:Fx) (E:XK) (e:TE) (c:zu) (P:NR->Prop) (Z:NT->XD->Prop):Prop:=∀ (b:St) (H:Hp) (Q:VK),EnvOk K f c b H->(∀ d v a,Goes f H a->Rep K (hide a f) d v->P d->Q v a)->Wish K f E H Z->e b H Q
def PSf (K:Ih) (f:Fx) (E:XK) (ts:TS) (g:zu) (D:DEnds) (Z:NT->XD->Prop):Prop:=∀ (e:St) (H:Hp) (N:Ends),EnvOk K f g e H->(∀ b a c,Goes f H c->EnvOk K f b a c->D.nx b->N.nx a c) ->
 (∀ d v c,Goes f H c->Rep K (hide c f) d v->D.rt d->N.rt v c)->(∀ b a c,Goes f H c->EnvOk K f b a c->D.bk b->N.bk a c)->(∀ b a c,Goes f H c->EnvOk K f b a c->D.ct b->N.ct a c)->Wish K f E H Z->ts N e H
def spF {b:Type} (K:Ih) (n:Nat) (e:b->List DV->Prop) (a:b->NR->Prop) (g:b->NT->XD->Prop):Sp:=λi H Q E=>∃ f d c,RepVs K f H d i/\d.length=n/\FOk f H/\e c d /\
 (∀ r v h,Goes f H h->Rep K (hide h f) r v->a c r->Q v h)/\Wish K f E H (g c)
section
variable {K:Ih} {f:Fx} {ρ:zu} {E:XK} {te:TE} {ts tu:TS} {tt:TT} {t:TA} {P:NR->Prop} {D:DEnds} {Z:NT->XD->Prop} {g:TG} {wi:TI}
theorem lI (h:PSd K f ts ρ D):PSf K f E ts ρ D Z:=λa H N e n r b c _=>h a H N e n r b c
theorem FO {i:Type} {n:Nat} {b:i->List DV->Prop} {a:i->NR->Prop} {d:i->NT->XD->Prop} (c:i) (h:PAd K f t ρ λxs=>xs.length=n/\b c xs/\(∀ r,a c r->P r)/\∀ C x,d c C x->Z C x):PEf K f E (bP (spF K n b a d) [] E t) ρ P Z:=λs H Q e q z =>
 h s H _ e λxs G I l u ⟨B,A,k,y⟩=>⟨f,xs,c,by rw [Jo];exact u,B,l.2,A,λr v p m w j=>q r v p (l.trans m) w (k r j),λC o x p m F j=>z C o x p (l.trans m) F (y C x j)⟩
theorem A1 {C:NT} (h:PAd K f t ρ λxs=>xs.length<=1000/\Z C NW):PSf K f E (Al C E t) ρ D Z:=λa H N e n r b c z =>
 h a H _ e λxs m l k d ⟨j,i⟩=>⟨by rw [d.length];exact j,z C NW NW l k trivial i⟩
theorem iU (h:PSf K f E ts ρ { D with nx:=λl=>PSf K f E tu l D Z } Z):PSf K f E (jK ts tu) ρ D Z:=λq H N e n r b c z =>
 h q H _ e (λl o u m s p=>p o u N s (λi a k j=>n i a k (m.trans j)) (λd v k j=>r d v k (m.trans j)) (λi a k j=>b i a k (m.trans j)) (λi a k j=>c i a k (m.trans j)) (z.go m)) r b c z
theorem Hg (h:PTd K f tt ρ λq=>if q=NS then PSf K f E ts ρ D Z else PSf K f E tu ρ D Z):PSf K f E (xK tt ts tu) ρ D Z:=λm H N e n r b c z =>
 h m H _ e λq u l p=>by
  have s:∀ o,PSf K f E o ρ D Z->o N m u:=λo p=>p m u N (e.mono l) (λi a k j=>n i a k (l.trans j)) (λd v k j=>r d v k (l.trans j)) (λi a k j=>b i a k (l.trans j)) (λi a k j=>c i a k (l.trans j)) (z.go l);cases q with
  | false=>rw [NL Ie] at p ⊢;exact s _ p
  | true=>rw [NM rfl] at p ⊢;exact s _ p
def PYd (K:Ih) (f:Fx) (a:XK->TS) (ρ:zu) (D:DEnds) (Z:NT->XD->Prop):Prop:=∀ (E:XK),PSf K f E (a E) ρ D Z
theorem HX {c a:XK->TS} (h:PTd K f tt ρ λq=>if q=NS then PYd K f c ρ D Z else PYd K f a ρ D Z):PYd K f (bIf tt c a) ρ D Z:=λE =>
 Hg (ts:=c E) (tu:=a E) λd H Q e q=>h d H Q e λb j i p=>q b j i (by
  cases b with
  | false=>rw [NL Ie] at p ⊢;exact p E
  | true=>rw [NM rfl] at p ⊢;exact p E)
theorem FP {z:XK->TS} {I:Ij} {j:Nat} {m:Ij->TS}
  (h:PYd K f z ρ D λC x=>LL K C (.ref I)=NQ NS/\∀ a,PSd K f (m a) (ρ.set j (NQ (.mon (aj K a C x)))) { nx:=λρ'=>D.nx (ρ'.set j NW),rt:=D.rt,bk:=λρ'=>D.bk (ρ'.set j NW),ct:=λρ'=>D.ct (ρ'.set j NW) }) :
  PSd K f (Ew K I z j m) ρ D:=λJ H N e nx rt bk ct=>by
 refine h _ J H N e nx rt bk ct λC o x G u M ⟨s,L⟩=>⟨s,λa B=>?_⟩;have F:Goes f G (upd G a (.ext (ExcAt a C o))):=.of_same (yf B _) u.ok;have p:=u.trans F;have O:=(e.mono p).set j (x:=.mon (aj K a C x)) (v:=.ref a) λH'' n=>⟨o,rfl,n _ _ (zG (fresh_ne u.ok B) zy),FieldIs.mono (F.1.trans n) M⟩;have b:∀ {ρ':zu} {σ':St} {H'':Hp},EnvOk K f ρ' σ' H''->EnvOk K f (ρ'.set j NW) (σ'.set j NW) H'':=λ{ρ' σ' H''} w=>by
  refine⟨by rw [JX,JX];exact w.len,λq y l=>?_,w.fd⟩;by_cases A:j=q
  ·subst A;rw [MF] at l;rw [NM rfl] at l;split at l <;> cases l
  ·rw [JN A] at l ⊢;exact w.get q y l
 exact L a _ _ _ O (λρ' σ' H'' i k c=>nx _ _ H'' (p.trans i) (b k) c) (λd v H'' i r c=>rt d v H'' (p.trans i) r c) (λρ' σ' H'' i k c=>bk _ _ H'' (p.trans i) (b k) c) (λρ' σ' H'' i k c=>ct _ _ H'' (p.trans i) (b k) c)
theorem A2 {j:Nat} {C a:Ij} {x:XD} {c:V} {b:Bool} (i:ρ[j]?=NQ (NQ (.mon (aj K a (.ref C) x)))) (l:ExcWays K C) (h:(∃ n,c=.ty n/\Je K (.ref C) (.type n)=NQ b) \/ ∃ D,c=.ref D/\Je K (.ref C) (.ref D)=NQ b) (p:P (.bool b)) :
  PEd K f (tCB (FN K) (yy (yB j) (yy (tC c) qC))) ρ P:=λm H Q e q=>by
 obtain⟨v,d,r⟩:=e.get j _ i;obtain⟨o,rfl,k,_⟩:=r H (zo H f);exact⟨_,d,a,C,o,c,b,rfl,k,l,h,q _ _ H (.refl e.fd) (ya.mpr rfl) p⟩
end
structure FnInF (P:NY) (w:NX) (K:Ih) (mg:Str->N7) (base:Heap) (k:Nat) (x:Str) (ps:Oa) (sp:Sp):Prop where
 ex:∃ (f:Ij) (fd:FuncData),FnOk P w K mg base (CXf P w) k f fd ps sp/\mg x=NQ (.ref f)/\JW K (.ref f)=NS/\Binds K fd ps []
section
variable {P:NY} {w:NX} {K:Ih} {mg:Str->N7} {base:Heap} {j k n:Nat} {x:Str} {st:Stmt} {ps N:Oa} {γ:Type} {pre:γ->List DV->Prop} {post:γ->NR->Prop} {exc:γ->NT->XD->Prop} {sp:Sp}
theorem FnInF.mono (h:FnInF P w K mg base j x ps sp) (e:j<=k):FnInF P w K mg base k x ps sp:=let⟨f,g,a,b,c,d⟩:=h.ex;⟨f,g,a.mono e,b,c,d⟩
theorem Def.okF (F:Def K mg x st ps) (S:FnScope N ps (zi st)) (I:ps.length=n)
  (h:∀ (e:Ij) (b:NT) (A:NZ) (a:Ob) (s:NU) (H:Hp) (E:XK),Room k (A.deeper (envOfC x (zi st) s.heap.objs.size e b)) ->
   ∃ t,PSs (zV (CXf P w) P w K mg base N x (zi st) e b A a s H E) (ym st) t/\∀ f xs c,xs.length=n->pre c xs->PSf K f E t (jC N xs) { nx:=λ_=>post c .none,rt:=post c } (exc c)) :
  FnInF P w K mg base (k+1) x ps (spF K n pre post exc):=by
 obtain⟨e,O,m,F2,R⟩:=F.ex;refine⟨e,O,m.okF S (λy H Q E h=>?_) (λb A a s H y Q E D C=>?_),R,m.kp,F2⟩
 ·obtain⟨f,xs,c,r,g,_⟩:=h;rw [r.length,g,I]
 ·obtain⟨f,xs,c,r,g,M,G,q,z⟩:=C;obtain⟨t,L,J⟩:=h e b A a s H E D;refine⟨t,L,J f xs c g G _ H _ (y6 r M) (λu o l i T p=>q .none .non l i (j9.mpr rfl) p) (λd v l i B p=>q d v l i B p) (λ_ _ _ _ _ z=>z.elim) (λ_ _ _ _ _ z=>z.elim) z⟩
theorem A3 {c:Str} {a:Scope} {f:Ij} {d:NT} {A:NZ} {b:Ob} {s:NU} {H:Hp} {E:XK} {y:Str} {m:Oa} {l:Sp} {e:Expr} {es:Od} {t:TA} {p pos:Pos} (G:FnInF P w K mg base k y m l) (o:Room k (zV (CXf P w) P w K mg base N c a f d A b s H E).A) (hg:Gl (zV (CXf P w) P w K mg base N c a f d A b s H E) y) (r:PA (zV (CXf P w) P w K mg base N c a f d A b s H E) (e :: es) t) (i:(y == ("__debug__":Str))=NV:=by decide)
  (q:Jg (e :: es) (zV (CXf P w) P w K mg base N c a f d A b s H E).env=(NV,eval e (zV (CXf P w) P w K mg base N c a f d A b s H E).env) :: Jg es (zV (CXf P w) P w K mg base N c a f d A b s H E).env:=by rfl)
  (h:(backTo pos (Jg es (zV (CXf P w) P w K mg base N c a f d A b s H E).env)).any (·.1)=NV:=by rfl) :
  PE (zV (CXf P w) P w K mg base N c a f d A b s H E) (.Call (.Name y p) (e :: es) [] pos) (bP l [] E t):=by
 obtain⟨g,C,B,z,v,u⟩:=G.ex;exact sR (dvs:=[]) B o hg z v u .nil He r i q h
end
structure FCls (K:Ih) (mg:Str->N7) (x base:Str) (C:Ij) (name:Str) (st:Stmt) (ps:Oa):Prop where
 ex:∃ (f D:Ij) (fd:FuncData),FldC K C f D name/\mg x=NQ (.ref C)/\mg base=NQ (.ref D)/\Fun K "__init__" (x ++ ".__init__") st f fd/\Binds K fd ps []
structure InitOk (P:NY) (w:NX) (K:Ih) (mg:Str->N7) (base:Heap) (k:Nat) (C:Ij) (name:Str):Prop where
 ex:∃ (f D:Ij) (fd:FuncData) (ps:Oa),FldC K C f D name/\FnOk P w K mg base CX0 k f fd ps (FK C name)/\Binds K fd ps []
theorem rG {K:Ih} {f:Fx} {c:zu} {P:NR->Prop} {j:Nat} {C D a:Ij} {x:XD} {b:Bool} (e:c[j]?=NQ (NQ (.mon (aj K a (.ref C) x)))) (g:ExcWays K C) (d:Je K (.ref C) (.ref D)=NQ b) (p:P (.bool b)) :
  PEd K f (tCB (FN K) (yy (yB j) (yy (tC (.ref D)) qC))) c P:=A2 e g (.inr ⟨D,rfl,d⟩) p
noncomputable def c8 (K:Ih) (C:Ij):Bool :=
 Kh K (.ref C) "__getattribute__" == NQ (NQ (.builtin "BaseException.__getattribute__")) && Kh K (.ref C) "__getattr__" == NQ NW && Kh K (.ref C) "__class__" == NQ (NQ (.builtin "object.__class__"))
  && LA K (.builtin "object.__class__") "__get__" == NQ (NQ (.builtin "getset_descriptor.__get__")) && PySem.W.takesIn K (.builtin "object.__class__") == NQ NS && MH K C (.type "object") == NQ NS && MH K C (.type "BaseException") == NQ NS && (PySem.W.clsIn K C).isSome
theorem t9 {K:Ih} {C:Ij} (h:c8 K C=NS):ExcWays K C:=by
 unfold c8 at h;simp only [Io,beq_iff_eq] at h;obtain⟨⟨⟨⟨⟨⟨⟨i,g⟩,f⟩,e⟩,d⟩,c⟩,b⟩,a⟩:=h;exact⟨i,g,f,e,d,c,b,a⟩
section
variable {w:NX} {K:Ih} {f:Fx} {Ds:N8} {ts:TS} {te tk:TE} {ρ:zu} {cs:List OC} {O:MEnds} {i j n:Nat}
theorem Ex (h:PEm w K f Ds te ρ cs λd=>O.nx (ρ.set n (NQ (.dat d))) cs):PSm w K f Ds (ve te (yW n)) ρ cs O:=λg e H p E x o r b k =>
 h g e H p _ x λd v q c l m=>by
  have a:=x.go c (x.env.mono c);exact o _ cs _ q ⟨a.env.set n (x:=.dat d) l,a.sm,a.kp,a.len,a.own⟩ m
end
theorem hZ:entryFor table "proto.unchain"=NQ Builtin.«proto.unchain»:=entryFor_of_tree (by kernel_rfl)
section
variable {prog:NY} {w:NX} {A:NZ} {E:NT->NU->Prop} {s:NU}
theorem rH {d:Type} {e h:Ij} {u c:Obj} {f:Array NT} {Q:d->NU->Prop} (p:A.handled=NQ (.ref h)) (i:s.heap.get? e=NQ c) (j:c.data=.fields f) (r:2<f.size) (n:s.heap.get? h=NQ u) (a:e7 u=NQ .none) (k:h≠e)
  (q:∀ h',(∀ b o,b≠e->s.heap.get? b=NQ o->h'.get? b=NQ o)->(∃ g,h'.get? e=NQ g/\g.cls=c.cls)->E (.ref e) { s with heap:=h' }):IK (model prog w) A (raiseNew (.ref e):Sem d) Q E s:=by
 unfold raiseNew;refine Ic (wpAny_handled ?_);rw [p];dsimp only;rw [NM (show ((Value.ref h != Value.ref e)=NS) from by simp [k])];refine Ic (Ji (wpAny_runValue (codeAny_builtin hZ ?_)));unfold e7 at a;split at a
 ·rename_i t m;show IK _ _ (field (.ref h) 2 >>= _) _ _ s;refine Ic (wpAny_field n m a ?_);rw [NM (show ((Value.none == Value.none)=NS) from rfl)];refine Ic (Ip (Ip ?_));show IK _ _ (updateField e 2 (.ref h) >>= λ_=>throw (Value.ref e)) _ _ _;refine Ic ?_;show IK _ _ (setField (.ref e) 2 (.ref h)) _ _ _;refine Mw i j r (wpAny_throw (q _ (λb o l z=>?_) ?_))
  ·exact (IZ _ _ (JM l)).trans z
  ·exact⟨_,Kl _ i (M8 (Mv j _)),Obj.cls_mapFields _ _⟩
 ·cases a
theorem h9 {c l h:Ij} {i:Nat} {items:Array NT} {u:Obj} {Q:N7->NU->Prop} (G:A.handled=NQ (.ref h)) (d:s.heap.IsListIter c l i) (F:s.heap.IsList l items) (D:items[i]?=NW) (v:s.heap.get? h=NQ u) (H:e7 u=NQ .none) (e:h≠c)
  (q:∀ h',(∀ b o,b≠c->s.heap.get? b=NQ o->h'.get? b=NQ o)->Q NW { s with heap:=h' }):IK (model prog w) A (pyNext (.ref c)) Q E s:=by
 obtain⟨o,j,_,n⟩:=id d;obtain⟨K,g,_,L,k⟩:=F;refine Ic (L6 (wpAny_callSpecial?_slot (name:=Ko "__next__") d.typeIs slot_listiter_next (wpAny_call_entry slot_listiter_next d.typeIs entry_listiter_next ?_ (args_listiter_next _))));show IK _ _ (PySem.field (.ref c) 0 >>= _) _ _ s;refine Ic (wpAny_field j n (x:=.ref l) rfl (a:=c) ?_);rw [NL (show ¬ (Value.ref l == Value.none)=NS from Ie)];refine Ic (wpAny_field j n (x:=.int i 0) rfl (Ic (wpAny_seqItems g k ?_)));simp only [Ki,D];refine Ic (NB (Ic (Mw j n (by simp) (Ic ?_))));simp only [newExc,newTuple];refine Ic (wpAny_newObj_type (Ic (m:=firstArgMember _ _) (wpAny_of_eq (a:=Value.none) (by first | rfl | (simp only [firstArgMember];rfl)) (wpAny_newObj_type ?_ (by size_fits)))) (by size_fits));have p:∀ b o,b≠c->s.heap.get? b=NQ o->∀ t r:Obj,(((s.heap.update c (L4 (·.setIfInBounds 0 Value.none))).push t).push r).get? b=NQ o:=λb o f z t r=>Im _ (Im _ ((IZ _ _ (JM f)).trans z));refine rH (u:=u) G (IT _ rfl) rfl (show 2<6 from by decide) (p h u e v _ _) H ?_ λh' C ⟨y,J,I⟩=>?_
 ·exact λz=>absurd (IA (Im _ ((IZ _ _ (JM e)).trans v):((s.heap.update c (L4 (·.setIfInBounds 0 Value.none))).push _).get? h=NQ u)) (by rw [z];exact Ka _)
 ·refine Ic (MT (T:="StopIteration") (b:=NS) ⟨y,J,I⟩ isSubtype_stop (Ip (q h' λb o f z=>C b o ?_ (p b o f z _ _))));have B:b<(s.heap.update c (L4 (·.setIfInBounds 0 Value.none))).objs.size:=IA ((IZ _ _ (JM f)).trans z);exact IU (IW B (by rw [Ld];exact L8 _))
theorem rJ (p:A.handled=NQ (.ref h)) (I a:Ij) (j:a≠I) (n:h≠I) (u:Obj) (r:e7 u=NQ .none) (items:Array NT) :
  Walks prog w A I [I,a,h] [I] items.size (λi v=>items[i]?=NQ v) (λi g=>g.IsListIter I a i/\g.IsList a items/\g.get? h=NQ u) where
 sub:=λb t=>by rw [Iw.mp t];exact Ik
 frame:=λ_ _ _ st k=>⟨st.1.at λo e=>k I (by simp) o e,st.2.1.at λo e=>k a (by simp) o e,k h (by simp) u st.2.2⟩
 item:=λi s Q E m st q=>wpAny_pyNext_list_item st.1 st.2.1 (x:=items[i]) (by simp [m]) λl f c=>q _ l s.toks (by simp [m]) ⟨f,st.2.1.extBut c.extBut j,c.extBut h u n st.2.2⟩ λb o d e=>c.extBut b o (λz=>d (by simp [z])) e
 done:=λs Q E st q=>h9 p st.1 st.2.1 (by simp) st.2.2 r n λl k=>q l s.toks λb o d e=>k b o (λz=>d (by simp [z])) e
 self:=λ_ _ _ _ st q=>wpAny_pyIter_listiter st.1 q
end
def Ey (K:Ih) (e:Ij):List V->Hp->VK->Prop:=λa H Q=>(∃ C o,H e=NQ (.ext (ExcAt e C o)))/\HV K a H Q
theorem wN {X:Cx} {K:Ih} {e:Ij} (D:X.K=K) (n:X.A.handled=NQ (.ref e)):yJ X (.builtin "any") (Ey K e):=by
 subst D;intro M s F H G J Q I r h;obtain⟨⟨C,o,x⟩,a,E,rfl,l,q⟩:=h;obtain⟨v,rfl,j⟩:=vals1 r;cases j;obtain⟨k,i,p,_⟩:=I.list l;have c:=p.isList;rw [fZ i] at c;obtain⟨u,f,_,w,_⟩:=(I.hok e _ x).1;have d:∀ {b:Ij} {o:Obj},s.heap.get? b=NQ o->b≠s.heap.objs.size:=λz=>IU (IA z);have B:a≠s.heap.objs.size:=by
  obtain⟨o,m,_⟩:=c;exact d m
 refine call_any_walk (wpAny_pyIter_list c ⟨s.heap.objs.size,_,_,_,_,_,_,rfl,rJ (show (X.A.in1).handled=NQ (.ref e) from n) _ a B (d f) u w _,⟨⟨_,IT _ rfl,rfl,rfl⟩,c.at λo z=>Im _ z,Im _ f⟩,eH _ _ _ E,λL g t=>?_⟩);refine⟨.bl _,H,I.kept (t':=g) λb o z=>t b o (λy=>d z (Iw.mp y)) (Im _ z),?_,q⟩;show Value.bool _=Value.bool _;rw [II,Ib,range_any]
structure RoomM (k:Nat) (A:NZ):Prop where
 dp:A.depth+3 * k+5<recursionLimit
 un:A.units+16 * k+200<JR
structure FnOkM (P:NY) (w:NX) (K:Ih) (mg:Str->N7) (base:Heap) (k:Nat) (f:Ij) (fd:FuncData) (ps:Oa) (sp:Ij->Sp):Prop where
 len:∀ a vs H Q E,sp a vs H Q E->vs.length=ps.length
 run:∀ (A:NZ) (outer:Ob) (s:NU) (H:Hp) (args:Args) (us:N6) (vs:List V) (Q:VK) (a:Ij),A.handled=NQ (.ref a)->RoomM k A->Env0 P w K mg base A outer s H->BindsTo s fd args (ps.zip us)->Vals vs us->sp a vs H Q E0 ->
  codeAny (model P w) A (.call (.ref f) args) (CR CX0 outer P w H s Q E0) s
noncomputable def cxM (P:NY) (w:NX) (K:Ih) (d:Str->N7) (base:Heap) (N:Oa) (c:Str) (a:Scope) (f:Ij) (e:NT) (A:NZ) (b:Ob) (s:NU) (H:Hp):Cx :=
 { zV CX0 P w K d base N c a f e A b s H E0 with calm:=NV,xe:=λ_ _=>False }
theorem FQ {P:NY} {w:NX} {K:Ih} {D:Str->N7} {base:Heap} {k:Nat} {f:Ij} {name g:Str} {i:Arguments} {l:Oe} {c:Scope} {dV kV L Z h ct oc:NT} {an od:Oc}
  {U:Array (N7)} {N O:Oa} {sp:Ij->Sp} (lk:K.lookup f=NQ ⟨oc,od,.func (JZ name g i l c dV kV L Z an h ct),U⟩) (X:JH K h g=NS) (S:FnScope N O c)
  (F:∀ a m H Q E,sp a m H Q E->m.length=O.length)
  (B:∀ (A:NZ) (d:Ob) (s:NU) (H:Hp) (m:List V) (Q:VK) (a:Ij),A.handled=NQ (.ref a)->RoomM k (A.deeper (envOfC g c s.heap.objs.size f h))->sp a m H Q E0 ->
   ∃ t,PSs (cxM P w K D base N g c f h A d s H) l t/\t { nx:=λ_ M=>Q .non M,rt:=Q } (start N m) H) :
  FnOkM P w K D base (k+1) f (JZ name g i l c dV kV L Z an h ct) O sp:=by
 refine⟨F,λA d s H args us m Q a hm W j hb r G=>?_⟩;have KX:K.In s.heap:=j.mod.kin.keeps λb o e=>(j.bs b o e).1;have p:∀ y∈O.zip us,c.names.lookup y.1=NQ .local \/ (c.names.lookup y.1=NQ .cell/\((cellsFrom (s.heap.objs.size+1) c.names []).lookup y.1).isSome=NS):=λ⟨n,v⟩ hy=>(S.par n (Mf hy).1).imp id λq=>⟨q,Kt _ _ _ (.inl q)⟩;have rd:RoomM k (A.deeper (envOfC g c s.heap.objs.size f h)):=⟨by have:=W.dp;show A.depth+1+3 * k+5<_;lia,by have:=W.un;show A.units+3+16 * k+200<_;lia⟩;refine codeAny_call_function (by have:=W.dp;lia) (KX _ _ lk) rfl S.co S.gen rfl (Mp KX X) (hb _ _ _ _ (wpAny_newFunctionEnv_cells S.kind p λenv he T x=>?_));subst he;refine⟨(j.mod.nolimit.keeps λb o e=>(j.bs b o e).1).keeps x.toInCall.keep,codeAny_func ?_⟩;obtain⟨t,ht,hq⟩:=B A d s H m Q a hm rd G;have e1:Env0 P w K D base { A with handled:=NW } d s H:=⟨j.frames,j.mod,j.bs,j.bsz,j.funs,j.frf,j.tabs,j.hok,j.bare⟩;have J:Inv (zV CX0 P w K D base N g c f h { A with handled:=NW } d s H E0) [] (start N m) H T:=iC S rfl e1 (F _ _ _ _ _ G) r x;have I:Inv (cxM P w K D base N g c f h A d s H) [] (start N m) H T :=
  ⟨⟨J.ok.mod,J.ok.kind,J.ok.glob,J.ok.blt,J.ok.above,J.ok.inj,J.ok.has,J.ok.cab,(λz=>by cases z),Nf j.frames,J.ok.stk,J.ok.exf,J.ok.bs,J.ok.bsz,J.ok.noex,J.ok.exfs,J.ok.funs,J.ok.frf,J.ok.tabs⟩,J.os,J.bare,J.base,J.loc,J.cell,J.free,J.freeC,J.pin,J.hok,J.len⟩
 refine JD (ht [] T (start N m) H _ I hq) (λfl s' C=>?_) λe s' C=>C.elim;cases fl with
 | ret u =>
  obtain⟨v,R,M,Y,rv,q⟩:=C;exact⟨v,M,Y.os,Y.bare,Y.base,Y.hok,rv,q⟩
 | next =>
  obtain⟨R,M,Y,q⟩:=C;exact⟨V.non,M,Y.os,Y.bare,Y.base,Y.hok,rfl,q⟩
 | brk=>exact JU C.choose_spec.choose_spec.2
 | cont=>exact JU C.choose_spec.choose_spec.2
structure FnInM (P:NY) (w:NX) (K:Ih) (mg:Str->N7) (base:Heap) (k:Nat) (x:Str) (ps:Oa) (sp:Ij->Sp):Prop where
 ex:∃ (f:Ij) (fd:FuncData),FnOkM P w K mg base k f fd ps sp/\mg x=NQ (.ref f)/\JW K (.ref f)=NS/\Binds K fd ps []
def spM {d:Type} (K:Ih) (n:Nat) (c:Ij->d->List DV->Prop) (b:d->NR->Prop):Ij->Sp:=λa=>spD K n (c a) b
section
variable {P:NY} {w:NX} {K:Ih} {mg:Str->N7} {base:Heap} {j k n:Nat} {x:Str} {st:Stmt} {ps N:Oa} {γ:Type} {pre:Ij->γ->List DV->Prop} {post:γ->NR->Prop} {sp:Ij->Sp}
theorem FnInM.mono (h:FnInM P w K mg base j x ps sp) (r:j<=k):FnInM P w K mg base k x ps sp :=
 let⟨f,q,a,b,c,d⟩:=h.ex
 ⟨f,q,⟨a.len,λA g s H i o m Q e p l=>a.run A g s H i o m Q e p ⟨by have:=l.dp;lia,by have:=l.un;lia⟩⟩,b,c,d⟩
theorem Def.okM (F:Def K mg x st ps) (S:FnScope N ps (zi st)) (O:ps.length=n)
  (h:∀ (g:Ij) (e:NT) (A:NZ) (b:Ob) (s:NU) (H:Hp) (a:Ij),A.handled=NQ (.ref a)->RoomM k (A.deeper (envOfC x (zi st) s.heap.objs.size g e)) ->
   ∃ t,PSs (cxM P w K mg base N x (zi st) g e A b s H) (ym st) t/\∀ f xs c,xs.length=n->pre a c xs->PSd K f t (jC N xs) { nx:=λ_=>post c .none,rt:=post c }) :
  FnInM P w K mg base (k+1) x ps (spM K n pre post):=by
 obtain⟨g,fd,u,F2,Y⟩:=F.ex;obtain⟨oc,od,kV,X,Z,an,e,ct,G,rfl,I,l⟩:=u.ex;refine⟨g,_,FQ I l S (λa C H Q E h=>?_) (λA b s H C Q a R L J=>?_),Y,u.kp,F2⟩
 ·obtain⟨f,xs,c,r,i,_⟩:=h;rw [r.length,i,O]
 ·obtain⟨f,xs,c,r,i,W,M,q⟩:=J;obtain⟨t,U,T⟩:=h g e A b s H a R L;exact⟨t,U,T f xs c i M _ H _ (y6 r W) (λB y o m e' p=>q .none .non o m (j9.mpr rfl) p) (λd v o m D p=>q d v o m D p) (λ_ _ _ _ _ z=>z.elim) (λ_ _ _ _ _ z=>z.elim)⟩
theorem A4 {X:Cx} {a:Ij} {e:Expr} {es:Od} {t:TA} {p pos:Pos} (G:FnInM X.prog X.w X.K X.mg X.base k x ps sp) (o:Room k X.A) (hg:Gl X x) (L:PA (X.marked (.ref a)) (e :: es) t) (i:(x == ("__debug__":Str))=NV:=by decide)
  (E:Jg (e :: es) X.env=(NV,eval e X.env) :: Jg es X.env:=by rfl) (g:(backTo pos (Jg es X.env)).any (·.1)=NV:=by rfl):PE (X.marked (.ref a)) (.Call (.Name x p) (e :: es) [] pos) (bP (sp a) [] E0 t):=by
 obtain⟨f,S,F,C,D,J⟩:=G.ex;intro O s B H Q I h;refine wpAny_Call_Name_kw (v7 I hg C ?_ i);refine Mo (h₀:=X.base) I.ok.mod.kin D (thn (L pos O s B H _ I h) λc m ⟨l,y,b,r,q⟩=>⟨b.kIn,?_⟩) E g;have q:sp a l y Q E0:=by have:=q;dsimp only at this;rw [Jo] at this;exact this
 have v:=J m c b.kIn (by rw [Jo,<- r.length];exact F.len _ _ _ _ _ q);rw [Jo] at v;refine wpAny_call (LQ (F.run _ _ m y ⟨c,[]⟩ c l Q a rfl ⟨o.dp,o.un⟩ b.env0 v r q) λd R z=>?_);cases d with
 | error e=>exact JU z
 | ok M =>
  cases M with
  | ret u=>exact b.after z
  | next=>exact JU z
  | brk=>exact JU z
  | cont=>exact JU z
end
theorem FR {K:Ih} {f:Fx} {d:zu} {P:NR->Prop} {g:TE} {j:Nat} {a:Ij} {C:NT} {x:XD} (n:d[j]?=NQ (NQ (.mon (aj K a C x)))) (h:PEd K f g d λx=>∃ bs:Ou,x=.list (bs.map .bool)/\P (.bool (bs.any id))):PEd K f (tCB (Ey K a) (yy g qC)) d P:=λl H Q e q =>
 h l H _ e λx v c k m ⟨bs,w,p⟩=>by
  subst w;obtain⟨u,_,r⟩:=(e.mono k).get j _ n;obtain⟨o,_,s,_⟩:=r c (zo c f);obtain⟨b,y,rfl,i,t⟩:=zI.mp m;rw [cf t] at i;exact⟨⟨C,o,s⟩,b,bs,rfl,(zo c f).seq i,q _ _ c k (ya.mpr rfl) p⟩
structure TN (K:Ih) (f:Fx) (a:Ij) (as:N8) (H2:Hp) (ρ:zu) (R:Option (Ot)) (σ:St) (H:Hp):Prop where
 env:EnvOk K (f.withs (a :: as)) ρ σ H
 sm:Same (hide H2 (f.withs (a :: as))) (hide H (f.withs (a :: as)))
 kp:∀ b∈f.M,H b=H2 b
 tab:∀ NI,R=NQ NI->TabAt H a as NI
structure GoesW (f:Fx) (As:N8) (H2 H':Hp):Prop where
 sm:Same (hide H2 (f.withs As)) (hide H' f)
 ok:FOk f H'
 kp:∀ b∈f.M,H' b=H2 b
structure FnAt (P:NY) (w:NX) (K:Ih) (mg:Str->N7) (base:Heap) (CX:CXT) (k:Nat) (a:Ij) (sp:Sp):Prop where
 ex:∃ (fd:FuncData) (ps:Oa),FnOk P w K mg base CX k a fd ps sp/\JW K (.ref a)=NS/\Binds K fd ps []
def A5 (K:Ih):R2:=λx y H Q=>∃ d a,Rep K H d x/\Rep K H (.tuple a) y/\d.canLay0=NS/\(∀ e∈a,e.canLay0=NS)/\d.depth<=50/\Q (.bl (a.any λe=>IX e d)) H
theorem C6 {X:Cx} (B:X.A.units+64<JR):OpR X (JI .In) (A5 X.K):=by
 intro E s t H x y v u Q I h g ⟨d,C,n,m,p,f,o,q⟩;obtain⟨a,z,rfl,l,e⟩:=zZ.mp m;cases g;obtain⟨D,i⟩:=jh I d x v n h;obtain⟨b,r,j,_⟩:=I.tuple l;have c:X.A.in1.units+60<JR:=by show X.A.units+1+60<JR;lia
 refine SeqAt.in_tupleAt (eqR s.heap d) j (λw k=>gf I i p o c e r f w (by simpa using k)) ⟨.bl _,H,I,rfl,?_⟩;rw [show b.toArray.any (eqR s.heap d)=b.any (eqR s.heap d) by simp,kR I e r f];exact q
theorem A6 {X:Cx} {K:Ih} (b:X.K=K) (a:X.A.units+64<JR):OpR X (JI .In) (A5 K):=b▸C6 a
theorem FT {K:Ih} {f:Fx} {a:zu} {P:NR->Prop} {g c:TE} (h:PEd K f g a λd=>PEd K f c a λy=>∃ ds,y=.tuple ds/\d.canLay0=NS/\(∀ e∈ds,e.canLay0=NS)/\d.depth<=50/\P (.bool (ds.any λe=>IX e d))):PEd K f (tOp (A5 K) g c) a P:=λb H Q e q =>
 h b H _ e λd v u j l n=>n b u _ (e.mono j) λy w t i k ⟨ds,o,s,r,p,m⟩=>by
  subst o;exact⟨d,ds,Rep.mono ((i.sm).trans (zo _ _)) _ _ l,Rep.mono (zo _ _) _ _ k,s,r,p,q _ _ t (j.trans i) (ya.mpr rfl) m⟩
structure Src (prog:NY) (w:NX) (j:Ij) (xs:Array NT) (dep:N8) (St:Nat->Heap->Prop):Prop where
 own:j∈dep
 keep:∀ {k:Nat} {h h':Heap},St k h->(∀ c∈dep,∀ o,h.get? c=NQ o->h'.get? c=NQ o)->St k h'
 there:∀ {k:Nat} {h:Heap},St k h->∃ o,h.get? j=NQ o
 item:∀ {A:NZ} {E:NT->NU->Prop} {s:NU} {k:Nat} {x:NT} {Q:NT->NU->Prop},St k s.heap->xs[k]?=NQ x->(∀ h',St (k+1) h'->KQ j s.heap h'->Q x { s with heap:=h' })->IK (model prog w) A (MA (.ref j)) Q E s
 stop:∀ {A:NZ} {E:NT->NU->Prop} {s:NU} {k:Nat} {Q:NT->NU->Prop},A.handled=NW->St k s.heap->xs[k]?=NW->(∀ h' e,Heap.ExtBut j s.heap h'->(∃ o,h'.get? e=NQ o/\o.cls=.type "StopIteration")->E (.ref e) { s with heap:=h' })->IK (model prog w) A (MA (.ref j)) Q E s
section
variable {prog:NY} {w:NX} {A:NZ} {E:NT->NU->Prop} {s:NU}
structure Far (z q1 q2 j1 j2:Ij) (e1 e2:N8):Prop where
 q1z:q1≠z
 q2z:q2≠z
 q12:q1≠q2
 j12:j1≠j2
 q1j1:q1≠j1
 q1j2:q1≠j2
 z1:z∉e1
 z2:z∉e2
 o1:q2∉e1
 o2:q2∉e2
 d12:j2∉e1
 d21:j1∉e2
end
end L2
end
section
namespace L2
open PySem PySem.Spec PyProof.Rows
section
variable {K:Ih} {f:Fx} {ρ:zu} {R:List DV->Prop} {i j m n:Nat} {d0 d1 d2 d3:NR}
theorem bN (h0:ρ[i]?=NQ (NQ (.dat d0))) (h:R [.dat d0]):PAd K f (yy (yB i) qC) ρ R:=zv (zr h0 (zP h))
theorem e8 (h0:ρ[i]?=NQ (NQ (.dat d0))) (a:ρ[j]?=NQ (NQ (.dat d1))) (h:R [.dat d0,.dat d1]):PAd K f (yy (yB i) (yy (yB j) qC)) ρ R:=zv (zr h0 (bN a h))
theorem Hj (h0:ρ[i]?=NQ (NQ (.dat d0))) (b:ρ[j]?=NQ (NQ (.dat d1))) (a:ρ[m]?=NQ (NQ (.dat d2))) (h:R [.dat d0,.dat d1,.dat d2]):PAd K f (yy (yB i) (yy (yB j) (yy (yB m) qC))) ρ R:=zv (zr h0 (e8 b a h))
end
theorem perm_map_inv {f o:Type} {F:f->o} {l:List o} {m:List f} (h:l.Perm (m.map F)):∃ c:List f,c.Perm m/\l=c.map F:=by
 generalize e:m.map F=k at h
 induction h generalizing m with
 | nil=>exact⟨m,.refl _,e.symm⟩
 | cons x _ ih =>
  cases m with
  | nil=>cases e
  | cons a m =>
   injection e with n d;obtain⟨c,p,r⟩:=ih d;exact⟨a :: c,p.cons a,by rw [IL,n,r]⟩
 | swap x y l =>
  cases m with
  | nil=>cases e
  | cons a m =>
   cases m with
   | nil=>injection e with _ e;cases e
   | cons b m =>
    injection e with n d;injection d with d t;exact⟨b :: a :: m,.swap a b m,by rw [IL,IL,n,d,t]⟩
 | trans _ _ j i =>
  obtain⟨c,p,r⟩:=i e;obtain⟨g,s,q⟩:=j r.symm;exact⟨g,s.trans p,q⟩
abbrev FD (K:Ih) (x:Str) (st:Stmt) (f:Ij) (d j:Oc) (b:Array (N7)) (e g h c a i:NT):Prop:=Ja K IP x=NQ (NQ (.ref f))/\K.lookup f=NQ ⟨e,d,.func (JZ x x (jB st) (ym st) (zi st) .none g h c j a i),b⟩/\JH K a x=NS/\JW K (.ref f)=NS
theorem C7 {K:Ih} {h:Heap} {l:Str->N7} {x:Str} {st:Stmt} {f:Ij} {n k:Oc} {m:Array (N7)} {o e q d r i:NT} (X:K.In h) (G:h.Ns IP l) (a:FD K x st f n k m o e q d r i) {c:Oa}
  (p:∀ (e g d:NT) (k:Oc) (j i:NT) (b:N6),b.length=c.length->bindArgs (JZ x x (jB st) (ym st) (zi st) .none e g d k j i) ⟨b,[]⟩=pure (c.zip b)):Def K l x st c :=
 ⟨f,_,oX a.2.1 a.2.2.1 a.2.2.2,(oX (st:=st) a.2.1 a.2.2.1 a.2.2.2).binds p,Ju X G a.1⟩
theorem rK {X:Cx} {x:Str} {C:Ij} {B b c:String} {j:N6} {i:Expr} {es:Od} {t:TA} {O a pos:Pos} {E:XK}
  (m:∀ e s',IK (model X.prog X.w) X.A (leaving X.env e) (λ_ f=>CXf X.prog X.w X.outer X.H₀ X.s₀ E e f) (λ_ _=>False) s'->X.xe e s')
  (n:X.stack=X.env :: X.outer) (S:X.env.frame=NQ X.env.locals) (r:X.ex=[]) (Y:X.calm=NS) (hg:Gl X x) (v:X.mg x=NQ (.ref C)) (U:LZ X.K C j b=NS) (G:ExcBaseFacts B b c j)
  (Z:PA X (i :: es) t) (g:Jg (i :: es) X.env=(NV,eval i X.env) :: Jg es X.env:=by rfl) (o:(backTo a (Jg es X.env)).any (·.1)=NV:=by rfl) (W:(x == ("__debug__":Str))=NV:=by decide) :
  PS X (.Raise (NQ (.Call (.Name x O) (i :: es) [] a)) NW pos) (Al (.ref C) E t):=by
 intro NJ s J H D I h;obtain⟨L,N,nm,q,bs,hdct,sn,sub,ab,col,dd,k0,k1,k2,k3,k5,mN,hC,hN,p,T⟩:=(CF I.ok.mod.kin v U).obj;have d:(backTo a (Jg (i :: es) X.env)).any (·.1)=NV:=by
  rw [g];show (NV || (backTo a (Jg es X.env)).any (·.1))=NV;rw [o];rfl
 refine wpAny_Raise_call_subT (C:=C) (bm:=L) (N:=N) (nm:=nm) (q:=q) (bs:=bs) (hdct:=hdct) (sn:=sn) (sub:=sub) (ab:=ab) (col:=col) (dd:=dd) (k0:=k0) (k1:=k1) (k2:=k2) (k3:=k3) (k5:=k5) (mN:=mN) G (T.hasType G.hasBase) (I.ok.hd Y) d p (v7 I hg v ⟨rfl,?_⟩ W);have F:=Z a NJ s J H _ I h;rw [g] at F ⊢;refine L7 (JD F (λus s1 Q=>?_) λ_ _ z=>z);obtain⟨vs,H1,l,M,R,hE⟩:=Q;refine⟨rfl,by rw [<-M.length];exact JL (z7 R),l.bk _ _ hC,hN.keeps l.bk,T.keeps l.bk,λh' e u=>m _ _ ?_⟩;obtain⟨t0,P,_,_⟩:=u.there;refine nJ (nI _ _) (leave_new (E:=λ_ _=>False) l n S r u) λ_ f y k=>⟨e,_,NW,H1,rfl,y,Dct.kd (h:=h') ⟨_,P,rfl,λdx z=>nomatch z⟩ k,hE⟩
end L2
end
section
open PySem PySem.Spec PyProof.Rows
namespace L2
def Hk (d:XK->TS) (c:TS):XK->TS:=λE D b H=>d E { D with nx:=λa e=>c D a e } b H
section
variable {X:Cx}
theorem FU {c:Expr} {a b j:Oe} {r:TT} {v t:XK->TS} {p:TS} {pos:Pos} (G:PT X.nox c r) (L:PBy X a v) (K:PBy X b t) (M:PSs X.nox j p):PBy X (.If c a b pos :: j) (Hk (bIf r v t) p):=by
 intro l s o H D E I h;refine LX (wpAny_If (JD (G l s o H _ (I.wish _) h) (λd m z=>?_) λ_ _ z=>z.elim));obtain⟨n,y,x⟩:=z;have done:∀ (g:Flow) (i:NU),SP X l { D with nx:=λf k=>p D f k } g i->match g with | .next=>IK (model X.prog X.w) X.A (execs j X.env) (SP X l D) (λe i=>∃ n m,Inv X l o n m/\CXf X.prog X.w X.stack n m E e i) i | g=>SP X l D g i:=λg i z=>by
  cases g with
  | next =>
   obtain⟨B,O,N,F⟩:=z;refine JD (M l i _ O D (N.wish _) F) (λg P z=>?_) λ_ _ z=>z.elim;cases g with
   | next=>obtain⟨f,k,J,q⟩:=z;exact⟨f,k,J.unwish,q⟩
   | brk=>obtain⟨f,k,J,q⟩:=z;exact⟨f,k,J.unwish,q⟩
   | cont=>obtain⟨f,k,J,q⟩:=z;exact⟨f,k,J.unwish,q⟩
   | ret u=>obtain⟨C,f,k,J,q⟩:=z;exact⟨C,f,k,J.unwish,q⟩
  | brk=>exact z
  | cont=>exact z
  | ret u=>exact z
 cases d with
 | true=>exact JD (L l m o n _ E y.unwish x) (λg i z=>done g i z) λ_ _ z=>z
 | false=>exact JD (K l m o n _ E y.unwish x) (λg i z=>done g i z) λ_ _ z=>z
end
section
variable {K:Ih} {f:Fx} {ρ:zu} {D:DEnds} {Z:NT->XD->Prop}
theorem Hl {q:XK->TS} {o:TS} (h:PYd K f q ρ { D with nx:=λk=>PSd K f o k D } Z):PYd K f (Hk q o) ρ D Z:=λE s H N e n r b c z =>
 h E s H _ e (λk m u l t p=>p m u N t (λg a j i=>n g a j (l.trans i)) (λd v j i=>r d v j (l.trans i)) (λg a j i=>b g a j (l.trans i)) (λg a j i=>c g a j (l.trans i))) r b c z
end
theorem FnOk.up {P:NY} {w:NX} {K:Ih} {g:Str->N7} {base:Heap} {CX:CXT} {k:Nat} {f:Ij} {h:FuncData} {d:Oa} {sp:Sp} (F:FnOk P w K g base CX0 k f h d sp):FnOk P w K g base CX k f h d sp :=
 ⟨F.len,λA a s H b j i Q E n o p l m=>LQ (F.run A a s H b j i Q E n o p l m) λc r z=>by
  cases c with
  | error e=>exact JU z
  | ok q=>cases q <;> exact z⟩
theorem FnIn.at {P:NY} {w:NX} {K:Ih} {b:Str->N7} {base:Heap} {k:Nat} {x:Str} {c:Oa} {sp:Sp} {CX:CXT} (h:FnIn P w K b base k x c sp) {a:Ij} (i:b x=NQ (.ref a)):FnAt P w K b base CX k a sp:=by
 obtain⟨f,j,F,e,d,g⟩:=h.ex;rw [i] at e;cases e;exact⟨j,c,F.up,d,g⟩
theorem FnInF.at {P:NY} {w:NX} {K:Ih} {b:Str->N7} {base:Heap} {k:Nat} {x:Str} {c:Oa} {sp:Sp} (h:FnInF P w K b base k x c sp) {a:Ij} (i:b x=NQ (.ref a)):FnAt P w K b base (CXf P w) k a sp:=by
 obtain⟨f,j,F,e,d,g⟩:=h.ex;rw [i] at e;cases e;exact⟨j,c,F,d,g⟩
section
variable {X:Cx} {k:Nat} {fns:List (Ij×Sp)} {E:XK} {fe e:Expr} {es:Od} {tf:TE} {t:TA} {pos spos:Pos}
def lJ (sps:List Sp) (t:TA):XK->TS:=λE D a H=>t a H λc f=>∃ b,b∈sps/\b c f (λ_ d=>D.nx a d) E
theorem nK {f:Ij} {b:Str} {sps:List Sp} {c:Expr} {p a:Pos} (G:∀ sp,sp∈sps->FnAt X.prog X.w X.K X.mg X.base (CXf X.prog X.w) k f sp) (O:Room k X.A) (x:Gl X b) (o:X.mg b=NQ (.ref f)) (Q:JW X.K (.ref f)=NS) (T:PA X.nox (c :: es) t)
  (y:(b == ("__debug__":Str))=NV:=by decide) (R:Jg (c :: es) X.env=(NV,eval c X.env) :: Jg es X.env:=by rfl) (n:(backTo a (Jg es X.env)).any (·.1)=NV:=by rfl)
  (m:swapsWith (.Call (.Name b p) (c :: es) [] a) NW spos.line X.env=pure NV:=by rfl) :
  PBy X [.Expr (.Call (.Name b p) (c :: es) [] a) spos] (lJ sps t):=by
 intro L s i H D E I h;refine LX (wpAny_Expr_any ?_ I.quiet m);refine wpAny_Call_Name_kw (v7 I x o ?_ y);refine Mo (h₀:=X.base) I.ok.mod.kin Q (JD (T a L s i H _ (I.wish _) h) (λj g q=>?_) λ_ _ z=>z.elim) R n;obtain⟨M,C,B,r,sp,P,q⟩:=q;have d:Inv X L i C g:=B.unwish;obtain⟨fd,ps,F,_,S⟩:=(G sp P).ex;refine⟨d.kIn,?_⟩;have J:=S g j d.kIn (by rw [Jo,<- r.length];exact F.len _ _ _ _ q);rw [Jo] at J;refine wpAny_call (LQ (F.run X.A X.stack g C ⟨j,[]⟩ j M _ _ O d.env0 J r q) λl Z z=>?_);cases l with
 | error e=>exact⟨C,g,d,z⟩
 | ok U =>
  cases U with
  | ret u =>
   obtain⟨v,Y,W,r2,N⟩:=d.after z;exact wpAny_execs_nil ⟨i,Y,W,N⟩
  | next=>exact JU z
  | brk=>exact JU z
  | cont=>exact JU z
end
section
variable {K:Ih} {f:Fx} {ρ:zu} {E:XK} {ti:TE} {t:TA} {D:DEnds} {Z:NT->XD->Prop} {as:N8} {fns:List (Ij×Sp)} {sps:List Sp} {γ:Type} {n:Nat} {pre:γ->List DV->Prop} {post:γ->NR->Prop} {posn:γ->Oo->Prop} {exc:γ->NT->XD->Prop}
theorem A7 (p:spN K n pre posn∈sps) (c:γ) (h:PAd K f t ρ λxs=>xs.length=n/\pre c xs/\∀ r,posn c r->D.nx ρ):PYd K f (lJ sps t) ρ D Z:=λE b H N e k v bk w z =>
 h b H _ e λxs u x a i ⟨l,o,m⟩=>⟨_,p,f,xs,c,i,l,a.2,o,λq y g s d _ _ _ j=>k ρ b s (a.trans d) (e.mono (a.trans d)) (m q j)⟩
theorem nL (s:spF K n pre post exc∈sps) (c:γ) (h:PAd K f t ρ λxs=>xs.length=n/\pre c xs/\(∀ r,post c r->D.nx ρ)/\∀ C x,exc c C x->Z C x):PYd K f (lJ sps t) ρ D Z:=λE b H N e k F bk G z =>
 h b H _ e λxs B I a g ⟨l,q,p,m⟩=>⟨_,s,f,xs,c,g,l,a.2,q,λr v y d _ i=>k ρ b y (a.trans d) (e.mono (a.trans d)) (p r i),λC o x A u w j=>z C o x A (a.trans u) w (m C x j)⟩
end
end L2
end
section
namespace L2
open PySem PySem.Spec PyProof.Rows
structure TQ (K:Ih) (f:Fx) (a:Ij) (as:N8) (H2:Hp) (ρ:zu) (NI:List (List NR)) (σ:St) (H:Hp):Prop where
 env:EnvOk K (f.withs (a :: as)) ρ σ H
 sm:Same (hide H2 (f.withs (a :: as))) (hide H (f.withs (a :: as)))
 kp:∀ b∈f.M,H b=H2 b
 top:H a=NQ (.lst (as.map .ref))
 nd:(a :: as).Nodup
 len:as.length=NI.length
 row:∀ (i:Nat) x r,as[i]?=NQ x->NI[i]?=NQ r->∃ vs,H x=NQ (.lst vs)/\Reps K (hide H (f.withs (a :: as))) r vs
inductive PEs (X:Cx):Oz->List (TE×TE)->Prop where
 | nil:PEs X [] []
 | cons {k v:Expr} {tk tv:TE} {es:Oz} {ts:List (TE×TE)}:PE X k tk->PE X v tv->PEs X es ts->PEs X ((k,v) :: es) ((tk,tv) :: ts)
inductive RelPs:List (V×V)->List (NT×NT)->Prop where
 | nil:RelPs [] []
 | cons {k v:V} {a b:NT} {l:List (V×V)} {us:List (NT×NT)}:RelV k a->RelV v b->RelPs l us->RelPs ((k,v) :: l) ((a,b) :: us)
inductive RepP (K:Ih) (Hh:Hp):Ow->List (V×V)->Prop where
 | nil:RepP K Hh [] []
 | cons {k v:NR} {a b:V} {l:Ow} {us:List (V×V)}:Rep K Hh k a->Rep K Hh v b->RepP K Hh l us->RepP K Hh ((k,v) :: l) ((a,b) :: us)
end L2
end
section
set_option maxHeartbeats 400000
namespace L2
open PySem PySem.Spec PyProof.Rows
structure PEw (X:Cx) (e:Expr) (t:TE):Prop where
 pe:PE X e t
structure PEsW (X:Cx) (es:Oz) (ts:List (TE×TE)):Prop where
 pes:PEs X es ts
def rL (w:NX) (K:Ih) (D:Ij) (tk b:TE):TB:=λa H Q=>tk a H λk e=>b a e λv d=>cY w K (.ref D) k v d λc=>Q a c
def rM (w:NX) (c:TI) (own:Nat) (fr:Om) (g:TG) (d:TT) (e:Ij->TB):TE:=λa H Q=>c a H λJ b=>∀ D,b D=NW ->
 cJ J g d (e D) (y9 own fr a) (upd b D (DicO w D [])) λ_ f=>Q (.ref D) f
theorem A8 {X:Cx} {w:NX} {K:Ih} {D:Ij} {o m:Expr} {tk n:TE} {pos:Pos} (U:X.w=w) (hK:X.K=K) (hu:X.A.units+64<JR) (hk:PE X o tk) (W:PE X m n) :
  PB X (do
   let c <- eval o X.env
   let g <- holding [c] (eval m X.env)
   standAt pos
   holding [c,g] (dictSet D c g)) (rL w K D tk n):=by
 subst U hK;intro r s f H Q I h;refine Ic (thn (hk r s f H _ I h) λc F ⟨k,H1,I1,L,N⟩=>?_);refine Ic (Ji (thn (W r F f H1 _ I1 N) λg E ⟨v,H2,j,J,M⟩=>?_));refine Ic (wpAny_standAt ?_);obtain⟨a,b,d,xs,ea,rfl,p,S,T,G,Z,q⟩:=M;cases ea;cases L;obtain⟨Y,P⟩:=gC j p S;refine Ji (wpAny_dictSet_heap (by show _+40<JR;lia) (vK j T G) Y (λh' i C=>?_) (JL (z7 Z)));obtain⟨O,es',ep',l,B,z,y,x5,t⟩:=i;exact⟨f,_,j.write (t':=E.toks+yk d) (x:=D) (e:=D) (by rw [p];exact trivial) (.inl rfl) (λb u R e=>(C.2 b R).trans e) ⟨O,l⟩ (DicO.ok ⟨l,B,z,y,t,P⟩),q _ J⟩
section
variable {X:Cx} {NJ:N9} {s:NU} {σ:St} {H:Hp} {tg kx vx iter:Expr} {ifs:Od} {rest:List Comprehension} {sc scO:Scope} {NO N:Oa} {own:Nat} {fr:Om} {wi:TI} {g:TG} {tt:TT} {tb:Ij->TB} {pos:Pos}
theorem wO {RR:NT->Ij->Result->NU->Prop} {y:Ij} {O:N8} {W:Nat->Heap->Prop} {J:It} {Q:VK} (S:CompScope NO scO N sc own fr) (hN:X.N=NO) (Y:X.env.scope=scO) (hc:X.calm=NS)
  (hg:∀ d i n l,PG (zk X sc N d i n l) tg g) (ht:∀ d i n l,PTs (zk X sc N d i n l) ifs tt)
  (j:∀ D d i n l,∃ B,PB (zk X sc N d i n l) B (tb D)/\∀ y,compTurn (.DictComp kx vx (⟨tg,iter,ifs,0⟩ :: rest) sc pos) 0 y (.ref D) (zk X sc N d i n l).env=(do
   standAt iter.pos
   match <- pyNext y with
   | none=>pure (.done .next)
   | some v =>
    J4 tg y v
    assign tg (zk X sc N d i n l).env v
    let mut ok:=NS
    for c in ifs do
     if ok then ok <- isTrue c (zk X sc N d i n l).env (eval c (zk X sc N d i n l).env)
    if ok then
     B
    again (.compLoop (.DictComp kx vx (⟨tg,iter,ifs,0⟩ :: rest) sc pos) 0 y (.ref D) (zk X sc N d i n l).env)))
  (I:Inv X NJ σ H s) (T:Turn X.prog X.w X.K tg J O y W) (st:W 0 s.heap) (f:∀ b∈O,bM X NJ H b)
  (h:∀ D,H D=NW->cJ J g tt (tb D) (y9 own fr σ) (upd H D (DicO X.w D [])) λ_ H2=>Q (.ref D) H2)
  (hRR:∀ (D C:Ij) (s':NU) (P:Hp),(∃ m,s'.heap.Ns C m)->C≠X.env.locals->(∀ x c,X.env.cells.lookup x=NQ c->c≠C)->P C=NW->X.s₀.heap.objs.size<=C->(∀ p∈X.pn++NJ,p.1≠C)->Inv X NJ σ P s'->Q (.ref D) P->RR (.ref D) C (.ok .next) s') :
  IK (model X.prog X.w) X.A newDict (λacc F=>IK (model X.prog X.w) X.A (newFunctionEnv sc X.env.globals (yj X.env sc.names []) [] X.env.qual NW .none (NQ X.env)) (λu E =>
   codeAny (model X.prog X.w) X.A (.compStart (.DictComp kx vx (⟨tg,iter,ifs,0⟩ :: rest) sc pos) 0 (.ref y) acc { u with scope:=relabel sc X.env }) (RR acc u.locals) E) X.xe F) X.xe s:=by
 refine wpAny_newObj_type (eF ?_);have M:∀ b∈O,b<s.heap.objs.size:=λb j=>by
  obtain⟨o,e,_⟩:=T.obj _ _ st b j;exact IA e
 have I3:=I.laid (a:=s.heap.objs.size) (t':=s.toks) (λ_ _ q=>Im _ q) (Iu _) (DicO.ok (xs:=[]) (o:={ cls:=.type "dict",data:=.dict #[] }) (es:=#[]) (ep:=0) ⟨IT _ rfl,⟨rfl,rfl,rfl⟩,rfl,rfl,JC,beq_eq_false_iff_ne.mpr (JM (IU (lD I)))⟩);have f3:∀ b∈O,bM X NJ (upd H s.heap.objs.size (DicO X.w s.heap.objs.size [])) b:=λb j=>⟨by rw [zx (IU (M b j))];exact (f b j).1,(f b j).2⟩;have L:W 0 (s.heap.push { cls:=.type "dict",data:=.dict #[] }):=T.keep _ _ _ st λb _ o e=>Im _ e;have U:=mJ (tk:=s.toks) S hN Y I3 f3 (T.obj _ _ L);obtain⟨B,pb,heq⟩:=j s.heap.objs.size _ _ _ _;have G:=T.keep _ _ (pushCells ((s.heap.push { cls:=.type "dict",data:=.dict #[] }).push { cls:=.type "dict",data:=.dict #[] }) sc.names) L λb _ o e=>pushCells_keeps _ _ _ _ (Im _ e);have k:∀ x c,X.env.cells.lookup x=NQ c->c<s.heap.objs.size:=λx c e=>by
  obtain⟨v,o,ho,hd⟩:=I.cell x c e;exact IA ho
 have r:(s.heap.push { cls:=.type "dict",data:=.dict #[] }).objs.size=s.heap.objs.size+1:=Ld ..;have t:=fO (X:=zk X sc N { s with heap:=s.heap.push { cls:=.type "dict",data:=.dict #[] } } (upd H s.heap.objs.size (DicO X.w s.heap.objs.size [])) O (X.pn++NJ)) (R:=RR (.ref s.heap.objs.size) (s.heap.push { cls:=.type "dict",data:=.dict #[] }).objs.size) (λ_ _ z=>z) hc (hg _ _ _ _) (ht _ _ _ _) pb heq (λ_=>rfl) (λ_=>rfl) (λ_=>rfl) U T G
  (λb j=>⟨(f3 b j).1,U.ok.exf b j |>.1,U.ok.exfs b j,.inl j,U.ok.exf b j |>.2,λp hp=>by
   have Z:p∈X.pn++NJ:=by simpa [zk] using hp
   exact (f b j).2.2.2.2.2 p Z⟩) (h _ I.fresh)
  (λσ' P s' J' fr' q'=>hRR _ _ s' P (let⟨m,hm,_⟩:=J'.loc;⟨m,hm⟩) (by rw [r];exact Lz (JO I.lt)) (λx c e=>by rw [r];exact IU (JO (k x c e))) J'.free (by rw [r];exact Nat.le_succ_of_le I.sz) (λp hp=>by rw [r];exact IU (JO (IA (I.pin p hp).1))) (comp_back (h':=s'.heap) I3 f3 J' (Heap.SameBut.refl ..)) q')
 exact codeAny_compStart_dict t (T.self X.A 0 _ _ _ G t)
theorem A9 (S:CompScope NO scO N sc own fr) (L:X.calm=NS) (K:PI X tg iter wi) (hg:∀ a b f d,PG (zk X sc N a b f d) tg g) (z:∀ a b f d,PTs (zk X sc N a b f d) ifs tt)
  (M:∀ D a b f d,∃ l,PB (zk X sc N a b f d) l (tb D)/\∀ i,compTurn (.DictComp kx vx (⟨tg,iter,ifs,0⟩ :: rest) sc pos) 0 i (.ref D) (zk X sc N a b f d).env=(do
   standAt iter.pos
   match <- pyNext i with
   | none=>pure (.done .next)
   | some v =>
    J4 tg i v
    assign tg (zk X sc N a b f d).env v
    let mut ok:=NS
    for c in ifs do
     if ok then ok <- isTrue c (zk X sc N a b f d).env (eval c (zk X sc N a b f d).env)
    if ok then
     l
    again (.compLoop (.DictComp kx vx (⟨tg,iter,ifs,0⟩ :: rest) sc pos) 0 i (.ref D) (zk X sc N a b f d).env)))
  (O:X.N=NO) (j:X.env.scope=scO) (B:∀ x,JG iter X.env x=pure x) {w:NX} (y:X.w=w) :
  PE X (.DictComp kx vx (⟨tg,iter,ifs,0⟩ :: rest) sc pos) (rM w wi own fr g tt tb):=by
 subst y;intro NJ s σ H Q I h;rw [arm_eval_DictComp];refine wpAny_comprehension_free (use:=NW) rfl B (kH S j I.ok) S.kind (λp E G=>yu S.snd (k:=.local) (by rw [<-G];exact E)) (thn (K NJ s σ H _ I h) λv s1 R=>thn R λu s2 P=>?_);obtain⟨i,fp,tn,J,H2,e,I2,T,n,U,q⟩:=P;subst e;refine wO (RR:=λr C=>compPost (model X.prog X.w) X.A X.xe NW (EP X NJ σ Q) r C) S O j L hg z M I2 T n U q ?_;rintro D C s' H' ⟨m,F⟩ c0 c1 Z Y W J' t;exact⟨m,F,λh' o=>⟨.ref D,H',J'.touch o Z c0 c1 Y W,rfl,t⟩⟩
theorem wQ {a acc:NT} {D:Ij} {env:Env}:compTurn (.DictComp kx vx [⟨tg,iter,ifs,0⟩] sc pos) 0 a (.ref D) env=(do
   standAt iter.pos
   match <- pyNext a with
   | none=>pure (.done .next)
   | some v =>
    J4 tg a v
    assign tg env v
    let mut ok:=NS
    for c in ifs do
     if ok then ok <- isTrue c env (eval c env)
    if ok then
     (do
      let kv <- eval kx env
      let vv <- holding [kv] (eval vx env)
      standAt { kx.pos with endLine:=vx.pos.endLine,endCol:=vx.pos.endCol }
      holding [kv,vv] (dictSet D kv vv))
    again (.compLoop (.DictComp kx vx [⟨tg,iter,ifs,0⟩] sc pos) 0 a (.ref D) env)):=compTurn_dict ..
theorem wR {w:NX} {K:Ih} {tk f:TE} (h:X.w=w) (q:X.K=K) (j:X.A.units+64<JR) (S:CompScope NO scO N sc own fr) (o:X.calm=NS) (n:PI X tg iter wi) (hg:∀ a b d c,PG (zk X sc N a b d c) tg g) (k:∀ a b d c,PTs (zk X sc N a b d c) ifs tt) (m:∀ a b d c,PE (zk X sc N a b d c) kx tk) (i:∀ a b d c,PE (zk X sc N a b d c) vx f)
  (p:X.N=NO) (e:X.env.scope=scO) (l:∀ x,JG iter X.env x=pure x):PE X (.DictComp kx vx [⟨tg,iter,ifs,0⟩] sc pos) (rM w wi own fr g tt λD=>rL w K D tk f) :=
 A9 S o n hg k (λD a b d c=>⟨_,A8 (X:=zk X sc N a b d c) (D:=D) h q j (m a b d c) (i a b d c),λ_=>wQ (acc:=.none)⟩) p e l h
end
structure CSo (w:NX) (K:Ih) (f:Fx) (D:Ij) (H2:Hp) (ρ':zu) (kvs:Ow) (σ:St) (H:Hp):Prop where
 env:EnvOk K (f.with D) ρ' σ H
 sm:Same (hide H2 (f.with D)) (hide H (f.with D))
 kp:∀ b∈f.M,H b=H2 b
 own:OwnAt w K (hide H (f.with D)) H D (.dic kvs)
section
variable {w:NX} {K:Ih} {f:Fx} {ρ:zu} {D:Ij} {wi:TI} {g:TG} {tt:TT} {tk tv:TE} {kvs:Ow}
theorem CSo.go {j H h:Hp} {k:St} (c:CSo w K f D j ρ kvs k H) (e:Goes (f.with D) H h) {d:zu} {a:St} (l:EnvOk K (f.with D) d a h):CSo w K f D j d kvs a h :=
 ⟨l,c.sm.trans e.sm,λb i=>(e.kp b (Ii _ i)).trans (c.kp b i),c.own.mono (e.kp D Ik) e.sm⟩
theorem CSo.self {b H:Hp} {a:St} (c:CSo w K f D b ρ kvs a H):CSo w K f D H ρ kvs a H:=⟨c.env,Same.refl _,λ_ _=>rfl,c.own⟩
theorem CSo.trans {i H j:Hp} {a:Ow} {e:zu} {k σ':St} (c:CSo w K f D i ρ kvs k H) (d:CSo w K f D H e a σ' j):CSo w K f D i e a σ' j:=⟨d.env,c.sm.trans d.sm,λb h=>(d.kp b h).trans (c.kp b h),d.own⟩
def PBo (w:NX) (K:Ih) (f:Fx) (D:Ij) (i:TB) (ρ:zu) (kvs:Ow) (R:zu->Ow->Prop):Prop:=f.f≠NQ D->D∉f.M->∀ (d:St) (H e:Hp) (W:St->Hp->Prop),CSo w K f D e ρ kvs d H ->
 (∀ c a b h,CSo w K f D e c a b h->R c a->W b h)->i d H W
theorem C8 {R:zu->Ow->Prop} (A:kvs.length<=1000) (h:PEd K (f.with D) tk ρ λk=>eY k/\PEd K (f.with D) tv ρ λv=>R ρ (dput k v kvs)):PBo w K f D (rL w K D tk tv) ρ kvs R:=λC B l H M W c q =>
 h l H _ c.env λk J G r n ⟨e,E⟩=>by
  have j:=c.go r (c.env.mono r);refine E l G _ j.env λv I L i x y=>?_;have d:=j.go i (j.env.mono i);obtain⟨b,rfl⟩:=vo e n;obtain⟨s,F,a⟩:=d.own;have m:=Rep.mono i.sm _ _ n;refine⟨D,b,k,s,rfl,rfl,F,λz o=>⟨(yN a z o).1,Rep.mono (zo _ _) _ _ (yN a z o).2⟩,e.1,Rep.mono (zo _ _) _ _ m,by rw [cZ a];exact A,λu t=>?_⟩;refine q _ _ _ _ ⟨kM C d.env,by rw [yp];exact d.sm,λb p=>(zx (λ(z:b=D)=>B (z▸p))).trans (d.kp b p),_,zy,?_⟩ y;rw [yp];exact lE e.1 m x t a
theorem C9 {y:Fx} {C E H:Hp} {ds:Oo} {J:It} {G:TB} {F:St} {W:St->Hp->Prop} (I:ItD K y ds J C) (hD:f.f≠NQ D) (hM:D∉f.M) (c:CSo w K f D E ρ kvs F H) (T:Same (hide C y) (hide H (f.with D)))
  (l:Nat->zu->Ow->Prop) (j0:l 0 ρ kvs)
  (Z:∀ (i:Nat) d e a,ds[i]?=NQ d->l i e a->PGd K (f.with D) g d e λh=>PTd K (f.with D) tt h λb=>if b=NS then PBo w K f D G h a (l (i+1)) else l (i+1) h a)
  (hW:∀ e a σ' j,CSo w K f D E e a σ' j->l ds.length e a->W σ' j):cJ J g tt G F H W:=by
 refine⟨λi m σ' j=>∃ e a,CSo w K f D E e a σ' j/\Same (hide C y) (hide j (f.with D))/\l i e a/\m+i=ds.length,⟨ds.length,ρ,kvs,c,T,j0,rfl⟩,λi m σ' j ⟨e,a,q,k,p,hm⟩=>?_⟩;by_cases L:i<ds.length
 ·obtain⟨t,hy⟩:=I.go (f.with D) j i _ q.env.fd k (Ia L);refine .inr ⟨t,λx R hx=>?_⟩;obtain⟨v,U⟩:=hy x R hx;have P:=q.go v (q.env.mono v);refine Z i _ e a (Ia L) p σ' R x _ P.env U λh n H4 N A Y=>?_;have c4:=P.go N A;refine Y n H4 _ A λb Q u r=>?_;have B:=c4.go u (A.mono u);have o:=((k.trans v.sm).trans N.sm).trans u.sm;cases b with
  | false =>
   rw [NL Ie] at r ⊢;exact⟨m - 1,by lia,h,a,B,o,r,by lia⟩
  | true =>
   rw [NM rfl] at r ⊢;exact r hD hM n Q Q _ B.self λs z S H6 O X=>⟨m - 1,by lia,s,z,B.trans O,o.trans O.sm,X,by lia⟩
 ·have ei:i=ds.length:=by lia
  subst ei;exact .inl ⟨I.st (f.with D) j q.env.fd k,hW e a σ' j q p⟩
theorem Dc {own:Nat} {fr:Om} {t:Ij->TB} {P:OC->Prop} (h:PId K f wi ρ λds=>∃ k:Nat->zu->Ow->Prop,k 0 (ag own fr ρ) [] /\
   (∀ D (i:Nat) d c a,ds[i]?=NQ d->k i c a->PGd K (f.with D) g d c λj=>PTd K (f.with D) tt j λb=>if b=NS then PBo w K f D (t D) j a (k (i+1)) else k (i+1) j a) /\
   ∀ c a,k ds.length c a->P (.dic a)):gx w K f (rM w wi own fr g tt t) ρ P:=λs H Q e q =>
 h s H _ e λds J v n C ⟨k,B,y,A⟩ D l=>by
  have u:=fresh_ne n.2 l;have G:f.f≠NQ D:=λz=>u (.inl z);have F:D∉f.M:=λz=>u (.inr z);have L:=e.mono n;have N:CSo w K f D (upd v D (DicO w D [])) (ag own fr ρ) [] (y9 own fr s) (upd v D (DicO w D [])):=⟨kL (dQ L) l,Same.refl _,λ_ _=>rfl,[],zy,.nil⟩;refine C9 C G F N (jX l) k B (y D) λc a x O m p=>?_;refine q (.dic a) D O (n.trans ⟨((jX l).trans m.sm).trans y4,⟨m.env.fd.fd,λb r=>m.env.fd.mm b (Ii _ r),λp e E=>m.env.fd.nm p e (Ii _ E)⟩,λb r=>?_⟩) (n.free e.fd l) m.own (A c a p);rw [m.kp b r,zx];obtain⟨o,I⟩:=n.2.mm b r;exact zN I l
theorem FV {a:TE} {P:DV->Prop} (h:gx w K f a ρ λc=>∃ kvs,c=.dic kvs/\P (.mon (qE w K kvs))):PEv K f a ρ P:=λb H Q e q=>h b H Q e λc D r g k i ⟨kvs,n,p⟩=>by
 subst n;obtain⟨d,m,l⟩:=i;have j:=fresh_ne e.fd k;exact q (.mon (qE w K kvs)) (.ref D) r g (λo s=>⟨D,d,rfl,s D _ (zG j m),EntR.mono (y4.trans s) l⟩) p
theorem Hm {a:TE} {R:DV->Prop} (h:PEv K f a ρ R):PSv K f (g9 a) ρ R:=λb H E e q=>h b H _ e λx v c g r p=>q x v c g r p
end
end L2
end
section
namespace L2
open PySem PySem.Spec PyProof.Rows PySem.SetTable
end L2
end
section
namespace L2
open PySem PySem.Spec PyProof.Rows PySem.SetTable
noncomputable def byT (w:NX):Bool:=w.params.followText "set-order"
structure ISet (w:NX) (h:Heap) (a:Ij) (xs:List (Int×Tok)) (o:Obj) (es:Array (Int×NT)) (ep:Nat) (t:SetTable):Prop where
 ob:h.get? a=NQ o
 ex:o.ExactSet
 da:o.data=.set es ep t
 el:es.toList=xs.map λx=>(hashInt x.1,Value.int x.1 x.2)
 ok:ST.TOk t (xs.map λx=>hashInt x.1)
 pl:t.plain=NS
 ld:byT w=NS \/ t.led=NS
end L2
end
section
namespace L2
open PySem PySem.Spec PyProof.Rows PySem.SetTable
end L2
end
section
namespace L2
open PySem PySem.Spec PyProof.Rows PySem.SetTable PySem.W
end L2
end
section
namespace L2
open PySem PySem.Spec PyProof.Rows
structure TV (K:Ih) (f:Fx) (H0:Hp) (a:Ij) (as:N8) (ρ:zu) (NI:Ot) (σ:St) (H:Hp):Prop where
 env:EnvOk K (f.withs (a :: as)) ρ σ H
 go:Goes f H0 H
 na:H0 a=NW
 nas:∀ x∈as,H0 x=NW
 tab:TabAt H a as NI
theorem lK {a b:Int} {s t:Tok} {c:NT}:∀ (l:N6),TriplesOk l->TriplesOk (l++[.int a s,.int b t,c]):=by
 intro l
 fun_induction TriplesOk l with
 | case1=>intro _;trivial
 | case2 _ _ _ _ _ r ih=>intro h;exact ih h
 | case3=>intro h;exact h.elim
theorem rN {pos:Pos} {a b:Int} {s t:Tok} {c e:NT}:∀ (l:N6),TriplesOk l->codeAmong pos (l++[.int a s,.int b t,c])=NQ e->codeAmong pos l=NQ e \/ e=c:=by
 intro l
 fun_induction TriplesOk l with
 | case1 =>
  intro _ h;have d:(if a == pos.line && b == pos.col then NQ c else codeAmong pos [])=NQ e:=h;split at d
  ·cases d;exact .inr rfl
  ·cases d
 | case2 i k j g v r ih =>
  intro f h;have d:(if i == pos.line && j == pos.col then NQ v else codeAmong pos (r++[.int a s,.int b t,c]))=NQ e:=h;show (if i == pos.line && j == pos.col then NQ v else codeAmong pos r)=NQ e \/ _;split at d
  ·rename_i q;rw [NM q];exact .inl d
  ·rename_i q;rw [NL q];exact ih f d
 | case3=>intro h;exact h.elim
section
variable {X:Cx} {NJ:N9} {σ:St} {H:Hp} {s:NU}
theorem Inv.tabAt (I:Inv X NJ σ H s) {c P:Ij} {q:Str} (a:q∈v5) (d:aK X.K c P=NS) (b:JH X.K (.ref c) q=NS):H P=NQ (.tbl (lamQ q)) :=
 I.env0.tabs c P q a d b
theorem Inv.bltAt (I:Inv X NJ σ H s) {P:Ij} {f:Array NT} (g:s.heap.get? P=NQ (K0 f)):s.heap.BuiltinsAt X.mg P:=by
 obtain⟨b,o,l,k,j,i,h,c⟩:=I.ok.mod.bm;have a:=I.bk _ _ j;refine⟨b,o,l,k,λe=>?_,λe=>?_,a,i,h,c⟩
 ·obtain⟨u,n,p,m,d,_⟩:=I.ok.mod.glob.keeps I.bk;rw [e,m] at a;cases a;rw [c] at d;cases d
 ·rw [e,g] at a;cases a;cases c
theorem nM {a:Arguments} {l:Expr} {Z:Scope} {pos:Pos} {c P:Ij} {q:Str} {j:Ol} {Q:NT->NU->Prop} {E:NT->NU->Prop} (I:Inv X NJ σ H s)
  (hq:q∈v5) (hc:X.env.code=.ref c) (h1:aK X.K c P=NS) (h2:JH X.K (.ref c) q=NS) (hqu:X.env.qual ++ "<lambda>"=lamQ q)
  (S:closureFor Z X.env=pure j) (R:defaultsOf a X.env=([],[]))
  (h:∀ f c' pm i s' H',Inv X NJ σ H' s'->Same H H'->s'.heap.get? f=NQ (M6 "<lambda>" (lamQ q) a l Z j pm c' i)->s'.heap.CodeRec (.ref c') (lamQ q)->Q (.ref f) s') :
  IK (model X.prog X.w) X.A (eval (.Lambda a l Z pos) X.env) Q E s:=by
 have G:=I.tabAt hq h1 h2;obtain⟨ps,F,Y,am⟩:=I.hok P _ G;have gl:=I.ok.mod.glob.keeps I.bk;have C:=Nu I.kIn (mC h1).1;refine PySem.W.kla_eval R ?_;rw [hqu];cases hf:codeAmong pos ps.toList with
 | some cv =>
  obtain⟨c',rfl,hc',rc⟩:=am pos cv hf;refine PySem.W.kla_makeFunctionHit S I.ok.glob gl hc C F Y hf (I.bltAt F) λi h' tk k sz=>?_;refine h _ c' _ i _ H (I.kept (t':=tk) λb u e=>Im _ (k b u e)) (Same.refl _) (IT _ rfl) ?_;obtain⟨c2,B,x,y,m,p,J⟩:=rc;exact⟨c2,B,x,y,m,Im _ (k _ _ p),J⟩
 | none =>
  have hgP:IP≠P:=λe=>by
   obtain⟨u,es,ep,m,d,_⟩:=gl;rw [e,F] at m;cases m;cases d
  refine PySem.W.kla_makeFunction S I.ok.glob gl hc C F Y hf hgP (I.bltAt F) λc' i h' tk hx O hlt N htb=>?_;have hn:H c'=NW:=I.hok.fresh O;have nc:∀ b o,s.heap.get? b=NQ o->b≠c':=λb o e=>IU (IW (IA e) O);have hPc:P≠c':=nc _ _ F;have M:∀ (t:Obj) b o,b≠P->s.heap.get? b=NQ o->(h'.push t).get? b=NQ o:=λt b o n e=>Im _ (hx b o n e);have tp:∀ t:Obj,(h'.push t).get? P=NQ (K0 (ps++#[rawInt pos.line,rawInt pos.col,.ref c'])):=λt=>Im _ htb;have g:∀ t:Obj,(h'.push t).CodeRec (.ref c') (lamQ q):=λt=>by
   obtain⟨c2,B,x,y,m,p,J⟩:=N;exact⟨c2,B,x,y,m,Im _ p,J⟩
  have v:Same H (upd H c' (.own P)):=yf hn _;refine h _ c' _ i _ (upd H c' (.own P)) (I.un (t':=tk) ⟨λb o e n _ _=>M _ b o (λz=>by rw [z,G] at n;cases n) e,λb o e n _ _=>⟨o.slots,M _ b o (λz=>by rw [z,G] at n;cases n) e⟩,λb o e n _=>by rw [zx (nc b o e)];exact n,λb o e _=>?_,
   λb xs e=>v _ _ e,λb o u e=>v _ _ e,λb z e=>v _ _ e⟩ λb o e=>?_) v (IT _ rfl) (g _)
  ·by_cases U:b=P
   ·subst U;exact⟨_,tp _⟩
   ·exact⟨o,M _ b o U e⟩
  ·by_cases U:b=c'
   ·subst U;rw [zy] at e;cases e;obtain⟨c2,B,x,y,m,p,J⟩:=g (M6 "<lambda>" (lamQ q) a l Z j ((X.mg "__name__").getD .none) b i);cases m;exact⟨_,p⟩
   ·rw [zx U] at e;by_cases T:b=P
    ·subst T;rw [G] at e;cases e;refine⟨_,tp _,?_,λL cv z=>?_⟩
     ·rw [Nv];exact lK _ Y
     ·rw [Nv] at z;rcases rN _ Y z with z | z
      ·obtain⟨c3,m,p,c4,B,x,y,J,e4,e5⟩:=am L cv z;cases J;exact⟨c3,m,v _ _ p,c3,B,x,y,rfl,M _ _ _ (λw=>by rw [w,G] at p;cases p) e4,e5⟩
      ·exact⟨c',z,zy,g _⟩
    ·refine (I.hok b o e).stay (λd u D r=>M _ d u ?_ r) (λd r=>v _ _ r) λd xs r=>v _ _ r;rcases D with D | D
     ·rw [D];exact T
     ·intro w;rw [w,G] at D;cases D
end
def Reads (P:NY) (w:NX) (env:Env) (h:Heap) (e:Expr) (R:NT->Prop):Prop :=
 ∀ (A:NZ) (s:NU) (Q:NT->NU->Prop) (E:NT->NU->Prop),s.heap=h->(∀ v a,R v->Q v { s with toks:=a })->IK (model P w) A (eval e env) Q E s
section
variable {P:NY} {w:NX} {env:Env} {h:Heap} {pos:Pos}
theorem nN {x:Str} {u:NT} {m:Str->N7} (d:env.scope.kind=.function) (a:env.kindOf x=NQ .local) (b:h.Ns env.locals m) (c:m x=NQ u) (f:(x == ("__debug__":Str))=NV:=by decide) :
  Reads P w env h (.Name x pos) (·=u):=λA s Q E e q=>wpAny_Name (wpAny_loadName_local d a (by rw [e];exact b) c (q u s.toks rfl)) f
theorem Dd {x:Str} {u:NT} {c:Ij} (f:env.scope.kind=.function) (b:env.kindOf x=NQ .free) (i:env.cells.lookup x=NQ c) (d:h.IsCell c (NQ u)) (g:(x == ("__debug__":Str))=NV:=by decide) (a:(x == ("__classdict__":Str))=NV:=by decide) :
  Reads P w env h (.Name x pos) (·=u):=λA s Q E e q=>wpAny_Name (wpAny_loadName_free f b i (by rw [e];exact d) (q u s.toks rfl) a) g
theorem rO {i:Int} {j:_}:Reads P w env h (.Constant (.int i) j pos) (λv=>∃ t,v=.int i t):=λA s Q E e q=>wpAny_Constant_int (q _ _ ⟨_,rfl⟩)
theorem Ba {a b:Expr} {l:Ij} {items:Array NT} {k:Int} {x:NT} (n:Reads P w env h a (·=.ref l)) (m:Reads P w env h b (λv=>∃ t,v=.int k t)) (f:h.IsList l items) (h0:0<=k) (j:k<2 ^ 63) (g:items[k.toNat]?=NQ x) (i:fh b) :
  Reads P w env h (.Subscript a b pos) (·=x):=λA s Q E e q=>by
 refine Subscript_ (n A s _ E e λv d c=>?_);subst c;refine m A _ _ E e λv d ⟨t,c⟩=>?_;subst c;refine item_listR (items:=items) (by rw [<-e] at f;exact f) h0 j g ?_ (i _ _);exact q x d rfl
end
section
variable {P:NY} {w:NX} {A:NZ} {s:NU} {f c:Ij} {name qual x:Str} {params:Arguments} {body:Expr} {sc:Scope} {clos:Ol} {pm ctv v:NT} {R:NT->Prop} {Q:NT->NU->Prop} {E:NT->NU->Prop}
theorem ub (B:s.heap.get? f=NQ (M6 name qual params body sc clos pm c ctv)) (n:s.heap.CodeRec (.ref c) qual) (g:A.depth<recursionLimit) (j:s.heap.NoLimit)
  (D:bindArgs (Nm name qual params body sc clos pm (.ref c) ctv) ⟨[v],[]⟩=pure [(x,v)]) (r:sc.names.lookup x=NQ .local) (h:∀ y∈sc.names,y.2≠.cell) (m:sc.isCoroutine=NV) (i:sc.isGenerator=NV) (C:sc.kind=.function)
  (t:∀ a:Heap,a.Ns s.heap.objs.size (λy=>[(x,v)].reverse.lookup y)->(∀ b o,s.heap.get? b=NQ o->a.get? b=NQ o)->Reads P w (Mm qual sc s.heap.objs.size f (.ref c) clos) a body R)
  (z:∀ (u:NT) (a:Heap) tk,R u->(∀ b o,s.heap.get? b=NQ o->a.get? b=NQ o)->Q u { s with heap:=a,toks:=tk }) :
  IK (model P w) A (call (.ref f) [v]) Q E s:=by
 refine wpAny_call (PySem.W.kla_callFunE g B rfl m i rfl n ?_);rw [D];refine Ip (wpAny_newFunctionEnv h (λy q=>?_) (λa l k=>?_) C)
 ·rw [Iw.mp q];exact r
 have d:∀ b o,s.heap.get? b=NQ o->a.get? b=NQ o:=λb o e=>k.extBut b o (IU (IA e)) (Im _ e);refine⟨j.keeps d,PySem.W.kla_codeExpr ?_⟩;exact t a l d _ _ _ _ rfl λu tk p=>z u a tk p d
end
theorem eg {c:Type}:∀ {l:List (Nat×c)} {x:Nat} {y:c},l.lookup x=NQ y->(x,y)∈l
 | [],_,_,h=>by cases h
 | (a,b) :: r,x,y,h=>by
  rw [JK] at h;cases e:x == a with
  | true=>rw [e] at h;cases h;rw [beq_iff_eq.mp e];exact Ik
  | false=>rw [e] at h;exact Ii _ (eg h)
noncomputable def c9 (K:Ih) (ts:OA):Bool :=
 ts.all (λp=>(K.lookup p.1).isNone && K.any λc=>Lj K c.1 p.1) && K.all λx=>match x.2.data with
  | .fields a=>(match (a[1]?:N7),(a[11]?:N7) with
   | some (.str q _),NQ (.ref P)=>!v5.contains q || ((K.lookup P).isSome || decide (ts.lookup P=NQ (lamQ q)))
   | _,_=>NS)
  | _=>NS
theorem FW {K:Ih} {h:Heap} (X:K.In h) {ts:OA} (e:c9 K ts=NS) {c P:Ij} {q:Str} (r:q∈v5) (h0:aK K c P=NS) (s:JH K (.ref c) q=NS):ts.lookup P=NQ (lamQ q):=by
 unfold c9 at e;rw [Io] at e;obtain⟨w,v,p,u,o,n,m,l⟩:=Mp X s;cases o;obtain⟨a,d⟩:=mC h0;unfold Lj at a;split at a
 ·rename_i t _ k;have b:=Kz.mp e.2 _ (eg k);dsimp only at b;have j:=X _ _ k;rw [n] at j;cases j;cases m;have g:(p[11]?:N7)=NQ (.ref P):=by
   simp only [Io] at a;obtain⟨⟨⟨⟨⟨i,_⟩,_⟩,_⟩,_⟩,_⟩:=a;split at i
   ·rename_i x f;rw [f,beq_iff_eq.mp i]
   ·cases i
  rw [l,g] at b;simp only [Bool.or_eq_true,Bool.not_eq_true'] at b;rcases b with z | z | z
  ·have:=List.contains_iff_mem.mpr r;rw [this] at z;cases z
  ·rw [d] at z;cases z
  ·exact N4 z
 ·cases a
noncomputable def iV (ts:OA) (c:Bool) (a:Ij) (o:Obj) (xs:List V):Hp:=λb=>match ts.lookup b with
 | some q=>NQ (.tbl q)
 | none=>if c=NS/\b=a then NQ (.frz o (.lst xs)) else NW
theorem wU {ts:OA} {c:Bool} {a b:Ij} {o:Obj} {xs:List V} {q:Str} (h:ts.lookup b=NQ q):iV ts c a o xs b=NQ (.tbl q):=by unfold iV;rw [h]
theorem Bb {ts:OA} {c:Bool} {a b:Ij} {o:Obj} {xs:List V} {u:HO} (h:iV ts c a o xs b=NQ u):(∃ q,ts.lookup b=NQ q/\u=.tbl q) \/ (c=NS/\b=a/\u=.frz o (.lst xs)):=by
 unfold iV at h;cases e:ts.lookup b with
 | some q=>rw [e] at h;cases h;exact .inl ⟨q,rfl,rfl⟩
 | none =>
  rw [e] at h;dsimp only at h;split at h
  ·rename_i z;cases h;exact .inr ⟨z.1,z.2,rfl⟩
  ·cases h
theorem wV {P:NY} {w:NX} {K:Ih} {D Y:Str->N7} {CX:CXT} {k:Nat} {fa a:Ij} {fd:FuncData} {x:Str} {sp:Sp} {f:NU} {i:N6} {ns:Oh} {ts:OA}
  (hB:c9 K ts=NS) (I:∀ p∈ts,f.heap.get? p.1=NQ (K0 #[])) (hbm:∃ b o,D "__builtins__"=NQ (.ref b)/\b≠builtinsNs/\f.heap.get? b=NQ o/\o.cls=.type "module"/\o.dict=NQ builtinsNs/\o.data=.plain)
  (X:K.In f.heap) (M:f.heap.Ns IP D) (hb:f.heap.Ns builtinsNs Y) (hbb:∀ x:Str,x ≠ "__name__"->Y x=bootBuiltins x) (N:f.heap.NoLimit) (hg:f.gens=#[])
  (O:f.heap.get? a=NQ { cls:=.type "list",data:=.seq i.toArray }) (hi:IntsAre i ns) (hl:ns.length<=Jr) (hr:Room k callerA)
  (F:∀ base:Heap,K.In base->base.Ns IP D->FnOk P w K D base CX k fa fd [x] sp) (B:∀ (s:NU) (u:NT),BindsTo s fd ⟨[u],[]⟩ [(x,u)])
  (Z:∀ H:Hp,SqL K H a (ns.map V.int)->sp [.ref a] H (λv _=>v=.bl NS) λ_ _ _=>False)
  (hCX:∀ H e s',CX [] H f (λ_ _ _=>False) e s'->False) :
  codeAny (model P w) callerA (.call (.ref fa) ⟨[.ref a],[]⟩) (λr s'=>r=.ok (.ret (.bool NS))/\OldK f.heap s'.heap/\s'.os=f.os/\AllBare s'.gens) f:=by
 have rv:=iF hi;have G:=hi.length;have R:∀ p∈ts,K.lookup p.1=NW/\∃ c,Lj K c p.1=NS:=λp hp=>by
  have t:=Kz.mp (Io _ _▸hB).1 p hp;rw [Io] at t;obtain⟨c,_,hc⟩:=MN.mp t.2;exact⟨KJ.mp t.1,c.1,hc⟩
 obtain⟨W,J⟩:∃ W:Bool,W=(K.lookup a).isNone:=⟨_,rfl⟩;generalize hH:iV ts W a { cls:=.type "list",data:=.seq i.toArray } (ns.map V.int)=H;have j:∀ {b u},H b=NQ u->(∃ q,(b,q)∈ts/\u=.tbl q/\f.heap.get? b=NQ (K0 #[])) \/ (W=NS/\b=a/\u=.frz { cls:=.type "list",data:=.seq i.toArray } (.lst (ns.map V.int))):=λ{b u} e=>by
  rw [<-hH] at e;rcases Bb e with⟨q,g,e2⟩ | z
  ·exact .inl ⟨q,eg g,e2,I _ (eg g)⟩
  ·exact .inr z
 have T:ts.lookup a=NW:=by
  cases e:ts.lookup a with
  | none=>rfl
  | some q=>have:=I _ (eg e);rw [O] at this;cases this
 have L:HOk P w H f.heap:=λb u e=>by
  rcases j e with⟨q,g,rfl,C⟩ | ⟨g,rfl,rfl⟩
  ·exact⟨#[],C,trivial,λpos cv z=>by cases z⟩
  ·exact⟨O,by rw [Ib];exact hl,i,_,rv,O⟩
 have A:∀ {b:Ij} {o:Obj},f.heap.get? b=NQ o->(∀ i,o.data≠.fields i)->(∀ i n,o.data≠.seq i n)->H b=NW:=λ{b o} e d1 d2=>by
  cases q:H b with
  | none=>rfl
  | some u =>
   rcases j q with⟨_,_,_,C⟩ | ⟨_,rfl,_⟩
   ·rw [e] at C;cases C;exact absurd rfl (d1 _)
   ·rw [O] at e;cases e;exact absurd rfl (d2 _ _)
 have l:∀ {b:Ij} {m:Str->N7},f.heap.Ns b m->(mB f.heap H).Ns b m:=λ{b m} ⟨o,es,ep,e,d,r⟩=>⟨o,es,ep,fE e (A e (λ_ z=>by rw [d] at z;cases z) λ_ _ z=>by rw [d] at z;cases z),d,r⟩;have Q:K.In (mB f.heap H):=λb o e=>fE (X b o e) (by
  cases q:H b with
  | none=>rfl
  | some u =>
   rcases j q with⟨_,g,_,_⟩ | ⟨g,rfl,_⟩
   ·rw [(R _ g).1] at e;cases e
   ·rw [J,KJ] at g;rw [g] at e;cases e)
 have hM:Mod K D (mB f.heap H):=⟨Q,l M,⟨Y,l hb,hbb⟩,let⟨mc,t,S⟩:=N;⟨mc,l t,S⟩,by
  obtain⟨b,o,t,S,h3,h4,h5,h6⟩:=hbm;exact⟨b,o,t,S,fE h3 (A h3 (λ_ z=>by rw [h6] at z;cases z) λ_ _ z=>by rw [h6] at z;cases z),h4,h5,h6⟩⟩
 have E:TabsOk K H:=λc P q hq t S=>by rw [<-hH];exact wU (FW X hB hq t S)
 have e0:Env0 P w K D (mB f.heap H) callerA [] f H:=⟨rfl,hM,λb o e=>Cn e,Ku (uS _ _),trivial,(λb z=>by cases z),E,L,.of_eq hg⟩;have hS:SqL K H a (ns.map V.int):=by
  cases hk:K.lookup a with
  | some o =>
   have e:=X a o hk;rw [O] at e;cases e;exact .inr ⟨_,i.toArray,_,hk,rfl,rfl,rfl,by rw [II,G];exact hl,by simpa using rv⟩
  | none =>
   refine .inl (.inr ⟨{ cls:=.type "list",data:=.seq i.toArray },?_⟩);rw [<-hH];unfold iV;rw [T];exact NM ⟨by rw [J,hk];rfl,rfl⟩
 refine LQ ((F _ Q (l M)).run callerA [] f H ⟨[.ref a],[]⟩ [.ref a] [.ref a] _ _ hr e0 (B f (.ref a)) (.cons rfl .nil) (Z H hS)) λr s' h=>?_;cases r with
 | error e=>exact (hCX H e s' h).elim
 | ok fl =>
  cases fl with
  | next=>exact JU h
  | brk=>exact JU h
  | cont=>exact JU h
  | ret u =>
   obtain⟨v,H',os,bare,U,y,r',rfl⟩:=h;obtain rfl:u=Value.bool NS:=r';refine⟨rfl,⟨λb o e=>?_,λb o e=>U.there b o e (by simp)⟩,os,bare⟩;cases q:H b with
   | none=>exact .inl (U.keep b o e q (λz=>by cases z) (λz=>by cases z))
   | some u =>
    rcases j q with⟨qq,g,rfl,C⟩ | ⟨_,rfl,rfl⟩
    ·rw [e] at C;cases C;obtain⟨ps,e4,_⟩:=y b _ (U.tbls b _ q);obtain⟨c,hc⟩:=(R _ g).2;obtain⟨oc,us,_,_,_,_,_,_,_,c1,c2,c3,c4,_⟩:=Nu X hc;refine .inr (.inl ⟨⟨c,oc,us,c1,c2,c3,c4⟩,rfl,#[],ps,rfl,?_⟩);rw [Array.empty_append];exact e4
    ·obtain⟨g,_⟩:=L b _ q;obtain⟨e2,_⟩:=y b _ (U.frzs b _ _ q);rw [e] at g;cases g;exact .inl e2
theorem walk_T {l:PySem.W.OpenLaw} {n k:Nat} {q:NY} {i:Oa} {XP:(Str->N7)->Heap->Prop} {M:NX->Heap->Prop} {d:DefRec} {K:Params->Ih} {CX:NX->CXT} {sp:NX->Sp} {x:Str} (ts:OA)
  (P:l.most=NQ n) (B:n<=Jr) (D:d.params.defaults=[]) (O:Room k callerA)
  (U:∀ (w:NX) (h:Heap),M w h->(K w.params).In h/\∀ p∈ts,h.get? p.1=NQ (K0 #[])) (hB:∀ w:NX,c9 (K w.params) ts=NS)
  (F:∀ (w:NX) (m:Str->N7) (y:Ij) (h:Heap),(K w.params).In h->h.Ns IP m->m d.name=NQ (.ref y) ->
   ∃ I:FuncData,(∀ (s:NU) (u:NT),BindsTo s I ⟨[u],[]⟩ [(x,u)]) /\
    ∀ base:Heap,(K w.params).In base->base.Ns IP m->FnOk l.prog w (K w.params) m base (CX w) k y I [x] (sp w))
  (A:∀ (w:NX) (H:Hp) (a:Ij) (ns:Oh),ns.length<=n->SqL (K w.params) H a (ns.map V.int)->sp w [.ref a] H (λv _=>v=.bl NS) λ_ _ _=>False)
  (E:∀ (w:NX) (H:Hp) (s:NU) (e:NT) (s':NU),CX w [] H s (λ_ _ _=>False) e s'->False) :
  PySem.W.WalkO q i XP M l.row.toRowW d [] (λf J=>PySem.call f J):=by
 refine Att.attach_call P D λw L r m mb y o pm cd doc a J ns G Y ho hd R C t j c Q=>?_;obtain⟨N,z⟩:=U w _ Y;obtain⟨I,S,Z⟩:=F w m y _ N G.T.g C;exact wV (hB w) z G.T.bmain N G.T.g G.T.b G.T.builtins G.T.nolimit Q t j (IS c B) O Z S (λH X=>A w H a ns c X) λH e s'=>E w H r e s'
noncomputable def gE (K:Ih) (q:Str):Bool:=K.all λx=>!JH K (.ref x.1) q || (match x.2.data with
 | .fields a=>(match (a[11]?:N7) with | some (.ref P)=>aK K x.1 P | _=>NV)
 | _=>NV)
theorem Bc {K:Ih} {q:Str} {g:NT} (h:gE K q=NS) (i:JH K g q=NS):∃ c P,g=.ref c/\aK K c P=NS/\JH K (.ref c) q=NS:=by
 have e:=i;unfold JH at e;split at e
 ·rename_i c;split at e
  ·rename_i a b k d j;have f:=Kz.mp h _ (eg j);dsimp only at f;rw [i] at f;simp only [JP,Bool.false_or] at f;split at f
   ·rename_i P _;exact⟨c,P,rfl,f,i⟩
   ·cases f
  ·cases e
 ·cases e
section
variable {P:NY} {w:NX} {K:Ih} {mg:Str->N7} {base:Heap} {j k n:Nat} {x:Str} {st:Stmt} {ps N:Oa} {γ:Type} {pre:γ->List DV->Prop} {post:γ->NR->Prop} {sp:Sp}
theorem Def.okL (F:Def K mg x st ps) (S:FnScope N ps (zi st)) (J:ps.length=n) (b:gE K x=NS)
  (h:∀ (i c Pt:Ij) (A:NZ) (a:Ob) (s:NU) (H:Hp) (E:XK),aK K c Pt=NS->JH K (.ref c) x=NS->Room k (A.deeper (envOfC x (zi st) s.heap.objs.size i (.ref c))) ->
   ∃ t,PSs (zV CX0 P w K mg base N x (zi st) i (.ref c) A a s H E).nox (ym st) t/\∀ (f:Fx) (xs:List DV) (c:γ),xs.length=n->pre c xs->PSd K f t (jC N xs) { nx:=λ_=>post c .none,rt:=post c }) :
  FnIn P w K mg base (k+1) x ps (spD K n pre post):=by
 obtain⟨i,R,o,F2,W⟩:=F.ex;refine⟨i,R,?_,W,o.kp,F2⟩;obtain⟨Z,Y,kV,T,X,an,U,ct,u,rfl,y,e⟩:=o.ex;obtain⟨c,Pt,rfl,C,B⟩:=Bc b e;refine sS y e S (λm H Q E h=>?_) λA a s H m Q E G D=>?_
 ·obtain⟨f,xs,c,r,b,_⟩:=h;rw [r.length,b,J]
 ·obtain⟨f,xs,c,r,b,O,I,q⟩:=D;obtain⟨t,M,L⟩:=h i _ Pt A a s H E C B G;exact⟨t,M.nox,L f xs c b I (start N m) H _ (y6 r O) (λ_ _ l g _ p=>q .none _ l g (j9.mpr rfl) p) (λd v l g r p=>q d v l g r p) (λ_ _ _ _ _ z=>z.elim) (λ_ _ _ _ _ z=>z.elim)⟩
end
section
variable {P:NY} {w:NX} {env:Env} {h:Heap} {pos:Pos}
theorem Reads.imp {e:Expr} {R b:NT->Prop} (a:Reads P w env h e R) (i:∀ v,R v->b v):Reads P w env h e b:=λA s Q E e q=>a A s Q E e λv c r=>q v c (i v r)
theorem rP {a b:Expr} {l:Ij} {items:Array NT} {k:Nat} {x:NT} (n:Reads P w env h a (·=.ref l)) (m:Reads P w env h b (λv=>∃ t,v=.int k t)) (g:IsTup h l items) (o:k<1000) (f:items[k]?=NQ x) (i:fh b) (hg:∀ v r,letTemporaryGo a v r=pure ()) :
  Reads P w env h (.Subscript a b pos) (·=x):=λA s Q E e q=>by
 refine Subscript_ (n A s _ E e λv d c=>?_);subst c;refine m A _ _ E e λv d ⟨t,c⟩=>?_;subst c;have j:k<items.size:=(Mr.mp f).1;exact @item_tuple _ _ _ _ _ _ _ l items (k:Int) t k x _ (by rw [<-e] at g;exact g) (by lia) (by lia) (seqIndex_of (by lia) (by lia) |>.trans (by rw [Ki])) f (q x d rfl) (i _ _) (hg _)
end
def At2 (NI:Ot) (p:Int×Int) (k:Int):Prop:=0<=p.1/\0<=p.2/\∃ a,NI[p.2.toNat]?=NQ a/\a[p.1.toNat]?=NQ k
def TabQ2 (K:Ih) (H:Hp) (r:Ij) (NI:Ot):Prop:=∃ c,SqL K H r c/\c.length=NI.length/\∀ (i:Nat) b,NI[i]?=NQ b->∃ a,c[i]?=NQ (.ref a)/\SqL K H a (b.map V.int)
theorem TabQ2.mono {K:Ih} {H c:Hp} {r:Ij} {NI:Ot} (s:Same H c) (h:TabQ2 K H r NI):TabQ2 K c r NI :=
 let⟨d,j,g,f⟩:=h;⟨d,s.seq j,g,λi b e=>let⟨a,l,k⟩:=f i b e;⟨a,l,s.seq k⟩⟩
def uc (K:Ih) (m:Nat) (t:TA):TE:=λj H Q=>t j H λk a=>∃ l d c r i,∃ (h g:Int×Int),∃ f e,k=[.ref l]/\SqL K a l [.ref d,.ref c]/\SqT K a d [.int h.1,.int h.2]/\SqT K a c [.int g.1,.int g.2]/\j[m]?=NQ (NQ (.ref r))/\TabQ2 K a r i/\At2 i h f/\At2 i g e /\
 (f<e->∀ D b,Same a b->a D=NW->b D=NQ (.lst [.ref d,.ref c])->Q (.ref D) b)/\(e<f->∀ D b,Same a b->a D=NW->b D=NQ (.lst [.ref c,.ref d])->Q (.ref D) b)/\f≠e
section
variable {X:Cx} {p pos lpos kpos ypos xpos xpos' s1 s2 s3 s4 c1 c2:Pos} {j1 j2:_} {e:Expr} {t:TA} {x y q:Str} {params:Arguments} {sc:Scope} {c P:Ij} {jy k:Nat}
theorem rQ {K:Ih} (hK:X.K=K) (hr:Room (k+2) X.A) (hg:Gl X "sorted") (hm:X.mg "sorted"=NW) (ha:PA X [e] t)
  (hq:q∈v5) (hc:X.env.code=.ref c) (h1:aK K c P=NS) (h2:JH K (.ref c) q=NS) (hqu:X.env.qual ++ "<lambda>"=lamQ q)
  (hfr0:∀ p∈sc.names,p.2=.free->X.env.scope.names.lookup p.1=NQ .cell)
  (hdef:defaultsOf params X.env=([],[]))
  (hb:∀ (pm ctv v:NT) (cd:Ij) clos,bindArgs (Nm "<lambda>" (lamQ q) params (.Subscript (.Subscript (.Name y ypos) (.Subscript (.Name x xpos) (.Constant (.int 1) j1 c1) s1) s2) (.Subscript (.Name x xpos') (.Constant (.int 0) j2 c2) s3) s4) sc clos pm (.ref cd) ctv) ⟨[v],[]⟩=pure [(x,v)])
  (hx:sc.names.lookup x=NQ .local) (hy:sc.names.lookup y=NQ .free) (hcell:∀ z∈sc.names,z.2≠.cell) (hco:sc.isCoroutine=NV) (hgen:sc.isGenerator=NV) (hk:sc.kind=.function)
  (hN:X.N[jy]?=NQ y) (hyo:X.env.scope.names.lookup y=NQ .cell)
  (hv:bootBuiltins "sorted"=NQ (.builtin "sorted"):=by rfl)
  (hst:Jg [e] X.env=(NV,eval e X.env) :: Jg [] X.env:=by rfl) (hpl:(backTo pos (Jg [] X.env)).any (·.1)=NV:=by rfl)
  (hxd:(x == ("__debug__":Str))=NV:=by decide) (hyd:(y == ("__debug__":Str))=NV:=by decide) (hyc:(y == ("__classdict__":Str))=NV:=by decide) :
  PE X (.Call (.Name "sorted" p) [e] [⟨NQ "key",.Lambda params (.Subscript (.Subscript (.Name y ypos) (.Subscript (.Name x xpos) (.Constant (.int 1) j1 c1) s1) s2) (.Subscript (.Name x xpos') (.Constant (.int 0) j2 c2) s3) s4) sc lpos,kpos⟩] pos) (uc K jy t):=by
 subst hK;intro NJ s σ H Q I h;have hfr:∀ z,(z,NameKind.free)∈sc.names->∃ d,X.env.cells.lookup z=NQ d:=λz hz=>I.ok.has z (.inl (hfr0 _ hz rfl));have hcl:=b7 hfr;refine wpAny_Call_Name_kw (vE I hg hm hv ?_);refine callWith_kw ?_ ?_ ?_
 rotate_left
 ·rw [hst];rfl
 ·rw [hst];exact hpl
 refine thn (ha pos NJ s σ H _ I h) λus s1 ⟨vs,H1,I1,r,q1⟩=>?_;obtain⟨l,p1,p2,ra,NI,z1,z2,k1,k2,rfl,hl,ht1,ht2,ha,hT,a1,a2,cA,cB,kne⟩:=q1;obtain⟨u,rfl,ru⟩:=vals1 r;cases ru;refine wpAny_evalAll_cons (Ic (nM I1 hq hc h1 h2 hqu hcl hdef λf c' pm ctv s2 H2 M sm J hcd=>?_));refine Ic (wpAny_standAt (Ip (wpAny_evalAll_nil ?_)));obtain⟨its,rv,pl,_⟩:=M.list (sm.seq hl);have eits:its=[.ref p1,.ref p2]:=by
  cases rv with
  | cons r1 t1 =>
   cases t1 with
   | cons r2 t2 =>
    cases t2;cases r1;cases r2;rfl
 subst eits;obtain⟨m,Y,hlo⟩:=id M.loc;obtain⟨ua,rua,lk⟩:=hlo jy y (.ref ra) hN ha (.inr (.inl hyo));cases rua;obtain⟨cy,ecy,icy⟩:∃ cy,X.env.cells.lookup y=NQ cy/\s2.heap.IsCell cy (NQ (.ref ra)):=by
  rcases lk with⟨k1,_⟩ | ⟨_,cy,U,h4⟩
  ·have k1':X.env.scope.names.lookup y=NQ .local:=k1;rw [hyo] at k1';cases k1'
  ·exact⟨cy,U,h4⟩
 obtain⟨rs,hrs,rlen,hrow⟩:=hT.mono sm;obtain⟨tits,trv,tpl,tz⟩:=M.list hrs;have lne:∀ {b:Ij} {is:Array NT},s2.heap.IsList b is->b≠X.env.locals:=λ{b is} il e=>by
  obtain⟨o,U,h4,n5,h5⟩:=il;obtain⟨o',es,ep,h6,h7,_⟩:=Y;rw [e,h6] at U;cases U;rw [h7] at h5;cases h5
 have fne:f≠X.env.locals:=λe=>by
  obtain⟨o',es,ep,h6,h7,_⟩:=Y;rw [e,h6] at J;cases J;cases h7
 have cne:∀ {b:Ij} {o:Obj} {vs:Array NT},s2.heap.get? b=NQ o->o.data=.fields vs->b≠X.env.locals:=λ{b o vs} e1 e2 e=>by
  obtain⟨o',es,ep,h6,h7,_⟩:=Y;rw [e,h6] at e1;cases e1;rw [h7] at e2;cases e2
 have back:∀ {h:Heap} {tk:Nat} {own:N9},Fr (Att.noObjs s2.heap) X.env.locals h m->News (Att.noObjs s2.heap) X.env.locals h (jz (Att.noObjs s2.heap) s2.heap X.env.locals++own) ->
   (∀ b o,b≠X.env.locals->s2.heap.get? b=NQ o->h.get? b=NQ o)/\Inv X NJ σ H2 { s2 with heap:=h,toks:=tk }:=λ{h tk own} g G=>by
  have C:∀ b o,b≠X.env.locals->s2.heap.get? b=NQ o->h.get? b=NQ o:=λb o nb e=>(G (b,o) (IY _ (aO nb (Att.noObjs_get _ _) e))).1;refine⟨C,M.keptL (t':=tk) C ?_ λm' Z=>?_⟩
  ·obtain⟨o',es,ep,h6,_⟩:=g.ns;exact⟨o',h6⟩
  ·have:m'=m:=by
    obtain⟨o,es,ep,J,hd,_,hf⟩:=Y;obtain⟨o',es',ep',E,F,_,hf'⟩:=Z;rw [J] at E;cases E;rw [hd] at F;cases F
    funext n
    rw [<-hf n,<- hf' n]
   rw [this];exact g.ns
 have kept:∀ {h:Heap},Fr (Att.noObjs s2.heap) X.env.locals h m->News (Att.noObjs s2.heap) X.env.locals h (jz (Att.noObjs s2.heap) s2.heap X.env.locals)->∀ b o,b≠X.env.locals->s2.heap.get? b=NQ o->h.get? b=NQ o:=λg G b o nb e=>(G (b,o) (aO nb (Att.noObjs_get _ _) e)).1
 have O:∀ {B:Ij} {z:Int×Int} {kk:Int},SqT X.K H2 B [.int z.1,.int z.2]->At2 NI z kk->∀ (h:Heap) (tk:Nat) (own:N9),Fr (Att.noObjs s2.heap) X.env.locals h m->News (Att.noObjs s2.heap) X.env.locals h (jz (Att.noObjs s2.heap) s2.heap X.env.locals++own) ->
   IK (model X.prog X.w) X.A.in1.in1 (call (.ref f) [.ref B]) (KskEnd (Att.noObjs s2.heap) X.env.locals m (jz (Att.noObjs s2.heap) s2.heap X.env.locals++own) kk { s2 with heap:=h,toks:=tk }) (λ_ _=>False) { s2 with heap:=h,toks:=tk }:=by
  intro B z kk hpt hat h tk own g G;obtain⟨C,I3⟩:=back (tk:=tk) g G;obtain⟨z0,z1',row,er,ek⟩:=hat;obtain⟨j,prv,pit,_⟩:=M.tuple hpt;obtain⟨ra',era,hra⟩:=hrow _ _ er;obtain⟨wv,ewv,rwv⟩:=trv.get era;cases rwv;obtain⟨rits,rrv,rpl,rz⟩:=M.list hra;obtain⟨kv,ekv,rkv⟩:=rrv.get (i:=z.1.toNat) (x:=.int kk) (by rw [Iq,ek];rfl);obtain⟨tkv,rfl⟩:=rkv;obtain⟨xv,exv,rxv⟩:=prv.get (i:=0) (x:=.int z.1) rfl;obtain⟨yv,eyv,ryv⟩:=prv.get (i:=1) (x:=.int z.2) rfl;obtain⟨tx,rfl⟩:=rxv;obtain⟨ty,rfl⟩:=ryv;have pne:=tup_ne Y pit;have l1:z.2.toNat<NI.length:=(Ig.mp er).1;have l2:z.1.toNat<row.length:=(Ig.mp ek).1;have b1:row.length<=Jr:=by rw [Ib] at rz;exact rz
  have b2:rs.length<=Jr:=tz;have hline:=dP;refine ub (x:=x) (R:=(·=.int kk tkv)) (C _ _ fne J) ?_ hr.in1.in1.depth I3.nolimit (hb _ _ _ _ _) hx hcell hco hgen hk (λa hns T=>?_) λu a tk1 eu T=>?_
  ·obtain⟨c2,oc,vs,tq,e1,e2,e3,e4⟩:=hcd;exact⟨c2,oc,vs,tq,e1,C _ _ (cne e2 e3) e2,e3,e4⟩
  ·have S:IsTup a B j.toArray:=mU pit λu eu=>T _ _ (C _ u pne eu);have rx:∀ {po:Pos},Reads X.prog X.w (Mm (lamQ q) sc h.objs.size f (.ref c') (yj X.env sc.names [])) a (.Name x po) (·=.ref B):=nN (env:=Mm (lamQ q) sc h.objs.size f (.ref c') (yj X.env sc.names [])) hk hx hns (by simp) hxd;have hyv:j.toArray[1]?=NQ (.int z.2 ty):=by simpa using eyv
   have hxv:j.toArray[0]?=NQ (.int z.1 tx):=by simpa using exv
   refine Ba (l:=ra') (items:=rits.toArray) (k:=z.1) (Ba (l:=ra) (items:=tits.toArray) (k:=z.2) (Dd (c:=cy) hk hy (aP hfr (mem_of_lookup hy) ecy) ?_ hyd hyc) ((rP (k:=1) rx rO S (by decide) hyv (λ_ _=>rfl) λ_ _=>rfl).imp λv e=>⟨ty,e⟩) ?_ z1' ?_ (by simpa using ewv) (λ_ _=>rfl)) ((rP (k:=0) rx rO S (by decide) hxv (λ_ _=>rfl) λ_ _=>rfl).imp λv e=>⟨tx,e⟩) ?_ z0 ?_ (by simpa using ekv) (λ_ _=>rfl)
   ·obtain⟨o,e1,e2⟩:=icy;exact⟨o,T _ _ (C _ _ (M.cne y cy ecy) e1),e2⟩
   ·obtain⟨o,U,h4⟩:=tpl.isList;exact⟨o,T _ _ (C _ _ (lne tpl.isList) U),h4⟩
   ·lia
   ·obtain⟨o,U,h4⟩:=rpl.isList;exact⟨o,T _ _ (C _ _ (lne rpl.isList) U),h4⟩
   ·lia
  ·subst eu;exact⟨a,tk1,tkv,rfl,rfl,⟨g.ns.keeps T,λb o e=>T _ _ (g.keep b o e),g.above⟩,G.grown T⟩
 show IK _ _ (call (.builtin "sorted") [.ref l] [(Ko "key",.ref f)]) _ _ s2;have fin:∀ {B pb:Ij},(∀ D H',Same H1 H'->H1 D=NW->H' D=NQ (.lst [.ref B,.ref pb])->Q (.ref D) H')->∀ (D:Ij) c (h':Heap) tk,Fr (Att.noObjs s2.heap) X.env.locals h' m->News (Att.noObjs s2.heap) X.env.locals h' ((D,PySem.W.listOf (JQ [.ref B,.ref pb]) c) :: jz (Att.noObjs s2.heap) s2.heap X.env.locals)->(∀ q∈jz (Att.noObjs s2.heap) s2.heap X.env.locals,q.1<D)->EP X NJ σ Q (.ref D) { s2 with heap:=h',toks:=tk }:=by
  intro B pb cc D c h' tk g G hD;have C:=kept g λp hp=>G p (Ii _ hp);have nD:∀ b u,s2.heap.get? b=NQ u->b≠D:=λb u eb=>by
   by_cases hb:b=X.env.locals
   ·intro z;have:=(G _ Ik).2.1;exact this (z.symm.trans hb)
   ·exact IU (hD (b,u) (aO hb (Att.noObjs_get _ _) eb))
  have hDn:H2 D=NW:=by
   cases z:H2 D with
   | none=>rfl
   | some u =>
    obtain⟨v,hv⟩:=(M.hok D u z).is;exact absurd rfl (nD D v hv)
  have nsK:∀ m',s2.heap.Ns X.env.locals m'->h'.Ns X.env.locals m':=λm' Z=>by
   have:m'=m:=by
    obtain⟨o,es,ep,J,hd,_,hf⟩:=Y;obtain⟨o',es',ep',E,F,_,hf'⟩:=Z;rw [J] at E;cases E;rw [hd] at F;cases F
    funext n
    rw [<-hf n,<- hf' n]
   rw [this];exact g.ns
  have hLo:∃ o,h'.get? X.env.locals=NQ o:=let⟨o,_,_,J,_⟩:=g.ns;⟨o,J⟩
  refine⟨.ref D,upd H2 D (.lst [.ref B,.ref pb]),M.laidL (t':=tk) C hLo nsK nD hDn ⟨by show 2<=Jr;decide +kernel,[.ref B,.ref pb],c,.cons rfl (.cons rfl .nil),(G _ Ik).1⟩,rfl,cc D _ (sm.trans (yf hDn _)) (sm.free hDn) zy⟩
 refine ksk_two (h₀:=Att.noObjs s2.heap) (L:=X.env.locals) (m:=m) (news:=jz (Att.noObjs s2.heap) s2.heap X.env.locals) (b:=NV) (f:=.ref f) k1 k2 (Att.fr_all Y) xG pl.isList (ksk_s1 _ _) (λx=>ksk_l1 _ _) (λx=>rfl) (O (sm.seqT ht1) a1) (O (sm.seqT ht2) a2) (λhle=>?_) λhle=>?_
 ·have hle':k1<=k2:=hle;exact fin (cA (by lia))
 ·have hle':k2<=k1:=hle;exact fin (cB (by lia))
end
section
variable {K:Ih} {f:Fx} {ρ:zu} {t:TA} {P:NR->Prop} {jr:Nat} {NI:Ot}
theorem Bd {H:Hp} {v:V} (r:Rep K H (.list (NI.map λr=>.list (r.map .int))) v):∃ a,v=.ref a/\TabQ2 K H a NI:=by
 obtain⟨a,j,rfl,l,h⟩:=zI.mp r;refine⟨a,rfl,j,l,by rw [h.length,Ib],λi c e=>?_⟩;obtain⟨u,n,m⟩:=h.get (i:=i) (d:=.list (c.map .int)) (by rw [Iq,e];rfl);obtain⟨b,o,rfl,g,k⟩:=zI.mp m;rw [k.ints] at g;exact⟨b,n,g⟩
theorem wW (S:ρ[jr]?=NQ (NQ (.dat (.list (NI.map λr=>.list (r.map .int)))))) (h:PAd K f t ρ λxs=>∃ (p q:Int×Int) (k1 k2:Int),xs=[.dat (.list [.tuple [.int p.1,.int p.2],.tuple [.int q.1,.int q.2]])]/\At2 NI p k1/\At2 NI q k2/\k1≠k2/\(k1<k2->P (.list [.tuple [.int p.1,.int p.2],.tuple [.int q.1,.int q.2]]))/\(k2<k1->P (.list [.tuple [.int q.1,.int q.2],.tuple [.int p.1,.int p.2]]))) :
  PEd K f (uc K jr t) ρ P:=λy H Q e q=>h y H _ e λxs vs c i I ⟨p,z,k1,k2,Y,a1,a2,O,c1,c2⟩=>by
 subst Y;obtain⟨v,C,G⟩:=(e.mono i).get jr _ S;obtain⟨j,rfl,T⟩:=Bd (show Rep K (hide c f) _ v from G);cases I with
 | cons J E =>
  cases E;obtain⟨l,ys,rfl,X,W⟩:=zI.mp (show Rep K (hide c f) _ _ from J);obtain⟨y1,A,rfl,b,u⟩:=zE.mp W;obtain⟨y2,x,rfl,a,g⟩:=zE.mp u;have:=zQ.mp g;subst this;obtain⟨N,w1,rfl,s,n⟩:=zZ.mp b;obtain⟨M,w2,rfl,o,m⟩:=zZ.mp a;have e1:=Reps.ints (ns:=[p.1,p.2]) n;have Z:=Reps.ints (ns:=[z.1,z.2]) m;subst e1 Z;have done:∀ {pa pb:Ij} {da db:NR},Rep K (hide c f) da (.ref pa)->Rep K (hide c f) db (.ref pb)->P (.list [da,db])->∀ D d,Same c d->c D=NW->d D=NQ (.lst [.ref pa,.ref pb])->Q (.ref D) d:=λ{pa pb da db} j F L D d B R U=>by
   have w:Goes f c d:=.of_same B i.2;exact q _ _ d (i.trans w) (zI.mpr ⟨D,_,rfl,.of (zG (fresh_ne i.2 R) U),.cons' (Rep.mono w.1 _ _ j) (.cons' (Rep.mono w.1 _ _ F) (zQ.mpr rfl))⟩) L
  exact⟨l,N,M,j,NI,p,z,k1,k2,rfl,(zo _ _).seq X,(zo _ _).seqT s,(zo _ _).seqT o,C,T.mono (zo _ _),a1,a2,λk=>done b a (c1 k),λk=>done a b (c2 k),O⟩
end
end L2
end
section
namespace L2
open PySem PySem.W PySem.Calls PyProof.Rows
section
variable {P:NY} {w:NX} {A:NZ} {X:NT->NU->Prop} {s:NU} {κ:SortKind} {vs ks:N6} {lt:Nat->Nat->Bool} {f:NT}
def ud (P:NY) (w:NX) (A:NZ) (s:NU) (h0:Heap) (f:NT) (vs ks:N6):Prop :=
 ∀ (i:Nat) (v k:NT),vs[i]?=NQ v->ks[i]?=NQ k->∀ (h:Heap) (d:Nat),(∀ b o,h0.get? b=NQ o->h.get? b=NQ o)->∀ R:NT->NU->Prop,
  (∀ (c:Heap) a,(∀ b o,h.get? b=NQ o->c.get? b=NQ o)->R k { s with heap:=c,toks:=a })->IK (model P w) A (call f [v]) R (λ_ _=>False) { s with heap:=h,toks:=d }
theorem Be {a:Ij} {e:Nat} {R:PySem.Fin->NU->Prop} (hz:vs.length<=1000) (G:ks.length=vs.length) (ha:s.heap.get? a=NQ (seqObj "list" vs.toArray e)) {h0:Heap} (B:∀ b o,h0.get? b=NQ o->b≠a/\s.heap.get? b=NQ o)
  (N:ud P w A s h0 f vs ks) (K:∀ tk,Asks P w A { s with heap:=h0,toks:=tk } κ ks lt)
  (q:∀ (h':Heap) tk p c,Pm vs.length p->Up lt p vs.length->(∀ b o,h0.get? b=NQ o->h'.get? b=NQ o)->h'.get? a=NQ (seqObj "list" (p.toList.map λi=>vs.getD i Value.none).toArray c)->R (.done (.ret .none)) { s with heap:=h',toks:=tk }) :
  IK (model P w) A (ksk_tree a f NV) R X s:=by
 have h1000:(1000:Nat)<Jr:=by rw [sizeLine_eq];decide
 let h1:=s.heap.update a (J3 λ_=>(#[]:Array NT))
 obtain⟨D,a1⟩:∃ D,h1.get? a=NQ (seqObj "list" #[] D):=⟨_,get?_update_seq ha λ_=>#[]⟩
 let m:=h1.push (seqObj "tuple" vs.toArray 0)
 let g:=m.objs.size
 let h3:=m.push (seqObj "list" #[] 0)
 have a3:h3.get? a=NQ (seqObj "list" #[] D):=Im _ (Im _ a1);have k3:h3.get? g=NQ (seqObj "list" #[] 0):=IT _ rfl;have kz:∀ b o,h0.get? b=NQ o->h3.get? b=NQ o:=λb o n=>Im _ (Im _ ((IZ _ _ (JM (B b o n).1)).trans (B b o n).2));have sz1:h1.objs.size=s.heap.objs.size:=MP _ _ _;have O:m.objs.size=s.heap.objs.size+1:=by show (h1.push _).objs.size=_;rw [size_push',sz1]
 have U:∀ b o,h0.get? b=NQ o->b≠g:=λb o n=>by
  have:=IA (B b o n).2;exact IU (show b<m.objs.size from O▸JO this)
 have ak:a≠g:=IU (show a<m.objs.size from O▸JO (IA ha));unfold ksk_tree;refine Ic (listItems_at ha rfl ?_);refine Ic (listUpdate_at ha rfl ?_ (by rw [II];lia) (IV _));refine Ic (seqEpoch_at a1 rfl ?_);refine Ic (wpAny_newTuple ?_ (by show vs.length<=_;lia));refine Ic (wpAny_newList ?_ (IV _));refine Ji ?_;show IK _ A (ksk_rest a f NV vs.toArray D (.ref g)) _ _ { s with heap:=h3 };unfold ksk_rest;refine Ic (NB ?_)
 first
  | rw [List.forIn_toArray]
  | (rw [<-KH];simp only [List.toList_toArray])
  | rw [<-KH]
 refine Ic (ksk_fold (λi u=>∃ h' tk e,u={ s with heap:=h',toks:=tk }/\(∀ b o,h0.get? b=NQ o->h'.get? b=NQ o)/\h'.get? a=NQ (seqObj "list" #[] D)/\h'.get? g=NQ (seqObj "list" (ks.take i).toArray e)) vs 0 _
  ⟨h3,s.toks,0,rfl,kz,a3,k3⟩ ?_ ?_)
 ·rintro j x u hx ⟨h',tk,e,rfl,H,a',F⟩;simp only [Ml] at F ⊢;have hj:j<vs.length:=(Ig.mp hx).1;obtain⟨k,Z⟩:∃ k,ks[j]?=NQ k:=⟨_,Ia (by lia)⟩;refine Ic (L6 (JD (N j x k hx Z h' tk H (λv S=>∃ C r,v=k/\S={ s with heap:=C,toks:=r }/\∀ b o,h'.get? b=NQ o->C.get? b=NQ o) λC r Y=>⟨C,r,rfl,rfl,Y⟩) ?_ λ_ _ hF=>hF.elim));rintro v S ⟨C,r,rfl,rfl,Y⟩;dsimp only;have nk:=Y _ _ F;have s1:=KZ C g (J3 (·.push v));obtain⟨c2,hc2⟩:∃ c2,(C.update g (J3 (·.push v))).get? g=NQ (seqObj "list" ((ks.take j).toArray.push v) c2):=⟨_,get?_update_seq nk (·.push v)⟩;have ek:(ks.take (j+1)).toArray=(ks.take j).toArray.push v:=by rw [JE,Z];simp
  have lk:(ks.take j).length<=1000:=by rw [Jt];lia
  refine Ic (listUpdate_at nk rfl ?_ (by rw [II];lia) (IS (Ku (Array.size_push ..)) (by rw [II];lia)));refine Ip ⟨rfl,_,_,c2,rfl,λb o n=>?_,?_,by rw [ek];exact hc2⟩
  ·exact (IZ _ _ (JM (U b o n))).trans (Y _ _ (H b o n))
  ·exact (IZ _ _ (JM ak)).trans (Y _ _ a')
 ·rintro u ⟨h',tk,e,rfl,H,a',F⟩;have e3:ks.take (0+vs.length)=ks:=MV (by lia);rw [e3] at F;refine Ic (listItems_at F rfl ?_);have st0:SortSt.mk' κ (ks.toArray.zip vs.toArray) #[] 7 NW=kas_st κ (ks.toArray.zip vs.toArray) (JQ (IQ vs.length)):=by
   have z:=kas_range (ks.toArray.zip vs.toArray);have zl:(ks.toArray.zip vs.toArray).size=vs.length:=by simp [G]
   rw [zl] at z;unfold kas_st;rw [z]
  have fin:∀ (d:SortSt) (p:Array Nat),Pm vs.length p->Up lt p vs.length->arrOf d=p.map (kas_item (ks.toArray.zip vs.toArray))->failedOf d=NW->IK (model P w) A (ksk_tail a NV D (.ref g) d) R X { s with heap:=h',toks:=tk }:=λd p E M L J=>by
   have out:=kat_snds G L;unfold ksk_tail
   try dsimp only
   rw [out,J];have s1:=IZ (h:=h') (J3 λ_=>(#[]:Array NT)) (JM ak:g≠a);have a4:(h'.update g (J3 λ_=>(#[]:Array NT))).get? a=NQ (seqObj "list" #[] D):=(IZ _ _ (JM ak)).trans a';obtain⟨c,a5⟩:∃ c,((h'.update g (J3 λ_=>(#[]:Array NT))).update a (J3 λ_=>(p.toList.map λi=>vs.getD i Value.none).toArray)).get? a=NQ (seqObj "list" (p.toList.map λi=>vs.getD i Value.none).toArray c):=⟨_,get?_update_seq a4 λ_=>(p.toList.map λi=>vs.getD i Value.none).toArray⟩;refine Ic (listUpdate_at F rfl ?_ (by rw [II];lia) (IV _));refine Ic (wpAny_letGo ?_);refine Ic (seqEpoch_at a4 rfl ?_);refine Ic (listUpdate_at a4 rfl ?_ (IV _) (by
    show (p.toList.map λi=>vs.getD i Value.none).toArray.size<=_;rw [II,Ib,IH,E.size];lia))
   simp only [bne_self_eq_false,Js,if_false];refine Ip (q _ tk p c E M (λb o n=>?_) a5);exact (IZ _ _ (JM (B b o n).1)).trans ((IZ _ _ (JM (U b o n))).trans (H b o n))
  unfold ksk_end
  try dsimp only
  have step:∀ t:Sem PySem.Fin,IK (model P w) A t R X { s with heap:=h',toks:=tk }->IK (model P w) A (if NV=NS then (do let _ <- rule "list.sort.reverse";t) else t) R X { s with heap:=h',toks:=tk }:=λt ht=>by rw [NL Ie];exact ht
  refine step _ ?_;by_cases h2:vs.length<2
  ·have l:vs.toArray.size<2:=by rw [II];exact h2
   rw [NM l,NM l];refine Ic (Ip ?_);refine Ic ?_;rw [StateT.run_pure];refine Ip ?_;have z:=kas_range (ks.toArray.zip vs.toArray);have zl:(ks.toArray.zip vs.toArray).size=vs.length:=by simp [G]
   rw [zl] at z;exact fin _ (JQ (IQ vs.length)) (Pm.range _) (λi j x y=>by lia) z.symm rfl
  have l:¬ vs.toArray.size<2:=by rw [II];exact h2
  rw [NL l,NL l];refine Ic ?_;refine JD ((K tk).kind (by lia) h' H (λI u=>I=κ/\u={ s with heap:=h',toks:=tk }) ⟨rfl,rfl⟩) ?_ λ_ _ z=>z.elim;rintro I u ⟨eκ,es⟩;rw [eκ,es];have W:=(K tk).less h' H;rw [kat_ask_eq G,G] at W;have T:=(K tk).ord;have few:=(K tk).few;rw [G] at T few;rw [NL Ie,st0];refine Ic ?_;refine JD (mW (Q:=λd u=>u={ s with heap:=h',toks:=tk }/\∃ p,Pm vs.length p/\Up lt p vs.length/\arrOf d=p.map (kas_item (ks.toArray.zip vs.toArray))/\failedOf d=NW) W T (by lia) few λd p E M L J=>⟨rfl,p,E,M,L,J⟩) ?_ λ_ _ z=>z;rintro⟨⟨⟩,d⟩ u ⟨rfl,p,E,M,L,J⟩;exact fin d p E M L J
theorem gF {l:Ij} {n:Ij} {Q:NT->NU->Prop} (C:vs.length<=1000) (j:ks.length=vs.length) (E:s.heap.IsList l vs.toArray)
  (d:ud P w A.in1.in1 s s.heap (.ref n) vs ks) (K:∀ tk,Asks P w A.in1.in1 { s with toks:=tk } κ ks lt)
  (q:∀ (h':Heap) tk D p c,Pm vs.length p->Up lt p vs.length->s.heap.objs.size<=D->(∀ b o,s.heap.get? b=NQ o->h'.get? b=NQ o)->h'.get? D=NQ (seqObj "list" (p.toList.map λi=>vs.getD i Value.none).toArray c)->Q (.ref D) { s with heap:=h',toks:=tk }) :
  IK (model P w) A (call (.builtin "sorted") [.ref l] [(Ko "key",.ref n)]) Q X s:=by
 have k:(1000:Nat)<Jr:=by rw [sizeLine_eq];decide
 let t:=(s.heap.push (seqObj "list" #[] 0)).update s.heap.objs.size (J3 (·++vs.toArray))
 have r:t.objs.size=s.heap.objs.size+1:=by rw [MP,size_push']
 let a:=t.push (seqObj "list" vs.toArray 0)
 have g:a.get? (s.heap.objs.size+1)=NQ (seqObj "list" vs.toArray 0):=by rw [<-r];exact IT _ rfl
 have e:∀ b o,s.heap.get? b=NQ o->b≠s.heap.objs.size+1/\a.get? b=NQ o:=λb o u=>by
  have h:=IA u;refine⟨λz=>?_,Im _ ((IZ _ _ λz=>?_).trans (Im _ u))⟩
  ·rw [z] at h;exact Ka _ (MW h (LW _))
  ·rw [<-z] at h;exact Ka _ h
 refine call_function_entry_kw kind_sorted plain_sorted entry_sorted (ksk_s1 _ _) ?_;unfold Builtin.«sorted»;apply Ic (m:=checkCount "sorted" 1 1 _);apply Ip;apply Ic;refine collect_list E ?_ (by lia);apply Ic;refine wpAny_newList ?_ (by lia)
 change IK _ _ _ _ _ { s with heap:=a }
 rw [show Value.ref ((s.heap.push (seqObj "list" #[] 0)).update s.heap.objs.size (J3 (·++vs.toArray))).objs.size=Value.ref (s.heap.objs.size+1) from congrArg Value.ref r];refine Ic (Ji (wpAny_call_entry_kw slot_list_sort ⟨_,g,rfl⟩ entry_list_sort ?_ (ksk_l1 _ _)));show IK (model P w) A.in1.in1 (Builtin.«list.sort» ⟨[.ref (s.heap.objs.size+1)],[(Ko "key",.ref n)]⟩) _ _ _;rw [ksk_t1];refine Be (s:={ s with heap:=a }) C j g (h0:=s.heap) e d K λh' tk p c B y x v=>⟨_,rfl,Ip ⟨_,rfl,?_⟩⟩;exact q h' tk _ p c B y (L8 _) x v
end
inductive KeyHd (K:Ih) (H:Hp):List V->Oo->Prop where
 | nil:KeyHd K H [] []
 | cons {p:Ij} {y:V} {ys xs:List V} {k:NR} {kd:Oo}:SqT K H p (y :: ys)->Rep K H k y->KeyHd K H xs kd->KeyHd K H (.ref p :: xs) (k :: kd)
theorem KeyHd.mono {K:Ih} {H d:Hp} (s:Same H d) {xs:List V} {c:Oo} (h:KeyHd K H xs c):KeyHd K d xs c:=by
 induction h with
 | nil=>exact .nil
 | cons a b _ ih=>exact .cons (s.seqT a) (Rep.mono s _ _ b) ih
theorem KeyHd.length {K:Ih} {H:Hp}:∀ {xs:List V} {a:Oo},KeyHd K H xs a->a.length=xs.length
 | _,_,.nil=>rfl
 | _,_,.cons _ _ c=>by rw [IJ,IJ,c.length]
theorem KeyHd.vals {X:Cx} {D:N9} {q:St} {H:Hp} {s:NU} (I:Inv X D q H s) {xs:List V} {m:Oo} (x:KeyHd X.K H xs m):∀ {its:N6},Vals xs its ->
  ∃ (ys:List V) (ks:N6),Reps X.K H m ys/\Vals ys ks/\ks.length=its.length/\∀ (i:Nat) (v k:NT),its[i]?=NQ v->ks[i]?=NQ k->∃ (l:Ij) (d:Array NT),v=Value.ref l/\IsTup s.heap l d/\d[0]?=NQ k:=by
 induction x with
 | nil =>
  intro its e;cases e;exact⟨[],[],.nil',.nil,rfl,λi v k h=>by simp at h⟩
 | @cons p y ys _ _ _ a b c ih =>
  intro its e;cases e with
  | cons r e =>
   obtain⟨f,ks,C,B,A,z⟩:=ih e;obtain⟨d,g,j,_⟩:=I.tuple a;cases r;cases g with
   | @cons _ u _ E w t =>
    refine⟨y :: f,u :: ks,.cons' b C,.cons w B,by rw [IJ,IJ,A],λi v k o n=>?_⟩;cases i with
    | zero =>
     cases o;cases n;exact⟨p,_,rfl,j,rfl⟩
    | succ i=>exact z i v k o n
def rR (K:Ih) (t:TA):TE:=λg H Q=>t g H λh b=>∃ l c a T,h=[.ref l]/\SqL K b l c/\KeyHd K b c a/\SortOk T a/\a.length<=1000/\(a.length<64 \/ a.Pairwise λd e=>ltD d e=NS) /\
 ∀ D f p,Same b f->b D=NW->Pm a.length p->Up (λi j=>ltD (a.getD i .none) (a.getD j .none)) p a.length->f D=NQ (.lst (pick .non p c))->Q (.ref D) f
section
variable {X:Cx} {p pos lpos kpos xpos s1 c1 gpos:Pos} {j1:_} {e:Expr} {t:TA} {x q g:Str} {params:Arguments} {sc:Scope} {c P fa:Ij} {k:Nat}
theorem rS {A:NZ} {Y:N9} {N:St} {n F:Hp} {m:NU} {Q:VK} {E:NT->NU->Prop} {l:Ij} {xs:List V} {a:Oo} {T:String} (hu:A.units+64<JR) (z:Inv X Y N F m) (B:Same n F) (hl:SqL X.K n l xs) (U:KeyHd X.K n xs a) (ok:SortOk T a) (le:a.length<=1000) (L:a.length<64 \/ a.Pairwise λd e=>ltD d e=NS)
  (r:∀ (C:Ij) (f:Array NT) (k:NT),IsTup m.heap C f->f[0]?=NQ k->∀ (h:Heap) (tk:Nat),(∀ b o,m.heap.get? b=NQ o->h.get? b=NQ o)->∀ R:NT->NU->Prop,
   (∀ (h':Heap) H,(∀ b o,h.get? b=NQ o->h'.get? b=NQ o)->R k { m with heap:=h',toks:=H })->IK (model X.prog X.w) A.in1.in1 (call (.ref fa) [.ref C]) R (λ_ _=>False) { m with heap:=h,toks:=tk })
  (q:∀ D M p,Same n M->n D=NW->Pm a.length p->Up (λi j=>ltD (a.getD i .none) (a.getD j .none)) p a.length->M D=NQ (.lst (pick .non p xs))->Q (.ref D) M) :
  IK (model X.prog X.w) A (call (.builtin "sorted") [.ref l] [(Ko "key",.ref fa)]) (EP X Y N Q) E m:=by
 obtain⟨u,I,pl,hz⟩:=z.list (B.seq hl);obtain⟨Z,ks,r1,r2,lk,y⟩:=(U.mono B).vals z I;have lv:=I.length;have lx:=U.length;obtain⟨as,ra⟩:=jq z a Z ks r1 r2;have lkd:ks.length=a.length:=by lia
 have e2:A.in1.in1.units=A.units+1+1:=rfl;refine gF (ks:=ks) (lt:=λi j=>ltD (a.getD i .none) (a.getD j .none)) (by lia) lk pl.isList (λi v k hv hk h tk kp R hR=>?_) (λtk=>kX (s:={ m with toks:=tk }) ra ok (by lia) L) λh' tk D p c G S O x4 x5=>?_
 ·obtain⟨C,f,rfl,it,hp⟩:=y i v k hv hk;exact r C f k it hp h tk kp R hR
 ·rw [show u.length=a.length by lia] at G S;have W:F D=NW:=z.hok.fresh O;have lp:p.toList.length=a.length:=by rw [IH];exact G.size
  have J:n D=NW:=B.free W;exact⟨.ref D,upd F D (.lst (pick .non p xs)),z.laid (t':=tk) x4 O ⟨by unfold pick;rw [Ib];exact JL (z7 (by lia)),pick Value.none p u,c,dW I p,x5⟩,rfl,q D _ p (B.trans (yf W _)) J G S zy⟩
theorem wX {K:Ih} (hK:X.K=K) (hr:Room (k+2) X.A) (hg:Gl X "sorted") (hm:X.mg "sorted"=NW) (ha:PA X [e] t)
  (hq:q∈v5) (hc:X.env.code=.ref c) (h1:aK K c P=NS) (h2:JH K (.ref c) q=NS) (L:X.env.qual ++ "<lambda>"=lamQ q)
  (n:∀ p∈sc.names,p.2=.free->X.env.scope.names.lookup p.1=NQ .cell)
  (o:defaultsOf params X.env=([],[]))
  (hb:∀ (pm y v:NT) (cd:Ij) B,bindArgs (Nm "<lambda>" (lamQ q) params (.Subscript (.Name x xpos) (.Constant (.int 0) j1 c1) s1) sc B pm (.ref cd) y) ⟨[v],[]⟩=pure [(x,v)])
  (hx:sc.names.lookup x=NQ .local) (b:∀ z∈sc.names,z.2≠.cell) (S:sc.isCoroutine=NV) (m:sc.isGenerator=NV) (hk:sc.kind=.function)
  (hv:bootBuiltins "sorted"=NQ (.builtin "sorted"):=by rfl)
  (j:Jg [e] X.env=(NV,eval e X.env) :: Jg [] X.env:=by rfl) (M:(backTo pos (Jg [] X.env)).any (·.1)=NV:=by rfl)
  (J:(x == ("__debug__":Str))=NV:=by decide) :
  PE X (.Call (.Name "sorted" p) [e] [⟨NQ "key",.Lambda params (.Subscript (.Name x xpos) (.Constant (.int 0) j1 c1) s1) sc lpos,kpos⟩] pos) (rR K t):=by
 subst hK;intro NJ s σ H Q I h;have O:∀ z,(z,NameKind.free)∈sc.names->∃ d,X.env.cells.lookup z=NQ d:=λz hz=>I.ok.has z (.inl (n _ hz rfl));have U:=b7 O;refine wpAny_Call_Name_kw (vE I hg hm hv ?_);refine callWith_kw ?_ ?_ ?_
 rotate_left
 ·rw [j];rfl
 ·rw [j];exact M
 refine thn (ha pos NJ s σ H _ I h) λus s1 ⟨vs,H1,I1,r,E⟩=>?_;obtain⟨l,xs,kd,T,rfl,hl,kh,ok,le,Y,E⟩:=E;obtain⟨u,rfl,ru⟩:=vals1 r;cases ru;refine wpAny_evalAll_cons (Ic (nM I1 hq hc h1 h2 L U o λf c' pm y s2 H2 I2 sm ho W=>?_));refine Ic (wpAny_standAt (Ip (wpAny_evalAll_nil ?_)));show IK _ _ (call (.builtin "sorted") [.ref l] [(Ko "key",.ref f)]) _ _ s2;refine rS hr.units I2 sm hl kh ok le Y (λpa i kv it hp h tk C R hR=>?_) E;refine ub (x:=x) (R:=(·=kv)) (C _ _ ho) ?_ hr.in1.in1.depth (I2.nolimit.keeps C) (hb _ _ _ _ _) hx b S m hk (λa N F=>?_) λu a D Z F=>?_
 ·obtain⟨c2,oc,vs,tq,e1,e2,e3,e4⟩:=W;exact⟨c2,oc,vs,tq,e1,C _ _ e2,e3,e4⟩
 ·have G:IsTup a pa i:=mU it λu Z=>F _ _ (C _ u Z);have rx:Reads X.prog X.w (Mm (lamQ q) sc h.objs.size f (.ref c') (yj X.env sc.names [])) a (.Name x xpos) (·=.ref pa):=nN (env:=Mm (lamQ q) sc h.objs.size f (.ref c') (yj X.env sc.names [])) hk hx N (by simp) J;exact rP (k:=0) rx rO G (by decide) hp (λ_ _=>rfl) λ_ _=>rfl
 ·subst Z;exact hR a D F
end
structure FnInH (P:NY) (w:NX) (K:Ih) (mg:Str->N7) (base:Heap) (k:Nat) (x:Str) (ps:Oa) (sp:Sp):Prop where
 ex:∃ (f:Ij) (st:Stmt) (fd:FuncData) (N:Oa) (p:Str) (xpos s1 c1 rpos:Pos) (j1:Nat),mg x=NQ (.ref f)/\Fun K x x st f fd/\Binds K fd [p] []/\FnScope N [p] (zi st) /\
  ym st=[.Return (NQ (.Subscript (.Name p xpos) (.Constant (.int 0) j1 c1) s1)) rpos]/\(zi st).names.lookup p=NQ .local/\(∀ z∈(zi st).names,z.2≠.cell)/\(p == ("__debug__":Str))=NV
section
variable {K:Ih} {f:Fx} {ρ:zu} {t:TA} {P:NR->Prop}
theorem nO {H:Hp}:∀ {ds:OB} {xs:List V},Reps K H (ds.map λp=>.tuple (p.1 :: p.2)) xs->KeyHd K H xs (ds.map (·.1))
 | [],xs,r=>by rw [zQ.mp r];exact .nil
 | d :: ds,xs,r=>by
  obtain⟨x,b,rfl,e,c⟩:=zE.mp r;obtain⟨a,j,rfl,i,h⟩:=zZ.mp e;obtain⟨y,k,rfl,g,l⟩:=zE.mp h;exact .cons i g (nO c)
theorem nP {a b:Type} (F:a->b) (d:a) (e:b) {p:Array Nat} {xs:List a} (h:∀ i∈p.toList,i<xs.length):pick e p (xs.map F)=(pick d p xs).map F:=by
 unfold pick;rw [JB];refine KY λi c=>?_;have:=h i c;show (xs.map F).getD i e=F (xs.getD i d);rw [Il,Iq,Ia this,Il,Ia this];rfl
theorem De (T:String) {P:Oo->Prop} (h:PAd K f t ρ λxs=>∃ ds:OB,xs=[.dat (.list (ds.map λp=>.tuple (p.1 :: p.2)))]/\SortOk T (ds.map (·.1))/\ds.length<=1000/\(ds.length<64 \/ (ds.map (·.1)).Pairwise λd e=>ltD d e=NS) /\
   ∀ es:OB,es.Perm ds->((es.map (·.1)).Pairwise λd e=>ltD d e=NS)->P (es.map λp=>.tuple (p.1 :: p.2))):PEdO K f (rR K t) ρ P:=λy H Q e q=>h y H _ e λxs R r m C ⟨ds,O,ok,F,n,c⟩=>by
 subst O;cases C with
 | cons E B =>
  cases B;obtain⟨l,A,rfl,M,w⟩:=zI.mp (show Rep K (hide r f) _ _ from E);have G:=(nO w).mono (zo _ _);refine⟨l,A,ds.map (·.1),T,rfl,(zo _ _).seq M,G,ok,by rw [Ib];exact F,by rw [Ib];exact n,λD x p u v j s L=>?_⟩;have N:Goes f r x:=.of_same u m.2;rw [Ib] at j s;have g:∀ i∈p.toList,i<ds.length:=λi I=>Jb.mp (j.mem_iff.mp I);refine q ((pick (.none,[]) p ds).map λz=>.tuple (z.1 :: z.2)) D _ x (m.trans N) (m.free e.fd v) L (Reps.mono (H:=hide r f) (λb o J=>?_) _ _ ?_) ?_
  ·have a:=zW J;have k:b≠D:=λz=>by
    have:=a.2;rw [z,v] at this;cases this
   refine zG (λz=>?_) (u b _ a.2);rcases z with z | z
   ·exact a.1 (.inl z)
   ·rcases Iv.mp z with z | z
    ·exact k z
    ·exact a.1 (.inr z)
  ·rw [<-nP (λz:NR×Oo=>PyData.tuple (z.1 :: z.2)) (.none,[]) .none g];exact dX w p
  ·refine c _ (dY j rfl) ?_;rw [<-nP (λz:NR×Oo=>z.1) (.none,[]) .none g];exact kY j s
end
section
variable {P:NY} {w:NX} {K:Ih} {mg:Str->N7} {base:Heap} {k:Nat} {x:Str} {st:Stmt} {ps:Oa} {N:Oa} {n:Nat} {γ:Type} {pre:γ->List DV->Prop} {post:γ->Oo->Prop}
theorem Def.okLN (F:Def K mg x st ps) (S:FnScope N ps (zi st)) (J:ps.length=n) (b:gE K x=NS)
  (h:∀ (e c Pt:Ij) (A:NZ) (a:Ob) (s:NU) (H:Hp) (E:XK),aK K c Pt=NS->JH K (.ref c) x=NS->Room k (A.deeper (envOfC x (zi st) s.heap.objs.size e (.ref c))) ->
   ∃ t,PSs (zV CX0 P w K mg base N x (zi st) e (.ref c) A a s H E).nox (ym st) t/\∀ (f:Fx) (xs:List DV) (c:γ),xs.length=n->pre c xs->PSn K f t (jC N xs) (post c)) :
  FnIn P w K mg base (k+1) x ps (spN K n pre post):=by
 obtain⟨e,R,o,F2,Y⟩:=F.ex;refine⟨e,R,?_,Y,o.kp,F2⟩;obtain⟨oc,od,kV,U,Z,an,W,ct,v,rfl,y,d⟩:=o.ex;obtain⟨c,Pt,rfl,B,z⟩:=Bc b d;refine sS y d S (λm H Q E h=>?_) λA a s H m Q E G C=>?_
 ·obtain⟨f,xs,c,r,b,_⟩:=h;rw [r.length,b,J]
 ·obtain⟨f,xs,c,r,b,O,I,q⟩:=C;obtain⟨t,M,L⟩:=h e _ Pt A a s H E B z G;exact⟨t,M.nox,L f xs c b I (start N m) H _ (y6 r O) (λT D i X g j l u p=>q T D i X g j l u p)⟩
end
noncomputable def Itd (a:Int) (n:Nat):It:=⟨λi _=>i<n,λi H x b=>b=H/\x=.int (a - i),λi _=>n<=i⟩
theorem nQ {P:NY} {w:NX} {K:Ih} {G:Expr} (a:Ij) (d:Int) (n:Nat):Turn P w K G (Itd d n) [a] a (λi h=>IsRangeIter h a (d+(i:Nat) * (-1)) ((n:Int) - (i:Nat)) (-1)) where
 mem:=by simp
 obj:=λi h st b c=>by
  have e:b=a:=by simpa using c
  subst e;exact⟨_,st,λv z=>by
   have F:Data.fields _=Data.cell v:=z;cases F⟩
 keep:=λi h j st k=>k a (by simp) _ st
 item:=by
  intro X q l r p i D s B H E I g st m;subst q l r;obtain⟨f0,A,M,y,x,u⟩:=g a (by simp);have W:=Walks.range (prog:=X.prog) (w:=X.w) (I.ok.hd p) a d (-1) n;refine W.item i s _ _ m st λv j C L f J=>?_;obtain⟨t,rfl⟩:=L;have O:Inv X D B H { s with heap:=j,toks:=C }:=I.turned (λb o c e=>J b o (by simpa using c) e) f0 A y x u;have e:d+(i:Int) * (-1)=d - i:=by lia
  refine⟨_,rfl,sQ (s:={ s with heap:=j,toks:=C }) (n:="range_iterator") f rfl rfl (by decide) ⟨.int (d - i),H,O,⟨t,?_⟩,⟨rfl,rfl⟩,f,λb c=>(g b c).1⟩⟩;rw [e]
 done:=by
  intro X q l r p i D s B H E I g st m;subst q l r;obtain⟨f0,A,M,y,x,u⟩:=g a (by simp);exact wpAny_pyNext_range_end (I.ok.hd p) st (by have:n<=i:=m;lia) λj N=>⟨rfl,I.turned (t':=s.toks) (λb o c e=>N b o c e) f0 A y x u⟩
 self:=λ_ _ _ _ _ st h=>wpAny_pyIter_rangeiter st h
theorem bU (a b:Int):K2 a b (-1)=if a > b then a - b else 0:=by
 unfold K2;simp only [show ¬ (-1:Int) > 0 by decide,if_false,Int.neg_neg,Int.ediv_one];split <;> lia
theorem wY {a b:Int} (f:-(2 ^ 62)<=a) (d:a<2 ^ 62) (e:-(2 ^ 62)<=b) (c:b<2 ^ 62):Nw a b (-1)=NS:=by
 unfold Nw;rw [bU];simp only [Builtin.Range.rangeFitsLong,Io,Bool.or_eq_true,decide_eq_true_eq,beq_iff_eq,show ¬ (-1:Int) > 0 by decide,if_false];split <;> lia
section
variable {X:Cx} {tg:Expr}
def Ez (c:TA):TI:=λa H R=>c a H λb d=>∃ i j:Int,b=[.int i,.int j,.int (-1)]/\(-(2 ^ 62)<=i/\i<2 ^ 62/\-(2 ^ 62)<=j/\j<2 ^ 62)/\R (Itd i (i - j).toNat) d
theorem wZ {f:N9} {d:St} {H:Hp} {s:NU} {R:It->Hp->Prop} {E:NT->NU->Prop} {a c:Int} {t u v:Tok} {tk:Nat} (I:Inv X f d H s) (l:-(2 ^ 62)<=a) (k:a<2 ^ 62) (j:-(2 ^ 62)<=c) (i:c<2 ^ 62)
  (q:R (Itd a (a - c).toNat) H):IK (model X.prog X.w) X.A (pyIter (.ref s.heap.objs.size)) (PIE X f d tg R) E { s with heap:=s.heap.push { cls:=.type "range",data:=.fields #[.int a t,.int c u,.int (-1) v] },toks:=tk }:=by
 refine wpAny_pyIter_range (IsRange.new ..) (wY l k j i) ?_;have g:Inv X f d H { s with heap:=s.heap.push { cls:=.type "range",data:=.fields #[.int a t,.int c u,.int (-1) v] },toks:=tk }:=I.kept λb o e=>Im _ e;refine⟨(s.heap.push { cls:=.type "range",data:=.fields #[.int a t,.int c u,.int (-1) v] }).objs.size,[(s.heap.push { cls:=.type "range",data:=.fields #[.int a t,.int c u,.int (-1) v] }).objs.size],_,_,H,rfl,
  g.kept (t':=tk) λb o e=>Im _ e,nQ _ a (a - c).toNat,?_,λb h=>?_,q⟩
 ·have n:a+((0:Nat):Int) * (-1)=a:=by lia
  have m:(((a - c).toNat:Nat):Int) - ((0:Nat):Int)=K2 a c (-1):=by rw [bU];split <;> lia
  show IsRangeIter _ _ (a+((0:Nat):Int) * (-1)) ((((a - c).toNat:Nat):Int) - ((0:Nat):Int)) (-1);rw [n,m];exact IT _ rfl
 ·have e:b=(s.heap.push { cls:=.type "range",data:=.fields #[.int a t,.int c u,.int (-1) v] }).objs.size:=by simpa using h
  subst e;exact g.fpOk (Iu _) (g.hok.fresh (Iu _))
theorem w4 {a b c:Expr} {k:TA} {p pos:Pos} (hg:Gl X "range") (y:X.mg "range"=NW) (z:PA X [a,b,c] k) (x:Jg [a,b,c] X.env=[(NV,eval a X.env),(NV,eval b X.env),(NV,eval c X.env)]:=by rfl) (f:Jg [b,c] X.env=[(NV,eval b X.env),(NV,eval c X.env)]:=by rfl) :
  PI X tg (.Call (.Name "range" p) [a,b,c] [] pos) (Ez k):=by
 intro A s l H R I h;refine Call_ (vE I hg y boot_range (Kg (thn (z pos A s l H _ I h) λD G ⟨C,J,B,n,g⟩=>?_) (by rw [x,f]) (by rw [f];rfl)));obtain⟨i,j,e,⟨g,w,v,u⟩,q⟩:=g;subst e;cases n with
 | cons r d =>
  cases d with
  | cons o d =>
   cases d with
   | cons m d =>
    cases d;obtain⟨t,rfl⟩:=r;obtain⟨F,rfl⟩:=o;obtain⟨E,rfl⟩:=m;exact call_range_3 (by decide) (wZ B g w v u q) (.inl (PyProof.noPylong_small (by decide)))
end
noncomputable def bx (i j:Int):Oo:=(IQ (i - j).toNat).map λ(k:Nat)=>.int (i - (k:Int))
section
variable {K:Ih} {f:Fx} {ρ:zu} {t:TA} {R:Oo->Prop}
theorem Bf (h:PAd K f t ρ λxs=>∃ i j:Int,xs=[.dat (.int i),.dat (.int j),.dat (.int (-1))]/\(-(2 ^ 62)<=i/\i<2 ^ 62/\-(2 ^ 62)<=j/\j<2 ^ 62)/\R (bx i j)):PId K f (Ez t) ρ R:=λo H C e q=>h o H _ e λxs M b F A ⟨i,j,J,D,p⟩=>by
 subst J;cases A with
 | @cons _ u _ _ y B =>
  cases B with
  | @cons _ s _ _ w m =>
   cases m with
   | @cons _ r _ _ v z =>
    cases z;have l:Rep K (hide b f) (.int i) u:=y;have g:Rep K (hide b f) (.int j) s:=w;have c:Rep K (hide b f) (.int (-1)) r:=v;refine⟨i,j,by rw [zw.mp l,zw.mp g,zw.mp c],D,q _ _ b F ⟨λI L k d G _ a=>?_,λI L _ _=>?_⟩ p⟩
    ·unfold bx at a;rw [Iq] at a;by_cases n:k<(i - j).toNat
     ·rw [J6 n] at a;cases a;refine⟨n,λx N E=>?_⟩;obtain⟨rfl,rfl⟩:=E;exact⟨.refl G,zw.mpr rfl⟩
     ·rw [Jf (by rw [Jh];lia)] at a;cases a
    ·show (i - j).toNat<=(bx i j).length;unfold bx;rw [Ib,Jh];exact Iu _
end
end L2
end
section
namespace My
open PySem PySem.Spec PyProof.Rows L2
noncomputable abbrev pf:Oa:=["rows"]
noncomputable abbrev ph:Oa:=["rows","cut","gate"]
noncomputable abbrev pj:Oa:=["rows","x","y"]
noncomputable abbrev pq:Oa:=["rows","cut","cell"]
noncomputable abbrev pz:Oa:=["rows","cut"]
noncomputable abbrev pA:Oa:=["rows","cut","point"]
noncomputable abbrev pB:Oa:=["rows","height","pair","regions_at"]
noncomputable abbrev pC:Oa:=["a","b","rows"]
noncomputable abbrev pE:Oa:=["rows","cut","start"]
noncomputable abbrev pF:Oa:=["rows","height"]
noncomputable abbrev pG:Oa:=["row"]
noncomputable abbrev pH:Oa:=["x","y"]
noncomputable abbrev pI:Oa:=["gate","rows","cut"]
noncomputable abbrev pJ:Oa:=["things"]
noncomputable abbrev pK:Oa:=["rows","gate"]
noncomputable abbrev pL:Oa:=["pair","some"]
noncomputable abbrev pM:Oa:=["x","y","rows"]
noncomputable abbrev pN:Oa:=["x","y","tall"]
noncomputable abbrev pO:Oa:=["lower","upper"]
noncomputable abbrev pP:Oa:=["word","path","rows","regions_at"]
noncomputable abbrev pQ:Oa:=["rows","height","regions_at"]
noncomputable abbrev pR:Oa:=["rows","path","regions_at"]
noncomputable abbrev pS:Oa:=["rows","height","cell"]
noncomputable abbrev pT:Oa:=["cell","pair","regions_at"]
noncomputable abbrev pU:Oa:=["rows","height","point"]
noncomputable abbrev pW:Oa:=["_law_script","_law_k"]
noncomputable abbrev pX:Oa:=["_law_feed_here","_law_many"]
noncomputable abbrev pY:Oa:=["_law_caught"]
noncomputable abbrev pZ:Oa:=["_law_rows","_law_way"]
noncomputable abbrev qa:Oa:=["_law_script"]
noncomputable abbrev qb:Oa:=["x","y","way"]
noncomputable abbrev qc:Oa:=["a","b","rows","cut","x","y","high"]
noncomputable abbrev qd:Oa:=["at","other","pair"]
noncomputable abbrev qe:Oa:=["x","y","rows","height","pair","regions_at"]
noncomputable abbrev qf:Oa:=["height","node","rows"]
noncomputable abbrev qg:Oa:=["rows","cut","gate","across","down"]
noncomputable abbrev qh:Oa:=["cell","rows","height","pair","regions_at"]
noncomputable abbrev qi:Oa:=["_law_y","_law_feed_here","_law_wide","_law_base"]
noncomputable abbrev qj:Oa:=["_law_x","_law_feed_here","_law_base"]
local macro_rules | `(tactic| walk_at "w")=>`(tactic| repeat walk_at "dl")
local macro_rules | `(tactic| walk_at "c")=>`(tactic| exact⟨rfl,by decide +kernel,N4 (by kernel_rfl),N4 (by kernel_rfl),N4 (by kernel_rfl),rfl⟩)
local macro_rules | `(tactic| walk_at "s")=>`(tactic| exact⟨rfl,rfl,rfl,by decide +kernel,rfl,by decide +kernel,by decide +kernel⟩)
noncomputable def top (i:Nat):Stmt:=PySem.Challenge.pw_heightrings_k44_too_steep.main.body.getD i (.Pass ⟨0,0,0,0⟩)
noncomputable abbrev lM:=top 1
noncomputable abbrev FX:Oa:=pf
theorem Df:FnScope FX pf (zi lM):=by walk_at "s"
noncomputable abbrev de:=top 2
noncomputable abbrev Bg:Oa:=["rows","wide","tall"]
theorem en:FnScope Bg pf (zi de):=by walk_at "s"
noncomputable abbrev vp:=top 3
noncomputable abbrev nR:Oa:=["rows","x","y","wide","tall"]
theorem ao:FnScope nR pj (zi vp):=by walk_at "s"
noncomputable abbrev qG:=top 4
noncomputable abbrev lO:Oa:=["rows","x","y","beside"]
theorem bV:FnScope lO pj (zi qG):=by walk_at "s"
noncomputable abbrev ft:=top 5
noncomputable abbrev Dg:Oa:=["rows","wide","tall"]
theorem gG:FnScope Dg pf (zi ft):=by walk_at "s"
noncomputable abbrev aq:=top 6
noncomputable abbrev rT:Oa:=pj
theorem nS:FnScope rT pj (zi aq):=by walk_at "s"
noncomputable abbrev bz:=top 7
noncomputable abbrev w5:Oa:=pH
theorem rV:FnScope w5 pH (zi bz):=by walk_at "s"
noncomputable abbrev ar:=top 8
noncomputable abbrev rW:Oa:=["rows","x","y","around"]
theorem eP:FnScope rW pj (zi ar):=by walk_at "s"
noncomputable abbrev vq:=top 26
noncomputable abbrev nT:Oa:=["rows","at","row"]
theorem au:FnScope nT pf (zi vq):=by walk_at "s"
noncomputable abbrev lP:=top 27
noncomputable abbrev FY:Oa:=pJ
theorem Dh:FnScope FY pJ (zi lP):=by walk_at "s"
noncomputable abbrev df:=top 28
noncomputable abbrev Bh:Oa:=pG
theorem w6:FnScope Bh pG (zi df):=by walk_at "s"
noncomputable abbrev lQ:=top 29
noncomputable abbrev FZ:Oa:=pf
theorem Di:FnScope FZ pf (zi lQ):=by walk_at "s"
noncomputable abbrev fu:=top 33
noncomputable abbrev Dj:Oa:=["rows","cut","sides"]
theorem nU:FnScope Dj pz (zi fu):=by walk_at "s"
noncomputable abbrev jY:=top 34
noncomputable abbrev ia:Oa:=["rows","cut","point","x","y"]
theorem qW:FnScope ia pA (zi jY):=by walk_at "s"
noncomputable abbrev jZ:=top 35
noncomputable abbrev ib:Oa:=["gate","x","y","way"]
theorem jF:FnScope ib ["gate"] (zi jZ):=by walk_at "s"
noncomputable abbrev av:=top 36
noncomputable abbrev rX:Oa:=pK
theorem nV:FnScope rX pK (zi av):=by walk_at "s"
noncomputable abbrev bA:=top 37
noncomputable abbrev w8:Oa:=["rows","cut","gate","first","second"]
theorem cx:FnScope w8 ph (zi bA):=by walk_at "s"
noncomputable abbrev qH:=top 38
noncomputable abbrev lR:Oa:=["cell","x","y"]
theorem vL:FnScope lR ["cell"] (zi qH):=by walk_at "s"
noncomputable abbrev qI:=top 39
noncomputable abbrev lS:Oa:=pq
theorem ic:FnScope lS pq (zi qI):=by walk_at "s"
noncomputable abbrev yX:=top 40
noncomputable abbrev dh:Oa:=["rows","cut","cell","x","y"]
theorem jn:FnScope dh pq (zi yX):=by walk_at "s"
noncomputable abbrev vt:=top 41
noncomputable abbrev nW:Oa:=["rows","cut","cell","through"]
theorem dk:FnScope nW pq (zi vt):=by walk_at "s"
noncomputable abbrev jG:=top 42
noncomputable abbrev gH:Oa:=["rows","cut","cell","above","left","below","right"]
theorem yR:FnScope gH pq (zi jG):=by walk_at "s"
noncomputable abbrev bB:=top 43
noncomputable abbrev w9:Oa:=["rows","cut","gate","x","y","way","near_is_high"]
theorem qX:FnScope w9 ph (zi bB):=by walk_at "s"
noncomputable abbrev qJ:=top 44
noncomputable abbrev lT:Oa:=qg
theorem vM:FnScope lT ph (zi qJ):=by walk_at "s"
noncomputable abbrev aw:=top 45
noncomputable abbrev rY:Oa:=qg
theorem aV:FnScope rY ph (zi aw):=by walk_at "s"
noncomputable abbrev qK:=top 46
noncomputable abbrev lU:Oa:=["rows","cut","gate","x","y","partners","one","other"]
theorem yU:FnScope lU ph (zi qK):=by walk_at "s"
noncomputable abbrev fv:=top 48
noncomputable abbrev Dk:Oa:=["rows","cut","through","starts","told","passed","start","line","gate"]
theorem qm:FnScope Dk pz (zi fv):=by walk_at "s"
noncomputable abbrev vu:=top 49
noncomputable abbrev nX:Oa:=["rows","cut","start","path","gate"]
theorem qL:FnScope nX pE (zi vu):=by walk_at "s"
noncomputable abbrev bC:=top 51
noncomputable abbrev xa:Oa:=["rows","cut","told","placed","point","within","other"]
theorem jR:FnScope xa pz (zi bC):=by walk_at "s"
noncomputable abbrev bD:=top 52
noncomputable abbrev xb:Oa:=["rows","cut","places","at","word","within","point"]
theorem jS:FnScope xb pz (zi bD):=by walk_at "s"
noncomputable abbrev qM:=top 53
noncomputable abbrev lV:Oa:=["rows","cut","start","found","waiting","point","other"]
theorem jj:FnScope lV pE (zi qM):=by walk_at "s"
noncomputable abbrev dm:=top 54
noncomputable abbrev Bi:Oa:=["rows","cut","point","x","y","high","beside","aslant"]
theorem qP:FnScope Bi pA (zi dm):=by walk_at "s"
noncomputable abbrev ay:=top 57
noncomputable abbrev rZ:Oa:=["rows","height","least","greatest","regions_at","below","above","told","pair","on_height","in_band"]
theorem yz:FnScope rZ pF (zi ay):=by walk_at "s"
noncomputable abbrev gI:=top 58
noncomputable abbrev F4:Oa:=["rows","least","greatest"]
theorem bE:FnScope F4 pf (zi gI):=by walk_at "s"
noncomputable abbrev bF:=top 59
noncomputable abbrev xc:Oa:=["node","height","below","above","on_height","in_band"]
theorem jT:FnScope xc ["node"] (zi bF):=by walk_at "s"
noncomputable abbrev jH:=top 60
noncomputable abbrev gJ:Oa:=["rows","height","lower","upper"]
theorem qw:FnScope gJ pF (zi jH):=by walk_at "s"
noncomputable abbrev fz:=top 61
noncomputable abbrev Dl:Oa:=["rows","height","regions_at","found","x","y","a","b"]
theorem vS:FnScope Dl pQ (zi fz):=by walk_at "s"
noncomputable abbrev j7:=top 62
noncomputable abbrev bW:Oa:=["rows","path","regions_at","low","high"]
theorem qY:FnScope bW pR (zi j7):=by walk_at "s"
noncomputable abbrev vw:=top 63
noncomputable abbrev nY:Oa:=pL
theorem lW:FnScope nY pL (zi vw):=by walk_at "s"
noncomputable abbrev vy:=top 64
noncomputable abbrev nZ:Oa:=pB
theorem lX:FnScope nZ pB (zi vy):=by walk_at "s"
noncomputable abbrev az:=top 65
noncomputable abbrev r6:Oa:=pB
theorem n8:FnScope r6 pB (zi az):=by walk_at "s"
noncomputable abbrev jl:=top 66
noncomputable abbrev fb:Oa:=["rows","height","cell","x","y"]
theorem jU:FnScope fb pS (zi jl):=by walk_at "s"
noncomputable abbrev fA:=top 67
noncomputable abbrev Dm:Oa:=["cell","pair","regions_at","x","y","high","low","beside"]
theorem vT:FnScope Dm pT (zi fA):=by walk_at "s"
noncomputable abbrev dq:=top 69
noncomputable abbrev Dp:Oa:=["rows","told","node","height","below","above","top","in_band"]
theorem y3:FnScope Dp pf (zi dq):=by walk_at "s"
noncomputable abbrev bG:=top 70
noncomputable abbrev xf:Oa:=["rows","height","point","least","greatest","cut"]
theorem aA:FnScope xf pU (zi bG):=by walk_at "s"
noncomputable abbrev aB:=top 72
noncomputable abbrev cz:Oa:=["_law_script","_law_k","_law_cell"]
theorem aW:FnScope cz pW (zi aB):=by walk_at "s"
noncomputable abbrev aC:=top 73
noncomputable abbrev r8:Oa:=["_law_feed_here","_law_many","_law_found"]
theorem eQ:FnScope r8 pX (zi aC):=by walk_at "s"
noncomputable abbrev vz:=top 77
noncomputable abbrev n9:Oa:=["_law_caught","_law_some"]
theorem qN:FnScope n9 pY (zi vz):=by walk_at "s"
noncomputable abbrev aD:=top 78
noncomputable abbrev sd:Oa:=["_law_rows","_law_way","_law_found","_law_caught"]
theorem qo:FnScope sd pZ (zi aD):=by walk_at "s"
noncomputable abbrev eR:=top 79
noncomputable abbrev ue:Oa:=["_law_script","_law_k","_law_feed_here","_law_wide","_law_high","_law_far","_law_base","_law_rows","_law_at","_law_other","_law_due"]
theorem qZ:FnScope ue qa (zi eR):=by walk_at "s"
noncomputable def tab (NI:Ot):NR:=.list (NI.map λr=>.list (r.map .int))
structure Good (w:Nat) (NI:Ot):Prop where
 h1:2<=NI.length
 h2:NI.length<=7
 w1:2<=w
 w2:w<=7
 row:∀ r∈NI,r.length=w
 hgt:∀ r∈NI,∀ n∈r,-1000000000<=n/\n<=1000000000
theorem Good.ne {w:Nat} {NI:Ot} (g:Good w NI):∃ r a,NI=r :: a:=by
 cases NI with
 | nil=>have:=g.h1;simp at this
 | cons r a=>exact⟨r,a,rfl⟩
theorem vA {a b:Type} {F:a->b} {xs:List a} {k:Int} {j:Nat} (c:(j:Int)=k) (h:j<xs.length):atI (xs.map F) k=NQ (F xs[j]):=by
 subst c;exact fg (by rw [Iq,Ia h];rfl)
local macro_rules | `(tactic| walk_at "dl")=>`(tactic| first
 | (with_reducible show PSd _ _ (ve _ (oQ (yB _) (tC (V.int 0)) iD)) _ _;refine Cy rfl ?_)
 | (with_reducible show PSd _ _ (ve _ (oQ (yB _) (tC (V.int 1)) iD)) _ _;refine Cz rfl ?_)
 | (with_reducible first | refine yt ?_ | refine eX ?_ | refine yD ?_ | refine zY ?_ | refine vG ?_ | refine aQ ?_)
 | (with_reducible first | refine zj ?_ | refine yo rfl ?_ | refine zq ?_ | refine zT ?_)
 | (with_reducible first | refine yr ?_ | refine t_b ?_ | refine sY ?_ | refine Fb ?_ | refine iG ?_ | refine ji ?_)
 | (with_reducible first | refine kJ ?_ | refine mQ ?_ | refine bS ?_ | refine oY ?_ | refine qA ?_)
 | (with_reducible first | refine o3 ?_ | refine fS ?_ | refine d_orV ?_ | refine Aa ?_)
 | (with_reducible first | refine yQ ?_ | refine Cw ?_ | refine qU ?_ | refine Eh ?_)
 | (with_reducible show PEd _ _ (yB _) _ _;refine zr rfl ?_)
 | (with_reducible show PEd _ _ (tOp (mI _) (yB _) _) _ _;refine GX rfl ?_)
 | (with_reducible first | refine xZ ?_ | refine eG ?_)
 | (with_reducible show PAd _ _ (yy (yB _) _) _ _;refine E9 rfl ?_)
 | (with_reducible first | refine zv ?_ | refine zP ?_)
 | (with_reducible first | refine d_catT ?_ | refine d_cut ?_ | refine po_no ?_ | refine po_at ?_ | refine Fi ?_ | refine fj ?_ | refine ju ?_)
 | (with_reducible first | refine qk ?_ | refine mR ?_ | refine sZ ?_ | refine o4 ?_ | refine kK ?_ | refine Fe ?_ | refine Ff ?_)
 | (with_reducible show (∃ _,_) \/ (∃ _,_);first | refine N2 ⟨_,rfl,?_⟩ | refine N3 ⟨_,rfl,?_⟩) | refine⟨_,rfl,?_⟩ | refine⟨_,_,rfl,?_⟩
 | (with_reducible show (_=_/\∀ _,_) \/ _;first | refine N2 ⟨rfl,λa ha=>?_⟩ | refine N3 ⟨rfl,λb hb hb'=>?_⟩)
 | (with_reducible show PyData.canLay0 _=NS/\_;refine And.intro (by first | rfl | assumption | decide +kernel) ?_)
 | (with_reducible show min _ _<=60/\_;refine And.intro (by first | assumption | (simp [PyData.depth,IB];done)) ?_)
 | refine⟨rfl,?_⟩
 | (refine And.intro ?side ?_;(case side=>first | omega | exact Int.ediv_nonneg (by omega) (by omega) | exact Lw _ (by omega) | exact Km _ (by omega) | decide | exact⟨by decide,by decide,by decide⟩ | exact⟨by omega,by omega⟩ | exact N2 ⟨by omega,by omega⟩ | exact N3 ⟨by omega,by omega⟩ | (refine IS (Ku (by rfl)) (show _<=1000 by decide)) | ((repeat' apply And.intro) <;> first | rfl | omega | decide | assumption) | (simp [PyData.depth]))))
section
variable {P:NY} {w:NX} {K:Ih} {mg:Str->N7} {base:Heap} {k:Nat}
theorem Dq (F:Def K mg "size" lM pf) (a:mg "len"=NW):FnIn P w K mg base (k+1) "size" pf (spD K 1 (λ(c:Ot×Nat) xs=>xs=[.dat (tab c.1)]/\Good c.2 c.1) λc r=>r=.tuple [.int c.2,.int c.1.length]):=by
 refine F.ok Df rfl λn e A b s H E l=>⟨_,(zm (zz (zH (zc (zB (yM (K:=K) rfl) rfl a Kb (zc (zX (zM (K:=K) rfl) (pv 0) zp (λ_ _=>rfl)) zd)) (zc (zB (yM (K:=K) rfl) rfl a Kb (zc (pv 0) zd)) zd))))),?_⟩;rintro f xs ⟨o,h⟩ m ⟨rfl,g⟩
 try dsimp only [zV,zk]
 obtain⟨r,i,rfl⟩:=g.ne;walk_at "w";refine⟨_,vA (j:=0) rfl (by simp),?_⟩;walk_at "w";have d:=g.row r Ik;show PyData.tuple [.int _,.int _]=_;rw [Ib,Ib];show PyData.tuple [.int (r.length:Nat),_]=_;rw [d]
theorem Dr (F:Def K mg "fits" lP pJ) (d:mg "len"=NW) (b:∃ t,mg "FEWEST"=NQ (.int 2 t)) (a:∃ t,mg "MOST"=NQ (.int 7 t)) :
  FnIn P w K mg base (k+1) "fits" pJ (spD K 1 (λ(c:Oo) xs=>xs=[.dat (.list c)]) λc r=>r=.bool (decide (2<=c.length/\c.length<=7))):=by
 obtain⟨_,b⟩:=b;obtain⟨_,a⟩:=a;refine F.ok Dh rfl λn j A e s H E l=>⟨_,(zm (zz (cI bO bO (vO rfl b) (zB (yM (K:=K) rfl) rfl d Kb (zc (pv 0) zd)) (vO rfl a)))),?_⟩;rintro f xs g m rfl
 try dsimp only [zV,zk]
 walk_at "w";by_cases h:2<=g.length
 ·rw [NM (by simp;lia)];walk_at "w";show PyData.bool _=_
  congr 1
  by_cases i:g.length<=7 <;> simp [h,i] <;> lia
 ·rw [NL (by simp;lia)];show PyData.bool _=_
  congr 1
  simp [h]
theorem xg (F:Def K mg "is_row" df pG) (e:mg "min"=NW) (g:mg "max"=NW) (b:∃ t,mg "LEAST"=NQ (.int (-1000000000) t)) (a:∃ t,mg "GREATEST"=NQ (.int 1000000000 t))
  (i:FnIn P w K mg base k "fits" pJ (spD K 1 (λ(c:Oo) xs=>xs=[.dat (.list c)]) λc r=>r=.bool (decide (2<=c.length/\c.length<=7)))) :
  FnIn P w K mg base (k+1) "is_row" pG (spD K 1 (λ(c:Oh) xs=>xs=[.dat (.list (c.map .int))]) λc r=>r=.bool (decide (2<=c.length/\c.length<=7/\∀ n∈c,-1000000000<=n/\n<=1000000000))):=by
 obtain⟨_,b⟩:=b;obtain⟨_,a⟩:=a;refine F.ok w6 rfl λC y A j s H E p=>⟨_,(zm (zz (b6 (zg i p rfl (zc (pv 0) zd)) (b6 (vh bO (vO rfl b) (zB (dR (K:=K) rfl rfl) rfl e boot_min (zc (pv 0) zd)) (z9 _)) (fH (vh bO (zB (br (K:=K) rfl rfl) rfl g boot_max (zc (pv 0) zd)) (vO rfl a) (z9 _))))))),?_⟩;rintro f xs c B rfl
 try dsimp only [zV,zk]
 walk_at "w";refine zt (c.map .int) ?_;walk_at "w";rintro r rfl;rw [Ib];walk_at "w";by_cases h:2<=c.length/\c.length<=7
 ·have u:c≠[]:=by rintro rfl;simp at h
  rw [NM (by simpa using h)];walk_at "w";intro M x m;walk_at "w";by_cases d:-1000000000<=M
  ·rw [NM (by simpa using d)];walk_at "w";intro z v l;walk_at "w";show PyData.bool _=_
   congr 1
   rw [decide_eq_decide];refine⟨λq=>⟨h.1,h.2,λn o=>⟨LM d (m n o),LM (l n o) q⟩⟩,λq=>(q.2.2 z v).2⟩
  ·rw [NL (by simpa using d)];show PyData.bool _=_
   congr 1
   symm;rw [decide_eq_false_iff_not];exact λq=>d (q.2.2 M x).1
 ·rw [NL (by simpa using h)];show PyData.bool _=_
  congr 1
  symm;rw [decide_eq_false_iff_not];exact λq=>h ⟨q.1,q.2.1⟩
abbrev bX (K:Ih):Sp:=spD K 1 (λ(c:Ot×Nat) a=>a=[.dat (tab c.1)]/\Good c.2 c.1) λ_ r=>r=.bool NS
theorem F5 (F:Def K mg "ask_table" vq pf) (h:mg "len"=NW) (t:mg "enumerate"=NW)
  (u:FnIn P w K mg base k "fits" pJ (spD K 1 (λ(c:Oo) xs=>xs=[.dat (.list c)]) λc r=>r=.bool (decide (2<=c.length/\c.length<=7))))
  (q:FnIn P w K mg base k "is_row" pG (spD K 1 (λ(c:Oh) xs=>xs=[.dat (.list (c.map .int))]) λc r=>r=.bool (decide (2<=c.length/\c.length<=7/\∀ n∈c,-1000000000<=n/\n<=1000000000)))) :
  FnIn P w K mg base (k+1) "ask_table" pf (bX K):=by
 refine F.ok au rfl λO J A v s H E e=>⟨_,(ze (yL (bZ (yn (K:=K) rfl (zg u e rfl (zc (pv 0) zd)) (λ_=>rfl))) (zm fI) z6) (ze (y8 JA rfl (fV (K:=K) rfl rfl t (zc (pv 0) zd)) (zJ (K:=K) (n:=2) rfl rfl (zh (zf (i:=1) au.nd) (zh (zf (i:=2) au.nd) zF))) (zm (yL (PW.pt (xH (zR (fU (K:=K) rfl e.units) (zB (yM (K:=K) rfl) rfl h Kb (zc (pv 2) zd)) (zB (yM (K:=K) rfl) rfl h Kb (zc (zX (zM (K:=K) rfl) (pv 0) zp (λ_ _=>rfl)) zd)) (z9 _)) (oP (bZ (yn (K:=K) rfl (zg q e rfl (zc (pv 2) zd)) (λ_=>rfl)))))) (zm fI) z6))) (zm (zz cH)))),?_⟩;rintro f xs ⟨x,L⟩ N ⟨rfl,g⟩
 try dsimp only [zV,zk]
 have D:=g.h1;have C:=g.h2;walk_at "w";refine zt (x.map λr=>.list (r.map .int)) ?_;walk_at "w";rintro r rfl;dsimp only at D C;refine⟨_,rfl,?_⟩;rw [Ib,NN ⟨D,C⟩,JP,NL Ie];walk_at "w";refine o6 ?_;walk_at "w";refine⟨λi p=>∃ a b,p=[NQ (.dat (tab x)),a,b],⟨_,_,rfl⟩,?_,?_⟩
 ·rintro i d p o ⟨a,b,rfl⟩;rw [Iq] at o;cases e:x[i]? with
  | none=>rw [e] at o;cases o
  | some r =>
   rw [e] at o;cases o;have B:=Ir e;have z:=g.row r B;obtain⟨y,M,m⟩:=g.ne;dsimp only at m;subst m;have l:=g.row y Ik;walk_at "w";refine⟨_,vA (j:=0) rfl (by simp),?_⟩;walk_at "w";dsimp only at z l;rw [NM rfl,Ib,Ib];show (if (!(((r.length:Nat):Int) == ((y.length:Nat):Int)))=NS then _ else _);rw [z,l,beq_self_eq_true,JP,NL Ie];walk_at "w";refine zt r ?_;walk_at "w";rintro _ rfl;refine⟨_,rfl,?_⟩;have I:=g.w1;have G:=g.w2;dsimp only at I G;rw [NN ⟨by lia,by lia,g.hgt r B⟩,JP,NL Ie];walk_at "w";exact⟨_,_,rfl⟩
 ·rintro p ⟨a,b,rfl⟩;walk_at "w";rfl
theorem Dt (F:Def K mg "_law_draw" aC pX):FnIn P w K mg base (k+1) "_law_draw" pX (spD K 2 (λ(c:Int) xs=>xs=[.feed,.dat (.int c)]/\0<c/\c<1152921504606846976) λc r=>∃ i:Int,r=.int i/\0<=i/\i<c):=by
 refine F.ok eQ rfl λh d A a s H E e=>⟨_,(ze (yL (zR xR (zX (zM (K:=K) rfl) (pv 0) zp (λ_ _=>rfl)) (zA kB zp zp) (z9 _)) (ze (zL (i:=2) eQ.nd rfl (N2 rfl) (zA aa (zX (zM (K:=K) rfl) (pv 0) zp (λ_ _=>rfl)) (pv 1))) (ze (z8 (zA cP (zX (zM (K:=K) rfl) (pv 0) zp (λ_ _=>rfl)) (pv 1)) (v8 (pv 0) zp set_list)) (zm (zz (pv 2))))) z6) (ze (z8 (zA aa (zA yd (zA yd (zA qR (zX (zM (K:=K) rfl) (pv 0) zp (λ_ _=>rfl)) zp) (zA aa (zX (zM (K:=K) rfl) (pv 0) zp (λ_ _=>rfl)) zp)) zp) zp) (v8 (pv 0) zp set_list)) (zm (zz (zA aa (zA cP (zA aa (zA qR (zX (zM (K:=K) rfl) (pv 0) zp (λ_ _=>rfl)) zp) zp) zp) (pv 1)))))),?_⟩;rintro f xs c g ⟨rfl,b,j⟩
 try dsimp only [zV,zk]
 walk_at "w";split
 ·walk_at "w";exact Km _ b
 ·walk_at "w";exact Km _ b
abbrev F6 (K:Ih):Sp:=spD K 2 (λ(c:Int) a=>a=[.feed,.dat (.int c)]/\0<c/\c<1152921504606846976) λc r=>∃ i:Int,r=.int i/\0<=i/\i<c
theorem menu {ds:Oo} {i n:Int} (h0:0<=i) (c:i<n) (b:n=(ds.length:Int)):∃ d,atI ds i=NQ d/\d∈ds:=by
 have a:i.toNat<ds.length:=by lia
 have e:i=((i.toNat:Nat):Int):=by lia
 have q:=fg (Ia a);rw [<-e] at q;exact⟨_,q,Jm a⟩
theorem uf:∀ {es:Oo} {p:Int->Prop},(∀ (i:Nat) e,es[i]?=NQ e->∃ n:Int,e=.int n/\p n)->∃ ns:Oh,es=ns.map .int/\∀ n∈ns,p n
 | [],p,_=>⟨[],rfl,λn h=>by cases h⟩
 | e :: es,p,h=>by
  obtain⟨n,rfl,c⟩:=h 0 e rfl;obtain⟨ns,rfl,b⟩:=uf (es:=es) (p:=p) λi f d=>h (i+1) f (by simpa using d);exact⟨n :: ns,rfl,λm a=>by
   rcases Iv.mp a with rfl | a
   ·exact c
   ·exact b m a⟩
theorem yA {b:Bool} {p q:Prop} (c:b=NS->p) (a:b=NV->q):if b=NS then p else q:=by
 cases b with
 | true=>rw [NM rfl];exact c rfl
 | false=>rw [NL Ie];exact a rfl
noncomputable def yb (NI:Ot) (wd:Nat) (x y:Int):Bool:=decide (0<=x/\x<wd) && decide (0<=y/\y<NI.length)
noncomputable def yc (NI:Ot) (x y:Int):Int:=(NI.getD y.toNat []).getD x.toNat 0
theorem aX {NI:Ot} {wd:Nat} {x y:Int} (h:yb NI wd x y=NS):0<=x/\x<wd/\0<=y/\y<NI.length:=by
 unfold yb at h;rw [Io] at h;have b:=N4 h.1;have a:=N4 h.2;lia
noncomputable def vB (x y w:Int):NR:=.tuple [.int x,.int y,.int w]
noncomputable def px (x:Int) (w:Int):Int:=if w=0 then x+1 else x
noncomputable def py (y:Int) (w:Int):Int:=if w=0 then y else y+1
noncomputable def aE (NI:Ot) (wd:Nat) (x y w:Int):Bool:=decide (w=0 \/ w=1) && (yb NI wd x y && yb NI wd (px x w) (py y w))
noncomputable def yS (NI:Ot) (wd:Nat) (N0 x y w:Int):Bool:=aE NI wd x y w && (decide (N0<yc NI x y) != decide (N0<yc NI (px x w) (py y w)))
noncomputable def iW (NI:Ot) (N0 x y w:Int):Str:=if w=0 then (if N0<yc NI x y then "up" else "down") else (if N0<yc NI x y then "right" else "left")
theorem du (a b:Int):IX (.int a) (.int b)=decide (a=b):=rfl
theorem oa (a b:Bool):IX (.bool a) (.bool b)=(a == b):=rfl
abbrev sg (K:Ih):Sp:=spD K 1 (λ(c:Ot×Nat) a=>a=[.dat (tab c.1)]/\Good c.2 c.1) λc r=>r=.tuple [.int c.2,.int c.1.length]
abbrev ug (K:Ih):Sp:=spD K 3 (λ(c:Ot×Nat×Int×Int) a=>a=[.dat (tab c.1),.dat (.int c.2.2.1),.dat (.int c.2.2.2)]/\Good c.2.1 c.1) λc r=>r=.bool (yb c.1 c.2.1 c.2.2.1 c.2.2.2)
theorem F7 (F:Def K mg "has_point" vp pj) (j:FnIn P w K mg base k "size" pf (sg K)):FnIn P w K mg base (k+1) "has_point" pj (ug K):=by
 refine F.ok ao rfl λC v A l s H E u=>⟨_,(ze (z8 (zg j u rfl (zc (pv 0) zd)) (zJ (K:=K) (n:=2) rfl rfl (zh (zf (i:=3) ao.nd) (zh (zf (i:=4) ao.nd) zF)))) (zm (zz (b6 (cI bO xQ zp (pv 1) (pv 3)) (fH (cI bO xQ zp (pv 2) (pv 4))))))),?_⟩;rintro f z ⟨e,d,x,y⟩ B ⟨rfl,g⟩
 try dsimp only [zV,zk]
 dsimp only at *;refine yt (zY (zt (e,d) ?_));walk_at "w";rintro _ rfl;walk_at "w";have a:∀ b:Bool,b=yb e d x y->PyData.bool b=PyData.bool (yb e d x y):=λb h=>by rw [h]
 refine yA (λt=>?_) λt=>?_
 ·have r:=N4 t;walk_at "w";refine yA (λq=>?_) λq=>?_
  ·have c:=N4 q;walk_at "w";refine yA (λo=>?_) λo=>?_
   ·have m:=N4 o;walk_at "w";refine a _ ?_;unfold yb;dsimp only at c ⊢;rw [NN (p:=(0<=x/\x<(d:Int))) (by lia),Lb];exact decide_eq_decide.mpr (by lia)
   ·have m:=N5 o;refine a _ ?_;unfold yb;rw [NP (p:=(0<=y/\y<(e.length:Int))) (by lia),Mq]
  ·have c:=N5 q;refine a _ ?_;unfold yb;dsimp only at c;rw [NP (p:=(0<=x/\x<(d:Int))) (by lia),K1]
 ·have r:=N5 t;refine⟨_,rfl,?_⟩;rw [NL Ie];refine a _ ?_;unfold yb;rw [NP (p:=(0<=x/\x<(d:Int))) (by lia),K1]
abbrev et (K:Ih):Sp:=spD K 3 (λ(c:Ot×Nat×Int×Int×Int) a=>a=[.dat (tab c.1),.dat (.int c.2.2.1),.dat (.tuple [.int c.2.2.2.1,.int c.2.2.2.2])]/\Good c.2.1 c.1/\yb c.1 c.2.1 c.2.2.2.1 c.2.2.2.2=NS) λc r=>r=.bool (decide (c.2.2.1<yc c.1 c.2.2.2.1 c.2.2.2.2))
theorem aY {NI:Ot} {wd:Nat} {x y:Int} (g:Good wd NI) (h:yb NI wd x y=NS):∃ r:Oh,atI (NI.map λq=>PyData.list (q.map .int)) y=NQ (.list (r.map .int))/\atI (r.map PyData.int) x=NQ (.int (yc NI x y)):=by
 obtain⟨f,e,d,c⟩:=aX h;have a:y.toNat<NI.length:=by lia
 have i:=g.row _ (Jm a);have b:x.toNat<NI[y.toNat].length:=by lia
 refine⟨NI[y.toNat],vA (F:=λq:Oh=>PyData.list (q.map .int)) (by lia) a,?_⟩;rw [vA (j:=x.toNat) (by lia) b];unfold yc;rw [Il,Il,Ia a,Lk,Ia b];rfl
theorem Du (F:Def K mg "stands_high" jY pA):FnIn P w K mg base (k+1) "stands_high" pA (et K):=by
 refine F.ok qW rfl λo e A a s H E l=>⟨_,(ze (z8 (pv 2) (zJ (K:=K) (n:=2) rfl rfl (zh (zf (i:=3) qW.nd) (zh (zf (i:=4) qW.nd) zF)))) (zm (zz (vh iw (zX (zM (K:=K) rfl) (zX (zM (K:=K) rfl) (pv 0) (pv 4) (λ_ _=>rfl)) (pv 3) (λ_ _=>rfl)) (pv 1) (z9 _))))),?_⟩;rintro f h ⟨p,j,q,x,y⟩ m ⟨rfl,g,b⟩
 try dsimp only [zV,zk]
 dsimp only at *;obtain⟨r,d,c⟩:=aY g b;unfold tab;walk_at "w";refine⟨_,d,?_⟩;walk_at "w";refine⟨_,c,?_⟩;walk_at "w";rfl
abbrev uh (K:Ih):Sp:=spD K 1 (λ(c:Int×Int×Int) a=>a=[.dat (vB c.1 c.2.1 c.2.2)]) λc r=>r=.list [.tuple [.int c.1,.int c.2.1],.tuple [.int (px c.1 c.2.2),.int (py c.2.1 c.2.2)]]
theorem F8 (F:Def K mg "gate_points" jZ ["gate"]):FnIn P w K mg base (k+1) "gate_points" ["gate"] (uh K):=by
 refine F.ok jF rfl λj d A b s H E c=>⟨_,(ze (z8 (pv 0) (zJ (K:=K) (n:=3) rfl rfl (zh (zf (i:=1) jF.nd) (zh (zf (i:=2) jF.nd) (zh (zf (i:=3) jF.nd) zF))))) (ze (yL (zR (jD (K:=K) rfl c.units) (pv 3) zp (z9 _)) (zm (zz (yi (zc (zH (zc (pv 1) (zc (pv 2) zd))) (zc (zH (zc (zA yd (pv 1) zp) (zc (pv 2) zd))) zd))))) z6) (zm (zz (yi (zc (zH (zc (pv 1) (zc (pv 2) zd))) (zc (zH (zc (pv 1) (zc (zA yd (pv 2) zp) zd))) zd))))))),?_⟩;rintro f e ⟨x,y,w⟩ g rfl
 try dsimp only [zV,zk]
 dsimp only at *;unfold vB;walk_at "w";rw [NL Ie,du];refine yA (λh=>?_) λh=>?_
 ·have a:=N4 h;walk_at "w";unfold px py;rw [NM a,NM a]
 ·have a:=N5 h;walk_at "w";unfold px py;rw [NL a,NL a]
abbrev Bj (K:Ih):Sp:=spD K 2 (λ(c:Ot×Nat×Int×Int×Int) a=>a=[.dat (tab c.1),.dat (vB c.2.2.1 c.2.2.2.1 c.2.2.2.2)]/\Good c.2.1 c.1) λc r=>r=.bool (aE c.1 c.2.1 c.2.2.1 c.2.2.2.1 c.2.2.2.2)
theorem Dv (F:Def K mg "has_gate" av pK) (d:mg "all"=NW) (c:FnIn P w K mg base k "has_point" pj (ug K)) (e:FnIn P w K mg base k "gate_points" ["gate"] (uh K)):FnIn P w K mg base (k+1) "has_gate" pK (Bj K):=by
 refine F.ok nV rfl λI t A j s H E m=>⟨_,(ze (yL (zR (wq (K:=K) rfl) (zX (jk (K:=K) rfl) (pv 1) zp (λ_ _=>rfl)) (zH (zc zp (zc zp zd))) rfl) (zm (zz cH)) z6) (zm (zz (zB (iI (K:=K) rfl rfl) rfl d M9 (zc (yq (N:=pM) (own:=2) (fr:=[0]) (by walk_at "c") rfl (zK (K:=K) rfl (zg e m rfl (zc (pv 1) zd))) (λ_ _ _ _=>(zJ (K:=K) (n:=2) rfl rfl (zh (zf (i:=0) (show (pM:Oa).Nodup by decide +kernel)) (zh (zf (i:=1) (show (pM:Oa).Nodup by decide +kernel)) zF)))) (λ_ _ _ _=>ye) (λ_ _ _ _=>(zg c m rfl (zc (pv 2) (zc (pv 0) (zc (pv 1) zd))))) rfl rfl (λ_=>rfl)) zd))))),?_⟩;rintro f z ⟨b,a,x,y,w⟩ G ⟨rfl,g⟩
 try dsimp only [zV,zk]
 dsimp only at *;refine yt (eX (yr (Ap ?_)));unfold vB;walk_at "w";refine⟨[0,1],rfl,_,rfl,?_⟩;have r:(([0,1]:Oh).contains w)=decide (w=0 \/ w=1):=by
  rw [M5];simp
 rw [r];by_cases h:w=0 \/ w=1
 ·rw [NN h,JP,NL Ie];refine aQ (yD (Ek (PEdO.ped (fX (A:=λp:Int×Int=>PyData.tuple [.int p.1,.int p.2]) (B:=λp:Int×Int=>PyData.bool (yb b a p.1 p.2)) [(x,y),(px x w,py y w)] (yg (zt (x,y,w) ?_))))));walk_at "w";rintro _ rfl;refine⟨_,rfl,rfl,show 2<=1000 by decide,?_,?_⟩
  ·rintro D p o J C q l;obtain⟨u,v,rfl⟩:=q.two;refine yo rfl (zq (zj (zq (zj (zT (ju ?_))))));rw [NM rfl];refine yx l (zt (b,a,p.1,p.2) ?_);walk_at "w";rintro _ rfl;exact⟨.mk2,rfl⟩
  ·refine⟨[yb b a x y,yb b a (px x w) (py y w)],rfl,?_⟩;show PyData.bool _=PyData.bool _;unfold aE;rw [NN h,Lb];show PyData.bool (yb b a x y && (yb b a (px x w) (py y w) && NS))=_;rw [L5]
 ·rw [NP h,LK,NM rfl];walk_at "w";unfold aE;rw [NP h];rfl
abbrev lY (K:Ih):Sp:=spD K 3 (λ(c:Ot×Nat×Int×Int×Int×Int) a=>a=[.dat (tab c.1),.dat (.int c.2.2.1),.dat (vB c.2.2.2.1 c.2.2.2.2.1 c.2.2.2.2.2)]/\Good c.2.1 c.1) λc r=>r=.bool (yS c.1 c.2.1 c.2.2.1 c.2.2.2.1 c.2.2.2.2.1 c.2.2.2.2.2)
theorem Bk {NI:Ot} {wd:Nat} {x y w:Int} (h:aE NI wd x y w=NS):yb NI wd x y=NS/\yb NI wd (px x w) (py y w)=NS:=by
 unfold aE at h;rw [Io,Io] at h;exact h.2
theorem Dw (F:Def K mg "is_open" bA ph) (e:FnIn P w K mg base k "has_gate" pK (Bj K)) (j:FnIn P w K mg base k "gate_points" ["gate"] (uh K)) (a:FnIn P w K mg base k "stands_high" pA (et K)):FnIn P w K mg base (k+1) "is_open" ph (lY K):=by
 refine F.ok cx rfl λu o A l s H E b=>⟨_,(ze (yL (bZ (yn (K:=K) rfl (zg e b rfl (zc (pv 0) (zc (pv 2) zd))) (λ_=>rfl))) (zm (zz cH)) z6) (ze (z8 (zg j b rfl (zc (pv 2) zd)) (kQ (K:=K) (n:=2) rfl rfl (zh (zf (i:=3) cx.nd) (zh (zf (i:=4) cx.nd) zF)))) (zm (zz (vh (fU (K:=K) rfl b.units) (zg a b rfl (zc (pv 0) (zc (pv 1) (zc (pv 3) zd)))) (zg a b rfl (zc (pv 0) (zc (pv 1) (zc (pv 4) zd)))) (z9 _)))))),?_⟩;rintro f p ⟨d,c,m,x,y,w⟩ t ⟨rfl,g⟩
 try dsimp only [zV,zk]
 dsimp only at *;refine yt (eX (iG (ji (zt (d,c,x,y,w) ?_))));walk_at "w";rintro _ rfl;refine⟨_,rfl,?_⟩;dsimp only;cases h:aE d c x y w with
 | false =>
  rw [LK,NM rfl];walk_at "w";unfold yS;rw [h];rfl
 | true =>
  rw [JP,NL Ie];obtain⟨r,q⟩:=Bk h;refine aQ (yt (zY (zt (x,y,w) ?_)));walk_at "w";rintro _ rfl;dsimp only;refine tm rfl (zq (zj (zq (zj (zT ?_)))));refine yD (qA (zt (d,c,m,x,y) ?_));walk_at "w";rintro _ rfl;refine zt (d,c,m,px x w,py y w) ?_;walk_at "w";rintro _ rfl;dsimp only;walk_at "w";show PyData.bool _=PyData.bool _;unfold yS;rw [h,Lb,NM rfl,oa];rfl
theorem aZ {n i:Nat} {d:NR} (h:(aR n)[i]?=NQ d):i<n/\d=.int (i:Int):=by
 unfold aR at h;rw [Iq] at h;by_cases a:i<n
 ·rw [J6 a] at h;cases h;exact⟨a,rfl⟩
 ·rw [Jf (by rw [Jh];lia)] at h;cases h
theorem bH (n:Nat):(aR n).length=n:=by unfold aR;simp
noncomputable def Bl (x y:Nat):NR:=.tuple [.int x,.int y]
noncomputable def qB (t n:Nat):Oo:=(IQ n).flatMap λx=>(IQ t).map (Bl x)
theorem gK (t n:Nat):qB t (n+1)=qB t n++(IQ t).map (Bl n):=by
 unfold qB;rw [K8,J7];simp
theorem lZ (t:Nat):∀ n,(qB t n).length=t * n
 | 0=>rfl
 | n+1=>by rw [gK,IE,lZ t n,Ib,Jh,NF]
abbrev vU (K:Ih):Sp:=spD K 1 (λ(c:Ot×Nat) a=>a=[.dat (tab c.1)]/\Good c.2 c.1) λc r=>r=.list (qB c.1.length c.2)
theorem xh (F:Def K mg "points" de pf) (b:mg "range"=NW) (o:FnIn P w K mg base k "size" pf (sg K)):FnIn P w K mg base (k+1) "points" pf (vU K):=by
 refine F.ok en rfl λQ I A p s H E t=>⟨_,(ze (z8 (zg o t rfl (zc (pv 0) zd)) (zJ (K:=K) (n:=2) rfl rfl (zh (zf (i:=1) en.nd) (zh (zf (i:=2) en.nd rfl (N3 rfl) (N2 rfl)) zF)))) (zm (zz (fR (N:=pN) (own:=2) (fr:=[2]) (by walk_at "c") rfl (jN rfl b (zc (pv 1) zd)) (λ_ _ _ _=>(zf (i:=0) (show (pN:Oa).Nodup by decide +kernel))) (λ_ _ _ _=>ye) (λ_ _ _ _=>(jN rfl b (zc (pv 2) zd))) (λ_ _ _ _=>(zf (i:=1) (show (pN:Oa).Nodup by decide +kernel))) (λ_ _ _ _=>ye) (λ_ _ _ _=>(zH (zc (pv 0) (zc (pv 1) zd)))) rfl rfl (λ_=>rfl) (λ_ _ _ _ _=>rfl))))),?_⟩;rintro f J ⟨a,l⟩ O ⟨rfl,g⟩
 try dsimp only [zV,zk]
 dsimp only at *;have G:=g.h2;have L:=g.w2;refine yt (zY (zt (a,l) ?_));walk_at "w";rintro _ rfl;refine yo rfl (zq (zj (zq (zj (zT ?_)))));refine yD (PEdO.ped (vH (cN (zv (zr rfl (zP ⟨_,rfl,by dsimp only;lia,by dsimp only;lia,λn j c=>(∃ u v,j=[u,v,NQ (.dat (.int a.length))])/\c=qB a.length n,⟨⟨_,_,rfl⟩,rfl⟩,?_,?_⟩))))))
 ·rintro D n d h c C ⟨⟨u,v,rfl⟩,rfl⟩;obtain⟨y,rfl⟩:=aZ C;have x:n<l:=by have:n<((l:Int)).toNat:=y;lia
  have M:a.length * n<=7 * 7:=Kc G (by lia);refine zj (ju ?_);rw [NM rfl];refine CB (cN (zv (zr rfl (zP ⟨_,rfl,by lia,by lia,λm j c=>(∃ v,j=[NQ (.dat (.int n)),v,NQ (.dat (.int a.length))])/\c=qB a.length n++(IQ m).map (Bl n),⟨⟨_,rfl⟩,by simp⟩,?_,?_⟩))))
  ·rintro m d e r q ⟨⟨v,rfl⟩,rfl⟩;obtain⟨B,rfl⟩:=aZ q;have z:m<a.length:=by have:m<((a.length:Int)).toNat:=B;lia
   refine zj (ju ?_);rw [NM rfl];refine yx (by rw [IE,lZ,Ib,Jh];lia) ?_;walk_at "w";rw [K8,IM,J0];rfl
  ·rintro e r ⟨⟨v,rfl⟩,rfl⟩;rw [bH,Ki];exact⟨⟨_,_,rfl⟩,by rw [gK]⟩
 ·rintro h c ⟨_,rfl⟩;rw [bH,Ki]
noncomputable def F2:NR->Oo
 | .tuple [.int x,.int y]=>[vB x y 0,vB x y 1]
 | _=>[]
noncomputable def gD3 (g:Int×Int×Int):NR:=vB g.1 g.2.1 g.2.2
noncomputable def opG (NI:Ot) (wd:Nat) (N0:Int) (g:Int×Int×Int):Bool:=yS NI wd N0 g.1 g.2.1 g.2.2
noncomputable def je (t n:Nat):OD:=(IQ n).flatMap λ(x:Nat)=>(IQ t).flatMap λ(y:Nat)=>[((x:Int),(y:Int),(0:Int)),((x:Int),(y:Int),(1:Int))]
theorem oh (t n:Nat):(qB t n).flatMap F2=(je t n).map gD3:=by
 unfold qB je;rw [List.flatMap_assoc,MQ]
 congr 1
 funext x
 rw [List.flatMap_map,MQ];rfl
theorem Dx {t n:Nat} {d:NR} (h:d∈qB t n):∃ x y:Nat,d=Bl x y:=by
 obtain⟨x,_,h⟩:=Jl.mp h;obtain⟨y,_,rfl⟩:=ID.mp h;exact⟨x,y,rfl⟩
theorem gL {a:Type} {F:Nat->List a} {b:Nat} (h:∀ n,(F n).length<=b):∀ n,((IQ n).flatMap F).length<=b * n
 | 0=>by simp
 | n+1=>by
  rw [K8,J7,IE];have:=gL h n;have:=h n;simp only [KS,List.flatMap_nil,Jo];rw [NF];lia
theorem iX {t n:Nat} (c:t<=7) (a:n<=7):(je t n).length<=98:=by
 have h:=gL (F:=λ(x:Nat)=>(IQ t).flatMap λ(y:Nat)=>[((x:Int),(y:Int),(0:Int)),((x:Int),(y:Int),(1:Int))]) (b:=2 * t) (λx=>gL (F:=λ(y:Nat)=>[((x:Int),(y:Int),(0:Int)),((x:Int),(y:Int),(1:Int))]) (b:=2) (λy=>Iu 2) t) n;exact IS h (Kc (show 2 * t<=14 by lia) a)
noncomputable def F9 (NI:Ot) (wd:Nat) (N0:Int) (x y:Nat):OD:=(if yS NI wd N0 x y 0=NS then [((x:Int),(y:Int),(0:Int))] else [])++if yS NI wd N0 x y 1=NS then [((x:Int),(y:Int),(1:Int))] else []
noncomputable def yG (NI:Ot) (wd:Nat) (N0:Int):OD:=(IQ wd).flatMap λx=>(IQ NI.length).flatMap λy=>F9 NI wd N0 x y
theorem xi {a:Type} {F:Nat->List a} (n:Nat):(IQ (n+1)).flatMap F=(IQ n).flatMap F++F n:=by
 rw [K8,J7];simp
theorem Dy (NI:Ot) (wd:Nat) (N0:Int) (x y:Nat):F9 NI wd N0 x y=[((x:Int),(y:Int),(0:Int)),((x:Int),(y:Int),(1:Int))].filter (opG NI wd N0):=by
 unfold F9 opG;simp only [Jx,M7];cases yS NI wd N0 x y 0 <;> cases yS NI wd N0 x y 1 <;> rfl
theorem bf (NI:Ot) (wd:Nat) (N0:Int):yG NI wd N0=(je NI.length wd).filter (opG NI wd N0):=by
 unfold yG je;rw [Nx]
 congr 1
 funext x
 rw [Nx]
 congr 1
 funext y
 exact Dy NI wd N0 x y
def gLt (a b:Int×Int×Int):Prop:=a.1<b.1 \/ (a.1=b.1/\(a.2.1<b.2.1 \/ (a.2.1=b.2.1/\a.2.2<b.2.2)))
theorem l3 {c:Type} {R:c->c->Prop} {F:Nat->List c} (n:Nat) (h:∀ i,i<n->(F i).Pairwise R) (g:∀ i j,i<j->j<n->∀ a∈F i,∀ b∈F j,R a b):((IQ n).flatMap F).Pairwise R:=by
 induction n with
 | zero=>simp
 | succ n ih =>
  rw [xi,Mc];refine⟨ih (λi f=>h i (by lia)) (λi j d m=>g i j d (by lia)),h n (by lia),λa e b l=>?_⟩;obtain⟨i,f,e⟩:=Jl.mp e;exact g i n (Jb.mp f) (by lia) a e b l
theorem oj (t n:Nat):(je t n).Pairwise gLt:=by
 unfold je;refine l3 n (λx _=>l3 t (λy _=>?_) λy e g _ a d b c=>?_) λx f h _ a d b c=>?_
 ·simp [gLt]
 ·simp only [Iv,Jy,or_false] at d c;rcases d with rfl | rfl <;> rcases c with rfl | rfl <;> (unfold gLt;dsimp only;lia)
 ·obtain⟨y,_,d⟩:=Jl.mp d;obtain⟨e,_,c⟩:=Jl.mp c;simp only [Iv,Jy,or_false] at d c;rcases d with rfl | rfl <;> rcases c with rfl | rfl <;> (unfold gLt;dsimp only;lia)
theorem iY {NI:Ot} {wd:Nat} {N0:Int} (g:Good wd NI):(yG NI wd N0).length<=98:=by
 rw [bf];exact IS (Jq _ _) (iX g.h2 g.w2)
abbrev ui (K:Ih):Sp:=spN K 2 (λ(c:Ot×Nat×Int) a=>a=[.dat (tab c.1),.dat (.int c.2.2)]/\Good c.2.1 c.1) λc b=>b=((je c.1.length c.2.1).filter (opG c.1 c.2.1 c.2.2)).map gD3
theorem Bm (F:Def K mg "gates" fu pz) (B:FnIn P w K mg base k "ask_table" pf (bX K)) (z:FnIn P w K mg base k "points" pf (vU K)) (C:FnIn P w K mg base k "is_open" ph (lY K)):FnIn P w K mg base (k+1) "gates" pz (ui K):=by
 refine F.okN nU rfl λfa S A G s H E I=>⟨_,(ze (yI (zg B I rfl (zc (pv 0) zd))) (ze (mP (i:=2) (N:=qb) (own:=3) (fr:=[]) (by walk_at "c") rfl nU.nd rfl (N2 rfl) (zK (K:=K) rfl (zg z I rfl (zc (pv 0) zd))) (λ_ _ _ _=>(zJ (K:=K) (n:=2) rfl rfl (zh (zf (i:=0) (show (qb:Oa).Nodup by decide +kernel)) (zh (zf (i:=1) (show (qb:Oa).Nodup by decide +kernel)) zF)))) (λ_ _ _ _=>ye) (λ_ _ _ _=>(cK (K:=K) rfl (zH (zc zp (zc zp zd))))) (λ_ _ _ _=>(zf (i:=2) (show (qb:Oa).Nodup by decide +kernel))) (λ_ _ _ _=>ye) (λ_ _ _ _=>(zH (zc (pv 0) (zc (pv 1) (zc (pv 2) zd))))) rfl rfl (λ_=>rfl) (λ_ _ _ _ _=>rfl) (N2 rfl) rfl) (zm (zz (yq (N:=pI) (own:=1) (fr:=[0,1]) (by walk_at "c") rfl (zK (K:=K) rfl (pv 2)) (λ_ _ _ _=>(zf (i:=0) (show (pI:Oa).Nodup by decide +kernel))) (λ_ _ _ _=>(jW (yn (K:=K) rfl (zg C I rfl (zc (pv 1) (zc (pv 2) (zc (pv 0) zd)))) (λ_=>rfl)))) (λ_ _ _ _=>(pv 0)) rfl rfl (λ_=>rfl)))))),?_⟩;rintro f U ⟨a,b,l⟩ Z ⟨rfl,g⟩
 try dsimp only [zV,zk]
 dsimp only at *;have O:=iX g.h2 g.w2;refine vj (vG (zt (a,b) ?_));walk_at "w";rintro _ rfl;refine vj (zY (PEdO.ped (Fh (yg (zt (a,b) ?_)))));walk_at "w";rintro _ rfl;refine⟨_,rfl,F2,by rw [oh,Ib];exact IS O (by decide),?_,?_⟩
 ·rintro D d p o e Q J;obtain⟨x,y,rfl⟩:=Dx e;obtain⟨Y,X,W,rfl⟩:=Q.three;refine yo rfl (zq (zj (zq (zj (zT (ju ?_))))));rw [NM rfl];have M:o.length+2<=1000:=J;refine CB (mT (qk (zv (yQ (zv (yQ (zP ⟨_,rfl,by simp,_,rfl,λm t j=>(∃ v,t=[NQ (.dat (.int x)),NQ (.dat (.int y)),v])/\j=o++[vB x y 0,vB x y 1].take m,⟨⟨_,rfl⟩,by simp⟩,?_,?_⟩)))))))
  ·rintro m d r j c ⟨⟨v,rfl⟩,rfl⟩;have R:(m=0/\d=.int 0) \/ (m=1/\d=.int 1):=by
    rcases m with _ | _ | q
    ·cases c;exact .inl ⟨rfl,rfl⟩
    ·cases c;exact .inr ⟨rfl,rfl⟩
    ·cases c
   rcases R with⟨rfl,rfl⟩ | ⟨rfl,rfl⟩
   ·refine zj (ju ?_);rw [NM rfl];refine yx (by simp;lia) ?_;walk_at "w";simp;rfl
   ·refine zj (ju ?_);rw [NM rfl];refine yx (by simp;lia) ?_;walk_at "w";simp;rfl
  ·rintro r j ⟨⟨v,rfl⟩,rfl⟩;exact⟨⟨[_,_,_],rfl,rfl⟩,rfl⟩
 ·rw [show List.flatMap F2 (qB (a,b).1.length (a,b).2)=(je a.length b).map gD3 from oh _ _];refine zj (gk (vH (yg (zr rfl ⟨_,rfl,λn t o=>(∃ u,t=[u,NQ (.dat (tab a)),NQ (.dat (.int l))])/\o=(((je a.length b).take n).filter (opG a b l)).map gD3,⟨⟨_,rfl⟩,rfl⟩,?_,?_⟩))))
  ·rintro D n d p o e ⟨⟨u,rfl⟩,rfl⟩;rw [Iq] at e;cases hq:(je a.length b)[n]? with
   | none=>rw [hq] at e;cases e
   | some q =>
    rw [hq] at e;cases e;have L:(je a.length b).take (n+1)=(je a.length b).take n++[q]:=by
     rw [LN,hq];rfl
    have len:((((je a.length b).take n).filter (opG a b l)).map gD3).length<1000:=by
     rw [Ib];have T:=Jq (opG a b l) ((je a.length b).take n);rw [Jt] at T;lia
    refine zj (ji (zt (a,b,l,q.1,q.2.1,q.2.2) ?_));unfold gD3 at *;walk_at "w";rintro _ rfl;dsimp only;refine⟨_,rfl,?_⟩;refine yA (λh=>?_) λh=>?_
    ·refine yx len ?_;walk_at "w";rw [L,JV,IM,Jx,show opG a b l q=NS from h,NM rfl];rfl
    ·refine⟨⟨_,rfl⟩,?_⟩;rw [L,JV,IM,Jx,show opG a b l q=NV from h,NL Ie];simp
  ·rintro p o ⟨_,rfl⟩;rw [Ib,Jk]
abbrev CC:=Ot×Nat×Int×Int×Int
noncomputable def zS (NI:Ot) (wd:Nat) (x y:Int):Bool:=yb NI wd x y && yb NI wd (x+1) (y+1)
noncomputable def hiB (NI:Ot) (N0 x y:Int):Bool:=decide (N0<yc NI x y)
theorem cell_in {NI:Ot} {wd:Nat} {x y:Int} (h:zS NI wd x y=NS):yb NI wd x y=NS/\yb NI wd (x+1) y=NS/\yb NI wd (x+1) (y+1)=NS/\yb NI wd x (y+1)=NS:=by
 unfold zS at h;rw [Io] at h;obtain⟨i,g,f,e⟩:=aX h.1;obtain⟨d,c,b,a⟩:=aX h.2;refine⟨h.1,?_,h.2,?_⟩ <;> unfold yb <;> rw [NN (by lia),NN (by lia)] <;> rfl
section
variable {NI:Ot} {wd:Nat} {N0 x y:Int}
theorem dv (h:zS NI wd x y=NS):yS NI wd N0 x y 0=(hiB NI N0 x y != hiB NI N0 (x+1) y):=by
 obtain⟨a,b,c,d⟩:=cell_in h;unfold yS aE;show (decide ((0:Int)=0 \/ (0:Int)=1) && (yb NI wd x y && yb NI wd (x+1) y) && _)=_;rw [a,b];rfl
theorem gM (h:zS NI wd x y=NS):yS NI wd N0 x y 1=(hiB NI N0 x y != hiB NI N0 x (y+1)):=by
 obtain⟨a,b,c,d⟩:=cell_in h;unfold yS aE;show (decide ((1:Int)=0 \/ (1:Int)=1) && (yb NI wd x y && yb NI wd x (y+1)) && _)=_;rw [a,d];rfl
theorem dw (h:zS NI wd x y=NS):yS NI wd N0 x (y+1) 0=(hiB NI N0 x (y+1) != hiB NI N0 (x+1) (y+1)):=by
 obtain⟨a,b,c,d⟩:=cell_in h;unfold yS aE;show (decide ((0:Int)=0 \/ (0:Int)=1) && (yb NI wd x (y+1) && yb NI wd (x+1) (y+1)) && _)=_;rw [c,d];rfl
theorem dy (h:zS NI wd x y=NS):yS NI wd N0 (x+1) y 1=(hiB NI N0 (x+1) y != hiB NI N0 (x+1) (y+1)):=by
 obtain⟨a,b,c,d⟩:=cell_in h;unfold yS aE;show (decide ((1:Int)=0 \/ (1:Int)=1) && (yb NI wd (x+1) y && yb NI wd (x+1) (y+1)) && _)=_;rw [b,c];rfl
end
noncomputable def cg (x y:Int):OD:=[(x,y,0),(x,y,1),(x,y+1,0),(x+1,y,1)]
noncomputable def yV (NI:Ot) (wd:Nat) (N0 x y:Int):Bool:=(cg x y).all (opG NI wd N0)
noncomputable def om (NI:Ot) (x y:Int):Int:=yc NI x y+(yc NI (x+1) y+(yc NI (x+1) (y+1)+(yc NI x (y+1)+0)))
noncomputable def jV (NI:Ot) (N0 x y:Int):Bool:=decide (4 * N0+2<=om NI x y)
noncomputable def pairD (g h:Int×Int×Int):NR:=.tuple [gD3 g,gD3 h]
abbrev l4 (K:Ih):Sp:=spD K 3 (λ(c:Ot×Nat×Int×Int) a=>a=[.dat (tab c.1),.dat (.int c.2.2.1),.dat (.int c.2.2.2)]/\Good c.2.1 c.1) λc r=>r=.bool (zS c.1 c.2.1 c.2.2.1 c.2.2.2)
theorem Dz (F:Def K mg "has_cell" aq pj) (a:FnIn P w K mg base k "has_point" pj (ug K)):FnIn P w K mg base (k+1) "has_cell" pj (l4 K):=by
 refine F.ok nS rfl λm i A b s H E d=>⟨_,(zm (zz (b6 (zg a d rfl (zc (pv 0) (zc (pv 1) (zc (pv 2) zd)))) (fH (zg a d rfl (zc (pv 0) (zc (zA yd (pv 1) zp) (zc (zA yd (pv 2) zp) zd)))))))),?_⟩;rintro f j ⟨e,c,x,y⟩ l ⟨rfl,g⟩
 try dsimp only [zV,zk]
 dsimp only at *;refine yD (fS (zt (e,c,x,y) ?_));walk_at "w";rintro _ rfl;dsimp only;refine⟨_,rfl,?_⟩;refine yA (λh=>?_) λh=>?_
 ·refine zt (e,c,x+1,y+1) ?_;walk_at "w";rintro _ rfl;dsimp only;unfold zS;rw [h,Lb]
 ·unfold zS;rw [h,K1]
abbrev bI (K:Ih):Sp:=spD K 2 (λ(c:Int×Int) a=>a=[.dat (.int c.1),.dat (.int c.2)]) λc r=>r=.list [.tuple [.int c.1,.int c.2],.tuple [.int (c.1+1),.int c.2],.tuple [.int (c.1+1),.int (c.2+1)],.tuple [.int c.1,.int (c.2+1)]]
theorem sh (F:Def K mg "corners" bz pH):FnIn P w K mg base (k+1) "corners" pH (bI K):=by
 refine F.ok rV rfl λg b A a s H E d=>⟨_,(zm (zz (yi (zc (zH (zc (pv 0) (zc (pv 1) zd))) (zc (zH (zc (zA yd (pv 0) zp) (zc (pv 1) zd))) (zc (zH (zc (zA yd (pv 0) zp) (zc (zA yd (pv 1) zp) zd))) (zc (zH (zc (pv 0) (zc (zA yd (pv 1) zp) zd))) zd))))))),?_⟩;rintro f c ⟨x,y⟩ e rfl
 try dsimp only [zV,zk]
 dsimp only at *;walk_at "w";rfl
abbrev dz (K:Ih):Sp:=spD K 1 (λ(c:Int×Int) a=>a=[.dat (.tuple [.int c.1,.int c.2])]) λc r=>r=.list ((cg c.1 c.2).map gD3)
theorem xj (F:Def K mg "cell_gates" qH ["cell"]):FnIn P w K mg base (k+1) "cell_gates" ["cell"] (dz K):=by
 refine F.ok vL rfl λg b A a s H E d=>⟨_,(ze (z8 (pv 0) (zJ (K:=K) (n:=2) rfl rfl (zh (zf (i:=1) vL.nd) (zh (zf (i:=2) vL.nd) zF)))) (zm (zz (yi (zc (zH (zc (pv 1) (zc (pv 2) (zc zp zd)))) (zc (zH (zc (pv 1) (zc (pv 2) (zc zp zd)))) (zc (zH (zc (pv 1) (zc (zA yd (pv 2) zp) (zc zp zd)))) (zc (zH (zc (zA yd (pv 1) zp) (zc (pv 2) (zc zp zd)))) zd)))))))),?_⟩;rintro f c ⟨x,y⟩ e rfl
 try dsimp only [zV,zk]
 dsimp only at *;walk_at "w";rfl
abbrev DA (c:CC) (xs:List DV):Prop:=xs=[.dat (tab c.1),.dat (.int c.2.2.1),.dat (.tuple [.int c.2.2.2.1,.int c.2.2.2.2])]/\Good c.2.1 c.1/\zS c.1 c.2.1 c.2.2.2.1 c.2.2.2.2=NS
abbrev eA (K:Ih):Sp:=spD K 3 DA λc r=>r=.bool (yV c.1 c.2.1 c.2.2.1 c.2.2.2.1 c.2.2.2.2)
theorem sj (F:Def K mg "is_crossed" qI pq) (b:mg "all"=NW) (d:FnIn P w K mg base k "is_open" ph (lY K)) (c:FnIn P w K mg base k "cell_gates" ["cell"] (dz K)):FnIn P w K mg base (k+1) "is_crossed" pq (eA K):=by
 refine F.ok ic rfl λC p A e s H E m=>⟨_,(zm (zz (zB (iI (K:=K) rfl rfl) rfl b M9 (zc (yq (N:=pI) (own:=1) (fr:=[0,1]) (by walk_at "c") rfl (zK (K:=K) rfl (zg c m rfl (zc (pv 2) zd))) (λ_ _ _ _=>(zf (i:=0) (show (pI:Oa).Nodup by decide +kernel))) (λ_ _ _ _=>ye) (λ_ _ _ _=>(zg d m rfl (zc (pv 1) (zc (pv 2) (zc (pv 0) zd))))) rfl rfl (λ_=>rfl)) zd)))),?_⟩;rintro f r ⟨j,a,l,x,y⟩ v ⟨rfl,g,z⟩
 try dsimp only [zV,zk]
 dsimp only at *;refine yD (Ek (PEdO.ped (fX (A:=gD3) (B:=λq=>PyData.bool (opG j a l q)) (cg x y) (yg (zt (x,y) ?_)))));walk_at "w";rintro _ rfl;refine⟨_,rfl,rfl,show 4<=1000 by decide,?_,?_⟩
 ·rintro D q n G t o h;obtain⟨u,rfl⟩:=o.one;refine zj (ju ?_);rw [NM rfl];refine yx h (zt (j,a,l,q.1,q.2.1,q.2.2) ?_);unfold gD3;walk_at "w";rintro _ rfl;exact⟨.mk1,rfl⟩
 ·refine⟨(cg x y).map (opG j a l),by rw [JB];rfl,?_⟩;show PyData.bool _=PyData.bool _;unfold yV;rw [List.all_map];rfl
abbrev Bn (K:Ih):Sp:=spD K 3 DA λc r=>r=.bool (jV c.1 c.2.2.1 c.2.2.2.1 c.2.2.2.2)
theorem Ga (F:Def K mg "has_high_middle" yX pq) (b:mg "sum"=NW) (c:FnIn P w K mg base k "corners" pH (bI K)):FnIn P w K mg base (k+1) "has_high_middle" pq (Bn K):=by
 refine F.ok jn rfl λR M A d s H E z=>⟨_,(ze (z8 (pv 2) (zJ (K:=K) (n:=2) rfl rfl (zh (zf (i:=3) jn.nd) (zh (zf (i:=4) jn.nd) zF)))) (zm (zz (vh xR (zB (gh (K:=K) rfl rfl) rfl b Na (zc (yq (N:=pC) (own:=2) (fr:=[0]) (by walk_at "c") rfl (zK (K:=K) rfl (zg c z rfl (zc (pv 3) (zc (pv 4) zd)))) (λ_ _ _ _=>(zJ (K:=K) (n:=2) rfl rfl (zh (zf (i:=0) (show (pC:Oa).Nodup by decide +kernel)) (zh (zf (i:=1) (show (pC:Oa).Nodup by decide +kernel)) zF)))) (λ_ _ _ _=>ye) (λ_ _ _ _=>(zX (zM (K:=K) rfl) (zX (zM (K:=K) rfl) (pv 2) (pv 1) (λ_ _=>rfl)) (pv 0) (λ_ _=>rfl))) rfl rfl (λ_=>rfl)) zd)) (zA yd (zA qR zp (pv 1)) zp) (z9 _))))),?_⟩;rintro f O ⟨a,l,T,x,y⟩ Q ⟨rfl,g,I⟩
 try dsimp only [zV,zk]
 dsimp only at *;obtain⟨t,q,o,m⟩:=cell_in I;refine yt (zY (zr rfl (yo rfl (zq (zj (zq (zj (zT ?_))))))));refine yD (mQ (Em (PEdO.ped (fX (A:=λp:Int×Int=>PyData.tuple [.int p.1,.int p.2]) (B:=λp:Int×Int=>PyData.int (yc a p.1 p.2)) [(x,y),(x+1,y),(x+1,y+1),(x,y+1)] (yg (zt (x,y) ?_))))));walk_at "w";rintro _ rfl;refine⟨_,rfl,rfl,show 4<=1000 by decide,?_,?_⟩
 ·rintro D p j S h C e;obtain⟨u,v,rfl⟩:=C.two;have G:yb a l p.1 p.2=NS:=by
   simp only [Iv,Jy,or_false] at h;rcases h with rfl | rfl | rfl | rfl
   ·exact t
   ·exact q
   ·exact o
   ·exact m
  obtain⟨r,L,J⟩:=aY g G;refine yo rfl (zq (zj (zq (zj (zT (ju ?_))))));rw [NM rfl];refine yx e ?_;unfold tab;walk_at "w";refine⟨_,L,?_⟩;walk_at "w";refine⟨_,J,?_⟩;exact⟨.mk2,rfl⟩
 ·refine⟨[yc a x y,yc a (x+1) y,yc a (x+1) (y+1),yc a x (y+1)],rfl,?_⟩;walk_at "w";rfl
noncomputable def l5 (NI:Ot) (N0 x y:Int):Oo:=if (hiB NI N0 x y == jV NI N0 x y)=NS then [pairD (x,y,0) (x+1,y,1),pairD (x,y,1) (x,y+1,0)] else [pairD (x,y,0) (x,y,1),pairD (x,y+1,0) (x+1,y,1)]
noncomputable def thr (NI:Ot) (wd:Nat) (N0 x y:Int):OD:=(cg x y).filter (opG NI wd N0)
noncomputable def Bo:OD->Oo
 | a :: b :: _=>[pairD a b]
 | _=>[]
noncomputable def uj (NI:Ot) (wd:Nat) (N0 x y:Int):Oo:=if yV NI wd N0 x y=NS then l5 NI N0 x y else Bo (thr NI wd N0 x y)
theorem DB {NI:Ot} {wd:Nat} {N0 x y:Int} (h:zS NI wd x y=NS):thr NI wd N0 x y=[] \/ ∃ a b r,thr NI wd N0 x y=a :: b :: r:=by
 have f:opG NI wd N0 (x,y,0)=_:=dv (N0:=N0) h;have e:opG NI wd N0 (x,y,1)=_:=gM (N0:=N0) h;have d:opG NI wd N0 (x,y+1,0)=_:=dw (N0:=N0) h;have c:opG NI wd N0 (x+1,y,1)=_:=dy (N0:=N0) h;unfold thr cg;simp only [Jx,f,e,d,c,M7];cases hiB NI N0 x y <;> cases hiB NI N0 (x+1) y <;> cases hiB NI N0 (x+1) (y+1) <;> cases hiB NI N0 x (y+1) <;> simp
abbrev oo (K:Ih):Sp:=spN K 3 DA λc a=>a=l5 c.1 c.2.2.1 c.2.2.2.1 c.2.2.2.2
theorem xk (F:Def K mg "crossed_ties" jG pq) (j:FnIn P w K mg base k "cell_gates" ["cell"] (dz K)) (d:FnIn P w K mg base k "stands_high" pA (et K)) (e:FnIn P w K mg base k "has_high_middle" pq (Bn K)):FnIn P w K mg base (k+1) "crossed_ties" pq (oo K):=by
 refine F.okN yR rfl λu p A l s H E c=>⟨_,(ze (z8 (zg j c rfl (zc (pv 2) zd)) (kQ (K:=K) (n:=4) rfl rfl (zh (zf (i:=3) yR.nd) (zh (zf (i:=4) yR.nd) (zh (zf (i:=5) yR.nd) (zh (zf (i:=6) yR.nd) zF)))))) (ze (yL (zR (jD (K:=K) rfl c.units) (zg d c rfl (zc (pv 0) (zc (pv 1) (zc (pv 2) zd)))) (zg e c rfl (zc (pv 0) (zc (pv 1) (zc (pv 2) zd)))) (z9 _)) (zm (zz (yi (zc (zH (zc (pv 3) (zc (pv 6) zd))) (zc (zH (zc (pv 4) (zc (pv 5) zd))) zd))))) z6) (zm (zz (yi (zc (zH (zc (pv 3) (zc (pv 4) zd))) (zc (zH (zc (pv 5) (zc (pv 6) zd))) zd))))))),?_⟩;rintro f q ⟨a,m,b,x,y⟩ r ⟨rfl,g,o⟩
 try dsimp only [zV,zk]
 dsimp only at *;have t:=(cell_in o).1;refine vj (zY (zt (x,y) ?_));walk_at "w";rintro _ rfl;refine tm rfl (zq (zj (zq (zj (zq (zj (zq (zj (zT ?_)))))))));refine Ar (yr (qA (zt (a,m,b,x,y) ?_)));walk_at "w";rintro _ rfl;refine zt (a,m,b,x,y) ?_;walk_at "w";rintro _ rfl;dsimp only;walk_at "w";rw [NL Ie,oa];unfold l5;refine yA (λh=>?_) λh=>?_
 ·rw [NM (show (hiB a b x y == jV a b x y)=NS from h)];refine cR ?_;walk_at "w";rfl
 ·rw [NL (show ¬ (hiB a b x y == jV a b x y)=NS from by rw [show (hiB a b x y == jV a b x y)=NV from h];exact Ie)];refine gk (cR ?_);walk_at "w";rfl
abbrev uk (K:Ih):Sp:=spN K 3 DA λc a=>a=uj c.1 c.2.1 c.2.2.1 c.2.2.2.1 c.2.2.2.2
theorem Bp (F:Def K mg "cell_ties" vt pq) (z:FnIn P w K mg base k "is_crossed" pq (eA K)) (v:FnIn P w K mg base k "crossed_ties" pq (oo K)) (B:FnIn P w K mg base k "cell_gates" ["cell"] (dz K)) (C:FnIn P w K mg base k "is_open" ph (lY K)):FnIn P w K mg base (k+1) "cell_ties" pq (uk K):=by
 refine F.okN dk rfl λX S A G s H E o=>⟨_,(ze (yL (yn (K:=K) rfl (zg z o rfl (zc (pv 0) (zc (pv 1) (zc (pv 2) zd)))) (λ_=>rfl)) (zm (zz (zg v o rfl (zc (pv 0) (zc (pv 1) (zc (pv 2) zd)))))) z6) (ze (yY (i:=3) (N:=pI) (own:=1) (fr:=[0,1]) (by walk_at "c") rfl dk.nd rfl (N2 rfl) (zK (K:=K) rfl (zg B o rfl (zc (pv 2) zd))) (λ_ _ _ _=>(zf (i:=0) (show (pI:Oa).Nodup by decide +kernel))) (λ_ _ _ _=>(jW (yn (K:=K) rfl (zg C o rfl (zc (pv 1) (zc (pv 2) (zc (pv 0) zd)))) (λ_=>rfl)))) (λ_ _ _ _=>(pv 0)) rfl rfl (λ_=>rfl) (N2 rfl) rfl) (zm (zz (j8 (yn (K:=K) rfl (pv 3) (λ_=>rfl)) (yi (zc (zH (zc (zX (zM (K:=K) rfl) (pv 3) zp (λ_ _=>rfl)) (zc (zX (zM (K:=K) rfl) (pv 3) zp (λ_ _=>rfl)) zd))) zd)) (yi zd)))))),?_⟩;rintro f xs ⟨c,l,N0,x,y⟩ W ⟨rfl,g,O⟩
 try dsimp only [zV,zk]
 dsimp only at *;refine Ar (ji (zt (c,l,N0,x,y) ?_));walk_at "w";rintro _ rfl;dsimp only;refine⟨_,rfl,?_⟩;unfold uj;refine yA (λh=>?_) λh=>?_
 ·rw [NM h];refine ai (c,l,N0,x,y) ?_;walk_at "w";exact λp M=>M
 ·rw [NL (by rw [h];exact Ie)];refine vj (zY (PEdO.ped (vH (yg (zt (x,y) ?_)))));walk_at "w";rintro _ rfl;refine⟨_,rfl,λn J p=>(∃ u,J=[u,NQ (.dat (tab c)),NQ (.dat (.int N0))])/\p=(((cg x y).take n).filter (opG c l N0)).map gD3,⟨⟨_,rfl⟩,rfl⟩,?_,?_⟩
  ·rintro D n d t p m ⟨⟨u,rfl⟩,rfl⟩;rw [Iq] at m;cases hq:(cg x y)[n]? with
   | none=>rw [hq] at m;cases m
   | some q =>
    rw [hq] at m;cases m;have L:n<(cg x y).length:=(Ig.mp hq).1;have U:n<4:=L;have I:(cg x y).take (n+1)=(cg x y).take n++[q]:=by
     rw [LN,hq];rfl
    have len:((((cg x y).take n).filter (opG c l N0)).map gD3).length<1000:=by
     rw [Ib];have T:=Jq (opG c l N0) ((cg x y).take n);rw [Jt] at T;lia
    refine zj (ji (zt (c,l,N0,q.1,q.2.1,q.2.2) ?_));unfold gD3 at *;walk_at "w";rintro _ rfl;dsimp only;refine⟨_,rfl,?_⟩;refine yA (λh=>?_) λh=>?_
    ·refine yx len ?_;walk_at "w";rw [I,JV,IM,Jx,show opG c l N0 q=NS from h,NM rfl];rfl
    ·refine⟨⟨_,rfl⟩,?_⟩;rw [I,JV,IM,Jx,show opG c l N0 q=NV from h,NL Ie];simp
  ·rintro t p ⟨_,rfl⟩;rw [Ib,Jk];rw [show List.filter (opG c l N0) (cg (x,y).1 (x,y).2)=thr c l N0 x y from rfl];rcases DB (N0:=N0) O with e | ⟨a,b,r,e⟩
   ·rw [e];refine zj (gk (En (ji (zr rfl ⟨NV,rfl,?_⟩))));rw [NL Ie];exact Ej rfl
   ·rw [e];have R:atI ((a :: b :: r).map gD3) 0=NQ (gD3 a):=vA (xs:=a :: b :: r) (j:=0) rfl (LG _);have Q:atI ((a :: b :: r).map gD3) 1=NQ (gD3 b):=vA (xs:=a :: b :: r) (j:=1) rfl (Nat.succ_lt_succ (LG _));refine zj (gk (En (ji (zr rfl ⟨NS,rfl,?_⟩))));rw [NM rfl];refine cR ?_;walk_at "w";refine⟨_,R,?_⟩;walk_at "w";refine⟨_,Q,?_⟩;walk_at "w";rfl
noncomputable def opF (A B C D:Bool) (i:Fin 4):Bool:=match i with
 | 0=>A != B
 | 1=>A != D
 | 2=>D != C
 | 3=>B != C
noncomputable def enF (A B C D:Bool) (i:Fin 4):Bool:=match i with
 | 0=>!A
 | 1=>A
 | 2=>D
 | 3=>!B
noncomputable def dA (A B C D M:Bool):List (Fin 4×Fin 4) :=
 if (opF A B C D 0 && opF A B C D 1 && opF A B C D 2 && opF A B C D 3)=NS then (if (A == M)=NS then [(0,3),(1,2)] else [(0,1),(2,3)]) else
 match ([0,1,2,3]:List (Fin 4)).filter (opF A B C D) with
 | a :: b :: _=>[(a,b)]
 | _=>[]
noncomputable def prt {a:Type} [DecidableEq a] (l:List (a×a)) (g:a):Option a:=l.findSome? λp=>if p.1=g then NQ p.2 else if p.2=g then NQ p.1 else NW
theorem DC:∀ (A B C D M:Bool) (i:Fin 4),opF A B C D i=NS->∃ j,prt (dA A B C D M) i=NQ j/\j≠i/\opF A B C D j=NS/\prt (dA A B C D M) j=NQ i/\enF A B C D j=!enF A B C D i:=by decide
theorem ot:∀ (A B C D M:Bool),dA A B C D M=[] \/ (∃ a b,a≠b/\dA A B C D M=[(a,b)]) \/ ∃ a b c d,a≠b/\a≠c/\a≠d/\b≠c/\b≠d/\c≠d/\dA A B C D M=[(a,b),(c,d)]:=by decide
abbrev Gt:=Int×Int×Int
noncomputable def gt (x y:Int) (i:Fin 4):Gt:=match i with
 | 0=>(x,y,0)
 | 1=>(x,y,1)
 | 2=>(x,y+1,0)
 | 3=>(x+1,y,1)
theorem gN {x y:Int} {i j:Fin 4} (h:gt x y i=gt x y j):i=j:=by
 have c:(gt x y i).1=(gt x y j).1:=by rw [h]
 have b:(gt x y i).2.1=(gt x y j).2.1:=by rw [h]
 have a:(gt x y i).2.2=(gt x y j).2.2:=by rw [h]
 revert c b a
 clear h
 match i,j with
 | 0,0=>intros;rfl
 | 0,1=>intro _ _ h;simp [gt] at h
 | 0,2=>intro _ h _;simp [gt] at h;lia
 | 0,3=>intro _ _ h;simp [gt] at h
 | 1,0=>intro _ _ h;simp [gt] at h
 | 1,1=>intros;rfl
 | 1,2=>intro _ _ h;simp [gt] at h
 | 1,3=>intro h _ _;simp [gt] at h;lia
 | 2,0=>intro _ h _;simp [gt] at h;lia
 | 2,1=>intro _ _ h;simp [gt] at h
 | 2,2=>intros;rfl
 | 2,3=>intro _ _ h;simp [gt] at h
 | 3,0=>intro _ _ h;simp [gt] at h
 | 3,1=>intro h _ _;simp [gt] at h;lia
 | 3,2=>intro _ _ h;simp [gt] at h
 | 3,3=>intros;rfl
theorem l6 {a e:Type} [DecidableEq a] [DecidableEq e] {f:a->e} (b:∀ i j,f i=f j->i=j) (l:List (a×a)) (i:a):prt (l.map λp=>(f p.1,f p.2)) (f i)=(prt l i).map f:=by
 unfold prt
 induction l with
 | nil=>rfl
 | cons p l ih =>
  rw [IL,Lq,Lq];have h:(f p.1=f i)↔p.1=i:=⟨b _ _,λz=>by rw [z]⟩;have g:(f p.2=f i)↔p.2=i:=⟨b _ _,λz=>by rw [z]⟩;by_cases d:p.1=i
  ·rw [NM d,NM (h.mpr d)];rfl
  ·rw [NL d,NL (λz=>d (h.mp z))];by_cases c:p.2=i
   ·rw [NM c,NM (g.mpr c)];rfl
   ·rw [NL c,NL (λz=>c (g.mp z))];exact ih
section
variable (NI:Ot) (wd:Nat) (N0:Int)
noncomputable def t4 (x y:Int):List (Fin 4×Fin 4):=dA (hiB NI N0 x y) (hiB NI N0 (x+1) y) (hiB NI N0 (x+1) (y+1)) (hiB NI N0 x (y+1)) (jV NI N0 x y)
noncomputable def vN (x y:Int):List (Gt×Gt):=(t4 NI N0 x y).map λp=>(gt x y p.1,gt x y p.2)
noncomputable def vf (w:Int) (h:Bool):Int×Int:=if w=0 then (if h=NS then (0,-1) else (0,0)) else (if h=NS then (0,0) else (-1,0))
noncomputable def vg (w:Int) (h:Bool):Int×Int:=if w=0 then (if h=NS then (0,0) else (0,-1)) else (if h=NS then (-1,0) else (0,0))
noncomputable def ahC (g:Gt):Int×Int:=(g.1+(vf g.2.2 (hiB NI N0 g.1 g.2.1)).1,g.2.1+(vf g.2.2 (hiB NI N0 g.1 g.2.1)).2)
noncomputable def bhC (g:Gt):Int×Int:=(g.1+(vg g.2.2 (hiB NI N0 g.1 g.2.1)).1,g.2.1+(vg g.2.2 (hiB NI N0 g.1 g.2.1)).2)
noncomputable def yF (g:Gt):Option Gt:=if zS NI wd (ahC NI N0 g).1 (ahC NI N0 g).2=NS then prt (vN NI N0 (ahC NI N0 g).1 (ahC NI N0 g).2) g else NW
noncomputable def jv (g:Gt):Option Gt:=if zS NI wd (bhC NI N0 g).1 (bhC NI N0 g).2=NS then prt (vN NI N0 (bhC NI N0 g).1 (bhC NI N0 g).2) g else NW
end
section
variable {NI:Ot} {wd:Nat} {N0 x y:Int}
theorem eB (h:zS NI wd x y=NS) (i:Fin 4):opG NI wd N0 (gt x y i)=opF (hiB NI N0 x y) (hiB NI N0 (x+1) y) (hiB NI N0 (x+1) (y+1)) (hiB NI N0 x (y+1)) i:=by
 match i with
 | 0=>exact dv h
 | 1=>exact gM h
 | 2=>exact dw h
 | 3=>exact dy h
theorem um (i:Fin 4):(ahC NI N0 (gt x y i)=(x,y)↔enF (hiB NI N0 x y) (hiB NI N0 (x+1) y) (hiB NI N0 (x+1) (y+1)) (hiB NI N0 x (y+1)) i=NS)/\(bhC NI N0 (gt x y i)=(x,y)↔enF (hiB NI N0 x y) (hiB NI N0 (x+1) y) (hiB NI N0 (x+1) (y+1)) (hiB NI N0 x (y+1)) i=NV):=by
 unfold ahC bhC
 match i with
 | 0 =>
  show ((x+(vf 0 (hiB NI N0 x y)).1,y+(vf 0 (hiB NI N0 x y)).2)=(x,y)↔(!hiB NI N0 x y)=NS)/\((x+(vg 0 (hiB NI N0 x y)).1,y+(vg 0 (hiB NI N0 x y)).2)=(x,y)↔(!hiB NI N0 x y)=NV);cases hiB NI N0 x y <;> simp [vf,vg] <;> lia
 | 1 =>
  show ((x+(vf 1 (hiB NI N0 x y)).1,y+(vf 1 (hiB NI N0 x y)).2)=(x,y)↔hiB NI N0 x y=NS)/\((x+(vg 1 (hiB NI N0 x y)).1,y+(vg 1 (hiB NI N0 x y)).2)=(x,y)↔hiB NI N0 x y=NV);cases hiB NI N0 x y <;> simp [vf,vg] <;> lia
 | 2 =>
  show ((x+(vf 0 (hiB NI N0 x (y+1))).1,y+1+(vf 0 (hiB NI N0 x (y+1))).2)=(x,y)↔hiB NI N0 x (y+1)=NS)/\((x+(vg 0 (hiB NI N0 x (y+1))).1,y+1+(vg 0 (hiB NI N0 x (y+1))).2)=(x,y)↔hiB NI N0 x (y+1)=NV);cases hiB NI N0 x (y+1) <;> simp [vf,vg] <;> lia
 | 3 =>
  show ((x+1+(vf 1 (hiB NI N0 (x+1) y)).1,y+(vf 1 (hiB NI N0 (x+1) y)).2)=(x,y)↔(!hiB NI N0 (x+1) y)=NS)/\((x+1+(vg 1 (hiB NI N0 (x+1) y)).1,y+(vg 1 (hiB NI N0 (x+1) y)).2)=(x,y)↔(!hiB NI N0 (x+1) y)=NV);cases hiB NI N0 (x+1) y <;> simp [vf,vg] <;> lia
theorem uo (h:zS NI wd x y=NS) {i:Fin 4} (o:opG NI wd N0 (gt x y i)=NS):∃ j,prt (vN NI N0 x y) (gt x y i)=NQ (gt x y j)/\j≠i/\opG NI wd N0 (gt x y j)=NS/\prt (vN NI N0 x y) (gt x y j)=NQ (gt x y i) /\
  (ahC NI N0 (gt x y i)=(x,y)->bhC NI N0 (gt x y j)=(x,y))/\(bhC NI N0 (gt x y i)=(x,y)->ahC NI N0 (gt x y j)=(x,y)):=by
 rw [eB h] at o;obtain⟨j,f,e,d,c,b⟩:=DC _ _ _ _ (jV NI N0 x y) i o;have a:∀ i j,gt x y i=gt x y j->i=j:=λ_ _=>gN;refine⟨j,?_,e,by rw [eB h];exact d,?_,λz=>?_,λz=>?_⟩
 ·unfold vN t4;rw [l6 a,f];rfl
 ·unfold vN t4;rw [l6 a,c];rfl
 ·rw [(um j).2,b,(um i).1.mp z];rfl
 ·rw [(um j).1,b,(um i).2.mp z];rfl
theorem ou (g:Gt) (a:g.2.2=0 \/ g.2.2=1):∃ i,g=gt (ahC NI N0 g).1 (ahC NI N0 g).2 i:=by
 obtain⟨x,y,w⟩:=g;unfold ahC;dsimp only at a ⊢;rcases a with rfl | rfl
 ·cases hiB NI N0 x y
  ·exact⟨0,by simp [vf,gt]⟩
  ·exact⟨2,by simp [vf,gt];lia⟩
 ·cases hiB NI N0 x y
  ·exact⟨3,by simp [vf,gt];lia⟩
  ·exact⟨1,by simp [vf,gt]⟩
theorem xl (g:Gt) (a:g.2.2=0 \/ g.2.2=1):∃ i,g=gt (bhC NI N0 g).1 (bhC NI N0 g).2 i:=by
 obtain⟨x,y,w⟩:=g;unfold bhC;dsimp only at a ⊢;rcases a with rfl | rfl
 ·cases hiB NI N0 x y
  ·exact⟨2,by simp [vg,gt];lia⟩
  ·exact⟨0,by simp [vg,gt]⟩
 ·cases hiB NI N0 x y
  ·exact⟨1,by simp [vg,gt]⟩
  ·exact⟨3,by simp [vg,gt];lia⟩
theorem cC {g:Gt} (o:opG NI wd N0 g=NS):g.2.2=0 \/ g.2.2=1:=by
 unfold opG yS aE at o;rw [Io,Io] at o;exact N4 o.1.1
theorem bJ {g:Gt} (o:opG NI wd N0 g=NS) (h:zS NI wd (ahC NI N0 g).1 (ahC NI N0 g).2=NS):∃ n,yF NI wd N0 g=NQ n/\n≠g/\opG NI wd N0 n=NS/\bhC NI N0 n=ahC NI N0 g/\jv NI wd N0 n=NQ g:=by
 obtain⟨i,a⟩:=ou (NI:=NI) (N0:=N0) g (cC o);have b:=o;rw [a] at b;obtain⟨j,f,m,l,e,d,_⟩:=uo h b;rw [<-a] at f e d;have c:=d rfl;refine⟨gt (ahC NI N0 g).1 (ahC NI N0 g).2 j,?_,λz=>m (gN (z.trans a)),l,c,?_⟩
 ·unfold yF;rw [NM h];exact f
 ·unfold jv;rw [c,NM h];exact e
theorem l7 {g:Gt} (o:opG NI wd N0 g=NS) (h:zS NI wd (bhC NI N0 g).1 (bhC NI N0 g).2=NS):∃ n,jv NI wd N0 g=NQ n/\n≠g/\opG NI wd N0 n=NS/\ahC NI N0 n=bhC NI N0 g/\yF NI wd N0 n=NQ g:=by
 obtain⟨i,a⟩:=xl (NI:=NI) (N0:=N0) g (cC o);have b:=o;rw [a] at b;obtain⟨j,f,m,l,e,_,d⟩:=uo h b;rw [<-a] at f e d;have c:=d rfl;refine⟨gt (bhC NI N0 g).1 (bhC NI N0 g).2 j,?_,λz=>m (gN (z.trans a)),l,c,?_⟩
 ·unfold jv;rw [NM h];exact f
 ·unfold yF;rw [c,NM h];exact e
theorem gO {g g' n:Gt} (o:opG NI wd N0 g=NS) (e:opG NI wd N0 g'=NS) (h:yF NI wd N0 g=NQ n) (h':yF NI wd N0 g'=NQ n):g=g':=by
 have c:zS NI wd (ahC NI N0 g).1 (ahC NI N0 g).2=NS:=by
  unfold yF at h;by_cases z:zS NI wd (ahC NI N0 g).1 (ahC NI N0 g).2=NS
  ·exact z
  ·rw [NL z] at h;cases h
 have f:zS NI wd (ahC NI N0 g').1 (ahC NI N0 g').2=NS:=by
  unfold yF at h';by_cases z:zS NI wd (ahC NI N0 g').1 (ahC NI N0 g').2=NS
  ·exact z
  ·rw [NL z] at h';cases h'
 obtain⟨m,d,_,_,_,i⟩:=bJ o c;obtain⟨j,b,_,_,_,a⟩:=bJ e f;rw [h] at d;rw [h'] at b;cases d;cases b;rw [i] at a;exact N1 a
theorem eC {g n:Gt} (o:opG NI wd N0 g=NS) (h:yF NI wd N0 g=NQ n):opG NI wd N0 n=NS/\n≠g:=by
 have c:zS NI wd (ahC NI N0 g).1 (ahC NI N0 g).2=NS:=by
  unfold yF at h;by_cases z:zS NI wd (ahC NI N0 g).1 (ahC NI N0 g).2=NS
  ·exact z
  ·rw [NL z] at h;cases h
 obtain⟨m,a,d,b,_,_⟩:=bJ o c;rw [h] at a;cases a;exact⟨b,d⟩
end
abbrev sk (K:Ih):Sp:=spD K 3 (λ(c:Ot×Nat×Int×Int×Int×Int) a=>a=[.dat (tab c.1),.dat (.int c.2.2.1),.dat (vB c.2.2.2.1 c.2.2.2.2.1 c.2.2.2.2.2)]/\Good c.2.1 c.1/\yb c.1 c.2.1 c.2.2.2.1 c.2.2.2.2.1=NS) λc r=>r=.str (iW c.1 c.2.2.1 c.2.2.2.1 c.2.2.2.2.1 c.2.2.2.2.2)
theorem sr (F:Def K mg "heading" bB ph) (b:FnIn P w K mg base k "stands_high" pA (et K)):FnIn P w K mg base (k+1) "heading" ph (sk K):=by
 refine F.ok qX rfl λt l A c s H E e=>⟨_,(ze (z8 (pv 2) (zJ (K:=K) (n:=3) rfl rfl (zh (zf (i:=3) qX.nd) (zh (zf (i:=4) qX.nd) (zh (zf (i:=5) qX.nd) zF))))) (ze (zL (i:=6) qX.nd rfl (N2 rfl) (zg b e rfl (zc (pv 0) (zc (pv 1) (zc (zH (zc (pv 3) (zc (pv 4) zd))) zd))))) (ze (yL (zR (jD (K:=K) rfl e.units) (pv 5) zp (z9 _)) (zm (zz (j8 (yn (K:=K) rfl (pv 6) (λ_=>rfl)) yC yC))) z6) (zm (zz (j8 (yn (K:=K) rfl (pv 6) (λ_=>rfl)) yC yC)))))),?_⟩;rintro f p ⟨m,j,o,x,y,w⟩ q ⟨rfl,g,r⟩
 try dsimp only [zV,zk]
 dsimp only at *;unfold vB;refine yt (zY (zr rfl (yo rfl (zq (zj (zq (zj (zq (zj (zT ?_))))))))));refine yt (zY (zt (m,j,o,x,y) ?_));walk_at "w";rintro _ rfl;dsimp only;walk_at "w";rw [NL Ie,du];unfold iW;refine yA (λh=>?_) λh=>?_
 ·have d:=N4 h;rw [NM d];walk_at "w";refine yA (λa=>?_) λa=>?_
  ·walk_at "w";rw [NM (N4 a)]
  ·walk_at "w";rw [NL (N5 a)]
 ·have d:=N5 h;rw [NL d];walk_at "w";refine yA (λa=>?_) λa=>?_
  ·walk_at "w";rw [NM (N4 a)]
  ·walk_at "w";rw [NL (N5 a)]
noncomputable abbrev Gb:Oy:=[("down",[0,0]),("up",[0,-1]),("right",[0,0]),("left",[-1,0])]
noncomputable abbrev Bq:Oy:=[("down",[0,-1]),("up",[0,0]),("right",[-1,0]),("left",[0,0])]
theorem Gd {NI:Ot} {N0 x y w:Int} (a:w=0 \/ w=1):Nl (iW NI N0 x y w) Gb=NQ [(vf w (hiB NI N0 x y)).1,(vf w (hiB NI N0 x y)).2]:=by
 unfold iW vf hiB;rcases a with rfl | rfl
 ·by_cases h:N0<yc NI x y
  ·rw [NM rfl,NM h,NM rfl,NN h,NM rfl];decide +kernel
  ·rw [NM rfl,NL h,NM rfl,NP h,NL Ie];decide +kernel
 ·have e:¬ ((1:Int)=0):=by decide
  by_cases h:N0<yc NI x y
  ·rw [NL e,NM h,NL e,NN h,NM rfl];decide +kernel
  ·rw [NL e,NL h,NL e,NP h,NL Ie];decide +kernel
theorem Ge {NI:Ot} {N0 x y w:Int} (a:w=0 \/ w=1):Nl (iW NI N0 x y w) Bq=NQ [(vg w (hiB NI N0 x y)).1,(vg w (hiB NI N0 x y)).2]:=by
 unfold iW vg hiB;rcases a with rfl | rfl
 ·by_cases h:N0<yc NI x y
  ·rw [NM rfl,NM h,NM rfl,NN h,NM rfl];decide +kernel
  ·rw [NM rfl,NL h,NM rfl,NP h,NL Ie];decide +kernel
 ·have e:¬ ((1:Int)=0):=by decide
  by_cases h:N0<yc NI x y
  ·rw [NL e,NM h,NL e,NN h,NM rfl];decide +kernel
  ·rw [NL e,NL h,NL e,NP h,NL Ie];decide +kernel
theorem Br {NI:Ot} {wd:Nat} {N0:Int} {g:Gt} (o:opG NI wd N0 g=NS):yb NI wd g.1 g.2.1=NS:=by
 unfold opG yS aE at o;rw [Io,Io,Io] at o;exact o.1.2.1
abbrev GO:=Ot×Nat×Int×Gt
abbrev DD (c:GO) (xs:List DV):Prop:=xs=[.dat (tab c.1),.dat (.int c.2.2.1),.dat (gD3 c.2.2.2)]/\Good c.2.1 c.1/\opG c.1 c.2.1 c.2.2.1 c.2.2.2=NS
abbrev ox (K:Ih):Sp:=spD K 3 DD λc r=>r=.tuple [.int (ahC c.1 c.2.2.1 c.2.2.2).1,.int (ahC c.1 c.2.2.1 c.2.2.2).2]
theorem xm {a:Ij} (F:Def K mg "cell_ahead" qJ ph) (b:mg "AHEAD"=NQ (.ref a)) (c:wF K a Gb=NS) (d:FnIn P w K mg base k "heading" ph (sk K)):FnIn P w K mg base (k+1) "cell_ahead" ph (ox K):=by
 refine F.ok vM rfl λv p A e s H E l=>⟨_,(ze (z8 (AQ (K:=K) rfl rfl b c (zg d l rfl (zc (pv 0) (zc (pv 1) (zc (pv 2) zd)))) (λ_ _=>rfl)) (zJ (K:=K) (n:=2) rfl rfl (zh (zf (i:=3) vM.nd) (zh (zf (i:=4) vM.nd) zF)))) (zm (zz (zH (zc (zA yd (zX (jk (K:=K) rfl) (pv 2) zp (λ_ _=>rfl)) (pv 3)) (zc (zA yd (zX (jk (K:=K) rfl) (pv 2) zp (λ_ _=>rfl)) (pv 4)) zd)))))),?_⟩;rintro f t ⟨q,h,r,x,y,w⟩ u ⟨rfl,g,o⟩
 try dsimp only [zV,zk]
 dsimp only at *;have j:=cC o;have m:=Br o;refine yt (zY (Er (zt (q,h,r,x,y,w) ?_)));unfold gD3 at *;walk_at "w";rintro _ rfl;refine⟨_,_,rfl,Gd j,?_⟩;refine yo rfl (zq (zj (zq (zj (zT ?_)))));walk_at "w";rfl
abbrev uq (K:Ih):Sp:=spD K 3 DD λc r=>r=.bool (!zS c.1 c.2.1 (bhC c.1 c.2.2.1 c.2.2.2).1 (bhC c.1 c.2.2.1 c.2.2.2).2)
theorem Bs {a:Ij} (F:Def K mg "comes_in" aw ph) (e:mg "BEHIND"=NQ (.ref a)) (d:wF K a Bq=NS) (h:FnIn P w K mg base k "heading" ph (sk K)) (c:FnIn P w K mg base k "has_cell" pj (l4 K)):FnIn P w K mg base (k+1) "comes_in" ph (uq K):=by
 refine F.ok aV rfl λz t A j s H E p=>⟨_,(ze (z8 (AQ (K:=K) rfl rfl e d (zg h p rfl (zc (pv 0) (zc (pv 1) (zc (pv 2) zd)))) (λ_ _=>rfl)) (zJ (K:=K) (n:=2) rfl rfl (zh (zf (i:=3) aV.nd) (zh (zf (i:=4) aV.nd) zF)))) (zm (zz (xJ (zg c p rfl (zc (pv 0) (zc (zA yd (zX (jk (K:=K) rfl) (pv 2) zp (λ_ _=>rfl)) (pv 3)) (zc (zA yd (zX (jk (K:=K) rfl) (pv 2) zp (λ_ _=>rfl)) (pv 4)) zd)))))))),?_⟩;rintro f u ⟨b,m,l,x,y,w⟩ v ⟨rfl,g,o⟩
 try dsimp only [zV,zk]
 dsimp only at *;have q:=cC o;have r:=Br o;refine yt (zY (Er (zt (b,m,l,x,y,w) ?_)));unfold gD3 at *;walk_at "w";rintro _ rfl;refine⟨_,_,rfl,Ge q,?_⟩;refine yo rfl (zq (zj (zq (zj (zT ?_)))));walk_at "w";refine zt (b,m,(bhC b l (x,y,w)).1,(bhC b l (x,y,w)).2) ?_;walk_at "w";rintro _ rfl;exact⟨_,rfl,rfl⟩
noncomputable def bY:List (Gt×Gt)->Ow->Ow
 | [],kvs=>kvs
 | p :: l,kvs=>bY l (dput (gD3 p.2) (gD3 p.1) (dput (gD3 p.1) (gD3 p.2) kvs))
theorem su (l:List (Gt×Gt)) (p:Gt×Gt):∀ kvs,bY (l++[p]) kvs=dput (gD3 p.2) (gD3 p.1) (dput (gD3 p.1) (gD3 p.2) (bY l kvs)):=by
 induction l with
 | nil=>intro kvs;rfl
 | cons q l ih=>intro kvs;exact ih _
theorem dB (a b:NR) (kvs:Ow):(dput a b kvs).length<=kvs.length+1:=by
 unfold dput;split
 ·rw [Ib];lia
 ·rw [IE];exact Iu _
theorem xn (l:List (Gt×Gt)):∀ kvs,(bY l kvs).length<=kvs.length+2 * l.length:=by
 induction l with
 | nil=>intro kvs;exact Iu _
 | cons q l ih =>
  intro kvs;have c:=ih (dput (gD3 q.2) (gD3 q.1) (dput (gD3 q.1) (gD3 q.2) kvs));have b:=dB (gD3 q.2) (gD3 q.1) (dput (gD3 q.1) (gD3 q.2) kvs);have a:=dB (gD3 q.1) (gD3 q.2) kvs;show (bY l _).length<=_;rw [IJ];lia
theorem l8 {a b:Gt} (h:gD3 a=gD3 b):a=b:=by
 obtain⟨x,y,w⟩:=a;obtain⟨d,c,e⟩:=b;unfold gD3 vB at h;simp at h;simp [h]
theorem Bt {NI:Ot} {wd:Nat} {N0 x y:Int} (h:zS NI wd x y=NS):uj NI wd N0 x y=(vN NI N0 x y).map λp=>pairD p.1 p.2:=by
 have d:opG NI wd N0 (x,y,0)=_:=eB (N0:=N0) h 0;have c:opG NI wd N0 (x,y,1)=_:=eB (N0:=N0) h 1;have b:opG NI wd N0 (x,y+1,0)=_:=eB (N0:=N0) h 2;have a:opG NI wd N0 (x+1,y,1)=_:=eB (N0:=N0) h 3;unfold uj vN t4 yV l5 thr cg dA;simp only [Lr,M0,Jx,M7,d,c,b,a,L5];generalize jV NI N0 x y=M;generalize hiB NI N0 x y=A;generalize hiB NI N0 (x+1) y=B;generalize hiB NI N0 (x+1) (y+1)=C;generalize hiB NI N0 x (y+1)=D;cases A <;> cases B <;> cases C <;> cases D <;> cases M <;> rfl
theorem Bu {NI:Ot} {N0 x y:Int} {g n:Gt} (h:prt (vN NI N0 x y) g=NQ n):jL (gD3 g) (bY (vN NI N0 x y) [])=NQ (gD3 n):=by
 have f:∀ a b:Gt,a≠b->gD3 a≠gD3 b:=λa b G z=>G (l8 z);have l:∀ i j:Fin 4,i≠j->gt x y i≠gt x y j:=λi j G z=>G (gN z);unfold vN t4 at h ⊢;rcases ot (hiB NI N0 x y) (hiB NI N0 (x+1) y) (hiB NI N0 (x+1) (y+1)) (hiB NI N0 x (y+1)) (jV NI N0 x y) with e | ⟨a,b,H,e⟩ | ⟨a,b,c,d,H,Q,O,N,M,L,e⟩
 ·rw [e] at h;cases h
 ·rw [e] at h ⊢;have m:=f _ _ (l a b H);have v:=JM m;simp only [IL,LB,bY] at h ⊢;unfold prt at h;simp only [Lq,List.findSome?_nil] at h;by_cases p:gt x y a=g
  ·rw [NM p] at h;cases h;simp [dput,jL,m,v,<- p]
  ·rw [NL p] at h;by_cases o:gt x y b=g
   ·rw [NM o] at h;cases h;simp [dput,jL,m,v,<- o]
   ·rw [NL o] at h;cases h
 ·rw [e] at h ⊢;have m:=f _ _ (l a b H);have u:=f _ _ (l a c Q);have t:=f _ _ (l a d O);have s:=f _ _ (l b c N);have r:=f _ _ (l b d M);have q:=f _ _ (l c d L);have F:=JM m;have E:=JM u;have D:=JM t;have C:=JM s;have B:=JM r;have A:=JM q;simp only [IL,LB,bY] at h ⊢;unfold prt at h;simp only [Lq,List.findSome?_nil] at h;by_cases p:gt x y a=g
  ·rw [NM p] at h;cases h;simp [dput,jL,m,u,t,s,r,q,F,E,D,C,B,A,<- p]
  ·rw [NL p] at h;by_cases o:gt x y b=g
   ·rw [NM o] at h;cases h;simp [dput,jL,m,u,t,s,r,q,F,E,D,C,B,A,<- o]
   ·rw [NL o] at h;by_cases J:gt x y c=g
    ·rw [NM J] at h;cases h;simp [dput,jL,m,u,t,s,r,q,F,E,D,C,B,A,<- J]
    ·rw [NL J] at h;by_cases I:gt x y d=g
     ·rw [NM I] at h;cases h;simp [dput,jL,m,u,t,s,r,q,F,E,D,C,B,A,<- I]
     ·rw [NL I] at h;cases h
noncomputable def l9:Option Gt->NR
 | none=>.none
 | some g=>gD3 g
abbrev Bv (K:Ih):Sp:=spD K 3 DD λc r=>r=l9 (yF c.1 c.2.1 c.2.2.1 c.2.2.2)
theorem bg (g:Gt):eY (gD3 g):=⟨⟨rfl,IG rfl⟩,_,rfl⟩
theorem DE (F:Def K mg "gate_ahead" qK ph) (B:FnIn P w K mg base k "cell_ahead" ph (ox K)) (C:FnIn P w K mg base k "has_cell" pj (l4 K)) (z:FnIn P w K mg base k "cell_ties" pq (uk K)) :
  FnIn P w K mg base (k+1) "gate_ahead" ph (Bv K):=by
 refine F.ok yU rfl λfa S A G s H E r=>⟨_,(ze (z8 (zg B r rfl (zc (pv 0) (zc (pv 1) (zc (pv 2) zd)))) (zJ (K:=K) (n:=2) rfl rfl (zh (zf (i:=3) yU.nd) (zh (zf (i:=4) yU.nd) zF)))) (ze (yL (bZ (yn (K:=K) rfl (zg C r rfl (zc (pv 0) (zc (pv 3) (zc (pv 4) zd)))) (λ_=>rfl))) (zm (zz ku)) z6) (ze (zL (i:=5) yU.nd rfl (N2 rfl) (d7 (w:=w) rfl)) (ze (y8 JA rfl (zK (K:=K) rfl (zg z r rfl (zc (pv 0) (zc (pv 1) (zc (zH (zc (pv 3) (zc (pv 4) zd))) zd))))) (zJ (K:=K) (n:=2) rfl rfl (zh (zf (i:=6) yU.nd) (zh (zf (i:=7) yU.nd) zF))) (ze (z8 (pv 7) (v8 (pv 5) (pv 6) (aU (w:=w) (K:=K) rfl rfl r.units))) (zm (z8 (pv 6) (v8 (pv 5) (pv 7) (aU (w:=w) (K:=K) rfl rfl r.units)))))) (zm (zz (zX (qD (w:=w) (K:=K) rfl rfl r.units) (pv 5) (pv 2) (λ_ _=>rfl)))))))),?_⟩;rintro f T ⟨l,p,m,g⟩ I ⟨rfl,gd,o⟩
 try dsimp only [zV,zk]
 dsimp only at *;refine yt (zY (zt (l,p,m,g) ?_));walk_at "w";rintro _ rfl;dsimp only;refine yo rfl (zq (zj (zq (zj (zT ?_)))));refine yt (eX (iG (ji (zt (l,p,(ahC l m g).1,(ahC l m g).2) ?_))));walk_at "w";rintro _ rfl;refine⟨_,rfl,?_⟩;dsimp only;refine yA (λh=>?_) λh=>?_
 ·have x:zS l p (ahC l m g).1 (ahC l m g).2=NV:=by simpa using h
  walk_at "w";unfold yF;rw [x,NL Ie];rfl
 ·have x:zS l p (ahC l m g).1 (ahC l m g).2=NS:=by simpa using h
  obtain⟨n,y,_⟩:=bJ o x;have O:prt (vN l m (ahC l m g).1 (ahC l m g).2) g=NQ n:=by
   unfold yF at y;rw [NM x] at y;exact y
  have U:(vN l m (ahC l m g).1 (ahC l m g).2).length<=2:=by
   unfold vN t4;rw [Ib];rcases ot (hiB l m (ahC l m g).1 (ahC l m g).2) (hiB l m ((ahC l m g).1+1) (ahC l m g).2) (hiB l m ((ahC l m g).1+1) ((ahC l m g).2+1)) (hiB l m (ahC l m g).1 ((ahC l m g).2+1)) (jV l m (ahC l m g).1 (ahC l m g).2) with e | ⟨a,b,N,e⟩ | ⟨a,b,c,d,N,n2,Z,Y,X,W,e⟩ <;> rw [e] <;> simp
  refine aQ (lu (w:=w) (nu (rh ⟨show 5<8 by decide,λD=>?_⟩)));refine vn (aN (yg (PEdO.ped (ai (l,p,m,(ahC l m g).1,(ahC l m g).2) ?_))));walk_at "w";rintro _ rfl;dsimp only;rw [Bt x];refine⟨_,rfl,λi J R=>(∃ u v,J=[NQ (.dat (tab l)),NQ (.dat (.int m)),NQ (.dat (gD3 g)),NQ (.dat (.int (ahC l m g).1)),NQ (.dat (.int (ahC l m g).2)),NQ (.own (f.M.length+0)),u,v])/\R=[.dic (bY ((vN l m (ahC l m g).1 (ahC l m g).2).take i) [])],⟨⟨_,_,rfl⟩,rfl⟩,?_,?_⟩
  ·rintro i d _ _ t ⟨⟨u,v,rfl⟩,rfl⟩;rw [Iq] at t;cases hq:(vN l m (ahC l m g).1 (ahC l m g).2)[i]? with
   | none=>rw [hq] at t;cases t
   | some q =>
    rw [hq] at t;cases t;have L:(vN l m (ahC l m g).1 (ahC l m g).2).take (i+1)=(vN l m (ahC l m g).1 (ahC l m g).2).take i++[q]:=by
     rw [LN,hq];rfl
    have I:=xn ((vN l m (ahC l m g).1 (ahC l m g).2).take i) [];rw [Jt] at I;simp only [KP] at I;refine yo rfl (zq (zj (zq (zj (zT ?_)))));refine vn (nB (i:=5) (j:=0) rfl rfl (by lia) ?_);walk_at "w";refine⟨bg _,?_⟩;have Q:=dB (gD3 q.1) (gD3 q.2) (bY ((vN l m (ahC l m g).1 (ahC l m g).2).take i) []);refine nB (i:=5) (j:=0) rfl rfl (by lia) ?_;walk_at "w";refine⟨bg _,⟨_,_,rfl⟩,?_⟩;rw [L,su];rfl
  ·rintro _ _ ⟨⟨u,v,rfl⟩,rfl⟩;rw [Ib,Jk];refine AO (Ha (i:=5) (j:=0) rfl rfl (cW (zr rfl ⟨bg _,_,Bu O,?_⟩)));show gD3 n=l9 (yF l p m g);rw [y];rfl
theorem ur {b:Type} [DecidableEq b]:∀ (l m:List b),l.Nodup->(∀ x∈l,x∈m)->m.length<=l.length->∀ x∈m,x∈l
 | [],m,_,_,hl,x,hx=>by
  have:m=[]:=Ly.mp (Nat.le_zero.mp hl);rw [this] at hx;exact hx
 | a :: l,m,nd,sub,hl,x,hx=>by
  have f:=sub a (Ik ..);have d:=Jp.mp nd;have g:=Lu f;rw [IJ] at hl;by_cases e:x=a
  ·rw [e];exact Ik ..
  ·refine Ii _ (ur l (m.erase a) d.2 (λy c=>?_) (by lia) x ((Lg e).mpr hx));exact (Lg (λ(z:y=a)=>d.1 (z▸c))).mpr (sub y (Ii _ c))
theorem len_sub {b:Type} [DecidableEq b]:∀ (l m:List b),l.Nodup->(∀ x∈l,x∈m)->l.length<=m.length
 | [],m,_,_=>IV _
 | a :: l,m,nd,sub=>by
  have e:=sub a (Ik ..);have d:=Jp.mp nd;have f:=Lu e;have g:0<m.length:=LO e;have:=len_sub l (m.erase a) d.2 (λy c=>(Lg (λ(z:y=a)=>d.1 (z▸c))).mpr (sub y (Ii _ c)));rw [IJ];lia
theorem perm_map_inv {g n:Type} {f:g->n} {r o:List n} (h:r.Perm o):∀ ts:List g,o=ts.map f->∃ c:List g,c.Perm ts/\r=c.map f:=by
 induction h with
 | nil=>intro ts e;exact⟨ts,.refl _,e⟩
 | cons x _ ih =>
  intro ts e;cases ts with
  | nil=>cases e
  | cons t ts =>
   rw [IL] at e;injection e with m d;obtain⟨c,p,q⟩:=ih ts d;exact⟨t :: c,.cons t p,by rw [IL,<- q,m]⟩
 | swap x y l =>
  intro ts e
  match ts,e with
  | [],e=>cases e
  | [_],e=>cases e
  | a :: b :: ts,e =>
   simp only [IL] at e;injection e with m d;injection d with d z;exact⟨b :: a :: ts,.swap a b ts,by rw [IL,IL,m,d,z]⟩
 | trans _ _ j i =>
  intro ts e;obtain⟨c,p,q⟩:=i ts e;obtain⟨s,v,u⟩:=j c q;exact⟨s,v.trans p,u⟩
section
variable (NI:Ot) (wd:Nat) (N0:Int)
structure LineOk (ring:Bool) (l:List Gt):Prop where
 op:∀ g∈l,opG NI wd N0 g=NS
 nd:l.Nodup
 ch:∀ (i:Nat) a b,l[i]?=NQ a->l[i+1]?=NQ b->yF NI wd N0 a=NQ b
 ne:l≠[]
 last:∀ g,l.getLast?=NQ g->yF NI wd N0 g=if ring=NS then l.head? else NW
structure WalkOk (s:Gt) (l:List Gt):Prop where
 op:∀ g∈l,opG NI wd N0 g=NS
 nd:l.Nodup
 ch:∀ (i:Nat) a b,l[i]?=NQ a->l[i+1]?=NQ b->yF NI wd N0 a=NQ b
 hd:l.head?=NQ s
end
section
variable {NI:Ot} {wd:Nat} {N0:Int}
theorem xo {t n:Nat} {x y w:Int} (d:0<=x/\x<n) (c:0<=y/\y<t) (e:w=0 \/ w=1):(x,y,w)∈je t n:=by
 obtain⟨a,rfl⟩:=MR d.1;obtain⟨b,rfl⟩:=MR c.1;refine Jl.mpr ⟨a,Jb.mpr (by lia),Jl.mpr ⟨b,Jb.mpr (by lia),?_⟩⟩;rcases e with rfl | rfl
 ·exact Ik ..
 ·exact Ii _ (Ik ..)
theorem DF {g:Gt} (o:opG NI wd N0 g=NS):yb NI wd g.1 g.2.1=NS:=by
 unfold opG yS aE at o;rw [Io,Io,Io] at o;exact o.1.2.1
theorem jw {g:Gt}:g∈yG NI wd N0↔opG NI wd N0 g=NS:=by
 rw [bf,Jd];refine⟨λh=>h.2,λo=>⟨?_,o⟩⟩;obtain⟨x,y,w⟩:=g;have e:=cC o;obtain⟨a,b,c,d⟩:=aX (DF o);exact xo ⟨a,b⟩ ⟨c,d⟩ e
theorem Bw:(yG NI wd N0).Nodup:=by
 rw [bf];refine ((oj _ _).filter _).imp λ{a b} h e=>?_;subst e;unfold gLt at h;lia
theorem gP {l:List Gt} (c:Good wd NI) (o:∀ g∈l,opG NI wd N0 g=NS) (a:l.Nodup):l.length<=98 :=
 IS (len_sub l (yG NI wd N0) a λx b=>jw.mpr (o x b)) (iY c)
theorem Bx {s:Gt} (o:opG NI wd N0 s=NS):WalkOk NI wd N0 s [s] :=
 ⟨λg c=>by rw [Iw.mp c];exact o,Jp.mpr ⟨Jy,JC⟩,λi a b _ h=>(nomatch h),rfl⟩
theorem xp {s n g:Gt} {l:List Gt} (W:WalkOk NI wd N0 s l) (t:l.getLast?=NQ g) (q:yF NI wd N0 g=NQ n) (u:n≠s):WalkOk NI wd N0 s (l++[n]):=by
 have r:g∈l:=Nn t;have p:l[l.length - 1]?=NQ g:=by rw [<-MB];exact t
 have pos:0<l.length:=LO r;have m:n∉l:=λy=>by
  obtain⟨i,f⟩:=Jc y
  match i,f with
  | 0,f =>
   have:=W.hd;rw [K6,f] at this;exact u (N1 this)
  | i+1,f =>
   obtain⟨o,_⟩:=Ig.mp f;have c:l[i]?=NQ l[i]:=Ia (by lia);have z:=W.ch i _ _ c f;have e:=gO (W.op _ (Ir c)) (W.op _ r) z q;rw [e,<- p] at c;have:=(MG (by lia) W.nd).mp c;lia
 refine⟨λx v=>?_,?_,λi a b j d=>?_,?_⟩
 ·rcases Iz.mp v with h | h
  ·exact W.op x h
  ·rw [Iw.mp h];exact (eC (W.op g r) q).1
 ·refine Jw.mpr ⟨W.nd,Jp.mpr ⟨Jy,JC⟩,λa j b d e=>?_⟩;rw [Iw.mp d] at e;exact m (e▸j)
 ·by_cases h:i+1<l.length
  ·rw [Iy (by lia)] at j;rw [Iy h] at d;exact W.ch i a b j d
  ·obtain⟨o,_⟩:=Ig.mp d;rw [IE,JJ] at o;have e:i=l.length - 1:=by lia
   rw [Iy (by lia),e,p] at j;rw [IC (by lia),show i+1 - l.length=0 by lia] at d;cases j;cases d;exact q
 ·cases l with
  | nil=>cases pos
  | cons a l=>exact W.hd
theorem iZ {s g:Gt} {l:List Gt} (W:WalkOk NI wd N0 s l) (c:l.getLast?=NQ g) {a:Bool} (h:yF NI wd N0 g=if a=NS then NQ s else NW):LineOk NI wd N0 a l where
 op:=W.op
 nd:=W.nd
 ch:=W.ch
 ne:=λz=>by rw [z] at c;cases c
 last:=λd b=>by
  rw [c] at b;cases b;rw [h,W.hd]
def md (NI:Ot) (wd:Nat) (N0:Int) (t:Bool×List Gt):Prop:=t.1=NV->∀ h,t.2.head?=NQ h->jv NI wd N0 h=NW
theorem next_prev {g n:Gt} (o:opG NI wd N0 g=NS) (h:yF NI wd N0 g=NQ n):jv NI wd N0 n=NQ g:=by
 have c:zS NI wd (ahC NI N0 g).1 (ahC NI N0 g).2=NS:=by
  unfold yF at h;by_cases z:zS NI wd (ahC NI N0 g).1 (ahC NI N0 g).2=NS
  ·exact z
  ·rw [NL z] at h;cases h
 obtain⟨m,a,_,_,_,b⟩:=bJ o c;rw [h] at a;cases a;exact b
theorem prev_next {g n:Gt} (o:opG NI wd N0 g=NS) (h:jv NI wd N0 g=NQ n):opG NI wd N0 n=NS/\yF NI wd N0 n=NQ g:=by
 have c:zS NI wd (bhC NI N0 g).1 (bhC NI N0 g).2=NS:=by
  unfold jv at h;by_cases z:zS NI wd (bhC NI N0 g).1 (bhC NI N0 g).2=NS
  ·exact z
  ·rw [NL z] at h;cases h
 obtain⟨m,a,_,b,_,d⟩:=l7 o c;rw [h] at a;cases a;exact⟨b,d⟩
theorem mf {t:Bool×List Gt} (a:t.2≠[]):∃ z,t.2.getLast?=NQ z/\z∈t.2:=⟨t.2.getLast a,List.getLast?_eq_some_getLast a,List.getLast_mem a⟩
theorem eS {t:Bool×List Gt} (L:LineOk NI wd N0 t.1 t.2) (st:md NI wd N0 t) {g n:Gt} (o:opG NI wd N0 g=NS) (f:n∈t.2) (h:yF NI wd N0 g=NQ n):g∈t.2:=by
 obtain⟨i,a⟩:=Jc f
 match i,a with
 | 0,a =>
  have d:t.2.head?=NQ n:=by rw [K6];exact a
  cases hr:t.1 with
  | false =>
   have:=st hr n d;rw [next_prev o h] at this;cases this
  | true =>
   obtain⟨z,e,b⟩:=mf L.ne;have:=L.last z e;rw [hr,NM rfl,d] at this;rw [gO o (L.op z b) h this];exact b
 | i+1,a =>
  obtain⟨j,_⟩:=Ig.mp a;have c:t.2[i]?=NQ t.2[i]:=Ia (by lia);have l:=L.ch i _ _ c a;have b:=Ir c;rw [gO o (L.op _ b) h l];exact b
theorem eT {t:Bool×List Gt} (L:LineOk NI wd N0 t.1 t.2) {g n:Gt} (hg:g∈t.2) (h:yF NI wd N0 g=NQ n):n∈t.2:=by
 obtain⟨i,b⟩:=Jc hg;obtain⟨j,_⟩:=Ig.mp b;by_cases l:i+1<t.2.length
 ·have a:t.2[i+1]?=NQ t.2[i+1]:=Ia l;have d:=L.ch i _ _ b a;rw [h] at d;rw [N1 d];exact Ir a
 ·have e:i=t.2.length - 1:=by lia
  have f:t.2.getLast?=NQ g:=by rw [MB,<- e];exact b
  have:=L.last g f;rw [h] at this;by_cases c:t.1=NS
  ·rw [NM c] at this;exact LP this.symm
  ·rw [NL c] at this;cases this
theorem DG (e:Good wd NI) {g:Gt} (o:opG NI wd N0 g=NS):zS NI wd (ahC NI N0 g).1 (ahC NI N0 g).2=NS \/ zS NI wd (bhC NI N0 g).1 (bhC NI N0 g).2=NS:=by
 have d:=cC o;obtain⟨x,y,w⟩:=g;have b:yS NI wd N0 x y w=NS:=o;unfold yS aE at b;rw [Io,Io,Io] at b;obtain⟨B,A,z,t⟩:=aX b.1.2.1;obtain⟨n,i,m,f⟩:=aX b.1.2.2;have l:=e.h1;have j:=e.w1;have a:∀ {u v:Int},0<=u->u+1<wd->0<=v->v+1<NI.length->zS NI wd u v=NS:=λp q r s=>by
  unfold zS yb;rw [NN (by lia),NN (by lia),NN (by lia),NN (by lia)];rfl
 unfold ahC bhC vf vg;dsimp only at d ⊢;rcases d with rfl | rfl
 ·have c:px x 0=x+1:=rfl;rw [c] at i;cases hiB NI N0 x y
  ·by_cases h:y+1<NI.length
   ·left;exact a (by simp;lia) (by simp;lia) (by simp;lia) (by simp;lia)
   ·right;exact a (by simp;lia) (by simp;lia) (by simp;lia) (by simp;lia)
  ·by_cases h:y+1<NI.length
   ·right;exact a (by simp;lia) (by simp;lia) (by simp;lia) (by simp;lia)
   ·left;exact a (by simp;lia) (by simp;lia) (by simp;lia) (by simp;lia)
 ·have c:py y 1=y+1:=rfl;rw [c] at f;cases hiB NI N0 x y
  ·by_cases h:x+1<wd
   ·right;exact a (by simp;lia) (by simp;lia) (by simp;lia) (by simp;lia)
   ·left;exact a (by simp;lia) (by simp;lia) (by simp;lia) (by simp;lia)
  ·by_cases h:x+1<wd
   ·left;exact a (by simp;lia) (by simp;lia) (by simp;lia) (by simp;lia)
   ·right;exact a (by simp;lia) (by simp;lia) (by simp;lia) (by simp;lia)
theorem Gf (d:Good wd NI) {t:Bool×List Gt} (L:LineOk NI wd N0 t.1 t.2) (st:md NI wd N0 t):2<=t.2.length:=by
 obtain⟨r,l⟩:=t
 match l,L,st with
 | [],L,_=>exact absurd rfl L.ne
 | [g],L,st =>
  have o:=L.op g (Ik ..);have a:=L.last g rfl;cases r with
  | true =>
   exact absurd rfl (eC o a).2
  | false =>
   have b:jv NI wd N0 g=NW:=st rfl g rfl;have a:yF NI wd N0 g=NW:=a;rcases DG d o with c | c
   ·obtain⟨n,h,_⟩:=bJ o c;rw [a] at h;cases h
   ·obtain⟨n,h,_⟩:=l7 o c;rw [b] at h;cases h
 | _ :: _ :: _,_,_=>exact Nat.le_add_left 2 _
end
section
variable (NI:Ot) (wd:Nat) (N0:Int)
noncomputable def flat (ts:List (Bool×List Gt)):List Gt:=ts.flatMap (·.2)
structure Told (ts:List (Bool×List Gt)):Prop where
 line:∀ t∈ts,LineOk NI wd N0 t.1 t.2
 st:∀ t∈ts,md NI wd N0 t
 nd:(flat ts).Nodup
 least:∀ t∈ts,t.1=NS->∀ h,t.2.head?=NQ h->∀ g∈t.2,g=h \/ gLt h g
end
section
variable {NI:Ot} {wd:Nat} {N0:Int} {ts:List (Bool×List Gt)}
theorem Told.op (T:Told NI wd N0 ts) {g:Gt} (h:g∈flat ts):opG NI wd N0 g=NS:=by
 obtain⟨t,a,b⟩:=Jl.mp h;exact (T.line t a).op g b
theorem Told.len (T:Told NI wd N0 ts) (b:Good wd NI):(flat ts).length<=98:=gP b (λg a=>T.op a) T.nd
theorem oy:∀ (ts:List (Bool×List Gt)),(∀ t∈ts,2<=t.2.length)->2 * ts.length<=(flat ts).length
 | [],_=>Iu _
 | t :: ts,h=>by
  have c:=h t (Ik ..);have b:=oy ts λu a=>h u (Ii _ a);show 2 * (ts.length+1)<=(t.2++flat ts).length;rw [IE];lia
theorem Told.few (T:Told NI wd N0 ts) (b:Good wd NI):ts.length<=49:=by
 have d:=oy ts λt a=>Gf b (T.line t a) (T.st t a);have c:=T.len b;lia
theorem bK (ts:List (Bool×List Gt)) (t:Bool×List Gt):flat (ts++[t])=flat ts++t.2:=by
 unfold flat;rw [J7];simp
theorem Told.fresh (T:Told NI wd N0 ts) {r:Bool} {l:List Gt} (L:LineOk NI wd N0 r l) {s:Gt} (e:l.head?=NQ s) (f:s∉flat ts):∀ g∈l,g∉flat ts:=by
 have c:∀ (i:Nat) g,l[i]?=NQ g->g∉flat ts:=λi=>by
  induction i with
  | zero =>
   intro g b;rw [K6,b] at e;rw [N1 e];exact f
  | succ i ih =>
   intro g b h;obtain⟨j,_⟩:=Ig.mp b;have a:l[i]?=NQ l[i]:=Ia (by lia);have n:=L.ch i _ _ a b;obtain⟨t,d,hgt⟩:=Jl.mp h;exact ih _ a (Jl.mpr ⟨t,d,eS (T.line t d) (T.st t d) (L.op _ (Ir a)) hgt n⟩)
 intro g b;obtain⟨i,m⟩:=Jc b;exact c i g m
theorem Told.more (T:Told NI wd N0 ts) {r:Bool} {l:List Gt} (L:LineOk NI wd N0 r l) {s:Gt} (f:l.head?=NQ s) (m:s∉flat ts) (st:r=NV->jv NI wd N0 s=NW) (j:r=NS->∀ g∈l,g=s \/ gLt s g):Told NI wd N0 (ts++[(r,l)]) where
 line:=λt c=>by
  rcases Iz.mp c with h | h
  ·exact T.line t h
  ·rw [Iw.mp h];exact L
 st:=λt c=>by
  rcases Iz.mp c with h | h
  ·exact T.st t h
  ·rw [Iw.mp h];intro i h d;rw [show (r,l).2.head?=NQ s from f] at d;rw [<-N1 d];exact st i
 nd:=by
  rw [bK];refine Jw.mpr ⟨T.nd,L.nd,λa o b n e=>?_⟩;exact T.fresh L f m b n (e▸o)
 least:=λt c=>by
  rcases Iz.mp c with h | h
  ·exact T.least t h
  ·rw [Iw.mp h];intro i h d;rw [show (r,l).2.head?=NQ s from f] at d;rw [<-N1 d];exact j i
theorem Gg {r:Bool} {l:List Gt} (L:LineOk NI wd N0 r l) {s:Gt} (b:l.head?=NQ s) (c:jv NI wd N0 s=NW):r=NV:=by
 cases r with
 | false=>rfl
 | true =>
  obtain⟨z,a,d⟩:=mf (t:=(NS,l)) L.ne;have:=L.last z a;rw [NM rfl,b] at this;have:=next_prev (L.op z d) this;rw [c] at this;cases this
theorem DH (T:Told NI wd N0 ts) (u:∀ g,opG NI wd N0 g=NS->jv NI wd N0 g=NW->g∈flat ts) {r:Bool} {l:List Gt} (L:LineOk NI wd N0 r l) {s:Gt} (G:l.head?=NQ s) (H:s∉flat ts):r=NS:=by
 cases r with
 | true=>rfl
 | false =>
  obtain⟨z,E,m⟩:=mf (t:=(NV,l)) L.ne;have d:yF NI wd N0 z=NW:=L.last z E
  let U:=(yG NI wd N0).filter λg=>decide (g∉flat ts)
  have c:∀ g,g∈U↔opG NI wd N0 g=NS/\g∉flat ts:=λg=>by
   show g∈List.filter _ _↔_;rw [Jd,jw,decide_eq_true_eq]
  let h:Gt->Gt:=λg=>(jv NI wd N0 g).getD g
  have f:∀ g∈U,jv NI wd N0 g=NQ (h g)/\yF NI wd N0 (h g)=NQ g/\h g∈U:=λg j=>by
   obtain⟨o,v⟩:=(c g).mp j;cases hp:jv NI wd N0 g with
   | none=>exact absurd (u g o hp) v
   | some p =>
    have e:h g=p:=by show (jv NI wd N0 g).getD g=p;rw [hp];rfl
    obtain⟨C,i⟩:=prev_next o hp;rw [e];refine⟨rfl,i,(c p).mpr ⟨C,λm=>?_⟩⟩;obtain⟨t,y,hpt⟩:=Jl.mp m;exact v (Jl.mpr ⟨t,y,eT (T.line t y) hpt i⟩)
  have n:U.Nodup:=Bw.filter _;have q:(U.map h).Nodup:=by
   refine JF.mpr (n.imp_of_mem λ{a b} J I D e=>D ?_);have A:=(f a J).2.1;have M:=(f b I).2.1;rw [e,M] at A;exact (N1 A).symm
  have B:z∈U:=(c z).mpr ⟨L.op z m,T.fresh L G H z m⟩;have:=ur (U.map h) U q (λx F=>by obtain⟨g,j,rfl⟩:=ID.mp F;exact (f g j).2.2) (by rw [Ib];exact Iu _) z B;obtain⟨g,j,rfl⟩:=ID.mp this;rw [(f g j).2.1] at d;cases d
noncomputable def jI (t:Bool×List Gt):NR:=.tuple [.str (if t.1=NS then "ring" else "run"),.tuple (t.2.map gD3)]
theorem oA (l:List Gt):zO (l.map gD3)=NS:=by
 induction l with
 | nil=>rfl
 | cons g l ih=>show (zD (gD3 g) && zO (l.map gD3))=NS;rw [ih];rfl
theorem sv (t:Bool×List Gt):zD (jI t)=NS:=by
 show (zD (.str _) && (zD (.tuple (t.2.map gD3)) && NS))=NS;rw [show zD (.tuple (t.2.map gD3))=zO (t.2.map gD3) from rfl,oA];cases t.1 <;> decide +kernel
theorem i5:∀ l m:List Gt,qv (l.map gD3) (m.map gD3)=NS
 | [],m=>by rw [LB,qv]
 | g :: l,[]=>rfl
 | (x,y,w) :: l,(x',y',w') :: m=>by
  rw [IL,IL,qv];split
  ·exact i5 l m
  ·show vI (.tuple [.int x,.int y,.int w]) (.tuple [.int x',.int y',.int w'])=NS;simp only [vI,qv];split
   ·split
    ·split <;> rfl
    ·rfl
   ·rfl
theorem By (t u:Bool×List Gt):vI (jI t) (jI u)=NS:=by
 unfold jI;generalize (if t.1=NS then ("ring":Str) else "run")=a;generalize (if u.1=NS then ("ring":Str) else "run")=b;rw [vI,qv];split
 ·rw [qv];split
  ·rfl
  ·rw [vI];exact i5 _ _
 ·rfl
theorem oB (l:List Gt):IB (l.map gD3)<=1:=by
 induction l with
 | nil=>exact IV _
 | cons g l ih=>exact Nat.max_le.mpr ⟨Iu 1,ih⟩
theorem sx (t:Bool×List Gt):(jI t).depth<=3:=by
 show max 0 (max (IB (t.2.map gD3)+1) 0)+1<=3;have:=oB t.2;lia
theorem Bz {a b:Gt} (h:gD3 a=gD3 b):a=b:=by
 obtain⟨x,y,w⟩:=a;obtain⟨d,c,e⟩:=b;unfold gD3 vB at h;simp at h;simp [h]
theorem BA (T:Told NI wd N0 ts):SortOk "str" (ts.map jI) where
 plain:=λd c=>by obtain⟨t,_,rfl⟩:=ID.mp c;exact sv t
 head:=λd c=>by obtain⟨t,_,rfl⟩:=ID.mp c;rfl
 cmp:=λd c e i=>by
  obtain⟨t,_,rfl⟩:=ID.mp c;obtain⟨u,_,rfl⟩:=ID.mp i;exact By t u
 depth:=λd c=>by obtain⟨t,_,rfl⟩:=ID.mp c;exact IS (sx t) (by decide)
 nd:=by
  have h:=(List.pairwise_flatMap.mp T.nd).2;refine JF.mpr (h.imp_of_mem λ{a b} m j c e=>?_);unfold jI at e;have f:a.2.map gD3=b.2.map gD3:=by
   injection e with e;injection e with _ e;injection e with e _;injection e
  cases ha2:a.2 with
  | nil=>exact (T.line a m).ne ha2
  | cons g l =>
   cases hb2:b.2 with
   | nil=>exact (T.line b j).ne hb2
   | cons n o =>
    rw [ha2,hb2,IL,IL] at f;injection f with f _;exact c g (by rw [ha2];exact Ik ..) n (by rw [hb2];exact Ik ..) (Bz f)
theorem Told.perm {b:List (Bool×List Gt)} (T:Told NI wd N0 ts) (p:b.Perm ts):Told NI wd N0 b where
 line:=λt a=>T.line t (p.mem_iff.mp a)
 st:=λt a=>T.st t (p.mem_iff.mp a)
 nd:=(p.flatMap_right _).nodup_iff.mpr T.nd
 least:=λt a=>T.least t (p.mem_iff.mp a)
end
section
variable {K:Ih} {f:Fx} {ρ:zu} {ta:TE} {P:NR->Prop}
noncomputable def gQ:NR->Bool
 | .none=>NS
 | _=>NV
theorem i6 {H:Hp} {d:NR} {v:V} (r:Rep K H d v) (h:d=.none \/ ∃ ds,d=.tuple ds):decide (v=.non)=gQ d:=by
 rcases h with rfl | ⟨ds,rfl⟩
 ·rw [show v=.non from r];rfl
 ·obtain⟨a,b,rfl,_⟩:=zZ.mp r;rfl
theorem Gh (h:PEd K f ta ρ λd=>(d=.none \/ ∃ ds,d=.tuple ds)/\P (.bool (!gQ d))):PEd K f (tOp (λx y H Q=>y=.non/\Q (.bl (!decide (x=.non))) H) ta (tC .non)) ρ P:=λa H Q e q =>
 h a H _ e λd v i g b ⟨c,p⟩=>⟨rfl,q _ _ i g (by show Rep K _ (.bool _) (.bl _);rw [i6 b c];rfl) p⟩
theorem EA (h:PEd K f ta ρ λd=>(d=.none \/ ∃ ds,d=.tuple ds)/\P (.bool (gQ d))):PEd K f (tOp (λx y H Q=>y=.non/\Q (.bl (decide (x=.non))) H) ta (tC .non)) ρ P:=λa H Q e q =>
 h a H _ e λd v i g b ⟨c,p⟩=>⟨rfl,q _ _ i g (by show Rep K _ (.bool _) (.bl _);rw [i6 b c];rfl) p⟩
end
abbrev BB (K:Ih):Sp:=spD K 3 DD λc r=>∃ a l,r=jI (a,l)/\LineOk c.1 c.2.1 c.2.2.1 a l/\l.head?=NQ c.2.2.2
theorem Gi (a b:Gt):IX (gD3 a) (gD3 b)=decide (a=b):=by
 obtain⟨x,y,w⟩:=a;obtain⟨d,c,e⟩:=b;show (decide (x=d) && (decide (y=c) && (decide (w=e) && NS)))=_;by_cases h:x=d <;> by_cases g:y=c <;> by_cases f:w=e <;> simp [h,g,f]
theorem sy (q:Option Gt):l9 q=.none \/ ∃ ds,l9 q=.tuple ds:=by
 cases q with
 | none=>exact .inl rfl
 | some g=>exact .inr ⟨_,rfl⟩
theorem DI (F:Def K mg "line_from" vu pE) (p:mg "tuple"=NW) (d:FnIn P w K mg base k "gate_ahead" ph (Bv K)) :
  FnIn P w K mg base (k+1) "line_from" pE (BB K):=by
 refine F.ok qL rfl λQ G A q s H E r=>⟨_,(ze (zL (i:=3) qL.nd rfl (N2 rfl) (yi (zc (pv 2) zd))) (ze (zL (i:=4) qL.nd rfl (N2 rfl) (zg d r rfl (zc (pv 0) (zc (pv 1) (zc (pv 2) zd))))) (ze (mD JA (PW.pt (kA (zR Ct (pv 4) ku (z9 _)) (fc (zR (fU (K:=K) rfl r.units) (pv 4) (pv 2) (z9 _))))) (ze (yI (iE J2 Kd Ke qO (pv 3) (zc (pv 4) zd))) (zm (zL (i:=4) qL.nd rfl (N2 rfl) (zg d r rfl (zc (pv 0) (zc (pv 1) (zc (pv 4) zd)))))))) (zm (zz (zH (zc (j8 (zR EV (pv 4) ku (z9 _)) yC yC) (zc (jO (ql (K:=K) rfl) rfl p Kq (zc (pv 3) zd)) zd)))))))),?_⟩;rintro f I ⟨a,c,b,g⟩ O ⟨rfl,v,o⟩
 try dsimp only [zV,zk]
 dsimp only at *;refine lu (w:=w) (nu (bt (cR ?_)));walk_at "w";refine⟨show 3<5 by decide,λD=>?_⟩;refine vn (gy (zY (zt (a,c,b,g) ?_)));walk_at "w";rintro _ rfl;refine zj ?_;refine vn (tW (λB t=>∃ l z,B=[NQ (.dat (tab a)),NQ (.dat (.int b)),NQ (.dat (gD3 g)),NQ (.own (f.M.length+0)),NQ (.dat (l9 (yF a c b z)))]/\t=[.lst (l.map gD3)]/\WalkOk a c b g l/\l.getLast?=NQ z) (λ_ t=>match t with | [.lst es]=>200 - es.length | _=>0) ⟨[g],g,rfl,rfl,Bx o,rfl⟩ ?_);rintro _ _ ⟨l,z,rfl,rfl,W,h⟩;have C:=W.op z (Nn h);have J:=gP v W.op W.nd;have N:(l.map gD3).length=l.length:=Ib ..;refine CS (sY (yr (Gh (zr rfl ⟨sy _,?_⟩))));refine⟨_,rfl,?_⟩;have y:∀ x:NR,LJ (freed f.M.length [OC.lst (l.map gD3)]) [NQ (DV.dat (tab a)),NQ (.dat (.int b)),NQ (.dat (gD3 g)),NQ (.own (f.M.length+0)),NQ (.dat x)]=[NQ (.dat (tab a)),NQ (.dat (.int b)),NQ (.dat (gD3 g)),NQ (.dat (.list (l.map gD3))),NQ (.dat x)]:=λx=>by simp [freed]
 cases hn:yF a c b z with
 | none =>
  rw [show (!gQ (l9 NW))=NV from rfl,NL Ie,NL Ie];refine AK ?_;rw [y];refine yD (qk (zv (o3 (yr (EA (zr rfl ⟨.inl rfl,_,rfl,?_⟩))))));rw [show gQ (l9 NW)=NS from rfl,NM rfl];walk_at "w";exact⟨NV,l,rfl,iZ W h (by rw [hn];rfl),W.hd⟩
 | some n =>
  rw [show (!gQ (l9 (NQ n)))=NS from rfl,NM rfl];rw [show l9 (NQ n)=gD3 n from rfl];refine yr (qA (zr rfl (zr rfl ⟨rfl,rfl,IG rfl,_,rfl,?_⟩)));rw [NM rfl,Gi];by_cases e:n=g
  ·rw [NN e,show (!true)=NV from rfl,NL Ie];refine AK ?_;rw [y];refine yD (qk (zv (o3 (yr (EA (zr rfl ⟨.inr ⟨_,rfl⟩,_,rfl,?_⟩))))));rw [show gQ (gD3 n)=NV from rfl,NL Ie];walk_at "w";exact⟨NS,l,rfl,iZ W h (by rw [hn,e];rfl),W.hd⟩
  ·rw [NP e,show (!false)=NS from rfl,NM rfl];have u:=xp W h hn e;have m:=gP v u.op u.nd;rw [IE,JJ] at m;refine vn (iP (i:=3) (j:=0) rfl rfl (by lia) (cW (zr rfl ?_)));refine gy (zY (zt (a,c,b,n) ?_));have L:=(eC C hn).1;walk_at "w";rintro _ rfl;refine zj ⟨⟨l++[n],n,rfl,?_,u,by simp⟩,?_⟩
   ·show [OC.lst (l.map gD3++[gD3 n])]=[OC.lst ((l++[n]).map gD3)];rw [IM];rfl
   ·show 200 - (l.map gD3++[gD3 n]).length<200 - (l.map gD3).length;rw [IE,JJ];lia
abbrev uu (K:Ih):Sp:=spN K 2 (λ(c:Ot×Nat×Int) f=>f=[.dat (tab c.1),.dat (.int c.2.2)]/\Good c.2.1 c.1) λc b=>∃ a,b=a.map jI/\Told c.1 c.2.1 c.2.2 a/\(∀ g,opG c.1 c.2.1 c.2.2 g=NS->g∈flat a)/\b.Pairwise λd e=>ltD d e=NS
noncomputable def inB (NI:Ot) (wd:Nat) (N0:Int) (g:Gt):Bool:=!zS NI wd (bhC NI N0 g).1 (bhC NI N0 g).2
theorem BC {NI:Ot} {wd:Nat} {N0:Int} {g:Gt} (o:opG NI wd N0 g=NS):inB NI wd N0 g=NS↔jv NI wd N0 g=NW:=by
 unfold inB;by_cases h:zS NI wd (bhC NI N0 g).1 (bhC NI N0 g).2=NS
 ·obtain⟨n,a,_⟩:=l7 o h;rw [h,a];simp
 ·rw [Bool.not_eq_true] at h;unfold jv;rw [h];simp
theorem BD (F:Def K mg "lines" fv pz) (uat:mg "set"=NW) (uaf:mg "sorted"=NW) (uad:FnIn P w K mg base k "ask_table" pf (bX K)) (ub7:FnIn P w K mg base k "gates" pz (ui K)) (ub8:FnIn P w K mg base k "comes_in" ph (uq K)) (ub9:FnIn P w K mg base k "line_from" pE (BB K)):FnIn P w K mg base (k+1) "lines" pz (uu K):=by
 refine F.okN qm rfl λfa cdv A outer s H E Q=>⟨_,(ze (yI (zg uad Q rfl (zc (pv 0) zd))) (ze (zL (i:=2) qm.nd rfl (N2 rfl) (zg ub7 Q rfl (zc (pv 0) (zc (pv 1) zd)))) (ze (zL (i:=3) qm.nd rfl (N2 rfl) (zA (aS (K:=K) rfl) (yq (N:=pI) (own:=1) (fr:=[0,1]) (by walk_at "c") rfl (zK (K:=K) rfl (pv 2)) (λ_ _ _ _=>(zf (i:=0) (show (pI:Oa).Nodup by decide +kernel))) (λ_ _ _ _=>(jW (yn (K:=K) rfl (zg ub8 Q rfl (zc (pv 1) (zc (pv 2) (zc (pv 0) zd)))) (λ_=>rfl)))) (λ_ _ _ _=>(pv 0)) rfl rfl (λ_=>rfl)) (pv 2))) (ze (zL (i:=4) qm.nd rfl (N2 rfl) (yi zd)) (ze (zL (i:=5) qm.nd rfl (N2 rfl) (fM (cX (w:=w) rfl) rfl uat Nb)) (ze (y8 JA rfl (zK (K:=K) rfl (pv 3)) (zf (i:=6) qm.nd) (zm (yL (zR (gz (w:=w) (K:=K) rfl rfl Q.units) (pv 6) (pv 5) rfl) (ze (zL (i:=7) qm.nd rfl (N2 rfl) (zg ub9 Q rfl (zc (pv 0) (zc (pv 1) (zc (pv 6) zd))))) (ze (yI (iE J2 Kd Ke qO (pv 4) (zc (pv 7) zd))) (zm (y8 JA rfl (cK (K:=K) rfl (zX (jk (K:=K) rfl) (pv 7) zp (λ_ _=>rfl))) (zf (i:=8) qm.nd) (zm (yI (AM (w:=w) rfl Mb Np (nA (w:=w) (K:=K) rfl rfl Q.units) (pv 5) (zc (pv 8) zd)))))))) z6))) (zm (zz (zB (cT (K:=K) rfl Q.units) rfl uaf Lv (zc (pv 4) zd)))))))))),?_⟩;rintro f xs ⟨b,c,N0⟩ hl ⟨rfl,gd⟩
 try dsimp only [zV,zk]
 dsimp only at *;have gl:=iY (N0:=N0) gd;refine vj (vG (zt (b,c) ?_));walk_at "w";rintro _ rfl;refine vj (zY (PEdO.ped (ai (b,c,N0) ?_)));walk_at "w";rintro _ rfl;dsimp only;rw [<-bf];refine zj ?_;refine vj (zY (gj (PEdO.ped (vH (yg (zr rfl ⟨_,rfl,λn X es=>(∃ u,X=[u,NQ (.dat (tab b)),NQ (.dat (.int N0))])/\es=(((yG b c N0).take n).filter (inB b c N0)).map gD3,⟨⟨_,rfl⟩,rfl⟩,?_,?_⟩))))))
 ·rintro D n d ρ' es y ⟨⟨u,rfl⟩,rfl⟩;rw [Iq] at y;cases hq:(yG b c N0)[n]? with
  | none=>rw [hq] at y;cases y
  | some q =>
   rw [hq] at y;cases y;have oq:=jw.mp (Ir hq);have tk:(yG b c N0).take (n+1)=(yG b c N0).take n++[q]:=by
    rw [LN,hq];rfl
   have len:((((yG b c N0).take n).filter (inB b c N0)).map gD3).length<1000:=by
    rw [Ib];have a1:=Jq (inB b c N0) ((yG b c N0).take n);rw [Jt] at a1;lia
   refine zj (ji (zt (b,c,N0,q) ?_));walk_at "w";rintro _ rfl;dsimp only;refine⟨_,rfl,?_⟩;refine yA (λh=>?_) λh=>?_
   ·refine yx len ?_;walk_at "w";rw [tk,JV,IM,Jx,show inB b c N0 q=NS from h,NM rfl];rfl
   ·refine⟨⟨_,rfl⟩,?_⟩;rw [tk,JV,IM,Jx,show inB b c N0 q=NV from h,NL Ie];simp
 ·rintro ρ' es ⟨_,rfl⟩;rw [Ib,Jk];have il:((yG b c N0).filter (inB b c N0)).length<=98:=IS (Jq _ _) gl;refine⟨_,rfl,zr rfl ⟨_,rfl,by rw [Ib,Ib];lia,?_⟩⟩;refine zj ?_;dsimp only;rw [<-IM];refine lz (w:=w) (lA (bt (cR ?_)));walk_at "w";refine⟨show 4<9 by decide,λD1=>?_⟩;refine lA (AN ⟨show 5<9 by decide,λD2=>?_⟩);refine rf (aN (yg (zr rfl ?_)));generalize W:(yG b c N0).filter (inB b c N0)++yG b c N0=S;generalize hG:PyData.list (LJ gD3 (yG b c N0))=G;refine⟨_,rfl,λi X cs=>∃ o u v x,X=[NQ (.dat (tab b)),NQ (.dat (.int N0)),NQ (.dat G),NQ (.dat (.list (S.map gD3))),NQ (.own (f.M.length+0)),NQ (.own (f.M.length+1)),u,v,x]/\cs=[.lst (o.map jI),.set ((flat o).map gD3).reverse]/\Told b c N0 o/\∀ j g,j<i->S[j]?=NQ g->g∈flat o,?_,?_,?_⟩
  ·exact⟨[],_,_,_,rfl,rfl,⟨(λ_ h=>nomatch h),(λ_ h=>nomatch h),JC,(λ_ h=>nomatch h)⟩,λj g h=>absurd h (Kf _)⟩
  ·rintro i d _ _ y ⟨o,u,v,x,rfl,rfl,T,t⟩;rw [Iq] at y;cases hq:S[i]? with
   | none=>rw [hq] at y;cases y
   | some q =>
    rw [hq] at y;cases y;have oq:opG b c N0 q=NS:=by
     have U:=Ir hq;rw [<-W] at U;rcases Iz.mp U with h | h
     ·exact jw.mp (Jd.mp h).1
     ·exact jw.mp h
    have O:(gD3 q∈((flat o).map gD3).reverse)↔q∈flat o:=by
     rw [J5,ID];exact⟨λ⟨a,ha,e⟩=>l8 e▸ha,λh=>⟨q,h,rfl⟩⟩
    refine zj (wB (Eo (i:=5) (j:=1) rfl rfl (cW (zr rfl ⟨bg _,?_⟩))));rw [NM rfl];by_cases B:q∈flat o
    ·rw [NN (O.mpr B),show (!true)=NV from rfl,NL Ie];refine d6 ⟨o,_,_,_,rfl,rfl,T,λj g I C=>?_⟩;rcases ML.mp I with h | h
     ·exact t j g h C
     ·rw [h,hq] at C;cases C;exact B
    ·rw [NP (λz=>B (O.mp z)),show (!false)=NS from rfl,NM rfl];refine vn (gy (zY (zt (b,c,N0,q) ?_)));walk_at "w";rintro _ ⟨r,l,rfl,L,R⟩;dsimp only at L R;have T2:Told b c N0 (o++[(r,l)]):=by
      by_cases hi:i<((yG b c N0).filter (inB b c N0)).length
      ·have hp:jv b c N0 q=NW:=by
        rw [<-W,Iy hi] at hq;exact (BC oq).mp (Jd.mp (Ir hq)).2
       have r0:=Gg L R hp;exact T.more L R B (λ_=>hp) λz=>by rw [r0] at z;cases z
      ·have all:∀ g,opG b c N0 g=NS->jv b c N0 g=NW->g∈flat o:=λg og hp=>by
        have U:g∈(yG b c N0).filter (inB b c N0):=Jd.mpr ⟨jw.mpr og,(BC og).mpr hp⟩;obtain⟨j,I⟩:=Jc U;obtain⟨J,_⟩:=Ig.mp I;refine t j g (by lia) ?_;rw [<-W,Iy J];exact I
       have r1:=DH T all L R B;refine T.more L R B (λz=>by rw [r1] at z;cases z) λ_ g C=>?_;have fr:=T.fresh L R B g C;obtain⟨j,I⟩:=Jc (jw.mpr (L.op g C));have hq':=hq;rw [<-W,IC (by lia)] at hq';have pw:(yG b c N0).Pairwise gLt:=by rw [bf];exact (oj _ _).filter _
       obtain⟨l1,e1⟩:=Ig.mp I;obtain⟨l2,e2⟩:=Ig.mp hq';rcases Nat.lt_trichotomy j (i - ((yG b c N0).filter (inB b c N0)).length) with h | h | h
       ·refine absurd (t (j+((yG b c N0).filter (inB b c N0)).length) g (by lia) ?_) fr;rw [<-W,IC (by lia),Nat.add_sub_cancel];exact I
       ·left;rw [<-e1,<- e2]
        congr 1
       ·right;rw [<-e1,<- e2];exact KL.mp pw _ _ l2 l1 h
     have hf:=T2.len gd;have Z:=T2.nd;rw [bK] at Z hf;have few:=T.few gd;refine zj ?_;refine vn (iP (i:=4) (j:=0) rfl rfl (by rw [Ib];lia) (cW (zr rfl ?_)));refine aN (mT (eG (zr rfl ?_)));walk_at "w";refine⟨λm X cs=>∃ x,X=[NQ (.dat (tab b)),NQ (.dat (.int N0)),NQ (.dat G),NQ (.dat (.list (S.map gD3))),NQ (.own (f.M.length+0)),NQ (.own (f.M.length+1)),NQ (.dat (gD3 q)),NQ (.dat (jI (r,l))),x]/\cs=[.lst ((o++[(r,l)]).map jI),.set ((flat o++l.take m).map gD3).reverse],?_,?_,?_⟩
     ·refine⟨_,rfl,?_⟩;rw [Lh,Jo,IM];rfl
     ·rintro m d _ _ y ⟨x,rfl,rfl⟩;rw [Iq] at y;cases C:l[m]? with
      | none=>rw [show (r,l).2[m]?=NW from C] at y;cases y
      | some g =>
       rw [show (r,l).2[m]?=NQ g from C] at y;cases y;have tk:l.take (m+1)=l.take m++[g]:=by
        rw [LN,C];rfl
       have sp:l=l.take m++g :: l.drop (m+1):=by
        obtain⟨J,e⟩:=Ig.mp C;rw [<-e,<- MC J,Lc]
       have hnew:g∉flat o++l.take m:=λz=>by
        have Y:(flat o++l).Nodup:=Z;rw [sp,<- J0] at Y;exact (Jw.mp Y).2.2 g z g (Ik ..) rfl
       have len:(((flat o++l.take m).map gD3).reverse).length<300:=by
        rw [Nr,Ib,IE,Jt];have:(flat o++l).length<=98:=hf;rw [IE] at this;lia
       refine zj (Ep (i:=5) (j:=1) rfl rfl len (cW (zr rfl ⟨bg _,λz=>?_,λ_=>?_⟩)))
       ·rw [J5,ID] at z;obtain⟨a,ha,e⟩:=z;exact absurd (l8 e▸ha) hnew
       ·refine⟨_,rfl,?_⟩;show [OC.lst _,OC.set (gD3 g :: ((flat o++l.take m).map gD3).reverse)]=_;rw [tk,<- J0,IM (l₁:=flat o++l.take m),Ks];rfl
     ·rintro _ _ ⟨x,rfl,rfl⟩;refine⟨o++[(r,l)],_,_,_,rfl,?_,T2,λj g I C=>?_⟩
      ·rw [Ib,show (r,l).2.length=l.length from rfl,Jk,bK]
      ·rw [bK];rcases ML.mp I with h | h
       ·exact IY _ (t j g h C)
       ·rw [h,hq] at C;cases C;exact IF _ (LP R)
  ·rintro _ _ ⟨o,u,v,x,rfl,rfl,T,t⟩;have few:=T.few gd;refine lB (gk (mZ "str" (zr (i:=4) (d:=.list (o.map jI)) ?_ ⟨_,rfl,BA T,by rw [Ib];lia,.inl (by rw [Ib];lia),λes pm up=>?_⟩)))
   ·show NQ (freed _ _ _)=_;simp [freed]
   ·obtain⟨us,p,rfl⟩:=perm_map_inv pm o rfl;refine⟨us,rfl,T.perm p,λg og=>?_,up⟩;have U:g∈S:=by rw [<-W];exact IF _ (jw.mpr og)
    obtain⟨j,I⟩:=Jc U;obtain⟨J,_⟩:=Ig.mp I;exact (p.flatMap_right _).mem_iff.mpr (t j g (by rw [Ib];exact J) I)
section
variable {NI:Ot} {wd:Nat} {N0:Int}
theorem AB {q:Bool} {l:List Gt} (L:LineOk NI wd N0 q l) {t:Bool×List Gt} (T:LineOk NI wd N0 t.1 t.2) (st:md NI wd N0 t) {h:Gt} (p:h∈l) (e:h∈t.2):∀ g∈l,g∈t.2:=by
 obtain⟨j,d⟩:=Jc p;obtain⟨m,_⟩:=Ig.mp d;have f:∀ n i,i=j+n->∀ g,l[i]?=NQ g->g∈t.2:=λn=>by
  induction n with
  | zero =>
   intro i b g a;rw [b,Nat.add_zero,d] at a;cases a;exact e
  | succ n ih =>
   intro i b g a;obtain⟨o,_⟩:=Ig.mp a;have c:l[j+n]?=NQ l[j+n]:=Ia (by lia);rw [show i=j+n+1 by lia] at a;exact eT T (ih _ rfl _ c) (L.ch _ _ _ c a)
 have r:∀ n i,i+n=j->∀ g,l[i]?=NQ g->g∈t.2:=λn=>by
  induction n with
  | zero =>
   intro i b g a;rw [show i=j by lia,d] at a;cases a;exact e
  | succ n ih =>
   intro i b g a;have c:l[i+1]?=NQ l[i+1]:=Ia (by lia);exact eS T st (L.op g (Ir a)) (ih (i+1) (by lia) _ c) (L.ch i _ _ a c)
 intro g a;obtain⟨i,b⟩:=Jc a;by_cases s:j<=i
 ·exact f (i - j) i (by lia) g b
 ·exact r (j - i) i (by lia) g b
theorem gR:∀ {l m:Oo},(∀ d∈l,zD d=NS)->(l.Pairwise λd e=>ltD d e=NS)->(m.Pairwise λd e=>ltD d e=NS)->(∀ d,d∈l↔d∈m)->l=m
 | [],[],_,_,_,_=>rfl
 | [],b :: m,_,_,_,h=>nomatch (h b).mpr (Ik ..)
 | a :: l,[],_,_,_,h=>nomatch (h a).mp (Ik ..)
 | a :: l,b :: m,pl,p,q,h=>by
  obtain⟨i,o⟩:=KG.mp p;obtain⟨g,j⟩:=KG.mp q;have f:=pl a (Ik ..);have n:=pl b ((h b).mpr (Ik ..));have r:a=b:=by
   rcases Iv.mp ((h a).mp (Ik ..)) with e | e
   ·exact e
   ·rcases Iv.mp ((h b).mpr (Ik ..)) with e' | e'
    ·exact e'.symm
    ·have:=kT _ _ _ f n f (i b e') (g a e);rw [vJ a f] at this;cases this
  subst r;rw [gR (λd c=>pl d (Ii _ c)) o j λd=>?_];constructor
  ·intro c;rcases Iv.mp ((h d).mp (Ii _ c)) with e | e
   ·have:=i d c;rw [e,vJ a f] at this;cases this
   ·exact e
  ·intro c;rcases Iv.mp ((h d).mpr (Ii _ c)) with e | e
   ·have:=g d c;rw [e,vJ a f] at this;cases this
   ·exact e
end
abbrev Pt:=Int×Int
noncomputable def pD (p:Pt):NR:=.tuple [.int p.1,.int p.2]
theorem aF {a b:Pt} (h:pD a=pD b):a=b:=by
 obtain⟨x,y⟩:=a;obtain⟨d,c⟩:=b;unfold pD at h;simp at h;simp [h]
theorem jo (p:Pt):eY (pD p):=⟨⟨rfl,IG rfl⟩,_,rfl⟩
theorem aG {l:List Pt} {p:Pt}:pD p∈l.map pD↔p∈l:=by
 rw [ID];exact⟨λ⟨q,a,e⟩=>aF e▸a,λh=>⟨p,h,rfl⟩⟩
theorem Gj {l:List Pt} (nd:l.Nodup):SortOk "int" (l.map pD) where
 plain:=λd c=>by obtain⟨g,_,rfl⟩:=ID.mp c;rfl
 head:=λd c=>by obtain⟨g,_,rfl⟩:=ID.mp c;rfl
 cmp:=λd c e j=>by
  obtain⟨⟨x,y⟩,_,rfl⟩:=ID.mp c;obtain⟨⟨i,f⟩,_,rfl⟩:=ID.mp j;show vI (.tuple [.int x,.int y]) (.tuple [.int i,.int f])=NS;simp only [vI,qv];split
  ·split <;> rfl
  ·rfl
 depth:=λd c=>by obtain⟨g,_,rfl⟩:=ID.mp c;exact IG rfl
 nd:=JF.mpr (nd.imp λ{a b} h e=>h (aF e))
theorem xq (l:List Pt):∀ d∈l.map pD,zD d=NS:=λd a=>by obtain⟨g,_,rfl⟩:=ID.mp a;rfl
theorem uv {l m:List Pt} (p:(l.map pD).Pairwise λd e=>ltD d e=NS) (q:(m.map pD).Pairwise λd e=>ltD d e=NS) (h:∀ x,x∈l↔x∈m):l=m:=by
 have e:l.map pD=m.map pD:=gR (xq l) p q λd=>by
  constructor
  ·intro b;obtain⟨x,a,rfl⟩:=ID.mp b;exact aG.mpr ((h x).mp a)
  ·intro b;obtain⟨x,a,rfl⟩:=ID.mp b;exact aG.mpr ((h x).mpr a)
 exact (List.map_inj_right λ_ _=>aF).mp e
section
variable (NI:Ot) (wd:Nat) (N0:Int)
noncomputable def inP (p:Pt):Bool:=yb NI wd p.1 p.2
noncomputable def hiP (p:Pt):Bool:=hiB NI N0 p.1 p.2
noncomputable def nbL (p:Pt):List Pt:=[(p.1 - 1,p.2),(p.1,p.2 - 1),(p.1,p.2+1),(p.1+1,p.2)]
noncomputable def caL (p:Pt):List Pt:=[(p.1 - 1,p.2 - 1),(p.1 - 1,p.2),(p.1,p.2 - 1),(p.1,p.2)]
noncomputable def asl (p c:Pt):Pt:=(2 * c.1+1 - p.1,2 * c.2+1 - p.2)
noncomputable def va (c:Pt):Bool:=zS NI wd c.1 c.2
noncomputable def jM (p:Pt):List Pt:=(((nbL p).filter (inP NI wd)).filter λq=>hiP NI N0 q == hiP NI N0 p)++((((caL p).filter (va NI wd)).filter λc=>yV NI wd N0 c.1 c.2 && (jV NI N0 c.1 c.2 == hiP NI N0 p)).map (asl p))
inductive Reach (s:Pt):Pt->Prop where
 | refl:Reach s s
 | step {p q:Pt}:Reach s p->q∈jM NI wd N0 p->Reach s q
end
section
variable {NI:Ot} {wd:Nat} {N0:Int}
theorem gS {a b:Int} (c:zS NI wd a b=NS) (h:yV NI wd N0 a b=NS):hiB NI N0 (a+1) b=!hiB NI N0 a b/\hiB NI N0 a (b+1)=!hiB NI N0 a b/\hiB NI N0 (a+1) (b+1)=hiB NI N0 a b:=by
 unfold yV cg opG at h;simp only [Lr,M0,L5,Io] at h;rw [dv c,gM c,dw c,dy c] at h
 revert h
 cases hiB NI N0 a b <;> cases hiB NI N0 (a+1) b <;> cases hiB NI N0 a (b+1) <;> cases hiB NI N0 (a+1) (b+1) <;> decide
theorem jf {p q:Pt}:q∈nbL p↔(q=(p.1 - 1,p.2) \/ q=(p.1,p.2 - 1) \/ q=(p.1,p.2+1) \/ q=(p.1+1,p.2)):=by
 unfold nbL;simp only [Iv,Jy,or_false]
theorem aH {p q:Pt} (h:q∈nbL p):p∈nbL q:=by
 rw [jf] at h ⊢;obtain⟨x,y⟩:=p;rcases h with rfl | rfl | rfl | rfl
 ·exact .inr (.inr (.inr (by simp)))
 ·exact .inr (.inr (.inl (by simp)))
 ·exact .inr (.inl (by simp))
 ·exact .inl (by simp)
theorem Gk {p c:Pt}:c∈caL p↔(c=(p.1 - 1,p.2 - 1) \/ c=(p.1 - 1,p.2) \/ c=(p.1,p.2 - 1) \/ c=(p.1,p.2)):=by
 unfold caL;simp only [Iv,Jy,or_false]
theorem cD {p c:Pt}:c∈caL p↔((p.1=c.1 \/ p.1=c.1+1)/\(p.2=c.2 \/ p.2=c.2+1)):=by
 rw [Gk];obtain⟨x,y⟩:=p;obtain⟨a,b⟩:=c;simp only [Prod.mk.injEq];lia
theorem DJ (p c:Pt):asl (asl p c) c=p:=by
 obtain⟨x,y⟩:=p;unfold asl;simp only [Prod.mk.injEq];lia
theorem Gm {p c:Pt} (h:c∈caL p):c∈caL (asl p c):=by
 rw [cD] at h ⊢;unfold asl;dsimp only;lia
theorem sA {p c:Pt} (h:c∈caL p) (m:va NI wd c=NS) (x:yV NI wd N0 c.1 c.2=NS):hiP NI N0 (asl p c)=hiP NI N0 p/\inP NI wd (asl p c)=NS:=by
 obtain⟨f,e,d⟩:=gS m x;obtain⟨l,j,i,g⟩:=cell_in m;obtain⟨a,b⟩:=c;obtain⟨u,v⟩:=p;rw [cD] at h;dsimp only at h f e d l j i g;unfold hiP inP asl;dsimp only;obtain⟨o,n⟩:=h;rcases o with rfl | rfl <;> rcases n with rfl | rfl
 ·rw [show 2 * u+1 - u=u+1 by lia,show 2 * v+1 - v=v+1 by lia];exact⟨d,i⟩
 ·rw [show 2 * u+1 - u=u+1 by lia,show 2 * b+1 - (b+1)=b by lia];exact⟨by rw [f,e],j⟩
 ·rw [show 2 * a+1 - (a+1)=a by lia,show 2 * v+1 - v=v+1 by lia];exact⟨by rw [f,e],g⟩
 ·rw [show 2 * a+1 - (a+1)=a by lia,show 2 * b+1 - (b+1)=b by lia];exact⟨d.symm,l⟩
theorem mem_join {p q:Pt}:q∈jM NI wd N0 p↔((q∈nbL p/\inP NI wd q=NS/\hiP NI N0 q=hiP NI N0 p) \/ ∃ c,c∈caL p/\va NI wd c=NS/\yV NI wd N0 c.1 c.2=NS/\jV NI N0 c.1 c.2=hiP NI N0 p/\q=asl p c):=by
 unfold jM;rw [Iz,Jd,Jd,ID];constructor
 ·rintro (⟨⟨d,a⟩,b⟩ | ⟨c,hc,rfl⟩)
  ·exact .inl ⟨d,a,by simpa using b⟩
  ·obtain⟨d,a⟩:=Jd.mp hc;obtain⟨b,e⟩:=Jd.mp d;rw [Io] at a;exact .inr ⟨c,b,e,a.1,by simpa using a.2,rfl⟩
 ·rintro (⟨d,a,b⟩ | ⟨c,d,a,b,e,rfl⟩)
  ·exact .inl ⟨⟨d,a⟩,by simpa using b⟩
  ·refine .inr ⟨c,Jd.mpr ⟨Jd.mpr ⟨d,a⟩,?_⟩,rfl⟩;rw [b,e];simp
theorem aI {p q:Pt} (h:q∈jM NI wd N0 p):inP NI wd q=NS/\hiP NI N0 q=hiP NI N0 p:=by
 rcases mem_join.mp h with⟨_,b,a⟩ | ⟨c,d,b,a,_,rfl⟩
 ·exact⟨b,a⟩
 ·exact⟨(sA d b a).2,(sA d b a).1⟩
theorem xr {p q:Pt} (e:inP NI wd p=NS) (h:q∈jM NI wd N0 p):p∈jM NI wd N0 q:=by
 rcases mem_join.mp h with⟨b,d,a⟩ | ⟨c,b,d,a,f,rfl⟩
 ·exact mem_join.mpr (.inl ⟨aH b,e,a.symm⟩)
 ·exact mem_join.mpr (.inr ⟨c,Gm b,d,a,f.trans (sA b d a).1.symm,(DJ p c).symm⟩)
theorem Reach.trans {s p q:Pt} (h:Reach NI wd N0 s p) (h':Reach NI wd N0 p q):Reach NI wd N0 s q:=by
 induction h' with
 | refl=>exact h
 | step _ a ih=>exact ih.step a
theorem Reach.ins {s p:Pt} (b:inP NI wd s=NS) (h:Reach NI wd N0 s p):inP NI wd p=NS/\hiP NI N0 p=hiP NI N0 s:=by
 induction h with
 | refl=>exact⟨b,rfl⟩
 | step _ a ih=>exact⟨(aI a).1,(aI a).2.trans ih.2⟩
theorem Reach.symm {s p:Pt} (a:inP NI wd s=NS) (h:Reach NI wd N0 s p):Reach NI wd N0 p s:=by
 induction h with
 | refl=>exact .refl
 | step c b ih=>exact (Reach.refl.step (xr (c.ins a).1 b)).trans ih
structure Reg (NI:Ot) (wd:Nat) (N0:Int) (r:Bool×List Pt) (h:Pt):Prop where
 hd:r.2.head?=NQ h
 up:(r.2.map pD).Pairwise λd e=>ltD d e=NS
 mem:∀ q,q∈r.2↔Reach NI wd N0 h q
 inn:inP NI wd h=NS
 hi:r.1=hiP NI N0 h
structure Regs (NI:Ot) (wd:Nat) (N0:Int) (rs:List (Bool×List Pt)):Prop where
 reg:∀ r∈rs,∃ h,Reg NI wd N0 r h
 all:∀ p,inP NI wd p=NS->∃ r∈rs,p∈r.2
 ord:rs.Pairwise λa b=>∀ p q,a.2.head?=NQ p->b.2.head?=NQ q->ltD (pD p) (pD q)=NS
theorem DK {r b:Bool×List Pt} {h h':Pt} (R:Reg NI wd N0 r h) (a:Reg NI wd N0 b h') {p:Pt} (g:p∈r.2) (c:p∈b.2):r=b:=by
 have f:=(R.mem p).mp g;have d:=(a.mem p).mp c;have e:r.2=b.2:=uv R.up a.up λx=>by
  rw [R.mem,a.mem];exact⟨λz=>d.trans ((f.symm R.inn).trans z),λz=>f.trans ((d.symm a.inn).trans z)⟩
 have i:h=h':=by
  have:=R.hd;rw [e,a.hd] at this;exact (N1 this).symm
 exact K9 (by rw [R.hi,a.hi,i]) e
noncomputable def y7 (t n:Nat):List Pt:=(IQ n).flatMap λ(x:Nat)=>(IQ t).map λ(y:Nat)=>((x:Int),(y:Int))
theorem dC (t n:Nat):qB t n=(y7 t n).map pD:=by
 unfold qB y7;rw [MQ]
 congr 1
 funext x
 rw [JB];rfl
theorem jm {p:Pt}:p∈y7 NI.length wd↔inP NI wd p=NS:=by
 unfold y7 inP yb;rw [Jl];constructor
 ·rintro⟨x,b,h⟩;obtain⟨y,a,rfl⟩:=ID.mp h;rw [Jb] at b a;simp only [Io,decide_eq_true_eq];lia
 ·intro h;simp only [Io,decide_eq_true_eq] at h;obtain⟨u,v⟩:=p;dsimp only at h;refine⟨u.toNat,Jb.mpr (by lia),ID.mpr ⟨v.toNat,Jb.mpr (by lia),?_⟩⟩;simp only [Prod.mk.injEq];lia
theorem vb (t:Nat):∀ n,(y7 t n).length=t * n
 | 0=>rfl
 | n+1=>by
  unfold y7;rw [K8,J7,IE];have:=vb t n;unfold y7 at this;rw [this];simp only [KS,List.flatMap_nil,Jo,Ib,Jh];rw [NF]
theorem BE {a b:Pt} (h:a.1<b.1 \/ (a.1=b.1/\a.2<b.2)):ltD (pD a) (pD b)=NS:=by
 obtain⟨x,y⟩:=a;obtain⟨c,f⟩:=b;dsimp only at h;show ltD (.tuple [.int x,.int y]) (.tuple [.int c,.int f])=NS;have e:∀ i j:Int,IX (.int i) (.int j)=(i == j):=λi j=>rfl;simp only [ltD,ltL,e,beq_iff_eq];by_cases d:x=c
 ·rw [NM d,NL (by lia)];exact NN (by lia)
 ·rw [NL d];exact NN (by lia)
theorem uw (t n:Nat):((y7 t n).map pD).Pairwise λd e=>ltD d e=NS:=by
 rw [JF];unfold y7;refine l3 n (λx _=>?_) λx c j _ a g b f=>?_
 ·rw [JF];refine List.Pairwise.imp (λ{a b} h=>?_) MX;exact BE (a:=((x:Int),(a:Int))) (b:=((x:Int),(b:Int))) (.inr ⟨rfl,by show (a:Int)<b;lia⟩)
 ·obtain⟨y,_,rfl⟩:=ID.mp g;obtain⟨i,_,rfl⟩:=ID.mp f;exact BE (.inl (by show (x:Int)<c;lia))
theorem aJ (g:Good wd NI) {l:List Pt} (b:l.Nodup) (h:∀ p∈l,inP NI wd p=NS):l.length<=49:=by
 have c:∀ (l m:List Pt),l.Nodup->(∀ x∈l,x∈m)->l.length<=m.length:=λl=>by
  induction l with
  | nil=>intro m _ _;exact IV _
  | cons a l ih =>
   intro m b sub;have i:=sub a (Ik ..);have f:=Jp.mp b;have n:=Lu i;have e:0<m.length:=LO i;have:=ih (m.erase a) f.2 (λy d=>(Lg (λ(z:y=a)=>f.1 (z▸d))).mpr (sub y (Ii _ d)));rw [IJ];lia
 have j:=c l (y7 NI.length wd) b λp e=>jm.mpr (h p e);rw [vb] at j;exact IS j (Kc g.h2 g.w2)
end
structure Seek (NI:Ot) (wd:Nat) (N0:Int) (st:Pt) (fs ws:List Pt):Prop where
 nd:fs.Nodup
 wn:ws.Nodup
 fst:st∈fs
 re:∀ p∈fs,Reach NI wd N0 st p
 sub:∀ p∈ws,p∈fs
 cl:∀ p∈fs,p∉ws->∀ q∈jM NI wd N0 p,q∈fs
theorem Seek.done {NI:Ot} {wd:Nat} {N0:Int} {st:Pt} {a:List Pt} (S:Seek NI wd N0 st a []) (q:Pt):q∈a↔Reach NI wd N0 st q:=by
 refine⟨S.re q,λh=>?_⟩
 induction h with
 | refl=>exact S.fst
 | step _ b ih=>exact S.cl _ ih Jy _ b
theorem Seek.turn {NI:Ot} {wd:Nat} {N0:Int} {st p:Pt} {f i c:List Pt} (S:Seek NI wd N0 st f (i++[p])) (nd:(f++c).Nodup) (s:∀ q∈c,q∈jM NI wd N0 p) (g:∀ q∈jM NI wd N0 p,q∈f++c):Seek NI wd N0 st (f++c) (i++c) where
 nd:=nd
 wn:=by
  obtain⟨v,m,l⟩:=Jw.mp nd;obtain⟨n,_,_⟩:=Jw.mp S.wn;exact Jw.mpr ⟨n,m,λa u b t=>l a (S.sub a (IY _ u)) b t⟩
 fst:=IY _ S.fst
 re:=λq d=>by
  rcases Iz.mp d with h | h
  ·exact S.re q h
  ·exact (S.re p (S.sub p (by simp))).step (s q h)
 sub:=λq d=>by
  rcases Iz.mp d with h | h
  ·exact IY _ (S.sub q (IY _ h))
  ·exact IF _ h
 cl:=λr o j q d=>by
  by_cases e:r=p
  ·rw [e] at d;exact g q d
  ·rcases Iz.mp o with h | h
   ·refine IY _ (S.cl r h (λz=>?_) q d);rcases Iz.mp z with z | z
    ·exact j (IY _ z)
    ·exact e (Iw.mp z)
   ·exact absurd (IF _ h) j
theorem Seek.few {NI:Ot} {wd:Nat} {N0:Int} {st:Pt} {a b:List Pt} (S:Seek NI wd N0 st a b) (g:Good wd NI) (d:inP NI wd st=NS):a.length<=49:=aJ g S.nd λp c=>((S.re p c).ins d).1
noncomputable abbrev ie (a:List Pt):Ow:=a.map λp=>(pD p,.bool NS)
theorem bL (a:List Pt):(ie a).map (·.1)=a.map pD:=by rw [JB];rfl
theorem BF {a:List Pt} {q:Pt} (h:q∉a):dput (pD q) (.bool NS) (ie a)=ie (a++[q]):=by
 unfold dput;rw [NL (by rw [bL,aG];exact h)];unfold ie;rw [IM];rfl
noncomputable def oC (r:Bool×List Pt):NR:=.tuple [.str (if r.1=NS then "high" else "low"),.tuple (r.2.map pD)]
abbrev TP:=Ot×Nat×Int×Int
abbrev Gn (K:Ih):Sp:=spD K 3 (λ(c:TP) a=>a=[.dat (tab c.1),.dat (.int c.2.2.1),.dat (.int c.2.2.2)]/\Good c.2.1 c.1) λc r=>r=.list (((nbL (c.2.2.1,c.2.2.2)).filter (inP c.1 c.2.1)).map pD)
theorem Hn (F:Def K mg "neighbours" qG pj) (c:FnIn P w K mg base k "has_point" pj (ug K)):FnIn P w K mg base (k+1) "neighbours" pj (Gn K):=by
 refine F.ok bV rfl λG r A d s H E p=>⟨_,(ze (zL (i:=3) bV.nd rfl (N2 rfl) (yi (zc (zH (zc (zA yK (pv 1) zp) (zc (pv 2) zd))) (zc (zH (zc (pv 1) (zc (zA yK (pv 2) zp) zd))) (zc (zH (zc (pv 1) (zc (zA yd (pv 2) zp) zd))) (zc (zH (zc (zA yd (pv 1) zp) (zc (pv 2) zd))) zd)))))) (zm (zz (yq (N:=pC) (own:=2) (fr:=[0]) (by walk_at "c") rfl (zK (K:=K) rfl (pv 3)) (λ_ _ _ _=>(zJ (K:=K) (n:=2) rfl rfl (zh (zf (i:=0) (show (pC:Oa).Nodup by decide +kernel)) (zh (zf (i:=1) (show (pC:Oa).Nodup by decide +kernel)) zF)))) (λ_ _ _ _=>(jW (yn (K:=K) rfl (zg c p rfl (zc (pv 2) (zc (pv 0) (zc (pv 1) zd)))) (λ_=>rfl)))) (λ_ _ _ _=>(zH (zc (pv 0) (zc (pv 1) zd)))) rfl rfl (λ_=>rfl))))),?_⟩;rintro f t ⟨j,l,x,y⟩ z ⟨rfl,g⟩
 try dsimp only [zV,zk]
 dsimp only at *;refine vR (λo=>o=[NQ (.dat (tab j)),NQ (.dat (.int x)),NQ (.dat (.int y)),NQ (.dat (.list ((nbL (x,y)).map pD)))]) ?_ ?_
 ·walk_at "w";rfl
 rintro _ rfl;refine yD (PEdO.ped (cq (A:=pD) (B:=pD) (inP j l) (nbL (x,y)) (yg (zr rfl ⟨_,rfl,rfl,IG rfl,?_,rfl⟩))));rintro D ⟨a,b⟩ m I C q e;obtain⟨v,u,rfl⟩:=q.two;refine yo rfl (zq (zj (zq (zj (zT (ji (zt (j,l,a,b) ?_)))))));walk_at "w";rintro _ rfl;refine⟨_,rfl,rfl,yA (λh=>?_) λh=>?_⟩
 ·refine yx e ?_;walk_at "w";exact⟨⟨[_,_],rfl,rfl⟩,rfl⟩
 ·exact⟨[_,_],rfl,rfl⟩
abbrev Ho (K:Ih):Sp:=spD K 3 (λ(c:TP) a=>a=[.dat (tab c.1),.dat (.int c.2.2.1),.dat (.int c.2.2.2)]/\Good c.2.1 c.1) λc r=>r=.list (((caL (c.2.2.1,c.2.2.2)).filter (va c.1 c.2.1)).map pD)
theorem Hq (F:Def K mg "cells_at" ar pj) (c:FnIn P w K mg base k "has_cell" pj (l4 K)):FnIn P w K mg base (k+1) "cells_at" pj (Ho K):=by
 refine F.ok eP rfl λG r A d s H E p=>⟨_,(ze (zL (i:=3) eP.nd rfl (N2 rfl) (yi (zc (zH (zc (zA yK (pv 1) zp) (zc (zA yK (pv 2) zp) zd))) (zc (zH (zc (zA yK (pv 1) zp) (zc (pv 2) zd))) (zc (zH (zc (pv 1) (zc (zA yK (pv 2) zp) zd))) (zc (zH (zc (pv 1) (zc (pv 2) zd))) zd)))))) (zm (zz (yq (N:=pC) (own:=2) (fr:=[0]) (by walk_at "c") rfl (zK (K:=K) rfl (pv 3)) (λ_ _ _ _=>(zJ (K:=K) (n:=2) rfl rfl (zh (zf (i:=0) (show (pC:Oa).Nodup by decide +kernel)) (zh (zf (i:=1) (show (pC:Oa).Nodup by decide +kernel)) zF)))) (λ_ _ _ _=>(jW (yn (K:=K) rfl (zg c p rfl (zc (pv 2) (zc (pv 0) (zc (pv 1) zd)))) (λ_=>rfl)))) (λ_ _ _ _=>(zH (zc (pv 0) (zc (pv 1) zd)))) rfl rfl (λ_=>rfl))))),?_⟩;rintro f t ⟨j,l,x,y⟩ z ⟨rfl,g⟩
 try dsimp only [zV,zk]
 dsimp only at *;refine vR (λo=>o=[NQ (.dat (tab j)),NQ (.dat (.int x)),NQ (.dat (.int y)),NQ (.dat (.list ((caL (x,y)).map pD)))]) ?_ ?_
 ·walk_at "w";rfl
 rintro _ rfl;refine yD (PEdO.ped (cq (A:=pD) (B:=pD) (va j l) (caL (x,y)) (yg (zr rfl ⟨_,rfl,rfl,IG rfl,?_,rfl⟩))));rintro D ⟨a,b⟩ m I C q e;obtain⟨v,u,rfl⟩:=q.two;refine yo rfl (zq (zj (zq (zj (zT (ji (zt (j,l,a,b) ?_)))))));walk_at "w";rintro _ rfl;refine⟨_,rfl,rfl,yA (λh=>?_) λh=>?_⟩
 ·refine yx e ?_;walk_at "w";exact⟨⟨[_,_],rfl,rfl⟩,rfl⟩
 ·exact⟨[_,_],rfl,rfl⟩
abbrev TC:=Ot×Nat×Int×Pt
abbrev Hr (c:TC) (xs:List DV):Prop:=xs=[.dat (tab c.1),.dat (.int c.2.2.1),.dat (pD c.2.2.2)]/\Good c.2.1 c.1/\inP c.1 c.2.1 c.2.2.2=NS
abbrev BG (K:Ih):Sp:=spD K 3 Hr λc r=>r=.list ((jM c.1 c.2.1 c.2.2.1 c.2.2.2).map pD)
theorem oD {a:Type} {p q:a->Bool} {l:List a} {n:Nat} (h:l.length<=n):((l.filter p).filter q).length<=n:=IS (Jq _ _) (IS (Jq _ _) h)
theorem DL (F:Def K mg "joined" dm pA) (u:FnIn P w K mg base k "stands_high" pA (et K)) (I:FnIn P w K mg base k "neighbours" pj (Gn K)) (z:FnIn P w K mg base k "cells_at" pj (Ho K))
  (C:FnIn P w K mg base k "is_crossed" pq (eA K)) (G:FnIn P w K mg base k "has_high_middle" pq (Bn K)):FnIn P w K mg base (k+1) "joined" pA (BG K):=by
 refine F.ok qP rfl λZ S A J s H E m=>⟨_,(ze (z8 (pv 2) (zJ (K:=K) (n:=2) rfl rfl (zh (zf (i:=3) qP.nd rfl (N3 rfl) (N2 rfl)) (zh (zf (i:=4) qP.nd rfl (N3 rfl) (N2 rfl)) zF)))) (ze (zL (i:=5) qP.nd rfl (N3 rfl) (zg u m rfl (zc (pv 0) (zc (pv 1) (zc (pv 2) zd))))) (ze (yY (i:=6) (N:=["other","rows","cut","high"]) (own:=1) (fr:=[0,1,5]) (by walk_at "c") rfl qP.nd rfl (N2 rfl) (zK (K:=K) rfl (zg I m rfl (zc (pv 0) (zc (pv 3) (zc (pv 4) zd))))) (λ_ _ _ _=>(zf (i:=0) (show (["other","rows","cut","high"]:Oa).Nodup by decide +kernel) rfl (N2 rfl) (N3 rfl))) (λ_ _ _ _=>(jW (zR (jD (K:=K) rfl m.units) (zg u m rfl (zc (pv 1) (zc (pv 2) (zc (pv 0) zd)))) (pv 3) (z9 _)))) (λ_ _ _ _=>(pv 0)) rfl rfl (λ_=>rfl) (N2 rfl) rfl) (ze (yY (i:=7) (N:=qc) (own:=2) (fr:=[0,1,3,4,5]) (by walk_at "c") rfl qP.nd rfl (N2 rfl) (zK (K:=K) rfl (zg z m rfl (zc (pv 0) (zc (pv 3) (zc (pv 4) zd))))) (λ_ _ _ _=>(zJ (K:=K) (n:=2) rfl rfl (zh (zf (i:=0) (show (qc:Oa).Nodup by decide +kernel)) (zh (zf (i:=1) (show (qc:Oa).Nodup by decide +kernel)) zF)))) (λ_ _ _ _=>(jW (PW.pt (kA (yn (K:=K) rfl (zg C m rfl (zc (pv 2) (zc (pv 3) (zc (zH (zc (pv 0) (zc (pv 1) zd))) zd)))) (λ_=>rfl)) (fc (zR (jD (K:=K) rfl m.units) (zg G m rfl (zc (pv 2) (zc (pv 3) (zc (zH (zc (pv 0) (zc (pv 1) zd))) zd)))) (pv 6) (z9 _))))))) (λ_ _ _ _=>(zH (zc (zA yK (zA yd (zA qR zp (pv 0)) zp) (pv 4)) (zc (zA yK (zA yd (zA qR zp (pv 1)) zp) (pv 5)) zd)))) rfl rfl (λ_=>rfl) (N2 rfl) rfl) (zm (zz (zA (aS (K:=K) rfl) (pv 6) (pv 7)))))))),?_⟩;rintro f T ⟨d,j,e,⟨x,y⟩⟩ X ⟨rfl,g,W⟩
 try dsimp only [zV,zk]
 dsimp only at *;refine yt (zY (zr rfl (yo rfl (zq (zj (zq (zj (zT ?_))))))));refine vR (λt=>t=[NQ (.dat (tab d)),NQ (.dat (.int e)),NQ (.dat (pD (x,y))),NQ (.dat (.int x)),NQ (.dat (.int y)),NQ (.dat (.bool (hiP d e (x,y)))),NW,NW]) (zY (zt (d,j,e,x,y) ?_)) ?_
 ·walk_at "w";rintro _ rfl;exact zj rfl
 rintro _ rfl;refine vR (λt=>t=[NQ (.dat (tab d)),NQ (.dat (.int e)),NQ (.dat (pD (x,y))),NQ (.dat (.int x)),NQ (.dat (.int y)),NQ (.dat (.bool (hiP d e (x,y)))),NQ (.dat (.list ((((nbL (x,y)).filter (inP d j)).filter λq=>hiP d e q == hiP d e (x,y)).map pD))),NW])
  (zY (PEdO.ped (cq (A:=pD) (B:=pD) (λq=>hiP d e q == hiP d e (x,y)) ((nbL (x,y)).filter (inP d j)) (yg (zt (d,j,x,y) ?_))))) ?_
 ·walk_at "w";rintro _ rfl;refine⟨_,rfl,rfl,IS (Jq _ _) (IG rfl),?_,zj rfl⟩;rintro D ⟨a,b⟩ v R M L r;have Q:inP d j (a,b)=NS:=(Jd.mp M).2;obtain⟨O,rfl⟩:=L.one;refine zj (yr (qA (zt (d,j,e,a,b) ?_)));walk_at "w";rintro _ rfl;walk_at "w";refine yA (λh=>?_) λh=>?_
  ·refine yx r ?_;walk_at "w";exact⟨⟨[_],rfl,rfl⟩,rfl⟩
  ·exact⟨[_],rfl,rfl⟩
 rintro _ rfl;refine vR (λt=>t=[NQ (.dat (tab d)),NQ (.dat (.int e)),NQ (.dat (pD (x,y))),NQ (.dat (.int x)),NQ (.dat (.int y)),NQ (.dat (.bool (hiP d e (x,y)))),NQ (.dat (.list ((((nbL (x,y)).filter (inP d j)).filter λq=>hiP d e q == hiP d e (x,y)).map pD))),NQ (.dat (.list (((((caL (x,y)).filter (va d j)).filter λc=>yV d j e c.1 c.2 && (jV d e c.1 c.2 == hiP d e (x,y))).map (asl (x,y))).map pD)))])
  (zY (PEdO.ped (cq (A:=pD) (B:=λc=>pD (asl (x,y) c)) (λc=>yV d j e c.1 c.2 && (jV d e c.1 c.2 == hiP d e (x,y))) ((caL (x,y)).filter (va d j)) (yg (zt (d,j,x,y) ?_))))) ?_
 ·walk_at "w";rintro _ rfl;refine⟨_,rfl,rfl,IS (Jq _ _) (IG rfl),?_,zj (by rw [JB];rfl)⟩;rintro D ⟨a,b⟩ v R M L r;have Q:zS d j a b=NS:=(Jd.mp M).2;obtain⟨O,U,rfl⟩:=L.two;refine yo rfl (zq (zj (zq (zj (zT (sY (ji (zt (d,j,e,a,b) ?_))))))));walk_at "w";rintro _ rfl;refine⟨_,rfl,yA (λo=>?_) λo=>?_⟩
  ·have o:yV d j e a b=NS:=o;refine yr (qA (zt (d,j,e,a,b) ?_));walk_at "w";rintro _ rfl;walk_at "w";refine⟨by dsimp only;rw [o,Lb];rfl,yA (λh=>?_) λh=>?_⟩
   ·refine yx r ?_;walk_at "w";exact⟨⟨[_,_],rfl,rfl⟩,rfl⟩
   ·exact⟨[_,_],rfl,rfl⟩
  ·have o:yV d j e a b=NV:=o;exact⟨by dsimp only;rw [o,K1],⟨[_,_],rfl,rfl⟩⟩
 rintro _ rfl;refine yD (gj (zr rfl ⟨_,rfl,zr rfl ⟨_,rfl,?_,?_⟩⟩))
 ·rw [Ib,Ib,Ib];have o:=oD (p:=inP d j) (q:=λq=>hiP d e q == hiP d e (x,y)) (l:=nbL (x,y)) (n:=4) (Iu 4);have Y:=oD (p:=va d j) (q:=λc=>yV d j e c.1 c.2 && (jV d e c.1 c.2 == hiP d e (x,y))) (l:=caL (x,y)) (n:=4) (Iu 4);lia
 ·rw [<-IM];rfl
noncomputable def Hs (a:List OC):Nat:=match a with
 | [.dic kvs,.lst es]=>2 * (100 - kvs.length)+es.length
 | _=>0
abbrev sC (K:Ih):Sp:=spD K 3 Hr λc r=>∃ l:List Pt,r=.tuple (l.map pD)/\((l.map pD).Pairwise λd e=>ltD d e=NS)/\∀ q,q∈l↔Reach c.1 c.2.1 c.2.2.1 c.2.2.2 q
theorem DM (F:Def K mg "all_joined" qM pE) (X:mg "sorted"=NW) (Y:mg "tuple"=NW) (W:FnIn P w K mg base k "joined" pA (BG K)):FnIn P w K mg base (k+1) "all_joined" pE (sC K):=by
 refine F.ok jj rfl λfa cdv A Z s H E o=>⟨_,(ze (zL (i:=3) jj.nd rfl (N2 rfl) (CY (w:=w) (K:=K) rfl rfl o.units (pv 2) cH)) (ze (zL (i:=4) jj.nd rfl (N2 rfl) (yi (zc (pv 2) zd))) (ze (mD JA (yn (K:=K) rfl (pv 4) (λ_=>rfl)) (ze (zL (i:=5) jj.nd rfl (N2 rfl) (E4 J2 PySem.F.slot_list_pop PySem.F.type_list_pop E5 (pv 4))) (zm (y8 JA rfl (zK (K:=K) rfl (zg W o rfl (zc (pv 0) (zc (pv 1) (zc (pv 5) zd))))) (zf (i:=6) jj.nd) (zm (yL (zR (lG (w:=w) (K:=K) rfl rfl o.units) (pv 6) (pv 3) rfl) (ze (z8 cH (v8 (pv 3) (pv 6) (aU (w:=w) (K:=K) rfl rfl o.units))) (zm (yI (iE J2 Kd Ke qO (pv 4) (zc (pv 6) zd))))) z6)))))) (zm (zz (jO (ql (K:=K) rfl) rfl Y Kq (zc (zB (nE (w:=w) (K:=K) rfl rfl rfl o.units) rfl X Lv (zc (pv 3) zd)) zd))))))),?_⟩;rintro f xs ⟨u,y,v,st⟩ hl ⟨rfl,g,N⟩
 try dsimp only [zV,zk]
 dsimp only at *;refine lu (w:=w) (nu (C1 λp=>zr rfl ⟨jo st,Cw ⟨show 3<7 by decide,λD0=>?_⟩⟩));refine nu (bt (cR (zv (zr rfl (zP ⟨[pD st],rfl,IG rfl,show 4<7 by decide,λD1=>?_⟩)))));refine AS (λQ I=>∃ (J t:Option DV) (m:List Pt),Q=[NQ (.dat (tab u)),NQ (.dat (.int v)),NQ (.dat (pD st)),NQ (.own (f.M.length+0)),NQ (.own (f.M.length+1)),J,t]/\I=[.dic (ie m),.lst []]/\Seek u y v st m [])
  (tW (λQ I=>∃ (J t:Option DV) (m U:List Pt),Q=[NQ (.dat (tab u)),NQ (.dat (.int v)),NQ (.dat (pD st)),NQ (.own (f.M.length+0)),NQ (.own (f.M.length+1)),J,t]/\I=[.dic (ie m),.lst (U.map pD)]/\Seek u y v st m U) (λ_ I=>Hs I) ⟨NW,NW,[st],[st],rfl,rfl,?_⟩ ?_) ?_
 ·exact⟨by simp,by simp,Iw.mpr rfl,λp G=>by rw [Iw.mp G];exact .refl,λp G=>G,λp G nw=>absurd G nw⟩
 ·rintro _ _ ⟨J,t,m,U,rfl,rfl,S⟩;have few:=S.few g N;rcases List.eq_nil_or_concat U with rfl | ⟨n,p,rfl⟩
  ·refine t5 (ji (zr (i:=4) (d:=.list []) ?_ ⟨NV,rfl,?_⟩))
   ·show NQ (freed _ _ _)=_;simp [freed]
   ·rw [NL Ie];exact⟨J,t,m,rfl,rfl,S⟩
  ·rw [List.concat_eq_append] at S ⊢;have G:=S.sub p (by simp);have ipp:=((S.re p G).ins N).1;have fw:(n++[p]).length<=49:=aJ g S.wn λq C=>((S.re q (S.sub q C)).ins N).1;rw [IE] at fw;refine t5 (ji (zr (i:=4) (d:=.list ((n++[p]).map pD)) ?_ ⟨NS,?_,?_⟩))
   ·show NQ (freed _ _ _)=_;simp [freed]
   ·rw [IM];show NQ _=NQ _;simp
   ·rw [NM rfl];refine vn (Hd (i:=4) (j:=1) (es:=n.map pD) (d:=pD p) rfl (by rw [IM];rfl) ?_);refine aN (yg (zt (u,y,v,p) ?_));walk_at "w";rintro _ rfl;refine⟨_,rfl,λi Q I=>∃ (t:Option DV) (c:List Pt),Q=[NQ (.dat (tab u)),NQ (.dat (.int v)),NQ (.dat (pD st)),NQ (.own (f.M.length+0)),NQ (.own (f.M.length+1)),NQ (.dat (pD p)),t]/\I=[.dic (ie (m++c)),.lst ((n++c).map pD)]/\(m++c).Nodup/\(∀ q∈c,q∈jM u y v p)/\∀ q∈(jM u y v p).take i,q∈m++c,⟨t,[],rfl,?_,?_,?_,?_⟩,?_,?_⟩
    ·rw [Jo,Jo];rfl
    ·rw [Jo];exact S.nd
    ·exact λq C=>nomatch C
    ·exact λq C=>by rw [Lh] at C;cases C
    ·rintro i d _ _ T ⟨t,c,rfl,rfl,L,O,D⟩;rw [Iq] at T;cases eq:(jM u y v p)[i]? with
     | none=>rw [eq] at T;cases T
     | some q =>
      rw [eq] at T;cases T;have C:q∈jM u y v p:=Ir eq;have x:(m++c).length<=49:=aJ g L λr o=>by
       rcases Iz.mp o with h | h
       ·exact ((S.re r h).ins N).1
       ·exact (aI (O r h)).1
      rw [IE] at x;have R:(jM u y v p).take (i+1)=(jM u y v p).take i++[q]:=by rw [JE,eq];rfl
      have dec:decide (pD q∈(ie (m++c)).map (·.1))=decide (q∈m++c):=by
       rw [bL];exact decide_eq_decide.mpr aG
      refine zj (wB (CZ (neg:=NS) (i:=3) (j:=0) rfl rfl (cW (zr rfl ⟨jo q,?_⟩))));rw [NM rfl,dec];refine yA (λh=>?_) λh=>?_
      ·have B:q∉m++c:=by simpa using h
       refine vn (nB (i:=3) (j:=0) rfl rfl (by rw [Ib,IE];lia) (Cw (zr rfl ⟨jo q,?_⟩)));refine iP (i:=4) (j:=1) rfl rfl (by rw [Ib,IE];lia) (cW (zr rfl ?_));refine⟨_,c++[q],rfl,?_,?_,?_,?_⟩
       ·rw [BF B,J0,<- J0 n,IM (l₁:=n++c)];rfl
       ·rw [<-J0];exact Jw.mpr ⟨L,by simp,λa ha b hb e=>B (by rw [Iw.mp hb] at e;exact e▸ha)⟩
       ·intro r o;rcases Iz.mp o with h | h
        ·exact O r h
        ·rw [Iw.mp h];exact C
       ·intro r o;rw [R] at o;rw [<-J0];rcases Iz.mp o with h | h
        ·exact IY _ (D r h)
        ·exact IF _ h
      ·have B:q∈m++c:=JS λz=>by rw [NP z] at h;cases h
       refine d6 ⟨_,c,rfl,rfl,L,O,λr o=>?_⟩;rw [R] at o;rcases Iz.mp o with h | h
       ·exact D r h
       ·rw [Iw.mp h];exact B
    ·rintro _ _ ⟨t,c,rfl,rfl,L,O,D⟩;rw [Ib] at D;rw [Jk] at D;refine⟨⟨_,t,m++c,n++c,rfl,rfl,S.turn L O D⟩,?_⟩;have x:=(S.turn L O D).few g N;show 2 * (100 - (ie (m++c)).length)+((n++c).map pD).length<2 * (100 - (ie m).length)+((n++[p]).map pD).length;simp only [Ib,IE,JJ] at x ⊢;lia
 rintro _ _ ⟨J,t,m,rfl,rfl,S⟩;have few:=S.few g N;refine AO (FE "int" (i:=3) (j:=0) rfl rfl (by rw [bL];exact Gj S.nd) (by rw [Ib];lia) λes pm up=>?_);rw [bL] at pm;obtain⟨l,pl,rfl⟩:=perm_map_inv pm m rfl;exact⟨l,rfl,up,λq=>by rw [pl.mem_iff];exact S.done q⟩
theorem xt {NI:Ot} {wd:Nat} {N0:Int} {st:Pt} {l:List Pt} (g:(l.map pD).Pairwise λd e=>ltD d e=NS) (c:∀ q,q∈l↔Reach NI wd N0 st q) (b:∀ q,Reach NI wd N0 st q->q=st \/ ltD (pD st) (pD q)=NS):l.head?=NQ st:=by
 have f:st∈l:=(c st).mpr .refl;cases l with
 | nil=>cases f
 | cons a l =>
  rcases Iv.mp f with e | e
  ·rw [e];rfl
  ·have h:=(KG.mp g).1 (pD st) (aG.mpr e);rcases b a ((c a).mp (Ik ..)) with e' | e'
   ·rw [e'];rfl
   ·have:=kT (pD a) (pD st) (pD a) rfl rfl rfl h e';rw [vJ _ rfl] at this;cases this
structure Sofar (NI:Ot) (wd:Nat) (N0:Int) (ps:List Pt) (rs:List (Bool×List Pt)) (ks:Oo):Prop where
 reg:∀ r∈rs,∃ h,Reg NI wd N0 r h/\h∈ps
 all:∀ p∈ps,∃ r∈rs,p∈r.2
 ord:rs.Pairwise λa b=>∀ p q,a.2.head?=NQ p->b.2.head?=NQ q->ltD (pD p) (pD q)=NS
 key:∀ p,pD p∈ks↔∃ r∈rs,p∈r.2
theorem Sofar.done {NI:Ot} {wd:Nat} {N0:Int} {a:List (Bool×List Pt)} {ks:Oo} (S:Sofar NI wd N0 (y7 NI.length wd) a ks):Regs NI wd N0 a :=
 ⟨λr b=>let⟨h,R,_⟩:=S.reg r b;⟨h,R⟩,λp c=>S.all p (jm.mpr c),S.ord⟩
theorem Sofar.more {NI:Ot} {wd:Nat} {N0:Int} {s:List Pt} {o:List (Bool×List Pt)} {ks:Oo} (S:Sofar NI wd N0 s o ks) {p:Pt} {F:List Pt} (e:y7 NI.length wd=s++p :: F) (H:pD p∉ks) {l:List Pt} (v:(l.map pD).Pairwise λd e=>ltD d e=NS) (g:∀ q,q∈l↔Reach NI wd N0 p q) :
  Sofar NI wd N0 (s++[p]) (o++[(hiP NI N0 p,l)]) (l.map pD++ks):=by
 have t:inP NI wd p=NS:=jm.mp (by rw [e];simp);have j:=uw NI.length wd;rw [e,IM,IL,Mc] at j;obtain⟨_,E,D⟩:=j;obtain⟨C,_⟩:=KG.mp E;have n:∀ q,Reach NI wd N0 p q->∀ r∈o,q∉r.2:=λq i r f c=>by
  obtain⟨h,R,_⟩:=S.reg r f;exact H ((S.key p).mpr ⟨r,f,(R.mem p).mpr (((R.mem q).mp c).trans (i.symm t))⟩)
 have least:∀ q,Reach NI wd N0 p q->q=p \/ ltD (pD p) (pD q)=NS:=λq i=>by
  have G:=(i.ins t).1;have c:=jm.mpr G;rw [e,Iz,Iv] at c;rcases c with h | h | h
  ·obtain⟨r,f,c⟩:=S.all q h;exact absurd c (n q i r f)
  ·exact .inl h
  ·exact .inr (C _ (aG.mpr h))
 have B:=xt v g least;have R:Reg NI wd N0 (hiP NI N0 p,l) p:=⟨B,v,g,t,rfl⟩;refine⟨λr f=>?_,λq i=>?_,?_,λq=>?_⟩
 ·rcases Iz.mp f with h | h
  ·obtain⟨L,u,m⟩:=S.reg r h;exact⟨L,u,IY _ m⟩
  ·rw [Iw.mp h];exact⟨p,R,by simp⟩
 ·rcases Iz.mp i with h | h
  ·obtain⟨r,f,c⟩:=S.all q h;exact⟨r,IY _ f,c⟩
  ·rw [Iw.mp h];exact⟨_,IF _ (Iw.mpr rfl),(g p).mpr .refl⟩
 ·refine Mc.mpr ⟨S.ord,by simp,λa J b I x y A z=>?_⟩;rw [Iw.mp I,B] at z;cases z;obtain⟨h,u,m⟩:=S.reg a J;rw [u.hd] at A;cases A;exact D _ (aG.mpr m) _ (Ik ..)
 ·rw [Iz,aG,S.key];constructor
  ·rintro (h | ⟨r,f,c⟩)
   ·exact⟨_,IF _ (Iw.mpr rfl),h⟩
   ·exact⟨r,IY _ f,c⟩
  ·rintro⟨r,f,c⟩;rcases Iz.mp f with h | h
   ·exact .inr ⟨r,h,c⟩
   ·rw [Iw.mp h] at c;exact .inl c
theorem Sofar.skip {NI:Ot} {wd:Nat} {N0:Int} {b:List Pt} {a:List (Bool×List Pt)} {ks:Oo} (S:Sofar NI wd N0 b a ks) {p:Pt} (h:pD p∈ks):Sofar NI wd N0 (b++[p]) a ks :=
 ⟨λr c=>let⟨h,R,m⟩:=S.reg r c;⟨h,R,IY _ m⟩,λq d=>by
  rcases Iz.mp d with h' | h'
  ·exact S.all q h'
  ·rw [Iw.mp h'];exact (S.key p).mp h,S.ord,S.key⟩
theorem Sofar.keys {NI:Ot} {wd:Nat} {N0:Int} {c:List Pt} {b:List (Bool×List Pt)} {ks a:Oo} (S:Sofar NI wd N0 c b ks) (h:∀ p,pD p∈a↔pD p∈ks):Sofar NI wd N0 c b a:=⟨S.reg,S.all,S.ord,λp=>(h p).trans (S.key p)⟩
theorem Sofar.nil {NI:Ot} {wd:Nat} {N0:Int}:Sofar NI wd N0 [] [] []:=⟨λ_ h=>(nomatch h),λ_ h=>(nomatch h),List.Pairwise.nil,λp=>⟨λh=>(nomatch h),λ⟨_,h,_⟩=>(nomatch h)⟩⟩
def xu (w:NX) (K:Ih) (f:Fx) (Ds:N8) (ts:TS) (i:zu) (l:List OC) (j:Nat) (R:Oo->Prop):Prop:=Sep f Ds->∀ (d:L2.St) (H g:Hp) (E:Ends),CM w K f Ds g i l d H ->
 (∀ D e c a b h,CM w K f Ds g c a b h->Ds[j]?=NQ D->a[j]?=NQ (.lst e)->R e->E.rt (.ref D) h)->ts E d H
section
variable {w:NX} {K:Ih} {f:Fx} {Ds:N8} {ρ:zu} {cs:List OC} {ts tu:TS} {te:TE} {R:Oo->Prop} {i j:Nat}
theorem Gp (h:PSm w K f Ds ts ρ cs { nx:=λa b=>xu w K f Ds tu a b j R,rt:=λ_=>False }):xu w K f Ds (jK ts tu) ρ cs j R:=λd g H e E x q =>
 h d g H e _ x (λa b c m l p=>p d c m e E l q) (λ_ _ _ _ _ _ _ _ z=>z.elim) (λ_ _ _ _ _ z=>z.elim) (λ_ _ _ _ _ z=>z.elim)
theorem Gq (d:j<Ds.length) (h:gx w K (f.withs Ds) te ρ λc=>i<ρ.length/\∀ D,xu w K f (Ds++[D]) ts (ρ.set i (NQ (.own (f.M.length+Ds.length)))) (cs++[c]) j R):xu w K f Ds (jK (ve te (yW i)) ts) ρ cs j R:=λo m H C E x q =>
 h m H _ x.env λc D l g b s ⟨t,p⟩ =>
  p D (o.more x.env.fd b) _ l l E (x.more g b s t) λB v n z a A y e u r=>by
   rw [Iy d] at e;exact q B v _ _ a A (x.less g b y) e (by rw [KU d];exact u) r
theorem Gr {es:Oo} (e:ρ[i]?=NQ (NQ (.own (f.M.length+j)))) (a:cs[j]?=NQ (.lst es)) (h:R es):xu w K f Ds (g9 (yB i)) ρ cs j R:=λg c H l E x q=>by
 have d:j<Ds.length:=by rw [<-x.len];exact (Ig.mp a).1
 have b:Ds[j]?=NQ Ds[j]:=Ia d;exact⟨_,jE e x b,q _ es ρ cs c H x b a h⟩
theorem Gs (h:gx w K f te ρ λc=>i<ρ.length/\∀ D,xu w K f [D] ts (ρ.set i (NQ (.own (f.M.length+0)))) [c] 0 R):PSn K f (jK (ve te (yW i)) ts) ρ R:=λd H E e q=>by
 have b:Sep f []:=⟨JC,(λ_ z=>nomatch z),(λ_ z=>nomatch z)⟩;have g:CM w K f [] H ρ [] d H:=⟨e,Same.refl _,λ_ _=>rfl,rfl,(λi D c z=>nomatch z)⟩;refine h d H _ e λc D m l a t ⟨u,p⟩=>?_;refine p D (b.more e.fd a) _ m m E (g.more l a t u) λI C o F n G y B A r=>?_;cases B;have z:=g.less l a y;obtain⟨s,x,v⟩:=y.own 0 D _ rfl A;exact q C D s G ⟨z.sm,z.env.fd,z.kp⟩ a x v r
end
theorem oE {NI:Ot} {wd:Nat} (g:Good wd NI) {ks:Oo} (j:ks.Nodup) (h:∀ d∈ks,∃ p,d=pD p/\inP NI wd p=NS):ks.length<=49:=by
 have c:∀ ks:Oo,(∀ d∈ks,∃ p,d=pD p/\inP NI wd p=NS)->∃ l:List Pt,ks=l.map pD/\∀ p∈l,inP NI wd p=NS:=λks=>by
  induction ks with
  | nil=>exact λ_=>⟨[],rfl,(λ_ z=>nomatch z)⟩
  | cons d ks ih =>
   intro h;obtain⟨p,rfl,m⟩:=h d (Ik ..);obtain⟨l,rfl,i⟩:=ih λe n=>h e (Ii _ n);exact⟨p :: l,rfl,λq f=>by
    rcases Iv.mp f with rfl | f
    ·exact m
    ·exact i q f⟩
 obtain⟨l,rfl,i⟩:=c ks h;rw [Ib];exact aJ g (Md _ (λa b z e=>z (by rw [e])) j) i
abbrev Ht (c:Ot×Nat×Int) (xs:List DV):Prop:=xs=[.dat (tab c.1),.dat (.int c.2.2)]/\Good c.2.1 c.1
abbrev BH (K:Ih):Sp:=spN K 2 Ht λc b=>∃ a,b=a.map oC/\Regs c.1 c.2.1 c.2.2 a/\a.length<=49
theorem DN (F:Def K mg "regions" bC pz) (O:mg "set"=NW) (T:FnIn P w K mg base k "ask_table" pf (bX K)) (Q:FnIn P w K mg base k "points" pf (vU K)) (U:FnIn P w K mg base k "all_joined" pE (sC K)) (R:FnIn P w K mg base k "stands_high" pA (et K)):FnIn P w K mg base (k+1) "regions" pz (BH K):=by
 refine F.okN jR rfl λfa cdv A Y s H E J=>⟨_,(ze (yI (zg T J rfl (zc (pv 0) zd))) (ze (zL (i:=2) jR.nd rfl (N2 rfl) (yi zd)) (ze (zL (i:=3) jR.nd rfl (N2 rfl) (fM (cX (w:=w) rfl) rfl O Nb)) (ze (y8 JA rfl (zK (K:=K) rfl (zg Q J rfl (zc (pv 0) zd))) (zf (i:=4) jR.nd) (zm (yL (zR (gz (w:=w) (K:=K) rfl rfl J.units) (pv 4) (pv 3) rfl) (ze (zL (i:=5) jR.nd rfl (N2 rfl) (zg U J rfl (zc (pv 0) (zc (pv 1) (zc (pv 4) zd))))) (ze (yI (iE J2 Kd Ke qO (pv 2) (zc (zH (zc (j8 (yn (K:=K) rfl (zg R J rfl (zc (pv 0) (zc (pv 1) (zc (pv 4) zd)))) (λ_=>rfl)) yC yC) (zc (pv 5) zd))) zd))) (zm (y8 JA rfl (cK (K:=K) rfl (pv 5)) (zf (i:=6) jR.nd) (zm (yI (AM (w:=w) rfl Mb Np (nA (w:=w) (K:=K) rfl rfl J.units) (pv 3) (zc (pv 6) zd)))))))) z6))) (zm (zz (pv 2))))))),?_⟩;rintro f xs ⟨c,n,u⟩ hl ⟨rfl,g⟩
 try dsimp only [zV,zk]
 dsimp only at *;refine vj (vG (zt (c,n) ?_));walk_at "w";rintro _ rfl;refine Gs (w:=w) (bt (Ej ⟨show 2<7 by decide,λD0=>?_⟩));refine Gq (show 0<1 by decide) (AN ⟨show 3<7 by decide,λD1=>?_⟩);refine Gp (aN (yg (zt (c,n) ?_)));walk_at "w";rintro _ rfl;dsimp only;rw [dC];have pl:(y7 c.length n).length<=49:=by rw [vb];exact Kc g.h2 g.w2
 refine⟨_,rfl,λi D I=>∃ (X W C:Option DV) (v:List (Bool×List Pt)) (t:Oo),D=[NQ (.dat (tab c)),NQ (.dat (.int u)),NQ (.own (f.M.length+0)),NQ (.own (f.M.length+1)),X,W,C]/\I=[.lst (v.map oC),.set t]/\Sofar c n u ((y7 c.length n).take i) v t/\v.length<=i/\t.Nodup/\∀ d∈t,∃ p,d=pD p/\inP c n p=NS,⟨_,_,_,[],[],rfl,rfl,by rw [Lh];exact .nil,Iu 0,JC,(λ_ z=>nomatch z)⟩,?_,?_⟩
 ·rintro i d _ _ o ⟨X,W,C,v,t,rfl,rfl,S,rl,kl,Z⟩;rw [Iq] at o;cases eq:(y7 c.length n)[i]? with
  | none=>rw [eq] at o;cases o
  | some p =>
   rw [eq] at o;cases o;have hil:=(Ig.mp eq).1;have ip:inP c n p=NS:=jm.mp (Ir eq);have tk:(y7 c.length n).take (i+1)=(y7 c.length n).take i++[p]:=by rw [JE,eq];rfl
   have sp:y7 c.length n=(y7 c.length n).take i++p :: (y7 c.length n).drop (i+1):=by
    have:=Ig.mp eq;rw [<-this.2,<- MC this.1,Lc]
   refine zj (wB (Eo (neg:=NS) (i:=3) (j:=1) rfl rfl (cW (zr rfl ⟨jo p,?_⟩))));rw [NM rfl];refine yA (λh=>?_) λh=>?_
   ·have hn:pD p∉t:=by simpa using h
    refine AS (λD I=>∃ l:List Pt,D=[NQ (.dat (tab c)),NQ (.dat (.int u)),NQ (.own (f.M.length+0)),NQ (.own (f.M.length+1)),NQ (.dat (pD p)),NQ (.dat (.tuple (l.map pD))),C]/\I=[.lst (v.map oC),.set t]/\((l.map pD).Pairwise λd e=>ltD d e=NS)/\∀ q,q∈l↔Reach c n u p q) (gy (zY (zt (c,n,u,p) ?_))) ?_
    ·walk_at "w";rintro _ ⟨l,rfl,N,y⟩;exact zj ⟨l,rfl,rfl,N,y⟩
    rintro _ _ ⟨l,rfl,rfl,N,y⟩;have S':=S.more sp hn N y;rw [<-tk] at S';have nd:l.Nodup:=Md _ (λa b (z:ltD (pD a) (pD b)=NS) e=>by rw [e,vJ _ rfl] at z;cases z) N;have ll:l.length<=49:=aJ g nd λq hq=>(((y q).mp hq).ins ip).1;refine AS (λD I=>D=[NQ (.dat (tab c)),NQ (.dat (.int u)),NQ (.own (f.M.length+0)),NQ (.own (f.M.length+1)),NQ (.dat (pD p)),NQ (.dat (.tuple (l.map pD))),C]/\I=[.lst ((v++[(hiP c u p,l)]).map oC),.set t]) (iP (i:=2) (j:=0) rfl rfl (by rw [Ib];lia) (cW (qk (zv (o3 (ji (zt (c,n,u,p.1,p.2) ?_)))))))  ?_
    ·walk_at "w";rintro _ rfl;refine⟨_,rfl,yA (λG=>?_) λG=>?_⟩
     ·have G:hiP c u p=NS:=G;walk_at "w";rw [G,IM];rfl
     ·have G:hiP c u p=NV:=G;walk_at "w";rw [G,IM];rfl
    rintro _ _ ⟨rfl,rfl⟩;refine aN (mT (zr rfl ⟨_,rfl,λj D I=>∃ (C:Option DV) (m:Oo),D=[NQ (.dat (tab c)),NQ (.dat (.int u)),NQ (.own (f.M.length+0)),NQ (.own (f.M.length+1)),NQ (.dat (pD p)),NQ (.dat (.tuple (l.map pD))),C]/\I=[.lst ((v++[(hiP c u p,l)]).map oC),.set m]/\m.Nodup/\(∀ d∈m,∃ p,d=pD p/\inP c n p=NS)/\∀ q,pD q∈m↔(q∈l.take j \/ pD q∈t),⟨_,t,rfl,rfl,kl,Z,λq=>⟨.inr,λz=>z.elim (λz=>by rw [Lh] at z;cases z) id⟩⟩,?_,?_⟩))
    ·rintro j d _ _ o ⟨C,m,rfl,rfl,x,B,mk⟩;rw [Iq] at o;cases eq':l[j]? with
     | none=>rw [eq'] at o;cases o
     | some q =>
      rw [eq'] at o;cases o;have hq:q∈l:=Ir eq';have iq:=(((y q).mp hq).ins ip).1;have L:l.take (j+1)=l.take j++[q]:=by rw [JE,eq'];rfl
      have kl':=oE g x B;refine zj (Ep (i:=3) (j:=1) rfl rfl (by lia) (cW (zr rfl ⟨jo q,λh=>?_,λh=>?_⟩)))
      ·refine⟨_,m,rfl,rfl,x,B,λr=>?_⟩;rw [L,Iz,Iw,mk];constructor
       ·rintro (z | z)
        ·exact .inl (.inl z)
        ·exact .inr z
       ·rintro ((z | z) | z)
        ·exact .inl z
        ·rw [z];exact (mk q).mp h
        ·exact .inr z
      ·refine⟨_,pD q :: m,rfl,rfl,Jp.mpr ⟨h,x⟩,λd o=>?_,λr=>?_⟩
       ·rcases Iv.mp o with rfl | o
        ·exact⟨q,rfl,iq⟩
        ·exact B d o
       ·rw [L,Iz,Iw,Iv,mk];constructor
        ·rintro (z | z | z)
         ·exact .inl (.inr (aF z))
         ·exact .inl (.inl z)
         ·exact .inr z
        ·rintro ((z | z) | z)
         ·exact .inr (.inl z)
         ·exact .inl (by rw [z])
         ·exact .inr (.inr z)
    ·rintro _ _ ⟨C,m,rfl,rfl,x,B,mk⟩;rw [Ib,Jk] at mk;refine⟨_,_,_,v++[(hiP c u p,l)],m,rfl,rfl,S'.keys λq=>?_,by rw [IE,JJ];lia,x,B⟩;rw [mk,Iz,aG]
   ·have hm:pD p∈t:=JS λz=>by rw [NP z] at h;cases h
    refine d6 ⟨_,_,_,v,t,rfl,rfl,?_,by lia,kl,Z⟩;rw [tk];exact S.skip hm
 ·rintro _ _ ⟨X,W,C,v,t,rfl,rfl,S,rl,kl,Z⟩;rw [Ib,Jk] at S;rw [Ib] at rl;exact Gr (i:=2) (j:=0) rfl rfl ⟨v,rfl,S.done,by lia⟩
theorem Gu {NI:Ot} {wd:Nat} {N0:Int} {c:List (Bool×List Pt)} (R:Regs NI wd N0 c) {i j:Nat} {r d:Bool×List Pt} (g:c[i]?=NQ r) (f:c[j]?=NQ d) {p:Pt} (h:p∈r.2) (h':p∈d.2):i=j:=by
 obtain⟨x,X⟩:=R.reg r (Ir g);obtain⟨y,Y⟩:=R.reg d (Ir f);have e:=DK X Y h h';have l:c.Nodup:=R.ord.imp_of_mem λ{a b} m n z e=>by
  obtain⟨x,X⟩:=R.reg a m;have:=z x x X.hd (e▸X.hd);rw [vJ _ rfl] at this;cases this
 rw [<-e] at f;exact (MG (Ig.mp g).1 l).mp (g.trans f.symm)
theorem vV {k v:NR} {kvs:Ow}:(dput k v kvs).map (·.1)=if k∈kvs.map (·.1) then kvs.map (·.1) else kvs.map (·.1)++[k]:=by
 unfold dput;by_cases h:k∈kvs.map (·.1)
 ·rw [NM h,NM h,JB];refine KY λp _=>?_;show (if p.1=k then (p.1,v) else p).1=p.1;split <;> rfl
 ·rw [NL h,NL h,IM];rfl
structure Keyed (NI:Ot) (wd:Nat) (kvs:Ow):Prop where
 nd:(kvs.map (·.1)).Nodup
 pt:∀ d∈kvs.map (·.1),∃ p,d=pD p/\inP NI wd p=NS
theorem Keyed.put {NI:Ot} {wd:Nat} {kvs:Ow} (h:Keyed NI wd kvs) {p:Pt} (f:inP NI wd p=NS) (v:NR):Keyed NI wd (dput (pD p) v kvs):=by
 by_cases z:pD p∈kvs.map (·.1)
 ·exact⟨by rw [vV,NM z];exact h.nd,by rw [vV,NM z];exact h.pt⟩
 ·refine⟨?_,?_⟩
  ·rw [vV,NL z];exact Jw.mpr ⟨h.nd,by simp,λa i b g e=>z (by rw [Iw.mp g] at e;exact e▸i)⟩
  ·rw [vV,NL z];intro d c;rcases Iz.mp c with c | c
   ·exact h.pt d c
   ·rw [Iw.mp c];exact⟨p,rfl,f⟩
theorem Keyed.few {NI:Ot} {wd:Nat} {kvs:Ow} (g:Good wd NI) (h:Keyed NI wd kvs):kvs.length<=49:=by
 have:=oE g h.nd h.pt;rw [Ib] at this;exact this
theorem Gv {NI:Ot} {wd:Nat} {N0:Int} {a:List (Bool×List Pt)} (R:Regs NI wd N0 a) {r:Bool×List Pt} (b:r∈a) {p:Pt} (h:p∈r.2):inP NI wd p=NS:=by
 obtain⟨x,X⟩:=R.reg r b;exact (((X.mem p).mp h).ins X.inn).1
def told (a:List (Bool×List Pt)) (kvs:Ow):Prop:=∀ (n:Nat) r p,a[n]?=NQ r->p∈r.2->jL (pD p) kvs=NQ (.int n)
noncomputable def Hu (b:Bool):NR:=.str (if b=NS then "high" else "low")
theorem DO {a:List (Bool×List Pt)} {n:Nat} {d:NR} (h:(cM (a.map oC))[n]?=NQ d):∃ r,a[n]?=NQ r/\d=.tuple [.int n,oC r]:=by
 unfold cM at h;rw [L9,Iq] at h;cases e:a[n]? with
 | none=>rw [e] at h;cases h
 | some r =>
  rw [e] at h;cases h;exact⟨r,rfl,rfl⟩
theorem BI (ds:Oo):(cM ds).length=ds.length:=by
 unfold cM;simp
abbrev i7 (w:NX) (K:Ih):Sp:=spV K 2 Ht λc x=>∃ b a,x=.mon (qE w K a)/\Regs c.1 c.2.1 c.2.2 b/\b.length<=49/\told b a
theorem sD (F:Def K mg "indexes" bD pz) (J:mg "enumerate"=NW) (I:FnIn P w K mg base k "regions" pz (BH K)):FnIn P w K mg base (k+1) "indexes" pz (i7 w K):=by
 refine F.okV jS rfl λfa cdv A S s H E c=>⟨_,(ze (zL (i:=2) jS.nd rfl (N2 rfl) (d7 (w:=w) rfl)) (ze (y8 JA rfl (fV (K:=K) rfl rfl J (zc (zg I c rfl (zc (pv 0) (zc (pv 1) zd))) zd)) (zJ (K:=K) (n:=2) rfl rfl (zh (zf (i:=3) jS.nd) (zh (zJ (K:=K) (n:=2) rfl rfl (zh (zf (i:=4) jS.nd) (zh (zf (i:=5) jS.nd) zF))) zF))) (zm (y8 JA rfl (cK (K:=K) rfl (pv 5)) (zf (i:=6) jS.nd) (zm (z8 (pv 3) (v8 (pv 2) (pv 6) (aU (w:=w) (K:=K) rfl rfl c.units))))))) (zm (zz (pv 2))))),?_⟩;rintro f xs ⟨y,G,U⟩ hl ⟨rfl,g⟩
 try dsimp only [zV,zk]
 dsimp only at *;refine FH (w:=w) (rh ⟨show 2<7 by decide,λD0=>?_⟩);refine FF (aN (Ai (zv (PEdO.ped (ai (y,G,U) ?_)))));walk_at "w";rintro _ ⟨C,rfl,R,X⟩;dsimp only at R;refine zP ⟨_,rfl,λn D T=>∃ (O N L l:Option DV) (a:Ow),D=[NQ (.dat (tab y)),NQ (.dat (.int U)),NQ (.own (f.M.length+0)),O,N,L,l]/\T=[.dic a]/\Keyed y G a/\∀ (m:Nat) r p,m<n->C[m]?=NQ r->p∈r.2->jL (pD p) a=NQ (.int m),⟨_,_,_,_,[],rfl,rfl,⟨JC,(λ_ z=>nomatch z)⟩,(λm r p z=>absurd z (Kf _))⟩,?_,?_⟩
 ·rintro n d _ _ v ⟨O,N,L,l,a,rfl,rfl,t,o⟩;obtain⟨r,u,rfl⟩:∃ r,C[n]?=NQ r/\d=.tuple [.int n,oC r]:=DO v;have Y:=Ir u;refine yo rfl (zq (zj (zq (yo rfl (zq (zj (zq (zj (zT (zT ?_))))))))));refine aN (mT (zr rfl ⟨_,rfl,λj D T=>∃ (l:Option DV) (a:Ow),D=[NQ (.dat (tab y)),NQ (.dat (.int U)),NQ (.own (f.M.length+0)),NQ (.dat (.int n)),NQ (.dat (Hu r.1)),NQ (.dat (.tuple (r.2.map pD))),l]/\T=[.dic a]/\Keyed y G a/\(∀ (m:Nat) r p,m<n->C[m]?=NQ r->p∈r.2->jL (pD p) a=NQ (.int m))/\∀ p∈r.2.take j,jL (pD p) a=NQ (.int n),⟨_,a,rfl,rfl,t,o,λp b=>by rw [Lh] at b;cases b⟩,?_,?_⟩))
  ·rintro j d _ _ v ⟨l,a,rfl,rfl,t,o,B⟩;rw [Iq] at v;cases eq:r.2[j]? with
   | none=>rw [eq] at v;cases v
   | some q =>
    rw [eq] at v;cases v;have W:=Ir eq;have Z:=t.few g;refine zj (nB (i:=2) (j:=0) rfl rfl (by lia) (zr rfl (zr rfl ⟨jo q,?_⟩)));refine⟨_,_,rfl,rfl,t.put (Gv R Y W) _,λm Q p x c b=>?_,λp b=>?_⟩
    ·rw [cw _ (λz=>?_)]
     ·exact o m Q p x c b
     ·have:=Gu R c u b (aF z▸W);lia
    ·rw [JE,eq] at b;by_cases e:p=q
     ·rw [e];exact iT ..
     ·rw [cw _ (λz=>e (aF z))];rcases Iz.mp b with h | h
      ·exact B p h
      ·exact absurd (Iw.mp h) e
  ·rintro _ _ ⟨l,a,rfl,rfl,t,o,B⟩;rw [Ib,Jk] at B;refine⟨_,_,_,_,a,rfl,rfl,t,λm Q p x c b=>?_⟩;by_cases e:m=n
   ·subst e;rw [u] at c;cases c;exact B p b
   ·exact o m Q p (by lia) c b
 ·rintro _ _ ⟨O,N,L,l,a,rfl,rfl,t,o⟩;refine FG (i:=2) (j:=0) rfl rfl ⟨a,rfl,C,a,rfl,R,X,λn r p c b=>o n r p ?_ c b⟩;have:=(Ig.mp c).1;rw [BI,Ib];exact this
noncomputable def gA (i:Fin 4):Fin 4:=match i with
 | 0=>0
 | 1=>0
 | 2=>3
 | 3=>1
noncomputable def gB (i:Fin 4):Fin 4:=match i with
 | 0=>1
 | 1=>3
 | 2=>2
 | 3=>2
noncomputable def eD (A B C D:Bool) (c:Fin 4):Bool:=match c with
 | 0=>A
 | 1=>B
 | 2=>C
 | 3=>D
noncomputable def ig (c d:Fin 4):Bool:=(c.val+d.val) % 2 == 1
noncomputable def jnF (A B C D M:Bool) (c d:Fin 4):Bool:=(eD A B C D c == eD A B C D d) && (ig c d || (c != d && ((opF A B C D 0 && (opF A B C D 1 && (opF A B C D 2 && opF A B C D 3))) && (M == eD A B C D c))))
noncomputable def upF (h A B C D:Bool) (i:Fin 4):Fin 4:=if eD A B C D (gA i)=h then gA i else gB i
theorem BJ:∀ (h A B C D M:Bool) (i j:Fin 4),prt (dA A B C D M) i=NQ j->upF h A B C D i=upF h A B C D j \/ jnF A B C D M (upF h A B C D i) (upF h A B C D j)=NS \/ ∃ e,jnF A B C D M (upF h A B C D i) e=NS/\jnF A B C D M e (upF h A B C D j)=NS:=by decide +kernel
noncomputable def cor (x y:Int) (c:Fin 4):Pt:=match c with
 | 0=>(x,y)
 | 1=>(x+1,y)
 | 2=>(x+1,y+1)
 | 3=>(x,y+1)
theorem bh (x y:Int) (c d:Fin 4) (h:ig c d=NS):cor x y d∈nbL (cor x y c):=by
 have a:∀ c d:Fin 4,ig c d=NS->(c=0/\d=1) \/ (c=1/\d=0) \/ (c=1/\d=2) \/ (c=2/\d=1) \/ (c=2/\d=3) \/ (c=3/\d=2) \/ (c=0/\d=3) \/ (c=3/\d=0):=by decide
 rcases a c d h with⟨rfl,rfl⟩ | ⟨rfl,rfl⟩ | ⟨rfl,rfl⟩ | ⟨rfl,rfl⟩ | ⟨rfl,rfl⟩ | ⟨rfl,rfl⟩ | ⟨rfl,rfl⟩ | ⟨rfl,rfl⟩ <;> (rw [jf];simp [cor])
theorem DP (x y:Int) (c d:Fin 4) (h:ig c d=NV) (n:c≠d):cor x y d=asl (cor x y c) (x,y):=by
 have a:∀ c d:Fin 4,ig c d=NV->c≠d->(c=0/\d=2) \/ (c=2/\d=0) \/ (c=1/\d=3) \/ (c=3/\d=1):=by decide
 rcases a c d h n with⟨rfl,rfl⟩ | ⟨rfl,rfl⟩ | ⟨rfl,rfl⟩ | ⟨rfl,rfl⟩ <;> (unfold asl cor;simp only [Prod.mk.injEq];lia)
theorem Gw (x y:Int) (c:Fin 4):(x,y)∈caL (cor x y c):=by
 rw [cD]
 match c with
 | 0=>exact⟨.inl rfl,.inl rfl⟩
 | 1=>exact⟨.inr rfl,.inl rfl⟩
 | 2=>exact⟨.inr rfl,.inr rfl⟩
 | 3=>exact⟨.inl rfl,.inr rfl⟩
section
variable {NI:Ot} {wd:Nat} {N0 x y:Int}
noncomputable abbrev mj (NI:Ot) (N0 x y:Int) (c:Fin 4):Bool:=eD (hiB NI N0 x y) (hiB NI N0 (x+1) y) (hiB NI N0 (x+1) (y+1)) (hiB NI N0 x (y+1)) c
theorem vc (c:Fin 4):hiP NI N0 (cor x y c)=mj NI N0 x y c:=by
 match c with
 | 0=>rfl
 | 1=>rfl
 | 2=>rfl
 | 3=>rfl
theorem sE (h:zS NI wd x y=NS) (c:Fin 4):inP NI wd (cor x y c)=NS:=by
 obtain⟨e,d,b,a⟩:=cell_in h
 match c with
 | 0=>exact e
 | 1=>exact d
 | 2=>exact b
 | 3=>exact a
theorem dD (h:zS NI wd x y=NS) {c d:Fin 4} (j:jnF (hiB NI N0 x y) (hiB NI N0 (x+1) y) (hiB NI N0 (x+1) (y+1)) (hiB NI N0 x (y+1)) (jV NI N0 x y) c d=NS):cor x y d∈jM NI wd N0 (cor x y c):=by
 unfold jnF at j;rw [Io] at j;obtain⟨l,a⟩:=j;have e:hiP NI N0 (cor x y d)=hiP NI N0 (cor x y c):=by
  rw [vc,vc];exact (eq_of_beq l).symm
 cases b:ig c d with
 | true=>exact mem_join.mpr (.inl ⟨bh x y c d b,sE h d,e⟩)
 | false =>
  rw [b,Bool.false_or,Io,Io] at a;obtain⟨i,g,f⟩:=a;refine mem_join.mpr (.inr ⟨(x,y),Gw x y c,h,?_,?_,DP x y c d b (by simpa using i)⟩)
  ·unfold yV cg opG;simp only [Lr,M0,L5];rw [dv h,gM h,dw h,dy h];exact g
  ·rw [vc];exact eq_of_beq f
end
noncomputable def hpt (NI:Ot) (N0:Int) (h:Bool) (g:Gt):Pt:=if hiB NI N0 g.1 g.2.1=h then (g.1,g.2.1) else (px g.1 g.2.2,py g.2.1 g.2.2)
section
variable {NI:Ot} {wd:Nat} {N0:Int} {h:Bool}
theorem BK (x y:Int) (i:Fin 4):hpt NI N0 h (gt x y i)=cor x y (upF h (hiB NI N0 x y) (hiB NI N0 (x+1) y) (hiB NI N0 (x+1) (y+1)) (hiB NI N0 x (y+1)) i):=by
 unfold hpt upF
 match i with
 | 0 =>
  show (if hiB NI N0 x y=h then (x,y) else (x+1,y))=cor x y (if hiB NI N0 x y=h then 0 else 1);split <;> rfl
 | 1 =>
  show (if hiB NI N0 x y=h then (x,y) else (x,y+1))=cor x y (if hiB NI N0 x y=h then 0 else 3);split <;> rfl
 | 2 =>
  show (if hiB NI N0 x (y+1)=h then (x,y+1) else (x+1,y+1))=cor x y (if hiB NI N0 x (y+1)=h then 3 else 2);split <;> rfl
 | 3 =>
  show (if hiB NI N0 (x+1) y=h then (x+1,y) else (x+1,y+1))=cor x y (if hiB NI N0 (x+1) y=h then 1 else 2);split <;> rfl
theorem sF {g n:Gt} (o:opG NI wd N0 g=NS) (a:yF NI wd N0 g=NQ n):Reach NI wd N0 (hpt NI N0 h g) (hpt NI N0 h n):=by
 unfold yF at a;by_cases c:zS NI wd (ahC NI N0 g).1 (ahC NI N0 g).2=NS
 ·rw [NM c] at a;obtain⟨i,b⟩:=ou (NI:=NI) (N0:=N0) g (cC o);generalize (ahC NI N0 g).1=x at *;generalize (ahC NI N0 g).2=y at *;subst b;unfold vN t4 at a;rw [l6 (λ_ _=>gN)] at a;cases hj:prt (dA (hiB NI N0 x y) (hiB NI N0 (x+1) y) (hiB NI N0 (x+1) (y+1)) (hiB NI N0 x (y+1)) (jV NI N0 x y)) i with
  | none=>rw [hj] at a;cases a
  | some j =>
   rw [hj] at a;cases a;rw [BK,BK];rcases BJ h _ _ _ _ _ i j hj with e | e | ⟨d,l,f⟩
   ·rw [e];exact .refl
   ·exact Reach.refl.step (dD c e)
   ·exact (Reach.refl.step (dD c l)).step (dD c f)
 ·rw [NL c] at a;cases a
theorem gT {g:Gt} (o:opG NI wd N0 g=NS):inP NI wd (hpt NI N0 h g)=NS/\hiP NI N0 (hpt NI N0 h g)=h:=by
 unfold opG yS aE at o;rw [Io,Io,Io] at o;obtain⟨⟨_,d,c⟩,b⟩:=o;unfold hpt;by_cases e:hiB NI N0 g.1 g.2.1=h
 ·rw [NM e];exact⟨d,e⟩
 ·rw [NL e];refine⟨c,?_⟩;have a:(hiB NI N0 g.1 g.2.1 != hiB NI N0 (px g.1 g.2.2) (py g.2.1 g.2.2))=NS:=b;show hiB NI N0 (px g.1 g.2.2) (py g.2.1 g.2.2)=h
  revert e a
  cases hiB NI N0 g.1 g.2.1 <;> cases hiB NI N0 (px g.1 g.2.2) (py g.2.1 g.2.2) <;> cases h <;> decide
theorem gU {q:Bool} {l:List Gt} (L:LineOk NI wd N0 q l) {c:Gt} (h0:l.head?=NQ c):∀ (i:Nat) g,l[i]?=NQ g->Reach NI wd N0 (hpt NI N0 h c) (hpt NI N0 h g):=by
 intro i
 induction i with
 | zero =>
  intro g a;rw [K6,a] at h0;cases h0;exact .refl
 | succ i ih =>
  intro g a;have d:=(Ig.mp a).1;have b:l[i]?=NQ l[i]:=Ia (by lia);exact (ih _ b).trans (sF (L.op _ (Ir b)) (L.ch i _ _ b a))
end
section
variable {NI:Ot} {wd:Nat} {c c':Int} {b:Bool}
theorem dE {N0 u v:Int} (a:zS NI wd u v=NS) (f:hiB NI N0 (u+1) v=!hiB NI N0 u v) (e:hiB NI N0 u (v+1)=!hiB NI N0 u v) (d:hiB NI N0 (u+1) (v+1)=hiB NI N0 u v):yV NI wd N0 u v=NS:=by
 unfold yV cg opG;simp only [Lr,M0];rw [dv a,gM a,dw a,dy a,f,e,d];cases hiB NI N0 u v <;> rfl
theorem join_mono (E:∀ p:Pt,hiP NI c p=b->hiP NI c' p=b) (H:∀ u v,jV NI c u v=b->jV NI c' u v=b) {p q:Pt} (o:hiP NI c p=b) (h:q∈jM NI wd c p):Reach NI wd c' p q:=by
 have J:hiP NI c q=b:=(aI h).2.trans o;have d:=E p o;have a:=E q J;rcases mem_join.mp h with⟨i,r,_⟩ | ⟨⟨u,v⟩,i,r,M,L,rfl⟩
 ·exact Reach.refl.step (mem_join.mpr (.inl ⟨i,r,a.trans d.symm⟩))
 ·have j:zS NI wd u v=NS:=r;obtain⟨Q,O,N⟩:=gS j M;obtain⟨C,B,A,t⟩:=cell_in j;have n:jV NI c' u v=b:=H u v (L.trans o);rw [cD] at i;dsimp only at i
  have l:∀ s:Pt,s∈nbL p->asl p (u,v)∈nbL s->inP NI wd s=NS->hiP NI c' s=b->Reach NI wd c' p (asl p (u,v)):=λs g f I D =>
   (Reach.refl.step (mem_join.mpr (.inl ⟨g,I,D.trans d.symm⟩))).step (mem_join.mpr (.inl ⟨f,(aI h).1,a.trans D.symm⟩))
  obtain⟨x,y⟩:=p;dsimp only at i;have m:asl (x,y) (u,v)=(2 * u+1 - x,2 * v+1 - y):=rfl;by_cases G:hiP NI c' (2 * u+1 - x,y)=b
  ·refine l (2 * u+1 - x,y) ?_ ?_ ?_ G
   ·rcases i.1 with e | e
    ·exact jf.mpr (.inr (.inr (.inr (K9 (by dsimp only;lia) rfl))))
    ·exact jf.mpr (.inl (K9 (by dsimp only;lia) rfl))
   ·rcases i.2 with e | e
    ·exact jf.mpr (.inr (.inr (.inl (K9 rfl (by rw [m];dsimp only;lia)))))
    ·exact jf.mpr (.inr (.inl (K9 rfl (by rw [m];dsimp only;lia))))
   ·unfold inP;rcases i with⟨rfl | rfl,rfl | rfl⟩
    ·rw [show 2 * x+1 - x=x+1 by lia];exact B
    ·rw [show 2 * x+1 - x=x+1 by lia];exact A
    ·rw [show 2 * u+1 - (u+1)=u by lia];exact C
    ·rw [show 2 * u+1 - (u+1)=u by lia];exact t
  ·by_cases F:hiP NI c' (x,2 * v+1 - y)=b
   ·refine l (x,2 * v+1 - y) ?_ ?_ ?_ F
    ·rcases i.2 with e | e
     ·exact jf.mpr (.inr (.inr (.inl (K9 rfl (by dsimp only;lia)))))
     ·exact jf.mpr (.inr (.inl (K9 rfl (by dsimp only;lia))))
    ·rcases i.1 with e | e
     ·exact jf.mpr (.inr (.inr (.inr (K9 (by rw [m];dsimp only;lia) rfl))))
     ·exact jf.mpr (.inl (K9 (by rw [m];dsimp only;lia) rfl))
    ·unfold inP;rcases i with⟨rfl | rfl,rfl | rfl⟩
     ·rw [show 2 * y+1 - y=y+1 by lia];exact t
     ·rw [show 2 * v+1 - (v+1)=v by lia];exact C
     ·rw [show 2 * y+1 - y=y+1 by lia];exact A
     ·rw [show 2 * v+1 - (v+1)=v by lia];exact B
   ·refine Reach.refl.step (mem_join.mpr (.inr ⟨(u,v),cD.mpr i,j,?_,n.trans d.symm,rfl⟩));have g:hiP NI c' (2 * u+1 - x,y)=!b:=by cases z:hiP NI c' (2 * u+1 - x,y) <;> cases b <;> simp_all
    have f:hiP NI c' (x,2 * v+1 - y)=!b:=by cases z:hiP NI c' (x,2 * v+1 - y) <;> cases b <;> simp_all
    rw [m] at a;unfold hiP at g f d a;dsimp only at g f d a;rcases i with⟨rfl | rfl,rfl | rfl⟩
    ·rw [show 2 * x+1 - x=x+1 by lia] at g a;rw [show 2 * y+1 - y=y+1 by lia] at f a;exact dE j (by rw [g,d]) (by rw [f,d]) (by rw [a,d])
    ·rw [show 2 * x+1 - x=x+1 by lia] at g a;rw [show 2 * v+1 - (v+1)=v by lia] at f a;exact dE j (by rw [f,a];simp) (by rw [f,d];simp) (by rw [g,f])
    ·rw [show 2 * u+1 - (u+1)=u by lia] at g a;rw [show 2 * y+1 - y=y+1 by lia] at f a;exact dE j (by rw [g,d];simp) (by rw [g,a];simp) (by rw [g,f])
    ·rw [show 2 * u+1 - (u+1)=u by lia] at g a;rw [show 2 * v+1 - (v+1)=v by lia] at f a;exact dE j (by rw [f,a]) (by rw [g,a]) (by rw [a,d])
theorem gW (g:∀ p:Pt,hiP NI c p=b->hiP NI c' p=b) (e:∀ u v,jV NI c u v=b->jV NI c' u v=b) {p q:Pt} (f:hiP NI c p=b) (h:Reach NI wd c p q):Reach NI wd c' p q:=by
 have a:Reach NI wd c' p q/\hiP NI c q=b:=by
  induction h with
  | refl=>exact⟨.refl,f⟩
  | step _ d ih=>exact⟨ih.1.trans (join_mono g e ih.2 d),(aI d).2.trans ih.2⟩
 exact a.1
theorem sG (e:c'<=c) {p q:Pt} (a:hiP NI c p=NS) (h:Reach NI wd c p q):Reach NI wd c' p q/\hiP NI c' p=NS:=by
 have d:∀ p:Pt,hiP NI c p=NS->hiP NI c' p=NS:=λp z=>by
  unfold hiP hiB at z ⊢;exact NN (by have:=N4 z;lia)
 refine⟨gW d (λu v z=>?_) a h,d p a⟩;unfold jV at z ⊢;exact NN (by have:=N4 z;lia)
theorem xw (e:c<=c') {p q:Pt} (a:hiP NI c p=NV) (h:Reach NI wd c p q):Reach NI wd c' p q/\hiP NI c' p=NV:=by
 have d:∀ p:Pt,hiP NI c p=NV->hiP NI c' p=NV:=λp z=>by
  unfold hiP hiB at z ⊢;exact NP (by have:=N5 z;lia)
 refine⟨gW d (λu v z=>?_) a h,d p a⟩;unfold jV at z ⊢;exact NP (by have:=N5 z;lia)
end
noncomputable def ixR (a:List (Bool×List Pt)) (p:Pt):Nat:=a.findIdx λr=>decide (p∈r.2)
theorem ux {NI:Ot} {wd:Nat} {N0:Int} {a:List (Bool×List Pt)} (R:Regs NI wd N0 a) {p:Pt} (d:inP NI wd p=NS):∃ c,a[ixR a p]?=NQ c/\p∈c.2:=by
 obtain⟨r,e,f⟩:=R.all p d;have b:ixR a p<a.length:=List.findIdx_lt_length_of_exists ⟨r,e,NN f⟩;exact⟨_,Ia b,N4 (List.findIdx_getElem (w:=b))⟩
noncomputable def hdG (t:Bool×List Gt):Gt:=t.2.headD (0,0,0)
theorem uy {NI:Ot} {wd:Nat} {N0:Int} {q:Bool} {l:List Gt} (L:LineOk NI wd N0 q l):l.head?=NQ (hdG (q,l)):=by
 cases l with
 | nil=>exact absurd rfl L.ne
 | cons a l=>rfl
theorem EB:∀ i:_root_.Fin 4,ig i (i+1)=NS:=by decide
theorem EC:∀ i:_root_.Fin 4,ig (i+1) (i+2)=NS:=by decide
theorem ED:∀ i:_root_.Fin 4,ig (i+2) (i+3)=NS:=by decide
theorem Hv:∀ i:_root_.Fin 4,ig (i+3) i=NS:=by decide
theorem EE:∀ i:_root_.Fin 4,i+1+1=i+2:=by decide
theorem Hw:∀ i:_root_.Fin 4,i+1+2=i+3:=by decide
theorem Hy:∀ i:_root_.Fin 4,i+1+3=i:=by decide
theorem Hz:∀ (A B C D:Bool) (i:_root_.Fin 4),eD A B C D i=NS->eD A B C D (i+2)=NS->eD A B C D (i+1)=NV->eD A B C D (i+3)=NV->jnF A B C D NS i (i+2)=NS:=by decide
theorem HA:∀ (A B C D:Bool) (i:_root_.Fin 4),eD A B C D i=NS->eD A B C D (i+2)=NS->eD A B C D (i+1)=NV->eD A B C D (i+3)=NV->jnF A B C D NV (i+1) (i+3)=NS:=by decide
theorem dF {b:Type} {f g:b->Bool}:∀ {l:List b},(∀ x∈l,f x=g x)->l.findIdx f=l.findIdx g
 | [],_=>rfl
 | a :: l,h=>by
  rw [List.findIdx_cons,List.findIdx_cons,h a Ik,dF λx c=>h x (Ii _ c)]
section
variable {NI:Ot} {wd:Nat} {N0:Int} {rs:List (Bool×List Pt)}
theorem qr (R:Regs NI wd N0 rs) {p q:Pt} (a:inP NI wd p=NS) (h:Reach NI wd N0 p q):ixR rs p=ixR rs q:=by
 unfold ixR;refine dF λr b=>decide_eq_decide.mpr ?_;obtain⟨c,X⟩:=R.reg r b;rw [X.mem,X.mem];exact⟨λz=>z.trans h,λz=>z.trans (h.symm a)⟩
end
abbrev Key:=Nat×Nat
theorem step_map {c:Type} {F:c->NR} {xs:List c} {J:Nat->zu->List OC->Prop} {G:Nat->NR->zu->List OC->Prop} (h:∀ i x,xs[i]?=NQ x->∀ a b,J i a b->G i (F x) a b):∀ (i:Nat) d a b,(xs.map F)[i]?=NQ d->J i a b->G i d a b:=λi d a b e=>by
 rw [Iq] at e;obtain⟨x,f,rfl⟩:=Ky.mp e;exact h i x f a b
theorem BM {b a:Type} {A:b->a} {Q:b->a->Prop} {G:a->Prop} (h:∀ x,Q x (A x)->G (A x)):∀ e,(∃ x,e=A x/\Q x e)->G e:=by
 rintro _ ⟨x,rfl,q⟩;exact h x q
theorem HB {g j:Type} {R:g->g->g->g->g->g->j->zu} {C:g->g->g->g->g->g->j->List OC} {I:g->g->g->g->g->g->j->Prop} {G:zu->List OC->Prop} (h:∀ a b c d e f x,I a b c d e f x->G (R a b c d e f x) (C a b c d e f x)):∀ l m,(∃ a b c d e f x,l=R a b c d e f x/\m=C a b c d e f x/\I a b c d e f x)->G l m:=by
 rintro _ _ ⟨a,b,c,d,e,f,x,rfl,rfl,i⟩;exact h a b c d e f x i
theorem HC {c d:Bool} {p q:Prop} (e:c=d) (b:d=NS->p) (a:d=NV->q):if c=NS then p else q:=by
 subst e;exact yA b a
theorem Gx {c b a:Type} {A:c->b->a} {Q:c->b->Prop} {G:a->Prop} (h:∀ x y,Q x y->G (A x y)):∀ e,(∃ x y,e=A x y/\Q x y)->G e:=by
 rintro _ ⟨x,y,rfl,q⟩;exact h x y q
theorem Gy {d c b a:Type} {A:d->c->b->a} {Q:d->c->b->Prop} {G:a->Prop} (h:∀ x y z,Q x y z->G (A x y z)):∀ e,(∃ x y z,e=A x y z/\Q x y z)->G e:=by
 rintro _ ⟨x,y,z,rfl,q⟩;exact h x y z q
theorem HY {d:Type} {R:d->d->d->zu} {C:d->d->d->List OC} {G:zu->List OC->Prop} (h:∀ a b c,G (R a b c) (C a b c)):∀ e f,(∃ a b c,e=R a b c/\f=C a b c)->G e f:=by
 rintro _ _ ⟨a,b,c,rfl,rfl⟩;exact h a b c
theorem HD {e g f:Type} {R:e->e->e->e->g->f->zu} {C:e->e->e->e->g->f->List OC} {I:e->e->e->e->g->f->Prop} {G:zu->List OC->Prop} (h:∀ a b c d x y,I a b c d x y->G (R a b c d x y) (C a b c d x y)):∀ j l,(∃ a b c d x y,j=R a b c d x y/\l=C a b c d x y/\I a b c d x y)->G j l:=by
 rintro _ _ ⟨a,b,c,d,x,y,rfl,rfl,i⟩;exact h a b c d x y i
theorem HE {c e d:Type} {R:c->c->e->d->zu} {C:c->c->e->d->List OC} {I:c->c->e->d->Prop} {G:zu->List OC->Prop} (h:∀ a b x y,I a b x y->G (R a b x y) (C a b x y)):∀ f g,(∃ a b x y,f=R a b x y/\g=C a b x y/\I a b x y)->G f g:=by
 rintro _ _ ⟨a,b,x,y,rfl,rfl,i⟩;exact h a b x y i
noncomputable def hgt (NI:Ot) (p:Pt):Int:=yc NI p.1 p.2
structure Two (NI:Ot) (wd:Nat) (h:Int) (rl ru:List (Bool×List Pt)):Prop where
 lo:Regs NI wd (h - 1) rl
 up:Regs NI wd h ru
section
variable {NI:Ot} {wd:Nat} {h:Int} {rl ru:List (Bool×List Pt)}
theorem dG {p:Pt}:hiP NI (h - 1) p=NS↔h<=hgt NI p:=by
 unfold hiP hiB hgt;rw [decide_eq_true_iff];lia
theorem dH {p:Pt}:hiP NI h p=NV↔hgt NI p<=h:=by
 unfold hiP hiB hgt;rw [decide_eq_false_iff_not];lia
theorem Two.adjL (T:Two NI wd h rl ru) {p q:Pt} (d:inP NI wd p=NS) (c:inP NI wd q=NS) (n:q∈nbL p) (a:h<=hgt NI p) (b:h<=hgt NI q):ixR rl p=ixR rl q :=
 qr T.lo d (Reach.refl.step (mem_join.mpr (.inl ⟨n,c,(dG.mpr b).trans (dG.mpr a).symm⟩)))
theorem Two.adjU (T:Two NI wd h rl ru) {p q:Pt} (d:inP NI wd p=NS) (c:inP NI wd q=NS) (n:q∈nbL p) (a:hgt NI p<=h) (b:hgt NI q<=h):ixR ru p=ixR ru q :=
 qr T.up d (Reach.refl.step (mem_join.mpr (.inl ⟨n,c,(dH.mpr b).trans (dH.mpr a).symm⟩)))
def i8 (NI:Ot) (h:Int) (rl ru:List (Bool×List Pt)) (p q:Pt) (k:Key):Prop:=h<=hgt NI p/\hgt NI q<=h/\k=(ixR rl p,ixR ru q)
def EdgeK (NI:Ot) (h:Int) (rl ru:List (Bool×List Pt)) (p q:Pt) (k:Key):Prop:=i8 NI h rl ru p q k \/ i8 NI h rl ru q p k
def vd (NI:Ot) (wd:Nat) (h:Int) (rl ru:List (Bool×List Pt)) (k:Key):Prop:=∃ p q,inP NI wd p=NS/\inP NI wd q=NS/\(q∈nbL p \/ q=p)/\i8 NI h rl ru p q k
theorem EdgeK.one (T:Two NI wd h rl ru) {p q:Pt} (d:inP NI wd p=NS) (c:inP NI wd q=NS) (n:q∈nbL p) {k j:Key} (a:EdgeK NI h rl ru p q k) (b:EdgeK NI h rl ru p q j):k=j:=by
 rcases a with⟨i,g,rfl⟩ | ⟨i,g,rfl⟩ <;> rcases b with⟨f,e,rfl⟩ | ⟨f,e,rfl⟩
 ·rfl
 ·rw [T.adjL d c n i f,T.adjU d c n e g]
 ·rw [T.adjL d c n f i,T.adjU d c n g e]
 ·rfl
theorem diag (T:Two NI wd h rl ru) {x y:Int} (c:zS NI wd x y=NS) (i:_root_.Fin 4) (a:h<=hgt NI (cor x y i)) (r:h<=hgt NI (cor x y (i+2))) (b:hgt NI (cor x y (i+1))<=h) (q:hgt NI (cor x y (i+3))<=h) :
  ixR rl (cor x y i)=ixR rl (cor x y (i+2)) \/ ixR ru (cor x y (i+1))=ixR ru (cor x y (i+3)):=by
 have d:=sE c;have v:=bh x y i (i+1) (EB i);have u:=bh x y (i+1) (i+2) (EC i);have t:=bh x y (i+2) (i+3) (ED i);have s:=bh x y (i+3) i (Hv i);by_cases A:h<=hgt NI (cor x y (i+1))
 ·exact .inl ((T.adjL (d _) (d _) v a A).trans (T.adjL (d _) (d _) u A r))
 by_cases z:h<=hgt NI (cor x y (i+3))
 ·exact .inl ((T.adjL (d _) (d _) s z a).symm.trans (T.adjL (d _) (d _) (aH t) z r))
 by_cases p:hgt NI (cor x y i)<=h
 ·exact .inr ((T.adjU (d _) (d _) v p b).symm.trans (T.adjU (d _) (d _) (aH s) p q))
 by_cases o:hgt NI (cor x y (i+2))<=h
 ·exact .inr ((T.adjU (d _) (d _) u b o).trans (T.adjU (d _) (d _) t o q))
 by_cases f:jV NI (h - 1) x y=NS
 ·refine .inl (qr T.lo (d _) (Reach.refl.step (dD c ?_)));have n:mj NI (h - 1) x y i=NS:=by rw [<-vc];exact dG.mpr a
  have l:mj NI (h - 1) x y (i+2)=NS:=by rw [<-vc];exact dG.mpr r
  have m:mj NI (h - 1) x y (i+1)=NV:=by rw [<-vc];exact dH.mpr (by lia)
  have j:mj NI (h - 1) x y (i+3)=NV:=by rw [<-vc];exact dH.mpr (by lia)
  rw [f];exact Hz _ _ _ _ i n l m j
 ·refine .inr (qr T.up (d _) (Reach.refl.step (dD c ?_)));have n:mj NI h x y i=NS:=by rw [<-vc];cases e:hiP NI h (cor x y i) with | true=>rfl | false=>exact absurd (dH.mp e) p
  have l:mj NI h x y (i+2)=NS:=by rw [<-vc];cases e:hiP NI h (cor x y (i+2)) with | true=>rfl | false=>exact absurd (dH.mp e) o
  have m:mj NI h x y (i+1)=NV:=by rw [<-vc];exact dH.mpr b
  have j:mj NI h x y (i+3)=NV:=by rw [<-vc];exact dH.mpr q
  have g:jV NI h x y=NV:=by
   unfold jV at f ⊢;rw [decide_eq_true_iff] at f;exact NP (by lia)
  rw [g];exact HA _ _ _ _ i n l m j
theorem three (T:Two NI wd h rl ru) {x y:Int} (c:zS NI wd x y=NS) (i:_root_.Fin 4) {k1 k2 k3:Key} (a:EdgeK NI h rl ru (cor x y i) (cor x y (i+1)) k1) (b:EdgeK NI h rl ru (cor x y (i+1)) (cor x y (i+2)) k2) (d:EdgeK NI h rl ru (cor x y (i+2)) (cor x y (i+3)) k3):k1=k2 \/ k2=k3:=by
 have f:=sE c;have s:=bh x y i (i+1) (EB i);have p:=bh x y (i+1) (i+2) (EC i);have r:=bh x y (i+2) (i+3) (ED i);have t:=diag T c i;have n:=diag T c (i+1);rw [EE,Hw,Hy] at n;rcases a with⟨q,o,rfl⟩ | ⟨q,o,rfl⟩ <;> rcases b with⟨m,l,rfl⟩ | ⟨m,l,rfl⟩
 ·exact .inl (by rw [T.adjL (f _) (f _) s q m,T.adjU (f _) (f _) p o l])
 ·rcases d with⟨g,j,rfl⟩ | ⟨g,j,rfl⟩
  ·rcases t q g o j with e | e
   ·exact .inl (by rw [e])
   ·exact .inr (by rw [e])
  ·exact .inr (by rw [T.adjU (f _) (f _) p l j,T.adjL (f _) (f _) r m g])
 ·rcases d with⟨g,j,rfl⟩ | ⟨g,j,rfl⟩
  ·exact .inr (by rw [T.adjL (f _) (f _) p m g,T.adjU (f _) (f _) r l j])
  ·rcases n m g l o with e | e
   ·exact .inr (by rw [e])
   ·exact .inl (by rw [e])
 ·exact .inl (by rw [T.adjL (f _) (f _) p q m,T.adjU (f _) (f _) s o l])
end
section
variable {NI:Ot} {wd:Nat} {h:Int} {rl ru:List (Bool×List Pt)}
def vW (NI:Ot) (h:Int) (rl ru:List (Bool×List Pt)) (g:Gt) (k:Key):Prop:=EdgeK NI h rl ru (g.1,g.2.1) (px g.1 g.2.2,py g.2.1 g.2.2) k
theorem EdgeK.symm {p q:Pt} {k:Key} (a:EdgeK NI h rl ru p q k):EdgeK NI h rl ru q p k:=Or.symm a
theorem uz {x y v:Int} (a:v=0 \/ v=1):((px x v,py y v):Pt)∈nbL (x,y):=by
 rw [jf];rcases a with rfl | rfl
 ·exact .inr (.inr (.inr rfl))
 ·exact .inr (.inr (.inl rfl))
def vC (NI:Ot) (wd:Nat) (g:Gt):Prop:=(g.2.2=0 \/ g.2.2=1)/\inP NI wd (g.1,g.2.1)=NS/\inP NI wd (px g.1 g.2.2,py g.2.1 g.2.2)=NS
theorem uA {p q:Pt} (b:inP NI wd p=NS) (a:inP NI wd q=NS) (n:q∈nbL p):∃ g:Gt,vC NI wd g/\((p=(g.1,g.2.1)/\q=(px g.1 g.2.2,py g.2.1 g.2.2)) \/ (q=(g.1,g.2.1)/\p=(px g.1 g.2.2,py g.2.1 g.2.2))):=by
 obtain⟨x,y⟩:=p;rcases jf.mp n with rfl | rfl | rfl | rfl
 ·have e:(px (x - 1) 0,py y 0)=(x,y):=by unfold px py;rw [NM rfl,NM rfl];exact K9 (by dsimp only;lia) rfl
  exact⟨(x - 1,y,0),⟨.inl rfl,a,by show inP NI wd (px (x - 1) 0,py y 0)=NS;rw [e];exact b⟩,.inr ⟨rfl,e.symm⟩⟩
 ·have e:(px x 1,py (y - 1) 1)=(x,y):=by unfold px py;rw [NL (by decide),NL (by decide)];exact K9 rfl (by dsimp only;lia)
  exact⟨(x,y - 1,1),⟨.inr rfl,a,by show inP NI wd (px x 1,py (y - 1) 1)=NS;rw [e];exact b⟩,.inr ⟨rfl,e.symm⟩⟩
 ·exact⟨(x,y,1),⟨.inr rfl,b,a⟩,.inl ⟨rfl,rfl⟩⟩
 ·exact⟨(x,y,0),⟨.inl rfl,b,a⟩,.inl ⟨rfl,rfl⟩⟩
theorem DQ (g:Good wd NI) {p:Pt} (b:inP NI wd p=NS):∃ q,inP NI wd q=NS/\q∈nbL p:=by
 have c:=g.w1;obtain⟨x,y⟩:=p;have a:yb NI wd x y=NS:=b;unfold yb at a;rw [Io,decide_eq_true_iff,decide_eq_true_iff] at a;by_cases e:x+1<wd
 ·refine⟨(x+1,y),?_,jf.mpr (.inr (.inr (.inr rfl)))⟩;show yb NI wd (x+1) y=NS;unfold yb;rw [Io,decide_eq_true_iff,decide_eq_true_iff];lia
 ·refine⟨(x - 1,y),?_,jf.mpr (.inl rfl)⟩;show yb NI wd (x - 1) y=NS;unfold yb;rw [Io,decide_eq_true_iff,decide_eq_true_iff];lia
theorem uB (g:Good wd NI) (T:Two NI wd h rl ru) {k:Key} (m:vd NI wd h rl ru k):∃ e:Gt,vC NI wd e/\vW NI h rl ru e k:=by
 obtain⟨p,q,c,j,n,a,b,rfl⟩:=m;have d:∀ {p q:Pt} {k:Key},inP NI wd p=NS->inP NI wd q=NS->q∈nbL p->i8 NI h rl ru p q k->∃ e:Gt,vC NI wd e/\vW NI h rl ru e k:=λc j n s=>by
  obtain⟨e,t,⟨o,l⟩ | ⟨o,l⟩⟩:=uA c j n
  ·exact⟨e,t,.inl (by rw [<-o,<- l];exact s)⟩
  ·exact⟨e,t,.inr (by rw [<-o,<- l];exact s)⟩
 rcases n with n | rfl
 ·exact d c j n ⟨a,b,rfl⟩
 ·obtain⟨r,i,f⟩:=DQ g c;by_cases e:hgt NI r<=h
  ·exact d c i f ⟨a,e,by rw [T.adjU c i f b e]⟩
  ·exact d i c (aH f) ⟨by lia,b,by rw [T.adjL c i f a (by lia)]⟩
noncomputable def bk (g:Gt):Pt:=if (g.1+g.2.1) % 2=0 then (g.1,g.2.1) else if g.2.2=0 then (g.1,g.2.1 - 1) else (g.1 - 1,g.2.1)
theorem HF {g:Gt} (a:g.2.2=0 \/ g.2.2=1):∃ j:_root_.Fin 4,g=gt (bk g).1 (bk g).2 j:=by
 obtain⟨x,y,v⟩:=g;unfold bk;dsimp only at *;by_cases e:(x+y) % 2=0
 ·rw [NM e];rcases a with rfl | rfl
  ·exact⟨0,rfl⟩
  ·exact⟨1,rfl⟩
 ·rw [NL e];rcases a with rfl | rfl
  ·rw [NM rfl];exact⟨2,by show (x,y,0)=(x,y - 1+1,0);rw [Int.sub_add_cancel]⟩
  ·rw [NL (by decide)];exact⟨3,by show (x,y,1)=(x - 1+1,y,1);rw [Int.sub_add_cancel]⟩
theorem ends (x y:Int) (j:_root_.Fin 4):let g:=gt x y (0 - j);((g.1,g.2.1)=cor x y j/\(px g.1 g.2.2,py g.2.1 g.2.2)=cor x y (j+1)) \/ ((g.1,g.2.1)=cor x y (j+1)/\(px g.1 g.2.2,py g.2.1 g.2.2)=cor x y j):=by
 match j with
 | 0=>exact .inl ⟨rfl,rfl⟩
 | 1=>exact .inl ⟨rfl,rfl⟩
 | 2=>exact .inr ⟨rfl,rfl⟩
 | 3=>exact .inr ⟨rfl,rfl⟩
theorem HG:∀ a b c:_root_.Fin 4,a≠b->b≠c->a≠c->∃ j:_root_.Fin 4,(0 - j=a \/ 0 - j=b \/ 0 - j=c)/\(0 - (j+1)=a \/ 0 - (j+1)=b \/ 0 - (j+1)=c)/\(0 - (j+2)=a \/ 0 - (j+2)=b \/ 0 - (j+2)=c):=by decide
theorem HH:∀ j:_root_.Fin 4,j+2+1=j+3:=by decide
theorem HZ:∀ j:_root_.Fin 4,0 - j≠0 - (j+1)/\0 - (j+1)≠0 - (j+2):=by decide
theorem mq {x y:Int} {j:_root_.Fin 4} {k:Key} (hg:vC NI wd (gt x y (0 - j))) (a:vW NI h rl ru (gt x y (0 - j)) k):EdgeK NI h rl ru (cor x y j) (cor x y (j+1)) k/\inP NI wd (cor x y j)=NS/\inP NI wd (cor x y (j+1))=NS:=by
 obtain⟨_,c,b⟩:=hg;unfold vW at a;rcases ends x y j with⟨e,d⟩ | ⟨e,d⟩
 ·rw [e] at c a;rw [d] at b a;exact⟨a,c,b⟩
 ·rw [e] at c a;rw [d] at b a;exact⟨a.symm,b,c⟩
theorem uC:∀ j:_root_.Fin 4,(j=0 \/ j+1=0 \/ j+2=0 \/ j+3=0)/\(j=2 \/ j+1=2 \/ j+2=2 \/ j+3=2):=by decide
theorem no3 (T:Two NI wd h rl ru) {x y:Int} {a b c:_root_.Fin 4} (ab:a≠b) (bc:b≠c) (ac:a≠c) {g f d:Key} (Q:vC NI wd (gt x y a)) (O:vC NI wd (gt x y b)) (N:vC NI wd (gt x y c))
  (Z:vW NI h rl ru (gt x y a) g) (Y:vW NI h rl ru (gt x y b) f) (X:vW NI h rl ru (gt x y c) d) (m:g≠f) (i:f≠d) (l:g≠d):False:=by
 obtain⟨j,J,I,H⟩:=HG a b c ab bc ac;have q:∀ t,(t=a \/ t=b \/ t=c)->∃ k,vC NI wd (gt x y t)/\vW NI h rl ru (gt x y t) k/\((t=a/\k=g) \/ (t=b/\k=f) \/ (t=c/\k=d)):=λt p=>by
  rcases p with rfl | rfl | rfl
  ·exact⟨g,Q,Z,.inl ⟨rfl,rfl⟩⟩
  ·exact⟨f,O,Y,.inr (.inl ⟨rfl,rfl⟩)⟩
  ·exact⟨d,N,X,.inr (.inr ⟨rfl,rfl⟩)⟩
 obtain⟨k1,U,e1,G⟩:=q _ J;obtain⟨k2,S,e2,r⟩:=q _ I;obtain⟨k3,R,e3,F⟩:=q _ H;obtain⟨W,M,L⟩:=mq U e1;obtain⟨D,_,B⟩:=mq S e2;obtain⟨C,_,A⟩:=mq R e3;rw [EE] at D B;rw [HH] at C A;have n:zS NI wd x y=NS:=by
  have o:∀ t:_root_.Fin 4,(j=t \/ j+1=t \/ j+2=t \/ j+3=t)->inP NI wd (cor x y t)=NS:=λt p=>by
   rcases p with rfl | rfl | rfl | rfl
   ·exact M
   ·exact L
   ·exact B
   ·exact A
  have c0:yb NI wd x y=NS:=o 0 (uC j).1;have c2:yb NI wd (x+1) (y+1)=NS:=o 2 (uC j).2;unfold zS;rw [c0,c2];rfl
 have E:=HZ j;have z:∀ {s t:_root_.Fin 4} {k k':Key},s≠t->((s=a/\k=g) \/ (s=b/\k=f) \/ (s=c/\k=d))->((t=a/\k'=g) \/ (t=b/\k'=f) \/ (t=c/\k'=d))->k≠k':=λ{s t k k'} st u v=>by
  rcases u with⟨rfl,rfl⟩ | ⟨rfl,rfl⟩ | ⟨rfl,rfl⟩ <;> rcases v with⟨rfl,rfl⟩ | ⟨rfl,rfl⟩ | ⟨rfl,rfl⟩
  ·exact absurd rfl st
  ·exact m
  ·exact l
  ·exact m.symm
  ·exact absurd rfl st
  ·exact i
  ·exact l.symm
  ·exact i.symm
  ·exact absurd rfl st
 rcases three T n j W D C with e | e
 ·exact z E.1 G r e
 ·exact z E.2 r F e
end
theorem i9 {b:Type} (p:b->Bool):∀ l:List b,l.length=(l.filter p).length+(l.filter λx=>!p x).length
 | []=>rfl
 | a :: l=>by
  have ih:=i9 p l;cases e:p a with
  | true=>simp [Jx,e];lia
  | false=>simp [Jx,e];lia
theorem BN {g d:Type} [DecidableEq d] (f:g->d):∀ (B:List d) (l:List g),(∀ x∈l,f x∈B)->(∀ b,(l.filter λx=>decide (f x=b)).length<=2)->l.length<=2 * B.length
 | [],l,h,_=>by
  cases l with
  | nil=>exact Iu _
  | cons a l=>exact absurd (h a Ik) (by simp)
 | b :: B,l,h,h2=>by
  have e:=i9 (λx=>decide (f x=b)) l;have ih:=BN f B (l.filter λx=>!decide (f x=b)) (λx j=>by
   obtain⟨m,i⟩:=Jd.mp j;rcases Iv.mp (h x m) with z | z
   ·rw [NN z] at i;cases i
   ·exact z) λc=>by
   rw [List.filter_filter];refine IS ?_ (h2 c);refine List.Sublist.length_le ?_;have:(λx=>decide (f x=c) && !decide (f x=b))=λx=>(λx=>!decide (f x=b)) x && decide (f x=c):=by funext x;exact Bool.and_comm _ _
   rw [this,<- List.filter_filter];exact Mi
  have:=h2 b;rw [IJ];lia
noncomputable def BL:List Pt:=((IQ 8).flatMap λ(a:Nat)=>(IQ 8).map λ(b:Nat)=>((a:Int) - 1,(b:Int) - 1)).filter λp=>decide ((p.1+p.2) % 2=0) && !(decide (p.1=-1) && decide (p.2=-1))
theorem Gz:BL.length=31:=by decide +kernel
section
variable {NI:Ot} {wd:Nat} {h:Int} {rl ru:List (Bool×List Pt)}
theorem HI (g:Good wd NI) {e:Gt} (n:vC NI wd e):bk e∈BL:=by
 obtain⟨i,m,p⟩:=n;obtain⟨x,y,v⟩:=e;have f:yb NI wd x y=NS:=m;unfold yb at f;rw [Io,decide_eq_true_iff,decide_eq_true_iff] at f;have q:=g.w2;have r:=g.h2;have c:∀ a b:Int,-1<=a->a<=6->-1<=b->b<=6->(a+b) % 2=0->¬ (a=-1/\b=-1)->(a,b)∈BL:=λa b A u t s d l=>by
  unfold BL;rw [Jd,Jl];refine⟨⟨(a+1).toNat,Jb.mpr (by lia),ID.mpr ⟨(b+1).toNat,Jb.mpr (by lia),K9 (by dsimp only;lia) (by dsimp only;lia)⟩⟩,?_⟩;rw [Io];refine⟨NN d,?_⟩;by_cases j:a=-1
  ·have o:¬ b=-1:=λz=>l ⟨j,z⟩;simp [o]
  ·simp [j]
 unfold bk;dsimp only at i f ⊢;by_cases d:(x+y) % 2=0
 ·rw [NM d];exact c x y (by lia) (by lia) (by lia) (by lia) d (by lia)
 ·rw [NL d];rcases i with rfl | rfl
  ·rw [NM rfl];exact c x (y - 1) (by lia) (by lia) (by lia) (by lia) (by lia) (by lia)
  ·rw [NL (by decide)];exact c (x - 1) y (by lia) (by lia) (by lia) (by lia) (by lia) (by lia)
theorem ke (g:Good wd NI) (T:Two NI wd h rl ru) {ks:List Key} (G:ks.Nodup) (J:∀ k∈ks,vd NI wd h rl ru k):ks.length<=62:=by
 have y:∃ f:Key->Gt,∀ k∈ks,vC NI wd (f k)/\vW NI h rl ru (f k) k:=by
  refine⟨λk=>Classical.epsilon λe=>vC NI wd e/\vW NI h rl ru e k,λk c=>?_⟩;exact Classical.epsilon_spec (p:=λe=>vC NI wd e/\vW NI h rl ru e k) (uB g T (J k c))
 obtain⟨f,q⟩:=y;have:=BN (λk=>bk (f k)) BL ks (λk c=>HI g (q k c).1) λb=>?_
 ·rw [Gz] at this;exact this
 have sub:(ks.filter λk=>decide (bk (f k)=b)).Sublist ks:=Mi;have i:=G.sublist sub;have a:∀ k∈ks.filter λk=>decide (bk (f k)=b),k∈ks/\bk (f k)=b:=λk c=>⟨(Jd.mp c).1,N4 (Jd.mp c).2⟩
 revert i a
 match (ks.filter λk=>decide (bk (f k)=b)) with
 | []=>intro _ _;exact IV _
 | [_]=>intro _ _;exact L8 _
 | [_,_]=>intro _ _;exact Iu _
 | ka :: kb :: kc :: r =>
  intro i a;exfalso;obtain⟨A,I⟩:=Jp.mp i;obtain⟨H,S⟩:=Jp.mp I;have o:ka≠kb:=λz=>A (z▸Ik);have n:ka≠kc:=λz=>A (z▸Ii _ Ik);have m:kb≠kc:=λz=>H (z▸Ik);obtain⟨D,R⟩:=a ka Ik;obtain⟨C,Q⟩:=a kb (Ii _ Ik);obtain⟨B,O⟩:=a kc (Ii _ (Ii _ Ik));have l:∀ {k:Key},k∈ks->bk (f k)=b->∃ j:_root_.Fin 4,f k=gt b.1 b.2 j:=λ{k} c e=>by
   obtain⟨j,E⟩:=HF (q k c).1.1;rw [e] at E;exact⟨j,E⟩
  obtain⟨X,N⟩:=l D R;obtain⟨W,M⟩:=l C Q;obtain⟨U,L⟩:=l B O;have x:=q ka D;have t:=q kb C;have s:=q kc B;rw [N] at x;rw [M] at t;rw [L] at s;have d:∀ {j j':_root_.Fin 4} {k k':Key},vC NI wd (gt b.1 b.2 j)/\vW NI h rl ru (gt b.1 b.2 j) k->vW NI h rl ru (gt b.1 b.2 j') k'->k≠k'->j≠j':=λ{j j' k k'} u v F z=>by
   subst z;exact F (EdgeK.one T u.1.2.1 u.1.2.2 (uz u.1.1) u.2 v)
  exact no3 T (d x t.2 o) (d t s.2 m) (d x s.2 n) x.1 t.1 s.1 x.2 t.2 s.2 o m n
end
noncomputable def yh (NI:Ot) (N0:Int) (rl ru:List (Bool×List Pt)) (t:Bool×List Gt):Key:=(ixR rl (hpt NI N0 NS (hdG t)),ixR ru (hpt NI N0 NV (hdG t)))
noncomputable def plc (k:Key) (a:List Key):Om:=(IQ a.length).filter λi=>decide (a[i]?=NQ k)
noncomputable def bj (NI:Ot) (wd:Nat) (h:Int) (rl ru:List (Bool×List Pt)) (k:Key):List Pt:=(y7 NI.length wd).filter λp=>decide (hgt NI p=h) && decide ((ixR rl p,ixR ru p)=k)
noncomputable def eV (NI:Ot) (h:Int) (c:Pt):Bool:=decide (4 * h - 2<=om NI c.1 c.2) && decide (om NI c.1 c.2<4 * h+2)
noncomputable def cE (c:Pt):List Pt:=[(c.1,c.2),(c.1+1,c.2),(c.1+1,c.2+1),(c.1,c.2+1)]
noncomputable def DR (rl ru:List (Bool×List Pt)) (k:Key) (c:Pt):Bool:=(cE c).any (λp=>decide (ixR rl p=k.1)) && (cE c).any λp=>decide (ixR ru p=k.2)
noncomputable def xx (NI:Ot) (wd:Nat) (h:Int) (rl ru:List (Bool×List Pt)) (k:Key):List Pt:=(y7 (NI.length - 1) (wd - 1)).filter λc=>eV NI h c && DR rl ru k c
noncomputable def xy (l:Om):NR:=.tuple (l.map λ(i:Nat)=>.int i)
noncomputable def bo (NI:Ot) (wd:Nat) (h:Int) (rl ru:List (Bool×List Pt)) (bs a:List Key) (k:Key):NR:=.tuple [.int h,xy (plc k bs),xy (plc k a),.tuple ((bj NI wd h rl ru k).map pD),.tuple ((xx NI wd h rl ru k).map pD)]
theorem fB {k:Key} {a:List Key} {i:Nat}:i∈plc k a↔a[i]?=NQ k:=by
 unfold plc;rw [Jd,Jb,decide_eq_true_iff];exact⟨λz=>z.2,λz=>⟨(Ig.mp z).1,z⟩⟩
theorem dI {d:Type} {F:d->NR} (c:∀ a b,F a=F b->a=b):∀ {l m:List d},l.map F=m.map F->l=m
 | [],[],_=>rfl
 | [],_ :: _,h=>by cases h
 | _ :: _,[],h=>by cases h
 | a :: l,b :: m,h=>by
  rw [IL,IL] at h;obtain⟨f,e⟩:=List.cons.inj h;rw [c a b f,dI c e]
theorem DS (a b:Nat) (h:(PyData.int (a:Int))=.int (b:Int)):a=b:=by
 have:=PyData.int.inj h;lia
section
variable {NI:Ot} {wd:Nat} {h:Int} {rl ru:List (Bool×List Pt)}
theorem kf (T:Two NI wd h rl ru) {c:Int} (j:c=h - 1 \/ c=h) {t:Bool×List Gt} (L:LineOk NI wd c t.1 t.2) {e:Gt} (n:e∈t.2):yh NI c rl ru t=(ixR rl (hpt NI c NS e),ixR ru (hpt NI c NV e)):=by
 have a:=uy L;have b:=L.op _ (LP a);obtain⟨i,g⟩:=Jc n;have m:=gU (h:=NS) L a i e g;have l:=gU (h:=NV) L a i e g;have f:=gT (h:=NS) b;have d:=gT (h:=NV) b;unfold yh;have p:ixR rl (hpt NI c NS (hdG t))=ixR rl (hpt NI c NS e):=qr T.lo f.1 (sG (c':=h - 1) (by rcases j with rfl | rfl <;> lia) f.2 m).1;have o:ixR ru (hpt NI c NV (hdG t))=ixR ru (hpt NI c NV e):=qr T.up d.1 (xw (c':=h) (by rcases j with rfl | rfl <;> lia) d.2 l).1;rw [<-p,<- o]
theorem uD {e:Gt} (o:vC NI wd e) {u v:Pt} (a:(u=(e.1,e.2.1)/\v=(px e.1 e.2.2,py e.2.1 e.2.2)) \/ (v=(e.1,e.2.1)/\u=(px e.1 e.2.2,py e.2.1 e.2.2))) (n:h<=hgt NI u) (p:hgt NI v<h):opG NI wd (h - 1) e=NS/\hpt NI (h - 1) NS e=u/\hpt NI (h - 1) NV e=v:=by
 obtain⟨g,m,l⟩:=o;obtain⟨x,y,w⟩:=e;have j:=dG.mpr n;have i:hiP NI (h - 1) v=NV:=dH.mpr (by lia);have f:yb NI wd x y=NS:=m;have d:yb NI wd (px x w) (py y w)=NS:=l;rcases a with⟨rfl,rfl⟩ | ⟨rfl,rfl⟩
 ·have b:hiB NI (h - 1) x y=NS:=j;have c:hiB NI (h - 1) (px x w) (py y w)=NV:=i;refine⟨?_,NM b,NL (by show ¬ hiB NI (h - 1) x y=NV;rw [b];exact MS)⟩;unfold opG yS aE;unfold hiB at b c;rw [f,d,b,c,NN g];rfl
 ·have b:hiB NI (h - 1) x y=NV:=i;have c:hiB NI (h - 1) (px x w) (py y w)=NS:=j;refine⟨?_,NL (by show ¬ hiB NI (h - 1) x y=NS;rw [b];exact MS),NM b⟩;unfold opG yS aE;unfold hiB at b c;rw [f,d,b,c,NN g];rfl
theorem BO (g:Good wd NI) (T:Two NI wd h rl ru) {ts:List (Bool×List Gt)} (X:Told NI wd (h - 1) ts) (W:∀ g,opG NI wd (h - 1) g=NS->g∈flat ts) {H:List Key} {k f:Key} (m:vd NI wd h rl ru k)
  (e:bo NI wd h rl ru (ts.map (yh NI (h - 1) rl ru)) H k=bo NI wd h rl ru (ts.map (yh NI (h - 1) rl ru)) H f):k=f:=by
 unfold bo at e;have G:=PyData.tuple.inj e;simp only [List.cons.injEq,and_true,true_and] at G;obtain⟨R,Z,Q,Y⟩:=G;have C:plc k (ts.map (yh NI (h - 1) rl ru))=plc f (ts.map (yh NI (h - 1) rl ru)):=dI DS (PyData.tuple.inj R);have A:bj NI wd h rl ru k=bj NI wd h rl ru f:=dI (λa b=>aF) (PyData.tuple.inj Q);have q:∀ {p:Pt},inP NI wd p=NS->hgt NI p=h->(ixR rl p,ixR ru p)=k->k=f:=λ{p} J L r=>by
  have:p∈bj NI wd h rl ru k:=by
   unfold bj;rw [Jd,Io,decide_eq_true_iff,decide_eq_true_iff];exact⟨jm.mpr J,L,r⟩
  rw [A] at this;unfold bj at this;rw [Jd,Io,decide_eq_true_iff,decide_eq_true_iff] at this;exact r.symm.trans this.2.2
 obtain⟨c,j,r⟩:=uB g T m;have n:((px c.1 c.2.2,py c.2.1 c.2.2):Pt)∈nbL (c.1,c.2.1):=uz j.1;have d:∀ {u v:Pt},((u=(c.1,c.2.1)/\v=(px c.1 c.2.2,py c.2.1 c.2.2)) \/ (v=(c.1,c.2.1)/\u=(px c.1 c.2.2,py c.2.1 c.2.2)))->inP NI wd u=NS->inP NI wd v=NS->v∈nbL u->i8 NI h rl ru u v k->k=f:=λ{u v} z y x D l=>by
  obtain⟨a,b,B⟩:=l;by_cases U:hgt NI u=h
  ·exact q y U (by rw [B,T.adjU y x D (by lia) b])
  by_cases S:hgt NI v=h
  ·exact q x S (by rw [B,T.adjL y x D a (by lia)])
  obtain⟨I,O,N⟩:=uD j z a (by lia);obtain⟨t,E,M⟩:=Jl.mp (W _ I);obtain⟨i,F⟩:=Jc E;have s:=kf T (.inl rfl) (X.line t E) M;rw [O,N,<- B] at s;have o:i∈plc k (ts.map (yh NI (h - 1) rl ru)):=fB.mpr (by rw [Iq,F,KO,s]);rw [C,fB,Iq,F,KO,s] at o;exact N1 o
 rcases r with l | l
 ·exact d (.inl ⟨rfl,rfl⟩) j.2.1 j.2.2 n l
 ·exact d (.inr ⟨rfl,rfl⟩) j.2.2 j.2.1 (aH n) l
end
theorem gX:∀ {es:Oo} {p:Nat->Int->Prop},(∀ (i:Nat) e,es[i]?=NQ e->∃ n:Int,e=.int n/\p i n)->∃ ns:Oh,es=ns.map .int/\∀ (i:Nat) n,ns[i]?=NQ n->p i n
 | [],p,_=>⟨[],rfl,λi n h=>by cases h⟩
 | e :: es,p,h=>by
  obtain⟨n,rfl,c⟩:=h 0 e rfl;obtain⟨ns,rfl,b⟩:=gX (es:=es) (p:=λi=>p (i+1)) λi f d=>h (i+1) f (by simpa using d);refine⟨n :: ns,rfl,λi m a=>?_⟩;cases i with
  | zero=>cases a;exact c
  | succ i=>exact b i m (by simpa using a)
abbrev HJ (c:Ot×Nat) (xs:List DV):Prop:=xs=[.dat (tab c.1)]/\Good c.2 c.1
abbrev uE (K:Ih):Sp:=spD K 1 HJ λc r=>r=.list (qB (c.1.length - 1) (c.2 - 1))
theorem BP (F:Def K mg "cells" ft pf) (c:mg "range"=NW) (o:FnIn P w K mg base k "size" pf (sg K)):FnIn P w K mg base (k+1) "cells" pf (uE K):=by
 refine F.ok gG rfl λU J A p s H E t=>⟨_,(ze (z8 (zg o t rfl (zc (pv 0) zd)) (zJ (K:=K) (n:=2) rfl rfl (zh (zf (i:=1) gG.nd) (zh (zf (i:=2) gG.nd rfl (N3 rfl) (N2 rfl)) zF)))) (zm (zz (fR (N:=pN) (own:=2) (fr:=[2]) (by walk_at "c") rfl (jN rfl c (zc (zA yK (pv 1) zp) zd)) (λ_ _ _ _=>(zf (i:=0) (show (pN:Oa).Nodup by decide +kernel))) (λ_ _ _ _=>ye) (λ_ _ _ _=>(jN rfl c (zc (zA yK (pv 2) zp) zd))) (λ_ _ _ _=>(zf (i:=1) (show (pN:Oa).Nodup by decide +kernel))) (λ_ _ _ _=>ye) (λ_ _ _ _=>(zH (zc (pv 0) (zc (pv 1) zd)))) rfl rfl (λ_=>rfl) (λ_ _ _ _ _=>rfl))))),?_⟩;rintro f L ⟨a,b⟩ R ⟨rfl,g⟩
 try dsimp only [zV,zk]
 dsimp only at *;have S:=g.h2;have M:=g.w2;have T:=g.h1;have O:=g.w1;refine yt (zY (zt (a,b) ?_));walk_at "w";rintro _ rfl;refine yo rfl (zq (zj (zq (zj (zT ?_)))));have G:((b:Int) - 1).toNat=b - 1:=by lia
 have I:((a.length:Int) - 1).toNat=a.length - 1:=by lia
 refine yD (PEdO.ped (vH (cN (zv (bS (zr rfl ⟨_,rfl,yQ ⟨_,rfl,zP ⟨_,rfl,by dsimp only;lia,by dsimp only;lia,λn l e=>(∃ u v,l=[u,v,NQ (.dat (.int a.length))])/\e=qB (a.length - 1) n,⟨⟨_,_,rfl⟩,rfl⟩,?_,?_⟩⟩⟩))))))
 ·rintro D n d j e C ⟨⟨u,v,rfl⟩,rfl⟩;obtain⟨y,rfl⟩:=aZ C;have x:n<b - 1:=by have:n<((b:Int) - 1).toNat:=y;lia
  have Q:(a.length - 1) * n<=7 * 7:=Kc (by lia) (by lia);refine zj (ju ?_);rw [NM rfl];refine CB (cN (zv (bS (zr rfl ⟨_,rfl,yQ ⟨_,rfl,zP ⟨_,rfl,by lia,by lia,λm l e=>(∃ v,l=[NQ (.dat (.int n)),v,NQ (.dat (.int a.length))])/\e=qB (a.length - 1) n++(IQ m).map (Bl n),⟨⟨_,rfl⟩,by simp⟩,?_,?_⟩⟩⟩))))
  ·rintro m d h r q ⟨⟨v,rfl⟩,rfl⟩;obtain⟨B,rfl⟩:=aZ q;have z:m<a.length - 1:=by have:m<((a.length:Int) - 1).toNat:=B;lia
   refine zj (ju ?_);rw [NM rfl];refine yx (by rw [IE,lZ,Ib,Jh];lia) ?_;walk_at "w";rw [K8,IM,J0];rfl
  ·rintro h r ⟨⟨v,rfl⟩,rfl⟩;rw [bH,I];exact⟨⟨_,_,rfl⟩,by rw [gK]⟩
 ·rintro j e ⟨_,rfl⟩;rw [bH];dsimp only;rw [G]
theorem oF {R:Int->Int->Prop} (t:∀ a b c,R a b->R b c->R a c) {NI:Ot} {ns:Oh} (o:ns.length=NI.length) (q:∀ (i:Nat) n,ns[i]?=NQ n->∃ r,NI[i]?=NQ r/\n∈r/\∀ z∈r,R n z) {m:Int} (y:m∈ns) (j:∀ b∈ns,R m b):m∈NI.flatten/\∀ n∈NI.flatten,R m n:=by
 obtain⟨u,l⟩:=Jc y;obtain⟨A,p,f,_⟩:=q u m l;refine⟨Jz.mpr ⟨_,Ir p,f⟩,λn h=>?_⟩;obtain⟨r,x,g⟩:=Jz.mp h;obtain⟨i,s⟩:=Jc x;have d:i<ns.length:=by rw [o];exact (Ig.mp s).1
 obtain⟨B,e,_,v⟩:=q i _ (Ia d);rw [s] at e;cases e;exact t _ _ _ (j _ (Jm d)) (v n g)
theorem BQ {wd:Nat} {NI:Ot} (g:Good wd NI) {i:Nat} {d:NR} (a:(NI.map λr=>PyData.list (r.map .int))[i]?=NQ d):∃ r,NI[i]?=NQ r/\d=.list (r.map .int)/\r≠[]:=by
 rw [Iq] at a;obtain⟨r,b,rfl⟩:=Ky.mp a;have c:=g.row r (Ir b);have e:=g.w1;exact⟨r,b,rfl,by rintro rfl;simp at c;lia⟩
abbrev gY (K:Ih):Sp:=spD K 1 (λ(c:Ot×Nat) a=>a=[.dat (tab c.1)]/\Good c.2 c.1) λc r=>∃ m M:Int,r=.tuple [.int m,.int M]/\(m∈c.1.flatten/\∀ n∈c.1.flatten,m<=n)/\M∈c.1.flatten/\∀ n∈c.1.flatten,n<=M
theorem DT (F:Def K mg "span" lQ pf) (l:mg "min"=NW) (o:mg "max"=NW) (u:FnIn P w K mg base k "ask_table" pf (bX K)):FnIn P w K mg base (k+1) "span" pf (gY K):=by
 refine F.ok Di rfl λfa Z A v s H E T=>⟨_,(ze (yI (zg u T rfl (zc (pv 0) zd))) (zm (zz (zH (zc (zB (dR (K:=K) rfl rfl) rfl l boot_min (zc (yq (N:=pG) (own:=1) (fr:=[]) (by walk_at "c") rfl (zK (K:=K) rfl (pv 0)) (λ_ _ _ _=>(zf (i:=0) (show (pG:Oa).Nodup by decide +kernel))) (λ_ _ _ _=>ye) (λ_ _ _ _=>(zB (dR (K:=K) rfl rfl) rfl l boot_min (zc (pv 0) zd))) rfl rfl (λ_=>rfl)) zd)) (zc (zB (br (K:=K) rfl rfl) rfl o boot_max (zc (yq (N:=pG) (own:=1) (fr:=[]) (by walk_at "c") rfl (zK (K:=K) rfl (pv 0)) (λ_ _ _ _=>(zf (i:=0) (show (pG:Oa).Nodup by decide +kernel))) (λ_ _ _ _=>ye) (λ_ _ _ _=>(zB (br (K:=K) rfl rfl) rfl o boot_max (zc (pv 0) zd))) rfl rfl (λ_=>rfl)) zd)) zd)))))),?_⟩;rintro f xs ⟨q,Q⟩ hl ⟨rfl,g⟩
 try dsimp only [zV,zk]
 dsimp only at *;have g1:=g.h1;have g2:=g.h2;have t:(q.map λr=>PyData.list (r.map .int)).length=q.length:=Ib _;refine yt (vG (zt (q,Q) ?_));walk_at "w";rintro _ rfl;refine yD (qk (zv (o4 (zv (td (zr rfl ⟨_,rfl,by rw [t];lia,λi e=>∃ n:Int,e=.int n/\∃ r,q[i]?=NQ r/\n∈r/\∀ z∈r,n<=z,λD i d J=>?_,λes j X=>?_⟩))))))
 ·obtain⟨r,O,rfl,C⟩:=BQ g J;exact o4 (zv (zr rfl (zP ⟨r,rfl,C,λM p h=>⟨M,rfl,r,O,p,h⟩⟩)))
 obtain⟨S,rfl,U⟩:=gX X;rw [Ib,t] at j;refine zP ⟨S,rfl,by rintro rfl;simp at j;lia,λm W I=>?_⟩;refine zv (kK (zv (td (zr rfl ⟨_,rfl,by rw [t];lia,λi e=>∃ n:Int,e=.int n/\∃ r,q[i]?=NQ r/\n∈r/\∀ z∈r,z<=n,λD i d J=>?_,λY c L=>?_⟩))))
 ·obtain⟨r,O,rfl,C⟩:=BQ g J;exact kK (zv (zr rfl (zP ⟨r,rfl,C,λM p h=>⟨M,rfl,r,O,p,h⟩⟩)))
 obtain⟨B,rfl,G⟩:=gX L;rw [Ib,t] at c;refine zP ⟨B,rfl,by rintro rfl;simp at c;lia,λM p h=>?_⟩;exact zP ⟨_,rfl,IG rfl,m,M,rfl,oF (R:=λa b=>a<=b) (λ_ _ _=>LM) j U W I,oF (R:=λa b=>b<=a) (λ_ _ _ x y=>LM y x) c G p h⟩
noncomputable def vD (rl ru:List (Bool×List Pt)) (p:Pt):NR:=.tuple [.int (ixR rl p),.int (ixR ru p)]
def kg (NI:Ot) (wd:Nat) (rl ru:List (Bool×List Pt)) (kvs:Ow):Prop:=∀ p,inP NI wd p=NS->jL (pD p) kvs=NQ (vD rl ru p)
abbrev HK (c:Ot×Nat×Int) (xs:List DV):Prop:=xs=[.dat (tab c.1),.dat (.int c.2.2)]/\Good c.2.1 c.1
def GA (w:NX) (K:Ih) (c:Ot×Nat×Int) (x:DV):Prop:=∃ d b a,x=.mon (qE w K a)/\Two c.1 c.2.1 c.2.2 d b/\d.length<=49/\b.length<=49/\kg c.1 c.2.1 d b a
abbrev BR (w:NX) (K:Ih):Sp:=spV K 2 HK (GA w K)
theorem DU (F:Def K mg "both_regions" jH pF) (m:FnIn P w K mg base k "indexes" pz (i7 w K)) (t:FnIn P w K mg base k "points" pf (vU K)):FnIn P w K mg base (k+1) "both_regions" pF (BR w K):=by
 refine F.okV qw rfl λfa cdv A B s H E l=>⟨_,(ze (zL (i:=2) qw.nd rfl (N3 rfl) (zg m l rfl (zc (pv 0) (zc (zA yK (pv 1) zp) zd)))) (ze (zL (i:=3) qw.nd rfl (N3 rfl) (zg m l rfl (zc (pv 0) (zc (pv 1) zd)))) (zm (zz (wR (w:=w) (K:=K) (N:=["point","lower","upper"]) (own:=1) (fr:=[2,3])  rfl rfl l.units (by walk_at "c") rfl (zK (K:=K) rfl (zg t l rfl (zc (pv 0) zd))) (λ_ _ _ _=>(zf (i:=0) (show (["point","lower","upper"]:Oa).Nodup by decide +kernel) rfl (N2 rfl) (N3 rfl))) (λ_ _ _ _=>ye) (λ_ _ _ _=>(pv 0)) (λ_ _ _ _=>(zH (zc (zX (qD (w:=w) (K:=K) rfl rfl l.units) (pv 1) (pv 0) (λ_ _=>rfl)) (zc (zX (qD (w:=w) (K:=K) rfl rfl l.units) (pv 2) (pv 0) (λ_ _=>rfl)) zd)))) rfl rfl (λ_=>rfl)))))),?_⟩;rintro f xs ⟨j,b,h⟩ hl ⟨rfl,g⟩
 try dsimp only [zV,zk]
 dsimp only at *;have g2:=g.h2;have R:=g.w2;have M:(y7 j.length b).length<=49:=by
  rw [vb];exact Kc g2 R
 refine Et (rF (rE (j,b,h - 1) ?_));walk_at "w";rintro _ ⟨y,G,rfl,L,Y,T⟩;refine Et (rF (rE (j,b,h) ?_));walk_at "w";rintro _ ⟨v,C,rfl,R2,X,S⟩;dsimp only at L R2;have W:∀ p,inP j b p=NS->jL (pD p) G=NQ (.int (ixR y p)):=λp c=>by
  obtain⟨x,J,I⟩:=ux L c;exact T _ x _ J I
 have U:∀ p,inP j b p=NS->jL (pD p) C=NQ (.int (ixR v p)):=λp c=>by
  obtain⟨x,J,I⟩:=ux R2 c;exact S _ x _ J I
 refine Hm (FV (w:=w) (Dc (yg (zt (j,b) (bN rfl ⟨rfl,⟨rfl,g⟩,?_⟩)))));rintro _ rfl;dsimp only;rw [dC];refine⟨_,rfl,λn Q a=>(∃ u,Q=[u,NQ (.mon (qE w K G)),NQ (.mon (qE w K C))])/\a.length<=n/\∀ p∈(y7 j.length b).take n,jL (pD p) a=NQ (vD y v p),⟨⟨_,rfl⟩,Iu _,(λp Z=>by cases Z)⟩,?_,?_⟩
 ·rintro D n d _ a o ⟨⟨u,rfl⟩,kl,r⟩;rw [Iq] at o;cases eq:(y7 j.length b)[n]? with
  | none=>rw [eq] at o;cases o
  | some p =>
   rw [eq] at o;cases o;have c:=jm.mp (Ir eq);have hnl:=(Ig.mp eq).1;refine zj (ju ?_);rw [NM rfl];refine C8 (by lia) (zr rfl ⟨jo p,qk (zv (eN (w:=w) (v_var rfl ⟨G,rfl,zr rfl ⟨jo p,_,W p c,zv (eN (w:=w) (v_var rfl ⟨C,rfl,zr rfl ⟨jo p,_,U p c,zP ⟨_,rfl,IG rfl,⟨_,rfl⟩,?_,λq O=>?_⟩⟩⟩))⟩⟩)))⟩)
   ·exact IS (dB _ _ _) (by lia)
   ·rw [JE,eq] at O;by_cases e:q=p
    ·rw [e];exact iT ..
    ·rw [cw _ (λz=>e (aF z))];rcases Iz.mp O with z | z
     ·exact r q z
     ·exact absurd (Iw.mp z) e
 ·rintro _ a ⟨_,_,r⟩;rw [Ib,Jk] at r;exact⟨a,rfl,y,v,a,rfl,⟨L,R2⟩,Y,X,λp c=>r p (jm.mpr c)⟩
theorem GB {K:Ih} {f:Fx} {a:zu} {e d:TE} {P:NR->Prop} (b c:Bool) (h:PEd K f e a λx=>x=.bool b) (g:b=NS->PEd K f d a λx=>x=.bool c) (p:P (.bool (b && c))):PEd K f (xI e d) a P:=by
 refine fS (h.imp λx j=>⟨b,j,?_⟩);cases b with
 | true=>rw [NM rfl];exact (g rfl).imp λy i=>by subst i;exact p
 | false=>rw [NL Ie];exact p
abbrev HL (c:Ot×Nat×Int×Pt) (xs:List DV):Prop:=xs=[.dat (tab c.1),.dat (.int c.2.2.1),.dat (pD c.2.2.2)]/\Good c.2.1 c.1/\va c.1 c.2.1 c.2.2.2=NS
abbrev uF (K:Ih):Sp:=spD K 3 HL λc r=>r=.bool (eV c.1 c.2.2.1 c.2.2.2)
theorem BS (F:Def K mg "has_middle_at" jl pS) (b:mg "sum"=NW) (d:FnIn P w K mg base k "corners" pH (bI K)):FnIn P w K mg base (k+1) "has_middle_at" pS (uF K):=by
 refine F.ok jU rfl λW S A j s H E J=>⟨_,(ze (z8 (pv 2) (zJ (K:=K) (n:=2) rfl rfl (zh (zf (i:=3) jU.nd) (zh (zf (i:=4) jU.nd) zF)))) (zm (zz (cI bO xQ (zA yK (zA qR zp (pv 1)) zp) (zB (gh (K:=K) rfl rfl) rfl b Na (zc (yq (N:=pC) (own:=2) (fr:=[0]) (by walk_at "c") rfl (zK (K:=K) rfl (zg d J rfl (zc (pv 3) (zc (pv 4) zd)))) (λ_ _ _ _=>(zJ (K:=K) (n:=2) rfl rfl (zh (zf (i:=0) (show (pC:Oa).Nodup by decide +kernel)) (zh (zf (i:=1) (show (pC:Oa).Nodup by decide +kernel)) zF)))) (λ_ _ _ _=>ye) (λ_ _ _ _=>(zX (zM (K:=K) rfl) (zX (zM (K:=K) rfl) (pv 2) (pv 1) (λ_ _=>rfl)) (pv 0) (λ_ _=>rfl))) rfl rfl (λ_=>rfl)) zd)) (zA yd (zA qR zp (pv 1)) zp))))),?_⟩;rintro f T ⟨a,m,h,x,y⟩ U ⟨rfl,g,O⟩
 try dsimp only [zV,zk]
 dsimp only at *;obtain⟨I,G,C,z⟩:=cell_in (show zS a m x y=NS from O);refine yt (zY (zr rfl (yo rfl (zq (zj (zq (zj (zT ?_))))))));have q:CMul 4 h:=N2 (by decide);refine yD (kJ (bS (oY ?_)));refine yQ ⟨_,rfl,zr rfl ⟨_,rfl,q,⟨_,rfl,yQ ⟨_,rfl,⟨_,rfl,Em (PEdO.ped (fX (A:=λp:Int×Int=>PyData.tuple [.int p.1,.int p.2]) (B:=λp:Int×Int=>PyData.int (yc a p.1 p.2)) [(x,y),(x+1,y),(x+1,y+1),(x,y+1)] (yg (zt (x,y) ?_))))⟩⟩⟩⟩⟩;walk_at "w";rintro _ rfl;refine⟨_,rfl,rfl,show 4<=1000 by decide,?_,?_⟩
 ·rintro D p t X o L l;obtain⟨u,v,rfl⟩:=L.two;have M:yb a m p.1 p.2=NS:=by
   simp only [Iv,Jy,or_false] at o;rcases o with rfl | rfl | rfl | rfl
   ·exact I
   ·exact G
   ·exact C
   ·exact z
  obtain⟨r,R,Q⟩:=aY g M;refine yo rfl (zq (zj (zq (zj (zT (ju ?_))))));rw [NM rfl];refine yx l ?_;unfold tab;walk_at "w";refine⟨_,R,?_⟩;walk_at "w";refine⟨_,Q,?_⟩;exact⟨.mk2,rfl⟩
 ·refine⟨[yc a x y,yc a (x+1) y,yc a (x+1) (y+1),yc a x (y+1)],rfl,?_⟩;refine⟨_,rfl,?_⟩;have e:([yc a x y,yc a (x+1) y,yc a (x+1) (y+1),yc a x (y+1)]:Oh).sum=om a x y:=rfl;rw [e];by_cases c:4 * h - 2<=om a x y
  ·rw [NM (NN c)];refine bS (oY ?_);refine yQ ⟨_,rfl,zr rfl ⟨_,rfl,q,⟨_,rfl,yQ ⟨_,rfl,⟨_,rfl,?_⟩⟩⟩⟩⟩;show PyData.bool _=.bool (eV a h (x,y));unfold eV;dsimp only;rw [NN c,Lb]
  ·rw [NL (by rw [NP c];exact Ie)];show PyData.bool NV=.bool (eV a h (x,y));unfold eV;dsimp only;rw [NP c];rfl
noncomputable def kD (k:Key):NR:=.tuple [.int k.1,.int k.2]
abbrev HM (w:NX) (K:Ih) (c:Ot×Nat×Int×Pt×Key×List (Bool×List Pt)×List (Bool×List Pt)×Ow) (xs:List DV):Prop:=xs=[.dat (pD c.2.2.2.1),.dat (kD c.2.2.2.2.1),.mon (qE w K c.2.2.2.2.2.2.2)]/\va c.1 c.2.1 c.2.2.2.1=NS/\kg c.1 c.2.1 c.2.2.2.2.2.1 c.2.2.2.2.2.2.1 c.2.2.2.2.2.2.2
abbrev uG (w:NX) (K:Ih):Sp:=spD K 3 (HM w K) λc r=>r=.bool (DR c.2.2.2.2.2.1 c.2.2.2.2.2.2.1 c.2.2.2.2.1 c.2.2.2.1)
theorem BU (F:Def K mg "spans" fA pT) (o:FnIn P w K mg base k "corners" pH (bI K)):FnIn P w K mg base (k+1) "spans" pT (uG w K):=by
 refine F.ok vT rfl λZ W A r s H E l=>⟨_,(ze (z8 (pv 0) (zJ (K:=K) (n:=2) rfl rfl (zh (zf (i:=3) vT.nd) (zh (zf (i:=4) vT.nd) zF)))) (ze (z8 (pv 1) (zJ (K:=K) (n:=2) rfl rfl (zh (zf (i:=5) vT.nd) (zh (zf (i:=6) vT.nd) zF)))) (ze (yY (i:=7) (N:=["corner","regions_at"]) (own:=1) (fr:=[2]) (by walk_at "c") rfl vT.nd rfl (N2 rfl) (zK (K:=K) rfl (zg o l rfl (zc (pv 3) (zc (pv 4) zd)))) (λ_ _ _ _=>(zf (i:=0) (show (["corner","regions_at"]:Oa).Nodup by decide +kernel) rfl (N2 rfl) (N3 rfl))) (λ_ _ _ _=>ye) (λ_ _ _ _=>(zX (qD (w:=w) (K:=K) rfl rfl l.units) (pv 1) (pv 0) (λ_ _=>rfl))) rfl rfl (λ_=>rfl) (N2 rfl) rfl) (zm (zz (b6 (vh (tw (K:=K) rfl l.units) (pv 5) (yq (N:=pO) (own:=2) (fr:=[]) (by walk_at "c") rfl (zK (K:=K) rfl (pv 7)) (λ_ _ _ _=>(zJ (K:=K) (n:=2) rfl rfl (zh (zf (i:=0) (show (pO:Oa).Nodup by decide +kernel)) (zh (zf (i:=1) (show (pO:Oa).Nodup by decide +kernel)) zF)))) (λ_ _ _ _=>ye) (λ_ _ _ _=>(pv 0)) rfl rfl (λ_=>rfl)) rfl) (fH (vh (tw (K:=K) rfl l.units) (pv 6) (yq (N:=pO) (own:=2) (fr:=[]) (by walk_at "c") rfl (zK (K:=K) rfl (pv 7)) (λ_ _ _ _=>(zJ (K:=K) (n:=2) rfl rfl (zh (zf (i:=0) (show (pO:Oa).Nodup by decide +kernel)) (zh (zf (i:=1) (show (pO:Oa).Nodup by decide +kernel)) zF)))) (λ_ _ _ _=>ye) (λ_ _ _ _=>(pv 1)) rfl rfl (λ_=>rfl)) rfl)))))))),?_⟩;rintro f X ⟨I,C,h,⟨x,y⟩,⟨L,J⟩,g,d,t⟩ Y ⟨rfl,T,U⟩
 try dsimp only [zV,zk]
 dsimp only at *;obtain⟨R,Q,O,M⟩:=cell_in (show zS I C x y=NS from T);refine yt (zY (zr rfl (yo rfl (zq (zj (zq (zj (zT ?_))))))));refine yt (zY (zr rfl (yo rfl (zq (zj (zq (zj (zT ?_))))))));refine yt (zY (PEdO.ped (fX (A:=pD) (B:=vD g d) (cE (x,y)) (yg (zt (x,y) (e8 rfl rfl ⟨rfl,rfl,?_⟩))))));rintro _ rfl;refine⟨_,rfl,rfl,show 4<=1000 by decide,?_,?_⟩
 ·rintro D p c G m j a;obtain⟨u,rfl⟩:=j.one;have S:inP I C p=NS:=by
   simp only [cE,Iv,Jy,or_false] at m;rcases m with rfl | rfl | rfl | rfl
   ·exact R
   ·exact Q
   ·exact O
   ·exact M
  refine zj (ju ?_);rw [NM rfl];refine yx a (eN (w:=w) (v_var rfl ⟨t,rfl,zr rfl ⟨jo p,_,U p S,?_⟩⟩));exact⟨.mk1,rfl⟩
 refine zj ?_;have b:∀ (B:Pt->Nat) (n:Nat),((cE (x,y)).map λp=>PyData.int (B p)).any (λe=>IX e (.int n))=(cE (x,y)).any λp=>decide (B p=n):=λB n=>by
  rw [List.any_map];refine congrArg (λq=>(cE (x,y)).any q) (funext λp=>?_);show IX (.int (B p)) (.int n)=decide (B p=n);rw [du];exact decide_eq_decide.mpr (by lia)
 refine yD (GB ((cE (x,y)).any λp=>decide (ixR g p=L)) ((cE (x,y)).any λp=>decide (ixR d p=J)) ?_ ?_ ?_)
 ·refine El (zr rfl ?_);refine PEdO.ped (fX (A:=vD g d) (B:=λp=>PyData.int (ixR g p)) (cE (x,y)) (yg (zr rfl ?_)));refine⟨_,rfl,rfl,show 4<=1000 by decide,?_,⟨_,rfl,rfl,?_,IG rfl,?_⟩⟩
  ·rintro D p c G m j a;obtain⟨u,v,rfl⟩:=j.two;refine yo rfl (zq (zj (zq (zj (zT (ju ?_))))));rw [NM rfl];exact yx a (zr rfl ⟨.mk2,rfl⟩)
  ·intro e z;obtain⟨p,_,rfl⟩:=ID.mp z;rfl
  ·rw [b]
 ·intro _;refine El (zr rfl ?_);refine PEdO.ped (fX (A:=vD g d) (B:=λp=>PyData.int (ixR d p)) (cE (x,y)) (yg (zr rfl ?_)));refine⟨_,rfl,rfl,show 4<=1000 by decide,?_,⟨_,rfl,rfl,?_,IG rfl,?_⟩⟩
  ·rintro D p c G m j a;obtain⟨u,v,rfl⟩:=j.two;refine yo rfl (zq (zj (zq (zj (zT (ju ?_))))));rw [NM rfl];exact yx a (zr rfl ⟨.mk2,rfl⟩)
  ·intro e z;obtain⟨p,_,rfl⟩:=ID.mp z;rfl
  ·rw [b]
 ·rfl
theorem BV {K:Ih} {f:Fx} {a:zu} {d tu:L2.TT} {B:Bool->Prop} (b c:Bool) (g:PTd K f d a λx=>x=b) (e:b=NS->PTd K f tu a λx=>x=c) (p:B (b && c)):PTd K f (EL d tu) a B:=by
 refine sY (g.imp λx i=>?_);subst i;cases x with
 | true=>rw [NM rfl];exact (e rfl).imp λy h=>by subst h;exact p
 | false=>rw [NL Ie];exact p
theorem mw (a b:Key):IX (kD a) (kD b)=decide (a=b):=by
 show (decide ((a.1:Int)=b.1) && (decide ((a.2:Int)=b.2) && NS))=_;rw [L5,<- Bool.decide_and];refine decide_eq_decide.mpr ⟨λ⟨x,y⟩=>K9 (by lia) (by lia),λz=>by rw [z];exact⟨rfl,rfl⟩⟩
theorem BW {NI:Ot} {wd:Nat} {c:Pt} (h:c∈y7 (NI.length - 1) (wd - 1)):va NI wd c=NS:=by
 unfold y7 at h;obtain⟨x,b,h⟩:=Jl.mp h;obtain⟨y,a,rfl⟩:=ID.mp h;rw [Jb] at b a;unfold va zS yb;simp only [Io,decide_eq_true_eq];lia
theorem fC {K:Ih} {f:Fx} {a:zu} {P:NR->Prop} {NI:Ot} {wd:Nat} {i b jy:Nat} {x y:Int} (g:Good wd NI) (c:yb NI wd x y=NS) (h:a[i]?=NQ (NQ (.dat (tab NI)))) (e:a[jy]?=NQ (NQ (.dat (.int y)))) (d:a[b]?=NQ (NQ (.dat (.int x)))) (p:P (.int (yc NI x y))):PEd K f (tOp (mI K) (tOp (mI K) (yB i) (yB jy)) (yB b)) a P:=by
 obtain⟨r,l,j⟩:=aY g c;exact xZ (xZ (zr h ⟨_,rfl,zr e ⟨_,rfl,_,l,_,rfl,zr d ⟨_,rfl,_,j,p⟩⟩⟩))
abbrev EF (K:Ih):Sp:=spD K 2 (λ(c:Key×List Key) a=>a=[.dat (kD c.1),.dat (.list (c.2.map kD))]/\c.2.length<=500) λc r=>r=xy (plc c.1 c.2)
theorem GC (F:Def K mg "places_of" vw pL) (g:mg "tuple"=NW) (e:mg "enumerate"=NW):FnIn P w K mg base (k+1) "places_of" pL (EF K):=by
 refine F.ok lW rfl λI x A h s H E p=>⟨_,(zm (zz (jO (ql (K:=K) rfl) rfl g Kq (zc (yq (N:=qd) (own:=2) (fr:=[0]) (by walk_at "c") rfl (fV (K:=K) rfl rfl e (zc (pv 1) zd)) (λ_ _ _ _=>(zJ (K:=K) (n:=2) rfl rfl (zh (zf (i:=0) (show (qd:Oa).Nodup by decide +kernel)) (zh (zf (i:=1) (show (qd:Oa).Nodup by decide +kernel)) zF)))) (λ_ _ _ _=>(jW (zR (jD (K:=K) rfl p.units) (pv 1) (pv 2) (z9 _)))) (λ_ _ _ _=>(pv 0)) rfl rfl (λ_=>rfl)) zd)))),?_⟩;rintro f y ⟨q,d⟩ G ⟨rfl,C⟩
 try dsimp only [zV,zk]
 dsimp only at *;have m:∀ a b:Key,IX (kD a) (kD b)=decide (a=b):=λa b=>mw a b;refine yD (fj (zv (PEdO.ped (cq (A:=λi:Nat=>PyData.tuple [.int i,kD (d.getD i (0,0))]) (B:=λi:Nat=>.int i) (λi=>decide (d[i]?=NQ q)) (IQ d.length) (Ai (zv (zr rfl (zP ⟨_,rfl,?_,?_,?_,?_⟩))))))))
 ·refine KR λi=>?_;rw [cM,L9,Iq,Iq];by_cases c:i<d.length
  ·rw [J6 c,Ia c,KO,KO,KO,Il,Ia c];rfl
  ·rw [Jf (by lia),Jf (by rw [Jh];lia)];rfl
 ·rw [Jh];lia
 ·rintro D i o J c r l;obtain⟨u,v,rfl⟩:=r.two;have j:=Jb.mp c;refine yo rfl (zq (zj (zq (zj (zT (yr (qA (zr rfl (zr rfl ⟨rfl,rfl,?_,_,rfl,?_,?_⟩)))))))))
  ·exact IS (JY _ _) (IG rfl)
  ·rw [NL Ie,m,Il,Ia j,Lk];exact decide_eq_decide.mpr ⟨λz=>by rw [z],λz=>N1 z⟩
  ·refine yA (λt=>?_) λt=>?_
   ·exact yx l (zr rfl ⟨.mk2,rfl⟩)
   ·exact .mk2
 ·exact zP (.inl ⟨_,rfl,rfl⟩)
abbrev BX (w:NX) (K:Ih):Sp:=spD K 4 (λ(c:(Ot×Nat×Int)×Key×List (Bool×List Pt)×List (Bool×List Pt)×Ow) a=>a=[.dat (tab c.1.1),.dat (.int c.1.2.2),.dat (kD c.2.1),.mon (qE w K c.2.2.2.2)]/\Good c.1.2.1 c.1.1/\kg c.1.1 c.1.2.1 c.2.2.1 c.2.2.2.1 c.2.2.2.2) λc r=>r=.tuple ((bj c.1.1 c.1.2.1 c.1.2.2 c.2.2.1 c.2.2.2.1 c.2.1).map pD)
theorem DW (F:Def K mg "points_of" vy pB) (e:mg "tuple"=NW) (d:FnIn P w K mg base k "points" pf (vU K)):FnIn P w K mg base (k+1) "points_of" pB (BX w K):=by
 refine F.ok lX rfl λT O A m s H E c=>⟨_,(zm (zz (jO (ql (K:=K) rfl) rfl e Kq (zc (yq (N:=qe) (own:=2) (fr:=[0,1,2,3]) (by walk_at "c") rfl (zK (K:=K) rfl (zg d c rfl (zc (pv 0) zd))) (λ_ _ _ _=>(zJ (K:=K) (n:=2) rfl rfl (zh (zf (i:=0) (show (qe:Oa).Nodup by decide +kernel)) (zh (zf (i:=1) (show (qe:Oa).Nodup by decide +kernel)) zF)))) (λ_ _ _ _=>(jW (PW.pt (kA (zR (jD (K:=K) rfl c.units) (zX (zM (K:=K) rfl) (zX (zM (K:=K) rfl) (pv 2) (pv 1) (λ_ _=>rfl)) (pv 0) (λ_ _=>rfl)) (pv 3) (z9 _)) (fc (zR (jD (K:=K) rfl c.units) (zX (qD (w:=w) (K:=K) rfl rfl c.units) (pv 5) (zH (zc (pv 0) (zc (pv 1) zd))) (λ_ _=>rfl)) (pv 4) (z9 _))))))) (λ_ _ _ _=>(zH (zc (pv 0) (zc (pv 1) zd)))) rfl rfl (λ_=>rfl)) zd)))),?_⟩;rintro f Q ⟨⟨a,b,h⟩,q,l,j,o⟩ R ⟨rfl,g,L⟩
 try dsimp only [zV,zk]
 dsimp only at *;have M:=g.h2;have G:=g.w2;have y:(y7 a.length b).length<=49:=by
  rw [vb];exact Kc M G
 refine yD (fj (zv (PEdO.ped (cq (A:=pD) (B:=pD) (λp=>decide (hgt a p=h) && decide ((ixR l p,ixR j p)=q)) (y7 a.length b) (yg (zt (a,b) (bN rfl ⟨rfl,⟨rfl,g⟩,?_⟩)))))));rintro _ rfl;refine⟨_,rfl,dC _ _,by lia,?_,zP (.inl ⟨_,rfl,rfl⟩)⟩;rintro D p C U I J x;obtain⟨u,v,rfl⟩:=J.two;have t:=jm.mp I;obtain⟨r,z,S⟩:=aY g (show yb a b p.1 p.2=NS from t);refine yo rfl (zq (zj (zq (zj (zT ?_)))));refine BV (decide (hgt a p=h)) (decide ((ixR l p,ixR j p)=q)) (yr (qA ?_)) ?_ ?_
 ·refine fC g (show yb a b p.1 p.2=NS from t) rfl rfl rfl (zr rfl ⟨rfl,rfl,IS (JY _ _) (IG rfl),_,rfl,?_⟩);rw [NL Ie];exact du _ _
 ·intro _;refine yr (qA (eN (w:=w) (v_var rfl ⟨o,rfl,qk (e8 rfl rfl ⟨_,rfl,IG rfl,jo p,_,L p t,zr rfl ⟨rfl,rfl,IS (JY _ _) (IG rfl),_,rfl,?_⟩⟩)⟩)));exact mw (ixR l p,ixR j p) q
 ·refine⟨rfl,?_⟩;refine yA (λz=>?_) λz=>?_
  ·exact yx x (qk (e8 rfl rfl ⟨_,rfl,IG rfl,.mk2,rfl⟩))
  ·exact .mk2
abbrev BY (w:NX) (K:Ih):Sp:=spD K 4 (λ(c:(Ot×Nat×Int)×Key×List (Bool×List Pt)×List (Bool×List Pt)×Ow) a=>a=[.dat (tab c.1.1),.dat (.int c.1.2.2),.dat (kD c.2.1),.mon (qE w K c.2.2.2.2)]/\Good c.1.2.1 c.1.1/\kg c.1.1 c.1.2.1 c.2.2.1 c.2.2.2.1 c.2.2.2.2) λc r=>r=.tuple ((xx c.1.1 c.1.2.1 c.1.2.2 c.2.2.1 c.2.2.2.1 c.2.1).map pD)
theorem DX (F:Def K mg "cells_of" az pB) (l:mg "tuple"=NW) (j:FnIn P w K mg base k "cells" pf (uE K)) (e:FnIn P w K mg base k "has_middle_at" pS (uF K)) (d:FnIn P w K mg base k "spans" pT (uG w K)):FnIn P w K mg base (k+1) "cells_of" pB (BY w K):=by
 refine F.ok n8 rfl λR J A o s H E r=>⟨_,(zm (zz (jO (ql (K:=K) rfl) rfl l Kq (zc (yq (N:=qh) (own:=1) (fr:=[0,1,2,3]) (by walk_at "c") rfl (zK (K:=K) rfl (zg j r rfl (zc (pv 0) zd))) (λ_ _ _ _=>(zf (i:=0) (show (qh:Oa).Nodup by decide +kernel))) (λ_ _ _ _=>(jW (PW.pt (kA (yn (K:=K) rfl (zg e r rfl (zc (pv 1) (zc (pv 2) (zc (pv 0) zd)))) (λ_=>rfl)) (fc (yn (K:=K) rfl (zg d r rfl (zc (pv 0) (zc (pv 3) (zc (pv 4) zd)))) (λ_=>rfl))))))) (λ_ _ _ _=>(pv 0)) rfl rfl (λ_=>rfl)) zd)))),?_⟩;rintro f L ⟨⟨a,b,h⟩,q,n,m,p⟩ O ⟨rfl,g,G⟩
 try dsimp only [zV,zk]
 dsimp only at *;have Q:=g.h2;have M:=g.w2;have v:(y7 (a.length - 1) (b - 1)).length<=49:=by
  rw [vb];exact Kc (show a.length - 1<=7 by lia) (show b - 1<=7 by lia)
 refine yD (fj (zv (PEdO.ped (cq (A:=pD) (B:=pD) (λc=>eV a h c && DR n m q c) (y7 (a.length - 1) (b - 1)) (yg (zt (a,b) (bN rfl ⟨rfl,⟨rfl,g⟩,?_⟩)))))));rintro _ rfl;refine⟨_,rfl,dC _ _,by lia,?_,zP (.inl ⟨_,rfl,rfl⟩)⟩;rintro D c y S z C t;obtain⟨u,rfl⟩:=C.one;have x:va a b c=NS:=BW z;refine zj ?_;refine BV (eV a h c) (DR n m q c) (ji (zt (a,b,h,c) (Hj rfl rfl rfl ⟨rfl,⟨rfl,g,x⟩,?_⟩))) ?_ ?_
 ·rintro _ rfl;exact⟨_,rfl,rfl⟩
 ·intro _;refine ji (zt (a,b,h,c,q,n,m,p) (zv (zr rfl (zv (zr rfl (iS (v_var rfl (zP ⟨rfl,⟨rfl,x,G⟩,?_⟩)))))))) ;rintro _ rfl;exact⟨_,rfl,rfl⟩
 ·refine⟨rfl,?_⟩;refine yA (λI=>?_) λI=>?_
  ·exact yx t (zr rfl ⟨.mk1,rfl⟩)
  ·exact .mk1
theorem BZ {NI:Ot} {wd:Nat} {p:Pt} (g:Good wd NI) (h:inP NI wd p=NS):At2 NI p (hgt NI p):=by
 obtain⟨c,f,b,e⟩:=aX (show yb NI wd p.1 p.2=NS from h);have a:p.2.toNat<NI.length:=by lia
 have i:=g.row _ (Jm a);have d:p.1.toNat<NI[p.2.toNat].length:=by lia
 refine⟨c,b,_,Ia a,?_⟩;unfold hgt yc;rw [Il,Il,Ia a,Lk,Ia d];rfl
abbrev GD (w:NX) (K:Ih):Sp:=spD K 3 (λ(c:(Ot×Nat×Int)×(Gt×List Gt)×List (Bool×List Pt)×List (Bool×List Pt)×Ow) a=>a=[.dat (tab c.1.1),.dat (.tuple ((c.2.1.1 :: c.2.1.2).map gD3)),.mon (qE w K c.2.2.2.2)]/\Good c.1.2.1 c.1.1/\opG c.1.1 c.1.2.1 c.1.2.2 c.2.1.1=NS/\kg c.1.1 c.1.2.1 c.2.2.1 c.2.2.2.1 c.2.2.2.2) λc r=>r=kD (ixR c.2.2.1 (hpt c.1.1 c.1.2.2 NS c.2.1.1),ixR c.2.2.2.1 (hpt c.1.1 c.1.2.2 NV c.2.1.1))
theorem xA (F:Def K mg "pair_beside" j7 pR) (m:gE K "pair_beside"=NS) (z:mg "sorted"=NW) (B:FnIn P w K mg base (k+2) "gate_points" ["gate"] (uh K)):FnIn P w K mg base (k+3) "pair_beside" pR (GD w K):=by
 refine F.okL qY rfl m λfa X Pt A C s H E Q O y=>⟨_,(ze (z8 (rQ (q:="pair_beside") (c:=X) (P:=Pt) (jy:=0) (K:=K) rfl y rfl z (zc (zg B y rfl (zc (zX (jk (K:=K) rfl) (pv 1) zp (λ_ _=>rfl)) zd)) zd) (by decide +kernel) rfl Q O rfl (N4 (by kernel_rfl)) rfl (λ_ _ _ _ _=>rfl) rfl rfl (N4 (by kernel_rfl)) rfl rfl rfl rfl rfl) (kQ (K:=K) (n:=2) rfl rfl (zh (zf (i:=3) qY.nd) (zh (zf (i:=4) qY.nd) zF)))) (zm (zz (zH (zc (zX (jk (K:=K) rfl) (zX (qD (w:=w) (K:=K) rfl rfl y.units) (pv 2) (pv 4) (λ_ _=>rfl)) zp (λ_ _=>rfl)) (zc (zX (jk (K:=K) rfl) (zX (qD (w:=w) (K:=K) rfl rfl y.units) (pv 2) (pv 3) (λ_ _=>rfl)) zp (λ_ _=>rfl)) zd)))))),?_⟩;rintro f xs ⟨⟨b,Y,d⟩,⟨a,l⟩,I,G,o⟩ Z ⟨rfl,g,D,L⟩
 try dsimp only [zV,zk]
 dsimp only at *;have U:=gT (h:=NS) D;have T:=gT (h:=NV) D;have M:PEd K f (tOp (u9 K) (yB 1) (tC (V.int 0))) (jC bW [DV.dat (tab b),DV.dat (PyData.tuple (LJ gD3 (a :: l))),DV.mon (qE w K o)]) λx=>x=gD3 a:=eG (zr rfl ⟨_,rfl,yQ ⟨_,rfl,_,vA (k:=0) (j:=0) (xs:=a :: l) rfl (LG _),rfl⟩⟩);have u:∀ J lo:My.Pt,J=hpt b d NS a->lo=hpt b d NV a->PSd K f (g9 (EY (yy (tOp (u9 K) (tOp (d8 w K) (yB 2) (yB 4)) (tC (V.int 0))) (yy (tOp (u9 K) (tOp (d8 w K) (yB 2) (yB 3)) (tC (V.int 1))) qC)))) [NQ (.dat (tab b)),NQ (.dat (PyData.tuple (LJ gD3 (a :: l)))),NQ (.mon (qE w K o)),NQ (.dat (pD lo)),NQ (.dat (pD J))] { nx:=λx=>PyData.none=kD (ixR I (hpt b d NS a),ixR G (hpt b d NV a)),rt:=λr=>r=kD (ixR I (hpt b d NS a),ixR G (hpt b d NV a)) }:=by
  rintro _ _ rfl rfl;refine yD (qk (zv (eG (eN (w:=w) (v_var rfl ⟨o,rfl,zr rfl ⟨jo _,_,L _ U.1,⟨_,rfl,yQ ⟨_,rfl,_,rfl,?_⟩⟩⟩⟩)))));exact zv (eG (eN (w:=w) (v_var rfl ⟨o,rfl,zr rfl ⟨jo _,_,L _ T.1,⟨_,rfl,yQ ⟨_,rfl,_,rfl,zP ⟨_,rfl,IG rfl,rfl⟩⟩⟩⟩⟩)))
 have p:=D;unfold opG yS aE at p;rw [Io,Io,Io] at p;obtain⟨⟨_,S,R⟩,v⟩:=p;have N:(decide (d<yc b a.1 a.2.1)=NS/\decide (d<yc b (px a.1 a.2.2) (py a.2.1 a.2.2))=NV) \/ (decide (d<yc b a.1 a.2.1)=NV/\decide (d<yc b (px a.1 a.2.2) (py a.2.1 a.2.2))=NS):=by
  cases e1:decide (d<yc b a.1 a.2.1) <;> cases e2:decide (d<yc b (px a.1 a.2.2) (py a.2.1 a.2.2)) <;> rw [e1,e2] at v <;> first | (cases v;done) | exact .inl ⟨rfl,rfl⟩ | exact .inr ⟨rfl,rfl⟩
 rw [decide_eq_true_iff,decide_eq_false_iff_not,decide_eq_true_iff,decide_eq_false_iff_not] at N;refine yt (zY (wW rfl (zv (zt a (zv (M.imp λx W=>?_))))));subst W;refine zP ⟨rfl,rfl,?_⟩;rintro _ rfl;refine zP ⟨(a.1,a.2.1),(px a.1 a.2.2,py a.2.1 a.2.2),_,_,rfl,BZ g S,BZ g R,?_,λt=>?_,λt=>?_⟩
 ·intro e;unfold hgt at e;dsimp only at e;rw [e] at v;simp at v
 ·refine tm rfl (zq (zj (zq (zj (zT ?_)))));unfold hgt at t;dsimp only at t;refine u _ _ ?_ ?_
  ·unfold hpt hiB;rw [NL (by rw [decide_eq_true_iff];lia)]
  ·unfold hpt hiB;rw [NM (NP (by lia))]
 ·refine tm rfl (zq (zj (zq (zj (zT ?_)))));unfold hgt at t;dsimp only at t;refine u _ _ ?_ ?_
  ·unfold hpt hiB;rw [NM (NN (by lia))]
  ·unfold hpt hiB;rw [NL (by rw [decide_eq_false_iff_not];lia)]
theorem DY {w:NX} {K:Ih} {f:Fx} {Ds:N8} {e:zu} {o:List OC} {i j:Nat} {kvs:Ow} {P:NR->Prop} (u:e[i]?=NQ (NQ (.own (f.M.length+j)))) (l:o[j]?=NQ (.dic kvs)) (y:kvs.length<=1000) (h:P (.list (kvs.map (·.1)))) :
  PEm w K f Ds (tCB (rC w K) (yy (yB i) qC)) e o P:=λC B H E Q x q=>by
 have s:j<Ds.length:=by rw [<-x.len];exact (Ig.mp l).1
 have m:Ds[j]?=NQ Ds[j]:=Ia s;obtain⟨xs,v,d⟩:=x.own j _ _ m l;have A:xs.map (·.1)=kvs.map (·.1):=by
  have c:∀ {xs:Ox} {kvs:Ow},Paired (EntR K (hide H (f.withs Ds))) xs kvs->xs.map (·.1)=kvs.map (·.1):=λ{xs kvs} t=>by
   induction t with
   | nil=>rfl
   | cons a _ ih=>rw [IL,IL,ih,a.1]
  exact c d
 have D:=cZ d;have r:=yN d;have p:Reps K (hide H (f.withs Ds)) (xs.map (·.1)) (xs.map λz=>V.ref z.2.1):=bu r;refine⟨_,jE u x m,Ds[j],xs,rfl,v,by lia,λg b=>?_⟩;have n:Goes (f.withs Ds) H (upd H g (.lst (xs.map λz=>.ref z.2.1))):=.of_same (yf b _) x.env.fd;refine q (.list (kvs.map (·.1))) _ _ n (zI.mpr ⟨g,_,rfl,.inl (.inl (zG (fresh_ne x.env.fd b) zy)),?_⟩) h;rw [<-A];exact Reps.mono n.sm _ _ p
theorem GF (k:Key):eY (kD k):=⟨⟨rfl,IG rfl⟩,_,rfl⟩
noncomputable def gZ (k:Key) (ks:List Key):List Key:=if k∈ks then ks else ks++[k]
theorem GG {a b:Key} (h:kD a=kD b):a=b:=by
 have e:=mw a b;rw [h] at e;have c:=mw b b;rw [e,NN rfl] at c;exact N4 c
theorem B0 {k:Key} {v:NR} {kvs:Ow} {ks:List Key} (h:kvs.map (·.1)=ks.map kD):(dput (kD k) v kvs).map (·.1)=(gZ k ks).map kD:=by
 rw [vV,h];unfold gZ;by_cases m:k∈ks
 ·rw [NM m,NM (Mj m)]
 ·rw [NL m,NL,IM]
  ·rfl
  ·intro z;obtain⟨a,b,e⟩:=ID.mp z;exact m (GG e▸b)
theorem kj {k a:Key} {ks:List Key}:a∈gZ k ks↔a∈ks \/ a=k:=by
 unfold gZ;by_cases m:k∈ks
 ·rw [NM m];exact⟨.inl,λz=>z.elim id λe=>e▸m⟩
 ·rw [NL m,Iz,Iw]
theorem B1 {k:Key} {ks:List Key} (h:ks.Nodup):(gZ k ks).Nodup:=by
 unfold gZ;by_cases m:k∈ks
 ·rw [NM m];exact h
 ·rw [NL m,Jw];exact⟨h,Jp.mpr ⟨Jy,JC⟩,λa d b c e=>m (Iw.mp c▸e▸d)⟩
structure PrJ (NI:Ot) (wd:Nat) (h:Int) (rl ru:List (Bool×List Pt)) (D:Pt->Pt->Prop) (kvs:Ow) (ks:List Key):Prop where
 key:kvs.map (·.1)=ks.map kD
 nd:ks.Nodup
 all:∀ k∈ks,vd NI wd h rl ru k
 has:∀ p q,D p q->∀ k,i8 NI h rl ru p q k->k∈ks
theorem PrJ.len {NI:Ot} {wd:Nat} {h:Int} {rl ru:List (Bool×List Pt)} {D:Pt->Pt->Prop} {kvs:Ow} {ks:List Key} (J:PrJ NI wd h rl ru D kvs ks) (g:Good wd NI) (T:Two NI wd h rl ru):kvs.length<=1000:=by
 have a:=ke g T J.nd J.all;have b:=congrArg Nd J.key;rw [Ib,Ib] at b;lia
theorem uH {NI:Ot} {wd:Nat} {p q:Pt} (c:inP NI wd p=NS):q∈(nbL p).filter (inP NI wd)++[p]↔inP NI wd q=NS/\(q∈nbL p \/ q=p):=by
 rw [Iz,Jd,Iw];constructor
 ·rintro (⟨a,b⟩ | rfl)
  ·exact⟨b,.inl a⟩
  ·exact⟨c,.inr rfl⟩
 ·rintro⟨b,a | rfl⟩
  ·exact .inl ⟨a,b⟩
  ·exact .inr rfl
theorem DZ (NI:Ot) (wd:Nat) (p:Pt):((nbL p).filter (inP NI wd)).length<=4:=Jq _ (nbL p)
theorem take_snoc {c:Type} {l:List c} {n:Nat} {a z:c} (h:l[n]?=NQ a) (d:z∈l.take (n+1)):z∈l.take n \/ z=a:=by
 rw [JE,h] at d;rcases Iz.mp d with b | b
 ·exact .inl b
 ·exact .inr (Iw.mp b)
abbrev uI (w:NX) (K:Ih):Sp:=spD K 3 (λ(c:(Ot×Nat×Int)×List (Bool×List Pt)×List (Bool×List Pt)×Ow) b=>b=[.dat (tab c.1.1),.dat (.int c.1.2.2),.mon (qE w K c.2.2.2)]/\Good c.1.2.1 c.1.1/\Two c.1.1 c.1.2.1 c.1.2.2 c.2.1 c.2.2.1/\kg c.1.1 c.1.2.1 c.2.1 c.2.2.1 c.2.2.2) λc r=>∃ a:List Key,r=.list (a.map kD)/\a.Nodup/\∀ k,k∈a↔vd c.1.1 c.1.2.1 c.1.2.2 c.2.1 c.2.2.1 k
theorem B2 (F:Def K mg "pairs" fz pQ) (R:mg "list"=NW) (Q:FnIn P w K mg base k "points" pf (vU K)) (S:FnIn P w K mg base k "neighbours" pj (Gn K)):FnIn P w K mg base (k+1) "pairs" pQ (uI w K):=by
 refine F.ok vS rfl λfa cdv A U s H E N=>⟨_,(ze (zL (i:=3) vS.nd rfl (N2 rfl) (d7 (w:=w) rfl)) (ze (y8 JA rfl (zK (K:=K) rfl (zg Q N rfl (zc (pv 0) zd))) (zJ (K:=K) (n:=2) rfl rfl (zh (zf (i:=4) vS.nd) (zh (zf (i:=5) vS.nd) zF))) (zm (yL (zR xR (zX (zM (K:=K) rfl) (zX (zM (K:=K) rfl) (pv 0) (pv 5) (λ_ _=>rfl)) (pv 4) (λ_ _=>rfl)) (pv 1) (z9 _)) (zm (y8 JA rfl (zK (K:=K) rfl (zA (aS (K:=K) rfl) (zg S N rfl (zc (pv 0) (zc (pv 4) (zc (pv 5) zd)))) (yi (zc (zH (zc (pv 4) (zc (pv 5) zd))) zd)))) (zJ (K:=K) (n:=2) rfl rfl (zh (zf (i:=6) vS.nd) (zh (zf (i:=7) vS.nd) zF))) (zm (yL (zR bO (zX (zM (K:=K) rfl) (zX (zM (K:=K) rfl) (pv 0) (pv 7) (λ_ _=>rfl)) (pv 6) (λ_ _=>rfl)) (pv 1) (z9 _)) (zm (z8 cH (v8 (pv 3) (zH (zc (zX (jk (K:=K) rfl) (zX (qD (w:=w) (K:=K) rfl rfl N.units) (pv 2) (zH (zc (pv 4) (zc (pv 5) zd))) (λ_ _=>rfl)) zp (λ_ _=>rfl)) (zc (zX (jk (K:=K) rfl) (zX (qD (w:=w) (K:=K) rfl rfl N.units) (pv 2) (zH (zc (pv 6) (zc (pv 7) zd))) (λ_ _=>rfl)) zp (λ_ _=>rfl)) zd))) (aU (w:=w) (K:=K) rfl rfl N.units)))) z6)))) z6))) (zm (zz (jO (nG (w:=w) (K:=K) rfl rfl rfl) rfl R PyProof.Rows.boot_list (zc (pv 3) zd)))))),?_⟩;rintro f xs ⟨⟨c,o,h⟩,I,G,j⟩ hl ⟨rfl,g,T,hb⟩
 try dsimp only [zV,zk]
 dsimp only at *;have g2:=g.h2;have w2:=g.w2;have Z:(y7 c.length o).length<=49:=by
  rw [vb];exact Kc g2 w2
 refine lu (w:=w) (nu (rh ⟨show 3<8 by decide,λD1=>?_⟩));show PSm w K f [D1] _ [NQ (.dat (tab c)),NQ (.dat (.int h)),NQ (.mon (qE w K j)),NQ (.own (f.M.length+0)),NW,NW,NW,NW] [OC.dic []] _;refine vn (aN (yg (zt (c,o) (bN rfl ⟨rfl,⟨rfl,g⟩,?_⟩))));rintro _ rfl;dsimp only;rw [dC];refine⟨_,rfl,λn O Y=>∃ u v a b e r,O=[NQ (.dat (tab c)),NQ (.dat (.int h)),NQ (.mon (qE w K j)),NQ (.own (f.M.length+0)),u,v,a,b]/\Y=[OC.dic e]/\PrJ c o h I G (λp q=>p∈(y7 c.length o).take n/\inP c o q=NS/\(q∈nbL p \/ q=p)) e r,⟨_,_,_,_,_,[],rfl,rfl,⟨rfl,JC,(λk l=>by cases l),(λp q W=>by cases W.1)⟩⟩,?_,?_⟩
 ·refine step_map λn p X=>HD λu v a b e r J=>?_
  ·have t:=jm.mp (Ir X);refine yo rfl (zq (zj (zq (zj (zT ?_)))));refine wB (CS (yr (mQ (fC g (show yb c o p.1 p.2=NS from t) rfl rfl rfl ⟨_,rfl,zr rfl ⟨_,rfl,_,rfl,?_⟩⟩))));refine yA (λD=>?_) λD=>?_
   ·have D:h<=hgt c p:=N4 D;refine aN (yg (gj (zt (c,o,p.1,p.2) (Hj rfl rfl rfl ⟨rfl,⟨rfl,g⟩,?_⟩))));rintro _ rfl;have nl:=DZ c o p;have eL:((nbL (p.1,p.2)).filter (inP c o)).map pD++[.tuple [.int p.1,.int p.2]]=((nbL p).filter (inP c o)++[p]).map pD:=by
     rw [IM];rfl
    refine⟨_,rfl,mR (zv (qk (e8 rfl rfl ⟨_,rfl,IG rfl,zP ⟨_,rfl,IG rfl,⟨_,rfl,?_,?_⟩⟩⟩)))⟩
    ·rw [Ib];exact IS (Nat.add_le_add_right nl 1) (by decide)
    dsimp only;rw [eL];refine⟨_,rfl,λm O Y=>∃ a b e r,O=[NQ (.dat (tab c)),NQ (.dat (.int h)),NQ (.mon (qE w K j)),NQ (.own (f.M.length+0)),NQ (.dat (.int p.1)),NQ (.dat (.int p.2)),a,b]/\Y=[OC.dic e]/\PrJ c o h I G (λx q=>(x∈(y7 c.length o).take n/\inP c o q=NS/\(q∈nbL x \/ q=x)) \/ (x=p/\q∈((nbL p).filter (inP c o)++[p]).take m)) e r,⟨_,_,_,r,rfl,rfl,⟨J.key,J.nd,J.all,λx q W=>W.elim (J.has x q) λz=>by cases z.2⟩⟩,?_,?_⟩
    ·refine step_map λm q B=>HE λa b e r J=>?_
     ·obtain⟨L,nq⟩:=(uH t).mp (Ir B);refine yo rfl (zq (zj (zq (zj (zT ?_)))));refine wB (CS (yr (mQ (fC g (show yb c o q.1 q.2=NS from L) rfl rfl rfl ⟨_,rfl,zr rfl ⟨_,rfl,_,rfl,?_⟩⟩))));refine yA (λC=>?_) λC=>?_
      ·have C:hgt c q<=h:=N4 C;refine nB rfl rfl (J.len g T) (Cw ?_);refine qk (zv (eG (eN (w:=w) (v_var rfl ⟨j,rfl,qk (e8 rfl rfl ⟨_,rfl,IG rfl,jo p,_,hb p t,⟨_,rfl,yQ ⟨_,rfl,_,rfl,?_⟩⟩⟩)⟩))));refine zv (eG (eN (w:=w) (v_var rfl ⟨j,rfl,qk (e8 rfl rfl ⟨_,rfl,IG rfl,jo q,_,hb q L,⟨_,rfl,yQ ⟨_,rfl,_,rfl,zP ⟨_,rfl,IG rfl,?_,?_⟩⟩⟩⟩)⟩)))
       ·exact GF (ixR I p,ixR G q)
       refine⟨_,_,_,gZ (ixR I p,ixR G q) r,rfl,rfl,⟨B0 (k:=(ixR I p,ixR G q)) J.key,B1 J.nd,λk l=>?_,λx y d k l=>kj.mpr ?_⟩⟩
       ·rcases kj.mp l with z | rfl
        ·exact J.all k z
        ·exact⟨p,q,t,L,nq,D,C,rfl⟩
       ·rcases d with z | ⟨rfl,z⟩
        ·exact .inl (J.has x y (.inl z) k l)
        ·rcases take_snoc B z with z | rfl
         ·exact .inl (J.has x y (.inr ⟨rfl,z⟩) k l)
         ·exact .inr l.2.2
      ·have C:¬ hgt c q<=h:=N5 C;refine d6 ⟨_,_,_,r,rfl,rfl,⟨J.key,J.nd,J.all,λx y d k l=>?_⟩⟩;rcases d with z | ⟨rfl,z⟩
       ·exact J.has x y (.inl z) k l
       ·rcases take_snoc B z with z | rfl
        ·exact J.has x y (.inr ⟨rfl,z⟩) k l
        ·exact absurd l.2.1 C
    ·rintro _ _ ⟨a,b,e,r,rfl,rfl,J⟩;refine⟨_,_,_,_,_,r,rfl,rfl,⟨J.key,J.nd,J.all,λx y d k l=>?_⟩⟩;rcases take_snoc X d.1 with z | rfl
     ·exact J.has x y (.inl ⟨z,d.2⟩) k l
     ·refine J.has x y (.inr ⟨rfl,?_⟩) k l;rw [Ib,Jk];exact (uH t).mpr d.2
   ·have D:¬ h<=hgt c p:=N5 D;refine d6 ⟨_,_,_,_,_,r,rfl,rfl,⟨J.key,J.nd,J.all,λx y d k l=>?_⟩⟩;rcases take_snoc X d.1 with z | rfl
    ·exact J.has x y ⟨z,d.2⟩ k l
    ·exact absurd l.1 D
 ·rintro _ _ ⟨u,v,a,b,e,r,rfl,rfl,J⟩;refine AO (DY rfl rfl (J.len g T) ⟨r,by rw [J.key],J.nd,λk=>⟨J.all k,?_⟩⟩);rintro⟨p,q,t,L,n,pe⟩;refine J.has p q ⟨?_,L,n⟩ k pe;rw [Ib,Jk];exact jm.mpr t
theorem qt {x y:NR} {xs ys:Oo} (a:vI x y=NS) (b:qv xs ys=NS):qv (x :: xs) (y :: ys)=NS:=by
 rw [qv];split
 ·exact b
 ·exact a
theorem dJ {c:Type} {F:c->NR} (h:∀ a b,vI (F a) (F b)=NS):∀ l m:List c,qv (l.map F) (m.map F)=NS
 | [],m=>by rw [LB,qv]
 | a :: l,[]=>rfl
 | a :: l,b :: m=>by
  rw [IL,IL];exact qt (h a b) (dJ h l m)
theorem vX {b:Type} {F:b->NR} (h:∀ a,zD (F a)=NS):∀ l:List b,zO (l.map F)=NS
 | []=>rfl
 | a :: l=>by
  show (zD (F a) && zO (l.map F))=NS;rw [h a,vX h l];rfl
theorem vY {b:Type} {F:b->NR} {n:Nat} (h:∀ a,(F a).depth<=n):∀ l:List b,IB (l.map F)<=n
 | []=>IV _
 | a :: l=>Nat.max_le.mpr ⟨h a,vY h l⟩
theorem B3 (a b:Pt):vI (pD a) (pD b)=NS:=by
 show qv _ _=NS;exact qt rfl (qt rfl rfl)
section
variable {NI:Ot} {wd:Nat} {h:Int} {rl ru:List (Bool×List Pt)} {bs as:List Key}
theorem cF (k:Key):zD (bo NI wd h rl ru bs as k)=NS:=by
 show (NS && (zO ((plc k bs).map λ(i:Nat)=>.int i) && (zO ((plc k as).map λ(i:Nat)=>.int i) && (zO ((bj NI wd h rl ru k).map pD) && (zO ((xx NI wd h rl ru k).map pD) && NS)))))=NS;rw [vX (λ_=>rfl),vX (λ_=>rfl),vX (λ_=>rfl),vX (λ_=>rfl)];rfl
theorem B4 (k a:Key):vI (bo NI wd h rl ru bs as k) (bo NI wd h rl ru bs as a)=NS:=by
 show qv _ _=NS;refine qt rfl (qt ?_ (qt ?_ (qt ?_ (qt ?_ rfl))))
 ·exact dJ (λ_ _=>rfl) _ _
 ·exact dJ (λ_ _=>rfl) _ _
 ·exact dJ B3 _ _
 ·exact dJ B3 _ _
theorem sH (k:Key):(bo NI wd h rl ru bs as k).depth<=50:=by
 show max 0 (max (IB ((plc k bs).map λ(i:Nat)=>.int i)+1) (max (IB ((plc k as).map λ(i:Nat)=>.int i)+1) (max (IB ((bj NI wd h rl ru k).map pD)+1) (max (IB ((xx NI wd h rl ru k).map pD)+1) 0))))+1<=50;have a:=vY (F:=λ(i:Nat)=>PyData.int i) (n:=0) (λ_=>Iu _) (plc k bs);have b:=vY (F:=λ(i:Nat)=>PyData.int i) (n:=0) (λ_=>Iu _) (plc k as);have c:=vY (F:=pD) (n:=1) (λ_=>Iu _) (bj NI wd h rl ru k);have d:=vY (F:=pD) (n:=1) (λ_=>Iu _) (xx NI wd h rl ru k);lia
theorem B5 (g:Good wd NI) (T:Two NI wd h rl ru) {ts:List (Bool×List Gt)} (l:Told NI wd (h - 1) ts) (j:∀ g,opG NI wd (h - 1) g=NS->g∈flat ts) {ks:List Key} (nd:ks.Nodup) (m:∀ k∈ks,vd NI wd h rl ru k):SortOk "int" (ks.map (bo NI wd h rl ru (ts.map (yh NI (h - 1) rl ru)) as)) where
 plain:=λd c=>by obtain⟨t,_,rfl⟩:=ID.mp c;exact cF t
 head:=λd c=>by obtain⟨t,_,rfl⟩:=ID.mp c;rfl
 cmp:=λd c e f=>by
  obtain⟨t,_,rfl⟩:=ID.mp c;obtain⟨u,_,rfl⟩:=ID.mp f;exact B4 t u
 depth:=λd c=>by obtain⟨t,_,rfl⟩:=ID.mp c;exact sH t
 nd:=JF.mpr (nd.imp_of_mem λ{a b} i n c e=>c (BO g T l j (m a i) e))
end
theorem sI {K:Ih} {f:Fx} {m:zu} {F:TI} {g:TG} {G:L2.TT} {own:Nat} {fr:Om} {I:Ij->TB} {P:Oo->Prop} {E:Type} (A B:E->NR) (h:PId K f F m λds=>∃ xs:List E,ds=xs.map A/\xs.length<=1000 /\
   (∀ D x a es,x∈xs->OwnE own (L2.frD fr m) a->es.length<1000->PGd K (f.with D) g (A x) a λj=>PTd K (f.with D) G j λb=>if b=NS then PBd K f D (I D) j es λy C=>OwnE own (L2.frD fr m) y/\C=es++[B x] else False)/\P (xs.map B)) :
  PEdO K f (qz F own fr g G I) m P :=
 vH (h.imp λds ⟨xs,Z,hl,O,R⟩=>by
  subst Z;refine⟨λi a es=>OwnE own (L2.frD fr m) a/\es=(xs.take i).map B,⟨⟨KC own NW,by simp,rfl⟩,by simp⟩,λD i d a es n ⟨S,o⟩=>?_,λa es ⟨_,o⟩=>?_⟩
  ·rw [Iq] at n;cases eq:xs[i]? with
   | none=>rw [eq] at n;cases n
   | some x =>
    rw [eq] at n;cases n;have hi:i<xs.length:=(Ig.mp eq).1;have T:es.length<1000:=by
     rw [o,Ib,Jt];lia
    intro J H v Q e r q;refine O D x a es (Ir eq) S T J H v Q e r λj t H2 Y e2 M=>q j t H2 Y e2 (M.imp λb l=>?_);cases b with
    | false =>
     rw [NL Ie] at l;exact l.elim
    | true =>
     rw [NM rfl] at l ⊢;intro X U s H3 H4 W c k;exact l X U s H3 H4 W c λu z p H5 c5 ⟨N,L⟩=>k u z p H5 c5 ⟨N,by rw [L,o,JE,eq,IM];rfl⟩
  ·rw [o,Ib,Jk];exact R)
def oG (NI:Ot) (h:Int):Prop:=(∃ n∈NI.flatten,n<=h)/\∃ n∈NI.flatten,h<=n
structure NodesK (NI:Ot) (wd:Nat) (h:Int) (es:Oo) (rl ru:List (Bool×List Pt)) (ts us:List (Bool×List Gt)) (ks:List Key):Prop where
 two:Two NI wd h rl ru
 told:Told NI wd (h - 1) ts
 al:∀ g,opG NI wd (h - 1) g=NS->g∈flat ts
 up:(ts.map jI).Pairwise λd e=>ltD d e=NS
 told2:Told NI wd h us
 al2:∀ g,opG NI wd h g=NS->g∈flat us
 up2:(us.map jI).Pairwise λd e=>ltD d e=NS
 mem:∀ k,k∈ks↔vd NI wd h rl ru k
 perm:es.Perm (ks.map (bo NI wd h rl ru (ts.map (yh NI (h - 1) rl ru)) (us.map (yh NI h rl ru))))
 ris:es.Pairwise λd e=>ltD d e=NS
 len:es.length<=62
abbrev mx (K:Ih):Sp:=spN K 2 HK λc a=>(oG c.1 c.2.2/\∃ f e d b g,NodesK c.1 c.2.1 c.2.2 a f e d b g) \/ (¬ oG c.1 c.2.2/\a=[])
theorem B6 (F:Def K mg "nodes_at" ay pF) (uaf:mg "sorted"=NW) (uad:FnIn P w K mg base k "ask_table" pf (bX K)) (uao:FnIn P w K mg base k "span" pf (gY K)) (ucg:FnIn P w K mg base k "both_regions" pF (BR w K)) (ubV:FnIn P w K mg base k "lines" pz (uu K)) (Z:FnIn P w K mg base k "pair_beside" pR (GD w K)) (uch:FnIn P w K mg base k "pairs" pQ (uI w K)) (uci:FnIn P w K mg base k "points_of" pB (BX w K)) (ucj:FnIn P w K mg base k "cells_of" pB (BY w K)) (Y:FnIn P w K mg base k "places_of" pL (EF K)):FnIn P w K mg base (k+1) "nodes_at" pF (mx K):=by
 refine F.okN yz rfl λfa cdv A outer s H E y=>⟨_,(ze (yI (zg uad y rfl (zc (pv 0) zd))) (ze (z8 (zg uao y rfl (zc (pv 0) zd)) (zJ (K:=K) (n:=2) rfl rfl (zh (zf (i:=2) yz.nd) (zh (zf (i:=3) yz.nd) zF)))) (ze (yL (bZ (xS bO bO (pv 2) (pv 1) (pv 3))) (zm (zz (yi zd))) z6) (ze (zL (i:=4) yz.nd rfl (N3 rfl) (zg ucg y rfl (zc (pv 0) (zc (pv 1) zd)))) (ze (yY (i:=5) (N:=pP) (own:=2) (fr:=[0,4]) (by walk_at "c") rfl yz.nd rfl (N2 rfl) (zK (K:=K) rfl (zg ubV y rfl (zc (pv 0) (zc (zA yK (pv 1) zp) zd)))) (λ_ _ _ _=>(zJ (K:=K) (n:=2) rfl rfl (zh (zf (i:=0) (show (pP:Oa).Nodup by decide +kernel)) (zh (zf (i:=1) (show (pP:Oa).Nodup by decide +kernel)) zF)))) (λ_ _ _ _=>ye) (λ_ _ _ _=>(zg Z y rfl (zc (pv 2) (zc (pv 1) (zc (pv 3) zd))))) rfl rfl (λ_=>rfl) (N2 rfl) rfl) (ze (yY (i:=6) (N:=pP) (own:=2) (fr:=[0,4]) (by walk_at "c") rfl yz.nd rfl (N2 rfl) (zK (K:=K) rfl (zg ubV y rfl (zc (pv 0) (zc (pv 1) zd)))) (λ_ _ _ _=>(zJ (K:=K) (n:=2) rfl rfl (zh (zf (i:=0) (show (pP:Oa).Nodup by decide +kernel)) (zh (zf (i:=1) (show (pP:Oa).Nodup by decide +kernel)) zF)))) (λ_ _ _ _=>ye) (λ_ _ _ _=>(zg Z y rfl (zc (pv 2) (zc (pv 1) (zc (pv 3) zd))))) rfl rfl (λ_=>rfl) (N2 rfl) rfl) (ze (zL (i:=7) yz.nd rfl (N2 rfl) (yi zd)) (ze (y8 JA rfl (zK (K:=K) rfl (zg uch y rfl (zc (pv 0) (zc (pv 1) (zc (pv 4) zd))))) (zf (i:=8) yz.nd) (ze (zL (i:=9) yz.nd rfl (N2 rfl) (zg uci y rfl (zc (pv 0) (zc (pv 1) (zc (pv 8) (zc (pv 4) zd)))))) (ze (zL (i:=10) yz.nd rfl (N2 rfl) (zg ucj y rfl (zc (pv 0) (zc (pv 1) (zc (pv 8) (zc (pv 4) zd)))))) (zm (yI (iE J2 Kd Ke qO (pv 7) (zc (zH (zc (pv 1) (zc (zg Y y rfl (zc (pv 8) (zc (pv 5) zd))) (zc (zg Y y rfl (zc (pv 8) (zc (pv 6) zd))) (zc (pv 9) (zc (pv 10) zd)))))) zd))))))) (zm (zz (zB (cT (K:=K) rfl y.units) rfl uaf Lv (zc (pv 7) zd)))))))))))),?_⟩;rintro f xs ⟨e,x,h⟩ hl ⟨rfl,g⟩
 try dsimp only [zV,zk]
 dsimp only at *;have g2:=g.h2;have w2:=g.w2;refine vj (vG (zt (e,x) ?_));walk_at "w";rintro _ rfl;refine vj (zY (zt (e,x) (bN rfl ⟨rfl,⟨rfl,g⟩,?_⟩)));refine Gx λm M ⟨⟨m1,m2⟩,M1,M2⟩=>?_;refine yo rfl (zq (zj (zq (zj (zT ?_)))));have J:(m<=h/\h<=M)↔oG e h:=⟨λz=>⟨⟨m,m1,z.1⟩,M,M1,z.2⟩,λ⟨⟨a,ha,la⟩,b,O,lb⟩=>⟨LM (m2 a ha) la,LM lb (M2 b O)⟩⟩;refine Ar (iG (yr (kJ (zr rfl ⟨_,rfl,zr rfl ⟨_,rfl,?_⟩⟩))));have out:¬ oG e h->PEdO K f (uZ qC) [NQ (.dat (tab e)),NQ (.dat (.int h)),NQ (.dat (.int m)),NQ (.dat (.int M)),NW,NW,NW,NW,NW,NW,NW] λG=>(oG e h/\∃ o j r B ks,NodesK e x h G o j r B ks) \/ (¬ oG e h/\G=[]):=λns=>cR (zP ⟨[],rfl,IV _,.inr ⟨ns,rfl⟩⟩);refine yA (λc1=>?_) λc1=>⟨_,rfl,out λz=>(N5 c1) (J.mpr z).1⟩;have c1:=N4 c1;refine zr rfl ⟨_,rfl,_,rfl,?_⟩;by_cases S:¬ h<=M
 ·rw [NP S];exact out λz=>S (J.mpr z).2
 have S:=Decidable.not_not.mp S;rw [NN S];have hsp:=J.mp ⟨c1,S⟩;show PSn K f _ [NQ (.dat (tab e)),NQ (.dat (.int h)),NQ (.dat (.int m)),NQ (.dat (.int M)),NW,NW,NW,NW,NW,NW,NW] _;refine vj (rF (rE (e,x,h) (e8 rfl rfl ⟨rfl,⟨rfl,g⟩,?_⟩)));refine Gy λo j p ⟨T,l1,l2,O⟩=>?_;dsimp only at T O;have lin:∀ {c:Int} {r:List (Bool×List Gt)} (R:Told e x c r),∀ (D:Ij) (t:Bool×List Gt) (I:zu) (G:Oo),t∈r->OwnE 2 [NQ (.dat (tab e)),NQ (.mon (qE w K p))] I->G.length<1000->PGd K (f.with D) (Cq K 2 (sP (yW 0) (sP (yW 1) EN))) (jI t) I λX=>PTd K (f.with D) mK X λb=>if b=NS then PBd K f D (qT D (bP (GD w K) [] E0 (yy (yB 2) (yy (yB 1) (yy (yB 3) qC))))) X G λρ3 es3=>OwnE 2 [NQ (.dat (tab e)),NQ (.mon (qE w K p))] ρ3/\es3=G++[kD (yh e c o j t)] else False:=by
  rintro c r R D t I G ht ho hes;obtain⟨u,v,rfl⟩:=ho.two;have L:=R.line t ht;obtain⟨g0,l,el⟩:=Li L.ne;have op:=L.op g0 (by rw [el];exact Ik);have hd:hdG t=g0:=by unfold hdG;rw [el];rfl
  unfold jI yh;rw [el,hd];refine yo rfl (zq (zj (zq (zj (zT (ju ?_))))));rw [NM rfl];refine yx hes (zt ((e,x,c),(g0,l),o,j,p) (zv (zr rfl (zv (zr rfl (iS (v_var rfl (zP ⟨rfl,⟨rfl,g,op,O⟩,?_⟩))))))));rintro _ rfl;exact⟨.mk2,rfl⟩
 refine vj (zY (PEdO.ped (sI jI (λt=>kD (yh e (h - 1) o j t)) (yg (PEdO.ped (ai (e,x,h - 1) (zv (zr rfl (zv (bS (zr rfl ⟨_,rfl,yQ ⟨_,rfl,zP ⟨rfl,⟨rfl,g⟩,?_⟩⟩⟩)))))))))));refine BM λr ⟨R,al,up⟩=>?_;have fewT:=R.few g;refine⟨_,rfl,r,rfl,by lia,lin R,zj ?_⟩;refine vj (zY (PEdO.ped (sI jI (λt=>kD (yh e h o j t)) (yg (PEdO.ped (ai (e,x,h) (e8 rfl rfl ⟨rfl,⟨rfl,g⟩,?_⟩)))))));refine BM λB ⟨Uo,alU,upU⟩=>?_;have fewU:=Uo.few g;refine⟨_,rfl,B,rfl,by lia,lin Uo,zj ?_⟩;refine lz (w:=w) (lA (bt (cR (zP ⟨[],rfl,IV _,show 7<11 by decide,λD1=>?_⟩))));show p9 w K f [D1] _ [NQ (.dat (tab e)),NQ (.dat (.int h)),NQ (.dat (.int m)),NQ (.dat (.int M)),NQ (.mon (qE w K p)),NQ (.dat (.list (r.map λt=>kD (yh e (h - 1) o j t)))),NQ (.dat (.list (B.map λt=>kD (yh e h o j t)))),NQ (.own (f.M.length+0)),NW,NW,NW] [OC.lst []] _;have e1:(r.map λt=>kD (yh e (h - 1) o j t))=(r.map (yh e (h - 1) o j)).map kD:=by rw [JB];rfl
 have e2:(B.map λt=>kD (yh e h o j t))=(B.map (yh e h o j)).map kD:=by rw [JB];rfl
 have b1:(r.map (yh e (h - 1) o j)).length<=49:=by rw [Ib];exact fewT
 have b2:(B.map (yh e h o j)).length<=49:=by rw [Ib];exact fewU
 generalize (r.map λt=>kD (yh e (h - 1) o j t))=lb at e1 ⊢;generalize (B.map λt=>kD (yh e h o j t))=la at e2 ⊢;obtain⟨U,Q⟩:∃ U,U=r.map (yh e (h - 1) o j):=⟨_,rfl⟩;obtain⟨W,eas⟩:∃ W,W=B.map (yh e h o j):=⟨_,rfl⟩;rw [<-Q] at b1 e1;rw [<-eas] at b2 e2;subst e1;subst e2;refine rf (aN (yg (zt ((e,x,h),o,j,p) (zv (zr rfl (zv (zr rfl (iS (v_var rfl (zP ⟨rfl,⟨rfl,g,T,O⟩,?_⟩))))))))));refine BM λks ⟨nd,C⟩=>?_;dsimp only at C;have few:=ke g T nd λk hk=>(C k).mp hk;refine⟨_,rfl,λn ρ cs=>∃ u v a,ρ=[NQ (.dat (tab e)),NQ (.dat (.int h)),NQ (.dat (.int m)),NQ (.dat (.int M)),NQ (.mon (qE w K p)),NQ (.dat (.list (U.map kD))),NQ (.dat (.list (W.map kD))),NQ (.own (f.M.length+0)),u,v,a]/\cs=[OC.lst ((ks.take n).map (bo e x h o j U W))],⟨_,_,_,rfl,rfl⟩,?_,?_⟩
 ·refine step_map λn q eq=>HY λu v a=>?_
  ·refine zj (vn (Ex (cW (zt ((e,x,h),q,o,j,p) (zv (zr rfl (zv (zr rfl (zv (zr rfl (iS (v_var rfl (zP ⟨rfl,⟨rfl,g,O⟩,?_⟩)))))))))))));rintro _ rfl;refine vn (Ex (cW (zt ((e,x,h),q,o,j,p) (zv (zr rfl (zv (zr rfl (zv (zr rfl (iS (v_var rfl (zP ⟨rfl,⟨rfl,g,O⟩,?_⟩))))))))))));rintro _ rfl;refine iP rfl rfl ?_ (cW (qk (zv (zr rfl (zv (zt (q,U) (e8 rfl rfl ⟨rfl,⟨rfl,IS b1 (by decide)⟩,?_⟩)))))))
   ·rw [Ib,Jt];lia
   rintro _ rfl;refine zv (zt (q,W) (e8 rfl rfl ⟨rfl,⟨rfl,IS b2 (by decide)⟩,?_⟩));rintro _ rfl;refine e8 rfl rfl ⟨_,rfl,IG rfl,_,_,_,rfl,?_⟩;rw [JE,eq,IM];rfl
 ·rintro _ _ ⟨u,v,a,rfl,rfl⟩;rw [Ib,Jk];refine lB (gk (mZ "int" (zr (i:=7) (d:=.list (ks.map (bo e x h o j U W))) ?_ ⟨_,rfl,?_,by rw [Ib];lia,.inl (by rw [Ib];lia),λG pm ri=>?_⟩)))
  ·show NQ (freed _ _ _)=_;simp [freed]
  ·rw [Q];exact B5 g T R al nd λk hk=>(C k).mp hk
  ·rw [Q,eas] at pm;exact .inl ⟨hsp,o,j,r,B,ks,⟨T,R,al,up,Uo,alU,upU,C,pm,ri,by rw [pm.length_eq,Ib];lia⟩⟩
theorem GH {p c:Pt} (h:c∈caL p):((p.1,2 * c.2+1 - p.2):Pt)∈cE c/\((p.1,2 * c.2+1 - p.2):Pt)∈nbL p/\asl p c∈nbL ((p.1,2 * c.2+1 - p.2):Pt):=by
 obtain⟨a,b⟩:=c;obtain⟨x,y⟩:=p;obtain⟨e,d⟩:=cD.mp h;dsimp only at e d;rw [jf,jf];unfold cE asl;dsimp only;simp only [Iv,Prod.mk.injEq,Jy,or_false,true_and,and_true];rcases e with rfl | rfl <;> rcases d with rfl | rfl <;> (refine⟨?_,?_,?_⟩ <;> lia)
section
variable {NI:Ot} {wd:Nat} {N0:Int}
theorem D3 {c u:Pt} (f:va NI wd c=NS) (h:u∈cE c):inP NI wd u=NS:=by
 obtain⟨e,d,b,a⟩:=cell_in (show zS NI wd c.1 c.2=NS from f);unfold cE at h;simp only [Iv,Jy,or_false] at h;rcases h with rfl | rfl | rfl | rfl
 ·exact e
 ·exact d
 ·exact b
 ·exact a
theorem D4 {p c:Pt} (h:c∈caL p) (l:va NI wd c=NS) (j:yV NI wd N0 c.1 c.2=NS):hiP NI N0 (p.1,2 * c.2+1 - p.2)=!hiP NI N0 p:=by
 obtain⟨f,e,d⟩:=gS (show zS NI wd c.1 c.2=NS from l) j;obtain⟨a,b⟩:=c;obtain⟨x,y⟩:=p;obtain⟨i,g⟩:=cD.mp h;dsimp only at i g f e d ⊢;unfold hiP;dsimp only;rcases i with rfl | rfl <;> rcases g with rfl | rfl
 ·rw [show 2 * y+1 - y=y+1 by lia];exact e
 ·rw [show 2 * b+1 - (b+1)=b by lia,e,M3]
 ·rw [show 2 * y+1 - y=y+1 by lia,f,d,M3]
 ·rw [show 2 * b+1 - (b+1)=b by lia,f,d]
theorem oH {b:List (Bool×List Pt)} (R:Regs NI wd N0 b) {p q:Pt} (f:inP NI wd p=NS) (d:inP NI wd q=NS) (e:ixR b p=ixR b q):Reach NI wd N0 p q:=by
 obtain⟨r,c,h⟩:=ux R f;obtain⟨i,a,g⟩:=ux R d;rw [e,a] at c;cases c;obtain⟨j,X⟩:=R.reg r (Ir a);exact (((X.mem p).mp h).symm X.inn).trans ((X.mem q).mp g)
def qx (NI:Ot) (wd:Nat) (h:Int) (l:List Pt):Prop:=((l.map pD).Pairwise λd e=>ltD d e=NS)/\∃ p,inP NI wd p=NS/\(∀ q,q∈l↔Reach NI wd (h - 1) p q)/\∀ q∈l,hgt NI q=h
theorem qQ {h:Int} {l:List Pt} (P:qx NI wd h l) {q:Pt} (c:q∈l):inP NI wd q=NS/\hgt NI q=h/\∀ z,z∈l↔Reach NI wd (h - 1) q z:=by
 obtain⟨_,p,b,a,d⟩:=P;have r:=(a q).mp c;exact⟨(r.ins b).1,d q c,λz=>(a z).trans ⟨λy=>(r.symm b).trans y,λy=>r.trans y⟩⟩
theorem dM {h:Int} {l:List Pt} (P:qx NI wd h l):l≠[]:=λe=>by
 obtain⟨_,p,_,a,_⟩:=P;have:=(a p).mpr .refl;rw [e] at this;cases this
theorem B7 {h h':Int} {l a:List Pt} (P:qx NI wd h l) (c:qx NI wd h' a) {q:Pt} (d:q∈l) (b:q∈a):h=h'/\l=a:=by
 obtain⟨_,j,i⟩:=qQ P d;obtain⟨_,g,f⟩:=qQ c b;have e:h=h':=j.symm.trans g;subst e;exact⟨rfl,uv P.1 c.1 λz=>(i z).trans (f z).symm⟩
end
section
variable {NI:Ot} {wd:Nat} {h:Int} {rl ru:List (Bool×List Pt)} {us:List (Bool×List Gt)} {k:Key}
theorem bp (T:Two NI wd h rl ru) (y:Told NI wd h us) (b:∀ g,opG NI wd h g=NS->g∈flat us) {p q:Pt} (r:inP NI wd p=NS) (m:inP NI wd q=NS) (n:q∈nbL p) (A:h<hgt NI p) (z:hgt NI q<=h):∃ i:Nat,(us.map (yh NI h rl ru))[i]?=NQ (ixR rl p,ixR ru q):=by
 obtain⟨e,x,o⟩:=uA r m n;obtain⟨d,l,j⟩:=uD (h:=h+1) x (u:=p) (v:=q) o (by lia) (by lia);rw [show h+1 - 1=h by lia] at d l j;obtain⟨t,f,a⟩:=Jl.mp (b _ d);obtain⟨i,s⟩:=Jc f;have c:=kf T (.inr rfl) (y.line t f) a;rw [l,j] at c;exact⟨i,by rw [Iq,s,KO,c]⟩
theorem xB (T:Two NI wd h rl ru) (F:Told NI wd h us) (d:∀ g,opG NI wd h g=NS->g∈flat us) {p:Pt} (A:inP NI wd p=NS) (J:hgt NI p=h) (v:∀ i:Nat,(us.map (yh NI h rl ru))[i]?≠NQ (ixR rl p,ixR ru p)) {q:Pt} (r:Reach NI wd (h - 1) p q):hgt NI q=h/\ixR ru q=ixR ru p:=by
 induction r with
 | refl=>exact⟨J,rfl⟩
 | @step z e r j ih =>
  obtain⟨N,s⟩:=ih;have l:=(r.ins A).1;obtain⟨a,t⟩:=aI j;have I:h<=hgt NI e:=dG.mp (t.trans (dG.mpr (by lia)));have u:ixR rl e=ixR rl p:=(qr T.lo A (r.step j)).symm;rcases mem_join.mp j with⟨n,_,_⟩ | ⟨c,C,B,L,_,rfl⟩
  ·by_cases f:h<hgt NI e
   ·obtain⟨i,b⟩:=bp T F d a l (aH n) f (by lia);rw [u,s] at b;exact absurd b (v i)
   ·exact⟨by lia,(T.adjU l a n (by lia) (by lia)).symm.trans s⟩
  ·obtain⟨H,G,x⟩:=GH C;have m:=D3 B H;have M:=D4 C B L;have o:hgt NI (z.1,2 * c.2+1 - z.2)<=h:=by
    have E:=dG (NI:=NI) (h:=h) (p:=(z.1,2 * c.2+1 - z.2));rw [M,dG.mpr (show h<=hgt NI z by lia)] at E;have:¬ h<=hgt NI (z.1,2 * c.2+1 - z.2):=λy=>MS (E.mpr y);lia
   have D:ixR ru (z.1,2 * c.2+1 - z.2)=ixR ru p:=(T.adjU l m G (by lia) o).symm.trans s;by_cases f:h<hgt NI (asl z c)
   ·obtain⟨i,b⟩:=bp T F d a m (aH x) f o;rw [u,D] at b;exact absurd b (v i)
   ·exact⟨by lia,(T.adjU m a x o (by lia)).symm.trans D⟩
theorem vZ {p:Pt}:p∈bj NI wd h rl ru k↔inP NI wd p=NS/\hgt NI p=h/\(ixR rl p,ixR ru p)=k:=by
 unfold bj;rw [Jd,Io,decide_eq_true_eq,decide_eq_true_eq,jm]
theorem uJ:((bj NI wd h rl ru k).map pD).Pairwise λd e=>ltD d e=NS:=by
 have:=uw NI.length wd;rw [JF] at this ⊢;exact this.sublist Mi
theorem oI (T:Two NI wd h rl ru) (j:Told NI wd h us) (d:∀ g,opG NI wd h g=NS->g∈flat us) (m:vd NI wd h rl ru k) (e:∀ i:Nat,(us.map (yh NI h rl ru))[i]?≠NQ k):qx NI wd h (bj NI wd h rl ru k):=by
 obtain⟨p,q,c,f,n,a,b,rfl⟩:=m;have s:hgt NI p=h:=by
  refine Decidable.byContradiction λz=>?_;rcases n with n | rfl
  ·obtain⟨i,t⟩:=bp T j d c f n (by lia) b;exact e i t
  ·lia
 have u:ixR ru q=ixR ru p:=by
  rcases n with n | rfl
  ·exact (T.adjU c f n (by lia) b).symm
  ·rfl
 rw [u] at e ⊢;have w:=λ{z:Pt} (r:Reach NI wd (h - 1) p z)=>xB T j d c s e r;refine⟨uJ,p,c,λz=>vZ.trans ⟨λ⟨l,_,v⟩=>oH T.lo c l (congrArg MM v).symm,λr=>⟨(r.ins c).1,(w r).1,by rw [(w r).2,<- qr T.lo c r]⟩⟩,λz o=>(vZ.mp o).2.1⟩
theorem B8 (T:Two NI wd h rl ru) (q:Told NI wd h us) (f:∀ g,opG NI wd h g=NS->g∈flat us) {l:List Pt} (P:qx NI wd h l):∃ k,vd NI wd h rl ru k/\(∀ i:Nat,(us.map (yh NI h rl ru))[i]?≠NQ k)/\bj NI wd h rl ru k=l:=by
 obtain⟨p,o⟩:∃ p,p∈l:=Lm _ (dM P);obtain⟨d,v,e⟩:=qQ P o;have m:vd NI wd h rl ru (ixR rl p,ixR ru p):=⟨p,p,d,d,.inr rfl,by lia,by lia,rfl⟩;have j:∀ i:Nat,(us.map (yh NI h rl ru))[i]?≠NQ (ixR rl p,ixR ru p):=λi c=>by
  rw [Iq] at c;cases eq:us[i]? with
  | none=>rw [eq] at c;cases c
  | some t =>
   rw [eq] at c;have c:=N1 c;have L:=q.line t (Ir eq);have x:=uy L;have u:=L.op _ (LP x);have n:=gT (h:=NS) u;unfold yh at c;have y:ixR rl (hpt NI h NS (hdG t))=ixR rl p:=congrArg MM c;have r:=oH T.lo d n.1 y.symm;have a:=(qQ P ((e _).mpr r)).2.1;have b:=n.2;unfold hiP hiB at b;have b:=N4 b;unfold hgt at a;lia
 have s:=oI T q f m j;exact⟨_,m,j,(B7 s P (vZ.mpr ⟨d,v,rfl⟩) o).2⟩
end
structure ND where
 h:Int
 be:Om
 ab:Om
 ps:List Pt
 cs:List Pt
noncomputable def ndD (n:ND):NR:=.tuple [.int n.h,xy n.be,xy n.ab,.tuple (n.ps.map pD),.tuple (n.cs.map pD)]
structure TPk (NI:Ot) (wd:Nat) (lo hi:Int) (N:List ND):Prop where
 hh:∀ n∈N,lo<=n.h/\n.h<hi
 pt:∀ n∈N,∀ p∈n.ps,inP NI wd p=NS/\hgt NI p=n.h
 pnd:(N.flatMap (·.ps)).Nodup
 pk:∀ n∈N,n.ab=[]->qx NI wd n.h n.ps
 all:∀ h l,qx NI wd h l->lo<=h->h<hi->∃ n∈N,n.h=h/\n.ps=l/\n.ab=[]
 few:∀ n∈N,n.be.length<=98/\n.ab.length<=98
 len:(N.length:Int)<=62 * (hi - lo)
theorem uK {h i:Type} (f:h->List i):∀ l:List h,l.Nodup->(∀ a∈l,(f a).Nodup)->(∀ a b,a∈l->b∈l->∀ x,x∈f a->x∈f b->a=b)->(l.flatMap f).Nodup
 | [],_,_,_=>JC
 | a :: l,nd,h1,h2=>by
  obtain⟨m,j⟩:=Jp.mp nd;rw [KS];refine Jw.mpr ⟨h1 a (Ik ..),uK f l j (λb d=>h1 b (Ii _ d)) λb c d p=>h2 b c (Ii _ d) (Ii _ p),λx o y n e=>?_⟩;subst e;obtain⟨b,d,g⟩:=Jl.mp n;exact m (h2 a b (Ik ..) (Ii _ d) x o g▸d)
section
variable {NI:Ot} {wd:Nat} {lo h:Int}
theorem TPk.nil:TPk NI wd lo lo [] where
 hh:=λn h=>by cases h
 pt:=λn h=>by cases h
 pnd:=JC
 pk:=λn h=>by cases h
 all:=λh l _ a b=>by lia
 few:=λn h=>by cases h
 len:=by simp
theorem TPk.app {d:Int} {N L:List ND} (A:TPk NI wd lo h N) (B:TPk NI wd h d L) (s:lo<=h) (q:h<=d):TPk NI wd lo d (N++L) where
 hh:=λn c=>(Iz.mp c).elim (λz=>by have:=A.hh n z;lia) λz=>by have:=B.hh n z;lia
 pt:=λn c=>(Iz.mp c).elim (A.pt n) (B.pt n)
 pnd:=by
  rw [J7];refine Jw.mpr ⟨A.pnd,B.pnd,λx j y i e=>?_⟩;subst e;obtain⟨n,c,p⟩:=Jl.mp j;obtain⟨m,g,o⟩:=Jl.mp i;have a:=(A.pt n c x p).2;have b:=(B.pt m g x o).2;have:=A.hh n c;have:=B.hh m g;lia
 pk:=λn c=>(Iz.mp c).elim (A.pk n) (B.pk n)
 all:=λf l P a b=>by
  by_cases z:f<h
  ·obtain⟨n,c,r⟩:=A.all f l P a z;exact⟨n,IY _ c,r⟩
  ·obtain⟨n,c,r⟩:=B.all f l P (by lia) b;exact⟨n,IF _ c,r⟩
 few:=λn c=>(Iz.mp c).elim (A.few n) (B.few n)
 len:=by
  have:=A.len;have:=B.len;rw [IE];lia
theorem uL {k:Key} {bs:List Key}:(plc k bs).length<=bs.length:=IS (Jq _ _) (by rw [Jh];exact Iu _)
theorem B9 {es:Oo} {rl ru:List (Bool×List Pt)} {ts g:List (Bool×List Gt)} {ks:List Key} (A:NodesK NI wd h es rl ru ts g ks) (x:ts.length<=98) (v:g.length<=98):∃ L:List ND,es=L.map ndD/\TPk NI wd h (h+1) L:=by
 obtain⟨c,t,rfl⟩:=L2.perm_map_inv A.perm;have u:c.Nodup:=by
  have r:=A.ris;rw [JF] at r;exact r.imp λ{a b} m e=>by
   subst e;rw [vJ _ (cF a)] at m;cases m
 have j:∀ k,k∈c↔vd NI wd h rl ru k:=λk=>t.mem_iff.trans (A.mem k)
 let F:Key->ND:=λk=>⟨h,plc k (ts.map (yh NI (h - 1) rl ru)),plc k (g.map (yh NI h rl ru)),bj NI wd h rl ru k,xx NI wd h rl ru k⟩
 have D:(c.map F).flatMap (·.ps)=c.flatMap (bj NI wd h rl ru):=by rw [List.flatMap_map]
 have d:∀ n∈c.map F,∃ k∈c,F k=n:=λn f=>ID.mp f;have NW:∀ {k:Key},plc k (g.map (yh NI h rl ru))=[]↔∀ i:Nat,(g.map (yh NI h rl ru))[i]?≠NQ k:=λ{k}=>by
  constructor
  ·intro e i s;have:=fB.mpr s;rw [e] at this;cases this
  ·intro q;exact List.eq_nil_iff_forall_not_mem.mpr λi s=>q i (fB.mp s)
 refine⟨c.map F,by rw [JB];rfl,⟨?_,?_,?_,?_,?_,?_,?_⟩⟩
 ·intro n f;obtain⟨k,o,rfl⟩:=d n f;show h<=h/\h<h+1;lia
 ·intro n f p y;obtain⟨k,o,rfl⟩:=d n f;have:=vZ.mp y;exact⟨this.1,this.2.1⟩
 ·rw [D];exact uK _ c u (λk _=>by
   have:=uJ (NI:=NI) (wd:=wd) (h:=h) (rl:=rl) (ru:=ru) (k:=k);rw [JF] at this;exact this.imp λ{a b} m e=>by
    subst e;rw [vJ _ rfl] at m;cases m) λa b _ _ p B z=>(vZ.mp B).2.2.symm.trans (vZ.mp z).2.2
 ·intro n f e;obtain⟨k,o,rfl⟩:=d n f;exact oI A.two A.told2 A.al2 ((j k).mp o) (NW.mp e)
 ·intro C l P a b;obtain rfl:C=h:=by lia
  obtain⟨k,mk,q,e⟩:=B8 A.two A.told2 A.al2 P;exact⟨F k,ID.mpr ⟨k,(j k).mpr mk,rfl⟩,rfl,e,NW.mpr q⟩
 ·intro n f;obtain⟨k,o,rfl⟩:=d n f;have a:=uL (k:=k) (bs:=ts.map (yh NI (h - 1) rl ru));have b:=uL (k:=k) (bs:=g.map (yh NI h rl ru));rw [Ib] at a b;exact⟨IS a x,IS b v⟩
 ·have:=A.len;rw [Ib] at this ⊢;lia
end
theorem uM:∀ ts:List (Bool×List Gt),(∀ t∈ts,t.2≠[])->ts.length<=(flat ts).length
 | [],_=>Iu _
 | t :: ts,h=>by
  have ih:=uM ts λu a=>h u (Ii _ a);have:=Lp.mpr (h t (Ik ..));unfold flat at ih ⊢;rw [KS,IE,IJ];lia
theorem oJ {NI:Ot} {wd:Nat} {N0:Int} {ts:List (Bool×List Gt)} (T:Told NI wd N0 ts) (g:Good wd NI):ts.length<=98:=IS (uM ts λt a=>(T.line t a).ne) (T.len g)
theorem D5 {NI:Ot} {wd:Nat} (g:Good wd NI) {x y:Int} (h:yb NI wd x y=NS):yc NI x y∈NI.flatten:=by
 obtain⟨l,j,i,f⟩:=aX h;have a:y.toNat<NI.length:=by lia
 have c:NI[y.toNat]∈NI:=Jm a;have e:=g.row _ c;have b:x.toNat<(NI[y.toNat]).length:=by lia
 refine Jz.mpr ⟨_,c,?_⟩;unfold yc;have d:NI.getD y.toNat []=NI[y.toNat]:=by rw [Il,Ia a];rfl
 rw [d,Il,Ia b];exact Jm b
noncomputable def km (b a:Nat):Str:=if b=0 then (if a=0 then "all" else "birth") else if a=0 then "end" else if a=1 then (if b=1 then "on" else "joining") else if b=1 then "parting" else "knot"
def GI (c:Ot×Nat) (es:Oo):Prop:=∃ (N:List ND) (lo a:Int),es=N.map ndD/\TPk c.1 c.2 lo a N/\(∀ n∈c.1.flatten,lo<=n/\n<a)/\N.length<=620
abbrev g6 (K:Ih):Sp:=spD K 1 (λ(c:Ot×Nat) e=>e=[.dat (tab c.1)]/\Good c.2 c.1/\∀ a∈c.1.flatten,∀ b∈c.1.flatten,a - b<=9) λc r=>∃ d,r=.list d/\GI c d
theorem D6 (F:Def K mg "tree" gI pf) (G:mg "range"=NW) (a:∃ t,mg "STEEPEST"=NQ (.int 9 t)) (C:FnIn P w K mg base k "ask_table" pf (bX K)) (z:FnIn P w K mg base k "span" pf (gY K)) (I:FnIn P w K mg base k "nodes_at" pF (mx K)):FnIn P w K mg base (k+1) "tree" pf (g6 K):=by
 obtain⟨_,a⟩:=a;refine F.ok bE rfl λfa cdv A J s H E Q=>⟨_,(ze (yI (zg C Q rfl (zc (pv 0) zd))) (ze (z8 (zg z Q rfl (zc (pv 0) zd)) (zJ (K:=K) (n:=2) rfl rfl (zh (zf (i:=1) bE.nd) (zh (zf (i:=2) bE.nd) zF)))) (ze (yL (zR iw (zA yK (pv 2) (pv 1)) (vO rfl a) (z9 _)) (zm fI) z6) (zm (zz (fR (N:=qf) (own:=2) (fr:=[0]) (by walk_at "c") rfl (uU rfl G (zc (pv 1) (zc (zA yd (pv 2) zp) zd))) (λ_ _ _ _=>(zf (i:=0) (show (qf:Oa).Nodup by decide +kernel))) (λ_ _ _ _=>ye) (λ_ _ _ _=>(zK (K:=K) rfl (zg I Q rfl (zc (pv 2) (zc (pv 0) zd))))) (λ_ _ _ _=>(zf (i:=1) (show (qf:Oa).Nodup by decide +kernel))) (λ_ _ _ _=>ye) (λ_ _ _ _=>(pv 1)) rfl rfl (λ_=>rfl) (λ_ _ _ _ _=>rfl))))))),?_⟩;rintro f xs ⟨c,o⟩ hl ⟨rfl,g,fl⟩
 try dsimp only [zV,zk]
 dsimp only at *;refine yt (vG (zt (c,o) ?_));walk_at "w";rintro _ rfl;refine yt (zY (zt (c,o) (bN rfl ⟨rfl,⟨rfl,g⟩,?_⟩)));rintro _ ⟨m,M,rfl,⟨O,U⟩,q,M2⟩;refine yo rfl (zq (zj (zq (zj (zT ?_)))));have mM:=fl M q m O;have mM2:=U M q;obtain⟨Z,h0,X⟩:=Jz.mp O;have b0:=g.hgt Z h0 m X;obtain⟨Y,h1,W⟩:=Jz.mp q;have b1:=g.hgt Y h1 M W;refine yt (eX (yr ?_));walk_at "w";rw [NP (by lia),NL Ie];refine aQ (yD (PEdO.ped (vH (Ah (zv (zr rfl (zv (bS (zr rfl ⟨_,rfl,yQ ⟨_,rfl,zP ⟨m,M+1,rfl,⟨by lia,by lia,by lia,by lia⟩,?_⟩⟩⟩)))))))));refine⟨λn y b=>(∃ u v,y=[u,v,NQ (.dat (tab c))])/\∃ N,b=N.map ndD/\TPk c o m (m+n) N,⟨⟨_,_,rfl⟩,[],rfl,by simpa using TPk.nil⟩,?_,?_⟩
 ·rintro D n d x b S ⟨⟨u,v,rfl⟩,N,rfl,A⟩;unfold ah at S;rw [Iq] at S;obtain⟨n',p,rfl⟩:=Ky.mp S;obtain⟨R,j⟩:=Ig.mp p;rw [List.getElem_range] at j;subst j;rw [Jh] at R;have hM:m+(n:Int)<=M:=by lia
  refine zj (ju ?_);rw [NM rfl];refine CB (yg (PEdO.ped (ai (c,o,m+(n:Int)) (zv (zr rfl (zv (zr rfl (zP ⟨rfl,⟨rfl,g⟩,?_⟩))))))));rintro b (⟨_,rl,ru,ts,us,ks,NK⟩ | ⟨no,_⟩)
  ·obtain⟨L,rfl,B⟩:=B9 NK (oJ NK.told g) (oJ NK.told2 g);have lN:=A.len;have lL:=B.len;refine⟨_,rfl,λi y b=>(∃ v,y=[NQ (.dat (.int (m+(n:Int)))),v,NQ (.dat (tab c))])/\b=(N++L.take i).map ndD,⟨⟨_,rfl⟩,by simp⟩,?_,?_⟩
   ·rintro i d r T l ⟨⟨v,rfl⟩,rfl⟩;rw [Iq] at l;obtain⟨nn,h,rfl⟩:=Ky.mp l;have hi:=(Ig.mp h).1;refine zj (ju ?_);rw [NM rfl];refine yx (by rw [Ib,IE,Jt];lia) (zr rfl ⟨⟨_,rfl⟩,?_⟩);rw [JE,h,<- J0,IM (l₁:=N++L.take i)];rfl
   ·rintro r T ⟨⟨v,rfl⟩,rfl⟩;rw [Ib,Jk];refine⟨⟨_,_,rfl⟩,_,rfl,?_⟩;have e:m+((n+1:Nat):Int)=m+(n:Int)+1:=by lia
    rw [e];exact A.app B (by lia) (by lia)
  ·exact (no ⟨⟨m,O,by dsimp only;lia⟩,M,q,hM⟩).elim
 ·rintro x b ⟨_,N,rfl,A⟩;have el:(ah m (M+1)).length=(M+1 - m).toNat:=by unfold ah;rw [Ib,Jh]
  rw [el] at A;have ee:m+(((M+1 - m).toNat:Nat):Int)=M+1:=by lia
  rw [ee] at A;have lN:=A.len;exact⟨_,rfl,N,m,M+1,rfl,A,λn p=>⟨U n p,by have:=M2 n p;lia⟩,by lia⟩
abbrev oK (K:Ih):Sp:=spD K 1 (λ(c:ND) a=>a=[.dat (ndD c)]/\c.be.length<=1000/\c.ab.length<=1000) λc r=>r=.str (km c.be.length c.ab.length)
theorem sJ (F:Def K mg "word_of" bF ["node"]) (g:mg "len"=NW):FnIn P w K mg base (k+1) "word_of" ["node"] (oK K):=by
 refine F.ok jT rfl λz t A p s H E q=>⟨_,(ze (z8 (pv 0) (zJ (K:=K) (n:=5) rfl rfl (zh (zf (i:=1) jT.nd) (zh (zf (i:=2) jT.nd) (zh (zf (i:=3) jT.nd) (zh (zf (i:=4) jT.nd) (zh (zf (i:=5) jT.nd) zF))))))) (ze (yL (bZ (yn (K:=K) rfl (pv 2) (λ_=>rfl))) (zm (zz (j8 (yn (K:=K) rfl (pv 3) (λ_=>rfl)) yC yC))) z6) (ze (yL (bZ (yn (K:=K) rfl (pv 3) (λ_=>rfl))) (zm (zz yC)) z6) (ze (yL (zR (jD (K:=K) rfl q.units) (zB (yM (K:=K) rfl) rfl g Kb (zc (pv 3) zd)) zp (z9 _)) (zm (zz (j8 (zR (jD (K:=K) rfl q.units) (zB (yM (K:=K) rfl) rfl g Kb (zc (pv 2) zd)) zp (z9 _)) yC yC))) z6) (zm (zz (j8 (zR (jD (K:=K) rfl q.units) (zB (yM (K:=K) rfl) rfl g Kb (zc (pv 2) zd)) zp (z9 _)) yC yC))))))),?_⟩;rintro f u n y ⟨rfl,x,v⟩
 try dsimp only [zV,zk]
 refine yt (zY (zr rfl ?_));refine yo rfl (zq (zj (zq (zj (zq (zj (zq (zj (zq (zj (zT ?_)))))))))));have o:∀ l:Om,GY (xy l)=NQ (!decide (l.length=0)):=λl=>by cases l <;> rfl
 have r:∀ a b:Int,IX (.int a) (.int b)=decide (a=b):=λa b=>by rfl
 refine yt (eX (iG (ji (zr rfl ⟨_,o _,?_⟩))));rw [M3];unfold km;by_cases e:n.be.length=0
 ·rw [NN e,NM rfl];refine yD (o3 (ji (zr rfl ⟨_,o _,?_⟩)));by_cases c:n.ab.length=0
  ·rw [NN c,JP,NL Ie];exact qU (by dsimp only;rw [NM e,NM c])
  ·rw [NP c,LK,NM rfl];exact qU (by dsimp only;rw [NM e,NL c])
 rw [NP e,NL Ie];refine aQ (yt (eX (iG (ji (zr rfl ⟨_,o _,?_⟩)))));rw [M3];by_cases c:n.ab.length=0
 ·rw [NN c,NM rfl];exact yD (qU (by dsimp only;rw [NL e,NM c]))
 rw [NP c,NL Ie];have j:∀ (l:Om) (D:Prop) [Decidable D] ,(D↔l.length=1)->IX (.int ((l.map λ(i:Nat)=>PyData.int i).length:Nat)) (.int 1)=decide D:=λl D _ h=>by
  rw [r,Ib];exact decide_eq_decide.mpr (by rw [h];lia)
 refine aQ (yt (eX (yr (qA (sZ (zv (zr rfl (zP (.inr ⟨_,rfl,yQ ⟨rfl,rfl,IS (JY _ _) (by decide),_,rfl,?_⟩⟩)))))))));rw [NL Ie,j n.ab (n.ab.length=1) Iff.rfl];by_cases m:n.ab.length=1
 ·rw [NN m,NM rfl];refine yD (o3 (yr (qA (sZ (zv (zr rfl (zP (.inr ⟨_,rfl,yQ ⟨rfl,rfl,IS (JY _ _) (by decide),_,rfl,?_⟩⟩))))))));rw [NL Ie,j n.be (n.be.length=1) Iff.rfl];by_cases d:n.be.length=1
  ·rw [NN d,NM rfl];exact qU (by dsimp only;rw [NL e,NL c,NM m,NM d])
  ·rw [NP d,NL Ie];exact qU (by dsimp only;rw [NL e,NL c,NM m,NL d])
 ·rw [NP m,NL Ie];refine aQ (yD (o3 (yr (qA (sZ (zv (zr rfl (zP (.inr ⟨_,rfl,yQ ⟨rfl,rfl,IS (JY _ _) (by decide),_,rfl,?_⟩⟩)))))))));rw [NL Ie,j n.be (n.be.length=1) Iff.rfl];by_cases d:n.be.length=1
  ·rw [NN d,NM rfl];exact qU (by dsimp only;rw [NL e,NL c,NL m,NM d])
  ·rw [NP d,NL Ie];exact qU (by dsimp only;rw [NL e,NL c,NL m,NL d])
theorem GJ {l:List Pt} (c:(l.map pD).Pairwise λd e=>ltD d e=NS):l.Nodup:=Md _ (λa b (z:ltD (pD a) (pD b)=NS) e=>by rw [e,vJ _ rfl] at z;cases z) c
theorem Ca {NI:Ot} {wd:Nat} (g:Good wd NI) {h:Int} {l:List Pt} (P:qx NI wd h l):h∈NI.flatten:=by
 obtain⟨p,b⟩:=Lm _ (dM P);obtain⟨a,d,_⟩:=qQ P b;have c:=D5 g (show yb NI wd p.1 p.2=NS from a)
 rwa [show yc NI p.1 p.2=hgt NI p from rfl,d] at c
noncomputable def opI (o:Option Int):NR:=o.elim .none .int
def ExH (NI:Ot) (wd:Nat) (h:Int) (p:Pt) (c:Int):Prop:=∃ q,Reach NI wd c p q/\h<hgt NI q
def Pass (NI:Ot) (wd:Nat) (m h:Int) (p:Pt) (o:Option Int):Prop:=(∃ c,o=NQ c/\(m - 1<=c/\c<h)/\ExH NI wd h p c/\∀ a,c<a->a<h->¬ ExH NI wd h p a) \/ (o=NW/\∀ a,m - 1<=a->a<h->¬ ExH NI wd h p a)
def uN (NI:Ot) (m:Int):Prop:=m∈NI.flatten/\∀ n∈NI.flatten,m<=n
abbrev Pk:=List Pt×Int×Option Int
noncomputable def pkK (t:Pk):NR:=.tuple (t.1.map pD)
noncomputable def pkD (t:Pk):NR:=.tuple [pkK t,.int t.2.1,opI t.2.2]
noncomputable def hdQ (l:List Pt):Pt:=l.headD (0,0)
structure PkOk (NI:Ot) (wd:Nat) (t:Pk):Prop where
 pk:qx NI wd t.2.1 t.1
 ps:∃ m,uN NI m/\Pass NI wd m t.2.1 (hdQ t.1) t.2.2
structure PeakL (NI:Ot) (wd:Nat) (T:List Pk):Prop where
 ok:∀ t∈T,PkOk NI wd t
 all:∀ h l,qx NI wd h l->∃ t∈T,t.1=l/\t.2.1=h
 up:(T.map pkK).Pairwise λd e=>ltD d e=NS
theorem g7:∀ l:List Pt,zO (l.map pD)=NS
 | []=>rfl
 | p :: l=>by
  rw [IL,zO,g7 l];rfl
theorem uO:∀ l m:List Pt,qv (l.map pD) (m.map pD)=NS
 | [],[]=>rfl
 | [],_ :: _=>rfl
 | _ :: _,[]=>rfl
 | (x,y) :: l,(x',y') :: m=>by
  rw [IL,IL,qv];split
  ·exact uO l m
  ·show vI (.tuple [.int x,.int y]) (.tuple [.int x',.int y'])=NS;simp only [vI,qv];split
   ·split <;> rfl
   ·rfl
theorem kn:∀ l:List Pt,IB (l.map pD)<=2
 | []=>IV _
 | p :: l=>by
  have:=kn l;rw [IL];show max (pD p).depth (IB (l.map pD))<=2;exact Nat.max_le.mpr ⟨IG rfl,this⟩
theorem D7 {L:List (List Pt)} (f:∀ l∈L,l≠[]) (nd:L.Nodup):SortOk "tuple" (L.map λl=>.tuple (l.map pD)) where
 plain:=λd c=>by
  obtain⟨l,_,rfl⟩:=ID.mp c;rw [zD];exact g7 _
 head:=λd c=>by
  obtain⟨l,g,rfl⟩:=ID.mp c;obtain⟨p,l,rfl⟩:=Li (f l g);rfl
 cmp:=λd c e i=>by
  obtain⟨l,_,rfl⟩:=ID.mp c;obtain⟨m,_,rfl⟩:=ID.mp i;rw [vI];exact uO l m
 depth:=λd c=>by
  obtain⟨l,_,rfl⟩:=ID.mp c;have:=kn l;show IB (l.map pD)+1<=50;lia
 nd:=JF.mpr (nd.imp λ{a b} h e=>h (dI (λa b=>aF) (PyData.tuple.inj e)))
theorem Cb {NI:Ot} {wd:Nat} (g:Good wd NI):∀ {L:List (List Pt)},(∀ l∈L,l≠[])->(L.flatten).Nodup->(∀ p∈L.flatten,inP NI wd p=NS)->L.Nodup/\L.length<=49:=λ{L} b d f=>by
 have c:∀ {L:List (List Pt)},(∀ l∈L,l≠[])->(L.flatten).Nodup->L.Nodup:=λ{L}=>by
  induction L with
  | nil=>exact λ_ _=>JC
  | cons a L ih =>
   intro b d;rw [List.flatten_cons] at d;obtain⟨o,n,m⟩:=Jw.mp d;refine Jp.mpr ⟨λh=>?_,ih (λl i=>b l (Ii _ i)) n⟩;obtain⟨p,j⟩:=Lm _ (b a (Ik ..));exact m p j p (Jz.mpr ⟨a,h,j⟩) rfl
 have e:∀ {L:List (List Pt)},(∀ l∈L,l≠[])->L.length<=L.flatten.length:=λ{L}=>by
  induction L with
  | nil=>exact λ_=>Iu _
  | cons a L ih =>
   intro b;have:=ih λl i=>b l (Ii _ i);have:=Lp.mpr (b a (Ik ..));rw [List.flatten_cons,IE,IJ];lia
 exact⟨c b d,IS (e b) (aJ g d f)⟩
theorem Cc (a b:Str):IX (.str a) (.str b)=decide (a=b):=by rfl
abbrev Cd (K:Ih):Sp:=spD K 3 (λ(c:Ot×Nat×Int×Pt) a=>a=[.dat (tab c.1),.dat (.int c.2.2.1),.dat (pD c.2.2.2)]/\Good c.2.1 c.1/\inP c.1 c.2.1 c.2.2.2=NS/\c.2.2.1∈c.1.flatten) λc r=>∃ m o,r=opI o/\uN c.1 m/\Pass c.1 c.2.1 m c.2.2.1 c.2.2.2 o
theorem D8 (F:Def K mg "pass_of" bG pU) (I:mg "range"=NW) (G:mg "max"=NW) (C:FnIn P w K mg base k "span" pf (gY K)) (J:FnIn P w K mg base k "all_joined" pE (sC K)):FnIn P w K mg base (k+1) "pass_of" pU (Cd K):=by
 refine F.ok aA rfl λfa cdv A L s H E X=>⟨_,(ze (z8 (zg C X rfl (zc (pv 0) zd)) (zJ (K:=K) (n:=2) rfl rfl (zh (zf (i:=3) aA.nd) (zh (zf (i:=4) aA.nd) zF)))) (ze (y8 JA rfl (w4 rfl I (zc (zA yK (pv 1) zp) (zc (zA yK (pv 3) zp) (zc (GR EU zp) zd)))) (zf (i:=5) aA.nd) (zm (yL (zR iw (zB (br (K:=K) rfl rfl) rfl G boot_max (zc (yq (N:=pM) (own:=2) (fr:=[0]) (by walk_at "c") rfl (cK (K:=K) rfl (zg J X rfl (zc (pv 0) (zc (pv 5) (zc (pv 2) zd))))) (λ_ _ _ _=>(zJ (K:=K) (n:=2) rfl rfl (zh (zf (i:=0) (show (pM:Oa).Nodup by decide +kernel)) (zh (zf (i:=1) (show (pM:Oa).Nodup by decide +kernel)) zF)))) (λ_ _ _ _=>ye) (λ_ _ _ _=>(zX (zM (K:=K) rfl) (zX (zM (K:=K) rfl) (pv 2) (pv 1) (λ_ _=>rfl)) (pv 0) (λ_ _=>rfl))) rfl rfl (λ_=>rfl)) zd)) (pv 1) (z9 _)) (zm (zz (pv 5))) z6))) (zm (zz ku)))),?_⟩;rintro f xs ⟨o,B,h,p⟩ hl ⟨rfl,g,O,Y⟩
 try dsimp only [zV,zk]
 dsimp only at *;refine yt (zY (zt (o,B) (bN rfl ⟨rfl,⟨rfl,g⟩,?_⟩)));rintro _ ⟨m,M,rfl,⟨z,y⟩,M1,M2⟩;refine yo rfl (zq (zj (zq (zj (zT ?_)))));dsimp only at z y;have mh:=y h Y;obtain⟨r0,h0,z0⟩:=Jz.mp z;have b0:=g.hgt r0 h0 m z0;obtain⟨r1,h1,z1⟩:=Jz.mp Y;have b1:=g.hgt r1 h1 h z1;refine yt (Ei (Bf (zv (bS (zr rfl ⟨_,rfl,yQ ⟨_,rfl,zv (bS (zr rfl ⟨_,rfl,yQ ⟨_,rfl,zv (G7 (yQ ⟨_,rfl,zP ⟨h - 1,m - 2,rfl,⟨by lia,by lia,by lia,by lia⟩,?_⟩⟩))⟩⟩))⟩⟩)))));refine⟨λi ρ=>(∃ u,ρ=[NQ (.dat (tab o)),NQ (.dat (.int h)),NQ (.dat (pD p)),NQ (.dat (.int m)),NQ (.dat (.int M)),u])/\∀ j,h - 1 - (i:Int)<j->j<h->¬ ExH o B h p j,⟨⟨_,rfl⟩,λj a b=>by lia⟩,?_,?_⟩
 ·rintro i d _ S ⟨⟨u,rfl⟩,r⟩;unfold bx at S;rw [Iq] at S;obtain⟨i',Q,rfl⟩:=Ky.mp S;obtain⟨l1,W⟩:=Ig.mp Q;rw [List.getElem_range] at W;subst W;rw [Jh] at l1;refine zj (eX (yr (mQ (kK (zv (PEdO.ped (sI pD (λq=>.int (hgt o q)) (mT (zt (o,B,h - 1 - (i:Int),p) (zv (zr rfl (zv (zr rfl (zv (zr rfl (zP ⟨rfl,?_,?_⟩))))))))))))))))
  ·exact⟨rfl,g,O⟩
  rintro _ ⟨l,rfl,up,c⟩;dsimp only at c;have few:l.length<=49:=aJ g (GJ up) λq t=>(((c q).mp t).ins O).1;refine⟨_,rfl,l,rfl,by lia,?_,?_⟩
  ·rintro D q Z es t ho R;obtain⟨u,v,rfl⟩:=ho.two;have iq:=(((c q).mp t).ins O).1;refine yo rfl (zq (zj (zq (zj (zT (ju ?_))))));rw [NM rfl];exact yx R (fC g iq rfl rfl rfl ⟨.mk2,rfl⟩)
  ·refine zP ⟨l.map (hgt o),by rw [JB];rfl,?_,λM' U T=>⟨_,rfl,zr rfl ⟨_,rfl,_,rfl,?_⟩⟩⟩
   ·exact λe=>by
     have:=(c p).mpr .refl;rw [List.map_eq_nil_iff.mp e] at this;cases this
   refine yA (λx=>?_) λx=>?_
   ·have x:=N4 x;obtain⟨q,t,eq⟩:=ID.mp U;refine yD (zr rfl ⟨m,NQ (h - 1 - (i:Int)),rfl,⟨z,y⟩,.inl ⟨_,rfl,⟨by lia,by lia⟩,⟨q,(c q).mp t,by lia⟩,r⟩⟩)
   ·have x:=N5 x;refine aQ ⟨⟨_,rfl⟩,λj a b=>?_⟩;by_cases e:h - 1 - (i:Int)<j
    ·exact r j e b
    ·obtain rfl:j=h - 1 - (i:Int):=by lia
     rintro⟨q,rq,t⟩;have:=T _ (Mj (f:=hgt o) ((c q).mpr rq));lia
 ·rintro _ ⟨⟨u,rfl⟩,r⟩;unfold bx at r;rw [Ib,Jh] at r;exact yD (Eh ⟨m,NW,rfl,⟨z,y⟩,.inr ⟨rfl,λj a b=>r j (by lia) b⟩⟩)
theorem Ce (b a:Nat):([PyData.str "end",PyData.str "all"].any λe=>IX e (.str (km b a)))=decide (a=0):=by
 simp only [LY,List.any_nil,Cc];unfold km;by_cases f:b=0
 ·rw [NM f];by_cases c:a=0
  ·rw [NM c,NN c];decide +kernel
  ·rw [NL c,NP c];decide +kernel
 ·rw [NL f];by_cases c:a=0
  ·rw [NM c,NN c];decide +kernel
  ·rw [NL c,NP c];by_cases g:a=1
   ·rw [NM g];by_cases d:b=1
    ·rw [NM d];decide +kernel
    ·rw [NL d];decide +kernel
   ·rw [NL g];by_cases d:b=1
    ·rw [NM d];decide +kernel
    ·rw [NL d];decide +kernel
theorem g8 {b c:Type} (p:b->Bool) (f:b->List c):∀ l:List b,((l.filter p).flatMap f).Sublist (l.flatMap f)
 | []=>.slnil
 | a :: l=>by
  rw [KS,Jx];split
  ·rw [KS];exact List.Sublist.append (List.Sublist.refl _) (g8 p f l)
  ·exact (g8 p f l).trans (List.sublist_append_right _ _)
theorem xC (b a:Nat):(PyData.str (km b a)).canLay0=NS:=by
 unfold km;split
 ·split <;> decide +kernel
 ·split
  ·decide +kernel
  ·split <;> (split <;> decide +kernel)
theorem my {K:Ih} {f:Fx} {g:zu} {i:Nat} {NI:Ot} {wd:Nat} {U:List Pk} (r:g[i]?=NQ (NQ (.dat (.list (U.map pkD))))) (m:∀ t∈U,PkOk NI wd t) (p:(U.map (·.1)).Nodup) (c:U.length<=49) (d:∀ h l,qx NI wd h l->∃ t∈U,t.1=l/\t.2.1=h):PEdO K f (rR K (yy (yB i) qC)) g λes=>∃ T:List Pk,es=T.map pkD/\PeakL NI wd T/\T.length<=49:=by
 let G:Pk->NR×Oo:=λt=>(pkK t,[.int t.2.1,opI t.2.2])
 have o:∀ l∈U.map (·.1),l≠[]:=λl q=>by
  obtain⟨t,a,rfl⟩:=ID.mp q;exact dM (m t a).pk
 have s:(U.map G).map (·.1)=(U.map (·.1)).map λl=>.tuple (l.map pD):=by rw [JB,JB];rfl
 refine De "tuple" (zv (zr r (zP ⟨U.map G,?_,?_,by rw [Ib];lia,.inl (by rw [Ib];lia),λes n j=>?_⟩)))
 ·rw [JB];rfl
 ·rw [s];exact D7 o p
 ·obtain⟨V,b,rfl⟩:=L2.perm_map_inv n;refine⟨V,by rw [JB];rfl,⟨λt a=>m t (b.mem_iff.mp a),λh l P=>?_,by rw [JB] at j;exact j⟩,by rw [b.length_eq];exact c⟩;obtain⟨t,a,e⟩:=d h l P;exact⟨t,b.mem_iff.mpr a,e⟩
noncomputable abbrev oM (n:ND):Bool:=n.ab.isEmpty
abbrev fD (K:Ih):Sp:=spN K 1 (λ(c:Ot×Nat) d=>d=[.dat (tab c.1)]/\Good c.2 c.1/\∀ a∈c.1.flatten,∀ b∈c.1.flatten,a - b<=9) λc e=>∃ T:List Pk,e=T.map pkD/\PeakL c.1 c.2 T/\T.length<=49
theorem Cf (F:Def K mg "peaks" dq pf) (a:gE K "peaks"=NS) (L:mg "sorted"=NW) (O:FnIn P w K mg base (k+2) "ask_table" pf (bX K)) (J:FnIn P w K mg base (k+2) "tree" pf (g6 K)) (I:FnIn P w K mg base (k+2) "word_of" ["node"] (oK K)) (G:FnIn P w K mg base (k+2) "pass_of" pU (Cd K)):FnIn P w K mg base (k+3) "peaks" pf (fD K):=by
 refine F.okLN y3 rfl a λfa cL Pt A outer s H E l1 l2 r=>⟨_,(ze (yI (zg O r rfl (zc (pv 0) zd))) (ze (zL (i:=1) y3.nd rfl (N2 rfl) (yi zd)) (ze (y8 JA rfl (zK (K:=K) rfl (zg J r rfl (zc (pv 0) zd))) (zf (i:=2) y3.nd) (zm (yL (zR (A6 (K:=K) rfl r.units) (zg I r rfl (zc (pv 2) zd)) (zH (zc yC (zc yC zd))) rfl) (ze (z8 (pv 2) (zJ (K:=K) (n:=5) rfl rfl (zh (zf (i:=3) y3.nd) (zh (zf (i:=4) y3.nd) (zh (zf (i:=5) y3.nd) (zh (zf (i:=6) y3.nd) (zh (zf (i:=7) y3.nd) zF))))))) (zm (yI (iE J2 Kd Ke qO (pv 1) (zc (zH (zc (pv 6) (zc (pv 3) (zc (zg G r rfl (zc (pv 0) (zc (pv 3) (zc (zX (jk (K:=K) rfl) (pv 6) zp (λ_ _=>rfl)) zd)))) zd)))) zd))))) z6))) (zm (zz (wX (q:="peaks") (c:=cL) (P:=Pt) (K:=K) rfl r rfl L (zc (pv 1) zd) (by decide +kernel) rfl l1 l2 rfl (N4 (by kernel_rfl)) rfl (λ_ _ _ _ _=>rfl) rfl (N4 (by kernel_rfl)) rfl rfl rfl)))))),?_⟩;rintro f xs ⟨v,x⟩ hl ⟨rfl,g,fl⟩
 try dsimp only [zV,zk]
 dsimp only at *;refine vj (vG (zt (v,x) ?_));walk_at "w";rintro _ rfl;refine lz (w:=w) (lA (bt (cR (zP ⟨[],rfl,IV _,show 1<8 by decide,λD1=>?_⟩))));refine rf (aN (yg (zt (v,x) (zv (zr rfl (zP ⟨rfl,⟨rfl,g,fl⟩,?_⟩))))));rintro _ ⟨_,rfl,N,lo,hi,rfl,T,bd,lN⟩;dsimp only at T bd;refine⟨_,rfl,λi ρ cs=>∃ (Y X W S R Q:Option DV) (U:List Pk),ρ=[NQ (.dat (tab v)),NQ (.own (f.M.length+0)),Y,X,W,S,R,Q]/\cs=[OC.lst (U.map pkD)]/\(U.map λt=>(t.1,t.2.1))=((N.take i).filter oM).map (λn=>(n.ps,n.h))/\∀ t∈U,PkOk v x t,⟨_,_,_,_,_,_,[],rfl,rfl,by rw [Lh];rfl,(λ_ z=>nomatch z)⟩,?_,?_⟩
 ·refine step_map λi n u=>HB λY X W S R Q U ⟨d,b⟩=>?_;have mn:=Ir u;obtain⟨f1,f2⟩:=T.few n mn;have tk:N.take (i+1)=N.take i++[n]:=by rw [JE,u];rfl
  refine zj (wB (CS (yr (FT (zt n (zv (zr rfl (zP ⟨rfl,⟨rfl,by lia,by lia⟩,?_⟩))))))));rintro _ rfl;refine qk (zv (qU (zv (qU (zP ⟨_,rfl,show 2<=1000 by decide,_,rfl,xC _ _,?_,IV _,_,rfl,?_⟩)))))
  ·intro e he;simp only [Iv,Jy,or_false] at he;rcases he with rfl | rfl <;> decide +kernel
  have ea:oM n=decide (n.ab.length=0):=by
   unfold oM;cases n.ab <;> rfl
  refine HC (Ce _ _) (λD=>?_) λD=>?_
  ·have nil:n.ab=[]:=Ly.mp (N4 D);have C:=T.pk n mn nil;obtain⟨p,ps,ep⟩:=Li (dM C);obtain⟨ip,hp,_⟩:=qQ C (q:=p) (by rw [ep];exact Ik);refine vn (gy (zY (zr rfl (yo rfl (zq (zj (zq (zj (zq (zj (zq (zj (zq (zj (zT ?_)))))))))))))));have fewU:U.length<=620:=by
    have:=congrArg Nd d;rw [Ib,Ib] at this;have:=Jq oM (N.take i);rw [Jt] at this;lia
   refine iP (i:=1) (j:=0) rfl rfl (by rw [Ib];lia) (cW (qk (zv (zr rfl (zv (zr rfl (zv (zt (v,x,n.h,p) (zv (zr rfl (zv (zr rfl (zv (eG (zr rfl ⟨_,rfl,yQ ⟨_,rfl,pD p,?_,zP ⟨rfl,⟨rfl,g,ip,Ca g C⟩,?_⟩⟩⟩)))))))))))))))
   ·rw [ep];exact fg (j:=0) rfl
   rintro _ ⟨m,o,rfl,lm,Z⟩;refine zP ⟨_,rfl,show 3<=1000 by decide,_,_,_,_,_,_,U++[(n.ps,n.h,o)],rfl,?_,?_,?_⟩
   ·rw [IM];rfl
   ·rw [tk,JV,IM,IM,d,Jx,ea,D];rfl
   ·intro t y;rcases Iz.mp y with h | h
    ·exact b t h
    ·rw [Iw.mp h];refine⟨C,m,lm,?_⟩;have:hdQ n.ps=p:=by unfold hdQ;rw [ep];rfl
     show Pass v x m n.h (hdQ n.ps) o;rw [this];exact Z
  ·refine d6 ⟨_,_,_,_,_,_,U,rfl,rfl,?_,b⟩;rw [tk,JV,IM,d,Jx,ea,D];simp
 ·rintro _ _ ⟨Y,X,W,S,R,Q,U,rfl,rfl,d,b⟩;rw [Ib,Jk] at d;have e1:U.map (·.1)=(N.filter oM).map (·.ps):=by
   have:=congrArg (LJ MM) d;rw [JB,JB] at this;exact this
  have ne:∀ l∈U.map (·.1),l≠[]:=λl hl=>by
   obtain⟨t,y,rfl⟩:=ID.mp hl;exact dM (b t y).pk
  have fe:(U.map (·.1)).flatten=(N.filter oM).flatMap (·.ps):=by rw [e1,List.flatMap_def]
  have sub:=g8 oM (λn:ND=>n.ps) N;obtain⟨nd,B⟩:=Cb g ne (by rw [fe];exact T.pnd.sublist sub) λp hp=>by
   rw [fe] at hp;obtain⟨n,u,h1⟩:=Jl.mp hp;exact (T.pt n (Jd.mp u).1 p h1).1
  rw [Ib] at B;refine lB (gk (my (i:=1) ?_ b nd B λh l P=>?_))
  ·show NQ (freed _ _ _)=_;simp [freed]
  ·obtain⟨b1,b2⟩:=bd h (Ca g P);obtain⟨n,u,e2,e3,e4⟩:=T.all h l P b1 b2;have:(n.ps,n.h)∈U.map λt=>(t.1,t.2.1):=by
    rw [d];exact ID.mpr ⟨n,Jd.mpr ⟨u,by unfold oM;rw [e4];rfl⟩,rfl⟩
   obtain⟨t,y,e5⟩:=ID.mp this;exact⟨t,y,(congrArg MM e5).trans e3,(congrArg Prod.snd e5).trans e2⟩
theorem dN:bootBuiltins "ValueError"=NQ (.type "ValueError"):=by kernel_rfl
theorem GK {K:Ih} {f:Fx} {E:XK} {d:TE} {a:zu} {g:TG} {ts:TS} {D:DEnds} {Z:NT->XD->Prop} (h:PEf K f E d a (λ_=>False) Z):PSf K f E (xO (ik K d) g ts) a D Z:=λi H N e n r b c z=>h i H _ e (λ_ _ _ _ _ p=>p.elim) z
theorem Cg {K:Ih} {f:Fx} {d:zu} {t:TA} {D:DEnds} {Z:NT->XD->Prop} {sps:List Sp} {g:Type} {n:Nat} {b:g->List DV->Prop} {a:g->NR->Prop} (x:spD K n b a∈sps) (c:g) (h:PAd K f t d λxs=>xs.length=n/\b c xs/\∀ r,a c r->D.nx d):PYd K f (lJ sps t) d D Z:=λE j H N e q B bk C z =>
 h j H _ e λxs A F i o ⟨l,u,s⟩=>⟨_,x,f,xs,c,o,l,i.2,u,λr v y m _ p=>q d j y (i.trans m) (e.mono (i.trans m)) (s r p)⟩
abbrev oN (NI:Ot):Prop:=∀ a∈NI.flatten,∀ b∈NI.flatten,a - b<=9
abbrev kq (NI:Ot):Prop:=∃ a∈NI.flatten,∃ b∈NI.flatten,9<a - b
abbrev jJ (K:Ih) (C:Ij):Sp:=spF K 1 (λ(c:Ot×Nat) a=>a=[.dat (tab c.1)]/\Good c.2 c.1/\kq c.1) (λ_ _=>False) λ_ V x=>V=.ref C/\x=NW
theorem Ci {d:Ij} (F:Def K mg "tree" gI pf) (c:∃ t,mg "STEEPEST"=NQ (.int 9 t)) (e:mg "TooSteep"=NQ (.ref d)) (l:LZ K d [.type "ValueError",.type "Exception",.type "BaseException",.type "object"] "ValueError.__new__"=NS) (j:FnIn P w K mg base k "ask_table" pf (bX K)) (h:FnIn P w K mg base k "span" pf (gY K)):FnInF P w K mg base (k+1) "tree" pf (jJ K d):=by
 obtain⟨_,c⟩:=c;refine F.okF bE rfl λS N A o s H E v=>⟨_,(ze (yI (zg j v rfl (zc (pv 0) zd))) (ze (z8 (zg h v rfl (zc (pv 0) zd)) (zJ (K:=K) (n:=2) rfl rfl (zh (zf (i:=1) bE.nd) (zh (zf (i:=2) bE.nd) zF)))) (ze (yL (zR iw (zA yK (pv 2) (pv 1)) (vO rfl c) (z9 _)) (zm (rK A0 rfl rfl rfl rfl rfl e l PySem.F.excBase_ValueError (zc yC zd))) z6) dO))),?_⟩;rintro f Q ⟨x,q⟩ R ⟨rfl,g,a,I,b,G,W⟩
 try dsimp only [zV,zk]
 dsimp only at *;refine iU (lI (vG (zt (x,q) (bN rfl ⟨rfl,⟨rfl,g⟩,?_⟩))));rintro _ rfl;refine iU (lI (zY (zt (x,q) (bN rfl ⟨rfl,⟨rfl,g⟩,?_⟩))));rintro _ ⟨m,M,rfl,⟨u,r⟩,z,y⟩;refine yo rfl (zq (zj (zq (zj (zT ?_)))));dsimp only at u r z y;have p:=y a I;have O:=r b G;obtain⟨D,L,B⟩:=Jz.mp u;have U:=g.hgt D L m B;obtain⟨C,J,p⟩:=Jz.mp z;have T:=g.hgt C J M p;refine iU (Hg (yr ?_));walk_at "w";rw [NN (by lia),NM rfl];exact A1 (zv (qU (zP ⟨by show 1<=1000;decide,rfl,rfl⟩)))
theorem xD {a:Ij} (F:Def K mg "peaks" dq pf) (c:FnIn P w K mg base k "ask_table" pf (bX K)) (b:FnInF P w K mg base k "tree" pf (jJ K a)):FnInF P w K mg base (k+1) "peaks" pf (jJ K a):=by
 refine F.okF y3 rfl λp m A d s H E j=>⟨_,(ze (yI (zg c j rfl (zc (pv 0) zd))) (ze (zL (i:=1) y3.nd rfl (N2 rfl) (yi zd)) (ze (y8 PassesOwn.leaving rfl (zK (K:=K) rfl (A3 b j rfl (zc (pv 0) zd))) (zf (i:=2) y3.nd) dO) dO))),?_⟩;rintro f n ⟨l,e⟩ o ⟨rfl,g,st⟩
 try dsimp only [zV,zk]
 dsimp only at *;refine iU (lI (vG (zt (l,e) (bN rfl ⟨rfl,⟨rfl,g⟩,?_⟩))));rintro _ rfl;refine iU (lI (zY (mR (zP ⟨[],rfl,IV _,zj ?_⟩))));exact iU (GK (FO (l,e) (bN rfl ⟨rfl,⟨rfl,g,st⟩,λ_ z=>z.elim,λC x h=>h⟩)))
abbrev oO (K:Ih) (C:Ij):Ij->Sp:=spM K 1 (λa (x:XD) b=>b=[.mon (aj K a (.ref C) x)]) λ_ r=>r=.bool NS
theorem xE {g e d c a o n m l h:Ij} (F:Def K mg "_law_alone" vz pY) (b:mg "isinstance"=NW) (J:mg "any"=NW) (I:mg "ValueError"=NW)
  (G:mg "NoTable"=NQ (.ref g)) (E:mg "NoPoint"=NQ (.ref e)) (D:mg "NoGate"=NQ (.ref d)) (z:mg "NoRing"=NQ (.ref c)) (B:mg "TooSteep"=NQ (.ref a)) (y:mg "NoWeb"=NQ (.ref o)) (u:mg "NoBack"=NQ (.ref n)) (t:mg "NoText"=NQ (.ref m)) (r:mg "NoRow"=NQ (.ref l)) (q:mg "NoDeed"=NQ (.ref h))
  (C:c8 K a=NS) (N:Je K (.ref a) (.ref a)=NQ NS) (M:Je K (.ref a) (.type "ValueError")=NQ NS) (ks1:Je K (.ref a) (.ref e)=NQ NV) (Z:Je K (.ref a) (.ref d)=NQ NV) (Y:Je K (.ref a) (.ref c)=NQ NV) (X:Je K (.ref a) (.ref g)=NQ NV) (U:Je K (.ref a) (.ref o)=NQ NV) (T:Je K (.ref a) (.ref n)=NQ NV) (S:Je K (.ref a) (.ref m)=NQ NV) (R:Je K (.ref a) (.ref l)=NQ NV) (Q:Je K (.ref a) (.ref h)=NQ NV) :
  FnInM P w K mg base (k+1) "_law_alone" pY (oO K a):=by
 have W:=t9 C;refine F.okM qN rfl λfa cdv A L s H O hM hr=>⟨_,(ze (zL (i:=1) qN.nd rfl (N2 rfl) (yi (zc (zB (yZ (K:=K) rfl) rfl b boot_isinstance (zc (pv 0) (zc (jA (v:=.ref e) rfl E rfl) zd))) (zc (zB (yZ (K:=K) rfl) rfl b boot_isinstance (zc (pv 0) (zc (jA (v:=.ref d) rfl D rfl) zd))) (zc (zB (yZ (K:=K) rfl) rfl b boot_isinstance (zc (pv 0) (zc (jA (v:=.ref c) rfl z rfl) zd))) zd))))) (ze (zL (i:=1) qN.nd rfl (N2 rfl) (zA (aS (K:=K) rfl) (pv 1) (yi (zc (zB (yZ (K:=K) rfl) rfl b boot_isinstance (zc (pv 0) (zc (jA (v:=.ref g) rfl G rfl) zd))) (zc (zB (yZ (K:=K) rfl) rfl b boot_isinstance (zc (pv 0) (zc (jA (v:=.ref o) rfl y rfl) zd))) (zc (zB (yZ (K:=K) rfl) rfl b boot_isinstance (zc (pv 0) (zc (jA (v:=.ref n) rfl u rfl) zd))) zd)))))) (ze (zL (i:=1) qN.nd rfl (N2 rfl) (zA (aS (K:=K) rfl) (pv 1) (yi (zc (zB (yZ (K:=K) rfl) rfl b boot_isinstance (zc (pv 0) (zc (jA (v:=.ref m) rfl t rfl) zd))) (zc (zB (yZ (K:=K) rfl) rfl b boot_isinstance (zc (pv 0) (zc (jA (v:=.ref l) rfl r rfl) zd))) (zc (zB (yZ (K:=K) rfl) rfl b boot_isinstance (zc (pv 0) (zc (jA (v:=.ref h) rfl q rfl) zd))) zd)))))) (zm (zz (b6 (zB (yZ (K:=K) rfl) rfl b boot_isinstance (zc (pv 0) (zc (jA (v:=.ref a) rfl B rfl) zd))) (b6 (zB (yZ (K:=K) rfl) rfl b boot_isinstance (zc (pv 0) (zc (Co (v:=.ty "ValueError") rfl I dN rfl) zd))) (fH (xJ (zB (wN (K:=K) rfl hM) rfl J PyProof.Rows.boot_any (zc (pv 1) zd))))))))))),?_⟩;rintro f xs x hl rfl
 try dsimp only [cxM,zV,zk]
 refine vR (λp=>p=[NQ (.mon (aj K O (.ref a) x)),NQ (.dat (.list [.bool NV,.bool NV,.bool NV]))]) ?_ ?_
 ·repeat (first | walk_at "dl" | refine rG rfl W (by assumption) ?_)
  rfl
 rintro _ rfl;refine vR (λp=>p=[NQ (.mon (aj K O (.ref a) x)),NQ (.dat (.list [.bool NV,.bool NV,.bool NV,.bool NV,.bool NV,.bool NV]))]) (zY (gj (zr rfl ⟨_,rfl,?_⟩))) ?_
 ·repeat (first | walk_at "dl" | refine rG rfl W (by assumption) ?_)
  rfl
 rintro _ rfl;refine vR (λp=>p=[NQ (.mon (aj K O (.ref a) x)),NQ (.dat (.list [.bool NV,.bool NV,.bool NV,.bool NV,.bool NV,.bool NV,.bool NV,.bool NV,.bool NV]))]) (zY (gj (zr rfl ⟨_,rfl,?_⟩))) ?_
 ·repeat (first | walk_at "dl" | refine rG rfl W (by assumption) ?_)
  rfl
 rintro _ rfl;refine yD (fS (A2 rfl W (.inr ⟨_,rfl,N⟩) ⟨NS,rfl,?_⟩));rw [NM rfl];refine fS (A2 rfl W (.inl ⟨_,rfl,M⟩) ⟨NS,rfl,?_⟩);rw [NM rfl];refine Aa (FR (j:=0) rfl (zr rfl ⟨[NV,NV,NV,NV,NV,NV,NV,NV,NV],rfl,?_⟩));exact⟨_,rfl,rfl⟩
abbrev uP (K:Ih):Sp:=spD K 2 (λ(c:Ot×Nat×Int) a=>a=[.dat (tab c.1),.dat (.int c.2.2)]/\Good c.2.1 c.1/\(oN c.1 \/ kq c.1)) λc r=>(oN c.1->r=.str "told")/\(kq c.1->r=.str "too steep")
theorem Cj {c y:Ij} (F:Def K mg "_law_told" aD pZ) (M:mg "HeightError"=NQ (.ref y)) (N:c8 K c=NS) (T:LL K (.ref c) (.ref y)=NQ NS)
  (x:FnIn P w K mg base k "tree" pf (g6 K)) (o:FnInF P w K mg base k "tree" pf (jJ K c)) (v:FnIn P w K mg base k "peaks" pf (fD K)) (m:FnInF P w K mg base k "peaks" pf (jJ K c)) (L:FnInM P w K mg base k "_law_alone" pY (oO K c)):FnIn P w K mg base (k+1) "_law_told" pZ (uP K):=by
 have W:=t9 N;obtain⟨n,_,_,r,J,_⟩:=x.ex;obtain⟨e,_,_,q,I,_⟩:=v.ex;have l:∀ t,t∈[g6 K,jJ K c]->FnAt P w K mg base (CXf P w) k n t:=λt h=>by
  rcases Iv.mp h with rfl | h
  ·exact x.at r
  ·obtain rfl:=Iw.mp h;exact o.at r
 have d:∀ t,t∈[fD K,jJ K c]->FnAt P w K mg base (CXf P w) k e t:=λt h=>by
  rcases Iv.mp h with rfl | h
  ·exact v.at q
  ·obtain rfl:=Iw.mp h;exact m.at q
 refine F.ok qo rfl λfa U A O s H E G=>⟨_,(ze (C5 (j:=3) (FU (zR (jD (K:=K) rfl G.units) (pv 1) zp (z9 _)) (nK (sps:=[g6 K,jJ K c]) l G rfl r J (zc (pv 0) zd)) (nK (sps:=[fD K,jJ K c]) d G rfl q I (zc (pv 0) zd)) (zm (zL (i:=2) qo.nd rfl (N2 rfl) yC))) qo.nd rfl rfl rfl rfl rfl M (λ_=>(ze (zL (i:=2) qo.nd rfl (N2 rfl) yC) (zm (yL (yn (K:=K) rfl (A4 L G rfl (zc (pv 3) zd)) (λ_=>rfl)) (zm (zL (i:=2) qo.nd rfl (N2 rfl) yC)) z6))))) (zm (zz (pv 2)))),?_⟩;rintro f X ⟨u,C,Y⟩ Z ⟨rfl,g,S⟩
 try dsimp only [zV,zk]
 dsimp only at *;refine yt (FP (Hl (HX ?_)));walk_at "w";rw [NL Ie,du];rcases S with B | st
 ·have D:∀ {p:Prop},kq u->p:=λ⟨a,R,b,Q,z⟩=>by
   have:=B a R b Q;lia
  refine yA (λh=>?_) λh=>?_
  ·refine Cg (Ik ..) (u,C) (bN rfl ⟨rfl,⟨rfl,g,B⟩,λ_ _=>?_⟩);exact zY (qU (zj (yD (zr rfl ⟨λ_=>rfl,D⟩))))
  ·refine A7 (Ik ..) (u,C) (bN rfl ⟨rfl,⟨rfl,g,B⟩,λ_ _=>?_⟩);exact zY (qU (zj (yD (zr rfl ⟨λ_=>rfl,D⟩))))
 ·have D:∀ {p:Prop},oN u->p:=λB=>by
   obtain⟨a,R,b,Q,z⟩:=st;have:=B a R b Q;lia
  refine yA (λh=>nL (Ii _ (Ik ..)) (u,C) (bN rfl ⟨rfl,⟨rfl,g,st⟩,λ_ z=>z.elim,?_⟩)) λh=>nL (Ii _ (Ik ..)) (u,C) (bN rfl ⟨rfl,⟨rfl,g,st⟩,λ_ z=>z.elim,?_⟩)
  all_goals
   rintro _ _ ⟨rfl,rfl⟩;refine⟨T,λa=>yt (zY (qU (zj ?_)))⟩;refine eX (ji (zt _ (iS (v_var rfl (zP ⟨rfl,rfl,?_⟩)))));rintro _ rfl;refine⟨NS,rfl,?_⟩;rw [NM rfl];exact zY (qU (zj (yD (zr rfl ⟨D,λ_=>rfl⟩))))
noncomputable abbrev scr (ns:Oh):NR:=.list (ns.map .int)
theorem uQ {K:Ih} {H:Hp} {a:Ij} {ns:Oh} (h:SqL K H a (ns.map V.int)):Rep K (hide H L2.f0) (scr ns) (.ref a):=by
 rw [jt];exact zI.mpr ⟨a,_,rfl,h,Reps.ints' ns⟩
theorem D9 {K:Ih} {H:Hp} {v:V} {ns:Oh} (h:Rep K (hide H L2.f0) (scr ns) v):∃ a,v=.ref a/\SqL K H a (ns.map V.int):=by
 rw [jt] at h;obtain⟨a,d,rfl,b,c⟩:=zI.mp h;rw [c.ints] at b;exact⟨a,rfl,b⟩
def sL (K:Ih):Sp:=λd H Q _=>∃ (a:Ij) (c:Oh) (i:Int),d=[.ref a,.int i]/\SqL K H a (c.map V.int)/\c.length<=63/\0<=i/\i<=63 /\
 ∀ (p:Ij) (x y:Int) (b:Hp),Same H b->H p=NW->b p=NQ (.lst [.int x,.int y])->0<=x->0<=y->y<2147483647->Q (.ref p) b
def uR (K:Ih):Sp:=λc H Q _=>∃ (a:Ij) (b:Oh),c=[.ref a]/\SqL K H a (b.map V.int)/\b.length<=63/\∀ d,Q (.bl NS) d
theorem Ea {K:Ih} {f:Fx} {t:TA} {a:zu} {R b:List DV->Prop} (h:PAd K f t a R) (i:∀ xs,R xs->b xs):PAd K f t a b:=λc H Q e q=>h c H Q e λxs d j g r p=>q xs d j g r (i xs p)
theorem GL {K:Ih} {c:zu} {ns:Oh} {i:Int} {u:XK} (h0:c[0]?=NQ (NQ (.dat (scr ns)))) (s:c[1]?=NQ (NQ (.dat (.int i)))) (o:ns.length<=63) (n:0<=i) (m:i<=63) :
  ∀ (b:L2.St) (H:Hp) (Q:VK),EnvOk K L2.f0 c b H->(∀ (p:Ij) (x y:Int) (g:Hp),Same H g->H p=NW->g p=NQ (.lst [.int x,.int y])->0<=x->0<=y->y<2147483647->Q (.ref p) g)->bP (sL K) [] u (yy (yB 0) (yy (yB 1) qC)) b H Q:=by
 intro b H Q e q;obtain⟨v,f,l⟩:=e.get 0 _ h0;obtain⟨h,d,j⟩:=e.get 1 _ s;obtain⟨a,rfl,r⟩:=D9 l;have t:h=.int i:=zw.mp (show Rep K (hide H L2.f0) (.int i) h from j);subst t;exact⟨_,f,_,d,a,ns,i,rfl,r,o,n,m,q⟩
theorem Eb (F:Def K mg "_law_feed" aB pW) (d:mg "len"=NW) (g:mg "abs"=NW):FnIn P w K mg base (k+1) "_law_feed" pW (sL K):=by
 refine F.raw aW (λf H Q E h=>?_) λfa X A l s H f Q E hr I=>⟨_,(ze (zL (i:=2) aW.nd rfl (N2 rfl) zp) (ze (yL (zR iw (zB (yM (K:=K) rfl) rfl d Kb (zc (pv 0) zd)) zp (z9 _)) (zm (zL (i:=2) aW.nd rfl (N2 rfl) (zX (zM (K:=K) rfl) (pv 0) (zA aa (pv 1) (zB (yM (K:=K) rfl) rfl d Kb (zc (pv 0) zd))) (λ_ _=>rfl)))) z6) (zm (zz (yi (zc (zB (xU) rfl g PyProof.Rows.boot_abs (zc (pv 2) zd)) (zc (zA yd (zA qR zp (pv 1)) zp) zd))))))),?_⟩
 ·obtain⟨a,ns,i,rfl,_⟩:=h;rfl
 obtain⟨a,ns,i,rfl,J,L,i0,i1,q⟩:=I;have W:EnvOk K L2.f0 (jC cz [.dat (scr ns),.dat (.int i)]) (start cz [.ref a,.int i]) H:=y6 (.cons (uQ J) (.cons (show RepV K L2.f0 H (.dat (.int i)) (.int i) from (zw (K:=K) (H:=hide H L2.f0)).mpr rfl) .nil)) (L2.fok0 H);refine Ad (D:={ nx:=λe=>e=[NQ (.dat (scr ns)),NQ (.dat (.int i)),NQ (.dat (.int 0))],rt:=λ_=>False }) ?_ W ?_ (λ_ _ _ _ _ z=>z.elim) (λ_ z=>z) (λ_ z=>z)
 ·walk_at "w";rfl
 rintro _ u H1 O U rfl;refine Ad (D:={ nx:=λe=>∃ c:Int,e=[NQ (.dat (scr ns)),NQ (.dat (.int i)),NQ (.dat (.int c))],rt:=λ_=>False }) ?_ U ?_ (λ_ _ _ _ _ z=>z.elim) (λ_ z=>z) (λ_ z=>z)
 ·walk_at "w";rw [Ib];by_cases h:0<ns.length
  ·rw [NM (by simpa using h)];walk_at "w";rw [Ib];have z0:=Lw i (b:=(ns.length:Int)) (by lia);have z1:=Km i (b:=(ns.length:Int)) (by lia);refine⟨by lia,_,rfl,_,vA (j:=(i % (ns.length:Int)).toNat) (by lia) (by lia),?_⟩;walk_at "w";exact⟨_,rfl⟩
  ·rw [NL (by simpa using h)];walk_at "w";exact⟨_,rfl⟩
 rintro _ t Z N T ⟨c,rfl⟩;unfold g9;have v:Same H Z:=(L2.same0 O).trans (L2.same0 N);refine Ae (R:=λr=>∃ x y:Int,r=[.int x,.int y]/\0<=x/\0<=y/\y<2147483647) ?_ T ?_
 ·walk_at "w";lia
 ·rintro p r f Y M o B ⟨x,y,rfl,G,C,m⟩;have n:Same H Y:=v.trans (L2.same0 M);have S:f=[.int x,.int y]:=Reps.ints (ns:=[x,y]) B;subst S;exact q p x y _ (n.trans (yf o _)) (n.free o) zy G C m
def AllIn (a b:Int) (NI:Ot):Prop:=∀ r∈NI,∀ n∈r,a<=n/\n<=b
structure Tb (wd hg:Nat) (lo hi:Int) (NI:Ot):Prop where
 len:NI.length=hg
 row:∀ r∈NI,r.length=wd
 all:AllIn lo hi NI
theorem Tb.put {wd hg:Nat} {a d:Int} {NI:Ot} (t:Tb wd hg a d NI) {r c:Nat} {row:Oh} {v:Int} (e:NI[r]?=NQ row) (i:a<=v) (g:v<=d):Tb wd hg a d (NI.set r (row.set c v)) where
 len:=by rw [JX];exact t.len
 row:=λq b=>by
  rcases Ln b with h | rfl
  ·exact t.row q h
  ·rw [JX];exact t.row row (Ir e)
 all:=λq b n f=>by
  rcases Ln b with h | rfl
  ·exact t.all q h n f
  ·rcases Ln f with h | rfl
   ·exact t.all row (Ir e) n h
   ·exact⟨i,g⟩
theorem Tb.good {wd hg:Nat} {a b:Int} {NI:Ot} (t:Tb wd hg a b NI) (w1:2<=wd) (w2:wd<=7) (h1:2<=hg) (h2:hg<=7) (l:-1000000000<=a) (u:b<=1000000000):Good wd NI where
 h1:=by rw [t.len];exact h1
 h2:=by rw [t.len];exact h2
 w1:=w1
 w2:=w2
 row:=t.row
 hgt:=λr c n d=>by
  have:=t.all r c n d;lia
theorem mz {NI:Ot} {y x:Nat} {row:Oh} {v:Int} (h:NI[y]?=NQ row) (h':row[x]?=NQ v):v∈NI.flatten:=Jz.mpr ⟨row,Ir h,Ir h'⟩
theorem Ec {NI:Ot} {d f g i:Nat} {a c:Oh} {b h:Int} (q:NI[d]?=NQ a) (l:f<a.length) (j:(NI.set d (a.set f b))[g]?=NQ c) (p:i<c.length) (o:¬ (d=g/\f=i)) :
  b∈((NI.set d (a.set f b)).set g (c.set i h)).flatten/\h∈((NI.set d (a.set f b)).set g (c.set i h)).flatten:=by
 have n:=(Ig.mp q).1;have m:=(Ig.mp j).1;refine⟨?_,mz (y:=g) (x:=i) (Jj m) (Jj p)⟩;by_cases e:d=g
 ·subst e;rw [Jj n] at j;cases j;refine mz (y:=d) (x:=f) (Jj m) ?_;rw [JN λz=>o ⟨rfl,z.symm⟩];exact Jj l
 ·refine mz (y:=d) (x:=f) (row:=a.set f b) ?_ (Jj l);rw [JN λz=>e z.symm];exact Jj n
theorem HN {NI:Ot} {wd:Nat} (g:Good wd NI) {h:Int} (m:h∈NI.flatten):∃ p:Pt,inP NI wd p=NS/\hgt NI p=h:=by
 obtain⟨r,c,d⟩:=Jz.mp m;obtain⟨y,a⟩:=Jc c;obtain⟨x,b⟩:=Jc d;have e:=(Ig.mp a).1;have f:=(Ig.mp b).1;have i:=g.row r c;refine⟨((x:Int),(y:Int)),?_,?_⟩
 ·show (decide ((0:Int)<=(x:Int)/\(x:Int)<wd) && decide ((0:Int)<=(y:Int)/\(y:Int)<NI.length))=NS;rw [NN (by lia),NN (by lia)];rfl
 ·show (NI.getD (y:Int).toNat []).getD (x:Int).toNat 0=h;rw [Ki,Ki,Il,Il,a,Lk,b,Lk]
theorem Ck {NI:Ot} {wd:Nat} {h:Int} {es:Oo} {rl ru:List (Bool×List Pt)} {ts c:List (Bool×List Gt)} {ks:List Key} (b:NodesK NI wd h es rl ru ts c ks) {p:Pt} (a:inP NI wd p=NS) (d:hgt NI p=h):es≠[]:=λe=>by
 have m:(ixR rl p,ixR ru p)∈ks:=(b.mem _).mpr ⟨p,p,a,a,.inr rfl,by lia,by lia,rfl⟩;have:=b.perm.length_eq;rw [e,Ib] at this;rw [Ly.mp this.symm] at m;cases m
theorem xF {NI:Ot} {wd:Nat} {h:Int} {es:Oo} {rl ru:List (Bool×List Pt)} {ts a:List (Bool×List Gt)} {ks:List Key} (f:NodesK NI wd h es rl ru ts a ks):(PyData.list es).canLay0=NS:=by
 have all:∀ l:Oo,(∀ d∈l,zD d=NS)->LH l=NS:=λl=>by
  induction l with
  | nil=>exact λ_=>rfl
  | cons d l ih =>
   intro z;rw [LH,yT d (z d (Ik ..)),ih λe b=>z e (Ii _ b)];rfl
 exact all es λd c=>by
  obtain⟨k,_,rfl⟩:=ID.mp (f.perm.mem_iff.mp c);exact cF k
theorem Cm {es:Oo} (h:es≠[]):IX (.list es) (.list [])=NV:=by
 cases es with
 | nil=>exact absurd rfl h
 | cons e es=>rfl
theorem sM {wd hg q r:Int} (w:0<wd) (u:0<=q) (t:q<wd * hg) (x:0<=r) (v:r<wd * hg - 1):∃ d g c f:Nat,q / wd=d/\q % wd=g/\((q+1+r) % (wd * hg)) / wd=c/\((q+1+r) % (wd * hg)) % wd=f/\(d:Int)<hg/\(g:Int)<wd/\(c:Int)<hg/\(f:Int)<wd/\¬ (d=c/\g=f):=by
 have m:=Lw (q+1+r) (b:=wd * hg) (by lia);have j:=Km (q+1+r) (b:=wd * hg) (by lia);have n:(q+1+r) % (wd * hg)≠q:=λe=>by
  by_cases l:q+1+r<wd * hg
  ·rw [Int.emod_eq_of_lt (by lia) l] at e;lia
  ·have:(q+1+r) % (wd * hg)=q+1+r - wd * hg:=by
    rw [<-Int.sub_emod_right,Int.emod_eq_of_lt (by lia) (by lia)]
   lia
 generalize (q+1+r) % (wd * hg)=o at m j n ⊢;have a:∀ {z:Int},0<=z->z<wd * hg->0<=z / wd/\z / wd<hg/\0<=z % wd/\z % wd<wd:=λ{z} s p =>
  ⟨Int.ediv_nonneg s (by lia),Int.ediv_lt_of_lt_mul w (by rw [Int.mul_comm];exact p),Lw _ (by lia),Km _ w⟩
 obtain⟨I,H,G,F⟩:=a u t;obtain⟨E,D,C,B⟩:=a m j;refine⟨(q / wd).toNat,(q % wd).toNat,(o / wd).toNat,(o % wd).toNat,by lia,by lia,by lia,by lia,by lia,by lia,by lia,by lia,λ⟨A,y⟩=>n ?_⟩;have i:q / wd=o / wd:=by lia
 have h:q % wd=o % wd:=by lia
 have:=Nc q wd;have:=Nc o wd;rw [<-i,<- h] at this;lia
theorem GN {f:Ij} {fd:FuncData} (F:Fun K "law" "law" eR f fd) (uab:mg "len"=NW) (Z:mg "range"=NW) (uag:mg "max"=NW) (uaj:mg "min"=NW) (ubk:mg "int"=NW)
  (ucp:FnIn P w K mg base k "_law_feed" pW (sL K)) (x:FnIn P w K mg base k "_law_draw" pX (F6 K)) (ubZ:FnIn P w K mg base k "_law_told" pZ (uP K)) (uaV:FnIn P w K mg base k "nodes_at" pF (mx K)) :
  FnOk P w K mg base CX0 (k+1) f fd qa (uR K):=by
 refine F.ok qZ (λvs H Q E h=>?_) λcdv A outer s H vs Q E t L=>⟨_,(ze (y8 JA rfl (jN rfl Z (zc (zB (uW rfl) rfl uag boot_max (zc zp (zc (zB (uX rfl) rfl uaj boot_min (zc zp (zc (zB (yM (K:=K) rfl) rfl uab Kb (zc (pv 0) zd)) zd))) zd))) zd)) (zf (i:=1) qZ.nd) (ze (zL (i:=2) qZ.nd rfl (N3 rfl) (zg ucp t rfl (zc (pv 0) (zc (pv 1) zd)))) (ze (zL (i:=3) qZ.nd rfl (N3 rfl) (zA yd zp (zg x t rfl (zc (pv 2) (zc zp zd))))) (ze (zL (i:=4) qZ.nd rfl (N2 rfl) (zA yd zp (zg x t rfl (zc (pv 2) (zc zp zd))))) (ze (zL (i:=5) qZ.nd rfl (N2 rfl) (zX (zM (K:=K) rfl) (yi (zc zp (zc zp (zc zp (zc zp (zc (zA kB zp zp) zd)))))) (zg x t rfl (zc (pv 2) (zc zp zd))) (λ_ _=>rfl))) (ze (zL (i:=6) qZ.nd rfl (N3 rfl) (zX (zM (K:=K) rfl) (yi (zc zp (zc (zA yK zp (zA kB zp zp)) (zc (zA yK (zA kB zp zp) (pv 5)) (zc (zA yK zp (pv 5)) zd))))) (zg x t rfl (zc (pv 2) (zc zp zd))) (λ_ _=>rfl))) (ze (yY (i:=7) (N:=qi) (own:=1) (fr:=[2,3,6]) (by walk_at "c") rfl qZ.nd rfl (N2 rfl) (jN rfl Z (zc (pv 4) zd)) (λ_ _ _ _=>(zf (i:=0) (show (qi:Oa).Nodup by decide +kernel))) (λ_ _ _ _=>ye) (λ_ _ _ _=>(yq (N:=qj) (own:=1) (fr:=[1,3]) (by walk_at "c") rfl (jN rfl Z (zc (pv 2) zd)) (λ_ _ _ _=>(zf (i:=0) (show (qj:Oa).Nodup by decide +kernel))) (λ_ _ _ _=>ye) (λ_ _ _ _=>(zA yd (pv 2) (zg x t rfl (zc (pv 1) (zc zp zd))))) rfl rfl (λ_=>rfl))) rfl rfl (λ_=>rfl) (N2 rfl) rfl) (ze (zL (i:=8) qZ.nd rfl (N2 rfl) (zg x t rfl (zc (pv 2) (zc (zA qR (pv 3) (pv 4)) zd)))) (ze (zL (i:=9) qZ.nd rfl (N2 rfl) (zA aa (zA yd (zA yd (pv 8) zp) (zg x t rfl (zc (pv 2) (zc (zA yK (zA qR (pv 3) (pv 4)) zp) zd)))) (zA qR (pv 3) (pv 4)))) (ze (z8 (pv 6) (v8 (zX (zM (K:=K) rfl) (pv 7) (zA cP (pv 8) (pv 3)) (λ_ _=>rfl)) (zA aa (pv 8) (pv 3)) set_list)) (ze (z8 (zA yd (pv 6) (pv 5)) (v8 (zX (zM (K:=K) rfl) (pv 7) (zA cP (pv 9) (pv 3)) (λ_ _=>rfl)) (zA aa (pv 9) (pv 3)) set_list)) (ze (zL (i:=10) qZ.nd rfl (N2 rfl) (zX (zM (K:=K) rfl) (yi (zc yC (zc yC zd))) (jO uY rfl ubk PyProof.Rows.boot_int (zc (vh iw (pv 5) zp (z9 _)) zd)) (λ_ _=>rfl))) (ze (yL (PW.pt (xH (zR (fU (K:=K) rfl t.units) (zg ubZ t rfl (zc (pv 7) (zc zp zd))) (pv 10) (z9 _)) (oP (zR (fU (K:=K) rfl t.units) (zg ubZ t rfl (zc (pv 7) (zc zp zd))) (pv 10) (z9 _))))) (zm (zz cH)) z6) (zm (yL (PW.pt (xH (zR (jD (K:=K) rfl t.units) (zg uaV t rfl (zc (pv 7) (zc (zA yd (pv 6) (pv 5)) zd))) (yi zd) (z9 _)) (oP (zR (jD (K:=K) rfl t.units) (zg uaV t rfl (zc (pv 7) (zc (pv 6) zd))) (yi zd) (z9 _))))) (zm (zz cH)) z6))))))))))))))) (zm (zz cH))),?_⟩
 ·obtain⟨a,B,rfl,_⟩:=h;rfl
 obtain⟨a,B,rfl,hS,h63,q⟩:=L;have e0:EnvOk K L2.f0 (jC ue [.dat (scr B)]) (start ue [.ref a]) H:=y6 (.cons (uQ hS) .nil) (L2.fok0 H);suffices h:PSd K L2.f0 _ (jC ue [.dat (scr B)]) { nx:=λ_=>False,rt:=λd=>d=.bool NS } from
  h _ H _ e0 (λ_ _ _ _ _ z=>z.elim) (λd v H' _ r z=>by
   subst z;rw [ya.mp r];exact q H') (λ_ _ _ _ _ z=>z) (λ_ _ _ _ _ z=>z)
 refine yt (Ei (cN (Ea (R:=λxs=>∃ j:Int,xs=[.dat (.int j)]/\0<=j/\j<=63) ?_ ?_)))
 ·walk_at "w";rw [Ib];split <;> split <;> lia
 rintro _ ⟨j,rfl,j0,j1⟩;refine⟨j,rfl,by lia,by lia,λi y=>∃ C Y x3 x4 x5 x6 X W U u,y=[NQ (.dat (scr B)),C,Y,x3,x4,x5,x6,X,W,U,u],⟨_,_,_,_,_,_,_,_,_,_,rfl⟩,?_,?_⟩
 ·rintro i d _ hi ⟨C,Y,x3,x4,x5,x6,X,W,U,u,rfl⟩;obtain⟨hi,rfl⟩:=aZ hi;refine zj (Fj (GL rfl rfl h63 (by lia) (by lia)) λp=>?_);refine vR (λy=>∃ wd:Nat,y=[NQ (.dat (scr B)),NQ (.dat (.int i)),NQ .feed,NQ (.dat (.int wd)),x4,x5,x6,X,W,U,u]/\2<=wd/\wd<=7) (zY ?_) ?_
  ·walk_at "w";refine zt 6 ?_;walk_at "w";rintro r ⟨i1,rfl,O,M⟩;walk_at "w";refine⟨(2+i1).toNat,?_,by lia,by lia⟩;rw [Ny (by lia)];rfl
  rintro _ ⟨wd,rfl,w1,w2⟩;refine vR (λy=>∃ hg:Nat,y=[NQ (.dat (scr B)),NQ (.dat (.int i)),NQ .feed,NQ (.dat (.int wd)),NQ (.dat (.int hg)),x5,x6,X,W,U,u]/\2<=hg/\hg<=7) (zY ?_) ?_
  ·walk_at "w";refine zt 6 ?_;walk_at "w";rintro r ⟨i1,rfl,O,M⟩;walk_at "w";refine⟨(2+i1).toNat,?_,by lia,by lia⟩;rw [Ny (by lia)];rfl
  rintro _ ⟨hg,rfl,t1,t2⟩;refine vR (λy=>∃ g:Int,y=[NQ (.dat (scr B)),NQ (.dat (.int i)),NQ .feed,NQ (.dat (.int wd)),NQ (.dat (.int hg)),NQ (.dat (.int g)),x6,X,W,U,u]/\9<=g/\g<=1000000000) (zY ?_) ?_
  ·walk_at "w";refine zt 5 ?_;walk_at "w";rintro r ⟨i1,rfl,O,M⟩;refine⟨_,rfl,?_⟩;obtain⟨d1,e1,I⟩:=menu (ds:=[.int 9,.int 10,.int 9,.int 11,.int (10 ^ NG 9)]) O M (by simp);refine⟨_,e1,zj ?_⟩;simp only [Iv,Jy,or_false] at I;rcases I with rfl | rfl | rfl | rfl | rfl <;> exact⟨_,rfl,by decide,by decide⟩
  rintro _ ⟨g,rfl,f1,f2⟩;refine vR (λy=>∃ o:Int,y=[NQ (.dat (scr B)),NQ (.dat (.int i)),NQ .feed,NQ (.dat (.int wd)),NQ (.dat (.int hg)),NQ (.dat (.int g)),NQ (.dat (.int o)),X,W,U,u]/\-1000000000<=o/\o+g<=1000000000) (zY ?_) ?_
  ·walk_at "w";refine zt 4 ?_;walk_at "w";rintro r ⟨i1,rfl,O,M⟩;refine⟨_,rfl,?_⟩;obtain⟨d1,e1,I⟩:=menu (ds:=[.int 0,.int (0 - 10 ^ NG 9),.int (10 ^ NG 9 - g),.int (0 - g)]) O M (by simp);refine⟨_,e1,zj ?_⟩;have e9:(10:Int) ^ NG 9=1000000000:=by decide
   simp only [Iv,Jy,or_false] at I;rcases I with rfl | rfl | rfl | rfl <;> exact⟨_,rfl,by lia,by lia⟩
  rintro _ ⟨o,rfl,b1,b2⟩;refine lF (lF (lF (Hc (CA ?_))));walk_at "w";refine⟨λ_ r=>r.length=wd/\∀ n∈r,o<=n/\n<=o+g,λD i hi=>?_,λT hes hR=>?_⟩
  ·refine wk ?_;walk_at "w";refine⟨λ_ e=>∃ n:Int,e=.int n/\o<=n/\n<=o+g,λD' i' hi'=>?_,λJ hes hR=>?_⟩
   ·walk_at "w";refine zt 10 ?_;walk_at "w";rintro r ⟨n,rfl,n0,n1⟩;walk_at "w";lia
   ·obtain⟨B,rfl,L⟩:=uf (p:=λn=>o<=n/\n<=o+g) hR;exact⟨B,rfl,by rw [Ib] at hes;lia,L⟩
  have T0:Tb wd hg o (o+g) T:=⟨by lia,λr t=>by
   obtain⟨j,hj⟩:=Jc t;exact (hR j r hj).1,λr t=>by
   obtain⟨j,hj⟩:=Jc t;exact (hR j r hj).2⟩
  have ml:(wd:Int) * hg<=49:=by
   have:=Kc w2 t2;have:((wd * hg:Nat):Int)<=((7 * 7:Nat):Int):=Int.ofNat_le.mpr this;rw [Int.natCast_mul] at this;exact this
  have ml4:4<=(wd:Int) * hg:=by
   have:=Kc w1 t1;have:((2 * 2:Nat):Int)<=((wd * hg:Nat):Int):=Int.ofNat_le.mpr this;rw [Int.natCast_mul] at this;exact this
  refine⟨show 7<11 by decide,λa as=>?_⟩;refine rj (rj (rj (t6 (zY ?_))));refine zt ((wd:Int) * hg) ?_;walk_at "w";rintro _ ⟨q,rfl,q0,q1⟩;refine zj (t6 (zY ?_));walk_at "w";refine zt ((wd:Int) * hg - 1) ?_;walk_at "w";rintro _ ⟨r,rfl,r0,r1⟩;walk_at "w";obtain⟨S,C,y2,Y,e1,e2,e3,e4,v1,v2,v3,v4,ne⟩:=sM (wd:=(wd:Int)) (hg:=(hg:Int)) (by lia) q0 q1 r0 r1;have u1:T[S]?=NQ (T[S]'(by rw [T0.len];lia)):=Ia _;generalize T[S]'(by rw [T0.len];lia)=row1 at u1;have k1:=T0.row row1 (Ir u1);have T1:=T0.put (c:=C) u1 (v:=o) (by lia) (by lia);have u2:(T.set S (row1.set C o))[y2]?=NQ ((T.set S (row1.set C o))[y2]'(by rw [T1.len];lia)):=Ia _;generalize (T.set S (row1.set C o))[y2]'(by rw [T1.len];lia)=row2 at u2;have k2:=T1.row row2 (Ir u2);have T2:=T1.put (c:=Y) u2 (v:=o+g) (by lia) (by lia);obtain⟨I,m2⟩:=Ec (h:=o+g) u1 (by lia) u2 (by lia) ne;refine AR (i:=7) rfl (zr rfl ⟨o,rfl,?_⟩);walk_at "w";refine⟨S,by rw [e1],row1,u1,?_⟩;walk_at "w";refine⟨C,by rw [e2],by lia,?_⟩;refine AR (i:=7) rfl ?_;walk_at "w";refine⟨y2,by rw [e3],row2,u2,?_⟩;walk_at "w";refine⟨Y,by rw [e4],by lia,rfl,?_⟩;generalize (T.set S (row1.set C o)).set y2 (row2.set Y (o+g))=R at T2 I m2 ⊢;have G:=T2.good w1 w2 t1 t2 b1 b2;have cl:∀ b:Bool,(PyData.str (if b then "too steep" else "told")).canLay0=NS:=λb=>by cases b <;> decide +kernel
  have fs:oN R \/ kq R:=by
   by_cases c:9<g
   ·exact .inr ⟨_,m2,_,I,by lia⟩
   ·refine .inl λa ha b hb=>?_;obtain⟨ra,O,M⟩:=Jz.mp ha;obtain⟨rb,h3,h4⟩:=Jz.mp hb;have:=T2.all ra O a M;have:=T2.all rb h3 b h4;lia
  have due:∀ z:NR,(oN R->z=.str "told")/\(kq R->z=.str "too steep")->z=.str (if decide (9<g) then "too steep" else "told"):=λz ⟨za,zb⟩=>by
   by_cases c:9<g
   ·rw [NN c,NM rfl];exact zb ⟨_,m2,_,I,by lia⟩
   ·rw [NP c,NL Ie];refine za (fs.resolve_right λ⟨a,ha,b,hb,l⟩=>?_);obtain⟨ra,O,M⟩:=Jz.mp ha;obtain⟨rb,h3,h4⟩:=Jz.mp hb;have:=T2.all ra O a M;have:=T2.all rb h3 b h4;lia
  have nn:∀ {h:Int},h∈R.flatten->∀ J,((oG R h/\∃ rl ru ts us ks,NodesK R wd h J rl ru ts us ks) \/ (¬ oG R h/\J=[]))->(PyData.list J).canLay0=NS/\IX (.list J) (.list [])=NV:=λ{h} m J L=>by
   rcases L with⟨_,rl,ru,ts,us,ks,NK⟩ | ⟨no,_⟩
   ·obtain⟨p,ip,hp⟩:=HN G m;exact⟨xF NK,Cm (Ck NK ip hp)⟩
   ·exact absurd ⟨⟨h,m,Int.le_refl h⟩,h,m,Int.le_refl h⟩ no
  clear T0 T1 T2 u1 u2 k1 k2 hR hes;refine vR (λy=>y=[NQ (.dat (scr B)),NQ (.dat (.int i)),NQ .feed,NQ (.dat (.int wd)),NQ (.dat (.int hg)),NQ (.dat (.int g)),NQ (.dat (.int o)),NQ (.dat (tab R)),NQ (.dat (.int q)),NQ (.dat (.int ((q+1+r) % (wd * hg)))),NQ (.dat (.str (if decide (9<g) then "too steep" else "told")))]) (zY ?_) ?_
  ·walk_at "w";generalize decide (9<g)=b;cases b <;> exact⟨_,rfl,zj rfl⟩
  rintro _ rfl;refine yt (eX (Fb (yr (qA (zt (R,wd,0) (zv (zr rfl (zv (yQ (zP ⟨rfl,⟨rfl,G,fs⟩,?_⟩))))))))));intro z hz;obtain rfl:=due z hz;refine zr rfl ⟨cl _,cl _,IS (JY _ _) (IV _),_,rfl,?_⟩;rw [NM rfl,Nk _ (cl _),JP,NL Ie];refine yr (qA (zt (R,wd,1) (zv (zr rfl (zv (yQ (zP ⟨rfl,⟨rfl,G,fs⟩,?_⟩)))))));intro z hz;obtain rfl:=due z hz;refine zr rfl ⟨cl _,cl _,IS (JY _ _) (IV _),_,rfl,?_⟩;rw [NM rfl,Nk _ (cl _),JP,NL Ie];refine aQ (eX (Fb (yr (qA (PEdO.ped (ai (R,wd,o+g) (zv (zr rfl (zv (bS (zr rfl ⟨_,rfl,zr rfl ⟨_,rfl,zP ⟨rfl,⟨rfl,G⟩,?_⟩⟩⟩)))))))))));intro J L;obtain⟨l1,l2⟩:=nn m2 J L;refine mR (zP ⟨[],rfl,IV _,l1,rfl,IS (JY _ _) (by decide),_,rfl,?_⟩);rw [NL Ie,l2,NL Ie];refine yr (qA (PEdO.ped (ai (R,wd,o) (zv (zr rfl (zv (zr rfl (zP ⟨rfl,⟨rfl,G⟩,?_⟩))))))));intro J L;obtain⟨l1,l2⟩:=nn I J L;refine mR (zP ⟨[],rfl,IV _,l1,rfl,IS (JY _ _) (by decide),_,rfl,?_⟩);rw [NL Ie,l2,NL Ie];exact aQ ⟨_,_,_,_,_,_,_,_,_,_,rfl⟩
 ·rintro _ ⟨C,Y,x3,x4,x5,x6,X,W,U,u,rfl⟩;walk_at "w";rfl
end
theorem _root_.L2.FnIn.m {P w K mg base j k x ps sp} (h:FnIn P w K mg base j x ps sp) (a:j<=k:=by decide):FnIn P w K mg base k x ps sp:=h.mono a
theorem _root_.L2.FnInF.m {P w K mg base j k x ps sp} (h:FnInF P w K mg base j x ps sp) (a:j<=k:=by decide):FnInF P w K mg base k x ps sp:=h.mono a
theorem _root_.L2.FnInM.m {P w K mg base j k x ps sp} (h:FnInM P w K mg base j x ps sp) (a:j<=k:=by decide):FnInM P w K mg base k x ps sp:=h.mono a
theorem xf1 {K:M4} {h:Heap} {l:Str->N7} {x:Str} {st:Stmt} {f:Ij} {o j:Oc} {n:Array (N7)} {p d s c t g:NT} (X:K.In h) (G:h.Ns IP l) (a:FD K x st f o j n p d s c t g) {k:Str} (r:∀ (d e c:NT) (j:Oc) (i g:NT) (b:NT),bindArgs (JZ x x (jB st) (ym st) (zi st) .none d e c j i g) ⟨[b],[]⟩=pure ([k].zip [b])):Def K l x st [k]:=C7 X G a (λ_ _ _ _ _ _ m q=>by
  rcases m with _ | ⟨b,_ | ⟨z,u⟩⟩ <;> first | exact r _ _ _ _ _ _ _ | (simp at q))
theorem xf2 {K:M4} {h:Heap} {n:Str->N7} {x:Str} {st:Stmt} {f:Ij} {q k:Oc} {p:Array (N7)} {r e u d v i:NT} (X:K.In h) (G:h.Ns IP n) (a:FD K x st f q k p r e u d v i) {m l:Str} (t:∀ (e g d:NT) (k:Oc) (j i:NT) (c b:NT),bindArgs (JZ x x (jB st) (ym st) (zi st) .none e g d k j i) ⟨[c,b],[]⟩=pure ([m,l].zip [c,b])):Def K n x st [m,l]:=C7 X G a (λ_ _ _ _ _ _ o s=>by
  rcases o with _ | ⟨c,_ | ⟨b,_ | ⟨z,w⟩⟩⟩ <;> first | exact t _ _ _ _ _ _ _ _ | (simp at s))
theorem xf3 {K:M4} {h:Heap} {p:Str->N7} {x:Str} {st:Stmt} {f:Ij} {s l:Oc} {r:Array (N7)} {t g w e y j:NT} (X:K.In h) (G:h.Ns IP p) (a:FD K x st f s l r t g w e y j) {o n m:Str} (v:∀ (g i e:NT) (l:Oc) (k j:NT) (d c b:NT),bindArgs (JZ x x (jB st) (ym st) (zi st) .none g i e l k j) ⟨[d,c,b],[]⟩=pure ([o,n,m].zip [d,c,b])):Def K p x st [o,n,m]:=C7 X G a (λ_ _ _ _ _ _ q u=>by
  rcases q with _ | ⟨d,_ | ⟨c,_ | ⟨b,_ | ⟨z,A⟩⟩⟩⟩ <;> first | exact v _ _ _ _ _ _ _ _ _ | (simp at u))
theorem xf4 {K:M4} {h:Heap} {r:Str->N7} {x:Str} {st:Stmt} {f:Ij} {u m:Oc} {t:Array (N7)} {v i A g B k:NT} (X:K.In h) (G:h.Ns IP r) (a:FD K x st f u m t v i A g B k) {q p o n:Str} (y:∀ (i j g:NT) (m:Oc) (l k:NT) (e d c b:NT),bindArgs (JZ x x (jB st) (ym st) (zi st) .none i j g m l k) ⟨[e,d,c,b],[]⟩=pure ([q,p,o,n].zip [e,d,c,b])):Def K r x st [q,p,o,n]:=C7 X G a (λ_ _ _ _ _ _ s w=>by
  rcases s with _ | ⟨e,_ | ⟨d,_ | ⟨c,_ | ⟨b,_ | ⟨z,C⟩⟩⟩⟩⟩ <;> first | exact y _ _ _ _ _ _ _ _ _ _ | (simp at w))
set_option autoImplicit true in
set_option relaxedAutoImplicit true in
theorem all_mk {l:PySem.W.OpenLaw} {w:NX} {K:Ih} {h:Heap} {mg:Str->N7} {fa:Ij} (X:K.In h) (G:h.Ns IP mg) (hfa:mg "law"=NQ (.ref fa))
  (a1:FD K "size" lM f1 od1 an1 sl1 oc1 kV1 dc1 pm1 cd1 ct1)
  (a2:FD K "points" de f2 od2 an2 sl2 oc2 kV2 dc2 pm2 cd2 ct2)
  (a3:FD K "has_point" vp f3 od3 an3 sl3 oc3 kV3 dc3 pm3 cd3 ct3)
  (a4:FD K "neighbours" qG f4 od4 an4 sl4 oc4 kV4 dc4 pm4 cd4 ct4)
  (a5:FD K "cells" ft f5 od5 an5 sl5 oc5 kV5 dc5 pm5 cd5 ct5)
  (a6:FD K "has_cell" aq f6 od6 an6 sl6 oc6 kV6 dc6 pm6 cd6 ct6)
  (a7:FD K "corners" bz f7 od7 an7 sl7 oc7 kV7 dc7 pm7 cd7 ct7)
  (a8:FD K "cells_at" ar f8 od8 an8 sl8 oc8 kV8 dc8 pm8 cd8 ct8)
  (a9:FD K "ask_table" vq f9 od9 an9 sl9 oc9 kV9 dc9 pm9 cd9 ct9)
  (a10:FD K "fits" lP f10 od10 an10 sl10 oc10 kV10 dc10 pm10 cd10 ct10)
  (a11:FD K "is_row" df f11 od11 an11 sl11 oc11 kV11 dc11 pm11 cd11 ct11)
  (a12:FD K "span" lQ f12 od12 an12 sl12 oc12 kV12 dc12 pm12 cd12 ct12)
  (a13:FD K "gates" fu f13 od13 an13 sl13 oc13 kV13 dc13 pm13 cd13 ct13)
  (a14:FD K "stands_high" jY f14 od14 an14 sl14 oc14 kV14 dc14 pm14 cd14 ct14)
  (a15:FD K "gate_points" jZ f15 od15 an15 sl15 oc15 kV15 dc15 pm15 cd15 ct15)
  (a16:FD K "has_gate" av f16 od16 an16 sl16 oc16 kV16 dc16 pm16 cd16 ct16)
  (a17:FD K "is_open" bA f17 od17 an17 sl17 oc17 kV17 dc17 pm17 cd17 ct17)
  (a18:FD K "cell_gates" qH f18 od18 an18 sl18 oc18 kV18 dc18 pm18 cd18 ct18)
  (a19:FD K "is_crossed" qI f19 od19 an19 sl19 oc19 kV19 dc19 pm19 cd19 ct19)
  (a20:FD K "has_high_middle" yX f20 od20 an20 sl20 oc20 kV20 dc20 pm20 cd20 ct20)
  (a21:FD K "cell_ties" vt f21 od21 an21 sl21 oc21 kV21 dc21 pm21 cd21 ct21)
  (a22:FD K "crossed_ties" jG f22 od22 an22 sl22 oc22 kV22 dc22 pm22 cd22 ct22)
  (a23:FD K "heading" bB f23 od23 an23 sl23 oc23 kV23 dc23 pm23 cd23 ct23)
  (a24:FD K "cell_ahead" qJ f24 od24 an24 sl24 oc24 kV24 dc24 pm24 cd24 ct24)
  (a25:FD K "comes_in" aw f25 od25 an25 sl25 oc25 kV25 dc25 pm25 cd25 ct25)
  (a26:FD K "gate_ahead" qK f26 od26 an26 sl26 oc26 kV26 dc26 pm26 cd26 ct26)
  (a27:FD K "lines" fv f27 od27 an27 sl27 oc27 kV27 dc27 pm27 cd27 ct27)
  (a28:FD K "line_from" vu f28 od28 an28 sl28 oc28 kV28 dc28 pm28 cd28 ct28)
  (a29:FD K "regions" bC f29 od29 an29 sl29 oc29 kV29 dc29 pm29 cd29 ct29)
  (a30:FD K "indexes" bD f30 od30 an30 sl30 oc30 kV30 dc30 pm30 cd30 ct30)
  (a31:FD K "all_joined" qM f31 od31 an31 sl31 oc31 kV31 dc31 pm31 cd31 ct31)
  (a32:FD K "joined" dm f32 od32 an32 sl32 oc32 kV32 dc32 pm32 cd32 ct32)
  (a33:FD K "nodes_at" ay f33 od33 an33 sl33 oc33 kV33 dc33 pm33 cd33 ct33)
  (a34:FD K "tree" gI f34 od34 an34 sl34 oc34 kV34 dc34 pm34 cd34 ct34)
  (a35:FD K "word_of" bF f35 od35 an35 sl35 oc35 kV35 dc35 pm35 cd35 ct35)
  (a36:FD K "both_regions" jH f36 od36 an36 sl36 oc36 kV36 dc36 pm36 cd36 ct36)
  (a37:FD K "pairs" fz f37 od37 an37 sl37 oc37 kV37 dc37 pm37 cd37 ct37)
  (a38:FD K "pair_beside" j7 f38 od38 an38 sl38 oc38 kV38 dc38 pm38 cd38 ct38)
  (a39:FD K "places_of" vw f39 od39 an39 sl39 oc39 kV39 dc39 pm39 cd39 ct39)
  (a40:FD K "points_of" vy f40 od40 an40 sl40 oc40 kV40 dc40 pm40 cd40 ct40)
  (a41:FD K "cells_of" az f41 od41 an41 sl41 oc41 kV41 dc41 pm41 cd41 ct41)
  (a42:FD K "has_middle_at" jl f42 od42 an42 sl42 oc42 kV42 dc42 pm42 cd42 ct42)
  (a43:FD K "spans" fA f43 od43 an43 sl43 oc43 kV43 dc43 pm43 cd43 ct43)
  (a44:FD K "peaks" dq f44 od44 an44 sl44 oc44 kV44 dc44 pm44 cd44 ct44)
  (a45:FD K "pass_of" bG f45 od45 an45 sl45 oc45 kV45 dc45 pm45 cd45 ct45)
  (a46:FD K "_law_feed" aB f46 od46 an46 sl46 oc46 kV46 dc46 pm46 cd46 ct46)
  (a47:FD K "_law_draw" aC f47 od47 an47 sl47 oc47 kV47 dc47 pm47 cd47 ct47)
  (a51:FD K "_law_alone" vz f51 od51 an51 sl51 oc51 kV51 dc51 pm51 cd51 ct51)
  (a52:FD K "_law_told" aD f52 od52 an52 sl52 oc52 kV52 dc52 pm52 cd52 ct52)
  (a53:FD K "law" eR f53 od53 an53 sl53 oc53 kV53 dc53 pm53 cd53 ct53)
  {ucq:Tok} (ubl:Ja K IP "FEWEST"=NQ (NQ (.int (2) ucq)))
  {ucr:Tok} (ubm:Ja K IP "MOST"=NQ (NQ (.int (7) ucr)))
  {ucs:Tok} (ubn:Ja K IP "LEAST"=NQ (NQ (.int (-1000000000) ucs)))
  {uct:Tok} (ubo:Ja K IP "GREATEST"=NQ (NQ (.int (1000000000) uct)))
  {ucu:Tok} (ubp:Ja K IP "STEEPEST"=NQ (NQ (.int (9) ucu)))
  (ubq:Ja K IP "len"=NQ NW)
  (ubr:Ja K IP "min"=NQ NW)
  (ubs:Ja K IP "max"=NQ NW)
  (ubt:Ja K IP "enumerate"=NQ NW)
  (ubu:Ja K IP "range"=NQ NW)
  (ubv:Ja K IP "all"=NQ NW)
  (ubw:Ja K IP "sum"=NQ NW)
  (ubx:Ja K IP "tuple"=NQ NW)
  (uby:Ja K IP "set"=NQ NW)
  (ubz:Ja K IP "sorted"=NQ NW)
  (ubA:Ja K IP "list"=NQ NW)
  (ubB:Ja K IP "isinstance"=NQ NW)
  (ubC:Ja K IP "any"=NQ NW)
  (ubD:Ja K IP "ValueError"=NQ NW)
  (ubE:Ja K IP "abs"=NQ NW)
  (ubF:Ja K IP "int"=NQ NW)
  {uaO:Ij} (ubG:Ja K IP "AHEAD"=NQ (NQ (.ref uaO)))
  {uaQ:Ij} (ubH:Ja K IP "BEHIND"=NQ (NQ (.ref uaQ)))
  {uaa:Ij} (ubI:Ja K IP "TooSteep"=NQ (NQ (.ref uaa)))
  {uaw:Ij} (ubJ:Ja K IP "NoTable"=NQ (NQ (.ref uaw)))
  {uax:Ij} (ubK:Ja K IP "NoPoint"=NQ (NQ (.ref uax)))
  {uay:Ij} (ubL:Ja K IP "NoGate"=NQ (NQ (.ref uay)))
  {uaz:Ij} (ubM:Ja K IP "NoRing"=NQ (NQ (.ref uaz)))
  {uaA:Ij} (ubN:Ja K IP "NoWeb"=NQ (NQ (.ref uaA)))
  {uaB:Ij} (ubO:Ja K IP "NoBack"=NQ (NQ (.ref uaB)))
  {uaC:Ij} (ubP:Ja K IP "NoText"=NQ (NQ (.ref uaC)))
  {uaD:Ij} (ubQ:Ja K IP "NoRow"=NQ (NQ (.ref uaD)))
  {uaE:Ij} (ubR:Ja K IP "NoDeed"=NQ (NQ (.ref uaE)))
  {uaU:Ij} (ubS:Ja K IP "HeightError"=NQ (NQ (.ref uaU)))
  (uaP:wF K uaO Gb=NS)
  (uaR:wF K uaQ Bq=NS)
  (kl_pair:gE K "pair_beside"=NS)
  (kl_peaks:gE K "peaks"=NS)
  (uaT:LZ K uaa [.type "ValueError",.type "Exception",.type "BaseException",.type "object"] "ValueError.__new__"=NS)
  (uan:c8 K uaa=NS)
  (ks0:Je K (.ref uaa) (.ref uaa)=NQ NS)
  (ksv:Je K (.ref uaa) (.type "ValueError")=NQ NS)
  (ks1:Je K (.ref uaa) (.ref uax)=NQ NV)
  (ks2:Je K (.ref uaa) (.ref uay)=NQ NV)
  (ks3:Je K (.ref uaa) (.ref uaz)=NQ NV)
  (ks4:Je K (.ref uaa) (.ref uaw)=NQ NV)
  (ks5:Je K (.ref uaa) (.ref uaA)=NQ NV)
  (ks6:Je K (.ref uaa) (.ref uaB)=NQ NV)
  (ks7:Je K (.ref uaa) (.ref uaC)=NQ NV)
  (ks8:Je K (.ref uaa) (.ref uaD)=NQ NV)
  (ks9:Je K (.ref uaa) (.ref uaE)=NQ NV)
  (eh:LL K (.ref uaa) (.ref uaU)=NQ NS) :
  ∃ fd:FuncData,(∀ (s:NU) (v:NT),BindsTo s fd ⟨[v],[]⟩ [("_law_script",v)])/\∀ base:Heap,K.In base->base.Ns IP mg->FnOk l.prog w K mg base CX0 17 fa fd qa (uR K):=by
 have ucv:Def K mg "size" lM pf:=xf1 X G a1 (λ_ _ _ _ _ _ _=>rfl);have ucw:Def K mg "points" de pf:=xf1 X G a2 (λ_ _ _ _ _ _ _=>rfl);have ucx:Def K mg "has_point" vp pj:=xf3 X G a3 (λ_ _ _ _ _ _ _ _ _=>rfl);have ucy:Def K mg "neighbours" qG pj:=xf3 X G a4 (λ_ _ _ _ _ _ _ _ _=>rfl);have ucz:Def K mg "cells" ft pf:=xf1 X G a5 (λ_ _ _ _ _ _ _=>rfl);have ucA:Def K mg "has_cell" aq pj:=xf3 X G a6 (λ_ _ _ _ _ _ _ _ _=>rfl);have ucB:Def K mg "corners" bz pH:=xf2 X G a7 (λ_ _ _ _ _ _ _ _=>rfl);have ucC:Def K mg "cells_at" ar pj:=xf3 X G a8 (λ_ _ _ _ _ _ _ _ _=>rfl);have ucD:Def K mg "ask_table" vq pf:=xf1 X G a9 (λ_ _ _ _ _ _ _=>rfl);have ucE:Def K mg "fits" lP pJ:=xf1 X G a10 (λ_ _ _ _ _ _ _=>rfl);have ucF:Def K mg "is_row" df pG:=xf1 X G a11 (λ_ _ _ _ _ _ _=>rfl);have ucG:Def K mg "span" lQ pf:=xf1 X G a12 (λ_ _ _ _ _ _ _=>rfl);have ucH:Def K mg "gates" fu pz:=xf2 X G a13 (λ_ _ _ _ _ _ _ _=>rfl);have ucI:Def K mg "stands_high" jY pA:=xf3 X G a14 (λ_ _ _ _ _ _ _ _ _=>rfl);have ucJ:Def K mg "gate_points" jZ ["gate"]:=xf1 X G a15 (λ_ _ _ _ _ _ _=>rfl);have ucK:Def K mg "has_gate" av pK:=xf2 X G a16 (λ_ _ _ _ _ _ _ _=>rfl);have ucL:Def K mg "is_open" bA ph:=xf3 X G a17 (λ_ _ _ _ _ _ _ _ _=>rfl);have ucM:Def K mg "cell_gates" qH ["cell"]:=xf1 X G a18 (λ_ _ _ _ _ _ _=>rfl);have ucN:Def K mg "is_crossed" qI pq:=xf3 X G a19 (λ_ _ _ _ _ _ _ _ _=>rfl);have ucO:Def K mg "has_high_middle" yX pq:=xf3 X G a20 (λ_ _ _ _ _ _ _ _ _=>rfl);have ucP:Def K mg "cell_ties" vt pq:=xf3 X G a21 (λ_ _ _ _ _ _ _ _ _=>rfl);have ucQ:Def K mg "crossed_ties" jG pq:=xf3 X G a22 (λ_ _ _ _ _ _ _ _ _=>rfl);have ucR:Def K mg "heading" bB ph:=xf3 X G a23 (λ_ _ _ _ _ _ _ _ _=>rfl);have ucS:Def K mg "cell_ahead" qJ ph:=xf3 X G a24 (λ_ _ _ _ _ _ _ _ _=>rfl);have ucT:Def K mg "comes_in" aw ph:=xf3 X G a25 (λ_ _ _ _ _ _ _ _ _=>rfl);have ucU:Def K mg "gate_ahead" qK ph:=xf3 X G a26 (λ_ _ _ _ _ _ _ _ _=>rfl);have ucV:Def K mg "lines" fv pz:=xf2 X G a27 (λ_ _ _ _ _ _ _ _=>rfl);have ucW:Def K mg "line_from" vu pE:=xf3 X G a28 (λ_ _ _ _ _ _ _ _ _=>rfl);have ucX:Def K mg "regions" bC pz:=xf2 X G a29 (λ_ _ _ _ _ _ _ _=>rfl);have ucY:Def K mg "indexes" bD pz:=xf2 X G a30 (λ_ _ _ _ _ _ _ _=>rfl);have ucZ:Def K mg "all_joined" qM pE:=xf3 X G a31 (λ_ _ _ _ _ _ _ _ _=>rfl);have uc0:Def K mg "joined" dm pA:=xf3 X G a32 (λ_ _ _ _ _ _ _ _ _=>rfl);have uc1:Def K mg "nodes_at" ay pF:=xf2 X G a33 (λ_ _ _ _ _ _ _ _=>rfl);have ub0:Def K mg "tree" gI pf:=xf1 X G a34 (λ_ _ _ _ _ _ _=>rfl);have uc2:Def K mg "word_of" bF ["node"]:=xf1 X G a35 (λ_ _ _ _ _ _ _=>rfl);have uc3:Def K mg "both_regions" jH pF:=xf2 X G a36 (λ_ _ _ _ _ _ _ _=>rfl);have uc4:Def K mg "pairs" fz pQ:=xf3 X G a37 (λ_ _ _ _ _ _ _ _ _=>rfl);have uc5:Def K mg "pair_beside" j7 pR:=xf3 X G a38 (λ_ _ _ _ _ _ _ _ _=>rfl);have uc6:Def K mg "places_of" vw pL:=xf2 X G a39 (λ_ _ _ _ _ _ _ _=>rfl);have uc7:Def K mg "points_of" vy pB:=xf4 X G a40 (λ_ _ _ _ _ _ _ _ _ _=>rfl);have uc8:Def K mg "cells_of" az pB:=xf4 X G a41 (λ_ _ _ _ _ _ _ _ _ _=>rfl);have uc9:Def K mg "has_middle_at" jl pS:=xf3 X G a42 (λ_ _ _ _ _ _ _ _ _=>rfl);have uda:Def K mg "spans" fA pT:=xf3 X G a43 (λ_ _ _ _ _ _ _ _ _=>rfl);have ub1:Def K mg "peaks" dq pf:=xf1 X G a44 (λ_ _ _ _ _ _ _=>rfl);have udb:Def K mg "pass_of" bG pU:=xf3 X G a45 (λ_ _ _ _ _ _ _ _ _=>rfl);have udc:Def K mg "_law_feed" aB pW:=xf2 X G a46 (λ_ _ _ _ _ _ _ _=>rfl);have udd:Def K mg "_law_draw" aC pX:=xf2 X G a47 (λ_ _ _ _ _ _ _ _=>rfl);have ude:Def K mg "_law_alone" vz pY:=xf1 X G a51 (λ_ _ _ _ _ _ _=>rfl);have udf:Def K mg "_law_told" aD pZ:=xf2 X G a52 (λ_ _ _ _ _ _ _ _=>rfl);have udg:Def K mg "law" eR qa:=xf1 X G a53 (λ_ _ _ _ _ _ _=>rfl);have uaF:=Ju X G ubl;have uaG:=Ju X G ubm;have uaH:=Ju X G ubn;have uaI:=Ju X G ubo;have uak:=Ju X G ubp;have uab:=Jn X G ubq;have uaj:=Jn X G ubr;have uag:=Jn X G ubs;have ual:=Jn X G ubt;have uac:=Jn X G ubu;have uaq:=Jn X G ubv;have uas:=Jn X G ubw;have uae:=Jn X G ubx;have uat:=Jn X G uby;have uaf:=Jn X G ubz;have ua4:=Jn X G ubA;have uah:=Jn X G ubB;have ua5:=Jn X G ubC;have ua6:=Jn X G ubD;have ubj:=Jn X G ubE;have ubk:=Jn X G ubF;have uaZ:=Ju X G ubG;have ua1:=Ju X G ubH;have uav:=Ju X G ubI;have ua7:=Ju X G ubJ;have ua8:=Ju X G ubK;have ua9:=Ju X G ubL;have uba:=Ju X G ubM;have ubb:=Ju X G ubN;have ubc:=Ju X G ubO;have ubd:=Ju X G ubP;have ube:=Ju X G ubQ;have ubf:=Ju X G ubR;have ubg:=Ju X G ubS;have e:=hfa.symm.trans (Ju X G a53.1);cases e;have F0:=oX (st:=eR) a53.2.1 a53.2.2.1 a53.2.2.2;refine⟨JZ "law" "law" (jB eR) (ym eR) (zi eR) .none kV53 dc53 pm53 an53 cd53 ct53,λs v=>.of_eq rfl,λbase _ _=>?_⟩;have H0:=Eb (P:=l.prog) (w:=w) (base:=base) (k:=0) udc uab ubj;have H1:=Dt (P:=l.prog) (w:=w) (base:=base) (k:=0) udd;have H2:=Dr (P:=l.prog) (w:=w) (base:=base) (k:=0) ucE uab ⟨_,uaF⟩ ⟨_,uaG⟩;have H3:=Dq (P:=l.prog) (w:=w) (base:=base) (k:=0) ucv uab;have H4:=Du (P:=l.prog) (w:=w) (base:=base) (k:=0) ucI;have H5:=F8 (P:=l.prog) (w:=w) (base:=base) (k:=0) ucJ;have H6:=xj (P:=l.prog) (w:=w) (base:=base) (k:=0) ucM;have H7:=sh (P:=l.prog) (w:=w) (base:=base) (k:=0) ucB;have H8:=GC (P:=l.prog) (w:=w) (base:=base) (k:=0) uc6 uae ual;have H9:=sJ (P:=l.prog) (w:=w) (base:=base) (k:=0) uc2 uab;have H10:=xE (P:=l.prog) (w:=w) (base:=base) (k:=0) ude uah ua5 ua6 ua7 ua8 ua9 uba uav ubb ubc ubd ube ubf uan ks0 ksv ks1 ks2 ks3 ks4 ks5 ks6 ks7 ks8 ks9;have H11:=xg (k:=1) ucF uaj uag ⟨_,uaH⟩ ⟨_,uaI⟩ H2.m;have H12:=xh (k:=1) ucw uac H3.m;have H13:=F7 (k:=1) ucx H3.m;have H14:=Ga (k:=1) ucO uas H7.m;have H15:=sr (k:=1) ucR H4.m;have H16:=BP (k:=1) ucz uac H3.m;have H17:=BS (k:=1) uc9 uas H7.m;have H18:=BU (k:=1) uda H7.m;have H19:=F5 (k:=2) ucD uab ual H2.m H11.m;have H20:=Hn (k:=2) ucy H13.m;have H21:=Dz (k:=2) ucA H13.m;have H22:=Dv (k:=2) ucK uaq H13.m H5.m;have H23:=xm (k:=2) ucS uaZ uaP H15.m;have H24:=xk (k:=2) ucQ H6.m H4.m H14.m;have H25:=DW (k:=2) uc7 uae H12.m;have H26:=DX (k:=2) uc8 uae H16.m H17.m H18.m;have H27:=DT (k:=3) ucG uaj uag H19.m;have H28:=Hq (k:=3) ucC H21.m;have H29:=Dw (k:=3) ucL H22.m H5.m H4.m;have H30:=Bs (k:=3) ucT ua1 uaR H15.m H21.m;have H31:=xA (k:=1) uc5 kl_pair uaf H5.m;have H32:=B2 (k:=3) uc4 ua4 H12.m H20.m;have H33:=sj (k:=4) ucN uaq H29.m H6.m;have H34:=Bm (k:=4) ucH H19.m H12.m H29.m;have H35:=Ci (k:=4) ub0 ⟨_,uak⟩ uav uaT H19.m H27.m;have H36:=DL (k:=5) uc0 H4.m H20.m H28.m H33.m H14.m;have H37:=Bp (k:=5) ucP H33.m H24.m H6.m H29.m;have H38:=xD (k:=5) ub1 H19.m H35.m;have H39:=DM (k:=6) ucZ uaf uae H36.m;have H40:=DE (k:=6) ucU H23.m H21.m H37.m;have H41:=DN (k:=7) ucX uat H19.m H12.m H39.m H4.m;have H42:=DI (k:=7) ucW uae H40.m;have H43:=D8 (k:=7) udb uac uag H27.m H39.m;have H44:=sD (k:=8) ucY ual H41.m;have H45:=BD (k:=8) ucV uat uaf H19.m H34.m H30.m H42.m;have H46:=DU (k:=9) uc3 H44.m H12.m;have H47:=B6 (k:=10) uc1 uaf H19.m H27.m H46.m H45.m H31.m H32.m H25.m H26.m H8.m;have H48:=D6 (k:=11) ub0 uac ⟨_,uak⟩ H19.m H27.m H47.m;have H49:=Cf (k:=12) ub1 kl_peaks uaf H19.m H48.m H9.m H43.m;have H50:=Cj (k:=15) udf ubg uan eh H48.m H35.m H49.m H38.m H10.m;exact GN (k:=16) F0 uab uac uag uaj ubk H0.m H1.m H50.m H47.m
theorem walk {l:PySem.W.OpenLaw} {q:NY} {b:Oa} {B:(Str->N7)->Heap->Prop} {j:NX->Heap->Prop} {d:DefRec} {K:Params->Ih} (ts:OA) (r:l.most=NQ 63) (e:d.params.defaults=[])
  (v:∀ (w:NX) (h:Heap),j w h->(K w.params).In h/\∀ p∈ts,h.get? p.1=NQ (K0 #[])) (A:∀ w:NX,c9 (K w.params) ts=NS)
  (F:∀ (w:NX) (c:Str->N7) (i:Ij) (h:Heap),(K w.params).In h->h.Ns IP c->c d.name=NQ (.ref i) ->
   ∃ g:FuncData,(∀ (s:NU) (u:NT),BindsTo s g ⟨[u],[]⟩ [("_law_script",u)])/\∀ base:Heap,(K w.params).In base->base.Ns IP c->FnOk l.prog w (K w.params) c base CX0 17 i g qa (uR (K w.params))) :
  PySem.W.WalkO q b B j l.row.toRowW d [] (λf m=>PySem.call f m) :=
 L2.walk_T (n:=63) (k:=17) (x:="_law_script") (CX:=λ_=>CX0) (sp:=λw=>uR (K w.params)) ts r (by decide) e ⟨rfl,by decide,by decide⟩ v A F (λ_ _ a o t y=>⟨a,o,rfl,y,t,λ_=>rfl⟩) λ_ _ _ _ _ z=>z
end My
namespace PySem.W.Fast
def tw10080072803770693842:Nat:=0
def tw10115377446720979510:Nat:=0
def tw10143693104619545645:Nat:=0
def tw10227538685142106014:Nat:=0
def tw10268462262588386342:Nat:=0
def tw10291377227407441209:Nat:=0
def tw10336175304229706679:Nat:=0
def tw1034729147977523242:Nat:=0
def tw10415387155450968649:Nat:=0
def tw1046065021396934886:Nat:=0
def tw10504150581893626172:Nat:=0
def tw10516625687586892913:Nat:=0
def tw10530493979724497784:Nat:=0
def tw10546481606476991968:Nat:=0
def tw1055050565796224751:Nat:=0
def tw10607380096814422484:Nat:=0
def tw1062781590996194024:Nat:=0
def tw10650378423134932153:Nat:=0
def tw10683023152935713098:Nat:=0
def tw10706730887968441453:Nat:=0
def tw10772858137773029957:Nat:=0
def tw10980447932419775397:Nat:=0
def tw11055364868219457153:Nat:=0
def tw11141790796568159959:Nat:=0
def tw11178137357433607764:Nat:=0
def tw11217141437201099389:Nat:=0
def tw11295097292228232489:Nat:=0
def tw11339493826956230166:Nat:=0
def tw11382360950845245837:Nat:=0
def tw11390224869270978360:Nat:=0
def tw11406988290588284283:Nat:=0
def tw11499001697784609242:Nat:=0
def tw11596052102024306660:Nat:=0
def tw11605654648349300270:Nat:=0
def tw11614089190743654365:Nat:=0
def tw11655848528054720968:Nat:=0
def tw11703844706746259807:Nat:=0
def tw11755410304022273873:Nat:=0
def tw11778239507075880979:Nat:=0
def tw11799465745456990488:Nat:=0
def tw11811860876280621056:Nat:=0
def tw11829240872347302699:Nat:=0
def tw11883047427507260953:Nat:=0
def tw1198913337763826419:Nat:=0
def tw12058719645583068048:Nat:=0
def tw12059198496973837587:Nat:=0
def tw12083689878947486087:Nat:=0
def tw12136183864520741188:Nat:=0
def tw12162165713796826985:Nat:=0
def tw12186179694360380337:Nat:=0
def tw12192691146797553035:Nat:=0
def tw12216911657915298708:Nat:=0
def tw12347364181471641672:Nat:=0
def tw12358932279472176375:Nat:=0
def tw123729444655110957:Nat:=0
def tw1241133628429374576:Nat:=0
def tw12542121664990592727:Nat:=0
def tw12606460599041482602:Nat:=0
def tw12626309563392326861:Nat:=0
def tw12666906341926337299:Nat:=0
def tw1268464988461940213:Nat:=0
def tw12735231932877706773:Nat:=0
def tw12833429400776318366:Nat:=0
def tw1294093224250891230:Nat:=0
def tw13068571990163015761:Nat:=0
def tw13075736740827187718:Nat:=0
def tw13169909342389836562:Nat:=0
def tw13195909816131902583:Nat:=0
def tw13288432246995313229:Nat:=0
def tw13311227779637871046:Nat:=0
def tw13336936273617309860:Nat:=0
def tw13380266562734181709:Nat:=0
def tw13454792951062927599:Nat:=0
def tw13506967832388081943:Nat:=0
def tw13571851469300003823:Nat:=0
def tw1360278039889517072:Nat:=0
def tw13615732043093722630:Nat:=0
def tw1365389668449881985:Nat:=0
def tw13726054983681917213:Nat:=0
def tw13730358877281422044:Nat:=0
def tw1375611170577858010:Nat:=0
def tw13876847757579858475:Nat:=0
def tw14017756259567509183:Nat:=0
def tw14164343579443924878:Nat:=0
def tw14218877943899038168:Nat:=0
def tw14223249775034793068:Nat:=0
def tw14259494458332107819:Nat:=0
def tw14289637928181554275:Nat:=0
def tw1431007091182394266:Nat:=0
def tw14342021475938705684:Nat:=0
def tw14376502844280965538:Nat:=0
def tw14478210419326402875:Nat:=0
def tw14496548389420147987:Nat:=0
def tw14546555716369967176:Nat:=0
def tw14584156648451925564:Nat:=0
def tw14720624715573254120:Nat:=0
def tw14795720642333089839:Nat:=0
def tw1490439270672827870:Nat:=0
def tw14927508456169539235:Nat:=0
def tw15097184103975381821:Nat:=0
def tw15106854186480354882:Nat:=0
def tw15294321985460825826:Nat:=0
def tw15334885078235526850:Nat:=0
def tw15429334805912896699:Nat:=0
def tw15485787115322175621:Nat:=0
def tw15494043770340987491:Nat:=0
def tw15516119384469245533:Nat:=0
def tw15532360021880423217:Nat:=0
def tw15583689440875604331:Nat:=0
def tw15654455412114320025:Nat:=0
def tw15737138494201549456:Nat:=0
def tw15781678082592181141:Nat:=0
def tw15874599239754778720:Nat:=0
def tw15931390562782215584:Nat:=0
def tw15998520505095617869:Nat:=0
def tw16011834324147270577:Nat:=0
def tw16056337776219847179:Nat:=0
def tw16194877359517265883:Nat:=0
def tw16226825511288586905:Nat:=0
def tw16320125981305189241:Nat:=0
def tw16321427324725429566:Nat:=0
def tw16342135503833019971:Nat:=0
def tw16401421312893174237:Nat:=0
def tw16462108733841351558:Nat:=0
def tw16466146497136295024:Nat:=0
def tw16483397243766746567:Nat:=0
def tw16497528027633068752:Nat:=0
def tw16529088481378737585:Nat:=0
def tw16543174027379512607:Nat:=0
def tw16564190037230461463:Nat:=0
def tw16567488975923458830:Nat:=0
def tw16603011978233506619:Nat:=0
def tw1662444227833165295:Nat:=0
def tw16630759036586241596:Nat:=0
def tw16686599984157178300:Nat:=0
def tw16709252097227722767:Nat:=0
def tw16734589643393804129:Nat:=0
def tw16773633458033577690:Nat:=0
def tw16799740796431278081:Nat:=0
def tw16828434071920611600:Nat:=0
def tw16848189886128452236:Nat:=0
def tw16907078592430338189:Nat:=0
def tw16937846637097848865:Nat:=0
def tw16977531031568862193:Nat:=0
def tw17023371742066427161:Nat:=0
def tw17063448480639515697:Nat:=0
def tw170790455241662694:Nat:=0
def tw17126636626432781567:Nat:=0
def tw17185072320698348466:Nat:=0
def tw17235952356006127513:Nat:=0
def tw17243703856215008371:Nat:=0
def tw1725152346751316167:Nat:=0
def tw17310294562348266104:Nat:=0
def tw17364445120029261151:Nat:=0
def tw17389637797147255545:Nat:=0
def tw17403931005357340828:Nat:=0
def tw17409316819377693060:Nat:=0
def tw17451245539062994624:Nat:=0
def tw17594148540172467928:Nat:=0
def tw17621238607920302150:Nat:=0
def tw17636675845245439684:Nat:=0
def tw17739189691907758695:Nat:=0
def tw17791701280730118755:Nat:=0
def tw17915788095765788635:Nat:=0
def tw17917865899405061003:Nat:=0
def tw17937650241128699030:Nat:=0
def tw17991507625770464698:Nat:=0
def tw18158389334664518050:Nat:=0
def tw18209589800499808069:Nat:=0
def tw18402516622884164194:Nat:=0
def tw18440884441769175420:Nat:=0
def tw1855615484768151729:Nat:=0
def tw1868312783760903286:Nat:=0
def tw1929808155244509802:Nat:=0
def tw196020956944694397:Nat:=0
def tw1966500947130163958:Nat:=0
def tw2111226227593516277:Nat:=0
def tw2139569375716732157:Nat:=0
def tw2391334417064775218:Nat:=0
def tw2502117891063652017:Nat:=0
def tw2558006853042967379:Nat:=0
def tw2633645321129635274:Nat:=0
def tw2643953692819188754:Nat:=0
def tw2858430372263528202:Nat:=0
def tw2906076973094166253:Nat:=0
def tw3188424060180303129:Nat:=0
def tw3262306092907846503:Nat:=0
def tw3300978959493577283:Nat:=0
def tw3312726527044438408:Nat:=0
def tw3373528432053439000:Nat:=0
def tw3403105910319933295:Nat:=0
def tw3485724199705654191:Nat:=0
def tw3647427420578136980:Nat:=0
def tw3673273780747757823:Nat:=0
def tw3677857627262641444:Nat:=0
def tw3681484819295495833:Nat:=0
def tw3696279574683928475:Nat:=0
def tw3784279761377357296:Nat:=0
def tw3794254540039574818:Nat:=0
def tw389275704061569246:Nat:=0
def tw391426961032146061:Nat:=0
def tw3944918118798759730:Nat:=0
def tw4029770534152897496:Nat:=0
def tw4090965553648599548:Nat:=0
def tw4201672421958089754:Nat:=0
def tw4237961423748548553:Nat:=0
def tw4254095993620832662:Nat:=0
def tw4289153660027200675:Nat:=0
def tw4305337578436859341:Nat:=0
def tw4383810706374486106:Nat:=0
def tw4405859480872737757:Nat:=0
def tw4415215935321337891:Nat:=0
def tw4448755596767171784:Nat:=0
def tw4475023665726464032:Nat:=0
def tw4480279769939885820:Nat:=0
def tw4509726727326053321:Nat:=0
def tw4513391852995821793:Nat:=0
def tw4613588032161559166:Nat:=0
def tw4716287853400489665:Nat:=0
def tw4799792065116215391:Nat:=0
def tw4859047305076880872:Nat:=0
def tw488171745790704752:Nat:=0
def tw490714924808058728:Nat:=0
def tw4914687247896712654:Nat:=0
def tw4989010744329304694:Nat:=0
def tw5074116738477115062:Nat:=0
def tw5087365692533596169:Nat:=0
def tw5103291127982859686:Nat:=0
def tw5107544216683811458:Nat:=0
def tw5111793450042822255:Nat:=0
def tw5158082355401373547:Nat:=0
def tw5176342052200963679:Nat:=0
def tw5202906241070760133:Nat:=0
def tw5211117262041883938:Nat:=0
def tw5298657285420733421:Nat:=0
def tw5314041681528440986:Nat:=0
def tw5514510946942052788:Nat:=0
def tw5515131703305847775:Nat:=0
def tw5646895509291214464:Nat:=0
def tw5656190876220182898:Nat:=0
def tw5895939818522185505:Nat:=0
def tw5946959923484478184:Nat:=0
def tw6085965765943070958:Nat:=0
def tw612210763848329469:Nat:=0
def tw6155614772118315016:Nat:=0
def tw6160030390310881613:Nat:=0
def tw616151100671126010:Nat:=0
def tw6209496576601851009:Nat:=0
def tw629011158700131631:Nat:=0
def tw6328733787059876728:Nat:=0
def tw6421591068938007033:Nat:=0
def tw6426372837262997623:Nat:=0
def tw6528580230616734145:Nat:=0
def tw6530514141438879390:Nat:=0
def tw6583988290771791092:Nat:=0
def tw6648336873378524934:Nat:=0
def tw6688636081826820035:Nat:=0
def tw6731783037473817194:Nat:=0
def tw687275687158072293:Nat:=0
def tw6876518743522484713:Nat:=0
def tw6918934840039165723:Nat:=0
def tw6971880374720194741:Nat:=0
def tw6976011246076009151:Nat:=0
def tw7028680781681556114:Nat:=0
def tw7045318843634094181:Nat:=0
def tw7045343924360055334:Nat:=0
def tw7046068479442251566:Nat:=0
def tw7168329087860333103:Nat:=0
def tw7322433138323836018:Nat:=0
def tw7335033173027664119:Nat:=0
def tw735135062345608462:Nat:=0
def tw7399431929034135789:Nat:=0
def tw7481043563371712219:Nat:=0
def tw7488344800566495395:Nat:=0
def tw7572708810162271869:Nat:=0
def tw7649929381775916890:Nat:=0
def tw7659635184938211728:Nat:=0
def tw7660280294561227624:Nat:=0
def tw7701835187679950151:Nat:=0
def tw7716627379108731674:Nat:=0
def tw7747854948213719969:Nat:=0
def tw7772781852966453321:Nat:=0
def tw7786349671474580967:Nat:=0
def tw7797327581610685850:Nat:=0
def tw7885330366139324411:Nat:=0
def tw7984911668130971418:Nat:=0
def tw8033236439688503267:Nat:=0
def tw8039457862584059720:Nat:=0
def tw8133521184058728870:Nat:=0
def tw8244023667416373860:Nat:=0
def tw8370414628601738155:Nat:=0
def tw8379749900837021713:Nat:=0
def tw8408044657836414396:Nat:=0
def tw8416638028848468083:Nat:=0
def tw8417789836593996883:Nat:=0
def tw8443594292165466746:Nat:=0
def tw848687870655700606:Nat:=0
def tw8494088298695673132:Nat:=0
def tw858969716213808600:Nat:=0
def tw875654595046964223:Nat:=0
def tw8895739237393926177:Nat:=0
def tw8900822960644962155:Nat:=0
def tw900334256709373656:Nat:=0
def tw903122042231291352:Nat:=0
def tw9104855800703311983:Nat:=0
def tw9128942512568361439:Nat:=0
def tw9188894462655608480:Nat:=0
def tw9256235201936964995:Nat:=0
def tw9284621249017289194:Nat:=0
def tw9314940005023439746:Nat:=0
def tw936810908463226557:Nat:=0
def tw9387762545202445604:Nat:=0
def tw9426280379410378266:Nat:=0
def tw9432167207633251795:Nat:=0
def tw9445685981009919195:Nat:=0
def tw9456640257734897792:Nat:=0
def tw9517714507270610383:Nat:=0
def tw9529630431667433785:Nat:=0
def tw9570953919753990630:Nat:=0
def tw96071973725346557:Nat:=0
def tw961989384249714582:Nat:=0
def tw9635567777683917437:Nat:=0
def tw9643761296482740272:Nat:=0
def tw9719874753337028176:Nat:=0
def tw9864307506146166944:Nat:=0
def tw993840239497611326:Nat:=0
def tw9954172497484058114:Nat:=0
def tw996087189593646723:Nat:=0
def tw9997094730773399298:Nat:=0
end PySem.W.Fast
open PySem PySem.W PyProof.Rows
set_option maxRecDepth 100000 in
set_option maxHeartbeats 0 in
theorem PySem.Challenge.cw_heightrings_k44_too_steep_holds : PySem.Challenge.rw_heightrings_k44_too_steep.Holds := by
 w_on;o_law;k_head;(case hw=>w_witness2)
 k_fill
 refine My.walk (l:=PySem.Challenge.rw_heightrings_k44_too_steep) [(441,L2.lamQ "peaks"),(409,L2.lamQ "pair_beside")] rfl rfl (λw h Y=>⟨by first | exact PySem.W.kIn_of Y | exact PySem.W.km_in_of Y,λp hp=>PySem.W.km_tabs_of Y p.1 (Mj (f:=MM) hp)⟩) (λw=>by kernel_rfl) ?F
 case F =>
  intro w mg fa h KX G hmg
  refine' My.all_mk KX G hmg ?a1 ?a2 ?a3 ?a4 ?a5 ?a6 ?a7 ?a8 ?a9 ?a10 ?a11 ?a12 ?a13 ?a14 ?a15 ?a16 ?a17 ?a18 ?a19 ?a20 ?a21 ?a22 ?a23 ?a24 ?a25 ?a26 ?a27 ?a28 ?a29 ?a30 ?a31 ?a32 ?a33 ?a34 ?a35 ?a36 ?a37 ?a38 ?a39 ?a40 ?a41 ?a42 ?a43 ?a44 ?a45 ?a46 ?a47 ?a51 ?a52 ?a53 ?ubl ?ubm ?ubn ?ubo ?ubp ?ubq ?ubr ?ubs ?ubt ?ubu ?ubv ?ubw ?ubx ?uby ?ubz ?ubA ?ubB ?ubC ?ubD ?ubE ?ubF ?ubG ?ubH ?ubI ?ubJ ?ubK ?ubL ?ubM ?ubN ?ubO ?ubP ?ubQ ?ubR ?ubS ?uaP ?uaR ?kl_pair ?kl_peaks ?uaT ?uan ?ks0 ?ksv ?ks1 ?ks2 ?ks3 ?ks4 ?ks5 ?ks6 ?ks7 ?ks8 ?ks9 ?eh
  (case a1|a2|a3|a4|a5|a6|a7|a8|a9|a10|a11|a12|a13|a14|a15|a16|a17|a18|a19|a20|a21|a22|a23|a24|a25|a26|a27|a28|a29|a30|a31|a32|a33|a34|a35|a36|a37|a38|a39|a40|a41|a42|a43|a44|a45|a46|a47|a51|a52|a53=>refine⟨?_,?_,?_,?_⟩ <;> k_is)
  (case ubl|ubm|ubn|ubo|ubp|ubq|ubr|ubs|ubt|ubu|ubv|ubw|ubx|uby|ubz|ubA|ubB|ubC|ubD|ubE|ubF|ubG|ubH|ubI|ubJ|ubK|ubL|ubM|ubN|ubO|ubP|ubQ|ubR|ubS=>k_is)
  (case uaP|uaR|kl_pair|kl_peaks=>kernel_rfl)
  (case uaT=>k_exc)
  (case uan|ks0|ksv|ks1|ks2|ks3|ks4|ks5|ks6|ks7|ks8|ks9|eh=>kernel_rfl)
end
