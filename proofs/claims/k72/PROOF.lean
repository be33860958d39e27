import PyProof.Rows.All
import Wide.All
import OpenK.AllK
import Wide.FinOn
import Lean
import PyProof.EqAt
import PyProof.EqKinds
import PyProof.TupleCall
import PyProof.NeKinds
import PyProof.WalksEnum
import PyProof.EnumMake
import KE.KTryMore
import PyProof.NsDelKeeps
import PyProof.SumWalkG
import PyProof.SeqI3
import KE.KDictSum
import PyProof.AttrMiss
import PyProof.IsiH_list
import KE.KDictOf
import PyProof.ZipIter
import PyProof.TupleIter
import PyProof.Draws
import PyProof.StrCalls
import PySem.Challenge.RW_fewcounters_k72_whole_walks_go_on
import PyProof.StrWalks
import PyProof.StrCalls2
import PyProof.StrCalls3
import PyProof.StrLawsTight
import PyProof.StrLawsChain
import PyProof.StrLawsJoin
import PyProof.Rows.StrItems
import PyProof.FString5
import PyProof.Rows.Range3
import PyProof.EnumIter
import KE.KRevIter
import PyProof.MeetsDict
set_option Elab.async false
set_option linter.all false
set_option maxRecDepth 100000
set_option maxHeartbeats 4000000
abbrev Lf:=PySem.Str->Option PySem.Value
abbrev Lg:=List (PySem.Addr×PySem.Obj)
abbrev Lh:=List Int
abbrev Li:=List PySem.Str
abbrev Lj:=Option PySem.Value
abbrev Lk:=List PySem.Addr
abbrev Ll:=List PySem.Value
abbrev Lm:=List PySem.Expr
abbrev Ln:=List (Int×Int)
open Array renaming length_toList→Lo
open Bool renaming false_ne_true→Lp,and_eq_true→Lq,eq_iff_iff→Lr,beq_eq_decide_eq→Lu,or_eq_true→Lv
open False renaming elim→Lw
open ForInStep renaming yield→Lx
open Int renaming emod_lt_of_pos→Ly,emod_nonneg→Lz,le_refl→LA,le_trans→LB
open List renaming getElem?_eq_some_iff→LC,getElem?_eq_getElem→LD,getD_eq_getElem?_getD→LG,mem_singleton→LH,length_map→LJ,length_append→LL,getElem?_map→LM,mem_cons_of_mem→LN,mem_of_getElem?→LO,mem_cons_self→LP,size_toArray→LQ,length_cons→LR,mem_append_right→LU,mem_cons→LV,mem_append→LW,mem_iff_getElem?→LX,mem_map→LY,getElem?_set_self→LZ,length_take→L0,append_assoc→L1,Nodup→L3,getElem?_append_left→L4,map_append→L5,range→L6,mem_append_left→L7,getElem?_append_right→L8,length_singleton→L9,getElem?_eq_none→Ma,getElem_mem→Mb,length_nil→Mc,not_mem_nil→Md,map_cons→Me,getElem?_set_ne→Mf,nodup_cons→Mg,append_nil→Mh,filter_eq_self→Mi,mem_filter→Mj,length_set→Ml,take_succ→Mm,take_length→Mn,dropLast_concat_getLast→Mo,length_replicate→Mp,getElem?_range→Mq,lookup→Mr,mem_range→Ms,length_zip→Mt,lookup_cons→Mu,take_succ_cons→Mv,ext_getElem?→Mw,take_append_drop→Mx,getElem?_replicate→My,find?_cons→Mz,filter_cons_of_pos→MA,filter_cons_of_neg→MB,take_of_length_le→MC,replicate→ME,length_filter_le→MF,foldl_cons→MG,filter_append→MH,length_drop→MI,all_eq_true→MJ,map_map→ML,length_dropLast→MM,length_range→MN,foldl_append→MO,flatMap_cons→MP,getElem_of_mem→MQ,length_pos_iff→MR,drop_of_length_le→MT,of_mem_zip→MU,mem_iff_getElem→MV,mem_of_mem_take→MW,filterMap_cons→MY,map_congr_left→MZ,length_reverse→M0,sum_cons→M1,getElem_inj→M5,cons_append→M6,nodup_nil→M7,mem_filterMap→M8,mem_replicate→M9,filter_eq_nil_iff→Na,map_nil→Nb,set_set→Nc,any_cons→Nd,getElem?_reverse→Nf,nodup_append→Ng,any_eq_true→Nh,forIn_cons→Ni,map_drop→Nj,nil_append→Nk,filter_map→Nl
open Nat renaming le_refl→Nm,le_trans→Nn,zero_le→Np,lt_of_lt_of_le→Nq,lt_of_le_of_lt→Nr,ne_of_lt→Nt,lt_irrefl→Nu,lt_or_ge→Nv,le_add_right→Nw,le_succ→Nx,lt_succ_self→Ny,ne_of_gt→Nz,min_le_left→ND,lt_of_le_of_ne→NF,not_lt→NG,min_le_right→NH,le_of_lt→NI,le_of_eq→NJ,zero_add→NK
open Ne renaming symm→NN
open Option renaming map_eq_some_iff→NO,some_ne_none→NR,map_some→NS,isSome_map→NT
open Prod renaming ext→NU
open PyProof.Rows renaming callWith_type1→NV,slot_tuple_getitem→NX,envOfC→NY,boot_list→NZ,AllBare→N2,boot_range→N3,subscriptTail→N4
open PySem renaming Shared→N5,wpAny_bind→N6,sizeLine→N7,starEach→N8,mainGlobals→N9,wpAny_pure→Oa,Program→Ob,attributeBase→Oc,Around→Od,backTo→Oe,swapsWith→Of,FuncData→Og,wpAny_truthy_bool→Oh,Keyword→Oi,compareOp→Oj,mem_of_lookup→Ol,wpAny_field→Om,wpAny_mono→Oo,IsPair→Oq,sysModules→Ot,wpAny_callSpecial?_slot→Ou,foldedSetIterable→Ov,keywordEach→Ow,wpAny_newObj_type→Ox,valueAt→Oz,wpAny_seqItems→OA,bootBuiltins→OB,wpAny_setField_rec→OC,wpAny_passesOwn→OD,behindInMarks→OE,holding→OF,boot_len→OG,binaryOp→OH,wpAny_call_entry→OI,backToKw→OJ,assignEach→OK,assign→OL,NameKind→OM,call_meets→ON,wpAny_holding→OO,sliceBounds→OP,isTrue→OQ,wpAny_Call_Name_kw→OR,tupleKind_room_in1→OS,getItem→OT,wpAny_pyIter_list→OU,wpAny_pyIter_zip→OW,wpAny_execs_nil→OX,letOwnedTupleGo→OY,IsPart→OZ,typeIs_str→O0,wpAny_rule→O2,wpAny_updateSeq_pair→O3,standAt→O4,codeAny→O5,sizeLine_eq→O6,swapsWithSole→O7,swappedStores→O8,intBits_le_64→O9,wpAny_onRaise→Pa,callerA→Pb,wpAny_eqBool_int→Pc,codeAny_mono→Pe,tupleKind→Pf,strValues→Pg,IsRangeIter→Ph,subscripted→Pj,pyNext→Pl,rawInt→Pm,BindsTo→Po,stored→Pp,dictSetDefault→Pq,GenState→Pr,IntMulOk→Pt,wpAny_standAt→Pu,Str→Pw,Within→Px
open PySem.Around renaming under→Py
open PySem.Builtin.List renaming listTooLong→Pz
open PySem.Builtin.Range renaming rangeSize→PD
open PySem.Builtin.Slice renaming slicePlaces→PH,sliceAdjust→PJ
open PySem.Builtin.SmallTypes renaming nextOf→PK,ownedTupleIsFree→PM
open PySem.Builtin.Str renaming occurrences→PN
open PySem.Builtin.Tuple renaming tupleExact→PQ
open PySem.Calls renaming callWith_builtin→PR,spliced_cons→PU
open PySem.Code renaming isFrame→PX
open PySem.F renaming plainAttrs_list→PZ,slot_tuple_iterator_next→P0,slot_list_append→P1,type_list_append→P2,slot_zip_next→P4,args_str_split_2→P6,entry_str_split→P7,slot_str_split→P8
open PySem.Heap renaming get?_push_of_some→P9,lt_size→Qa,get?_push_size→Qb,size_push→Qc,SameBut→Qd,get?_update_self→Qe,dictOf_iff→Qg
open PySem.Heap.SameBut renaming update→Qh
open PySem.NameKind renaming cell→Qi
open PySem.Obj renaming mapSeq→Qj
open PySem.PyData renaming keyHash→Qk
open PySem.SeqAt renaming EqAt→Ql,RcNeAt→Qm,RcAt→Qn
open PySem.SeqAt.EqAt renaming same→Qo
open PySem.SeqAt.RcAt renaming lists→Qp
open PySem.Str renaming join→Qq,ofString→Qr
open PySem.Txt renaming split→Qs
open PySem.Value renaming ref→Qt,none→Qu,int→Qv,str→Qw,bool→Qx,float→Qy,type→Qz
open PySem.W renaming Frag→QA,nsIn→QB,findIn→QC,mg_of→QD,mg_none_of→QE,kia_one→QF,keepIn→QG,emptyDict→QH,fnOf→QI,instObj→QJ,codeIn→QK,hasDictIn→QL,plainGet→QM,plainOver→QN,makesIn→QO,methodObj→QP,takerIn→QQ,OpenLaw→QR,lookIn→QS,kitOne→QT,isFn→QU
open True renaming intro→QV
open List(all_cons forIn_nil take_nil take_zero mem_flatMap prefix_rfl)
abbrev Rh(x:Pw):Prop:=(x==("__debug__":Pw))=false
abbrev RG(x:Pw):Prop:=(x==("__classdict__":Pw))=false
def RE:Lean.Syntax:=Lean.Unhygienic.run `(Lean.Parser.Tactic.tacticSeq|first | exact Or.inl rfl | exact Or.inr (Or.inl rfl) | exact Or.inr (Or.inr rfl))
def SY:Lean.Syntax:=Lean.Unhygienic.run `(Lean.Parser.Tactic.tacticSeq|first | exact Or.inl rfl | exact Or.inr rfl)
def SX:Lean.Syntax:=Lean.Unhygienic.run `(Lean.Parser.Tactic.tacticSeq|first | exact .inl rfl | exact .inr rfl)
namespace L2
open PySem PySem.Spec PyProof.Rows
section
variable {a b:Addr}
abbrev Key:=Sum Int Str
def lX:Key->Value->Bool
 | .inl k,v=>Value.isInt k v
 | .inr x,v=>Value.isStrOf x v
def Ky (w:World):Key->Int
 | .inl k=>hashInt k
 | .inr x=>hashStr w x
theorem c8:∀{k:Key} {v:Value},lX k v=true->(∃i t,k=Sum.inl i/\v=Qv i t)∨(∃x t,k=Sum.inr x/\v=Qw x t)
 | .inl i,v,h=>by
   obtain⟨t,e⟩:=Value.isInt_shape (k:=i) (v:=v) h
   exact .inl ⟨i,t,rfl,e⟩
 | .inr x,v,h=>by
   obtain⟨t,e⟩:=Value.isStrOf_shape (x:=x) (v:=v) h
   exact .inr ⟨x,t,rfl,e⟩
theorem xK (i:Int)(t:Tok):lX (.inl i) (.int i t)=true:=by simp[lX,Value.isInt]
theorem wx (x:Str)(t:Tok):lX (.inr x) (.str x t)=true:=by simp[lX,Value.isStrOf]
theorem F8 (a b:Int):decide ((Sum.inl a:Key)=Sum.inl b)=(a==b):=by
 by_cases e:a=b
 ·subst e;simp
 ·have h:¬(Sum.inl a:Key)=Sum.inl b:=λq=>e (Sum.inl.inj q)
  rw[decide_eq_false h]
  exact(beq_eq_false_iff_ne.mpr e).symm
theorem EZ (a b:Str):decide ((Sum.inr a:Key)=Sum.inr b)=decide (a=b):=by
 by_cases e:a=b
 ·subst e;simp
 ·have h:¬(Sum.inr a:Key)=Sum.inr b:=λq=>e (Sum.inr.inj q)
  rw[decide_eq_false h,decide_eq_false e]
theorem DW (a:Int)(b:Str):decide ((Sum.inl a:Key)=Sum.inr b)=false:=decide_eq_false (λq=>nomatch q)
theorem Fg (a:Str)(b:Int):decide ((Sum.inr a:Key)=Sum.inl b)=false:=decide_eq_false (λq=>nomatch q)
def bP (prog:Ob)(w:World):PySem.KeyKind prog w Key where
 is:=lX
 hash:=Ky w
 inj:=λv a b ha hb=>by
  rcases c8 ha with⟨i,t,rfl,rfl⟩ | ⟨x,t,rfl,rfl⟩
  ·rcases c8 hb with⟨j,u,rfl,e⟩ | ⟨y,u,rfl,e⟩
   ·injection e with e1 _;rw[e1]
   ·exact nomatch e
  ·rcases c8 hb with⟨j,u,rfl,e⟩ | ⟨y,u,rfl,e⟩
   ·exact nomatch e
   ·injection e with e1 _;rw[e1]
 byValue:=λk v h=>by
  rcases c8 h with⟨i,t,rfl,rfl⟩ | ⟨x,t,rfl,rfl⟩<;>rfl
 pyHash:=λhv h=>by
  rcases c8 hv with⟨i,t,rfl,rfl⟩ | ⟨x,t,rfl,rfl⟩
  ·exact wpAny_pyHash_int h
  ·exact wpAny_pyHash_str h
 eqBool:=λhu hv h=>by
  rcases c8 hu with⟨i,t,rfl,rfl⟩ | ⟨x,t,rfl,rfl⟩
  ·rcases c8 hv with⟨j,u,rfl,rfl⟩ | ⟨y,u,rfl,rfl⟩
   ·rw[F8] at h;exact Pc h
   ·rw[DW] at h;exact Ql.int_str i t y u _ _ _ _ h
  ·rcases c8 hv with⟨j,u,rfl,rfl⟩ | ⟨y,u,rfl,rfl⟩
   ·rw[Fg] at h;exact Ql.str_int x t j u _ _ _ _ h
   ·rw[EZ] at h;exact wpAny_eqBool_str h
 «strs»:=λk x t v h=>by
  rcases c8 h with⟨i,u,rfl,e⟩ | ⟨y,u,rfl,e⟩
  ·exact nomatch e
  ·injection e with e1 _
   subst e1
   cases v<;>rfl
theorem tU (prog:Ob)(w:World)(i:Int)(t:Tok):(bP prog w).is (.inl i) (.int i t)=true:=xK i t
theorem c9 (prog:Ob)(w:World)(x:Str)(t:Tok):(bP prog w).is (.inr x) (.str x t)=true:=wx x t
inductive V where
 | Rf | bl (b:Bool) | int (i:Int) | str (x:Str) | S8 (b:Array UInt8) | U2 (b:UInt64) | ref (a:Addr) | ty (n:String)
 deriving DecidableEq
def RelV:V->Value->Prop
 | .Rf,u=>u=Qu
 | .bl b,u=>u=Qx b
 | .int i,u=>∃t,u=Qv i t
 | .str x,u=>∃t,u=Qw x t
 | .S8 b,u=>∃t,u=Value.bytes b t
 | .U2 b,u=>∃t,u=Qy b t
 | .ref a,u=>u=Qt a
 | .ty n,u=>u=Qz n
abbrev Vals:List V->Ll->Prop:=Paired RelV
theorem Vals.length {xs:List V}{us:Ll}(r:Vals xs us):xs.length=us.length:=Paired.length r
theorem Vals.get:∀{xs:List V} {us:Ll} {i:Nat} {x:V},Vals xs us->xs[i]?=some x->∃u,us[i]?=some u/\RelV x u
 | _,_,_,_,.nil,e=>by simp at e
 | _,_,0,_,.cons r _,e=>by simp at e;subst e;exact⟨_,rfl,r⟩
 | _,_,i + 1,x,.cons _ t,e=>by
   obtain⟨u,h1,h2⟩:=Vals.get (i:=i) (x:=x) t (by simpa using e)
   exact⟨u,by simpa using h1,h2⟩
theorem Vals.set {x:V}{u:Value}(r:RelV x u):∀{xs:List V} {us:Ll} (i:Nat),Vals xs us->Vals (xs.set i x) (us.set i u)
 | _,_,_,.nil=>.nil
 | _,_,0,.cons _ t=>.cons r t
 | _,_,i + 1,.cons q t=>.cons q (Vals.set r i t)
theorem Vals.append:∀{xs ys:List V} {us ws:Ll},Vals xs us->Vals ys ws->Vals (xs++ys) (us++ws)
 | _,_,_,_,.nil,s=>s
 | _,_,_,_,.cons r t,s=>.cons r (Vals.append t s)
theorem Vals.take:∀{xs:List V} {us:Ll} (n:Nat),Vals xs us->Vals (xs.take n) (us.take n)
 | _,_,0,_=>.nil
 | _,_,_ + 1,.nil=>.nil
 | _,_,n + 1,.cons r t=>.cons r (Vals.take n t)
theorem Vals.drop:∀{xs:List V} {us:Ll} (n:Nat),Vals xs us->Vals (xs.drop n) (us.drop n)
 | _,_,0,r=>r
 | _,_,_ + 1,.nil=>.nil
 | _,_,n + 1,.cons _ t=>Vals.drop n t
def gN:Option V->Lj->Prop
 | some v,some u=>RelV v u
 | none,none=>True
 | _,_=>False
def KV {κ:Type}:List (κ×V)->List (κ×Value)->Prop:=Paired λ(p:κ×V) (q:κ×Value)=>p.1=q.1/\RelV p.2 q.2
def kV:Key->V
 | .inl i=>.int i
 | .inr x=>.str x
inductive HO where
 | lst (xs:List V)
 | tup (xs:List V)
 | dK (kvs:List (Key×V)) | dT (kvs:List (List Key×V))
 | set (S:Int->Bool) (n:Nat)
 | ins (C dx:Addr) (fs:List (Str×V))
 | own (x:Addr)
 | xd (fs:List (Str×V))
 | met (f x:Addr)
 | Tu (lo hi:Int)
 | So (o:Obj) (u:HO)
 | UA (ps:Array Value)
 | ext (φ:Heap->Prop)
abbrev Hp:=Addr->Option HO
def upd (H:Hp)(a:Addr)(o:HO):Hp:=λb=>if b=a then some o else H b
theorem aB {H:Hp}{o:HO}:upd H a o a=some o:=by unfold upd;rw[if_pos rfl]
theorem aF {H:Hp}{o:HO}(h:b≠a):upd H a o b=H b:=by unfold upd;rw[if_neg h]
theorem Jm {H:Hp}{o u:HO}(h:H a=some o)(h':H b=some u)(d:o≠u):a≠b:=by
 intro e;subst e;rw[h] at h';exact d (Option.some.inj h')
theorem cL {H:Hp}{o:HO}(h:H a=some o)(h':H b=none):a≠b:=by
 intro e;subst e;rw[h] at h';cases h'
end
section
variable (P:Ob)(w:World)
def cv (H:Hp)(h:Heap)(a:Addr):HO->Prop
 | .lst xs=>xs.length<=N7/\∃(QX:Ll) (n:Nat),Vals xs QX/\h.get? a=some {cls:=.type "list",data:=.seq QX.toArray n}
 | .tup xs=>xs.length<=N7/\∃QX:Ll,Vals xs QX/\IsTup h a QX.toArray
 | .dK kvs=>kvs.length<=N7/\(a==Ot)=false/\∃vs,KV kvs vs/\h.DictOf (bP P w) a vs
 | .dT kvs=>kvs.length<=N7/\(a==Ot)=false/\∃xs:List (List Key×Addr×Value),
  Paired (λ(p:List Key×V) (q:List Key×Addr×Value)=>p.1=q.1/\H q.2.1=some (.tup (p.1.map kV))/\RelV p.2 q.2.2) kvs xs/\
  ∃o es ep,h.get? a=some o/\o.ExactDict/\o.data= .dict es ep/\es.toList=xs.map (entryOfKey (Pf (bP P w)))/\(xs.map (·.1)).Nodup
 | .set S n=>h.SetOf (intKind P w) a S n
 | .ins C dx fs=>H dx=some (.own a)/\fs.length<=1000/\dx≠a/\h.get? a=some (QJ C dx)/\
  ∃mA,h.Ns1 dx mA/\(∀f,gN (fs.lookup f) (mA f))/\Px mA (fs.map (·.1))
 | .own _=>∃o,h.get? a=some o
 | .xd fs=>∃mA,h.Ns1 a mA/\∀f,gN (fs.lookup f) (mA f)
 | .Tu lo hi=>∃t u v,h.get? a=some {cls:=.type "range",data:=.fields #[.int lo t,.int hi u,.int 1 v]}
 | .So o u=>h.get? a=some o/\cv H h a u
 | .UA ps=>h.get? a=some {cls:=.none,data:=.fields ps}
 | .met f x=>h.get? a=some (QP (.ref f) (.ref x))
 | .ext φ=>φ h/\(∃o,h.get? a=some o)/\∀h1 h2:Heap,φ h1->(∀o,h1.get? a=some o->h2.get? a=some o)->φ h2
def dv (H:Hp)(h:Heap):Prop:=∀a o,H a=some o->cv P w H h a o
end
section
variable {P:Ob}{w:World}{H H':Hp}{h h':Heap}{a:Addr}{o:HO}
theorem cv.lt (x:cv P w H h a o):a < h.objs.size:=by
 cases o with
 | lst xs=>obtain⟨_,_,_,_,e⟩:=x;exact Qa e
 | tup xs=>obtain⟨_,_,_,p⟩:=x;exact p.lt
 | dK kvs=>obtain⟨_,_,_,_,o,_,_,e,_⟩:=x;exact Qa e
 | dT kvs=>obtain⟨_,_,_,_,o,_,_,e,_⟩:=x;exact Qa e
 | set S n=>obtain⟨o,_,_,_,e,_⟩:=x;exact Qa e
 | ins C dx fs=>obtain⟨_,_,_,e,_⟩:=x;exact Qa e
 | own y=>obtain⟨_,e⟩:=x;exact Qa e
 | xd fs=>obtain⟨_,⟨_,_,_,e,_⟩,_⟩:=x;exact Qa e
 | Tu lo hi=>obtain⟨_,_,_,e⟩:=x;exact Qa e
 | So ob u=>obtain⟨e,_⟩:=x;exact Qa e
 | UA ps=>exact Qa (show h.get? a=some _ from x)
 | met f y=>exact Qa (show h.get? a=some _ from x)
 | ext φ=>obtain⟨_,⟨_,e⟩,_⟩:=x;exact Qa e
theorem Paired.zR {α β:Type}{F G:α->β->Prop}:∀{l₁:List α} {l₂:List β},Paired F l₁ l₂->(∀a b,F a b->G a b)->Paired G l₁ l₂
 | _,_,.nil,_=>.nil
 | _,_,.cons r t,f=>.cons (f _ _ r) (Paired.zR t f)
theorem cv.Rz (x:cv P w H h a o)(k:∀b u,(b=a∨H b=some (.own a))->h.get? b=some u->h'.get? b=some u)
 (ho:∀b,H b=some (.own a)->H' b=some (.own a)) (ht:∀b xs,H b=some (.tup xs)->H' b=some (.tup xs)):cv P w H' h' a o:=by
 induction o with
 | lst xs=>obtain⟨z,QX,n,r,e⟩:=x;exact⟨z,QX,n,r,k _ _ (.inl rfl) e⟩
 | tup xs=>obtain⟨z,QX,r,ob,e,c⟩:=x;exact⟨z,QX,r,ob,k _ _ (.inl rfl) e,c⟩
 | dK kvs=>obtain⟨z,y,vs,r,ob,es,ep,e,c⟩:=x;exact⟨z,y,vs,r,ob,es,ep,k _ _ (.inl rfl) e,c⟩
 | dT kvs=>
   obtain⟨z,y,xs,r,ob,es,ep,e,c⟩:=x
   exact⟨z,y,xs,Paired.zR r λp q z=>⟨z.1,ht _ _ z.2.1,z.2.2⟩,ob,es,ep,k _ _ (.inl rfl) e,c⟩
 | set S n=>obtain⟨ob,es,ep,t,e,c⟩:=x;exact⟨ob,es,ep,t,k _ _ (.inl rfl) e,c⟩
 | ins C dx fs=>
   obtain⟨d,z,ne,e,mA,⟨od,es,ep,e2,c⟩,r⟩:=x
   exact⟨ho _ d,z,ne,k _ _ (.inl rfl) e,mA,⟨od,es,ep,k _ _ (.inr d) e2,c⟩,r⟩
 | own y=>obtain⟨ob,e⟩:=x;exact⟨ob,k _ _ (.inl rfl) e⟩
 | xd fs=>obtain⟨mA,⟨od,es,ep,e,c⟩,r⟩:=x;exact⟨mA,⟨od,es,ep,k _ _ (.inl rfl) e,c⟩,r⟩
 | Tu lo hi=>obtain⟨t,u,v,e⟩:=x;exact⟨t,u,v,k _ _ (.inl rfl) e⟩
 | So ob u ih=>obtain⟨e,q⟩:=x;exact⟨k _ _ (.inl rfl) e,ih q⟩
 | UA ps=>
   have e:h.get? a=some {cls:=.none,data:=.fields ps}:=x
   show h'.get? a=some {cls:=.none,data:=.fields ps}
   exact k a _ (.inl rfl) e
 | met f y=>
   have e:h.get? a=some (QP (.ref f) (.ref y)):=x
   show h'.get? a=some (QP (.ref f) (.ref y))
   exact k a _ (.inl rfl) e
 | ext φ=>obtain⟨p,⟨o,e⟩,st⟩:=x;exact⟨st _ _ p λo q=>k _ _ (.inl rfl) q,⟨o,k _ _ (.inl rfl) e⟩,st⟩
theorem dv.lt (x:dv P w H h)(e:H a=some o):a < h.objs.size:=(x a o e).lt
theorem dv.fresh (x:dv P w H h)(e:h.objs.size<=a):H a=none:=by
 cases q:H a with
 | none=>rfl
 | some u=>exact absurd (Nq (x.lt q) e) (Nu _)
theorem dv.kept (x:dv P w H h)(k:∀b u,h.get? b=some u->h'.get? b=some u):dv P w H h':=λa o e=>
 (x a o e).Rz (λb u _ q=>k b u q) (λ_ q=>q) λ_ _ q=>q
theorem dv.laid (x:dv P w H h)(k:∀b u,h.get? b=some u->h'.get? b=some u)(hp:h.objs.size<=a)(new:cv P w (upd H a o) h' a o):dv P w (upd H a o) h':=λb u e=>by
 have hn:=x.fresh hp
 by_cases hb:b=a
 ·subst hb;rw[aB] at e;cases e;exact new
 ·rw[aF hb] at e
  exact(x b u e).Rz (λc v _ q=>k c v q) (λc q=>by rw[aF (cL q hn)];exact q) λc xs q=>by rw[aF (cL q hn)];exact q
end
def Rd (H:Hp)(a:Addr)(u:HO):Prop:=H a=some u∨∃o,H a=some (.So o u)
theorem Rd.ok {P:Ob}{w:World}{H:Hp}{h:Heap}{a:Addr}{u:HO}(r:Rd H a u)(x:dv P w H h):cv P w H h a u:=by
 rcases r with r | ⟨o,r⟩
 ·exact x a u r
 ·obtain⟨_,q⟩:=x a _ r
  exact q
def wW:Option HO->Prop
 | some (.lst _)=>True
 | some (.dK _)=>True
 | some (.dT _)=>True
 | some (.set _ _)=>True
 | some (.ins _ _ _)=>True
 | some (.ext _)=>True
 | _=>False
section
variable {P:Ob}{w:World}{H:Hp}{h h':Heap}{x e:Addr}{o':HO}
theorem dv.write (ok:dv P w H h)(mu:wW (H x))(he:e=x∨H e=some (.own x))(k:∀b u,b≠e->h.get? b=some u->h'.get? b=some u)(Vf:∃u,h'.get? e=some u)
 (new:cv P w (upd H x o') h' x o'):dv P w (upd H x o') h':=λb u q=>by
 have Vp:∀c y,H c=some (.own y)->c≠x:=λc y r z=>by subst z;rw[r] at mu;exact mu
 have ntup:∀c xs,H c=some (.tup xs)->c≠x:=λc xs r z=>by subst z;rw[r] at mu;exact mu
 by_cases hb:b=x
 ·subst hb;rw[aB] at q;cases q;exact new
 ·rw[aF hb] at q
  by_cases TC:b=e
  ·have q':H b=some (.own x):=by
    rcases he with z | z
    ·exact absurd (TC.trans z) hb
    ·rw[TC];exact z
   rw[q] at q';cases q'
   obtain⟨v,hv⟩:=Vf
   exact⟨v,by rw[TC];exact hv⟩
  ·refine(ok b u q).Rz (λc v hc r=>k c v ?_ r) (λc r=>by rw[aF (Vp c b r)];exact r) λc xs r=>by rw[aF (ntup c xs r)];exact r
   rcases hc with rfl | hc
   ·exact TC
   ·rintro rfl
    rcases he with z | z
    ·exact Vp c b hc z
    ·rw[hc] at z;cases z;exact hb rfl
end
structure Un (fs ex:Lk) (H H':Hp) (h h':Heap):Prop where
 keep:∀b o,h.get? b=some o->H b=none->b∉fs->b∉ex->h'.get? b=some o
 slot:∀b o,h.get? b=some o->H b=none->b∈fs->b∉ex->∃sl,h'.get? b=some {o with slots:=sl}
 free:∀b o,h.get? b=some o->H b=none->b∉ex->H' b=none
 there:∀b o,h.get? b=some o->b∉ex->∃o',h'.get? b=some o'
 Sk:∀b xs,H b=some (.tup xs)->H' b=some (.tup xs)
 Sf:∀b o u,H b=some (.So o u)->H' b=some (.So o u)
 Sl:∀b ps,H b=some (.UA ps)->∃more,H' b=some (.UA (ps++more))
section
variable {fs fs' ex ex':Lk}{H H1 H2:Hp}{h h1 h2 h':Heap}{a x e:Addr}{o:HO}
theorem Un.any (u:Un fs ex H H1 h h1){b:Addr}{ob:Obj}(q:h.get? b=some ob)(n:H b=none)(hx:b∉ex):∃sl,h1.get? b=some {ob with slots:=sl}:=by
 by_cases hb:b∈fs
 ·exact u.slot b ob q n hb hx
 ·exact⟨ob.slots,u.keep b ob q n hb hx⟩
theorem Un.kept (k:∀b u,h.get? b=some u->h'.get? b=some u):Un fs ex H H h h':=
 ⟨λb ob q _ _ _=>k b ob q,λb ob q _ _ _=>⟨ob.slots,k b ob q⟩,λ_ _ _ n _=>n,λb ob q _=>⟨ob,k b ob q⟩,λ_ _ q=>q,λ_ _ _ q=>q,λ_ ps q=>⟨#[],by rw[q];simp⟩⟩
theorem Un.refl:Un fs ex H H h h:=Un.kept λ_ _ q=>q
theorem Un.laid (k:∀b u,h.get? b=some u->h'.get? b=some u)(hp:h.objs.size<=a)(hn:H a=none):Un fs ex H (upd H a o) h h' where
 keep:=λb u q _ _ _=>k b u q
 slot:=λb u q _ _ _=>⟨u.slots,k b u q⟩
 free:=λb u q n _=>by rw[aF (Nt (Nq (Qa q) hp))];exact n
 there:=λb u q _=>⟨u,k b u q⟩
 Sk:=λb xs q=>by rw[aF (cL q hn)];exact q
 Sf:=λb u xs q=>by rw[aF (cL q hn)];exact q
 Sl:=λb ps q=>⟨#[],by rw[aF (cL q hn),q];simp⟩
theorem Un.write (mu:wW (H x))(he:e=x∨H e=some (.own x))(k:∀b u,b≠e->h.get? b=some u->h'.get? b=some u)(Vf:∃u,h'.get? e=some u):Un fs ex H (upd H x o) h h':=by
 have hx:∀b,H b=none->b≠x:=λb n z=>by subst z;rw[n] at mu;exact mu
 have hb:∀b,H b=none->b≠e:=λb n z=>by
  subst z
  rcases he with r | r
  ·exact hx b n r
  ·rw[n] at r;cases r
 have hm:∀b u,H b=some u->¬wW (some u)->b≠x:=λb u q nm z=>by subst z;rw[q] at mu;exact nm mu
 refine⟨λb u q n _ _=>k b u (hb b n) q,λb u q n _ _=>⟨u.slots,k b u (hb b n) q⟩,λb u q n _=>by rw[aF (hx b n)];exact n,λb u q _=>?_,
  λb xs q=>by rw[aF (hm b _ q λz=>z)];exact q,λb u xs q=>by rw[aF (hm b _ q λz=>z)];exact q,λb ps q=>⟨#[],by rw[aF (hm b _ q λz=>z),q];simp⟩⟩
 by_cases TC:b=e
 ·subst TC;exact Vf
 ·exact⟨u,k b u TC q⟩
end
def A3 (h:Heap)(H:Hp):Lk:=(L6 h.objs.size).filter λa=>(H a).isSome
def j9 (h:Heap)(H:Hp):Heap:=PySem.W.hideAll h (A3 h H)
theorem xU (h:Heap)(H:Hp):(j9 h H).objs.size=h.objs.size:=PySem.W.hideAll_size _ _
theorem zU {h:Heap}{H:Hp}{b:Addr}{o:Obj}(e:h.get? b=some o)(n:H b=none):(j9 h H).get? b=some o:=
 PySem.W.hideAll_get _ e λhm=>by
  have q:(H b).isSome=true:=(Mj.mp hm).2
  rw[n] at q;simp at q
theorem B1 {h:Heap}{H:Hp}{b:Addr}{o:Obj}(e:(j9 h H).get? b=some o):h.get? b=some o/\H b=none:=by
 have e':h.get? b=some o:=PySem.W.of_hideAll (A3 h H) e
 refine⟨e',?_⟩
 cases q:H b with
 | none=>rfl
 | some x=>
   have hm:b∈A3 h H:=Mj.mpr ⟨Ms.mpr (Qa e'),by simp[q]⟩
   have z:(j9 h H).get? b=none:=PySem.W.hideAll_none (A3 h H) hm
   rw[z] at e;cases e
structure Mod (K:QA) (mg:Lf) (base:Heap):Prop where
 kin:K.In base
 glob:base.Ns N9 mg
 blt:∃mb,base.Ns builtinsNs mb/\∀x:Str,x≠"__name__"->mb x=OB x
 nolimit:base.NoLimit
structure Cx where
 prog:Ob
 w:World
 K:QA
 mg:Lf
 base:Heap
 A:Od
 N:Li
 s₀:N5
 H₀:Hp
 env:Env
 outer:List Env
 stack:List Env
 ex:Lk
 fn:Str->Bool
 calm:Bool
 pn:Lg
 xe:Value->N5->Prop
def jQ (l:List Env):Lk:=l.filterMap (·.frame)
abbrev Cx.fs (X:Cx):Lk:=jQ X.outer
def cG (sc:Scope)(x:Str):Prop:=sc.names.lookup x=some .local∨sc.names.lookup x=some .cell∨sc.names.lookup x=some .free
def Loc (sc:Scope)(x:Str):Prop:=sc.names.lookup x=some .local∨sc.names.lookup x=some .cell
def Look (env:Env)(h:Heap)(m:Lf)(x:Str)(u:Value):Prop:=
 (env.kindOf x=some .local/\m x=some u)∨((env.kindOf x=some .cell∨env.kindOf x=some .free)/\∃c,env.cells.lookup x=some c/\h.IsCell c (some u))
structure Cx.Ok (X:Cx):Prop where
 mod:Mod X.K X.mg X.base
 kind:X.env.scope.kind= .function
 glob:X.env.globals=N9
 blt:X.env.builtins=builtinsNs
 above:X.s₀.heap.objs.size<=X.env.locals
 inj:∀x y c,X.env.cells.lookup x=some c->X.env.cells.lookup y=some c->x=y
 has:∀x,(X.env.kindOf x=some .cell∨X.env.kindOf x=some .free)->∃c,X.env.cells.lookup x=some c
 Wb:∀x c,X.fn x=true->X.env.cells.lookup x=some c->X.s₀.heap.objs.size<=c
 hd:X.calm=true->X.A.handled=none
 frames:X.A.frames=some X.stack
 stk:X.stack=X.outer∨(X.stack=X.env::X.outer/\X.env.frame=some X.env.locals)
 exf:∀b∈X.ex,b≠X.env.locals/\∀x c,X.env.cells.lookup x=some c->c≠b
 bs:∀b o,X.base.get? b=some o->X.s₀.heap.get? b=some o/\X.H₀ b=none
 Ua:X.base.objs.size<=X.s₀.heap.objs.size
 Tg:∀b o,X.base.get? b=some o->b∉X.ex
 Td:∀b∈X.ex,b∉X.fs
 Sa:X.s₀.heap.FunFrames X.base X.outer
 U1:∀b∈X.fs,X.H₀ b=none
structure Inv (X:Cx) (QW:Lg) (σ:List (Option V)) (H:Hp) (s:N5):Prop where
 ok:X.Ok
 os:s.os=X.s₀.os
 bare:N2 s.gens
 base:Un X.fs X.ex X.H₀ H X.s₀.heap s.heap
 loc:∃m,s.heap.Ns X.env.locals m/\∀(i:Nat) (x:Str) (v:V),X.N[i]?=some x->σ[i]?=some (some v)->cG X.env.scope x->∃u,RelV v u/\Look X.env s.heap m x u
 cell:∀x c,X.env.cells.lookup x=some c->∃v,s.heap.IsCell c v
 free:H X.env.locals=none
 RK:∀x c,X.env.cells.lookup x=some c->H c=none
 pin:∀p∈X.pn++QW,s.heap.get? p.1=some p.2/\H p.1=none/\p.1≠X.env.locals/\p.1∉X.fs/\∀v,p.2.data≠ .cell v
 Q3:dv X.prog X.w H s.heap
 len:σ.length=X.N.length
section
variable {X:Cx}{QW:Lg}{σ:List (Option V)}{H H':Hp}{s:N5}{h':Heap}
variable {t':Nat}{ch:Lk}{x:Str}{i:Nat}
theorem Cx.Ok.KS (ok:X.Ok){b:Addr}{o:Obj}(e:X.base.get? b=some o):b∉X.fs:=λhb=>by
 have:=(ok.Sa.mem hb).1
 rw[e] at this;cases this
theorem Inv.bs (I:Inv X QW σ H s):∀b o,X.base.get? b=some o->s.heap.get? b=some o/\H b=none:=λb o e=>
 ⟨I.base.keep b o (I.ok.bs b o e).1 (I.ok.bs b o e).2 (I.ok.KS e) (I.ok.Tg b o e),I.base.free b o (I.ok.bs b o e).1 (I.ok.bs b o e).2 (I.ok.Tg b o e)⟩
theorem Inv.bk (I:Inv X QW σ H s):∀b o,X.base.get? b=some o->s.heap.get? b=some o:=λb o e=>(I.bs b o e).1
theorem Inv.mod (I:Inv X QW σ H s):Mod X.K X.mg X.base:=I.ok.mod
theorem Inv.eJ (I:Inv X QW σ H s):X.K.In s.heap:=I.ok.mod.kin.keeps I.bk
theorem Inv.lt (I:Inv X QW σ H s):X.env.locals < s.heap.objs.size:=let ⟨_,hn,_⟩:=I.loc;hn.lt
theorem Inv.sz (I:Inv X QW σ H s):X.s₀.heap.objs.size<=s.heap.objs.size:=Nn I.ok.above (NI I.lt)
theorem Inv.K2 (I:Inv X QW σ H s){a:Addr}(h:s.heap.objs.size<=a):a∉X.fs:=λhb=>by
 obtain⟨_,o,ho,_⟩:=I.ok.Sa.mem hb
 exact absurd (Nq (Qa ho) (Nn I.sz h)) (Nu _)
theorem Inv.U4 (I:Inv X QW σ H s):∀x c,X.env.cells.lookup x=some c->c≠X.env.locals:=λx c e z=>by
 obtain⟨v,o,ho,hd⟩:=I.cell x c e
 obtain⟨m,⟨o',es,ep,Sr,V0,_⟩,_⟩:=I.loc
 rw[z,Sr] at ho;cases ho;rw[V0] at hd;cases hd
theorem Inv.Sa (I:Inv X QW σ H s):s.heap.FunFrames X.base X.outer:=by
 have all:∀(l:List Env),(∀b∈jQ l,b∈X.fs)->X.s₀.heap.FunFrames X.base l->s.heap.FunFrames X.base l:=by
  intro l
  induction l with
  | nil=>intro _ _;trivial
  | cons env r ih=>
    intro hs hl
    obtain⟨hk,⟨L,o,hf,hn,ho,hd⟩,hr⟩:=hl
    have hL:L∈X.fs:=hs L (by unfold jQ;rw[MY,hf];exact LP)
    obtain⟨sl,e⟩:=I.base.slot L o ho (I.ok.U1 L hL) hL λz=>I.ok.Td L z hL
    exact⟨hk,⟨L,_,hf,hn,e,hd⟩,ih (λb hb=>hs b (by unfold jQ;rw[MY,hf];exact LN _ hb)) hr⟩
 exact all X.outer (λ_ hb=>hb) I.ok.Sa
theorem Inv.stack (I:Inv X QW σ H s):s.heap.FunFrames X.base X.stack:=by
 rcases I.ok.stk with e | ⟨e,hf⟩
 ·rw[e];exact I.Sa
 ·rw[e]
  obtain⟨m,hn,_⟩:=I.loc
  refine .cons (by rw[I.ok.kind];decide) hf hn ?_ I.Sa
  exact Heap.get?_none_of_le (Nn I.ok.Ua I.ok.above)
theorem Inv.si (I:Inv X QW σ H s):∀b∈jQ X.stack,b∈X.env.locals::X.fs:=λb hb=>by
 rcases I.ok.stk with e | ⟨e,hf⟩
 ·rw[e] at hb;exact LN _ hb
 ·rw[e] at hb
  unfold jQ at hb
  rw[MY,hf] at hb
  exact hb
theorem Inv.tX (I:Inv X QW σ H s):∀b∈jQ X.stack,H b=none:=λb hb=>by
 rcases LV.mp (I.si b hb) with e | hb
 ·rw[e];exact I.free
 ·obtain⟨_,o,ho,_⟩:=I.ok.Sa.mem hb
  exact I.base.free b o ho (I.ok.U1 b hb) λz=>I.ok.Td b z hb
theorem Inv.step {g':Array Pr}{d':Drawn}(I:Inv X QW σ H s)
 (Tf:∀b∈ch,(b∈X.ex∨X.s₀.heap.objs.size<=b)/\b≠X.env.locals/\(∀x c,X.env.cells.lookup x=some c->c≠b)/\∀p∈X.pn++QW,p.1≠b)
 (keep:∀b o,b≠X.env.locals->b∉X.fs->b∉ch->s.heap.get? b=some o->H b=none->h'.get? b=some o)
 (slot:∀b o,b≠X.env.locals->b∈X.fs->b∉ch->s.heap.get? b=some o->H b=none->∃sl,h'.get? b=some {o with slots:=sl}) (free:∀b o,b∉ch->s.heap.get? b=some o->H b=none->H' b=none)
 (there:∀b o,b∉ch->s.heap.get? b=some o->∃o',h'.get? b=some o')
 (Sk:∀b xs,H b=some (.tup xs)->H' b=some (.tup xs)) (Sf:∀b o u,H b=some (.So o u)->H' b=some (.So o u)) (Sl:∀b ps,H b=some (.UA ps)->∃more,H' b=some (.UA (ps++more)))
 (ns:∀m,s.heap.Ns X.env.locals m->h'.Ns X.env.locals m) (Q3:dv X.prog X.w H' h') (hg:N2 g'):
 Inv X QW σ H' {s with heap:=h',gens:=g',drawn:=d',toks:=t'}:=by
 have neL:∀b o,X.s₀.heap.get? b=some o->b≠X.env.locals:=λb o e=>Nt (Nq (Qa e) I.ok.above)
 have Tj:∀b o,X.s₀.heap.get? b=some o->b∉X.ex->b∉ch:=λb o e hx hb=>by
  rcases(Tf b hb).1 with z | z
  ·exact hx z
  ·exact absurd (Nq (Qa e) z) (Nu _)
 have cellK:∀x c,X.env.cells.lookup x=some c->∀v,s.heap.IsCell c v->h'.IsCell c v:=λx c e v ⟨o,ho,hd⟩=>by
  have Vt:c∉ch:=λz=>(Tf c z).2.2.1 x c e rfl
  by_cases hc:c∈X.fs
  ·obtain⟨sl,q⟩:=slot c o (I.U4 x c e) hc Vt ho (I.RK x c e)
   exact⟨_,q,hd⟩
  ·exact⟨o,keep c o (I.U4 x c e) hc Vt ho (I.RK x c e),hd⟩
 refine⟨I.ok,I.os,hg,⟨λb o e n hb hx=>?_,λb o e n hb hx=>?_,λb o e n hx=>?_,λb o e hx=>?_,λb xs e=>Sk b xs (I.base.Sk b xs e),λb o xs e=>Sf b o xs (I.base.Sf b o xs e),λb ps e=>?_⟩,?_,λx c e=>?_,?_,λx c e=>?_,λp hp=>?_,Q3,I.len⟩
 ·exact keep b o (neL b o e) hb (Tj b o e hx) (I.base.keep b o e n hb hx) (I.base.free b o e n hx)
 ·obtain⟨sl,e1⟩:=I.base.slot b o e n hb hx
  obtain⟨sl',e2⟩:=slot b _ (neL b o e) hb (Tj b o e hx) e1 (I.base.free b o e n hx)
  exact⟨sl',e2⟩
 ·obtain⟨o',e1⟩:=I.base.there b o e hx
  exact free b o' (Tj b o e hx) e1 (I.base.free b o e n hx)
 ·obtain⟨o',e1⟩:=I.base.there b o e hx
  exact there b o' (Tj b o e hx) e1
 ·obtain⟨m1,e1⟩:=I.base.Sl b ps e
  obtain⟨m2,e2⟩:=Sl b _ e1
  exact⟨m1++m2,by rw[e2,Array.append_assoc]⟩
 ·obtain⟨m,hn,hl⟩:=I.loc
  refine⟨m,ns m hn,λi x v e1 e2 e3=>?_⟩
  obtain⟨u,r,l⟩:=hl i x v e1 e2 e3
  refine⟨u,r,?_⟩
  rcases l with l | ⟨k,c,e,z⟩
  ·exact .inl l
  ·exact .inr ⟨k,c,e,cellK x c e _ z⟩
 ·obtain⟨v,z⟩:=I.cell x c e
  exact⟨v,cellK x c e v z⟩
 ·obtain⟨m,⟨o,_,_,ho,_⟩,_⟩:=I.loc
  exact free _ o (λz=>(Tf _ z).2.1 rfl) ho I.free
 ·obtain⟨v,o,ho,hd⟩:=I.cell x c e
  exact free c o (λz=>(Tf c z).2.2.1 x c e rfl) ho (I.RK x c e)
 ·obtain⟨e,n,ne,nf,d⟩:=I.pin p hp
  have Vt:p.1∉ch:=λz=>(Tf p.1 z).2.2.2 p hp rfl
  exact⟨keep p.1 p.2 ne nf Vt e n,free p.1 p.2 Vt e n,ne,nf,d⟩
theorem Inv.un (I:Inv X QW σ H s)(u:Un X.fs [] H H' s.heap h')(Q3:dv X.prog X.w H' h'):Inv X QW σ H' {s with heap:=h',toks:=t'}:=by
 obtain⟨m,⟨o,es,ep,ho,r⟩,_⟩:=id I.loc
 obtain⟨sl,hL⟩:=u.any ho I.free (by simp)
 exact I.step (g':=s.gens) (d':=s.drawn) (ch:=[]) (λ_ z=>nomatch z) (λb o _ hb _ e n=>u.keep b o e n hb (by simp)) (λb o _ hb _ e n=>u.slot b o e n hb (by simp)) (λb o _ e n=>u.free b o e n (by simp)) (λb o _ e=>u.there b o e (by simp)) u.Sk u.Sf u.Sl (λm' hm=>by
  obtain⟨o',es',ep',Sr,r'⟩:=hm
  rw[ho] at Sr;cases Sr
  exact⟨_,es',ep',hL,r'⟩) Q3 I.bare
theorem Inv.call {g':Array Pr}{d':Drawn}(I:Inv X QW σ H s)(u:Un (jQ X.stack) ch H H' s.heap h')(Q3:dv X.prog X.w H' h')(hg:N2 g')
 (Tf:∀b∈ch,(b∈X.ex∨X.s₀.heap.objs.size<=b)/\b≠X.env.locals/\(∀x c,X.env.cells.lookup x=some c->c≠b)/\∀p∈X.pn++QW,p.1≠b):
 Inv X QW σ H' {s with heap:=h',gens:=g',drawn:=d',toks:=t'}:=by
 obtain⟨m,⟨o,es,ep,ho,r⟩,_⟩:=id I.loc
 obtain⟨sl,hL⟩:=u.any ho I.free λz=>(Tf _ z).2.1 rfl
 exact I.step (ch:=ch) Tf (λb o hL hb hc e n=>u.keep b o e n (λz=>(LV.mp (I.si b z)).elim hL hb) hc) (λb o _ _ hc e n=>u.any e n hc) (λb o hc e n=>u.free b o e n hc) (λb o hc e=>u.there b o e hc) u.Sk u.Sf u.Sl (λm' hm=>by
  obtain⟨o',es',ep',Sr,r'⟩:=hm
  rw[ho] at Sr;cases Sr
  exact⟨_,es',ep',hL,r'⟩) Q3 hg
theorem Inv.turned {it:Addr}(I:Inv X QW σ H s)(k:∀b o,b≠it->s.heap.get? b=some o->h'.get? b=some o)(hn:H it=none)(hL:it≠X.env.locals)
 (h1:it∈X.ex∨X.s₀.heap.objs.size<=it) (h2:∀x c,X.env.cells.lookup x=some c->c≠it) (h3:∀p∈X.pn++QW,p.1≠it):Inv X QW σ H {s with heap:=h',toks:=t'}:=by
 have Vs:∀b u,H b=some u->b≠it:=λb u e z=>by rw[z,hn] at e;cases e
 refine I.step (g':=s.gens) (d':=s.drawn) (ch:=[it]) (λb hb=>?_) (λb o _ _ hc e _=>k b o (λz=>hc (by simp[z])) e) (λb o _ _ hc e _=>⟨o.slots,k b o (λz=>hc (by simp[z])) e⟩) (λ_ _ _ _ n=>n)
  (λb o hc e=>⟨o,k b o (λz=>hc (by simp[z])) e⟩) (λ_ _ e=>e) (λ_ _ _ e=>e) (λb ps e=>⟨#[],by rw[e];simp⟩) (λm hm=>?_) (λb u e=>?_) I.bare
 ·have e:b=it:=by simpa using hb
  subst e
  exact⟨h1,hL,h2,h3⟩
 ·obtain⟨o,es,ep,ho,r⟩:=hm
  exact⟨o,es,ep,k _ o (NN hL) ho,r⟩
 ·refine(I.Q3 b u e).Rz (λc v hc q=>k c v ?_ q) (λ_ q=>q) λ_ _ q=>q
  rcases hc with z | z
  ·rw[z];exact Vs b u e
  ·exact Vs c _ z
theorem Inv.tok (I:Inv X QW σ H s)(t:Nat):Inv X QW σ H {s with toks:=t}:=I.un (h':=s.heap) (t':=t) Un.refl I.Q3
theorem Inv.kept (I:Inv X QW σ H s)(k:∀b u,s.heap.get? b=some u->h'.get? b=some u):Inv X QW σ H {s with heap:=h',toks:=t'}:=I.un (Un.kept k) (I.Q3.kept k)
theorem Inv.laid {a:Addr}{o:HO}(I:Inv X QW σ H s)(k:∀b u,s.heap.get? b=some u->h'.get? b=some u)(hp:s.heap.objs.size<=a)(new:cv X.prog X.w (upd H a o) h' a o):
 Inv X QW σ (upd H a o) {s with heap:=h',toks:=t'}:=I.un (Un.laid k hp (I.Q3.fresh hp)) (I.Q3.laid k hp new)
theorem Inv.write {x e:Addr}{o:HO}(I:Inv X QW σ H s)(mu:wW (H x))(he:e=x∨H e=some (.own x))(k:∀b u,b≠e->s.heap.get? b=some u->h'.get? b=some u)(Vf:∃u,h'.get? e=some u)
 (new:cv X.prog X.w (upd H x o) h' x o):Inv X QW σ (upd H x o) {s with heap:=h',toks:=t'}:=I.un (Un.write mu he k Vf) (I.Q3.write mu he k Vf new)
theorem Inv.iI {Ub:Lg}(I:Inv X QW σ H s)(h:∀p∈Ub,s.heap.get? p.1=some p.2/\H p.1=none/\p.1≠X.env.locals/\p.1∉X.fs/\∀v,p.2.data≠ .cell v):Inv X Ub σ H s:=
 ⟨I.ok,I.os,I.bare,I.base,I.loc,I.cell,I.free,I.RK,λp hp=>(LW.mp hp).elim (λz=>I.pin p (L7 _ z)) (h p),I.Q3,I.len⟩
theorem qA {N:Li}(hN:N.Nodup){j:Nat}(a:N[i]?=some x)(b:N[j]?=some x):i=j:=by
 obtain⟨h1,e1⟩:=LC.mp a
 obtain⟨h2,e2⟩:=LC.mp b
 exact(M5 hN).mp (e1.trans e2.symm)
theorem pT {M:Model}{A:Od}{E:Value->N5->Prop}{v:V}{u:Value}{Q:Unit->N5->Prop}(I:Inv X QW σ H s)(hN:X.N.Nodup)(hi:X.N[i]?=some x)(hx:Loc X.env.scope x)(r:RelV v u)
 (h:∀s',Inv X QW (σ.set i (some v)) H s'->(∃a,Qd a s.heap s'.heap/\(a=X.env.locals∨X.env.cells.lookup x=some a))->Q () s') (hf:X.fn x=true∨X.env.scope.names.lookup x=some .local:=by first | exact .inl rfl | exact .inr rfl | assumption):wpAny M A (storeName X.env x u) Q E s:=by
 obtain⟨m,hn,hl⟩:=id I.loc
 have hcls:(X.env.scope.kind== .class ||(X.env.scope.kind== .module&&X.env.locals != X.env.globals))=false:=by rw[I.ok.kind];rfl
 have hiσ:i < σ.length:=by rw[I.len];exact(LC.mp hi).1
 have U4:=I.U4
 have tracked:∀{a:Addr} {h':Heap},(∃o,s.heap.get? a=some o/\H a=none)->Qd a s.heap h'->dv X.prog X.w H h':=λ{a h'} ha hs b ob e=>by
  obtain⟨_,_,Uq⟩:=ha
  refine(I.Q3 b ob e).Rz (λc w' hc q=>(hs.2 c ?_).trans q) (λ_ q=>q) λ_ _ q=>q
  rintro rfl
  rcases hc with rfl | hc
  ·rw[Uq] at e;cases e
  ·rw[Uq] at hc;cases hc
 rcases hx with hk | hk
 ·refine wpAny_storeName_local hk hn (λh' Tx hs=>?_) hcls
  obtain⟨oL,_,_,hoL,_⟩:=id hn
  refine h _ ⟨I.ok,I.os,I.bare,⟨λb o e n hb hx=>?_,λb o e n hb hx=>?_,I.base.free,λb o e hx=>?_,I.base.Sk,I.base.Sf,I.base.Sl⟩,⟨_,Tx,λj y v' e1 e2 e3=>?_⟩,λy c e=>?_,I.free,I.RK,λp hp=>?_,tracked ⟨oL,hoL,I.free⟩ hs,by simpa using I.len⟩ ⟨_,hs,.inl rfl⟩
  ·exact(hs.2 b (Nt (Nq (Qa e) I.ok.above))).trans (I.base.keep b o e n hb hx)
  ·obtain⟨sl,e1⟩:=I.base.slot b o e n hb hx
   exact⟨sl,(hs.2 b (Nt (Nq (Qa e) I.ok.above))).trans e1⟩
  ·obtain⟨o',e1⟩:=I.base.there b o e hx
   exact⟨o',(hs.2 b (Nt (Nq (Qa e) I.ok.above))).trans e1⟩
  ·by_cases hj:j=i
   ·subst hj
    rw[hi] at e1;cases e1
    rw[LZ hiσ] at e2
    cases e2
    exact⟨u,r,.inl ⟨hk,by simp⟩⟩
   ·rw[Mf (NN hj)] at e2
    obtain⟨u',r',q⟩:=hl j y v' e1 e2 e3
    refine⟨u',r',?_⟩
    rcases q with⟨k,e⟩ | ⟨k,c,e,z⟩
    ·refine .inl ⟨k,?_⟩
     have:y≠x:=λe=>hj (qA hN e1 (e▸hi))
     simp[this,e]
    ·exact .inr ⟨k,c,e,z.sameBut hs (U4 y c e)⟩
  ·obtain⟨w',z⟩:=I.cell y c e
   exact⟨w',z.sameBut hs (U4 y c e)⟩
  ·obtain⟨e,n,ne,nf,d⟩:=I.pin p hp
   exact⟨(hs.2 p.1 ne).trans e,n,ne,nf,d⟩
 ·have hfn:X.fn x=true:=by
   rcases hf with z | z
   ·exact z
   ·rw[z] at hk;cases hk
  obtain⟨c,hc⟩:=I.ok.has x (.inl hk)
  obtain⟨w',z⟩:=I.cell x c hc
  refine wpAny_storeName_cell I.ok.kind hk hc z (λh' V2 hs=>?_)
  obtain⟨oc,hoc,hocd⟩:=id z
  refine h {s with heap:=h'} ⟨I.ok,I.os,I.bare,⟨λb o e n hb hx=>?_,λb o e n hb hx=>?_,I.base.free,λb o e hx=>?_,I.base.Sk,I.base.Sf,I.base.Sl⟩,⟨m,hn.sameBut hs (NN (U4 x c hc)),λj y v' e1 e2 e3=>?_⟩,λy c' e=>?_,I.free,I.RK,λp hp=>?_,tracked ⟨oc,hoc,I.RK x c hc⟩ hs,by simpa using I.len⟩ ⟨c,hs,.inr hc⟩
  ·exact(hs.2 b (Nt (Nq (Qa e) (I.ok.Wb x c hfn hc)))).trans (I.base.keep b o e n hb hx)
  ·obtain⟨sl,e1⟩:=I.base.slot b o e n hb hx
   exact⟨sl,(hs.2 b (Nt (Nq (Qa e) (I.ok.Wb x c hfn hc)))).trans e1⟩
  ·obtain⟨o',e1⟩:=I.base.there b o e hx
   exact⟨o',(hs.2 b (Nt (Nq (Qa e) (I.ok.Wb x c hfn hc)))).trans e1⟩
  ·by_cases hj:j=i
   ·subst hj
    rw[hi] at e1;cases e1
    rw[LZ hiσ] at e2
    cases e2
    exact⟨u,r,.inr ⟨.inl hk,c,hc,V2⟩⟩
   ·rw[Mf (NN hj)] at e2
    obtain⟨u',r',q⟩:=hl j y v' e1 e2 e3
    refine⟨u',r',?_⟩
    rcases q with q | ⟨k,c',e,z'⟩
    ·exact .inl q
    ·refine .inr ⟨k,c',e,z'.sameBut hs ?_⟩
     rintro rfl
     exact hj (qA hN e1 (I.ok.inj _ _ _ e hc▸hi))
  ·by_cases Ur:c'=c
   ·subst Ur;exact⟨_,V2⟩
   ·obtain⟨w2,z2⟩:=I.cell y c' e
    exact⟨w2,z2.sameBut hs Ur⟩
  ·obtain⟨e,n,ne,nf,d⟩:=I.pin p hp
   refine⟨(hs.2 p.1 ?_).trans e,n,ne,nf,d⟩
   intro q
   rw[q,hoc] at e
   have q':oc=p.2:=Option.some.inj e
   exact d w' (by rw[← q'];exact hocd)
theorem mS {M:Model}{A:Od}{E:Value->N5->Prop}{v:V}{u:Value}{Q:Unit->N5->Prop}(I:Inv X QW σ H s)(hN:X.N.Nodup)(hi:X.N[i]?=some x)(hx:Loc X.env.scope x)(r:RelV v u)
 (h:∀s',Inv X QW (σ.set i (some v)) H s'->Q () s') (hf:X.fn x=true∨X.env.scope.names.lookup x=some .local:=by first | exact .inl rfl | exact .inr rfl | assumption):wpAny M A (storeName X.env x u) Q E s:=
 pT I hN hi hx r (λs' I' _=>h s' I') hf
theorem Inv.IT {s':N5}(I:Inv X QW σ H s)(ho:s'.os=s.os)(u:Un (jQ X.stack) ch H H' s.heap s'.heap)(Q3:dv X.prog X.w H' s'.heap)(hg:N2 s'.gens)
 (Tf:∀b∈ch,(b∈X.ex∨X.s₀.heap.objs.size<=b)/\b≠X.env.locals/\(∀x c,X.env.cells.lookup x=some c->c≠b)/\∀p∈X.pn++QW,p.1≠b):Inv X QW σ H' s':=by
 obtain⟨h',g',d',t',o'⟩:=s'
 have e:o'=s.os:=ho
 subst e
 exact I.call (g':=g') (t':=t') (d':=d') u Q3 hg Tf
end
abbrev XK:=Value->Option Addr->Hp->Prop
abbrev St:=List (Option V)
abbrev VK:=V->Hp->Prop
abbrev TE:=St->Hp->VK->Prop
abbrev TT:=St->Hp->(Bool->Hp->Prop)->Prop
abbrev TA:=St->Hp->(List V->Hp->Prop)->Prop
structure Ends where
 nx:St->Hp->Prop
 rt:VK
 bk:St->Hp->Prop:=λ_ _=>False
 ct:St->Hp->Prop:=λ_ _=>False
abbrev TS:=Ends->St->Hp->Prop
def EP (X:Cx)(QW:Lg)(σ:St)(Q:VK)(u:Value)(s':N5):Prop:=∃v H',Inv X QW σ H' s'/\RelV v u/\Q v H'
def TP (X:Cx)(QW:Lg)(σ:St)(Q:Bool->Hp->Prop)(b:Bool)(s':N5):Prop:=∃H',Inv X QW σ H' s'/\Q b H'
def AP (X:Cx)(QW:Lg)(σ:St)(Q:List V->Hp->Prop)(us:Ll)(s':N5):Prop:=∃vs H',Inv X QW σ H' s'/\Vals vs us/\Q vs H'
def SP (X:Cx)(QW:Lg)(D:Ends)(f:Flow)(s':N5):Prop:=
 match f with
 | .next=>∃σ' H',Inv X QW σ' H' s'/\D.nx σ' H'
 | .brk=>∃σ' H',Inv X QW σ' H' s'/\D.bk σ' H'
 | .cont=>∃σ' H',Inv X QW σ' H' s'/\D.ct σ' H'
 | .ret u=>∃v σ' H',Inv X QW σ' H' s'/\RelV v u/\D.rt v H'
def PE (X:Cx)(e:Expr)(t:TE):Prop:=
 ∀(QW:Lg) (s:N5) (σ:St) (H:Hp) (Q:VK),Inv X QW σ H s->t σ H Q->wpAny (model X.prog X.w) X.A (eval e X.env) (EP X QW σ Q) X.xe s
def PT (X:Cx)(e:Expr)(t:TT):Prop:=
 ∀(QW:Lg) (s:N5) (σ:St) (H:Hp) (Q:Bool->Hp->Prop),Inv X QW σ H s->t σ H Q->wpAny (model X.prog X.w) X.A (OQ e X.env (eval e X.env)) (TP X QW σ Q) X.xe s
def PW (X:Cx)(e:Expr)(t:TT):Prop:=
 ∀(whole:Sem Value) (QW:Lg) (s:N5) (σ:St) (H:Hp) (Q:Bool->Hp->Prop),Inv X QW σ H s->t σ H Q->wpAny (model X.prog X.w) X.A (OQ e X.env whole) (TP X QW σ Q) X.xe s
theorem PW.pt {X:Cx}{e:Expr}{t:TT}(h:PW X e t):PT X e t:=h _
def PA (X:Cx)(es:Lm)(t:TA):Prop:=
 ∀(pos:Pos) (QW:Lg) (s:N5) (σ:St) (H:Hp) (Q:List V->Hp->Prop),Inv X QW σ H s->t σ H Q->wpAny (model X.prog X.w) X.A (spliced (Oe pos (N8 es X.env))) (AP X QW σ Q) X.xe s
def PS (X:Cx)(st:Stmt)(t:TS):Prop:=
 ∀(QW:Lg) (s:N5) (σ:St) (H:Hp) (D:Ends),Inv X QW σ H s->t D σ H->wpAny (model X.prog X.w) X.A (exec st X.env) (SP X QW D) X.xe s
def i5 (X:Cx)(st:List Stmt)(t:TS):Prop:=
 ∀(QW:Lg) (s:N5) (σ:St) (H:Hp) (D:Ends),Inv X QW σ H s->t D σ H->wpAny (model X.prog X.w) X.A (execs st X.env) (SP X QW D) X.xe s
theorem aL {α:Type}{t:Sem α}{Q Q':α->N5->Prop}{M:Model}{A:Od}{E:Value->N5->Prop}{s:N5}(h:wpAny M A t Q E s)(hQ:∀a s,Q a s->Q' a s):wpAny M A t Q' E s:=Oo h hQ λ_ _ x=>x
section
variable {X:Cx}
def Kx (i:Nat):TE:=λσ H Q=>∃v,σ[i]?=some (some v)/\Q v H
def tC (v:V):TE:=λ_ H Q=>Q v H
theorem bp {i:Nat}{x:Str}{pos:Pos}(hN:X.N[i]?=some x)(hv:cG X.env.scope x)(hd:Rh x:=by decide)(Q4:RG x:=by decide):PE X (.Name x pos) (Kx i):=by
 intro QW s σ H Q I h
 obtain⟨v,e,h⟩:=h
 obtain⟨m,hn,hl⟩:=I.loc
 obtain⟨u,r,l⟩:=hl i x v hN e hv
 have fin:EP X QW σ Q u s:=⟨v,H,I,r,h⟩
 rcases l with⟨hk,hm⟩ | ⟨hk,c,hc,Sq⟩
 ·exact wpAny_Name (wpAny_loadName_local I.ok.kind hk hn hm fin) hd
 ·rcases hk with hk | hk
  ·exact wpAny_Name (wpAny_loadName_cell I.ok.kind hk hc Sq fin) hd
  ·exact wpAny_Name (wpAny_loadName_free I.ok.kind hk hc Sq fin Q4) hd
theorem yd {i j pos}:PE X (.Constant (.int i) j pos) (tC (.int i)):=λ_ _ _ H _ I h=>wpAny_Constant_int ⟨.int i,H,I.tok _,⟨_,rfl⟩,h⟩
theorem vm {b j pos}:PE X (.Constant (.bool b) j pos) (tC (.bl b)):=λ_ _ _ H _ I h=>Constant_bool ⟨.bl b,H,I,rfl,h⟩
theorem EW {x j pos}:PE X (.Constant (.str x) j pos) (tC (.str x)):=λ_ _ _ H _ I h=>Calls.Constant_str ⟨.str x,H,I.tok _,⟨_,rfl⟩,h⟩
def Gl (X:Cx)(x:Str):Prop:=X.env.kindOf x=some .globalImplicit
theorem oT {E:Value->N5->Prop}{QW:Lg}{s:N5}{σ:St}{H:Hp}{x:Str}{u:Value}{pos:Pos}{Q:Value->N5->Prop}(I:Inv X QW σ H s)(hg:Gl X x)(hm:X.mg x=some u)(h:Q u s)
 (hd:Rh x:=by decide):wpAny (model X.prog X.w) X.A (eval (.Name x pos) X.env) Q E s:=
 Calls.Name_function_global I.ok.kind hg (Calls.loadGlobal_global (by rw[I.ok.glob];exact I.mod.glob.keeps I.bk) hm h) hd
theorem fI {E:Value->N5->Prop}{QW:Lg}{s:N5}{σ:St}{H:Hp}{x:Str}{u:Value}{pos:Pos}{Q:Value->N5->Prop}(I:Inv X QW σ H s)(hg:Gl X x)(hm:X.mg x=none)(hv:OB x=some u)(h:Q u s)
 (hn:x≠"__name__":=by decide) (hd:Rh x:=by decide):wpAny (model X.prog X.w) X.A (eval (.Name x pos) X.env) Q E s:=by
 obtain⟨mb,h1,h2⟩:=I.mod.blt
 exact Calls.Name_function_global I.ok.kind hg (Calls.loadGlobal_builtin (by rw[I.ok.glob];exact I.mod.glob.keeps I.bk) hm (by rw[I.ok.blt];exact h1.keeps I.bk) ((h2 x hn).trans hv) h) hd
theorem gM {x:Str}{v:V}{u:Value}{pos:Pos}(hg:Gl X x)(hm:X.mg x=some u)(r:RelV v u)(hd:Rh x:=by decide):PE X (.Name x pos) (tC v):=
 λ_ _ _ H _ I h=>oT I hg hm ⟨v,H,I,r,h⟩ hd
theorem DA {x:Str}{v:V}{u:Value}{pos:Pos}(hg:Gl X x)(hm:X.mg x=none)(hv:OB x=some u)(r:RelV v u)(hn:x≠"__name__":=by decide)(hd:Rh x:=by decide):PE X (.Name x pos) (tC v):=
 λ_ _ _ H _ I h=>fI I hg hm hv ⟨v,H,I,r,h⟩ hn hd
variable {a b:Expr}{ta tb:TE}{pos:Pos}
def PC (X:Cx)(op:CmpOp)(a b:Expr)(t:TE):Prop:=
 ∀(QW:Lg) (s:N5) (σ:St) (H:Hp) (Q:VK),Inv X QW σ H s->t σ H Q->
  wpAny (model X.prog X.w) X.A (eval a X.env) (λv s₁=>wpAny (model X.prog X.w) X.A (eval b X.env) (λu s₂=>wpAny (model X.prog X.w) X.A (Oj op v u) (EP X QW σ Q) X.xe s₂) X.xe s₁) X.xe s
def tB (t:TE):TT:=λσ H Q=>t σ H λx H1=>∃c,x= .bl c/\Q c H1
theorem kS {op:CmpOp}{t:TE}(h:PC X op a b t)(h1:OE op b=false:=by first | exact Vq _ (by decide) (by decide) | rfl):PT X (.Compare a [op] [b] pos) (tB t):=by
 intro QW s σ H Q I hw
 refine wpAny_isTrue_Compare1 (aL (h QW s σ H _ I hw) λv s1 h1=>aL h1 λu s2 h2=>aL h2 λc s3 ⟨x,H1,I1,r1,q1⟩=>?_) h1
 obtain⟨d,rfl,q⟩:=q1
 cases r1
 exact Oh ⟨H1,I1,q⟩
theorem EO {e:Expr}{t:TE}(h:PE X e t)(he:∀whole,OQ e X.env whole=(do let v ← whole;O4 e.pos;OF [v] (truthy v)):=by intro _;rfl):PT X e (tB t):=by
 intro QW s σ H Q I hw
 refine isTrue_plain (aL (h QW s σ H _ I hw) λv s1 ⟨x,H1,I1,r1,q1⟩=>?_) (he _)
 obtain⟨d,rfl,q⟩:=q1
 cases r1
 exact Oh ⟨H1,I1,q⟩
variable {tA tB':TT}{rest:Lm}
def KO (t u:TT):TT:=λσ H Q=>t σ H λc H1=>if c=true then u σ H1 Q else Q false H1
def tOr (t u:TT):TT:=λσ H Q=>t σ H λc H1=>if c=true then Q true H1 else u σ H1 Q
def Kz (t:TT):TT:=λσ H Q=>t σ H λc H1=>Q (!c) H1
theorem Cc (ha:PT X a tA):PW X (.BoolOp .And [a] pos) tA:=by
 intro wh QW s σ H Q I h
 refine isTrue_and (aL (ha QW s σ H Q I h) λc s1 e=>?_)
 cases c with
 | true=>exact isTrue_and_nil e
 | false=>exact e
theorem F6 (ha:PT X a tA):PW X (.BoolOp .Or [a] pos) tA:=by
 intro wh QW s σ H Q I h
 refine isTrue_or (aL (ha QW s σ H Q I h) λc s1 e=>?_)
 cases c with
 | false=>exact isTrue_or_nil e
 | true=>exact e
theorem DQ (ha:PT X a tA)(hb:PW X (.BoolOp .And (b::rest) pos) tB'):PW X (.BoolOp .And (a::b::rest) pos) (KO tA tB'):=by
 intro wh QW s σ H Q I h
 refine isTrue_and (aL (ha QW s σ H _ I h) λc s1 ⟨H1,I1,q1⟩=>?_)
 cases c with
 | true=>exact hb wh QW s1 σ H1 Q I1 q1
 | false=>exact⟨H1,I1,q1⟩
theorem Ig (ha:PT X a tA)(hb:PW X (.BoolOp .Or (b::rest) pos) tB'):PW X (.BoolOp .Or (a::b::rest) pos) (tOr tA tB'):=by
 intro wh QW s σ H Q I h
 refine isTrue_or (aL (ha QW s σ H _ I h) λc s1 ⟨H1,I1,q1⟩=>?_)
 cases c with
 | true=>exact⟨H1,I1,q1⟩
 | false=>exact hb wh QW s1 σ H1 Q I1 q1
theorem Hf (ha:PT X a tA):PT X (.UnaryOp .Not a pos) (Kz tA):=by
 intro QW s σ H Q I h
 exact isTrue_not (ha QW s σ H (λc H1=>Q (!c) H1) I h)
def ID (ta tb:TE):TE:=λσ H Q=>ta σ H λx H1=>∃c,x= .bl c/\if c=true then tb σ H1 Q else Q (.bl false) H1
def KJ (ta tb:TE):TE:=λσ H Q=>ta σ H λx H1=>∃c,x= .bl c/\if c=true then Q (.bl true) H1 else tb σ H1 Q
def HZ (ta:TE):TE:=λσ H Q=>ta σ H λx H1=>∃c,x= .bl c/\Q (.bl (!c)) H1
theorem Fn {op}{t:TE}(h:PE X a t):PE X (.BoolOp op [a] pos) t:=λQW s σ H Q I hw=>BoolOp_one (h QW s σ H Q I hw)
theorem Gp (ha:PE X a ta)(hb:PE X (.BoolOp .And (b::rest) pos) tb):PE X (.BoolOp .And (a::b::rest) pos) (ID ta tb):=by
 intro QW s σ H Q I h
 refine BoolOp_and (aL (ha QW s σ H _ I h) λv s1 ⟨x,H1,I1,r1,q1⟩=>?_)
 obtain⟨c,rfl,q1⟩:=q1
 cases r1
 refine Oh ?_
 cases c with
 | true=>exact hb QW s1 σ H1 Q I1 q1
 | false=>exact⟨.bl false,H1,I1,rfl,q1⟩
theorem HK (ha:PE X a ta)(hb:PE X (.BoolOp .Or (b::rest) pos) tb):PE X (.BoolOp .Or (a::b::rest) pos) (KJ ta tb):=by
 intro QW s σ H Q I h
 refine BoolOp_or (aL (ha QW s σ H _ I h) λv s1 ⟨x,H1,I1,r1,q1⟩=>?_)
 obtain⟨c,rfl,q1⟩:=q1
 cases r1
 refine Oh ?_
 cases c with
 | false=>exact hb QW s1 σ H1 Q I1 q1
 | true=>exact⟨.bl true,H1,I1,rfl,q1⟩
theorem Gh (ha:PE X a ta):PE X (.UnaryOp .Not a pos) (HZ ta):=by
 intro QW s σ H Q I h
 refine UnaryOp_ (aL (ha QW s σ H _ I h) λv s1 ⟨x,H1,I1,r1,q1⟩=>?_)
 obtain⟨c,rfl,q1⟩:=q1
 cases r1
 exact not_of (Oh ⟨.bl (!c),H1,I1,rfl,q1⟩)
def tIf (t:TT)(ta tb:TE):TE:=λσ H Q=>t σ H λc H1=>if c=true then ta σ H1 Q else tb σ H1 Q
theorem zD {c:Expr}(hc:PT X c tA)(ha:PE X a ta)(hb:PE X b tb):PE X (.IfExp c a b pos) (tIf tA ta tb):=by
 intro QW s σ H Q I h
 refine wpAny_IfExp (aL (hc QW s σ H _ I h) λd s1 ⟨H1,I1,q1⟩=>?_)
 cases d with
 | true=>exact ha QW s1 σ H1 Q I1 q1
 | false=>exact hb QW s1 σ H1 Q I1 q1
end
def aT (K:QA)(H:Hp)(a:Addr)(xs:List V):Prop:=
 Rd H a (.lst xs)∨
  ∃(o:Obj) (QX:Array Value) (n:Nat),K.lookup a=some o/\o.cls= .type "list"/\o.dict=none/\o.data= .seq QX n/\QX.size<=N7/\Vals xs QX.toList
def de (K:QA)(H:Hp)(a:Addr)(xs:List V):Prop:=
 Rd H a (.tup xs)∨
  ∃(o:Obj) (QX:Array Value) (n:Nat),K.lookup a=some o/\o.cls= .type "tuple"/\o.data= .seq QX n/\QX.size<=N7/\Vals xs QX.toList
def Km:Value->Option V
 | .none=>some .Rf
 | .bool b=>some (.bl b)
 | .int i _=>some (.int i)
 | .str x _=>some (.str x)
 | .bytes b _=>some (.S8 b)
 | .float b _=>some (.U2 b)
 | .ref a=>some (.ref a)
 | .type n=>some (.ty n)
 | _=>none
theorem RelV.abs {x:V}{u:Value}(r:RelV x u):Km u=some x:=by
 cases x with
 | Rf=>cases r;rfl
 | bl _=>cases r;rfl
 | int _=>obtain⟨t,rfl⟩:=r;rfl
 | str _=>obtain⟨t,rfl⟩:=r;rfl
 | S8 _=>obtain⟨t,rfl⟩:=r;rfl
 | U2 _=>obtain⟨t,rfl⟩:=r;rfl
 | ref _=>cases r;rfl
 | ty _=>cases r;rfl
theorem RelV.inj {x y:V}{u:Value}(r:RelV x u)(q:RelV y u):x=y:=Option.some.inj (r.abs.symm.trans q.abs)
theorem Vals.inj:∀{xs ys:List V} {us:Ll},Vals xs us->Vals ys us->xs=ys
 | _,_,_,.nil,.nil=>rfl
 | _,_,_,.cons r t,.cons r' t'=>by rw[r.inj r',Vals.inj t t']
section
variable {X:Cx}{QW:Lg}{σ:St}{H:Hp}{s:N5}{a:Addr}{xs ys:List V}
theorem aT.of {K:QA}(h:H a=some (.lst xs)):aT K H a xs:=.inl (.inl h)
theorem de.of {K:QA}(h:H a=some (.tup xs)):de K H a xs:=.inl (.inl h)
theorem Inv.list (I:Inv X QW σ H s)(h:aT X.K H a xs):∃QX:Ll,Vals xs QX/\PlainL s.heap a QX.toArray/\xs.length<=N7:=by
 rcases h with h | ⟨o,QX,n,hk,hc,hd,hs,hz,r⟩
 ·obtain⟨z,QX,n,r,e⟩:=h.ok I.Q3
  exact⟨QX,r,⟨_,n,e,rfl,rfl,rfl⟩,z⟩
 ·refine⟨QX.toList,r,⟨o,n,I.eJ a o hk,hc,hd,by simpa using hs⟩,?_⟩
  have e:=r.length
  simp only[Lo] at e
  omega
theorem Inv.tuple (I:Inv X QW σ H s)(h:de X.K H a xs):∃QX:Ll,Vals xs QX/\IsTup s.heap a QX.toArray/\xs.length<=N7:=by
 rcases h with h | ⟨o,QX,n,hk,hc,hs,hz,r⟩
 ·obtain⟨z,QX,r,p⟩:=h.ok I.Q3
  exact⟨QX,r,p,z⟩
 ·refine⟨QX.toList,r,⟨o,I.eJ a o hk,hc,n,by simpa using hs⟩,?_⟩
  have e:=r.length
  simp only[Lo] at e
  omega
theorem Inv.gI (I:Inv X QW σ H s)(h:aT X.K H a xs)(h':aT X.K H a ys):xs=ys:=by
 obtain⟨QX,r,⟨o,n,e,_,_,d⟩,_⟩:=I.list h
 obtain⟨its',r',⟨o',n',e',_,_,d'⟩,_⟩:=I.list h'
 rw[e] at e';cases e'
 rw[d] at d'
 injection d' with d1 _
 have:QX=its':=by simpa using congrArg Array.toList d1
 subst this
 exact r.inj r'
theorem Inv.pN (I:Inv X QW σ H s)(h:de X.K H a xs)(h':de X.K H a ys):xs=ys:=by
 obtain⟨QX,r,⟨o,e,_,n,d⟩,_⟩:=I.tuple h
 obtain⟨its',r',⟨o',e',_,n',d'⟩,_⟩:=I.tuple h'
 rw[e] at e';cases e'
 rw[d] at d'
 injection d' with d1 _
 have:QX=its':=by simpa using congrArg Array.toList d1
 subst this
 exact r.inj r'
end
abbrev Cx.jC (X:Cx)(E:Value->N5->Prop):Cx:={X with xe:=E}
abbrev Cx.js (X:Cx):Cx:=X.jC λ_ _=>False
theorem Cx.Ok.jC {X:Cx}(ok:X.Ok)(E:Value->N5->Prop):(X.jC E).Ok:=
 ⟨ok.mod,ok.kind,ok.glob,ok.blt,ok.above,ok.inj,ok.has,ok.Wb,ok.hd,ok.frames,ok.stk,ok.exf,ok.bs,ok.Ua,ok.Tg,ok.Td,ok.Sa,ok.U1⟩
theorem Cx.Ok.ib {X:Cx}{E:Value->N5->Prop}(ok:(X.jC E).Ok):X.Ok:=
 ⟨ok.mod,ok.kind,ok.glob,ok.blt,ok.above,ok.inj,ok.has,ok.Wb,ok.hd,ok.frames,ok.stk,ok.exf,ok.bs,ok.Ua,ok.Tg,ok.Td,ok.Sa,ok.U1⟩
section
variable {X:Cx}{QW:Lg}{σ:St}{H:Hp}{s:N5}{E:Value->N5->Prop}
theorem Inv.jC (I:Inv X QW σ H s)(E:Value->N5->Prop):Inv (X.jC E) QW σ H s:=⟨I.ok.jC E,I.os,I.bare,I.base,I.loc,I.cell,I.free,I.RK,I.pin,I.Q3,I.len⟩
theorem Inv.ib (I:Inv (X.jC E) QW σ H s):Inv X QW σ H s:=⟨I.ok.ib,I.os,I.bare,I.base,I.loc,I.cell,I.free,I.RK,I.pin,I.Q3,I.len⟩
theorem SP.ib {D:Ends}{f:Flow}{s':N5}(h:SP (X.jC E) QW D f s'):SP X QW D f s':=by
 cases f with
 | next=>obtain⟨σ',H',I,q⟩:=h;exact⟨σ',H',I.ib,q⟩
 | brk=>obtain⟨σ',H',I,q⟩:=h;exact⟨σ',H',I.ib,q⟩
 | cont=>obtain⟨σ',H',I,q⟩:=h;exact⟨σ',H',I.ib,q⟩
 | ret u=>obtain⟨v,σ',H',I,r,q⟩:=h;exact⟨v,σ',H',I.ib,r,q⟩
theorem i5.js {st:List Stmt}{t:TS}(h:i5 X.js st t):i5 X st t:=λQW s σ H D I hw=>
 Oo (h QW s σ H D (I.jC _) hw) (λ_ _ q=>q.ib) λ_ _ z=>Lw z
end
section
variable {X:Cx}{st:Stmt}{rest:List Stmt}{t u:TS}{e:Expr}{te:TE}{pos:Pos}
def Jp:TS:=λD σ H=>D.nx σ H
def La (t u:TS):TS:=λD σ H=>t {D with nx:=u D} σ H
theorem Cv:i5 X [] Jp:=λ_ _ σ H _ I h=>OX ⟨σ,H,I,h⟩
theorem Au (h1:PS X st t)(h2:i5 X rest u):i5 X (st::rest) (La t u):=by
 intro QW s σ H D I h
 refine wpAny_execs_cons (aL (h1 QW s σ H {D with nx:=u D} I h) λf s1 q=>?_)
 cases f with
 | next=>
   obtain⟨σ',H',I',q⟩:=q
   exact h2 QW s1 σ' H' D I' q
 | ret v=>exact q
 | brk=>exact q
 | cont=>exact q
theorem Cg (h1:PS X st t):i5 X [st] t:=by
 intro QW s σ H D I h
 refine wpAny_execs_cons (aL (h1 QW s σ H D I h) λf s1 q=>?_)
 cases f with
 | next=>exact OX q
 | ret v=>exact q
 | brk=>exact q
 | cont=>exact q
theorem Inv.quiet {QW:Lg}{σ:St}{H:Hp}{s:N5}(I:Inv X QW σ H s):interactive X.env=false:=by simp[interactive,I.ok.kind]
def Hj (te:TE):TS:=λD σ H=>te σ H λ_ H1=>D.nx σ H1
theorem fZ (he:PE X e te)(hs:Of e none pos.line X.env=pure false:=by rfl):PS X (.Expr e pos) (Hj te):=by
 intro QW s σ H D I h
 exact wpAny_Expr_any (aL (he QW s σ H _ I h) λv s1 ⟨x,H1,I1,r1,q1⟩=>⟨σ,H1,I1,q1⟩) I.quiet hs
def Kq (te:TE):TS:=λD σ H=>te σ H D.rt
theorem ic (he:PE X e te):PS X (.Return (some e) pos) (Kq te):=by
 intro QW s σ H D I h
 exact wpAny_Return_some (aL (he QW s σ H _ I h) λv s1 ⟨x,H1,I1,r1,q1⟩=>⟨x,σ,H1,I1,r1,q1⟩)
def Kn (c:TT)(t u:TS):TS:=λD σ H=>c σ H λb H1=>if b=true then t D σ H1 else u D σ H1
theorem IQ {c:Expr}{a b:List Stmt}{tc:TT}(hc:PT X c tc)(ha:i5 X a t)(hb:i5 X b u):PS X (.If c a b pos) (Kn tc t u):=by
 intro QW s σ H D I h
 refine wpAny_If (aL (hc QW s σ H _ I h) λd s1 ⟨H1,I1,q1⟩=>?_)
 cases d with
 | true=>exact ha QW s1 σ H1 D I1 q1
 | false=>exact hb QW s1 σ H1 D I1 q1
end
abbrev TG:=V->St->Hp->(St->Hp->Prop)->Prop
abbrev qO:=List V->St->Hp->(St->Hp->Prop)->Prop
def PG (X:Cx)(target:Expr)(t:TG):Prop:=
 ∀(QW:Lg) (s:N5) (σ:St) (H:Hp) (v:V) (u:Value) (Q:St->Hp->Prop),Inv X QW σ H s->RelV v u->t v σ H Q->
  wpAny (model X.prog X.w) X.A (OL target X.env u) (λ_ s'=>∃σ' H',Inv X QW σ' H' s'/\Q σ' H') X.xe s
def A7 (X:Cx)(ts:Lm)(t:qO):Prop:=
 ∀(QW:Lg) (s:N5) (σ:St) (H:Hp) (vs:List V) (us:Ll) (Q:St->Hp->Prop),Inv X QW σ H s->Vals vs us->t vs σ H Q->
  wpAny (model X.prog X.w) X.A (assignInOrder ((OK ts X.env).map (·.2)) us) (λ_ s'=>∃σ' H',Inv X QW σ' H' s'/\Q σ' H') X.xe s
abbrev z4:=V->V->V->Hp->(Hp->Prop)->Prop
def DV (X:Cx)(t:z4):Prop:=
 ∀(QW:Lg) (s:N5) (σ:St) (H:Hp) (o i v:V) (ov iv u:Value) (Q:Hp->Prop),Inv X QW σ H s->RelV o ov->RelV i iv->RelV v u->t o i v H Q->
  wpAny (model X.prog X.w) X.A (setItem ov iv u) (λ_ s'=>∃H',Inv X QW σ H' s'/\Q H') X.xe s
abbrev AG:=V->V->Hp->VK->Prop
def Kg (X:Cx)(op:Operator)(t:AG):Prop:=
 ∀(QW:Lg) (s:N5) (σ:St) (H:Hp) (x y:V) (v u:Value) (Q:VK),Inv X QW σ H s->RelV x v->RelV y u->t x y H Q->
  wpAny (model X.prog X.w) X.A (inplaceOp op v u) (EP X QW σ Q) X.xe s
section
variable {X:Cx}{pos:Pos}
variable {e:Expr}{i:Nat}{x:Str}{te:TE}
def vq (i:Nat):TG:=λv σ H Q=>Q (σ.set i (some v)) H
theorem jU (hN:X.N.Nodup)(hi:X.N[i]?=some x)(hx:Loc X.env.scope x)(hf:X.fn x=true∨X.env.scope.names.lookup x=some .local:=by first | exact .inl rfl | exact .inr rfl | assumption):PG X (.Name x pos) (vq i):=by
 intro QW s σ H v u Q I r h
 exact wpAny_assign_Name (mS I hN hi hx r (λs' I'=>⟨_,H,I',h⟩) hf)
def Ku:qO:=λvs σ H Q=>vs=[]/\Q σ H
def IG (t:TG)(u:qO):qO:=λvs σ H Q=>∃v r,vs=v::r/\t v σ H λσ' H'=>u r σ' H' Q
theorem uH:A7 X [] Ku:=by
 intro QW s σ H vs us Q I r h
 obtain⟨e,h⟩:=h
 subst e
 cases r
 exact assignInOrder_nil ⟨σ,H,I,h⟩
theorem j8 {es:Lm}{t:TG}{u:qO}(h1:PG X e t)(h2:A7 X es u)
 (hs:(OK (e::es) X.env).map (·.2)=OL e X.env::(OK es X.env).map (·.2):=by rfl):A7 X (e::es) (IG t u):=by
 intro QW s σ H vs us Q I r h
 obtain⟨v,vr,e1,h⟩:=h
 subst e1
 cases r with
 | cons r rr=>
   rw[hs]
   refine assignInOrder_cons (aL (h1 QW s σ H _ _ _ I r h) λ_ s1 ⟨σ1,H1,I1,q1⟩=>?_)
   exact h2 QW s1 σ1 H1 _ _ Q I1 rr q1
def KC (K:QA)(n:Nat)(t:qO):TG:=λv σ H Q=>∃a xs,v= .ref a/\de K H a xs/\xs.length=n/\t xs σ H Q
theorem w8 {es:Lm}{k:Nat}{t:qO}{n:Nat}(hc:X.calm=true)(h:A7 X es t)
 (hn:(OK es X.env).length=n:=by rfl) (hst:(OK es X.env).findIdx? (·.1)=none:=by rfl):PG X (.Tuple es k pos) (KC X.K n t):=by
 intro QW s σ H v u Q I r hw
 obtain⟨a,xs,e1,hq,hl,hw⟩:=hw
 subst e1
 cases r
 obtain⟨QX,rv,ht,hz⟩:=I.tuple hq
 refine assign_Tuple_tuple (I.ok.hd hc) ht (by simp[hn,← hl,rv.length]) hst λh' hx=>?_
 have I1:Inv X QW σ H {s with heap:=h'}:=I.kept (t':=s.toks) λb o e=>hx b o (Nt (Qa e)) e
 exact h QW _ σ H xs _ Q I1 (by simpa using rv) hw
def KL (to ti:TE)(t:z4):TG:=λv σ H Q=>to σ H λo H1=>ti σ H1 λi H2=>t o i v H2 λH3=>Q σ H3
theorem yb {o i:Expr}{to ti:TE}{t:z4}(ho:PE X o to)(hi:PE X i ti)(hs:DV X t)
 (ha:∀v,OL (.Subscript o i pos) X.env v=(do
  let ov ← OF [v] (eval o X.env)
  let iv ← OF [v,ov] (eval i X.env)
  O4 pos
  OF [v,ov,iv] (setItem ov iv v)
  release [v,ov,iv] []):=by intro _;rfl):PG X (.Subscript o i pos) (KL to ti t):=by
 intro QW s σ H v u Q I r h
 rw[ha]
 refine N6 (OO (aL (ho QW s σ H _ I h) λov s1 ⟨x,H1,I1,r1,q1⟩=>?_))
 refine N6 (OO (aL (hi QW s1 σ H1 _ I1 q1) λiv s2 ⟨y,H2,I2,r2,q2⟩=>?_))
 refine N6 (Pu (N6 (OO (aL (hs QW s2 σ H2 x y v ov iv u _ I2 r1 r2 r q2) λ_ s3 ⟨H3,I3,q3⟩=>?_))))
 exact wpAny_release ⟨σ,H3,I3,q3⟩
def zF (te:TE)(g:TG):TS:=λD σ H=>te σ H λx H1=>g x σ H1 D.nx
theorem tH {tg:Expr}{g:TG}(he:PE X e te)(hg:PG X tg g)(hs:O7 [tg] e pos.line X.env=pure false:=by rfl)(hw:O8 [tg] e X.env=pure none:=by rfl)
 (h1:(OK [tg] X.env).map (·.2)=[OL tg X.env]:=by rfl):PS X (.Assign [tg] e pos) (zF te g):=by
 intro QW s σ H D I h
 refine wpAny_Assign_stores (aL (he QW s σ H _ I h) λv s1 ⟨x,H1,I1,r1,q1⟩=>?_) hs hw
 rw[h1]
 exact aL (hg QW s1 σ H1 x v _ I1 r1 q1) λ_ s2 q=>q
theorem jI {pos':Pos}(hN:X.N.Nodup)(hi:X.N[i]?=some x)(hx:Loc X.env.scope x)(he:PE X e te)(hs:Of e (some (.Name x pos')) pos.line X.env=pure false:=by rfl)(hf:X.fn x=true∨X.env.scope.names.lookup x=some .local:=by first | exact .inl rfl | exact .inr rfl | assumption):
 PS X (.Assign [.Name x pos'] e pos) (zF te (vq i)):=by
 intro QW s σ H D I h
 refine wpAny_Assign_Name (aL (he QW s σ H _ I h) λv s1 ⟨y,H1,I1,r1,q1⟩=>?_) hs
 exact mS I1 hN hi hx r1 (λs2 I2=>⟨_,H1,I2,q1⟩) hf
def Le (i:Nat)(te:TE)(ti:AG):TS:=λD σ H=>∃x,σ[i]?=some (some x)/\te σ H λy H1=>ti x y H1 λz H2=>D.nx (σ.set i (some z)) H2
theorem GH {op:Operator}{ti:AG}{pos':Pos}(hN:X.N.Nodup)(hi:X.N[i]?=some x)(hx:Loc X.env.scope x)(he:PE X e te)(ho:Kg X op ti)(hf:X.fn x=true∨X.env.scope.names.lookup x=some .local:=by first | exact .inl rfl | exact .inr rfl | assumption):
 PS X (.AugAssign (.Name x pos') op e pos) (Le i te ti):=by
 intro QW s σ H D I h
 obtain⟨v,e1,h⟩:=h
 obtain⟨m,hn,hl⟩:=I.loc
 have vis:cG X.env.scope x:=by rcases hx with k | k;exact .inl k;exact .inr (.inl k)
 obtain⟨u,r,l⟩:=hl i x v hi e1 vis
 refine wpAny_AugAssign_Name ?_
 have go:wpAny (model X.prog X.w) X.A (eval e X.env) (λw s₂=>wpAny (model X.prog X.w) X.A (inplaceOp op u w) (λr s₃=>wpAny (model X.prog X.w) X.A (storeName X.env x r) (λ_=>SP X QW D .next) X.xe s₃) X.xe s₂) X.xe s:=by
  refine aL (he QW s σ H _ I h) λw s1 ⟨y,H1,I1,r1,q1⟩=>?_
  refine aL (ho QW s1 σ H1 v y u w _ I1 r r1 q1) λz s2 ⟨zv,H2,I2,r2,q2⟩=>?_
  exact mS I2 hN hi hx r2 (λs3 I3=>⟨_,H2,I3,q2⟩) hf
 rcases l with⟨hk,hm⟩ | ⟨hk,c,hc,Sq⟩
 ·exact wpAny_loadName_local I.ok.kind hk hn hm go
 ·rcases hk with hk | hk
  ·exact wpAny_loadName_cell I.ok.kind hk hc Sq go
  ·rcases hx with k | k
   ·have:X.env.scope.names.lookup x=some .free:=hk
    rw[k] at this;cases this
   ·have:X.env.scope.names.lookup x=some .free:=hk
    rw[k] at this;cases this
def ipI (f:Int->Int->Int):AG:=λx y H Q=>∃i j,x= .int i/\y= .int j/\Q (.int (f i j)) H
theorem Ei:Kg X .Add (ipI λi j=>i + j):=by
 intro QW s σ H x y v u Q I r1 r2 h
 obtain⟨i,j,e1,e2,q⟩:=h
 subst e1;subst e2
 obtain⟨t,rfl⟩:=r1
 obtain⟨t',rfl⟩:=r2
 exact iadd_int ⟨.int _,H,I.tok _,⟨_,rfl⟩,q⟩
end
section
variable {X:Cx}{pos:Pos}
def FL (c:TT)(tb:TS):TS:=λD σ H=>∃W:Nat->St->Hp->Prop,(∃m,W m σ H)/\∀m σ H,W m σ H->
 c σ H λb H1=>if b=true then∃N:St->Hp->Prop,(∀σ' H',N σ' H'->∃m',m' < m/\W m' σ' H')/\tb {D with nx:=N,ct:=N,bk:=D.nx} σ H1 else D.nx σ H1
theorem zX {c:Expr}{body:List Stmt}{tc:TT}{tb:TS}(hp:PassesOwn (model X.prog X.w) X.A X.env X.xe)(hc:PT X c tc)(hb:i5 X body tb):PS X (.While c body [] pos) (FL tc tb):=by
 intro QW s σ H D I h
 obtain⟨W,⟨m0,w0⟩,turn⟩:=h
 refine wpAny_While (codeAny_whileLoop (λn s'=>∃σ' H',Inv X QW σ' H' s'/\W n σ' H') ?_ m0 ⟨σ,H,I,w0⟩)
 rintro n s1 ⟨σ1,H1,I1,w1⟩
 refine OD hp (aL (hc QW s1 σ1 H1 _ I1 (turn n σ1 H1 w1)) λb s2 ⟨H2,I2,q2⟩=>?_)
 cases b with
 | true=>
   obtain⟨N,hN,q2⟩:=q2
   rw[if_pos rfl]
   refine OD hp (aL (hb QW s2 σ1 H2 _ I2 q2) λf s3 q3=>?_)
   cases f with
   | next=>
     obtain⟨σ3,H3,I3,n3⟩:=q3
     obtain⟨m',hm,w3⟩:=hN σ3 H3 n3
     exact⟨m',hm,σ3,H3,I3,w3⟩
   | cont=>
     obtain⟨σ3,H3,I3,n3⟩:=q3
     obtain⟨m',hm,w3⟩:=hN σ3 H3 n3
     exact⟨m',hm,σ3,H3,I3,w3⟩
   | brk=>exact q3
   | ret v=>exact q3
 | false=>
   rw[if_neg Lp]
   exact OX ⟨σ1,H2,I2,q2⟩
end
section
variable {tg:Expr}{P:Ob}{w:World}{K:QA}
structure It where
 go:Nat->Hp->Prop
 U5:Nat->Hp->V->Hp->Prop
 stop:Nat->Hp->Prop
def iT (X:Cx)(QW:Lg)(H:Hp)(b:Addr):Prop:=
 H b=none/\b≠X.env.locals/\b∉X.fs/\(b∈X.ex∨X.s₀.heap.objs.size<=b)/\(∀x c,X.env.cells.lookup x=some c->c≠b)/\∀p∈X.pn++QW,p.1≠b
theorem Inv.gu {X:Cx}{QW:Lg}{σ:St}{H H':Hp}{s:N5}{b:Addr}(I:Inv X QW σ H s)(hb:s.heap.objs.size<=b)(hn:H' b=none):iT X QW H' b:=by
 refine⟨hn,Nz (Nq I.lt hb),I.K2 hb,.inr (Nn I.sz hb),λx c e z=>?_,λp hp z=>?_⟩
 ·obtain⟨v,q⟩:=I.cell x c e
  exact absurd (Nq q.lt (by rw[z];exact hb)) (Nu _)
 ·exact absurd (Nq (Qa (I.pin p hp).1) (by rw[z];exact hb)) (Nu _)
structure Turn (P:Ob) (w:World) (K:QA) (tg:Expr) (J:It) (fp:Lk) (it:Addr) (tn:Nat->Heap->Prop):Prop where
 mem:it∈fp
 obj:∀i h,tn i h->∀b∈fp,∃o,h.get? b=some o/\∀v,o.data≠ .cell v
 keep:∀i h h',tn i h->(∀b∈fp,∀o,h.get? b=some o->h'.get? b=some o)->tn i h'
 item:∀(X:Cx),X.prog=P->X.w=w->X.K=K->X.calm=true->∀(i:Nat) (QW:Lg) (s:N5) (σ:St) (H:Hp) (E:Value->N5->Prop),Inv X QW σ H s->(∀b∈fp,iT X QW H b)->tn i s.heap->J.go i H->
  wpAny (model P w) X.A (Pl (.ref it)) (λr s1=>∃u,r=some u/\
   wpAny (model P w) X.A (OY tg (.ref it) u) (λ_ s2=>∃x H',Inv X QW σ H' s2/\RelV x u/\J.U5 i H x H'/\tn (i + 1) s2.heap/\∀b∈fp,H' b=none) E s1) E s
 done:∀(X:Cx),X.prog=P->X.w=w->X.K=K->X.calm=true->∀(i:Nat) (QW:Lg) (s:N5) (σ:St) (H:Hp) (E:Value->N5->Prop),Inv X QW σ H s->(∀b∈fp,iT X QW H b)->tn i s.heap->J.stop i H->
  wpAny (model P w) X.A (Pl (.ref it)) (λr s1=>r=none/\Inv X QW σ H s1) E s
 self:∀(A:Od) (i:Nat) (s:N5) (Q:Value->N5->Prop) (E:Value->N5->Prop),tn i s.heap->Q (.ref it) s->wpAny (model P w) A (pyIter (.ref it)) Q E s
abbrev TI:=St->Hp->(It->Hp->Prop)->Prop
def GY (X:Cx)(QW:Lg)(σ:St)(tg:Expr)(R:It->Hp->Prop)(itv:Value)(s2:N5):Prop:=
 ∃(it:Addr) (fp:Lk) (tn:Nat->Heap->Prop) (J:It) (H':Hp),itv= .ref it/\Inv X QW σ H' s2/\Turn X.prog X.w X.K tg J fp it tn/\tn 0 s2.heap/\(∀b∈fp,iT X QW H' b)/\R J H'
def PI (X:Cx)(tg iter:Expr)(wi:TI):Prop:=
 ∀(QW:Lg) (s:N5) (σ:St) (H:Hp) (R:It->Hp->Prop),Inv X QW σ H s->wi σ H R->
  wpAny (model X.prog X.w) X.A (eval iter X.env) (λv s1=>wpAny (model X.prog X.w) X.A (pyIter v) (GY X QW σ tg R) X.xe s1) X.xe s
theorem lT {M:Model}{A:Od}{E:Value->N5->Prop}{s:N5}{it:Addr}{u:Value}{o:Obj}{n:String}{vs:Array Value}{Q:Unit->N5->Prop}(ho:s.heap.get? it=some o)(hc:o.cls= .type n)(hd:o.data= .fields vs)
 (hn:["enumerate","zip","dict_itemiterator","dict_reverseitemiterator","odict_iterator","itertools.zip_longest","itertools.pairwise"].contains n=false) (hQ:Q () s):wpAny M A (OY tg (.ref it) u) Q E s:=by
 unfold OY
 cases tg<;>first
  | exact Oa hQ
  | (cases u<;>first
   | exact Oa hQ
   | (refine N6 (wpAny_load ho ?_)
      rw[hc,hd]
      show wpAny M A (if(["enumerate","zip","dict_itemiterator","dict_reverseitemiterator","odict_iterator","itertools.zip_longest","itertools.pairwise"].contains n&&vs[0]?==some (Pm _))=true then _ else _) Q E s
      rw[if_neg (by intro h;rw[hn,Bool.false_and] at h;cases h)]
      exact Oa hQ))
def Jw (K:QA)(a:Addr):It:=
 ⟨λi H=>∃xs x,aT K H a xs/\xs[i]?=some x,λi H x H'=>H'=H/\∀xs,aT K H a xs->xs[i]?=some x,λi H=>∃xs,aT K H a xs/\xs.length<=i⟩
def Jq (K:QA)(a:Addr):It:=
 ⟨λi H=>∃xs x,de K H a xs/\xs[i]?=some x,λi H x H'=>H'=H/\∀xs,de K H a xs->xs[i]?=some x,λi H=>∃xs,de K H a xs/\xs.length<=i⟩
def yE (lo:Int)(n:Nat):It:=⟨λi _=>i < n,λi H x H'=>H'=H/\x= .int (lo + i),λi _=>n<=i⟩
theorem xj (a it:Addr):Turn P w K tg (Jw K a) [it] it (λi h=>h.IsListIter it a i) where
 mem:=by simp
 obj:=λi h st b hb=>by
  have e:b=it:=by simpa using hb
  subst e
  obtain⟨o,e,c,d⟩:=st
  exact⟨o,e,λv z=>by rw[d] at z;cases z⟩
 keep:=λi h h' st k=>st.at λo e=>k it (by simp) o e
 item:=by
  intro X hP hw hK hc i QW s σ H E I hf st hg
  subst hP hw hK
  obtain⟨xs,x,hq,hx⟩:=hg
  obtain⟨QX,rv,p,hz⟩:=I.list hq
  obtain⟨u,hu,ru⟩:=rv.get hx
  obtain⟨f0,f1,f2,f3,f4,f5⟩:=hf it (by simp)
  refine wpAny_pyNext_list_item st p.isList (x:=u) (by simpa using hu) λh' SG sb=>?_
  have I1:Inv X QW σ H {s with heap:=h'}:=I.turned (t':=s.toks) (λb o hb e=>(sb.2 b hb).trans e) f0 f1 f3 f4 f5
  obtain⟨o,e,c,d⟩:=id SG
  exact⟨u,rfl,lT (s:={s with heap:=h'}) e c d (by decide) ⟨x,H,I1,ru,⟨rfl,λys hy=>by rw[I.gI hy hq];exact hx⟩,SG,λb hb=>(hf b hb).1⟩⟩
 done:=by
  intro X hP hw hK hc i QW s σ H E I hf st hg
  subst hP hw hK
  obtain⟨xs,hq,hx⟩:=hg
  obtain⟨QX,rv,p,hz⟩:=I.list hq
  obtain⟨f0,f1,f2,f3,f4,f5⟩:=hf it (by simp)
  have hl:=rv.length
  exact wpAny_pyNext_list_end (I.ok.hd hc) st p.isList (by simp;omega) λh' eb=>⟨rfl,I.turned (t':=s.toks) (λb o hb e=>eb b o hb e) f0 f1 f3 f4 f5⟩
 self:=λ_ _ _ _ _ st h=>wpAny_pyIter_listiter st h
theorem vB (a it:Addr):Turn P w K tg (Jq K a) [it] it (λi h=>h.IsTupleIter it a i) where
 mem:=by simp
 obj:=λi h st b hb=>by
  have e:b=it:=by simpa using hb
  subst e
  obtain⟨o,e,c,d⟩:=st
  exact⟨o,e,λv z=>by rw[d] at z;cases z⟩
 keep:=λi h h' st k=>st.at λo e=>k it (by simp) o e
 item:=by
  intro X hP hw hK hc i QW s σ H E I hf st hg
  subst hP hw hK
  obtain⟨xs,x,hq,hx⟩:=hg
  obtain⟨QX,rv,p,hz⟩:=I.tuple hq
  obtain⟨u,hu,ru⟩:=rv.get hx
  obtain⟨f0,f1,f2,f3,f4,f5⟩:=hf it (by simp)
  refine wpAny_pyNext_tuple_item st (show s.heap.IsTuple a QX.toArray from p) (x:=u) (by simpa using hu) λh' SG sb=>?_
  have I1:Inv X QW σ H {s with heap:=h'}:=I.turned (t':=s.toks) (λb o hb e=>(sb.2 b hb).trans e) f0 f1 f3 f4 f5
  obtain⟨o,e,c,d⟩:=id SG
  exact⟨u,rfl,lT (s:={s with heap:=h'}) e c d (by decide) ⟨x,H,I1,ru,⟨rfl,λys hy=>by rw[I.pN hy hq];exact hx⟩,SG,λb hb=>(hf b hb).1⟩⟩
 done:=by
  intro X hP hw hK hc i QW s σ H E I hf st hg
  subst hP hw hK
  obtain⟨xs,hq,hx⟩:=hg
  obtain⟨QX,rv,p,hz⟩:=I.tuple hq
  obtain⟨f0,f1,f2,f3,f4,f5⟩:=hf it (by simp)
  have hl:=rv.length
  exact wpAny_pyNext_tuple_end (I.ok.hd hc) st (show s.heap.IsTuple a QX.toArray from p) (by simp;omega) λh' eb=>⟨rfl,I.turned (t':=s.toks) (λb o hb e=>eb b o hb e) f0 f1 f3 f4 f5⟩
 self:=λ_ _ _ _ _ st h=>wpAny_pyIter_tupleiter st h
theorem vE (it:Addr)(lo:Int)(n:Nat):Turn P w K tg (yE lo n) [it] it (λi h=>Ph h it (lo + (i:Nat) * 1) ((n:Int) - (i:Nat)) 1) where
 mem:=by simp
 obj:=λi h st b hb=>by
  have e:b=it:=by simpa using hb
  subst e
  exact⟨_,st,λv z=>by
   have z':Data.fields _=Data.cell v:=z
   cases z'⟩
 keep:=λi h h' st k=>k it (by simp) _ st
 item:=by
  intro X hP hw hK hc i QW s σ H E I hf st hg
  subst hP hw hK
  obtain⟨f0,f1,f2,f3,f4,f5⟩:=hf it (by simp)
  have W:=Walks.range (prog:=X.prog) (w:=X.w) (I.ok.hd hc) it lo 1 n
  refine W.item i s _ _ hg st λv h' tk hv SG kk=>?_
  obtain⟨t,rfl⟩:=hv
  have I1:Inv X QW σ H {s with heap:=h',toks:=tk}:=I.turned (λb o hb e=>kk b o (by simpa using hb) e) f0 f1 f3 f4 f5
  refine⟨_,rfl,lT (s:={s with heap:=h',toks:=tk}) (n:="range_iterator") SG rfl rfl (by decide) ⟨.int (lo + i),H,I1,⟨t,?_⟩,⟨rfl,rfl⟩,SG,λb hb=>(hf b hb).1⟩⟩
  rw[Int.mul_one]
 done:=by
  intro X hP hw hK hc i QW s σ H E I hf st hg
  subst hP hw hK
  obtain⟨f0,f1,f2,f3,f4,f5⟩:=hf it (by simp)
  exact wpAny_pyNext_range_end (I.ok.hd hc) st (by have:n<=i:=hg;omega) λh' eb=>⟨rfl,I.turned (t':=s.toks) (λb o hb e=>eb b o hb e) f0 f1 f3 f4 f5⟩
 self:=λ_ _ _ _ _ st h=>wpAny_pyIter_rangeiter st h
end
section
variable {X:Cx}{tg:Expr}
variable {QW:Lg}{σ:St}{H:Hp}{s:N5}{pos:Pos}
def II (K:QA)(tl:TE):TI:=λσ H R=>tl σ H λx H1=>∃a,x= .ref a/\(∃xs,aT K H1 a xs)/\R (Jw K a) H1
def Kr (K:QA)(tl:TE):TI:=λσ H R=>tl σ H λx H1=>∃a,x= .ref a/\(∃xs,de K H1 a xs)/\R (Jq K a) H1
theorem Dk {l:Expr}{tl:TE}(hl:PE X l tl):PI X tg l (II X.K tl):=by
 intro QW s σ H R I h
 refine aL (hl QW s σ H _ I h) λv s1 ⟨x,H1,I1,r1,q1⟩=>?_
 obtain⟨a,e,⟨xs,hq⟩,q⟩:=q1
 subst e
 cases r1
 obtain⟨QX,rv,p,hz⟩:=I1.list hq
 refine OU p.isList ?_
 refine⟨s1.heap.objs.size,[s1.heap.objs.size],_,_,H1,rfl,I1.kept (t':=s1.toks) λb o e=>P9 _ e,xj a _,⟨_,Qb _ rfl,rfl,rfl⟩,λb hb=>?_,q⟩
 have e:b=s1.heap.objs.size:=by simpa using hb
 subst e
 exact I1.gu (Nm _) (I1.Q3.fresh (Nm _))
theorem D8 {l:Expr}{tl:TE}(hl:PE X l tl):PI X tg l (Kr X.K tl):=by
 intro QW s σ H R I h
 refine aL (hl QW s σ H _ I h) λv s1 ⟨x,H1,I1,r1,q1⟩=>?_
 obtain⟨a,e,⟨xs,hq⟩,q⟩:=q1
 subst e
 cases r1
 obtain⟨QX,rv,p,hz⟩:=I1.tuple hq
 refine wpAny_pyIter_tuple (show s1.heap.IsTuple a QX.toArray from p) ?_
 refine⟨s1.heap.objs.size,[s1.heap.objs.size],_,_,H1,rfl,I1.kept (t':=s1.toks) λb o e=>P9 _ e,vB a _,⟨_,Qb _ rfl,rfl,rfl⟩,λb hb=>?_,q⟩
 have e:b=s1.heap.objs.size:=by simpa using hb
 subst e
 exact I1.gu (Nm _) (I1.Q3.fresh (Nm _))
theorem rV {R:It->Hp->Prop}{E:Value->N5->Prop}{lo hi:Int}{t u v:Tok}{tk:Nat}(I:Inv X QW σ H s)(h1: -(2 ^ 62)<=lo)(h2:lo < 2 ^ 62)(h3: -(2 ^ 62)<=hi)(h4:hi < 2 ^ 62)
 (q:R (yE lo (hi - lo).toNat) H):wpAny (model X.prog X.w) X.A (pyIter (.ref s.heap.objs.size)) (GY X QW σ tg R) E {s with heap:=s.heap.push {cls:=.type "range",data:=.fields #[.int lo t,.int hi u,.int 1 v]},toks:=tk}:=by
 refine wpAny_pyIter_range (IsRange.new ..) (small_one h1 h2 h3 h4) ?_
 have I1:Inv X QW σ H {s with heap:=s.heap.push {cls:=.type "range",data:=.fields #[.int lo t,.int hi u,.int 1 v]},toks:=tk}:=I.kept λb o e=>P9 _ e
 refine⟨(s.heap.push {cls:=.type "range",data:=.fields #[.int lo t,.int hi u,.int 1 v]}).objs.size,[(s.heap.push {cls:=.type "range",data:=.fields #[.int lo t,.int hi u,.int 1 v]}).objs.size],_,_,H,rfl,
  I1.kept (t':=tk) λb o e=>P9 _ e,vE _ lo (hi - lo).toNat,?_,λb hb=>?_,q⟩
 ·have e1:lo + ((0:Nat):Int) * 1=lo:=by simp
  have e2:(((hi - lo).toNat:Nat):Int) - ((0:Nat):Int)=PD lo hi 1:=by rw[rangeSize_one];split<;>omega
  show Ph _ _ (lo + ((0:Nat):Int) * 1) ((((hi - lo).toNat:Nat):Int) - ((0:Nat):Int)) 1
  rw[e1,e2]
  exact Qb _ rfl
 ·have e:b=(s.heap.push {cls:=.type "range",data:=.fields #[.int lo t,.int hi u,.int 1 v]}).objs.size:=by simpa using hb
  subst e
  exact I1.gu (Nm _) (I1.Q3.fresh (Nm _))
def Io (ta:TA):TI:=λσ H R=>ta σ H λvs H1=>∃j:Int,vs=[.int j]/\ -(2 ^ 62)<=j/\j < 2 ^ 62/\R (yE 0 j.toNat) H1
def IS (ta:TA):TI:=λσ H R=>ta σ H λvs H1=>∃i j:Int,vs=[.int i,.int j]/\(-(2 ^ 62)<=i/\i < 2 ^ 62/\ -(2 ^ 62)<=j/\j < 2 ^ 62)/\R (yE i (j - i).toNat) H1
theorem xN {a:Expr}{ta:TA}{p:Pos}(hg:Gl X "range")(hm:X.mg "range"=none)(ha:PA X [a] ta)(hs:N8 [a] X.env=[(false,eval a X.env)]:=by rfl):PI X tg (.Call (.Name "range" p) [a] [] pos) (Io ta):=by
 intro QW s σ H R I h
 refine Call_ (fI I hg hm N3 (NV (aL (ha pos QW s σ H _ I h) λus s1 ⟨vs,H1,I1,r1,q1⟩=>?_) hs rfl))
 obtain⟨j,e,q1,q2,q⟩:=q1
 subst e
 cases r1 with
 | cons r rr=>
   cases rr
   obtain⟨t,rfl⟩:=r
   exact call_range_1 (rV I1 (by omega) (by omega) q1 q2 (by simpa using q))
theorem xF {a b:Expr}{ta:TA}{p:Pos}(hg:Gl X "range")(hm:X.mg "range"=none)(ha:PA X [a,b] ta)(hs:N8 [a,b] X.env=[(false,eval a X.env),(false,eval b X.env)]:=by rfl)(RA:N8 [b] X.env=[(false,eval b X.env)]:=by rfl):
 PI X tg (.Call (.Name "range" p) [a,b] [] pos) (IS ta):=by
 intro QW s σ H R I h
 refine Call_ (fI I hg hm N3 (NV (aL (ha pos QW s σ H _ I h) λus s1 ⟨vs,H1,I1,r1,q1⟩=>?_) (by rw[hs,RA]) (by rw[RA];rfl)))
 obtain⟨i,j,e,⟨q1,q2,q3,q4⟩,q⟩:=q1
 subst e
 cases r1 with
 | cons r rr=>
   cases rr with
   | cons r' rr=>
     cases rr
     obtain⟨t,rfl⟩:=r
     obtain⟨t',rfl⟩:=r'
     exact call_range_2 (rV I1 q1 q2 q3 q4 q)
def KU (wi:TI)(g:TG)(tb:TS):TS:=λD σ H=>wi σ H λJ H1=>∃W:Nat->Nat->St->Hp->Prop,(∃m,W 0 m σ H1)/\∀i m σ H,W i m σ H->
 (J.stop i H/\D.nx σ H)∨(J.go i H/\∃N:St->Hp->Prop,(∀σ' H',N σ' H'->∃m',m' < m/\W (i + 1) m' σ' H')/\∀x H',J.U5 i H x H'->g x σ H' λσ2 H2=>tb {D with nx:=N,ct:=N,bk:=D.nx} σ2 H2)
def jG (fp:Lk)(h:Heap):Lg:=fp.filterMap λb=>(h.get? b).map λo=>(b,o)
theorem iD {fp:Lk}{h:Heap}{b:Addr}{o:Obj}(hb:b∈fp)(e:h.get? b=some o):(b,o)∈jG fp h:=M8.mpr ⟨b,hb,by rw[e];rfl⟩
theorem wC {fp:Lk}{h:Heap}{p:Addr×Obj}(hp:p∈jG fp h):p.1∈fp/\h.get? p.1=some p.2:=by
 obtain⟨b,hb,e⟩:=M8.mp hp
 cases q:h.get? b with
 | none=>rw[q] at e;cases e
 | some o=>
   rw[q] at e
   have e':(b,o)=p:=Option.some.inj e
   subst e'
   exact⟨hb,q⟩
theorem Inv.pinned {fp:Lk}(I:Inv X QW σ H s)(hf:∀b∈fp,iT X QW H b)(ho:∀b∈fp,∃o,s.heap.get? b=some o/\∀v,o.data≠ .cell v):Inv X (QW++jG fp s.heap) σ H s:=
 I.iI λp hp=>(LW.mp hp).elim (λz=>I.pin p (LU _ z)) λz=>by
   obtain⟨hb,e⟩:=wC z
   obtain⟨f0,f1,f2,_⟩:=hf p.1 hb
   obtain⟨o,e',d⟩:=ho p.1 hb
   rw[e] at e';cases e'
   exact⟨e,f0,f1,f2,d⟩
theorem Inv.mU {pl:Lg}(I:Inv X (QW++pl) σ H s):Inv X QW σ H s:=I.iI λp hp=>I.pin p (LU _ (L7 _ hp))
theorem FY {iter:Expr}{body:List Stmt}{wi:TI}{g:TG}{tb:TS}(hp:PassesOwn (model X.prog X.w) X.A X.env X.xe)(hc:X.calm=true)(hi:PI X tg iter wi)(hg:PG X tg g)(hb:i5 X body tb)
 (hs:∀x,Ov iter X.env x=pure x:=by intro _;rfl):PS X (.For tg iter body [] pos) (KU wi g tb):=by
 intro QW s σ H D I h
 refine wpAny_For (aL (hi QW s σ H _ I h) λv s1 h1=>aL h1 λitv s2 h2=>?_) hs
 obtain⟨it,fp,tn,J,H2,e,I2,T,TR,f2,W,⟨m0,w0⟩,turn⟩:=h2
 subst e
 -- what stays true of Vj UH objects through Vj loop
 have UB:∀{H':Hp},(∀b∈fp,H' b=none)->∀b∈fp,iT X QW H' b:=λhn b hb=>⟨hn b hb,(f2 b hb).2⟩
 refine codeAny_forLoop_any (λn s'=>∃i σ' H',Inv X QW σ' H' s'/\tn i s'.heap/\(∀b∈fp,H' b=none)/\W i n σ' H') ?_ m0 ⟨0,σ,H2,I2,TR,λb hb=>(f2 b hb).1,w0⟩
 rintro n s3 ⟨i,σ3,H3,I3,st3,fr3,w3⟩
 rcases turn i n σ3 H3 w3 with⟨stop,qn⟩ | ⟨go,N,hN,step⟩
 ·refine OD hp (aL (T.done X rfl rfl rfl hc i QW s3 σ3 H3 X.xe I3 (UB fr3) st3 stop) λr s4 ⟨hr,I4⟩=>?_)
  subst hr
  exact OX ⟨σ3,H3,I4,qn⟩
 ·refine OD hp (aL (T.item X rfl rfl rfl hc i QW s3 σ3 H3 X.xe I3 (UB fr3) st3 go) λr s4 ⟨u,hr,h4⟩=>?_)
  subst hr
  refine OD hp (aL h4 λ_ s5 ⟨x,H5,I5,r5,y5,U6,fr5⟩=>?_)
  have I5':=I5.pinned (UB fr5) (T.obj _ _ U6)
  refine OD hp (aL (hg _ s5 σ3 H5 x u _ I5' r5 (step x H5 y5)) λ_ s6 ⟨σ6,H6,I6,q6⟩=>?_)
  refine OD hp (aL (hb _ s6 σ6 H6 _ I6 q6) λf s7 q7=>?_)
  have again:∀{σ7:St} {H7:Hp},Inv X (QW++jG fp s5.heap) σ7 H7 s7->N σ7 H7->∃m,m < n/\∃i σ' H',Inv X QW σ' H' s7/\tn i s7.heap/\(∀b∈fp,H' b=none)/\W i m σ' H':=λ{σ7 H7} I7 n7=>by
   obtain⟨m',hm,w7⟩:=hN σ7 H7 n7
   refine⟨m',hm,i + 1,σ7,H7,I7.mU,T.keep _ _ _ U6 λb hb o e=>(I7.pin (b,o) (LU _ (LU _ (iD hb e)))).1,λb hb=>?_,w7⟩
   obtain⟨o,e,d⟩:=T.obj _ _ U6 b hb
   exact(I7.pin (b,o) (LU _ (LU _ (iD hb e)))).2.1
  cases f with
  | next=>obtain⟨σ7,H7,I7,n7⟩:=q7;exact again I7 n7
  | cont=>obtain⟨σ7,H7,I7,n7⟩:=q7;exact again I7 n7
  | brk=>obtain⟨σ7,H7,I7,q7⟩:=q7;exact⟨σ7,H7,I7.mU,q7⟩
  | ret v=>obtain⟨x7,σ7,H7,I7,r7,q7⟩:=q7;exact⟨x7,σ7,H7,I7.mU,r7,q7⟩
end
abbrev R2:=V->V->Hp->VK->Prop
def dw (X:Cx)(f:Value->Value->Sem Value)(r:R2):Prop:=
 ∀(QW:Lg) (s:N5) (σ:St) (H:Hp) (x y:V) (v u:Value) (Q:VK),Inv X QW σ H s->RelV x v->RelV y u->r x y H Q->
  wpAny (model X.prog X.w) X.A (f v u) (EP X QW σ Q) X.xe s
def Eo (X:Cx)(f:Value->Sem Value)(r:V->Hp->VK->Prop):Prop:=
 ∀(QW:Lg) (s:N5) (σ:St) (H:Hp) (x:V) (v:Value) (Q:VK),Inv X QW σ H s->RelV x v->r x H Q->
  wpAny (model X.prog X.w) X.A (f v) (EP X QW σ Q) X.xe s
def dR (X:Cx)(f:Value)(r:List V->Hp->VK->Prop):Prop:=
 ∀(QW:Lg) (s:N5) (σ:St) (H:Hp) (xs:List V) (us:Ll) (Q:VK),Inv X QW σ H s->Vals xs us->r xs H Q->
  wpAny (model X.prog X.w) X.A (call f us) (EP X QW σ Q) X.xe s
def KN (X:Cx)(r:V->Hp->(Bool->Hp->Prop)->Prop):Prop:=
 ∀(QW:Lg) (s:N5) (σ:St) (H:Hp) (x:V) (v:Value) (Q:Bool->Hp->Prop),Inv X QW σ H s->RelV x v->r x H Q->
  wpAny (model X.prog X.w) X.A (truthy v) (TP X QW σ Q) X.xe s
def Bf (r:R2)(ta tb:TE):TE:=λσ H Q=>ta σ H λx H1=>tb σ H1 λy H2=>r x y H2 Q
def tUn (r:V->Hp->VK->Prop)(ta:TE):TE:=λσ H Q=>ta σ H λx H1=>r x H1 Q
def rI (C:Int->Int->Prop)(g:Int->Int->V):R2:=λx y H Q=>∃i j,x= .int i/\y= .int j/\C i j/\Q (g i j) H
def pQ (g:Int->Int->V):R2:=λx y H Q=>∃i j,x= .int i/\y= .int j/\Q (g i j) H
def rU (g:Int->V):V->Hp->VK->Prop:=λx H Q=>∃i,x= .int i/\Q (g i) H
section
variable {X:Cx}{a b c:Expr}{ta tb tc:TE}{pos:Pos}
variable {f:Value->Value->Sem Value}
theorem z5 (ha:PE X a ta)(hb:PE X b tb){QW:Lg}{s:N5}{σ:St}{H:Hp}{R:V->V->Hp->Prop}(I:Inv X QW σ H s)
 (h:ta σ H λx H1=>tb σ H1 λy H2=>R x y H2) {Q:Value->N5->Prop}
 (hf:∀v u s2 x y H2,Inv X QW σ H2 s2->RelV x v->RelV y u->R x y H2->wpAny (model X.prog X.w) X.A (f v u) Q X.xe s2):
 wpAny (model X.prog X.w) X.A (eval a X.env) (λv s₁=>wpAny (model X.prog X.w) X.A (eval b X.env) (λu s₂=>wpAny (model X.prog X.w) X.A (f v u) Q X.xe s₂) X.xe s₁) X.xe s:=by
 refine aL (ha QW s σ H _ I h) λv s1 ⟨x,H1,I1,r1,q1⟩=>?_
 refine aL (hb QW s1 σ H1 _ I1 q1) λu s2 ⟨y,H2,I2,r2,q2⟩=>?_
 exact hf v u s2 x y H2 I2 r1 r2 q2
theorem AA {op:Operator}{r:R2}(ho:dw X (OH op) r)(ha:PE X a ta)(hb:PE X b tb):PE X (.BinOp a op b pos) (Bf r ta tb):=by
 intro QW s σ H Q I h
 exact wpAny_BinOp (z5 ha hb I h λv u s2 x y H2 I2 rx ry q=>ho QW s2 σ H2 x y v u Q I2 rx ry q)
theorem Hk {op:UnaryOp}{r:V->Hp->VK->Prop}(ho:Eo X (unaryOp op) r)(ha:PE X a ta):PE X (.UnaryOp op a pos) (tUn r ta):=by
 intro QW s σ H Q I h
 exact UnaryOp_ (aL (ha QW s σ H _ I h) λv s1 ⟨x,H1,I1,r1,q1⟩=>ho QW s1 σ H1 x v Q I1 r1 q1)
theorem u5 {C:Int->Int->Prop}{g:Int->Int->Int}
 (rule:∀(i j:Int) (t u:Tok) (s:N5) (Q:Value->N5->Prop) (E:Value->N5->Prop),C i j->Q (.int (g i j) s.toks) {s with toks:=s.toks + 1}->wpAny (model X.prog X.w) X.A (f (.int i t) (.int j u)) Q E s):
 dw X f (rI C λi j=>.int (g i j)):=by
 intro QW s σ H x y v u Q I rx ry h
 obtain⟨i,j,rfl,rfl,hc,q⟩:=h
 obtain⟨t,rfl⟩:=rx
 obtain⟨t',rfl⟩:=ry
 exact rule i j t t' s _ _ hc ⟨.int (g i j),H,I.tok _,⟨_,rfl⟩,q⟩
theorem EN {g:Int->Int->Int}
 (rule:∀(i j:Int) (t u:Tok) (s:N5) (Q:Value->N5->Prop) (E:Value->N5->Prop),Q (.int (g i j) s.toks) {s with toks:=s.toks + 1}->wpAny (model X.prog X.w) X.A (f (.int i t) (.int j u)) Q E s):
 dw X f (pQ λi j=>.int (g i j)):=by
 intro QW s σ H x y v u Q I rx ry h
 obtain⟨i,j,rfl,rfl,q⟩:=h
 obtain⟨t,rfl⟩:=rx
 obtain⟨t',rfl⟩:=ry
 exact rule i j t t' s _ _ ⟨.int (g i j),H,I.tok _,⟨_,rfl⟩,q⟩
theorem vD {g:Int->Int->Bool}
 (rule:∀(i j:Int) (t u:Tok) (s:N5) (Q:Value->N5->Prop) (E:Value->N5->Prop),Q (.bool (g i j)) s->wpAny (model X.prog X.w) X.A (f (.int i t) (.int j u)) Q E s):
 dw X f (pQ λi j=>.bl (g i j)):=by
 intro QW s σ H x y v u Q I rx ry h
 obtain⟨i,j,rfl,rfl,q⟩:=h
 obtain⟨t,rfl⟩:=rx
 obtain⟨t',rfl⟩:=ry
 exact rule i j t t' s _ _ ⟨.bl (g i j),H,I,rfl,q⟩
def DX (i j:Int):Prop:=0 < j/\j < 1073741824
def G2 (i j:Int):Prop:=0<=j/\j<=1000000/\i.natAbs < 2 ^ 64
def vx (i j:Int):Prop:=(-(2 ^ 64) < i/\i < 2 ^ 64)∨(-(2 ^ 64) < j/\j < 2 ^ 64)
theorem vx.ok {i j:Int}(h:vx i j):Pt i j:=by
 rcases h with⟨h1,h2⟩ | ⟨h1,h2⟩
 ·exact .of_left (O9 h1 h2)
 ·exact .of_right (O9 h1 h2)
theorem Eg:dw X (OH .Add) (pQ λi j=>.int (i + j)):=EN λ_ _ _ _ _ _ _ q=>add_int q
theorem EL:dw X (OH .Sub) (pQ λi j=>.int (i - j)):=EN λ_ _ _ _ _ _ _ q=>sub_int q
theorem FP:dw X (OH .Mult) (rI vx λi j=>.int (i * j)):=u5 λ_ _ _ _ _ _ _ hc q=>mul_int q hc.ok
theorem Ct:dw X (OH .FloorDiv) (rI DX λi j=>.int (i / j)):=u5 λi j _ _ _ _ _ hc q=>by
 have h1:(0:Int) < j:=hc.1
 have h2:j < 1073741824:=hc.2
 exact floordiv_int (by omega) (by rw[Int.fdiv_eq_ediv_of_nonneg i (by omega)];exact q) (.inl (PyProof.noPylong_small (by omega)))
theorem Ey:dw X (OH .Mod) (rI (λ_ j=>0 < j) λi j=>.int (i % j)):=u5 λi j _ _ _ _ _ hc q=>by
 have h1:(0:Int) < j:=hc
 exact mod_int' (by omega) (by rw[Int.fmod_eq_emod_of_nonneg i (by omega)];exact q)
theorem EI:dw X (OH .Pow) (rI G2 λi j=>.int (i ^ j.toNat)):=u5 λ_ _ _ _ _ _ _ hc q=>pow_int_small hc.1 hc.2.1 hc.2.2 q
theorem unI {f:Value->Sem Value}{g:Int->Int}
 (rule:∀(i:Int) (t:Tok) (s:N5) (Q:Value->N5->Prop) (E:Value->N5->Prop),Q (.int (g i) s.toks) {s with toks:=s.toks + 1}->wpAny (model X.prog X.w) X.A (f (.int i t)) Q E s):
 Eo X f (rU λi=>.int (g i)):=by
 intro QW s σ H x v Q I rx h
 obtain⟨i,rfl,q⟩:=h
 obtain⟨t,rfl⟩:=rx
 exact rule i t s _ _ ⟨.int (g i),H,I.tok _,⟨_,rfl⟩,q⟩
theorem E9:Eo X (unaryOp .USub) (rU λi=>.int (-i)):=unI λ_ _ _ _ _ q=>neg_int q
end
def Gv:V->V->Bool
 | .Rf,.Rf=>true | .Rf,.int _=>true | .int _,.Rf=>true | .Rf,.bl _=>true | .bl _,.Rf=>true | .Rf,.str _=>true | .str _,.Rf=>true
 | .int _,.int _=>true | .bl _,.bl _=>true | .str _,.str _=>true | .S8 _,.S8 _=>true
 | .int _,.str _=>true | .str _,.int _=>true | .bl _,.str _=>true | .str _,.bl _=>true
 | _,_=>false
def rEq:R2:=λx y H Q=>Gv x y=true/\Q (.bl (decide (x=y))) H
def rNe:R2:=λx y H Q=>Gv x y=true/\Q (.bl (!decide (x=y))) H
theorem mf {i j:Int}:decide (V.int i=V.int j)=(i==j):=by
 rw[Lr]
 simp
theorem yv {i j:Bool}:decide (V.bl i=V.bl j)=(i==j):=by
 rw[Lr]
 simp
theorem j3 {i j:Str}:decide (V.str i=V.str j)=(i==j):=by
 rw[Lr]
 simp
theorem t7 {i j:Array UInt8}:decide (V.S8 i=V.S8 j)=(i.toList==j.toList):=by
 rw[Lr]
 cases i
 cases j
 simp
section
variable {X:Cx}{a b c:Expr}{ta tb tc:TE}{pos:Pos}
variable {op:CmpOp}{r:R2}
theorem bF {QW:Lg}{σ:St}{H:Hp}{s:N5}{Q:VK}{k k':Bool}(I:Inv X QW σ H s)(q:Q (.bl k) H)(e:k=k'):EP X QW σ Q (.bool k') s:=by
 subst e
 exact⟨.bl k,H,I,rfl,q⟩
theorem A9:dw X (Oj .Eq) rEq:=by
 intro QW s σ H x y v u Q I rx ry h
 obtain⟨hs,q⟩:=h
 cases x with
 | Rf=>
   cases rx
   cases y with
   | Rf=>cases ry;exact PySem.EqNone.eq_none_none (bF I q (by simp))
   | bl j=>cases ry;exact PySem.EqNone.eq_none_bool (bF I q (by simp))
   | int j=>obtain⟨t',rfl⟩:=ry;exact PySem.EqNone.eq_none_int (bF I q (by simp))
   | str j=>obtain⟨t',rfl⟩:=ry;exact PySem.EqNone.eq_none_str (bF I q (by simp))
   | _=>exact absurd (show false=true from hs) Lp
 | bl i=>
   cases rx
   cases y with
   | Rf=>cases ry;exact PySem.EqNone.eq_bool_none (bF I q (by simp))
   | bl j=>cases ry;exact eq_bool (bF I q yv)
   | str j=>obtain⟨t',rfl⟩:=ry;exact PySem.EqMixed.eq_bool_str (bF I q (by simp))
   | _=>exact absurd (show false=true from hs) Lp
 | int i=>
   obtain⟨t,rfl⟩:=rx
   cases y with
   | Rf=>cases ry;exact PySem.EqNone.eq_int_none (bF I q (by simp))
   | int j=>obtain⟨t',rfl⟩:=ry;exact eq_int (bF I q mf)
   | str j=>obtain⟨t',rfl⟩:=ry;exact PySem.EqMixed.eq_int_str (bF I q (by simp))
   | _=>exact absurd (show false=true from hs) Lp
 | str i=>
   obtain⟨t,rfl⟩:=rx
   cases y with
   | Rf=>cases ry;exact PySem.EqNone.eq_str_none (bF I q (by simp))
   | bl j=>cases ry;exact PySem.EqMixed.eq_str_bool (bF I q (by simp))
   | int j=>obtain⟨t',rfl⟩:=ry;exact PySem.EqMixed.eq_str_int (bF I q (by simp))
   | str j=>obtain⟨t',rfl⟩:=ry;exact eq_str (bF I q j3)
   | _=>exact absurd (show false=true from hs) Lp
 | S8 i=>
   obtain⟨t,rfl⟩:=rx
   cases y with
   | S8 j=>obtain⟨t',rfl⟩:=ry;exact PySem.W.eq_bytes (bF I q t7)
   | _=>exact absurd (show false=true from hs) Lp
 | _=>cases y<;>exact absurd (show false=true from hs) Lp
theorem Bs:dw X (Oj .NotEq) rNe:=by
 intro QW s σ H x y v u Q I rx ry h
 obtain⟨hs,q⟩:=h
 cases x with
 | Rf=>
   cases rx
   cases y with
   | Rf=>cases ry;exact PySem.EqNone.ne_none_none (bF I q (by simp))
   | bl j=>cases ry;exact PySem.EqNone.ne_none_bool (bF I q (by simp))
   | int j=>obtain⟨t',rfl⟩:=ry;exact PySem.EqNone.ne_none_int (bF I q (by simp))
   | str j=>obtain⟨t',rfl⟩:=ry;exact PySem.EqNone.ne_none_str (bF I q (by simp))
   | _=>exact absurd (show false=true from hs) Lp
 | bl i=>
   cases rx
   cases y with
   | Rf=>cases ry;exact PySem.EqNone.ne_bool_none (bF I q (by simp))
   | bl j=>cases ry;exact ne_bool (bF I q (congrArg not yv))
   | str j=>obtain⟨t',rfl⟩:=ry;exact PySem.EqMixed.ne_bool_str (bF I q (by simp))
   | _=>exact absurd (show false=true from hs) Lp
 | int i=>
   obtain⟨t,rfl⟩:=rx
   cases y with
   | Rf=>cases ry;exact PySem.EqNone.ne_int_none (bF I q (by simp))
   | int j=>obtain⟨t',rfl⟩:=ry;exact ne_int (bF I q (congrArg not mf))
   | str j=>obtain⟨t',rfl⟩:=ry;exact PySem.EqMixed.ne_int_str (bF I q (by simp))
   | _=>exact absurd (show false=true from hs) Lp
 | str i=>
   obtain⟨t,rfl⟩:=rx
   cases y with
   | Rf=>cases ry;exact PySem.EqNone.ne_str_none (bF I q (by simp))
   | bl j=>cases ry;exact PySem.EqMixed.ne_str_bool (bF I q (by simp))
   | int j=>obtain⟨t',rfl⟩:=ry;exact PySem.EqMixed.ne_str_int (bF I q (by simp))
   | str j=>obtain⟨t',rfl⟩:=ry;exact ne_str (bF I q (congrArg not j3))
   | _=>exact absurd (show false=true from hs) Lp
 | S8 i=>
   obtain⟨t,rfl⟩:=rx
   cases y with
   | S8 j=>obtain⟨t',rfl⟩:=ry;exact PySem.W.ne_bytes (bF I q (congrArg not t7))
   | _=>exact absurd (show false=true from hs) Lp
 | _=>cases y<;>exact absurd (show false=true from hs) Lp
theorem Jc:dw X (Oj .Lt) (pQ λi j=>.bl (decide (i < j))):=vD λ_ _ _ _ _ _ _ q=>lt_int q
theorem IC:dw X (Oj .LtE) (pQ λi j=>.bl (decide (i<=j))):=vD λ_ _ _ _ _ _ _ q=>le_int q
theorem Ia:dw X (Oj .Gt) (pQ λi j=>.bl (decide (j < i))):=vD λ_ _ _ _ _ _ _ q=>gt_int q
theorem Hr:dw X (Oj .GtE) (pQ λi j=>.bl (decide (j<=i))):=vD λ_ _ _ _ _ _ _ q=>ge_int q
theorem rX (b:Expr)(h:op≠ .In:=by decide)(h2:op≠ .NotIn:=by decide):OE op b=false:=by
 have e1:(op==CmpOp.In)=false:=by cases op<;>first | rfl | exact absurd rfl h
 have e2:(op==CmpOp.NotIn)=false:=by cases op<;>first | rfl | exact absurd rfl h2
 cases b<;>simp[OE,e1,e2]
theorem Dz (ho:dw X (Oj op) r)(ha:PE X a ta)(hb:PE X b tb)(hm:OE op b=false):PE X (.Compare a [op] [b] pos) (Bf r ta tb):=by
 intro QW s σ H Q I h
 exact wpAny_Compare1 (z5 ha hb I h λv u s2 x y H2 I2 rx ry q=>ho QW s2 σ H2 x y v u Q I2 rx ry q) hm
def AS (t:TE):TT:=λσ H Q=>t σ H λx H'=>∃k,x= .bl k/\Q k H'
theorem Dx (ho:dw X (Oj op) r)(ha:PE X a ta)(hb:PE X b tb)(hm:OE op b=false):PT X (.Compare a [op] [b] pos) (AS (Bf r ta tb)):=by
 intro QW s σ H Q I h
 refine wpAny_isTrue_Compare1 (aL (ha QW s σ H _ I h) λv s1 ⟨x,H1,I1,r1,q1⟩=>aL (hb QW s1 σ H1 _ I1 q1) λu s2 ⟨y,H2,I2,r2,q2⟩=>
  aL (ho QW s2 σ H2 x y v u _ I2 r1 r2 q2) λc s3 ⟨z,H3,I3,r3,k,e,q3⟩=>?_) hm
 subst e
 cases r3
 exact Oh ⟨H3,I3,q3⟩
def yh (r r':R2)(ta tb tc:TE):TE:=λσ H Q=>ta σ H λx H1=>tb σ H1 λy H2=>r x y H2 λz H3=>∃k,z= .bl k/\
 (if k=true then tc σ H3 λw' H4=>r' y w' H4 Q else Q (.bl false) H3)
theorem As {SN:CmpOp}{r':R2}(ho:dw X (Oj op) r)(Sr:dw X (Oj SN) r')(ha:PE X a ta)(hb:PE X b tb)(hc:PE X c tc)
 (hm:lastMarks [op,SN] [b,c]=false:=by with_unfolding_all rfl):PE X (.Compare a [op,SN] [b,c] pos) (yh r r' ta tb tc):=by
 intro QW s σ H Q I h
 refine Compare_chain (aL (ha QW s σ H _ I h) λv s1 ⟨x,H1,I1,r1,q1⟩=>chain_link (aL (hb QW s1 σ H1 _ I1 q1) λu s2 ⟨y,H2,I2,r2,q2⟩=>
  aL (ho QW s2 σ H2 x y v u _ I2 r1 r2 q2) λd s3 ⟨z,H3,I3,r3,k,e,q3⟩=>?_)) hm
 subst e
 cases r3
 refine Oh ?_
 cases k with
 | false=>exact ite_ff ⟨.bl false,H3,I3,rfl,q3⟩
 | true=>exact ite_tt (chain_last (aL (hc QW s3 σ H3 _ I3 q3) λw' s4 ⟨z',H4,I4,r4,q4⟩=>Sr QW s4 σ H4 y z' u w' Q I4 r2 r4 q4))
theorem zC {SN:CmpOp}{r':R2}(ho:dw X (Oj op) r)(Sr:dw X (Oj SN) r')(ha:PE X a ta)(hb:PE X b tb)(hc:PE X c tc)
 (hm:lastMarks [op,SN] [b,c]=false:=by with_unfolding_all rfl):PT X (.Compare a [op,SN] [b,c] pos) (AS (yh r r' ta tb tc)):=by
 intro QW s σ H Q I h
 refine isTrue_chain (aL (ha QW s σ H _ I h) λv s1 ⟨x,H1,I1,r1,q1⟩=>test_link (aL (hb QW s1 σ H1 _ I1 q1) λu s2 ⟨y,H2,I2,r2,q2⟩=>
  aL (ho QW s2 σ H2 x y v u _ I2 r1 r2 q2) λd s3 ⟨z,H3,I3,r3,k,e,q3⟩=>?_)) hm
 subst e
 cases r3
 refine Oh ?_
 cases k with
 | false=>
   obtain⟨k',e',q'⟩:=q3
   cases e'
   exact ite_ff ⟨H3,I3,q'⟩
 | true=>
   refine ite_tt (test_last (aL (hc QW s3 σ H3 _ I3 q3) λw' s4 ⟨z',H4,I4,r4,q4⟩=>aL (Sr QW s4 σ H4 y z' u w' _ I4 r2 r4 q4) λd' s5 ⟨z2,H5,I5,r5,k2,e2,q5⟩=>?_))
   subst e2
   cases r5
   exact Oh ⟨H5,I5,q5⟩
def Eu (K:QA)(x:V)(H:Hp)(k:Bool):Prop:=
 match x with
 | .Rf=>k=false
 | .bl b=>k=b
 | .int i=>k=(i != 0)
 | .str y=>y.length<=N7/\k=((y.length:Int) != 0)
 | .S8 y=>y.size<=N7/\k=((y.size:Int) != 0)
 | .ref p=>(∃xs,aT K H p xs/\k= !xs.isEmpty)∨(∃xs,de K H p xs/\k= !xs.isEmpty)∨∃kvs,H p=some (.dK kvs)/\k= !kvs.isEmpty
 | _=>False
theorem wk {κ:Type}{kvs:List (κ×V)}{vs:List (κ×Value)}(r:KV kvs vs):(!vs.isEmpty)= !kvs.isEmpty:=by
 cases r<;>rfl
theorem nI {xs:List V}{QX:Ll}(r:Vals xs QX):(!QX.toArray.isEmpty)= !xs.isEmpty:=by
 cases r<;>simp
theorem i4:(N7:Nat) < 2 ^ 63:=by rw[O6];decide
theorem FN:KN X (λx H Q=>∃k,Eu X.K x H k/\Q k H):=by
 intro QW s σ H x v Q I rx h
 obtain⟨k,e,q⟩:=h
 have hl:=i4
 have hs:N7=16777216:=O6
 cases x with
 | Rf=>
   cases rx
   have e':k=false:=e
   subst e'
   exact truthy_none ⟨H,I,q⟩
 | bl b=>
   cases rx
   have e':k=b:=e
   subst e'
   exact Oh ⟨H,I,q⟩
 | int i=>
   obtain⟨t,rfl⟩:=rx
   have e':k=(i != 0):=e
   subst e'
   exact PySem.P.truthy_int ⟨H,I,q⟩
 | str y=>
   obtain⟨t,rfl⟩:=rx
   obtain⟨hy,e'⟩:y.length<=N7/\k=((y.length:Int) != 0):=e
   subst e'
   exact PySem.P.truthy_str (by omega) ⟨H,I.tok _,q⟩
 | S8 y=>
   obtain⟨t,rfl⟩:=rx
   obtain⟨hy,e'⟩:y.size<=N7/\k=((y.size:Int) != 0):=e
   subst e'
   exact PySem.W.truthy_bytes (by omega) ⟨H,I.tok _,q⟩
 | ref p=>
   cases rx
   have e':(∃xs,aT X.K H p xs/\k= !xs.isEmpty)∨(∃xs,de X.K H p xs/\k= !xs.isEmpty)∨∃kvs,H p=some (.dK kvs)/\k= !kvs.isEmpty:=e
   rcases e' with⟨xs,hx,e'⟩ | ⟨xs,hx,e'⟩ | ⟨kvs,hx,e'⟩
   ·subst e'
    obtain⟨QX,r,pl,hz⟩:=I.list hx
    have hlen:=r.length
    exact wpAny_truthy_list pl.isList (by simp only[LQ];omega) ⟨H,I.tok _,by rw[nI r];exact q⟩
   ·subst e'
    obtain⟨QX,r,pl,hz⟩:=I.tuple hx
    have hlen:=r.length
    exact truthy_tuple pl (by simp only[LQ];omega) ⟨H,I.tok _,by rw[nI r];exact q⟩
   ·subst e'
    obtain⟨hz,hS,vs,r,m⟩:kvs.length<=N7/\(p==Ot)=false/\∃vs,KV kvs vs/\s.heap.DictOf (bP X.prog X.w) p vs:=I.Q3 p _ hx
    have hlen:kvs.length=vs.length:=Paired.length r
    exact wpAny_truthy_dict hS m (by omega) ⟨H,I.tok _,by rw[wk r];exact q⟩
 | _=>exact(show False from e).elim
theorem rK (ha:PE X a ta)(he:∀whole,OQ a X.env whole=(do let v ← whole;O4 a.pos;OF [v] (truthy v))):
 PT X a (λσ H Q=>ta σ H λx H'=>∃k,Eu X.K x H' k/\Q k H'):=by
 intro QW s σ H Q I h
 exact isTrue_plain (aL (ha QW s σ H _ I h) λv s1 ⟨x,H1,I1,r1,q1⟩=>FN QW s1 σ H1 x v Q I1 r1 q1) (he _)
theorem vo:dw X (OH .Add) (λx y H Q=>∃i j,x= .str i/\y= .str j/\i.length + j.length<=N7/\Q (.str (i++j)) H):=by
 intro QW s σ H x y v u Q I rx ry h
 obtain⟨i,j,rfl,rfl,hz,q⟩:=h
 obtain⟨t,rfl⟩:=rx
 obtain⟨t',rfl⟩:=ry
 exact add_str (λt' tk=>⟨.str (i++j),H,I.tok _,⟨_,rfl⟩,q⟩) hz
theorem vals1 {x:V}{us:Ll}(r:Vals [x] us):∃u,us=[u]/\RelV x u:=by
 cases r with
 | cons r1 r2=>cases r2;exact⟨_,rfl,r1⟩
theorem vals2 {x y:V}{us:Ll}(r:Vals [x,y] us):∃u w',us=[u,w']/\RelV x u/\RelV y w':=by
 cases r with
 | cons r1 r2=>
   cases r2 with
   | cons r3 r4=>cases r4;exact⟨_,_,rfl,r1,r3⟩
theorem yU (hc:X.calm=true):dR X (.builtin "max") (λxs H Q=>∃i j,xs=[.int i,.int j]/\Q (.int (if j > i then j else i)) H):=by
 intro QW s σ H xs us Q I r h
 obtain⟨i,j,rfl,q⟩:=h
 obtain⟨u,w',rfl,⟨t,rfl⟩,⟨t',rfl⟩⟩:=vals2 r
 refine max_two_ints (I.ok.hd hc) λh' tk k=>⟨_,H,I.kept k,?_,q⟩
 by_cases hj:j > i
 ·rw[if_pos hj,if_pos hj];exact⟨_,rfl⟩
 ·rw[if_neg hj,if_neg hj];exact⟨_,rfl⟩
theorem xy (hc:X.calm=true):dR X (.builtin "min") (λxs H Q=>∃i j,xs=[.int i,.int j]/\Q (.int (if j < i then j else i)) H):=by
 intro QW s σ H xs us Q I r h
 obtain⟨i,j,rfl,q⟩:=h
 obtain⟨u,w',rfl,⟨t,rfl⟩,⟨t',rfl⟩⟩:=vals2 r
 refine min_two_ints (I.ok.hd hc) λh' tk k=>⟨_,H,I.kept k,?_,q⟩
 by_cases hj:j < i
 ·rw[if_pos hj,if_pos hj];exact⟨_,rfl⟩
 ·rw[if_neg hj,if_neg hj];exact⟨_,rfl⟩
theorem yI:dR X (.type "int") (λxs H Q=>(∃i,xs=[.int i]/\Q (.int i) H)∨∃k,xs=[.bl k]/\Q (.int (if k then 1 else 0)) H):=by
 intro QW s σ H xs us Q I r h
 rcases h with⟨i,rfl,q⟩ | ⟨k,rfl,q⟩
 ·obtain⟨u,rfl,t,rfl⟩:=vals1 r
  exact call_int_int ⟨.int i,H,I,⟨_,rfl⟩,q⟩
 ·obtain⟨u,rfl,r1⟩:=vals1 r
  cases r1
  exact call_int_bool ⟨.int (if k then 1 else 0),H,I.tok _,⟨_,rfl⟩,q⟩
end
structure oo (h:Heap) (x dx C:Addr) (mA:Lf):Prop where
 obj:h.get? x=some (QJ C dx)
 ns:h.Ns1 dx mA
 ne:dx≠x
theorem xp {h:Heap}{dx:Addr}{mA:Lf}(n:h.Ns1 dx mA):∃od,h.get? dx=some od/\∀name,QS name od=some (mA name):=by
 obtain⟨o,es,ep,ho,hd,hk,_,hm⟩:=n
 refine⟨o,ho,λname=>?_⟩
 have e:=hm name
 unfold nsFind findBy at e
 rw[← Array.find?_toList] at e
 unfold QS
 rw[hd]
 dsimp only
 split
 ·rename_i y q
  rw[q] at e
  exact congrArg some e
 ·rename_i q
  rw[q] at e
  have a:es.toList.any (·.refKey)=false:=by
   rw[List.any_eq_false]
   intro y hy
   obtain⟨z,t,SD⟩:=hk y (Array.mem_toList_iff.mp hy)
   simp[DictEntry.refKey,SD]
  have a':¬es.toList.any (·.refKey)=true:=by rw[a];exact Lp
  rw[if_neg a']
  exact congrArg some e
theorem oo.look {h:Heap}{x dx C:Addr}{mA:Lf}(I:oo h x dx C mA):∃od,PySem.W.InstAt h x (QJ C dx) C (some od)/\∀name,QS name od=some (mA name):=
 let ⟨od,ho,hl⟩:=xp I.ns
 ⟨od,⟨I.obj,rfl,rfl,ho⟩,hl⟩
section
variable {prog:Ob}{w:World}{A:Od}{E:Value->N5->Prop}{s:N5}{K:QA}{x dx C f:Addr}{mA:Lf}{name:Str}{v:Value}
theorem get_map {expr:Bool}{Q:Value->N5->Prop}(X:K.In s.heap)(I:oo s.heap x dx C mA)(hg:QM K C name=true)(hh:QL K C=true)
 (ha:QC K (.ref C) name=some none) (hv:mA name=some v) (SR:PySem.W.handedIn v=true) (h:Q v {s with toks:=s.toks + 1}):
 wpAny (model prog w) A (getAttr (.ref x) name expr) Q E s:=by
 obtain⟨od,J,hl⟩:=I.look
 exact PySem.W.get_value X J (PySem.W.plainGet_of hg).1 (PySem.W.findObj_own hh ha rfl (by rw[hl,hv])) SR h
theorem C1 {ns:Li}{Q:Unit->N5->Prop}(X:K.In s.heap)(I:oo s.heap x dx C mA)
 (hs:QC K (.ref C) "__setattr__"=some (some (.builtin "object.__setattr__"))) (hp:QN K C=true) (ht:QQ K C name=some none) (hh:QL K C=true)
 (hw:Px mA ns) (hsz:ns.length<=N7)
 (h:∀h',oo h' x dx C (λy=>if y=name then some v else mA y)->Qd dx s.heap h'->Q () {s with heap:=h',toks:=s.toks + 2}):
 wpAny (model prog w) A (setAttr (.ref x) name v) Q E s:=by
 obtain⟨od,J,hl⟩:=I.look
 refine PySem.W.set_plain X J hs (PySem.W.osa_open (s:={s with toks:=s.toks + 1}) (r:=none) X J hp ht λb=>?_)
 obtain⟨cd,hc,V0⟩:=PySem.W.any_some hh
 have hx:s.heap.get? x=some ⟨.ref C,some dx,.plain, #[]⟩:=I.obj
 refine N6 (Oa (N6 (N6 (wpAny_loadPart hx (N6 (PySem.W.Looks.here (s:={s with toks:=s.toks + 1}) (PySem.W.looks_clsIn X hc) ?_))))))
 rw[V0]
 refine Oa (a:=some dx) (N6 (Oa (N6 ?_)))
 refine wpAny_nsSet1 (s:={s with toks:=s.toks + 1}) I.ns λh' hn2 RA=>?_
 obtain⟨oD,esD,epD,hoD,hdD,hcD⟩:=hn2.count (Px.cons name v hw)
 refine N6 (wpAny_lookBehind hoD (by rw[hdD];exact pastItsLine_dict (Nn hcD (by rw[LR];omega))) ?_)
 exact Oa (h _ ⟨(RA.2 _ (NN I.ne)).trans I.obj,hn2,I.ne⟩ RA)
theorem Am {R:Result->N5->Prop}{vs:Ll}{kw:List (Str×Value)}(X:K.In s.heap)(hm:QO K C=true)
 (hi:QC K (.ref C) "__init__"=some (some (.ref f))) (hf:PySem.W.typeIn K (.ref f)=some (.type "function"))
 (h:O5 (model prog w) (A.under (.builtin "type.__call__" ⟨.ref C::vs,kw⟩)) (.call (.ref f) ⟨.ref (s.heap.objs.size + 1)::vs,kw⟩) (PySem.W.InitBack (s.heap.objs.size + 1) R)
  {s with heap:=(s.heap.push QH).push (QJ C s.heap.objs.size)}):
 O5 (model prog w) A (.call (.ref C) ⟨vs,kw⟩) R s:=by
 obtain⟨hh,g,d,t,os⟩:=s
 exact PySem.W.make_core (PySem.W.makes_of X hm) (PySem.W.looks_findIn X hi) (λself=>PySem.W.bind_fn X self hf) (.inl rfl) h
end
def eT (f:Str)(v:V):List (Str×V)->List (Str×V)
 | []=>[(f,v)]
 | (g,x)::r=>if g=f then(g,v)::r else(g,x)::eT f v r
theorem mw (f g:Str)(v:V):∀fs:List (Str×V),(eT f v fs).lookup g=if g=f then some v else fs.lookup g
 | []=>by
   show Mr g [(f,v)]=_
   by_cases h:g=f
   ·have hb:(g==f)=true:=beq_iff_eq.mpr h
    simp only[Mr,hb,if_pos h]
   ·have hb:(g==f)=false:=beq_eq_false_iff_ne.mpr h
    simp only[Mr,hb,if_neg h]
 | (k,x)::r=>by
   have ih:=mw f g v r
   rw[show eT f v ((k,x)::r)=(if k=f then(k,v)::r else(k,x)::eT f v r) from rfl]
   by_cases hk:k=f
   ·rw[if_pos hk]
    by_cases h:g=k
    ·have hb:(g==k)=true:=beq_iff_eq.mpr h
     simp only[Mr,hb,if_pos (h.trans hk)]
    ·have hb:(g==k)=false:=beq_eq_false_iff_ne.mpr h
     simp only[Mr,hb,if_neg (λe:g=f=>h (e.trans hk.symm))]
   ·rw[if_neg hk]
    by_cases h:g=k
    ·have hb:(g==k)=true:=beq_iff_eq.mpr h
     simp only[Mr,hb,if_neg (λe:g=f=>hk (h.symm.trans e))]
    ·have hb:(g==k)=false:=beq_eq_false_iff_ne.mpr h
     simp only[Mr,hb]
     exact ih
theorem lg (f:Str)(v:V):∀fs:List (Str×V),f∈(eT f v fs).map (·.1)/\∀g,g∈fs.map (·.1)->g∈(eT f v fs).map (·.1)
 | []=>⟨by simp[eT],λg h=>by simp at h⟩
 | (k,x)::r=>by
   obtain⟨i1,i2⟩:=lg f v r
   rw[show eT f v ((k,x)::r)=(if k=f then(k,v)::r else(k,x)::eT f v r) from rfl]
   by_cases hk:k=f
   ·rw[if_pos hk]
    subst hk
    exact⟨by simp,λg h=>by simpa using h⟩
   ·rw[if_neg hk]
    refine⟨?_,λg h=>?_⟩
    ·rw[Me]
     exact LN _ i1
    ·rw[Me] at h ⊢
     rcases LV.mp h with e | e
     ·exact LV.mpr (.inl e)
     ·exact LN _ (i2 g e)
theorem mC (f:Str)(v:V):∀fs:List (Str×V),(eT f v fs).length<=fs.length + 1
 | []=>by simp[eT]
 | (k,x)::r=>by
   have ih:=mC f v r
   rw[show eT f v ((k,x)::r)=(if k=f then(k,v)::r else(k,x)::eT f v r) from rfl]
   by_cases hk:k=f
   ·rw[if_pos hk,LR,LR];omega
   ·rw[if_neg hk,LR,LR];omega
theorem gN.some_of {v:V}{o:Lj}(r:gN (some v) o):∃u,o=some u/\RelV v u:=by
 cases o with
 | none=>exact(show False from r).elim
 | some u=>exact⟨u,rfl,r⟩
theorem xb {v:V}{u:Value}(r:RelV v u):PySem.W.handedIn u=true:=by
 cases v with
 | Rf=>cases (show u=Qu from r);rfl
 | bl b=>cases (show u=Qx b from r);rfl
 | int i=>obtain⟨t,e⟩:=(show∃t,u=Qv i t from r);cases e;rfl
 | str x=>obtain⟨t,e⟩:=(show∃t,u=Qw x t from r);cases e;rfl
 | S8 b=>obtain⟨t,e⟩:=(show∃t,u=Value.bytes b t from r);cases e;rfl
 | U2 b=>obtain⟨t,e⟩:=(show∃t,u=Qy b t from r);cases e;rfl
 | ref a=>cases (show u=Qt a from r);rfl
 | ty n=>cases (show u=Qz n from r);rfl
section
variable {P:Ob}{w:World}{H H':Hp}{h h':Heap}{a C dx:Addr}{fs fs':List (Str×V)}
theorem oG (Q3:dv P w H h)(e:H a=some (.ins C dx fs)):∃mA,oo h a dx C mA/\(∀f,gN (fs.lookup f) (mA f))/\Px mA (fs.map (·.1))/\fs.length<=1000/\H dx=some (.own a):=by
 obtain⟨d,z,ne,ob,mA,n,r,q⟩:=(show cv P w H h a (.ins C dx fs) from Q3 a _ e)
 exact⟨mA,⟨ob,n,ne⟩,r,q,z,d⟩
end
structure jM (K:QA) (C:Addr):Prop where
 pg:QM K C Str.empty=true
 hd:QL K C=true
 po:QN K C=true
 sa:QC K (.ref C) "__setattr__"=some (some (.builtin "object.__setattr__"))
theorem jM.get {K:QA}{C:Addr}(c:jM K C)(f:Str):QM K C f=true:=c.pg
def iR (K:QA)(C:Addr)(f:Str):Prop:=QC K (.ref C) f=some none
theorem iR.Hs {K:QA}{C:Addr}{f:Str}(n:iR K C f):QQ K C f=some none:=by
 unfold QQ
 rw[show QC K (.ref C) f=some none from n]
 rfl
section
variable {X:Cx}{QW:Lg}{σ:St}{H:Hp}{s:N5}{a C dx:Addr}{fs:List (Str×V)}{f:Str}{v:V}{A:Od}{E:Value->N5->Prop}
theorem v8 {b:Bool}{Q:Value->N5->Prop}(I:Inv X QW σ H s)(e:H a=some (.ins C dx fs))(c:jM X.K C)(n:iR X.K C f)(l:fs.lookup f=some v)
 (h:∀u s',Inv X QW σ H s'->RelV v u->Q u s'):wpAny (model X.prog X.w) A (getAttr (.ref a) f b) Q E s:=by
 obtain⟨mA,O,r,_,_,_⟩:=oG I.Q3 e
 obtain⟨u,hu,ru⟩:=gN.some_of (v:=v) (o:=mA f) (by rw[← l];exact r f)
 exact get_map I.eJ O (c.get f) c.hd n hu (xb ru) (h u _ (I.tok _) ru)
theorem vM {y:V}{u:Value}{Q:Unit->N5->Prop}(I:Inv X QW σ H s)(e:H a=some (.ins C dx fs))(c:jM X.K C)(n:iR X.K C f)(hl:fs.length < 1000)(ry:RelV y u)
 (h:∀s',Inv X QW σ (upd H a (.ins C dx (eT f y fs))) s'->Q () s'):wpAny (model X.prog X.w) A (setAttr (.ref a) f u) Q E s:=by
 obtain⟨mA,O,r,wi,_,ho⟩:=oG I.Q3 e
 have hz:(fs.map (·.1)).length<=N7:=by rw[LJ,O6];omega
 refine C1 I.eJ O c.sa c.po n.Hs c.hd wi hz λh' O' sb=>h _ ?_
 have hd:∃o,h'.get? dx=some o:=let ⟨o,_,_,e',_⟩:=O'.ns;⟨o,e'⟩
 refine I.write (x:=a) (e:=dx) (by rw[e];exact QV) (.inr ho) (λb q hb z=>(sb.2 b hb).trans z) hd ?_
 refine⟨by rw[aF O.ne];exact ho,?_,O.ne,O'.obj,_,O'.ns,λg=>?_,λg hg=>?_⟩
 ·have:=mC f y fs;omega
 ·show gN ((eT f y fs).lookup g) (if g=f then some u else mA g)
  rw[mw]
  by_cases q:g=f
  ·rw[if_pos q,if_pos q];exact ry
  ·rw[if_neg q,if_neg q];exact r g
 ·by_cases q:g=f
  ·rw[q];exact(lg f y fs).1
  ·refine(lg f y fs).2 g (wi g λz=>hg ?_)
   show(if g=f then some u else mA g)=none
   rw[if_neg q];exact z
theorem Inv.made (I:Inv X QW σ H s):Inv X QW σ (upd (upd H s.heap.objs.size (.own (s.heap.objs.size + 1))) (s.heap.objs.size + 1) (.ins C s.heap.objs.size []))
 {s with heap:=(s.heap.push QH).push (QJ C s.heap.objs.size)}:=by
 have e1:(s.heap.push QH).get? s.heap.objs.size=some QH:=Qb s.heap rfl
 have e2:((s.heap.push QH).push (QJ C s.heap.objs.size)).get? (s.heap.objs.size + 1)=some (QJ C s.heap.objs.size):=by
  have:=Qb (s.heap.push QH) (o:=QJ C s.heap.objs.size) rfl
  rwa [Qc] at this
 have e3:(s.heap.push QH).Ns s.heap.objs.size (λ_=>none):=⟨QH, #[],_,e1,rfl,(λe he=>absurd he (by simp)),λ_=>rfl⟩
 have I1:=I.laid (a:=s.heap.objs.size) (o:=.own (s.heap.objs.size + 1)) (h':=s.heap.push QH) (t':=s.toks) (λb u q=>P9 _ q) (Nm _) ⟨_,e1⟩
 refine I1.laid (a:=s.heap.objs.size + 1) (o:=.ins C s.heap.objs.size []) (t':=s.toks) (λb u q=>P9 _ q) (NJ (Qc _ _)) ?_
 have ne:s.heap.objs.size≠s.heap.objs.size + 1:=Nt (Ny _)
 refine⟨by rw[aF ne,aB],Np _,ne,e2,λ_=>none,(Heap.Ns1.of_empty e3).at λo q=>P9 _ q,λ_=>QV,λy hy=>absurd rfl hy⟩
theorem C7 {prog:Ob}{w:World}{env:Env}{e:Expr}{f:Str}{pos:Pos}{s:N5}{Q:Value->N5->Prop}(hb:Oc e f env (eval e env)=eval e env)
 (h:wpAny (model prog w) A (eval e env) (λo s₁=>wpAny (model prog w) A (getAttr o f true) Q E s₁) E s):wpAny (model prog w) A (eval (.Attribute e f pos) env) Q E s:=
 Attribute_any_ h (by rw[arm_eval_Attribute,hb])
end
def KD (K:QA)(ta:TE)(f:Str):TE:=λσ H Q=>ta σ H λx H1=>∃a C dx fs v,x= .ref a/\H1 a=some (.ins C dx fs)/\jM K C/\iR K C f/\fs.lookup f=some v/\Q v H1
def K4 (K:QA)(ta tv:TE)(f:Str):TS:=λD σ H=>tv σ H λy H1=>ta σ H1 λx H2=>∃a C dx fs,x= .ref a/\H2 a=some (.ins C dx fs)/\jM K C/\iR K C f/\fs.length < 1000/\
 D.nx σ (upd H2 a (.ins C dx (eT f y fs)))
section
variable {X:Cx}{o e value:Expr}{f:Str}{pos pos' tpos:Pos}{ta tv:TE}
theorem qX (he:PE X e ta)(hb:Oc e f X.env (eval e X.env)=eval e X.env):PE X (.Attribute e f pos) (KD X.K ta f):=by
 intro QW s σ H Q I h
 refine C7 hb (aL (he QW s σ H _ I h) λu s1 ⟨x,H1,I1,rx,a,C,dx,fs,v,ex,ea,c,n,l,q⟩=>?_)
 subst ex
 obtain rfl:u=Qt a:=rx
 exact v8 I1 ea c n l λu' s2 I2 ru=>⟨v,H1,I2,ru,q⟩
theorem Es (ha:PE X o ta)(hv:PE X value tv)(hs:Of value (some (.Attribute o f pos')) pos.line X.env=pure false):PS X (.Assign [.Attribute o f pos'] value pos) (K4 X.K ta tv f):=by
 intro QW s σ H D I h
 refine plainObj_wpAny_Assign_Attribute (aL (hv QW s σ H _ I h) λu s1 ⟨y,H1,I1,ry,q⟩=>aL (ha QW s1 σ H1 _ I1 q) λov s2 ⟨x,H2,I2,rx,a,C,dx,fs,ex,ea,c,n,l,q2⟩=>?_) hs
 subst ex
 obtain rfl:ov=Qt a:=rx
 exact vM I2 ea c n l ry λs3 I3=>⟨σ,_,I3,q2⟩
end
section
variable {X:Cx}{QW:Lg}{σ:St}{H:Hp}{s:N5}{A:Od}{E:Value->N5->Prop}{Q:Value->N5->Prop}{c:Value}{b:Bool}
inductive fG (K:QA) (H:Hp):V->Value->Prop where
 | Rf:fG K H .Rf (.type "NoneType")
 | bl (x:Bool):fG K H (.bl x) (.type "bool")
 | int (i:Int):fG K H (.int i) (.type "int")
 | str (x:Str):fG K H (.str x) (.type "str")
 | U2 (x:UInt64):fG K H (.U2 x) (.type "float")
 | lst {a:Addr} {xs:List V} (e:H a=some (.lst xs)):fG K H (.ref a) (.type "list")
 | So {a:Addr} {o:Obj} {xs:List V} (e:H a=some (.So o (.lst xs))):fG K H (.ref a) (.type "list")
 | tup {a:Addr} {xs:List V} (e:H a=some (.tup xs)):fG K H (.ref a) (.type "tuple")
 | dK {a:Addr} {kvs:List (Key×V)} (e:H a=some (.dK kvs)):fG K H (.ref a) (.type "dict")
 | dT {a:Addr} {kvs:List (List Key×V)} (e:H a=some (.dT kvs)):fG K H (.ref a) (.type "dict")
 | ins {a C dx:Addr} {fs:List (Str×V)} (e:H a=some (.ins C dx fs)) (cl:jM K C) (ha:QC K (.ref C) "__class__"=some (some (.builtin "object.__class__")))
  (hn:PySem.W.specialIn K (.builtin "object.__class__") "__get__"=some (some (.builtin "getset_descriptor.__get__"))) (htk:PySem.W.takesIn K (.builtin "object.__class__")=some true)
  (hm:PySem.W.mroIn K C (.type "object")=some true):fG K H (.ref a) (.ref C)
theorem yo {x:V}{u t:Value}(I:Inv X QW σ H s)(rx:RelV x u)(ty:fG X.K H x t)(e:QT X.K t c=some b)(h:∀tk,Q (.bool b) {s with toks:=tk}):
 wpAny (model X.prog X.w) A (call (.builtin "isinstance") [u,c]) Q E s:=by
 cases ty with
 | Rf=>cases (show u=Qu from rx);exact QF PySem.W.kitx_none I.eJ QV e (λz=>nomatch z) h
 | bl y=>cases (show u=Qx y from rx);exact QF PySem.W.kitx_bool I.eJ QV e (λz=>nomatch z) h
 | int i=>obtain⟨t,q⟩:=(show∃t,u=Qv i t from rx);cases q;exact QF PySem.W.kitx_int I.eJ QV e (λz=>nomatch z) h
 | str y=>obtain⟨t,q⟩:=(show∃t,u=Qw y t from rx);cases q;exact QF PySem.W.kitx_str I.eJ QV e (λz=>nomatch z) h
 | U2 y=>obtain⟨t,q⟩:=(show∃t,u=Qy y t from rx);cases q;exact QF PySem.W.kitx_float I.eJ QV e (λz=>nomatch z) h
 | @lst a xs ea=>
   cases (show u=Qt a from rx)
   obtain⟨_,_,n,_,h1⟩:=(show cv X.prog X.w H s.heap a (.lst xs) from I.Q3 a _ ea)
   exact QF PySem.W.kitx_list I.eJ ⟨_,h1,rfl⟩ e (λz=>nomatch z) h
 | @So a ob xs ea=>
   cases (show u=Qt a from rx)
   obtain⟨_,_,_,n,_,h1⟩:=(show cv X.prog X.w H s.heap a (.So ob (.lst xs)) from I.Q3 a _ ea)
   exact QF PySem.W.kitx_list I.eJ ⟨_,h1,rfl⟩ e (λz=>nomatch z) h
 | @tup a xs ea=>
   cases (show u=Qt a from rx)
   obtain⟨_,_,_,p⟩:=(show cv X.prog X.w H s.heap a (.tup xs) from I.Q3 a _ ea)
   obtain⟨o,h1,h2,_⟩:=p
   exact QF PySem.W.kitx_tuple I.eJ ⟨o,h1,h2⟩ e (λz=>nomatch z) h
 | @dK a kvs ea=>
   cases (show u=Qt a from rx)
   obtain⟨_,_,vs,_,p⟩:=(show cv X.prog X.w H s.heap a (.dK kvs) from I.Q3 a _ ea)
   obtain⟨o,es,ep,h1,h2,_⟩:=p
   exact QF PySem.W.kitx_dict I.eJ ⟨o,h1,h2.1⟩ e (λz=>nomatch z) h
 | @dT a kvs ea=>
   cases (show u=Qt a from rx)
   obtain⟨_,_,xs,_,o,es,ep,h1,h2,_⟩:=(show cv X.prog X.w H s.heap a (.dT kvs) from I.Q3 a _ ea)
   exact QF PySem.W.kitx_dict I.eJ ⟨o,h1,h2.1⟩ e (λz=>nomatch z) h
 | @ins a C dx fs ea cl ha hn htk hm=>
   cases (show u=Qt a from rx)
   obtain⟨mA,O,_⟩:=oG I.Q3 ea
   obtain⟨od,J,_⟩:=O.look
   exact QF (PySem.W.kitx_own (cl.get _) cl.hd ha hn htk hm) I.eJ J e (λz=>nomatch z) h
end
section
variable {A:Od}
structure bI (k:Nat) (A:Od):Prop where
 hd:A.handled=none
 dp:A.depth + 3 * k + 5 < recursionLimit
 un:A.units + 16 * k + 200 < cLine
theorem bI.mono {j k:Nat}(r:bI k A)(h:j<=k):bI j A:=⟨r.hd,by have:=r.dp;omega,by have:=r.un;omega⟩
theorem bI.deeper {k:Nat}(r:bI (k + 1) A)(env:Env):bI k (A.deeper env):=
 ⟨r.hd,by have:=r.dp;show A.depth + 1 + 3 * k + 5 < _;omega,by have:=r.un;show A.units + 3 + 16 * k + 200 < _;omega⟩
theorem vF {C:Addr}{us:Ll}{kw:List (Str×Value)}:(A.under (.builtin "type.__call__" ⟨.ref C::us,kw⟩)).depth=A.depth + 1:=by
 first | rfl | simp[Od.under,Code.weight,Code.isCreation,Code.isGuard,Code.isCaller,Code.frames,PX,guardIds]
theorem vQ {C:Addr}{us:Ll}{kw:List (Str×Value)}:(A.under (.builtin "type.__call__" ⟨.ref C::us,kw⟩)).units=A.units + 1:=by
 first | rfl | simp[Od.under,Code.cUnits,Code.frames,PX]
theorem bI.make {k:Nat}(r:bI (k + 1) A)(C:Addr)(us:Ll)(kw:List (Str×Value)):bI k (A.under (.builtin "type.__call__" ⟨.ref C::us,kw⟩)):=
 ⟨r.hd,by have:=r.dp;rw[vF];omega,by have:=r.un;rw[vQ];omega⟩
theorem bI.depth {k:Nat}(r:bI k A):A.depth < recursionLimit:=by have:=r.dp;omega
theorem bI.units {k:Nat}(r:bI k A):A.units + 64 < cLine:=by have:=r.un;omega
def K5:TA:=λ_ H Q=>Q [] H
def Jj (ta:TE)(tr:TA):TA:=λσ H Q=>ta σ H λx H1=>tr σ H1 λxs H2=>Q (x::xs) H2
end
section
variable {X:Cx}{e:Expr}{es:Lm}{te:TE}{t:TA}{pos:Pos}
theorem bE:PA X [] K5:=λ_ _ _ _ H Q I h=>Calls.spliced_nil ⟨[],H,I,.nil,h⟩
theorem aV (ha:PE X e te)(hr:PA X es t)(hs:N8 (e::es) X.env=(false,eval e X.env)::N8 es X.env:=by rfl):PA X (e::es) (Jj te t):=by
 intro pos QW s σ H Q I h
 rw[hs]
 show wpAny _ _ (spliced ((false,eval e X.env)::Oe pos (N8 es X.env))) _ _ s
 refine PU (aL (ha QW s σ H _ I h) λu s1 ⟨x,H1,I1,r1,q1⟩=>?_)
 exact aL (hr pos QW s1 σ H1 _ I1 q1) λus s2 ⟨xs,H2,I2,r2,q2⟩=>⟨x::xs,H2,I2,.cons r1 r2,q2⟩
def K0 (t:TA):TE:=λσ H Q=>t σ H λxs H1=>xs.length<=N7/\∀p,H1 p=none->Q (.ref p) (upd H1 p (.tup xs))
def K3 (t:TA):TE:=λσ H Q=>t σ H λxs H1=>xs.length<=N7/\∀p,H1 p=none->Q (.ref p) (upd H1 p (.lst xs))
theorem xm {x1}(h:PA X es t):PE X (.Tuple es x1 pos) (K0 t):=by
 intro QW s σ H Q I hq
 refine wpAny_Tuple_spliced (aL (h pos QW s σ H _ I hq) λus s1 ⟨xs,H1,I1,r,z,q⟩=>⟨by rw[← r.length];exact z,?_⟩)
 have hf:H1 s1.heap.objs.size=none:=I1.Q3.fresh (Nm _)
 refine⟨.ref s1.heap.objs.size,upd H1 s1.heap.objs.size (.tup xs),I1.laid (t':=s1.toks) (λb u e=>P9 _ e) (Nm _) ?_,rfl,q _ hf⟩
 exact⟨z,us,r,⟨_,Qb _ rfl,rfl,_,rfl⟩⟩
theorem Gw (h:PA X es t):PE X (.List es pos) (K3 t):=by
 intro QW s σ H Q I hq
 refine wpAny_List_spliced (aL (h pos QW s σ H _ I hq) λus s1 ⟨xs,H1,I1,r,z,q⟩=>⟨by rw[← r.length];exact z,?_⟩)
 have hf:H1 s1.heap.objs.size=none:=I1.Q3.fresh (Nm _)
 refine⟨.ref s1.heap.objs.size,upd H1 s1.heap.objs.size (.lst xs),I1.laid (t':=s1.toks) (λb u e=>P9 _ e) (Nm _) ?_,rfl,q _ hf⟩
 exact⟨z,us,0,r,Qb _ rfl⟩
end
abbrev Sp:=List V->Hp->VK->XK->Prop
abbrev kN:=List Env->Hp->N5->XK->Value->N5->Prop
structure m9 (P:Ob) (w:World) (K:QA) (mg:Lf) (base:Heap) (A:Od) (outer:List Env) (s:N5) (H:Hp):Prop where
 frames:A.frames=some outer
 mod:Mod K mg base
 bs:∀b o,base.get? b=some o->s.heap.get? b=some o/\H b=none
 Ua:base.objs.size<=s.heap.objs.size
 Sa:s.heap.FunFrames base outer
 U1:∀b∈jQ outer,H b=none
 Q3:dv P w H s.heap
 bare:N2 s.gens
def CE (outer:List Env)(P:Ob)(w:World)(H:Hp)(s:N5)(Q:VK)(u:Value)(s':N5):Prop:=
 ∃v H',s'.os=s.os/\N2 s'.gens/\Un (jQ outer) [] H H' s.heap s'.heap/\dv P w H' s'.heap/\RelV v u/\Q v H'
def CR (CX:kN)(outer:List Env)(P:Ob)(w:World)(H:Hp)(s:N5)(Q:VK)(E:XK)(r:Result)(s':N5):Prop:=
 match r with
 | .ok (.ret u)=>CE outer P w H s Q u s'
 | .ok _=>False
 | .error e=>CX outer H s E e s'
structure dz (P:Ob) (w:World) (K:QA) (mg:Lf) (base:Heap) (CX:kN) (k:Nat) (f:Addr) (fd:Og) (ps:Li) (sp:Sp):Prop where
 len:∀vs H Q E,sp vs H Q E->vs.length=ps.length
 run:∀(A:Od) (outer:List Env) (s:N5) (H:Hp) (args:Args) (us:Ll) (vs:List V) (Q:VK) (E:XK),bI k A->m9 P w K mg base A outer s H->Po s fd args (ps.zip us)->Vals vs us->sp vs H Q E->
  O5 (model P w) A (.call (.ref f) args) (CR CX outer P w H s Q E) s
theorem dz.mono {P:Ob}{w:World}{K:QA}{mg:Lf}{base:Heap}{CX:kN}{j k:Nat}{f:Addr}{fd:Og}{ps:Li}{sp:Sp}(F:dz P w K mg base CX j f fd ps sp)(h:j<=k):
 dz P w K mg base CX k f fd ps sp:=⟨F.len,λA outer s H args us vs Q E hr=>F.run A outer s H args us vs Q E (hr.mono h)⟩
theorem m9.make {P:Ob}{w:World}{K:QA}{mg:Lf}{base:Heap}{A:Od}{outer:List Env}{s:N5}{H:Hp}(e:m9 P w K mg base A outer s H)(C:Addr)(us:Ll)(kw:List (Str×Value)):
 m9 P w K mg base (A.under (.builtin "type.__call__" ⟨.ref C::us,kw⟩)) outer s H:=⟨by first | exact e.frames | (simpa[Od.under,Code.envs,PX,pushEnvs] using e.frames),e.mod,e.bs,e.Ua,e.Sa,e.U1,e.Q3,e.bare⟩
section
variable {X:Cx}{QW:Lg}{σ:St}{H:Hp}{s s':N5}
theorem Inv.GL (I:Inv X QW σ H s):m9 X.prog X.w X.K X.mg X.base X.A X.stack s H:=
 ⟨I.ok.frames,I.ok.mod,I.bs,Nn I.ok.Ua I.sz,I.stack,I.tX,I.Q3,I.bare⟩
theorem Inv.after {Q:VK}{u:Value}(I:Inv X QW σ H s)(h:CE X.stack X.prog X.w H s Q u s'):EP X QW σ Q u s':=by
 obtain⟨v,H',os,bare,un,Q3,r,q⟩:=h
 obtain⟨hh,g,d,t,os'⟩:=s'
 obtain rfl:os'=s.os:=os
 exact⟨v,H',I.call (h':=hh) (g':=g) (d':=d) (t':=t) (ch:=[]) un Q3 bare (λb z=>absurd z (by simp)),r,q⟩
end
def HU (sp:Sp)(SW:List V)(E:XK)(t:TA):TE:=λσ H Q=>t σ H λvs H1=>sp (vs++SW) H1 Q E
def HN (C:Addr)(sp:Sp)(SW:List V)(E:XK)(t:TA):TE:=λσ H Q=>t σ H λvs H1=>∀x dx,H1 x=none->H1 dx=none->dx≠x->
 sp (.ref x::(vs++SW)) (upd (upd H1 dx (.own x)) x (.ins C dx [])) (λv H2=>v= .Rf/\Q (.ref x) H2) E
def Binds (K:QA)(fd:Og)(ps:Li)(ds:Ll):Prop:=
 ∀(s:N5) (us:Ll),K.In s.heap->(us++ds).length=ps.length->Po s fd ⟨us,[]⟩ (ps.zip (us++ds))
theorem Binds.all {K:QA}{fd:Og}{ps:Li}(h:∀us:Ll,us.length=ps.length->bindArgs fd ⟨us,[]⟩=pure (ps.zip us)):Binds K fd ps []:=λs us _ hl=>by
 rw[Mh] at hl ⊢
 exact .of_eq (h us hl)
def Passes (CX:kN)(X:Cx)(E:XK):Prop:=∀(QW:Lg) (σ:St) (H:Hp) (s:N5) (e:Value) (s':N5),Inv X QW σ H s->CX X.stack H s E e s'->X.xe e s'
section
variable {X:Cx}{CX:kN}{k:Nat}{f C:Addr}{fd:Og}{ps:Li}{sp:Sp}{SW:List V}{ds:Ll}{E:XK}{x m:Str}{p pos apos:Pos}{e o:Expr}{es:Lm}{ta:TE}{t:TA}
theorem D6 {QW:Lg}{σ:St}{H:Hp}{s:N5}{Q:VK}{us:Ll}{vs:List V}(F:dz X.prog X.w X.K X.mg X.base CX k f fd ps sp)(hr:bI k X.A)(hb:Binds X.K fd ps ds)(hd:Vals SW ds)(hx:Passes CX X E)
 (I:Inv X QW σ H s) (r:Vals vs us) (h:sp (vs++SW) H Q E):wpAny (model X.prog X.w) X.A (call (.ref f) us) (EP X QW σ Q) X.xe s:=by
 have r2:Vals (vs++SW) (us++ds):=r.append hd
 have hl:(us++ds).length=ps.length:=by rw[← r2.length];exact F.len _ _ _ _ h
 refine wpAny_call (Pe (F.run X.A X.stack s H ⟨us,[]⟩ (us++ds) (vs++SW) Q E hr I.GL (hb s us I.eJ hl) r2 h) λr s' hq=>?_)
 cases r with
 | error e=>exact hx QW σ H s e s' I hq
 | ok fl=>
   cases fl with
   | ret u=>exact I.after hq
   | next=>exact Lw hq
   | brk=>exact Lw hq
   | cont=>exact Lw hq
theorem oF (F:dz X.prog X.w X.K X.mg X.base CX k f fd ps sp)(hr:bI k X.A)(hg:Gl X x)(hm:X.mg x=some (.ref f))(hk:QG X.K (.ref f)=true)(hb:Binds X.K fd ps ds)(hd:Vals SW ds)(hx:Passes CX X E)
 (ha:PA X (e::es) t) (RN:Rh x:=by decide) (he:N8 (e::es) X.env=(false,eval e X.env)::N8 es X.env:=by rfl) (Rj:(Oe pos (N8 es X.env)).any (·.1)=false:=by rfl):
 PE X (.Call (.Name x p) (e::es) [] pos) (HU sp SW E t):=by
 intro QW s σ H Q I h
 refine OR (oT I hg hm ?_ RN)
 refine PySem.W.callWith_K (h₀:=X.base) I.ok.mod.kin hk (aL (ha pos QW s σ H _ I h) λus s1 ⟨vs,H1,I1,r,q⟩=>⟨I1.eJ,?_⟩) he Rj
 exact D6 F hr hb hd hx I1 r q
structure Mk (K:QA) (C f:Addr):Prop where
 makes:QO K C=true
 init:QC K (.ref C) "__init__"=some (some (.ref f))
 fn:QU K (.ref f)=true
 kp:QG K (.ref C)=true
theorem z6 {QW:Lg}{σ:St}{H:Hp}{s:N5}{Q:VK}{us:Ll}{vs:List V}(M:Mk X.K C f)(F:dz X.prog X.w X.K X.mg X.base CX k f fd ps sp)(hr:bI (k + 1) X.A)(hb:Binds X.K fd ps ds)(hd:Vals SW ds)
 (hx:Passes CX X E) (I:Inv X QW σ H s) (r:Vals vs us)
 (h:∀x dx,H x=none->H dx=none->dx≠x->sp (.ref x::(vs++SW)) (upd (upd H dx (.own x)) x (.ins C dx [])) (λv H2=>v= .Rf/\Q (.ref x) H2) E):
 wpAny (model X.prog X.w) X.A (call (.ref C) us) (EP X QW σ Q) X.xe s:=by
 have hq:=h (s.heap.objs.size + 1) s.heap.objs.size (I.Q3.fresh (Nx _)) (I.Q3.fresh (Nm _)) (Nt (Ny _))
 have I2:=Inv.made (C:=C) I
 have r2:Vals (V.ref (s.heap.objs.size + 1)::(vs++SW)) (Qt (s.heap.objs.size + 1)::(us++ds)):=.cons rfl (r.append hd)
 have hl:(Qt (s.heap.objs.size + 1)::us++ds).length=ps.length:=by
  have e:=r2.length
  rw[F.len _ _ _ _ hq] at e
  exact e.symm
 refine wpAny_call (Am (f:=f) I.eJ M.makes M.init (beq_iff_eq.mp M.fn) (Pe (F.run _ X.stack _ _ ⟨Qt (s.heap.objs.size + 1)::us,[]⟩ (Qt (s.heap.objs.size + 1)::(us++ds)) _ _ E (hr.make C us [])
  (I2.GL.make C us []) (hb _ (Qt (s.heap.objs.size + 1)::us) I2.eJ hl) r2 hq) λr s' R9=>?_))
 cases r with
 | error e=>exact hx QW σ _ _ e s' I2 R9
 | ok fl=>
   cases fl with
   | ret u=>
     obtain⟨v,H',I3,rv,ev,q3⟩:=I2.after R9
     subst ev
     exact⟨rv,⟨V.ref (s.heap.objs.size + 1),H',I3,rfl,q3⟩⟩
   | next=>exact Lw R9
   | brk=>exact Lw R9
   | cont=>exact Lw R9
theorem B9 (M:Mk X.K C f)(F:dz X.prog X.w X.K X.mg X.base CX k f fd ps sp)(hr:bI (k + 1) X.A)(hg:Gl X x)(hm:X.mg x=some (.ref C))(hb:Binds X.K fd ps ds)(hd:Vals SW ds)(hx:Passes CX X E)
 (ha:PA X (e::es) t) (RN:Rh x:=by decide) (he:N8 (e::es) X.env=(false,eval e X.env)::N8 es X.env:=by rfl) (Rj:(Oe pos (N8 es X.env)).any (·.1)=false:=by rfl):
 PE X (.Call (.Name x p) (e::es) [] pos) (HN C sp SW E t):=by
 intro QW s σ H Q I h
 refine OR (oT I hg hm ?_ RN)
 refine PySem.W.callWith_K (h₀:=X.base) I.ok.mod.kin M.kp (aL (ha pos QW s σ H _ I h) λus s1 ⟨vs,H1,I1,r,q⟩=>⟨I1.eJ,?_⟩) he Rj
 exact z6 M F hr hb hd hx I1 r q
end
section
variable {X:Cx}{CX:kN}{k:Nat}{f C:Addr}{fd:Og}{ps ks:Li}{sp:Sp}{E:XK}{x m:Str}{p pos apos kpos:Pos}{e o:Expr}{es:Lm}{kws:List Oi}{te ta:TE}{t tk:TA}{nm:Option Str}
variable {g:Ll->Ll->Ll}{gV:List V->List V->List V}
end
structure aH (N P:Li) (sc:Scope):Prop where
 kind:sc.kind= .function
 co:sc.isCoroutine=false
 gen:sc.isGenerator=false
 nd:N.Nodup
 pre:N.take P.length=P
 par:∀x∈P,sc.names.lookup x=some .local∨sc.names.lookup x=some .cell
 UD:∀y∈sc.names,y.2≠ .free
theorem Rp{N P:Li}{sc:Scope}(a:sc.kind=.function:=by rfl)(b:sc.isCoroutine=false:=by rfl)(c:sc.isGenerator=false:=by rfl)(d:N.Nodup:=by decide +kernel)(e:N.take P.length=P:=by rfl)(f:∀x∈P,sc.names.lookup x=some .local∨sc.names.lookup x=some .cell:=by decide +kernel)(g:∀y∈sc.names,y.2≠.free:=by decide +kernel):aH N P sc:=⟨a,b,c,d,e,f,g⟩
theorem pV {kindOf:Str->Option OM}{x:Str}:∀{binds:List (Str×Value)} {m:Lf},(∀v,(x,v)∉binds)->bindL kindOf binds m x=m x
 | [],_,_=>rfl
 | (n,v)::r,m,h=>by
   unfold bindL
   rw[pV λw hw=>h w (LN _ hw)]
   split
   ·have:x≠n:=by rintro rfl;exact h v LP
    simp[this]
   ·rfl
theorem pR {kindOf:Str->Option OM}{x:Str}:∀{binds:List (Str×Value)} {m:Lf},(∀v,(x,v)∉binds)->bindC kindOf binds m x=m x
 | [],_,_=>rfl
 | (n,v)::r,m,h=>by
   unfold bindC
   rw[pR λw hw=>h w (LN _ hw)]
   split
   ·rfl
   ·have:x≠n:=by rintro rfl;exact h v LP
    simp[this]
theorem pO {kindOf:Str->Option OM}{x:Str}{v:Value}:∀{P:Li} {vs:Ll} {i:Nat} {m:Lf},P.Nodup->P[i]?=some x->vs[i]?=some v->kindOf x=some .local->
 bindL kindOf (P.zip vs) m x=some v
 | [],_,_,_,_,h,_,_=>by simp at h
 | _::_,[],_,_,_,_,h,_=>by simp at h
 | p::P,w::vs,0,m,nd,h1,h2,hk=>by
   simp at h1 h2;subst h1;subst h2
   show bindL kindOf ((p,w)::P.zip vs) m p=_
   unfold bindL
   rw[pV λv hv=>(Mg.mp nd).1 (MU hv).1,if_pos hk]
   simp
 | p::P,w::vs,i + 1,m,nd,h1,h2,hk=>by
   show bindL kindOf ((p,w)::P.zip vs) m x=_
   unfold bindL
   exact pO (i:=i) (Mg.mp nd).2 (by simpa using h1) (by simpa using h2) hk
theorem pK {kindOf:Str->Option OM}{x:Str}{v:Value}:∀{P:Li} {vs:Ll} {i:Nat} {m:Lf},P.Nodup->P[i]?=some x->vs[i]?=some v->kindOf x≠some .local->
 bindC kindOf (P.zip vs) m x=some v
 | [],_,_,_,_,h,_,_=>by simp at h
 | _::_,[],_,_,_,_,h,_=>by simp at h
 | p::P,w::vs,0,m,nd,h1,h2,hk=>by
   simp at h1 h2;subst h1;subst h2
   show bindC kindOf ((p,w)::P.zip vs) m p=_
   unfold bindC
   rw[pR λv hv=>(Mg.mp nd).1 (MU hv).1,if_neg hk]
   simp
 | p::P,w::vs,i + 1,m,nd,h1,h2,hk=>by
   show bindC kindOf ((p,w)::P.zip vs) m x=_
   unfold bindC
   exact pK (i:=i) (Mg.mp nd).2 (by simpa using h1) (by simpa using h2) hk
def start (N:Li)(vs:List V):St:=vs.map some++ME (N.length - vs.length) none
def fA (CX:kN)(P:Ob)(w:World)(K:QA)(mg:Lf)(base:Heap)(N:Li)(qual:Str)(scope:Scope)(f:Addr)(cd:Value)(A:Od)(outer:List Env)(s:N5)(H:Hp)(E:XK):Cx where
 prog:=P
 w:=w
 K:=K
 mg:=mg
 base:=base
 A:=A.deeper (NY qual scope s.heap.objs.size f cd)
 N:=N
 s₀:=s
 H₀:=H
 env:=NY qual scope s.heap.objs.size f cd
 outer:=outer
 stack:=NY qual scope s.heap.objs.size f cd::outer
 ex:=[]
 calm:=true
 fn:=λ_=>true
 pn:=[]
 xe:=λe s'=>wpAny (model P w) (A.deeper (NY qual scope s.heap.objs.size f cd)) (leaving (NY qual scope s.heap.objs.size f cd) e) (λ_ s''=>CX outer H s E e s'') (λe' s''=>CX outer H s E e' s'') s'
theorem bh {sc:Scope}{n:Nat}{x:Str}(h:sc.names.lookup x=some .cell):∃c,(cellsFrom n sc.names []).lookup x=some c:=by
 have q:=PySem.W.cellsFrom_some sc.names n [] (.inl h)
 exact Option.isSome_iff_exists.mp q
theorem xW {CX:kN}{P:Ob}{w:World}{K:QA}{mg:Lf}{base:Heap}{N ps:Li}{qual:Str}{scope:Scope}{f:Addr}{cd:Value}{A:Od}{outer:List Env}{s s1:N5}{H:Hp}{E:XK}{us:Ll}{vs:List V}
 (S:aH N ps scope) (hd:A.handled=none) (e0:m9 P w K mg base A outer s H) (hl:vs.length=ps.length) (r:Vals vs us)
 (x:InCallC s s.heap.objs.size (bindL (NY qual scope s.heap.objs.size f cd).kindOf (ps.zip us) λ_=>none) (cellsFrom (s.heap.objs.size + 1) scope.names []) (bindC (NY qual scope s.heap.objs.size f cd).kindOf (ps.zip us) λ_=>none) s1):
 Inv (fA CX P w K mg base N qual scope f cd A outer s H E) [] (start N vs) H s1:=by
 have Rj:ps.length<=N.length:=by have:=congrArg List.length S.pre;rw[L0] at this;omega
 obtain⟨h1,tk,rfl,hk⟩:=x.done
 have Vr:∀b:Addr,b∉(fA CX P w K mg base N qual scope f cd A outer s H E).ex:=λb z=>absurd (show b∈([]:Lk) from z) (by simp)
 refine⟨⟨e0.mod,S.kind,rfl,rfl,Nm _,λy z c h1 h2=>?_,λy hy=>?_,λy c _ h=>?_,λ_=>hd,Od.frames_deeper e0.frames,.inr ⟨rfl,rfl⟩,λb z=>absurd z (Vr b),e0.bs,e0.Ua,λb _ _=>Vr b,λb z=>absurd z (Vr b),e0.Sa,e0.U1⟩,
  rfl,e0.bare,Un.kept hk,⟨_,x.toInCall.ns,λi y v h1 h2 h3=>?_⟩,λy c h=>⟨_,x.cell y c h⟩,e0.Q3.fresh (Nm _),λy c h=>?_,λp hp=>absurd (show p∈([]:Lg) from hp) (by simp),e0.Q3.kept hk,?_⟩
 ·exact name_of_addr x.apart (Ol h1) (Ol h2)
 ·have hy:scope.names.lookup y=some .cell∨scope.names.lookup y=some .free:=hy
  rcases hy with hy | hy
  ·exact bh hy
  ·exact absurd rfl (S.UD _ (Ol hy))
 ·exact NI (x.above y c (Ol h))
 ·have hi:i < vs.length:=by
   unfold start at h2
   by_cases hi:i < vs.length
   ·exact hi
   ·rw[L8 (by simpa using hi)] at h2
    rw[My] at h2
    split at h2<;>cases h2
  have ha:vs[i]?=some v:=by
   unfold start at h2
   rw[L4 (by simpa using hi),LM] at h2
   cases e:vs[i]? with
   | none=>rw[e] at h2;cases h2
   | some a=>rw[e] at h2;cases h2;rfl
  obtain⟨u,hu,rv⟩:=r.get ha
  have hp:ps[i]?=some y:=by
   rw[← S.pre,List.getElem?_take_of_lt (by omega)];exact h1
  have ndP:ps.Nodup:=by rw[← S.pre];exact S.nd.sublist (List.take_sublist _ _)
  refine⟨u,rv,?_⟩
  rcases S.par y (LO hp) with k | k
  ·exact .inl ⟨k,pO ndP hp hu k⟩
  ·obtain⟨c,e⟩:=bh (n:=s.heap.objs.size + 1) k
   refine .inr ⟨.inl k,c,e,?_⟩
   have q:=x.cell y c e
   rw[pK ndP hp hu (by show scope.names.lookup y≠_;rw[k];decide)] at q
   exact q
 ·exact e0.Q3.fresh (NI (x.above y c (Ol h)))
 ·unfold start
  show _=N.length
  rw[LL,LJ,Mp]
  omega
theorem Hm {CX:kN}{P:Ob}{w:World}{K:QA}{mg:Lf}{base:Heap}{k:Nat}{f:Addr}{name qual:Str}{params:Arguments}{body:List Stmt}{scope:Scope}{dV kV doc pm Q2 ct oc:Value}{an od:Option Addr}
 {S3:Array Lj} {N ps:Li} {sp:Sp} (lk:K.lookup f=some ⟨oc,od,.func (QI name qual params body scope dV kV doc pm an Q2 ct),S3⟩) (Q4:QK K Q2 qual=true) (S:aH N ps scope)
 (len:∀vs H Q E,sp vs H Q E->vs.length=ps.length)
 (Ro:∀(A:Od) (outer:List Env) (s:N5) (H:Hp) (vs:List V) (Q:VK) (E:XK),bI k (A.deeper (NY qual scope s.heap.objs.size f Q2))->sp vs H Q E->
  ∃t,i5 (fA CX P w K mg base N qual scope f Q2 A outer s H E) body t/\t {nx:=λ_ H'=>Q .Rf H',rt:=Q} (start N vs) H):
 dz P w K mg base CX (k + 1) f (QI name qual params body scope dV kV doc pm an Q2 ct) ps sp:=by
 refine⟨len,λA outer s H args us vs Q E hr e0 hb r Tb=>?_⟩
 have hl:=len _ _ _ _ Tb
 have KX:K.In s.heap:=e0.mod.kin.keeps λb o e=>(e0.bs b o e).1
 have lim:s.heap.NoLimit:=e0.mod.nolimit.keeps λb o e=>(e0.bs b o e).1
 have VS:∀y∈ps.zip us,scope.names.lookup y.1=some .local∨(scope.names.lookup y.1=some .cell/\((cellsFrom (s.heap.objs.size + 1) scope.names []).lookup y.1).isSome=true):=λ⟨n,v⟩ hy=>by
  rcases S.par n (MU hy).1 with q | q
  ·exact .inl q
  ·exact .inr ⟨q,PySem.W.cellsFrom_some _ _ _ (.inl q)⟩
 refine codeAny_call_function hr.depth (KX _ _ lk) rfl S.co S.gen rfl (PySem.W.codeRec_of KX Q4) (hb _ _ _ _ ?_)
 refine wpAny_newFunctionEnv_cells S.kind VS λenv he s1 x=>?_
 subst he
 refine⟨lim.keeps x.toInCall.keep,codeAny_func ?_⟩
 obtain⟨t,ht,hq⟩:=Ro A outer s H vs Q E (hr.deeper _) Tb
 have I:Inv (fA CX P w K mg base N qual scope f Q2 A outer s H E) [] (start N vs) H s1:=xW S hr.hd e0 hl r x
 refine Oo (ht [] s1 (start N vs) H _ I hq) (λfl s' hs=>?_) λe s' hs=>hs
 have fin:∀{σ':St} {H':Hp} {v:V} {u:Value},Inv (fA CX P w K mg base N qual scope f Q2 A outer s H E) [] σ' H' s'->RelV v u->Q v H'->CE outer P w H s Q u s':=
  λ{σ' H' v u} J rv q=>⟨v,H',J.os,J.bare,J.base,J.Q3,rv,q⟩
 cases fl with
 | ret u=>
   obtain⟨v,σ',H',J,rv,q⟩:=hs
   exact fin J rv q
 | next=>
   obtain⟨σ',H',J,q⟩:=hs
   exact fin (v:=V.Rf) (u:=Qu) J rfl q
 | brk=>
   obtain⟨_,_,_,q⟩:=hs
   exact Lw q
 | cont=>
   obtain⟨_,_,_,q⟩:=hs
   exact Lw q
section
variable {X:Cx}{x:Str}{p pos:Pos}{e:Expr}{es:Lm}{t:TA}{id T:String}{r:List V->Hp->VK->Prop}
def JJ (r:List V->Hp->VK->Prop)(t:TA):TE:=λσ H Q=>t σ H λvs H1=>r vs H1 Q
theorem dA (hc:dR X (.builtin id) r)(hg:Gl X x)(hm:X.mg x=none)(hv:OB x=some (.builtin id))(ha:PA X (e::es) t)(hn:x≠"__name__":=by decide)(RN:Rh x:=by decide)
 (he:N8 (e::es) X.env=(false,eval e X.env)::N8 es X.env:=by rfl) (Rj:(Oe pos (N8 es X.env)).any (·.1)=false:=by rfl):PE X (.Call (.Name x p) (e::es) [] pos) (JJ r t):=by
 intro QW s σ H Q I h
 refine OR (fI I hg hm hv ?_ hn RN)
 exact PyProof.Rows.callWith_builtin1 (aL (ha pos QW s σ H _ I h) λus s1 ⟨vs,H1,I1,r1,q1⟩=>hc QW s1 σ H1 vs us Q I1 r1 q1) he Rj
theorem f6 (hc:dR X (.type T) r)(hg:Gl X x)(hm:X.mg x=none)(hv:OB x=some (.type T))(ha:PA X (e::es) t)(hn:x≠"__name__":=by decide)(RN:Rh x:=by decide)
 (he:N8 (e::es) X.env=(false,eval e X.env)::N8 es X.env:=by rfl) (Rj:(Oe pos (N8 es X.env)).any (·.1)=false:=by rfl):PE X (.Call (.Name x p) (e::es) [] pos) (JJ r t):=by
 intro QW s σ H Q I h
 refine OR (fI I hg hm hv ?_ hn RN)
 exact NV (aL (ha pos QW s σ H _ I h) λus s1 ⟨vs,H1,I1,r1,q1⟩=>hc QW s1 σ H1 vs us Q I1 r1 q1) he Rj
end
end L2
namespace HT
open PySem PyProof.Rows
section
open PySem.SeqAt
open PySem.AutoSeq1 (wpAny_loadPart')
open PySem.MeetsSeq PySem.MeetsSeq2 PySem.MeetsSeq3
end
section
variable {prog:Ob}{w:World}{A:Od}{E:Value->N5->Prop}{s:N5}
def Rc (n d:Nat):Option Int->Nat
 | none=>d
 | some v=>if v < 0 then(v + (n:Int)).toNat else min v.toNat n
theorem Hc (n d:Nat)(hd:d<=n)(o:Option Int):Rc n d o<=n:=by
 cases o with
 | none=>exact hd
 | some v=>
   show(if v < 0 then(v + (n:Int)).toNat else min v.toNat n)<=n
   by_cases hv:v < 0
   ·rw[if_pos hv];omega
   ·rw[if_neg hv];exact NH _ _
theorem vg (v:Int)(n d:Nat):(if v < 0 then max (v + (n:Int)) 0 else min v (n:Int))=((Rc n d (some v):Nat):Int):=by
 show(if v < 0 then max (v + (n:Int)) 0 else min v (n:Int))=(((if v < 0 then(v + (n:Int)).toNat else min v.toNat n):Nat):Int)
 by_cases hv:v < 0
 ·simp only[if_pos hv];omega
 ·simp only[if_neg hv];omega
theorem vK (lo hi:Option Int)(n:Nat):PJ lo hi 1 (n:Int)=(((Rc n 0 lo:Nat):Int),((Rc n n hi:Nat):Int)):=by
 have h1:¬((1:Int) < 0):=by omega
 unfold PJ
 simp only[h1,if_false]
 refine NU ?_ ?_
 ·cases lo with
  | none=>rfl
  | some v=>exact vg v n 0
 ·cases hi with
  | none=>rfl
  | some v=>exact vg v n n
theorem vy (i j:Nat):PH (i:Int) (j:Int) 1=j - i:=by
 unfold PH
 have h1:(1:Int) > 0:=by omega
 simp only[h1,if_true,Int.ediv_one]
 split<;>omega
theorem nq {v:Value}{o:Option Int}{Q:Option Int->N5->Prop}(p:OZ v o)(h:Q o s):wpAny (model prog w) A (Builtin.Slice.slicePartIndex v) Q E s:=by
 cases p with
 | none=>exact slicePart_none h
 | int i t=>exact slicePart_int h
theorem i6 {sl:Addr}{vl vu:Value}{lo hi:Option Int}{n:Nat}{Q:Int×Int×Nat->N5->Prop}(hs:s.heap.IsSliceOf sl vl vu .none)(pl:OZ vl lo)(pu:OZ vu hi)
 (h:Q (((Rc n 0 lo:Nat):Int),1,Rc n n hi - Rc n 0 lo) s):wpAny (model prog w) A (Builtin.Slice.sliceApplied (.ref sl) (pure (n:Int))) Q E s:=by
 obtain⟨os,UQ,hcs,VY⟩:=id hs
 unfold Builtin.Slice.sliceApplied Builtin.Slice.sliceFields
 refine N6 (N6 (Om UQ VY (x:=vl) rfl (N6 (Om UQ VY (x:=vu) rfl (N6 (Om UQ VY (x:=.none) rfl (Oa ?_)))))))
 refine N6 (slicePart_none ?_)
 show wpAny _ _ (if((1:Int)==0)=true then _ else _) _ _ s
 rw[if_neg (by decide)]
 refine N6 (nq pl (N6 (nq pu (N6 (Oa ?_)))))
 show wpAny _ _ (match PJ lo hi 1 (n:Int) with | (lo,hi)=>pure (lo,(1:Int),PH lo hi 1)) _ _ s
 rw[vK lo hi n]
 show wpAny _ _ (pure (((Rc n 0 lo:Nat):Int),(1:Int),PH ((Rc n 0 lo:Nat):Int) ((Rc n n hi:Nat):Int) 1)) _ _ s
 rw[vy]
 exact Oa h
theorem zz (xs:Array Value)(i k:Nat):((L6 k).filterMap λ(m:Nat)=>xs[((i:Int) + (m:Int) * 1).toNat]?).toArray=((xs.toList.drop i).take k).toArray:=by
 have e:(λ(m:Nat)=>xs[((i:Int) + (m:Int) * 1).toNat]?)=λm=>xs[i + m]?:=by
  funext m
  have:((i:Int) + (m:Int) * 1).toNat=i + m:=by omega
  rw[this]
 rw[e]
 have:=pick_run xs i k
 rw[List.filterMap_map] at this
 have e2:((λx=>xs[x]?) ∘ λx=>i + x)=λm=>xs[i + m]?:=rfl
 rw[e2] at this
 rw[this]
theorem mn {t sl:Addr}{items:Array Value}{vl vu:Value}{lo hi:Option Int}{Q:Value->N5->Prop}(ht:IsTup s.heap t items)(hs:s.heap.IsSliceOf sl vl vu .none)(pl:OZ vl lo)(pu:OZ vu hi)
 (hw:¬(Rc items.size 0 lo=0/\Rc items.size items.size hi=items.size))
 (h:Q (.ref s.heap.objs.size) {s with heap:=s.heap.push {cls:=.type "tuple",data:=.seq ((items.toList.drop (Rc items.size 0 lo)).take (Rc items.size items.size hi - Rc items.size 0 lo)).toArray}})
 (hsz:items.size<=N7):wpAny (model prog w) A (OT (.ref t) (.ref sl)) Q E s:=by
 have S5:sizeOk (.seq ((items.toList.drop (Rc items.size 0 lo)).take (Rc items.size items.size hi - Rc items.size 0 lo)).toArray):=by
  show((items.toList.drop (Rc items.size 0 lo)).take (Rc items.size items.size hi - Rc items.size 0 lo)).toArray.size<=N7
  rw[LQ,L0,MI,Lo]
  omega
 have hj:Rc items.size items.size hi<=items.size:=Hc _ _ (Nm _) hi
 obtain⟨os,UQ,hcs,VY⟩:=id hs
 have hTs:s.TypeIs (.ref sl) "slice":=⟨os,UQ,hcs⟩
 unfold OT
 try with_reducible refine OO ?_
 first | refine N6 (Oa ?_) | skip
 refine N6 (wpAny_sequenceKey ht.typeIs (by decide) ?_)
 refine N6 (Ou (name:=Qr "__getitem__") ht.typeIs NX
  (OI NX ht.typeIs entry_tuple_getitem ?_ (args_tuple_getitem _ _)))
 show wpAny _ _ (Builtin.Tuple.tupleItemsOf (.ref t) >>=_) _ _ s
 refine N6 (tupleItemsOf_ ht ?_)
 refine N6 (wpAny_typeOf hTs ?_)
 rw[if_pos (by decide)]
 refine N6 (i6 hs pl pu ?_)
 have Tr:¬((((Rc items.size 0 lo:Nat):Int)==0&&(1:Int)==1&&(Rc items.size items.size hi - Rc items.size 0 lo)==items.size)=true):=by
  intro q
  rw[Lq,Lq] at q
  have q1:((Rc items.size 0 lo:Nat):Int)=0:=eq_of_beq q.1.1
  have q2:Rc items.size items.size hi - Rc items.size 0 lo=items.size:=eq_of_beq q.2
  exact hw ⟨by omega,by omega⟩
 show wpAny _ _ (if(((Rc items.size 0 lo:Nat):Int)==0&&(1:Int)==1&&(Rc items.size items.size hi - Rc items.size 0 lo)==items.size)=true then _ else _) _ _ s
 rw[if_neg Tr,zz]
 first
  | exact N6 (m:=PQ _) (Ox (Oa ⟨_,rfl,Oa h⟩) S5)
  | exact N6 (m:=PQ _) (Ox (N6 (Oa (Oa ⟨_,rfl,Oa h⟩))) S5)
  | exact N6 (N6 (m:=PQ _) (Ox (Oa (Oa ⟨_,rfl,Oa h⟩)) S5))
  | exact N6 (N6 (m:=PQ _) (Ox (Oa ⟨_,rfl,Oa h⟩) S5))
end
end HT
namespace L2
open PySem PySem.Spec PyProof.Rows
abbrev TO:=St->Hp->(Option Int->Hp->Prop)->Prop
def PO (X:Cx)(e:Option Expr)(t:TO):Prop:=
 ∀(QW:Lg) (s:N5) (σ:St) (H:Hp) (Q:Option Int->Hp->Prop),Inv X QW σ H s->t σ H Q->
  wpAny (model X.prog X.w) X.A (evalPart e X.env) (λu s'=>∃o H',Inv X QW σ H' s'/\OZ u o/\Q o H') X.xe s
def Dw:TO:=λ_ H Q=>Q none H
def Hn (t:TE):TO:=λσ H Q=>t σ H λx H1=>∃i,x= .int i/\Q (some i) H1
section
variable {X:Cx}{e:Expr}{te:TE}{lo hi:Option Expr}{tl th:TO}{pos p2:Pos}
theorem Dy:PO X none Dw:=by
 intro QW s σ H Q I h
 rw[evalPart_none]
 exact Oa ⟨none,H,I,.none,h⟩
theorem DF (h:PE X e te):PO X (some e) (Hn te):=by
 intro QW s σ H Q I hw
 rw[evalPart_some]
 refine aL (h QW s σ H _ I hw) λu s1 ⟨x,H1,I1,r1,q1⟩=>?_
 obtain⟨i,rfl,q⟩:=q1
 obtain⟨t,rfl⟩:=r1
 exact⟨some i,H1,I1,.int i t,q⟩
def wB (X:Cx)(r:V->Option Int->Option Int->Hp->VK->Prop):Prop:=
 ∀(QW:Lg) (s:N5) (σ:St) (H:Hp) (x:V) (v vl vu:Value) (lo hi:Option Int) (sl:Addr) (Q:VK),Inv X QW σ H s->RelV x v->s.heap.IsSliceOf sl vl vu .none->OZ vl lo->OZ vu hi->r x lo hi H Q->
  ∃T id,typeLookup (.type T) "__getitem__"=pure (some (.builtin id))/\s.TypeIs v T/\wpAny (model X.prog X.w) X.A (OT v (.ref sl)) (EP X QW σ Q) X.xe s
def tSl (r:V->Option Int->Option Int->Hp->VK->Prop)(te:TE)(tl th:TO):TE:=λσ H Q=>te σ H λx H1=>tl σ H1 λl H2=>th σ H2 λu H3=>r x l u H3 Q
theorem kz {r:V->Option Int->Option Int->Hp->VK->Prop}(hr:wB X r)(he:PE X e te)(hl:PO X lo tl)(hu:PO X hi th):PE X (.Subscript e (.Slice lo hi none p2) pos) (tSl r te tl th):=by
 intro QW s σ H Q I h
 refine Subscript_ (aL (he QW s σ H _ I h) λv s1 ⟨x,H1,I1,r1,q1⟩=>?_)
 refine wpAny_Slice (aL (hl QW s1 σ H1 _ I1 q1) λvl s2 ⟨l,H2,I2,pl,q2⟩=>aL (hu QW s2 σ H2 _ I2 q2) λvu s3 ⟨u,H3,I3,pu,q3⟩=>?_)
 rw[evalPart_none]
 refine Oa ?_
 have I4:Inv X QW σ H3 {s3 with heap:=s3.heap.push {cls:=.type "slice",data:=.fields #[vl,vu,.none]}}:=I3.kept (t':=s3.toks) λb ob q=>P9 _ q
 obtain⟨T,id,hT,ht,hg⟩:=hr QW {s3 with heap:=s3.heap.push {cls:=.type "slice",data:=.fields #[vl,vu,.none]}} σ H3 x v vl vu l u s3.heap.objs.size Q I4 r1 (Heap.IsSliceOf.new ..) pl pu q3
 show wpAny (model X.prog X.w) X.A (N4 e (.Slice lo hi none p2) v (.ref s3.heap.objs.size)) (EP X QW σ Q) X.xe {s3 with heap:=s3.heap.push {cls:=.type "slice",data:=.fields #[vl,vu,.none]}}
 exact tail_any (ops:=[.ref s3.heap.objs.size,v]) ht hT hg (by with_unfolding_all rfl)
def jy (xs:List V)(lo hi:Option Int):List V:=(xs.drop (HT.Rc xs.length 0 lo)).take (HT.Rc xs.length xs.length hi - HT.Rc xs.length 0 lo)
theorem mz (xs:List V)(lo hi:Option Int):(jy xs lo hi).length<=xs.length:=by
 unfold jy
 rw[L0,MI]
 omega
def KQ (K:QA):V->Option Int->Option Int->Hp->VK->Prop:=λx lo hi H Q=>∃a xs,x= .ref a/\de K H a xs/\
 ¬(HT.Rc xs.length 0 lo=0/\HT.Rc xs.length xs.length hi=xs.length)/\∀p,H p=none->Q (.ref p) (upd H p (.tup (jy xs lo hi)))
theorem GW:wB X (KQ X.K):=by
 intro QW s σ H x v vl vu lo hi sl Q I rx hs pl pu h
 obtain⟨a,xs,rfl,hx,hw,q⟩:=h
 cases rx
 obtain⟨QX,r,ht,hz⟩:=I.tuple hx
 have hlen:QX.toArray.size=xs.length:=by rw[LQ];exact r.length.symm
 refine⟨"tuple",_,NX.lookup,ht.typeIs,?_⟩
 refine HT.mn ht hs pl pu (by rw[hlen];exact hw) ?_ (by rw[hlen];exact hz)
 rw[hlen]
 refine⟨.ref s.heap.objs.size,_,I.laid (t':=s.toks) (o:=.tup (jy xs lo hi)) (λb ob q=>P9 _ q) (Nm _) ?_,rfl,q _ (I.Q3.fresh (Nm _))⟩
 exact⟨Nn (mz xs lo hi) hz,_,(r.drop (HT.Rc xs.length 0 lo)).take (HT.Rc xs.length xs.length hi - HT.Rc xs.length 0 lo),IsTup.new _ _⟩
end
section
variable {α:Type}
def eD (n:Nat)(i:Int):Option Nat:=if 0<=i then(if i < n then some i.toNat else none) else if -(n:Int)<=i then some (i + n).toNat else none
def bV (xs:List α)(i:Int):Option α:=(eD xs.length i).bind λj=>xs[j]?
theorem lS {n:Nat}{i:Int}{j:Nat}(h:eD n i=some j):seqIndex? i n=some j/\j < n/\ -(n:Int)<=i/\i < n:=by
 unfold eD at h
 by_cases h0:0<=i
 ·rw[if_pos h0] at h
  by_cases h1:i < n
  ·rw[if_pos h1] at h
   have e:i.toNat=j:=Option.some.inj h
   exact⟨by rw[seqIndex_of h0 h1,e],by omega,by omega,h1⟩
  ·rw[if_neg h1] at h;cases h
 ·rw[if_neg h0] at h
  by_cases h1: -(n:Int)<=i
  ·rw[if_pos h1] at h
   have e:(i + n).toNat=j:=Option.some.inj h
   exact⟨by rw[seqIndex_neg (by omega) h1,e],by omega,h1,by omega⟩
  ·rw[if_neg h1] at h;cases h
theorem om {xs:List α}{i:Int}{v:α}(h:bV xs i=some v):∃j,seqIndex? i xs.length=some j/\xs[j]?=some v/\j < xs.length/\ -(xs.length:Int)<=i/\i < xs.length:=by
 unfold bV at h
 cases e:eD xs.length i with
 | none=>rw[e] at h;cases h
 | some j=>
   rw[e] at h
   obtain⟨h1,h2,h3,h4⟩:=lS e
   exact⟨j,h1,h,h2,h3,h4⟩
theorem Cs {xs:List α}{j:Nat}{v:α}(h:xs[j]?=some v):bV xs (j:Int)=some v:=by
 have hj:j < xs.length:=(LC.mp h).1
 have e:eD xs.length (j:Int)=some j:=by
  unfold eD
  rw[if_pos (by omega),if_pos (by omega)];simp
 unfold bV;rw[e];exact h
def dU (b:Expr):Prop:=∀o i,Pj b false o i=operate [o,i] (OT o i)
def AU (X:Cx)(r:R2):Prop:=
 ∀(value slice:Expr) (QW:Lg) (s:N5) (σ:St) (H:Hp) (x y:V) (v u:Value) (Q:VK),Inv X QW σ H s->RelV x v->RelV y u->r x y H Q->
  Pj slice false v u=operate [v,u] (OT v u)->wpAny (model X.prog X.w) X.A (N4 value slice v u) (EP X QW σ Q) X.xe s
def uW (X:Cx)(id:String)(r:V->List V->Hp->VK->Prop):Prop:=
 ∀(QW:Lg) (s:N5) (σ:St) (H:Hp) (x:V) (xs:List V) (v:Value) (us:Ll) (Q:VK),Inv X QW σ H s->RelV x v->Vals xs us->r x xs H Q->
  wpAny (model X.prog X.w) X.A (call (.builtin id) (v::us)) (EP X QW σ Q) X.xe s
end
section
variable {X:Cx}{a b:Expr}{ta tb:TE}{pos:Pos}
theorem gW {r:R2}(hr:AU X r)(ha:PE X a ta)(hb:PE X b tb)(hs:dU b):PE X (.Subscript a b pos) (Bf r ta tb):=by
 intro QW s σ H Q I h
 exact Subscript_ (z5 ha hb I h λv u s2 x y H2 I2 rx ry q=>hr a b QW s2 σ H2 x y v u Q I2 rx ry q (hs _ _))
def KP (K:QA):R2:=λx y H Q=>∃p xs i v,x= .ref p/\y= .int i/\aT K H p xs/\bV xs i=some v/\Q v H
def Ki (K:QA):R2:=λx y H Q=>∃p xs i v,x= .ref p/\y= .int i/\de K H p xs/\bV xs i=some v/\Q v H
def KW:R2:=λx y H Q=>∃z i c,x= .str z/\y= .int i/\z.length<=N7/\bV z.cps.toList i=some c/\Q (.str ⟨#[c]⟩) H
theorem gU:AU X (KP X.K):=by
 intro value slice QW s σ H x y v u Q I rx ry h hs
 obtain⟨p,xs,i,z,rfl,rfl,hq,he,q⟩:=h
 cases rx
 obtain⟨t,rfl⟩:=ry
 obtain⟨QX,r,pl,hz⟩:=I.list hq
 obtain⟨j,h1,h2,h3,h4,h5⟩:=om he
 obtain⟨w,ew,TU⟩:=r.get h2
 have hl:=r.length
 have hn:=i4
 have fin:EP X QW σ Q w s:=⟨z,H,I,TU,q⟩
 by_cases h0:0<=i
 ·have hj:i.toNat=j:=by
   rw[seqIndex_of h0 h5] at h1
   exact Option.some.inj h1
  exact item_listR pl.isList h0 (by omega) (by rw[hj];simpa using ew) fin hs
 ·have hj:(i + (QX.toArray.size:Int)).toNat=j:=by
   rw[seqIndex_neg (by omega) h4] at h1
   rw[LQ,← hl]
   exact Option.some.inj h1
  exact subscriptTail_builtinR (x:=w) pl.isList.typeIs slot_list_getitem.lookup
   (wpAny_getItem_list_neg (Q:=λr s'=>r=w/\EP X QW σ Q r s') pl.isList (by omega) (by rw[LQ]<;>omega) (by omega) (by rw[hj];simpa using ew) ⟨rfl,fin⟩) hs
theorem yj:AU X (Ki X.K):=by
 intro value slice QW s σ H x y v u Q I rx ry h hs
 obtain⟨p,xs,i,z,rfl,rfl,hq,he,q⟩:=h
 cases rx
 obtain⟨t,rfl⟩:=ry
 obtain⟨QX,r,pl,hz⟩:=I.tuple hq
 obtain⟨j,h1,h2,h3,h4,h5⟩:=om he
 obtain⟨w,ew,TU⟩:=r.get h2
 have hl:=r.length
 have hn:=i4
 have fin:EP X QW σ Q w s:=⟨z,H,I,TU,q⟩
 exact subscriptTail_builtinR (x:=w) pl.typeIs slot_tuple_getitem.lookup
  (getItem_tuple (j:=j) (Q:=λr s'=>r=w/\EP X QW σ Q r s') pl (by omega) (by omega) (by rw[LQ,← hl];exact h1) (by simpa using ew) ⟨rfl,fin⟩) hs
theorem Fb:AU X KW:=by
 intro value slice QW s σ H x y v u Q I rx ry h hs
 obtain⟨z,i,c,rfl,rfl,hz,he,q⟩:=h
 obtain⟨t,rfl⟩:=rx
 obtain⟨t',rfl⟩:=ry
 obtain⟨j,h1,h2,h3,h4,h5⟩:=om he
 have hl:z.cps.toList.length=z.length:=by simp[Str.length]
 rw[hl] at h1 h4 h5
 have hn:=i4
 exact tail_any (O0 s z t) slot_str_getitem.lookup (getItem_str (c:=c) (by
  have e1:decide (i < -(2 ^ 63:Int))=false:=decide_eq_false (by omega)
  have e2:decide (i≥2 ^ 63)=false:=decide_eq_false (by omega)
  rw[e1,e2,Bool.or_false]) (by rw[h1];simpa using h2) ⟨.str ⟨#[c]⟩,H,I.tok _,⟨_,rfl⟩,q⟩) hs
theorem vR (QX:Ll)(n j:Nat)(u:Value):Qj (·.setIfInBounds j u) {cls:=.type "list",data:=.seq QX.toArray n}={cls:=.type "list",data:=.seq (QX.set j u).toArray n}:=by
 simp[Qj]
theorem Inv.lst {QW:Lg}{σ:St}{H:Hp}{s:N5}{p:Addr}{xs:List V}(I:Inv X QW σ H s)(h:H p=some (.lst xs)):
 ∃(QX:Ll) (n:Nat),Vals xs QX/\s.heap.get? p=some {cls:=.type "list",data:=.seq QX.toArray n}/\xs.length<=N7:=by
 obtain⟨z,QX,n,r,e⟩:=I.Q3 p _ h
 exact⟨QX,n,r,e,z⟩
theorem Inv.El {QW:Lg}{σ:St}{H:Hp}{s:N5}{p:Addr}{xs ys:List V}{QX its':Ll}{n n':Nat}{f:Obj->Obj}(I:Inv X QW σ H s)(h:H p=some (.lst xs))
 (ho:s.heap.get? p=some {cls:=.type "list",data:=.seq QX.toArray n}) (hf:f {cls:=.type "list",data:=.seq QX.toArray n}={cls:=.type "list",data:=.seq its'.toArray n'}) (r:Vals ys its') (hz:ys.length<=N7) (t:Nat):
 Inv X QW σ (upd H p (.lst ys)) {s with heap:=s.heap.update p f,toks:=t}:=by
 have e:(s.heap.update p f).get? p=some {cls:=.type "list",data:=.seq its'.toArray n'}:=by
  rw[Qe f ho (by rw[hf]<;>rfl),hf]
 refine I.write (x:=p) (e:=p) (by rw[h];trivial) (.inl rfl) (λb u hb q=>(Heap.get?_update_other _ _ (NN hb)).trans q) ⟨_,e⟩ ?_
 exact⟨hz,its',n',r,e⟩
def IU:V->V->V->Hp->(Hp->Prop)->Prop:=λo i v H Q=>∃p xs k j,o= .ref p/\i= .int k/\H p=some (.lst xs)/\eD xs.length k=some j/\Q (upd H p (.lst (xs.set j v)))
theorem set_list:DV X IU:=by
 intro QW s σ H o i v ov iv u Q I ro ri rv h
 obtain⟨p,xs,k,j,rfl,rfl,hp,hj,q⟩:=h
 cases ro
 obtain⟨t,rfl⟩:=ri
 obtain⟨QX,n,r,ho,hz⟩:=I.lst hp
 obtain⟨h1,h2,h3,h4⟩:=lS hj
 have hl:=r.length
 have hn:=i4
 have I':Inv X QW σ (upd H p (.lst (xs.set j v))) {s with heap:=s.heap.update p (Qj (·.setIfInBounds j u))}:=
  I.El hp ho (vR QX n j u) (r.set rv j) (by rw[Ml];exact hz) s.toks
 by_cases h0:0<=k
 ·have hk:k.toNat=j:=by
   rw[seqIndex_of h0 h4] at h1
   exact Option.some.inj h1
  exact PySem.W.ki_setAt ho h0 (by omega) (by rw[LQ,← hl];exact h4) (by rw[hk];exact⟨_,I',q⟩)
 ·have hk:(k + (QX.toArray.size:Int)).toNat=j:=by
   rw[seqIndex_neg (by omega) h3] at h1
   rw[LQ,← hl]
   exact Option.some.inj h1
  exact PySem.W.ki_setBack ho (by omega) (by rw[LQ,← hl];exact h3) (by omega) (by rw[hk];exact⟨_,I',q⟩)
theorem sM (lo hi:Option Int)(n:Nat):(OP lo hi none n).1=((HT.Rc n 0 lo:Nat):Int)/\(OP lo hi none n).2.1=((HT.Rc n n hi:Nat):Int)/\(OP lo hi none n).2.2=1:=by
 refine⟨?_,?_,rfl⟩
 ·cases lo with
  | none=>simp[OP,HT.Rc]
  | some i=>
    simp only[OP,HT.Rc,Option.getD_none,show(1:Int) > 0 by decide,if_true]
    by_cases h:i < 0
    ·simp only[h,if_true]<;>omega
    ·simp only[h,if_false]<;>omega
 ·cases hi with
  | none=>simp[OP,HT.Rc]
  | some i=>
    simp only[OP,HT.Rc,Option.getD_none,show(1:Int) > 0 by decide,if_true]
    by_cases h:i < 0
    ·simp only[h,if_true]<;>omega
    ·simp only[h,if_false]<;>omega
theorem qa (QX:Ll)(lo hi:Option Int):slicePick QX.toArray lo hi none=((QX.drop (HT.Rc QX.length 0 lo)).take (HT.Rc QX.length QX.length hi - HT.Rc QX.length 0 lo)).toArray:=by
 obtain⟨h1,h2,h3⟩:=sM lo hi QX.toArray.size
 unfold slicePick
 rw[h1,h2,h3]
 simp only[sliceRange_one,pick_run,LQ]<;>rfl
def KY (K:QA):V->Option Int->Option Int->Hp->VK->Prop:=λx lo hi H Q=>∃a xs,x= .ref a/\aT K H a xs/\∀p,H p=none->Q (.ref p) (upd H p (.lst (jy xs lo hi)))
theorem CZ:wB X (KY X.K):=by
 intro QW s σ H x v vl vu lo hi sl Q I rx hs pl pu h
 obtain⟨a,xs,rfl,hx,q⟩:=h
 cases rx
 obtain⟨QX,r,ht,hz⟩:=I.list hx
 have hlen:=r.length
 refine⟨"list",_,slot_list_getitem.lookup,ht.isList.typeIs,?_⟩
 refine wpAny_getItem_list_slice ht.isList hs pl pu .none (by simp) ?_ (by rw[LQ]<;>omega)
 rw[qa,← hlen]
 refine⟨.ref s.heap.objs.size,_,I.laid (t':=s.toks) (o:=.lst (jy xs lo hi)) (λb ob q=>P9 _ q) (Nm _) ?_,rfl,q _ (I.Q3.fresh (Nm _))⟩
 exact⟨Nn (mz xs lo hi) hz,_,0,(r.drop (HT.Rc xs.length 0 lo)).take (HT.Rc xs.length xs.length hi - HT.Rc xs.length 0 lo),Qb _ rfl⟩
def iC:V->Bool
 | .Rf=>true
 | .bl _=>true
 | .int _=>true
 | .str _=>true
 | _=>false
def nO:V->V->Bool
 | .Rf,.Rf=>true
 | .bl a,.bl b=>a==b
 | .bl a,.int b=>(if a then 1 else 0)==b
 | .int a,.bl b=>a==(if b then 1 else 0)
 | .int a,.int b=>a==b
 | .str a,.str b=>a==b
 | _,_=>false
theorem Gx {A:Od}{s:N5}{y x:V}{u v:Value}(ry:RelV y u)(rx:RelV x v)(fy:iC y=true)(fx:iC x=true):Ql A s u v (nO y x):=by
 cases y with
 | Rf=>
   cases ry
   cases x with
   | Rf=>cases rx;exact Ql.same _
   | bl b=>cases rx;exact Ql.none_bool b
   | int b=>obtain⟨t,rfl⟩:=rx;exact Ql.none_int b t
   | str b=>obtain⟨t,rfl⟩:=rx;exact Ql.none_str b t
   | _=>exact absurd (show false=true from fx) Lp
 | bl a=>
   cases ry
   cases x with
   | Rf=>cases rx;exact Ql.bool_none a
   | bl b=>cases rx;exact Ql.bool_bool a b
   | int b=>obtain⟨t,rfl⟩:=rx;exact Ql.bool_int a b t
   | str b=>obtain⟨t,rfl⟩:=rx;exact Ql.bool_str a b t
   | _=>exact absurd (show false=true from fx) Lp
 | int a=>
   obtain⟨t',rfl⟩:=ry
   cases x with
   | Rf=>cases rx;exact Ql.int_none a t'
   | bl b=>cases rx;exact Ql.int_bool a t' b
   | int b=>obtain⟨t,rfl⟩:=rx;exact Ql.int_int a t' b t
   | str b=>obtain⟨t,rfl⟩:=rx;exact Ql.int_str a t' b t
   | _=>exact absurd (show false=true from fx) Lp
 | str a=>
   obtain⟨t',rfl⟩:=ry
   cases x with
   | Rf=>cases rx;exact Ql.str_none a t'
   | bl b=>cases rx;exact Ql.str_bool a t' b
   | int b=>obtain⟨t,rfl⟩:=rx;exact Ql.str_int a t' b t
   | str b=>obtain⟨t,rfl⟩:=rx;exact Ql.str_str a t' b t
   | _=>exact absurd (show false=true from fx) Lp
 | _=>exact absurd (show false=true from fy) Lp
def iY (x:V)(u:Value):Bool:=match u with
 | .none=>nO .Rf x
 | .bool b=>nO (.bl b) x
 | .int i _=>nO (.int i) x
 | .str z _=>nO (.str z) x
 | _=>false
theorem yx {x y:V}{u:Value}(r:RelV y u)(f:iC y=true):iY x u=nO y x:=by
 cases y with
 | Rf=>cases r;rfl
 | bl b=>cases r;rfl
 | int i=>obtain⟨t,rfl⟩:=r;rfl
 | str z=>obtain⟨t,rfl⟩:=r;rfl
 | _=>exact absurd (show false=true from f) Lp
theorem jT {x:V}:∀{xs:List V} {us:Ll},Vals xs us->xs.all iC=true->us.any (iY x)=xs.any λy=>nO y x
 | _,_,.nil,_=>rfl
 | y::xs,u::us,.cons r t,f=>by
   rw[all_cons,Lq] at f
   rw[Nd,Nd,yx r f.1,jT t f.2]
theorem iL {A:Od}{s:N5}{x:V}{v:Value}(rx:RelV x v)(fx:iC x=true):∀{xs:List V} {us:Ll},Vals xs us->xs.all iC=true->∀u∈us,Ql A s u v (iY x u)
 | _,_,.nil,_=>λu hu=>by cases hu
 | y::xs,u::us,.cons r t,f=>λu' hu=>by
   rw[all_cons,Lq] at f
   rcases LV.mp hu with rfl | hu
   ·rw[yx r f.1];exact Gx r rx f.1 fx
   ·exact iL rx fx t f.2 u' hu
def AV (x:V)(xs:List V):Bool:=xs.any λy=>nO y x
def J6 (K:QA)(neg:Bool):R2:=λx y H Q=>∃p xs,y= .ref p/\(aT K H p xs∨de K H p xs)/\iC x=true/\xs.all iC=true/\Q (.bl (if neg then !AV x xs else AV x xs)) H
theorem pP:dw X (Oj .In) (J6 X.K false):=by
 intro QW s σ H x y v u Q I rx ry h
 obtain⟨p,xs,rfl,hq,fx,fs,q⟩:=h
 cases ry
 rcases hq with hq | hq
 ·obtain⟨QX,r,pl,hz⟩:=I.list hq
  refine SeqAt.in_listAt (iY x) pl.isList (λw hw=>iL rx fx r fs w (by simpa using hw)) ⟨.bl _,H,I,rfl,?_⟩
  rw[show QX.toArray.any (iY x)=QX.any (iY x) by simp,jT r fs]
  exact q
 ·obtain⟨QX,r,pl,hz⟩:=I.tuple hq
  refine SeqAt.in_tupleAt (iY x) pl (λw hw=>iL rx fx r fs w (by simpa using hw)) ⟨.bl _,H,I,rfl,?_⟩
  rw[show QX.toArray.any (iY x)=QX.any (iY x) by simp,jT r fs]
  exact q
theorem rC:dw X (Oj .NotIn) (J6 X.K true):=by
 intro QW s σ H x y v u Q I rx ry h
 obtain⟨p,xs,rfl,hq,fx,fs,q⟩:=h
 cases ry
 rcases hq with hq | hq
 ·obtain⟨QX,r,pl,hz⟩:=I.list hq
  refine SeqAt.notIn_listAt (iY x) pl.isList (λw hw=>iL rx fx r fs w (by simpa using hw)) ⟨.bl _,H,I,rfl,?_⟩
  rw[show QX.toArray.any (iY x)=QX.any (iY x) by simp,jT r fs]
  exact q
 ·obtain⟨QX,r,pl,hz⟩:=I.tuple hq
  refine SeqAt.notIn_tupleAt (iY x) pl (λw hw=>iL rx fx r fs w (by simpa using hw)) ⟨.bl _,H,I,rfl,?_⟩
  rw[show QX.toArray.any (iY x)=QX.any (iY x) by simp,jT r fs]
  exact q
theorem gf:dR X (.builtin "len") (λxs H Q=>∃p ys,xs=[.ref p]/\(aT X.K H p ys∨de X.K H p ys)/\Q (.int ys.length) H):=by
 intro QW s σ H xs us Q I r h
 obtain⟨p,ys,rfl,hq,q⟩:=h
 obtain⟨u,rfl,rx⟩:=vals1 r
 cases rx
 have hn:=i4
 rcases hq with hq | hq
 ·obtain⟨QX,r',pl,hz⟩:=I.list hq
  have hlen:=r'.length
  exact Calls.call_len_list pl.isList (by simp only[LQ]<;>omega) ⟨.int ys.length,H,I.tok _,⟨s.toks + 1,by rw[LQ,hlen]⟩,q⟩
 ·obtain⟨QX,r',pl,hz⟩:=I.tuple hq
  have hlen:=r'.length
  exact len_tuple pl (by simp only[LQ]<;>omega) ⟨.int ys.length,H,I.tok _,⟨s.toks + 1,by rw[LQ,hlen]⟩,q⟩
theorem qY:dR X (.builtin "len") (λxs H Q=>∃z,xs=[.str z]/\z.length<=N7/\Q (.int z.length) H):=by
 intro QW s σ H xs us Q I r h
 obtain⟨z,rfl,hz,q⟩:=h
 obtain⟨u,rfl,t,rfl⟩:=vals1 r
 have hn:=i4
 exact len_str (by omega) ⟨.int z.length,H,I.tok _,⟨_,rfl⟩,q⟩
theorem sZ:dR X (.type "list") (λxs H Q=>∃p ys,xs=[.ref p]/\(aT X.K H p ys∨de X.K H p ys)/\∀l,H l=none->Q (.ref l) (upd H l (.lst ys))):=by
 intro QW s σ H xs us Q I r h
 obtain⟨p,ys,rfl,hq,q⟩:=h
 obtain⟨u,rfl,rx⟩:=vals1 r
 cases rx
 have fin:∀(QX:Ll),Vals ys QX->ys.length<=N7->∀(h':Heap) (c':Nat),(∀b o',s.heap.get? b=some o'->h'.get? b=some o')->
  h'.get? s.heap.objs.size=some {cls:=.type "list",dict:=none,data:=.seq QX.toArray c',slots:= #[]}->EP X QW σ Q (.ref s.heap.objs.size) {s with heap:=h'}:=λQX r' hz h' c' kp e=>
  ⟨.ref s.heap.objs.size,_,I.laid (t':=s.toks) kp (Nm _) (show cv X.prog X.w _ h' _ (.lst ys) from⟨hz,QX,c',r',e⟩),rfl,q _ (I.Q3.fresh (Nm _))⟩
 rcases hq with hq | hq
 ·obtain⟨QX,r',pl,hz⟩:=I.list hq
  have hlen:=r'.length
  obtain⟨o,ho,hc,n,hd⟩:=pl.isList
  exact call_list_seq p (.inl rfl) ho hc hd (λh' c' kp e=>fin QX r' hz h' c' kp e) (by simp only[LQ]<;>omega)
 ·obtain⟨QX,r',pl,hz⟩:=I.tuple hq
  have hlen:=r'.length
  obtain⟨o,ho,hc,n,hd⟩:=pl
  exact call_list_seq p (.inr rfl) ho hc hd (λh' c' kp e=>fin QX r' hz h' c' kp e) (by simp only[LQ]<;>omega)
def ET (K:QA)(T:String)(x:V)(H:Hp):Prop:=match x with
 | .str _=>T="str"
 | .int _=>T="int"
 | .ref p=>(T="list"/\∃xs,aT K H p xs)∨(T="tuple"/\∃o,K.lookup p=some o/\o.cls= .type "tuple"/\o.dict=none)∨
  (T="dict"/\((∃kvs,H p=some (.dK kvs))∨∃kvs,H p=some (.dT kvs)))∨(T="set"/\∃S n,H p=some (.set S n))
 | _=>False
theorem yK {QW:Lg}{σ:St}{H:Hp}{s:N5}{T:String}{x:V}{v:Value}(I:Inv X QW σ H s)(r:RelV x v)(ty:ET X.K T x H):
 s.TypeIs v T/\∀a,v= .ref a->∃ob,s.heap.get? a=some ob/\ob.dict=none:=by
 cases x with
 | str z=>
   obtain⟨t,rfl⟩:=r
   cases (show T="str" from ty)
   exact⟨O0 s z t,λ_ e=>nomatch e⟩
 | int i=>
   obtain⟨t,rfl⟩:=r
   cases (show T="int" from ty)
   exact⟨typeIs_int s i t,λ_ e=>nomatch e⟩
 | ref p=>
   cases r
   rcases ty with⟨rfl,xs,hq⟩ | ⟨rfl,o,hk,hc,hd⟩ | ⟨rfl,hk⟩ | ⟨rfl,S,n,hk⟩
   ·obtain⟨QX,_,pl,_⟩:=I.list hq
    refine⟨pl.isList.typeIs,λa e=>?_⟩
    cases e
    obtain⟨o,n,e,c,hd,_⟩:=pl
    exact⟨o,e,hd⟩
   ·refine⟨⟨o,I.eJ p o hk,hc⟩,λa e=>?_⟩
    cases e
    exact⟨o,I.eJ _ o hk,hd⟩
   ·have z:∃o,s.heap.get? p=some o/\o.ExactDict:=by
     rcases hk with⟨kvs,hk⟩ | ⟨kvs,hk⟩
     ·obtain⟨_,_,_,_,o,_,_,e,ex,_⟩:=I.Q3 p _ hk
      exact⟨o,e,ex⟩
     ·obtain⟨_,_,_,_,o,_,_,e,ex,_⟩:=I.Q3 p _ hk
      exact⟨o,e,ex⟩
    obtain⟨o,e,ex⟩:=z
    refine⟨⟨o,e,ex.1⟩,λa e2=>?_⟩
    cases e2
    exact⟨o,e,ex.2.1⟩
   ·obtain⟨o,_,_,_,e,ex,_⟩:=I.Q3 p _ hk
    refine⟨⟨o,e,ex.1⟩,λa e2=>?_⟩
    cases e2
    exact⟨o,e,ex.2.1⟩
 | _=>exact Lw ty
def Kw (K:QA)(T:String)(r:V->List V->Hp->VK->Prop)(to:TE):TE:=λσ H Q=>to σ H λx H1=>ET K T x H1/\r x [] H1 Q
def tBM (K:QA)(T:String)(r:V->List V->Hp->VK->Prop)(to:TE)(t:TA):TE:=λσ H Q=>to σ H λx H1=>ET K T x H1/\t σ H1 λxs H2=>r x xs H2 Q
variable {o e:Expr}{es:Lm}{to:TE}{t:TA}{name:Str}{apos RO:Pos}{T id:String}{r:V->List V->Hp->VK->Prop}
theorem Ep (pa:PlainAttrs T)(slot:Slot T name id)(hty:typeOf (.builtin id)=pure (.type "method_descriptor"))(hm:uW X id r)(ho:PE X o to)
 (Ra:Oc o name X.env (eval o X.env)=eval o X.env:=by rfl) (Q9:(apos.endLine==RO.line)=true:=by rfl):PE X (.Call (.Attribute o name apos) [] [] RO) (Kw X.K T r to):=by
 intro QW s σ H Q I h
 refine wpAny_Call_method0_late Ra Q9 (aL (ho QW s σ H _ I h) λv s1 ⟨x,H1,I1,r1,ty,q1⟩=>?_)
 obtain⟨h1,h2⟩:=yK I1 r1 ty
 exact⟨T,id,pa,slot,hty,h1,h2,PR rfl (PySem.evalArgs_none (hm QW s1 σ H1 x [] v [] Q I1 r1 .nil q1))⟩
theorem gZ (pa:PlainAttrs T)(slot:Slot T name id)(hty:typeOf (.builtin id)=pure (.type "method_descriptor"))(hm:uW X id r)(ho:PE X o to)(ha:PA X (e::es) t)
 (Ra:Oc o name X.env (eval o X.env)=eval o X.env:=by rfl)
 (Rt:((Oe RO (N8 (e::es) X.env)).all (λx=> !x.1)&&(OJ RO (Ow [] X.env)).all (λx=>x.1.isSome)
  &&decide ((e::es).length + ([]:List Oi).length + (if([]:List Oi).isEmpty then 0 else 1) < 30))=true:=by rfl)
 (Q9:(apos.endLine==RO.line)=true:=by rfl) (hs:N8 (e::es) X.env=(false,eval e X.env)::N8 es X.env:=by rfl) (UP:(Oe RO (N8 es X.env)).any (·.1)=false:=by rfl):
 PE X (.Call (.Attribute o name apos) (e::es) [] RO) (tBM X.K T r to t):=by
 intro QW s σ H Q I h
 refine wpAny_Call_method_late Ra Rt Q9 rfl (aL (ho QW s σ H _ I h) λv s1 ⟨x,H1,I1,r1,ty,q1⟩=>?_)
 obtain⟨h1,h2⟩:=yK I1 r1 ty
 refine⟨T,id,pa,slot,hty,h1,h2,?_⟩
 have hA:=ha RO QW s1 σ H1 _ I1 q1
 rw[hs] at hA ⊢
 refine PR (by show(false ||(Oe RO (N8 es X.env)).any (·.1))=false;rw[UP]<;>rfl) (Calls.evalArgs_plain ?_)
 exact aL hA λus s2 ⟨vs,H2,I2,r2,q2⟩=>hm QW s2 σ H2 x vs v us Q I2 r1 r2 q2
end
def Bp (X:Cx)(id:String)(r:V->List V->Hp->VK->Prop):Prop:=
 ∀(QW:Lg) (s:N5) (σ:St) (H:Hp) (x:V) (xs:List V) (v:Value) (us:Ll) (Q:VK),Inv X QW σ H s->RelV x v->Vals xs us->r x xs H Q->
  wpAny (model X.prog X.w) X.A (call (.builtin id) (v::us)) (EP X QW σ Q) X.xe s
theorem Vals.one:∀{x:V} {us:Ll},Vals [x] us->∃u,us=[u]/\RelV x u
 | _,_,.cons r .nil=>⟨_,rfl,r⟩
theorem Vals.zero:∀{us:Ll},Vals [] us->us=[]
 | _,.nil=>rfl
theorem Vals.dropLast {xs:List V}{us:Ll}(h:Vals xs us):Vals xs.dropLast us.dropLast:=by
 induction h with
 | nil=>exact .nil
 | cons r t ih=>
   cases t with
   | nil=>exact .nil
   | cons q t'=>exact .cons r ih
theorem vY {α:Type}(l:List α):l.eraseIdx (l.length - 1)=l.dropLast:=by
 induction l with
 | nil=>rfl
 | cons a r ih=>
   cases r with
   | nil=>rfl
   | cons b r=>
     have e:(a::b::r).length - 1=((b::r).length - 1) + 1:=by
      have h1:(a::b::r).length=r.length + 2:=rfl
      have h2:(b::r).length=r.length + 1:=rfl
      omega
     rw[e,List.eraseIdx_cons_succ,ih]
     all_goals rfl
section
variable {X:Cx}{QW:Lg}{σ:St}{H:Hp}{s:N5}{l b:Addr}{xs ys zs:List V}
theorem Inv.vN {QX its':Ll}{n:Nat}{f:Array Value->Array Value}{t':Nat}(I:Inv X QW σ H s)(hH:H l=some (.lst xs))
 (e:s.heap.get? l=some {cls:=.type "list",data:=.seq QX.toArray n}) (hf:f QX.toArray=its'.toArray) (hv:Vals ys its') (hz:ys.length<=N7):
 Inv X QW σ (upd H l (.lst ys)) {s with heap:=s.heap.update l (Qj f),toks:=t'}:=by
 have q:=PySem.IsL.update e f
 rw[hf] at q
 refine I.write (x:=l) (e:=l) (by rw[hH];exact trivial) (.inl rfl) (λb' u hb hu=>(Heap.get?_update_other s.heap (Qj f) (NN hb)).trans hu) ⟨_,q⟩ ?_
 exact⟨hz,its',_,hv,q⟩
theorem Inv.Kt {QX:Ll}{t':Nat}(I:Inv X QW σ H s)(hv:Vals ys QX)(hz:ys.length<=N7):
 Inv X QW σ (upd H s.heap.objs.size (.lst ys)) {s with heap:=s.heap.push {cls:=.type "list",data:=.seq QX.toArray},toks:=t'}:=
 I.laid (λ_ _ q=>P9 _ q) (Nm _) ⟨hz,QX,0,hv,Qb _ rfl⟩
theorem Inv.fresh (I:Inv X QW σ H s):H s.heap.objs.size=none:=I.Q3.fresh (Nm _)
theorem Inv.ka (I:Inv X QW σ H s)(hH:H l=some (.lst xs)):xs.length<=N7/\∃(QX:Ll) (n:Nat),Vals xs QX/\xs.length=QX.length/\s.heap.get? l=some {cls:=.type "list",data:=.seq QX.toArray n}:=by
 obtain⟨z,QX,n,r,e⟩:=I.Q3 l _ hH
 exact⟨z,QX,n,r,r.length,e⟩
theorem zE {n:Nat}(h:n<=N7):Pz n=false:=by
 unfold Pz
 exact decide_eq_false (by omega)
end
section
variable {X:Cx}
def CJ:V->List V->Hp->VK->Prop:=λx vs H Q=>∃l xs y,x= .ref l/\vs=[y]/\H l=some (.lst xs)/\xs.length < N7/\Q .Rf (upd H l (.lst (xs++[y])))
theorem ju:Bp X "list.append" CJ:=by
 intro QW s σ H x vs v us Q I rx rv h
 obtain⟨l,xs,y,rfl,rfl,hH,hz,q⟩:=h
 cases rx
 obtain⟨u,rfl,ru⟩:=rv.one
 obtain⟨z,QX,n,r,hl,e⟩:=I.ka hH
 refine ON F.slot_list_append ⟨_,e,rfl⟩ F.entry_list_append (F.args_list_append_2 _ _) (PySem.list_append l QX.toArray n u (by rw[LQ];omega)) ⟨e,?_⟩
 refine⟨.Rf,_,I.vN (its':=QX++[u]) hH e (by simp) (r.append (.cons ru .nil)) ?_,rfl,q⟩
 rw[LL,L9]
 omega
def CV:V->List V->Hp->VK->Prop:=λx vs H Q=>∃l b xs zs,x= .ref l/\vs=[.ref b]/\H l=some (.lst xs)/\H b=some (.lst zs)/\xs.length + zs.length<=N7/\Q .Rf (upd H l (.lst (xs++zs)))
theorem x6:Bp X "list.extend" CV:=by
 intro QW s σ H x vs v us Q I rx rv h
 obtain⟨l,b,xs,zs,rfl,rfl,hH,hB,hz,q⟩:=h
 cases rx
 obtain⟨u,rfl,ru⟩:=rv.one
 cases ru
 obtain⟨z,QX,n,r,hl,e⟩:=I.ka hH
 obtain⟨z2,SO,n2,r2,T3,e2⟩:=I.ka hB
 have hsz:QX.toArray.size + SO.toArray.size<=N7:=by rw[LQ,LQ];omega
 have VQ:¬(!QX.toArray.isEmpty&&Pz (QX.toArray.size + SO.toArray.size))=true:=by
  rw[zE hsz,Bool.and_false]
  exact Lp
 refine ON F.slot_list_extend ⟨_,e,rfl⟩ F.entry_list_extend (F.args_list_extend_2 _ _)
  (AutoSeq1.list_extend_list_list_0 l QX.toArray n b SO.toArray n2 VQ (by rw[LQ];omega) (by omega)) ⟨e,e2,?_⟩
 refine⟨.Rf,_,I.vN (its':=QX++SO) hH e (by simp) (r.append r2) ?_,rfl,q⟩
 rw[LL]
 omega
def Kk:V->List V->Hp->VK->Prop:=λx vs H Q=>∃l xs y,x= .ref l/\vs=[]/\H l=some (.lst xs)/\xs[xs.length - 1]?=some y/\Q y (upd H l (.lst xs.dropLast))
theorem D5:Bp X "list.pop" Kk:=by
 intro QW s σ H x vs v us Q I rx rv h
 obtain⟨l,xs,y,rfl,rfl,hH,hy,q⟩:=h
 cases rx
 have hus:=rv.zero
 subst hus
 obtain⟨z,QX,n,r,hl,e⟩:=I.ka hH
 obtain⟨u,hu,ru⟩:=r.get hy
 have Vx:QX.toArray[QX.toArray.size - 1]?=some u:=by
  show QX.toArray[QX.length - 1]?=some u
  rw[← Array.getElem?_toList,← hl]
  exact hu
 refine ON F.slot_list_pop ⟨_,e,rfl⟩ F.entry_list_pop (F.args_list_pop_1 _) (MeetsSeq.list_pop_last l QX.toArray n u Vx (by rw[LQ];omega)) ⟨e,?_⟩
 refine⟨y,_,I.vN (its':=QX.dropLast) hH e ?_ r.dropLast ?_,ru,q⟩
 ·show QX.toArray.eraseIdxIfInBounds (QX.toArray.size - 1)=QX.dropLast.toArray
  rw[LQ,List.eraseIdxIfInBounds_toArray,vY]
 ·rw[MM]
  omega
def K8:R2:=λx y H Q=>∃l b xs zs,x= .ref l/\y= .ref b/\H l=some (.lst xs)/\H b=some (.lst zs)/\xs.length + zs.length<=N7/\∀p,H p=none->Q (.ref p) (upd H p (.lst (xs++zs)))
theorem Gz:dw X (OH .Add) K8:=by
 intro QW s σ H x y v u Q I rx ry h
 obtain⟨l,b,xs,zs,rfl,rfl,hH,hB,hz,q⟩:=h
 cases rx
 cases ry
 obtain⟨z,QX,n,r,hl,e⟩:=I.ka hH
 obtain⟨z2,SO,n2,r2,T3,e2⟩:=I.ka hB
 refine PySem.P.add_list e e2 ?_ (by rw[LQ,LQ];omega)
 have ea:QX.toArray++SO.toArray=(QX++SO).toArray:=by simp
 rw[ea]
 exact⟨.ref _,_,I.Kt (t':=s.toks) (r.append r2) (by rw[LL];omega),rfl,q _ I.fresh⟩
end
section
variable {prog:Ob}{w:World}{A:Od}{E:Value->N5->Prop}{s:N5}
end
section
variable {X:Cx}
end
section
variable {κ:Type} [DecidableEq κ]
variable {kvs:List (κ×V)}{vs:List (κ×Value)}
def cN (kvs:List (κ×V))(k:κ):Option V:=(kvs.find? λkv=>decide (kv.1=k)).map (·.2)
def putK (kvs:List (κ×V))(k:κ)(v:V):List (κ×V):=
 if(kvs.any λkv=>decide (kv.1=k))=true then kvs.map (λkv=>if kv.1=k then(kv.1,v) else kv) else kvs++[(k,v)]
theorem c5 {p:κ×V}{r:List (κ×V)}{k:κ}(e:p.1=k):cN (p::r) k=some p.2:=by simp[cN,Mz,e]
theorem cT {p:κ×V}{r:List (κ×V)}{k:κ}(e:¬p.1=k):cN (p::r) k=cN r k:=by simp[cN,Mz,e]
theorem fQ (k:κ):∀kvs:List (κ×V),(kvs.any λkv=>decide (kv.1=k))=(cN kvs k).isSome
 | []=>rfl
 | p::r=>by
   rw[Nd]
   by_cases e:p.1=k
   ·simp only[c5 e,decide_eq_true e,Bool.true_or,Option.isSome_some]
   ·rw[cT e,decide_eq_false e,Bool.false_or];exact fQ k r
theorem tI (k j:κ)(y:V):∀kvs:List (κ×V),cN (kvs.map λkv=>if kv.1=k then(kv.1,y) else kv) j=(cN kvs j).map λx=>if j=k then y else x
 | []=>rfl
 | p::r=>by
   have ih:=tI k j y r
   rw[Me]
   by_cases h:p.1=k
   ·rw[if_pos h]
    by_cases e:p.1=j
    ·rw[c5 (p:=(p.1,y)) e,c5 e,NS,if_pos (e.symm.trans h)]
    ·rw[cT (p:=(p.1,y)) e,cT e,ih]
   ·rw[if_neg h]
    by_cases e:p.1=j
    ·rw[c5 (p:=p) e,c5 e,NS,if_neg (λz=>h (e.trans z))]
    ·rw[cT (p:=p) e,cT e,ih]
theorem pj (k j:κ)(y:V):∀kvs:List (κ×V),cN kvs k=none->cN (kvs++[(k,y)]) j=if j=k then some y else cN kvs j
 | [],_=>by
   by_cases e:k=j
   ·rw[if_pos e.symm];exact c5 (p:=(k,y)) e
   ·rw[if_neg (λz=>e z.symm)];exact cT (p:=(k,y)) e
 | p::r,hn=>by
   rw[M6]
   have hk:¬p.1=k:=λz=>by rw[c5 z] at hn;cases hn
   rw[cT hk] at hn
   have ih:=pj k j y r hn
   by_cases e:p.1=j
   ·rw[c5 e,c5 e,if_neg (λz=>hk (e.trans z))]
   ·rw[cT e,cT e,ih]
theorem Ah (kvs:List (κ×V))(k j:κ)(y:V):cN (putK kvs k y) j=if j=k then some y else cN kvs j:=by
 unfold putK
 by_cases a:(kvs.any λkv=>decide (kv.1=k))=true
 ·rw[if_pos a,tI]
  rw[fQ] at a
  by_cases e:j=k
  ·obtain⟨x,hx⟩:=Option.isSome_iff_exists.mp a
   rw[if_pos e,e,hx,NS,if_pos rfl]
  ·rw[if_neg e]
   cases cN kvs j with
   | none=>rfl
   | some x=>rw[NS,if_neg e]
 ·rw[if_neg a]
  refine pj k j y kvs ?_
  rw[fQ] at a
  cases q:cN kvs k with
  | none=>rfl
  | some x=>rw[q] at a;exact(a rfl).elim
theorem jw (kvs:List (κ×V))(k:κ)(v:V):(putK kvs k v).length<=kvs.length + 1:=by
 unfold putK
 split
 ·rw[LJ];omega
 ·rw[LL,LR,Mc];omega
theorem mO {k:κ}(v:V)(h:cN kvs k=none):putK kvs k v=kvs++[(k,v)]:=by
 unfold putK
 rw[fQ,h]
 exact if_neg (by decide)
theorem gN.ia {o:Option V}{u:Lj}(r:gN o u):o.isSome=u.isSome:=by
 cases o with
 | none=>cases u with
   | none=>rfl
   | some _=>exact(show False from r).elim
 | some _=>cases u with
   | none=>exact(show False from r).elim
   | some _=>rfl
theorem KV.val (r:KV kvs vs)(k:κ):gN (cN kvs k) (Oz vs k):=by
 unfold KV at r
 induction r with
 | nil=>exact QV
 | @cons p q ps qs h t ih=>
   obtain⟨h1,h2⟩:=h
   by_cases e:p.1=k
   ·have e':q.1=k:=h1.symm.trans e
    have b:Oz (q::qs) k=some q.2:=by simp[Oz,Mz,e']
    rw[c5 e,b];exact h2
   ·have e':¬q.1=k:=λz=>e (h1.trans z)
    have b:Oz (q::qs) k=Oz qs k:=by simp[Oz,Mz,e']
    rw[cT e,b];exact ih
theorem KV.any (r:KV kvs vs)(k:κ):(kvs.any λkv=>decide (kv.1=k))=vs.any λkv=>decide (kv.1=k):=by
 unfold KV at r
 induction r with
 | nil=>rfl
 | cons h t ih=>rw[Nd,Nd,ih,h.1]
theorem KV.zt (r:KV kvs vs)(k:κ){y:V}{u:Value}(ry:RelV y u):
 KV (kvs.map λkv=>if kv.1=k then(kv.1,y) else kv) (vs.map λkv=>if kv.1=k then(kv.1,u) else kv):=by
 unfold KV at r ⊢
 induction r with
 | nil=>exact .nil
 | @cons p q ps qs h t ih=>
   rw[Me,Me]
   refine .cons ?_ ih
   obtain⟨h1,h2⟩:=h
   by_cases e:p.1=k
   ·rw[if_pos e,if_pos (h1.symm.trans e)];exact⟨h1,ry⟩
   ·rw[if_neg e,if_neg (λz=>e (h1.trans z))];exact⟨h1,h2⟩
theorem KV.put (r:KV kvs vs)(k:κ){y:V}{u:Value}(ry:RelV y u):KV (putK kvs k y) (Pp vs k u):=by
 unfold putK Pp
 rw[r.any k]
 by_cases e:(vs.any λkv=>decide (kv.1=k))=true
 ·rw[if_pos e,if_pos e];exact r.zt k ry
 ·rw[if_neg e,if_neg e];exact Paired.snoc r ⟨rfl,ry⟩
theorem KV.length (r:KV kvs vs):kvs.length=vs.length:=Paired.length r
end
section
variable {H:Hp}{kvs:List (List Key×V)}{xs:List (List Key×Addr×Value)}{u:Value}
theorem iB {P:Ob}{w:World}{k:Key}(r:RelV (kV k) u):(bP P w).is k u=true:=by
 cases k with
 | inl i=>obtain⟨t,e⟩:=(show∃t,u=Qv i t from r);subst e;exact tU P w i t
 | inr x=>obtain⟨t,e⟩:=(show∃t,u=Qw x t from r);subst e;exact c9 P w x t
theorem pH {P:Ob}{w:World}:∀{ks:List Key} {us:Ll},Vals (ks.map kV) us->ItemsAre (bP P w) ks us
 | [],_,r=>by rw[Nb] at r;cases r;exact .nil
 | k::ks,_,r=>by
   rw[Me] at r
   cases r with
   | cons h t=>exact .cons (iB h) (pH t)
abbrev KT (H:Hp):List (List Key×V)->List (List Key×Addr×Value)->Prop:=Paired λp q=>p.1=q.1/\H q.2.1=some (.tup (p.1.map kV))/\RelV p.2 q.2.2
theorem KT.val (r:KT H kvs xs)(k:List Key):gN (cN kvs k) ((atKey xs k).map (·.2)):=by
 induction r with
 | nil=>exact QV
 | @cons p q ps qs h t ih=>
   obtain⟨h1,_,h2⟩:=h
   by_cases e:p.1=k
   ·have e':q.1=k:=h1.symm.trans e
    have b:atKey (q::qs) k=some q.2:=by simp[atKey,Mz,e']
    rw[c5 e,b];exact h2
   ·have e':¬q.1=k:=λz=>e (h1.trans z)
    have b:atKey (q::qs) k=atKey qs k:=by simp[atKey,Mz,e']
    rw[cT e,b];exact ih
theorem KT.zt (r:KT H kvs xs)(k:List Key){y:V}(ry:RelV y u):
 KT H (kvs.map λkv=>if kv.1=k then(kv.1,y) else kv) (xs.map (putAt k u)):=by
 induction r with
 | nil=>exact .nil
 | @cons p q ps qs h t ih=>
   rw[Me,Me]
   refine .cons ?_ ih
   obtain⟨h1,h2,h3⟩:=h
   unfold putAt
   by_cases e:p.1=k
   ·rw[if_pos e,if_pos (h1.symm.trans e)];exact⟨h1,h2,ry⟩
   ·rw[if_neg e,if_neg (λz=>e (h1.trans z))];exact⟨h1,h2,h3⟩
theorem KT.put (r:KT H kvs xs)(k:List Key){b:Addr}{y:V}(hb:H b=some (.tup (k.map kV)))(ry:RelV y u):
 KT H (putK kvs k y) (storedH xs k b u):=by
 have e:(kvs.any λkv=>decide (kv.1=k))=(atKey xs k).isSome:=by
  rw[fQ,(r.val k).ia,NT]
 unfold putK storedH
 rw[e]
 by_cases q:(atKey xs k).isSome=true
 ·rw[if_pos q,if_pos q];exact r.zt k ry
 ·rw[if_neg q,if_neg q];exact Paired.snoc r ⟨rfl,hb,ry⟩
theorem KT.keeps {H':Hp}(r:KT H kvs xs)(ht:∀b ys,H b=some (.tup ys)->H' b=some (.tup ys)):KT H' kvs xs:=
 Paired.zR r λ_ _ z=>⟨z.1,ht _ _ z.2.1,z.2.2⟩
end
section
variable {P:Ob}{w:World}{H:Hp}{h:Heap}{a:Addr}
theorem Bo {u:HO}(ok:dv P w H h)(e:Rd H a u):cv P w H h a u:=e.ok ok
theorem lV {kvs:List (Key×V)}(ok:dv P w H h)(e:Rd H a (.dK kvs)):kvs.length<=N7/\(a==Ot)=false/\∃vs,KV kvs vs/\h.DictOf (bP P w) a vs:=
 show cv P w H h a (.dK kvs) from Bo ok e
theorem vz {kvs:List (Key×V)}(ok:dv P w H h)(e:H a=some (.dK kvs)):kvs.length<=N7/\(a==Ot)=false/\∃vs,KV kvs vs/\h.DictOf (bP P w) a vs:=lV ok (.inl e)
theorem lD {ks:List Key}(ok:dv P w H h)(e:H a=some (.tup (ks.map kV))):(Pf (bP P w)).is h ks a:=by
 obtain⟨_,QX,r,o,h1,h2,n,h3⟩:=(show cv P w H h a (.tup (ks.map kV)) from ok a _ e)
 exact⟨o,QX.toArray,n,h1,h2,h3,by simpa using pH r⟩
theorem nD {kvs:List (List Key×V)}(ok:dv P w H h)(e:Rd H a (.dT kvs)):kvs.length<=N7/\(a==Ot)=false/\
 ∃xs,KT H kvs xs/\h.DictOfH (Pf (bP P w)) a xs:=by
 obtain⟨z,y,xs,r,o,es,ep,h1,h2,h3,h4,h5⟩:=(show cv P w H h a (.dT kvs) from Bo ok e)
 refine⟨z,y,xs,r,o,es,ep,h1,h2,h3,h4,λx hx=>?_,h5⟩
 have all:∀{l:List (List Key×V)} {m:List (List Key×Addr×Value)},KT H l m->∀x∈m,(Pf (bP P w)).is h x.1 x.2.1:=by
  intro l m q
  induction q with
  | nil=>intro x hx;exact nomatch hx
  | @cons p q ps qs hq t ih=>
    intro x hx
    rcases LV.mp hx with e | hx
    ·subst e
     exact lD ok (by rw[← hq.1];exact hq.2.1)
    ·exact ih x hx
 exact all r x hx
theorem HM {kvs:List (List Key×V)}(ok:dv P w H h)(e:H a=some (.dT kvs)):kvs.length<=N7/\(a==Ot)=false/\
 ∃xs,KT H kvs xs/\h.DictOfH (Pf (bP P w)) a xs:=nD ok (.inl e)
end
def gg (H:Hp)(a:Addr)(y:V)(r:Option V):Prop:=
 (∃kvs k,Rd H a (.dK kvs)/\y=kV k/\r=cN kvs k)∨∃kvs k b,Rd H a (.dT kvs)/\y= .ref b/\H b=some (.tup (k.map kV))/\r=cN kvs k
def mP (H:Hp)(a:Addr)(y v:V)(H':Hp):Prop:=
 (∃kvs k,H a=some (.dK kvs)/\y=kV k/\kvs.length < N7/\H'=upd H a (.dK (putK kvs k v)))∨
 ∃kvs k b,H a=some (.dT kvs)/\y= .ref b/\H b=some (.tup (k.map kV))/\kvs.length < N7/\H'=upd H a (.dT (putK kvs k v))
theorem gg.k {H:Hp}{a:Addr}{kvs:List (Key×V)}{k:Key}(e:H a=some (.dK kvs)):gg H a (kV k) (cN kvs k):=.inl ⟨kvs,k,.inl e,rfl,rfl⟩
theorem mP.k {H:Hp}{a:Addr}{kvs:List (Key×V)}{k:Key}{v:V}(e:H a=some (.dK kvs))(hl:kvs.length < N7):mP H a (kV k) v (upd H a (.dK (putK kvs k v))):=.inl ⟨kvs,k,e,rfl,hl,rfl⟩
section
variable {X:Cx}{QW:Lg}{σ:St}{H:Hp}{s:N5}{a:Addr}{y v:V}{u r:Value}{o:Option V}{A:Od}{E:Value->N5->Prop}
variable {Q:Value->N5->Prop}
theorem Inv.big (I:Inv X QW σ H s):Ot < s.heap.objs.size:=by
 have h:N9 < s.heap.objs.size:=(I.mod.glob.keeps I.bk).lt
 exact Nat.lt_trans (by decide) h
theorem yP (hu:A.units + 1 < cLine)(I:Inv X QW σ H s)(g:gg H a y (some v))(ry:RelV y u)(h:∀w' s',Inv X QW σ H s'->RelV v w'->Q w' s'):
 wpAny (model X.prog X.w) A (OT (.ref a) u) Q E s:=by
 rcases g with⟨kvs,k,e,ey,l⟩ | ⟨kvs,k,b,e,ey,eb,l⟩
 ·subst ey
  obtain⟨z,hd,vs,rel,dd⟩:=lV I.Q3 e
  obtain⟨w',hw,TU⟩:=gN.some_of (v:=v) (o:=Oz vs k) (by rw[l];exact rel.val k)
  exact wpAny_getItem_of (iB ry) dd.mapOf hw (h w' _ (I.tok _) TU)
 ·subst ey
  cases (show u=Qt b from ry)
  obtain⟨z,hd,xs,rel,dd⟩:=nD I.Q3 e
  obtain⟨w',hw,TU⟩:=gN.some_of (v:=v) (o:=(atKey xs k).map (·.2)) (by rw[l];exact rel.val k)
  obtain⟨p,hp,VF⟩:=NO.mp hw
  refine wpAny_getItem_heap (OS hu) (lD I.Q3 eb) dd hp ?_
  rw[VF]
  exact h w' _ (I.tok _) TU
theorem KZ (hu:A.units + 1 < cLine)(I:Inv X QW σ H s)(g:gg H a y o)(ry:RelV y u)(h:∀s',Inv X QW σ H s'->Q (.bool o.isSome) s'):
 wpAny (model X.prog X.w) A (Oj .In u (.ref a)) Q E s:=by
 rcases g with⟨kvs,k,e,ey,l⟩ | ⟨kvs,k,b,e,ey,eb,l⟩
 ·subst ey
  obtain⟨z,hd,vs,rel,dd⟩:=lV I.Q3 e
  refine wpAny_in_of (iB ry) hd dd.mapOf ?_
  rw[← (rel.val k).ia,← l]
  exact h _ (I.tok _)
 ·subst ey
  cases (show u=Qt b from ry)
  obtain⟨z,hd,xs,rel,dd⟩:=nD I.Q3 e
  refine wpAny_in_heap (OS hu) (lD I.Q3 eb) hd dd ?_
  have q:=(rel.val k).ia
  rw[NT] at q
  rw[← q,← l]
  exact h _ (I.tok _)
theorem CU (hu:A.units + 1 < cLine)(I:Inv X QW σ H s)(g:gg H a y o)(ry:RelV y u)(h:∀s',Inv X QW σ H s'->Q (.bool (!o.isSome)) s'):
 wpAny (model X.prog X.w) A (Oj .NotIn u (.ref a)) Q E s:=by
 rcases g with⟨kvs,k,e,ey,l⟩ | ⟨kvs,k,b,e,ey,eb,l⟩
 ·subst ey
  obtain⟨z,hd,vs,rel,dd⟩:=lV I.Q3 e
  refine wpAny_notIn_of (iB ry) hd dd.mapOf ?_
  rw[← (rel.val k).ia,← l]
  exact h _ (I.tok _)
 ·subst ey
  cases (show u=Qt b from ry)
  obtain⟨z,hd,xs,rel,dd⟩:=nD I.Q3 e
  refine wpAny_notIn_heap (OS hu) (lD I.Q3 eb) hd dd ?_
  have q:=(rel.val k).ia
  rw[NT] at q
  rw[← q,← l]
  exact h _ (I.tok _)
theorem l9 {h':Heap}{t':Nat}{ob:HO}(I:Inv X QW σ H s)(mu:wW (H a))(hs:Qd a s.heap h')(he:∃q,h'.get? a=some q)(new:cv X.prog X.w (upd H a ob) h' a ob):
 Inv X QW σ (upd H a ob) {s with heap:=h',toks:=t'}:=
 I.write (x:=a) (e:=a) mu (.inl rfl) (λb q hb z=>(hs.2 b hb).trans z) he new
theorem rj {P:Ob}{w:World}{H':Hp}{h':Heap}{kvs:List (Key×V)}{vs:List (Key×Value)}(z:kvs.length<=N7)(hd:(a==Ot)=false)(rel:KV kvs vs)(dd:h'.DictOf (bP P w) a vs):
 cv P w H' h' a (.dK kvs):=⟨z,hd,vs,rel,dd⟩
theorem xS {H':Hp}{Q:Unit->N5->Prop}(hu:A.units + 1 < cLine)(I:Inv X QW σ H s)(g:mP H a y v H')(ry:RelV y u)(rv:RelV v r)(h:∀s',Inv X QW σ H' s'->Q () s'):
 wpAny (model X.prog X.w) A (setItem (.ref a) u r) Q E s:=by
 rcases g with⟨kvs,k,e,ey,l,eH⟩ | ⟨kvs,k,b,e,ey,eb,l,eH⟩
 ·subst ey eH
  obtain⟨z,hd,vs,rel,dd⟩:=vz I.Q3 e
  have hz:vs.length<=N7:=by rw[← rel.length];exact z
  have hl:(putK kvs k v).length<=N7:=by have:=jw kvs k v;omega
  refine wpAny_setItem_pairs (hsz:=hz) (iB ry) dd λh' TL hs=>h _ ?_
  have he:∃q,h'.get? a=some q:=let ⟨q,_,_,hq,_⟩:=TL;⟨q,hq⟩
  exact l9 I (by rw[e];exact QV) hs he (rj hl hd (rel.put k rv) TL)
 ·subst ey eH
  cases (show u=Qt b from ry)
  obtain⟨z,hd,xs,rel,dd⟩:=HM I.Q3 e
  have hz:xs.length<=N7:=by rw[← Paired.length rel];exact z
  have hl:(putK kvs k v).length<=N7:=by have:=jw kvs k v;omega
  refine wpAny_setItem_heap (hsz:=hz) (OS hu) (lD I.Q3 eb) dd λh' TL hs=>h _ ?_
  obtain⟨q,es,ep,hq,h2,h3,h4,_,h5⟩:=TL
  refine l9 I (by rw[e];exact QV) hs ⟨q,hq⟩ ⟨hl,hd,_,(rel.put k eb rv).keeps λc ys ec=>?_,q,es,ep,hq,h2,h3,h4,h5⟩
  rw[aF (Jm ec e (λz=>nomatch z))]
  exact ec
end
section
variable {X:Cx}{QW:Lg}{σ:St}{H:Hp}{s:N5}{a:Addr}{kvs:List (Key×V)}{k:Key}{u:Value}{A:Od}{E:Value->N5->Prop}
theorem IL {Q:Value->N5->Prop}(I:Inv X QW σ H s)(e:Rd H a (.dK kvs))(h:∀t s',Inv X QW σ H s'->Q (.int kvs.length t) s'):wpAny (model X.prog X.w) A (call (.builtin "len") [.ref a]) Q E s:=by
 obtain⟨z,hd,vs,rel,dd⟩:=lV I.Q3 e
 refine call_len_dict hd dd (by rw[← rel.length];rw[O6] at z;omega) ?_
 rw[← rel.length]
 exact h _ _ (I.tok _)
end
def zx (i:Expr):Prop:=∀ov iv,Pj i false ov iv=operate [ov,iv] (OT ov iv)
theorem Ca {prog:Ob}{w:World}{A:Od}{E:Value->N5->Prop}{s:N5}{env:Env}{value slice:Expr}{pos:Pos}{T id:String}{Q:Value->N5->Prop}
 (hl:typeLookup (.type T) "__getitem__"=pure (some (.builtin id))) (hs:zx slice)
 (h:wpAny (model prog w) A (eval value env) (λo s₁=>wpAny (model prog w) A (eval slice env) (λi s₂=>s₂.TypeIs o T/\wpAny (model prog w) A (OT o i) Q E s₂) E s₁) E s):
 wpAny (model prog w) A (eval (.Subscript value slice pos) env) Q E s:=by
 refine Subscript_ (Oo h (λo s₁ h₁=>Oo h₁ (λi s₂ h₂=>?_) λ_ _ x=>x) λ_ _ x=>x)
 obtain⟨hT,h₂⟩:=h₂
 unfold N4
 refine N6 ?_
 rw[getitemInPython_of_ne hT.not_modules]
 refine N6 (wpAny_specialOf hT hl ?_)
 have fin:wpAny (model prog w) A (Pj slice false o i) (λr s₃=>wpAny (model prog w) A (letTemporaryGo value o r >>=λ_=>pure r) Q E s₃) E s₂:=by
  rw[hs o i]
  exact wpAny_operating (Oo h₂ (λr s₃ h₃=>N6 (wpAny_letTemporaryGo (Oa h₃))) λ_ _ x=>x)
 first
  | exact Oa (N6 fin)
  | exact N6 (Oa (N6 fin))
  | exact N6 fin
theorem tN {X:Cx}{QW:Lg}{σ:St}{H:Hp}{s:N5}{a:Addr}{y:V}{o:Option V}(I:Inv X QW σ H s)(g:gg H a y o):s.TypeIs (.ref a) "dict":=by
 rcases g with⟨kvs,k,e,_,_⟩ | ⟨kvs,k,b,e,_,_,_⟩
 ·obtain⟨_,_,vs,_,dd⟩:=lV I.Q3 e
  exact dd.typeIs
 ·obtain⟨_,_,xs,_,dd⟩:=nD I.Q3 e
  exact dd.typeIs
def Ic (td ty:TE):TE:=λσ H Q=>td σ H λx H1=>ty σ H1 λy H2=>∃a v,x= .ref a/\gg H2 a y (some v)/\Q v H2
def KA (ty td:TE):TE:=λσ H Q=>ty σ H λy H1=>td σ H1 λx H2=>∃a o,x= .ref a/\gg H2 a y o/\Q (.bl o.isSome) H2
def Ds (ty td:TE):TE:=λσ H Q=>ty σ H λy H1=>td σ H1 λx H2=>∃a o,x= .ref a/\gg H2 a y o/\Q (.bl (!o.isSome)) H2
def Hu (td ty tv:TE):TS:=λD σ H=>tv σ H λv H1=>td σ H1 λx H2=>ty σ H2 λy H3=>∃a H4,x= .ref a/\mP H3 a y v H4/\D.nx σ H4
section
variable {X:Cx}{o i e value:Expr}{pos pos' tpos:Pos}{td ty tv:TE}
theorem BY (hu:X.A.units + 1 < cLine)(ho:PE X o td)(hi:PE X i ty)(hs:zx i):PE X (.Subscript o i pos) (Ic td ty):=by
 intro QW s σ H Q I h
 refine Ca PySem.F.slot_dict_getitem.lookup hs (aL (ho QW s σ H _ I h) λu s1 ⟨x,H1,I1,rx,q1⟩=>aL (hi QW s1 σ H1 _ I1 q1) λiv s2 ⟨y,H2,I2,ry,a,v,ex,g,q2⟩=>?_)
 subst ex
 obtain rfl:u=Qt a:=rx
 exact⟨tN I2 g,yP hu I2 g ry λw' s3 I3 TU=>⟨v,H2,I3,TU,q2⟩⟩
theorem Gb (hu:X.A.units + 1 < cLine)(hi:PE X i ty)(ho:PE X o td):PC X .In i o (KA ty td):=by
 intro QW s σ H Q I h
 refine aL (hi QW s σ H _ I h) λiv s1 ⟨y,H1,I1,ry,q1⟩=>aL (ho QW s1 σ H1 _ I1 q1) λu s2 ⟨x,H2,I2,rx,a,ov,ex,g,q2⟩=>?_
 subst ex
 obtain rfl:u=Qt a:=rx
 exact KZ hu I2 g ry λs3 I3=>⟨.bl ov.isSome,H2,I3,rfl,q2⟩
theorem lO (hu:X.A.units + 1 < cLine)(hi:PE X i ty)(ho:PE X o td):PC X .NotIn i o (Ds ty td):=by
 intro QW s σ H Q I h
 refine aL (hi QW s σ H _ I h) λiv s1 ⟨y,H1,I1,ry,q1⟩=>aL (ho QW s1 σ H1 _ I1 q1) λu s2 ⟨x,H2,I2,rx,a,ov,ex,g,q2⟩=>?_
 subst ex
 obtain rfl:u=Qt a:=rx
 exact CU hu I2 g ry λs3 I3=>⟨.bl (!ov.isSome),H2,I3,rfl,q2⟩
theorem oA (hu:X.A.units + 1 < cLine)(ho:PE X o td)(hi:PE X i ty)(hv:PE X value tv)(hs:Of value (some (.Subscript o i pos')) pos.line X.env=pure false):
 PS X (.Assign [.Subscript o i pos'] value pos) (Hu td ty tv):=by
 intro QW s σ H D I h
 refine wpAny_Assign_Subscript (aL (hv QW s σ H _ I h) λr s1 ⟨v,H1,I1,rv,q1⟩=>aL (ho QW s1 σ H1 _ I1 q1) λu s2 ⟨x,H2,I2,rx,q2⟩=>aL (hi QW s2 σ H2 _ I2 q2) λiv s3 ⟨y,H3,I3,ry,a,H4,ex,g,q3⟩=>?_) hs
 subst ex
 obtain rfl:u=Qt a:=rx
 exact xS hu I3 g ry rv λs4 I4=>⟨σ,H4,I4,q3⟩
end
theorem sI {P:Ob}{w:World}{H:Hp}(h:Heap)(hb:Ot < h.objs.size):cv P w H (h.push {cls:=.type "dict",data:=.dict #[]}) h.objs.size (.dK []):=
 ⟨Np _,beq_eq_false_iff_ne.mpr (NN (Nt hb)),[],.nil,Heap.DictOf.new h⟩
def Gf:TE:=λ_ H Q=>∀p,H p=none->Q (.ref p) (upd H p (.dK []))
section
variable {X:Cx}{pos:Pos}
theorem yY:PE X (.Dict [] [] pos) Gf:=λQW s σ H Q I h=>
 wpAny_Dict_empty ⟨.ref s.heap.objs.size,_,I.laid (a:=s.heap.objs.size) (o:=.dK []) (t':=s.toks) (λ_ _ q=>P9 _ q) (Nm _) (sI s.heap I.big),rfl,h _ (I.Q3.fresh (Nm _))⟩
end
section
variable {X:Cx}{pos:Pos}
def qQ:List (TE×TE)->St->Hp->(List (V×V)->Hp->Prop)->Prop
 | [],_,H,Q=>Q [] H
 | (tk,tv)::r,σ,H,Q=>tk σ H λx H1=>tv σ H1 λy H2=>qQ r σ H2 λps H3=>Q ((x,y)::ps) H3
abbrev VV:List (V×V)->List (Value×Value)->Prop:=Paired λp q=>RelV p.1 q.1/\RelV p.2 q.2
def AX (X:Cx)(pos:Pos)(keys:List (Option Expr))(values:Lm)(TQ:List (TE×TE)):Prop:=
 ∀(QW:Lg) (s:N5) (σ:St) (H:Hp) (Q:List (V×V)->Hp->Prop),Inv X QW σ H s->qQ TQ σ H Q->
  wpAny (model X.prog X.w) X.A (evalPairs (pairTrees keys values X.env pos)) (λvs s'=>∃ps H',Inv X QW σ H' s'/\VV ps vs/\Q ps H') X.xe s
theorem BP:AX X pos [] [] []:=λQW s σ H Q I h=>pairTrees_nil_walk ⟨[],H,I,.nil,h⟩
theorem sq {k v:Expr}{ks:List (Option Expr)}{vs:Lm}{tk tv:TE}{TQ:List (TE×TE)}(hk:PE X k tk)(hv:PE X v tv)(hr:AX X pos ks vs TQ):
 AX X pos (some k::ks) (v::vs) ((tk,tv)::TQ):=λQW s σ H Q I h=>
 pairTrees_cons_walk (aL (hk QW s σ H _ I h) λu s1 ⟨x,H1,I1,rx,q1⟩=>aL (hv QW s1 σ H1 _ I1 q1) λw2 s2 ⟨y,H2,I2,ry,q2⟩=>
  aL (hr QW s2 σ H2 _ I2 q2) λws s3 ⟨ps,H3,I3,rel,q3⟩=>⟨(x,y)::ps,H3,I3,.cons ⟨rx,ry⟩ rel,q3⟩)
def j6 (kvs more:List (Key×V)):List (Key×V):=more.foldl (λacc kv=>putK acc kv.1 kv.2) kvs
theorem KV.merge:∀{more:List (Key×V)} {rs:List (Key×Value)} {kvs:List (Key×V)} {vs:List (Key×Value)},KV more rs->KV kvs vs->KV (j6 kvs more) (merged vs rs):=by
 intro more rs kvs vs r
 unfold KV at r
 induction r generalizing kvs vs with
 | nil=>intro q;exact q
 | @cons p q ps qs h t ih=>
   intro r0
   have e:KV (putK kvs p.1 p.2) (Pp vs q.1 q.2):=by
    have:=r0.put p.1 h.2
    rw[← h.1];exact this
   exact ih e
theorem kM:∀(more kvs:List (Key×V)),(j6 kvs more).length<=kvs.length + more.length
 | [],kvs=>by show kvs.length<=kvs.length + 0;omega
 | p::r,kvs=>by
   have h1:=kM r (putK kvs p.1 p.2)
   have h2:=jw kvs p.1 p.2
   show(j6 (putK kvs p.1 p.2) r).length<=_
   rw[LR];omega
theorem nu {P:Ob}{w:World}:∀{kvs:List (Key×V)} {ws:List (Value×Value)},VV (kvs.map λkv=>(kV kv.1,kv.2)) ws->∃rs,Carries (bP P w) ws rs/\KV kvs rs
 | [],_,r=>by rw[Nb] at r;cases r;exact⟨[],QV,.nil⟩
 | p::kvs,_,r=>by
   rw[Me] at r
   cases r with
   | @cons a b as bs h t=>
     obtain⟨rs,c,q⟩:=nu (P:=P) (w:=w) t
     obtain⟨b1,b2⟩:=b
     exact⟨(p.1,b2)::rs,⟨iB h.1,rfl,c⟩,.cons ⟨rfl,h.2⟩ q⟩
def Ie (TQ:List (TE×TE)):TE:=λσ H Q=>∀p,H p=none->qQ TQ σ (upd H p (.dK [])) λps H2=>H2 p=some (.dK [])/\∃kvs:List (Key×V),ps=kvs.map (λkv=>(kV kv.1,kv.2))/\kvs.length<=15/\Q (.ref p) (upd H2 p (.dK (j6 [] kvs)))
theorem BW {keys:List (Option Expr)}{values:Lm}{TQ:List (TE×TE)}(h:AX X pos keys values TQ)(UZ:keys.all (·.isSome)=true)(hl:keys.length=values.length)(h0:keys≠[])
 (h15:keys.length<=15):PE X (.Dict keys values pos) (Ie TQ):=by
 intro QW s σ H Q I q
 have hn:=I.Q3.fresh (Nm s.heap.objs.size)
 have I1:=I.laid (a:=s.heap.objs.size) (o:=.dK []) (h':=s.heap.push {cls:=.type "dict",data:=.dict #[]}) (t':=s.toks) (λ_ _ q=>P9 _ q) (Nm _) (sI s.heap I.big)
 refine wpAny_Dict_walk (knd:=bP X.prog X.w) UZ hl h0 h15 (aL (h QW _ σ _ _ I1 (q _ hn)) λws s2 ⟨ps,H2,I2,rel,e,kvs,ep,lk,q2⟩=>?_)
 subst ep
 obtain⟨rs,c,rk⟩:=nu (P:=X.prog) (w:=X.w) rel
 obtain⟨z,hd,vs0,r0,dd⟩:=vz I2.Q3 e
 cases r0
 refine⟨rs,c,dd,λh' TL hs=>⟨.ref s.heap.objs.size,_,?_,rfl,q2⟩⟩
 have hz:(j6 [] kvs).length<=N7:=by
  have h1:=kM kvs []
  rw[Mc] at h1
  rw[O6];omega
 have he:∃q,h'.get? s.heap.objs.size=some q:=let ⟨q,_,_,hq,_⟩:=TL;⟨q,hq⟩
 exact l9 I2 (by rw[e];exact QV) hs he (rj hz hd (rk.merge .nil) TL)
structure M2 (X:Cx) (o:Expr) (m:Str) (apos:Pos) (e f:Expr) (RO:Pos):Prop where
 base:Oc o m X.env (eval o X.env)=eval o X.env
 few:((Oe RO (N8 [e,f] X.env)).all (λx=> !x.1)&&(OJ RO (Ow [] X.env)).all (λx=>x.1.isSome)
  &&decide (([e,f]:Lm).length + ([]:List Oi).length + (if([]:List Oi).isEmpty then 0 else 1) < 30))=true
 line:(apos.endLine==RO.line)=true
 trees:Oe RO (N8 [e,f] X.env)=[(false,eval e X.env),(false,eval f X.env)]
end
section
variable {X:Cx}{QW:Lg}{σ:St}{H:Hp}{s:N5}{a:Addr}{y d:V}{u r:Value}{o:Option V}{A:Od}{E:Value->N5->Prop}
end
section
variable {X:Cx}{o e f:Expr}{apos RO:Pos}{td ty tx:TE}
end
section
variable {X:Cx}{QW:Lg}{σ:St}{H:Hp}{s:N5}{a:Addr}{kvs:List (Key×V)}{A:Od}{E:Value->N5->Prop}
end
section
variable {X:Cx}{QW:Lg}{σ:St}{H:Hp}{s:N5}{a:Addr}{y:V}{u:Value}{A:Od}{E:Value->N5->Prop}
end
end L2
namespace Att
open PySem PySem.W PySem.Calls PyProof.Rows
theorem n5 {P:Params}{h:Heap}:∀(ns:Lh) (vs:Ll),WellAll P h vs (ns.map WData.int)->IntsAre vs ns:=by
 intro ns
 induction ns with
 | nil=>
   intro vs w
   rw[Nb] at w
   cases w
   exact .nil
 | cons n ns ih=>
   intro vs w
   rw[Me] at w
   cases w with
   | cons a b=>
     cases a
     exact .cons _ _ (ih _ b)
theorem yS {l:OpenLaw}{n:Nat}(hn:l.most=some n){P:Params}{h:Heap}{args:List WData}{vals:Ll}
 (T1:l.row.toRowW.claim.pre args=true) (hwl:WellAll P h vals args):
 ∃a vs ns,vals=[Qt a]/\args=[WData.list (ns.map WData.int)]/\h.get? a=some {cls:=.type "list",data:=.seq vs.toArray}/\IntsAre vs ns/\ns.length<=n:=by
 have hsh:WShape.hasAll [] args [.list .int]=true:=(pre_splitW T1).1
 have hc:l.pre.holds [] {args:=args}=true:=(pre_splitW T1).2
 obtain⟨d,r,rfl,h1,h2⟩:=hasAllW_cons hsh
 obtain rfl:=hasAllW_nil h2
 obtain⟨xs,rfl,h3⟩:=hasW_list h1
 obtain⟨ns,rfl⟩:=items_int h3
 have hlen:ns.length<=n:=by
  unfold OpenLaw.pre at hc
  have h4:(WTm.not (.lt (.lit (.int (n:Int))) (.len (.arg 0)))).holds [] {args:=[.list (ns.map .int)]}=true:=by
   have h4:=(holds_andW hc).1
   rw[hn] at h4
   exact h4
  have h5:=condW_of h4 (w_not (w_lt w_lit (w_len_list (w_arg rfl))))
  rw[LJ] at h5
  refine Nat.le_of_not_lt λq=>?_
  have q':(n:Int) < ((ns.length:Nat):Int):=by omega
  first
   | (rw[decide_eq_true q'] at h5;exact absurd h5 (by decide))
   | (simp at h5;omega)
 cases hwl with
 | cons w1 w2=>
   cases w2
   cases w1 with
   | list ho UZ=>exact⟨_,_,ns,rfl,rfl,ho,n5 ns _ UZ,hlen⟩
theorem yr (l:OpenLaw)(args:List WData):l.row.toRowW.claim.post args (.bool true) args=true:=
 postW_of (r:=l.row.toRowW) (X:=(true==true))
  (show WShape.has [] (.bool true) .bool=true by first | rfl | decide | simp[WShape.has,WShape.arms,WShape.armsAll])
  (show(WTm.eq .res (.lit (.bool true))).value [] {args:=args,res:=some (.bool true),after:=args}=some (.bool (true==true)) from w_eq_bool (w_res rfl) w_lit) rfl
section
variable {prog:Ob}{w:World}{A:Od}{E:Value->N5->Prop}{s:N5}{K:Frag}
end
end Att
namespace L2
open PySem PySem.Spec PyProof.Rows
theorem pz:∀{vs:Ll} {ns:Lh},IntsAre vs ns->Vals (ns.map V.int) vs
 | _,_,.nil=>.nil
 | _,_,.cons n t h=>.cons ⟨t,rfl⟩ (pz h)
def Ac (H:Hp):Prop:=∀b,H b=none∨∃o xs,H b=some (.So o (.lst xs))
theorem Ai {P:Ob}{w:World}{K:QA}{mg mb:Lf}{CX:kN}{k:Nat}{fa a:Addr}{fd:Og}{x:Str}{sp:Sp}{s₁:N5}{vs:Ll}{ns:Lh}
 (KX:K.In s₁.heap) (Vb:s₁.heap.Ns N9 mg) (hb:s₁.heap.Ns builtinsNs mb) (hbb:∀x:Str,x≠"__name__"->mb x=OB x) (hlim:s₁.heap.NoLimit) (hg:s₁.gens= #[])
 (ha:s₁.heap.get? a=some {cls:=.type "list",data:=.seq vs.toArray}) (hi:IntsAre vs ns) (hl:ns.length<=N7) (hr:bI k Pb)
 (F:∀base:Heap,K.In base->base.Ns N9 mg->dz P w K mg base CX k fa fd [x] sp) (V3:∀(s:N5) (u:Value),Po s fd ⟨[u],[]⟩ [(x,u)])
 (Tb:∀H:Hp,Ac H->aT K H a (ns.map V.int)->sp [.ref a] H (λv _=>v= .bl true) λ_ _ _=>False)
 (hCX:∀H e s',CX [] H s₁ (λ_ _ _=>False) e s'->False):
 O5 (model P w) Pb (.call (.ref fa) ⟨[.ref a],[]⟩) (λr s'=>r= .ok (.ret (.bool true))/\OldK s₁.heap s'.heap/\s'.os=s₁.os/\N2 s'.gens) s₁:=by
 have rv:=pz hi
 have lenV:=hi.length
 -- from an abstract heap in which nothing but Vj UC may be tracked
 have core:∀H:Hp,Ac H->aT K H a (ns.map V.int)->dv P w H s₁.heap->(∀b,H b≠none->b=a)->(H a≠none->K.lookup a=none)->
  O5 (model P w) Pb (.call (.ref fa) ⟨[.ref a],[]⟩) (λr s'=>r= .ok (.ret (.bool true))/\OldK s₁.heap s'.heap/\s'.os=s₁.os/\N2 s'.gens) s₁:=by
  intro H hO hS Q3 hA hK
  have base_of:∀{b:Addr} {o:Obj},s₁.heap.get? b=some o->H b=none->(j9 s₁.heap H).get? b=some o:=λe n=>zU e n
  have Vr:∀{b:Addr} {o:Obj} {es:Array DictEntry} {ep:Nat},s₁.heap.get? b=some o->o.data= .dict es ep->H b=none:=λ{b o es ep} e d=>by
   cases q:H b with
   | none=>rfl
   | some u=>
     have e':b=a:=hA b (by rw[q];simp)
     subst e'
     rw[ha] at e;cases e
     have d':Data.seq vs.toArray _=Data.dict es ep:=d
     cases d'
  have nsK:∀{b:Addr} {m:Lf},s₁.heap.Ns b m->(j9 s₁.heap H).Ns b m:=λ{b m} ⟨o,es,ep,e,d,r⟩=>⟨o,es,ep,base_of e (Vr e d),d,r⟩
  have hKb:K.In (j9 s₁.heap H):=λb o e=>base_of (KX b o e) (by
   cases q:H b with
   | none=>rfl
   | some u=>
     have e':b=a:=hA b (by rw[q];simp)
     subst e'
     rw[hK (by rw[q];simp)] at e;cases e)
  have hM:Mod K mg (j9 s₁.heap H):=⟨hKb,nsK Vb,⟨mb,nsK hb,hbb⟩,let ⟨mc,h1,h2⟩:=hlim;⟨mc,nsK h1,h2⟩⟩
  have e0:m9 P w K mg (j9 s₁.heap H) Pb [] s₁ H:=⟨rfl,hM,λb o e=>B1 e,NJ (xU _ _),trivial,λb hb=>absurd (show b∈([]:Lk) from hb) (by simp),Q3,.of_eq hg⟩
  refine Pe ((F _ hKb (nsK Vb)).run Pb [] s₁ H ⟨[.ref a],[]⟩ [.ref a] [.ref a] _ _ hr e0 (V3 s₁ (.ref a)) (.cons rfl .nil) (Tb H hO hS)) λr s' h=>?_
  cases r with
  | error e=>exact(hCX H e s' h).elim
  | ok fl=>
    cases fl with
    | next=>exact Lw h
    | brk=>exact Lw h
    | cont=>exact Lw h
    | ret u=>
      obtain⟨v,H',os,bare,un,hok',r',q⟩:=h
      have q':v= .bl true:=q
      subst q'
      obtain rfl:u=Qx true:=r'
      refine⟨rfl,OldK.of_keep λb o e=>?_,os,bare⟩
      cases q:H b with
      | none=>exact un.keep b o e q (by intro z;exact absurd (show b∈([]:Lk) from z) (by simp)) (by simp)
      | some u=>
        rcases hO b with z | ⟨ob,xs,z⟩
        ·rw[q] at z;cases z
        ·have z2:=un.Sf b ob _ z
         obtain⟨e1,_⟩:=Q3 b _ z
         obtain⟨e2,_⟩:=hok' b _ z2
         rw[e] at e1;cases e1
         exact e2
 cases hk:K.lookup a with
 | some o=>
   -- Vj UC is one of Vj Vu own objects
   have e:=KX a o hk
   rw[ha] at e
   cases e
   refine core (λ_=>none) (λ_=>.inl rfl) (.inr ⟨_,vs.toArray,_,hk,rfl,rfl,rfl,by rw[LQ,lenV];exact hl,by simpa using rv⟩) (λb u z=>by have z':(none:Option HO)=some u:=z;cases z') (λb z=>absurd rfl z) λz=>absurd rfl z
 | none=>
   refine core (λb=>if b=a then some (.So {cls:=.type "list",data:=.seq vs.toArray} (.lst (ns.map V.int))) else none) (λb=>?_) (.inl (.inr ⟨{cls:=.type "list",data:=.seq vs.toArray},if_pos rfl⟩)) (λb u z=>?_) (λb z=>?_) λ_=>hk
   ·by_cases hb:b=a
    ·exact .inr ⟨_,_,if_pos hb⟩
    ·exact .inl (if_neg hb)
   ·by_cases hb:b=a
    ·have z':=(if_pos hb).symm.trans z
     cases z'
     subst hb
     exact⟨ha,by rw[LJ];exact hl,vs,_,rv,ha⟩
    ·have z':=(if_neg hb).symm.trans z
     cases z'
   ·by_cases hb:b=a
    ·exact hb
    ·exact absurd (if_neg hb) z
abbrev aR {K:QA}{h:Heap}(_:K.In h):QA:=K
def eL (s:Stmt):Arguments:=match s with
 | .FunctionDef _ a _ _ _ _ _ _ _ _=>a
 | _=>{posonlyargs:=[],args:=[],vararg:=none,kwonlyargs:=[],kw_defaults:=[],kwarg:=none,defaults:=[]}
def bS (s:Stmt):List Stmt:=match s with
 | .FunctionDef _ _ b _ _ _ _ _ _ _=>b
 | _=>[]
def ai (s:Stmt):Scope:=match s with
 | .FunctionDef _ _ _ _ _ _ sc _ _ _=>sc
 | _=>{kind:=.function,names:=[],isGenerator:=false,isCoroutine:=false}
abbrev ee:kN:=λ_ _ _ _ _ _=>False
abbrev E0:XK:=λ_ _ _=>False
theorem qg {X:Cx}:Passes ee X E0:=λ_ _ _ _ _ _ _ h=>h.elim
structure bD (K:QA) (x qual:Str) (st:Stmt) (f:Addr) (fd:Og):Prop where
 ex:∃(oc:Value) (od:Option Addr) (kV doc pm:Value) (an:Option Addr) (Q2 ct:Value) (S3:Array Lj),
  fd=QI x qual (eL st) (bS st) (ai st) .none kV doc pm an Q2 ct/\K.lookup f=some ⟨oc,od,.func fd,S3⟩/\QK K Q2 qual=true
 kp:QG K (.ref f)=true
section
variable {P:Ob}{w:World}{K:QA}{mg:Lf}{base:Heap}
variable {x qual:Str}{st:Stmt}{f:Addr}
theorem bD.ok {fd:Og}{N ps:Li}{k:Nat}{sp:Sp}(F:bD K x qual st f fd)(S:aH N ps (ai st))(len:∀vs H Q E,sp vs H Q E->vs.length=ps.length)
 (Ro:∀(Q2:Value) (A:Od) (outer:List Env) (s:N5) (H:Hp) (vs:List V) (Q:VK) (E:XK),bI k (A.deeper (NY qual (ai st) s.heap.objs.size f Q2))->sp vs H Q E->
  ∃t,i5 (fA ee P w K mg base N qual (ai st) f Q2 A outer s H E).js (bS st) t/\t {nx:=λ_ H'=>Q .Rf H',rt:=Q} (start N vs) H):dz P w K mg base ee (k + 1) f fd ps sp:=by
 obtain⟨oc,od,kV,doc,pm,an,Q2,ct,S3,rfl,lk,Q4⟩:=F.ex
 refine Hm lk Q4 S len λA outer s H vs Q E hr Tb=>?_
 obtain⟨t,h,q⟩:=Ro Q2 A outer s H vs Q E hr Tb
 exact⟨t,h.js,q⟩
theorem bD.binds {fd:Og}{ps:Li}(F:bD K x qual st f fd)
 (h:∀(kV doc pm:Value) (an:Option Addr) (Q2 ct:Value) (us:Ll),us.length=ps.length->bindArgs (QI x qual (eL st) (bS st) (ai st) .none kV doc pm an Q2 ct) ⟨us,[]⟩=pure (ps.zip us)):Binds K fd ps []:=by
 obtain⟨oc,od,kV,doc,pm,an,Q2,ct,S3,rfl,lk,Q4⟩:=F.ex
 exact .all (h kV doc pm an Q2 ct)
theorem iQ {oc:Value}{od an:Option Addr}{S3:Array Lj}{kV doc pm Q2 ct:Value}(l:K.lookup f=some ⟨oc,od,.func (QI x qual (eL st) (bS st) (ai st) .none kV doc pm an Q2 ct),S3⟩)
 (c:QK K Q2 qual=true) (k:QG K (.ref f)=true):bD K x qual st f (QI x qual (eL st) (bS st) (ai st) .none kV doc pm an Q2 ct):=⟨⟨oc,od,kV,doc,pm,an,Q2,ct,S3,rfl,l,c⟩,k⟩
end
section
variable {X:Cx}
end
section
variable {H:Hp}
theorem kq {A B:Prop}(h:B):if false=true then A else B:=by
 rw[if_neg Lp]
 exact h
theorem ki {A B:Prop}(h:A):if true=true then A else B:=by
 rw[if_pos rfl]
 exact h
def ar (H H':Hp):Prop:=∀b o,H b=some o->H' b=some o
theorem ar.refl (H:Hp):ar H H:=λ_ _ h=>h
theorem ar.trans {H1 H2:Hp}(a:ar H H1)(b:ar H1 H2):ar H H2:=λc o h=>b c o (a c o h)
theorem ar.free {H':Hp}(e:ar H H'){l:Addr}(h:H' l=Option.none):H l=Option.none:=by
 cases q:H l with
 | none=>rfl
 | some o=>
   rw[e l o q] at h
   cases h
theorem ar.seq {K:QA}{H':Hp}{a:Addr}{xs:List V}(e:ar H H')(h:aT K H a xs):aT K H' a xs:=by
 rcases h with(h | ⟨o,h⟩) | h
 ·exact .inl (.inl (e _ _ h))
 ·exact .inl (.inr ⟨o,e _ _ h⟩)
 ·exact .inr h
end
section
variable {X:Cx}
theorem pD:dR X (.builtin "len") (λxs H Q=>∃a kvs,xs=[V.ref a]/\H a=some (.dK kvs)/\Q (.int kvs.length) H):=by
 intro QW s σ H xs us Q I r h
 obtain⟨a,kvs,rfl,ha,q⟩:=h
 obtain⟨u,rfl,ru⟩:=vals1 r
 cases ru
 exact IL I (.inl ha) λt s' I'=>⟨.int kvs.length,H,I',⟨t,rfl⟩,q⟩
end
section
variable {κ:Type} [DecidableEq κ]
theorem fY:∀{l:List κ} {k:κ},l.Nodup->¬k∈l->(l++[k]).Nodup
 | [],k,_,_=>by simp
 | a::r,k,h,hk=>by
   obtain⟨h1,h2⟩:=Mg.mp h
   show(a::(r++[k])).Nodup
   refine Mg.mpr ⟨λm=>?_,fY h2 λm=>hk (LV.mpr (Or.inr m))⟩
   rcases LW.mp m with q | q
   ·exact h1 q
   ·exact hk (LV.mpr (Or.inl (LH.mp q).symm))
end
section
variable {X:Cx}
variable {elt target iter:Expr}{ifs:Lm}{scope:Scope}{pos:Pos}{s:N5}{fr:Li}{ix:List Nat}{wi:TI}{g:TG}{tc:TT}{te:TE}
def bc (X:Cx)(scope:Scope)(cl:List (Str×Addr))(C:Addr)(N':Li)(s:N5)(H:Hp)(ex:Lk):Cx:=
 {X with N:=N',s₀:=s,H₀:=H,env:=compEnvC scope cl C X.env,outer:=X.stack,stack:=X.stack,ex:=ex,fn:=λ_=>false,pn:=[],xe:=λ_ _=>False}
def PF (X:Cx)(ifs:Lm)(t:TT):Prop:=
 ∀(QW:Lg) (s:N5) (σ:St) (H:Hp) (Q:Bool->Hp->Prop),Inv X QW σ H s->t σ H Q->
  wpAny (model X.prog X.w) X.A (forIn ifs true λc r=>if r=true then do let ok ← OQ c X.env (eval c X.env);pure (Lx ok) else pure (Lx r)) (TP X QW σ Q) X.xe s
def Kh:TT:=λ_ H Q=>Q true H
theorem EM:PF X [] Kh:=by
 intro QW s σ H Q I h
 exact Oa ⟨H,I,h⟩
theorem Ew {c:Expr}{t:TT}(hc:PT X c t):PF X [c] t:=by
 intro QW s σ H Q I h
 show wpAny _ _ (forIn [c] true λc r=>_) _ _ s
 rw[Ni]
 simp only[if_true,forIn_nil]
 refine N6 (N6 (Oo (hc QW s σ H Q I h) (λb s1 h1=>?_) λ_ _ e=>e))
 exact Oa (Oa h1)
theorem rA {prog:Ob}{w:World}{A:Od}{R:Result->N5->Prop}{it acc:Value}{env:Env}(I:Nat->N5->Prop)
 (turn:∀n s,I n s->wpAny (model prog w) A (Pl it) (λr s₁=>match r with
  | none=>R (.ok .next) s₁
  | some v=>wpAny (model prog w) A (OY target it v) (λ_ s₁'=>wpAny (model prog w) A (OL target env v) (λ_ s₂=>
   wpAny (model prog w) A (forIn ifs true λc r=>if r=true then do let ok ← OQ c env (eval c env);pure (Lx ok) else pure (Lx r)) (λok s₃=>
    if ok=true then wpAny (model prog w) A (eval elt env) (λx s₄=>
     wpAny (model prog w) A (call (.builtin "list.append") [acc,x]) (λ_ s₅=>∃m,m < n/\I m s₅) (λ_ _=>False) s₄) (λ_ _=>False) s₃
    else∃m,m < n/\I m s₃) (λ_ _=>False) s₂) (λ_ _=>False) s₁') (λ_ _=>False) s₁) (λ_ _=>False) s)
 (n:Nat) (h:I n s):
 O5 (model prog w) A (.compLoop (.ListComp elt [⟨target,iter,ifs,0⟩] scope pos) 0 it acc env) R s:=by
 have no:∀{α:Type} {t:Sem α} {Q:α->N5->Prop} {E:Value->N5->Prop} {s:N5},wpAny (model prog w) A t Q (λ_ _=>False) s->wpAny (model prog w) A t Q E s:=λh=>Oo h (λ_ _ q=>q) λ_ _ f=>f.elim
 refine codeAny_loop rfl I (λn s hI=>?_) n h
 show wpAny _ A ((compTurn (.ListComp elt [⟨target,iter,ifs,0⟩] scope pos) 0 it acc env).onRaise (λx=>do noteFrame x env;theTreesLotGoes x)) _ _ s
 refine wpAny_noted ?_
 rw[compTurn_list]
 refine N6 (Pu (N6 (Oo (no (turn n s hI)) (λr s₁ h₁=>?_) λ_ _ h'=>h')))
 cases r with
 | none=>exact Oa h₁
 | some v=>
   refine N6 (Oo (no h₁) (λ_ s₁' h₁'=>?_) λ_ _ h'=>h')
   refine N6 (Oo (no h₁') (λ_ s₂ h₂=>N6 (Oo (no h₂) (λok s₃ h₃=>?_) λ_ _ h'=>h')) λ_ _ h'=>h')
   cases ok with
   | false=>exact Oa ⟨rfl,h₃⟩
   | true=>
     exact N6 (N6 (Oo (no h₃) (λx s₄ h₄=>N6 (Oo (no h₄) (λ_ s₅ h₅=>Oa (Oa ⟨rfl,h₅⟩)) λ_ _ h'=>h')) λ_ _ h'=>h'))
def vW (wi:TI)(g:TG)(tc:TT)(te:TE)(z:St->St):TE:=λσ H Q=>wi σ H λJ H1=>
 ∃W:Nat->Nat->List V->St->Hp->Prop,(∃m,W 0 m [] (z σ) H1)/\∀i m ys σ' H',W i m ys σ' H'->
  ys.length<=N7/\((J.stop i H'/\∀p,H' p=none->Q (.ref p) (upd H' p (.lst ys)))∨
  (J.go i H'/\∀x H2,J.U5 i H' x H2->g x σ' H2 λσ2 H3=>tc σ2 H3 λb H4=>
    if b=true then te σ2 H4 λv H5=>∃m',m' < m/\W (i + 1) m' (ys++[v]) σ2 H5 else∃m',m' < m/\W (i + 1) m' ys σ2 H4))
structure d8 (X:Cx) (scope:Scope) (cl:List (Str×Addr)) (own fr:Li) (ix:List Nat):Prop where
 clos:closureFor scope X.env=pure cl
 cells:∀x c,cl.lookup x=some c->X.env.cells.lookup x=some c
 kind:scope.kind= .function
 Uc:∀y∈scope.names,y.2≠ .cell
 names:∀y∈scope.names,y.2= .local->scope.names.lookup y.1=some .local
 has:∀x,scope.names.lookup x=some .free->∃c,cl.lookup x=some c
 frees:∀x∈fr,scope.names.lookup x=some .free
 len:fr.length=ix.length
 at_:∀(k:Nat) (i:Nat) (x:Str),ix[k]?=some i->fr[k]?=some x->X.N[i]?=some x/\X.env.kindOf x=some .cell
theorem gP {env:Env}:∀{names:List (Str×OM)} {x:Str} {k:OM},
 (names.map λ(n,k)=>if(k==OM.free&&env.scope.kind== .function&&env.kindOf n==some .cell) then(n,OM.cell) else(n,k)).lookup x=some k->
 ∃k',names.lookup x=some k'/\(k=k'∨(k'= .free/\k= .cell))
 | [],_,_,h=>by simp at h
 | (n,k)::r,x,kk,h=>by
   have ih:=@gP env r x kk
   replace h:Mr x ((if(k==OM.free&&env.scope.kind== .function&&env.kindOf n==some .cell)=true then(n,OM.cell) else(n,k))::_)=some kk:=h
   by_cases hc:(k==OM.free&&env.scope.kind== .function&&env.kindOf n==some .cell)=true
   ·rw[if_pos hc] at h
    cases hx:x==n with
    | true=>
      simp only[Mu,hx,Option.some.injEq] at h ⊢
      have hk:k= .free:=by
       simp only[Lq] at hc
       exact eq_of_beq hc.1.1
      exact⟨k,rfl,.inr ⟨hk,h.symm⟩⟩
    | false=>
      simp only[Mu,hx] at h ⊢
      exact ih h
   ·rw[if_neg hc] at h
    cases hx:x==n with
    | true=>
      simp only[Mu,hx,Option.some.injEq] at h ⊢
      exact⟨k,rfl,.inl h.symm⟩
    | false=>
      simp only[Mu,hx] at h ⊢
      exact ih h
theorem lB {env:Env}(hf:env.scope.kind= .function):∀{names:List (Str×OM)} {x:Str},names.lookup x=some .free->env.kindOf x=some .cell->
 (names.map λ(n,k)=>if(k==OM.free&&env.scope.kind== .function&&env.kindOf n==some .cell) then(n,OM.cell) else(n,k)).lookup x=some .cell
 | [],_,h,_=>by simp at h
 | (n,k)::r,x,h,hk=>by
   have ih:=@lB env hf r x
   show Mr x ((if(k==OM.free&&env.scope.kind== .function&&env.kindOf n==some .cell)=true then(n,OM.cell) else(n,k))::_)=_
   cases hx:x==n with
   | true=>
     simp only[Mu,hx,Option.some.injEq] at h
     have e:x=n:=eq_of_beq hx
     subst e
     subst h
     rw[if_pos (by rw[hf,hk];rfl)]
     simp[Mu]
   | false=>
     simp only[Mu,hx] at h
     split
     ·simp only[Mu,hx];exact ih h hk
     ·simp only[Mu,hx];exact ih h hk
def fO (own:Li)(ix:List Nat)(σ:St):St:=ME own.length none++ix.map λi=>(σ[i]?).join
structure Off (X:Cx) (QW:Lg) (H:Hp) (s:N5) (C:Addr):Prop where
 ns:∃m,s.heap.Ns C m
 free:H C=none
 ne:C≠X.env.locals
 young:X.s₀.heap.objs.size<=C
 cell:∀x c,X.env.cells.lookup x=some c->c≠C
 pin:∀p∈X.pn++QW,p.1≠C
theorem pC {cl:List (Str×Addr)}{own:Li}
 {use:Option (Value->Sem Unit)} {Qf:Value->N5->Prop} {QW:Lg} {σ:St} {H:Hp} {Q:VK}
 (hc:X.calm=true) (S:d8 X scope cl own fr ix) (hi:PI X target iter wi)
 (hb:∀(C:Addr) (s:N5) (H:Hp) (ex:Lk),PG (bc X scope cl C (own++fr) s H ex) target g/\PF (bc X scope cl C (own++fr) s H ex) ifs tc/\PE (bc X scope cl C (own++fr) s H ex) elt te)
 (hs:∀x,Ov iter X.env x=pure x) (I:Inv X QW σ H s) (h:vW wi g tc te (fO own ix) σ H Q)
 (SU:∀(D C:Addr) (H6:Hp) (s6:N5),Inv X QW σ H6 s6->Off X QW H6 s6 C->Q (.ref D) H6->compPost (model X.prog X.w) X.A X.xe use Qf (.ref D) C (.ok .next) s6):
 wpAny (model X.prog X.w) X.A (comprehension (.ListComp elt [⟨target,iter,ifs,0⟩] scope pos) scope X.env (firstIterPos [⟨target,iter,ifs,0⟩] pos) (newList []) false (eval iter X.env) use) Qf X.xe s:=by
 refine wpAny_comprehension_free (use:=use) rfl hs S.clos S.kind S.names ?_
 refine aL (hi QW s σ H _ I h) λv s1 h1=>aL h1 λitv s2 h2=>?_
 obtain⟨it,fp,tn,J,H2,rfl,I2,T,TR,f2,W,⟨m0,w0⟩,turn⟩:=h2
 refine Ox (wpAny_newFunctionEnv S.Uc (by intro y hy;simp at hy) (λh₁ hns₁ hsb₁=>?_) S.kind)
 dsimp only at hns₁ hsb₁ ⊢
 generalize hH3:s2.heap.push {cls:=.type "list",dict:=none,data:=.seq ([]:Ll).toArray}=h3 at hns₁ hsb₁ ⊢
 have hC:h3.objs.size=s2.heap.objs.size + 1:=by rw[← hH3,Qc]
 have to3:∀b o,s2.heap.get? b=some o->h3.get? b=some o:=λb o e=>by rw[← hH3];exact P9 _ e
 have Wa:h3.get? s2.heap.objs.size=some {cls:=.type "list",data:=.seq ([]:Ll).toArray}:=by rw[← hH3];exact Qb _ rfl
 have Uz:∀b o,h3.get? b=some o->h₁.get? b=some o:=λb o e=>hsb₁.extBut b o (Nt (Qa e)) (P9 _ e)
 have frD:∀{b:Addr},b∈fp->b≠s2.heap.objs.size:=λ{b} hb z=>by
  obtain⟨o,e,_⟩:=T.obj 0 _ TR b hb
  exact absurd (Qa e) (by rw[z];exact Nu _)
 have frC:∀{b:Addr},b∈fp->b≠h3.objs.size:=λ{b} hb z=>by
  obtain⟨o,e,_⟩:=T.obj 0 _ TR b hb
  exact absurd (Qa e) (by rw[z,hC];exact NG.mpr (Nx _))
 have HD2:H2 s2.heap.objs.size=none:=I2.Q3.fresh (Nm _)
 -- Vj block's context
 let X':Cx:=bc X scope cl h3.objs.size (own++fr) {s2 with heap:=h3} H2 (s2.heap.objs.size::fp)
 have Vn:X'.Ok:=by
  refine⟨I2.ok.mod,S.kind,I2.ok.glob,I2.ok.blt,Nm _,λx y c e1 e2=>I2.ok.inj x y c (S.cells x c e1) (S.cells y c e2),λx hx=>?_,λx c z=>?_,I2.ok.hd,I2.ok.frames,.inl rfl,λb hb=>?_,λb o e=>?_,?_,λb o e hb=>?_,λb hb z=>?_,?_,I2.tX⟩
  ·have key:scope.names.lookup x=some .free:=by
    have hx:(relabel scope X.env).names.lookup x=some .cell∨(relabel scope X.env).names.lookup x=some .free:=hx
    rcases hx with hx | hx
    ·obtain⟨k',e,z⟩:=gP hx
     rcases z with z | z
     ·subst z;exact absurd rfl (S.Uc _ (Ol e))
     ·rw[e,z.1]
    ·obtain⟨k',e,z⟩:=gP hx
     rcases z with z | z
     ·subst z;exact e
     ·cases z.2
   exact S.has x key
  ·cases z
  ·rcases LV.mp hb with rfl | hb
   ·refine⟨by rw[show X'.env.locals=h3.objs.size from rfl,hC];exact Nt (Ny _),λx c e z=>?_⟩
    obtain⟨v',q⟩:=I2.cell x c (S.cells x c e)
    exact absurd q.lt (by rw[z];exact Nu _)
   ·exact⟨frC hb,λx c e=>(f2 b hb).2.2.2.2.1 x c (S.cells x c e)⟩
  ·obtain⟨e1,e2⟩:=I2.bs b o e
   exact⟨to3 b o e1,e2⟩
  ·show X.base.objs.size<=h3.objs.size
   have:=I2.ok.Ua;have:=I2.sz
   omega
  ·rcases LV.mp hb with rfl | hb
   ·exact absurd (Qa (I2.bs _ o e).1) (Nu _)
   ·rcases(f2 b hb).2.2.2.1 with z | z
    ·exact I2.ok.Tg b o e z
    ·exact absurd (Nq (Nq (Qa e) I2.ok.Ua) z) (Nu _)
  ·replace z:b∈jQ X.stack:=z
   rcases LV.mp hb with rfl | hb
   ·obtain⟨_,o,ho,_⟩:=I2.stack.mem z
    exact absurd (Qa ho) (Nu _)
   ·rcases LV.mp (I2.si b z) with q | q
    ·exact(f2 b hb).2.1 q
    ·exact(f2 b hb).2.2.1 q
  ·exact I2.stack.of_keeps λb o e _=>⟨o,to3 b o e,rfl⟩
 have I4:Inv X' [] (fO own ix σ) H2 {s2 with heap:=h₁,toks:=s2.toks + ([]:List (Str×Value)).length}:=by
  refine⟨Vn,rfl,I2.bare,Un.kept Uz,⟨_,hns₁,λi x v e1 e2 e3=>?_⟩,λx c e=>?_,I2.Q3.fresh (by show s2.heap.objs.size<=h3.objs.size;rw[hC];exact Nx _),λx c e=>I2.RK x c (S.cells x c e),λp hp=>absurd (show p∈([]:Lg) from hp) (by simp),I2.Q3.kept λb o e=>Uz b o (to3 b o e),?_⟩
  ·replace e1:(own++fr)[i]?=some x:=e1
   unfold fO at e2
   by_cases RZ:i < own.length
   ·rw[L4 (by simpa using RZ),My] at e2
    split at e2<;>cases e2
   ·rw[L8 (by simpa using RZ)] at e1 e2
    rw[Mp,LM] at e2
    cases ek:ix[i - own.length]? with
    | none=>rw[ek] at e2;cases e2
    | some j=>
      rw[ek] at e2
      obtain⟨n1,n2⟩:=S.at_ _ j x ek e1
      have e2':σ[j]?=some (some v):=by
       have q:(σ[j]?).join=some v:=Option.some.inj e2
       cases es:σ[j]? with
       | none=>rw[es] at q;cases q
       | some o=>rw[es] at q;exact congrArg some q
      obtain⟨m,hn,hl⟩:=I2.loc
      obtain⟨u,r,l⟩:=hl j x v n1 e2' (.inr (.inl n2))
      refine⟨u,r,?_⟩
      have VW:scope.names.lookup x=some .free:=S.frees x (LO e1)
      rcases l with⟨k,_⟩ | ⟨_,c,T4,z⟩
      ·rw[n2] at k;cases k
      ·obtain⟨c',V2⟩:=S.has x VW
       have q:=S.cells x c' V2
       rw[T4] at q
       cases q
       obtain⟨oc,ho,hd⟩:=z
       exact .inr ⟨.inl (lB I2.ok.kind VW n2),c,V2,oc,Uz _ _ (to3 _ _ ho),hd⟩
  ·obtain⟨v',oc,ho,hd⟩:=I2.cell x c (S.cells x c e)
   exact⟨v',oc,Uz _ _ (to3 _ _ ho),hd⟩
  ·show(fO own ix σ).length=(own++fr).length
   unfold fO
   rw[LL,LL,Mp,LJ,S.len]
 obtain⟨hg,hf,he⟩:=hb h3.objs.size {s2 with heap:=h3} H2 (s2.heap.objs.size::fp)
 have hg:PG X' target g:=hg
 have hf:PF X' ifs tc:=hf
 have he:PE X' elt te:=he
 have locX:X'.env.locals=h3.objs.size:=rfl
 -- D's place
 have Dne:s2.heap.objs.size≠X'.env.locals:=by rw[locX,hC];exact Nt (Ny _)
 have Dfs:s2.heap.objs.size∉X'.fs:=Vn.Td _ (LP ..)
 have Dcl:∀x c,X'.env.cells.lookup x=some c->c≠s2.heap.objs.size:=λx c e=>(Vn.exf _ (LP ..)).2 x c e
 have fpX:∀{pl:Lg} {H':Hp},(∀p∈pl,p.1=s2.heap.objs.size)->(∀b∈fp,H' b=none)->∀b∈fp,iT X' pl H' b:=λhp hn b hb=>
  ⟨hn b hb,frC hb,Vn.Td b (LN _ hb),.inl (LN _ hb),(Vn.exf b (LN _ hb)).2,λp q=>by
   rw[hp p (by simpa[show X'.pn=[] from rfl] using q)];exact NN (frD hb)⟩
 have pinD:∀{σ':St} {H':Hp} {s':N5} {o:Obj},Inv X' [] σ' H' s'->s'.heap.get? s2.heap.objs.size=some o->H' s2.heap.objs.size=none->(∀v,o.data≠ .cell v)->Inv X' [(s2.heap.objs.size,o)] σ' H' s':=λI e n d=>
  I.iI λp hp=>by
    obtain rfl:=LH.mp hp
    exact⟨e,n,Dne,Dfs,d⟩
 have loop:O5 (model X.prog X.w) X.A (.compLoop (.ListComp elt [⟨target,iter,ifs,0⟩] scope pos) 0 (.ref it) (.ref s2.heap.objs.size) X'.env)
  (compPost (model X.prog X.w) X.A X.xe use Qf (.ref s2.heap.objs.size) h3.objs.size) {s2 with heap:=h₁,toks:=s2.toks + ([]:List (Str×Value)).length}:=by
  refine rA (λn s'=>∃i ys QX k σ' H',Inv X' [] σ' H' s'/\tn i s'.heap/\(∀b∈fp,H' b=none)/\H' s2.heap.objs.size=none/\Vals ys QX/\s'.heap.get? s2.heap.objs.size=some {cls:=.type "list",data:=.seq QX.toArray k}/\W i n ys σ' H')
   ?_ m0 ⟨0,[],[],0,_,H2,I4,T.keep 0 _ _ TR λb _ o e=>Uz b o (to3 b o e),λb Se=>(f2 b Se).1,HD2,.nil,Uz _ _ Wa,w0⟩
  rintro n s5 ⟨i,ys,QX,k,σ5,H5,I5,U6,fr5,hD5,vs5,get5,w5⟩
  obtain⟨hlen,alt⟩:=turn i n ys σ5 H5 w5
  have P5:=pinD I5 get5 hD5 (λv z=>by cases z)
  have okp:∀p∈[(s2.heap.objs.size,({cls:=.type "list",data:=.seq QX.toArray k}:Obj))],p.1=s2.heap.objs.size:=λp hp=>by
   rw[LH.mp hp]
  rcases alt with⟨stop,q⟩ | ⟨go,step⟩
  ·refine aL (T.done X' rfl rfl rfl hc i _ s5 σ5 H5 _ P5 (fpX okp fr5) U6 stop) λr s6 ⟨hr,I6⟩=>?_
   subst hr
   obtain⟨m6,hn6,_⟩:=I6.loc
   obtain⟨get6,_,_,_,_⟩:=I6.pin (s2.heap.objs.size,({cls:=.type "list",data:=.seq QX.toArray k}:Obj)) (LU _ (LH.mpr rfl))
   have Vi:∀b o,b≠h3.objs.size->s6.heap.get? b=some o->s6.heap.get? b=some o:=λb o hb e=>e
   have exn:∀{b:Addr} {o:Obj},s2.heap.get? b=some o->b∉fp->b∉X'.ex:=λ{b o} e hb z=>by
    rcases LV.mp z with z | z
    ·exact absurd (Qa e) (by rw[z];exact Nu _)
    ·exact hb z
   have Tj:∀{b:Addr} {o:Obj},s2.heap.get? b=some o->b≠h3.objs.size:=λ{b o} e z=>by
    have q1:=Qa e
    rw[z,hC] at q1
    exact absurd q1 (NG.mpr (Nx _))
   have neD:∀{b:Addr} {o:Obj},s2.heap.get? b=some o->b≠s2.heap.objs.size:=λ{b o} e=>Nt (Qa e)
   have UE:∀{b:Addr} {o:HO},H2 b=some o->b≠s2.heap.objs.size:=λ{b o} e=>cL e HD2
   have U:Un (jQ X.stack) fp H2 (upd H5 s2.heap.objs.size (.lst ys)) s2.heap s6.heap:=by
    refine⟨λb o e n hb hx=>?_,λb o e n hb hx=>?_,λb o e n hx=>?_,λb o e hx=>?_,λb xs e=>?_,λb o u e=>?_,λb ps e=>?_⟩
    ·exact Vi b o (Tj e) (I6.base.keep b o (to3 b o e) n hb (exn e hx))
    ·obtain⟨sl,q1⟩:=I6.base.slot b o (to3 b o e) n hb (exn e hx)
     exact⟨sl,Vi b _ (Tj e) q1⟩
    ·rw[aF (neD e)]
     exact I6.base.free b o (to3 b o e) n (exn e hx)
    ·obtain⟨o',q1⟩:=I6.base.there b o (to3 b o e) (exn e hx)
     exact⟨o',Vi b _ (Tj e) q1⟩
    ·rw[aF (UE e)];exact I6.base.Sk b xs e
    ·rw[aF (UE e)];exact I6.base.Sf b o u e
    ·rw[aF (UE e)];exact I6.base.Sl b ps e
   have HC:H5 h3.objs.size=none:=I6.free
   have Q3:dv X.prog X.w (upd H5 s2.heap.objs.size (.lst ys)) s6.heap:=λb u e=>by
    by_cases hbD:b=s2.heap.objs.size
    ·subst hbD
     rw[aB] at e
     cases e
     exact⟨hlen,QX,k,vs5,Vi _ _ (by rw[hC];exact Nt (Ny _)) get6⟩
    ·rw[aF hbD] at e
     refine(I6.Q3 b u e).Rz (λc o Vg q1=>Vi c o (λz=>?_) q1) (λc q1=>by rw[aF (cL q1 hD5)];exact q1) λc xs q1=>by rw[aF (cL q1 hD5)];exact q1
     rcases Vg with Vg | Vg
     ·rw[← Vg,z,HC] at e;cases e
     ·rw[z,HC] at Vg;cases Vg
   have fin:=I2.IT (s':=s6) (ch:=fp) I6.os U Q3 I6.bare λb Se=>⟨(f2 b Se).2.2.2.1,(f2 b Se).2.1,(f2 b Se).2.2.2.2.1,(f2 b Se).2.2.2.2.2⟩
   refine SU _ h3.objs.size _ s6 fin ⟨⟨m6,hn6⟩,?_,?_,?_,λx c e z=>?_,λp hp z=>?_⟩ (q _ hD5)
   ·rw[aF (by rw[hC];exact Nz (Ny _))];exact HC
   ·intro z
    have:=I2.lt
    rw[← z,hC] at this
    exact absurd this (NG.mpr (Nx _))
   ·rw[hC];exact Nn I2.sz (Nx _)
   ·obtain⟨v',q1⟩:=I2.cell x c e
    have:=q1.lt
    rw[z,hC] at this
    exact absurd this (NG.mpr (Nx _))
   ·have:=Qa (I2.pin p hp).1
    rw[z,hC] at this
    exact absurd this (NG.mpr (Nx _))
  ·refine aL (T.item X' rfl rfl rfl hc i _ s5 σ5 H5 _ P5 (fpX okp fr5) U6 go) λr s6 ⟨u,hr,h6⟩=>?_
   subst hr
   refine aL h6 λ_ s7 ⟨x,H7,I7,r7,y7,st7,fr7⟩=>?_
   have I7':=I7.pinned (fpX okp fr7) (T.obj _ _ st7)
   refine aL (hg _ s7 σ5 H7 x u _ I7' r7 (step x H7 y7)) λ_ s8 ⟨σ8,H8,I8,q8⟩=>?_
   refine aL (hf _ s8 σ8 H8 _ I8 q8) λb s9 ⟨H9,I9,q9⟩=>?_
   have out:∀{σ':St} {H':Hp} {s':N5},Inv X' ([(s2.heap.objs.size,({cls:=.type "list",data:=.seq QX.toArray k}:Obj))]++jG fp s7.heap) σ' H' s'->
    tn (i + 1) s'.heap/\(∀b∈fp,H' b=none)/\H' s2.heap.objs.size=none/\s'.heap.get? s2.heap.objs.size=some {cls:=.type "list",data:=.seq QX.toArray k}:=λI'=>by
    refine⟨T.keep _ _ _ st7 λb Se o e=>(I'.pin (b,o) (LU _ (LU _ (iD Se e)))).1,λb Se=>?_,(I'.pin (s2.heap.objs.size,({cls:=.type "list",data:=.seq QX.toArray k}:Obj)) (LU _ (L7 _ (LH.mpr rfl)))).2.1,(I'.pin (s2.heap.objs.size,({cls:=.type "list",data:=.seq QX.toArray k}:Obj)) (LU _ (L7 _ (LH.mpr rfl)))).1⟩
    obtain⟨o,e,d⟩:=T.obj _ _ st7 b Se
    exact(I'.pin (b,o) (LU _ (LU _ (iD Se e)))).2.1
   cases b with
   | false=>
     rw[if_neg Lp] at q9 ⊢
     obtain⟨m',hm,w'⟩:=q9
     obtain⟨o1,o2,o3,o4⟩:=out I9
     exact⟨m',hm,i + 1,ys,QX,k,σ8,H9,I9.iI (λ_ z=>nomatch z),o1,o2,o3,vs5,o4,w'⟩
   | true=>
     rw[if_pos rfl] at q9 ⊢
     refine aL (he _ s9 σ8 H9 _ I9 q9) λuv s10 ⟨v10,H10,I10,r10,q10⟩=>?_
     obtain⟨m',hm,w'⟩:=q10
     obtain⟨o1,o2,o3,o4⟩:=out I10
     refine wpAny_list_append_plain ⟨k,o4⟩ (λh' Rj Sh=>?_) (by
      have:=vs5.length
      rw[LQ,← this];exact hlen)
     obtain⟨k',hk'⟩:=Rj
     have I11:Inv X' (jG fp s7.heap) σ8 H10 s10:=I10.iI λp hp=>I10.pin p (LU _ (LU _ hp))
     have I12:Inv X' [] σ8 H10 {s10 with heap:=h'}:=(I10.iI (λ_ z=>nomatch z):Inv X' [] σ8 H10 s10).turned (t':=s10.toks) (λb o Se e=>Sh.extBut b o Se e) o3 Dne (.inl (LP ..)) Dcl (λp hp=>absurd (show p∈([]:Lg) from hp) (by simp))
     refine⟨m',hm,i + 1,ys++[v10],QX++[uv],k',σ8,H10,I12,T.keep _ _ _ o1 λb Se o e=>Sh.extBut b o (frD Se) e,o2,o3,vs5.append (.cons r10 .nil),?_,w'⟩
     show h'.get? _=_
     rw[hk']
     simp
 exact codeAny_compStart_list loop (T.self X.A 0 _ _ _ (T.keep 0 _ _ TR λb _ o e=>Uz b o (to3 b o e)) loop)
theorem Off.gone {QW:Lg}{σ:St}{H:Hp}{C:Addr}{h':Heap}(o:Off X QW H s C)(I:Inv X QW σ H s)(Sh:Qd C s.heap h'):Inv X QW σ H {s with heap:=h'}:=
 I.turned (t':=s.toks) (λb u hb e=>Sh.extBut b u hb e) o.free o.ne (.inr o.young) o.cell o.pin
theorem DD {cl:List (Str×Addr)}{own:Li}
 (hc:X.calm=true) (S:d8 X scope cl own fr ix) (hi:PI X target iter wi)
 (hb:∀(C:Addr) (s:N5) (H:Hp) (ex:Lk),PG (bc X scope cl C (own++fr) s H ex) target g/\PF (bc X scope cl C (own++fr) s H ex) ifs tc/\PE (bc X scope cl C (own++fr) s H ex) elt te)
 (hs:∀x,Ov iter X.env x=pure x:=by intro _;rfl):
 PE X (.ListComp elt [⟨target,iter,ifs,0⟩] scope pos) (vW wi g tc te (fO own ix)):=by
 intro QW s σ H Q I h
 rw[eval_ListComp]
 refine pC (use:=none) hc S hi hb hs I h λD C H6 s6 I6 o6 q=>?_
 obtain⟨m,hn⟩:=o6.ns
 exact⟨m,hn,λh' Sh=>⟨.ref D,H6,o6.gone I6 Sh,rfl,q⟩⟩
theorem n6 {i:Nat}{y:Str}{py Sw:Pos}{cl:List (Str×Addr)}{own:Li}
 (Sb:Of (.ListComp elt [⟨target,iter,ifs,0⟩] scope pos) (some (.Name y py)) Sw.line X.env=pure true)
 (hN:X.N.Nodup) (VU:X.N[i]?=some y) (hx:Loc X.env.scope y)
 (hc:X.calm=true) (S:d8 X scope cl own fr ix) (hi:PI X target iter wi)
 (hb:∀(C:Addr) (s:N5) (H:Hp) (ex:Lk),PG (bc X scope cl C (own++fr) s H ex) target g/\PF (bc X scope cl C (own++fr) s H ex) ifs tc/\PE (bc X scope cl C (own++fr) s H ex) elt te)
 (hs:∀x,Ov iter X.env x=pure x:=by intro _;rfl)
 (hf:X.fn y=true∨X.env.scope.names.lookup y=some .local:=by first | exact .inl rfl | exact .inr rfl | assumption):
 PS X (.Assign [.Name y py] (.ListComp elt [⟨target,iter,ifs,0⟩] scope pos) Sw) (zF (vW wi g tc te (fO own ix)) (vq i)):=by
 intro QW s σ H D I h
 rw[exec_Assign_Name_used _ _ _ _ Sb]
 refine N6 (Pu (N6 ?_))
 show wpAny _ _ (do let _ ← comprehension (.ListComp elt [⟨target,iter,ifs,0⟩] scope pos) scope X.env _ (newList []) false (eval iter X.env) (some (OL (.Name y py) X.env))) _ _ s
 refine N6 (Oo (pC (use:=some (OL (.Name y py) X.env)) (Qf:=λ_ s'=>SP X QW D .next s') hc S hi hb hs I h λA C H6 s6 I6 o6 q=>?_) (λ_ s' hq=>Oa (Oa hq)) λ_ _ e=>e)
 show wpAny _ _ (OL (.Name y py) X.env (.ref A)) _ _ _
 refine wpAny_assign_Name (pT I6 hN VU hx (v:=.ref A) rfl (λs7 I7 hw=>?_) hf)
 obtain⟨c,VA,Ur⟩:=hw
 have Tj:C≠c:=by
  rcases Ur with rfl | Ur
  ·exact o6.ne
  ·exact NN (o6.cell y c Ur)
 obtain⟨m,hn⟩:=o6.ns
 have o7:Off X QW H6 s7 C:=⟨⟨m,hn.sameBut VA Tj⟩,o6.free,o6.ne,o6.young,o6.cell,o6.pin⟩
 exact⟨m,hn.sameBut VA Tj,λh' Sh=>⟨_,H6,o7.gone I7 Sh,q⟩⟩
end
end L2
namespace Fc
open PySem PySem.Spec PySem.W PySem.Calls L2
open PyProof.Rows hiding St
section
variable {X:Cx}
variable {e:Expr}{σ:St}{H:Hp}{t:TT}{Q:Bool->Hp->Prop}
def eQ (X:Cx)(e:Expr):TE:=λσ H Q=>∀(QW:Lg) (s:N5),Inv X QW σ H s->wpAny (model X.prog X.w) X.A (eval e X.env) (EP X QW σ Q) X.xe s
def zT (X:Cx)(e:Expr):TT:=λσ H Q=>∀(QW:Lg) (s:N5),Inv X QW σ H s->wpAny (model X.prog X.w) X.A (OQ e X.env (eval e X.env)) (TP X QW σ Q) X.xe s
def Ad (X:Cx)(e:Expr):TT:=λσ H Q=>∀(whole:Sem Value) (QW:Lg) (s:N5),Inv X QW σ H s->wpAny (model X.prog X.w) X.A (OQ e X.env whole) (TP X QW σ Q) X.xe s
def lj (X:Cx)(e:Expr):TG:=λv σ H Q=>∀(QW:Lg) (s:N5) (u:Value),Inv X QW σ H s->RelV v u->wpAny (model X.prog X.w) X.A (OL e X.env u) (λ_ s'=>∃σ' H',Inv X QW σ' H' s'/\Q σ' H') X.xe s
def zy (X:Cx)(st:Stmt):TS:=λD σ H=>∀(QW:Lg) (s:N5),Inv X QW σ H s->wpAny (model X.prog X.w) X.A (exec st X.env) (SP X QW D) X.xe s
def qq (X:Cx)(st:List Stmt):TS:=λD σ H=>∀(QW:Lg) (s:N5),Inv X QW σ H s->wpAny (model X.prog X.w) X.A (execs st X.env) (SP X QW D) X.xe s
def vL (X:Cx)(es:Lm):TA:=λσ H Q=>∀(pos:Pos) (QW:Lg) (s:N5),Inv X QW σ H s->wpAny (model X.prog X.w) X.A (spliced (Oe pos (N8 es X.env))) (AP X QW σ Q) X.xe s
def mF (X:Cx)(ifs:Lm):TT:=λσ H Q=>∀(QW:Lg) (s:N5),Inv X QW σ H s->
 wpAny (model X.prog X.w) X.A (forIn ifs true λc r=>if r=true then do let ok ← OQ c X.env (eval c X.env);pure (Lx ok) else pure (Lx r)) (TP X QW σ Q) X.xe s
theorem aJ:PE X e (eQ X e):=λQW s _ _ _ I h=>h QW s I
theorem oi:PT X e (zT X e):=λQW s _ _ _ I h=>h QW s I
theorem Ej:PW X e (Ad X e):=λwh QW s _ _ _ I h=>h wh QW s I
theorem pgS:PG X e (lj X e):=λQW s _ _ _ u _ I r h=>h QW s u I r
theorem Jz {e:Stmt}:PS X e (zy X e):=λQW s _ _ _ I h=>h QW s I
theorem jd {e:List Stmt}:i5 X e (qq X e):=λQW s _ _ _ I h=>h QW s I
theorem jS {e:Lm}:PA X e (vL X e):=λpos QW s _ _ _ I h=>h pos QW s I
theorem eS {t:TE}(h:PE X e t){Q:VK}(q:t σ H Q):eQ X e σ H Q:=λQW s I=>h QW s σ H Q I q
theorem tS (h:PT X e t)(q:t σ H Q):zT X e σ H Q:=λQW s I=>h QW s σ H Q I q
theorem wS (h:PW X e t)(q:t σ H Q):Ad X e σ H Q:=λwh QW s I=>h wh QW s σ H Q I q
theorem gS {t:TG}(h:PG X e t){v:V}{Q:St->Hp->Prop}(q:t v σ H Q):lj X e v σ H Q:=λQW s u I r=>h QW s σ H v u Q I r q
theorem sS {e:Stmt}{t:TS}(h:PS X e t){D:Ends}(q:t D σ H):zy X e D σ H:=λQW s I=>h QW s σ H D I q
theorem Fy {e:List Stmt}{t:TS}(h:i5 X e t){D:Ends}(q:t D σ H):qq X e D σ H:=λQW s I=>h QW s σ H D I q
theorem aS {e:Lm}{t:TA}(h:PA X e t){Q:List V->Hp->Prop}(q:t σ H Q):vL X e σ H Q:=λpos QW s I=>h pos QW s σ H Q I q
theorem fS {e:Lm}(h:PF X e t)(q:t σ H Q):mF X e σ H Q:=λQW s I=>h QW s σ H Q I q
end
section
variable {H R:Hp}{α:Type}
theorem ar.fresh {p:Addr}(h:H p=none)(o:HO):ar H (upd H p o):=λb u q=>by rw[aF (cL q h)];exact q
structure Rep (α:Type) where
 R:QA->Hp->V->α->Prop
 mono:∀{K:QA} {H H':Hp} {v:V} {x:α},ar H H'->R K H v x->R K H' v x
def af:Rep Int:=⟨λ_ _ v x=>v= .int x,λ_ h=>h⟩
def bZ:Rep Bool:=⟨λ_ _ v x=>v= .bl x,λ_ h=>h⟩
theorem Paired.map {β:Type}{F G:α->β->Prop}(f:∀a b,F a b->G a b):∀{l:List α} {m:List β},PySem.Paired F l m->PySem.Paired G l m
 | _,_,.nil=>.nil
 | _,_,.cons h t=>.cons (f _ _ h) (Paired.map f t)
def ae (r:Rep α):Rep (List α):=⟨λK H v xs=>∃a vs,v= .ref a/\H a=some (.lst vs)/\PySem.Paired (r.R K H) vs xs/\xs.length<=N7,
 λs ⟨a,vs,e,q,p,z⟩=>⟨a,vs,e,s _ _ q,Paired.map (λ_ _=>r.mono s) p,z⟩⟩
def bu:Rep Lh:=⟨λK H v xs=>∃a,v= .ref a/\aT K H a (xs.map V.int)/\xs.length<=63,λs ⟨a,e,q,z⟩=>⟨a,e,s.seq q,z⟩⟩
def dB {β:Type}(r:Rep α)(r':Rep β):Rep (α×β):=⟨λK H v x=>∃a v1 v2,v= .ref a/\H a=some (.tup [v1,v2])/\r.R K H v1 x.1/\r'.R K H v2 x.2,
 λs ⟨a,v1,v2,e,q,h1,h2⟩=>⟨a,v1,v2,e,s _ _ q,r.mono s h1,r'.mono s h2⟩⟩
abbrev Row:=Int×Int×Int×Int
def eo:Rep Row:=⟨λK H v x=>∃a,v= .ref a/\H a=some (.tup [.int x.1,.int x.2.1,.int x.2.2.1,.int x.2.2.2]),λs ⟨a,e,q⟩=>⟨a,e,s _ _ q⟩⟩
abbrev eV:=Lh×List Row
def lL:Rep eV:=dB (ae af) (ae eo)
structure Ext (H R H' R':Hp):Prop where
 h:ar H H'
 r:ar R R'
 s:ar R' H'
 old:∀b,H b≠none->R' b=R b
theorem Ext.refl (s:ar R H):Ext H R H R:=⟨ar.refl _,ar.refl _,s,λ_ _=>rfl⟩
theorem ar.some {H':Hp}(s:ar H H'){b:Addr}(h:H b≠none):H' b≠none:=by
 cases q:H b with
 | none=>exact absurd q h
 | some o=>rw[s b o q];exact NR o
theorem Ext.trans {H1 R1 H2 R2:Hp}(a:Ext H R H1 R1)(b:Ext H1 R1 H2 R2):Ext H R H2 R2:=
 ⟨a.h.trans b.h,a.r.trans b.r,b.s,λc hc=>(b.old c (ar.some a.h hc)).trans (a.old c hc)⟩
theorem Ext.fresh (s:ar R H){p:Addr}(h:H p=none)(o:HO):Ext H R (upd H p o) (upd R p o):=
 ⟨ar.fresh h o,ar.fresh (s.free h) o,λb u q=>by
  by_cases e:b=p
  ·subst e;rw[aB] at q ⊢;exact q
  ·rw[aF e] at q ⊢;exact s b u q,λb hb=>aF λe=>hb (e▸h)⟩
theorem Ext.dP (s:ar R H){p:Addr}(h:H p=none)(o:HO):Ext H R (upd H p o) R:=
 ⟨ar.fresh h o,ar.refl _,s.trans (ar.fresh h o),λ_ _=>rfl⟩
structure uL:Type 1 where
 fp:Lk
 R:QA->Hp->Hp->V->Prop
 loc:∀{K:QA} {H R0 H' R':Hp} {v:V},(∀a∈fp,H' a=H a)->ar R0 R'->R K H R0 v->R K H' R' v
 has:∀{K:QA} {H R0:Hp} {v:V},R K H R0 v->∀a∈fp,H a≠none
inductive Ent:Type 1
 | no
 | im {α:Type} (r:Rep α) (x:α)
 | mu {α:Type} (r:Rep α) (xs:List α)
 | di (kvs:List (Int×V))
 | ob (B:uL)
def cf (kvs:List (Int×V)):List (Key×V):=kvs.map λp=>(Sum.inl p.1,p.2)
def Ent.ok (K:QA)(H R:Hp):Ent->Option V->Prop
 | .no,_=>True
 | .im r x,o=>∃v,o=some v/\r.R K R v x
 | .mu r xs,o=>∃a vs,o=some (.ref a)/\H a=some (.lst vs)/\R a=none/\PySem.Paired (r.R K R) vs xs
 | .di kvs,o=>∃a,o=some (.ref a)/\H a=some (.dK (cf kvs))/\R a=none
 | .ob B,o=>(∃v,o=some v/\B.R K H R v)/\∀a∈B.fp,R a=none
def Ent.own:Ent->Bool
 | .mu .. =>true
 | .di .. =>true
 | _=>false
def refOf:Option V->Lk
 | some (.ref a)=>[a]
 | _=>[]
def Ent.fp:Ent->Option V->Lk
 | .mu ..,o=>refOf o
 | .di ..,o=>refOf o
 | .ob B,_=>B.fp
 | _,_=>[]
abbrev Ga:=List Ent
structure au (K:QA) (σ:St) (H0 R0 H R:Hp) (Γ:Ga):Prop where
 ext:Ext H0 R0 H R
 ent:∀(i:Nat) (e:Ent),Γ[i]?=some e->e.ok K H R (σ[i]?).join
 nw:∀(i:Nat) (e:Ent) (a:Addr),Γ[i]?=some e->a∈e.fp (σ[i]?).join->H0 a=none
 ds:∀(i j:Nat) (e e':Ent) (a:Addr),Γ[i]?=some e->Γ[j]?=some e'->a∈e.fp (σ[i]?).join->a∈e'.fp (σ[j]?).join->i=j
 len:Γ.length=σ.length
end
section
variable {K:QA}{σ:St}{H0 R0 H R H' R':Hp}{Γ:Ga}{α:Type}{r:Rep α}
variable {a:Addr}{o:Option V}{u:HO}{i:Nat}
theorem bX:a∈refOf o↔o=some (.ref a):=by
 unfold refOf
 split
 ·rw[LH];constructor
  ·rintro rfl;rfl
  ·intro e;cases e;rfl
 ·rename_i h
  constructor
  ·intro z;cases z
  ·intro e;exact absurd e (h a)
theorem Ent.nC {e:Ent}(w:e.own=true):a∈e.fp o↔o=some (.ref a):=by
 cases e with
 | no=>cases w
 | im r x=>cases w
 | mu r xs=>exact bX
 | di kvs=>exact bX
 | ob B=>cases w
theorem au.new (E:au K σ H0 R0 H R Γ)(i:Nat)(e:Ent)(a:Addr)(h:Γ[i]?=some e)(w:e.own=true)(ha:(σ[i]?).join=some (.ref a)):H0 a=none:=E.nw i e a h ((Ent.nC w).mpr ha)
theorem Ent.gq {e:Ent}(h:e.ok K H R o)(ha:a∈e.fp o):H a≠none/\R a=none:=by
 cases e with
 | no=>cases ha
 | im r x=>cases ha
 | mu r xs=>
   obtain⟨b,vs,e,q,n,_⟩:=h
   rw[Ent.fp,bX,e] at ha
   cases ha
   exact⟨by rw[q];exact NR _,n⟩
 | di kvs=>
   obtain⟨b,e,q,n⟩:=h
   rw[Ent.fp,bX,e] at ha
   cases ha
   exact⟨by rw[q];exact NR _,n⟩
 | ob B=>obtain⟨⟨v,e,q⟩,n⟩:=h;exact⟨B.has q a ha,n a ha⟩
theorem Ent.ok.loc {e:Ent}(h:e.ok K H R o)(hH:∀a∈e.fp o,H' a=H a)(hR:ar R R')(hn:∀a∈e.fp o,R' a=none):e.ok K H' R' o:=by
 cases e with
 | no=>trivial
 | im r y=>obtain⟨v,e,q⟩:=h;exact⟨v,e,r.mono hR q⟩
 | mu r xs=>
   obtain⟨a,vs,e,q,n,p⟩:=h
   have ha:a∈Ent.fp (.mu r xs) o:=bX.mpr e
   exact⟨a,vs,e,(hH a ha).trans q,hn a ha,Paired.map (λ_ _=>r.mono hR) p⟩
 | di kvs=>
   obtain⟨a,e,q,n⟩:=h
   have ha:a∈Ent.fp (.di kvs) o:=bX.mpr e
   exact⟨a,e,(hH a ha).trans q,hn a ha⟩
 | ob B=>obtain⟨⟨v,e,q⟩,n⟩:=h;exact⟨⟨v,e,B.loc hH hR q⟩,hn⟩
theorem Ent.ok.grow {e:Ent}(h:e.ok K H R o)(x:Ext H R H' R'):e.ok K H' R' o:=by
 refine h.loc (λa ha=>?_) x.r (λa ha=>?_)
 ·cases q:H a with
  | none=>exact absurd q (Ent.gq h ha).1
  | some u=>exact x.h _ _ q
 ·obtain⟨h1,h2⟩:=Ent.gq h ha
  exact(x.old a h1).trans h2
theorem au.grow (E:au K σ H0 R0 H R Γ)(x:Ext H R H' R'):au K σ H0 R0 H' R' Γ:=
 ⟨E.ext.trans x,λi e h=>(E.ent i e h).grow x,E.nw,E.ds,E.len⟩
theorem au.sub (E:au K σ H0 R0 H R Γ):ar R H:=E.ext.s
def Off (a:Addr)(σ:St)(Γ:Ga):Prop:=∀(i:Nat) (e:Ent),Γ[i]?=some e->a∉e.fp (σ[i]?).join
theorem au.off (E:au K σ H0 R0 H R Γ)(h:H a=none):Off a σ Γ:=λi e q w=>(Ent.gq (E.ent i e q) w).1 h
theorem set_at.{v}{β:Type v}{l:List β}{i:Nat}{y:β}{j:Nat}{e:β}(q:(l.set i y)[j]?=some e):(j=i/\e=y/\i < l.length)∨(j≠i/\l[j]?=some e):=by
 by_cases hj:j=i
 ·subst hj
  have hl:j < l.length:=by
   have:=LC.mp q
   simpa using this.1
  rw[LZ hl] at q
  exact .inl ⟨rfl,(Option.some.inj q).symm,hl⟩
 ·rw[Mf (NN hj)] at q
  exact .inr ⟨hj,q⟩
theorem au.setG (E:au K σ H0 R0 H R Γ)(i:Nat){v:V}{en:Ent}(ho:en.ok K H R (some v))(h0:∀a∈en.fp (some v),H0 a=none)(hf:∀a∈en.fp (some v),∀(j:Nat) (e:Ent),j≠i->Γ[j]?=some e->a∉e.fp (σ[j]?).join):
 au K (σ.set i (some v)) H0 R0 H R (Γ.set i en):=by
 have key:∀(j:Nat) (e:Ent),(Γ.set i en)[j]?=some e->(j=i/\e=en/\((σ.set i (some v))[j]?).join=some v)∨(j≠i/\Γ[j]?=some e/\(σ.set i (some v))[j]?=σ[j]?):=λj e q=>by
  rcases set_at q with⟨rfl,rfl,hl⟩ | ⟨hj,q⟩
  ·exact .inl ⟨rfl,rfl,by rw[LZ (by rw[← E.len];exact hl)];rfl⟩
  ·exact .inr ⟨hj,q,Mf (NN hj)⟩
 refine⟨E.ext,λj e q=>?_,λj e a q w=>?_,λj k e e' a q q' w w'=>?_,by rw[Ml,Ml];exact E.len⟩
 ·rcases key j e q with⟨_,rfl,q2⟩ | ⟨_,q1,q2⟩
  ·rw[q2];exact ho
  ·rw[q2];exact E.ent j e q1
 ·rcases key j e q with⟨_,rfl,q2⟩ | ⟨_,q1,q2⟩
  ·rw[q2] at w;exact h0 a w
  ·rw[q2] at w;exact E.nw j e a q1 w
 ·rcases key j e q with⟨hj,rfl,q2⟩ | ⟨hj,q1,q2⟩
  ·rcases key k e' q' with⟨hk,rfl,U7⟩ | ⟨hk,Ss,U7⟩
   ·rw[hj,hk]
   ·rw[q2] at w;rw[U7] at w';exact absurd w' (hf a w k e' hk Ss)
  ·rcases key k e' q' with⟨hk,rfl,U7⟩ | ⟨hk,Ss,U7⟩
   ·rw[q2] at w;rw[U7] at w';exact absurd w (hf a w' j e hj q1)
   ·rw[q2] at w;rw[U7] at w';exact E.ds j k e e' a q1 Ss w w'
theorem au.set (E:au K σ H0 R0 H R Γ)(i:Nat){v:V}{x:α}(h:r.R K R v x):au K (σ.set i (some v)) H0 R0 H R (Γ.set i (.im r x)):=
 E.setG i ⟨v,rfl,h⟩ (λa w=>by cases w) λa w=>by cases w
theorem au.vV (E:au K σ H0 R0 H R Γ)(i:Nat){u:HO}{en:Ent}(ho:en.ok K H R (some (.ref a)))(h0:H0 a=none)(hf:∀(j:Nat) (e:Ent),j≠i->Γ[j]?=some e->a∉e.fp (σ[j]?).join)(hfp:en.fp (some (.ref a))=[a]:=by rfl):
 au K (σ.set i (some (.ref a))) H0 R0 H R (Γ.set i en):=
 E.setG i ho (λb w=>by rw[hfp,LH] at w;rw[w];exact h0) λb w=>by rw[hfp,LH] at w;rw[w];exact hf
theorem au.mK (E:au K σ H0 R0 H R Γ){e0 en:Ent}(hi:Γ[i]?=some e0)(ha:a∈e0.fp (σ[i]?).join)(ho:en.ok K (L2.upd H a u) R (σ[i]?).join)
 (Rx:∀b∈en.fp (σ[i]?).join,b∈e0.fp (σ[i]?).join∨(H0 b=none/\Off b σ Γ)):au K σ H0 R0 (L2.upd H a u) R (Γ.set i en):=by
 have h0:H0 a=none:=E.nw i e0 a hi ha
 have hR:R a=none:=(Ent.gq (E.ent i e0 hi) ha).2
 refine⟨⟨λb o q=>?_,E.ext.r,λb o q=>?_,E.ext.old⟩,λj e q=>?_,λj e b q w=>?_,λj k e e' b q q' w w'=>?_,by rw[Ml];exact E.len⟩
 ·rw[aF (cL q h0)];exact E.ext.h b o q
 ·rw[aF (cL q hR)];exact E.ext.s b o q
 ·rcases set_at q with⟨rfl,rfl,_⟩ | ⟨hj,q1⟩
  ·exact ho
  ·refine(E.ent j e q1).loc (λb hb=>aF λz=>hj ?_) (ar.refl _) λb hb=>(Ent.gq (E.ent j e q1) hb).2
   rw[z] at hb
   exact E.ds j i e e0 a q1 hi hb ha
 ·rcases set_at q with⟨rfl,rfl,_⟩ | ⟨hj,q1⟩
  ·rcases Rx b w with z | z
   ·exact E.nw _ _ b hi z
   ·exact z.1
  ·exact E.nw j e b q1 w
 ·rcases set_at q with⟨rfl,rfl,_⟩ | ⟨hj,q1⟩
  ·rcases set_at q' with⟨rfl,rfl,_⟩ | ⟨hk,Ss⟩
   ·rfl
   ·rcases Rx b w with z | z
    ·exact E.ds _ _ _ _ b hi Ss z w'
    ·exact absurd w' (z.2 k e' Ss)
  ·rcases set_at q' with⟨rfl,rfl,_⟩ | ⟨hk,Ss⟩
   ·rcases Rx b w' with z | z
    ·exact E.ds _ _ _ _ b q1 hi w z
    ·exact absurd w (z.2 j e q1)
   ·exact E.ds _ _ _ _ b q1 Ss w w'
theorem au.upd (E:au K σ H0 R0 H R Γ){e0 en:Ent}(hi:Γ[i]?=some e0)(w0:e0.own=true)(ha:(σ[i]?).join=some (.ref a))(hR:R a=none)(ho:en.ok K (L2.upd H a u) R (some (.ref a)))(hfp:en.fp (some (.ref a))=[a]:=by rfl):
 au K σ H0 R0 (L2.upd H a u) R (Γ.set i en):=
 E.mK hi ((Ent.nC w0).mpr ha) (by rw[ha];exact ho) λb w=>.inl (by rw[ha,hfp,LH] at w;rw[w];exact(Ent.nC w0).mpr ha)
theorem au.qo (E:au K σ H0 R0 H R Γ)(ha:H a=some u)(hR:R a=none)(h0:H0 a=none)(off:Off a σ Γ):au K σ H0 R0 H (L2.upd R a u) Γ:=by
 have s2:ar R (L2.upd R a u):=ar.fresh hR _
 refine⟨⟨E.ext.h,E.ext.r.trans s2,λb o qb=>?_,λb hb=>?_⟩,λi e qe=>?_,E.nw,E.ds,E.len⟩
 ·by_cases hb:b=a
  ·subst hb;rw[aB] at qb;cases qb;exact ha
  ·rw[aF hb] at qb;exact E.ext.s b o qb
 ·rw[aF (show b≠a from λe=>hb (by rw[e];exact h0))];exact E.ext.old b hb
 ·refine(E.ent i e qe).loc (λ_ _=>rfl) s2 λb hb=>?_
  rw[aF (show b≠a from λz=>off i e qe (z▸hb))]
  exact(Ent.gq (E.ent i e qe) hb).2
theorem au.tell (E:au K σ H0 R0 H R Γ){e0 en:Ent}(hi:Γ[i]?=some e0)(ho:en.ok K H R (σ[i]?).join)(Rx:∀b∈en.fp (σ[i]?).join,b∈e0.fp (σ[i]?).join):au K σ H0 R0 H R (Γ.set i en):=by
 refine⟨E.ext,λj e q=>?_,λj e b q w=>?_,λj k e e' b q q' w w'=>?_,by rw[Ml];exact E.len⟩
 ·rcases set_at q with⟨rfl,rfl,_⟩ | ⟨hj,q1⟩
  ·exact ho
  ·exact E.ent j e q1
 ·rcases set_at q with⟨rfl,rfl,_⟩ | ⟨hj,q1⟩
  ·exact E.nw _ _ b hi (Rx b w)
  ·exact E.nw j e b q1 w
 ·rcases set_at q with⟨rfl,rfl,_⟩ | ⟨hj,q1⟩
  ·rcases set_at q' with⟨rfl,rfl,_⟩ | ⟨hk,Ss⟩
   ·rfl
   ·exact E.ds _ _ _ _ b hi Ss (Rx b w) w'
  ·rcases set_at q' with⟨rfl,rfl,_⟩ | ⟨hk,Ss⟩
   ·exact E.ds _ _ _ _ b q1 hi w (Rx b w')
   ·exact E.ds _ _ _ _ b q1 Ss w w'
def Wk:Ga->Ga->Prop
 | [],[]=>True
 | e::r,e'::r'=>(e'=e∨e'= .no)/\Wk r r'
 | _,_=>False
theorem Wk.len:∀{Γ Γ':Ga},Wk Γ Γ'->Γ'.length=Γ.length
 | [],[],_=>rfl
 | _::_,_::_,h=>by rw[LR,LR,Wk.len h.2]
theorem Wk.at:∀{Γ Γ':Ga},Wk Γ Γ'->∀(i:Nat) (e:Ent),Γ'[i]?=some e->e= .no∨Γ[i]?=some e
 | [],[],_,i,e,q=>by simp at q
 | a::_,b::_,h,0,e,q=>by
   simp at q
   rcases h.1 with z | z
   ·right;simp[← q,z]
   ·left;rw[← q,z]
 | a::r,b::r',h,i + 1,e,q=>by
   simp at q
   have:=Wk.at h.2 i e q
   simpa using this
theorem Wk.refl:∀Γ:Ga,Wk Γ Γ
 | []=>trivial
 | _::r=>⟨.inl rfl,Wk.refl r⟩
theorem au.weak (E:au K σ H0 R0 H R Γ){Γ':Ga}(w:Wk Γ Γ'):au K σ H0 R0 H R Γ':=by
 refine⟨E.ext,λi e q=>?_,λi e a q z=>?_,λi j e e' a q q' z z'=>?_,w.len.trans E.len⟩
 ·rcases w.at i e q with rfl | q
  ·trivial
  ·exact E.ent i e q
 ·rcases w.at i e q with rfl | q
  ·cases z
  ·exact E.nw i e a q z
 ·rcases w.at i e q with rfl | q
  ·cases z
  ·rcases w.at j e' q' with rfl | q'
   ·cases z'
   ·exact E.ds i j e e' a q q' z z'
end
section
variable {X:Cx}{Γ Γ1 Γ2 Γ3:Ga}{α β γ:Type}
variable {pos:Pos}{e:Expr}{r:Rep α}
def EV (X:Cx)(e:Expr)(Γ:Ga){α:Type}(r:Rep α)(y:α)(Γ':Ga):Prop:=
 ∀(σ:St) (H0 R0 H R:Hp),au X.K σ H0 R0 H R Γ->∀Q:VK,(∀v H' R',au X.K σ H0 R0 H' R' Γ'->ar R R'->r.R X.K R' v y->Q v H')->eQ X e σ H Q
def aW (X:Cx)(e:Expr)(Γ:Ga){α:Type}(r:Rep α)(ys:List α)(Γ':Ga):Prop:=
 ∀(σ:St) (H0 R0 H R:Hp),au X.K σ H0 R0 H R Γ->∀Q:VK,(∀a vs H' R',au X.K σ H0 R0 H' R' Γ'->ar R R'->H' a=some (.lst vs)->R' a=none->H0 a=none->Off a σ Γ'->PySem.Paired (r.R X.K R') vs ys->ys.length<=N7->Q (.ref a) H')->eQ X e σ H Q
def TV (X:Cx)(e:Expr)(Γ:Ga)(b:Bool)(Γ':Ga):Prop:=
 ∀(σ:St) (H0 R0 H R:Hp),au X.K σ H0 R0 H R Γ->∀Q:Bool->Hp->Prop,(∀H' R',au X.K σ H0 R0 H' R' Γ'->ar R R'->Q b H')->zT X e σ H Q
def TW (X:Cx)(e:Expr)(Γ:Ga)(b:Bool)(Γ':Ga):Prop:=
 ∀(σ:St) (H0 R0 H R:Hp),au X.K σ H0 R0 H R Γ->∀Q:Bool->Hp->Prop,(∀H' R',au X.K σ H0 R0 H' R' Γ'->ar R R'->Q b H')->Ad X e σ H Q
def TF (X:Cx)(es:Lm)(Γ:Ga)(b:Bool)(Γ':Ga):Prop:=
 ∀(σ:St) (H0 R0 H R:Hp),au X.K σ H0 R0 H R Γ->∀Q:Bool->Hp->Prop,(∀H' R',au X.K σ H0 R0 H' R' Γ'->ar R R'->Q b H')->mF X es σ H Q
def BG (X:Cx)(tg:Expr){α:Type}(r:Rep α)(bf:α->Ga->Ga):Prop:=
 ∀(σ:St) (H0 R0 H R:Hp) (Γ:Ga) (v:V) (x:α),au X.K σ H0 R0 H R Γ->r.R X.K R v x->∀Q:St->Hp->Prop,(∀σ',au X.K σ' H0 R0 H R (bf x Γ)->Q σ' H)->lj X tg v σ H Q
abbrev RT:=Hp->V->Hp->Hp->Prop
def WS (X:Cx)(S9:List Stmt)(Γ:Ga)(N:Ga->Prop)(T:RT):Prop:=
 ∀(σ:St) (H0 R0 H R:Hp),au X.K σ H0 R0 H R Γ->∀D:Ends,(∀σ' H' R' Γ',au X.K σ' H0 R0 H' R' Γ'->ar R R'->N Γ'->D.nx σ' H')->(∀v H' R',Ext H0 R0 H' R'->T H0 v H' R'->D.rt v H')->qq X S9 D σ H
def W1 (X:Cx)(st:Stmt)(Γ:Ga)(N:Ga->Prop)(T:RT):Prop:=
 ∀(σ:St) (H0 R0 H R:Hp),au X.K σ H0 R0 H R Γ->∀D:Ends,(∀σ' H' R' Γ',au X.K σ' H0 R0 H' R' Γ'->ar R R'->N Γ'->D.nx σ' H')->(∀v H' R',Ext H0 R0 H' R'->T H0 v H' R'->D.rt v H')->zy X st D σ H
def cg (K:QA){β:Type}(r:Rep β)(P:β->Prop):RT:=λ_ v _ R'=>∃y,r.R K R' v y/\P y
def pA (K:QA){β:Type}(r:Rep β)(P:List β->Prop):RT:=λH0 v H' R'=>∃a vs ys,v= .ref a/\H0 a=none/\H' a=some (.lst vs)/\R' a=none/\PySem.Paired (r.R K R') vs ys/\ys.length<=N7/\P ys
theorem aW.im {ys:List α}(h:aW X e Γ r ys Γ1):EV X e Γ (ae r) ys Γ1:=by
 intro σ H0 R0 H R E Q q
 refine h σ H0 R0 H R E Q λa vs H' R' E' s1 ha hR h0 off p z=>?_
 have s2:ar R' (upd R' a (.lst vs)):=ar.fresh hR _
 exact q (.ref a) H' (upd R' a (.lst vs)) (E'.qo ha hR h0 off) (s1.trans s2) ⟨a,vs,rfl,aB,Paired.map (λ_ _=>r.mono s2) p,z⟩
theorem EV.cast {y y':α}(h:EV X e Γ r y Γ1)(e1:y=y'):EV X e Γ r y' Γ1:=e1▸h
theorem TV.cast {b b':Bool}(h:TV X e Γ b Γ1)(e1:b=b'):TV X e Γ b' Γ1:=e1▸h
theorem aa (i:Nat){x:Str}{y:α}(hΓ:Γ[i]?=some (.im r y))(hN:X.N[i]?=some x:=by rfl)(hv:autoParam (cG X.env.scope x) RE)
 (hd:Rh x:=by decide) (Q4:RG x:=by decide):EV X (.Name x pos) Γ r y Γ:=by
 intro σ H0 R0 H R E Q q
 obtain⟨v,e,h⟩:=E.ent i _ hΓ
 refine eS (bp hN hv hd Q4) ⟨v,?_,q v H R E (ar.refl _) h⟩
 cases es:σ[i]? with
 | none=>rw[es] at e;cases e
 | some o=>rw[es] at e;exact congrArg some e
theorem ev_int {i:Int}{j:Nat}:EV X (.Constant (.int i) j pos) Γ af i Γ:=λ_ _ _ _ _ E _ q=>eS yd (q _ _ _ E (ar.refl _) rfl)
theorem me {b:Bool}{j:Nat}:EV X (.Constant (.bool b) j pos) Γ bZ b Γ:=λ_ _ _ _ _ E _ q=>eS vm (q _ _ _ E (ar.refl _) rfl)
theorem dS {x:Str}{n:Int}{t:Tok}(hm:X.mg x=some (.int n t))(hg:Gl X x:=by rfl)(hd:Rh x:=by decide):EV X (.Name x pos) Γ af n Γ:=
 λ_ _ _ _ _ E _ q=>eS (gM (v:=.int n) hg hm ⟨t,rfl⟩ hd) (q (.int n) _ _ E (ar.refl _) rfl)
theorem iy {op:Operator}{r2:R2}{a b:Expr}{ra:Rep α}{rb:Rep β}{rc:Rep γ}{x:α}{y:β}{z:γ}(ho:dw X (OH op) r2)(ha:EV X a Γ ra x Γ1)(hb:EV X b Γ1 rb y Γ2)
 (hz:∀(R:Hp) v u H Q,ra.R X.K R v x->rb.R X.K R u y->(∀w,rc.R X.K R w z->Q w H)->r2 v u H Q):EV X (.BinOp a op b pos) Γ rc z Γ2:=by
 intro σ H0 R0 H R E Q q
 refine eS (AA ho aJ aJ) (ha σ H0 R0 H R E _ λv H1 R1 E1 s1 e1=>hb σ H0 R0 H1 R1 E1 _ λu H2 R2 E2 s2 e2=>?_)
 exact hz R2 v u H2 _ (ra.mono s2 e1) e2 λw hw=>q w H2 R2 E2 (s1.trans s2) hw
section
variable {a b c:Expr}{pos:Pos}{x y z:Int}
theorem bK (ha:EV X a Γ af x Γ1)(hb:EV X b Γ1 af y Γ2):EV X (.BinOp a .Add b pos) Γ af (x + y) Γ2:=iy Eg ha hb λR v u H Q e1 e2 q=>⟨x,y,e1,e2,q _ rfl⟩
theorem fL (ha:EV X a Γ af x Γ1)(hb:EV X b Γ1 af y Γ2):EV X (.BinOp a .Sub b pos) Γ af (x - y) Γ2:=iy EL ha hb λR v u H Q e1 e2 q=>⟨x,y,e1,e2,q _ rfl⟩
theorem yk (ha:EV X a Γ af x Γ1)(hb:EV X b Γ1 af y Γ2)(h:vx x y):EV X (.BinOp a .Mult b pos) Γ af (x * y) Γ2:=iy FP ha hb λR v u H Q e1 e2 q=>⟨x,y,e1,e2,h,q _ rfl⟩
theorem bN (ha:EV X a Γ af x Γ1)(hb:EV X b Γ1 af y Γ2)(h:0 < y):EV X (.BinOp a .Mod b pos) Γ af (x % y) Γ2:=iy Ey ha hb λR v u H Q e1 e2 q=>⟨x,y,e1,e2,h,q _ rfl⟩
theorem j7 (ha:EV X a Γ af x Γ1)(hb:EV X b Γ1 af y Γ2)(h:DX x y):EV X (.BinOp a .FloorDiv b pos) Γ af (x / y) Γ2:=iy Ct ha hb λR v u H Q e1 e2 q=>⟨x,y,e1,e2,h,q _ rfl⟩
theorem sj (ha:EV X a Γ af x Γ1)(hb:EV X b Γ1 af y Γ2)(h:G2 x y):EV X (.BinOp a .Pow b pos) Γ af (x ^ y.toNat) Γ2:=iy EI ha hb λR v u H Q e1 e2 q=>⟨x,y,e1,e2,h,q _ rfl⟩
theorem gp (ha:EV X a Γ af x Γ1):EV X (.UnaryOp .USub a pos) Γ af (-x) Γ1:=by
 intro σ H0 R0 H R E Q q
 exact eS (Hk E9 aJ) (ha σ H0 R0 H R E _ λv H1 R1 E1 s1 e1=>⟨x,e1,q _ H1 R1 E1 s1 rfl⟩)
end
structure fM (X:Cx) (op:CmpOp) {α β:Type} (ra:Rep α) (rb:Rep β) (x:α) (y:β) (k:Bool):Prop where
 r2:∃r,dw X (Oj op) r/\∀(R H:Hp) v u Q,ar R H->ra.R X.K R v x->rb.R X.K R u y->Q (.bl k) H->r v u H Q
theorem dN {op:CmpOp}{a b:Expr}{pos:Pos}{ra:Rep α}{rb:Rep β}{x:α}{y:β}{k:Bool}(c:fM X op ra rb x y k)(ha:EV X a Γ ra x Γ1)(hb:EV X b Γ1 rb y Γ2)(hm:OE op b=false:=by first | exact rX _ | with_unfolding_all rfl):
 EV X (.Compare a [op] [b] pos) Γ bZ k Γ2:=by
 obtain⟨r,ho,hr⟩:=c.r2
 intro σ H0 R0 H R E Q q
 refine eS (Dz ho aJ aJ hm) (ha σ H0 R0 H R E _ λv H1 R1 E1 s1 e1=>hb σ H0 R0 H1 R1 E1 _ λu H2 R2 E2 s2 e2=>?_)
 exact hr R2 H2 v u _ E2.sub (ra.mono s2 e1) e2 (q _ H2 R2 E2 (s1.trans s2) rfl)
theorem ay {op:CmpOp}{a b:Expr}{pos:Pos}{ra:Rep α}{rb:Rep β}{x:α}{y:β}{k:Bool}(c:fM X op ra rb x y k)(ha:EV X a Γ ra x Γ1)(hb:EV X b Γ1 rb y Γ2)(hm:OE op b=false:=by first | exact rX _ | with_unfolding_all rfl):
 TV X (.Compare a [op] [b] pos) Γ k Γ2:=by
 obtain⟨r,ho,hr⟩:=c.r2
 intro σ H0 R0 H R E Q q
 refine tS (Dx ho aJ aJ hm) (ha σ H0 R0 H R E _ λv H1 R1 E1 s1 e1=>hb σ H0 R0 H1 R1 E1 _ λu H2 R2 E2 s2 e2=>?_)
 exact hr R2 H2 v u _ E2.sub (ra.mono s2 e1) e2 ⟨k,rfl,q H2 R2 E2 (s1.trans s2)⟩
section
variable {x y:Int}
theorem kC:fM X .Lt af af x y (decide (x < y)):=⟨_,Jc,λR H v u Q _ e1 e2 q=>⟨x,y,e1,e2,q⟩⟩
theorem qC:fM X .LtE af af x y (decide (x<=y)):=⟨_,IC,λR H v u Q _ e1 e2 q=>⟨x,y,e1,e2,q⟩⟩
theorem fb:fM X .Gt af af x y (decide (y < x)):=⟨_,Ia,λR H v u Q _ e1 e2 q=>⟨x,y,e1,e2,q⟩⟩
theorem K7:fM X .GtE af af x y (decide (y<=x)):=⟨_,Hr,λR H v u Q _ e1 e2 q=>⟨x,y,e1,e2,q⟩⟩
theorem fD:fM X .Eq af af x y (decide (x=y)):=⟨_,A9,λR H v u Q _ e1 e2 q=>by
 cases e1;cases e2
 exact⟨rfl,by rw[show decide (V.int x=V.int y)=decide (x=y) by rw[mf];exact Lu x y];exact q⟩⟩
theorem Gs:fM X .NotEq af af x y (!decide (x=y)):=⟨_,Bs,λR H v u Q _ e1 e2 q=>by
 cases e1;cases e2
 exact⟨rfl,by rw[show decide (V.int x=V.int y)=decide (x=y) by rw[mf];exact Lu x y];exact q⟩⟩
end
variable {a:Expr}{pos:Pos}{x:Bool}{b c:Expr}{y:Bool}{rest:Lm}
theorem ng {op SN:CmpOp}{ra:Rep α}{rb:Rep β}{rc:Rep γ}{x:α}{y:β}{z:γ}{k k':Bool}(c1:fM X op ra rb x y k)(c2:fM X SN rb rc y z k')(ha:EV X a Γ ra x Γ)(hb:EV X b Γ rb y Γ)(hc:EV X c Γ rc z Γ)
 (hm:lastMarks [op,SN] [b,c]=false:=by with_unfolding_all rfl):EV X (.Compare a [op,SN] [b,c] pos) Γ bZ (k&&k') Γ:=by
 obtain⟨r,ho,hr⟩:=c1.r2
 obtain⟨r',Sr,S7⟩:=c2.r2
 intro σ H0 R0 H R E Q q
 refine eS (As ho Sr aJ aJ aJ hm) (ha σ H0 R0 H R E _ λv H1 R1 E1 s1 e1=>hb σ H0 R0 H1 R1 E1 _ λu H2 R2 E2 s2 e2=>?_)
 refine hr R2 H2 v u _ E2.sub (ra.mono s2 e1) e2 ⟨k,rfl,?_⟩
 cases k with
 | false=>exact kq (q _ H2 R2 E2 (s1.trans s2) rfl)
 | true=>exact ki (hc σ H0 R0 H2 R2 E2 _ λw H3 R3 E3 s3 e3=>S7 R3 H3 u w _ E3.sub (rb.mono s3 e2) e3 (q _ H3 R3 E3 (s1.trans (s2.trans s3)) rfl))
theorem zi {op SN:CmpOp}{ra:Rep α}{rb:Rep β}{rc:Rep γ}{x:α}{y:β}{z:γ}{k k':Bool}(c1:fM X op ra rb x y k)(c2:fM X SN rb rc y z k')(ha:EV X a Γ ra x Γ)(hb:EV X b Γ rb y Γ)(hc:EV X c Γ rc z Γ)
 (hm:lastMarks [op,SN] [b,c]=false:=by with_unfolding_all rfl):TV X (.Compare a [op,SN] [b,c] pos) Γ (k&&k') Γ:=by
 obtain⟨r,ho,hr⟩:=c1.r2
 obtain⟨r',Sr,S7⟩:=c2.r2
 intro σ H0 R0 H R E Q q
 refine tS (zC ho Sr aJ aJ aJ hm) (ha σ H0 R0 H R E _ λv H1 R1 E1 s1 e1=>hb σ H0 R0 H1 R1 E1 _ λu H2 R2 E2 s2 e2=>?_)
 refine hr R2 H2 v u _ E2.sub (ra.mono s2 e1) e2 ⟨k,rfl,?_⟩
 cases k with
 | false=>exact kq ⟨false,rfl,q H2 R2 E2 (s1.trans s2)⟩
 | true=>exact ki (hc σ H0 R0 H2 R2 E2 _ λw H3 R3 E3 s3 e3=>S7 R3 H3 u w _ E3.sub (rb.mono s3 e2) e3 ⟨k',rfl,q H3 R3 E3 (s1.trans (s2.trans s3))⟩)
theorem lH {op:BoolOp}{r:Rep α}{x:α}(h:EV X a Γ r x Γ1):EV X (.BoolOp op [a] pos) Γ r x Γ1:=λσ H0 R0 H R E Q q=>eS (Fn aJ) (h σ H0 R0 H R E Q q)
theorem tG (ha:EV X a Γ bZ x Γ)(hb:x=true->EV X (.BoolOp .And (b::rest) pos) Γ bZ y Γ):EV X (.BoolOp .And (a::b::rest) pos) Γ bZ (x&&y) Γ:=by
 intro σ H0 R0 H R E Q q
 refine eS (Gp aJ aJ) (ha σ H0 R0 H R E _ λv H1 R1 E1 s1 e1=>⟨x,e1,?_⟩)
 cases x with
 | false=>exact kq (q _ H1 R1 E1 s1 rfl)
 | true=>exact ki (hb rfl σ H0 R0 H1 R1 E1 _ λw H3 R3 E3 s3 e3=>q w H3 R3 E3 (s1.trans s3) e3)
theorem vJ (ha:EV X a Γ bZ x Γ)(hb:x=false->EV X (.BoolOp .Or (b::rest) pos) Γ bZ y Γ):EV X (.BoolOp .Or (a::b::rest) pos) Γ bZ (x ||y) Γ:=by
 intro σ H0 R0 H R E Q q
 refine eS (HK aJ aJ) (ha σ H0 R0 H R E _ λv H1 R1 E1 s1 e1=>⟨x,e1,?_⟩)
 cases x with
 | true=>exact ki (q _ H1 R1 E1 s1 rfl)
 | false=>exact kq (hb rfl σ H0 R0 H1 R1 E1 _ λw H3 R3 E3 s3 e3=>q w H3 R3 E3 (s1.trans s3) e3)
theorem xB (ha:EV X a Γ bZ x Γ1):EV X (.UnaryOp .Not a pos) Γ bZ (!x) Γ1:=by
 intro σ H0 R0 H R E Q q
 exact eS (Gh aJ) (ha σ H0 R0 H R E _ λv H1 R1 E1 s1 e1=>⟨x,e1,q _ H1 R1 E1 s1 rfl⟩)
theorem fc (ha:TV X a Γ x Γ1):TV X (.UnaryOp .Not a pos) Γ (!x) Γ1:=by
 intro σ H0 R0 H R E Q q
 exact tS (Hf oi) (ha σ H0 R0 H R E _ λH1 R1 E1 s1=>q H1 R1 E1 s1)
theorem TW.tv {e:Expr}{b:Bool}(h:TW X e Γ b Γ1):TV X e Γ b Γ1:=λσ H0 R0 H R E Q q=>tS (Ej.pt) (h σ H0 R0 H R E Q q)
theorem du (ha:TV X a Γ x Γ1):TW X (.BoolOp .And [a] pos) Γ x Γ1:=λσ H0 R0 H R E Q q=>wS (Cc oi) (ha σ H0 R0 H R E Q q)
theorem jP (ha:TV X a Γ x Γ1):TW X (.BoolOp .Or [a] pos) Γ x Γ1:=λσ H0 R0 H R E Q q=>wS (F6 oi) (ha σ H0 R0 H R E Q q)
theorem cK (ha:TV X a Γ x Γ)(hb:x=true->TW X (.BoolOp .And (b::rest) pos) Γ y Γ):TW X (.BoolOp .And (a::b::rest) pos) Γ (x&&y) Γ:=by
 intro σ H0 R0 H R E Q q
 refine wS (DQ oi Ej) (ha σ H0 R0 H R E _ λH1 R1 E1 s1=>?_)
 cases x with
 | false=>exact kq (q H1 R1 E1 s1)
 | true=>exact ki (hb rfl σ H0 R0 H1 R1 E1 _ λH3 R3 E3 s3=>q H3 R3 E3 (s1.trans s3))
theorem jj (ha:TV X a Γ x Γ)(hb:x=false->TW X (.BoolOp .Or (b::rest) pos) Γ y Γ):TW X (.BoolOp .Or (a::b::rest) pos) Γ (x ||y) Γ:=by
 intro σ H0 R0 H R E Q q
 refine wS (Ig oi Ej) (ha σ H0 R0 H R E _ λH1 R1 E1 s1=>?_)
 cases x with
 | true=>exact ki (q H1 R1 E1 s1)
 | false=>exact kq (hb rfl σ H0 R0 H1 R1 E1 _ λH3 R3 E3 s3=>q H3 R3 E3 (s1.trans s3))
theorem dG {k:Bool}(ha:EV X a Γ bZ k Γ1)(he:∀whole,OQ a X.env whole=(do let v ← whole;O4 a.pos;OF [v] (truthy v)):=by intro _;rfl):TV X a Γ k Γ1:=by
 intro σ H0 R0 H R E Q q
 exact tS (EO aJ he) (ha σ H0 R0 H R E _ λv H1 R1 E1 s1 e1=>⟨k,e1,q H1 R1 E1 s1⟩)
theorem dg:TF X [] Γ true Γ:=λσ H0 R0 H R E Q q=>fS EM (q H R E (ar.refl _))
theorem gc {b:Bool}(h:TV X c Γ b Γ1):TF X [c] Γ b Γ1:=λσ H0 R0 H R E Q q=>fS (Ew oi) (h σ H0 R0 H R E Q q)
theorem jk {k:Bool}{r:Rep α}{x y:α}(hc:TV X c Γ k Γ1)(ha:k=true->EV X a Γ1 r x Γ2)(hb:k=false->EV X b Γ1 r y Γ2):EV X (.IfExp c a b pos) Γ r (if k then x else y) Γ2:=by
 intro σ H0 R0 H R E Q q
 refine eS (zD oi aJ aJ) (hc σ H0 R0 H R E _ λH1 R1 E1 s1=>?_)
 cases k with
 | true=>exact ki (ha rfl σ H0 R0 H1 R1 E1 _ λv H3 R3 E3 s3 e3=>q v H3 R3 E3 (s1.trans s3) e3)
 | false=>exact kq (hb rfl σ H0 R0 H1 R1 E1 _ λv H3 R3 E3 s3 e3=>q v H3 R3 E3 (s1.trans s3) e3)
end
section
variable {X:Cx}{Γ Γ1 Γ2 Γ3:Ga}{α β γ δ:Type}
variable {r:Rep α}{pos:Pos}{i:Int}{b:Expr}{es:Lm}{x:α}{a:Expr}{xs:List α}
structure Pk:Type 1 where
 {α:Type}
 r:Rep α
 x:α
inductive je (K:QA) (R:Hp):List V->List Pk->Prop
 | nil:je K R [] []
 | cons {v:V} {vs:List V} {p:Pk} {ps:List Pk}:p.r.R K R v p.x->je K R vs ps->je K R (v::vs) (p::ps)
def HA (X:Cx)(es:Lm)(Γ:Ga)(ps:List Pk)(Γ':Ga):Prop:=
 ∀(σ:St) (H0 R0 H R:Hp),au X.K σ H0 R0 H R Γ->∀Q:List V->Hp->Prop,(∀vs H' R',au X.K σ H0 R0 H' R' Γ'->ar R R'->je X.K R' vs ps->Q vs H')->vL X es σ H Q
theorem aw:HA X [] Γ [] Γ:=λσ H0 R0 H R E Q q=>aS bE (q [] H R E (ar.refl _) .nil)
theorem ag {e:Expr}{ps:List Pk}(he:EV X e Γ r x Γ1)(hr:HA X es Γ1 ps Γ2)(hs:N8 (e::es) X.env=(false,eval e X.env)::N8 es X.env:=by rfl):HA X (e::es) Γ (⟨r,x⟩::ps) Γ2:=by
 intro σ H0 R0 H R E Q q
 refine aS (aV aJ jS hs) (he σ H0 R0 H R E _ λv H1 R1 E1 s1 e1=>hr σ H0 R0 H1 R1 E1 _ λvs H2 R2 E2 s2 e2=>?_)
 exact q (v::vs) H2 R2 E2 (s1.trans s2) (.cons (r.mono s2 e1) e2)
def EA (X:Cx)(es:Lm)(Γ:Ga){α:Type}(r:Rep α)(ys:List α)(Γ':Ga):Prop:=
 ∀(σ:St) (H0 R0 H R:Hp),au X.K σ H0 R0 H R Γ->∀Q:List V->Hp->Prop,(∀vs H' R',au X.K σ H0 R0 H' R' Γ'->ar R R'->PySem.Paired (r.R X.K R') vs ys->Q vs H')->vL X es σ H Q
theorem aO:EA X [] Γ r [] Γ:=λσ H0 R0 H R E Q q=>aS bE (q [] H R E (ar.refl _) .nil)
theorem av {e:Expr}{ys:List α}(he:EV X e Γ r x Γ1)(hr:EA X es Γ1 r ys Γ2)(hs:N8 (e::es) X.env=(false,eval e X.env)::N8 es X.env:=by rfl):EA X (e::es) Γ r (x::ys) Γ2:=by
 intro σ H0 R0 H R E Q q
 refine aS (aV aJ jS hs) (he σ H0 R0 H R E _ λv H1 R1 E1 s1 e1=>hr σ H0 R0 H1 R1 E1 _ λvs H2 R2 E2 s2 e2=>?_)
 exact q (v::vs) H2 R2 E2 (s1.trans s2) (.cons (r.mono s2 e1) e2)
theorem aP {ys:List α}(h:EA X es Γ r ys Γ1)(hz:ys.length<=N7):aW X (.List es pos) Γ r ys Γ1:=by
 intro σ H0 R0 H R E Q q
 refine eS (Gw jS) (h σ H0 R0 H R E _ λvs H1 R1 E1 s1 p1=>⟨by rw[p1.length];exact hz,λp hp=>?_⟩)
 exact q p vs _ R1 (E1.grow (Ext.dP E1.sub hp _)) s1 aB (E1.sub.free hp) (E1.ext.h.free hp) (E1.off hp) p1 hz
theorem l6 {k:Nat}{r':Rep β}{y:β}(h:HA X [a,b] Γ [⟨r,x⟩,⟨r',y⟩] Γ1):EV X (.Tuple [a,b] k pos) Γ (dB r r') (x,y) Γ1:=by
 intro σ H0 R0 H R E Q q
 refine eS (xm jS) (h σ H0 R0 H R E _ λvs H1 R1 E1 s1 p1=>?_)
 obtain⟨h1,h2⟩:∃v1 v2,vs=[v1,v2]/\r.R X.K R1 v1 x/\r'.R X.K R1 v2 y:=by
  cases p1 with
  | cons a1 t=>cases t with
    | cons a2 t2=>cases t2;exact⟨_,_,rfl,a1,a2⟩
 obtain⟨v2,rfl,e1,e2⟩:=h2
 refine⟨by show 2<=N7;decide,λp hp=>?_⟩
 have s2:ar R1 (upd R1 p (.tup [h1,v2])):=ar.fresh (E1.sub.free hp) _
 exact q _ _ (upd R1 p (.tup [h1,v2])) (E1.grow (Ext.fresh E1.sub hp _)) (s1.trans s2) ⟨p,_,_,rfl,aB,r.mono s2 e1,r'.mono s2 e2⟩
theorem cX {F:α->β->Prop}:∀{vs:List α} {xs:List β},PySem.Paired F vs xs->∀{i:Nat} {y:β},xs[i]?=some y->∃v,vs[i]?=some v/\F v y
 | _,_,.nil,i,y,h=>by simp at h
 | _,_,.cons h t,0,y,e=>by simp at e;subst e;exact⟨_,rfl,h⟩
 | _,_,.cons h t,i + 1,y,e=>by
   obtain⟨v,e1,e2⟩:=cX t (i:=i) (y:=y) (by simpa using e)
   exact⟨v,by simpa using e1,e2⟩
theorem gD {F:α->β->Prop}{vs:List α}{xs:List β}(p:PySem.Paired F vs xs){y:β}(h:bV xs i=some y):∃v,bV vs i=some v/\F v y:=by
 unfold bV at h ⊢
 rw[p.length]
 cases e:eD xs.length i with
 | none=>rw[e] at h;cases h
 | some j=>rw[e] at h;exact cX p h
theorem nM (h0:0<=i)(h1:i < xs.length):bV xs i=xs[i.toNat]?:=by
 have e:i=((i.toNat:Nat):Int):=by omega
 have hl:i.toNat < xs.length:=by omega
 have q:bV xs ((i.toNat:Nat):Int)=some xs[i.toNat]:=Cs (LD hl)
 rw[← e] at q
 rw[q,LD hl]
theorem aZ {y:α}(ha:EV X a Γ (ae r) xs Γ1)(hb:EV X b Γ1 af i Γ2)(h:bV xs i=some y)(hs:dU b:=by exact λ_ _=>rfl):EV X (.Subscript a b pos) Γ r y Γ2:=by
 intro σ H0 R0 H R E Q q
 refine eS (gW gU aJ aJ hs) (ha σ H0 R0 H R E _ λv H1 R1 E1 s1 e1=>hb σ H0 R0 H1 R1 E1 _ λu H2 R2 E2 s2 e2=>?_)
 obtain⟨p,vs,rfl,ha,pp,z⟩:=(ae r).mono s2 e1
 obtain⟨w,e3,e4⟩:=gD pp h
 exact⟨p,vs,i,w,rfl,e2,aT.of (E2.sub _ _ ha),e3,q w H2 R2 E2 (s1.trans s2) e4⟩
theorem qJ {xs:Lh}{y:Int}(ha:EV X a Γ bu xs Γ1)(hb:EV X b Γ1 af i Γ2)(h:bV xs i=some y)(hs:dU b:=by exact λ_ _=>rfl):EV X (.Subscript a b pos) Γ af y Γ2:=by
 intro σ H0 R0 H R E Q q
 refine eS (gW gU aJ aJ hs) (ha σ H0 R0 H R E _ λv H1 R1 E1 s1 e1=>hb σ H0 R0 H1 R1 E1 _ λu H2 R2 E2 s2 e2=>?_)
 obtain⟨p,rfl,ha,z⟩:=bu.mono s2 e1
 have e3:bV (xs.map V.int) i=some (.int y):=by
  unfold bV at h ⊢
  rw[LJ]
  cases e:eD xs.length i with
  | none=>rw[e] at h;cases h
  | some j=>
    rw[e] at h
    show(xs.map V.int)[j]?=_
    rw[LM,show xs[j]?=some y from h];rfl
 exact⟨p,_,i,_,rfl,e2,E2.sub.seq ha,e3,q _ H2 R2 E2 (s1.trans s2) rfl⟩
theorem lh (j:Nat){x:Str}{p1:Pos}{y:α}(hb:EV X b Γ af i Γ1)(hΓ:Γ[j]?=some (.mu r xs))(hΓ1:Γ1[j]?=some (.mu r xs))(h:bV xs i=some y)(hN:X.N[j]?=some x:=by rfl)(hv:autoParam (cG X.env.scope x) RE)
 (hs:dU b:=by exact λ_ _=>rfl) (hd:Rh x:=by decide) (Q4:RG x:=by decide):EV X (.Subscript (.Name x p1) b pos) Γ r y Γ1:=by
 intro σ H0 R0 H R E Q q
 obtain⟨a,vs,e,_,_,_⟩:=E.ent j _ hΓ
 refine eS (gW gU (bp hN hv hd Q4) aJ hs) ⟨.ref a,?_,hb σ H0 R0 H R E _ λu H2 R2 E2 s2 e2=>?_⟩
 ·cases es:σ[j]? with
  | none=>rw[es] at e;cases e
  | some o=>rw[es] at e;exact congrArg some e
 ·obtain⟨a',Ru,e',ha,hR,pp⟩:=E2.ent j _ hΓ1
  rw[e] at e';cases e'
  obtain⟨w,e3,e4⟩:=gD pp h
  exact⟨a,Ru,i,w,rfl,e2,aT.of ha,e3,q w H2 R2 E2 s2 e4⟩
section
variable {a:Expr}{n:Int}{j:Nat}{p1 pos:Pos}{w:Row}
variable {r:Rep α}{r':Rep β}
theorem jR {x:α}{y:β}(ha:EV X a Γ r x Γ1)(k:∀(R:Hp) v,r.R X.K R v x->∃p vs w,v= .ref p/\R p=some (.tup vs)/\bV vs n=some w/\r'.R X.K R w y):EV X (.Subscript a (.Constant (.int n) j p1) pos) Γ r' y Γ1:=by
 intro σ H0 R0 H R E Q q
 refine eS (gW yj aJ yd (λ_ _=>rfl)) (ha σ H0 R0 H R E _ λv H1 R1 E1 s1 e1=>?_)
 obtain⟨p,vs,w,rfl,hp,e3,e4⟩:=k R1 v e1
 exact⟨p,vs,n,w,rfl,rfl,de.of (E1.sub _ _ hp),e3,q w H1 R1 E1 s1 e4⟩
theorem uV (ha:EV X a Γ eo w Γ1):EV X (.Subscript a (.Constant (.int 0) j p1) pos) Γ af w.1 Γ1:=jR ha λR v ⟨p,e,h⟩=>⟨p,_,_,e,h,rfl,rfl⟩
theorem Cn (ha:EV X a Γ eo w Γ1):EV X (.Subscript a (.Constant (.int 1) j p1) pos) Γ af w.2.1 Γ1:=jR ha λR v ⟨p,e,h⟩=>⟨p,_,_,e,h,rfl,rfl⟩
theorem BO (ha:EV X a Γ eo w Γ1):EV X (.Subscript a (.Constant (.int 2) j p1) pos) Γ af w.2.2.1 Γ1:=jR ha λR v ⟨p,e,h⟩=>⟨p,_,_,e,h,rfl,rfl⟩
theorem um (ha:EV X a Γ eo w Γ1):EV X (.Subscript a (.Constant (.int 3) j p1) pos) Γ af w.2.2.2 Γ1:=jR ha λR v ⟨p,e,h⟩=>⟨p,_,_,e,h,rfl,rfl⟩
theorem r6 {x:α×β}(ha:EV X a Γ (dB r r') x Γ1):EV X (.Subscript a (.Constant (.int 0) j p1) pos) Γ r x.1 Γ1:=jR ha λR v ⟨p,v1,v2,e,h,h1,h2⟩=>⟨p,_,v1,e,h,rfl,h1⟩
theorem nJ {x:α×β}(ha:EV X a Γ (dB r r') x Γ1):EV X (.Subscript a (.Constant (.int 1) j p1) pos) Γ r' x.2 Γ1:=jR ha λR v ⟨p,v1,v2,e,h,h1,h2⟩=>⟨p,_,v2,e,h,rfl,h2⟩
end
variable {a:Expr}{pos:Pos}{r:Rep α}{xs:List α}
def OV (X:Cx)(e:Option Expr)(Γ:Ga)(o:Option Int):Prop:=∃t,PO X e t/\∀(σ:St) (H0 R0 H R:Hp),au X.K σ H0 R0 H R Γ->∀Q:Option Int->Hp->Prop,(∀H' R',au X.K σ H0 R0 H' R' Γ->ar R R'->Q o H')->t σ H Q
theorem ov_none:OV X none Γ none:=⟨_,Dy,λσ H0 R0 H R E Q q=>q H R E (ar.refl _)⟩
theorem ov_some {e:Expr}{i:Int}(h:EV X e Γ af i Γ):OV X (some e) Γ (some i):=⟨_,DF aJ,λσ H0 R0 H R E Q q=>h σ H0 R0 H R E _ λv H1 R1 E1 s1 e1=>⟨i,e1,q H1 R1 E1 s1⟩⟩
def cut (xs:List α)(lo hi:Option Int):List α:=(xs.drop (HT.Rc xs.length 0 lo)).take (HT.Rc xs.length xs.length hi - HT.Rc xs.length 0 lo)
theorem jv {F:α->β->Prop}:∀(n:Nat) {vs:List α} {xs:List β},PySem.Paired F vs xs->PySem.Paired F (vs.drop n) (xs.drop n)
 | 0,_,_,h=>h
 | _ + 1,_,_,.nil=>.nil
 | n + 1,_,_,.cons _ t=>jv n t
theorem gY {F:α->β->Prop}:∀(n:Nat) {vs:List α} {xs:List β},PySem.Paired F vs xs->PySem.Paired F (vs.take n) (xs.take n)
 | 0,_,_,_=>.nil
 | _ + 1,_,_,.nil=>.nil
 | n + 1,_,_,.cons h t=>.cons h (gY n t)
theorem cY {F:α->β->Prop}:∀{vs:List α} {xs:List β} {Ru:List α} {xs':List β},PySem.Paired F vs xs->PySem.Paired F Ru xs'->PySem.Paired F (vs++Ru) (xs++xs')
 | _,_,_,_,.nil,h=>h
 | _,_,_,_,.cons h t,h'=>.cons h (cY t h')
theorem kK (xs:List α)(lo hi:Option Int):(cut xs lo hi).length<=xs.length:=by
 unfold cut
 rw[L0,MI]
 omega
theorem fg {lo hi:Option Expr}{p2:Pos}{l h:Option Int}(ha:EV X a Γ (ae r) xs Γ)(hl:OV X lo Γ l)(hh:OV X hi Γ h):aW X (.Subscript a (.Slice lo hi none p2) pos) Γ r (cut xs l h) Γ:=by
 intro σ H0 R0 H R E Q q
 obtain⟨tl,pl,kl⟩:=hl
 obtain⟨th,ph,kh⟩:=hh
 refine eS (kz CZ aJ pl ph) (ha σ H0 R0 H R E _ λv H1 R1 E1 s1 e1=>kl σ H0 R0 H1 R1 E1 _ λH2 R2 E2 s2=>kh σ H0 R0 H2 R2 E2 _ λH3 R3 E3 s3=>?_)
 obtain⟨p,vs,rfl,hp,pp,z⟩:=(ae r).mono (s2.trans s3) e1
 refine⟨p,vs,rfl,aT.of (E3.sub _ _ hp),λd hd=>?_⟩
 refine q d _ _ R3 (E3.grow (Ext.dP E3.sub hd _)) (s1.trans (s2.trans s3)) aB (E3.sub.free hd) (E3.ext.h.free hd) (E3.off hd) ?_ (Nn (kK _ _ _) z)
 unfold cut jy
 rw[pp.length]
 exact gY _ (jv _ pp)
theorem bU {b:Expr}{ys:List α}(ha:EV X a Γ (ae r) xs Γ1)(hb:EV X b Γ1 (ae r) ys Γ2)(hz:xs.length + ys.length<=N7):aW X (.BinOp a .Add b pos) Γ r (xs++ys) Γ2:=by
 intro σ H0 R0 H R E Q q
 refine eS (AA Gz aJ aJ) (ha σ H0 R0 H R E _ λv H1 R1 E1 s1 e1=>hb σ H0 R0 H1 R1 E1 _ λu H2 R2 E2 s2 e2=>?_)
 obtain⟨p,vs,rfl,hp,pp,z⟩:=(ae r).mono s2 e1
 obtain⟨p',ws,rfl,Ul,RP,z'⟩:=e2
 refine⟨p,p',vs,ws,rfl,rfl,E2.sub _ _ hp,E2.sub _ _ Ul,by rw[pp.length,RP.length];exact hz,λd hd=>?_⟩
 exact q d _ _ R2 (E2.grow (Ext.dP E2.sub hd _)) (s1.trans s2) aB (E2.sub.free hd) (E2.ext.h.free hd) (E2.off hd) (cY pp RP) (by rw[LL];exact hz)
theorem cJ {p:Pos}(hm:X.mg "len"=none)(ha:EV X a Γ (ae r) xs Γ1)(hs:N8 [a] X.env=[(false,eval a X.env)]:=by rfl)(hg:Gl X "len":=by rfl):EV X (.Call (.Name "len" p) [a] [] pos) Γ af (xs.length:Int) Γ1:=by
 intro σ H0 R0 H R E Q q
 refine eS (dA gf hg hm OG (aV aJ bE hs) (by decide) (by decide) hs) (ha σ H0 R0 H R E _ λv H1 R1 E1 s1 e1=>?_)
 obtain⟨p,vs,rfl,hp,pp,z⟩:=e1
 refine⟨p,vs,rfl,.inl (aT.of (E1.sub _ _ hp)),?_⟩
 rw[pp.length]
 exact q _ H1 R1 E1 s1 rfl
theorem lW {p:Pos}{xs:Lh}(hm:X.mg "len"=none)(ha:EV X a Γ bu xs Γ1)(hs:N8 [a] X.env=[(false,eval a X.env)]:=by rfl)(hg:Gl X "len":=by rfl):EV X (.Call (.Name "len" p) [a] [] pos) Γ af (xs.length:Int) Γ1:=by
 intro σ H0 R0 H R E Q q
 refine eS (dA gf hg hm OG (aV aJ bE hs) (by decide) (by decide) hs) (ha σ H0 R0 H R E _ λv H1 R1 E1 s1 e1=>?_)
 obtain⟨p,rfl,hp,z⟩:=e1
 refine⟨p,_,rfl,.inl (E1.sub.seq hp),?_⟩
 rw[LJ]
 exact q _ H1 R1 E1 s1 rfl
end
section
variable {X:Cx}{Γ Γ1 Γ2 Γ3:Ga}{α β γ δ:Type}{N:Ga->Prop}{T:RT}
variable {pos:Pos}{r:Rep α}{x:Str}{p1:Pos}{e:Expr}
theorem GI {Γ':Ga}(w:Wk Γ Γ')(h:N Γ'):WS X [] Γ N T:=λσ H0 R0 H R E D dn dr=>Fy Cv (dn σ H R Γ' (E.weak w) (ar.refl _) h)
theorem aN (h:N Γ):WS X [] Γ N T:=GI (Wk.refl Γ) h
theorem aj {st:Stmt}{rest:List Stmt}(h:W1 X st Γ (λΓ'=>WS X rest Γ' N T) T):WS X (st::rest) Γ N T:=λσ H0 R0 H R E D dn dr=>
 Fy (Au Jz jd) (h σ H0 R0 H R E {D with nx:=qq X rest D} (λσ' H' R' Γ' E' s' h'=>h' σ' H0 R0 H' R' E' D (λσ2 H2 R2 Γ2 E2 s2=>dn σ2 H2 R2 Γ2 E2 (s'.trans s2)) dr) dr)
theorem ak {st:Stmt}(h:W1 X st Γ N T):WS X [st] Γ N T:=λσ H0 R0 H R E D dn dr=>Fy (Cg Jz) (h σ H0 R0 H R E D dn dr)
theorem aU (i:Nat){y:α}(he:EV X e Γ r y Γ1)(h:N (Γ1.set i (.im r y)))(hN:X.N.Nodup:=by first | assumption | decide)(hi:X.N[i]?=some x:=by rfl)(hx:autoParam (Loc X.env.scope x) SY)
 (hs:Of e (some (.Name x p1)) pos.line X.env=pure false:=by rfl) (hf:autoParam (X.fn x=true∨X.env.scope.names.lookup x=some .local) SX):W1 X (.Assign [.Name x p1] e pos) Γ N T:=λσ H0 R0 H R E D dn dr=>
 sS (jI hN hi hx aJ hs hf) (he σ H0 R0 H R E _ λv H1 R1 E1 s1 e1=>dn _ H1 R1 _ (E1.set i e1) s1 h)
theorem cz (i:Nat){ys:List α}(he:aW X e Γ r ys Γ1)(h:N (Γ1.set i (.mu r ys)))(hN:X.N.Nodup:=by first | assumption | decide)(hi:X.N[i]?=some x:=by rfl)(hx:autoParam (Loc X.env.scope x) SY)
 (hs:Of e (some (.Name x p1)) pos.line X.env=pure false:=by rfl) (hf:autoParam (X.fn x=true∨X.env.scope.names.lookup x=some .local) SX):W1 X (.Assign [.Name x p1] e pos) Γ N T:=λσ H0 R0 H R E D dn dr=>
 sS (jI hN hi hx aJ hs hf) (he σ H0 R0 H R E _ λa vs H1 R1 E1 s1 ha hR h0 off p z=>dn _ H1 R1 _ (E1.vV (u:=.lst vs) (en:=.mu r ys) i ⟨a,vs,rfl,ha,hR,p⟩ h0 λj e _ q w=>off j e q w) s1 h)
theorem aX {P:α->Prop}{y:α}(he:EV X e Γ r y Γ1)(h:P y):W1 X (.Return (some e) pos) Γ N (cg X.K r P):=λσ H0 R0 H R E D dn dr=>
 sS (ic aJ) (he σ H0 R0 H R E _ λv H1 R1 E1 s1 e1=>dr v H1 R1 E1.ext ⟨y,e1,h⟩)
theorem bq {c:Expr}{a b:List Stmt}{k:Bool}(hc:TV X c Γ k Γ1)(h1:k=true->WS X a Γ1 N T)(h2:k=false->WS X b Γ1 N T):W1 X (.If c a b pos) Γ N T:=λσ H0 R0 H R E D dn dr=>by
 refine sS (IQ oi jd jd) (hc σ H0 R0 H R E _ λH1 R1 E1 s1=>?_)
 cases k with
 | true=>exact ki (h1 rfl σ H0 R0 H1 R1 E1 D (λσ2 H2 R2 Γ2 E2 s2=>dn σ2 H2 R2 Γ2 E2 (s1.trans s2)) dr)
 | false=>exact kq (h2 rfl σ H0 R0 H1 R1 E1 D (λσ2 H2 R2 Γ2 E2 s2=>dn σ2 H2 R2 Γ2 E2 (s1.trans s2)) dr)
theorem aY (i:Nat)(hN:X.N.Nodup:=by first | assumption | decide)(hi:X.N[i]?=some x:=by rfl)(hx:autoParam (Loc X.env.scope x) SY)(hf:autoParam (X.fn x=true∨X.env.scope.names.lookup x=some .local) SX):
 BG X (.Name x pos) r (λy Γ=>Γ.set i (.im r y)):=λσ H0 R0 H R Γ v x E h Q q=>gS (jU hN hi hx hf) (q _ (E.set i h))
theorem ft (i j:Nat){y:Str}{k:Nat}{p2:Pos}{r':Rep β}(hc:X.calm=true:=by rfl)(hN:X.N.Nodup:=by first | assumption | decide)(hi:X.N[i]?=some x:=by rfl)(hx:autoParam (Loc X.env.scope x) SY)(hf:autoParam (X.fn x=true∨X.env.scope.names.lookup x=some .local) SX)
 (hj:X.N[j]?=some y:=by rfl) (hy:autoParam (Loc X.env.scope y) SY) (hf':autoParam (X.fn y=true∨X.env.scope.names.lookup y=some .local) SX):
 BG X (.Tuple [.Name x p1,.Name y p2] k pos) (dB r r') (λw Γ=>(Γ.set i (.im r w.1)).set j (.im r' w.2)):=λσ H0 R0 H R Γ v w E h Q q=>by
 obtain⟨a,v1,v2,rfl,ha,e1,e2⟩:=h
 exact gS (w8 hc (j8 (jU hN hi hx hf) (j8 (jU hN hj hy hf') uH))) ⟨a,_,rfl,de.of (E.sub _ _ ha),rfl,v1,[v2],rfl,v2,[],rfl,rfl,q _ ((E.set i e1).set j e2)⟩
theorem kJ {F:α->β->Prop}:∀{vs:List α} {xs:List β},PySem.Paired F vs xs->∀{i:Nat} {v:α},vs[i]?=some v->∃y,xs[i]?=some y/\F v y
 | _,_,.nil,i,y,h=>by simp at h
 | _,_,.cons h t,0,y,e=>by simp at e;subst e;exact⟨_,rfl,h⟩
 | _,_,.cons h t,i + 1,y,e=>by
   obtain⟨v,e1,e2⟩:=kJ t (i:=i) (v:=y) (by simpa using e)
   exact⟨v,by simpa using e1,e2⟩
end
section
variable {X:Cx}{Γ Γ1 Γ2 Γ3:Ga}{α β γ δ:Type}{N:Ga->Prop}{T:RT}
variable {pos:Pos}{x:Str}{p1:Pos}{r:Rep α}{xs:List α}{kvs:List (Int×V)}{e:Expr}{y:α}
theorem at_of {σ:St}{i:Nat}{v:V}(e:(σ[i]?).join=some v):σ[i]?=some (some v):=by
 cases es:σ[i]? with
 | none=>rw[es] at e;cases e
 | some o=>rw[es] at e;exact congrArg some e
theorem j2 {c:Expr}{body:List Stmt}(I:Nat->Ga->Prop){m0:Nat}(h0:I m0 Γ)
 (R7:∀(m:Nat) (Γ:Ga),I m Γ->∃(k:Bool) (Γ':Ga),TV X c Γ k Γ'/\(k=true->WS X body Γ' (λΓ''=>∃m',m' < m/\I m' Γ'') T)/\(k=false->N Γ'))
 (hp:PassesOwn (model X.prog X.w) X.A X.env X.xe:=by exact PassesOwn.never):W1 X (.While c body [] pos) Γ N T:=λσ H0 R0 H R E D dn dr=>by
 refine sS (zX hp oi jd) ?_
 refine⟨λm σ' H'=>∃R' Γ',au X.K σ' H0 R0 H' R' Γ'/\ar R R'/\I m Γ',⟨m0,R,Γ,E,ar.refl _,h0⟩,?_⟩
 rintro m σ' H' ⟨R',Γ',E',s',hI⟩
 obtain⟨k,Γ2,ht,h1,h2⟩:=R7 m Γ' hI
 refine ht σ' H0 R0 H' R' E' _ λH1 R1 E1 s1=>?_
 cases k with
 | true=>
   refine ki ⟨_,λσ2 H2 h=>h,h1 rfl σ' H0 R0 H1 R1 E1 _ (λσ3 H3 R3 Γ3 E3 s3 h3=>?_) dr⟩
   obtain⟨m',hm,hI'⟩:=h3
   exact⟨m',hm,R3,Γ3,E3,s'.trans (s1.trans s3),hI'⟩
 | false=>exact kq (dn σ' H1 R1 Γ2 E1 (s'.trans s1) (h2 rfl))
theorem eh (i:Nat){ap cp:Pos}(he:EV X e Γ r y Γ1)(hΓ:Γ[i]?=some (.mu r xs))(hΓ1:Γ1[i]?=some (.mu r xs))(hz:xs.length < N7)(h:N (Γ1.set i (.mu r (xs++[y]))))
 (hN:X.N[i]?=some x:=by rfl) (hv:autoParam (cG X.env.scope x) RE)
 (hd:Rh x:=by decide) (Q4:RG x:=by decide)
 (Sb:Of (.Call (.Attribute (.Name x p1) "append" ap) [e] [] cp) none pos.line X.env=pure false:=by rfl)
 (Ra:Oc (.Name x p1) "append" X.env (eval (.Name x p1) X.env)=eval (.Name x p1) X.env:=by rfl)
 (Rt:((Oe cp (N8 [e] X.env)).all (λx=> !x.1)&&(OJ cp (Ow [] X.env)).all (λx=>x.1.isSome)
  &&decide ([e].length + ([]:List Oi).length + (if([]:List Oi).isEmpty then 0 else 1) < 30))=true:=by rfl)
 (Q9:(ap.endLine==cp.line)=true:=by rfl) (hs:N8 [e] X.env=(false,eval e X.env)::N8 [] X.env:=by rfl):W1 X (.Expr (.Call (.Attribute (.Name x p1) "append" ap) [e] [] cp) pos) Γ N T:=λσ H0 R0 H R E D dn dr=>by
 obtain⟨a,vs,ea,ha,hR,pp⟩:=E.ent i _ hΓ
 refine sS (fZ (gZ PZ P1 P2 ju (bp hN hv hd Q4) (aV aJ bE hs) Ra Rt Q9 hs rfl) Sb) ?_
 refine⟨.ref a,at_of ea,.inl ⟨rfl,vs,aT.of ha⟩,he σ H0 R0 H R E _ λv H1 R1 E1 s1 e1=>?_⟩
 obtain⟨a',Ru,Ry,R8,RF,RP⟩:=E1.ent i _ hΓ1
 rw[ea] at Ry;cases Ry
 refine⟨a,Ru,v,rfl,rfl,R8,by rw[RP.length];exact hz,?_⟩
 exact dn σ _ R1 _ (E1.upd (en:=.mu r (xs++[y])) hΓ1 rfl ea RF ⟨a,_,rfl,aB,RF,cY RP (.cons e1 .nil)⟩) s1 h
theorem kD {F:α->β->Prop}{v:α}{y:β}(h:F v y):∀{vs:List α} {xs:List β} (i:Nat),PySem.Paired F vs xs->PySem.Paired F (vs.set i v) (xs.set i y)
 | _,_,_,.nil=>.nil
 | _,_,0,.cons _ t=>.cons h t
 | _,_,i + 1,.cons q t=>.cons q (kD h i t)
theorem va (i:Nat){b:Expr}{p2:Pos}{k:Int}{j:Nat}(he:EV X e Γ r y Γ1)(hb:EV X b Γ1 af k Γ2)(hΓ1:Γ1[i]?=some (.mu r xs))(hΓ2:Γ2[i]?=some (.mu r xs))(hj:eD xs.length k=some j)(h:N (Γ2.set i (.mu r (xs.set j y))))
 (hN:X.N[i]?=some x:=by rfl) (hv:autoParam (cG X.env.scope x) RE)
 (hd:Rh x:=by decide) (Q4:RG x:=by decide)
 (ha:∀v,OL (.Subscript (.Name x p1) b p2) X.env v=(do
  let ov ← OF [v] (eval (.Name x p1) X.env)
  let iv ← OF [v,ov] (eval b X.env)
  O4 p2
  OF [v,ov,iv] (setItem ov iv v)
  release [v,ov,iv] []):=by intro _;rfl)
 (hs:O7 [.Subscript (.Name x p1) b p2] e pos.line X.env=pure false:=by rfl) (hw:O8 [.Subscript (.Name x p1) b p2] e X.env=pure none:=by rfl) (h1:(OK [.Subscript (.Name x p1) b p2] X.env).map (·.2)=[OL (.Subscript (.Name x p1) b p2) X.env]:=by rfl):
 W1 X (.Assign [.Subscript (.Name x p1) b p2] e pos) Γ N T:=λσ H0 R0 H R E D dn dr=>by
 refine sS (tH aJ (yb (bp hN hv hd Q4) aJ set_list ha) hs hw h1) (he σ H0 R0 H R E _ λv H1 R1 E1 s1 e1=>?_)
 obtain⟨a,vs,ea,hp,hR,pp⟩:=E1.ent i _ hΓ1
 refine⟨.ref a,at_of ea,hb σ H0 R0 H1 R1 E1 _ λu H2 R2 E2 s2 e2=>?_⟩
 obtain⟨a',Ru,Ry,R8,RF,RP⟩:=E2.ent i _ hΓ2
 rw[ea] at Ry;cases Ry
 refine⟨a,Ru,k,j,rfl,e2,R8,by rw[RP.length];exact hj,?_⟩
 exact dn σ _ R2 _ (E2.upd (en:=.mu r (xs.set j y)) hΓ2 rfl ea RF ⟨a,_,rfl,aB,RF,kD (r.mono s2 e1) j RP⟩) (s1.trans s2) h
theorem nX {F:α->β->Prop}{vs:List α}{xs:List β}(p:PySem.Paired F vs xs):PySem.Paired F vs.dropLast xs.dropLast:=by
 rw[List.dropLast_eq_take,List.dropLast_eq_take,p.length]
 exact gY _ p
theorem qP (i:Nat){ap cp:Pos}(hΓ:Γ[i]?=some (.mu r xs))(hy:xs[xs.length - 1]?=some y)
 (hN:X.N[i]?=some x:=by rfl) (hv:autoParam (cG X.env.scope x) RE)
 (hd:Rh x:=by decide) (Q4:RG x:=by decide)
 (Ra:Oc (.Name x p1) "pop" X.env (eval (.Name x p1) X.env)=eval (.Name x p1) X.env:=by rfl) (Q9:(ap.endLine==cp.line)=true:=by rfl):
 EV X (.Call (.Attribute (.Name x p1) "pop" ap) [] [] cp) Γ r y (Γ.set i (.mu r xs.dropLast)):=by
 intro σ H0 R0 H R E Q q
 obtain⟨a,vs,ea,ha,hR,pp⟩:=E.ent i _ hΓ
 obtain⟨v,SR,hr⟩:=cX pp hy
 refine eS (Ep PZ PySem.F.slot_list_pop PySem.F.type_list_pop D5 (bp hN hv hd Q4) Ra Q9) ⟨.ref a,at_of ea,.inl ⟨rfl,vs,aT.of ha⟩,?_⟩
 refine⟨a,vs,v,rfl,rfl,ha,by rw[pp.length];exact SR,?_⟩
 exact q v _ R (E.upd hΓ rfl ea hR ⟨a,_,rfl,aB,hR,nX pp⟩) (ar.refl _) hr
theorem jK (i:Nat)(hΓ:Γ[i]?=some (.mu r xs))(hN:X.N[i]?=some x:=by rfl)(hv:autoParam (cG X.env.scope x) RE)
 (hd:Rh x:=by decide) (Q4:RG x:=by decide)
 (he:∀whole,OQ (.Name x pos) X.env whole=(do let v ← whole;O4 (Expr.Name x pos).pos;OF [v] (truthy v)):=by intro _;rfl):TV X (.Name x pos) Γ (!xs.isEmpty) Γ:=by
 intro σ H0 R0 H R E Q q
 obtain⟨a,vs,ea,ha,hR,pp⟩:=E.ent i _ hΓ
 refine tS (rK (bp hN hv hd Q4) he) ⟨.ref a,at_of ea, !xs.isEmpty,.inl ⟨vs,aT.of ha,?_⟩,q H R E (ar.refl _)⟩
 cases pp<;>rfl
theorem oE (i:Nat){p:Pos}(hm:X.mg "len"=none)(hΓ:Γ[i]?=some (.mu r xs))(hN:X.N[i]?=some x:=by rfl)(hv:autoParam (cG X.env.scope x) RE)
 (hd:Rh x:=by decide) (Q4:RG x:=by decide) (hg:Gl X "len":=by rfl):EV X (.Call (.Name "len" p) [.Name x p1] [] pos) Γ af (xs.length:Int) Γ:=by
 intro σ H0 R0 H R E Q q
 obtain⟨a,vs,ea,ha,hR,pp⟩:=E.ent i _ hΓ
 refine eS (dA gf hg hm OG (aV (bp hN hv hd Q4) bE rfl) (by decide) (by decide) rfl) ⟨.ref a,at_of ea,a,vs,rfl,.inl (aT.of ha),?_⟩
 rw[pp.length]
 exact q _ H R E (ar.refl _) rfl
theorem freeze {K:QA}{σ:St}{H0 R0 H R:Hp}(E:au K σ H0 R0 H R Γ){i:Nat}(hΓ:Γ[i]?=some (.mu r xs))(hz:xs.length<=N7):∃R' v,au K σ H0 R0 H R' (Γ.set i (.im (ae r) xs))/\ar R R'/\(σ[i]?).join=some v/\(ae r).R K R' v xs:=by
 obtain⟨a,vs,ea,ha,hR,pp⟩:=E.ent i _ hΓ
 have h0:H0 a=none:=E.new i _ a hΓ rfl ea
 have s2:ar R (upd R a (.lst vs)):=ar.fresh hR _
 have rr:(ae r).R K (upd R a (.lst vs)) (.ref a) xs:=⟨a,vs,rfl,aB,Paired.map (λ_ _=>r.mono s2) pp,hz⟩
 have E1:au K σ H0 R0 H R (Γ.set i .no):=E.tell hΓ trivial λb w=>by cases w
 have E2:=E1.qo ha hR h0 λj e q w=>by
  rcases set_at q with⟨rfl,rfl,_⟩ | ⟨hj,q1⟩
  ·cases w
  ·exact hj (E.ds j i e _ a q1 hΓ w ((Ent.nC (e:=.mu r xs) rfl).mpr ea))
 have hl:i < Γ.length:=(LC.mp hΓ).1
 have E3:=E2.tell (i:=i) (e0:=.no) (en:=.im (ae r) xs) (LZ hl) ⟨_,ea,rr⟩ λb w=>by cases w
 rw[Nc] at E3
 exact⟨_,.ref a,E3,s2,ea,rr⟩
theorem WS.freeze (i:Nat){S9:List Stmt}(hΓ:Γ[i]?=some (.mu r xs))(hz:xs.length<=N7)(h:WS X S9 (Γ.set i (.im (ae r) xs)) N T):WS X S9 Γ N T:=λσ H0 R0 H R E D dn dr=>by
 obtain⟨R',v,E',s',_,_⟩:=Fc.freeze E hΓ hz
 exact h σ H0 R0 H R' E' D (λσ2 H2 R2 Γ2 E2 s2=>dn σ2 H2 R2 Γ2 E2 (s'.trans s2)) dr
def gj:Rep (List (Int×V)):=⟨λK H v kvs=>∃a,v= .ref a/\H a=some (.dK (cf kvs)),λs ⟨a,e,q⟩=>⟨a,e,s _ _ q⟩⟩
def gJ (kvs:List (Int×V))(k:Int):Bool:=kvs.any λp=>decide (p.1=k)
theorem nV (kvs:List (Int×V))(k:Int):(cN (cf kvs) (Sum.inl k:Key)).isSome=gJ kvs k:=by
 rw[← fQ]
 unfold cf gJ
 rw[List.any_map]
 congr 1
 funext p
 show decide ((Sum.inl p.1:Key)=Sum.inl k)=decide (p.1=k)
 by_cases h:p.1=k
 ·rw[h];simp
 ·rw[decide_eq_false h,decide_eq_false λz=>h (Sum.inl.inj z)]
theorem CQ (i:Nat)(neg:Bool){k:Int}(hu:X.A.units + 1 < cLine)(he:EV X e Γ af k Γ)(hΓ:Γ[i]?=some (.di kvs))(hN:X.N[i]?=some x:=by rfl)(hv:autoParam (cG X.env.scope x) RE)
 (hd:Rh x:=by decide) (Q4:RG x:=by decide):
 TV X (.Compare e [if neg then .NotIn else .In] [.Name x p1] pos) Γ (if neg then !gJ kvs k else gJ kvs k) Γ:=by
 intro σ H0 R0 H R E Q q
 cases neg with
 | false=>
   refine tS (kS (Gb hu aJ (bp hN hv hd Q4)) (by with_unfolding_all rfl)) (he σ H0 R0 H R E _ λv H1 R1 E1 s1 e1=>?_)
   obtain⟨a,ea,ha,hR⟩:=E1.ent i _ hΓ
   cases e1
   refine⟨.ref a,at_of ea,a,_,rfl,gg.k (k:=Sum.inl k) ha,_,rfl,?_⟩
   rw[nV]
   exact q H1 R1 E1 s1
 | true=>
   refine tS (kS (lO hu aJ (bp hN hv hd Q4)) (by with_unfolding_all rfl)) (he σ H0 R0 H R E _ λv H1 R1 E1 s1 e1=>?_)
   obtain⟨a,ea,ha,hR⟩:=E1.ent i _ hΓ
   cases e1
   refine⟨.ref a,at_of ea,a,_,rfl,gg.k (k:=Sum.inl k) ha,_,rfl,?_⟩
   rw[nV]
   exact q H1 R1 E1 s1
theorem yz (i:Nat){ke ve:Expr}{p2:Pos}{k:Int}{v:V}(hu:X.A.units + 1 < cLine)(hk:EV X ke Γ af k Γ)(hv:PE X ve (tC v))(hΓ:Γ[i]?=some (.di kvs))(hn:gJ kvs k=false)(hz:kvs.length < N7)(h:N (Γ.set i (.di (kvs++[(k,v)]))))
 (hN:X.N[i]?=some x:=by rfl) (Vy:autoParam (cG X.env.scope x) RE)
 (hd:Rh x:=by decide) (Q4:RG x:=by decide)
 (hs:Of ve (some (.Subscript (.Name x p1) ke p2)) pos.line X.env=pure false:=by rfl):W1 X (.Assign [.Subscript (.Name x p1) ke p2] ve pos) Γ N T:=λσ H0 R0 H R E D dn dr=>by
 refine sS (oA hu (bp hN Vy hd Q4) aJ hv hs) ?_
 obtain⟨a,ea,ha,hR⟩:=E.ent i _ hΓ
 refine⟨.ref a,at_of ea,hk σ H0 R0 H R E _ λu H1 R1 E1 s1 e1=>?_⟩
 obtain⟨a',Ry,R8,RF⟩:=E1.ent i _ hΓ
 rw[ea] at Ry;cases Ry
 cases e1
 refine⟨a,_,rfl,mP.k (k:=Sum.inl k) R8 (by unfold cf;rw[LJ];exact hz),?_⟩
 have vn:cN (cf kvs) (Sum.inl k:Key)=none:=by
  have:=nV kvs k
  rw[hn] at this
  cases q:cN (cf kvs) (Sum.inl k:Key) with
  | none=>rfl
  | some z=>rw[q] at this;cases this
 rw[mO v vn]
 have e:cf kvs++[((Sum.inl k:Key),v)]=cf (kvs++[(k,v)]):=by unfold cf;rw[L5];rfl
 rw[e]
 exact dn σ _ R1 _ (E1.upd (en:=.di (kvs++[(k,v)])) hΓ rfl ea RF ⟨a,rfl,aB,RF⟩) s1 h
theorem Gd (i:Nat){P:List (Int×V)->Prop}(hΓ:Γ[i]?=some (.di kvs))(h:P kvs)(hN:X.N[i]?=some x:=by rfl)(hv:autoParam (cG X.env.scope x) RE)
 (hd:Rh x:=by decide) (Q4:RG x:=by decide):W1 X (.Return (some (.Name x p1)) pos) Γ N (cg X.K gj P):=λσ H0 R0 H R E D dn dr=>by
 obtain⟨a,ea,ha,hR⟩:=E.ent i _ hΓ
 have h0:H0 a=none:=E.new i _ a hΓ rfl ea
 refine sS (ic (bp hN hv hd Q4)) ⟨.ref a,at_of ea,dr _ H (upd R a (.dK (cf kvs))) ⟨E.ext.h,E.ext.r.trans (ar.fresh hR _),λb o qb=>?_,λb hb=>?_⟩ ⟨kvs,⟨a,rfl,aB⟩,h⟩⟩
 ·by_cases hb:b=a
  ·subst hb;rw[aB] at qb;cases qb;exact ha
  ·rw[aF hb] at qb;exact E.ext.s b o qb
 ·rw[aF (show b≠a from λe=>hb (by rw[e];exact h0))];exact E.ext.old b hb
theorem BL {a:Expr}{p:Pos}(hm:X.mg "len"=none)(ha:EV X a Γ gj kvs Γ1)(hs:N8 [a] X.env=[(false,eval a X.env)]:=by rfl)(hg:Gl X "len":=by rfl):EV X (.Call (.Name "len" p) [a] [] pos) Γ af (kvs.length:Int) Γ1:=by
 intro σ H0 R0 H R E Q q
 refine eS (dA pD hg hm OG (aV aJ bE hs) (by decide) (by decide) hs) (ha σ H0 R0 H R E _ λv H1 R1 E1 s1 e1=>?_)
 obtain⟨p,rfl,hp⟩:=e1
 refine⟨p,_,rfl,E1.sub _ _ hp,?_⟩
 unfold cf
 rw[LJ]
 exact q _ H1 R1 E1 s1 rfl
end
abbrev cQ:=QA->List Pk->RT->Prop
def aK (S:cQ)(K:QA):Sp:=λvs H Q _=>∃R ps T,ar R H/\je K R vs ps/\S K ps T/\∀v H' R',Ext H R H' R'->T H v H' R'->Q v H'
theorem je.length {K:QA}{R:Hp}:∀{vs:List V} {ps:List Pk},je K R vs ps->vs.length=ps.length
 | _,_,.nil=>rfl
 | _,_,.cons _ t=>by rw[LR,LR,je.length t]
structure aI (P:Ob) (w:World) (K:QA) (mg:Lf) (base:Heap) (x:Str) (k:Nat) (sp:Sp):Prop where
 ex:∃f fd ps,dz P w K mg base ee k f fd ps sp/\mg x=some (.ref f)/\QG K (.ref f)=true/\Binds K fd ps []
theorem aI.mono {P:Ob}{w:World}{K:QA}{mg:Lf}{base:Heap}{x:Str}{j k:Nat}{sp:Sp}(c:aI P w K mg base x j sp)(h:j<=k):aI P w K mg base x k sp:=by
 obtain⟨f,fd,ps,F,a,b,c⟩:=c.ex
 exact⟨f,fd,ps,F.mono h,a,b,c⟩
section
variable {X:Cx}{Γ Γ1 Γ2 Γ3:Ga}{α β γ δ:Type}{N:Ga->Prop}{T:RT}
variable {S:cQ}{x:Str}{e:Expr}{es:Lm}{pos:Pos}{ps:List Pk}
theorem kg {k:Nat}{p:Pos}{Q:VK}{σ:St}{H0 R0 H R:Hp}(C:aI X.prog X.w X.K X.mg X.base x k (aK S X.K))(hr:bI k X.A)(ha:HA X (e::es) Γ ps Γ1)(hS:S X.K ps T)(E:au X.K σ H0 R0 H R Γ)
 (q:∀H1 R1 v H' R',au X.K σ H0 R0 H1 R1 Γ1->ar R R1->Ext H1 R1 H' R'->T H1 v H' R'->Q v H')
 (hg:Gl X x) (RN:(x==("__debug__":Str))=false) (he:N8 (e::es) X.env=(false,eval e X.env)::N8 es X.env) (Rj:(Oe pos (N8 es X.env)).any (·.1)=false):eQ X (.Call (.Name x p) (e::es) [] pos) σ H Q:=by
 obtain⟨f,fd,pn,F,hm,hk,hb⟩:=C.ex
 refine eS (oF F hr hg hm hk hb .nil qg jS RN he Rj) (ha σ H0 R0 H R E _ λvs H1 R1 E1 s1 p1=>?_)
 refine⟨R1,ps,T,E1.sub,by rw[Mh];exact p1,hS,λv H' R' x t=>q H1 R1 v H' R' E1 s1 x t⟩
theorem aE {k:Nat}{p:Pos}{r:Rep α}{y:α}(C:aI X.prog X.w X.K X.mg X.base x k (aK S X.K))(hr:bI k X.A)(ha:HA X (e::es) Γ ps Γ1)(hS:S X.K ps (cg X.K r (· =y)))
 (hg:Gl X x:=by rfl) (RN:Rh x:=by decide) (he:N8 (e::es) X.env=(false,eval e X.env)::N8 es X.env:=by rfl) (Rj:(Oe pos (N8 es X.env)).any (·.1)=false:=by rfl):EV X (.Call (.Name x p) (e::es) [] pos) Γ r y Γ1:=λσ H0 R0 H R E Q q=>
 kg C hr ha hS E (λH1 R1 v H' R' E1 s1 xx t=>by
  obtain⟨z,e1,rfl⟩:=t
  exact q v H' R' (E1.grow xx) (s1.trans xx.r) e1) hg RN he Rj
theorem sW {k:Nat}{p:Pos}{r:Rep α}{ys:List α}(C:aI X.prog X.w X.K X.mg X.base x k (aK S X.K))(hr:bI k X.A)(ha:HA X (e::es) Γ ps Γ1)(hS:S X.K ps (pA X.K r (· =ys)))
 (hg:Gl X x:=by rfl) (RN:Rh x:=by decide) (he:N8 (e::es) X.env=(false,eval e X.env)::N8 es X.env:=by rfl) (Rj:(Oe pos (N8 es X.env)).any (·.1)=false:=by rfl):aW X (.Call (.Name x p) (e::es) [] pos) Γ r ys Γ1:=λσ H0 R0 H R E Q q=>
 kg C hr ha hS E (λH1 R1 v H' R' E1 s1 xx t=>by
  obtain⟨a,vs,zs,rfl,h0,h1,h2,p,z,rfl⟩:=t
  exact q a vs H' R' (E1.grow xx) (s1.trans xx.r) h1 h2 (E1.ext.h.free h0) (E1.off h0) p z) hg RN he Rj
end
def eY (ps:List Pk)(n:Nat):Ga:=ps.map (λp=>Ent.im p.r p.x)++ME (n - ps.length) .no
theorem g8 {K:QA}{R H:Hp}{vs:List V}{ps:List Pk}{N:Li}(s:ar R H)(p:je K R vs ps)(hl:ps.length<=N.length):au K (L2.start N vs) H R H R (eY ps N.length):=by
 have Rl:∀(i:Nat) (e:Ent) (o:Option V),(eY ps N.length)[i]?=some e->e.fp o=[]:=λi e o q=>by
  unfold eY at q
  rcases LW.mp (LO q) with z | z
  ·obtain⟨p,_,rfl⟩:=LY.mp z;rfl
  ·obtain⟨_,rfl⟩:=M9.mp z;rfl
 refine⟨Ext.refl s,λi e q=>?_,λi e a q w=>absurd w (by rw[Rl i e _ q];exact Md),λi j e e' a q _ w=>absurd w (by rw[Rl i e _ q];exact Md),?_⟩
 ·have hp:=p.length
  unfold eY at q
  unfold L2.start
  by_cases hi:i < ps.length
  ·rw[L4 (by simpa using hi),LM] at q
   rw[L4 (by simpa[hp] using hi),LM]
   have key:∀{vs:List V} {ps:List Pk},je K R vs ps->∀(i:Nat) (p:Pk),ps[i]?=some p->∃v,vs[i]?=some v/\p.r.R K R v p.x:=by
    intro vs ps h
    induction h with
    | nil=>intro i p e;simp at e
    | cons a b ih=>
      intro i p e
      cases i with
      | zero=>simp at e;subst e;exact⟨_,rfl,a⟩
      | succ i=>simpa using ih i p (by simpa using e)
   cases e1:ps[i]? with
   | none=>rw[e1] at q;cases q
   | some p1=>
     rw[e1] at q
     cases q
     obtain⟨v,h1,h2⟩:=key p i p1 e1
     rw[h1]
     exact⟨v,rfl,h2⟩
  ·rw[L8 (by simpa using hi),My] at q
   split at q
   ·cases q;trivial
   ·cases q
 ·unfold eY L2.start
  rw[LL,LL,LJ,LJ,Mp,Mp,p.length]
section
variable {P:Ob}{w:World}{K:QA}{mg:Lf}{base:Heap}
theorem bw {S:cQ}{x qual:Str}{st:Stmt}{f:Addr}{fd:Og}{N ps:Li}{k:Nat}(F:bD K x qual st f fd)(Sc:aH N ps (ai st))(hm:mg x=some (.ref f))(hb:Binds K fd ps [])(len:∀qs T,S K qs T->qs.length=ps.length)
 (Ro:∀(Q2:Value) (A:Od) (outer:List Env) (s:N5) (H:Hp) (E:XK) (qs:List Pk) (T:RT),bI k (A.deeper (NY qual (ai st) s.heap.objs.size f Q2))->S K qs T->
  WS (fA ee P w K mg base N qual (ai st) f Q2 A outer s H E).js (bS st) (eY qs N.length) (λ_=>False) T):aI P w K mg base x (k + 1) (aK S K):=by
 refine⟨f,fd,ps,?_,hm,F.kp,hb⟩
 refine F.ok Sc (λvs H Q E h=>?_) (λQ2 A outer s H vs Q E hr h=>?_)
 ·obtain⟨R,qs,T,_,p,hS,_⟩:=h
  rw[p.length];exact len qs T hS
 ·obtain⟨R,qs,T,sR,p,hS,q⟩:=h
  have hl:qs.length<=N.length:=by
   rw[len qs T hS]
   have:=congrArg List.length Sc.pre
   rw[L0] at this
   omega
  exact⟨_,jd,Ro Q2 A outer s H E qs T hr hS (L2.start N vs) H R H R (g8 sR p hl) {nx:=λ_ H'=>Q .Rf H',rt:=Q} (λ_ _ _ _ _ _ f=>f.elim) λv H' R' xx t=>q v H' R' xx t⟩
end
section
variable {X:Cx}{Γ Γ1 Γ2 Γ3:Ga}{α β γ δ:Type}{N:Ga->Prop}{T:RT}
variable {a:Expr}{pos:Pos}
theorem qK {bs:List Bool}{us:Ll}(r:Vals (bs.map V.bl) us){j:Nat}{v:Value}(h:us.toArray[j]?=some v):v= .bool (bs.getD j true):=by
 induction bs generalizing us j with
 | nil=>cases r;simp at h
 | cons b r' ih=>
   cases r with
   | cons h1 t=>
     cases j with
     | zero=>simp at h;rw[← h];exact h1
     | succ j=>exact ih t (by simpa using h)
theorem all_range (bs:List Bool):((L6 bs.length).all λj=>bs.getD j true)=bs.all id:=by
 rw[Lr,MJ,MJ]
 constructor
 ·intro h b hb
  obtain⟨j,hj,rfl⟩:=MV.mp hb
  have:=h j (Ms.mpr hj)
  simpa[LG,LD hj] using this
 ·intro h j hj
  have hj:=Ms.mp hj
  simpa[LG,LD hj] using h _ (Mb hj)
theorem any_range (bs:List Bool):((L6 bs.length).any λj=>bs.getD j true)=bs.any id:=by
 rw[Lr,Nh,Nh]
 constructor
 ·rintro⟨j,hj,h⟩
  have hj:=Ms.mp hj
  exact⟨_,Mb hj,by simpa[LG,LD hj] using h⟩
 ·rintro⟨b,hb,h⟩
  obtain⟨j,hj,rfl⟩:=MV.mp hb
  exact⟨j,Ms.mpr hj,by simpa[LG,LD hj] using h⟩
theorem z7 (hc:X.calm=true):dR X (.builtin "all") (λxs H Q=>∃(p:Addr) (bs:List Bool),xs=[.ref p]/\aT X.K H p (bs.map V.bl)/\Q (.bl (bs.all id)) H):=by
 intro QW s σ H xs us Q I r h
 obtain⟨p,bs,rfl,hq,q⟩:=h
 obtain⟨u,rfl,rx⟩:=vals1 r
 cases rx
 obtain⟨QX,r',pl,hz⟩:=I.list hq
 have Q7:p≠s.heap.objs.size:=λe=>by obtain⟨o,ho,_⟩:=pl.isList;exact absurd (Qa ho) (by rw[e];exact Nu _)
 refine call_all_walk (OU pl.isList ?_)
 refine⟨s.heap.objs.size,_,[s.heap.objs.size],QX.toArray.size,_,_,λj=>bs.getD j true,rfl,Walks.list (A:=X.A.in1) (show X.A.in1.handled=none from I.ok.hd hc) s.heap.objs.size p Q7 QX.toArray,?_,λj v s Q E hv hQ=>?_,λh' tk hk=>?_⟩
 ·refine⟨⟨_,Qb _ rfl,rfl,rfl⟩,?_⟩
  obtain⟨o,ho,c,n,d⟩:=pl.isList
  exact⟨o,P9 _ ho,c,n,d⟩
 ·rw[qK r' hv];exact Oh hQ
 ·have e:QX.toArray.size=bs.length:=by rw[LQ,← r'.length,LJ]
  rw[e,all_range]
  exact⟨.bl _,H,I.kept λb o e=>hk b o (λz=>absurd (Qa e) (by rw[LH.mp z];exact Nu _)) (P9 _ e),rfl,q⟩
theorem zO (hc:X.calm=true):dR X (.builtin "any") (λxs H Q=>∃(p:Addr) (bs:List Bool),xs=[.ref p]/\aT X.K H p (bs.map V.bl)/\Q (.bl (bs.any id)) H):=by
 intro QW s σ H xs us Q I r h
 obtain⟨p,bs,rfl,hq,q⟩:=h
 obtain⟨u,rfl,rx⟩:=vals1 r
 cases rx
 obtain⟨QX,r',pl,hz⟩:=I.list hq
 have Q7:p≠s.heap.objs.size:=λe=>by obtain⟨o,ho,_⟩:=pl.isList;exact absurd (Qa ho) (by rw[e];exact Nu _)
 refine call_any_walk (OU pl.isList ?_)
 refine⟨s.heap.objs.size,_,[s.heap.objs.size],QX.toArray.size,_,_,λj=>bs.getD j true,rfl,Walks.list (A:=X.A.in1) (show X.A.in1.handled=none from I.ok.hd hc) s.heap.objs.size p Q7 QX.toArray,?_,λj v s Q E hv hQ=>?_,λh' tk hk=>?_⟩
 ·refine⟨⟨_,Qb _ rfl,rfl,rfl⟩,?_⟩
  obtain⟨o,ho,c,n,d⟩:=pl.isList
  exact⟨o,P9 _ ho,c,n,d⟩
 ·rw[qK r' hv];exact Oh hQ
 ·have e:QX.toArray.size=bs.length:=by rw[LQ,← r'.length,LJ]
  rw[e,any_range]
  exact⟨.bl _,H,I.kept λb o e=>hk b o (λz=>absurd (Qa e) (by rw[LH.mp z];exact Nu _)) (P9 _ e),rfl,q⟩
theorem mX {K:QA}{R:Hp}:∀{vs:List V} {xs:List Bool},PySem.Paired (bZ.R K R) vs xs->vs=xs.map V.bl
 | _,_,.nil=>rfl
 | _,_,.cons h t=>by rw[Me,← mX t];exact congrArg (· ::_) h
theorem Bj {x:Str}{id:String}{r:List V->Hp->VK->Prop}{p:Pos}{ra:Rep α}{rb:Rep β}{y:α}{z:β}(hc:dR X (.builtin id) r)(hm:X.mg x=none)(hv:OB x=some (.builtin id))(ha:EV X a Γ ra y Γ1)
 (h:∀(R H:Hp) v Q,ar R H->ra.R X.K R v y->(∀w,rb.R X.K R w z->Q w H)->r [v] H Q) (hs:N8 [a] X.env=[(false,eval a X.env)]:=by rfl) (hg:Gl X x:=by rfl) (hn:x≠"__name__":=by decide) (RN:Rh x:=by decide):
 EV X (.Call (.Name x p) [a] [] pos) Γ rb z Γ1:=by
 intro σ H0 R0 H R E Q q
 exact eS (dA hc hg hm hv (aV aJ bE hs) hn RN hs) (ha σ H0 R0 H R E _ λv H1 R1 E1 s1 e1=>h R1 H1 v _ E1.sub e1 λw hw=>q w H1 R1 E1 s1 hw)
theorem sk {p:Pos}{bs:List Bool}(hm:X.mg "all"=none)(ha:EV X a Γ (ae bZ) bs Γ1)(hs:N8 [a] X.env=[(false,eval a X.env)]:=by rfl)(hc:X.calm=true:=by rfl)(hg:Gl X "all":=by rfl):EV X (.Call (.Name "all" p) [a] [] pos) Γ bZ (bs.all id) Γ1:=
 Bj (z7 hc) hm boot_all ha (λR H v Q s ⟨p,vs,e,hp,pp,_⟩ q=>⟨p,bs,by rw[e],by rw[← mX pp];exact aT.of (s _ _ hp),q _ rfl⟩) hs hg
theorem D2 {p:Pos}{bs:List Bool}(hm:X.mg "any"=none)(ha:EV X a Γ (ae bZ) bs Γ1)(hs:N8 [a] X.env=[(false,eval a X.env)]:=by rfl)(hc:X.calm=true:=by rfl)(hg:Gl X "any":=by rfl):EV X (.Call (.Name "any" p) [a] [] pos) Γ bZ (bs.any id) Γ1:=
 Bj (zO hc) hm boot_any ha (λR H v Q s ⟨p,vs,e,hp,pp,_⟩ q=>⟨p,bs,by rw[e],by rw[← mX pp];exact aT.of (s _ _ hp),q _ rfl⟩) hs hg
theorem uo {p:Pos}{b:Bool}(hm:X.mg "int"=none)(ha:EV X a Γ bZ b Γ1)(hs:N8 [a] X.env=[(false,eval a X.env)]:=by rfl)(hg:Gl X "int":=by rfl):EV X (.Call (.Name "int" p) [a] [] pos) Γ af (if b then 1 else 0) Γ1:=by
 intro σ H0 R0 H R E Q q
 exact eS (f6 yI hg hm PyProof.Rows.boot_int (aV aJ bE hs) (by decide) (by decide) hs) (ha σ H0 R0 H R E _ λv H1 R1 E1 s1 e1=>.inr ⟨b,by rw[show v=V.bl b from e1],q _ H1 R1 E1 s1 rfl⟩)
theorem qT {p:Pos}{r:Rep α}{xs:List α}(hm:X.mg "list"=none)(ha:EV X a Γ (ae r) xs Γ1)(hs:N8 [a] X.env=[(false,eval a X.env)]:=by rfl)(hg:Gl X "list":=by rfl):aW X (.Call (.Name "list" p) [a] [] pos) Γ r xs Γ1:=by
 intro σ H0 R0 H R E Q q
 refine eS (f6 sZ hg hm NZ (aV aJ bE hs) (by decide) (by decide) hs) (ha σ H0 R0 H R E _ λv H1 R1 E1 s1 e1=>?_)
 obtain⟨p,vs,rfl,hp,pp,z⟩:=e1
 exact⟨p,vs,rfl,.inl (aT.of (E1.sub _ _ hp)),λl hl=>q l vs _ R1 (E1.grow (Ext.dP E1.sub hl _)) s1 aB (E1.sub.free hl) (E1.ext.h.free hl) (E1.off hl) pp z⟩
theorem uS {b:Expr}{p:Pos}{x y:Int}(hm:X.mg "min"=none)(ha:HA X [a,b] Γ [⟨af,x⟩,⟨af,y⟩] Γ1)(hs:N8 [a,b] X.env=(false,eval a X.env)::N8 [b] X.env:=by rfl)(hc:X.calm=true:=by rfl)(hg:Gl X "min":=by rfl)(Rj:(Oe pos (N8 [b] X.env)).any (·.1)=false:=by rfl):EV X (.Call (.Name "min" p) [a,b] [] pos) Γ af (if y < x then y else x) Γ1:=by
 intro σ H0 R0 H R E Q q
 refine eS (dA (xy hc) hg hm PyProof.Rows.boot_min jS (by decide) (by decide) hs Rj) (ha σ H0 R0 H R E _ λvs H1 R1 E1 s1 p1=>?_)
 cases p1 with
 | cons a1 t=>cases t with
   | cons a2 t2=>cases t2;cases a1;cases a2;exact⟨x,y,rfl,q _ H1 R1 E1 s1 rfl⟩
theorem Dc {b:Expr}{p:Pos}{x y:Int}(hm:X.mg "max"=none)(ha:HA X [a,b] Γ [⟨af,x⟩,⟨af,y⟩] Γ1)(hs:N8 [a,b] X.env=(false,eval a X.env)::N8 [b] X.env:=by rfl)(hc:X.calm=true:=by rfl)(hg:Gl X "max":=by rfl)(Rj:(Oe pos (N8 [b] X.env)).any (·.1)=false:=by rfl):EV X (.Call (.Name "max" p) [a,b] [] pos) Γ af (if y > x then y else x) Γ1:=by
 intro σ H0 R0 H R E Q q
 refine eS (dA (yU hc) hg hm PyProof.Rows.boot_max jS (by decide) (by decide) hs Rj) (ha σ H0 R0 H R E _ λvs H1 R1 E1 s1 p1=>?_)
 cases p1 with
 | cons a1 t=>cases t with
   | cons a2 t2=>cases t2;cases a1;cases a2;exact⟨x,y,rfl,q _ H1 R1 E1 s1 rfl⟩
end
def Src (K:QA)(J:It)(R1:Hp){α:Type}(r:Rep α)(xs:List α):Prop:=
 ∀(H' R':Hp),ar R1 R'->ar R' H'->∀i:Nat,(∀x,xs[i]?=some x->J.go i H'/\∀v H2,J.U5 i H' v H2->∃R2,Ext H' R' H2 R2/\r.R K R2 v x)/\(xs.length<=i->J.stop i H')
section
variable {X:Cx}{Γ Γ1 Γ2 Γ3:Ga}{α β γ δ:Type}{N:Ga->Prop}{T:RT}
variable {tg:Expr}{xs:List α}{iter:Expr}{bf:α->Ga->Ga}{pos:Pos}{elt:Expr}{ifs:Lm}{scope:Scope}{fr:Li}{ix:List Nat}{ra:Rep α}{rb:Rep β}{f:α->β}
def IV (X:Cx)(tg iter:Expr)(Γ:Ga){α:Type}(r:Rep α)(xs:List α)(Γ1:Ga):Prop:=
 ∃wi,PI X tg iter wi/\∀(σ:St) (H0 R0 H R:Hp),au X.K σ H0 R0 H R Γ->∀Rq:It->Hp->Prop,(∀J H1 R1,au X.K σ H0 R0 H1 R1 Γ1->ar R R1->xs.length<=N7->Src X.K J R1 r xs->Rq J H1)->wi σ H Rq
theorem bR {r:Rep α}(h:EV X iter Γ (ae r) xs Γ1):IV X tg iter Γ r xs Γ1:=by
 refine⟨_,Dk aJ,λσ H0 R0 H R E Rq q=>h σ H0 R0 H R E _ λv H1 R1 E1 s1 e1=>?_⟩
 obtain⟨a,vs,rfl,ha,pp,z⟩:=e1
 refine⟨a,rfl,⟨vs,aT.of (E1.sub _ _ ha)⟩,q _ H1 R1 E1 s1 z λH' R' sR sH i=>⟨λx hx=>?_,λhi=>?_⟩⟩
 ·have hq:aT X.K H' a vs:=aT.of (sH _ _ (sR _ _ ha))
  obtain⟨v,hv,hr⟩:=cX pp hx
  refine⟨⟨vs,v,hq,hv⟩,λv' H2 hy=>?_⟩
  obtain⟨rfl,hy⟩:=hy
  have:=hy vs hq
  rw[hv] at this
  cases this
  exact⟨R',Ext.refl sH,r.mono sR hr⟩
 ·exact⟨vs,aT.of (sH _ _ (sR _ _ ha)),by rw[pp.length];exact hi⟩
def ups (lo:Int)(n:Nat):Lh:=(L6 n).map λ(k:Nat)=>lo + (k:Int)
theorem a8 (lo:Int)(n:Nat):(ups lo n).length=n:=by unfold ups;rw[LJ,MN]
theorem dY {lo:Int}{n i:Nat}{x:Int}(h:(ups lo n)[i]?=some x):i < n/\x=lo + (i:Int):=by
 have hi:i < n:=by have:=(LC.mp h).1;rwa [a8] at this
 refine⟨hi,?_⟩
 unfold ups at h
 rw[LM,Mq hi] at h
 exact(Option.some.inj h).symm
theorem vc {K:QA}{R1:Hp}(lo:Int)(n:Nat):Src K (yE lo n) R1 af (ups lo n):=λH' R' sR sH i=>⟨λx hx=>by
 obtain⟨h1,rfl⟩:=dY hx
 refine⟨h1,λv H2 hy=>?_⟩
 obtain⟨rfl,rfl⟩:=hy
 exact⟨R',Ext.refl sH,rfl⟩,λhi=>by rw[a8] at hi;exact hi⟩
theorem cV {a:Expr}{p1 p2:Pos}{n:Int}(hm:X.mg "range"=none)(ha:EV X a Γ af n Γ1)(hn: -(2 ^ 62)<=n/\n<=1000000)(Uj:N8 [a] X.env=[(false,eval a X.env)]:=by rfl)(hg:Gl X "range":=by rfl):IV X tg (.Call (.Name "range" p1) [a] [] p2) Γ af (ups 0 n.toNat) Γ1:=by
 refine⟨_,xN hg hm (aV aJ bE Uj) Uj,λσ H0 R0 H R E Rq q=>ha σ H0 R0 H R E _ λv H1 R1 E1 s1 e1=>?_⟩
 exact⟨n,by rw[show v=V.int n from e1],hn.1,by omega,q _ H1 R1 E1 s1 (by rw[a8];exact Nn (show n.toNat<=1000000 by omega) (by decide)) (vc 0 n.toNat)⟩
theorem wF {a b:Expr}{p1 p2:Pos}{m n:Int}(hm:X.mg "range"=none)(ha:EV X a Γ af m Γ1)(hb:EV X b Γ1 af n Γ2)(hn: -1000000<=m/\m<=1000000/\ -1000000<=n/\n<=1000000)
 (Uj:N8 [a,b] X.env=[(false,eval a X.env),(false,eval b X.env)]:=by rfl) (RA:N8 [b] X.env=[(false,eval b X.env)]:=by rfl) (hg:Gl X "range":=by rfl):IV X tg (.Call (.Name "range" p1) [a,b] [] p2) Γ af (ups m (n - m).toNat) Γ2:=by
 refine⟨_,xF hg hm (aV aJ (aV aJ bE RA) (by rw[Uj,RA])) Uj RA,λσ H0 R0 H R E Rq q=>ha σ H0 R0 H R E _ λv H1 R1 E1 s1 e1=>hb σ H0 R0 H1 R1 E1 _ λu H2 R2 E2 s2 e2=>?_⟩
 exact⟨m,n,by rw[show v=V.int m from e1,show u=V.int n from e2],⟨by omega,by omega,by omega,by omega⟩,q _ H2 R2 E2 (s1.trans s2) (by rw[a8];exact Nn (show(n - m).toNat<=2000000 by omega) (by decide)) (vc m (n - m).toNat)⟩
theorem cC {body:List Stmt}{r:Rep α}(I:Nat->Ga->Prop)(hit:IV X tg iter Γ r xs Γ1)(hb:BG X tg r bf)(h0:I 0 Γ1)
 (R7:∀(i:Nat) (x:α) (Γ:Ga),xs[i]?=some x->I i Γ->WS X body (bf x Γ) (I (i + 1)) T) (Sn:∀Γ:Ga,I xs.length Γ->N Γ)
 (hc:X.calm=true:=by rfl) (hp:PassesOwn (model X.prog X.w) X.A X.env X.xe:=by exact PassesOwn.never) (hs:∀x,Ov iter X.env x=pure x:=by intro _;rfl):W1 X (.For tg iter body [] pos) Γ N T:=λσ H0 R0 H R E D dn dr=>by
 obtain⟨wi,hi,hit⟩:=hit
 refine sS (FY hp hc hi pgS jd hs) (hit σ H0 R0 H R E _ λJ H1 R1 E1 s1 hz src=>?_)
 refine⟨λi m σ' H'=>m=xs.length - i/\i<=xs.length/\∃R' Γ',au X.K σ' H0 R0 H' R' Γ'/\ar R1 R'/\I i Γ',⟨_,rfl,Np _,R1,Γ1,E1,ar.refl _,h0⟩,?_⟩
 rintro i m σ' H' ⟨rfl,hle,R',Γ',E',s',hI⟩
 obtain⟨Vk,Sv⟩:=src H' R' s' E'.sub i
 by_cases RZ:i < xs.length
 ·obtain⟨go,yl⟩:=Vk _ (LD RZ)
  refine .inr ⟨go,λσ' H'=>i + 1<=xs.length/\∃R' Γ',au X.K σ' H0 R0 H' R' Γ'/\ar R1 R'/\I (i + 1) Γ',λσ2 H2 h=>⟨xs.length - (i + 1),by omega,rfl,h.1,h.2⟩,λv H2 hy=>?_⟩
  obtain⟨R2,x2,hr⟩:=yl v H2 hy
  refine hb σ' H0 R0 H2 R2 Γ' v _ (E'.grow x2) hr _ λσ2 E2=>?_
  exact R7 i _ Γ' (LD RZ) hI σ2 H0 R0 H2 R2 E2 _ (λσ3 H3 R3 Γ3 E3 s3 h3=>⟨RZ,R3,Γ3,E3,s'.trans (x2.r.trans s3),h3⟩) dr
 ·have e:i=xs.length:=by omega
  subst e
  exact .inl ⟨Sv (Nm _),dn σ' H' R' Γ' E' (s1.trans s') (Sn Γ' hI)⟩
def vS:Option Ent->Ent
 | some (.im r x)=>.im r x
 | _=>.no
def dc (own:Li)(ix:List Nat)(Γ:Ga):Ga:=ME own.length .no++ix.map λi=>vS Γ[i]?
theorem qV {K:QA}{σ:St}{H0 R0 H R:Hp}(E:au K σ H0 R0 H R Γ)(own:Li)(ix:List Nat):au K (fO own ix σ) H R H R (dc own ix Γ):=by
 have Rl:∀(i:Nat) (e:Ent) (o:Option V),(dc own ix Γ)[i]?=some e->e.fp o=[]:=λi e o q=>by
  unfold dc at q
  rcases LW.mp (LO q) with z | z
  ·obtain⟨_,rfl⟩:=M9.mp z;rfl
  ·obtain⟨k,_,rfl⟩:=LY.mp z
   unfold vS
   split<;>rfl
 refine⟨Ext.refl E.sub,λi e q=>?_,λi e a q w=>absurd w (by rw[Rl i e _ q];exact Md),λi j e e' a q _ w=>absurd w (by rw[Rl i e _ q];exact Md),by unfold dc fO;simp⟩
 unfold dc at q
 unfold fO
 by_cases hi:i < own.length
 ·rw[L4 (by simpa using hi),My] at q
  rw[if_pos hi] at q
  cases q;trivial
 ·rw[L8 (by simpa using hi),Mp,LM] at q
  rw[L8 (by simpa using hi),Mp,LM]
  cases ek:ix[i - own.length]? with
  | none=>rw[ek] at q;cases q
  | some k=>
    rw[ek] at q
    have q':vS Γ[k]?=e:=Option.some.inj q
    subst q'
    show(vS Γ[k]?).ok K H R (σ[k]?).join
    cases eg:Γ[k]? with
    | none=>trivial
    | some e=>
      cases e with
      | im r x=>exact E.ent k _ eg
      | no=>trivial
      | mu r x=>trivial
      | di x=>trivial
      | ob x=>trivial
theorem pB {cl:List (Str×Addr)}{own:Li}{p:α->Bool}{J:It}{σ:St}{H0 R0 H1 R1:Hp}{Q:VK}(E1:au X.K σ H0 R0 H1 R1 Γ1)(src:Src X.K J R1 ra xs)(hz:xs.length<=N7)
 (hb:∀(C:Addr) (s:N5) (H:Hp) (ex:Lk),BG (bc X scope cl C (own++fr) s H ex) tg ra bf) (hw:∀x,Wk (bf x (dc own ix Γ1)) (dc own ix Γ1))
 (ht:∀(C:Addr) (s:N5) (H:Hp) (ex:Lk) x,x∈xs->TF (bc X scope cl C (own++fr) s H ex) ifs (bf x (dc own ix Γ1)) (p x) (bf x (dc own ix Γ1)))
 (he:∀(C:Addr) (s:N5) (H:Hp) (ex:Lk) x,x∈xs->p x=true->EV (bc X scope cl C (own++fr) s H ex) elt (bf x (dc own ix Γ1)) rb (f x) (bf x (dc own ix Γ1)))
 (q:∀a vs H' R',Ext H1 R1 H' R'->H' a=none->PySem.Paired (rb.R X.K R') vs ((xs.filter p).map f)->Q (.ref a) (upd H' a (.lst vs))):
 ∃W:Nat->Nat->List V->St->Hp->Prop,(∃m,W 0 m [] (fO own ix σ) H1)/\∀i m ys σ' H',W i m ys σ' H'->
  ys.length<=N7/\((J.stop i H'/\∀p,H' p=none->Q (.ref p) (upd H' p (.lst ys)))∨
  (J.go i H'/\∀x H2,J.U5 i H' x H2->(λv σ H Q=>∀C s Hh ex,lj (bc X scope cl C (own++fr) s Hh ex) tg v σ H Q:TG) x σ' H2 λσ2 H3=>(λσ H Q=>∀C s Hh ex,mF (bc X scope cl C (own++fr) s Hh ex) ifs σ H Q:TT) σ2 H3 λb H4=>
    if b=true then(λσ H Q=>∀C s Hh ex,eQ (bc X scope cl C (own++fr) s Hh ex) elt σ H Q:TE) σ2 H4 λv H5=>∃m',m' < m/\W (i + 1) m' (ys++[v]) σ2 H5 else∃m',m' < m/\W (i + 1) m' ys σ2 H4)):=by
 refine⟨λi m ys σ' H'=>m=xs.length - i/\i<=xs.length/\∃R',au X.K σ' H1 R1 H' R' (dc own ix Γ1)/\PySem.Paired (rb.R X.K R') ys (((xs.take i).filter p).map f),⟨_,rfl,Np _,R1,qV E1 own ix,.nil⟩,?_⟩
 rintro i m ys σ' H' ⟨rfl,hle,R',E',pp⟩
 have hys:ys.length<=N7:=by
  rw[pp.length,LJ]
  refine Nn (MF _ _) (Nn ?_ hz)
  rw[L0];omega
 obtain⟨Vk,Sv⟩:=src H' R' E'.ext.r E'.sub i
 refine⟨hys,?_⟩
 by_cases RZ:i < xs.length
 ·obtain⟨go,yl⟩:=Vk _ (LD RZ)
  have SS:xs[i]∈xs:=Mb RZ
  have tk:(xs.take (i + 1))=xs.take i++[xs[i]]:=by rw[Mm,LD RZ];rfl
  refine .inr ⟨go,λv H2 hy C s Hh ex=>?_⟩
  obtain⟨R2,x2,hr⟩:=yl v H2 hy
  refine hb C s Hh ex σ' H1 R1 H2 R2 _ v _ (E'.grow x2) hr _ λσ2 E2=>?_
  intro C s Hh ex
  refine ht C s Hh ex _ SS σ2 H1 R1 H2 R2 E2 _ λH4 R4 E4 s4=>?_
  cases hpx:p xs[i] with
  | false=>
    rw[if_neg Lp]
    refine⟨xs.length - (i + 1),by omega,rfl,RZ,R4,E4.weak (hw _),?_⟩
    rw[tk,MH,List.filter_cons,hpx,if_neg Lp,List.filter_nil,Mh]
    exact Paired.map (λ_ _=>rb.mono (x2.r.trans s4)) pp
  | true=>
    rw[if_pos rfl]
    intro C s Hh ex
    refine he C s Hh ex _ SS hpx σ2 H1 R1 H4 R4 E4 _ λw H5 R5 E5 s5 e5=>?_
    refine⟨xs.length - (i + 1),by omega,rfl,RZ,R5,E5.weak (hw _),?_⟩
    rw[tk,MH,List.filter_cons,hpx,if_pos rfl,List.filter_nil,L5]
    exact cY (Paired.map (λ_ _=>rb.mono (x2.r.trans (s4.trans s5))) pp) (.cons e5 .nil)
 ·have e:i=xs.length:=by omega
  subst e
  rw[Mn] at pp
  exact .inl ⟨Sv (Nm _),λa ha=>q a ys H' R' E'.ext ha pp⟩
theorem cq {cl:List (Str×Addr)}{own:Li}{p:α->Bool}
 (S:d8 X scope cl own fr ix) (hit:IV X tg iter Γ ra xs Γ1)
 (hb:∀(C:Addr) (s:N5) (H:Hp) (ex:Lk),BG (bc X scope cl C (own++fr) s H ex) tg ra bf) (hw:∀x,Wk (bf x (dc own ix Γ1)) (dc own ix Γ1))
 (ht:∀(C:Addr) (s:N5) (H:Hp) (ex:Lk) x,x∈xs->TF (bc X scope cl C (own++fr) s H ex) ifs (bf x (dc own ix Γ1)) (p x) (bf x (dc own ix Γ1)))
 (he:∀(C:Addr) (s:N5) (H:Hp) (ex:Lk) x,x∈xs->p x=true->EV (bc X scope cl C (own++fr) s H ex) elt (bf x (dc own ix Γ1)) rb (f x) (bf x (dc own ix Γ1)))
 (hc:X.calm=true:=by rfl) (hs:∀x,Ov iter X.env x=pure x:=by intro _;rfl):aW X (.ListComp elt [⟨tg,iter,ifs,0⟩] scope pos) Γ rb ((xs.filter p).map f) Γ1:=by
 intro σ H0 R0 H R E Q q
 obtain⟨wi,hi,hit⟩:=hit
 refine eS (DD (g:=λv σ H Q=>∀C s Hh ex,lj (bc X scope cl C (own++fr) s Hh ex) tg v σ H Q) (tc:=λσ H Q=>∀C s Hh ex,mF (bc X scope cl C (own++fr) s Hh ex) ifs σ H Q) (te:=λσ H Q=>∀C s Hh ex,eQ (bc X scope cl C (own++fr) s Hh ex) elt σ H Q) hc S hi
  (λC s H ex=>⟨λQW s1 σ H v u Q I r h=>h C s _ ex QW s1 u I r,λQW s1 σ H Q I h=>h C s _ ex QW s1 I,λQW s1 σ H Q I h=>h C s _ ex QW s1 I⟩) hs) ?_
 refine hit σ H0 R0 H R E _ λJ H1 R1 E1 s1 hz src=>pB E1 src hz hb hw ht he λa vs H' R' xx ha pp=>?_
 have E2:=E1.grow xx
 exact q a vs _ R' (E2.grow (Ext.dP E2.sub ha _)) (s1.trans xx.r) aB (E2.sub.free ha) (E2.ext.h.free ha) (E2.off ha) pp (by
  rw[LJ];exact Nn (MF _ _) hz)
theorem hJ (i:Nat){y:Str}{py Sw:Pos}{cl:List (Str×Addr)}{own:Li}{p:α->Bool}
 (S:d8 X scope cl own fr ix) (hit:IV X tg iter Γ ra xs Γ1)
 (hb:∀(C:Addr) (s:N5) (H:Hp) (ex:Lk),BG (bc X scope cl C (own++fr) s H ex) tg ra bf) (hw:∀x,Wk (bf x (dc own ix Γ1)) (dc own ix Γ1))
 (ht:∀(C:Addr) (s:N5) (H:Hp) (ex:Lk) x,x∈xs->TF (bc X scope cl C (own++fr) s H ex) ifs (bf x (dc own ix Γ1)) (p x) (bf x (dc own ix Γ1)))
 (he:∀(C:Addr) (s:N5) (H:Hp) (ex:Lk) x,x∈xs->p x=true->EV (bc X scope cl C (own++fr) s H ex) elt (bf x (dc own ix Γ1)) rb (f x) (bf x (dc own ix Γ1)))
 (h:N (Γ1.set i (.mu rb ((xs.filter p).map f))))
 (Sb:Of (.ListComp elt [⟨tg,iter,ifs,0⟩] scope pos) (some (.Name y py)) Sw.line X.env=pure true:=by rfl)
 (hN:X.N.Nodup:=by first | assumption | decide) (VU:X.N[i]?=some y:=by rfl) (hx:autoParam (Loc X.env.scope y) SY)
 (hc:X.calm=true:=by rfl) (hs:∀x,Ov iter X.env x=pure x:=by intro _;rfl) (hf:autoParam (X.fn y=true∨X.env.scope.names.lookup y=some .local) SX):
 W1 X (.Assign [.Name y py] (.ListComp elt [⟨tg,iter,ifs,0⟩] scope pos) Sw) Γ N T:=λσ H0 R0 H R E D dn dr=>by
 obtain⟨wi,hi,hit⟩:=hit
 refine sS (n6 (i:=i) (g:=λv σ H Q=>∀C s Hh ex,lj (bc X scope cl C (own++fr) s Hh ex) tg v σ H Q) (tc:=λσ H Q=>∀C s Hh ex,mF (bc X scope cl C (own++fr) s Hh ex) ifs σ H Q) (te:=λσ H Q=>∀C s Hh ex,eQ (bc X scope cl C (own++fr) s Hh ex) elt σ H Q) Sb hN VU hx hc S hi
  (λC s H ex=>⟨λQW s1 σ H v u Q I r h=>h C s _ ex QW s1 u I r,λQW s1 σ H Q I h=>h C s _ ex QW s1 I,λQW s1 σ H Q I h=>h C s _ ex QW s1 I⟩) hs hf) ?_
 refine hit σ H0 R0 H R E _ λJ H1 R1 E1 s1 hz src=>pB (Q:=λv H'=>D.nx (σ.set i (some v)) H') E1 src hz hb hw ht he λa vs H' R' xx ha pp=>?_
 have E2:=E1.grow xx
 exact dn _ _ R' _ ((E2.grow (Ext.dP E2.sub ha _)).vV (u:=.lst vs) (en:=.mu rb ((xs.filter p).map f)) i ⟨a,vs,rfl,aB,E2.sub.free ha,pp⟩ (E2.ext.h.free ha) λj e _ q w=>E2.off ha j e q w) (s1.trans xx.r) h
end
section
variable {X:Cx}{Γ Γ1 Γ2 Γ3:Ga}{α β γ δ:Type}{N:Ga->Prop}{T:RT}
variable {xs:List α}{r:Rep α}{QW:Lg}{σ:St}{H:Hp}{s:N5}{a:Addr}{K:QA}{es:Lm}{tp pos:Pos}{A:Od}{n:Nat}{R:Hp}{ys:List α}
theorem iK {h':Heap}{t':Nat}{fp:Lk}(I:Inv X QW σ H s)(k:∀b o,b∉fp->s.heap.get? b=some o->h'.get? b=some o)(hf:∀b∈fp,iT X QW H b):Inv X QW σ H {s with heap:=h',toks:=t'}:=by
 have Vs:∀b u,H b=some u->b∉fp:=λb u e z=>by rw[(hf b z).1] at e;cases e
 refine I.step (g':=s.gens) (d':=s.drawn) (ch:=fp) (λb hb=>⟨(hf b hb).2.2.2.1,(hf b hb).2.1,(hf b hb).2.2.2.2.1,(hf b hb).2.2.2.2.2⟩) (λb o _ _ hc e _=>k b o hc e) (λb o _ _ hc e _=>⟨o.slots,k b o hc e⟩) (λ_ _ _ _ n=>n)
  (λb o hc e=>⟨o,k b o hc e⟩) (λ_ _ e=>e) (λ_ _ _ e=>e) (λb ps e=>⟨#[],by rw[e];simp⟩) (λm hm=>?_) (λb u e=>?_) I.bare
 ·obtain⟨o,es,ep,ho,r⟩:=hm
  exact⟨o,es,ep,k _ o (λz=>(hf _ z).2.1 rfl) ho,r⟩
 ·refine(I.Q3 b u e).Rz (λc v hc q=>k c v ?_ q) (λ_ q=>q) λ_ _ q=>q
  rcases hc with z | z
  ·rw[z];exact Vs b u e
  ·exact Vs c _ z
theorem adopt {o:HO}(I:Inv X QW σ H s)(hf:iT X QW H a)(hy:X.s₀.heap.objs.size<=a)(new:cv X.prog X.w (upd H a o) s.heap a o):Inv X QW σ (upd H a o) s:=by
 have ne:∀{b:Addr} {u:HO},H b=some u->b≠a:=λe=>cL e hf.1
 have ne0:∀{b:Addr} {u:Obj},X.s₀.heap.get? b=some u->b≠a:=λe z=>absurd (Nq (Qa e) hy) (by rw[z];exact Nu _)
 refine⟨I.ok,I.os,I.bare,⟨I.base.keep,I.base.slot,λb u e n hx=>by rw[aF (ne0 e)];exact I.base.free b u e n hx,I.base.there,λb xs e=>?_,λb u v e=>?_,λb ps e=>?_⟩,I.loc,I.cell,?_,λx c e=>?_,λp hp=>?_,λb u e=>?_,I.len⟩
 ·have q:=I.base.Sk b xs e;rw[aF (ne q)];exact q
 ·have q:=I.base.Sf b u v e;rw[aF (ne q)];exact q
 ·obtain⟨m,q⟩:=I.base.Sl b ps e;exact⟨m,by rw[aF (ne q)];exact q⟩
 ·rw[aF (NN hf.2.1)];exact I.free
 ·rw[aF (hf.2.2.2.2.1 x c e)];exact I.RK x c e
 ·obtain⟨e,n,r⟩:=I.pin p hp
  exact⟨e,by rw[aF (hf.2.2.2.2.2 p hp)];exact n,r⟩
 ·by_cases hb:b=a
  ·subst hb;rw[aB] at e;cases e;exact new
  ·rw[aF hb] at e
   exact(I.Q3 b u e).Rz (λc v _ q=>q) (λc q=>by rw[aF (ne q)];exact q) λc xs q=>by rw[aF (ne q)];exact q
def JR (K:QA)(a:Addr):It:=
 ⟨λi H=>∃xs x,aT K H a xs/\xs[i]?=some x,λi H v H'=>∃p x,H p=none/\v= .ref p/\H'=upd H p (.tup [.int i,x])/\∀xs,aT K H a xs->xs[i]?=some x,λi H=>∃xs,aT K H a xs/\xs.length<=i⟩
theorem yc {P:Ob}{w:World}{k:Nat}(a e it:Addr)(hei:e≠it):Turn P w K (.Tuple es k tp) (JR K a) [e,it] e (λi h=>(∃old,IsEnum h e it i old)/\h.IsListIter it a i) where
 mem:=by simp
 obj:=λi h st b hb=>by
  obtain⟨⟨old,he⟩,o,ho,hc,hd⟩:=st
  rcases LV.mp hb with rfl | hb
  ·exact⟨_,he,λv z=>by cases z⟩
  ·have e2:b=it:=by simpa using hb
   subst e2
   exact⟨o,ho,λv z=>by rw[hd] at z;cases z⟩
 keep:=λi h h' st kk=>⟨st.1.elim λold he=>⟨old,kk e (by simp) _ he⟩,st.2.at λo x=>kk it (by simp) o x⟩
 item:=by
  intro X hP hw hK hc i QW s σ H E I hf st hg
  subst hP hw hK
  obtain⟨⟨old,he⟩,hit⟩:=st
  obtain⟨xs,x,hq,hx⟩:=hg
  obtain⟨QX,r,pl,hz⟩:=I.list hq
  obtain⟨u,hu,rx⟩:=r.get hx
  have hn:H s.heap.objs.size=none:=I.Q3.fresh (Nm _)
  refine wpAny_pyNext_enum_item he hit pl.isList (x:=u) (by simpa using hu) hei λh' ho hit' hT hsz hk=>?_
  refine⟨_,rfl,?_⟩
  refine wpAny_letOwnedTupleGo_enum (s:={s with heap:=h',toks:=s.toks + 1}) ho λh2 he2 RA=>?_
  have Ve:∀b o,b∉[e,it]->s.heap.get? b=some o->h2.get? b=some o:=λb o hb q=>by
   have TC:b≠e:=λz=>hb (by simp[z])
   exact RA.extBut b o TC (hk b o TC (λz=>hb (by simp[z])) q)
  have I1:Inv X QW σ H {s with heap:=h2,toks:=s.toks + 1}:=iK I Ve hf
  have hel:e≠s.heap.objs.size:=Nt (Qa he)
  have V7:h2.get? s.heap.objs.size=some {cls:=.type "tuple",data:=.seq #[.int i s.toks,u]}:=(RA.2 _ (NN hel)).trans hT
  have I2:Inv X QW σ (upd H s.heap.objs.size (.tup [.int i,x])) {s with heap:=h2,toks:=s.toks + 1}:=
   adopt I1 (I.gu (Nm _) hn) (I.sz) ⟨by show 2<=N7;decide,[.int i s.toks,u],.cons ⟨_,rfl⟩ (.cons rx .nil),⟨_,V7,rfl,_,rfl⟩⟩
  refine⟨.ref s.heap.objs.size,_,I2,rfl,⟨s.heap.objs.size,x,hn,rfl,rfl,λys hy=>?_⟩,⟨⟨u,by simpa using he2⟩,hit'.at λo y=>(RA.2 it (NN hei)).trans y⟩,λb hb=>?_⟩
  ·rw[I.gI hy hq];exact hx
  ·have RZ:b < s.heap.objs.size:=by
    rcases LV.mp hb with rfl | hb
    ·exact Qa he
    ·have e2:b=it:=by simpa using hb
     subst e2
     obtain⟨o,ho,_⟩:=hit
     exact Qa ho
   rw[aF (Nt RZ)]
   exact(hf b hb).1
 done:=by
  intro X hP hw hK hc i QW s σ H E I hf st hg
  subst hP hw hK
  obtain⟨⟨old,he⟩,hit⟩:=st
  obtain⟨xs,hq,hx⟩:=hg
  obtain⟨QX,r,pl,hz⟩:=I.list hq
  refine wpAny_pyNext_enum_end (I.ok.hd hc) he hit pl.isList (by have:=r.length;simp;omega) λh' hk=>⟨rfl,?_⟩
  exact iK (t':=s.toks) I (λb o hb q=>hk b o (λz=>hb (by simp[z])) q) hf
 self:=λ_ _ _ _ _ st h=>st.1.elim λold he=>wpAny_pyIter_enum he h
def Jh (K:QA)(ta:TA):TI:=λσ H R=>ta σ H λvs H1=>∃a xs,vs=[.ref a]/\aT K H1 a xs/\R (JR K a) H1
theorem BX {a:Expr}{ta:TA}{p:Pos}{k:Nat}(hg:Gl X "enumerate")(hm:X.mg "enumerate"=none)(ha:PA X [a] ta)(hs:N8 [a] X.env=[(false,eval a X.env)]:=by rfl):PI X (.Tuple es k tp) (.Call (.Name "enumerate" p) [a] [] pos) (Jh X.K ta):=by
 intro QW s σ H R I h
 refine Call_ (fI I hg hm boot_enumerate (NV (aL (ha pos QW s σ H _ I h) λus s1 ⟨vs,H1,I1,r1,q1⟩=>?_) hs rfl))
 obtain⟨l,xs,e,hq,q⟩:=q1
 subst e
 cases r1 with
 | cons r rr=>
   cases rr
   cases r
   obtain⟨QX,r',pl,hz⟩:=I1.list hq
   refine call_enumerate_list pl.isList λh' he hit hsz hk=>?_
   refine wpAny_pyIter_enum he ?_
   have I2:Inv X QW σ H1 {s1 with heap:=h'}:=I1.kept (t':=s1.toks) hk
   have f0:H1 s1.heap.objs.size=none:=I1.Q3.fresh (Nm _)
   have f1:H1 (s1.heap.objs.size + 1)=none:=I1.Q3.fresh (Nx _)
   refine⟨s1.heap.objs.size + 1,[s1.heap.objs.size + 1,s1.heap.objs.size],_,_,H1,rfl,I2,yc l (s1.heap.objs.size + 1) s1.heap.objs.size (Nz (Ny _)),⟨⟨.none,he⟩,hit⟩,λb hb=>?_,q⟩
   rcases LV.mp hb with rfl | hb
   ·exact I1.gu (Nx _) f1
   ·have e2:b=s1.heap.objs.size:=by simpa using hb
    subst e2
    exact I1.gu (Nm _) f0
def nums (xs:List α):List (Int×α):=(xs.zipIdx).map λp=>((p.2:Int),p.1)
theorem cR (xs:List α):(nums xs).length=xs.length:=by unfold nums;rw[LJ,List.length_zipIdx]
theorem eN {i:Nat}{y:Int×α}(h:(nums xs)[i]?=some y):y.1=(i:Int)/\xs[i]?=some y.2:=by
 unfold nums at h
 rw[LM,List.getElem?_zipIdx] at h
 cases e:xs[i]? with
 | none=>rw[e] at h;cases h
 | some x=>rw[e] at h;cases h;exact⟨by simp,rfl⟩
theorem gL {a:Expr}{p:Pos}{k:Nat}(hm:X.mg "enumerate"=none)(ha:EV X a Γ (ae r) xs Γ1)(hs:N8 [a] X.env=[(false,eval a X.env)]:=by rfl)(hg:Gl X "enumerate":=by rfl):
 IV X (.Tuple es k tp) (.Call (.Name "enumerate" p) [a] [] pos) Γ (dB af r) (nums xs) Γ1:=by
 refine⟨_,BX hg hm (aV aJ bE hs) hs,λσ H0 R0 H R E Rq q=>ha σ H0 R0 H R E _ λv H1 R1 E1 s1 e1=>?_⟩
 obtain⟨a,vs,rfl,hp,pp,z⟩:=e1
 refine⟨a,vs,rfl,aT.of (E1.sub _ _ hp),q _ H1 R1 E1 s1 (by rw[cR];exact z) λH' R' sR sH i=>⟨λy hy=>?_,λhi=>?_⟩⟩
 ·have hq:aT X.K H' a vs:=aT.of (sH _ _ (sR _ _ hp))
  obtain⟨e1,e2⟩:=eN hy
  obtain⟨v,hv,hr⟩:=cX pp e2
  refine⟨⟨vs,v,hq,hv⟩,λv' H2 UJ=>?_⟩
  obtain⟨p,x,Uk,rfl,rfl,hy⟩:=UJ
  have:=hy vs hq
  rw[hv] at this
  cases this
  have s2:ar R' (upd R' p (.tup [.int i,v])):=ar.fresh (sH.free Uk) _
  exact⟨upd R' p (.tup [.int i,v]),Ext.fresh sH Uk _,p,_,_,rfl,aB,by rw[e1];rfl,r.mono s2 (r.mono sR hr)⟩
 ·exact⟨vs,aT.of (sH _ _ (sR _ _ hp)),by rw[pp.length,← cR xs];exact hi⟩
theorem tW:dR X (.builtin "isinstance") (λxs H Q=>∃x c t b,xs=[x,.ty c]/\fG X.K H x t/\QT X.K t (.type c)=some b/\Q (.bl b) H):=by
 intro QW s σ H xs us Q I r h
 obtain⟨x,c,t,b,rfl,ty,e,q⟩:=h
 obtain⟨u,u2,rfl,r1,r2⟩:=vals2 r
 cases (show u2=Qz c from r2)
 exact yo I r1 ty e λtk=>⟨.bl b,H,I.tok tk,rfl,q⟩
theorem kP {e:Expr}{y:Str}{p p2:Pos}{x:α}{c:String}{t:Value}{b:Bool}(hm:X.mg "isinstance"=none)(hmy:X.mg y=none)(hvy:OB y=some (.type c))(he:EV X e Γ r x Γ1)
 (ty:∀(R H:Hp) v,ar R H->r.R X.K R v x->fG X.K H v t) (ht:∀K:QA,QT K t (.type c)=some b:=by intro;rfl)
 (hs:N8 [e,.Name y p2] X.env=(false,eval e X.env)::N8 [.Name y p2] X.env:=by rfl) (hg:Gl X "isinstance":=by rfl) (hgy:Gl X y:=by rfl) (hny:y≠"__name__":=by decide) (hdy:Rh y:=by decide):EV X (.Call (.Name "isinstance" p) [e,.Name y p2] [] pos) Γ bZ b Γ1:=by
 intro σ H0 R0 H R E Q q
 refine eS (dA tW hg hm PyProof.Rows.boot_isinstance (aV aJ (aV (DA (v:=.ty c) hgy hmy hvy rfl hny hdy) bE rfl) hs) (by decide) (by decide) hs rfl) (he σ H0 R0 H R E _ λv H1 R1 E1 s1 e1=>?_)
 exact⟨v,c,t,b,rfl,ty R1 H1 v E1.sub e1,ht _,q _ H1 R1 E1 s1 rfl⟩
theorem ty_int {x:Int}(R H:Hp)(v:V)(_:ar R H)(h:af.R K R v x):fG K H v (.type "int"):=by cases h;exact .int _
theorem ty_list (R H:Hp)(v:V)(s:ar R H)(h:(ae r).R K R v xs):fG K H v (.type "list"):=by obtain⟨a,vs,rfl,e,_⟩:=h;exact .lst (s _ _ e)
structure qr (r:Rep α) [DecidableEq α] (n:Nat):Prop where
 inj:∀{K:QA} {R:Hp} {v:V} {x y:α},r.R K R v x->r.R K R v y->x=y
 eq:∀{X:Cx} {QW:Lg} {σ:St} {H:Hp} {s:N5} {R:Hp} {A:Od} (I:Inv X QW σ H s) (sub:ar R H) {v u:V} {vv uu:Value} {x y:α},RelV v vv->RelV u uu->r.R X.K R v x->r.R X.K R u y->A.units + n < cLine->Ql A s vv uu (decide (x=y))
theorem eq_int:qr af 0:=by
 refine⟨by rintro K R v x y h1 h2;cases h1;cases h2;rfl,?_⟩
 intro X QW σ H s R A I sub v u vv uu x y rv ru h1 h2 hu
 cases h1
 cases h2
 obtain⟨t,rfl⟩:=rv
 obtain⟨t',rfl⟩:=ru
 intro prog w E Q hq
 refine Pc ?_
 rw[Lu];exact hq
theorem in1_units (A:Od):A.in1.units=A.units + 1:=rfl
theorem yR [DecidableEq α](e:qr r n){X:Cx}(I:Inv X QW σ H s)(sub:ar R H)(hu:A.units + n < cLine):
 ∀{vs ws:List V} {us RX:Ll} {xs ys:List α},Vals vs us->Vals ws RX->PySem.Paired (r.R X.K R) vs xs->PySem.Paired (r.R X.K R) ws ys->∀(j:Nat) (h1:j < us.toArray.size) (h2:j < RX.toArray.size),Ql A s us.toArray[j] RX.toArray[j] (decide (xs[j]?=ys[j]?)):=by
 intro vs ws us RX xs ys hv hw px py j h1 h2
 have V9:j < us.length:=by simpa using h1
 have T7:j < RX.length:=by simpa using h2
 have l1:j < vs.length:=by rw[hv.length];exact V9
 have l2:j < ws.length:=by rw[hw.length];exact T7
 obtain⟨u,e1,r1⟩:=hv.get (LD l1)
 obtain⟨u',e2,r2⟩:=hw.get (LD l2)
 obtain⟨x,e3,q1⟩:=kJ px (LD l1)
 obtain⟨y,e4,q2⟩:=kJ py (LD l2)
 rw[LD V9] at e1
 rw[LD T7] at e2
 have e1:=Option.some.inj e1
 have e2:=Option.some.inj e2
 have key:=e.eq (A:=A) I sub r1 r2 q1 q2 hu
 have d:decide (xs[j]?=ys[j]?)=decide (x=y):=by rw[e3,e4];simp
 rw[d]
 simp only[List.getElem_toArray]
 rw[e1,e2]
 exact key
theorem all_eq [DecidableEq α](h:xs.length=ys.length):((L6 xs.length).all λj=>decide (xs[j]?=ys[j]?))=decide (xs=ys):=by
 rw[Lr,MJ]
 simp only[Ms,decide_eq_true_eq]
 constructor
 ·intro hh
  refine Mw λi=>?_
  by_cases hi:i < xs.length
  ·exact hh i hi
  ·have a1:xs[i]?=none:=Ma (by omega)
   have a2:ys[i]?=none:=Ma (by omega)
   rw[a1,a2]
 ·rintro rfl j _;rfl
theorem C9 [DecidableEq α](e:qr r n){X:Cx}(I:Inv X QW σ H s)(sub:ar R H){b:Addr}{vs ws:List V}(ha:R a=some (.lst vs))(hb:R b=some (.lst ws))(px:PySem.Paired (r.R X.K R) vs xs)(py:PySem.Paired (r.R X.K R) ws ys)(hu:A.units + (n + 1) < cLine):
 Qn A s (.ref a) (.ref b) (decide (xs=ys))/\Qm A s (.ref a) (.ref b) (!decide (xs=ys)):=by
 obtain⟨us,hv,pl,_⟩:=I.list (aT.of (sub _ _ ha))
 obtain⟨RX,hw,RS,_⟩:=I.list (aT.of (sub _ _ hb))
 have lx:us.toArray.size=xs.length:=by rw[LQ,← hv.length,px.length]
 have ly:RX.toArray.size=ys.length:=by rw[LQ,← hw.length,py.length]
 by_cases hl:xs.length=ys.length
 ·have he:=yR (A:=A.in1) e I sub (by rw[in1_units];omega) hv hw px py
  have r1:=Qn.lists pl.isList RS.isList (lx.trans (hl.trans ly.symm)) (by omega) he
  have r2:=Qm.lists pl.isList RS.isList (lx.trans (hl.trans ly.symm)) (by omega) he
  rw[lx,all_eq hl] at r1 r2
  exact⟨r1,r2⟩
 ·have Q7:(us.toArray.size != RX.toArray.size)=true:=by rw[lx,ly];simpa using hl
  have d:decide (xs=ys)=false:=decide_eq_false λz=>hl (by rw[z])
  rw[d]
  exact⟨Qn.lists_lengths pl.isList RS.isList Q7 (by omega),Qm.lists_lengths pl.isList RS.isList Q7 (by omega)⟩
theorem yA {X:Cx}(I:Inv X QW σ H s)(sub:ar R H){b:Addr}{vs ws:List V}{k:Nat->Bool}(ha:R a=some (.tup vs))(hb:R b=some (.tup ws))(hl:vs.length=ws.length)(hu:A.units < cLine)
 (he:∀(us RX:Ll),Vals vs us->Vals ws RX->∀(j:Nat) (h1:j < us.toArray.size) (h2:j < RX.toArray.size),Ql A.in1 s us.toArray[j] RX.toArray[j] (k j)):
 Qn A s (.ref a) (.ref b) ((L6 vs.length).all k)/\Qm A s (.ref a) (.ref b) (!(L6 vs.length).all k):=by
 obtain⟨us,hv,pl,_⟩:=I.tuple (de.of (sub _ _ ha))
 obtain⟨RX,hw,RS,_⟩:=I.tuple (de.of (sub _ _ hb))
 have lx:us.toArray.size=vs.length:=by rw[LQ,← hv.length]
 have ly:RX.toArray.size=vs.length:=by rw[LQ,← hw.length,hl]
 have r1:=Qn.tuples (A:=A) pl RS hu (he us RX hv hw)
 have r2:=Qm.tuples (A:=A) pl RS hu (he us RX hv hw)
 rw[lx,ly,Nat.min_self] at r1 r2
 simp only[beq_self_eq_true,Bool.and_true] at r1 r2
 exact⟨r1,r2⟩
theorem Hz [DecidableEq α](e:qr r n)(hu:X.A.units + (n + 1) < cLine):fM X .NotEq (ae r) (ae r) xs ys (!decide (xs=ys)):=
 ⟨λv u H Q=>∃R,ar R H/\∃xs ys,(ae r).R X.K R v xs/\(ae r).R X.K R u ys/\Q (.bl (!decide (xs=ys))) H,λQW s σ H x y v u Q I rx ry ⟨R,sub,xs,ys,h1,h2,q⟩=>by
  obtain⟨a,vs,rfl,ha,px,_⟩:=h1
  obtain⟨b,ws,rfl,hb,py,_⟩:=h2
  cases rx
  cases ry
  exact(C9 (A:=X.A) e I sub ha hb px py hu).2 _ _ _ _ ⟨.bl _,H,I,rfl,q⟩,λR H v u Q s h1 h2 q=>⟨R,s,xs,ys,h1,h2,q⟩⟩
theorem oQ:dR X (.type "range") (λxs H Q=>∃n:Int,xs=[.int n]/\∀p,H p=none->Q (.ref p) (upd H p (.Tu 0 n))):=by
 intro QW s σ H xs us Q I r h
 obtain⟨n,rfl,q⟩:=h
 obtain⟨u,rfl,t,rfl⟩:=vals1 r
 refine call_range_1 ?_
 exact⟨.ref s.heap.objs.size,_,I.laid (o:=.Tu 0 n) (λb o e=>P9 _ e) (Nm _) ⟨_,_,_,Qb _ rfl⟩,rfl,q _ (I.Q3.fresh (Nm _))⟩
theorem oy:dR X (.type "range") (λxs H Q=>∃m n:Int,xs=[.int m,.int n]/\∀p,H p=none->Q (.ref p) (upd H p (.Tu m n))):=by
 intro QW s σ H xs us Q I r h
 obtain⟨m,n,rfl,q⟩:=h
 obtain⟨u,u2,rfl,⟨t,rfl⟩,⟨t2,rfl⟩⟩:=vals2 r
 refine call_range_2 ?_
 exact⟨.ref s.heap.objs.size,_,I.laid (o:=.Tu m n) (λb o e=>P9 _ e) (Nm _) ⟨_,_,_,Qb _ rfl⟩,rfl,q _ (I.Q3.fresh (Nm _))⟩
theorem kQ (hc:X.calm=true):dR X (.type "list") (λxs H Q=>∃(p:Addr) (m n:Int),xs=[.ref p]/\H p=some (.Tu m n)/\ -1000000<=m/\m<=1000000/\ -1000000<=n/\n<=1000000/\∀d,H d=none->Q (.ref d) (upd H d (.lst ((ups m (n - m).toNat).map V.int)))):=by
 intro QW s σ H xs us Q I r h
 obtain⟨p,m,n,rfl,hp,m1,m2,n1,n2,q⟩:=h
 obtain⟨u,rfl,rx⟩:=vals1 r
 cases rx
 obtain⟨t,t2,t3,ho⟩:=I.Q3 p _ hp
 have hsz:PD m n 1=(((n - m).toNat:Nat):Int):=by rw[rangeSize_one];split<;>omega
 refine call_list_range (I.ok.hd hc) ho (small_one (by omega) (by omega) (by omega) (by omega)) hsz (by omega) λh' tk acc c' hk hS V6=>?_
 have vals:Vals ((ups m (n - m).toNat).map V.int) acc.toList:=by
  have key:∀(k:Nat) (QX:Ll) (lo:Int),QX.length=k->(∀(j:Nat) v,QX[j]?=some v->∃t,v= .int (lo + (j:Int) * 1) t)->Vals ((ups lo k).map V.int) QX:=by
   intro k
   induction k with
   | zero=>intro QX lo hl _;cases QX with
     | nil=>exact .nil
     | cons _ _=>cases hl
   | succ k ih=>
     intro QX lo hl hv
     cases QX with
     | nil=>cases hl
     | cons v r=>
       have e:ups lo (k + 1)=lo::ups (lo + 1) k:=by
        unfold ups
        rw[List.range_succ_eq_map,Me,ML]
        congr 1
        ·simp
        ·apply MZ;intro a _;simp;omega
       rw[e,Me]
       obtain⟨t,e0⟩:=hv 0 v rfl
       refine .cons ⟨t,by rw[e0];simp⟩ (ih r (lo + 1) (by simpa using hl) λj v hj=>?_)
       obtain⟨t,ej⟩:=hv (j + 1) v (by simpa using hj)
       exact⟨t,by rw[ej];congr 1;push_cast;omega⟩
  refine key _ _ m (by rw[Lo];exact V6.1) λj v hj=>V6.2 j v (by simpa using hj)
 exact⟨.ref _,_,I.laid (a:=s.heap.objs.size) (o:=.lst ((ups m (n - m).toNat).map V.int)) hk (Nm _) ⟨by rw[LJ,a8];exact Nn (show(n - m).toNat<=2000000 by omega) (by decide),acc.toList,c',vals,by rw[hS]⟩,rfl,q _ (I.Q3.fresh (Nm _))⟩
end
def oN (scope:Scope)(env:Env):List (Str×Addr):=(scope.names.filterMap λp=>if p.2== .free then(env.cells.lookup p.1).map (λc=>(p.1,c)) else none).reverse
theorem ny {env:Env}:∀(names:List (Str×OM)) (acc:List (Str×Addr)),(∀y∈names,y.2= .free->∃c,env.cells.lookup y.1=some c)->
 (forIn names acc λ(x:Str×OM) (r:List (Str×Addr))=>if(x.2==OM.free)=true then do let a ← cellOf env x.1;pure (Lx ((x.1,a)::r)) else pure (Lx r):Sem (List (Str×Addr)))
  =pure ((names.filterMap λp=>if p.2== .free then(env.cells.lookup p.1).map (λc=>(p.1,c)) else none).reverse++acc)
 | [],acc,_=>rfl
 | (n,k)::r,acc,h=>by
   have ih:=ny (env:=env) r
   rw[Ni,MY]
   cases hk:(k==OM.free) with
   | false=>
     simp only[hk,Bool.false_eq_true,if_false]
     rw[pure_bind]
     exact ih acc λy hy=>h y (LN _ hy)
   | true=>
     obtain⟨c,hc⟩:=h (n,k) LP (eq_of_beq hk)
     have Sq:cellOf env n=pure c:=by unfold cellOf;rw[hc]
     simp only[hk,if_true,hc,NS,Sq]
     rw[pure_bind,pure_bind]
     show forIn r ((n,c)::acc) _=_
     rw[ih ((n,c)::acc) λy hy=>h y (LN _ hy)]
     simp
theorem v5 {X:Cx}{scope:Scope}{own fr:Li}{ix:List Nat}(hk:scope.kind= .function)(hn:∀y∈scope.names,y.2≠ .cell)(hl:∀y∈scope.names,y.2= .local->scope.names.lookup y.1=some .local)
 (hc:∀x,X.env.scope.names.lookup x=some .cell->∃c,X.env.cells.lookup x=some c) (hf:∀y∈scope.names,y.2= .free->X.env.scope.names.lookup y.1=some .cell)
 (VW:∀x∈fr,scope.names.lookup x=some .free) (hlen:fr.length=ix.length) (RQ:∀(k i:Nat) (x:Str),ix[k]?=some i->fr[k]?=some x->X.N[i]?=some x):d8 X scope (oN scope X.env) own fr ix:=by
 have free:∀y∈scope.names,y.2= .free->∃c,X.env.cells.lookup y.1=some c:=λy hy e=>hc _ (hf y hy e)
 refine⟨?_,λx c e=>?_,hk,hn,hl,λx e=>?_,VW,hlen,λk i x e1 e2=>⟨RQ k i x e1 e2,hf (x,.free) (Ol (VW x (LO e2))) rfl⟩⟩
 ·have:=ny (env:=X.env) scope.names [] free
  rw[Mh] at this
  have e:closureFor scope X.env=((forIn scope.names [] λ(x:Str×OM) (r:List (Str×Addr))=>if(x.2==OM.free)=true then do let a ← cellOf X.env x.1;pure (Lx ((x.1,a)::r)) else pure (Lx r):Sem (List (Str×Addr))) >>=λcs=>pure cs):=rfl
  rw[e,this,pure_bind]
  rfl
 ·have m:=Ol e
  unfold oN at m
  obtain⟨p,_,hp⟩:=M8.mp (List.mem_reverse.mp m)
  split at hp
  ·cases q:X.env.cells.lookup p.1 with
   | none=>rw[q] at hp;cases hp
   | some c'=>rw[q] at hp;cases hp;exact q
  ·cases hp
 ·have m:=Ol e
  obtain⟨c,Ur⟩:=free _ m rfl
  have m2:(x,c)∈oN scope X.env:=by
   unfold oN
   refine List.mem_reverse.mpr (M8.mpr ⟨(x,.free),m,?_⟩)
   simp[Ur]
  cases q:(oN scope X.env).lookup x with
  | some c'=>exact⟨c',rfl⟩
  | none=>
    rw[List.lookup_eq_none_iff] at q
    exact absurd (q _ m2) (by simp)
def xh (scope so:Scope)(N0 fr:Li)(ix:List Nat):Bool:=
 decide (scope.kind= .function)&&scope.names.all (λy=>decide (y.2≠ .cell)&&(decide (y.2≠ .local) ||decide (scope.names.lookup y.1=some .local))&&(decide (y.2≠ .free) ||decide (so.names.lookup y.1=some .cell)))
  &&fr.all (λx=>decide (scope.names.lookup x=some .free))&&decide (fr.length=ix.length)&&(L6 ix.length).all λk=>match ix[k]?,fr[k]? with | some i,some x=>decide (N0[i]?=some x) | _,_=>true
theorem bH {X:Cx}{scope so:Scope}{N0 own fr:Li}{ix:List Nat}(hso:X.env.scope=so)(hN0:X.N=N0)(hc:∀x,X.env.scope.names.lookup x=some .cell->∃c,X.env.cells.lookup x=some c)(h:xh scope so N0 fr ix=true):d8 X scope (oN scope X.env) own fr ix:=by
 unfold xh at h
 simp only[Lq,Lv,decide_eq_true_eq,MJ] at h
 obtain⟨⟨⟨⟨h1,h2⟩,h3⟩,h4⟩,h5⟩:=h
 refine v5 h1 (λy hy=>(h2 y hy).1.1) (λy hy e=>(h2 y hy).1.2.resolve_left λz=>z e) hc (λy hy e=>by rw[hso];exact(h2 y hy).2.resolve_left λz=>z e) h3 h4 λk i x e1 e2=>?_
 have hk:k < ix.length:=(LC.mp e1).1
 have:=h5 k (Ms.mpr hk)
 rw[e1,e2] at this
 rw[hN0]
 simpa using this
section
variable {X:Cx}{Γ Γ1 Γ2 Γ3:Ga}{α β γ δ:Type}{N:Ga->Prop}{T:RT}
theorem uN (i:Nat){S:cQ}{x y:Str}{k:Nat}{e:Expr}{es:Lm}{p p1 p2 pos:Pos}{ps:List Pk}{r:Rep α}{Pd:α->Prop}(C:aI X.prog X.w X.K X.mg X.base x k (aK S X.K))(hr:bI k X.A)(ha:HA X (e::es) Γ ps Γ1)(hS:S X.K ps (cg X.K r Pd))(h:∀z,Pd z->N (Γ1.set i (.im r z)))
 (hg:Gl X x:=by rfl) (RN:Rh x:=by decide) (he:N8 (e::es) X.env=(false,eval e X.env)::N8 es X.env:=by rfl) (Rj:(Oe p2 (N8 es X.env)).any (·.1)=false:=by rfl)
 (hN:X.N.Nodup:=by first | assumption | decide) (hi:X.N[i]?=some y:=by rfl) (hx:autoParam (Loc X.env.scope y) SY)
 (hs:Of (.Call (.Name x p) (e::es) [] p2) (some (.Name y p1)) pos.line X.env=pure false:=by rfl) (hf:autoParam (X.fn y=true∨X.env.scope.names.lookup y=some .local) SX):
 W1 X (.Assign [.Name y p1] (.Call (.Name x p) (e::es) [] p2) pos) Γ N T:=λσ H0 R0 H R E D dn dr=>
 sS (jI hN hi hx aJ hs hf) (kg C hr ha hS E (λH1 R1 v H' R' E1 s1 xx t=>by
  obtain⟨z,e1,hz⟩:=t
  exact dn _ H' R' _ ((E1.grow xx).set i e1) (s1.trans xx.r) (h z hz)) hg RN he Rj)
end
section
variable {X:Cx}{Γ Γ1 Γ2 Γ3:Ga}{α β γ δ:Type}{N:Ga->Prop}{T:RT}
theorem Cr:dw X (OH .Mult) (rI Pt λi j=>.int (i * j)):=u5 λ_ _ _ _ _ _ _ hc q=>mul_int q hc
theorem jZ {a b:Expr}{pos:Pos}{x y:Int}(ha:EV X a Γ af x Γ1)(hb:EV X b Γ1 af y Γ2)(h:Pt x y):EV X (.BinOp a .Mult b pos) Γ af (x * y) Γ2:=iy Cr ha hb λR v u H Q e1 e2 q=>⟨x,y,e1,e2,h,q _ rfl⟩
def bM (a:Addr)(r:Rep α)(xs:List α):uL where
 fp:=[a]
 R:=λK H R v=>v= .ref a/\∃vs,H a=some (.lst vs)/\PySem.Paired (r.R K R) vs xs
 loc:=λhH hR ⟨e,vs,h,p⟩=>⟨e,vs,(hH a (LH.mpr rfl)).trans h,Paired.map (λ_ _=>r.mono hR) p⟩
 has:=λ⟨e,vs,h,p⟩ b hb=>by rw[LH.mp hb,h];exact NR _
theorem l7 {K:QA}{H R:Hp}{a:Addr}{r:Rep α}{xs:List α}{vs:List V}(h:H a=some (.lst vs))(hR:R a=none)(p:PySem.Paired (r.R K R) vs xs):(Ent.ob (bM a r xs)).ok K H R (some (.ref a)):=
 ⟨⟨_,rfl,rfl,vs,h,p⟩,λb hb=>by rw[LH.mp hb];exact hR⟩
theorem fq {K:QA}{H R:Hp}{a:Addr}{r:Rep α}{xs:List α}{o:Option V}(h:(Ent.ob (bM a r xs)).ok K H R o):o=some (.ref a)/\(∃vs,H a=some (.lst vs)/\PySem.Paired (r.R K R) vs xs)/\R a=none:=by
 obtain⟨⟨v,rfl,rfl,q⟩,n⟩:=h
 exact⟨rfl,q,n a (LH.mpr rfl)⟩
theorem EV.box (i:Nat){e:Expr}{a:Addr}{r:Rep α}{xs xs':List α}{rr:Rep β}{y:β}(h:EV X e (Γ.set i (.mu r xs)) rr y Γ1)(hΓ:Γ[i]?=some (.ob (bM a r xs)))(hΓ1:Γ1[i]?=some (.mu r xs')):EV X e Γ rr y (Γ1.set i (.ob (bM a r xs'))):=by
 intro σ H0 R0 H R E Q q
 obtain⟨ea,⟨vs,ha,pp⟩,hR⟩:=fq (E.ent i _ hΓ)
 refine h σ H0 R0 H R (E.tell hΓ (by rw[ea];exact⟨a,vs,rfl,ha,hR,pp⟩) λb w=>by rw[bX.mp w] at ea;cases ea;exact LH.mpr rfl) Q λv H' R' E' s' hr=>q v H' R' ?_ s' hr
 obtain⟨a',Ru,Ry,R8,RF,RP⟩:=E'.ent i _ hΓ1
 rw[ea] at Ry;cases Ry
 exact E'.tell hΓ1 (by rw[ea];exact l7 R8 RF RP) λb w=>by rw[show b=a from LH.mp w];exact bX.mpr ea
theorem TV.box (i:Nat){e:Expr}{a:Addr}{r:Rep α}{xs xs':List α}{y:Bool}(h:TV X e (Γ.set i (.mu r xs)) y Γ1)(hΓ:Γ[i]?=some (.ob (bM a r xs)))(hΓ1:Γ1[i]?=some (.mu r xs')):TV X e Γ y (Γ1.set i (.ob (bM a r xs'))):=by
 intro σ H0 R0 H R E Q q
 obtain⟨ea,⟨vs,ha,pp⟩,hR⟩:=fq (E.ent i _ hΓ)
 refine h σ H0 R0 H R (E.tell hΓ (by rw[ea];exact⟨a,vs,rfl,ha,hR,pp⟩) λb w=>by rw[bX.mp w] at ea;cases ea;exact LH.mpr rfl) Q λH' R' E' s'=>q H' R' ?_ s'
 obtain⟨a',Ru,Ry,R8,RF,RP⟩:=E'.ent i _ hΓ1
 rw[ea] at Ry;cases Ry
 exact E'.tell hΓ1 (by rw[ea];exact l7 R8 RF RP) λb w=>by rw[show b=a from LH.mp w];exact bX.mpr ea
theorem fk (j:Nat){x:Str}{p1:Pos}{b:Expr}{pos:Pos}{a:Addr}{r:Rep α}{xs:List α}{i:Int}{y:α}(hb:EV X b Γ af i Γ)(hΓ:Γ[j]?=some (.ob (bM a r xs)))(h:bV xs i=some y)(hN:X.N[j]?=some x:=by rfl)(hv:autoParam (cG X.env.scope x) RE)
 (hs:dU b:=by exact λ_ _=>rfl) (hd:Rh x:=by decide) (Q4:RG x:=by decide):EV X (.Subscript (.Name x p1) b pos) Γ r y Γ:=by
 intro σ H0 R0 H R E Q q
 obtain⟨ea,⟨vs,ha,pp⟩,hR⟩:=fq (E.ent j _ hΓ)
 refine eS (gW gU (bp hN hv hd Q4) aJ hs) ⟨.ref a,at_of ea,hb σ H0 R0 H R E _ λu H2 R2 E2 s2 e2=>?_⟩
 obtain⟨Ry,⟨Ru,R8,RP⟩,RF⟩:=fq (E2.ent j _ hΓ)
 obtain⟨w,e3,e4⟩:=gD RP h
 exact⟨a,Ru,i,w,rfl,e2,aT.of R8,e3,q w H2 R2 E2 s2 e4⟩
theorem fT (i:Nat){x:Str}{b e:Expr}{p1 p2 pos:Pos}{a:Addr}{r:Rep α}{xs:List α}{y:α}{k:Int}{j:Nat}(he:EV X e Γ r y Γ1)(hb:EV X b Γ1 af k Γ2)(hΓ1:Γ1[i]?=some (.ob (bM a r xs)))(hΓ2:Γ2[i]?=some (.ob (bM a r xs)))(hj:eD xs.length k=some j)(h:N (Γ2.set i (.ob (bM a r (xs.set j y)))))
 (hN:X.N[i]?=some x:=by rfl) (hv:autoParam (cG X.env.scope x) RE)
 (hd:Rh x:=by decide) (Q4:RG x:=by decide)
 (ha:∀v,OL (.Subscript (.Name x p1) b p2) X.env v=(do
  let ov ← OF [v] (eval (.Name x p1) X.env)
  let iv ← OF [v,ov] (eval b X.env)
  O4 p2
  OF [v,ov,iv] (setItem ov iv v)
  release [v,ov,iv] []):=by intro _;rfl)
 (hs:O7 [.Subscript (.Name x p1) b p2] e pos.line X.env=pure false:=by rfl) (hw:O8 [.Subscript (.Name x p1) b p2] e X.env=pure none:=by rfl) (h1:(OK [.Subscript (.Name x p1) b p2] X.env).map (·.2)=[OL (.Subscript (.Name x p1) b p2) X.env]:=by rfl):
 W1 X (.Assign [.Subscript (.Name x p1) b p2] e pos) Γ N T:=λσ H0 R0 H R E D dn dr=>by
 refine sS (tH aJ (yb (bp hN hv hd Q4) aJ set_list ha) hs hw h1) (he σ H0 R0 H R E _ λv H1 R1 E1 s1 e1=>?_)
 obtain⟨ea,⟨vs,hp,pp⟩,hR⟩:=fq (E1.ent i _ hΓ1)
 refine⟨.ref a,at_of ea,hb σ H0 R0 H1 R1 E1 _ λu H2 R2 E2 s2 e2=>?_⟩
 obtain⟨Ry,⟨Ru,R8,RP⟩,RF⟩:=fq (E2.ent i _ hΓ2)
 refine⟨a,Ru,k,j,rfl,e2,R8,by rw[RP.length];exact hj,?_⟩
 exact dn σ _ R2 _ (E2.mK (en:=.ob (bM a r (xs.set j y))) hΓ2 (LH.mpr rfl) (by rw[Ry];exact l7 aB RF (kD (r.mono s2 e1) j RP)) λb w=>.inl w) (s1.trans s2) h
def del (H:Hp)(a:Addr):Hp:=λb=>if b=a then none else H b
theorem qL {H:Hp}{a:Addr}:del H a a=none:=if_pos rfl
theorem lM {H:Hp}{a b:Addr}(h:b≠a):del H a b=H b:=if_neg h
theorem Dq {H:Hp}{a:Addr}:ar (del H a) H:=λb o q=>by
 by_cases h:b=a
 ·subst h;rw[qL] at q;cases q
 ·rwa [lM h] at q
theorem au.A6 {K:QA}{σ:St}{H0 R0 H R H' R':Hp}(E:au K σ H0 R0 H R Γ){a:Addr}(off:Off a σ Γ)(h0:H0 a=none)(x:Ext (del H a) R H' R'):au K σ H0 R0 H' R' Γ:=by
 have ne:∀{b:Addr},H0 b≠none->b≠a:=λh e=>h (e▸h0)
 refine⟨⟨λb o q=>?_,E.ext.r.trans x.r,x.s,λb hb=>?_⟩,λi e q=>?_,E.nw,E.ds,E.len⟩
 ·exact x.h b o (by rw[lM (ne (by rw[q];exact NR _))];exact E.ext.h b o q)
 ·refine(x.old b ?_).trans (E.ext.old b hb)
  rw[lM (ne hb)];exact ar.some E.ext.h hb
 ·have h1:=E.ent i e q
  have na:∀b∈e.fp (σ[i]?).join,b≠a:=λb hb z=>off i e q (z▸hb)
  refine h1.loc (λb hb=>?_) x.r λb hb=>?_
  ·cases e2:H b with
   | none=>exact absurd e2 (Ent.gq h1 hb).1
   | some u=>exact x.h b u (by rw[lM (na b hb)];exact e2)
  ·exact(x.old b (by rw[lM (na b hb)];exact(Ent.gq h1 hb).1)).trans (Ent.gq h1 hb).2
theorem au.nk {K:QA}{σ:St}{H0 R0 H R:Hp}(E:au K σ H0 R0 H R Γ){i:Nat}{e0 en:Ent}(hi:Γ[i]?=some e0)(ho:en.ok K H R (σ[i]?).join)(Rx:∀b∈en.fp (σ[i]?).join,H0 b=none/\∀(j:Nat) (e:Ent),j≠i->Γ[j]?=some e->b∉e.fp (σ[j]?).join):au K σ H0 R0 H R (Γ.set i en):=by
 refine⟨E.ext,λj e q=>?_,λj e b q w=>?_,λj k e e' b q q' w w'=>?_,by rw[Ml];exact E.len⟩
 ·rcases set_at q with⟨rfl,rfl,_⟩ | ⟨hj,q1⟩
  ·exact ho
  ·exact E.ent j e q1
 ·rcases set_at q with⟨rfl,rfl,_⟩ | ⟨hj,q1⟩
  ·exact(Rx b w).1
  ·exact E.nw j e b q1 w
 ·rcases set_at q with⟨rfl,rfl,_⟩ | ⟨hj,q1⟩
  ·rcases set_at q' with⟨rfl,rfl,_⟩ | ⟨hk,Ss⟩
   ·rfl
   ·exact absurd w' ((Rx b w).2 k e' hk Ss)
  ·rcases set_at q' with⟨rfl,rfl,_⟩ | ⟨hk,Ss⟩
   ·exact absurd w ((Rx b w').2 j e hj q1)
   ·exact E.ds _ _ _ _ b q1 Ss w w'
abbrev jO (α:Type):=QA->List α->List Pk->(List α->RT)->Prop
def eE (r:Rep α)(S:jO α)(K:QA):Sp:=λvs H Q _=>∃R a ws xs Ru ps T,vs= .ref a::Ru/\ar R H/\R a=none/\H a=some (.lst ws)/\PySem.Paired (r.R K R) ws xs/\je K R Ru ps/\S K xs ps T/\
 ∀v H' R' SJ xs',Ext (del H a) R H' R'->H' a=some (.lst SJ)->R' a=none->PySem.Paired (r.R K R') SJ xs'->T xs' (del H a) v H' R'->Q v H'
theorem wQ {r:Rep α}{S:jO α}{x y:Str}{k:Nat}{es:Lm}{p p1 pos:Pos}{ps:List Pk}{xs:List α}{TM:List α->RT}{Q:VK}{σ:St}{H0 R0 H R:Hp}(i:Nat)(C:aI X.prog X.w X.K X.mg X.base x k (eE r S X.K))(hr:bI k X.A)(ha:HA X es Γ ps Γ1)(hΓ:Γ[i]?=some (.mu r xs))(hΓ1:Γ1[i]?=some (.mu r xs))(hS:S X.K xs ps TM)(E:au X.K σ H0 R0 H R Γ)
 (q:∀H1 v H' R' xs',au X.K σ H0 R0 H' R' (Γ1.set i (.mu r xs'))->ar R R'->TM xs' H1 v H' R'->Q v H')
 (hg:Gl X x) (RN:(x==("__debug__":Str))=false) (he:N8 (.Name y p1::es) X.env=(false,eval (.Name y p1) X.env)::N8 es X.env) (Rj:(Oe pos (N8 es X.env)).any (·.1)=false)
 (hN:X.N[i]?=some y) (hv:cG X.env.scope y) (hd:(y==("__debug__":Str))=false) (Q4:(y==("__classdict__":Str))=false):eQ X (.Call (.Name x p) (.Name y p1::es) [] pos) σ H Q:=by
 obtain⟨f,fd,pn,F,hm,hk,hb⟩:=C.ex
 obtain⟨a,vs,ea,_,_,_⟩:=E.ent i _ hΓ
 refine eS (oF F hr hg hm hk hb .nil qg (aV (bp hN hv hd Q4) jS he) RN he Rj) ⟨.ref a,at_of ea,ha σ H0 R0 H R E _ λus H1 R1 E1 s1 p1=>?_⟩
 obtain⟨a',ws,Ry,hp,hR,pp⟩:=E1.ent i _ hΓ1
 rw[ea] at Ry;cases Ry
 have h0:H0 a=none:=E1.new i _ a hΓ1 rfl ea
 refine⟨R1,a,ws,xs,us,ps,TM,by rw[Mh],E1.sub,hR,hp,pp,p1,hS,λv H' R' SJ xs' xx h1 h2 pq t=>q _ v H' R' xs' ?_ (s1.trans xx.r) t⟩
 have apart:∀(j:Nat) (e:Ent),j≠i->Γ1[j]?=some e->a∉e.fp (σ[j]?).join:=λj e hj qj w=>hj (E1.ds j i e _ a qj hΓ1 w (bX.mpr ea))
 have E2:au X.K σ H0 R0 H1 R1 (Γ1.set i .no):=E1.tell hΓ1 trivial λb w=>by cases w
 have E3:=E2.A6 (a:=a) (λj e qj w=>by
  rcases set_at qj with⟨rfl,rfl,_⟩ | ⟨hj,q1⟩
  ·cases w
  ·exact apart j e hj q1 w) h0 xx
 have hl:i < Γ1.length:=(LC.mp hΓ1).1
 have E4:=E3.nk (i:=i) (e0:=.no) (en:=.mu r xs') (LZ hl) (by rw[ea];exact⟨a,SJ,rfl,h1,h2,pq⟩) λb w=>by
  have eb:b=a:=by rw[bX.mp w] at ea;cases ea;rfl
  subst eb
  exact⟨h0,λj e hj qj=>apart j e hj (by rwa [Mf (NN hj)] at qj)⟩
 rw[Nc] at E4
 exact E4
theorem gQ (i:Nat){r:Rep α}{S:jO α}{x y:Str}{k:Nat}{es:Lm}{p p1 pos:Pos}{ps:List Pk}{xs st:List α}{rr:Rep β}{z:β}(C:aI X.prog X.w X.K X.mg X.base x k (eE r S X.K))(hr:bI k X.A)(ha:HA X es Γ ps Γ1)(hΓ:Γ[i]?=some (.mu r xs))(hΓ1:Γ1[i]?=some (.mu r xs))(hS:S X.K xs ps (λxs'=>cg X.K rr λw=>xs'=st/\w=z))
 (hg:Gl X x:=by rfl) (RN:Rh x:=by decide) (he:N8 (.Name y p1::es) X.env=(false,eval (.Name y p1) X.env)::N8 es X.env:=by rfl) (Rj:(Oe pos (N8 es X.env)).any (·.1)=false:=by rfl)
 (hN:X.N[i]?=some y:=by rfl) (hv:autoParam (cG X.env.scope y) RE) (hd:Rh y:=by decide) (Q4:RG y:=by decide):
 EV X (.Call (.Name x p) (.Name y p1::es) [] pos) Γ rr z (Γ1.set i (.mu r st)):=λσ H0 R0 H R E Q q=>
 wQ i C hr ha hΓ hΓ1 hS E (λH1 v H' R' xs' E' s' t=>by
  obtain⟨w,e1,rfl,rfl⟩:=t
  exact q v H' R' E' s' e1) hg RN he Rj hN hv hd Q4
theorem d6 (i:Nat){r:Rep α}{S:jO α}{x y:Str}{k:Nat}{a:Addr}{es:Lm}{p p1 pos:Pos}{ps:List Pk}{xs st:List α}{rr:Rep β}{z:β}(C:aI X.prog X.w X.K X.mg X.base x k (eE r S X.K))(hr:bI k X.A)(ha:HA X es (Γ.set i (.mu r xs)) ps (Γ.set i (.mu r xs)))(hΓ:Γ[i]?=some (.ob (bM a r xs)))(hS:S X.K xs ps (λxs'=>cg X.K rr λw=>xs'=st/\w=z))
 (hg:Gl X x:=by rfl) (RN:Rh x:=by decide) (he:N8 (.Name y p1::es) X.env=(false,eval (.Name y p1) X.env)::N8 es X.env:=by rfl) (Rj:(Oe pos (N8 es X.env)).any (·.1)=false:=by rfl)
 (hN:X.N[i]?=some y:=by rfl) (hv:autoParam (cG X.env.scope y) RE) (hd:Rh y:=by decide) (Q4:RG y:=by decide):
 EV X (.Call (.Name x p) (.Name y p1::es) [] pos) Γ rr z (Γ.set i (.ob (bM a r st))):=by
 have hl:i < Γ.length:=(LC.mp hΓ).1
 have h:=EV.box i (xs':=st) (gQ (p:=p) i C hr ha (LZ hl) (LZ hl) hS hg RN he Rj hN hv hd Q4) hΓ (by rw[Nc];exact LZ hl)
 rwa [Nc,Nc] at h
def wY (K:QA)(a:Addr)(r:Rep α)(T:List α->RT):RT:=λH0 v H' R'=>∃SJ xs',H' a=some (.lst SJ)/\R' a=none/\PySem.Paired (r.R K R') SJ xs'/\T xs' H0 v H' R'
theorem hX (i:Nat){e:Expr}{pos:Pos}{a:Addr}{r:Rep α}{xs:List α}{rr:Rep β}{y:β}{P:List α->β->Prop}(he:EV X e Γ rr y Γ1)(hΓ1:Γ1[i]?=some (.ob (bM a r xs)))(h:P xs y):W1 X (.Return (some e) pos) Γ N (wY X.K a r λxs'=>cg X.K rr (P xs')):=λσ H0 R0 H R E D dn dr=>
 sS (ic aJ) (he σ H0 R0 H R E _ λv H1 R1 E1 s1 e1=>by
  obtain⟨ea,⟨vs,ha,pp⟩,hR⟩:=fq (E1.ent i _ hΓ1)
  exact dr v H1 R1 E1.ext ⟨vs,xs,ha,hR,pp,y,e1,h⟩)
theorem nU {K:QA}{R H:Hp}{a:Addr}{r:Rep α}{ws:List V}{xs:List α}{vs:List V}{ps:List Pk}{N:Li}(s:ar R H)(hR:R a=none)(ha:H a=some (.lst ws))(pp:PySem.Paired (r.R K R) ws xs)(p:je K R vs ps)(hl:ps.length + 1<=N.length):
 au K (L2.start N (.ref a::vs)) (del H a) R H R (.ob (bM a r xs)::eY ps (N.length - 1)):=by
 obtain⟨n0,N',rfl⟩:∃n0 N',N=n0::N':=by cases N with
  | nil=>exact absurd hl (by simp)
  | cons n N'=>exact⟨n,N',rfl⟩
 have Sz:ps.length<=N'.length:=by simpa using hl
 have E0:=g8 (N:=N') s p Sz
 have es:L2.start (n0::N') (.ref a::vs)=some (.ref a)::L2.start N' vs:=by unfold L2.start;simp
 rw[es]
 have Rl:∀(i:Nat) (e:Ent) (o:Option V),(eY ps N'.length)[i]?=some e->e.fp o=[]:=λi e o q=>by
  unfold eY at q
  rcases LW.mp (LO q) with z | z
  ·obtain⟨p,_,rfl⟩:=LY.mp z;rfl
  ·obtain⟨_,rfl⟩:=M9.mp z;rfl
 refine⟨⟨Dq,ar.refl _,s,λ_ _=>rfl⟩,λi e q=>?_,λi e b q w=>?_,λi j e e' b q q' w w'=>?_,?_⟩
 ·cases i with
  | zero=>simp at q;subst q;exact l7 ha hR pp
  | succ i=>simp at q;simpa using E0.ent i e q
 ·cases i with
  | zero=>simp at q;subst q;rw[show b=a from LH.mp w];exact qL
  | succ i=>simp at q;rw[Rl i e _ q] at w;cases w
 ·cases i with
  | succ i=>simp at q;rw[Rl i e _ q] at w;cases w
  | zero=>
    cases j with
    | zero=>rfl
    | succ j=>simp at q';rw[Rl j e' _ q'] at w';cases w'
 ·have:=E0.len
  simp[this]
variable {P:Ob}{w:World}{K:QA}{mg:Lf}{base:Heap}
theorem nN {r:Rep α}{S:jO α}{x qual:Str}{st:Stmt}{f:Addr}{fd:Og}{N ps:Li}{k:Nat}(F:bD K x qual st f fd)(Sc:aH N ps (ai st))(hm:mg x=some (.ref f))(hb:Binds K fd ps [])(len:∀xs qs T,S K xs qs T->qs.length + 1=ps.length)
 (Ro:∀(Q2:Value) (A:Od) (outer:List Env) (s:N5) (H:Hp) (E:XK) (a:Addr) (xs:List α) (qs:List Pk) (T:List α->RT),bI k (A.deeper (NY qual (ai st) s.heap.objs.size f Q2))->S K xs qs T->
  WS (fA ee P w K mg base N qual (ai st) f Q2 A outer s H E).js (bS st) (.ob (bM a r xs)::eY qs (N.length - 1)) (λ_=>False) (wY K a r T)):aI P w K mg base x (k + 1) (eE r S K):=by
 refine⟨f,fd,ps,?_,hm,F.kp,hb⟩
 refine F.ok Sc (λvs H Q E h=>?_) (λQ2 A outer s H vs Q E hr h=>?_)
 ·obtain⟨R,a,ws,xs,Ru,qs,T,rfl,_,_,_,_,p,hS,_⟩:=h
  rw[LR,p.length];exact len xs qs T hS
 ·obtain⟨R,a,ws,xs,Ru,qs,T,rfl,sR,hR,ha,pp,p,hS,q⟩:=h
  have hl:qs.length + 1<=N.length:=by
   rw[len xs qs T hS]
   have:=congrArg List.length Sc.pre
   rw[L0] at this
   omega
  refine⟨_,jd,Ro Q2 A outer s H E a xs qs T hr hS (L2.start N (.ref a::Ru)) (del H a) R H R (nU sR hR ha pp p hl) {nx:=λ_ H'=>Q .Rf H',rt:=Q} (λ_ _ _ _ _ _ f=>f.elim) λv H' R' xx t=>?_⟩
  obtain⟨SJ,xs',h1,h2,h3,h4⟩:=t
  exact q v H' R' SJ xs' xx h1 h2 h3 h4
end
section
variable {α:Type}
def cj (k:Nat)(y:α)(xs:List α):List α:=xs.take k++y::xs.drop k
theorem tq {k:Nat}{y:α}{xs:List α}:(cj k y xs).length=xs.length + 1:=by
 unfold cj;rw[LL,LR,L0,MI];omega
theorem yf {β:Type}(f:α->β){k:Nat}{y:α}{xs:List α}:(cj k y xs).map f=cj k (f y) (xs.map f):=by
 unfold cj;rw[L5,Me,List.map_take,Nj]
end
section
variable {X:Cx}{Γ Γ1 Γ2 Γ3:Ga}{α β γ δ:Type}{N:Ga->Prop}{T:RT}
def Cw:V->List V->Hp->VK->Prop:=λx vs H Q=>∃l xs i y,x= .ref l/\vs=[.int i,y]/\H l=some (.lst xs)/\0<=i/\i<=(xs.length:Int)/\xs.length < N7/\Q .Rf (upd H l (.lst (cj i.toNat y xs)))
theorem wX:Bp X "list.insert" Cw:=by
 intro QW s σ H x vs v us Q I rx rv h
 obtain⟨l,xs,i,y,rfl,rfl,hH,h0,h1,hz,q⟩:=h
 cases rx
 obtain⟨u1,u2,rfl,⟨t,rfl⟩,r2⟩:=vals2 rv
 obtain⟨z,QX,n,r,hl,e⟩:=I.ka hH
 have hfit:Builtin.List.listFitsIndex i=true:=fitsIndex_both (by omega) (by
  have:N7 < 2 ^ 63:=by decide
  omega)
 refine ON PySem.F.slot_list_insert ⟨_,e,rfl⟩ PySem.F.entry_list_insert (PySem.F.args_list_insert_3 _ _ _) (PySem.AutoSeq1.list_insert_list_int_val_1 l _ n i t u2 (by simp[hfit]) (by rw[LQ];omega)) ⟨e,?_⟩
 refine⟨.Rf,_,I.vN (its':=cj i.toNat u2 QX) hH e ?_ ?_ ?_,rfl,q⟩
 ·have hk:(if i < 0 then(i + ((QX.toArray.size:Nat):Int)).toNat else min i.toNat QX.toArray.size)=i.toNat:=by
   rw[if_neg (by omega),LQ];omega
  dsimp only
  rw[hk]
  unfold cj
  apply Array.ext'
  simp
  exact MC (by rw[MI];exact Nm _)
 ·unfold cj;exact(r.take _).append (.cons r2 (r.drop _))
 ·rw[tq];omega
def oq:Rep Addr:=⟨λ_ _ v a=>v= .ref a,λ_ h=>h⟩
def qp:Ent->Ent
 | .im r x=>.im r x
 | _=>.no
theorem au.So {K:QA}{σ:St}{H0 R0 H R:Hp}(E:au K σ H0 R0 H R Γ):au K σ H H H H (Γ.map qp):=by
 have Rl:∀(i:Nat) (e:Ent) (o:Option V),(Γ.map qp)[i]?=some e->e.fp o=[]:=λi e o q=>by
  rw[LM] at q
  cases h:Γ[i]? with
  | none=>rw[h] at q;cases q
  | some e'=>rw[h] at q;cases q;cases e'<;>rfl
 refine⟨Ext.refl (ar.refl _),λi e q=>?_,λi e a q w=>absurd w (by rw[Rl i e _ q];exact Md),λi j e e' a q _ w=>absurd w (by rw[Rl i e _ q];exact Md),by rw[LJ];exact E.len⟩
 rw[LM] at q
 cases h:Γ[i]? with
 | none=>rw[h] at q;cases q
 | some e'=>
   rw[h] at q;cases q
   have:=E.ent i e' h
   cases e' with
   | im r x=>obtain⟨v,e,hr⟩:=this;exact⟨v,e,r.mono E.sub hr⟩
   | no=>trivial
   | mu r x=>trivial
   | di x=>trivial
   | ob x=>trivial
end
variable {P:Ob}{w:World}{K:QA}{mg:Lf}{base:Heap}
theorem G0 {S:cQ}{x qual:Str}{st:Stmt}{f:Addr}{fd:Og}{N ps:Li}{k:Nat}(F:bD K x qual st f fd)(Sc:aH N ps (ai st))(len:∀qs T,S K qs T->qs.length=ps.length)
 (Ro:∀(Q2:Value) (A:Od) (outer:List Env) (s:N5) (H:Hp) (E:XK) (qs:List Pk) (T:RT),bI k (A.deeper (NY qual (ai st) s.heap.objs.size f Q2))->S K qs T->
  WS (fA ee P w K mg base N qual (ai st) f Q2 A outer s H E).js (bS st) (eY qs N.length) (λ_=>False) T):dz P w K mg base ee (k + 1) f fd ps (aK S K):=by
 refine F.ok Sc (λvs H Q E h=>?_) (λQ2 A outer s H vs Q E hr h=>?_)
 ·obtain⟨R,qs,T,_,p,hS,_⟩:=h
  rw[p.length];exact len qs T hS
 ·obtain⟨R,qs,T,sR,p,hS,q⟩:=h
  have hl:qs.length<=N.length:=by
   rw[len qs T hS]
   have:=congrArg List.length Sc.pre
   rw[L0] at this
   omega
  exact⟨_,jd,Ro Q2 A outer s H E qs T hr hS (L2.start N vs) H R H R (g8 sR p hl) {nx:=λ_ H'=>Q .Rf H',rt:=Q} (λ_ _ _ _ _ _ f=>f.elim) λv H' R' xx t=>q v H' R' xx t⟩
def Def (K:QA)(mg:Lf)(x:Str)(st:Stmt)(ps:Li):Prop:=∃f fd,bD K x x st f fd/\mg x=some (.ref f)/\Binds K fd ps []
theorem a7 {h:Heap}{x:Str}{st:Stmt}{ps:Li}{f:Addr}{oc:Value}{od an:Option Addr}{S3:Array Lj}{kV doc pm Q2 ct:Value}(KX:K.In h)(G:h.Ns N9 mg)
 (a:QB K N9 x=some (some (.ref f))) (l:K.lookup f=some ⟨oc,od,.func (QI x x (eL st) (bS st) (ai st) .none kV doc pm an Q2 ct),S3⟩) (c:QK K Q2 x=true) (k:QG K (.ref f)=true)
 (b:∀(kV doc pm:Value) (an:Option Addr) (Q2 ct:Value) (us:Ll),us.length=ps.length->bindArgs (QI x x (eL st) (bS st) (ai st) .none kV doc pm an Q2 ct) ⟨us,[]⟩=pure (ps.zip us)):Def K mg x st ps:=
 ⟨f,_,iQ l c k,QD KX G a,(iQ l c k).binds b⟩
open PySem.Builtin.Int (intBits)
theorem tR {ns:Lh}(h:PySem.W.WData.layableAll [.list (ns.map .int)]=true):∀n∈ns,intBits n<=2 ^ 20:=λn hn=>by
 have h1:=PySem.W.layableW_arg h _ (LH.mpr rfl)
 have h2:=PySem.W.layableW_item h1 (.int n) (LY.mpr ⟨n,hn,rfl⟩)
 exact PySem.PyData.bits_of_layable h2
end Fc
namespace Att
open PySem PySem.W PySem.Calls PyProof.Rows
open PySem.Builtin.Int (intBits)
theorem qW {l:OpenLaw}{n:Nat}{q:Ob}{loose:Li}{XP:(Lf)->Heap->Prop}{YP:World->Heap->Prop}{d:DefRec}
 (hn:l.most=some n) (VZ:d.params.defaults=[])
 (call:∀(w:World) (s₀ s₁:N5) (mg mb:Lf) (fa:Addr) (o:Obj) (pm cd doc:Value) (a:Addr) (vs:Ll) (ns:Lh),
  Ground q loose [] XP w s₀ mg mb s₁.heap->YP w s₁.heap->
  s₁.heap.get? fa=some o->o.data= .func (docDef d.name d.params d.body d.scope pm cd doc)->s₁.heap.CodeRec cd d.name->mg d.name=some (.ref fa)->
  s₁.heap.get? a=some {cls:=.type "list",data:=.seq vs.toArray}->IntsAre vs ns->ns.length<=n->(∀m∈ns,intBits m<=2 ^ 20)->s₁.gens= #[]->
  O5 (model l.prog w) Pb (.call (.ref fa) ⟨[.ref a],[]⟩) (λr s'=>r= .ok (.ret (.bool true))/\OldK s₁.heap s'.heap/\s'.os=s₁.os/\N2 s'.gens) s₁):
 WalkO q loose XP YP l.row.toRowW d [] (λf vs=>PySem.call f vs):=by
 intro w s₀ s₁ mg mb G Y fa o pm cd doc dV kV ho hd Q4 hD VM hg args vals as T1 hlay hrd hwl T2
 obtain rfl:dV= .none:=Dflts.none hD VZ
 obtain rfl:kV= .none:=Dflts.noKw hD
 obtain⟨a,vs,ns,rfl,rfl,US,hints,hlen⟩:=yS hn T1 hwl
 refine enter_call (Pe (call w s₀ s₁ mg mb fa o pm cd doc a vs ns G Y ho (fd_plain hd) Q4 VM US hints hlen (Fc.tR hlay) hg) λr s' hq=>?_)
 obtain⟨rfl,h2,h3,h4⟩:=hq
 exact⟨.inl ⟨.bool true,.bool true,[],rfl,λ_=>rfl,.bool true,yr l _,λ_=>⟨List.Pairwise.nil,λ_ hm=>(nomatch hm)⟩⟩,h2,h3,h4⟩
end Att
namespace L2
open PySem PySem.Spec PyProof.Rows
open PySem.Builtin.Int (intBits)
theorem Al {l:QR}{n k:Nat}{q:Ob}{loose:Li}{XP:(Lf)->Heap->Prop}{YP:World->Heap->Prop}{d:DefRec}{K:Params->QA}{CX:World->kN}{sp:World->Sp}{x:Str}
 (hn:l.most=some n) (hn2:n<=N7) (VZ:d.params.defaults=[]) (hr:bI k Pb)
 (hY:∀(w:World) (h:Heap),YP w h->(K w.params).In h)
 (F:∀(w:World) (mg:Lf) (fa:Addr) (h:Heap),(K w.params).In h->h.Ns N9 mg->mg d.name=some (.ref fa)->
  ∃fd:Og,(∀(s:N5) (u:Value),Po s fd ⟨[u],[]⟩ [(x,u)])/\
   ∀base:Heap,(K w.params).In base->base.Ns N9 mg->dz l.prog w (K w.params) mg base (CX w) k fa fd [x] (sp w))
 (Tb:∀(w:World) (H:Hp) (a:Addr) (ns:Lh),ns.length<=n->(∀m∈ns,intBits m<=2 ^ 20)->Ac H->aT (K w.params) H a (ns.map V.int)->sp w [.ref a] H (λv _=>v= .bl true) λ_ _ _=>False)
 (hCX:∀(w:World) (H:Hp) (s:N5) (e:Value) (s':N5),CX w [] H s (λ_ _ _=>False) e s'->False):
 PySem.W.WalkO q loose XP YP l.row.toRowW d [] (λf vs=>PySem.call f vs):=by
 refine Att.qW hn VZ λw s₀ s₁ mg mb fa o pm cd doc a vs ns G Y ho hd Q4 VM US hints hlen SE hg=>?_
 have KX:=hY w _ Y
 obtain⟨fd,hb,hF⟩:=F w mg fa _ KX G.T.g VM
 exact Ai KX G.T.g G.T.b G.T.builtins G.T.nolimit hg US hints (Nn hlen hn2) hr hF hb (λH hO hS=>Tb w H a ns hlen SE hO hS) λH e s'=>hCX w H s₁ e s'
end L2
namespace Fc
open PySem PySem.Spec PySem.W PySem.Calls L2
open PyProof.Rows hiding St
section
variable {X:Cx}{Γ Γ1:Ga}
end
section
variable {P:Ob}{w:World}{K:QA}{mg:Lf}{base:Heap}
end
section
variable {X:Cx}{QW:Lg}{σ:St}{H:Hp}{s:N5}{e:Addr}{o:Obj}
end
end Fc
namespace Fc
open PySem PySem.Spec PySem.W PySem.Calls L2
open PyProof.Rows hiding St
open PySem PySem.Spec PySem.W PySem.Calls PySem.Builtin.ObjectAttr PySem.Builtin.Getset_descriptor L2
section
variable {K:Frag}{D x:Addr}{prog:Ob}{w:World}{A:Od}{E:Value->N5->Prop}{s:N5}
end
section
variable {X:Cx}{Γ Γ1:Ga}{ea D:Addr}{oe:Obj}
end
end Fc
namespace Fc
open PySem PySem.Spec PySem.W PySem.Calls L2
open PyProof.Rows hiding St
section
variable {X:Cx}{Γ Γ1:Ga}{H0 R0:Hp}
end
section
variable {P:Ob}{w:World}{K:QA}{mg:Lf}{base:Heap}{N:Li}{qual:Str}{scope:Scope}{f:Addr}{cd:Value}{A:Od}{outer:List Env}{s:N5}{H R:Hp}{E:XK}{Γ Γ1:Ga}
end
section
variable {X:Cx}{Γ Γ1:Ga}{ea D:Addr}{oe:Obj}{QW:Lg}{σ:St}{H:Hp}{s:N5}
end
def ah:Rep Str:=⟨λ_ _ v x=>v= .str x,λ_ h=>h⟩
theorem aA {X:Cx}{Γ:Ga}{x:Str}{j:Nat}{pos:Pos}:EV X (.Constant (.str x) j pos) Γ ah x Γ:=λ_ _ _ _ _ E _ q=>eS EW (q _ _ _ E (ar.refl _) rfl)
inductive PV
 | Rf
 | bl (b:Bool)
 | int (i:Int)
 | str (x:Str)
 | tup (xs:List PV)
 | lst (xs:List PV)
mutual
inductive dO (H:Hp):V->PV->Prop
 | Rf:dO H .Rf .Rf
 | bl (b:Bool):dO H (.bl b) (.bl b)
 | int (i:Int):dO H (.int i) (.int i)
 | str (x:Str):dO H (.str x) (.str x)
 | tup {a:Addr} {vs:List V} {xs:List PV}:H a=some (.tup vs)->dE H vs xs->dO H (.ref a) (.tup xs)
 | lst {a:Addr} {vs:List V} {xs:List PV}:H a=some (.lst vs)->dE H vs xs->xs.length<=N7->dO H (.ref a) (.lst xs)
inductive dE (H:Hp):List V->List PV->Prop
 | nil:dE H [] []
 | cons {v:V} {x:PV} {vs:List V} {xs:List PV}:dO H v x->dE H vs xs->dE H (v::vs) (x::xs)
end
mutual
theorem dO.mono {H H':Hp}(s:ar H H'):∀{v:V} {x:PV},dO H v x->dO H' v x
 | _,_,.Rf=>.Rf
 | _,_,.bl b=>.bl b
 | _,_,.int i=>.int i
 | _,_,.str x=>.str x
 | _,_,.tup h t=>.tup (s _ _ h) (dE.mono s t)
 | _,_,.lst h t z=>.lst (s _ _ h) (dE.mono s t) z
theorem dE.mono {H H':Hp}(s:ar H H'):∀{vs:List V} {xs:List PV},dE H vs xs->dE H' vs xs
 | _,_,.nil=>.nil
 | _,_,.cons h t=>.cons (dO.mono s h) (dE.mono s t)
end
theorem dE.pair {H:Hp}:∀{vs:List V} {xs:List PV},dE H vs xs->PySem.Paired (dO H) vs xs
 | _,_,.nil=>.nil
 | _,_,.cons h t=>.cons h (dE.pair t)
theorem dE.of {H:Hp}:∀{vs:List V} {xs:List PV},PySem.Paired (dO H) vs xs->dE H vs xs
 | _,_,.nil=>.nil
 | _,_,.cons h t=>.cons h (dE.of t)
def ax:Rep PV:=⟨λ_ H v x=>dO H v x,λs h=>h.mono s⟩
section
variable {X:Cx}{Γ Γ1 Γ2 Γ3:Ga}{α β γ δ:Type}{N:Ga->Prop}{T:RT}
variable {e:Expr}{pos:Pos}
theorem EV.re {r:Rep α}{r':Rep β}{x:α}{y:β}(h:EV X e Γ r x Γ1)(f:∀(K:QA) (R:Hp) (v:V),r.R K R v x->r'.R K R v y):EV X e Γ r' y Γ1:=λσ H0 R0 H R E Q q=>h σ H0 R0 H R E Q λv H' R' E' s' e'=>q v H' R' E' s' (f _ _ v e')
theorem EV.pI {n:Int}(h:EV X e Γ af n Γ1):EV X e Γ ax (.int n) Γ1:=h.re λK R v e=>by cases e;exact .int n
theorem EV.pS {x:Str}(h:EV X e Γ ah x Γ1):EV X e Γ ax (.str x) Γ1:=h.re λK R v e=>by cases e;exact .str x
theorem EV.pL {xs:List PV}(h:EV X e Γ (ae ax) xs Γ1):EV X e Γ ax (.lst xs) Γ1:=h.re λK R v ⟨a,vs,e,q,p,z⟩=>by subst e;exact .lst q (.of p) z
theorem ud {K:QA}{R:Hp}:∀{vs:List V} {xs:Lh},PySem.Paired (af.R K R) vs xs->dE R vs (xs.map PV.int)
 | _,_,.nil=>.nil
 | _,_,.cons h t=>.cons (by cases h;exact .int _) (ud t)
theorem EV.DS {xs:Lh}(h:EV X e Γ (ae af) xs Γ1):EV X e Γ ax (.lst (xs.map PV.int)) Γ1:=h.re λK R v ⟨a,vs,e,q,p,z⟩=>by subst e;exact .lst q (ud p) (by rw[LJ];exact z)
theorem EV.iP {n:Int}(h:EV X e Γ ax (.int n) Γ1):EV X e Γ af n Γ1:=h.re λK R v e=>by cases e;rfl
theorem EV.sP {x:Str}(h:EV X e Γ ax (.str x) Γ1):EV X e Γ ah x Γ1:=h.re λK R v e=>by cases e;rfl
theorem EV.lP {xs:List PV}(h:EV X e Γ ax (.lst xs) Γ1):EV X e Γ (ae ax) xs Γ1:=h.re λK R v e=>by cases e with | lst q p z=>exact⟨_,_,rfl,q,p.pair,z⟩
theorem uK {R:Hp}:∀{vs:List V} {xs:Lh},dE R vs (xs.map PV.int)->∀K:QA,PySem.Paired (af.R K R) vs xs
 | _,[],.nil,_=>.nil
 | _,_::_,.cons h t,K=>.cons (by cases h;rfl) (uK t K)
theorem EV.nG {xs:Lh}(h:EV X e Γ ax (.lst (xs.map PV.int)) Γ1):EV X e Γ (ae af) xs Γ1:=h.re λK R v e=>by
 cases e with | lst q p z=>exact⟨_,_,rfl,q,uK p K,by rw[LJ] at z;exact z⟩
theorem gT {es:Lm}{k:Nat}{xs:List PV}(h:EA X es Γ ax xs Γ1)(hz:xs.length<=N7:=by show _<=N7;decide):EV X (.Tuple es k pos) Γ ax (.tup xs) Γ1:=by
 intro σ H0 R0 H R E Q q
 refine eS (xm jS) (h σ H0 R0 H R E _ λvs H1 R1 E1 s1 p1=>⟨by rw[p1.length];exact hz,λp hp=>?_⟩)
 have x:=Ext.fresh E1.sub hp (.tup vs)
 exact q _ _ _ (E1.grow x) (s1.trans x.r) (.tup aB (.of (Paired.map (λ_ _=>ax.mono x.r) p1)))
theorem bG {a b:Expr}{xs:List PV}{i:Int}{y:PV}(ha:EV X a Γ ax (.tup xs) Γ1)(hb:EV X b Γ1 af i Γ2)(h:bV xs i=some y)(hs:dU b:=by exact λ_ _=>rfl):EV X (.Subscript a b pos) Γ ax y Γ2:=by
 intro σ H0 R0 H R E Q q
 refine eS (gW yj aJ aJ hs) (ha σ H0 R0 H R E _ λv H1 R1 E1 s1 e1=>hb σ H0 R0 H1 R1 E1 _ λu H2 R2 E2 s2 e2=>?_)
 cases ax.mono (K:=X.K) s2 e1 with
 | tup ha pp=>
   obtain⟨w,e3,e4⟩:=gD pp.pair h
   exact⟨_,_,i,w,rfl,e2,de.of (E2.sub _ _ ha),e3,q w H2 R2 E2 (s1.trans s2) e4⟩
theorem wJ {H:Hp}{vs:List V}{xs:List PV}(p:PySem.Paired (dO H) vs xs)(l h:Option Int):PySem.Paired (dO H) (jy vs l h) (cut xs l h):=by
 unfold jy cut
 rw[p.length]
 exact gY _ (jv _ p)
theorem Fe {a:Expr}{lo hi:Option Expr}{p2:Pos}{xs:List PV}{l h:Option Int}(ha:EV X a Γ ax (.tup xs) Γ)(hl:OV X lo Γ l)(hh:OV X hi Γ h)(hw:¬(HT.Rc xs.length 0 l=0/\HT.Rc xs.length xs.length h=xs.length)):EV X (.Subscript a (.Slice lo hi none p2) pos) Γ ax (.tup (cut xs l h)) Γ:=by
 intro σ H0 R0 H R E Q q
 obtain⟨tl,pl,kl⟩:=hl
 obtain⟨th,ph,kh⟩:=hh
 refine eS (kz GW aJ pl ph) (ha σ H0 R0 H R E _ λv H1 R1 E1 s1 e1=>kl σ H0 R0 H1 R1 E1 _ λH2 R2 E2 s2=>kh σ H0 R0 H2 R2 E2 _ λH3 R3 E3 s3=>?_)
 cases ax.mono (K:=X.K) (s2.trans s3) e1 with
 | @tup a' Ru _ hp pp=>
   refine⟨_,_,rfl,de.of (E3.sub _ _ hp),by rw[pp.pair.length];exact hw,λd hd=>?_⟩
   have x:=Ext.fresh E3.sub hd (.tup (jy Ru l h))
   exact q _ _ _ (E3.grow x) (s1.trans (s2.trans (s3.trans x.r))) (.tup aB (.of (Paired.map (λ_ _=>ax.mono (K:=X.K) x.r) (wJ pp.pair l h))))
mutual
def PV.deep:PV->Nat
 | .tup xs=>PV.eu xs + 1
 | .lst xs=>PV.eu xs + 1
 | _=>0
def PV.eu:List PV->Nat
 | []=>0
 | x::xs=>max (PV.deep x) (PV.eu xs)
end
theorem ja:∀{xs:List PV} {x:PV},x∈xs->x.deep<=PV.eu xs
 | y::ys,x,h=>by
   rw[PV.eu]
   rcases LV.mp h with rfl | h
   ·omega
   ·have:=ja h;omega
theorem all_true {n:Nat}:((L6 n).all λ_=>true)=true:=by simp
section
variable {QW:Lg}{σ:St}{H R:Hp}{s:N5}
theorem nt (I:Inv X QW σ H s)(sub:ar R H){xs:List PV}{A:Od}(ih:∀x∈xs,∀{v u:V} {vv uu:Value},RelV v vv->RelV u uu->dO R v x->dO R u x->Ql A s vv uu true){vs ws:List V}{us RX:Ll}(hv:Vals vs us)(hw:Vals ws RX)(p1:PySem.Paired (dO R) vs xs)(p2:PySem.Paired (dO R) ws xs):
 ∀(j:Nat) (h1:j < us.toArray.size) (h2:j < RX.toArray.size),Ql A s us.toArray[j] RX.toArray[j] true:=by
 intro j h1 h2
 have V9:j < us.length:=by simpa using h1
 have T7:j < RX.length:=by simpa using h2
 have hx:j < xs.length:=by rw[← p1.length,hv.length];exact V9
 obtain⟨v,e1,r1⟩:=cX p1 (LD hx)
 obtain⟨u,e2,r2⟩:=cX p2 (LD hx)
 obtain⟨vv,e3,r3⟩:=hv.get e1
 obtain⟨uu,e4,r4⟩:=hw.get e2
 rw[LD V9] at e3
 rw[LD T7] at e4
 simp only[List.getElem_toArray]
 rw[Option.some.inj e3,Option.some.inj e4]
 exact ih _ (Mb hx) r3 r4 r1 r2
theorem A4 (I:Inv X QW σ H s)(sub:ar R H):∀(n:Nat) {x:PV},x.deep<=n->∀{A:Od},A.units + n < cLine->∀{v u:V} {vv uu:Value},RelV v vv->RelV u uu->dO R v x->dO R u x->Ql A s vv uu true:=by
 intro n
 induction n using Nat.strongRecOn with
 | _ n ih=>
   intro x hd A hu v u vv uu rv ru h1 h2
   cases h1 with
   | Rf=>cases h2;cases rv;cases ru;exact Ql.same _
   | bl b=>cases h2;cases rv;cases ru;have:=Ql.bool_bool (A:=A) (s:=s) b b;rwa [beq_self_eq_true] at this
   | int i=>cases h2;obtain⟨t,rfl⟩:=rv;obtain⟨t',rfl⟩:=ru;exact λprog w E Q q=>Pc (by simpa using q)
   | str z=>cases h2;obtain⟨t,rfl⟩:=rv;obtain⟨t',rfl⟩:=ru;have:=Ql.str_str (A:=A) (s:=s) z t z t';rwa [beq_self_eq_true] at this
   | @tup a1 v1 xs e1 p1=>
     cases h2 with
     | @tup a2 v2 _ e2 p2=>
       cases rv;cases ru
       rw[PV.deep] at hd
       by_cases TJ:a1=a2
       ·subst TJ;exact Ql.same _
       ·have l12:v1.length=v2.length:=p1.pair.length.trans p2.pair.length.symm
        have key:=(yA (A:=A) (k:=λ_=>true) I sub e1 e2 l12 (by omega) λus RX hv hw=>nt I sub (λx hx v u vv uu rv ru q1 q2=>ih (n - 1) (by omega) (x:=x) (by have:=ja hx;omega) (A:=A.in1) (by rw[in1_units];omega) rv ru q1 q2) hv hw p1.pair p2.pair).1
        rw[all_true] at key
        exact Ql.of_refs TJ key
   | @lst a1 v1 xs e1 p1 z1=>
     cases h2 with
     | @lst a2 v2 _ e2 p2 z2=>
       cases rv;cases ru
       rw[PV.deep] at hd
       by_cases TJ:a1=a2
       ·subst TJ;exact Ql.same _
       ·obtain⟨us,hv,pl,_⟩:=I.list (aT.of (sub _ _ e1))
        obtain⟨RX,hw,RS,_⟩:=I.list (aT.of (sub _ _ e2))
        have lx:us.toArray.size=RX.toArray.size:=by rw[LQ,LQ,← hv.length,← hw.length,p1.pair.length,p2.pair.length]
        have key:=Qn.lists (A:=A) (e:=λ_=>true) pl.isList RS.isList lx (by omega) (nt I sub (λx hx v u vv uu rv ru q1 q2=>ih (n - 1) (by omega) (x:=x) (by have:=ja hx;omega) (A:=A.in1) (by rw[in1_units];omega) rv ru q1 q2) hv hw p1.pair p2.pair)
        rw[all_true] at key
        exact Ql.of_refs TJ key
theorem Az (I:Inv X QW σ H s)(sub:ar R H){x:PV}(hr:(∃xs,x= .tup xs)∨∃xs,x= .lst xs){A:Od}(hu:A.units + x.deep < cLine){v u:V}{vv uu:Value}(rv:RelV v vv)(ru:RelV u uu)(h1:dO R v x)(h2:dO R u x):Qn A s vv uu true/\Qm A s vv uu false:=by
 rcases hr with⟨xs,rfl⟩ | ⟨xs,rfl⟩
 ·cases h1 with
  | @tup a1 v1 _ e1 p1=>
    cases h2 with
    | @tup a2 v2 _ e2 p2=>
      cases rv;cases ru
      rw[PV.deep] at hu
      have l12:v1.length=v2.length:=p1.pair.length.trans p2.pair.length.symm
      have key:=yA (A:=A) (k:=λ_=>true) I sub e1 e2 l12 (by omega) λus RX hv hw=>nt I sub (λx hx v u vv uu rv ru q1 q2=>A4 I sub (PV.eu xs) (x:=x) (ja hx) (A:=A.in1) (by rw[in1_units];omega) rv ru q1 q2) hv hw p1.pair p2.pair
      rw[all_true] at key
      exact key
 ·cases h1 with
  | @lst a1 v1 _ e1 p1 z1=>
    cases h2 with
    | @lst a2 v2 _ e2 p2 z2=>
      cases rv;cases ru
      rw[PV.deep] at hu
      obtain⟨us,hv,pl,_⟩:=I.list (aT.of (sub _ _ e1))
      obtain⟨RX,hw,RS,_⟩:=I.list (aT.of (sub _ _ e2))
      have lx:us.toArray.size=RX.toArray.size:=by rw[LQ,LQ,← hv.length,← hw.length,p1.pair.length,p2.pair.length]
      have he:=nt (A:=A.in1) I sub (λx hx v u vv uu rv ru q1 q2=>A4 I sub (PV.eu xs) (x:=x) (ja hx) (A:=A.in1) (by rw[in1_units];omega) rv ru q1 q2) hv hw p1.pair p2.pair
      have k1:=Qn.lists (A:=A) (e:=λ_=>true) pl.isList RS.isList lx (by omega) he
      have k2:=Qm.lists (A:=A) (e:=λ_=>true) pl.isList RS.isList lx (by omega) he
      rw[all_true] at k1 k2
      exact⟨k1,k2⟩
end
theorem xk {x:PV}(hr:(∃xs,x= .tup xs)∨∃xs,x= .lst xs)(hu:X.A.units + x.deep < cLine):fM X .Eq ax ax x x true:=
 ⟨λv u H Q=>∃R,ar R H/\dO R v x/\dO R u x/\Q (.bl true) H,λQW s σ H a b v u Q I rx ry ⟨R,sub,h1,h2,q⟩=>(Az I sub hr hu rx ry h1 h2).1 _ _ _ _ ⟨.bl _,H,I,rfl,q⟩,λR H v u Q s h1 h2 q=>⟨R,s,h1,h2,q⟩⟩
theorem GA {x:PV}(hr:(∃xs,x= .tup xs)∨∃xs,x= .lst xs)(hu:X.A.units + x.deep < cLine):fM X .NotEq ax ax x x false:=
 ⟨λv u H Q=>∃R,ar R H/\dO R v x/\dO R u x/\Q (.bl false) H,λQW s σ H a b v u Q I rx ry ⟨R,sub,h1,h2,q⟩=>(Az I sub hr hu rx ry h1 h2).2 _ _ _ _ ⟨.bl _,H,I,rfl,q⟩,λR H v u Q s h1 h2 q=>⟨R,s,h1,h2,q⟩⟩
end
section
variable {X:Cx}{Γ Γ1 Γ2 Γ3:Ga}{α β γ δ:Type}{N:Ga->Prop}{T:RT}
theorem EV.rep {e:Expr}{r:Rep α}{x:α}{r':Rep β}{y:β}(h:EV X e Γ r x Γ1)(c:∀(R:Hp) v,r.R X.K R v x->r'.R X.K R v y):EV X e Γ r' y Γ1:=λσ H0 R0 H R E Q q=>h σ H0 R0 H R E Q λv H' R' E' s' e'=>q v H' R' E' s' (c R' v e')
end
section
variable {X:Cx}{Γ Γ1 Γ2 Γ3:Ga}{α β γ δ:Type}{N:Ga->Prop}{T:RT}
theorem paired_ints {K:QA}{R:Hp}:∀ys:Lh,PySem.Paired (af.R K R) (ys.map V.int) ys
 | []=>.nil
 | _::r=>.cons rfl (paired_ints r)
theorem p8 {a:Expr}{p1 p2 pos Sx:Pos}{n:Int}(UW:X.mg "list"=none)(hmr:X.mg "range"=none)(ha:EV X a Γ af n Γ1)(hn: -1000000<=n/\n<=1000000)(hs:N8 [a] X.env=[(false,eval a X.env)]:=by rfl)
 (RA:N8 [.Call (.Name "range" p2) [a] [] Sx] X.env=[(false,eval (.Call (.Name "range" p2) [a] [] Sx) X.env)]:=by rfl) (hc:X.calm=true:=by rfl) (hg:Gl X "list":=by rfl) (hgr:Gl X "range":=by rfl):aW X (.Call (.Name "list" p1) [.Call (.Name "range" p2) [a] [] Sx] [] pos) Γ af (ups 0 n.toNat) Γ1:=by
 intro σ H0 R0 H R E Q q
 refine eS (f6 (kQ hc) hg UW NZ (aV (f6 oQ hgr hmr N3 (aV aJ bE hs) (by decide) (by decide) hs) bE RA) (by decide) (by decide) RA) (ha σ H0 R0 H R E _ λv H1 R1 E1 s1 e1=>⟨n,by rw[show v=V.int n from e1],λp hp=>?_⟩)
 refine⟨p,0,n,rfl,aB,by decide,by decide,hn.1,hn.2,λd hd=>?_⟩
 have E2:=E1.grow (Ext.dP E1.sub hp (.Tu 0 n))
 rw[Int.sub_zero]
 exact q d _ _ R1 (E2.grow (Ext.dP E2.sub hd _)) s1 aB (E2.sub.free hd) (E2.ext.h.free hd) (E2.off hd) (paired_ints _) (by rw[a8];exact Nn (show n.toNat<=1000000 by omega) (by decide))
end
section
variable {X:Cx}{Γ Γ1 Γ2 Γ3:Ga}{α β γ δ:Type}{N:Ga->Prop}{T:RT}
variable {pos:Pos}{F:Ln}{x:Str}
def cI (F:Ln):List (Int×V):=F.map λp=>(p.1,.int p.2)
def bB (F:Ln)(k:Int):Option Int:=(F.find? λp=>decide (p.1=k)).map (·.2)
def kI (F:Ln)(k v:Int):Ln:=if(bB F k).isSome then F.map (λp=>if p.1=k then(p.1,v) else p) else F++[(k,v)]
theorem j5:∀(F:Ln) (k:Int),cN (cf (cI F)) (Sum.inl k:Key)=(bB F k).map V.int
 | [],_=>rfl
 | p::r,k=>by
   have ih:=j5 r k
   by_cases e:p.1=k
   ·have e':(Sum.inl p.1:Key)=Sum.inl k:=by rw[e]
    have h1:cN (cf (cI (p::r))) (Sum.inl k:Key)=some (.int p.2):=c5 (p:=((Sum.inl p.1:Key),V.int p.2)) e'
    rw[h1]
    unfold bB
    rw[Mz,decide_eq_true e];rfl
   ·have e':¬(Sum.inl p.1:Key)=Sum.inl k:=λz=>e (Sum.inl.inj z)
    have h1:cN (cf (cI (p::r))) (Sum.inl k:Key)=cN (cf (cI r)) (Sum.inl k:Key):=cT (p:=((Sum.inl p.1:Key),V.int p.2)) e'
    rw[h1,ih]
    unfold bB
    rw[Mz,decide_eq_false e]
theorem qE (F:Ln)(k v:Int):putK (cf (cI F)) (Sum.inl k:Key) (.int v)=cf (cI (kI F k v)):=by
 unfold putK kI
 rw[fQ,j5]
 have e:((bB F k).map V.int).isSome=(bB F k).isSome:=by cases bB F k<;>rfl
 rw[e]
 split
 ·unfold cf cI
  simp only[ML]
  apply MZ
  intro p _
  simp only[Function.comp]
  by_cases h:p.1=k
  ·rw[if_pos (by rw[h]),if_pos h]
  ·rw[if_neg (λz=>h (Sum.inl.inj z)),if_neg h]
 ·unfold cf cI
  rw[L5,L5];rfl
def g9:Rep Ln:=⟨λ_ H v F=>∃a,v= .ref a/\H a=some (.dK (cf (cI F))),λs ⟨a,e,q⟩=>⟨a,e,s _ _ q⟩⟩
theorem i8 {a b:Expr}{k y:Int}(hu:X.A.units + 1 < cLine)(ha:EV X a Γ g9 F Γ1)(hb:EV X b Γ1 af k Γ2)(h:bB F k=some y)(hs:zx b:=by exact λ_ _=>rfl):EV X (.Subscript a b pos) Γ af y Γ2:=by
 intro σ H0 R0 H R E Q q
 refine eS (BY hu aJ aJ hs) (ha σ H0 R0 H R E _ λv H1 R1 E1 s1 e1=>hb σ H0 R0 H1 R1 E1 _ λu H2 R2 E2 s2 e2=>?_)
 obtain⟨p,rfl,hp⟩:=g9.mono s2 e1
 cases e2
 have g:=gg.k (k:=Sum.inl k) (E2.sub _ _ hp)
 rw[j5,h] at g
 exact⟨p,_,rfl,g,q _ H2 R2 E2 (s1.trans s2) rfl⟩
theorem z9 (F:Ln)(k v:Int):(kI F k v).length<=F.length + 1:=by
 unfold kI;split
 ·rw[LJ];omega
 ·rw[LL];simp
theorem FA (i:Nat){ke ve:Expr}{p1 p2:Pos}{k v:Int}(hu:X.A.units + 1 < cLine)(hk:EV X ke Γ af k Γ)(SR:EV X ve Γ af v Γ)(hΓ:Γ[i]?=some (.di (cI F)))(hz:F.length < N7)(h:N (Γ.set i (.di (cI (kI F k v)))))
 (hN:X.N[i]?=some x:=by rfl) (Vy:autoParam (cG X.env.scope x) RE)
 (hd:Rh x:=by decide) (Q4:RG x:=by decide)
 (hs:Of ve (some (.Subscript (.Name x p1) ke p2)) pos.line X.env=pure false:=by rfl):W1 X (.Assign [.Subscript (.Name x p1) ke p2] ve pos) Γ N T:=λσ H0 R0 H R E D dn dr=>by
 refine sS (oA hu (bp hN Vy hd Q4) aJ aJ hs) (SR σ H0 R0 H R E _ λu0 H0' R0' E0 s0 e0=>?_)
 obtain⟨a,ea,ha,hR⟩:=E0.ent i _ hΓ
 refine⟨.ref a,at_of ea,hk σ H0 R0 H0' R0' E0 _ λu H1 R1 E1 s1 e1=>?_⟩
 obtain⟨a',Ry,R8,RF⟩:=E1.ent i _ hΓ
 rw[ea] at Ry;cases Ry
 cases e1
 cases e0
 refine⟨a,_,rfl,mP.k (k:=Sum.inl k) R8 (by unfold cf cI;rw[LJ,LJ];exact hz),?_⟩
 rw[qE]
 exact dn σ _ R1 _ (E1.upd (en:=.di (cI (kI F k v))) hΓ rfl ea RF ⟨a,rfl,aB,RF⟩) (s0.trans s1) h
theorem uB (i:Nat){p1:Pos}{P:Ln->Prop}(hΓ:Γ[i]?=some (.di (cI F)))(h:P F)(hN:X.N[i]?=some x:=by rfl)(hv:autoParam (cG X.env.scope x) RE)
 (hd:Rh x:=by decide) (Q4:RG x:=by decide):W1 X (.Return (some (.Name x p1)) pos) Γ N (cg X.K g9 P):=λσ H0 R0 H R E D dn dr=>by
 obtain⟨a,ea,ha,hR⟩:=E.ent i _ hΓ
 have h0:H0 a=none:=E.new i _ a hΓ rfl ea
 refine sS (ic (bp hN hv hd Q4)) ⟨.ref a,at_of ea,dr _ H (upd R a (.dK (cf (cI F)))) ⟨E.ext.h,E.ext.r.trans (ar.fresh hR _),λb o qb=>?_,λb hb=>?_⟩ ⟨F,⟨a,rfl,aB⟩,h⟩⟩
 ·by_cases hb:b=a
  ·subst hb;rw[aB] at qb;cases qb;exact ha
  ·rw[aF hb] at qb;exact E.ext.s b o qb
 ·rw[aF (show b≠a from λe=>hb (by rw[e];exact h0))];exact E.ext.old b hb
theorem au.Kj {K:QA}{σ:St}{H0 R0 H R H' R':Hp}{Γf:Ga}(E:au K σ H0 R0 H R Γ)(E':au K σ H H H' R' Γf):au K σ H0 R0 H' R Γ:=
 E.grow ⟨E'.ext.h,ar.refl _,E.sub.trans E'.ext.h,λ_ _=>rfl⟩
theorem TV.So {Γf:Ga}(hF:∀(σ:St) (H0 R0 H R:Hp),au X.K σ H0 R0 H R Γ->au X.K σ H H H H Γf){e:Expr}{b:Bool}(h:TV X e Γf b Γf):TV X e Γ b Γ:=λσ H0 R0 H R E Q q=>
 h σ H H H H (hF σ H0 R0 H R E) Q λH' R' E' s'=>q H' R (E.Kj E') (ar.refl _)
def mR:Rep Unit:=⟨λ_ _ v _=>v= .Rf,λ_ h=>h⟩
theorem BR {S:cQ}{k:Nat}{e:Expr}{es:Lm}{p p2:Pos}{ps:List Pk}{Pd:Unit->Prop}(C:aI X.prog X.w X.K X.mg X.base x k (aK S X.K))(hr:bI k X.A)(ha:HA X (e::es) Γ ps Γ1)(hS:S X.K ps (cg X.K mR Pd))(h:N Γ1)
 (hg:Gl X x:=by rfl) (RN:Rh x:=by decide) (he:N8 (e::es) X.env=(false,eval e X.env)::N8 es X.env:=by rfl) (Rj:(Oe p2 (N8 es X.env)).any (·.1)=false:=by rfl)
 (Sb:Of (.Call (.Name x p) (e::es) [] p2) none pos.line X.env=pure false:=by rfl):W1 X (.Expr (.Call (.Name x p) (e::es) [] p2) pos) Γ N T:=λσ H0 R0 H R E D dn dr=>
 sS (fZ aJ Sb) (kg C hr ha hS E (λH1 R1 v H' R' E1 s1 xx t=>dn σ H' R' _ (E1.grow xx) (s1.trans xx.r) h) hg RN he Rj)
end
section
variable {P:Ob}{w:World}{K:QA}{mg:Lf}{base:Heap}{α:Type}
theorem DT {S:cQ}{x qual:Str}{st:Stmt}{f:Addr}{fd:Og}{N ps:Li}{k:Nat}(F:bD K x qual st f fd)(Sc:aH N ps (ai st))(hm:mg x=some (.ref f))(hb:Binds K fd ps [])(len:∀qs T,S K qs T->qs.length=ps.length)
 (Ro:∀(Q2:Value) (A:Od) (outer:List Env) (s:N5) (H:Hp) (E:XK) (qs:List Pk) (T:RT),bI k (A.deeper (NY qual (ai st) s.heap.objs.size f Q2))->S K qs T->(∀H0 H' R',T H0 .Rf H' R')/\
  WS (fA ee P w K mg base N qual (ai st) f Q2 A outer s H E).js (bS st) (eY qs N.length) (λ_=>True) T):aI P w K mg base x (k + 1) (aK S K):=by
 refine⟨f,fd,ps,?_,hm,F.kp,hb⟩
 refine F.ok Sc (λvs H Q E h=>?_) (λQ2 A outer s H vs Q E hr h=>?_)
 ·obtain⟨R,qs,T,_,p,hS,_⟩:=h
  rw[p.length];exact len qs T hS
 ·obtain⟨R,qs,T,sR,p,hS,q⟩:=h
  have hl:qs.length<=N.length:=by
   rw[len qs T hS]
   have:=congrArg List.length Sc.pre
   rw[L0] at this
   omega
  obtain⟨h1,h2⟩:=Ro Q2 A outer s H E qs T hr hS
  exact⟨_,jd,h2 (L2.start N vs) H R H R (g8 sR p hl) {nx:=λ_ H'=>Q .Rf H',rt:=Q} (λσ' H' R' Γ' E' _ _=>q .Rf H' R' E'.ext (h1 _ _ _)) λv H' R' xx t=>q v H' R' xx t⟩
end
section
variable {X:Cx}{Γ Γ1 Γ2 Γ3:Ga}{α β γ δ:Type}{N:Ga->Prop}{T:RT}
variable {r:Rep α}{xs:List α}
theorem x9 (i:Nat){x:Str}{e:Expr}{p1 ap cp:Pos}{y:α}(he:EV X e Γ r y Γ1)(hΓ:Γ[i]?=some (.mu r xs))(hΓ1:Γ1[i]?=some (.mu r xs))(hz:xs.length < N7)
 (hN:X.N[i]?=some x:=by rfl) (hv:autoParam (cG X.env.scope x) RE)
 (hd:Rh x:=by decide) (Q4:RG x:=by decide)
 (Ra:Oc (.Name x p1) "append" X.env (eval (.Name x p1) X.env)=eval (.Name x p1) X.env:=by rfl)
 (Rt:((Oe cp (N8 [e] X.env)).all (λx=> !x.1)&&(OJ cp (Ow [] X.env)).all (λx=>x.1.isSome)
  &&decide ([e].length + ([]:List Oi).length + (if([]:List Oi).isEmpty then 0 else 1) < 30))=true:=by rfl)
 (Q9:(ap.endLine==cp.line)=true:=by rfl) (hs:N8 [e] X.env=(false,eval e X.env)::N8 [] X.env:=by rfl):EV X (.Call (.Attribute (.Name x p1) "append" ap) [e] [] cp) Γ mR () (Γ1.set i (.mu r (xs++[y]))):=λσ H0 R0 H R E Q q=>by
 obtain⟨a,vs,ea,ha,hR,pp⟩:=E.ent i _ hΓ
 refine eS (gZ PZ P1 P2 ju (bp hN hv hd Q4) (aV aJ bE hs) Ra Rt Q9 hs rfl) ?_
 refine⟨.ref a,at_of ea,.inl ⟨rfl,vs,aT.of ha⟩,he σ H0 R0 H R E _ λv H1 R1 E1 s1 e1=>?_⟩
 obtain⟨a',Ru,Ry,R8,RF,RP⟩:=E1.ent i _ hΓ1
 rw[ea] at Ry;cases Ry
 refine⟨a,Ru,v,rfl,rfl,R8,by rw[RP.length];exact hz,?_⟩
 exact q _ _ R1 (E1.upd (en:=.mu r (xs++[y])) hΓ1 rfl ea RF ⟨a,_,rfl,aB,RF,cY RP (.cons e1 .nil)⟩) s1 rfl
theorem x8 {i:Nat}(hΓ:Γ[i]?=some (.mu r xs))(hz:xs.length<=N7)(σ:St)(H0 R0 H R:Hp)(E:au X.K σ H0 R0 H R Γ):au X.K σ H H H H ((Γ.map qp).set i (.im (ae r) xs)):=by
 obtain⟨a,vs,ea,ha,hR,pp⟩:=E.ent i _ hΓ
 exact E.So.nk (i:=i) (e0:=.no) (by rw[LM,hΓ];rfl) ⟨.ref a,ea,a,vs,rfl,ha,Paired.map (λ_ _=>r.mono E.sub) pp,hz⟩ λb w=>by cases w
theorem Du (i:Nat){x:Str}{p1 pos:Pos}{P:List α->Prop}(hΓ:Γ[i]?=some (.mu r xs))(hz:xs.length<=N7)(h:P xs)(hN:X.N[i]?=some x:=by rfl)(hv:autoParam (cG X.env.scope x) RE)
 (hd:Rh x:=by decide) (Q4:RG x:=by decide):W1 X (.Return (some (.Name x p1)) pos) Γ N (pA X.K r P):=λσ H0 R0 H R E D dn dr=>by
 obtain⟨a,vs,ea,ha,hR,pp⟩:=E.ent i _ hΓ
 exact sS (ic (bp hN hv hd Q4)) ⟨.ref a,at_of ea,dr _ H R E.ext ⟨a,vs,xs,rfl,E.new i _ a hΓ rfl ea,ha,hR,pp,hz,h⟩⟩
end
section
variable {X:Cx}{Γ Γ1 Γ2 Γ3:Ga}{α β γ δ:Type}{N:Ga->Prop}{T:RT}
variable {e:Expr}{r:Rep α}{r':Rep β}
def sT (r:Rep α)(r':Rep β):Rep (α ⊕ β):=⟨λK H v o=>match o with | .inl x=>r.R K H v x | .inr y=>r'.R K H v y,λ{K H H' v o} s h=>by cases o with | inl x=>exact r.mono s h | inr y=>exact r'.mono s h⟩
theorem EV.inl {x:α}(h:EV X e Γ r x Γ1):EV X e Γ (sT r r') (.inl x) Γ1:=EV.rep h λ_ _ q=>q
theorem EV.inr {y:β}(h:EV X e Γ r' y Γ1):EV X e Γ (sT r r') (.inr y) Γ1:=EV.rep h λ_ _ q=>q
theorem EV.ofl {x:α}(h:EV X e Γ (sT r r') (.inl x) Γ1):EV X e Γ r x Γ1:=EV.rep h λ_ _ q=>q
theorem EV.mx {y:β}(h:EV X e Γ (sT r r') (.inr y) Γ1):EV X e Γ r' y Γ1:=EV.rep h λ_ _ q=>q
end
section
variable {X:Cx}{Γ Γ1 Γ2 Γ3:Ga}{α β γ δ:Type}{N:Ga->Prop}{T:RT}
end
section
variable {X:Cx}{Γ Γ1 Γ2 Γ3:Ga}{α β γ δ:Type}{N:Ga->Prop}{T:RT}
def lF (H:Hp)(l:Lk):Hp:=λb=>if b∈l then none else H b
theorem oY {H:Hp}{l:Lk}{b:Addr}(h:b∈l):lF H l b=none:=if_pos h
theorem se {H:Hp}{l:Lk}{b:Addr}(h:b∉l):lF H l b=H b:=if_neg h
theorem zS {H:Hp}{l:Lk}:ar (lF H l) H:=λb o q=>by
 by_cases h:b∈l
 ·rw[oY h] at q;cases q
 ·rwa [se h] at q
variable {P:Ob}{w:World}{K:QA}{mg:Lf}{base:Heap}
end
section
variable {X:Cx}{Γ Γ1 Γ2 Γ3:Ga}{α β γ δ:Type}{N:Ga->Prop}{T:RT}
structure LK (P:Type):Type 1 where
 bx:Lk->P->uL
 fp:∀l s,(bx l s).fp=l
 at_:∀{K H R v l s},(bx l s).R K H R v->∃a t,l=a::t/\v= .ref a
abbrev qU (R:Hp)(l:Lk):Prop:=∀b∈l,R b=none
theorem wM {P:Type}{B:LK P}{K:QA}{H R:Hp}{a:Addr}{l:Lk}{s:P}{o:Option V}(h:(Ent.ob (B.bx (a::l) s)).ok K H R o):o=some (.ref a)/\(B.bx (a::l) s).R K H R (.ref a)/\qU R (a::l):=by
 obtain⟨⟨v,e,hv⟩,hR⟩:=h
 obtain⟨a',t,el,ev⟩:=B.at_ hv
 cases el
 subst ev
 exact⟨e,hv,λb hb=>hR b (by rw[B.fp];exact hb)⟩
theorem yg {P:Type}{B:LK P}{K:QA}{H R:Hp}{a:Addr}{l:Lk}{s:P}(h:(B.bx (a::l) s).R K H R (.ref a))(hR:qU R (a::l)):(Ent.ob (B.bx (a::l) s)).ok K H R (some (.ref a)):=
 ⟨⟨_,rfl,h⟩,λc hc=>hR c (by rw[B.fp] at hc;exact hc)⟩
theorem v9 {P:Type}{B:LK P}{K:QA}{R H:Hp}{a:Addr}{l:Lk}{st:P}{vs:List V}{ps:List Pk}{N:Li}(s:ar R H)(hR:qU R (a::l))(hB:(B.bx (a::l) st).R K H R (.ref a))(p:je K R vs ps)(hl:ps.length + 1<=N.length):
 au K (L2.start N (.ref a::vs)) (lF H (a::l)) R H R (.ob (B.bx (a::l) st)::eY ps (N.length - 1)):=by
 obtain⟨n0,N',rfl⟩:∃n0 N',N=n0::N':=by cases N with
  | nil=>exact absurd hl (by simp)
  | cons n N'=>exact⟨n,N',rfl⟩
 have Sz:ps.length<=N'.length:=by simpa using hl
 have E0:=g8 (N:=N') s p Sz
 have es:L2.start (n0::N') (.ref a::vs)=some (.ref a)::L2.start N' vs:=by unfold L2.start;simp
 rw[es]
 have Rl:∀(i:Nat) (e:Ent) (o:Option V),(eY ps N'.length)[i]?=some e->e.fp o=[]:=λi e o q=>by
  unfold eY at q
  rcases LW.mp (LO q) with z | z
  ·obtain⟨p,_,rfl⟩:=LY.mp z;rfl
  ·obtain⟨_,rfl⟩:=M9.mp z;rfl
 refine⟨⟨zS,ar.refl _,s,λ_ _=>rfl⟩,λi e q=>?_,λi e c q w=>?_,λi j e e' c q q' w w'=>?_,?_⟩
 ·cases i with
  | zero=>simp at q;subst q;exact yg hB hR
  | succ i=>simp at q;simpa using E0.ent i e q
 ·cases i with
  | zero=>
    simp at q;subst q
    have w:c∈(B.bx (a::l) st).fp:=w
    rw[B.fp] at w
    exact oY w
  | succ i=>simp at q;rw[Rl i e _ q] at w;cases w
 ·cases i with
  | succ i=>simp at q;rw[Rl i e _ q] at w;cases w
  | zero=>
    cases j with
    | zero=>rfl
    | succ j=>simp at q';rw[Rl j e' _ q'] at w';cases w'
 ·have:=E0.len
  simp[this]
variable {P:Ob}{w:World}{K:QA}{mg:Lf}{base:Heap}
end
section
variable {X:Cx}{Γ Γ1 Γ2 Γ3:Ga}{α β γ δ:Type}{N:Ga->Prop}{T:RT}
structure bA (K:QA) (C:Addr) (ns:Li):Prop where
 cl:jM K C
 no:∀f∈ns,iR K C f
end
section
variable {X:Cx}{Γ Γ1 Γ2 Γ3:Ga}{α β γ δ:Type}{N:Ga->Prop}{T:RT}
end
section
variable {X:Cx}{Γ Γ1 Γ2 Γ3:Ga}{α β γ δ:Type}{N:Ga->Prop}{T:RT}
end
section
variable {X:Cx}{Γ Γ1 Γ2 Γ3:Ga}{α β γ δ:Type}{N:Ga->Prop}{T:RT}
variable {P:Ob}{w:World}{K:QA}{mg:Lf}{base:Heap}
end
end Fc
namespace Fc.DP
open PySem PySem.Spec
section
variable {prog:Ob}{w:World}{A:Od}{E:Value->N5->Prop}{h:Heap}{g:Array Pr}{d:Drawn}{t:Nat}{os:OsState}{a:Addr}{o:Obj}
end
section
variable {prog:Ob}{w:World}{K:Type} [DecidableEq K]{knd:KeyKind prog w K}{A:Od}{R:Result->N5->Prop}{I:Addr}{fp wr:Lk}{G:Array Pr->Array Pr->Prop}{n:Nat}{P:Nat->Value->Prop}{St:Nat->N5->Prop}
end
section
variable {prog:Ob}{w:World}{K:Type} [DecidableEq K]{knd:KeyKind prog w K}{A:Od}{E:Value->N5->Prop}{s:N5}
end
end Fc.DP
namespace Fc
open PySem PySem.Spec PySem.W PySem.Calls L2
open PyProof.Rows hiding St
section
variable {X:Cx}{Γ Γ1 Γ2 Γ3:Ga}{α β γ δ:Type}{N:Ga->Prop}{T:RT}
end
section
variable {X:Cx}{Γ Γ1 Γ2 Γ3:Ga}{α β γ δ:Type}{N:Ga->Prop}{T:RT}
variable {x y:Str}
theorem j3:decide (V.str x=V.str y)=decide (x=y):=by
 by_cases h:x=y
 ·subst h;simp
 ·rw[decide_eq_false h,decide_eq_false λz=>h (by injection z)]
theorem cb:fM X .Eq ah ah x y (decide (x=y)):=⟨_,A9,λR H v u Q _ e1 e2 q=>by
 cases e1;cases e2
 exact⟨rfl,by rw[j3];exact q⟩⟩
theorem qf:fM X .NotEq ah ah x y (!decide (x=y)):=⟨_,Bs,λR H v u Q _ e1 e2 q=>by
 cases e1;cases e2
 exact⟨rfl,by rw[j3];exact q⟩⟩
theorem mY {pos:Pos}{n:Str}{t:Tok}(hm:X.mg x=some (.str n t))(hg:Gl X x:=by rfl)(hd:Rh x:=by decide):EV X (.Name x pos) Γ ah n Γ:=
 λ_ _ _ _ _ E _ q=>eS (gM (v:=.str n) hg hm ⟨t,rfl⟩ hd) (q (.str n) _ _ E (ar.refl _) rfl)
def qN:Rep Li:=⟨λK R v xs=>∃a,v= .ref a/\de K R a (xs.map V.str),λs ⟨a,e,h⟩=>⟨a,e,by
 rcases h with h | h
 ·exact .inl (h.imp (λq=>s _ _ q) λ⟨o,q⟩=>⟨o,s _ _ q⟩)
 ·exact .inr h⟩⟩
theorem kB (x:Str):∀xs:Li,AV (.str x) (xs.map V.str)=decide (x∈xs)
 | []=>rfl
 | y::r=>by
   have h:=kB x r
   unfold AV at h ⊢
   rw[Me,Nd,h]
   have e:nO (V.str y) (V.str x)=decide (x=y):=by
    show(y==x)=_
    by_cases h:x=y
    ·subst h;simp
    ·rw[decide_eq_false h];exact beq_eq_false_iff_ne.mpr (NN h)
   rw[e]
   by_cases h1:x=y<;>simp[h1]
theorem jo:∀xs:Li,(xs.map V.str).all iC=true
 | []=>rfl
 | _::r=>by rw[Me,all_cons,jo r];rfl
theorem jg {xs:Li}:fM X .In ah qN x xs (decide (x∈xs)):=⟨_,pP,λR H v u Q s e1 e2 q=>by
 cases e1
 obtain⟨a,rfl,h⟩:=e2
 exact⟨a,_,rfl,.inr (h.imp (λh=>h.imp (λq=>s _ _ q) λ⟨o,q⟩=>⟨o,s _ _ q⟩) id),rfl,jo xs,by rw[if_neg Lp,kB];exact q⟩⟩
def oW (K:QA)(mg:Lf)(x:Str)(xs:Li):Prop:=∃a o QX n,mg x=some (.ref a)/\K.lookup a=some o/\o.cls= .type "tuple"/\o.data= .seq QX n/\QX.size<=N7/\Vals (xs.map V.str) QX.toList
theorem fP {pos:Pos}{xs:Li}(hm:oW X.K X.mg x xs)(hg:Gl X x:=by rfl)(hd:Rh x:=by decide):EV X (.Name x pos) Γ qN xs Γ:=by
 obtain⟨a,o,QX,n,h1,h2⟩:=hm
 exact λ_ _ _ _ _ E _ q=>eS (gM (v:=.ref a) hg h1 rfl hd) (q (.ref a) _ _ E (ar.refl _) ⟨a,rfl,.inr ⟨o,QX,n,h2⟩⟩)
end
def ku (P:Ob)(w:World)(K:QA)(mg:Lf)(x:Str)(D:List (Str×Li)):Prop:=
 ∃a o vs,mg x=some (.ref a)/\K.lookup a=some o/\o.IsDictOf (bP P w) vs/\(a==Ot)=false/\
  PySem.Paired (λ(d:Str×Li) (p:Key×Value)=>p.1=Sum.inr d.1/\∃b o QX n,p.2= .ref b/\K.lookup b=some o/\o.cls= .type "tuple"/\o.data= .seq QX n/\QX.size<=N7/\Vals (d.2.map V.str) QX.toList) D vs
def cF:List (Str×Li)->Str->Option Li
 | [],_=>none
 | (k,v)::r,x=>if k=x then some v else cF r x
theorem qt {K:QA}{x:Str}:∀{D:List (Str×Li)} {vs:List (Key×Value)},PySem.Paired (λ(d:Str×Li) (p:Key×Value)=>p.1=Sum.inr d.1/\∃b o QX n,p.2= .ref b/\K.lookup b=some o/\o.cls= .type "tuple"/\o.data= .seq QX n/\QX.size<=N7/\Vals (d.2.map V.str) QX.toList) D vs->
 (cF D x=none/\Oz vs (Sum.inr x:Key)=none)∨∃ys b,cF D x=some ys/\Oz vs (Sum.inr x:Key)=some (.ref b)/\∃o QX n,K.lookup b=some o/\o.cls= .type "tuple"/\o.data= .seq QX n/\QX.size<=N7/\Vals (ys.map V.str) QX.toList
 | _,_,.nil=>.inl ⟨rfl,rfl⟩
 | _,_,.cons (a:=d) (b:=p) h t=>by
   obtain⟨k,v⟩:=d
   obtain⟨q,u⟩:=p
   obtain⟨e1,b,o,QX,n,e2,h3⟩:=h
   have e1:q=Sum.inr k:=e1
   have e2:u=Qt b:=e2
   subst e1;subst e2
   rw[cF]
   unfold Oz
   rw[Mz]
   by_cases e:k=x
   ·subst e
    rw[if_pos rfl]
    exact .inr ⟨v,b,rfl,by simp,o,QX,n,h3⟩
   ·rw[if_neg e]
    have:decide ((Sum.inr k:Key)=Sum.inr x)=false:=decide_eq_false λz=>e (Sum.inr.inj z)
    simp only[this]
    exact qt t
section
variable {X:Cx}{Γ Γ1 Γ2 Γ3:Ga}{α β γ δ:Type}{N:Ga->Prop}{T:RT}
theorem xR {e:Expr}{x:Str}{p1 pos:Pos}{D:List (Str×Li)}{k:Str}(hD:ku X.prog X.w X.K X.mg x D)(he:EV X e Γ ah k Γ1)(hg:Gl X x:=by rfl)(hd:Rh x:=by decide):TV X (.Compare e [.NotIn] [.Name x p1] pos) Γ (!(cF D k).isSome) Γ1:=by
 intro σ H0 R0 H R E Q q
 obtain⟨a,o,vs,hm,hk,hdo,hs,hp⟩:=hD
 have pc:PC X .NotIn e (.Name x p1) (λσ H Q=>eQ X e σ H λy H1=>y= .str k/\Q (.bl (!(cF D k).isSome)) H1):=by
  intro QW s σ H Q I h
  refine aL (h QW s I) λiv s1 ⟨y,H1,I1,ry,ey,q1⟩=>aL (gM (v:=.ref a) hg hm rfl hd QW s1 σ H1 (λv H2=>v= .ref a/\H2=H1) I1 ⟨rfl,rfl⟩) λu s2 ⟨y2,H2,I2,ry2,e3,e4⟩=>?_
  subst ey;subst e3;subst e4
  obtain rfl:u=Qt a:=ry2
  have dd:s2.heap.DictOf (bP X.prog X.w) a vs:=Qg.mpr ⟨o,I2.eJ a o hk,hdo⟩
  refine wpAny_notIn_of (iB (k:=Sum.inr k) ry) hs dd.mapOf ?_
  rcases qt (x:=k) hp with⟨h1,h2⟩ | ⟨ys,b,h1,h2,_⟩
  ·rw[h2];rw[h1] at q1;exact⟨.bl _,_,I2.tok _,rfl,q1⟩
  ·rw[h2];rw[h1] at q1;exact⟨.bl _,_,I2.tok _,rfl,q1⟩
 refine tS (kS pc (by with_unfolding_all rfl)) (he σ H0 R0 H R E _ λv H1 R1 E1 s1 e1=>⟨e1,_,rfl,q H1 R1 E1 s1⟩)
end
end Fc
namespace Fc.ZT
open PySem PySem.Spec PyProof.Rows
section
variable {prog:Ob}{w:World}{A:Od}{E:Value->N5->Prop}{s:N5}
structure Dr (prog:Ob) (w:World) (A:Od) (i l:Addr) (QX:Array Value) (St:Nat->Heap->Prop):Prop where
 up:∀{k:Nat} {h h':Heap},St k h->(∀b,b=i∨b=l->∀o,h.get? b=some o->h'.get? b=some o)->St k h'
 there:∀{k:Nat} {h:Heap},St k h->i < h.objs.size
 item:∀{k:Nat} {x:Value} {s:N5} {Q:Value->N5->Prop} {E:Value->N5->Prop},St k s.heap->QX[k]?=some x->(∀h',St (k + 1) h'->Qd i s.heap h'->Q x {s with heap:=h'})->wpAny (model prog w) A (PK (.ref i)) Q E s
 done:∀{k:Nat} {s:N5} {Q:Value->N5->Prop} {E:Value->N5->Prop},St k s.heap->QX[k]?=none->(∀h' e,Heap.ExtBut i s.heap h'->(∃o,h'.get? e=some o/\o.cls= .type "StopIteration")->E (.ref e) {s with heap:=h'})->wpAny (model prog w) A (PK (.ref i)) Q E s
theorem rN {i l:Addr}{QX:Array Value}(hh:A.handled=none)(Q7:i≠l):Dr prog w A i l QX (λk h=>h.IsTupleIter i l k/\h.IsTuple l QX) where
 up:=λ⟨⟨o,ho,r⟩,⟨o',Sr,r'⟩⟩ hk=>⟨⟨o,hk _ (.inl rfl) o ho,r⟩,⟨o',hk _ (.inr rfl) o' Sr,r'⟩⟩
 there:=λ⟨⟨o,ho,_⟩,_⟩=>Qa ho
 item:=λ{k x s Q E} ⟨hit,ht⟩ hx hQ=>by
  obtain⟨o,ho,hc,hd⟩:=id hit
  obtain⟨ol,hol,_,nl,UX⟩:=id ht
  unfold PK
  refine N6 (Ou (name:=Qr "__next__") hit.typeIs P0
   (OI P0 hit.typeIs F.entry_tuple_iterator_next ?_ (F.args_tuple_iterator_next_1 _)))
  show wpAny _ _ (field (.ref i) 0 >>=_) _ _ s
  refine N6 (Om ho hd (x:=.ref l) rfl ?_)
  refine wpAny_ite ?_
  rw[if_neg (show¬((Qt l==Qu)=true) from Lp)]
  show wpAny _ _ (field (.ref i) 1 >>=_) _ _ s
  refine N6 (Om ho hd (x:=.int k 0) rfl ?_)
  show wpAny _ _ (seqItems? (.ref l) >>=_) _ _ s
  refine N6 (OA hol UX ?_)
  simp only[Int.toNat_natCast,hx]
  have hs:=Qd.update s.heap i (λo=>o.mapFields λa=>a.setIfInBounds 1 (Pm (k + 1)))
  refine N6 (wpAny_setField ho hd (by simp) (Oa ⟨x,rfl,Oa (hQ _ ⟨?_,ht.extBut (Qd.update ..).extBut (NN Q7)⟩ (Qd.update ..))⟩))
  exact⟨_,Qe _ ho (Obj.isFreed_of_fields (Obj.data_mapFields hd _)),(Obj.cls_mapFields ..).trans hc,by rw[Obj.data_mapFields hd];simp[Pm]⟩
 done:=λ{k s Q E} ⟨hit,ht⟩ hx hE=>by
  obtain⟨o,ho,hc,hd⟩:=id hit
  obtain⟨ol,hol,_,nl,UX⟩:=id ht
  unfold PK
  refine N6 (Ou (name:=Qr "__next__") hit.typeIs P0
   (OI P0 hit.typeIs F.entry_tuple_iterator_next ?_ (F.args_tuple_iterator_next_1 _)))
  show wpAny _ _ (field (.ref i) 0 >>=_) _ _ s
  refine N6 (Om ho hd (x:=.ref l) rfl ?_)
  refine wpAny_ite ?_
  rw[if_neg (show¬((Qt l==Qu)=true) from Lp)]
  show wpAny _ _ (field (.ref i) 1 >>=_) _ _ s
  refine N6 (Om ho hd (x:=.int k 0) rfl ?_)
  show wpAny _ _ (seqItems? (.ref l) >>=_) _ _ s
  refine N6 (OA hol UX ?_)
  simp only[Int.toNat_natCast,hx]
  refine N6 (O2 (N6 (wpAny_setField ho hd (by simp) ?_)))
  show wpAny _ _ (newExc (.type "StopIteration") [] >>=_) _ _ _
  refine N6 ?_
  simp only[newExc,newTuple]
  refine N6 (Ox ?_ (by size_fits))
  refine N6 (m:=firstArgMember _ _) (wpAny_of_eq (a:=Qu) (by first | rfl | (simp only[firstArgMember];rfl)) ?_)
  refine Ox ?_ (by size_fits)
  simp only[raiseNew]
  refine N6 (wpAny_handled ?_)
  first | rw[show A.in1.handled=none from hh] | rw[hh]
  refine N6 (Oa (wpAny_throw ?_))
  exact hE _ _ (((Qd.update ..).extBut.push _).push _) ⟨_,Qb _ rfl,rfl⟩
section
variable {z TI TO i1 i2 l1 l2:Addr}{k1 k2:Nat}{xs ys:Array Value}{x y a b:Value}{S1 S2:Nat->Heap->Prop}
theorem up1 {i l c:Addr}{QX:Array Value}{St:Nat->Heap->Prop}(d:Dr prog w A i l QX St){k:Nat}{h h':Heap}(hs:St k h)(e:Heap.ExtBut c h h')(h1:i≠c)(h2:l≠c):St k h':=d.up hs λb hb o q=>e b o (by rcases hb with rfl | rfl<;>assumption) q
theorem BK {Q:Value->N5->Prop}(D:ZipApart z TI TO i1 i2 l1 l2)(d1:Dr prog w A i1 l1 xs S1)(d2:Dr prog w A i2 l2 ys S2)
 (hz:IsZip s.heap z TI TO .none) (R6:Oq s.heap TI (.ref i1) (.ref i2)) (RR:Oq s.heap TO a b) (h1:S1 k1 s.heap) (h2:S2 k2 s.heap) (hx:xs[k1]?=some x) (hy:ys[k2]?=some y)
 (hQ:∀h',IsZip h' z TI TO (Pm s.heap.objs.size)->Oq h' TO x y->S1 (k1 + 1) h'->S2 (k2 + 1) h'->Oq h' s.heap.objs.size x y->(∀c o,c≠z->c≠TO->c≠i1->c≠i2->s.heap.get? c=some o->h'.get? c=some o)->Q (.ref s.heap.objs.size) {s with heap:=h'}):
 wpAny (model prog w) A (Builtin.«zip.__next__» ⟨[.ref z],[]⟩) (λfin s'=>∃v,fin= .done (.ret v)/\Q v s') E s:=by
 show wpAny _ _ (field (.ref z) 2 >>=_) _ _ _
 refine N6 (Om hz rfl (x:=.bool false) rfl ?_)
 show wpAny _ _ (field (.ref z) 3 >>=_) _ _ _
 refine N6 (Om hz rfl (x:=.ref TI) rfl (N6 (OA R6 rfl ?_)))
 show wpAny _ _ (PM (.ref z) >>=_) _ _ _
 refine N6 ?_
 unfold PM
 refine N6 (Om hz rfl (x:=.none) rfl (Oa ?_))
 simp only[if_true]
 refine N6 (O2 (N6 (Om hz rfl (x:=.ref TO) rfl (N6 (OC hz (by simp) λha Ue Tq=>?_)))))
 replace Ue:IsZip ha z TI TO .ellipsis:=Ue
 refine N6 ?_
 simp only[List.zipIdx_cons,List.zipIdx_nil,Ni,forIn_nil]
 refine N6 (N6 (Pa ?_))
 show wpAny _ _ (PK (.ref i1) >>=_) _ _ _
 have g1:S1 k1 ha:=up1 d1 h1 Tq.extBut D.i1z D.l1z
 have g2:S2 k2 ha:=up1 d2 h2 Tq.extBut D.i2z D.l2z
 refine N6 (d1.item g1 hx λhb n1 Sh=>Oa ?_)
 have tb:Oq hb TO a b:=Sh.extBut _ _ D.TOi1 (Tq.extBut _ _ D.TOz RR)
 refine N6 (OA tb rfl (N6 (O3 tb λhc tc Te=>?_)))
 replace tc:Oq hc TO x b:=tc
 refine N6 (wpAny_letGo (Oa ?_))
 refine N6 (N6 (Pa ?_))
 show wpAny _ _ (PK (.ref i2) >>=_) _ _ _
 have g2c:S2 k2 hc:=up1 d2 (up1 d2 g2 Sh.extBut D.i12.symm D.l2i1) Te.extBut D.TOi2.symm D.l2TO
 refine N6 (d2.item g2c hy λhd n2 Ui=>Oa ?_)
 have td:Oq hd TO x b:=Ui.extBut _ _ D.TOi2 tc
 refine N6 (OA td rfl (N6 (O3 td λhe te Uh=>?_)))
 replace te:Oq he TO x y:=te
 refine N6 (wpAny_letGo (Oa (Oa ?_)))
 refine N6 (OA te rfl (N6 (wpAny_newTuple ?_)))
 have hsz:he.objs.size=s.heap.objs.size:=by rw[Uh.1,Ui.1,Te.1,Sh.1,Tq.1]
 have ze:IsZip he z TI TO .ellipsis:=Uh.extBut _ _ D.TOz.symm (Ui.extBut _ _ D.i2z.symm (Te.extBut _ _ D.TOz.symm (Sh.extBut _ _ D.i1z.symm Ue)))
 have ke:∀c o,c≠z->c≠TO->c≠i1->c≠i2->s.heap.get? c=some o->he.get? c=some o:=λc o c1 c2 c3 c4 e=>
  Uh.extBut _ _ c2 (Ui.extBut _ _ c4 (Te.extBut _ _ c2 (Sh.extBut _ _ c3 (Tq.extBut _ _ c1 e))))
 have m1:S1 (k1 + 1) he:=up1 d1 (up1 d1 (up1 d1 n1 Te.extBut D.TOi1.symm D.l1TO) Ui.extBut D.i12 D.l1i2) Uh.extBut D.TOi1.symm D.l1TO
 have m2:S2 (k2 + 1) he:=up1 d2 n2 Uh.extBut D.TOi2.symm D.l2TO
 have Vv:z < he.objs.size:=Qa ze
 show wpAny _ _ (Builtin.SmallTypes.ownedTupleHandOut (.ref z) (.ref he.objs.size) >>=_) _ _ _
 refine N6 ?_
 unfold Builtin.SmallTypes.ownedTupleHandOut
 have zf:IsZip (he.push {cls:=.type "tuple",data:=.seq #[x,y]}) z TI TO .ellipsis:=P9 _ ze
 refine N6 (OC zf (by simp) λhg zg hsg=>?_)
 replace zg:IsZip hg z TI TO (Pm he.objs.size):=zg
 refine OC zg (by simp) λhj zj hsj=>?_
 replace zj:IsZip hj z TI TO (Pm he.objs.size):=zj
 have up:∀c o,c≠z->he.get? c=some o->hj.get? c=some o:=λc o c1 e=>hsj.extBut _ _ c1 (hsg.extBut _ _ c1 (P9 _ e))
 have tj:Oq hj he.objs.size x y:=hsj.extBut _ _ (Nz Vv) (hsg.extBut _ _ (Nz Vv) (Qb _ rfl))
 rw[hsz] at zj tj
 refine Oa ⟨_,rfl,?_⟩
 show Q (.ref he.objs.size) _
 rw[hsz]
 exact hQ hj zj (up _ _ D.TOz te) (d1.up m1 λc hc o e=>up c o (hc.elim (λq=>by rw[q];exact D.i1z) λq=>by rw[q];exact D.l1z) e) (d2.up m2 λc hc o e=>up c o (hc.elim (λq=>by rw[q];exact D.i2z) λq=>by rw[q];exact D.l2z) e) tj λc o c1 c2 c3 c4 e=>up c o c1 (ke c o c1 c2 c3 c4 e)
theorem lr {Q:PySem.Fin->N5->Prop}(D:ZipApart z TI TO i1 i2 l1 l2)(d1:Dr prog w A i1 l1 xs S1)(d2:Dr prog w A i2 l2 ys S2)
 (hz:IsZip s.heap z TI TO .none) (R6:Oq s.heap TI (.ref i1) (.ref i2)) (RR:Oq s.heap TO a b) (h1:S1 k1 s.heap) (h2:S2 k2 s.heap) (Sn:xs[k1]?=none∨ys[k2]?=none)
 (hE:∀h' e,(∀c o,c≠z->c≠TO->c≠i1->c≠i2->s.heap.get? c=some o->h'.get? c=some o)->(∃o,h'.get? e=some o/\o.cls= .type "StopIteration")->E (.ref e) {s with heap:=h'}):
 wpAny (model prog w) A (Builtin.«zip.__next__» ⟨[.ref z],[]⟩) Q E s:=by
 show wpAny _ _ (field (.ref z) 2 >>=_) _ _ _
 refine N6 (Om hz rfl (x:=.bool false) rfl ?_)
 show wpAny _ _ (field (.ref z) 3 >>=_) _ _ _
 refine N6 (Om hz rfl (x:=.ref TI) rfl (N6 (OA R6 rfl ?_)))
 show wpAny _ _ (PM (.ref z) >>=_) _ _ _
 refine N6 ?_
 unfold PM
 refine N6 (Om hz rfl (x:=.none) rfl (Oa ?_))
 simp only[if_true]
 refine N6 (O2 (N6 (Om hz rfl (x:=.ref TO) rfl (N6 (OC hz (by simp) λha Ue Tq=>?_)))))
 replace Ue:IsZip ha z TI TO .ellipsis:=Ue
 refine N6 ?_
 simp only[List.zipIdx_cons,List.zipIdx_nil,Ni,forIn_nil]
 refine N6 (N6 (Pa ?_))
 show wpAny _ _ (PK (.ref i1) >>=_) _ _ _
 have g1:S1 k1 ha:=up1 d1 h1 Tq.extBut D.i1z D.l1z
 have g2:S2 k2 ha:=up1 d2 h2 Tq.extBut D.i2z D.l2z
 cases hx:xs[k1]? with
 | none=>
   refine N6 (d1.done g1 hx λhb e Sh he=>?_)
   obtain⟨oe,UR,V1⟩:=he
   have zb:IsZip hb z TI TO .ellipsis:=Sh _ _ D.i1z.symm Ue
   have hez:e≠z:=λq=>by subst q;rw[zb] at UR;cases UR;simp at V1
   exact OC zb (by simp) λhc _ Te=>hE hc e (λc o c1 _ c3 _ q=>Te.extBut _ _ c1 (Sh _ _ c3 (Tq.extBut _ _ c1 q))) ⟨oe,Te.extBut _ _ hez UR,V1⟩
 | some x=>
   have hy:ys[k2]?=none:=by rcases Sn with q | q;rw[hx] at q;cases q;exact q
   refine N6 (d1.item g1 hx λhb n1 Sh=>Oa ?_)
   have tb:Oq hb TO a b:=Sh.extBut _ _ D.TOi1 (Tq.extBut _ _ D.TOz RR)
   refine N6 (OA tb rfl (N6 (O3 tb λhc tc Te=>?_)))
   refine N6 (wpAny_letGo (Oa ?_))
   refine N6 (N6 (Pa ?_))
   show wpAny _ _ (PK (.ref i2) >>=_) _ _ _
   have g2c:S2 k2 hc:=up1 d2 (up1 d2 g2 Sh.extBut D.i12.symm D.l2i1) Te.extBut D.TOi2.symm D.l2TO
   refine N6 (d2.done g2c hy λhd e Ui he=>?_)
   obtain⟨oe,UR,V1⟩:=he
   have zd:IsZip hd z TI TO .ellipsis:=Ui _ _ D.i2z.symm (Te.extBut _ _ D.TOz.symm (Sh.extBut _ _ D.i1z.symm Ue))
   have hez:e≠z:=λq=>by subst q;rw[zd] at UR;cases UR;simp at V1
   exact OC zd (by simp) λhe _ Uh=>hE he e (λc o c1 c2 c3 c4 q=>Uh.extBut _ _ c1 (Ui _ _ c4 (Te.extBut _ _ c2 (Sh.extBut _ _ c3 (Tq.extBut _ _ c1 q))))) ⟨oe,Uh.extBut _ _ hez UR,V1⟩
theorem CO {Q:Lj->N5->Prop}(D:ZipApart z TI TO i1 i2 l1 l2)(d1:Dr prog w A.in1 i1 l1 xs S1)(d2:Dr prog w A.in1 i2 l2 ys S2)
 (hz:IsZip s.heap z TI TO .none) (R6:Oq s.heap TI (.ref i1) (.ref i2)) (RR:Oq s.heap TO a b) (h1:S1 k1 s.heap) (h2:S2 k2 s.heap) (hx:xs[k1]?=some x) (hy:ys[k2]?=some y)
 (hQ:∀h',IsZip h' z TI TO (Pm s.heap.objs.size)->Oq h' TO x y->S1 (k1 + 1) h'->S2 (k2 + 1) h'->Oq h' s.heap.objs.size x y->(∀c o,c≠z->c≠TO->c≠i1->c≠i2->s.heap.get? c=some o->h'.get? c=some o)->Q (some (.ref s.heap.objs.size)) {s with heap:=h'}):
 wpAny (model prog w) A (Pl (.ref z)) Q E s:=by
 have hT:s.TypeIs (.ref z) "zip":=⟨_,hz,rfl⟩
 unfold Pl
 exact N6 (wpAny_attempt (Ou (name:=Qr "__next__") hT P4 (OI P4 hT F.entry_zip_next (BK D d1 d2 hz R6 RR h1 h2 hx hy λh' a1 a2 a3 a4 a5 a6=>Oa (hQ h' a1 a2 a3 a4 a5 a6)) (F.args_zip_next_1 _))))
theorem En {Q:Lj->N5->Prop}(D:ZipApart z TI TO i1 i2 l1 l2)(d1:Dr prog w A.in1 i1 l1 xs S1)(d2:Dr prog w A.in1 i2 l2 ys S2)
 (hz:IsZip s.heap z TI TO .none) (R6:Oq s.heap TI (.ref i1) (.ref i2)) (RR:Oq s.heap TO a b) (h1:S1 k1 s.heap) (h2:S2 k2 s.heap) (Sn:xs[k1]?=none∨ys[k2]?=none)
 (hQ:∀h',(∀c o,c≠z->c≠TO->c≠i1->c≠i2->s.heap.get? c=some o->h'.get? c=some o)->Q none {s with heap:=h'}):wpAny (model prog w) A (Pl (.ref z)) Q E s:=by
 have hT:s.TypeIs (.ref z) "zip":=⟨_,hz,rfl⟩
 unfold Pl
 refine N6 (wpAny_attempt (Ou (name:=Qr "__next__") hT P4 (OI P4 hT F.entry_zip_next (lr D d1 d2 hz R6 RR h1 h2 Sn λh' e hk he=>?_) (F.args_zip_next_1 _))))
 obtain⟨o,ho,hc⟩:=he
 exact N6 (wpAny_isInstance (T:="StopIteration") (b:=true) ⟨o,ho,hc⟩ isSubtype_stop (Oa (hQ _ hk)))
end
end
end Fc.ZT
namespace Fc
open PySem PySem.Spec PySem.W PySem.Calls L2
open PyProof.Rows hiding St
section
variable {X:Cx}{Γ Γ1 Γ2 Γ3:Ga}{α β γ δ:Type}{N:Ga->Prop}{T:RT}
variable {es:Lm}{tp:Pos}
def J2 (K:QA)(a b:Addr):It:=
 ⟨λi H=>∃xs ys x y,aT K H a xs/\aT K H b ys/\xs[i]?=some x/\ys[i]?=some y,
  λi H v H'=>∃p x y,H p=none/\v= .ref p/\H'=upd H p (.tup [x,y])/\(∀xs,aT K H a xs->xs[i]?=some x)/\∀ys,aT K H b ys->ys[i]?=some y,
  λi H=>∃xs ys,aT K H a xs/\aT K H b ys/\(xs.length<=i∨ys.length<=i)⟩
def JG (z TI TO i1 i2 a b:Addr)(i:Nat)(h:Heap):Prop:=
 IsZip h z TI TO .none/\Oq h TI (.ref i1) (.ref i2)/\(∃u v,Oq h TO u v)/\h.IsListIter i1 a i/\h.IsListIter i2 b i
structure rf (z TI TO i1 i2:Addr):Prop where
 TIz:TI≠z
 TOz:TO≠z
 i1z:i1≠z
 i2z:i2≠z
 TITO:TI≠TO
 TIi1:TI≠i1
 TIi2:TI≠i2
 TOi1:TO≠i1
 TOi2:TO≠i2
 i12:i1≠i2
theorem my {a b:Nat}(h:a < b∨b < a): @Ne Addr a b:=h.elim Nt Nz
theorem GR (n:Nat):rf (n + 4) (n + 2) (n + 3) n (n + 1):=⟨my (by omega),my (by omega),my (by omega),my (by omega),my (by omega),my (by omega),my (by omega),my (by omega),my (by omega),my (by omega)⟩
theorem dj {h:Heap}{l b:Addr}{QX:Array Value}{o:Obj}(p:PlainL h l QX)(e:h.get? b=some o)(hc:o.cls≠ .type "list"):l≠b:=λz=>by
 obtain⟨u,n,e',c,_⟩:=p
 rw[z,e] at e'
 cases e'
 exact hc c
theorem ZipApart.of {h:Heap}{z TI TO i1 i2 a b:Addr}{i:Nat}{xs ys:Array Value}(F:rf z TI TO i1 i2)(st:JG z TI TO i1 i2 a b i h)(pa:PlainL h a xs)(pb:PlainL h b ys):ZipApart z TI TO i1 i2 a b:=by
 obtain⟨hz,_,⟨u,v,RR⟩,⟨o1,e1,c1,_⟩,⟨o2,e2,c2,_⟩⟩:=st
 exact⟨F.TIz,F.TOz,F.i1z,F.i2z,F.TITO,F.TIi1,F.TIi2,F.TOi1,F.TOi2,F.i12,
  dj pa hz (by simp),dj pa RR (by simp),dj pa e1 (by rw[c1];simp),dj pa e2 (by rw[c2];simp),
  dj pb hz (by simp),dj pb RR (by simp),dj pb e1 (by rw[c1];simp),dj pb e2 (by rw[c2];simp)⟩
theorem zM {P:Ob}{w:World}{K:QA}{k:Nat}(a b z TI TO i1 i2:Addr)(F:rf z TI TO i1 i2):Turn P w K (.Tuple es k tp) (J2 K a b) [z,TI,TO,i1,i2] z (JG z TI TO i1 i2 a b) where
 mem:=by simp
 obj:=λi h st c hc=>by
  obtain⟨hz,R6,⟨u,v,RR⟩,⟨o1,e1,c1,d1⟩,⟨o2,e2,c2,d2⟩⟩:=st
  simp only[LV,Md,or_false] at hc
  rcases hc with rfl | rfl | rfl | rfl | rfl
  ·exact⟨_,hz,λv q=>by cases q⟩
  ·exact⟨_,R6,λv q=>by cases q⟩
  ·exact⟨_,RR,λv q=>by cases q⟩
  ·exact⟨o1,e1,λv q=>by rw[d1] at q;cases q⟩
  ·exact⟨o2,e2,λv q=>by rw[d2] at q;cases q⟩
 keep:=λi h h' st kk=>by
  obtain⟨hz,R6,⟨u,v,RR⟩,h1,h2⟩:=st
  exact⟨kk z (by simp) _ hz,kk TI (by simp) _ R6,⟨u,v,kk TO (by simp) _ RR⟩,h1.at λo e=>kk i1 (by simp) o e,h2.at λo e=>kk i2 (by simp) o e⟩
 item:=by
  intro X hP hw hK hc i QW s σ H E I hf st hg
  subst hP hw hK
  obtain⟨xs,ys,x,y,hq,R9,hx,hy⟩:=hg
  obtain⟨QX,r,pl,hz⟩:=I.list hq
  obtain⟨its',r',RS,Ta⟩:=I.list R9
  obtain⟨u,hu,rx⟩:=r.get hx
  obtain⟨u',Ug,ry⟩:=r'.get hy
  have D:=ZipApart.of F st pl RS
  obtain⟨Tp,R6,⟨c,d,RR⟩,h1,h2⟩:=st
  have hn:H s.heap.objs.size=none:=I.Q3.fresh (Nm _)
  refine wpAny_pyNext_zip_item D Tp R6 RR h1 h2 pl.isList RS.isList (x:=u) (y:=u') (by simpa using hu) (by simpa using Ug) λh' a1 a2 a3 a4 a5 a6 hk=>?_
  refine⟨_,rfl,?_⟩
  refine wpAny_letOwnedTupleGo_zip (s:={s with heap:=h'}) a1 λh3 hz3 Tc=>?_
  have lt:∀{c o},s.heap.get? c=some o->c≠s.heap.objs.size:=λe=>Nt (Qa e)
  have Ve:∀b o,b∉[z,TI,TO,i1,i2]->s.heap.get? b=some o->h3.get? b=some o:=λb o hb q=>by
   simp only[LV,Md,or_false,not_or] at hb
   exact Tc.extBut b o hb.1 (hk b o hb.1 hb.2.2.1 hb.2.2.2.1 hb.2.2.2.2 q)
  have I1:Inv X QW σ H {s with heap:=h3,toks:=s.toks}:=iK I Ve hf
  have V7:h3.get? s.heap.objs.size=some {cls:=.type "tuple",data:=.seq #[u,u']}:=Tc.extBut _ _ (NN (lt Tp)) a5
  have I2:Inv X QW σ (upd H s.heap.objs.size (.tup [x,y])) {s with heap:=h3,toks:=s.toks}:=
   adopt I1 (I.gu (Nm _) hn) (I.sz) ⟨by show 2<=N7;decide,[u,u'],.cons rx (.cons ry .nil),⟨_,V7,rfl,_,rfl⟩⟩
  refine⟨.ref s.heap.objs.size,_,I2,rfl,⟨s.heap.objs.size,x,y,hn,rfl,rfl,λzs UI=>?_,λzs UI=>?_⟩,⟨hz3,?_,⟨_,_,Tc.extBut _ _ F.TOz a2⟩,a3.extBut Tc.extBut F.i1z,a4.extBut Tc.extBut F.i2z⟩,λb hb=>?_⟩
  ·rw[I.gI UI hq];exact hx
  ·rw[I.gI UI R9];exact hy
  ·exact Tc.extBut _ _ F.TIz (hk _ _ F.TIz F.TITO F.TIi1 F.TIi2 R6)
  ·have RZ:b≠s.heap.objs.size:=by
    simp only[LV,Md,or_false] at hb
    rcases hb with rfl | rfl | rfl | rfl | rfl
    ·exact lt Tp
    ·exact lt R6
    ·exact lt RR
    ·obtain⟨_,e,_⟩:=h1;exact lt e
    ·obtain⟨_,e,_⟩:=h2;exact lt e
   rw[aF RZ]
   exact(hf b hb).1
 done:=by
  intro X hP hw hK hc i QW s σ H E I hf st hg
  subst hP hw hK
  obtain⟨xs,ys,hq,R9,hx⟩:=hg
  obtain⟨QX,r,pl,hz⟩:=I.list hq
  obtain⟨its',r',RS,Ta⟩:=I.list R9
  have D:=ZipApart.of F st pl RS
  obtain⟨Tp,R6,⟨c,d,RR⟩,h1,h2⟩:=st
  have l1:=r.length
  have l2:=r'.length
  refine wpAny_pyNext_zip_end (I.ok.hd hc) D Tp R6 RR h1 h2 pl.isList RS.isList (hx.imp (λq=>by simp;omega) λq=>by simp;omega) λh' hk=>⟨rfl,?_⟩
  refine iK (t':=s.toks) I (λb o hb q=>?_) hf
  simp only[LV,Md,or_false,not_or] at hb
  exact hk b o hb.1 hb.2.2.1 hb.2.2.2.1 hb.2.2.2.2 q
 self:=λ_ _ _ _ _ st h=>OW st.1 h
def K9 (K:QA)(ta:TA):TI:=λσ H R=>ta σ H λvs H1=>∃a b xs ys,vs=[.ref a,.ref b]/\aT K H1 a xs/\aT K H1 b ys/\R (J2 K a b) H1
theorem Gq {a b:Expr}{ta:TA}{p pos:Pos}{k:Nat}(hg:Gl X "zip")(hm:X.mg "zip"=none)(ha:PA X [a,b] ta)(hs:N8 [a,b] X.env=[(false,eval a X.env),(false,eval b X.env)]:=by rfl)(RA:N8 [b] X.env=[(false,eval b X.env)]:=by rfl):PI X (.Tuple es k tp) (.Call (.Name "zip" p) [a,b] [] pos) (K9 X.K ta):=by
 intro QW s σ H R I h
 refine Call_ (fI I hg hm boot_zip (NV (aL (ha pos QW s σ H _ I h) λus s1 ⟨vs,H1,I1,r1,q1⟩=>?_) (by rw[hs,RA]) (by rw[RA];rfl)))
 obtain⟨l,l',xs,ys,e,hq,R9,q⟩:=q1
 subst e
 cases r1 with
 | cons r rr=>
   cases rr with
   | cons r' rr=>
     cases rr
     cases r
     cases r'
     obtain⟨QX,_,pl,_⟩:=I1.list hq
     obtain⟨its',_,RS,_⟩:=I1.list R9
     refine call_zip_2 pl.isList RS.isList λh' a1 a2 a3 a4 a5 a6 hk=>?_
     refine OW a1 ?_
     have I2:Inv X QW σ H1 {s1 with heap:=h'}:=I1.kept (t':=s1.toks) hk
     have ff:∀b,s1.heap.objs.size<=b->iT X QW H1 b:=λb hb=>I1.gu hb (I1.Q3.fresh hb)
     refine⟨s1.heap.objs.size + 4,[s1.heap.objs.size + 4,s1.heap.objs.size + 2,s1.heap.objs.size + 3,s1.heap.objs.size,s1.heap.objs.size + 1],_,_,H1,rfl,I2,zM l l' _ _ _ _ _ (GR _),⟨a1,a2,⟨_,_,a3⟩,a4,a5⟩,λb hb=>?_,q⟩
     simp only[LV,Md,or_false] at hb
     rcases hb with rfl | rfl | rfl | rfl | rfl
     ·exact ff _ (Nw _ 4)
     ·exact ff _ (Nw _ 2)
     ·exact ff _ (Nw _ 3)
     ·exact ff _ (Nm _)
     ·exact ff _ (Nw _ 1)
theorem iV {xs:List α}{ys:List β}{i:Nat}{q:α×β}(h:(xs.zip ys)[i]?=some q):xs[i]?=some q.1/\ys[i]?=some q.2:=by
 rw[List.getElem?_zip_eq_some] at h
 exact h
theorem GU {a b:Expr}{p pos:Pos}{k:Nat}{r:Rep α}{r':Rep β}{xs:List α}{ys:List β}(hm:X.mg "zip"=none)(ha:EV X a Γ (ae r) xs Γ1)(hb:EV X b Γ1 (ae r') ys Γ2)(hs:N8 [a,b] X.env=[(false,eval a X.env),(false,eval b X.env)]:=by rfl)(RA:N8 [b] X.env=[(false,eval b X.env)]:=by rfl)(hg:Gl X "zip":=by rfl):
 IV X (.Tuple es k tp) (.Call (.Name "zip" p) [a,b] [] pos) Γ (dB r r') (xs.zip ys) Γ2:=by
 refine⟨_,Gq hg hm (aV aJ (aV aJ bE RA) (by rw[hs,RA])) hs RA,λσ H0 R0 H R E Rq q=>ha σ H0 R0 H R E _ λv H1 R1 E1 s1 e1=>hb σ H0 R0 H1 R1 E1 _ λv' H2 R2 E2 s2 e2=>?_⟩
 obtain⟨a,vs,rfl,hp,pp,z⟩:=e1
 obtain⟨b,Ru,rfl,Ul,RP,z'⟩:=e2
 have VF:R2 a=_:=s2 _ _ hp
 refine⟨a,b,vs,Ru,rfl,aT.of (E2.sub _ _ VF),aT.of (E2.sub _ _ Ul),q _ H2 R2 E2 (s1.trans s2) (by rw[Mt];exact Nn (ND _ _) z) λH' R' sR sH i=>⟨λy hy=>?_,λhi=>?_⟩⟩
 ·have hq:aT X.K H' a vs:=aT.of (sH _ _ (sR _ _ VF))
  have R9:aT X.K H' b Ru:=aT.of (sH _ _ (sR _ _ Ul))
  obtain⟨e1,e2⟩:=iV hy
  obtain⟨v,hv,hr⟩:=cX pp e1
  obtain⟨v',SR,S7⟩:=cX RP e2
  refine⟨⟨vs,Ru,v,v',hq,R9,hv,SR⟩,λv2 H3 UJ=>?_⟩
  obtain⟨p,x,x',Uk,rfl,rfl,hy,Vx⟩:=UJ
  have t1:=hy vs hq
  have t2:=Vx Ru R9
  rw[hv] at t1
  rw[SR] at t2
  cases t1
  cases t2
  have s3:ar R' (upd R' p (.tup [v,v'])):=ar.fresh (sH.free Uk) _
  exact⟨upd R' p (.tup [v,v']),Ext.fresh sH Uk _,p,_,_,rfl,aB,r.mono s3 (r.mono sR (r.mono s2 hr)),r'.mono s3 (r'.mono sR S7)⟩
 ·refine⟨vs,Ru,aT.of (sH _ _ (sR _ _ VF)),aT.of (sH _ _ (sR _ _ Ul)),?_⟩
  rw[Mt] at hi
  rw[pp.length,RP.length]
  omega
end
end Fc
namespace Fc.ZT
open PySem PySem.Spec PyProof.Rows
section
variable {prog:Ob}{w:World}{A:Od}{E:Value->N5->Prop}{s:N5}
end
end Fc.ZT
namespace Fc
open PySem PySem.Spec PySem.W PySem.Calls L2
open PyProof.Rows hiding St
section
variable {X:Cx}{Γ Γ1 Γ2 Γ3:Ga}{α β γ δ:Type}{N:Ga->Prop}{T:RT}
theorem tup_ne {h:Heap}{l b:Addr}{QX:Array Value}{o:Obj}(p:IsTup h l QX)(e:h.get? b=some o)(hc:o.cls≠ .type "tuple"):l≠b:=λz=>by
 obtain⟨u,e',c,_⟩:=p
 rw[z,e] at e'
 cases e'
 exact hc c
end
end Fc
namespace Fc.ZT
open PySem PySem.Spec PyProof.Rows
section
variable {prog:Ob}{w:World}{A:Od}{E:Value->N5->Prop}{s:N5}
section
variable {z TI TO i1 i2 l1:Addr}{k1 k2:Nat}{xs:Array Value}{x a b:Value}{S1:Nat->Heap->Prop}{x2:Str}{t2:Tok}{y:Nat}
end
end
section
variable {prog:Ob}{w:World}{A:Od}{E:Value->N5->Prop}{s:N5}
end
end Fc.ZT
namespace Fc
open PySem PySem.Spec PySem.W PySem.Calls L2
open PyProof.Rows hiding St
section
variable {X:Cx}{Γ Γ1 Γ2 Γ3:Ga}{α β γ δ:Type}{N:Ga->Prop}{T:RT}
end
end Fc
namespace HT
open PySem PySem.Spec PyProof.Rows
section
variable {prog:Ob}{w:World}{A:Od}{E:Value->N5->Prop}{s:N5}
theorem mm {t sl:Addr}{items:Array Value}{vl vu:Value}{lo hi:Option Int}{Q:Value->N5->Prop}(ht:IsTup s.heap t items)(hs:s.heap.IsSliceOf sl vl vu .none)(pl:OZ vl lo)(pu:OZ vu hi)
 (hw:Rc items.size 0 lo=0/\Rc items.size items.size hi=items.size)
 (h:Q (.ref t) s):wpAny (model prog w) A (OT (.ref t) (.ref sl)) Q E s:=by
 obtain⟨os,UQ,hcs,VY⟩:=id hs
 have hTs:s.TypeIs (.ref sl) "slice":=⟨os,UQ,hcs⟩
 unfold OT
 try with_reducible refine OO ?_
 first | refine N6 (Oa ?_) | skip
 refine N6 (wpAny_sequenceKey ht.typeIs (by decide) ?_)
 refine N6 (Ou (name:=Qr "__getitem__") ht.typeIs NX
  (OI NX ht.typeIs entry_tuple_getitem ?_ (args_tuple_getitem _ _)))
 show wpAny _ _ (Builtin.Tuple.tupleItemsOf (.ref t) >>=_) _ _ s
 refine N6 (tupleItemsOf_ ht ?_)
 refine N6 (wpAny_typeOf hTs ?_)
 rw[if_pos (by decide)]
 refine N6 (i6 hs pl pu ?_)
 have hyes:(((Rc items.size 0 lo:Nat):Int)==0&&(1:Int)==1&&(Rc items.size items.size hi - Rc items.size 0 lo)==items.size)=true:=by
  rw[hw.1,hw.2];simp
 show wpAny _ _ (if(((Rc items.size 0 lo:Nat):Int)==0&&(1:Int)==1&&(Rc items.size items.size hi - Rc items.size 0 lo)==items.size)=true then _ else _) _ _ s
 rw[if_pos hyes]
 refine N6 ?_
 unfold Builtin.Tuple.tupleIsExact
 refine N6 (wpAny_typeOf ht.typeIs (Oa ?_))
 rw[if_pos (by decide)]
 exact N6 (O2 (Oa ⟨_,rfl,Oa h⟩))
end
end HT
namespace Fc
open PySem PySem.Spec PySem.W PySem.Calls L2
open PyProof.Rows hiding St
section
variable {X:Cx}{Γ Γ1 Γ2 Γ3:Ga}{α β γ δ:Type}{N:Ga->Prop}{T:RT}
variable {a:Expr}{pos:Pos}
def KI (K:QA):V->Option Int->Option Int->Hp->VK->Prop:=λx lo hi H Q=>∃a xs,x= .ref a/\de K H a xs/\
 (HT.Rc xs.length 0 lo=0/\HT.Rc xs.length xs.length hi=xs.length)/\Q x H
theorem Eh:wB X (KI X.K):=by
 intro QW s σ H x v vl vu lo hi sl Q I rx hs pl pu h
 obtain⟨a,xs,rfl,hx,hw,q⟩:=h
 cases rx
 obtain⟨QX,r,ht,hz⟩:=I.tuple hx
 have hlen:QX.toArray.size=xs.length:=by rw[LQ];exact r.length.symm
 refine⟨"tuple",_,NX.lookup,ht.typeIs,?_⟩
 exact HT.mm ht hs pl pu (by rw[hlen];exact hw) ⟨.ref a,H,I,rfl,q⟩
theorem Gg {lo hi:Option Expr}{p2:Pos}{xs:List PV}{l h:Option Int}(ha:EV X a Γ ax (.tup xs) Γ)(hl:OV X lo Γ l)(hh:OV X hi Γ h)(hw:HT.Rc xs.length 0 l=0/\HT.Rc xs.length xs.length h=xs.length):EV X (.Subscript a (.Slice lo hi none p2) pos) Γ ax (.tup xs) Γ:=by
 intro σ H0 R0 H R E Q q
 obtain⟨tl,pl,kl⟩:=hl
 obtain⟨th,ph,kh⟩:=hh
 refine eS (kz Eh aJ pl ph) (ha σ H0 R0 H R E _ λv H1 R1 E1 s1 e1=>kl σ H0 R0 H1 R1 E1 _ λH2 R2 E2 s2=>kh σ H0 R0 H2 R2 E2 _ λH3 R3 E3 s3=>?_)
 cases ax.mono (K:=X.K) (s2.trans s3) e1 with
 | @tup a' Ru _ hp pp=>
   exact⟨_,_,rfl,de.of (E3.sub _ _ hp),by rw[pp.pair.length];exact hw,q _ _ _ E3 (s1.trans (s2.trans s3)) (.tup hp pp)⟩
theorem EX {lo hi:Option Expr}{p2:Pos}{xs:List PV}{l h:Option Int}(ha:EV X a Γ ax (.tup xs) Γ)(hl:OV X lo Γ l)(hh:OV X hi Γ h):EV X (.Subscript a (.Slice lo hi none p2) pos) Γ ax (.tup (cut xs l h)) Γ:=by
 by_cases hw:HT.Rc xs.length 0 l=0/\HT.Rc xs.length xs.length h=xs.length
 ·have e:cut xs l h=xs:=by
   unfold cut
   rw[hw.1,hw.2]
   simp
  rw[e]
  exact Gg ha hl hh hw
 ·exact Fe ha hl hh hw
theorem o9 {b:Expr}{x y:Str}(ha:EV X a Γ ah x Γ1)(hb:EV X b Γ1 ah y Γ2)(hz:x.length + y.length<=N7):EV X (.BinOp a .Add b pos) Γ ah (x++y) Γ2:=iy vo ha hb λR v u H Q e1 e2 q=>⟨x,y,e1,e2,hz,q _ rfl⟩
theorem BZ {p:Pos}{x:Str}(hm:X.mg "len"=none)(ha:EV X a Γ ah x Γ1)(hz:x.length<=N7)(hs:N8 [a] X.env=[(false,eval a X.env)]:=by rfl)(hg:Gl X "len":=by rfl):EV X (.Call (.Name "len" p) [a] [] pos) Γ af (x.length:Int) Γ1:=by
 intro σ H0 R0 H R E Q q
 refine eS (dA qY hg hm OG (aV aJ bE hs) (by decide) (by decide) hs) (ha σ H0 R0 H R E _ λv H1 R1 E1 s1 e1=>?_)
 cases e1
 exact⟨x,rfl,hz,q _ H1 R1 E1 s1 rfl⟩
theorem B3 {H:Hp}{p:Addr}{a b:HO}:upd (upd H p a) p b=upd H p b:=by
 funext c
 by_cases h:c=p
 ·subst h;rw[aB,aB]
 ·rw[aF h,aF h,aF h]
end
section
variable {X:Cx}{Γ:Ga}{pos:Pos}
def AY (i j:Int):Prop:=0 < j/\j<=1000000000000000000
theorem y4:dw X (OH .FloorDiv) (rI AY λi j=>.int (i / j)):=u5 λi j _ _ _ _ _ hc q=>by
 have h1:(0:Int) < j:=hc.1
 have h2:j<=1000000000000000000:=hc.2
 exact floordiv_int (by omega) (by rw[Int.fdiv_eq_ediv_of_nonneg i (by omega)];exact q) (.inl (PyProof.noPylong_of_log2 (Nq ((Nat.log2_lt (by omega)).mpr (show j.natAbs < 2 ^ 60 by omega)) (by decide))))
theorem bL {N N1:Ga->Prop}{T:RT}{st:Stmt}{rest:List Stmt}(h1:W1 X st Γ N1 T)(h2:∀Γ',N1 Γ'->WS X rest Γ' N T):WS X (st::rest) Γ N T:=aj λσ H0 R0 H R E D dn dr=>h1 σ H0 R0 H R E D (λσ' H' R' Γ' E' s' n=>dn σ' H' R' Γ' E' s' (h2 Γ' n)) dr
theorem ky {Γ1 Γ2:Ga}{a b:Expr}{x y:Int}(ha:EV X a Γ af x Γ1)(hb:EV X b Γ1 af y Γ2)(h:AY x y):EV X (.BinOp a .FloorDiv b pos) Γ af (x / y) Γ2:=iy y4 ha hb λR v u H Q e1 e2 q=>⟨x,y,e1,e2,h,q _ rfl⟩
theorem AH {x y:Int}(h0:0<=x)(h1:x < 2 ^ 63):Pt x y:=.of_left (O9 (by omega) (by omega))
def jA (x:Str)(i:Nat):Str:=⟨#[x.cps.getD i 0]⟩
theorem xw {Γ1 Γ2:Ga}{a b:Expr}{x:Str}{i:Int}(ha:EV X a Γ ah x Γ1)(hb:EV X b Γ1 af i Γ2)(h0:0<=i)(h1:i < (x.length:Int))(hz:x.length<=N7)(hs:dU b:=by exact λ_ _=>rfl):EV X (.Subscript a b pos) Γ ah (jA x i.toNat) Γ2:=by
 intro σ H0 R0 H R E Q q
 refine eS (gW Fb aJ aJ hs) (ha σ H0 R0 H R E _ λv H1 R1 E1 s1 e1=>hb σ H0 R0 H1 R1 E1 _ λu H2 R2 E2 s2 e2=>?_)
 cases e1
 cases e2
 refine⟨x,i,x.cps.getD i.toNat 0,rfl,rfl,hz,?_,q _ H2 R2 E2 (s1.trans s2) rfl⟩
 have hl:x.cps.toList.length=x.length:=by simp[Str.length]
 rw[nM h0 (by omega),LD (by omega)]
 have:i.toNat < x.cps.size:=by have:x.length=x.cps.size:=rfl;omega
 simp[Array.getD,this]
theorem CK {N:Ga->Prop}{α β:Type}(i j:Nat){x:Str}{p1:Pos}{a:Addr}{r:Rep α}{xs:List α}{r':Rep β}{ys:List β}{P:List α->List β->Prop}(hΓ:Γ[i]?=some (.ob (bM a r xs)))(hj:Γ[j]?=some (.mu r' ys))(hz:ys.length<=N7)(h:P xs ys)(hN:X.N[j]?=some x:=by rfl)(hv:autoParam (cG X.env.scope x) RE)
 (hd:Rh x:=by decide) (Q4:RG x:=by decide):W1 X (.Return (some (.Name x p1)) pos) Γ N (wY X.K a r λxs'=>pA X.K r' (P xs')):=λσ H0 R0 H R E D dn dr=>by
 obtain⟨b,vs,eb,hb,hR,pp⟩:=E.ent j _ hj
 obtain⟨ea,⟨ws,ha,pa⟩,hRa⟩:=fq (E.ent i _ hΓ)
 exact sS (ic (bp hN hv hd Q4)) ⟨.ref b,at_of eb,dr _ H R E.ext ⟨ws,xs,ha,hRa,pa,b,vs,ys,rfl,E.new j _ b hj rfl eb,hb,hR,pp,hz,h⟩⟩
end
section
variable {X:Cx}{Γ Γ1 Γ2:Ga}{α β:Type}{N:Ga->Prop}{T:RT}
variable {x:Str}
theorem jN {K:QA}{R:Hp}:∀{vs:List V} {xs:Li},PySem.Paired (ah.R K R) vs xs->vs=xs.map V.str
 | _,_,.nil=>rfl
 | _,_,.cons h t=>by rw[Me,← jN t];exact congrArg (· ::_) h
theorem sO {xs:Li}:fM X .In ah (ae ah) x xs (decide (x∈xs)):=⟨_,pP,λR H v u Q s e1 e2 q=>by
 cases e1
 obtain⟨a,vs,rfl,hq,p,_⟩:=e2
 have e:=jN p
 subst e
 exact⟨a,_,rfl,.inl (aT.of (s _ _ hq)),rfl,jo xs,by rw[if_neg Lp,kB];exact q⟩⟩
theorem vZ {r:Rep α}{S:jO α}{y:Str}{k:Nat}{es:Lm}{p p1 pos:Pos}{ps:List Pk}{xs:List α}{TM:List α->RT}{Q:VK}{σ:St}{H0 R0 H R:Hp}(i:Nat)(C:aI X.prog X.w X.K X.mg X.base x k (eE r S X.K))(hr:bI k X.A)(ha:HA X es Γ ps Γ1)(hΓ:Γ[i]?=some (.mu r xs))(hΓ1:Γ1[i]?=some (.mu r xs))(hS:S X.K xs ps TM)(E:au X.K σ H0 R0 H R Γ)
 (q:∀a H1 R1 v H' R' xs',(σ[i]?).join=some (.ref a)->au X.K σ H0 R0 H1 R1 Γ1->au X.K σ H0 R0 H' R' (Γ1.set i (.mu r xs'))->ar R R'->TM xs' (del H1 a) v H' R'->Q v H')
 (hg:Gl X x) (RN:(x==("__debug__":Str))=false) (he:N8 (.Name y p1::es) X.env=(false,eval (.Name y p1) X.env)::N8 es X.env) (Rj:(Oe pos (N8 es X.env)).any (·.1)=false)
 (hN:X.N[i]?=some y) (hv:cG X.env.scope y) (hd:(y==("__debug__":Str))=false) (Q4:(y==("__classdict__":Str))=false):eQ X (.Call (.Name x p) (.Name y p1::es) [] pos) σ H Q:=by
 obtain⟨f,fd,pn,F,hm,hk,hb⟩:=C.ex
 obtain⟨a,vs,ea,_,_,_⟩:=E.ent i _ hΓ
 refine eS (oF F hr hg hm hk hb .nil qg (aV (bp hN hv hd Q4) jS he) RN he Rj) ⟨.ref a,at_of ea,ha σ H0 R0 H R E _ λus H1 R1 E1 s1 p1=>?_⟩
 obtain⟨a',ws,Ry,hp,hR,pp⟩:=E1.ent i _ hΓ1
 rw[ea] at Ry;cases Ry
 have h0:H0 a=none:=E1.new i _ a hΓ1 rfl ea
 refine⟨R1,a,ws,xs,us,ps,TM,by rw[Mh],E1.sub,hR,hp,pp,p1,hS,λv H' R' SJ xs' xx h1 h2 pq t=>q a H1 R1 v H' R' xs' ea E1 ?_ (s1.trans xx.r) t⟩
 have apart:∀(j:Nat) (e:Ent),j≠i->Γ1[j]?=some e->a∉e.fp (σ[j]?).join:=λj e hj qj w=>hj (E1.ds j i e _ a qj hΓ1 w (bX.mpr ea))
 have E2:au X.K σ H0 R0 H1 R1 (Γ1.set i .no):=E1.tell hΓ1 trivial λb w=>by cases w
 have E3:=E2.A6 (a:=a) (λj e qj w=>by
  rcases set_at qj with⟨rfl,rfl,_⟩ | ⟨hj,q1⟩
  ·cases w
  ·exact apart j e hj q1 w) h0 xx
 have hl:i < Γ1.length:=(LC.mp hΓ1).1
 have E4:=E3.nk (i:=i) (e0:=.no) (en:=.mu r xs') (LZ hl) (by rw[ea];exact⟨a,SJ,rfl,h1,h2,pq⟩) λb w=>by
  have eb:b=a:=by rw[bX.mp w] at ea;cases ea;rfl
  subst eb
  exact⟨h0,λj e hj qj=>apart j e hj (by rwa [Mf (NN hj)] at qj)⟩
 rw[Nc] at E4
 exact E4
theorem w9 (i:Nat){r:Rep α}{S:jO α}{y:Str}{k:Nat}{es:Lm}{p p1 pos:Pos}{ps:List Pk}{xs st:List α}{rr:Rep β}{zs:List β}(C:aI X.prog X.w X.K X.mg X.base x k (eE r S X.K))(hr:bI k X.A)(ha:HA X es Γ ps Γ1)(hΓ:Γ[i]?=some (.mu r xs))(hΓ1:Γ1[i]?=some (.mu r xs))(hS:S X.K xs ps (λxs'=>pA X.K rr λw=>xs'=st/\w=zs))(Q7:∀(R:Hp) (vs:List V),PySem.Paired (r.R X.K R) vs st->PySem.Paired (rr.R X.K R) vs zs->False)
 (hg:Gl X x:=by rfl) (RN:Rh x:=by decide) (he:N8 (.Name y p1::es) X.env=(false,eval (.Name y p1) X.env)::N8 es X.env:=by rfl) (Rj:(Oe pos (N8 es X.env)).any (·.1)=false:=by rfl)
 (hN:X.N[i]?=some y:=by rfl) (hv:autoParam (cG X.env.scope y) RE) (hd:Rh y:=by decide) (Q4:RG y:=by decide):
 aW X (.Call (.Name x p) (.Name y p1::es) [] pos) Γ rr zs (Γ1.set i (.mu r st)):=λσ H0 R0 H R E Q q=>
 vZ i C hr ha hΓ hΓ1 hS E (λa H1 R1 v H' R' xs' ea E1 E' s' t=>by
  obtain⟨b,vs,ys,rfl,h0,h1,h2,pp,hz,rfl,rfl⟩:=t
  have hba:b≠a:=λz=>by
   subst z
   obtain⟨a',ws,Ry,Ul,_,RP⟩:=E'.ent i _ (LZ (LC.mp hΓ1).1)
   rw[ea] at Ry;cases Ry
   rw[h1] at Ul;cases Ul
   exact Q7 _ _ RP pp
  have h0:H1 b=none:=by
   unfold del at h0
   rwa [if_neg hba] at h0
  refine q b vs H' R' E' s' h1 h2 (E1.ext.h.free h0) (λj e qj w=>?_) pp hz
  rcases set_at qj with⟨rfl,rfl,_⟩ | ⟨hj,q1⟩
  ·exact E1.off h0 _ _ hΓ1 w
  ·exact E1.off h0 j e q1 w) hg RN he Rj hN hv hd Q4
end
section
variable {X:Cx}{Γ Γ1 Γ2 Γ3:Ga}{α β γ δ:Type}{N:Ga->Prop}{T:RT}
variable {r:Rep α}{as:Lk}{Rk:List (List α)}{H R:Hp}{x:Str}{p1:Pos}{a:Addr}{K:QA}{b:Addr}{j:Nat}{pos:Pos}{xs:List α}
def fw (K:QA)(r:Rep α)(H R:Hp)(as:Lk)(Rk:List (List α)):Prop:=as.length=Rk.length/\∀(i:Nat) (b:Addr) (xs:List α),as[i]?=some b->Rk[i]?=some xs->∃ws,H b=some (.lst ws)/\PySem.Paired (r.R K R) ws xs
theorem fw.one (h:fw K r H R as Rk)(hb:b∈as):∃ws,H b=some (.lst ws):=by
 obtain⟨i,hi,rfl⟩:=MV.mp hb
 obtain⟨ws,h1,_⟩:=h.2 i _ _ (LD hi) (LD (by rw[← h.1];exact hi))
 exact⟨ws,h1⟩
theorem fw.loc {H' R':Hp}(h:fw K r H R as Rk)(e:∀a∈as,H' a=H a)(s:ar R R'):fw K r H' R' as Rk:=
 ⟨h.1,λi b xs h1 h2=>by
   obtain⟨ws,q1,q2⟩:=h.2 i b xs h1 h2
   exact⟨ws,(e b (LO h1)).trans q1,Paired.map (λ_ _=>r.mono s) q2⟩⟩
theorem fw.put (h:fw K r H R as Rk)(nd:as.Nodup){ws:List V}(hb:as[j]?=some b)(hp:PySem.Paired (r.R K R) ws xs):fw K r (upd H b (.lst ws)) R as (Rk.set j xs):=by
 refine⟨by rw[Ml];exact h.1,λi c q h1 h2=>?_⟩
 by_cases VT:i=j
 ·subst VT
  rw[hb] at h1;cases h1
  have hl:i < Rk.length:=by rw[← h.1];exact(LC.mp hb).1
  rw[LZ hl] at h2;cases h2
  exact⟨ws,aB,hp⟩
 ·rw[Mf (NN VT)] at h2
  have:c≠b:=λz=>by
   subst z
   have l1:=(LC.mp h1)
   have l2:=(LC.mp hb)
   exact VT ((M5 (h₀:=l1.1) (h₁:=l2.1) nd).mp (l1.2.trans l2.2.symm))
  rw[aF this];exact h.2 i c q h1 h2
theorem fw.snoc (h:fw K r H R as Rk){ws:List V}(hb:H b=some (.lst ws))(hp:PySem.Paired (r.R K R) ws xs):fw K r H R (as++[b]) (Rk++[xs]):=by
 refine⟨by rw[LL,LL,h.1];rfl,λi c q h1 h2=>?_⟩
 rcases Nv i as.length with hl | hl
 ·rw[L4 hl] at h1
  rw[L4 (by rw[← h.1];exact hl)] at h2
  exact h.2 i c q h1 h2
 ·rw[L8 hl] at h1
  rw[L8 (by rw[← h.1];exact hl)] at h2
  have e:i - as.length=0:=by
   have:=(LC.mp h1).1
   simp at this;omega
  rw[e] at h1
  rw[← h.1,e] at h2
  simp at h1 h2
  rw[← h1,← h2];exact⟨ws,hb,hp⟩
def dk (r:Rep α)(a:Addr)(as:Lk)(Rk:List (List α)):uL where
 fp:=a::as
 R:=λK H R v=>v= .ref a/\H a=some (.lst (as.map .ref))/\fw K r H R as Rk/\(a::as).Nodup
 loc:=λhH hR ⟨e,h1,h2,h3⟩=>⟨e,(hH a LP).trans h1,h2.loc (λb hb=>hH b (LN _ hb)) hR,h3⟩
 has:=λ⟨e,h1,h2,h3⟩ b hb=>by
  rcases LV.mp hb with rfl | hb
  ·rw[h1];exact NR _
  ·obtain⟨r,hr⟩:=h2.one hb
   rw[hr];exact NR _
theorem WS.Iq (i:Nat){S9:List Stmt}{rr:Rep β}(hΓ:Γ[i]?=some (.mu rr []))(h:∀a,WS X S9 (Γ.set i (.ob (dk r a [] []))) N T):WS X S9 Γ N T:=λσ H0 R0 H R E D dn dr=>by
 obtain⟨a,vs,ea,ha,hR,pp⟩:=E.ent i _ hΓ
 cases pp
 refine h a σ H0 R0 H R (E.tell hΓ ⟨⟨.ref a,ea,rfl,ha,⟨rfl,λi b r h1=>by simp at h1⟩,by simp⟩,λb hb=>?_⟩ λb w=>?_) D dn dr
 ·rw[show b=a by simpa[dk] using hb];exact hR
 ·rw[show b=a by simpa[Ent.fp,dk] using w];exact bX.mpr ea
theorem yq {k:Int}(hk:eD as.length k=some j)(hb:as[j]?=some b):bV (as.map V.ref) k=some (.ref b):=by
 unfold bV
 rw[LJ,hk]
 show(as.map V.ref)[j]?=_
 rw[LM,hb];rfl
theorem F4 (i:Nat){b:Expr}{p2:Pos}{k:Int}{σ:St}{H0 R0:Hp}{Q:VK}(hb:EV X b Γ af k Γ)(hΓ:Γ[i]?=some (.ob (dk r a as Rk)))(hk:eD Rk.length k=some j)(E:au X.K σ H0 R0 H R Γ)
 (q:∀c H' R',au X.K σ H0 R0 H' R' Γ->ar R R'->as[j]?=some c->Q (.ref c) H')
 (hN:X.N[i]?=some x) (hv:cG X.env.scope x) (hd:(x==("__debug__":Str))=false) (Q4:(x==("__classdict__":Str))=false) (UM:dU b):eQ X (.Subscript (.Name x p1) b p2) σ H Q:=by
 obtain⟨⟨v,ea,rfl,ha,hr,_⟩,hR⟩:=E.ent i _ hΓ
 refine eS (gW gU (bp hN hv hd Q4) aJ UM) ⟨.ref a,at_of ea,hb σ H0 R0 H R E _ λu H2 R2 E2 s2 e2=>?_⟩
 obtain⟨⟨v,U3,e3,T5,S6,nd⟩,TK⟩:=E2.ent i _ hΓ
 have hl:j < as.length:=by rw[S6.1];exact(lS hk).2.1
 exact⟨a,_,k,.ref as[j],rfl,e2,aT.of T5,yq (by rw[S6.1];exact hk) (LD hl),q _ H2 R2 E2 s2 (LD hl)⟩
theorem vT (i:Nat){b e:Expr}{p2 ap cp:Pos}{k:Int}{y:α}(hb:EV X b Γ af k Γ)(he:EV X e Γ r y Γ)(hΓ:Γ[i]?=some (.ob (dk r a as Rk)))(hk:eD Rk.length k=some j)(hx:Rk[j]?=some xs)(hz:xs.length < N7)(h:N (Γ.set i (.ob (dk r a as (Rk.set j (xs++[y]))))))
 (hN:X.N[i]?=some x:=by rfl) (hv:autoParam (cG X.env.scope x) RE)
 (hd:Rh x:=by decide) (Q4:RG x:=by decide) (UM:dU b:=by exact λ_ _=>rfl)
 (Sb:Of (.Call (.Attribute (.Subscript (.Name x p1) b p2) "append" ap) [e] [] cp) none pos.line X.env=pure false:=by rfl)
 (Ra:Oc (.Subscript (.Name x p1) b p2) "append" X.env (eval (.Subscript (.Name x p1) b p2) X.env)=eval (.Subscript (.Name x p1) b p2) X.env:=by rfl)
 (Rt:((Oe cp (N8 [e] X.env)).all (λx=> !x.1)&&(OJ cp (Ow [] X.env)).all (λx=>x.1.isSome)
  &&decide ([e].length + ([]:List Oi).length + (if([]:List Oi).isEmpty then 0 else 1) < 30))=true:=by rfl)
 (Q9:(ap.endLine==cp.line)=true:=by rfl) (hs:N8 [e] X.env=(false,eval e X.env)::N8 [] X.env:=by rfl):W1 X (.Expr (.Call (.Attribute (.Subscript (.Name x p1) b p2) "append" ap) [e] [] cp) pos) Γ N T:=λσ H0 R0 H R E D dn dr=>by
 refine sS (fZ (gZ PZ P1 P2 ju aJ (aV aJ bE hs) Ra Rt Q9 hs rfl) Sb) ?_
 refine F4 i hb hΓ hk E (λc H1 R1 E1 s1 hc=>?_) hN hv hd Q4 UM
 obtain⟨⟨v,ea1,rfl,ha1,hr1,nd1⟩,hR1⟩:=E1.ent i _ hΓ
 obtain⟨ws1,q1,q2⟩:=hr1.2 j c xs hc hx
 refine⟨.inl ⟨rfl,_,aT.of q1⟩,he σ H0 R0 H1 R1 E1 _ λu H2 R2 E2 s2 e2=>?_⟩
 obtain⟨⟨v,U3,rfl,T5,S6,UG⟩,TK⟩:=E2.ent i _ hΓ
 obtain⟨ws2,q1,q2⟩:=S6.2 j c xs hc hx
 obtain⟨n1,n2⟩:=Mg.mp UG
 have cm:c∈as:=LO hc
 refine⟨c,ws2,u,rfl,rfl,q1,by rw[q2.length];exact hz,?_⟩
 refine dn σ _ R2 _ (E2.mK (en:=.ob (dk r a as (Rk.set j (xs++[y])))) hΓ (LN _ cm) ⟨⟨.ref a,U3,rfl,?_,S6.put n2 hc (cY q2 (.cons e2 .nil)),UG⟩,TK⟩ λc w=>.inl w) (s1.trans s2) h
 rw[aF (show a≠c from λz=>n1 (z▸cm))];exact T5
theorem wd (i:Nat){e:Expr}{ap cp:Pos}{ys:List α}(he:aW X e Γ r ys Γ1)(hΓ:Γ[i]?=some (.ob (dk r a as Rk)))(hΓ1:Γ1[i]?=some (.ob (dk r a as Rk)))(hz:Rk.length < N7)(h:∀b,N (Γ1.set i (.ob (dk r a (as++[b]) (Rk++[ys])))))
 (hN:X.N[i]?=some x:=by rfl) (hv:autoParam (cG X.env.scope x) RE)
 (hd:Rh x:=by decide) (Q4:RG x:=by decide)
 (Sb:Of (.Call (.Attribute (.Name x p1) "append" ap) [e] [] cp) none pos.line X.env=pure false:=by rfl)
 (Ra:Oc (.Name x p1) "append" X.env (eval (.Name x p1) X.env)=eval (.Name x p1) X.env:=by rfl)
 (Rt:((Oe cp (N8 [e] X.env)).all (λx=> !x.1)&&(OJ cp (Ow [] X.env)).all (λx=>x.1.isSome)
  &&decide ([e].length + ([]:List Oi).length + (if([]:List Oi).isEmpty then 0 else 1) < 30))=true:=by rfl)
 (Q9:(ap.endLine==cp.line)=true:=by rfl) (hs:N8 [e] X.env=(false,eval e X.env)::N8 [] X.env:=by rfl):W1 X (.Expr (.Call (.Attribute (.Name x p1) "append" ap) [e] [] cp) pos) Γ N T:=λσ H0 R0 H R E D dn dr=>by
 obtain⟨⟨v,ea,rfl,ha,hr,_⟩,hR⟩:=E.ent i _ hΓ
 refine sS (fZ (gZ PZ P1 P2 ju (bp hN hv hd Q4) (aV aJ bE hs) Ra Rt Q9 hs rfl) Sb) ?_
 refine⟨.ref a,at_of ea,.inl ⟨rfl,_,aT.of ha⟩,he σ H0 R0 H R E _ λb vs H2 R2 E2 s2 hb hRb h0b Vo pp _=>?_⟩
 obtain⟨⟨v,U3,rfl,T5,S6,UG⟩,TK⟩:=E2.ent i _ hΓ1
 obtain⟨n1,n2⟩:=Mg.mp UG
 have hl:as.length=Rk.length:=S6.1
 have bne:b∉a::as:=λz=>Vo i _ hΓ1 z
 have bna:b≠a:=λz=>bne (z▸LP)
 refine⟨a,_,.ref b,rfl,rfl,T5,by rw[LJ,hl];exact hz,?_⟩
 refine dn σ _ R2 _ (E2.mK (en:=.ob (dk r a (as++[b]) (Rk++[ys]))) hΓ1 LP ⟨⟨.ref a,U3,rfl,?_,?_,?_⟩,λc hc=>?_⟩ λc w=>?_) s2 (h b)
 ·rw[aB,L5];rfl
 ·refine(S6.snoc hb pp).loc (λc hc=>aF λz=>?_) (ar.refl _)
  rw[z] at hc
  rcases LW.mp hc with q | q
  ·exact n1 q
  ·exact bna (LH.mp q).symm
 ·refine Mg.mpr ⟨λz=>?_,fY n2 λz=>bne (LN _ z)⟩
  rcases LW.mp z with q | q
  ·exact n1 q
  ·exact bna (LH.mp q).symm
 ·rcases LV.mp hc with rfl | hc
  ·exact TK _ LP
  ·rcases LW.mp hc with q | q
   ·exact TK _ (LN _ q)
   ·rw[LH.mp q];exact hRb
 ·rcases LV.mp w with rfl | w
  ·exact .inl LP
  ·rcases LW.mp w with q | q
   ·exact .inl (LN _ q)
   ·rw[LH.mp q];exact .inr ⟨h0b,Vo⟩
def Jy (K:QA)(r:Rep α)(P:List (List α)->Prop):RT:=λH0 v H' R'=>∃a as Rk,v= .ref a/\(∀b∈a::as,H0 b=none/\R' b=none)/\H' a=some (.lst (as.map .ref))/\fw K r H' R' as Rk/\(a::as).Nodup/\P Rk
theorem GF (i:Nat){P:List (List α)->Prop}(hΓ:Γ[i]?=some (.ob (dk r a as Rk)))(h:P Rk)(hN:X.N[i]?=some x:=by rfl)(hv:autoParam (cG X.env.scope x) RE)
 (hd:Rh x:=by decide) (Q4:RG x:=by decide):W1 X (.Return (some (.Name x p1)) pos) Γ N (Jy X.K r P):=λσ H0 R0 H R E D dn dr=>by
 obtain⟨⟨v,ea,rfl,ha,hr,nd⟩,hR⟩:=E.ent i _ hΓ
 exact sS (ic (bp hN hv hd Q4)) ⟨.ref a,at_of ea,dr _ H R E.ext ⟨a,as,Rk,rfl,λb hb=>⟨E.nw i _ b hΓ hb,hR b hb⟩,ha,hr,nd,h⟩⟩
def jz (R H:Hp)(l:Lk):Hp:=λb=>if b∈l then H b else R b
theorem B6 (i:Nat){P:List (List α)->Prop}(hΓ:Γ[i]?=some (.ob (dk r a as Rk)))(hz:Rk.length<=N7)(U9:∀xs∈Rk,xs.length<=N7)(h:P Rk)(hN:X.N[i]?=some x:=by rfl)(hv:autoParam (cG X.env.scope x) RE)
 (hd:Rh x:=by decide) (Q4:RG x:=by decide):W1 X (.Return (some (.Name x p1)) pos) Γ N (pA X.K (ae r) P):=λσ H0 R0 H R E D dn dr=>by
 obtain⟨⟨v,ea,rfl,ha,hr,nd⟩,hR⟩:=E.ent i _ hΓ
 obtain⟨n1,n2⟩:=Mg.mp nd
 have sR:ar R (jz R H as):=λb o q=>by
  unfold jz
  split
  ·rename_i hb
   rw[hR b (LN _ hb)] at q;cases q
  ·exact q
 have sH:ar (jz R H as) H:=λb o q=>by
  unfold jz at q
  split at q
  ·exact q
  ·exact E.sub b o q
 have pr:PySem.Paired ((ae r).R X.K (jz R H as)) (as.map .ref) Rk:=by
  have key:∀(bs:Lk) (RH:List (List α)),(∀b∈bs,b∈as)->fw X.K r H R bs RH->(∀xs∈RH,xs.length<=N7)->PySem.Paired ((ae r).R X.K (jz R H as)) (bs.map .ref) RH:=by
   intro bs
   induction bs with
   | nil=>intro RH _ h _;cases RH with
     | nil=>exact .nil
     | cons _ _=>exact absurd h.1 (by simp)
   | cons b bs ih=>intro RH hm h hz;cases RH with
     | nil=>exact absurd h.1 (by simp)
     | cons ys RH=>
       obtain⟨ws,q1,q2⟩:=h.2 0 b ys rfl rfl
       refine .cons ⟨b,ws,rfl,?_,Paired.map (λ_ _=>r.mono sR) q2,hz ys LP⟩ (ih RH (λc hc=>hm c (LN _ hc)) ⟨by simpa using h.1,λi c xs h1 h2=>h.2 (i + 1) c xs (by simpa using h1) (by simpa using h2)⟩ λxs hx=>hz xs (LN _ hx))
       unfold jz
       rw[if_pos (hm b LP)];exact q1
  exact key as Rk (λ_ h=>h) hr U9
 refine sS (ic (bp hN hv hd Q4)) ⟨.ref a,at_of ea,dr _ H (jz R H as) ⟨E.ext.h,E.ext.r.trans sR,sH,λb hb=>?_⟩ ⟨a,_,Rk,rfl,E.nw i _ a hΓ LP,ha,?_,pr,hz,h⟩⟩
 ·unfold jz
  rw[if_neg λz=>hb (E.nw i _ b hΓ (LN _ z))]
  exact E.ext.old b hb
 ·unfold jz
  rw[if_neg n1];exact hR a LP
end
section
variable {X:Cx}{Γ Γ1 Γ2 Γ3:Ga}{α β γ δ:Type}{N:Ga->Prop}{T:RT}
variable {r:Rep α}{a:Addr}{p1 pos:Pos}{as:Lk}{Rk:List (List α)}{n:Nat}
theorem oU {a b:Expr}{p2 Sx:Pos}{m n:Int}(UW:X.mg "list"=none)(hmr:X.mg "range"=none)(ha:HA X [a,b] Γ [⟨af,m⟩,⟨af,n⟩] Γ1)(hm: -1000000<=m/\m<=1000000)(hn: -1000000<=n/\n<=1000000)(hs:N8 [a,b] X.env=(false,eval a X.env)::N8 [b] X.env:=by rfl)(Rj:(Oe Sx (N8 [b] X.env)).any (·.1)=false:=by rfl)
 (RA:N8 [.Call (.Name "range" p2) [a,b] [] Sx] X.env=[(false,eval (.Call (.Name "range" p2) [a,b] [] Sx) X.env)]:=by rfl) (hc:X.calm=true:=by rfl) (hg:Gl X "list":=by rfl) (hgr:Gl X "range":=by rfl):aW X (.Call (.Name "list" p1) [.Call (.Name "range" p2) [a,b] [] Sx] [] pos) Γ af (ups m (n - m).toNat) Γ1:=by
 intro σ H0 R0 H R E Q q
 refine eS (f6 (kQ hc) hg UW NZ (aV (f6 oy hgr hmr N3 jS (by decide) (by decide) hs Rj) bE RA) (by decide) (by decide) RA) (ha σ H0 R0 H R E _ λvs H1 R1 E1 s1 e1=>?_)
 have e:vs=[.int m,.int n]:=by
  cases e1 with
  | cons a1 t=>cases t with
    | cons a2 t=>cases t;cases a1;cases a2;rfl
 subst e
 refine⟨m,n,rfl,λp hp=>⟨p,m,n,rfl,aB,hm.1,hm.2,hn.1,hn.2,λd hd=>?_⟩⟩
 have E2:=E1.grow (Ext.dP E1.sub hp (.Tu m n))
 exact q d _ _ R1 (E2.grow (Ext.dP E2.sub hd _)) s1 aB (E2.sub.free hd) (E2.ext.h.free hd) (E2.off hd) (paired_ints _) (by rw[a8];exact Nn (show(n - m).toNat<=2000000 by omega) (by decide))
theorem au.Lb {K:QA}{σ:St}{H0 R0 H R:Hp}{i:Nat}{B:uL}(E:au K σ H0 R0 H R Γ)(hΓ:Γ[i]?=some (.ob B)):au K σ H0 R0 H (λb=>if b∈B.fp then H b else R b) (Γ.set i .no)/\ar R (λb=>if b∈B.fp then H b else R b):=by
 have h0:∀b∈B.fp,H0 b=none:=λb hb=>E.nw i _ b hΓ hb
 have hR:∀b∈B.fp,R b=none:=(E.ent i _ hΓ).2
 have sR:ar R (λb=>if b∈B.fp then H b else R b):=λb o q=>by
  show(if b∈B.fp then H b else R b)=some o
  rw[if_neg λw=>by rw[hR b w] at q;cases q];exact q
 refine⟨⟨⟨E.ext.h,E.ext.r.trans sR,λb o q=>?_,λb hb=>?_⟩,λj e q=>?_,λj e b q w=>?_,λj k e e' b q q' w w'=>?_,by rw[Ml];exact E.len⟩,sR⟩
 ·have q:(if b∈B.fp then H b else R b)=some o:=q
  by_cases hb:b∈B.fp
  ·rw[if_pos hb] at q;exact q
  ·rw[if_neg hb] at q;exact E.sub b o q
 ·show(if b∈B.fp then H b else R b)=_
  rw[if_neg λw=>hb (h0 b w)];exact E.ext.old b hb
 ·rcases set_at q with⟨rfl,rfl,_⟩ | ⟨hj,q1⟩
  ·trivial
  ·have h1:=E.ent j e q1
   refine h1.loc (λb hb=>rfl) sR λb hb=>?_
   show(if b∈B.fp then H b else R b)=none
   rw[if_neg (show¬b∈B.fp from λw=>hj (E.ds j i e _ b q1 hΓ hb w))];exact(Ent.gq h1 hb).2
 ·rcases set_at q with⟨rfl,rfl,_⟩ | ⟨hj,q1⟩
  ·cases w
  ·exact E.nw j e b q1 w
 ·rcases set_at q with⟨rfl,rfl,_⟩ | ⟨hj,q1⟩
  ·cases w
  ·rcases set_at q' with⟨rfl,rfl,_⟩ | ⟨hk,Ss⟩
   ·cases w'
   ·exact E.ds _ _ _ _ b q1 Ss w w'
theorem fw.pair {K:QA}{H R R':Hp}(sR:ar R R'):∀{bs:Lk} {RH:List (List α)},(∀b∈bs,R' b=H b)->fw K r H R bs RH->(∀xs∈RH,xs.length<=N7)->PySem.Paired ((ae r).R K R') (bs.map .ref) RH
 | [],[],_,_,_=>.nil
 | [],_::_,_,h,_=>absurd h.1 (by simp)
 | _::_,[],_,h,_=>absurd h.1 (by simp)
 | b::bs,ys::RH,hm,h,hz=>by
   obtain⟨ws,q1,q2⟩:=h.2 0 b ys rfl rfl
   exact .cons ⟨b,ws,rfl,(hm b LP).trans q1,Paired.map (λ_ _=>r.mono sR) q2,hz ys LP⟩ (fw.pair sR (λc hc=>hm c (LN _ hc)) ⟨by simpa using h.1,λi c xs h1 h2=>h.2 (i + 1) c xs (by simpa using h1) (by simpa using h2)⟩ λxs hx=>hz xs (LN _ hx))
theorem WS.HF (i:Nat){S9:List Stmt}(hΓ:Γ[i]?=some (.ob (dk r a as Rk)))(hz:Rk.length<=N7)(U9:∀xs∈Rk,xs.length<=N7)(h:WS X S9 (Γ.set i (.im (ae (ae r)) Rk)) N T):WS X S9 Γ N T:=λσ H0 R0 H R E D dn dr=>by
 obtain⟨⟨v,ea,rfl,ha,hr,nd⟩,hR⟩:=E.ent i _ hΓ
 obtain⟨E1,sR⟩:=E.Lb hΓ
 have hl:i < Γ.length:=(LC.mp hΓ).1
 have E2:=E1.tell (i:=i) (e0:=.no) (en:=.im (ae (ae r)) Rk) (LZ hl) ⟨.ref a,ea,a,_,rfl,(if_pos LP).trans ha,fw.pair sR (λb hb=>if_pos (LN _ hb)) hr U9,hz⟩ λb w=>by cases w
 rw[Nc] at E2
 exact h σ H0 R0 H _ E2 D (λσ2 H2 R2 Γ2 E3 s2=>dn σ2 H2 R2 Γ2 E3 (sR.trans s2)) dr
theorem BF (i j:Nat){x y:Str}{b:Expr}{p p2:Pos}{k:Int}(hb:EV X b Γ af k Γ1)(hΓ:Γ[i]?=some (.ob (dk r a as Rk)))(hΓ1:Γ1[i]?=some (.ob (dk r a as Rk)))(hk:eD Rk.length k=some n)(h:∀c,as[n]?=some c->N (Γ1.set j (.im oq c)))
 (hNx:X.N[i]?=some x:=by rfl) (hv:autoParam (cG X.env.scope x) RE)
 (hd:Rh x:=by decide) (Q4:RG x:=by decide) (UM:dU b:=by exact λ_ _=>rfl)
 (hN:X.N.Nodup:=by first | assumption | decide) (hi:X.N[j]?=some y:=by rfl) (hx:autoParam (Loc X.env.scope y) SY)
 (hs:Of (.Subscript (.Name x p) b p2) (some (.Name y p1)) pos.line X.env=pure false:=by rfl) (hf:autoParam (X.fn y=true∨X.env.scope.names.lookup y=some .local) SX):
 W1 X (.Assign [.Name y p1] (.Subscript (.Name x p) b p2) pos) Γ N T:=λσ H0 R0 H R E D dn dr=>by
 obtain⟨⟨v,ea,rfl,ha,hr,_⟩,hR⟩:=E.ent i _ hΓ
 refine sS (jI hN hi hx aJ hs hf) (eS (gW gU (bp hNx hv hd Q4) aJ UM) ⟨.ref a,at_of ea,hb σ H0 R0 H R E _ λu H2 R2 E2 s2 e2=>?_⟩)
 obtain⟨⟨v,U3,rfl,T5,S6,nd⟩,TK⟩:=E2.ent i _ hΓ1
 have hl:n < as.length:=by rw[S6.1];exact(lS hk).2.1
 refine⟨a,_,k,.ref as[n],rfl,e2,aT.of T5,yq (by rw[S6.1];exact hk) (LD hl),?_⟩
 exact dn _ H2 R2 _ (E2.set j (r:=oq) (x:=as[n]) rfl) s2 (h _ (LD hl))
theorem Aq (i j:Nat){y:Str}{p:Pos}{c:Addr}{xs:List α}(hm:X.mg "len"=none)(hΓ:Γ[i]?=some (.ob (dk r a as Rk)))(hj:Γ[j]?=some (.im oq c))(hc:as[n]?=some c)(hx:Rk[n]?=some xs)
 (hN:X.N[j]?=some y:=by rfl) (hv:autoParam (cG X.env.scope y) RE) (hd:Rh y:=by decide) (Q4:RG y:=by decide)
 (hs:N8 [.Name y p1] X.env=[(false,eval (.Name y p1) X.env)]:=by rfl) (hg:Gl X "len":=by rfl):EV X (.Call (.Name "len" p) [.Name y p1] [] pos) Γ af (xs.length:Int) Γ:=λσ H0 R0 H R E Q q=>by
 obtain⟨⟨v,ea,rfl,ha,hr,nd⟩,hR⟩:=E.ent i _ hΓ
 obtain⟨v0,e0,Vz⟩:=E.ent j _ hj
 cases Vz
 obtain⟨ws,q1,q2⟩:=hr.2 n c xs hc hx
 refine eS (dA gf hg hm OG (aV (bp hN hv hd Q4) bE hs) (by decide) (by decide) hs) ⟨.ref c,at_of e0,c,_,rfl,.inl (aT.of q1),?_⟩
 rw[q2.length]
 exact q _ H R E (ar.refl _) rfl
theorem tM {P:V->α->Prop}{v:V}{y:α}(k:Nat):∀{vs:List V} {xs:List α},P v y->PySem.Paired P vs xs->PySem.Paired P (cj k v vs) (cj k y xs):=by
 induction k with
 | zero=>exact λh p=>.cons h p
 | succ k ih=>
   intro vs xs h p
   cases p with
   | nil=>exact .cons h .nil
   | cons a t=>exact .cons a (ih h t)
theorem Cp (i j:Nat){x:Str}{e1 e2:Expr}{ap cp:Pos}{c:Addr}{xs:List α}{y:α}{k:Int}(h1:EV X e1 Γ af k Γ1)(h2:EV X e2 Γ1 r y Γ2)(hΓ:Γ[i]?=some (.ob (dk r a as Rk)))(hj:Γ[j]?=some (.im oq c))(hc:as[n]?=some c)(hΓ2:Γ2[i]?=some (.ob (dk r a as Rk)))(hx:Rk[n]?=some xs)
 (k0:0<=k) (k1:k<=(xs.length:Int)) (hz:xs.length < N7) (h:N (Γ2.set i (.ob (dk r a as (Rk.set n (cj k.toNat y xs))))))
 (hN:X.N[j]?=some x:=by rfl) (hv:autoParam (cG X.env.scope x) RE)
 (hd:Rh x:=by decide) (Q4:RG x:=by decide)
 (Sb:Of (.Call (.Attribute (.Name x p1) "insert" ap) [e1,e2] [] cp) none pos.line X.env=pure false:=by rfl)
 (Ra:Oc (.Name x p1) "insert" X.env (eval (.Name x p1) X.env)=eval (.Name x p1) X.env:=by rfl)
 (Rt:((Oe cp (N8 [e1,e2] X.env)).all (λx=> !x.1)&&(OJ cp (Ow [] X.env)).all (λx=>x.1.isSome)
  &&decide ([e1,e2].length + ([]:List Oi).length + (if([]:List Oi).isEmpty then 0 else 1) < 30))=true:=by rfl)
 (Q9:(ap.endLine==cp.line)=true:=by rfl) (hs:N8 [e1,e2] X.env=(false,eval e1 X.env)::N8 [e2] X.env:=by rfl) (RA:N8 [e2] X.env=(false,eval e2 X.env)::N8 [] X.env:=by rfl) (Rj:(Oe cp (N8 [e2] X.env)).any (·.1)=false:=by rfl):
 W1 X (.Expr (.Call (.Attribute (.Name x p1) "insert" ap) [e1,e2] [] cp) pos) Γ N T:=λσ H0 R0 H R E D dn dr=>by
 obtain⟨⟨v,ea,rfl,ha,hr,nd⟩,hR⟩:=E.ent i _ hΓ
 obtain⟨v0,e0,Vz⟩:=E.ent j _ hj
 cases Vz
 obtain⟨ws,q1,q2⟩:=hr.2 n c xs hc hx
 refine sS (fZ (gZ PZ PySem.F.slot_list_insert PySem.F.type_list_insert wX (bp hN hv hd Q4) (aV aJ (aV aJ bE RA) hs) Ra Rt Q9 hs Rj) Sb) ?_
 refine⟨.ref c,at_of e0,.inl ⟨rfl,_,aT.of q1⟩,h1 σ H0 R0 H R E _ λv1 H1 R1 E1 s1 r1=>h2 σ H0 R0 H1 R1 E1 _ λv2 H2 R2 E2 s2 r2=>?_⟩
 cases r1
 obtain⟨⟨v,U3,rfl,T5,S6,UG⟩,TK⟩:=E2.ent i _ hΓ2
 obtain⟨ws2,q3,q4⟩:=S6.2 n c xs hc hx
 obtain⟨n1,n2⟩:=Mg.mp UG
 have cm:c∈as:=LO hc
 refine⟨c,ws2,k,v2,rfl,rfl,q3,k0,by rw[q4.length];exact k1,by rw[q4.length];exact hz,?_⟩
 refine dn σ _ R2 _ (E2.mK (en:=.ob (dk r a as (Rk.set n (cj k.toNat y xs)))) hΓ2 (LN _ cm) ⟨⟨.ref a,U3,rfl,?_,S6.put n2 hc (tM _ r2 q4),UG⟩,TK⟩ λc w=>.inl w) (s1.trans s2) h
 rw[aF (show a≠c from λz=>n1 (z▸cm))];exact T5
end
section
variable {X:Cx}{tg:Expr}{x:Str}
def JS (x:Str):It:=⟨λi _=>i < x.cps.size,λi H v H'=>H'=H/\v= .str (jA x i),λi _=>x.cps.size<=i⟩
theorem zV {P:Ob}{w:World}{K:QA}(x:Str)(t:Tok)(it:Addr):Turn P w K tg (JS x) [it] it (λi h=>h.IsStrIter it "str_ascii_iterator" x t i) where
 mem:=by simp
 obj:=λi h st b hb=>by
  have e:b=it:=by simpa using hb
  subst e
  obtain⟨o,e,c,d⟩:=st
  exact⟨o,e,λv z=>by rw[d] at z;cases z⟩
 keep:=λi h h' st k=>by
  obtain⟨o,e,r⟩:=st
  exact⟨o,k it (by simp) o e,r⟩
 item:=by
  intro X hP hw hK hc i QW s σ H E I hf st hg
  subst hP hw hK
  obtain⟨f0,f1,f2,f3,f4,f5⟩:=hf it (by simp)
  have W:=Walks.strAscii (prog:=X.prog) (w:=X.w) (I.ok.hd hc) it x t
  refine W.item i s _ _ hg st λv h' tk hv SG kk=>?_
  obtain⟨c,u,hx,rfl⟩:=hv
  have I1:Inv X QW σ H {s with heap:=h',toks:=tk}:=I.turned (λb o hb e=>kk b o (by simpa using hb) e) f0 f1 f3 f4 f5
  obtain⟨o,e,cc,d⟩:=id SG
  have Tf:jA x i=⟨#[c]⟩:=by unfold jA;rw[show x.cps.getD i 0=c by rw[Array.getD_eq_getD_getElem?,hx];rfl]
  exact⟨_,rfl,lT (s:={s with heap:=h',toks:=tk}) e cc d (by decide) ⟨.str (jA x i),H,I1,⟨u,by rw[Tf]⟩,⟨rfl,rfl⟩,SG,λb hb=>(hf b hb).1⟩⟩
 done:=by
  intro X hP hw hK hc i QW s σ H E I hf st hg
  subst hP hw hK
  obtain⟨f0,f1,f2,f3,f4,f5⟩:=hf it (by simp)
  exact wpAny_pyNext_ascii_end (I.ok.hd hc) st (by have:x.cps.size<=i:=hg;simp[this]) λh' eb=>⟨rfl,I.turned (t':=s.toks) (λb o hb e=>eb b o hb e) f0 f1 f3 f4 f5⟩
 self:=λ_ _ _ _ _ st h=>wpAny_pyIter_striter_ascii st h
def KH (tl:TE):TI:=λσ H R=>tl σ H λx H1=>∃z:Str,x= .str z/\z.cps.all (· < 128)=true/\R (JS z) H1
theorem FV {l:Expr}{tl:TE}(hl:PE X l tl):PI X tg l (KH tl):=by
 intro QW s σ H R I h
 refine aL (hl QW s σ H _ I h) λv s1 ⟨x,H1,I1,r1,q1⟩=>?_
 obtain⟨z,e,ha,q⟩:=q1
 subst e
 obtain⟨t,rfl⟩:=r1
 refine wpAny_pyIter_ascii ha ?_
 refine⟨s1.heap.objs.size,[s1.heap.objs.size],_,_,H1,rfl,I1.kept (t':=s1.toks) λb o e=>P9 _ e,zV z t _,⟨_,Qb _ rfl,rfl,rfl⟩,λb hb=>?_,q⟩
 have e:b=s1.heap.objs.size:=by simpa using hb
 subst e
 exact I1.gu (Nm _) (I1.Q3.fresh (Nm _))
def fW (x:Str):Li:=(L6 x.cps.size).map (jA x)
theorem xP {Γ Γ1:Ga}{a:Expr}(ha:EV X a Γ ah x Γ1)(hx:x.cps.all (· < 128)=true)(hz:x.cps.size<=N7):IV X tg a Γ ah (fW x) Γ1:=by
 refine⟨_,FV aJ,λσ H0 R0 H R E Rq q=>ha σ H0 R0 H R E _ λv H1 R1 E1 s1 e1=>?_⟩
 cases e1
 refine⟨x,rfl,hx,q _ H1 R1 E1 s1 (by unfold fW;rw[LJ,MN];exact hz) λH' R' sR sH i=>⟨λy hy=>?_,λhi=>?_⟩⟩
 ·unfold fW at hy
  rw[LM] at hy
  obtain⟨j,hj,rfl⟩:=NO.mp hy
  obtain⟨hl,e⟩:=LC.mp hj
  rw[MN] at hl
  rw[List.getElem_range] at e
  subst e
  refine⟨hl,λv' H2 hy=>?_⟩
  obtain⟨rfl,rfl⟩:=hy
  exact⟨R',Ext.refl sH,rfl⟩
 ·unfold fW at hi
  rw[LJ,MN] at hi
  exact hi
theorem sQ {α:Type}(l:List α):∀m,m<=l.length->(L6 m).filterMap (l[·]?)=l.take m
 | 0,_=>rfl
 | m + 1,h=>by
   rw[List.range_succ,List.filterMap_append,sQ l m (by omega),Mm]
   simp[LD (show m < l.length by omega)]
def fR (x:Str):Str:=⟨(x.cps.toList.take 7).toArray⟩
theorem Kl:∀n,n<=8->Builtin.Str.strSliceIndices none (some 7) 1 n=L6 (min n 7):=by
 intro n hn
 have:∀j:Fin 9,Builtin.Str.strSliceIndices none (some 7) 1 j.val=L6 (min j.val 7):=by decide +kernel
 exact this ⟨n,by omega⟩
theorem Iu (hx:x.length<=8):((L6 (min x.length 7)).filterMap (x.cps[·]?)).toArray=(x.cps.toList.take 7).toArray:=by
 have hl:x.cps.toList.length=x.length:=by simp[Str.length]
 have e:(L6 (min x.length 7)).filterMap (x.cps[·]?)=(L6 (min x.length 7)).filterMap (x.cps.toList[·]?):=by
  congr 1
  funext i
  simp
 rw[e,sQ _ _ (by omega)]
 congr 1
 by_cases h:x.length<=7
 ·rw[Nat.min_eq_left h,← hl,Mn,MC (by omega)]
 ·rw[Nat.min_eq_right (by omega)]
def Kv:V->Option Int->Option Int->Hp->VK->Prop:=λx lo hi H Q=>∃z:Str,x= .str z/\lo=none/\hi=some 7/\z.length<=8/\Q (.str (fR z)) H
theorem Ks:wB X Kv:=by
 intro QW s σ H x v vl vu lo hi sl Q I rx hs pl pu h
 obtain⟨z,rfl,rfl,rfl,hz,q⟩:=h
 obtain⟨t,rfl⟩:=rx
 cases pl
 cases pu with
 | int _ tu=>
   refine⟨"str",_,PySem.F.slot_str_getitem.lookup,O0 _ _ _,wpAny_getItem_str_slice (l:=none) (u:=some (7,tu)) (st:=none) hs rfl ?_⟩
   have e:slicePicked z none (some (7,tu)) none=L6 (min z.length 7):=Kl z.length hz
   unfold sliceMade
   rw[e,MN]
   split
   ·rename_i hh
    have hl:min z.length 7=z.length:=by simpa using hh
    have hp:fR z=z:=by
     unfold fR
     rw[MC (by simp[Str.length] at hl ⊢;omega)]
    rw[hp] at q
    exact⟨.str z,H,I,⟨t,rfl⟩,q⟩
   ·rw[Iu hz]
    refine⟨?_,.str (fR z),H,I.tok _,⟨_,rfl⟩,q⟩
    show(List.take 7 z.cps.toList).toArray.size<=N7
    rw[LQ,L0]
    exact Nn (ND _ _) (by decide)
theorem Ek {Γ:Ga}{a:Expr}{j:Nat}{p1 p2 pos:Pos}(ha:EV X a Γ ah x Γ)(hx:x.length<=8):EV X (.Subscript a (.Slice none (some (.Constant (.int 7) j p1)) none p2) pos) Γ ah (fR x) Γ:=by
 intro σ H0 R0 H R E Q q
 obtain⟨tl,pl,kl⟩:=(ov_none:OV X none Γ none)
 obtain⟨th,ph,kh⟩:=(ov_some ev_int:OV X (some (.Constant (.int 7) j p1)) Γ (some 7))
 refine eS (kz Ks aJ pl ph) (ha σ H0 R0 H R E _ λv H1 R1 E1 s1 e1=>kl σ H0 R0 H1 R1 E1 _ λH2 R2 E2 s2=>kh σ H0 R0 H2 R2 E2 _ λH3 R3 E3 s3=>?_)
 cases e1
 exact⟨x,rfl,rfl,rfl,hx,q _ _ _ E3 (s1.trans (s2.trans s3)) rfl⟩
end
section
variable {X:Cx}{Γ Γ1 Γ2 Γ3:Ga}{α β γ δ:Type}{N:Ga->Prop}{T:RT}
variable {x:Str}
theorem sv:∀{ws:Li} {QX:Ll},Vals (ws.map V.str) QX->∃l:List (Str×Tok),QX=Pg l/\l.map (·.1)=ws
 | [],_,.nil=>⟨[],rfl,rfl⟩
 | w::ws,_,.cons h t=>by
   obtain⟨k,rfl⟩:=h
   obtain⟨l,rfl,e⟩:=sv t
   exact⟨(w,k)::l,rfl,by rw[Me,e]⟩
theorem qF:∀(l:List (Str×Tok)),Vals ((l.map (·.1)).map V.str) (Pg l)
 | []=>.nil
 | (w,k)::l=>.cons ⟨k,rfl⟩ (qF l)
theorem BV:uW X "str.join" (λx xs H Q=>∃(z:Str) (a:Addr) (ws:Li),x= .str z/\xs=[.ref a]/\H a=some (.lst (ws.map V.str))/\JoinOk z ws=true/\Q (.str (Txt.join z ws)) H):=by
 intro QW s σ H x xs v us Q I rx r h
 obtain⟨z,a,ws,rfl,rfl,hH,Q3,q⟩:=h
 obtain⟨t,rfl⟩:=rx
 obtain⟨u,rfl,ru⟩:=r.one
 cases ru
 obtain⟨hz,QX,n,r1,hl,e⟩:=I.ka hH
 obtain⟨l,rfl,el⟩:=sv r1
 exact PySem.SC.join ⟨_,e,rfl,_,rfl⟩ el Q3 λt' k=>⟨.str _,H,I.tok _,⟨_,rfl⟩,q⟩
theorem yt {y:Str}{t u:Tok}{prog:Ob}{w:World}{A:Od}{E:Value->N5->Prop}{s:N5}{Q:Value->N5->Prop}(hy:(y.length==0)=false)(hsz:x.length<=N7)(hsz2:(Qs x y).length<=N7)
 (hq:∀(l:List (Str×Tok)) (k:Nat) (n:Nat),l.map (·.1)=Qs x y->Q (.ref s.heap.objs.size) {s with toks:=k,heap:=s.heap.push {cls:=.type "list",data:=.seq (Pg l).toArray n}}):
 wpAny (model prog w) A (call (.builtin "str.split") [.str x t,.str y u]) Q E s:=by
 cases h1:(decide (x.length < y.length) ||decide (Builtin.Str.strKind x < Builtin.Str.strKind y))
 ·cases hf:(PN x y 0 x.length (x.length + 1)).isEmpty
  ·have es:Qs x y=Builtin.Str.partsBetween x (PN x y 0 x.length (x.length + 1)) y.length:=(if_neg (ne_true_of_eq_false h1)).trans (if_neg (ne_true_of_eq_false hf))
   refine ON P8 (O0 _ _ _) P7 (P6 _ _) (meets_str_split_sep x y t u h1 hy hf hsz (by rw[← es];exact hsz2)) ?_
   show wants Q E _ {s with toks:=_,heap:=s.heap.push {cls:=.type "list",data:=.seq (strsFrom s.toks (Builtin.Str.partsBetween x (PN x y 0 x.length (x.length + 1)) y.length)).toArray}}
   rw[strsFrom_eq]
   exact hq (numbered s.toks _) _ _ ((numbered_texts _ _).trans es.symm)
  ·exact ON P8 (O0 _ _ _) P7 (P6 _ _) (meets_str_split_not_found x y t u h1 hy hf)
    (hq [(x,t)] s.toks _ ((if_neg (ne_true_of_eq_false h1)).trans (if_pos hf)).symm)
 ·exact ON P8 (O0 _ _ _) P7 (P6 _ _) (meets_str_split_cannot_occur x y t u h1)
   (hq [(x,t)] s.toks _ (if_pos h1).symm)
theorem Ap:uW X "str.split" (λx xs H Q=>∃z y:Str,x= .str z/\xs=[.str y]/\(y.length==0)=false/\z.length<=N7/\(Qs z y).length<=N7/\∀a,H a=none->Q (.ref a) (upd H a (.lst ((Qs z y).map V.str)))):=by
 intro QW s σ H x xs v us Q I rx r h
 obtain⟨z,y,rfl,rfl,hy,hz,Vw,q⟩:=h
 obtain⟨t,rfl⟩:=rx
 obtain⟨u,rfl,ru⟩:=r.one
 obtain⟨tu,rfl⟩:=ru
 refine yt hy hz Vw λl k n el=>?_
 have I1:Inv X QW σ H {s with toks:=k,heap:=s.heap.push {cls:=.type "list",data:=.seq (Pg l).toArray n}}:=I.kept (t':=k) λb o e=>P9 _ e
 have hn:H s.heap.objs.size=none:=I.fresh
 refine⟨.ref s.heap.objs.size,_,adopt (o:=.lst ((Qs z y).map V.str)) I1 (I.gu (Nm _) hn) I.sz ⟨?_,Pg l,n,?_,Qb _ rfl⟩,rfl,q _ hn⟩
 ·rw[LJ];exact Vw
 ·rw[← el];exact qF l
theorem Cz {a e:Expr}{ap cp:Pos}{ws:Li}(ha:EV X a Γ ah x Γ1)(he:EV X e Γ1 (ae ah) ws Γ2)(Q3:JoinOk x ws=true)
 (Ra:Oc a "join" X.env (eval a X.env)=eval a X.env:=by rfl)
 (Rt:((Oe cp (N8 [e] X.env)).all (λx=> !x.1)&&(OJ cp (Ow [] X.env)).all (λx=>x.1.isSome)
  &&decide ([e].length + ([]:List Oi).length + (if([]:List Oi).isEmpty then 0 else 1) < 30))=true:=by rfl)
 (Q9:(ap.endLine==cp.line)=true:=by rfl) (hs:N8 [e] X.env=(false,eval e X.env)::N8 [] X.env:=by rfl):EV X (.Call (.Attribute a "join" ap) [e] [] cp) Γ ah (Txt.join x ws) Γ2:=by
 intro σ H0 R0 H R E Q q
 refine eS (gZ PySem.F.plainAttrs_str PySem.F.slot_str_join PySem.F.type_str_join BV aJ (aV aJ bE hs) Ra Rt Q9 hs rfl) (ha σ H0 R0 H R E _ λv H1 R1 E1 s1 e1=>?_)
 cases e1
 refine⟨rfl,he σ H0 R0 H1 R1 E1 _ λu H2 R2 E2 s2 e2=>?_⟩
 obtain⟨b,vs,rfl,hb,pp,hz⟩:=e2
 have ev:=jN pp
 subst ev
 exact⟨x,b,ws,rfl,rfl,E2.sub _ _ hb,Q3,q _ H2 R2 E2 (s1.trans s2) rfl⟩
theorem mq {K:QA}{R:Hp}:∀ws:Li,PySem.Paired (ah.R K R) (ws.map V.str) ws
 | []=>.nil
 | _::r=>.cons rfl (mq r)
theorem xG {a e:Expr}{ap cp:Pos}{y:Str}(ha:EV X a Γ ah x Γ1)(he:EV X e Γ1 ah y Γ2)(hy:(y.length==0)=false)(hz:x.length<=N7)(Vw:(Qs x y).length<=N7)
 (Ra:Oc a "split" X.env (eval a X.env)=eval a X.env:=by rfl)
 (Rt:((Oe cp (N8 [e] X.env)).all (λx=> !x.1)&&(OJ cp (Ow [] X.env)).all (λx=>x.1.isSome)
  &&decide ([e].length + ([]:List Oi).length + (if([]:List Oi).isEmpty then 0 else 1) < 30))=true:=by rfl)
 (Q9:(ap.endLine==cp.line)=true:=by rfl) (hs:N8 [e] X.env=(false,eval e X.env)::N8 [] X.env:=by rfl):aW X (.Call (.Attribute a "split" ap) [e] [] cp) Γ ah (Qs x y) Γ2:=by
 intro σ H0 R0 H R E Q q
 refine eS (gZ PySem.F.plainAttrs_str PySem.F.slot_str_split PySem.F.type_str_split Ap aJ (aV aJ bE hs) Ra Rt Q9 hs rfl) (ha σ H0 R0 H R E _ λv H1 R1 E1 s1 e1=>?_)
 cases e1
 refine⟨rfl,he σ H0 R0 H1 R1 E1 _ λu H2 R2 E2 s2 e2=>?_⟩
 cases e2
 exact⟨x,y,rfl,rfl,hy,hz,Vw,λd hd=>q d _ _ R2 (E2.grow (Ext.dP E2.sub hd _)) (s1.trans s2) aB (E2.sub.free hd) (E2.ext.h.free hd) (E2.off hd) (mq _) Vw⟩
end
section
variable {K:QA}{R:Hp}
theorem sg {c:Nat}:∀{a b x y:List Nat},c∉a->c∉b->a++c::x=b++c::y->a=b/\x=y
 | [],[],_,_,_,_,h=>⟨rfl,(List.cons.inj h).2⟩
 | [],d::b,_,_,_,hb,h=>absurd (List.cons.inj h).1 (λe=>hb (e▸LP))
 | d::a,[],_,_,ha,_,h=>absurd (List.cons.inj h).1 (λe=>ha (e▸LP))
 | d::a,e::b,x,y,ha,hb,h=>by
   obtain⟨h1,h2⟩:=List.cons.inj h
   obtain⟨q1,q2⟩:=sg (λz=>ha (LN _ z)) (λz=>hb (LN _ z)) h2
   exact⟨by rw[h1,q1],q2⟩
theorem r9 {c:Nat}{a b y:List Nat}(ha:c∉a)(h:a=b++c::y):False:=ha (by rw[h];exact LU _ LP)
theorem uZ (x y:Str):(x++y).cps.toList=x.cps.toList++y.cps.toList:=by show(x.cps++y.cps).toList=_;simp
theorem kx (c:Nat)(x y:Str)(r:Li):(Qq ⟨#[c]⟩ (x::y::r)).cps.toList=x.cps.toList++c::(Qq ⟨#[c]⟩ (y::r)).cps.toList:=by
 rw[Qq,uZ,uZ]
 simp
 intro h;cases h
theorem uq {x y:Str}(h:x.cps.toList=y.cps.toList):x=y:=by
 cases x;cases y
 congr 1
 exact Array.toList_inj.mp h
theorem tK {c:Nat}:∀{ws us:Li},ws≠[]->us≠[]->(∀w∈ws,c∉w.cps.toList)->(∀u∈us,c∉u.cps.toList)->(Qq ⟨#[c]⟩ ws).cps.toList=(Qq ⟨#[c]⟩ us).cps.toList->ws=us
 | [],_,h,_,_,_,_=>absurd rfl h
 | _,[],_,h,_,_,_=>absurd rfl h
 | [x],[y],_,_,_,_,h=>by rw[show x=y from uq h]
 | [x],y::z::r,_,_,hx,_,h=>by
   rw[kx] at h
   exact absurd h λh=>r9 (hx x LP) h
 | x::z::r,[y],_,_,_,hy,h=>by
   rw[kx] at h
   exact absurd h.symm λh=>r9 (hy y LP) h
 | x::x2::r,y::y2::q,_,_,hx,hy,h=>by
   rw[kx,kx] at h
   obtain⟨h1,h2⟩:=sg (hx x LP) (hy y LP) h
   rw[uq h1,tK (List.cons_ne_nil _ _) (List.cons_ne_nil _ _) (λw hw=>hx w (LN _ hw)) (λw hw=>hy w (LN _ hw)) h2]
theorem vO {c:Nat}{ws:Li}(h:ws≠[])(hf:∀w∈ws,c∉w.cps.toList):Qs (Qq ⟨#[c]⟩ ws) ⟨#[c]⟩=ws:=by
 refine tK (c:=c) (λe=>?_) h (StrLaws.split_free _ c) hf (by rw[StrLaws.join_split])
 have:=split_pos (Qq ⟨#[c]⟩ ws) ⟨#[c]⟩
 rw[e] at this
 exact absurd this (by decide)
theorem Ax:(" ":Str)=⟨#[32]⟩:=by decide +kernel
theorem uC (x:Str)(ws:Li):Txt.join x ws=Qq x ws:=StrLaws.glued_eq_join x ws
def Rep.at_ {α:Type}(r:Rep α)(y:α):Rep Unit:=⟨λK R v _=>r.R K R v y,λs h=>r.mono s h⟩
abbrev iW:=List (Str×Rep Unit)
abbrev fE (fs:iW)(K:QA)(R:Hp)(vs:List (Str×V)):Prop:=PySem.Paired (λ(z:Str×V) (f:Str×Rep Unit)=>z.1=f.1/\f.2.R K R z.2 ()) vs fs
theorem fE.mono {fs:iW}{R':Hp}{vs:List (Str×V)}(s:ar R R')(h:fE fs K R vs):fE fs K R' vs:=Paired.map (λ_ f ⟨a,b⟩=>⟨a,f.2.mono s b⟩) h
def ni:iW->Str->Option (Rep Unit)
 | [],_=>none
 | (g,x)::r,f=>if g=f then some x else ni r f
theorem fE.get {f:Str}{r:Rep Unit}:∀{fs:iW} {vs:List (Str×V)},fE fs K R vs->ni fs f=some r->∃v,vs.lookup f=some v/\r.R K R v ()
 | _,_,.nil,h=>by cases h
 | _,_,.cons (a:=z) (b:=p) h t,hg=>by
   obtain⟨g,x⟩:=p
   obtain⟨g',v⟩:=z
   obtain⟨e,hv⟩:=h
   have e:g'=g:=e
   subst e
   rw[ni] at hg
   rw[Mr]
   by_cases q:g'=f
   ·rw[if_pos q] at hg;cases hg;subst q
    exact⟨v,by simp,hv⟩
   ·rw[if_neg q] at hg
    rw[show(f==g')=false from beq_eq_false_iff_ne.mpr λz=>q z.symm]
    exact fE.get t hg
theorem fE.put {f:Str}{r:Rep Unit}{v:V}(hv:r.R K R v ()):∀{fs:iW} {vs:List (Str×V)},fE fs K R vs->ni fs f=none->fE (fs++[(f,r)]) K R (eT f v vs)
 | _,_,.nil,_=>.cons ⟨rfl,hv⟩ .nil
 | _,_,.cons (a:=z) (b:=p) h t,hg=>by
   obtain⟨g,x⟩:=p
   obtain⟨g',u⟩:=z
   obtain⟨e,hu⟩:=h
   have e:g'=g:=e
   subst e
   rw[ni] at hg
   rw[eT]
   by_cases q:g'=f
   ·rw[if_pos q] at hg;cases hg
   ·rw[if_neg q] at hg ⊢
    exact .cons ⟨rfl,hu⟩ (fE.put hv t hg)
def fV (C:Addr):LK iW where
 bx l fs:=⟨l,λK H R v=>∃x dx vs,l=[x,dx]/\v= .ref x/\H x=some (.ins C dx vs)/\H dx=some (.own x)/\fE fs K R vs/\x≠dx,λ{K H R0 H' R' v} e s ⟨x,dx,vs,el,ev,h1,h2,h3,nd⟩=>by
  subst el
  exact⟨x,dx,vs,rfl,ev,(e x (by simp)).trans h1,(e dx (by simp)).trans h2,h3.mono s,nd⟩,λ{K H R0 v} ⟨x,dx,vs,el,ev,h1,h2,h3,nd⟩ a ha=>by
  subst el
  rcases LV.mp ha with rfl | ha
  ·rw[h1];exact NR _
  ·rw[LH.mp ha,h2];exact NR _⟩
 fp:=λ_ _=>rfl
 at_:=λ⟨x,dx,vs,el,ev,_⟩=>⟨x,[dx],el,ev⟩
end
section
variable {X:Cx}{Γ Γ1 Γ2 Γ3:Ga}{α β γ δ:Type}{N:Ga->Prop}{T:RT}
theorem yC {C x dx:Addr}{fs:iW}{K:QA}{H R:Hp}{o:Option V}(h:(Ent.ob ((fV C).bx [x,dx] fs)).ok K H R o):o=some (.ref x)/\qU R [x,dx]/\∃vs,H x=some (.ins C dx vs)/\H dx=some (.own x)/\fE fs K R vs/\x≠dx:=by
 obtain⟨e,hB,hR⟩:=wM (B:=fV C) h
 obtain⟨x',dx',vs,el,ev,h1,h2,h3,nd⟩:=hB
 cases el
 exact⟨e,hR,vs,h1,h2,h3,nd⟩
theorem kE (i:Nat){m f:Str}{p1 pos:Pos}{C x dx:Addr}{fs:iW}{r:Rep α}{y:α}{ns:Li}(hC:bA X.K C ns)(hf:f∈ns)(hΓ:Γ[i]?=some (.ob ((fV C).bx [x,dx] fs)))(h:ni fs f=some (r.at_ y))(hN:X.N[i]?=some m:=by rfl)(hv:autoParam (cG X.env.scope m) RE)
 (hd:Rh m:=by decide) (Q4:RG m:=by decide) (hb:Oc (.Name m p1) f X.env (eval (.Name m p1) X.env)=eval (.Name m p1) X.env:=by rfl):EV X (.Attribute (.Name m p1) f pos) Γ r y Γ:=λσ H0 R0 H R E Q q=>by
 obtain⟨ea,hR,vs,h1,h2,h3,nd⟩:=yC (E.ent i _ hΓ)
 obtain⟨v,hl,SR⟩:=h3.get h
 exact eS (qX (bp hN hv hd Q4) hb) ⟨.ref x,at_of ea,x,C,dx,vs,v,rfl,h1,hC.cl,hC.no f hf,hl,q v H R E (ar.refl _) SR⟩
theorem gx (i:Nat){m f:Str}{e:Expr}{p1 ap pos:Pos}{C x dx:Addr}{fs:iW}{ns:Li}{r:Rep α}{y:α}(hC:bA X.K C ns)(hf:f∈ns)(he:EV X e Γ r y Γ1)(hΓ1:Γ1[i]?=some (.ob ((fV C).bx [x,dx] fs)))(h:ni fs f=none)(hz:fs.length < 1000)(hn:N (Γ1.set i (.ob ((fV C).bx [x,dx] (fs++[(f,r.at_ y)])))))
 (hN:X.N[i]?=some m:=by rfl) (hv:autoParam (cG X.env.scope m) RE) (hd:Rh m:=by decide) (Q4:RG m:=by decide)
 (Sb:Of e (some (.Attribute (.Name m p1) f ap)) pos.line X.env=pure false:=by rfl):W1 X (.Assign [.Attribute (.Name m p1) f ap] e pos) Γ N T:=λσ H0 R0 H R E D dn dr=>
 sS (Es (bp hN hv hd Q4) aJ Sb) (he σ H0 R0 H R E _ λv H1 R1 E1 s1 e1=>by
  obtain⟨ea,hR,vs,h1,h2,h3,nd⟩:=yC (E1.ent i _ hΓ1)
  refine⟨.ref x,at_of ea,x,C,dx,vs,rfl,h1,hC.cl,hC.no f hf,by rw[h3.length];exact hz,?_⟩
  refine dn σ _ R1 _ (E1.mK (en:=.ob ((fV C).bx [x,dx] (fs++[(f,r.at_ y)]))) hΓ1 (a:=x) (by show x∈[x,dx];simp) ?_ λb hb=>.inl hb) s1 hn
  rw[ea]
  exact yg (B:=fV C) ⟨x,dx,_,rfl,rfl,aB,by rw[aF (NN nd)];exact h2,fE.put (r:=r.at_ y) e1 h3 h,nd⟩ hR)
abbrev xu:=QA->Addr->List Pk->(iW->Prop)->Prop
def tY (S:xu)(K:QA):Sp:=λvs H Q _=>∃R x dx C Ru ps Pd,vs= .ref x::Ru/\ar R H/\qU R [x,dx]/\((fV C).bx [x,dx] []).R K H R (.ref x)/\je K R Ru ps/\S K C ps Pd/\
 ∀H' R' fs,Ext (lF H [x,dx]) R H' R'->((fV C).bx [x,dx] fs).R K H' R' (.ref x)->qU R' [x,dx]->Pd fs->Q .Rf H'
variable {P:Ob}{w:World}{K:QA}{mg:Lf}{base:Heap}
theorem xA {S:xu}{x qual:Str}{st:Stmt}{f:Addr}{fd:Og}{N ps:Li}{k:Nat}(F:bD K x qual st f fd)(Sc:aH N ps (ai st))(len:∀C qs Pd,S K C qs Pd->qs.length + 1=ps.length)
 (Ro:∀(Q2:Value) (A:Od) (outer:List Env) (s:N5) (H:Hp) (E:XK) (C a dx:Addr) (qs:List Pk) (Pd:iW->Prop),bI k (A.deeper (NY qual (ai st) s.heap.objs.size f Q2))->S K C qs Pd->
  WS (fA ee P w K mg base N qual (ai st) f Q2 A outer s H E).js (bS st) (.ob ((fV C).bx [a,dx] [])::eY qs (N.length - 1)) (λΓ=>∃fs,Γ[0]?=some (.ob ((fV C).bx [a,dx] fs))/\Pd fs) (λ_ _ _ _=>False)):dz P w K mg base ee (k + 1) f fd ps (tY S K):=by
 refine F.ok Sc (λvs H Q E h=>?_) (λQ2 A outer s H vs Q E hr h=>?_)
 ·obtain⟨R,a,dx,C,Ru,qs,Pd,rfl,_,_,_,p,hS,_⟩:=h
  rw[LR,p.length];exact len C qs Pd hS
 ·obtain⟨R,a,dx,C,Ru,qs,Pd,rfl,sR,hR,hB,p,hS,q⟩:=h
  have hl:qs.length + 1<=N.length:=by
   rw[len C qs Pd hS]
   have:=congrArg List.length Sc.pre
   rw[L0] at this
   omega
  refine⟨_,jd,Ro Q2 A outer s H E C a dx qs Pd hr hS (L2.start N (.ref a::Ru)) (lF H [a,dx]) R H R (v9 (B:=fV C) sR hR hB p hl) {nx:=λ_ H'=>Q .Rf H',rt:=Q} (λσ' H' R' Γ' E' _ ⟨fs,hΓ,t⟩=>?_) λv H' R' xx t=>t.elim⟩
  obtain⟨ea,hB',RF⟩:=wM (B:=fV C) (E'.ent 0 _ hΓ)
  exact q H' R' fs E'.ext hB' RF t
theorem uJ {S:xu}{c:Str}{k:Nat}{e:Expr}{es:Lm}{p pos:Pos}{ps:List Pk}{Pd:iW->Prop}{C f:Addr}{fd:Og}{pn:Li}{rr:Rep α}{z:α}(M:Mk X.K C f)(F:dz X.prog X.w X.K X.mg X.base ee k f fd pn (tY S X.K))(hr:bI (k + 1) X.A)(hm:X.mg c=some (.ref C))(hb:Binds X.K fd pn [])(ha:HA X (e::es) Γ ps Γ1)(hS:S X.K C ps Pd)
 (hz:∀(fs:iW) (R:Hp) (x dx:Addr) (vs:List (Str×V)),Pd fs->fE fs X.K R vs->R x=some (.ins C dx vs)->rr.R X.K R (.ref x) z)
 (hg:Gl X c:=by rfl) (RN:Rh c:=by decide) (he:N8 (e::es) X.env=(false,eval e X.env)::N8 es X.env:=by rfl) (Rj:(Oe pos (N8 es X.env)).any (·.1)=false:=by rfl):
 EV X (.Call (.Name c p) (e::es) [] pos) Γ rr z Γ1:=λσ H0 R0 H R E Q q=>
 eS (B9 M F hr hg hm hb .nil qg jS RN he Rj) (ha σ H0 R0 H R E _ λvs H1 R1 E1 s1 p1 x dx hx hdx Q7=>by
  have hd1:∀b,lF (upd (upd H1 dx (.own x)) x (.ins C dx [])) [x,dx] b=H1 b:=λb=>by
   by_cases hb:b∈[x,dx]
   ·rw[oY hb]
    rcases LV.mp hb with rfl | hb
    ·exact hx.symm
    ·rw[LH.mp hb];exact hdx.symm
   ·rw[se hb]
    simp at hb
    rw[aF hb.1,aF hb.2]
  have hR:qU R1 [x,dx]:=λb hb=>by
   rcases LV.mp hb with rfl | hb
   ·exact E1.sub.free hx
   ·rw[LH.mp hb];exact E1.sub.free hdx
  refine⟨R1,x,dx,C,vs,ps,Pd,by rw[Mh],λb o q=>?_,hR,⟨x,dx,[],rfl,rfl,aB,by rw[aF Q7,aB],.nil,NN Q7⟩,p1,hS,λH' R' fs xx hB RF hP=>⟨rfl,?_⟩⟩
  ·have b1:b≠x:=λe=>by rw[e,hR x (by simp)] at q;cases q
   have b2:b≠dx:=λe=>by rw[e,hR dx (by simp)] at q;cases q
   rw[aF b1,aF b2];exact E1.sub b o q
  ·rw[show lF (upd (upd H1 dx (.own x)) x (.ins C dx [])) [x,dx]=H1 from funext hd1] at xx
   obtain⟨x',dx',ws,el,ev,h1,h2,h3,nd⟩:=hB
   cases el
   have E2:=E1.grow xx
   have E3:=E2.qo h2 (RF dx (by simp)) (E1.ext.h.free hdx) (E1.off hdx)
   have sd:ar R' (upd R' dx (.own x)):=ar.fresh (RF dx (by simp)) _
   have hRx:upd R' dx (.own x) x=none:=by rw[aF nd];exact RF x (by simp)
   have E4:=E3.qo h1 hRx (E1.ext.h.free hx) (E1.off hx)
   have sx:=sd.trans (ar.fresh hRx (.ins C dx ws))
   exact q (.ref x) H' _ E4 ((s1.trans xx.r).trans sx) (hz fs _ x dx ws hP (h3.mono sx) aB))
theorem iE {e:Expr}{f:Str}{pos:Pos}{C:Addr}{ns:Li}{rr:Rep α}{z:α}{r:Rep β}{y:β}(hC:bA X.K C ns)(hf:f∈ns)(he:EV X e Γ rr z Γ1)
 (hz:∀(K:QA) (R:Hp) (v:V),rr.R K R v z->∃x dx vs u,v= .ref x/\R x=some (.ins C dx vs)/\vs.lookup f=some u/\r.R K R u y) (hb:Oc e f X.env (eval e X.env)=eval e X.env:=by rfl):EV X (.Attribute e f pos) Γ r y Γ1:=λσ H0 R0 H R E Q q=>
 eS (qX aJ hb) (he σ H0 R0 H R E _ λv H1 R1 E1 s1 e1=>by
  obtain⟨x,dx,vs,u,rfl,h1,h2,h3⟩:=hz _ _ _ e1
  exact⟨x,C,dx,vs,u,rfl,E1.sub _ _ h1,hC.cl,hC.no f hf,h2,q u H1 R1 E1 s1 h3⟩)
end
section
variable {X:Cx}{Γ Γ1 Γ2 Γ3:Ga}{α β γ δ:Type}{N:Ga->Prop}{T:RT}
variable {e:Expr}{r:Rep α}{x:Str}
theorem nW {pos:Pos}{y:α}(he:EV X e Γ r y Γ1)(h:N Γ1)(Sb:Of e none pos.line X.env=pure false:=by rfl):W1 X (.Expr e pos) Γ N T:=λσ H0 R0 H R E D dn dr=>
 sS (fZ aJ Sb) (he σ H0 R0 H R E _ λv H1 R1 E1 s1 e1=>dn σ H1 R1 _ E1 s1 h)
theorem xq (i:Nat){p1 pos:Pos}{a c:Int}(he:EV X e Γ af c Γ)(hΓ:Γ[i]?=some (.im af a))(h:N (Γ.set i (.im af (a + c))))
 (hN:X.N.Nodup:=by first | assumption | decide) (hi:X.N[i]?=some x:=by rfl) (hx:autoParam (Loc X.env.scope x) SY)
 (hf:autoParam (X.fn x=true∨X.env.scope.names.lookup x=some .local) SX):
 W1 X (.AugAssign (.Name x p1) .Add e pos) Γ N T:=λσ H0 R0 H R E D dn dr=>by
 obtain⟨v,ea,hr⟩:=E.ent i _ hΓ
 cases (show v=V.int a from hr)
 refine sS (GH hN hi hx aJ Ei hf) ⟨.int a,at_of ea,he σ H0 R0 H R E _ λu H2 R2 E2 s2 e2=>?_⟩
 cases (show u=V.int c from e2)
 exact⟨a,c,rfl,rfl,dn _ H2 R2 _ (E2.set i (r:=af) (x:=a + c) rfl) s2 h⟩
theorem Ci {i j:Nat}{r':Rep β}{xs:List α}{ys:List β}(VT:i≠j)(hΓ:Γ[i]?=some (.mu r xs))(hj:Γ[j]?=some (.mu r' ys))(hz:xs.length<=N7)(Ta:ys.length<=N7)(σ:St)(H0 R0 H R:Hp)(E:au X.K σ H0 R0 H R Γ):au X.K σ H H H H (((Γ.map qp).set i (.im (ae r) xs)).set j (.im (ae r') ys)):=by
 obtain⟨a,vs,ea,ha,hR,pp⟩:=E.ent i _ hΓ
 obtain⟨b,ws,eb,hb,hRb,pq⟩:=E.ent j _ hj
 have E1:=E.So.nk (i:=i) (e0:=.no) (en:=.im (ae r) xs) (by rw[LM,hΓ];rfl) ⟨.ref a,ea,a,vs,rfl,ha,Paired.map (λ_ _=>r.mono E.sub) pp,hz⟩ λb w=>by cases w
 exact E1.nk (i:=j) (e0:=.no) (by rw[Mf VT,LM,hj];rfl) ⟨.ref b,eb,b,ws,rfl,hb,Paired.map (λ_ _=>r'.mono E.sub) pq,Ta⟩ λb w=>by cases w
theorem xJ:dw X (Oj .LtE) (λx y H Q=>∃i j,x= .str i/\y= .str j/\Q (.bl (!decide (j.cps.toList < i.cps.toList))) H):=by
 intro QW s σ H x y v u Q I rx ry h
 obtain⟨i,j,rfl,rfl,q⟩:=h
 obtain⟨t,rfl⟩:=rx
 obtain⟨t',rfl⟩:=ry
 exact PySem.P.le_str (bF I q rfl)
theorem Bc {y:Str}:fM X .LtE ah ah x y (!decide (y.cps.toList < x.cps.toList)):=⟨_,xJ,λR H v u Q _ e1 e2 q=>by
 cases e1;cases e2
 exact⟨x,y,rfl,rfl,q⟩⟩
theorem yu {xs:Li}:fM X .NotIn ah (ae ah) x xs (!decide (x∈xs)):=⟨_,rC,λR H v u Q s e1 e2 q=>by
 cases e1
 obtain⟨a,vs,rfl,hq,p,_⟩:=e2
 have e:=jN p
 subst e
 exact⟨a,_,rfl,.inl (aT.of (s _ _ hq)),rfl,jo xs,by rw[if_pos rfl,kB];exact q⟩⟩
theorem sL {xs:List α}(h:EV X e Γ (ae r) xs Γ1)(he:∀whole,OQ e X.env whole=(do let v ← whole;O4 e.pos;OF [v] (truthy v)):=by intro _;rfl):TV X e Γ (!xs.isEmpty) Γ1:=by
 intro σ H0 R0 H R E Q q
 refine tS (rK aJ he) (h σ H0 R0 H R E _ λv H1 R1 E1 s1 e1=>?_)
 obtain⟨a,vs,rfl,ha,pp,_⟩:=e1
 refine⟨!xs.isEmpty,.inl ⟨vs,aT.of (E1.sub _ _ ha),?_⟩,q H1 R1 E1 s1⟩
 cases pp<;>rfl
end
section
variable {X:Cx}{Γ Γ1 Γ2 Γ3:Ga}{α β γ δ:Type}{N:Ga->Prop}{T:RT}
theorem oV (i:Nat){x:Str}{p1 p2 pos:Pos}(h:N (Γ.set i (.di [])))
 (hN:X.N.Nodup:=by first | assumption | decide) (hi:X.N[i]?=some x:=by rfl) (hx:autoParam (Loc X.env.scope x) SY)
 (hs:Of (.Dict [] [] p2) (some (.Name x p1)) pos.line X.env=pure false:=by rfl) (hf:autoParam (X.fn x=true∨X.env.scope.names.lookup x=some .local) SX):
 W1 X (.Assign [.Name x p1] (.Dict [] [] p2) pos) Γ N T:=λσ H0 R0 H R E D dn dr=>by
 refine sS (jI hN hi hx yY hs hf) λp hp=>?_
 have E1:=E.grow (Ext.dP E.sub hp (.dK (cf [])))
 exact dn _ _ R _ (E1.vV (u:=.dK (cf [])) (en:=.di []) i ⟨p,rfl,aB,E.sub.free hp⟩ (E.ext.h.free hp) λj e _ q w=>E.off hp j e q w) (ar.refl _) h
theorem sD {R:Hp}:∀{xs:Li} {vs:List V},dE R vs (xs.map PV.str)->vs=xs.map V.str
 | [],_,.nil=>rfl
 | x::xs,_,.cons h t=>by cases h;rw[sD t];rfl
theorem u6 {es:Lm}{k:Nat}{pos:Pos}{xs:Li}(h:EA X es Γ ax (xs.map PV.str) Γ1)(hz:xs.length<=N7):EV X (.Tuple es k pos) Γ qN xs Γ1:=
 EV.re (gT h (by rw[LJ];exact hz)) λK R v e=>by
   cases e with
   | tup hp pp=>rw[sD pp] at hp;exact⟨_,rfl,de.of hp⟩
end
def BD (lo:Int)(n:Nat):It:=⟨λi _=>i < n,λi H x H'=>H'=H/\x= .int (lo - i),λi _=>n<=i⟩
theorem yN {P:Ob}{w:World}{K:QA}{tg:Expr}(it:Addr)(lo:Int)(n:Nat):Turn P w K tg (BD lo n) [it] it (λi h=>Ph h it (lo + (i:Nat) * (-1)) ((n:Int) - (i:Nat)) (-1)) where
 mem:=by simp
 obj:=λi h st b hb=>by
  have e:b=it:=by simpa using hb
  subst e
  exact⟨_,st,λv z=>by
   have z':Data.fields _=Data.cell v:=z
   cases z'⟩
 keep:=λi h h' st k=>k it (by simp) _ st
 item:=by
  intro X hP hw hK hc i QW s σ H E I hf st hg
  subst hP hw hK
  obtain⟨f0,f1,f2,f3,f4,f5⟩:=hf it (by simp)
  have W:=Walks.range (prog:=X.prog) (w:=X.w) (I.ok.hd hc) it lo (-1) n
  refine W.item i s _ _ hg st λv h' tk hv SG kk=>?_
  obtain⟨t,rfl⟩:=hv
  have I1:Inv X QW σ H {s with heap:=h',toks:=tk}:=I.turned (λb o hb e=>kk b o (by simpa using hb) e) f0 f1 f3 f4 f5
  refine⟨_,rfl,lT (s:={s with heap:=h',toks:=tk}) (n:="range_iterator") SG rfl rfl (by decide) ⟨.int (lo - i),H,I1,⟨t,?_⟩,⟨rfl,rfl⟩,SG,λb hb=>(hf b hb).1⟩⟩
  rw[show lo + (i:Int) * (-1)=lo - (i:Int) by omega]
 done:=by
  intro X hP hw hK hc i QW s σ H E I hf st hg
  subst hP hw hK
  obtain⟨f0,f1,f2,f3,f4,f5⟩:=hf it (by simp)
  exact wpAny_pyNext_range_end (I.ok.hd hc) st (by have:n<=i:=hg;omega) λh' eb=>⟨rfl,I.turned (t':=s.toks) (λb o hb e=>eb b o hb e) f0 f1 f3 f4 f5⟩
 self:=λ_ _ _ _ _ st h=>wpAny_pyIter_rangeiter st h
theorem pJ {a b:Int}:PD a b (-1)=((a - b).toNat:Int):=by
 unfold PD
 rw[if_neg (by decide)]
 split
 ·rw[show -(-1:Int)=1 by decide,Int.ediv_one];omega
 ·omega
theorem small_down {a b:Int}(ha: -(2 ^ 40)<=a)(R8:a < 2 ^ 40)(hb: -(2 ^ 40)<=b)(Se:b < 2 ^ 40):Builtin.Range.small a b (-1)=true:=by
 unfold Builtin.Range.small
 rw[pJ]
 simp only[Builtin.Range.rangeFitsLong,Lq,Lv,decide_eq_true_eq,beq_iff_eq,show¬(-1:Int) > 0 by decide,if_false]
 omega
section
variable {X:Cx}{tg:Expr}{Γ Γ1 Γ2 Γ3:Ga}
def Ij (ta:TA):TI:=λσ H R=>ta σ H λvs H1=>∃i j:Int,vs=[.int i,.int j,.int (-1)]/\(-(2 ^ 40)<=i/\i < 2 ^ 40/\ -(2 ^ 40)<=j/\j < 2 ^ 40)/\R (BD i (i - j).toNat) H1
theorem B4 {QW:Lg}{σ:St}{H:Hp}{s:N5}{R:It->Hp->Prop}{E:Value->N5->Prop}{lo hi:Int}{t u v:Tok}{tk:Nat}(I:Inv X QW σ H s)(h1: -(2 ^ 40)<=lo)(h2:lo < 2 ^ 40)(h3: -(2 ^ 40)<=hi)(h4:hi < 2 ^ 40)
 (q:R (BD lo (lo - hi).toNat) H):wpAny (model X.prog X.w) X.A (pyIter (.ref s.heap.objs.size)) (GY X QW σ tg R) E {s with heap:=s.heap.push {cls:=.type "range",data:=.fields #[.int lo t,.int hi u,.int (-1) v]},toks:=tk}:=by
 refine wpAny_pyIter_range (IsRange.new ..) (small_down h1 h2 h3 h4) ?_
 have I1:Inv X QW σ H {s with heap:=s.heap.push {cls:=.type "range",data:=.fields #[.int lo t,.int hi u,.int (-1) v]},toks:=tk}:=I.kept λb o e=>P9 _ e
 refine⟨(s.heap.push {cls:=.type "range",data:=.fields #[.int lo t,.int hi u,.int (-1) v]}).objs.size,[(s.heap.push {cls:=.type "range",data:=.fields #[.int lo t,.int hi u,.int (-1) v]}).objs.size],_,_,H,rfl,
  I1.kept (t':=tk) λb o e=>P9 _ e,yN _ lo (lo - hi).toNat,?_,λb hb=>?_,q⟩
 ·have e1:lo + ((0:Nat):Int) * (-1)=lo:=by simp
  have e2:(((lo - hi).toNat:Nat):Int) - ((0:Nat):Int)=PD lo hi (-1):=by rw[pJ];simp
  show Ph _ _ (lo + ((0:Nat):Int) * (-1)) ((((lo - hi).toNat:Nat):Int) - ((0:Nat):Int)) (-1)
  rw[e1,e2]
  exact Qb _ rfl
 ·have e:b=(s.heap.push {cls:=.type "range",data:=.fields #[.int lo t,.int hi u,.int (-1) v]}).objs.size:=by simpa using hb
  subst e
  exact I1.gu (Nm _) (I1.Q3.fresh (Nm _))
theorem yG {a b c:Expr}{ta:TA}{p pos:Pos}(hg:Gl X "range")(hm:X.mg "range"=none)(ha:PA X [a,b,c] ta)(hs:N8 [a,b,c] X.env=(false,eval a X.env)::N8 [b,c] X.env:=by rfl)(Rj:(Oe pos (N8 [b,c] X.env)).any (·.1)=false:=by rfl):
 PI X tg (.Call (.Name "range" p) [a,b,c] [] pos) (Ij ta):=by
 intro QW s σ H R I h
 refine Call_ (fI I hg hm N3 (NV (aL (ha pos QW s σ H _ I h) λus s1 ⟨vs,H1,I1,r1,q1⟩=>?_) hs Rj))
 obtain⟨i,j,e,⟨q1,q2,q3,q4⟩,q⟩:=q1
 subst e
 cases r1 with
 | cons r rr=>
   cases rr with
   | cons r' rr=>
     cases rr with
     | cons r'' rr=>
       cases rr
       obtain⟨t,rfl⟩:=r
       obtain⟨t',rfl⟩:=r'
       obtain⟨t'',rfl⟩:=r''
       exact call_range_3 (by decide) (B4 I1 q1 q2 q3 q4 q) (.inl (PyProof.noPylong_of_log2 (by decide +kernel)))
def downs (lo:Int)(n:Nat):Lh:=(L6 n).map λ(k:Nat)=>lo - (k:Int)
theorem gy (lo:Int)(n:Nat):(downs lo n).length=n:=by unfold downs;rw[LJ,MN]
theorem sh {lo:Int}{n i:Nat}{x:Int}(h:(downs lo n)[i]?=some x):i < n/\x=lo - (i:Int):=by
 have hi:i < n:=by have:=(LC.mp h).1;rwa [gy] at this
 refine⟨hi,?_⟩
 unfold downs at h
 rw[LM,Mq hi] at h
 exact(Option.some.inj h).symm
theorem zo {K:QA}{R1:Hp}(lo:Int)(n:Nat):Src K (BD lo n) R1 af (downs lo n):=λH' R' sR sH i=>⟨λx hx=>by
 obtain⟨h1,rfl⟩:=sh hx
 refine⟨h1,λv H2 hy=>?_⟩
 obtain⟨rfl,rfl⟩:=hy
 exact⟨R',Ext.refl sH,rfl⟩,λhi=>by rw[gy] at hi;exact hi⟩
theorem yW {a b c:Expr}{p1 p2:Pos}{m n:Int}(hm:X.mg "range"=none)(ha:HA X [a,b,c] Γ [⟨af,m⟩,⟨af,n⟩,⟨af, -1⟩] Γ1)(hn: -1000000<=m/\m<=1000000/\ -1000000<=n/\n<=1000000)
 (hs:N8 [a,b,c] X.env=(false,eval a X.env)::N8 [b,c] X.env:=by rfl) (Rj:(Oe p2 (N8 [b,c] X.env)).any (·.1)=false:=by rfl) (hg:Gl X "range":=by rfl):IV X tg (.Call (.Name "range" p1) [a,b,c] [] p2) Γ af (downs m (m - n).toNat) Γ1:=by
 refine⟨_,yG hg hm jS hs Rj,λσ H0 R0 H R E Rq q=>ha σ H0 R0 H R E _ λvs H1 R1 E1 s1 e1=>?_⟩
 have e:vs=[.int m,.int n,.int (-1)]:=by
  cases e1 with
  | cons a1 t=>cases t with
    | cons a2 t=>cases t with
      | cons a3 t=>cases t;cases a1;cases a2;cases a3;rfl
 subst e
 exact⟨m,n,rfl,⟨by omega,by omega,by omega,by omega⟩,q _ H1 R1 E1 s1 (by rw[gy];exact Nn (show(m - n).toNat<=2000000 by omega) (by decide)) (zo m (m - n).toNat)⟩
end
end Fc
namespace Fc.ZT
open PySem PySem.Spec PyProof.Rows
section
variable {prog:Ob}{w:World}{A:Od}{E:Value->N5->Prop}{s:N5}
theorem t8 {i l:Addr}{QX:Array Value}(hh:A.handled=none)(Q7:i≠l):Dr prog w A i l QX (λk h=>h.IsListIter i l k/\h.IsList l QX) where
 up:=λ⟨⟨o,ho,r⟩,⟨o',Sr,r'⟩⟩ hk=>⟨⟨o,hk _ (.inl rfl) o ho,r⟩,⟨o',hk _ (.inr rfl) o' Sr,r'⟩⟩
 there:=λ⟨⟨o,ho,_⟩,_⟩=>Qa ho
 item:=λ{k x s Q E} ⟨hit,ht⟩ hx hQ=>wpAny_nextOf_list_item hit ht hx λh' h1 h2=>hQ h' ⟨h1,ht.extBut h2.extBut (NN Q7)⟩ h2
 done:=λ{k s Q E} ⟨hit,ht⟩ hx hE=>wpAny_nextOf_list_end hh hit ht hx λh' e h1 h2=>hE h' e h1 h2
end
abbrev zhX (h:Heap)(l1 l2:Addr):Heap:=((((h.push {cls:=.type "tuple_iterator",data:=.fields #[.ref l1,.int 0 0]}).push {cls:=.type "list_iterator",data:=.fields #[.ref l2,.int 0 0]}).push {cls:=.type "tuple",data:=.seq #[.ref h.objs.size,.ref (h.objs.size + 1)]}).push {cls:=.type "tuple",data:=.seq #[.none,.none]}).push {cls:=.type "zip",data:=.fields #[.none,.bool false,.bool false,.ref (h.objs.size + 2),.ref (h.objs.size + 3)]}
theorem yX (l1 l2:Addr)(xs ys:Array Value):Meets (Builtin.«zip.__new__» ⟨[.type "zip",.ref l1,.ref l2],[]⟩) (λ_ R s=>s.heap.IsTuple l1 xs/\s.heap.IsList l2 ys/\R (.ok (.ret (.ref (s.heap.objs.size + 4)))) {s with heap:=zhX s.heap l1 l2}):=
 .of_wp λprog w A R s h=>by
  obtain⟨hp,g,d,tk,os⟩:=s;obtain⟨hl1,T3,h⟩:=h
  have Rx:isSubtype (.type "zip") (.type "zip")=pure true:=by rw[isSubtype_type];kernel_rfl
  have hL1:Heap.IsTuple (N5.heap ⟨hp,g,d,tk,os⟩) l1 xs:=hl1
  have hL2:Heap.IsList (N5.heap ⟨hp.push {cls:=.type "tuple_iterator",data:=.fields #[.ref l1,.int 0 0]},g,d,tk,os⟩) l2 ys:=Heap.IsList.push T3 _
  wp_walk using wpAny_pyIter_tuple hL1,OU hL2
  refine⟨_,rfl,?_⟩
  simp only[Qc]
  exact h
section
variable {prog:Ob}{w:World}{A:Od}{E:Value->N5->Prop}{s:N5}
theorem wG {l1 l2:Addr}{xs ys:Array Value}{Q:Value->N5->Prop}(hl1:s.heap.IsTuple l1 xs)(T3:s.heap.IsList l2 ys)
 (h:∀h',IsZip h' (s.heap.objs.size + 4) (s.heap.objs.size + 2) (s.heap.objs.size + 3) .none->Oq h' (s.heap.objs.size + 2) (.ref s.heap.objs.size) (.ref (s.heap.objs.size + 1))->Oq h' (s.heap.objs.size + 3) .none .none->h'.IsTupleIter s.heap.objs.size l1 0->h'.IsListIter (s.heap.objs.size + 1) l2 0->
  (∀c o,s.heap.get? c=some o->h'.get? c=some o)->Q (.ref (s.heap.objs.size + 4)) {s with heap:=h'}):wpAny (model prog w) A (call (.type "zip") [.ref l1,.ref l2]) Q E s:=by
 refine callType_new F.called_zip (by decide) (F.typeCall_zip_2 _ _) (F.newCall_zip_2 _ _) (λobj=>F.args_object_init_3 obj _ _) F.entry_zip_new (yX l1 l2 xs ys) ⟨hl1,T3,?_⟩
 have at_:∀(h:Heap) (o:Obj) (n:Nat),h.objs.size=n->o.isFreed=false->(h.push o).get? n=some o:=λh o n e f=>by subst e;exact Qb _ f
 have g5:=at_ ((((s.heap.push {cls:=.type "tuple_iterator",data:=.fields #[.ref l1,.int 0 0]}).push {cls:=.type "list_iterator",data:=.fields #[.ref l2,.int 0 0]}).push {cls:=.type "tuple",data:=.seq #[.ref s.heap.objs.size,.ref (s.heap.objs.size + 1)]}).push {cls:=.type "tuple",data:=.seq #[.none,.none]}) {cls:=.type "zip",data:=.fields #[.none,.bool false,.bool false,.ref (s.heap.objs.size + 2),.ref (s.heap.objs.size + 3)]} (s.heap.objs.size + 4) (by simp[Qc]) rfl
 have g4:=at_ (((s.heap.push {cls:=.type "tuple_iterator",data:=.fields #[.ref l1,.int 0 0]}).push {cls:=.type "list_iterator",data:=.fields #[.ref l2,.int 0 0]}).push {cls:=.type "tuple",data:=.seq #[.ref s.heap.objs.size,.ref (s.heap.objs.size + 1)]}) {cls:=.type "tuple",data:=.seq #[.none,.none]} (s.heap.objs.size + 3) (by simp[Qc]) rfl
 have g3:=at_ ((s.heap.push {cls:=.type "tuple_iterator",data:=.fields #[.ref l1,.int 0 0]}).push {cls:=.type "list_iterator",data:=.fields #[.ref l2,.int 0 0]}) {cls:=.type "tuple",data:=.seq #[.ref s.heap.objs.size,.ref (s.heap.objs.size + 1)]} (s.heap.objs.size + 2) (by simp[Qc]) rfl
 have g2:=at_ (s.heap.push {cls:=.type "tuple_iterator",data:=.fields #[.ref l1,.int 0 0]}) {cls:=.type "list_iterator",data:=.fields #[.ref l2,.int 0 0]} (s.heap.objs.size + 1) (by simp[Qc]) rfl
 have g1:=at_ s.heap {cls:=.type "tuple_iterator",data:=.fields #[.ref l1,.int 0 0]} s.heap.objs.size rfl rfl
 have p:=@P9
 exact⟨⟨_,g5,rfl⟩,h _ g5 (p _ (p _ g3)) (p _ g4) ⟨_,p _ (p _ (p _ (p _ g1))),rfl,rfl⟩ ⟨_,p _ (p _ (p _ g2)),rfl,rfl⟩ λc o x=>p _ (p _ (p _ (p _ (p _ x))))⟩
end
end Fc.ZT
namespace Fc
open PySem PySem.Spec PySem.W PySem.Calls L2
open PyProof.Rows hiding St
section
variable {X:Cx}{Γ Γ1 Γ2 Γ3:Ga}{α β γ δ:Type}{N:Ga->Prop}{T:RT}
variable {es:Lm}{tp:Pos}
def GX (K:QA)(a b:Addr):It:=
 ⟨λi H=>∃xs ys x y,de K H a xs/\aT K H b ys/\xs[i]?=some x/\ys[i]?=some y,
  λi H v H'=>∃p x y,H p=none/\v= .ref p/\H'=upd H p (.tup [x,y])/\(∀xs,de K H a xs->xs[i]?=some x)/\∀ys,aT K H b ys->ys[i]?=some y,
  λi H=>∃xs ys,de K H a xs/\aT K H b ys/\(xs.length<=i∨ys.length<=i)⟩
def J4 (z TI TO i1 i2 a b:Addr)(i:Nat)(h:Heap):Prop:=
 IsZip h z TI TO .none/\Oq h TI (.ref i1) (.ref i2)/\(∃u v,Oq h TO u v)/\h.IsTupleIter i1 a i/\h.IsListIter i2 b i/\a≠TO/\b≠TO
theorem JI {h:Heap}{z TI TO i1 i2 a b:Addr}{i:Nat}{xs ys:Array Value}(F:rf z TI TO i1 i2)(st:J4 z TI TO i1 i2 a b i h)(pa:IsTup h a xs)(pb:PlainL h b ys):ZipApart z TI TO i1 i2 a b:=by
 obtain⟨hz,_,⟨u,v,RR⟩,⟨o1,e1,c1,_⟩,⟨o2,e2,c2,_⟩,n1,n2⟩:=st
 exact⟨F.TIz,F.TOz,F.i1z,F.i2z,F.TITO,F.TIi1,F.TIi2,F.TOi1,F.TOi2,F.i12,
  tup_ne pa hz (by simp),n1,tup_ne pa e1 (by rw[c1];simp),tup_ne pa e2 (by rw[c2];simp),
  dj pb hz (by simp),dj pb RR (by simp),dj pb e1 (by rw[c1];simp),dj pb e2 (by rw[c2];simp)⟩
theorem yp {P:Ob}{w:World}{K:QA}{k:Nat}(a b z TI TO i1 i2:Addr)(F:rf z TI TO i1 i2):Turn P w K (.Tuple es k tp) (GX K a b) [z,TI,TO,i1,i2] z (J4 z TI TO i1 i2 a b) where
 mem:=by simp
 obj:=λi h st c hc=>by
  obtain⟨hz,R6,⟨u,v,RR⟩,⟨o1,e1,c1,d1⟩,⟨o2,e2,c2,d2⟩,_⟩:=st
  simp only[LV,Md,or_false] at hc
  rcases hc with rfl | rfl | rfl | rfl | rfl
  ·exact⟨_,hz,λv q=>by cases q⟩
  ·exact⟨_,R6,λv q=>by cases q⟩
  ·exact⟨_,RR,λv q=>by cases q⟩
  ·exact⟨o1,e1,λv q=>by rw[d1] at q;cases q⟩
  ·exact⟨o2,e2,λv q=>by rw[d2] at q;cases q⟩
 keep:=λi h h' st kk=>by
  obtain⟨hz,R6,⟨u,v,RR⟩,h1,h2,n1,n2⟩:=st
  exact⟨kk z (by simp) _ hz,kk TI (by simp) _ R6,⟨u,v,kk TO (by simp) _ RR⟩,h1.imp λo q=>⟨kk i1 (by simp) o q.1,q.2⟩,h2.imp λo q=>⟨kk i2 (by simp) o q.1,q.2⟩,n1,n2⟩
 item:=by
  intro X hP hw hK hc i QW s σ H E I hf st hg
  subst hP hw hK
  obtain⟨xs,ys,x,y,hq,R9,hx,hy⟩:=hg
  obtain⟨QX,r,pl,hz⟩:=I.tuple hq
  obtain⟨its',r',RS,Ta⟩:=I.list R9
  obtain⟨u,hu,rx⟩:=r.get hx
  obtain⟨u',Ug,ry⟩:=r'.get hy
  have D:=JI F st pl RS
  have hh:=I.ok.hd hc
  obtain⟨Tp,R6,⟨c,d,RR⟩,h1,h2,n1,n2⟩:=st
  have hn:H s.heap.objs.size=none:=I.Q3.fresh (Nm _)
  refine ZT.CO D (ZT.rN (A:=X.A.in1) hh (NN D.l1i1)) (ZT.t8 (A:=X.A.in1) hh (NN D.l2i2)) Tp R6 RR ⟨h1,pl⟩ ⟨h2,RS.isList⟩ (x:=u) (y:=u') (by simpa using hu) (by simpa using Ug) λh' a1 a2 a3 a4 a5 hk=>?_
  refine⟨_,rfl,?_⟩
  refine wpAny_letOwnedTupleGo_zip (s:={s with heap:=h'}) a1 λh3 hz3 Tc=>?_
  have lt:∀{c o},s.heap.get? c=some o->c≠s.heap.objs.size:=λe=>Nt (Qa e)
  have Ve:∀b o,b∉[z,TI,TO,i1,i2]->s.heap.get? b=some o->h3.get? b=some o:=λb o hb q=>by
   simp only[LV,Md,or_false,not_or] at hb
   exact Tc.extBut b o hb.1 (hk b o hb.1 hb.2.2.1 hb.2.2.2.1 hb.2.2.2.2 q)
  have I1:Inv X QW σ H {s with heap:=h3,toks:=s.toks}:=iK I Ve hf
  have V7:h3.get? s.heap.objs.size=some {cls:=.type "tuple",data:=.seq #[u,u']}:=Tc.extBut _ _ (NN (lt Tp)) a5
  have I2:Inv X QW σ (upd H s.heap.objs.size (.tup [x,y])) {s with heap:=h3,toks:=s.toks}:=
   adopt I1 (I.gu (Nm _) hn) (I.sz) ⟨by show 2<=N7;decide,[u,u'],.cons rx (.cons ry .nil),⟨_,V7,rfl,_,rfl⟩⟩
  refine⟨.ref s.heap.objs.size,_,I2,rfl,⟨s.heap.objs.size,x,y,hn,rfl,rfl,λzs UI=>?_,λzs UI=>?_⟩,⟨hz3,?_,⟨_,_,Tc.extBut _ _ F.TOz a2⟩,a3.1.extBut Tc.extBut F.i1z,a4.1.extBut Tc.extBut F.i2z,n1,n2⟩,λb hb=>?_⟩
  ·rw[I.pN UI hq];exact hx
  ·rw[I.gI UI R9];exact hy
  ·exact Tc.extBut _ _ F.TIz (hk _ _ F.TIz F.TITO F.TIi1 F.TIi2 R6)
  ·have RZ:b≠s.heap.objs.size:=by
    simp only[LV,Md,or_false] at hb
    rcases hb with rfl | rfl | rfl | rfl | rfl
    ·exact lt Tp
    ·exact lt R6
    ·exact lt RR
    ·obtain⟨_,e,_⟩:=h1;exact lt e
    ·obtain⟨_,e,_⟩:=h2;exact lt e
   rw[aF RZ]
   exact(hf b hb).1
 done:=by
  intro X hP hw hK hc i QW s σ H E I hf st hg
  subst hP hw hK
  obtain⟨xs,ys,hq,R9,hx⟩:=hg
  obtain⟨QX,r,pl,hz⟩:=I.tuple hq
  obtain⟨its',r',RS,Ta⟩:=I.list R9
  have D:=JI F st pl RS
  have hh:=I.ok.hd hc
  obtain⟨Tp,R6,⟨c,d,RR⟩,h1,h2,n1,n2⟩:=st
  have l1:=r.length
  have l2:=r'.length
  refine ZT.En D (ZT.rN (A:=X.A.in1) hh (NN D.l1i1)) (ZT.t8 (A:=X.A.in1) hh (NN D.l2i2)) Tp R6 RR ⟨h1,pl⟩ ⟨h2,RS.isList⟩ (hx.imp (λq=>by simp;omega) λq=>by simp;omega) λh' hk=>⟨rfl,?_⟩
  refine iK (t':=s.toks) I (λb o hb q=>?_) hf
  simp only[LV,Md,or_false,not_or] at hb
  exact hk b o hb.1 hb.2.2.1 hb.2.2.2.1 hb.2.2.2.2 q
 self:=λ_ _ _ _ _ st h=>OW st.1 h
def HY (K:QA)(ta:TA):TI:=λσ H R=>ta σ H λvs H1=>∃a b xs ys,vs=[.ref a,.ref b]/\de K H1 a xs/\aT K H1 b ys/\R (GX K a b) H1
theorem Dl {a b:Expr}{ta:TA}{p pos:Pos}{k:Nat}(hg:Gl X "zip")(hm:X.mg "zip"=none)(ha:PA X [a,b] ta)(hs:N8 [a,b] X.env=[(false,eval a X.env),(false,eval b X.env)]:=by rfl)(RA:N8 [b] X.env=[(false,eval b X.env)]:=by rfl):PI X (.Tuple es k tp) (.Call (.Name "zip" p) [a,b] [] pos) (HY X.K ta):=by
 intro QW s σ H R I h
 refine Call_ (fI I hg hm boot_zip (NV (aL (ha pos QW s σ H _ I h) λus s1 ⟨vs,H1,I1,r1,q1⟩=>?_) (by rw[hs,RA]) (by rw[RA];rfl)))
 obtain⟨l,l',xs,ys,e,hq,R9,q⟩:=q1
 subst e
 cases r1 with
 | cons r rr=>
   cases rr with
   | cons r' rr=>
     cases rr
     cases r
     cases r'
     obtain⟨QX,_,pl,_⟩:=I1.tuple hq
     obtain⟨its',_,RS,_⟩:=I1.list R9
     have ll:l < s1.heap.objs.size:=by obtain⟨o,e,_⟩:=pl;exact Qa e
     have ll':l' < s1.heap.objs.size:=by obtain⟨o,n,e,_⟩:=RS;exact Qa e
     refine ZT.wG pl RS.isList λh' a1 a2 a3 a4 a5 hk=>?_
     refine OW a1 ?_
     have I2:Inv X QW σ H1 {s1 with heap:=h'}:=I1.kept (t':=s1.toks) hk
     have ff:∀b,s1.heap.objs.size<=b->iT X QW H1 b:=λb hb=>I1.gu hb (I1.Q3.fresh hb)
     refine⟨s1.heap.objs.size + 4,[s1.heap.objs.size + 4,s1.heap.objs.size + 2,s1.heap.objs.size + 3,s1.heap.objs.size,s1.heap.objs.size + 1],_,_,H1,rfl,I2,yp l l' _ _ _ _ _ (GR _),⟨a1,a2,⟨_,_,a3⟩,a4,a5,Nt (Nq ll (Nw _ 3)),Nt (Nq ll' (Nw _ 3))⟩,λb hb=>?_,q⟩
     simp only[LV,Md,or_false] at hb
     rcases hb with rfl | rfl | rfl | rfl | rfl
     ·exact ff _ (Nw _ 4)
     ·exact ff _ (Nw _ 2)
     ·exact ff _ (Nw _ 3)
     ·exact ff _ (Nm _)
     ·exact ff _ (Nw _ 1)
theorem Di {a b:Expr}{p pos:Pos}{k:Nat}{ys:Li}{r:Rep α}{xs:List α}(hm:X.mg "zip"=none)(ha:EV X a Γ qN ys Γ1)(hb:EV X b Γ1 (ae r) xs Γ2)(hs:N8 [a,b] X.env=[(false,eval a X.env),(false,eval b X.env)]:=by rfl)(RA:N8 [b] X.env=[(false,eval b X.env)]:=by rfl)(hg:Gl X "zip":=by rfl):
 IV X (.Tuple es k tp) (.Call (.Name "zip" p) [a,b] [] pos) Γ (dB ah r) (ys.zip xs) Γ2:=by
 refine⟨_,Dl hg hm (aV aJ (aV aJ bE RA) (by rw[hs,RA])) hs RA,λσ H0 R0 H R E Rq q=>ha σ H0 R0 H R E _ λv H1 R1 E1 s1 e1=>hb σ H0 R0 H1 R1 E1 _ λv' H2 R2 E2 s2 e2=>?_⟩
 obtain⟨a,rfl,Va⟩:=qN.mono (K:=X.K) s2 e1
 obtain⟨b,vs,rfl,hp,pp,hz⟩:=e2
 have up:∀{R' H':Hp},ar R2 R'->ar R' H'->de X.K H' a (ys.map V.str):=λsR sH=>Va.imp (λh=>h.imp (λq=>sH _ _ (sR _ _ q)) λ⟨o,q⟩=>⟨o,sH _ _ (sR _ _ q)⟩) id
 refine⟨a,b,_,vs,rfl,up (ar.refl _) E2.sub,aT.of (E2.sub _ _ hp),q _ H2 R2 E2 (s1.trans s2) (by rw[Mt];exact Nn (NH _ _) hz) λH' R' sR sH i=>⟨λy hy=>?_,λhi=>?_⟩⟩
 ·have hq:aT X.K H' b vs:=aT.of (sH _ _ (sR _ _ hp))
  have R9:=up sR sH
  obtain⟨e1,e2⟩:=iV hy
  obtain⟨v,hv,hr⟩:=cX pp e2
  have SR:(ys.map V.str)[i]?=some (V.str y.1):=by rw[LM,e1];rfl
  refine⟨⟨_,vs,_,v,R9,hq,SR,hv⟩,λv2 H3 UJ=>?_⟩
  obtain⟨p,x,x',Uk,rfl,rfl,hy,Vx⟩:=UJ
  have t1:=hy _ R9
  have t2:=Vx vs hq
  rw[SR] at t1
  rw[hv] at t2
  cases t1
  cases t2
  have s3:ar R' (upd R' p (.tup [.str y.1,v])):=ar.fresh (sH.free Uk) _
  exact⟨upd R' p (.tup [.str y.1,v]),Ext.fresh sH Uk _,p,_,_,rfl,aB,rfl,r.mono s3 (r.mono sR hr)⟩
 ·refine⟨_,vs,up sR sH,aT.of (sH _ _ (sR _ _ hp)),?_⟩
  rw[Mt] at hi
  rw[LJ,pp.length]
  omega
end
section
variable {X:Cx}{Γ Γ1 Γ2 Γ3:Ga}{α β γ δ:Type}{N:Ga->Prop}{T:RT}
theorem aW.cst {e:Expr}{r:Rep α}{xs ys:List α}(h:aW X e Γ r xs Γ1)(q:xs=ys):aW X e Γ r ys Γ1:=q▸h
theorem DG {e f:Expr}{x:Str}{p1 ap cp:Pos}{D:List (Str×Li)}{k:Str}{zs:Li}(hD:ku X.prog X.w X.K X.mg x D)(he:EV X e Γ ah k Γ1)(hf:EV X f Γ1 qN zs Γ2)(hg:Gl X x:=by rfl)(hd:Rh x:=by decide)(m:M2 X (.Name x p1) "get" ap e f cp:=by exact⟨rfl,rfl,rfl,rfl⟩):EV X (.Call (.Attribute (.Name x p1) "get" ap) [e,f] [] cp) Γ qN ((cF D k).getD zs) Γ2:=by
 intro σ H0 R0 H R E Q q
 obtain⟨a,o,vs,hm,hk,hdo,hs,hp⟩:=hD
 have pe:PE X (.Call (.Attribute (.Name x p1) "get" ap) [e,f] [] cp) (λσ H Q=>eQ X e σ H λy H1=>y= .str k/\eQ X f σ H1 λz H2=>(∀b,cF D k≠none->Oz vs (Sum.inr k:Key)=some (.ref b)->Q (.ref b) H2)/\(cF D k=none->Q z H2)):=by
  intro QW s σ H Q I h
  refine wpAny_Call_method m.base m.few m.line PySem.F.plainAttrs_dict PySem.F.slot_dict_get PySem.F.type_dict_get (aL (gM (v:=.ref a) hg hm rfl hd QW s σ H (λv H2=>v= .ref a/\H2=H) I ⟨rfl,rfl⟩) λu s1 ⟨x1,H1,I1,rx,e3,e4⟩=>?_)
  subst e3;subst e4
  obtain rfl:u=Qt a:=rx
  have dd:s1.heap.DictOf (bP X.prog X.w) a vs:=Qg.mpr ⟨o,I1.eJ a o hk,hdo⟩
  refine⟨dd.typeIs,λb q=>?_,?_⟩
  ·cases q
   obtain⟨ob,_,_,h1,h2,_⟩:=dd
   exact⟨ob,h1,h2.2.1⟩
  rw[m.trees]
  refine PR rfl (Calls.evalArgs_plain (PU (aL (h QW s1 I1) λiv s2 ⟨y,H2,I2,ry,ey,q2⟩=>
   PU (aL (q2 QW s2 I2) λfv s3 ⟨z,H3,I3,rz,q3,q4⟩=>Calls.spliced_nil ?_))))
  subst ey
  have dd3:s3.heap.DictOf (bP X.prog X.w) a vs:=Qg.mpr ⟨o,I3.eJ a o hk,hdo⟩
  refine call_meetsIn PySem.F.slot_dict_get dd3.typeIs PySem.F.entry_dict_get (PySem.F.args_dict_get_3 _ _ _) (meets_dict_get_default (bP X.prog X.w) a (iB (k:=Sum.inr k) ry) hs fv) ⟨_,dd3.mapOf,?_⟩
  rcases qt (x:=k) hp with⟨h1,h2⟩ | ⟨ys,b,h1,h2,_⟩
  ·rw[h2];exact⟨z,_,I3.tok _,rz,q4 h1⟩
  ·rw[h2];exact⟨.ref b,_,I3.tok _,rfl,q3 b (by rw[h1];exact NR _) h2⟩
 refine eS pe (he σ H0 R0 H R E _ λv H1 R1 E1 s1 e1=>⟨e1,hf σ H0 R0 H1 R1 E1 _ λv2 H2 R2 E2 s2 e2=>⟨λb hb hv=>?_,λhn=>?_⟩⟩)
 ·rcases qt (x:=k) hp with⟨h1,h2⟩ | ⟨ys,b',h1,h2,o',QX,n,h3⟩
  ·exact absurd h1 hb
  ·rw[hv] at h2;cases h2
   refine q _ H2 R2 E2 (s1.trans s2) ?_
   rw[h1]
   exact⟨b,rfl,.inr ⟨o',QX,n,h3⟩⟩
 ·refine q _ H2 R2 E2 (s1.trans s2) ?_
  rw[hn];exact e2
end
def JV (K:QA)(a:Addr)(n:Nat):It:=
 ⟨λi H=>∃xs,aT K H a xs/\xs.length=n/\i < n,λi H x H'=>H'=H/\∀xs,aT K H a xs->xs[n - 1 - i]?=some x,λi _=>n<=i⟩
theorem y8 {P:Ob}{w:World}{K:QA}{tg:Expr}(a it:Addr)(n:Nat):Turn P w K tg (JV K a n) [it] it (λi h=>i<=n/\h.IsRevIter it a ((n:Int) - 1 - (i:Int))) where
 mem:=by simp
 obj:=λi h st b hb=>by
  have e:b=it:=by simpa using hb
  subst e
  obtain⟨_,o,e,c,d⟩:=st
  exact⟨o,e,λv z=>by rw[d] at z;cases z⟩
 keep:=λi h h' st k=>⟨st.1,st.2.at λo e=>k it (by simp) o e⟩
 item:=by
  intro X hP hw hK hc i QW s σ H E I hf st hg
  subst hP hw hK
  obtain⟨xs,hq,hl,hi⟩:=hg
  obtain⟨QX,rv,p,hz⟩:=I.list hq
  have hx:xs[n - 1 - i]?=some xs[n - 1 - i]:=LD (by omega)
  obtain⟨u,hu,ru⟩:=rv.get hx
  obtain⟨f0,f1,f2,f3,f4,f5⟩:=hf it (by simp)
  have SK:s.heap.IsRevIter it a (((n - 1 - i:Nat)):Int):=by rw[show(((n - 1 - i:Nat)):Int)=(n:Int) - 1 - (i:Int) by omega];exact st.2
  refine wpAny_pyNext_rev_item SK p.isList (x:=u) (by simpa using hu) λh' SG sb=>?_
  have I1:Inv X QW σ H {s with heap:=h'}:=I.turned (t':=s.toks) (λb o hb e=>(sb.2 b hb).trans e) f0 f1 f3 f4 f5
  have TR:h'.IsRevIter it a ((n:Int) - 1 - ((i + 1:Nat):Int)):=by rw[show(n:Int) - 1 - ((i + 1:Nat):Int)=(((n - 1 - i:Nat)):Int) - 1 by omega];exact SG
  obtain⟨o,e,c,d⟩:=id TR
  exact⟨u,rfl,lT (s:={s with heap:=h'}) e c d (by decide) ⟨_,H,I1,ru,⟨rfl,λys hy=>by rw[I.gI hy hq];exact hx⟩,⟨by omega,TR⟩,λb hb=>(hf b hb).1⟩⟩
 done:=by
  intro X hP hw hK hc i QW s σ H E I hf st hg
  subst hP hw hK
  obtain⟨f0,f1,f2,f3,f4,f5⟩:=hf it (by simp)
  obtain⟨Sj,st⟩:=st
  have e:(n:Int) - 1 - (i:Int)= -1:=by have:n<=i:=hg;omega
  rw[e] at st
  exact wpAny_pyNext_rev_end (I.ok.hd hc) st λh' eb=>⟨rfl,I.turned (t':=s.toks) (λb o hb e=>eb b o hb e) f0 f1 f3 f4 f5⟩
 self:=λ_ _ _ _ _ st h=>wpAny_pyIter_revIter st.2 h
section
variable {X:Cx}{Γ Γ1 Γ2 Γ3:Ga}{α β γ δ:Type}{N:Ga->Prop}{T:RT}{tg:Expr}
variable {pos:Pos}{x:Str}{e:Expr}{p1:Pos}
def Lc (K:QA)(ta:TA):TI:=λσ H R=>ta σ H λvs H1=>∃a xs,vs=[.ref a]/\aT K H1 a xs/\R (JV K a xs.length) H1
theorem Fu {a:Expr}{ta:TA}{p:Pos}(hg:Gl X "reversed")(hm:X.mg "reversed"=none)(ha:PA X [a] ta)(hs:N8 [a] X.env=[(false,eval a X.env)]:=by rfl):PI X tg (.Call (.Name "reversed" p) [a] [] pos) (Lc X.K ta):=by
 intro QW s σ H R I h
 refine Call_ (fI I hg hm PyProof.Rows.boot_reversed (NV (aL (ha pos QW s σ H _ I h) λus s1 ⟨vs,H1,I1,r1,q1⟩=>?_) hs rfl))
 obtain⟨l,xs,e,hq,q⟩:=q1
 subst e
 cases r1 with
 | cons r rr=>
   cases rr
   cases r
   obtain⟨QX,rv,pl,hz⟩:=I1.list hq
   have hl:=rv.length
   refine call_reversed_list pl.isList ?_
   have I2:Inv X QW σ H1 {s1 with heap:=s1.heap.push (revObj l ((QX.toArray.size:Int) - 1))}:=I1.kept (t':=s1.toks) λb o e=>P9 _ e
   have it0:(s1.heap.push (revObj l ((QX.toArray.size:Int) - 1))).IsRevIter s1.heap.objs.size l ((xs.length:Int) - 1 - ((0:Nat):Int)):=⟨_,Qb _ rfl,rfl,by
    rw[show((xs.length:Int) - 1 - ((0:Nat):Int))=((QX.toArray.size:Int) - 1) by simp;omega];rfl⟩
   refine wpAny_pyIter_revIter it0 ?_
   refine⟨s1.heap.objs.size,[s1.heap.objs.size],_,_,H1,rfl,I2,y8 l _ xs.length,⟨Np _,it0⟩,λb hb=>?_,q⟩
   have e:b=s1.heap.objs.size:=by simpa using hb
   subst e
   exact I1.gu (Nm _) (I1.Q3.fresh (Nm _))
theorem Gu {a:Expr}{p:Pos}{r:Rep α}{xs:List α}(hm:X.mg "reversed"=none)(ha:EV X a Γ (ae r) xs Γ1)(hs:N8 [a] X.env=[(false,eval a X.env)]:=by rfl)(hg:Gl X "reversed":=by rfl):IV X tg (.Call (.Name "reversed" p) [a] [] pos) Γ r xs.reverse Γ1:=by
 refine⟨_,Fu hg hm (aV aJ bE hs) hs,λσ H0 R0 H R E Rq q=>ha σ H0 R0 H R E _ λv H1 R1 E1 s1 e1=>?_⟩
 obtain⟨a,vs,rfl,hp,pp,z⟩:=e1
 have hvl:=pp.length
 refine⟨a,vs,rfl,aT.of (E1.sub _ _ hp),q _ H1 R1 E1 s1 (by rw[M0];exact z) λH' R' sR sH i=>⟨λx hx=>?_,λhi=>?_⟩⟩
 ·have hq:aT X.K H' a vs:=aT.of (sH _ _ (sR _ _ hp))
  have hi:i < xs.length:=by have:=(LC.mp hx).1;rwa [M0] at this
  rw[Nf hi] at hx
  obtain⟨v,hv,hr⟩:=cX pp hx
  refine⟨⟨vs,hq,rfl,by omega⟩,λv' H2 hy=>?_⟩
  obtain⟨rfl,hy⟩:=hy
  have:=hy vs hq
  rw[show vs.length - 1 - i=xs.length - 1 - i by omega,hv] at this
  cases this
  exact⟨R',Ext.refl sH,r.mono sR hr⟩
 ·rw[M0] at hi
  show vs.length<=i
  omega
theorem xC (i:Nat){ap cp:Pos}{r:Rep α}{xs ys:List α}(he:EV X e Γ (ae r) ys Γ1)(hΓ:Γ[i]?=some (.mu r xs))(hΓ1:Γ1[i]?=some (.mu r xs))(hz:xs.length + ys.length<=N7)(h:N (Γ1.set i (.mu r (xs++ys))))
 (hN:X.N[i]?=some x:=by rfl) (hv:autoParam (cG X.env.scope x) RE)
 (hd:Rh x:=by decide) (Q4:RG x:=by decide)
 (Sb:Of (.Call (.Attribute (.Name x p1) "extend" ap) [e] [] cp) none pos.line X.env=pure false:=by rfl)
 (Ra:Oc (.Name x p1) "extend" X.env (eval (.Name x p1) X.env)=eval (.Name x p1) X.env:=by rfl)
 (Rt:((Oe cp (N8 [e] X.env)).all (λx=> !x.1)&&(OJ cp (Ow [] X.env)).all (λx=>x.1.isSome)
  &&decide ([e].length + ([]:List Oi).length + (if([]:List Oi).isEmpty then 0 else 1) < 30))=true:=by rfl)
 (Q9:(ap.endLine==cp.line)=true:=by rfl) (hs:N8 [e] X.env=(false,eval e X.env)::N8 [] X.env:=by rfl):W1 X (.Expr (.Call (.Attribute (.Name x p1) "extend" ap) [e] [] cp) pos) Γ N T:=λσ H0 R0 H R E D dn dr=>by
 obtain⟨a,vs,ea,ha,hR,pp⟩:=E.ent i _ hΓ
 refine sS (fZ (gZ PZ PySem.F.slot_list_extend PySem.F.type_list_extend x6 (bp hN hv hd Q4) (aV aJ bE hs) Ra Rt Q9 hs rfl) Sb) ?_
 refine⟨.ref a,at_of ea,.inl ⟨rfl,vs,aT.of ha⟩,he σ H0 R0 H R E _ λu H1 R1 E1 s1 e1=>?_⟩
 obtain⟨b,ws,rfl,hb,pw,hw⟩:=e1
 obtain⟨a',Ru,Ry,R8,RF,RP⟩:=E1.ent i _ hΓ1
 rw[ea] at Ry;cases Ry
 refine⟨a,b,Ru,ws,rfl,rfl,R8,E1.sub _ _ hb,by rw[RP.length,pw.length];exact hz,?_⟩
 exact dn σ _ R1 _ (E1.upd (en:=.mu r (xs++ys)) hΓ1 rfl ea RF ⟨a,_,rfl,aB,RF,cY RP pw⟩) s1 h
theorem u9 {d:Expr}{kvs:List (Int×V)}{k:Int}(hu:X.A.units + 1 < cLine)(he:EV X e Γ af k Γ1)(hd:EV X d Γ1 gj kvs Γ2)(hm:OE .NotIn d=false:=by first | exact rX _ | with_unfolding_all rfl):TV X (.Compare e [.NotIn] [d] pos) Γ (!gJ kvs k) Γ2:=by
 intro σ H0 R0 H R E Q q
 refine tS (kS (lO hu aJ aJ) hm) (he σ H0 R0 H R E _ λv H1 R1 E1 s1 e1=>hd σ H0 R0 H1 R1 E1 _ λu H2 R2 E2 s2 e2=>?_)
 cases e1
 obtain⟨p,rfl,hp⟩:=e2
 refine⟨p,_,rfl,gg.k (k:=Sum.inl k) (E2.sub _ _ hp),_,rfl,?_⟩
 rw[nV]
 exact q H2 R2 E2 (s1.trans s2)
abbrev sG (ks:Li):List (Key×V):=ks.map λk=>(Sum.inr k,V.bl true)
def mv (a:Addr)(ks:Li):uL where
 fp:=[a]
 R:=λK H R v=>v= .ref a/\H a=some (.dK (sG ks))
 loc:=λhH hR ⟨e,h1⟩=>⟨e,(hH a (by simp)).trans h1⟩
 has:=λ⟨e,h1⟩ b hb=>by rw[LH.mp hb,h1];exact NR _
theorem WS.Iw (i:Nat){S9:List Stmt}(hΓ:Γ[i]?=some (.di []))(h:∀a,WS X S9 (Γ.set i (.ob (mv a []))) N T):WS X S9 Γ N T:=λσ H0 R0 H R E D dn dr=>by
 obtain⟨a,ea,ha,hR⟩:=E.ent i _ hΓ
 refine h a σ H0 R0 H R (E.tell hΓ ⟨⟨.ref a,ea,rfl,ha⟩,λb hb=>?_⟩ λb w=>?_) D dn dr
 ·rw[LH.mp hb];exact hR
 ·rw[show b=a from LH.mp w];exact bX.mpr ea
theorem zw (k:Str):∀ks:Li,cN (sG ks) (Sum.inr k:Key)=if k∈ks then some (.bl true) else none
 | []=>rfl
 | x::ks=>by
   by_cases e:x=k
   ·show cN ((Sum.inr x,V.bl true)::sG ks) _=_
    rw[c5 (p:=((Sum.inr x:Key),V.bl true)) (by rw[e]),if_pos (by rw[e];exact LP)]
   ·show cN ((Sum.inr x,V.bl true)::sG ks) _=_
    rw[cT (p:=((Sum.inr x:Key),V.bl true)) (λz=>e (Sum.inr.inj z)),zw k ks]
    by_cases h:k∈ks
    ·rw[if_pos h,if_pos (LN _ h)]
    ·rw[if_neg h,if_neg λz=>by rcases LV.mp z with q | q;exact e q.symm;exact h q]
theorem Co (i:Nat){ke ve:Expr}{p2:Pos}{a:Addr}{ks:Li}{k:Str}(hu:X.A.units + 1 < cLine)(hk:EV X ke Γ ah k Γ)(hv:PE X ve (tC (.bl true)))(hΓ:Γ[i]?=some (.ob (mv a ks)))(hn:k∉ks)(hz:ks.length < N7)(h:N (Γ.set i (.ob (mv a (ks++[k])))))
 (hN:X.N[i]?=some x:=by rfl) (Vy:autoParam (cG X.env.scope x) RE)
 (hd:Rh x:=by decide) (Q4:RG x:=by decide)
 (hs:Of ve (some (.Subscript (.Name x p1) ke p2)) pos.line X.env=pure false:=by rfl):W1 X (.Assign [.Subscript (.Name x p1) ke p2] ve pos) Γ N T:=λσ H0 R0 H R E D dn dr=>by
 refine sS (oA hu (bp hN Vy hd Q4) aJ hv hs) ?_
 obtain⟨⟨v,ea,rfl,ha⟩,hR⟩:=E.ent i _ hΓ
 refine⟨.ref a,at_of ea,hk σ H0 R0 H R E _ λu H1 R1 E1 s1 e1=>?_⟩
 obtain⟨⟨v,Ry,rfl,R8⟩,RF⟩:=E1.ent i _ hΓ
 cases e1
 refine⟨a,_,rfl,mP.k (k:=Sum.inr k) R8 (by rw[LJ];exact hz),?_⟩
 rw[mO (.bl true) (by rw[zw,if_neg hn])]
 have e:sG ks++[((Sum.inr k:Key),V.bl true)]=sG (ks++[k]):=by unfold sG;rw[L5];rfl
 rw[e]
 exact dn σ _ R1 _ (E1.mK (en:=.ob (mv a (ks++[k]))) hΓ (a:=a) (by show a∈[a];simp) ⟨⟨.ref a,Ry,rfl,aB⟩,RF⟩ λc w=>.inl w) s1 h
theorem z0 (i:Nat){a:Addr}{ks:Li}{k:Str}(hu:X.A.units + 1 < cLine)(he:EV X e Γ ah k Γ)(hΓ:Γ[i]?=some (.ob (mv a ks)))(hN:X.N[i]?=some x:=by rfl)(hv:autoParam (cG X.env.scope x) RE)
 (hd:Rh x:=by decide) (Q4:RG x:=by decide):TV X (.Compare e [.NotIn] [.Name x p1] pos) Γ (!decide (k∈ks)) Γ:=by
 intro σ H0 R0 H R E Q q
 refine tS (kS (lO hu aJ (bp hN hv hd Q4)) (by with_unfolding_all rfl)) (he σ H0 R0 H R E _ λv H1 R1 E1 s1 e1=>?_)
 obtain⟨⟨v,ea,rfl,ha⟩,hR⟩:=E1.ent i _ hΓ
 cases e1
 refine⟨.ref a,at_of ea,a,_,rfl,gg.k (k:=Sum.inr k) ha,_,rfl,?_⟩
 rw[zw]
 have e:(if k∈ks then some (V.bl true) else none).isSome=decide (k∈ks):=by by_cases h:k∈ks<;>simp[h]
 rw[e]
 exact q H1 R1 E1 s1
end
section
variable {prog:Ob}{w:World}{K:Type} [DecidableEq K]{knd:KeyKind prog w K}{A:Od}{E:Value->N5->Prop}{s:N5}
theorem zZ {d:Addr}{kvs:List (K×Value)}{k:K}{key dflt:Value}{Q:Value->N5->Prop}(SD:knd.is k key=true)(hm:s.heap.DictOf knd d kvs)
 (UL:∀v,Oz kvs k=some v->Q v {s with toks:=s.toks + 1})
 (hnew:Oz kvs k=none->∀h',h'.DictOf knd d (Pp kvs k dflt)->Qd d s.heap h'->Q dflt {s with heap:=h',toks:=s.toks + 1})
 (hsz:kvs.length<=N7):wpAny (model prog w) A (Pq d key dflt) Q E s:=by
 have hmap:=hm.mapOf
 obtain⟨o,es,ep,ho,hc,hd,hk,hp,hn⟩:=hm
 have hes:es.size<=N7:=by
  have e1:=hp.length
  have e2:es.toList.length=es.size:=by simp
  omega
 obtain⟨o2,es2,ep2,ho2,hc2,hd2,Ve,hf⟩:=hmap
 rw[ho] at ho2;cases ho2
 rw[hd] at hd2;cases hd2
 unfold Pq
 try with_reducible refine OO ?_
 refine N6 (knd.pyHash SD ?_)
 refine N6 (wpAny_dictFind_of (s:={s with toks:=s.toks + 1}) SD ho hd hk ?_)
 have hidx:(es.findIdx? λe=>knd.is k e.key)=kvs.findIdx? λkv=>decide (kv.1=k):=by
  rw[← hp.findIdx k];obtain⟨l⟩:=es;simp
 cases hi:es.findIdx? λe=>knd.is k e.key with
 | some i=>
   have hfk:Oz kvs k=(es[i]?).map (·.val):=by rw[← hf k,findBy_of_findIdx?,hi]
   refine N6 (wpAny_dictEntries (s:={s with toks:=s.toks + 1}) ho hd ?_)
   cases he:es[i]? with
   | none=>
     exfalso
     have:=Array.findIdx?_eq_some_iff_findIdx_eq.mp hi
     have RZ:i < es.size:=this.1
     rw[Array.getElem?_eq_getElem RZ] at he
     exact nomatch he
   | some e=>
     rw[he] at hfk
     exact N6 (O2 (Oa (UL e.val hfk)))
 | none=>
   have hfk:Oz kvs k=none:=by rw[← hf k,findBy_of_findIdx?,hi]
   have VH:k∉kvs.map (·.1):=not_mem_of_findIdx_none (hidx▸hi)
   have V5:¬(kvs.any λkv=>decide (kv.1=k))=true:=by
    rw[Nh];rintro⟨kv,hkv,he⟩
    exact VH (LY.mpr ⟨kv,hkv,of_decide_eq_true he⟩)
   refine N6 (O2 (N6 (wpAny_updateDictKeys (hz:=hes) (s:={s with toks:=s.toks + 1}) ho hd (Oa (hnew hfk _ ⟨_,_,ep + 1,Qe _ ho (Obj.isFreed_of_dict (Obj.data_mapDictKeys hd _)),
    hc.mapDictKeys _,Obj.data_mapDictKeys hd _,hk.push SD _,?_,?_⟩ (Qd.update ..))))))
   ·rw[Pp,if_neg V5]
    have:=hp.append SD (knd.hash k) dflt
    obtain⟨l⟩:=es
    simpa using this
   ·rw[Pp,if_neg V5,L5,Ng]
    refine⟨hn,by simp,?_⟩
    intro a ha b hb
    simp only[Me,Nb,LH] at hb
    subst hb
    exact λe=>VH (e▸ha)
theorem zQ {d:Addr}{kvs:List (K×Value)}{k:K}{key:Value}(SD:knd.is k key=true)(hd:(d==Ot)=false)(dflt:Value)(hsz:kvs.length<=N7):
 MeetsIn prog w (Builtin.«dict.setdefault» ⟨[.ref d,key,dflt],[]⟩) (λ_ R s=>s.heap.DictOf knd d kvs/\
  (∀v,Oz kvs k=some v->R (.ok (.ret v)) {s with toks:=s.toks + 1})/\
  (Oz kvs k=none->∀h',h'.DictOf knd d (Pp kvs k dflt)->Qd d s.heap h'->R (.ok (.ret dflt)) {s with heap:=h',toks:=s.toks + 1})):=
 .of_wp λA R s ⟨hm,h1,h2⟩=>by
  unfold Builtin.«dict.setdefault»
  refine N6 ?_
  unfold Builtin.Dict.keyAndDefault
  refine N6 (wpAny_notOrdered_dict hm.mapOf.typeIs ?_)
  show wpAny _ _ (pure (d,key,some dflt)) _ _ s
  refine Oa ?_
  show wpAny _ _ (if(d==Ot)=true then _ else(Pq d key dflt >>=_)) _ _ s
  rw[if_neg (by rw[hd];exact Lp)]
  exact N6 (zZ SD hm (λv hv=>Oa ⟨v,rfl,h1 v hv⟩) (λhn h' hm' hs'=>Oa ⟨dflt,rfl,h2 hn h' hm' hs'⟩) hsz)
end
section
variable {X:Cx}{Γ Γ1 Γ2 Γ3:Ga}{α β γ δ:Type}{N:Ga->Prop}{T:RT}{tg:Expr}
variable {x:Str}{pos:Pos}
def Hx:V->List V->Hp->VK->Prop:=λx vs H Q=>∃(a:Addr) (F:Ln) (k v:Int),x= .ref a/\vs=[.int k,.int v]/\H a=some (.dK (cf (cI F)))/\F.length < N7/\∀u,Q u (if(bB F k).isSome then H else upd H a (.dK (cf (cI (F++[(k,v)])))))
theorem Cj:uW X "dict.setdefault" Hx:=by
 intro QW s σ H x vs u us Q I rx rv h
 obtain⟨a,F,k,v,rfl,rfl,hH,hz,q⟩:=h
 cases rx
 obtain⟨u1,u2,rfl,⟨t,rfl⟩,⟨t2,rfl⟩⟩:=vals2 rv
 obtain⟨z,hd,kvs,rel,dd⟩:=vz I.Q3 hH
 have hzl:kvs.length<=N7:=by rw[← rel.length];exact z
 have SQ:=rel.val (Sum.inl k:Key)
 rw[j5] at SQ
 refine call_meetsIn PySem.F.slot_dict_setdefault dd.typeIs PySem.F.entry_dict_setdefault (PySem.F.args_dict_setdefault_3 _ _ _) (zQ (knd:=bP X.prog X.w) (kvs:=kvs) (iB (k:=Sum.inl k) (u:=.int k t) ⟨t,rfl⟩) hd (.int v t2) hzl) ⟨dd,λw' hw=>?_,λhn h' TL hs=>?_⟩
 ·cases e:bB F k with
  | none=>rw[e,hw] at SQ;cases SQ
  | some y=>
    rw[e,hw] at SQ
    have:=q (.int y)
    rw[e,if_pos (show(some y).isSome=true from rfl)] at this
    exact⟨.int y,H,I.tok _,SQ,this⟩
 ·cases e:bB F k with
  | some y=>rw[e,hn] at SQ;cases SQ
  | none=>
    have:=q (.int v)
    rw[e,if_neg (by decide)] at this
    have hput:putK (cf (cI F)) (Sum.inl k:Key) (.int v)=cf (cI (F++[(k,v)])):=by
     rw[qE];unfold kI;rw[e,if_neg (by decide)]
    have hl:(cf (cI (F++[(k,v)]))).length<=N7:=by unfold cf cI;simp;omega
    refine⟨.int v,_,l9 I (by rw[hH];exact QV) hs (let ⟨q,_,_,hq,_⟩:=TL;⟨q,hq⟩) (rj hl hd ?_ TL),⟨t2,rfl⟩,this⟩
    rw[← hput]
    exact rel.put (Sum.inl k:Key) ⟨t2,rfl⟩
theorem set_same.{u}{A:Type u}{l:List A}{i:Nat}{x:A}(h:l[i]?=some x):l.set i x=l:=by
 refine Mw λj=>?_
 by_cases e:i=j
 ·subst e;rw[LZ (LC.mp h).1,h]
 ·rw[Mf e]
theorem FO (i:Nat){e f:Expr}{p1 ap cp:Pos}{F:Ln}{k v:Int}(he:EV X e Γ af k Γ)(hf:EV X f Γ af v Γ)(hΓ:Γ[i]?=some (.di (cI F)))(hz:F.length < N7)(h:N (Γ.set i (.di (cI (if(bB F k).isSome then F else F++[(k,v)])))))
 (hN:X.N[i]?=some x:=by rfl) (hv:autoParam (cG X.env.scope x) RE)
 (hd:Rh x:=by decide) (Q4:RG x:=by decide)
 (Sb:Of (.Call (.Attribute (.Name x p1) "setdefault" ap) [e,f] [] cp) none pos.line X.env=pure false:=by rfl)
 (Ra:Oc (.Name x p1) "setdefault" X.env (eval (.Name x p1) X.env)=eval (.Name x p1) X.env:=by rfl)
 (Rt:((Oe cp (N8 [e,f] X.env)).all (λx=> !x.1)&&(OJ cp (Ow [] X.env)).all (λx=>x.1.isSome)
  &&decide ([e,f].length + ([]:List Oi).length + (if([]:List Oi).isEmpty then 0 else 1) < 30))=true:=by rfl)
 (Q9:(ap.endLine==cp.line)=true:=by rfl) (hs:N8 [e,f] X.env=(false,eval e X.env)::N8 [f] X.env:=by rfl) (RA:N8 [f] X.env=(false,eval f X.env)::N8 [] X.env:=by rfl) (Rj:(Oe cp (N8 [f] X.env)).any (·.1)=false:=by rfl):
 W1 X (.Expr (.Call (.Attribute (.Name x p1) "setdefault" ap) [e,f] [] cp) pos) Γ N T:=λσ H0 R0 H R E D dn dr=>by
 obtain⟨a,ea,ha,hR⟩:=E.ent i _ hΓ
 refine sS (fZ (gZ PySem.F.plainAttrs_dict PySem.F.slot_dict_setdefault PySem.F.type_dict_setdefault Cj (bp hN hv hd Q4) (aV aJ (aV aJ bE RA) hs) Ra Rt Q9 hs Rj) Sb) ?_
 refine⟨.ref a,at_of ea,.inr (.inr (.inl ⟨rfl,.inl ⟨_,ha⟩⟩)),he σ H0 R0 H R E _ λv1 H1 R1 E1 s1 q1=>hf σ H0 R0 H1 R1 E1 _ λv2 H2 R2 E2 s2 q2=>?_⟩
 cases q1
 cases q2
 obtain⟨a',Ry,R8,RF⟩:=E2.ent i _ hΓ
 rw[ea] at Ry;cases Ry
 refine⟨a,F,k,v,rfl,rfl,R8,hz,λu=>?_⟩
 cases q:(bB F k).isSome with
 | true=>
   rw[q,if_pos rfl] at h
   rw[if_pos rfl]
   refine dn σ H2 R2 _ E2 (s1.trans s2) ?_
   rwa [set_same hΓ] at h
 | false=>
   rw[q,if_neg (by decide)] at h
   rw[if_neg (by decide)]
   exact dn σ _ R2 _ (E2.upd (en:=.di (cI (F++[(k,v)]))) hΓ rfl ea RF ⟨a,rfl,aB,RF⟩) (s1.trans s2) h
def oh (X:Cx)(e:Expr)(Γ:Ga)(k:Int):Prop:=∀(σ:St) (H0 R0 H R:Hp),au X.K σ H0 R0 H R Γ->∀(H':Hp) (Q:VK),ar R H'->Q (.int k) H'->eQ X e σ H' Q
theorem tO (i:Nat){y:Int}(hΓ:Γ[i]?=some (.im af y))(hN:X.N[i]?=some x:=by rfl)(hv:autoParam (cG X.env.scope x) RE)
 (hd:Rh x:=by decide) (Q4:RG x:=by decide):oh X (.Name x pos) Γ y:=λσ H0 R0 H R E H' Q s q=>by
 obtain⟨v,e,h⟩:=E.ent i _ hΓ
 cases h
 exact eS (bp hN hv hd Q4) ⟨_,at_of e,q⟩
theorem Cq (i:Nat){ke ve le ue:Expr}{p1 p2:Pos}{k l v u:Int}(hk:oh X ke Γ k)(hl:oh X le Γ l)(hv:PE X ve (tC (.int v)))(hu:PE X ue (tC (.int u)))(Vd:k≠l)(h:N (Γ.set i (.di (cI [(k,v),(l,u)]))))
 (hN:X.N.Nodup:=by first | assumption | decide) (hi:X.N[i]?=some x:=by rfl) (hx:autoParam (Loc X.env.scope x) SY)
 (hs:Of (.Dict [some ke,some le] [ve,ue] p2) (some (.Name x p1)) pos.line X.env=pure false:=by rfl) (hf:autoParam (X.fn x=true∨X.env.scope.names.lookup x=some .local) SX):
 W1 X (.Assign [.Name x p1] (.Dict [some ke,some le] [ve,ue] p2) pos) Γ N T:=λσ H0 R0 H R E D dn dr=>by
 refine sS (jI hN hi hx (BW (sq aJ hv (sq aJ hu BP)) rfl rfl (by simp) (by simp)) hs hf) λp hp=>?_
 have sR:ar R (upd H p (.dK [])):=E.sub.trans (ar.fresh hp _)
 refine hk σ H0 R0 H R E _ _ sR ?_
 refine hl σ H0 R0 H R E _ _ sR ?_
 refine⟨aB,[(Sum.inl k,.int v),(Sum.inl l,.int u)],rfl,(by show 2<=15;decide),?_⟩
 have E1:=E.grow (Ext.dP E.sub hp (.dK (cf (cI [(k,v),(l,u)]))))
 have e:upd (upd H p (.dK [])) p (.dK (j6 [] [(Sum.inl k,.int v),(Sum.inl l,.int u)]))=upd H p (.dK (cf (cI [(k,v),(l,u)]))):=by
  rw[B3]
  congr 2
  show putK [((Sum.inl k:Key),V.int v)] (Sum.inl l) (.int u)=_
  rw[mO (.int u) (by
   rw[cT (p:=((Sum.inl k:Key),V.int v)) (λz=>Vd (Sum.inl.inj z))];rfl)]
  rfl
 rw[e]
 exact dn _ _ R _ (E1.vV (u:=.dK (cf (cI [(k,v),(l,u)]))) (en:=.di (cI [(k,v),(l,u)])) i ⟨p,rfl,aB,E.sub.free hp⟩ (E.ext.h.free hp) λj e _ q w=>E.off hp j e q w) (ar.refl _) h
theorem De {iter:Expr}{xs:List PV}(hz:xs.length<=N7)(h:EV X iter Γ ax (.tup xs) Γ1):IV X tg iter Γ ax xs Γ1:=by
 refine⟨_,D8 aJ,λσ H0 R0 H R E Rq q=>h σ H0 R0 H R E _ λv H1 R1 E1 s1 e1=>?_⟩
 cases e1 with
 | @tup a vs _ hp pp=>
   have Va:∀H' R':Hp,ar R1 R'->ar R' H'->de X.K H' a vs:=λH' R' sR sH=>de.of (sH _ _ (sR _ _ hp))
   refine⟨a,rfl,⟨_,Va H1 R1 (ar.refl _) E1.sub⟩,q _ H1 R1 E1 s1 hz λH' R' sR sH i=>⟨λx hx=>?_,λhi=>⟨_,Va H' R' sR sH,by rw[pp.pair.length];exact hi⟩⟩⟩
   obtain⟨v,hv,hr⟩:=cX pp.pair hx
   refine⟨⟨_,_,Va H' R' sR sH,hv⟩,λv2 H2 hy=>?_⟩
   obtain⟨rfl,hy⟩:=hy
   have:=hy _ (Va _ R' sR sH)
   rw[hv] at this
   cases this
   exact⟨R',Ext.refl sH,hr.mono sR⟩
end
section
variable {X:Cx}{Γ Γ1 Γ2 Γ3:Ga}{α β γ δ:Type}{N:Ga->Prop}{T:RT}
theorem zh (i:Nat){x:Str}{p p1 pos:Pos}{F:Ln}(hm:X.mg "len"=none)(hΓ:Γ[i]?=some (.di (cI F)))(hN:X.N[i]?=some x:=by rfl)(hv:autoParam (cG X.env.scope x) RE)
 (hd:Rh x:=by decide) (Q4:RG x:=by decide) (hs:N8 [.Name x p1] X.env=[(false,eval (.Name x p1) X.env)]:=by rfl) (hg:Gl X "len":=by rfl):EV X (.Call (.Name "len" p) [.Name x p1] [] pos) Γ af (F.length:Int) Γ:=by
 intro σ H0 R0 H R E Q q
 obtain⟨a,ea,ha,hR⟩:=E.ent i _ hΓ
 refine eS (dA pD hg hm OG (aV (bp hN hv hd Q4) bE hs) (by decide) (by decide) hs) ⟨.ref a,at_of ea,a,_,rfl,ha,?_⟩
 unfold cf cI
 rw[LJ,LJ]
 exact q _ H R E (ar.refl _) rfl
end
section
variable {X:Cx}{Γ Γ1 Γ2 Γ3:Ga}{α β γ δ:Type}{N:Ga->Prop}{T:RT}
theorem qB {a:Expr}{p pos:Pos}{F:Ln}(hm:X.mg "len"=none)(ha:EV X a Γ g9 F Γ1)(hs:N8 [a] X.env=[(false,eval a X.env)]:=by rfl)(hg:Gl X "len":=by rfl):EV X (.Call (.Name "len" p) [a] [] pos) Γ af (F.length:Int) Γ1:=
 EV.cast (BL (kvs:=cI F) hm (EV.rep ha λ_ _ q=>q) hs hg) (by unfold cI;rw[LJ])
end
section
variable {X:Cx}{Γ Γ1 Γ2 Γ3:Ga}{α β γ δ:Type}{N:Ga->Prop}{T:RT}
theorem EH (i1 i2:Nat){x1 x2:Str}{k:Nat}{p1 p2 tp pos:Pos}{e:Expr}{r:Rep α}{r':Rep β}{y1:α}{y2:β}(he:EV X e Γ (dB r r') (y1,y2) Γ1)(h:N ((Γ1.set i1 (.im r y1)).set i2 (.im r' y2)))
 (hc:X.calm=true:=by rfl) (hN:X.N.Nodup:=by first | assumption | decide)
 (h1:X.N[i1]?=some x1:=by rfl) (l1:autoParam (Loc X.env.scope x1) SY) (f1:autoParam (X.fn x1=true∨X.env.scope.names.lookup x1=some .local) SX)
 (h2:X.N[i2]?=some x2:=by rfl) (l2:autoParam (Loc X.env.scope x2) SY) (f2:autoParam (X.fn x2=true∨X.env.scope.names.lookup x2=some .local) SX)
 (hs:O7 [.Tuple [.Name x1 p1,.Name x2 p2] k tp] e pos.line X.env=pure false:=by rfl) (hw:O8 [.Tuple [.Name x1 p1,.Name x2 p2] k tp] e X.env=pure none:=by rfl) (ho:(OK [.Tuple [.Name x1 p1,.Name x2 p2] k tp] X.env).map (·.2)=[OL (.Tuple [.Name x1 p1,.Name x2 p2] k tp) X.env]:=by rfl):W1 X (.Assign [.Tuple [.Name x1 p1,.Name x2 p2] k tp] e pos) Γ N T:=λσ H0 R0 H R E D dn dr=>by
 refine sS (tH aJ (w8 hc (j8 (jU hN h1 l1 f1) (j8 (jU hN h2 l2 f2) uH))) hs hw ho) (he σ H0 R0 H R E _ λv H1 R1 E1 s1 q1=>?_)
 obtain⟨a,v1,v2,rfl,ha,g1,g2⟩:=q1
 exact⟨a,_,rfl,de.of (E1.sub _ _ ha),rfl,_,_,rfl,_,_,rfl,rfl,dn _ H1 R1 _ ((E1.set i1 (r:=r) g1).set i2 (r:=r') g2) s1 h⟩
end
def FlE:Ent->Prop
 | .no=>True
 | .im _ _=>True
 | _=>False
def rL:Ga->Prop
 | []=>True
 | e::r=>FlE e/\rL r
theorem rL.fp:∀{Γ:Ga},rL Γ->∀(i:Nat) (e:Ent),Γ[i]?=some e->∀o,e.fp o=[]
 | e::_,⟨h,_⟩,0,_,q,o=>by
   cases q
   cases e with
   | no=>rfl
   | im _ _=>rfl
   | mu _ _=>exact h.elim
   | di _=>exact h.elim
   | ob _=>exact h.elim
 | _::r,⟨_,h⟩,i + 1,e,q,o=>rL.fp h i e (by simpa using q) o
 | [],_,i,e,q,o=>by simp at q
theorem au.Bx {K:QA}{σ:St}{H0 R0 H R:Hp}{Γ:Ga}(E:au K σ H0 R0 H R Γ)(fl:rL Γ):au K σ H R H R Γ:=
 ⟨⟨ar.refl _,ar.refl _,E.sub,λ_ _=>rfl⟩,E.ent,(λi e a q w=>by rw[fl.fp i e q] at w;cases w),(λi j e e' a q q' w w'=>by rw[fl.fp i e q] at w;cases w),E.len⟩
section
variable {X:Cx}{Γ Γ1 Γ2 Γ3:Ga}{α β γ δ:Type}{N:Ga->Prop}{T:RT}
def Ft (X:Cx)(e:Expr)(Γ:Ga){α:Type}(r:Rep α)(P:List α->Prop)(Γ':Ga):Prop:=
 ∀(σ:St) (H0 R0 H R:Hp),au X.K σ H0 R0 H R Γ->∀Q:VK,(∀a vs ys H' R',au X.K σ H0 R0 H' R' Γ'->ar R R'->H' a=some (.lst vs)->R' a=none->H0 a=none->Off a σ Γ'->PySem.Paired (r.R X.K R') vs ys->ys.length<=N7->P ys->Q (.ref a) H')->eQ X e σ H Q
theorem aW.evr {e:Expr}{r:Rep α}{ys:List α}{P:List α->Prop}(h:aW X e Γ r ys Γ1)(hp:P ys):Ft X e Γ r P Γ1:=λσ H0 R0 H R E Q q=>h σ H0 R0 H R E Q λa vs H' R' E' s' h1 h2 h3 h4 h5 h6=>q a vs ys H' R' E' s' h1 h2 h3 h4 h5 h6 hp
theorem vH {tg elt:Expr}{scope:Scope}{cl:List (Str×Addr)}{own fr:Li}{ix:List Nat}{ra:Rep α}{rb:Rep β}{xs:List α}{P:α->List β->Prop}{bf:α->Ga->Ga}{J:It}{σ:St}{H0 R0 H1 R1:Hp}{Q:VK}(E1:au X.K σ H0 R0 H1 R1 Γ1)(src:Src X.K J R1 ra xs)(hz:xs.length<=N7)
 (hb:∀(C:Addr) (s:N5) (H:Hp) (ex:Lk),BG (bc X scope cl C (own++fr) s H ex) tg ra bf) (hw:∀x,Wk (bf x (dc own ix Γ1)) (dc own ix Γ1)) (hfl:∀x,rL (bf x (dc own ix Γ1)))
 (he:∀(C:Addr) (s:N5) (H:Hp) (ex:Lk) x,x∈xs->Ft (bc X scope cl C (own++fr) s H ex) elt (bf x (dc own ix Γ1)) rb (P x) (bf x (dc own ix Γ1)))
 (q:∀a bs RH H' R',Ext H1 R1 H' R'->H' a=none->fw X.K rb H' R' bs RH->bs.Nodup->(∀b∈bs,H1 b=none/\R' b=none)->PySem.Paired P xs RH->(∀ys∈RH,ys.length<=N7)->Q (.ref a) (upd H' a (.lst (bs.map .ref)))):
 ∃W:Nat->Nat->List V->St->Hp->Prop,(∃m,W 0 m [] (fO own ix σ) H1)/\∀i m ys σ' H',W i m ys σ' H'->
  ys.length<=N7/\((J.stop i H'/\∀p,H' p=none->Q (.ref p) (upd H' p (.lst ys)))∨
  (J.go i H'/\∀x H2,J.U5 i H' x H2->(λv σ H Q=>∀C s Hh ex,lj (bc X scope cl C (own++fr) s Hh ex) tg v σ H Q:TG) x σ' H2 λσ2 H3=>(λσ H Q=>∀C s Hh ex,mF (bc X scope cl C (own++fr) s Hh ex) [] σ H Q:TT) σ2 H3 λb H4=>
    if b=true then(λσ H Q=>∀C s Hh ex,eQ (bc X scope cl C (own++fr) s Hh ex) elt σ H Q:TE) σ2 H4 λv H5=>∃m',m' < m/\W (i + 1) m' (ys++[v]) σ2 H5 else∃m',m' < m/\W (i + 1) m' ys σ2 H4)):=by
 refine⟨λi m ys σ' H'=>m=xs.length - i/\i<=xs.length/\∃R' bs RH,au X.K σ' H1 R1 H' R' (dc own ix Γ1)/\ys=bs.map .ref/\fw X.K rb H' R' bs RH/\bs.Nodup/\(∀b∈bs,H1 b=none/\R' b=none)/\PySem.Paired P (xs.take i) RH/\∀ys∈RH,ys.length<=N7,⟨_,rfl,Np _,R1,[],[],qV E1 own ix,rfl,⟨rfl,λi b r h1=>by simp at h1⟩,M7,(λb hb=>by cases hb),(.nil:PySem.Paired P [] []),(λys hy=>by cases hy)⟩,?_⟩
 rintro i m ys σ' H' ⟨rfl,hle,R',bs,RH,E',rfl,hrs,UU,UY,pq,hsz⟩
 have hbl:bs.length=i:=by rw[hrs.1,← pq.length,L0];omega
 have hys:(bs.map V.ref).length<=N7:=by rw[LJ,hbl];omega
 obtain⟨Vk,Sv⟩:=src H' R' E'.ext.r E'.sub i
 refine⟨hys,?_⟩
 by_cases RZ:i < xs.length
 ·obtain⟨go,yl⟩:=Vk _ (LD RZ)
  have SS:xs[i]∈xs:=Mb RZ
  have tk:(xs.take (i + 1))=xs.take i++[xs[i]]:=by rw[Mm,LD RZ];rfl
  refine .inr ⟨go,λv H2 hy C s Hh ex=>?_⟩
  obtain⟨R2,x2,hr⟩:=yl v H2 hy
  refine hb C s Hh ex σ' H1 R1 H2 R2 _ v _ (E'.grow x2) hr _ λσ2 E2=>?_
  intro C s Hh ex
  refine(dg (X:=bc X scope cl C (own++fr) s Hh ex)) σ2 H2 R2 H2 R2 (E2.Bx (hfl _)) _ λH4 R4 E4 s4=>?_
  rw[if_pos rfl]
  intro C s Hh ex
  refine he C s Hh ex _ SS σ2 H4 R4 H4 R4 (E4.Bx (hfl _)) _ λa vs zs H5 R5 E5 s5 ha hR h0 off pp Ta hP=>?_
  have x5:Ext H' R' H5 R5:=x2.trans (E4.ext.trans E5.ext)
  have x25:Ext H2 R2 H5 R5:=E4.ext.trans E5.ext
  have Sj:∀b∈bs,H' b≠none:=λb hb=>by
   obtain⟨r,hr⟩:=hrs.one hb
   rw[hr];exact NR _
  have hold:∀b∈bs,b≠a:=λb hb e=>by
   have:H4 b≠none:=ar.some (x2.h.trans E4.ext.h) (Sj b hb)
   exact this (e▸h0)
  refine⟨xs.length - (i + 1),by omega,rfl,RZ,R5,bs++[a],RH++[zs],(E2.grow x25).weak (hw _),by rw[L5];rfl,?_,?_,λb hb=>?_,?_,λys hy=>?_⟩
  ·refine fw.snoc (fw.loc hrs (λc hc=>?_) x5.r) ha pp
   cases e:H' c with
   | none=>exact absurd e (Sj c hc)
   | some u=>exact x5.h c u e
  ·exact fY UU λz=>hold a z rfl
  ·rcases LW.mp hb with z | z
   ·exact⟨(UY b z).1,(x5.old b (Sj b z)).trans (UY b z).2⟩
   ·rw[LH.mp z]
    exact⟨(E'.ext.h.trans (x2.h.trans E4.ext.h)).free h0,hR⟩
  ·rw[tk]
   exact cY pq (.cons hP .nil)
  ·rcases LW.mp hy with z | z
   ·exact hsz ys z
   ·rw[LH.mp z];exact Ta
 ·have e:i=xs.length:=by omega
  subst e
  rw[Mn] at pq
  exact .inl ⟨Sv (Nm _),λa ha=>q a bs RH H' R' E'.ext ha hrs UU UY pq hsz⟩
theorem B2 (i:Nat){y:Str}{py Sw:Pos}{tg elt iter:Expr}{scope:Scope}{pos:Pos}{cl:List (Str×Addr)}{own fr:Li}{ix:List Nat}{ra:Rep α}{rb:Rep β}{xs:List α}{P:α->List β->Prop}{bf:α->Ga->Ga}
 (S:d8 X scope cl own fr ix) (hit:IV X tg iter Γ ra xs Γ1)
 (hb:∀(C:Addr) (s:N5) (H:Hp) (ex:Lk),BG (bc X scope cl C (own++fr) s H ex) tg ra bf) (hw:∀x,Wk (bf x (dc own ix Γ1)) (dc own ix Γ1)) (hfl:∀x,rL (bf x (dc own ix Γ1)))
 (he:∀(C:Addr) (s:N5) (H:Hp) (ex:Lk) x,x∈xs->Ft (bc X scope cl C (own++fr) s H ex) elt (bf x (dc own ix Γ1)) rb (P x) (bf x (dc own ix Γ1)))
 (h:∀a bs RH,PySem.Paired P xs RH->(∀ys∈RH,ys.length<=N7)->N (Γ1.set i (.ob (dk rb a bs RH))))
 (Sb:Of (.ListComp elt [⟨tg,iter,[],0⟩] scope pos) (some (.Name y py)) Sw.line X.env=pure true:=by rfl)
 (hN:X.N.Nodup:=by first | assumption | decide) (VU:X.N[i]?=some y:=by rfl) (hx:autoParam (Loc X.env.scope y) SY)
 (hc:X.calm=true:=by rfl) (hs:∀x,Ov iter X.env x=pure x:=by intro _;rfl) (hf:autoParam (X.fn y=true∨X.env.scope.names.lookup y=some .local) SX):
 W1 X (.Assign [.Name y py] (.ListComp elt [⟨tg,iter,[],0⟩] scope pos) Sw) Γ N T:=λσ H0 R0 H R E D dn dr=>by
 obtain⟨wi,hi,hit⟩:=hit
 refine sS (n6 (i:=i) (g:=λv σ H Q=>∀C s Hh ex,lj (bc X scope cl C (own++fr) s Hh ex) tg v σ H Q) (tc:=λσ H Q=>∀C s Hh ex,mF (bc X scope cl C (own++fr) s Hh ex) [] σ H Q) (te:=λσ H Q=>∀C s Hh ex,eQ (bc X scope cl C (own++fr) s Hh ex) elt σ H Q) Sb hN VU hx hc S hi
  (λC s H ex=>⟨λQW s1 σ H v u Q I r h=>h C s _ ex QW s1 u I r,λQW s1 σ H Q I h=>h C s _ ex QW s1 I,λQW s1 σ H Q I h=>h C s _ ex QW s1 I⟩) hs hf) ?_
 refine hit σ H0 R0 H R E _ λJ H1 R1 E1 s1 hz src=>vH (Q:=λv H'=>D.nx (σ.set i (some v)) H') E1 src hz hb hw hfl he λa bs RH H' R' xx ha hg UU UY pq hsz=>?_
 have E2:=E1.grow xx
 have E3:=E2.grow (Ext.dP E2.sub ha (.lst (bs.map .ref)))
 have inb:∀c∈bs,H' c≠none:=λc hc=>by
  obtain⟨r,hr⟩:=hg.one hc
  rw[hr];exact NR _
 have nab:a∉bs:=λz=>inb a z ha
 refine dn _ _ R' _ (E3.setG (en:=.ob (dk rb a bs RH)) i ⟨⟨.ref a,rfl,rfl,aB,hg.loc (λc hc=>aF λz=>nab (z▸hc)) (ar.refl _),Mg.mpr ⟨nab,UU⟩⟩,λb hb=>?_⟩ (λb hb=>?_) λb hb j e _ qj w=>?_) (s1.trans xx.r) (h a bs RH pq hsz)
 ·rcases LV.mp hb with rfl | hb
  ·exact E2.sub.free ha
  ·exact(UY b hb).2
 ·rcases LV.mp hb with rfl | hb
  ·exact E2.ext.h.free ha
  ·exact E1.ext.h.free (UY b hb).1
 ·rcases LV.mp hb with rfl | hb
  ·exact E2.off ha j e qj w
  ·exact(Ent.gq (E1.ent j e qj) w).1 (UY b hb).1
end
section
variable {P:Ob}{w:World}{K:QA}{mg:Lf}{base:Heap}{α:Type}
theorem B5 {r:Rep α}{S:jO α}{x qual:Str}{st:Stmt}{f:Addr}{fd:Og}{N ps:Li}{k:Nat}(F:bD K x qual st f fd)(Sc:aH N ps (ai st))(hm:mg x=some (.ref f))(hb:Binds K fd ps [])(len:∀xs qs T,S K xs qs T->qs.length + 1=ps.length)
 (Ro:∀(Q2:Value) (A:Od) (outer:List Env) (s:N5) (H:Hp) (E:XK) (a:Addr) (xs:List α) (qs:List Pk) (T:List α->RT),bI k (A.deeper (NY qual (ai st) s.heap.objs.size f Q2))->S K xs qs T->
  WS (fA ee P w K mg base N qual (ai st) f Q2 A outer s H E).js (bS st) (.ob (bM a r xs)::eY qs (N.length - 1)) (λΓ=>∃xs',Γ[0]?=some (.ob (bM a r xs'))/\∀H0 H' R',T xs' H0 .Rf H' R') (wY K a r T)):aI P w K mg base x (k + 1) (eE r S K):=by
 refine⟨f,fd,ps,?_,hm,F.kp,hb⟩
 refine F.ok Sc (λvs H Q E h=>?_) (λQ2 A outer s H vs Q E hr h=>?_)
 ·obtain⟨R,a,ws,xs,Ru,qs,T,rfl,_,_,_,_,p,hS,_⟩:=h
  rw[LR,p.length];exact len xs qs T hS
 ·obtain⟨R,a,ws,xs,Ru,qs,T,rfl,sR,hR,ha,pp,p,hS,q⟩:=h
  have hl:qs.length + 1<=N.length:=by
   rw[len xs qs T hS]
   have:=congrArg List.length Sc.pre
   rw[L0] at this
   omega
  refine⟨_,jd,Ro Q2 A outer s H E a xs qs T hr hS (L2.start N (.ref a::Ru)) (del H a) R H R (nU sR hR ha pp p hl) {nx:=λ_ H'=>Q .Rf H',rt:=Q} (λσ' H' R' Γ' E' _ ⟨xs',hΓ,t⟩=>?_) λv H' R' xx t=>?_⟩
  ·obtain⟨ea,⟨SJ,R8,RP⟩,RF⟩:=fq (E'.ent 0 _ hΓ)
   exact q .Rf H' R' SJ xs' E'.ext R8 RF RP (t _ _ _)
  ·obtain⟨SJ,xs',h1,h2,h3,h4⟩:=t
   exact q v H' R' SJ xs' xx h1 h2 h3 h4
end
section
variable {X:Cx}{Γ Γ1 Γ2 Γ3:Ga}{α β γ δ:Type}{N:Ga->Prop}{T:RT}
def Aj (k:Str):Value->Bool
 | .str x _=>decide (x=k)
 | _=>false
def CY:V->List V->Hp->VK->Prop:=λx vs H Q=>∃(l:Addr) (ns:Li) (k:Str) (j:Nat),x= .ref l/\vs=[.str k]/\H l=some (.lst (ns.map V.str))/\ns[j]?=some k/\(∀m,m < j->ns[m]?≠some k)/\Q (.int (j:Nat)) H
theorem wV:uW X "list.index" CY:=by
 intro QW s σ H x vs v us Q I rx rv h
 obtain⟨l,ns,k,j,rfl,rfl,hH,hj,Tr,q⟩:=h
 cases rx
 obtain⟨u,rfl,t,rfl⟩:=rv.one
 obtain⟨hz,QX,m,r1,hl,ho⟩:=I.ka hH
 have jl:j < ns.length:=(LC.mp hj).1
 have T3:QX.length=ns.length:=by rw[← hl,LJ]
 have at_:∀(n:Nat) (h1:n < QX.length) (h2:n < ns.length),∃t',QX[n]= .str ns[n] t':=λn h1 h2=>by
  obtain⟨u,e1,t',e2⟩:=r1.get (show(ns.map V.str)[n]?=some (.str ns[n]) by rw[LM,LD h2];rfl)
  rw[LD h1] at e1
  exact⟨t',(Option.some.inj e1).trans e2⟩
 refine ON PySem.F.slot_list_index ⟨_,ho,rfl⟩ PySem.F.entry_list_index (PySem.F.args_list_index_2 _ _)
  (SeqAt.list_indexAt l QX.toArray m _ _ (.str k t) (Aj k) j (by simpa[T3] using jl) ?_ ?_ ?_) ⟨ho,λw hw=>?_,?_⟩
 ·have:N7 < 2 ^ 63 - 1:=by decide
  rw[LJ] at hz
  omega
 ·obtain⟨t',e⟩:=at_ j (by omega) jl
  show Aj k QX[j]=true
  rw[e]
  rw[LD jl] at hj
  exact decide_eq_true (Option.some.inj hj)
 ·intro n hn VJ
  obtain⟨t',e⟩:=at_ n (by simpa using hn) (by omega)
  show Aj k QX[n]=false
  rw[e]
  refine decide_eq_false λz=>Tr n VJ ?_
  rw[LD (by omega),z]
 ·have hw:w∈QX:=by simpa using hw
  obtain⟨n,hn,rfl⟩:=MV.mp hw
  obtain⟨t',e⟩:=at_ n hn (by omega)
  rw[e]
  intro prog w E Q hq
  exact wpAny_eqBool_str hq
 ·exact⟨.int _,H,I.tok _,⟨_,rfl⟩,q⟩
theorem yy {a e:Expr}{ap cp:Pos}{ns:Li}{k:Str}{j:Nat}(ha:EV X a Γ (ae ah) ns Γ1)(he:EV X e Γ1 ah k Γ2)(hj:ns[j]?=some k)(Tr:∀m,m < j->ns[m]?≠some k)
 (Ra:Oc a "index" X.env (eval a X.env)=eval a X.env:=by rfl)
 (Rt:((Oe cp (N8 [e] X.env)).all (λx=> !x.1)&&(OJ cp (Ow [] X.env)).all (λx=>x.1.isSome)
  &&decide ([e].length + ([]:List Oi).length + (if([]:List Oi).isEmpty then 0 else 1) < 30))=true:=by rfl)
 (Q9:(ap.endLine==cp.line)=true:=by rfl) (hs:N8 [e] X.env=(false,eval e X.env)::N8 [] X.env:=by rfl):EV X (.Call (.Attribute a "index" ap) [e] [] cp) Γ af (j:Nat) Γ2:=λσ H0 R0 H R E Q q=>by
 refine eS (gZ PZ PySem.F.slot_list_index PySem.F.type_list_index wV aJ (aV aJ bE hs) Ra Rt Q9 hs rfl) (ha σ H0 R0 H R E _ λv H1 R1 E1 s1 e1=>?_)
 obtain⟨b,vs,rfl,hb,pp,hz⟩:=e1
 have ev:=jN pp
 subst ev
 refine⟨.inl ⟨rfl,_,aT.of (E1.sub _ _ hb)⟩,he σ H0 R0 H1 R1 E1 _ λu H2 R2 E2 s2 e2=>?_⟩
 cases e2
 exact⟨b,ns,k,j,rfl,rfl,E2.sub _ _ (s2 _ _ hb),hj,Tr,q _ _ _ E2 (s1.trans s2) rfl⟩
theorem ints4 {R:Hp}{vs:List V}{a b c d:Int}(h:dE R vs [.int a,.int b,.int c,.int d]):vs=[.int a,.int b,.int c,.int d]:=by
 cases h with
 | cons h1 t=>cases t with
   | cons h2 t=>cases t with
     | cons h3 t=>cases t with
       | cons h4 t=>cases t;cases h1;cases h2;cases h3;cases h4;rfl
theorem B8 {es:Lm}{k:Nat}{pos:Pos}{r:Row}(h:EA X es Γ ax [.int r.1,.int r.2.1,.int r.2.2.1,.int r.2.2.2] Γ1):EV X (.Tuple es k pos) Γ eo r Γ1:=
 EV.re (gT h (by show 4<=N7;decide)) λK R v e=>by
   cases e with
   | tup hp pp=>rw[ints4 pp] at hp;exact⟨_,rfl,hp⟩
end
def oB (t:Int×Int):PV:=.tup [.int t.1,.int t.2]
theorem uD {K:QA}{R:Hp}:∀{vs:List V} {xs:Ln},PySem.Paired ((dB af af).R K R) vs xs->dE R vs (xs.map oB)
 | _,_,.nil=>.nil
 | _,_,.cons h t=>by
   obtain⟨a,v1,v2,rfl,ha,g1,g2⟩:=h
   cases g1;cases g2
   exact .cons (.tup ha (.cons (.int _) (.cons (.int _) .nil))) (uD t)
section
variable {X:Cx}{Γ Γ1:Ga}
theorem EV.Ha {e:Expr}{xs:Ln}(h:EV X e Γ (ae (dB af af)) xs Γ1):EV X e Γ ax (.lst (xs.map oB)) Γ1:=h.re λK R v ⟨a,vs,e,q,p,z⟩=>by subst e;exact .lst q (uD p) (by rw[LJ];exact z)
end
end Fc
namespace K1
open PySem L2 Fc
open PySem.Spec hiding Row
open PyProof.Rows hiding St
open PySem.Builtin.Int (intBits)
variable {P:Ob}{w:World}{K:QA}{mg:Lf}{base:Heap}{f:Addr}{fd:Og}
abbrev Js (v:Lh×List Fc.Row):Ent:=.im (dB (ae af) (ae eo)) v
abbrev ao (x:Int):Ent:=.im af x
abbrev bQ (x:Lh):Ent:=.im (ae af) x
theorem kZ {x y:Int}(h0:0<=x)(h1:x < 4294967296):Pt x y:=.of_left (O9 (by omega) (by omega))
theorem rS {n:Nat}{i:Int}(h0:0<=i)(h1:i < n):eD n i=some i.toNat:=by unfold eD;rw[if_pos h0,if_pos h1]
abbrev gC:Rep (Int×Int):=dB af af
theorem aD {n:Nat}(h:n<=1000000):n<=N7:=Nn h (by decide)
theorem aQ {α:Type}{xs:List α}{i:Int}(d:α)(h0:0<=i)(h1:i < xs.length):bV xs i=some (xs.getD i.toNat d):=by
 rw[nM h0 h1,LD (by omega),LG,LD (by omega)];rfl
theorem mZ {α:Type}{xs:List α}{y:α}(h:xs[xs.length - 1]?=some y):bV xs (-1)=some y:=by
 have hl:0 < xs.length:=by
  have:=(LC.mp h).1
  omega
 unfold bV eD
 rw[if_neg (by omega),if_pos (by omega)]
 show xs[((-1:Int) + (xs.length:Int)).toNat]?=_
 rw[show((-1:Int) + (xs.length:Int)).toNat=xs.length - 1 by omega];exact h
end K1
namespace K1
open PySem
variable {P:Ob}{w:World}{K:QA}{mg:Lf}{base:Heap}{f:Addr}{fd:Og}
abbrev top (i:Nat):Stmt:=PySem.Challenge.pw_fewcounters_k72_whole_walks_go_on.main.body.getD i (.Pass ⟨0,0,0,0⟩)
abbrev tQ:Nat:=12
abbrev qI:Nat:=13
abbrev nE:Nat:=14
abbrev tV:Nat:=15
abbrev IM:Nat:=16
abbrev BH:Nat:=25
abbrev zk:Nat:=26
abbrev Dg:Nat:=27
abbrev tF:Nat:=28
abbrev oR:Nat:=29
abbrev wm:Nat:=30
abbrev mM:Nat:=31
abbrev tT:Nat:=32
abbrev tP:Nat:=33
abbrev qc:Nat:=34
abbrev yD:Nat:=35
abbrev sE:Nat:=36
abbrev wc:Nat:=37
abbrev we:Nat:=38
abbrev sJ:Nat:=39
abbrev nr:Nat:=42
abbrev p7:Nat:=43
abbrev pY:Nat:=44
abbrev oJ:Nat:=45
abbrev mV:Nat:=46
abbrev vw:Nat:=47
abbrev o8:Nat:=48
abbrev pX:Nat:=49
abbrev mj:Nat:=50
abbrev oC:Nat:=51
abbrev mQ:Nat:=52
abbrev nA:Nat:=53
abbrev yV:Nat:=55
abbrev xT:Nat:=61
abbrev nP:Nat:=62
abbrev p6:Nat:=64
abbrev tL:Nat:=65
abbrev sN:Nat:=66
abbrev oH:Nat:=67
abbrev qd:Nat:=68
abbrev rF:Nat:=69
abbrev pZ:Nat:=70
abbrev p9:Nat:=71
abbrev tJ:Nat:=72
abbrev nS:Nat:=73
abbrev nL:Nat:=74
abbrev D1:Nat:=75
end K1
namespace K1
open PySem L2 Fc
open PySem.Spec hiding Row
open PyProof.Rows hiding St
open PySem.Builtin.Int (intBits)
variable {P:Ob}{w:World}{K:QA}{mg:Lf}{base:Heap}{f:Addr}{fd:Og}
structure bY (K:QA) (mg:Lf):Prop where
 len:mg "len"=none
 min:mg "min"=none
 range:mg "range"=none
 int:mg "int"=none
 list:mg "list"=none
 zip:mg "zip"=none
 enumerate:mg "enumerate"=none
 reversed:mg "reversed"=none
 any:mg "any"=none
 all:mg "all"=none
def qm (c:Int):Nat->Int
 | 0=>c
 | n + 1=>qm c n / 2147483587
def fC (d k:Int):Int:=d % 10 ^ 18 + 48271 * (k + 1)
def lG (u k:Int):Int:=u * u % 2147483629 + 69621 * k
def qH (d k:Int):Int:=lG (fC d k) k * lG (fC d k) k % 2147483587
def qR (ns:Lh)(k:Int):Int:=qm (ns.getD (k / 8 % 63).toNat 0 / 10 ^ 18) (k % 8).toNat
def qh (ns:Lh)(k:Int):Bool:=decide (k / 8 % 63 < (ns.length:Int))&&decide (10 ^ 18<=ns.getD (k / 8 % 63).toNat 0)
def QZ (ns:Lh)(k:Int):Int:=
 if qh ns k=true/\0 < qR ns k then qR ns k % 2147483587
 else qH (if 0 < ns.length then ns.getD (k % (ns.length:Int)).toNat 0 else 0) k
theorem iJ (ns:Lh)(k:Int):0<=QZ ns k/\QZ ns k < 2147483587:=by
 unfold QZ
 split
 ·exact⟨Lz _ (by decide),Ly _ (by decide)⟩
 ·unfold qH
  exact⟨Lz _ (by decide),Ly _ (by decide)⟩
section
abbrev vd:Stmt:=top p6
abbrev J7:Li:=["_law_script","_law_k","_law_at","_law_cell","_law_j","_law_number"]
theorem E6:aH J7 ["_law_script","_law_k"] (ai vd):=Rp
structure ur (ns:Lh):Prop where
 l:ns.length<=63
 b:∀n∈ns,intBits n<=2 ^ 20
def Bq:cQ:=λK ps T=>∃(ns:Lh) (k:Int),ps=[⟨bu,ns⟩,⟨af,k⟩]/\ur ns/\0<=k/\k<=1000000/\T=cg K af (· =QZ ns k)
theorem IE (M:bY K mg)(F:bD K "_law_mixed" "_law_mixed" vd f fd)(hm:mg "_law_mixed"=some (.ref f))(hb:Binds K fd ["_law_script","_law_k"] []):aI P w K mg base "_law_mixed" 1 (aK Bq K):=by
 have nd:=E6.nd
 refine bw F E6 hm hb (λqs T ⟨_,_,e,_⟩=>by rw[e];rfl) (λQ2 A outer s H E qs T hr hS=>?_)
 obtain⟨ns,k,rfl,hs,k0,k1,rfl⟩:=hS
 have h63:=hs.l
 change WS _ _ [.im bu ns,ao k,.no,.no,.no,.no] _ _
 have a0:=Lz (k / 8) (show(63:Int)≠0 by decide)
 refine aj (aU 2 (bN (j7 (aa 1 rfl) ev_int ⟨by decide,by decide⟩) ev_int (by decide)) ?_)
 change WS _ _ [.im bu ns,ao k,ao (k / 8 % 63),.no,.no,.no] _ _
 have rest:∀e3 e4:Ent,¬(qh ns k=true/\0 < qR ns k)->WS (fA ee P w K mg base J7 "_law_mixed" (ai vd) f Q2 A outer s H E).js ((bS vd).drop 2) [.im bu ns,ao k,ao (k / 8 % 63),e3,e4,.no] (λ_=>False) (cg K af (· =QZ ns k)):=by
  intro e3 e4 hn
  refine aj (aU 3 ev_int ?_)
  change WS _ _ [.im bu ns,ao k,ao (k / 8 % 63),ao 0,e4,.no] _ _
  refine bL (N1:=λΓ=>Γ=[.im bu ns,ao k,ao (k / 8 % 63),ao (if 0 < ns.length then ns.getD (k % (ns.length:Int)).toNat 0 else 0),e4,.no]) (bq (ay fb (lW M.len (aa 0 rfl)) ev_int) (λh=>?_) (λh=>aN ?_)) ?_
  ·have hl:(0:Int) < ns.length:=of_decide_eq_true h
   have hmin:(if(ns.length:Int) < 63 then(ns.length:Int) else 63)=ns.length:=by
    by_cases q:(ns.length:Int) < 63
    ·rw[if_pos q]
    ·rw[if_neg q];omega
   have q0:=Lz k (show(ns.length:Int)≠0 by omega)
   have q1:=Ly k hl
   refine ak (aU 3 (qJ (aa 0 rfl) (bN (aa 1 rfl) (EV.cast (uS M.min (ag ev_int (ag (lW M.len (aa 0 rfl)) aw))) hmin) hl) (aQ 0 q0 q1)) ?_)
   rw[if_pos (by omega:0 < ns.length)];rfl
  ·have hl:¬(0:Int) < ns.length:=of_decide_eq_false h
   rw[if_neg (by omega)]
  rintro _ rfl
  have e:QZ ns k=qH (if 0 < ns.length then ns.getD (k % (ns.length:Int)).toNat 0 else 0) k:=by unfold QZ;rw[if_neg hn]
  rw[e]
  generalize (if 0 < ns.length then ns.getD (k % (ns.length:Int)).toNat 0 else 0)=d
  have u0:=Lz d (show(10:Int) ^ 18≠0 by decide)
  have u1:=Ly d (show(0:Int) < 10 ^ 18 by decide)
  refine aj (aU 5 (y:=fC d k) (bK (bN (aa 3 rfl) (sj ev_int ev_int ⟨by decide,by decide,by decide⟩) (by decide)) (jZ ev_int (bK (aa 1 rfl) ev_int) (kZ (by decide) (by decide)))) ?_)
  change WS _ _ [.im bu ns,ao k,ao (k / 8 % 63),ao d,e4,ao (fC d k)] _ _
  have n0:0<=fC d k:=by unfold fC;omega
  have n1:fC d k < 2 ^ 63:=by unfold fC;omega
  have m0:=Lz (fC d k * fC d k) (show(2147483629:Int)≠0 by decide)
  have m1:=Ly (fC d k * fC d k) (show(0:Int) < 2147483629 by decide)
  refine aj (aU 5 (y:=lG (fC d k) k) (bK (bN (jZ (aa 5 rfl) (aa 5 rfl) (AH n0 n1)) ev_int (by decide)) (jZ ev_int (aa 1 rfl) (kZ (by decide) (by decide)))) ?_)
  change WS _ _ [.im bu ns,ao k,ao (k / 8 % 63),ao d,e4,ao (lG (fC d k) k)] _ _
  have v0:0<=lG (fC d k) k:=by unfold lG;omega
  have v1:lG (fC d k) k < 2 ^ 63:=by unfold lG;omega
  exact ak (aX (bN (jZ (aa 5 rfl) (aa 5 rfl) (AH v0 v1)) ev_int (by decide)) rfl)
 refine aj (bq (TW.tv (cK (ay kC (aa 2 rfl) (lW M.len (aa 0 rfl))) (λh=>du (ay K7 (qJ (aa 0 rfl) (aa 2 rfl) (aQ 0 a0 (of_decide_eq_true h))) (sj ev_int ev_int ⟨by decide,by decide,by decide⟩))))) (λh=>?_) (λh=>aN (rest _ _ (λ⟨q,_⟩=>by rw[show qh ns k=false from h] at q;cases q))))
 have V4:qh ns k=true:=h
 obtain⟨hl,_⟩:=Bool.and_eq_true_iff.mp V4
 have hl:=of_decide_eq_true hl
 refine aj (aU 3 (ky (qJ (aa 0 rfl) (aa 2 rfl) (aQ 0 a0 hl)) (sj ev_int ev_int ⟨by decide,by decide,by decide⟩) ⟨by decide,by decide⟩) ?_)
 change WS _ _ [.im bu ns,ao k,ao (k / 8 % 63),ao (ns.getD (k / 8 % 63).toNat 0 / 10 ^ 18),.no,.no] _ _
 have j0:=Lz k (show(8:Int)≠0 by decide)
 have j1:=Ly k (show(0:Int) < 8 by decide)
 refine bL (N1:=λΓ=>∃e4,Γ=[.im bu ns,ao k,ao (k / 8 % 63),ao (qR ns k),e4,.no]) (cC (λi Γ=>∃e4,Γ=[.im bu ns,ao k,ao (k / 8 % 63),ao (qm (ns.getD (k / 8 % 63).toNat 0 / 10 ^ 18) i),e4,.no]) (cV M.range (bN (aa 1 rfl) ev_int (by decide)) ⟨by omega,by omega⟩) (aY 4) ⟨_,rfl⟩ (λi j Γ _ hΓ=>?_) (λΓ hΓ=>?_)) ?_
 ·obtain⟨e4,rfl⟩:=hΓ
  change WS _ _ [.im bu ns,ao k,ao (k / 8 % 63),ao (qm (ns.getD (k / 8 % 63).toNat 0 / 10 ^ 18) i),ao j,.no] _ _
  exact ak (aU 3 (ky (aa 3 rfl) ev_int ⟨by decide,by decide⟩) ⟨_,rfl⟩)
 ·obtain⟨e4,rfl⟩:=hΓ
  rw[a8]
  exact⟨e4,rfl⟩
 rintro _ ⟨e4,rfl⟩
 refine ak (bq (ay fb (aa 3 rfl) ev_int) (λh=>?_) (λh=>aN (rest _ _ (λ⟨_,q⟩=>absurd q (of_decide_eq_false h)))))
 have h:0 < qR ns k:=of_decide_eq_true h
 exact ak (aX (bN (aa 3 rfl) ev_int (by decide)) (by unfold QZ;rw[if_pos ⟨V4,h⟩]))
abbrev bt:Rep (Lh ⊕ Int):=sT bu af
abbrev ba (ns:Lh)(k c:Int):List (Lh ⊕ Int):=[.inl ns,.inr k,.inr c]
abbrev AI:Stmt:=top tL
theorem D4:aH ["_law_pen"] ["_law_pen"] (ai AI):=Rp
def rE:jO (Lh ⊕ Int):=λK xs ps T=>∃(ns:Lh) (k c:Int),xs=ba ns k c/\ps=[]/\ur ns/\0<=k/\k < 1000000/\T=λxs'=>cg K af λz=>xs'=ba ns (k + 1) c/\z=QZ ns (k + 1)
theorem Hi (CM:aI P w K mg base "_law_mixed" 1 (aK Bq K))(F:bD K "_law_pull" "_law_pull" AI f fd)(hm:mg "_law_pull"=some (.ref f))(hb:Binds K fd ["_law_pen"] []):aI P w K mg base "_law_pull" 2 (eE bt rE K):=by
 have nd:=D4.nd
 refine nN F D4 hm hb (λxs qs T ⟨_,_,_,_,e,_⟩=>by rw[e];rfl) (λQ2 A outer s H E a xs qs T hr hS=>?_)
 obtain⟨ns,k,c,rfl,rfl,hs,k0,k1,rfl⟩:=hS
 change WS _ _ [.ob (bM a bt (ba ns k c))] _ _
 refine aj (fT 0 (j:=1) (EV.inr (bK (EV.mx (fk 0 ev_int rfl (y:=(Sum.inr k:Lh ⊕ Int)) rfl)) ev_int)) ev_int rfl rfl rfl ?_)
 change WS _ _ [.ob (bM a bt (ba ns (k + 1) c))] _ _
 exact ak (hX 0 (aE CM hr (ag (EV.ofl (fk 0 ev_int rfl (y:=(Sum.inl ns:Lh ⊕ Int)) rfl)) (ag (EV.mx (fk 0 ev_int rfl (y:=(Sum.inr (k + 1):Lh ⊕ Int)) rfl)) aw)) ⟨ns,k + 1,rfl,hs,by omega,by omega,rfl⟩) rfl ⟨rfl,rfl⟩)
end
abbrev fF:Str:="abcdefghijklmnopqrstuvwxyz"
abbrev fB:Li:=["part","end","do","call","if","else","while","leave","back"]
def kO (m:Int):Nat->Str
 | 0=>""
 | n + 1=>kO m n++jA fF ((m / 8 + (n:Int) * (m / 88)) % 26).toNat
def Q6 (n:Int):Str:=
 if n % 4=0 then fB.getD (n / 4 % 9).toNat ""
 else if n % 4=1 then fB.getD (n / 4 % 9).toNat ""++jA fF (n / 4 / 9 % 26).toNat
 else kO (n / 4) (1 + n / 4 % 8).toNat
structure cn (x:Str):Prop where
 l1:1<=x.length
 l8:x.length<=8
 az:∀c∈x.cps.toList,97<=c/\c<=122
theorem len_app (x y:Str):(x++y).length=x.length + y.length:=by
 show(x.cps++y.cps).size=_
 rw[Array.size_append];rfl
theorem oM {x y:Str}{c:Nat}(h:c∈(x++y).cps.toList):c∈x.cps.toList∨c∈y.cps.toList:=by
 have e:(x++y).cps.toList=x.cps.toList++y.cps.toList:=by show(x.cps++y.cps).toList=_;simp
 rw[e] at h
 exact LW.mp h
theorem F9 (i:Nat)(h:i < 26):97<=fF.cps.getD i 0/\fF.cps.getD i 0<=122:=by
 have:∀j:Fin 26,97<=fF.cps.getD j.val 0/\fF.cps.getD j.val 0<=122:=by decide +kernel
 exact this ⟨i,h⟩
theorem xt {i:Nat}(h:i < 26):∀c∈(jA fF i).cps.toList,97<=c/\c<=122:=by
 intro c hc
 have:c=fF.cps.getD i 0:=by simpa[jA] using hc
 rw[this];exact F9 i h
theorem Ke (x:Int):(x % 26).toNat < 26:=by
 have:=Lz x (show(26:Int)≠0 by decide)
 have:=Ly x (show(0:Int) < 26 by decide)
 omega
theorem lY (m:Int):∀n,(kO m n).length=n
 | 0=>rfl
 | n + 1=>by rw[kO,len_app,lY m n];rfl
theorem ym (m:Int):∀n,∀c∈(kO m n).cps.toList,97<=c/\c<=122
 | 0,c,h=>by
   have e:(kO m 0).cps.toList=[]:=rfl
   rw[e] at h;cases h
 | n + 1,c,h=>by
   rcases oM h with z | z
   ·exact ym m n c z
   ·exact xt (Ke _) c z
theorem wq (i:Nat)(h:i < 9):cn (fB.getD i "")/\(fB.getD i "").length<=5:=by
 have:∀j:Fin 9,(1<=(fB.getD j.val "").length/\(fB.getD j.val "").length<=5)/\∀c∈(fB.getD j.val "").cps.toList,97<=c/\c<=122:=by decide +kernel
 obtain⟨⟨a,b⟩,c⟩:=this ⟨i,h⟩
 exact⟨⟨a,Nn b (by decide),c⟩,b⟩
theorem gO (n:Int):cn (Q6 n):=by
 have q0:=Lz (n / 4) (show(9:Int)≠0 by decide)
 have q1:=Ly (n / 4) (show(0:Int) < 9 by decide)
 have r0:=Lz (n / 4) (show(8:Int)≠0 by decide)
 have r1:=Ly (n / 4) (show(0:Int) < 8 by decide)
 obtain⟨w1,w2⟩:=wq (n / 4 % 9).toNat (by omega)
 unfold Q6
 split
 ·exact w1
 split
 ·refine⟨?_,?_,λc hc=>?_⟩
  ·rw[len_app];have:=w1.l1;omega
  ·rw[len_app];show _ + 1<=8;omega
  ·rcases oM hc with z | z
   ·exact w1.az c z
   ·exact xt (Ke _) c z
 ·exact⟨by rw[lY];omega,by rw[lY];omega,ym _ _⟩
section
abbrev AE:Stmt:=top sN
abbrev nNM:Li:=["_law_number","_law_letters","_law_words_here","_law_way","_law_name_here","_law_k"]
theorem G1:aH nNM ["_law_number"] (ai AE):=Rp
def Bu:cQ:=λK ps T=>∃n:Int,ps=[⟨af,n⟩]/\0<=n/\n < 2147483587/\T=cg K ah (· =Q6 n)
theorem HW (M:bY K mg)(F:bD K "_law_name" "_law_name" AE f fd)(hm:mg "_law_name"=some (.ref f))(hb:Binds K fd ["_law_number"] []):aI P w K mg base "_law_name" 1 (aK Bu K):=by
 have nd:=G1.nd
 refine bw F G1 hm hb (λqs T ⟨_,e,_⟩=>by rw[e];rfl) (λQ2 A outer s H E qs T hr hS=>?_)
 obtain⟨n,rfl,n0,n1,rfl⟩:=hS
 have q0:=Lz (n / 4) (show(9:Int)≠0 by decide)
 have q1:=Ly (n / 4) (show(0:Int) < 9 by decide)
 have r0:=Lz (n / 4) (show(8:Int)≠0 by decide)
 have r1:=Ly (n / 4) (show(0:Int) < 8 by decide)
 have ll:fF.length=26:=by decide +kernel
 have lz:fF.length<=N7:=by rw[ll];decide
 change WS _ _ [ao n,.no,.no,.no,.no,.no] _ _
 refine aj (aU 1 (y:=fF) aA ?_)
 refine aj (aU 2 (y:=fB) (aW.im (aP (r:=ah) (av aA (av aA (av aA (av aA (av aA (av aA (av aA (av aA (av aA aO))))))))) (by show 9<=N7;decide))) ?_)
 refine aj (aU 3 (bN (aa 0 rfl) ev_int (by decide)) ?_)
 refine aj (aU 0 (j7 (aa 0 rfl) ev_int ⟨by decide,by decide⟩) ?_)
 change WS _ _ [ao (n / 4),.im ah fF,.im (ae ah) fB,ao (n % 4),.no,.no] _ _
 have hw:bV fB (n / 4 % 9)=some (fB.getD (n / 4 % 9).toNat ""):=aQ (xs:=fB) "" q0 (by show _ < ((9:Nat):Int);omega)
 refine aj (bq (ay fD (aa 3 rfl) ev_int) (λh=>?_) (λh=>aN ?_))
 ·have h:n % 4=0:=of_decide_eq_true h
  exact ak (aX (aZ (aa 2 rfl) (bN (aa 0 rfl) ev_int (by decide)) hw) (by unfold Q6;rw[if_pos h]))
 have h0:¬n % 4=0:=of_decide_eq_false h
 have wl:=(wq (n / 4 % 9).toNat (by omega)).2
 have s0:=Lz (n / 4 / 9) (show(26:Int)≠0 by decide)
 have s1:=Ly (n / 4 / 9) (show(0:Int) < 26 by decide)
 refine aj (bq (ay fD (aa 3 rfl) ev_int) (λh=>?_) (λh=>aN ?_))
 ·have h:n % 4=1:=of_decide_eq_true h
  exact ak (aX (o9 (aZ (aa 2 rfl) (bN (aa 0 rfl) ev_int (by decide)) hw) (xw (aa 1 rfl) (bN (j7 (aa 0 rfl) ev_int ⟨by decide,by decide⟩) ev_int (by decide)) s0 (by rw[ll];exact s1) lz) (Nn (show _<=6 by show _ + 1<=6;omega) (by decide))) (by unfold Q6;rw[if_neg h0,if_pos h]))
 have h1:¬n % 4=1:=of_decide_eq_false h
 refine aj (aU 4 (y:=kO (n / 4) 0) aA ?_)
 change WS _ _ [ao (n / 4),.im ah fF,.im (ae ah) fB,ao (n % 4),.im ah (kO (n / 4) 0),.no] _ _
 refine bL (N1:=λΓ=>∃e5,Γ=[ao (n / 4),.im ah fF,.im (ae ah) fB,ao (n % 4),.im ah (Q6 n),e5]) (cC (λi Γ=>∃e5,Γ=[ao (n / 4),.im ah fF,.im (ae ah) fB,ao (n % 4),.im ah (kO (n / 4) i),e5]) (cV M.range (bK ev_int (bN (aa 0 rfl) ev_int (by decide))) ⟨by omega,by omega⟩) (aY 5) ⟨_,rfl⟩ (λi j Γ hj hΓ=>?_) (λΓ hΓ=>?_)) ?_
 ·obtain⟨e5,rfl⟩:=hΓ
  obtain⟨jl,ej⟩:=dY hj
  obtain rfl:j=(i:Int):=by omega
  have t0:=Lz (n / 4 / 8 + (i:Int) * (n / 4 / 88)) (show(26:Int)≠0 by decide)
  have t1:=Ly (n / 4 / 8 + (i:Int) * (n / 4 / 88)) (show(0:Int) < 26 by decide)
  change WS _ _ [ao (n / 4),.im ah fF,.im (ae ah) fB,ao (n % 4),.im ah (kO (n / 4) i),ao (i:Int)] _ _
  exact ak (aU 4 (y:=kO (n / 4) (i + 1)) (o9 (aa 4 rfl) (xw (aa 1 rfl) (bN (bK (j7 (aa 0 rfl) ev_int ⟨by decide,by decide⟩) (jZ (aa 5 rfl) (j7 (aa 0 rfl) ev_int ⟨by decide,by decide⟩) (kZ (by omega) (by omega)))) ev_int (by decide)) t0 (by rw[ll];exact t1) lz) (by rw[lY];exact Nn (show _<=20 by show _ + 1<=20;omega) (by decide))) ⟨_,rfl⟩)
 ·obtain⟨e5,rfl⟩:=hΓ
  rw[a8]
  refine⟨e5,?_⟩
  have e:Q6 n=kO (n / 4) (1 + n / 4 % 8).toNat:=by unfold Q6;rw[if_neg h0,if_neg h1]
  rw[e]
 rintro _ ⟨e5,rfl⟩
 exact ak (aX (aa 4 rfl) rfl)
end
inductive Th
 | RL (x:Str)
 | call (j:Int)
 | ifs (x:Str) (a b:List Th)
 | Rg (x:Str) (a:List Th)
 | leave
 | back
mutual
def eI:Th->PV
 | .RL x=>.lst [.str "do",.str x]
 | .call j=>.lst [.str "call",.int j]
 | .ifs x a b=>.lst [.str "if",.str x,.lst (br a),.lst (br b)]
 | .Rg x a=>.lst [.str "while",.str x,.lst (br a)]
 | .leave=>.lst [.str "leave"]
 | .back=>.lst [.str "back"]
def br:List Th->List PV
 | []=>[]
 | t::ts=>eI t::br ts
end
theorem eM:∀ts:List Th,br ts=ts.map eI
 | []=>by rw[br];rfl
 | t::ts=>by rw[br,eM ts];rfl
mutual
def dM:Th->Bool
 | .leave=>false
 | .back=>false
 | .ifs _ a b=>cS a ||cS b
 | _=>true
def cS:List Th->Bool
 | []=>true
 | t::ts=>dM t&&cS ts
end
mutual
def gi:Th->Nat
 | .ifs _ a b=>1 + max (d7 a) (d7 b)
 | .Rg _ a=>1 + d7 a
 | _=>0
def d7:List Th->Nat
 | []=>0
 | t::ts=>max (gi t) (d7 ts)
end
mutual
def c7:Th->Nat
 | .RL _=>1
 | .call _=>1
 | .ifs _ a b=>2 + cx a + cx b
 | .Rg _ a=>2 + cx a
 | _=>0
def cx:List Th->Nat
 | []=>0
 | t::ts=>c7 t + cx ts
end
section
variable {ns calls:Lh}{n b:Nat}
theorem iG:∀a b:List Th,cx (a++b)=cx a + cx b
 | [],b=>by rw[cx];simp
 | t::a,b=>by rw[M6,cx,cx,iG a b];omega
theorem jH:∀a b:List Th,d7 (a++b)=max (d7 a) (d7 b)
 | [],b=>by rw[d7];simp
 | t::a,b=>by rw[M6,d7,d7,jH a b];omega
abbrev Pn:=Int×Int
def Rn (ns calls:Lh)(sub:Option (Int->Pn->List Th×Pn))(loops:Int)(s:Pn):Th×Pn:=
 if QZ ns (s.1 + 1) % 12=0/\0 < loops then(.leave,(s.1 + 2,s.2))
 else if QZ ns (s.1 + 1) % 12=1 then(.back,(s.1 + 2,s.2))
 else if 9 < QZ ns (s.1 + 1) % 12/\0 < calls.length then(.call (calls.getD (QZ ns (s.1 + 3) % (calls.length:Int)).toNat 0),(s.1 + 3,s.2 - 1))
 else match sub with
  | some L=>
    if(3 < QZ ns (s.1 + 1) % 12/\QZ ns (s.1 + 1) % 12 < 7)/\1 < s.2 then(.ifs (Q6 (QZ ns (s.1 + 2))) (L loops (s.1 + 2,s.2 - 2)).1 (L loops (L loops (s.1 + 2,s.2 - 2)).2).1,(L loops (L loops (s.1 + 2,s.2 - 2)).2).2)
    else if(6 < QZ ns (s.1 + 1) % 12/\QZ ns (s.1 + 1) % 12 < 10)/\1 < s.2 then(.Rg (Q6 (QZ ns (s.1 + 2))) (L (loops + 1) (s.1 + 2,s.2 - 2)).1,(L (loops + 1) (s.1 + 2,s.2 - 2)).2)
    else(.RL (Q6 (QZ ns (s.1 + 2))),(s.1 + 2,s.2 - 1))
  | none=>(.RL (Q6 (QZ ns (s.1 + 2))),(s.1 + 2,s.2 - 1))
def mT:Th->Bool
 | .back=>true
 | _=>false
def gz (ns calls:Lh)(sub:Option (Int->Pn->List Th×Pn))(tp:Bool)(loops:Int)(x:List Th×Pn):List Th×Pn:=
 if 0 < x.2.2/\cS x.1=true then
  if tp=true/\x.1.length=0/\mT (Rn ns calls sub loops x.2).1=true then(x.1++[.RL "back"],((Rn ns calls sub loops x.2).2.1,(Rn ns calls sub loops x.2).2.2 - 1))
  else(x.1++[(Rn ns calls sub loops x.2).1],(Rn ns calls sub loops x.2).2)
 else x
def Rm {α:Type}(f:α->α):Nat->α->α
 | 0,x=>x
 | n + 1,x=>f (Rm f n x)
def ef (ns:Lh)(tp:Bool)(k:Int):Nat:=(QZ ns (k + 1) % 4 + 2 * (if tp then 1 else 0)).toNat
def Rb (ns calls:Lh):Nat->Bool->Int->Pn->List Th×Pn
 | 0,tp,loops,s=>Rm (gz ns calls none tp loops) (ef ns tp s.1) ([],(s.1 + 1,s.2))
 | n + 1,tp,loops,s=>Rm (gz ns calls (some (Rb ns calls n false)) tp loops) (ef ns tp s.1) ([],(s.1 + 1,s.2))
structure Ba (n b:Nat) (s:Pn) (r:List Th×Pn):Prop where
 dp:d7 r.1<=n
 c:(cx r.1:Int) + r.2.2=s.2/\0<=r.2.2
 k:s.1<=r.2.1/\r.2.1<=s.1 + b
 l:r.1.length<=5
def Bz (n b:Nat)(L:Int->Pn->List Th×Pn):Prop:=∀lp s,0<=s.2->Ba n b s (L lp s)
theorem ui (ns:Lh)(tp:Bool)(k:Int):ef ns tp k<=5:=by
 unfold ef
 have a:=Lz (QZ ns (k + 1)) (show(4:Int)≠0 by decide)
 have b:=Ly (QZ ns (k + 1)) (show(0:Int) < 4 by decide)
 cases tp<;>simp<;>omega
structure ou (n:Nat) (b:Nat) (s:Pn) (r:Th×Pn):Prop where
 dp:gi r.1<=n
 c:(c7 r.1:Int) + r.2.2=s.2/\0<=r.2.2
 k:s.1<=r.2.1/\r.2.1<=s.1 + b
theorem rR (ns calls:Lh)(loops:Int)(s:Pn)(h:0 < s.2):ou 0 3 s (Rn ns calls none loops s):=by
 unfold Rn
 split
 ·exact⟨by simp[gi],⟨by simp[c7],by show 0<=s.2;omega⟩,by constructor<;>simp<;>omega⟩
 split
 ·exact⟨by simp[gi],⟨by simp[c7],by show 0<=s.2;omega⟩,by constructor<;>simp<;>omega⟩
 split
 ·exact⟨by simp[gi],⟨by simp[c7];omega,by show 0<=s.2 - 1;omega⟩,by constructor<;>simp<;>omega⟩
 ·exact⟨by simp[gi],⟨by simp[c7];omega,by show 0<=s.2 - 1;omega⟩,by constructor<;>simp<;>omega⟩
theorem tf {L:Int->Pn->List Th×Pn}(hL:Bz n b L)(loops:Int)(s:Pn)(h:0 < s.2):ou (n + 1) (3 + 2 * b) s (Rn ns calls (some L) loops s):=by
 unfold Rn
 split
 ·exact⟨by simp[gi],⟨by simp[c7],by show 0<=s.2;omega⟩,by constructor<;>simp<;>omega⟩
 split
 ·exact⟨by simp[gi],⟨by simp[c7],by show 0<=s.2;omega⟩,by constructor<;>simp<;>omega⟩
 split
 ·exact⟨by simp[gi],⟨by simp[c7];omega,by show 0<=s.2 - 1;omega⟩,by constructor<;>simp<;>omega⟩
 dsimp only
 split
 ·rename_i hh
  have c2:1 < s.2:=hh.2
  obtain⟨d1,⟨a1,a2⟩,k1,_⟩:=hL loops (s.1 + 2,s.2 - 2) (by show 0<=s.2 - 2;omega)
  obtain⟨d2,⟨a3,a4⟩,k2,_⟩:=hL loops (L loops (s.1 + 2,s.2 - 2)).2 a2
  dsimp only at a1 k1
  refine⟨by simp only[gi];omega,⟨by simp only[c7];push_cast;omega,a4⟩,?_⟩
  constructor
  ·exact LB (by omega) (LB k1.1 k2.1)
  ·show(L loops (L loops (s.1 + 2,s.2 - 2)).2).2.1<=s.1 + ((3 + 2 * b:Nat):Int)
   have:=k2.2
   have:=k1.2
   push_cast
   omega
 split
 ·rename_i _ hh
  have c2:1 < s.2:=hh.2
  obtain⟨d1,⟨a1,a2⟩,k1,_⟩:=hL (loops + 1) (s.1 + 2,s.2 - 2) (by show 0<=s.2 - 2;omega)
  dsimp only at a1 k1
  refine⟨by simp only[gi];omega,⟨by simp only[c7];push_cast;omega,a2⟩,?_⟩
  constructor
  ·exact LB (by omega) k1.1
  ·show(L (loops + 1) (s.1 + 2,s.2 - 2)).2.1<=s.1 + ((3 + 2 * b:Nat):Int)
   have:=k1.2
   push_cast
   omega
 ·exact⟨by simp[gi],⟨by simp[c7];omega,by show 0<=s.2 - 1;omega⟩,by constructor<;>simp<;>omega⟩
structure nR (n b i:Nat) (k0 c0:Int) (x:List Th×Pn):Prop where
 dp:d7 x.1<=n
 c:(cx x.1:Int) + x.2.2=c0/\0<=x.2.2
 k:k0<=x.2.1/\x.2.1<=k0 + b * i
 l:x.1.length<=i
theorem nR.step {i:Nat}{k0 c0:Int}{x:List Th×Pn}{sub:Option (Int->Pn->List Th×Pn)}{tp:Bool}{loops:Int}(h:nR n b i k0 c0 x)(ht:0 < x.2.2->ou n b x.2 (Rn ns calls sub loops x.2))(hb:1<=b):nR n b (i + 1) k0 c0 (gz ns calls sub tp loops x):=by
 have hm:((b * (i + 1):Nat):Int)=(b * i:Nat) + b:=by push_cast;rw[Int.mul_add];omega
 have hk:=h.k
 have hc:=h.c
 have hl:=h.l
 have hd:=h.dp
 unfold gz
 split
 ·rename_i hh
  have t:=ht hh.1
  have tk:=t.k
  have tc:=t.c
  split
  ·rename_i h2
   have hbk:(Rn ns calls sub loops x.2).1= .back:=by
    have:=h2.2.2
    cases e:(Rn ns calls sub loops x.2).1<;>rw[e] at this<;>first | rfl | cases this
   rw[hbk] at tc
   have hrw:(c7 .back:Int)=0:=by simp[c7]
   rw[hrw] at tc
   refine⟨?_,⟨?_,?_⟩,⟨?_,?_⟩,?_⟩
   ·rw[jH];simp[d7,gi];exact hd
   ·rw[iG];simp[cx,c7];omega
   ·show 0<=(Rn ns calls sub loops x.2).2.2 - 1
    have:=hh.1
    omega
   ·exact LB hk.1 tk.1
   ·show(Rn ns calls sub loops x.2).2.1<=k0 + ((b * (i + 1):Nat):Int)
    have:=tk.2;have:=hk.2
    rw[hm];push_cast at *;omega
   ·simp;omega
  ·refine⟨?_,⟨?_,tc.2⟩,⟨?_,?_⟩,?_⟩
   ·rw[jH];have:=t.dp;simp[d7];omega
   ·rw[iG];simp[cx];omega
   ·exact LB hk.1 tk.1
   ·show(Rn ns calls sub loops x.2).2.1<=k0 + ((b * (i + 1):Nat):Int)
    have:=tk.2;have:=hk.2
    rw[hm];push_cast at *;omega
   ·simp;omega
 ·refine⟨hd,hc,⟨hk.1,?_⟩,by omega⟩
  have:=hk.2
  show x.2.1<=k0 + ((b * (i + 1):Nat):Int)
  rw[hm];push_cast at *;omega
def jf:Nat->Nat
 | 0=>16
 | n + 1=>1 + 5 * (3 + 2 * jf n)
theorem rh {ns calls:Lh}{sub:Option (Int->Pn->List Th×Pn)}{n b:Nat}(hb:1<=b)(hT:∀(lp:Int) (s:Pn),0 < s.2->ou n b s (Rn ns calls sub lp s))(tp:Bool)(lp:Int)(s:Pn)(hs:0<=s.2):∀m,nR n b m (s.1 + 1) s.2 (Rm (gz ns calls sub tp lp) m ([],(s.1 + 1,s.2)))
 | 0=>⟨by simp[Rm,d7],⟨by simp[Rm,cx],hs⟩,⟨LA _,by simp[Rm]⟩,by simp[Rm]⟩
 | m + 1=>nR.step (rh hb hT tp lp s hs m) (λh=>hT lp _ h) hb
theorem yF {sub:Option (Int->Pn->List Th×Pn)}(hb:1<=b)(hT:∀(lp:Int) (s:Pn),0 < s.2->ou n b s (Rn ns calls sub lp s))(tp:Bool)(lp:Int)(s:Pn)(hs:0<=s.2):Ba n (1 + 5 * b) s (Rm (gz ns calls sub tp lp) (ef ns tp s.1) ([],(s.1 + 1,s.2))):=by
 have h:=rh hb hT tp lp s hs (ef ns tp s.1)
 have hm:=ui ns tp s.1
 have hmul:b * ef ns tp s.1<=b * 5:=Nat.mul_le_mul_left b hm
 refine⟨h.dp,h.c,⟨by have:=h.k.1;omega,?_⟩,Nn h.l hm⟩
 have:=h.k.2
 omega
theorem g6 (ns calls:Lh):∀(n:Nat) (tp:Bool),Bz n (jf n) (Rb ns calls n tp)
 | 0,tp=>λlp s hs=>yF (b:=3) (by decide) (λlp s h=>rR ns calls lp s h) tp lp s hs
 | n + 1,tp=>λlp s hs=>yF (b:=3 + 2 * jf n) (by omega) (λlp s h=>tf (g6 ns calls n false) lp s h) tp lp s hs
def cM:Th->Str
 | .RL _=>"do"
 | .call _=>"call"
 | .ifs _ _ _=>"if"
 | .Rg _ _=>"while"
 | .leave=>"leave"
 | .back=>"back"
def hV:Th->List PV
 | .RL x=>[.str "do",.str x]
 | .call j=>[.str "call",.int j]
 | .ifs x a b=>[.str "if",.str x,.lst (br a),.lst (br b)]
 | .Rg x a=>[.str "while",.str x,.lst (br a)]
 | .leave=>[.str "leave"]
 | .back=>[.str "back"]
theorem g7 (t:Th):eI t= .lst (hV t):=by cases t<;>rw[eI]<;>rfl
theorem Fx (t:Th):bV (hV t) 0=some (.str (cM t)):=by cases t<;>rfl
end
section
variable {X:Cx}{Γ Γ1:Ga}
theorem g0 {a:Expr}{j:Nat}{p1 pos:Pos}{t:Th}(h:EV X a Γ ax (eI t) Γ1):EV X (.Subscript a (.Constant (.int 0) j p1) pos) Γ ah (cM t) Γ1:=EV.sP (aZ (EV.lP (by rw[g7] at h;exact h)) ev_int (Fx t))
theorem kU {a:Expr}{j:Nat}{p1 pos:Pos}{t:Th}{i:Int}{xs:List PV}(h:EV X a Γ ax (eI t) Γ1)(hx:bV (hV t) i=some (.lst xs)):EV X (.Subscript a (.Constant (.int i) j p1) pos) Γ (ae ax) xs Γ1:=EV.lP (aZ (EV.lP (by rw[g7] at h;exact h)) ev_int hx)
end
section
abbrev Br:Stmt:=top oH
abbrev nPA:Li:=["_law_items","_law_one"]
theorem z8:aH nPA ["_law_items"] (ai Br):=Rp
def xg (n:Nat):cQ:=λK ps T=>∃ts:List Th,ps=[⟨ae ax,br ts⟩]/\d7 ts < n/\T=cg K bZ (· =cS ts)
theorem zc (t:Th):(cM t="leave"∨cM t="back")->dM t=false:=by
 intro h
 cases t<;>simp[cM] at h<;>first | (exfalso;revert h;decide) | simp[dM]
theorem sF {t:Th}:∀{ts:List Th},t∈ts->gi t<=d7 ts
 | s::ts,h=>by
   rw[d7]
   rcases LV.mp h with rfl | h
   ·omega
   ·have:=sF h;omega
theorem HE (F:bD K "_law_passes" "_law_passes" Br f fd)(hm:mg "_law_passes"=some (.ref f))(hb:Binds K fd ["_law_items"] []):∀n:Nat,aI P w K mg base "_law_passes" (n + 1) (aK (xg n) K):=by
 intro n
 have nd:=z8.nd
 induction n with
 | zero=>
   refine bw F z8 hm hb (λqs T ⟨_,e,_⟩=>by rw[e];rfl) (λQ2 A outer s H E qs T hr hS=>?_)
   obtain⟨ts,_,h,_⟩:=hS
   exact absurd h (Nat.not_lt_zero _)
 | succ n ih=>
   refine bw F z8 hm hb (λqs T ⟨_,e,_⟩=>by rw[e];rfl) (λQ2 A outer s H E qs T hr hS=>?_)
   obtain⟨ts,rfl,hd,rfl⟩:=hS
   change WS _ _ [.im (ae ax) (br ts),.no] _ _
   refine aj (cC (r:=ax) (λi Γ=>∃e1,Γ=[.im (ae ax) (br ts),e1]/\cS ts=cS (ts.drop i)) (bR (aa 0 rfl)) (aY 1) ⟨_,rfl,rfl⟩ (λi x Γ hx hΓ=>?_) (λΓ hΓ=>?_))
   ·obtain⟨e1,rfl,hp⟩:=hΓ
    rw[eM,LM] at hx
    obtain⟨t,ht,rfl⟩:=NO.mp hx
    have hdr:ts.drop i=t::ts.drop (i + 1):=by
     obtain⟨h1,h2⟩:=LC.mp ht
     rw[List.drop_eq_getElem_cons h1,h2]
    rw[hdr,cS] at hp
    have hdt:=sF (LO ht)
    change WS _ _ [.im (ae ax) (br ts),.im ax (eI t)] _ _
    refine aj (bq (TW.tv (jj (ay cb (g0 (aa 1 rfl)) aA) (λ_=>jP (ay cb (g0 (aa 1 rfl)) aA)))) (λh=>?_) (λh=>aN ?_))
    ·have h:cM t="leave"∨cM t="back":=by simpa using h
     exact ak (aX me (by rw[hp,zc t h];rfl))
    ·have h:¬(cM t="leave"∨cM t="back"):=by simpa using h
     by_cases hif:∃x a b,t= .ifs x a b
     ·obtain⟨x,a,b,rfl⟩:=hif
      have TJ:d7 a < n/\d7 b < n:=by rw[gi] at hdt;omega
      refine ak (bq (TW.tv (cK (ay cb (g0 (aa 1 rfl)) aA) (λ_=>cK (fc (dG (aE ih hr (ag (kU (aa 1 rfl) (xs:=br a) rfl) aw) ⟨a,rfl,TJ.1,rfl⟩))) (λ_=>du (fc (dG (aE ih hr (ag (kU (aa 1 rfl) (xs:=br b) rfl) aw) ⟨b,rfl,TJ.2,rfl⟩))))))) (λh=>?_) (λh=>aN ⟨_,rfl,?_⟩))
      ·have h:cS a=false/\cS b=false:=by simpa[cM] using h
       exact ak (aX me (by rw[hp,dM,h.1,h.2];rfl))
      ·have h:cS a=false->cS b=true:=by simpa[cM] using h
       rw[hp,dM]
       cases ea:cS a with
       | true=>simp
       | false=>rw[h ea];simp
     ·have hk:decide (cM t="if")=false:=by cases t<;>first | rfl | exact absurd ⟨_,_,_,rfl⟩ hif
      have hpt:dM t=true:=by cases t<;>first | (simp[dM];done) | exact absurd ⟨_,_,_,rfl⟩ hif | exact absurd (.inl rfl) h | exact absurd (.inr rfl) h
      refine ak (bq (TW.tv (cK (y:=true) (ay cb (g0 (aa 1 rfl)) aA) (λh=>absurd (hk.symm.trans h) (by decide)))) (λh=>?_) (λh=>aN ⟨_,rfl,?_⟩))
      ·rw[hk] at h;cases h
      ·rw[hp,hpt];rfl
   ·obtain⟨e1,rfl,hp⟩:=hΓ
    rw[show(br ts).length=ts.length by rw[eM,LJ],List.drop_length,cS] at hp
    exact ak (aX me hp.symm)
end
def da (ns calls:Lh):Nat->Option (Int->Pn->List Th×Pn)
 | 0=>none
 | n + 1=>some (Rb ns calls n false)
theorem j4 (ns calls:Lh)(n:Nat)(tp:Bool)(loops:Int)(s:Pn):Rb ns calls n tp loops s=Rm (gz ns calls (da ns calls n) tp loops) (ef ns tp s.1) ([],(s.1 + 1,s.2)):=by cases n<;>rfl
def bT:Nat->Nat
 | 0=>3
 | n + 1=>3 + 2 * jf n
theorem AQ (n:Nat):3<=bT n:=by cases n<;>simp[bT]
structure kn (ns calls:Lh) (n b:Nat) (k c:Int):Prop where
 s:ur ns
 k0:0<=k
 k1:k + (b:Int)<=900000
 c0:0<=c
 c1:c<=100
 l:calls.length<=100
 n4:n<=4
abbrev FQ (n:Nat)(loops:Int)(calls:Lh):List Pk:=[⟨af,4 - (n:Int)⟩,⟨af,loops⟩,⟨ae af,calls⟩]
def AZ (n:Nat):jO (Lh ⊕ Int):=λK xs ps T=>∃(ns calls:Lh) (k c loops:Int),xs=ba ns k c/\ps=FQ n loops calls/\kn ns calls n (bT n) k c/\0 < c/\T=λxs'=>cg K ax λy=>xs'=ba ns (Rn ns calls (da ns calls n) loops (k,c)).2.1 (Rn ns calls (da ns calls n) loops (k,c)).2.2/\y=eI (Rn ns calls (da ns calls n) loops (k,c)).1
def D3 (n:Nat):jO (Lh ⊕ Int):=λK xs ps T=>∃(ns calls:Lh) (k c loops:Int),xs=ba ns k c/\ps=FQ n loops calls/\kn ns calls n (jf n) k c/\T=λxs'=>cg K (ae ax) λy=>xs'=ba ns (Rb ns calls n (decide (n=4)) loops (k,c)).2.1 (Rb ns calls n (decide (n=4)) loops (k,c)).2.2/\y=br (Rb ns calls n (decide (n=4)) loops (k,c)).1
section
variable {ns calls:Lh}{sub:Option (Int->Pn->List Th×Pn)}{L:Int->Pn->List Th×Pn}{loops k c:Int}
abbrev fh (ns:Lh)(k:Int):Int:=QZ ns (k + 1) % 12
abbrev C0 (ns:Lh)(k loops:Int):Prop:=fh ns k=0/\0 < loops
abbrev C2 (ns calls:Lh)(k:Int):Prop:=9 < fh ns k/\0 < calls.length
abbrev C3 (ns:Lh)(k c:Int):Prop:=(3 < fh ns k/\fh ns k < 7)/\1 < c
abbrev C4 (ns:Lh)(k c:Int):Prop:=(6 < fh ns k/\fh ns k < 10)/\1 < c
theorem yT (h:C0 ns k loops):Rn ns calls sub loops (k,c)=(.leave,(k + 2,c)):=if_pos h
theorem za (h0:¬C0 ns k loops)(h:fh ns k=1):Rn ns calls sub loops (k,c)=(.back,(k + 2,c)):=by
 unfold Rn;rw[if_neg h0,if_pos h]
theorem zu (h0:¬C0 ns k loops)(h1:¬fh ns k=1)(h:C2 ns calls k):Rn ns calls sub loops (k,c)=(.call (calls.getD (QZ ns (k + 3) % (calls.length:Int)).toNat 0),(k + 3,c - 1)):=by
 unfold Rn;rw[if_neg h0,if_neg h1,if_pos h]
theorem GJ (h0:¬C0 ns k loops)(h1:¬fh ns k=1)(h2:¬C2 ns calls k)(h:C3 ns k c):Rn ns calls (some L) loops (k,c)=(.ifs (Q6 (QZ ns (k + 2))) (L loops (k + 2,c - 2)).1 (L loops (L loops (k + 2,c - 2)).2).1,(L loops (L loops (k + 2,c - 2)).2).2):=by
 unfold Rn;rw[if_neg h0,if_neg h1,if_neg h2];dsimp only;rw[if_pos h]
theorem DI (h0:¬C0 ns k loops)(h1:¬fh ns k=1)(h2:¬C2 ns calls k)(h3:¬C3 ns k c)(h:C4 ns k c):Rn ns calls (some L) loops (k,c)=(.Rg (Q6 (QZ ns (k + 2))) (L (loops + 1) (k + 2,c - 2)).1,(L (loops + 1) (k + 2,c - 2)).2):=by
 unfold Rn;rw[if_neg h0,if_neg h1,if_neg h2];dsimp only;rw[if_neg h3,if_pos h]
theorem EJ (h0:¬C0 ns k loops)(h1:¬fh ns k=1)(h2:¬C2 ns calls k)(h:∀L,sub=some L->¬C3 ns k c/\¬C4 ns k c):Rn ns calls sub loops (k,c)=(.RL (Q6 (QZ ns (k + 2))),(k + 2,c - 1)):=by
 unfold Rn;rw[if_neg h0,if_neg h1,if_neg h2]
 cases sub with
 | none=>rfl
 | some L=>dsimp only;rw[if_neg (h L rfl).1,if_neg (h L rfl).2]
end
section
abbrev xl:Stmt:=top qd
abbrev nTH:Li:=["_law_pen","_law_depth","_law_loops","_law_calls","_law_way","_law_name_here","_law_first"]
abbrev qw:Li:=["_law_pen","_law_depth","_law_loops","_law_calls"]
theorem EE:aH nTH qw (ai xl):=Rp
theorem wj (M:bY K mg)(CP:aI P w K mg base "_law_pull" 2 (eE bt rE K))(CN:aI P w K mg base "_law_name" 1 (aK Bu K))(n:Nat)(CL:∀m,n=m + 1->aI P w K mg base "_law_list" (2 * m + 8) (eE bt (D3 m) K))(F:bD K "_law_thing" "_law_thing" xl f fd)(hm:mg "_law_thing"=some (.ref f))(hb:Binds K fd qw []):aI P w K mg base "_law_thing" (2 * n + 7) (eE bt (AZ n) K):=by
 have nd:=EE.nd
 have CP:=CP.mono (show 2<=2 * n + 6 by omega)
 have CN:=CN.mono (show 1<=2 * n + 6 by omega)
 refine nN (k:=2 * n + 6) F EE hm hb (λxs qs T ⟨_,_,_,_,_,_,e,_⟩=>by rw[e];rfl) (λQ2 A outer s H E a xs qs T hr hS=>?_)
 obtain⟨ns,calls,k,c,loops,rfl,rfl,hp,c0,rfl⟩:=hS
 have hb16:=AQ n
 have k0:=hp.k0
 have k1:=hp.k1
 have cl:=hp.l
 have c1:=hp.c1
 change WS _ _ [.ob (bM a bt (ba ns k c)),ao (4 - (n:Int)),ao loops,bQ calls,.no,.no,.no] _ _
 refine aj (aU 4 (bN (d6 0 (st:=ba ns (k + 1) c) (z:=QZ ns (k + 1)) CP hr aw rfl ⟨ns,k,c,rfl,rfl,hp.s,k0,by omega,rfl⟩) ev_int (by decide)) ?_)
 change WS _ _ [.ob (bM a bt (ba ns (k + 1) c)),ao (4 - (n:Int)),ao loops,bQ calls,ao (QZ ns (k + 1) % 12),.no,.no] _ _
 have m2:=iJ ns (k + 2)
 have e2:k + 1 + 1=k + 2:=by omega
 refine aj (aU 5 (y:=Q6 (QZ ns (k + 2))) (aE CN hr (ag (d6 0 (st:=ba ns (k + 2) c) (z:=QZ ns (k + 2)) CP hr aw rfl ⟨ns,k + 1,c,rfl,rfl,hp.s,by omega,by omega,by rw[e2]⟩) aw) ⟨_,rfl,m2.1,m2.2,rfl⟩) ?_)
 change WS _ _ [.ob (bM a bt (ba ns (k + 2) c)),ao (4 - (n:Int)),ao loops,bQ calls,ao (QZ ns (k + 1) % 12),.im ah (Q6 (QZ ns (k + 2))),.no] _ _
 have fin:∀(k' c':Int) (t:Th) (r:Th×Pn),Rn ns calls (da ns calls n) loops (k,c)=(t,(k',c'))->(λxs' (y:PV)=>xs'=ba ns (Rn ns calls (da ns calls n) loops (k,c)).2.1 (Rn ns calls (da ns calls n) loops (k,c)).2.2/\y=eI (Rn ns calls (da ns calls n) loops (k,c)).1) (ba ns k' c') (.lst (hV t)):=λk' c' t r h=>by rw[h];exact⟨rfl,(g7 t).symm⟩
 refine aj (bq (TW.tv (cK (ay fD (aa 4 rfl) ev_int) (λ_=>du (ay fb (aa 2 rfl) ev_int)))) (λh=>?_) (λh=>aN ?_))
 ·have h:C0 ns k loops:=by simpa using h
  exact ak (hX 0 (EV.pL (aW.im (aP (r:=ax) (av (EV.pS aA) aO) (by show 1<=N7;decide)))) rfl (fin _ _ .leave (.leave,(k,c)) (yT h)))
 have h0:¬C0 ns k loops:=by simpa using h
 refine aj (bq (ay fD (aa 4 rfl) ev_int) (λh=>?_) (λh=>aN ?_))
 ·have h:fh ns k=1:=of_decide_eq_true h
  exact ak (hX 0 (EV.pL (aW.im (aP (r:=ax) (av (EV.pS aA) aO) (by show 1<=N7;decide)))) rfl (fin _ _ .back (.leave,(k,c)) (za h0 h)))
 have h1:¬fh ns k=1:=of_decide_eq_false h
 refine aj (bq (TW.tv (cK (ay fb (aa 4 rfl) ev_int) (λ_=>du (ay fb (cJ M.len (aa 3 rfl)) ev_int)))) (λh=>?_) (λh=>aN ?_))
 ·have h:C2 ns calls k:=by
   have h:9 < fh ns k/\(0:Int) < (calls.length:Int):=by simpa using h
   exact⟨h.1,by omega⟩
  have hl:(0:Int) < (calls.length:Int):=by have:=h.2;omega
  refine aj (fT 0 (j:=2) (EV.inr (fL (EV.mx (fk 0 ev_int rfl (y:=(Sum.inr c:Lh ⊕ Int)) rfl)) ev_int)) ev_int rfl rfl rfl ?_)
  change WS _ _ [.ob (bM a bt (ba ns (k + 2) (c - 1))),ao (4 - (n:Int)),ao loops,bQ calls,ao (QZ ns (k + 1) % 12),.im ah (Q6 (QZ ns (k + 2))),.no] _ _
  have e3:k + 2 + 1=k + 3:=by omega
  have q0:=Lz (QZ ns (k + 3)) (show(calls.length:Int)≠0 by omega)
  have q1:=Ly (QZ ns (k + 3)) hl
  exact ak (hX 0 (EV.pL (aW.im (aP (r:=ax) (av (EV.pS aA) (av (EV.pI (aZ (aa 3 rfl) (bN (d6 0 (st:=ba ns (k + 3) (c - 1)) (z:=QZ ns (k + 3)) CP hr aw rfl ⟨ns,k + 2,c - 1,rfl,rfl,hp.s,by omega,by omega,by rw[e3]⟩) (cJ M.len (aa 3 rfl)) hl) (aQ 0 q0 q1))) aO)) (by show 2<=N7;decide)))) rfl (fin _ _ (.call _) (.leave,(k,c)) (zu h0 h1 h)))
 have h2:¬C2 ns calls k:=by
  have h:9 < fh ns k->¬(0:Int) < (calls.length:Int):=by simpa using h
  exact λ⟨x,y⟩=>h x (by omega)
 refine aj (bq (TW.tv (cK (ay fb (aa 4 rfl) ev_int) (λ_=>cK (ay kC (aa 4 rfl) ev_int) (λ_=>cK (ay kC (aa 1 rfl) ev_int) (λ_=>du (ay fb (EV.mx (fk 0 ev_int rfl (y:=(Sum.inr c:Lh ⊕ Int)) rfl)) ev_int)))))) (λh=>?_) (λh=>aN ?_))
 ·have h:3 < fh ns k/\fh ns k < 7/\4 - (n:Int) < 4/\1 < c:=by simpa using h
  have h3:C3 ns k c:=⟨⟨h.1,h.2.1⟩,h.2.2.2⟩
  have hc:=h.2.2.2
  have hn:=h.2.2.1
  obtain⟨m,rfl⟩:∃m,n=m + 1:=⟨n - 1,by omega⟩
  have CL:=(CL m rfl).mono (show 2 * m + 8<=2 * (m + 1) + 6 by omega)
  have n4:=hp.n4
  have hf:decide (m=4)=false:=decide_eq_false (by omega)
  have hbd:bT (m + 1)=3 + 2 * jf m:=rfl
  refine aj (fT 0 (j:=2) (EV.inr (fL (EV.mx (fk 0 ev_int rfl (y:=(Sum.inr c:Lh ⊕ Int)) rfl)) ev_int)) ev_int rfl rfl rfl ?_)
  change WS _ _ [.ob (bM a bt (ba ns (k + 2) (c - 2))),ao (4 - ((m + 1:Nat):Int)),ao loops,bQ calls,ao (QZ ns (k + 1) % 12),.im ah (Q6 (QZ ns (k + 2))),.no] _ _
  have p1:kn ns calls m (jf m) (k + 2) (c - 2):=⟨hp.s,by omega,by omega,by omega,by omega,hp.l,by omega⟩
  obtain⟨g1,g2,g3,g4⟩:=g6 ns calls m false loops (k + 2,c - 2) (by show 0<=c - 2;omega)
  have e1:=GJ (L:=Rb ns calls m false) h0 h1 h2 h3
  generalize hr1:Rb ns calls m false loops (k + 2,c - 2)=r1 at g1 g2 g3 g4 e1
  dsimp only at g2 g3
  refine aj (aU 6 (d6 0 (st:=ba ns (Rb ns calls m false loops (k + 2,c - 2)).2.1 (Rb ns calls m false loops (k + 2,c - 2)).2.2) (z:=br (Rb ns calls m false loops (k + 2,c - 2)).1) CL hr (ag (EV.cast (y':=4 - (m:Int)) (bK (aa 1 rfl) ev_int) (by omega)) (ag (aa 2 rfl) (ag (aa 3 rfl) aw))) rfl ⟨ns,calls,_,_,loops,rfl,rfl,p1,by rw[hf]⟩) ?_)
  rw[hr1]
  change WS _ _ [.ob (bM a bt (ba ns r1.2.1 r1.2.2)),ao (4 - ((m + 1:Nat):Int)),ao loops,bQ calls,ao (QZ ns (k + 1) % 12),.im ah (Q6 (QZ ns (k + 2))),.im (ae ax) (br r1.1)] _ _
  have p2:kn ns calls m (jf m) r1.2.1 r1.2.2:=⟨hp.s,by omega,by omega,by omega,by omega,hp.l,by omega⟩
  exact ak (hX 0 (EV.pL (aW.im (aP (r:=ax) (av (EV.pS aA) (av (EV.pS (aa 5 rfl)) (av (EV.pL (aa 6 rfl)) (av (EV.pL (d6 0 (st:=ba ns (Rb ns calls m false loops r1.2).2.1 (Rb ns calls m false loops r1.2).2.2) (z:=br (Rb ns calls m false loops r1.2).1) CL hr (ag (EV.cast (y':=4 - (m:Int)) (bK (aa 1 rfl) ev_int) (by omega)) (ag (aa 2 rfl) (ag (aa 3 rfl) aw))) rfl ⟨ns,calls,_,_,loops,rfl,rfl,p2,by rw[hf]⟩)) aO)))) (by show 4<=N7;decide)))) rfl (fin _ _ (.ifs _ _ _) (.leave,(k,c)) e1))
 have h3:n=0∨¬C3 ns k c:=by
  have h:3 < fh ns k->fh ns k < 7->4 - (n:Int) < 4->¬1 < c:=by simpa using h
  by_cases z:n=0
  ·exact .inl z
  ·exact .inr λ⟨⟨x,y⟩,u⟩=>h x y (by omega) u
 refine aj (bq (TW.tv (cK (ay fb (aa 4 rfl) ev_int) (λ_=>cK (ay kC (aa 4 rfl) ev_int) (λ_=>cK (ay kC (aa 1 rfl) ev_int) (λ_=>du (ay fb (EV.mx (fk 0 ev_int rfl (y:=(Sum.inr c:Lh ⊕ Int)) rfl)) ev_int)))))) (λh=>?_) (λh=>aN ?_))
 ·have h:6 < fh ns k/\fh ns k < 10/\4 - (n:Int) < 4/\1 < c:=by simpa using h
  have h4:C4 ns k c:=⟨⟨h.1,h.2.1⟩,h.2.2.2⟩
  have hc:=h.2.2.2
  have hn:=h.2.2.1
  have h3x:¬C3 ns k c:=h3.resolve_left (by omega)
  obtain⟨m,rfl⟩:∃m,n=m + 1:=⟨n - 1,by omega⟩
  have CL:=(CL m rfl).mono (show 2 * m + 8<=2 * (m + 1) + 6 by omega)
  have n4:=hp.n4
  have hf:decide (m=4)=false:=decide_eq_false (by omega)
  have hbd:bT (m + 1)=3 + 2 * jf m:=rfl
  refine aj (fT 0 (j:=2) (EV.inr (fL (EV.mx (fk 0 ev_int rfl (y:=(Sum.inr c:Lh ⊕ Int)) rfl)) ev_int)) ev_int rfl rfl rfl ?_)
  change WS _ _ [.ob (bM a bt (ba ns (k + 2) (c - 2))),ao (4 - ((m + 1:Nat):Int)),ao loops,bQ calls,ao (QZ ns (k + 1) % 12),.im ah (Q6 (QZ ns (k + 2))),.no] _ _
  have p1:kn ns calls m (jf m) (k + 2) (c - 2):=⟨hp.s,by omega,by omega,by omega,by omega,hp.l,by omega⟩
  have e1:=DI (L:=Rb ns calls m false) h0 h1 h2 h3x h4
  exact ak (hX 0 (EV.pL (aW.im (aP (r:=ax) (av (EV.pS aA) (av (EV.pS (aa 5 rfl)) (av (EV.pL (d6 0 (st:=ba ns (Rb ns calls m false (loops + 1) (k + 2,c - 2)).2.1 (Rb ns calls m false (loops + 1) (k + 2,c - 2)).2.2) (z:=br (Rb ns calls m false (loops + 1) (k + 2,c - 2)).1) CL hr (ag (EV.cast (y':=4 - (m:Int)) (bK (aa 1 rfl) ev_int) (by omega)) (ag (bK (aa 2 rfl) ev_int) (ag (aa 3 rfl) aw))) rfl ⟨ns,calls,_,_,loops + 1,rfl,rfl,p1,by rw[hf]⟩)) aO))) (by show 3<=N7;decide)))) rfl (fin _ _ (.Rg _ _) (.leave,(k,c)) e1))
 have h4:n=0∨¬C4 ns k c:=by
  have h:6 < fh ns k->fh ns k < 10->4 - (n:Int) < 4->¬1 < c:=by simpa using h
  by_cases z:n=0
  ·exact .inl z
  ·exact .inr λ⟨⟨x,y⟩,u⟩=>h x y (by omega) u
 refine aj (fT 0 (j:=2) (EV.inr (fL (EV.mx (fk 0 ev_int rfl (y:=(Sum.inr c:Lh ⊕ Int)) rfl)) ev_int)) ev_int rfl rfl rfl ?_)
 change WS _ _ [.ob (bM a bt (ba ns (k + 2) (c - 1))),ao (4 - (n:Int)),ao loops,bQ calls,ao (QZ ns (k + 1) % 12),.im ah (Q6 (QZ ns (k + 2))),.no] _ _
 refine ak (hX 0 (EV.pL (aW.im (aP (r:=ax) (av (EV.pS aA) (av (EV.pS (aa 5 rfl)) aO)) (by show 2<=N7;decide)))) rfl (fin _ _ (.RL _) (.leave,(k,c)) (EJ h0 h1 h2 λL e=>?_)))
 cases n with
 | zero=>cases e
 | succ m=>exact⟨h3.resolve_left (by omega),h4.resolve_left (by omega)⟩
end
theorem Fp (n:Nat):jf n=1 + 5 * bT n:=by cases n<;>rfl
theorem A8 (ns calls:Lh):∀(n:Nat) (lp:Int) (s:Pn),0 < s.2->ou n (bT n) s (Rn ns calls (da ns calls n) lp s)
 | 0,lp,s,h=>rR ns calls lp s h
 | n + 1,lp,s,h=>tf (g6 ns calls n false) lp s h
theorem tZ (t:Th):mT t=decide (cM t="back"):=by cases t<;>rfl
theorem BI (a b:List Th):br (a++b)=br a++br b:=by rw[eM,eM,eM,L5]
theorem dW (a:List Th):(br a).length=a.length:=by rw[eM,LJ]
section
abbrev lQ:Stmt:=top rF
abbrev Gy:Li:=["_law_pen","_law_depth","_law_loops","_law_calls","_law_items","_law_k","_law_one"]
theorem rG:aH Gy qw (ai lQ):=Rp
theorem ls_run (M:bY K mg)(CP:aI P w K mg base "_law_pull" 2 (eE bt rE K))(CA:aI P w K mg base "_law_passes" 6 (aK (xg 5) K)){n:Nat}(CT:aI P w K mg base "_law_thing" (2 * n + 7) (eE bt (AZ n) K)){Q2:Value}{A:Od}{outer:List Env}{s:N5}{H:Hp}{E:XK}{a:Addr}{ns calls:Lh}{k c loops:Int}{N:Ga->Prop}{T:RT}(hr:bI (2 * n + 7) (A.deeper (NY "_law_list" (ai lQ) s.heap.objs.size f Q2)))(hp:kn ns calls n (jf n) k c)
 (SU:∀e5 e6:Ent,WS (fA ee P w K mg base Gy "_law_list" (ai lQ) f Q2 A outer s H E).js ((bS lQ).drop 2) [.ob (bM a bt (ba ns (Rb ns calls n (decide (n=4)) loops (k,c)).2.1 (Rb ns calls n (decide (n=4)) loops (k,c)).2.2)),ao (4 - (n:Int)),ao loops,bQ calls,.mu ax (br (Rb ns calls n (decide (n=4)) loops (k,c)).1),e5,e6] N T):
 WS (fA ee P w K mg base Gy "_law_list" (ai lQ) f Q2 A outer s H E).js (bS lQ) [.ob (bM a bt (ba ns k c)),ao (4 - (n:Int)),ao loops,bQ calls,.no,.no,.no] N T:=by
 have nd:=rG.nd
 have CP:=CP.mono (show 2<=2 * n + 7 by omega)
 have CA:=CA.mono (show 6<=2 * n + 7 by omega)
 have k0:=hp.k0
 have k1:=hp.k1
 have c0:=hp.c0
 have c1:=hp.c1
 have n4:=hp.n4
 have hbd:=Fp n
 have b3:=AQ n
 rw[j4] at SU
 generalize htp:decide (n=4)=tp at SU
 have TZ:=rh (ns:=ns) (calls:=calls) (sub:=da ns calls n) (n:=n) (b:=bT n) (by omega) (A8 ns calls n) tp loops (k,c) c0
 dsimp only at TZ SU
 have hmany:=ui ns tp k
 generalize hx:(λi=>Rm (gz ns calls (da ns calls n) tp loops) i ([],(k + 1,c)))=x at TZ
 have hxi:∀i,Rm (gz ns calls (da ns calls n) tp loops) i ([],(k + 1,c))=x i:=λi=>by rw[← hx]
 have hxs:∀i,x (i + 1)=gz ns calls (da ns calls n) tp loops (x i):=λi=>by rw[← hx];rfl
 have hx0:x 0=([],(k + 1,c)):=by rw[← hx];rfl
 simp only[hxi] at TZ SU
 refine aj (cz 4 (r:=ax) (ys:=[]) (aP aO (Np _)) ?_)
 change WS _ _ [.ob (bM a bt (ba ns k c)),ao (4 - (n:Int)),ao loops,bQ calls,.mu ax [],.no,.no] _ _
 have m0:=Lz (QZ ns (k + 1)) (show(4:Int)≠0 by decide)
 have m1:=Ly (QZ ns (k + 1)) (show(0:Int) < 4 by decide)
 have UK:decide (4 - (n:Int)=0)=tp:=by rw[← htp];exact decide_eq_decide.mpr ⟨λh=>by omega,λh=>by omega⟩
 have VN:(QZ ns (k + 1) % 4 + 2 * (if decide (4 - (n:Int)=0)=true then 1 else 0)).toNat=ef ns tp k:=by rw[UK];rfl
 have hb2:0<=(if decide (4 - (n:Int)=0)=true then(1:Int) else 0)/\(if decide (4 - (n:Int)=0)=true then(1:Int) else 0)<=1:=by split<;>decide
 refine aj (cC (r:=af) (λi Γ=>∃e5 e6,Γ=[.ob (bM a bt (ba ns (x i).2.1 (x i).2.2)),ao (4 - (n:Int)),ao loops,bQ calls,.mu ax (br (x i).1),e5,e6]) (cV M.range (bK (bN (d6 0 (st:=ba ns (k + 1) c) (z:=QZ ns (k + 1)) CP hr aw rfl ⟨ns,k,c,rfl,rfl,hp.s,k0,by omega,rfl⟩) ev_int (by decide)) (yk ev_int (uo M.int (dN fD (aa 1 rfl) ev_int)) (.inl (by decide)))) ⟨by omega,by omega⟩) (aY 5) ⟨_,_,by rw[hx0];rfl⟩ (λi j Γ hj hΓ=>?_) (λΓ hΓ=>?_))
 ·obtain⟨e5,e6,rfl⟩:=hΓ
  have il:=(dY hj).1
  rw[VN] at il
  obtain⟨rd,⟨rc,rc0⟩,⟨rk0,rk1⟩,rll⟩:=TZ i
  have hmul:bT n * i<=bT n * 4:=Nat.mul_le_mul_left _ (by omega)
  have hs:=hxs i
  generalize x i=xi at rd rc rc0 rk0 rk1 rll hs
  obtain⟨QX,kk,cc⟩:=xi
  dsimp only at rd rc rc0 rk0 rk1 rll ⊢
  change WS _ _ [.ob (bM a bt (ba ns kk cc)),ao (4 - (n:Int)),ao loops,bQ calls,.mu ax (br QX),ao j,e6] _ _
  have rkk:kk + (bT n:Int)<=900000:=by push_cast at rk1;omega
  refine ak (bq (TW.tv (cK (ay fb (EV.mx (fk 0 ev_int rfl (y:=(Sum.inr cc:Lh ⊕ Int)) rfl)) ev_int) (λ_=>du (TV.So (x8 (i:=4) rfl (aD (by rw[dW];omega))) (dG (aE CA hr (ag (aa 4 rfl) aw) ⟨QX,rfl,by omega,rfl⟩)))))) (λh=>?_) (λh=>aN ?_))
  ·have h:0 < cc/\cS QX=true:=by simpa using h
   have ht:=A8 ns calls n loops (kk,cc) h.1
   have e1:gz ns calls (da ns calls n) tp loops (QX,kk,cc)=if tp=true/\QX.length=0/\mT (Rn ns calls (da ns calls n) loops (kk,cc)).1=true then(QX++[.RL "back"],((Rn ns calls (da ns calls n) loops (kk,cc)).2.1,(Rn ns calls (da ns calls n) loops (kk,cc)).2.2 - 1)) else(QX++[(Rn ns calls (da ns calls n) loops (kk,cc)).1],(Rn ns calls (da ns calls n) loops (kk,cc)).2):=if_pos h
   refine aj (aU 6 (d6 0 (st:=ba ns (Rn ns calls (da ns calls n) loops (kk,cc)).2.1 (Rn ns calls (da ns calls n) loops (kk,cc)).2.2) (z:=eI (Rn ns calls (da ns calls n) loops (kk,cc)).1) CT hr (ag (aa 1 rfl) (ag (aa 2 rfl) (ag (aa 3 rfl) aw))) rfl ⟨ns,calls,kk,cc,loops,rfl,rfl,⟨hp.s,by omega,rkk,by omega,by omega,hp.l,n4⟩,h.1,rfl⟩) ?_)
   generalize Rn ns calls (da ns calls n) loops (kk,cc)=r at ht e1
   obtain⟨tt,kr,cr⟩:=r
   dsimp only at e1 ⊢
   change WS _ _ [.ob (bM a bt (ba ns kr cr)),ao (4 - (n:Int)),ao loops,bQ calls,.mu ax (br QX),ao j,.im ax (eI tt)] _ _
   refine bL (N1:=λΓ=>∃t' c',Γ=[.ob (bM a bt (ba ns kr c')),ao (4 - (n:Int)),ao loops,bQ calls,.mu ax (br QX),ao j,.im ax (eI t')]/\gz ns calls (da ns calls n) tp loops (QX,kk,cc)=(QX++[t'],(kr,c'))) (bq (TW.tv (cK (ay fD (aa 1 rfl) ev_int) (λ_=>cK (ay fD (oE 4 M.len rfl) ev_int) (λ_=>du (ay cb (g0 (aa 6 rfl)) aA))))) (λh=>?_) (λh=>aN ⟨tt,cr,rfl,?_⟩)) ?_
   ·have h:tp=true/\QX.length=0/\mT tt=true:=by
     rw[UK,dW] at h
     rw[tZ]
     simpa using h
    refine aj (fT 0 (j:=2) (EV.inr (fL (EV.mx (fk 0 ev_int rfl (y:=(Sum.inr cr:Lh ⊕ Int)) rfl)) ev_int)) ev_int rfl rfl rfl ?_)
    change WS _ _ [.ob (bM a bt (ba ns kr (cr - 1))),ao (4 - (n:Int)),ao loops,bQ calls,.mu ax (br QX),ao j,.im ax (eI tt)] _ _
    refine ak (aU 6 (y:=eI (.RL "back")) (EV.cast (y:=.lst (hV (.RL "back"))) (EV.pL (aW.im (aP (r:=ax) (av (EV.pS aA) (av (EV.pS aA) aO)) (by show 2<=N7;decide)))) (g7 _).symm) ⟨.RL "back",cr - 1,rfl,?_⟩)
    rw[e1,if_pos h]
   ·have h:¬(tp=true/\QX.length=0/\mT tt=true):=by
     rw[UK,dW] at h
     rw[tZ]
     simpa using h
    rw[e1,if_neg h]
   rintro _ ⟨t',c',rfl,e2⟩
   refine ak (eh 4 (aa 6 rfl) rfl rfl (Nr (show _<=10 by rw[dW];omega) (by decide)) ⟨ao j,.im ax (eI t'),?_⟩)
   rw[hs,e2,BI,br,br]
   rfl
  ·have h:¬(0 < cc/\cS QX=true):=by simpa using h
   refine⟨ao j,e6,?_⟩
   rw[hs,show gz ns calls (da ns calls n) tp loops (QX,kk,cc)=(QX,kk,cc) from if_neg h]
 ·obtain⟨e5,e6,rfl⟩:=hΓ
  rw[a8,VN]
  exact SU e5 e6
theorem xO (M:bY K mg)(CP:aI P w K mg base "_law_pull" 2 (eE bt rE K))(CA:aI P w K mg base "_law_passes" 6 (aK (xg 5) K)){n:Nat}(CT:aI P w K mg base "_law_thing" (2 * n + 7) (eE bt (AZ n) K))(F:bD K "_law_list" "_law_list" lQ f fd)(hm:mg "_law_list"=some (.ref f))(hb:Binds K fd qw []):aI P w K mg base "_law_list" (2 * n + 8) (eE bt (D3 n) K):=by
 have nd:=rG.nd
 refine nN (k:=2 * n + 7) F rG hm hb (λxs qs T ⟨_,_,_,_,_,_,e,_⟩=>by rw[e];rfl) (λQ2 A outer s H E a xs qs T hr hS=>?_)
 obtain⟨ns,calls,k,c,loops,rfl,rfl,hp,rfl⟩:=hS
 refine ls_run M CP CA CT hr hp λe5 e6=>?_
 have g:=g6 ns calls n (decide (n=4)) loops (k,c) hp.c0
 refine WS.freeze 4 rfl (aD (by rw[dW];exact Nn g.l (by decide))) ?_
 exact ak (hX 0 (aa 4 rfl) rfl ⟨rfl,rfl⟩)
theorem Bt (M:bY K mg)(CP:aI P w K mg base "_law_pull" 2 (eE bt rE K))(CN:aI P w K mg base "_law_name" 1 (aK Bu K))(CA:aI P w K mg base "_law_passes" 6 (aK (xg 5) K)){f2:Addr}{fd2:Og}(F:bD K "_law_list" "_law_list" lQ f fd)(hm:mg "_law_list"=some (.ref f))(hb:Binds K fd qw [])(F2:bD K "_law_thing" "_law_thing" xl f2 fd2)(Tz:mg "_law_thing"=some (.ref f2))(hb2:Binds K fd2 qw []):∀n,aI P w K mg base "_law_list" (2 * n + 8) (eE bt (D3 n) K)
 | 0=>xO M CP CA (wj M CP CN 0 (λm h=>absurd h (by omega)) F2 Tz hb2) F hm hb
 | n + 1=>xO M CP CA (wj M CP CN (n + 1) (λm h=>by cases h;exact Bt M CP CN CA F hm hb F2 Tz hb2 n) F2 Tz hb2) F hm hb
def JQ:jO (Lh ⊕ Int):=λK xs ps T=>∃(ns calls:Lh) (k c:Int),xs=ba ns k c/\ps=FQ 4 0 calls/\kn ns calls 4 (jf 4) k c/\T=λxs'=>pA K ax λys=>xs'=ba ns (Rb ns calls 4 true 0 (k,c)).2.1 (Rb ns calls 4 true 0 (k,c)).2.2/\ys=br (Rb ns calls 4 true 0 (k,c)).1
theorem IJ (M:bY K mg)(CP:aI P w K mg base "_law_pull" 2 (eE bt rE K))(CA:aI P w K mg base "_law_passes" 6 (aK (xg 5) K))(CT:aI P w K mg base "_law_thing" 15 (eE bt (AZ 4) K))(F:bD K "_law_list" "_law_list" lQ f fd)(hm:mg "_law_list"=some (.ref f))(hb:Binds K fd qw []):aI P w K mg base "_law_list" 16 (eE bt JQ K):=by
 have nd:=rG.nd
 refine nN (k:=15) F rG hm hb (λxs qs T ⟨_,_,_,_,_,e,_⟩=>by rw[e];rfl) (λQ2 A outer s H E a xs qs T hr hS=>?_)
 obtain⟨ns,calls,k,c,rfl,rfl,hp,rfl⟩:=hS
 refine ls_run (n:=4) M CP CA CT hr hp λe5 e6=>?_
 have g:=g6 ns calls 4 true 0 (k,c) hp.c0
 exact ak (CK 0 4 rfl rfl (aD (by rw[dW];exact Nn g.l (by decide))) ⟨rfl,rfl⟩)
end
section
variable {x:Str}
def ir (names:Li)(x c:Str):Str:=if x∈names then fR x++c else x
abbrev jB:Str:="qwer"
def qy (names:Li)(x:Str):Str:=(fW jB).foldl (ir names) x
def cO (ns:Lh)(s:Int):Nat->Li
 | 0=>[]
 | i + 1=>cO ns s i++[qy (cO ns s i) (Q6 (QZ ns (s + 2 + (i:Int))))]
def RJ (ns:Lh)(s:Int):Int:=1 + QZ ns (s + 1) % 4
def cP (m:Int):Int:=([14,12,8,6]:Lh).getD (m - 1).toNat 0
def eB (i:Nat)(m:Int):Lh:=ups ((i:Int) + 1) (m - ((i:Int) + 1)).toNat
def Q8 (ns:Lh)(m k:Int):Nat->List (List Th)×Int
 | 0=>([],k)
 | i + 1=>((Q8 ns m k i).1++[(Rb ns (eB i m) 4 true 0 ((Q8 ns m k i).2,cP m)).1],(Rb ns (eB i m) 4 true 0 ((Q8 ns m k i).2,cP m)).2.1)
def Tt (ns:Lh)(k:Int)(j:Nat):Nat:=(QZ ns (k + 1) % (j:Int)).toNat
def mN (ns:Lh)(x:List (List Th)×Int)(j:Nat):List (List Th)×Int:=
 (x.1.set (Tt ns x.2 j) (cj (QZ ns (x.2 + 2) % ((x.1.getD (Tt ns x.2 j) []).length:Int)).toNat (.call (j:Int)) (x.1.getD (Tt ns x.2 j) [])),x.2 + 2)
def Rr (ns:Lh)(x:List (List Th)×Int):Nat->List (List Th)×Int
 | 0=>x
 | i + 1=>mN ns (Rr ns x i) (i + 1)
def RU (ns:Lh)(s:Int):Li:=cO ns s (RJ ns s).toNat
def Sg (ns:Lh)(s:Int):List (List Th):=(Rr ns (Q8 ns (RJ ns s) (s + 1 + RJ ns s) (RJ ns s).toNat) (RJ ns s - 1).toNat).1
theorem uM (ns:Lh)(s:Int):1<=RJ ns s/\RJ ns s<=4:=by
 unfold RJ
 have:=Lz (QZ ns (s + 1)) (show(4:Int)≠0 by decide)
 have:=Ly (QZ ns (s + 1)) (show(0:Int) < 4 by decide)
 omega
theorem xf {m:Int}(h1:1<=m)(h4:m<=4):6<=cP m/\cP m<=14:=by
 have:∀j:Fin 4,6<=([14,12,8,6]:Lh).getD j.val 0/\([14,12,8,6]:Lh).getD j.val 0<=14:=by decide
 exact this ⟨(m - 1).toNat,by omega⟩
theorem qx (x:Str):(fR x).length<=7:=by
 unfold fR
 show(List.take 7 x.cps.toList).toArray.size<=7
 rw[LQ,L0];omega
theorem zq {c:Nat}(h:c∈(fR x).cps.toList):c∈x.cps.toList:=by
 unfold fR at h
 have:c∈List.take 7 x.cps.toList:=by simpa using h
 exact MW this
theorem oZ {c:Str}(h:c∈fW jB):cn c/\c.length=1:=by
 have:∀c∈fW jB,((1<=c.length/\c.length<=8)/\∀d∈c.cps.toList,97<=d/\d<=122)/\c.length=1:=by decide +kernel
 obtain⟨⟨⟨a,b⟩,d⟩,e⟩:=this c h
 exact⟨⟨a,b,d⟩,e⟩
theorem Fz {names:Li}{c:Str}(hx:cn x)(hc:cn c/\c.length=1):cn (ir names x c):=by
 unfold ir
 split
 ·refine⟨?_,?_,λd hd=>?_⟩
  ·rw[len_app,hc.2];omega
  ·rw[len_app,hc.2];have:=qx x;omega
  ·rcases oM hd with z | z
   ·exact hx.az d (zq z)
   ·exact hc.1.az d z
 ·exact hx
theorem kW {names:Li}:∀{cs:Li} {x:Str},cn x->(∀c∈cs,cn c/\c.length=1)->cn (cs.foldl (ir names) x)
 | [],_,hx,_=>hx
 | c::cs,x,hx,h=>kW (cs:=cs) (x:=ir names x c) (Fz hx (h c LP)) λd hd=>h d (LN _ hd)
theorem Ec {names:Li}(hx:cn x):cn (qy names x):=kW hx λc hc=>oZ hc
theorem jL (ns:Lh)(s:Int):∀i,(cO ns s i).length=i
 | 0=>rfl
 | i + 1=>by rw[cO,LL,jL ns s i];rfl
theorem wZ (ns:Lh)(s:Int):∀i,∀x∈cO ns s i,cn x
 | 0,x,h=>by cases h
 | i + 1,x,h=>by
   rw[cO] at h
   rcases LW.mp h with z | z
   ·exact wZ ns s i x z
   ·rw[LH.mp z];exact Ec (gO _)
theorem jX (ns:Lh)(m k:Int):∀i,(Q8 ns m k i).1.length=i
 | 0=>rfl
 | i + 1=>by rw[Q8,LL,jX ns m k i];rfl
theorem Ko:jf 4=177776:=rfl
theorem AD (ns:Lh)(m k:Int)(hb:0<=cP m):∀i:Nat,k<=(Q8 ns m k i).2/\(Q8 ns m k i).2<=k + 177776 * (i:Int)
 | 0=>⟨LA _,by show k<=_;omega⟩
 | i + 1=>by
   obtain⟨a,b⟩:=AD ns m k hb i
   obtain⟨c,d⟩:=(g6 ns (eB i m) 4 true 0 ((Q8 ns m k i).2,cP m) hb).k
   rw[Ko] at d
   dsimp only at c d
   rw[Q8]
   dsimp only
   exact⟨by omega,by push_cast;omega⟩
theorem Fq (ns calls:Lh)(c k:Int)(hc:0 < c):0 < (Rb ns calls 4 true 0 (k,c)).1.length:=by
 rw[j4]
 have hm:2<=ef ns true k:=by
  unfold ef
  have:=Lz (QZ ns (k + 1)) (show(4:Int)≠0 by decide)
  simp;omega
 have key:∀(f:List Th×Pn->List Th×Pn) (x:List Th×Pn),(∀y,y.1.length<=(f y).1.length)->0 < (f x).1.length->∀m,1<=m->0 < (Rm f m x).1.length:=by
  intro f x h1 h2 m
  induction m with
  | zero=>intro h;omega
  | succ m ih=>
    intro _
    rw[Rm]
    cases m with
    | zero=>exact h2
    | succ m=>exact Nq (ih (by omega)) (h1 _)
 refine key _ _ (λy=>?_) ?_ _ (show 1<=ef ns true k by omega)
 ·unfold gz
  split
  ·split<;>simp
  ·exact Nm _
 ·unfold gz
  rw[if_pos ⟨hc,by simp[cS]⟩]
  split<;>simp
theorem wU (ns:Lh)(m k:Int)(hb:0 < cP m):∀i,∀L∈(Q8 ns m k i).1,0 < L.length/\L.length<=5
 | 0,L,h=>by cases h
 | i + 1,L,h=>by
   rw[Q8] at h
   rcases LW.mp h with z | z
   ·exact wU ns m k hb i L z
   ·rw[LH.mp z]
    exact⟨Fq ns _ _ _ hb,(g6 ns (eB i m) 4 true 0 ((Q8 ns m k i).2,cP m) (Int.le_of_lt hb)).l⟩
theorem wL {α:Type}(k:Nat)(y:α)(xs:List α):(cj k y xs).length=xs.length + 1:=by
 unfold cj
 rw[LL,LR,L0,MI];omega
theorem mem_set {α:Type}{l:List α}{i:Nat}{x y:α}(h:y∈l.set i x):y∈l∨y=x:=List.mem_or_eq_of_mem_set h
theorem uU (ns:Lh)(x:List (List Th)×Int)(hx:∀L∈x.1,0 < L.length/\L.length<=5):∀i,(Rr ns x i).1.length=x.1.length/\(Rr ns x i).2=x.2 + 2 * (i:Int)/\∀L∈(Rr ns x i).1,0 < L.length/\L.length<=5 + i
 | 0=>⟨rfl,by show x.2=_;omega,λL h=>⟨(hx L h).1,(hx L h).2⟩⟩
 | i + 1=>by
   obtain⟨a,b,c⟩:=uU ns x hx i
   rw[Rr]
   refine⟨by unfold mN;dsimp only;rw[Ml];exact a,by unfold mN;dsimp only;rw[b];push_cast;omega,λL h=>?_⟩
   unfold mN at h
   dsimp only at h
   rcases mem_set h with z | z
   ·have:=c L z;omega
   ·rw[z,wL]
    generalize hn:Tt ns (Rr ns x i).2 (i + 1)=n
    refine⟨by omega,?_⟩
    rw[LG]
    cases e:(Rr ns x i).1[n]? with
    | none=>show 0 + 1<=_;omega
    | some L'=>
      have:=(c L' (LO e)).2
      show L'.length + 1<=_
      omega
end
section
abbrev A0:Stmt:=top pZ
abbrev nDR:Li:=["_law_script","_law_start","_law_pen","_law_many","_law_names","_law_k","_law_name_here","_law_letter","_law_lists","_law_items"]
theorem G4:aH nDR ["_law_script","_law_start"] (ai A0):=Rp
def JE:cQ:=λK ps T=>∃(ns:Lh) (s:Int),ps=[⟨bu,ns⟩,⟨af,s⟩]/\ur ns/\0<=s/\s<=1000/\T=cg K (dB (ae ah) (ae (ae ax))) (· =(RU ns s,(Sg ns s).map br))
theorem GG {K:QA}{R:Hp}{vs:List V}{ns:Lh}{k c:Int}{ts:List Th}(h1:PySem.Paired (bt.R K R) vs (ba ns k c))(h2:PySem.Paired (ax.R K R) vs (br ts)):False:=by
 cases h1 with
 | cons a1 t1=>cases t1 with
   | cons a2 t2=>
     have e2:_=V.int k:=a2
     subst e2
     cases ts with
     | nil=>rw[br] at h2;cases h2
     | cons x ts=>rw[br] at h2;cases h2 with
       | cons b1 u1=>cases ts with
         | nil=>rw[br] at u1;cases u1
         | cons y ts=>rw[br] at u1;cases u1 with
           | cons b2 u2=>
             have b2:dO R (.int k) (eI y):=b2
             rw[g7] at b2
             cases b2
theorem HR (M:bY K mg)(CP:aI P w K mg base "_law_pull" 2 (eE bt rE K))(CN:aI P w K mg base "_law_name" 1 (aK Bu K))(CL:aI P w K mg base "_law_list" 16 (eE bt JQ K))(F:bD K "_law_drawn" "_law_drawn" A0 f fd)(hm:mg "_law_drawn"=some (.ref f))(hb:Binds K fd ["_law_script","_law_start"] []):aI P w K mg base "_law_drawn" 17 (aK JE K):=by
 have nd:=G4.nd
 have CP:=CP.mono (show 2<=16 by decide)
 have CN:=CN.mono (show 1<=16 by decide)
 refine bw (k:=16) F G4 hm hb (λqs T ⟨_,_,e,_⟩=>by rw[e];rfl) (λQ2 A outer st H E qs T hr hS=>?_)
 obtain⟨ns,s,rfl,hs,s0,s1,rfl⟩:=hS
 obtain⟨m1,m4⟩:=uM ns s
 change WS _ _ [.im bu ns,ao s,.no,.no,.no,.no,.no,.no,.no,.no] _ _
 refine aj (cz 2 (r:=bt) (ys:=ba ns s 0) (aP (av (EV.inl (aa 0 rfl)) (av (EV.inr (aa 1 rfl)) (av (EV.inr ev_int) aO))) (by show 3<=N7;decide)) ?_)
 change WS _ _ [.im bu ns,ao s,.mu bt (ba ns s 0),.no,.no,.no,.no,.no,.no,.no] _ _
 refine aj (aU 3 (y:=RJ ns s) (bK ev_int (bN (gQ 2 (st:=ba ns (s + 1) 0) (z:=QZ ns (s + 1)) CP hr aw rfl rfl ⟨ns,s,0,rfl,rfl,hs,s0,by omega,rfl⟩) ev_int (by decide))) ?_)
 generalize hM:RJ ns s=m at m1 m4
 change WS _ _ [.im bu ns,ao s,.mu bt (ba ns (s + 1) 0),ao m,.no,.no,.no,.no,.no,.no] _ _
 refine aj (cz 4 (r:=ah) (ys:=[]) (aP aO (Np _)) ?_)
 refine bL (N1:=λΓ=>∃e5 e6 e7,Γ=[.im bu ns,ao s,.mu bt (ba ns (s + 1 + m) 0),ao m,.mu ah (RU ns s),e5,e6,e7,.no,.no]) (cC (λi Γ=>∃e5 e6 e7,Γ=[.im bu ns,ao s,.mu bt (ba ns (s + 1 + (i:Int)) 0),ao m,.mu ah (cO ns s i),e5,e6,e7,.no,.no]) (cV M.range (aa 3 rfl) ⟨by omega,by omega⟩) (aY 5) ⟨_,_,_,by rw[show s + 1 + ((0:Nat):Int)=s + 1 from Int.add_zero _];rfl⟩ (λi j Γ hj hΓ=>?_) (λΓ hΓ=>?_)) ?_
 ·obtain⟨e5,e6,e7,rfl⟩:=hΓ
  obtain⟨jl,ej⟩:=dY hj
  obtain rfl:j=(i:Int):=by omega
  have b:=iJ ns (s + 1 + (i:Int) + 1)
  change WS _ _ [.im bu ns,ao s,.mu bt (ba ns (s + 1 + (i:Int)) 0),ao m,.mu ah (cO ns s i),ao (i:Int),e6,e7,.no,.no] _ _
  refine aj (aU 6 (y:=Q6 (QZ ns (s + 1 + (i:Int) + 1))) (aE CN hr (ag (gQ 2 (st:=ba ns (s + 1 + (i:Int) + 1) 0) (z:=QZ ns (s + 1 + (i:Int) + 1)) CP hr aw rfl rfl ⟨ns,_,0,rfl,rfl,hs,by omega,by omega,rfl⟩) aw) ⟨_,rfl,b.1,b.2,rfl⟩) ?_)
  have hx:=gO (QZ ns (s + 1 + (i:Int) + 1))
  have he:s + 1 + (i:Int) + 1=s + 2 + (i:Int):=by omega
  have Uo:cO ns s (i + 1)=cO ns s i++[qy (cO ns s i) (Q6 (QZ ns (s + 1 + (i:Int) + 1)))]:=by rw[cO,he]
  generalize Q6 (QZ ns (s + 1 + (i:Int) + 1))=x at hx Uo
  have hlen:=jL ns s i
  change WS _ _ [.im bu ns,ao s,.mu bt (ba ns (s + 1 + (i:Int) + 1) 0),ao m,.mu ah (cO ns s i),ao (i:Int),.im ah x,e7,.no,.no] _ _
  have VX:∀n,cn (((fW jB).take n).foldl (ir (cO ns s i)) x):=λn=>kW hx λc hc=>oZ (MW hc)
  refine bL (N1:=λΓ=>∃e7,Γ=[.im bu ns,ao s,.mu bt (ba ns (s + 1 + (i:Int) + 1) 0),ao m,.mu ah (cO ns s i),ao (i:Int),.im ah (qy (cO ns s i) x),e7,.no,.no]) (cC (λn Γ=>∃e7,Γ=[.im bu ns,ao s,.mu bt (ba ns (s + 1 + (i:Int) + 1) 0),ao m,.mu ah (cO ns s i),ao (i:Int),.im ah (((fW jB).take n).foldl (ir (cO ns s i)) x),e7,.no,.no]) (xP (x:=jB) aA (by decide +kernel) (by decide +kernel)) (aY 7) ⟨_,rfl⟩ (λn c Γ hc hΓ=>?_) (λΓ hΓ=>?_)) ?_
  ·obtain⟨e7,rfl⟩:=hΓ
   have hf:=VX n
   have R7:((fW jB).take (n + 1)).foldl (ir (cO ns s i)) x=ir (cO ns s i) (((fW jB).take n).foldl (ir (cO ns s i)) x) c:=by
    rw[Mm,hc,MO];rfl
   rw[R7]
   generalize ((fW jB).take n).foldl (ir (cO ns s i)) x=z at hf
   have cl:=(oZ (LO hc)).2
   change WS _ _ [.im bu ns,ao s,.mu bt (ba ns (s + 1 + (i:Int) + 1) 0),ao m,.mu ah (cO ns s i),ao (i:Int),.im ah z,.im ah c,.no,.no] _ _
   refine ak (bq (TV.So (x8 (i:=4) rfl (aD (by rw[hlen];omega))) (ay sO (aa 6 rfl) (aa 4 rfl))) (λh=>?_) (λh=>aN ⟨.im ah c,?_⟩))
   ·have h:z∈cO ns s i:=of_decide_eq_true h
    refine ak (aU 6 (y:=ir (cO ns s i) z c) (EV.cast (o9 (Ek (aa 6 rfl) hf.l8) (aa 7 rfl) (Nn (show _<=8 by have:=qx z;omega) (by decide))) (by unfold ir;rw[if_pos h])) ⟨.im ah c,rfl⟩)
   ·have h:¬z∈cO ns s i:=of_decide_eq_false h
    unfold ir;rw[if_neg h]
  ·obtain⟨e7,rfl⟩:=hΓ
   refine⟨e7,?_⟩
   rw[Mn];rfl
  rintro _ ⟨e7,rfl⟩
  refine ak (eh 4 (aa 6 rfl) rfl rfl (Nr (show _<=10 by rw[hlen];omega) (by decide)) ⟨ao (i:Int),.im ah (qy (cO ns s i) x),e7,?_⟩)
  rw[Uo,show s + 1 + ((i + 1:Nat):Int)=s + 1 + (i:Int) + 1 by push_cast;omega]
  rfl
 ·obtain⟨e5,e6,e7,rfl⟩:=hΓ
  rw[a8]
  refine⟨e5,e6,e7,?_⟩
  unfold RU
  rw[hM,show((m.toNat:Nat):Int)=m by omega]
 rintro _ ⟨e5,e6,e7,rfl⟩
 have hdN:(RU ns s).length<=4:=by unfold RU;rw[jL,hM];omega
 generalize hdn:RU ns s=dn at hdN
 obtain⟨b6,b14⟩:=xf m1 m4
 refine aj (cz 8 (r:=ax) (ys:=[]) (aP aO (Np _)) ?_)
 refine WS.Iq 8 (r:=ax) (rr:=ax) rfl λa=>?_
 change WS _ _ [.im bu ns,ao s,.mu bt (ba ns (s + 1 + m) 0),ao m,.mu ah dn,e5,e6,e7,.ob (dk ax a [] []),.no] _ _
 have kb:=AD ns m (s + 1 + m) (by omega)
 refine bL (N1:=λΓ=>∃e5 c as,Γ=[.im bu ns,ao s,.mu bt (ba ns (Q8 ns m (s + 1 + m) m.toNat).2 c),ao m,.mu ah dn,e5,e6,e7,.ob (dk ax a as ((Q8 ns m (s + 1 + m) m.toNat).1.map br)),.no]) (cC (λi Γ=>∃e5 c as,Γ=[.im bu ns,ao s,.mu bt (ba ns (Q8 ns m (s + 1 + m) i).2 c),ao m,.mu ah dn,e5,e6,e7,.ob (dk ax a as ((Q8 ns m (s + 1 + m) i).1.map br)),.no]) (cV M.range (aa 3 rfl) ⟨by omega,by omega⟩) (aY 5) ⟨_,_,_,rfl⟩ (λi j Γ hj hΓ=>?_) (λΓ hΓ=>?_)) ?_
 ·obtain⟨e5,c,as,rfl⟩:=hΓ
  obtain⟨jl,ej⟩:=dY hj
  obtain rfl:j=(i:Int):=by omega
  obtain⟨k0,k1⟩:=kb i
  have hl:=jX ns m (s + 1 + m) i
  have Si:Q8 ns m (s + 1 + m) (i + 1)=((Q8 ns m (s + 1 + m) i).1++[(Rb ns (eB i m) 4 true 0 ((Q8 ns m (s + 1 + m) i).2,cP m)).1],(Rb ns (eB i m) 4 true 0 ((Q8 ns m (s + 1 + m) i).2,cP m)).2.1):=rfl
  generalize Q8 ns m (s + 1 + m) i=x at k0 k1 hl Si
  rw[Si]
  obtain⟨Ls,k⟩:=x
  dsimp only at k0 k1 hl ⊢
  change WS _ _ [.im bu ns,ao s,.mu bt (ba ns k c),ao m,.mu ah dn,ao (i:Int),e6,e7,.ob (dk ax a as (Ls.map br)),.no] _ _
  have hbud:bV ([14,12,8,6]:Lh) (m - 1)=some (cP m):=aQ 0 (by omega) (by show m - 1 < ((4:Nat):Int);omega)
  refine aj (va 2 (j:=2) (EV.inr (aZ (aW.im (aP (r:=af) (av ev_int (av ev_int (av ev_int (av ev_int aO)))) (by show 4<=N7;decide))) (fL (aa 3 rfl) ev_int) hbud)) ev_int rfl rfl rfl ?_)
  change WS _ _ [.im bu ns,ao s,.mu bt (ba ns k (cP m)),ao m,.mu ah dn,ao (i:Int),e6,e7,.ob (dk ax a as (Ls.map br)),.no] _ _
  have T4:(eB i m).length<=100:=by unfold eB;rw[a8];omega
  refine ak (wd 8 (ys:=br (Rb ns (eB i m) 4 true 0 (k,cP m)).1) (w9 2 (st:=ba ns (Rb ns (eB i m) 4 true 0 (k,cP m)).2.1 (Rb ns (eB i m) 4 true 0 (k,cP m)).2.2) CL hr (ag ev_int (ag ev_int (ag (aW.im (oU M.list M.range (ag (bK (aa 5 rfl) ev_int) (ag (aa 3 rfl) aw)) ⟨by omega,by omega⟩ ⟨by omega,by omega⟩)) aw))) rfl rfl ⟨ns,eB i m,k,cP m,rfl,rfl,⟨hs,by omega,show k + ((177776:Nat):Int)<=900000 by omega,by omega,by omega,T4,by decide⟩,rfl⟩ (λR vs h1 h2=>GG h1 h2)) rfl rfl (Nr (show _<=10 by rw[LJ,hl];omega) (by decide)) λb=>⟨ao (i:Int),(Rb ns (eB i m) 4 true 0 (k,cP m)).2.2,as++[b],?_⟩)
  rw[L5]
  rfl
 ·obtain⟨e5,c,as,rfl⟩:=hΓ
  rw[a8]
  exact⟨e5,c,as,rfl⟩
 rintro _ ⟨e5,c,as,rfl⟩
 have Q7:=wU ns m (s + 1 + m) (by omega) m.toNat
 have hxl:=jX ns m (s + 1 + m) m.toNat
 obtain⟨k0,k1⟩:=kb m.toNat
 have UX:Sg ns s=(Rr ns (Q8 ns m (s + 1 + m) m.toNat) (m - 1).toNat).1:=by unfold Sg;rw[hM]
 generalize Q8 ns m (s + 1 + m) m.toNat=x at Q7 hxl k0 k1 UX
 have hinv:=uU ns x Q7
 refine bL (N1:=λΓ=>∃e5 e9 k as,Γ=[.im bu ns,ao s,.mu bt (ba ns k c),ao m,.mu ah dn,e5,e6,e7,.ob (dk ax a as ((Sg ns s).map br)),e9]) (cC (λi Γ=>∃e5 e9 as,Γ=[.im bu ns,ao s,.mu bt (ba ns (Rr ns x i).2 c),ao m,.mu ah dn,e5,e6,e7,.ob (dk ax a as ((Rr ns x i).1.map br)),e9]) (wF M.range ev_int (aa 3 rfl) ⟨by omega,by omega,by omega,by omega⟩) (aY 5) ⟨_,_,_,rfl⟩ (λi j Γ hj hΓ=>?_) (λΓ hΓ=>?_)) ?_
 ·obtain⟨e5,e9,as,rfl⟩:=hΓ
  obtain⟨jl,ej⟩:=dY hj
  obtain rfl:j=((i + 1:Nat):Int):=by push_cast;omega
  obtain⟨i1,i2,i3⟩:=hinv i
  have Si:Rr ns x (i + 1)=mN ns (Rr ns x i) (i + 1):=rfl
  rw[Si]
  generalize Rr ns x i=y at i1 i2 i3
  obtain⟨Ls,k⟩:=y
  dsimp only at i1 i2 i3
  unfold mN
  dsimp only
  change WS _ _ [.im bu ns,ao s,.mu bt (ba ns k c),ao m,.mu ah dn,ao ((i + 1:Nat):Int),e6,e7,.ob (dk ax a as (Ls.map br)),e9] _ _
  have q0:=Lz (QZ ns (k + 1)) (show((i + 1:Nat):Int)≠0 by omega)
  have q1:=Ly (QZ ns (k + 1)) (show(0:Int) < ((i + 1:Nat):Int) by omega)
  have RQ:Tt ns k (i + 1) < Ls.length:=by unfold Tt;omega
  have hix:eD (Ls.map br).length (QZ ns (k + 1) % ((i + 1:Nat):Int))=some (Tt ns k (i + 1)):=rS q0 (by rw[LJ];omega)
  refine aj (BF 8 9 (bN (gQ 2 (st:=ba ns (k + 1) c) (z:=QZ ns (k + 1)) CP hr aw rfl rfl ⟨ns,k,c,rfl,rfl,hs,by omega,by omega,rfl⟩) (aa 5 rfl) (by omega)) rfl rfl hix λb hb=>?_)
  generalize Tt ns k (i + 1)=n at RQ hb
  change WS _ _ [.im bu ns,ao s,.mu bt (ba ns (k + 1) c),ao m,.mu ah dn,ao ((i + 1:Nat):Int),e6,e7,.ob (dk ax a as (Ls.map br)),.im oq b] _ _
  have hL:Ls[n]?=some (Ls.getD n []):=by rw[LG,LD RQ];rfl
  obtain⟨l0,l5⟩:=i3 _ (LO hL)
  generalize Ls.getD n []=L at hL l0 l5
  have hLm:(Ls.map br)[n]?=some (br L):=by rw[LM,hL];rfl
  have TB:((br L).length:Int)=(L.length:Int):=by rw[dW]
  have r0:=Lz (QZ ns (k + 2)) (show(L.length:Int)≠0 by omega)
  have r1:=Ly (QZ ns (k + 2)) (show(0:Int) < (L.length:Int) by omega)
  have e3:k + 1 + 1=k + 2:=by omega
  refine ak (Cp 8 9 (k:=QZ ns (k + 2) % (L.length:Int)) (y:=eI (.call ((i + 1:Nat):Int))) (bN (gQ 2 (st:=ba ns (k + 2) c) (z:=QZ ns (k + 2)) CP hr aw rfl rfl ⟨ns,k + 1,c,rfl,rfl,hs,by omega,by omega,by rw[e3]⟩) (EV.cast (Aq 8 9 M.len rfl rfl hb hLm) TB) (by omega)) (EV.cast (y:=.lst (hV (.call ((i + 1:Nat):Int)))) (EV.pL (aW.im (aP (r:=ax) (av (EV.pS aA) (av (EV.pI (aa 5 rfl)) aO)) (by show 2<=N7;decide)))) (g7 _).symm) rfl rfl hb rfl hLm r0 (by rw[dW];omega) (Nr (show _<=20 by rw[dW];omega) (by decide)) ⟨ao ((i + 1:Nat):Int),.im oq b,as,?_⟩)
  rw[List.map_set,eM (cj _ _ _),yf,← eM]
  rfl
 ·obtain⟨e5,e9,as,rfl⟩:=hΓ
  rw[a8]
  exact⟨e5,e9,_,as,by rw[UX]⟩
 rintro _ ⟨e5,e9,k,as,rfl⟩
 obtain⟨i1,i2,i3⟩:=hinv (m - 1).toNat
 rw[← UX] at i1 i3
 refine WS.freeze 4 rfl (aD (by omega)) ?_
 refine WS.HF 8 rfl (aD (by rw[LJ];omega)) (λxs hxs=>?_) ?_
 ·obtain⟨L,hL,rfl⟩:=LY.mp hxs
  exact aD (by rw[dW];have:=(i3 L hL).2;omega)
 exact ak (aX (l6 (ag (aa 4 rfl) (ag (aa 8 rfl) aw))) rfl)
end
mutual
def cH (lo m:Int):Bool->Th->Prop
 | _,.RL x=>cn x
 | _,.call j=>lo < j/\j < m
 | lp,.ifs x a b=>cn x/\bO lo m lp a/\bO lo m lp b
 | _,.Rg x a=>cn x/\bO lo m true a
 | lp,.leave=>lp=true
 | _,.back=>True
def bO (lo m:Int):Bool->List Th->Prop
 | _,[]=>True
 | lp,t::ts=>cH lo m lp t/\(dM t=true∨ts=[])/\bO lo m lp ts
end
section
variable {lo m:Int}{lp:Bool}
theorem i7 {t:Th}:∀{a:List Th},bO lo m lp a->cS a=true->cH lo m lp t->bO lo m lp (a++[t])
 | [],_,_,ht=>by rw[Nk,bO];exact⟨ht,.inr rfl,by rw[bO];trivial⟩
 | x::a,h,hp,ht=>by
   rw[bO] at h
   rw[cS,Lq] at hp
   rw[M6,bO]
   exact⟨h.1,.inl hp.1,i7 h.2.2 hp.2 ht⟩
theorem ug {t:Th}(ht:cH lo m lp t)(hp:dM t=true):∀{k:Nat} {L:List Th},bO lo m lp L->k < L.length->bO lo m lp (cj k t L)
 | 0,L,h,_=>by show bO lo m lp (t::L);rw[bO];exact⟨ht,.inl hp,h⟩
 | k + 1,[],_,hk=>by cases hk
 | k + 1,x::L,h,hk=>by
   rw[bO] at h
   have hk:k < L.length:=by simpa using hk
   have hx:dM x=true:=h.2.1.resolve_right λe=>by rw[e] at hk;cases hk
   show bO lo m lp (x::cj k t L)
   rw[bO]
   exact⟨h.1,.inl hx,ug ht hp h.2.2 hk⟩
theorem vk {ns calls:Lh}{sub:Option (Int->Pn->List Th×Pn)}(hc:∀j∈calls,lo < j/\j < m)(Rx:∀L,sub=some L->∀lp s,0<=lp->bO lo m (decide (0 < lp)) (L lp s).1)(loops:Int)(s:Pn)(hl:0<=loops):cH lo m (decide (0 < loops)) (Rn ns calls sub loops s).1:=by
 unfold Rn
 split
 ·rename_i h
  simp only[cH]
  exact decide_eq_true h.2
 split
 ·simp only[cH]
 split
 ·rename_i h
  simp only[cH]
  have hl:(0:Int) < (calls.length:Int):=by have:=h.2;omega
  have q0:=Lz (QZ ns (s.1 + 3)) (show(calls.length:Int)≠0 by omega)
  have q1:=Ly (QZ ns (s.1 + 3)) hl
  have hi:(QZ ns (s.1 + 3) % (calls.length:Int)).toNat < calls.length:=by omega
  rw[LG,LD hi]
  exact hc _ (Mb hi)
 cases sub with
 | none=>simp only[cH];exact gO _
 | some L=>
   dsimp only
   split
   ·simp only[cH]
    exact⟨gO _,Rx L rfl _ _ hl,Rx L rfl _ _ hl⟩
   split
   ·simp only[cH]
    have:=Rx L rfl (loops + 1) (s.1 + 2,s.2 - 2) (by omega)
    rw[decide_eq_true (show 0 < loops + 1 by omega)] at this
    exact⟨gO _,this⟩
   ·simp only[cH];exact gO _
theorem uw:cn "back":=⟨by decide +kernel,by decide +kernel,by decide +kernel⟩
theorem ow {α:Type}{f:α->α}{P:α->Prop}(h:∀x,P x->P (f x)):∀n x,P x->P (Rm f n x)
 | 0,_,hx=>hx
 | n + 1,x,hx=>h _ (ow h n x hx)
theorem B7 {ns calls:Lh}(hc:∀j∈calls,lo < j/\j < m):∀(n:Nat) (tp:Bool) (lp:Int) (s:Pn),0<=lp->bO lo m (decide (0 < lp)) (Rb ns calls n tp lp s).1:=by
 intro n
 induction n with
 | zero=>
   intro tp lp s hl
   rw[j4]
   refine ow (P:=λ(x:List Th×Pn)=>bO lo m (decide (0 < lp)) x.1) (λx hx=>?_) _ _ (by simp only[bO])
   unfold gz
   split
   ·rename_i h
    split
    ·exact i7 hx h.2 (by simp only[cH];exact uw)
    ·exact i7 hx h.2 (vk hc (λL e=>by cases e) lp x.2 hl)
   ·exact hx
 | succ n ih=>
   intro tp lp s hl
   rw[j4]
   refine ow (P:=λ(x:List Th×Pn)=>bO lo m (decide (0 < lp)) x.1) (λx hx=>?_) _ _ (by simp only[bO])
   unfold gz
   split
   ·rename_i h
    split
    ·exact i7 hx h.2 (by simp only[cH];exact uw)
    ·exact i7 hx h.2 (vk hc (λL e lp' s' Sz=>by cases e;exact ih false lp' s' Sz) lp x.2 hl)
   ·exact hx
end
section
variable {L:List Th}
def gB (L:List Th):Prop:=∃t ts,L=t::ts/\mT t=false
theorem BU (h:gB L)(t:Th):gB (L++[t]):=by
 obtain⟨x,ts,rfl,h⟩:=h
 exact⟨x,ts++[t],rfl,h⟩
theorem Gk (ns calls:Lh)(c k:Int)(hc:0 < c):gB (Rb ns calls 4 true 0 (k,c)).1:=by
 rw[j4]
 have hm:2<=ef ns true k:=by
  unfold ef
  have:=Lz (QZ ns (k + 1)) (show(4:Int)≠0 by decide)
  simp;omega
 have key:∀(f:List Th×Pn->List Th×Pn) (x:List Th×Pn),(∀y,gB y.1->gB (f y).1)->gB (f x).1->∀m,1<=m->gB (Rm f m x).1:=by
  intro f x h1 h2 m
  induction m with
  | zero=>intro h;omega
  | succ m ih=>
    intro _
    rw[Rm]
    cases m with
    | zero=>exact h2
    | succ m=>exact h1 _ (ih (by omega))
 refine key _ _ (λy hy=>?_) ?_ _ (show 1<=ef ns true k by omega)
 ·unfold gz
  split
  ·split<;>exact BU hy _
  ·exact hy
 ·unfold gz
  rw[if_pos ⟨hc,by simp[cS]⟩]
  split
  ·exact⟨_,[],rfl,rfl⟩
  ·rename_i h
   refine⟨_,[],rfl,?_⟩
   cases e:mT (Rn ns calls (da ns calls 4) 0 ([],k + 1,c).2).1 with
   | false=>rfl
   | true=>exact absurd ⟨rfl,rfl,e⟩ h
def jt (x:Str):Option Nat:=x.cps.toList.getLast?
theorem kA (x:Str)(c:Nat):jt (x++⟨#[c]⟩)=some c:=by
 unfold jt
 have e:(x++(⟨#[c]⟩:Str)).cps.toList=x.cps.toList++[c]:=by show(x.cps++ #[c]).toList=_;simp
 rw[e];simp
theorem z3:fW jB=[⟨#[113]⟩,⟨#[119]⟩,⟨#[101]⟩,⟨#[114]⟩]:=by decide +kernel
theorem DE {names:Li}(hl:names.length<=3)(x:Str):qy names x∉names:=by
 unfold qy
 rw[z3]
 simp only[List.foldl]
 have Rz:∀{y:Str},y∉names->∀c,ir names y c=y:=λh c=>if_neg h
 have go:∀{y:Str},y∈names->∀c,ir names y c=fR y++c:=λh c=>if_pos h
 by_cases h0:x∈names
 rotate_left
 ·rw[Rz h0,Rz h0,Rz h0,Rz h0];exact h0
 rw[go h0]
 generalize hx1:fR x++(⟨#[113]⟩:Str)=x1
 have l1:jt x1=some 113:=by rw[← hx1];exact kA _ _
 by_cases h1:x1∈names
 rotate_left
 ·rw[Rz h1,Rz h1,Rz h1];exact h1
 rw[go h1]
 generalize hx2:fR x1++(⟨#[119]⟩:Str)=x2
 have l2:jt x2=some 119:=by rw[← hx2];exact kA _ _
 by_cases h2:x2∈names
 rotate_left
 ·rw[Rz h2,Rz h2];exact h2
 rw[go h2]
 generalize hx3:fR x2++(⟨#[101]⟩:Str)=x3
 have l3:jt x3=some 101:=by rw[← hx3];exact kA _ _
 by_cases h3:x3∈names
 rotate_left
 ·rw[Rz h3];exact h3
 rw[go h3]
 generalize hx4:fR x3++(⟨#[114]⟩:Str)=x4
 have l4:jt x4=some 114:=by rw[← hx4];exact kA _ _
 intro h4
 obtain⟨n1,b1,e1⟩:=MQ h1
 obtain⟨n2,b2,e2⟩:=MQ h2
 obtain⟨n3,b3,e3⟩:=MQ h3
 obtain⟨n4,b4,e4⟩:=MQ h4
 have ne:∀{i j:Nat} {hi:i < names.length} {hj:j < names.length} {y z:Str} {c d:Nat},names[i]=y->names[j]=z->jt y=some c->jt z=some d->c≠d->i≠j:=by
  intro i j hi hj y z c d e e' l l' Q4 z
  subst z
  rw[← e] at l
  rw[← e',l] at l'
  exact Q4 (Option.some.inj l')
 have:=ne e1 e2 l1 l2 (by decide)
 have:=ne e1 e3 l1 l3 (by decide)
 have:=ne e1 e4 l1 l4 (by decide)
 have:=ne e2 e3 l2 l3 (by decide)
 have:=ne e2 e4 l2 l4 (by decide)
 have:=ne e3 e4 l3 l4 (by decide)
 omega
theorem xo (ns:Lh)(s:Int):∀i,i<=4->(cO ns s i).Nodup
 | 0,_=>M7
 | i + 1,h=>by
   rw[cO]
   exact fY (xo ns s i (by omega)) (DE (by rw[jL];omega) _)
theorem G5 (i:Nat)(m:Int):∀j∈eB i m,(i:Int) < j/\j < m:=by
 intro j hj
 unfold eB at hj
 obtain⟨n,hn⟩:=LX.mp hj
 obtain⟨a,b⟩:=dY hn
 omega
structure LsOk (m:Int) (b:Nat) (Ls:List (List Th)):Prop where
 ok:∀(p:Nat) (L:List Th),Ls[p]?=some L->bO (p:Int) m false L
 dp:∀L∈Ls,d7 L<=4
 hd:∀L∈Ls,gB L
 rw:∀L∈Ls,cx L<=b
theorem wN (ns:Lh)(m k:Int)(hb:0 < cP m):∀i,LsOk m (cP m).toNat (Q8 ns m k i).1/\((Q8 ns m k i).1.map cx).sum<=i * (cP m).toNat
 | 0=>⟨⟨(λp L h=>by simp[Q8] at h),(λL h=>by simp[Q8] at h),(λL h=>by simp[Q8] at h),(λL h=>by simp[Q8] at h)⟩,Np _⟩
 | i + 1=>by
   obtain⟨h,hs⟩:=wN ns m k hb i
   have hl:=jX ns m k i
   have g:=g6 ns (eB i m) 4 true 0 ((Q8 ns m k i).2,cP m) (Int.le_of_lt hb)
   have go:=B7 (lo:=(i:Int)) (m:=m) (ns:=ns) (G5 i m) 4 true 0 ((Q8 ns m k i).2,cP m) (LA 0)
   have gh:=Gk ns (eB i m) (cP m) (Q8 ns m k i).2 hb
   have gr:cx (Rb ns (eB i m) 4 true 0 ((Q8 ns m k i).2,cP m)).1<=(cP m).toNat:=by
    have:=g.c
    dsimp only at this
    omega
   rw[Q8]
   dsimp only
   generalize Rb ns (eB i m) 4 true 0 ((Q8 ns m k i).2,cP m)=r at g go gh gr
   generalize Q8 ns m k i=x at h hs hl
   have mem:∀{L},L∈x.1++[r.1]->L∈x.1∨L=r.1:=λh=>(LW.mp h).imp id LH.mp
   refine⟨⟨λp L hp=>?_,λL hL=>?_,λL hL=>?_,λL hL=>?_⟩,?_⟩
   ·rcases Nv p x.1.length with z | z
    ·rw[L4 z] at hp
     exact h.ok p L hp
    ·rw[L8 z] at hp
     have hz:p - x.1.length=0:=by
      have:=(LC.mp hp).1
      simp at this;omega
     rw[hz] at hp
     have e:r.1=L:=by simpa using hp
     have ep:p=i:=by omega
     rw[← e,ep]
     exact go
   ·rcases mem hL with z | rfl
    ·exact h.dp L z
    ·exact g.dp
   ·rcases mem hL with z | rfl
    ·exact h.hd L z
    ·exact gh
   ·rcases mem hL with z | rfl
    ·exact h.rw L z
    ·exact gr
   ·rw[L5,List.sum_append,Nat.add_mul]
    simp
    omega
theorem jn {α:Type}(k:Nat)(y:α)(xs:List α):cj k y xs=xs.take k++y::xs.drop k:=rfl
theorem xZ (k:Nat)(j:Int)(L:List Th):cx (cj k (.call j) L)=cx L + 1:=by
 rw[jn,iG,cx,c7]
 have:=iG (L.take k) (L.drop k)
 rw[Mx] at this
 omega
theorem E8 (k:Nat)(j:Int)(L:List Th):d7 (cj k (.call j) L)=d7 L:=by
 rw[jn,jH,d7,show gi (.call j)=0 by simp[gi]]
 have:=jH (L.take k) (L.drop k)
 rw[Mx] at this
 omega
theorem DC {k:Nat}{y x:Th}(h:x∈L):x∈cj k y L:=by
 rw[jn]
 rw[← Mx k L] at h
 rcases LW.mp h with z | z
 ·exact L7 _ z
 ·exact LU _ (LN _ z)
theorem y3 {k:Nat}{y:Th}:y∈cj k y L:=by
 rw[jn];exact LU _ LP
theorem GD {k:Nat}{j:Int}(h:gB L):gB (cj k (.call j) L):=by
 obtain⟨t,ts,rfl,h⟩:=h
 cases k with
 | zero=>exact⟨_,_,rfl,rfl⟩
 | succ k=>exact⟨t,cj k (.call j) ts,rfl,h⟩
theorem sum_set:∀{l:List Nat} {n a b:Nat},l[n]?=some a->(l.set n b).sum + a=l.sum + b
 | x::l,0,a,b,h=>by
   have e:x=a:=by simpa using h
   rw[List.set_cons_zero,M1,M1,e];omega
 | x::l,n + 1,a,b,h=>by
   have:=sum_set (l:=l) (n:=n) (a:=a) (b:=b) (by simpa using h)
   rw[List.set_cons_succ,M1,M1];omega
theorem w6 (ns:Lh)(x:List (List Th)×Int)(m:Int)(b:Nat)(hx:LsOk m b x.1)(hl:(x.1.length:Int)=m):∀i:Nat,(i:Int) < m->LsOk m (b + i) (Rr ns x i).1/\(Rr ns x i).1.length=x.1.length/\((Rr ns x i).1.map cx).sum=(x.1.map cx).sum + i/\∀j:Nat,1<=j->j<=i->∃L∈(Rr ns x i).1,Th.call (j:Int)∈L
 | 0,_=>⟨hx,rfl,rfl,λj h1 h2=>by omega⟩
 | i + 1,hi=>by
   obtain⟨h,TB,hs,hc⟩:=w6 ns x m b hx hl i (by omega)
   rw[Rr]
   generalize Rr ns x i=y at h TB hs hc
   unfold mN
   have q0:=Lz (QZ ns (y.2 + 1)) (show((i + 1:Nat):Int)≠0 by omega)
   have q1:=Ly (QZ ns (y.2 + 1)) (show(0:Int) < ((i + 1:Nat):Int) by omega)
   have RQ:Tt ns y.2 (i + 1)<=i:=by unfold Tt;omega
   generalize Tt ns y.2 (i + 1)=n at RQ
   have hn:n < y.1.length:=by omega
   have hL:y.1[n]?=some (y.1.getD n []):=by rw[LG,LD hn];rfl
   generalize y.1.getD n []=L at hL
   have mL:=LO hL
   have l0:0 < L.length:=by obtain⟨t,ts,rfl,_⟩:=h.hd L mL;simp
   have r0:=Lz (QZ ns (y.2 + 2)) (show(L.length:Int)≠0 by omega)
   have r1:=Ly (QZ ns (y.2 + 2)) (show(0:Int) < (L.length:Int) by omega)
   have hk:(QZ ns (y.2 + 2) % (L.length:Int)).toNat < L.length:=by omega
   dsimp only
   generalize (QZ ns (y.2 + 2) % (L.length:Int)).toNat=k at hk
   refine⟨⟨λp L' hp=>?_,λL' T6=>?_,λL' T6=>?_,λL' T6=>?_⟩,by rw[Ml];exact TB,?_,λj h1 h2=>?_⟩
   ·by_cases e:p=n
    ·subst e
     rw[LZ hn] at hp
     cases hp
     exact ug (by simp only[cH];omega) (by simp only[dM]) (h.ok p L hL) hk
    ·rw[Mf (NN e)] at hp
     exact h.ok p L' hp
   ·rcases mem_set T6 with z | rfl
    ·exact h.dp L' z
    ·rw[E8];exact h.dp L mL
   ·rcases mem_set T6 with z | rfl
    ·exact h.hd L' z
    ·exact GD (h.hd L mL)
   ·rcases mem_set T6 with z | rfl
    ·have:=h.rw L' z;omega
    ·rw[xZ];have:=h.rw L mL;omega
   ·rw[List.map_set]
    have:=sum_set (l:=y.1.map cx) (n:=n) (a:=cx L) (b:=cx (cj k (.call ((i + 1:Nat):Int)) L)) (by rw[LM,hL];rfl)
    rw[xZ] at this ⊢
    omega
   ·have sets:∀{L':List Th},L'∈y.1->∃L2∈y.1.set n (cj k (.call ((i + 1:Nat):Int)) L),∀t∈L',t∈L2:=λ{L'} T6=>by
     obtain⟨q,hq⟩:=LX.mp T6
     by_cases e:q=n
     ·subst e
      rw[hL] at hq;cases hq
      exact⟨_,LO (LZ hn),λt ht=>DC ht⟩
     ·exact⟨L',LO ((Mf (NN e)).trans hq),λt ht=>ht⟩
    by_cases e:j=i + 1
    ·subst e
     exact⟨_,LO (LZ hn),y3⟩
    ·obtain⟨L',T6,hj⟩:=hc j h1 (by omega)
     obtain⟨L2,m2,s2⟩:=sets T6
     exact⟨L2,m2,s2 _ hj⟩
structure dq (xs:Li) (Ls:List (List Th)):Prop where
 l:xs.length=Ls.length
 l1:1<=Ls.length
 l4:Ls.length<=4
 nm:∀x∈xs,cn x
 nd:xs.Nodup
 ok:∀(p:Nat) (L:List Th),Ls[p]?=some L->bO (p:Int) (Ls.length:Int) false L
 dp:∀L∈Ls,d7 L<=4
 hd:∀L∈Ls,gB L
 rw:∀L∈Ls,cx L<=14
 tot:(Ls.map cx).sum<=30
 cl:∀j:Nat,1<=j->j < Ls.length->∃L∈Ls,Th.call (j:Int)∈L
theorem BQ (ns:Lh)(s:Int):dq (RU ns s) (Sg ns s):=by
 obtain⟨m1,m4⟩:=uM ns s
 unfold RU Sg
 generalize RJ ns s=m at m1 m4
 obtain⟨b6,b14⟩:=xf m1 m4
 obtain⟨h,hs⟩:=wN ns m (s + 1 + m) (by omega) m.toNat
 have hl:=jX ns m (s + 1 + m) m.toNat
 generalize Q8 ns m (s + 1 + m) m.toNat=x at h hs hl
 obtain⟨o,oll,os,oc⟩:=w6 ns x m _ h (by omega) (m - 1).toNat (by omega)
 have bm:(cP m).toNat + (m - 1).toNat<=14/\m.toNat * (cP m).toNat + (m - 1).toNat<=30:=by
  have:∀j:Fin 4,(cP ((j.val:Int) + 1)).toNat + j.val<=14/\(j.val + 1) * (cP ((j.val:Int) + 1)).toNat + j.val<=30:=by decide +kernel
  have:=this ⟨(m - 1).toNat,by omega⟩
  dsimp only at this
  rw[show(((m - 1).toNat:Nat):Int) + 1=m by omega,show(m - 1).toNat + 1=m.toNat by omega] at this
  exact this
 generalize Rr ns x (m - 1).toNat=y at o oll os oc
 have em:((y.1.length:Nat):Int)=m:=by omega
 exact⟨by rw[jL];omega,by omega,by omega,wZ ns s _,xo ns s _ (by omega),by rw[em];exact o.ok,o.dp,o.hd,λL hL=>Nn (o.rw L hL) bm.1,by omega,λj h1 h2=>oc j h1 (by omega)⟩
end
end K1
namespace K1
open PySem L2 Fc
open PySem.Spec hiding Row
open PyProof.Rows hiding St
open PySem.Builtin.Int (intBits)
variable {P:Ob}{w:World}{K:QA}{mg:Lf}{base:Heap}{f:Addr}{fd:Og}
abbrev S1 (x:Str):Li:=[x]
abbrev S2 (x y:Str):Li:=[x,y]
mutual
def cD (names:Li):Th->Li
 | .RL x=>S2 "do" x
 | .call j=>S2 "call" (names.getD j.toNat "")
 | .ifs x a b=>S2 "if" x++Q5 names a++S1 "else"++(Q5 names b++S1 "end")
 | .Rg x a=>S2 "while" x++Q5 names a++S1 "end"
 | .leave=>S1 "leave"
 | .back=>S1 "back"
def Q5 (names:Li):List Th->Li
 | []=>[]
 | t::ts=>cD names t++Q5 names ts
end
theorem uk (names:Li):∀a b:List Th,Q5 names (a++b)=Q5 names a++Q5 names b
 | [],b=>by rw[Q5];rfl
 | t::a,b=>by rw[M6,Q5,Q5,uk names a b,L1]
theorem Cd (names:Li)(t:Th):Q5 names [t]=cD names t:=by rw[Q5,Q5,Mh]
mutual
theorem Ck {names:Li}{lo m:Int}:∀(t:Th) (lp:Bool),cH lo m lp t->(cD names t).length<=4 * c7 t + (if c7 t=0 then 1 else 0)
 | .RL x,_,_=>by simp[cD,c7]
 | .call j,_,_=>by simp[cD,c7]
 | .ifs x a b,lp,h=>by
   simp only[cH] at h
   have h1:=dZ (names:=names) a lp h.2.1
   have h2:=dZ (names:=names) b lp h.2.2
   simp[cD,c7]
   omega
 | .Rg x a,lp,h=>by
   simp only[cH] at h
   have h1:=dZ (names:=names) a true h.2
   simp[cD,c7]
   omega
 | .leave,_,_=>by simp[cD,c7]
 | .back,_,_=>by simp[cD,c7]
theorem dZ {names:Li}{lo m:Int}:∀(ts:List Th) (lp:Bool),bO lo m lp ts->(Q5 names ts).length<=4 * cx ts + 1
 | [],_,_=>by simp[Q5]
 | t::ts,lp,h=>by
   simp only[bO] at h
   have h1:=Ck (names:=names) t lp h.1
   have h2:=dZ (names:=names) ts lp h.2.2
   rw[Q5,cx,LL]
   by_cases e:c7 t=0
   ·rw[e,if_pos rfl] at h1
    have hp:dM t=false:=by cases t<;>simp[c7] at e<;>simp[dM]
    have:ts=[]:=h.2.1.resolve_left (by rw[hp];decide)
    subst this
    simp[Q5,cx]
    omega
   ·rw[if_neg e] at h1
    omega
end
theorem vb {lo m:Int}{lp:Bool}{t:Th}:∀{ts:List Th},bO lo m lp ts->t∈ts->cH lo m lp t
 | s::ts,h,hm=>by
   simp only[bO] at h
   rcases LV.mp hm with rfl | hm
   ·exact h.1
   ·exact vb h.2.2 hm
theorem wI {t:Th}:∀{ts:List Th},t∈ts->c7 t<=cx ts
 | s::ts,h=>by
   rw[cx]
   rcases LV.mp h with rfl | h
   ·omega
   ·have:=wI h;omega
theorem rH {lo m:Int}{lp:Bool}:∀{ts:List Th} (i:Nat),bO lo m lp ts->bO lo m lp (ts.take i)
 | [],i,h=>by rw[take_nil];exact h
 | t::ts,0,h=>by simp only[take_zero,bO]
 | t::ts,i + 1,h=>by
   simp only[bO] at h
   rw[Mv,bO]
   exact⟨h.1,h.2.1.imp id λe=>by rw[e,take_nil],rH i h.2.2⟩
theorem B0 (ts:List Th)(i:Nat):cx (ts.take i)<=cx ts:=by
 have:=iG (ts.take i) (ts.drop i)
 rw[Mx] at this
 omega
section
variable {X:Cx}{Γ Γ1:Ga}
theorem sf {a:Expr}{j:Nat}{p1 pos:Pos}{t:Th}{i:Int}{x:Str}(h:EV X a Γ ax (eI t) Γ1)(hx:bV (hV t) i=some (.str x)):EV X (.Subscript a (.Constant (.int i) j p1) pos) Γ ah x Γ1:=EV.sP (aZ (EV.lP (by rw[g7] at h;exact h)) ev_int hx)
theorem Gr {a:Expr}{j:Nat}{p1 pos:Pos}{t:Th}{i:Int}{x:Int}(h:EV X a Γ ax (eI t) Γ1)(hx:bV (hV t) i=some (.int x)):EV X (.Subscript a (.Constant (.int i) j p1) pos) Γ af x Γ1:=EV.iP (aZ (EV.lP (by rw[g7] at h;exact h)) ev_int hx)
end
section
variable {x:Str}
abbrev Ay:Stmt:=top p9
abbrev nWD:Li:=["_law_items","_law_names","_law_words_here","_law_one"]
theorem zP:aH nWD ["_law_items","_law_names"] (ai Ay):=Rp
def Kd (n:Nat):cQ:=λK ps T=>∃(ts:List Th) (names:Li) (lo m:Int) (lp:Bool),ps=[⟨ae ax,br ts⟩,⟨ae ah,names⟩]/\d7 ts < n/\bO lo m lp ts/\0<=lo/\m<=(names.length:Int)/\cx ts<=100/\T=cg K (ae ah) (· =Q5 names ts)
theorem l1 (x:Str):([x]:Li).length<=N7:=by show 1<=N7;decide
theorem l2 (x y:Str):([x,y]:Li).length<=N7:=by show 2<=N7;decide
theorem Hv (F:bD K "_law_words" "_law_words" Ay f fd)(hm:mg "_law_words"=some (.ref f))(hb:Binds K fd ["_law_items","_law_names"] []):∀n:Nat,aI P w K mg base "_law_words" (n + 1) (aK (Kd n) K):=by
 intro n
 have nd:=zP.nd
 induction n with
 | zero=>
   refine bw F zP hm hb (λqs T ⟨_,_,_,_,_,e,_⟩=>by rw[e];rfl) (λQ2 A outer s H E qs T hr hS=>?_)
   obtain⟨ts,_,_,_,_,_,h,_⟩:=hS
   exact absurd h (Nat.not_lt_zero _)
 | succ n ih=>
   refine bw F zP hm hb (λqs T ⟨_,_,_,_,_,e,_⟩=>by rw[e];rfl) (λQ2 A outer s H E qs T hr hS=>?_)
   obtain⟨ts,names,lo,m,lp,rfl,hd,Q3,lo0,UW,hrw,rfl⟩:=hS
   change WS _ _ [.im (ae ax) (br ts),.im (ae ah) names,.no,.no] _ _
   refine aj (cz 2 (r:=ah) (ys:=[]) (aP aO (Np _)) ?_)
   refine bL (N1:=λΓ=>∃e3,Γ=[.im (ae ax) (br ts),.im (ae ah) names,.mu ah (Q5 names ts),e3]) (cC (r:=ax) (λi Γ=>∃e3,Γ=[.im (ae ax) (br ts),.im (ae ah) names,.mu ah (Q5 names (ts.take i)),e3]) (bR (aa 0 rfl)) (aY 3) ⟨_,rfl⟩ (λi x Γ hx hΓ=>?_) (λΓ hΓ=>?_)) ?_
   ·obtain⟨e3,rfl⟩:=hΓ
    rw[eM,LM] at hx
    obtain⟨t,ht,rfl⟩:=NO.mp hx
    have tm:=LO ht
    have tok:=vb Q3 tm
    have tdp:=sF tm
    have trw:=wI tm
    have wl:=dZ (names:=names) (ts.take i) lp (rH i Q3)
    have wr:=B0 ts i
    have Si:Q5 names (ts.take (i + 1))=Q5 names (ts.take i)++cD names t:=by rw[Mm,ht,uk];rw[show(some t).toList=[t] from rfl,Cd]
    rw[Si]
    generalize Q5 names (ts.take i)=ws at wl
    have wz:ws.length<=401:=by omega
    change WS _ _ [.im (ae ax) (br ts),.im (ae ah) names,.mu ah ws,.im ax (eI t)] _ _
    refine ak (bq (ay cb (g0 (aa 3 rfl)) aA) (λh=>?_) (λh1=>?_))
    ·have h:cM t="do":=of_decide_eq_true h
     cases t with
     | RL x=>
       refine WS.freeze 2 rfl (aD (by omega)) ?_
       refine ak (cz 2 (ys:=ws++S2 "do" x) (bU (aa 2 rfl) (aW.im (aP (r:=ah) (av aA (av (sf (aa 3 rfl) rfl) aO)) (l2 _ _))) (aD (by simp;omega))) ⟨.im ax (eI (.RL x)),?_⟩)
       rw[cD];rfl
     | call j=>exact absurd h (by simp only[cM];decide)
     | ifs x a b=>exact absurd h (by simp only[cM];decide)
     | Rg x a=>exact absurd h (by simp only[cM];decide)
     | leave=>exact absurd h (by simp only[cM];decide)
     | back=>exact absurd h (by simp only[cM];decide)
    have h1:¬cM t="do":=of_decide_eq_false h1
    refine ak (bq (ay cb (g0 (aa 3 rfl)) aA) (λh=>?_) (λh2=>?_))
    ·have h:cM t="call":=of_decide_eq_true h
     cases t with
     | call j=>
       simp only[cH] at tok
       refine WS.freeze 2 rfl (aD (by omega)) ?_
       refine ak (cz 2 (ys:=ws++S2 "call" (names.getD j.toNat "")) (bU (aa 2 rfl) (aW.im (aP (r:=ah) (av aA (av (aZ (aa 1 rfl) (Gr (aa 3 rfl) rfl) (aQ (xs:=names) (i:=j) "" (by omega) (by omega))) aO)) (l2 _ _))) (aD (by simp;omega))) ⟨.im ax (eI (.call j)),?_⟩)
       rw[cD];rfl
     | RL j=>exact absurd h (by simp only[cM];decide)
     | ifs x a b=>exact absurd h (by simp only[cM];decide)
     | Rg x a=>exact absurd h (by simp only[cM];decide)
     | leave=>exact absurd h (by simp only[cM];decide)
     | back=>exact absurd h (by simp only[cM];decide)
    have h2:¬cM t="call":=of_decide_eq_false h2
    refine ak (bq (ay cb (g0 (aa 3 rfl)) aA) (λh=>?_) (λh3=>?_))
    ·have h:cM t="if":=of_decide_eq_true h
     cases t with
     | ifs x a b=>
       simp only[cH] at tok
       rw[gi] at tdp
       rw[c7] at trw
       have la:=dZ (names:=names) a lp tok.2.1
       have lb:=dZ (names:=names) b lp tok.2.2
       refine WS.freeze 2 rfl (aD (by omega)) ?_
       refine aj (cz 2 (ys:=ws++S2 "if" x++Q5 names a++S1 "else") (bU (aW.im (bU (aW.im (bU (aa 2 rfl) (aW.im (aP (r:=ah) (av aA (av (sf (aa 3 rfl) rfl) aO)) (l2 _ _))) (aD (by simp;omega)))) (aE ih hr (ag (kU (aa 3 rfl) rfl) (ag (aa 1 rfl) aw)) ⟨a,names,lo,m,lp,rfl,by omega,tok.2.1,lo0,UW,by omega,rfl⟩) (aD (by simp;omega)))) (aW.im (aP (r:=ah) (av aA aO) (l1 _))) (aD (by simp;omega))) ?_)
       refine WS.freeze 2 rfl (aD (by simp;omega)) ?_
       refine ak (cz 2 (ys:=ws++S2 "if" x++Q5 names a++S1 "else"++Q5 names b++S1 "end") (bU (aW.im (bU (aa 2 rfl) (aE ih hr (ag (kU (aa 3 rfl) rfl) (ag (aa 1 rfl) aw)) ⟨b,names,lo,m,lp,rfl,by omega,tok.2.2,lo0,UW,by omega,rfl⟩) (aD (by simp;omega)))) (aW.im (aP (r:=ah) (av aA aO) (l1 _))) (aD (by simp;omega))) ⟨.im ax (eI (.ifs x a b)),?_⟩)
       rw[cD]
       simp only[L1]
       rfl
     | RL j=>exact absurd h (by simp only[cM];decide)
     | call x=>exact absurd h (by simp only[cM];decide)
     | Rg x a=>exact absurd h (by simp only[cM];decide)
     | leave=>exact absurd h (by simp only[cM];decide)
     | back=>exact absurd h (by simp only[cM];decide)
    have h3:¬cM t="if":=of_decide_eq_false h3
    refine ak (bq (ay cb (g0 (aa 3 rfl)) aA) (λh=>?_) (λh4=>?_))
    ·have h:cM t="while":=of_decide_eq_true h
     cases t with
     | Rg x a=>
       simp only[cH] at tok
       rw[gi] at tdp
       rw[c7] at trw
       have la:=dZ (names:=names) a true tok.2
       refine WS.freeze 2 rfl (aD (by omega)) ?_
       refine ak (cz 2 (ys:=ws++S2 "while" x++Q5 names a++S1 "end") (bU (aW.im (bU (aW.im (bU (aa 2 rfl) (aW.im (aP (r:=ah) (av aA (av (sf (aa 3 rfl) rfl) aO)) (l2 _ _))) (aD (by simp;omega)))) (aE ih hr (ag (kU (aa 3 rfl) rfl) (ag (aa 1 rfl) aw)) ⟨a,names,lo,m,true,rfl,by omega,tok.2,lo0,UW,by omega,rfl⟩) (aD (by simp;omega)))) (aW.im (aP (r:=ah) (av aA aO) (l1 _))) (aD (by simp;omega))) ⟨.im ax (eI (.Rg x a)),?_⟩)
       rw[cD]
       simp only[L1]
       rfl
     | RL j=>exact absurd h (by simp only[cM];decide)
     | call x=>exact absurd h (by simp only[cM];decide)
     | ifs x a b=>exact absurd h (by simp only[cM];decide)
     | leave=>exact absurd h (by simp only[cM];decide)
     | back=>exact absurd h (by simp only[cM];decide)
    have h4:¬cM t="while":=of_decide_eq_false h4
    have ew:cD names t=[cM t]:=by
     cases t with
     | RL x=>exact absurd rfl h1
     | call x=>exact absurd rfl h2
     | ifs x a b=>exact absurd rfl h3
     | Rg x a=>exact absurd rfl h4
     | leave=>rw[cD];rfl
     | back=>rw[cD];rfl
    rw[ew]
    exact ak (eh 2 (g0 (aa 3 rfl)) rfl rfl (Nr wz (by decide)) ⟨.im ax (eI t),rfl⟩)
   ·obtain⟨e3,rfl⟩:=hΓ
    rw[dW,Mn]
    exact⟨e3,rfl⟩
   rintro _ ⟨e3,rfl⟩
   have wl:=dZ (names:=names) ts lp Q3
   refine WS.freeze 2 rfl (aD (by omega)) ?_
   exact ak (aX (aa 2 rfl) rfl)
def eG (names:Li)(z:Str×List Th):Li:=S2 "part" (z.1)++Q5 names z.2++S1 "end"
def ij (names:Li)(Ls:List (List Th)):Li:=(names.zip Ls).flatMap (eG names)
abbrev Be:Stmt:=top tJ
abbrev nTX:Li:=["_law_names","_law_lists","_law_words_here","_law_name_here","_law_items"]
theorem G6:aH nTX ["_law_names","_law_lists"] (ai Be):=Rp
def JA:cQ:=λK ps T=>∃(names:Li) (Ls:List (List Th)),ps=[⟨ae ah,names⟩,⟨ae (ae ax),Ls.map br⟩]/\dq names Ls/\T=cg K ah (· =Qq " " (ij names Ls))
structure fu (w:Str):Prop where
 l:w.length<=8
 f:32∉w.cps.toList
theorem cn.wo (h:cn x):fu x:=⟨h.l8,λz=>by have:=(h.az _ z).1;omega⟩
theorem eK {w:Str}(h:(decide (w.length<=8)&&decide (32∉w.cps.toList))=true):fu w:=by
 rw[Lq] at h
 exact⟨of_decide_eq_true h.1,of_decide_eq_true h.2⟩
theorem Dm {names:Li}(h:∀x∈names,cn x)(i:Nat):fu (names.getD i ""):=by
 rw[LG]
 cases e:names[i]? with
 | none=>exact eK (by decide +kernel)
 | some x=>exact(h x (LO e)).wo
theorem kY {y:Str}(hx:fu x)(hy:fu y):∀w∈S2 x y,fu w:=λw hw=>by
 rcases LV.mp hw with rfl | hw
 ·exact hx
 ·rw[LH.mp hw];exact hy
theorem jW (hx:fu x):∀w∈S1 x,fu w:=λw hw=>by rw[LH.mp hw];exact hx
theorem eO {a b:Li}(ha:∀w∈a,fu w)(hb:∀w∈b,fu w):∀w∈a++b,fu w:=λw hw=>(LW.mp hw).elim (ha w) (hb w)
mutual
theorem Er {names:Li}{lo m:Int}(hn:∀x∈names,cn x):∀(t:Th) (lp:Bool),cH lo m lp t->∀w∈cD names t,fu w
 | .RL x,_,h=>by
   simp only[cH] at h
   rw[cD];exact kY (eK (by decide +kernel)) h.wo
 | .call j,_,_=>by rw[cD];exact kY (eK (by decide +kernel)) (Dm hn _)
 | .ifs x a b,lp,h=>by
   simp only[cH] at h
   rw[cD]
   exact eO (eO (eO (kY (eK (by decide +kernel)) h.1.wo) (lI hn a lp h.2.1)) (jW (eK (by decide +kernel)))) (eO (lI hn b lp h.2.2) (jW (eK (by decide +kernel))))
 | .Rg x a,lp,h=>by
   simp only[cH] at h
   rw[cD]
   exact eO (eO (kY (eK (by decide +kernel)) h.1.wo) (lI hn a true h.2)) (jW (eK (by decide +kernel)))
 | .leave,_,_=>by rw[cD];exact jW (eK (by decide +kernel))
 | .back,_,_=>by rw[cD];exact jW (eK (by decide +kernel))
theorem lI {names:Li}{lo m:Int}(hn:∀x∈names,cn x):∀(ts:List Th) (lp:Bool),bO lo m lp ts->∀w∈Q5 names ts,fu w
 | [],_,_=>by rw[Q5];intro w h;cases h
 | t::ts,lp,h=>by
   simp only[bO] at h
   rw[Q5]
   exact eO (Er hn t lp h.1) (lI hn ts lp h.2.2)
end
section
variable {names:Li}{Ls:List (List Th)}
theorem iV {i:Nat}{z:Str×List Th}(h:(names.zip Ls)[i]?=some z):names[i]?=some z.1/\Ls[i]?=some z.2:=by
 rw[List.getElem?_zip_eq_some] at h
 exact h
theorem Jo (h:dq names Ls){z:Str×List Th}(hz:z∈names.zip Ls):(eG names z).length<=60/\∀w∈eG names z,fu w:=by
 obtain⟨i,hi⟩:=LX.mp hz
 obtain⟨h1,h2⟩:=iV hi
 have hk:=h.ok i z.2 h2
 have hl:=dZ (names:=names) z.2 false hk
 have hr:=h.rw z.2 (LO h2)
 unfold eG
 refine⟨by simp;omega,eO (eO (kY (eK (by decide +kernel)) (h.nm z.1 (LO h1)).wo) (lI h.nm z.2 false hk)) (jW (eK (by decide +kernel)))⟩
theorem vj {names:Li}:∀{zs:List (Str×List Th)},(∀z∈zs,(eG names z).length<=60/\∀w∈eG names z,fu w)->(zs.flatMap (eG names)).length<=60 * zs.length/\∀w∈zs.flatMap (eG names),fu w
 | [],_=>⟨Np _,λw h=>by cases h⟩
 | z::zs,h=>by
   obtain⟨a,b⟩:=vj (zs:=zs) λy hy=>h y (LN _ hy)
   obtain⟨c,d⟩:=h z LP
   rw[MP]
   exact⟨by rw[LL,LR];omega,eO d b⟩
theorem uE (h:dq names Ls)(i:Nat):(((names.zip Ls).take i).flatMap (eG names)).length<=240/\∀w∈((names.zip Ls).take i).flatMap (eG names),fu w:=by
 obtain⟨a,b⟩:=vj (names:=names) (zs:=(names.zip Ls).take i) λz hz=>Jo h (MW hz)
 refine⟨?_,b⟩
 have:=h.l;have:=h.l4
 rw[L0,Mt] at a
 omega
theorem sY (h:dq names Ls):(ij names Ls).length<=240/\∀w∈ij names Ls,fu w:=by
 have:=uE h (names.zip Ls).length
 rw[Mn] at this
 exact this
theorem uG {ws:Li}(hl:ws.length<=240)(h:∀w∈ws,fu w):JoinOk " " ws=true:=by
 unfold JoinOk
 rw[StrLaws.joinFits (B:=8) (λy hy=>(h y hy).l) (by rw[show(" ":Str).length=1 by decide +kernel];omega)]
 rfl
theorem Jl (M:bY K mg)(CW:aI P w K mg base "_law_words" 6 (aK (Kd 5) K))(F:bD K "_law_text" "_law_text" Be f fd)(hm:mg "_law_text"=some (.ref f))(hb:Binds K fd ["_law_names","_law_lists"] []):aI P w K mg base "_law_text" 7 (aK JA K):=by
 have nd:=G6.nd
 refine bw (k:=6) F G6 hm hb (λqs T ⟨_,_,e,_⟩=>by rw[e];rfl) (λQ2 A outer s H E qs T hr hS=>?_)
 obtain⟨names,Ls,rfl,hP,rfl⟩:=hS
 change WS _ _ [.im (ae ah) names,.im (ae (ae ax)) (Ls.map br),.no,.no,.no] _ _
 refine aj (aU 2 (y:=([]:Li)) (aW.im (aP (r:=ah) aO (Np _))) ?_)
 refine bL (N1:=λΓ=>∃e3 e4,Γ=[.im (ae ah) names,.im (ae (ae ax)) (Ls.map br),.im (ae ah) (ij names Ls),e3,e4]) (cC (λi Γ=>∃e3 e4,Γ=[.im (ae ah) names,.im (ae (ae ax)) (Ls.map br),.im (ae ah) (((names.zip Ls).take i).flatMap (eG names)),e3,e4]) (GU M.zip (aa 0 rfl) (aa 1 rfl)) (ft 3 4) ⟨_,_,rfl⟩ (λi x Γ hx hΓ=>?_) (λΓ hΓ=>?_)) ?_
 ·obtain⟨e3,e4,rfl⟩:=hΓ
  rw[List.zip_map_right,LM] at hx
  obtain⟨z,hz,rfl⟩:=NO.mp hx
  obtain⟨h1,h2⟩:=iV hz
  obtain⟨tl,_⟩:=uE hP i
  have hk:=hP.ok i z.2 h2
  have hl:=dZ (names:=names) z.2 false hk
  have hrw:=hP.rw z.2 (LO h2)
  have hdp:=hP.dp z.2 (LO h2)
  have TB:=hP.l
  have Si:((names.zip Ls).take (i + 1)).flatMap (eG names)=((names.zip Ls).take i).flatMap (eG names)++eG names z:=by
   rw[Mm,hz,List.flatMap_append]
   simp
  rw[Si]
  generalize ((names.zip Ls).take i).flatMap (eG names)=ws at tl
  change WS _ _ [.im (ae ah) names,.im (ae (ae ax)) (Ls.map br),.im (ae ah) ws,.im ah z.1,.im (ae ax) (br z.2)] _ _
  refine ak (aU 2 (y:=ws++S2 "part" z.1++Q5 names z.2++S1 "end") (aW.im (bU (aW.im (bU (aW.im (bU (aa 2 rfl) (aW.im (aP (r:=ah) (av aA (av (aa 3 rfl) aO)) (l2 _ _))) (aD (by simp;omega)))) (aE CW hr (ag (aa 4 rfl) (ag (aa 0 rfl) aw)) ⟨z.2,names,(i:Int),(Ls.length:Int),false,rfl,by omega,hk,by omega,by omega,by omega,rfl⟩) (aD (by simp;omega)))) (aW.im (aP (r:=ah) (av aA aO) (l1 _))) (aD (by simp;omega)))) ⟨.im ah z.1,.im (ae ax) (br z.2),?_⟩)
  unfold eG
  simp only[L1]
  rfl
 ·obtain⟨e3,e4,rfl⟩:=hΓ
  refine⟨e3,e4,?_⟩
  rw[List.zip_map_right,LJ,Mn]
  rfl
 rintro _ ⟨e3,e4,rfl⟩
 obtain⟨pl,po⟩:=sY hP
 exact ak (aX (Cz aA (aa 2 rfl) (uG pl po)) (uC _ _))
end
end
section
variable {ws:Li}
structure aG where
 kind:Str
 name:Str
 word:Int
 within:Int
abbrev dJ:aG:=⟨"","",0,0⟩
abbrev named:Li:=["part","do","call","if","while"]
abbrev Ri:Li:=["do","call","if","while","leave","back"]
abbrev Rv:Li:=["part","if","else","while"]
abbrev Q1:Li:=["else","end"]
structure d9 where
 S:List aG
 O:Lh
 w:Nat
def aM (S:List aG)(o:Int):Str:=(S.getD o.toNat dJ).kind
def eP (k:Str)(ks:Li):Bool:=
 if ks.isEmpty then decide (k="part")
 else if k="leave" then decide (("while":Str)∈ks)
 else if k="else" then decide (ks.getLast?.getD ""="if")
 else if k="end" then !decide (ks.getLast?.getD ""="if")
 else decide (k∈Ri)
abbrev uc (ws:Li)(x:d9):Str:=ws.getD x.w ""
def mW (k:Str)(n:Str)(x:d9):aG:=⟨k,n,(x.w:Int),x.O.getLast?.getD (-1)⟩
def Sm (k n:Str)(x:d9):d9:=
 ⟨x.S++[mW k (if k∈named then n else "") x],(if k∈Q1 then x.O.dropLast else x.O)++(if k∈Rv then[(x.S.length:Int)] else[]),x.w + (if k∈named then 2 else 1)⟩
def iu (ws:Li)(x:d9):d9:=Sm (uc ws x) (ws.getD (x.w + 1) "") x
structure FH (ws:Li) (x:d9):Prop where
 w:x.w < ws.length
 may:eP (uc ws x) (x.O.map (aM x.S))=true
 nm:uc ws x∈named->x.w + 1 < ws.length/\cn (ws.getD (x.w + 1) "")
 o:∀o∈x.O,0<=o/\o < (x.S.length:Int)
theorem ma {α:Type}(f:α->α)(m:Nat)(x:α):∀n,Rm f (m + n) x=Rm f n (Rm f m x)
 | 0=>rfl
 | n + 1=>by rw[← Nat.add_assoc,Rm,Rm,ma f m x n]
def fH (ws:Li)(n:Nat)(x y:d9):Prop:=Rm (iu ws) n x=y/\∀i,i < n->FH ws (Rm (iu ws) i x)
theorem fH.refl {x:d9}:fH ws 0 x x:=⟨rfl,λi h=>by omega⟩
theorem fH.trans {m n:Nat}{x y z:d9}(h:fH ws m x y)(h':fH ws n y z):fH ws (m + n) x z:=by
 refine⟨by rw[ma,h.1];exact h'.1,λi hi=>?_⟩
 by_cases q:i < m
 ·exact h.2 i q
 ·have e:i=m + (i - m):=by omega
  rw[e,ma,h.1]
  exact h'.2 (i - m) (by omega)
theorem fH.cast {n:Nat}{x y y':d9}(h:fH ws n x y)(e:y=y'):fH ws n x y':=e▸h
theorem fH.one {x y:d9}(h:FH ws x)(e:iu ws x=y):fH ws 1 x y:=by
 refine⟨e,λi hi=>?_⟩
 obtain rfl:i=0:=by omega
 exact h
def nK (ws:Li)(w:Nat)(vs:Li):Prop:=∀(i:Nat) (v:Str),vs[i]?=some v->ws[w + i]?=some v
theorem nK.app {w:Nat}{a b:Li}(h:nK ws w (a++b)):nK ws w a/\nK ws (w + a.length) b:=by
 refine⟨λi v hv=>h i v ?_,λi v hv=>?_⟩
 ·rw[L4 (LC.mp hv).1];exact hv
 ·have:=h (a.length + i) v (by rw[L8 (by omega),show a.length + i - a.length=i by omega];exact hv)
  rw[show w + a.length + i=w + (a.length + i) by omega];exact this
theorem nK.d {w:Nat}{vs:Li}(h:nK ws w vs){i:Nat}{v:Str}(hv:vs[i]?=some v):ws.getD (w + i) ""=v/\w + i < ws.length:=by
 have:=h i v hv
 exact⟨by rw[LG,this];rfl,(LC.mp this).1⟩
mutual
def bJ:Th->Nat
 | .ifs _ a b=>3 + QY a + QY b
 | .Rg _ a=>2 + QY a
 | _=>1
def QY:List Th->Nat
 | []=>0
 | t::ts=>bJ t + QY ts
end
end
mutual
def spT (names:Li)(a w u:Int):Th->List aG
 | .RL x=>[⟨"do",x,w,u⟩]
 | .call j=>[⟨"call",names.getD j.toNat "",w,u⟩]
 | .ifs x A B=>[⟨"if",x,w,u⟩]++cy names (a + 1) (w + 2) a A++([⟨"else","",w + 2 + (Q5 names A).length,a⟩]++(cy names (a + 2 + QY A) (w + 3 + (Q5 names A).length) (a + 1 + QY A) B++[⟨"end","",w + 3 + (Q5 names A).length + (Q5 names B).length,a + 1 + QY A⟩]))
 | .Rg x A=>[⟨"while",x,w,u⟩]++(cy names (a + 1) (w + 2) a A++[⟨"end","",w + 2 + (Q5 names A).length,a⟩])
 | .leave=>[⟨"leave","",w,u⟩]
 | .back=>[⟨"back","",w,u⟩]
def cy (names:Li)(a w u:Int):List Th->List aG
 | []=>[]
 | t::ts=>spT names a w u t++cy names (a + bJ t) (w + (cD names t).length) u ts
end
mutual
theorem mi {names:Li}:∀(t:Th) (a w u:Int),(spT names a w u t).length=bJ t
 | .RL _,_,_,_=>by simp[spT,bJ]
 | .call _,_,_,_=>by simp[spT,bJ]
 | .ifs x A B,a,w,u=>by
   simp only[spT,bJ,LL,cu A,cu B,LR,Mc]
   omega
 | .Rg x A,a,w,u=>by
   simp only[spT,bJ,LL,cu A,LR,Mc]
   omega
 | .leave,_,_,_=>by simp[spT,bJ]
 | .back,_,_,_=>by simp[spT,bJ]
theorem cu {names:Li}:∀(ts:List Th) (a w u:Int),(cy names a w u ts).length=QY ts
 | [],_,_,_=>by simp[cy,QY]
 | t::ts,a,w,u=>by rw[cy,QY,LL,mi t,cu ts]
end
section
variable {O:Lh}{S:List aG}{x:d9}{n:Str}{a:Int}{S':List aG}{f:Int->Str}{s:aG}
structure Ctx (x:d9) (lp:Bool):Prop where
 ne:x.O≠[]
 o:∀o∈x.O,0<=o/\o < (x.S.length:Int)
 lp:lp=true->("while":Str)∈x.O.map (aM x.S)
theorem C5 {o:Int}(h0:0<=o)(h1:o < (S.length:Int)):aM (S++S') o=aM S o:=by
 unfold aM
 rw[LG,LG,L4 (by omega)]
theorem xY:aM (S++s::S') (S.length:Int)=s.kind:=by
 unfold aM
 rw[LG,show((S.length:Nat):Int).toNat=S.length by omega]
 simp
theorem uI (h:∀o∈O,0<=o/\o < (S.length:Int)):O.map (aM (S++S'))=O.map (aM S):=MZ λo ho=>C5 (h o ho).1 (h o ho).2
theorem Ctx.more {lp:Bool}(h:Ctx x lp)(S':List aG)(w:Nat):Ctx ⟨x.S++S',x.O,w⟩ lp:=
 ⟨h.ne,λo ho=>⟨(h.o o ho).1,by have:=(h.o o ho).2;show o < ((x.S++S').length:Int);rw[LL];omega⟩,λe=>by show _∈x.O.map (aM (x.S++S'));rw[uI h.o];exact h.lp e⟩
theorem Ctx.inner {lp lp':Bool}(h:Ctx x lp)(s:aG)(w:Nat)(hl:lp'=true->lp=true∨s.kind="while"):Ctx ⟨x.S++[s],x.O++[(x.S.length:Int)],w⟩ lp':=by
 refine⟨by simp,λo ho=>?_,λe=>?_⟩
 ·show _/\o < ((x.S++[s]).length:Int)
  rw[LL,L9]
  rcases LW.mp ho with z | z
  ·have:=h.o o z;omega
  ·rw[LH.mp z];omega
 ·show _∈(x.O++[(x.S.length:Int)]).map (aM (x.S++[s]))
  rw[L5,uI h.o]
  rcases hl e with z | z
  ·exact L7 _ (h.lp z)
  ·refine LU _ ?_
   rw[List.map_singleton,xY,z]
   exact LH.mpr rfl
theorem jc {k:Str}{ks:Li}(Q7:ks≠[])(h:k∈Ri)(hl:k≠"leave"):eP k ks=true:=by
 unfold eP
 have e:ks.isEmpty=false:=by cases ks with
  | nil=>exact absurd rfl Q7
  | cons _ _=>rfl
 have h1:k≠"else":=λz=>by rw[z] at h;revert h;decide +kernel
 have h2:k≠"end":=λz=>by rw[z] at h;revert h;decide +kernel
 rw[if_neg (by rw[e];decide),if_neg hl,if_neg h1,if_neg h2]
 exact decide_eq_true h
theorem lJ (h:O≠[]):O.map f≠[]:=λe=>h (List.map_eq_nil_iff.mp e)
theorem eZ {ws:Li}{k:Str}{vs:Li}{i:Nat}(hk:ws.getD x.w ""=k/\x.w < ws.length)(hn:k∈named->ws.getD (x.w + 1) ""=n/\x.w + 1 < ws.length/\cn n)(hm:eP k (x.O.map (aM x.S))=true)(ho:∀o∈x.O,0<=o/\o < (x.S.length:Int)):fH ws 1 x (Sm k n x):=by
 obtain⟨e1,h1⟩:=hk
 have e:uc ws x=k:=e1
 refine fH.one ⟨h1,by rw[e];exact hm,λh=>?_,ho⟩ ?_
 ·rw[e] at h
  obtain⟨e2,h2,h3⟩:=hn h
  exact⟨h2,by rw[e2];exact h3⟩
 ·unfold iu
  rw[e]
  by_cases h:k∈named
  ·rw[(hn h).1]
  ·unfold Sm;rw[if_neg h,if_neg h,if_neg h]
theorem rQ:((O++[a]).map f).getLast?.getD ""=f a:=by simp
theorem Ao (h:f a="if"):eP "else" ((O++[a]).map f)=true:=by
 unfold eP
 rw[if_neg (by simp),if_neg (by decide +kernel),if_pos rfl,rQ,h]
 rfl
theorem oK (h:f a≠"if"):eP "end" ((O++[a]).map f)=true:=by
 unfold eP
 rw[if_neg (by simp),if_neg (by decide +kernel),if_neg (by decide +kernel),if_pos rfl,rQ,decide_eq_false h]
 rfl
theorem yQ {ks:Li}(h:("while":Str)∈ks):eP "leave" ks=true:=by
 unfold eP
 rw[if_neg (by cases ks with
  | nil=>cases h
  | cons _ _=>simp),if_pos rfl]
 exact decide_eq_true h
abbrev uF (x:d9):Int:=x.O.getLast?.getD (-1)
theorem qS {k:Str}(h1:k∈named)(h2:k∉Q1)(h3:k∉Rv):Sm k n x=⟨x.S++[⟨k,n,x.w,uF x⟩],x.O,x.w + 2⟩:=by
 unfold Sm mW;rw[if_pos h1,if_pos h1,if_neg h2,if_neg h3,Mh]
theorem uz {k:Str}(h1:k∉named)(h2:k∉Q1)(h3:k∉Rv):Sm k n x=⟨x.S++[⟨k,"",x.w,uF x⟩],x.O,x.w + 1⟩:=by
 unfold Sm mW;rw[if_neg h1,if_neg h1,if_neg h2,if_neg h3,Mh]
theorem oz {k:Str}(h1:k∈named)(h2:k∉Q1)(h3:k∈Rv):Sm k n x=⟨x.S++[⟨k,n,x.w,uF x⟩],x.O++[(x.S.length:Int)],x.w + 2⟩:=by
 unfold Sm mW;rw[if_pos h1,if_pos h1,if_neg h2,if_pos h3]
theorem Ce {w:Nat}:Sm "else" n ⟨S,O++[a],w⟩=⟨S++[⟨"else","",w,a⟩],O++[(S.length:Int)],w + 1⟩:=by
 unfold Sm mW;rw[if_neg (show¬("else":Str)∈named by decide +kernel),if_neg (show¬("else":Str)∈named by decide +kernel),if_pos (show("else":Str)∈Q1 by decide +kernel),if_pos (show("else":Str)∈Rv by decide +kernel)];simp
theorem lr {w:Nat}:Sm "end" n ⟨S,O++[a],w⟩=⟨S++[⟨"end","",w,a⟩],O,w + 1⟩:=by
 unfold Sm mW;rw[if_neg (show¬("end":Str)∈named by decide +kernel),if_neg (show¬("end":Str)∈named by decide +kernel),if_pos (show("end":Str)∈Q1 by decide +kernel),if_neg (show¬("end":Str)∈Rv by decide +kernel)];simp
theorem nQ (h:∀o∈O,0<=o/\o < (S.length:Int))(S':List aG):∀o∈O++[(S.length:Int)],0<=o/\o < (((S++[s])++S').length:Int):=λo ho=>by
 rw[LL,LL,L9]
 rcases LW.mp ho with z | z
 ·have:=h o z;omega
 ·rw[LH.mp z];omega
theorem n9:aM ((S++[s])++S') (S.length:Int)=s.kind:=by rw[L1];exact xY
mutual
theorem K6 {ws names:Li}{lo m:Int}(hn:∀x∈names,cn x)(hm:m<=(names.length:Int))(T2:0<=lo):∀(t:Th) (lp:Bool) (x:d9),cH lo m lp t->nK ws x.w (cD names t)->Ctx x lp->
 fH ws (bJ t) x ⟨x.S++spT names (x.S.length:Int) (x.w:Int) (uF x) t,x.O,x.w + (cD names t).length⟩
 | .RL y,lp,x,h,hw,hc=>by
   simp only[cH] at h
   rw[cD] at hw
   have e1:=hw.d (i:=0) rfl
   have e2:=hw.d (i:=1) rfl
   have s:=eZ (n:=y) (vs:=[]) (i:=0) e1 (λ_=>⟨e2.1,e2.2,h⟩) (jc (lJ hc.ne) (by decide +kernel) (by decide +kernel)) hc.o
   rw[qS (by decide +kernel) (by decide +kernel) (by decide +kernel)] at s
   simp only[bJ,spT,cD]
   exact s
 | .call j,lp,x,h,hw,hc=>by
   simp only[cH] at h
   rw[cD] at hw
   have e1:=hw.d (i:=0) rfl
   have e2:=hw.d (i:=1) rfl
   have hj:cn (names.getD j.toNat ""):=by
    have hl:j.toNat < names.length:=by omega
    rw[LG,LD hl]
    exact hn _ (Mb hl)
   have s:=eZ (n:=names.getD j.toNat "") (vs:=[]) (i:=0) e1 (λ_=>⟨e2.1,e2.2,hj⟩) (jc (lJ hc.ne) (by decide +kernel) (by decide +kernel)) hc.o
   rw[qS (by decide +kernel) (by decide +kernel) (by decide +kernel)] at s
   simp only[bJ,spT,cD]
   exact s
 | .leave,lp,x,h,hw,hc=>by
   simp only[cH] at h
   rw[cD] at hw
   have e1:=hw.d (i:=0) rfl
   have s:=eZ (n:="") (vs:=[]) (i:=0) e1 (λz=>absurd z (by decide +kernel)) (yQ (hc.lp h)) hc.o
   rw[uz (by decide +kernel) (by decide +kernel) (by decide +kernel)] at s
   simp only[bJ,spT,cD]
   exact s
 | .back,lp,x,h,hw,hc=>by
   rw[cD] at hw
   have e1:=hw.d (i:=0) rfl
   have s:=eZ (n:="") (vs:=[]) (i:=0) e1 (λz=>absurd z (by decide +kernel)) (jc (lJ hc.ne) (by decide +kernel) (by decide +kernel)) hc.o
   rw[uz (by decide +kernel) (by decide +kernel) (by decide +kernel)] at s
   simp only[bJ,spT,cD]
   exact s
 | .Rg y A,lp,x,h,hw,hc=>by
   simp only[cH] at h
   rw[cD,L1] at hw
   obtain⟨w1,w2⟩:=hw.app
   obtain⟨w2,w3⟩:=w2.app
   have e1:=w1.d (i:=0) rfl
   have e2:=w1.d (i:=1) rfl
   have s1:=eZ (n:=y) (vs:=[]) (i:=0) e1 (λ_=>⟨e2.1,e2.2,h.1⟩) (jc (lJ hc.ne) (by decide +kernel) (by decide +kernel)) hc.o
   rw[oz (by decide +kernel) (by decide +kernel) (by decide +kernel)] at s1
   have s2:=sC (lo:=lo) (m:=m) hn hm T2 A true ⟨x.S++[(⟨"while",y,x.w,uF x⟩:aG)],x.O++[(x.S.length:Int)],x.w + 2⟩ h.2 w2 (hc.inner _ _ λ_=>.inr rfl)
   have hu:uF ⟨x.S++[(⟨"while",y,x.w,uF x⟩:aG)],x.O++[(x.S.length:Int)],x.w + 2⟩=(x.S.length:Int):=by unfold uF;simp
   rw[hu] at s2
   have e3:=w3.d (i:=0) rfl
   have s3:=eZ (ws:=ws) (x:=⟨x.S++[(⟨"while",y,x.w,uF x⟩:aG)]++cy names ((x.S++[(⟨"while",y,x.w,uF x⟩:aG)]).length:Int) ((x.w + 2:Nat):Int) (x.S.length:Int) A,x.O++[(x.S.length:Int)],x.w + 2 + (Q5 names A).length⟩) (n:="") (vs:=[]) (i:=0) e3 (λz=>absurd z (by decide +kernel)) (oK (by rw[n9];show("while":Str)≠"if";decide +kernel)) (nQ hc.o _)
   rw[lr] at s3
   have s:=(s1.trans s2).trans s3
   simp only[bJ,spT,cD]
   rw[show 1 + QY A + 1=2 + QY A by omega] at s
   refine s.cast ?_
   simp only[LL,LR,Mc,L1]
   push_cast
   simp only[d9.mk.injEq]
   refine⟨?_,trivial,?_⟩
   ·rw[show(x.w:Int) + 1 + 1=(x.w:Int) + 2 by omega]
   ·omega
 | .ifs y A B,lp,x,h,hw,hc=>by
   simp only[cH] at h
   rw[cD,L1,L1] at hw
   obtain⟨w1,w2⟩:=hw.app
   obtain⟨w2,w3⟩:=w2.app
   obtain⟨w3,w4⟩:=w3.app
   obtain⟨w4,w5⟩:=w4.app
   have e1:=w1.d (i:=0) rfl
   have e2:=w1.d (i:=1) rfl
   have s1:=eZ (n:=y) (vs:=[]) (i:=0) e1 (λ_=>⟨e2.1,e2.2,h.1⟩) (jc (lJ hc.ne) (by decide +kernel) (by decide +kernel)) hc.o
   rw[oz (by decide +kernel) (by decide +kernel) (by decide +kernel)] at s1
   generalize VB:(⟨"if",y,x.w,uF x⟩:aG)=s0 at s1
   have k0:s0.kind="if":=by rw[← VB]
   have s2:=sC (lo:=lo) (m:=m) hn hm T2 A lp ⟨x.S++[s0],x.O++[(x.S.length:Int)],x.w + 2⟩ h.2.1 w2 (hc.inner _ _ λz=>.inl z)
   have hu:uF ⟨x.S++[s0],x.O++[(x.S.length:Int)],x.w + 2⟩=(x.S.length:Int):=by unfold uF;simp
   rw[hu] at s2
   have e3:=w3.d (i:=0) rfl
   generalize U0:cy names ((x.S++[s0]).length:Int) ((x.w + 2:Nat):Int) (x.S.length:Int) A=SA at s2
   have lSA:SA.length=QY A:=by rw[← U0,cu]
   have s3:=eZ (ws:=ws) (x:=(⟨x.S++[s0]++SA,x.O++[(x.S.length:Int)],x.w + 2 + (Q5 names A).length⟩:d9)) (n:="") (vs:=[]) (i:=0) e3 (λz=>absurd z (by decide +kernel)) (Ao (by rw[n9,k0])) (nQ hc.o _)
   rw[Ce] at s3
   have c3:=(hc.more (s0::SA) (x.w + 2 + (Q5 names A).length)).inner (⟨"else","",((x.w + 2 + (Q5 names A).length:Nat):Int),(x.S.length:Int)⟩:aG) (x.w + 2 + (Q5 names A).length + 1) (lp':=lp) λz=>.inl z
   have el:x.S++s0::SA=x.S++[s0]++SA:=by simp
   dsimp only at c3
   rw[el] at c3
   generalize Uj:(⟨"else","",((x.w + 2 + (Q5 names A).length:Nat):Int),(x.S.length:Int)⟩:aG)=s1' at s3 c3
   have k1:s1'.kind≠"if":=by rw[← Uj];show("else":Str)≠"if";decide +kernel
   have s4:=sC (lo:=lo) (m:=m) hn hm T2 B lp _ h.2.2 w4 c3
   have hu2:uF ⟨x.S++[s0]++SA++[s1'],x.O++[((x.S++[s0]++SA).length:Int)],x.w + 2 + (Q5 names A).length + 1⟩=((x.S++[s0]++SA).length:Int):=by unfold uF;simp
   rw[hu2] at s4
   have e5:=w5.d (i:=0) rfl
   dsimp only at s4
   generalize hSB:cy names ((x.S++[s0]++SA++[s1']).length:Int) ((x.w + 2 + (Q5 names A).length + 1:Nat):Int) ((x.S++[s0]++SA).length:Int) B=SB at s4
   have s5:=eZ (ws:=ws) (x:=(⟨x.S++[s0]++SA++[s1']++SB,x.O++[((x.S++[s0]++SA).length:Int)],x.w + 2 + (Q5 names A).length + 1 + (Q5 names B).length⟩:d9)) (n:="") (vs:=[]) (i:=0) e5 (λz=>absurd z (by decide +kernel)) (oK (by rw[n9];exact k1)) (nQ (by
    intro o ho
    have:=(hc.more (s0::SA) 0).o o ho
    dsimp only at this
    rw[el] at this
    exact this) _)
   rw[lr] at s5
   have s:=(((s1.trans s2).trans s3).trans s4).trans s5
   simp only[bJ,spT,cD]
   rw[show 1 + QY A + 1 + QY B + 1=3 + QY A + QY B by omega] at s
   refine s.cast ?_
   subst VB Uj
   simp only[LL,LR,Mc,L1,lSA] at U0 hSB ⊢
   rw[← U0,← hSB]
   push_cast
   simp only[d9.mk.injEq]
   refine⟨?_,trivial,?_⟩
   ·rw[show(x.w:Int) + 1 + 1=(x.w:Int) + 2 by omega,show(x.w:Int) + 2 + ((Q5 names A).length:Int) + 1=(x.w:Int) + 3 + ((Q5 names A).length:Int) by omega,show(x.S.length:Int) + (1 + ((QY A:Int) + 1))=(x.S.length:Int) + 2 + (QY A:Int) by omega,show(x.S.length:Int) + (1 + (QY A:Int))=(x.S.length:Int) + 1 + (QY A:Int) by omega]
   ·omega
theorem sC {ws names:Li}{lo m:Int}(hn:∀x∈names,cn x)(hm:m<=(names.length:Int))(T2:0<=lo):∀(ts:List Th) (lp:Bool) (x:d9),bO lo m lp ts->nK ws x.w (Q5 names ts)->Ctx x lp->
 fH ws (QY ts) x ⟨x.S++cy names (x.S.length:Int) (x.w:Int) (uF x) ts,x.O,x.w + (Q5 names ts).length⟩
 | [],lp,x,h,hw,hc=>by
   simp only[QY,cy,Q5]
   refine fH.refl.cast ?_
   simp
 | t::ts,lp,x,h,hw,hc=>by
   simp only[bO] at h
   rw[Q5] at hw
   obtain⟨w1,w2⟩:=hw.app
   have s1:=K6 hn hm T2 t lp x h.1 w1 hc
   have s2:=sC hn hm T2 ts lp ⟨x.S++spT names (x.S.length:Int) (x.w:Int) (uF x) t,x.O,x.w + (cD names t).length⟩ h.2.2 w2 (hc.more _ _)
   have s:=s1.trans s2
   simp only[QY,cy,Q5]
   refine s.cast ?_
   simp only[LL,mi,L1]
   push_cast
   simp only[d9.mk.injEq]
   refine⟨trivial,trivial,?_⟩
   omega
end
end
def f7 (names:Li)(a w:Int):List (Str×List Th)->List aG
 | []=>[]
 | z::r=>[⟨"part",z.1,w, -1⟩]++(cy names (a + 1) (w + 2) a z.2++([⟨"end","",w + 2 + (Q5 names z.2).length,a⟩]++f7 names (a + 2 + QY z.2) (w + 3 + (Q5 names z.2).length) r))
def dh:List (Str×List Th)->Nat
 | []=>0
 | z::r=>2 + QY z.2 + dh r
theorem uY {names:Li}:∀(zs:List (Str×List Th)) (a w:Int),(f7 names a w zs).length=dh zs
 | [],_,_=>rfl
 | z::r,a,w=>by
   rw[f7,dh]
   simp only[LL,cu,uY r,LR,Mc]
   omega
theorem Et {ws names:Li}{m:Int}(hn:∀x∈names,cn x)(hm:m<=(names.length:Int)):∀(zs:List (Str×List Th)) (x:d9),(∀z∈zs,cn z.1/\∃lo,0<=lo/\bO lo m false z.2)->nK ws x.w (zs.flatMap (eG names))->x.O=[]->
 fH ws (dh zs) x ⟨x.S++f7 names (x.S.length:Int) (x.w:Int) zs,[],x.w + (zs.flatMap (eG names)).length⟩
 | [],x,h,hw,hc=>by
   refine fH.refl.cast ?_
   simp[f7,← hc]
 | z::r,x,h,hw,hc=>by
   obtain⟨S,O,w⟩:=x
   obtain rfl:O=[]:=hc
   obtain⟨hz,lo,T2,Q3⟩:=h z LP
   rw[MP] at hw
   obtain⟨hw,hwr⟩:=hw.app
   rw[show eG names z=S2 "part" z.1++(Q5 names z.2++S1 "end") by unfold eG;rw[L1]] at hw
   obtain⟨w1,w2⟩:=hw.app
   obtain⟨w2,w3⟩:=w2.app
   dsimp only at w1 w2 w3 hwr ⊢
   have e1:=w1.d (i:=0) rfl
   have e2:=w1.d (i:=1) rfl
   have s1:=eZ (x:=(⟨S,[],w⟩:d9)) (n:=z.1) (vs:=[]) (i:=0) e1 (λ_=>⟨e2.1,e2.2,hz⟩) (show eP "part" []=true by decide +kernel) (λo ho=>by cases ho)
   rw[oz (by decide +kernel) (by decide +kernel) (by decide +kernel)] at s1
   dsimp only at s1
   rw[show uF ⟨S,[],w⟩= -1 from rfl] at s1
   generalize VB:(⟨"part",z.1,(w:Int), -1⟩:aG)=s0 at s1
   have k0:s0.kind="part":=by rw[← VB]
   have c1:Ctx ⟨S++[s0],[]++[(S.length:Int)],w + 2⟩ false:=⟨by simp,λo ho=>by
    have e:o=(S.length:Int):=by simpa using ho
    show _/\o < ((S++[s0]).length:Int)
    rw[LL,L9,e];omega,λe=>by cases e⟩
   have s2:=sC (lo:=lo) (m:=m) hn hm T2 z.2 false _ Q3 w2 c1
   rw[show uF ⟨S++[s0],[]++[(S.length:Int)],w + 2⟩=(S.length:Int) from rfl] at s2
   dsimp only at s2
   generalize U0:cy names ((S++[s0]).length:Int) ((w + 2:Nat):Int) (S.length:Int) z.2=SA at s2
   have lSA:SA.length=QY z.2:=by rw[← U0,cu]
   have e3:=w3.d (i:=0) rfl
   have s3:=eZ (ws:=ws) (x:=(⟨S++[s0]++SA,[]++[(S.length:Int)],w + 2 + (Q5 names z.2).length⟩:d9)) (n:="") (vs:=[]) (i:=0) e3 (λz=>absurd z (by decide +kernel)) (oK (by rw[n9,k0];decide +kernel)) (nQ (λo ho=>by cases ho) _)
   rw[lr] at s3
   have s4:=Et hn hm r ⟨S++[s0]++SA++[⟨"end","",((w + 2 + (Q5 names z.2).length:Nat):Int),(S.length:Int)⟩],[],w + 2 + (Q5 names z.2).length + 1⟩ (λy hy=>h y (LN _ hy)) (by
    have e:w + 2 + (Q5 names z.2).length + 1=w + (eG names z).length:=by unfold eG;simp only[LL,LR,Mc];omega
    dsimp only
    rw[e];exact hwr) rfl
   have s:=((s1.trans s2).trans s3).trans s4
   rw[dh,show 2 + QY z.2 + dh r=1 + QY z.2 + 1 + dh r by omega]
   refine s.cast ?_
   subst VB
   dsimp only
   rw[f7,MP]
   have lp:(eG names z).length=3 + (Q5 names z.2).length:=by unfold eG;simp only[LL,LR,Mc];omega
   simp only[LL,LR,Mc,L1,lSA,lp] at U0 ⊢
   rw[← U0]
   push_cast
   simp only[d9.mk.injEq]
   refine⟨?_,trivial,?_⟩
   ·rw[show(w:Int) + 1 + 1=(w:Int) + 2 by omega,show(w:Int) + 2 + ((Q5 names z.2).length:Int) + 1=(w:Int) + 3 + ((Q5 names z.2).length:Int) by omega,show(S.length:Int) + (1 + ((QY z.2:Int) + 1))=(S.length:Int) + 2 + (QY z.2:Int) by omega]
   ·omega
abbrev aq (names:Li)(Ls:List (List Th)):List aG:=f7 names 0 0 (names.zip Ls)
theorem pW {names:Li}{Ls:List (List Th)}(h:dq names Ls):fH (ij names Ls) (dh (names.zip Ls)) ⟨[],[],0⟩ ⟨aq names Ls,[],(ij names Ls).length⟩:=by
 have:=Et (ws:=ij names Ls) (names:=names) (m:=(Ls.length:Int)) h.nm (by rw[h.l];omega) (names.zip Ls) ⟨[],[],0⟩ (λz hz=>by
  obtain⟨i,hi⟩:=LX.mp hz
  obtain⟨h1,h2⟩:=iV hi
  exact⟨h.nm z.1 (LO h1),(i:Int),by omega,h.ok i z.2 h2⟩) (λi v hv=>by
   show(ij names Ls)[0 + i]?=some v
   rw[NK];exact hv) rfl
 refine this.cast ?_
 simp[aq,ij]
structure jr (K:QA) (mg:Lf):Prop where
 most:∃t,mg "MOST_LETTERS"=some (.int 8 t)
 nost:∃t,mg "NO_STEP"=some (.int (-1) t)
 named:oW K mg "NAMED" named
 Ri:oW K mg "SENTENCES" Ri
 Rv:oW K mg "OPENING" Rv
 Q1:oW K mg "CLOSING" Q1
abbrev f9:Li:=["kind","name","word","within"]
theorem hU {x:Str}(h:decide (x∈f9)=true):x∈f9:=of_decide_eq_true h
def JK (s:aG):iW:=[("kind",ah.at_ s.kind),("name",ah.at_ s.name),("word",af.at_ s.word),("within",af.at_ s.within)]
def a9 (C:Addr):Rep aG:=⟨λK R v s=>∃x dx vs,v= .ref x/\R x=some (.ins C dx vs)/\fE (JK s) K R vs,λs ⟨x,dx,vs,e,h1,h2⟩=>⟨x,dx,vs,e,s _ _ h1,h2.mono s⟩⟩
section
variable {X:Cx}{Γ Γ1:Ga}{C:Addr}{e:Expr}{pos:Pos}{s:aG}
theorem fN (hC:bA X.K C f9)(he:EV X e Γ (a9 C) s Γ1)(hb:Oc e "kind" X.env (eval e X.env)=eval e X.env:=by rfl):EV X (.Attribute e "kind" pos) Γ ah s.kind Γ1:=iE hC (hU (by decide)) he (λK R v ⟨x,dx,vs,e,h1,h2⟩=>by obtain⟨u,q1,q2⟩:=h2.get (f:="kind") rfl;exact⟨x,dx,vs,u,e,h1,q1,q2⟩) hb
theorem nF (hC:bA X.K C f9)(he:EV X e Γ (a9 C) s Γ1)(hb:Oc e "name" X.env (eval e X.env)=eval e X.env:=by rfl):EV X (.Attribute e "name" pos) Γ ah s.name Γ1:=iE hC (hU (by decide)) he (λK R v ⟨x,dx,vs,e,h1,h2⟩=>by obtain⟨u,q1,q2⟩:=h2.get (f:="name") rfl;exact⟨x,dx,vs,u,e,h1,q1,q2⟩) hb
theorem HS (hC:bA X.K C f9)(he:EV X e Γ (a9 C) s Γ1)(hb:Oc e "word" X.env (eval e X.env)=eval e X.env:=by rfl):EV X (.Attribute e "word" pos) Γ af s.word Γ1:=iE hC (hU (by decide)) he (λK R v ⟨x,dx,vs,e,h1,h2⟩=>by obtain⟨u,q1,q2⟩:=h2.get (f:="word") rfl;exact⟨x,dx,vs,u,e,h1,q1,q2⟩) hb
theorem nB (hC:bA X.K C f9)(he:EV X e Γ (a9 C) s Γ1)(hb:Oc e "within" X.env (eval e X.env)=eval e X.env:=by rfl):EV X (.Attribute e "within" pos) Γ af s.within Γ1:=iE hC (hU (by decide)) he (λK R v ⟨x,dx,vs,e,h1,h2⟩=>by obtain⟨u,q1,q2⟩:=h2.get (f:="within") rfl;exact⟨x,dx,vs,u,e,h1,q1,q2⟩) hb
end
section
abbrev pM:Stmt:=match top BH with
 | .ClassDef _ _ _ b _ _ _ _ _ _ _=>b.getD 0 (.Pass ⟨0,0,0,0⟩)
 | s=>s
abbrev qv:Li:=["self","kind","name","word","within"]
theorem FK:aH qv qv (ai pM):=Rp
def JW (C0:Addr):xu:=λK C ps Pd=>C=C0/\∃s:aG,ps=[⟨ah,s.kind⟩,⟨ah,s.name⟩,⟨af,s.word⟩,⟨af,s.within⟩]/\Pd=λfs=>fs=JK s
theorem IK {C0:Addr}(HC:bA K C0 f9)(F:bD K "__init__" "Step.__init__" pM f fd):dz P w K mg base ee 1 f fd qv (tY (JW C0) K):=by
 have nd:=FK.nd
 refine xA F FK (λC qs Pd ⟨_,m,e,_⟩=>by rw[e];rfl) (λQ2 A outer st H E C x dx qs Pd hr hS=>?_)
 obtain⟨rfl,s,rfl,rfl⟩:=hS
 change WS _ _ [.ob ((fV C).bx [x,dx] []),.im ah s.kind,.im ah s.name,ao s.word,ao s.within] _ _
 refine aj (gx 0 HC (hU (by decide)) (aa 1 rfl) rfl rfl (by show 0 < 1000;decide) ?_)
 refine aj (gx 0 HC (hU (by decide)) (aa 2 rfl) rfl rfl (by show 1 < 1000;decide) ?_)
 refine aj (gx 0 HC (hU (by decide)) (aa 3 rfl) rfl rfl (by show 2 < 1000;decide) ?_)
 exact ak (gx 0 HC (hU (by decide)) (aa 4 rfl) rfl rfl (by show 3 < 1000;decide) ⟨_,rfl,rfl⟩)
abbrev xa:Stmt:=top wm
theorem D7:aH ["word"] ["word"] (ai xa):=Rp
def JB:cQ:=λK ps T=>∃x:Str,ps=[⟨ah,x⟩]/\cn x/\T=cg K bZ (· =true)
theorem He {x:Str}(h:cn x){c:Str}(hc:c∈fW x):∃n,c=⟨#[n]⟩/\97<=n/\n<=122:=by
 unfold fW at hc
 obtain⟨i,hi,rfl⟩:=LY.mp hc
 have hi:i < x.cps.size:=by simpa using hi
 refine⟨x.cps.getD i 0,rfl,h.az _ ?_⟩
 rw[Array.getD_eq_getD_getElem?]
 simp[hi]
theorem Hq {n:Nat}(h:97<=n/\n<=122):(!decide ((⟨#[n]⟩:Str).cps.toList < ("a":Str).cps.toList))=true/\(!decide (("z":Str).cps.toList < (⟨#[n]⟩:Str).cps.toList))=true:=by
 have ea:("a":Str).cps.toList=[97]:=by decide +kernel
 have ez:("z":Str).cps.toList=[122]:=by decide +kernel
 rw[ea,ez]
 have e1:¬([n]:List Nat) < [97]:=by intro z;cases z with
  | rel h1=>omega
  | cons h1=>cases h1
 have e2:¬([122]:List Nat) < [n]:=by intro z;cases z with
  | rel h1=>omega
  | cons h1=>cases h1
 exact⟨by rw[show(⟨#[n]⟩:Str).cps.toList=[n] from rfl,decide_eq_false e1];rfl,by rw[show(⟨#[n]⟩:Str).cps.toList=[n] from rfl,decide_eq_false e2];rfl⟩
theorem IP (M:bY K mg)(M2:jr K mg)(F:bD K "is_name" "is_name" xa f fd)(hm:mg "is_name"=some (.ref f))(hb:Binds K fd ["word"] []):aI P w K mg base "is_name" 1 (aK JB K):=by
 have nd:=D7.nd
 have Su:L3 [("sign":Str)]:=by decide
 refine bw F D7 hm hb (λqs T ⟨_,e,_⟩=>by rw[e];rfl) (λQ2 A outer s H E qs T hr hS=>?_)
 obtain⟨x,rfl,hx,rfl⟩:=hS
 obtain⟨t,hmo⟩:=M2.most
 change WS _ _ [.im ah x] _ _
 have hl:x.cps.size<=N7:=Nn hx.l8 (by decide)
 have hasc:x.cps.all (· < 128)=true:=by
  rw[Array.all_eq_true]
  intro i hi
  have:=hx.az x.cps[i] (by simp)
  exact decide_eq_true (by omega)
 have l1:=hx.l1
 have l8:=hx.l8
 refine ak (aX (tG (ng qC qC ev_int (BZ M.len (aa 0 rfl) hl) (dS hmo)) (λ_=>lH (sk M.all (aW.im (cq (own:=["sign"]) (fr:=[]) (ix:=[]) (ra:=ah) (rb:=bZ) (p:=λ_=>true) (f:=λ_=>true) (bH (so:=ai xa) (N0:=["word"]) rfl rfl (λx h=>bh h) (by decide +kernel)) (xP (aa 0 rfl) hasc hl)
  (λC s H ex=>aY 0) (λx=>⟨.inr rfl,trivial⟩) (λC s H ex c hc=>dg) (λC s H ex c hc _=>?_)))))) ?_)
 ·obtain⟨n,rfl,hn⟩:=He hx hc
  obtain⟨q1,q2⟩:=Hq hn
  exact EV.cast (ng Bc Bc aA (aa 0 rfl) aA) (by rw[q1,q2];rfl)
 ·have e1:decide ((1:Int)<=(x.length:Int))=true:=decide_eq_true (by omega)
  have e2:decide ((x.length:Int)<=8)=true:=decide_eq_true (by omega)
  rw[e1,e2]
  simp
abbrev Bl:Stmt:=top oR
theorem Ff:aH ["words","word"] ["words","word"] (ai Bl):=Rp
def JD:cQ:=λK ps T=>∃(ws:Li) (i:Nat),ps=[⟨ae ah,ws⟩,⟨af,(i:Int)⟩]/\i + 1 < ws.length/\cn (ws.getD (i + 1) "")/\T=cg K ah (· =ws.getD (i + 1) "")
theorem HL (M:bY K mg)(CI:aI P w K mg base "is_name" 1 (aK JB K))(F:bD K "name_behind" "name_behind" Bl f fd)(hm:mg "name_behind"=some (.ref f))(hb:Binds K fd ["words","word"] []):aI P w K mg base "name_behind" 2 (aK JD K):=by
 have nd:=Ff.nd
 refine bw F Ff hm hb (λqs T ⟨_,_,e,_⟩=>by rw[e];rfl) (λQ2 A outer s H E qs T hr hS=>?_)
 obtain⟨ws,i,rfl,hi,hn,rfl⟩:=hS
 change WS _ _ [.im (ae ah) ws,ao (i:Int)] _ _
 have RQ:bV ws ((i:Int) + 1)=some (ws.getD (i + 1) ""):=aQ (xs:=ws) (i:=((i:Int) + 1)) "" (by omega) (by omega)
 refine aj (bq (TW.tv (jj (ay fD (bK (aa 1 rfl) ev_int) (cJ M.len (aa 0 rfl))) (λ_=>jP (fc (dG (aE CI hr (ag (aZ (aa 0 rfl) (bK (aa 1 rfl) ev_int) RQ) aw) ⟨_,rfl,hn,rfl⟩)))))) (λh=>?_) (λh=>aN ?_))
 ·rw[decide_eq_false (show¬(i:Int) + 1=(ws.length:Int) by omega)] at h
  cases h
 ·exact ak (aX (aZ (aa 0 rfl) (bK (aa 1 rfl) ev_int) RQ) rfl)
abbrev Bd:Stmt:=top tF
theorem Fl:aH ["kind","opened"] ["kind","opened"] (ai Bd):=Rp
def Jv:cQ:=λK ps T=>∃(k:Str) (ks:Li),ps=[⟨ah,k⟩,⟨ae ah,ks⟩]/\T=cg K bZ (· =eP k ks)
theorem ux {ks:Li}(h:ks≠[]):bV ks (-1)=some (ks.getLast?.getD ""):=by
 obtain⟨l,x,rfl⟩:∃l x,ks=l++[x]:=⟨ks.dropLast,ks.getLast h,(Mo h).symm⟩
 unfold bV
 rw[show eD (l++[x]).length (-1)=some l.length by unfold eD;simp;omega]
 simp
theorem HQ (M2:jr K mg)(F:bD K "may_stand" "may_stand" Bd f fd)(hm:mg "may_stand"=some (.ref f))(hb:Binds K fd ["kind","opened"] []):aI P w K mg base "may_stand" 1 (aK Jv K):=by
 have nd:=Fl.nd
 refine bw F Fl hm hb (λqs T ⟨_,_,e,_⟩=>by rw[e];rfl) (λQ2 A outer s H E qs T hr hS=>?_)
 obtain⟨k,ks,rfl,rfl⟩:=hS
 change WS _ _ [.im ah k,.im (ae ah) ks] _ _
 refine aj (bq (fc (sL (aa 1 rfl))) (λh=>?_) (λh=>aN ?_))
 ·have h:ks.isEmpty=true:=by simpa using h
  exact ak (aX (dN cb (aa 0 rfl) aA) (by unfold eP;rw[if_pos h]))
 have h0:¬ks.isEmpty=true:=by simpa using h
 have Q7:ks≠[]:=λz=>h0 (by rw[z];rfl)
 refine aj (bq (ay cb (aa 0 rfl) aA) (λh=>?_) (λh=>aN ?_))
 ·have h:k="leave":=of_decide_eq_true h
  exact ak (aX (dN sO aA (aa 1 rfl)) (by unfold eP;rw[if_neg h0,if_pos h]))
 have h1:¬k="leave":=of_decide_eq_false h
 refine aj (bq (ay cb (aa 0 rfl) aA) (λh=>?_) (λh=>aN ?_))
 ·have h:k="else":=of_decide_eq_true h
  exact ak (aX (dN cb (aZ (aa 1 rfl) (gp ev_int) (ux Q7)) aA) (by unfold eP;rw[if_neg h0,if_neg h1,if_pos h]))
 have h2:¬k="else":=of_decide_eq_false h
 refine aj (bq (ay cb (aa 0 rfl) aA) (λh=>?_) (λh=>aN ?_))
 ·have h:k="end":=of_decide_eq_true h
  exact ak (aX (dN qf (aZ (aa 1 rfl) (gp ev_int) (ux Q7)) aA) (by unfold eP;rw[if_neg h0,if_neg h1,if_neg h2,if_pos h]))
 have h3:¬k="end":=of_decide_eq_false h
 exact ak (aX (dN jg (aa 0 rfl) (fP M2.Ri)) (by unfold eP;rw[if_neg h0,if_neg h1,if_neg h2,if_neg h3]))
end
theorem sU (ws:Li):∀i,(Rm (iu ws) i ⟨[],[],0⟩).S.length=i/\i<=(Rm (iu ws) i ⟨[],[],0⟩).w/\(Rm (iu ws) i ⟨[],[],0⟩).O.length<=i
 | 0=>⟨rfl,Nm _,Nm _⟩
 | i + 1=>by
   obtain⟨a,b,c⟩:=sU ws i
   rw[Rm]
   generalize Rm (iu ws) i ⟨[],[],0⟩=x at a b c
   unfold iu Sm
   refine⟨by rw[LL,a];rfl,?_,?_⟩
   ·dsimp only
    split<;>omega
   ·rw[LL]
    have h1:(if uc ws x∈Q1 then x.O.dropLast else x.O).length<=x.O.length:=by
     split
     ·rw[MM];omega
     ·exact Nm _
    have h2:(if uc ws x∈Rv then[(x.S.length:Int)] else[]).length<=1:=by split<;>simp
    omega
theorem zJ {O:Lh}(h:O≠[]):bV O (-1)=some (O.getLast?.getD (-1)):=by
 obtain⟨l,x,rfl⟩:∃l x,O=l++[x]:=⟨O.dropLast,O.getLast h,(Mo h).symm⟩
 unfold bV
 rw[show eD (l++[x]).length (-1)=some l.length by unfold eD;simp;omega]
 simp
theorem Af {O:Lh}(h:O≠[]):O[O.length - 1]?=some (O.getLast?.getD (-1)):=by
 obtain⟨l,x,rfl⟩:∃l x,O=l++[x]:=⟨O.dropLast,O.getLast h,(Mo h).symm⟩
 simp
section
structure v7 (P:Ob) (w:World) (K:QA) (mg:Lf) (base:Heap) (C:Addr):Prop where
 cl:bA K C f9
 ex:∃fi SV,Mk K C fi/\dz P w K mg base ee 1 fi SV qv (tY (JW C) K)/\Binds K SV qv []
 mg:mg "Step"=some (.ref C)
theorem C8 {X:Cx}{Γ Γ1:Ga}{C:Addr}{e:Expr}{es:Lm}{p pos:Pos}{s:aG}(G:v7 X.prog X.w X.K X.mg X.base C)(hr:bI 2 X.A)(ha:HA X (e::es) Γ [⟨ah,s.kind⟩,⟨ah,s.name⟩,⟨af,s.word⟩,⟨af,s.within⟩] Γ1)
 (hg:Gl X "Step":=by rfl) (he:N8 (e::es) X.env=(false,eval e X.env)::N8 es X.env:=by rfl) (Rj:(Oe pos (N8 es X.env)).any (·.1)=false:=by rfl):EV X (.Call (.Name "Step" p) (e::es) [] pos) Γ (a9 C) s Γ1:=by
 obtain⟨fi,SV,MK,SI,bi⟩:=G.ex
 exact uJ MK SI hr G.mg bi ha ⟨rfl,s,rfl,rfl⟩ (λfs R x dx vs hP h1 h2=>by subst hP;exact⟨x,dx,vs,rfl,h2,h1⟩) hg (by decide) he Rj
abbrev wK:Stmt:=top Dg
abbrev JZ:Li:=["text","words","steps","opened","word","kind","name"]
theorem Ge:aH JZ ["text"] (ai wK):=Rp
def J0 (C:Addr):cQ:=λK ps T=>∃(ws:Li) (n:Nat) (S:List aG),ps=[⟨ah,Qq " " ws⟩]/\ws≠[]/\ws.length<=240/\(∀w∈ws,fu w)/\fH ws n ⟨[],[],0⟩ ⟨S,[],ws.length⟩/\T=cg K (ae (a9 C)) (· =S)
theorem yZ {ws:Li}(h:∀w∈ws,fu w)(hl:ws.length<=240):(Qq " " ws).length<=N7:=by
 have:=joinOk_length (uG hl h)
 rwa [uC] at this
theorem Hl {C:Addr}(M:bY K mg)(M2:jr K mg)(G:v7 P w K mg base C)(CM:aI P w K mg base "may_stand" 1 (aK Jv K))(CN:aI P w K mg base "name_behind" 2 (aK JD K))(F:bD K "read" "read" wK f fd)(hm:mg "read"=some (.ref f))(hb:Binds K fd ["text"] []):aI P w K mg base "read" 3 (aK (J0 C) K):=by
 have nd:=Ge.nd
 have Su:L3 [("number":Str),"steps"]:=by decide
 have CM:=CM.mono (show 1<=2 by decide)
 refine bw (k:=2) F Ge hm hb (λqs T ⟨_,_,_,e,_⟩=>by rw[e];rfl) (λQ2 A outer s H E qs T hr hS=>?_)
 obtain⟨ws,n,S,rfl,Q7,hl,hw,UN,rfl⟩:=hS
 obtain⟨t,Tr⟩:=M2.nost
 have Tb:Qs (Qq " " ws) " "=ws:=by
  rw[Ax]
  exact vO Q7 λw h=>(hw w h).f
 change WS _ _ [.im ah (Qq " " ws),.no,.no,.no,.no,.no,.no] _ _
 generalize hj:Qq " " ws=txt at Tb
 have htl:txt.length<=N7:=by rw[← hj];exact yZ hw hl
 refine aj (aU 1 (y:=ws) (EV.cast (aW.im (xG (aa 0 rfl) aA (by decide +kernel) htl (by rw[Tb];exact aD (by omega)))) Tb) ?_)
 refine aj (cz 2 (r:=a9 C) (ys:=[]) (aP aO (Np _)) ?_)
 refine aj (cz 3 (r:=af) (ys:=[]) (aP aO (Np _)) ?_)
 refine aj (aU 4 (y:=(0:Int)) ev_int ?_)
 change WS _ _ [.im ah txt,.im (ae ah) ws,.mu (a9 C) [],.mu af [],ao 0,.no,.no] _ _
 have hinv:=sU ws
 have R7:∀i,Rm (iu ws) (i + 1) ⟨[],[],0⟩=iu ws (Rm (iu ws) i ⟨[],[],0⟩):=λi=>rfl
 have h0:Rm (iu ws) 0 ⟨[],[],0⟩=⟨[],[],0⟩:=rfl
 obtain⟨Sn,hrd⟩:=UN
 generalize hx:(λi=>Rm (iu ws) i ⟨[],[],0⟩)=x at *
 have hxi:∀i,Rm (iu ws) i ⟨[],[],0⟩=x i:=λi=>by rw[← hx]
 simp only[hxi] at hinv R7 h0 Sn hrd
 refine bL (N1:=λΓ=>∃e5 e6,Γ=[.im ah txt,.im (ae ah) ws,.mu (a9 C) S,.mu af [],ao (ws.length:Int),e5,e6]) (j2 (λk Γ=>∃i,k + i=n/\∃e5 e6,Γ=[.im ah txt,.im (ae ah) ws,.mu (a9 C) (x i).S,.mu af (x i).O,ao ((x i).w:Int),e5,e6]) (m0:=n) ⟨0,rfl,_,_,by rw[h0];rfl⟩ (λk Γ hI=>?_)) ?_
 ·obtain⟨i,hki,e5,e6,rfl⟩:=hI
  obtain⟨iS,iw,iO⟩:=hinv i
  refine⟨decide (((x i).w:Int) < (ws.length:Int)),_,ay kC (aa 4 rfl) (cJ M.len (aa 1 rfl)),λh=>?_,λh=>?_⟩
  ·have h:((x i).w:Int) < (ws.length:Int):=of_decide_eq_true h
   have Sj:i < n:=by
    rcases Nv i n with z | z
    ·exact z
    ·exfalso
     have:i=n:=by omega
     rw[this,Sn] at h
     exact absurd h (Int.lt_irrefl _)
   obtain⟨rw_,SM,Vm,ro⟩:=hrd i Sj
   have hs:=R7 i
   generalize x i=y at iS iw iO rw_ SM Vm ro hs h
   obtain⟨Sy,Oy,wy⟩:=y
   dsimp only at iS iw iO rw_ SM Vm ro h ⊢
   have RQ:bV ws (wy:Int)=some (ws.getD wy ""):=aQ (xs:=ws) (i:=(wy:Int)) "" (by omega) h
   refine aj (aU 5 (y:=ws.getD wy "") (aZ (aa 1 rfl) (aa 4 rfl) RQ) ?_)
   rw[show iu ws ⟨Sy,Oy,wy⟩=Sm (ws.getD wy "") (ws.getD (wy + 1) "") ⟨Sy,Oy,wy⟩ from rfl] at hs
   change eP (ws.getD wy "") (Oy.map (aM Sy))=true at SM
   change ws.getD wy ""∈named->wy + 1 < ws.length/\cn (ws.getD (wy + 1) "") at Vm
   generalize hkd:ws.getD wy ""=kd at SM Vm hs
   change WS _ _ [.im ah txt,.im (ae ah) ws,.mu (a9 C) Sy,.mu af Oy,ao (wy:Int),.im ah kd,e6] _ _
   have cc:(Oy.filter λ_=>true).map (aM Sy)=Oy.map (aM Sy):=by rw[Mi.mpr λ_ _=>rfl]
   refine aj (bq (TV.So (Ci (i:=2) (j:=3) (by decide) rfl rfl (aD (by omega)) (aD (by omega))) (fc (dG (aE CM hr (ag (aa 5 rfl) (ag (aW.im (cq (own:=["number"]) (fr:=["steps"]) (ix:=[2]) (ra:=af) (rb:=ah) (p:=λ_=>true) (f:=aM Sy) (bH (so:=ai wK) (N0:=JZ) rfl rfl (λx h=>bh h) (by decide +kernel)) (bR (aa 3 rfl))
    (λC s H ex=>aY 0) (λx=>⟨.inr rfl,.inl rfl,trivial⟩) (λC s H ex c hc=>dg) (λC' s H ex o ho _=>fN (C:=C) G.cl (aZ (aa 1 rfl) (aa 0 rfl) (aQ (xs:=Sy) (i:=o) dJ (ro o ho).1 (ro o ho).2))))) aw)) ⟨kd,Oy.map (aM Sy),by rw[cc],rfl⟩)))) (λhh=>?_) (λ_=>aN ?_))
   ·rw[SM] at hh;cases hh
   have Um:kd∈named->wy + 1 < ws.length/\cn (ws.getD (wy + 1) ""):=Vm
   refine aj (aU 6 (y:=if kd∈named then ws.getD (wy + 1) "" else "") (EV.cast (jk (ay jg (aa 5 rfl) (fP M2.named)) (λhh=>aE CN hr (ag (aa 1 rfl) (ag (aa 4 rfl) aw)) ⟨ws,wy,rfl,(Um (of_decide_eq_true hh)).1,(Um (of_decide_eq_true hh)).2,rfl⟩) (λ_=>aA)) (by by_cases z:kd∈named<;>simp[z])) ?_)
   generalize hnam:(if kd∈named then ws.getD (wy + 1) "" else "")=TY
   change WS _ _ [.im ah txt,.im (ae ah) ws,.mu (a9 C) Sy,.mu af Oy,ao (wy:Int),.im ah kd,.im ah TY] _ _
   have VR:(if(!Oy.isEmpty)=true then Oy.getLast?.getD (-1) else -1)=Oy.getLast?.getD (-1):=by cases Oy<;>rfl
   refine aj (eh 2 (y:=(⟨kd,TY,(wy:Int),Oy.getLast?.getD (-1)⟩:aG)) (C8 (s:=⟨kd,TY,(wy:Int),Oy.getLast?.getD (-1)⟩) G hr (ag (aa 5 rfl) (ag (aa 6 rfl) (ag (aa 4 rfl) (ag (EV.cast (jk (jK 3 rfl) (λhh=>lh 3 (gp ev_int) rfl rfl (zJ (λz=>by rw[z] at hh;cases hh))) (λ_=>dS Tr)) VR) aw))))) rfl rfl (Nr (show _<=1000 by omega) (by decide)) ?_)
   change WS _ _ [.im ah txt,.im (ae ah) ws,.mu (a9 C) (Sy++[⟨kd,TY,(wy:Int),Oy.getLast?.getD (-1)⟩]),.mu af Oy,ao (wy:Int),.im ah kd,.im ah TY] _ _
   have hS':(Sm kd (ws.getD (wy + 1) "") ⟨Sy,Oy,wy⟩).S=Sy++[⟨kd,TY,(wy:Int),Oy.getLast?.getD (-1)⟩]:=by unfold Sm mW;dsimp only;rw[hnam]
   rw[← hS']
   have hSl:(Sm kd (ws.getD (wy + 1) "") ⟨Sy,Oy,wy⟩).S.length=Sy.length + 1:=by rw[hS',LL];rfl
   have hOe:(Sm kd (ws.getD (wy + 1) "") ⟨Sy,Oy,wy⟩).O=(if kd∈Q1 then Oy.dropLast else Oy)++(if kd∈Rv then[(Sy.length:Int)] else[]):=rfl
   have hwe:(Sm kd (ws.getD (wy + 1) "") ⟨Sy,Oy,wy⟩).w=wy + (if kd∈named then 2 else 1):=rfl
   generalize Sm kd (ws.getD (wy + 1) "") ⟨Sy,Oy,wy⟩=z at hs hS' hSl hOe hwe
   refine bL (N1:=λΓ=>Γ=[.im ah txt,.im (ae ah) ws,.mu (a9 C) z.S,.mu af (if kd∈Q1 then Oy.dropLast else Oy),ao (wy:Int),.im ah kd,.im ah TY]) (bq (ay jg (aa 5 rfl) (fP M2.Q1)) (λhh=>?_) (λhh=>aN ?_)) ?_
   ·have hh:kd∈Q1:=of_decide_eq_true hh
    have hOne:Oy≠[]:=λe=>by
     rw[e] at SM
     have:kd="part":=of_decide_eq_true SM
     rw[this] at hh
     exact absurd hh (by decide +kernel)
    refine ak (nW (qP 3 rfl (Af hOne)) ?_)
    rw[if_pos hh];rfl
   ·have hh:¬kd∈Q1:=of_decide_eq_false hh
    rw[if_neg hh]
   rintro _ rfl
   have hOl:(if kd∈Q1 then Oy.dropLast else Oy).length<=Oy.length:=by
    split
    ·rw[MM];omega
    ·exact Nm _
   generalize (if kd∈Q1 then Oy.dropLast else Oy)=O1 at hOe hOl
   refine bL (N1:=λΓ=>Γ=[.im ah txt,.im (ae ah) ws,.mu (a9 C) z.S,.mu af z.O,ao (wy:Int),.im ah kd,.im ah TY]) (bq (ay jg (aa 5 rfl) (fP M2.Rv)) (λhh=>?_) (λhh=>aN ?_)) ?_
   ·have hh:kd∈Rv:=of_decide_eq_true hh
    refine ak (eh 3 (EV.cast (y':=(Sy.length:Int)) (fL (oE 2 M.len rfl) ev_int) (by omega)) rfl rfl (Nr (show _<=1000 by omega) (by decide)) ?_)
    rw[hOe,if_pos hh];rfl
   ·have hh:¬kd∈Rv:=of_decide_eq_false hh
    rw[hOe,if_neg hh,Mh]
   rintro _ rfl
   refine ak (xq 4 (c:=if kd∈named then 2 else 1) (EV.cast (jk (ay jg (aa 5 rfl) (fP M2.named)) (λ_=>ev_int) (λ_=>ev_int)) (by by_cases z:kd∈named<;>simp[z])) rfl ⟨k - 1,by omega,i + 1,by omega,.im ah kd,.im ah TY,?_⟩)
   rw[hs,hwe]
   by_cases q:kd∈named
   ·rw[if_pos q,if_pos q];rfl
   ·rw[if_neg q,if_neg q];rfl
  ·have h:¬((x i).w:Int) < (ws.length:Int):=of_decide_eq_false h
   have Sj:i=n:=by
    rcases Nv i n with z | z
    ·exact absurd (by have:=(hrd i z).w;omega) h
    ·omega
   subst Sj
   refine⟨e5,e6,?_⟩
   rw[Sn]
 rintro _ ⟨e5,e6,rfl⟩
 have hSn:S.length<=240:=by
  obtain⟨a,b,c⟩:=hinv n
  rw[Sn] at a b
  dsimp only at a b
  omega
 refine aj (bq (jK 3 rfl) (λhh=>by cases hh) (λ_=>aN ?_))
 refine WS.freeze 2 rfl (aD (by omega)) ?_
 exact ak (aX (aa 2 rfl) rfl)
end
theorem ru {A:Od}{k:Nat}(hr:bI k A):A.units + 1 < cLine:=by have:=hr.units;omega
def fz (F:Ln)(z:Int×aG):Ln:=if z.2.kind∈Q1 then kI F z.2.within z.1 else F
def dm (S:List aG):Ln:=(nums S).foldl fz []
theorem zr {F:Ln}{z:Int×aG}:(fz F z).length<=F.length + 1:=by
 unfold fz
 split
 ·exact z9 _ _ _
 ·omega
theorem Fi (S:List aG)(i:Nat):(((nums S).take i).foldl fz []).length<=i:=by
 induction i with
 | zero=>exact Nm _
 | succ i ih=>
   rw[Mm,MO]
   cases e:(nums S)[i]? with
   | none=>exact Nat.le_succ_of_le ih
   | some z=>
     show(fz _ z).length<=_
     exact Nn zr (by omega)
abbrev bW (S:List aG)(o:Int):Int:=(S.getD o.toNat dJ).within
def Ar (S:List aG)(n:Int)(kd:Str)(a:Int):Prop:=∃k:Nat,Rm (bW S) k (bW S n)=a/\(∀j,j<=k->0<=Rm (bW S) j (bW S n)/\Rm (bW S) j (bW S n) < (S.length:Int))/\(∀j,j < k->aM S (Rm (bW S) j (bW S n))≠kd)/\aM S a=kd
inductive dF (S:List aG) (F:Ln) (n:Int):Lh->Prop
 | row {c:Int} (h:aM S n="if"∨aM S n="while") (hc:bB F n=some c):dF S F n [n + 1,c + 1]
 | Uv {c:Int} (h:aM S n="else") (hc:bB F n=some c):dF S F n [c]
 | Ud {a c:Int} (h:aM S n="leave") (ha:Ar S n "while" a) (hc:bB F a=some c):dF S F n [c + 1]
 | Uy {a c:Int} (h:aM S n="back") (ha:Ar S n "part" a) (hc:bB F a=some c):dF S F n [c]
 | Ut (h:aM S n="end") (h0:0<=bW S n) (h1:bW S n < (S.length:Int)) (hk:aM S (bW S n)="while"):dF S F n [bW S n]
 | T8 (h:aM S n="end") (h0:0<=bW S n) (h1:bW S n < (S.length:Int)) (hk:aM S (bW S n)="part"):dF S F n []
 | Uu (h:aM S n="end") (h0:0<=bW S n) (h1:bW S n < (S.length:Int)) (hk:aM S (bW S n)="else"):dF S F n [n + 1]
 | Tv (h:aM S n="part"∨aM S n="do"∨aM S n="call"):dF S F n [n + 1]
section
variable {C:Addr}
abbrev A1:Stmt:=top mM
abbrev nCS:Li:=["steps","closing","number","step"]
theorem D9:aH nCS ["steps"] (ai A1):=Rp
def DJ (C:Addr):cQ:=λK ps T=>∃S:List aG,ps=[⟨ae (a9 C),S⟩]/\S.length<=1000/\T=cg K g9 (· =dm S)
theorem Ih (M:bY K mg)(M2:jr K mg)(HC:bA K C f9)(F:bD K "closing_steps" "closing_steps" A1 f fd)(hm:mg "closing_steps"=some (.ref f))(hb:Binds K fd ["steps"] []):aI P w K mg base "closing_steps" 1 (aK (DJ C) K):=by
 have nd:=D9.nd
 refine bw F D9 hm hb (λqs T ⟨_,e,_⟩=>by rw[e];rfl) (λQ2 A outer s H E qs T hr hS=>?_)
 obtain⟨S,rfl,hl,rfl⟩:=hS
 change WS _ _ [.im (ae (a9 C)) S,.no,.no,.no] _ _
 refine aj (oV 1 ?_)
 refine bL (N1:=λΓ=>∃e2 e3,Γ=[.im (ae (a9 C)) S,.di (cI (dm S)),e2,e3]) (cC (λi Γ=>∃e2 e3,Γ=[.im (ae (a9 C)) S,.di (cI (((nums S).take i).foldl fz [])),e2,e3]) (gL M.enumerate (aa 0 rfl)) (ft 2 3) ⟨_,_,rfl⟩ (λi z Γ hz hΓ=>?_) (λΓ hΓ=>?_)) ?_
 ·obtain⟨e2,e3,rfl⟩:=hΓ
  obtain⟨n,st⟩:=z
  have fl:=Fi S i
  have il:i < S.length:=by have:=(LC.mp hz).1;rwa [cR] at this
  have Si:((nums S).take (i + 1)).foldl fz []=fz (((nums S).take i).foldl fz []) (n,st):=by rw[Mm,hz,MO];rfl
  rw[Si]
  generalize ((nums S).take i).foldl fz []=Fd at fl
  change WS _ _ [.im (ae (a9 C)) S,.di (cI Fd),ao n,.im (a9 C) st] _ _
  refine ak (bq (ay jg (fN (C:=C) HC (aa 3 rfl)) (fP M2.Q1)) (λh=>?_) (λh=>aN ⟨ao n,.im (a9 C) st,?_⟩))
  ·have h:st.kind∈Q1:=of_decide_eq_true h
   refine ak (FA 1 (ru hr) (nB (C:=C) HC (aa 3 rfl)) (aa 2 rfl) rfl (Nr (show _<=1000 by omega) (by decide)) ⟨ao n,.im (a9 C) st,?_⟩)
   unfold fz;rw[if_pos h];rfl
  ·have h:¬st.kind∈Q1:=of_decide_eq_false h
   unfold fz;rw[if_neg h]
 ·obtain⟨e2,e3,rfl⟩:=hΓ
  refine⟨e2,e3,?_⟩
  rw[Mn];rfl
 rintro _ ⟨e2,e3,rfl⟩
 exact ak (uB 1 rfl rfl)
abbrev Bk:Stmt:=top yD
abbrev nAR:Li:=["steps","number","kind","found"]
theorem ER:aH nAR ["steps","number","kind"] (ai Bk):=Rp
def JM (C:Addr):cQ:=λK ps T=>∃(S:List aG) (n a:Int) (kd:Str),ps=[⟨ae (a9 C),S⟩,⟨af,n⟩,⟨ah,kd⟩]/\0<=n/\n < (S.length:Int)/\Ar S n kd a/\T=cg K af (· =a)
theorem Il (HC:bA K C f9)(F:bD K "around" "around" Bk f fd)(hm:mg "around"=some (.ref f))(hb:Binds K fd ["steps","number","kind"] []):aI P w K mg base "around" 1 (aK (JM C) K):=by
 have nd:=ER.nd
 refine bw F ER hm hb (λqs T ⟨_,_,_,_,e,_⟩=>by rw[e];rfl) (λQ2 A outer s H E qs T hr hS=>?_)
 obtain⟨S,n,a,kd,rfl,n0,n1,⟨k,ha,Sj,Q7,hk⟩,rfl⟩:=hS
 change WS _ _ [.im (ae (a9 C)) S,ao n,.im ah kd,.no] _ _
 refine aj (aU 3 (y:=bW S n) (nB (C:=C) HC (aZ (aa 0 rfl) (aa 1 rfl) (aQ (xs:=S) (i:=n) dJ n0 n1))) ?_)
 refine bL (N1:=λΓ=>Γ=[.im (ae (a9 C)) S,ao n,.im ah kd,ao a]) (j2 (λm Γ=>∃i,m + i=k/\Γ=[.im (ae (a9 C)) S,ao n,.im ah kd,ao (Rm (bW S) i (bW S n))]) (m0:=k) ⟨0,rfl,rfl⟩ (λm Γ hI=>?_)) ?_
 ·obtain⟨i,hi,rfl⟩:=hI
  obtain⟨o0,o1⟩:=Sj i (by omega)
  have hs:Rm (bW S) (i + 1) (bW S n)=bW S (Rm (bW S) i (bW S n)):=rfl
  have VL:=Q7 i
  have hki:i=k->aM S (Rm (bW S) i (bW S n))=kd/\Rm (bW S) i (bW S n)=a:=λe=>by rw[e,ha];exact⟨hk,rfl⟩
  generalize Rm (bW S) i (bW S n)=o at o0 o1 hs VL hki
  refine⟨!decide (aM S o=kd),_,ay qf (fN (C:=C) HC (aZ (aa 0 rfl) (aa 3 rfl) (aQ (xs:=S) (i:=o) dJ o0 o1))) (aa 2 rfl),λh=>?_,λh=>?_⟩
  ·have h:¬aM S o=kd:=by simpa using h
   have ik:i < k:=by
    rcases Nv i k with z | z
    ·exact z
    ·exact absurd (hki (by omega)).1 h
   exact ak (aU 3 (nB (C:=C) HC (aZ (aa 0 rfl) (aa 3 rfl) (aQ (xs:=S) (i:=o) dJ o0 o1))) ⟨m - 1,by omega,i + 1,by omega,by rw[hs];rfl⟩)
  ·have h:aM S o=kd:=by simpa using h
   have ik:i=k:=by
    rcases Nv i k with z | z
    ·exact absurd h (VL z)
    ·omega
   rw[(hki ik).2]
 rintro _ rfl
 exact ak (aX (aa 3 rfl) rfl)
abbrev A5:Stmt:=top qc
abbrev nLF:Li:=["steps","closing","number","kind","ended"]
abbrev J3:Li:=["steps","closing","number"]
theorem Gm:aH nLF J3 (ai A5):=Rp
def Jx (C:Addr):cQ:=λK ps T=>∃(S:List aG) (F:Ln) (n:Int) (ls:Lh),ps=[⟨ae (a9 C),S⟩,⟨g9,F⟩,⟨af,n⟩]/\0<=n/\n < (S.length:Int)/\dF S F n ls/\T=cg K (ae af) (· =ls)
def ub (S:List aG)(n:Int):Str:=if aM S n="end" then aM S (bW S n) else ""
theorem Jn (HC:bA K C f9)(CA:aI P w K mg base "around" 1 (aK (JM C) K))(F:bD K "leads_from" "leads_from" A5 f fd)(hm:mg "leads_from"=some (.ref f))(hb:Binds K fd J3 []):aI P w K mg base "leads_from" 2 (aK (Jx C) K):=by
 have nd:=Gm.nd
 refine bw F Gm hm hb (λqs T ⟨_,_,_,_,e,_⟩=>by rw[e];rfl) (λQ2 A outer s H E qs T hr hS=>?_)
 obtain⟨S,Fd,n,ls,rfl,n0,n1,hL,rfl⟩:=hS
 have hu:=ru hr
 have RQ:bV S n=some (S.getD n.toNat dJ):=aQ (xs:=S) (i:=n) dJ n0 n1
 have hen:aM S n="end"->0<=bW S n/\bW S n < (S.length:Int):=λh=>by
  cases hL with
  | row g hc=>rcases g with g | g<;>rw[g] at h<;>exact absurd h (by decide +kernel)
  | Uv g hc=>rw[g] at h;exact absurd h (by decide +kernel)
  | Ud g ha hc=>rw[g] at h;exact absurd h (by decide +kernel)
  | Uy g ha hc=>rw[g] at h;exact absurd h (by decide +kernel)
  | Ut g h0 h1 hk=>exact⟨h0,h1⟩
  | T8 g h0 h1 hk=>exact⟨h0,h1⟩
  | Uu g h0 h1 hk=>exact⟨h0,h1⟩
  | Tv g=>rcases g with g | g | g<;>rw[g] at h<;>exact absurd h (by decide +kernel)
 change WS _ _ [.im (ae (a9 C)) S,.im g9 Fd,ao n,.no,.no] _ _
 refine aj (aU 3 (y:=aM S n) (fN (C:=C) HC (aZ (aa 0 rfl) (aa 2 rfl) RQ)) ?_)
 refine aj (aU 4 (y:=ub S n) (EV.cast (jk (x:=aM S (bW S n)) (ay cb (aa 3 rfl) aA) (λh=>fN (C:=C) HC (aZ (aa 0 rfl) (nB (C:=C) HC (aZ (aa 0 rfl) (aa 2 rfl) RQ)) (aQ (xs:=S) (i:=bW S n) dJ (hen (of_decide_eq_true h)).1 (hen (of_decide_eq_true h)).2))) (λ_=>aA)) (by unfold ub;by_cases h:aM S n="end"<;>simp[h])) ?_)
 change WS _ _ [.im (ae (a9 C)) S,.im g9 Fd,ao n,.im ah (aM S n),.im ah (ub S n)] _ _
 have en0:aM S n≠"end"->ub S n="":=λh=>if_neg h
 have Vh:aM S n="end"->ub S n=aM S (bW S n):=λh=>if_pos h
 generalize hE:ub S n=ed at en0 Vh
 have one_le:(1:Nat)<=N7:=by decide
 refine aj (bq (ay jg (aa 3 rfl) (u6 (xs:=["if","while"]) (av (EV.pS aA) (av (EV.pS aA) aO)) (by show 2<=N7;decide))) (λh=>?_) (λh=>aN ?_))
 ·have h:aM S n∈(["if","while"]:Li):=of_decide_eq_true h
  cases hL with
  | row g hc=>exact ak (aX (aW.im (aP (r:=af) (av (bK (aa 2 rfl) ev_int) (av (bK (i8 hu (aa 1 rfl) (aa 2 rfl) hc) ev_int) aO)) (by show 2<=N7;decide))) rfl)
  | Uv g hc=>rw[g] at h;exact absurd h (by decide +kernel)
  | Ud g ha hc=>rw[g] at h;exact absurd h (by decide +kernel)
  | Uy g ha hc=>rw[g] at h;exact absurd h (by decide +kernel)
  | Ut g h0 h1 hk=>rw[g] at h;exact absurd h (by decide +kernel)
  | T8 g h0 h1 hk=>rw[g] at h;exact absurd h (by decide +kernel)
  | Uu g h0 h1 hk=>rw[g] at h;exact absurd h (by decide +kernel)
  | Tv g=>rcases g with g | g | g<;>rw[g] at h<;>exact absurd h (by decide +kernel)
 have h1:¬aM S n∈(["if","while"]:Li):=of_decide_eq_false h
 refine aj (bq (ay cb (aa 3 rfl) aA) (λh=>?_) (λh=>aN ?_))
 ·have h:aM S n="else":=of_decide_eq_true h
  cases hL with
  | row g hc=>rcases g with g | g<;>rw[g] at h<;>exact absurd h (by decide +kernel)
  | Uv g hc=>exact ak (aX (aW.im (aP (r:=af) (av (i8 hu (aa 1 rfl) (aa 2 rfl) hc) aO) one_le)) rfl)
  | Ud g ha hc=>rw[g] at h;exact absurd h (by decide +kernel)
  | Uy g ha hc=>rw[g] at h;exact absurd h (by decide +kernel)
  | Ut g h0 h1 hk=>rw[g] at h;exact absurd h (by decide +kernel)
  | T8 g h0 h1 hk=>rw[g] at h;exact absurd h (by decide +kernel)
  | Uu g h0 h1 hk=>rw[g] at h;exact absurd h (by decide +kernel)
  | Tv g=>rcases g with g | g | g<;>rw[g] at h<;>exact absurd h (by decide +kernel)
 have h2:¬aM S n="else":=of_decide_eq_false h
 refine aj (bq (ay cb (aa 3 rfl) aA) (λh=>?_) (λh=>aN ?_))
 ·have h:aM S n="leave":=of_decide_eq_true h
  cases hL with
  | row g hc=>rcases g with g | g<;>rw[g] at h<;>exact absurd h (by decide +kernel)
  | Uv g hc=>rw[g] at h;exact absurd h (by decide +kernel)
  | Ud g ha hc=>exact ak (aX (aW.im (aP (r:=af) (av (bK (i8 hu (aa 1 rfl) (aE CA hr (ag (aa 0 rfl) (ag (aa 2 rfl) (ag aA aw))) ⟨S,n,_,_,rfl,n0,n1,ha,rfl⟩) hc) ev_int) aO) one_le)) rfl)
  | Uy g ha hc=>rw[g] at h;exact absurd h (by decide +kernel)
  | Ut g h0 h1 hk=>rw[g] at h;exact absurd h (by decide +kernel)
  | T8 g h0 h1 hk=>rw[g] at h;exact absurd h (by decide +kernel)
  | Uu g h0 h1 hk=>rw[g] at h;exact absurd h (by decide +kernel)
  | Tv g=>rcases g with g | g | g<;>rw[g] at h<;>exact absurd h (by decide +kernel)
 have h3:¬aM S n="leave":=of_decide_eq_false h
 refine aj (bq (ay cb (aa 3 rfl) aA) (λh=>?_) (λh=>aN ?_))
 ·have h:aM S n="back":=of_decide_eq_true h
  cases hL with
  | row g hc=>rcases g with g | g<;>rw[g] at h<;>exact absurd h (by decide +kernel)
  | Uv g hc=>rw[g] at h;exact absurd h (by decide +kernel)
  | Ud g ha hc=>rw[g] at h;exact absurd h (by decide +kernel)
  | Uy g ha hc=>exact ak (aX (aW.im (aP (r:=af) (av (i8 hu (aa 1 rfl) (aE CA hr (ag (aa 0 rfl) (ag (aa 2 rfl) (ag aA aw))) ⟨S,n,_,_,rfl,n0,n1,ha,rfl⟩) hc) aO) one_le)) rfl)
  | Ut g h0 h1 hk=>rw[g] at h;exact absurd h (by decide +kernel)
  | T8 g h0 h1 hk=>rw[g] at h;exact absurd h (by decide +kernel)
  | Uu g h0 h1 hk=>rw[g] at h;exact absurd h (by decide +kernel)
  | Tv g=>rcases g with g | g | g<;>rw[g] at h<;>exact absurd h (by decide +kernel)
 have h4:¬aM S n="back":=of_decide_eq_false h
 have Tr:∀{k:Str},k≠""->aM S n≠"end"->ed≠k:=λhk h z=>hk (by rw[← z,en0 h])
 refine aj (bq (ay cb (aa 4 rfl) aA) (λh=>?_) (λh=>aN ?_))
 ·have h:ed="while":=of_decide_eq_true h
  cases hL with
  | row g hc=>exact absurd h (Tr (by decide +kernel) (by rcases g with g | g<;>rw[g]<;>decide +kernel))
  | Uv g hc=>exact absurd g h2
  | Ud g ha hc=>exact absurd g h3
  | Uy g ha hc=>exact absurd g h4
  | Ut g h0 h1 hk=>exact ak (aX (aW.im (aP (r:=af) (av (nB (C:=C) HC (aZ (aa 0 rfl) (aa 2 rfl) RQ)) aO) one_le)) rfl)
  | T8 g h0 h1 hk=>rw[Vh g,hk] at h;exact absurd h (by decide +kernel)
  | Uu g h0 h1 hk=>rw[Vh g,hk] at h;exact absurd h (by decide +kernel)
  | Tv g=>exact absurd h (Tr (by decide +kernel) (by rcases g with g | g | g<;>rw[g]<;>decide +kernel))
 have h5:¬ed="while":=of_decide_eq_false h
 cases hL with
 | row g hc=>exact absurd (by rcases g with g | g<;>rw[g]<;>decide +kernel) h1
 | Uv g hc=>exact absurd g h2
 | Ud g ha hc=>exact absurd g h3
 | Uy g ha hc=>exact absurd g h4
 | Ut g h0 h1 hk=>exact absurd ((Vh g).trans hk) h5
 | T8 g h0 h1 hk=>
   have e:ed="part":=(Vh g).trans hk
   exact ak (aX (y:=([]:Lh)) (EV.cast (jk (y:=([]:Lh)) (ay cb (aa 4 rfl) aA) (λ_=>aW.im (aP (r:=af) aO (Np _))) (λh=>absurd e (of_decide_eq_false h))) (by split<;>rfl)) rfl)
 | Uu g h0 h1 hk=>
   have e:ed≠"part":=by rw[Vh g,hk];decide +kernel
   exact ak (aX (y:=[n + 1]) (EV.cast (jk (x:=[n + 1]) (ay cb (aa 4 rfl) aA) (λh=>absurd (of_decide_eq_true h) e) (λ_=>aW.im (aP (r:=af) (av (bK (aa 2 rfl) ev_int) aO) one_le))) (by split<;>rfl)) rfl)
 | Tv g=>
   have e:ed≠"part":=Tr (by decide +kernel) (by rcases g with g | g | g<;>rw[g]<;>decide +kernel)
   exact ak (aX (y:=[n + 1]) (EV.cast (jk (x:=[n + 1]) (ay cb (aa 4 rfl) aA) (λh=>absurd (of_decide_eq_true h) e) (λ_=>aW.im (aP (r:=af) (av (bK (aa 2 rfl) ev_int) aO) one_le))) (by split<;>rfl)) rfl)
abbrev yn:Stmt:=top tP
abbrev Ju:Li:=["steps","closing"]
theorem DK:aH Ju ["steps"] (ai yn):=Rp
def vt (S:List aG)(Ld:List Lh):Prop:=Ld.length=S.length/\∀n:Nat,n < S.length->dF S (dm S) (n:Int) (Ld.getD n [])
def JU (C:Addr):cQ:=λK ps T=>∃(S:List aG) (Ld:List Lh),ps=[⟨ae (a9 C),S⟩]/\S.length<=1000/\vt S Ld/\T=cg K (ae (ae af)) (· =Ld)
theorem Aa (Ld:List Lh):((ups 0 Ld.length).filter λ_=>true).map (λn=>Ld.getD n.toNat [])=Ld:=by
 rw[Mi.mpr λ_ _=>rfl]
 refine Mw λi=>?_
 unfold ups
 rw[LM,LM]
 rcases Nv i Ld.length with h | h
 ·rw[Mq h,LD h]
  show some (Ld.getD (0 + (i:Int)).toNat [])=_
  rw[show(0 + (i:Int)).toNat=i by omega,LG,LD h];rfl
 ·rw[Ma (by simpa using h),Ma h];rfl
theorem Je (M:bY K mg)(CC:aI P w K mg base "closing_steps" 1 (aK (DJ C) K))(CF:aI P w K mg base "leads_from" 2 (aK (Jx C) K))(F:bD K "leads_in" "leads_in" yn f fd)(hm:mg "leads_in"=some (.ref f))(hb:Binds K fd ["steps"] []):aI P w K mg base "leads_in" 3 (aK (JU C) K):=by
 have nd:=DK.nd
 have Su:L3 [("number":Str),"steps","closing"]:=by decide
 have CC:=CC.mono (show 1<=2 by decide)
 refine bw (k:=2) F DK hm hb (λqs T ⟨_,_,e,_⟩=>by rw[e];rfl) (λQ2 A outer s H E qs T hr hS=>?_)
 obtain⟨S,Ld,rfl,hl,⟨TB,hL⟩,rfl⟩:=hS
 change WS _ _ [.im (ae (a9 C)) S,.no] _ _
 refine aj (aU 1 (y:=dm S) (aE CC hr (ag (aa 0 rfl) aw) ⟨S,rfl,hl,rfl⟩) ?_)
 change WS _ _ [.im (ae (a9 C)) S,.im g9 (dm S)] _ _
 have cc:=Aa Ld
 rw[TB] at cc
 refine ak (aX (aW.im (cq (own:=["number"]) (fr:=["steps","closing"]) (ix:=[0,1]) (ra:=af) (rb:=ae af) (p:=λ_=>true) (f:=λn=>Ld.getD n.toNat []) (bH (so:=ai yn) (N0:=Ju) rfl rfl (λx h=>bh h) (by decide +kernel)) (cV M.range (cJ M.len (aa 0 rfl)) ⟨by omega,by omega⟩)
  (λC s H ex=>aY 0) (λx=>⟨.inr rfl,.inl rfl,.inl rfl,trivial⟩) (λC s H ex c hc=>dg) (λC' s H ex o ho _=>?_))) ?_)
 ·obtain⟨i,hi⟩:=LX.mp ho
  obtain⟨il,rfl⟩:=dY hi
  have il:i < S.length:=by omega
  have:=hL i il
  rw[show(i:Int)=0 + (i:Int) by omega] at this
  exact aE CF hr (ag (aa 1 rfl) (ag (aa 2 rfl) (ag (aa 0 rfl) aw))) ⟨S,dm S,0 + (i:Int),_,rfl,by omega,by omega,by rw[show(0 + (i:Int)).toNat=i by omega];exact this,rfl⟩
 ·rw[show((S.length:Int)).toNat=S.length by omega]
  exact cc
abbrev xQ:Stmt:=top tT
abbrev Jt:Li:=["steps","closing"]
theorem DH:aH Jt ["steps"] (ai xQ):=Rp
abbrev gE:=Str×Int×Int
def jh (p:gE):PV:=.tup [.str p.1,.int p.2.1,.int p.2.2]
def FW (z:Int×aG):Bool:=decide (z.2.kind="part")
def G8 (S:List aG)(z:Int×aG):gE:=(z.2.name,z.1,(bB (dm S) z.1).getD 0)
def ck (S:List aG):List gE:=((nums S).filter FW).map (G8 S)
def JL (C:Addr):cQ:=λK ps T=>∃S:List aG,ps=[⟨ae (a9 C),S⟩]/\S.length<=1000/\(∀n:Nat,n < S.length->aM S (n:Int)="part"->(bB (dm S) (n:Int)).isSome)/\T=cg K (ae ax) (· =(ck S).map jh)
theorem lR {S:List aG}{z:Int×aG}(h:z∈nums S):∃n:Nat,n < S.length/\z.1=(n:Int)/\S.getD n dJ=z.2:=by
 obtain⟨i,hi⟩:=LX.mp h
 obtain⟨e1,e2⟩:=eN hi
 exact⟨i,(LC.mp e2).1,e1,by rw[LG,e2];rfl⟩
theorem Iy (M:bY K mg)(HC:bA K C f9)(CC:aI P w K mg base "closing_steps" 1 (aK (DJ C) K))(F:bD K "parts_in" "parts_in" xQ f fd)(hm:mg "parts_in"=some (.ref f))(hb:Binds K fd ["steps"] []):aI P w K mg base "parts_in" 2 (aK (JL C) K):=by
 have nd:=DH.nd
 have Su:L3 [("number":Str),"step","closing"]:=by decide
 refine bw (k:=1) F DH hm hb (λqs T ⟨_,e,_⟩=>by rw[e];rfl) (λQ2 A outer s H E qs T hr hS=>?_)
 obtain⟨S,rfl,hl,hp,rfl⟩:=hS
 change WS _ _ [.im (ae (a9 C)) S,.no] _ _
 refine aj (aU 1 (y:=dm S) (aE CC hr (ag (aa 0 rfl) aw) ⟨S,rfl,hl,rfl⟩) ?_)
 change WS _ _ [.im (ae (a9 C)) S,.im g9 (dm S)] _ _
 refine ak (aX (aW.im (cq (own:=["number","step"]) (fr:=["closing"]) (ix:=[1]) (ra:=dB af (a9 C)) (rb:=ax) (p:=FW) (f:=λz=>jh (G8 S z)) (bH (so:=ai xQ) (N0:=Jt) rfl rfl (λx h=>bh h) (by decide +kernel)) (gL M.enumerate (aa 0 rfl))
  (λC s H ex=>ft 0 1) (λx=>⟨.inr rfl,.inr rfl,.inl rfl,trivial⟩) (λC' s H ex z hz=>?_) (λC' s H ex z hz hpz=>?_))) ?_)
 ·exact gc (ay cb (fN (C:=C) HC (aa 1 rfl)) aA)
 ·obtain⟨n,nl,e1,e2⟩:=lR hz
  have hk:aM S (n:Int)="part":=by
   unfold aM
   rw[show((n:Nat):Int).toNat=n by omega,e2]
   exact of_decide_eq_true hpz
  have hs:=hp n nl hk
  rw[← e1] at hs
  have hc:bB (dm S) z.1=some ((bB (dm S) z.1).getD 0):=by
   cases q:bB (dm S) z.1 with
   | none=>rw[q] at hs;cases hs
   | some c=>rfl
  exact gT (av (EV.pS (nF (C:=C) HC (aa 1 rfl))) (av (EV.pI (aa 0 rfl)) (av (EV.pI (i8 (ru hr) (aa 2 rfl) (aa 0 rfl) hc)) aO))) (by show 3<=N7;decide)
 ·unfold ck
  rw[ML];rfl
end
abbrev dQ:List (Str×Li):=[("do",["do"]),("call",["call"]),("if",["yes","no"]),("while",["yes","no"])]
def bC (k:Str):Bool:=(cF dQ k).isSome
def oa (S:List aG)(Ld:List Lh)(td:Lh)(n:Int):Lh:=
 if(Ld.getD n.toNat []).isEmpty=false/\bC (aM S n)=false then td.set n.toNat (td.getD ((Ld.getD n.toNat []).getD 0 0).toNat 0) else td
theorem Cy {S:List aG}{Ld:List Lh}{td:Lh}{n:Int}:(oa S Ld td n).length=td.length:=by
 unfold oa;split
 ·rw[Ml]
 ·rfl
def S0 (S:List aG)(Ld:List Lh)(i:Nat):Lh:=((downs ((S.length:Int) - 1) S.length).take i).foldl (oa S Ld) (ups 0 S.length)
theorem iU {S:List aG}{Ld:List Lh}{i:Nat}(h:i < S.length):S0 S Ld (i + 1)=oa S Ld (S0 S Ld i) ((S.length:Int) - 1 - (i:Int)):=by
 have hd:(downs ((S.length:Int) - 1) S.length)[i]?=some ((S.length:Int) - 1 - (i:Int)):=by
  unfold downs
  rw[LM,Mq h];rfl
 unfold S0
 rw[Mm,hd,MO];rfl
theorem iH {S:List aG}{Ld:List Lh}:∀i,i<=S.length->(S0 S Ld i).length=S.length
 | 0,_=>a8 _ _
 | i + 1,h=>by rw[iU h,Cy];exact iH i (by omega)
abbrev cU (S:List aG)(Ld:List Lh):Lh:=S0 S Ld S.length
def rM (S:List aG)(Ld:List Lh):Prop:=Ld.length=S.length/\∀ls∈Ld,∀l∈ls,0<=l/\l < (S.length:Int)
section
variable {C:Addr}
abbrev AO:Stmt:=top sE
abbrev nST:Li:=["steps","leads","told","number"]
theorem EU:aH nST ["steps","leads"] (ai AO):=Rp
def J5 (C:Addr):cQ:=λK ps T=>∃(S:List aG) (Ld:List Lh),ps=[⟨ae (a9 C),S⟩,⟨ae (ae af),Ld⟩]/\S.length<=1000/\rM S Ld/\T=cg K (ae af) (· =cU S Ld)
theorem Ik (M:bY K mg)(HC:bA K C f9)(RW:ku P w K mg "ROW_WORDS" dQ)(F:bD K "stands_in" "stands_in" AO f fd)(hm:mg "stands_in"=some (.ref f))(hb:Binds K fd ["steps","leads"] []):aI P w K mg base "stands_in" 1 (aK (J5 C) K):=by
 have nd:=EU.nd
 refine bw F EU hm hb (λqs T ⟨_,_,e,_⟩=>by rw[e];rfl) (λQ2 A outer s H E qs T hr hS=>?_)
 obtain⟨S,Ld,rfl,hl,⟨TB,Sj⟩,rfl⟩:=hS
 change WS _ _ [.im (ae (a9 C)) S,.im (ae (ae af)) Ld,.no,.no] _ _
 refine aj (cz 2 (r:=af) (ys:=ups 0 S.length) (aW.cst (p8 M.list M.range (cJ M.len (aa 0 rfl)) ⟨by omega,by omega⟩) (by rw[show((S.length:Int)).toNat=S.length by omega])) ?_)
 refine bL (N1:=λΓ=>∃e3,Γ=[.im (ae (a9 C)) S,.im (ae (ae af)) Ld,.mu af (cU S Ld),e3]) (cC (λi Γ=>∃e3,Γ=[.im (ae (a9 C)) S,.im (ae (ae af)) Ld,.mu af (S0 S Ld i),e3]) (yW M.range (ag (fL (cJ M.len (aa 0 rfl)) ev_int) (ag (gp ev_int) (ag (gp ev_int) aw))) ⟨by omega,by omega,by omega,by omega⟩) (aY 3) ⟨_,rfl⟩ (λi n Γ hn hΓ=>?_) (λΓ hΓ=>?_)) ?_
 ·obtain⟨e3,rfl⟩:=hΓ
  obtain⟨il,rfl⟩:=sh hn
  have il:i < S.length:=by omega
  rw[iU il]
  have tl:=iH (S:=S) (Ld:=Ld) i (by omega)
  generalize S0 S Ld i=td at tl
  generalize hnn:(S.length:Int) - 1 - (i:Int)=n
  have n0:0<=n:=by omega
  have n1:n < (S.length:Int):=by omega
  change WS _ _ [.im (ae (a9 C)) S,.im (ae (ae af)) Ld,.mu af td,ao n] _ _
  have RQ:bV Ld n=some (Ld.getD n.toNat []):=aQ (xs:=Ld) (i:=n) [] n0 (by omega)
  have Tz:Ld.getD n.toNat []∈Ld:=by
   rw[LG,LD (show n.toNat < Ld.length by omega)]
   exact Mb _
  refine ak (bq (TW.tv (cK (sL (aZ (aa 1 rfl) (aa 3 rfl) RQ)) (λ_=>du (xR RW (fN (C:=C) HC (aZ (aa 0 rfl) (aa 3 rfl) (aQ (xs:=S) (i:=n) dJ n0 n1))))))) (λh=>?_) (λh=>aN ⟨ao n,?_⟩))
  ·have h:(Ld.getD n.toNat []).isEmpty=false/\bC (aM S n)=false:=by simpa[bC,aM] using h
   have VO:=Sj _ Tz
   obtain⟨l,r,hlr⟩:∃l r,Ld.getD n.toNat []=l::r:=by
    cases e:Ld.getD n.toNat [] with
    | nil=>rw[e] at h;exact absurd h.1 (by decide)
    | cons l r=>exact⟨l,r,rfl⟩
   have e0:(Ld.getD n.toNat []).getD 0 0=l:=by rw[hlr];rfl
   have hl0:bV (Ld.getD n.toNat []) 0=some l:=by rw[hlr,nM (by decide) (by simp)];rfl
   obtain⟨l0,l1⟩:=VO l (by rw[hlr];exact LP)
   refine ak (va 2 (y:=td.getD l.toNat 0) (j:=n.toNat) (lh 2 (aZ (aZ (aa 1 rfl) (aa 3 rfl) RQ) ev_int hl0) rfl rfl (aQ (xs:=td) (i:=l) 0 l0 (by omega))) (aa 3 rfl) rfl rfl (rS n0 (by omega)) ⟨ao n,?_⟩)
   unfold oa
   rw[if_pos h,e0];rfl
  ·have h:¬((Ld.getD n.toNat []).isEmpty=false/\bC (aM S n)=false):=by
    intro z
    unfold bC at z
    unfold aM at z
    rw[z.1,z.2] at h
    exact absurd h (by decide)
   unfold oa
   rw[if_neg h]
 ·obtain⟨e3,rfl⟩:=hΓ
  rw[gy,show((S.length:Int) - 1 - -1).toNat=S.length by omega]
  exact⟨e3,rfl⟩
 rintro _ ⟨e3,rfl⟩
 refine WS.freeze 2 rfl (aD (by rw[iH S.length (Nm _)];omega)) ?_
 exact ak (aX (aa 2 rfl) rfl)
abbrev Rw:=Int×Int×Str×Str
def gH (r:Rw):PV:=.tup [.int r.1,.int r.2.1,.str r.2.2.1,.str r.2.2.2]
def jm (Ld:List Lh)(z:Int×aG):List (Str×Int):=((cF dQ z.2.kind).getD []).zip (Ld.getD z.1.toNat [])
def og (St:Lh)(z:Int×aG)(y:Str×Int):Rw:=(z.1,St.getD y.2.toNat 0,y.1,z.2.name)
def dX (Ld:List Lh)(St:Lh)(z:Int×aG):List Rw:=(jm Ld z).map (og St z)
def gb (S:List aG)(Ld:List Lh)(St:Lh):List Rw:=(nums S).flatMap (dX Ld St)
theorem vh (Ld:List Lh)(z:Int×aG):(jm Ld z).length<=2:=by
 unfold jm
 rw[Mt]
 refine Nn (ND _ _) ?_
 unfold cF
 split
 ·decide
 unfold cF
 split
 ·decide
 unfold cF
 split
 ·decide
 unfold cF
 split
 ·decide
 ·exact Np _
theorem m3 {α β:Type}{f:α->List β}{n:Nat}(h:∀x,(f x).length<=n):∀xs:List α,(xs.flatMap f).length<=n * xs.length
 | []=>Np _
 | x::xs=>by
   rw[MP,LL,LR,Nat.mul_succ]
   have:=h x
   have:=m3 h xs
   omega
theorem nj (Ld:List Lh)(St:Lh)(z:Int×aG):(dX Ld St z).length<=2:=by unfold dX;rw[LJ];exact vh Ld z
abbrev BE:Stmt:=top wc
abbrev nRI:Li:=["steps","leads","stands","told","number","step","word","lead"]
abbrev Kb:Li:=["steps","leads","stands"]
theorem EK:aH nRI Kb (ai BE):=Rp
def JN (C:Addr):cQ:=λK ps T=>∃(S:List aG) (Ld:List Lh) (St:Lh),ps=[⟨ae (a9 C),S⟩,⟨ae (ae af),Ld⟩,⟨ae af,St⟩]/\S.length<=1000/\rM S Ld/\St.length=S.length/\T=cg K (ae ax) (· =(gb S Ld St).map gH)
theorem Hg (M:bY K mg)(HC:bA K C f9)(RW:ku P w K mg "ROW_WORDS" dQ)(F:bD K "rows_in" "rows_in" BE f fd)(hm:mg "rows_in"=some (.ref f))(hb:Binds K fd Kb []):aI P w K mg base "rows_in" 1 (aK (JN C) K):=by
 have nd:=EK.nd
 refine bw F EK hm hb (λqs T ⟨_,_,_,e,_⟩=>by rw[e];rfl) (λQ2 A outer s H E qs T hr hS=>?_)
 obtain⟨S,Ld,St,rfl,hl,⟨TB,Sj⟩,hst,rfl⟩:=hS
 change WS _ _ [.im (ae (a9 C)) S,.im (ae (ae af)) Ld,bQ St,.no,.no,.no,.no,.no] _ _
 refine aj (cz 3 (r:=ax) (ys:=[]) (aP aO (Np _)) ?_)
 refine bL (N1:=λΓ=>∃e4 e5 e6 e7,Γ=[.im (ae (a9 C)) S,.im (ae (ae af)) Ld,bQ St,.mu ax ((gb S Ld St).map gH),e4,e5,e6,e7]) (cC (λi Γ=>∃e4 e5 e6 e7,Γ=[.im (ae (a9 C)) S,.im (ae (ae af)) Ld,bQ St,.mu ax ((((nums S).take i).flatMap (dX Ld St)).map gH),e4,e5,e6,e7]) (gL M.enumerate (aa 0 rfl)) (ft 4 5) ⟨_,_,_,_,rfl⟩ (λi z Γ hz hΓ=>?_) (λΓ hΓ=>?_)) ?_
 ·obtain⟨e4,e5,e6,e7,rfl⟩:=hΓ
  obtain⟨n,nl,e1,e2⟩:=lR (LO hz)
  have il:i < S.length:=by have:=(LC.mp hz).1;rwa [cR] at this
  have fl:=m3 (nj Ld St) ((nums S).take i)
  have hti:((nums S).take i).length<=i:=by rw[L0];omega
  have Si:((nums S).take (i + 1)).flatMap (dX Ld St)=((nums S).take i).flatMap (dX Ld St)++dX Ld St z:=by
   rw[Mm,hz,List.flatMap_append];simp
  rw[Si]
  generalize ((nums S).take i).flatMap (dX Ld St)=rs at fl
  have rl:rs.length<=2000:=by omega
  obtain⟨zn,zs⟩:=z
  dsimp only at e1 e2
  subst e1
  change WS _ _ [.im (ae (a9 C)) S,.im (ae (ae af)) Ld,bQ St,.mu ax (rs.map gH),ao (n:Int),.im (a9 C) zs,e6,e7] _ _
  have RQ:bV Ld (n:Int)=some (Ld.getD n []):=aQ (xs:=Ld) (i:=(n:Int)) [] (by omega) (by omega)
  have Tz:Ld.getD n []∈Ld:=by
   rw[LG,LD (show n < Ld.length by omega)]
   exact Mb _
  have VO:=Sj _ Tz
  have hzl:=vh Ld ((n:Int),zs)
  have hzz:jm Ld ((n:Int),zs)=((cF dQ zs.kind).getD []).zip (Ld.getD n []):=rfl
  refine ak (cC (λj Γ=>∃e6 e7,Γ=[.im (ae (a9 C)) S,.im (ae (ae af)) Ld,bQ St,.mu ax ((rs++((jm Ld ((n:Int),zs)).take j).map (og St ((n:Int),zs))).map gH),ao (n:Int),.im (a9 C) zs,e6,e7]) (Di M.zip (DG RW (fN (C:=C) HC (aa 5 rfl)) (u6 (xs:=[]) aO (Np _))) (aZ (aa 1 rfl) (aa 4 rfl) RQ)) (ft 6 7) ⟨e6,e7,by rw[take_zero,Nb,Mh]⟩ (λj y Γ hy hΓ=>?_) (λΓ hΓ=>?_))
  ·obtain⟨e6,e7,rfl⟩:=hΓ
   rw[← hzz] at hy
   have hjl:j < (jm Ld ((n:Int),zs)).length:=(LC.mp hy).1
   have htj:(((jm Ld ((n:Int),zs)).take j).map (og St ((n:Int),zs))).length<=2:=by rw[LJ,L0];omega
   have VJ:((jm Ld ((n:Int),zs)).take (j + 1)).map (og St ((n:Int),zs))=((jm Ld ((n:Int),zs)).take j).map (og St ((n:Int),zs))++[og St ((n:Int),zs) y]:=by
    rw[Mm,hy,L5];rfl
   rw[VJ]
   have UJ:y.2∈Ld.getD n []:=by
    rw[hzz] at hy
    exact(MU (LO hy)).2
   obtain⟨y0,y1⟩:=VO y.2 UJ
   generalize ((jm Ld ((n:Int),zs)).take j).map (og St ((n:Int),zs))=ts at htj
   obtain⟨yw,yl⟩:=y
   change WS _ _ [.im (ae (a9 C)) S,.im (ae (ae af)) Ld,bQ St,.mu ax ((rs++ts).map gH),ao (n:Int),.im (a9 C) zs,.im ah yw,ao yl] _ _
   refine ak (eh 3 (y:=gH (og St ((n:Int),zs) (yw,yl))) (gT (av (EV.pI (aa 4 rfl)) (av (EV.pI (aZ (aa 2 rfl) (aa 7 rfl) (aQ (xs:=St) (i:=yl) 0 y0 (by omega)))) (av (EV.pS (aa 6 rfl)) (av (EV.pS (nF (C:=C) HC (aa 5 rfl))) aO)))) (by show 4<=N7;decide)) rfl rfl (Nr (show _<=3000 by rw[LJ,LL];omega) (by decide)) ⟨.im ah yw,ao yl,?_⟩)
   rw[← L1,L5 (l₁:=rs++ts)]
   rfl
  ·obtain⟨e6,e7,rfl⟩:=hΓ
   refine⟨ao (n:Int),.im (a9 C) zs,e6,e7,?_⟩
   rw[← hzz,Mn]
   rfl
 ·obtain⟨e4,e5,e6,e7,rfl⟩:=hΓ
  refine⟨e4,e5,e6,e7,?_⟩
  rw[Mn];rfl
 rintro _ ⟨e4,e5,e6,e7,rfl⟩
 have fl:=m3 (nj Ld St) (nums S)
 rw[cR] at fl
 refine WS.freeze 3 rfl (aD (by rw[LJ];unfold gb;omega)) ?_
 exact ak (aX (aa 3 rfl) rfl)
end
structure gw where
 S:List aG
 parts:List gE
 Ld:List Lh
 St:Lh
 rows:List Rw
abbrev eW:Li:=["steps","parts","leads","stands","rows"]
theorem cZ {x:Str}(h:decide (x∈eW)=true):x∈eW:=of_decide_eq_true h
def JX (C:Addr)(s:gw):iW:=[("steps",(ae (a9 C)).at_ s.S),("parts",(ae ax).at_ (s.parts.map jh)),("leads",(ae (ae af)).at_ s.Ld),("stands",(ae af).at_ s.St),("rows",(ae ax).at_ (s.rows.map gH))]
def bb (C D:Addr):Rep gw:=⟨λK R v s=>∃x dx vs,v= .ref x/\R x=some (.ins D dx vs)/\fE (JX C s) K R vs,λs ⟨x,dx,vs,e,h1,h2⟩=>⟨x,dx,vs,e,s _ _ h1,h2.mono s⟩⟩
section
variable {X:Cx}{Γ Γ1:Ga}{C D:Addr}{e:Expr}{pos:Pos}{s:gw}
theorem vA (hC:bA X.K D eW)(he:EV X e Γ (bb C D) s Γ1)(hb:Oc e "steps" X.env (eval e X.env)=eval e X.env:=by rfl):EV X (.Attribute e "steps" pos) Γ (ae (a9 C)) s.S Γ1:=iE hC (cZ (by decide)) he (λK R v ⟨x,dx,vs,e,h1,h2⟩=>by obtain⟨u,q1,q2⟩:=h2.get (f:="steps") rfl;exact⟨x,dx,vs,u,e,h1,q1,q2⟩) hb
theorem gv (hC:bA X.K D eW)(he:EV X e Γ (bb C D) s Γ1)(hb:Oc e "parts" X.env (eval e X.env)=eval e X.env:=by rfl):EV X (.Attribute e "parts" pos) Γ (ae ax) (s.parts.map jh) Γ1:=iE hC (cZ (by decide)) he (λK R v ⟨x,dx,vs,e,h1,h2⟩=>by obtain⟨u,q1,q2⟩:=h2.get (f:="parts") rfl;exact⟨x,dx,vs,u,e,h1,q1,q2⟩) hb
theorem IZ (hC:bA X.K D eW)(he:EV X e Γ (bb C D) s Γ1)(hb:Oc e "leads" X.env (eval e X.env)=eval e X.env:=by rfl):EV X (.Attribute e "leads" pos) Γ (ae (ae af)) s.Ld Γ1:=iE hC (cZ (by decide)) he (λK R v ⟨x,dx,vs,e,h1,h2⟩=>by obtain⟨u,q1,q2⟩:=h2.get (f:="leads") rfl;exact⟨x,dx,vs,u,e,h1,q1,q2⟩) hb
theorem IA (hC:bA X.K D eW)(he:EV X e Γ (bb C D) s Γ1)(hb:Oc e "stands" X.env (eval e X.env)=eval e X.env:=by rfl):EV X (.Attribute e "stands" pos) Γ (ae af) s.St Γ1:=iE hC (cZ (by decide)) he (λK R v ⟨x,dx,vs,e,h1,h2⟩=>by obtain⟨u,q1,q2⟩:=h2.get (f:="stands") rfl;exact⟨x,dx,vs,u,e,h1,q1,q2⟩) hb
theorem qi (hC:bA X.K D eW)(he:EV X e Γ (bb C D) s Γ1)(hb:Oc e "rows" X.env (eval e X.env)=eval e X.env:=by rfl):EV X (.Attribute e "rows" pos) Γ (ae ax) (s.rows.map gH) Γ1:=iE hC (cZ (by decide)) he (λK R v ⟨x,dx,vs,e,h1,h2⟩=>by obtain⟨u,q1,q2⟩:=h2.get (f:="rows") rfl;exact⟨x,dx,vs,u,e,h1,q1,q2⟩) hb
end
structure mE (S:List aG) (Ld:List Lh):Prop where
 l:S.length<=240
 ld:vt S Ld
 li:rM S Ld
 pt:∀n:Nat,n < S.length->aM S (n:Int)="part"->(bB (dm S) (n:Int)).isSome
def Q0 (S:List aG)(Ld:List Lh):gw:=⟨S,ck S,Ld,cU S Ld,gb S Ld (cU S Ld)⟩
def oI (x:Str)(S:List aG):Prop:=∃(ws:Li) (n:Nat),x=Qq " " ws/\ws≠[]/\ws.length<=240/\(∀w∈ws,fu w)/\fH ws n ⟨[],[],0⟩ ⟨S,[],ws.length⟩
section
variable {C D:Addr}
abbrev pf:Stmt:=match top zk with
 | .ClassDef _ _ _ b _ _ _ _ _ _ _=>b.getD 0 (.Pass ⟨0,0,0,0⟩)
 | s=>s
abbrev tE:Li:=["self","text"]
theorem ES:aH tE tE (ai pf):=Rp
def JC (C D0:Addr):xu:=λK D ps Pd=>D=D0/\∃(x:Str) (S:List aG) (Ld:List Lh),ps=[⟨ah,x⟩]/\oI x S/\mE S Ld/\Pd=λfs=>fs=JX C (Q0 S Ld)
theorem IF (HD:bA K D eW)(CR:aI P w K mg base "read" 3 (aK (J0 C) K))(CP:aI P w K mg base "parts_in" 2 (aK (JL C) K))(CL:aI P w K mg base "leads_in" 3 (aK (JU C) K))(CS:aI P w K mg base "stands_in" 1 (aK (J5 C) K))(CW:aI P w K mg base "rows_in" 1 (aK (JN C) K))(F:bD K "__init__" "Spots.__init__" pf f fd):dz P w K mg base ee 4 f fd tE (tY (JC C D) K):=by
 have nd:=ES.nd
 have CP:=CP.mono (show 2<=3 by decide)
 have CS:=CS.mono (show 1<=3 by decide)
 have CW:=CW.mono (show 1<=3 by decide)
 refine xA (k:=3) F ES (λD qs Pd ⟨_,_,_,_,e,_⟩=>by rw[e];rfl) (λQ2 A outer st H E D' x dx qs Pd hr hS=>?_)
 obtain⟨rfl,tx,S,Ld,rfl,⟨ws,n,et,Q7,hl,hw,UN⟩,V8,rfl⟩:=hS
 have S4:S.length<=1000:=by have:=V8.l;omega
 change WS _ _ [.ob ((fV D').bx [x,dx] []),.im ah tx] _ _
 refine aj (gx 0 HD (cZ (by decide)) (aE (y:=S) (r:=ae (a9 C)) CR hr (ag (aa 1 rfl) aw) ⟨ws,n,S,by rw[et],Q7,hl,hw,UN,rfl⟩) rfl rfl (by show 0 < 1000;decide) ?_)
 refine aj (gx 0 HD (cZ (by decide)) (aE CP hr (ag (kE 0 HD (cZ (by decide)) rfl rfl) aw) ⟨S,rfl,S4,V8.pt,rfl⟩) rfl rfl (by show 1 < 1000;decide) ?_)
 refine aj (gx 0 HD (cZ (by decide)) (aE CL hr (ag (kE 0 HD (cZ (by decide)) rfl rfl) aw) ⟨S,Ld,rfl,S4,V8.ld,rfl⟩) rfl rfl (by show 2 < 1000;decide) ?_)
 refine aj (gx 0 HD (cZ (by decide)) (aE CS hr (ag (kE 0 HD (cZ (by decide)) rfl rfl) (ag (kE 0 HD (cZ (by decide)) rfl rfl) aw)) ⟨S,Ld,rfl,S4,V8.li,rfl⟩) rfl rfl (by show 3 < 1000;decide) ?_)
 exact ak (gx 0 HD (cZ (by decide)) (aE CW hr (ag (kE 0 HD (cZ (by decide)) rfl rfl) (ag (kE 0 HD (cZ (by decide)) rfl rfl) (ag (kE 0 HD (cZ (by decide)) rfl rfl) aw))) ⟨S,Ld,cU S Ld,rfl,S4,V8.li,iH S.length (Nm _),rfl⟩) rfl rfl (by show 4 < 1000;decide) ⟨_,rfl,rfl⟩)
structure sy (P:Ob) (w:World) (K:QA) (mg:Lf) (base:Heap) (C D:Addr):Prop where
 cl:bA K D eW
 ex:∃fi SV,Mk K D fi/\dz P w K mg base ee 4 fi SV tE (tY (JC C D) K)/\Binds K SV tE []
 mg:mg "Spots"=some (.ref D)
theorem zA {X:Cx}{Γ Γ1:Ga}{C D:Addr}{e:Expr}{p pos:Pos}{x:Str}{S:List aG}{Ld:List Lh}(G:sy X.prog X.w X.K X.mg X.base C D)(hr:bI 5 X.A)(ha:HA X [e] Γ [⟨ah,x⟩] Γ1)(hx:oI x S)(hk:mE S Ld)
 (hg:Gl X "Spots":=by rfl) (he:N8 [e] X.env=(false,eval e X.env)::N8 [] X.env:=by rfl) (Rj:(Oe pos (N8 [] X.env)).any (·.1)=false:=by rfl):EV X (.Call (.Name "Spots" p) [e] [] pos) Γ (bb C D) (Q0 S Ld) Γ1:=by
 obtain⟨fi,SV,MK,SI,bi⟩:=G.ex
 exact uJ MK SI hr G.mg bi ha ⟨rfl,x,S,Ld,rfl,hx,hk,rfl⟩ (λfs R x dx vs hP h1 h2=>by subst hP;exact⟨x,dx,vs,rfl,h2,h1⟩) hg (by decide) he Rj
end
theorem ye {α:Type}{xs:List α}{i:Nat}(h:i<=xs.length):cut xs none (some (i:Int))=xs.take i:=by
 have e:HT.Rc xs.length xs.length (some (i:Int))=i:=by
  show(if(i:Int) < 0 then((i:Int) + (xs.length:Int)).toNat else min (i:Int).toNat xs.length)=i
  rw[if_neg (by omega)];omega
 unfold cut
 rw[e];rfl
theorem nz {α:Type}{xs:List α}{i:Nat}:cut xs (some (i:Int)) none=xs.drop i:=by
 have e:HT.Rc xs.length 0 (some (i:Int))=min i xs.length:=by
  show(if(i:Int) < 0 then((i:Int) + (xs.length:Int)).toNat else min (i:Int).toNat xs.length)=_
  rw[if_neg (by omega)];rfl
 have e2:HT.Rc xs.length xs.length none=xs.length:=rfl
 unfold cut
 rw[e,e2]
 rcases Nv i xs.length with h | h
 ·rw[Nat.min_eq_left (by omega),MC (by rw[MI];omega)]
 ·rw[Nat.min_eq_right h,MT (Nm _),MT h,take_nil]
theorem nT:∀(n:Nat) (l:Lh),l.Nodup->(∀x∈l,0<=x/\x < (n:Int))->l.length<=n
 | 0,l,_,h=>by
   cases l with
   | nil=>exact Nm _
   | cons x r=>have:=h x LP;omega
 | n + 1,l,nd,h=>by
   by_cases q:(n:Int)∈l
   ·have:=nT n (l.erase (n:Int)) (nd.erase _) λx hx=>by
     have hm:=(nd.mem_erase_iff.mp hx)
     have:=h x hm.2
     have:=hm.1
     omega
    rw[List.length_erase_of_mem q] at this
    omega
   ·have:=nT n l nd λx hx=>by
     have:=h x hx
     have:x≠(n:Int):=λe=>q (e▸hx)
     omega
    omega
def eC (F:Ln)(k:Int):Ln:=if(bB F k).isSome then F else F++[(k,(F.length:Int))]
def lC (p:gE)(r:Rw):Bool:=decide (p.2.1 < r.1)&&decide (r.1 < p.2.2)
def dC (p:gE)(F:Ln)(r:Rw):Ln:=if lC p r then eC (eC F r.1) r.2.1 else F
def c6 (s:gw)(p:gE):Ln:=s.rows.foldl (dC p) [(s.St.getD p.2.1.toNat 0,0),(p.2.2,1)]
def Reach (s:gw)(fd:Lh):Prop:=(∀p∈s.parts,p.2.1∈fd)/\∀n∈fd,∀l∈s.Ld.getD n.toNat [],l∈fd
structure Good (s:gw):Prop where
 l:s.S.length<=240
 pl:s.parts.length<=4
 pn:(s.parts.map (·.1)).Nodup
 pv:∀p∈s.parts,0<=p.2.1/\p.2.1 < (s.S.length:Int)
 li:rM s.S s.Ld
 l2:∀ls∈s.Ld,ls.length<=2
 sl:s.St.length=s.S.length
 sn:((s.S.filter λt=>decide (t.kind=("part":Str))).map (·.name)).Nodup
 ca:∀(n:Nat) (t:aG),s.S[n]?=some t->t.kind="call"->∃(m:Nat) (u:aG),n < m/\s.S[m]?=some u/\u.kind="part"/\u.name=t.name
 ct:∀fd,Reach s fd->∀n:Nat,n < s.S.length->aM s.S (n:Int)∈Ri->(n:Int)∈fd
 nc:∀p∈s.parts.drop 1,∃t∈s.S,t.kind="call"/\t.name=p.1
 eb:∀p∈s.parts,s.St.getD p.2.1.toNat 0≠p.2.2
 rl:s.rows.length<=30
 rk:∀r∈s.rows,(0<=r.1/\r.1 < (s.S.length:Int))/\aM s.S r.1∈Ri
 pc:∀p∈s.parts,(c6 s p).length<=16
def tD:PV->Str
 | .tup (.str x::_)=>x
 | _=>""
theorem wA (p:gE):tD (jh p)=p.1:=rfl
section
variable {C D:Addr}
abbrev wR:Stmt:=top pY
theorem GQ:aH ["spots","parts"] ["spots","parts"] (ai wR):=Rp
def uA (C D:Addr):cQ:=λK ps T=>∃s:gw,ps=[⟨bb C D,s⟩,⟨ae ax,[]⟩]/\T=cg K (ae af) (· =[])
theorem IY (F:bD K "name_words" "name_words" wR f fd)(hm:mg "name_words"=some (.ref f))(hb:Binds K fd ["spots","parts"] []):aI P w K mg base "name_words" 1 (aK (uA C D) K):=by
 have nd:=GQ.nd
 have Su:L3 [("part":Str),"spots"]:=by decide
 refine bw F GQ hm hb (λqs T ⟨_,e,_⟩=>by rw[e];rfl) (λQ2 A outer st H E qs T hr hS=>?_)
 obtain⟨s,rfl,rfl⟩:=hS
 change WS _ _ [.im (bb C D) s,.im (ae ax) []] _ _
 exact ak (aX (aW.im (cq (own:=["part"]) (fr:=["spots"]) (ix:=[0]) (ra:=ax) (rb:=af) (p:=λ_=>true) (f:=λ_=>0) (bH (so:=ai wR) (N0:=["spots","parts"]) rfl rfl (λx h=>bh h) (by decide +kernel)) (bR (aa 1 rfl))
  (λC s H ex=>aY 0) (λx=>⟨.inr rfl,.inl rfl,trivial⟩) (λC' s H ex c hc=>dg) (λC' s H ex o ho _=>by cases ho))) rfl)
abbrev uX:Stmt:=top oJ
abbrev Eb:Li:=["spots","names"]
theorem DN:aH Eb ["spots"] (ai uX):=Rp
def gG (C D:Addr):cQ:=λK ps T=>∃s:gw,ps=[⟨bb C D,s⟩]/\Good s/\T=cg K (ae af) (· =[])
theorem h9 {α β:Type}{xs:List α}{p:α->Bool}{f:α->β}(h:∀x∈xs,p x=false):(xs.filter p).map f=[]:=by
 rw[Na.mpr λx hx=>by rw[h x hx];decide];rfl
theorem Dh {xs:Li}(h:xs.Nodup){i:Nat}{x:Str}(hx:xs[i]?=some x):x∉xs.take i:=by
 intro hm
 obtain⟨j,hj⟩:=LX.mp hm
 obtain⟨jl,ej⟩:=LC.mp hj
 obtain⟨il,ei⟩:=LC.mp hx
 rw[L0] at jl
 rw[List.getElem_take] at ej
 have:=(M5 (h₀:=by omega) (h₁:=il) h).mp (ej.trans ei.symm)
 omega
theorem IH (M:bY K mg)(HD:bA K D eW)(CN:aI P w K mg base "name_words" 1 (aK (uA C D) K))(F:bD K "named_again" "named_again" uX f fd)(hm:mg "named_again"=some (.ref f))(hb:Binds K fd ["spots"] []):aI P w K mg base "named_again" 2 (aK (gG C D) K):=by
 have nd:=DN.nd
 have Su:L3 [("part":Str)]:=by decide
 have Tn:L3 [("place":Str),"part","names"]:=by decide
 refine bw (k:=1) F DN hm hb (λqs T ⟨_,e,_⟩=>by rw[e];rfl) (λQ2 A outer st H E qs T hr hS=>?_)
 obtain⟨s,rfl,hG,rfl⟩:=hS
 change WS _ _ [.im (bb C D) s,.no] _ _
 have Um:((s.parts.map jh).filter λ_=>true).map tD=s.parts.map (·.1):=by rw[Mi.mpr λ_ _=>rfl,ML];rfl
 refine aj (aU 1 (y:=s.parts.map (·.1)) (EV.cast (aW.im (cq (own:=["part"]) (fr:=[]) (ix:=[]) (ra:=ax) (rb:=ah) (p:=λ_=>true) (f:=tD) (bH (so:=ai uX) (N0:=Eb) rfl rfl (λx h=>bh h) (by decide +kernel)) (bR (gv (C:=C) HD (aa 0 rfl)))
  (λC s H ex=>aY 0) (λx=>⟨.inr rfl,trivial⟩) (λC' s H ex c hc=>dg) (λC' s H ex o ho _=>by
   obtain⟨p,_,rfl⟩:=LY.mp ho
   exact EV.sP (x:=p.1) (bG (aa 0 rfl) ev_int rfl)))) Um) ?_)
 change WS _ _ [.im (bb C D) s,.im (ae ah) (s.parts.map (·.1))] _ _
 refine ak (aX (y:=([]:Lh)) (aE CN hr (ag (aa 0 rfl) (ag (x:=([]:List PV)) (EV.cast (aW.im (cq (own:=["place","part"]) (fr:=["names"]) (ix:=[1]) (ra:=dB af ax) (rb:=ax) (p:=λz=>decide (tD z.2∈cut (s.parts.map (·.1)) none (some z.1))) (f:=λz=>z.2) (bH (so:=ai uX) (N0:=Eb) rfl rfl (λx h=>bh h) (by decide +kernel)) (gL M.enumerate (gv (C:=C) HD (aa 0 rfl)))
  (λC s H ex=>ft 0 1) (λx=>⟨.inr rfl,.inr rfl,.inl rfl,trivial⟩) (λC' s H ex z hz=>?_) (λC' s H ex z hz _=>aa 1 rfl))) ?_) aw)) ⟨s,rfl,rfl⟩) rfl)
 ·obtain⟨i,hi⟩:=LX.mp hz
  obtain⟨e1,e2⟩:=eN hi
  rw[LM] at e2
  obtain⟨p,_,ep⟩:=NO.mp e2
  obtain⟨zn,zp⟩:=z
  dsimp only at e1 ep
  subst ep
  exact gc (ay sO (EV.sP (x:=p.1) (bG (aa 1 rfl) ev_int rfl)) (aW.im (fg (aa 2 rfl) ov_none (ov_some (aa 0 rfl)))))
 ·refine h9 λz hz=>?_
  obtain⟨i,hi⟩:=LX.mp hz
  obtain⟨e1,e2⟩:=eN hi
  rw[LM] at e2
  obtain⟨p,hp,ep⟩:=NO.mp e2
  rw[e1,← ep,wA]
  have il:=(LC.mp hp).1
  rw[ye (by rw[LJ];omega)]
  exact decide_eq_false (Dh hG.pn (by rw[LM,hp];rfl))
end
section
variable {C D:Addr}
abbrev BA:Stmt:=top mV
abbrev nCA:Li:=["spots","found","behind","step"]
theorem Ez:aH nCA ["spots"] (ai BA):=Rp
def RM (S:List aG):Li:=(S.filter λt=>decide (t.kind=("part":Str))).map (·.name)
theorem jE (a b:List aG):RM (a++b)=RM a++RM b:=by unfold RM;rw[MH,L5]
theorem G7 {S:List aG}(h:(RM S).Nodup):(RM S.reverse).Nodup:=by
 unfold RM at h ⊢
 rw[List.filter_reverse,List.map_reverse]
 exact List.pairwise_reverse.mpr (h.imp λz=>NN z)
theorem HP (M:bY K mg)(HC:bA K C f9)(HD:bA K D eW)(F:bD K "called_astray" "called_astray" BA f fd)(hm:mg "called_astray"=some (.ref f))(hb:Binds K fd ["spots"] []):aI P w K mg base "called_astray" 1 (aK (gG C D) K):=by
 have nd:=Ez.nd
 refine bw F Ez hm hb (λqs T ⟨_,e,_⟩=>by rw[e];rfl) (λQ2 A outer st H E qs T hr hS=>?_)
 obtain⟨s,rfl,hG,rfl⟩:=hS
 have hu:=ru hr
 have hl:=hG.l
 have UU:=G7 (S:=s.S) hG.sn
 change WS _ _ [.im (bb C D) s,.no,.no,.no] _ _
 refine aj (cz 1 (r:=af) (ys:=[]) (aP aO (Np _)) ?_)
 refine aj (oV 2 ?_)
 refine WS.Iw 2 rfl λa=>?_
 change WS _ _ [.im (bb C D) s,.mu af [],.ob (mv a []),.no] _ _
 refine bL (N1:=λΓ=>∃ks e3,Γ=[.im (bb C D) s,.mu af [],.ob (mv a ks),e3]) (cC (λi Γ=>∃e3,Γ=[.im (bb C D) s,.mu af [],.ob (mv a (RM (s.S.reverse.take i))),e3]) (Gu M.reversed (vA (C:=C) HD (aa 0 rfl))) (aY 3) ⟨_,rfl⟩ (λi t Γ ht hΓ=>?_) (λΓ hΓ=>?_)) ?_
 ·obtain⟨e3,rfl⟩:=hΓ
  have il:i < s.S.length:=by have:=(LC.mp ht).1;rwa [M0] at this
  have Si:RM (s.S.reverse.take (i + 1))=RM (s.S.reverse.take i)++RM [t]:=by rw[Mm,ht,jE];rfl
  have Rx:(RM (s.S.reverse.take (i + 1))).Nodup:=by
   have:RM s.S.reverse=RM (s.S.reverse.take (i + 1))++RM (s.S.reverse.drop (i + 1)):=by rw[← jE,Mx]
   rw[this] at UU
   exact(Ng.mp UU).1
  have Vd:(RM (s.S.reverse.take i)).length<=240:=by
   unfold RM
   rw[LJ]
   refine Nn (MF _ _) ?_
   rw[L0];omega
  have Us:t.kind="call"->t.name∈RM (s.S.reverse.take i):=λhk=>by
   rw[Nf il] at ht
   obtain⟨m,u,hm',Ug,hk',Tx⟩:=hG.ca _ t ht hk
   have ml:=(LC.mp Ug).1
   unfold RM
   refine LY.mpr ⟨u,Mj.mpr ⟨LO (i:=s.S.length - 1 - m) ?_,decide_eq_true hk'⟩,Tx⟩
   rw[List.getElem?_take,if_pos (by omega),Nf (by omega),show s.S.length - 1 - (s.S.length - 1 - m)=m by omega]
   exact Ug
  rw[Si]
  generalize RM (s.S.reverse.take i)=ks at Si Vd Us
  rw[Si] at Rx
  change WS _ _ [.im (bb C D) s,.mu af [],.ob (mv a ks),.im (a9 C) t] _ _
  refine bL (N1:=λΓ=>Γ=[.im (bb C D) s,.mu af [],.ob (mv a (ks++RM [t])),.im (a9 C) t]) (bq (ay cb (fN (C:=C) HC (aa 3 rfl)) aA) (λh=>?_) (λh=>aN ?_)) ?_
  ·have h:t.kind="part":=of_decide_eq_true h
   have hp:RM [t]=[t.name]:=by unfold RM;rw[MA (by simpa using h)];rfl
   rw[hp] at Rx ⊢
   refine ak (Co 2 hu (nF (C:=C) HC (aa 3 rfl)) vm rfl (λz=>?_) (Nr Vd (by decide)) rfl)
   exact(Ng.mp Rx).2.2 t.name z t.name (LH.mpr rfl) rfl
  ·have h:¬t.kind="part":=of_decide_eq_false h
   have hp:RM [t]=[]:=by unfold RM;rw[MB (by simpa using h)];rfl
   rw[hp,Mh]
  rintro _ rfl
  refine ak (bq (TW.tv (cK (ay cb (fN (C:=C) HC (aa 3 rfl)) aA) (λ_=>du (z0 2 hu (nF (C:=C) HC (aa 3 rfl)) rfl)))) (λh=>?_) (λh=>aN ⟨.im (a9 C) t,rfl⟩))
  exfalso
  obtain⟨h1,h2⟩:=Bool.and_eq_true_iff.mp h
  have h1:t.kind="call":=of_decide_eq_true h1
  rw[decide_eq_true (L7 _ (Us h1))] at h2
  cases h2
 ·obtain⟨e3,rfl⟩:=hΓ
  exact⟨_,e3,rfl⟩
 rintro _ ⟨ks,e3,rfl⟩
 refine WS.freeze 1 rfl (Np _) ?_
 exact ak (aX (aa 1 rfl) rfl)
abbrev wD:Stmt:=top vw
abbrev JF:Li:=["spots","found","waiting","number"]
theorem Fv:aH JF ["spots"] (ai wD):=Rp
def dT (fd:Lh):List (Int×V):=fd.map λk=>(k,V.bl true)
theorem kT (fd:Lh)(k:Int):gJ (dT fd) k=decide (k∈fd):=by
 unfold gJ dT
 rw[List.any_map]
 by_cases h:k∈fd
 ·rw[decide_eq_true h,Nh]
  exact⟨k,h,by simp⟩
 ·rw[decide_eq_false h]
  rw[List.any_eq_false]
  intro x hx
  have:x≠k:=λe=>h (e▸hx)
  simpa using this
def Gn (C D:Addr):cQ:=λK ps T=>∃s:gw,ps=[⟨bb C D,s⟩]/\Good s/\T=cg K gj (λkvs=>∃fd,kvs=dT fd/\Reach s fd)
structure CtI (s:gw) (fd wt:Lh):Prop where
 nd:fd.Nodup
 fv:∀n∈fd,0<=n/\n < (s.S.length:Int)
 wv:∀n∈wt,0<=n/\n < (s.S.length:Int)
 st:∀p∈s.parts,p.2.1∈fd∨p.2.1∈wt
 cl:∀n∈fd,∀l∈s.Ld.getD n.toNat [],l∈fd∨l∈wt
def vU:PV->Int
 | .tup (_:: .int n::_)=>n
 | _=>0
theorem HB (M:bY K mg)(HD:bA K D eW)(F:bD K "come_to" "come_to" wD f fd)(hm:mg "come_to"=some (.ref f))(hb:Binds K fd ["spots"] []):aI P w K mg base "come_to" 1 (aK (Gn C D) K):=by
 have nd:=Fv.nd
 have Su:L3 [("part":Str)]:=by decide
 refine bw F Fv hm hb (λqs T ⟨_,e,_⟩=>by rw[e];rfl) (λQ2 A outer st H E qs T hr hS=>?_)
 obtain⟨s,rfl,hG,rfl⟩:=hS
 have hu:=ru hr
 have hl:=hG.l
 obtain⟨TB,Sj⟩:=hG.li
 have Rj:=hG.pl
 change WS _ _ [.im (bb C D) s,.no,.no,.no] _ _
 refine aj (oV 1 ?_)
 have hst:((s.parts.map jh).filter λ_=>true).map vU=s.parts.map (·.2.1):=by rw[Mi.mpr λ_ _=>rfl,ML];rfl
 refine aj (hJ 2 (own:=["part"]) (fr:=[]) (ix:=[]) (ra:=ax) (rb:=af) (p:=λ_=>true) (f:=vU) (bH (so:=ai wD) (N0:=JF) rfl rfl (λx h=>bh h) (by decide +kernel)) (bR (gv (C:=C) HD (aa 0 rfl)))
  (λC s H ex=>aY 0) (λx=>⟨.inr rfl,trivial⟩) (λC' s H ex c hc=>dg) (λC' s H ex o ho _=>by
   obtain⟨p,_,rfl⟩:=LY.mp ho
   exact EV.iP (n:=p.2.1) (bG (aa 0 rfl) ev_int rfl)) ?_)
 rw[hst]
 change WS _ _ [.im (bb C D) s,.di (dT []),.mu af (s.parts.map (·.2.1)),.no] _ _
 refine bL (N1:=λΓ=>∃fd e3,Γ=[.im (bb C D) s,.di (dT fd),.mu af [],e3]/\Reach s fd) (j2 (λm Γ=>∃fd wt e3,Γ=[.im (bb C D) s,.di (dT fd),.mu af wt,e3]/\CtI s fd wt/\3 * (s.S.length - fd.length) + wt.length=m/\m<=1000) (m0:=3 * s.S.length + s.parts.length) ⟨[],s.parts.map (·.2.1),.no,rfl,⟨M7,(λn h=>by cases h),(λn h=>?_),(λp hp=>.inr (LY.mpr ⟨p,hp,rfl⟩)),(λn h=>by cases h)⟩,by rw[LJ];rfl,by omega⟩ (λm Γ hI=>?_)) ?_
 ·obtain⟨p,hp,rfl⟩:=LY.mp h
  exact hG.pv p hp
 ·obtain⟨fd,wt,e3,rfl,hC,hmm,hm1⟩:=hI
  have fl:=nT s.S.length fd hC.nd hC.fv
  refine⟨!wt.isEmpty,_,jK 2 rfl,λh=>?_,λh=>?_⟩
  ·have Q7:wt≠[]:=λz=>by rw[z] at h;cases h
   obtain⟨wi,n,rfl⟩:∃l x,wt=l++[x]:=⟨wt.dropLast,wt.getLast Q7,(Mo Q7).symm⟩
   rw[LL,L9] at hmm
   obtain⟨n0,n1⟩:=hC.wv n (LU _ (LH.mpr rfl))
   refine aj (aU 3 (y:=n) (qP 2 rfl (by simp)) ?_)
   rw[show(wi++[n]).dropLast=wi by simp]
   change WS _ _ [.im (bb C D) s,.di (dT fd),.mu af wi,ao n] _ _
   refine ak (bq (CQ 1 true hu (aa 3 rfl) rfl) (λh=>?_) (λh=>aN ?_))
   ·have Vc:n∉fd:=by rw[if_pos rfl,kT] at h;simpa using h
    have RQ:bV s.Ld n=some (s.Ld.getD n.toNat []):=aQ (xs:=s.Ld) (i:=n) [] n0 (by omega)
    have Tz:s.Ld.getD n.toNat []∈s.Ld:=by
     rw[LG,LD (show n.toNat < s.Ld.length by omega)]
     exact Mb _
    have h2:=hG.l2 _ Tz
    have VO:=Sj _ Tz
    have fl2:=nT s.S.length (fd++[n]) (fY hC.nd Vc) λx hx=>by
     rcases LW.mp hx with z | z
     ·exact hC.fv x z
     ·rw[LH.mp z];exact⟨n0,n1⟩
    rw[LL,L9] at fl2
    refine aj (yz 1 hu (aa 3 rfl) vm rfl (by rw[kT];exact decide_eq_false Vc) (by unfold dT;rw[LJ];exact Nr (show _<=1000 by omega) (by decide)) ?_)
    have e:dT fd++[(n,V.bl true)]=dT (fd++[n]):=by unfold dT;rw[L5];rfl
    rw[e]
    change WS _ _ [.im (bb C D) s,.di (dT (fd++[n])),.mu af wi,ao n] _ _
    refine ak (xC 2 (aZ (IZ (C:=C) HD (aa 0 rfl)) (aa 3 rfl) RQ) rfl rfl (aD (by omega)) ⟨3 * (s.S.length - (fd++[n]).length) + (wi++s.Ld.getD n.toNat []).length,by rw[LL,LL,L9];omega,fd++[n],wi++s.Ld.getD n.toNat [],ao n,rfl,⟨fY hC.nd Vc,λx hx=>?_,λx hx=>?_,λp hp=>?_,λx hx l Sz=>?_⟩,rfl,by rw[LL,LL,L9];omega⟩)
    ·rcases LW.mp hx with z | z
     ·exact hC.fv x z
     ·rw[LH.mp z];exact⟨n0,n1⟩
    ·rcases LW.mp hx with z | z
     ·exact hC.wv x (L7 _ z)
     ·exact VO x z
    ·rcases hC.st p hp with z | z
     ·exact .inl (L7 _ z)
     ·rcases LW.mp z with z | z
      ·exact .inr (L7 _ z)
      ·exact .inl (LU _ z)
    ·rcases LW.mp hx with z | z
     ·rcases hC.cl x z l Sz with q | q
      ·exact .inl (L7 _ q)
      ·rcases LW.mp q with q | q
       ·exact .inr (L7 _ q)
       ·exact .inl (LU _ q)
     ·rw[LH.mp z] at Sz
      exact .inr (LU _ Sz)
   ·have Vc:n∈fd:=by rw[if_pos rfl,kT] at h;simpa using h
    refine⟨3 * (s.S.length - fd.length) + wi.length,by omega,fd,wi,ao n,rfl,⟨hC.nd,hC.fv,λx hx=>hC.wv x (L7 _ hx),λp hp=>?_,λx hx l Sz=>?_⟩,rfl,by omega⟩
    ·rcases hC.st p hp with z | z
     ·exact .inl z
     ·rcases LW.mp z with z | z
      ·exact .inr z
      ·rw[LH.mp z];exact .inl Vc
    ·rcases hC.cl x hx l Sz with q | q
     ·exact .inl q
     ·rcases LW.mp q with q | q
      ·exact .inr q
      ·rw[LH.mp q];exact .inl Vc
  ·have hwt:wt=[]:=by cases wt with
    | nil=>rfl
    | cons _ _=>cases h
   subst hwt
   exact⟨fd,e3,rfl,λp hp=>(hC.st p hp).resolve_right (by simp),λn hn l Sz=>(hC.cl n hn l Sz).resolve_right (by simp)⟩
 rintro _ ⟨fd,e3,rfl,hR⟩
 exact ak (Gd 1 rfl ⟨fd,rfl,hR⟩)
abbrev uy:Stmt:=top o8
abbrev EY:Li:=["spots","known","lost"]
theorem G9:aH EY ["spots"] (ai uy):=Rp
theorem Ho (M:bY K mg)(M2:jr K mg)(HC:bA K C f9)(HD:bA K D eW)(CT:aI P w K mg base "come_to" 1 (aK (Gn C D) K))(F:bD K "not_come_to" "not_come_to" uy f fd)(hm:mg "not_come_to"=some (.ref f))(hb:Binds K fd ["spots"] []):aI P w K mg base "not_come_to" 2 (aK (gG C D) K):=by
 have nd:=G9.nd
 have Su:L3 [("number":Str),"step","known"]:=by decide
 have Tn:L3 [("step":Str)]:=by decide
 refine bw (k:=1) F G9 hm hb (λqs T ⟨_,e,_⟩=>by rw[e];rfl) (λQ2 A outer st H E qs T hr hS=>?_)
 obtain⟨s,rfl,hG,rfl⟩:=hS
 have hu:=ru hr
 have hl:=hG.l
 change WS _ _ [.im (bb C D) s,.no,.no] _ _
 refine aj (uN 1 CT hr (ag (aa 0 rfl) aw) ⟨s,rfl,hG,rfl⟩ ?_)
 rintro _ ⟨fd,rfl,hR⟩
 change WS _ _ [.im (bb C D) s,.im gj (dT fd),.no] _ _
 refine aj (hJ 2 (own:=["number","step"]) (fr:=["known"]) (ix:=[1]) (ra:=dB af (a9 C)) (rb:=a9 C) (p:=λz=> !gJ (dT fd) z.1) (f:=λz=>z.2) (bH (so:=ai uy) (N0:=EY) rfl rfl (λx h=>bh h) (by decide +kernel)) (gL M.enumerate (vA (C:=C) HD (aa 0 rfl)))
  (λC s H ex=>ft 0 1) (λx=>⟨.inr rfl,.inr rfl,.inl rfl,trivial⟩) (λC' s H ex z hz=>gc (u9 hu (aa 0 rfl) (aa 2 rfl))) (λC' s H ex z hz _=>aa 1 rfl) ?_)
 have lz:(((nums s.S).filter λz=> !gJ (dT fd) z.1).map λz=>z.2).length<=240:=by
  rw[LJ]
  refine Nn (MF _ _) ?_
  rw[cR];exact hl
 refine WS.freeze 2 rfl (aD (by omega)) ?_
 refine ak (aX (aW.im (cq (own:=["step"]) (fr:=[]) (ix:=[]) (ra:=a9 C) (rb:=af) (p:=λt=>decide (t.kind∈Ri)) (f:=λt=>t.word) (bH (so:=ai uy) (N0:=EY) rfl rfl (λx h=>bh h) (by decide +kernel)) (bR (aa 2 rfl))
  (λC s H ex=>aY 0) (λx=>⟨.inr rfl,trivial⟩) (λC' s H ex t ht=>gc (ay jg (fN (C:=C) HC (aa 0 rfl)) (fP M2.Ri))) (λC' s H ex t ht _=>HS (C:=C) HC (aa 0 rfl)))) ?_)
 refine h9 λt ht=>?_
 obtain⟨z,hz,rfl⟩:=LY.mp ht
 obtain⟨hz,hp⟩:=Mj.mp hz
 obtain⟨n,nl,e1,e2⟩:=lR hz
 refine decide_eq_false λhk=>?_
 have:=hG.ct fd hR n nl (by unfold aM;rw[show((n:Nat):Int).toNat=n by omega,e2];exact hk)
 rw[kT,e1,decide_eq_true this] at hp
 cases hp
abbrev vi:Stmt:=top pX
abbrev Gj:Li:=["spots","called"]
theorem GV:aH Gj ["spots"] (ai vi):=Rp
theorem HG (M:bY K mg)(HC:bA K C f9)(HD:bA K D eW)(CN:aI P w K mg base "name_words" 1 (aK (uA C D) K))(F:bD K "not_called" "not_called" vi f fd)(hm:mg "not_called"=some (.ref f))(hb:Binds K fd ["spots"] []):aI P w K mg base "not_called" 2 (aK (gG C D) K):=by
 have nd:=GV.nd
 have Su:L3 [("step":Str)]:=by decide
 have Tn:L3 [("part":Str),"called"]:=by decide
 refine bw (k:=1) F GV hm hb (λqs T ⟨_,e,_⟩=>by rw[e];rfl) (λQ2 A outer st H E qs T hr hS=>?_)
 obtain⟨s,rfl,hG,rfl⟩:=hS
 change WS _ _ [.im (bb C D) s,.no] _ _
 refine aj (aU 1 (aW.im (cq (own:=["step"]) (fr:=[]) (ix:=[]) (ra:=a9 C) (rb:=ah) (p:=λt=>decide (t.kind="call")) (f:=λt=>t.name) (bH (so:=ai vi) (N0:=Gj) rfl rfl (λx h=>bh h) (by decide +kernel)) (bR (vA (C:=C) HD (aa 0 rfl)))
  (λC s H ex=>aY 0) (λx=>⟨.inr rfl,trivial⟩) (λC' s H ex t ht=>gc (ay cb (fN (C:=C) HC (aa 0 rfl)) aA)) (λC' s H ex t ht _=>nF (C:=C) HC (aa 0 rfl)))) ?_)
 generalize T4:(s.S.filter λt=>decide (t.kind=("call":Str))).map (λt=>t.name)=cs
 change WS _ _ [.im (bb C D) s,.im (ae ah) cs] _ _
 refine ak (aX (y:=([]:Lh)) (aE CN hr (ag (aa 0 rfl) (ag (x:=([]:List PV)) (EV.cast (aW.im (cq (own:=["part"]) (fr:=["called"]) (ix:=[1]) (ra:=ax) (rb:=ax) (xs:=cut (s.parts.map jh) (some 1) none) (p:=λz=> !decide (tD z∈cs)) (f:=λz=>z) (bH (so:=ai vi) (N0:=Gj) rfl rfl (λx h=>bh h) (by decide +kernel)) (bR (aW.im (fg (gv (C:=C) HD (aa 0 rfl)) (ov_some ev_int) ov_none)))
  (λC s H ex=>aY 0) (λx=>⟨.inr rfl,.inl rfl,trivial⟩) (λC' s H ex z hz=>?_) (λC' s H ex z hz _=>aa 0 rfl))) ?_) aw)) ⟨s,rfl,rfl⟩) rfl)
 ·rw[show((1:Int))=((1:Nat):Int) from rfl,nz,← Nj] at hz
  obtain⟨p,_,rfl⟩:=LY.mp hz
  exact gc (ay yu (EV.sP (x:=p.1) (bG (aa 0 rfl) ev_int rfl)) (aa 1 rfl))
 ·refine h9 λz hz=>?_
  rw[show((1:Int))=((1:Nat):Int) from rfl,nz,← Nj] at hz
  obtain⟨p,hp,rfl⟩:=LY.mp hz
  obtain⟨t,ht,hk,hn⟩:=hG.nc p hp
  rw[wA,decide_eq_true (show p.1∈cs from by rw[← T4];exact LY.mpr ⟨t,Mj.mpr ⟨ht,decide_eq_true hk⟩,hn⟩)]
  rfl
end
structure iA (mg:Lf):Prop where
 beg:∃t,mg "BEGIN"=some (.int 0 t)
 end_:∃t,mg "END"=some (.int 1 t)
 parts:∃t,mg "MOST_PARTS"=some (.int 4 t)
 places:∃t,mg "MOST_PLACES"=some (.int 16 t)
 rows:∃t,mg "MOST_PROGRAM_ROWS"=some (.int 30 t)
section
variable {X:Cx}{Γ Γ1:Ga}{C D:Addr}
theorem rT (i j:Nat){x z:Str}{p1 p2 ap pos:Pos}{s:gw}{k y:Int}(hD:bA X.K D eW)(hΓ:Γ[i]?=some (.im (bb C D) s))(hj:Γ[j]?=some (ao k))(hk:bV s.St k=some y)
 (hN:X.N[i]?=some x:=by rfl) (hv:autoParam (cG X.env.scope x) RE) (hd:Rh x:=by decide) (Q4:RG x:=by decide)
 (hN':X.N[j]?=some z:=by rfl) (SR:autoParam (cG X.env.scope z) RE) (V0:(z==("__debug__":Str))=false:=by decide) (hcd':(z==("__classdict__":Str))=false:=by decide)
 (hb:Oc (.Name x p1) "stands" X.env (eval (.Name x p1) X.env)=eval (.Name x p1) X.env:=by rfl) (UM:dU (.Name z p2):=by exact λ_ _=>rfl):oh X (.Subscript (.Attribute (.Name x p1) "stands" ap) (.Name z p2) pos) Γ y:=λσ H0 R0 H R E H' Q sR q=>by
 obtain⟨v,ea,xx,dx,vs,rfl,h1,h2⟩:=E.ent i _ hΓ
 obtain⟨u,q1,q2⟩:=h2.get (f:="stands") rfl
 obtain⟨b,ws,rfl,Se,pp,hz⟩:=(show(ae af).R X.K R u s.St from q2)
 obtain⟨v0,e0,Vz⟩:=E.ent j _ hj
 cases Vz
 obtain⟨w,e3,e4⟩:=gD pp hk
 cases e4
 exact eS (gW gU (qX (bp hN hv hd Q4) hb) (bp hN' SR V0 hcd') UM) ⟨.ref xx,at_of ea,xx,D,dx,vs,.ref b,rfl,sR _ _ h1,hD.cl,hD.no _ (cZ (by decide)),q1,.int k,at_of e0,b,ws,k,.int y,rfl,rfl,aT.of (sR _ _ Se),e3,q⟩
end
section
variable {C D:Addr}
abbrev wO:Stmt:=top mj
theorem Fh:aH ["spots"] ["spots"] (ai wO):=Rp
def KG:PV->Int
 | .tup (_::_:: .int n::_)=>n
 | _=>0
theorem Ja (HD:bA K D eW)(CN:aI P w K mg base "name_words" 1 (aK (uA C D) K))(F:bD K "ended_at_begin" "ended_at_begin" wO f fd)(hm:mg "ended_at_begin"=some (.ref f))(hb:Binds K fd ["spots"] []):aI P w K mg base "ended_at_begin" 2 (aK (gG C D) K):=by
 have nd:=Fh.nd
 have Su:L3 [("part":Str),"spots"]:=by decide
 refine bw (k:=1) F Fh hm hb (λqs T ⟨_,e,_⟩=>by rw[e];rfl) (λQ2 A outer st H E qs T hr hS=>?_)
 obtain⟨s,rfl,hG,rfl⟩:=hS
 change WS _ _ [.im (bb C D) s] _ _
 refine ak (aX (y:=([]:Lh)) (aE CN hr (ag (aa 0 rfl) (ag (x:=([]:List PV)) (EV.cast (aW.im (cq (own:=["part"]) (fr:=["spots"]) (ix:=[0]) (ra:=ax) (rb:=ax) (p:=λz=>decide (s.St.getD (vU z).toNat 0=KG z)) (f:=λz=>z) (bH (so:=ai wO) (N0:=["spots"]) rfl rfl (λx h=>bh h) (by decide +kernel)) (bR (gv (C:=C) HD (aa 0 rfl)))
  (λC s H ex=>aY 0) (λx=>⟨.inr rfl,.inl rfl,trivial⟩) (λC' s' H ex z hz=>?_) (λC' s H ex z hz _=>aa 0 rfl))) ?_) aw)) ⟨s,rfl,rfl⟩) rfl)
 ·obtain⟨p,hp,rfl⟩:=LY.mp hz
  obtain⟨p0,p1⟩:=hG.pv p hp
  exact gc (ay fD (aZ (IA (C:=C) HD (aa 1 rfl)) (EV.iP (n:=p.2.1) (bG (aa 0 rfl) ev_int rfl)) (aQ (xs:=s.St) (i:=p.2.1) 0 p0 (by rw[hG.sl];exact p1))) (EV.iP (n:=p.2.2) (bG (aa 0 rfl) ev_int rfl)))
 ·refine h9 λz hz=>?_
  obtain⟨p,hp,rfl⟩:=LY.mp hz
  exact decide_eq_false (hG.eb p hp)
abbrev yH:Stmt:=top oC
theorem Ex:aH ["spots"] ["spots"] (ai yH):=Rp
theorem Ht (M3:iA mg)(HD:bA K D eW)(F:bD K "rows_beyond" "rows_beyond" yH f fd)(hm:mg "rows_beyond"=some (.ref f))(hb:Binds K fd ["spots"] []):aI P w K mg base "rows_beyond" 1 (aK (gG C D) K):=by
 have nd:=Ex.nd
 have Su:L3 [("row":Str),"spots"]:=by decide
 refine bw F Ex hm hb (λqs T ⟨_,e,_⟩=>by rw[e];rfl) (λQ2 A outer st H E qs T hr hS=>?_)
 obtain⟨s,rfl,hG,rfl⟩:=hS
 obtain⟨t,ht⟩:=M3.rows
 change WS _ _ [.im (bb C D) s] _ _
 have hc:cut (s.rows.map gH) (some 30) none=[]:=by
  rw[show((30:Int))=((30:Nat):Int) from rfl,nz,← Nj,MT hG.rl];rfl
 exact ak (aX (aW.im (cq (own:=["row"]) (fr:=["spots"]) (ix:=[0]) (ra:=ax) (rb:=af) (xs:=[]) (p:=λ_=>true) (f:=λ_=>0) (bH (so:=ai yH) (N0:=["spots"]) rfl rfl (λx h=>bh h) (by decide +kernel)) (bR (EV.cast (aW.im (fg (qi (C:=C) HD (aa 0 rfl)) (ov_some (dS ht)) ov_none)) hc))
  (λC s H ex=>aY 0) (λx=>⟨.inr rfl,.inl rfl,trivial⟩) (λC' s H ex c hc=>dg) (λC' s H ex o ho _=>by cases ho))) rfl)
abbrev Bm:Stmt:=top nA
theorem FG:aH ["spots"] ["spots"] (ai Bm):=Rp
theorem Jk (M3:iA mg)(HD:bA K D eW)(CN:aI P w K mg base "name_words" 1 (aK (uA C D) K))(F:bD K "parts_beyond" "parts_beyond" Bm f fd)(hm:mg "parts_beyond"=some (.ref f))(hb:Binds K fd ["spots"] []):aI P w K mg base "parts_beyond" 2 (aK (gG C D) K):=by
 have nd:=FG.nd
 refine bw (k:=1) F FG hm hb (λqs T ⟨_,e,_⟩=>by rw[e];rfl) (λQ2 A outer st H E qs T hr hS=>?_)
 obtain⟨s,rfl,hG,rfl⟩:=hS
 obtain⟨t,ht⟩:=M3.parts
 change WS _ _ [.im (bb C D) s] _ _
 have hc:cut (s.parts.map jh) (some 4) none=[]:=by
  rw[show((4:Int))=((4:Nat):Int) from rfl,nz,← Nj,MT hG.pl];rfl
 exact ak (aX (y:=([]:Lh)) (aE CN hr (ag (aa 0 rfl) (ag (x:=([]:List PV)) (EV.cast (aW.im (fg (gv (C:=C) HD (aa 0 rfl)) (ov_some (dS ht)) ov_none)) hc) aw)) ⟨s,rfl,rfl⟩) rfl)
abbrev vC:Stmt:=top sJ
abbrev KR:Li:=["spots","part","first","last","told","row","step"]
theorem AL:aH KR ["spots","part"] (ai vC):=Rp
def zB (C D:Addr):cQ:=λK ps T=>∃(s:gw) (i:Nat) (p:gE),ps=[⟨bb C D,s⟩,⟨af,(i:Int)⟩]/\Good s/\s.parts[i]?=some p/\T=cg K g9 (· =c6 s p)
theorem lZ (F:Ln)(k:Int):(eC F k).length<=F.length + 1:=by
 unfold eC;split
 ·omega
 ·rw[LL];simp
theorem DB (p:gE)(F:Ln)(r:Rw):(dC p F r).length<=F.length + 2:=by
 unfold dC;split
 ·exact Nn (lZ _ _) (by have:=lZ F r.1;omega)
 ·omega
theorem GK (p:gE)(F:Ln)(rs:List Rw):(rs.foldl (dC p) F).length<=F.length + 2 * rs.length:=by
 induction rs generalizing F with
 | nil=>exact Nm _
 | cons r rs ih=>
   rw[MG,LR]
   have:=ih (dC p F r)
   have:=DB p F r
   omega
theorem Fw (M:bY K mg)(M3:iA mg)(HD:bA K D eW)(F:bD K "places_in" "places_in" vC f fd)(hm:mg "places_in"=some (.ref f))(hb:Binds K fd ["spots","part"] []):aI P w K mg base "places_in" 1 (aK (zB C D) K):=by
 have nd:=AL.nd
 refine bw F AL hm hb (λqs T ⟨_,_,_,e,_⟩=>by rw[e];rfl) (λQ2 A outer st H E qs T hr hS=>?_)
 obtain⟨s,i,p,rfl,hG,hp,rfl⟩:=hS
 obtain⟨t1,hbg⟩:=M3.beg
 obtain⟨t2,hen⟩:=M3.end_
 have pm:=LO hp
 have il:=(LC.mp hp).1
 obtain⟨p0,p1⟩:=hG.pv p pm
 have hrl:=hG.rl
 have RQ:bV (s.parts.map jh) (i:Int)=some (jh p):=by
  rw[nM (by omega) (by rw[LJ];omega),show((i:Nat):Int).toNat=i by omega,LM,hp];rfl
 change WS _ _ [.im (bb C D) s,ao (i:Int),.no,.no,.no,.no,.no] _ _
 refine aj (aU 2 (y:=p.2.1) (EV.iP (bG (xs:=[.str p.1,.int p.2.1,.int p.2.2]) (aZ (gv (C:=C) HD (aa 0 rfl)) (aa 1 rfl) RQ) ev_int rfl)) ?_)
 refine aj (aU 3 (y:=p.2.2) (EV.iP (bG (xs:=[.str p.1,.int p.2.1,.int p.2.2]) (aZ (gv (C:=C) HD (aa 0 rfl)) (aa 1 rfl) RQ) ev_int rfl)) ?_)
 change WS _ _ [.im (bb C D) s,ao (i:Int),ao p.2.1,ao p.2.2,.no,.no,.no] _ _
 refine aj (Cq 4 (v:=0) (u:=1) (rT (C:=C) 0 2 HD rfl rfl (aQ (xs:=s.St) (i:=p.2.1) 0 p0 (by rw[hG.sl];exact p1))) (tO 3 rfl) (gM rfl hbg ⟨t1,rfl⟩) (gM rfl hen ⟨t2,rfl⟩) (hG.eb p pm) ?_)
 generalize hF0:[(s.St.getD p.2.1.toNat 0,(0:Int)),(p.2.2,1)]=F0
 have Rj:c6 s p=s.rows.foldl (dC p) F0:=by unfold c6;rw[hF0]
 have f0l:F0.length=2:=by rw[← hF0];rfl
 rw[Rj]
 change WS _ _ [.im (bb C D) s,ao (i:Int),ao p.2.1,ao p.2.2,.di (cI F0),.no,.no] _ _
 refine bL (N1:=λΓ=>∃e5 e6,Γ=[.im (bb C D) s,ao (i:Int),ao p.2.1,ao p.2.2,.di (cI (s.rows.foldl (dC p) F0)),e5,e6]) (cC (λj Γ=>∃e5 e6,Γ=[.im (bb C D) s,ao (i:Int),ao p.2.1,ao p.2.2,.di (cI ((s.rows.take j).foldl (dC p) F0)),e5,e6]) (bR (qi (C:=C) HD (aa 0 rfl))) (aY 5) ⟨_,_,rfl⟩ (λj z Γ hz hΓ=>?_) (λΓ hΓ=>?_)) ?_
 ·obtain⟨e5,e6,rfl⟩:=hΓ
  rw[LM] at hz
  obtain⟨r,S7,rfl⟩:=NO.mp hz
  have jl:=(LC.mp S7).1
  have fl:=GK p F0 (s.rows.take j)
  have tl:(s.rows.take j).length<=30:=by rw[L0];omega
  have Si:(s.rows.take (j + 1)).foldl (dC p) F0=dC p ((s.rows.take j).foldl (dC p) F0) r:=by rw[Mm,S7,MO];rfl
  rw[Si]
  generalize (s.rows.take j).foldl (dC p) F0=Fj at fl
  have fj:Fj.length<=62:=by omega
  change WS _ _ [.im (bb C D) s,ao (i:Int),ao p.2.1,ao p.2.2,.di (cI Fj),.im ax (gH r),e6] _ _
  refine ak (bq (zi kC kC (aa 2 rfl) (EV.iP (n:=r.1) (bG (aa 5 rfl) ev_int rfl)) (aa 3 rfl)) (λh=>?_) (λh=>aN ⟨.im ax (gH r),e6,?_⟩))
  ·have Sj:lC p r=true:=h
   have hcut:cut [PV.int r.1,.int r.2.1,.str r.2.2.1,.str r.2.2.2] none (some 2)=[.int r.1,.int r.2.1]:=rfl
   have g:dC p Fj r=eC (eC Fj r.1) r.2.1:=if_pos Sj
   rw[g]
   have l1:=lZ Fj r.1
   refine ak (cC (r:=ax) (xs:=[.int r.1,.int r.2.1]) (λq Γ=>∃e6,Γ=[.im (bb C D) s,ao (i:Int),ao p.2.1,ao p.2.2,.di (cI (([r.1,r.2.1].take q).foldl eC Fj)),.im ax (gH r),e6]) (De (by show 2<=N7;decide) (EV.cast (EX (aa 5 rfl) ov_none (ov_some ev_int)) (congrArg PV.tup hcut))) (aY 6) ⟨_,rfl⟩ (λq y Γ hy hΓ=>?_) (λΓ hΓ=>?_))
   ·obtain⟨e6,rfl⟩:=hΓ
    obtain⟨n,hn,rfl⟩:∃n,[r.1,r.2.1][q]?=some n/\PV.int n=y:=by
     have:([r.1,r.2.1].map PV.int)[q]?=some y:=hy
     rw[LM] at this
     exact NO.mp this
    have hnq:([r.1,r.2.1].take (q + 1)).foldl eC Fj=eC (([r.1,r.2.1].take q).foldl eC Fj) n:=by rw[Mm,hn,MO];rfl
    rw[hnq]
    have hql:(([r.1,r.2.1].take q).foldl eC Fj).length<=64:=by
     have key:∀(ks:Lh) (G:Ln),(ks.foldl eC G).length<=G.length + ks.length:=by
      intro ks
      induction ks with
      | nil=>intro G;exact Nm _
      | cons k ks ih=>intro G;rw[MG,LR];have:=ih (eC G k);have:=lZ G k;omega
     have:=key ([r.1,r.2.1].take q) Fj
     have:([r.1,r.2.1].take q).length<=2:=by rw[L0];exact NH _ _
     omega
    generalize ([r.1,r.2.1].take q).foldl eC Fj=G at hql
    change WS _ _ [.im (bb C D) s,ao (i:Int),ao p.2.1,ao p.2.2,.di (cI G),.im ax (gH r),.im ax (.int n)] _ _
    refine ak (FO 4 (k:=n) (EV.iP (aa 6 rfl)) (zh 4 M.len rfl) rfl (Nr hql (by decide)) ⟨.im ax (.int n),?_⟩)
    unfold eC
    rfl
   ·obtain⟨e6,rfl⟩:=hΓ
    exact⟨.im ax (gH r),e6,rfl⟩
  ·have Sj:¬lC p r=true:=by
    rw[show lC p r=false from h];decide
   rw[show dC p Fj r=Fj from if_neg Sj]
 ·obtain⟨e5,e6,rfl⟩:=hΓ
  refine⟨e5,e6,?_⟩
  rw[LJ,Mn]
 rintro _ ⟨e5,e6,rfl⟩
 exact ak (uB 4 rfl rfl)
end
def vI:PV->Int
 | .tup (.int n::_)=>n
 | _=>0
section
variable {C D:Addr}
abbrev uR:Stmt:=top mQ
abbrev G3:Li:=["spots","known","lost","found","number","part","whole"]
theorem Fo:aH G3 ["spots"] (ai uR):=Rp
theorem Ir (M:bY K mg)(M3:iA mg)(HD:bA K D eW)(CN:aI P w K mg base "name_words" 1 (aK (uA C D) K))(CT:aI P w K mg base "come_to" 1 (aK (Gn C D) K))(CP:aI P w K mg base "places_in" 1 (aK (zB C D) K))(F:bD K "places_beyond" "places_beyond" uR f fd)(hm:mg "places_beyond"=some (.ref f))(hb:Binds K fd ["spots"] []):aI P w K mg base "places_beyond" 2 (aK (gG C D) K):=by
 have nd:=Fo.nd
 have Su:L3 [("row":Str),"known"]:=by decide
 have Tn:L3 [("row":Str),"part"]:=by decide
 refine bw (k:=1) F Fo hm hb (λqs T ⟨_,e,_⟩=>by rw[e];rfl) (λQ2 A outer st H E qs T hr hS=>?_)
 obtain⟨s,rfl,hG,rfl⟩:=hS
 obtain⟨t,hmp⟩:=M3.places
 have hu:=ru hr
 change WS _ _ [.im (bb C D) s,.no,.no,.no,.no,.no,.no] _ _
 refine aj (uN 1 CT hr (ag (aa 0 rfl) aw) ⟨s,rfl,hG,rfl⟩ ?_)
 rintro _ ⟨fd,rfl,hR⟩
 change WS _ _ [.im (bb C D) s,.im gj (dT fd),.no,.no,.no,.no,.no] _ _
 have VP:(((s.rows.map gH).filter λz=> !gJ (dT fd) (vI z)).map vI)=[]:=h9 λz hz=>by
  obtain⟨r,S7,rfl⟩:=LY.mp hz
  obtain⟨⟨r0,r1⟩,rk⟩:=hG.rk r S7
  have:=hG.ct fd hR r.1.toNat (by omega) (by rw[show((r.1.toNat:Nat):Int)=r.1 by omega];exact rk)
  rw[show((r.1.toNat:Nat):Int)=r.1 by omega] at this
  show(!gJ (dT fd) r.1)=false
  rw[kT,decide_eq_true this];rfl
 refine aj (hJ 2 (own:=["row"]) (fr:=["known"]) (ix:=[1]) (ra:=ax) (rb:=af) (p:=λz=> !gJ (dT fd) (vI z)) (f:=vI) (bH (so:=ai uR) (N0:=G3) rfl rfl (λx h=>bh h) (by decide +kernel)) (bR (qi (C:=C) HD (aa 0 rfl)))
  (λC s H ex=>aY 0) (λx=>⟨.inr rfl,.inl rfl,trivial⟩) (λC' s H ex z hz=>by
   obtain⟨r,_,rfl⟩:=LY.mp hz
   exact gc (u9 hu (EV.iP (n:=r.1) (bG (aa 0 rfl) ev_int rfl)) (aa 1 rfl))) (λC' s H ex z hz _=>by
   obtain⟨r,_,rfl⟩:=LY.mp hz
   exact EV.iP (n:=r.1) (bG (aa 0 rfl) ev_int rfl)) ?_)
 rw[VP]
 refine WS.freeze 2 rfl (Np _) ?_
 refine aj (cz 3 (r:=ax) (ys:=[]) (aP aO (Np _)) ?_)
 change WS _ _ [.im (bb C D) s,.im gj (dT fd),bQ [],.mu ax [],.no,.no,.no] _ _
 refine bL (N1:=λΓ=>∃e4 e5 e6,Γ=[.im (bb C D) s,.im gj (dT fd),bQ [],.mu ax [],e4,e5,e6]) (cC (λi Γ=>∃e4 e5 e6,Γ=[.im (bb C D) s,.im gj (dT fd),bQ [],.mu ax [],e4,e5,e6]) (gL M.enumerate (gv (C:=C) HD (aa 0 rfl))) (ft 4 5) ⟨_,_,_,rfl⟩ (λi z Γ hz hΓ=>?_) (λΓ hΓ=>hΓ)) ?_
 ·obtain⟨e4,e5,e6,rfl⟩:=hΓ
  obtain⟨e1,e2⟩:=eN hz
  rw[LM] at e2
  obtain⟨p,hp,ep⟩:=NO.mp e2
  obtain⟨zn,zp⟩:=z
  dsimp only at e1 ep
  subst ep
  subst e1
  change WS _ _ [.im (bb C D) s,.im gj (dT fd),bQ [],.mu ax [],ao (i:Int),.im ax (jh p),e6] _ _
  refine aj (aU 6 (y:=true) (EV.cast (xB (D2 M.any (aW.im (cq (own:=["row"]) (fr:=["part"]) (ix:=[5]) (ra:=af) (rb:=bZ) (p:=λ_=>true) (f:=λ_=>true) (bH (so:=ai uR) (N0:=G3) rfl rfl (λx h=>bh h) (by decide +kernel)) (bR (aa 2 rfl))
   (λC s H ex=>aY 0) (λx=>⟨.inr rfl,.inl rfl,trivial⟩) (λC' s H ex c hc=>dg) (λC' s H ex o ho _=>by cases ho))))) rfl) ?_)
  change WS _ _ [.im (bb C D) s,.im gj (dT fd),bQ [],.mu ax [],ao (i:Int),.im ax (jh p),.im bZ true] _ _
  refine ak (bq (TW.tv (cK (dG (aa 6 rfl)) (λ_=>du (ay fb (qB M.len (aE CP hr (ag (aa 0 rfl) (ag (aa 4 rfl) aw)) ⟨s,i,p,rfl,hG,hp,rfl⟩)) (dS hmp))))) (λh=>?_) (λh=>aN ⟨_,_,_,rfl⟩))
  exfalso
  have:=hG.pc p (LO hp)
  rw[decide_eq_false (show¬(16:Int) < ((c6 s p).length:Int) by omega)] at h
  cases h
 rintro _ ⟨e4,e5,e6,rfl⟩
 refine WS.freeze 3 rfl (Np _) ?_
 exact ak (aX (y:=([]:Lh)) (aE CN hr (ag (aa 0 rfl) (ag (aa 3 rfl) aw)) ⟨s,rfl,rfl⟩) rfl)
abbrev BB:Stmt:=top p7
abbrev nHI:Li:=["spots","found"]
theorem Em:aH nHI ["spots"] (ai BB):=Rp
theorem HV (NA:aI P w K mg base "named_again" 2 (aK (gG C D) K))(CA:aI P w K mg base "called_astray" 1 (aK (gG C D) K))(NC:aI P w K mg base "not_come_to" 2 (aK (gG C D) K))(NL:aI P w K mg base "not_called" 2 (aK (gG C D) K))(EB:aI P w K mg base "ended_at_begin" 2 (aK (gG C D) K))(RB:aI P w K mg base "rows_beyond" 1 (aK (gG C D) K))(PY:aI P w K mg base "places_beyond" 2 (aK (gG C D) K))(PB:aI P w K mg base "parts_beyond" 2 (aK (gG C D) K))(F:bD K "hindrances" "hindrances" BB f fd)(hm:mg "hindrances"=some (.ref f))(hb:Binds K fd ["spots"] []):aI P w K mg base "hindrances" 3 (aK (gG C D) K):=by
 have nd:=Em.nd
 have CA:=CA.mono (show 1<=2 by decide)
 have RB:=RB.mono (show 1<=2 by decide)
 refine bw (k:=2) F Em hm hb (λqs T ⟨_,e,_⟩=>by rw[e];rfl) (λQ2 A outer st H E qs T hr hS=>?_)
 obtain⟨s,rfl,hG,rfl⟩:=hS
 change WS _ _ [.im (bb C D) s,.no] _ _
 have z:(([]:Lh)).length + (([]:Lh)).length<=N7:=Np _
 refine aj (aU 1 (y:=([]:Lh)) (aW.im (bU (xs:=[]) (ys:=[]) (aW.im (bU (xs:=[]) (ys:=[]) (aW.im (bU (xs:=[]) (ys:=[]) (aE NA hr (ag (aa 0 rfl) aw) ⟨s,rfl,hG,rfl⟩) (aE CA hr (ag (aa 0 rfl) aw) ⟨s,rfl,hG,rfl⟩) z)) (aE NC hr (ag (aa 0 rfl) aw) ⟨s,rfl,hG,rfl⟩) z)) (aE NL hr (ag (aa 0 rfl) aw) ⟨s,rfl,hG,rfl⟩) z)) ?_)
 change WS _ _ [.im (bb C D) s,bQ []] _ _
 exact ak (aX (y:=([]:Lh)) (aW.im (bU (xs:=[]) (ys:=[]) (aW.im (bU (xs:=[]) (ys:=[]) (aW.im (bU (xs:=[]) (ys:=[]) (aW.im (bU (xs:=[]) (ys:=[]) (aa 1 rfl) (aE EB hr (ag (aa 0 rfl) aw) ⟨s,rfl,hG,rfl⟩) z)) (aE RB hr (ag (aa 0 rfl) aw) ⟨s,rfl,hG,rfl⟩) z)) (aE PY hr (ag (aa 0 rfl) aw) ⟨s,rfl,hG,rfl⟩) z)) (aE PB hr (ag (aa 0 rfl) aw) ⟨s,rfl,hG,rfl⟩) z)) rfl)
abbrev Bg:Stmt:=top nr
abbrev nNP:Li:=["text","spots","found"]
theorem EC:aH nNP ["text"] (ai Bg):=Rp
def Ka (C D:Addr):cQ:=λK ps T=>∃(x:Str) (S:List aG) (Ld:List Lh),ps=[⟨ah,x⟩]/\oI x S/\mE S Ld/\Good (Q0 S Ld)/\T=cg K (bb C D) (· =Q0 S Ld)
theorem Hw (G:sy P w K mg base C D)(CH:aI P w K mg base "hindrances" 3 (aK (gG C D) K))(F:bD K "need_program" "need_program" Bg f fd)(hm:mg "need_program"=some (.ref f))(hb:Binds K fd ["text"] []):aI P w K mg base "need_program" 6 (aK (Ka C D) K):=by
 have nd:=EC.nd
 have CH:=CH.mono (show 3<=5 by decide)
 refine bw (k:=5) F EC hm hb (λqs T ⟨_,_,_,e,_⟩=>by rw[e];rfl) (λQ2 A outer st H E qs T hr hS=>?_)
 obtain⟨x,S,Ld,rfl,hx,hk,hG,rfl⟩:=hS
 change WS _ _ [.im ah x,.no,.no] _ _
 refine aj (aU 1 (y:=Q0 S Ld) (zA G hr (ag (aa 0 rfl) aw) hx hk) ?_)
 refine aj (aU 2 (y:=([]:Lh)) (aE CH hr (ag (aa 1 rfl) aw) ⟨Q0 S Ld,rfl,hG,rfl⟩) ?_)
 change WS _ _ [.im ah x,.im (bb C D) (Q0 S Ld),bQ []] _ _
 refine aj (bq (sL (aa 2 rfl)) (λh=>by cases h) (λ_=>aN ?_))
 exact ak (aX (aa 1 rfl) rfl)
end
section
variable {α:Type}{a b:Int}{l:Lh}
def Pure:Prop:=∀(names:Li) (Ls:List (List Th)),dq names Ls->∃Ld,mE (aq names Ls) Ld/\Good (Q0 (aq names Ls) Ld)
theorem Dn {names:Li}{Ls:List (List Th)}(h:dq names Ls):oI (Qq " " (ij names Ls)) (aq names Ls):=by
 obtain⟨pl,po⟩:=sY h
 refine⟨ij names Ls,_,rfl,λe=>?_,pl,po,pW h⟩
 have:=h.l1
 have hl:=h.l
 cases names with
 | nil=>rw[Mc] at hl;omega
 | cons x names=>cases Ls with
   | nil=>exact absurd h.l1 (by simp)
   | cons L Ls=>
     unfold ij at e
     rw[List.zip_cons_cons,MP] at e
     unfold eG at e
     simp at e
def dI (S:List α)(a:Nat)(vs:List α):Prop:=∀(i:Nat) (v:α),vs[i]?=some v->S[a + i]?=some v
theorem dI.app {S:List α}{w:Nat}{a b:List α}(h:dI S w (a++b)):dI S w a/\dI S (w + a.length) b:=by
 refine⟨λi v hv=>h i v ?_,λi v hv=>?_⟩
 ·rw[L4 (LC.mp hv).1];exact hv
 ·have:=h (a.length + i) v (by rw[L8 (by omega),show a.length + i - a.length=i by omega];exact hv)
  rw[show w + a.length + i=w + (a.length + i) by omega];exact this
theorem dI.self (S:List α):dI S 0 S:=λi v hv=>by rw[NK];exact hv
theorem dI.d {α:Type}{S:List α}{a:Nat}{vs:List α}(h:dI S a vs){i:Nat}{v:α}(hv:vs[i]?=some v)(d:α):S.getD (a + i) d=v/\a + i < S.length:=by
 have:=h i v hv
 exact⟨by rw[LG,this];rfl,(LC.mp this).1⟩
theorem dI.k {S:List aG}{a:Nat}{vs:List aG}(h:dI S a vs){i:Nat}{v:aG}(hv:vs[i]?=some v):aM S ((a + i:Nat):Int)=v.kind/\bW S ((a + i:Nat):Int)=v.within/\a + i < S.length:=by
 obtain⟨e,l⟩:=h.d hv dJ
 unfold aM
 rw[show(((a + i:Nat)):Int).toNat=a + i by omega,e]
 refine⟨rfl,?_,l⟩
 show(S.getD (((a + i:Nat)):Int).toNat dJ).within=_
 rw[show(((a + i:Nat)):Int).toNat=a + i by omega,e]
def cw (S:List aG):Lh:=(S.filter λt=>decide (t.kind∈Q1)).map (·.within)
theorem fK (a b:List aG):cw (a++b)=cw a++cw b:=by unfold cw;rw[MH,L5]
theorem kL {s:aG}(h:s.kind∉Q1):cw [s]=[]:=by unfold cw;rw[MB (by simpa using h)];rfl
theorem n8 {s:aG}(h:s.kind∈Q1):cw [s]=[s.within]:=by unfold cw;rw[MA (by simpa using h)];rfl
def gF (a b:Int)(l:Lh):Prop:=l.Nodup/\∀x∈l,a<=x/\x < b
theorem gF.app {c:Int}{m:Lh}(h:gF a b l)(h':gF b c m)(h1:a<=b)(h2:b<=c):gF a c (l++m):=by
 refine⟨Ng.mpr ⟨h.1,h'.1,λx hx y hy e=>?_⟩,λx hx=>?_⟩
 ·have:=h.2 x hx;have:=h'.2 y hy;omega
 ·rcases LW.mp hx with z | z
  ·have:=h.2 x z;omega
  ·have:=h'.2 x z;omega
theorem gF.wide {a' b':Int}(h:gF a b l)(h1:a'<=a)(h2:b<=b'):gF a' b' l:=⟨h.1,λx hx=>by have:=h.2 x hx;omega⟩
theorem gF.add {x:Int}(h:gF a b l)(hx:x < a∨b<=x)(lo hi:Int)(h1:lo<=a)(h2:b<=hi)(h3:lo<=x)(h4:x < hi):gF lo hi (l++[x]):=by
 refine⟨fY h.1 λz=>by have:=h.2 x z;omega,λy hy=>?_⟩
 rcases LW.mp hy with z | z
 ·have:=h.2 y z;omega
 ·rw[LH.mp z];omega
theorem gF.nil (a b:Int):gF a b []:=⟨M7,λx h=>by cases h⟩
mutual
theorem cwT {names:Li}:∀(t:Th) (a w u:Int),gF a (a + bJ t) (cw (spT names a w u t))
 | .RL _,a,w,u=>by rw[spT,kL (show("do":Str)∉Q1 by decide +kernel)];exact .nil _ _
 | .call _,a,w,u=>by rw[spT,kL (show("call":Str)∉Q1 by decide +kernel)];exact .nil _ _
 | .leave,a,w,u=>by rw[spT,kL (show("leave":Str)∉Q1 by decide +kernel)];exact .nil _ _
 | .back,a,w,u=>by rw[spT,kL (show("back":Str)∉Q1 by decide +kernel)];exact .nil _ _
 | .Rg x A,a,w,u=>by
   have h:=xE (names:=names) A (a + 1) (w + 2) a
   rw[spT,bJ,fK,fK,kL (show("while":Str)∉Q1 by decide +kernel),n8 (show("end":Str)∈Q1 by decide +kernel),Nk]
   push_cast
   exact h.add (.inl (by omega)) _ _ (by omega) (by omega) (by omega) (by omega)
 | .ifs x A B,a,w,u=>by
   have h:=xE (names:=names) A (a + 1) (w + 2) a
   have h':=xE (names:=names) B (a + 2 + QY A) (w + 3 + (Q5 names A).length) (a + 1 + QY A)
   rw[spT,bJ,fK,fK,fK,fK,kL (show("if":Str)∉Q1 by decide +kernel),n8 (show("else":Str)∈Q1 by decide +kernel),n8 (show("end":Str)∈Q1 by decide +kernel),Nk]
   push_cast
   have g1:gF a (a + 1 + QY A) (cw (cy names (a + 1) (w + 2) a A)++[a]):=h.add (.inl (by omega)) _ _ (by omega) (by omega) (by omega) (by omega)
   have g2:gF (a + 1 + QY A) (a + 2 + QY A + QY B) (cw (cy names (a + 2 + QY A) (w + 3 + (Q5 names A).length) (a + 1 + QY A) B)++[a + 1 + QY A]):=h'.add (.inl (by omega)) _ _ (by omega) (by omega) (by omega) (by omega)
   have g:=g1.app g2 (by omega) (by omega)
   rw[L1] at g
   exact g.wide (by omega) (by omega)
theorem xE {names:Li}:∀(ts:List Th) (a w u:Int),gF a (a + QY ts) (cw (cy names a w u ts))
 | [],a,w,u=>by rw[cy];exact .nil _ _
 | t::ts,a,w,u=>by
   have h:=cwT (names:=names) t a w u
   have h':=xE (names:=names) ts (a + bJ t) (w + (cD names t).length) u
   rw[cy,fK,QY]
   push_cast
   exact(h.app h' (by omega) (by omega)).wide (by omega) (by omega)
end
end
section
variable {S:List aG}
theorem JT {names:Li}:∀(zs:List (Str×List Th)) (a w:Int),gF a (a + dh zs) (cw (f7 names a w zs))
 | [],a,w=>by rw[f7];exact .nil _ _
 | z::r,a,w=>by
   have h:=xE (names:=names) z.2 (a + 1) (w + 2) a
   have h':=JT (names:=names) r (a + 2 + QY z.2) (w + 3 + (Q5 names z.2).length)
   rw[f7,dh,fK,fK,fK,kL (show("part":Str)∉Q1 by decide +kernel),n8 (show("end":Str)∈Q1 by decide +kernel),Nk]
   push_cast
   have g1:gF a (a + 2 + QY z.2) (cw (cy names (a + 1) (w + 2) a z.2)++[a]):=h.add (.inl (by omega)) _ _ (by omega) (by omega) (by omega) (by omega)
   have g:=g1.app h' (by omega) (by omega)
   rw[L1] at g
   exact g.wide (by omega) (by omega)
theorem zH {a b:Option Int}(h:a.map V.int=b.map V.int):a=b:=by
 cases a<;>cases b<;>simp at h<;>simp[h]
theorem rW (F:Ln)(k v j:Int):bB (kI F k v) j=if j=k then some v else bB F j:=by
 have h:=Ah (cf (cI F)) (Sum.inl k:Key) (Sum.inl j) (.int v)
 rw[qE,j5,j5] at h
 apply zH
 rw[h]
 by_cases e:j=k
 ·rw[if_pos (by rw[e]),if_pos e];rfl
 ·rw[if_neg (λz=>e (Sum.inl.inj z)),if_neg e]
theorem i9 {F:Ln}{k:Int}:(bB F k).isSome=true↔k∈F.map (·.1):=by
 unfold bB
 rw[NT,List.find?_isSome]
 simp only[decide_eq_true_eq,LY]
theorem uf {k:Int}:∀{ps:List (Int×aG)} {F:Ln},(∀z∈ps,z.2.kind∈Q1->z.2.within≠k)->bB (ps.foldl fz F) k=bB F k
 | [],F,_=>rfl
 | y::ps,F,h=>by
   rw[MG,uf λz hz=>h z (LN _ hz)]
   unfold fz
   split
   ·rename_i hc
    rw[rW,if_neg (λe=>h y LP hc e.symm)]
   ·rfl
theorem oO:∀{ps:List (Int×aG)} {F:Ln},((ps.filter λz=>decide (z.2.kind∈Q1)).map (·.2.within)).Nodup->∀z∈ps,z.2.kind∈Q1->bB (ps.foldl fz F) z.2.within=some z.1
 | y::ps,F,nd,z,hz,hc=>by
   rw[MG]
   by_cases hy:y.2.kind∈Q1
   ·rw[MA (by simpa using hy),Me,Mg] at nd
    rcases LV.mp hz with rfl | hz
    ·rw[uf λx hx hxc e=>nd.1 (LY.mpr ⟨x,Mj.mpr ⟨hx,by simpa using hxc⟩,e⟩)]
     unfold fz
     rw[if_pos hy,rW,if_pos rfl]
    ·exact oO nd.2 z hz hc
   ·rw[MB (by simpa using hy)] at nd
    rcases LV.mp hz with rfl | hz
    ·exact absurd hc hy
    ·exact oO nd z hz hc
theorem mI (S:List aG):(nums S).map (·.2)=S:=by
 refine Mw λi=>?_
 rw[LM]
 rcases Nv i S.length with h | h
 ·have hn:i < (nums S).length:=by rw[cR];exact h
  rw[LD hn]
  have:=(eN (LD hn)).2
  rw[this];rfl
 ·rw[Ma (by rw[cR];exact h),Ma h];rfl
theorem Cm (S:List aG):cw S=((nums S).filter λz=>decide (z.2.kind∈Q1)).map (·.2.within):=by
 conv=>lhs;rw[← mI S]
 unfold cw
 rw[Nl,ML]
 rfl
theorem mG {n:Nat}{s:aG}(h:S[n]?=some s):((n:Int),s)∈nums S:=by
 have hl:=(LC.mp h).1
 have hn:n < (nums S).length:=by rw[cR];exact hl
 obtain⟨e1,e2⟩:=eN (LD hn)
 rw[h] at e2
 have:(nums S)[n]=((n:Int),s):=NU e1 (Option.some.inj e2).symm
 rw[← this]
 exact Mb hn
theorem nZ (nd:(cw S).Nodup){n:Nat}{s:aG}(h:S[n]?=some s)(hc:s.kind∈Q1):bB (dm S) s.within=some (n:Int):=by
 rw[Cm] at nd
 exact oO nd ((n:Int),s) (mG h) hc
def Up (S:List aG)(u:Int)(kd:Str)(a:Int):Prop:=∃k:Nat,Rm (bW S) k u=a/\(∀j,j<=k->0<=Rm (bW S) j u/\Rm (bW S) j u < (S.length:Int))/\(∀j,j < k->aM S (Rm (bW S) j u)≠kd)/\aM S a=kd
theorem oS {α:Type}(f:α->α)(x:α)(j:Nat):Rm f (j + 1) x=Rm f j (f x):=by
 rw[show j + 1=1 + j by omega,ma];rfl
theorem Up.here {u:Int}{kd:Str}(h0:0<=u)(h1:u < (S.length:Int))(hk:aM S u=kd):Up S u kd u:=⟨0,rfl,λj hj=>by
 obtain rfl:j=0:=by omega
 exact⟨h0,h1⟩,λj hj=>by omega,hk⟩
theorem Up.step {u a:Int}{kd:Str}(h0:0<=u)(h1:u < (S.length:Int))(hk:aM S u≠kd)(h:Up S (bW S u) kd a):Up S u kd a:=by
 obtain⟨k,e,Sj,Q7,ha⟩:=h
 refine⟨k + 1,by rw[oS];exact e,λj hj=>?_,λj hj=>?_,ha⟩
 ·cases j with
  | zero=>exact⟨h0,h1⟩
  | succ j=>rw[oS];exact Sj j (by omega)
 ·cases j with
  | zero=>exact hk
  | succ j=>rw[oS];exact Q7 j (by omega)
mutual
def fX (a wl pe:Int):Th->List Lh
 | .RL _=>[[a + 1]]
 | .call _=>[[a + 1]]
 | .ifs _ A B=>[[a + 1,a + 2 + QY A]]++iq (a + 1) wl pe A++([[a + 2 + QY A + QY B]]++(iq (a + 2 + QY A) wl pe B++[[a + 3 + QY A + QY B]]))
 | .Rg _ A=>[[a + 1,a + 2 + QY A]]++(iq (a + 1) (a + 2 + QY A) pe A++[[a]])
 | .leave=>[[wl]]
 | .back=>[[pe]]
def iq (a wl pe:Int):List Th->List Lh
 | []=>[]
 | t::ts=>fX a wl pe t++iq (a + bJ t) wl pe ts
end
end
mutual
theorem ox:∀(t:Th) (a wl pe:Int),(fX a wl pe t).length=bJ t
 | .RL _,_,_,_=>by simp[fX,bJ]
 | .call _,_,_,_=>by simp[fX,bJ]
 | .ifs x A B,a,wl,pe=>by
   simp only[fX,bJ,LL,dH A,dH B,LR,Mc]
   omega
 | .Rg x A,a,wl,pe=>by
   simp only[fX,bJ,LL,dH A,LR,Mc]
   omega
 | .leave,_,_,_=>by simp[fX,bJ]
 | .back,_,_,_=>by simp[fX,bJ]
theorem dH:∀(ts:List Th) (a wl pe:Int),(iq a wl pe ts).length=QY ts
 | [],_,_,_=>by simp[iq,QY]
 | t::ts,a,wl,pe=>by rw[iq,QY,LL,ox t,dH ts]
end
section
variable {S:List aG}{Ld:List Lh}{B pe:Int}{a:Nat}
def pd (a:Int):List (Str×List Th)->List Lh
 | []=>[]
 | z::r=>[[a + 1]]++(iq (a + 1) 0 (a + 1 + QY z.2) z.2++([[]]++pd (a + 2 + QY z.2) r))
theorem uO:∀(zs:List (Str×List Th)) (a:Int),(pd a zs).length=dh zs
 | [],_=>rfl
 | z::r,a=>by
   rw[pd,dh]
   simp only[LL,dH,uO r,LR,Mc]
   omega
structure jD (S:List aG) (Ld:List Lh) (B pe:Int) (n:Nat):Prop where
 ld:dF S (dm S) (n:Int) (Ld.getD n [])
 rg:∀l∈Ld.getD n [],B<=l/\l<=pe
 ln:(Ld.getD n []).length<=2
 go:bC (aM S (n:Int))=false->∃l r,Ld.getD n []=l::r/\((n:Int) < l∨bC (aM S l)=true)
structure xM (S:List aG) (B pe wl u:Int) (lp:Bool) (hi:Nat):Prop where
 pt:∃p,Up S u "part" p/\bB (dm S) p=some pe
 wh:lp=true->(∃A,Up S u "while" A/\bB (dm S) A=some (wl - 1))/\(hi:Int)<=wl/\wl<=pe
 pe:(hi:Int)<=pe
 u0:0<=u
 u1:u < (S.length:Int)
def fU (S:List aG)(Ld:List Lh)(B pe:Int)(a k:Nat):Prop:=∀i,i < k->jD S Ld B pe (a + i)
theorem fU.app {k m:Nat}(h:fU S Ld B pe a k)(h':fU S Ld B pe (a + k) m):fU S Ld B pe a (k + m):=λi hi=>by
 by_cases q:i < k
 ·exact h i q
 ·have:=h' (i - k) (by omega)
  rwa [show a + k + (i - k)=a + i by omega] at this
theorem fU.one (h:jD S Ld B pe a):fU S Ld B pe a 1:=λi hi=>by
 obtain rfl:i=0:=by omega
 exact h
theorem fU.nil:fU S Ld B pe a 0:=λi hi=>by omega
theorem FT:bC "do"=true:=by decide +kernel
theorem y9:bC "call"=true:=by decide +kernel
theorem xV:bC "if"=true:=by decide +kernel
theorem lE:bC "while"=true:=by decide +kernel
theorem h8 {n:Nat}{l:Int}(hL:Ld.getD n []=[l])(h:dF S (dm S) (n:Int) [l])(h0:B<=l)(h1:l<=pe)(hg:(n:Int) < l∨bC (aM S l)=true):jD S Ld B pe n:=by
 refine⟨by rw[hL];exact h,by rw[hL];intro x hx;rw[LH.mp hx];exact⟨h0,h1⟩,by rw[hL];exact Nx 1,λ_=>⟨l,[],hL,hg⟩⟩
theorem xn {n:Nat}{l m:Int}(hL:Ld.getD n []=[l,m])(h:dF S (dm S) (n:Int) [l,m])(h0:B<=l)(h1:l<=pe)(h2:B<=m)(h3:m<=pe)(hg:bC (aM S (n:Int))=true):jD S Ld B pe n:=by
 refine⟨by rw[hL];exact h,by
  rw[hL];intro x hx
  rcases LV.mp hx with rfl | hx
  ·exact⟨h0,h1⟩
  ·rw[LH.mp hx];exact⟨h2,h3⟩,by rw[hL];exact Nm 2,λq=>by rw[hg] at q;cases q⟩
end
section
variable {S:List aG}{Ld:List Lh}{names:Li}{lo m B pe:Int}(Ts:(cw S).Nodup)
include Ts
mutual
theorem stT:∀(t:Th) (lp:Bool) (a:Nat) (w u wl:Int),cH lo m lp t->dI S a (spT names (a:Int) w u t)->dI Ld a (fX (a:Int) wl pe t)->xM S B pe wl u lp (a + bJ t)->B<=(a:Int)->fU S Ld B pe a (bJ t)
 | .RL x,lp,a,w,u,wl,h,hS,hL,hc,hB=>by
   rw[spT] at hS
   rw[fX] at hL
   simp only[bJ] at hc ⊢
   obtain⟨k1,k2,k3⟩:=hS.k (i:=0) rfl
   have e1:=(hL.d (i:=0) rfl []).1
   have:=hc.pe
   refine .one (h8 e1 (.Tv (.inr (.inl k1))) (by omega) (by push_cast at this;omega) (.inl ?_))
   show(a:Int) < _
   omega
 | .call x,lp,a,w,u,wl,h,hS,hL,hc,hB=>by
   rw[spT] at hS
   rw[fX] at hL
   simp only[bJ] at hc ⊢
   obtain⟨k1,k2,k3⟩:=hS.k (i:=0) rfl
   have e1:=(hL.d (i:=0) rfl []).1
   have:=hc.pe
   refine .one (h8 e1 (.Tv (.inr (.inr k1))) (by omega) (by push_cast at this;omega) (.inl ?_))
   show(a:Int) < _
   omega
 | .leave,lp,a,w,u,wl,h,hS,hL,hc,hB=>by
   simp only[cH] at h
   rw[spT] at hS
   rw[fX] at hL
   simp only[bJ] at hc ⊢
   obtain⟨k1,k2,k3⟩:=hS.k (i:=0) rfl
   have e1:=(hL.d (i:=0) rfl []).1
   obtain⟨⟨A,hA,hF⟩,w1,w2⟩:=hc.wh h
   push_cast at w1
   have hl:dF S (dm S) ((a + 0:Nat):Int) [wl - 1 + 1]:=.Ud (a:=A) k1 (by unfold Ar;rw[k2];exact hA) hF
   rw[show wl - 1 + 1=wl by omega] at hl
   refine .one (h8 e1 hl (by omega) (by omega) (.inl ?_))
   show(a:Int) < _
   omega
 | .back,lp,a,w,u,wl,h,hS,hL,hc,hB=>by
   rw[spT] at hS
   rw[fX] at hL
   simp only[bJ] at hc ⊢
   obtain⟨k1,k2,k3⟩:=hS.k (i:=0) rfl
   have e1:=(hL.d (i:=0) rfl []).1
   obtain⟨p,hp,hF⟩:=hc.pt
   have w1:=hc.pe
   push_cast at w1
   refine .one (h8 e1 (.Uy (a:=p) k1 (by unfold Ar;rw[show bW S (a:Int)=u from k2];exact hp) hF) (by omega) (by omega) (.inl ?_))
   show(a:Int) < _
   omega
 | .Rg x A,lp,a,w,u,wl,h,hS,hL,hc,hB=>by
   simp only[cH] at h
   rw[spT] at hS
   rw[fX] at hL
   simp only[bJ] at hc ⊢
   obtain⟨s1,s2⟩:=hS.app
   obtain⟨s2,s3⟩:=s2.app
   obtain⟨d1,d2⟩:=hL.app
   obtain⟨d2,d3⟩:=d2.app
   rw[cu] at s3
   rw[dH] at d3
   simp only[LR,Mc] at s2 s3 d2 d3
   obtain⟨k1,k2,k3⟩:=s1.k (i:=0) rfl
   obtain⟨k4,k5,k6⟩:=s3.k (i:=0) rfl
   have e1:=(d1.d (i:=0) rfl []).1
   have e3:=(d3.d (i:=0) rfl []).1
   have hF:bB (dm S) (a:Int)=some (((a + (0 + 1) + QY A + 0:Nat)):Int):=nZ (s:=⟨"end","",w + 2 + (Q5 names A).length,(a:Int)⟩) Ts (s3 0 _ rfl) (show("end":Str)∈Q1 by decide +kernel)
   have VD:=hc.pe
   push_cast at VD hF
   have To:aM S (a:Int)="while":=k1
   have k2':bW S (a:Int)=u:=k2
   have ala:a < S.length:=k3
   have p1:jD S Ld B pe a:=by
    have hl:dF S (dm S) (a:Int) [(a:Int) + 1,(a:Int) + (0 + 1) + QY A + 0 + 1]:=.row (.inr To) hF
    rw[show(a:Int) + (0 + 1) + QY A + 0 + 1=(a:Int) + 2 + QY A by omega] at hl
    exact xn e1 hl (by omega) (by omega) (by omega) (by omega) (by rw[To];exact lE)
   have c2:xM S B pe ((a:Int) + 2 + QY A) (a:Int) true (a + (0 + 1) + QY A):=by
    obtain⟨p,hp,VE⟩:=hc.pt
    refine⟨⟨p,.step (by omega) (by omega) (by rw[To];decide +kernel) (by rw[k2'];exact hp),VE⟩,λ_=>⟨⟨(a:Int),.here (by omega) (by omega) To,?_⟩,by push_cast;omega,by omega⟩,by push_cast;omega,by omega,by omega⟩
    rw[hF];congr 1;omega
   have p2:=xr A true (a + (0 + 1)) (w + 2) (a:Int) ((a:Int) + 2 + QY A) h.2 (by push_cast;exact s2) (by push_cast;exact d2) c2 (by push_cast;omega)
   have p3:jD S Ld B pe (a + (0 + 1) + QY A + 0):=by
    have hl:dF S (dm S) ((a + (0 + 1) + QY A + 0:Nat):Int) [bW S ((a + (0 + 1) + QY A + 0:Nat):Int)]:=.Ut k4 (by rw[k5];show(0:Int)<=(a:Int);omega) (by rw[k5];show(a:Int) < _;omega) (by rw[k5];exact To)
    rw[k5] at hl
    exact h8 e3 hl (by omega) (by omega) (.inr (by rw[To];exact lE))
   have:=(fU.one p1).app (p2.app (fU.one p3))
   rwa [show 1 + (QY A + 1)=2 + QY A by omega] at this
 | .ifs x A Bb,lp,a,w,u,wl,h,hS,hL,hc,hB=>by
   simp only[cH] at h
   rw[spT,L1] at hS
   rw[fX,L1] at hL
   simp only[bJ] at hc ⊢
   obtain⟨s1,s2⟩:=hS.app
   obtain⟨s2,s3⟩:=s2.app
   obtain⟨s3,s4⟩:=s3.app
   obtain⟨s4,s5⟩:=s4.app
   obtain⟨d1,d2⟩:=hL.app
   obtain⟨d2,d3⟩:=d2.app
   obtain⟨d3,d4⟩:=d3.app
   obtain⟨d4,d5⟩:=d4.app
   rw[cu] at s3 s4 s5
   rw[cu] at s5
   rw[dH] at d3 d4 d5
   rw[dH] at d5
   simp only[LR,Mc] at s2 s3 s4 s5 d2 d3 d4 d5
   obtain⟨k1,k2,k3⟩:=s1.k (i:=0) rfl
   obtain⟨k4,k5,k6⟩:=s3.k (i:=0) rfl
   obtain⟨k7,k8,k9⟩:=s5.k (i:=0) rfl
   have e1:=(d1.d (i:=0) rfl []).1
   have e3:=(d3.d (i:=0) rfl []).1
   have e5:=(d5.d (i:=0) rfl []).1
   have hF:bB (dm S) (a:Int)=some (((a + (0 + 1) + QY A + 0:Nat)):Int):=nZ (s:=⟨"else","",w + 2 + (Q5 names A).length,(a:Int)⟩) Ts (s3 0 _ rfl) (show("else":Str)∈Q1 by decide +kernel)
   have hF2:bB (dm S) ((a:Int) + 1 + QY A)=some (((a + (0 + 1) + QY A + (0 + 1) + QY Bb + 0:Nat)):Int):=nZ (s:=⟨"end","",w + 3 + (Q5 names A).length + (Q5 names Bb).length,(a:Int) + 1 + QY A⟩) Ts (s5 0 _ rfl) (show("end":Str)∈Q1 by decide +kernel)
   have VD:=hc.pe
   push_cast at VD hF hF2
   have To:aM S (a:Int)="if":=k1
   have k2':bW S (a:Int)=u:=k2
   have ala:a < S.length:=k3
   have en:((a + (0 + 1) + QY A + 0:Nat):Int)=(a:Int) + 1 + QY A:=by push_cast;omega
   rw[en] at k4 k5
   have k4':aM S ((a:Int) + 1 + QY A)="else":=k4
   have k5':bW S ((a:Int) + 1 + QY A)=(a:Int):=k5
   have p1:jD S Ld B pe a:=by
    have hl:dF S (dm S) (a:Int) [(a:Int) + 1,(a:Int) + (0 + 1) + QY A + 0 + 1]:=.row (.inl To) hF
    rw[show(a:Int) + (0 + 1) + QY A + 0 + 1=(a:Int) + 2 + QY A by omega] at hl
    exact xn e1 hl (by omega) (by omega) (by omega) (by omega) (by rw[To];exact xV)
   have cA:xM S B pe wl (a:Int) lp (a + (0 + 1) + QY A):=by
    obtain⟨p,hp,VE⟩:=hc.pt
    refine⟨⟨p,.step (by omega) (by omega) (by rw[To];decide +kernel) (by rw[k2'];exact hp),VE⟩,λq=>?_,by push_cast;omega,by omega,by omega⟩
    obtain⟨⟨Aw,hA,hAF⟩,w1,w2⟩:=hc.wh q
    push_cast at w1
    exact⟨⟨Aw,.step (by omega) (by omega) (by rw[To];decide +kernel) (by rw[k2'];exact hA),hAF⟩,by push_cast;omega,w2⟩
   have cB:xM S B pe wl ((a:Int) + 1 + QY A) lp (a + (0 + 1) + QY A + (0 + 1) + QY Bb):=by
    obtain⟨p,hp,VE⟩:=cA.pt
    refine⟨⟨p,.step (by omega) (by omega) (by rw[k4'];decide +kernel) (by rw[k5'];exact hp),VE⟩,λq=>?_,by push_cast;omega,by omega,by omega⟩
    obtain⟨⟨Aw,hA,hAF⟩,w1,w2⟩:=cA.wh q
    obtain⟨_,w3,_⟩:=hc.wh q
    push_cast at w3
    exact⟨⟨Aw,.step (by omega) (by omega) (by rw[k4'];decide +kernel) (by rw[k5'];exact hA),hAF⟩,by push_cast;omega,w2⟩
   have p2:=xr A lp (a + (0 + 1)) (w + 2) (a:Int) wl h.2.1 (by push_cast;exact s2) (by push_cast;exact d2) cA (by push_cast;omega)
   have p3:jD S Ld B pe (a + (0 + 1) + QY A + 0):=by
    have hl:dF S (dm S) ((a + (0 + 1) + QY A + 0:Nat):Int) [(a:Int) + (0 + 1) + QY A + (0 + 1) + QY Bb + 0]:=by rw[en];exact .Uv k4' hF2
    rw[show(a:Int) + (0 + 1) + QY A + (0 + 1) + QY Bb + 0=(a:Int) + 2 + QY A + QY Bb by omega] at hl
    exact h8 e3 hl (by omega) (by omega) (.inl (by push_cast;omega))
   have q4:(((a + (0 + 1) + QY A + (0 + 1):Nat)):Int)=(a:Int) + 2 + QY A:=by push_cast;omega
   have p4:=xr Bb lp (a + (0 + 1) + QY A + (0 + 1)) (w + 3 + (Q5 names A).length) ((a:Int) + 1 + QY A) wl h.2.2 (by rw[q4];exact s4) (by rw[q4];exact d4) cB (by push_cast;omega)
   have p5:jD S Ld B pe (a + (0 + 1) + QY A + (0 + 1) + QY Bb + 0):=by
    have hl:dF S (dm S) ((a + (0 + 1) + QY A + (0 + 1) + QY Bb + 0:Nat):Int) [((a + (0 + 1) + QY A + (0 + 1) + QY Bb + 0:Nat):Int) + 1]:=.Uu k7 (by rw[k8];show(0:Int)<=(a:Int) + 1 + QY A;omega) (by rw[k8];show(a:Int) + 1 + QY A < _;omega) (by rw[k8];exact k4')
    rw[show((a + (0 + 1) + QY A + (0 + 1) + QY Bb + 0:Nat):Int) + 1=(a:Int) + 3 + QY A + QY Bb by push_cast;omega] at hl
    exact h8 e5 hl (by omega) (by omega) (.inl (by push_cast;omega))
   have:=(fU.one p1).app (p2.app ((fU.one p3).app (p4.app (fU.one p5))))
   rwa [show 1 + (QY A + (1 + (QY Bb + 1)))=3 + QY A + QY Bb by omega] at this
theorem xr:∀(ts:List Th) (lp:Bool) (a:Nat) (w u wl:Int),bO lo m lp ts->dI S a (cy names (a:Int) w u ts)->dI Ld a (iq (a:Int) wl pe ts)->xM S B pe wl u lp (a + QY ts)->B<=(a:Int)->fU S Ld B pe a (QY ts)
 | [],lp,a,w,u,wl,h,hS,hL,hc,hB=>by rw[QY];exact .nil
 | t::ts,lp,a,w,u,wl,h,hS,hL,hc,hB=>by
   simp only[bO] at h
   rw[cy] at hS
   rw[iq] at hL
   rw[QY] at hc ⊢
   obtain⟨s1,s2⟩:=hS.app
   obtain⟨d1,d2⟩:=hL.app
   rw[mi] at s2
   rw[ox] at d2
   have VD:=hc.pe
   push_cast at VD
   have p1:=stT t lp a w u wl h.1 s1 d1 ⟨hc.pt,λq=>by
    obtain⟨x,y,z⟩:=hc.wh q
    push_cast at y
    exact⟨x,by push_cast;omega,z⟩,by push_cast;omega,hc.u0,hc.u1⟩ hB
   have p2:=xr ts lp (a + bJ t) (w + (cD names t).length) u wl h.2.2 (by push_cast;exact s2) (by push_cast;exact d2) ⟨hc.pt,λq=>by
    obtain⟨x,y,z⟩:=hc.wh q
    push_cast at y
    exact⟨x,by push_cast;omega,z⟩,by push_cast;omega,hc.u0,hc.u1⟩ (by push_cast;omega)
   exact p1.app p2
end
end
structure GC (S:List aG) (Ld:List Lh) (names:Li) (f:Nat) (w:Int) (z:Str×List Th):Prop where
 s:dI S f ([⟨"part",z.1,w, -1⟩]++(cy names ((f:Int) + 1) (w + 2) (f:Int) z.2++[⟨"end","",w + 2 + (Q5 names z.2).length,(f:Int)⟩]))
 d:dI Ld f ([[(f:Int) + 1]]++(iq ((f:Int) + 1) 0 ((f:Int) + 1 + QY z.2) z.2++[[]]))
theorem dI.pre {α:Type}{S:List α}{a:Nat}{x y:List α}(h:dI S a (x++y)):dI S a x:=h.app.1
theorem yi {S:List aG}{Ld:List Lh}{names:Li}:∀{zs:List (Str×List Th)} {a:Nat} {w:Int},dI S a (f7 names (a:Int) w zs)->dI Ld a (pd (a:Int) zs)->∀(j:Nat) (z:Str×List Th),zs[j]?=some z->∃w',GC S Ld names (a + dh (zs.take j)) w' z
 | [],_,_,_,_,j,z,h=>by simp at h
 | y::r,a,w,hS,hL,j,z,h=>by
   rw[f7] at hS
   rw[pd] at hL
   cases j with
   | zero=>
     have e:y=z:=by simpa using h
     subst e
     refine⟨w,?_,?_⟩
     ·rw[show([⟨"part",y.1,w, -1⟩]++(cy names ((a:Int) + 1) (w + 2) (a:Int) y.2++([⟨"end","",w + 2 + (Q5 names y.2).length,(a:Int)⟩]++f7 names ((a:Int) + 2 + QY y.2) (w + 3 + (Q5 names y.2).length) r)):List aG)=([⟨"part",y.1,w, -1⟩]++(cy names ((a:Int) + 1) (w + 2) (a:Int) y.2++[⟨"end","",w + 2 + (Q5 names y.2).length,(a:Int)⟩]))++f7 names ((a:Int) + 2 + QY y.2) (w + 3 + (Q5 names y.2).length) r by simp only[L1]] at hS
      exact hS.pre
     ·rw[show([[(a:Int) + 1]]++(iq ((a:Int) + 1) 0 ((a:Int) + 1 + QY y.2) y.2++([[]]++pd ((a:Int) + 2 + QY y.2) r)):List Lh)=([[(a:Int) + 1]]++(iq ((a:Int) + 1) 0 ((a:Int) + 1 + QY y.2) y.2++[[]]))++pd ((a:Int) + 2 + QY y.2) r by simp only[L1]] at hL
      exact hL.pre
   | succ j=>
     have s4:=hS.app.2.app.2.app.2
     have d4:=hL.app.2.app.2.app.2
     rw[cu] at s4
     rw[dH] at d4
     simp only[LR,Mc] at s4 d4
     have e:a + (0 + 1) + QY y.2 + (0 + 1)=a + 2 + QY y.2:=by omega
     rw[e] at s4 d4
     have:=yi (zs:=r) (a:=a + 2 + QY y.2) (w:=w + 3 + (Q5 names y.2).length) (by push_cast;exact s4) (by push_cast;exact d4) j z (by simpa using h)
     rw[Mv,dh]
     rwa [show a + (2 + QY y.2 + dh (r.take j))=a + 2 + QY y.2 + dh (r.take j) by omega]
theorem cover:∀(zs:List (Str×List Th)) (n:Nat),n < dh zs->∃(j:Nat) (z:Str×List Th),zs[j]?=some z/\dh (zs.take j)<=n/\n < dh (zs.take j) + 2 + QY z.2
 | [],n,h=>by rw[dh] at h;omega
 | y::r,n,h=>by
   rw[dh] at h
   by_cases q:n < 2 + QY y.2
   ·exact⟨0,y,rfl,Np _,by show n < 0 + 2 + _;omega⟩
   ·obtain⟨j,z,h1,h2,h3⟩:=cover r (n - (2 + QY y.2)) (by omega)
    exact⟨j + 1,z,h1,by rw[Mv,dh];omega,by rw[Mv,dh];omega⟩
theorem mh:∀(zs:List (Str×List Th)) (j k:Nat) (z:Str×List Th),zs[j]?=some z->j < k->dh (zs.take j) + 2 + QY z.2<=dh (zs.take k)
 | [],j,k,z,h,_=>by simp at h
 | y::r,0,k + 1,z,h,_=>by
   have e:y=z:=by simpa using h
   subst e
   rw[Mv,dh,take_zero,dh];omega
 | y::r,j + 1,k + 1,z,h,hk=>by
   have:=mh r j k z (by simpa using h) (by omega)
   rw[Mv,Mv,dh,dh];omega
section
variable {S:List aG}{Ld:List Lh}{names:Li}{f:Nat}{w:Int}{z:Str×List Th}
abbrev lst (f:Nat)(z:Str×List Th):Nat:=f + 1 + QY z.2
structure eA (S:List aG) (Ld:List Lh) (names:Li) (f:Nat) (w:Int) (z:Str×List Th):Prop where
 k:aM S (f:Int)="part"
 nm:S[f]?=some ⟨"part",z.1,w, -1⟩
 s:dI S (f + 1) (cy names (((f + 1:Nat)):Int) (w + 2) (f:Int) z.2)
 d:dI Ld (f + 1) (iq (((f + 1:Nat)):Int) 0 ((lst f z:Nat):Int) z.2)
 e:S[lst f z]?=some ⟨"end","",w + 2 + (Q5 names z.2).length,(f:Int)⟩
 df:Ld.getD f []=[(f:Int) + 1]
 dl:Ld.getD (lst f z) []=[]
 dn:lst f z < Ld.length
theorem GC.p (h:GC S Ld names f w z):eA S Ld names f w z:=by
 obtain⟨hS,hL⟩:=h
 obtain⟨s1,s2⟩:=hS.app
 obtain⟨s2,s3⟩:=s2.app
 obtain⟨d1,d2⟩:=hL.app
 obtain⟨d2,d3⟩:=d2.app
 rw[cu] at s3
 rw[dH] at d3
 simp only[LR,Mc] at s2 s3 d2 d3
 refine⟨(s1.k (i:=0) rfl).1,s1 0 _ rfl,by push_cast;exact s2,by push_cast;exact d2,s3 0 _ rfl,(d1.d (i:=0) rfl []).1,(d3.d (i:=0) rfl []).1,(d3.d (i:=0) rfl []).2⟩
theorem gm {n:Nat}{s:aG}(h:S[n]?=some s):aM S (n:Int)=s.kind/\bW S (n:Int)=s.within:=by
 have e:S.getD ((n:Nat):Int).toNat dJ=s:=by rw[show((n:Nat):Int).toNat=n by omega,LG,h];rfl
 exact⟨by unfold aM;rw[e],by show(S.getD ((n:Nat):Int).toNat dJ).within=_;rw[e]⟩
theorem eA.cl (h:eA S Ld names f w z)(Ts:(cw S).Nodup):bB (dm S) (f:Int)=some ((lst f z:Nat):Int):=nZ Ts h.e (show("end":Str)∈Q1 by decide +kernel)
theorem eA.all (h:eA S Ld names f w z)(Ts:(cw S).Nodup){lo m:Int}(Q3:bO lo m false z.2):∀n,f<=n->n < lst f z->jD S Ld ((f:Int) + 1) ((lst f z:Nat):Int) n:=by
 have fl:f < S.length:=(LC.mp h.nm).1
 have hs:=xr (B:=(f:Int) + 1) (lo:=lo) (m:=m) Ts z.2 false (f + 1) (w + 2) (f:Int) 0 Q3 h.s h.d ⟨⟨(f:Int),.here (by omega) (by omega) h.k,h.cl Ts⟩,(λq=>by cases q),LA _,by omega,by omega⟩ (by push_cast;omega)
 intro n h1 h2
 by_cases q:n=f
 ·subst q
  exact h8 h.df (.Tv (.inl h.k)) (by omega) (by push_cast;omega) (.inl (by omega))
 ·have T7:n < f + 1 + QY z.2:=h2
  have:=hs (n - (f + 1)) (by omega)
  rwa [show f + 1 + (n - (f + 1))=n by omega] at this
theorem eA.last (h:eA S Ld names f w z):dF S (dm S) ((lst f z:Nat):Int) (Ld.getD (lst f z) []):=by
 obtain⟨k1,k2⟩:=gm h.e
 have fl:f < S.length:=(LC.mp h.nm).1
 rw[h.dl]
 exact .T8 k1 (by rw[k2];show(0:Int)<=(f:Int);omega) (by rw[k2];show(f:Int) < _;omega) (by rw[k2];exact h.k)
end
section
variable {names:Li}{Ls:List (List Th)}
abbrev cW (names:Li)(Ls:List (List Th)):List (Str×List Th):=names.zip Ls
abbrev bz (names:Li)(Ls:List (List Th)):List Lh:=pd 0 (cW names Ls)
abbrev fst (names:Li)(Ls:List (List Th))(j:Nat):Nat:=dh ((cW names Ls).take j)
theorem lN {j:Nat}{z:Str×List Th}(h:(cW names Ls)[j]?=some z):∃w,eA (aq names Ls) (bz names Ls) names (fst names Ls j) w z:=by
 obtain⟨w,hw⟩:=yi (S:=aq names Ls) (Ld:=bz names Ls) (names:=names) (zs:=cW names Ls) (a:=0) (w:=0) (dI.self _) (dI.self _) j z h
 rw[NK] at hw
 exact⟨w,hw.p⟩
theorem iz:(cw (aq names Ls)).Nodup:=(JT (names:=names) (cW names Ls) 0 0).1
theorem eU (h:dq names Ls){j:Nat}{z:Str×List Th}(hz:(cW names Ls)[j]?=some z):bO (j:Int) (Ls.length:Int) false z.2/\gB z.2/\cx z.2<=14/\names[j]?=some z.1/\Ls[j]?=some z.2:=by
 obtain⟨h1,h2⟩:=iV hz
 have hm:=LO h2
 exact⟨h.ok j z.2 h2,h.hd z.2 hm,h.rw z.2 hm,h1,h2⟩
theorem AK:(aq names Ls).length=dh (cW names Ls):=uY _ _ _
theorem Jg:(bz names Ls).length=dh (cW names Ls):=uO _ _
theorem jV (h:dq names Ls)(n:Nat)(hn:n < (aq names Ls).length):∃(j:Nat) (z:Str×List Th) (w:Int),(cW names Ls)[j]?=some z/\eA (aq names Ls) (bz names Ls) names (fst names Ls j) w z/\fst names Ls j<=n/\n<=lst (fst names Ls j) z/\lst (fst names Ls j) z < (aq names Ls).length:=by
 rw[AK] at hn
 obtain⟨j,z,h1,h2,h3⟩:=cover _ n hn
 obtain⟨w,hb⟩:=lN (names:=names) (Ls:=Ls) h1
 refine⟨j,z,w,h1,hb,h2,by show n<=dh (List.take j (cW names Ls)) + 1 + QY z.2;omega,(LC.mp hb.e).1⟩
theorem zK (h:dq names Ls):vt (aq names Ls) (bz names Ls)/\rM (aq names Ls) (bz names Ls)/\∀ls∈bz names Ls,ls.length<=2:=by
 have hl:(bz names Ls).length=(aq names Ls).length:=by rw[AK,Jg]
 have key:∀n,n < (aq names Ls).length->dF (aq names Ls) (dm (aq names Ls)) (n:Int) ((bz names Ls).getD n [])/\(∀l∈(bz names Ls).getD n [],0<=l/\l < ((aq names Ls).length:Int))/\((bz names Ls).getD n []).length<=2:=by
  intro n hn
  obtain⟨j,z,w,hz,hb,h1,h2,h3⟩:=jV h n hn
  by_cases q:n=lst (fst names Ls j) z
  ·subst q
   refine⟨hb.last,?_,?_⟩
   ·rw[hb.dl];intro l hl;cases hl
   ·rw[hb.dl];exact Np _
  ·have st:=hb.all iz (eU h hz).1 n h1 (by omega)
   refine⟨st.ld,λl Sz=>?_,st.ln⟩
   have:=st.rg l Sz
   omega
 have mem:∀ls∈bz names Ls,∃n,n < (aq names Ls).length/\(bz names Ls).getD n []=ls:=λls hm=>by
  obtain⟨n,hn,e⟩:=MQ hm
  exact⟨n,by omega,by rw[LG,LD hn,e];rfl⟩
 refine⟨⟨hl,λn hn=>(key n hn).1⟩,⟨hl,λls hm l Sz=>?_⟩,λls hm=>?_⟩
 ·obtain⟨n,hn,e⟩:=mem ls hm
  exact(key n hn).2.1 l (by rw[e];exact Sz)
 ·obtain⟨n,hn,e⟩:=mem ls hm
  rw[← e];exact(key n hn).2.2
end
section
variable {S:List aG}{Ld:List Lh}
variable {n:Nat}
theorem ua {i:Nat}(hi:i < S.length)(hn:n≠S.length - 1 - i):(S0 S Ld (i + 1)).getD n 0=(S0 S Ld i).getD n 0:=by
 rw[iU hi]
 unfold oa
 split
 ·simp only[LG]
  rw[Mf (by omega)]
 ·rfl
theorem qG:∀(i n:Nat),i<=S.length->n < S.length - i->(S0 S Ld i).getD n 0=(n:Int)
 | 0,n,_,h=>by
   show(ups 0 S.length).getD n 0=_
   rw[LG]
   unfold ups
   rw[LM,Mq (by omega)]
   show(0:Int) + (n:Int)=_
   omega
 | i + 1,n,hi,h=>by rw[ua (by omega) (by omega)];exact qG i n (by omega) (by omega)
theorem t9 {i n:Nat}(hn:S.length - i<=n):∀d:Nat,i + d<=S.length->(S0 S Ld (i + d)).getD n 0=(S0 S Ld i).getD n 0
 | 0,_=>rfl
 | d + 1,h=>by rw[← Nat.add_assoc,ua (by omega) (by omega)];exact t9 hn d (by omega)
theorem r8 {i:Nat}(hi:i<=S.length)(hn:S.length - i<=n):(S0 S Ld i).getD n 0=(cU S Ld).getD n 0:=by
 have:=t9 (S:=S) (Ld:=Ld) hn (S.length - i) (by omega)
 rw[show i + (S.length - i)=S.length by omega] at this
 exact this.symm
theorem kF (hn:n < S.length)(h:(Ld.getD n [])=[]∨bC (aM S (n:Int))=true):(cU S Ld).getD n 0=(n:Int):=by
 rw[← r8 (i:=S.length - 1 - n + 1) (by omega) (by omega),iU (by omega),show(S.length:Int) - 1 - ((S.length - 1 - n:Nat):Int)=(n:Int) by omega]
 unfold oa
 rw[if_neg (by
  rw[show((n:Nat):Int).toNat=n by omega]
  rintro⟨h1,h2⟩
  rcases h with h | h
  ·rw[h] at h1;cases h1
  ·rw[h] at h2;cases h2)]
 exact qG _ n (by omega) (by omega)
theorem rY (hn:n < S.length){l:Int}{r:Lh}(hL:Ld.getD n []=l::r)(hr:bC (aM S (n:Int))=false)(l0:0<=l)(l1:l < (S.length:Int)):(cU S Ld).getD n 0=if(n:Int) < l then(cU S Ld).getD l.toNat 0 else l:=by
 rw[← r8 (i:=S.length - 1 - n + 1) (n:=n) (by omega) (by omega),iU (by omega),show(S.length:Int) - 1 - ((S.length - 1 - n:Nat):Int)=(n:Int) by omega]
 unfold oa
 rw[show((n:Nat):Int).toNat=n by omega,hL,if_pos ⟨rfl,hr⟩]
 have ln:=iH (S:=S) (Ld:=Ld) (S.length - 1 - n) (by omega)
 rw[LG,LZ (by omega)]
 show(S0 S Ld (S.length - 1 - n)).getD l.toNat 0=_
 by_cases q:(n:Int) < l
 ·rw[if_pos q];exact r8 (by omega) (by omega)
 ·rw[if_neg q,qG _ _ (by omega) (by omega)];omega
end
section
variable {S:List aG}{Ld:List Lh}{names:Li}{f:Nat}{w:Int}{z:Str×List Th}
variable {lo m:Int}
def EG (S:List aG)(f l:Nat)(v:Int):Prop:=(f:Int) < v/\v<=(l:Int)/\(v=(l:Int)∨bC (aM S v)=true)
theorem eA.vG (h:eA S Ld names f w z)(Ts:(cw S).Nodup)(Q3:bO lo m false z.2):∀(d n:Nat),lst f z - n=d->f<=n->n<=lst f z->EG S f (lst f z) ((cU S Ld).getD n 0):=by
 have ll:lst f z < S.length:=(LC.mp h.e).1
 have fl:f < lst f z:=by show f < f + 1 + QY z.2;omega
 intro d
 induction d using Nat.strongRecOn with
 | _ d ih=>
   intro n hd h1 h2
   by_cases q:n=lst f z
   ·rw[q,kF ll (.inl h.dl)]
    exact⟨by omega,LA _,.inl rfl⟩
   ·have st:=h.all Ts Q3 n h1 (by omega)
    cases hr:bC (aM S (n:Int)) with
    | true=>
      rw[kF (by omega) (.inr hr)]
      have:n≠f:=λe=>by
       rw[e,h.k] at hr
       exact absurd hr (by decide +kernel)
      exact⟨by omega,by omega,.inr hr⟩
    | false=>
      obtain⟨l,r,hL,hg⟩:=st.go hr
      obtain⟨r0,r1⟩:=st.rg l (by rw[hL];exact LP)
      rw[rY (by omega) hL hr (by omega) (by omega)]
      by_cases ql:(n:Int) < l
      ·rw[if_pos ql]
       exact ih (lst f z - l.toNat) (by omega) l.toNat rfl (by omega) (by omega)
      ·rw[if_neg ql]
       exact⟨by omega,r1,.inr (hg.resolve_left ql)⟩
theorem km (h:eA S Ld names f w z)(Q3:bO lo m false z.2)(hh:gB z.2):bC (aM S ((f + 1:Nat):Int))=true/\1<=QY z.2:=by
 obtain⟨t,ts,e,hb⟩:=hh
 have hs:=h.s
 rw[e] at hs Q3 ⊢
 rw[cy] at hs
 simp only[bO] at Q3
 rw[QY]
 have hs:=hs.pre
 cases t with
 | RL x=>rw[spT] at hs;refine⟨?_,by simp only[bJ];omega⟩;rw[show((f + 1:Nat):Int)=((f + 1 + 0:Nat):Int) from rfl,(hs.k (i:=0) rfl).1];exact FT
 | call x=>rw[spT] at hs;refine⟨?_,by simp only[bJ];omega⟩;rw[show((f + 1:Nat):Int)=((f + 1 + 0:Nat):Int) from rfl,(hs.k (i:=0) rfl).1];exact y9
 | ifs x A B=>rw[spT] at hs;refine⟨?_,by simp only[bJ];omega⟩;rw[show((f + 1:Nat):Int)=((f + 1 + 0:Nat):Int) from rfl,(hs.pre.pre.k (i:=0) rfl).1];exact xV
 | Rg x A=>rw[spT] at hs;refine⟨?_,by simp only[bJ];omega⟩;rw[show((f + 1:Nat):Int)=((f + 1 + 0:Nat):Int) from rfl,(hs.pre.k (i:=0) rfl).1];exact lE
 | leave=>simp only[cH] at Q3;cases Q3.1
 | back=>cases hb
theorem eA.first (h:eA S Ld names f w z)(Q3:bO lo m false z.2)(hh:gB z.2):(cU S Ld).getD f 0=((f + 1:Nat):Int):=by
 have ll:lst f z < S.length:=(LC.mp h.e).1
 have ll:f + 1 + QY z.2 < S.length:=ll
 obtain⟨hr,h1⟩:=km h Q3 hh
 rw[rY (n:=f) (by omega) h.df (by rw[h.k];decide +kernel) (by omega) (by omega),if_pos (by omega),show((f:Int) + 1).toNat=f + 1 by omega]
 exact kF (by omega) (.inr hr)
def jM (Ld:List Lh)(fd:Lh):Prop:=∀n∈fd,∀l∈Ld.getD n.toNat [],l∈fd
theorem jM.on {Ld:List Lh}{fd:Lh}(h:jM Ld fd){n:Nat}{ls:Lh}(hn:(n:Int)∈fd)(hL:Ld.getD n []=ls){l:Int}(hl:l∈ls):l∈fd:=h _ hn l (by rw[show((n:Nat):Int).toNat=n by omega,hL];exact hl)
end
section
variable {S:List aG}{Ld:List Lh}{names:Li}{fd:Lh}{lo m:Int}(hC:jM Ld fd)
include hC
mutual
theorem goT:∀(t:Th) (lp:Bool) (a:Nat) (w u wl pe:Int),cH lo m lp t->dI S a (spT names (a:Int) w u t)->dI Ld a (fX (a:Int) wl pe t)->(a:Int)∈fd->(∀i,i < bJ t->aM S ((a + i:Nat):Int)∈Ri->((a + i:Nat):Int)∈fd)/\(dM t=true->((a + bJ t:Nat):Int)∈fd)
 | .RL x,lp,a,w,u,wl,pe,h,hS,hL,ha=>by
   rw[fX] at hL
   simp only[bJ]
   refine⟨(λi hi _=>by cases (show i=0 by omega);exact ha),(λ_=>?_)⟩
   have:=hC.on ha (hL.d (i:=0) rfl []).1 (l:=(a:Int) + 1) (LH.mpr rfl)
   push_cast;exact this
 | .call x,lp,a,w,u,wl,pe,h,hS,hL,ha=>by
   rw[fX] at hL
   simp only[bJ]
   refine⟨(λi hi _=>by cases (show i=0 by omega);exact ha),(λ_=>?_)⟩
   have:=hC.on ha (hL.d (i:=0) rfl []).1 (l:=(a:Int) + 1) (LH.mpr rfl)
   push_cast;exact this
 | .leave,lp,a,w,u,wl,pe,h,hS,hL,ha=>by
   simp only[bJ]
   exact⟨(λi hi _=>by cases (show i=0 by omega);exact ha),(λq=>by simp[dM] at q)⟩
 | .back,lp,a,w,u,wl,pe,h,hS,hL,ha=>by
   simp only[bJ]
   exact⟨(λi hi _=>by cases (show i=0 by omega);exact ha),(λq=>by simp[dM] at q)⟩
 | .Rg x A,lp,a,w,u,wl,pe,h,hS,hL,ha=>by
   simp only[cH] at h
   rw[spT] at hS
   rw[fX] at hL
   simp only[bJ]
   obtain⟨s1,s2⟩:=hS.app
   obtain⟨s2,s3⟩:=s2.app
   obtain⟨d1,d2⟩:=hL.app
   obtain⟨d2,d3⟩:=d2.app
   rw[cu] at s3
   simp only[LR,Mc] at s2 s3 d2 d3
   have e1:=(d1.d (i:=0) rfl []).1
   have g1:(((a + (0 + 1):Nat)):Int)∈fd:=by
    have:=hC.on ha e1 (l:=(a:Int) + 1) LP
    push_cast;simpa using this
   have g2:(((a + (2 + QY A):Nat)):Int)∈fd:=by
    have:=hC.on ha e1 (l:=(a:Int) + 2 + QY A) (LN _ (LH.mpr rfl))
    rwa [show(((a + (2 + QY A):Nat)):Int)=(a:Int) + 2 + QY A by push_cast;omega]
   obtain⟨q1,_⟩:=yJ A true (a + (0 + 1)) (w + 2) (a:Int) ((a:Int) + 2 + QY A) pe h.2 (by push_cast;exact s2) (by push_cast;exact d2) g1
   refine⟨λi hi hk=>?_,λ_=>g2⟩
   by_cases i0:i=0
   ·subst i0;exact ha
   by_cases i1:i < 1 + QY A
   ·have:=q1 (i - 1) (by omega) (by rw[show a + (0 + 1) + (i - 1)=a + i by omega];exact hk)
    rwa [show a + (0 + 1) + (i - 1)=a + i by omega] at this
   ·obtain rfl:i=1 + QY A:=by omega
    have ke:=(s3.k (i:=0) rfl).1
    rw[show a + (0 + 1) + QY A + 0=a + (1 + QY A) by omega] at ke
    rw[ke] at hk
    exact absurd hk (show("end":Str)∉Ri by decide +kernel)
 | .ifs x A B,lp,a,w,u,wl,pe,h,hS,hL,ha=>by
   simp only[cH] at h
   rw[spT,L1] at hS
   rw[fX,L1] at hL
   simp only[bJ]
   obtain⟨s1,s2⟩:=hS.app
   obtain⟨s2,s3⟩:=s2.app
   obtain⟨s3,s4⟩:=s3.app
   obtain⟨s4,s5⟩:=s4.app
   obtain⟨d1,d2⟩:=hL.app
   obtain⟨d2,d3⟩:=d2.app
   obtain⟨d3,d4⟩:=d3.app
   obtain⟨d4,d5⟩:=d4.app
   rw[cu] at s3 s4 s5
   rw[cu] at s5
   rw[dH] at d3 d4 d5
   rw[dH] at d5
   simp only[LR,Mc] at s2 s3 s4 s5 d2 d3 d4 d5
   have e1:=(d1.d (i:=0) rfl []).1
   have e3:=(d3.d (i:=0) rfl []).1
   have e5:=(d5.d (i:=0) rfl []).1
   have g1:(((a + (0 + 1):Nat)):Int)∈fd:=by
    have:=hC.on ha e1 (l:=(a:Int) + 1) LP
    push_cast;simpa using this
   have g2:(((a + (0 + 1) + QY A + (0 + 1):Nat)):Int)∈fd:=by
    have:=hC.on ha e1 (l:=(a:Int) + 2 + QY A) (LN _ (LH.mpr rfl))
    rwa [show(((a + (0 + 1) + QY A + (0 + 1):Nat)):Int)=(a:Int) + 2 + QY A by push_cast;omega]
   obtain⟨q1,q2⟩:=yJ A lp (a + (0 + 1)) (w + 2) (a:Int) wl pe h.2.1 (by push_cast;exact s2) (by push_cast;exact d2) g1
   have q4:(((a + (0 + 1) + QY A + (0 + 1):Nat)):Int)=(a:Int) + 2 + QY A:=by push_cast;omega
   obtain⟨q3,q5⟩:=yJ B lp (a + (0 + 1) + QY A + (0 + 1)) (w + 3 + (Q5 names A).length) ((a:Int) + 1 + QY A) wl pe h.2.2 (by rw[q4];exact s4) (by rw[q4];exact d4) g2
   have fin:(((a + (0 + 1) + QY A + (0 + 1) + QY B + 0:Nat)):Int)∈fd->(((a + (3 + QY A + QY B):Nat)):Int)∈fd:=λq=>by
    have:=hC.on q e5 (l:=(a:Int) + 3 + QY A + QY B) (LH.mpr rfl)
    rwa [show(((a + (3 + QY A + QY B):Nat)):Int)=(a:Int) + 3 + QY A + QY B by push_cast;omega]
   refine⟨λi hi hk=>?_,λhp=>fin ?_⟩
   ·by_cases i0:i=0
    ·subst i0;exact ha
    by_cases i1:i < 1 + QY A
    ·have:=q1 (i - 1) (by omega) (by rw[show a + (0 + 1) + (i - 1)=a + i by omega];exact hk)
     rwa [show a + (0 + 1) + (i - 1)=a + i by omega] at this
    by_cases i2:i=1 + QY A
    ·subst i2
     have ke:=(s3.k (i:=0) rfl).1
     rw[show a + (0 + 1) + QY A + 0=a + (1 + QY A) by omega] at ke
     rw[ke] at hk
     exact absurd hk (show("else":Str)∉Ri by decide +kernel)
    by_cases i3:i < 2 + QY A + QY B
    ·have:=q3 (i - (2 + QY A)) (by omega) (by rw[show a + (0 + 1) + QY A + (0 + 1) + (i - (2 + QY A))=a + i by omega];exact hk)
     rwa [show a + (0 + 1) + QY A + (0 + 1) + (i - (2 + QY A))=a + i by omega] at this
    ·obtain rfl:i=2 + QY A + QY B:=by omega
     have ke:=(s5.k (i:=0) rfl).1
     rw[show a + (0 + 1) + QY A + (0 + 1) + QY B + 0=a + (2 + QY A + QY B) by omega] at ke
     rw[ke] at hk
     exact absurd hk (show("end":Str)∉Ri by decide +kernel)
   ·simp only[dM,Lv] at hp
    rcases hp with hp | hp
    ·have hel:=q2 hp
     have:=hC.on (n:=a + (0 + 1) + QY A + 0) hel e3 (l:=(a:Int) + 2 + QY A + QY B) (LH.mpr rfl)
     rwa [show(((a + (0 + 1) + QY A + (0 + 1) + QY B + 0:Nat)):Int)=(a:Int) + 2 + QY A + QY B by push_cast;omega]
    ·exact q5 hp
theorem yJ:∀(ts:List Th) (lp:Bool) (a:Nat) (w u wl pe:Int),bO lo m lp ts->dI S a (cy names (a:Int) w u ts)->dI Ld a (iq (a:Int) wl pe ts)->(a:Int)∈fd->(∀i,i < QY ts->aM S ((a + i:Nat):Int)∈Ri->((a + i:Nat):Int)∈fd)/\(cS ts=true->((a + QY ts:Nat):Int)∈fd)
 | [],lp,a,w,u,wl,pe,h,hS,hL,ha=>by
   rw[QY]
   exact⟨λi hi=>by omega,λ_=>ha⟩
 | t::ts,lp,a,w,u,wl,pe,h,hS,hL,ha=>by
   simp only[bO] at h
   rw[cy] at hS
   rw[iq] at hL
   rw[QY]
   obtain⟨s1,s2⟩:=hS.app
   obtain⟨d1,d2⟩:=hL.app
   rw[mi] at s2
   rw[ox] at d2
   obtain⟨q1,q2⟩:=goT t lp a w u wl pe h.1 s1 d1 ha
   rcases h.2.1 with hp | hp
   ·obtain⟨q3,q4⟩:=yJ ts lp (a + bJ t) (w + (cD names t).length) u wl pe h.2.2 (by push_cast;exact s2) (by push_cast;exact d2) (q2 hp)
    refine⟨λi hi hk=>?_,λVC=>?_⟩
    ·by_cases q:i < bJ t
     ·exact q1 i q hk
     ·have:=q3 (i - bJ t) (by omega) (by rw[show a + bJ t + (i - bJ t)=a + i by omega];exact hk)
      rwa [show a + bJ t + (i - bJ t)=a + i by omega] at this
    ·rw[cS,Lq] at VC
     have:=q4 VC.2
     rwa [show a + bJ t + QY ts=a + (bJ t + QY ts) by omega] at this
   ·subst hp
    rw[QY]
    refine⟨λi hi hk=>q1 i (by omega) hk,λVC=>?_⟩
    rw[cS,Lq] at VC
    exact q2 VC.1
end
end
structure zW (names:Li) (lo m:Int) (s:aG):Prop where
 np:s.kind≠"part"
 cl:s.kind="call"->∃j:Int,lo < j/\j < m/\s.name=names.getD j.toNat ""
theorem fe {names:Li}{lo m:Int}{s:aG}(h1:s.kind≠"part")(h2:s.kind≠"call"):zW names lo m s:=⟨h1,λe=>absurd e h2⟩
theorem all1 {P:aG->Prop}{s:aG}(h:P s):∀x∈[s],P x:=λx hx=>by rw[LH.mp hx];exact h
theorem mJ {P:aG->Prop}{a b:List aG}(h:∀x∈a,P x)(h':∀x∈b,P x):∀x∈a++b,P x:=λx hx=>(LW.mp hx).elim (h x) (h' x)
mutual
theorem F3 {names:Li}{lo m:Int}:∀(t:Th) (lp:Bool) (a w u:Int),cH lo m lp t->∀s∈spT names a w u t,zW names lo m s
 | .RL x,lp,a,w,u,h=>by rw[spT];exact all1 (fe (show("do":Str)≠"part" by decide +kernel) (show("do":Str)≠"call" by decide +kernel))
 | .call j,lp,a,w,u,h=>by
   simp only[cH] at h
   rw[spT];exact all1 ⟨show("call":Str)≠"part" by decide +kernel,λ_=>⟨j,h.1,h.2,rfl⟩⟩
 | .leave,lp,a,w,u,h=>by rw[spT];exact all1 (fe (show("leave":Str)≠"part" by decide +kernel) (show("leave":Str)≠"call" by decide +kernel))
 | .back,lp,a,w,u,h=>by rw[spT];exact all1 (fe (show("back":Str)≠"part" by decide +kernel) (show("back":Str)≠"call" by decide +kernel))
 | .Rg x A,lp,a,w,u,h=>by
   simp only[cH] at h
   rw[spT]
   exact mJ (all1 (fe (show("while":Str)≠"part" by decide +kernel) (show("while":Str)≠"call" by decide +kernel))) (mJ (iM A true _ _ _ h.2) (all1 (fe (show("end":Str)≠"part" by decide +kernel) (show("end":Str)≠"call" by decide +kernel))))
 | .ifs x A B,lp,a,w,u,h=>by
   simp only[cH] at h
   rw[spT]
   exact mJ (mJ (all1 (fe (show("if":Str)≠"part" by decide +kernel) (show("if":Str)≠"call" by decide +kernel))) (iM A lp _ _ _ h.2.1)) (mJ (all1 (fe (show("else":Str)≠"part" by decide +kernel) (show("else":Str)≠"call" by decide +kernel))) (mJ (iM B lp _ _ _ h.2.2) (all1 (fe (show("end":Str)≠"part" by decide +kernel) (show("end":Str)≠"call" by decide +kernel)))))
theorem iM {names:Li}{lo m:Int}:∀(ts:List Th) (lp:Bool) (a w u:Int),bO lo m lp ts->∀s∈cy names a w u ts,zW names lo m s
 | [],lp,a,w,u,h=>by rw[cy];intro s hs;cases hs
 | t::ts,lp,a,w,u,h=>by
   simp only[bO] at h
   rw[cy]
   exact mJ (F3 t lp _ _ _ h.1) (iM ts lp _ _ _ h.2.2)
end
theorem call_in {names:Li}{j:Int}:∀{ts:List Th} (a w u:Int),Th.call j∈ts->∃s∈cy names a w u ts,s.kind="call"/\s.name=names.getD j.toNat ""
 | t::ts,a,w,u,h=>by
   rw[cy]
   rcases LV.mp h with rfl | h
   ·exact⟨_,L7 _ (by rw[spT];exact LH.mpr rfl),rfl,rfl⟩
   ·obtain⟨s,hs,h1⟩:=call_in (names:=names) (j:=j) (ts:=ts) (a + bJ t) (w + (cD names t).length) u h
    exact⟨s,LU _ hs,h1⟩
def hZ (k:Str):Nat:=((cF dQ k).getD []).length
def iN (S:List aG):Nat:=(S.map λs=>hZ s.kind).sum
theorem fJ (a b:List aG):iN (a++b)=iN a + iN b:=by unfold iN;rw[L5,List.sum_append]
theorem fm (s:aG):iN [s]=hZ s.kind:=by unfold iN;simp
mutual
theorem rkT {names:Li}:∀(t:Th) (a w u:Int),iN (spT names a w u t)=c7 t
 | .RL x,a,w,u=>by rw[spT,fm,c7];show hZ "do"=1;decide +kernel
 | .call x,a,w,u=>by rw[spT,fm,c7];show hZ "call"=1;decide +kernel
 | .leave,a,w,u=>by rw[spT,fm];simp only[c7];show hZ "leave"=0;decide +kernel
 | .back,a,w,u=>by rw[spT,fm];simp only[c7];show hZ "back"=0;decide +kernel
 | .Rg x A,a,w,u=>by
   rw[spT,c7,fJ,fJ,fm,fm,u7 A,show hZ "while"=2 by decide +kernel,show hZ "end"=0 by decide +kernel];omega
 | .ifs x A B,a,w,u=>by
   rw[spT,c7,fJ,fJ,fJ,fJ,fm,fm,fm,u7 A,u7 B,show hZ "if"=2 by decide +kernel,show hZ "end"=0 by decide +kernel,show hZ "else"=0 by decide +kernel];omega
theorem u7 {names:Li}:∀(ts:List Th) (a w u:Int),iN (cy names a w u ts)=cx ts
 | [],a,w,u=>by rw[cy,cx];rfl
 | t::ts,a,w,u=>by rw[cy,cx,fJ,rkT t,u7 ts]
end
section
variable {Kp:Lh}
theorem Kf {names:Li}:∀(zs:List (Str×List Th)) (a w:Int),iN (f7 names a w zs)=(zs.map λz=>cx z.2).sum
 | [],a,w=>by rw[f7];rfl
 | z::r,a,w=>by
   rw[f7,fJ,fJ,fJ,fm,fm,u7,Kf r,show hZ "part"=0 by decide +kernel,show hZ "end"=0 by decide +kernel,Me,M1];omega
theorem rJ {α β:Type}{f:α->List β}{g:α->Nat}(h:∀x,(f x).length<=g x):∀xs:List α,(xs.flatMap f).length<=(xs.map g).sum
 | []=>Np _
 | x::xs=>by
   rw[MP,LL,Me,M1]
   have:=h x
   have:=rJ h xs
   omega
theorem zG (S:List aG)(Ld:List Lh)(St:Lh):(gb S Ld St).length<=iN S:=by
 have:=rJ (f:=dX Ld St) (g:=λz=>hZ z.2.kind) (λz=>by
  unfold dX jm
  rw[LJ,Mt]
  exact ND _ _) (nums S)
 refine Nn this (NJ ?_)
 unfold iN
 conv=>rhs;rw[← mI S]
 rw[ML]
 rfl
theorem kj {S:List aG}{Ld:List Lh}{St:Lh}{r:Rw}(h:r∈gb S Ld St):∃(n:Nat) (s:aG) (l:Int),S[n]?=some s/\r.1=(n:Int)/\bC s.kind=true/\l∈Ld.getD n []/\r.2.1=St.getD l.toNat 0:=by
 unfold gb at h
 obtain⟨z,hz,hr⟩:=mem_flatMap.mp h
 unfold dX at hr
 obtain⟨y,hy,rfl⟩:=LY.mp hr
 obtain⟨i,hi⟩:=LX.mp hz
 obtain⟨e1,e2⟩:=eN hi
 unfold jm at hy
 obtain⟨h1,h2⟩:=MU (show(y.1,y.2)∈_ from hy)
 rw[e1,show((i:Nat):Int).toNat=i by omega] at h2
 refine⟨i,z.2,y.2,e2,e1,?_,h2,rfl⟩
 unfold bC
 cases q:cF dQ z.2.kind with
 | none=>rw[q] at h1;cases h1
 | some v=>rfl
theorem y6 {k:Str}(h:bC k=true):k∈Ri:=by
 unfold bC cF at h
 split at h
 ·rename_i e;rw[← e];decide +kernel
 unfold cF at h
 split at h
 ·rename_i e;rw[← e];decide +kernel
 unfold cF at h
 split at h
 ·rename_i e;rw[← e];decide +kernel
 unfold cF at h
 split at h
 ·rename_i e;rw[← e];decide +kernel
 ·cases h
theorem xH:∀{l m:Lh},l.Nodup->(∀x∈l,x∈m)->l.length<=m.length
 | [],m,_,_=>Np _
 | x::l,m,nd,h=>by
   obtain⟨n1,n2⟩:=Mg.mp nd
   have hx:=h x LP
   have:=xH (l:=l) (m:=m.erase x) n2 λy hy=>by
    have:y≠x:=λe=>n1 (e▸hy)
    exact(List.mem_erase_of_ne this).mpr (h y (LN _ hy))
   rw[List.length_erase_of_mem hx] at this
   have:0 < m.length:=List.length_pos_of_mem hx
   rw[LR];omega
def gK (Kp:Lh)(F:Ln):Prop:=(F.map (·.1)).Nodup/\∀x∈F.map (·.1),x∈Kp
theorem gK.put {F:Ln}(h:gK Kp F){k:Int}(hk:k∈Kp):gK Kp (eC F k):=by
 unfold eC
 split
 ·exact h
 ·rename_i hn
  have hnk:k∉F.map (·.1):=λz=>hn (i9.mpr z)
  refine⟨by rw[L5];exact fY h.1 hnk,λx hx=>?_⟩
  rw[L5] at hx
  rcases LW.mp hx with z | z
  ·exact h.2 x z
  ·rw[show x=k by simpa using z];exact hk
theorem gK.rows {p:gE}:∀{rs:List Rw} {F:Ln},gK Kp F->(∀r∈rs,lC p r=true->r.1∈Kp/\r.2.1∈Kp)->gK Kp (rs.foldl (dC p) F)
 | [],F,h,_=>h
 | r::rs,F,h,hr=>by
   rw[MG]
   refine gK.rows ?_ λx hx=>hr x (LN _ hx)
   unfold dC
   split
   ·rename_i hi
    obtain⟨h1,h2⟩:=hr r LP hi
    exact(h.put h1).put h2
   ·exact h
theorem gK.len {F:Ln}(h:gK Kp F):F.length<=Kp.length:=by
 have:=xH h.1 h.2
 rwa [LJ] at this
theorem uj:∀S:List aG,(S.filter λs=>bC s.kind).length<=iN S
 | []=>Np _
 | s::S=>by
   have ih:=uj S
   have e:iN (s::S)=hZ s.kind + iN S:=by unfold iN;rw[Me,M1]
   rw[e]
   by_cases h:bC s.kind=true
   ·rw[MA (p:=λ(s:aG)=>bC s.kind) h,LR]
    have:1<=hZ s.kind:=by
     unfold hZ
     unfold bC cF at h
     unfold cF
     split at h
     ·rename_i e;rw[if_pos e];decide
     rename_i e
     rw[if_neg e]
     unfold cF at h ⊢
     split at h
     ·rename_i e;rw[if_pos e];decide
     rename_i e
     rw[if_neg e]
     unfold cF at h ⊢
     split at h
     ·rename_i e;rw[if_pos e];decide
     rename_i e
     rw[if_neg e]
     unfold cF at h ⊢
     split at h
     ·rename_i e;rw[if_pos e];decide
     ·cases h
    omega
   ·rw[MB (p:=λ(s:aG)=>bC s.kind) h];omega
theorem Ib {S:List aG}(h:∀s∈S,s.kind≠"part"):RM S=[]:=by
 unfold RM
 rw[Na.mpr λs hs=>by simpa using h s hs];rfl
theorem FX {names:Li}{m:Int}:∀(zs:List (Str×List Th)) (a w:Int),(∀z∈zs,∃lo,bO lo m false z.2)->RM (f7 names a w zs)=zs.map (·.1)
 | [],a,w,_=>by rw[f7];rfl
 | z::r,a,w,h=>by
   obtain⟨lo,hz⟩:=h z LP
   rw[f7,jE,jE,jE,FX r _ _ λy hy=>h y (LN _ hy),Ib λs hs=>(iM (names:=names) z.2 false _ _ _ hz s hs).np]
   rfl
theorem rD (S:List aG):(ck S).map (·.1)=RM S:=by
 unfold ck RM
 conv=>rhs;rw[← mI S]
 rw[Nl,ML,ML]
 rfl
end
section
variable {names:Li}{Ls:List (List Th)}(h:dq names Ls)
include h
theorem FU:(cW names Ls).map (·.1)=names:=List.map_fst_zip (by rw[h.l];exact Nm _)
theorem Ea:(cW names Ls).map (·.2)=Ls:=List.map_snd_zip (by rw[h.l];exact Nm _)
theorem HX:∀z∈cW names Ls,∃lo,bO lo (Ls.length:Int) false z.2:=λz hz=>by
 obtain⟨j,hj⟩:=LX.mp hz
 exact⟨_,(eU h hj).1⟩
theorem Bv:RM (aq names Ls)=names:=by
 rw[FX (m:=(Ls.length:Int)) _ _ _ (HX h),FU h]
theorem wg:(ck (aq names Ls)).map (·.1)=names:=by rw[rD,Bv h]
theorem IB:(aq names Ls).length<=240:=by
 obtain⟨pl,_⟩:=sY h
 obtain⟨e,_⟩:=pW h
 obtain⟨i1,i2,_⟩:=sU (ij names Ls) (dh (names.zip Ls))
 rw[e] at i1 i2
 dsimp only at i1 i2
 omega
theorem uP {n:Nat}(hn:n < (aq names Ls).length)(hk:aM (aq names Ls) (n:Int)="part"):∃(j:Nat) (z:Str×List Th) (w:Int),(cW names Ls)[j]?=some z/\eA (aq names Ls) (bz names Ls) names (fst names Ls j) w z/\n=fst names Ls j:=by
 obtain⟨j,z,w,hz,hb,h1,h2,h3⟩:=jV h n hn
 refine⟨j,z,w,hz,hb,?_⟩
 rcases Nv (fst names Ls j) n with q | q
 ·exfalso
  by_cases e:n=lst (fst names Ls j) z
  ·rw[e,(gm hb.e).1] at hk
   exact absurd hk (show("end":Str)≠"part" by decide +kernel)
  ·have T7:n < fst names Ls j + 1 + QY z.2:=NF h2 e
   have hi:n - (fst names Ls j + 1) < (cy names (((fst names Ls j + 1:Nat)):Int) (w + 2) (fst names Ls j:Int) z.2).length:=by rw[cu];omega
   have hs:=hb.s.k (LD hi)
   rw[show fst names Ls j + 1 + (n - (fst names Ls j + 1))=n by omega] at hs
   rw[hs.1] at hk
   exact(iM (names:=names) z.2 false _ _ _ (eU h hz).1 _ (Mb hi)).np hk
 ·omega
theorem kH {p:gE}(hp:p∈ck (aq names Ls)):∃(j:Nat) (z:Str×List Th) (w:Int),(cW names Ls)[j]?=some z/\eA (aq names Ls) (bz names Ls) names (fst names Ls j) w z/\p=(z.1,((fst names Ls j:Nat):Int),((lst (fst names Ls j) z:Nat):Int)):=by
 unfold ck at hp
 obtain⟨y,hy,rfl⟩:=LY.mp hp
 obtain⟨hy,hk⟩:=Mj.mp hy
 obtain⟨n,nl,e1,e2⟩:=lR hy
 have Sd:aM (aq names Ls) (n:Int)="part":=by
  unfold aM;rw[show((n:Nat):Int).toNat=n by omega,e2];exact of_decide_eq_true hk
 obtain⟨j,z,w,hz,hb,e3⟩:=uP h nl Sd
 refine⟨j,z,w,hz,hb,?_⟩
 subst e3
 unfold G8
 rw[e1,hb.cl iz]
 have:y.2=⟨"part",z.1,w, -1⟩:=by rw[← e2,LG,hb.nm];rfl
 rw[this]
 rfl
end
section
variable {v:eV}{n i:Nat}
theorem yO {α:Type}(l:List α)(d:α)(p:α->Bool):((L6 l.length).filter λi=>p (l.getD i d)).length=(l.filter p).length:=by
 have e:(L6 l.length).map (λi=>l.getD i d)=l:=by
  refine Mw λi=>?_
  rw[LM]
  rcases Nv i l.length with h | h
  ·rw[Mq h,LD h]
   show some (l.getD i d)=_
   rw[LG,LD h];rfl
  ·rw[Ma (by simpa using h),Ma h];rfl
 conv=>rhs;rw[← e,Nl,LJ]
 rfl
def mr (S:List aG)(f:Nat)(z:Str×List Th):Lh:=((L6 (QY z.2)).filter λi=>bC (aM S ((f + 1 + i:Nat):Int))).map (λi=>((f + 1 + i:Nat):Int))++[((lst f z:Nat):Int)]
theorem jq {S:List aG}{f:Nat}{z:Str×List Th}{v:Int}(h:EG S f (lst f z) v):v∈mr S f z:=by
 obtain⟨h1,h2,h3⟩:=h
 unfold mr
 by_cases q:v=((lst f z:Nat):Int)
 ·exact LU _ (by rw[q];exact LH.mpr rfl)
 ·have T7:v<=((f + 1 + QY z.2:Nat):Int):=h2
  have q':v≠((f + 1 + QY z.2:Nat):Int):=q
  refine L7 _ (LY.mpr ⟨v.toNat - (f + 1),Mj.mpr ⟨Ms.mpr (by omega),?_⟩,by omega⟩)
  rw[show((f + 1 + (v.toNat - (f + 1)):Nat):Int)=v by omega]
  exact h3.resolve_left q
theorem xI {S:List aG}{Ld:List Lh}{names:Li}{f:Nat}{w:Int}{z:Str×List Th}(h:eA S Ld names f w z)(hr:cx z.2<=14):(mr S f z).length<=16:=by
 unfold mr
 rw[LL,LJ,L9]
 have e:((L6 (QY z.2)).filter λi=>bC (aM S ((f + 1 + i:Nat):Int)))=((L6 (cy names (((f + 1:Nat)):Int) (w + 2) (f:Int) z.2).length).filter λi=>bC ((cy names (((f + 1:Nat)):Int) (w + 2) (f:Int) z.2).getD i dJ).kind):=by
  rw[cu]
  refine List.filter_congr λi hi=>?_
  have hi:i < (cy names (((f + 1:Nat)):Int) (w + 2) (f:Int) z.2).length:=by rw[cu];exact Ms.mp hi
  rw[(h.s.k (LD hi)).1,LG,LD hi]
  rfl
 rw[e,yO (cy names (((f + 1:Nat)):Int) (w + 2) (f:Int) z.2) dJ λs=>bC s.kind]
 have:=uj (cy names (((f + 1:Nat)):Int) (w + 2) (f:Int) z.2)
 rw[u7] at this
 omega
theorem rB {names:Li}{Ls:List (List Th)}(h:dq names Ls):mE (aq names Ls) (bz names Ls)/\Good (Q0 (aq names Ls) (bz names Ls)):=by
 obtain⟨hLd,hLi,T3⟩:=zK h
 have hS:=IB h
 refine⟨⟨hS,hLd,hLi,λn hn hk=>?_⟩,?_⟩
 ·obtain⟨j,z,w,hz,hb,e⟩:=uP h hn hk
  subst e
  rw[hb.cl iz];rfl
 have bl:∀{j:Nat} {z:Str×List Th} {w:Int},eA (aq names Ls) (bz names Ls) names (fst names Ls j) w z->fst names Ls j < (aq names Ls).length:=λhb=>(LC.mp hb.nm).1
 have hn:=wg h
 have hlp:(ck (aq names Ls)).length=names.length:=by rw[← congrArg List.length hn,LJ]
 refine⟨hS,?_,?_,λp hp=>?_,hLi,T3,iH _ (Nm _),?_,λn t ht hk=>?_,λfd hR n Tx hk=>?_,λp hp=>?_,λp hp=>?_,?_,λr hr=>?_,λp hp=>?_⟩
 ·show(ck (aq names Ls)).length<=4
  rw[hlp,h.l];exact h.l4
 ·show((ck (aq names Ls)).map (·.1)).Nodup
  rw[hn];exact h.nd
 ·obtain⟨j,z,w,hz,hb,rfl⟩:=kH h hp
  have:=bl hb
  exact⟨by show(0:Int)<=((fst names Ls j:Nat):Int);omega,by show((fst names Ls j:Nat):Int) < ((aq names Ls).length:Int);omega⟩
 ·show(RM (aq names Ls)).Nodup
  rw[Bv h];exact h.nd
 ·-- calls
  have ht:(aq names Ls)[n]?=some t:=ht
  have Tx:=(LC.mp ht).1
  obtain⟨j,z,w,hz,hb,h1,h2,h3⟩:=jV h n Tx
  have Sd:=(gm ht).1
  have Q7:n≠fst names Ls j:=λe=>by
   rw[e,hb.k,hk] at Sd
   exact absurd Sd (by decide +kernel)
  have VI:n≠lst (fst names Ls j) z:=λe=>by
   rw[e,(gm hb.e).1,hk] at Sd
   exact absurd Sd (show("end":Str)≠"call" by decide +kernel)
  have T7:n < fst names Ls j + 1 + QY z.2:=NF h2 VI
  have hi:n - (fst names Ls j + 1) < (cy names (((fst names Ls j + 1:Nat)):Int) (w + 2) (fst names Ls j:Int) z.2).length:=by rw[cu];omega
  have hs:=hb.s _ _ (LD hi)
  rw[show fst names Ls j + 1 + (n - (fst names Ls j + 1))=n by omega,ht] at hs
  have ko:=iM (names:=names) z.2 false _ _ _ (eU h hz).1 _ (Mb hi)
  rw[← Option.some.inj hs] at ko
  obtain⟨c,c1,c2,c3⟩:=ko.cl hk
  have T4:c.toNat < names.length:=by rw[h.l];omega
  have hcz:c.toNat < (cW names Ls).length:=by rw[Mt,h.l];omega
  obtain⟨w',Se⟩:=lN (names:=names) (Ls:=Ls) (LD hcz)
  have RZ:=mh (cW names Ls) j c.toNat z hz (by omega)
  refine⟨fst names Ls c.toNat,_,?_,Se.nm,rfl,?_⟩
  ·have:fst names Ls j + 2 + QY z.2<=fst names Ls c.toNat:=RZ
   omega
  ·rw[c3]
   have Ta:=(eU h (LD hcz)).2.2.2.1
   rw[LG,Ta];rfl
 ·-- coming to each Vl
  obtain⟨hR1,TK⟩:=hR
  have Tx:n < (aq names Ls).length:=Tx
  obtain⟨j,z,w,hz,hb,h1,h2,h3⟩:=jV h n Tx
  have Sd:aM (aq names Ls) (n:Int)∈Ri:=hk
  have Q7:n≠fst names Ls j:=λe=>by
   rw[e,hb.k] at Sd
   exact absurd Sd (by decide +kernel)
  have VI:n≠lst (fst names Ls j) z:=λe=>by
   rw[e,(gm hb.e).1] at Sd
   exact absurd Sd (show("end":Str)∉Ri by decide +kernel)
  have T7:n < fst names Ls j + 1 + QY z.2:=NF h2 VI
  have hf:((fst names Ls j:Nat):Int)∈fd:=by
   refine hR1 (z.1,((fst names Ls j:Nat):Int),(bB (dm (aq names Ls)) ((fst names Ls j:Nat):Int)).getD 0) ?_
   show _∈ck (aq names Ls)
   unfold ck
   exact LY.mpr ⟨(((fst names Ls j:Nat):Int),⟨"part",z.1,w, -1⟩),Mj.mpr ⟨mG hb.nm,decide_eq_true rfl⟩,rfl⟩
  have hC:jM (bz names Ls) fd:=TK
  have hf1:=hC.on hf hb.df (l:=((fst names Ls j:Nat):Int) + 1) (LH.mpr rfl)
  have:=(yJ (names:=names) (S:=aq names Ls) hC z.2 false (fst names Ls j + 1) (w + 2) _ 0 _ (eU h hz).1 hb.s hb.d (by push_cast;exact hf1)).1 (n - (fst names Ls j + 1)) (by omega) (by rw[show fst names Ls j + 1 + (n - (fst names Ls j + 1))=n by omega];exact Sd)
  rwa [show fst names Ls j + 1 + (n - (fst names Ls j + 1))=n by omega] at this
 ·-- each later part is called
  have hp:p∈(ck (aq names Ls)).drop 1:=hp
  obtain⟨k,hk⟩:=LX.mp hp
  rw[List.getElem?_drop] at hk
  have hnk:names[1 + k]?=some p.1:=by rw[← hn,LM,hk];rfl
  have Vd:=(LC.mp hnk).1
  obtain⟨L,hL,hcL⟩:=h.cl (1 + k) (by omega) (by rw[← h.l];exact Vd)
  obtain⟨i,hi⟩:=LX.mp hL
  have il:=(LC.mp hi).1
  have hiz:i < (cW names Ls).length:=by rw[Mt,h.l];omega
  obtain⟨w',Se⟩:=lN (names:=names) (Ls:=Ls) (LD hiz)
  have e2:=(eU h (LD hiz)).2.2.2.2
  rw[hi] at e2
  have e2:=Option.some.inj e2
  obtain⟨s,hs,s1,s2⟩:=call_in (names:=names) (((fst names Ls i + 1:Nat)):Int) (w' + 2) ((fst names Ls i:Nat):Int) hcL
  rw[e2] at hs
  obtain⟨q,hq⟩:=LX.mp hs
  refine⟨s,LO (Se.s q s hq),s1,?_⟩
  rw[s2,show(((1 + k:Nat)):Int).toNat=1 + k by omega,LG,hnk];rfl
 ·-- no part ends at QX begin
  obtain⟨j,z,w,hz,hb,rfl⟩:=kH h hp
  obtain⟨SH,Tw,U8,_⟩:=eU h hz
  show(cU (aq names Ls) (bz names Ls)).getD ((fst names Ls j:Nat):Int).toNat 0≠((lst (fst names Ls j) z:Nat):Int)
  rw[show((fst names Ls j:Nat):Int).toNat=fst names Ls j by omega,hb.first SH Tw]
  have:=(km hb SH Tw).2
  show((fst names Ls j + 1:Nat):Int)≠((fst names Ls j + 1 + QY z.2:Nat):Int)
  omega
 ·-- rows
  show(gb (aq names Ls) (bz names Ls) (cU (aq names Ls) (bz names Ls))).length<=30
  refine Nn (zG _ _ _) ?_
  rw[Kf]
  have e:(cW names Ls).map (λz=>cx z.2)=Ls.map cx:=by
   conv=>rhs;rw[← Ea h]
   rw[ML];rfl
  show((cW names Ls).map λz=>cx z.2).sum<=30
  rw[e];exact h.tot
 ·obtain⟨n,s,l,h1,h2,h3,_⟩:=kj hr
  have Tx:=(LC.mp h1).1
  rw[h2]
  refine⟨⟨by omega,by show(n:Int) < ((aq names Ls).length:Int);omega⟩,?_⟩
  show aM (aq names Ls) (n:Int)∈Ri
  rw[(gm h1).1];exact y6 h3
 ·-- places
  obtain⟨j,z,w,hz,hb,rfl⟩:=kH h hp
  obtain⟨SH,Tw,U8,_⟩:=eU h hz
  have fl:fst names Ls j < lst (fst names Ls j) z:=by show _ < fst names Ls j + 1 + QY z.2;omega
  have RY:=λn h1 h2=>hb.vG iz SH _ n rfl h1 h2
  refine Nn (gK.len (Kp:=mr (aq names Ls) (fst names Ls j) z) ?_) (xI hb U8)
  refine gK.rows ?_ λr hr hi=>?_
  ·have Q7:(cU (aq names Ls) (bz names Ls)).getD (fst names Ls j) 0≠((lst (fst names Ls j) z:Nat):Int):=by
    rw[hb.first SH Tw]
    have:=(km hb SH Tw).2
    show((fst names Ls j + 1:Nat):Int)≠((fst names Ls j + 1 + QY z.2:Nat):Int)
    omega
   have e0:(Q0 (aq names Ls) (bz names Ls)).St.getD ((fst names Ls j:Nat):Int).toNat 0=(cU (aq names Ls) (bz names Ls)).getD (fst names Ls j) 0:=by rw[show((fst names Ls j:Nat):Int).toNat=fst names Ls j by omega];rfl
   dsimp only
   rw[e0]
   refine⟨?_,λx hx=>?_⟩
   ·exact Mg.mpr ⟨λq=>Q7 (LH.mp q),Mg.mpr ⟨by simp,M7⟩⟩
   ·have hx:x=(cU (aq names Ls) (bz names Ls)).getD (fst names Ls j) 0∨x=((lst (fst names Ls j) z:Nat):Int):=by simpa using hx
    rcases hx with rfl | rfl
    ·exact jq (RY _ (Nm _) (by omega))
    ·exact jq ⟨by omega,LA _,.inl rfl⟩
  ·obtain⟨n,s,l,h1,h2,h3,h4,h5⟩:=kj hr
   unfold lC at hi
   rw[Lq] at hi
   have i1:((fst names Ls j:Nat):Int) < r.1:=of_decide_eq_true hi.1
   have i2:r.1 < ((lst (fst names Ls j) z:Nat):Int):=of_decide_eq_true hi.2
   rw[h2] at i1 i2
   have Sd:aM (aq names Ls) (n:Int)=s.kind:=(gm h1).1
   have st:=hb.all iz SH n (by omega) (by omega)
   have rg:=st.rg l h4
   refine⟨?_,?_⟩
   ·rw[h2]
    exact jq ⟨i1,by omega,.inr (by rw[Sd];exact h3)⟩
   ·rw[h5]
    exact jq (RY l.toNat (by omega) (by omega))
theorem Dp:Pure:=λnames Ls h=>⟨bz names Ls,rB h⟩
structure gX (mg:Lf):Prop where
 isinstance:mg "isinstance"=none
 bool:mg "bool"=none
 max:mg "max"=none
 Ti:∃t,mg "NO_CALL"=some (.int (-1) t)
 first:∃t,mg "FIRST_PART"=some (.int 0 t)
 yes:∃t,mg "YES"=some (.int 1 t)
 ended:∃t,mg "ENDED"=some (.str "ended" t)
 bound:∃t,mg "BOUND"=some (.str "bound" t)
 TN:∃t,mg "WANTING"=some (.str "wanting" t)
abbrev gA:=Ln
abbrev By:Row:=(0,0,0,0)
def rowOf (v:eV)(k:Int):Row:=v.2.getD k.toNat By
def nv (v:eV)(p q:Int):Lh:=(ups 0 v.2.length).filter λk=>decide (((rowOf v k).1,(rowOf v k).2.1)=(p,q))
theorem kG {st:gA}(h:st≠[]):st.dropLast++[st.getLast h]=st:=Mo h
def trim (st:gA):gA:=(st.reverse.dropWhile λt=>decide (t.2=1)).reverse
theorem sA:trim []=[]:=rfl
theorem tw {st:gA}(h:st≠[])(e:(st.getLast h).2=1):trim st=trim st.dropLast:=by
 have e1:st.reverse=st.getLast h::st.dropLast.reverse:=by
  have:=congrArg List.reverse (kG h)
  rw[← this];simp
 unfold trim
 rw[e1,List.dropWhile_cons,if_pos (decide_eq_true e)]
theorem pE {st:gA}(h:st≠[])(e:(st.getLast h).2≠1):trim st=st:=by
 have e1:st.reverse=st.getLast h::st.dropLast.reverse:=by
  have:=congrArg List.reverse (kG h)
  rw[← this];simp
 unfold trim
 rw[e1,List.dropWhile_cons,if_neg (by simpa using e),← e1,List.reverse_reverse]
theorem qz:∀(n:Nat) (st:gA),st.length=n->∃s',st=trim st++s'/\(∀t∈s',t.2=1)/\∀h:trim st≠[],((trim st).getLast h).2≠1
 | 0,st,hn=>by
   have:st=[]:=List.length_eq_zero_iff.mp hn
   subst this
   rw[sA]
   exact⟨[],rfl,by simp,λh=>absurd rfl h⟩
 | n + 1,st,hn=>by
   have Q7:st≠[]:=λe=>by rw[e] at hn;simp at hn
   by_cases e:(st.getLast Q7).2=1
   ·obtain⟨s',h1,h2,h3⟩:=qz n st.dropLast (by rw[MM,hn];rfl)
    rw[tw Q7 e]
    refine⟨s'++[st.getLast Q7],?_,λt ht=>?_,h3⟩
    ·rw[← L1,← h1];exact(kG Q7).symm
    ·rcases LW.mp ht with q | q
     ·exact h2 t q
     ·rw[LH.mp q];exact e
   ·rw[pE Q7 e]
    exact⟨[],by simp,by simp,λ_=>e⟩
structure kf (v:eV):Prop where
 pl:v.1.length<=4
 p1:1<=v.1.length
 rl:v.2.length<=30
 sz:∀n∈v.1,2<=n/\n<=16
 rw:∀r∈v.2,(0<=r.1/\r.1 < (v.1.length:Int))/\(0<=r.2.1/\r.2.1 < v.1.getD r.1.toNat 0)/\(0<=r.2.2.1/\r.2.2.1 < v.1.getD r.1.toNat 0)/\(r.2.2.2= -1∨(0<=r.2.2.2/\r.2.2.2 < (v.1.length:Int)))
 fr:∀p k:Nat,p < v.1.length->(k:Int) < v.1.getD p 0->k≠1->∃(n:Nat) (r:Row),v.2[n]?=some r/\r.1=(p:Int)/\r.2.1=(k:Int)
theorem mD {α β:Type}{P:α->List β->Prop}(hp:∀x ys,P x ys->ys=[]):∀{xs:List α} {RH:List (List β)},PySem.Paired P xs RH->RH=ME xs.length []
 | _,_,.nil=>rfl
 | _,_,.cons h t=>by rw[LR,List.replicate_succ,mD hp t,hp _ _ h]
def iF (v:eV)(p:Int)(i:Nat)(q:Int):Lh:=(ups 0 i).filter λk=>decide (((rowOf v k).1,(rowOf v k).2.1)=(p,q))
theorem zY (i:Nat):ups 0 (i + 1)=ups 0 i++[(i:Int)]:=by
 unfold ups
 rw[List.range_succ,L5]
 simp
theorem nH (v:eV)(p:Int)(i:Nat)(q:Int):iF v p (i + 1) q=iF v p i q++(if(rowOf v (i:Int)).1=p/\(rowOf v (i:Int)).2.1=q then[(i:Int)] else[]):=by
 unfold iF
 rw[zY,MH]
 congr 1
 by_cases h:(rowOf v (i:Int)).1=p/\(rowOf v (i:Int)).2.1=q
 ·rw[if_pos h,MA (by simp[h.1,h.2])];rfl
 ·rw[if_neg h,MB (by simp;exact λa b=>h ⟨a,b⟩)];rfl
def gR (v:eV)(p:Int)(n i:Nat):List Lh:=(ups 0 n).map (iF v p i)
def ie (v:eV)(p:Int):List Lh:=(ups 0 (v.1.getD p.toNat 0).toNat).map (nv v p)
theorem iX (v:eV)(p:Int)(n i:Nat):(gR v p n i).length=n:=by unfold gR;rw[LJ,a8]
theorem md {j:Nat}(h:j < n):(ups 0 n)[j]?=some (j:Int):=by unfold ups;rw[LM,Mq h];simp
theorem lU {p:Int}{j:Nat}(h:j < n):(gR v p n i)[j]?=some (iF v p i (j:Int)):=by unfold gR;rw[LM,md h];rfl
theorem wH {p:Int}(h:(rowOf v (i:Int)).1≠p):gR v p n (i + 1)=gR v p n i:=by
 unfold gR
 refine MZ λq hq=>?_
 rw[nH,if_neg (λz=>h z.1),Mh]
theorem Ae {p:Int}(h:(rowOf v (i:Int)).1=p)(s0:0<=(rowOf v (i:Int)).2.1)(s1:(rowOf v (i:Int)).2.1 < (n:Int)):(gR v p n i).set (rowOf v (i:Int)).2.1.toNat (iF v p i (rowOf v (i:Int)).2.1++[(i:Int)])=gR v p n (i + 1):=by
 apply Mw
 intro j
 by_cases hj:j < n
 ·rw[lU hj,nH]
  by_cases e:(rowOf v (i:Int)).2.1.toNat=j
  ·subst e
   rw[LZ (by rw[iX];exact hj),if_pos ⟨h,by omega⟩]
   rw[show(((rowOf v (i:Int)).2.1.toNat:Nat):Int)=(rowOf v (i:Int)).2.1 by omega]
  ·rw[Mf e,lU hj,if_neg (λz=>e (by have:=z.2;omega)),Mh]
 ·rw[Ma (by rw[Ml,iX];omega),Ma (by rw[iX];omega)]
theorem pU (v:eV)(p:Int)(i:Nat)(q:Int):(iF v p i q).length<=i:=by
 unfold iF
 refine Nn (MF _ _) ?_
 rw[a8];exact Nm _
theorem zL {p q:Int}(q0:0<=q)(q1:q < v.1.getD p.toNat 0):(ie v p)[q.toNat]?=some (nv v p q):=by
 have:=lU (v:=v) (p:=p) (n:=(v.1.getD p.toNat 0).toNat) (i:=v.2.length) (j:=q.toNat) (by omega)
 rw[show((q.toNat:Nat):Int)=q by omega] at this
 exact this
theorem boot_bool:OB "bool"=some (.type "bool"):=by decide +kernel
end
section
theorem qD {st:gA}(h:st≠[]):st[st.length - 1]?=some (st.getLast h):=by rw[List.getLast_eq_getElem];exact LD _
abbrev xD:Stmt:=top nE
abbrev JO:Li:=["web","part","leaving","number","row"]
theorem GB:aH JO ["web","part"] (ai xD):=Rp
def Jr (fr:Bool):cQ:=λK ps T=>∃(v:eV) (p:Int),ps=[⟨lL,v⟩,⟨af,p⟩]/\kf v/\0<=p/\p < (v.1.length:Int)/\T=if fr=true then pA K (ae af) (· =ie v p) else Jy K af (· =ie v p)
theorem Iz (fr:Bool)(M:bY K mg)(F:bD K "rows_leaving" "rows_leaving" xD f fd)(hm:mg "rows_leaving"=some (.ref f))(hb:Binds K fd ["web","part"] []):aI P w K mg base "rows_leaving" 1 (aK (Jr fr) K):=by
 have nd:=GB.nd
 have Su:L3 [("place":Str)]:=by decide
 refine bw F GB hm hb (λqs T ⟨_,_,e,_⟩=>by rw[e];rfl) (λQ2 A outer s H E qs T hr hS=>?_)
 obtain⟨v,p,rfl,hv,p0,p1,rfl⟩:=hS
 have pl:=hv.pl
 have rl:=hv.rl
 have hn:bV v.1 p=some (v.1.getD p.toNat 0):=aQ 0 p0 p1
 have nb:=hv.sz (v.1.getD p.toNat 0) (by rw[LG,LD (by omega)];exact Mb _)
 generalize hN:v.1.getD p.toNat 0=n at hn nb
 change WS _ _ [Js v,ao p,.no,.no,.no] _ _
 refine aj (B2 2 (own:=["place"]) (fr:=[]) (ix:=[]) (ra:=af) (rb:=af) (P:=λ_ ys=>ys=[]) (bH (so:=ai xD) (N0:=JO) rfl rfl (λx h=>bh h) (by decide +kernel)) (cV M.range (aZ (r6 (aa 0 rfl)) (aa 1 rfl) hn) ⟨by omega,by omega⟩)
  (λC s H ex=>aY 0) (λx=>⟨.inr rfl,trivial⟩) (λx=>⟨trivial,trivial⟩) (λC s H ex x hx=>aW.evr (aP aO (by decide)) rfl) λa bs RH pq _=>?_)
 have ey:=mD (λ_ _ h=>h) pq
 rw[a8] at ey
 have e0:ME n.toNat ([]:Lh)=gR v p n.toNat 0:=by
  unfold gR iF
  apply Mw
  intro j
  rw[My,LM]
  by_cases hj:j < n.toNat
  ·rw[if_pos hj,md hj];rfl
  ·rw[if_neg hj,Ma (by rw[a8];omega)];rfl
 rw[e0] at ey
 subst ey
 refine aj (cC (r:=dB af eo) (λi Γ=>∃v3 v4,Γ=[Js v,ao p,.ob (dk af a bs (gR v p n.toNat i)),v3,v4])
  (gL M.enumerate (nJ (aa 0 rfl))) (ft 3 4) ⟨_,_,rfl⟩ ?_ ?_)
 ·rintro i x Γ hx ⟨v3,v4,rfl⟩
  obtain⟨e1,e2⟩:=eN hx
  have il:=(LC.mp e2).1
  have er:rowOf v i=x.2:=by unfold rowOf;rw[LG,show((i:Int)).toNat=i by omega,e2];rfl
  refine ak (bq (ay fD (uV (aa 4 rfl)) (aa 1 rfl)) (λh=>?_) (λh=>aN ?_))
  ·have h:x.2.1=p:=of_decide_eq_true h
   have rp:=hv.rw _ (LO e2)
   have q0:=rp.2.1.1
   have q1:=rp.2.1.2
   rw[h,hN] at q1
   have len:=iX v p n.toNat i
   refine ak (vT 2 (Cn (aa 4 rfl)) (aa 3 rfl) rfl (rS q0 (by omega)) (lU (j:=x.2.2.1.toNat) (by omega)) (Nr (Nn (pU v p i _) (show i<=100 by omega)) (by decide)) ?_)
   refine⟨ao x.1,.im eo x.2,?_⟩
   have:=Ae (v:=v) (p:=p) (n:=n.toNat) (i:=i) (by rw[er];exact h) (by rw[er];exact q0) (by rw[er];omega)
   rw[er] at this
   rw[e1,show((x.2.2.1.toNat:Nat):Int)=x.2.2.1 by omega,this]
   rfl
  ·have h:x.2.1≠p:=of_decide_eq_false h
   refine⟨ao x.1,.im eo x.2,?_⟩
   rw[wH (by rw[er];exact h)]
   rfl
 ·rintro Γ ⟨v3,v4,rfl⟩
  rw[cR]
  have e:gR v p n.toNat v.2.length=ie v p:=by unfold ie;rw[hN];rfl
  rw[e]
  have ll:(ie v p).length<=16:=by rw[← e,iX];omega
  cases fr with
  | false=>exact ak (GF 2 rfl rfl)
  | true=>
    refine ak (B6 2 rfl (aD (by omega)) (λxs hx=>?_) rfl)
    rw[← e] at hx
    obtain⟨q,_,rfl⟩:=LY.mp hx
    exact aD (Nn (pU v p _ q) (by omega))
abbrev Bh:Stmt:=top tQ
theorem ED:aH ["value"] ["value"] (ai Bh):=Rp
def DZ:cQ:=λK ps T=>∃x:Int,ps=[⟨af,x⟩]/\T=cg K bZ (· =true)
theorem IX (M:bY K mg)(M4:gX mg)(F:bD K "is_whole" "is_whole" Bh f fd)(hm:mg "is_whole"=some (.ref f))(hb:Binds K fd ["value"] []):aI P w K mg base "is_whole" 1 (aK DZ K):=by
 have nd:=ED.nd
 refine bw F ED hm hb (λqs T ⟨x,e,_⟩=>by rw[e];rfl) (λQ2 A outer s H E qs T hr hS=>?_)
 obtain⟨x,rfl,rfl⟩:=hS
 exact ak (aX (tG (kP M4.isinstance M.int PyProof.Rows.boot_int (aa 0 rfl) ty_int) (λ_=>lH (xB (kP M4.isinstance M4.bool boot_bool (aa 0 rfl) ty_int)))) rfl)
abbrev xc:Stmt:=top qI
theorem Fs:aH ["values"] ["values"] (ai xc):=Rp
def J9:cQ:=λK ps T=>(∃ns:Lh,ps=[⟨ae af,ns⟩])/\T=cg K bZ (· =true)
theorem Ee {α:Type}(xs:List α):((xs.filter λ_=>true).map λ_=>true).all id=true:=by
 rw[MJ];intro b hb
 obtain⟨_,_,rfl⟩:=LY.mp hb;rfl
theorem HJ (M:bY K mg)(M4:gX mg)(CI:aI P w K mg base "is_whole" 1 (aK DZ K))(F:bD K "are_whole" "are_whole" xc f fd)(hm:mg "are_whole"=some (.ref f))(hb:Binds K fd ["values"] []):aI P w K mg base "are_whole" 2 (aK J9 K):=by
 have nd:=Fs.nd
 have Su:L3 [("value":Str)]:=by decide
 refine bw F Fs hm hb (λqs T ⟨⟨_,e⟩,_⟩=>by rw[e];rfl) (λQ2 A outer s H E qs T hr hS=>?_)
 obtain⟨⟨ns,rfl⟩,rfl⟩:=hS
 exact ak (aX (sk M.all (aW.im (cq (own:=["value"]) (fr:=[]) (ix:=[]) (p:=λ_=>true) (f:=λ_=>true) (bH (so:=ai xc) (N0:=["values"]) rfl rfl (λx h=>bh h) (by decide +kernel)) (bR (aa 0 rfl))
  (λC s H ex=>aY 0) (λx=>⟨.inr rfl,trivial⟩) (λC s H ex x hx=>dg) (λC s H ex x hx _=>aE CI hr (ag (aa 0 rfl) aw) ⟨_,rfl,rfl⟩)))) (Ee ns))
abbrev wu:Stmt:=top nP
abbrev AJ:Li:=["answers","bound"]
theorem Hd:aH AJ AJ (ai wu):=Rp
def lK (ans:Lh):Bool:=((ans.filter λ_=>true).map λa=>decide (0<=a)&&decide (a<=1)).all id
def Kc:cQ:=λK ps T=>∃(ans:Lh) (bound:Int),ps=[⟨ae af,ans⟩,⟨af,bound⟩]/\lK ans=true/\0<=bound/\T=cg K mR (λ_=>True)
theorem Jb (M:bY K mg)(M4:gX mg)(CI:aI P w K mg base "is_whole" 1 (aK DZ K))(CA:aI P w K mg base "are_whole" 2 (aK J9 K))(F:bD K "need_answers" "need_answers" wu f fd)(hm:mg "need_answers"=some (.ref f))(hb:Binds K fd AJ []):aI P w K mg base "need_answers" 3 (aK Kc K):=by
 have nd:=Hd.nd
 have Su:L3 [("answer":Str)]:=by decide
 refine DT F Hd hm hb (λqs T ⟨_,_,e,_⟩=>by rw[e];rfl) (λQ2 A outer s H E qs T hr hS=>?_)
 obtain⟨ans,bound,rfl,ha,hb,rfl⟩:=hS
 refine⟨λ_ _ _=>⟨(),rfl,trivial⟩,?_⟩
 change WS _ _ [bQ ans,ao bound] _ _
 refine aj (bq (TW.tv (jj (fc (dG (kP M4.isinstance M.list NZ (aa 0 rfl) ty_list))) (λ_=>jj (fc (dG (aE CA hr (ag (aa 0 rfl) aw) ⟨⟨_,rfl⟩,rfl⟩))) (λ_=>jP (fc (dG (sk M.all (aW.im (cq (own:=["answer"]) (fr:=[]) (ix:=[]) (p:=λ_=>true) (f:=λa=>decide (0<=a)&&decide (a<=1)) (bH (so:=ai wu) (N0:=AJ) rfl rfl (λx h=>bh h) (by decide +kernel)) (bR (aa 0 rfl))
  (λC s H ex=>aY 0) (λx=>⟨.inr rfl,trivial⟩) (λC s H ex x hx=>dg) (λC s H ex x hx _=>ng qC qC ev_int (aa 0 rfl) ev_int)))))))))) (λh=>?_) (λh=>aN ?_))
 ·have h2:(false ||(false || !lK ans))=true:=h
  rw[ha] at h2;cases h2
 refine ak (bq (TW.tv (jj (fc (dG (aE (CI.mono (by decide)) hr (ag (aa 1 rfl) aw) ⟨_,rfl,rfl⟩))) (λ_=>jP (ay kC (aa 1 rfl) ev_int)))) (λh=>?_) (λh=>aN trivial))
 have h2:(false ||decide (bound < 0))=true:=h
 simp at h2
 omega
abbrev Bw:Stmt:=top tV
theorem Ef:aH ["part"] ["part"] (ai Bw):=Rp
def Ed:cQ:=λK ps T=>∃p:Int,ps=[⟨af,p⟩]/\T=cg K gC (· =(p,0))
theorem Ii (M3:iA mg)(F:bD K "at_begin" "at_begin" Bw f fd)(hm:mg "at_begin"=some (.ref f))(hb:Binds K fd ["part"] []):aI P w K mg base "at_begin" 1 (aK Ed K):=by
 have nd:=Ef.nd
 obtain⟨t1,hB⟩:=M3.beg
 refine bw F Ef hm hb (λqs T ⟨_,e,_⟩=>by rw[e];rfl) (λQ2 A outer s H E qs T hr hS=>?_)
 obtain⟨p,rfl,rfl⟩:=hS
 change WS _ _ [ao p] _ _
 exact ak (aX (l6 (ag (aa 0 rfl) (ag (dS hB) aw))) rfl)
abbrev uT:Stmt:=top IM
theorem EF:aH ["stack","row"] ["stack","row"] (ai uT):=Rp
def ip (st:gA)(r:Row):gA:=trim (if r.2.2.2= -1 then st.set (st.length - 1) (r.1,r.2.2.1) else st.set (st.length - 1) (r.1,r.2.2.1)++[(r.2.2.2,0)])
def JY:jO (Int×Int):=λK xs ps T=>∃r:Row,ps=[⟨eo,r⟩]/\xs≠[]/\xs.length<=200000/\T=λxs'=>cg K mR λz=>xs'=ip xs r/\z=()
theorem Ip (M3:iA mg)(M4:gX mg)(CA:aI P w K mg base "at_begin" 1 (aK Ed K))(F:bD K "go" "go" uT f fd)(hm:mg "go"=some (.ref f))(hb:Binds K fd ["stack","row"] []):aI P w K mg base "go" 2 (eE gC JY K):=by
 have nd:=EF.nd
 obtain⟨t1,hNC⟩:=M4.Ti
 obtain⟨t2,hEND⟩:=M3.end_
 refine B5 F EF hm hb (λxs qs T ⟨_,e,_⟩=>by rw[e];rfl) (λQ2 A outer s H E a xs qs T hr hS=>?_)
 obtain⟨r,rfl,ne,hl,rfl⟩:=hS
 change WS _ _ [.ob (bM a gC xs),.im eo r] _ _
 have hpos:0 < xs.length:=MR.mpr ne
 have hix:eD xs.length (-1)=some (xs.length - 1):=by unfold eD;rw[if_neg (by omega),if_pos (by omega)];congr 1;omega
 refine aj (fT 0 (j:=xs.length - 1) (l6 (ag (uV (aa 1 rfl)) (ag (BO (aa 1 rfl)) aw))) (gp ev_int) rfl rfl hix ?_)
 have two:∀s2:gA,trim s2=ip xs r->WS (fA ee P w K mg base ["stack","row"] "go" (ai uT) f Q2 A outer s H E).js ((bS uT).drop 2) [.ob (bM a gC s2),.im eo r] (λΓ=>∃xs',Γ[0]?=some (.ob (bM a gC xs'))/\∀H0 H' R',(cg K mR λz=>xs'=ip xs r/\z=()) H0 .Rf H' R') (wY K a gC λxs'=>cg K mR λz=>xs'=ip xs r/\z=()):=by
  intro s2 he
  refine ak (j2 (λm Γ=>∃s3:gA,Γ=[.ob (bM a gC s3),.im eo r]/\m=s3.length/\trim s3=ip xs r) (m0:=s2.length) ⟨s2,rfl,rfl,he⟩ ?_)
  rintro m Γ ⟨s3,rfl,rfl,ht⟩
  by_cases Q7:s3=[]
  ·subst Q7
   refine⟨_,_,TV.box 0 (TW.tv (cK (y:=false) (jK 0 rfl) (λh=>absurd h (by decide)))) rfl rfl,λh=>absurd h (by decide),λ_=>?_⟩
   exact⟨[],rfl,λ_ _ _=>⟨(),rfl,by rw[← ht,sA],rfl⟩⟩
  ·have hl3:=qD Q7
   have ne':s3.isEmpty=false:=by cases s3 with
    | nil=>exact absurd rfl Q7
    | cons a b=>rfl
   refine⟨_,_,TV.box 0 (TW.tv (cK (jK 0 rfl) (λ_=>du (ay fD (nJ (lh 0 (gp ev_int) rfl rfl (mZ hl3))) (dS hEND))))) rfl rfl,λh=>?_,λh=>?_⟩
   ·rw[Lq] at h
    have h1:(s3.getLast Q7).2=1:=of_decide_eq_true h.2
    refine ak (nW (EV.box 0 (qP 0 rfl hl3) rfl rfl) ?_)
    exact⟨s3.dropLast.length,by rw[MM];have:=MR.mpr Q7;omega,s3.dropLast,rfl,rfl,by rw[← tw Q7 h1];exact ht⟩
   ·rw[ne'] at h
    have h1:(s3.getLast Q7).2≠1:=by simpa using h
    rw[pE Q7 h1] at ht
    exact⟨s3,rfl,λ_ _ _=>⟨(),rfl,ht,rfl⟩⟩
 refine aj (bq (ay Gs (um (aa 1 rfl)) (dS hNC)) (λh=>?_) (λh=>aN ?_))
 ·have h:r.2.2.2≠ -1:=by simpa using h
  refine ak (nW (EV.box 0 (x9 0 (aE CA hr (ag (um (aa 1 rfl)) aw) ⟨_,rfl,rfl⟩) rfl rfl (Nr (show _<=200001 by rw[Ml];omega) (by decide))) rfl rfl) ?_)
  exact two _ (by rw[ip,if_neg h])
 ·have h:r.2.2.2= -1:=by simpa using h
  exact two _ (by rw[ip,if_pos h])
end
abbrev qk:gE:=("",0,0)
def cE (s:gw)(n:Int):Int:=((s.parts.filter λp=>decide (p.2.1<=n)).length:Int) - 1
def dy (s:gw):List Ln:=s.parts.map (c6 s)
def ot (names:Li)(x:Str):Nat:=names.findIdx λy=>decide (y=x)
def eR (s:gw)(r:Rw):Row:=
 (cE s r.1,(bB ((dy s).getD (cE s r.1).toNat []) r.1).getD 0,(bB ((dy s).getD (cE s r.1).toNat []) r.2.1).getD 0,if r.2.2.1="call" then(ot (s.parts.map (·.1)) r.2.2.2:Int) else -1)
def RC (s:gw):eV:=((dy s).map λF=>(F.length:Int),s.rows.map (eR s))
structure An (s:gw):Prop where
 pt:∀r∈s.rows,0<=cE s r.1/\cE s r.1 < (s.parts.length:Int)
 f1:∀r∈s.rows,(bB ((dy s).getD (cE s r.1).toNat []) r.1).isSome
 f2:∀r∈s.rows,(bB ((dy s).getD (cE s r.1).toNat []) r.2.1).isSome
 cl:∀r∈s.rows,r.2.2.1="call"->r.2.2.2∈s.parts.map (·.1)
theorem su {names:Li}{x:Str}(h:x∈names):names[ot names x]?=some x/\∀m,m < ot names x->names[m]?≠some x:=by
 unfold ot
 have hl:(names.findIdx λy=>decide (y=x)) < names.length:=List.findIdx_lt_length_of_exists ⟨x,h,decide_eq_true rfl⟩
 refine⟨?_,λm hm e=>?_⟩
 ·have:=List.findIdx_getElem (w:=hl)
  rw[LD hl,of_decide_eq_true this]
 ·have:=List.not_of_lt_findIdx hm
  obtain⟨ml,em⟩:=LC.mp e
  rw[em] at this
  simp at this
theorem pG {o:Option Int}(h:o.isSome=true):o=some (o.getD 0):=by
 cases o with
 | none=>cases h
 | some x=>rfl
section
variable {C D:Addr}
abbrev sr:Stmt:=top we
theorem AF:aH ["spots","number"] ["spots","number"] (ai sr):=Rp
def DM (C D:Addr):cQ:=λK ps T=>∃(s:gw) (n:Int),ps=[⟨bb C D,s⟩,⟨af,n⟩]/\s.parts.length<=4/\T=cg K af (· =cE s n)
theorem Gi (M:bY K mg)(HD:bA K D eW)(F:bD K "part_at" "part_at" sr f fd)(hm:mg "part_at"=some (.ref f))(hb:Binds K fd ["spots","number"] []):aI P w K mg base "part_at" 1 (aK (DM C D) K):=by
 have nd:=AF.nd
 have Su:L3 [("part":Str),"number"]:=by decide
 refine bw F AF hm hb (λqs T ⟨_,_,e,_⟩=>by rw[e];rfl) (λQ2 A outer st H E qs T hr hS=>?_)
 obtain⟨s,n,rfl,hl,rfl⟩:=hS
 change WS _ _ [.im (bb C D) s,ao n] _ _
 refine ak (aX (fL (cJ M.len (aW.im (cq (own:=["part"]) (fr:=["number"]) (ix:=[1]) (ra:=ax) (rb:=ax) (p:=λz=>decide (vU z<=n)) (f:=λz=>z) (bH (so:=ai sr) (N0:=["spots","number"]) rfl rfl (λx h=>bh h) (by decide +kernel)) (bR (gv (C:=C) HD (aa 0 rfl)))
  (λC s H ex=>aY 0) (λx=>⟨.inr rfl,.inl rfl,trivial⟩) (λC' s' H ex z hz=>?_) (λC' s H ex z hz _=>aa 0 rfl)))) ev_int) ?_)
 ·obtain⟨p,hp,rfl⟩:=LY.mp hz
  exact gc (ay qC (EV.iP (n:=p.2.1) (bG (aa 0 rfl) ev_int rfl)) (aa 1 rfl))
 ·unfold cE
  rw[LJ,Nl,LJ]
  rfl
abbrev rq:Stmt:=top yV
abbrev AM:Li:=["text","spots","names","places","rows","row","part","calls"]
theorem DY:aH AM ["text"] (ai rq):=Rp
def J8:cQ:=λK ps T=>∃(x:Str) (S:List aG) (Ld:List Lh),ps=[⟨ah,x⟩]/\oI x S/\mE S Ld/\Good (Q0 S Ld)/\An (Q0 S Ld)/\T=cg K lL (· =RC (Q0 S Ld))
theorem Jd (M:bY K mg)(M4:gX mg)(HD:bA K D eW)(CN:aI P w K mg base "need_program" 6 (aK (Ka C D) K))(CP:aI P w K mg base "places_in" 1 (aK (zB C D) K))(CA:aI P w K mg base "part_at" 1 (aK (DM C D) K))(F:bD K "web_of" "web_of" rq f fd)(hm:mg "web_of"=some (.ref f))(hb:Binds K fd ["text"] []):aI P w K mg base "web_of" 7 (aK J8 K):=by
 have nd:=DY.nd
 have Su:L3 [("part":Str)]:=by decide
 have Tn:L3 [("part":Str),"spots"]:=by decide
 have ndc3:L3 [("known":Str)]:=by decide
 have CP:=CP.mono (show 1<=6 by decide)
 have CA:=CA.mono (show 1<=6 by decide)
 refine bw (k:=6) F DY hm hb (λqs T ⟨_,_,_,e,_⟩=>by rw[e];rfl) (λQ2 A outer st H E qs T hr hS=>?_)
 obtain⟨x,S,Ld,rfl,hx,hk,hG,hW,rfl⟩:=hS
 obtain⟨t,hnc⟩:=M4.Ti
 have hu:=ru hr
 change WS _ _ [.im ah x,.no,.no,.no,.no,.no,.no,.no] _ _
 refine aj (aU 1 (y:=Q0 S Ld) (aE CN hr (ag (aa 0 rfl) aw) ⟨x,S,Ld,rfl,hx,hk,hG,rfl⟩) ?_)
 generalize Q0 S Ld=s at hG hW
 have Rj:=hG.pl
 have hrl:=hG.rl
 change WS _ _ [.im ah x,.im (bb C D) s,.no,.no,.no,.no,.no,.no] _ _
 have Um:((s.parts.map jh).filter λ_=>true).map tD=s.parts.map (·.1):=by rw[Mi.mpr λ_ _=>rfl,ML];rfl
 refine aj (hJ 2 (own:=["part"]) (fr:=[]) (ix:=[]) (ra:=ax) (rb:=ah) (p:=λ_=>true) (f:=tD) (bH (so:=ai rq) (N0:=AM) rfl rfl (λx h=>bh h) (by decide +kernel)) (bR (gv (C:=C) HD (aa 1 rfl)))
  (λC s H ex=>aY 0) (λx=>⟨.inr rfl,trivial⟩) (λC' s H ex c hc=>dg) (λC' s H ex o ho _=>by
   obtain⟨p,_,rfl⟩:=LY.mp ho
   exact EV.sP (x:=p.1) (bG (aa 0 rfl) ev_int rfl)) ?_)
 rw[Um]
 generalize Vb:s.parts.map (·.1)=names
 have VI:names.length=s.parts.length:=by rw[← Vb,LJ]
 refine WS.freeze 2 rfl (aD (by omega)) ?_
 change WS _ _ [.im ah x,.im (bb C D) s,.im (ae ah) names,.no,.no,.no,.no,.no] _ _
 have hpls:((ups 0 names.length).filter λ_=>true).map (λi=>c6 s (s.parts.getD i.toNat qk))=dy s:=by
  rw[Mi.mpr λ_ _=>rfl,VI]
  unfold dy
  refine Mw λi=>?_
  unfold ups
  rw[LM,LM,LM]
  rcases Nv i s.parts.length with h | h
  ·rw[Mq h,LD h]
   show some (c6 s (s.parts.getD (0 + (i:Int)).toNat qk))=_
   rw[show(0 + (i:Int)).toNat=i by omega,LG,LD h];rfl
  ·rw[Ma (by simpa using h),Ma h];rfl
 refine aj (hJ 3 (own:=["part"]) (fr:=["spots"]) (ix:=[1]) (ra:=af) (rb:=g9) (p:=λ_=>true) (f:=λi=>c6 s (s.parts.getD i.toNat qk)) (bH (so:=ai rq) (N0:=AM) rfl rfl (λx h=>bh h) (by decide +kernel)) (cV M.range (cJ M.len (aa 2 rfl)) ⟨by omega,by omega⟩)
  (λC s H ex=>aY 0) (λx=>⟨.inr rfl,.inl rfl,trivial⟩) (λC' s H ex c hc=>dg) (λC' s' H ex o ho _=>by
   obtain⟨i,hi⟩:=LX.mp ho
   obtain⟨il,rfl⟩:=dY hi
   have il:i < s.parts.length:=by omega
   rw[show(0:Int) + (i:Int)=(i:Int) by omega]
   exact aE CP hr (ag (aa 1 rfl) (ag (aa 0 rfl) aw)) ⟨s,i,s.parts.getD i qk,rfl,hG,by rw[LG,LD il];rfl,rfl⟩) ?_)
 rw[show((names.length:Int)).toNat=names.length by omega,hpls]
 have hpll:(dy s).length=s.parts.length:=by unfold dy;rw[LJ]
 refine WS.freeze 3 rfl (aD (by omega)) ?_
 refine aj (cz 4 (r:=eo) (ys:=[]) (aP aO (Np _)) ?_)
 change WS _ _ [.im ah x,.im (bb C D) s,.im (ae ah) names,.im (ae g9) (dy s),.mu eo [],.no,.no,.no] _ _
 refine bL (N1:=λΓ=>∃e5 e6 e7,Γ=[.im ah x,.im (bb C D) s,.im (ae ah) names,.im (ae g9) (dy s),.mu eo (s.rows.map (eR s)),e5,e6,e7]) (cC (λi Γ=>∃e5 e6 e7,Γ=[.im ah x,.im (bb C D) s,.im (ae ah) names,.im (ae g9) (dy s),.mu eo ((s.rows.take i).map (eR s)),e5,e6,e7]) (bR (qi (C:=C) HD (aa 1 rfl))) (aY 5) ⟨_,_,_,rfl⟩ (λi z Γ hz hΓ=>?_) (λΓ hΓ=>?_)) ?_
 ·obtain⟨e5,e6,e7,rfl⟩:=hΓ
  rw[LM] at hz
  obtain⟨r,S7,rfl⟩:=NO.mp hz
  have rm:=LO S7
  have il:=(LC.mp S7).1
  obtain⟨q0,q1⟩:=hW.pt r rm
  have Si:(s.rows.take (i + 1)).map (eR s)=(s.rows.take i).map (eR s)++[eR s r]:=by rw[Mm,S7,L5];rfl
  rw[Si]
  have tl:((s.rows.take i).map (eR s)).length<=30:=by rw[LJ,L0];omega
  generalize (s.rows.take i).map (eR s)=rs at tl
  change WS _ _ [.im ah x,.im (bb C D) s,.im (ae ah) names,.im (ae g9) (dy s),.mu eo rs,.im ax (gH r),e6,e7] _ _
  refine aj (aU 6 (y:=cE s r.1) (aE CA hr (ag (aa 1 rfl) (ag (EV.iP (n:=r.1) (bG (aa 5 rfl) ev_int rfl)) aw)) ⟨s,r.1,rfl,Rj,rfl⟩) ?_)
  have T4:r.2.2.1="call"->r.2.2.2∈names:=λq=>by rw[← Vb];exact hW.cl r rm q
  refine aj (aU 7 (y:=if r.2.2.1="call" then(ot names r.2.2.2:Int) else -1) (EV.cast (jk (ay cb (EV.sP (x:=r.2.2.1) (bG (aa 5 rfl) ev_int rfl)) aA) (λh=>yy (aa 2 rfl) (EV.sP (x:=r.2.2.2) (bG (aa 5 rfl) ev_int rfl)) (su (T4 (of_decide_eq_true h))).1 (su (T4 (of_decide_eq_true h))).2) (λ_=>dS hnc)) (by by_cases q:r.2.2.1="call"<;>simp[q])) ?_)
  have RQ:bV (dy s) (cE s r.1)=some ((dy s).getD (cE s r.1).toNat []):=aQ (xs:=dy s) (i:=cE s r.1) [] q0 (by omega)
  refine ak (eh 4 (y:=eR s r) (B8 (av (EV.pI (aa 6 rfl)) (av (EV.pI (i8 hu (aZ (aa 3 rfl) (aa 6 rfl) RQ) (EV.iP (n:=r.1) (bG (aa 5 rfl) ev_int rfl)) (pG (hW.f1 r rm)))) (av (EV.pI (i8 hu (aZ (aa 3 rfl) (aa 6 rfl) RQ) (EV.iP (n:=r.2.1) (bG (aa 5 rfl) ev_int rfl)) (pG (hW.f2 r rm)))) (av (EV.cast (EV.pI (aa 7 rfl)) (by unfold eR;rw[Vb])) aO))))) rfl rfl (Nr tl (by decide)) ⟨.im ax (gH r),ao (cE s r.1),ao (if r.2.2.1="call" then(ot names r.2.2.2:Int) else -1),rfl⟩)
 ·obtain⟨e5,e6,e7,rfl⟩:=hΓ
  refine⟨e5,e6,e7,?_⟩
  rw[LJ,Mn]
 rintro _ ⟨e5,e6,e7,rfl⟩
 refine WS.freeze 4 rfl (aD (by rw[LJ];omega)) ?_
 refine ak (aX (l6 (ag (aW.im (cq (own:=["known"]) (fr:=[]) (ix:=[]) (ra:=g9) (rb:=af) (p:=λ_=>true) (f:=λF=>(F.length:Int)) (bH (so:=ai rq) (N0:=AM) rfl rfl (λx h=>bh h) (by decide +kernel)) (bR (aa 3 rfl))
  (λC s H ex=>aY 0) (λx=>⟨.inr rfl,trivial⟩) (λC' s H ex c hc=>dg) (λC' s' H ex o ho _=>qB M.len (aa 0 rfl)))) (ag (aa 4 rfl) aw))) ?_)
 unfold RC
 rw[Mi.mpr λ_ _=>rfl]
end
section
variable {F:Ln}{S:List aG}
def Ix (F:Ln):Prop:=∀(i:Nat) (y:Int×Int),F[i]?=some y->y.2=(i:Int)
theorem Ix.put (h:Ix F)(k:Int):Ix (eC F k):=by
 unfold eC
 split
 ·exact h
 ·intro i y hy
  rcases Nv i F.length with q | q
  ·rw[L4 q] at hy;exact h i y hy
  ·rw[L8 q] at hy
   have:i - F.length=0:=by
    have:=(LC.mp hy).1
    rw[L9] at this;omega
   rw[this] at hy
   have hy:(k,(F.length:Int))=y:=by simpa using hy
   rw[← hy]
   show(F.length:Int)=(i:Int)
   omega
theorem oX (F:Ln)(k:Int):F <+:eC F k:=by
 unfold eC
 split
 ·exact prefix_rfl
 ·exact List.prefix_append _ _
theorem vf (F:Ln)(k:Int):k∈(eC F k).map (·.1):=by
 unfold eC
 split
 ·rename_i h;exact i9.mp h
 ·rw[L5];exact LU _ (by simp)
theorem BJ (p:gE)(F:Ln)(r:Rw):F <+:dC p F r:=by
 unfold dC
 split
 ·exact(oX _ _).trans (oX _ _)
 ·exact prefix_rfl
theorem Ix.rows {p:gE}:∀{rs:List Rw} {F:Ln},Ix F->Ix (rs.foldl (dC p) F)
 | [],F,h=>h
 | r::rs,F,h=>by
   rw[MG]
   refine Ix.rows ?_
   unfold dC
   split
   ·exact(h.put _).put _
   ·exact h
theorem m8 {p:gE}:∀{rs:List Rw} {F:Ln},F <+:rs.foldl (dC p) F
 | [],F=>prefix_rfl
 | r::rs,F=>by rw[MG];exact(BJ p F r).trans m8
theorem nh {p:gE}{r:Rw}(hi:lC p r=true):∀{rs:List Rw} {F:Ln},r∈rs->r.1∈(rs.foldl (dC p) F).map (·.1)/\r.2.1∈(rs.foldl (dC p) F).map (·.1)
 | x::rs,F,h=>by
   rw[MG]
   rcases LV.mp h with rfl | h
   ·have pre:=m8 (p:=p) (rs:=rs) (F:=dC p F r)
    have e:dC p F r=eC (eC F r.1) r.2.1:=by unfold dC;rw[if_pos hi]
    have sub:∀y,y∈(dC p F r).map (·.1)->y∈(rs.foldl (dC p) (dC p F r)).map (·.1):=λy hy=>by
     obtain⟨z,hz,rfl⟩:=LY.mp hy
     exact LY.mpr ⟨z,pre.subset hz,rfl⟩
    refine⟨sub _ ?_,sub _ ?_⟩
    ·rw[e]
     obtain⟨z,hz,ez⟩:=LY.mp (vf F r.1)
     exact LY.mpr ⟨z,(oX _ _).subset hz,ez⟩
    ·rw[e];exact vf _ _
   ·exact nh hi h
theorem FR (a b:Int):Ix [(a,0),(b,1)]:=by
 intro i y hy
 match i with
 | 0=>have:(a,(0:Int))=y:=by simpa using hy
      rw[← this];rfl
 | 1=>have:(b,(1:Int))=y:=by simpa using hy
      rw[← this];rfl
 | i + 2=>simp at hy
theorem BS {k v:Int}(h:bB F k=some v):(k,v)∈F:=by
 unfold bB at h
 obtain⟨y,hy,rfl⟩:=NO.mp h
 have h1:=List.mem_of_find?_eq_some hy
 have h2:=List.find?_some hy
 have h2:y.1=k:=of_decide_eq_true h2
 rw[← h2];exact h1
theorem uh {k v:Int}:∀{F:Ln},(F.map (·.1)).Nodup->(k,v)∈F->bB F k=some v
 | y::F,nd,h=>by
   obtain⟨n1,n2⟩:=Mg.mp (show(y.1::F.map (·.1)).Nodup from nd)
   unfold bB
   rcases LV.mp h with e | h
   ·rw[← e,List.find?_cons_of_pos (by simp)];rfl
   ·rw[List.find?_cons_of_neg (by
     simp only[decide_eq_true_eq]
     intro e
     exact n1 (by rw[e];exact LY.mpr ⟨_,h,rfl⟩))]
    exact uh n2 h
theorem Ix.val (h:Ix F){k:Int}(hk:k∈F.map (·.1)):∃i:Nat,bB F k=some (i:Int)/\i < F.length/\F[i]?=some (k,(i:Int)):=by
 have hs:=i9.mpr hk
 cases e:bB F k with
 | none=>rw[e] at hs;cases hs
 | some v=>
   have hm:=BS e
   obtain⟨i,hi⟩:=LX.mp hm
   have:=h i _ hi
   have hv:v=(i:Int):=this
   rw[hv] at hi ⊢
   exact⟨i,rfl,(LC.mp hi).1,hi⟩
theorem vp {α:Type}{p:α->Bool}{l:List α}{j:Nat}(hj:j < l.length)(h:∀(i:Nat) (x:α),l[i]?=some x->(p x=true↔i<=j)):(l.filter p).length=j + 1:=by
 conv=>lhs;rw[← Mx (j + 1) l]
 rw[MH,Mi.mpr λx hx=>?_,Na.mpr λx hx=>?_,Mh,L0]
 ·omega
 ·obtain⟨i,hi⟩:=LX.mp hx
  rw[List.getElem?_drop] at hi
  intro q
  have:=(h _ _ hi).mp q
  omega
 ·obtain⟨i,hi⟩:=LX.mp hx
  have il:i < (l.take (j + 1)).length:=(LC.mp hi).1
  rw[L0] at il
  rw[List.getElem?_take_of_lt (by omega)] at hi
  exact(h _ _ hi).mpr (by omega)
theorem yM {Ld:List Lh}{St:Lh}{r:Rw}(h:r∈gb S Ld St):∃(n:Nat) (s:aG) (l:Int),S[n]?=some s/\r.1=(n:Int)/\bC s.kind=true/\l∈Ld.getD n []/\r.2.1=St.getD l.toNat 0/\r.2.2.1∈(cF dQ s.kind).getD []/\r.2.2.2=s.name:=by
 unfold gb at h
 obtain⟨z,hz,hr⟩:=mem_flatMap.mp h
 unfold dX at hr
 obtain⟨y,hy,rfl⟩:=LY.mp hr
 obtain⟨i,hi⟩:=LX.mp hz
 obtain⟨e1,e2⟩:=eN hi
 unfold jm at hy
 obtain⟨h1,h2⟩:=MU (show(y.1,y.2)∈_ from hy)
 rw[e1,show((i:Nat):Int).toNat=i by omega] at h2
 refine⟨i,z.2,y.2,e2,e1,?_,h2,rfl,h1,rfl⟩
 unfold bC
 cases q:cF dQ z.2.kind with
 | none=>rw[q] at h1;cases h1
 | some v=>rfl
theorem xX {k:Str}(h:("call":Str)∈(cF dQ k).getD []):k="call":=by
 unfold cF at h
 split at h
 ·exact absurd h (by decide +kernel)
 unfold cF at h
 split at h
 ·rename_i e;exact e.symm
 unfold cF at h
 split at h
 ·exact absurd h (by decide +kernel)
 unfold cF at h
 split at h
 ·exact absurd h (by decide +kernel)
 ·unfold cF at h;cases h
theorem Av {n:Int}{ls:Lh}(h:dF S F n ls)(hr:bC (aM S n)=true):ls≠[]:=by
 cases h with
 | T8 h _ _ _=>rw[h] at hr;exact absurd hr (by decide +kernel)
 | _=>simp
theorem Ag {k:Str}(h:bC k=true):(cF dQ k).getD []≠[]:=by
 unfold bC cF at h
 unfold cF
 split at h
 ·rename_i e;rw[if_pos e];decide
 rename_i e
 rw[if_neg e]
 unfold cF at h ⊢
 split at h
 ·rename_i e;rw[if_pos e];decide
 rename_i e
 rw[if_neg e]
 unfold cF at h ⊢
 split at h
 ·rename_i e;rw[if_pos e];decide
 rename_i e
 rw[if_neg e]
 unfold cF at h ⊢
 split at h
 ·rename_i e;rw[if_pos e];decide
 ·cases h
theorem DL {Ld:List Lh}{St:Lh}{n:Nat}{s:aG}(hs:S[n]?=some s)(hk:bC s.kind=true)(hl:Ld.getD n []≠[]):∃r∈gb S Ld St,r.1=(n:Int):=by
 have hw:=Ag hk
 cases e1:(cF dQ s.kind).getD [] with
 | nil=>exact absurd e1 hw
 | cons x xs=>cases e2:Ld.getD n [] with
   | nil=>exact absurd e2 hl
   | cons y ys=>
     refine⟨og St ((n:Int),s) (x,y),mem_flatMap.mpr ⟨((n:Int),s),mG hs,?_⟩,rfl⟩
     unfold dX
     refine LY.mpr ⟨(x,y),?_,rfl⟩
     unfold jm
     rw[show(((n:Int),s).1).toNat=n by show((n:Nat):Int).toNat=n;omega,e2]
     show(x,y)∈((cF dQ s.kind).getD []).zip (y::ys)
     rw[e1];exact LP
end
section
variable {names:Li}{Ls:List (List Th)}
variable {z:Str×List Th}{j:Nat}
theorem qM (h:dq names Ls)(hz:(cW names Ls)[j]?=some z):(ck (aq names Ls))[j]?=some (z.1,((fst names Ls j:Nat):Int),((lst (fst names Ls j) z:Nat):Int)):=by
 have hn:=wg h
 have hlp:(ck (aq names Ls)).length=names.length:=by rw[← congrArg List.length hn,LJ]
 obtain⟨_,_,_,VJ,_⟩:=eU h hz
 have jl:=(LC.mp VJ).1
 have jp:j < (ck (aq names Ls)).length:=by omega
 rw[LD jp]
 obtain⟨j',z',w',Ta,Se,e⟩:=kH h (Mb jp)
 have h1:names[j]?=some ((ck (aq names Ls))[j]).1:=by
  conv=>lhs;rw[← hn]
  rw[LM,LD jp];rfl
 obtain⟨_,_,_,UT,_⟩:=eU h Ta
 rw[e] at h1
 have h1:names[j]?=some z'.1:=h1
 have jl':=(LC.mp UT).1
 have ej:j=j':=by
  rw[LD jl] at h1
  rw[LD jl'] at UT
  exact(M5 h.nd).mp ((Option.some.inj h1).trans (Option.some.inj UT).symm)
 subst ej
 rw[hz] at Ta
 cases Option.some.inj Ta
 rw[e]
theorem rn (h:dq names Ls):(cW names Ls).length=Ls.length:=by rw[Mt,h.l];omega
theorem ji (h:dq names Ls):(ck (aq names Ls)).length=Ls.length:=by
 rw[← h.l,← congrArg List.length (wg h),LJ]
theorem oP (h:dq names Ls){n:Nat}(hz:(cW names Ls)[j]?=some z)(h1:fst names Ls j<=n)(h2:n<=lst (fst names Ls j) z):cE (Q0 (aq names Ls) (bz names Ls)) (n:Int)=(j:Int):=by
 have jl:=(LC.mp hz).1
 have zl:=rn h
 have pl:=ji h
 unfold cE
 show(((ck (aq names Ls)).filter λp=>decide (p.2.1<=(n:Int))).length:Int) - 1=_
 rw[vp (j:=j) (by omega) λi x hx=>?_]
 ·push_cast;omega
 ·have il:=(LC.mp hx).1
  have U9:(cW names Ls)[i]?=some ((cW names Ls)[i]'(by omega)):=LD (by omega)
  rw[qM h U9] at hx
  have hx:=Option.some.inj hx
  rw[← hx]
  show decide (((fst names Ls i:Nat):Int)<=(n:Int))=true↔i<=j
  rw[decide_eq_true_eq]
  constructor
  ·intro q
   refine Classical.byContradiction λc=>?_
   have:=mh (cW names Ls) j i z hz (by omega)
   have h2:n<=fst names Ls j + 1 + QY z.2:=h2
   have:fst names Ls j + 2 + QY z.2<=fst names Ls i:=this
   omega
  ·intro q
   rcases Nv i j with c | c
   ·have:=mh (cW names Ls) i j _ U9 c
    have:fst names Ls i + 2 + QY ((cW names Ls)[i]'(by omega)).2<=fst names Ls j:=this
    omega
   ·have:i=j:=by omega
    subst this;omega
structure Hy (S:List aG) (f l:Nat) (F:Ln):Prop where
 ix:Ix F
 nd:(F.map (·.1)).Nodup
 le:F.length<=16
 ge:2<=F.length
 kp:∀k∈F.map (·.1),(f:Int) < k/\k<=(l:Int)/\(k=(l:Int)∨bC (aM S k)=true)
 en:F[1]?=some ((l:Int),1)
 bg:∃b,F[0]?=some (b,0)
theorem FC {S:List aG}{f:Nat}{v:Int}(h:v∈mr S f z):EG S f (lst f z) v:=by
 unfold mr at h
 rcases LW.mp h with h | h
 ·obtain⟨i,hi,rfl⟩:=LY.mp h
  obtain⟨h1,h2⟩:=Mj.mp hi
  have h1:=Ms.mp h1
  refine⟨by omega,?_,.inr h2⟩
  show((f + 1 + i:Nat):Int)<=((f + 1 + QY z.2:Nat):Int)
  omega
 ·rw[LH.mp h]
  exact⟨by show(f:Int) < ((f + 1 + QY z.2:Nat):Int);omega,LA _,.inl rfl⟩
theorem DO (h:dq names Ls){w:Int}(hz:(cW names Ls)[j]?=some z)(hb:eA (aq names Ls) (bz names Ls) names (fst names Ls j) w z){r:Rw}(hr:r∈(Q0 (aq names Ls) (bz names Ls)).rows)(hi:lC (z.1,((fst names Ls j:Nat):Int),((lst (fst names Ls j) z:Nat):Int)) r=true):r.1∈mr (aq names Ls) (fst names Ls j) z/\r.2.1∈mr (aq names Ls) (fst names Ls j) z:=by
 obtain⟨SH,Tw,U8,_⟩:=eU h hz
 have RY:=λn h1 h2=>hb.vG iz SH _ n rfl h1 h2
 obtain⟨n,s,l,h1,h2,h3,h4,h5⟩:=kj hr
 unfold lC at hi
 rw[Lq] at hi
 have i1:((fst names Ls j:Nat):Int) < r.1:=of_decide_eq_true hi.1
 have i2:r.1 < ((lst (fst names Ls j) z:Nat):Int):=of_decide_eq_true hi.2
 rw[h2] at i1 i2
 have Sd:aM (aq names Ls) (n:Int)=s.kind:=(gm h1).1
 have st:=hb.all iz SH n (by omega) (by omega)
 have rg:=st.rg l h4
 refine⟨?_,?_⟩
 ·rw[h2]
  exact jq ⟨i1,by omega,.inr (by rw[Sd];exact h3)⟩
 ·rw[h5]
  exact jq (RY l.toNat (by omega) (by omega))
theorem kR (h:dq names Ls)(hz:(cW names Ls)[j]?=some z):Hy (aq names Ls) (fst names Ls j) (lst (fst names Ls j) z) (c6 (Q0 (aq names Ls) (bz names Ls)) (z.1,((fst names Ls j:Nat):Int),((lst (fst names Ls j) z:Nat):Int))):=by
 obtain⟨w,hb⟩:=lN (names:=names) (Ls:=Ls) hz
 obtain⟨SH,Tw,U8,_⟩:=eU h hz
 have fl:fst names Ls j < lst (fst names Ls j) z:=by show _ < fst names Ls j + 1 + QY z.2;omega
 have RY:=λn h1 h2=>hb.vG iz SH _ n rfl h1 h2
 have Q7:(cU (aq names Ls) (bz names Ls)).getD (fst names Ls j) 0≠((lst (fst names Ls j) z:Nat):Int):=by
  rw[hb.first SH Tw]
  have:=(km hb SH Tw).2
  show((fst names Ls j + 1:Nat):Int)≠((fst names Ls j + 1 + QY z.2:Nat):Int)
  omega
 have e0:(Q0 (aq names Ls) (bz names Ls)).St.getD ((fst names Ls j:Nat):Int).toNat 0=(cU (aq names Ls) (bz names Ls)).getD (fst names Ls j) 0:=by rw[show((fst names Ls j:Nat):Int).toNat=fst names Ls j by omega];rfl
 unfold c6
 dsimp only
 rw[e0]
 generalize hb0:(cU (aq names Ls) (bz names Ls)).getD (fst names Ls j) 0=b at Q7
 have ks:gK (mr (aq names Ls) (fst names Ls j) z) ((Q0 (aq names Ls) (bz names Ls)).rows.foldl (dC (z.1,((fst names Ls j:Nat):Int),((lst (fst names Ls j) z:Nat):Int))) [(b,0),(((lst (fst names Ls j) z:Nat):Int),1)]):=by
  refine gK.rows ⟨?_,λx hx=>?_⟩ λr hr hi=>DO h hz hb hr hi
  ·exact Mg.mpr ⟨λq=>Q7 (LH.mp q),Mg.mpr ⟨by simp,M7⟩⟩
  ·have hx:x=b∨x=((lst (fst names Ls j) z:Nat):Int):=by simpa using hx
   rcases hx with rfl | rfl
   ·rw[← hb0];exact jq (RY _ (Nm _) (by omega))
   ·exact jq ⟨by omega,LA _,.inl rfl⟩
 have pre:=m8 (p:=(z.1,((fst names Ls j:Nat):Int),((lst (fst names Ls j) z:Nat):Int))) (rs:=(Q0 (aq names Ls) (bz names Ls)).rows) (F:=[(b,0),(((lst (fst names Ls j) z:Nat):Int),1)])
 obtain⟨t,ht⟩:=pre
 refine⟨Ix.rows (FR _ _),ks.1,Nn ks.len (xI hb U8),?_,λk hk=>FC (ks.2 k hk),?_,⟨b,?_⟩⟩
 ·rw[← ht];simp
 ·rw[← ht];rfl
 ·rw[← ht];rfl
theorem rP (h:dq names Ls){r:Rw}(hr:r∈(Q0 (aq names Ls) (bz names Ls)).rows):∃(j:Nat) (z:Str×List Th),(cW names Ls)[j]?=some z/\cE (Q0 (aq names Ls) (bz names Ls)) r.1=(j:Int)/\lC (z.1,((fst names Ls j:Nat):Int),((lst (fst names Ls j) z:Nat):Int)) r=true:=by
 obtain⟨n,s,l,h1,h2,h3,h4,h5⟩:=kj hr
 have hn:=(LC.mp h1).1
 obtain⟨j,z,w,hz,hb,q1,q2,q3⟩:=jV h n hn
 have Sd:aM (aq names Ls) (n:Int)=s.kind:=(gm h1).1
 refine⟨j,z,hz,by rw[h2];exact oP h hz q1 q2,?_⟩
 have n1:n≠fst names Ls j:=λe=>by
  rw[e,hb.k] at Sd
  rw[← Sd] at h3
  exact absurd h3 (by decide +kernel)
 have n2:n≠lst (fst names Ls j) z:=λe=>by
  rw[e,(gm hb.e).1] at Sd
  rw[← Sd] at h3
  exact absurd h3 (show¬bC "end"=true by decide +kernel)
 unfold lC
 rw[Lq,h2]
 exact⟨decide_eq_true (show((fst names Ls j:Nat):Int) < (n:Int) by omega),decide_eq_true (show(n:Int) < ((lst (fst names Ls j) z:Nat):Int) by omega)⟩
theorem lu (h:dq names Ls)(hz:(cW names Ls)[j]?=some z):(dy (Q0 (aq names Ls) (bz names Ls)))[j]?=some (c6 (Q0 (aq names Ls) (bz names Ls)) (z.1,((fst names Ls j:Nat):Int),((lst (fst names Ls j) z:Nat):Int))):=by
 unfold dy
 rw[LM]
 show((ck (aq names Ls))[j]?).map _=_
 rw[qM h hz];rfl
theorem Df (h:dq names Ls):(dy (Q0 (aq names Ls) (bz names Ls))).length=Ls.length:=by
 unfold dy
 rw[LJ]
 exact ji h
theorem A2 (h:dq names Ls):An (Q0 (aq names Ls) (bz names Ls)):=by
 have zl:=rn h
 have pl:=ji h
 have key:∀r∈(Q0 (aq names Ls) (bz names Ls)).rows,r.1∈((dy (Q0 (aq names Ls) (bz names Ls))).getD (cE (Q0 (aq names Ls) (bz names Ls)) r.1).toNat []).map (·.1)/\r.2.1∈((dy (Q0 (aq names Ls) (bz names Ls))).getD (cE (Q0 (aq names Ls) (bz names Ls)) r.1).toNat []).map (·.1):=λr hr=>by
  obtain⟨j,z,hz,e,hi⟩:=rP h hr
  rw[e,show((j:Nat):Int).toNat=j by omega,LG,lu h hz]
  exact nh hi hr
 refine⟨λr hr=>?_,λr hr=>i9.mpr (key r hr).1,λr hr=>i9.mpr (key r hr).2,λr hr hc=>?_⟩
 ·obtain⟨j,z,hz,e,_⟩:=rP h hr
  have jl:=(LC.mp hz).1
  rw[e]
  exact⟨by omega,by show(j:Int) < ((ck (aq names Ls)).length:Int);omega⟩
 ·obtain⟨n,s,l,h1,h2,h3,h4,h5,h6,h7⟩:=yM hr
  rw[hc] at h6
  have hk:=xX h6
  obtain⟨Ld,Tb,hG⟩:=Dp names Ls h
  obtain⟨m,u,_,hm,hu,hun⟩:=hG.ca n s h1 hk
  rw[h7,← hun]
  show u.name∈(ck (aq names Ls)).map (·.1)
  rw[rD]
  unfold RM
  exact LY.mpr ⟨u,Mj.mpr ⟨LO hm,decide_eq_true hu⟩,rfl⟩
theorem Jf (h:dq names Ls)(hG:Good (Q0 (aq names Ls) (bz names Ls))):kf (RC (Q0 (aq names Ls) (bz names Ls))):=by
 have zl:=rn h
 have pl:=ji h
 have wb:=A2 h
 have sl:=Df h
 have l1:=h.l1
 have l4:=h.l4
 have vl:(RC (Q0 (aq names Ls) (bz names Ls))).1.length=Ls.length:=by unfold RC;rw[LJ];exact sl
 have vat:∀{j:Nat} {z:Str×List Th},(cW names Ls)[j]?=some z->(RC (Q0 (aq names Ls) (bz names Ls))).1.getD j 0=((c6 (Q0 (aq names Ls) (bz names Ls)) (z.1,((fst names Ls j:Nat):Int),((lst (fst names Ls j) z:Nat):Int))).length:Int):=λ{j z} hz=>by
  unfold RC
  rw[LG,LM,lu h hz];rfl
 refine⟨by omega,by omega,?_,λn hn=>?_,λr hr=>?_,λp k hp hk hk1=>?_⟩
 ·unfold RC
  rw[LJ];exact hG.rl
 ·unfold RC at hn
  obtain⟨F,hF,rfl⟩:=LY.mp hn
  obtain⟨j,hj⟩:=LX.mp hF
  have jl:=(LC.mp hj).1
  have hz:(cW names Ls)[j]?=some ((cW names Ls)[j]'(by omega)):=LD (by omega)
  have po:=kR h hz
  rw[lu h hz] at hj
  rw[← Option.some.inj hj]
  have:=po.le
  have:=po.ge
  omega
 ·unfold RC at hr
  obtain⟨q,hq,rfl⟩:=LY.mp hr
  obtain⟨j,z,hz,e,hi⟩:=rP h hq
  have jl:=(LC.mp hz).1
  have po:=kR h hz
  obtain⟨k1,k2⟩:=nh hi hq (F:=[((Q0 (aq names Ls) (bz names Ls)).St.getD ((fst names Ls j:Nat):Int).toNat 0,0),(((lst (fst names Ls j) z:Nat):Int),1)])
  obtain⟨i1,e1,l1',_⟩:=po.ix.val k1
  obtain⟨i2,e2,l2',_⟩:=po.ix.val k2
  have eF:(dy (Q0 (aq names Ls) (bz names Ls))).getD (cE (Q0 (aq names Ls) (bz names Ls)) q.1).toNat []=c6 (Q0 (aq names Ls) (bz names Ls)) (z.1,((fst names Ls j:Nat):Int),((lst (fst names Ls j) z:Nat):Int)):=by
   rw[e,show((j:Nat):Int).toNat=j by omega,LG,lu h hz];rfl
  have w1:(eR (Q0 (aq names Ls) (bz names Ls)) q).1=(j:Int):=e
  have w2:(eR (Q0 (aq names Ls) (bz names Ls)) q).2.1=(i1:Int):=by unfold eR;dsimp only;rw[eF,e1];rfl
  have w3:(eR (Q0 (aq names Ls) (bz names Ls)) q).2.2.1=(i2:Int):=by unfold eR;dsimp only;rw[eF,e2];rfl
  rw[w1,w2,w3,vl,show((j:Nat):Int).toNat=j by omega,vat hz]
  refine⟨⟨by omega,by omega⟩,⟨by omega,by omega⟩,⟨by omega,by omega⟩,?_⟩
  show(if q.2.2.1="call" then _ else _)= -1∨_
  unfold eR
  dsimp only
  by_cases c:q.2.2.1="call"
  ·rw[if_pos c]
   have:=(LC.mp (su (wb.cl q hq c)).1).1
   have Rj:((Q0 (aq names Ls) (bz names Ls)).parts.map (·.1)).length=Ls.length:=by rw[LJ];exact pl
   exact .inr ⟨by omega,by omega⟩
  ·rw[if_neg c];exact .inl rfl
 ·have hz:(cW names Ls)[p]?=some ((cW names Ls)[p]'(by omega)):=LD (by omega)
  rw[vat hz] at hk
  have po:=kR h hz
  generalize hzz:((cW names Ls)[p]'(by omega))=z at hz po hk
  generalize hF:c6 (Q0 (aq names Ls) (bz names Ls)) (z.1,((fst names Ls p:Nat):Int),((lst (fst names Ls p) z:Nat):Int))=F at po hk
  have kl:k < F.length:=by omega
  have hFk:F[k]?=some F[k]:=LD kl
  have hv:=po.ix k _ hFk
  have SS:F[k]∈F:=Mb kl
  obtain⟨a1,a2,a3⟩:=po.kp _ (LY.mpr ⟨_,SS,rfl⟩)
  have Q7:F[k].1≠((lst (fst names Ls p) z:Nat):Int):=λc=>by
   have h1:(F.map (·.1))[k]?=some F[k].1:=by rw[LM,hFk];rfl
   have h2:(F.map (·.1))[1]?=some ((lst (fst names Ls p) z:Nat):Int):=by rw[LM,po.en];rfl
   rw[c] at h1
   have k1:=(LC.mp h1)
   have k2:=(LC.mp h2)
   obtain⟨x1,y1⟩:=k1
   obtain⟨x2,y2⟩:=k2
   exact hk1 ((M5 po.nd).mp (y1.trans y2.symm))
  have UO:=a3.resolve_left Q7
  obtain⟨w,hb⟩:=lN (names:=names) (Ls:=Ls) hz
  obtain⟨SH,Tw,U8,_⟩:=eU h hz
  have ll:lst (fst names Ls p) z < (aq names Ls).length:=(LC.mp hb.e).1
  obtain⟨n,hn⟩:∃n:Nat,F[k].1=(n:Int):=⟨F[k].1.toNat,by omega⟩
  rw[hn] at a1 a2 UO Q7
  have nl:n < (aq names Ls).length:=by omega
  have hs:(aq names Ls)[n]?=some (aq names Ls)[n]:=LD nl
  have Sd:aM (aq names Ls) (n:Int)=((aq names Ls)[n]).kind:=(gm hs).1
  have st:=hb.all iz SH n (by omega) (by omega)
  obtain⟨r,hr,er⟩:=DL (St:=(Q0 (aq names Ls) (bz names Ls)).St) hs (by rw[← Sd];exact UO) (Av st.ld UO)
  have hr:r∈(Q0 (aq names Ls) (bz names Ls)).rows:=hr
  obtain⟨i,hi⟩:=LX.mp hr
  refine⟨i,eR (Q0 (aq names Ls) (bz names Ls)) r,by unfold RC;rw[LM,hi];rfl,?_,?_⟩
  ·show cE _ r.1=_
   rw[er]
   exact oP h hz (by omega) (by omega)
  ·unfold eR
   dsimp only
   rw[er,oP h hz (by omega) (by omega),show((p:Nat):Int).toNat=p by omega,LG,lu h hz,hF]
   show(bB F (n:Int)).getD 0=_
   rw[uh (v:=(k:Int)) po.nd (by
    have:F[k]=((n:Int),(k:Int)):=NU hn hv
    rw[← this];exact SS)]
   rfl
end
section
variable {v:eV}{ans:Lh}{st:gA}
abbrev Wk:=Lh×Str×gA
abbrev jb:=Lh×Nat×gA
def jJ (x:Wk):PV:=.tup [.lst (x.1.map PV.int),.str x.2.1,.lst (x.2.2.map oB)]
def fo (st:gA):Int×Int:=st.getLastD (0,0)
def dD (v:eV)(st:gA):Lh:=nv v (fo st).1 (fo st).2
def ig (v:eV)(ans:Lh)(u:Nat)(st:gA):Option (Int×Nat):=
 if 1 < (dD v st).length then(ans[u]?).map λa=>((dD v st).getD (1 - a).toNat 0,u + 1) else some ((dD v st).getD 0 0,u)
def eX (v:eV)(ans:Lh)(s:jb):Option jb:=(ig v ans s.2.1 s.2.2).map λc=>(s.1++[c.1],c.2,ip s.2.2 (rowOf v c.1))
def dt (v:eV)(ans:Lh):Nat->jb->Wk
 | 0,s=>if s.2.2=[] then(s.1,"ended",[]) else(s.1,"bound",s.2.2)
 | n + 1,s=>if s.2.2=[] then(s.1,"ended",[]) else
   match eX v ans s with
   | none=>(s.1,"wanting",s.2.2)
   | some s'=>dt v ans n s'
theorem kX:∀{n:Nat} {s:jb},s.2.2=[]->dt v ans n s=(s.1,("ended":Str),[])
 | 0,s,h=>by rw[dt,if_pos h]
 | n + 1,s,h=>by rw[dt,if_pos h]
theorem oj {s:jb}(h:s.2.2≠[]):dt v ans 0 s=(s.1,("bound":Str),s.2.2):=by rw[dt,if_neg h]
theorem jF {n:Nat}{s:jb}(h:s.2.2≠[])(hn:eX v ans s=none):dt v ans (n + 1) s=(s.1,("wanting":Str),s.2.2):=by rw[dt,if_neg h,hn]
theorem jY {n:Nat}{s s':jb}(h:s.2.2≠[])(hn:eX v ans s=some s'):dt v ans (n + 1) s=dt v ans n s':=by rw[dt,if_neg h,hn]
theorem rZ {s s':jb}(h:eX v ans s=some s'):∃c,s'.1=s.1++[c]:=by
 unfold eX at h
 obtain⟨c,_,rfl⟩:=NO.mp h
 exact⟨c.1,rfl⟩
theorem lA {v:eV}{ans:Lh}:∀(n:Nat) (s:jb),∃ex,(dt v ans n s).1=s.1++ex/\ex.length<=n
 | 0,s=>⟨[],by rw[dt];split<;>simp,Nm _⟩
 | n + 1,s=>by
   by_cases h:s.2.2=[]
   ·exact⟨[],by rw[kX h];simp,Np _⟩
   ·cases q:eX v ans s with
    | none=>exact⟨[],by rw[jF h q];simp,Np _⟩
    | some s'=>
      obtain⟨ex,h1,h2⟩:=lA (v:=v) (ans:=ans) n s'
      obtain⟨c,hc⟩:=rZ q
      refine⟨c::ex,?_,by rw[LR];omega⟩
      rw[jY h q,h1,hc,L1];rfl
structure mH (v:eV) (st:gA):Prop where
 el:∀t∈st,(0<=t.1/\t.1 < (v.1.length:Int))/\0<=t.2/\t.2 < v.1.getD t.1.toNat 0
 tp:∀h:st≠[],(st.getLast h).2≠1
theorem kf.two (hv:kf v){p:Int}(h0:0<=p)(h1:p < (v.1.length:Int)):2<=v.1.getD p.toNat 0:=by
 rw[LG,LD (by omega)]
 exact(hv.sz _ (Mb _)).1
theorem yL (hv:kf v):mH v [(0,0)]:=by
 have:=hv.p1
 have h2:=hv.two (p:=0) (LA _) (by omega)
 refine⟨λt ht=>?_,λh=>by show(0:Int)≠1;decide⟩
 rw[LH.mp ht]
 exact⟨⟨LA _,by show(0:Int) < _;omega⟩,LA _,by show(0:Int) < v.1.getD (0:Int).toNat 0;omega⟩
theorem HH (hv:kf v)(hs:mH v st)(Q7:st≠[]){r:Row}(hr:r∈v.2):mH v (ip st r)/\(ip st r).length<=st.length + 1:=by
 obtain⟨r1,r2,r3,r4⟩:=hv.rw r hr
 have base:∀t∈st.set (st.length - 1) (r.1,r.2.2.1),(0<=t.1/\t.1 < (v.1.length:Int))/\0<=t.2/\t.2 < v.1.getD t.1.toNat 0:=λt ht=>by
  rcases List.mem_or_eq_of_mem_set ht with h | h
  ·exact hs.el t h
  ·rw[h];exact⟨r1,r3⟩
 unfold ip
 generalize hst2:(if r.2.2.2= -1 then st.set (st.length - 1) (r.1,r.2.2.1) else st.set (st.length - 1) (r.1,r.2.2.1)++[(r.2.2.2,0)])=s2
 have h2:(∀t∈s2,(0<=t.1/\t.1 < (v.1.length:Int))/\0<=t.2/\t.2 < v.1.getD t.1.toNat 0)/\s2.length<=st.length + 1:=by
  rw[← hst2]
  by_cases c:r.2.2.2= -1
  ·rw[if_pos c];exact⟨base,by rw[Ml];omega⟩
  ·rw[if_neg c]
   refine⟨λt ht=>?_,by rw[LL,Ml];exact Nm _⟩
   rcases LW.mp ht with h | h
   ·exact base t h
   ·rw[LH.mp h]
    have r4:=r4.resolve_left c
    have:=hv.two r4.1 r4.2
    exact⟨r4,LA _,by show(0:Int) < v.1.getD r.2.2.2.toNat 0;omega⟩
 obtain⟨s',e,_,h3⟩:=qz s2.length s2 rfl
 refine⟨⟨λt ht=>h2.1 t (by rw[e];exact L7 _ ht),h3⟩,?_⟩
 have:s2.length=(trim s2).length + s'.length:=by
  have:=congrArg List.length e
  rwa [LL] at this
 omega
theorem qZ (h:st≠[]):fo st=st.getLast h:=by unfold fo;cases st with
 | nil=>exact absurd rfl h
 | cons a b=>rfl
theorem BN {c:Int}(h:c∈dD v st):0<=c/\c < (v.2.length:Int)/\rowOf v c∈v.2:=by
 unfold dD nv at h
 obtain⟨h1,_⟩:=Mj.mp h
 unfold ups at h1
 obtain⟨i,hi,rfl⟩:=LY.mp h1
 have hi:=Ms.mp hi
 refine⟨by omega,by omega,?_⟩
 unfold rowOf
 rw[show((0:Int) + (i:Int)).toNat=i by omega,LG,LD hi]
 exact Mb hi
theorem xv (hv:kf v)(hs:mH v st)(Q7:st≠[]):dD v st≠[]:=by
 have h1:=hs.el _ (List.getLast_mem Q7)
 have h2:=hs.tp Q7
 have et:=qZ Q7
 rw[← et] at h1 h2
 obtain⟨n,r,hn,e1,e2⟩:=hv.fr (fo st).1.toNat (fo st).2.toNat (by omega) (by have:=h1.2.2;omega) (by omega)
 intro c
 have:(n:Int)∈dD v st:=by
  unfold dD nv
  have nl:=(LC.mp hn).1
  refine Mj.mpr ⟨?_,?_⟩
  ·unfold ups;exact LY.mpr ⟨n,Ms.mpr nl,by omega⟩
  ·have:rowOf v (n:Int)=r:=by unfold rowOf;rw[show((n:Nat):Int).toNat=n by omega,LG,hn];rfl
   rw[this,e1,e2]
   refine decide_eq_true (NU ?_ ?_)
   ·show(((fo st).1.toNat:Nat):Int)=(fo st).1;omega
   ·show(((fo st).2.toNat:Nat):Int)=(fo st).2;omega
 rw[c] at this;cases this
theorem yB (h:lK ans=true){i:Nat}{a:Int}(ha:ans[i]?=some a):0<=a/\a<=1:=by
 unfold lK at h
 rw[MJ] at h
 have:=h (decide (0<=a)&&decide (a<=1)) (LY.mpr ⟨a,Mj.mpr ⟨LO ha,rfl⟩,rfl⟩)
 have this:(decide (0<=a)&&decide (a<=1))=true:=this
 rw[Lq] at this
 exact⟨of_decide_eq_true this.1,of_decide_eq_true this.2⟩
theorem Cb (hv:kf v)(ha:lK ans=true)(hs:mH v st)(Q7:st≠[]){u:Nat}{c:Int×Nat}(h:ig v ans u st=some c):c.1∈dD v st:=by
 have fne:=xv hv hs Q7
 have fl:=MR.mpr fne
 unfold ig at h
 split at h
 ·obtain⟨a,h1,rfl⟩:=NO.mp h
  have:=yB ha h1
  dsimp only
  rw[LG,LD (by omega)]
  exact Mb _
 ·cases Option.some.inj h
  dsimp only
  rw[LG,LD (by omega)]
  exact Mb _
end
section
abbrev ya:Stmt:=top xT
abbrev JP:Li:=["text","answers","bound","web","leaving","stack","rows","used","found","chosen"]
theorem FE:aH JP ["text","answers","bound"] (ai ya):=Rp
abbrev SK:jb:=([],0,[(0,0)])
def DU:cQ:=λK ps T=>∃(x:Str) (ans:Lh) (bound:Int) (S:List aG) (Ld:List Lh),ps=[⟨ah,x⟩,⟨ae af,ans⟩,⟨af,bound⟩]/\oI x S/\mE S Ld/\Good (Q0 S Ld)/\An (Q0 S Ld)/\kf (RC (Q0 S Ld))/\lK ans=true/\0<=bound/\(dt (RC (Q0 S Ld)) ans bound.toNat SK).1.length<=100000/\T=cg K ax (· =jJ (dt (RC (Q0 S Ld)) ans bound.toNat SK))
theorem Ji (M:bY K mg)(M4:gX mg)(CW:aI P w K mg base "web_of" 7 (aK J8 K))(CN:aI P w K mg base "need_answers" 3 (aK Kc K))(CR:aI P w K mg base "rows_leaving" 1 (aK (Jr true) K))(CB:aI P w K mg base "at_begin" 1 (aK Ed K))(CG:aI P w K mg base "go" 2 (eE gC JY K))(F:bD K "walked" "walked" ya f fd)(hm:mg "walked"=some (.ref f))(hb:Binds K fd ["text","answers","bound"] []):aI P w K mg base "walked" 8 (aK DU K):=by
 have nd:=FE.nd
 have Su:L3 [("part":Str),"web"]:=by decide
 have CN:=CN.mono (show 3<=7 by decide)
 have CR:=CR.mono (show 1<=7 by decide)
 have CB:=CB.mono (show 1<=7 by decide)
 have CG:=CG.mono (show 2<=7 by decide)
 obtain⟨t1,hFP⟩:=M4.first
 obtain⟨t2,hY⟩:=M4.yes
 obtain⟨t3,hEN⟩:=M4.ended
 obtain⟨t4,hBO⟩:=M4.bound
 obtain⟨t5,hWA⟩:=M4.TN
 refine bw (k:=7) F FE hm hb (λqs T ⟨_,_,_,_,_,e,_⟩=>by rw[e];rfl) (λQ2 A outer st H E qs T hr hS=>?_)
 obtain⟨x,ans,bound,S,Ld,rfl,hx,hk,hG,hWb,hv,ha,hb0,hlen,rfl⟩:=hS
 change WS _ _ [.im ah x,bQ ans,ao bound,.no,.no,.no,.no,.no,.no,.no] _ _
 refine aj (aU 3 (y:=RC (Q0 S Ld)) (aE CW hr (ag (aa 0 rfl) aw) ⟨x,S,Ld,rfl,hx,hk,hG,hWb,rfl⟩) ?_)
 generalize RC (Q0 S Ld)=v at hv hlen
 have pl:=hv.pl
 change WS _ _ [.im ah x,bQ ans,ao bound,.im lL v,.no,.no,.no,.no,.no,.no] _ _
 refine aj (BR CN hr (ag (aa 1 rfl) (ag (aa 2 rfl) aw)) ⟨ans,bound,rfl,ha,hb0,rfl⟩ ?_)
 refine aj (hJ 4 (own:=["part"]) (fr:=["web"]) (ix:=[3]) (ra:=af) (rb:=ae (ae af)) (p:=λ_=>true) (f:=ie v) (bH (so:=ai ya) (N0:=JP) rfl rfl (λx h=>bh h) (by decide +kernel)) (cV M.range (cJ M.len (r6 (aa 3 rfl))) ⟨by omega,by omega⟩)
  (λC s H ex=>aY 0) (λx=>⟨.inr rfl,.inl rfl,trivial⟩) (λC' s H ex c hc=>dg) (λC' s' H ex o ho _=>by
   obtain⟨i,hi⟩:=LX.mp ho
   obtain⟨il,rfl⟩:=dY hi
   exact aW.im (sW CR hr (ag (aa 1 rfl) (ag (aa 0 rfl) aw)) ⟨v,_,rfl,hv,by omega,by omega,rfl⟩)) ?_)
 rw[Mi.mpr λ_ _=>rfl,show((v.1.length:Int)).toNat=v.1.length by omega]
 refine WS.freeze 4 rfl (aD (by rw[LJ,a8];omega)) ?_
 generalize hlv:(ups 0 v.1.length).map (ie v)=lv
 refine aj (cz 5 (r:=gC) (aP (av (aE CB hr (ag (dS hFP) aw) ⟨_,rfl,rfl⟩) aO) (by show 1<=N7;decide)) ?_)
 refine aj (cz 6 (r:=af) (ys:=[]) (aP aO (Np _)) ?_)
 refine aj (aU 7 (y:=((0:Nat):Int)) ev_int ?_)
 change WS _ _ [.im ah x,bQ ans,ao bound,.im lL v,.im (ae (ae (ae af))) lv,.mu gC [(0,0)],.mu af [],ao ((0:Nat):Int),.no,.no] _ _
 generalize hR:dt v ans bound.toNat SK=R at hlen
 refine bL (N1:=λΓ=>∃e7 e8 e9,Γ=[.im ah x,bQ ans,ao bound,.im lL v,.im (ae (ae (ae af))) lv,.mu gC [],.mu af R.1,e7,e8,e9]/\R=(R.1,("ended":Str),[]))
  (j2 (λm Γ=>∃(rows:Lh) (u:Nat) (st:gA) (e8 e9:Ent),Γ=[.im ah x,bQ ans,ao bound,.im lL v,.im (ae (ae (ae af))) lv,.mu gC st,.mu af rows,ao (u:Int),e8,e9]/\dt v ans m (rows,u,st)=R/\(rows.length:Int) + (m:Int)=bound/\mH v st/\st.length<=rows.length + 1/\u<=ans.length) (m0:=bound.toNat) ⟨[],0,[(0,0)],.no,.no,rfl,hR,by rw[Mc];omega,yL hv,Nm _,Np _⟩ ?_) ?_
 ·rintro m Γ ⟨rows,u,st,e8,e9,rfl,hw,hm,hs,hl,hu⟩
  have rl:rows.length<=100000:=by
   obtain⟨ex,h1,_⟩:=lA (v:=v) (ans:=ans) m (rows,u,st)
   rw[hw] at h1
   rw[h1,LL] at hlen
   have:rows.length + ex.length<=100000:=hlen
   omega
  refine⟨!st.isEmpty,_,jK 5 rfl,λh=>?_,λh=>?_⟩
  ·have Q7:st≠[]:=λe=>by rw[e] at h;cases h
   have lz:=qD Q7
   have et:=qZ Q7
   have te:=hs.el _ (List.getLast_mem Q7)
   rw[← et] at te lz
   have fne:=xv hv hs Q7
   have fl:=MR.mpr fne
   refine aj (bq (ay fD (oE 6 M.len rfl) (aa 2 rfl)) (λh=>?_) (λh=>aN ?_))
   ·have h:(rows.length:Int)=bound:=of_decide_eq_true h
    have m0:m=0:=by omega
    subst m0
    rw[oj Q7] at hw
    refine WS.freeze 5 rfl (aD (by omega)) (WS.freeze 6 rfl (aD (by omega)) ?_)
    refine ak (aX (gT (av (EV.DS (aa 6 rfl)) (av (EV.pS (mY hBO)) (av (EV.Ha (aa 5 rfl)) aO))) (by show 3<=N7;decide)) ?_)
    rw[← hw];rfl
   have h:¬(rows.length:Int)=bound:=of_decide_eq_false h
   obtain⟨m',rfl⟩:∃m',m=m' + 1:=⟨m - 1,by omega⟩
   have h1:bV lv (fo st).1=some (ie v (fo st).1):=by
    rw[← hlv,aQ (xs:=(ups 0 v.1.length).map (ie v)) [] te.1.1 (by rw[LJ,a8];exact te.1.2),LG,LM,md (by omega),show(((fo st).1.toNat:Nat):Int)=(fo st).1 by omega];rfl
   have h2:bV (ie v (fo st).1) (fo st).2=some (dD v st):=by
    have:=zL (v:=v) te.2.1 te.2.2
    have hl:=(LC.mp this).1
    rw[aQ (xs:=ie v (fo st).1) [] te.2.1 (by omega),LG,this];rfl
   refine aj (aU 8 (r:=ae af) (y:=dD v st) (aZ (aZ (aa 4 rfl) (r6 (lh 5 (gp ev_int) rfl rfl (mZ lz))) h1) (nJ (lh 5 (gp ev_int) rfl rfl (mZ lz))) h2) ?_)
   refine aj (aU 9 (y:=(dD v st).getD 0 0) (aZ (aa 8 rfl) ev_int (aQ (xs:=dD v st) (i:=0) 0 (LA _) (by omega))) ?_)
   change WS _ _ [.im ah x,bQ ans,ao bound,.im lL v,.im (ae (ae (ae af))) lv,.mu gC st,.mu af rows,ao (u:Int),bQ (dD v st),ao ((dD v st).getD 0 0)] _ _
   refine bL (N1:=λΓ=>∃(c:Int) (u':Nat),Γ=[.im ah x,bQ ans,ao bound,.im lL v,.im (ae (ae (ae af))) lv,.mu gC st,.mu af rows,ao (u':Int),bQ (dD v st),ao c]/\ig v ans u st=some (c,u')/\u'<=ans.length)
    (bq (ay fb (cJ M.len (aa 8 rfl)) ev_int) (λh=>?_) (λh=>aN ?_)) ?_
   ·have h:1 < ((dD v st).length:Int):=of_decide_eq_true h
    refine aj (bq (ay fD (aa 7 rfl) (cJ M.len (aa 1 rfl))) (λq=>?_) (λq=>aN ?_))
    ·have q:(u:Int)=(ans.length:Int):=of_decide_eq_true q
     have hn:eX v ans (rows,u,st)=none:=by
      unfold eX ig
      rw[if_pos (by show 1 < (dD v st).length;omega),Ma (show ans.length<=u by omega)];rfl
     rw[jF Q7 hn] at hw
     refine WS.freeze 5 rfl (aD (by omega)) (WS.freeze 6 rfl (aD (by omega)) ?_)
     refine ak (aX (gT (av (EV.DS (aa 6 rfl)) (av (EV.pS (mY hWA)) (av (EV.Ha (aa 5 rfl)) aO))) (by show 3<=N7;decide)) ?_)
     rw[← hw];rfl
    ·have q:¬(u:Int)=(ans.length:Int):=of_decide_eq_false q
     have ul:u < ans.length:=by omega
     have hau:ans[u]?=some ans[u]:=LD ul
     have TJ:=yB ha hau
     generalize ans[u]=b at hau TJ
     have RQ:bV ans (u:Int)=some b:=by rw[aQ (xs:=ans) 0 (by omega) (by omega),LG,show((u:Nat):Int).toNat=u by omega,hau];rfl
     refine aj (aU 9 (y:=(dD v st).getD (1 - b).toNat 0) (aZ (aa 8 rfl) (fL (dS hY) (aZ (aa 1 rfl) (aa 7 rfl) RQ)) (aQ (xs:=dD v st) (i:=1 - b) 0 (by omega) (by omega))) ?_)
     refine ak (xq 7 (a:=(u:Int)) (c:=1) ev_int rfl ⟨(dD v st).getD (1 - b).toNat 0,u + 1,?_,?_,ul⟩)
     ·rw[show((u + 1:Nat):Int)=(u:Int) + 1 by push_cast;rfl];rfl
     ·unfold ig
      rw[if_pos (by omega),hau];rfl
   ·have h:¬1 < ((dD v st).length:Int):=of_decide_eq_false h
    refine⟨_,u,rfl,?_,hu⟩
    unfold ig
    rw[if_neg (by omega)]
   rintro _ ⟨c,u',rfl,hc,Ug⟩
   have cm:=Cb hv ha hs Q7 hc
   obtain⟨c0,c1,c2⟩:=BN cm
   have hn:eX v ans (rows,u,st)=some (rows++[c],u',ip st (rowOf v c)):=by unfold eX;rw[hc];rfl
   rw[jY Q7 hn] at hw
   have gk:mH v (ip st (rowOf v c))/\(ip st (rowOf v c)).length<=st.length + 1:=HH hv hs Q7 c2
   refine aj (eh 6 (y:=c) (aa 9 rfl) rfl rfl (Nr rl (by decide)) ?_)
   refine ak (nW (gQ 5 (st:=ip st (rowOf v c)) (rr:=mR) (z:=()) CG hr (ag (aZ (nJ (aa 3 rfl)) (aa 9 rfl) (aQ By c0 c1)) aw) rfl rfl ⟨_,rfl,Q7,by omega,rfl⟩) ?_)
   refine⟨m',by omega,rows++[c],u',ip st (rowOf v c),_,_,rfl,hw,?_,gk.1,?_,Ug⟩
   ·rw[LL,L9];push_cast;push_cast at hm;omega
   ·rw[LL,L9];omega
  ·have Q7:st=[]:=by
    cases st with
    | nil=>rfl
    | cons a b=>cases h
   subst Q7
   rw[kX rfl] at hw
   exact⟨ao (u:Int),e8,e9,by rw[← hw],by rw[← hw]⟩
 ·rintro _ ⟨e7,e8,e9,rfl,he⟩
  refine WS.freeze 5 rfl (Np _) (WS.freeze 6 rfl (aD (by omega)) ?_)
  refine ak (aX (gT (av (EV.DS (aa 6 rfl)) (av (EV.pS (mY hEN)) (av (EV.Ha (aa 5 rfl)) aO))) (by show 3<=N7;decide)) ?_)
  unfold jJ
  rw[he]
end
theorem BM {ans:Lh}(h:∀a∈ans,a=0∨a=1):lK ans=true:=by
 unfold lK
 rw[MJ]
 intro b hb
 obtain⟨a,ha,rfl⟩:=LY.mp hb
 rcases h a (Mj.mp ha).1 with rfl | rfl<;>decide
def iZ (ns:Lh)(k:Int):Nat:=(QZ ns k / 3 % 41).toNat
def jx (ns:Lh)(k j:Int):Int:=if QZ ns k % 3 < QZ ns (k + 1 + j) % 4 then 1 else 0
def SF (ns:Lh)(k:Int):Lh:=(ups 0 (iZ ns k)).map (jx ns k)
theorem zm (ns:Lh)(k:Int):∀a∈SF ns k,a=0∨a=1:=λa ha=>by
 unfold SF at ha
 obtain⟨j,_,rfl⟩:=LY.mp ha
 unfold jx
 split
 ·exact .inr rfl
 ·exact .inl rfl
theorem uQ (ns:Lh)(k:Int):iZ ns k<=40:=by unfold iZ;omega
theorem qu (ns:Lh)(k:Int):(SF ns k).length<=40:=by unfold SF;rw[LJ,a8];exact uQ ns k
section
abbrev BC:Stmt:=top nS
abbrev nAN:Li:=["_law_script","_law_k","_law_number","_law_lean","_law_bits","_law_j","_law_bit"]
theorem FZ:aH nAN ["_law_script","_law_k"] (ai BC):=Rp
def J1:cQ:=λK ps T=>∃(ns:Lh) (k:Int),ps=[⟨bu,ns⟩,⟨af,k⟩]/\ur ns/\0<=k/\k<=10000/\T=pA K af (· =SF ns k)
theorem I0 (M:bY K mg)(CM:aI P w K mg base "_law_mixed" 1 (aK Bq K))(F:bD K "_law_answers" "_law_answers" BC f fd)(hm:mg "_law_answers"=some (.ref f))(hb:Binds K fd ["_law_script","_law_k"] []):aI P w K mg base "_law_answers" 2 (aK J1 K):=by
 have nd:=FZ.nd
 refine bw (k:=1) F FZ hm hb (λqs T ⟨_,_,e,_⟩=>by rw[e];rfl) (λQ2 A outer s H E qs T hr hS=>?_)
 obtain⟨ns,k,rfl,hs,k0,k1,rfl⟩:=hS
 have bd:=iJ ns k
 have hle:=uQ ns k
 change WS _ _ [.im bu ns,ao k,.no,.no,.no,.no,.no] _ _
 refine aj (aU 2 (y:=QZ ns k) (aE CM hr (ag (aa 0 rfl) (ag (aa 1 rfl) aw)) ⟨ns,k,rfl,hs,k0,by omega,rfl⟩) ?_)
 refine aj (aU 3 (y:=QZ ns k % 3) (bN (aa 2 rfl) ev_int (by decide)) ?_)
 refine aj (cz 4 (r:=af) (ys:=[]) (aP aO (Np _)) ?_)
 change WS _ _ [.im bu ns,ao k,ao (QZ ns k),ao (QZ ns k % 3),.mu af [],.no,.no] _ _
 refine bL (N1:=λΓ=>∃e5 e6,Γ=[.im bu ns,ao k,ao (QZ ns k),ao (QZ ns k % 3),.mu af (SF ns k),e5,e6]) (cC (λi Γ=>∃e5 e6,Γ=[.im bu ns,ao k,ao (QZ ns k),ao (QZ ns k % 3),.mu af (((ups 0 (iZ ns k)).take i).map (jx ns k)),e5,e6]) (cV M.range (bN (ky (aa 2 rfl) ev_int ⟨by decide,by decide⟩) ev_int (by decide)) ⟨by omega,by omega⟩) (aY 5) ⟨_,_,rfl⟩ (λi j Γ hj hΓ=>?_) (λΓ hΓ=>?_)) ?_
 ·obtain⟨e5,e6,rfl⟩:=hΓ
  have hj2:(ups 0 (iZ ns k))[i]?=some j:=hj
  obtain⟨jl,ej⟩:=dY hj
  have jl:i < iZ ns k:=jl
  have Si:((ups 0 (iZ ns k)).take (i + 1)).map (jx ns k)=((ups 0 (iZ ns k)).take i).map (jx ns k)++[jx ns k j]:=by rw[Mm,hj2,L5];rfl
  rw[Si]
  have tl:(((ups 0 (iZ ns k)).take i).map (jx ns k)).length<=40:=by rw[LJ,L0];omega
  generalize ((ups 0 (iZ ns k)).take i).map (jx ns k)=bs at tl
  change WS _ _ [.im bu ns,ao k,ao (QZ ns k),ao (QZ ns k % 3),.mu af bs,ao j,e6] _ _
  refine aj (aU 6 (y:=QZ ns (k + 1 + j) % 4) (bN (aE CM hr (ag (aa 0 rfl) (ag (bK (bK (aa 1 rfl) ev_int) (aa 5 rfl)) aw)) ⟨ns,k + 1 + j,rfl,hs,by omega,by omega,rfl⟩) ev_int (by decide)) ?_)
  refine ak (eh 4 (y:=jx ns k j) (EV.cast (uo M.int (dN fb (aa 6 rfl) (aa 3 rfl))) ?_) rfl rfl (Nr tl (by decide)) ⟨_,_,rfl⟩)
  unfold jx
  simp only[decide_eq_true_eq]
 ·obtain⟨e5,e6,rfl⟩:=hΓ
  refine⟨e5,e6,?_⟩
  rw[a8]
  rw[show(QZ ns k / 3 % 41).toNat=iZ ns k from rfl,MC (by rw[a8];exact Nm _)]
  rfl
 rintro _ ⟨e5,e6,rfl⟩
 exact ak (Du 4 rfl (aD (by have:=qu ns k;omega)) rfl)
end
section
variable {v:eV}{ans:Lh}{s:jb}{b:Lh}
theorem Cf {s':jb}(h:eX v ans s=some s'):eX v (ans++b) s=some s':=by
 unfold eX at h ⊢
 obtain⟨c,hc,rfl⟩:=NO.mp h
 refine NO.mpr ⟨c,?_,rfl⟩
 unfold ig at hc ⊢
 split at hc
 ·rename_i q
  rw[if_pos q]
  obtain⟨a,ha,rfl⟩:=NO.mp hc
  rw[L4 (LC.mp ha).1,ha];rfl
 ·rename_i q
  rw[if_neg q];exact hc
theorem Dt {s':jb}(hu:s.2.1<=ans.length)(h:eX v ans s=some s'):s'.2.1<=ans.length:=by
 unfold eX at h
 obtain⟨c,hc,rfl⟩:=NO.mp h
 unfold ig at hc
 split at hc
 ·obtain⟨a,ha,rfl⟩:=NO.mp hc
  exact(LC.mp ha).1
 ·cases Option.some.inj hc;exact hu
theorem Dv (hu:s.2.1<=ans.length)(hb:b≠[])(h:eX v ans s=none):∃s',eX v (ans++b) s=some s':=by
 unfold eX at h ⊢
 have hc:ig v ans s.2.1 s.2.2=none:=by
  cases q:ig v ans s.2.1 s.2.2 with
  | none=>rfl
  | some c=>rw[q] at h;cases h
 unfold ig at hc ⊢
 split at hc
 ·rename_i q
  rw[if_pos q]
  have:ans[s.2.1]?=none:=by
   cases e:ans[s.2.1]? with
   | none=>rfl
   | some c=>rw[e] at hc;cases hc
  have hl:=List.getElem?_eq_none_iff.mp this
  have bl:=MR.mpr hb
  have:s.2.1 < (ans++b).length:=by rw[LL];omega
  rw[LD this]
  exact⟨_,rfl⟩
 ·cases hc
theorem sV {v:eV}{ans:Lh}:∀(n:Nat) (s:jb),s.2.1<=ans.length->∃(k:Nat) (s':jb),k<=n/\s'.1.length=s.1.length + k/\s'.2.1<=ans.length/\(∀(b:Lh) (m:Nat),n<=m->dt v (ans++b) m s=dt v (ans++b) (m - k) s')/\
 ((s'.2.2=[]/\dt v ans n s=(s'.1,("ended":Str),[]))∨(s'.2.2≠[]/\k=n/\dt v ans n s=(s'.1,("bound":Str),s'.2.2))∨(s'.2.2≠[]/\k < n/\eX v ans s'=none/\dt v ans n s=(s'.1,("wanting":Str),s'.2.2)))
 | 0,s,hu=>by
   refine⟨0,s,Nm _,rfl,hu,λb m _=>rfl,?_⟩
   by_cases h:s.2.2=[]
   ·exact .inl ⟨h,kX h⟩
   ·exact .inr (.inl ⟨h,rfl,oj h⟩)
 | n + 1,s,hu=>by
   by_cases h:s.2.2=[]
   ·exact⟨0,s,Np _,rfl,hu,λb m _=>rfl,.inl ⟨h,kX h⟩⟩
   cases q:eX v ans s with
   | none=>exact⟨0,s,Np _,rfl,hu,λb m _=>rfl,.inr (.inr ⟨h,Nat.succ_pos _,q,jF h q⟩)⟩
   | some s1=>
     obtain⟨k,s',h1,h2,h3,h4,h5⟩:=sV (v:=v) (ans:=ans) n s1 (Dt hu q)
     obtain⟨c,hc⟩:=rZ q
     refine⟨k + 1,s',by omega,?_,h3,λb m hm=>?_,?_⟩
     ·rw[h2,hc,LL,L9];omega
     ·obtain⟨m',rfl⟩:∃m',m=m' + 1:=⟨m - 1,by omega⟩
      rw[jY h (Cf q),h4 b m' (by omega)]
      congr 1
      omega
     ·rw[jY h q]
      rcases h5 with h5 | h5 | h5
      ·exact .inl h5
      ·exact .inr (.inl ⟨h5.1,by omega,h5.2.2⟩)
      ·exact .inr (.inr ⟨h5.1,by omega,h5.2.2⟩)
structure F7 (h t:Wk) (bound more most:Int):Prop where
 pre:t.1.take h.1.length=h.1
 l0:h.1.length<=t.1.length
 l1:(h.1.length:Int)<=bound
 l2:(t.1.length:Int)<=most
 en:h.2.1="ended"->t=h
 bo:h.2.1="bound"->(h.1.length:Int)=bound/\(most=bound->t=h)/\(most=bound∨bound < (t.1.length:Int)∨t.2.1≠"bound")
 wa:h.2.1≠"ended"->h.2.1≠"bound"->h.2.1="wanting"/\(h.1.length < t.1.length∨(more=0/\t=h))
theorem mB {m:Nat}(h:s.2.2≠[])(hn:eX v ans s≠none):s.1.length < (dt v ans (m + 1) s).1.length:=by
 cases q:eX v ans s with
 | none=>exact absurd q hn
 | some s'=>
   rw[jY h q]
   obtain⟨ex,h1,_⟩:=lA (v:=v) (ans:=ans) m s'
   obtain⟨c,hc⟩:=rZ q
   rw[h1,hc,LL,LL,L9];omega
theorem goP {n m:Nat}(Um:n<=m)(VG:b=[]∨m=n):F7 (dt v ans n SK) (dt v (ans++b) m SK) (n:Int) (b.length:Int) (m:Int):=by
 obtain⟨k,s',h1,h2,h3,h4,h5⟩:=sV (v:=v) (ans:=ans) n SK (Np _)
 have h2:s'.1.length=k:=by rw[h2];show 0 + k=k;omega
 have e:=h4 b m Um
 obtain⟨ex,p1,p2⟩:=lA (v:=v) (ans:=ans++b) (m - k) s'
 have n1:("bound":Str)≠"ended":=by decide
 have n2:("wanting":Str)≠"ended":=by decide
 have n3:("wanting":Str)≠"bound":=by decide
 have n4:("ended":Str)≠"bound":=by decide
 rw[e]
 have tl:(dt v (ans++b) (m - k) s').1.length=k + ex.length:=by rw[p1,LL,h2]
 have r1:(dt v ans n SK).1=s'.1:=by
  rcases h5 with⟨_,q⟩ | ⟨_,_,q⟩ | ⟨_,_,_,q⟩<;>rw[q]
 refine⟨by rw[r1,p1,List.take_left' rfl],by rw[r1,tl,h2];omega,by rw[r1,h2];omega,by rw[tl];omega,λq=>?_,λq=>?_,λq q'=>?_⟩
 ·rcases h5 with⟨a,c⟩ | ⟨_,_,c⟩ | ⟨_,_,_,c⟩
  ·rw[kX a,c]
  ·rw[c] at q;exact absurd q n1
  ·rw[c] at q;exact absurd q n2
 ·rcases h5 with⟨a,c⟩ | ⟨a,a2,c⟩ | ⟨_,_,_,c⟩
  ·rw[c] at q;exact absurd q n4
  ·refine⟨by rw[r1,h2,a2],λz=>?_,?_⟩
   ·have:m=n:=by omega
    rw[c,this,a2,Nat.sub_self,oj a]
   ·by_cases z:m=n
    ·exact .inl (by omega)
    ·obtain⟨d,hd⟩:∃d,m - k=d + 1:=⟨m - k - 1,by omega⟩
     rw[hd]
     by_cases z2:eX v (ans++b) s'=none
     ·rw[jF a z2];exact .inr (.inr n3)
     ·refine .inr (.inl ?_)
      have:=mB (m:=d) a z2
      omega
  ·rw[c] at q;exact absurd q n3
 ·rcases h5 with⟨a,c⟩ | ⟨a,a2,c⟩ | ⟨a,a2,a3,c⟩
  ·rw[c] at q;exact absurd rfl q
  ·rw[c] at q';exact absurd rfl q'
  ·refine⟨by rw[c],?_⟩
   obtain⟨d,hd⟩:∃d,m - k=d + 1:=⟨m - k - 1,by omega⟩
   rw[hd,r1]
   by_cases z:b=[]
   ·subst z
    rw[Mh,jF a a3,c]
    exact .inr ⟨rfl,rfl⟩
   ·obtain⟨s2,RA⟩:=Dv h3 z a3
    exact .inl (mB a (by rw[RA];simp))
theorem pk:∀xs:Lh,PV.eu (xs.map PV.int)=0
 | []=>by rw[Nb,PV.eu]
 | x::xs=>by rw[Me,PV.eu,pk xs];simp[PV.deep]
theorem pF:∀xs:Ln,PV.eu (xs.map oB)<=1
 | []=>by rw[Nb,PV.eu];omega
 | x::xs=>by
   have:=pF xs
   rw[Me,PV.eu]
   have e:PV.deep (oB x)=1:=by unfold oB;simp[PV.deep,PV.eu]
   omega
theorem m7 (x:Wk):(jJ x).deep<=3:=by
 have h1:=pk x.1
 have h2:=pF x.2.2
 unfold jJ
 simp only[PV.deep,PV.eu,h1]
 omega
theorem Bi {A:Od}{k n:Nat}(hr:bI k A)(h:n<=9):A.units + n < cLine:=by have:=hr.un;omega
end
section
abbrev Bn:Stmt:=top nL
abbrev Hb:Li:=["_law_here","_law_there","_law_bound","_law_more","_law_most"]
theorem Fm:aH Hb Hb (ai Bn):=Rp
def JH:cQ:=λK ps T=>∃(h t:Wk) (bound more most:Int),ps=[⟨ax,jJ h⟩,⟨ax,jJ t⟩,⟨af,bound⟩,⟨af,more⟩,⟨af,most⟩]/\F7 h t bound more most/\T=cg K bZ (· =true)
theorem Im (M:bY K mg)(F:bD K "_law_goes_on" "_law_goes_on" Bn f fd)(hm:mg "_law_goes_on"=some (.ref f))(hb:Binds K fd Hb []):aI P w K mg base "_law_goes_on" 1 (aK JH K):=by
 have nd:=Fm.nd
 refine bw (k:=0) F Fm hm hb (λqs T ⟨_,_,_,_,_,e,_⟩=>by rw[e];rfl) (λQ2 A outer s H E qs T hr hS=>?_)
 obtain⟨h,t,bound,more,most,rfl,g,rfl⟩:=hS
 change WS _ _ [.im ax (jJ h),.im ax (jJ t),ao bound,ao more,ao most] _ _
 have l1:=g.l1
 have l2:=g.l2
 have e1:cut t.1 none (some (h.1.length:Int))=h.1:=by rw[ye g.l0,g.pre]
 refine aj (bq (k:=false) (TW.tv (jj (x:=false) (y:=false) (TV.cast (ay (Hz eq_int (Bi hr (by decide))) (aW.im (fg (EV.nG (xs:=t.1) (bG (aa 1 rfl) ev_int rfl)) ov_none (ov_some (cJ M.len (EV.nG (xs:=h.1) (bG (aa 0 rfl) ev_int rfl)))))) (EV.nG (xs:=h.1) (bG (aa 0 rfl) ev_int rfl))) (by rw[e1];simp)) (λ_=>jj (x:=false) (y:=false) (TV.cast (ay fb (cJ M.len (EV.nG (xs:=h.1) (bG (aa 0 rfl) ev_int rfl))) (aa 2 rfl)) (by simpa using l1)) (λ_=>jP (TV.cast (ay fb (cJ M.len (EV.nG (xs:=t.1) (bG (aa 1 rfl) ev_int rfl))) (aa 4 rfl)) (by simpa using l2)))))) (λq=>by cases q) (λ_=>aN ?_))
 refine aj (bq (ay cb (EV.sP (x:=h.2.1) (bG (aa 0 rfl) ev_int rfl)) aA) (λq=>?_) (λq=>aN ?_))
 ·have q:h.2.1="ended":=of_decide_eq_true q
  have e:=g.en q
  exact ak (aX (dN (xk (x:=jJ h) (.inl ⟨_,rfl⟩) (Bi hr (Nn (m7 h) (by decide)))) (EV.cast (aa 1 rfl) (by rw[e])) (aa 0 rfl)) rfl)
 have q1:h.2.1≠"ended":=of_decide_eq_false q
 refine aj (bq (ay cb (EV.sP (x:=h.2.1) (bG (aa 0 rfl) ev_int rfl)) aA) (λq=>?_) (λq=>aN ?_))
 ·have q:h.2.1="bound":=of_decide_eq_true q
  obtain⟨b1,b2,b3⟩:=g.bo q
  refine aj (bq (k:=false) (TV.cast (TW.tv (jj (x:=false) (y:=decide (most=bound)&&false) (TV.cast (ay Gs (cJ M.len (EV.nG (xs:=h.1) (bG (aa 0 rfl) ev_int rfl))) (aa 2 rfl)) (by simpa using b1)) (λ_=>jP (TW.tv (cK (ay fD (aa 4 rfl) (aa 2 rfl)) (λz=>du (ay (GA (x:=jJ h) (.inl ⟨_,rfl⟩) (Bi hr (Nn (m7 h) (by decide)))) (EV.cast (aa 1 rfl) (by rw[b2 (of_decide_eq_true z)])) (aa 0 rfl)))))))) (by simp)) (λq=>by cases q) (λ_=>aN ?_))
  refine ak (aX (vJ (dN fD (aa 4 rfl) (aa 2 rfl)) (λ_=>vJ (dN fb (cJ M.len (EV.nG (xs:=t.1) (bG (aa 1 rfl) ev_int rfl))) (aa 2 rfl)) (λ_=>lH (dN qf (EV.sP (x:=t.2.1) (bG (aa 1 rfl) ev_int rfl)) aA)))) ?_)
  rcases b3 with z | z | z<;>simp[z]
 have q2:h.2.1≠"bound":=of_decide_eq_false q
 obtain⟨w1,w2⟩:=g.wa q1 q2
 refine aj (bq (ay qf (EV.sP (x:=h.2.1) (bG (aa 0 rfl) ev_int rfl)) aA) (λq=>?_) (λq=>aN ?_))
 ·rw[w1] at q;exact absurd q (by decide +kernel)
 refine ak (aX (vJ (y:=decide (more=0)&&true) (dN fb (cJ M.len (EV.nG (xs:=t.1) (bG (aa 1 rfl) ev_int rfl))) (cJ M.len (EV.nG (xs:=h.1) (bG (aa 0 rfl) ev_int rfl)))) (λz=>lH (tG (dN fD (aa 3 rfl) ev_int) (λz2=>lH (dN (xk (x:=jJ h) (.inl ⟨_,rfl⟩) (Bi hr (Nn (m7 h) (by decide)))) (EV.cast (aa 1 rfl) ?_) (aa 0 rfl)))))) ?_)
 ·have z:=of_decide_eq_false z
  rcases w2 with c | c
  ·exact absurd (by omega) z
  ·rw[c.2]
 ·rcases w2 with c | c
  ·have:(h.1.length:Int) < (t.1.length:Int):=by omega
   simp[this]
  ·simp[c.1]
end
theorem Cu {α:Type}{xs:List α}{l h:Option Int}{x:α}(hx:x∈cut xs l h):x∈xs:=by
 unfold cut at hx
 exact List.mem_of_mem_drop (MW hx)
theorem F5 {v:eV}{ans b:Lh}{bound most:Int}(h0:0<=bound)(h1:bound<=most)(VG:b=[]∨most=bound):F7 (dt v ans bound.toNat SK) (dt v (ans++b) most.toNat SK) bound (b.length:Int) most:=by
 have:=goP (v:=v) (ans:=ans) (b:=b) (n:=bound.toNat) (m:=most.toNat) (by omega) (VG.imp id λe=>by rw[e])
 rwa [show((bound.toNat:Nat):Int)=bound by omega,show((most.toNat:Nat):Int)=most by omega] at this
theorem Ak {v:eV}{ans:Lh}{n:Int}(h:n<=1000):(dt v ans n.toNat SK).1.length<=100000:=by
 obtain⟨ex,h1,h2⟩:=lA (v:=v) (ans:=ans) n.toNat SK
 rw[h1,LL]
 show 0 + ex.length<=100000
 omega
def Ux (ns:Lh)(k:Int):Lh:=(ups 0 6).map λj=>QZ ns (350 + 6 * k + j)
theorem rO (ns:Lh)(k:Int){j:Nat}(h:j < 6):bV (Ux ns k) (j:Int)=some (QZ ns (350 + 6 * k + (j:Int))):=by
 rw[aQ (xs:=Ux ns k) 0 (by omega) (by unfold Ux;rw[LJ,a8];omega)]
 unfold Ux
 rw[LG,LM,show((j:Nat):Int).toNat=j by omega,md h];rfl
section
abbrev lq:Stmt:=top D1
abbrev E7:Li:=["_law_script","_law_names","_law_lists","_law_text_here","_law_answers_here","_law_k","_law_draws","_law_some","_law_more","_law_bound","_law_most","_law_here"]
theorem GZ:aH E7 ["_law_script"] (ai lq):=Rp
def sX:cQ:=λK ps T=>∃ns:Lh,ps=[⟨bu,ns⟩]/\ns.length<=63/\(∀n∈ns,intBits n<=2 ^ 20)/\T=cg K bZ (· =true)
theorem Iv (M:bY K mg)(M4:gX mg)(CM:aI P w K mg base "_law_mixed" 1 (aK Bq K))(CD:aI P w K mg base "_law_drawn" 17 (aK JE K))(CT:aI P w K mg base "_law_text" 7 (aK JA K))(CA:aI P w K mg base "_law_answers" 2 (aK J1 K))(CW:aI P w K mg base "walked" 8 (aK DU K))(CG:aI P w K mg base "_law_goes_on" 1 (aK JH K))(F:bD K "law" "law" lq f fd):dz P w K mg base ee 18 f fd ["_law_script"] (aK sX K):=by
 have nd:=GZ.nd
 have Su:L3 [("_law_j":Str),"_law_script","_law_k"]:=by decide
 have Tn:L3 [("_law_j":Str),"_law_k","_law_script"]:=by decide
 have ndc3:L3 [("_law_draw":Str)]:=by decide
 have CM:=CM.mono (show 1<=17 by decide)
 have CT:=CT.mono (show 7<=17 by decide)
 have CA:=CA.mono (show 2<=17 by decide)
 have CW:=CW.mono (show 8<=17 by decide)
 have CG:=CG.mono (show 1<=17 by decide)
 refine G0 (k:=17) F GZ (λqs T ⟨_,e,_⟩=>by rw[e];rfl) (λQ2 A outer s H E qs T hr hS=>?_)
 obtain⟨ns,rfl,h63,SE,rfl⟩:=hS
 have hs:ur ns:=⟨h63,SE⟩
 change WS _ _ [.im bu ns,.no,.no,.no,.no,.no,.no,.no,.no,.no,.no,.no] _ _
 refine aj (EH 1 2 (aE CD hr (ag (aa 0 rfl) (ag ev_int aw)) ⟨ns,0,rfl,hs,LA _,by decide,rfl⟩) ?_)
 have hP:=BQ ns 0
 generalize RU ns 0=names at hP
 generalize Sg ns 0=Ls at hP
 change WS _ _ [.im bu ns,.im (ae ah) names,.im (ae (ae ax)) (Ls.map br),.no,.no,.no,.no,.no,.no,.no,.no,.no] _ _
 refine aj (aU 3 (y:=Qq " " (ij names Ls)) (aE CT hr (ag (aa 1 rfl) (ag (aa 2 rfl) aw)) ⟨names,Ls,rfl,hP,rfl⟩) ?_)
 refine aj (cz 4 (r:=af) (ys:=SF ns 300) (sW CA hr (ag (aa 0 rfl) (ag ev_int aw)) ⟨ns,300,rfl,hs,by decide,by decide,rfl⟩) ?_)
 have al:=qu ns 300
 have ab:=zm ns 300
 refine WS.freeze 4 rfl (aD (by omega)) ?_
 generalize SF ns 300=ans at al ab
 obtain⟨hk,hG⟩:=rB hP
 have hwb:=A2 hP
 have hwk:=Jf hP hG
 have hx:=Dn hP
 have walk:∀(as:Lh) (bound:Int),(∀a∈as,a=0∨a=1)->0<=bound->bound<=1000->DU K [⟨ah,Qq " " (ij names Ls)⟩,⟨ae af,as⟩,⟨af,bound⟩] (cg K ax (· =jJ (dt (RC (Q0 (aq names Ls) (bz names Ls))) as bound.toNat SK))):=λas bound h1 h2 h3=>⟨_,as,bound,aq names Ls,bz names Ls,rfl,hx,hk,hG,hwb,hwk,BM h1,h2,Ak h3,rfl⟩
 generalize RC (Q0 (aq names Ls) (bz names Ls))=v at walk
 generalize Qq " " (ij names Ls)=x at walk
 change WS _ _ [.im bu ns,.im (ae ah) names,.im (ae (ae ax)) (Ls.map br),.im ah x,bQ ans,.no,.no,.no,.no,.no,.no,.no] _ _
 refine bL (N1:=λΓ=>∃e5 e6 e7 e8 e9 Uw T9,Γ=[.im bu ns,.im (ae ah) names,.im (ae (ae ax)) (Ls.map br),.im ah x,bQ ans,e5,e6,e7,e8,e9,Uw,T9]) (cC (λi Γ=>∃e5 e6 e7 e8 e9 Uw T9,Γ=[.im bu ns,.im (ae ah) names,.im (ae (ae ax)) (Ls.map br),.im ah x,bQ ans,e5,e6,e7,e8,e9,Uw,T9]) (cV M.range (Dc M4.max (ag ev_int (ag (uS M.min (ag ev_int (ag (lW M.len (aa 0 rfl)) aw))) aw))) ⟨by omega,by omega⟩) (aY 5) ⟨_,_,_,_,_,_,_,rfl⟩ (λi j Γ hj hΓ=>?_) (λΓ hΓ=>hΓ)) ?_
 ·obtain⟨e5,e6,e7,e8,e9,Uw,T9,rfl⟩:=hΓ
  obtain⟨jl,ej⟩:=dY hj
  have jl:i < 100:=by omega
  obtain rfl:j=(i:Int):=by omega
  change WS _ _ [.im bu ns,.im (ae ah) names,.im (ae (ae ax)) (Ls.map br),.im ah x,bQ ans,ao (i:Int),e6,e7,e8,e9,Uw,T9] _ _
  refine aj (hJ 6 (own:=["_law_j"]) (fr:=["_law_k","_law_script"]) (ix:=[5,0]) (ra:=af) (rb:=af) (p:=λ_=>true) (f:=λj=>QZ ns (350 + 6 * (i:Int) + j)) (bH (so:=ai lq) (N0:=E7) rfl rfl (λx h=>bh h) (by decide +kernel)) (cV M.range ev_int ⟨by decide,by decide⟩)
   (λC s H ex=>aY 0) (λx=>⟨.inr rfl,.inl rfl,.inl rfl,trivial⟩) (λC' s H ex c hc=>dg) (λC' s' H ex o ho _=>by
    obtain⟨n,hn⟩:=LX.mp ho
    obtain⟨nl,rfl⟩:=dY hn
    have nl:n < 6:=nl
    exact aE CM hr (ag (aa 2 rfl) (ag (bK (bK ev_int (yk ev_int (aa 1 rfl) (.inl (by decide)))) (aa 0 rfl)) aw)) ⟨ns,_,rfl,hs,by omega,by omega,rfl⟩) ?_)
  rw[Mi.mpr λ_ _=>rfl]
  change WS _ _ [.im bu ns,.im (ae ah) names,.im (ae (ae ax)) (Ls.map br),.im ah x,bQ ans,ao (i:Int),.mu af (Ux ns (i:Int)),e7,e8,e9,Uw,T9] _ _
  have d0:=rO ns (i:Int) (j:=0) (by decide)
  have d4:=rO ns (i:Int) (j:=4) (by decide)
  have d5:=rO ns (i:Int) (j:=5) (by decide)
  have b0:=iJ ns (350 + 6 * (i:Int) + ((0:Nat):Int))
  have b4:=iJ ns (350 + 6 * (i:Int) + ((4:Nat):Int))
  have b5:=iJ ns (350 + 6 * (i:Int) + ((5:Nat):Int))
  have dl:(Ux ns (i:Int)).length=6:=by unfold Ux;rw[LJ,a8]
  refine WS.freeze 6 rfl (aD (by omega)) ?_
  generalize Ux ns (i:Int)=ds at d0 d4 d5 dl
  generalize QZ ns (350 + 6 * (i:Int) + ((0:Nat):Int))=m0 at d0 b0
  generalize QZ ns (350 + 6 * (i:Int) + ((4:Nat):Int))=m4 at d4 b4
  generalize QZ ns (350 + 6 * (i:Int) + ((5:Nat):Int))=m5 at d5 b5
  refine aj (cz 7 (r:=af) (fg (aa 4 rfl) ov_none (ov_some (bN (aZ (aa 6 rfl) ev_int d0) (bK (cJ M.len (aa 4 rfl)) ev_int) (by omega)))) ?_)
  have sb:∀a∈cut ans none (some (m0 % ((ans.length:Int) + 1))),a=0∨a=1:=λa ha=>ab a (Cu ha)
  have sl:=kK ans none (some (m0 % ((ans.length:Int) + 1)))
  refine WS.freeze 7 rfl (aD (by omega)) ?_
  generalize cut ans none (some (m0 % ((ans.length:Int) + 1)))=so at sb sl
  change WS _ _ [.im bu ns,.im (ae ah) names,.im (ae (ae ax)) (Ls.map br),.im ah x,bQ ans,ao (i:Int),bQ ds,bQ so,e8,e9,Uw,T9] _ _
  refine aj (hJ 8 (own:=["_law_draw"]) (fr:=[]) (ix:=[]) (ra:=af) (rb:=af) (p:=λ_=>true) (f:=λd=>d % 2) (bH (so:=ai lq) (N0:=E7) rfl rfl (λx h=>bh h) (by decide +kernel)) (bR (aW.im (fg (aa 6 rfl) (ov_some ev_int) (ov_some (bK ev_int (bN (aZ (aa 6 rfl) ev_int d4) ev_int (by decide)))))))
   (λC s H ex=>aY 0) (λx=>⟨.inr rfl,trivial⟩) (λC' s H ex c hc=>dg) (λC' s' H ex o ho _=>bN (aa 0 rfl) ev_int (by decide)) ?_)
  rw[Mi.mpr λ_ _=>rfl]
  have mb:∀a∈(cut ds (some 1) (some (1 + m4 % 4))).map (λd=>d % 2),a=0∨a=1:=λa ha=>by
   obtain⟨d,_,rfl⟩:=LY.mp ha
   omega
  have ml:((cut ds (some 1) (some (1 + m4 % 4))).map (λd=>d % 2)).length<=6:=by
   rw[LJ]
   have:=kK ds (some 1) (some (1 + m4 % 4))
   omega
  refine WS.freeze 8 rfl (aD (by omega)) ?_
  generalize (cut ds (some 1) (some (1 + m4 % 4))).map (λd=>d % 2)=mo at mb ml
  refine aj (aU 9 (y:=m5 % 81) (bN (aZ (aa 6 rfl) ev_int d5) ev_int (by decide)) ?_)
  refine aj (aU 10 (y:=m5 % 81 + m5 / 81 % 6) (bK (aa 9 rfl) (bN (ky (aZ (aa 6 rfl) ev_int d5) ev_int ⟨by decide,by decide⟩) ev_int (by decide))) ?_)
  have q1:0<=m5 % 81/\m5 % 81<=80:=by omega
  have q2:0<=m5 / 81 % 6/\m5 / 81 % 6<=5:=by omega
  generalize m5 % 81=bo at q1
  generalize m5 / 81 % 6=ex at q2
  change WS _ _ [.im bu ns,.im (ae ah) names,.im (ae (ae ax)) (Ls.map br),.im ah x,bQ ans,ao (i:Int),bQ ds,bQ so,bQ mo,ao bo,ao (bo + ex),T9] _ _
  refine aj (aU 11 (r:=ax) (y:=jJ (dt v so bo.toNat SK)) (aE CW hr (ag (aa 3 rfl) (ag (aW.im (qT M.list (aa 7 rfl))) (ag (aa 9 rfl) aw))) (walk so bo sb q1.1 (by omega))) ?_)
  refine aj (bq (fc (dG (aE CG hr (ag (aa 11 rfl) (ag (aE CW hr (ag (aa 3 rfl) (ag (aW.im (qT M.list (aa 7 rfl))) (ag (aa 10 rfl) aw))) (walk so (bo + ex) sb (by omega) (by omega))) (ag (aa 9 rfl) (ag ev_int (ag (aa 10 rfl) aw))))) ⟨_,_,_,_,_,rfl,?_,rfl⟩))) (λh=>by cases h) (λ_=>aN ?_))
  ·have:=F5 (v:=v) (ans:=so) (b:=[]) (bound:=bo) (most:=bo + ex) q1.1 (by omega) (.inl rfl)
   rwa [Mh] at this
  refine ak (bq (fc (dG (aE CG hr (ag (aa 11 rfl) (ag (aE CW hr (ag (aa 3 rfl) (ag (aW.im (bU (aa 7 rfl) (aa 8 rfl) (aD (by omega)))) (ag (aa 9 rfl) aw))) (walk (so++mo) bo (λa ha=>(LW.mp ha).elim (sb a) (mb a)) q1.1 (by omega))) (ag (aa 9 rfl) (ag (cJ M.len (aa 8 rfl)) (ag (aa 9 rfl) aw))))) ⟨_,_,_,_,_,rfl,?_,rfl⟩))) (λh=>by cases h) (λ_=>aN ⟨_,_,_,_,_,_,_,rfl⟩))
  exact F5 (v:=v) (ans:=so) (b:=mo) (bound:=bo) (most:=bo) q1.1 (LA _) (.inr rfl)
 rintro _ ⟨e5,e6,e7,e8,e9,Uw,T9,rfl⟩
 exact ak (aX me rfl)
end
section
variable {h:Heap}{t1 t2:Tok}{oc:Value}{od an:Option Addr}{S3:Array Lj}{doc pm Q2 ct:Value}
def vP (K:QA)(mg:Lf):Prop:=∃C fi SV,bA K C f9/\Mk K C fi/\mg "Step"=some (.ref C)/\bD K "__init__" "Step.__init__" pM fi SV/\Binds K SV qv []
def vX (K:QA)(mg:Lf):Prop:=∃C fi SV,bA K C eW/\Mk K C fi/\mg "Spots"=some (.ref C)/\bD K "__init__" "Spots.__init__" pf fi SV/\Binds K SV tE []
structure Top (P:Ob) (w:World) (K:QA) (mg:Lf):Prop where
 M:bY K mg
 M2:jr K mg
 M3:iA mg
 M4:gX mg
 RW:ku P w K mg "ROW_WORDS" dQ
 SC:vP K mg
 PC:vX K mg
 MX:Def K mg "_law_mixed" vd ["_law_script","_law_k"]
 PL:Def K mg "_law_pull" AI ["_law_pen"]
 NM:Def K mg "_law_name" AE ["_law_number"]
 PA:Def K mg "_law_passes" Br ["_law_items"]
 TH:Def K mg "_law_thing" xl ["_law_pen","_law_depth","_law_loops","_law_calls"]
 LS:Def K mg "_law_list" lQ ["_law_pen","_law_depth","_law_loops","_law_calls"]
 DR:Def K mg "_law_drawn" A0 ["_law_script","_law_start"]
 WD:Def K mg "_law_words" Ay ["_law_items","_law_names"]
 TX:Def K mg "_law_text" Be ["_law_names","_law_lists"]
 IN:Def K mg "is_name" xa ["word"]
 NB:Def K mg "name_behind" Bl ["words","word"]
 MS:Def K mg "may_stand" Bd ["kind","opened"]
 RD:Def K mg "read" wK ["text"]
 CS:Def K mg "closing_steps" A1 ["steps"]
 AR:Def K mg "around" Bk ["steps","number","kind"]
 LF:Def K mg "leads_from" A5 ["steps","closing","number"]
 LI:Def K mg "leads_in" yn ["steps"]
 PI:Def K mg "parts_in" xQ ["steps"]
 ST:Def K mg "stands_in" AO ["steps","leads"]
 RI:Def K mg "rows_in" BE ["steps","leads","stands"]
 NW:Def K mg "name_words" wR ["spots","parts"]
 NA:Def K mg "named_again" uX ["spots"]
 CA:Def K mg "called_astray" BA ["spots"]
 CT:Def K mg "come_to" wD ["spots"]
 NC:Def K mg "not_come_to" uy ["spots"]
 NL:Def K mg "not_called" vi ["spots"]
 EB:Def K mg "ended_at_begin" wO ["spots"]
 RB:Def K mg "rows_beyond" yH ["spots"]
 PL2:Def K mg "places_in" vC ["spots","part"]
 PY:Def K mg "places_beyond" uR ["spots"]
 PB:Def K mg "parts_beyond" Bm ["spots"]
 HI:Def K mg "hindrances" BB ["spots"]
 NP:Def K mg "need_program" Bg ["text"]
 RV:Def K mg "rows_leaving" xD ["web","part"]
 IW:Def K mg "is_whole" Bh ["value"]
 AW:Def K mg "are_whole" xc ["values"]
 NQ:Def K mg "need_answers" wu ["answers","bound"]
 AB:Def K mg "at_begin" Bw ["part"]
 GO:Def K mg "go" uT ["stack","row"]
 PA2:Def K mg "part_at" sr ["spots","number"]
 WO:Def K mg "web_of" rq ["text"]
 WJ:Def K mg "walked" ya ["text","answers","bound"]
 AN:Def K mg "_law_answers" BC ["_law_script","_law_k"]
 GN:Def K mg "_law_goes_on" Bn ["_law_here","_law_there","_law_bound","_law_more","_law_most"]
theorem FD {P:Ob}{base:Heap}{fd:Og}(T:Top P w K mg)(F:bD K "law" "law" lq f fd):dz P w K mg base ee 18 f fd ["_law_script"] (aK sX K):=by
 have M:=T.M
 have M2:=T.M2
 have M3:=T.M3
 have M4:=T.M4
 obtain⟨C,fi,SV,HC,MK,hMg,FI,bi⟩:=T.SC
 obtain⟨D,fj,fdj,HD,MD,hMd,FJ,bj⟩:=T.PC
 have GS:v7 P w K mg base C:=⟨HC,⟨fi,SV,MK,IK HC FI,bi⟩,hMg⟩
 obtain⟨_,_,F1,m1,b1⟩:=T.MX
 have MX:=IE (P:=P) (w:=w) (base:=base) M F1 m1 b1
 obtain⟨_,_,F1,m1,b1⟩:=T.PL
 have PL:=Hi (P:=P) (w:=w) (base:=base) MX F1 m1 b1
 obtain⟨_,_,F1,m1,b1⟩:=T.NM
 have NM:=HW (P:=P) (w:=w) (base:=base) M F1 m1 b1
 obtain⟨_,_,F1,m1,b1⟩:=T.PA
 have PA:=HE (P:=P) (w:=w) (base:=base) F1 m1 b1 5
 obtain⟨_,_,FTH,mTH,bTH⟩:=T.TH
 obtain⟨_,_,F1,m1,b1⟩:=T.LS
 have LS:=IJ (P:=P) (w:=w) (base:=base) M PL PA (wj M PL NM 4 (λm h=>by cases h;exact Bt M PL NM PA F1 m1 b1 FTH mTH bTH 3) FTH mTH bTH) F1 m1 b1
 obtain⟨_,_,F1,m1,b1⟩:=T.DR
 have DR:=HR (P:=P) (w:=w) (base:=base) M PL NM LS F1 m1 b1
 obtain⟨_,_,F1,m1,b1⟩:=T.WD
 have WD:=Hv (P:=P) (w:=w) (base:=base) F1 m1 b1 5
 obtain⟨_,_,F1,m1,b1⟩:=T.TX
 have TX:=Jl (P:=P) (w:=w) (base:=base) M WD F1 m1 b1
 obtain⟨_,_,F1,m1,b1⟩:=T.IN
 have IN:=IP (P:=P) (w:=w) (base:=base) M M2 F1 m1 b1
 obtain⟨_,_,F1,m1,b1⟩:=T.NB
 have NB:=HL (P:=P) (w:=w) (base:=base) M IN F1 m1 b1
 obtain⟨_,_,F1,m1,b1⟩:=T.MS
 have MS:=HQ (P:=P) (w:=w) (base:=base) M2 F1 m1 b1
 obtain⟨_,_,F1,m1,b1⟩:=T.RD
 have RD:=Hl (P:=P) (w:=w) (base:=base) M M2 GS MS NB F1 m1 b1
 obtain⟨_,_,F1,m1,b1⟩:=T.CS
 have CS:=Ih (P:=P) (w:=w) (base:=base) M M2 HC F1 m1 b1
 obtain⟨_,_,F1,m1,b1⟩:=T.AR
 have AR:=Il (P:=P) (w:=w) (base:=base) HC F1 m1 b1
 obtain⟨_,_,F1,m1,b1⟩:=T.LF
 have LF:=Jn (P:=P) (w:=w) (base:=base) HC AR F1 m1 b1
 obtain⟨_,_,F1,m1,b1⟩:=T.LI
 have LI:=Je (P:=P) (w:=w) (base:=base) M CS LF F1 m1 b1
 obtain⟨_,_,F1,m1,b1⟩:=T.PI
 have PI:=Iy (P:=P) (w:=w) (base:=base) M HC CS F1 m1 b1
 obtain⟨_,_,F1,m1,b1⟩:=T.ST
 have ST:=Ik (P:=P) (w:=w) (base:=base) M HC T.RW F1 m1 b1
 obtain⟨_,_,F1,m1,b1⟩:=T.RI
 have RI:=Hg (P:=P) (w:=w) (base:=base) M HC T.RW F1 m1 b1
 have GP:sy P w K mg base C D:=⟨HD,⟨fj,fdj,MD,IF HD RD PI LI ST RI FJ,bj⟩,hMd⟩
 obtain⟨_,_,F1,m1,b1⟩:=T.NW
 have NW:=IY (P:=P) (w:=w) (base:=base) (C:=C) (D:=D) F1 m1 b1
 obtain⟨_,_,F1,m1,b1⟩:=T.NA
 have NA:=IH (P:=P) (w:=w) (base:=base) M HD NW F1 m1 b1
 obtain⟨_,_,F1,m1,b1⟩:=T.CA
 have CA:=HP (P:=P) (w:=w) (base:=base) M HC HD F1 m1 b1
 obtain⟨_,_,F1,m1,b1⟩:=T.CT
 have CT:=HB (P:=P) (w:=w) (base:=base) (C:=C) M HD F1 m1 b1
 obtain⟨_,_,F1,m1,b1⟩:=T.NC
 have NC:=Ho (P:=P) (w:=w) (base:=base) M M2 HC HD CT F1 m1 b1
 obtain⟨_,_,F1,m1,b1⟩:=T.NL
 have NL:=HG (P:=P) (w:=w) (base:=base) M HC HD NW F1 m1 b1
 obtain⟨_,_,F1,m1,b1⟩:=T.EB
 have EB:=Ja (P:=P) (w:=w) (base:=base) HD NW F1 m1 b1
 obtain⟨_,_,F1,m1,b1⟩:=T.RB
 have RB:=Ht (P:=P) (w:=w) (base:=base) (C:=C) M3 HD F1 m1 b1
 obtain⟨_,_,F1,m1,b1⟩:=T.PL2
 have PL2:=Fw (P:=P) (w:=w) (base:=base) (C:=C) M M3 HD F1 m1 b1
 obtain⟨_,_,F1,m1,b1⟩:=T.PY
 have PY:=Ir (P:=P) (w:=w) (base:=base) M M3 HD NW CT PL2 F1 m1 b1
 obtain⟨_,_,F1,m1,b1⟩:=T.PB
 have PB:=Jk (P:=P) (w:=w) (base:=base) M3 HD NW F1 m1 b1
 obtain⟨_,_,F1,m1,b1⟩:=T.HI
 have HI:=HV (P:=P) (w:=w) (base:=base) NA CA NC NL EB RB PY PB F1 m1 b1
 obtain⟨_,_,F1,m1,b1⟩:=T.NP
 have NP:=Hw (P:=P) (w:=w) (base:=base) GP HI F1 m1 b1
 obtain⟨_,_,F1,m1,b1⟩:=T.RV
 have RV:=Iz (P:=P) (w:=w) (base:=base) true M F1 m1 b1
 obtain⟨_,_,F1,m1,b1⟩:=T.IW
 have IW:=IX (P:=P) (w:=w) (base:=base) M M4 F1 m1 b1
 obtain⟨_,_,F1,m1,b1⟩:=T.AW
 have AW:=HJ (P:=P) (w:=w) (base:=base) M M4 IW F1 m1 b1
 obtain⟨_,_,F1,m1,b1⟩:=T.NQ
 have NQ:=Jb (P:=P) (w:=w) (base:=base) M M4 IW AW F1 m1 b1
 obtain⟨_,_,F1,m1,b1⟩:=T.AB
 have AB:=Ii (P:=P) (w:=w) (base:=base) M3 F1 m1 b1
 obtain⟨_,_,F1,m1,b1⟩:=T.GO
 have GO:=Ip (P:=P) (w:=w) (base:=base) M3 M4 AB F1 m1 b1
 obtain⟨_,_,F1,m1,b1⟩:=T.PA2
 have PA2:=Gi (P:=P) (w:=w) (base:=base) (C:=C) M HD F1 m1 b1
 obtain⟨_,_,F1,m1,b1⟩:=T.WO
 have WO:=Jd (P:=P) (w:=w) (base:=base) M M4 HD NP PL2 PA2 F1 m1 b1
 obtain⟨_,_,F1,m1,b1⟩:=T.WJ
 have WJ:=Ji (P:=P) (w:=w) (base:=base) M M4 WO NQ RV AB GO F1 m1 b1
 obtain⟨_,_,F1,m1,b1⟩:=T.AN
 have AN:=I0 (P:=P) (w:=w) (base:=base) M MX F1 m1 b1
 obtain⟨_,_,F1,m1,b1⟩:=T.GN
 have GN:=Im (P:=P) (w:=w) (base:=base) M F1 m1 b1
 exact Iv M M4 MX DR TX AN WJ GN F
theorem nY {x:Str}{xs:Li}{g:Addr}{gd:Option Addr}{gn:Nat}{gs:Array Lj}{QX:Array Value}(KX:K.In h)(G:h.Ns N9 mg)(a:QB K N9 x=some (some (.ref g)))(l:K.lookup g=some ⟨.type "tuple",gd,.seq QX gn,gs⟩)(z:QX.size<=N7)(v:Vals (xs.map V.str) QX.toList):oW K mg x xs:=⟨g,_,_,_,QD KX G a,l,rfl,rfl,z,v⟩
theorem Dd (KX:K.In h)(G:h.Ns N9 mg)
 (b1:QB K N9 "len"=some none) (b2:QB K N9 "min"=some none) (b3:QB K N9 "range"=some none) (b4:QB K N9 "int"=some none) (b5:QB K N9 "list"=some none) (b6:QB K N9 "zip"=some none) (b7:QB K N9 "enumerate"=some none) (b8:QB K N9 "reversed"=some none) (b9:QB K N9 "any"=some none) (b10:QB K N9 "all"=some none):bY K mg:=
 ⟨QE KX G b1,QE KX G b2,QE KX G b3,QE KX G b4,QE KX G b5,QE KX G b6,QE KX G b7,QE KX G b8,QE KX G b9,QE KX G b10⟩
theorem zI (KX:K.In h)(G:h.Ns N9 mg){s1_1 s1_2 s1_3 s1_4 s1_5 s2_1 s2_2 s2_3 s2_4 s2_5 s2_6 s3_1 s3_2 s3_3 s3_4 s4_1 s4_2:Tok}{g1 g2 g3 g4:Addr}{d1 d2 d3 d4:Option Addr}{n1 n2 n3 n4:Nat}{e1 e2 e3 e4:Array Lj}
 (a1:QB K N9 "MOST_LETTERS"=some (some (.int 8 t1))) (a2:QB K N9 "NO_STEP"=some (some (.int (-1) t2)))
 (c1:QB K N9 "NAMED"=some (some (.ref g1))) (l1:K.lookup g1=some ⟨.type "tuple",d1,.seq #[.str "part" s1_1,.str "do" s1_2,.str "call" s1_3,.str "if" s1_4,.str "while" s1_5] n1,e1⟩) (c2:QB K N9 "SENTENCES"=some (some (.ref g2))) (l2:K.lookup g2=some ⟨.type "tuple",d2,.seq #[.str "do" s2_1,.str "call" s2_2,.str "if" s2_3,.str "while" s2_4,.str "leave" s2_5,.str "back" s2_6] n2,e2⟩) (c3:QB K N9 "OPENING"=some (some (.ref g3))) (l3:K.lookup g3=some ⟨.type "tuple",d3,.seq #[.str "part" s3_1,.str "if" s3_2,.str "else" s3_3,.str "while" s3_4] n3,e3⟩) (c4:QB K N9 "CLOSING"=some (some (.ref g4))) (l4:K.lookup g4=some ⟨.type "tuple",d4,.seq #[.str "else" s4_1,.str "end" s4_2] n4,e4⟩):jr K mg:=
 ⟨⟨_,QD KX G a1⟩,⟨_,QD KX G a2⟩,nY KX G c1 l1 (by show 5<=N7;decide) (.cons ⟨s1_1,rfl⟩ (.cons ⟨s1_2,rfl⟩ (.cons ⟨s1_3,rfl⟩ (.cons ⟨s1_4,rfl⟩ (.cons ⟨s1_5,rfl⟩ (.nil)))))),nY KX G c2 l2 (by show 6<=N7;decide) (.cons ⟨s2_1,rfl⟩ (.cons ⟨s2_2,rfl⟩ (.cons ⟨s2_3,rfl⟩ (.cons ⟨s2_4,rfl⟩ (.cons ⟨s2_5,rfl⟩ (.cons ⟨s2_6,rfl⟩ (.nil))))))),nY KX G c3 l3 (by show 4<=N7;decide) (.cons ⟨s3_1,rfl⟩ (.cons ⟨s3_2,rfl⟩ (.cons ⟨s3_3,rfl⟩ (.cons ⟨s3_4,rfl⟩ (.nil))))),nY KX G c4 l4 (by show 2<=N7;decide) (.cons ⟨s4_1,rfl⟩ (.cons ⟨s4_2,rfl⟩ (.nil)))⟩
theorem Ab (KX:K.In h)(G:h.Ns N9 mg){t3 t4 t5:Tok}(a1:QB K N9 "BEGIN"=some (some (.int 0 t1)))(a2:QB K N9 "END"=some (some (.int 1 t2)))(a3:QB K N9 "MOST_PARTS"=some (some (.int 4 t3)))(a4:QB K N9 "MOST_PLACES"=some (some (.int 16 t4)))(a5:QB K N9 "MOST_PROGRAM_ROWS"=some (some (.int 30 t5))):iA mg:=
 ⟨⟨_,QD KX G a1⟩,⟨_,QD KX G a2⟩,⟨_,QD KX G a3⟩,⟨_,QD KX G a4⟩,⟨_,QD KX G a5⟩⟩
theorem zN (KX:K.In h)(G:h.Ns N9 mg){t3 t4 t5 t6:Tok}(b1:QB K N9 "isinstance"=some none)(b2:QB K N9 "bool"=some none)(b3:QB K N9 "max"=some none)(a1:QB K N9 "NO_CALL"=some (some (.int (-1) t1)))(a2:QB K N9 "FIRST_PART"=some (some (.int 0 t2)))(a3:QB K N9 "YES"=some (some (.int 1 t3)))(a4:QB K N9 "ENDED"=some (some (.str "ended" t4)))(a5:QB K N9 "BOUND"=some (some (.str "bound" t5)))(a6:QB K N9 "WANTING"=some (some (.str "wanting" t6))):gX mg:=
 ⟨QE KX G b1,QE KX G b2,QE KX G b3,⟨_,QD KX G a1⟩,⟨_,QD KX G a2⟩,⟨_,QD KX G a3⟩,⟨_,QD KX G a4⟩,⟨_,QD KX G a5⟩,⟨_,QD KX G a6⟩⟩
theorem Dj {P:Ob}(KX:K.In h)(G:h.Ns N9 mg){d v1 v2 v3 v4:Addr}{k1 k2 k3 k4 s1_1 s2_1 s3_1 s3_2 s4_1 s4_2:Tok}{ep n1 n2 n3 n4:Nat}{d1 d2 d3 d4:Option Addr}{l1 l2 l3 l4:Array Lj}
 (a:QB K N9 "ROW_WORDS"=some (some (.ref d))) (l:K.lookup d=some ⟨.type "dict",none,.dict #[⟨Qk w.params "do",.str "do" k1,.ref v1⟩,⟨Qk w.params "call",.str "call" k2,.ref v2⟩,⟨Qk w.params "if",.str "if" k3,.ref v3⟩,⟨Qk w.params "while",.str "while" k4,.ref v4⟩] ep, #[]⟩) (sm:(d==Ot)=false)
 (u1:K.lookup v1=some ⟨.type "tuple",d1,.seq #[.str "do" s1_1] n1,l1⟩) (u2:K.lookup v2=some ⟨.type "tuple",d2,.seq #[.str "call" s2_1] n2,l2⟩) (u3:K.lookup v3=some ⟨.type "tuple",d3,.seq #[.str "yes" s3_1,.str "no" s3_2] n3,l3⟩) (u4:K.lookup v4=some ⟨.type "tuple",d4,.seq #[.str "yes" s4_1,.str "no" s4_2] n4,l4⟩):ku P w K mg "ROW_WORDS" dQ:=by
 refine⟨d,_,[((Sum.inr "do":Key),.ref v1),((Sum.inr "call":Key),.ref v2),((Sum.inr "if":Key),.ref v3),((Sum.inr "while":Key),.ref v4)],QD KX G a,l,⟨_,_,⟨rfl,rfl,rfl⟩,rfl,λe he=>?_,?_,by show L3 [(Sum.inr "do":Key),(Sum.inr "call":Key),(Sum.inr "if":Key),(Sum.inr "while":Key)];decide⟩,sm,?_⟩
 ·simp only[List.mem_toArray,LV,Md,or_false] at he
  rcases he with rfl | rfl | rfl | rfl
  ·exact⟨Sum.inr "do",c9 P w "do" k1,rfl⟩
  ·exact⟨Sum.inr "call",c9 P w "call" k2,rfl⟩
  ·exact⟨Sum.inr "if",c9 P w "if" k3,rfl⟩
  ·exact⟨Sum.inr "while",c9 P w "while" k4,rfl⟩
 ·exact .cons (c9 P w "do" k1) rfl (.cons (c9 P w "call" k2) rfl (.cons (c9 P w "if" k3) rfl (.cons (c9 P w "while" k4) rfl (.nil))))
 ·exact .cons ⟨rfl,v1,_,_,_,rfl,u1,rfl,rfl,(by show 1<=N7;decide),.cons ⟨s1_1,rfl⟩ (.nil)⟩ (.cons ⟨rfl,v2,_,_,_,rfl,u2,rfl,rfl,(by show 1<=N7;decide),.cons ⟨s2_1,rfl⟩ (.nil)⟩ (.cons ⟨rfl,v3,_,_,_,rfl,u3,rfl,rfl,(by show 2<=N7;decide),.cons ⟨s3_1,rfl⟩ (.cons ⟨s3_2,rfl⟩ (.nil))⟩ (.cons ⟨rfl,v4,_,_,_,rfl,u4,rfl,rfl,(by show 2<=N7;decide),.cons ⟨s4_1,rfl⟩ (.cons ⟨s4_2,rfl⟩ (.nil))⟩ (.nil))))
theorem step_mk (KX:K.In h)(G:h.Ns N9 mg){C:Addr}{kV:Value}(aC:QB K N9 "Step"=some (some (.ref C)))(a1:QC K (.ref C) "__init__"=some (some (.ref f)))(i1:QU K (.ref f)=true)
 (l1:K.lookup f=some ⟨oc,od,.func (QI "__init__" "Step.__init__" (eL pM) (bS pM) (ai pM) .none kV doc pm an Q2 ct),S3⟩) (c1:QK K Q2 "Step.__init__"=true) (k1:QG K (.ref f)=true) (pg:QM K C Str.empty=true) (hd:QL K C=true) (po:QN K C=true) (sa:QC K (.ref C) "__setattr__"=some (some (.builtin "object.__setattr__"))) (mk:QO K C=true) (kc:QG K (.ref C)=true)
 (o1:QC K (.ref C) "kind"=some none) (o2:QC K (.ref C) "name"=some none) (o3:QC K (.ref C) "word"=some none) (o4:QC K (.ref C) "within"=some none):vP K mg:=by
 refine⟨C,f,_,⟨⟨pg,hd,po,sa⟩,λx hx=>?_⟩,⟨mk,a1,i1,kc⟩,QD KX G aC,iQ (st:=pM) l1 c1 k1,(iQ (st:=pM) l1 c1 k1).binds (ps:=qv) λ_ _ _ _ _ _ us hl=>match us,hl with | [_,_,_,_,_],_=>rfl⟩
 simp only[f9,LV,Md,or_false] at hx
 rcases hx with rfl | rfl | rfl | rfl
 ·exact o1
 ·exact o2
 ·exact o3
 ·exact o4
theorem C6 (KX:K.In h)(G:h.Ns N9 mg){C:Addr}{kV:Value}(aC:QB K N9 "Spots"=some (some (.ref C)))(a1:QC K (.ref C) "__init__"=some (some (.ref f)))(i1:QU K (.ref f)=true)
 (l1:K.lookup f=some ⟨oc,od,.func (QI "__init__" "Spots.__init__" (eL pf) (bS pf) (ai pf) .none kV doc pm an Q2 ct),S3⟩) (c1:QK K Q2 "Spots.__init__"=true) (k1:QG K (.ref f)=true) (pg:QM K C Str.empty=true) (hd:QL K C=true) (po:QN K C=true) (sa:QC K (.ref C) "__setattr__"=some (some (.builtin "object.__setattr__"))) (mk:QO K C=true) (kc:QG K (.ref C)=true)
 (o1:QC K (.ref C) "steps"=some none) (o2:QC K (.ref C) "parts"=some none) (o3:QC K (.ref C) "leads"=some none) (o4:QC K (.ref C) "stands"=some none) (o5:QC K (.ref C) "rows"=some none):vX K mg:=by
 refine⟨C,f,_,⟨⟨pg,hd,po,sa⟩,λx hx=>?_⟩,⟨mk,a1,i1,kc⟩,QD KX G aC,iQ (st:=pf) l1 c1 k1,(iQ (st:=pf) l1 c1 k1).binds (ps:=tE) λ_ _ _ _ _ _ us hl=>match us,hl with | [_,_],_=>rfl⟩
 simp only[eW,LV,Md,or_false] at hx
 rcases hx with rfl | rfl | rfl | rfl | rfl
 ·exact o1
 ·exact o2
 ·exact o3
 ·exact o4
 ·exact o5
theorem FF {l:QR}{fa:Addr}{kV:Value}(KX:K.In h)(G:h.Ns N9 mg)(hfa:mg "law"=some (.ref fa))(T:Top l.prog w K mg)
 (a:QB K N9 "law"=some (some (.ref f))) (lk:K.lookup f=some ⟨oc,od,.func (QI "law" "law" (eL lq) (bS lq) (ai lq) .none kV doc pm an Q2 ct),S3⟩) (c:QK K Q2 "law"=true) (k:QG K (.ref f)=true):
 ∃fd:Og,(∀(s:N5) (v:Value),Po s fd ⟨[v],[]⟩ [("_law_script",v)])/\∀base:Heap,K.In base->base.Ns N9 mg->dz l.prog w K mg base ee 18 fa fd ["_law_script"] (aK sX K):=by
 have e:=hfa.symm.trans (QD KX G a)
 cases e
 exact⟨QI "law" "law" (eL lq) (bS lq) (ai lq) .none kV doc pm an Q2 ct,λs v=>.of_eq rfl,λbase _ _=>FD T (iQ lk c k)⟩
theorem walk {l:QR}{q:Ob}{loose:Li}{XP:(Lf)->Heap->Prop}{YP:World->Heap->Prop}{d:DefRec}{K:Params->QA}(hn:l.most=some 63)(VZ:d.params.defaults=[])
 (hY:∀(w:World) (h:Heap),YP w h->(K w.params).In h)
 (F:∀(w:World) (mg:Lf) (fa:Addr) (h:Heap),(K w.params).In h->h.Ns N9 mg->mg d.name=some (.ref fa)->
  ∃fd:Og,(∀(s:N5) (u:Value),Po s fd ⟨[u],[]⟩ [("_law_script",u)])/\∀base:Heap,(K w.params).In base->base.Ns N9 mg->dz l.prog w (K w.params) mg base ee 18 fa fd ["_law_script"] (aK sX (K w.params))):
 PySem.W.WalkO q loose XP YP l.row.toRowW d [] (λf vs=>PySem.call f vs):=
 L2.Al (n:=63) (k:=18) (x:="_law_script") (CX:=λ_=>ee) (sp:=λw=>aK sX (K w.params)) hn (by decide) VZ ⟨rfl,by decide,by decide⟩ hY F
   (λw H a ns hl SE _ hS=>⟨H,[⟨bu,ns⟩],_,ar.refl _,.cons ⟨a,rfl,hS,hl⟩ .nil,⟨ns,rfl,hl,SE,rfl⟩,λv H' R' _ t=>by obtain⟨y,hy,rfl⟩:=t;exact hy⟩) λ_ _ _ _ _ z=>z
end
end K1
open PySem PySem.W PyProof.Rows
namespace PySem.W.Fast
def tw3456652860061234976:=0
def tw12821047901176094399:=0
def tw2539571011521814554:=0
def tw11047971042758250161:=0
def tw14348986229033463998:=0
def tw8219031622256061072:=0
def tw5867077297090470107:=0
def tw13145761543880993717:=0
def tw4414810680244444486:=0
def tw1257463795349177453:=0
def tw11025487276252355764:=0
def tw3966177864460072510:=0
def tw9645147642299997692:=0
def tw728813783747614509:=0
def tw8070054260819890105:=0
def tw3205058813625323436:=0
def tw17503203676458940229:=0
def tw12758898136345576659:=0
def tw5283375611749556297:=0
def tw13603438290016602423:=0
def tw3913744736996425957:=0
def tw2986109605367421618:=0
def tw15559406520591305216:=0
def tw8503597077757530876:=0
def tw8345959385951813389:=0
def tw15332288208409709650:=0
def tw10675866405544171682:=0
def tw11874297868246059127:=0
def tw9473797752919390252:=0
def tw4250403218369716712:=0
def tw12606752293217173356:=0
def tw2864610989530424636:=0
def tw16037925029340520777:=0
def tw17710239632297994199:=0
def tw8049033919018607690:=0
def tw1492270518243324442:=0
def tw5717566990441618456:=0
def tw3912679862922455838:=0
def tw3346218134463439418:=0
def tw4590376030642288321:=0
def tw15463473340763616920:=0
def tw9036066420228667494:=0
def tw14449867505571916066:=0
def tw14415710950988070185:=0
def tw15931869834102412877:=0
def tw1475615514733968219:=0
def tw14158038662585802538:=0
def tw2367091713354747293:=0
def tw1056185587079882826:=0
def tw49519320027192484:=0
def tw9041510173372660118:=0
def tw9583933719912737152:=0
def tw17854254528586135183:=0
def tw12240332116767593366:=0
def tw10493056837674767130:=0
def tw3827694362661024699:=0
def tw5684129044480902297:=0
def tw1040613941608040191:=0
def tw11401655856200610053:=0
def tw4984253284476763459:=0
def tw244742660745484489:=0
def tw856387224337608733:=0
def tw2894613943223208250:=0
def tw9532798652319616776:=0
def tw13803611960991819379:=0
def tw13046678619688694649:=0
def tw4129244394806922189:=0
def tw13093889975446271018:=0
def tw10057428673707532836:=0
def tw1351064749595078536:=0
def tw1687450862819051454:=0
def tw10201989316726352608:=0
def tw16967874138472141609:=0
def tw17235522192454176427:=0
def tw8594946191983969834:=0
def tw14064214233275527102:=0
def tw8574560796533071019:=0
def tw101263099834363009:=0
def tw1747079318707332651:=0
def tw2346101641537085112:=0
def tw662932515450195583:=0
def tw17520429490620146971:=0
def tw9734260164113433971:=0
def tw14996482895389662666:=0
def tw4074591837899374569:=0
def tw7855695008491256169:=0
def tw8368858001262776114:=0
def tw15272876648629530152:=0
def tw9610899469448649641:=0
def tw17634686135058743397:=0
def tw4751542791404811633:=0
def tw17214732840015624338:=0
def tw6148280394775261296:=0
def tw14967303125273672504:=0
def tw10817232136257304275:=0
def tw17188229185256507667:=0
def tw1940327253514728303:=0
def tw18266342337073143851:=0
def tw2798921824363478729:=0
def tw4852112428766673674:=0
def tw10891678517687545444:=0
def tw9481985322312924770:=0
def tw11952996830458515363:=0
def tw3996492132793958605:=0
def tw9824189901636082532:=0
def tw3127554731526619048:=0
def tw7176381708838842315:=0
def tw16781738149329551843:=0
def tw10252484710155448389:=0
def tw4436594168380800847:=0
def tw4373447902362311052:=0
def tw18056158506023096658:=0
def tw12753042935835150353:=0
def tw18224111464140916205:=0
def tw13220807659044470744:=0
def tw11253240559838522127:=0
def tw16074254190263445929:=0
def tw11951397905749883201:=0
def tw17193465107376613235:=0
def tw1978592964237560298:=0
def tw14123413298280141248:=0
def tw11571264410794361854:=0
def tw10314310948558046217:=0
def tw3560965815078893586:=0
def tw8290437129115925619:=0
def tw2098218304250941147:=0
def tw1382932168256957563:=0
def tw4890392621793226619:=0
def tw4910016033535407649:=0
def tw18328137213956849364:=0
def tw4205039552258364511:=0
def tw17425565323162979779:=0
def tw1053203160694729223:=0
def tw2570616281591973702:=0
def tw17687965834663181167:=0
def tw1397980029294258322:=0
def tw5251616588846855827:=0
def tw6035963420143355667:=0
def tw9890802780455215917:=0
def tw10400446766548536820:=0
def tw373637541904394781:=0
def tw16087655109857546372:=0
def tw9937531598113477917:=0
def tw5832866488432300327:=0
def tw13656354143291168114:=0
def tw5933162832995790531:=0
def tw15133117123520834782:=0
def tw1894367621305152822:=0
def tw10281369132481294143:=0
def tw15157499217892385831:=0
end PySem.W.Fast
set_option maxRecDepth 100000 in
set_option maxHeartbeats 0 in
theorem PySem.Challenge.cw_fewcounters_k72_whole_walks_go_on_holds : PySem.Challenge.rw_fewcounters_k72_whole_walks_go_on.Holds := by
 w_on;o_law;k_head;(case hw=>w_witness2)
 k_fill
 refine K1.walk (l:=PySem.Challenge.rw_fewcounters_k72_whole_walks_go_on) rfl rfl (λw h Y=>PySem.W.kIn_of Y) ?F
 case F=>
  intro w mg fa h KX G VM
  have M:K1.bY (L2.aR KX) mg:=by
   dsimp only[L2.aR]
   refine' K1.Dd KX G ?b1 ?b2 ?b3 ?b4 ?b5 ?b6 ?b7 ?b8 ?b9 ?b10
   (case b1=>k_is);(case b2=>k_is);(case b3=>k_is);(case b4=>k_is);(case b5=>k_is);(case b6=>k_is);(case b7=>k_is);(case b8=>k_is);(case b9=>k_is);(case b10=>k_is)
  have M2:K1.jr (L2.aR KX) mg:=by
   dsimp only[L2.aR]
   refine' K1.zI KX G ?a1 ?a2 ?c1 ?l1 ?c2 ?l2 ?c3 ?l3 ?c4 ?l4
   (case a1=>k_is);(case a2=>k_is);(case c1=>k_is);(case l1=>k_is);(case c2=>k_is);(case l2=>k_is);(case c3=>k_is);(case l3=>k_is);(case c4=>k_is);(case l4=>k_is)
  have M4:K1.gX mg:=by
   refine' K1.zN KX G ?b1 ?b2 ?b3 ?a1 ?a2 ?a3 ?a4 ?a5 ?a6
   (case b1=>k_is);(case b2=>k_is);(case b3=>k_is);(case a1=>k_is);(case a2=>k_is);(case a3=>k_is);(case a4=>k_is);(case a5=>k_is);(case a6=>k_is)
  have M3:K1.iA mg:=by
   refine' K1.Ab KX G ?a1 ?a2 ?a3 ?a4 ?a5
   (case a1=>k_is);(case a2=>k_is);(case a3=>k_is);(case a4=>k_is);(case a5=>k_is)
  have DRW:Fc.ku (PySem.Challenge.rw_fewcounters_k72_whole_walks_go_on).prog w (L2.aR KX) mg "ROW_WORDS" K1.dQ:=by
   dsimp only[L2.aR]
   refine' K1.Dj KX G ?a ?l ?sm ?u1 ?u2 ?u3 ?u4
   (case a=>k_is);(case l=>k_is);(case sm=>rfl);(case u1=>k_is);(case u2=>k_is);(case u3=>k_is);(case u4=>k_is)
  have DSC:K1.vP (L2.aR KX) mg:=by
   dsimp only[L2.aR]
   refine' K1.step_mk KX G ?aC ?a1 ?i1 ?l1 ?c1 ?k1 ?pg ?hd ?po ?sa ?mk ?kc ?o1 ?o2 ?o3 ?o4
   (case aC=>k_is);(case a1=>k_is);(case i1=>k_is);(case l1=>k_is);(case c1=>k_is);(case k1=>k_is);(case pg=>k_is);(case hd=>k_is);(case po=>k_is);(case sa=>k_is);(case mk=>k_is);(case kc=>k_is);(case o1=>k_is);(case o2=>k_is);(case o3=>k_is);(case o4=>k_is)
  have DPC:K1.vX (L2.aR KX) mg:=by
   dsimp only[L2.aR]
   refine' K1.C6 KX G ?aC ?a1 ?i1 ?l1 ?c1 ?k1 ?pg ?hd ?po ?sa ?mk ?kc ?o1 ?o2 ?o3 ?o4 ?o5
   (case aC=>k_is);(case a1=>k_is);(case i1=>k_is);(case l1=>k_is);(case c1=>k_is);(case k1=>k_is);(case pg=>k_is);(case hd=>k_is);(case po=>k_is);(case sa=>k_is);(case mk=>k_is);(case kc=>k_is);(case o1=>k_is);(case o2=>k_is);(case o3=>k_is);(case o4=>k_is);(case o5=>k_is)
  have DMX:Fc.Def (L2.aR KX) mg "_law_mixed" K1.vd ["_law_script","_law_k"]:=by
   dsimp only[L2.aR]
   refine' Fc.a7 KX G ?a ?l ?c ?k ?b
   case a|l|c|k=>k_is
   (case b=>exact fun | _,_,_,_,_,_,[_,_],_=>rfl)
  have DPL:Fc.Def (L2.aR KX) mg "_law_pull" K1.AI ["_law_pen"]:=by
   dsimp only[L2.aR]
   refine' Fc.a7 KX G ?a ?l ?c ?k ?b
   case a|l|c|k=>k_is
   (case b=>exact fun | _,_,_,_,_,_,[_],_=>rfl)
  have DNM:Fc.Def (L2.aR KX) mg "_law_name" K1.AE ["_law_number"]:=by
   dsimp only[L2.aR]
   refine' Fc.a7 KX G ?a ?l ?c ?k ?b
   case a|l|c|k=>k_is
   (case b=>exact fun | _,_,_,_,_,_,[_],_=>rfl)
  have DPA:Fc.Def (L2.aR KX) mg "_law_passes" K1.Br ["_law_items"]:=by
   dsimp only[L2.aR]
   refine' Fc.a7 KX G ?a ?l ?c ?k ?b
   case a|l|c|k=>k_is
   (case b=>exact fun | _,_,_,_,_,_,[_],_=>rfl)
  have DTH:Fc.Def (L2.aR KX) mg "_law_thing" K1.xl ["_law_pen","_law_depth","_law_loops","_law_calls"]:=by
   dsimp only[L2.aR]
   refine' Fc.a7 KX G ?a ?l ?c ?k ?b
   case a|l|c|k=>k_is
   (case b=>exact fun | _,_,_,_,_,_,[_,_,_,_],_=>rfl)
  have DLS:Fc.Def (L2.aR KX) mg "_law_list" K1.lQ ["_law_pen","_law_depth","_law_loops","_law_calls"]:=by
   dsimp only[L2.aR]
   refine' Fc.a7 KX G ?a ?l ?c ?k ?b
   case a|l|c|k=>k_is
   (case b=>exact fun | _,_,_,_,_,_,[_,_,_,_],_=>rfl)
  have DDR:Fc.Def (L2.aR KX) mg "_law_drawn" K1.A0 ["_law_script","_law_start"]:=by
   dsimp only[L2.aR]
   refine' Fc.a7 KX G ?a ?l ?c ?k ?b
   case a|l|c|k=>k_is
   (case b=>exact fun | _,_,_,_,_,_,[_,_],_=>rfl)
  have DWD:Fc.Def (L2.aR KX) mg "_law_words" K1.Ay ["_law_items","_law_names"]:=by
   dsimp only[L2.aR]
   refine' Fc.a7 KX G ?a ?l ?c ?k ?b
   case a|l|c|k=>k_is
   (case b=>exact fun | _,_,_,_,_,_,[_,_],_=>rfl)
  have DTX:Fc.Def (L2.aR KX) mg "_law_text" K1.Be ["_law_names","_law_lists"]:=by
   dsimp only[L2.aR]
   refine' Fc.a7 KX G ?a ?l ?c ?k ?b
   case a|l|c|k=>k_is
   (case b=>exact fun | _,_,_,_,_,_,[_,_],_=>rfl)
  have DIN:Fc.Def (L2.aR KX) mg "is_name" K1.xa ["word"]:=by
   dsimp only[L2.aR]
   refine' Fc.a7 KX G ?a ?l ?c ?k ?b
   case a|l|c|k=>k_is
   (case b=>exact fun | _,_,_,_,_,_,[_],_=>rfl)
  have DNB:Fc.Def (L2.aR KX) mg "name_behind" K1.Bl ["words","word"]:=by
   dsimp only[L2.aR]
   refine' Fc.a7 KX G ?a ?l ?c ?k ?b
   case a|l|c|k=>k_is
   (case b=>exact fun | _,_,_,_,_,_,[_,_],_=>rfl)
  have DMS:Fc.Def (L2.aR KX) mg "may_stand" K1.Bd ["kind","opened"]:=by
   dsimp only[L2.aR]
   refine' Fc.a7 KX G ?a ?l ?c ?k ?b
   case a|l|c|k=>k_is
   (case b=>exact fun | _,_,_,_,_,_,[_,_],_=>rfl)
  have DRD:Fc.Def (L2.aR KX) mg "read" K1.wK ["text"]:=by
   dsimp only[L2.aR]
   refine' Fc.a7 KX G ?a ?l ?c ?k ?b
   case a|l|c|k=>k_is
   (case b=>exact fun | _,_,_,_,_,_,[_],_=>rfl)
  have DCS:Fc.Def (L2.aR KX) mg "closing_steps" K1.A1 ["steps"]:=by
   dsimp only[L2.aR]
   refine' Fc.a7 KX G ?a ?l ?c ?k ?b
   case a|l|c|k=>k_is
   (case b=>exact fun | _,_,_,_,_,_,[_],_=>rfl)
  have DAR:Fc.Def (L2.aR KX) mg "around" K1.Bk ["steps","number","kind"]:=by
   dsimp only[L2.aR]
   refine' Fc.a7 KX G ?a ?l ?c ?k ?b
   case a|l|c|k=>k_is
   (case b=>exact fun | _,_,_,_,_,_,[_,_,_],_=>rfl)
  have DLF:Fc.Def (L2.aR KX) mg "leads_from" K1.A5 ["steps","closing","number"]:=by
   dsimp only[L2.aR]
   refine' Fc.a7 KX G ?a ?l ?c ?k ?b
   case a|l|c|k=>k_is
   (case b=>exact fun | _,_,_,_,_,_,[_,_,_],_=>rfl)
  have DLI:Fc.Def (L2.aR KX) mg "leads_in" K1.yn ["steps"]:=by
   dsimp only[L2.aR]
   refine' Fc.a7 KX G ?a ?l ?c ?k ?b
   case a|l|c|k=>k_is
   (case b=>exact fun | _,_,_,_,_,_,[_],_=>rfl)
  have DPI:Fc.Def (L2.aR KX) mg "parts_in" K1.xQ ["steps"]:=by
   dsimp only[L2.aR]
   refine' Fc.a7 KX G ?a ?l ?c ?k ?b
   case a|l|c|k=>k_is
   (case b=>exact fun | _,_,_,_,_,_,[_],_=>rfl)
  have DST:Fc.Def (L2.aR KX) mg "stands_in" K1.AO ["steps","leads"]:=by
   dsimp only[L2.aR]
   refine' Fc.a7 KX G ?a ?l ?c ?k ?b
   case a|l|c|k=>k_is
   (case b=>exact fun | _,_,_,_,_,_,[_,_],_=>rfl)
  have DRI:Fc.Def (L2.aR KX) mg "rows_in" K1.BE ["steps","leads","stands"]:=by
   dsimp only[L2.aR]
   refine' Fc.a7 KX G ?a ?l ?c ?k ?b
   case a|l|c|k=>k_is
   (case b=>exact fun | _,_,_,_,_,_,[_,_,_],_=>rfl)
  have DNW:Fc.Def (L2.aR KX) mg "name_words" K1.wR ["spots","parts"]:=by
   dsimp only[L2.aR]
   refine' Fc.a7 KX G ?a ?l ?c ?k ?b
   case a|l|c|k=>k_is
   (case b=>exact fun | _,_,_,_,_,_,[_,_],_=>rfl)
  have DNA:Fc.Def (L2.aR KX) mg "named_again" K1.uX ["spots"]:=by
   dsimp only[L2.aR]
   refine' Fc.a7 KX G ?a ?l ?c ?k ?b
   case a|l|c|k=>k_is
   (case b=>exact fun | _,_,_,_,_,_,[_],_=>rfl)
  have DCA:Fc.Def (L2.aR KX) mg "called_astray" K1.BA ["spots"]:=by
   dsimp only[L2.aR]
   refine' Fc.a7 KX G ?a ?l ?c ?k ?b
   case a|l|c|k=>k_is
   (case b=>exact fun | _,_,_,_,_,_,[_],_=>rfl)
  have DCT:Fc.Def (L2.aR KX) mg "come_to" K1.wD ["spots"]:=by
   dsimp only[L2.aR]
   refine' Fc.a7 KX G ?a ?l ?c ?k ?b
   case a|l|c|k=>k_is
   (case b=>exact fun | _,_,_,_,_,_,[_],_=>rfl)
  have DNC:Fc.Def (L2.aR KX) mg "not_come_to" K1.uy ["spots"]:=by
   dsimp only[L2.aR]
   refine' Fc.a7 KX G ?a ?l ?c ?k ?b
   case a|l|c|k=>k_is
   (case b=>exact fun | _,_,_,_,_,_,[_],_=>rfl)
  have DNL:Fc.Def (L2.aR KX) mg "not_called" K1.vi ["spots"]:=by
   dsimp only[L2.aR]
   refine' Fc.a7 KX G ?a ?l ?c ?k ?b
   case a|l|c|k=>k_is
   (case b=>exact fun | _,_,_,_,_,_,[_],_=>rfl)
  have DEB:Fc.Def (L2.aR KX) mg "ended_at_begin" K1.wO ["spots"]:=by
   dsimp only[L2.aR]
   refine' Fc.a7 KX G ?a ?l ?c ?k ?b
   case a|l|c|k=>k_is
   (case b=>exact fun | _,_,_,_,_,_,[_],_=>rfl)
  have DRB:Fc.Def (L2.aR KX) mg "rows_beyond" K1.yH ["spots"]:=by
   dsimp only[L2.aR]
   refine' Fc.a7 KX G ?a ?l ?c ?k ?b
   case a|l|c|k=>k_is
   (case b=>exact fun | _,_,_,_,_,_,[_],_=>rfl)
  have DPL2:Fc.Def (L2.aR KX) mg "places_in" K1.vC ["spots","part"]:=by
   dsimp only[L2.aR]
   refine' Fc.a7 KX G ?a ?l ?c ?k ?b
   case a|l|c|k=>k_is
   (case b=>exact fun | _,_,_,_,_,_,[_,_],_=>rfl)
  have DPY:Fc.Def (L2.aR KX) mg "places_beyond" K1.uR ["spots"]:=by
   dsimp only[L2.aR]
   refine' Fc.a7 KX G ?a ?l ?c ?k ?b
   case a|l|c|k=>k_is
   (case b=>exact fun | _,_,_,_,_,_,[_],_=>rfl)
  have DPB:Fc.Def (L2.aR KX) mg "parts_beyond" K1.Bm ["spots"]:=by
   dsimp only[L2.aR]
   refine' Fc.a7 KX G ?a ?l ?c ?k ?b
   case a|l|c|k=>k_is
   (case b=>exact fun | _,_,_,_,_,_,[_],_=>rfl)
  have DHI:Fc.Def (L2.aR KX) mg "hindrances" K1.BB ["spots"]:=by
   dsimp only[L2.aR]
   refine' Fc.a7 KX G ?a ?l ?c ?k ?b
   case a|l|c|k=>k_is
   (case b=>exact fun | _,_,_,_,_,_,[_],_=>rfl)
  have DNP:Fc.Def (L2.aR KX) mg "need_program" K1.Bg ["text"]:=by
   dsimp only[L2.aR]
   refine' Fc.a7 KX G ?a ?l ?c ?k ?b
   case a|l|c|k=>k_is
   (case b=>exact fun | _,_,_,_,_,_,[_],_=>rfl)
  have DRV:Fc.Def (L2.aR KX) mg "rows_leaving" K1.xD ["web","part"]:=by
   dsimp only[L2.aR]
   refine' Fc.a7 KX G ?a ?l ?c ?k ?b
   case a|l|c|k=>k_is
   (case b=>exact fun | _,_,_,_,_,_,[_,_],_=>rfl)
  have DIW:Fc.Def (L2.aR KX) mg "is_whole" K1.Bh ["value"]:=by
   dsimp only[L2.aR]
   refine' Fc.a7 KX G ?a ?l ?c ?k ?b
   case a|l|c|k=>k_is
   (case b=>exact fun | _,_,_,_,_,_,[_],_=>rfl)
  have DAW:Fc.Def (L2.aR KX) mg "are_whole" K1.xc ["values"]:=by
   dsimp only[L2.aR]
   refine' Fc.a7 KX G ?a ?l ?c ?k ?b
   case a|l|c|k=>k_is
   (case b=>exact fun | _,_,_,_,_,_,[_],_=>rfl)
  have DNQ:Fc.Def (L2.aR KX) mg "need_answers" K1.wu ["answers","bound"]:=by
   dsimp only[L2.aR]
   refine' Fc.a7 KX G ?a ?l ?c ?k ?b
   case a|l|c|k=>k_is
   (case b=>exact fun | _,_,_,_,_,_,[_,_],_=>rfl)
  have DAB:Fc.Def (L2.aR KX) mg "at_begin" K1.Bw ["part"]:=by
   dsimp only[L2.aR]
   refine' Fc.a7 KX G ?a ?l ?c ?k ?b
   case a|l|c|k=>k_is
   (case b=>exact fun | _,_,_,_,_,_,[_],_=>rfl)
  have DGO:Fc.Def (L2.aR KX) mg "go" K1.uT ["stack","row"]:=by
   dsimp only[L2.aR]
   refine' Fc.a7 KX G ?a ?l ?c ?k ?b
   case a|l|c|k=>k_is
   (case b=>exact fun | _,_,_,_,_,_,[_,_],_=>rfl)
  have DPA2:Fc.Def (L2.aR KX) mg "part_at" K1.sr ["spots","number"]:=by
   dsimp only[L2.aR]
   refine' Fc.a7 KX G ?a ?l ?c ?k ?b
   case a|l|c|k=>k_is
   (case b=>exact fun | _,_,_,_,_,_,[_,_],_=>rfl)
  have DWO:Fc.Def (L2.aR KX) mg "web_of" K1.rq ["text"]:=by
   dsimp only[L2.aR]
   refine' Fc.a7 KX G ?a ?l ?c ?k ?b
   case a|l|c|k=>k_is
   (case b=>exact fun | _,_,_,_,_,_,[_],_=>rfl)
  have DWJ:Fc.Def (L2.aR KX) mg "walked" K1.ya ["text","answers","bound"]:=by
   dsimp only[L2.aR]
   refine' Fc.a7 KX G ?a ?l ?c ?k ?b
   case a|l|c|k=>k_is
   (case b=>exact fun | _,_,_,_,_,_,[_,_,_],_=>rfl)
  have DAN:Fc.Def (L2.aR KX) mg "_law_answers" K1.BC ["_law_script","_law_k"]:=by
   dsimp only[L2.aR]
   refine' Fc.a7 KX G ?a ?l ?c ?k ?b
   case a|l|c|k=>k_is
   (case b=>exact fun | _,_,_,_,_,_,[_,_],_=>rfl)
  have DGN:Fc.Def (L2.aR KX) mg "_law_goes_on" K1.Bn ["_law_here","_law_there","_law_bound","_law_more","_law_most"]:=by
   dsimp only[L2.aR]
   refine' Fc.a7 KX G ?a ?l ?c ?k ?b
   case a|l|c|k=>k_is
   (case b=>exact fun | _,_,_,_,_,_,[_,_,_,_,_],_=>rfl)
  refine' K1.FF KX G VM ⟨M,M2,M3,M4,DRW,DSC,DPC,DMX,DPL,DNM,DPA,DTH,DLS,DDR,DWD,DTX,DIN,DNB,DMS,DRD,DCS,DAR,DLF,DLI,DPI,DST,DRI,DNW,DNA,DCA,DCT,DNC,DNL,DEB,DRB,DPL2,DPY,DPB,DHI,DNP,DRV,DIW,DAW,DNQ,DAB,DGO,DPA2,DWO,DWJ,DAN,DGN⟩ ?a ?l ?c ?k
  case a|l|c|k=>k_is
