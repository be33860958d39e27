import PyProof.Rows.All
import Wide.All
import OpenK.AllK
import Wide.FinOn
import Lean
import PyProof.EqAt
import PyProof.EqKinds
import PyProof.TupleCall
import PyProof.NeKinds
import PyProof.WalksEnum
import PyProof.EnumMake
import KE.KTryMore
import PyProof.NsDelKeeps
import PyProof.SumWalkG
import PyProof.SeqI3
import KE.KDictSum
import PyProof.AttrMiss
import PyProof.IsiH_list
import KE.KDictOf
import PyProof.ZipIter
import PyProof.TupleIter
import PyProof.Draws
import PyProof.StrCalls
import PySem.Challenge.RW_fewcounters_k64_rows_by_names
import PyProof.StrCalls2
import PyProof.StrCalls3
import PyProof.StrLawsTight
import PyProof.StrLawsChain
import PyProof.StrLawsJoin
import PyProof.Rows.StrItems
import PyProof.StrWalks
import PyProof.FString5
import PyProof.Rows.Range3
import PyProof.EnumIter
import KE.KRevIter
import PyProof.MeetsDict
set_option Elab.async false
set_option linter.all false
set_option maxRecDepth 100000
set_option maxHeartbeats 4000000
abbrev MA:=PySem.Str->Option PySem.Value
abbrev MB:=List (PySem.Addr×PySem.Obj)
abbrev MC:=List Int
abbrev ME:=List PySem.Str
abbrev MF:=Option PySem.Value
abbrev MG:=List PySem.Addr
abbrev MH:=List PySem.Value
abbrev MI:=List PySem.Expr
abbrev MJ:=List (Int×Int)
theorem SQ{a b:Prop}(h:a)(g:¬a):b:=absurd h g
theorem SR{c:Prop}[Decidable c](n:¬c){α:Type _}{t e:α}:(ite c t e)=e:=if_neg n
theorem SS{c:Prop}[Decidable c](n:c){α:Type _}{t e:α}:(ite c t e)=t:=if_pos n
theorem SU{p:Prop}[Decidable p](h:decide p=true):p:=of_decide_eq_true h
theorem SV{p:Prop}[Decidable p](h:decide p=false):¬p:=of_decide_eq_false h
theorem SW{p:Prop}[Decidable p](h:¬p):decide p=false:=decide_eq_false h
open Array renaming length_toList→ML
open Bool renaming false_ne_true→MM,and_eq_true→MN,eq_iff_iff→MO,beq_eq_decide_eq→MQ,or_eq_true→MR
open False renaming elim→MT
open ForInStep renaming yield→MU
open Int renaming emod_lt_of_pos→MV,emod_nonneg→MW,toNat_natCast→MY,le_refl→MZ,le_trans→M0
open List renaming getElem?_eq_some_iff→M1,getElem?_eq_getElem→M4,mem_singleton→M5,mem_cons_of_mem→M7,length_map→M8,length_append→M9,getD_eq_getElem?_getD→Na,mem_cons_self→Nb,getElem?_map→Nc,mem_cons→Nd,length_cons→Nf,mem_of_getElem?→Ng,mem_append_right→Nh,getElem?_set_self→Ni,mem_append→Nj,range→Nk,append_assoc→Nl,size_toArray→Nm,map_append→Nn,mem_append_left→Np,mem_iff_getElem?→Nq,length_nil→Nr,getElem?_set_ne→Nt,length_take→Nu,not_mem_nil→Nv,append_nil→Nw,mem_map→Nx,getElem?_append_right→Ny,map_cons→Nz,nodup_cons→ND,getElem?_append_left→NF,length_singleton→NG,take_succ→NH,Nodup→NI,nodup_append→NJ,getElem_mem→NK,take_length→NN,take_succ_cons→NQ,length_range→NR,length_set→NT,nil_append→NV,map_map→NX,getElem?_eq_none→NY,length_zip→NZ,flatMap_cons→N2,replicate→N3,length_replicate→N4,lookup→N5,cons_append→N6,filter_cons_of_pos→N7,filter_cons_of_neg→N8,mem_filter→N9,drop_eq_getElem_cons→Oa,lookup_cons→Ob,getElem?_range→Oc,foldl_append→Od,take_append_drop→Oe,dropLast_concat_getLast→Of,set_set→Og,filter_append→Oh,mem_range→Oi,find?_cons→Oj,take_zero→Ol,drop_of_length_le→Om,ext_getElem?→Oo,flatMap_append→Oq,filter_eq_self→Ot,foldl_cons→Ou,length_drop→Ov,getElem?_replicate→Ow,map_congr_left→Ox,getElem_of_mem→Oz,take_of_length_le→OA,length_filter_le→OB,of_mem_zip→OC,range_succ→OD,filterMap_cons→OE,map_nil→OF,length_reverse→OG,sum_cons→OH,nodup_nil→OI,mem_filterMap→OJ,mem_replicate→OK,filter_eq_nil_iff→OL,flatMap_singleton→OM,any_cons→ON,getElem?_reverse→OO,length_dropLast→OP,mem_of_mem_take→OQ,any_eq_true→OR,mem_flatMap→OS,range'→OT,forIn_cons→OU,map_drop→OW,sum_append→OX,getElem?_drop→OY,map_singleton→OZ
open Nat renaming le_refl→O0,le_trans→O2,zero_le→O3,lt_of_lt_of_le→O4,ne_of_lt→O5,lt_of_le_of_lt→O6,le_add_right→O7,lt_irrefl→O8,lt_or_ge→O9,zero_add→Pa,le_succ→Pb,lt_succ_self→Pc,min_le_left→Pe,ne_of_gt→Pf,lt_of_le_of_ne→Pg,not_lt→Ph,min_le_right→Pj,add_zero→Pl,add_assoc→Pm,le_of_lt→Po,le_of_eq→Pp,sub_self→Pq
open Ne renaming symm→Pr
open Option renaming map_eq_some_iff→Pt,some_ne_none→Pu,map_some→Pw,isSome_map→Px
open Prod renaming ext→Py
open PyProof.Rows renaming callWith_type1→Pz,boot_list→PD,slot_tuple_getitem→PH,boot_tuple→PJ,envOfC→PK,boot_int→PM,AllBare→PN,boot_range→PQ,subscriptTail→PR
open PySem renaming starEach→PU,Shared→PX,sizeLine→PZ,wpAny_bind→P0,mainGlobals→P1,Program→P2,wpAny_pure→P4,attributeBase→P6,Around→P7,backTo→P8,swapsWith→P9,FuncData→Qa,wpAny_truthy_bool→Qb,Keyword→Qc,compareOp→Qd,mem_of_lookup→Qe,IsPair→Qg,wpAny_field→Qh,foldedSetIterable→Qi,wpAny_mono→Qj,sysModules→Qk,wpAny_callSpecial?_slot→Ql,keywordEach→Qm,wpAny_newObj_type→Qn,valueAt→Qo,behindInMarks→Qp,boot_len→Qq,wpAny_seqItems→Qr,bootBuiltins→Qs,wpAny_setField_rec→Qt,wpAny_passesOwn→Qu,holding→Qv,binaryOp→Qw,wpAny_call_entry→Qx,backToKw→Qy,wpAny_pyIter_zip→Qz,assignEach→QA,assign→QB,NameKind→QC,call_meets→QD,wpAny_holding→QE,sliceBounds→QF,wpAny_letOwnedTupleGo_zip→QG,isTrue→QH,wpAny_pyIter_tuple→QI,wpAny_Call_Name_kw→QJ,tupleKind_room_in1→QK,getItem→QL,wpAny_pyIter_list→QM,wpAny_execs_nil→QN,letOwnedTupleGo→QO,IsPart→QP,typeIs_str→QQ,wpAny_rule→QR,wpAny_updateSeq_pair→QS,standAt→QT,codeAny→QU,bindArgs→QV,sizeLine_eq→QW,PassesOwn→QX,swapsWithSole→QY,swappedStores→QZ,intBits_le_64→Q0,wpAny_onRaise→Q1,callerA→Q2,codeAny_mono→Q3,tupleKind→Q4,strValues→Q5,IsRangeIter→Q6,subscripted→Q7,pyNext→Q8,rawInt→Q9,BindsTo→Ra,stored→Rb,Builtin→Rc,dictSetDefault→Rf,GenState→Rg,IntMulOk→Rh,wpAny_standAt→Ri,Str→Rj,Within→Rk
open PySem.Around renaming under→Rl
open PySem.Builtin.List renaming listTooLong→Rm
open PySem.Builtin.Range renaming rangeSize→Rn
open PySem.Builtin.Slice renaming slicePlaces→Ro,sliceAdjust→Rp
open PySem.Builtin.SmallTypes renaming nextOf→Rr,ownedTupleIsFree→Rt
open PySem.Builtin.Str renaming occurrences→Ru
open PySem.Builtin.Tuple renaming tupleExact→Rv
open PySem.Calls renaming callWith_builtin→Rx,spliced_cons→Ry
open PySem.Code renaming isFrame→Rz
open PySem.F renaming plainAttrs_list→RC,slot_list_append→RE,type_list_append→RF,slot_tuple_iterator_next→RG,slot_zip_next→RH,args_str_split_2→RJ,entry_str_split→RK,slot_str_split→RL
open PySem.Heap renaming get?_push_of_some→RM,lt_size→RN,get?_push_size→RP,size_push→RQ,SameBut→RR,get?_update_self→RS,dictOf_iff→RU,IsTuple→RV
open PySem.Heap.SameBut renaming update→RX
open PySem.NameKind renaming cell→RY
open PySem.Obj renaming mapSeq→RZ
open PySem.PassesOwn renaming never→R6
open PySem.PyData renaming keyHash→R7
open PySem.Shared renaming heap→R8
open PySem.Str renaming join→R9,ofString→Sa
open PySem.Txt renaming split→Sb
open PySem.Value renaming ref→Sd,none→Se,int→Sf,str→Sg,bool→Sh,float→Si,type→Sj
open PySem.W renaming Frag→Sk,nsIn→Sl,findIn→Sm,mg_none_of→Sn,fnOf→So,keepIn→Sq,mg_of→Sr,kia_one→Ss,codeIn→Su,emptyDict→Sv,instObj→Sw,hasDictIn→Sx,plainGet→Sz,plainOver→SD,makesIn→SE,methodObj→SF,takerIn→SG,OpenLaw→SH,lookIn→SJ,kitOne→SK,isFn→SN
open True renaming intro→SO
open List(map_set all_cons getElem_inj forIn_nil all_eq_true drop_length drop_zero take_nil filter_map prefix_rfl range'_one)
abbrev Ti(x:Rj):Prop:=(x==("__debug__":Rj))=false
abbrev Tz(x:Rj):Prop:=(x==("__classdict__":Rj))=false
def Tv:Lean.Syntax:=Lean.Unhygienic.run `(Lean.Parser.Tactic.tacticSeq|first | exact Or.inl rfl | exact Or.inr (Or.inl rfl) | exact Or.inr (Or.inr rfl))
def UH:Lean.Syntax:=Lean.Unhygienic.run `(Lean.Parser.Tactic.tacticSeq|first | exact Or.inl rfl | exact Or.inr rfl)
def UG:Lean.Syntax:=Lean.Unhygienic.run `(Lean.Parser.Tactic.tacticSeq|first | exact .inl rfl | exact .inr rfl)
namespace L2
open PySem PySem.Spec PyProof.Rows
section
variable {a b:Addr}
abbrev Key:=Sum Int Str
def nk:Key->Value->Bool
 | .inl k,v=>Value.isInt k v
 | .inr x,v=>Value.isStrOf x v
def LZ (w:World):Key->Int
 | .inl k=>hashInt k
 | .inr x=>hashStr w x
theorem dB:∀{k:Key}{v:Value},nk k v=true->(∃i t,k=Sum.inl i/\v=Sf i t)∨(∃x t,k=Sum.inr x/\v=Sg x t)
 | .inl i,v,h=>by
   obtain⟨t,e⟩:=Value.isInt_shape (k:=i) (v:=v) h;exact .inl ⟨i,t,rfl,e⟩
 | .inr x,v,h=>by
   obtain⟨t,e⟩:=Value.isStrOf_shape (x:=x) (v:=v) h;exact .inr ⟨x,t,rfl,e⟩
theorem xS (i:Int)(t:Tok):nk (.inl i) (.int i t)=true:=by simp[nk,Value.isInt]
theorem yq (x:Str)(t:Tok):nk (.inr x) (.str x t)=true:=by simp[nk,Value.isStrOf]
theorem Hj (a b:Int):decide ((Sum.inl a:Key)=Sum.inl b)=(a==b):=by
 by_cases e:a=b
 ·subst e;simp
 ·have h:¬(Sum.inl a:Key)=Sum.inl b:=λq=>e (Sum.inl.inj q);rw[SW h];exact(beq_eq_false_iff_ne.mpr e).symm
theorem Fw (a b:Str):decide ((Sum.inr a:Key)=Sum.inr b)=decide (a=b):=by
 by_cases e:a=b
 ·subst e;simp
 ·have h:¬(Sum.inr a:Key)=Sum.inr b:=λq=>e (Sum.inr.inj q);rw[SW h,SW e]
theorem Gd (a:Int)(b:Str):decide ((Sum.inl a:Key)=Sum.inr b)=false:=SW (λq=>nomatch q)
theorem IP (a:Str)(b:Int):decide ((Sum.inr a:Key)=Sum.inl b)=false:=SW (λq=>nomatch q)
def cg (prog:P2)(w:World):PySem.KeyKind prog w Key where
 is:=nk
 hash:=LZ w
 inj:=λv a b ha hb=>by
  rcases dB ha with⟨i,t,rfl,rfl⟩ | ⟨x,t,rfl,rfl⟩
  ·rcases dB hb with⟨j,u,rfl,e⟩ | ⟨y,u,rfl,e⟩
   ·injection e with e1 _;rw[e1]
   ·exact nomatch e
  ·rcases dB hb with⟨j,u,rfl,e⟩ | ⟨y,u,rfl,e⟩
   ·exact nomatch e
   ·injection e with e1 _;rw[e1]
 byValue:=λk v h=>by
  rcases dB h with⟨i,t,rfl,rfl⟩ | ⟨x,t,rfl,rfl⟩<;>rfl
 pyHash:=λhv h=>by
  rcases dB hv with⟨i,t,rfl,rfl⟩ | ⟨x,t,rfl,rfl⟩
  ·exact wpAny_pyHash_int h
  ·exact wpAny_pyHash_str h
 eqBool:=λhu hv h=>by
  rcases dB hu with⟨i,t,rfl,rfl⟩ | ⟨x,t,rfl,rfl⟩
  ·rcases dB hv with⟨j,u,rfl,rfl⟩ | ⟨y,u,rfl,rfl⟩
   ·rw[Hj] at h;exact wpAny_eqBool_int h
   ·rw[Gd] at h;exact SeqAt.EqAt.int_str i t y u _ _ _ _ h
  ·rcases dB hv with⟨j,u,rfl,rfl⟩ | ⟨y,u,rfl,rfl⟩
   ·rw[IP] at h;exact SeqAt.EqAt.str_int x t j u _ _ _ _ h
   ·rw[Fw] at h;exact wpAny_eqBool_str h
 «strs»:=λk x t v h=>by
  rcases dB h with⟨i,u,rfl,e⟩ | ⟨y,u,rfl,e⟩
  ·exact nomatch e
  ·injection e with e1 _;subst e1;cases v<;>rfl
theorem u6 (prog:P2)(w:World)(i:Int)(t:Tok):(cg prog w).is (.inl i) (.int i t)=true:=xS i t
theorem dC (prog:P2)(w:World)(x:Str)(t:Tok):(cg prog w).is (.inr x) (.str x t)=true:=yq x t
inductive V where
 | Tf | bl (b:Bool) | int (i:Int) | str (x:Str) | Vd (b:Array UInt8) | WV (b:UInt64) | ref (a:Addr) | ty (n:String)
 deriving DecidableEq
def RelV:V->Value->Prop
 | .Tf,u=>u=Se
 | .bl b,u=>u=Sh b
 | .int i,u=>∃t,u=Sf i t
 | .str x,u=>∃t,u=Sg x t
 | .Vd b,u=>∃t,u=Value.bytes b t
 | .WV b,u=>∃t,u=Si b t
 | .ref a,u=>u=Sd a
 | .ty n,u=>u=Sj n
abbrev Vals:List V->MH->Prop:=Paired RelV
theorem Vals.length {xs:List V}{us:MH}(r:Vals xs us):xs.length=us.length:=Paired.length r
theorem Vals.get:∀{xs:List V}{us:MH}{i:Nat}{x:V},Vals xs us->xs[i]?=some x->∃u,us[i]?=some u/\RelV x u
 | _,_,_,_,.nil,e=>by simp at e
 | _,_,0,_,.cons r _,e=>by simp at e;subst e;exact⟨_,rfl,r⟩
 | _,_,i+1,x,.cons _ t,e=>by
   obtain⟨u,h1,h2⟩:=Vals.get (i:=i) (x:=x) t (by simpa using e);exact⟨u,by simpa using h1,h2⟩
theorem Vals.set {x:V}{u:Value}(r:RelV x u):∀{xs:List V}{us:MH}(i:Nat),Vals xs us->Vals (xs.set i x) (us.set i u)
 | _,_,_,.nil=>.nil
 | _,_,0,.cons _ t=>.cons r t
 | _,_,i+1,.cons q t=>.cons q (Vals.set r i t)
theorem Vals.append:∀{xs ys:List V}{us ws:MH},Vals xs us->Vals ys ws->Vals (xs++ys) (us++ws)
 | _,_,_,_,.nil,s=>s
 | _,_,_,_,.cons r t,s=>.cons r (Vals.append t s)
theorem Vals.take:∀{xs:List V}{us:MH}(n:Nat),Vals xs us->Vals (xs.take n) (us.take n)
 | _,_,0,_=>.nil
 | _,_,_+1,.nil=>.nil
 | _,_,n+1,.cons r t=>.cons r (Vals.take n t)
theorem Vals.drop:∀{xs:List V}{us:MH}(n:Nat),Vals xs us->Vals (xs.drop n) (us.drop n)
 | _,_,0,r=>r
 | _,_,_+1,.nil=>.nil
 | _,_,n+1,.cons _ t=>Vals.drop n t
def iH:Option V->MF->Prop
 | some v,some u=>RelV v u
 | none,none=>True
 | _,_=>False
def KV {κ:Type}:List (κ×V)->List (κ×Value)->Prop:=Paired λ(p:κ×V)(q:κ×Value)=>p.1=q.1/\RelV p.2 q.2
def kV:Key->V
 | .inl i=>.int i
 | .inr x=>.str x
inductive HO where
 | lst (xs:List V)
 | tup (xs:List V)
 | dK (kvs:List (Key×V)) | dT (kvs:List (List Key×V))
 | set (S:Int->Bool) (n:Nat)
 | ins (C dx:Addr) (fs:List (Str×V))
 | own (x:Addr)
 | xd (fs:List (Str×V))
 | met (f x:Addr)
 | VB (lo hi:Int)
 | Ul (o:Obj) (u:HO)
 | Wq (ps:Array Value)
 | ext (φ:Heap->Prop)
abbrev Hp:=Addr->Option HO
def upd (H:Hp)(a:Addr)(o:HO):Hp:=λb=>if b=a then some o else H b
theorem aF {H:Hp}{o:HO}:upd H a o a=some o:=by unfold upd;rw[SS rfl]
theorem aG {H:Hp}{o:HO}(h:b≠a):upd H a o b=H b:=by unfold upd;rw[SR h]
theorem JD {H:Hp}{o u:HO}(h:H a=some o)(h':H b=some u)(d:o≠u):a≠b:=by
 intro e;subst e;rw[h] at h';exact d (Option.some.inj h')
theorem cT {H:Hp}{o:HO}(h:H a=some o)(h':H b=none):a≠b:=by
 intro e;subst e;rw[h] at h';cases h'
end
section
variable (P:P2)(w:World)
def cQ (H:Hp)(h:Heap)(a:Addr):HO->Prop
 | .lst xs=>xs.length<=PZ/\∃(S5:MH)(n:Nat),Vals xs S5/\h.get? a=some {cls:=.type "list",data:=.seq S5.toArray n}
 | .tup xs=>xs.length<=PZ/\∃S5:MH,Vals xs S5/\IsTup h a S5.toArray
 | .dK kvs=>kvs.length<=PZ/\(a==Qk)=false/\∃vs,KV kvs vs/\h.DictOf (cg P w) a vs
 | .dT kvs=>kvs.length<=PZ/\(a==Qk)=false/\∃xs:List (List Key×Addr×Value),
  Paired (λ(p:List Key×V)(q:List Key×Addr×Value)=>p.1=q.1/\H q.2.1=some (.tup (p.1.map kV))/\RelV p.2 q.2.2) kvs xs/\
  ∃o es ep,h.get? a=some o/\o.ExactDict/\o.data= .dict es ep/\es.toList=xs.map (entryOfKey (Q4 (cg P w)))/\(xs.map (·.1)).Nodup
 | .set S n=>h.SetOf (intKind P w) a S n
 | .ins C dx fs=>H dx=some (.own a)/\fs.length<=1000/\dx≠a/\h.get? a=some (Sw C dx)/\
  ∃mA,h.Ns1 dx mA/\(∀f,iH (fs.lookup f) (mA f))/\Rk mA (fs.map (·.1))
 | .own _=>∃o,h.get? a=some o
 | .xd fs=>∃mA,h.Ns1 a mA/\∀f,iH (fs.lookup f) (mA f)
 | .VB lo hi=>∃t u v,h.get? a=some {cls:=.type "range",data:=.fields #[.int lo t,.int hi u,.int 1 v]}
 | .Ul o u=>h.get? a=some o/\cQ H h a u
 | .Wq ps=>h.get? a=some {cls:=.none,data:=.fields ps}
 | .met f x=>h.get? a=some (SF (.ref f) (.ref x))
 | .ext φ=>φ h/\(∃o,h.get? a=some o)/\∀h1 h2:Heap,φ h1->(∀o,h1.get? a=some o->h2.get? a=some o)->φ h2
def d7 (H:Hp)(h:Heap):Prop:=∀a o,H a=some o->cQ P w H h a o
end
section
variable {P:P2}{w:World}{H H':Hp}{h h':Heap}{a:Addr}{o:HO}
theorem cQ.lt (x:cQ P w H h a o):a<h.objs.size:=by
 cases o with
 | lst xs=>obtain⟨_,_,_,_,e⟩:=x;exact RN e
 | tup xs=>obtain⟨_,_,_,p⟩:=x;exact p.lt
 | dK kvs=>obtain⟨_,_,_,_,o,_,_,e,_⟩:=x;exact RN e
 | dT kvs=>obtain⟨_,_,_,_,o,_,_,e,_⟩:=x;exact RN e
 | set S n=>obtain⟨o,_,_,_,e,_⟩:=x;exact RN e
 | ins C dx fs=>obtain⟨_,_,_,e,_⟩:=x;exact RN e
 | own y=>obtain⟨_,e⟩:=x;exact RN e
 | xd fs=>obtain⟨_,⟨_,_,_,e,_⟩,_⟩:=x;exact RN e
 | VB lo hi=>obtain⟨_,_,_,e⟩:=x;exact RN e
 | Ul ob u=>obtain⟨e,_⟩:=x;exact RN e
 | Wq ps=>exact RN (show h.get? a=some _ from x)
 | met f y=>exact RN (show h.get? a=some _ from x)
 | ext φ=>obtain⟨_,⟨_,e⟩,_⟩:=x;exact RN e
theorem Paired.AK {α β:Type}{F G:α->β->Prop}:∀{l₁:List α}{l₂:List β},Paired F l₁ l₂->(∀a b,F a b->G a b)->Paired G l₁ l₂
 | _,_,.nil,_=>.nil
 | _,_,.cons r t,f=>.cons (f _ _ r) (Paired.AK t f)
theorem cQ.TY (x:cQ P w H h a o)(k:∀b u,(b=a∨H b=some (.own a))->h.get? b=some u->h'.get? b=some u)(ho:∀b,H b=some (.own a)->H' b=some (.own a))(ht:∀b xs,H b=some (.tup xs)->H' b=some (.tup xs)):cQ P w H' h' a o:=by
 induction o with
 | lst xs=>obtain⟨z,S5,n,r,e⟩:=x;exact⟨z,S5,n,r,k _ _ (.inl rfl) e⟩
 | tup xs=>obtain⟨z,S5,r,ob,e,c⟩:=x;exact⟨z,S5,r,ob,k _ _ (.inl rfl) e,c⟩
 | dK kvs=>obtain⟨z,y,vs,r,ob,es,ep,e,c⟩:=x;exact⟨z,y,vs,r,ob,es,ep,k _ _ (.inl rfl) e,c⟩
 | dT kvs=>
   obtain⟨z,y,xs,r,ob,es,ep,e,c⟩:=x;exact⟨z,y,xs,Paired.AK r λp q z=>⟨z.1,ht _ _ z.2.1,z.2.2⟩,ob,es,ep,k _ _ (.inl rfl) e,c⟩
 | set S n=>obtain⟨ob,es,ep,t,e,c⟩:=x;exact⟨ob,es,ep,t,k _ _ (.inl rfl) e,c⟩
 | ins C dx fs=>
   obtain⟨d,z,ne,e,mA,⟨od,es,ep,e2,c⟩,r⟩:=x;exact⟨ho _ d,z,ne,k _ _ (.inl rfl) e,mA,⟨od,es,ep,k _ _ (.inr d) e2,c⟩,r⟩
 | own y=>obtain⟨ob,e⟩:=x;exact⟨ob,k _ _ (.inl rfl) e⟩
 | xd fs=>obtain⟨mA,⟨od,es,ep,e,c⟩,r⟩:=x;exact⟨mA,⟨od,es,ep,k _ _ (.inl rfl) e,c⟩,r⟩
 | VB lo hi=>obtain⟨t,u,v,e⟩:=x;exact⟨t,u,v,k _ _ (.inl rfl) e⟩
 | Ul ob u ih=>obtain⟨e,q⟩:=x;exact⟨k _ _ (.inl rfl) e,ih q⟩
 | Wq ps=>
   have e:h.get? a=some {cls:=.none,data:=.fields ps}:=x;show h'.get? a=some {cls:=.none,data:=.fields ps};exact k a _ (.inl rfl) e
 | met f y=>
   have e:h.get? a=some (SF (.ref f) (.ref y)):=x;show h'.get? a=some (SF (.ref f) (.ref y));exact k a _ (.inl rfl) e
 | ext φ=>obtain⟨p,⟨o,e⟩,st⟩:=x;exact⟨st _ _ p λo q=>k _ _ (.inl rfl) q,⟨o,k _ _ (.inl rfl) e⟩,st⟩
theorem d7.lt (x:d7 P w H h)(e:H a=some o):a<h.objs.size:=(x a o e).lt
theorem d7.fresh (x:d7 P w H h)(e:h.objs.size<=a):H a=none:=by
 cases q:H a with
 | none=>rfl
 | some u=>exact SQ (O4 (x.lt q) e) (O8 _)
theorem d7.kept (x:d7 P w H h)(k:∀b u,h.get? b=some u->h'.get? b=some u):d7 P w H h':=λa o e=>
 (x a o e).TY (λb u _ q=>k b u q) (λ_ q=>q) λ_ _ q=>q
theorem d7.laid (x:d7 P w H h)(k:∀b u,h.get? b=some u->h'.get? b=some u)(hp:h.objs.size<=a)(new:cQ P w (upd H a o) h' a o):d7 P w (upd H a o) h':=λb u e=>by
 have hn:=x.fresh hp;by_cases hb:b=a
 ·subst hb;rw[aF] at e;cases e;exact new
 ·rw[aG hb] at e;exact(x b u e).TY (λc v _ q=>k c v q) (λc q=>by rw[aG (cT q hn)];exact q) λc xs q=>by rw[aG (cT q hn)];exact q
end
def Rd (H:Hp)(a:Addr)(u:HO):Prop:=H a=some u∨∃o,H a=some (.Ul o u)
theorem Rd.ok {P:P2}{w:World}{H:Hp}{h:Heap}{a:Addr}{u:HO}(r:Rd H a u)(x:d7 P w H h):cQ P w H h a u:=by
 rcases r with r | ⟨o,r⟩
 ·exact x a u r
 ·obtain⟨_,q⟩:=x a _ r;exact q
def zy:Option HO->Prop
 | some (.lst _)=>True
 | some (.dK _)=>True
 | some (.dT _)=>True
 | some (.set _ _)=>True
 | some (.ins _ _ _)=>True
 | some (.ext _)=>True
 | _=>False
section
variable {P:P2}{w:World}{H:Hp}{h h':Heap}{x e:Addr}{o':HO}
theorem d7.write (ok:d7 P w H h)(mu:zy (H x))(he:e=x∨H e=some (.own x))(k:∀b u,b≠e->h.get? b=some u->h'.get? b=some u)(W5:∃u,h'.get? e=some u)(new:cQ P w (upd H x o') h' x o'):d7 P w (upd H x o') h':=λb u q=>by
 have Xj:∀c y,H c=some (.own y)->c≠x:=λc y r z=>by subst z;rw[r] at mu;exact mu
 have ntup:∀c xs,H c=some (.tup xs)->c≠x:=λc xs r z=>by subst z;rw[r] at mu;exact mu
 by_cases hb:b=x
 ·subst hb;rw[aF] at q;cases q;exact new
 ·rw[aG hb] at q;by_cases VG:b=e
  ·have q':H b=some (.own x):=by
    rcases he with z | z
    ·exact SQ (VG.trans z) hb
    ·rw[VG];exact z
   rw[q] at q';cases q'
   obtain⟨v,hv⟩:=W5;exact⟨v,by rw[VG];exact hv⟩
  ·refine(ok b u q).TY (λc v hc r=>k c v ?_ r) (λc r=>by rw[aG (Xj c b r)];exact r) λc xs r=>by rw[aG (ntup c xs r)];exact r
   rcases hc with rfl | hc
   ·exact VG
   ·rintro rfl;rcases he with z | z
    ·exact Xj c b hc z
    ·rw[hc] at z;cases z;exact hb rfl
end
structure Un (fs ex:MG)(H H':Hp)(h h':Heap):Prop where
 keep:∀b o,h.get? b=some o->H b=none->b∉fs->b∉ex->h'.get? b=some o
 slot:∀b o,h.get? b=some o->H b=none->b∈fs->b∉ex->∃sl,h'.get? b=some {o with slots:=sl}
 free:∀b o,h.get? b=some o->H b=none->b∉ex->H' b=none
 there:∀b o,h.get? b=some o->b∉ex->∃o',h'.get? b=some o'
 Uy:∀b xs,H b=some (.tup xs)->H' b=some (.tup xs)
 Uu:∀b o u,H b=some (.Ul o u)->H' b=some (.Ul o u)
 Uz:∀b ps,H b=some (.Wq ps)->∃more,H' b=some (.Wq (ps++more))
section
variable {fs Vc ex ex':MG}{H H1 H2:Hp}{h h1 h2 h':Heap}{a x e:Addr}{o:HO}
theorem Un.any (u:Un fs ex H H1 h h1){b:Addr}{ob:Obj}(q:h.get? b=some ob)(n:H b=none)(hx:b∉ex):∃sl,h1.get? b=some {ob with slots:=sl}:=by
 by_cases hb:b∈fs
 ·exact u.slot b ob q n hb hx
 ·exact⟨ob.slots,u.keep b ob q n hb hx⟩
theorem Un.kept (k:∀b u,h.get? b=some u->h'.get? b=some u):Un fs ex H H h h':=
 ⟨λb ob q _ _ _=>k b ob q,λb ob q _ _ _=>⟨ob.slots,k b ob q⟩,λ_ _ _ n _=>n,λb ob q _=>⟨ob,k b ob q⟩,λ_ _ q=>q,λ_ _ _ q=>q,λ_ ps q=>⟨#[],by rw[q];simp⟩⟩
theorem Un.refl:Un fs ex H H h h:=Un.kept λ_ _ q=>q
theorem Un.laid (k:∀b u,h.get? b=some u->h'.get? b=some u)(hp:h.objs.size<=a)(hn:H a=none):Un fs ex H (upd H a o) h h' where
 keep:=λb u q _ _ _=>k b u q
 slot:=λb u q _ _ _=>⟨u.slots,k b u q⟩
 free:=λb u q n _=>by rw[aG (O5 (O4 (RN q) hp))];exact n
 there:=λb u q _=>⟨u,k b u q⟩
 Uy:=λb xs q=>by rw[aG (cT q hn)];exact q
 Uu:=λb u xs q=>by rw[aG (cT q hn)];exact q
 Uz:=λb ps q=>⟨#[],by rw[aG (cT q hn),q];simp⟩
theorem Un.write (mu:zy (H x))(he:e=x∨H e=some (.own x))(k:∀b u,b≠e->h.get? b=some u->h'.get? b=some u)(W5:∃u,h'.get? e=some u):Un fs ex H (upd H x o) h h':=by
 have hx:∀b,H b=none->b≠x:=λb n z=>by subst z;rw[n] at mu;exact mu
 have hb:∀b,H b=none->b≠e:=λb n z=>by
  subst z;rcases he with r | r
  ·exact hx b n r
  ·rw[n] at r;cases r
 have hm:∀b u,H b=some u->¬zy (some u)->b≠x:=λb u q nm z=>by subst z;rw[q] at mu;exact nm mu
 refine⟨λb u q n _ _=>k b u (hb b n) q,λb u q n _ _=>⟨u.slots,k b u (hb b n) q⟩,λb u q n _=>by rw[aG (hx b n)];exact n,λb u q _=>?_,
  λb xs q=>by rw[aG (hm b _ q λz=>z)];exact q,λb u xs q=>by rw[aG (hm b _ q λz=>z)];exact q,λb ps q=>⟨#[],by rw[aG (hm b _ q λz=>z),q];simp⟩⟩
 by_cases VG:b=e
 ·subst VG;exact W5
 ·exact⟨u,k b u VG q⟩
end
def BN (h:Heap)(H:Hp):MG:=(Nk h.objs.size).filter λa=>(H a).isSome
def lK (h:Heap)(H:Hp):Heap:=PySem.W.hideAll h (BN h H)
theorem xY (h:Heap)(H:Hp):(lK h H).objs.size=h.objs.size:=PySem.W.hideAll_size _ _
theorem AE {h:Heap}{H:Hp}{b:Addr}{o:Obj}(e:h.get? b=some o)(n:H b=none):(lK h H).get? b=some o:=
 PySem.W.hideAll_get _ e λhm=>by
  have q:(H b).isSome=true:=(N9.mp hm).2;rw[n] at q;simp at q
theorem CY {h:Heap}{H:Hp}{b:Addr}{o:Obj}(e:(lK h H).get? b=some o):h.get? b=some o/\H b=none:=by
 have e':h.get? b=some o:=PySem.W.of_hideAll (BN h H) e;refine⟨e',?_⟩;cases q:H b with
 | none=>rfl
 | some x=>
   have hm:b∈BN h H:=N9.mpr ⟨Oi.mpr (RN e'),by simp[q]⟩;have z:(lK h H).get? b=none:=PySem.W.hideAll_none (BN h H) hm;rw[z] at e;cases e
structure Mod (K:Sk)(mg:MA)(base:Heap):Prop where
 kin:K.In base
 glob:base.Ns P1 mg
 blt:∃mb,base.Ns builtinsNs mb/\∀x:Str,x≠"__name__"->mb x=Qs x
 nolimit:base.NoLimit
structure Cx where
 prog:P2
 w:World
 K:Sk
 mg:MA
 base:Heap
 A:P7
 N:ME
 s₀:PX
 H₀:Hp
 env:Env
 outer:List Env
 stack:List Env
 ex:MG
 fn:Str->Bool
 calm:Bool
 pn:MB
 xe:Value->PX->Prop
def lA (l:List Env):MG:=l.filterMap (·.frame)
abbrev Cx.fs (X:Cx):MG:=lA X.outer
def cb (sc:Scope)(x:Str):Prop:=sc.names.lookup x=some .local∨sc.names.lookup x=some .cell∨sc.names.lookup x=some .free
def Loc (sc:Scope)(x:Str):Prop:=sc.names.lookup x=some .local∨sc.names.lookup x=some .cell
def Look (env:Env)(h:Heap)(m:MA)(x:Str)(u:Value):Prop:=
 (env.kindOf x=some .local/\m x=some u)∨((env.kindOf x=some .cell∨env.kindOf x=some .free)/\∃c,env.cells.lookup x=some c/\h.IsCell c (some u))
structure Cx.Ok (X:Cx):Prop where
 mod:Mod X.K X.mg X.base
 kind:X.env.scope.kind= .function
 glob:X.env.globals=P1
 blt:X.env.builtins=builtinsNs
 above:X.s₀.heap.objs.size<=X.env.locals
 inj:∀x y c,X.env.cells.lookup x=some c->X.env.cells.lookup y=some c->x=y
 has:∀x,(X.env.kindOf x=some .cell∨X.env.kindOf x=some .free)->∃c,X.env.cells.lookup x=some c
 X4:∀x c,X.fn x=true->X.env.cells.lookup x=some c->X.s₀.heap.objs.size<=c
 hd:X.calm=true->X.A.handled=none
 frames:X.A.frames=some X.stack
 stk:X.stack=X.outer∨(X.stack=X.env::X.outer/\X.env.frame=some X.env.locals)
 exf:∀b∈X.ex,b≠X.env.locals/\∀x c,X.env.cells.lookup x=some c->c≠b
 bs:∀b o,X.base.get? b=some o->X.s₀.heap.get? b=some o/\X.H₀ b=none
 V0:X.base.objs.size<=X.s₀.heap.objs.size
 Vp:∀b o,X.base.get? b=some o->b∉X.ex
 Vi:∀b∈X.ex,b∉X.fs
 Ur:X.s₀.heap.FunFrames X.base X.outer
 WU:∀b∈X.fs,X.H₀ b=none
structure Inv (X:Cx)(S3:MB)(σ:List (Option V))(H:Hp)(s:PX):Prop where
 ok:X.Ok
 os:s.os=X.s₀.os
 bare:PN s.gens
 base:Un X.fs X.ex X.H₀ H X.s₀.heap s.heap
 loc:∃m,s.heap.Ns X.env.locals m/\∀(i:Nat)(x:Str)(v:V),X.N[i]?=some x->σ[i]?=some (some v)->cb X.env.scope x->∃u,RelV v u/\Look X.env s.heap m x u
 cell:∀x c,X.env.cells.lookup x=some c->∃v,s.heap.IsCell c v
 free:H X.env.locals=none
 T8:∀x c,X.env.cells.lookup x=some c->H c=none
 pin:∀p∈X.pn++S3,s.heap.get? p.1=some p.2/\H p.1=none/\p.1≠X.env.locals/\p.1∉X.fs/\∀v,p.2.data≠ .cell v
 S8:d7 X.prog X.w H s.heap
 len:σ.length=X.N.length
section
variable {X:Cx}{S3:MB}{σ:List (Option V)}{H H':Hp}{s:PX}{h':Heap}
variable {t':Nat}{ch:MG}{x:Str}{i:Nat}
theorem Cx.Ok.Mb (ok:X.Ok){b:Addr}{o:Obj}(e:X.base.get? b=some o):b∉X.fs:=λhb=>by
 have:=(ok.Ur.mem hb).1;rw[e] at this;cases this
theorem Inv.bs (I:Inv X S3 σ H s):∀b o,X.base.get? b=some o->s.heap.get? b=some o/\H b=none:=λb o e=>
 ⟨I.base.keep b o (I.ok.bs b o e).1 (I.ok.bs b o e).2 (I.ok.Mb e) (I.ok.Vp b o e),I.base.free b o (I.ok.bs b o e).1 (I.ok.bs b o e).2 (I.ok.Vp b o e)⟩
theorem Inv.bk (I:Inv X S3 σ H s):∀b o,X.base.get? b=some o->s.heap.get? b=some o:=λb o e=>(I.bs b o e).1
theorem Inv.mod (I:Inv X S3 σ H s):Mod X.K X.mg X.base:=I.ok.mod
theorem Inv.fk (I:Inv X S3 σ H s):X.K.In s.heap:=I.ok.mod.kin.keeps I.bk
theorem Inv.lt (I:Inv X S3 σ H s):X.env.locals<s.heap.objs.size:=let ⟨_,hn,_⟩:=I.loc;hn.lt
theorem Inv.sz (I:Inv X S3 σ H s):X.s₀.heap.objs.size<=s.heap.objs.size:=O2 I.ok.above (Po I.lt)
theorem Inv.Mn (I:Inv X S3 σ H s){a:Addr}(h:s.heap.objs.size<=a):a∉X.fs:=λhb=>by
 obtain⟨_,o,ho,_⟩:=I.ok.Ur.mem hb;exact SQ (O4 (RN ho) (O2 I.sz h)) (O8 _)
theorem Inv.WW (I:Inv X S3 σ H s):∀x c,X.env.cells.lookup x=some c->c≠X.env.locals:=λx c e z=>by
 obtain⟨v,o,ho,hd⟩:=I.cell x c e;obtain⟨m,⟨o',es,ep,UI,XQ,_⟩,_⟩:=I.loc;rw[z,UI] at ho;cases ho;rw[XQ] at hd;cases hd
theorem Inv.Ur (I:Inv X S3 σ H s):s.heap.FunFrames X.base X.outer:=by
 have all:∀(l:List Env),(∀b∈lA l,b∈X.fs)->X.s₀.heap.FunFrames X.base l->s.heap.FunFrames X.base l:=by
  intro l
  induction l with
  | nil=>intro _ _;trivial
  | cons env r ih=>
    intro hs hl;obtain⟨hk,⟨L,o,hf,hn,ho,hd⟩,hr⟩:=hl;have hL:L∈X.fs:=hs L (by unfold lA;rw[OE,hf];exact Nb);obtain⟨sl,e⟩:=I.base.slot L o ho (I.ok.WU L hL) hL λz=>I.ok.Vi L z hL;exact⟨hk,⟨L,_,hf,hn,e,hd⟩,ih (λb hb=>hs b (by unfold lA;rw[OE,hf];exact M7 _ hb)) hr⟩
 exact all X.outer (λ_ hb=>hb) I.ok.Ur
theorem Inv.stack (I:Inv X S3 σ H s):s.heap.FunFrames X.base X.stack:=by
 rcases I.ok.stk with e | ⟨e,hf⟩
 ·rw[e];exact I.Ur
 ·rw[e];obtain⟨m,hn,_⟩:=I.loc;refine .cons (by rw[I.ok.kind];decide) hf hn ?_ I.Ur;exact Heap.get?_none_of_le (O2 I.ok.V0 I.ok.above)
theorem Inv.uU (I:Inv X S3 σ H s):∀b∈lA X.stack,b∈X.env.locals::X.fs:=λb hb=>by
 rcases I.ok.stk with e | ⟨e,hf⟩
 ·rw[e] at hb;exact M7 _ hb
 ·rw[e] at hb;unfold lA at hb;rw[OE,hf] at hb;exact hb
theorem Inv.vV (I:Inv X S3 σ H s):∀b∈lA X.stack,H b=none:=λb hb=>by
 rcases Nd.mp (I.uU b hb) with e | hb
 ·rw[e];exact I.free
 ·obtain⟨_,o,ho,_⟩:=I.ok.Ur.mem hb;exact I.base.free b o ho (I.ok.WU b hb) λz=>I.ok.Vi b z hb
theorem Inv.step {g':Array Rg}{d':Drawn}(I:Inv X S3 σ H s)(Vl:∀b∈ch,(b∈X.ex∨X.s₀.heap.objs.size<=b)/\b≠X.env.locals/\(∀x c,X.env.cells.lookup x=some c->c≠b)/\∀p∈X.pn++S3,p.1≠b)(keep:∀b o,b≠X.env.locals->b∉X.fs->b∉ch->s.heap.get? b=some o->H b=none->h'.get? b=some o)(slot:∀b o,b≠X.env.locals->b∈X.fs->b∉ch->s.heap.get? b=some o->H b=none->∃sl,h'.get? b=some {o with slots:=sl})(free:∀b o,b∉ch->s.heap.get? b=some o->H b=none->H' b=none)(there:∀b o,b∉ch->s.heap.get? b=some o->∃o',h'.get? b=some o')(Uy:∀b xs,H b=some (.tup xs)->H' b=some (.tup xs))(Uu:∀b o u,H b=some (.Ul o u)->H' b=some (.Ul o u))(Uz:∀b ps,H b=some (.Wq ps)->∃more,H' b=some (.Wq (ps++more)))(ns:∀m,s.heap.Ns X.env.locals m->h'.Ns X.env.locals m)(S8:d7 X.prog X.w H' h')(hg:PN g'):
 Inv X S3 σ H' {s with heap:=h',gens:=g',drawn:=d',toks:=t'}:=by
 have neL:∀b o,X.s₀.heap.get? b=some o->b≠X.env.locals:=λb o e=>O5 (O4 (RN e) I.ok.above);have Vq:∀b o,X.s₀.heap.get? b=some o->b∉X.ex->b∉ch:=λb o e hx hb=>by
  rcases(Vl b hb).1 with z | z
  ·exact hx z
  ·exact SQ (O4 (RN e) z) (O8 _)
 have cellK:∀x c,X.env.cells.lookup x=some c->∀v,s.heap.IsCell c v->h'.IsCell c v:=λx c e v ⟨o,ho,hd⟩=>by
  have Xo:c∉ch:=λz=>(Vl c z).2.2.1 x c e rfl;by_cases hc:c∈X.fs
  ·obtain⟨sl,q⟩:=slot c o (I.WW x c e) hc Xo ho (I.T8 x c e);exact⟨_,q,hd⟩
  ·exact⟨o,keep c o (I.WW x c e) hc Xo ho (I.T8 x c e),hd⟩
 refine⟨I.ok,I.os,hg,⟨λb o e n hb hx=>?_,λb o e n hb hx=>?_,λb o e n hx=>?_,λb o e hx=>?_,λb xs e=>Uy b xs (I.base.Uy b xs e),λb o xs e=>Uu b o xs (I.base.Uu b o xs e),λb ps e=>?_⟩,?_,λx c e=>?_,?_,λx c e=>?_,λp hp=>?_,S8,I.len⟩
 ·exact keep b o (neL b o e) hb (Vq b o e hx) (I.base.keep b o e n hb hx) (I.base.free b o e n hx)
 ·obtain⟨sl,e1⟩:=I.base.slot b o e n hb hx;obtain⟨sl',e2⟩:=slot b _ (neL b o e) hb (Vq b o e hx) e1 (I.base.free b o e n hx);exact⟨sl',e2⟩
 ·obtain⟨o',e1⟩:=I.base.there b o e hx;exact free b o' (Vq b o e hx) e1 (I.base.free b o e n hx)
 ·obtain⟨o',e1⟩:=I.base.there b o e hx;exact there b o' (Vq b o e hx) e1
 ·obtain⟨m1,e1⟩:=I.base.Uz b ps e;obtain⟨m2,e2⟩:=Uz b _ e1;exact⟨m1++m2,by rw[e2,Array.append_assoc]⟩
 ·obtain⟨m,hn,hl⟩:=I.loc;refine⟨m,ns m hn,λi x v e1 e2 e3=>?_⟩;obtain⟨u,r,l⟩:=hl i x v e1 e2 e3;refine⟨u,r,?_⟩;rcases l with l | ⟨k,c,e,z⟩
  ·exact .inl l
  ·exact .inr ⟨k,c,e,cellK x c e _ z⟩
 ·obtain⟨v,z⟩:=I.cell x c e;exact⟨v,cellK x c e v z⟩
 ·obtain⟨m,⟨o,_,_,ho,_⟩,_⟩:=I.loc;exact free _ o (λz=>(Vl _ z).2.1 rfl) ho I.free
 ·obtain⟨v,o,ho,hd⟩:=I.cell x c e;exact free c o (λz=>(Vl c z).2.2.1 x c e rfl) ho (I.T8 x c e)
 ·obtain⟨e,n,ne,nf,d⟩:=I.pin p hp;have Xo:p.1∉ch:=λz=>(Vl p.1 z).2.2.2 p hp rfl;exact⟨keep p.1 p.2 ne nf Xo e n,free p.1 p.2 Xo e n,ne,nf,d⟩
theorem Inv.un (I:Inv X S3 σ H s)(u:Un X.fs [] H H' s.heap h')(S8:d7 X.prog X.w H' h'):Inv X S3 σ H' {s with heap:=h',toks:=t'}:=by
 obtain⟨m,⟨o,es,ep,ho,r⟩,_⟩:=id I.loc;obtain⟨sl,hL⟩:=u.any ho I.free (by simp);exact I.step (g':=s.gens) (d':=s.drawn) (ch:=[]) (λ_ z=>nomatch z) (λb o _ hb _ e n=>u.keep b o e n hb (by simp)) (λb o _ hb _ e n=>u.slot b o e n hb (by simp)) (λb o _ e n=>u.free b o e n (by simp)) (λb o _ e=>u.there b o e (by simp)) u.Uy u.Uu u.Uz (λm' hm=>by
  obtain⟨o',es',ep',UI,r'⟩:=hm;rw[ho] at UI;cases UI
  exact⟨_,es',ep',hL,r'⟩) S8 I.bare
theorem Inv.call {g':Array Rg}{d':Drawn}(I:Inv X S3 σ H s)(u:Un (lA X.stack) ch H H' s.heap h')(S8:d7 X.prog X.w H' h')(hg:PN g')(Vl:∀b∈ch,(b∈X.ex∨X.s₀.heap.objs.size<=b)/\b≠X.env.locals/\(∀x c,X.env.cells.lookup x=some c->c≠b)/\∀p∈X.pn++S3,p.1≠b):
 Inv X S3 σ H' {s with heap:=h',gens:=g',drawn:=d',toks:=t'}:=by
 obtain⟨m,⟨o,es,ep,ho,r⟩,_⟩:=id I.loc;obtain⟨sl,hL⟩:=u.any ho I.free λz=>(Vl _ z).2.1 rfl;exact I.step (ch:=ch) Vl (λb o hL hb hc e n=>u.keep b o e n (λz=>(Nd.mp (I.uU b z)).elim hL hb) hc) (λb o _ _ hc e n=>u.any e n hc) (λb o hc e n=>u.free b o e n hc) (λb o hc e=>u.there b o e hc) u.Uy u.Uu u.Uz (λm' hm=>by
  obtain⟨o',es',ep',UI,r'⟩:=hm;rw[ho] at UI;cases UI
  exact⟨_,es',ep',hL,r'⟩) S8 hg
theorem Inv.turned {it:Addr}(I:Inv X S3 σ H s)(k:∀b o,b≠it->s.heap.get? b=some o->h'.get? b=some o)(hn:H it=none)(hL:it≠X.env.locals)(h1:it∈X.ex∨X.s₀.heap.objs.size<=it)(h2:∀x c,X.env.cells.lookup x=some c->c≠it)(h3:∀p∈X.pn++S3,p.1≠it):Inv X S3 σ H {s with heap:=h',toks:=t'}:=by
 have Xm:∀b u,H b=some u->b≠it:=λb u e z=>by rw[z,hn] at e;cases e
 refine I.step (g':=s.gens) (d':=s.drawn) (ch:=[it]) (λb hb=>?_) (λb o _ _ hc e _=>k b o (λz=>hc (by simp[z])) e) (λb o _ _ hc e _=>⟨o.slots,k b o (λz=>hc (by simp[z])) e⟩) (λ_ _ _ _ n=>n)
  (λb o hc e=>⟨o,k b o (λz=>hc (by simp[z])) e⟩) (λ_ _ e=>e) (λ_ _ _ e=>e) (λb ps e=>⟨#[],by rw[e];simp⟩) (λm hm=>?_) (λb u e=>?_) I.bare
 ·have e:b=it:=by simpa using hb
  subst e;exact⟨h1,hL,h2,h3⟩
 ·obtain⟨o,es,ep,ho,r⟩:=hm;exact⟨o,es,ep,k _ o (Pr hL) ho,r⟩
 ·refine(I.S8 b u e).TY (λc v hc q=>k c v ?_ q) (λ_ q=>q) λ_ _ q=>q;rcases hc with z | z
  ·rw[z];exact Xm b u e
  ·exact Xm c _ z
theorem Inv.tok (I:Inv X S3 σ H s)(t:Nat):Inv X S3 σ H {s with toks:=t}:=I.un (h':=s.heap) (t':=t) Un.refl I.S8
theorem Inv.kept (I:Inv X S3 σ H s)(k:∀b u,s.heap.get? b=some u->h'.get? b=some u):Inv X S3 σ H {s with heap:=h',toks:=t'}:=I.un (Un.kept k) (I.S8.kept k)
theorem Inv.laid {a:Addr}{o:HO}(I:Inv X S3 σ H s)(k:∀b u,s.heap.get? b=some u->h'.get? b=some u)(hp:s.heap.objs.size<=a)(new:cQ X.prog X.w (upd H a o) h' a o):
 Inv X S3 σ (upd H a o) {s with heap:=h',toks:=t'}:=I.un (Un.laid k hp (I.S8.fresh hp)) (I.S8.laid k hp new)
theorem Inv.write {x e:Addr}{o:HO}(I:Inv X S3 σ H s)(mu:zy (H x))(he:e=x∨H e=some (.own x))(k:∀b u,b≠e->s.heap.get? b=some u->h'.get? b=some u)(W5:∃u,h'.get? e=some u)(new:cQ X.prog X.w (upd H x o) h' x o):Inv X S3 σ (upd H x o) {s with heap:=h',toks:=t'}:=I.un (Un.write mu he k W5) (I.S8.write mu he k W5 new)
theorem Inv.jv {V2:MB}(I:Inv X S3 σ H s)(h:∀p∈V2,s.heap.get? p.1=some p.2/\H p.1=none/\p.1≠X.env.locals/\p.1∉X.fs/\∀v,p.2.data≠ .cell v):Inv X V2 σ H s:=
 ⟨I.ok,I.os,I.bare,I.base,I.loc,I.cell,I.free,I.T8,λp hp=>(Nj.mp hp).elim (λz=>I.pin p (Np _ z)) (h p),I.S8,I.len⟩
theorem rX {N:ME}(hN:N.Nodup){j:Nat}(a:N[i]?=some x)(b:N[j]?=some x):i=j:=by
 obtain⟨h1,e1⟩:=M1.mp a;obtain⟨h2,e2⟩:=M1.mp b;exact(getElem_inj hN).mp (e1.trans e2.symm)
theorem qU {M:Model}{A:P7}{E:Value->PX->Prop}{v:V}{u:Value}{Q:Unit->PX->Prop}(I:Inv X S3 σ H s)(hN:X.N.Nodup)(hi:X.N[i]?=some x)(hx:Loc X.env.scope x)(r:RelV v u)(h:∀s',Inv X S3 (σ.set i (some v)) H s'->(∃a,RR a s.heap s'.heap/\(a=X.env.locals∨X.env.cells.lookup x=some a))->Q () s')(hf:X.fn x=true∨X.env.scope.names.lookup x=some .local:=by first | exact .inl rfl | exact .inr rfl | assumption):wpAny M A (storeName X.env x u) Q E s:=by
 obtain⟨m,hn,hl⟩:=id I.loc;have hcls:(X.env.scope.kind== .class ||(X.env.scope.kind== .module&&X.env.locals != X.env.globals))=false:=by rw[I.ok.kind];rfl
 have hiσ:i<σ.length:=by rw[I.len];exact(M1.mp hi).1
 have WW:=I.WW;have tracked:∀{a:Addr}{h':Heap},(∃o,s.heap.get? a=some o/\H a=none)->RR a s.heap h'->d7 X.prog X.w H h':=λ{a h'} ha hs b ob e=>by
  obtain⟨_,_,Wc⟩:=ha;refine(I.S8 b ob e).TY (λc w' hc q=>(hs.2 c ?_).trans q) (λ_ q=>q) λ_ _ q=>q;rintro rfl;rcases hc with rfl | hc
  ·rw[Wc] at e;cases e
  ·rw[Wc] at hc;cases hc
 rcases hx with hk | hk
 ·refine wpAny_storeName_local hk hn (λh' VD hs=>?_) hcls;obtain⟨oL,_,_,hoL,_⟩:=id hn;refine h _ ⟨I.ok,I.os,I.bare,⟨λb o e n hb hx=>?_,λb o e n hb hx=>?_,I.base.free,λb o e hx=>?_,I.base.Uy,I.base.Uu,I.base.Uz⟩,⟨_,VD,λj y v' e1 e2 e3=>?_⟩,λy c e=>?_,I.free,I.T8,λp hp=>?_,tracked ⟨oL,hoL,I.free⟩ hs,by simpa using I.len⟩ ⟨_,hs,.inl rfl⟩
  ·exact(hs.2 b (O5 (O4 (RN e) I.ok.above))).trans (I.base.keep b o e n hb hx)
  ·obtain⟨sl,e1⟩:=I.base.slot b o e n hb hx;exact⟨sl,(hs.2 b (O5 (O4 (RN e) I.ok.above))).trans e1⟩
  ·obtain⟨o',e1⟩:=I.base.there b o e hx;exact⟨o',(hs.2 b (O5 (O4 (RN e) I.ok.above))).trans e1⟩
  ·by_cases hj:j=i
   ·subst hj;rw[hi] at e1;cases e1
    rw[Ni hiσ] at e2;cases e2
    exact⟨u,r,.inl ⟨hk,by simp⟩⟩
   ·rw[Nt (Pr hj)] at e2;obtain⟨u',r',q⟩:=hl j y v' e1 e2 e3;refine⟨u',r',?_⟩;rcases q with⟨k,e⟩ | ⟨k,c,e,z⟩
    ·refine .inl ⟨k,?_⟩;have:y≠x:=λe=>hj (rX hN e1 (e▸hi));simp[this,e]
    ·exact .inr ⟨k,c,e,z.sameBut hs (WW y c e)⟩
  ·obtain⟨w',z⟩:=I.cell y c e;exact⟨w',z.sameBut hs (WW y c e)⟩
  ·obtain⟨e,n,ne,nf,d⟩:=I.pin p hp;exact⟨(hs.2 p.1 ne).trans e,n,ne,nf,d⟩
 ·have hfn:X.fn x=true:=by
   rcases hf with z | z
   ·exact z
   ·rw[z] at hk;cases hk
  obtain⟨c,hc⟩:=I.ok.has x (.inl hk);obtain⟨w',z⟩:=I.cell x c hc;refine wpAny_storeName_cell I.ok.kind hk hc z (λh' VX hs=>?_);obtain⟨oc,hoc,hocd⟩:=id z;refine h {s with heap:=h'} ⟨I.ok,I.os,I.bare,⟨λb o e n hb hx=>?_,λb o e n hb hx=>?_,I.base.free,λb o e hx=>?_,I.base.Uy,I.base.Uu,I.base.Uz⟩,⟨m,hn.sameBut hs (Pr (WW x c hc)),λj y v' e1 e2 e3=>?_⟩,λy c' e=>?_,I.free,I.T8,λp hp=>?_,tracked ⟨oc,hoc,I.T8 x c hc⟩ hs,by simpa using I.len⟩ ⟨c,hs,.inr hc⟩
  ·exact(hs.2 b (O5 (O4 (RN e) (I.ok.X4 x c hfn hc)))).trans (I.base.keep b o e n hb hx)
  ·obtain⟨sl,e1⟩:=I.base.slot b o e n hb hx;exact⟨sl,(hs.2 b (O5 (O4 (RN e) (I.ok.X4 x c hfn hc)))).trans e1⟩
  ·obtain⟨o',e1⟩:=I.base.there b o e hx;exact⟨o',(hs.2 b (O5 (O4 (RN e) (I.ok.X4 x c hfn hc)))).trans e1⟩
  ·by_cases hj:j=i
   ·subst hj;rw[hi] at e1;cases e1
    rw[Ni hiσ] at e2;cases e2
    exact⟨u,r,.inr ⟨.inl hk,c,hc,VX⟩⟩
   ·rw[Nt (Pr hj)] at e2;obtain⟨u',r',q⟩:=hl j y v' e1 e2 e3;refine⟨u',r',?_⟩;rcases q with q | ⟨k,c',e,z'⟩
    ·exact .inl q
    ·refine .inr ⟨k,c',e,z'.sameBut hs ?_⟩;rintro rfl;exact hj (rX hN e1 (I.ok.inj _ _ _ e hc▸hi))
  ·by_cases Wd:c'=c
   ·subst Wd;exact⟨_,VX⟩
   ·obtain⟨w2,z2⟩:=I.cell y c' e;exact⟨w2,z2.sameBut hs Wd⟩
  ·obtain⟨e,n,ne,nf,d⟩:=I.pin p hp;refine⟨(hs.2 p.1 ?_).trans e,n,ne,nf,d⟩;intro q;rw[q,hoc] at e;have q':oc=p.2:=Option.some.inj e;exact d w' (by rw[← q'];exact hocd)
theorem nP {M:Model}{A:P7}{E:Value->PX->Prop}{v:V}{u:Value}{Q:Unit->PX->Prop}(I:Inv X S3 σ H s)(hN:X.N.Nodup)(hi:X.N[i]?=some x)(hx:Loc X.env.scope x)(r:RelV v u)(h:∀s',Inv X S3 (σ.set i (some v)) H s'->Q () s')(hf:X.fn x=true∨X.env.scope.names.lookup x=some .local:=by first | exact .inl rfl | exact .inr rfl | assumption):wpAny M A (storeName X.env x u) Q E s:=
 qU I hN hi hx r (λs' I' _=>h s' I') hf
theorem Inv.JQ {s':PX}(I:Inv X S3 σ H s)(ho:s'.os=s.os)(u:Un (lA X.stack) ch H H' s.heap s'.heap)(S8:d7 X.prog X.w H' s'.heap)(hg:PN s'.gens)(Vl:∀b∈ch,(b∈X.ex∨X.s₀.heap.objs.size<=b)/\b≠X.env.locals/\(∀x c,X.env.cells.lookup x=some c->c≠b)/\∀p∈X.pn++S3,p.1≠b):Inv X S3 σ H' s':=by
 obtain⟨h',g',d',t',o'⟩:=s';have e:o'=s.os:=ho;subst e;exact I.call (g':=g') (t':=t') (d':=d') u S8 hg Vl
end
abbrev XK:=Value->Option Addr->Hp->Prop
abbrev St:=List (Option V)
abbrev VK:=V->Hp->Prop
abbrev TE:=St->Hp->VK->Prop
abbrev TT:=St->Hp->(Bool->Hp->Prop)->Prop
abbrev TA:=St->Hp->(List V->Hp->Prop)->Prop
structure Ends where
 nx:St->Hp->Prop
 rt:VK
 bk:St->Hp->Prop:=λ_ _=>False
 ct:St->Hp->Prop:=λ_ _=>False
abbrev TS:=Ends->St->Hp->Prop
def EP (X:Cx)(S3:MB)(σ:St)(Q:VK)(u:Value)(s':PX):Prop:=∃v H',Inv X S3 σ H' s'/\RelV v u/\Q v H'
def TP (X:Cx)(S3:MB)(σ:St)(Q:Bool->Hp->Prop)(b:Bool)(s':PX):Prop:=∃H',Inv X S3 σ H' s'/\Q b H'
def AP (X:Cx)(S3:MB)(σ:St)(Q:List V->Hp->Prop)(us:MH)(s':PX):Prop:=∃vs H',Inv X S3 σ H' s'/\Vals vs us/\Q vs H'
def SP (X:Cx)(S3:MB)(D:Ends)(f:Flow)(s':PX):Prop:=
 match f with
 | .next=>∃σ' H',Inv X S3 σ' H' s'/\D.nx σ' H'
 | .brk=>∃σ' H',Inv X S3 σ' H' s'/\D.bk σ' H'
 | .cont=>∃σ' H',Inv X S3 σ' H' s'/\D.ct σ' H'
 | .ret u=>∃v σ' H',Inv X S3 σ' H' s'/\RelV v u/\D.rt v H'
def PE (X:Cx)(e:Expr)(t:TE):Prop:=
 ∀(S3:MB)(s:PX)(σ:St)(H:Hp)(Q:VK),Inv X S3 σ H s->t σ H Q->wpAny (model X.prog X.w) X.A (eval e X.env) (EP X S3 σ Q) X.xe s
def PT (X:Cx)(e:Expr)(t:TT):Prop:=
 ∀(S3:MB)(s:PX)(σ:St)(H:Hp)(Q:Bool->Hp->Prop),Inv X S3 σ H s->t σ H Q->wpAny (model X.prog X.w) X.A (QH e X.env (eval e X.env)) (TP X S3 σ Q) X.xe s
def PW (X:Cx)(e:Expr)(t:TT):Prop:=
 ∀(whole:Sem Value)(S3:MB)(s:PX)(σ:St)(H:Hp)(Q:Bool->Hp->Prop),Inv X S3 σ H s->t σ H Q->wpAny (model X.prog X.w) X.A (QH e X.env whole) (TP X S3 σ Q) X.xe s
theorem PW.pt {X:Cx}{e:Expr}{t:TT}(h:PW X e t):PT X e t:=h _
def PA (X:Cx)(es:MI)(t:TA):Prop:=
 ∀(pos:Pos)(S3:MB)(s:PX)(σ:St)(H:Hp)(Q:List V->Hp->Prop),Inv X S3 σ H s->t σ H Q->wpAny (model X.prog X.w) X.A (spliced (P8 pos (PU es X.env))) (AP X S3 σ Q) X.xe s
def PS (X:Cx)(st:Stmt)(t:TS):Prop:=
 ∀(S3:MB)(s:PX)(σ:St)(H:Hp)(D:Ends),Inv X S3 σ H s->t D σ H->wpAny (model X.prog X.w) X.A (exec st X.env) (SP X S3 D) X.xe s
def jJ (X:Cx)(st:List Stmt)(t:TS):Prop:=
 ∀(S3:MB)(s:PX)(σ:St)(H:Hp)(D:Ends),Inv X S3 σ H s->t D σ H->wpAny (model X.prog X.w) X.A (execs st X.env) (SP X S3 D) X.xe s
theorem aW {α:Type}{t:Sem α}{Q Q':α->PX->Prop}{M:Model}{A:P7}{E:Value->PX->Prop}{s:PX}(h:wpAny M A t Q E s)(hQ:∀a s,Q a s->Q' a s):wpAny M A t Q' E s:=Qj h hQ λ_ _ x=>x
section
variable {X:Cx}
def LQ (i:Nat):TE:=λσ H Q=>∃v,σ[i]?=some (some v)/\Q v H
def tC (v:V):TE:=λ_ H Q=>Q v H
theorem a8 {i:Nat}{x:Str}{pos:Pos}(hN:X.N[i]?=some x)(hv:cb X.env.scope x)(hd:Ti x:=by decide)(S9:Tz x:=by decide):PE X (.Name x pos) (LQ i):=by
 intro S3 s σ H Q I h;obtain⟨v,e,h⟩:=h;obtain⟨m,hn,hl⟩:=I.loc;obtain⟨u,r,l⟩:=hl i x v hN e hv;have fin:EP X S3 σ Q u s:=⟨v,H,I,r,h⟩;rcases l with⟨hk,hm⟩ | ⟨hk,c,hc,UC⟩
 ·exact wpAny_Name (wpAny_loadName_local I.ok.kind hk hn hm fin) hd
 ·rcases hk with hk | hk
  ·exact wpAny_Name (wpAny_loadName_cell I.ok.kind hk hc UC fin) hd
  ·exact wpAny_Name (wpAny_loadName_free I.ok.kind hk hc UC fin S9) hd
theorem Ir {i j pos}:PE X (.Constant (.int i) j pos) (tC (.int i)):=λ_ _ _ H _ I h=>wpAny_Constant_int ⟨.int i,H,I.tok _,⟨_,rfl⟩,h⟩
theorem wZ {b j pos}:PE X (.Constant (.bool b) j pos) (tC (.bl b)):=λ_ _ _ H _ I h=>Constant_bool ⟨.bl b,H,I,rfl,h⟩
theorem Iq {j pos}:PE X (.Constant .none j pos) (tC .Tf):=λ_ _ _ H _ I h=>Constant_none ⟨.Tf,H,I,rfl,h⟩
theorem F9 {x j pos}:PE X (.Constant (.str x) j pos) (tC (.str x)):=λ_ _ _ H _ I h=>Calls.Constant_str ⟨.str x,H,I.tok _,⟨_,rfl⟩,h⟩
def Gl (X:Cx)(x:Str):Prop:=X.env.kindOf x=some .globalImplicit
theorem qy {E:Value->PX->Prop}{S3:MB}{s:PX}{σ:St}{H:Hp}{x:Str}{u:Value}{pos:Pos}{Q:Value->PX->Prop}(I:Inv X S3 σ H s)(hg:Gl X x)(hm:X.mg x=some u)(h:Q u s)(hd:Ti x:=by decide):wpAny (model X.prog X.w) X.A (eval (.Name x pos) X.env) Q E s:=
 Calls.Name_function_global I.ok.kind hg (Calls.loadGlobal_global (by rw[I.ok.glob];exact I.mod.glob.keeps I.bk) hm h) hd
theorem fQ {E:Value->PX->Prop}{S3:MB}{s:PX}{σ:St}{H:Hp}{x:Str}{u:Value}{pos:Pos}{Q:Value->PX->Prop}(I:Inv X S3 σ H s)(hg:Gl X x)(hm:X.mg x=none)(hv:Qs x=some u)(h:Q u s)(hn:x≠"__name__":=by decide)(hd:Ti x:=by decide):wpAny (model X.prog X.w) X.A (eval (.Name x pos) X.env) Q E s:=by
 obtain⟨mb,h1,h2⟩:=I.mod.blt;exact Calls.Name_function_global I.ok.kind hg (Calls.loadGlobal_builtin (by rw[I.ok.glob];exact I.mod.glob.keeps I.bk) hm (by rw[I.ok.blt];exact h1.keeps I.bk) ((h2 x hn).trans hv) h) hd
theorem jy {x:Str}{v:V}{u:Value}{pos:Pos}(hg:Gl X x)(hm:X.mg x=some u)(r:RelV v u)(hd:Ti x:=by decide):PE X (.Name x pos) (tC v):=
 λ_ _ _ H _ I h=>qy I hg hm ⟨v,H,I,r,h⟩ hd
theorem DD {x:Str}{v:V}{u:Value}{pos:Pos}(hg:Gl X x)(hm:X.mg x=none)(hv:Qs x=some u)(r:RelV v u)(hn:x≠"__name__":=by decide)(hd:Ti x:=by decide):PE X (.Name x pos) (tC v):=
 λ_ _ _ H _ I h=>fQ I hg hm hv ⟨v,H,I,r,h⟩ hn hd
variable {a b:Expr}{ta tb:TE}{pos:Pos}
def PC (X:Cx)(op:CmpOp)(a b:Expr)(t:TE):Prop:=
 ∀(S3:MB)(s:PX)(σ:St)(H:Hp)(Q:VK),Inv X S3 σ H s->t σ H Q->
  wpAny (model X.prog X.w) X.A (eval a X.env) (λv s₁=>wpAny (model X.prog X.w) X.A (eval b X.env) (λu s₂=>wpAny (model X.prog X.w) X.A (Qd op v u) (EP X S3 σ Q) X.xe s₂) X.xe s₁) X.xe s
def tB (t:TE):TT:=λσ H Q=>t σ H λx H1=>∃c,x= .bl c/\Q c H1
theorem kS {op:CmpOp}{t:TE}(h:PC X op a b t)(h1:Qp op b=false:=by first | exact Xk _ (by decide) (by decide) | rfl):PT X (.Compare a [op] [b] pos) (tB t):=by
 intro S3 s σ H Q I hw;refine wpAny_isTrue_Compare1 (aW (h S3 s σ H _ I hw) λv s1 h1=>aW h1 λu s2 h2=>aW h2 λc s3 ⟨x,H1,I1,r1,q1⟩=>?_) h1;obtain⟨d,rfl,q⟩:=q1;cases r1
 exact Qb ⟨H1,I1,q⟩
theorem Ii {e:Expr}{t:TE}(h:PE X e t)(he:∀whole,QH e X.env whole=(do let v ← whole;QT e.pos;Qv [v] (truthy v)):=by intro _;rfl):PT X e (tB t):=by
 intro S3 s σ H Q I hw;refine isTrue_plain (aW (h S3 s σ H _ I hw) λv s1 ⟨x,H1,I1,r1,q1⟩=>?_) (he _);obtain⟨d,rfl,q⟩:=q1;cases r1
 exact Qb ⟨H1,I1,q⟩
variable {tA tB':TT}{rest:MI}
def Mz (t u:TT):TT:=λσ H Q=>t σ H λc H1=>if c=true then u σ H1 Q else Q false H1
def tOr (t u:TT):TT:=λσ H Q=>t σ H λc H1=>if c=true then Q true H1 else u σ H1 Q
def LU (t:TT):TT:=λσ H Q=>t σ H λc H1=>Q (!c) H1
theorem EG (ha:PT X a tA):PW X (.BoolOp .And [a] pos) tA:=by
 intro wh S3 s σ H Q I h;refine isTrue_and (aW (ha S3 s σ H Q I h) λc s1 e=>?_);cases c with
 | true=>exact isTrue_and_nil e
 | false=>exact e
theorem Fb (ha:PT X a tA):PW X (.BoolOp .Or [a] pos) tA:=by
 intro wh S3 s σ H Q I h;refine isTrue_or (aW (ha S3 s σ H Q I h) λc s1 e=>?_);cases c with
 | false=>exact isTrue_or_nil e
 | true=>exact e
theorem IT (ha:PT X a tA)(hb:PW X (.BoolOp .And (b::rest) pos) tB'):PW X (.BoolOp .And (a::b::rest) pos) (Mz tA tB'):=by
 intro wh S3 s σ H Q I h;refine isTrue_and (aW (ha S3 s σ H _ I h) λc s1 ⟨H1,I1,q1⟩=>?_);cases c with
 | true=>exact hb wh S3 s1 σ H1 Q I1 q1
 | false=>exact⟨H1,I1,q1⟩
theorem Jm (ha:PT X a tA)(hb:PW X (.BoolOp .Or (b::rest) pos) tB'):PW X (.BoolOp .Or (a::b::rest) pos) (tOr tA tB'):=by
 intro wh S3 s σ H Q I h;refine isTrue_or (aW (ha S3 s σ H _ I h) λc s1 ⟨H1,I1,q1⟩=>?_);cases c with
 | true=>exact⟨H1,I1,q1⟩
 | false=>exact hb wh S3 s1 σ H1 Q I1 q1
theorem FO (ha:PT X a tA):PT X (.UnaryOp .Not a pos) (LU tA):=by
 intro S3 s σ H Q I h;exact isTrue_not (ha S3 s σ H (λc H1=>Q (!c) H1) I h)
def Jp (ta tb:TE):TE:=λσ H Q=>ta σ H λx H1=>∃c,x= .bl c/\if c=true then tb σ H1 Q else Q (.bl false) H1
def JV (ta:TE):TE:=λσ H Q=>ta σ H λx H1=>∃c,x= .bl c/\Q (.bl (!c)) H1
theorem Ig {op}{t:TE}(h:PE X a t):PE X (.BoolOp op [a] pos) t:=λS3 s σ H Q I hw=>BoolOp_one (h S3 s σ H Q I hw)
theorem F3 (ha:PE X a ta)(hb:PE X (.BoolOp .And (b::rest) pos) tb):PE X (.BoolOp .And (a::b::rest) pos) (Jp ta tb):=by
 intro S3 s σ H Q I h;refine BoolOp_and (aW (ha S3 s σ H _ I h) λv s1 ⟨x,H1,I1,r1,q1⟩=>?_);obtain⟨c,rfl,q1⟩:=q1;cases r1
 refine Qb ?_;cases c with
 | true=>exact hb S3 s1 σ H1 Q I1 q1
 | false=>exact⟨.bl false,H1,I1,rfl,q1⟩
theorem Ft (ha:PE X a ta):PE X (.UnaryOp .Not a pos) (JV ta):=by
 intro S3 s σ H Q I h;refine UnaryOp_ (aW (ha S3 s σ H _ I h) λv s1 ⟨x,H1,I1,r1,q1⟩=>?_);obtain⟨c,rfl,q1⟩:=q1;cases r1
 exact not_of (Qb ⟨.bl (!c),H1,I1,rfl,q1⟩)
def tIf (t:TT)(ta tb:TE):TE:=λσ H Q=>t σ H λc H1=>if c=true then ta σ H1 Q else tb σ H1 Q
theorem BB {c:Expr}(hc:PT X c tA)(ha:PE X a ta)(hb:PE X b tb):PE X (.IfExp c a b pos) (tIf tA ta tb):=by
 intro S3 s σ H Q I h;refine wpAny_IfExp (aW (hc S3 s σ H _ I h) λd s1 ⟨H1,I1,q1⟩=>?_);cases d with
 | true=>exact ha S3 s1 σ H1 Q I1 q1
 | false=>exact hb S3 s1 σ H1 Q I1 q1
end
def aY (K:Sk)(H:Hp)(a:Addr)(xs:List V):Prop:=
 Rd H a (.lst xs)∨
  ∃(o:Obj)(S5:Array Value)(n:Nat),K.lookup a=some o/\o.cls= .type "list"/\o.dict=none/\o.data= .seq S5 n/\S5.size<=PZ/\Vals xs S5.toList
def cC (K:Sk)(H:Hp)(a:Addr)(xs:List V):Prop:=
 Rd H a (.tup xs)∨
  ∃(o:Obj)(S5:Array Value)(n:Nat),K.lookup a=some o/\o.cls= .type "tuple"/\o.data= .seq S5 n/\S5.size<=PZ/\Vals xs S5.toList
def Mr:Value->Option V
 | .none=>some .Tf
 | .bool b=>some (.bl b)
 | .int i _=>some (.int i)
 | .str x _=>some (.str x)
 | .bytes b _=>some (.Vd b)
 | .float b _=>some (.WV b)
 | .ref a=>some (.ref a)
 | .type n=>some (.ty n)
 | _=>none
theorem RelV.abs {x:V}{u:Value}(r:RelV x u):Mr u=some x:=by
 cases x with
 | Tf=>cases r;rfl
 | bl _=>cases r;rfl
 | int _=>obtain⟨t,rfl⟩:=r;rfl
 | str _=>obtain⟨t,rfl⟩:=r;rfl
 | Vd _=>obtain⟨t,rfl⟩:=r;rfl
 | WV _=>obtain⟨t,rfl⟩:=r;rfl
 | ref _=>cases r;rfl
 | ty _=>cases r;rfl
theorem RelV.inj {x y:V}{u:Value}(r:RelV x u)(q:RelV y u):x=y:=Option.some.inj (r.abs.symm.trans q.abs)
theorem Vals.inj:∀{xs ys:List V}{us:MH},Vals xs us->Vals ys us->xs=ys
 | _,_,_,.nil,.nil=>rfl
 | _,_,_,.cons r t,.cons r' t'=>by rw[r.inj r',Vals.inj t t']
section
variable {X:Cx}{S3:MB}{σ:St}{H:Hp}{s:PX}{a:Addr}{xs ys:List V}
theorem aY.of {K:Sk}(h:H a=some (.lst xs)):aY K H a xs:=.inl (.inl h)
theorem cC.of {K:Sk}(h:H a=some (.tup xs)):cC K H a xs:=.inl (.inl h)
theorem Inv.list (I:Inv X S3 σ H s)(h:aY X.K H a xs):∃S5:MH,Vals xs S5/\PlainL s.heap a S5.toArray/\xs.length<=PZ:=by
 rcases h with h | ⟨o,S5,n,hk,hc,hd,hs,hz,r⟩
 ·obtain⟨z,S5,n,r,e⟩:=h.ok I.S8;exact⟨S5,r,⟨_,n,e,rfl,rfl,rfl⟩,z⟩
 ·refine⟨S5.toList,r,⟨o,n,I.fk a o hk,hc,hd,by simpa using hs⟩,?_⟩;have e:=r.length;simp only[ML] at e;omega
theorem Inv.tuple (I:Inv X S3 σ H s)(h:cC X.K H a xs):∃S5:MH,Vals xs S5/\IsTup s.heap a S5.toArray/\xs.length<=PZ:=by
 rcases h with h | ⟨o,S5,n,hk,hc,hs,hz,r⟩
 ·obtain⟨z,S5,r,p⟩:=h.ok I.S8;exact⟨S5,r,p,z⟩
 ·refine⟨S5.toList,r,⟨o,I.fk a o hk,hc,n,by simpa using hs⟩,?_⟩;have e:=r.length;simp only[ML] at e;omega
theorem Inv.iD (I:Inv X S3 σ H s)(h:aY X.K H a xs)(h':aY X.K H a ys):xs=ys:=by
 obtain⟨S5,r,⟨o,n,e,_,_,d⟩,_⟩:=I.list h;obtain⟨its',r',⟨o',n',e',_,_,d'⟩,_⟩:=I.list h';rw[e] at e';cases e'
 rw[d] at d';injection d' with d1 _;have:S5=its':=by simpa using congrArg Array.toList d1
 subst this;exact r.inj r'
theorem Inv.j6 (I:Inv X S3 σ H s)(h:cC X.K H a xs)(h':cC X.K H a ys):xs=ys:=by
 obtain⟨S5,r,⟨o,e,_,n,d⟩,_⟩:=I.tuple h;obtain⟨its',r',⟨o',e',_,n',d'⟩,_⟩:=I.tuple h';rw[e] at e';cases e'
 rw[d] at d';injection d' with d1 _;have:S5=its':=by simpa using congrArg Array.toList d1
 subst this;exact r.inj r'
end
abbrev Cx.kE (X:Cx)(E:Value->PX->Prop):Cx:={X with xe:=E}
abbrev Cx.iq (X:Cx):Cx:=X.kE λ_ _=>False
theorem Cx.Ok.kE {X:Cx}(ok:X.Ok)(E:Value->PX->Prop):(X.kE E).Ok:=
 ⟨ok.mod,ok.kind,ok.glob,ok.blt,ok.above,ok.inj,ok.has,ok.X4,ok.hd,ok.frames,ok.stk,ok.exf,ok.bs,ok.V0,ok.Vp,ok.Vi,ok.Ur,ok.WU⟩
theorem Cx.Ok.iQ {X:Cx}{E:Value->PX->Prop}(ok:(X.kE E).Ok):X.Ok:=
 ⟨ok.mod,ok.kind,ok.glob,ok.blt,ok.above,ok.inj,ok.has,ok.X4,ok.hd,ok.frames,ok.stk,ok.exf,ok.bs,ok.V0,ok.Vp,ok.Vi,ok.Ur,ok.WU⟩
section
variable {X:Cx}{S3:MB}{σ:St}{H:Hp}{s:PX}{E:Value->PX->Prop}
theorem Inv.kE (I:Inv X S3 σ H s)(E:Value->PX->Prop):Inv (X.kE E) S3 σ H s:=⟨I.ok.kE E,I.os,I.bare,I.base,I.loc,I.cell,I.free,I.T8,I.pin,I.S8,I.len⟩
theorem Inv.iQ (I:Inv (X.kE E) S3 σ H s):Inv X S3 σ H s:=⟨I.ok.iQ,I.os,I.bare,I.base,I.loc,I.cell,I.free,I.T8,I.pin,I.S8,I.len⟩
theorem SP.iQ {D:Ends}{f:Flow}{s':PX}(h:SP (X.kE E) S3 D f s'):SP X S3 D f s':=by
 cases f with
 | next=>obtain⟨σ',H',I,q⟩:=h;exact⟨σ',H',I.iQ,q⟩
 | brk=>obtain⟨σ',H',I,q⟩:=h;exact⟨σ',H',I.iQ,q⟩
 | cont=>obtain⟨σ',H',I,q⟩:=h;exact⟨σ',H',I.iQ,q⟩
 | ret u=>obtain⟨v,σ',H',I,r,q⟩:=h;exact⟨v,σ',H',I.iQ,r,q⟩
theorem jJ.iq {st:List Stmt}{t:TS}(h:jJ X.iq st t):jJ X st t:=λS3 s σ H D I hw=>
 Qj (h S3 s σ H D (I.kE _) hw) (λ_ _ q=>q.iQ) λ_ _ z=>MT z
end
section
variable {X:Cx}{st:Stmt}{rest:List Stmt}{t u:TS}{e:Expr}{te:TE}{pos:Pos}
def Kj:TS:=λD σ H=>D.nx σ H
def LV (t u:TS):TS:=λD σ H=>t {D with nx:=u D} σ H
theorem Ey:jJ X [] Kj:=λ_ _ σ H _ I h=>QN ⟨σ,H,I,h⟩
theorem BD (h1:PS X st t)(h2:jJ X rest u):jJ X (st::rest) (LV t u):=by
 intro S3 s σ H D I h;refine wpAny_execs_cons (aW (h1 S3 s σ H {D with nx:=u D} I h) λf s1 q=>?_);cases f with
 | next=>
   obtain⟨σ',H',I',q⟩:=q;exact h2 S3 s1 σ' H' D I' q
 | ret v=>exact q
 | brk=>exact q
 | cont=>exact q
theorem DK (h1:PS X st t):jJ X [st] t:=by
 intro S3 s σ H D I h;refine wpAny_execs_cons (aW (h1 S3 s σ H D I h) λf s1 q=>?_);cases f with
 | next=>exact QN q
 | ret v=>exact q
 | brk=>exact q
 | cont=>exact q
theorem Inv.quiet {S3:MB}{σ:St}{H:Hp}{s:PX}(I:Inv X S3 σ H s):interactive X.env=false:=by simp[interactive,I.ok.kind]
def Jy (te:TE):TS:=λD σ H=>te σ H λ_ H1=>D.nx σ H1
theorem eo (he:PE X e te)(hs:P9 e none pos.line X.env=pure false:=by rfl):PS X (.Expr e pos) (Jy te):=by
 intro S3 s σ H D I h;exact wpAny_Expr_any (aW (he S3 s σ H _ I h) λv s1 ⟨x,H1,I1,r1,q1⟩=>⟨σ,H1,I1,q1⟩) I.quiet hs
def LY (te:TE):TS:=λD σ H=>te σ H D.rt
theorem jX (he:PE X e te):PS X (.Return (some e) pos) (LY te):=by
 intro S3 s σ H D I h;exact wpAny_Return_some (aW (he S3 s σ H _ I h) λv s1 ⟨x,H1,I1,r1,q1⟩=>⟨x,σ,H1,I1,r1,q1⟩)
def LN (c:TT)(t u:TS):TS:=λD σ H=>c σ H λb H1=>if b=true then t D σ H1 else u D σ H1
theorem J1 {c:Expr}{a b:List Stmt}{tc:TT}(hc:PT X c tc)(ha:jJ X a t)(hb:jJ X b u):PS X (.If c a b pos) (LN tc t u):=by
 intro S3 s σ H D I h;refine wpAny_If (aW (hc S3 s σ H _ I h) λd s1 ⟨H1,I1,q1⟩=>?_);cases d with
 | true=>exact ha S3 s1 σ H1 D I1 q1
 | false=>exact hb S3 s1 σ H1 D I1 q1
end
abbrev TG:=V->St->Hp->(St->Hp->Prop)->Prop
abbrev uo:=List V->St->Hp->(St->Hp->Prop)->Prop
def PG (X:Cx)(target:Expr)(t:TG):Prop:=
 ∀(S3:MB)(s:PX)(σ:St)(H:Hp)(v:V)(u:Value)(Q:St->Hp->Prop),Inv X S3 σ H s->RelV v u->t v σ H Q->
  wpAny (model X.prog X.w) X.A (QB target X.env u) (λ_ s'=>∃σ' H',Inv X S3 σ' H' s'/\Q σ' H') X.xe s
def BZ (X:Cx)(ts:MI)(t:uo):Prop:=
 ∀(S3:MB)(s:PX)(σ:St)(H:Hp)(vs:List V)(us:MH)(Q:St->Hp->Prop),Inv X S3 σ H s->Vals vs us->t vs σ H Q->
  wpAny (model X.prog X.w) X.A (assignInOrder ((QA ts X.env).map (·.2)) us) (λ_ s'=>∃σ' H',Inv X S3 σ' H' s'/\Q σ' H') X.xe s
abbrev Aa:=V->V->V->Hp->(Hp->Prop)->Prop
def IU (X:Cx)(t:Aa):Prop:=
 ∀(S3:MB)(s:PX)(σ:St)(H:Hp)(o i v:V)(ov iv u:Value)(Q:Hp->Prop),Inv X S3 σ H s->RelV o ov->RelV i iv->RelV v u->t o i v H Q->
  wpAny (model X.prog X.w) X.A (setItem ov iv u) (λ_ s'=>∃H',Inv X S3 σ H' s'/\Q H') X.xe s
abbrev B8:=V->V->Hp->VK->Prop
def La (X:Cx)(op:Operator)(t:B8):Prop:=
 ∀(S3:MB)(s:PX)(σ:St)(H:Hp)(x y:V)(v u:Value)(Q:VK),Inv X S3 σ H s->RelV x v->RelV y u->t x y H Q->
  wpAny (model X.prog X.w) X.A (inplaceOp op v u) (EP X S3 σ Q) X.xe s
section
variable {X:Cx}{pos:Pos}
variable {e:Expr}{i:Nat}{x:Str}{te:TE}
def wN (i:Nat):TG:=λv σ H Q=>Q (σ.set i (some v)) H
theorem fq (hN:X.N.Nodup)(hi:X.N[i]?=some x)(hx:Loc X.env.scope x)(hf:X.fn x=true∨X.env.scope.names.lookup x=some .local:=by first | exact .inl rfl | exact .inr rfl | assumption):PG X (.Name x pos) (wN i):=by
 intro S3 s σ H v u Q I r h;exact wpAny_assign_Name (nP I hN hi hx r (λs' I'=>⟨_,H,I',h⟩) hf)
def Mg:uo:=λvs σ H Q=>vs=[]/\Q σ H
def Jz (t:TG)(u:uo):uo:=λvs σ H Q=>∃v r,vs=v::r/\t v σ H λσ' H'=>u r σ' H' Q
theorem pW:BZ X [] Mg:=by
 intro S3 s σ H vs us Q I r h;obtain⟨e,h⟩:=h;subst e;cases r
 exact assignInOrder_nil ⟨σ,H,I,h⟩
theorem eW {es:MI}{t:TG}{u:uo}(h1:PG X e t)(h2:BZ X es u)(hs:(QA (e::es) X.env).map (·.2)=QB e X.env::(QA es X.env).map (·.2):=by rfl):BZ X (e::es) (Jz t u):=by
 intro S3 s σ H vs us Q I r h;obtain⟨v,vr,e1,h⟩:=h;subst e1;cases r with
 | cons r rr=>
   rw[hs];refine assignInOrder_cons (aW (h1 S3 s σ H _ _ _ I r h) λ_ s1 ⟨σ1,H1,I1,q1⟩=>?_);exact h2 S3 s1 σ1 H1 _ _ Q I1 rr q1
def L9 (K:Sk)(n:Nat)(t:uo):TG:=λv σ H Q=>∃a xs,v= .ref a/\cC K H a xs/\xs.length=n/\t xs σ H Q
theorem sY {es:MI}{k:Nat}{t:uo}{n:Nat}(hc:X.calm=true)(h:BZ X es t)(hn:(QA es X.env).length=n:=by rfl)(hst:(QA es X.env).findIdx? (·.1)=none:=by rfl):PG X (.Tuple es k pos) (L9 X.K n t):=by
 intro S3 s σ H v u Q I r hw;obtain⟨a,xs,e1,hq,hl,hw⟩:=hw;subst e1;cases r
 obtain⟨S5,rv,ht,hz⟩:=I.tuple hq;refine assign_Tuple_tuple (I.ok.hd hc) ht (by simp[hn,← hl,rv.length]) hst λh' hx=>?_;have I1:Inv X S3 σ H {s with heap:=h'}:=I.kept (t':=s.toks) λb o e=>hx b o (O5 (RN e)) e;exact h S3 _ σ H xs _ Q I1 (by simpa using rv) hw
def L0 (to ti:TE)(t:Aa):TG:=λv σ H Q=>to σ H λo H1=>ti σ H1 λi H2=>t o i v H2 λH3=>Q σ H3
theorem zu {o i:Expr}{to ti:TE}{t:Aa}(ho:PE X o to)(hi:PE X i ti)(hs:IU X t)(ha:∀v,QB (.Subscript o i pos) X.env v=(do
  let ov ← Qv [v] (eval o X.env)
  let iv ← Qv [v,ov] (eval i X.env)
  QT pos
  Qv [v,ov,iv] (setItem ov iv v)
  release [v,ov,iv] []):=by intro _;rfl):PG X (.Subscript o i pos) (L0 to ti t):=by
 intro S3 s σ H v u Q I r h;rw[ha];refine P0 (QE (aW (ho S3 s σ H _ I h) λov s1 ⟨x,H1,I1,r1,q1⟩=>?_));refine P0 (QE (aW (hi S3 s1 σ H1 _ I1 q1) λiv s2 ⟨y,H2,I2,r2,q2⟩=>?_));refine P0 (Ri (P0 (QE (aW (hs S3 s2 σ H2 x y v ov iv u _ I2 r1 r2 r q2) λ_ s3 ⟨H3,I3,q3⟩=>?_))));exact wpAny_release ⟨σ,H3,I3,q3⟩
def AF (te:TE)(g:TG):TS:=λD σ H=>te σ H λx H1=>g x σ H1 D.nx
theorem tP {tg:Expr}{g:TG}(he:PE X e te)(hg:PG X tg g)(hs:QY [tg] e pos.line X.env=pure false:=by rfl)(hw:QZ [tg] e X.env=pure none:=by rfl)(h1:(QA [tg] X.env).map (·.2)=[QB tg X.env]:=by rfl):PS X (.Assign [tg] e pos) (AF te g):=by
 intro S3 s σ H D I h;refine wpAny_Assign_stores (aW (he S3 s σ H _ I h) λv s1 ⟨x,H1,I1,r1,q1⟩=>?_) hs hw;rw[h1];exact aW (hg S3 s1 σ H1 x v _ I1 r1 q1) λ_ s2 q=>q
theorem jV {pos':Pos}(hN:X.N.Nodup)(hi:X.N[i]?=some x)(hx:Loc X.env.scope x)(he:PE X e te)(hs:P9 e (some (.Name x pos')) pos.line X.env=pure false:=by rfl)(hf:X.fn x=true∨X.env.scope.names.lookup x=some .local:=by first | exact .inl rfl | exact .inr rfl | assumption):
 PS X (.Assign [.Name x pos'] e pos) (AF te (wN i)):=by
 intro S3 s σ H D I h;refine wpAny_Assign_Name (aW (he S3 s σ H _ I h) λv s1 ⟨y,H1,I1,r1,q1⟩=>?_) hs;exact nP I1 hN hi hx r1 (λs2 I2=>⟨_,H1,I2,q1⟩) hf
def L3 (i:Nat)(te:TE)(ti:B8):TS:=λD σ H=>∃x,σ[i]?=some (some x)/\te σ H λy H1=>ti x y H1 λz H2=>D.nx (σ.set i (some z)) H2
theorem Il {op:Operator}{ti:B8}{pos':Pos}(hN:X.N.Nodup)(hi:X.N[i]?=some x)(hx:Loc X.env.scope x)(he:PE X e te)(ho:La X op ti)(hf:X.fn x=true∨X.env.scope.names.lookup x=some .local:=by first | exact .inl rfl | exact .inr rfl | assumption):
 PS X (.AugAssign (.Name x pos') op e pos) (L3 i te ti):=by
 intro S3 s σ H D I h;obtain⟨v,e1,h⟩:=h;obtain⟨m,hn,hl⟩:=I.loc;have vis:cb X.env.scope x:=by rcases hx with k | k;exact .inl k;exact .inr (.inl k)
 obtain⟨u,r,l⟩:=hl i x v hi e1 vis;refine wpAny_AugAssign_Name ?_;have go:wpAny (model X.prog X.w) X.A (eval e X.env) (λw s₂=>wpAny (model X.prog X.w) X.A (inplaceOp op u w) (λr s₃=>wpAny (model X.prog X.w) X.A (storeName X.env x r) (λ_=>SP X S3 D .next) X.xe s₃) X.xe s₂) X.xe s:=by
  refine aW (he S3 s σ H _ I h) λw s1 ⟨y,H1,I1,r1,q1⟩=>?_;refine aW (ho S3 s1 σ H1 v y u w _ I1 r r1 q1) λz s2 ⟨zv,H2,I2,r2,q2⟩=>?_;exact nP I2 hN hi hx r2 (λs3 I3=>⟨_,H2,I3,q2⟩) hf
 rcases l with⟨hk,hm⟩ | ⟨hk,c,hc,UC⟩
 ·exact wpAny_loadName_local I.ok.kind hk hn hm go
 ·rcases hk with hk | hk
  ·exact wpAny_loadName_cell I.ok.kind hk hc UC go
  ·rcases hx with k | k
   ·have:X.env.scope.names.lookup x=some .free:=hk;rw[k] at this;cases this
   ·have:X.env.scope.names.lookup x=some .free:=hk;rw[k] at this;cases this
def ipI (f:Int->Int->Int):B8:=λx y H Q=>∃i j,x= .int i/\y= .int j/\Q (.int (f i j)) H
theorem HV:La X .Add (ipI λi j=>i+j):=by
 intro S3 s σ H x y v u Q I r1 r2 h;obtain⟨i,j,e1,e2,q⟩:=h;subst e1;subst e2;obtain⟨t,rfl⟩:=r1;obtain⟨t',rfl⟩:=r2;exact iadd_int ⟨.int _,H,I.tok _,⟨_,rfl⟩,q⟩
end
section
variable {X:Cx}{pos:Pos}
def F6 (c:TT)(tb:TS):TS:=λD σ H=>∃W:Nat->St->Hp->Prop,(∃m,W m σ H)/\∀m σ H,W m σ H->
 c σ H λb H1=>if b=true then∃N:St->Hp->Prop,(∀σ' H',N σ' H'->∃m',m'<m/\W m' σ' H')/\tb {D with nx:=N,ct:=N,bk:=D.nx} σ H1 else D.nx σ H1
theorem A0 {c:Expr}{body:List Stmt}{tc:TT}{tb:TS}(hp:QX (model X.prog X.w) X.A X.env X.xe)(hc:PT X c tc)(hb:jJ X body tb):PS X (.While c body [] pos) (F6 tc tb):=by
 intro S3 s σ H D I h;obtain⟨W,⟨m0,w0⟩,turn⟩:=h;refine wpAny_While (codeAny_whileLoop (λn s'=>∃σ' H',Inv X S3 σ' H' s'/\W n σ' H') ?_ m0 ⟨σ,H,I,w0⟩);rintro n s1 ⟨σ1,H1,I1,w1⟩;refine Qu hp (aW (hc S3 s1 σ1 H1 _ I1 (turn n σ1 H1 w1)) λb s2 ⟨H2,I2,q2⟩=>?_);cases b with
 | true=>
   obtain⟨N,hN,q2⟩:=q2;rw[SS rfl];refine Qu hp (aW (hb S3 s2 σ1 H2 _ I2 q2) λf s3 q3=>?_);cases f with
   | next=>
     obtain⟨σ3,H3,I3,n3⟩:=q3;obtain⟨m',hm,w3⟩:=hN σ3 H3 n3;exact⟨m',hm,σ3,H3,I3,w3⟩
   | cont=>
     obtain⟨σ3,H3,I3,n3⟩:=q3;obtain⟨m',hm,w3⟩:=hN σ3 H3 n3;exact⟨m',hm,σ3,H3,I3,w3⟩
   | brk=>exact q3
   | ret v=>exact q3
 | false=>
   rw[SR MM];exact QN ⟨σ1,H2,I2,q2⟩
end
section
variable {tg:Expr}{P:P2}{w:World}{K:Sk}
structure It where
 go:Nat->Hp->Prop
 Xb:Nat->Hp->V->Hp->Prop
 stop:Nat->Hp->Prop
def jd (X:Cx)(S3:MB)(H:Hp)(b:Addr):Prop:=
 H b=none/\b≠X.env.locals/\b∉X.fs/\(b∈X.ex∨X.s₀.heap.objs.size<=b)/\(∀x c,X.env.cells.lookup x=some c->c≠b)/\∀p∈X.pn++S3,p.1≠b
theorem Inv.gm {X:Cx}{S3:MB}{σ:St}{H H':Hp}{s:PX}{b:Addr}(I:Inv X S3 σ H s)(hb:s.heap.objs.size<=b)(hn:H' b=none):jd X S3 H' b:=by
 refine⟨hn,Pf (O4 I.lt hb),I.Mn hb,.inr (O2 I.sz hb),λx c e z=>?_,λp hp z=>?_⟩
 ·obtain⟨v,q⟩:=I.cell x c e;exact SQ (O4 q.lt (by rw[z];exact hb)) (O8 _)
 ·exact SQ (O4 (RN (I.pin p hp).1) (by rw[z];exact hb)) (O8 _)
structure Turn (P:P2)(w:World)(K:Sk)(tg:Expr)(J:It)(fp:MG)(it:Addr)(tn:Nat->Heap->Prop):Prop where
 mem:it∈fp
 obj:∀i h,tn i h->∀b∈fp,∃o,h.get? b=some o/\∀v,o.data≠ .cell v
 keep:∀i h h',tn i h->(∀b∈fp,∀o,h.get? b=some o->h'.get? b=some o)->tn i h'
 item:∀(X:Cx),X.prog=P->X.w=w->X.K=K->X.calm=true->∀(i:Nat)(S3:MB)(s:PX)(σ:St)(H:Hp)(E:Value->PX->Prop),Inv X S3 σ H s->(∀b∈fp,jd X S3 H b)->tn i s.heap->J.go i H->
  wpAny (model P w) X.A (Q8 (.ref it)) (λr s1=>∃u,r=some u/\
   wpAny (model P w) X.A (QO tg (.ref it) u) (λ_ s2=>∃x H',Inv X S3 σ H' s2/\RelV x u/\J.Xb i H x H'/\tn (i+1) s2.heap/\∀b∈fp,H' b=none) E s1) E s
 done:∀(X:Cx),X.prog=P->X.w=w->X.K=K->X.calm=true->∀(i:Nat)(S3:MB)(s:PX)(σ:St)(H:Hp)(E:Value->PX->Prop),Inv X S3 σ H s->(∀b∈fp,jd X S3 H b)->tn i s.heap->J.stop i H->
  wpAny (model P w) X.A (Q8 (.ref it)) (λr s1=>r=none/\Inv X S3 σ H s1) E s
 self:∀(A:P7)(i:Nat)(s:PX)(Q:Value->PX->Prop)(E:Value->PX->Prop),tn i s.heap->Q (.ref it) s->wpAny (model P w) A (pyIter (.ref it)) Q E s
abbrev TI:=St->Hp->(It->Hp->Prop)->Prop
def FD (X:Cx)(S3:MB)(σ:St)(tg:Expr)(R:It->Hp->Prop)(itv:Value)(s2:PX):Prop:=
 ∃(it:Addr)(fp:MG)(tn:Nat->Heap->Prop)(J:It)(H':Hp),itv= .ref it/\Inv X S3 σ H' s2/\Turn X.prog X.w X.K tg J fp it tn/\tn 0 s2.heap/\(∀b∈fp,jd X S3 H' b)/\R J H'
def PI (X:Cx)(tg iter:Expr)(wi:TI):Prop:=
 ∀(S3:MB)(s:PX)(σ:St)(H:Hp)(R:It->Hp->Prop),Inv X S3 σ H s->wi σ H R->
  wpAny (model X.prog X.w) X.A (eval iter X.env) (λv s1=>wpAny (model X.prog X.w) X.A (pyIter v) (FD X S3 σ tg R) X.xe s1) X.xe s
theorem mW {M:Model}{A:P7}{E:Value->PX->Prop}{s:PX}{it:Addr}{u:Value}{o:Obj}{n:String}{vs:Array Value}{Q:Unit->PX->Prop}(ho:s.heap.get? it=some o)(hc:o.cls= .type n)(hd:o.data= .fields vs)(hn:["enumerate","zip","dict_itemiterator","dict_reverseitemiterator","odict_iterator","itertools.zip_longest","itertools.pairwise"].contains n=false)(hQ:Q () s):wpAny M A (QO tg (.ref it) u) Q E s:=by
 unfold QO;cases tg<;>first
  | exact P4 hQ
  | (cases u<;>first
   | exact P4 hQ
   | (refine P0 (wpAny_load ho ?_)
      rw[hc,hd];show wpAny M A (if(["enumerate","zip","dict_itemiterator","dict_reverseitemiterator","odict_iterator","itertools.zip_longest","itertools.pairwise"].contains n&&vs[0]?==some (Q9 _))=true then _ else _) Q E s;rw[SR (by intro h;rw[hn,Bool.false_and] at h;cases h)]
      exact P4 hQ))
def Lm (K:Sk)(a:Addr):It:=
 ⟨λi H=>∃xs x,aY K H a xs/\xs[i]?=some x,λi H x H'=>H'=H/\∀xs,aY K H a xs->xs[i]?=some x,λi H=>∃xs,aY K H a xs/\xs.length<=i⟩
def K7 (K:Sk)(a:Addr):It:=
 ⟨λi H=>∃xs x,cC K H a xs/\xs[i]?=some x,λi H x H'=>H'=H/\∀xs,cC K H a xs->xs[i]?=some x,λi H=>∃xs,cC K H a xs/\xs.length<=i⟩
def yN (lo:Int)(n:Nat):It:=⟨λi _=>i<n,λi H x H'=>H'=H/\x= .int (lo+i),λi _=>n<=i⟩
theorem yj (a it:Addr):Turn P w K tg (Lm K a) [it] it (λi h=>h.IsListIter it a i) where
 mem:=by simp
 obj:=λi h st b hb=>by
  have e:b=it:=by simpa using hb
  subst e;obtain⟨o,e,c,d⟩:=st;exact⟨o,e,λv z=>by rw[d] at z;cases z⟩
 keep:=λi h h' st k=>st.at λo e=>k it (by simp) o e
 item:=by
  intro X hP hw hK hc i S3 s σ H E I hf st hg;subst hP hw hK;obtain⟨xs,x,hq,hx⟩:=hg;obtain⟨S5,rv,p,hz⟩:=I.list hq;obtain⟨u,hu,ru⟩:=rv.get hx;obtain⟨f0,f1,f2,f3,f4,f5⟩:=hf it (by simp);refine wpAny_pyNext_list_item st p.isList (x:=u) (by simpa using hu) λh' UY sb=>?_;have I1:Inv X S3 σ H {s with heap:=h'}:=I.turned (t':=s.toks) (λb o hb e=>(sb.2 b hb).trans e) f0 f1 f3 f4 f5;obtain⟨o,e,c,d⟩:=id UY;exact⟨u,rfl,mW (s:={s with heap:=h'}) e c d (by decide) ⟨x,H,I1,ru,⟨rfl,λys hy=>by rw[I.iD hy hq];exact hx⟩,UY,λb hb=>(hf b hb).1⟩⟩
 done:=by
  intro X hP hw hK hc i S3 s σ H E I hf st hg;subst hP hw hK;obtain⟨xs,hq,hx⟩:=hg;obtain⟨S5,rv,p,hz⟩:=I.list hq;obtain⟨f0,f1,f2,f3,f4,f5⟩:=hf it (by simp);have hl:=rv.length;exact wpAny_pyNext_list_end (I.ok.hd hc) st p.isList (by simp;omega) λh' eb=>⟨rfl,I.turned (t':=s.toks) (λb o hb e=>eb b o hb e) f0 f1 f3 f4 f5⟩
 self:=λ_ _ _ _ _ st h=>wpAny_pyIter_listiter st h
theorem xt (a it:Addr):Turn P w K tg (K7 K a) [it] it (λi h=>h.IsTupleIter it a i) where
 mem:=by simp
 obj:=λi h st b hb=>by
  have e:b=it:=by simpa using hb
  subst e;obtain⟨o,e,c,d⟩:=st;exact⟨o,e,λv z=>by rw[d] at z;cases z⟩
 keep:=λi h h' st k=>st.at λo e=>k it (by simp) o e
 item:=by
  intro X hP hw hK hc i S3 s σ H E I hf st hg;subst hP hw hK;obtain⟨xs,x,hq,hx⟩:=hg;obtain⟨S5,rv,p,hz⟩:=I.tuple hq;obtain⟨u,hu,ru⟩:=rv.get hx;obtain⟨f0,f1,f2,f3,f4,f5⟩:=hf it (by simp);refine wpAny_pyNext_tuple_item st (show s.heap.IsTuple a S5.toArray from p) (x:=u) (by simpa using hu) λh' UY sb=>?_;have I1:Inv X S3 σ H {s with heap:=h'}:=I.turned (t':=s.toks) (λb o hb e=>(sb.2 b hb).trans e) f0 f1 f3 f4 f5;obtain⟨o,e,c,d⟩:=id UY;exact⟨u,rfl,mW (s:={s with heap:=h'}) e c d (by decide) ⟨x,H,I1,ru,⟨rfl,λys hy=>by rw[I.j6 hy hq];exact hx⟩,UY,λb hb=>(hf b hb).1⟩⟩
 done:=by
  intro X hP hw hK hc i S3 s σ H E I hf st hg;subst hP hw hK;obtain⟨xs,hq,hx⟩:=hg;obtain⟨S5,rv,p,hz⟩:=I.tuple hq;obtain⟨f0,f1,f2,f3,f4,f5⟩:=hf it (by simp);have hl:=rv.length;exact wpAny_pyNext_tuple_end (I.ok.hd hc) st (show s.heap.IsTuple a S5.toArray from p) (by simp;omega) λh' eb=>⟨rfl,I.turned (t':=s.toks) (λb o hb e=>eb b o hb e) f0 f1 f3 f4 f5⟩
 self:=λ_ _ _ _ _ st h=>wpAny_pyIter_tupleiter st h
theorem w6 (it:Addr)(lo:Int)(n:Nat):Turn P w K tg (yN lo n) [it] it (λi h=>Q6 h it (lo+(i:Nat)*1) ((n:Int)-(i:Nat)) 1) where
 mem:=by simp
 obj:=λi h st b hb=>by
  have e:b=it:=by simpa using hb
  subst e;exact⟨_,st,λv z=>by
   have z':Data.fields _=Data.cell v:=z;cases z'⟩
 keep:=λi h h' st k=>k it (by simp) _ st
 item:=by
  intro X hP hw hK hc i S3 s σ H E I hf st hg;subst hP hw hK;obtain⟨f0,f1,f2,f3,f4,f5⟩:=hf it (by simp);have W:=Walks.range (prog:=X.prog) (w:=X.w) (I.ok.hd hc) it lo 1 n;refine W.item i s _ _ hg st λv h' tk hv UY kk=>?_;obtain⟨t,rfl⟩:=hv;have I1:Inv X S3 σ H {s with heap:=h',toks:=tk}:=I.turned (λb o hb e=>kk b o (by simpa using hb) e) f0 f1 f3 f4 f5;refine⟨_,rfl,mW (s:={s with heap:=h',toks:=tk}) (n:="range_iterator") UY rfl rfl (by decide) ⟨.int (lo+i),H,I1,⟨t,?_⟩,⟨rfl,rfl⟩,UY,λb hb=>(hf b hb).1⟩⟩;rw[Int.mul_one]
 done:=by
  intro X hP hw hK hc i S3 s σ H E I hf st hg;subst hP hw hK;obtain⟨f0,f1,f2,f3,f4,f5⟩:=hf it (by simp);exact wpAny_pyNext_range_end (I.ok.hd hc) st (by have:n<=i:=hg;omega) λh' eb=>⟨rfl,I.turned (t':=s.toks) (λb o hb e=>eb b o hb e) f0 f1 f3 f4 f5⟩
 self:=λ_ _ _ _ _ st h=>wpAny_pyIter_rangeiter st h
end
section
variable {X:Cx}{tg:Expr}
variable {S3:MB}{σ:St}{H:Hp}{s:PX}{pos:Pos}
def Jl (K:Sk)(tl:TE):TI:=λσ H R=>tl σ H λx H1=>∃a,x= .ref a/\(∃xs,aY K H1 a xs)/\R (Lm K a) H1
def L5 (K:Sk)(tl:TE):TI:=λσ H R=>tl σ H λx H1=>∃a,x= .ref a/\(∃xs,cC K H1 a xs)/\R (K7 K a) H1
theorem qu {l:Expr}{tl:TE}(hl:PE X l tl):PI X tg l (Jl X.K tl):=by
 intro S3 s σ H R I h;refine aW (hl S3 s σ H _ I h) λv s1 ⟨x,H1,I1,r1,q1⟩=>?_;obtain⟨a,e,⟨xs,hq⟩,q⟩:=q1;subst e;cases r1
 obtain⟨S5,rv,p,hz⟩:=I1.list hq;refine QM p.isList ?_;refine⟨s1.heap.objs.size,[s1.heap.objs.size],_,_,H1,rfl,I1.kept (t':=s1.toks) λb o e=>RM _ e,yj a _,⟨_,RP _ rfl,rfl,rfl⟩,λb hb=>?_,q⟩;have e:b=s1.heap.objs.size:=by simpa using hb
 subst e;exact I1.gm (O0 _) (I1.S8.fresh (O0 _))
theorem Gb {l:Expr}{tl:TE}(hl:PE X l tl):PI X tg l (L5 X.K tl):=by
 intro S3 s σ H R I h;refine aW (hl S3 s σ H _ I h) λv s1 ⟨x,H1,I1,r1,q1⟩=>?_;obtain⟨a,e,⟨xs,hq⟩,q⟩:=q1;subst e;cases r1
 obtain⟨S5,rv,p,hz⟩:=I1.tuple hq;refine QI (show s1.heap.IsTuple a S5.toArray from p) ?_;refine⟨s1.heap.objs.size,[s1.heap.objs.size],_,_,H1,rfl,I1.kept (t':=s1.toks) λb o e=>RM _ e,xt a _,⟨_,RP _ rfl,rfl,rfl⟩,λb hb=>?_,q⟩;have e:b=s1.heap.objs.size:=by simpa using hb
 subst e;exact I1.gm (O0 _) (I1.S8.fresh (O0 _))
theorem sh {R:It->Hp->Prop}{E:Value->PX->Prop}{lo hi:Int}{t u v:Tok}{tk:Nat}(I:Inv X S3 σ H s)(h1: -(2 ^ 62)<=lo)(h2:lo<2 ^ 62)(h3: -(2 ^ 62)<=hi)(h4:hi<2 ^ 62)(q:R (yN lo (hi-lo).toNat) H):wpAny (model X.prog X.w) X.A (pyIter (.ref s.heap.objs.size)) (FD X S3 σ tg R) E {s with heap:=s.heap.push {cls:=.type "range",data:=.fields #[.int lo t,.int hi u,.int 1 v]},toks:=tk}:=by
 refine wpAny_pyIter_range (IsRange.new ..) (small_one h1 h2 h3 h4) ?_;have I1:Inv X S3 σ H {s with heap:=s.heap.push {cls:=.type "range",data:=.fields #[.int lo t,.int hi u,.int 1 v]},toks:=tk}:=I.kept λb o e=>RM _ e;refine⟨(s.heap.push {cls:=.type "range",data:=.fields #[.int lo t,.int hi u,.int 1 v]}).objs.size,[(s.heap.push {cls:=.type "range",data:=.fields #[.int lo t,.int hi u,.int 1 v]}).objs.size],_,_,H,rfl,
  I1.kept (t':=tk) λb o e=>RM _ e,w6 _ lo (hi-lo).toNat,?_,λb hb=>?_,q⟩
 ·have e1:lo+((0:Nat):Int)*1=lo:=by simp
  have e2:(((hi-lo).toNat:Nat):Int)-((0:Nat):Int)=Rc.Range.rangeSize lo hi 1:=by rw[rangeSize_one];split<;>omega
  show Q6 _ _ (lo+((0:Nat):Int)*1) ((((hi-lo).toNat:Nat):Int)-((0:Nat):Int)) 1;rw[e1,e2];exact RP _ rfl
 ·have e:b=(s.heap.push {cls:=.type "range",data:=.fields #[.int lo t,.int hi u,.int 1 v]}).objs.size:=by simpa using hb
  subst e;exact I1.gm (O0 _) (I1.S8.fresh (O0 _))
def KH (ta:TA):TI:=λσ H R=>ta σ H λvs H1=>∃j:Int,vs=[.int j]/\ -(2 ^ 62)<=j/\j<2 ^ 62/\R (yN 0 j.toNat) H1
def Jb (ta:TA):TI:=λσ H R=>ta σ H λvs H1=>∃i j:Int,vs=[.int i,.int j]/\(-(2 ^ 62)<=i/\i<2 ^ 62/\ -(2 ^ 62)<=j/\j<2 ^ 62)/\R (yN i (j-i).toNat) H1
theorem xJ {a:Expr}{ta:TA}{p:Pos}(hg:Gl X "range")(hm:X.mg "range"=none)(ha:PA X [a] ta)(hs:PU [a] X.env=[(false,eval a X.env)]:=by rfl):PI X tg (.Call (.Name "range" p) [a] [] pos) (KH ta):=by
 intro S3 s σ H R I h;refine Call_ (fQ I hg hm PQ (Pz (aW (ha pos S3 s σ H _ I h) λus s1 ⟨vs,H1,I1,r1,q1⟩=>?_) hs rfl));obtain⟨j,e,q1,q2,q⟩:=q1;subst e;cases r1 with
 | cons r rr=>
   cases rr
   obtain⟨t,rfl⟩:=r;exact call_range_1 (sh I1 (by omega) (by omega) q1 q2 (by simpa using q))
theorem yy {a b:Expr}{ta:TA}{p:Pos}(hg:Gl X "range")(hm:X.mg "range"=none)(ha:PA X [a,b] ta)(hs:PU [a,b] X.env=[(false,eval a X.env),(false,eval b X.env)]:=by rfl)(TC:PU [b] X.env=[(false,eval b X.env)]:=by rfl):
 PI X tg (.Call (.Name "range" p) [a,b] [] pos) (Jb ta):=by
 intro S3 s σ H R I h;refine Call_ (fQ I hg hm PQ (Pz (aW (ha pos S3 s σ H _ I h) λus s1 ⟨vs,H1,I1,r1,q1⟩=>?_) (by rw[hs,TC]) (by rw[TC];rfl)));obtain⟨i,j,e,⟨q1,q2,q3,q4⟩,q⟩:=q1;subst e;cases r1 with
 | cons r rr=>
   cases rr with
   | cons r' rr=>
     cases rr
     obtain⟨t,rfl⟩:=r;obtain⟨t',rfl⟩:=r';exact call_range_2 (sh I1 q1 q2 q3 q4 q)
def LR (wi:TI)(g:TG)(tb:TS):TS:=λD σ H=>wi σ H λJ H1=>∃W:Nat->Nat->St->Hp->Prop,(∃m,W 0 m σ H1)/\∀i m σ H,W i m σ H->
 (J.stop i H/\D.nx σ H)∨(J.go i H/\∃N:St->Hp->Prop,(∀σ' H',N σ' H'->∃m',m'<m/\W (i+1) m' σ' H')/\∀x H',J.Xb i H x H'->g x σ H' λσ2 H2=>tb {D with nx:=N,ct:=N,bk:=D.nx} σ2 H2)
def kU (fp:MG)(h:Heap):MB:=fp.filterMap λb=>(h.get? b).map λo=>(b,o)
theorem jn {fp:MG}{h:Heap}{b:Addr}{o:Obj}(hb:b∈fp)(e:h.get? b=some o):(b,o)∈kU fp h:=OJ.mpr ⟨b,hb,by rw[e];rfl⟩
theorem z6 {fp:MG}{h:Heap}{p:Addr×Obj}(hp:p∈kU fp h):p.1∈fp/\h.get? p.1=some p.2:=by
 obtain⟨b,hb,e⟩:=OJ.mp hp;cases q:h.get? b with
 | none=>rw[q] at e;cases e
 | some o=>
   rw[q] at e;have e':(b,o)=p:=Option.some.inj e;subst e';exact⟨hb,q⟩
theorem Inv.pinned {fp:MG}(I:Inv X S3 σ H s)(hf:∀b∈fp,jd X S3 H b)(ho:∀b∈fp,∃o,s.heap.get? b=some o/\∀v,o.data≠ .cell v):Inv X (S3++kU fp s.heap) σ H s:=
 I.jv λp hp=>(Nj.mp hp).elim (λz=>I.pin p (Nh _ z)) λz=>by
   obtain⟨hb,e⟩:=z6 z;obtain⟨f0,f1,f2,_⟩:=hf p.1 hb;obtain⟨o,e',d⟩:=ho p.1 hb;rw[e] at e';cases e'
   exact⟨e,f0,f1,f2,d⟩
theorem Inv.nX {pl:MB}(I:Inv X (S3++pl) σ H s):Inv X S3 σ H s:=I.jv λp hp=>I.pin p (Nh _ (Np _ hp))
theorem tE {iter:Expr}{body:List Stmt}{wi:TI}{g:TG}{tb:TS}(hp:QX (model X.prog X.w) X.A X.env X.xe)(hc:X.calm=true)(hi:PI X tg iter wi)(hg:PG X tg g)(hb:jJ X body tb)(hs:∀x,Qi iter X.env x=pure x:=by intro _;rfl):PS X (.For tg iter body [] pos) (LR wi g tb):=by
 intro S3 s σ H D I h;refine wpAny_For (aW (hi S3 s σ H _ I h) λv s1 h1=>aW h1 λitv s2 h2=>?_) hs;obtain⟨it,fp,tn,J,H2,e,I2,T,VJ,f2,W,⟨m0,w0⟩,turn⟩:=h2;subst e
 -- what stays true of Xe Ww objects through Xe loop
 have Wr:∀{H':Hp},(∀b∈fp,H' b=none)->∀b∈fp,jd X S3 H' b:=λhn b hb=>⟨hn b hb,(f2 b hb).2⟩;refine codeAny_forLoop_any (λn s'=>∃i σ' H',Inv X S3 σ' H' s'/\tn i s'.heap/\(∀b∈fp,H' b=none)/\W i n σ' H') ?_ m0 ⟨0,σ,H2,I2,VJ,λb hb=>(f2 b hb).1,w0⟩;rintro n s3 ⟨i,σ3,H3,I3,st3,fr3,w3⟩;rcases turn i n σ3 H3 w3 with⟨stop,qn⟩ | ⟨go,N,hN,step⟩
 ·refine Qu hp (aW (T.done X rfl rfl rfl hc i S3 s3 σ3 H3 X.xe I3 (Wr fr3) st3 stop) λr s4 ⟨hr,I4⟩=>?_);subst hr;exact QN ⟨σ3,H3,I4,qn⟩
 ·refine Qu hp (aW (T.item X rfl rfl rfl hc i S3 s3 σ3 H3 X.xe I3 (Wr fr3) st3 go) λr s4 ⟨u,hr,h4⟩=>?_);subst hr;refine Qu hp (aW h4 λ_ s5 ⟨x,H5,I5,r5,y5,WY,fr5⟩=>?_);have I5':=I5.pinned (Wr fr5) (T.obj _ _ WY);refine Qu hp (aW (hg _ s5 σ3 H5 x u _ I5' r5 (step x H5 y5)) λ_ s6 ⟨σ6,H6,I6,q6⟩=>?_);refine Qu hp (aW (hb _ s6 σ6 H6 _ I6 q6) λf s7 q7=>?_);have again:∀{σ7:St}{H7:Hp},Inv X (S3++kU fp s5.heap) σ7 H7 s7->N σ7 H7->∃m,m<n/\∃i σ' H',Inv X S3 σ' H' s7/\tn i s7.heap/\(∀b∈fp,H' b=none)/\W i m σ' H':=λ{σ7 H7} I7 n7=>by
   obtain⟨m',hm,w7⟩:=hN σ7 H7 n7;refine⟨m',hm,i+1,σ7,H7,I7.nX,T.keep _ _ _ WY λb hb o e=>(I7.pin (b,o) (Nh _ (Nh _ (jn hb e)))).1,λb hb=>?_,w7⟩;obtain⟨o,e,d⟩:=T.obj _ _ WY b hb;exact(I7.pin (b,o) (Nh _ (Nh _ (jn hb e)))).2.1
  cases f with
  | next=>obtain⟨σ7,H7,I7,n7⟩:=q7;exact again I7 n7
  | cont=>obtain⟨σ7,H7,I7,n7⟩:=q7;exact again I7 n7
  | brk=>obtain⟨σ7,H7,I7,q7⟩:=q7;exact⟨σ7,H7,I7.nX,q7⟩
  | ret v=>obtain⟨x7,σ7,H7,I7,r7,q7⟩:=q7;exact⟨x7,σ7,H7,I7.nX,r7,q7⟩
end
abbrev R2:=V->V->Hp->VK->Prop
def dW (X:Cx)(f:Value->Value->Sem Value)(r:R2):Prop:=
 ∀(S3:MB)(s:PX)(σ:St)(H:Hp)(x y:V)(v u:Value)(Q:VK),Inv X S3 σ H s->RelV x v->RelV y u->r x y H Q->
  wpAny (model X.prog X.w) X.A (f v u) (EP X S3 σ Q) X.xe s
def Iw (X:Cx)(f:Value->Sem Value)(r:V->Hp->VK->Prop):Prop:=
 ∀(S3:MB)(s:PX)(σ:St)(H:Hp)(x:V)(v:Value)(Q:VK),Inv X S3 σ H s->RelV x v->r x H Q->
  wpAny (model X.prog X.w) X.A (f v) (EP X S3 σ Q) X.xe s
def fF (X:Cx)(f:Value)(r:List V->Hp->VK->Prop):Prop:=
 ∀(S3:MB)(s:PX)(σ:St)(H:Hp)(xs:List V)(us:MH)(Q:VK),Inv X S3 σ H s->Vals xs us->r xs H Q->
  wpAny (model X.prog X.w) X.A (call f us) (EP X S3 σ Q) X.xe s
def Mc (X:Cx)(r:V->Hp->(Bool->Hp->Prop)->Prop):Prop:=
 ∀(S3:MB)(s:PX)(σ:St)(H:Hp)(x:V)(v:Value)(Q:Bool->Hp->Prop),Inv X S3 σ H s->RelV x v->r x H Q->
  wpAny (model X.prog X.w) X.A (truthy v) (TP X S3 σ Q) X.xe s
def BH (r:R2)(ta tb:TE):TE:=λσ H Q=>ta σ H λx H1=>tb σ H1 λy H2=>r x y H2 Q
def tUn (r:V->Hp->VK->Prop)(ta:TE):TE:=λσ H Q=>ta σ H λx H1=>r x H1 Q
def rI (C:Int->Int->Prop)(g:Int->Int->V):R2:=λx y H Q=>∃i j,x= .int i/\y= .int j/\C i j/\Q (g i j) H
def qT (g:Int->Int->V):R2:=λx y H Q=>∃i j,x= .int i/\y= .int j/\Q (g i j) H
def rU (g:Int->V):V->Hp->VK->Prop:=λx H Q=>∃i,x= .int i/\Q (g i) H
variable {X:Cx}{a b c:Expr}{ta tb tc:TE}{pos:Pos}
section
variable {f:Value->Value->Sem Value}
theorem Bh (ha:PE X a ta)(hb:PE X b tb){S3:MB}{s:PX}{σ:St}{H:Hp}{R:V->V->Hp->Prop}(I:Inv X S3 σ H s)(h:ta σ H λx H1=>tb σ H1 λy H2=>R x y H2){Q:Value->PX->Prop}(hf:∀v u s2 x y H2,Inv X S3 σ H2 s2->RelV x v->RelV y u->R x y H2->wpAny (model X.prog X.w) X.A (f v u) Q X.xe s2):
 wpAny (model X.prog X.w) X.A (eval a X.env) (λv s₁=>wpAny (model X.prog X.w) X.A (eval b X.env) (λu s₂=>wpAny (model X.prog X.w) X.A (f v u) Q X.xe s₂) X.xe s₁) X.xe s:=by
 refine aW (ha S3 s σ H _ I h) λv s1 ⟨x,H1,I1,r1,q1⟩=>?_;refine aW (hb S3 s1 σ H1 _ I1 q1) λu s2 ⟨y,H2,I2,r2,q2⟩=>?_;exact hf v u s2 x y H2 I2 r1 r2 q2
theorem CG {op:Operator}{r:R2}(ho:dW X (Qw op) r)(ha:PE X a ta)(hb:PE X b tb):PE X (.BinOp a op b pos) (BH r ta tb):=by
 intro S3 s σ H Q I h;exact wpAny_BinOp (Bh ha hb I h λv u s2 x y H2 I2 rx ry q=>ho S3 s2 σ H2 x y v u Q I2 rx ry q)
theorem Kt {op:UnaryOp}{r:V->Hp->VK->Prop}(ho:Iw X (unaryOp op) r)(ha:PE X a ta):PE X (.UnaryOp op a pos) (tUn r ta):=by
 intro S3 s σ H Q I h;exact UnaryOp_ (aW (ha S3 s σ H _ I h) λv s1 ⟨x,H1,I1,r1,q1⟩=>ho S3 s1 σ H1 x v Q I1 r1 q1)
theorem vq {C:Int->Int->Prop}{g:Int->Int->Int}(rule:∀(i j:Int)(t u:Tok)(s:PX)(Q:Value->PX->Prop)(E:Value->PX->Prop),C i j->Q (.int (g i j) s.toks) {s with toks:=s.toks+1}->wpAny (model X.prog X.w) X.A (f (.int i t) (.int j u)) Q E s):
 dW X f (rI C λi j=>.int (g i j)):=by
 intro S3 s σ H x y v u Q I rx ry h;obtain⟨i,j,rfl,rfl,hc,q⟩:=h;obtain⟨t,rfl⟩:=rx;obtain⟨t',rfl⟩:=ry;exact rule i j t t' s _ _ hc ⟨.int (g i j),H,I.tok _,⟨_,rfl⟩,q⟩
theorem Fh {g:Int->Int->Int}(rule:∀(i j:Int)(t u:Tok)(s:PX)(Q:Value->PX->Prop)(E:Value->PX->Prop),Q (.int (g i j) s.toks) {s with toks:=s.toks+1}->wpAny (model X.prog X.w) X.A (f (.int i t) (.int j u)) Q E s):
 dW X f (qT λi j=>.int (g i j)):=by
 intro S3 s σ H x y v u Q I rx ry h;obtain⟨i,j,rfl,rfl,q⟩:=h;obtain⟨t,rfl⟩:=rx;obtain⟨t',rfl⟩:=ry;exact rule i j t t' s _ _ ⟨.int (g i j),H,I.tok _,⟨_,rfl⟩,q⟩
theorem xD {g:Int->Int->Bool}(rule:∀(i j:Int)(t u:Tok)(s:PX)(Q:Value->PX->Prop)(E:Value->PX->Prop),Q (.bool (g i j)) s->wpAny (model X.prog X.w) X.A (f (.int i t) (.int j u)) Q E s):
 dW X f (qT λi j=>.bl (g i j)):=by
 intro S3 s σ H x y v u Q I rx ry h;obtain⟨i,j,rfl,rfl,q⟩:=h;obtain⟨t,rfl⟩:=rx;obtain⟨t',rfl⟩:=ry;exact rule i j t t' s _ _ ⟨.bl (g i j),H,I,rfl,q⟩
def GH (i j:Int):Prop:=0<j/\j<1073741824
def HZ (i j:Int):Prop:=0<=j/\j<=1000000/\i.natAbs<2 ^ 64
def xo (i j:Int):Prop:=(-(2 ^ 64)<i/\i<2 ^ 64)∨(-(2 ^ 64)<j/\j<2 ^ 64)
theorem xo.ok {i j:Int}(h:xo i j):Rh i j:=by
 rcases h with⟨h1,h2⟩ | ⟨h1,h2⟩
 ·exact .of_left (Q0 h1 h2)
 ·exact .of_right (Q0 h1 h2)
theorem GK:dW X (Qw .Add) (qT λi j=>.int (i+j)):=Fh λ_ _ _ _ _ _ _ q=>add_int q
theorem Ff:dW X (Qw .Sub) (qT λi j=>.int (i-j)):=Fh λ_ _ _ _ _ _ _ q=>sub_int q
theorem FH:dW X (Qw .Mult) (rI xo λi j=>.int (i*j)):=vq λ_ _ _ _ _ _ _ hc q=>mul_int q hc.ok
theorem D7:dW X (Qw .FloorDiv) (rI GH λi j=>.int (i/j)):=vq λi j _ _ _ _ _ hc q=>by
 have h1:(0:Int)<j:=hc.1;have h2:j<1073741824:=hc.2;exact floordiv_int (by omega) (by rw[Int.fdiv_eq_ediv_of_nonneg i (by omega)];exact q) (.inl (PyProof.noPylong_small (by omega)))
theorem ER:dW X (Qw .Mod) (rI (λ_ j=>0<j) λi j=>.int (i%j)):=vq λi j _ _ _ _ _ hc q=>by
 have h1:(0:Int)<j:=hc;exact mod_int' (by omega) (by rw[Int.fmod_eq_emod_of_nonneg i (by omega)];exact q)
theorem HW:dW X (Qw .Pow) (rI HZ λi j=>.int (i ^ j.toNat)):=vq λ_ _ _ _ _ _ _ hc q=>pow_int_small hc.1 hc.2.1 hc.2.2 q
theorem unI {f:Value->Sem Value}{g:Int->Int}(rule:∀(i:Int)(t:Tok)(s:PX)(Q:Value->PX->Prop)(E:Value->PX->Prop),Q (.int (g i) s.toks) {s with toks:=s.toks+1}->wpAny (model X.prog X.w) X.A (f (.int i t)) Q E s):
 Iw X f (rU λi=>.int (g i)):=by
 intro S3 s σ H x v Q I rx h;obtain⟨i,rfl,q⟩:=h;obtain⟨t,rfl⟩:=rx;exact rule i t s _ _ ⟨.int (g i),H,I.tok _,⟨_,rfl⟩,q⟩
theorem Gm:Iw X (unaryOp .USub) (rU λi=>.int (-i)):=unI λ_ _ _ _ _ q=>neg_int q
end
def Ht:V->V->Bool
 | .Tf,.Tf=>true | .Tf,.int _=>true | .int _,.Tf=>true | .Tf,.bl _=>true | .bl _,.Tf=>true | .Tf,.str _=>true | .str _,.Tf=>true
 | .int _,.int _=>true | .bl _,.bl _=>true | .str _,.str _=>true | .Vd _,.Vd _=>true
 | .int _,.str _=>true | .str _,.int _=>true | .bl _,.str _=>true | .str _,.bl _=>true
 | _,_=>false
def rEq:R2:=λx y H Q=>Ht x y=true/\Q (.bl (decide (x=y))) H
def rNe:R2:=λx y H Q=>Ht x y=true/\Q (.bl (!decide (x=y))) H
theorem nj {i j:Int}:decide (V.int i=V.int j)=(i==j):=by
 rw[MO];simp
theorem ur {i j:Bool}:decide (V.bl i=V.bl j)=(i==j):=by
 rw[MO];simp
theorem lg {i j:Str}:decide (V.str i=V.str j)=(i==j):=by
 rw[MO];simp
theorem vT {i j:Array UInt8}:decide (V.Vd i=V.Vd j)=(i.toList==j.toList):=by
 rw[MO];cases i
 cases j
 simp
section
variable {op:CmpOp}{r:R2}
theorem bM {S3:MB}{σ:St}{H:Hp}{s:PX}{Q:VK}{k k':Bool}(I:Inv X S3 σ H s)(q:Q (.bl k) H)(e:k=k'):EP X S3 σ Q (.bool k') s:=by
 subst e;exact⟨.bl k,H,I,rfl,q⟩
theorem Cj:dW X (Qd .Eq) rEq:=by
 intro S3 s σ H x y v u Q I rx ry h;obtain⟨hs,q⟩:=h;cases x with
 | Tf=>
   cases rx
   cases y with
   | Tf=>cases ry;exact PySem.EqNone.eq_none_none (bM I q (by simp))
   | bl j=>cases ry;exact PySem.EqNone.eq_none_bool (bM I q (by simp))
   | int j=>obtain⟨t',rfl⟩:=ry;exact PySem.EqNone.eq_none_int (bM I q (by simp))
   | str j=>obtain⟨t',rfl⟩:=ry;exact PySem.EqNone.eq_none_str (bM I q (by simp))
   | _=>exact SQ (show false=true from hs) MM
 | bl i=>
   cases rx
   cases y with
   | Tf=>cases ry;exact PySem.EqNone.eq_bool_none (bM I q (by simp))
   | bl j=>cases ry;exact eq_bool (bM I q ur)
   | str j=>obtain⟨t',rfl⟩:=ry;exact PySem.EqMixed.eq_bool_str (bM I q (by simp))
   | _=>exact SQ (show false=true from hs) MM
 | int i=>
   obtain⟨t,rfl⟩:=rx;cases y with
   | Tf=>cases ry;exact PySem.EqNone.eq_int_none (bM I q (by simp))
   | int j=>obtain⟨t',rfl⟩:=ry;exact eq_int (bM I q nj)
   | str j=>obtain⟨t',rfl⟩:=ry;exact PySem.EqMixed.eq_int_str (bM I q (by simp))
   | _=>exact SQ (show false=true from hs) MM
 | str i=>
   obtain⟨t,rfl⟩:=rx;cases y with
   | Tf=>cases ry;exact PySem.EqNone.eq_str_none (bM I q (by simp))
   | bl j=>cases ry;exact PySem.EqMixed.eq_str_bool (bM I q (by simp))
   | int j=>obtain⟨t',rfl⟩:=ry;exact PySem.EqMixed.eq_str_int (bM I q (by simp))
   | str j=>obtain⟨t',rfl⟩:=ry;exact eq_str (bM I q lg)
   | _=>exact SQ (show false=true from hs) MM
 | Vd i=>
   obtain⟨t,rfl⟩:=rx;cases y with
   | Vd j=>obtain⟨t',rfl⟩:=ry;exact PySem.W.eq_bytes (bM I q vT)
   | _=>exact SQ (show false=true from hs) MM
 | _=>cases y<;>exact SQ (show false=true from hs) MM
theorem xg:dW X (Qd .NotEq) rNe:=by
 intro S3 s σ H x y v u Q I rx ry h;obtain⟨hs,q⟩:=h;cases x with
 | Tf=>
   cases rx
   cases y with
   | Tf=>cases ry;exact PySem.EqNone.ne_none_none (bM I q (by simp))
   | bl j=>cases ry;exact PySem.EqNone.ne_none_bool (bM I q (by simp))
   | int j=>obtain⟨t',rfl⟩:=ry;exact PySem.EqNone.ne_none_int (bM I q (by simp))
   | str j=>obtain⟨t',rfl⟩:=ry;exact PySem.EqNone.ne_none_str (bM I q (by simp))
   | _=>exact SQ (show false=true from hs) MM
 | bl i=>
   cases rx
   cases y with
   | Tf=>cases ry;exact PySem.EqNone.ne_bool_none (bM I q (by simp))
   | bl j=>cases ry;exact ne_bool (bM I q (congrArg not ur))
   | str j=>obtain⟨t',rfl⟩:=ry;exact PySem.EqMixed.ne_bool_str (bM I q (by simp))
   | _=>exact SQ (show false=true from hs) MM
 | int i=>
   obtain⟨t,rfl⟩:=rx;cases y with
   | Tf=>cases ry;exact PySem.EqNone.ne_int_none (bM I q (by simp))
   | int j=>obtain⟨t',rfl⟩:=ry;exact ne_int (bM I q (congrArg not nj))
   | str j=>obtain⟨t',rfl⟩:=ry;exact PySem.EqMixed.ne_int_str (bM I q (by simp))
   | _=>exact SQ (show false=true from hs) MM
 | str i=>
   obtain⟨t,rfl⟩:=rx;cases y with
   | Tf=>cases ry;exact PySem.EqNone.ne_str_none (bM I q (by simp))
   | bl j=>cases ry;exact PySem.EqMixed.ne_str_bool (bM I q (by simp))
   | int j=>obtain⟨t',rfl⟩:=ry;exact PySem.EqMixed.ne_str_int (bM I q (by simp))
   | str j=>obtain⟨t',rfl⟩:=ry;exact ne_str (bM I q (congrArg not lg))
   | _=>exact SQ (show false=true from hs) MM
 | Vd i=>
   obtain⟨t,rfl⟩:=rx;cases y with
   | Vd j=>obtain⟨t',rfl⟩:=ry;exact PySem.W.ne_bytes (bM I q (congrArg not vT))
   | _=>exact SQ (show false=true from hs) MM
 | _=>cases y<;>exact SQ (show false=true from hs) MM
theorem Ji:dW X (Qd .Lt) (qT λi j=>.bl (decide (i<j))):=xD λ_ _ _ _ _ _ _ q=>lt_int q
theorem Ke:dW X (Qd .LtE) (qT λi j=>.bl (decide (i<=j))):=xD λ_ _ _ _ _ _ _ q=>le_int q
theorem J8:dW X (Qd .Gt) (qT λi j=>.bl (decide (j<i))):=xD λ_ _ _ _ _ _ _ q=>gt_int q
theorem JC:dW X (Qd .GtE) (qT λi j=>.bl (decide (j<=i))):=xD λ_ _ _ _ _ _ _ q=>ge_int q
theorem oZ (b:Expr)(h:op≠ .In:=by decide)(h2:op≠ .NotIn:=by decide):Qp op b=false:=by
 have e1:(op==CmpOp.In)=false:=by cases op<;>first | rfl | exact SQ rfl h
 have e2:(op==CmpOp.NotIn)=false:=by cases op<;>first | rfl | exact SQ rfl h2
 cases b<;>simp[Qp,e1,e2]
theorem EI (ho:dW X (Qd op) r)(ha:PE X a ta)(hb:PE X b tb)(hm:Qp op b=false):PE X (.Compare a [op] [b] pos) (BH r ta tb):=by
 intro S3 s σ H Q I h;exact wpAny_Compare1 (Bh ha hb I h λv u s2 x y H2 I2 rx ry q=>ho S3 s2 σ H2 x y v u Q I2 rx ry q) hm
def BS (t:TE):TT:=λσ H Q=>t σ H λx H'=>∃k,x= .bl k/\Q k H'
theorem EK (ho:dW X (Qd op) r)(ha:PE X a ta)(hb:PE X b tb)(hm:Qp op b=false):PT X (.Compare a [op] [b] pos) (BS (BH r ta tb)):=by
 intro S3 s σ H Q I h;refine wpAny_isTrue_Compare1 (aW (ha S3 s σ H _ I h) λv s1 ⟨x,H1,I1,r1,q1⟩=>aW (hb S3 s1 σ H1 _ I1 q1) λu s2 ⟨y,H2,I2,r2,q2⟩=>
  aW (ho S3 s2 σ H2 x y v u _ I2 r1 r2 q2) λc s3 ⟨z,H3,I3,r3,k,e,q3⟩=>?_) hm
 subst e;cases r3
 exact Qb ⟨H3,I3,q3⟩
def yX (r r':R2)(ta tb tc:TE):TE:=λσ H Q=>ta σ H λx H1=>tb σ H1 λy H2=>r x y H2 λz H3=>∃k,z= .bl k/\
 (if k=true then tc σ H3 λw' H4=>r' y w' H4 Q else Q (.bl false) H3)
theorem AA {U0:CmpOp}{r':R2}(ho:dW X (Qd op) r)(UI:dW X (Qd U0) r')(ha:PE X a ta)(hb:PE X b tb)(hc:PE X c tc)(hm:lastMarks [op,U0] [b,c]=false:=by with_unfolding_all rfl):PE X (.Compare a [op,U0] [b,c] pos) (yX r r' ta tb tc):=by
 intro S3 s σ H Q I h;refine Compare_chain (aW (ha S3 s σ H _ I h) λv s1 ⟨x,H1,I1,r1,q1⟩=>chain_link (aW (hb S3 s1 σ H1 _ I1 q1) λu s2 ⟨y,H2,I2,r2,q2⟩=>
  aW (ho S3 s2 σ H2 x y v u _ I2 r1 r2 q2) λd s3 ⟨z,H3,I3,r3,k,e,q3⟩=>?_)) hm
 subst e;cases r3
 refine Qb ?_;cases k with
 | false=>exact ite_ff ⟨.bl false,H3,I3,rfl,q3⟩
 | true=>exact ite_tt (chain_last (aW (hc S3 s3 σ H3 _ I3 q3) λw' s4 ⟨z',H4,I4,r4,q4⟩=>UI S3 s4 σ H4 y z' u w' Q I4 r2 r4 q4))
theorem An {U0:CmpOp}{r':R2}(ho:dW X (Qd op) r)(UI:dW X (Qd U0) r')(ha:PE X a ta)(hb:PE X b tb)(hc:PE X c tc)(hm:lastMarks [op,U0] [b,c]=false:=by with_unfolding_all rfl):PT X (.Compare a [op,U0] [b,c] pos) (BS (yX r r' ta tb tc)):=by
 intro S3 s σ H Q I h;refine isTrue_chain (aW (ha S3 s σ H _ I h) λv s1 ⟨x,H1,I1,r1,q1⟩=>test_link (aW (hb S3 s1 σ H1 _ I1 q1) λu s2 ⟨y,H2,I2,r2,q2⟩=>
  aW (ho S3 s2 σ H2 x y v u _ I2 r1 r2 q2) λd s3 ⟨z,H3,I3,r3,k,e,q3⟩=>?_)) hm
 subst e;cases r3
 refine Qb ?_;cases k with
 | false=>
   obtain⟨k',e',q'⟩:=q3;cases e'
   exact ite_ff ⟨H3,I3,q'⟩
 | true=>
   refine ite_tt (test_last (aW (hc S3 s3 σ H3 _ I3 q3) λw' s4 ⟨z',H4,I4,r4,q4⟩=>aW (UI S3 s4 σ H4 y z' u w' _ I4 r2 r4 q4) λd' s5 ⟨z2,H5,I5,r5,k2,e2,q5⟩=>?_));subst e2;cases r5
   exact Qb ⟨H5,I5,q5⟩
def EZ (K:Sk)(x:V)(H:Hp)(k:Bool):Prop:=
 match x with
 | .Tf=>k=false
 | .bl b=>k=b
 | .int i=>k=(i != 0)
 | .str y=>y.length<=PZ/\k=((y.length:Int) != 0)
 | .Vd y=>y.size<=PZ/\k=((y.size:Int) != 0)
 | .ref p=>(∃xs,aY K H p xs/\k= !xs.isEmpty)∨(∃xs,cC K H p xs/\k= !xs.isEmpty)∨∃kvs,H p=some (.dK kvs)/\k= !kvs.isEmpty
 | _=>False
theorem xB {κ:Type}{kvs:List (κ×V)}{vs:List (κ×Value)}(r:KV kvs vs):(!vs.isEmpty)= !kvs.isEmpty:=by
 cases r<;>rfl
theorem oz {xs:List V}{S5:MH}(r:Vals xs S5):(!S5.toArray.isEmpty)= !xs.isEmpty:=by
 cases r<;>simp
theorem jP:(PZ:Nat)<2 ^ 63:=by rw[QW];decide
theorem FZ:Mc X (λx H Q=>∃k,EZ X.K x H k/\Q k H):=by
 intro S3 s σ H x v Q I rx h;obtain⟨k,e,q⟩:=h;have hl:=jP;have hs:PZ=16777216:=QW;cases x with
 | Tf=>
   cases rx
   have e':k=false:=e;subst e';exact truthy_none ⟨H,I,q⟩
 | bl b=>
   cases rx
   have e':k=b:=e;subst e';exact Qb ⟨H,I,q⟩
 | int i=>
   obtain⟨t,rfl⟩:=rx;have e':k=(i != 0):=e;subst e';exact PySem.P.truthy_int ⟨H,I,q⟩
 | str y=>
   obtain⟨t,rfl⟩:=rx;obtain⟨hy,e'⟩:y.length<=PZ/\k=((y.length:Int) != 0):=e;subst e';exact PySem.P.truthy_str (by omega) ⟨H,I.tok _,q⟩
 | Vd y=>
   obtain⟨t,rfl⟩:=rx;obtain⟨hy,e'⟩:y.size<=PZ/\k=((y.size:Int) != 0):=e;subst e';exact PySem.W.truthy_bytes (by omega) ⟨H,I.tok _,q⟩
 | ref p=>
   cases rx
   have e':(∃xs,aY X.K H p xs/\k= !xs.isEmpty)∨(∃xs,cC X.K H p xs/\k= !xs.isEmpty)∨∃kvs,H p=some (.dK kvs)/\k= !kvs.isEmpty:=e;rcases e' with⟨xs,hx,e'⟩ | ⟨xs,hx,e'⟩ | ⟨kvs,hx,e'⟩
   ·subst e';obtain⟨S5,r,pl,hz⟩:=I.list hx;have hlen:=r.length;exact wpAny_truthy_list pl.isList (by simp only[Nm];omega) ⟨H,I.tok _,by rw[oz r];exact q⟩
   ·subst e';obtain⟨S5,r,pl,hz⟩:=I.tuple hx;have hlen:=r.length;exact truthy_tuple pl (by simp only[Nm];omega) ⟨H,I.tok _,by rw[oz r];exact q⟩
   ·subst e';obtain⟨hz,hS,vs,r,m⟩:kvs.length<=PZ/\(p==Qk)=false/\∃vs,KV kvs vs/\s.heap.DictOf (cg X.prog X.w) p vs:=I.S8 p _ hx;have hlen:kvs.length=vs.length:=Paired.length r;exact wpAny_truthy_dict hS m (by omega) ⟨H,I.tok _,by rw[xB r];exact q⟩
 | _=>exact(show False from e).elim
theorem sg (ha:PE X a ta)(he:∀whole,QH a X.env whole=(do let v ← whole;QT a.pos;Qv [v] (truthy v))):
 PT X a (λσ H Q=>ta σ H λx H'=>∃k,EZ X.K x H' k/\Q k H'):=by
 intro S3 s σ H Q I h;exact isTrue_plain (aW (ha S3 s σ H _ I h) λv s1 ⟨x,H1,I1,r1,q1⟩=>FZ S3 s1 σ H1 x v Q I1 r1 q1) (he _)
theorem wU:dW X (Qw .Add) (λx y H Q=>∃i j,x= .str i/\y= .str j/\i.length+j.length<=PZ/\Q (.str (i++j)) H):=by
 intro S3 s σ H x y v u Q I rx ry h;obtain⟨i,j,rfl,rfl,hz,q⟩:=h;obtain⟨t,rfl⟩:=rx;obtain⟨t',rfl⟩:=ry;exact add_str (λt' tk=>⟨.str (i++j),H,I.tok _,⟨_,rfl⟩,q⟩) hz
theorem vals1 {x:V}{us:MH}(r:Vals [x] us):∃u,us=[u]/\RelV x u:=by
 cases r with
 | cons r1 r2=>cases r2;exact⟨_,rfl,r1⟩
theorem vals2 {x y:V}{us:MH}(r:Vals [x,y] us):∃u w',us=[u,w']/\RelV x u/\RelV y w':=by
 cases r with
 | cons r1 r2=>
   cases r2 with
   | cons r3 r4=>cases r4;exact⟨_,_,rfl,r1,r3⟩
theorem yC (hc:X.calm=true):fF X (.builtin "min") (λxs H Q=>∃i j,xs=[.int i,.int j]/\Q (.int (if j<i then j else i)) H):=by
 intro S3 s σ H xs us Q I r h;obtain⟨i,j,rfl,q⟩:=h;obtain⟨u,w',rfl,⟨t,rfl⟩,⟨t',rfl⟩⟩:=vals2 r;refine min_two_ints (I.ok.hd hc) λh' tk k=>⟨_,H,I.kept k,?_,q⟩;by_cases hj:j<i
 ·rw[SS hj,SS hj];exact⟨_,rfl⟩
 ·rw[SR hj,SR hj];exact⟨_,rfl⟩
theorem yZ:fF X (.type "int") (λxs H Q=>(∃i,xs=[.int i]/\Q (.int i) H)∨∃k,xs=[.bl k]/\Q (.int (if k then 1 else 0)) H):=by
 intro S3 s σ H xs us Q I r h;rcases h with⟨i,rfl,q⟩ | ⟨k,rfl,q⟩
 ·obtain⟨u,rfl,t,rfl⟩:=vals1 r;exact call_int_int ⟨.int i,H,I,⟨_,rfl⟩,q⟩
 ·obtain⟨u,rfl,r1⟩:=vals1 r;cases r1
  exact call_int_bool ⟨.int (if k then 1 else 0),H,I.tok _,⟨_,rfl⟩,q⟩
end
structure pX (h:Heap)(x dx C:Addr)(mA:MA):Prop where
 obj:h.get? x=some (Sw C dx)
 ns:h.Ns1 dx mA
 ne:dx≠x
theorem zX {h:Heap}{dx:Addr}{mA:MA}(n:h.Ns1 dx mA):∃od,h.get? dx=some od/\∀name,SJ name od=some (mA name):=by
 obtain⟨o,es,ep,ho,hd,hk,_,hm⟩:=n;refine⟨o,ho,λname=>?_⟩;have e:=hm name;unfold nsFind findBy at e;rw[← Array.find?_toList] at e;unfold SJ;rw[hd];dsimp only;split
 ·rename_i y q;rw[q] at e;exact congrArg some e
 ·rename_i q;rw[q] at e;have a:es.toList.any (·.refKey)=false:=by
   rw[List.any_eq_false];intro y hy;obtain⟨z,t,UU⟩:=hk y (Array.mem_toList_iff.mp hy);simp[DictEntry.refKey,UU]
  have a':¬es.toList.any (·.refKey)=true:=by rw[a];exact MM
  rw[SR a'];exact congrArg some e
theorem pX.look {h:Heap}{x dx C:Addr}{mA:MA}(I:pX h x dx C mA):∃od,PySem.W.InstAt h x (Sw C dx) C (some od)/\∀name,SJ name od=some (mA name):=
 let ⟨od,ho,hl⟩:=zX I.ns
 ⟨od,⟨I.obj,rfl,rfl,ho⟩,hl⟩
section
variable {prog:P2}{w:World}{A:P7}{E:Value->PX->Prop}{s:PX}{K:Sk}{x dx C f:Addr}{mA:MA}{name:Str}{v:Value}
theorem get_map {expr:Bool}{Q:Value->PX->Prop}(X:K.In s.heap)(I:pX s.heap x dx C mA)(hg:Sz K C name=true)(hh:Sx K C=true)(ha:Sm K (.ref C) name=some none)(hv:mA name=some v)(UM:PySem.W.handedIn v=true)(h:Q v {s with toks:=s.toks+1}):
 wpAny (model prog w) A (getAttr (.ref x) name expr) Q E s:=by
 obtain⟨od,J,hl⟩:=I.look;exact PySem.W.get_value X J (PySem.W.plainGet_of hg).1 (PySem.W.findObj_own hh ha rfl (by rw[hl,hv])) UM h
theorem C7 {ns:ME}{Q:Unit->PX->Prop}(X:K.In s.heap)(I:pX s.heap x dx C mA)(hs:Sm K (.ref C) "__setattr__"=some (some (.builtin "object.__setattr__")))(hp:SD K C=true)(ht:SG K C name=some none)(hh:Sx K C=true)(hw:Rk mA ns)(hsz:ns.length<=PZ)(h:∀h',pX h' x dx C (λy=>if y=name then some v else mA y)->RR dx s.heap h'->Q () {s with heap:=h',toks:=s.toks+2}):
 wpAny (model prog w) A (setAttr (.ref x) name v) Q E s:=by
 obtain⟨od,J,hl⟩:=I.look;refine PySem.W.set_plain X J hs (PySem.W.osa_open (s:={s with toks:=s.toks+1}) (r:=none) X J hp ht λb=>?_);obtain⟨cd,hc,XQ⟩:=PySem.W.any_some hh;have hx:s.heap.get? x=some ⟨.ref C,some dx,.plain, #[]⟩:=I.obj;refine P0 (P4 (P0 (P0 (wpAny_loadPart hx (P0 (PySem.W.Looks.here (s:={s with toks:=s.toks+1}) (PySem.W.looks_clsIn X hc) ?_))))));rw[XQ];refine P4 (a:=some dx) (P0 (P4 (P0 ?_)));refine wpAny_nsSet1 (s:={s with toks:=s.toks+1}) I.ns λh' hn2 TC=>?_;obtain⟨oD,esD,epD,hoD,hdD,hcD⟩:=hn2.count (Rk.cons name v hw);refine P0 (wpAny_lookBehind hoD (by rw[hdD];exact pastItsLine_dict (O2 hcD (by rw[Nf];omega))) ?_);exact P4 (h _ ⟨(TC.2 _ (Pr I.ne)).trans I.obj,hn2,I.ne⟩ TC)
theorem AG {R:Result->PX->Prop}{vs:MH}{kw:List (Str×Value)}(X:K.In s.heap)(hm:SE K C=true)(hi:Sm K (.ref C) "__init__"=some (some (.ref f)))(hf:PySem.W.typeIn K (.ref f)=some (.type "function"))(h:QU (model prog w) (A.under (.builtin "type.__call__" ⟨.ref C::vs,kw⟩)) (.call (.ref f) ⟨.ref (s.heap.objs.size+1)::vs,kw⟩) (PySem.W.InitBack (s.heap.objs.size+1) R)
  {s with heap:=(s.heap.push Sv).push (Sw C s.heap.objs.size)}):
 QU (model prog w) A (.call (.ref C) ⟨vs,kw⟩) R s:=by
 obtain⟨hh,g,d,t,os⟩:=s;exact PySem.W.make_core (PySem.W.makes_of X hm) (PySem.W.looks_findIn X hi) (λself=>PySem.W.bind_fn X self hf) (.inl rfl) h
end
def fA (f:Str)(v:V):List (Str×V)->List (Str×V)
 | []=>[(f,v)]
 | (g,x)::r=>if g=f then(g,v)::r else(g,x)::fA f v r
theorem nH (f g:Str)(v:V):∀fs:List (Str×V),(fA f v fs).lookup g=if g=f then some v else fs.lookup g
 | []=>by
   show N5 g [(f,v)]=_;by_cases h:g=f
   ·have hb:(g==f)=true:=beq_iff_eq.mpr h;simp only[N5,hb,SS h]
   ·have hb:(g==f)=false:=beq_eq_false_iff_ne.mpr h;simp only[N5,hb,SR h]
 | (k,x)::r=>by
   have ih:=nH f g v r;rw[show fA f v ((k,x)::r)=(if k=f then(k,v)::r else(k,x)::fA f v r) from rfl];by_cases hk:k=f
   ·rw[SS hk];by_cases h:g=k
    ·have hb:(g==k)=true:=beq_iff_eq.mpr h;simp only[N5,hb,SS (h.trans hk)]
    ·have hb:(g==k)=false:=beq_eq_false_iff_ne.mpr h;simp only[N5,hb,SR (λe:g=f=>h (e.trans hk.symm))]
   ·rw[SR hk];by_cases h:g=k
    ·have hb:(g==k)=true:=beq_iff_eq.mpr h;simp only[N5,hb,SR (λe:g=f=>hk (h.symm.trans e))]
    ·have hb:(g==k)=false:=beq_eq_false_iff_ne.mpr h;simp only[N5,hb];exact ih
theorem mB (f:Str)(v:V):∀fs:List (Str×V),f∈(fA f v fs).map (·.1)/\∀g,g∈fs.map (·.1)->g∈(fA f v fs).map (·.1)
 | []=>⟨by simp[fA],λg h=>by simp at h⟩
 | (k,x)::r=>by
   obtain⟨i1,i2⟩:=mB f v r;rw[show fA f v ((k,x)::r)=(if k=f then(k,v)::r else(k,x)::fA f v r) from rfl];by_cases hk:k=f
   ·rw[SS hk];subst hk;exact⟨by simp,λg h=>by simpa using h⟩
   ·rw[SR hk];refine⟨?_,λg h=>?_⟩
    ·rw[Nz];exact M7 _ i1
    ·rw[Nz] at h ⊢;rcases Nd.mp h with e | e
     ·exact Nd.mpr (.inl e)
     ·exact M7 _ (i2 g e)
theorem nG (f:Str)(v:V):∀fs:List (Str×V),(fA f v fs).length<=fs.length+1
 | []=>by simp[fA]
 | (k,x)::r=>by
   have ih:=nG f v r;rw[show fA f v ((k,x)::r)=(if k=f then(k,v)::r else(k,x)::fA f v r) from rfl];by_cases hk:k=f
   ·rw[SS hk,Nf,Nf];omega
   ·rw[SR hk,Nf,Nf];omega
theorem iH.some_of {v:V}{o:MF}(r:iH (some v) o):∃u,o=some u/\RelV v u:=by
 cases o with
 | none=>exact(show False from r).elim
 | some u=>exact⟨u,rfl,r⟩
theorem y6 {v:V}{u:Value}(r:RelV v u):PySem.W.handedIn u=true:=by
 cases v with
 | Tf=>cases (show u=Se from r);rfl
 | bl b=>cases (show u=Sh b from r);rfl
 | int i=>obtain⟨t,e⟩:=(show∃t,u=Sf i t from r);cases e;rfl
 | str x=>obtain⟨t,e⟩:=(show∃t,u=Sg x t from r);cases e;rfl
 | Vd b=>obtain⟨t,e⟩:=(show∃t,u=Value.bytes b t from r);cases e;rfl
 | WV b=>obtain⟨t,e⟩:=(show∃t,u=Si b t from r);cases e;rfl
 | ref a=>cases (show u=Sd a from r);rfl
 | ty n=>cases (show u=Sj n from r);rfl
section
variable {P:P2}{w:World}{H H':Hp}{h h':Heap}{a C dx:Addr}{fs Vc:List (Str×V)}
theorem p9 (S8:d7 P w H h)(e:H a=some (.ins C dx fs)):∃mA,pX h a dx C mA/\(∀f,iH (fs.lookup f) (mA f))/\Rk mA (fs.map (·.1))/\fs.length<=1000/\H dx=some (.own a):=by
 obtain⟨d,z,ne,ob,mA,n,r,q⟩:=(show cQ P w H h a (.ins C dx fs) from S8 a _ e);exact⟨mA,⟨ob,n,ne⟩,r,q,z,d⟩
end
structure kO (K:Sk)(C:Addr):Prop where
 pg:Sz K C Str.empty=true
 hd:Sx K C=true
 po:SD K C=true
 sa:Sm K (.ref C) "__setattr__"=some (some (.builtin "object.__setattr__"))
theorem kO.get {K:Sk}{C:Addr}(c:kO K C)(f:Str):Sz K C f=true:=c.pg
def j2 (K:Sk)(C:Addr)(f:Str):Prop:=Sm K (.ref C) f=some none
theorem j2.Jo {K:Sk}{C:Addr}{f:Str}(n:j2 K C f):SG K C f=some none:=by
 unfold SG;rw[show Sm K (.ref C) f=some none from n];rfl
section
variable {X:Cx}{S3:MB}{σ:St}{H:Hp}{s:PX}{a C dx:Addr}{fs:List (Str×V)}{f:Str}{v:V}{A:P7}{E:Value->PX->Prop}
theorem wX {b:Bool}{Q:Value->PX->Prop}(I:Inv X S3 σ H s)(e:H a=some (.ins C dx fs))(c:kO X.K C)(n:j2 X.K C f)(l:fs.lookup f=some v)(h:∀u s',Inv X S3 σ H s'->RelV v u->Q u s'):wpAny (model X.prog X.w) A (getAttr (.ref a) f b) Q E s:=by
 obtain⟨mA,O,r,_,_,_⟩:=p9 I.S8 e;obtain⟨u,hu,ru⟩:=iH.some_of (v:=v) (o:=mA f) (by rw[← l];exact r f);exact get_map I.fk O (c.get f) c.hd n hu (y6 ru) (h u _ (I.tok _) ru)
theorem xq {y:V}{u:Value}{Q:Unit->PX->Prop}(I:Inv X S3 σ H s)(e:H a=some (.ins C dx fs))(c:kO X.K C)(n:j2 X.K C f)(hl:fs.length<1000)(ry:RelV y u)(h:∀s',Inv X S3 σ (upd H a (.ins C dx (fA f y fs))) s'->Q () s'):wpAny (model X.prog X.w) A (setAttr (.ref a) f u) Q E s:=by
 obtain⟨mA,O,r,wi,_,ho⟩:=p9 I.S8 e;have hz:(fs.map (·.1)).length<=PZ:=by rw[M8,QW];omega
 refine C7 I.fk O c.sa c.po n.Jo c.hd wi hz λh' O' sb=>h _ ?_;have hd:∃o,h'.get? dx=some o:=let ⟨o,_,_,e',_⟩:=O'.ns;⟨o,e'⟩;refine I.write (x:=a) (e:=dx) (by rw[e];exact SO) (.inr ho) (λb q hb z=>(sb.2 b hb).trans z) hd ?_;refine⟨by rw[aG O.ne];exact ho,?_,O.ne,O'.obj,_,O'.ns,λg=>?_,λg hg=>?_⟩
 ·have:=nG f y fs;omega
 ·show iH ((fA f y fs).lookup g) (if g=f then some u else mA g);rw[nH];by_cases q:g=f
  ·rw[SS q,SS q];exact ry
  ·rw[SR q,SR q];exact r g
 ·by_cases q:g=f
  ·rw[q];exact(mB f y fs).1
  ·refine(mB f y fs).2 g (wi g λz=>hg ?_);show(if g=f then some u else mA g)=none;rw[SR q];exact z
theorem Inv.made (I:Inv X S3 σ H s):Inv X S3 σ (upd (upd H s.heap.objs.size (.own (s.heap.objs.size+1))) (s.heap.objs.size+1) (.ins C s.heap.objs.size []))
 {s with heap:=(s.heap.push Sv).push (Sw C s.heap.objs.size)}:=by
 have e1:(s.heap.push Sv).get? s.heap.objs.size=some Sv:=RP s.heap rfl;have e2:((s.heap.push Sv).push (Sw C s.heap.objs.size)).get? (s.heap.objs.size+1)=some (Sw C s.heap.objs.size):=by
  have:=RP (s.heap.push Sv) (o:=Sw C s.heap.objs.size) rfl;rwa [RQ] at this
 have e3:(s.heap.push Sv).Ns s.heap.objs.size (λ_=>none):=⟨Sv, #[],_,e1,rfl,(λe he=>SQ he (by simp)),λ_=>rfl⟩;have I1:=I.laid (a:=s.heap.objs.size) (o:=.own (s.heap.objs.size+1)) (h':=s.heap.push Sv) (t':=s.toks) (λb u q=>RM _ q) (O0 _) ⟨_,e1⟩;refine I1.laid (a:=s.heap.objs.size+1) (o:=.ins C s.heap.objs.size []) (t':=s.toks) (λb u q=>RM _ q) (Pp (RQ _ _)) ?_;have ne:s.heap.objs.size≠s.heap.objs.size+1:=O5 (Pc _);refine⟨by rw[aG ne,aF],O3 _,ne,e2,λ_=>none,(Heap.Ns1.of_empty e3).at λo q=>RM _ q,λ_=>SO,λy hy=>SQ rfl hy⟩
theorem CZ {prog:P2}{w:World}{env:Env}{e:Expr}{f:Str}{pos:Pos}{s:PX}{Q:Value->PX->Prop}(hb:P6 e f env (eval e env)=eval e env)(h:wpAny (model prog w) A (eval e env) (λo s₁=>wpAny (model prog w) A (getAttr o f true) Q E s₁) E s):wpAny (model prog w) A (eval (.Attribute e f pos) env) Q E s:=
 Attribute_any_ h (by rw[arm_eval_Attribute,hb])
end
def Mv (K:Sk)(ta:TE)(f:Str):TE:=λσ H Q=>ta σ H λx H1=>∃a C dx fs v,x= .ref a/\H1 a=some (.ins C dx fs)/\kO K C/\j2 K C f/\fs.lookup f=some v/\Q v H1
def LJ (K:Sk)(ta tv:TE)(f:Str):TS:=λD σ H=>tv σ H λy H1=>ta σ H1 λx H2=>∃a C dx fs,x= .ref a/\H2 a=some (.ins C dx fs)/\kO K C/\j2 K C f/\fs.length<1000/\
 D.nx σ (upd H2 a (.ins C dx (fA f y fs)))
section
variable {X:Cx}{o e value:Expr}{f:Str}{pos pos' tpos:Pos}{ta tv:TE}
theorem t8 (he:PE X e ta)(hb:P6 e f X.env (eval e X.env)=eval e X.env):PE X (.Attribute e f pos) (Mv X.K ta f):=by
 intro S3 s σ H Q I h;refine CZ hb (aW (he S3 s σ H _ I h) λu s1 ⟨x,H1,I1,rx,a,C,dx,fs,v,ex,ea,c,n,l,q⟩=>?_);subst ex;obtain rfl:u=Sd a:=rx;exact wX I1 ea c n l λu' s2 I2 ru=>⟨v,H1,I2,ru,q⟩
theorem Ho (ha:PE X o ta)(hv:PE X value tv)(hs:P9 value (some (.Attribute o f pos')) pos.line X.env=pure false):PS X (.Assign [.Attribute o f pos'] value pos) (LJ X.K ta tv f):=by
 intro S3 s σ H D I h;refine plainObj_wpAny_Assign_Attribute (aW (hv S3 s σ H _ I h) λu s1 ⟨y,H1,I1,ry,q⟩=>aW (ha S3 s1 σ H1 _ I1 q) λov s2 ⟨x,H2,I2,rx,a,C,dx,fs,ex,ea,c,n,l,q2⟩=>?_) hs;subst ex;obtain rfl:ov=Sd a:=rx;exact xq I2 ea c n l ry λs3 I3=>⟨σ,_,I3,q2⟩
end
section
variable {X:Cx}{S3:MB}{σ:St}{H:Hp}{s:PX}{A:P7}{E:Value->PX->Prop}{Q:Value->PX->Prop}{c:Value}{b:Bool}
inductive fw (K:Sk) (H:Hp):V->Value->Prop where
 | Tf:fw K H .Tf (.type "NoneType")
 | bl (x:Bool):fw K H (.bl x) (.type "bool")
 | int (i:Int):fw K H (.int i) (.type "int")
 | str (x:Str):fw K H (.str x) (.type "str")
 | WV (x:UInt64):fw K H (.WV x) (.type "float")
 | lst {a:Addr} {xs:List V} (e:H a=some (.lst xs)):fw K H (.ref a) (.type "list")
 | Ul {a:Addr} {o:Obj} {xs:List V} (e:H a=some (.Ul o (.lst xs))):fw K H (.ref a) (.type "list")
 | tup {a:Addr} {xs:List V} (e:H a=some (.tup xs)):fw K H (.ref a) (.type "tuple")
 | dK {a:Addr} {kvs:List (Key×V)} (e:H a=some (.dK kvs)):fw K H (.ref a) (.type "dict")
 | dT {a:Addr} {kvs:List (List Key×V)} (e:H a=some (.dT kvs)):fw K H (.ref a) (.type "dict")
 | ins {a C dx:Addr} {fs:List (Str×V)} (e:H a=some (.ins C dx fs)) (cl:kO K C) (ha:Sm K (.ref C) "__class__"=some (some (.builtin "object.__class__")))
  (hn:PySem.W.specialIn K (.builtin "object.__class__") "__get__"=some (some (.builtin "getset_descriptor.__get__"))) (htk:PySem.W.takesIn K (.builtin "object.__class__")=some true)
  (hm:PySem.W.mroIn K C (.type "object")=some true):fw K H (.ref a) (.ref C)
theorem yr {x:V}{u t:Value}(I:Inv X S3 σ H s)(rx:RelV x u)(ty:fw X.K H x t)(e:SK X.K t c=some b)(h:∀tk,Q (.bool b) {s with toks:=tk}):
 wpAny (model X.prog X.w) A (call (.builtin "isinstance") [u,c]) Q E s:=by
 cases ty with
 | Tf=>cases (show u=Se from rx);exact Ss PySem.W.kitx_none I.fk SO e (λz=>nomatch z) h
 | bl y=>cases (show u=Sh y from rx);exact Ss PySem.W.kitx_bool I.fk SO e (λz=>nomatch z) h
 | int i=>obtain⟨t,q⟩:=(show∃t,u=Sf i t from rx);cases q;exact Ss PySem.W.kitx_int I.fk SO e (λz=>nomatch z) h
 | str y=>obtain⟨t,q⟩:=(show∃t,u=Sg y t from rx);cases q;exact Ss PySem.W.kitx_str I.fk SO e (λz=>nomatch z) h
 | WV y=>obtain⟨t,q⟩:=(show∃t,u=Si y t from rx);cases q;exact Ss PySem.W.kitx_float I.fk SO e (λz=>nomatch z) h
 | @lst a xs ea=>
   cases (show u=Sd a from rx)
   obtain⟨_,_,n,_,h1⟩:=(show cQ X.prog X.w H s.heap a (.lst xs) from I.S8 a _ ea);exact Ss PySem.W.kitx_list I.fk ⟨_,h1,rfl⟩ e (λz=>nomatch z) h
 | @Ul a ob xs ea=>
   cases (show u=Sd a from rx)
   obtain⟨_,_,_,n,_,h1⟩:=(show cQ X.prog X.w H s.heap a (.Ul ob (.lst xs)) from I.S8 a _ ea);exact Ss PySem.W.kitx_list I.fk ⟨_,h1,rfl⟩ e (λz=>nomatch z) h
 | @tup a xs ea=>
   cases (show u=Sd a from rx)
   obtain⟨_,_,_,p⟩:=(show cQ X.prog X.w H s.heap a (.tup xs) from I.S8 a _ ea);obtain⟨o,h1,h2,_⟩:=p;exact Ss PySem.W.kitx_tuple I.fk ⟨o,h1,h2⟩ e (λz=>nomatch z) h
 | @dK a kvs ea=>
   cases (show u=Sd a from rx)
   obtain⟨_,_,vs,_,p⟩:=(show cQ X.prog X.w H s.heap a (.dK kvs) from I.S8 a _ ea);obtain⟨o,es,ep,h1,h2,_⟩:=p;exact Ss PySem.W.kitx_dict I.fk ⟨o,h1,h2.1⟩ e (λz=>nomatch z) h
 | @dT a kvs ea=>
   cases (show u=Sd a from rx)
   obtain⟨_,_,xs,_,o,es,ep,h1,h2,_⟩:=(show cQ X.prog X.w H s.heap a (.dT kvs) from I.S8 a _ ea);exact Ss PySem.W.kitx_dict I.fk ⟨o,h1,h2.1⟩ e (λz=>nomatch z) h
 | @ins a C dx fs ea cl ha hn htk hm=>
   cases (show u=Sd a from rx)
   obtain⟨mA,O,_⟩:=p9 I.S8 ea;obtain⟨od,J,_⟩:=O.look;exact Ss (PySem.W.kitx_own (cl.get _) cl.hd ha hn htk hm) I.fk J e (λz=>nomatch z) h
end
section
variable {A:P7}
structure bI (k:Nat)(A:P7):Prop where
 hd:A.handled=none
 dp:A.depth+3*k+5<recursionLimit
 un:A.units+16*k+200<cLine
theorem bI.mono {j k:Nat}(r:bI k A)(h:j<=k):bI j A:=⟨r.hd,by have:=r.dp;omega,by have:=r.un;omega⟩
theorem bI.deeper {k:Nat}(r:bI (k+1) A)(env:Env):bI k (A.deeper env):=
 ⟨r.hd,by have:=r.dp;show A.depth+1+3*k+5<_;omega,by have:=r.un;show A.units+3+16*k+200<_;omega⟩
theorem wI {C:Addr}{us:MH}{kw:List (Str×Value)}:(A.under (.builtin "type.__call__" ⟨.ref C::us,kw⟩)).depth=A.depth+1:=by
 first | rfl | simp[P7.under,Code.weight,Code.isCreation,Code.isGuard,Code.isCaller,Code.frames,Rz,guardIds]
theorem wH {C:Addr}{us:MH}{kw:List (Str×Value)}:(A.under (.builtin "type.__call__" ⟨.ref C::us,kw⟩)).units=A.units+1:=by
 first | rfl | simp[P7.under,Code.cUnits,Code.frames,Rz]
theorem bI.make {k:Nat}(r:bI (k+1) A)(C:Addr)(us:MH)(kw:List (Str×Value)):bI k (A.under (.builtin "type.__call__" ⟨.ref C::us,kw⟩)):=
 ⟨r.hd,by have:=r.dp;rw[wI];omega,by have:=r.un;rw[wH];omega⟩
theorem bI.depth {k:Nat}(r:bI k A):A.depth<recursionLimit:=by have:=r.dp;omega
theorem bI.units {k:Nat}(r:bI k A):A.units+64<cLine:=by have:=r.un;omega
def LH:TA:=λ_ H Q=>Q [] H
def JB (ta:TE)(tr:TA):TA:=λσ H Q=>ta σ H λx H1=>tr σ H1 λxs H2=>Q (x::xs) H2
end
section
variable {X:Cx}{e:Expr}{es:MI}{te:TE}{t:TA}{pos:Pos}
theorem bo:PA X [] LH:=λ_ _ _ _ H Q I h=>Calls.spliced_nil ⟨[],H,I,.nil,h⟩
theorem aK (ha:PE X e te)(hr:PA X es t)(hs:PU (e::es) X.env=(false,eval e X.env)::PU es X.env:=by rfl):PA X (e::es) (JB te t):=by
 intro pos S3 s σ H Q I h;rw[hs];show wpAny _ _ (spliced ((false,eval e X.env)::P8 pos (PU es X.env))) _ _ s;refine Ry (aW (ha S3 s σ H _ I h) λu s1 ⟨x,H1,I1,r1,q1⟩=>?_);exact aW (hr pos S3 s1 σ H1 _ I1 q1) λus s2 ⟨xs,H2,I2,r2,q2⟩=>⟨x::xs,H2,I2,.cons r1 r2,q2⟩
def LP (t:TA):TE:=λσ H Q=>t σ H λxs H1=>xs.length<=PZ/\∀p,H1 p=none->Q (.ref p) (upd H1 p (.tup xs))
def Mi (t:TA):TE:=λσ H Q=>t σ H λxs H1=>xs.length<=PZ/\∀p,H1 p=none->Q (.ref p) (upd H1 p (.lst xs))
theorem sy {x1}(h:PA X es t):PE X (.Tuple es x1 pos) (LP t):=by
 intro S3 s σ H Q I hq;refine wpAny_Tuple_spliced (aW (h pos S3 s σ H _ I hq) λus s1 ⟨xs,H1,I1,r,z,q⟩=>⟨by rw[← r.length];exact z,?_⟩);have hf:H1 s1.heap.objs.size=none:=I1.S8.fresh (O0 _);refine⟨.ref s1.heap.objs.size,upd H1 s1.heap.objs.size (.tup xs),I1.laid (t':=s1.toks) (λb u e=>RM _ e) (O0 _) ?_,rfl,q _ hf⟩;exact⟨z,us,r,⟨_,RP _ rfl,rfl,_,rfl⟩⟩
theorem su (h:PA X es t):PE X (.List es pos) (Mi t):=by
 intro S3 s σ H Q I hq;refine wpAny_List_spliced (aW (h pos S3 s σ H _ I hq) λus s1 ⟨xs,H1,I1,r,z,q⟩=>⟨by rw[← r.length];exact z,?_⟩);have hf:H1 s1.heap.objs.size=none:=I1.S8.fresh (O0 _);refine⟨.ref s1.heap.objs.size,upd H1 s1.heap.objs.size (.lst xs),I1.laid (t':=s1.toks) (λb u e=>RM _ e) (O0 _) ?_,rfl,q _ hf⟩;exact⟨z,us,0,r,RP _ rfl⟩
end
abbrev Sp:=List V->Hp->VK->XK->Prop
abbrev l7:=List Env->Hp->PX->XK->Value->PX->Prop
structure om (P:P2)(w:World)(K:Sk)(mg:MA)(base:Heap)(A:P7)(outer:List Env)(s:PX)(H:Hp):Prop where
 frames:A.frames=some outer
 mod:Mod K mg base
 bs:∀b o,base.get? b=some o->s.heap.get? b=some o/\H b=none
 V0:base.objs.size<=s.heap.objs.size
 Ur:s.heap.FunFrames base outer
 WU:∀b∈lA outer,H b=none
 S8:d7 P w H s.heap
 bare:PN s.gens
def CE (outer:List Env)(P:P2)(w:World)(H:Hp)(s:PX)(Q:VK)(u:Value)(s':PX):Prop:=
 ∃v H',s'.os=s.os/\PN s'.gens/\Un (lA outer) [] H H' s.heap s'.heap/\d7 P w H' s'.heap/\RelV v u/\Q v H'
def CR (CX:l7)(outer:List Env)(P:P2)(w:World)(H:Hp)(s:PX)(Q:VK)(E:XK)(r:Result)(s':PX):Prop:=
 match r with
 | .ok (.ret u)=>CE outer P w H s Q u s'
 | .ok _=>False
 | .error e=>CX outer H s E e s'
structure d6 (P:P2)(w:World)(K:Sk)(mg:MA)(base:Heap)(CX:l7)(k:Nat)(f:Addr)(fd:Qa)(ps:ME)(sp:Sp):Prop where
 len:∀vs H Q E,sp vs H Q E->vs.length=ps.length
 run:∀(A:P7)(outer:List Env)(s:PX)(H:Hp)(args:Args)(us:MH)(vs:List V)(Q:VK)(E:XK),bI k A->om P w K mg base A outer s H->Ra s fd args (ps.zip us)->Vals vs us->sp vs H Q E->
  QU (model P w) A (.call (.ref f) args) (CR CX outer P w H s Q E) s
theorem d6.mono {P:P2}{w:World}{K:Sk}{mg:MA}{base:Heap}{CX:l7}{j k:Nat}{f:Addr}{fd:Qa}{ps:ME}{sp:Sp}(F:d6 P w K mg base CX j f fd ps sp)(h:j<=k):
 d6 P w K mg base CX k f fd ps sp:=⟨F.len,λA outer s H args us vs Q E hr=>F.run A outer s H args us vs Q E (hr.mono h)⟩
theorem om.make {P:P2}{w:World}{K:Sk}{mg:MA}{base:Heap}{A:P7}{outer:List Env}{s:PX}{H:Hp}(e:om P w K mg base A outer s H)(C:Addr)(us:MH)(kw:List (Str×Value)):
 om P w K mg base (A.under (.builtin "type.__call__" ⟨.ref C::us,kw⟩)) outer s H:=⟨by first | exact e.frames | (simpa[P7.under,Code.envs,Rz,pushEnvs] using e.frames),e.mod,e.bs,e.V0,e.Ur,e.WU,e.S8,e.bare⟩
section
variable {X:Cx}{S3:MB}{σ:St}{H:Hp}{s s':PX}
theorem Inv.EO (I:Inv X S3 σ H s):om X.prog X.w X.K X.mg X.base X.A X.stack s H:=
 ⟨I.ok.frames,I.ok.mod,I.bs,O2 I.ok.V0 I.sz,I.stack,I.vV,I.S8,I.bare⟩
theorem Inv.after {Q:VK}{u:Value}(I:Inv X S3 σ H s)(h:CE X.stack X.prog X.w H s Q u s'):EP X S3 σ Q u s':=by
 obtain⟨v,H',os,bare,un,S8,r,q⟩:=h;obtain⟨hh,g,d,t,os'⟩:=s';obtain rfl:os'=s.os:=os;exact⟨v,H',I.call (h':=hh) (g':=g) (d':=d) (t':=t) (ch:=[]) un S8 bare (λb z=>SQ z (by simp)),r,q⟩
end
def JW (sp:Sp)(U7:List V)(E:XK)(t:TA):TE:=λσ H Q=>t σ H λvs H1=>sp (vs++U7) H1 Q E
def J7 (C:Addr)(sp:Sp)(U7:List V)(E:XK)(t:TA):TE:=λσ H Q=>t σ H λvs H1=>∀x dx,H1 x=none->H1 dx=none->dx≠x->
 sp (.ref x::(vs++U7)) (upd (upd H1 dx (.own x)) x (.ins C dx [])) (λv H2=>v= .Tf/\Q (.ref x) H2) E
def Binds (K:Sk)(fd:Qa)(ps:ME)(ds:MH):Prop:=
 ∀(s:PX)(us:MH),K.In s.heap->(us++ds).length=ps.length->Ra s fd ⟨us,[]⟩ (ps.zip (us++ds))
theorem Binds.all {K:Sk}{fd:Qa}{ps:ME}(h:∀us:MH,us.length=ps.length->QV fd ⟨us,[]⟩=pure (ps.zip us)):Binds K fd ps []:=λs us _ hl=>by
 rw[Nw] at hl ⊢;exact .of_eq (h us hl)
def Passes (CX:l7)(X:Cx)(E:XK):Prop:=∀(S3:MB)(σ:St)(H:Hp)(s:PX)(e:Value)(s':PX),Inv X S3 σ H s->CX X.stack H s E e s'->X.xe e s'
section
variable {X:Cx}{CX:l7}{k:Nat}{f C:Addr}{fd:Qa}{ps:ME}{sp:Sp}{U7:List V}{ds:MH}{E:XK}{x m:Str}{p pos apos:Pos}{e o:Expr}{es:MI}{ta:TE}{t:TA}
theorem Gg {S3:MB}{σ:St}{H:Hp}{s:PX}{Q:VK}{us:MH}{vs:List V}(F:d6 X.prog X.w X.K X.mg X.base CX k f fd ps sp)(hr:bI k X.A)(hb:Binds X.K fd ps ds)(hd:Vals U7 ds)(hx:Passes CX X E)(I:Inv X S3 σ H s)(r:Vals vs us)(h:sp (vs++U7) H Q E):wpAny (model X.prog X.w) X.A (call (.ref f) us) (EP X S3 σ Q) X.xe s:=by
 have r2:Vals (vs++U7) (us++ds):=r.append hd;have hl:(us++ds).length=ps.length:=by rw[← r2.length];exact F.len _ _ _ _ h
 refine wpAny_call (Q3 (F.run X.A X.stack s H ⟨us,[]⟩ (us++ds) (vs++U7) Q E hr I.EO (hb s us I.fk hl) r2 h) λr s' hq=>?_);cases r with
 | error e=>exact hx S3 σ H s e s' I hq
 | ok fl=>
   cases fl with
   | ret u=>exact I.after hq
   | next=>exact MT hq
   | brk=>exact MT hq
   | cont=>exact MT hq
theorem iE (F:d6 X.prog X.w X.K X.mg X.base CX k f fd ps sp)(hr:bI k X.A)(hg:Gl X x)(hm:X.mg x=some (.ref f))(hk:Sq X.K (.ref f)=true)(hb:Binds X.K fd ps ds)(hd:Vals U7 ds)(hx:Passes CX X E)(ha:PA X (e::es) t)(TZ:Ti x:=by decide)(he:PU (e::es) X.env=(false,eval e X.env)::PU es X.env:=by rfl)(To:(P8 pos (PU es X.env)).any (·.1)=false:=by rfl):
 PE X (.Call (.Name x p) (e::es) [] pos) (JW sp U7 E t):=by
 intro S3 s σ H Q I h;refine QJ (qy I hg hm ?_ TZ);refine PySem.W.callWith_K (h₀:=X.base) I.ok.mod.kin hk (aW (ha pos S3 s σ H _ I h) λus s1 ⟨vs,H1,I1,r,q⟩=>⟨I1.fk,?_⟩) he To;exact Gg F hr hb hd hx I1 r q
structure Mk (K:Sk)(C f:Addr):Prop where
 makes:SE K C=true
 init:Sm K (.ref C) "__init__"=some (some (.ref f))
 fn:SN K (.ref f)=true
 kp:Sq K (.ref C)=true
theorem Av {S3:MB}{σ:St}{H:Hp}{s:PX}{Q:VK}{us:MH}{vs:List V}(M:Mk X.K C f)(F:d6 X.prog X.w X.K X.mg X.base CX k f fd ps sp)(hr:bI (k+1) X.A)(hb:Binds X.K fd ps ds)(hd:Vals U7 ds)(hx:Passes CX X E)(I:Inv X S3 σ H s)(r:Vals vs us)(h:∀x dx,H x=none->H dx=none->dx≠x->sp (.ref x::(vs++U7)) (upd (upd H dx (.own x)) x (.ins C dx [])) (λv H2=>v= .Tf/\Q (.ref x) H2) E):
 wpAny (model X.prog X.w) X.A (call (.ref C) us) (EP X S3 σ Q) X.xe s:=by
 have hq:=h (s.heap.objs.size+1) s.heap.objs.size (I.S8.fresh (Pb _)) (I.S8.fresh (O0 _)) (O5 (Pc _));have I2:=Inv.made (C:=C) I;have r2:Vals (V.ref (s.heap.objs.size+1)::(vs++U7)) (Sd (s.heap.objs.size+1)::(us++ds)):=.cons rfl (r.append hd);have hl:(Sd (s.heap.objs.size+1)::us++ds).length=ps.length:=by
  have e:=r2.length;rw[F.len _ _ _ _ hq] at e;exact e.symm
 refine wpAny_call (AG (f:=f) I.fk M.makes M.init (beq_iff_eq.mp M.fn) (Q3 (F.run _ X.stack _ _ ⟨Sd (s.heap.objs.size+1)::us,[]⟩ (Sd (s.heap.objs.size+1)::(us++ds)) _ _ E (hr.make C us [])
  (I2.EO.make C us []) (hb _ (Sd (s.heap.objs.size+1)::us) I2.fk hl) r2 hq) λr s' T6=>?_))
 cases r with
 | error e=>exact hx S3 σ _ _ e s' I2 T6
 | ok fl=>
   cases fl with
   | ret u=>
     obtain⟨v,H',I3,rv,ev,q3⟩:=I2.after T6;subst ev;exact⟨rv,⟨V.ref (s.heap.objs.size+1),H',I3,rfl,q3⟩⟩
   | next=>exact MT T6
   | brk=>exact MT T6
   | cont=>exact MT T6
theorem Eg (M:Mk X.K C f)(F:d6 X.prog X.w X.K X.mg X.base CX k f fd ps sp)(hr:bI (k+1) X.A)(hg:Gl X x)(hm:X.mg x=some (.ref C))(hb:Binds X.K fd ps ds)(hd:Vals U7 ds)(hx:Passes CX X E)(ha:PA X (e::es) t)(TZ:Ti x:=by decide)(he:PU (e::es) X.env=(false,eval e X.env)::PU es X.env:=by rfl)(To:(P8 pos (PU es X.env)).any (·.1)=false:=by rfl):
 PE X (.Call (.Name x p) (e::es) [] pos) (J7 C sp U7 E t):=by
 intro S3 s σ H Q I h;refine QJ (qy I hg hm ?_ TZ);refine PySem.W.callWith_K (h₀:=X.base) I.ok.mod.kin M.kp (aW (ha pos S3 s σ H _ I h) λus s1 ⟨vs,H1,I1,r,q⟩=>⟨I1.fk,?_⟩) he To;exact Av M F hr hb hd hx I1 r q
end
section
variable {X:Cx}{CX:l7}{k:Nat}{f C:Addr}{fd:Qa}{ps ks:ME}{sp:Sp}{E:XK}{x m:Str}{p pos apos kpos:Pos}{e o:Expr}{es:MI}{kws:List Qc}{te ta:TE}{t tk:TA}{nm:Option Str}
variable {g:MH->MH->MH}{gV:List V->List V->List V}
end
structure aN (N P:ME)(sc:Scope):Prop where
 kind:sc.kind= .function
 co:sc.isCoroutine=false
 gen:sc.isGenerator=false
 nd:N.Nodup
 pre:N.take P.length=P
 par:∀x∈P,sc.names.lookup x=some .local∨sc.names.lookup x=some .cell
 Wt:∀y∈sc.names,y.2≠ .free
theorem TQ{N P:ME}{sc:Scope}(a:sc.kind=.function:=by rfl)(b:sc.isCoroutine=false:=by rfl)(c:sc.isGenerator=false:=by rfl)(d:N.Nodup:=by decide +kernel)(e:N.take P.length=P:=by rfl)(f:∀x∈P,sc.names.lookup x=some .local∨sc.names.lookup x=some .cell:=by decide +kernel)(g:∀y∈sc.names,y.2≠.free:=by decide +kernel):aN N P sc:=⟨a,b,c,d,e,f,g⟩
theorem qP {kindOf:Str->Option QC}{x:Str}:∀{binds:List (Str×Value)}{m:MA},(∀v,(x,v)∉binds)->bindL kindOf binds m x=m x
 | [],_,_=>rfl
 | (n,v)::r,m,h=>by
   unfold bindL;rw[qP λw hw=>h w (M7 _ hw)];split
   ·have:x≠n:=by rintro rfl;exact h v Nb
    simp[this]
   ·rfl
theorem qK {kindOf:Str->Option QC}{x:Str}:∀{binds:List (Str×Value)}{m:MA},(∀v,(x,v)∉binds)->bindC kindOf binds m x=m x
 | [],_,_=>rfl
 | (n,v)::r,m,h=>by
   unfold bindC;rw[qK λw hw=>h w (M7 _ hw)];split
   ·rfl
   ·have:x≠n:=by rintro rfl;exact h v Nb
    simp[this]
theorem qM {kindOf:Str->Option QC}{x:Str}{v:Value}:∀{P:ME}{vs:MH}{i:Nat}{m:MA},P.Nodup->P[i]?=some x->vs[i]?=some v->kindOf x=some .local->
 bindL kindOf (P.zip vs) m x=some v
 | [],_,_,_,_,h,_,_=>by simp at h
 | _::_,[],_,_,_,_,h,_=>by simp at h
 | p::P,w::vs,0,m,nd,h1,h2,hk=>by
   simp at h1 h2;subst h1;subst h2;show bindL kindOf ((p,w)::P.zip vs) m p=_;unfold bindL;rw[qP λv hv=>(ND.mp nd).1 (OC hv).1,SS hk];simp
 | p::P,w::vs,i+1,m,nd,h1,h2,hk=>by
   show bindL kindOf ((p,w)::P.zip vs) m x=_;unfold bindL;exact qM (i:=i) (ND.mp nd).2 (by simpa using h1) (by simpa using h2) hk
theorem qZ {kindOf:Str->Option QC}{x:Str}{v:Value}:∀{P:ME}{vs:MH}{i:Nat}{m:MA},P.Nodup->P[i]?=some x->vs[i]?=some v->kindOf x≠some .local->
 bindC kindOf (P.zip vs) m x=some v
 | [],_,_,_,_,h,_,_=>by simp at h
 | _::_,[],_,_,_,_,h,_=>by simp at h
 | p::P,w::vs,0,m,nd,h1,h2,hk=>by
   simp at h1 h2;subst h1;subst h2;show bindC kindOf ((p,w)::P.zip vs) m p=_;unfold bindC;rw[qK λv hv=>(ND.mp nd).1 (OC hv).1,SR hk];simp
 | p::P,w::vs,i+1,m,nd,h1,h2,hk=>by
   show bindC kindOf ((p,w)::P.zip vs) m x=_;unfold bindC;exact qZ (i:=i) (ND.mp nd).2 (by simpa using h1) (by simpa using h2) hk
def start (N:ME)(vs:List V):St:=vs.map some++N3 (N.length-vs.length) none
def eN (CX:l7)(P:P2)(w:World)(K:Sk)(mg:MA)(base:Heap)(N:ME)(qual:Str)(scope:Scope)(f:Addr)(cd:Value)(A:P7)(outer:List Env)(s:PX)(H:Hp)(E:XK):Cx where
 prog:=P
 w:=w
 K:=K
 mg:=mg
 base:=base
 A:=A.deeper (PK qual scope s.heap.objs.size f cd)
 N:=N
 s₀:=s
 H₀:=H
 env:=PK qual scope s.heap.objs.size f cd
 outer:=outer
 stack:=PK qual scope s.heap.objs.size f cd::outer
 ex:=[]
 calm:=true
 fn:=λ_=>true
 pn:=[]
 xe:=λe s'=>wpAny (model P w) (A.deeper (PK qual scope s.heap.objs.size f cd)) (leaving (PK qual scope s.heap.objs.size f cd) e) (λ_ s''=>CX outer H s E e s'') (λe' s''=>CX outer H s E e' s'') s'
theorem cj {sc:Scope}{n:Nat}{x:Str}(h:sc.names.lookup x=some .cell):∃c,(cellsFrom n sc.names []).lookup x=some c:=by
 have q:=PySem.W.cellsFrom_some sc.names n [] (.inl h);exact Option.isSome_iff_exists.mp q
theorem zq {CX:l7}{P:P2}{w:World}{K:Sk}{mg:MA}{base:Heap}{N ps:ME}{qual:Str}{scope:Scope}{f:Addr}{cd:Value}{A:P7}{outer:List Env}{s s1:PX}{H:Hp}{E:XK}{us:MH}{vs:List V}(S:aN N ps scope)(hd:A.handled=none)(e0:om P w K mg base A outer s H)(hl:vs.length=ps.length)(r:Vals vs us)(x:InCallC s s.heap.objs.size (bindL (PK qual scope s.heap.objs.size f cd).kindOf (ps.zip us) λ_=>none) (cellsFrom (s.heap.objs.size+1) scope.names []) (bindC (PK qual scope s.heap.objs.size f cd).kindOf (ps.zip us) λ_=>none) s1):
 Inv (eN CX P w K mg base N qual scope f cd A outer s H E) [] (start N vs) H s1:=by
 have To:ps.length<=N.length:=by have:=congrArg List.length S.pre;rw[Nu] at this;omega
 obtain⟨h1,tk,rfl,hk⟩:=x.done;have Xl:∀b:Addr,b∉(eN CX P w K mg base N qual scope f cd A outer s H E).ex:=λb z=>SQ (show b∈([]:MG) from z) (by simp);refine⟨⟨e0.mod,S.kind,rfl,rfl,O0 _,λy z c h1 h2=>?_,λy hy=>?_,λy c _ h=>?_,λ_=>hd,P7.frames_deeper e0.frames,.inr ⟨rfl,rfl⟩,λb z=>SQ z (Xl b),e0.bs,e0.V0,λb _ _=>Xl b,λb z=>SQ z (Xl b),e0.Ur,e0.WU⟩,
  rfl,e0.bare,Un.kept hk,⟨_,x.toInCall.ns,λi y v h1 h2 h3=>?_⟩,λy c h=>⟨_,x.cell y c h⟩,e0.S8.fresh (O0 _),λy c h=>?_,λp hp=>SQ (show p∈([]:MB) from hp) (by simp),e0.S8.kept hk,?_⟩
 ·exact name_of_addr x.apart (Qe h1) (Qe h2)
 ·have hy:scope.names.lookup y=some .cell∨scope.names.lookup y=some .free:=hy;rcases hy with hy | hy
  ·exact cj hy
  ·exact SQ rfl (S.Wt _ (Qe hy))
 ·exact Po (x.above y c (Qe h))
 ·have hi:i<vs.length:=by
   unfold start at h2;by_cases hi:i<vs.length
   ·exact hi
   ·rw[Ny (by simpa using hi)] at h2;rw[Ow] at h2;split at h2<;>cases h2
  have ha:vs[i]?=some v:=by
   unfold start at h2;rw[NF (by simpa using hi),Nc] at h2;cases e:vs[i]? with
   | none=>rw[e] at h2;cases h2
   | some a=>rw[e] at h2;cases h2;rfl
  obtain⟨u,hu,rv⟩:=r.get ha;have hp:ps[i]?=some y:=by
   rw[← S.pre,List.getElem?_take_of_lt (by omega)];exact h1
  have ndP:ps.Nodup:=by rw[← S.pre];exact S.nd.sublist (List.take_sublist _ _)
  refine⟨u,rv,?_⟩;rcases S.par y (Ng hp) with k | k
  ·exact .inl ⟨k,qM ndP hp hu k⟩
  ·obtain⟨c,e⟩:=cj (n:=s.heap.objs.size+1) k;refine .inr ⟨.inl k,c,e,?_⟩;have q:=x.cell y c e;rw[qZ ndP hp hu (by show scope.names.lookup y≠_;rw[k];decide)] at q;exact q
 ·exact e0.S8.fresh (Po (x.above y c (Qe h)))
 ·unfold start;show _=N.length;rw[M9,M8,N4];omega
theorem JF {CX:l7}{P:P2}{w:World}{K:Sk}{mg:MA}{base:Heap}{k:Nat}{f:Addr}{name qual:Str}{params:Arguments}{body:List Stmt}{scope:Scope}{dV kV doc pm S6 ct oc:Value}{an od:Option Addr}{UL:Array MF}{N ps:ME}{sp:Sp}(lk:K.lookup f=some ⟨oc,od,.func (So name qual params body scope dV kV doc pm an S6 ct),UL⟩)(S9:Su K S6 qual=true)(S:aN N ps scope)(len:∀vs H Q E,sp vs H Q E->vs.length=ps.length)(TB:∀(A:P7)(outer:List Env)(s:PX)(H:Hp)(vs:List V)(Q:VK)(E:XK),bI k (A.deeper (PK qual scope s.heap.objs.size f S6))->sp vs H Q E->
  ∃t,jJ (eN CX P w K mg base N qual scope f S6 A outer s H E) body t/\t {nx:=λ_ H'=>Q .Tf H',rt:=Q} (start N vs) H):
 d6 P w K mg base CX (k+1) f (So name qual params body scope dV kV doc pm an S6 ct) ps sp:=by
 refine⟨len,λA outer s H args us vs Q E hr e0 hb r Vg=>?_⟩;have hl:=len _ _ _ _ Vg;have KX:K.In s.heap:=e0.mod.kin.keeps λb o e=>(e0.bs b o e).1;have lim:s.heap.NoLimit:=e0.mod.nolimit.keeps λb o e=>(e0.bs b o e).1;have XI:∀y∈ps.zip us,scope.names.lookup y.1=some .local∨(scope.names.lookup y.1=some .cell/\((cellsFrom (s.heap.objs.size+1) scope.names []).lookup y.1).isSome=true):=λ⟨n,v⟩ hy=>by
  rcases S.par n (OC hy).1 with q | q
  ·exact .inl q
  ·exact .inr ⟨q,PySem.W.cellsFrom_some _ _ _ (.inl q)⟩
 refine codeAny_call_function hr.depth (KX _ _ lk) rfl S.co S.gen rfl (PySem.W.codeRec_of KX S9) (hb _ _ _ _ ?_);refine wpAny_newFunctionEnv_cells S.kind XI λenv he s1 x=>?_;subst he;refine⟨lim.keeps x.toInCall.keep,codeAny_func ?_⟩;obtain⟨t,ht,hq⟩:=TB A outer s H vs Q E (hr.deeper _) Vg;have I:Inv (eN CX P w K mg base N qual scope f S6 A outer s H E) [] (start N vs) H s1:=zq S hr.hd e0 hl r x;refine Qj (ht [] s1 (start N vs) H _ I hq) (λfl s' hs=>?_) λe s' hs=>hs;have fin:∀{σ':St}{H':Hp}{v:V}{u:Value},Inv (eN CX P w K mg base N qual scope f S6 A outer s H E) [] σ' H' s'->RelV v u->Q v H'->CE outer P w H s Q u s':=
  λ{σ' H' v u} J rv q=>⟨v,H',J.os,J.bare,J.base,J.S8,rv,q⟩
 cases fl with
 | ret u=>
   obtain⟨v,σ',H',J,rv,q⟩:=hs;exact fin J rv q
 | next=>
   obtain⟨σ',H',J,q⟩:=hs;exact fin (v:=V.Tf) (u:=Se) J rfl q
 | brk=>
   obtain⟨_,_,_,q⟩:=hs;exact MT q
 | cont=>
   obtain⟨_,_,_,q⟩:=hs;exact MT q
section
variable {X:Cx}{x:Str}{p pos:Pos}{e:Expr}{es:MI}{t:TA}{id T:String}{r:List V->Hp->VK->Prop}
def KN (r:List V->Hp->VK->Prop)(t:TA):TE:=λσ H Q=>t σ H λvs H1=>r vs H1 Q
theorem dX (hc:fF X (.builtin id) r)(hg:Gl X x)(hm:X.mg x=none)(hv:Qs x=some (.builtin id))(ha:PA X (e::es) t)(hn:x≠"__name__":=by decide)(TZ:Ti x:=by decide)(he:PU (e::es) X.env=(false,eval e X.env)::PU es X.env:=by rfl)(To:(P8 pos (PU es X.env)).any (·.1)=false:=by rfl):PE X (.Call (.Name x p) (e::es) [] pos) (KN r t):=by
 intro S3 s σ H Q I h;refine QJ (fQ I hg hm hv ?_ hn TZ);exact PyProof.Rows.callWith_builtin1 (aW (ha pos S3 s σ H _ I h) λus s1 ⟨vs,H1,I1,r1,q1⟩=>hc S3 s1 σ H1 vs us Q I1 r1 q1) he To
theorem iV (hc:fF X (.type T) r)(hg:Gl X x)(hm:X.mg x=none)(hv:Qs x=some (.type T))(ha:PA X (e::es) t)(hn:x≠"__name__":=by decide)(TZ:Ti x:=by decide)(he:PU (e::es) X.env=(false,eval e X.env)::PU es X.env:=by rfl)(To:(P8 pos (PU es X.env)).any (·.1)=false:=by rfl):PE X (.Call (.Name x p) (e::es) [] pos) (KN r t):=by
 intro S3 s σ H Q I h;refine QJ (fQ I hg hm hv ?_ hn TZ);exact Pz (aW (ha pos S3 s σ H _ I h) λus s1 ⟨vs,H1,I1,r1,q1⟩=>hc S3 s1 σ H1 vs us Q I1 r1 q1) he To
end
end L2
namespace HT
open PySem PyProof.Rows
section
open PySem.SeqAt
open PySem.AutoSeq1 (wpAny_loadPart')
open PySem.MeetsSeq PySem.MeetsSeq2 PySem.MeetsSeq3
end
section
variable {prog:P2}{w:World}{A:P7}{E:Value->PX->Prop}{s:PX}
def Tj (n d:Nat):Option Int->Nat
 | none=>d
 | some v=>if v<0 then(v+(n:Int)).toNat else min v.toNat n
theorem IA (n d:Nat)(hd:d<=n)(o:Option Int):Tj n d o<=n:=by
 cases o with
 | none=>exact hd
 | some v=>
   show(if v<0 then(v+(n:Int)).toNat else min v.toNat n)<=n;by_cases hv:v<0
   ·rw[SS hv];omega
   ·rw[SR hv];exact Pj _ _
theorem vd (v:Int)(n d:Nat):(if v<0 then max (v+(n:Int)) 0 else min v (n:Int))=((Tj n d (some v):Nat):Int):=by
 show(if v<0 then max (v+(n:Int)) 0 else min v (n:Int))=(((if v<0 then(v+(n:Int)).toNat else min v.toNat n):Nat):Int);by_cases hv:v<0
 ·simp only[SS hv];omega
 ·simp only[SR hv];omega
theorem wO (lo hi:Option Int)(n:Nat):Rc.Slice.sliceAdjust lo hi 1 (n:Int)=(((Tj n 0 lo:Nat):Int),((Tj n n hi:Nat):Int)):=by
 have h1:¬((1:Int)<0):=by omega
 unfold Rc.Slice.sliceAdjust;simp only[h1,if_false];refine Py ?_ ?_
 ·cases lo with
  | none=>rfl
  | some v=>exact vd v n 0
 ·cases hi with
  | none=>rfl
  | some v=>exact vd v n n
theorem xp (i j:Nat):Rc.Slice.slicePlaces (i:Int) (j:Int) 1=j-i:=by
 unfold Rc.Slice.slicePlaces;have h1:(1:Int)>0:=by omega
 simp only[h1,if_true,Int.ediv_one];split<;>omega
theorem oV {v:Value}{o:Option Int}{Q:Option Int->PX->Prop}(p:QP v o)(h:Q o s):wpAny (model prog w) A (Rc.Slice.slicePartIndex v) Q E s:=by
 cases p with
 | none=>exact slicePart_none h
 | int i t=>exact slicePart_int h
theorem jL {sl:Addr}{vl vu:Value}{lo hi:Option Int}{n:Nat}{Q:Int×Int×Nat->PX->Prop}(hs:s.heap.IsSliceOf sl vl vu .none)(pl:QP vl lo)(pu:QP vu hi)(h:Q (((Tj n 0 lo:Nat):Int),1,Tj n n hi-Tj n 0 lo) s):wpAny (model prog w) A (Rc.Slice.sliceApplied (.ref sl) (pure (n:Int))) Q E s:=by
 obtain⟨os,WE,hcs,XN⟩:=id hs;unfold Rc.Slice.sliceApplied Rc.Slice.sliceFields;refine P0 (P0 (Qh WE XN (x:=vl) rfl (P0 (Qh WE XN (x:=vu) rfl (P0 (Qh WE XN (x:=.none) rfl (P4 ?_)))))));refine P0 (slicePart_none ?_);show wpAny _ _ (if((1:Int)==0)=true then _ else _) _ _ s;rw[SR (by decide)];refine P0 (oV pl (P0 (oV pu (P0 (P4 ?_)))));show wpAny _ _ (match Rc.Slice.sliceAdjust lo hi 1 (n:Int) with | (lo,hi)=>pure (lo,(1:Int),Rc.Slice.slicePlaces lo hi 1)) _ _ s;rw[wO lo hi n];show wpAny _ _ (pure (((Tj n 0 lo:Nat):Int),(1:Int),Rc.Slice.slicePlaces ((Tj n 0 lo:Nat):Int) ((Tj n n hi:Nat):Int) 1)) _ _ s;rw[xp];exact P4 h
theorem Bz (xs:Array Value)(i k:Nat):((Nk k).filterMap λ(m:Nat)=>xs[((i:Int)+(m:Int)*1).toNat]?).toArray=((xs.toList.drop i).take k).toArray:=by
 have e:(λ(m:Nat)=>xs[((i:Int)+(m:Int)*1).toNat]?)=λm=>xs[i+m]?:=by
  funext m;have:((i:Int)+(m:Int)*1).toNat=i+m:=by omega
  rw[this]
 rw[e];have:=pick_run xs i k;rw[List.filterMap_map] at this;have e2:((λx=>xs[x]?) ∘ λx=>i+x)=λm=>xs[i+m]?:=rfl;rw[e2] at this;rw[this]
theorem nB {t sl:Addr}{items:Array Value}{vl vu:Value}{lo hi:Option Int}{Q:Value->PX->Prop}(ht:IsTup s.heap t items)(hs:s.heap.IsSliceOf sl vl vu .none)(pl:QP vl lo)(pu:QP vu hi)(hw:¬(Tj items.size 0 lo=0/\Tj items.size items.size hi=items.size))(h:Q (.ref s.heap.objs.size) {s with heap:=s.heap.push {cls:=.type "tuple",data:=.seq ((items.toList.drop (Tj items.size 0 lo)).take (Tj items.size items.size hi-Tj items.size 0 lo)).toArray}})(hsz:items.size<=PZ):wpAny (model prog w) A (QL (.ref t) (.ref sl)) Q E s:=by
 have Va:sizeOk (.seq ((items.toList.drop (Tj items.size 0 lo)).take (Tj items.size items.size hi-Tj items.size 0 lo)).toArray):=by
  show((items.toList.drop (Tj items.size 0 lo)).take (Tj items.size items.size hi-Tj items.size 0 lo)).toArray.size<=PZ;rw[Nm,Nu,Ov,ML];omega
 have hj:Tj items.size items.size hi<=items.size:=IA _ _ (O0 _) hi;obtain⟨os,WE,hcs,XN⟩:=id hs;have hTs:s.TypeIs (.ref sl) "slice":=⟨os,WE,hcs⟩;unfold QL
 try with_reducible refine QE ?_
 first | refine P0 (P4 ?_) | skip
 refine P0 (wpAny_sequenceKey ht.typeIs (by decide) ?_);refine P0 (Ql (name:=Sa "__getitem__") ht.typeIs PH
  (Qx PH ht.typeIs entry_tuple_getitem ?_ (args_tuple_getitem _ _)))
 show wpAny _ _ (Rc.Tuple.tupleItemsOf (.ref t) >>=_) _ _ s;refine P0 (tupleItemsOf_ ht ?_);refine P0 (wpAny_typeOf hTs ?_);rw[SS (by decide)];refine P0 (jL hs pl pu ?_);have WI:¬((((Tj items.size 0 lo:Nat):Int)==0&&(1:Int)==1&&(Tj items.size items.size hi-Tj items.size 0 lo)==items.size)=true):=by
  intro q;rw[MN,MN] at q;have q1:((Tj items.size 0 lo:Nat):Int)=0:=eq_of_beq q.1.1;have q2:Tj items.size items.size hi-Tj items.size 0 lo=items.size:=eq_of_beq q.2;exact hw ⟨by omega,by omega⟩
 show wpAny _ _ (if(((Tj items.size 0 lo:Nat):Int)==0&&(1:Int)==1&&(Tj items.size items.size hi-Tj items.size 0 lo)==items.size)=true then _ else _) _ _ s;rw[SR WI,Bz]
 first
  | exact P0 (m:=Rc.Tuple.tupleExact _) (Qn (P4 ⟨_,rfl,P4 h⟩) Va)
  | exact P0 (m:=Rc.Tuple.tupleExact _) (Qn (P0 (P4 (P4 ⟨_,rfl,P4 h⟩))) Va)
  | exact P0 (P0 (m:=Rc.Tuple.tupleExact _) (Qn (P4 (P4 ⟨_,rfl,P4 h⟩)) Va))
  | exact P0 (P0 (m:=Rc.Tuple.tupleExact _) (Qn (P4 ⟨_,rfl,P4 h⟩) Va))
end
end HT
namespace L2
open PySem PySem.Spec PyProof.Rows
abbrev TO:=St->Hp->(Option Int->Hp->Prop)->Prop
def PO (X:Cx)(e:Option Expr)(t:TO):Prop:=
 ∀(S3:MB)(s:PX)(σ:St)(H:Hp)(Q:Option Int->Hp->Prop),Inv X S3 σ H s->t σ H Q->
  wpAny (model X.prog X.w) X.A (evalPart e X.env) (λu s'=>∃o H',Inv X S3 σ H' s'/\QP u o/\Q o H') X.xe s
def Eo:TO:=λ_ H Q=>Q none H
def J0 (t:TE):TO:=λσ H Q=>t σ H λx H1=>∃i,x= .int i/\Q (some i) H1
section
variable {X:Cx}{e:Expr}{te:TE}{lo hi:Option Expr}{tl th:TO}{pos p2:Pos}
theorem DJ:PO X none Eo:=by
 intro S3 s σ H Q I h;rw[evalPart_none];exact P4 ⟨none,H,I,.none,h⟩
theorem Ej (h:PE X e te):PO X (some e) (J0 te):=by
 intro S3 s σ H Q I hw;rw[evalPart_some];refine aW (h S3 s σ H _ I hw) λu s1 ⟨x,H1,I1,r1,q1⟩=>?_;obtain⟨i,rfl,q⟩:=q1;obtain⟨t,rfl⟩:=r1;exact⟨some i,H1,I1,.int i t,q⟩
def xV (X:Cx)(r:V->Option Int->Option Int->Hp->VK->Prop):Prop:=
 ∀(S3:MB)(s:PX)(σ:St)(H:Hp)(x:V)(v vl vu:Value)(lo hi:Option Int)(sl:Addr)(Q:VK),Inv X S3 σ H s->RelV x v->s.heap.IsSliceOf sl vl vu .none->QP vl lo->QP vu hi->r x lo hi H Q->
  ∃T id,typeLookup (.type T) "__getitem__"=pure (some (.builtin id))/\s.TypeIs v T/\wpAny (model X.prog X.w) X.A (QL v (.ref sl)) (EP X S3 σ Q) X.xe s
def tSl (r:V->Option Int->Option Int->Hp->VK->Prop)(te:TE)(tl th:TO):TE:=λσ H Q=>te σ H λx H1=>tl σ H1 λl H2=>th σ H2 λu H3=>r x l u H3 Q
theorem lW {r:V->Option Int->Option Int->Hp->VK->Prop}(hr:xV X r)(he:PE X e te)(hl:PO X lo tl)(hu:PO X hi th):PE X (.Subscript e (.Slice lo hi none p2) pos) (tSl r te tl th):=by
 intro S3 s σ H Q I h;refine Subscript_ (aW (he S3 s σ H _ I h) λv s1 ⟨x,H1,I1,r1,q1⟩=>?_);refine wpAny_Slice (aW (hl S3 s1 σ H1 _ I1 q1) λvl s2 ⟨l,H2,I2,pl,q2⟩=>aW (hu S3 s2 σ H2 _ I2 q2) λvu s3 ⟨u,H3,I3,pu,q3⟩=>?_);rw[evalPart_none];refine P4 ?_;have I4:Inv X S3 σ H3 {s3 with heap:=s3.heap.push {cls:=.type "slice",data:=.fields #[vl,vu,.none]}}:=I3.kept (t':=s3.toks) λb ob q=>RM _ q;obtain⟨T,id,hT,ht,hg⟩:=hr S3 {s3 with heap:=s3.heap.push {cls:=.type "slice",data:=.fields #[vl,vu,.none]}} σ H3 x v vl vu l u s3.heap.objs.size Q I4 r1 (Heap.IsSliceOf.new ..) pl pu q3;show wpAny (model X.prog X.w) X.A (PR e (.Slice lo hi none p2) v (.ref s3.heap.objs.size)) (EP X S3 σ Q) X.xe {s3 with heap:=s3.heap.push {cls:=.type "slice",data:=.fields #[vl,vu,.none]}};exact tail_any (ops:=[.ref s3.heap.objs.size,v]) ht hT hg (by with_unfolding_all rfl)
def kF (xs:List V)(lo hi:Option Int):List V:=(xs.drop (HT.Tj xs.length 0 lo)).take (HT.Tj xs.length xs.length hi-HT.Tj xs.length 0 lo)
theorem nJ (xs:List V)(lo hi:Option Int):(kF xs lo hi).length<=xs.length:=by
 unfold kF;rw[Nu,Ov];omega
def Mq (K:Sk):V->Option Int->Option Int->Hp->VK->Prop:=λx lo hi H Q=>∃a xs,x= .ref a/\cC K H a xs/\
 ¬(HT.Tj xs.length 0 lo=0/\HT.Tj xs.length xs.length hi=xs.length)/\∀p,H p=none->Q (.ref p) (upd H p (.tup (kF xs lo hi)))
theorem Iu:xV X (Mq X.K):=by
 intro S3 s σ H x v vl vu lo hi sl Q I rx hs pl pu h;obtain⟨a,xs,rfl,hx,hw,q⟩:=h;cases rx
 obtain⟨S5,r,ht,hz⟩:=I.tuple hx;have hlen:S5.toArray.size=xs.length:=by rw[Nm];exact r.length.symm
 refine⟨"tuple",_,PH.lookup,ht.typeIs,?_⟩;refine HT.nB ht hs pl pu (by rw[hlen];exact hw) ?_ (by rw[hlen];exact hz);rw[hlen];refine⟨.ref s.heap.objs.size,_,I.laid (t':=s.toks) (o:=.tup (kF xs lo hi)) (λb ob q=>RM _ q) (O0 _) ?_,rfl,q _ (I.S8.fresh (O0 _))⟩;exact⟨O2 (nJ xs lo hi) hz,_,(r.drop (HT.Tj xs.length 0 lo)).take (HT.Tj xs.length xs.length hi-HT.Tj xs.length 0 lo),IsTup.new _ _⟩
end
section
variable {α:Type}
def gT (n:Nat)(i:Int):Option Nat:=if 0<=i then(if i<n then some i.toNat else none) else if -(n:Int)<=i then some (i+n).toNat else none
def cM (xs:List α)(i:Int):Option α:=(gT xs.length i).bind λj=>xs[j]?
theorem va {n:Nat}{i:Int}{j:Nat}(h:gT n i=some j):seqIndex? i n=some j/\j<n/\ -(n:Int)<=i/\i<n:=by
 unfold gT at h;by_cases h0:0<=i
 ·rw[SS h0] at h;by_cases h1:i<n
  ·rw[SS h1] at h;have e:i.toNat=j:=Option.some.inj h;exact⟨by rw[seqIndex_of h0 h1,e],by omega,by omega,h1⟩
  ·rw[SR h1] at h;cases h
 ·rw[SR h0] at h;by_cases h1: -(n:Int)<=i
  ·rw[SS h1] at h;have e:(i+n).toNat=j:=Option.some.inj h;exact⟨by rw[seqIndex_neg (by omega) h1,e],by omega,h1,by omega⟩
  ·rw[SR h1] at h;cases h
theorem qF {xs:List α}{i:Int}{v:α}(h:cM xs i=some v):∃j,seqIndex? i xs.length=some j/\xs[j]?=some v/\j<xs.length/\ -(xs.length:Int)<=i/\i<xs.length:=by
 unfold cM at h;cases e:gT xs.length i with
 | none=>rw[e] at h;cases h
 | some j=>
   rw[e] at h;obtain⟨h1,h2,h3,h4⟩:=va e;exact⟨j,h1,h,h2,h3,h4⟩
theorem CV {xs:List α}{j:Nat}{v:α}(h:xs[j]?=some v):cM xs (j:Int)=some v:=by
 have hj:j<xs.length:=(M1.mp h).1;have e:gT xs.length (j:Int)=some j:=by
  unfold gT;rw[SS (by omega),SS (by omega)];simp
 unfold cM;rw[e];exact h
def eQ (b:Expr):Prop:=∀o i,Q7 b false o i=operate [o,i] (QL o i)
def B1 (X:Cx)(r:R2):Prop:=
 ∀(value slice:Expr)(S3:MB)(s:PX)(σ:St)(H:Hp)(x y:V)(v u:Value)(Q:VK),Inv X S3 σ H s->RelV x v->RelV y u->r x y H Q->
  Q7 slice false v u=operate [v,u] (QL v u)->wpAny (model X.prog X.w) X.A (PR value slice v u) (EP X S3 σ Q) X.xe s
def xK (X:Cx)(id:String)(r:V->List V->Hp->VK->Prop):Prop:=
 ∀(S3:MB)(s:PX)(σ:St)(H:Hp)(x:V)(xs:List V)(v:Value)(us:MH)(Q:VK),Inv X S3 σ H s->RelV x v->Vals xs us->r x xs H Q->
  wpAny (model X.prog X.w) X.A (call (.builtin id) (v::us)) (EP X S3 σ Q) X.xe s
end
section
variable {X:Cx}{a b:Expr}{ta tb:TE}{pos:Pos}
theorem iJ {r:R2}(hr:B1 X r)(ha:PE X a ta)(hb:PE X b tb)(hs:eQ b):PE X (.Subscript a b pos) (BH r ta tb):=by
 intro S3 s σ H Q I h;exact Subscript_ (Bh ha hb I h λv u s2 x y H2 I2 rx ry q=>hr a b S3 s2 σ H2 x y v u Q I2 rx ry q (hs _ _))
def Mp (K:Sk):R2:=λx y H Q=>∃p xs i v,x= .ref p/\y= .int i/\aY K H p xs/\cM xs i=some v/\Q v H
def Mw (K:Sk):R2:=λx y H Q=>∃p xs i v,x= .ref p/\y= .int i/\cC K H p xs/\cM xs i=some v/\Q v H
def LX:R2:=λx y H Q=>∃z i c,x= .str z/\y= .int i/\z.length<=PZ/\cM z.cps.toList i=some c/\Q (.str ⟨#[c]⟩) H
theorem gQ:B1 X (Mp X.K):=by
 intro value slice S3 s σ H x y v u Q I rx ry h hs;obtain⟨p,xs,i,z,rfl,rfl,hq,he,q⟩:=h;cases rx
 obtain⟨t,rfl⟩:=ry;obtain⟨S5,r,pl,hz⟩:=I.list hq;obtain⟨j,h1,h2,h3,h4,h5⟩:=qF he;obtain⟨w,ew,VL⟩:=r.get h2;have hl:=r.length;have hn:=jP;have fin:EP X S3 σ Q w s:=⟨z,H,I,VL,q⟩;by_cases h0:0<=i
 ·have hj:i.toNat=j:=by
   rw[seqIndex_of h0 h5] at h1;exact Option.some.inj h1
  exact item_listR pl.isList h0 (by omega) (by rw[hj];simpa using ew) fin hs
 ·have hj:(i+(S5.toArray.size:Int)).toNat=j:=by
   rw[seqIndex_neg (by omega) h4] at h1;rw[Nm,← hl];exact Option.some.inj h1
  exact subscriptTail_builtinR (x:=w) pl.isList.typeIs slot_list_getitem.lookup
   (wpAny_getItem_list_neg (Q:=λr s'=>r=w/\EP X S3 σ Q r s') pl.isList (by omega) (by rw[Nm]<;>omega) (by omega) (by rw[hj];simpa using ew) ⟨rfl,fin⟩) hs
theorem Ic:B1 X (Mw X.K):=by
 intro value slice S3 s σ H x y v u Q I rx ry h hs;obtain⟨p,xs,i,z,rfl,rfl,hq,he,q⟩:=h;cases rx
 obtain⟨t,rfl⟩:=ry;obtain⟨S5,r,pl,hz⟩:=I.tuple hq;obtain⟨j,h1,h2,h3,h4,h5⟩:=qF he;obtain⟨w,ew,VL⟩:=r.get h2;have hl:=r.length;have hn:=jP;have fin:EP X S3 σ Q w s:=⟨z,H,I,VL,q⟩;exact subscriptTail_builtinR (x:=w) pl.typeIs slot_tuple_getitem.lookup
  (getItem_tuple (j:=j) (Q:=λr s'=>r=w/\EP X S3 σ Q r s') pl (by omega) (by omega) (by rw[Nm,← hl];exact h1) (by simpa using ew) ⟨rfl,fin⟩) hs
theorem Io:B1 X LX:=by
 intro value slice S3 s σ H x y v u Q I rx ry h hs;obtain⟨z,i,c,rfl,rfl,hz,he,q⟩:=h;obtain⟨t,rfl⟩:=rx;obtain⟨t',rfl⟩:=ry;obtain⟨j,h1,h2,h3,h4,h5⟩:=qF he;have hl:z.cps.toList.length=z.length:=by simp[Str.length]
 rw[hl] at h1 h4 h5;have hn:=jP;exact tail_any (QQ s z t) slot_str_getitem.lookup (getItem_str (c:=c) (by
  have e1:decide (i < -(2 ^ 63:Int))=false:=SW (by omega);have e2:decide (i≥2 ^ 63)=false:=SW (by omega);rw[e1,e2,Bool.or_false]) (by rw[h1];simpa using h2) ⟨.str ⟨#[c]⟩,H,I.tok _,⟨_,rfl⟩,q⟩) hs
theorem xC (S5:MH)(n j:Nat)(u:Value):RZ (·.setIfInBounds j u) {cls:=.type "list",data:=.seq S5.toArray n}={cls:=.type "list",data:=.seq (S5.set j u).toArray n}:=by
 simp[RZ]
theorem Inv.lst {S3:MB}{σ:St}{H:Hp}{s:PX}{p:Addr}{xs:List V}(I:Inv X S3 σ H s)(h:H p=some (.lst xs)):
 ∃(S5:MH)(n:Nat),Vals xs S5/\s.heap.get? p=some {cls:=.type "list",data:=.seq S5.toArray n}/\xs.length<=PZ:=by
 obtain⟨z,S5,n,r,e⟩:=I.S8 p _ h;exact⟨S5,n,r,e,z⟩
theorem Inv.Fi {S3:MB}{σ:St}{H:Hp}{s:PX}{p:Addr}{xs ys:List V}{S5 its':MH}{n n':Nat}{f:Obj->Obj}(I:Inv X S3 σ H s)(h:H p=some (.lst xs))(ho:s.heap.get? p=some {cls:=.type "list",data:=.seq S5.toArray n})(hf:f {cls:=.type "list",data:=.seq S5.toArray n}={cls:=.type "list",data:=.seq its'.toArray n'})(r:Vals ys its')(hz:ys.length<=PZ)(t:Nat):
 Inv X S3 σ (upd H p (.lst ys)) {s with heap:=s.heap.update p f,toks:=t}:=by
 have e:(s.heap.update p f).get? p=some {cls:=.type "list",data:=.seq its'.toArray n'}:=by
  rw[RS f ho (by rw[hf]<;>rfl),hf]
 refine I.write (x:=p) (e:=p) (by rw[h];trivial) (.inl rfl) (λb u hb q=>(Heap.get?_update_other _ _ (Pr hb)).trans q) ⟨_,e⟩ ?_;exact⟨hz,its',n',r,e⟩
def Kk:V->V->V->Hp->(Hp->Prop)->Prop:=λo i v H Q=>∃p xs k j,o= .ref p/\i= .int k/\H p=some (.lst xs)/\gT xs.length k=some j/\Q (upd H p (.lst (xs.set j v)))
theorem set_list:IU X Kk:=by
 intro S3 s σ H o i v ov iv u Q I ro ri rv h;obtain⟨p,xs,k,j,rfl,rfl,hp,hj,q⟩:=h;cases ro
 obtain⟨t,rfl⟩:=ri;obtain⟨S5,n,r,ho,hz⟩:=I.lst hp;obtain⟨h1,h2,h3,h4⟩:=va hj;have hl:=r.length;have hn:=jP;have I':Inv X S3 σ (upd H p (.lst (xs.set j v))) {s with heap:=s.heap.update p (RZ (·.setIfInBounds j u))}:=
  I.Fi hp ho (xC S5 n j u) (r.set rv j) (by rw[NT];exact hz) s.toks
 by_cases h0:0<=k
 ·have hk:k.toNat=j:=by
   rw[seqIndex_of h0 h4] at h1;exact Option.some.inj h1
  exact PySem.W.ki_setAt ho h0 (by omega) (by rw[Nm,← hl];exact h4) (by rw[hk];exact⟨_,I',q⟩)
 ·have hk:(k+(S5.toArray.size:Int)).toNat=j:=by
   rw[seqIndex_neg (by omega) h3] at h1;rw[Nm,← hl];exact Option.some.inj h1
  exact PySem.W.ki_setBack ho (by omega) (by rw[Nm,← hl];exact h3) (by omega) (by rw[hk];exact⟨_,I',q⟩)
theorem uh (lo hi:Option Int)(n:Nat):(QF lo hi none n).1=((HT.Tj n 0 lo:Nat):Int)/\(QF lo hi none n).2.1=((HT.Tj n n hi:Nat):Int)/\(QF lo hi none n).2.2=1:=by
 refine⟨?_,?_,rfl⟩
 ·cases lo with
  | none=>simp[QF,HT.Tj]
  | some i=>
    simp only[QF,HT.Tj,Option.getD_none,show(1:Int)>0 by decide,if_true];by_cases h:i<0
    ·simp only[h,if_true]<;>omega
    ·simp only[h,if_false]<;>omega
 ·cases hi with
  | none=>simp[QF,HT.Tj]
  | some i=>
    simp only[QF,HT.Tj,Option.getD_none,show(1:Int)>0 by decide,if_true];by_cases h:i<0
    ·simp only[h,if_true]<;>omega
    ·simp only[h,if_false]<;>omega
theorem rE (S5:MH)(lo hi:Option Int):slicePick S5.toArray lo hi none=((S5.drop (HT.Tj S5.length 0 lo)).take (HT.Tj S5.length S5.length hi-HT.Tj S5.length 0 lo)).toArray:=by
 obtain⟨h1,h2,h3⟩:=uh lo hi S5.toArray.size;unfold slicePick;rw[h1,h2,h3];simp only[sliceRange_one,pick_run,Nm]<;>rfl
def LO (K:Sk):V->Option Int->Option Int->Hp->VK->Prop:=λx lo hi H Q=>∃a xs,x= .ref a/\aY K H a xs/\∀p,H p=none->Q (.ref p) (upd H p (.lst (kF xs lo hi)))
theorem DN:xV X (LO X.K):=by
 intro S3 s σ H x v vl vu lo hi sl Q I rx hs pl pu h;obtain⟨a,xs,rfl,hx,q⟩:=h;cases rx
 obtain⟨S5,r,ht,hz⟩:=I.list hx;have hlen:=r.length;refine⟨"list",_,slot_list_getitem.lookup,ht.isList.typeIs,?_⟩;refine wpAny_getItem_list_slice ht.isList hs pl pu .none (by simp) ?_ (by rw[Nm]<;>omega)
 rw[rE,← hlen];refine⟨.ref s.heap.objs.size,_,I.laid (t':=s.toks) (o:=.lst (kF xs lo hi)) (λb ob q=>RM _ q) (O0 _) ?_,rfl,q _ (I.S8.fresh (O0 _))⟩;exact⟨O2 (nJ xs lo hi) hz,_,0,(r.drop (HT.Tj xs.length 0 lo)).take (HT.Tj xs.length xs.length hi-HT.Tj xs.length 0 lo),RP _ rfl⟩
def jt:V->Bool
 | .Tf=>true
 | .bl _=>true
 | .int _=>true
 | .str _=>true
 | _=>false
def oW:V->V->Bool
 | .Tf,.Tf=>true
 | .bl a,.bl b=>a==b
 | .bl a,.int b=>(if a then 1 else 0)==b
 | .int a,.bl b=>a==(if b then 1 else 0)
 | .int a,.int b=>a==b
 | .str a,.str b=>a==b
 | _,_=>false
theorem Fn {A:P7}{s:PX}{y x:V}{u v:Value}(ry:RelV y u)(rx:RelV x v)(fy:jt y=true)(fx:jt x=true):SeqAt.EqAt A s u v (oW y x):=by
 cases y with
 | Tf=>
   cases ry
   cases x with
   | Tf=>cases rx;exact SeqAt.EqAt.same _
   | bl b=>cases rx;exact SeqAt.EqAt.none_bool b
   | int b=>obtain⟨t,rfl⟩:=rx;exact SeqAt.EqAt.none_int b t
   | str b=>obtain⟨t,rfl⟩:=rx;exact SeqAt.EqAt.none_str b t
   | _=>exact SQ (show false=true from fx) MM
 | bl a=>
   cases ry
   cases x with
   | Tf=>cases rx;exact SeqAt.EqAt.bool_none a
   | bl b=>cases rx;exact SeqAt.EqAt.bool_bool a b
   | int b=>obtain⟨t,rfl⟩:=rx;exact SeqAt.EqAt.bool_int a b t
   | str b=>obtain⟨t,rfl⟩:=rx;exact SeqAt.EqAt.bool_str a b t
   | _=>exact SQ (show false=true from fx) MM
 | int a=>
   obtain⟨t',rfl⟩:=ry;cases x with
   | Tf=>cases rx;exact SeqAt.EqAt.int_none a t'
   | bl b=>cases rx;exact SeqAt.EqAt.int_bool a t' b
   | int b=>obtain⟨t,rfl⟩:=rx;exact SeqAt.EqAt.int_int a t' b t
   | str b=>obtain⟨t,rfl⟩:=rx;exact SeqAt.EqAt.int_str a t' b t
   | _=>exact SQ (show false=true from fx) MM
 | str a=>
   obtain⟨t',rfl⟩:=ry;cases x with
   | Tf=>cases rx;exact SeqAt.EqAt.str_none a t'
   | bl b=>cases rx;exact SeqAt.EqAt.str_bool a t' b
   | int b=>obtain⟨t,rfl⟩:=rx;exact SeqAt.EqAt.str_int a t' b t
   | str b=>obtain⟨t,rfl⟩:=rx;exact SeqAt.EqAt.str_str a t' b t
   | _=>exact SQ (show false=true from fx) MM
 | _=>exact SQ (show false=true from fy) MM
def jM (x:V)(u:Value):Bool:=match u with
 | .none=>oW .Tf x
 | .bool b=>oW (.bl b) x
 | .int i _=>oW (.int i) x
 | .str z _=>oW (.str z) x
 | _=>false
theorem ym {x y:V}{u:Value}(r:RelV y u)(f:jt y=true):jM x u=oW y x:=by
 cases y with
 | Tf=>cases r;rfl
 | bl b=>cases r;rfl
 | int i=>obtain⟨t,rfl⟩:=r;rfl
 | str z=>obtain⟨t,rfl⟩:=r;rfl
 | _=>exact SQ (show false=true from f) MM
theorem lD {x:V}:∀{xs:List V}{us:MH},Vals xs us->xs.all jt=true->us.any (jM x)=xs.any λy=>oW y x
 | _,_,.nil,_=>rfl
 | y::xs,u::us,.cons r t,f=>by
   rw[all_cons,MN] at f;rw[ON,ON,ym r f.1,lD t f.2]
theorem jI {A:P7}{s:PX}{x:V}{v:Value}(rx:RelV x v)(fx:jt x=true):∀{xs:List V}{us:MH},Vals xs us->xs.all jt=true->∀u∈us,SeqAt.EqAt A s u v (jM x u)
 | _,_,.nil,_=>λu hu=>by cases hu
 | y::xs,u::us,.cons r t,f=>λu' hu=>by
   rw[all_cons,MN] at f;rcases Nd.mp hu with rfl | hu
   ·rw[ym r f.1];exact Fn r rx f.1 fx
   ·exact jI rx fx t f.2 u' hu
def Ci (x:V)(xs:List V):Bool:=xs.any λy=>oW y x
def KP (K:Sk)(neg:Bool):R2:=λx y H Q=>∃p xs,y= .ref p/\(aY K H p xs∨cC K H p xs)/\jt x=true/\xs.all jt=true/\Q (.bl (if neg then !Ci x xs else Ci x xs)) H
theorem qY:dW X (Qd .In) (KP X.K false):=by
 intro S3 s σ H x y v u Q I rx ry h;obtain⟨p,xs,rfl,hq,fx,fs,q⟩:=h;cases ry
 rcases hq with hq | hq
 ·obtain⟨S5,r,pl,hz⟩:=I.list hq;refine SeqAt.in_listAt (jM x) pl.isList (λw hw=>jI rx fx r fs w (by simpa using hw)) ⟨.bl _,H,I,rfl,?_⟩;rw[show S5.toArray.any (jM x)=S5.any (jM x) by simp,lD r fs];exact q
 ·obtain⟨S5,r,pl,hz⟩:=I.tuple hq;refine SeqAt.in_tupleAt (jM x) pl (λw hw=>jI rx fx r fs w (by simpa using hw)) ⟨.bl _,H,I,rfl,?_⟩;rw[show S5.toArray.any (jM x)=S5.any (jM x) by simp,lD r fs];exact q
theorem uj:dW X (Qd .NotIn) (KP X.K true):=by
 intro S3 s σ H x y v u Q I rx ry h;obtain⟨p,xs,rfl,hq,fx,fs,q⟩:=h;cases ry
 rcases hq with hq | hq
 ·obtain⟨S5,r,pl,hz⟩:=I.list hq;refine SeqAt.notIn_listAt (jM x) pl.isList (λw hw=>jI rx fx r fs w (by simpa using hw)) ⟨.bl _,H,I,rfl,?_⟩;rw[show S5.toArray.any (jM x)=S5.any (jM x) by simp,lD r fs];exact q
 ·obtain⟨S5,r,pl,hz⟩:=I.tuple hq;refine SeqAt.notIn_tupleAt (jM x) pl (λw hw=>jI rx fx r fs w (by simpa using hw)) ⟨.bl _,H,I,rfl,?_⟩;rw[show S5.toArray.any (jM x)=S5.any (jM x) by simp,lD r fs];exact q
theorem fV:fF X (.builtin "len") (λxs H Q=>∃p ys,xs=[.ref p]/\(aY X.K H p ys∨cC X.K H p ys)/\Q (.int ys.length) H):=by
 intro S3 s σ H xs us Q I r h;obtain⟨p,ys,rfl,hq,q⟩:=h;obtain⟨u,rfl,rx⟩:=vals1 r;cases rx
 have hn:=jP;rcases hq with hq | hq
 ·obtain⟨S5,r',pl,hz⟩:=I.list hq;have hlen:=r'.length;exact Calls.call_len_list pl.isList (by simp only[Nm]<;>omega) ⟨.int ys.length,H,I.tok _,⟨s.toks+1,by rw[Nm,hlen]⟩,q⟩
 ·obtain⟨S5,r',pl,hz⟩:=I.tuple hq;have hlen:=r'.length;exact len_tuple pl (by simp only[Nm]<;>omega) ⟨.int ys.length,H,I.tok _,⟨s.toks+1,by rw[Nm,hlen]⟩,q⟩
theorem t7:fF X (.builtin "len") (λxs H Q=>∃z,xs=[.str z]/\z.length<=PZ/\Q (.int z.length) H):=by
 intro S3 s σ H xs us Q I r h;obtain⟨z,rfl,hz,q⟩:=h;obtain⟨u,rfl,t,rfl⟩:=vals1 r;have hn:=jP;exact len_str (by omega) ⟨.int z.length,H,I.tok _,⟨_,rfl⟩,q⟩
def Ij (K:Sk)(T:String)(x:V)(H:Hp):Prop:=match x with
 | .str _=>T="str"
 | .int _=>T="int"
 | .ref p=>(T="list"/\∃xs,aY K H p xs)∨(T="tuple"/\∃o,K.lookup p=some o/\o.cls= .type "tuple"/\o.dict=none)∨
  (T="dict"/\((∃kvs,H p=some (.dK kvs))∨∃kvs,H p=some (.dT kvs)))∨(T="set"/\∃S n,H p=some (.set S n))
 | _=>False
theorem zt {S3:MB}{σ:St}{H:Hp}{s:PX}{T:String}{x:V}{v:Value}(I:Inv X S3 σ H s)(r:RelV x v)(ty:Ij X.K T x H):
 s.TypeIs v T/\∀a,v= .ref a->∃ob,s.heap.get? a=some ob/\ob.dict=none:=by
 cases x with
 | str z=>
   obtain⟨t,rfl⟩:=r;cases (show T="str" from ty)
   exact⟨QQ s z t,λ_ e=>nomatch e⟩
 | int i=>
   obtain⟨t,rfl⟩:=r;cases (show T="int" from ty)
   exact⟨typeIs_int s i t,λ_ e=>nomatch e⟩
 | ref p=>
   cases r
   rcases ty with⟨rfl,xs,hq⟩ | ⟨rfl,o,hk,hc,hd⟩ | ⟨rfl,hk⟩ | ⟨rfl,S,n,hk⟩
   ·obtain⟨S5,_,pl,_⟩:=I.list hq;refine⟨pl.isList.typeIs,λa e=>?_⟩;cases e
    obtain⟨o,n,e,c,hd,_⟩:=pl;exact⟨o,e,hd⟩
   ·refine⟨⟨o,I.fk p o hk,hc⟩,λa e=>?_⟩;cases e
    exact⟨o,I.fk _ o hk,hd⟩
   ·have z:∃o,s.heap.get? p=some o/\o.ExactDict:=by
     rcases hk with⟨kvs,hk⟩ | ⟨kvs,hk⟩
     ·obtain⟨_,_,_,_,o,_,_,e,ex,_⟩:=I.S8 p _ hk;exact⟨o,e,ex⟩
     ·obtain⟨_,_,_,_,o,_,_,e,ex,_⟩:=I.S8 p _ hk;exact⟨o,e,ex⟩
    obtain⟨o,e,ex⟩:=z;refine⟨⟨o,e,ex.1⟩,λa e2=>?_⟩;cases e2
    exact⟨o,e,ex.2.1⟩
   ·obtain⟨o,_,_,_,e,ex,_⟩:=I.S8 p _ hk;refine⟨⟨o,e,ex.1⟩,λa e2=>?_⟩;cases e2
    exact⟨o,e,ex.2.1⟩
 | _=>exact MT ty
def Me (K:Sk)(T:String)(r:V->List V->Hp->VK->Prop)(to:TE):TE:=λσ H Q=>to σ H λx H1=>Ij K T x H1/\r x [] H1 Q
def tBM (K:Sk)(T:String)(r:V->List V->Hp->VK->Prop)(to:TE)(t:TA):TE:=λσ H Q=>to σ H λx H1=>Ij K T x H1/\t σ H1 λxs H2=>r x xs H2 Q
variable {o e:Expr}{es:MI}{to:TE}{t:TA}{name:Str}{apos Ue:Pos}{T id:String}{r:V->List V->Hp->VK->Prop}
theorem zQ (pa:PlainAttrs T)(slot:Slot T name id)(hty:typeOf (.builtin id)=pure (.type "method_descriptor"))(hm:xK X id r)(ho:PE X o to)(Tc:P6 o name X.env (eval o X.env)=eval o X.env:=by rfl)(Tb:(apos.endLine==Ue.line)=true:=by rfl):PE X (.Call (.Attribute o name apos) [] [] Ue) (Me X.K T r to):=by
 intro S3 s σ H Q I h;refine wpAny_Call_method0_late Tc Tb (aW (ho S3 s σ H _ I h) λv s1 ⟨x,H1,I1,r1,ty,q1⟩=>?_);obtain⟨h1,h2⟩:=zt I1 r1 ty;exact⟨T,id,pa,slot,hty,h1,h2,Rx rfl (PySem.evalArgs_none (hm S3 s1 σ H1 x [] v [] Q I1 r1 .nil q1))⟩
theorem iK (pa:PlainAttrs T)(slot:Slot T name id)(hty:typeOf (.builtin id)=pure (.type "method_descriptor"))(hm:xK X id r)(ho:PE X o to)(ha:PA X (e::es) t)(Tc:P6 o name X.env (eval o X.env)=eval o X.env:=by rfl)(TN:((P8 Ue (PU (e::es) X.env)).all (λx=> !x.1)&&(Qy Ue (Qm [] X.env)).all (λx=>x.1.isSome)
  &&decide ((e::es).length+([]:List Qc).length+(if([]:List Qc).isEmpty then 0 else 1)<30))=true:=by rfl)(Tb:(apos.endLine==Ue.line)=true:=by rfl)(hs:PU (e::es) X.env=(false,eval e X.env)::PU es X.env:=by rfl)(WC:(P8 Ue (PU es X.env)).any (·.1)=false:=by rfl):
 PE X (.Call (.Attribute o name apos) (e::es) [] Ue) (tBM X.K T r to t):=by
 intro S3 s σ H Q I h;refine wpAny_Call_method_late Tc TN Tb rfl (aW (ho S3 s σ H _ I h) λv s1 ⟨x,H1,I1,r1,ty,q1⟩=>?_);obtain⟨h1,h2⟩:=zt I1 r1 ty;refine⟨T,id,pa,slot,hty,h1,h2,?_⟩;have hA:=ha Ue S3 s1 σ H1 _ I1 q1;rw[hs] at hA ⊢;refine Rx (by show(false ||(P8 Ue (PU es X.env)).any (·.1))=false;rw[WC]<;>rfl) (Calls.evalArgs_plain ?_)
 exact aW hA λus s2 ⟨vs,H2,I2,r2,q2⟩=>hm S3 s2 σ H2 x vs v us Q I2 r1 r2 q2
end
def zr (X:Cx)(id:String)(r:V->List V->Hp->VK->Prop):Prop:=
 ∀(S3:MB)(s:PX)(σ:St)(H:Hp)(x:V)(xs:List V)(v:Value)(us:MH)(Q:VK),Inv X S3 σ H s->RelV x v->Vals xs us->r x xs H Q->
  wpAny (model X.prog X.w) X.A (call (.builtin id) (v::us)) (EP X S3 σ Q) X.xe s
theorem Vals.one:∀{x:V}{us:MH},Vals [x] us->∃u,us=[u]/\RelV x u
 | _,_,.cons r .nil=>⟨_,rfl,r⟩
theorem Vals.zero:∀{us:MH},Vals [] us->us=[]
 | _,.nil=>rfl
theorem Vals.dropLast {xs:List V}{us:MH}(h:Vals xs us):Vals xs.dropLast us.dropLast:=by
 induction h with
 | nil=>exact .nil
 | cons r t ih=>
   cases t with
   | nil=>exact .nil
   | cons q t'=>exact .cons r ih
theorem xb {α:Type}(l:List α):l.eraseIdx (l.length-1)=l.dropLast:=by
 induction l with
 | nil=>rfl
 | cons a r ih=>
   cases r with
   | nil=>rfl
   | cons b r=>
     have e:(a::b::r).length-1=((b::r).length-1)+1:=by
      have h1:(a::b::r).length=r.length+2:=rfl;have h2:(b::r).length=r.length+1:=rfl;omega
     rw[e,List.eraseIdx_cons_succ,ih]
     all_goals rfl
section
variable {X:Cx}{S3:MB}{σ:St}{H:Hp}{s:PX}{l b:Addr}{xs ys zs:List V}
theorem Inv.uI {S5 its':MH}{n:Nat}{f:Array Value->Array Value}{t':Nat}(I:Inv X S3 σ H s)(hH:H l=some (.lst xs))(e:s.heap.get? l=some {cls:=.type "list",data:=.seq S5.toArray n})(hf:f S5.toArray=its'.toArray)(hv:Vals ys its')(hz:ys.length<=PZ):
 Inv X S3 σ (upd H l (.lst ys)) {s with heap:=s.heap.update l (RZ f),toks:=t'}:=by
 have q:=PySem.IsL.update e f;rw[hf] at q;refine I.write (x:=l) (e:=l) (by rw[hH];exact trivial) (.inl rfl) (λb' u hb hu=>(Heap.get?_update_other s.heap (RZ f) (Pr hb)).trans hu) ⟨_,q⟩ ?_;exact⟨hz,its',_,hv,q⟩
theorem Inv.Mx {S5:MH}{t':Nat}(I:Inv X S3 σ H s)(hv:Vals ys S5)(hz:ys.length<=PZ):
 Inv X S3 σ (upd H s.heap.objs.size (.lst ys)) {s with heap:=s.heap.push {cls:=.type "list",data:=.seq S5.toArray},toks:=t'}:=
 I.laid (λ_ _ q=>RM _ q) (O0 _) ⟨hz,S5,0,hv,RP _ rfl⟩
theorem Inv.fresh (I:Inv X S3 σ H s):H s.heap.objs.size=none:=I.S8.fresh (O0 _)
theorem Inv.lO (I:Inv X S3 σ H s)(hH:H l=some (.lst xs)):xs.length<=PZ/\∃(S5:MH)(n:Nat),Vals xs S5/\xs.length=S5.length/\s.heap.get? l=some {cls:=.type "list",data:=.seq S5.toArray n}:=by
 obtain⟨z,S5,n,r,e⟩:=I.S8 l _ hH;exact⟨z,S5,n,r,r.length,e⟩
theorem A2 {n:Nat}(h:n<=PZ):Rc.List.listTooLong n=false:=by
 unfold Rc.List.listTooLong;exact SW (by omega)
end
section
variable {X:Cx}
def Ea:V->List V->Hp->VK->Prop:=λx vs H Q=>∃l xs y,x= .ref l/\vs=[y]/\H l=some (.lst xs)/\xs.length<PZ/\Q .Tf (upd H l (.lst (xs++[y])))
theorem jb:zr X "list.append" Ea:=by
 intro S3 s σ H x vs v us Q I rx rv h;obtain⟨l,xs,y,rfl,rfl,hH,hz,q⟩:=h;cases rx
 obtain⟨u,rfl,ru⟩:=rv.one;obtain⟨z,S5,n,r,hl,e⟩:=I.lO hH;refine QD F.slot_list_append ⟨_,e,rfl⟩ F.entry_list_append (F.args_list_append_2 _ _) (PySem.list_append l S5.toArray n u (by rw[Nm];omega)) ⟨e,?_⟩;refine⟨.Tf,_,I.uI (its':=S5++[u]) hH e (by simp) (r.append (.cons ru .nil)) ?_,rfl,q⟩;rw[M9,NG];omega
def DI:V->List V->Hp->VK->Prop:=λx vs H Q=>∃l b xs zs,x= .ref l/\vs=[.ref b]/\H l=some (.lst xs)/\H b=some (.lst zs)/\xs.length+zs.length<=PZ/\Q .Tf (upd H l (.lst (xs++zs)))
theorem yg:zr X "list.extend" DI:=by
 intro S3 s σ H x vs v us Q I rx rv h;obtain⟨l,b,xs,zs,rfl,rfl,hH,hB,hz,q⟩:=h;cases rx
 obtain⟨u,rfl,ru⟩:=rv.one;cases ru
 obtain⟨z,S5,n,r,hl,e⟩:=I.lO hH;obtain⟨z2,U1,n2,r2,Vv,e2⟩:=I.lO hB;have hsz:S5.toArray.size+U1.toArray.size<=PZ:=by rw[Nm,Nm];omega
 have XG:¬(!S5.toArray.isEmpty&&Rc.List.listTooLong (S5.toArray.size+U1.toArray.size))=true:=by
  rw[A2 hsz,Bool.and_false];exact MM
 refine QD F.slot_list_extend ⟨_,e,rfl⟩ F.entry_list_extend (F.args_list_extend_2 _ _)
  (AutoSeq1.list_extend_list_list_0 l S5.toArray n b U1.toArray n2 XG (by rw[Nm];omega) (by omega)) ⟨e,e2,?_⟩
 refine⟨.Tf,_,I.uI (its':=S5++U1) hH e (by simp) (r.append r2) ?_,rfl,q⟩;rw[M9];omega
def L4:V->List V->Hp->VK->Prop:=λx vs H Q=>∃l xs y,x= .ref l/\vs=[]/\H l=some (.lst xs)/\xs[xs.length-1]?=some y/\Q y (upd H l (.lst xs.dropLast))
theorem GF:zr X "list.pop" L4:=by
 intro S3 s σ H x vs v us Q I rx rv h;obtain⟨l,xs,y,rfl,rfl,hH,hy,q⟩:=h;cases rx
 have hus:=rv.zero;subst hus;obtain⟨z,S5,n,r,hl,e⟩:=I.lO hH;obtain⟨u,hu,ru⟩:=r.get hy;have Wy:S5.toArray[S5.toArray.size-1]?=some u:=by
  show S5.toArray[S5.length-1]?=some u;rw[← Array.getElem?_toList,← hl];exact hu
 refine QD F.slot_list_pop ⟨_,e,rfl⟩ F.entry_list_pop (F.args_list_pop_1 _) (MeetsSeq.list_pop_last l S5.toArray n u Wy (by rw[Nm];omega)) ⟨e,?_⟩;refine⟨y,_,I.uI (its':=S5.dropLast) hH e ?_ r.dropLast ?_,ru,q⟩
 ·show S5.toArray.eraseIdxIfInBounds (S5.toArray.size-1)=S5.dropLast.toArray;rw[Nm,List.eraseIdxIfInBounds_toArray,xb]
 ·rw[OP];omega
def L8:R2:=λx y H Q=>∃l b xs zs,x= .ref l/\y= .ref b/\H l=some (.lst xs)/\H b=some (.lst zs)/\xs.length+zs.length<=PZ/\∀p,H p=none->Q (.ref p) (upd H p (.lst (xs++zs)))
theorem Hv:dW X (Qw .Add) L8:=by
 intro S3 s σ H x y v u Q I rx ry h;obtain⟨l,b,xs,zs,rfl,rfl,hH,hB,hz,q⟩:=h;cases rx
 cases ry
 obtain⟨z,S5,n,r,hl,e⟩:=I.lO hH;obtain⟨z2,U1,n2,r2,Vv,e2⟩:=I.lO hB;refine PySem.P.add_list e e2 ?_ (by rw[Nm,Nm];omega);have ea:S5.toArray++U1.toArray=(S5++U1).toArray:=by simp
 rw[ea];exact⟨.ref _,_,I.Mx (t':=s.toks) (r.append r2) (by rw[M9];omega),rfl,q _ I.fresh⟩
end
section
variable {prog:P2}{w:World}{A:P7}{E:Value->PX->Prop}{s:PX}
end
section
variable {X:Cx}
end
section
variable {κ:Type} [DecidableEq κ]
variable {kvs:List (κ×V)}{vs:List (κ×Value)}
def cW (kvs:List (κ×V))(k:κ):Option V:=(kvs.find? λkv=>decide (kv.1=k)).map (·.2)
def putK (kvs:List (κ×V))(k:κ)(v:V):List (κ×V):=
 if(kvs.any λkv=>decide (kv.1=k))=true then kvs.map (λkv=>if kv.1=k then(kv.1,v) else kv) else kvs++[(k,v)]
theorem dy {p:κ×V}{r:List (κ×V)}{k:κ}(e:p.1=k):cW (p::r) k=some p.2:=by simp[cW,Oj,e]
theorem c8 {p:κ×V}{r:List (κ×V)}{k:κ}(e:¬p.1=k):cW (p::r) k=cW r k:=by simp[cW,Oj,e]
theorem gI (k:κ):∀kvs:List (κ×V),(kvs.any λkv=>decide (kv.1=k))=(cW kvs k).isSome
 | []=>rfl
 | p::r=>by
   rw[ON];by_cases e:p.1=k
   ·simp only[dy e,decide_eq_true e,Bool.true_or,Option.isSome_some]
   ·rw[c8 e,SW e,Bool.false_or];exact gI k r
theorem sU (k j:κ)(y:V):∀kvs:List (κ×V),cW (kvs.map λkv=>if kv.1=k then(kv.1,y) else kv) j=(cW kvs j).map λx=>if j=k then y else x
 | []=>rfl
 | p::r=>by
   have ih:=sU k j y r;rw[Nz];by_cases h:p.1=k
   ·rw[SS h];by_cases e:p.1=j
    ·rw[dy (p:=(p.1,y)) e,dy e,Pw,SS (e.symm.trans h)]
    ·rw[c8 (p:=(p.1,y)) e,c8 e,ih]
   ·rw[SR h];by_cases e:p.1=j
    ·rw[dy (p:=p) e,dy e,Pw,SR (λz=>h (e.trans z))]
    ·rw[c8 (p:=p) e,c8 e,ih]
theorem rh (k j:κ)(y:V):∀kvs:List (κ×V),cW kvs k=none->cW (kvs++[(k,y)]) j=if j=k then some y else cW kvs j
 | [],_=>by
   by_cases e:k=j
   ·rw[SS e.symm];exact dy (p:=(k,y)) e
   ·rw[SR (λz=>e z.symm)];exact c8 (p:=(k,y)) e
 | p::r,hn=>by
   rw[N6];have hk:¬p.1=k:=λz=>by rw[dy z] at hn;cases hn
   rw[c8 hk] at hn;have ih:=rh k j y r hn;by_cases e:p.1=j
   ·rw[dy e,dy e,SR (λz=>hk (e.trans z))]
   ·rw[c8 e,c8 e,ih]
theorem Ad (kvs:List (κ×V))(k j:κ)(y:V):cW (putK kvs k y) j=if j=k then some y else cW kvs j:=by
 unfold putK;by_cases a:(kvs.any λkv=>decide (kv.1=k))=true
 ·rw[SS a,sU];rw[gI] at a;by_cases e:j=k
  ·obtain⟨x,hx⟩:=Option.isSome_iff_exists.mp a;rw[SS e,e,hx,Pw,SS rfl]
  ·rw[SR e];cases cW kvs j with
   | none=>rfl
   | some x=>rw[Pw,SR e]
 ·rw[SR a];refine rh k j y kvs ?_;rw[gI] at a;cases q:cW kvs k with
  | none=>rfl
  | some x=>rw[q] at a;exact(a rfl).elim
theorem kI (kvs:List (κ×V))(k:κ)(v:V):(putK kvs k v).length<=kvs.length+1:=by
 unfold putK;split
 ·rw[M8];omega
 ·rw[M9,Nf,Nr];omega
theorem n9 {k:κ}(v:V)(h:cW kvs k=none):putK kvs k v=kvs++[(k,v)]:=by
 unfold putK;rw[gI,h];exact SR (by decide)
theorem iH.i8 {o:Option V}{u:MF}(r:iH o u):o.isSome=u.isSome:=by
 cases o with
 | none=>cases u with
   | none=>rfl
   | some _=>exact(show False from r).elim
 | some _=>cases u with
   | none=>exact(show False from r).elim
   | some _=>rfl
theorem KV.val (r:KV kvs vs)(k:κ):iH (cW kvs k) (Qo vs k):=by
 unfold KV at r
 induction r with
 | nil=>exact SO
 | @cons p q ps qs h t ih=>
   obtain⟨h1,h2⟩:=h;by_cases e:p.1=k
   ·have e':q.1=k:=h1.symm.trans e;have b:Qo (q::qs) k=some q.2:=by simp[Qo,Oj,e']
    rw[dy e,b];exact h2
   ·have e':¬q.1=k:=λz=>e (h1.trans z);have b:Qo (q::qs) k=Qo qs k:=by simp[Qo,Oj,e']
    rw[c8 e,b];exact ih
theorem KV.any (r:KV kvs vs)(k:κ):(kvs.any λkv=>decide (kv.1=k))=vs.any λkv=>decide (kv.1=k):=by
 unfold KV at r
 induction r with
 | nil=>rfl
 | cons h t ih=>rw[ON,ON,ih,h.1]
theorem KV.Vo (r:KV kvs vs)(k:κ){y:V}{u:Value}(ry:RelV y u):
 KV (kvs.map λkv=>if kv.1=k then(kv.1,y) else kv) (vs.map λkv=>if kv.1=k then(kv.1,u) else kv):=by
 unfold KV at r ⊢
 induction r with
 | nil=>exact .nil
 | @cons p q ps qs h t ih=>
   rw[Nz,Nz];refine .cons ?_ ih;obtain⟨h1,h2⟩:=h;by_cases e:p.1=k
   ·rw[SS e,SS (h1.symm.trans e)];exact⟨h1,ry⟩
   ·rw[SR e,SR (λz=>e (h1.trans z))];exact⟨h1,h2⟩
theorem KV.put (r:KV kvs vs)(k:κ){y:V}{u:Value}(ry:RelV y u):KV (putK kvs k y) (Rb vs k u):=by
 unfold putK Rb;rw[r.any k];by_cases e:(vs.any λkv=>decide (kv.1=k))=true
 ·rw[SS e,SS e];exact r.Vo k ry
 ·rw[SR e,SR e];exact Paired.snoc r ⟨rfl,ry⟩
theorem KV.length (r:KV kvs vs):kvs.length=vs.length:=Paired.length r
end
section
variable {H:Hp}{kvs:List (List Key×V)}{xs:List (List Key×Addr×Value)}{u:Value}
theorem jr {P:P2}{w:World}{k:Key}(r:RelV (kV k) u):(cg P w).is k u=true:=by
 cases k with
 | inl i=>obtain⟨t,e⟩:=(show∃t,u=Sf i t from r);subst e;exact u6 P w i t
 | inr x=>obtain⟨t,e⟩:=(show∃t,u=Sg x t from r);subst e;exact dC P w x t
theorem qQ {P:P2}{w:World}:∀{ks:List Key}{us:MH},Vals (ks.map kV) us->ItemsAre (cg P w) ks us
 | [],_,r=>by rw[OF] at r;cases r;exact .nil
 | k::ks,_,r=>by
   rw[Nz] at r;cases r with
   | cons h t=>exact .cons (jr h) (qQ t)
abbrev KT (H:Hp):List (List Key×V)->List (List Key×Addr×Value)->Prop:=Paired λp q=>p.1=q.1/\H q.2.1=some (.tup (p.1.map kV))/\RelV p.2 q.2.2
theorem KT.val (r:KT H kvs xs)(k:List Key):iH (cW kvs k) ((atKey xs k).map (·.2)):=by
 induction r with
 | nil=>exact SO
 | @cons p q ps qs h t ih=>
   obtain⟨h1,_,h2⟩:=h;by_cases e:p.1=k
   ·have e':q.1=k:=h1.symm.trans e;have b:atKey (q::qs) k=some q.2:=by simp[atKey,Oj,e']
    rw[dy e,b];exact h2
   ·have e':¬q.1=k:=λz=>e (h1.trans z);have b:atKey (q::qs) k=atKey qs k:=by simp[atKey,Oj,e']
    rw[c8 e,b];exact ih
theorem KT.Vo (r:KT H kvs xs)(k:List Key){y:V}(ry:RelV y u):
 KT H (kvs.map λkv=>if kv.1=k then(kv.1,y) else kv) (xs.map (putAt k u)):=by
 induction r with
 | nil=>exact .nil
 | @cons p q ps qs h t ih=>
   rw[Nz,Nz];refine .cons ?_ ih;obtain⟨h1,h2,h3⟩:=h;unfold putAt;by_cases e:p.1=k
   ·rw[SS e,SS (h1.symm.trans e)];exact⟨h1,h2,ry⟩
   ·rw[SR e,SR (λz=>e (h1.trans z))];exact⟨h1,h2,h3⟩
theorem KT.put (r:KT H kvs xs)(k:List Key){b:Addr}{y:V}(hb:H b=some (.tup (k.map kV)))(ry:RelV y u):
 KT H (putK kvs k y) (storedH xs k b u):=by
 have e:(kvs.any λkv=>decide (kv.1=k))=(atKey xs k).isSome:=by
  rw[gI,(r.val k).i8,Px]
 unfold putK storedH;rw[e];by_cases q:(atKey xs k).isSome=true
 ·rw[SS q,SS q];exact r.Vo k ry
 ·rw[SR q,SR q];exact Paired.snoc r ⟨rfl,hb,ry⟩
theorem KT.keeps {H':Hp}(r:KT H kvs xs)(ht:∀b ys,H b=some (.tup ys)->H' b=some (.tup ys)):KT H' kvs xs:=
 Paired.AK r λ_ _ z=>⟨z.1,ht _ _ z.2.1,z.2.2⟩
end
section
variable {P:P2}{w:World}{H:Hp}{h:Heap}{a:Addr}
theorem BF {u:HO}(ok:d7 P w H h)(e:Rd H a u):cQ P w H h a u:=e.ok ok
theorem nv {kvs:List (Key×V)}(ok:d7 P w H h)(e:Rd H a (.dK kvs)):kvs.length<=PZ/\(a==Qk)=false/\∃vs,KV kvs vs/\h.DictOf (cg P w) a vs:=
 show cQ P w H h a (.dK kvs) from BF ok e
theorem xf {kvs:List (Key×V)}(ok:d7 P w H h)(e:H a=some (.dK kvs)):kvs.length<=PZ/\(a==Qk)=false/\∃vs,KV kvs vs/\h.DictOf (cg P w) a vs:=nv ok (.inl e)
theorem mC {ks:List Key}(ok:d7 P w H h)(e:H a=some (.tup (ks.map kV))):(Q4 (cg P w)).is h ks a:=by
 obtain⟨_,S5,r,o,h1,h2,n,h3⟩:=(show cQ P w H h a (.tup (ks.map kV)) from ok a _ e);exact⟨o,S5.toArray,n,h1,h2,h3,by simpa using qQ r⟩
theorem pP {kvs:List (List Key×V)}(ok:d7 P w H h)(e:Rd H a (.dT kvs)):kvs.length<=PZ/\(a==Qk)=false/\
 ∃xs,KT H kvs xs/\h.DictOfH (Q4 (cg P w)) a xs:=by
 obtain⟨z,y,xs,r,o,es,ep,h1,h2,h3,h4,h5⟩:=(show cQ P w H h a (.dT kvs) from BF ok e);refine⟨z,y,xs,r,o,es,ep,h1,h2,h3,h4,λx hx=>?_,h5⟩;have all:∀{l:List (List Key×V)}{m:List (List Key×Addr×Value)},KT H l m->∀x∈m,(Q4 (cg P w)).is h x.1 x.2.1:=by
  intro l m q
  induction q with
  | nil=>intro x hx;exact nomatch hx
  | @cons p q ps qs hq t ih=>
    intro x hx;rcases Nd.mp hx with e | hx
    ·subst e;exact mC ok (by rw[← hq.1];exact hq.2.1)
    ·exact ih x hx
 exact all r x hx
theorem Kc {kvs:List (List Key×V)}(ok:d7 P w H h)(e:H a=some (.dT kvs)):kvs.length<=PZ/\(a==Qk)=false/\
 ∃xs,KT H kvs xs/\h.DictOfH (Q4 (cg P w)) a xs:=pP ok (.inl e)
end
def gH (H:Hp)(a:Addr)(y:V)(r:Option V):Prop:=
 (∃kvs k,Rd H a (.dK kvs)/\y=kV k/\r=cW kvs k)∨∃kvs k b,Rd H a (.dT kvs)/\y= .ref b/\H b=some (.tup (k.map kV))/\r=cW kvs k
def n6 (H:Hp)(a:Addr)(y v:V)(H':Hp):Prop:=
 (∃kvs k,H a=some (.dK kvs)/\y=kV k/\kvs.length<PZ/\H'=upd H a (.dK (putK kvs k v)))∨
 ∃kvs k b,H a=some (.dT kvs)/\y= .ref b/\H b=some (.tup (k.map kV))/\kvs.length<PZ/\H'=upd H a (.dT (putK kvs k v))
theorem gH.k {H:Hp}{a:Addr}{kvs:List (Key×V)}{k:Key}(e:H a=some (.dK kvs)):gH H a (kV k) (cW kvs k):=.inl ⟨kvs,k,.inl e,rfl,rfl⟩
theorem n6.k {H:Hp}{a:Addr}{kvs:List (Key×V)}{k:Key}{v:V}(e:H a=some (.dK kvs))(hl:kvs.length<PZ):n6 H a (kV k) v (upd H a (.dK (putK kvs k v))):=.inl ⟨kvs,k,e,rfl,hl,rfl⟩
section
variable {X:Cx}{S3:MB}{σ:St}{H:Hp}{s:PX}{a:Addr}{y v:V}{u r:Value}{o:Option V}{A:P7}{E:Value->PX->Prop}
variable {Q:Value->PX->Prop}
theorem Inv.big (I:Inv X S3 σ H s):Qk<s.heap.objs.size:=by
 have h:P1<s.heap.objs.size:=(I.mod.glob.keeps I.bk).lt;exact Nat.lt_trans (by decide) h
theorem yD (hu:A.units+1<cLine)(I:Inv X S3 σ H s)(g:gH H a y (some v))(ry:RelV y u)(h:∀w' s',Inv X S3 σ H s'->RelV v w'->Q w' s'):
 wpAny (model X.prog X.w) A (QL (.ref a) u) Q E s:=by
 rcases g with⟨kvs,k,e,ey,l⟩ | ⟨kvs,k,b,e,ey,eb,l⟩
 ·subst ey;obtain⟨z,hd,vs,rel,dd⟩:=nv I.S8 e;obtain⟨w',hw,VL⟩:=iH.some_of (v:=v) (o:=Qo vs k) (by rw[l];exact rel.val k);exact wpAny_getItem_of (jr ry) dd.mapOf hw (h w' _ (I.tok _) VL)
 ·subst ey;cases (show u=Sd b from ry)
  obtain⟨z,hd,xs,rel,dd⟩:=pP I.S8 e;obtain⟨w',hw,VL⟩:=iH.some_of (v:=v) (o:=(atKey xs k).map (·.2)) (by rw[l];exact rel.val k);obtain⟨p,hp,VT⟩:=Pt.mp hw;refine wpAny_getItem_heap (QK hu) (mC I.S8 eb) dd hp ?_;rw[VT];exact h w' _ (I.tok _) VL
theorem Ms (hu:A.units+1<cLine)(I:Inv X S3 σ H s)(g:gH H a y o)(ry:RelV y u)(h:∀s',Inv X S3 σ H s'->Q (.bool o.isSome) s'):
 wpAny (model X.prog X.w) A (Qd .In u (.ref a)) Q E s:=by
 rcases g with⟨kvs,k,e,ey,l⟩ | ⟨kvs,k,b,e,ey,eb,l⟩
 ·subst ey;obtain⟨z,hd,vs,rel,dd⟩:=nv I.S8 e;refine wpAny_in_of (jr ry) hd dd.mapOf ?_;rw[← (rel.val k).i8,← l];exact h _ (I.tok _)
 ·subst ey;cases (show u=Sd b from ry)
  obtain⟨z,hd,xs,rel,dd⟩:=pP I.S8 e;refine wpAny_in_heap (QK hu) (mC I.S8 eb) hd dd ?_;have q:=(rel.val k).i8;rw[Px] at q;rw[← q,← l];exact h _ (I.tok _)
theorem Dd (hu:A.units+1<cLine)(I:Inv X S3 σ H s)(g:gH H a y o)(ry:RelV y u)(h:∀s',Inv X S3 σ H s'->Q (.bool (!o.isSome)) s'):
 wpAny (model X.prog X.w) A (Qd .NotIn u (.ref a)) Q E s:=by
 rcases g with⟨kvs,k,e,ey,l⟩ | ⟨kvs,k,b,e,ey,eb,l⟩
 ·subst ey;obtain⟨z,hd,vs,rel,dd⟩:=nv I.S8 e;refine wpAny_notIn_of (jr ry) hd dd.mapOf ?_;rw[← (rel.val k).i8,← l];exact h _ (I.tok _)
 ·subst ey;cases (show u=Sd b from ry)
  obtain⟨z,hd,xs,rel,dd⟩:=pP I.S8 e;refine wpAny_notIn_heap (QK hu) (mC I.S8 eb) hd dd ?_;have q:=(rel.val k).i8;rw[Px] at q;rw[← q,← l];exact h _ (I.tok _)
theorem mY {h':Heap}{t':Nat}{ob:HO}(I:Inv X S3 σ H s)(mu:zy (H a))(hs:RR a s.heap h')(he:∃q,h'.get? a=some q)(new:cQ X.prog X.w (upd H a ob) h' a ob):
 Inv X S3 σ (upd H a ob) {s with heap:=h',toks:=t'}:=
 I.write (x:=a) (e:=a) mu (.inl rfl) (λb q hb z=>(hs.2 b hb).trans z) he new
theorem rW {P:P2}{w:World}{H':Hp}{h':Heap}{kvs:List (Key×V)}{vs:List (Key×Value)}(z:kvs.length<=PZ)(hd:(a==Qk)=false)(rel:KV kvs vs)(dd:h'.DictOf (cg P w) a vs):
 cQ P w H' h' a (.dK kvs):=⟨z,hd,vs,rel,dd⟩
theorem yP {H':Hp}{Q:Unit->PX->Prop}(hu:A.units+1<cLine)(I:Inv X S3 σ H s)(g:n6 H a y v H')(ry:RelV y u)(rv:RelV v r)(h:∀s',Inv X S3 σ H' s'->Q () s'):
 wpAny (model X.prog X.w) A (setItem (.ref a) u r) Q E s:=by
 rcases g with⟨kvs,k,e,ey,l,eH⟩ | ⟨kvs,k,b,e,ey,eb,l,eH⟩
 ·subst ey eH;obtain⟨z,hd,vs,rel,dd⟩:=xf I.S8 e;have hz:vs.length<=PZ:=by rw[← rel.length];exact z
  have hl:(putK kvs k v).length<=PZ:=by have:=kI kvs k v;omega
  refine wpAny_setItem_pairs (hsz:=hz) (jr ry) dd λh' VH hs=>h _ ?_;have he:∃q,h'.get? a=some q:=let ⟨q,_,_,hq,_⟩:=VH;⟨q,hq⟩;exact mY I (by rw[e];exact SO) hs he (rW hl hd (rel.put k rv) VH)
 ·subst ey eH;cases (show u=Sd b from ry)
  obtain⟨z,hd,xs,rel,dd⟩:=Kc I.S8 e;have hz:xs.length<=PZ:=by rw[← Paired.length rel];exact z
  have hl:(putK kvs k v).length<=PZ:=by have:=kI kvs k v;omega
  refine wpAny_setItem_heap (hsz:=hz) (QK hu) (mC I.S8 eb) dd λh' VH hs=>h _ ?_;obtain⟨q,es,ep,hq,h2,h3,h4,_,h5⟩:=VH;refine mY I (by rw[e];exact SO) hs ⟨q,hq⟩ ⟨hl,hd,_,(rel.put k eb rv).keeps λc ys ec=>?_,q,es,ep,hq,h2,h3,h4,h5⟩;rw[aG (JD ec e (λz=>nomatch z))];exact ec
end
section
variable {X:Cx}{S3:MB}{σ:St}{H:Hp}{s:PX}{a:Addr}{kvs:List (Key×V)}{k:Key}{u:Value}{A:P7}{E:Value->PX->Prop}
theorem Kq {Q:Value->PX->Prop}(I:Inv X S3 σ H s)(e:Rd H a (.dK kvs))(h:∀t s',Inv X S3 σ H s'->Q (.int kvs.length t) s'):wpAny (model X.prog X.w) A (call (.builtin "len") [.ref a]) Q E s:=by
 obtain⟨z,hd,vs,rel,dd⟩:=nv I.S8 e;refine call_len_dict hd dd (by rw[← rel.length];rw[QW] at z;omega) ?_;rw[← rel.length];exact h _ _ (I.tok _)
end
def Aj (i:Expr):Prop:=∀ov iv,Q7 i false ov iv=operate [ov,iv] (QL ov iv)
theorem Dx {prog:P2}{w:World}{A:P7}{E:Value->PX->Prop}{s:PX}{env:Env}{value slice:Expr}{pos:Pos}{T id:String}{Q:Value->PX->Prop}(hl:typeLookup (.type T) "__getitem__"=pure (some (.builtin id)))(hs:Aj slice)(h:wpAny (model prog w) A (eval value env) (λo s₁=>wpAny (model prog w) A (eval slice env) (λi s₂=>s₂.TypeIs o T/\wpAny (model prog w) A (QL o i) Q E s₂) E s₁) E s):
 wpAny (model prog w) A (eval (.Subscript value slice pos) env) Q E s:=by
 refine Subscript_ (Qj h (λo s₁ h₁=>Qj h₁ (λi s₂ h₂=>?_) λ_ _ x=>x) λ_ _ x=>x);obtain⟨hT,h₂⟩:=h₂;unfold PR;refine P0 ?_;rw[getitemInPython_of_ne hT.not_modules];refine P0 (wpAny_specialOf hT hl ?_);have fin:wpAny (model prog w) A (Q7 slice false o i) (λr s₃=>wpAny (model prog w) A (letTemporaryGo value o r >>=λ_=>pure r) Q E s₃) E s₂:=by
  rw[hs o i];exact wpAny_operating (Qj h₂ (λr s₃ h₃=>P0 (wpAny_letTemporaryGo (P4 h₃))) λ_ _ x=>x)
 first
  | exact P4 (P0 fin)
  | exact P0 (P4 (P0 fin))
  | exact P0 fin
theorem uY {X:Cx}{S3:MB}{σ:St}{H:Hp}{s:PX}{a:Addr}{y:V}{o:Option V}(I:Inv X S3 σ H s)(g:gH H a y o):s.TypeIs (.ref a) "dict":=by
 rcases g with⟨kvs,k,e,_,_⟩ | ⟨kvs,k,b,e,_,_,_⟩
 ·obtain⟨_,_,vs,_,dd⟩:=nv I.S8 e;exact dd.typeIs
 ·obtain⟨_,_,xs,_,dd⟩:=pP I.S8 e;exact dd.typeIs
def JG (td ty:TE):TE:=λσ H Q=>td σ H λx H1=>ty σ H1 λy H2=>∃a v,x= .ref a/\gH H2 a y (some v)/\Q v H2
def My (ty td:TE):TE:=λσ H Q=>ty σ H λy H1=>td σ H1 λx H2=>∃a o,x= .ref a/\gH H2 a y o/\Q (.bl o.isSome) H2
def Eh (ty td:TE):TE:=λσ H Q=>ty σ H λy H1=>td σ H1 λx H2=>∃a o,x= .ref a/\gH H2 a y o/\Q (.bl (!o.isSome)) H2
def Jt (td ty tv:TE):TS:=λD σ H=>tv σ H λv H1=>td σ H1 λx H2=>ty σ H2 λy H3=>∃a H4,x= .ref a/\n6 H3 a y v H4/\D.nx σ H4
section
variable {X:Cx}{o i e value:Expr}{pos pos' tpos:Pos}{td ty tv:TE}
theorem Dc (hu:X.A.units+1<cLine)(ho:PE X o td)(hi:PE X i ty)(hs:Aj i):PE X (.Subscript o i pos) (JG td ty):=by
 intro S3 s σ H Q I h;refine Dx PySem.F.slot_dict_getitem.lookup hs (aW (ho S3 s σ H _ I h) λu s1 ⟨x,H1,I1,rx,q1⟩=>aW (hi S3 s1 σ H1 _ I1 q1) λiv s2 ⟨y,H2,I2,ry,a,v,ex,g,q2⟩=>?_);subst ex;obtain rfl:u=Sd a:=rx;exact⟨uY I2 g,yD hu I2 g ry λw' s3 I3 VL=>⟨v,H2,I3,VL,q2⟩⟩
theorem Hk (hu:X.A.units+1<cLine)(hi:PE X i ty)(ho:PE X o td):PC X .In i o (My ty td):=by
 intro S3 s σ H Q I h;refine aW (hi S3 s σ H _ I h) λiv s1 ⟨y,H1,I1,ry,q1⟩=>aW (ho S3 s1 σ H1 _ I1 q1) λu s2 ⟨x,H2,I2,rx,a,ov,ex,g,q2⟩=>?_;subst ex;obtain rfl:u=Sd a:=rx;exact Ms hu I2 g ry λs3 I3=>⟨.bl ov.isSome,H2,I3,rfl,q2⟩
theorem kq (hu:X.A.units+1<cLine)(hi:PE X i ty)(ho:PE X o td):PC X .NotIn i o (Eh ty td):=by
 intro S3 s σ H Q I h;refine aW (hi S3 s σ H _ I h) λiv s1 ⟨y,H1,I1,ry,q1⟩=>aW (ho S3 s1 σ H1 _ I1 q1) λu s2 ⟨x,H2,I2,rx,a,ov,ex,g,q2⟩=>?_;subst ex;obtain rfl:u=Sd a:=rx;exact Dd hu I2 g ry λs3 I3=>⟨.bl (!ov.isSome),H2,I3,rfl,q2⟩
theorem qv (hu:X.A.units+1<cLine)(ho:PE X o td)(hi:PE X i ty)(hv:PE X value tv)(hs:P9 value (some (.Subscript o i pos')) pos.line X.env=pure false):
 PS X (.Assign [.Subscript o i pos'] value pos) (Jt td ty tv):=by
 intro S3 s σ H D I h;refine wpAny_Assign_Subscript (aW (hv S3 s σ H _ I h) λr s1 ⟨v,H1,I1,rv,q1⟩=>aW (ho S3 s1 σ H1 _ I1 q1) λu s2 ⟨x,H2,I2,rx,q2⟩=>aW (hi S3 s2 σ H2 _ I2 q2) λiv s3 ⟨y,H3,I3,ry,a,H4,ex,g,q3⟩=>?_) hs;subst ex;obtain rfl:u=Sd a:=rx;exact yP hu I3 g ry rv λs4 I4=>⟨σ,H4,I4,q3⟩
end
theorem uC {P:P2}{w:World}{H:Hp}(h:Heap)(hb:Qk<h.objs.size):cQ P w H (h.push {cls:=.type "dict",data:=.dict #[]}) h.objs.size (.dK []):=
 ⟨O3 _,beq_eq_false_iff_ne.mpr (Pr (O5 hb)),[],.nil,Heap.DictOf.new h⟩
def F7:TE:=λ_ H Q=>∀p,H p=none->Q (.ref p) (upd H p (.dK []))
variable {X:Cx}{pos:Pos}
theorem A9:PE X (.Dict [] [] pos) F7:=λS3 s σ H Q I h=>
 wpAny_Dict_empty ⟨.ref s.heap.objs.size,_,I.laid (a:=s.heap.objs.size) (o:=.dK []) (t':=s.toks) (λ_ _ q=>RM _ q) (O0 _) (uC s.heap I.big),rfl,h _ (I.S8.fresh (O0 _))⟩
def uz:List (TE×TE)->St->Hp->(List (V×V)->Hp->Prop)->Prop
 | [],_,H,Q=>Q [] H
 | (tk,tv)::r,σ,H,Q=>tk σ H λx H1=>tv σ H1 λy H2=>uz r σ H2 λps H3=>Q ((x,y)::ps) H3
abbrev VV:List (V×V)->List (Value×Value)->Prop:=Paired λp q=>RelV p.1 q.1/\RelV p.2 q.2
def CJ (X:Cx)(pos:Pos)(keys:List (Option Expr))(values:MI)(VI:List (TE×TE)):Prop:=
 ∀(S3:MB)(s:PX)(σ:St)(H:Hp)(Q:List (V×V)->Hp->Prop),Inv X S3 σ H s->uz VI σ H Q->
  wpAny (model X.prog X.w) X.A (evalPairs (pairTrees keys values X.env pos)) (λvs s'=>∃ps H',Inv X S3 σ H' s'/\VV ps vs/\Q ps H') X.xe s
theorem Es:CJ X pos [] [] []:=λS3 s σ H Q I h=>pairTrees_nil_walk ⟨[],H,I,.nil,h⟩
theorem uB {k v:Expr}{ks:List (Option Expr)}{vs:MI}{tk tv:TE}{VI:List (TE×TE)}(hk:PE X k tk)(hv:PE X v tv)(hr:CJ X pos ks vs VI):
 CJ X pos (some k::ks) (v::vs) ((tk,tv)::VI):=λS3 s σ H Q I h=>
 pairTrees_cons_walk (aW (hk S3 s σ H _ I h) λu s1 ⟨x,H1,I1,rx,q1⟩=>aW (hv S3 s1 σ H1 _ I1 q1) λw2 s2 ⟨y,H2,I2,ry,q2⟩=>
  aW (hr S3 s2 σ H2 _ I2 q2) λws s3 ⟨ps,H3,I3,rel,q3⟩=>⟨(x,y)::ps,H3,I3,.cons ⟨rx,ry⟩ rel,q3⟩)
def lj (kvs more:List (Key×V)):List (Key×V):=more.foldl (λacc kv=>putK acc kv.1 kv.2) kvs
theorem KV.merge:∀{more:List (Key×V)}{rs:List (Key×Value)}{kvs:List (Key×V)}{vs:List (Key×Value)},KV more rs->KV kvs vs->KV (lj kvs more) (merged vs rs):=by
 intro more rs kvs vs r;unfold KV at r
 induction r generalizing kvs vs with
 | nil=>intro q;exact q
 | @cons p q ps qs h t ih=>
   intro r0;have e:KV (putK kvs p.1 p.2) (Rb vs q.1 q.2):=by
    have:=r0.put p.1 h.2;rw[← h.1];exact this
   exact ih e
theorem mf:∀(more kvs:List (Key×V)),(lj kvs more).length<=kvs.length+more.length
 | [],kvs=>by show kvs.length<=kvs.length+0;omega
 | p::r,kvs=>by
   have h1:=mf r (putK kvs p.1 p.2);have h2:=kI kvs p.1 p.2;show(lj (putK kvs p.1 p.2) r).length<=_;rw[Nf];omega
theorem oX {P:P2}{w:World}:∀{kvs:List (Key×V)}{ws:List (Value×Value)},VV (kvs.map λkv=>(kV kv.1,kv.2)) ws->∃rs,Carries (cg P w) ws rs/\KV kvs rs
 | [],_,r=>by rw[OF] at r;cases r;exact⟨[],SO,.nil⟩
 | p::kvs,_,r=>by
   rw[Nz] at r;cases r with
   | @cons a b as bs h t=>
     obtain⟨rs,c,q⟩:=oX (P:=P) (w:=w) t;obtain⟨b1,b2⟩:=b;exact⟨(p.1,b2)::rs,⟨jr h.1,rfl,c⟩,.cons ⟨rfl,h.2⟩ q⟩
def Kr (VI:List (TE×TE)):TE:=λσ H Q=>∀p,H p=none->uz VI σ (upd H p (.dK [])) λps H2=>H2 p=some (.dK [])/\∃kvs:List (Key×V),ps=kvs.map (λkv=>(kV kv.1,kv.2))/\kvs.length<=15/\Q (.ref p) (upd H2 p (.dK (lj [] kvs)))
theorem D4 {keys:List (Option Expr)}{values:MI}{VI:List (TE×TE)}(h:CJ X pos keys values VI)(WN:keys.all (·.isSome)=true)(hl:keys.length=values.length)(h0:keys≠[])(h15:keys.length<=15):PE X (.Dict keys values pos) (Kr VI):=by
 intro S3 s σ H Q I q;have hn:=I.S8.fresh (O0 s.heap.objs.size);have I1:=I.laid (a:=s.heap.objs.size) (o:=.dK []) (h':=s.heap.push {cls:=.type "dict",data:=.dict #[]}) (t':=s.toks) (λ_ _ q=>RM _ q) (O0 _) (uC s.heap I.big);refine wpAny_Dict_walk (knd:=cg X.prog X.w) WN hl h0 h15 (aW (h S3 _ σ _ _ I1 (q _ hn)) λws s2 ⟨ps,H2,I2,rel,e,kvs,ep,lk,q2⟩=>?_);subst ep;obtain⟨rs,c,rk⟩:=oX (P:=X.prog) (w:=X.w) rel;obtain⟨z,hd,Xc,r0,dd⟩:=xf I2.S8 e;cases r0
 refine⟨rs,c,dd,λh' VH hs=>⟨.ref s.heap.objs.size,_,?_,rfl,q2⟩⟩;have hz:(lj [] kvs).length<=PZ:=by
  have h1:=mf kvs [];rw[Nr] at h1;rw[QW];omega
 have he:∃q,h'.get? s.heap.objs.size=some q:=let ⟨q,_,_,hq,_⟩:=VH;⟨q,hq⟩;exact mY I2 (by rw[e];exact SO) hs he (rW hz hd (rk.merge .nil) VH)
structure M2 (X:Cx)(o:Expr)(m:Str)(apos:Pos)(e f:Expr)(Ue:Pos):Prop where
 base:P6 o m X.env (eval o X.env)=eval o X.env
 few:((P8 Ue (PU [e,f] X.env)).all (λx=> !x.1)&&(Qy Ue (Qm [] X.env)).all (λx=>x.1.isSome)
  &&decide (([e,f]:MI).length+([]:List Qc).length+(if([]:List Qc).isEmpty then 0 else 1)<30))=true
 line:(apos.endLine==Ue.line)=true
 trees:P8 Ue (PU [e,f] X.env)=[(false,eval e X.env),(false,eval f X.env)]
section
variable {X:Cx}{S3:MB}{σ:St}{H:Hp}{s:PX}{a:Addr}{y d:V}{u r:Value}{o:Option V}{A:P7}{E:Value->PX->Prop}
end
section
variable {X:Cx}{o e f:Expr}{apos Ue:Pos}{td ty tx:TE}
end
section
variable {X:Cx}{S3:MB}{σ:St}{H:Hp}{s:PX}{a:Addr}{kvs:List (Key×V)}{A:P7}{E:Value->PX->Prop}
end
section
variable {X:Cx}{S3:MB}{σ:St}{H:Hp}{s:PX}{a:Addr}{y:V}{u:Value}{A:P7}{E:Value->PX->Prop}
end
end L2
namespace Att
open PySem PySem.W PySem.Calls PyProof.Rows
theorem oJ {P:Params}{h:Heap}:∀(ns:MC)(vs:MH),WellAll P h vs (ns.map WData.int)->IntsAre vs ns:=by
 intro ns
 induction ns with
 | nil=>
   intro vs w;rw[OF] at w;cases w
   exact .nil
 | cons n ns ih=>
   intro vs w;rw[Nz] at w;cases w with
   | cons a b=>
     cases a
     exact .cons _ _ (ih _ b)
theorem y8 {l:OpenLaw}{n:Nat}(hn:l.most=some n){P:Params}{h:Heap}{args:List WData}{vals:MH}(VS:l.row.toRowW.claim.pre args=true)(hwl:WellAll P h vals args):
 ∃a vs ns,vals=[Sd a]/\args=[WData.list (ns.map WData.int)]/\h.get? a=some {cls:=.type "list",data:=.seq vs.toArray}/\IntsAre vs ns/\ns.length<=n:=by
 have hsh:WShape.hasAll [] args [.list .int]=true:=(pre_splitW VS).1;have hc:l.pre.holds [] {args:=args}=true:=(pre_splitW VS).2;obtain⟨d,r,rfl,h1,h2⟩:=hasAllW_cons hsh;obtain rfl:=hasAllW_nil h2;obtain⟨xs,rfl,h3⟩:=hasW_list h1;obtain⟨ns,rfl⟩:=items_int h3;have hlen:ns.length<=n:=by
  unfold OpenLaw.pre at hc;have h4:(WTm.not (.lt (.lit (.int (n:Int))) (.len (.arg 0)))).holds [] {args:=[.list (ns.map .int)]}=true:=by
   have h4:=(holds_andW hc).1;rw[hn] at h4;exact h4
  have h5:=condW_of h4 (w_not (w_lt w_lit (w_len_list (w_arg rfl))));rw[M8] at h5;refine Nat.le_of_not_lt λq=>?_;have q':(n:Int)<((ns.length:Nat):Int):=by omega
  first
   | (rw[decide_eq_true q'] at h5;exact SQ h5 (by decide))
   | (simp at h5;omega)
 cases hwl with
 | cons w1 w2=>
   cases w2
   cases w1 with
   | list ho WN=>exact⟨_,_,ns,rfl,rfl,ho,oJ ns _ WN,hlen⟩
theorem yB (l:OpenLaw)(args:List WData):l.row.toRowW.claim.post args (.bool true) args=true:=
 postW_of (r:=l.row.toRowW) (X:=(true==true))
  (show WShape.has [] (.bool true) .bool=true by first | rfl | decide | simp[WShape.has,WShape.arms,WShape.armsAll])
  (show(WTm.eq .res (.lit (.bool true))).value [] {args:=args,res:=some (.bool true),after:=args}=some (.bool (true==true)) from w_eq_bool (w_res rfl) w_lit) rfl
section
variable {prog:P2}{w:World}{A:P7}{E:Value->PX->Prop}{s:PX}{K:Frag}
end
end Att
namespace L2
open PySem PySem.Spec PyProof.Rows
theorem qW:∀{vs:MH}{ns:MC},IntsAre vs ns->Vals (ns.map V.int) vs
 | _,_,.nil=>.nil
 | _,_,.cons n t h=>.cons ⟨t,rfl⟩ (qW h)
def Bx (H:Hp):Prop:=∀b,H b=none∨∃o xs,H b=some (.Ul o (.lst xs))
theorem AO {P:P2}{w:World}{K:Sk}{mg mb:MA}{CX:l7}{k:Nat}{fa a:Addr}{fd:Qa}{x:Str}{sp:Sp}{s₁:PX}{vs:MH}{ns:MC}(KX:K.In s₁.heap)(hns:s₁.heap.Ns P1 mg)(hb:s₁.heap.Ns builtinsNs mb)(hbb:∀x:Str,x≠"__name__"->mb x=Qs x)(hlim:s₁.heap.NoLimit)(hg:s₁.gens= #[])(ha:s₁.heap.get? a=some {cls:=.type "list",data:=.seq vs.toArray})(hi:IntsAre vs ns)(hl:ns.length<=PZ)(hr:bI k Q2)(F:∀base:Heap,K.In base->base.Ns P1 mg->d6 P w K mg base CX k fa fd [x] sp)(XS:∀(s:PX)(u:Value),Ra s fd ⟨[u],[]⟩ [(x,u)])(Vg:∀H:Hp,Bx H->aY K H a (ns.map V.int)->sp [.ref a] H (λv _=>v= .bl true) λ_ _ _=>False)(hCX:∀H e s',CX [] H s₁ (λ_ _ _=>False) e s'->False):
 QU (model P w) Q2 (.call (.ref fa) ⟨[.ref a],[]⟩) (λr s'=>r= .ok (.ret (.bool true))/\OldK s₁.heap s'.heap/\s'.os=s₁.os/\PN s'.gens) s₁:=by
 have rv:=qW hi;have lenV:=hi.length
 -- from an abstract heap in which nothing but Xe Ws may be tracked
 have core:∀H:Hp,Bx H->aY K H a (ns.map V.int)->d7 P w H s₁.heap->(∀b,H b≠none->b=a)->(H a≠none->K.lookup a=none)->
  QU (model P w) Q2 (.call (.ref fa) ⟨[.ref a],[]⟩) (λr s'=>r= .ok (.ret (.bool true))/\OldK s₁.heap s'.heap/\s'.os=s₁.os/\PN s'.gens) s₁:=by
  intro H hO hS S8 hA hK;have base_of:∀{b:Addr}{o:Obj},s₁.heap.get? b=some o->H b=none->(lK s₁.heap H).get? b=some o:=λe n=>AE e n;have Xl:∀{b:Addr}{o:Obj}{es:Array DictEntry}{ep:Nat},s₁.heap.get? b=some o->o.data= .dict es ep->H b=none:=λ{b o es ep} e d=>by
   cases q:H b with
   | none=>rfl
   | some u=>
     have e':b=a:=hA b (by rw[q];simp);subst e';rw[ha] at e;cases e
     have d':Data.seq vs.toArray _=Data.dict es ep:=d;cases d'
  have nsK:∀{b:Addr}{m:MA},s₁.heap.Ns b m->(lK s₁.heap H).Ns b m:=λ{b m} ⟨o,es,ep,e,d,r⟩=>⟨o,es,ep,base_of e (Xl e d),d,r⟩;have hKb:K.In (lK s₁.heap H):=λb o e=>base_of (KX b o e) (by
   cases q:H b with
   | none=>rfl
   | some u=>
     have e':b=a:=hA b (by rw[q];simp);subst e';rw[hK (by rw[q];simp)] at e;cases e)
  have hM:Mod K mg (lK s₁.heap H):=⟨hKb,nsK hns,⟨mb,nsK hb,hbb⟩,let ⟨mc,h1,h2⟩:=hlim;⟨mc,nsK h1,h2⟩⟩;have e0:om P w K mg (lK s₁.heap H) Q2 [] s₁ H:=⟨rfl,hM,λb o e=>CY e,Pp (xY _ _),trivial,λb hb=>SQ (show b∈([]:MG) from hb) (by simp),S8,.of_eq hg⟩;refine Q3 ((F _ hKb (nsK hns)).run Q2 [] s₁ H ⟨[.ref a],[]⟩ [.ref a] [.ref a] _ _ hr e0 (XS s₁ (.ref a)) (.cons rfl .nil) (Vg H hO hS)) λr s' h=>?_;cases r with
  | error e=>exact(hCX H e s' h).elim
  | ok fl=>
    cases fl with
    | next=>exact MT h
    | brk=>exact MT h
    | cont=>exact MT h
    | ret u=>
      obtain⟨v,H',os,bare,un,hok',r',q⟩:=h;have q':v= .bl true:=q;subst q';obtain rfl:u=Sh true:=r';refine⟨rfl,OldK.of_keep λb o e=>?_,os,bare⟩;cases q:H b with
      | none=>exact un.keep b o e q (by intro z;exact SQ (show b∈([]:MG) from z) (by simp)) (by simp)
      | some u=>
        rcases hO b with z | ⟨ob,xs,z⟩
        ·rw[q] at z;cases z
        ·have z2:=un.Uu b ob _ z;obtain⟨e1,_⟩:=S8 b _ z;obtain⟨e2,_⟩:=hok' b _ z2;rw[e] at e1;cases e1
         exact e2
 cases hk:K.lookup a with
 | some o=>
   -- Xe Ws is one of Xe Xp own objects
   have e:=KX a o hk;rw[ha] at e;cases e
   refine core (λ_=>none) (λ_=>.inl rfl) (.inr ⟨_,vs.toArray,_,hk,rfl,rfl,rfl,by rw[Nm,lenV];exact hl,by simpa using rv⟩) (λb u z=>by have z':(none:Option HO)=some u:=z;cases z') (λb z=>SQ rfl z) λz=>SQ rfl z
 | none=>
   refine core (λb=>if b=a then some (.Ul {cls:=.type "list",data:=.seq vs.toArray} (.lst (ns.map V.int))) else none) (λb=>?_) (.inl (.inr ⟨{cls:=.type "list",data:=.seq vs.toArray},SS rfl⟩)) (λb u z=>?_) (λb z=>?_) λ_=>hk
   ·by_cases hb:b=a
    ·exact .inr ⟨_,_,SS hb⟩
    ·exact .inl (SR hb)
   ·by_cases hb:b=a
    ·have z':=(SS hb).symm.trans z;cases z'
     subst hb;exact⟨ha,by rw[M8];exact hl,vs,_,rv,ha⟩
    ·have z':=(SR hb).symm.trans z;cases z'
   ·by_cases hb:b=a
    ·exact hb
    ·exact SQ (SR hb) z
abbrev nD {K:Sk}{h:Heap}(_:K.In h):Sk:=K
def cR (s:Stmt):Arguments:=match s with
 | .FunctionDef _ a _ _ _ _ _ _ _ _=>a
 | _=>{posonlyargs:=[],args:=[],vararg:=none,kwonlyargs:=[],kw_defaults:=[],kwarg:=none,defaults:=[]}
def br (s:Stmt):List Stmt:=match s with
 | .FunctionDef _ _ b _ _ _ _ _ _ _=>b
 | _=>[]
def ao (s:Stmt):Scope:=match s with
 | .FunctionDef _ _ _ _ _ _ sc _ _ _=>sc
 | _=>{kind:=.function,names:=[],isGenerator:=false,isCoroutine:=false}
abbrev d8:l7:=λ_ _ _ _ _ _=>False
abbrev E0:XK:=λ_ _ _=>False
theorem kj {X:Cx}:Passes d8 X E0:=λ_ _ _ _ _ _ _ h=>h.elim
structure dQ (K:Sk)(x qual:Str)(st:Stmt)(f:Addr)(fd:Qa):Prop where
 ex:∃(oc:Value)(od:Option Addr)(kV doc pm:Value)(an:Option Addr)(S6 ct:Value)(UL:Array MF),
  fd=So x qual (cR st) (br st) (ao st) .none kV doc pm an S6 ct/\K.lookup f=some ⟨oc,od,.func fd,UL⟩/\Su K S6 qual=true
 kp:Sq K (.ref f)=true
section
variable {P:P2}{w:World}{K:Sk}{mg:MA}{base:Heap}
variable {x qual:Str}{st:Stmt}{f:Addr}
theorem dQ.ok {fd:Qa}{N ps:ME}{k:Nat}{sp:Sp}(F:dQ K x qual st f fd)(S:aN N ps (ao st))(len:∀vs H Q E,sp vs H Q E->vs.length=ps.length)(TB:∀(S6:Value)(A:P7)(outer:List Env)(s:PX)(H:Hp)(vs:List V)(Q:VK)(E:XK),bI k (A.deeper (PK qual (ao st) s.heap.objs.size f S6))->sp vs H Q E->
  ∃t,jJ (eN d8 P w K mg base N qual (ao st) f S6 A outer s H E).iq (br st) t/\t {nx:=λ_ H'=>Q .Tf H',rt:=Q} (start N vs) H):d6 P w K mg base d8 (k+1) f fd ps sp:=by
 obtain⟨oc,od,kV,doc,pm,an,S6,ct,UL,rfl,lk,S9⟩:=F.ex;refine JF lk S9 S len λA outer s H vs Q E hr Vg=>?_;obtain⟨t,h,q⟩:=TB S6 A outer s H vs Q E hr Vg;exact⟨t,h.iq,q⟩
theorem dQ.binds {fd:Qa}{ps:ME}(F:dQ K x qual st f fd)(h:∀(kV doc pm:Value)(an:Option Addr)(S6 ct:Value)(us:MH),us.length=ps.length->QV (So x qual (cR st) (br st) (ao st) .none kV doc pm an S6 ct) ⟨us,[]⟩=pure (ps.zip us)):Binds K fd ps []:=by
 obtain⟨oc,od,kV,doc,pm,an,S6,ct,UL,rfl,lk,S9⟩:=F.ex;exact .all (h kV doc pm an S6 ct)
theorem jK {oc:Value}{od an:Option Addr}{UL:Array MF}{kV doc pm S6 ct:Value}(l:K.lookup f=some ⟨oc,od,.func (So x qual (cR st) (br st) (ao st) .none kV doc pm an S6 ct),UL⟩)(c:Su K S6 qual=true)(k:Sq K (.ref f)=true):dQ K x qual st f (So x qual (cR st) (br st) (ao st) .none kV doc pm an S6 ct):=⟨⟨oc,od,kV,doc,pm,an,S6,ct,UL,rfl,l,c⟩,k⟩
end
variable {X:Cx}
section
variable {H:Hp}
theorem mm {A B:Prop}(h:B):if false=true then A else B:=by
 rw[SR MM];exact h
theorem mM {A B:Prop}(h:A):if true=true then A else B:=by
 rw[SS rfl];exact h
def ay (H H':Hp):Prop:=∀b o,H b=some o->H' b=some o
theorem ay.refl (H:Hp):ay H H:=λ_ _ h=>h
theorem ay.trans {H1 H2:Hp}(a:ay H H1)(b:ay H1 H2):ay H H2:=λc o h=>b c o (a c o h)
theorem ay.free {H':Hp}(e:ay H H'){l:Addr}(h:H' l=Option.none):H l=Option.none:=by
 cases q:H l with
 | none=>rfl
 | some o=>
   rw[e l o q] at h;cases h
theorem ay.seq {K:Sk}{H':Hp}{a:Addr}{xs:List V}(e:ay H H')(h:aY K H a xs):aY K H' a xs:=by
 rcases h with(h | ⟨o,h⟩) | h
 ·exact .inl (.inl (e _ _ h))
 ·exact .inl (.inr ⟨o,e _ _ h⟩)
 ·exact .inr h
end
theorem qJ:fF X (.builtin "len") (λxs H Q=>∃a kvs,xs=[V.ref a]/\H a=some (.dK kvs)/\Q (.int kvs.length) H):=by
 intro S3 s σ H xs us Q I r h;obtain⟨a,kvs,rfl,ha,q⟩:=h;obtain⟨u,rfl,ru⟩:=vals1 r;cases ru
 exact Kq I (.inl ha) λt s' I'=>⟨.int kvs.length,H,I',⟨t,rfl⟩,q⟩
section
variable {κ:Type} [DecidableEq κ]
theorem jB:∀{l:List κ}{k:κ},l.Nodup->¬k∈l->(l++[k]).Nodup
 | [],k,_,_=>by simp
 | a::r,k,h,hk=>by
   obtain⟨h1,h2⟩:=ND.mp h;show(a::(r++[k])).Nodup;refine ND.mpr ⟨λm=>?_,jB h2 λm=>hk (Nd.mpr (Or.inr m))⟩;rcases Nj.mp m with q | q
   ·exact h1 q
   ·exact hk (Nd.mpr (Or.inl (M5.mp q).symm))
end
section
variable {elt target iter:Expr}{ifs:MI}{scope:Scope}{pos:Pos}{s:PX}{fr:ME}{ix:List Nat}{wi:TI}{g:TG}{tc:TT}{te:TE}
def bS (X:Cx)(scope:Scope)(cl:List (Str×Addr))(C:Addr)(N':ME)(s:PX)(H:Hp)(ex:MG):Cx:=
 {X with N:=N',s₀:=s,H₀:=H,env:=compEnvC scope cl C X.env,outer:=X.stack,stack:=X.stack,ex:=ex,fn:=λ_=>false,pn:=[],xe:=λ_ _=>False}
def PF (X:Cx)(ifs:MI)(t:TT):Prop:=
 ∀(S3:MB)(s:PX)(σ:St)(H:Hp)(Q:Bool->Hp->Prop),Inv X S3 σ H s->t σ H Q->
  wpAny (model X.prog X.w) X.A (forIn ifs true λc r=>if r=true then do let ok ← QH c X.env (eval c X.env);pure (MU ok) else pure (MU r)) (TP X S3 σ Q) X.xe s
def Md:TT:=λ_ H Q=>Q true H
theorem GJ:PF X [] Md:=by
 intro S3 s σ H Q I h;exact P4 ⟨H,I,h⟩
theorem GZ {c:Expr}{t:TT}(hc:PT X c t):PF X [c] t:=by
 intro S3 s σ H Q I h;show wpAny _ _ (forIn [c] true λc r=>_) _ _ s;rw[OU];simp only[if_true,forIn_nil];refine P0 (P0 (Qj (hc S3 s σ H Q I h) (λb s1 h1=>?_) λ_ _ e=>e));exact P4 (P4 h1)
theorem tV {prog:P2}{w:World}{A:P7}{R:Result->PX->Prop}{it acc:Value}{env:Env}(I:Nat->PX->Prop)(turn:∀n s,I n s->wpAny (model prog w) A (Q8 it) (λr s₁=>match r with
  | none=>R (.ok .next) s₁
  | some v=>wpAny (model prog w) A (QO target it v) (λ_ s₁'=>wpAny (model prog w) A (QB target env v) (λ_ s₂=>
   wpAny (model prog w) A (forIn ifs true λc r=>if r=true then do let ok ← QH c env (eval c env);pure (MU ok) else pure (MU r)) (λok s₃=>
    if ok=true then wpAny (model prog w) A (eval elt env) (λx s₄=>
     wpAny (model prog w) A (call (.builtin "list.append") [acc,x]) (λ_ s₅=>∃m,m<n/\I m s₅) (λ_ _=>False) s₄) (λ_ _=>False) s₃
    else∃m,m<n/\I m s₃) (λ_ _=>False) s₂) (λ_ _=>False) s₁') (λ_ _=>False) s₁) (λ_ _=>False) s)(n:Nat)(h:I n s):
 QU (model prog w) A (.compLoop (.ListComp elt [⟨target,iter,ifs,0⟩] scope pos) 0 it acc env) R s:=by
 have no:∀{α:Type}{t:Sem α}{Q:α->PX->Prop}{E:Value->PX->Prop}{s:PX},wpAny (model prog w) A t Q (λ_ _=>False) s->wpAny (model prog w) A t Q E s:=λh=>Qj h (λ_ _ q=>q) λ_ _ f=>f.elim;refine codeAny_loop rfl I (λn s hI=>?_) n h;show wpAny _ A ((compTurn (.ListComp elt [⟨target,iter,ifs,0⟩] scope pos) 0 it acc env).onRaise (λx=>do noteFrame x env;theTreesLotGoes x)) _ _ s;refine wpAny_noted ?_;rw[compTurn_list];refine P0 (Ri (P0 (Qj (no (turn n s hI)) (λr s₁ h₁=>?_) λ_ _ h'=>h')));cases r with
 | none=>exact P4 h₁
 | some v=>
   refine P0 (Qj (no h₁) (λ_ s₁' h₁'=>?_) λ_ _ h'=>h');refine P0 (Qj (no h₁') (λ_ s₂ h₂=>P0 (Qj (no h₂) (λok s₃ h₃=>?_) λ_ _ h'=>h')) λ_ _ h'=>h');cases ok with
   | false=>exact P4 ⟨rfl,h₃⟩
   | true=>
     exact P0 (P0 (Qj (no h₃) (λx s₄ h₄=>P0 (Qj (no h₄) (λ_ s₅ h₅=>P4 (P4 ⟨rfl,h₅⟩)) λ_ _ h'=>h')) λ_ _ h'=>h'))
def wJ (wi:TI)(g:TG)(tc:TT)(te:TE)(z:St->St):TE:=λσ H Q=>wi σ H λJ H1=>
 ∃W:Nat->Nat->List V->St->Hp->Prop,(∃m,W 0 m [] (z σ) H1)/\∀i m ys σ' H',W i m ys σ' H'->
  ys.length<=PZ/\((J.stop i H'/\∀p,H' p=none->Q (.ref p) (upd H' p (.lst ys)))∨
  (J.go i H'/\∀x H2,J.Xb i H' x H2->g x σ' H2 λσ2 H3=>tc σ2 H3 λb H4=>
    if b=true then te σ2 H4 λv H5=>∃m',m'<m/\W (i+1) m' (ys++[v]) σ2 H5 else∃m',m'<m/\W (i+1) m' ys σ2 H4))
structure fN (X:Cx)(scope:Scope)(cl:List (Str×Addr))(own fr:ME)(ix:List Nat):Prop where
 clos:closureFor scope X.env=pure cl
 cells:∀x c,cl.lookup x=some c->X.env.cells.lookup x=some c
 kind:scope.kind= .function
 V3:∀y∈scope.names,y.2≠ .cell
 names:∀y∈scope.names,y.2= .local->scope.names.lookup y.1=some .local
 has:∀x,scope.names.lookup x=some .free->∃c,cl.lookup x=some c
 frees:∀x∈fr,scope.names.lookup x=some .free
 len:fr.length=ix.length
 at_:∀(k:Nat)(i:Nat)(x:Str),ix[k]?=some i->fr[k]?=some x->X.N[i]?=some x/\X.env.kindOf x=some .cell
theorem iy {env:Env}:∀{names:List (Str×QC)}{x:Str}{k:QC},
 (names.map λ(n,k)=>if(k==QC.free&&env.scope.kind== .function&&env.kindOf n==some .cell) then(n,QC.cell) else(n,k)).lookup x=some k->
 ∃k',names.lookup x=some k'/\(k=k'∨(k'= .free/\k= .cell))
 | [],_,_,h=>by simp at h
 | (n,k)::r,x,kk,h=>by
   have ih:=@iy env r x kk;replace h:N5 x ((if(k==QC.free&&env.scope.kind== .function&&env.kindOf n==some .cell)=true then(n,QC.cell) else(n,k))::_)=some kk:=h;by_cases hc:(k==QC.free&&env.scope.kind== .function&&env.kindOf n==some .cell)=true
   ·rw[SS hc] at h;cases hx:x==n with
    | true=>
      simp only[Ob,hx,Option.some.injEq] at h ⊢;have hk:k= .free:=by
       simp only[MN] at hc;exact eq_of_beq hc.1.1
      exact⟨k,rfl,.inr ⟨hk,h.symm⟩⟩
    | false=>
      simp only[Ob,hx] at h ⊢;exact ih h
   ·rw[SR hc] at h;cases hx:x==n with
    | true=>
      simp only[Ob,hx,Option.some.injEq] at h ⊢;exact⟨k,rfl,.inl h.symm⟩
    | false=>
      simp only[Ob,hx] at h ⊢;exact ih h
theorem mK {env:Env}(hf:env.scope.kind= .function):∀{names:List (Str×QC)}{x:Str},names.lookup x=some .free->env.kindOf x=some .cell->
 (names.map λ(n,k)=>if(k==QC.free&&env.scope.kind== .function&&env.kindOf n==some .cell) then(n,QC.cell) else(n,k)).lookup x=some .cell
 | [],_,h,_=>by simp at h
 | (n,k)::r,x,h,hk=>by
   have ih:=@mK env hf r x;show N5 x ((if(k==QC.free&&env.scope.kind== .function&&env.kindOf n==some .cell)=true then(n,QC.cell) else(n,k))::_)=_;cases hx:x==n with
   | true=>
     simp only[Ob,hx,Option.some.injEq] at h;have e:x=n:=eq_of_beq hx;subst e;subst h;rw[SS (by rw[hf,hk];rfl)];simp[Ob]
   | false=>
     simp only[Ob,hx] at h;split
     ·simp only[Ob,hx];exact ih h hk
     ·simp only[Ob,hx];exact ih h hk
def hX (own:ME)(ix:List Nat)(σ:St):St:=N3 own.length none++ix.map λi=>(σ[i]?).join
structure Off (X:Cx)(S3:MB)(H:Hp)(s:PX)(C:Addr):Prop where
 ns:∃m,s.heap.Ns C m
 free:H C=none
 ne:C≠X.env.locals
 young:X.s₀.heap.objs.size<=C
 cell:∀x c,X.env.cells.lookup x=some c->c≠C
 pin:∀p∈X.pn++S3,p.1≠C
theorem qN {cl:List (Str×Addr)}{own:ME}{use:Option (Value->Sem Unit)}{Qf:Value->PX->Prop}{S3:MB}{σ:St}{H:Hp}{Q:VK}(hc:X.calm=true)(S:fN X scope cl own fr ix)(hi:PI X target iter wi)(hb:∀(C:Addr)(s:PX)(H:Hp)(ex:MG),PG (bS X scope cl C (own++fr) s H ex) target g/\PF (bS X scope cl C (own++fr) s H ex) ifs tc/\PE (bS X scope cl C (own++fr) s H ex) elt te)(hs:∀x,Qi iter X.env x=pure x)(I:Inv X S3 σ H s)(h:wJ wi g tc te (hX own ix) σ H Q)(U5:∀(D C:Addr)(H6:Hp)(s6:PX),Inv X S3 σ H6 s6->Off X S3 H6 s6 C->Q (.ref D) H6->compPost (model X.prog X.w) X.A X.xe use Qf (.ref D) C (.ok .next) s6):
 wpAny (model X.prog X.w) X.A (comprehension (.ListComp elt [⟨target,iter,ifs,0⟩] scope pos) scope X.env (firstIterPos [⟨target,iter,ifs,0⟩] pos) (newList []) false (eval iter X.env) use) Qf X.xe s:=by
 refine wpAny_comprehension_free (use:=use) rfl hs S.clos S.kind S.names ?_;refine aW (hi S3 s σ H _ I h) λv s1 h1=>aW h1 λitv s2 h2=>?_;obtain⟨it,fp,tn,J,H2,rfl,I2,T,VJ,f2,W,⟨m0,w0⟩,turn⟩:=h2;refine Qn (wpAny_newFunctionEnv S.V3 (by intro y hy;simp at hy) (λh₁ hns₁ hsb₁=>?_) S.kind);dsimp only at hns₁ hsb₁ ⊢;generalize hH3:s2.heap.push {cls:=.type "list",dict:=none,data:=.seq ([]:MH).toArray}=h3 at hns₁ hsb₁ ⊢;have hC:h3.objs.size=s2.heap.objs.size+1:=by rw[← hH3,RQ]
 have to3:∀b o,s2.heap.get? b=some o->h3.get? b=some o:=λb o e=>by rw[← hH3];exact RM _ e
 have XY:h3.get? s2.heap.objs.size=some {cls:=.type "list",data:=.seq ([]:MH).toArray}:=by rw[← hH3];exact RP _ rfl
 have Wo:∀b o,h3.get? b=some o->h₁.get? b=some o:=λb o e=>hsb₁.extBut b o (O5 (RN e)) (RM _ e);have frD:∀{b:Addr},b∈fp->b≠s2.heap.objs.size:=λ{b} hb z=>by
  obtain⟨o,e,_⟩:=T.obj 0 _ VJ b hb;exact SQ (RN e) (by rw[z];exact O8 _)
 have frC:∀{b:Addr},b∈fp->b≠h3.objs.size:=λ{b} hb z=>by
  obtain⟨o,e,_⟩:=T.obj 0 _ VJ b hb;exact SQ (RN e) (by rw[z,hC];exact Ph.mpr (Pb _))
 have HD2:H2 s2.heap.objs.size=none:=I2.S8.fresh (O0 _)
 -- Xe block's context
 let X':Cx:=bS X scope cl h3.objs.size (own++fr) {s2 with heap:=h3} H2 (s2.heap.objs.size::fp)
 have Xh:X'.Ok:=by
  refine⟨I2.ok.mod,S.kind,I2.ok.glob,I2.ok.blt,O0 _,λx y c e1 e2=>I2.ok.inj x y c (S.cells x c e1) (S.cells y c e2),λx hx=>?_,λx c z=>?_,I2.ok.hd,I2.ok.frames,.inl rfl,λb hb=>?_,λb o e=>?_,?_,λb o e hb=>?_,λb hb z=>?_,?_,I2.vV⟩
  ·have key:scope.names.lookup x=some .free:=by
    have hx:(relabel scope X.env).names.lookup x=some .cell∨(relabel scope X.env).names.lookup x=some .free:=hx;rcases hx with hx | hx
    ·obtain⟨k',e,z⟩:=iy hx;rcases z with z | z
     ·subst z;exact SQ rfl (S.V3 _ (Qe e))
     ·rw[e,z.1]
    ·obtain⟨k',e,z⟩:=iy hx;rcases z with z | z
     ·subst z;exact e
     ·cases z.2
   exact S.has x key
  ·cases z
  ·rcases Nd.mp hb with rfl | hb
   ·refine⟨by rw[show X'.env.locals=h3.objs.size from rfl,hC];exact O5 (Pc _),λx c e z=>?_⟩;obtain⟨v',q⟩:=I2.cell x c (S.cells x c e);exact SQ q.lt (by rw[z];exact O8 _)
   ·exact⟨frC hb,λx c e=>(f2 b hb).2.2.2.2.1 x c (S.cells x c e)⟩
  ·obtain⟨e1,e2⟩:=I2.bs b o e;exact⟨to3 b o e1,e2⟩
  ·show X.base.objs.size<=h3.objs.size;have:=I2.ok.V0;have:=I2.sz;omega
  ·rcases Nd.mp hb with rfl | hb
   ·exact SQ (RN (I2.bs _ o e).1) (O8 _)
   ·rcases(f2 b hb).2.2.2.1 with z | z
    ·exact I2.ok.Vp b o e z
    ·exact SQ (O4 (O4 (RN e) I2.ok.V0) z) (O8 _)
  ·replace z:b∈lA X.stack:=z;rcases Nd.mp hb with rfl | hb
   ·obtain⟨_,o,ho,_⟩:=I2.stack.mem z;exact SQ (RN ho) (O8 _)
   ·rcases Nd.mp (I2.uU b z) with q | q
    ·exact(f2 b hb).2.1 q
    ·exact(f2 b hb).2.2.1 q
  ·exact I2.stack.of_keeps λb o e _=>⟨o,to3 b o e,rfl⟩
 have I4:Inv X' [] (hX own ix σ) H2 {s2 with heap:=h₁,toks:=s2.toks+([]:List (Str×Value)).length}:=by
  refine⟨Xh,rfl,I2.bare,Un.kept Wo,⟨_,hns₁,λi x v e1 e2 e3=>?_⟩,λx c e=>?_,I2.S8.fresh (by show s2.heap.objs.size<=h3.objs.size;rw[hC];exact Pb _),λx c e=>I2.T8 x c (S.cells x c e),λp hp=>SQ (show p∈([]:MB) from hp) (by simp),I2.S8.kept λb o e=>Wo b o (to3 b o e),?_⟩
  ·replace e1:(own++fr)[i]?=some x:=e1;unfold hX at e2;by_cases Uc:i<own.length
   ·rw[NF (by simpa using Uc),Ow] at e2;split at e2<;>cases e2
   ·rw[Ny (by simpa using Uc)] at e1 e2;rw[N4,Nc] at e2;cases ek:ix[i-own.length]? with
    | none=>rw[ek] at e2;cases e2
    | some j=>
      rw[ek] at e2;obtain⟨n1,n2⟩:=S.at_ _ j x ek e1;have e2':σ[j]?=some (some v):=by
       have q:(σ[j]?).join=some v:=Option.some.inj e2;cases es:σ[j]? with
       | none=>rw[es] at q;cases q
       | some o=>rw[es] at q;exact congrArg some q
      obtain⟨m,hn,hl⟩:=I2.loc;obtain⟨u,r,l⟩:=hl j x v n1 e2' (.inr (.inl n2));refine⟨u,r,?_⟩;have WM:scope.names.lookup x=some .free:=S.frees x (Ng e1);rcases l with⟨k,_⟩ | ⟨_,c,VF,z⟩
      ·rw[n2] at k;cases k
      ·obtain⟨c',VX⟩:=S.has x WM;have q:=S.cells x c' VX;rw[VF] at q;cases q
       obtain⟨oc,ho,hd⟩:=z;exact .inr ⟨.inl (mK I2.ok.kind WM n2),c,VX,oc,Wo _ _ (to3 _ _ ho),hd⟩
  ·obtain⟨v',oc,ho,hd⟩:=I2.cell x c (S.cells x c e);exact⟨v',oc,Wo _ _ (to3 _ _ ho),hd⟩
  ·show(hX own ix σ).length=(own++fr).length;unfold hX;rw[M9,M9,N4,M8,S.len]
 obtain⟨hg,hf,he⟩:=hb h3.objs.size {s2 with heap:=h3} H2 (s2.heap.objs.size::fp);have hg:PG X' target g:=hg;have hf:PF X' ifs tc:=hf;have he:PE X' elt te:=he;have locX:X'.env.locals=h3.objs.size:=rfl
 -- D's place
 have Dne:s2.heap.objs.size≠X'.env.locals:=by rw[locX,hC];exact O5 (Pc _)
 have Dfs:s2.heap.objs.size∉X'.fs:=Xh.Vi _ (Nb ..);have Dcl:∀x c,X'.env.cells.lookup x=some c->c≠s2.heap.objs.size:=λx c e=>(Xh.exf _ (Nb ..)).2 x c e;have fpX:∀{pl:MB}{H':Hp},(∀p∈pl,p.1=s2.heap.objs.size)->(∀b∈fp,H' b=none)->∀b∈fp,jd X' pl H' b:=λhp hn b hb=>
  ⟨hn b hb,frC hb,Xh.Vi b (M7 _ hb),.inl (M7 _ hb),(Xh.exf b (M7 _ hb)).2,λp q=>by
   rw[hp p (by simpa[show X'.pn=[] from rfl] using q)];exact Pr (frD hb)⟩
 have pinD:∀{σ':St}{H':Hp}{s':PX}{o:Obj},Inv X' [] σ' H' s'->s'.heap.get? s2.heap.objs.size=some o->H' s2.heap.objs.size=none->(∀v,o.data≠ .cell v)->Inv X' [(s2.heap.objs.size,o)] σ' H' s':=λI e n d=>
  I.jv λp hp=>by
    obtain rfl:=M5.mp hp;exact⟨e,n,Dne,Dfs,d⟩
 have loop:QU (model X.prog X.w) X.A (.compLoop (.ListComp elt [⟨target,iter,ifs,0⟩] scope pos) 0 (.ref it) (.ref s2.heap.objs.size) X'.env)
  (compPost (model X.prog X.w) X.A X.xe use Qf (.ref s2.heap.objs.size) h3.objs.size) {s2 with heap:=h₁,toks:=s2.toks+([]:List (Str×Value)).length}:=by
  refine tV (λn s'=>∃i ys S5 k σ' H',Inv X' [] σ' H' s'/\tn i s'.heap/\(∀b∈fp,H' b=none)/\H' s2.heap.objs.size=none/\Vals ys S5/\s'.heap.get? s2.heap.objs.size=some {cls:=.type "list",data:=.seq S5.toArray k}/\W i n ys σ' H')
   ?_ m0 ⟨0,[],[],0,_,H2,I4,T.keep 0 _ _ VJ λb _ o e=>Wo b o (to3 b o e),λb Ut=>(f2 b Ut).1,HD2,.nil,Wo _ _ XY,w0⟩
  rintro n s5 ⟨i,ys,S5,k,σ5,H5,I5,WY,fr5,hD5,vs5,get5,w5⟩;obtain⟨hlen,alt⟩:=turn i n ys σ5 H5 w5;have P5:=pinD I5 get5 hD5 (λv z=>by cases z);have okp:∀p∈[(s2.heap.objs.size,({cls:=.type "list",data:=.seq S5.toArray k}:Obj))],p.1=s2.heap.objs.size:=λp hp=>by
   rw[M5.mp hp]
  rcases alt with⟨stop,q⟩ | ⟨go,step⟩
  ·refine aW (T.done X' rfl rfl rfl hc i _ s5 σ5 H5 _ P5 (fpX okp fr5) WY stop) λr s6 ⟨hr,I6⟩=>?_;subst hr;obtain⟨m6,hn6,_⟩:=I6.loc;obtain⟨get6,_,_,_,_⟩:=I6.pin (s2.heap.objs.size,({cls:=.type "list",data:=.seq S5.toArray k}:Obj)) (Nh _ (M5.mpr rfl));have Xd:∀b o,b≠h3.objs.size->s6.heap.get? b=some o->s6.heap.get? b=some o:=λb o hb e=>e;have exn:∀{b:Addr}{o:Obj},s2.heap.get? b=some o->b∉fp->b∉X'.ex:=λ{b o} e hb z=>by
    rcases Nd.mp z with z | z
    ·exact SQ (RN e) (by rw[z];exact O8 _)
    ·exact hb z
   have Vq:∀{b:Addr}{o:Obj},s2.heap.get? b=some o->b≠h3.objs.size:=λ{b o} e z=>by
    have q1:=RN e;rw[z,hC] at q1;exact SQ q1 (Ph.mpr (Pb _))
   have neD:∀{b:Addr}{o:Obj},s2.heap.get? b=some o->b≠s2.heap.objs.size:=λ{b o} e=>O5 (RN e);have Wu:∀{b:Addr}{o:HO},H2 b=some o->b≠s2.heap.objs.size:=λ{b o} e=>cT e HD2;have U:Un (lA X.stack) fp H2 (upd H5 s2.heap.objs.size (.lst ys)) s2.heap s6.heap:=by
    refine⟨λb o e n hb hx=>?_,λb o e n hb hx=>?_,λb o e n hx=>?_,λb o e hx=>?_,λb xs e=>?_,λb o u e=>?_,λb ps e=>?_⟩
    ·exact Xd b o (Vq e) (I6.base.keep b o (to3 b o e) n hb (exn e hx))
    ·obtain⟨sl,q1⟩:=I6.base.slot b o (to3 b o e) n hb (exn e hx);exact⟨sl,Xd b _ (Vq e) q1⟩
    ·rw[aG (neD e)];exact I6.base.free b o (to3 b o e) n (exn e hx)
    ·obtain⟨o',q1⟩:=I6.base.there b o (to3 b o e) (exn e hx);exact⟨o',Xd b _ (Vq e) q1⟩
    ·rw[aG (Wu e)];exact I6.base.Uy b xs e
    ·rw[aG (Wu e)];exact I6.base.Uu b o u e
    ·rw[aG (Wu e)];exact I6.base.Uz b ps e
   have HC:H5 h3.objs.size=none:=I6.free;have S8:d7 X.prog X.w (upd H5 s2.heap.objs.size (.lst ys)) s6.heap:=λb u e=>by
    by_cases hbD:b=s2.heap.objs.size
    ·subst hbD;rw[aF] at e;cases e
     exact⟨hlen,S5,k,vs5,Xd _ _ (by rw[hC];exact O5 (Pc _)) get6⟩
    ·rw[aG hbD] at e;refine(I6.S8 b u e).TY (λc o W7 q1=>Xd c o (λz=>?_) q1) (λc q1=>by rw[aG (cT q1 hD5)];exact q1) λc xs q1=>by rw[aG (cT q1 hD5)];exact q1
     rcases W7 with W7 | W7
     ·rw[← W7,z,HC] at e;cases e
     ·rw[z,HC] at W7;cases W7
   have fin:=I2.JQ (s':=s6) (ch:=fp) I6.os U S8 I6.bare λb Ut=>⟨(f2 b Ut).2.2.2.1,(f2 b Ut).2.1,(f2 b Ut).2.2.2.2.1,(f2 b Ut).2.2.2.2.2⟩;refine U5 _ h3.objs.size _ s6 fin ⟨⟨m6,hn6⟩,?_,?_,?_,λx c e z=>?_,λp hp z=>?_⟩ (q _ hD5)
   ·rw[aG (by rw[hC];exact Pf (Pc _))];exact HC
   ·intro z;have:=I2.lt;rw[← z,hC] at this;exact SQ this (Ph.mpr (Pb _))
   ·rw[hC];exact O2 I2.sz (Pb _)
   ·obtain⟨v',q1⟩:=I2.cell x c e;have:=q1.lt;rw[z,hC] at this;exact SQ this (Ph.mpr (Pb _))
   ·have:=RN (I2.pin p hp).1;rw[z,hC] at this;exact SQ this (Ph.mpr (Pb _))
  ·refine aW (T.item X' rfl rfl rfl hc i _ s5 σ5 H5 _ P5 (fpX okp fr5) WY go) λr s6 ⟨u,hr,h6⟩=>?_;subst hr;refine aW h6 λ_ s7 ⟨x,H7,I7,r7,y7,st7,fr7⟩=>?_;have I7':=I7.pinned (fpX okp fr7) (T.obj _ _ st7);refine aW (hg _ s7 σ5 H7 x u _ I7' r7 (step x H7 y7)) λ_ s8 ⟨σ8,H8,I8,q8⟩=>?_;refine aW (hf _ s8 σ8 H8 _ I8 q8) λb s9 ⟨H9,I9,q9⟩=>?_;have out:∀{σ':St}{H':Hp}{s':PX},Inv X' ([(s2.heap.objs.size,({cls:=.type "list",data:=.seq S5.toArray k}:Obj))]++kU fp s7.heap) σ' H' s'->
    tn (i+1) s'.heap/\(∀b∈fp,H' b=none)/\H' s2.heap.objs.size=none/\s'.heap.get? s2.heap.objs.size=some {cls:=.type "list",data:=.seq S5.toArray k}:=λI'=>by
    refine⟨T.keep _ _ _ st7 λb Ut o e=>(I'.pin (b,o) (Nh _ (Nh _ (jn Ut e)))).1,λb Ut=>?_,(I'.pin (s2.heap.objs.size,({cls:=.type "list",data:=.seq S5.toArray k}:Obj)) (Nh _ (Np _ (M5.mpr rfl)))).2.1,(I'.pin (s2.heap.objs.size,({cls:=.type "list",data:=.seq S5.toArray k}:Obj)) (Nh _ (Np _ (M5.mpr rfl)))).1⟩;obtain⟨o,e,d⟩:=T.obj _ _ st7 b Ut;exact(I'.pin (b,o) (Nh _ (Nh _ (jn Ut e)))).2.1
   cases b with
   | false=>
     rw[SR MM] at q9 ⊢;obtain⟨m',hm,w'⟩:=q9;obtain⟨o1,o2,o3,o4⟩:=out I9;exact⟨m',hm,i+1,ys,S5,k,σ8,H9,I9.jv (λ_ z=>nomatch z),o1,o2,o3,vs5,o4,w'⟩
   | true=>
     rw[SS rfl] at q9 ⊢;refine aW (he _ s9 σ8 H9 _ I9 q9) λuv s10 ⟨v10,H10,I10,r10,q10⟩=>?_;obtain⟨m',hm,w'⟩:=q10;obtain⟨o1,o2,o3,o4⟩:=out I10;refine wpAny_list_append_plain ⟨k,o4⟩ (λh' To Ux=>?_) (by
      have:=vs5.length;rw[Nm,← this];exact hlen)
     obtain⟨k',UW⟩:=To;have I11:Inv X' (kU fp s7.heap) σ8 H10 s10:=I10.jv λp hp=>I10.pin p (Nh _ (Nh _ hp));have I12:Inv X' [] σ8 H10 {s10 with heap:=h'}:=(I10.jv (λ_ z=>nomatch z):Inv X' [] σ8 H10 s10).turned (t':=s10.toks) (λb o Ut e=>Ux.extBut b o Ut e) o3 Dne (.inl (Nb ..)) Dcl (λp hp=>SQ (show p∈([]:MB) from hp) (by simp));refine⟨m',hm,i+1,ys++[v10],S5++[uv],k',σ8,H10,I12,T.keep _ _ _ o1 λb Ut o e=>Ux.extBut b o (frD Ut) e,o2,o3,vs5.append (.cons r10 .nil),?_,w'⟩;show h'.get? _=_;rw[UW];simp
 exact codeAny_compStart_list loop (T.self X.A 0 _ _ _ (T.keep 0 _ _ VJ λb _ o e=>Wo b o (to3 b o e)) loop)
theorem Off.gone {S3:MB}{σ:St}{H:Hp}{C:Addr}{h':Heap}(o:Off X S3 H s C)(I:Inv X S3 σ H s)(Ux:RR C s.heap h'):Inv X S3 σ H {s with heap:=h'}:=
 I.turned (t':=s.toks) (λb u hb e=>Ux.extBut b u hb e) o.free o.ne (.inr o.young) o.cell o.pin
theorem C8 {cl:List (Str×Addr)}{own:ME}(hc:X.calm=true)(S:fN X scope cl own fr ix)(hi:PI X target iter wi)(hb:∀(C:Addr)(s:PX)(H:Hp)(ex:MG),PG (bS X scope cl C (own++fr) s H ex) target g/\PF (bS X scope cl C (own++fr) s H ex) ifs tc/\PE (bS X scope cl C (own++fr) s H ex) elt te)(hs:∀x,Qi iter X.env x=pure x:=by intro _;rfl):
 PE X (.ListComp elt [⟨target,iter,ifs,0⟩] scope pos) (wJ wi g tc te (hX own ix)):=by
 intro S3 s σ H Q I h;rw[eval_ListComp];refine qN (use:=none) hc S hi hb hs I h λD C H6 s6 I6 o6 q=>?_;obtain⟨m,hn⟩:=o6.ns;exact⟨m,hn,λh' Ux=>⟨.ref D,H6,o6.gone I6 Ux,rfl,q⟩⟩
theorem xr {i:Nat}{y:Str}{py Vn:Pos}{cl:List (Str×Addr)}{own:ME}(Uj:P9 (.ListComp elt [⟨target,iter,ifs,0⟩] scope pos) (some (.Name y py)) Vn.line X.env=pure true)(hN:X.N.Nodup)(hi':X.N[i]?=some y)(hx:Loc X.env.scope y)(hc:X.calm=true)(S:fN X scope cl own fr ix)(hi:PI X target iter wi)(hb:∀(C:Addr)(s:PX)(H:Hp)(ex:MG),PG (bS X scope cl C (own++fr) s H ex) target g/\PF (bS X scope cl C (own++fr) s H ex) ifs tc/\PE (bS X scope cl C (own++fr) s H ex) elt te)(hs:∀x,Qi iter X.env x=pure x:=by intro _;rfl)(hf:X.fn y=true∨X.env.scope.names.lookup y=some .local:=by first | exact .inl rfl | exact .inr rfl | assumption):
 PS X (.Assign [.Name y py] (.ListComp elt [⟨target,iter,ifs,0⟩] scope pos) Vn) (AF (wJ wi g tc te (hX own ix)) (wN i)):=by
 intro S3 s σ H D I h;rw[exec_Assign_Name_used _ _ _ _ Uj];refine P0 (Ri (P0 ?_));show wpAny _ _ (do let _ ← comprehension (.ListComp elt [⟨target,iter,ifs,0⟩] scope pos) scope X.env _ (newList []) false (eval iter X.env) (some (QB (.Name y py) X.env))) _ _ s;refine P0 (Qj (qN (use:=some (QB (.Name y py) X.env)) (Qf:=λ_ s'=>SP X S3 D .next s') hc S hi hb hs I h λA C H6 s6 I6 o6 q=>?_) (λ_ s' hq=>P4 (P4 hq)) λ_ _ e=>e);show wpAny _ _ (QB (.Name y py) X.env (.ref A)) _ _ _;refine wpAny_assign_Name (qU I6 hN hi' hx (v:=.ref A) rfl (λs7 I7 hw=>?_) hf);obtain⟨c,Xu,Wd⟩:=hw;have Vq:C≠c:=by
  rcases Wd with rfl | Wd
  ·exact o6.ne
  ·exact Pr (o6.cell y c Wd)
 obtain⟨m,hn⟩:=o6.ns;have o7:Off X S3 H6 s7 C:=⟨⟨m,hn.sameBut Xu Vq⟩,o6.free,o6.ne,o6.young,o6.cell,o6.pin⟩;exact⟨m,hn.sameBut Xu Vq,λh' Ux=>⟨_,H6,o7.gone I7 Ux,q⟩⟩
end
end L2
namespace Fc
open PySem PySem.Spec PySem.W PySem.Calls L2
open PyProof.Rows hiding St
section
variable {X:Cx}
variable {e:Expr}{σ:St}{H:Hp}{t:TT}{Q:Bool->Hp->Prop}
def gK (X:Cx)(e:Expr):TE:=λσ H Q=>∀(S3:MB)(s:PX),Inv X S3 σ H s->wpAny (model X.prog X.w) X.A (eval e X.env) (EP X S3 σ Q) X.xe s
def Bw (X:Cx)(e:Expr):TT:=λσ H Q=>∀(S3:MB)(s:PX),Inv X S3 σ H s->wpAny (model X.prog X.w) X.A (QH e X.env (eval e X.env)) (TP X S3 σ Q) X.xe s
def Au (X:Cx)(e:Expr):TT:=λσ H Q=>∀(whole:Sem Value)(S3:MB)(s:PX),Inv X S3 σ H s->wpAny (model X.prog X.w) X.A (QH e X.env whole) (TP X S3 σ Q) X.xe s
def qt (X:Cx)(e:Expr):TG:=λv σ H Q=>∀(S3:MB)(s:PX)(u:Value),Inv X S3 σ H s->RelV v u->wpAny (model X.prog X.w) X.A (QB e X.env u) (λ_ s'=>∃σ' H',Inv X S3 σ' H' s'/\Q σ' H') X.xe s
def Bp (X:Cx)(st:Stmt):TS:=λD σ H=>∀(S3:MB)(s:PX),Inv X S3 σ H s->wpAny (model X.prog X.w) X.A (exec st X.env) (SP X S3 D) X.xe s
def rO (X:Cx)(st:List Stmt):TS:=λD σ H=>∀(S3:MB)(s:PX),Inv X S3 σ H s->wpAny (model X.prog X.w) X.A (execs st X.env) (SP X S3 D) X.xe s
def xv (X:Cx)(es:MI):TA:=λσ H Q=>∀(pos:Pos)(S3:MB)(s:PX),Inv X S3 σ H s->wpAny (model X.prog X.w) X.A (spliced (P8 pos (PU es X.env))) (AP X S3 σ Q) X.xe s
def sD (X:Cx)(ifs:MI):TT:=λσ H Q=>∀(S3:MB)(s:PX),Inv X S3 σ H s->
 wpAny (model X.prog X.w) X.A (forIn ifs true λc r=>if r=true then do let ok ← QH c X.env (eval c X.env);pure (MU ok) else pure (MU r)) (TP X S3 σ Q) X.xe s
theorem aO:PE X e (gK X e):=λS3 s _ _ _ I h=>h S3 s I
theorem oP:PT X e (Bw X e):=λS3 s _ _ _ I h=>h S3 s I
theorem Im:PW X e (Au X e):=λwh S3 s _ _ _ I h=>h wh S3 s I
theorem GB:PG X e (qt X e):=λS3 s _ _ _ u _ I r h=>h S3 s u I r
theorem KO {e:Stmt}:PS X e (Bp X e):=λS3 s _ _ _ I h=>h S3 s I
theorem ib {e:List Stmt}:jJ X e (rO X e):=λS3 s _ _ _ I h=>h S3 s I
theorem me {e:MI}:PA X e (xv X e):=λpos S3 s _ _ _ I h=>h pos S3 s I
theorem eS {t:TE}(h:PE X e t){Q:VK}(q:t σ H Q):gK X e σ H Q:=λS3 s I=>h S3 s σ H Q I q
theorem tS (h:PT X e t)(q:t σ H Q):Bw X e σ H Q:=λS3 s I=>h S3 s σ H Q I q
theorem wS (h:PW X e t)(q:t σ H Q):Au X e σ H Q:=λwh S3 s I=>h wh S3 s σ H Q I q
theorem gS {t:TG}(h:PG X e t){v:V}{Q:St->Hp->Prop}(q:t v σ H Q):qt X e v σ H Q:=λS3 s u I r=>h S3 s σ H v u Q I r q
theorem sS {e:Stmt}{t:TS}(h:PS X e t){D:Ends}(q:t D σ H):Bp X e D σ H:=λS3 s I=>h S3 s σ H D I q
theorem Fg {e:List Stmt}{t:TS}(h:jJ X e t){D:Ends}(q:t D σ H):rO X e D σ H:=λS3 s I=>h S3 s σ H D I q
theorem aS {e:MI}{t:TA}(h:PA X e t){Q:List V->Hp->Prop}(q:t σ H Q):xv X e σ H Q:=λpos S3 s I=>h pos S3 s σ H Q I q
theorem fS {e:MI}(h:PF X e t)(q:t σ H Q):sD X e σ H Q:=λS3 s I=>h S3 s σ H Q I q
end
section
variable {H R:Hp}{α:Type}
theorem ay.fresh {p:Addr}(h:H p=none)(o:HO):ay H (upd H p o):=λb u q=>by rw[aG (cT q h)];exact q
structure Rep (α:Type) where
 R:Sk->Hp->V->α->Prop
 mono:∀{K:Sk}{H H':Hp}{v:V}{x:α},ay H H'->R K H v x->R K H' v x
def ai:Rep Int:=⟨λ_ _ v x=>v= .int x,λ_ h=>h⟩
def cN:Rep Bool:=⟨λ_ _ v x=>v= .bl x,λ_ h=>h⟩
theorem Paired.map {β:Type}{F G:α->β->Prop}(f:∀a b,F a b->G a b):∀{l:List α}{m:List β},PySem.Paired F l m->PySem.Paired G l m
 | _,_,.nil=>.nil
 | _,_,.cons h t=>.cons (f _ _ h) (Paired.map f t)
def ae (r:Rep α):Rep (List α):=⟨λK H v xs=>∃a vs,v= .ref a/\H a=some (.lst vs)/\PySem.Paired (r.R K H) vs xs/\xs.length<=PZ,
 λs ⟨a,vs,e,q,p,z⟩=>⟨a,vs,e,s _ _ q,Paired.map (λ_ _=>r.mono s) p,z⟩⟩
def bK:Rep MC:=⟨λK H v xs=>∃a,v= .ref a/\aY K H a (xs.map V.int)/\xs.length<=63,λs ⟨a,e,q,z⟩=>⟨a,e,s.seq q,z⟩⟩
def fD {β:Type}(r:Rep α)(r':Rep β):Rep (α×β):=⟨λK H v x=>∃a v1 v2,v= .ref a/\H a=some (.tup [v1,v2])/\r.R K H v1 x.1/\r'.R K H v2 x.2,
 λs ⟨a,v1,v2,e,q,h1,h2⟩=>⟨a,v1,v2,e,s _ _ q,r.mono s h1,r'.mono s h2⟩⟩
structure Ext (H R H' R':Hp):Prop where
 h:ay H H'
 r:ay R R'
 s:ay R' H'
 old:∀b,H b≠none->R' b=R b
theorem Ext.refl (s:ay R H):Ext H R H R:=⟨ay.refl _,ay.refl _,s,λ_ _=>rfl⟩
theorem ay.some {H':Hp}(s:ay H H'){b:Addr}(h:H b≠none):H' b≠none:=by
 cases q:H b with
 | none=>exact SQ q h
 | some o=>rw[s b o q];exact Pu o
theorem Ext.trans {H1 R1 H2 R2:Hp}(a:Ext H R H1 R1)(b:Ext H1 R1 H2 R2):Ext H R H2 R2:=
 ⟨a.h.trans b.h,a.r.trans b.r,b.s,λc hc=>(b.old c (ay.some a.h hc)).trans (a.old c hc)⟩
theorem Ext.fresh (s:ay R H){p:Addr}(h:H p=none)(o:HO):Ext H R (upd H p o) (upd R p o):=
 ⟨ay.fresh h o,ay.fresh (s.free h) o,λb u q=>by
  by_cases e:b=p
  ·subst e;rw[aF] at q ⊢;exact q
  ·rw[aG e] at q ⊢;exact s b u q,λb hb=>aG λe=>hb (e▸h)⟩
theorem Ext.eC (s:ay R H){p:Addr}(h:H p=none)(o:HO):Ext H R (upd H p o) R:=
 ⟨ay.fresh h o,ay.refl _,s.trans (ay.fresh h o),λ_ _=>rfl⟩
structure mn:Type 1 where
 fp:MG
 R:Sk->Hp->Hp->V->Prop
 loc:∀{K:Sk}{H R0 H' R':Hp}{v:V},(∀a∈fp,H' a=H a)->ay R0 R'->R K H R0 v->R K H' R' v
 has:∀{K:Sk}{H R0:Hp}{v:V},R K H R0 v->∀a∈fp,H a≠none
inductive Ent:Type 1
 | no
 | im {α:Type} (r:Rep α) (x:α)
 | mu {α:Type} (r:Rep α) (xs:List α)
 | di (kvs:List (Int×V))
 | ob (B:mn)
def cE (kvs:List (Int×V)):List (Key×V):=kvs.map λp=>(Sum.inl p.1,p.2)
def Ent.ok (K:Sk)(H R:Hp):Ent->Option V->Prop
 | .no,_=>True
 | .im r x,o=>∃v,o=some v/\r.R K R v x
 | .mu r xs,o=>∃a vs,o=some (.ref a)/\H a=some (.lst vs)/\R a=none/\PySem.Paired (r.R K R) vs xs
 | .di kvs,o=>∃a,o=some (.ref a)/\H a=some (.dK (cE kvs))/\R a=none
 | .ob B,o=>(∃v,o=some v/\B.R K H R v)/\∀a∈B.fp,R a=none
def Ent.own:Ent->Bool
 | .mu .. =>true
 | .di .. =>true
 | _=>false
def refOf:Option V->MG
 | some (.ref a)=>[a]
 | _=>[]
def Ent.fp:Ent->Option V->MG
 | .mu ..,o=>refOf o
 | .di ..,o=>refOf o
 | .ob B,_=>B.fp
 | _,_=>[]
abbrev Ga:=List Ent
structure aw (K:Sk)(σ:St)(H0 R0 H R:Hp)(Γ:Ga):Prop where
 ext:Ext H0 R0 H R
 ent:∀(i:Nat)(e:Ent),Γ[i]?=some e->e.ok K H R (σ[i]?).join
 nw:∀(i:Nat)(e:Ent)(a:Addr),Γ[i]?=some e->a∈e.fp (σ[i]?).join->H0 a=none
 ds:∀(i j:Nat)(e e':Ent)(a:Addr),Γ[i]?=some e->Γ[j]?=some e'->a∈e.fp (σ[i]?).join->a∈e'.fp (σ[j]?).join->i=j
 len:Γ.length=σ.length
end
section
variable {K:Sk}{σ:St}{H0 R0 H R H' R':Hp}{Γ:Ga}{α:Type}{r:Rep α}
variable {a:Addr}{o:Option V}{u:HO}{i:Nat}
theorem cv:a∈refOf o↔o=some (.ref a):=by
 unfold refOf;split
 ·rw[M5];constructor
  ·rintro rfl;rfl
  ·intro e;cases e;rfl
 ·rename_i h;constructor
  ·intro z;cases z
  ·intro e;exact SQ e (h a)
theorem Ent.px {e:Ent}(w:e.own=true):a∈e.fp o↔o=some (.ref a):=by
 cases e with
 | no=>cases w
 | im r x=>cases w
 | mu r xs=>exact cv
 | di kvs=>exact cv
 | ob B=>cases w
theorem aw.new (E:aw K σ H0 R0 H R Γ)(i:Nat)(e:Ent)(a:Addr)(h:Γ[i]?=some e)(w:e.own=true)(ha:(σ[i]?).join=some (.ref a)):H0 a=none:=E.nw i e a h ((Ent.px w).mpr ha)
theorem Ent.eF {e:Ent}(h:e.ok K H R o)(ha:a∈e.fp o):H a≠none/\R a=none:=by
 cases e with
 | no=>cases ha
 | im r x=>cases ha
 | mu r xs=>
   obtain⟨b,vs,e,q,n,_⟩:=h;rw[Ent.fp,cv,e] at ha;cases ha
   exact⟨by rw[q];exact Pu _,n⟩
 | di kvs=>
   obtain⟨b,e,q,n⟩:=h;rw[Ent.fp,cv,e] at ha;cases ha
   exact⟨by rw[q];exact Pu _,n⟩
 | ob B=>obtain⟨⟨v,e,q⟩,n⟩:=h;exact⟨B.has q a ha,n a ha⟩
theorem Ent.ok.loc {e:Ent}(h:e.ok K H R o)(hH:∀a∈e.fp o,H' a=H a)(hR:ay R R')(hn:∀a∈e.fp o,R' a=none):e.ok K H' R' o:=by
 cases e with
 | no=>trivial
 | im r y=>obtain⟨v,e,q⟩:=h;exact⟨v,e,r.mono hR q⟩
 | mu r xs=>
   obtain⟨a,vs,e,q,n,p⟩:=h;have ha:a∈Ent.fp (.mu r xs) o:=cv.mpr e;exact⟨a,vs,e,(hH a ha).trans q,hn a ha,Paired.map (λ_ _=>r.mono hR) p⟩
 | di kvs=>
   obtain⟨a,e,q,n⟩:=h;have ha:a∈Ent.fp (.di kvs) o:=cv.mpr e;exact⟨a,e,(hH a ha).trans q,hn a ha⟩
 | ob B=>obtain⟨⟨v,e,q⟩,n⟩:=h;exact⟨⟨v,e,B.loc hH hR q⟩,hn⟩
theorem Ent.ok.grow {e:Ent}(h:e.ok K H R o)(x:Ext H R H' R'):e.ok K H' R' o:=by
 refine h.loc (λa ha=>?_) x.r (λa ha=>?_)
 ·cases q:H a with
  | none=>exact SQ q (Ent.eF h ha).1
  | some u=>exact x.h _ _ q
 ·obtain⟨h1,h2⟩:=Ent.eF h ha;exact(x.old a h1).trans h2
theorem aw.grow (E:aw K σ H0 R0 H R Γ)(x:Ext H R H' R'):aw K σ H0 R0 H' R' Γ:=
 ⟨E.ext.trans x,λi e h=>(E.ent i e h).grow x,E.nw,E.ds,E.len⟩
theorem aw.sub (E:aw K σ H0 R0 H R Γ):ay R H:=E.ext.s
def Off (a:Addr)(σ:St)(Γ:Ga):Prop:=∀(i:Nat)(e:Ent),Γ[i]?=some e->a∉e.fp (σ[i]?).join
theorem aw.off (E:aw K σ H0 R0 H R Γ)(h:H a=none):Off a σ Γ:=λi e q w=>(Ent.eF (E.ent i e q) w).1 h
theorem set_at.{v}{β:Type v}{l:List β}{i:Nat}{y:β}{j:Nat}{e:β}(q:(l.set i y)[j]?=some e):(j=i/\e=y/\i<l.length)∨(j≠i/\l[j]?=some e):=by
 by_cases hj:j=i
 ·subst hj;have hl:j<l.length:=by
   have:=M1.mp q;simpa using this.1
  rw[Ni hl] at q;exact .inl ⟨rfl,(Option.some.inj q).symm,hl⟩
 ·rw[Nt (Pr hj)] at q;exact .inr ⟨hj,q⟩
theorem aw.setG (E:aw K σ H0 R0 H R Γ)(i:Nat){v:V}{en:Ent}(ho:en.ok K H R (some v))(h0:∀a∈en.fp (some v),H0 a=none)(hf:∀a∈en.fp (some v),∀(j:Nat)(e:Ent),j≠i->Γ[j]?=some e->a∉e.fp (σ[j]?).join):
 aw K (σ.set i (some v)) H0 R0 H R (Γ.set i en):=by
 have key:∀(j:Nat)(e:Ent),(Γ.set i en)[j]?=some e->(j=i/\e=en/\((σ.set i (some v))[j]?).join=some v)∨(j≠i/\Γ[j]?=some e/\(σ.set i (some v))[j]?=σ[j]?):=λj e q=>by
  rcases set_at q with⟨rfl,rfl,hl⟩ | ⟨hj,q⟩
  ·exact .inl ⟨rfl,rfl,by rw[Ni (by rw[← E.len];exact hl)];rfl⟩
  ·exact .inr ⟨hj,q,Nt (Pr hj)⟩
 refine⟨E.ext,λj e q=>?_,λj e a q w=>?_,λj k e e' a q q' w w'=>?_,by rw[NT,NT];exact E.len⟩
 ·rcases key j e q with⟨_,rfl,q2⟩ | ⟨_,q1,q2⟩
  ·rw[q2];exact ho
  ·rw[q2];exact E.ent j e q1
 ·rcases key j e q with⟨_,rfl,q2⟩ | ⟨_,q1,q2⟩
  ·rw[q2] at w;exact h0 a w
  ·rw[q2] at w;exact E.nw j e a q1 w
 ·rcases key j e q with⟨hj,rfl,q2⟩ | ⟨hj,q1,q2⟩
  ·rcases key k e' q' with⟨hk,rfl,WZ⟩ | ⟨hk,Us,WZ⟩
   ·rw[hj,hk]
   ·rw[q2] at w;rw[WZ] at w';exact SQ w' (hf a w k e' hk Us)
  ·rcases key k e' q' with⟨hk,rfl,WZ⟩ | ⟨hk,Us,WZ⟩
   ·rw[q2] at w;rw[WZ] at w';exact SQ w (hf a w' j e hj q1)
   ·rw[q2] at w;rw[WZ] at w';exact E.ds j k e e' a q1 Us w w'
theorem aw.set (E:aw K σ H0 R0 H R Γ)(i:Nat){v:V}{x:α}(h:r.R K R v x):aw K (σ.set i (some v)) H0 R0 H R (Γ.set i (.im r x)):=
 E.setG i ⟨v,rfl,h⟩ (λa w=>by cases w) λa w=>by cases w
theorem aw.wK (E:aw K σ H0 R0 H R Γ)(i:Nat){u:HO}{en:Ent}(ho:en.ok K H R (some (.ref a)))(h0:H0 a=none)(hf:∀(j:Nat)(e:Ent),j≠i->Γ[j]?=some e->a∉e.fp (σ[j]?).join)(Vb:en.fp (some (.ref a))=[a]:=by rfl):
 aw K (σ.set i (some (.ref a))) H0 R0 H R (Γ.set i en):=
 E.setG i ho (λb w=>by rw[Vb,M5] at w;rw[w];exact h0) λb w=>by rw[Vb,M5] at w;rw[w];exact hf
theorem aw.ot (E:aw K σ H0 R0 H R Γ){e0 en:Ent}(hi:Γ[i]?=some e0)(ha:a∈e0.fp (σ[i]?).join)(ho:en.ok K (L2.upd H a u) R (σ[i]?).join)(Tu:∀b∈en.fp (σ[i]?).join,b∈e0.fp (σ[i]?).join∨(H0 b=none/\Off b σ Γ)):aw K σ H0 R0 (L2.upd H a u) R (Γ.set i en):=by
 have h0:H0 a=none:=E.nw i e0 a hi ha;have hR:R a=none:=(Ent.eF (E.ent i e0 hi) ha).2;refine⟨⟨λb o q=>?_,E.ext.r,λb o q=>?_,E.ext.old⟩,λj e q=>?_,λj e b q w=>?_,λj k e e' b q q' w w'=>?_,by rw[NT];exact E.len⟩
 ·rw[aG (cT q h0)];exact E.ext.h b o q
 ·rw[aG (cT q hR)];exact E.ext.s b o q
 ·rcases set_at q with⟨rfl,rfl,_⟩ | ⟨hj,q1⟩
  ·exact ho
  ·refine(E.ent j e q1).loc (λb hb=>aG λz=>hj ?_) (ay.refl _) λb hb=>(Ent.eF (E.ent j e q1) hb).2;rw[z] at hb;exact E.ds j i e e0 a q1 hi hb ha
 ·rcases set_at q with⟨rfl,rfl,_⟩ | ⟨hj,q1⟩
  ·rcases Tu b w with z | z
   ·exact E.nw _ _ b hi z
   ·exact z.1
  ·exact E.nw j e b q1 w
 ·rcases set_at q with⟨rfl,rfl,_⟩ | ⟨hj,q1⟩
  ·rcases set_at q' with⟨rfl,rfl,_⟩ | ⟨hk,Us⟩
   ·rfl
   ·rcases Tu b w with z | z
    ·exact E.ds _ _ _ _ b hi Us z w'
    ·exact SQ w' (z.2 k e' Us)
  ·rcases set_at q' with⟨rfl,rfl,_⟩ | ⟨hk,Us⟩
   ·rcases Tu b w' with z | z
    ·exact E.ds _ _ _ _ b q1 hi w z
    ·exact SQ w (z.2 j e q1)
   ·exact E.ds _ _ _ _ b q1 Us w w'
theorem aw.upd (E:aw K σ H0 R0 H R Γ){e0 en:Ent}(hi:Γ[i]?=some e0)(w0:e0.own=true)(ha:(σ[i]?).join=some (.ref a))(hR:R a=none)(ho:en.ok K (L2.upd H a u) R (some (.ref a)))(Vb:en.fp (some (.ref a))=[a]:=by rfl):
 aw K σ H0 R0 (L2.upd H a u) R (Γ.set i en):=
 E.ot hi ((Ent.px w0).mpr ha) (by rw[ha];exact ho) λb w=>.inl (by rw[ha,Vb,M5] at w;rw[w];exact(Ent.px w0).mpr ha)
theorem aw.oG (E:aw K σ H0 R0 H R Γ)(ha:H a=some u)(hR:R a=none)(h0:H0 a=none)(off:Off a σ Γ):aw K σ H0 R0 H (L2.upd R a u) Γ:=by
 have s2:ay R (L2.upd R a u):=ay.fresh hR _;refine⟨⟨E.ext.h,E.ext.r.trans s2,λb o qb=>?_,λb hb=>?_⟩,λi e qe=>?_,E.nw,E.ds,E.len⟩
 ·by_cases hb:b=a
  ·subst hb;rw[aF] at qb;cases qb;exact ha
  ·rw[aG hb] at qb;exact E.ext.s b o qb
 ·rw[aG (show b≠a from λe=>hb (by rw[e];exact h0))];exact E.ext.old b hb
 ·refine(E.ent i e qe).loc (λ_ _=>rfl) s2 λb hb=>?_;rw[aG (show b≠a from λz=>off i e qe (z▸hb))];exact(Ent.eF (E.ent i e qe) hb).2
theorem aw.tell (E:aw K σ H0 R0 H R Γ){e0 en:Ent}(hi:Γ[i]?=some e0)(ho:en.ok K H R (σ[i]?).join)(Tu:∀b∈en.fp (σ[i]?).join,b∈e0.fp (σ[i]?).join):aw K σ H0 R0 H R (Γ.set i en):=by
 refine⟨E.ext,λj e q=>?_,λj e b q w=>?_,λj k e e' b q q' w w'=>?_,by rw[NT];exact E.len⟩
 ·rcases set_at q with⟨rfl,rfl,_⟩ | ⟨hj,q1⟩
  ·exact ho
  ·exact E.ent j e q1
 ·rcases set_at q with⟨rfl,rfl,_⟩ | ⟨hj,q1⟩
  ·exact E.nw _ _ b hi (Tu b w)
  ·exact E.nw j e b q1 w
 ·rcases set_at q with⟨rfl,rfl,_⟩ | ⟨hj,q1⟩
  ·rcases set_at q' with⟨rfl,rfl,_⟩ | ⟨hk,Us⟩
   ·rfl
   ·exact E.ds _ _ _ _ b hi Us (Tu b w) w'
  ·rcases set_at q' with⟨rfl,rfl,_⟩ | ⟨hk,Us⟩
   ·exact E.ds _ _ _ _ b q1 hi w (Tu b w')
   ·exact E.ds _ _ _ _ b q1 Us w w'
def Wk:Ga->Ga->Prop
 | [],[]=>True
 | e::r,e'::r'=>(e'=e∨e'= .no)/\Wk r r'
 | _,_=>False
theorem Wk.len:∀{Γ Γ':Ga},Wk Γ Γ'->Γ'.length=Γ.length
 | [],[],_=>rfl
 | _::_,_::_,h=>by rw[Nf,Nf,Wk.len h.2]
theorem Wk.at:∀{Γ Γ':Ga},Wk Γ Γ'->∀(i:Nat)(e:Ent),Γ'[i]?=some e->e= .no∨Γ[i]?=some e
 | [],[],_,i,e,q=>by simp at q
 | a::_,b::_,h,0,e,q=>by
   simp at q;rcases h.1 with z | z
   ·right;simp[← q,z]
   ·left;rw[← q,z]
 | a::r,b::r',h,i+1,e,q=>by
   simp at q;have:=Wk.at h.2 i e q;simpa using this
theorem Wk.refl:∀Γ:Ga,Wk Γ Γ
 | []=>trivial
 | _::r=>⟨.inl rfl,Wk.refl r⟩
theorem aw.weak (E:aw K σ H0 R0 H R Γ){Γ':Ga}(w:Wk Γ Γ'):aw K σ H0 R0 H R Γ':=by
 refine⟨E.ext,λi e q=>?_,λi e a q z=>?_,λi j e e' a q q' z z'=>?_,w.len.trans E.len⟩
 ·rcases w.at i e q with rfl | q
  ·trivial
  ·exact E.ent i e q
 ·rcases w.at i e q with rfl | q
  ·cases z
  ·exact E.nw i e a q z
 ·rcases w.at i e q with rfl | q
  ·cases z
  ·rcases w.at j e' q' with rfl | q'
   ·cases z'
   ·exact E.ds i j e e' a q q' z z'
end
section
variable {X:Cx}{Γ Γ1 Γ2 Γ3:Ga}{α β γ:Type}
variable {pos:Pos}{e:Expr}{r:Rep α}
def EV (X:Cx)(e:Expr)(Γ:Ga){α:Type}(r:Rep α)(y:α)(Γ':Ga):Prop:=
 ∀(σ:St)(H0 R0 H R:Hp),aw X.K σ H0 R0 H R Γ->∀Q:VK,(∀v H' R',aw X.K σ H0 R0 H' R' Γ'->ay R R'->r.R X.K R' v y->Q v H')->gK X e σ H Q
def bg (X:Cx)(e:Expr)(Γ:Ga){α:Type}(r:Rep α)(ys:List α)(Γ':Ga):Prop:=
 ∀(σ:St)(H0 R0 H R:Hp),aw X.K σ H0 R0 H R Γ->∀Q:VK,(∀a vs H' R',aw X.K σ H0 R0 H' R' Γ'->ay R R'->H' a=some (.lst vs)->R' a=none->H0 a=none->Off a σ Γ'->PySem.Paired (r.R X.K R') vs ys->ys.length<=PZ->Q (.ref a) H')->gK X e σ H Q
def TV (X:Cx)(e:Expr)(Γ:Ga)(b:Bool)(Γ':Ga):Prop:=
 ∀(σ:St)(H0 R0 H R:Hp),aw X.K σ H0 R0 H R Γ->∀Q:Bool->Hp->Prop,(∀H' R',aw X.K σ H0 R0 H' R' Γ'->ay R R'->Q b H')->Bw X e σ H Q
def TW (X:Cx)(e:Expr)(Γ:Ga)(b:Bool)(Γ':Ga):Prop:=
 ∀(σ:St)(H0 R0 H R:Hp),aw X.K σ H0 R0 H R Γ->∀Q:Bool->Hp->Prop,(∀H' R',aw X.K σ H0 R0 H' R' Γ'->ay R R'->Q b H')->Au X e σ H Q
def TF (X:Cx)(es:MI)(Γ:Ga)(b:Bool)(Γ':Ga):Prop:=
 ∀(σ:St)(H0 R0 H R:Hp),aw X.K σ H0 R0 H R Γ->∀Q:Bool->Hp->Prop,(∀H' R',aw X.K σ H0 R0 H' R' Γ'->ay R R'->Q b H')->sD X es σ H Q
def BG (X:Cx)(tg:Expr){α:Type}(r:Rep α)(bf:α->Ga->Ga):Prop:=
 ∀(σ:St)(H0 R0 H R:Hp)(Γ:Ga)(v:V)(x:α),aw X.K σ H0 R0 H R Γ->r.R X.K R v x->∀Q:St->Hp->Prop,(∀σ',aw X.K σ' H0 R0 H R (bf x Γ)->Q σ' H)->qt X tg v σ H Q
abbrev RT:=Hp->V->Hp->Hp->Prop
def WS (X:Cx)(Uw:List Stmt)(Γ:Ga)(N:Ga->Prop)(T:RT):Prop:=
 ∀(σ:St)(H0 R0 H R:Hp),aw X.K σ H0 R0 H R Γ->∀D:Ends,(∀σ' H' R' Γ',aw X.K σ' H0 R0 H' R' Γ'->ay R R'->N Γ'->D.nx σ' H')->(∀v H' R',Ext H0 R0 H' R'->T H0 v H' R'->D.rt v H')->rO X Uw D σ H
def W1 (X:Cx)(st:Stmt)(Γ:Ga)(N:Ga->Prop)(T:RT):Prop:=
 ∀(σ:St)(H0 R0 H R:Hp),aw X.K σ H0 R0 H R Γ->∀D:Ends,(∀σ' H' R' Γ',aw X.K σ' H0 R0 H' R' Γ'->ay R R'->N Γ'->D.nx σ' H')->(∀v H' R',Ext H0 R0 H' R'->T H0 v H' R'->D.rt v H')->Bp X st D σ H
def dq (K:Sk){β:Type}(r:Rep β)(P:β->Prop):RT:=λ_ v _ R'=>∃y,r.R K R' v y/\P y
def B7 (K:Sk){β:Type}(r:Rep β)(P:List β->Prop):RT:=λH0 v H' R'=>∃a vs ys,v= .ref a/\H0 a=none/\H' a=some (.lst vs)/\R' a=none/\PySem.Paired (r.R K R') vs ys/\ys.length<=PZ/\P ys
theorem bg.im {ys:List α}(h:bg X e Γ r ys Γ1):EV X e Γ (ae r) ys Γ1:=by
 intro σ H0 R0 H R E Q q;refine h σ H0 R0 H R E Q λa vs H' R' E' s1 ha hR h0 off p z=>?_;have s2:ay R' (upd R' a (.lst vs)):=ay.fresh hR _;exact q (.ref a) H' (upd R' a (.lst vs)) (E'.oG ha hR h0 off) (s1.trans s2) ⟨a,vs,rfl,aF,Paired.map (λ_ _=>r.mono s2) p,z⟩
theorem EV.cast {y y':α}(h:EV X e Γ r y Γ1)(e1:y=y'):EV X e Γ r y' Γ1:=e1▸h
theorem TV.cast {b b':Bool}(h:TV X e Γ b Γ1)(e1:b=b'):TV X e Γ b' Γ1:=e1▸h
theorem aa (i:Nat){x:Str}{y:α}(hΓ:Γ[i]?=some (.im r y))(hN:X.N[i]?=some x:=by rfl)(hv:autoParam (cb X.env.scope x) Tv)(hd:Ti x:=by decide)(S9:Tz x:=by decide):EV X (.Name x pos) Γ r y Γ:=by
 intro σ H0 R0 H R E Q q;obtain⟨v,e,h⟩:=E.ent i _ hΓ;refine eS (a8 hN hv hd S9) ⟨v,?_,q v H R E (ay.refl _) h⟩;cases es:σ[i]? with
 | none=>rw[es] at e;cases e
 | some o=>rw[es] at e;exact congrArg some e
theorem ev_int {i:Int}{j:Nat}:EV X (.Constant (.int i) j pos) Γ ai i Γ:=λ_ _ _ _ _ E _ q=>eS Ir (q _ _ _ E (ay.refl _) rfl)
theorem jC {b:Bool}{j:Nat}:EV X (.Constant (.bool b) j pos) Γ cN b Γ:=λ_ _ _ _ _ E _ q=>eS wZ (q _ _ _ E (ay.refl _) rfl)
theorem kL {x:Str}{n:Int}{t:Tok}(hm:X.mg x=some (.int n t))(hg:Gl X x:=by rfl)(hd:Ti x:=by decide):EV X (.Name x pos) Γ ai n Γ:=
 λ_ _ _ _ _ E _ q=>eS (jy (v:=.int n) hg hm ⟨t,rfl⟩ hd) (q (.int n) _ _ E (ay.refl _) rfl)
theorem jq {op:Operator}{r2:R2}{a b:Expr}{ra:Rep α}{rb:Rep β}{rc:Rep γ}{x:α}{y:β}{z:γ}(ho:dW X (Qw op) r2)(ha:EV X a Γ ra x Γ1)(hb:EV X b Γ1 rb y Γ2)(hz:∀(R:Hp) v u H Q,ra.R X.K R v x->rb.R X.K R u y->(∀w,rc.R X.K R w z->Q w H)->r2 v u H Q):EV X (.BinOp a op b pos) Γ rc z Γ2:=by
 intro σ H0 R0 H R E Q q;refine eS (CG ho aO aO) (ha σ H0 R0 H R E _ λv H1 R1 E1 s1 e1=>hb σ H0 R0 H1 R1 E1 _ λu H2 R2 E2 s2 e2=>?_);exact hz R2 v u H2 _ (ra.mono s2 e1) e2 λw hw=>q w H2 R2 E2 (s1.trans s2) hw
section
variable {a b c:Expr}{pos:Pos}{x y z:Int}
theorem bZ (ha:EV X a Γ ai x Γ1)(hb:EV X b Γ1 ai y Γ2):EV X (.BinOp a .Add b pos) Γ ai (x+y) Γ2:=jq GK ha hb λR v u H Q e1 e2 q=>⟨x,y,e1,e2,q _ rfl⟩
theorem iZ (ha:EV X a Γ ai x Γ1)(hb:EV X b Γ1 ai y Γ2):EV X (.BinOp a .Sub b pos) Γ ai (x-y) Γ2:=jq Ff ha hb λR v u H Q e1 e2 q=>⟨x,y,e1,e2,q _ rfl⟩
theorem zB (ha:EV X a Γ ai x Γ1)(hb:EV X b Γ1 ai y Γ2)(h:xo x y):EV X (.BinOp a .Mult b pos) Γ ai (x*y) Γ2:=jq FH ha hb λR v u H Q e1 e2 q=>⟨x,y,e1,e2,h,q _ rfl⟩
theorem da (ha:EV X a Γ ai x Γ1)(hb:EV X b Γ1 ai y Γ2)(h:0<y):EV X (.BinOp a .Mod b pos) Γ ai (x%y) Γ2:=jq ER ha hb λR v u H Q e1 e2 q=>⟨x,y,e1,e2,h,q _ rfl⟩
theorem kQ (ha:EV X a Γ ai x Γ1)(hb:EV X b Γ1 ai y Γ2)(h:GH x y):EV X (.BinOp a .FloorDiv b pos) Γ ai (x/y) Γ2:=jq D7 ha hb λR v u H Q e1 e2 q=>⟨x,y,e1,e2,h,q _ rfl⟩
theorem sC (ha:EV X a Γ ai x Γ1)(hb:EV X b Γ1 ai y Γ2)(h:HZ x y):EV X (.BinOp a .Pow b pos) Γ ai (x ^ y.toNat) Γ2:=jq HW ha hb λR v u H Q e1 e2 q=>⟨x,y,e1,e2,h,q _ rfl⟩
theorem cG (ha:EV X a Γ ai x Γ1):EV X (.UnaryOp .USub a pos) Γ ai (-x) Γ1:=by
 intro σ H0 R0 H R E Q q;exact eS (Kt Gm aO) (ha σ H0 R0 H R E _ λv H1 R1 E1 s1 e1=>⟨x,e1,q _ H1 R1 E1 s1 rfl⟩)
end
structure gZ (X:Cx)(op:CmpOp){α β:Type}(ra:Rep α)(rb:Rep β)(x:α)(y:β)(k:Bool):Prop where
 r2:∃r,dW X (Qd op) r/\∀(R H:Hp) v u Q,ay R H->ra.R X.K R v x->rb.R X.K R u y->Q (.bl k) H->r v u H Q
theorem i7 {op:CmpOp}{a b:Expr}{pos:Pos}{ra:Rep α}{rb:Rep β}{x:α}{y:β}{k:Bool}(c:gZ X op ra rb x y k)(ha:EV X a Γ ra x Γ1)(hb:EV X b Γ1 rb y Γ2)(hm:Qp op b=false:=by first | exact oZ _ | with_unfolding_all rfl):
 EV X (.Compare a [op] [b] pos) Γ cN k Γ2:=by
 obtain⟨r,ho,hr⟩:=c.r2;intro σ H0 R0 H R E Q q;refine eS (EI ho aO aO hm) (ha σ H0 R0 H R E _ λv H1 R1 E1 s1 e1=>hb σ H0 R0 H1 R1 E1 _ λu H2 R2 E2 s2 e2=>?_);exact hr R2 H2 v u _ E2.sub (ra.mono s2 e1) e2 (q _ H2 R2 E2 (s1.trans s2) rfl)
theorem au {op:CmpOp}{a b:Expr}{pos:Pos}{ra:Rep α}{rb:Rep β}{x:α}{y:β}{k:Bool}(c:gZ X op ra rb x y k)(ha:EV X a Γ ra x Γ1)(hb:EV X b Γ1 rb y Γ2)(hm:Qp op b=false:=by first | exact oZ _ | with_unfolding_all rfl):
 TV X (.Compare a [op] [b] pos) Γ k Γ2:=by
 obtain⟨r,ho,hr⟩:=c.r2;intro σ H0 R0 H R E Q q;refine tS (EK ho aO aO hm) (ha σ H0 R0 H R E _ λv H1 R1 E1 s1 e1=>hb σ H0 R0 H1 R1 E1 _ λu H2 R2 E2 s2 e2=>?_);exact hr R2 H2 v u _ E2.sub (ra.mono s2 e1) e2 ⟨k,rfl,q H2 R2 E2 (s1.trans s2)⟩
section
variable {x y:Int}
theorem mv:gZ X .Lt ai ai x y (decide (x<y)):=⟨_,Ji,λR H v u Q _ e1 e2 q=>⟨x,y,e1,e2,q⟩⟩
theorem Ha:gZ X .LtE ai ai x y (decide (x<=y)):=⟨_,Ke,λR H v u Q _ e1 e2 q=>⟨x,y,e1,e2,q⟩⟩
theorem jS:gZ X .Gt ai ai x y (decide (y<x)):=⟨_,J8,λR H v u Q _ e1 e2 q=>⟨x,y,e1,e2,q⟩⟩
theorem Ml:gZ X .GtE ai ai x y (decide (y<=x)):=⟨_,JC,λR H v u Q _ e1 e2 q=>⟨x,y,e1,e2,q⟩⟩
theorem jR:gZ X .Eq ai ai x y (decide (x=y)):=⟨_,Cj,λR H v u Q _ e1 e2 q=>by
 cases e1;cases e2
 exact⟨rfl,by rw[show decide (V.int x=V.int y)=decide (x=y) by rw[nj];exact MQ x y];exact q⟩⟩
theorem HJ:gZ X .NotEq ai ai x y (!decide (x=y)):=⟨_,xg,λR H v u Q _ e1 e2 q=>by
 cases e1;cases e2
 exact⟨rfl,by rw[show decide (V.int x=V.int y)=decide (x=y) by rw[nj];exact MQ x y];exact q⟩⟩
theorem rV {x y:Bool}:gZ X .NotEq cN cN x y (!decide (x=y)):=⟨_,xg,λR H v u Q _ e1 e2 q=>by
 cases e1;cases e2
 exact⟨rfl,by rw[show decide (V.bl x=V.bl y)=decide (x=y) by rw[ur];exact MQ x y];exact q⟩⟩
end
variable {a:Expr}{pos:Pos}{x:Bool}{b c:Expr}{y:Bool}{rest:MI}
theorem uL {op U0:CmpOp}{ra:Rep α}{rb:Rep β}{rc:Rep γ}{x:α}{y:β}{z:γ}{k k':Bool}(c1:gZ X op ra rb x y k)(c2:gZ X U0 rb rc y z k')(ha:EV X a Γ ra x Γ)(hb:EV X b Γ rb y Γ)(hc:EV X c Γ rc z Γ)(hm:lastMarks [op,U0] [b,c]=false:=by with_unfolding_all rfl):EV X (.Compare a [op,U0] [b,c] pos) Γ cN (k&&k') Γ:=by
 obtain⟨r,ho,hr⟩:=c1.r2;obtain⟨r',UI,Uo⟩:=c2.r2;intro σ H0 R0 H R E Q q;refine eS (AA ho UI aO aO aO hm) (ha σ H0 R0 H R E _ λv H1 R1 E1 s1 e1=>hb σ H0 R0 H1 R1 E1 _ λu H2 R2 E2 s2 e2=>?_);refine hr R2 H2 v u _ E2.sub (ra.mono s2 e1) e2 ⟨k,rfl,?_⟩;cases k with
 | false=>exact mm (q _ H2 R2 E2 (s1.trans s2) rfl)
 | true=>exact mM (hc σ H0 R0 H2 R2 E2 _ λw H3 R3 E3 s3 e3=>Uo R3 H3 u w _ E3.sub (rb.mono s3 e2) e3 (q _ H3 R3 E3 (s1.trans (s2.trans s3)) rfl))
theorem Ae {op U0:CmpOp}{ra:Rep α}{rb:Rep β}{rc:Rep γ}{x:α}{y:β}{z:γ}{k k':Bool}(c1:gZ X op ra rb x y k)(c2:gZ X U0 rb rc y z k')(ha:EV X a Γ ra x Γ)(hb:EV X b Γ rb y Γ)(hc:EV X c Γ rc z Γ)(hm:lastMarks [op,U0] [b,c]=false:=by with_unfolding_all rfl):TV X (.Compare a [op,U0] [b,c] pos) Γ (k&&k') Γ:=by
 obtain⟨r,ho,hr⟩:=c1.r2;obtain⟨r',UI,Uo⟩:=c2.r2;intro σ H0 R0 H R E Q q;refine tS (An ho UI aO aO aO hm) (ha σ H0 R0 H R E _ λv H1 R1 E1 s1 e1=>hb σ H0 R0 H1 R1 E1 _ λu H2 R2 E2 s2 e2=>?_);refine hr R2 H2 v u _ E2.sub (ra.mono s2 e1) e2 ⟨k,rfl,?_⟩;cases k with
 | false=>exact mm ⟨false,rfl,q H2 R2 E2 (s1.trans s2)⟩
 | true=>exact mM (hc σ H0 R0 H2 R2 E2 _ λw H3 R3 E3 s3 e3=>Uo R3 H3 u w _ E3.sub (rb.mono s3 e2) e3 ⟨k',rfl,q H3 R3 E3 (s1.trans (s2.trans s3))⟩)
theorem uR {op:BoolOp}{r:Rep α}{x:α}(h:EV X a Γ r x Γ1):EV X (.BoolOp op [a] pos) Γ r x Γ1:=λσ H0 R0 H R E Q q=>eS (Ig aO) (h σ H0 R0 H R E Q q)
theorem oC (ha:EV X a Γ cN x Γ)(hb:x=true->EV X (.BoolOp .And (b::rest) pos) Γ cN y Γ):EV X (.BoolOp .And (a::b::rest) pos) Γ cN (x&&y) Γ:=by
 intro σ H0 R0 H R E Q q;refine eS (F3 aO aO) (ha σ H0 R0 H R E _ λv H1 R1 E1 s1 e1=>⟨x,e1,?_⟩);cases x with
 | false=>exact mm (q _ H1 R1 E1 s1 rfl)
 | true=>exact mM (hb rfl σ H0 R0 H1 R1 E1 _ λw H3 R3 E3 s3 e3=>q w H3 R3 E3 (s1.trans s3) e3)
theorem yi (ha:EV X a Γ cN x Γ1):EV X (.UnaryOp .Not a pos) Γ cN (!x) Γ1:=by
 intro σ H0 R0 H R E Q q;exact eS (Ft aO) (ha σ H0 R0 H R E _ λv H1 R1 E1 s1 e1=>⟨x,e1,q _ H1 R1 E1 s1 rfl⟩)
theorem iY (ha:TV X a Γ x Γ1):TV X (.UnaryOp .Not a pos) Γ (!x) Γ1:=by
 intro σ H0 R0 H R E Q q;exact tS (FO oP) (ha σ H0 R0 H R E _ λH1 R1 E1 s1=>q H1 R1 E1 s1)
theorem TW.tv {e:Expr}{b:Bool}(h:TW X e Γ b Γ1):TV X e Γ b Γ1:=λσ H0 R0 H R E Q q=>tS (Im.pt) (h σ H0 R0 H R E Q q)
theorem cZ (ha:TV X a Γ x Γ1):TW X (.BoolOp .And [a] pos) Γ x Γ1:=λσ H0 R0 H R E Q q=>wS (EG oP) (ha σ H0 R0 H R E Q q)
theorem jZ (ha:TV X a Γ x Γ1):TW X (.BoolOp .Or [a] pos) Γ x Γ1:=λσ H0 R0 H R E Q q=>wS (Fb oP) (ha σ H0 R0 H R E Q q)
theorem cD (ha:TV X a Γ x Γ)(hb:x=true->TW X (.BoolOp .And (b::rest) pos) Γ y Γ):TW X (.BoolOp .And (a::b::rest) pos) Γ (x&&y) Γ:=by
 intro σ H0 R0 H R E Q q;refine wS (IT oP Im) (ha σ H0 R0 H R E _ λH1 R1 E1 s1=>?_);cases x with
 | false=>exact mm (q H1 R1 E1 s1)
 | true=>exact mM (hb rfl σ H0 R0 H1 R1 E1 _ λH3 R3 E3 s3=>q H3 R3 E3 (s1.trans s3))
theorem ki (ha:TV X a Γ x Γ)(hb:x=false->TW X (.BoolOp .Or (b::rest) pos) Γ y Γ):TW X (.BoolOp .Or (a::b::rest) pos) Γ (x ||y) Γ:=by
 intro σ H0 R0 H R E Q q;refine wS (Jm oP Im) (ha σ H0 R0 H R E _ λH1 R1 E1 s1=>?_);cases x with
 | true=>exact mM (q H1 R1 E1 s1)
 | false=>exact mm (hb rfl σ H0 R0 H1 R1 E1 _ λH3 R3 E3 s3=>q H3 R3 E3 (s1.trans s3))
theorem cq {k:Bool}(ha:EV X a Γ cN k Γ1)(he:∀whole,QH a X.env whole=(do let v ← whole;QT a.pos;Qv [v] (truthy v)):=by intro _;rfl):TV X a Γ k Γ1:=by
 intro σ H0 R0 H R E Q q;exact tS (Ii aO he) (ha σ H0 R0 H R E _ λv H1 R1 E1 s1 e1=>⟨k,e1,q H1 R1 E1 s1⟩)
theorem hZ:TF X [] Γ true Γ:=λσ H0 R0 H R E Q q=>fS GJ (q H R E (ay.refl _))
theorem i6 {b:Bool}(h:TV X c Γ b Γ1):TF X [c] Γ b Γ1:=λσ H0 R0 H R E Q q=>fS (GZ oP) (h σ H0 R0 H R E Q q)
theorem lF {k:Bool}{r:Rep α}{x y:α}(hc:TV X c Γ k Γ1)(ha:k=true->EV X a Γ1 r x Γ2)(hb:k=false->EV X b Γ1 r y Γ2):EV X (.IfExp c a b pos) Γ r (if k then x else y) Γ2:=by
 intro σ H0 R0 H R E Q q;refine eS (BB oP aO aO) (hc σ H0 R0 H R E _ λH1 R1 E1 s1=>?_);cases k with
 | true=>exact mM (ha rfl σ H0 R0 H1 R1 E1 _ λv H3 R3 E3 s3 e3=>q v H3 R3 E3 (s1.trans s3) e3)
 | false=>exact mm (hb rfl σ H0 R0 H1 R1 E1 _ λv H3 R3 E3 s3 e3=>q v H3 R3 E3 (s1.trans s3) e3)
end
section
variable {X:Cx}{Γ Γ1 Γ2 Γ3:Ga}{α β γ δ:Type}
variable {r:Rep α}{pos:Pos}{i:Int}{b:Expr}{es:MI}{x:α}{a:Expr}{xs:List α}
structure Pk:Type 1 where
 {α:Type}
 r:Rep α
 x:α
inductive kA (K:Sk) (R:Hp):List V->List Pk->Prop
 | nil:kA K R [] []
 | cons {v:V} {vs:List V} {p:Pk} {ps:List Pk}:p.r.R K R v p.x->kA K R vs ps->kA K R (v::vs) (p::ps)
def HA (X:Cx)(es:MI)(Γ:Ga)(ps:List Pk)(Γ':Ga):Prop:=
 ∀(σ:St)(H0 R0 H R:Hp),aw X.K σ H0 R0 H R Γ->∀Q:List V->Hp->Prop,(∀vs H' R',aw X.K σ H0 R0 H' R' Γ'->ay R R'->kA X.K R' vs ps->Q vs H')->xv X es σ H Q
theorem aJ:HA X [] Γ [] Γ:=λσ H0 R0 H R E Q q=>aS bo (q [] H R E (ay.refl _) .nil)
theorem aq {e:Expr}{ps:List Pk}(he:EV X e Γ r x Γ1)(hr:HA X es Γ1 ps Γ2)(hs:PU (e::es) X.env=(false,eval e X.env)::PU es X.env:=by rfl):HA X (e::es) Γ (⟨r,x⟩::ps) Γ2:=by
 intro σ H0 R0 H R E Q q;refine aS (aK aO me hs) (he σ H0 R0 H R E _ λv H1 R1 E1 s1 e1=>hr σ H0 R0 H1 R1 E1 _ λvs H2 R2 E2 s2 e2=>?_);exact q (v::vs) H2 R2 E2 (s1.trans s2) (.cons (r.mono s2 e1) e2)
def EA (X:Cx)(es:MI)(Γ:Ga){α:Type}(r:Rep α)(ys:List α)(Γ':Ga):Prop:=
 ∀(σ:St)(H0 R0 H R:Hp),aw X.K σ H0 R0 H R Γ->∀Q:List V->Hp->Prop,(∀vs H' R',aw X.K σ H0 R0 H' R' Γ'->ay R R'->PySem.Paired (r.R X.K R') vs ys->Q vs H')->xv X es σ H Q
theorem aQ:EA X [] Γ r [] Γ:=λσ H0 R0 H R E Q q=>aS bo (q [] H R E (ay.refl _) .nil)
theorem av {e:Expr}{ys:List α}(he:EV X e Γ r x Γ1)(hr:EA X es Γ1 r ys Γ2)(hs:PU (e::es) X.env=(false,eval e X.env)::PU es X.env:=by rfl):EA X (e::es) Γ r (x::ys) Γ2:=by
 intro σ H0 R0 H R E Q q;refine aS (aK aO me hs) (he σ H0 R0 H R E _ λv H1 R1 E1 s1 e1=>hr σ H0 R0 H1 R1 E1 _ λvs H2 R2 E2 s2 e2=>?_);exact q (v::vs) H2 R2 E2 (s1.trans s2) (.cons (r.mono s2 e1) e2)
theorem aV {ys:List α}(h:EA X es Γ r ys Γ1)(hz:ys.length<=PZ):bg X (.List es pos) Γ r ys Γ1:=by
 intro σ H0 R0 H R E Q q;refine eS (su me) (h σ H0 R0 H R E _ λvs H1 R1 E1 s1 p1=>⟨by rw[p1.length];exact hz,λp hp=>?_⟩);exact q p vs _ R1 (E1.grow (Ext.eC E1.sub hp _)) s1 aF (E1.sub.free hp) (E1.ext.h.free hp) (E1.off hp) p1 hz
theorem Ef {k:Nat}{r':Rep β}{y:β}(h:HA X [a,b] Γ [⟨r,x⟩,⟨r',y⟩] Γ1):EV X (.Tuple [a,b] k pos) Γ (fD r r') (x,y) Γ1:=by
 intro σ H0 R0 H R E Q q;refine eS (sy me) (h σ H0 R0 H R E _ λvs H1 R1 E1 s1 p1=>?_);obtain⟨h1,h2⟩:∃v1 v2,vs=[v1,v2]/\r.R X.K R1 v1 x/\r'.R X.K R1 v2 y:=by
  cases p1 with
  | cons a1 t=>cases t with
    | cons a2 t2=>cases t2;exact⟨_,_,rfl,a1,a2⟩
 obtain⟨v2,rfl,e1,e2⟩:=h2;refine⟨by show 2<=PZ;decide,λp hp=>?_⟩;have s2:ay R1 (upd R1 p (.tup [h1,v2])):=ay.fresh (E1.sub.free hp) _;exact q _ _ (upd R1 p (.tup [h1,v2])) (E1.grow (Ext.fresh E1.sub hp _)) (s1.trans s2) ⟨p,_,_,rfl,aF,r.mono s2 e1,r'.mono s2 e2⟩
theorem dg {F:α->β->Prop}:∀{vs:List α}{xs:List β},PySem.Paired F vs xs->∀{i:Nat}{y:β},xs[i]?=some y->∃v,vs[i]?=some v/\F v y
 | _,_,.nil,i,y,h=>by simp at h
 | _,_,.cons h t,0,y,e=>by simp at e;subst e;exact⟨_,rfl,h⟩
 | _,_,.cons h t,i+1,y,e=>by
   obtain⟨v,e1,e2⟩:=dg t (i:=i) (y:=y) (by simpa using e);exact⟨v,by simpa using e1,e2⟩
theorem ie {F:α->β->Prop}{vs:List α}{xs:List β}(p:PySem.Paired F vs xs){y:β}(h:cM xs i=some y):∃v,cM vs i=some v/\F v y:=by
 unfold cM at h ⊢;rw[p.length];cases e:gT xs.length i with
 | none=>rw[e] at h;cases h
 | some j=>rw[e] at h;exact dg p h
theorem jT (h0:0<=i)(h1:i<xs.length):cM xs i=xs[i.toNat]?:=by
 have e:i=((i.toNat:Nat):Int):=by omega
 have hl:i.toNat<xs.length:=by omega
 have q:cM xs ((i.toNat:Nat):Int)=some xs[i.toNat]:=CV (M4 hl);rw[← e] at q;rw[q,M4 hl]
theorem aB {y:α}(ha:EV X a Γ (ae r) xs Γ1)(hb:EV X b Γ1 ai i Γ2)(h:cM xs i=some y)(hs:eQ b:=by exact λ_ _=>rfl):EV X (.Subscript a b pos) Γ r y Γ2:=by
 intro σ H0 R0 H R E Q q;refine eS (iJ gQ aO aO hs) (ha σ H0 R0 H R E _ λv H1 R1 E1 s1 e1=>hb σ H0 R0 H1 R1 E1 _ λu H2 R2 E2 s2 e2=>?_);obtain⟨p,vs,rfl,ha,pp,z⟩:=(ae r).mono s2 e1;obtain⟨w,e3,e4⟩:=ie pp h;exact⟨p,vs,i,w,rfl,e2,aY.of (E2.sub _ _ ha),e3,q w H2 R2 E2 (s1.trans s2) e4⟩
theorem tN {xs:MC}{y:Int}(ha:EV X a Γ bK xs Γ1)(hb:EV X b Γ1 ai i Γ2)(h:cM xs i=some y)(hs:eQ b:=by exact λ_ _=>rfl):EV X (.Subscript a b pos) Γ ai y Γ2:=by
 intro σ H0 R0 H R E Q q;refine eS (iJ gQ aO aO hs) (ha σ H0 R0 H R E _ λv H1 R1 E1 s1 e1=>hb σ H0 R0 H1 R1 E1 _ λu H2 R2 E2 s2 e2=>?_);obtain⟨p,rfl,ha,z⟩:=bK.mono s2 e1;have e3:cM (xs.map V.int) i=some (.int y):=by
  unfold cM at h ⊢;rw[M8];cases e:gT xs.length i with
  | none=>rw[e] at h;cases h
  | some j=>
    rw[e] at h;show(xs.map V.int)[j]?=_;rw[Nc,show xs[j]?=some y from h];rfl
 exact⟨p,_,i,_,rfl,e2,E2.sub.seq ha,e3,q _ H2 R2 E2 (s1.trans s2) rfl⟩
theorem ye (j:Nat){x:Str}{p1:Pos}{y:α}(hb:EV X b Γ ai i Γ1)(hΓ:Γ[j]?=some (.mu r xs))(hΓ1:Γ1[j]?=some (.mu r xs))(h:cM xs i=some y)(hN:X.N[j]?=some x:=by rfl)(hv:autoParam (cb X.env.scope x) Tv)(hs:eQ b:=by exact λ_ _=>rfl)(hd:Ti x:=by decide)(S9:Tz x:=by decide):EV X (.Subscript (.Name x p1) b pos) Γ r y Γ1:=by
 intro σ H0 R0 H R E Q q;obtain⟨a,vs,e,_,_,_⟩:=E.ent j _ hΓ;refine eS (iJ gQ (a8 hN hv hd S9) aO hs) ⟨.ref a,?_,hb σ H0 R0 H R E _ λu H2 R2 E2 s2 e2=>?_⟩
 ·cases es:σ[j]? with
  | none=>rw[es] at e;cases e
  | some o=>rw[es] at e;exact congrArg some e
 ·obtain⟨a',TK,e',ha,hR,pp⟩:=E2.ent j _ hΓ1;rw[e] at e';cases e'
  obtain⟨w,e3,e4⟩:=ie pp h;exact⟨a,TK,i,w,rfl,e2,aY.of ha,e3,q w H2 R2 E2 s2 e4⟩
section
variable {a:Expr}{n:Int}{j:Nat}{p1 pos:Pos}{w:Row}
end
variable {a:Expr}{pos:Pos}{r:Rep α}{xs:List α}
def OV (X:Cx)(e:Option Expr)(Γ:Ga)(o:Option Int):Prop:=∃t,PO X e t/\∀(σ:St)(H0 R0 H R:Hp),aw X.K σ H0 R0 H R Γ->∀Q:Option Int->Hp->Prop,(∀H' R',aw X.K σ H0 R0 H' R' Γ->ay R R'->Q o H')->t σ H Q
theorem ov_none:OV X none Γ none:=⟨_,DJ,λσ H0 R0 H R E Q q=>q H R E (ay.refl _)⟩
theorem ov_some {e:Expr}{i:Int}(h:EV X e Γ ai i Γ):OV X (some e) Γ (some i):=⟨_,Ej aO,λσ H0 R0 H R E Q q=>h σ H0 R0 H R E _ λv H1 R1 E1 s1 e1=>⟨i,e1,q H1 R1 E1 s1⟩⟩
def cut (xs:List α)(lo hi:Option Int):List α:=(xs.drop (HT.Tj xs.length 0 lo)).take (HT.Tj xs.length xs.length hi-HT.Tj xs.length 0 lo)
theorem kC {F:α->β->Prop}:∀(n:Nat){vs:List α}{xs:List β},PySem.Paired F vs xs->PySem.Paired F (vs.drop n) (xs.drop n)
 | 0,_,_,h=>h
 | _+1,_,_,.nil=>.nil
 | n+1,_,_,.cons _ t=>kC n t
theorem iN {F:α->β->Prop}:∀(n:Nat){vs:List α}{xs:List β},PySem.Paired F vs xs->PySem.Paired F (vs.take n) (xs.take n)
 | 0,_,_,_=>.nil
 | _+1,_,_,.nil=>.nil
 | n+1,_,_,.cons h t=>.cons h (iN n t)
theorem d9 {F:α->β->Prop}:∀{vs:List α}{xs:List β}{TK:List α}{xs':List β},PySem.Paired F vs xs->PySem.Paired F TK xs'->PySem.Paired F (vs++TK) (xs++xs')
 | _,_,_,_,.nil,h=>h
 | _,_,_,_,.cons h t,h'=>.cons h (d9 t h')
theorem w8 (xs:List α)(lo hi:Option Int):(cut xs lo hi).length<=xs.length:=by
 unfold cut;rw[Nu,Ov];omega
theorem j7 {lo hi:Option Expr}{p2:Pos}{l h:Option Int}(ha:EV X a Γ (ae r) xs Γ)(hl:OV X lo Γ l)(hh:OV X hi Γ h):bg X (.Subscript a (.Slice lo hi none p2) pos) Γ r (cut xs l h) Γ:=by
 intro σ H0 R0 H R E Q q;obtain⟨tl,pl,kl⟩:=hl;obtain⟨th,ph,kh⟩:=hh;refine eS (lW DN aO pl ph) (ha σ H0 R0 H R E _ λv H1 R1 E1 s1 e1=>kl σ H0 R0 H1 R1 E1 _ λH2 R2 E2 s2=>kh σ H0 R0 H2 R2 E2 _ λH3 R3 E3 s3=>?_);obtain⟨p,vs,rfl,hp,pp,z⟩:=(ae r).mono (s2.trans s3) e1;refine⟨p,vs,rfl,aY.of (E3.sub _ _ hp),λd hd=>?_⟩;refine q d _ _ R3 (E3.grow (Ext.eC E3.sub hd _)) (s1.trans (s2.trans s3)) aF (E3.sub.free hd) (E3.ext.h.free hd) (E3.off hd) ?_ (O2 (w8 _ _ _) z);unfold cut kF;rw[pp.length];exact iN _ (kC _ pp)
theorem cF {b:Expr}{ys:List α}(ha:EV X a Γ (ae r) xs Γ1)(hb:EV X b Γ1 (ae r) ys Γ2)(hz:xs.length+ys.length<=PZ):bg X (.BinOp a .Add b pos) Γ r (xs++ys) Γ2:=by
 intro σ H0 R0 H R E Q q;refine eS (CG Hv aO aO) (ha σ H0 R0 H R E _ λv H1 R1 E1 s1 e1=>hb σ H0 R0 H1 R1 E1 _ λu H2 R2 E2 s2 e2=>?_);obtain⟨p,vs,rfl,hp,pp,z⟩:=(ae r).mono s2 e1;obtain⟨p',ws,rfl,VU,Uh,z'⟩:=e2;refine⟨p,p',vs,ws,rfl,rfl,E2.sub _ _ hp,E2.sub _ _ VU,by rw[pp.length,Uh.length];exact hz,λd hd=>?_⟩;exact q d _ _ R2 (E2.grow (Ext.eC E2.sub hd _)) (s1.trans s2) aF (E2.sub.free hd) (E2.ext.h.free hd) (E2.off hd) (d9 pp Uh) (by rw[M9];exact hz)
theorem fX {p:Pos}(hm:X.mg "len"=none)(ha:EV X a Γ (ae r) xs Γ1)(hs:PU [a] X.env=[(false,eval a X.env)]:=by rfl)(hg:Gl X "len":=by rfl):EV X (.Call (.Name "len" p) [a] [] pos) Γ ai (xs.length:Int) Γ1:=by
 intro σ H0 R0 H R E Q q;refine eS (dX fV hg hm Qq (aK aO bo hs) (by decide) (by decide) hs) (ha σ H0 R0 H R E _ λv H1 R1 E1 s1 e1=>?_);obtain⟨p,vs,rfl,hp,pp,z⟩:=e1;refine⟨p,vs,rfl,.inl (aY.of (E1.sub _ _ hp)),?_⟩;rw[pp.length];exact q _ H1 R1 E1 s1 rfl
theorem qE {p:Pos}{xs:MC}(hm:X.mg "len"=none)(ha:EV X a Γ bK xs Γ1)(hs:PU [a] X.env=[(false,eval a X.env)]:=by rfl)(hg:Gl X "len":=by rfl):EV X (.Call (.Name "len" p) [a] [] pos) Γ ai (xs.length:Int) Γ1:=by
 intro σ H0 R0 H R E Q q;refine eS (dX fV hg hm Qq (aK aO bo hs) (by decide) (by decide) hs) (ha σ H0 R0 H R E _ λv H1 R1 E1 s1 e1=>?_);obtain⟨p,rfl,hp,z⟩:=e1;refine⟨p,_,rfl,.inl (E1.sub.seq hp),?_⟩;rw[M8];exact q _ H1 R1 E1 s1 rfl
end
variable {X:Cx}{Γ Γ1 Γ2 Γ3:Ga}{α β γ δ:Type}{N:Ga->Prop}{T:RT}
section
variable {pos:Pos}{r:Rep α}{x:Str}{e:Expr}{p1:Pos}
theorem II {Γ':Ga}(w:Wk Γ Γ')(h:N Γ'):WS X [] Γ N T:=λσ H0 R0 H R E D dn dr=>Fg Ey (dn σ H R Γ' (E.weak w) (ay.refl _) h)
theorem aA (h:N Γ):WS X [] Γ N T:=II (Wk.refl Γ) h
theorem ah {st:Stmt}{rest:List Stmt}(h:W1 X st Γ (λΓ'=>WS X rest Γ' N T) T):WS X (st::rest) Γ N T:=λσ H0 R0 H R E D dn dr=>
 Fg (BD KO ib) (h σ H0 R0 H R E {D with nx:=rO X rest D} (λσ' H' R' Γ' E' s' h'=>h' σ' H0 R0 H' R' E' D (λσ2 H2 R2 Γ2 E2 s2=>dn σ2 H2 R2 Γ2 E2 (s'.trans s2)) dr) dr)
theorem ak {st:Stmt}(h:W1 X st Γ N T):WS X [st] Γ N T:=λσ H0 R0 H R E D dn dr=>Fg (DK KO) (h σ H0 R0 H R E D dn dr)
theorem bE (i:Nat){y:α}(he:EV X e Γ r y Γ1)(h:N (Γ1.set i (.im r y)))(hN:X.N.Nodup:=by first | assumption | decide)(hi:X.N[i]?=some x:=by rfl)(hx:autoParam (Loc X.env.scope x) UH)(hs:P9 e (some (.Name x p1)) pos.line X.env=pure false:=by rfl)(hf:autoParam (X.fn x=true∨X.env.scope.names.lookup x=some .local) UG):W1 X (.Assign [.Name x p1] e pos) Γ N T:=λσ H0 R0 H R E D dn dr=>
 sS (jV hN hi hx aO hs hf) (he σ H0 R0 H R E _ λv H1 R1 E1 s1 e1=>dn _ H1 R1 _ (E1.set i e1) s1 h)
theorem cO (i:Nat){ys:List α}(he:bg X e Γ r ys Γ1)(h:N (Γ1.set i (.mu r ys)))(hN:X.N.Nodup:=by first | assumption | decide)(hi:X.N[i]?=some x:=by rfl)(hx:autoParam (Loc X.env.scope x) UH)(hs:P9 e (some (.Name x p1)) pos.line X.env=pure false:=by rfl)(hf:autoParam (X.fn x=true∨X.env.scope.names.lookup x=some .local) UG):W1 X (.Assign [.Name x p1] e pos) Γ N T:=λσ H0 R0 H R E D dn dr=>
 sS (jV hN hi hx aO hs hf) (he σ H0 R0 H R E _ λa vs H1 R1 E1 s1 ha hR h0 off p z=>dn _ H1 R1 _ (E1.wK (u:=.lst vs) (en:=.mu r ys) i ⟨a,vs,rfl,ha,hR,p⟩ h0 λj e _ q w=>off j e q w) s1 h)
theorem bb {P:α->Prop}{y:α}(he:EV X e Γ r y Γ1)(h:P y):W1 X (.Return (some e) pos) Γ N (dq X.K r P):=λσ H0 R0 H R E D dn dr=>
 sS (jX aO) (he σ H0 R0 H R E _ λv H1 R1 E1 s1 e1=>dr v H1 R1 E1.ext ⟨y,e1,h⟩)
theorem Hi {P:List α->Prop}{ys:List α}(he:bg X e Γ r ys Γ1)(h:P ys):W1 X (.Return (some e) pos) Γ N (B7 X.K r P):=λσ H0 R0 H R E D dn dr=>
 sS (jX aO) (he σ H0 R0 H R E _ λa vs H1 R1 E1 s1 ha hR h0 off p z=>dr _ H1 R1 E1.ext ⟨a,vs,ys,rfl,h0,ha,hR,p,z,h⟩)
theorem aL {c:Expr}{a b:List Stmt}{k:Bool}(hc:TV X c Γ k Γ1)(h1:k=true->WS X a Γ1 N T)(h2:k=false->WS X b Γ1 N T):W1 X (.If c a b pos) Γ N T:=λσ H0 R0 H R E D dn dr=>by
 refine sS (J1 oP ib ib) (hc σ H0 R0 H R E _ λH1 R1 E1 s1=>?_);cases k with
 | true=>exact mM (h1 rfl σ H0 R0 H1 R1 E1 D (λσ2 H2 R2 Γ2 E2 s2=>dn σ2 H2 R2 Γ2 E2 (s1.trans s2)) dr)
 | false=>exact mm (h2 rfl σ H0 R0 H1 R1 E1 D (λσ2 H2 R2 Γ2 E2 s2=>dn σ2 H2 R2 Γ2 E2 (s1.trans s2)) dr)
theorem bt (i:Nat)(hN:X.N.Nodup:=by first | assumption | decide)(hi:X.N[i]?=some x:=by rfl)(hx:autoParam (Loc X.env.scope x) UH)(hf:autoParam (X.fn x=true∨X.env.scope.names.lookup x=some .local) UG):
 BG X (.Name x pos) r (λy Γ=>Γ.set i (.im r y)):=λσ H0 R0 H R Γ v x E h Q q=>gS (fq hN hi hx hf) (q _ (E.set i h))
theorem eh (i j:Nat){y:Str}{k:Nat}{p2:Pos}{r':Rep β}(hc:X.calm=true:=by rfl)(hN:X.N.Nodup:=by first | assumption | decide)(hi:X.N[i]?=some x:=by rfl)(hx:autoParam (Loc X.env.scope x) UH)(hf:autoParam (X.fn x=true∨X.env.scope.names.lookup x=some .local) UG)(hj:X.N[j]?=some y:=by rfl)(hy:autoParam (Loc X.env.scope y) UH)(hf':autoParam (X.fn y=true∨X.env.scope.names.lookup y=some .local) UG):
 BG X (.Tuple [.Name x p1,.Name y p2] k pos) (fD r r') (λw Γ=>(Γ.set i (.im r w.1)).set j (.im r' w.2)):=λσ H0 R0 H R Γ v w E h Q q=>by
 obtain⟨a,v1,v2,rfl,ha,e1,e2⟩:=h;exact gS (sY hc (eW (fq hN hi hx hf) (eW (fq hN hj hy hf') pW))) ⟨a,_,rfl,cC.of (E.sub _ _ ha),rfl,v1,[v2],rfl,v2,[],rfl,rfl,q _ ((E.set i e1).set j e2)⟩
end
section
variable {pos:Pos}{x:Str}{p1:Pos}{r:Rep α}{xs:List α}{kvs:List (Int×V)}{e:Expr}{y:α}
theorem at_of {σ:St}{i:Nat}{v:V}(e:(σ[i]?).join=some v):σ[i]?=some (some v):=by
 cases es:σ[i]? with
 | none=>rw[es] at e;cases e
 | some o=>rw[es] at e;exact congrArg some e
theorem qf {c:Expr}{body:List Stmt}(I:Nat->Ga->Prop){m0:Nat}(h0:I m0 Γ)(T2:∀(m:Nat)(Γ:Ga),I m Γ->∃(k:Bool)(Γ':Ga),TV X c Γ k Γ'/\(k=true->WS X body Γ' (λΓ''=>∃m',m'<m/\I m' Γ'') T)/\(k=false->N Γ'))(hp:QX (model X.prog X.w) X.A X.env X.xe:=by exact QX.never):W1 X (.While c body [] pos) Γ N T:=λσ H0 R0 H R E D dn dr=>by
 refine sS (A0 hp oP ib) ?_;refine⟨λm σ' H'=>∃R' Γ',aw X.K σ' H0 R0 H' R' Γ'/\ay R R'/\I m Γ',⟨m0,R,Γ,E,ay.refl _,h0⟩,?_⟩;rintro m σ' H' ⟨R',Γ',E',s',hI⟩;obtain⟨k,Γ2,ht,h1,h2⟩:=T2 m Γ' hI;refine ht σ' H0 R0 H' R' E' _ λH1 R1 E1 s1=>?_;cases k with
 | true=>
   refine mM ⟨_,λσ2 H2 h=>h,h1 rfl σ' H0 R0 H1 R1 E1 _ (λσ3 H3 R3 Γ3 E3 s3 h3=>?_) dr⟩;obtain⟨m',hm,hI'⟩:=h3;exact⟨m',hm,R3,Γ3,E3,s'.trans (s1.trans s3),hI'⟩
 | false=>exact mm (dn σ' H1 R1 Γ2 E1 (s'.trans s1) (h2 rfl))
theorem fc (i:Nat){ap cp:Pos}(he:EV X e Γ r y Γ1)(hΓ:Γ[i]?=some (.mu r xs))(hΓ1:Γ1[i]?=some (.mu r xs))(hz:xs.length<PZ)(h:N (Γ1.set i (.mu r (xs++[y]))))(hN:X.N[i]?=some x:=by rfl)(hv:autoParam (cb X.env.scope x) Tv)(hd:Ti x:=by decide)(S9:Tz x:=by decide)(Uj:P9 (.Call (.Attribute (.Name x p1) "append" ap) [e] [] cp) none pos.line X.env=pure false:=by rfl)(Tc:P6 (.Name x p1) "append" X.env (eval (.Name x p1) X.env)=eval (.Name x p1) X.env:=by rfl)(TN:((P8 cp (PU [e] X.env)).all (λx=> !x.1)&&(Qy cp (Qm [] X.env)).all (λx=>x.1.isSome)
  &&decide ([e].length+([]:List Qc).length+(if([]:List Qc).isEmpty then 0 else 1)<30))=true:=by rfl)(Tb:(ap.endLine==cp.line)=true:=by rfl)(hs:PU [e] X.env=(false,eval e X.env)::PU [] X.env:=by rfl):W1 X (.Expr (.Call (.Attribute (.Name x p1) "append" ap) [e] [] cp) pos) Γ N T:=λσ H0 R0 H R E D dn dr=>by
 obtain⟨a,vs,ea,ha,hR,pp⟩:=E.ent i _ hΓ;refine sS (eo (iK RC RE RF jb (a8 hN hv hd S9) (aK aO bo hs) Tc TN Tb hs rfl) Uj) ?_;refine⟨.ref a,at_of ea,.inl ⟨rfl,vs,aY.of ha⟩,he σ H0 R0 H R E _ λv H1 R1 E1 s1 e1=>?_⟩;obtain⟨a',TK,T1,Ud,T7,Uh⟩:=E1.ent i _ hΓ1;rw[ea] at T1;cases T1
 refine⟨a,TK,v,rfl,rfl,Ud,by rw[Uh.length];exact hz,?_⟩;exact dn σ _ R1 _ (E1.upd (en:=.mu r (xs++[y])) hΓ1 rfl ea T7 ⟨a,_,rfl,aF,T7,d9 Uh (.cons e1 .nil)⟩) s1 h
theorem lI {F:α->β->Prop}{v:α}{y:β}(h:F v y):∀{vs:List α}{xs:List β}(i:Nat),PySem.Paired F vs xs->PySem.Paired F (vs.set i v) (xs.set i y)
 | _,_,_,.nil=>.nil
 | _,_,0,.cons _ t=>.cons h t
 | _,_,i+1,.cons q t=>.cons q (lI h i t)
theorem EC (i:Nat){b:Expr}{p2:Pos}{k:Int}{j:Nat}(he:EV X e Γ r y Γ1)(hb:EV X b Γ1 ai k Γ2)(hΓ1:Γ1[i]?=some (.mu r xs))(hΓ2:Γ2[i]?=some (.mu r xs))(hj:gT xs.length k=some j)(h:N (Γ2.set i (.mu r (xs.set j y))))(hN:X.N[i]?=some x:=by rfl)(hv:autoParam (cb X.env.scope x) Tv)(hd:Ti x:=by decide)(S9:Tz x:=by decide)(ha:∀v,QB (.Subscript (.Name x p1) b p2) X.env v=(do
  let ov ← Qv [v] (eval (.Name x p1) X.env)
  let iv ← Qv [v,ov] (eval b X.env)
  QT p2
  Qv [v,ov,iv] (setItem ov iv v)
  release [v,ov,iv] []):=by intro _;rfl)(hs:QY [.Subscript (.Name x p1) b p2] e pos.line X.env=pure false:=by rfl)(hw:QZ [.Subscript (.Name x p1) b p2] e X.env=pure none:=by rfl)(h1:(QA [.Subscript (.Name x p1) b p2] X.env).map (·.2)=[QB (.Subscript (.Name x p1) b p2) X.env]:=by rfl):
 W1 X (.Assign [.Subscript (.Name x p1) b p2] e pos) Γ N T:=λσ H0 R0 H R E D dn dr=>by
 refine sS (tP aO (zu (a8 hN hv hd S9) aO set_list ha) hs hw h1) (he σ H0 R0 H R E _ λv H1 R1 E1 s1 e1=>?_);obtain⟨a,vs,ea,hp,hR,pp⟩:=E1.ent i _ hΓ1;refine⟨.ref a,at_of ea,hb σ H0 R0 H1 R1 E1 _ λu H2 R2 E2 s2 e2=>?_⟩;obtain⟨a',TK,T1,Ud,T7,Uh⟩:=E2.ent i _ hΓ2;rw[ea] at T1;cases T1
 refine⟨a,TK,k,j,rfl,e2,Ud,by rw[Uh.length];exact hj,?_⟩;exact dn σ _ R2 _ (E2.upd (en:=.mu r (xs.set j y)) hΓ2 rfl ea T7 ⟨a,_,rfl,aF,T7,lI (r.mono s2 e1) j Uh⟩) (s1.trans s2) h
theorem pN {F:α->β->Prop}{vs:List α}{xs:List β}(p:PySem.Paired F vs xs):PySem.Paired F vs.dropLast xs.dropLast:=by
 rw[List.dropLast_eq_take,List.dropLast_eq_take,p.length];exact iN _ p
theorem zP (i:Nat){ap cp:Pos}(hΓ:Γ[i]?=some (.mu r xs))(hy:xs[xs.length-1]?=some y)(hN:X.N[i]?=some x:=by rfl)(hv:autoParam (cb X.env.scope x) Tv)(hd:Ti x:=by decide)(S9:Tz x:=by decide)(Tc:P6 (.Name x p1) "pop" X.env (eval (.Name x p1) X.env)=eval (.Name x p1) X.env:=by rfl)(Tb:(ap.endLine==cp.line)=true:=by rfl):
 EV X (.Call (.Attribute (.Name x p1) "pop" ap) [] [] cp) Γ r y (Γ.set i (.mu r xs.dropLast)):=by
 intro σ H0 R0 H R E Q q;obtain⟨a,vs,ea,ha,hR,pp⟩:=E.ent i _ hΓ;obtain⟨v,UM,hr⟩:=dg pp hy;refine eS (zQ RC PySem.F.slot_list_pop PySem.F.type_list_pop GF (a8 hN hv hd S9) Tc Tb) ⟨.ref a,at_of ea,.inl ⟨rfl,vs,aY.of ha⟩,?_⟩;refine⟨a,vs,v,rfl,rfl,ha,by rw[pp.length];exact UM,?_⟩;exact q v _ R (E.upd hΓ rfl ea hR ⟨a,_,rfl,aF,hR,pN pp⟩) (ay.refl _) hr
theorem uA (i:Nat)(hΓ:Γ[i]?=some (.mu r xs))(hN:X.N[i]?=some x:=by rfl)(hv:autoParam (cb X.env.scope x) Tv)(hd:Ti x:=by decide)(S9:Tz x:=by decide)(he:∀whole,QH (.Name x pos) X.env whole=(do let v ← whole;QT (Expr.Name x pos).pos;Qv [v] (truthy v)):=by intro _;rfl):TV X (.Name x pos) Γ (!xs.isEmpty) Γ:=by
 intro σ H0 R0 H R E Q q;obtain⟨a,vs,ea,ha,hR,pp⟩:=E.ent i _ hΓ;refine tS (sg (a8 hN hv hd S9) he) ⟨.ref a,at_of ea, !xs.isEmpty,.inl ⟨vs,aY.of ha,?_⟩,q H R E (ay.refl _)⟩;cases pp<;>rfl
theorem EL (i:Nat){p:Pos}(hm:X.mg "len"=none)(hΓ:Γ[i]?=some (.mu r xs))(hN:X.N[i]?=some x:=by rfl)(hv:autoParam (cb X.env.scope x) Tv)(hd:Ti x:=by decide)(S9:Tz x:=by decide)(hg:Gl X "len":=by rfl):EV X (.Call (.Name "len" p) [.Name x p1] [] pos) Γ ai (xs.length:Int) Γ:=by
 intro σ H0 R0 H R E Q q;obtain⟨a,vs,ea,ha,hR,pp⟩:=E.ent i _ hΓ;refine eS (dX fV hg hm Qq (aK (a8 hN hv hd S9) bo rfl) (by decide) (by decide) rfl) ⟨.ref a,at_of ea,a,vs,rfl,.inl (aY.of ha),?_⟩;rw[pp.length];exact q _ H R E (ay.refl _) rfl
theorem freeze {K:Sk}{σ:St}{H0 R0 H R:Hp}(E:aw K σ H0 R0 H R Γ){i:Nat}(hΓ:Γ[i]?=some (.mu r xs))(hz:xs.length<=PZ):∃R' v,aw K σ H0 R0 H R' (Γ.set i (.im (ae r) xs))/\ay R R'/\(σ[i]?).join=some v/\(ae r).R K R' v xs:=by
 obtain⟨a,vs,ea,ha,hR,pp⟩:=E.ent i _ hΓ;have h0:H0 a=none:=E.new i _ a hΓ rfl ea;have s2:ay R (upd R a (.lst vs)):=ay.fresh hR _;have rr:(ae r).R K (upd R a (.lst vs)) (.ref a) xs:=⟨a,vs,rfl,aF,Paired.map (λ_ _=>r.mono s2) pp,hz⟩;have E1:aw K σ H0 R0 H R (Γ.set i .no):=E.tell hΓ trivial λb w=>by cases w
 have E2:=E1.oG ha hR h0 λj e q w=>by
  rcases set_at q with⟨rfl,rfl,_⟩ | ⟨hj,q1⟩
  ·cases w
  ·exact hj (E.ds j i e _ a q1 hΓ w ((Ent.px (e:=.mu r xs) rfl).mpr ea))
 have hl:i<Γ.length:=(M1.mp hΓ).1;have E3:=E2.tell (i:=i) (e0:=.no) (en:=.im (ae r) xs) (Ni hl) ⟨_,ea,rr⟩ λb w=>by cases w
 rw[Og] at E3;exact⟨_,.ref a,E3,s2,ea,rr⟩
theorem WS.freeze (i:Nat){Uw:List Stmt}(hΓ:Γ[i]?=some (.mu r xs))(hz:xs.length<=PZ)(h:WS X Uw (Γ.set i (.im (ae r) xs)) N T):WS X Uw Γ N T:=λσ H0 R0 H R E D dn dr=>by
 obtain⟨R',v,E',s',_,_⟩:=Fc.freeze E hΓ hz;exact h σ H0 R0 H R' E' D (λσ2 H2 R2 Γ2 E2 s2=>dn σ2 H2 R2 Γ2 E2 (s'.trans s2)) dr
def hV:Rep (List (Int×V)):=⟨λK H v kvs=>∃a,v= .ref a/\H a=some (.dK (cE kvs)),λs ⟨a,e,q⟩=>⟨a,e,s _ _ q⟩⟩
def ic (kvs:List (Int×V))(k:Int):Bool:=kvs.any λp=>decide (p.1=k)
theorem lx (kvs:List (Int×V))(k:Int):(cW (cE kvs) (Sum.inl k:Key)).isSome=ic kvs k:=by
 rw[← gI];unfold cE ic;rw[List.any_map];congr 1;funext p;show decide ((Sum.inl p.1:Key)=Sum.inl k)=decide (p.1=k);by_cases h:p.1=k
 ·rw[h];simp
 ·rw[SW h,SW λz=>h (Sum.inl.inj z)]
theorem Ep (i:Nat)(neg:Bool){k:Int}(hu:X.A.units+1<cLine)(he:EV X e Γ ai k Γ)(hΓ:Γ[i]?=some (.di kvs))(hN:X.N[i]?=some x:=by rfl)(hv:autoParam (cb X.env.scope x) Tv)(hd:Ti x:=by decide)(S9:Tz x:=by decide):
 TV X (.Compare e [if neg then .NotIn else .In] [.Name x p1] pos) Γ (if neg then !ic kvs k else ic kvs k) Γ:=by
 intro σ H0 R0 H R E Q q;cases neg with
 | false=>
   refine tS (kS (Hk hu aO (a8 hN hv hd S9)) (by with_unfolding_all rfl)) (he σ H0 R0 H R E _ λv H1 R1 E1 s1 e1=>?_);obtain⟨a,ea,ha,hR⟩:=E1.ent i _ hΓ;cases e1
   refine⟨.ref a,at_of ea,a,_,rfl,gH.k (k:=Sum.inl k) ha,_,rfl,?_⟩;rw[lx];exact q H1 R1 E1 s1
 | true=>
   refine tS (kS (kq hu aO (a8 hN hv hd S9)) (by with_unfolding_all rfl)) (he σ H0 R0 H R E _ λv H1 R1 E1 s1 e1=>?_);obtain⟨a,ea,ha,hR⟩:=E1.ent i _ hΓ;cases e1
   refine⟨.ref a,at_of ea,a,_,rfl,gH.k (k:=Sum.inl k) ha,_,rfl,?_⟩;rw[lx];exact q H1 R1 E1 s1
theorem yG (i:Nat){ke ve:Expr}{p2:Pos}{k:Int}{v:V}(hu:X.A.units+1<cLine)(hk:EV X ke Γ ai k Γ)(hv:PE X ve (tC v))(hΓ:Γ[i]?=some (.di kvs))(hn:ic kvs k=false)(hz:kvs.length<PZ)(h:N (Γ.set i (.di (kvs++[(k,v)]))))(hN:X.N[i]?=some x:=by rfl)(Xt:autoParam (cb X.env.scope x) Tv)(hd:Ti x:=by decide)(S9:Tz x:=by decide)(hs:P9 ve (some (.Subscript (.Name x p1) ke p2)) pos.line X.env=pure false:=by rfl):W1 X (.Assign [.Subscript (.Name x p1) ke p2] ve pos) Γ N T:=λσ H0 R0 H R E D dn dr=>by
 refine sS (qv hu (a8 hN Xt hd S9) aO hv hs) ?_;obtain⟨a,ea,ha,hR⟩:=E.ent i _ hΓ;refine⟨.ref a,at_of ea,hk σ H0 R0 H R E _ λu H1 R1 E1 s1 e1=>?_⟩;obtain⟨a',T1,Ud,T7⟩:=E1.ent i _ hΓ;rw[ea] at T1;cases T1
 cases e1
 refine⟨a,_,rfl,n6.k (k:=Sum.inl k) Ud (by unfold cE;rw[M8];exact hz),?_⟩;have vn:cW (cE kvs) (Sum.inl k:Key)=none:=by
  have:=lx kvs k;rw[hn] at this;cases q:cW (cE kvs) (Sum.inl k:Key) with
  | none=>rfl
  | some z=>rw[q] at this;cases this
 rw[n9 v vn];have e:cE kvs++[((Sum.inl k:Key),v)]=cE (kvs++[(k,v)]):=by unfold cE;rw[Nn];rfl
 rw[e];exact dn σ _ R1 _ (E1.upd (en:=.di (kvs++[(k,v)])) hΓ rfl ea T7 ⟨a,rfl,aF,T7⟩) s1 h
theorem Hq (i:Nat){P:List (Int×V)->Prop}(hΓ:Γ[i]?=some (.di kvs))(h:P kvs)(hN:X.N[i]?=some x:=by rfl)(hv:autoParam (cb X.env.scope x) Tv)(hd:Ti x:=by decide)(S9:Tz x:=by decide):W1 X (.Return (some (.Name x p1)) pos) Γ N (dq X.K hV P):=λσ H0 R0 H R E D dn dr=>by
 obtain⟨a,ea,ha,hR⟩:=E.ent i _ hΓ;have h0:H0 a=none:=E.new i _ a hΓ rfl ea;refine sS (jX (a8 hN hv hd S9)) ⟨.ref a,at_of ea,dr _ H (upd R a (.dK (cE kvs))) ⟨E.ext.h,E.ext.r.trans (ay.fresh hR _),λb o qb=>?_,λb hb=>?_⟩ ⟨kvs,⟨a,rfl,aF⟩,h⟩⟩
 ·by_cases hb:b=a
  ·subst hb;rw[aF] at qb;cases qb;exact ha
  ·rw[aG hb] at qb;exact E.ext.s b o qb
 ·rw[aG (show b≠a from λe=>hb (by rw[e];exact h0))];exact E.ext.old b hb
theorem D6 {a:Expr}{p:Pos}(hm:X.mg "len"=none)(ha:EV X a Γ hV kvs Γ1)(hs:PU [a] X.env=[(false,eval a X.env)]:=by rfl)(hg:Gl X "len":=by rfl):EV X (.Call (.Name "len" p) [a] [] pos) Γ ai (kvs.length:Int) Γ1:=by
 intro σ H0 R0 H R E Q q;refine eS (dX qJ hg hm Qq (aK aO bo hs) (by decide) (by decide) hs) (ha σ H0 R0 H R E _ λv H1 R1 E1 s1 e1=>?_);obtain⟨p,rfl,hp⟩:=e1;refine⟨p,_,rfl,E1.sub _ _ hp,?_⟩;unfold cE;rw[M8];exact q _ H1 R1 E1 s1 rfl
end
abbrev dI:=Sk->List Pk->RT->Prop
def a9 (S:dI)(K:Sk):Sp:=λvs H Q _=>∃R ps T,ay R H/\kA K R vs ps/\S K ps T/\∀v H' R',Ext H R H' R'->T H v H' R'->Q v H'
theorem kA.length {K:Sk}{R:Hp}:∀{vs:List V}{ps:List Pk},kA K R vs ps->vs.length=ps.length
 | _,_,.nil=>rfl
 | _,_,.cons _ t=>by rw[Nf,Nf,kA.length t]
structure aM (P:P2)(w:World)(K:Sk)(mg:MA)(base:Heap)(x:Str)(k:Nat)(sp:Sp):Prop where
 ex:∃f fd ps,d6 P w K mg base d8 k f fd ps sp/\mg x=some (.ref f)/\Sq K (.ref f)=true/\Binds K fd ps []
theorem aM.mono {P:P2}{w:World}{K:Sk}{mg:MA}{base:Heap}{x:Str}{j k:Nat}{sp:Sp}(c:aM P w K mg base x j sp)(h:j<=k):aM P w K mg base x k sp:=by
 obtain⟨f,fd,ps,F,a,b,c⟩:=c.ex;exact⟨f,fd,ps,F.mono h,a,b,c⟩
section
variable {S:dI}{x:Str}{e:Expr}{es:MI}{pos:Pos}{ps:List Pk}
theorem lU {k:Nat}{p:Pos}{Q:VK}{σ:St}{H0 R0 H R:Hp}(C:aM X.prog X.w X.K X.mg X.base x k (a9 S X.K))(hr:bI k X.A)(ha:HA X (e::es) Γ ps Γ1)(hS:S X.K ps T)(E:aw X.K σ H0 R0 H R Γ)(q:∀H1 R1 v H' R',aw X.K σ H0 R0 H1 R1 Γ1->ay R R1->Ext H1 R1 H' R'->T H1 v H' R'->Q v H')(hg:Gl X x)(TZ:(x==("__debug__":Str))=false)(he:PU (e::es) X.env=(false,eval e X.env)::PU es X.env)(To:(P8 pos (PU es X.env)).any (·.1)=false):gK X (.Call (.Name x p) (e::es) [] pos) σ H Q:=by
 obtain⟨f,fd,pn,F,hm,hk,hb⟩:=C.ex;refine eS (iE F hr hg hm hk hb .nil kj me TZ he To) (ha σ H0 R0 H R E _ λvs H1 R1 E1 s1 p1=>?_);refine⟨R1,ps,T,E1.sub,by rw[Nw];exact p1,hS,λv H' R' x t=>q H1 R1 v H' R' E1 s1 x t⟩
theorem aP {k:Nat}{p:Pos}{r:Rep α}{y:α}(C:aM X.prog X.w X.K X.mg X.base x k (a9 S X.K))(hr:bI k X.A)(ha:HA X (e::es) Γ ps Γ1)(hS:S X.K ps (dq X.K r (· =y)))(hg:Gl X x:=by rfl)(TZ:Ti x:=by decide)(he:PU (e::es) X.env=(false,eval e X.env)::PU es X.env:=by rfl)(To:(P8 pos (PU es X.env)).any (·.1)=false:=by rfl):EV X (.Call (.Name x p) (e::es) [] pos) Γ r y Γ1:=λσ H0 R0 H R E Q q=>
 lU C hr ha hS E (λH1 R1 v H' R' E1 s1 xx t=>by
  obtain⟨z,e1,rfl⟩:=t;exact q v H' R' (E1.grow xx) (s1.trans xx.r) e1) hg TZ he To
theorem Bg {k:Nat}{p:Pos}{r:Rep α}{ys:List α}(C:aM X.prog X.w X.K X.mg X.base x k (a9 S X.K))(hr:bI k X.A)(ha:HA X (e::es) Γ ps Γ1)(hS:S X.K ps (B7 X.K r (· =ys)))(hg:Gl X x:=by rfl)(TZ:Ti x:=by decide)(he:PU (e::es) X.env=(false,eval e X.env)::PU es X.env:=by rfl)(To:(P8 pos (PU es X.env)).any (·.1)=false:=by rfl):bg X (.Call (.Name x p) (e::es) [] pos) Γ r ys Γ1:=λσ H0 R0 H R E Q q=>
 lU C hr ha hS E (λH1 R1 v H' R' E1 s1 xx t=>by
  obtain⟨a,vs,zs,rfl,h0,h1,h2,p,z,rfl⟩:=t;exact q a vs H' R' (E1.grow xx) (s1.trans xx.r) h1 h2 (E1.ext.h.free h0) (E1.off h0) p z) hg TZ he To
end
def fO (ps:List Pk)(n:Nat):Ga:=ps.map (λp=>Ent.im p.r p.x)++N3 (n-ps.length) .no
theorem ku {K:Sk}{R H:Hp}{vs:List V}{ps:List Pk}{N:ME}(s:ay R H)(p:kA K R vs ps)(hl:ps.length<=N.length):aw K (L2.start N vs) H R H R (fO ps N.length):=by
 have Ts:∀(i:Nat)(e:Ent)(o:Option V),(fO ps N.length)[i]?=some e->e.fp o=[]:=λi e o q=>by
  unfold fO at q;rcases Nj.mp (Ng q) with z | z
  ·obtain⟨p,_,rfl⟩:=Nx.mp z;rfl
  ·obtain⟨_,rfl⟩:=OK.mp z;rfl
 refine⟨Ext.refl s,λi e q=>?_,λi e a q w=>SQ w (by rw[Ts i e _ q];exact Nv),λi j e e' a q _ w=>SQ w (by rw[Ts i e _ q];exact Nv),?_⟩
 ·have hp:=p.length;unfold fO at q;unfold L2.start;by_cases hi:i<ps.length
  ·rw[NF (by simpa using hi),Nc] at q;rw[NF (by simpa[hp] using hi),Nc];have key:∀{vs:List V}{ps:List Pk},kA K R vs ps->∀(i:Nat)(p:Pk),ps[i]?=some p->∃v,vs[i]?=some v/\p.r.R K R v p.x:=by
    intro vs ps h
    induction h with
    | nil=>intro i p e;simp at e
    | cons a b ih=>
      intro i p e;cases i with
      | zero=>simp at e;subst e;exact⟨_,rfl,a⟩
      | succ i=>simpa using ih i p (by simpa using e)
   cases e1:ps[i]? with
   | none=>rw[e1] at q;cases q
   | some p1=>
     rw[e1] at q;cases q
     obtain⟨v,h1,h2⟩:=key p i p1 e1;rw[h1];exact⟨v,rfl,h2⟩
  ·rw[Ny (by simpa using hi),Ow] at q;split at q
   ·cases q;trivial
   ·cases q
 ·unfold fO L2.start;rw[M9,M9,M8,M8,N4,N4,p.length]
section
variable {P:P2}{w:World}{K:Sk}{mg:MA}{base:Heap}
def Def (K:Sk)(mg:MA)(x:Str)(st:Stmt)(ps:ME):Prop:=∃f fd,dQ K x x st f fd/\mg x=some (.ref f)/\Binds K fd ps []
theorem jo {S:dI}{x qual:Str}{st:Stmt}{f:Addr}{fd:Qa}{N ps:ME}{k:Nat}(F:dQ K x qual st f fd)(Sc:aN N ps (ao st))(hm:mg x=some (.ref f))(hb:Binds K fd ps [])(len:∀qs T,S K qs T->qs.length=ps.length)(TB:∀(S6:Value)(A:P7)(outer:List Env)(s:PX)(H:Hp)(E:XK)(qs:List Pk)(T:RT),bI k (A.deeper (PK qual (ao st) s.heap.objs.size f S6))->S K qs T->
  WS (eN d8 P w K mg base N qual (ao st) f S6 A outer s H E).iq (br st) (fO qs N.length) (λ_=>False) T):aM P w K mg base x (k+1) (a9 S K):=by
 refine⟨f,fd,ps,?_,hm,F.kp,hb⟩;refine F.ok Sc (λvs H Q E h=>?_) (λS6 A outer s H vs Q E hr h=>?_)
 ·obtain⟨R,qs,T,_,p,hS,_⟩:=h;rw[p.length];exact len qs T hS
 ·obtain⟨R,qs,T,sR,p,hS,q⟩:=h;have hl:qs.length<=N.length:=by
   rw[len qs T hS];have:=congrArg List.length Sc.pre;rw[Nu] at this;omega
  exact⟨_,ib,TB S6 A outer s H E qs T hr hS (L2.start N vs) H R H R (ku sR p hl) {nx:=λ_ H'=>Q .Tf H',rt:=Q} (λ_ _ _ _ _ _ f=>f.elim) λv H' R' xx t=>q v H' R' xx t⟩
theorem bR {S:dI}{x:Str}{st:Stmt}{N ps:ME}{k:Nat}(D:Def K mg x st ps)(Sc:aN N ps (ao st))(TB:∀(f:Addr)(S6:Value)(A:P7)(outer:List Env)(s:PX)(H:Hp)(E:XK)(qs:List Pk)(T:RT),bI k (A.deeper (PK x (ao st) s.heap.objs.size f S6))->S K qs T->
  WS (eN d8 P w K mg base N x (ao st) f S6 A outer s H E).iq (br st) (fO qs N.length) (λ_=>False) T)(len:∀qs T,S K qs T->qs.length=ps.length:=by(intros;rename_i h;repeat (first | (rw[h.1];rfl) | obtain⟨_,h⟩:=h))):aM P w K mg base x (k+1) (a9 S K):=by
 obtain⟨f,fd,F,hm,hb⟩:=D;exact jo F Sc hm hb len (TB f)
end
section
variable {a:Expr}{pos:Pos}
theorem sk {bs:List Bool}{us:MH}(r:Vals (bs.map V.bl) us){j:Nat}{v:Value}(h:us.toArray[j]?=some v):v= .bool (bs.getD j true):=by
 induction bs generalizing us j with
 | nil=>cases r;simp at h
 | cons b r' ih=>
   cases r with
   | cons h1 t=>
     cases j with
     | zero=>simp at h;rw[← h];exact h1
     | succ j=>exact ih t (by simpa using h)
theorem all_range (bs:List Bool):((Nk bs.length).all λj=>bs.getD j true)=bs.all id:=by
 rw[MO,all_eq_true,all_eq_true];constructor
 ·intro h b hb;obtain⟨j,hj,rfl⟩:=List.mem_iff_getElem.mp hb;have:=h j (Oi.mpr hj);simpa[Na,M4 hj] using this
 ·intro h j hj;have hj:=Oi.mp hj;simpa[Na,M4 hj] using h _ (NK hj)
theorem any_range (bs:List Bool):((Nk bs.length).any λj=>bs.getD j true)=bs.any id:=by
 rw[MO,OR,OR];constructor
 ·rintro⟨j,hj,h⟩;have hj:=Oi.mp hj;exact⟨_,NK hj,by simpa[Na,M4 hj] using h⟩
 ·rintro⟨b,hb,h⟩;obtain⟨j,hj,rfl⟩:=List.mem_iff_getElem.mp hb;exact⟨j,Oi.mpr hj,by simpa[Na,M4 hj] using h⟩
theorem Ai (hc:X.calm=true):fF X (.builtin "all") (λxs H Q=>∃(p:Addr)(bs:List Bool),xs=[.ref p]/\aY X.K H p (bs.map V.bl)/\Q (.bl (bs.all id)) H):=by
 intro S3 s σ H xs us Q I r h;obtain⟨p,bs,rfl,hq,q⟩:=h;obtain⟨u,rfl,rx⟩:=vals1 r;cases rx
 obtain⟨S5,r',pl,hz⟩:=I.list hq;have T9:p≠s.heap.objs.size:=λe=>by obtain⟨o,ho,_⟩:=pl.isList;exact SQ (RN ho) (by rw[e];exact O8 _)
 refine call_all_walk (QM pl.isList ?_);refine⟨s.heap.objs.size,_,[s.heap.objs.size],S5.toArray.size,_,_,λj=>bs.getD j true,rfl,Walks.list (A:=X.A.in1) (show X.A.in1.handled=none from I.ok.hd hc) s.heap.objs.size p T9 S5.toArray,?_,λj v s Q E hv hQ=>?_,λh' tk hk=>?_⟩
 ·refine⟨⟨_,RP _ rfl,rfl,rfl⟩,?_⟩;obtain⟨o,ho,c,n,d⟩:=pl.isList;exact⟨o,RM _ ho,c,n,d⟩
 ·rw[sk r' hv];exact Qb hQ
 ·have e:S5.toArray.size=bs.length:=by rw[Nm,← r'.length,M8]
  rw[e,all_range];exact⟨.bl _,H,I.kept λb o e=>hk b o (λz=>SQ (RN e) (by rw[M5.mp z];exact O8 _)) (RM _ e),rfl,q⟩
theorem Az (hc:X.calm=true):fF X (.builtin "any") (λxs H Q=>∃(p:Addr)(bs:List Bool),xs=[.ref p]/\aY X.K H p (bs.map V.bl)/\Q (.bl (bs.any id)) H):=by
 intro S3 s σ H xs us Q I r h;obtain⟨p,bs,rfl,hq,q⟩:=h;obtain⟨u,rfl,rx⟩:=vals1 r;cases rx
 obtain⟨S5,r',pl,hz⟩:=I.list hq;have T9:p≠s.heap.objs.size:=λe=>by obtain⟨o,ho,_⟩:=pl.isList;exact SQ (RN ho) (by rw[e];exact O8 _)
 refine call_any_walk (QM pl.isList ?_);refine⟨s.heap.objs.size,_,[s.heap.objs.size],S5.toArray.size,_,_,λj=>bs.getD j true,rfl,Walks.list (A:=X.A.in1) (show X.A.in1.handled=none from I.ok.hd hc) s.heap.objs.size p T9 S5.toArray,?_,λj v s Q E hv hQ=>?_,λh' tk hk=>?_⟩
 ·refine⟨⟨_,RP _ rfl,rfl,rfl⟩,?_⟩;obtain⟨o,ho,c,n,d⟩:=pl.isList;exact⟨o,RM _ ho,c,n,d⟩
 ·rw[sk r' hv];exact Qb hQ
 ·have e:S5.toArray.size=bs.length:=by rw[Nm,← r'.length,M8]
  rw[e,any_range];exact⟨.bl _,H,I.kept λb o e=>hk b o (λz=>SQ (RN e) (by rw[M5.mp z];exact O8 _)) (RM _ e),rfl,q⟩
theorem nM {K:Sk}{R:Hp}:∀{vs:List V}{xs:List Bool},PySem.Paired (cN.R K R) vs xs->vs=xs.map V.bl
 | _,_,.nil=>rfl
 | _,_,.cons h t=>by rw[Nz,← nM t];exact congrArg (· ::_) h
theorem B2 {x:Str}{id:String}{r:List V->Hp->VK->Prop}{p:Pos}{ra:Rep α}{rb:Rep β}{y:α}{z:β}(hc:fF X (.builtin id) r)(hm:X.mg x=none)(hv:Qs x=some (.builtin id))(ha:EV X a Γ ra y Γ1)(h:∀(R H:Hp) v Q,ay R H->ra.R X.K R v y->(∀w,rb.R X.K R w z->Q w H)->r [v] H Q)(hs:PU [a] X.env=[(false,eval a X.env)]:=by rfl)(hg:Gl X x:=by rfl)(hn:x≠"__name__":=by decide)(TZ:Ti x:=by decide):
 EV X (.Call (.Name x p) [a] [] pos) Γ rb z Γ1:=by
 intro σ H0 R0 H R E Q q;exact eS (dX hc hg hm hv (aK aO bo hs) hn TZ hs) (ha σ H0 R0 H R E _ λv H1 R1 E1 s1 e1=>h R1 H1 v _ E1.sub e1 λw hw=>q w H1 R1 E1 s1 hw)
theorem G8 {p:Pos}{bs:List Bool}(hm:X.mg "all"=none)(ha:EV X a Γ (ae cN) bs Γ1)(hs:PU [a] X.env=[(false,eval a X.env)]:=by rfl)(hc:X.calm=true:=by rfl)(hg:Gl X "all":=by rfl):EV X (.Call (.Name "all" p) [a] [] pos) Γ cN (bs.all id) Γ1:=
 B2 (Ai hc) hm boot_all ha (λR H v Q s ⟨p,vs,e,hp,pp,_⟩ q=>⟨p,bs,by rw[e],by rw[← nM pp];exact aY.of (s _ _ hp),q _ rfl⟩) hs hg
theorem GC {p:Pos}{bs:List Bool}(hm:X.mg "any"=none)(ha:EV X a Γ (ae cN) bs Γ1)(hs:PU [a] X.env=[(false,eval a X.env)]:=by rfl)(hc:X.calm=true:=by rfl)(hg:Gl X "any":=by rfl):EV X (.Call (.Name "any" p) [a] [] pos) Γ cN (bs.any id) Γ1:=
 B2 (Az hc) hm boot_any ha (λR H v Q s ⟨p,vs,e,hp,pp,_⟩ q=>⟨p,bs,by rw[e],by rw[← nM pp];exact aY.of (s _ _ hp),q _ rfl⟩) hs hg
theorem Di {p:Pos}{b:Bool}(hm:X.mg "int"=none)(ha:EV X a Γ cN b Γ1)(hs:PU [a] X.env=[(false,eval a X.env)]:=by rfl)(hg:Gl X "int":=by rfl):EV X (.Call (.Name "int" p) [a] [] pos) Γ ai (if b then 1 else 0) Γ1:=by
 intro σ H0 R0 H R E Q q;exact eS (iV yZ hg hm PM (aK aO bo hs) (by decide) (by decide) hs) (ha σ H0 R0 H R E _ λv H1 R1 E1 s1 e1=>.inr ⟨b,by rw[show v=V.bl b from e1],q _ H1 R1 E1 s1 rfl⟩)
theorem DL {b:Expr}{p:Pos}{x y:Int}(hm:X.mg "min"=none)(ha:HA X [a,b] Γ [⟨ai,x⟩,⟨ai,y⟩] Γ1)(hs:PU [a,b] X.env=(false,eval a X.env)::PU [b] X.env:=by rfl)(hc:X.calm=true:=by rfl)(hg:Gl X "min":=by rfl)(To:(P8 pos (PU [b] X.env)).any (·.1)=false:=by rfl):EV X (.Call (.Name "min" p) [a,b] [] pos) Γ ai (if y<x then y else x) Γ1:=by
 intro σ H0 R0 H R E Q q;refine eS (dX (yC hc) hg hm PyProof.Rows.boot_min me (by decide) (by decide) hs To) (ha σ H0 R0 H R E _ λvs H1 R1 E1 s1 p1=>?_);cases p1 with
 | cons a1 t=>cases t with
   | cons a2 t2=>cases t2;cases a1;cases a2;exact⟨x,y,rfl,q _ H1 R1 E1 s1 rfl⟩
end
def Src (K:Sk)(J:It)(R1:Hp){α:Type}(r:Rep α)(xs:List α):Prop:=
 ∀(H' R':Hp),ay R1 R'->ay R' H'->∀i:Nat,(∀x,xs[i]?=some x->J.go i H'/\∀v H2,J.Xb i H' v H2->∃R2,Ext H' R' H2 R2/\r.R K R2 v x)/\(xs.length<=i->J.stop i H')
section
variable {tg:Expr}{xs:List α}{iter:Expr}{bf:α->Ga->Ga}{pos:Pos}{elt:Expr}{ifs:MI}{scope:Scope}{fr:ME}{ix:List Nat}{ra:Rep α}{rb:Rep β}{f:α->β}
def IV (X:Cx)(tg iter:Expr)(Γ:Ga){α:Type}(r:Rep α)(xs:List α)(Γ1:Ga):Prop:=
 ∃wi,PI X tg iter wi/\∀(σ:St)(H0 R0 H R:Hp),aw X.K σ H0 R0 H R Γ->∀Rq:It->Hp->Prop,(∀J H1 R1,aw X.K σ H0 R0 H1 R1 Γ1->ay R R1->xs.length<=PZ->Src X.K J R1 r xs->Rq J H1)->wi σ H Rq
theorem cu {r:Rep α}(h:EV X iter Γ (ae r) xs Γ1):IV X tg iter Γ r xs Γ1:=by
 refine⟨_,qu aO,λσ H0 R0 H R E Rq q=>h σ H0 R0 H R E _ λv H1 R1 E1 s1 e1=>?_⟩;obtain⟨a,vs,rfl,ha,pp,z⟩:=e1;refine⟨a,rfl,⟨vs,aY.of (E1.sub _ _ ha)⟩,q _ H1 R1 E1 s1 z λH' R' sR sH i=>⟨λx hx=>?_,λhi=>?_⟩⟩
 ·have hq:aY X.K H' a vs:=aY.of (sH _ _ (sR _ _ ha));obtain⟨v,hv,hr⟩:=dg pp hx;refine⟨⟨vs,v,hq,hv⟩,λv' H2 hy=>?_⟩;obtain⟨rfl,hy⟩:=hy;have:=hy vs hq;rw[hv] at this;cases this
  exact⟨R',Ext.refl sH,r.mono sR hr⟩
 ·exact⟨vs,aY.of (sH _ _ (sR _ _ ha)),by rw[pp.length];exact hi⟩
def ups (lo:Int)(n:Nat):MC:=(Nk n).map λ(k:Nat)=>lo+(k:Int)
theorem ck (lo:Int)(n:Nat):(ups lo n).length=n:=by unfold ups;rw[M8,NR]
theorem g8 {lo:Int}{n i:Nat}{x:Int}(h:(ups lo n)[i]?=some x):i<n/\x=lo+(i:Int):=by
 have hi:i<n:=by have:=(M1.mp h).1;rwa [ck] at this
 refine⟨hi,?_⟩;unfold ups at h;rw[Nc,Oc hi] at h;exact(Option.some.inj h).symm
theorem vL {K:Sk}{R1:Hp}(lo:Int)(n:Nat):Src K (yN lo n) R1 ai (ups lo n):=λH' R' sR sH i=>⟨λx hx=>by
 obtain⟨h1,rfl⟩:=g8 hx;refine⟨h1,λv H2 hy=>?_⟩;obtain⟨rfl,rfl⟩:=hy;exact⟨R',Ext.refl sH,rfl⟩,λhi=>by rw[ck] at hi;exact hi⟩
theorem fK {a:Expr}{p1 p2:Pos}{n:Int}(hm:X.mg "range"=none)(ha:EV X a Γ ai n Γ1)(hn: -(2 ^ 62)<=n/\n<=1000000)(V9:PU [a] X.env=[(false,eval a X.env)]:=by rfl)(hg:Gl X "range":=by rfl):IV X tg (.Call (.Name "range" p1) [a] [] p2) Γ ai (ups 0 n.toNat) Γ1:=by
 refine⟨_,xJ hg hm (aK aO bo V9) V9,λσ H0 R0 H R E Rq q=>ha σ H0 R0 H R E _ λv H1 R1 E1 s1 e1=>?_⟩;exact⟨n,by rw[show v=V.int n from e1],hn.1,by omega,q _ H1 R1 E1 s1 (by rw[ck];exact O2 (show n.toNat<=1000000 by omega) (by decide)) (vL 0 n.toNat)⟩
theorem zD {a b:Expr}{p1 p2:Pos}{m n:Int}(hm:X.mg "range"=none)(ha:EV X a Γ ai m Γ1)(hb:EV X b Γ1 ai n Γ2)(hn: -1000000<=m/\m<=1000000/\ -1000000<=n/\n<=1000000)(V9:PU [a,b] X.env=[(false,eval a X.env),(false,eval b X.env)]:=by rfl)(TC:PU [b] X.env=[(false,eval b X.env)]:=by rfl)(hg:Gl X "range":=by rfl):IV X tg (.Call (.Name "range" p1) [a,b] [] p2) Γ ai (ups m (n-m).toNat) Γ2:=by
 refine⟨_,yy hg hm (aK aO (aK aO bo TC) (by rw[V9,TC])) V9 TC,λσ H0 R0 H R E Rq q=>ha σ H0 R0 H R E _ λv H1 R1 E1 s1 e1=>hb σ H0 R0 H1 R1 E1 _ λu H2 R2 E2 s2 e2=>?_⟩;exact⟨m,n,by rw[show v=V.int m from e1,show u=V.int n from e2],⟨by omega,by omega,by omega,by omega⟩,q _ H2 R2 E2 (s1.trans s2) (by rw[ck];exact O2 (show(n-m).toNat<=2000000 by omega) (by decide)) (vL m (n-m).toNat)⟩
theorem bP {body:List Stmt}{r:Rep α}(I:Nat->Ga->Prop)(hit:IV X tg iter Γ r xs Γ1)(hb:BG X tg r bf)(h0:I 0 Γ1)(T2:∀(i:Nat)(x:α)(Γ:Ga),xs[i]?=some x->I i Γ->WS X body (bf x Γ) (I (i+1)) T)(Uk:∀Γ:Ga,I xs.length Γ->N Γ)(hc:X.calm=true:=by rfl)(hp:QX (model X.prog X.w) X.A X.env X.xe:=by exact QX.never)(hs:∀x,Qi iter X.env x=pure x:=by intro _;rfl):W1 X (.For tg iter body [] pos) Γ N T:=λσ H0 R0 H R E D dn dr=>by
 obtain⟨wi,hi,hit⟩:=hit;refine sS (tE hp hc hi GB ib hs) (hit σ H0 R0 H R E _ λJ H1 R1 E1 s1 hz src=>?_);refine⟨λi m σ' H'=>m=xs.length-i/\i<=xs.length/\∃R' Γ',aw X.K σ' H0 R0 H' R' Γ'/\ay R1 R'/\I i Γ',⟨_,rfl,O3 _,R1,Γ1,E1,ay.refl _,h0⟩,?_⟩;rintro i m σ' H' ⟨rfl,hle,R',Γ',E',s',hI⟩;obtain⟨sgo,Vm⟩:=src H' R' s' E'.sub i;by_cases Uc:i<xs.length
 ·obtain⟨go,yl⟩:=sgo _ (M4 Uc);refine .inr ⟨go,λσ' H'=>i+1<=xs.length/\∃R' Γ',aw X.K σ' H0 R0 H' R' Γ'/\ay R1 R'/\I (i+1) Γ',λσ2 H2 h=>⟨xs.length-(i+1),by omega,rfl,h.1,h.2⟩,λv H2 hy=>?_⟩;obtain⟨R2,x2,hr⟩:=yl v H2 hy;refine hb σ' H0 R0 H2 R2 Γ' v _ (E'.grow x2) hr _ λσ2 E2=>?_;exact T2 i _ Γ' (M4 Uc) hI σ2 H0 R0 H2 R2 E2 _ (λσ3 H3 R3 Γ3 E3 s3 h3=>⟨Uc,R3,Γ3,E3,s'.trans (x2.r.trans s3),h3⟩) dr
 ·have e:i=xs.length:=by omega
  subst e;exact .inl ⟨Vm (O0 _),dn σ' H' R' Γ' E' (s1.trans s') (Uk Γ' hI)⟩
def wG:Option Ent->Ent
 | some (.im r x)=>.im r x
 | _=>.no
def fE (own:ME)(ix:List Nat)(Γ:Ga):Ga:=N3 own.length .no++ix.map λi=>wG Γ[i]?
theorem BA {K:Sk}{σ:St}{H0 R0 H R:Hp}(E:aw K σ H0 R0 H R Γ)(own:ME)(ix:List Nat):aw K (hX own ix σ) H R H R (fE own ix Γ):=by
 have Ts:∀(i:Nat)(e:Ent)(o:Option V),(fE own ix Γ)[i]?=some e->e.fp o=[]:=λi e o q=>by
  unfold fE at q;rcases Nj.mp (Ng q) with z | z
  ·obtain⟨_,rfl⟩:=OK.mp z;rfl
  ·obtain⟨k,_,rfl⟩:=Nx.mp z;unfold wG;split<;>rfl
 refine⟨Ext.refl E.sub,λi e q=>?_,λi e a q w=>SQ w (by rw[Ts i e _ q];exact Nv),λi j e e' a q _ w=>SQ w (by rw[Ts i e _ q];exact Nv),by unfold fE hX;simp⟩;unfold fE at q;unfold hX;by_cases hi:i<own.length
 ·rw[NF (by simpa using hi),Ow] at q;rw[SS hi] at q;cases q;trivial
 ·rw[Ny (by simpa using hi),N4,Nc] at q;rw[Ny (by simpa using hi),N4,Nc];cases ek:ix[i-own.length]? with
  | none=>rw[ek] at q;cases q
  | some k=>
    rw[ek] at q;have q':wG Γ[k]?=e:=Option.some.inj q;subst q';show(wG Γ[k]?).ok K H R (σ[k]?).join;cases eg:Γ[k]? with
    | none=>trivial
    | some e=>
      cases e with
      | im r x=>exact E.ent k _ eg
      | no=>trivial
      | mu r x=>trivial
      | di x=>trivial
      | ob x=>trivial
theorem rj {cl:List (Str×Addr)}{own:ME}{p:α->Bool}{J:It}{σ:St}{H0 R0 H1 R1:Hp}{Q:VK}(E1:aw X.K σ H0 R0 H1 R1 Γ1)(src:Src X.K J R1 ra xs)(hz:xs.length<=PZ)(hb:∀(C:Addr)(s:PX)(H:Hp)(ex:MG),BG (bS X scope cl C (own++fr) s H ex) tg ra bf)(hw:∀x,Wk (bf x (fE own ix Γ1)) (fE own ix Γ1))(ht:∀(C:Addr)(s:PX)(H:Hp)(ex:MG) x,x∈xs->TF (bS X scope cl C (own++fr) s H ex) ifs (bf x (fE own ix Γ1)) (p x) (bf x (fE own ix Γ1)))(he:∀(C:Addr)(s:PX)(H:Hp)(ex:MG) x,x∈xs->p x=true->EV (bS X scope cl C (own++fr) s H ex) elt (bf x (fE own ix Γ1)) rb (f x) (bf x (fE own ix Γ1)))(q:∀a vs H' R',Ext H1 R1 H' R'->H' a=none->PySem.Paired (rb.R X.K R') vs ((xs.filter p).map f)->Q (.ref a) (upd H' a (.lst vs))):
 ∃W:Nat->Nat->List V->St->Hp->Prop,(∃m,W 0 m [] (hX own ix σ) H1)/\∀i m ys σ' H',W i m ys σ' H'->
  ys.length<=PZ/\((J.stop i H'/\∀p,H' p=none->Q (.ref p) (upd H' p (.lst ys)))∨
  (J.go i H'/\∀x H2,J.Xb i H' x H2->(λv σ H Q=>∀C s Hh ex,qt (bS X scope cl C (own++fr) s Hh ex) tg v σ H Q:TG) x σ' H2 λσ2 H3=>(λσ H Q=>∀C s Hh ex,sD (bS X scope cl C (own++fr) s Hh ex) ifs σ H Q:TT) σ2 H3 λb H4=>
    if b=true then(λσ H Q=>∀C s Hh ex,gK (bS X scope cl C (own++fr) s Hh ex) elt σ H Q:TE) σ2 H4 λv H5=>∃m',m'<m/\W (i+1) m' (ys++[v]) σ2 H5 else∃m',m'<m/\W (i+1) m' ys σ2 H4)):=by
 refine⟨λi m ys σ' H'=>m=xs.length-i/\i<=xs.length/\∃R',aw X.K σ' H1 R1 H' R' (fE own ix Γ1)/\PySem.Paired (rb.R X.K R') ys (((xs.take i).filter p).map f),⟨_,rfl,O3 _,R1,BA E1 own ix,.nil⟩,?_⟩;rintro i m ys σ' H' ⟨rfl,hle,R',E',pp⟩;have hys:ys.length<=PZ:=by
  rw[pp.length,M8];refine O2 (OB _ _) (O2 ?_ hz);rw[Nu];omega
 obtain⟨sgo,Vm⟩:=src H' R' E'.ext.r E'.sub i;refine⟨hys,?_⟩;by_cases Uc:i<xs.length
 ·obtain⟨go,yl⟩:=sgo _ (M4 Uc);have XC:xs[i]∈xs:=NK Uc;have tk:(xs.take (i+1))=xs.take i++[xs[i]]:=by rw[NH,M4 Uc];rfl
  refine .inr ⟨go,λv H2 hy C s Hh ex=>?_⟩;obtain⟨R2,x2,hr⟩:=yl v H2 hy;refine hb C s Hh ex σ' H1 R1 H2 R2 _ v _ (E'.grow x2) hr _ λσ2 E2=>?_;intro C s Hh ex;refine ht C s Hh ex _ XC σ2 H1 R1 H2 R2 E2 _ λH4 R4 E4 s4=>?_;cases hpx:p xs[i] with
  | false=>
    rw[SR MM];refine⟨xs.length-(i+1),by omega,rfl,Uc,R4,E4.weak (hw _),?_⟩;rw[tk,Oh,List.filter_cons,hpx,SR MM,List.filter_nil,Nw];exact Paired.map (λ_ _=>rb.mono (x2.r.trans s4)) pp
  | true=>
    rw[SS rfl];intro C s Hh ex;refine he C s Hh ex _ XC hpx σ2 H1 R1 H4 R4 E4 _ λw H5 R5 E5 s5 e5=>?_;refine⟨xs.length-(i+1),by omega,rfl,Uc,R5,E5.weak (hw _),?_⟩;rw[tk,Oh,List.filter_cons,hpx,SS rfl,List.filter_nil,Nn];exact d9 (Paired.map (λ_ _=>rb.mono (x2.r.trans (s4.trans s5))) pp) (.cons e5 .nil)
 ·have e:i=xs.length:=by omega
  subst e;rw[NN] at pp;exact .inl ⟨Vm (O0 _),λa ha=>q a ys H' R' E'.ext ha pp⟩
theorem c7 {cl:List (Str×Addr)}{own:ME}{p:α->Bool}(S:fN X scope cl own fr ix)(hit:IV X tg iter Γ ra xs Γ1)(hb:∀(C:Addr)(s:PX)(H:Hp)(ex:MG),BG (bS X scope cl C (own++fr) s H ex) tg ra bf)(hw:∀x,Wk (bf x (fE own ix Γ1)) (fE own ix Γ1))(ht:∀(C:Addr)(s:PX)(H:Hp)(ex:MG) x,x∈xs->TF (bS X scope cl C (own++fr) s H ex) ifs (bf x (fE own ix Γ1)) (p x) (bf x (fE own ix Γ1)))(he:∀(C:Addr)(s:PX)(H:Hp)(ex:MG) x,x∈xs->p x=true->EV (bS X scope cl C (own++fr) s H ex) elt (bf x (fE own ix Γ1)) rb (f x) (bf x (fE own ix Γ1)))(hc:X.calm=true:=by rfl)(hs:∀x,Qi iter X.env x=pure x:=by intro _;rfl):bg X (.ListComp elt [⟨tg,iter,ifs,0⟩] scope pos) Γ rb ((xs.filter p).map f) Γ1:=by
 intro σ H0 R0 H R E Q q;obtain⟨wi,hi,hit⟩:=hit;refine eS (C8 (g:=λv σ H Q=>∀C s Hh ex,qt (bS X scope cl C (own++fr) s Hh ex) tg v σ H Q) (tc:=λσ H Q=>∀C s Hh ex,sD (bS X scope cl C (own++fr) s Hh ex) ifs σ H Q) (te:=λσ H Q=>∀C s Hh ex,gK (bS X scope cl C (own++fr) s Hh ex) elt σ H Q) hc S hi
  (λC s H ex=>⟨λS3 s1 σ H v u Q I r h=>h C s _ ex S3 s1 u I r,λS3 s1 σ H Q I h=>h C s _ ex S3 s1 I,λS3 s1 σ H Q I h=>h C s _ ex S3 s1 I⟩) hs) ?_
 refine hit σ H0 R0 H R E _ λJ H1 R1 E1 s1 hz src=>rj E1 src hz hb hw ht he λa vs H' R' xx ha pp=>?_;have E2:=E1.grow xx;exact q a vs _ R' (E2.grow (Ext.eC E2.sub ha _)) (s1.trans xx.r) aF (E2.sub.free ha) (E2.ext.h.free ha) (E2.off ha) pp (by
  rw[M8];exact O2 (OB _ _) hz)
theorem uS (i:Nat){y:Str}{py Vn:Pos}{cl:List (Str×Addr)}{own:ME}{p:α->Bool}(S:fN X scope cl own fr ix)(hit:IV X tg iter Γ ra xs Γ1)(hb:∀(C:Addr)(s:PX)(H:Hp)(ex:MG),BG (bS X scope cl C (own++fr) s H ex) tg ra bf)(hw:∀x,Wk (bf x (fE own ix Γ1)) (fE own ix Γ1))(ht:∀(C:Addr)(s:PX)(H:Hp)(ex:MG) x,x∈xs->TF (bS X scope cl C (own++fr) s H ex) ifs (bf x (fE own ix Γ1)) (p x) (bf x (fE own ix Γ1)))(he:∀(C:Addr)(s:PX)(H:Hp)(ex:MG) x,x∈xs->p x=true->EV (bS X scope cl C (own++fr) s H ex) elt (bf x (fE own ix Γ1)) rb (f x) (bf x (fE own ix Γ1)))(h:N (Γ1.set i (.mu rb ((xs.filter p).map f))))(Uj:P9 (.ListComp elt [⟨tg,iter,ifs,0⟩] scope pos) (some (.Name y py)) Vn.line X.env=pure true:=by rfl)(hN:X.N.Nodup:=by first | assumption | decide)(hi':X.N[i]?=some y:=by rfl)(hx:autoParam (Loc X.env.scope y) UH)(hc:X.calm=true:=by rfl)(hs:∀x,Qi iter X.env x=pure x:=by intro _;rfl)(hf:autoParam (X.fn y=true∨X.env.scope.names.lookup y=some .local) UG):
 W1 X (.Assign [.Name y py] (.ListComp elt [⟨tg,iter,ifs,0⟩] scope pos) Vn) Γ N T:=λσ H0 R0 H R E D dn dr=>by
 obtain⟨wi,hi,hit⟩:=hit;refine sS (xr (i:=i) (g:=λv σ H Q=>∀C s Hh ex,qt (bS X scope cl C (own++fr) s Hh ex) tg v σ H Q) (tc:=λσ H Q=>∀C s Hh ex,sD (bS X scope cl C (own++fr) s Hh ex) ifs σ H Q) (te:=λσ H Q=>∀C s Hh ex,gK (bS X scope cl C (own++fr) s Hh ex) elt σ H Q) Uj hN hi' hx hc S hi
  (λC s H ex=>⟨λS3 s1 σ H v u Q I r h=>h C s _ ex S3 s1 u I r,λS3 s1 σ H Q I h=>h C s _ ex S3 s1 I,λS3 s1 σ H Q I h=>h C s _ ex S3 s1 I⟩) hs hf) ?_
 refine hit σ H0 R0 H R E _ λJ H1 R1 E1 s1 hz src=>rj (Q:=λv H'=>D.nx (σ.set i (some v)) H') E1 src hz hb hw ht he λa vs H' R' xx ha pp=>?_;have E2:=E1.grow xx;exact dn _ _ R' _ ((E2.grow (Ext.eC E2.sub ha _)).wK (u:=.lst vs) (en:=.mu rb ((xs.filter p).map f)) i ⟨a,vs,rfl,aF,E2.sub.free ha,pp⟩ (E2.ext.h.free ha) λj e _ q w=>E2.off ha j e q w) (s1.trans xx.r) h
end
section
variable {es:MI}{tp pos:Pos}
theorem gM {S3:MB}{σ:St}{H:Hp}{s:PX}{h':Heap}{t':Nat}{fp:MG}(I:Inv X S3 σ H s)(k:∀b o,b∉fp->s.heap.get? b=some o->h'.get? b=some o)(hf:∀b∈fp,jd X S3 H b):Inv X S3 σ H {s with heap:=h',toks:=t'}:=by
 have Xm:∀b u,H b=some u->b∉fp:=λb u e z=>by rw[(hf b z).1] at e;cases e
 refine I.step (g':=s.gens) (d':=s.drawn) (ch:=fp) (λb hb=>⟨(hf b hb).2.2.2.1,(hf b hb).2.1,(hf b hb).2.2.2.2.1,(hf b hb).2.2.2.2.2⟩) (λb o _ _ hc e _=>k b o hc e) (λb o _ _ hc e _=>⟨o.slots,k b o hc e⟩) (λ_ _ _ _ n=>n)
  (λb o hc e=>⟨o,k b o hc e⟩) (λ_ _ e=>e) (λ_ _ _ e=>e) (λb ps e=>⟨#[],by rw[e];simp⟩) (λm hm=>?_) (λb u e=>?_) I.bare
 ·obtain⟨o,es,ep,ho,r⟩:=hm;exact⟨o,es,ep,k _ o (λz=>(hf _ z).2.1 rfl) ho,r⟩
 ·refine(I.S8 b u e).TY (λc v hc q=>k c v ?_ q) (λ_ q=>q) λ_ _ q=>q;rcases hc with z | z
  ·rw[z];exact Xm b u e
  ·exact Xm c _ z
theorem adopt {S3:MB}{σ:St}{H:Hp}{s:PX}{a:Addr}{o:HO}(I:Inv X S3 σ H s)(hf:jd X S3 H a)(hy:X.s₀.heap.objs.size<=a)(new:cQ X.prog X.w (upd H a o) s.heap a o):Inv X S3 σ (upd H a o) s:=by
 have ne:∀{b:Addr}{u:HO},H b=some u->b≠a:=λe=>cT e hf.1;have ne0:∀{b:Addr}{u:Obj},X.s₀.heap.get? b=some u->b≠a:=λe z=>SQ (O4 (RN e) hy) (by rw[z];exact O8 _);refine⟨I.ok,I.os,I.bare,⟨I.base.keep,I.base.slot,λb u e n hx=>by rw[aG (ne0 e)];exact I.base.free b u e n hx,I.base.there,λb xs e=>?_,λb u v e=>?_,λb ps e=>?_⟩,I.loc,I.cell,?_,λx c e=>?_,λp hp=>?_,λb u e=>?_,I.len⟩
 ·have q:=I.base.Uy b xs e;rw[aG (ne q)];exact q
 ·have q:=I.base.Uu b u v e;rw[aG (ne q)];exact q
 ·obtain⟨m,q⟩:=I.base.Uz b ps e;exact⟨m,by rw[aG (ne q)];exact q⟩
 ·rw[aG (Pr hf.2.1)];exact I.free
 ·rw[aG (hf.2.2.2.2.1 x c e)];exact I.T8 x c e
 ·obtain⟨e,n,r⟩:=I.pin p hp;exact⟨e,by rw[aG (hf.2.2.2.2.2 p hp)];exact n,r⟩
 ·by_cases hb:b=a
  ·subst hb;rw[aF] at e;cases e;exact new
  ·rw[aG hb] at e;exact(I.S8 b u e).TY (λc v _ q=>q) (λc q=>by rw[aG (ne q)];exact q) λc xs q=>by rw[aG (ne q)];exact q
def Li (K:Sk)(a:Addr):It:=
 ⟨λi H=>∃xs x,aY K H a xs/\xs[i]?=some x,λi H v H'=>∃p x,H p=none/\v= .ref p/\H'=upd H p (.tup [.int i,x])/\∀xs,aY K H a xs->xs[i]?=some x,λi H=>∃xs,aY K H a xs/\xs.length<=i⟩
theorem yt {P:P2}{w:World}{K:Sk}{k:Nat}(a e it:Addr)(hei:e≠it):Turn P w K (.Tuple es k tp) (Li K a) [e,it] e (λi h=>(∃old,IsEnum h e it i old)/\h.IsListIter it a i) where
 mem:=by simp
 obj:=λi h st b hb=>by
  obtain⟨⟨old,he⟩,o,ho,hc,hd⟩:=st;rcases Nd.mp hb with rfl | hb
  ·exact⟨_,he,λv z=>by cases z⟩
  ·have e2:b=it:=by simpa using hb
   subst e2;exact⟨o,ho,λv z=>by rw[hd] at z;cases z⟩
 keep:=λi h h' st kk=>⟨st.1.elim λold he=>⟨old,kk e (by simp) _ he⟩,st.2.at λo x=>kk it (by simp) o x⟩
 item:=by
  intro X hP hw hK hc i S3 s σ H E I hf st hg;subst hP hw hK;obtain⟨⟨old,he⟩,hit⟩:=st;obtain⟨xs,x,hq,hx⟩:=hg;obtain⟨S5,r,pl,hz⟩:=I.list hq;obtain⟨u,hu,rx⟩:=r.get hx;have hn:H s.heap.objs.size=none:=I.S8.fresh (O0 _);refine wpAny_pyNext_enum_item he hit pl.isList (x:=u) (by simpa using hu) hei λh' ho hit' hT hsz hk=>?_;refine⟨_,rfl,?_⟩;refine wpAny_letOwnedTupleGo_enum (s:={s with heap:=h',toks:=s.toks+1}) ho λh2 XM TC=>?_;have Vw:∀b o,b∉[e,it]->s.heap.get? b=some o->h2.get? b=some o:=λb o hb q=>by
   have VG:b≠e:=λz=>hb (by simp[z]);exact TC.extBut b o VG (hk b o VG (λz=>hb (by simp[z])) q)
  have I1:Inv X S3 σ H {s with heap:=h2,toks:=s.toks+1}:=gM I Vw hf;have hel:e≠s.heap.objs.size:=O5 (RN he);have WO:h2.get? s.heap.objs.size=some {cls:=.type "tuple",data:=.seq #[.int i s.toks,u]}:=(TC.2 _ (Pr hel)).trans hT;have I2:Inv X S3 σ (upd H s.heap.objs.size (.tup [.int i,x])) {s with heap:=h2,toks:=s.toks+1}:=
   adopt I1 (I.gm (O0 _) hn) (I.sz) ⟨by show 2<=PZ;decide,[.int i s.toks,u],.cons ⟨_,rfl⟩ (.cons rx .nil),⟨_,WO,rfl,_,rfl⟩⟩
  refine⟨.ref s.heap.objs.size,_,I2,rfl,⟨s.heap.objs.size,x,hn,rfl,rfl,λys hy=>?_⟩,⟨⟨u,by simpa using XM⟩,hit'.at λo y=>(TC.2 it (Pr hei)).trans y⟩,λb hb=>?_⟩
  ·rw[I.iD hy hq];exact hx
  ·have Uc:b<s.heap.objs.size:=by
    rcases Nd.mp hb with rfl | hb
    ·exact RN he
    ·have e2:b=it:=by simpa using hb
     subst e2;obtain⟨o,ho,_⟩:=hit;exact RN ho
   rw[aG (O5 Uc)];exact(hf b hb).1
 done:=by
  intro X hP hw hK hc i S3 s σ H E I hf st hg;subst hP hw hK;obtain⟨⟨old,he⟩,hit⟩:=st;obtain⟨xs,hq,hx⟩:=hg;obtain⟨S5,r,pl,hz⟩:=I.list hq;refine wpAny_pyNext_enum_end (I.ok.hd hc) he hit pl.isList (by have:=r.length;simp;omega) λh' hk=>⟨rfl,?_⟩;exact gM (t':=s.toks) I (λb o hb q=>hk b o (λz=>hb (by simp[z])) q) hf
 self:=λ_ _ _ _ _ st h=>st.1.elim λold he=>wpAny_pyIter_enum he h
def JM (K:Sk)(ta:TA):TI:=λσ H R=>ta σ H λvs H1=>∃a xs,vs=[.ref a]/\aY K H1 a xs/\R (Li K a) H1
theorem EE {a:Expr}{ta:TA}{p:Pos}{k:Nat}(hg:Gl X "enumerate")(hm:X.mg "enumerate"=none)(ha:PA X [a] ta)(hs:PU [a] X.env=[(false,eval a X.env)]:=by rfl):PI X (.Tuple es k tp) (.Call (.Name "enumerate" p) [a] [] pos) (JM X.K ta):=by
 intro S3 s σ H R I h;refine Call_ (fQ I hg hm boot_enumerate (Pz (aW (ha pos S3 s σ H _ I h) λus s1 ⟨vs,H1,I1,r1,q1⟩=>?_) hs rfl));obtain⟨l,xs,e,hq,q⟩:=q1;subst e;cases r1 with
 | cons r rr=>
   cases rr
   cases r
   obtain⟨S5,r',pl,hz⟩:=I1.list hq;refine call_enumerate_list pl.isList λh' he hit hsz hk=>?_;refine wpAny_pyIter_enum he ?_;have I2:Inv X S3 σ H1 {s1 with heap:=h'}:=I1.kept (t':=s1.toks) hk;have f0:H1 s1.heap.objs.size=none:=I1.S8.fresh (O0 _);have f1:H1 (s1.heap.objs.size+1)=none:=I1.S8.fresh (Pb _);refine⟨s1.heap.objs.size+1,[s1.heap.objs.size+1,s1.heap.objs.size],_,_,H1,rfl,I2,yt l (s1.heap.objs.size+1) s1.heap.objs.size (Pf (Pc _)),⟨⟨.none,he⟩,hit⟩,λb hb=>?_,q⟩;rcases Nd.mp hb with rfl | hb
   ·exact I1.gm (Pb _) f1
   ·have e2:b=s1.heap.objs.size:=by simpa using hb
    subst e2;exact I1.gm (O0 _) f0
def nums (xs:List α):List (Int×α):=(xs.zipIdx).map λp=>((p.2:Int),p.1)
theorem cJ (xs:List α):(nums xs).length=xs.length:=by unfold nums;rw[M8,List.length_zipIdx]
theorem eJ {xs:List α}{i:Nat}{y:Int×α}(h:(nums xs)[i]?=some y):y.1=(i:Int)/\xs[i]?=some y.2:=by
 unfold nums at h;rw[Nc,List.getElem?_zipIdx] at h;cases e:xs[i]? with
 | none=>rw[e] at h;cases h
 | some x=>rw[e] at h;cases h;exact⟨by simp,rfl⟩
theorem iG {a:Expr}{p:Pos}{k:Nat}{r:Rep α}{xs:List α}(hm:X.mg "enumerate"=none)(ha:EV X a Γ (ae r) xs Γ1)(hs:PU [a] X.env=[(false,eval a X.env)]:=by rfl)(hg:Gl X "enumerate":=by rfl):
 IV X (.Tuple es k tp) (.Call (.Name "enumerate" p) [a] [] pos) Γ (fD ai r) (nums xs) Γ1:=by
 refine⟨_,EE hg hm (aK aO bo hs) hs,λσ H0 R0 H R E Rq q=>ha σ H0 R0 H R E _ λv H1 R1 E1 s1 e1=>?_⟩;obtain⟨a,vs,rfl,hp,pp,z⟩:=e1;refine⟨a,vs,rfl,aY.of (E1.sub _ _ hp),q _ H1 R1 E1 s1 (by rw[cJ];exact z) λH' R' sR sH i=>⟨λy hy=>?_,λhi=>?_⟩⟩
 ·have hq:aY X.K H' a vs:=aY.of (sH _ _ (sR _ _ hp));obtain⟨e1,e2⟩:=eJ hy;obtain⟨v,hv,hr⟩:=dg pp e2;refine⟨⟨vs,v,hq,hv⟩,λv' H2 US=>?_⟩;obtain⟨p,x,U4,rfl,rfl,hy⟩:=US;have:=hy vs hq;rw[hv] at this;cases this
  have s2:ay R' (upd R' p (.tup [.int i,v])):=ay.fresh (sH.free U4) _;exact⟨upd R' p (.tup [.int i,v]),Ext.fresh sH U4 _,p,_,_,rfl,aF,by rw[e1];rfl,r.mono s2 (r.mono sR hr)⟩
 ·exact⟨vs,aY.of (sH _ _ (sR _ _ hp)),by rw[pp.length,← cJ xs];exact hi⟩
theorem u7:fF X (.builtin "isinstance") (λxs H Q=>∃x c t b,xs=[x,.ty c]/\fw X.K H x t/\SK X.K t (.type c)=some b/\Q (.bl b) H):=by
 intro S3 s σ H xs us Q I r h;obtain⟨x,c,t,b,rfl,ty,e,q⟩:=h;obtain⟨u,u2,rfl,r1,r2⟩:=vals2 r;cases (show u2=Sj c from r2)
 exact yr I r1 ty e λtk=>⟨.bl b,H,I.tok tk,rfl,q⟩
theorem bC {e:Expr}{y:Str}{p p2:Pos}{r:Rep α}{x:α}{c:String}{t:Value}{b:Bool}(hm:X.mg "isinstance"=none)(hmy:X.mg y=none)(hvy:Qs y=some (.type c))(he:EV X e Γ r x Γ1)(ty:∀(R H:Hp) v,ay R H->r.R X.K R v x->fw X.K H v t)(ht:∀K:Sk,SK K t (.type c)=some b:=by intro;rfl)(hs:PU [e,.Name y p2] X.env=(false,eval e X.env)::PU [.Name y p2] X.env:=by rfl)(hg:Gl X "isinstance":=by rfl)(hgy:Gl X y:=by rfl)(hny:y≠"__name__":=by decide)(hdy:Ti y:=by decide):EV X (.Call (.Name "isinstance" p) [e,.Name y p2] [] pos) Γ cN b Γ1:=by
 intro σ H0 R0 H R E Q q;refine eS (dX u7 hg hm PyProof.Rows.boot_isinstance (aK aO (aK (DD (v:=.ty c) hgy hmy hvy rfl hny hdy) bo rfl) hs) (by decide) (by decide) hs rfl) (he σ H0 R0 H R E _ λv H1 R1 E1 s1 e1=>?_);exact⟨v,c,t,b,rfl,ty R1 H1 v E1.sub e1,ht _,q _ H1 R1 E1 s1 rfl⟩
theorem pQ:fF X (.type "range") (λxs H Q=>∃n:Int,xs=[.int n]/\∀p,H p=none->Q (.ref p) (upd H p (.VB 0 n))):=by
 intro S3 s σ H xs us Q I r h;obtain⟨n,rfl,q⟩:=h;obtain⟨u,rfl,t,rfl⟩:=vals1 r;refine call_range_1 ?_;exact⟨.ref s.heap.objs.size,_,I.laid (o:=.VB 0 n) (λb o e=>RM _ e) (O0 _) ⟨_,_,_,RP _ rfl⟩,rfl,q _ (I.S8.fresh (O0 _))⟩
theorem qw:fF X (.type "range") (λxs H Q=>∃m n:Int,xs=[.int m,.int n]/\∀p,H p=none->Q (.ref p) (upd H p (.VB m n))):=by
 intro S3 s σ H xs us Q I r h;obtain⟨m,n,rfl,q⟩:=h;obtain⟨u,u2,rfl,⟨t,rfl⟩,⟨t2,rfl⟩⟩:=vals2 r;refine call_range_2 ?_;exact⟨.ref s.heap.objs.size,_,I.laid (o:=.VB m n) (λb o e=>RM _ e) (O0 _) ⟨_,_,_,RP _ rfl⟩,rfl,q _ (I.S8.fresh (O0 _))⟩
theorem mN (hc:X.calm=true):fF X (.type "list") (λxs H Q=>∃(p:Addr)(m n:Int),xs=[.ref p]/\H p=some (.VB m n)/\ -1000000<=m/\m<=1000000/\ -1000000<=n/\n<=1000000/\∀d,H d=none->Q (.ref d) (upd H d (.lst ((ups m (n-m).toNat).map V.int)))):=by
 intro S3 s σ H xs us Q I r h;obtain⟨p,m,n,rfl,hp,m1,m2,n1,n2,q⟩:=h;obtain⟨u,rfl,rx⟩:=vals1 r;cases rx
 obtain⟨t,t2,t3,ho⟩:=I.S8 p _ hp;have hsz:Rc.Range.rangeSize m n 1=(((n-m).toNat:Nat):Int):=by rw[rangeSize_one];split<;>omega
 refine call_list_range (I.ok.hd hc) ho (small_one (by omega) (by omega) (by omega) (by omega)) hsz (by omega) λh' tk acc c' hk hS XW=>?_;have vals:Vals ((ups m (n-m).toNat).map V.int) acc.toList:=by
  have key:∀(k:Nat)(S5:MH)(lo:Int),S5.length=k->(∀(j:Nat) v,S5[j]?=some v->∃t,v= .int (lo+(j:Int)*1) t)->Vals ((ups lo k).map V.int) S5:=by
   intro k
   induction k with
   | zero=>intro S5 lo hl _;cases S5 with
     | nil=>exact .nil
     | cons _ _=>cases hl
   | succ k ih=>
     intro S5 lo hl hv;cases S5 with
     | nil=>cases hl
     | cons v r=>
       have e:ups lo (k+1)=lo::ups (lo+1) k:=by
        unfold ups;rw[List.range_succ_eq_map,Nz,NX];congr 1
        ·simp
        ·apply Ox;intro a _;simp;omega
       rw[e,Nz];obtain⟨t,e0⟩:=hv 0 v rfl;refine .cons ⟨t,by rw[e0];simp⟩ (ih r (lo+1) (by simpa using hl) λj v hj=>?_);obtain⟨t,ej⟩:=hv (j+1) v (by simpa using hj);exact⟨t,by rw[ej];congr 1;push_cast;omega⟩
  refine key _ _ m (by rw[ML];exact XW.1) λj v hj=>XW.2 j v (by simpa using hj)
 exact⟨.ref _,_,I.laid (a:=s.heap.objs.size) (o:=.lst ((ups m (n-m).toNat).map V.int)) hk (O0 _) ⟨by rw[M8,ck];exact O2 (show(n-m).toNat<=2000000 by omega) (by decide),acc.toList,c',vals,by rw[hS]⟩,rfl,q _ (I.S8.fresh (O0 _))⟩
end
def qB (scope:Scope)(env:Env):List (Str×Addr):=(scope.names.filterMap λp=>if p.2== .free then(env.cells.lookup p.1).map (λc=>(p.1,c)) else none).reverse
theorem oQ {env:Env}:∀(names:List (Str×QC))(acc:List (Str×Addr)),(∀y∈names,y.2= .free->∃c,env.cells.lookup y.1=some c)->
 (forIn names acc λ(x:Str×QC)(r:List (Str×Addr))=>if(x.2==QC.free)=true then do let a ← cellOf env x.1;pure (MU ((x.1,a)::r)) else pure (MU r):Sem (List (Str×Addr)))
  =pure ((names.filterMap λp=>if p.2== .free then(env.cells.lookup p.1).map (λc=>(p.1,c)) else none).reverse++acc)
 | [],acc,_=>rfl
 | (n,k)::r,acc,h=>by
   have ih:=oQ (env:=env) r;rw[OU,OE];cases hk:(k==QC.free) with
   | false=>
     simp only[hk,Bool.false_eq_true,if_false];rw[pure_bind];exact ih acc λy hy=>h y (M7 _ hy)
   | true=>
     obtain⟨c,hc⟩:=h (n,k) Nb (eq_of_beq hk);have UC:cellOf env n=pure c:=by unfold cellOf;rw[hc]
     simp only[hk,if_true,hc,Pw,UC];rw[pure_bind,pure_bind];show forIn r ((n,c)::acc) _=_;rw[ih ((n,c)::acc) λy hy=>h y (M7 _ hy)];simp
theorem xy {X:Cx}{scope:Scope}{own fr:ME}{ix:List Nat}(hk:scope.kind= .function)(hn:∀y∈scope.names,y.2≠ .cell)(hl:∀y∈scope.names,y.2= .local->scope.names.lookup y.1=some .local)(hc:∀x,X.env.scope.names.lookup x=some .cell->∃c,X.env.cells.lookup x=some c)(hf:∀y∈scope.names,y.2= .free->X.env.scope.names.lookup y.1=some .cell)(WM:∀x∈fr,scope.names.lookup x=some .free)(hlen:fr.length=ix.length)(Uq:∀(k i:Nat)(x:Str),ix[k]?=some i->fr[k]?=some x->X.N[i]?=some x):fN X scope (qB scope X.env) own fr ix:=by
 have free:∀y∈scope.names,y.2= .free->∃c,X.env.cells.lookup y.1=some c:=λy hy e=>hc _ (hf y hy e);refine⟨?_,λx c e=>?_,hk,hn,hl,λx e=>?_,WM,hlen,λk i x e1 e2=>⟨Uq k i x e1 e2,hf (x,.free) (Qe (WM x (Ng e2))) rfl⟩⟩
 ·have:=oQ (env:=X.env) scope.names [] free;rw[Nw] at this;have e:closureFor scope X.env=((forIn scope.names [] λ(x:Str×QC)(r:List (Str×Addr))=>if(x.2==QC.free)=true then do let a ← cellOf X.env x.1;pure (MU ((x.1,a)::r)) else pure (MU r):Sem (List (Str×Addr))) >>=λcs=>pure cs):=rfl;rw[e,this,pure_bind];rfl
 ·have m:=Qe e;unfold qB at m;obtain⟨p,_,hp⟩:=OJ.mp (List.mem_reverse.mp m);split at hp
  ·cases q:X.env.cells.lookup p.1 with
   | none=>rw[q] at hp;cases hp
   | some c'=>rw[q] at hp;cases hp;exact q
  ·cases hp
 ·have m:=Qe e;obtain⟨c,Wd⟩:=free _ m rfl;have m2:(x,c)∈qB scope X.env:=by
   unfold qB;refine List.mem_reverse.mpr (OJ.mpr ⟨(x,.free),m,?_⟩);simp[Wd]
  cases q:(qB scope X.env).lookup x with
  | some c'=>exact⟨c',rfl⟩
  | none=>
    rw[List.lookup_eq_none_iff] at q;exact SQ (q _ m2) (by simp)
def zO (scope so:Scope)(N0 fr:ME)(ix:List Nat):Bool:=
 decide (scope.kind= .function)&&scope.names.all (λy=>decide (y.2≠ .cell)&&(decide (y.2≠ .local) ||decide (scope.names.lookup y.1=some .local))&&(decide (y.2≠ .free) ||decide (so.names.lookup y.1=some .cell)))
  &&fr.all (λx=>decide (scope.names.lookup x=some .free))&&decide (fr.length=ix.length)&&(Nk ix.length).all λk=>match ix[k]?,fr[k]? with | some i,some x=>decide (N0[i]?=some x) | _,_=>true
theorem cY {X:Cx}{scope so:Scope}{N0 own fr:ME}{ix:List Nat}(hso:X.env.scope=so)(hN0:X.N=N0)(hc:∀x,X.env.scope.names.lookup x=some .cell->∃c,X.env.cells.lookup x=some c)(h:zO scope so N0 fr ix=true):fN X scope (qB scope X.env) own fr ix:=by
 unfold zO at h;simp only[MN,MR,decide_eq_true_eq,all_eq_true] at h;obtain⟨⟨⟨⟨h1,h2⟩,h3⟩,h4⟩,h5⟩:=h;refine xy h1 (λy hy=>(h2 y hy).1.1) (λy hy e=>(h2 y hy).1.2.resolve_left λz=>z e) hc (λy hy e=>by rw[hso];exact(h2 y hy).2.resolve_left λz=>z e) h3 h4 λk i x e1 e2=>?_;have hk:k<ix.length:=(M1.mp e1).1;have:=h5 k (Oi.mpr hk);rw[e1,e2] at this;rw[hN0];simpa using this
theorem vA (i:Nat){S:dI}{x y:Str}{k:Nat}{e:Expr}{es:MI}{p p1 p2 pos:Pos}{ps:List Pk}{r:Rep α}{Pd:α->Prop}(C:aM X.prog X.w X.K X.mg X.base x k (a9 S X.K))(hr:bI k X.A)(ha:HA X (e::es) Γ ps Γ1)(hS:S X.K ps (dq X.K r Pd))(h:∀z,Pd z->N (Γ1.set i (.im r z)))(hg:Gl X x:=by rfl)(TZ:Ti x:=by decide)(he:PU (e::es) X.env=(false,eval e X.env)::PU es X.env:=by rfl)(To:(P8 p2 (PU es X.env)).any (·.1)=false:=by rfl)(hN:X.N.Nodup:=by first | assumption | decide)(hi:X.N[i]?=some y:=by rfl)(hx:autoParam (Loc X.env.scope y) UH)(hs:P9 (.Call (.Name x p) (e::es) [] p2) (some (.Name y p1)) pos.line X.env=pure false:=by rfl)(hf:autoParam (X.fn y=true∨X.env.scope.names.lookup y=some .local) UG):
 W1 X (.Assign [.Name y p1] (.Call (.Name x p) (e::es) [] p2) pos) Γ N T:=λσ H0 R0 H R E D dn dr=>
 sS (jV hN hi hx aO hs hf) (lU C hr ha hS E (λH1 R1 v H' R' E1 s1 xx t=>by
  obtain⟨z,e1,hz⟩:=t;exact dn _ H' R' _ ((E1.grow xx).set i e1) (s1.trans xx.r) (h z hz)) hg TZ he To)
section
theorem EF:dW X (Qw .Mult) (rI Rh λi j=>.int (i*j)):=vq λ_ _ _ _ _ _ _ hc q=>mul_int q hc
theorem lB {a b:Expr}{pos:Pos}{x y:Int}(ha:EV X a Γ ai x Γ1)(hb:EV X b Γ1 ai y Γ2)(h:Rh x y):EV X (.BinOp a .Mult b pos) Γ ai (x*y) Γ2:=jq EF ha hb λR v u H Q e1 e2 q=>⟨x,y,e1,e2,h,q _ rfl⟩
def aE (a:Addr)(r:Rep α)(xs:List α):mn where
 fp:=[a]
 R:=λK H R v=>v= .ref a/\∃vs,H a=some (.lst vs)/\PySem.Paired (r.R K R) vs xs
 loc:=λhH hR ⟨e,vs,h,p⟩=>⟨e,vs,(hH a (M5.mpr rfl)).trans h,Paired.map (λ_ _=>r.mono hR) p⟩
 has:=λ⟨e,vs,h,p⟩ b hb=>by rw[M5.mp hb,h];exact Pu _
theorem m8 {K:Sk}{H R:Hp}{a:Addr}{r:Rep α}{xs:List α}{vs:List V}(h:H a=some (.lst vs))(hR:R a=none)(p:PySem.Paired (r.R K R) vs xs):(Ent.ob (aE a r xs)).ok K H R (some (.ref a)):=
 ⟨⟨_,rfl,rfl,vs,h,p⟩,λb hb=>by rw[M5.mp hb];exact hR⟩
theorem dv {K:Sk}{H R:Hp}{a:Addr}{r:Rep α}{xs:List α}{o:Option V}(h:(Ent.ob (aE a r xs)).ok K H R o):o=some (.ref a)/\(∃vs,H a=some (.lst vs)/\PySem.Paired (r.R K R) vs xs)/\R a=none:=by
 obtain⟨⟨v,rfl,rfl,q⟩,n⟩:=h;exact⟨rfl,q,n a (M5.mpr rfl)⟩
theorem WS.box (i:Nat){Uw:List Stmt}{r:Rep α}{xs:List α}(hΓ:Γ[i]?=some (.mu r xs))(h:∀a,WS X Uw (Γ.set i (.ob (aE a r xs))) N T):WS X Uw Γ N T:=λσ H0 R0 H R E D dn dr=>by
 obtain⟨a,vs,ea,ha,hR,pp⟩:=E.ent i _ hΓ;exact h a σ H0 R0 H R (E.tell hΓ (by rw[ea];exact m8 ha hR pp) λb w=>by
  rw[show b=a from M5.mp w];exact cv.mpr ea) D dn dr
theorem EV.box (i:Nat){e:Expr}{a:Addr}{r:Rep α}{xs xs':List α}{rr:Rep β}{y:β}(h:EV X e (Γ.set i (.mu r xs)) rr y Γ1)(hΓ:Γ[i]?=some (.ob (aE a r xs)))(hΓ1:Γ1[i]?=some (.mu r xs')):EV X e Γ rr y (Γ1.set i (.ob (aE a r xs'))):=by
 intro σ H0 R0 H R E Q q;obtain⟨ea,⟨vs,ha,pp⟩,hR⟩:=dv (E.ent i _ hΓ);refine h σ H0 R0 H R (E.tell hΓ (by rw[ea];exact⟨a,vs,rfl,ha,hR,pp⟩) λb w=>by rw[cv.mp w] at ea;cases ea;exact M5.mpr rfl) Q λv H' R' E' s' hr=>q v H' R' ?_ s' hr
 obtain⟨a',TK,T1,Ud,T7,Uh⟩:=E'.ent i _ hΓ1;rw[ea] at T1;cases T1
 exact E'.tell hΓ1 (by rw[ea];exact m8 Ud T7 Uh) λb w=>by rw[show b=a from M5.mp w];exact cv.mpr ea
theorem dc (j:Nat){x:Str}{p1:Pos}{b:Expr}{pos:Pos}{a:Addr}{r:Rep α}{xs:List α}{i:Int}{y:α}(hb:EV X b Γ ai i Γ)(hΓ:Γ[j]?=some (.ob (aE a r xs)))(h:cM xs i=some y)(hN:X.N[j]?=some x:=by rfl)(hv:autoParam (cb X.env.scope x) Tv)(hs:eQ b:=by exact λ_ _=>rfl)(hd:Ti x:=by decide)(S9:Tz x:=by decide):EV X (.Subscript (.Name x p1) b pos) Γ r y Γ:=by
 intro σ H0 R0 H R E Q q;obtain⟨ea,⟨vs,ha,pp⟩,hR⟩:=dv (E.ent j _ hΓ);refine eS (iJ gQ (a8 hN hv hd S9) aO hs) ⟨.ref a,at_of ea,hb σ H0 R0 H R E _ λu H2 R2 E2 s2 e2=>?_⟩;obtain⟨T1,⟨TK,Ud,Uh⟩,T7⟩:=dv (E2.ent j _ hΓ);obtain⟨w,e3,e4⟩:=ie Uh h;exact⟨a,TK,i,w,rfl,e2,aY.of Ud,e3,q w H2 R2 E2 s2 e4⟩
theorem dZ (i:Nat){x:Str}{b e:Expr}{p1 p2 pos:Pos}{a:Addr}{r:Rep α}{xs:List α}{y:α}{k:Int}{j:Nat}(he:EV X e Γ r y Γ1)(hb:EV X b Γ1 ai k Γ2)(hΓ1:Γ1[i]?=some (.ob (aE a r xs)))(hΓ2:Γ2[i]?=some (.ob (aE a r xs)))(hj:gT xs.length k=some j)(h:N (Γ2.set i (.ob (aE a r (xs.set j y)))))(hN:X.N[i]?=some x:=by rfl)(hv:autoParam (cb X.env.scope x) Tv)(hd:Ti x:=by decide)(S9:Tz x:=by decide)(ha:∀v,QB (.Subscript (.Name x p1) b p2) X.env v=(do
  let ov ← Qv [v] (eval (.Name x p1) X.env)
  let iv ← Qv [v,ov] (eval b X.env)
  QT p2
  Qv [v,ov,iv] (setItem ov iv v)
  release [v,ov,iv] []):=by intro _;rfl)(hs:QY [.Subscript (.Name x p1) b p2] e pos.line X.env=pure false:=by rfl)(hw:QZ [.Subscript (.Name x p1) b p2] e X.env=pure none:=by rfl)(h1:(QA [.Subscript (.Name x p1) b p2] X.env).map (·.2)=[QB (.Subscript (.Name x p1) b p2) X.env]:=by rfl):
 W1 X (.Assign [.Subscript (.Name x p1) b p2] e pos) Γ N T:=λσ H0 R0 H R E D dn dr=>by
 refine sS (tP aO (zu (a8 hN hv hd S9) aO set_list ha) hs hw h1) (he σ H0 R0 H R E _ λv H1 R1 E1 s1 e1=>?_);obtain⟨ea,⟨vs,hp,pp⟩,hR⟩:=dv (E1.ent i _ hΓ1);refine⟨.ref a,at_of ea,hb σ H0 R0 H1 R1 E1 _ λu H2 R2 E2 s2 e2=>?_⟩;obtain⟨T1,⟨TK,Ud,Uh⟩,T7⟩:=dv (E2.ent i _ hΓ2);refine⟨a,TK,k,j,rfl,e2,Ud,by rw[Uh.length];exact hj,?_⟩;exact dn σ _ R2 _ (E2.ot (en:=.ob (aE a r (xs.set j y))) hΓ2 (M5.mpr rfl) (by rw[T1];exact m8 aF T7 (lI (r.mono s2 e1) j Uh)) λb w=>.inl w) (s1.trans s2) h
def del (H:Hp)(a:Addr):Hp:=λb=>if b=a then none else H b
theorem uN {H:Hp}{a:Addr}:del H a a=none:=SS rfl
theorem mO {H:Hp}{a b:Addr}(h:b≠a):del H a b=H b:=SR h
theorem Ee {H:Hp}{a:Addr}:ay (del H a) H:=λb o q=>by
 by_cases h:b=a
 ·subst h;rw[uN] at q;cases q
 ·rwa [mO h] at q
theorem aw.Cu {K:Sk}{σ:St}{H0 R0 H R H' R':Hp}(E:aw K σ H0 R0 H R Γ){a:Addr}(off:Off a σ Γ)(h0:H0 a=none)(x:Ext (del H a) R H' R'):aw K σ H0 R0 H' R' Γ:=by
 have ne:∀{b:Addr},H0 b≠none->b≠a:=λh e=>h (e▸h0);refine⟨⟨λb o q=>?_,E.ext.r.trans x.r,x.s,λb hb=>?_⟩,λi e q=>?_,E.nw,E.ds,E.len⟩
 ·exact x.h b o (by rw[mO (ne (by rw[q];exact Pu _))];exact E.ext.h b o q)
 ·refine(x.old b ?_).trans (E.ext.old b hb);rw[mO (ne hb)];exact ay.some E.ext.h hb
 ·have h1:=E.ent i e q;have na:∀b∈e.fp (σ[i]?).join,b≠a:=λb hb z=>off i e q (z▸hb);refine h1.loc (λb hb=>?_) x.r λb hb=>?_
  ·cases e2:H b with
   | none=>exact SQ e2 (Ent.eF h1 hb).1
   | some u=>exact x.h b u (by rw[mO (na b hb)];exact e2)
  ·exact(x.old b (by rw[mO (na b hb)];exact(Ent.eF h1 hb).1)).trans (Ent.eF h1 hb).2
theorem aw.lN {K:Sk}{σ:St}{H0 R0 H R:Hp}(E:aw K σ H0 R0 H R Γ){i:Nat}{e0 en:Ent}(hi:Γ[i]?=some e0)(ho:en.ok K H R (σ[i]?).join)(Tu:∀b∈en.fp (σ[i]?).join,H0 b=none/\∀(j:Nat)(e:Ent),j≠i->Γ[j]?=some e->b∉e.fp (σ[j]?).join):aw K σ H0 R0 H R (Γ.set i en):=by
 refine⟨E.ext,λj e q=>?_,λj e b q w=>?_,λj k e e' b q q' w w'=>?_,by rw[NT];exact E.len⟩
 ·rcases set_at q with⟨rfl,rfl,_⟩ | ⟨hj,q1⟩
  ·exact ho
  ·exact E.ent j e q1
 ·rcases set_at q with⟨rfl,rfl,_⟩ | ⟨hj,q1⟩
  ·exact(Tu b w).1
  ·exact E.nw j e b q1 w
 ·rcases set_at q with⟨rfl,rfl,_⟩ | ⟨hj,q1⟩
  ·rcases set_at q' with⟨rfl,rfl,_⟩ | ⟨hk,Us⟩
   ·rfl
   ·exact SQ w' ((Tu b w).2 k e' hk Us)
  ·rcases set_at q' with⟨rfl,rfl,_⟩ | ⟨hk,Us⟩
   ·exact SQ w ((Tu b w').2 j e hj q1)
   ·exact E.ds _ _ _ _ b q1 Us w w'
abbrev mx (α:Type):=Sk->List α->List Pk->(List α->RT)->Prop
def gX (r:Rep α)(S:mx α)(K:Sk):Sp:=λvs H Q _=>∃R a ws xs TK ps T,vs= .ref a::TK/\ay R H/\R a=none/\H a=some (.lst ws)/\PySem.Paired (r.R K R) ws xs/\kA K R TK ps/\S K xs ps T/\
 ∀v H' R' UK xs',Ext (del H a) R H' R'->H' a=some (.lst UK)->R' a=none->PySem.Paired (r.R K R') UK xs'->T xs' (del H a) v H' R'->Q v H'
theorem zc {r:Rep α}{S:mx α}{x y:Str}{k:Nat}{es:MI}{p p1 pos:Pos}{ps:List Pk}{xs:List α}{TM:List α->RT}{Q:VK}{σ:St}{H0 R0 H R:Hp}(i:Nat)(C:aM X.prog X.w X.K X.mg X.base x k (gX r S X.K))(hr:bI k X.A)(ha:HA X es Γ ps Γ1)(hΓ:Γ[i]?=some (.mu r xs))(hΓ1:Γ1[i]?=some (.mu r xs))(hS:S X.K xs ps TM)(E:aw X.K σ H0 R0 H R Γ)(q:∀H1 v H' R' xs',aw X.K σ H0 R0 H' R' (Γ1.set i (.mu r xs'))->ay R R'->TM xs' H1 v H' R'->Q v H')(hg:Gl X x)(TZ:(x==("__debug__":Str))=false)(he:PU (.Name y p1::es) X.env=(false,eval (.Name y p1) X.env)::PU es X.env)(To:(P8 pos (PU es X.env)).any (·.1)=false)(hN:X.N[i]?=some y)(hv:cb X.env.scope y)(hd:(y==("__debug__":Str))=false)(S9:(y==("__classdict__":Str))=false):gK X (.Call (.Name x p) (.Name y p1::es) [] pos) σ H Q:=by
 obtain⟨f,fd,pn,F,hm,hk,hb⟩:=C.ex;obtain⟨a,vs,ea,_,_,_⟩:=E.ent i _ hΓ;refine eS (iE F hr hg hm hk hb .nil kj (aK (a8 hN hv hd S9) me he) TZ he To) ⟨.ref a,at_of ea,ha σ H0 R0 H R E _ λus H1 R1 E1 s1 p1=>?_⟩;obtain⟨a',ws,T1,hp,hR,pp⟩:=E1.ent i _ hΓ1;rw[ea] at T1;cases T1
 have h0:H0 a=none:=E1.new i _ a hΓ1 rfl ea;refine⟨R1,a,ws,xs,us,ps,TM,by rw[Nw],E1.sub,hR,hp,pp,p1,hS,λv H' R' UK xs' xx h1 h2 pq t=>q _ v H' R' xs' ?_ (s1.trans xx.r) t⟩;have apart:∀(j:Nat)(e:Ent),j≠i->Γ1[j]?=some e->a∉e.fp (σ[j]?).join:=λj e hj qj w=>hj (E1.ds j i e _ a qj hΓ1 w (cv.mpr ea));have E2:aw X.K σ H0 R0 H1 R1 (Γ1.set i .no):=E1.tell hΓ1 trivial λb w=>by cases w
 have E3:=E2.Cu (a:=a) (λj e qj w=>by
  rcases set_at qj with⟨rfl,rfl,_⟩ | ⟨hj,q1⟩
  ·cases w
  ·exact apart j e hj q1 w) h0 xx
 have hl:i<Γ1.length:=(M1.mp hΓ1).1;have E4:=E3.lN (i:=i) (e0:=.no) (en:=.mu r xs') (Ni hl) (by rw[ea];exact⟨a,UK,rfl,h1,h2,pq⟩) λb w=>by
  have eb:b=a:=by rw[cv.mp w] at ea;cases ea;rfl
  subst eb;exact⟨h0,λj e hj qj=>apart j e hj (by rwa [Nt (Pr hj)] at qj)⟩
 rw[Og] at E4;exact E4
theorem AJ (i:Nat){r:Rep α}{S:mx α}{x y:Str}{k:Nat}{es:MI}{p p1 pos:Pos}{ps:List Pk}{xs st:List α}{rr:Rep β}{z:β}(C:aM X.prog X.w X.K X.mg X.base x k (gX r S X.K))(hr:bI k X.A)(ha:HA X es Γ ps Γ1)(hΓ:Γ[i]?=some (.mu r xs))(hΓ1:Γ1[i]?=some (.mu r xs))(hS:S X.K xs ps (λxs'=>dq X.K rr λw=>xs'=st/\w=z))(hg:Gl X x:=by rfl)(TZ:Ti x:=by decide)(he:PU (.Name y p1::es) X.env=(false,eval (.Name y p1) X.env)::PU es X.env:=by rfl)(To:(P8 pos (PU es X.env)).any (·.1)=false:=by rfl)(hN:X.N[i]?=some y:=by rfl)(hv:autoParam (cb X.env.scope y) Tv)(hd:Ti y:=by decide)(S9:Tz y:=by decide):
 EV X (.Call (.Name x p) (.Name y p1::es) [] pos) Γ rr z (Γ1.set i (.mu r st)):=λσ H0 R0 H R E Q q=>
 zc i C hr ha hΓ hΓ1 hS E (λH1 v H' R' xs' E' s' t=>by
  obtain⟨w,e1,rfl,rfl⟩:=t;exact q v H' R' E' s' e1) hg TZ he To hN hv hd S9
theorem eT (i:Nat){r:Rep α}{S:mx α}{x y:Str}{k:Nat}{a:Addr}{es:MI}{p p1 pos:Pos}{ps:List Pk}{xs st:List α}{rr:Rep β}{z:β}(C:aM X.prog X.w X.K X.mg X.base x k (gX r S X.K))(hr:bI k X.A)(ha:HA X es (Γ.set i (.mu r xs)) ps (Γ.set i (.mu r xs)))(hΓ:Γ[i]?=some (.ob (aE a r xs)))(hS:S X.K xs ps (λxs'=>dq X.K rr λw=>xs'=st/\w=z))(hg:Gl X x:=by rfl)(TZ:Ti x:=by decide)(he:PU (.Name y p1::es) X.env=(false,eval (.Name y p1) X.env)::PU es X.env:=by rfl)(To:(P8 pos (PU es X.env)).any (·.1)=false:=by rfl)(hN:X.N[i]?=some y:=by rfl)(hv:autoParam (cb X.env.scope y) Tv)(hd:Ti y:=by decide)(S9:Tz y:=by decide):
 EV X (.Call (.Name x p) (.Name y p1::es) [] pos) Γ rr z (Γ.set i (.ob (aE a r st))):=by
 have hl:i<Γ.length:=(M1.mp hΓ).1;have h:=EV.box i (xs':=st) (AJ (p:=p) i C hr ha (Ni hl) (Ni hl) hS hg TZ he To hN hv hd S9) hΓ (by rw[Og];exact Ni hl);rwa [Og,Og] at h
def B5 (K:Sk)(a:Addr)(r:Rep α)(T:List α->RT):RT:=λH0 v H' R'=>∃UK xs',H' a=some (.lst UK)/\R' a=none/\PySem.Paired (r.R K R') UK xs'/\T xs' H0 v H' R'
theorem F8 (i:Nat){e:Expr}{pos:Pos}{a:Addr}{r:Rep α}{xs:List α}{rr:Rep β}{y:β}{P:List α->β->Prop}(he:EV X e Γ rr y Γ1)(hΓ1:Γ1[i]?=some (.ob (aE a r xs)))(h:P xs y):W1 X (.Return (some e) pos) Γ N (B5 X.K a r λxs'=>dq X.K rr (P xs')):=λσ H0 R0 H R E D dn dr=>
 sS (jX aO) (he σ H0 R0 H R E _ λv H1 R1 E1 s1 e1=>by
  obtain⟨ea,⟨vs,ha,pp⟩,hR⟩:=dv (E1.ent i _ hΓ1);exact dr v H1 R1 E1.ext ⟨vs,xs,ha,hR,pp,y,e1,h⟩)
theorem xk {K:Sk}{R H:Hp}{a:Addr}{r:Rep α}{ws:List V}{xs:List α}{vs:List V}{ps:List Pk}{N:ME}(s:ay R H)(hR:R a=none)(ha:H a=some (.lst ws))(pp:PySem.Paired (r.R K R) ws xs)(p:kA K R vs ps)(hl:ps.length+1<=N.length):
 aw K (L2.start N (.ref a::vs)) (del H a) R H R (.ob (aE a r xs)::fO ps (N.length-1)):=by
 obtain⟨n0,N',rfl⟩:∃n0 N',N=n0::N':=by cases N with
  | nil=>exact SQ hl (by simp)
  | cons n N'=>exact⟨n,N',rfl⟩
 have UT:ps.length<=N'.length:=by simpa using hl
 have E0:=ku (N:=N') s p UT;have es:L2.start (n0::N') (.ref a::vs)=some (.ref a)::L2.start N' vs:=by unfold L2.start;simp
 rw[es];have Ts:∀(i:Nat)(e:Ent)(o:Option V),(fO ps N'.length)[i]?=some e->e.fp o=[]:=λi e o q=>by
  unfold fO at q;rcases Nj.mp (Ng q) with z | z
  ·obtain⟨p,_,rfl⟩:=Nx.mp z;rfl
  ·obtain⟨_,rfl⟩:=OK.mp z;rfl
 refine⟨⟨Ee,ay.refl _,s,λ_ _=>rfl⟩,λi e q=>?_,λi e b q w=>?_,λi j e e' b q q' w w'=>?_,?_⟩
 ·cases i with
  | zero=>simp at q;subst q;exact m8 ha hR pp
  | succ i=>simp at q;simpa using E0.ent i e q
 ·cases i with
  | zero=>simp at q;subst q;rw[show b=a from M5.mp w];exact uN
  | succ i=>simp at q;rw[Ts i e _ q] at w;cases w
 ·cases i with
  | succ i=>simp at q;rw[Ts i e _ q] at w;cases w
  | zero=>
    cases j with
    | zero=>rfl
    | succ j=>simp at q';rw[Ts j e' _ q'] at w';cases w'
 ·have:=E0.len;simp[this]
variable {P:P2}{w:World}{K:Sk}{mg:MA}{base:Heap}
theorem sT {r:Rep α}{S:mx α}{x qual:Str}{st:Stmt}{f:Addr}{fd:Qa}{N ps:ME}{k:Nat}(F:dQ K x qual st f fd)(Sc:aN N ps (ao st))(hm:mg x=some (.ref f))(hb:Binds K fd ps [])(len:∀xs qs T,S K xs qs T->qs.length+1=ps.length)(TB:∀(S6:Value)(A:P7)(outer:List Env)(s:PX)(H:Hp)(E:XK)(a:Addr)(xs:List α)(qs:List Pk)(T:List α->RT),bI k (A.deeper (PK qual (ao st) s.heap.objs.size f S6))->S K xs qs T->
  WS (eN d8 P w K mg base N qual (ao st) f S6 A outer s H E).iq (br st) (.ob (aE a r xs)::fO qs (N.length-1)) (λ_=>False) (B5 K a r T)):aM P w K mg base x (k+1) (gX r S K):=by
 refine⟨f,fd,ps,?_,hm,F.kp,hb⟩;refine F.ok Sc (λvs H Q E h=>?_) (λS6 A outer s H vs Q E hr h=>?_)
 ·obtain⟨R,a,ws,xs,TK,qs,T,rfl,_,_,_,_,p,hS,_⟩:=h;rw[Nf,p.length];exact len xs qs T hS
 ·obtain⟨R,a,ws,xs,TK,qs,T,rfl,sR,hR,ha,pp,p,hS,q⟩:=h;have hl:qs.length+1<=N.length:=by
   rw[len xs qs T hS];have:=congrArg List.length Sc.pre;rw[Nu] at this;omega
  refine⟨_,ib,TB S6 A outer s H E a xs qs T hr hS (L2.start N (.ref a::TK)) (del H a) R H R (xk sR hR ha pp p hl) {nx:=λ_ H'=>Q .Tf H',rt:=Q} (λ_ _ _ _ _ _ f=>f.elim) λv H' R' xx t=>?_⟩;obtain⟨UK,xs',h1,h2,h3,h4⟩:=t;exact q v H' R' UK xs' xx h1 h2 h3 h4
theorem Dh {r:Rep α}{S:mx α}{x:Str}{st:Stmt}{N ps:ME}{k:Nat}(D:Def K mg x st ps)(Sc:aN N ps (ao st))(TB:∀(f:Addr)(S6:Value)(A:P7)(outer:List Env)(s:PX)(H:Hp)(E:XK)(a:Addr)(xs:List α)(qs:List Pk)(T:List α->RT),bI k (A.deeper (PK x (ao st) s.heap.objs.size f S6))->S K xs qs T->
  WS (eN d8 P w K mg base N x (ao st) f S6 A outer s H E).iq (br st) (.ob (aE a r xs)::fO qs (N.length-1)) (λ_=>False) (B5 K a r T))(len:∀xs qs T,S K xs qs T->qs.length+1=ps.length:=by(intros;rename_i h;repeat (first | (rw[h.1];rfl) | obtain⟨_,h⟩:=h))):aM P w K mg base x (k+1) (gX r S K):=by
 obtain⟨f,fd,F,hm,hb⟩:=D;exact sT F Sc hm hb len (TB f)
end
section
variable {α:Type}
def bX (k:Nat)(y:α)(xs:List α):List α:=xs.take k++y::xs.drop k
theorem uQ {k:Nat}{y:α}{xs:List α}:(bX k y xs).length=xs.length+1:=by
 unfold bX;rw[M9,Nf,Nu,Ov];omega
theorem yQ {β:Type}(f:α->β){k:Nat}{y:α}{xs:List α}:(bX k y xs).map f=bX k (f y) (xs.map f):=by
 unfold bX;rw[Nn,Nz,List.map_take,OW]
end
def EH:V->List V->Hp->VK->Prop:=λx vs H Q=>∃l xs i y,x= .ref l/\vs=[.int i,y]/\H l=some (.lst xs)/\0<=i/\i<=(xs.length:Int)/\xs.length<PZ/\Q .Tf (upd H l (.lst (bX i.toNat y xs)))
theorem y9:zr X "list.insert" EH:=by
 intro S3 s σ H x vs v us Q I rx rv h;obtain⟨l,xs,i,y,rfl,rfl,hH,h0,h1,hz,q⟩:=h;cases rx
 obtain⟨u1,u2,rfl,⟨t,rfl⟩,r2⟩:=vals2 rv;obtain⟨z,S5,n,r,hl,e⟩:=I.lO hH;have hfit:Rc.List.listFitsIndex i=true:=fitsIndex_both (by omega) (by
  have:PZ<2 ^ 63:=by decide
  omega)
 refine QD PySem.F.slot_list_insert ⟨_,e,rfl⟩ PySem.F.entry_list_insert (PySem.F.args_list_insert_3 _ _ _) (PySem.AutoSeq1.list_insert_list_int_val_1 l _ n i t u2 (by simp[hfit]) (by rw[Nm];omega)) ⟨e,?_⟩;refine⟨.Tf,_,I.uI (its':=bX i.toNat u2 S5) hH e ?_ ?_ ?_,rfl,q⟩
 ·have hk:(if i<0 then(i+((S5.toArray.size:Nat):Int)).toNat else min i.toNat S5.toArray.size)=i.toNat:=by
   rw[SR (by omega),Nm];omega
  dsimp only;rw[hk];unfold bX;apply Array.ext';simp;exact OA (by rw[Ov];exact O0 _)
 ·unfold bX;exact(r.take _).append (.cons r2 (r.drop _))
 ·rw[uQ];omega
def dO:Rep Addr:=⟨λ_ _ v a=>v= .ref a,λ_ h=>h⟩
def m9:Ent->Ent
 | .im r x=>.im r x
 | _=>.no
theorem aw.Ul {K:Sk}{σ:St}{H0 R0 H R:Hp}(E:aw K σ H0 R0 H R Γ):aw K σ H H H H (Γ.map m9):=by
 have Ts:∀(i:Nat)(e:Ent)(o:Option V),(Γ.map m9)[i]?=some e->e.fp o=[]:=λi e o q=>by
  rw[Nc] at q;cases h:Γ[i]? with
  | none=>rw[h] at q;cases q
  | some e'=>rw[h] at q;cases q;cases e'<;>rfl
 refine⟨Ext.refl (ay.refl _),λi e q=>?_,λi e a q w=>SQ w (by rw[Ts i e _ q];exact Nv),λi j e e' a q _ w=>SQ w (by rw[Ts i e _ q];exact Nv),by rw[M8];exact E.len⟩;rw[Nc] at q;cases h:Γ[i]? with
 | none=>rw[h] at q;cases q
 | some e'=>
   rw[h] at q;cases q
   have:=E.ent i e' h;cases e' with
   | im r x=>obtain⟨v,e,hr⟩:=this;exact⟨v,e,r.mono E.sub hr⟩
   | no=>trivial
   | mu r x=>trivial
   | di x=>trivial
   | ob x=>trivial
variable {P:P2}{w:World}{K:Sk}{mg:MA}{base:Heap}
theorem E6 {S:dI}{x qual:Str}{st:Stmt}{f:Addr}{fd:Qa}{N ps:ME}{k:Nat}(F:dQ K x qual st f fd)(Sc:aN N ps (ao st))(len:∀qs T,S K qs T->qs.length=ps.length)(TB:∀(S6:Value)(A:P7)(outer:List Env)(s:PX)(H:Hp)(E:XK)(qs:List Pk)(T:RT),bI k (A.deeper (PK qual (ao st) s.heap.objs.size f S6))->S K qs T->
  WS (eN d8 P w K mg base N qual (ao st) f S6 A outer s H E).iq (br st) (fO qs N.length) (λ_=>False) T):d6 P w K mg base d8 (k+1) f fd ps (a9 S K):=by
 refine F.ok Sc (λvs H Q E h=>?_) (λS6 A outer s H vs Q E hr h=>?_)
 ·obtain⟨R,qs,T,_,p,hS,_⟩:=h;rw[p.length];exact len qs T hS
 ·obtain⟨R,qs,T,sR,p,hS,q⟩:=h;have hl:qs.length<=N.length:=by
   rw[len qs T hS];have:=congrArg List.length Sc.pre;rw[Nu] at this;omega
  exact⟨_,ib,TB S6 A outer s H E qs T hr hS (L2.start N vs) H R H R (ku sR p hl) {nx:=λ_ H'=>Q .Tf H',rt:=Q} (λ_ _ _ _ _ _ f=>f.elim) λv H' R' xx t=>q v H' R' xx t⟩
theorem pB {h:Heap}{x:Str}{st:Stmt}{ps:ME}{f:Addr}{oc:Value}{od an:Option Addr}{UL:Array MF}{kV doc pm S6 ct:Value}(KX:K.In h)(G:h.Ns P1 mg)(a:Sl K P1 x=some (some (.ref f)))(l:K.lookup f=some ⟨oc,od,.func (So x x (cR st) (br st) (ao st) .none kV doc pm an S6 ct),UL⟩)(c:Su K S6 x=true)(k:Sq K (.ref f)=true)(b:∀(kV doc pm:Value)(an:Option Addr)(S6 ct:Value)(us:MH),us.length=ps.length->QV (So x x (cR st) (br st) (ao st) .none kV doc pm an S6 ct) ⟨us,[]⟩=pure (ps.zip us)):Def K mg x st ps:=
 ⟨f,_,jK l c k,Sr KX G a,(jK l c k).binds b⟩
open PySem.Builtin.Int (intBits)
theorem uV {ns:MC}(h:PySem.W.WData.layableAll [.list (ns.map .int)]=true):∀n∈ns,intBits n<=2 ^ 20:=λn hn=>by
 have h1:=PySem.W.layableW_arg h _ (M5.mpr rfl);have h2:=PySem.W.layableW_item h1 (.int n) (Nx.mpr ⟨n,hn,rfl⟩);exact PySem.PyData.bits_of_layable h2
end Fc
namespace Att
open PySem PySem.W PySem.Calls PyProof.Rows
open PySem.Builtin.Int (intBits)
theorem ux {l:OpenLaw}{n:Nat}{q:P2}{loose:ME}{XP:(MA)->Heap->Prop}{YP:World->Heap->Prop}{d:DefRec}(hn:l.most=some n)(XO:d.params.defaults=[])(call:∀(w:World)(s₀ s₁:PX)(mg mb:MA)(fa:Addr)(o:Obj)(pm cd doc:Value)(a:Addr)(vs:MH)(ns:MC),
  Ground q loose [] XP w s₀ mg mb s₁.heap->YP w s₁.heap->
  s₁.heap.get? fa=some o->o.data= .func (docDef d.name d.params d.body d.scope pm cd doc)->s₁.heap.CodeRec cd d.name->mg d.name=some (.ref fa)->
  s₁.heap.get? a=some {cls:=.type "list",data:=.seq vs.toArray}->IntsAre vs ns->ns.length<=n->(∀m∈ns,intBits m<=2 ^ 20)->s₁.gens= #[]->
  QU (model l.prog w) Q2 (.call (.ref fa) ⟨[.ref a],[]⟩) (λr s'=>r= .ok (.ret (.bool true))/\OldK s₁.heap s'.heap/\s'.os=s₁.os/\PN s'.gens) s₁):
 WalkO q loose XP YP l.row.toRowW d [] (λf vs=>PySem.call f vs):=by
 intro w s₀ s₁ mg mb G Y fa o pm cd doc dV kV ho hd S9 hD XB hg args vals as VS hlay hrd hwl VW;obtain rfl:dV= .none:=Dflts.none hD XO;obtain rfl:kV= .none:=Dflts.noKw hD;obtain⟨a,vs,ns,rfl,rfl,WH,hints,hlen⟩:=y8 hn VS hwl;refine enter_call (Q3 (call w s₀ s₁ mg mb fa o pm cd doc a vs ns G Y ho (fd_plain hd) S9 XB WH hints hlen (Fc.uV hlay) hg) λr s' hq=>?_);obtain⟨rfl,h2,h3,h4⟩:=hq;exact⟨.inl ⟨.bool true,.bool true,[],rfl,λ_=>rfl,.bool true,yB l _,λ_=>⟨List.Pairwise.nil,λ_ hm=>(nomatch hm)⟩⟩,h2,h3,h4⟩
end Att
namespace L2
open PySem PySem.Spec PyProof.Rows
open PySem.Builtin.Int (intBits)
theorem AS {l:SH}{n k:Nat}{q:P2}{loose:ME}{XP:(MA)->Heap->Prop}{YP:World->Heap->Prop}{d:DefRec}{K:Params->Sk}{CX:World->l7}{sp:World->Sp}{x:Str}(hn:l.most=some n)(hn2:n<=PZ)(XO:d.params.defaults=[])(hr:bI k Q2)(hY:∀(w:World)(h:Heap),YP w h->(K w.params).In h)(F:∀(w:World)(mg:MA)(fa:Addr)(h:Heap),(K w.params).In h->h.Ns P1 mg->mg d.name=some (.ref fa)->
  ∃fd:Qa,(∀(s:PX)(u:Value),Ra s fd ⟨[u],[]⟩ [(x,u)])/\
   ∀base:Heap,(K w.params).In base->base.Ns P1 mg->d6 l.prog w (K w.params) mg base (CX w) k fa fd [x] (sp w))(Vg:∀(w:World)(H:Hp)(a:Addr)(ns:MC),ns.length<=n->(∀m∈ns,intBits m<=2 ^ 20)->Bx H->aY (K w.params) H a (ns.map V.int)->sp w [.ref a] H (λv _=>v= .bl true) λ_ _ _=>False)(hCX:∀(w:World)(H:Hp)(s:PX)(e:Value)(s':PX),CX w [] H s (λ_ _ _=>False) e s'->False):
 PySem.W.WalkO q loose XP YP l.row.toRowW d [] (λf vs=>PySem.call f vs):=by
 refine Att.ux hn XO λw s₀ s₁ mg mb fa o pm cd doc a vs ns G Y ho hd S9 XB WH hints hlen UX hg=>?_;have KX:=hY w _ Y;obtain⟨fd,hb,hF⟩:=F w mg fa _ KX G.T.g XB;exact AO KX G.T.g G.T.b G.T.builtins G.T.nolimit hg WH hints (O2 hlen hn2) hr hF hb (λH hO hS=>Vg w H a ns hlen UX hO hS) λH e s'=>hCX w H s₁ e s'
end L2
namespace Fc
open PySem PySem.Spec PySem.W PySem.Calls L2
open PyProof.Rows hiding St
section
variable {X:Cx}{Γ Γ1:Ga}
end
section
variable {P:P2}{w:World}{K:Sk}{mg:MA}{base:Heap}
end
section
variable {X:Cx}{S3:MB}{σ:St}{H:Hp}{s:PX}{e:Addr}{o:Obj}
end
end Fc
namespace Fc
open PySem PySem.Spec PySem.W PySem.Calls L2
open PyProof.Rows hiding St
open PySem PySem.Spec PySem.W PySem.Calls PySem.Builtin.ObjectAttr PySem.Builtin.Getset_descriptor L2
section
variable {K:Frag}{D x:Addr}{prog:P2}{w:World}{A:P7}{E:Value->PX->Prop}{s:PX}
end
section
variable {X:Cx}{Γ Γ1:Ga}{ea D:Addr}{oe:Obj}
end
end Fc
namespace Fc
open PySem PySem.Spec PySem.W PySem.Calls L2
open PyProof.Rows hiding St
section
variable {X:Cx}{Γ Γ1:Ga}{H0 R0:Hp}
end
section
variable {P:P2}{w:World}{K:Sk}{mg:MA}{base:Heap}{N:ME}{qual:Str}{scope:Scope}{f:Addr}{cd:Value}{A:P7}{outer:List Env}{s:PX}{H R:Hp}{E:XK}{Γ Γ1:Ga}
end
section
variable {X:Cx}{Γ Γ1:Ga}{ea D:Addr}{oe:Obj}{S3:MB}{σ:St}{H:Hp}{s:PX}
end
def aj:Rep Str:=⟨λ_ _ v x=>v= .str x,λ_ h=>h⟩
theorem ar {X:Cx}{Γ:Ga}{x:Str}{j:Nat}{pos:Pos}:EV X (.Constant (.str x) j pos) Γ aj x Γ:=λ_ _ _ _ _ E _ q=>eS F9 (q _ _ _ E (ay.refl _) rfl)
inductive PV
 | Tf
 | bl (b:Bool)
 | int (i:Int)
 | str (x:Str)
 | tup (xs:List PV)
 | lst (xs:List PV)
mutual
inductive gR (H:Hp):V->PV->Prop
 | Tf:gR H .Tf .Tf
 | bl (b:Bool):gR H (.bl b) (.bl b)
 | int (i:Int):gR H (.int i) (.int i)
 | str (x:Str):gR H (.str x) (.str x)
 | tup {a:Addr} {vs:List V} {xs:List PV}:H a=some (.tup vs)->eL H vs xs->gR H (.ref a) (.tup xs)
 | lst {a:Addr} {vs:List V} {xs:List PV}:H a=some (.lst vs)->eL H vs xs->xs.length<=PZ->gR H (.ref a) (.lst xs)
inductive eL (H:Hp):List V->List PV->Prop
 | nil:eL H [] []
 | cons {v:V} {x:PV} {vs:List V} {xs:List PV}:gR H v x->eL H vs xs->eL H (v::vs) (x::xs)
end
mutual
theorem gR.mono {H H':Hp}(s:ay H H'):∀{v:V}{x:PV},gR H v x->gR H' v x
 | _,_,.Tf=>.Tf
 | _,_,.bl b=>.bl b
 | _,_,.int i=>.int i
 | _,_,.str x=>.str x
 | _,_,.tup h t=>.tup (s _ _ h) (eL.mono s t)
 | _,_,.lst h t z=>.lst (s _ _ h) (eL.mono s t) z
theorem eL.mono {H H':Hp}(s:ay H H'):∀{vs:List V}{xs:List PV},eL H vs xs->eL H' vs xs
 | _,_,.nil=>.nil
 | _,_,.cons h t=>.cons (gR.mono s h) (eL.mono s t)
end
theorem eL.pair {H:Hp}:∀{vs:List V}{xs:List PV},eL H vs xs->PySem.Paired (gR H) vs xs
 | _,_,.nil=>.nil
 | _,_,.cons h t=>.cons h (eL.pair t)
theorem eL.of {H:Hp}:∀{vs:List V}{xs:List PV},PySem.Paired (gR H) vs xs->eL H vs xs
 | _,_,.nil=>.nil
 | _,_,.cons h t=>.cons h (eL.of t)
def ag:Rep PV:=⟨λ_ H v x=>gR H v x,λs h=>h.mono s⟩
variable {X:Cx}{Γ Γ1 Γ2 Γ3:Ga}{α β γ δ:Type}{N:Ga->Prop}{T:RT}
section
variable {e:Expr}{pos:Pos}{a:Expr}
theorem EV.re {r:Rep α}{r':Rep β}{x:α}{y:β}(h:EV X e Γ r x Γ1)(f:∀(K:Sk)(R:Hp)(v:V),r.R K R v x->r'.R K R v y):EV X e Γ r' y Γ1:=λσ H0 R0 H R E Q q=>h σ H0 R0 H R E Q λv H' R' E' s' e'=>q v H' R' E' s' (f _ _ v e')
theorem EV.pI {n:Int}(h:EV X e Γ ai n Γ1):EV X e Γ ag (.int n) Γ1:=h.re λK R v e=>by cases e;exact .int n
theorem EV.pS {x:Str}(h:EV X e Γ aj x Γ1):EV X e Γ ag (.str x) Γ1:=h.re λK R v e=>by cases e;exact .str x
theorem EV.pL {xs:List PV}(h:EV X e Γ (ae ag) xs Γ1):EV X e Γ ag (.lst xs) Γ1:=h.re λK R v ⟨a,vs,e,q,p,z⟩=>by subst e;exact .lst q (.of p) z
theorem EV.iP {n:Int}(h:EV X e Γ ag (.int n) Γ1):EV X e Γ ai n Γ1:=h.re λK R v e=>by cases e;rfl
theorem EV.sP {x:Str}(h:EV X e Γ ag (.str x) Γ1):EV X e Γ aj x Γ1:=h.re λK R v e=>by cases e;rfl
theorem EV.lP {xs:List PV}(h:EV X e Γ ag (.lst xs) Γ1):EV X e Γ (ae ag) xs Γ1:=h.re λK R v e=>by cases e with | lst q p z=>exact⟨_,_,rfl,q,p.pair,z⟩
theorem eM {es:MI}{k:Nat}{xs:List PV}(h:EA X es Γ ag xs Γ1)(hz:xs.length<=PZ:=by show _<=PZ;decide):EV X (.Tuple es k pos) Γ ag (.tup xs) Γ1:=by
 intro σ H0 R0 H R E Q q;refine eS (sy me) (h σ H0 R0 H R E _ λvs H1 R1 E1 s1 p1=>⟨by rw[p1.length];exact hz,λp hp=>?_⟩);have x:=Ext.fresh E1.sub hp (.tup vs);exact q _ _ _ (E1.grow x) (s1.trans x.r) (.tup aF (.of (Paired.map (λ_ _=>ag.mono x.r) p1)))
theorem eR {b:Expr}{xs:List PV}{i:Int}{y:PV}(ha:EV X a Γ ag (.tup xs) Γ1)(hb:EV X b Γ1 ai i Γ2)(h:cM xs i=some y)(hs:eQ b:=by exact λ_ _=>rfl):EV X (.Subscript a b pos) Γ ag y Γ2:=by
 intro σ H0 R0 H R E Q q;refine eS (iJ Ic aO aO hs) (ha σ H0 R0 H R E _ λv H1 R1 E1 s1 e1=>hb σ H0 R0 H1 R1 E1 _ λu H2 R2 E2 s2 e2=>?_);cases ag.mono (K:=X.K) s2 e1 with
 | tup ha pp=>
   obtain⟨w,e3,e4⟩:=ie pp.pair h;exact⟨_,_,i,w,rfl,e2,cC.of (E2.sub _ _ ha),e3,q w H2 R2 E2 (s1.trans s2) e4⟩
theorem vy {p:Pos}{xs:List PV}(hm:X.mg "len"=none)(ha:EV X a Γ ag (.tup xs) Γ1)(hs:PU [a] X.env=[(false,eval a X.env)]:=by rfl)(hg:Gl X "len":=by rfl):EV X (.Call (.Name "len" p) [a] [] pos) Γ ai (xs.length:Int) Γ1:=by
 intro σ H0 R0 H R E Q q;refine eS (dX fV hg hm Qq (aK aO bo hs) (by decide) (by decide) hs) (ha σ H0 R0 H R E _ λv H1 R1 E1 s1 e1=>?_);cases e1 with
 | tup hp pp=>
   refine⟨_,_,rfl,.inr (cC.of (E1.sub _ _ hp)),?_⟩;rw[pp.pair.length];exact q _ H1 R1 E1 s1 rfl
theorem mV {K:Sk}{xs:List PV}(R H:Hp)(v:V)(s:ay R H)(h:ag.R K R v (.tup xs)):fw K H v (.type "tuple"):=by cases h with | tup e _=>exact .tup (s _ _ e)
theorem jD {K:Sk}{xs:List PV}(R H:Hp)(v:V)(s:ay R H)(h:ag.R K R v (.lst xs)):fw K H v (.type "list"):=by cases h with | lst e _ _=>exact .lst (s _ _ e)
theorem x8 {H:Hp}{vs:List V}{xs:List PV}(p:PySem.Paired (gR H) vs xs)(l h:Option Int):PySem.Paired (gR H) (kF vs l h) (cut xs l h):=by
 unfold kF cut;rw[p.length];exact iN _ (kC _ p)
theorem IG {lo hi:Option Expr}{p2:Pos}{xs:List PV}{l h:Option Int}(ha:EV X a Γ ag (.tup xs) Γ)(hl:OV X lo Γ l)(hh:OV X hi Γ h)(hw:¬(HT.Tj xs.length 0 l=0/\HT.Tj xs.length xs.length h=xs.length)):EV X (.Subscript a (.Slice lo hi none p2) pos) Γ ag (.tup (cut xs l h)) Γ:=by
 intro σ H0 R0 H R E Q q;obtain⟨tl,pl,kl⟩:=hl;obtain⟨th,ph,kh⟩:=hh;refine eS (lW Iu aO pl ph) (ha σ H0 R0 H R E _ λv H1 R1 E1 s1 e1=>kl σ H0 R0 H1 R1 E1 _ λH2 R2 E2 s2=>kh σ H0 R0 H2 R2 E2 _ λH3 R3 E3 s3=>?_);cases ag.mono (K:=X.K) (s2.trans s3) e1 with
 | @tup a' TK _ hp pp=>
   refine⟨_,_,rfl,cC.of (E3.sub _ _ hp),by rw[pp.pair.length];exact hw,λd hd=>?_⟩;have x:=Ext.fresh E3.sub hd (.tup (kF TK l h));exact q _ _ _ (E3.grow x) (s1.trans (s2.trans (s3.trans x.r))) (.tup aF (.of (Paired.map (λ_ _=>ag.mono (K:=X.K) x.r) (x8 pp.pair l h))))
mutual
def PV.deep:PV->Nat
 | .tup xs=>PV.ju xs+1
 | .lst xs=>PV.ju xs+1
 | _=>0
def PV.ju:List PV->Nat
 | []=>0
 | x::xs=>max (PV.deep x) (PV.ju xs)
end
theorem nN:∀{xs:List PV}{x:PV},x∈xs->x.deep<=PV.ju xs
 | y::ys,x,h=>by
   rw[PV.ju];rcases Nd.mp h with rfl | h
   ·omega
   ·have:=nN h;omega
section
variable {S3:MB}{σ:St}{H R:Hp}{s:PX}
end
end
theorem EV.rep {e:Expr}{r:Rep α}{x:α}{r':Rep β}{y:β}(h:EV X e Γ r x Γ1)(c:∀(R:Hp) v,r.R X.K R v x->r'.R X.K R v y):EV X e Γ r' y Γ1:=λσ H0 R0 H R E Q q=>h σ H0 R0 H R E Q λv H' R' E' s' e'=>q v H' R' E' s' (c R' v e')
theorem paired_ints {K:Sk}{R:Hp}:∀ys:MC,PySem.Paired (ai.R K R) (ys.map V.int) ys
 | []=>.nil
 | _::r=>.cons rfl (paired_ints r)
theorem rB {a:Expr}{p1 p2 pos UP:Pos}{n:Int}(WK:X.mg "list"=none)(hmr:X.mg "range"=none)(ha:EV X a Γ ai n Γ1)(hn: -1000000<=n/\n<=1000000)(hs:PU [a] X.env=[(false,eval a X.env)]:=by rfl)(TC:PU [.Call (.Name "range" p2) [a] [] UP] X.env=[(false,eval (.Call (.Name "range" p2) [a] [] UP) X.env)]:=by rfl)(hc:X.calm=true:=by rfl)(hg:Gl X "list":=by rfl)(hgr:Gl X "range":=by rfl):bg X (.Call (.Name "list" p1) [.Call (.Name "range" p2) [a] [] UP] [] pos) Γ ai (ups 0 n.toNat) Γ1:=by
 intro σ H0 R0 H R E Q q;refine eS (iV (mN hc) hg WK PD (aK (iV pQ hgr hmr PQ (aK aO bo hs) (by decide) (by decide) hs) bo TC) (by decide) (by decide) TC) (ha σ H0 R0 H R E _ λv H1 R1 E1 s1 e1=>⟨n,by rw[show v=V.int n from e1],λp hp=>?_⟩);refine⟨p,0,n,rfl,aF,by decide,by decide,hn.1,hn.2,λd hd=>?_⟩;have E2:=E1.grow (Ext.eC E1.sub hp (.VB 0 n));rw[Int.sub_zero];exact q d _ _ R1 (E2.grow (Ext.eC E2.sub hd _)) s1 aF (E2.sub.free hd) (E2.ext.h.free hd) (E2.off hd) (paired_ints _) (by rw[ck];exact O2 (show n.toNat<=1000000 by omega) (by decide))
section
variable {pos:Pos}{F:MJ}{Γf:Ga}
def bU (F:MJ):List (Int×V):=F.map λp=>(p.1,.int p.2)
def bJ (F:MJ)(k:Int):Option Int:=(F.find? λp=>decide (p.1=k)).map (·.2)
def iC (F:MJ)(k v:Int):MJ:=if(bJ F k).isSome then F.map (λp=>if p.1=k then(p.1,v) else p) else F++[(k,v)]
theorem j5:∀(F:MJ)(k:Int),cW (cE (bU F)) (Sum.inl k:Key)=(bJ F k).map V.int
 | [],_=>rfl
 | p::r,k=>by
   have ih:=j5 r k;by_cases e:p.1=k
   ·have e':(Sum.inl p.1:Key)=Sum.inl k:=by rw[e]
    have h1:cW (cE (bU (p::r))) (Sum.inl k:Key)=some (.int p.2):=dy (p:=((Sum.inl p.1:Key),V.int p.2)) e';rw[h1];unfold bJ;rw[Oj,decide_eq_true e];rfl
   ·have e':¬(Sum.inl p.1:Key)=Sum.inl k:=λz=>e (Sum.inl.inj z);have h1:cW (cE (bU (p::r))) (Sum.inl k:Key)=cW (cE (bU r)) (Sum.inl k:Key):=c8 (p:=((Sum.inl p.1:Key),V.int p.2)) e';rw[h1,ih];unfold bJ;rw[Oj,SW e]
theorem sA (F:MJ)(k v:Int):putK (cE (bU F)) (Sum.inl k:Key) (.int v)=cE (bU (iC F k v)):=by
 unfold putK iC;rw[gI,j5];have e:((bJ F k).map V.int).isSome=(bJ F k).isSome:=by cases bJ F k<;>rfl
 rw[e];split
 ·unfold cE bU;simp only[NX];apply Ox;intro p _;simp only[Function.comp];by_cases h:p.1=k
  ·rw[SS (by rw[h]),SS h]
  ·rw[SR (λz=>h (Sum.inl.inj z)),SR h]
 ·unfold cE bU;rw[Nn,Nn];rfl
theorem D9 (F:MJ)(k:Int):ic (bU F) k=(bJ F k).isSome:=by
 rw[← lx,j5];cases bJ F k<;>rfl
def ij:Rep MJ:=⟨λ_ H v F=>∃a,v= .ref a/\H a=some (.dK (cE (bU F))),λs ⟨a,e,q⟩=>⟨a,e,s _ _ q⟩⟩
theorem mI {a b:Expr}{k y:Int}(hu:X.A.units+1<cLine)(ha:EV X a Γ ij F Γ1)(hb:EV X b Γ1 ai k Γ2)(h:bJ F k=some y)(hs:Aj b:=by exact λ_ _=>rfl):EV X (.Subscript a b pos) Γ ai y Γ2:=by
 intro σ H0 R0 H R E Q q;refine eS (Dc hu aO aO hs) (ha σ H0 R0 H R E _ λv H1 R1 E1 s1 e1=>hb σ H0 R0 H1 R1 E1 _ λu H2 R2 E2 s2 e2=>?_);obtain⟨p,rfl,hp⟩:=ij.mono s2 e1;cases e2
 have g:=gH.k (k:=Sum.inl k) (E2.sub _ _ hp);rw[j5,h] at g;exact⟨p,_,rfl,g,q _ H2 R2 E2 (s1.trans s2) rfl⟩
theorem Bk (F:MJ)(k v:Int):(iC F k v).length<=F.length+1:=by
 unfold iC;split
 ·rw[M8];omega
 ·rw[M9];simp
theorem oR (i:Nat){x:Str}{ke ve:Expr}{p1 p2:Pos}{k v:Int}(hu:X.A.units+1<cLine)(hk:EV X ke Γ ai k Γ)(UM:EV X ve Γ ai v Γ)(hΓ:Γ[i]?=some (.di (bU F)))(hz:F.length<PZ)(h:N (Γ.set i (.di (bU (iC F k v)))))(hN:X.N[i]?=some x:=by rfl)(Xt:autoParam (cb X.env.scope x) Tv)(hd:Ti x:=by decide)(S9:Tz x:=by decide)(hs:P9 ve (some (.Subscript (.Name x p1) ke p2)) pos.line X.env=pure false:=by rfl):W1 X (.Assign [.Subscript (.Name x p1) ke p2] ve pos) Γ N T:=λσ H0 R0 H R E D dn dr=>by
 refine sS (qv hu (a8 hN Xt hd S9) aO aO hs) (UM σ H0 R0 H R E _ λu0 H0' R0' E0 s0 e0=>?_);obtain⟨a,ea,ha,hR⟩:=E0.ent i _ hΓ;refine⟨.ref a,at_of ea,hk σ H0 R0 H0' R0' E0 _ λu H1 R1 E1 s1 e1=>?_⟩;obtain⟨a',T1,Ud,T7⟩:=E1.ent i _ hΓ;rw[ea] at T1;cases T1
 cases e1
 cases e0
 refine⟨a,_,rfl,n6.k (k:=Sum.inl k) Ud (by unfold cE bU;rw[M8,M8];exact hz),?_⟩;rw[sA];exact dn σ _ R1 _ (E1.upd (en:=.di (bU (iC F k v))) hΓ rfl ea T7 ⟨a,rfl,aF,T7⟩) (s0.trans s1) h
theorem vX (i:Nat){x:Str}{p1:Pos}{P:MJ->Prop}(hΓ:Γ[i]?=some (.di (bU F)))(h:P F)(hN:X.N[i]?=some x:=by rfl)(hv:autoParam (cb X.env.scope x) Tv)(hd:Ti x:=by decide)(S9:Tz x:=by decide):W1 X (.Return (some (.Name x p1)) pos) Γ N (dq X.K ij P):=λσ H0 R0 H R E D dn dr=>by
 obtain⟨a,ea,ha,hR⟩:=E.ent i _ hΓ;have h0:H0 a=none:=E.new i _ a hΓ rfl ea;refine sS (jX (a8 hN hv hd S9)) ⟨.ref a,at_of ea,dr _ H (upd R a (.dK (cE (bU F)))) ⟨E.ext.h,E.ext.r.trans (ay.fresh hR _),λb o qb=>?_,λb hb=>?_⟩ ⟨F,⟨a,rfl,aF⟩,h⟩⟩
 ·by_cases hb:b=a
  ·subst hb;rw[aF] at qb;cases qb;exact ha
  ·rw[aG hb] at qb;exact E.ext.s b o qb
 ·rw[aG (show b≠a from λe=>hb (by rw[e];exact h0))];exact E.ext.old b hb
theorem aw.G3 {K:Sk}{σ:St}{H0 R0 H R H' R':Hp}(E:aw K σ H0 R0 H R Γ)(E':aw K σ H H H' R' Γf):aw K σ H0 R0 H' R Γ:=
 E.grow ⟨E'.ext.h,ay.refl _,E.sub.trans E'.ext.h,λ_ _=>rfl⟩
theorem TV.Ul (hF:∀(σ:St)(H0 R0 H R:Hp),aw X.K σ H0 R0 H R Γ->aw X.K σ H H H H Γf){e:Expr}{b:Bool}(h:TV X e Γf b Γf):TV X e Γ b Γ:=λσ H0 R0 H R E Q q=>
 h σ H H H H (hF σ H0 R0 H R E) Q λH' R' E' s'=>q H' R (E.G3 E') (ay.refl _)
theorem EV.Ul (hF:∀(σ:St)(H0 R0 H R:Hp),aw X.K σ H0 R0 H R Γ->aw X.K σ H H H H Γf){e:Expr}{r:Rep α}{y:α}(flat:∀(K:Sk)(H H':Hp) v y,r.R K H v y->r.R K H' v y)(h:EV X e Γf r y Γf):EV X e Γ r y Γ:=λσ H0 R0 H R E Q q=>
 h σ H H H H (hF σ H0 R0 H R E) Q λv H' R' E' s' e'=>q v H' R (E.G3 E') (ay.refl _) (flat X.K R' R v y e')
def z8:Rep Unit:=⟨λ_ _ v _=>v= .Tf,λ_ h=>h⟩
end
section
variable {P:P2}{w:World}{K:Sk}{mg:MA}{base:Heap}{α:Type}
end
theorem gO (i:Nat){x:Str}{e:Expr}{p1 ap cp:Pos}{r:Rep α}{xs:List α}{y:α}(he:EV X e Γ r y Γ1)(hΓ:Γ[i]?=some (.mu r xs))(hΓ1:Γ1[i]?=some (.mu r xs))(hz:xs.length<PZ)(hN:X.N[i]?=some x:=by rfl)(hv:autoParam (cb X.env.scope x) Tv)(hd:Ti x:=by decide)(S9:Tz x:=by decide)(Tc:P6 (.Name x p1) "append" X.env (eval (.Name x p1) X.env)=eval (.Name x p1) X.env:=by rfl)(TN:((P8 cp (PU [e] X.env)).all (λx=> !x.1)&&(Qy cp (Qm [] X.env)).all (λx=>x.1.isSome)
  &&decide ([e].length+([]:List Qc).length+(if([]:List Qc).isEmpty then 0 else 1)<30))=true:=by rfl)(Tb:(ap.endLine==cp.line)=true:=by rfl)(hs:PU [e] X.env=(false,eval e X.env)::PU [] X.env:=by rfl):EV X (.Call (.Attribute (.Name x p1) "append" ap) [e] [] cp) Γ z8 () (Γ1.set i (.mu r (xs++[y]))):=λσ H0 R0 H R E Q q=>by
 obtain⟨a,vs,ea,ha,hR,pp⟩:=E.ent i _ hΓ;refine eS (iK RC RE RF jb (a8 hN hv hd S9) (aK aO bo hs) Tc TN Tb hs rfl) ?_;refine⟨.ref a,at_of ea,.inl ⟨rfl,vs,aY.of ha⟩,he σ H0 R0 H R E _ λv H1 R1 E1 s1 e1=>?_⟩;obtain⟨a',TK,T1,Ud,T7,Uh⟩:=E1.ent i _ hΓ1;rw[ea] at T1;cases T1
 refine⟨a,TK,v,rfl,rfl,Ud,by rw[Uh.length];exact hz,?_⟩;exact q _ _ R1 (E1.upd (en:=.mu r (xs++[y])) hΓ1 rfl ea T7 ⟨a,_,rfl,aF,T7,d9 Uh (.cons e1 .nil)⟩) s1 rfl
theorem yk {i:Nat}{r:Rep α}{xs:List α}(hΓ:Γ[i]?=some (.mu r xs))(hz:xs.length<=PZ)(σ:St)(H0 R0 H R:Hp)(E:aw X.K σ H0 R0 H R Γ):aw X.K σ H H H H ((Γ.map m9).set i (.im (ae r) xs)):=by
 obtain⟨a,vs,ea,ha,hR,pp⟩:=E.ent i _ hΓ;exact E.Ul.lN (i:=i) (e0:=.no) (by rw[Nc,hΓ];rfl) ⟨.ref a,ea,a,vs,rfl,ha,Paired.map (λ_ _=>r.mono E.sub) pp,hz⟩ λb w=>by cases w
section
variable {e:Expr}{r:Rep α}{r':Rep β}
def tQ (r:Rep α)(r':Rep β):Rep (α ⊕ β):=⟨λK H v o=>match o with | .inl x=>r.R K H v x | .inr y=>r'.R K H v y,λ{K H H' v o} s h=>by cases o with | inl x=>exact r.mono s h | inr y=>exact r'.mono s h⟩
theorem EV.inl {x:α}(h:EV X e Γ r x Γ1):EV X e Γ (tQ r r') (.inl x) Γ1:=EV.rep h λ_ _ q=>q
theorem EV.inr {y:β}(h:EV X e Γ r' y Γ1):EV X e Γ (tQ r r') (.inr y) Γ1:=EV.rep h λ_ _ q=>q
theorem EV.ofl {x:α}(h:EV X e Γ (tQ r r') (.inl x) Γ1):EV X e Γ r x Γ1:=EV.rep h λ_ _ q=>q
theorem EV.nK {y:β}(h:EV X e Γ (tQ r r') (.inr y) Γ1):EV X e Γ r' y Γ1:=EV.rep h λ_ _ q=>q
end
section
def ft (H:Hp)(l:MG):Hp:=λb=>if b∈l then none else H b
theorem jA {H:Hp}{l:MG}{b:Addr}(h:b∈l):ft H l b=none:=SS h
theorem dz {H:Hp}{l:MG}{b:Addr}(h:b∉l):ft H l b=H b:=SR h
theorem oj {H:Hp}{l:MG}:ay (ft H l) H:=λb o q=>by
 by_cases h:b∈l
 ·rw[jA h] at q;cases q
 ·rwa [dz h] at q
theorem aw.Cp {K:Sk}{σ:St}{H0 R0 H R H' R':Hp}{i:Nat}{B B':mn}(E:aw K σ H0 R0 H R Γ)(hΓ:Γ[i]?=some (.ob B))(x:Ext (ft H B.fp) R H' R')(ho:(Ent.ob B').ok K H' R' (σ[i]?).join)(Vb:∀b∈B'.fp,b∈B.fp):aw K σ H0 R0 H' R' (Γ.set i (.ob B')):=by
 have h0:∀b∈B.fp,H0 b=none:=λb hb=>E.nw i _ b hΓ hb;have out:∀{b:Addr},H0 b≠none->b∉B.fp:=λh e=>h (h0 _ e);have apart:∀(j:Nat)(e:Ent),j≠i->Γ[j]?=some e->∀b∈e.fp (σ[j]?).join,b∉B.fp:=λj e hj qj b hb w=>hj (E.ds j i e _ b qj hΓ hb w);refine⟨⟨λb o q=>?_,E.ext.r.trans x.r,x.s,λb hb=>?_⟩,λj e q=>?_,λj e b q w=>?_,λj k e e' b q q' w w'=>?_,by rw[NT];exact E.len⟩
 ·exact x.h b o (by rw[dz (out (by rw[q];exact Pu _))];exact E.ext.h b o q)
 ·refine(x.old b ?_).trans (E.ext.old b hb);rw[dz (out hb)];exact ay.some E.ext.h hb
 ·rcases set_at q with⟨rfl,rfl,_⟩ | ⟨hj,q1⟩
  ·exact ho
  ·have h1:=E.ent j e q1;refine h1.loc (λb hb=>?_) x.r λb hb=>?_
   ·cases e2:H b with
    | none=>exact SQ e2 (Ent.eF h1 hb).1
    | some u=>exact x.h b u (by rw[dz (apart j e hj q1 b hb)];exact e2)
   ·exact(x.old b (by rw[dz (apart j e hj q1 b hb)];exact(Ent.eF h1 hb).1)).trans (Ent.eF h1 hb).2
 ·rcases set_at q with⟨rfl,rfl,_⟩ | ⟨hj,q1⟩
  ·exact h0 b (Vb b w)
  ·exact E.nw j e b q1 w
 ·rcases set_at q with⟨rfl,rfl,_⟩ | ⟨hj,q1⟩
  ·rcases set_at q' with⟨rfl,rfl,_⟩ | ⟨hk,Us⟩
   ·rfl
   ·exact SQ (Vb b w) (apart k e' hk Us b w')
  ·rcases set_at q' with⟨rfl,rfl,_⟩ | ⟨hk,Us⟩
   ·exact SQ (Vb b w') (apart j e hj q1 b w)
   ·exact E.ds _ _ _ _ b q1 Us w w'
variable {P:P2}{w:World}{K:Sk}{mg:MA}{base:Heap}
end
section
structure LK (P:Type):Type 1 where
 bx:MG->P->mn
 fp:∀l s,(bx l s).fp=l
 at_:∀{K H R v l s},(bx l s).R K H R v->∃a t,l=a::t/\v= .ref a
abbrev uH (R:Hp)(l:MG):Prop:=∀b∈l,R b=none
theorem zE {P:Type}{B:LK P}{K:Sk}{H R:Hp}{a:Addr}{l:MG}{s:P}{o:Option V}(h:(Ent.ob (B.bx (a::l) s)).ok K H R o):o=some (.ref a)/\(B.bx (a::l) s).R K H R (.ref a)/\uH R (a::l):=by
 obtain⟨⟨v,e,hv⟩,hR⟩:=h;obtain⟨a',t,el,ev⟩:=B.at_ hv;cases el
 subst ev;exact⟨e,hv,λb hb=>hR b (by rw[B.fp];exact hb)⟩
theorem x6 {P:Type}{B:LK P}{K:Sk}{H R:Hp}{a:Addr}{l:MG}{s:P}(h:(B.bx (a::l) s).R K H R (.ref a))(hR:uH R (a::l)):(Ent.ob (B.bx (a::l) s)).ok K H R (some (.ref a)):=
 ⟨⟨_,rfl,h⟩,λc hc=>hR c (by rw[B.fp] at hc;exact hc)⟩
theorem xn {P:Type}{B:LK P}{K:Sk}{R H:Hp}{a:Addr}{l:MG}{st:P}{vs:List V}{ps:List Pk}{N:ME}(s:ay R H)(hR:uH R (a::l))(hB:(B.bx (a::l) st).R K H R (.ref a))(p:kA K R vs ps)(hl:ps.length+1<=N.length):
 aw K (L2.start N (.ref a::vs)) (ft H (a::l)) R H R (.ob (B.bx (a::l) st)::fO ps (N.length-1)):=by
 obtain⟨n0,N',rfl⟩:∃n0 N',N=n0::N':=by cases N with
  | nil=>exact SQ hl (by simp)
  | cons n N'=>exact⟨n,N',rfl⟩
 have UT:ps.length<=N'.length:=by simpa using hl
 have E0:=ku (N:=N') s p UT;have es:L2.start (n0::N') (.ref a::vs)=some (.ref a)::L2.start N' vs:=by unfold L2.start;simp
 rw[es];have Ts:∀(i:Nat)(e:Ent)(o:Option V),(fO ps N'.length)[i]?=some e->e.fp o=[]:=λi e o q=>by
  unfold fO at q;rcases Nj.mp (Ng q) with z | z
  ·obtain⟨p,_,rfl⟩:=Nx.mp z;rfl
  ·obtain⟨_,rfl⟩:=OK.mp z;rfl
 refine⟨⟨oj,ay.refl _,s,λ_ _=>rfl⟩,λi e q=>?_,λi e c q w=>?_,λi j e e' c q q' w w'=>?_,?_⟩
 ·cases i with
  | zero=>simp at q;subst q;exact x6 hB hR
  | succ i=>simp at q;simpa using E0.ent i e q
 ·cases i with
  | zero=>
    simp at q;subst q;have w:c∈(B.bx (a::l) st).fp:=w;rw[B.fp] at w;exact jA w
  | succ i=>simp at q;rw[Ts i e _ q] at w;cases w
 ·cases i with
  | succ i=>simp at q;rw[Ts i e _ q] at w;cases w
  | zero=>
    cases j with
    | zero=>rfl
    | succ j=>simp at q';rw[Ts j e' _ q'] at w';cases w'
 ·have:=E0.len;simp[this]
variable {P:P2}{w:World}{K:Sk}{mg:MA}{base:Heap}
end
structure bH (K:Sk)(C:Addr)(ns:ME):Prop where
 cl:kO K C
 no:∀f∈ns,j2 K C f
section
variable {P:P2}{w:World}{K:Sk}{mg:MA}{base:Heap}
end
end Fc
namespace Fc.DP
open PySem PySem.Spec
section
variable {prog:P2}{w:World}{A:P7}{E:Value->PX->Prop}{h:Heap}{g:Array Rg}{d:Drawn}{t:Nat}{os:OsState}{a:Addr}{o:Obj}
end
section
variable {prog:P2}{w:World}{K:Type} [DecidableEq K]{knd:KeyKind prog w K}{A:P7}{R:Result->PX->Prop}{I:Addr}{fp wr:MG}{G:Array Rg->Array Rg->Prop}{n:Nat}{P:Nat->Value->Prop}{St:Nat->PX->Prop}
end
section
variable {prog:P2}{w:World}{K:Type} [DecidableEq K]{knd:KeyKind prog w K}{A:P7}{E:Value->PX->Prop}{s:PX}
end
end Fc.DP
namespace Fc
open PySem PySem.Spec PySem.W PySem.Calls L2
open PyProof.Rows hiding St
variable {X:Cx}{Γ Γ1 Γ2 Γ3:Ga}{α β γ δ:Type}{N:Ga->Prop}{T:RT}
section
variable {x y:Str}
theorem lg:decide (V.str x=V.str y)=decide (x=y):=by
 by_cases h:x=y
 ·subst h;simp
 ·rw[SW h,SW λz=>h (by injection z)]
theorem aT:gZ X .Eq aj aj x y (decide (x=y)):=⟨_,Cj,λR H v u Q _ e1 e2 q=>by
 cases e1;cases e2
 exact⟨rfl,by rw[lg];exact q⟩⟩
theorem fJ:gZ X .NotEq aj aj x y (!decide (x=y)):=⟨_,xg,λR H v u Q _ e1 e2 q=>by
 cases e1;cases e2
 exact⟨rfl,by rw[lg];exact q⟩⟩
def sJ:Rep ME:=⟨λK R v xs=>∃a,v= .ref a/\cC K R a (xs.map V.str),λs ⟨a,e,h⟩=>⟨a,e,by
 rcases h with h | h
 ·exact .inl (h.imp (λq=>s _ _ q) λ⟨o,q⟩=>⟨o,s _ _ q⟩)
 ·exact .inr h⟩⟩
theorem lG (x:Str):∀xs:ME,Ci (.str x) (xs.map V.str)=decide (x∈xs)
 | []=>rfl
 | y::r=>by
   have h:=lG x r;unfold Ci at h ⊢;rw[Nz,ON,h];have e:oW (V.str y) (V.str x)=decide (x=y):=by
    show(y==x)=_;by_cases h:x=y
    ·subst h;simp
    ·rw[SW h];exact beq_eq_false_iff_ne.mpr (Pr h)
   rw[e];by_cases h1:x=y<;>simp[h1]
theorem ka:∀xs:ME,(xs.map V.str).all jt=true
 | []=>rfl
 | _::r=>by rw[Nz,all_cons,ka r];rfl
theorem kg {xs:ME}:gZ X .In aj sJ x xs (decide (x∈xs)):=⟨_,qY,λR H v u Q s e1 e2 q=>by
 cases e1
 obtain⟨a,rfl,h⟩:=e2;exact⟨a,_,rfl,.inr (h.imp (λh=>h.imp (λq=>s _ _ q) λ⟨o,q⟩=>⟨o,s _ _ q⟩) id),rfl,ka xs,by rw[SR MM,lG];exact q⟩⟩
def qC (K:Sk)(mg:MA)(x:Str)(xs:ME):Prop:=∃a o S5 n,mg x=some (.ref a)/\K.lookup a=some o/\o.cls= .type "tuple"/\o.data= .seq S5 n/\S5.size<=PZ/\Vals (xs.map V.str) S5.toList
theorem gF {pos:Pos}{xs:ME}(hm:qC X.K X.mg x xs)(hg:Gl X x:=by rfl)(hd:Ti x:=by decide):EV X (.Name x pos) Γ sJ xs Γ:=by
 obtain⟨a,o,S5,n,h1,h2⟩:=hm;exact λ_ _ _ _ _ E _ q=>eS (jy (v:=.ref a) hg h1 rfl hd) (q (.ref a) _ _ E (ay.refl _) ⟨a,rfl,.inr ⟨o,S5,n,h2⟩⟩)
end
def lE (P:P2)(w:World)(K:Sk)(mg:MA)(x:Str)(D:List (Str×ME)):Prop:=
 ∃a o vs,mg x=some (.ref a)/\K.lookup a=some o/\o.IsDictOf (cg P w) vs/\(a==Qk)=false/\
  PySem.Paired (λ(d:Str×ME)(p:Key×Value)=>p.1=Sum.inr d.1/\∃b o S5 n,p.2= .ref b/\K.lookup b=some o/\o.cls= .type "tuple"/\o.data= .seq S5 n/\S5.size<=PZ/\Vals (d.2.map V.str) S5.toList) D vs
def cU:List (Str×ME)->Str->Option ME
 | [],_=>none
 | (k,v)::r,x=>if k=x then some v else cU r x
theorem rL {K:Sk}{x:Str}:∀{D:List (Str×ME)}{vs:List (Key×Value)},PySem.Paired (λ(d:Str×ME)(p:Key×Value)=>p.1=Sum.inr d.1/\∃b o S5 n,p.2= .ref b/\K.lookup b=some o/\o.cls= .type "tuple"/\o.data= .seq S5 n/\S5.size<=PZ/\Vals (d.2.map V.str) S5.toList) D vs->
 (cU D x=none/\Qo vs (Sum.inr x:Key)=none)∨∃ys b,cU D x=some ys/\Qo vs (Sum.inr x:Key)=some (.ref b)/\∃o S5 n,K.lookup b=some o/\o.cls= .type "tuple"/\o.data= .seq S5 n/\S5.size<=PZ/\Vals (ys.map V.str) S5.toList
 | _,_,.nil=>.inl ⟨rfl,rfl⟩
 | _,_,.cons (a:=d) (b:=p) h t=>by
   obtain⟨k,v⟩:=d;obtain⟨q,u⟩:=p;obtain⟨e1,b,o,S5,n,e2,h3⟩:=h;have e1:q=Sum.inr k:=e1;have e2:u=Sd b:=e2;subst e1;subst e2;rw[cU];unfold Qo;rw[Oj];by_cases e:k=x
   ·subst e;rw[SS rfl];exact .inr ⟨v,b,rfl,by simp,o,S5,n,h3⟩
   ·rw[SR e];have:decide ((Sum.inr k:Key)=Sum.inr x)=false:=SW λz=>e (Sum.inr.inj z);simp only[this];exact rL t
theorem yd {e:Expr}{x:Str}{p1 pos:Pos}{D:List (Str×ME)}{k:Str}(hD:lE X.prog X.w X.K X.mg x D)(he:EV X e Γ aj k Γ1)(hg:Gl X x:=by rfl)(hd:Ti x:=by decide):TV X (.Compare e [.NotIn] [.Name x p1] pos) Γ (!(cU D k).isSome) Γ1:=by
 intro σ H0 R0 H R E Q q;obtain⟨a,o,vs,hm,hk,hdo,hs,hp⟩:=hD;have pc:PC X .NotIn e (.Name x p1) (λσ H Q=>gK X e σ H λy H1=>y= .str k/\Q (.bl (!(cU D k).isSome)) H1):=by
  intro S3 s σ H Q I h;refine aW (h S3 s I) λiv s1 ⟨y,H1,I1,ry,ey,q1⟩=>aW (jy (v:=.ref a) hg hm rfl hd S3 s1 σ H1 (λv H2=>v= .ref a/\H2=H1) I1 ⟨rfl,rfl⟩) λu s2 ⟨y2,H2,I2,ry2,e3,e4⟩=>?_;subst ey;subst e3;subst e4;obtain rfl:u=Sd a:=ry2;have dd:s2.heap.DictOf (cg X.prog X.w) a vs:=RU.mpr ⟨o,I2.fk a o hk,hdo⟩;refine wpAny_notIn_of (jr (k:=Sum.inr k) ry) hs dd.mapOf ?_;rcases rL (x:=k) hp with⟨h1,h2⟩ | ⟨ys,b,h1,h2,_⟩
  ·rw[h2];rw[h1] at q1;exact⟨.bl _,_,I2.tok _,rfl,q1⟩
  ·rw[h2];rw[h1] at q1;exact⟨.bl _,_,I2.tok _,rfl,q1⟩
 refine tS (kS pc (by with_unfolding_all rfl)) (he σ H0 R0 H R E _ λv H1 R1 E1 s1 e1=>⟨e1,_,rfl,q H1 R1 E1 s1⟩)
end Fc
namespace Fc.ZT
open PySem PySem.Spec PyProof.Rows
section
variable {prog:P2}{w:World}{A:P7}{E:Value->PX->Prop}{s:PX}
structure Dr (prog:P2)(w:World)(A:P7)(i l:Addr)(S5:Array Value)(St:Nat->Heap->Prop):Prop where
 up:∀{k:Nat}{h h':Heap},St k h->(∀b,b=i∨b=l->∀o,h.get? b=some o->h'.get? b=some o)->St k h'
 there:∀{k:Nat}{h:Heap},St k h->i<h.objs.size
 item:∀{k:Nat}{x:Value}{s:PX}{Q:Value->PX->Prop}{E:Value->PX->Prop},St k s.heap->S5[k]?=some x->(∀h',St (k+1) h'->RR i s.heap h'->Q x {s with heap:=h'})->wpAny (model prog w) A (Rc.SmallTypes.nextOf (.ref i)) Q E s
 done:∀{k:Nat}{s:PX}{Q:Value->PX->Prop}{E:Value->PX->Prop},St k s.heap->S5[k]?=none->(∀h' e,Heap.ExtBut i s.heap h'->(∃o,h'.get? e=some o/\o.cls= .type "StopIteration")->E (.ref e) {s with heap:=h'})->wpAny (model prog w) A (Rc.SmallTypes.nextOf (.ref i)) Q E s
theorem iF {i l:Addr}{S5:Array Value}(hh:A.handled=none)(T9:i≠l):Dr prog w A i l S5 (λk h=>h.IsTupleIter i l k/\h.IsTuple l S5) where
 up:=λ⟨⟨o,ho,r⟩,⟨o',UI,r'⟩⟩ hk=>⟨⟨o,hk _ (.inl rfl) o ho,r⟩,⟨o',hk _ (.inr rfl) o' UI,r'⟩⟩
 there:=λ⟨⟨o,ho,_⟩,_⟩=>RN ho
 item:=λ{k x s Q E} ⟨hit,ht⟩ hx hQ=>by
  obtain⟨o,ho,hc,hd⟩:=id hit;obtain⟨ol,hol,_,nl,Vx⟩:=id ht;unfold Rc.SmallTypes.nextOf;refine P0 (Ql (name:=Sa "__next__") hit.typeIs RG
   (Qx RG hit.typeIs F.entry_tuple_iterator_next ?_ (F.args_tuple_iterator_next_1 _)))
  show wpAny _ _ (field (.ref i) 0 >>=_) _ _ s;refine P0 (Qh ho hd (x:=.ref l) rfl ?_);refine wpAny_ite ?_;rw[SR (show¬((Sd l==Se)=true) from MM)];show wpAny _ _ (field (.ref i) 1 >>=_) _ _ s;refine P0 (Qh ho hd (x:=.int k 0) rfl ?_);show wpAny _ _ (seqItems? (.ref l) >>=_) _ _ s;refine P0 (Qr hol Vx ?_);simp only[MY,hx];have hs:=RR.update s.heap i (λo=>o.mapFields λa=>a.setIfInBounds 1 (Q9 (k+1)));refine P0 (wpAny_setField ho hd (by simp) (P4 ⟨x,rfl,P4 (hQ _ ⟨?_,ht.extBut (RR.update ..).extBut (Pr T9)⟩ (RR.update ..))⟩));exact⟨_,RS _ ho (Obj.isFreed_of_fields (Obj.data_mapFields hd _)),(Obj.cls_mapFields ..).trans hc,by rw[Obj.data_mapFields hd];simp[Q9]⟩
 done:=λ{k s Q E} ⟨hit,ht⟩ hx hE=>by
  obtain⟨o,ho,hc,hd⟩:=id hit;obtain⟨ol,hol,_,nl,Vx⟩:=id ht;unfold Rc.SmallTypes.nextOf;refine P0 (Ql (name:=Sa "__next__") hit.typeIs RG
   (Qx RG hit.typeIs F.entry_tuple_iterator_next ?_ (F.args_tuple_iterator_next_1 _)))
  show wpAny _ _ (field (.ref i) 0 >>=_) _ _ s;refine P0 (Qh ho hd (x:=.ref l) rfl ?_);refine wpAny_ite ?_;rw[SR (show¬((Sd l==Se)=true) from MM)];show wpAny _ _ (field (.ref i) 1 >>=_) _ _ s;refine P0 (Qh ho hd (x:=.int k 0) rfl ?_);show wpAny _ _ (seqItems? (.ref l) >>=_) _ _ s;refine P0 (Qr hol Vx ?_);simp only[MY,hx];refine P0 (QR (P0 (wpAny_setField ho hd (by simp) ?_)));show wpAny _ _ (newExc (.type "StopIteration") [] >>=_) _ _ _;refine P0 ?_;simp only[newExc,newTuple];refine P0 (Qn ?_ (by size_fits));refine P0 (m:=firstArgMember _ _) (wpAny_of_eq (a:=Se) (by first | rfl | (simp only[firstArgMember];rfl)) ?_);refine Qn ?_ (by size_fits);simp only[raiseNew];refine P0 (wpAny_handled ?_)
  first | rw[show A.in1.handled=none from hh] | rw[hh]
  refine P0 (P4 (wpAny_throw ?_));exact hE _ _ (((RR.update ..).extBut.push _).push _) ⟨_,RP _ rfl,rfl⟩
section
variable {z TI TO i1 i2 l1 l2:Addr}{k1 k2:Nat}{xs ys:Array Value}{x y a b:Value}{S1 S2:Nat->Heap->Prop}
theorem up1 {i l c:Addr}{S5:Array Value}{St:Nat->Heap->Prop}(d:Dr prog w A i l S5 St){k:Nat}{h h':Heap}(hs:St k h)(e:Heap.ExtBut c h h')(h1:i≠c)(h2:l≠c):St k h':=d.up hs λb hb o q=>e b o (by rcases hb with rfl | rfl<;>assumption) q
theorem Ek {Q:Value->PX->Prop}(D:ZipApart z TI TO i1 i2 l1 l2)(d1:Dr prog w A i1 l1 xs S1)(d2:Dr prog w A i2 l2 ys S2)(hz:IsZip s.heap z TI TO .none)(T4:Qg s.heap TI (.ref i1) (.ref i2))(TU:Qg s.heap TO a b)(h1:S1 k1 s.heap)(h2:S2 k2 s.heap)(hx:xs[k1]?=some x)(hy:ys[k2]?=some y)(hQ:∀h',IsZip h' z TI TO (Q9 s.heap.objs.size)->Qg h' TO x y->S1 (k1+1) h'->S2 (k2+1) h'->Qg h' s.heap.objs.size x y->(∀c o,c≠z->c≠TO->c≠i1->c≠i2->s.heap.get? c=some o->h'.get? c=some o)->Q (.ref s.heap.objs.size) {s with heap:=h'}):
 wpAny (model prog w) A (Rc.«zip.__next__» ⟨[.ref z],[]⟩) (λfin s'=>∃v,fin= .done (.ret v)/\Q v s') E s:=by
 show wpAny _ _ (field (.ref z) 2 >>=_) _ _ _;refine P0 (Qh hz rfl (x:=.bool false) rfl ?_);show wpAny _ _ (field (.ref z) 3 >>=_) _ _ _;refine P0 (Qh hz rfl (x:=.ref TI) rfl (P0 (Qr T4 rfl ?_)));show wpAny _ _ (Rc.SmallTypes.ownedTupleIsFree (.ref z) >>=_) _ _ _;refine P0 ?_;unfold Rc.SmallTypes.ownedTupleIsFree;refine P0 (Qh hz rfl (x:=.none) rfl (P4 ?_));simp only[if_true];refine P0 (QR (P0 (Qh hz rfl (x:=.ref TO) rfl (P0 (Qt hz (by simp) λha V5 Vu=>?_)))));replace V5:IsZip ha z TI TO .ellipsis:=V5;refine P0 ?_;simp only[List.zipIdx_cons,List.zipIdx_nil,OU,forIn_nil];refine P0 (P0 (Q1 ?_));show wpAny _ _ (Rc.SmallTypes.nextOf (.ref i1) >>=_) _ _ _;have g1:S1 k1 ha:=up1 d1 h1 Vu.extBut D.i1z D.l1z;have g2:S2 k2 ha:=up1 d2 h2 Vu.extBut D.i2z D.l2z;refine P0 (d1.item g1 hx λhb n1 Ux=>P4 ?_);have tb:Qg hb TO a b:=Ux.extBut _ _ D.TOi1 (Vu.extBut _ _ D.TOz TU);refine P0 (Qr tb rfl (P0 (QS tb λhc tc Vk=>?_)));replace tc:Qg hc TO x b:=tc;refine P0 (wpAny_letGo (P4 ?_));refine P0 (P0 (Q1 ?_));show wpAny _ _ (Rc.SmallTypes.nextOf (.ref i2) >>=_) _ _ _;have g2c:S2 k2 hc:=up1 d2 (up1 d2 g2 Ux.extBut D.i12.symm D.l2i1) Vk.extBut D.TOi2.symm D.l2TO;refine P0 (d2.item g2c hy λhd n2 V8=>P4 ?_);have td:Qg hd TO x b:=V8.extBut _ _ D.TOi2 tc;refine P0 (Qr td rfl (P0 (QS td λhe te V7=>?_)));replace te:Qg he TO x y:=te;refine P0 (wpAny_letGo (P4 (P4 ?_)));refine P0 (Qr te rfl (P0 (wpAny_newTuple ?_)));have hsz:he.objs.size=s.heap.objs.size:=by rw[V7.1,V8.1,Vk.1,Ux.1,Vu.1]
 have ze:IsZip he z TI TO .ellipsis:=V7.extBut _ _ D.TOz.symm (V8.extBut _ _ D.i2z.symm (Vk.extBut _ _ D.TOz.symm (Ux.extBut _ _ D.i1z.symm V5)));have ke:∀c o,c≠z->c≠TO->c≠i1->c≠i2->s.heap.get? c=some o->he.get? c=some o:=λc o c1 c2 c3 c4 e=>
  V7.extBut _ _ c2 (V8.extBut _ _ c4 (Vk.extBut _ _ c2 (Ux.extBut _ _ c3 (Vu.extBut _ _ c1 e))))
 have m1:S1 (k1+1) he:=up1 d1 (up1 d1 (up1 d1 n1 Vk.extBut D.TOi1.symm D.l1TO) V8.extBut D.i12 D.l1i2) V7.extBut D.TOi1.symm D.l1TO;have m2:S2 (k2+1) he:=up1 d2 n2 V7.extBut D.TOi2.symm D.l2TO;have Xq:z<he.objs.size:=RN ze;show wpAny _ _ (Rc.SmallTypes.ownedTupleHandOut (.ref z) (.ref he.objs.size) >>=_) _ _ _;refine P0 ?_;unfold Rc.SmallTypes.ownedTupleHandOut;have zf:IsZip (he.push {cls:=.type "tuple",data:=.seq #[x,y]}) z TI TO .ellipsis:=RM _ ze;refine P0 (Qt zf (by simp) λhg zg hsg=>?_);replace zg:IsZip hg z TI TO (Q9 he.objs.size):=zg;refine Qt zg (by simp) λhj zj hsj=>?_;replace zj:IsZip hj z TI TO (Q9 he.objs.size):=zj;have up:∀c o,c≠z->he.get? c=some o->hj.get? c=some o:=λc o c1 e=>hsj.extBut _ _ c1 (hsg.extBut _ _ c1 (RM _ e));have tj:Qg hj he.objs.size x y:=hsj.extBut _ _ (Pf Xq) (hsg.extBut _ _ (Pf Xq) (RP _ rfl));rw[hsz] at zj tj;refine P4 ⟨_,rfl,?_⟩;show Q (.ref he.objs.size) _;rw[hsz];exact hQ hj zj (up _ _ D.TOz te) (d1.up m1 λc hc o e=>up c o (hc.elim (λq=>by rw[q];exact D.i1z) λq=>by rw[q];exact D.l1z) e) (d2.up m2 λc hc o e=>up c o (hc.elim (λq=>by rw[q];exact D.i2z) λq=>by rw[q];exact D.l2z) e) tj λc o c1 c2 c3 c4 e=>up c o c1 (ke c o c1 c2 c3 c4 e)
theorem mR {Q:PySem.Fin->PX->Prop}(D:ZipApart z TI TO i1 i2 l1 l2)(d1:Dr prog w A i1 l1 xs S1)(d2:Dr prog w A i2 l2 ys S2)(hz:IsZip s.heap z TI TO .none)(T4:Qg s.heap TI (.ref i1) (.ref i2))(TU:Qg s.heap TO a b)(h1:S1 k1 s.heap)(h2:S2 k2 s.heap)(Uk:xs[k1]?=none∨ys[k2]?=none)(hE:∀h' e,(∀c o,c≠z->c≠TO->c≠i1->c≠i2->s.heap.get? c=some o->h'.get? c=some o)->(∃o,h'.get? e=some o/\o.cls= .type "StopIteration")->E (.ref e) {s with heap:=h'}):
 wpAny (model prog w) A (Rc.«zip.__next__» ⟨[.ref z],[]⟩) Q E s:=by
 show wpAny _ _ (field (.ref z) 2 >>=_) _ _ _;refine P0 (Qh hz rfl (x:=.bool false) rfl ?_);show wpAny _ _ (field (.ref z) 3 >>=_) _ _ _;refine P0 (Qh hz rfl (x:=.ref TI) rfl (P0 (Qr T4 rfl ?_)));show wpAny _ _ (Rc.SmallTypes.ownedTupleIsFree (.ref z) >>=_) _ _ _;refine P0 ?_;unfold Rc.SmallTypes.ownedTupleIsFree;refine P0 (Qh hz rfl (x:=.none) rfl (P4 ?_));simp only[if_true];refine P0 (QR (P0 (Qh hz rfl (x:=.ref TO) rfl (P0 (Qt hz (by simp) λha V5 Vu=>?_)))));replace V5:IsZip ha z TI TO .ellipsis:=V5;refine P0 ?_;simp only[List.zipIdx_cons,List.zipIdx_nil,OU,forIn_nil];refine P0 (P0 (Q1 ?_));show wpAny _ _ (Rc.SmallTypes.nextOf (.ref i1) >>=_) _ _ _;have g1:S1 k1 ha:=up1 d1 h1 Vu.extBut D.i1z D.l1z;have g2:S2 k2 ha:=up1 d2 h2 Vu.extBut D.i2z D.l2z;cases hx:xs[k1]? with
 | none=>
   refine P0 (d1.done g1 hx λhb e Ux he=>?_);obtain⟨oe,WG,XR⟩:=he;have zb:IsZip hb z TI TO .ellipsis:=Ux _ _ D.i1z.symm V5;have hez:e≠z:=λq=>by subst q;rw[zb] at WG;cases WG;simp at XR
   exact Qt zb (by simp) λhc _ Vk=>hE hc e (λc o c1 _ c3 _ q=>Vk.extBut _ _ c1 (Ux _ _ c3 (Vu.extBut _ _ c1 q))) ⟨oe,Vk.extBut _ _ hez WG,XR⟩
 | some x=>
   have hy:ys[k2]?=none:=by rcases Uk with q | q;rw[hx] at q;cases q;exact q
   refine P0 (d1.item g1 hx λhb n1 Ux=>P4 ?_);have tb:Qg hb TO a b:=Ux.extBut _ _ D.TOi1 (Vu.extBut _ _ D.TOz TU);refine P0 (Qr tb rfl (P0 (QS tb λhc tc Vk=>?_)));refine P0 (wpAny_letGo (P4 ?_));refine P0 (P0 (Q1 ?_));show wpAny _ _ (Rc.SmallTypes.nextOf (.ref i2) >>=_) _ _ _;have g2c:S2 k2 hc:=up1 d2 (up1 d2 g2 Ux.extBut D.i12.symm D.l2i1) Vk.extBut D.TOi2.symm D.l2TO;refine P0 (d2.done g2c hy λhd e V8 he=>?_);obtain⟨oe,WG,XR⟩:=he;have zd:IsZip hd z TI TO .ellipsis:=V8 _ _ D.i2z.symm (Vk.extBut _ _ D.TOz.symm (Ux.extBut _ _ D.i1z.symm V5));have hez:e≠z:=λq=>by subst q;rw[zd] at WG;cases WG;simp at XR
   exact Qt zd (by simp) λhe _ V7=>hE he e (λc o c1 c2 c3 c4 q=>V7.extBut _ _ c1 (V8 _ _ c4 (Vk.extBut _ _ c2 (Ux.extBut _ _ c3 (Vu.extBut _ _ c1 q))))) ⟨oe,V7.extBut _ _ hez WG,XR⟩
theorem vb {Q:MF->PX->Prop}(D:ZipApart z TI TO i1 i2 l1 l2)(d1:Dr prog w A.in1 i1 l1 xs S1)(d2:Dr prog w A.in1 i2 l2 ys S2)(hz:IsZip s.heap z TI TO .none)(T4:Qg s.heap TI (.ref i1) (.ref i2))(TU:Qg s.heap TO a b)(h1:S1 k1 s.heap)(h2:S2 k2 s.heap)(hx:xs[k1]?=some x)(hy:ys[k2]?=some y)(hQ:∀h',IsZip h' z TI TO (Q9 s.heap.objs.size)->Qg h' TO x y->S1 (k1+1) h'->S2 (k2+1) h'->Qg h' s.heap.objs.size x y->(∀c o,c≠z->c≠TO->c≠i1->c≠i2->s.heap.get? c=some o->h'.get? c=some o)->Q (some (.ref s.heap.objs.size)) {s with heap:=h'}):
 wpAny (model prog w) A (Q8 (.ref z)) Q E s:=by
 have hT:s.TypeIs (.ref z) "zip":=⟨_,hz,rfl⟩;unfold Q8;exact P0 (wpAny_attempt (Ql (name:=Sa "__next__") hT RH (Qx RH hT F.entry_zip_next (Ek D d1 d2 hz T4 TU h1 h2 hx hy λh' a1 a2 a3 a4 a5 a6=>P4 (hQ h' a1 a2 a3 a4 a5 a6)) (F.args_zip_next_1 _))))
theorem xZ {Q:MF->PX->Prop}(D:ZipApart z TI TO i1 i2 l1 l2)(d1:Dr prog w A.in1 i1 l1 xs S1)(d2:Dr prog w A.in1 i2 l2 ys S2)(hz:IsZip s.heap z TI TO .none)(T4:Qg s.heap TI (.ref i1) (.ref i2))(TU:Qg s.heap TO a b)(h1:S1 k1 s.heap)(h2:S2 k2 s.heap)(Uk:xs[k1]?=none∨ys[k2]?=none)(hQ:∀h',(∀c o,c≠z->c≠TO->c≠i1->c≠i2->s.heap.get? c=some o->h'.get? c=some o)->Q none {s with heap:=h'}):wpAny (model prog w) A (Q8 (.ref z)) Q E s:=by
 have hT:s.TypeIs (.ref z) "zip":=⟨_,hz,rfl⟩;unfold Q8;refine P0 (wpAny_attempt (Ql (name:=Sa "__next__") hT RH (Qx RH hT F.entry_zip_next (mR D d1 d2 hz T4 TU h1 h2 Uk λh' e hk he=>?_) (F.args_zip_next_1 _))));obtain⟨o,ho,hc⟩:=he;exact P0 (wpAny_isInstance (T:="StopIteration") (b:=true) ⟨o,ho,hc⟩ isSubtype_stop (P4 (hQ _ hk)))
end
end
end Fc.ZT
namespace Fc
open PySem PySem.Spec PySem.W PySem.Calls L2
open PyProof.Rows hiding St
section
variable {X:Cx}{Γ Γ1 Γ2 Γ3:Ga}{α β γ δ:Type}{N:Ga->Prop}{T:RT}
variable {es:MI}{tp:Pos}
def Ll (K:Sk)(a b:Addr):It:=
 ⟨λi H=>∃xs ys x y,aY K H a xs/\aY K H b ys/\xs[i]?=some x/\ys[i]?=some y,
  λi H v H'=>∃p x y,H p=none/\v= .ref p/\H'=upd H p (.tup [x,y])/\(∀xs,aY K H a xs->xs[i]?=some x)/\∀ys,aY K H b ys->ys[i]?=some y,
  λi H=>∃xs ys,aY K H a xs/\aY K H b ys/\(xs.length<=i∨ys.length<=i)⟩
def Lo (z TI TO i1 i2 a b:Addr)(i:Nat)(h:Heap):Prop:=
 IsZip h z TI TO .none/\Qg h TI (.ref i1) (.ref i2)/\(∃u v,Qg h TO u v)/\h.IsListIter i1 a i/\h.IsListIter i2 b i
structure oo (z TI TO i1 i2:Addr):Prop where
 TIz:TI≠z
 TOz:TO≠z
 i1z:i1≠z
 i2z:i2≠z
 TITO:TI≠TO
 TIi1:TI≠i1
 TIi2:TI≠i2
 TOi1:TO≠i1
 TOi2:TO≠i2
 i12:i1≠i2
theorem Ve {a b:Nat}(h:a<b∨b<a): @Ne Addr a b:=h.elim O5 Pf
theorem Bn (n:Nat):oo (n+4) (n+2) (n+3) n (n+1):=⟨Ve (by omega),Ve (by omega),Ve (by omega),Ve (by omega),Ve (by omega),Ve (by omega),Ve (by omega),Ve (by omega),Ve (by omega),Ve (by omega)⟩
theorem dM {h:Heap}{l b:Addr}{S5:Array Value}{o:Obj}(p:PlainL h l S5)(e:h.get? b=some o)(hc:o.cls≠ .type "list"):l≠b:=λz=>by
 obtain⟨u,n,e',c,_⟩:=p;rw[z,e] at e';cases e'
 exact hc c
theorem ZipApart.of {h:Heap}{z TI TO i1 i2 a b:Addr}{i:Nat}{xs ys:Array Value}(F:oo z TI TO i1 i2)(st:Lo z TI TO i1 i2 a b i h)(pa:PlainL h a xs)(pb:PlainL h b ys):ZipApart z TI TO i1 i2 a b:=by
 obtain⟨hz,_,⟨u,v,TU⟩,⟨o1,e1,c1,_⟩,⟨o2,e2,c2,_⟩⟩:=st;exact⟨F.TIz,F.TOz,F.i1z,F.i2z,F.TITO,F.TIi1,F.TIi2,F.TOi1,F.TOi2,F.i12,
  dM pa hz (by simp),dM pa TU (by simp),dM pa e1 (by rw[c1];simp),dM pa e2 (by rw[c2];simp),
  dM pb hz (by simp),dM pb TU (by simp),dM pb e1 (by rw[c1];simp),dM pb e2 (by rw[c2];simp)⟩
theorem Bu {P:P2}{w:World}{K:Sk}{k:Nat}(a b z TI TO i1 i2:Addr)(F:oo z TI TO i1 i2):Turn P w K (.Tuple es k tp) (Ll K a b) [z,TI,TO,i1,i2] z (Lo z TI TO i1 i2 a b) where
 mem:=by simp
 obj:=λi h st c hc=>by
  obtain⟨hz,T4,⟨u,v,TU⟩,⟨o1,e1,c1,d1⟩,⟨o2,e2,c2,d2⟩⟩:=st;simp only[Nd,Nv,or_false] at hc;rcases hc with rfl | rfl | rfl | rfl | rfl
  ·exact⟨_,hz,λv q=>by cases q⟩
  ·exact⟨_,T4,λv q=>by cases q⟩
  ·exact⟨_,TU,λv q=>by cases q⟩
  ·exact⟨o1,e1,λv q=>by rw[d1] at q;cases q⟩
  ·exact⟨o2,e2,λv q=>by rw[d2] at q;cases q⟩
 keep:=λi h h' st kk=>by
  obtain⟨hz,T4,⟨u,v,TU⟩,h1,h2⟩:=st;exact⟨kk z (by simp) _ hz,kk TI (by simp) _ T4,⟨u,v,kk TO (by simp) _ TU⟩,h1.at λo e=>kk i1 (by simp) o e,h2.at λo e=>kk i2 (by simp) o e⟩
 item:=by
  intro X hP hw hK hc i S3 s σ H E I hf st hg;subst hP hw hK;obtain⟨xs,ys,x,y,hq,T6,hx,hy⟩:=hg;obtain⟨S5,r,pl,hz⟩:=I.list hq;obtain⟨its',r',Um,Vf⟩:=I.list T6;obtain⟨u,hu,rx⟩:=r.get hx;obtain⟨u',V6,ry⟩:=r'.get hy;have D:=ZipApart.of F st pl Um;obtain⟨UR,T4,⟨c,d,TU⟩,h1,h2⟩:=st;have hn:H s.heap.objs.size=none:=I.S8.fresh (O0 _);refine wpAny_pyNext_zip_item D UR T4 TU h1 h2 pl.isList Um.isList (x:=u) (y:=u') (by simpa using hu) (by simpa using V6) λh' a1 a2 a3 a4 a5 a6 hk=>?_;refine⟨_,rfl,?_⟩;refine QG (s:={s with heap:=h'}) a1 λh3 Xr UB=>?_;have lt:∀{c o},s.heap.get? c=some o->c≠s.heap.objs.size:=λe=>O5 (RN e);have Vw:∀b o,b∉[z,TI,TO,i1,i2]->s.heap.get? b=some o->h3.get? b=some o:=λb o hb q=>by
   simp only[Nd,Nv,or_false,not_or] at hb;exact UB.extBut b o hb.1 (hk b o hb.1 hb.2.2.1 hb.2.2.2.1 hb.2.2.2.2 q)
  have I1:Inv X S3 σ H {s with heap:=h3,toks:=s.toks}:=gM I Vw hf;have WO:h3.get? s.heap.objs.size=some {cls:=.type "tuple",data:=.seq #[u,u']}:=UB.extBut _ _ (Pr (lt UR)) a5;have I2:Inv X S3 σ (upd H s.heap.objs.size (.tup [x,y])) {s with heap:=h3,toks:=s.toks}:=
   adopt I1 (I.gm (O0 _) hn) (I.sz) ⟨by show 2<=PZ;decide,[u,u'],.cons rx (.cons ry .nil),⟨_,WO,rfl,_,rfl⟩⟩
  refine⟨.ref s.heap.objs.size,_,I2,rfl,⟨s.heap.objs.size,x,y,hn,rfl,rfl,λzs Vs=>?_,λzs Vs=>?_⟩,⟨Xr,?_,⟨_,_,UB.extBut _ _ F.TOz a2⟩,a3.extBut UB.extBut F.i1z,a4.extBut UB.extBut F.i2z⟩,λb hb=>?_⟩
  ·rw[I.iD Vs hq];exact hx
  ·rw[I.iD Vs T6];exact hy
  ·exact UB.extBut _ _ F.TIz (hk _ _ F.TIz F.TITO F.TIi1 F.TIi2 T4)
  ·have Uc:b≠s.heap.objs.size:=by
    simp only[Nd,Nv,or_false] at hb;rcases hb with rfl | rfl | rfl | rfl | rfl
    ·exact lt UR
    ·exact lt T4
    ·exact lt TU
    ·obtain⟨_,e,_⟩:=h1;exact lt e
    ·obtain⟨_,e,_⟩:=h2;exact lt e
   rw[aG Uc];exact(hf b hb).1
 done:=by
  intro X hP hw hK hc i S3 s σ H E I hf st hg;subst hP hw hK;obtain⟨xs,ys,hq,T6,hx⟩:=hg;obtain⟨S5,r,pl,hz⟩:=I.list hq;obtain⟨its',r',Um,Vf⟩:=I.list T6;have D:=ZipApart.of F st pl Um;obtain⟨UR,T4,⟨c,d,TU⟩,h1,h2⟩:=st;have l1:=r.length;have l2:=r'.length;refine wpAny_pyNext_zip_end (I.ok.hd hc) D UR T4 TU h1 h2 pl.isList Um.isList (hx.imp (λq=>by simp;omega) λq=>by simp;omega) λh' hk=>⟨rfl,?_⟩;refine gM (t':=s.toks) I (λb o hb q=>?_) hf;simp only[Nd,Nv,or_false,not_or] at hb;exact hk b o hb.1 hb.2.2.1 hb.2.2.2.1 hb.2.2.2.2 q
 self:=λ_ _ _ _ _ st h=>Qz st.1 h
def LW (K:Sk)(ta:TA):TI:=λσ H R=>ta σ H λvs H1=>∃a b xs ys,vs=[.ref a,.ref b]/\aY K H1 a xs/\aY K H1 b ys/\R (Ll K a b) H1
theorem FY {a b:Expr}{ta:TA}{p pos:Pos}{k:Nat}(hg:Gl X "zip")(hm:X.mg "zip"=none)(ha:PA X [a,b] ta)(hs:PU [a,b] X.env=[(false,eval a X.env),(false,eval b X.env)]:=by rfl)(TC:PU [b] X.env=[(false,eval b X.env)]:=by rfl):PI X (.Tuple es k tp) (.Call (.Name "zip" p) [a,b] [] pos) (LW X.K ta):=by
 intro S3 s σ H R I h;refine Call_ (fQ I hg hm boot_zip (Pz (aW (ha pos S3 s σ H _ I h) λus s1 ⟨vs,H1,I1,r1,q1⟩=>?_) (by rw[hs,TC]) (by rw[TC];rfl)));obtain⟨l,l',xs,ys,e,hq,T6,q⟩:=q1;subst e;cases r1 with
 | cons r rr=>
   cases rr with
   | cons r' rr=>
     cases rr
     cases r
     cases r'
     obtain⟨S5,_,pl,_⟩:=I1.list hq;obtain⟨its',_,Um,_⟩:=I1.list T6;refine call_zip_2 pl.isList Um.isList λh' a1 a2 a3 a4 a5 a6 hk=>?_;refine Qz a1 ?_;have I2:Inv X S3 σ H1 {s1 with heap:=h'}:=I1.kept (t':=s1.toks) hk;have ff:∀b,s1.heap.objs.size<=b->jd X S3 H1 b:=λb hb=>I1.gm hb (I1.S8.fresh hb);refine⟨s1.heap.objs.size+4,[s1.heap.objs.size+4,s1.heap.objs.size+2,s1.heap.objs.size+3,s1.heap.objs.size,s1.heap.objs.size+1],_,_,H1,rfl,I2,Bu l l' _ _ _ _ _ (Bn _),⟨a1,a2,⟨_,_,a3⟩,a4,a5⟩,λb hb=>?_,q⟩;simp only[Nd,Nv,or_false] at hb;rcases hb with rfl | rfl | rfl | rfl | rfl
     ·exact ff _ (O7 _ 4)
     ·exact ff _ (O7 _ 2)
     ·exact ff _ (O7 _ 3)
     ·exact ff _ (O0 _)
     ·exact ff _ (O7 _ 1)
theorem g7 {xs:List α}{ys:List β}{i:Nat}{q:α×β}(h:(xs.zip ys)[i]?=some q):xs[i]?=some q.1/\ys[i]?=some q.2:=by
 rw[List.getElem?_zip_eq_some] at h;exact h
theorem zJ {a b:Expr}{p pos:Pos}{k:Nat}{r:Rep α}{r':Rep β}{xs:List α}{ys:List β}(hm:X.mg "zip"=none)(ha:EV X a Γ (ae r) xs Γ1)(hb:EV X b Γ1 (ae r') ys Γ2)(hs:PU [a,b] X.env=[(false,eval a X.env),(false,eval b X.env)]:=by rfl)(TC:PU [b] X.env=[(false,eval b X.env)]:=by rfl)(hg:Gl X "zip":=by rfl):
 IV X (.Tuple es k tp) (.Call (.Name "zip" p) [a,b] [] pos) Γ (fD r r') (xs.zip ys) Γ2:=by
 refine⟨_,FY hg hm (aK aO (aK aO bo TC) (by rw[hs,TC])) hs TC,λσ H0 R0 H R E Rq q=>ha σ H0 R0 H R E _ λv H1 R1 E1 s1 e1=>hb σ H0 R0 H1 R1 E1 _ λv' H2 R2 E2 s2 e2=>?_⟩;obtain⟨a,vs,rfl,hp,pp,z⟩:=e1;obtain⟨b,TK,rfl,VU,Uh,z'⟩:=e2;have VT:R2 a=_:=s2 _ _ hp;refine⟨a,b,vs,TK,rfl,aY.of (E2.sub _ _ VT),aY.of (E2.sub _ _ VU),q _ H2 R2 E2 (s1.trans s2) (by rw[NZ];exact O2 (Pe _ _) z) λH' R' sR sH i=>⟨λy hy=>?_,λhi=>?_⟩⟩
 ·have hq:aY X.K H' a vs:=aY.of (sH _ _ (sR _ _ VT));have T6:aY X.K H' b TK:=aY.of (sH _ _ (sR _ _ VU));obtain⟨e1,e2⟩:=g7 hy;obtain⟨v,hv,hr⟩:=dg pp e1;obtain⟨v',UM,Uo⟩:=dg Uh e2;refine⟨⟨vs,TK,v,v',hq,T6,hv,UM⟩,λv2 H3 US=>?_⟩;obtain⟨p,x,x',U4,rfl,rfl,hy,Wy⟩:=US;have t1:=hy vs hq;have t2:=Wy TK T6;rw[hv] at t1;rw[UM] at t2;cases t1
  cases t2
  have s3:ay R' (upd R' p (.tup [v,v'])):=ay.fresh (sH.free U4) _;exact⟨upd R' p (.tup [v,v']),Ext.fresh sH U4 _,p,_,_,rfl,aF,r.mono s3 (r.mono sR (r.mono s2 hr)),r'.mono s3 (r'.mono sR Uo)⟩
 ·refine⟨vs,TK,aY.of (sH _ _ (sR _ _ VT)),aY.of (sH _ _ (sR _ _ VU)),?_⟩;rw[NZ] at hi;rw[pp.length,Uh.length];omega
end
end Fc
namespace Fc.ZT
open PySem PySem.Spec PyProof.Rows
abbrev zh (h:Heap)(l1 l2:Addr):Heap:=((((h.push {cls:=.type "tuple_iterator",data:=.fields #[.ref l1,.int 0 0]}).push {cls:=.type "tuple_iterator",data:=.fields #[.ref l2,.int 0 0]}).push {cls:=.type "tuple",data:=.seq #[.ref h.objs.size,.ref (h.objs.size+1)]}).push {cls:=.type "tuple",data:=.seq #[.none,.none]}).push {cls:=.type "zip",data:=.fields #[.none,.bool false,.bool false,.ref (h.objs.size+2),.ref (h.objs.size+3)]}
theorem EM (l1 l2:Addr)(xs ys:Array Value):Meets (Rc.«zip.__new__» ⟨[.type "zip",.ref l1,.ref l2],[]⟩) (λ_ R s=>s.heap.IsTuple l1 xs/\s.heap.IsTuple l2 ys/\R (.ok (.ret (.ref (s.heap.objs.size+4)))) {s with heap:=zh s.heap l1 l2}):=
 .of_wp λprog w A R s h=>by
  obtain⟨hp,g,d,tk,os⟩:=s;obtain⟨WL,Vv,h⟩:=h;have Tu:isSubtype (.type "zip") (.type "zip")=pure true:=by rw[isSubtype_type];kernel_rfl
  have hL1:RV (PX.heap ⟨hp,g,d,tk,os⟩) l1 xs:=WL;have hL2:RV (PX.heap ⟨hp.push {cls:=.type "tuple_iterator",data:=.fields #[.ref l1,.int 0 0]},g,d,tk,os⟩) l2 ys:=RV.push Vv _
  wp_walk using QI hL1,QI hL2
  refine⟨_,rfl,?_⟩;simp only[RQ];exact h
section
variable {prog:P2}{w:World}{A:P7}{E:Value->PX->Prop}{s:PX}
theorem AX {l1 l2:Addr}{xs ys:Array Value}{Q:Value->PX->Prop}(WL:s.heap.IsTuple l1 xs)(Vv:s.heap.IsTuple l2 ys)(h:∀h',IsZip h' (s.heap.objs.size+4) (s.heap.objs.size+2) (s.heap.objs.size+3) .none->Qg h' (s.heap.objs.size+2) (.ref s.heap.objs.size) (.ref (s.heap.objs.size+1))->Qg h' (s.heap.objs.size+3) .none .none->h'.IsTupleIter s.heap.objs.size l1 0->h'.IsTupleIter (s.heap.objs.size+1) l2 0->
  (∀c o,s.heap.get? c=some o->h'.get? c=some o)->Q (.ref (s.heap.objs.size+4)) {s with heap:=h'}):wpAny (model prog w) A (call (.type "zip") [.ref l1,.ref l2]) Q E s:=by
 refine callType_new F.called_zip (by decide) (F.typeCall_zip_2 _ _) (F.newCall_zip_2 _ _) (λobj=>F.args_object_init_3 obj _ _) F.entry_zip_new (EM l1 l2 xs ys) ⟨WL,Vv,?_⟩;have at_:∀(h:Heap)(o:Obj)(n:Nat),h.objs.size=n->o.isFreed=false->(h.push o).get? n=some o:=λh o n e f=>by subst e;exact RP _ f
 have g5:=at_ ((((s.heap.push {cls:=.type "tuple_iterator",data:=.fields #[.ref l1,.int 0 0]}).push {cls:=.type "tuple_iterator",data:=.fields #[.ref l2,.int 0 0]}).push {cls:=.type "tuple",data:=.seq #[.ref s.heap.objs.size,.ref (s.heap.objs.size+1)]}).push {cls:=.type "tuple",data:=.seq #[.none,.none]}) {cls:=.type "zip",data:=.fields #[.none,.bool false,.bool false,.ref (s.heap.objs.size+2),.ref (s.heap.objs.size+3)]} (s.heap.objs.size+4) (by simp[RQ]) rfl;have g4:=at_ (((s.heap.push {cls:=.type "tuple_iterator",data:=.fields #[.ref l1,.int 0 0]}).push {cls:=.type "tuple_iterator",data:=.fields #[.ref l2,.int 0 0]}).push {cls:=.type "tuple",data:=.seq #[.ref s.heap.objs.size,.ref (s.heap.objs.size+1)]}) {cls:=.type "tuple",data:=.seq #[.none,.none]} (s.heap.objs.size+3) (by simp[RQ]) rfl;have g3:=at_ ((s.heap.push {cls:=.type "tuple_iterator",data:=.fields #[.ref l1,.int 0 0]}).push {cls:=.type "tuple_iterator",data:=.fields #[.ref l2,.int 0 0]}) {cls:=.type "tuple",data:=.seq #[.ref s.heap.objs.size,.ref (s.heap.objs.size+1)]} (s.heap.objs.size+2) (by simp[RQ]) rfl;have g2:=at_ (s.heap.push {cls:=.type "tuple_iterator",data:=.fields #[.ref l1,.int 0 0]}) {cls:=.type "tuple_iterator",data:=.fields #[.ref l2,.int 0 0]} (s.heap.objs.size+1) (by simp[RQ]) rfl;have g1:=at_ s.heap {cls:=.type "tuple_iterator",data:=.fields #[.ref l1,.int 0 0]} s.heap.objs.size rfl rfl;have p:=@RM;exact⟨⟨_,g5,rfl⟩,h _ g5 (p _ (p _ g3)) (p _ g4) ⟨_,p _ (p _ (p _ (p _ g1))),rfl,rfl⟩ ⟨_,p _ (p _ (p _ g2)),rfl,rfl⟩ λc o x=>p _ (p _ (p _ (p _ (p _ x))))⟩
end
end Fc.ZT
namespace Fc
open PySem PySem.Spec PySem.W PySem.Calls L2
open PyProof.Rows hiding St
section
variable {X:Cx}{Γ Γ1 Γ2 Γ3:Ga}{α β γ δ:Type}{N:Ga->Prop}{T:RT}
def Gf (K:Sk)(a b:Addr):It:=
 ⟨λi H=>∃xs ys x y,cC K H a xs/\cC K H b ys/\xs[i]?=some x/\ys[i]?=some y,
  λi H v H'=>∃p x y,H p=none/\v= .ref p/\H'=upd H p (.tup [x,y])/\(∀xs,cC K H a xs->xs[i]?=some x)/\∀ys,cC K H b ys->ys[i]?=some y,
  λi H=>∃xs ys,cC K H a xs/\cC K H b ys/\(xs.length<=i∨ys.length<=i)⟩
def LB (z TI TO i1 i2 a b:Addr)(i:Nat)(h:Heap):Prop:=
 IsZip h z TI TO .none/\Qg h TI (.ref i1) (.ref i2)/\(∃u v,Qg h TO u v)/\h.IsTupleIter i1 a i/\h.IsTupleIter i2 b i/\a≠TO/\b≠TO
theorem tup_ne {h:Heap}{l b:Addr}{S5:Array Value}{o:Obj}(p:IsTup h l S5)(e:h.get? b=some o)(hc:o.cls≠ .type "tuple"):l≠b:=λz=>by
 obtain⟨u,e',c,_⟩:=p;rw[z,e] at e';cases e'
 exact hc c
theorem KW {h:Heap}{z TI TO i1 i2 a b:Addr}{i:Nat}{xs ys:Array Value}(F:oo z TI TO i1 i2)(st:LB z TI TO i1 i2 a b i h)(pa:IsTup h a xs)(pb:IsTup h b ys):ZipApart z TI TO i1 i2 a b:=by
 obtain⟨hz,_,⟨u,v,TU⟩,⟨o1,e1,c1,_⟩,⟨o2,e2,c2,_⟩,n1,n2⟩:=st;exact⟨F.TIz,F.TOz,F.i1z,F.i2z,F.TITO,F.TIi1,F.TIi2,F.TOi1,F.TOi2,F.i12,
  tup_ne pa hz (by simp),n1,tup_ne pa e1 (by rw[c1];simp),tup_ne pa e2 (by rw[c2];simp),
  tup_ne pb hz (by simp),n2,tup_ne pb e1 (by rw[c1];simp),tup_ne pb e2 (by rw[c2];simp)⟩
theorem zM {P:P2}{w:World}{K:Sk}{es:MI}{k:Nat}{tp:Pos}(a b z TI TO i1 i2:Addr)(F:oo z TI TO i1 i2):Turn P w K (.Tuple es k tp) (Gf K a b) [z,TI,TO,i1,i2] z (LB z TI TO i1 i2 a b) where
 mem:=by simp
 obj:=λi h st c hc=>by
  obtain⟨hz,T4,⟨u,v,TU⟩,⟨o1,e1,c1,d1⟩,⟨o2,e2,c2,d2⟩,_⟩:=st;simp only[Nd,Nv,or_false] at hc;rcases hc with rfl | rfl | rfl | rfl | rfl
  ·exact⟨_,hz,λv q=>by cases q⟩
  ·exact⟨_,T4,λv q=>by cases q⟩
  ·exact⟨_,TU,λv q=>by cases q⟩
  ·exact⟨o1,e1,λv q=>by rw[d1] at q;cases q⟩
  ·exact⟨o2,e2,λv q=>by rw[d2] at q;cases q⟩
 keep:=λi h h' st kk=>by
  obtain⟨hz,T4,⟨u,v,TU⟩,h1,h2,n1,n2⟩:=st;exact⟨kk z (by simp) _ hz,kk TI (by simp) _ T4,⟨u,v,kk TO (by simp) _ TU⟩,h1.imp λo q=>⟨kk i1 (by simp) o q.1,q.2⟩,h2.imp λo q=>⟨kk i2 (by simp) o q.1,q.2⟩,n1,n2⟩
 item:=by
  intro X hP hw hK hc i S3 s σ H E I hf st hg;subst hP hw hK;obtain⟨xs,ys,x,y,hq,T6,hx,hy⟩:=hg;obtain⟨S5,r,pl,hz⟩:=I.tuple hq;obtain⟨its',r',Um,Vf⟩:=I.tuple T6;obtain⟨u,hu,rx⟩:=r.get hx;obtain⟨u',V6,ry⟩:=r'.get hy;have D:=KW F st pl Um;have hh:=I.ok.hd hc;obtain⟨UR,T4,⟨c,d,TU⟩,h1,h2,n1,n2⟩:=st;have hn:H s.heap.objs.size=none:=I.S8.fresh (O0 _);refine ZT.vb D (ZT.iF (A:=X.A.in1) hh (Pr D.l1i1)) (ZT.iF (A:=X.A.in1) hh (Pr D.l2i2)) UR T4 TU ⟨h1,pl⟩ ⟨h2,Um⟩ (x:=u) (y:=u') (by simpa using hu) (by simpa using V6) λh' a1 a2 a3 a4 a5 hk=>?_;refine⟨_,rfl,?_⟩;refine QG (s:={s with heap:=h'}) a1 λh3 Xr UB=>?_;have lt:∀{c o},s.heap.get? c=some o->c≠s.heap.objs.size:=λe=>O5 (RN e);have Vw:∀b o,b∉[z,TI,TO,i1,i2]->s.heap.get? b=some o->h3.get? b=some o:=λb o hb q=>by
   simp only[Nd,Nv,or_false,not_or] at hb;exact UB.extBut b o hb.1 (hk b o hb.1 hb.2.2.1 hb.2.2.2.1 hb.2.2.2.2 q)
  have I1:Inv X S3 σ H {s with heap:=h3,toks:=s.toks}:=gM I Vw hf;have WO:h3.get? s.heap.objs.size=some {cls:=.type "tuple",data:=.seq #[u,u']}:=UB.extBut _ _ (Pr (lt UR)) a5;have I2:Inv X S3 σ (upd H s.heap.objs.size (.tup [x,y])) {s with heap:=h3,toks:=s.toks}:=
   adopt I1 (I.gm (O0 _) hn) (I.sz) ⟨by show 2<=PZ;decide,[u,u'],.cons rx (.cons ry .nil),⟨_,WO,rfl,_,rfl⟩⟩
  refine⟨.ref s.heap.objs.size,_,I2,rfl,⟨s.heap.objs.size,x,y,hn,rfl,rfl,λzs Vs=>?_,λzs Vs=>?_⟩,⟨Xr,?_,⟨_,_,UB.extBut _ _ F.TOz a2⟩,a3.1.extBut UB.extBut F.i1z,a4.1.extBut UB.extBut F.i2z,n1,n2⟩,λb hb=>?_⟩
  ·rw[I.j6 Vs hq];exact hx
  ·rw[I.j6 Vs T6];exact hy
  ·exact UB.extBut _ _ F.TIz (hk _ _ F.TIz F.TITO F.TIi1 F.TIi2 T4)
  ·have Uc:b≠s.heap.objs.size:=by
    simp only[Nd,Nv,or_false] at hb;rcases hb with rfl | rfl | rfl | rfl | rfl
    ·exact lt UR
    ·exact lt T4
    ·exact lt TU
    ·obtain⟨_,e,_⟩:=h1;exact lt e
    ·obtain⟨_,e,_⟩:=h2;exact lt e
   rw[aG Uc];exact(hf b hb).1
 done:=by
  intro X hP hw hK hc i S3 s σ H E I hf st hg;subst hP hw hK;obtain⟨xs,ys,hq,T6,hx⟩:=hg;obtain⟨S5,r,pl,hz⟩:=I.tuple hq;obtain⟨its',r',Um,Vf⟩:=I.tuple T6;have D:=KW F st pl Um;have hh:=I.ok.hd hc;obtain⟨UR,T4,⟨c,d,TU⟩,h1,h2,n1,n2⟩:=st;have l1:=r.length;have l2:=r'.length;refine ZT.xZ D (ZT.iF (A:=X.A.in1) hh (Pr D.l1i1)) (ZT.iF (A:=X.A.in1) hh (Pr D.l2i2)) UR T4 TU ⟨h1,pl⟩ ⟨h2,Um⟩ (hx.imp (λq=>by simp;omega) λq=>by simp;omega) λh' hk=>⟨rfl,?_⟩;refine gM (t':=s.toks) I (λb o hb q=>?_) hf;simp only[Nd,Nv,or_false,not_or] at hb;exact hk b o hb.1 hb.2.2.1 hb.2.2.2.1 hb.2.2.2.2 q
 self:=λ_ _ _ _ _ st h=>Qz st.1 h
def Jh (K:Sk)(ta:TA):TI:=λσ H R=>ta σ H λvs H1=>∃a b xs ys,vs=[.ref a,.ref b]/\cC K H1 a xs/\cC K H1 b ys/\R (Gf K a b) H1
theorem DW {a b:Expr}{ta:TA}{p pos:Pos}{es:MI}{k:Nat}{tp:Pos}(hg:Gl X "zip")(hm:X.mg "zip"=none)(ha:PA X [a,b] ta)(hs:PU [a,b] X.env=[(false,eval a X.env),(false,eval b X.env)]:=by rfl)(TC:PU [b] X.env=[(false,eval b X.env)]:=by rfl):PI X (.Tuple es k tp) (.Call (.Name "zip" p) [a,b] [] pos) (Jh X.K ta):=by
 intro S3 s σ H R I h;refine Call_ (fQ I hg hm boot_zip (Pz (aW (ha pos S3 s σ H _ I h) λus s1 ⟨vs,H1,I1,r1,q1⟩=>?_) (by rw[hs,TC]) (by rw[TC];rfl)));obtain⟨l,l',xs,ys,e,hq,T6,q⟩:=q1;subst e;cases r1 with
 | cons r rr=>
   cases rr with
   | cons r' rr=>
     cases rr
     cases r
     cases r'
     obtain⟨S5,_,pl,_⟩:=I1.tuple hq;obtain⟨its',_,Um,_⟩:=I1.tuple T6;have ll:l<s1.heap.objs.size:=by obtain⟨o,e,_⟩:=pl;exact RN e
     have ll':l'<s1.heap.objs.size:=by obtain⟨o,e,_⟩:=Um;exact RN e
     refine ZT.AX pl Um λh' a1 a2 a3 a4 a5 hk=>?_;refine Qz a1 ?_;have I2:Inv X S3 σ H1 {s1 with heap:=h'}:=I1.kept (t':=s1.toks) hk;have ff:∀b,s1.heap.objs.size<=b->jd X S3 H1 b:=λb hb=>I1.gm hb (I1.S8.fresh hb);refine⟨s1.heap.objs.size+4,[s1.heap.objs.size+4,s1.heap.objs.size+2,s1.heap.objs.size+3,s1.heap.objs.size,s1.heap.objs.size+1],_,_,H1,rfl,I2,zM l l' _ _ _ _ _ (Bn _),⟨a1,a2,⟨_,_,a3⟩,a4,a5,O5 (O4 ll (O7 _ 3)),O5 (O4 ll' (O7 _ 3))⟩,λb hb=>?_,q⟩;simp only[Nd,Nv,or_false] at hb;rcases hb with rfl | rfl | rfl | rfl | rfl
     ·exact ff _ (O7 _ 4)
     ·exact ff _ (O7 _ 2)
     ·exact ff _ (O7 _ 3)
     ·exact ff _ (O0 _)
     ·exact ff _ (O7 _ 1)
end
end Fc
namespace Fc.ZT
open PySem PySem.Spec PyProof.Rows
variable {prog:P2}{w:World}{A:P7}{E:Value->PX->Prop}{s:PX}
section
section
variable {z TI TO i1 i2 l1:Addr}{k1 k2:Nat}{xs:Array Value}{x a b:Value}{S1:Nat->Heap->Prop}{x2:Str}{t2:Tok}{y:Nat}
end
end
end Fc.ZT
namespace Fc
open PySem PySem.Spec PySem.W PySem.Calls L2
open PyProof.Rows hiding St
section
variable {X:Cx}{Γ Γ1 Γ2 Γ3:Ga}{α β γ δ:Type}{N:Ga->Prop}{T:RT}
end
end Fc
namespace HT
open PySem PySem.Spec PyProof.Rows
section
variable {prog:P2}{w:World}{A:P7}{E:Value->PX->Prop}{s:PX}
theorem nC {t sl:Addr}{items:Array Value}{vl vu:Value}{lo hi:Option Int}{Q:Value->PX->Prop}(ht:IsTup s.heap t items)(hs:s.heap.IsSliceOf sl vl vu .none)(pl:QP vl lo)(pu:QP vu hi)(hw:Tj items.size 0 lo=0/\Tj items.size items.size hi=items.size)(h:Q (.ref t) s):wpAny (model prog w) A (QL (.ref t) (.ref sl)) Q E s:=by
 obtain⟨os,WE,hcs,XN⟩:=id hs;have hTs:s.TypeIs (.ref sl) "slice":=⟨os,WE,hcs⟩;unfold QL
 try with_reducible refine QE ?_
 first | refine P0 (P4 ?_) | skip
 refine P0 (wpAny_sequenceKey ht.typeIs (by decide) ?_);refine P0 (Ql (name:=Sa "__getitem__") ht.typeIs PH
  (Qx PH ht.typeIs entry_tuple_getitem ?_ (args_tuple_getitem _ _)))
 show wpAny _ _ (Rc.Tuple.tupleItemsOf (.ref t) >>=_) _ _ s;refine P0 (tupleItemsOf_ ht ?_);refine P0 (wpAny_typeOf hTs ?_);rw[SS (by decide)];refine P0 (jL hs pl pu ?_);have hyes:(((Tj items.size 0 lo:Nat):Int)==0&&(1:Int)==1&&(Tj items.size items.size hi-Tj items.size 0 lo)==items.size)=true:=by
  rw[hw.1,hw.2];simp
 show wpAny _ _ (if(((Tj items.size 0 lo:Nat):Int)==0&&(1:Int)==1&&(Tj items.size items.size hi-Tj items.size 0 lo)==items.size)=true then _ else _) _ _ s;rw[SS hyes];refine P0 ?_;unfold Rc.Tuple.tupleIsExact;refine P0 (wpAny_typeOf ht.typeIs (P4 ?_));rw[SS (by decide)];exact P0 (QR (P4 ⟨_,rfl,P4 h⟩))
end
end HT
namespace Fc
open PySem PySem.Spec PySem.W PySem.Calls L2
open PyProof.Rows hiding St
variable {X:Cx}{Γ Γ1 Γ2 Γ3:Ga}{α β γ δ:Type}{N:Ga->Prop}{T:RT}
section
variable {a:Expr}{pos:Pos}
def Mh (K:Sk):V->Option Int->Option Int->Hp->VK->Prop:=λx lo hi H Q=>∃a xs,x= .ref a/\cC K H a xs/\
 (HT.Tj xs.length 0 lo=0/\HT.Tj xs.length xs.length hi=xs.length)/\Q x H
theorem GR:xV X (Mh X.K):=by
 intro S3 s σ H x v vl vu lo hi sl Q I rx hs pl pu h;obtain⟨a,xs,rfl,hx,hw,q⟩:=h;cases rx
 obtain⟨S5,r,ht,hz⟩:=I.tuple hx;have hlen:S5.toArray.size=xs.length:=by rw[Nm];exact r.length.symm
 refine⟨"tuple",_,PH.lookup,ht.typeIs,?_⟩;exact HT.nC ht hs pl pu (by rw[hlen];exact hw) ⟨.ref a,H,I,rfl,q⟩
theorem G0 {lo hi:Option Expr}{p2:Pos}{xs:List PV}{l h:Option Int}(ha:EV X a Γ ag (.tup xs) Γ)(hl:OV X lo Γ l)(hh:OV X hi Γ h)(hw:HT.Tj xs.length 0 l=0/\HT.Tj xs.length xs.length h=xs.length):EV X (.Subscript a (.Slice lo hi none p2) pos) Γ ag (.tup xs) Γ:=by
 intro σ H0 R0 H R E Q q;obtain⟨tl,pl,kl⟩:=hl;obtain⟨th,ph,kh⟩:=hh;refine eS (lW GR aO pl ph) (ha σ H0 R0 H R E _ λv H1 R1 E1 s1 e1=>kl σ H0 R0 H1 R1 E1 _ λH2 R2 E2 s2=>kh σ H0 R0 H2 R2 E2 _ λH3 R3 E3 s3=>?_);cases ag.mono (K:=X.K) (s2.trans s3) e1 with
 | @tup a' TK _ hp pp=>
   exact⟨_,_,rfl,cC.of (E3.sub _ _ hp),by rw[pp.pair.length];exact hw,q _ _ _ E3 (s1.trans (s2.trans s3)) (.tup hp pp)⟩
theorem Hm {lo hi:Option Expr}{p2:Pos}{xs:List PV}{l h:Option Int}(ha:EV X a Γ ag (.tup xs) Γ)(hl:OV X lo Γ l)(hh:OV X hi Γ h):EV X (.Subscript a (.Slice lo hi none p2) pos) Γ ag (.tup (cut xs l h)) Γ:=by
 by_cases hw:HT.Tj xs.length 0 l=0/\HT.Tj xs.length xs.length h=xs.length
 ·have e:cut xs l h=xs:=by
   unfold cut;rw[hw.1,hw.2];simp
  rw[e];exact G0 ha hl hh hw
 ·exact IG ha hl hh hw
theorem qq {b:Expr}{x y:Str}(ha:EV X a Γ aj x Γ1)(hb:EV X b Γ1 aj y Γ2)(hz:x.length+y.length<=PZ):EV X (.BinOp a .Add b pos) Γ aj (x++y) Γ2:=jq wU ha hb λR v u H Q e1 e2 q=>⟨x,y,e1,e2,hz,q _ rfl⟩
theorem DE {p:Pos}{x:Str}(hm:X.mg "len"=none)(ha:EV X a Γ aj x Γ1)(hz:x.length<=PZ)(hs:PU [a] X.env=[(false,eval a X.env)]:=by rfl)(hg:Gl X "len":=by rfl):EV X (.Call (.Name "len" p) [a] [] pos) Γ ai (x.length:Int) Γ1:=by
 intro σ H0 R0 H R E Q q;refine eS (dX t7 hg hm Qq (aK aO bo hs) (by decide) (by decide) hs) (ha σ H0 R0 H R E _ λv H1 R1 E1 s1 e1=>?_);cases e1
 exact⟨x,rfl,hz,q _ H1 R1 E1 s1 rfl⟩
theorem En {H:Hp}{p:Addr}{a b:HO}:upd (upd H p a) p b=upd H p b:=by
 funext c;by_cases h:c=p
 ·subst h;rw[aF,aF]
 ·rw[aG h,aG h,aG h]
end
section
variable {X:Cx}{Γ:Ga}
def BO (i j:Int):Prop:=0<j/\j<=1000000000000000000
theorem Bi:dW X (Qw .FloorDiv) (rI BO λi j=>.int (i/j)):=vq λi j _ _ _ _ _ hc q=>by
 have h1:(0:Int)<j:=hc.1;have h2:j<=1000000000000000000:=hc.2;exact floordiv_int (by omega) (by rw[Int.fdiv_eq_ediv_of_nonneg i (by omega)];exact q) (.inl (PyProof.noPylong_of_log2 (O4 ((Nat.log2_lt (by omega)).mpr (show j.natAbs<2 ^ 60 by omega)) (by decide))))
theorem bL {N N1:Ga->Prop}{T:RT}{st:Stmt}{rest:List Stmt}(h1:W1 X st Γ N1 T)(h2:∀Γ',N1 Γ'->WS X rest Γ' N T):WS X (st::rest) Γ N T:=ah λσ H0 R0 H R E D dn dr=>h1 σ H0 R0 H R E D (λσ' H' R' Γ' E' s' n=>dn σ' H' R' Γ' E' s' (h2 Γ' n)) dr
theorem sX {Γ1 Γ2:Ga}{a b:Expr}{pos:Pos}{x y:Int}(ha:EV X a Γ ai x Γ1)(hb:EV X b Γ1 ai y Γ2)(h:BO x y):EV X (.BinOp a .FloorDiv b pos) Γ ai (x/y) Γ2:=jq Bi ha hb λR v u H Q e1 e2 q=>⟨x,y,e1,e2,h,q _ rfl⟩
theorem Ce {x y:Int}(h0:0<=x)(h1:x<2 ^ 63):Rh x y:=.of_left (Q0 (by omega) (by omega))
def kG (x:Str)(i:Nat):Str:=⟨#[x.cps.getD i 0]⟩
theorem yW {Γ1 Γ2:Ga}{a b:Expr}{pos:Pos}{x:Str}{i:Int}(ha:EV X a Γ aj x Γ1)(hb:EV X b Γ1 ai i Γ2)(h0:0<=i)(h1:i<(x.length:Int))(hz:x.length<=PZ)(hs:eQ b:=by exact λ_ _=>rfl):EV X (.Subscript a b pos) Γ aj (kG x i.toNat) Γ2:=by
 intro σ H0 R0 H R E Q q;refine eS (iJ Io aO aO hs) (ha σ H0 R0 H R E _ λv H1 R1 E1 s1 e1=>hb σ H0 R0 H1 R1 E1 _ λu H2 R2 E2 s2 e2=>?_);cases e1
 cases e2
 refine⟨x,i,x.cps.getD i.toNat 0,rfl,rfl,hz,?_,q _ H2 R2 E2 (s1.trans s2) rfl⟩;have hl:x.cps.toList.length=x.length:=by simp[Str.length]
 rw[jT h0 (by omega),M4 (by omega)];have:i.toNat<x.cps.size:=by have:x.length=x.cps.size:=rfl;omega
 simp[Array.getD,this]
end
section
variable {X:Cx}{Γ Γ1 Γ2:Ga}{α β:Type}{N:Ga->Prop}{T:RT}
theorem nh {K:Sk}{R:Hp}:∀{vs:List V}{xs:ME},PySem.Paired (aj.R K R) vs xs->vs=xs.map V.str
 | _,_,.nil=>rfl
 | _,_,.cons h t=>by rw[Nz,← nh t];exact congrArg (· ::_) h
theorem rY {x:Str}{xs:ME}:gZ X .In aj (ae aj) x xs (decide (x∈xs)):=⟨_,qY,λR H v u Q s e1 e2 q=>by
 cases e1
 obtain⟨a,vs,rfl,hq,p,_⟩:=e2;have e:=nh p;subst e;exact⟨a,_,rfl,.inl (aY.of (s _ _ hq)),rfl,ka xs,by rw[SR MM,lG];exact q⟩⟩
theorem wR {r:Rep α}{S:mx α}{x y:Str}{k:Nat}{es:MI}{p p1 pos:Pos}{ps:List Pk}{xs:List α}{TM:List α->RT}{Q:VK}{σ:St}{H0 R0 H R:Hp}(i:Nat)(C:aM X.prog X.w X.K X.mg X.base x k (gX r S X.K))(hr:bI k X.A)(ha:HA X es Γ ps Γ1)(hΓ:Γ[i]?=some (.mu r xs))(hΓ1:Γ1[i]?=some (.mu r xs))(hS:S X.K xs ps TM)(E:aw X.K σ H0 R0 H R Γ)(q:∀a H1 R1 v H' R' xs',(σ[i]?).join=some (.ref a)->aw X.K σ H0 R0 H1 R1 Γ1->aw X.K σ H0 R0 H' R' (Γ1.set i (.mu r xs'))->ay R R'->TM xs' (del H1 a) v H' R'->Q v H')(hg:Gl X x)(TZ:(x==("__debug__":Str))=false)(he:PU (.Name y p1::es) X.env=(false,eval (.Name y p1) X.env)::PU es X.env)(To:(P8 pos (PU es X.env)).any (·.1)=false)(hN:X.N[i]?=some y)(hv:cb X.env.scope y)(hd:(y==("__debug__":Str))=false)(S9:(y==("__classdict__":Str))=false):gK X (.Call (.Name x p) (.Name y p1::es) [] pos) σ H Q:=by
 obtain⟨f,fd,pn,F,hm,hk,hb⟩:=C.ex;obtain⟨a,vs,ea,_,_,_⟩:=E.ent i _ hΓ;refine eS (iE F hr hg hm hk hb .nil kj (aK (a8 hN hv hd S9) me he) TZ he To) ⟨.ref a,at_of ea,ha σ H0 R0 H R E _ λus H1 R1 E1 s1 p1=>?_⟩;obtain⟨a',ws,T1,hp,hR,pp⟩:=E1.ent i _ hΓ1;rw[ea] at T1;cases T1
 have h0:H0 a=none:=E1.new i _ a hΓ1 rfl ea;refine⟨R1,a,ws,xs,us,ps,TM,by rw[Nw],E1.sub,hR,hp,pp,p1,hS,λv H' R' UK xs' xx h1 h2 pq t=>q a H1 R1 v H' R' xs' ea E1 ?_ (s1.trans xx.r) t⟩;have apart:∀(j:Nat)(e:Ent),j≠i->Γ1[j]?=some e->a∉e.fp (σ[j]?).join:=λj e hj qj w=>hj (E1.ds j i e _ a qj hΓ1 w (cv.mpr ea));have E2:aw X.K σ H0 R0 H1 R1 (Γ1.set i .no):=E1.tell hΓ1 trivial λb w=>by cases w
 have E3:=E2.Cu (a:=a) (λj e qj w=>by
  rcases set_at qj with⟨rfl,rfl,_⟩ | ⟨hj,q1⟩
  ·cases w
  ·exact apart j e hj q1 w) h0 xx
 have hl:i<Γ1.length:=(M1.mp hΓ1).1;have E4:=E3.lN (i:=i) (e0:=.no) (en:=.mu r xs') (Ni hl) (by rw[ea];exact⟨a,UK,rfl,h1,h2,pq⟩) λb w=>by
  have eb:b=a:=by rw[cv.mp w] at ea;cases ea;rfl
  subst eb;exact⟨h0,λj e hj qj=>apart j e hj (by rwa [Nt (Pr hj)] at qj)⟩
 rw[Og] at E4;exact E4
end
theorem Fx {as:MG}{k:Int}{j:Nat}{b:Addr}(hk:gT as.length k=some j)(hb:as[j]?=some b):cM (as.map V.ref) k=some (.ref b):=by
 unfold cM;rw[M8,hk];show(as.map V.ref)[j]?=_;rw[Nc,hb];rfl
theorem qz {a b:Expr}{p1 p2 pos UP:Pos}{m n:Int}(WK:X.mg "list"=none)(hmr:X.mg "range"=none)(ha:HA X [a,b] Γ [⟨ai,m⟩,⟨ai,n⟩] Γ1)(hm: -1000000<=m/\m<=1000000)(hn: -1000000<=n/\n<=1000000)(hs:PU [a,b] X.env=(false,eval a X.env)::PU [b] X.env:=by rfl)(To:(P8 UP (PU [b] X.env)).any (·.1)=false:=by rfl)(TC:PU [.Call (.Name "range" p2) [a,b] [] UP] X.env=[(false,eval (.Call (.Name "range" p2) [a,b] [] UP) X.env)]:=by rfl)(hc:X.calm=true:=by rfl)(hg:Gl X "list":=by rfl)(hgr:Gl X "range":=by rfl):bg X (.Call (.Name "list" p1) [.Call (.Name "range" p2) [a,b] [] UP] [] pos) Γ ai (ups m (n-m).toNat) Γ1:=by
 intro σ H0 R0 H R E Q q;refine eS (iV (mN hc) hg WK PD (aK (iV qw hgr hmr PQ me (by decide) (by decide) hs To) bo TC) (by decide) (by decide) TC) (ha σ H0 R0 H R E _ λvs H1 R1 E1 s1 e1=>?_);have e:vs=[.int m,.int n]:=by
  cases e1 with
  | cons a1 t=>cases t with
    | cons a2 t=>cases t;cases a1;cases a2;rfl
 subst e;refine⟨m,n,rfl,λp hp=>⟨p,m,n,rfl,aF,hm.1,hm.2,hn.1,hn.2,λd hd=>?_⟩⟩;have E2:=E1.grow (Ext.eC E1.sub hp (.VB m n));exact q d _ _ R1 (E2.grow (Ext.eC E2.sub hd _)) s1 aF (E2.sub.free hd) (E2.ext.h.free hd) (E2.off hd) (paired_ints _) (by rw[ck];exact O2 (show(n-m).toNat<=2000000 by omega) (by decide))
mutual
inductive cK (H:Hp):V->PV->MG->Prop
 | str (x:Str):cK H (.str x) (.str x) []
 | int (n:Int):cK H (.int n) (.int n) []
 | lst {a:Addr} {vs:List V} {xs:List PV} {fp:MG}:H a=some (.lst vs)->bz H vs xs fp->xs.length<=PZ->cK H (.ref a) (.lst xs) (a::fp)
inductive bz (H:Hp):List V->List PV->MG->Prop
 | nil:bz H [] [] []
 | cons {v:V} {x:PV} {f:MG} {vs:List V} {xs:List PV} {g:MG}:cK H v x f->bz H vs xs g->bz H (v::vs) (x::xs) (f++g)
end
mutual
theorem cK.pK {H:Hp}:∀{v:V}{x:PV}{fp:MG},cK H v x fp->gR H v x
 | _,_,_,.str x=>.str x
 | _,_,_,.int n=>.int n
 | _,_,_,.lst h t z=>.lst h t.pK z
theorem bz.pK {H:Hp}:∀{vs:List V}{xs:List PV}{fp:MG},bz H vs xs fp->eL H vs xs
 | _,_,_,.nil=>.nil
 | _,_,_,.cons h t=>.cons h.pK t.pK
end
mutual
theorem cK.loc {H H':Hp}:∀{v:V}{x:PV}{fp:MG},cK H v x fp->(∀a∈fp,H' a=H a)->cK H' v x fp
 | _,_,_,.str x,_=>.str x
 | _,_,_,.int n,_=>.int n
 | _,_,_,.lst h t z,k=>.lst ((k _ Nb).trans h) (t.loc λa ha=>k a (M7 _ ha)) z
theorem bz.loc {H H':Hp}:∀{vs:List V}{xs:List PV}{fp:MG},bz H vs xs fp->(∀a∈fp,H' a=H a)->bz H' vs xs fp
 | _,_,_,.nil,_=>.nil
 | _,_,_,.cons h t,k=>.cons (h.loc λa ha=>k a (Np _ ha)) (t.loc λa ha=>k a (Nh _ ha))
end
mutual
theorem cK.has {H:Hp}:∀{v:V}{x:PV}{fp:MG},cK H v x fp->∀a∈fp,H a≠none
 | _,_,_,.str x,_,h=>by cases h
 | _,_,_,.int n,_,h=>by cases h
 | _,_,_,.lst q t z,a,h=>by
   rcases Nd.mp h with rfl | h
   ·rw[q];simp
   ·exact t.has a h
theorem bz.has {H:Hp}:∀{vs:List V}{xs:List PV}{fp:MG},bz H vs xs fp->∀a∈fp,H a≠none
 | _,_,_,.nil,_,h=>by cases h
 | _,_,_,.cons q t,a,h=>(Nj.mp h).elim (q.has a) (t.has a)
end
def AH:List PV->Bool
 | .lst _:: .int _::_=>true
 | _=>false
mutual
def noMix:PV->Bool
 | .lst xs=> !AH xs&&gy xs
 | _=>true
def gy:List PV->Bool
 | []=>true
 | x::xs=>noMix x&&gy xs
end
theorem zI {xs:List PV}(h:noMix (.lst xs)=true):(∀a k r,xs≠ .lst a:: .int k::r)/\gy xs=true:=by
 rw[noMix,MN] at h;refine⟨λa k r e=>?_,h.2⟩;subst e;exact SQ h.1 (by simp[AH])
mutual
theorem cK.node {H:Hp}{a s:Addr}{k:Int}{rest:List V}(ha:H a=some (.lst (.ref s:: .int k::rest))):∀{v:V}{x:PV}{fp:MG},cK H v x fp->noMix x=true->a∉fp
 | _,_,_,.str x,_=>by simp
 | _,_,_,.int n,_=>by simp
 | _,_,_,.lst q t z,hx=>by
   obtain⟨h1,h2⟩:=zI hx;intro h;rcases Nd.mp h with rfl | h
   ·rw[ha] at q;cases q
    cases t with
    | cons p1 t=>cases t with
      | cons p2 t=>
        cases p1
        cases p2
        exact h1 _ _ _ rfl
   ·exact bz.node ha t h2 h
theorem bz.node {H:Hp}{a s:Addr}{k:Int}{rest:List V}(ha:H a=some (.lst (.ref s:: .int k::rest))):∀{vs:List V}{xs:List PV}{fp:MG},bz H vs xs fp->gy xs=true->a∉fp
 | _,_,_,.nil,_=>by simp
 | _,_,_,.cons q t,hx=>by
   rw[gy,MN] at hx;intro h;rcases Nj.mp h with h | h
   ·exact cK.node ha q hx.1 h
   ·exact bz.node ha t hx.2 h
end
section
variable {H:Hp}
theorem bz.len {vs:List V}{xs:List PV}{fp:MG}(h:bz H vs xs fp):vs.length=xs.length:=h.pK.pair.length
theorem bz.app:∀{vs us:List V}{xs ys:List PV}{f g:MG},bz H vs xs f->bz H us ys g->bz H (vs++us) (xs++ys) (f++g)
 | _,_,_,_,_,_,.nil,t=>t
 | _,_,_,_,_,_,.cons h t,t'=>by
   rw[N6,N6,Nl];exact .cons h (t.app t')
def js:PV->Bool
 | .str _=>true
 | .int _=>true
 | _=>false
theorem kX {H':Hp}{v:V}{x:PV}(h:gR H v x)(hl:js x=true):cK H' v x []:=by
 cases h with
 | str x=>exact .str x
 | int n=>exact .int n
 | _=>cases hl
theorem vY {H H':Hp}:∀{vs:List V}{xs:List PV},eL H vs xs->xs.all js=true->bz H' vs xs []
 | _,_,.nil,_=>.nil
 | _,_,.cons h t,hl=>by
   rw[all_cons,MN] at hl;exact .cons (f:=[]) (g:=[]) (kX h hl.1) (vY t hl.2)
def f9 (x:PV)(fp:MG):mn where
 fp:=fp
 R:=λ_ H _ v=>cK H v x fp/\fp.Nodup
 loc:=λh _ ⟨t,n⟩=>⟨t.loc h,n⟩
 has:=λ⟨t,_⟩=>t.has
def wY (P:PV->Prop):RT:=λH0 v H' R'=>∃x fp,cK H' v x fp/\fp.Nodup/\(∀a∈fp,H0 a=none/\R' a=none)/\P x
end
section
variable {x:PV}{pos:Pos}{e:Expr}{y:PV}{p1:Pos}{z:PV}
def iR (X:Cx)(e:Expr)(Γ:Ga)(x:PV)(Γ':Ga):Prop:=
 ∀(σ:St)(H0 R0 H R:Hp),aw X.K σ H0 R0 H R Γ->∀Q:VK,(∀v fp H' R',aw X.K σ H0 R0 H' R' Γ'->ay R R'->cK H' v x fp->fp.Nodup->(∀a∈fp,R' a=none/\H0 a=none/\Off a σ Γ')->Q v H')->gK X e σ H Q
theorem iR.cast (h:iR X e Γ x Γ1)(e1:x=y):iR X e Γ y Γ1:=e1▸h
theorem bg.tJ {xs:List PV}(h:bg X e Γ ag xs Γ1)(hl:xs.all js=true):iR X e Γ (.lst xs) Γ1:=λσ H0 R0 H R E Q q=>
 h σ H0 R0 H R E Q λa vs H' R' E' s' ha hR h0 off p z=>q _ [a] H' R' E' s' (.lst ha (vY (.of p) hl) z) (ND.mpr ⟨by simp,OI⟩) λb hb=>by rw[M5.mp hb];exact⟨hR,h0,off⟩
theorem o8 (i:Nat){x:Str}(he:iR X e Γ y Γ1)(h:∀fp,N (Γ1.set i (.ob (f9 y fp))))(hN:X.N.Nodup:=by first | assumption | decide)(hi:X.N[i]?=some x:=by rfl)(hx:autoParam (Loc X.env.scope x) UH)(hs:P9 e (some (.Name x p1)) pos.line X.env=pure false:=by rfl)(hf:autoParam (X.fn x=true∨X.env.scope.names.lookup x=some .local) UG):W1 X (.Assign [.Name x p1] e pos) Γ N T:=λσ H0 R0 H R E D dn dr=>
 sS (jV hN hi hx aO hs hf) (he σ H0 R0 H R E _ λv fp H1 R1 E1 s1 t nd k=>dn _ H1 R1 _ (E1.setG (en:=.ob (f9 y fp)) i ⟨⟨v,rfl,t,nd⟩,λa ha=>(k a ha).1⟩ (λa ha=>(k a ha).2.1) λa ha j e _ q w=>(k a ha).2.2 j e q w) s1 (h fp))
theorem h8 (i:Nat){r:Rep α}{S:mx α}{x y:Str}{k:Nat}{a:Addr}{es:MI}{p:Pos}{ps:List Pk}{xs st:List α}(C:aM X.prog X.w X.K X.mg X.base x k (gX r S X.K))(hr:bI k X.A)(ha:HA X es (Γ.set i (.mu r xs)) ps (Γ.set i (.mu r xs)))(hΓ:Γ[i]?=some (.ob (aE a r xs)))(hS:S X.K xs ps (λxs'=>wY λw=>xs'=st/\w=z))(WM:∀(R:Hp)(ws:List V),PySem.Paired (r.R X.K R) ws st->∃s k rest,ws= .ref s:: .int k::rest)(hmx:noMix z=true)(hg:Gl X x:=by rfl)(TZ:Ti x:=by decide)(he:PU (.Name y p1::es) X.env=(false,eval (.Name y p1) X.env)::PU es X.env:=by rfl)(To:(P8 pos (PU es X.env)).any (·.1)=false:=by rfl)(hN:X.N[i]?=some y:=by rfl)(hv:autoParam (cb X.env.scope y) Tv)(hd:Ti y:=by decide)(S9:Tz y:=by decide):
 iR X (.Call (.Name x p) (.Name y p1::es) [] pos) Γ z (Γ.set i (.ob (aE a r st))):=λσ H0 R0 H R E Q q=>by
 obtain⟨ea,⟨vs,hva,pp⟩,hR⟩:=dv (E.ent i _ hΓ);have hl:i<Γ.length:=(M1.mp hΓ).1;have E':aw X.K σ H0 R0 H R (Γ.set i (.mu r xs)):=E.tell hΓ (by rw[ea];exact⟨a,vs,rfl,hva,hR,pp⟩) λb w=>by
  rw[ea] at w;exact w
 refine wR i C hr ha (Ni hl) (Ni hl) hS E' (λa' H1 R1 v H' R' xs' T1 E1 E2 s' t=>?_) hg TZ he To hN hv hd S9;rw[ea] at T1;cases T1
 obtain⟨w,fp,t1,nd,k,rfl,rfl⟩:=t;rw[Og] at E2;obtain⟨a2,ws,X2,VT,Wf,pp2⟩:=E2.ent i _ (Ni hl);rw[ea] at X2;cases X2
 have E3:aw X.K σ H0 R0 H' R' (Γ.set i (.ob (aE a r xs'))):=by
  have:=E2.tell (i:=i) (en:=.ob (aE a r xs')) (Ni hl) (by rw[ea];exact⟨⟨_,rfl,rfl,ws,VT,pp2⟩,λb hb=>by rw[M5.mp hb];exact Wf⟩) (λb w=>by rw[ea];exact w);rwa [Og] at this
 have Ve:∀b∈fp,b≠a:=λb hb e=>by
  subst e;obtain⟨s,k,rest,e1⟩:=WM R' ws pp2;rw[e1] at VT;exact cK.node VT t1 hmx hb
 refine q v fp H' R' E3 s' t1 nd λb hb=>?_;have hb1:H1 b=none:=by
  have:=(k b hb).1;unfold del at this;rwa [SR (Ve b hb)] at this
 refine⟨(k b hb).2,E1.ext.h.free hb1,λj e qj w=>?_⟩;rcases set_at qj with⟨rfl,rfl,_⟩ | ⟨hj,q1⟩
 ·exact Ve b hb (M5.mp w)
 ·exact E1.off hb1 j e (by rw[Nt (Pr hj)];exact q1) w
theorem aw.xm {K:Sk}{σ:St}{H0 R0 H R:Hp}{j:Nat}{fp:MG}(E:aw K σ H0 R0 H R Γ)(hj:Γ[j]?=some (.ob (f9 x fp))):(∃v,(σ[j]?).join=some v/\cK H v x fp)/\fp.Nodup/\aw K σ H0 R0 H R (Γ.set j .no)/\∀a∈fp,R a=none/\H0 a=none/\Off a σ (Γ.set j .no):=by
 obtain⟨⟨v,ev,t,nd⟩,hR⟩:=E.ent j _ hj;refine⟨⟨v,ev,t⟩,nd,E.tell (en:=.no) hj trivial (λb w=>by cases w),λa ha=>⟨hR a ha,E.nw j _ a hj ha,λk e q w=>?_⟩⟩;rcases set_at q with⟨rfl,rfl,_⟩ | ⟨hk,q1⟩
 ·cases w
 ·exact hk (E.ds k j e _ a q1 hj w ha)
theorem vo (j:Nat){y:Str}{fp:MG}(hΓ:Γ[j]?=some (.ob (f9 x fp)))(hN:X.N[j]?=some y:=by rfl)(hv:autoParam (cb X.env.scope y) Tv)(hd:Ti y:=by decide)(S9:Tz y:=by decide):iR X (.Name y pos) Γ x (Γ.set j .no):=λσ H0 R0 H R E Q q=>by
 obtain⟨⟨v,ev,t⟩,nd,E1,k⟩:=E.xm hΓ;exact eS (a8 hN hv hd S9) ⟨v,at_of ev,q v fp H R E1 (ay.refl _) t nd k⟩
theorem cK.fresh {H:Hp}{v:V}{fp:MG}{p:Addr}{o:HO}(h:cK H v x fp)(hp:H p=none):cK (upd H p o) v x fp/\p∉fp:=by
 have hn:p∉fp:=λw=>h.has p w hp;exact⟨h.loc λa ha=>aG λe=>hn (e▸ha),hn⟩
theorem Hu {a b t:Expr}(ha:EV X a Γ ag x Γ1)(hb:EV X b Γ1 ag y Γ2)(ht:iR X t Γ2 z Γ3)(hx:js x=true)(hy:js y=true)(h1:PU [a,b,t] X.env=(false,eval a X.env)::PU [b,t] X.env:=by rfl)(h2:PU [b,t] X.env=(false,eval b X.env)::PU [t] X.env:=by rfl)(h3:PU [t] X.env=(false,eval t X.env)::PU [] X.env:=by rfl):iR X (.List [a,b,t] pos) Γ (.lst [x,y,z]) Γ3:=λσ H0 R0 H R E Q q=>by
 refine eS (su (aK aO (aK aO (aK aO bo h3) h2) h1)) (ha σ H0 R0 H R E _ λv1 H1 R1 E1 s1 e1=>hb σ H0 R0 H1 R1 E1 _ λv2 H2 R2 E2 s2 e2=>ht σ H0 R0 H2 R2 E2 _ λv3 fp H3 R3 E3 s3 t3 nd k=>⟨by show 3<=PZ;decide,λp hp=>?_⟩);obtain⟨t4,hn⟩:=t3.fresh (o:=.lst [v1,v2,v3]) hp;refine q (.ref p) (p::fp) _ R3 (E3.grow (Ext.eC E3.sub hp _)) (s1.trans (s2.trans s3)) ?_ (ND.mpr ⟨hn,nd⟩) λc hc=>?_
 ·have:=bz.cons (kX (H':=upd H3 p (.lst [v1,v2,v3])) e1 hx) (bz.cons (kX (H':=upd H3 p (.lst [v1,v2,v3])) e2 hy) (bz.cons t4 .nil));rw[Nw,NV,NV] at this;exact .lst aF this (by show 3<=PZ;decide)
 ·rcases Nd.mp hc with rfl | hc
  ·exact⟨E3.sub.free hp,E3.ext.h.free hp,E3.off hp⟩
  ·exact k c hc
theorem HS (j:Nat){a b t:Expr}{n:Str}{u:PV}{f0:MG}(ha:EV X a Γ ag x Γ1)(hb:EV X b Γ1 ag y Γ2)(ht:iR X t Γ2 z Γ3)(hj:Γ2[j]?=some (.ob (f9 u f0)))(hj3:Γ3[j]?=some (.ob (f9 u f0)))(hx:js x=true)(hy:js y=true)(hN:X.N[j]?=some n:=by rfl)(hv:autoParam (cb X.env.scope n) Tv)(hd:Ti n:=by decide)(S9:Tz n:=by decide)(h1:PU [a,b,.Name n p1,t] X.env=(false,eval a X.env)::PU [b,.Name n p1,t] X.env:=by rfl)(h2:PU [b,.Name n p1,t] X.env=(false,eval b X.env)::PU [.Name n p1,t] X.env:=by rfl)(h3:PU [.Name n p1,t] X.env=(false,eval (.Name n p1) X.env)::PU [t] X.env:=by rfl)(h4:PU [t] X.env=(false,eval t X.env)::PU [] X.env:=by rfl):iR X (.List [a,b,.Name n p1,t] pos) Γ (.lst [x,y,u,z]) (Γ3.set j .no):=λσ H0 R0 H R E Q q=>by
 refine eS (su (aK aO (aK aO (aK (a8 hN hv hd S9) (aK aO bo h4) h3) h2) h1)) (ha σ H0 R0 H R E _ λv1 H1 R1 E1 s1 e1=>hb σ H0 R0 H1 R1 E1 _ λv2 H2 R2 E2 s2 e2=>?_);obtain⟨⟨v0,ev0,_⟩,_⟩:=E2.xm hj;refine⟨v0,at_of ev0,ht σ H0 R0 H2 R2 E2 _ λv3 fp H3 R3 E3 s3 t3 nd k=>⟨by show 4<=PZ;decide,λp hp=>?_⟩⟩;obtain⟨⟨v0',X1,t0⟩,nd0,E4,k0⟩:=E3.xm hj3;rw[ev0] at X1;cases X1
 obtain⟨t4,hn⟩:=t3.fresh (o:=.lst [v1,v2,v0,v3]) hp;obtain⟨t5,hn5⟩:=t0.fresh (o:=.lst [v1,v2,v0,v3]) hp;have dj:∀c∈f0,c∉fp:=λc hc w=>(k c w).2.2 j _ hj3 hc;refine q (.ref p) (p::(f0++fp)) _ R3 (E4.grow (Ext.eC E4.sub hp _)) (s1.trans (s2.trans s3)) ?_ (ND.mpr ⟨λw=>(Nj.mp w).elim hn5 hn,NJ.mpr ⟨nd0,nd,λc hc d hd e=>dj c hc (e▸hd)⟩⟩) λc hc=>?_
 ·have:=bz.cons (kX (H':=upd H3 p (.lst [v1,v2,v0,v3])) e1 hx) (bz.cons (kX (H':=upd H3 p (.lst [v1,v2,v0,v3])) e2 hy) (bz.cons t5 (bz.cons t4 .nil)));rw[Nw,NV,NV] at this;exact .lst aF this (by show 4<=PZ;decide)
 ·rcases Nd.mp hc with rfl | hc
  ·exact⟨E4.sub.free hp,E4.ext.h.free hp,E4.off hp⟩
  ·rcases Nj.mp hc with hc | hc
   ·exact k0 c hc
   ·refine⟨(k c hc).1,(k c hc).2.1,λi e qi w=>?_⟩;rcases set_at qi with⟨rfl,rfl,_⟩ | ⟨hi,q1⟩
    ·cases w
    ·exact(k c hc).2.2 i e q1 w
theorem iz (i:Nat){a:Addr}{r:Rep α}{xs:List α}{P:List α->PV->Prop}(he:iR X e Γ y Γ1)(hΓ1:Γ1[i]?=some (.ob (aE a r xs)))(h:P xs y):W1 X (.Return (some e) pos) Γ N (B5 X.K a r λxs'=>wY (P xs')):=λσ H0 R0 H R E D dn dr=>
 sS (jX aO) (he σ H0 R0 H R E _ λv fp H1 R1 E1 s1 t nd k=>by
  obtain⟨ea,⟨vs,ha,pp⟩,hR⟩:=dv (E1.ent i _ hΓ1);exact dr v H1 R1 E1.ext ⟨vs,xs,ha,hR,pp,y,fp,t,nd,λb hb=>⟨(k b hb).2.1,(k b hb).1⟩,h⟩)
theorem Gr (i:Nat){x:Str}{ap cp:Pos}{xs:List PV}{fp:MG}(he:iR X e Γ z Γ1)(hΓ:Γ[i]?=some (.ob (f9 (.lst xs) fp)))(hΓ1:Γ1[i]?=some (.ob (f9 (.lst xs) fp)))(hz:xs.length<PZ)(h:∀fp',N (Γ1.set i (.ob (f9 (.lst (xs++[z])) fp'))))(hN:X.N[i]?=some x:=by rfl)(hv:autoParam (cb X.env.scope x) Tv)(hd:Ti x:=by decide)(S9:Tz x:=by decide)(Uj:P9 (.Call (.Attribute (.Name x p1) "append" ap) [e] [] cp) none pos.line X.env=pure false:=by rfl)(Tc:P6 (.Name x p1) "append" X.env (eval (.Name x p1) X.env)=eval (.Name x p1) X.env:=by rfl)(TN:((P8 cp (PU [e] X.env)).all (λx=> !x.1)&&(Qy cp (Qm [] X.env)).all (λx=>x.1.isSome)
  &&decide ([e].length+([]:List Qc).length+(if([]:List Qc).isEmpty then 0 else 1)<30))=true:=by rfl)(Tb:(ap.endLine==cp.line)=true:=by rfl)(hs:PU [e] X.env=(false,eval e X.env)::PU [] X.env:=by rfl):W1 X (.Expr (.Call (.Attribute (.Name x p1) "append" ap) [e] [] cp) pos) Γ N T:=λσ H0 R0 H R E D dn dr=>by
 obtain⟨⟨v0,ea,t0,_⟩,_⟩:=E.ent i _ hΓ;cases t0 with
 | @lst a Xc _ f0 ha0 tt0 z0=>
 refine sS (eo (iK RC RE RF jb (a8 hN hv hd S9) (aK aO bo hs) Tc TN Tb hs rfl) Uj) ?_;refine⟨.ref a,at_of ea,.inl ⟨rfl,Xc,aY.of ha0⟩,he σ H0 R0 H R E _ λv XZ H1 R1 E1 s1 t nd k=>?_⟩;obtain⟨⟨v1,X3,t1,nd1⟩,Wg⟩:=E1.ent i _ hΓ1;rw[ea] at X3;cases X3
 cases t1 with
 | @lst _ vs _ _ ha tt zz=>
 refine⟨a,vs,v,rfl,rfl,ha,by rw[tt.len];exact hz,?_⟩;obtain⟨na,nd2⟩:=ND.mp nd1;have nz:a∉XZ:=λw=>(k a w).2.2 i _ hΓ1 Nb;have dj:∀c∈f0,c∉XZ:=λc hc w=>(k c w).2.2 i _ hΓ1 (M7 _ hc);have tn:cK (upd H1 a (.lst (vs++[v]))) (.ref a) (.lst (xs++[z])) (a::(f0++XZ)):=by
  have:=bz.app (tt.loc (H':=upd H1 a (.lst (vs++[v]))) λc hc=>aG λe=>na (e▸hc)) (bz.cons (t.loc (H':=upd H1 a (.lst (vs++[v]))) λc hc=>aG λe=>nz (e▸hc)) .nil);rw[Nw] at this;exact .lst aF this (by rw[M9,NG];exact hz)
 refine dn σ _ R1 _ (E1.ot (en:=.ob (f9 (.lst (xs++[z])) (a::(f0++XZ)))) hΓ1 (a:=a) Nb ?_ λb hb=>?_) s1 (h _)
 ·rw[ea];refine⟨⟨_,rfl,tn,ND.mpr ⟨λw=>(Nj.mp w).elim na nz,NJ.mpr ⟨nd2,nd,λc hc d hd e=>dj c hc (e▸hd)⟩⟩⟩,λb hb=>?_⟩;rcases Nd.mp hb with rfl | hb
  ·exact Wg _ Nb
  ·rcases Nj.mp hb with hb | hb
   ·exact Wg _ (M7 _ hb)
   ·exact(k b hb).1
 ·rcases Nd.mp hb with rfl | hb
  ·exact .inl Nb
  ·rcases Nj.mp hb with hb | hb
   ·exact .inl (M7 _ hb)
   ·exact .inr ⟨(k b hb).2.1,(k b hb).2.2⟩
theorem AD {i:Nat}{fp:MG}(hΓ:Γ[i]?=some (.ob (f9 x fp)))(σ:St)(H0 R0 H R:Hp)(E:aw X.K σ H0 R0 H R Γ):aw X.K σ H H H H ((Γ.map m9).set i (.im ag x)):=by
 obtain⟨⟨v,ea,t,_⟩,_⟩:=E.ent i _ hΓ;exact E.Ul.lN (i:=i) (e0:=.no) (by rw[Nc,hΓ];rfl) ⟨v,ea,t.pK⟩ λb w=>by cases w
end
abbrev PT:=List PV×Addr×MG
abbrev dm (p:PT):MG:=p.2.1::p.2.2
abbrev dG (ps:List PT):MG:=ps.flatMap dm
structure hJ (H:Hp)(a:Addr)(ps:List PT):Prop where
 hd:H a=some (.lst (ps.map λp=>.ref p.2.1))
 pt:∀(n:Nat)(p:PT),ps[n]?=some p->cK H (.ref p.2.1) (.lst p.1) (dm p)/\(dm p).Nodup/\a∉dm p
 dj:∀(n m:Nat)(p q:PT),ps[n]?=some p->ps[m]?=some q->∀c∈dm p,c∈dm q->n=m
theorem bu {ps:List PT}{c:Addr}:c∈dG ps↔∃(n:Nat)(p:PT),ps[n]?=some p/\c∈dm p:=by
 rw[OS];constructor
 ·rintro⟨p,hp,hc⟩;obtain⟨n,hn⟩:=Nq.mp hp;exact⟨n,p,hn,hc⟩
 ·rintro⟨n,p,hn,hc⟩;exact⟨p,Ng hn,hc⟩
def bN (a:Addr)(ps:List PT):mn where
 fp:=a::dG ps
 R:=λ_ H _ v=>v= .ref a/\hJ H a ps
 loc:=λh _ ⟨e,k⟩=>⟨e,(h _ Nb).trans k.hd,λn p hn=>⟨(k.pt n p hn).1.loc λc hc=>h c (M7 _ (bu.mpr ⟨n,p,hn,hc⟩)),(k.pt n p hn).2⟩,k.dj⟩
 has:=λ⟨e,k⟩ c hc=>by
  rcases Nd.mp hc with rfl | hc
  ·rw[k.hd];simp
  ·obtain⟨n,p,hn,hc⟩:=bu.mp hc;exact(k.pt n p hn).1.has c hc
section
variable {a:Addr}{ps:List PT}{p1 pos:Pos}{n:Nat}{r:Rep α}{x:Str}{e:Expr}{cp:Pos}
theorem aw.BJ {K:Sk}{σ:St}{H0 R0 H R:Hp}{i:Nat}{b:Addr}{ys Xa:List PV}{g g':MG}{ws:List V}(E:aw K σ H0 R0 H R Γ)(hΓ:Γ[i]?=some (.ob (bN a ps)))(hn:ps[n]?=some (ys,b,g))(t:cK (L2.upd H b (.lst ws)) (.ref b) (.lst Xa) (b::g'))(nd:(b::g').Nodup)(hg:∀c∈g',c∈g∨(R c=none/\H0 c=none/\Off c σ Γ)):aw K σ H0 R0 (L2.upd H b (.lst ws)) R (Γ.set i (.ob (bN a (ps.set n (Xa,b,g'))))):=by
 obtain⟨⟨v,ea,rfl,k⟩,hR⟩:=E.ent i _ hΓ;have nl:n<ps.length:=(M1.mp hn).1;have bm:b∈dG ps:=bu.mpr ⟨n,_,hn,Nb⟩;have ab:a≠b:=λe=>(k.pt n _ hn).2.2 (by rw[e];exact Nb);have sp:∀(m:Nat)(q:PT),(ps.set n (Xa,b,g'))[m]?=some q->(m=n/\q=(Xa,b,g'))∨(m≠n/\ps[m]?=some q):=λm q h=>by
  by_cases e:n=m
  ·subst e;rw[Ni nl] at h;exact .inl ⟨rfl,(Option.some.inj h).symm⟩
  ·rw[Nt e] at h;exact .inr ⟨λz=>e z.symm,h⟩
 have old:∀c∈b::g',c∈dG ps∨(R c=none/\H0 c=none/\Off c σ Γ):=λc hc=>by
  rcases Nd.mp hc with rfl | hc
  ·exact .inl bm
  ·exact(hg c hc).imp (λw=>bu.mpr ⟨n,_,hn,M7 _ w⟩) id
 have Xi:∀{c:Addr},Off c σ Γ->c∉(a::dG ps):=λh w=>h i _ hΓ w;have apart:∀(m:Nat)(q:PT),m≠n->ps[m]?=some q->∀c∈b::g',c∉dm q:=λm q hm hq c hc w=>by
  rcases Nd.mp hc with rfl | hc
  ·exact hm (k.dj m n q _ hq hn _ w Nb)
  ·rcases hg c hc with z | z
   ·exact hm (k.dj m n q _ hq hn c w (M7 _ z))
   ·exact Xi z.2.2 (M7 _ (bu.mpr ⟨m,q,hq,w⟩))
 refine E.ot (en:=.ob (bN a (ps.set n (Xa,b,g')))) hΓ (a:=b) (M7 _ bm) ⟨⟨.ref a,ea,rfl,?_,λm q hq=>?_,λm1 m2 q1 q2 h1 h2 c c1 c2=>?_⟩,λc hc=>?_⟩ λc hc=>?_
 ·rw[aG ab,k.hd];congr 2;refine Oo λm=>?_;rw[Nc,Nc];by_cases e:n=m
  ·subst e;rw[Ni nl,hn];rfl
  ·rw[Nt e]
 ·rcases sp m q hq with⟨_,rfl⟩ | ⟨hm,hq⟩
  ·refine⟨t,nd,λw=>?_⟩;rcases Nd.mp w with e | w
   ·exact ab e
   ·rcases hg a w with z | z
    ·exact(k.pt n _ hn).2.2 (M7 _ z)
    ·exact Xi z.2.2 Nb
  ·obtain⟨t1,t2,t3⟩:=k.pt m q hq;exact⟨t1.loc λc hc=>aG λe=>apart m q hm hq b Nb (e▸hc),t2,t3⟩
 ·rcases sp m1 q1 h1 with⟨e1,rfl⟩ | ⟨hm1,h1⟩
  ·rcases sp m2 q2 h2 with⟨e2,rfl⟩ | ⟨Vh,h2⟩
   ·rw[e1,e2]
   ·exact SQ c2 (apart m2 q2 Vh h2 c c1)
  ·rcases sp m2 q2 h2 with⟨e2,rfl⟩ | ⟨Vh,h2⟩
   ·exact SQ c1 (apart m1 q1 hm1 h1 c c2)
   ·exact k.dj m1 m2 q1 q2 h1 h2 c c1 c2
 ·rcases Nd.mp hc with rfl | hc
  ·exact hR _ Nb
  ·obtain⟨m,q,hq,hc⟩:=bu.mp hc;rcases sp m q hq with⟨_,rfl⟩ | ⟨_,hq⟩
   ·rcases old c hc with z | z
    ·exact hR _ (M7 _ z)
    ·exact z.1
   ·exact hR _ (M7 _ (bu.mpr ⟨m,q,hq,hc⟩))
 ·rcases Nd.mp hc with rfl | hc
  ·exact .inl Nb
  ·obtain⟨m,q,hq,hc⟩:=bu.mp hc;rcases sp m q hq with⟨_,rfl⟩ | ⟨_,hq⟩
   ·exact(old c hc).imp (λw=>M7 _ w) λz=>z.2
   ·exact .inl (M7 _ (bu.mpr ⟨m,q,hq,hc⟩))
theorem WS.Kz (i:Nat){Uw:List Stmt}(hΓ:Γ[i]?=some (.mu r []))(h:∀a,WS X Uw (Γ.set i (.ob (bN a []))) N T):WS X Uw Γ N T:=λσ H0 R0 H R E D dn dr=>by
 obtain⟨a,vs,ea,ha,hR,pp⟩:=E.ent i _ hΓ;cases pp
 refine h a σ H0 R0 H R (E.tell hΓ (by rw[ea];exact⟨⟨_,rfl,rfl,ha,(λn p q=>by simp at q),(λn m p q h1=>by simp at h1)⟩,λb hb=>by rw[M5.mp hb];exact hR⟩) λb w=>?_) D dn dr;have:b=a:=M5.mp w;rw[this];exact cv.mpr ea
theorem EJ (i:Nat){ap:Pos}{ys:List PV}(he:iR X e Γ (.lst ys) Γ1)(hΓ:Γ[i]?=some (.ob (bN a ps)))(hΓ1:Γ1[i]?=some (.ob (bN a ps)))(hz:ps.length<PZ)(h:∀b g,N (Γ1.set i (.ob (bN a (ps++[(ys,b,g)])))))(hN:X.N[i]?=some x:=by rfl)(hv:autoParam (cb X.env.scope x) Tv)(hd:Ti x:=by decide)(S9:Tz x:=by decide)(Uj:P9 (.Call (.Attribute (.Name x p1) "append" ap) [e] [] cp) none pos.line X.env=pure false:=by rfl)(Tc:P6 (.Name x p1) "append" X.env (eval (.Name x p1) X.env)=eval (.Name x p1) X.env:=by rfl)(TN:((P8 cp (PU [e] X.env)).all (λx=> !x.1)&&(Qy cp (Qm [] X.env)).all (λx=>x.1.isSome)
  &&decide ([e].length+([]:List Qc).length+(if([]:List Qc).isEmpty then 0 else 1)<30))=true:=by rfl)(Tb:(ap.endLine==cp.line)=true:=by rfl)(hs:PU [e] X.env=(false,eval e X.env)::PU [] X.env:=by rfl):W1 X (.Expr (.Call (.Attribute (.Name x p1) "append" ap) [e] [] cp) pos) Γ N T:=λσ H0 R0 H R E D dn dr=>by
 obtain⟨⟨v0,ea,rfl,k0⟩,_⟩:=E.ent i _ hΓ;refine sS (eo (iK RC RE RF jb (a8 hN hv hd S9) (aK aO bo hs) Tc TN Tb hs rfl) Uj) ?_;refine⟨.ref a,at_of ea,.inl ⟨rfl,_,aY.of k0.hd⟩,he σ H0 R0 H R E _ λv XZ H1 R1 E1 s1 t nd kz=>?_⟩;obtain⟨⟨v1,X3,rfl,k⟩,Wg⟩:=E1.ent i _ hΓ1;cases t with
 | @lst b vs _ g hb tt zz=>
 refine⟨a,_,.ref b,rfl,rfl,k.hd,by rw[M8];exact hz,?_⟩;have off:∀c∈b::g,c∉(a::dG ps):=λc hc w=>(kz c hc).2.2 i _ hΓ1 w;have sp:∀(m:Nat)(q:PT),(ps++[(ys,b,g)])[m]?=some q->(m=ps.length/\q=(ys,b,g))∨(m<ps.length/\ps[m]?=some q):=λm q hq=>by
  rcases O9 m ps.length with z | z
  ·rw[NF z] at hq;exact .inr ⟨z,hq⟩
  ·rw[Ny z] at hq;have:m-ps.length=0:=by
    have:=(M1.mp hq).1;rw[NG] at this;omega
   rw[this] at hq;exact .inl ⟨by omega,by simpa using hq.symm⟩
 have tb:cK (upd H1 a (.lst ((ps.map λp=>V.ref p.2.1)++[.ref b]))) (.ref b) (.lst ys) (b::g):=(cK.lst hb tt zz).loc λc hc=>aG λe=>off c hc (by rw[e];exact Nb);refine dn σ _ R1 _ (E1.ot (en:=.ob (bN a (ps++[(ys,b,g)]))) hΓ1 (a:=a) Nb ⟨⟨.ref a,X3,rfl,?_,λm q hq=>?_,λm1 m2 q1 q2 h1 h2 c c1 c2=>?_⟩,λc hc=>?_⟩ λc hc=>?_) s1 (h b g)
 ·rw[aF,Nn];rfl
 ·rcases sp m q hq with⟨_,rfl⟩ | ⟨_,hq⟩
  ·exact⟨tb,nd,λw=>off a w Nb⟩
  ·obtain⟨t1,t2,t3⟩:=k.pt m q hq;exact⟨t1.loc λc hc=>aG λe=>t3 (e▸hc),t2,t3⟩
 ·rcases sp m1 q1 h1 with⟨e1,rfl⟩ | ⟨_,h1⟩
  ·rcases sp m2 q2 h2 with⟨e2,rfl⟩ | ⟨_,h2⟩
   ·rw[e1,e2]
   ·exact SQ (M7 _ (bu.mpr ⟨m2,q2,h2,c2⟩)) (off c c1)
  ·rcases sp m2 q2 h2 with⟨e2,rfl⟩ | ⟨_,h2⟩
   ·exact SQ (M7 _ (bu.mpr ⟨m1,q1,h1,c1⟩)) (off c c2)
   ·exact k.dj m1 m2 q1 q2 h1 h2 c c1 c2
 ·rcases Nd.mp hc with rfl | hc
  ·exact Wg _ Nb
  ·obtain⟨m,q,hq,hc⟩:=bu.mp hc;rcases sp m q hq with⟨_,rfl⟩ | ⟨_,hq⟩
   ·exact(kz c hc).1
   ·exact Wg _ (M7 _ (bu.mpr ⟨m,q,hq,hc⟩))
 ·rcases Nd.mp hc with rfl | hc
  ·exact .inl Nb
  ·obtain⟨m,q,hq,hc⟩:=bu.mp hc;rcases sp m q hq with⟨_,rfl⟩ | ⟨_,hq⟩
   ·exact .inr (kz c hc).2
   ·exact .inl (M7 _ (bu.mpr ⟨m,q,hq,hc⟩))
theorem zZ (i j:Nat){y:Str}{b:Expr}{p p2:Pos}{k:Int}{q:PT}(hb:EV X b Γ ai k Γ1)(hΓ:Γ[i]?=some (.ob (bN a ps)))(hΓ1:Γ1[i]?=some (.ob (bN a ps)))(hk:gT ps.length k=some n)(hq:ps[n]?=some q)(h:N (Γ1.set j (.im dO q.2.1)))(hNx:X.N[i]?=some x:=by rfl)(hv:autoParam (cb X.env.scope x) Tv)(hd:Ti x:=by decide)(S9:Tz x:=by decide)(hsx:eQ b:=by exact λ_ _=>rfl)(hN:X.N.Nodup:=by first | assumption | decide)(hi:X.N[j]?=some y:=by rfl)(hx:autoParam (Loc X.env.scope y) UH)(hs:P9 (.Subscript (.Name x p) b p2) (some (.Name y p1)) pos.line X.env=pure false:=by rfl)(hf:autoParam (X.fn y=true∨X.env.scope.names.lookup y=some .local) UG):
 W1 X (.Assign [.Name y p1] (.Subscript (.Name x p) b p2) pos) Γ N T:=λσ H0 R0 H R E D dn dr=>by
 obtain⟨⟨v,ea,rfl,k0⟩,hR⟩:=E.ent i _ hΓ;refine sS (jV hN hi hx aO hs hf) (eS (iJ gQ (a8 hNx hv hd S9) aO hsx) ⟨.ref a,at_of ea,hb σ H0 R0 H R E _ λu H2 R2 E2 s2 e2=>?_⟩);obtain⟨⟨v,X2,rfl,k2⟩,Wf⟩:=E2.ent i _ hΓ1;refine⟨a,_,k,.ref q.2.1,rfl,e2,aY.of k2.hd,?_,?_⟩
 ·have e:(ps.map λp=>V.ref p.2.1)=(ps.map λp=>p.2.1).map V.ref:=by rw[NX];rfl
  rw[e];exact Fx (by rw[M8];exact hk) (by rw[Nc,hq];rfl)
 exact dn _ H2 R2 _ (E2.set j (r:=dO) (x:=q.2.1) rfl) s2 h
theorem Bo (i j:Nat){y:Str}{p:Pos}{q0:PT}(hm:X.mg "len"=none)(hΓ:Γ[i]?=some (.ob (bN a ps)))(hj:Γ[j]?=some (.im dO q0.2.1))(hq:ps[n]?=some q0)(hN:X.N[j]?=some y:=by rfl)(hv:autoParam (cb X.env.scope y) Tv)(hd:Ti y:=by decide)(S9:Tz y:=by decide)(hs:PU [.Name y p1] X.env=[(false,eval (.Name y p1) X.env)]:=by rfl)(hg:Gl X "len":=by rfl):EV X (.Call (.Name "len" p) [.Name y p1] [] pos) Γ ai (q0.1.length:Int) Γ:=λσ H0 R0 H R E Q q=>by
 obtain⟨⟨v,ea,rfl,k⟩,hR⟩:=E.ent i _ hΓ;obtain⟨v0,e0,U3⟩:=E.ent j _ hj;cases U3
 cases (k.pt n q0 hq).1 with
 | @lst _ vs _ _ hb tt zz=>
 refine eS (dX fV hg hm Qq (aK (a8 hN hv hd S9) bo hs) (by decide) (by decide) hs) ⟨.ref q0.2.1,at_of e0,_,_,rfl,.inl (aY.of hb),?_⟩;rw[tt.len];exact q _ H R E (ay.refl _) rfl
theorem bz.ins {H:Hp}{v:V}{y:PV}{fy:MG}(h:cK H v y fy):∀(k:Nat){vs:List V}{xs:List PV}{f:MG},bz H vs xs f->∃f1 f2,f=f1++f2/\bz H (bX k v vs) (bX k y xs) (f1++(fy++f2))
 | 0,vs,xs,f,t=>⟨[],f,rfl,(bz.cons h t:bz H (v::vs) (y::xs) (fy++f))⟩
 | k+1,_,_,_,.nil=>⟨[],[],rfl,(bz.cons h .nil:bz H [v] [y] (fy++[]))⟩
 | k+1,_,_,_,.cons (f:=f0) q t=>by
   obtain⟨f1,f2,e,t'⟩:=bz.ins h k t;refine⟨f0++f1,f2,by rw[e,Nl],?_⟩;rw[Nl];exact .cons q t'
theorem km {α:Type}(y:α):∀(k:Nat)(xs:List α),(bX k y xs).length=xs.length+1
 | 0,xs=>rfl
 | k+1,[]=>rfl
 | k+1,x::xs=>by show(bX k y xs).length+1=_;rw[km y k xs];rfl
theorem DA (i j:Nat){e1 e2:Expr}{ap:Pos}{q0:PT}{y:PV}{k:Int}(h1:EV X e1 Γ ai k Γ1)(h2:iR X e2 Γ1 y Γ2)(hΓ:Γ[i]?=some (.ob (bN a ps)))(hj:Γ[j]?=some (.im dO q0.2.1))(hq:ps[n]?=some q0)(hΓ2:Γ2[i]?=some (.ob (bN a ps)))(k0:0<=k)(k1:k<=(q0.1.length:Int))(hz:q0.1.length<PZ)(h:∀g,N (Γ2.set i (.ob (bN a (ps.set n (bX k.toNat y q0.1,q0.2.1,g))))))(hN:X.N[j]?=some x:=by rfl)(hv:autoParam (cb X.env.scope x) Tv)(hd:Ti x:=by decide)(S9:Tz x:=by decide)(Uj:P9 (.Call (.Attribute (.Name x p1) "insert" ap) [e1,e2] [] cp) none pos.line X.env=pure false:=by rfl)(Tc:P6 (.Name x p1) "insert" X.env (eval (.Name x p1) X.env)=eval (.Name x p1) X.env:=by rfl)(TN:((P8 cp (PU [e1,e2] X.env)).all (λx=> !x.1)&&(Qy cp (Qm [] X.env)).all (λx=>x.1.isSome)
  &&decide ([e1,e2].length+([]:List Qc).length+(if([]:List Qc).isEmpty then 0 else 1)<30))=true:=by rfl)(Tb:(ap.endLine==cp.line)=true:=by rfl)(hs:PU [e1,e2] X.env=(false,eval e1 X.env)::PU [e2] X.env:=by rfl)(TC:PU [e2] X.env=(false,eval e2 X.env)::PU [] X.env:=by rfl)(To:(P8 cp (PU [e2] X.env)).any (·.1)=false:=by rfl):
 W1 X (.Expr (.Call (.Attribute (.Name x p1) "insert" ap) [e1,e2] [] cp) pos) Γ N T:=λσ H0 R0 H R E D dn dr=>by
 obtain⟨⟨v,ea,rfl,kk⟩,hR⟩:=E.ent i _ hΓ;obtain⟨v0,e0,U3⟩:=E.ent j _ hj;cases U3
 obtain⟨ys,b,g⟩:=q0;cases (kk.pt n _ hq).1 with
 | @lst _ Xc _ _ hb0 tt0 zz0=>
 refine sS (eo (iK RC PySem.F.slot_list_insert PySem.F.type_list_insert y9 (a8 hN hv hd S9) (aK aO (aK aO bo TC) hs) Tc TN Tb hs To) Uj) ?_;refine⟨.ref b,at_of e0,.inl ⟨rfl,_,aY.of hb0⟩,h1 σ H0 R0 H R E _ λv1 H1 R1 E1 s1 r1=>h2 σ H0 R0 H1 R1 E1 _ λv2 fy H2 R2 E2 s2 t2 ndy ky=>?_⟩;cases r1
 obtain⟨⟨v,X2,rfl,k2⟩,Wf⟩:=E2.ent i _ hΓ2;obtain⟨tq,Xn,naq⟩:=k2.pt n _ hq;cases tq with
 | @lst _ vs _ _ hb tt zz=>
 obtain⟨nb,ndg⟩:=ND.mp Xn;refine⟨b,vs,k,v2,rfl,rfl,hb,k0,by rw[tt.len];exact k1,by rw[tt.len];exact hz,?_⟩;have VN:∀c∈fy,c∉b::g:=λc hc w=>(ky c hc).2.2 i _ hΓ2 (M7 _ (bu.mpr ⟨n,_,hq,w⟩));obtain⟨f1,f2,ef,ti⟩:=bz.ins (t2.loc (H':=upd H2 b (.lst (bX k.toNat v2 vs))) λc hc=>aG λe=>VN c hc (by rw[e];exact Nb)) k.toNat (tt.loc (H':=upd H2 b (.lst (bX k.toNat v2 vs))) λc hc=>aG λe=>nb (e▸hc));have ef:g=f1++f2:=ef;have nd':(f1++(fy++f2)).Nodup:=by
  rw[ef] at ndg;obtain⟨n1,n2,n3⟩:=NJ.mp ndg;refine NJ.mpr ⟨n1,NJ.mpr ⟨ndy,n2,λc hc d hd e=>VN c hc (by rw[e];exact M7 _ (by rw[ef];exact Nh _ hd))⟩,λc hc d hd e=>?_⟩;rcases Nj.mp hd with hd | hd
  ·exact VN d hd (by rw[← e];exact M7 _ (by rw[ef];exact Np _ hc))
  ·exact n3 c hc d hd e
 refine dn σ _ R2 _ (E2.BJ hΓ2 hq (.lst aF ti (by rw[km];exact hz)) (ND.mpr ⟨λw=>?_,nd'⟩) λc hc=>?_) (s1.trans s2) (h _)
 ·rcases Nj.mp w with w | w
  ·exact nb (by show b∈g;rw[ef];exact Np _ w)
  ·rcases Nj.mp w with w | w
   ·exact VN b w Nb
   ·exact nb (by show b∈g;rw[ef];exact Nh _ w)
 ·rcases Nj.mp hc with w | w
  ·exact .inl (by rw[ef];exact Np _ w)
  ·rcases Nj.mp w with w | w
   ·exact .inr (ky c w)
   ·exact .inl (by rw[ef];exact Nh _ w)
theorem sI {H:Hp}{K:Sk}:∀{ps:List PT},(∀p∈ps,cK H (.ref p.2.1) (.lst p.1) (dm p))->PySem.Paired ((ae ag).R K H) (ps.map λp=>V.ref p.2.1) (ps.map (·.1))
 | [],_=>.nil
 | p::ps,h=>.cons (by
    cases h p Nb with
    | @lst _ vs _ _ hb tt zz=>exact⟨_,vs,rfl,hb,tt.pK.pair,zz⟩) (sI λq hq=>h q (M7 _ hq))
theorem Jc {i:Nat}(hΓ:Γ[i]?=some (.ob (bN a ps)))(hz:ps.length<=PZ)(σ:St)(H0 R0 H R:Hp)(E:aw X.K σ H0 R0 H R Γ):aw X.K σ H H H H ((Γ.map m9).set i (.im (ae (ae ag)) (ps.map (·.1)))):=by
 obtain⟨⟨v,ea,rfl,k⟩,_⟩:=E.ent i _ hΓ;refine E.Ul.lN (i:=i) (e0:=.no) (by rw[Nc,hΓ];rfl) ⟨_,ea,a,_,rfl,k.hd,sI λp hp=>?_,by rw[M8];exact hz⟩ λb w=>by cases w
 obtain⟨n,hn⟩:=Nq.mp hp;exact(k.pt n p hn).1
def Ay (K:Sk)(r:Rep α)(P:α->List (List PV)->Prop):RT:=λH0 v H' R'=>∃p v1 a y ps,v= .ref p/\R' p=some (.tup [v1,.ref a])/\r.R K R' v1 y/\hJ H' a ps/\(∀b∈a::dG ps,H0 b=none/\R' b=none)/\P y (ps.map (·.1))
theorem Dn (i:Nat){z:Str}{k:Nat}{tp:Pos}{y:α}{P:α->List (List PV)->Prop}(he:EV X e Γ r y Γ1)(hΓ1:Γ1[i]?=some (.ob (bN a ps)))(h:P y (ps.map (·.1)))(hN:X.N[i]?=some z:=by rfl)(hv:autoParam (cb X.env.scope z) Tv)(hd:Ti z:=by decide)(S9:Tz z:=by decide)(h1:PU [e,.Name z p1] X.env=(false,eval e X.env)::PU [.Name z p1] X.env:=by rfl)(h2:PU [.Name z p1] X.env=(false,eval (.Name z p1) X.env)::PU [] X.env:=by rfl):W1 X (.Return (some (.Tuple [e,.Name z p1] k tp)) pos) Γ N (Ay X.K r P):=λσ H0 R0 H R E D dn dr=>by
 refine sS (jX (sy (aK aO (aK (a8 hN hv hd S9) bo h2) h1))) (he σ H0 R0 H R E _ λv H1 R1 E1 s1 e1=>?_);obtain⟨⟨v0,ea,rfl,kk⟩,hR⟩:=E1.ent i _ hΓ1;refine⟨.ref a,at_of ea,by show 2<=PZ;decide,λp hp=>?_⟩;have x:=Ext.fresh E1.sub hp (.tup [v,.ref a]);have E2:=E1.grow x;have nep:∀b∈a::dG ps,b≠p:=λb hb e=>by
  have:=(bN a ps).has (K:=X.K) (R0:=R1) ⟨rfl,kk⟩ b hb;rw[e,hp] at this;exact this rfl
 refine dr _ _ _ E2.ext ⟨p,v,a,y,ps,rfl,aF,r.mono x.r e1,?_,λb hb=>⟨E1.nw i _ b hΓ1 hb,?_⟩,h⟩
 ·exact((bN a ps).loc (K:=X.K) (R0:=R1) (R':=R1) (λb hb=>aG (nep b hb)) (ay.refl _) ⟨rfl,kk⟩).2
 ·rw[aG (nep b hb)];exact hR b hb
theorem Dv (i1 i2:Nat){S:dI}{f x1 x2:Str}{k:Nat}{es:MI}{p p2 tp:Pos}{ps:List Pk}{P:α->List (List PV)->Prop}(C:aM X.prog X.w X.K X.mg X.base f n (a9 S X.K))(hr:bI n X.A)(ha:HA X (e::es) Γ ps Γ1)(hS:S X.K ps (Ay X.K r P))(T9:i1≠i2)(h:∀a y qs,P y (qs.map (·.1))->N ((Γ1.set i1 (.im r y)).set i2 (.ob (bN a qs))))(hg:Gl X f:=by rfl)(TZ:Ti f:=by decide)(he:PU (e::es) X.env=(false,eval e X.env)::PU es X.env:=by rfl)(To:(P8 cp (PU es X.env)).any (·.1)=false:=by rfl)(hc:X.calm=true:=by rfl)(hN:X.N.Nodup:=by first | assumption | decide)(h1:X.N[i1]?=some x1:=by rfl)(l1:autoParam (Loc X.env.scope x1) UH)(f1:autoParam (X.fn x1=true∨X.env.scope.names.lookup x1=some .local) UG)(h2:X.N[i2]?=some x2:=by rfl)(l2:autoParam (Loc X.env.scope x2) UH)(f2:autoParam (X.fn x2=true∨X.env.scope.names.lookup x2=some .local) UG)(hs:QY [.Tuple [.Name x1 p1,.Name x2 p2] k tp] (.Call (.Name f p) (e::es) [] cp) pos.line X.env=pure false:=by rfl)(hw:QZ [.Tuple [.Name x1 p1,.Name x2 p2] k tp] (.Call (.Name f p) (e::es) [] cp) X.env=pure none:=by rfl)(ho:(QA [.Tuple [.Name x1 p1,.Name x2 p2] k tp] X.env).map (·.2)=[QB (.Tuple [.Name x1 p1,.Name x2 p2] k tp) X.env]:=by rfl):W1 X (.Assign [.Tuple [.Name x1 p1,.Name x2 p2] k tp] (.Call (.Name f p) (e::es) [] cp) pos) Γ N T:=λσ H0 R0 H R E D dn dr=>by
 refine sS (tP aO (sY hc (eW (fq hN h1 l1 f1) (eW (fq hN h2 l2 f2) pW))) hs hw ho) ?_;refine lU C hr ha hS E (λH1 R1 v H' R' E1 s1 xx t=>?_) hg TZ he To;obtain⟨q,v1,a,y,qs,rfl,hq,r1,kk,fr,hP⟩:=t;have E2:=E1.grow xx;refine⟨q,_,rfl,cC.of (E2.sub _ _ hq),rfl,_,_,rfl,_,_,rfl,rfl,?_⟩;refine dn _ H' R' _ (aw.setG (E2.set i1 (r:=r) r1) i2 (en:=.ob (bN a qs)) ⟨⟨_,rfl,rfl,kk⟩,λb hb=>(fr b hb).2⟩ (λb hb=>E1.ext.h.free (fr b hb).1) λb hb j e hj qj w=>?_) (s1.trans xx.r) (h a y qs hP);rcases set_at qj with⟨rfl,rfl,_⟩ | ⟨hj1,q1⟩
 ·cases w
 ·rw[Nt (Pr hj1)] at w;exact E1.off (fr b hb).1 j e q1 w
end
section
variable {H:Hp}
theorem vw:∀{ps:List PT},(dG ps).Nodup->(∀(n:Nat)(p:PT),ps[n]?=some p->(dm p).Nodup)/\∀(n m:Nat)(p q:PT),ps[n]?=some p->ps[m]?=some q->∀c∈dm p,c∈dm q->n=m
 | [],_=>⟨λn p h=>by simp at h,λn m p q h=>by simp at h⟩
 | r::ps,h=>by
   rw[show dG (r::ps)=dm r++dG ps from N2] at h;obtain⟨h1,h2,h3⟩:=NJ.mp h;obtain⟨i1,i2⟩:=vw h2;refine⟨λn p hn=>?_,λn m p q hn hm c hc hd=>?_⟩
   ·cases n with
    | zero=>have:r=p:=by simpa using hn
            rw[← this];exact h1
    | succ n=>exact i1 n p (by simpa using hn)
   ·cases n with
    | zero=>
      have e1:r=p:=by simpa using hn
      cases m with
      | zero=>rfl
      | succ m=>exact SQ rfl (h3 c (e1▸hc) c (bu.mpr ⟨m,q,by simpa using hm,hd⟩))
    | succ n=>cases m with
      | zero=>
        have e1:r=q:=by simpa using hm
        exact SQ rfl (h3 c (e1▸hd) c (bu.mpr ⟨n,p,by simpa using hn,hc⟩))
      | succ m=>rw[i2 n m p q (by simpa using hn) (by simpa using hm) c hc hd]
theorem vh:∀{ps:List PT},(∀(n:Nat)(p:PT),ps[n]?=some p->(dm p).Nodup)->(∀(n m:Nat)(p q:PT),ps[n]?=some p->ps[m]?=some q->∀c∈dm p,c∈dm q->n=m)->(dG ps).Nodup
 | [],_,_=>OI
 | r::ps,h,k=>by
   rw[show dG (r::ps)=dm r++dG ps from N2];refine NJ.mpr ⟨h 0 r rfl,vh (λn p hn=>h (n+1) p (by simpa using hn)) λn m p q hn hm c hc hd=>?_,λc hc d hd e=>?_⟩
   ·have:=k (n+1) (m+1) p q (by simpa using hn) (by simpa using hm) c hc hd;omega
   ·subst e;obtain⟨n,p,hn,hp⟩:=bu.mp hd;exact SQ (k 0 (n+1) r p rfl (by simpa using hn) c hc hp) (by omega)
theorem bz.parts:∀{vs:List V}{WX:List (List PV)}{g:MG},bz H vs (WX.map PV.lst) g->∃ps:List PT,vs=(ps.map λp=>.ref p.2.1)/\ps.map (·.1)=WX/\g=dG ps/\∀p∈ps,cK H (.ref p.2.1) (.lst p.1) (dm p)
 | _,[],_,.nil=>⟨[],rfl,rfl,rfl,λp h=>by cases h⟩
 | _,xs::WX,_,.cons q t=>by
   obtain⟨ps,h1,h2,h3,h4⟩:=bz.parts t;cases q with
   | @lst b vs _ f hb tt zz=>
   refine⟨(xs,b,f)::ps,by rw[h1];rfl,by rw[Nz,h2],by rw[h3];rfl,λp hp=>?_⟩;rcases Nd.mp hp with rfl | hp
   ·exact .lst hb tt zz
   ·exact h4 p hp
theorem wj {H:Hp}:∀{ps:List PT},(∀p∈ps,cK H (.ref p.2.1) (.lst p.1) (dm p))->bz H (ps.map λp=>.ref p.2.1) ((ps.map (·.1)).map PV.lst) (dG ps)
 | [],_=>.nil
 | p::ps,h=>bz.cons (h p Nb) (wj λq hq=>h q (M7 _ hq))
theorem cK.pl {b:Addr}{WX:List (List PV)}{g:MG}(h:cK H (.ref b) (.lst (WX.map PV.lst)) (b::g))(nd:(b::g).Nodup):∃ps:List PT,hJ H b ps/\ps.map (·.1)=WX/\g=dG ps:=by
 cases h with
 | @lst _ vs _ _ hb tt zz=>
 obtain⟨ps,h1,h2,h3,h4⟩:=tt.parts;obtain⟨n1,n2⟩:=ND.mp nd;rw[h3] at n1 n2;obtain⟨k1,k2⟩:=vw n2;exact⟨ps,⟨by rw[hb,h1],λn p hn=>⟨h4 p (Ng hn),k1 n p hn,λw=>n1 (bu.mpr ⟨n,p,hn,w⟩)⟩,k2⟩,h2,h3⟩
theorem hJ.tpv {b:Addr}{ps:List PT}(h:hJ H b ps)(hz:ps.length<=PZ):cK H (.ref b) (.lst ((ps.map (·.1)).map PV.lst)) (b::dG ps)/\(b::dG ps).Nodup:=by
 refine⟨.lst h.hd (wj λp hp=>?_) (by rw[M8,M8];exact hz),ND.mpr ⟨λw=>?_,vh (λn p hn=>(h.pt n p hn).2.1) h.dj⟩⟩
 ·obtain⟨n,hn⟩:=Nq.mp hp;exact(h.pt n p hn).1
 ·obtain⟨n,p,hn,hp⟩:=bu.mp w;exact(h.pt n p hn).2.2 hp
theorem bz.sub:∀{vs:List V}{xs:List PV}{f:MG}{m:Nat}{zs:List PV},bz H vs xs f->xs[m]?=some (.lst zs)->∃b g f1 f2,vs[m]?=some (.ref b)/\f=f1++((b::g)++f2)/\cK H (.ref b) (.lst zs) (b::g)/\∀(H':Hp)(W9:List PV),(∀d∈f1++f2,H' d=H d)->cK H' (.ref b) (.lst W9) (b::g)->bz H' vs (xs.set m (.lst W9)) f
 | _,_,_,m,zs,.nil,h=>by simp at h
 | _,_,_,0,zs,.cons (x:=x0) (f:=f) (g:=g) (vs:=vs) (xs:=xs) q t,h=>by
   have e:x0=PV.lst zs:=by simpa using h
   subst e;cases q with
   | @lst b ws _ f hb tt zz=>
   refine⟨b,f,[],g,rfl,rfl,.lst hb tt zz,λH' W9 hk tn=>?_⟩;exact bz.cons tn (t.loc λd hd=>hk d hd)
 | _,_,_,m+1,zs,.cons (f:=f) (g:=g) (vs:=vs) (xs:=xs) q t,h=>by
   obtain⟨b,g',f1,f2,h1,h2,h3,h4⟩:=bz.sub (m:=m) t (by simpa using h);refine⟨b,g',f++f1,f2,by simpa using h1,by rw[h2,Nl],h3,λH' W9 hk tn=>?_⟩;rw[List.set_cons_succ];exact bz.cons (q.loc λd hd=>hk d (Np _ (Np _ hd))) (h4 H' W9 (λd hd=>hk d (by
    rcases Nj.mp hd with w | w
    ·exact Np _ (Nh _ w)
    ·exact Nh _ w)) tn)
end
section
variable {x:Str}{p1 pos:Pos}{a:Addr}{ps:List PT}
theorem aw.B3 {K:Sk}{σ:St}{H0 R0 H R H' R':Hp}{i l:Nat}{B B' C C':mn}{D:MG}(E:aw K σ H0 R0 H R Γ)(Wb:i≠l)(hi:Γ[i]?=some (.ob B))(hl:Γ[l]?=some (.ob C))(hD:∀d∈D,d∈B.fp∨d∈C.fp)(x:Ext (ft H D) R H' R')(hB:(Ent.ob B').ok K H' R' (σ[i]?).join)(hC:(Ent.ob C').ok K H' R' (σ[l]?).join)(fB:∀b∈B'.fp,b∈B.fp)(fC:∀b∈C'.fp,b∈C.fp):aw K σ H0 R0 H' R' ((Γ.set i (.ob B')).set l (.ob C')):=by
 have out:∀{b:Addr},H0 b≠none->b∉D:=λ{b} h e=>(hD b e).elim (λw=>h (E.nw i _ b hi w)) λw=>h (E.nw l _ b hl w);have apart:∀(j:Nat)(e:Ent),j≠i->j≠l->Γ[j]?=some e->∀b∈e.fp (σ[j]?).join,b∉D:=λj e hj W4 qj b hb w=>(hD b w).elim (λz=>hj (E.ds j i e _ b qj hi hb z)) λz=>W4 (E.ds j l e _ b qj hl hb z);have key:∀(j:Nat)(e:Ent),((Γ.set i (.ob B')).set l (.ob C'))[j]?=some e->(j=l/\e= .ob C')∨(j=i/\e= .ob B')∨(j≠i/\j≠l/\Γ[j]?=some e):=λj e q=>by
  rcases set_at q with⟨rfl,rfl,_⟩ | ⟨hj,q1⟩
  ·exact .inl ⟨rfl,rfl⟩
  ·rcases set_at q1 with⟨rfl,rfl,_⟩ | ⟨W4,q2⟩
   ·exact .inr (.inl ⟨rfl,rfl⟩)
   ·exact .inr (.inr ⟨W4,hj,q2⟩)
 have own:∀(j:Nat)(e:Ent),((Γ.set i (.ob B')).set l (.ob C'))[j]?=some e->∃e0,Γ[j]?=some e0/\∀b∈e.fp (σ[j]?).join,b∈e0.fp (σ[j]?).join:=λj e q=>by
  rcases key j e q with⟨rfl,rfl⟩ | ⟨rfl,rfl⟩ | ⟨_,_,q1⟩
  ·exact⟨_,hl,fC⟩
  ·exact⟨_,hi,fB⟩
  ·exact⟨e,q1,λb hb=>hb⟩
 refine⟨⟨λb o q=>?_,E.ext.r.trans x.r,x.s,λb hb=>?_⟩,λj e q=>?_,λj e b q w=>?_,λj k e e' b q q' w w'=>?_,by rw[NT,NT];exact E.len⟩
 ·exact x.h b o (by rw[dz (out (by rw[q];exact Pu _))];exact E.ext.h b o q)
 ·refine(x.old b ?_).trans (E.ext.old b hb);rw[dz (out hb)];exact ay.some E.ext.h hb
 ·rcases key j e q with⟨rfl,rfl⟩ | ⟨rfl,rfl⟩ | ⟨hj,W4,q1⟩
  ·exact hC
  ·exact hB
  ·have h1:=E.ent j e q1;refine h1.loc (λb hb=>?_) x.r λb hb=>?_
   ·cases e2:H b with
    | none=>exact SQ e2 (Ent.eF h1 hb).1
    | some u=>exact x.h b u (by rw[dz (apart j e hj W4 q1 b hb)];exact e2)
   ·exact(x.old b (by rw[dz (apart j e hj W4 q1 b hb)];exact(Ent.eF h1 hb).1)).trans (Ent.eF h1 hb).2
 ·obtain⟨e0,q0,s0⟩:=own j e q;exact E.nw j e0 b q0 (s0 b w)
 ·obtain⟨e0,q0,s0⟩:=own j e q;obtain⟨e1,q1,s1⟩:=own k e' q';exact E.ds j k e0 e1 b q0 q1 (s0 b w) (s1 b w')
theorem Ed (i:Nat){tg:Expr}{body:List Stmt}{bf:Addr->Ga->Ga}(I:Nat->Ga->Prop)(hΓ:Γ[i]?=some (.ob (bN a ps)))(hb:BG X tg dO bf)(h0:I 0 Γ)(hI:∀k Γ,I k Γ->∃qs:List PT,Γ[i]?=some (.ob (bN a qs))/\qs.map (·.2)=ps.map (·.2))(T2:∀(k:Nat)(p:PT)(Γ:Ga),ps[k]?=some p->I k Γ->WS X body (bf p.2.1 Γ) (I (k+1)) T)(Uk:∀Γ:Ga,I ps.length Γ->N Γ)(hN:X.N[i]?=some x:=by rfl)(hv:autoParam (cb X.env.scope x) Tv)(hd:Ti x:=by decide)(S9:Tz x:=by decide)(hc:X.calm=true:=by rfl)(hp:QX (model X.prog X.w) X.A X.env X.xe:=by exact QX.never)(hs:∀y,Qi (.Name x p1) X.env y=pure y:=by intro _;rfl):W1 X (.For tg (.Name x p1) body [] pos) Γ N T:=λσ H0 R0 H R E D dn dr=>by
 obtain⟨⟨v,ea,rfl,k0⟩,hR⟩:=E.ent i _ hΓ;have roots:∀qs:List PT,qs.map (·.2)=ps.map (·.2)->(qs.map λp=>V.ref p.2.1)=ps.map λp=>V.ref p.2.1:=λqs h=>by
  have:=congrArg (List.map λz:Addr×MG=>V.ref z.1) h;rwa [NX,NX] at this
 refine sS (tE hp hc (qu (a8 hN hv hd S9)) GB ib hs) ⟨.ref a,at_of ea,a,rfl,⟨_,aY.of k0.hd⟩,?_⟩;refine⟨λk m σ' H'=>m=ps.length-k/\k<=ps.length/\∃R' Γ',aw X.K σ' H0 R0 H' R' Γ'/\ay R R'/\I k Γ',⟨_,rfl,O3 _,R,Γ,E,ay.refl _,h0⟩,?_⟩;rintro k m σ' H' ⟨rfl,hle,R',Γ',E',s',WT⟩;obtain⟨qs,hy,hqs⟩:=hI k Γ' WT;obtain⟨⟨v,T1,rfl,k1⟩,_⟩:=E'.ent i _ hy;have Ud:H' a=some (.lst (ps.map λp=>.ref p.2.1)):=by rw[k1.hd,roots qs hqs]
 by_cases Uc:k<ps.length
 ·have hk:(ps.map λp=>V.ref p.2.1)[k]?=some (.ref ps[k].2.1):=by rw[Nc,M4 Uc];rfl
  refine .inr ⟨⟨_,_,aY.of Ud,hk⟩,λσ' H'=>k+1<=ps.length/\∃R' Γ',aw X.K σ' H0 R0 H' R' Γ'/\ay R R'/\I (k+1) Γ',λσ2 H2 h=>⟨ps.length-(k+1),by omega,rfl,h.1,h.2⟩,λv H2 US=>?_⟩;obtain⟨rfl,US⟩:=US;have:=US _ (aY.of Ud);rw[hk] at this;cases this
  refine hb σ' H0 R0 H2 R' Γ' _ ps[k].2.1 E' rfl _ λσ2 E2=>?_;exact T2 k ps[k] Γ' (M4 Uc) WT σ2 H0 R0 H2 R' E2 _ (λσ3 H3 R3 Γ3 E3 s3 h3=>⟨Uc,R3,Γ3,E3,s'.trans s3,h3⟩) dr
 ·have e:k=ps.length:=by omega
  subst e;exact .inl ⟨⟨_,aY.of Ud,by rw[M8];exact O0 _⟩,dn σ' H' R' Γ' E' s' (Uk Γ' WT)⟩
theorem bz.at_ {H:Hp}:∀{vs:List V}{xs:List PV}{f:MG}{m:Nat}{y:PV},bz H vs xs f->xs[m]?=some y->∃v g,vs[m]?=some v/\cK H v y g
 | _,_,_,m,y,.nil,h=>by simp at h
 | _,_,_,0,y,.cons (x:=x0) q t,h=>by
   have e:x0=y:=by simpa using h
   exact⟨_,_,rfl,e▸q⟩
 | _,_,_,m+1,y,.cons q t,h=>by
   obtain⟨v,g,h1,h2⟩:=bz.at_ (m:=m) t (by simpa using h);exact⟨v,g,by simpa using h1,h2⟩
theorem bA (i j:Nat){p2:Pos}{jc:Nat}{q0:PT}{n m:Nat}{y:PV}(hΓ:Γ[i]?=some (.ob (bN a ps)))(hj:Γ[j]?=some (.im dO q0.2.1))(hq:ps[n]?=some q0)(hy:q0.1[m]?=some y)(hl:js y=true)(hN:X.N[j]?=some x:=by rfl)(hv:autoParam (cb X.env.scope x) Tv)(hd:Ti x:=by decide)(S9:Tz x:=by decide)(hs:eQ (.Constant (.int (m:Int)) jc p2):=by exact λ_ _=>rfl):EV X (.Subscript (.Name x p1) (.Constant (.int (m:Int)) jc p2) pos) Γ ag y Γ:=λσ H0 R0 H R E Q q=>by
 obtain⟨⟨v,ea,rfl,k⟩,hR⟩:=E.ent i _ hΓ;obtain⟨v0,e0,U3⟩:=E.ent j _ hj;cases U3
 cases (k.pt n q0 hq).1 with
 | @lst _ vs _ _ hb tt zz=>
 obtain⟨w,g,hw,tw⟩:=tt.at_ hy;refine eS (iJ gQ (a8 hN hv hd S9) (aO (e:=.Constant (.int (m:Int)) jc p2)) hs) ⟨.ref q0.2.1,at_of e0,(ev_int (i:=(m:Int)) (X:=X) (Γ:=Γ)) σ H0 R0 H R E _ λu H2 R2 E2 s2 e2=>?_⟩;obtain⟨⟨v,X2,rfl,k2⟩,Wf⟩:=E2.ent i _ hΓ;cases (k2.pt n q0 hq).1 with
 | @lst _ vs2 _ _ VY tt2 zz2=>
 obtain⟨w2,g2,hw2,tw2⟩:=tt2.at_ hy;refine⟨q0.2.1,vs2,(m:Int),w2,rfl,e2,aY.of VY,?_,?_⟩
 ·have ml:=(M1.mp hw2).1;rw[jT (by omega) (by omega),show((m:Nat):Int).toNat=m by omega];exact hw2
 ·refine q w2 H2 R2 E2 s2 ?_;cases tw2 with
  | str x=>exact .str x
  | int z=>exact .int z
  | lst _ _ _=>cases hl
theorem nr (i j:Nat){e:Expr}{ap cp:Pos}{q0:PT}{n:Nat}{y:PV}(he:EV X e Γ ag y Γ1)(hl:js y=true)(hΓ:Γ[i]?=some (.ob (bN a ps)))(hj:Γ[j]?=some (.im dO q0.2.1))(hq:ps[n]?=some q0)(hΓ1:Γ1[i]?=some (.ob (bN a ps)))(hz:q0.1.length<PZ)(h:N (Γ1.set i (.ob (bN a (ps.set n (q0.1++[y],q0.2.1,q0.2.2))))))(hN:X.N[j]?=some x:=by rfl)(hv:autoParam (cb X.env.scope x) Tv)(hd:Ti x:=by decide)(S9:Tz x:=by decide)(Uj:P9 (.Call (.Attribute (.Name x p1) "append" ap) [e] [] cp) none pos.line X.env=pure false:=by rfl)(Tc:P6 (.Name x p1) "append" X.env (eval (.Name x p1) X.env)=eval (.Name x p1) X.env:=by rfl)(TN:((P8 cp (PU [e] X.env)).all (λx=> !x.1)&&(Qy cp (Qm [] X.env)).all (λx=>x.1.isSome)
  &&decide ([e].length+([]:List Qc).length+(if([]:List Qc).isEmpty then 0 else 1)<30))=true:=by rfl)(Tb:(ap.endLine==cp.line)=true:=by rfl)(hs:PU [e] X.env=(false,eval e X.env)::PU [] X.env:=by rfl):W1 X (.Expr (.Call (.Attribute (.Name x p1) "append" ap) [e] [] cp) pos) Γ N T:=λσ H0 R0 H R E D dn dr=>by
 obtain⟨⟨v,ea,rfl,k⟩,hR⟩:=E.ent i _ hΓ;obtain⟨v0,e0,U3⟩:=E.ent j _ hj;cases U3
 obtain⟨ys,b,g⟩:=q0;cases (k.pt n _ hq).1 with
 | @lst _ Xc _ _ hb0 tt0 zz0=>
 refine sS (eo (iK RC RE RF jb (a8 hN hv hd S9) (aK aO bo hs) Tc TN Tb hs rfl) Uj) ?_;refine⟨.ref b,at_of e0,.inl ⟨rfl,Xc,aY.of hb0⟩,he σ H0 R0 H R E _ λu H1 R1 E1 s1 r1=>?_⟩;obtain⟨⟨v,X3,rfl,k1⟩,Wg⟩:=E1.ent i _ hΓ1;obtain⟨tq,Xn,naq⟩:=k1.pt n _ hq;cases tq with
 | @lst _ vs _ _ hb tt zz=>
 obtain⟨nb,ndg⟩:=ND.mp Xn;refine⟨b,vs,u,rfl,rfl,hb,by rw[tt.len];exact hz,?_⟩;refine dn σ _ R1 _ (E1.BJ hΓ1 hq (ws:=vs++[u]) ?_ Xn λc hc=>.inl hc) s1 h;have:=bz.app (tt.loc (H':=L2.upd H1 b (.lst (vs++[u]))) λc hc=>aG λe=>nb (e▸hc)) (bz.cons (kX (H':=L2.upd H1 b (.lst (vs++[u]))) r1 hl) .nil);rw[Nw,Nw] at this;exact .lst aF this (by rw[M9,NG];exact hz)
end
section
variable {R:Hp}{K:Sk}
theorem hJ.put {H H':Hp}{a:Addr}{ps:List PT}{n:Nat}{q0:PT}{ys:List PV}(k:hJ H a ps)(hn:ps[n]?=some q0)(hH:∀d∈a::dG ps,d∉dm q0->H' d=H d)(t:cK H' (.ref q0.2.1) (.lst ys) (dm q0)):hJ H' a (ps.set n (ys,q0.2.1,q0.2.2)):=by
 have nl:n<ps.length:=(M1.mp hn).1;have sp:∀(m:Nat)(q:PT),(ps.set n (ys,q0.2.1,q0.2.2))[m]?=some q->(m=n/\q=(ys,q0.2.1,q0.2.2))∨(m≠n/\ps[m]?=some q):=λm q h=>by
  by_cases e:n=m
  ·subst e;rw[Ni nl] at h;exact .inl ⟨rfl,(Option.some.inj h).symm⟩
  ·rw[Nt e] at h;exact .inr ⟨λz=>e z.symm,h⟩
 have fpe:∀(m:Nat)(q:PT),(ps.set n (ys,q0.2.1,q0.2.2))[m]?=some q->∃q',ps[m]?=some q'/\dm q=dm q':=λm q h=>by
  rcases sp m q h with⟨rfl,rfl⟩ | ⟨_,h⟩
  ·exact⟨q0,hn,rfl⟩
  ·exact⟨q,h,rfl⟩
 refine⟨?_,λm q hq=>?_,λm1 m2 q1 q2 h1 h2 c c1 c2=>?_⟩
 ·rw[hH a Nb (k.pt n q0 hn).2.2,k.hd];congr 2;refine Oo λm=>?_;rw[Nc,Nc];by_cases e:n=m
  ·subst e;rw[Ni nl,hn];rfl
  ·rw[Nt e]
 ·rcases sp m q hq with⟨rfl,rfl⟩ | ⟨hm,hq⟩
  ·exact⟨t,(k.pt _ q0 hn).2⟩
  ·obtain⟨t1,t2,t3⟩:=k.pt m q hq;exact⟨t1.loc λc hc=>hH c (M7 _ (bu.mpr ⟨m,q,hq,hc⟩)) λw=>hm (k.dj m n q q0 hq hn c hc w),t2,t3⟩
 ·obtain⟨p1,e1,f1⟩:=fpe m1 q1 h1;obtain⟨p2,e2,f2⟩:=fpe m2 q2 h2;exact k.dj m1 m2 p1 p2 e1 e2 c (f1▸c1) (f2▸c2)
theorem vZ {ps:List PT}{n:Nat}{q0:PT}{ys:List PV}(hn:ps[n]?=some q0):∀b∈a::dG (ps.set n (ys,q0.2.1,q0.2.2)),b∈a::dG ps:=λb hb=>by
 rcases Nd.mp hb with rfl | hb
 ·exact Nb
 ·obtain⟨m,q,hq,hc⟩:=bu.mp hb;refine M7 _ (bu.mpr ?_);by_cases e:n=m
  ·subst e;rw[Ni (M1.mp hn).1] at hq;cases Option.some.inj hq
   exact⟨n,q0,hn,hc⟩
  ·rw[Nt e] at hq;exact⟨m,q,hq,hc⟩
theorem Ext.keep {H H' R':Hp}{D:MG}(x:Ext (ft H D) R H' R'){d:Addr}(hd:d∉D)(hn:H d≠none):H' d=H d:=by
 cases e:H d with
 | none=>exact SQ e hn
 | some o=>exact x.h d o (by rw[dz hd];exact e)
def Rep.at_ {α:Type}(r:Rep α)(y:α):Rep Unit:=⟨λK R v _=>r.R K R v y,λs h=>r.mono s h⟩
abbrev jY:=List (Str×Rep Unit)
abbrev gu (fs:jY)(K:Sk)(R:Hp)(vs:List (Str×V)):Prop:=PySem.Paired (λ(z:Str×V)(f:Str×Rep Unit)=>z.1=f.1/\f.2.R K R z.2 ()) vs fs
theorem gu.mono {fs:jY}{R':Hp}{vs:List (Str×V)}(s:ay R R')(h:gu fs K R vs):gu fs K R' vs:=Paired.map (λ_ f ⟨a,b⟩=>⟨a,f.2.mono s b⟩) h
def oh:jY->Str->Option (Rep Unit)
 | [],_=>none
 | (g,x)::r,f=>if g=f then some x else oh r f
theorem gu.get {f:Str}{r:Rep Unit}:∀{fs:jY}{vs:List (Str×V)},gu fs K R vs->oh fs f=some r->∃v,vs.lookup f=some v/\r.R K R v ()
 | _,_,.nil,h=>by cases h
 | _,_,.cons (a:=z) (b:=p) h t,hg=>by
   obtain⟨g,x⟩:=p;obtain⟨g',v⟩:=z;obtain⟨e,hv⟩:=h;have e:g'=g:=e;subst e;rw[oh] at hg;rw[N5];by_cases q:g'=f
   ·rw[SS q] at hg;cases hg;subst q
    exact⟨v,by simp,hv⟩
   ·rw[SR q] at hg;rw[show(f==g')=false from beq_eq_false_iff_ne.mpr λz=>q z.symm];exact gu.get t hg
theorem gu.put {f:Str}{r:Rep Unit}{v:V}(hv:r.R K R v ()):∀{fs:jY}{vs:List (Str×V)},gu fs K R vs->oh fs f=none->gu (fs++[(f,r)]) K R (fA f v vs)
 | _,_,.nil,_=>.cons ⟨rfl,hv⟩ .nil
 | _,_,.cons (a:=z) (b:=p) h t,hg=>by
   obtain⟨g,x⟩:=p;obtain⟨g',u⟩:=z;obtain⟨e,hu⟩:=h;have e:g'=g:=e;subst e;rw[oh] at hg;rw[fA];by_cases q:g'=f
   ·rw[SS q] at hg;cases hg
   ·rw[SR q] at hg ⊢;exact .cons ⟨rfl,hu⟩ (gu.put hv t hg)
def gL (C:Addr):LK jY where
 bx l fs:=⟨l,λK H R v=>∃x dx vs,l=[x,dx]/\v= .ref x/\H x=some (.ins C dx vs)/\H dx=some (.own x)/\gu fs K R vs/\x≠dx,λ{K H R0 H' R' v} e s ⟨x,dx,vs,el,ev,h1,h2,h3,nd⟩=>by
  subst el;exact⟨x,dx,vs,rfl,ev,(e x (by simp)).trans h1,(e dx (by simp)).trans h2,h3.mono s,nd⟩,λ{K H R0 v} ⟨x,dx,vs,el,ev,h1,h2,h3,nd⟩ a ha=>by
  subst el;rcases Nd.mp ha with rfl | ha
  ·rw[h1];exact Pu _
  ·rw[M5.mp ha,h2];exact Pu _⟩
 fp:=λ_ _=>rfl
 at_:=λ⟨x,dx,vs,el,ev,_⟩=>⟨x,[dx],el,ev⟩
end
section
theorem xX {C x dx:Addr}{fs:jY}{K:Sk}{H R:Hp}{o:Option V}(h:(Ent.ob ((gL C).bx [x,dx] fs)).ok K H R o):o=some (.ref x)/\uH R [x,dx]/\∃vs,H x=some (.ins C dx vs)/\H dx=some (.own x)/\gu fs K R vs/\x≠dx:=by
 obtain⟨e,hB,hR⟩:=zE (B:=gL C) h;obtain⟨x',dx',vs,el,ev,h1,h2,h3,nd⟩:=hB;cases el
 exact⟨e,hR,vs,h1,h2,h3,nd⟩
theorem lL (i:Nat){m f:Str}{p1 pos:Pos}{C x dx:Addr}{fs:jY}{r:Rep α}{y:α}{ns:ME}(hC:bH X.K C ns)(hf:f∈ns)(hΓ:Γ[i]?=some (.ob ((gL C).bx [x,dx] fs)))(h:oh fs f=some (r.at_ y))(hN:X.N[i]?=some m:=by rfl)(hv:autoParam (cb X.env.scope m) Tv)(hd:Ti m:=by decide)(S9:Tz m:=by decide)(hb:P6 (.Name m p1) f X.env (eval (.Name m p1) X.env)=eval (.Name m p1) X.env:=by rfl):EV X (.Attribute (.Name m p1) f pos) Γ r y Γ:=λσ H0 R0 H R E Q q=>by
 obtain⟨ea,hR,vs,h1,h2,h3,nd⟩:=xX (E.ent i _ hΓ);obtain⟨v,hl,UM⟩:=h3.get h;exact eS (t8 (a8 hN hv hd S9) hb) ⟨.ref x,at_of ea,x,C,dx,vs,v,rfl,h1,hC.cl,hC.no f hf,hl,q v H R E (ay.refl _) UM⟩
theorem g9 (i:Nat){m f:Str}{e:Expr}{p1 ap pos:Pos}{C x dx:Addr}{fs:jY}{ns:ME}{r:Rep α}{y:α}(hC:bH X.K C ns)(hf:f∈ns)(he:EV X e Γ r y Γ1)(hΓ1:Γ1[i]?=some (.ob ((gL C).bx [x,dx] fs)))(h:oh fs f=none)(hz:fs.length<1000)(hn:N (Γ1.set i (.ob ((gL C).bx [x,dx] (fs++[(f,r.at_ y)])))))(hN:X.N[i]?=some m:=by rfl)(hv:autoParam (cb X.env.scope m) Tv)(hd:Ti m:=by decide)(S9:Tz m:=by decide)(Uj:P9 e (some (.Attribute (.Name m p1) f ap)) pos.line X.env=pure false:=by rfl):W1 X (.Assign [.Attribute (.Name m p1) f ap] e pos) Γ N T:=λσ H0 R0 H R E D dn dr=>
 sS (Ho (a8 hN hv hd S9) aO Uj) (he σ H0 R0 H R E _ λv H1 R1 E1 s1 e1=>by
  obtain⟨ea,hR,vs,h1,h2,h3,nd⟩:=xX (E1.ent i _ hΓ1);refine⟨.ref x,at_of ea,x,C,dx,vs,rfl,h1,hC.cl,hC.no f hf,by rw[h3.length];exact hz,?_⟩;refine dn σ _ R1 _ (E1.ot (en:=.ob ((gL C).bx [x,dx] (fs++[(f,r.at_ y)]))) hΓ1 (a:=x) (by show x∈[x,dx];simp) ?_ λb hb=>.inl hb) s1 hn;rw[ea];exact x6 (B:=gL C) ⟨x,dx,_,rfl,rfl,aF,by rw[aG (Pr nd)];exact h2,gu.put (r:=r.at_ y) e1 h3 h,nd⟩ hR)
abbrev xN:=Sk->Addr->List Pk->(jY->Prop)->Prop
def vi (S:xN)(K:Sk):Sp:=λvs H Q _=>∃R x dx C TK ps Pd,vs= .ref x::TK/\ay R H/\uH R [x,dx]/\((gL C).bx [x,dx] []).R K H R (.ref x)/\kA K R TK ps/\S K C ps Pd/\
 ∀H' R' fs,Ext (ft H [x,dx]) R H' R'->((gL C).bx [x,dx] fs).R K H' R' (.ref x)->uH R' [x,dx]->Pd fs->Q .Tf H'
variable {P:P2}{w:World}{K:Sk}{mg:MA}{base:Heap}
theorem z7 {S:xN}{x qual:Str}{st:Stmt}{f:Addr}{fd:Qa}{N ps:ME}{k:Nat}(F:dQ K x qual st f fd)(Sc:aN N ps (ao st))(len:∀C qs Pd,S K C qs Pd->qs.length+1=ps.length)(TB:∀(S6:Value)(A:P7)(outer:List Env)(s:PX)(H:Hp)(E:XK)(C a dx:Addr)(qs:List Pk)(Pd:jY->Prop),bI k (A.deeper (PK qual (ao st) s.heap.objs.size f S6))->S K C qs Pd->
  WS (eN d8 P w K mg base N qual (ao st) f S6 A outer s H E).iq (br st) (.ob ((gL C).bx [a,dx] [])::fO qs (N.length-1)) (λΓ=>∃fs,Γ[0]?=some (.ob ((gL C).bx [a,dx] fs))/\Pd fs) (λ_ _ _ _=>False)):d6 P w K mg base d8 (k+1) f fd ps (vi S K):=by
 refine F.ok Sc (λvs H Q E h=>?_) (λS6 A outer s H vs Q E hr h=>?_)
 ·obtain⟨R,a,dx,C,TK,qs,Pd,rfl,_,_,_,p,hS,_⟩:=h;rw[Nf,p.length];exact len C qs Pd hS
 ·obtain⟨R,a,dx,C,TK,qs,Pd,rfl,sR,hR,hB,p,hS,q⟩:=h;have hl:qs.length+1<=N.length:=by
   rw[len C qs Pd hS];have:=congrArg List.length Sc.pre;rw[Nu] at this;omega
  refine⟨_,ib,TB S6 A outer s H E C a dx qs Pd hr hS (L2.start N (.ref a::TK)) (ft H [a,dx]) R H R (xn (B:=gL C) sR hR hB p hl) {nx:=λ_ H'=>Q .Tf H',rt:=Q} (λσ' H' R' Γ' E' _ ⟨fs,hΓ,t⟩=>?_) λv H' R' xx t=>t.elim⟩;obtain⟨ea,hB',T7⟩:=zE (B:=gL C) (E'.ent 0 _ hΓ);exact q H' R' fs E'.ext hB' T7 t
theorem vG {S:xN}{c:Str}{k:Nat}{e:Expr}{es:MI}{p pos:Pos}{ps:List Pk}{Pd:jY->Prop}{C f:Addr}{fd:Qa}{pn:ME}{rr:Rep α}{z:α}(M:Mk X.K C f)(F:d6 X.prog X.w X.K X.mg X.base d8 k f fd pn (vi S X.K))(hr:bI (k+1) X.A)(hm:X.mg c=some (.ref C))(hb:Binds X.K fd pn [])(ha:HA X (e::es) Γ ps Γ1)(hS:S X.K C ps Pd)(hz:∀(fs:jY)(R:Hp)(x dx:Addr)(vs:List (Str×V)),Pd fs->gu fs X.K R vs->R x=some (.ins C dx vs)->rr.R X.K R (.ref x) z)(hg:Gl X c:=by rfl)(TZ:Ti c:=by decide)(he:PU (e::es) X.env=(false,eval e X.env)::PU es X.env:=by rfl)(To:(P8 pos (PU es X.env)).any (·.1)=false:=by rfl):
 EV X (.Call (.Name c p) (e::es) [] pos) Γ rr z Γ1:=λσ H0 R0 H R E Q q=>
 eS (Eg M F hr hg hm hb .nil kj me TZ he To) (ha σ H0 R0 H R E _ λvs H1 R1 E1 s1 p1 x dx hx hdx T9=>by
  have hd1:∀b,ft (upd (upd H1 dx (.own x)) x (.ins C dx [])) [x,dx] b=H1 b:=λb=>by
   by_cases hb:b∈[x,dx]
   ·rw[jA hb];rcases Nd.mp hb with rfl | hb
    ·exact hx.symm
    ·rw[M5.mp hb];exact hdx.symm
   ·rw[dz hb];simp at hb;rw[aG hb.1,aG hb.2]
  have hR:uH R1 [x,dx]:=λb hb=>by
   rcases Nd.mp hb with rfl | hb
   ·exact E1.sub.free hx
   ·rw[M5.mp hb];exact E1.sub.free hdx
  refine⟨R1,x,dx,C,vs,ps,Pd,by rw[Nw],λb o q=>?_,hR,⟨x,dx,[],rfl,rfl,aF,by rw[aG T9,aF],.nil,Pr T9⟩,p1,hS,λH' R' fs xx hB T7 hP=>⟨rfl,?_⟩⟩
  ·have b1:b≠x:=λe=>by rw[e,hR x (by simp)] at q;cases q
   have b2:b≠dx:=λe=>by rw[e,hR dx (by simp)] at q;cases q
   rw[aG b1,aG b2];exact E1.sub b o q
  ·rw[show ft (upd (upd H1 dx (.own x)) x (.ins C dx [])) [x,dx]=H1 from funext hd1] at xx;obtain⟨x',dx',ws,el,ev,h1,h2,h3,nd⟩:=hB;cases el
   have E2:=E1.grow xx;have E3:=E2.oG h2 (T7 dx (by simp)) (E1.ext.h.free hdx) (E1.off hdx);have sd:ay R' (upd R' dx (.own x)):=ay.fresh (T7 dx (by simp)) _;have hRx:upd R' dx (.own x) x=none:=by rw[aG nd];exact T7 x (by simp)
   have E4:=E3.oG h1 hRx (E1.ext.h.free hx) (E1.off hx);have sx:=sd.trans (ay.fresh hRx (.ins C dx ws));exact q (.ref x) H' _ E4 ((s1.trans xx.r).trans sx) (hz fs _ x dx ws hP (h3.mono sx) aF))
theorem jk {e:Expr}{f:Str}{pos:Pos}{C:Addr}{ns:ME}{rr:Rep α}{z:α}{r:Rep β}{y:β}(hC:bH X.K C ns)(hf:f∈ns)(he:EV X e Γ rr z Γ1)(hz:∀(K:Sk)(R:Hp)(v:V),rr.R K R v z->∃x dx vs u,v= .ref x/\R x=some (.ins C dx vs)/\vs.lookup f=some u/\r.R K R u y)(hb:P6 e f X.env (eval e X.env)=eval e X.env:=by rfl):EV X (.Attribute e f pos) Γ r y Γ1:=λσ H0 R0 H R E Q q=>
 eS (t8 aO hb) (he σ H0 R0 H R E _ λv H1 R1 E1 s1 e1=>by
  obtain⟨x,dx,vs,u,rfl,h1,h2,h3⟩:=hz _ _ _ e1;exact⟨x,C,dx,vs,u,rfl,E1.sub _ _ h1,hC.cl,hC.no f hf,h2,q u H1 R1 E1 s1 h3⟩)
end
section
variable {x:Str}
theorem sQ:∀{ws:ME}{S5:MH},Vals (ws.map V.str) S5->∃l:List (Str×Tok),S5=Q5 l/\l.map (·.1)=ws
 | [],_,.nil=>⟨[],rfl,rfl⟩
 | w::ws,_,.cons h t=>by
   obtain⟨k,rfl⟩:=h;obtain⟨l,rfl,e⟩:=sQ t;exact⟨(w,k)::l,rfl,by rw[Nz,e]⟩
theorem tT:∀(l:List (Str×Tok)),Vals ((l.map (·.1)).map V.str) (Q5 l)
 | []=>.nil
 | (w,k)::l=>.cons ⟨k,rfl⟩ (tT l)
theorem Ew:xK X "str.join" (λx xs H Q=>∃(z:Str)(a:Addr)(ws:ME),x= .str z/\xs=[.ref a]/\H a=some (.lst (ws.map V.str))/\JoinOk z ws=true/\Q (.str (Txt.join z ws)) H):=by
 intro S3 s σ H x xs v us Q I rx r h;obtain⟨z,a,ws,rfl,rfl,hH,S8,q⟩:=h;obtain⟨t,rfl⟩:=rx;obtain⟨u,rfl,ru⟩:=r.one;cases ru
 obtain⟨hz,S5,n,r1,hl,e⟩:=I.lO hH;obtain⟨l,rfl,el⟩:=sQ r1;exact PySem.SC.join ⟨_,e,rfl,_,rfl⟩ el S8 λt' k=>⟨.str _,H,I.tok _,⟨_,rfl⟩,q⟩
theorem zV {y:Str}{t u:Tok}{prog:P2}{w:World}{A:P7}{E:Value->PX->Prop}{s:PX}{Q:Value->PX->Prop}(hy:(y.length==0)=false)(hsz:x.length<=PZ)(hsz2:(Sb x y).length<=PZ)(hq:∀(l:List (Str×Tok))(k:Nat)(n:Nat),l.map (·.1)=Sb x y->Q (.ref s.heap.objs.size) {s with toks:=k,heap:=s.heap.push {cls:=.type "list",data:=.seq (Q5 l).toArray n}}):
 wpAny (model prog w) A (call (.builtin "str.split") [.str x t,.str y u]) Q E s:=by
 cases h1:(decide (x.length<y.length) ||decide (Rc.Str.strKind x<Rc.Str.strKind y))
 ·cases hf:(Rc.Str.occurrences x y 0 x.length (x.length+1)).isEmpty
  ·have es:Sb x y=Rc.Str.partsBetween x (Rc.Str.occurrences x y 0 x.length (x.length+1)) y.length:=(SR (ne_true_of_eq_false h1)).trans (SR (ne_true_of_eq_false hf));refine QD RL (QQ _ _ _) RK (RJ _ _) (meets_str_split_sep x y t u h1 hy hf hsz (by rw[← es];exact hsz2)) ?_;show wants Q E _ {s with toks:=_,heap:=s.heap.push {cls:=.type "list",data:=.seq (strsFrom s.toks (Rc.Str.partsBetween x (Rc.Str.occurrences x y 0 x.length (x.length+1)) y.length)).toArray}};rw[strsFrom_eq];exact hq (numbered s.toks _) _ _ ((numbered_texts _ _).trans es.symm)
  ·exact QD RL (QQ _ _ _) RK (RJ _ _) (meets_str_split_not_found x y t u h1 hy hf)
    (hq [(x,t)] s.toks _ ((SR (ne_true_of_eq_false h1)).trans (SS hf)).symm)
 ·exact QD RL (QQ _ _ _) RK (RJ _ _) (meets_str_split_cannot_occur x y t u h1)
   (hq [(x,t)] s.toks _ (SS h1).symm)
theorem Bv:xK X "str.split" (λx xs H Q=>∃z y:Str,x= .str z/\xs=[.str y]/\(y.length==0)=false/\z.length<=PZ/\(Sb z y).length<=PZ/\∀a,H a=none->Q (.ref a) (upd H a (.lst ((Sb z y).map V.str)))):=by
 intro S3 s σ H x xs v us Q I rx r h;obtain⟨z,y,rfl,rfl,hy,hz,Xs,q⟩:=h;obtain⟨t,rfl⟩:=rx;obtain⟨u,rfl,ru⟩:=r.one;obtain⟨tu,rfl⟩:=ru;refine zV hy hz Xs λl k n el=>?_;have I1:Inv X S3 σ H {s with toks:=k,heap:=s.heap.push {cls:=.type "list",data:=.seq (Q5 l).toArray n}}:=I.kept (t':=k) λb o e=>RM _ e;have hn:H s.heap.objs.size=none:=I.fresh;refine⟨.ref s.heap.objs.size,_,adopt (o:=.lst ((Sb z y).map V.str)) I1 (I.gm (O0 _) hn) I.sz ⟨?_,Q5 l,n,?_,RP _ rfl⟩,rfl,q _ hn⟩
 ·rw[M8];exact Xs
 ·rw[← el];exact tT l
theorem DM {a e:Expr}{ap cp:Pos}{ws:ME}(ha:EV X a Γ aj x Γ1)(he:EV X e Γ1 (ae aj) ws Γ2)(S8:JoinOk x ws=true)(Tc:P6 a "join" X.env (eval a X.env)=eval a X.env:=by rfl)(TN:((P8 cp (PU [e] X.env)).all (λx=> !x.1)&&(Qy cp (Qm [] X.env)).all (λx=>x.1.isSome)
  &&decide ([e].length+([]:List Qc).length+(if([]:List Qc).isEmpty then 0 else 1)<30))=true:=by rfl)(Tb:(ap.endLine==cp.line)=true:=by rfl)(hs:PU [e] X.env=(false,eval e X.env)::PU [] X.env:=by rfl):EV X (.Call (.Attribute a "join" ap) [e] [] cp) Γ aj (Txt.join x ws) Γ2:=by
 intro σ H0 R0 H R E Q q;refine eS (iK PySem.F.plainAttrs_str PySem.F.slot_str_join PySem.F.type_str_join Ew aO (aK aO bo hs) Tc TN Tb hs rfl) (ha σ H0 R0 H R E _ λv H1 R1 E1 s1 e1=>?_);cases e1
 refine⟨rfl,he σ H0 R0 H1 R1 E1 _ λu H2 R2 E2 s2 e2=>?_⟩;obtain⟨b,vs,rfl,hb,pp,hz⟩:=e2;have ev:=nh pp;subst ev;exact⟨x,b,ws,rfl,rfl,E2.sub _ _ hb,S8,q _ H2 R2 E2 (s1.trans s2) rfl⟩
theorem nF {K:Sk}{R:Hp}:∀ws:ME,PySem.Paired (aj.R K R) (ws.map V.str) ws
 | []=>.nil
 | _::r=>.cons rfl (nF r)
theorem yH {a e:Expr}{ap cp:Pos}{y:Str}(ha:EV X a Γ aj x Γ1)(he:EV X e Γ1 aj y Γ2)(hy:(y.length==0)=false)(hz:x.length<=PZ)(Xs:(Sb x y).length<=PZ)(Tc:P6 a "split" X.env (eval a X.env)=eval a X.env:=by rfl)(TN:((P8 cp (PU [e] X.env)).all (λx=> !x.1)&&(Qy cp (Qm [] X.env)).all (λx=>x.1.isSome)
  &&decide ([e].length+([]:List Qc).length+(if([]:List Qc).isEmpty then 0 else 1)<30))=true:=by rfl)(Tb:(ap.endLine==cp.line)=true:=by rfl)(hs:PU [e] X.env=(false,eval e X.env)::PU [] X.env:=by rfl):bg X (.Call (.Attribute a "split" ap) [e] [] cp) Γ aj (Sb x y) Γ2:=by
 intro σ H0 R0 H R E Q q;refine eS (iK PySem.F.plainAttrs_str PySem.F.slot_str_split PySem.F.type_str_split Bv aO (aK aO bo hs) Tc TN Tb hs rfl) (ha σ H0 R0 H R E _ λv H1 R1 E1 s1 e1=>?_);cases e1
 refine⟨rfl,he σ H0 R0 H1 R1 E1 _ λu H2 R2 E2 s2 e2=>?_⟩;cases e2
 exact⟨x,y,rfl,rfl,hy,hz,Xs,λd hd=>q d _ _ R2 (E2.grow (Ext.eC E2.sub hd _)) (s1.trans s2) aF (E2.sub.free hd) (E2.ext.h.free hd) (E2.off hd) (nF _) Xs⟩
end
section
variable {tg:Expr}
theorem tU {c:Nat}:∀{a b x y:List Nat},c∉a->c∉b->a++c::x=b++c::y->a=b/\x=y
 | [],[],_,_,_,_,h=>⟨rfl,(List.cons.inj h).2⟩
 | [],d::b,_,_,_,hb,h=>SQ (List.cons.inj h).1 (λe=>hb (e▸Nb))
 | d::a,[],_,_,ha,_,h=>SQ (List.cons.inj h).1 (λe=>ha (e▸Nb))
 | d::a,e::b,x,y,ha,hb,h=>by
   obtain⟨h1,h2⟩:=List.cons.inj h;obtain⟨q1,q2⟩:=tU (λz=>ha (M7 _ z)) (λz=>hb (M7 _ z)) h2;exact⟨by rw[h1,q1],q2⟩
theorem tI {c:Nat}{a b y:List Nat}(ha:c∉a)(h:a=b++c::y):False:=ha (by rw[h];exact Nh _ Nb)
theorem v7 (x y:Str):(x++y).cps.toList=x.cps.toList++y.cps.toList:=by show(x.cps++y.cps).toList=_;simp
theorem lZ (c:Nat)(x y:Str)(r:ME):(R9 ⟨#[c]⟩ (x::y::r)).cps.toList=x.cps.toList++c::(R9 ⟨#[c]⟩ (y::r)).cps.toList:=by
 rw[R9,v7,v7];simp;intro h;cases h
theorem vP {x y:Str}(h:x.cps.toList=y.cps.toList):x=y:=by
 cases x;cases y
 congr 1;exact Array.toList_inj.mp h
theorem sj {c:Nat}:∀{ws us:ME},ws≠[]->us≠[]->(∀w∈ws,c∉w.cps.toList)->(∀u∈us,c∉u.cps.toList)->(R9 ⟨#[c]⟩ ws).cps.toList=(R9 ⟨#[c]⟩ us).cps.toList->ws=us
 | [],_,h,_,_,_,_=>SQ rfl h
 | _,[],_,h,_,_,_=>SQ rfl h
 | [x],[y],_,_,_,_,h=>by rw[show x=y from vP h]
 | [x],y::z::r,_,_,hx,_,h=>by
   rw[lZ] at h;exact SQ h λh=>tI (hx x Nb) h
 | x::z::r,[y],_,_,_,hy,h=>by
   rw[lZ] at h;exact SQ h.symm λh=>tI (hy y Nb) h
 | x::x2::r,y::y2::q,_,_,hx,hy,h=>by
   rw[lZ,lZ] at h;obtain⟨h1,h2⟩:=tU (hx x Nb) (hy y Nb) h;rw[vP h1,sj (List.cons_ne_nil _ _) (List.cons_ne_nil _ _) (λw hw=>hx w (M7 _ hw)) (λw hw=>hy w (M7 _ hw)) h2]
theorem xc {c:Nat}{ws:ME}(h:ws≠[])(hf:∀w∈ws,c∉w.cps.toList):Sb (R9 ⟨#[c]⟩ ws) ⟨#[c]⟩=ws:=by
 refine sj (c:=c) (λe=>?_) h (StrLaws.split_free _ c) hf (by rw[StrLaws.join_split]);have:=split_pos (R9 ⟨#[c]⟩ ws) ⟨#[c]⟩;rw[e] at this;exact SQ this (by decide)
theorem Br:(" ":Str)=⟨#[32]⟩:=by decide +kernel
theorem vE (x:Str)(ws:ME):Txt.join x ws=R9 x ws:=StrLaws.glued_eq_join x ws
def LG (x:Str):It:=⟨λi _=>i<x.cps.size,λi H v H'=>H'=H/\v= .str (kG x i),λi _=>x.cps.size<=i⟩
theorem Aq {P:P2}{w:World}{K:Sk}(x:Str)(t:Tok)(it:Addr):Turn P w K tg (LG x) [it] it (λi h=>h.IsStrIter it "str_ascii_iterator" x t i) where
 mem:=by simp
 obj:=λi h st b hb=>by
  have e:b=it:=by simpa using hb
  subst e;obtain⟨o,e,c,d⟩:=st;exact⟨o,e,λv z=>by rw[d] at z;cases z⟩
 keep:=λi h h' st k=>by
  obtain⟨o,e,r⟩:=st;exact⟨o,k it (by simp) o e,r⟩
 item:=by
  intro X hP hw hK hc i S3 s σ H E I hf st hg;subst hP hw hK;obtain⟨f0,f1,f2,f3,f4,f5⟩:=hf it (by simp);have W:=Walks.strAscii (prog:=X.prog) (w:=X.w) (I.ok.hd hc) it x t;refine W.item i s _ _ hg st λv h' tk hv UY kk=>?_;obtain⟨c,u,hx,rfl⟩:=hv;have I1:Inv X S3 σ H {s with heap:=h',toks:=tk}:=I.turned (λb o hb e=>kk b o (by simpa using hb) e) f0 f1 f3 f4 f5;obtain⟨o,e,cc,d⟩:=id UY;have Vl:kG x i=⟨#[c]⟩:=by unfold kG;rw[show x.cps.getD i 0=c by rw[Array.getD_eq_getD_getElem?,hx];rfl]
  exact⟨_,rfl,mW (s:={s with heap:=h',toks:=tk}) e cc d (by decide) ⟨.str (kG x i),H,I1,⟨u,by rw[Vl]⟩,⟨rfl,rfl⟩,UY,λb hb=>(hf b hb).1⟩⟩
 done:=by
  intro X hP hw hK hc i S3 s σ H E I hf st hg;subst hP hw hK;obtain⟨f0,f1,f2,f3,f4,f5⟩:=hf it (by simp);exact wpAny_pyNext_ascii_end (I.ok.hd hc) st (by have:x.cps.size<=i:=hg;simp[this]) λh' eb=>⟨rfl,I.turned (t':=s.toks) (λb o hb e=>eb b o hb e) f0 f1 f3 f4 f5⟩
 self:=λ_ _ _ _ _ st h=>wpAny_pyIter_striter_ascii st h
def LM (tl:TE):TI:=λσ H R=>tl σ H λx H1=>∃z:Str,x= .str z/\z.cps.all (· < 128)=true/\R (LG z) H1
theorem HG {X:Cx}{l:Expr}{tl:TE}(hl:PE X l tl):PI X tg l (LM tl):=by
 intro S3 s σ H R I h;refine aW (hl S3 s σ H _ I h) λv s1 ⟨x,H1,I1,r1,q1⟩=>?_;obtain⟨z,e,ha,q⟩:=q1;subst e;obtain⟨t,rfl⟩:=r1;refine wpAny_pyIter_ascii ha ?_;refine⟨s1.heap.objs.size,[s1.heap.objs.size],_,_,H1,rfl,I1.kept (t':=s1.toks) λb o e=>RM _ e,Aq z t _,⟨_,RP _ rfl,rfl,rfl⟩,λb hb=>?_,q⟩;have e:b=s1.heap.objs.size:=by simpa using hb
 subst e;exact I1.gm (O0 _) (I1.S8.fresh (O0 _))
def gJ (x:Str):ME:=(Nk x.cps.size).map (kG x)
theorem z5 {X:Cx}{Γ Γ1:Ga}{a:Expr}{x:Str}(ha:EV X a Γ aj x Γ1)(hx:x.cps.all (· < 128)=true)(hz:x.cps.size<=PZ):IV X tg a Γ aj (gJ x) Γ1:=by
 refine⟨_,HG aO,λσ H0 R0 H R E Rq q=>ha σ H0 R0 H R E _ λv H1 R1 E1 s1 e1=>?_⟩;cases e1
 refine⟨x,rfl,hx,q _ H1 R1 E1 s1 (by unfold gJ;rw[M8,NR];exact hz) λH' R' sR sH i=>⟨λy hy=>?_,λhi=>?_⟩⟩
 ·unfold gJ at hy;rw[Nc] at hy;obtain⟨j,hj,rfl⟩:=Pt.mp hy;obtain⟨hl,e⟩:=M1.mp hj;rw[NR] at hl;rw[List.getElem_range] at e;subst e;refine⟨hl,λv' H2 hy=>?_⟩;obtain⟨rfl,rfl⟩:=hy;exact⟨R',Ext.refl sH,rfl⟩
 ·unfold gJ at hi;rw[M8,NR] at hi;exact hi
end
section
variable {e:Expr}{r:Rep α}{x:Str}
theorem jW {pos:Pos}{y:α}(he:EV X e Γ r y Γ1)(h:N Γ1)(Uj:P9 e none pos.line X.env=pure false:=by rfl):W1 X (.Expr e pos) Γ N T:=λσ H0 R0 H R E D dn dr=>
 sS (eo aO Uj) (he σ H0 R0 H R E _ λv H1 R1 E1 s1 e1=>dn σ H1 R1 _ E1 s1 h)
theorem IM (i:Nat){p1 pos:Pos}{a c:Int}(he:EV X e Γ ai c Γ)(hΓ:Γ[i]?=some (.im ai a))(h:N (Γ.set i (.im ai (a+c))))(hN:X.N.Nodup:=by first | assumption | decide)(hi:X.N[i]?=some x:=by rfl)(hx:autoParam (Loc X.env.scope x) UH)(hf:autoParam (X.fn x=true∨X.env.scope.names.lookup x=some .local) UG):
 W1 X (.AugAssign (.Name x p1) .Add e pos) Γ N T:=λσ H0 R0 H R E D dn dr=>by
 obtain⟨v,ea,hr⟩:=E.ent i _ hΓ;cases (show v=V.int a from hr)
 refine sS (Il hN hi hx aO HV hf) ⟨.int a,at_of ea,he σ H0 R0 H R E _ λu H2 R2 E2 s2 e2=>?_⟩;cases (show u=V.int c from e2)
 exact⟨a,c,rfl,rfl,dn _ H2 R2 _ (E2.set i (r:=ai) (x:=a+c) rfl) s2 h⟩
theorem Et {i j:Nat}{r':Rep β}{xs:List α}{ys:List β}(hij:i≠j)(hΓ:Γ[i]?=some (.mu r xs))(hj:Γ[j]?=some (.mu r' ys))(hz:xs.length<=PZ)(Vf:ys.length<=PZ)(σ:St)(H0 R0 H R:Hp)(E:aw X.K σ H0 R0 H R Γ):aw X.K σ H H H H (((Γ.map m9).set i (.im (ae r) xs)).set j (.im (ae r') ys)):=by
 obtain⟨a,vs,ea,ha,hR,pp⟩:=E.ent i _ hΓ;obtain⟨b,ws,eb,hb,hRb,pq⟩:=E.ent j _ hj;have E1:=E.Ul.lN (i:=i) (e0:=.no) (en:=.im (ae r) xs) (by rw[Nc,hΓ];rfl) ⟨.ref a,ea,a,vs,rfl,ha,Paired.map (λ_ _=>r.mono E.sub) pp,hz⟩ λb w=>by cases w
 exact E1.lN (i:=j) (e0:=.no) (by rw[Nt hij,Nc,hj];rfl) ⟨.ref b,eb,b,ws,rfl,hb,Paired.map (λ_ _=>r'.mono E.sub) pq,Vf⟩ λb w=>by cases w
theorem yV:dW X (Qd .LtE) (λx y H Q=>∃i j,x= .str i/\y= .str j/\Q (.bl (!decide (j.cps.toList<i.cps.toList))) H):=by
 intro S3 s σ H x y v u Q I rx ry h;obtain⟨i,j,rfl,rfl,q⟩:=h;obtain⟨t,rfl⟩:=rx;obtain⟨t',rfl⟩:=ry;exact PySem.P.le_str (bM I q rfl)
theorem Cm {y:Str}:gZ X .LtE aj aj x y (!decide (y.cps.toList<x.cps.toList)):=⟨_,yV,λR H v u Q _ e1 e2 q=>by
 cases e1;cases e2
 exact⟨x,y,rfl,rfl,q⟩⟩
theorem yO {xs:ME}:gZ X .NotIn aj (ae aj) x xs (!decide (x∈xs)):=⟨_,uj,λR H v u Q s e1 e2 q=>by
 cases e1
 obtain⟨a,vs,rfl,hq,p,_⟩:=e2;have e:=nh p;subst e;exact⟨a,_,rfl,.inl (aY.of (s _ _ hq)),rfl,ka xs,by rw[SS rfl,lG];exact q⟩⟩
theorem uP {xs:List α}(h:EV X e Γ (ae r) xs Γ1)(he:∀whole,QH e X.env whole=(do let v ← whole;QT e.pos;Qv [v] (truthy v)):=by intro _;rfl):TV X e Γ (!xs.isEmpty) Γ1:=by
 intro σ H0 R0 H R E Q q;refine tS (sg aO he) (h σ H0 R0 H R E _ λv H1 R1 E1 s1 e1=>?_);obtain⟨a,vs,rfl,ha,pp,_⟩:=e1;refine⟨!xs.isEmpty,.inl ⟨vs,aY.of (E1.sub _ _ ha),?_⟩,q H1 R1 E1 s1⟩;cases pp<;>rfl
end
theorem uu {α:Type}(l:List α):∀m,m<=l.length->(Nk m).filterMap (l[·]?)=l.take m
 | 0,_=>rfl
 | m+1,h=>by
   rw[OD,List.filterMap_append,uu l m (by omega),NH];simp[M4 (show m<l.length by omega)]
def gE (x:Str):Str:=⟨(x.cps.toList.take 7).toArray⟩
theorem Mj:∀n,n<=8->Rc.Str.strSliceIndices none (some 7) 1 n=Nk (min n 7):=by
 intro n hn;have:∀j:Fin 9,Rc.Str.strSliceIndices none (some 7) 1 j.val=Nk (min j.val 7):=by decide +kernel
 exact this ⟨n,by omega⟩
theorem J2 {x:Str}(hx:x.length<=8):((Nk (min x.length 7)).filterMap (x.cps[·]?)).toArray=(x.cps.toList.take 7).toArray:=by
 have hl:x.cps.toList.length=x.length:=by simp[Str.length]
 have e:(Nk (min x.length 7)).filterMap (x.cps[·]?)=(Nk (min x.length 7)).filterMap (x.cps.toList[·]?):=by
  congr 1;funext i;simp
 rw[e,uu _ _ (by omega)];congr 1;by_cases h:x.length<=7
 ·rw[Nat.min_eq_left h,← hl,NN,OA (by omega)]
 ·rw[Nat.min_eq_right (by omega)]
def Mu:V->Option Int->Option Int->Hp->VK->Prop:=λx lo hi H Q=>∃z:Str,x= .str z/\lo=none/\hi=some 7/\z.length<=8/\Q (.str (gE z)) H
theorem LL {X:Cx}:xV X Mu:=by
 intro S3 s σ H x v vl vu lo hi sl Q I rx hs pl pu h;obtain⟨z,rfl,rfl,rfl,hz,q⟩:=h;obtain⟨t,rfl⟩:=rx;cases pl
 cases pu with
 | int _ tu=>
   refine⟨"str",_,PySem.F.slot_str_getitem.lookup,QQ _ _ _,wpAny_getItem_str_slice (l:=none) (u:=some (7,tu)) (st:=none) hs rfl ?_⟩;have e:slicePicked z none (some (7,tu)) none=Nk (min z.length 7):=Mj z.length hz;unfold sliceMade;rw[e,NR];split
   ·rename_i hh;have hl:min z.length 7=z.length:=by simpa using hh
    have hp:gE z=z:=by
     unfold gE;rw[OA (by simp[Str.length] at hl ⊢;omega)]
    rw[hp] at q;exact⟨.str z,H,I,⟨t,rfl⟩,q⟩
   ·rw[J2 hz];refine⟨?_,.str (gE z),H,I.tok _,⟨_,rfl⟩,q⟩;show(List.take 7 z.cps.toList).toArray.size<=PZ;rw[Nm,Nu];exact O2 (Pe _ _) (by decide)
theorem F5 {X:Cx}{Γ:Ga}{a:Expr}{j:Nat}{p1 p2 pos:Pos}{x:Str}(ha:EV X a Γ aj x Γ)(hx:x.length<=8):EV X (.Subscript a (.Slice none (some (.Constant (.int 7) j p1)) none p2) pos) Γ aj (gE x) Γ:=by
 intro σ H0 R0 H R E Q q;obtain⟨tl,pl,kl⟩:=(ov_none:OV X none Γ none);obtain⟨th,ph,kh⟩:=(ov_some ev_int:OV X (some (.Constant (.int 7) j p1)) Γ (some 7));refine eS (lW LL aO pl ph) (ha σ H0 R0 H R E _ λv H1 R1 E1 s1 e1=>kl σ H0 R0 H1 R1 E1 _ λH2 R2 E2 s2=>kh σ H0 R0 H2 R2 E2 _ λH3 R3 E3 s3=>?_);cases e1
 exact⟨x,rfl,rfl,rfl,hx,q _ _ _ E3 (s1.trans (s2.trans s3)) rfl⟩
theorem ny (i:Nat){x:Str}{p1 p2 pos:Pos}(h:N (Γ.set i (.di [])))(hN:X.N.Nodup:=by first | assumption | decide)(hi:X.N[i]?=some x:=by rfl)(hx:autoParam (Loc X.env.scope x) UH)(hs:P9 (.Dict [] [] p2) (some (.Name x p1)) pos.line X.env=pure false:=by rfl)(hf:autoParam (X.fn x=true∨X.env.scope.names.lookup x=some .local) UG):
 W1 X (.Assign [.Name x p1] (.Dict [] [] p2) pos) Γ N T:=λσ H0 R0 H R E D dn dr=>by
 refine sS (jV hN hi hx A9 hs hf) λp hp=>?_;have E1:=E.grow (Ext.eC E.sub hp (.dK (cE [])));exact dn _ _ R _ (E1.wK (u:=.dK (cE [])) (en:=.di []) i ⟨p,rfl,aF,E.sub.free hp⟩ (E.ext.h.free hp) λj e _ q w=>E.off hp j e q w) (ay.refl _) h
theorem tH {R:Hp}:∀{xs:ME}{vs:List V},eL R vs (xs.map PV.str)->vs=xs.map V.str
 | [],_,.nil=>rfl
 | x::xs,_,.cons h t=>by cases h;rw[tH t];rfl
theorem vC {es:MI}{k:Nat}{pos:Pos}{xs:ME}(h:EA X es Γ ag (xs.map PV.str) Γ1)(hz:xs.length<=PZ):EV X (.Tuple es k pos) Γ sJ xs Γ1:=
 EV.re (eM h (by rw[M8];exact hz)) λK R v e=>by
   cases e with
   | tup hp pp=>rw[tH pp] at hp;exact⟨_,rfl,cC.of hp⟩
def CB (lo:Int)(n:Nat):It:=⟨λi _=>i<n,λi H x H'=>H'=H/\x= .int (lo-i),λi _=>n<=i⟩
theorem zw {P:P2}{w:World}{K:Sk}{tg:Expr}(it:Addr)(lo:Int)(n:Nat):Turn P w K tg (CB lo n) [it] it (λi h=>Q6 h it (lo+(i:Nat)*(-1)) ((n:Int)-(i:Nat)) (-1)) where
 mem:=by simp
 obj:=λi h st b hb=>by
  have e:b=it:=by simpa using hb
  subst e;exact⟨_,st,λv z=>by
   have z':Data.fields _=Data.cell v:=z;cases z'⟩
 keep:=λi h h' st k=>k it (by simp) _ st
 item:=by
  intro X hP hw hK hc i S3 s σ H E I hf st hg;subst hP hw hK;obtain⟨f0,f1,f2,f3,f4,f5⟩:=hf it (by simp);have W:=Walks.range (prog:=X.prog) (w:=X.w) (I.ok.hd hc) it lo (-1) n;refine W.item i s _ _ hg st λv h' tk hv UY kk=>?_;obtain⟨t,rfl⟩:=hv;have I1:Inv X S3 σ H {s with heap:=h',toks:=tk}:=I.turned (λb o hb e=>kk b o (by simpa using hb) e) f0 f1 f3 f4 f5;refine⟨_,rfl,mW (s:={s with heap:=h',toks:=tk}) (n:="range_iterator") UY rfl rfl (by decide) ⟨.int (lo-i),H,I1,⟨t,?_⟩,⟨rfl,rfl⟩,UY,λb hb=>(hf b hb).1⟩⟩;rw[show lo+(i:Int)*(-1)=lo-(i:Int) by omega]
 done:=by
  intro X hP hw hK hc i S3 s σ H E I hf st hg;subst hP hw hK;obtain⟨f0,f1,f2,f3,f4,f5⟩:=hf it (by simp);exact wpAny_pyNext_range_end (I.ok.hd hc) st (by have:n<=i:=hg;omega) λh' eb=>⟨rfl,I.turned (t':=s.toks) (λb o hb e=>eb b o hb e) f0 f1 f3 f4 f5⟩
 self:=λ_ _ _ _ _ st h=>wpAny_pyIter_rangeiter st h
theorem qI {a b:Int}:Rc.Range.rangeSize a b (-1)=((a-b).toNat:Int):=by
 unfold Rc.Range.rangeSize;rw[SR (by decide)];split
 ·rw[show -(-1:Int)=1 by decide,Int.ediv_one];omega
 ·omega
theorem small_down {a b:Int}(ha: -(2 ^ 40)<=a)(Ud:a<2 ^ 40)(hb: -(2 ^ 40)<=b)(Ut:b<2 ^ 40):Rc.Range.small a b (-1)=true:=by
 unfold Rc.Range.small;rw[qI];simp only[Rc.Range.rangeFitsLong,MN,MR,decide_eq_true_eq,beq_iff_eq,show¬(-1:Int)>0 by decide,if_false];omega
section
variable {X:Cx}{tg:Expr}{Γ Γ1 Γ2 Γ3:Ga}
def KD (ta:TA):TI:=λσ H R=>ta σ H λvs H1=>∃i j:Int,vs=[.int i,.int j,.int (-1)]/\(-(2 ^ 40)<=i/\i<2 ^ 40/\ -(2 ^ 40)<=j/\j<2 ^ 40)/\R (CB i (i-j).toNat) H1
theorem DU {S3:MB}{σ:St}{H:Hp}{s:PX}{R:It->Hp->Prop}{E:Value->PX->Prop}{lo hi:Int}{t u v:Tok}{tk:Nat}(I:Inv X S3 σ H s)(h1: -(2 ^ 40)<=lo)(h2:lo<2 ^ 40)(h3: -(2 ^ 40)<=hi)(h4:hi<2 ^ 40)(q:R (CB lo (lo-hi).toNat) H):wpAny (model X.prog X.w) X.A (pyIter (.ref s.heap.objs.size)) (FD X S3 σ tg R) E {s with heap:=s.heap.push {cls:=.type "range",data:=.fields #[.int lo t,.int hi u,.int (-1) v]},toks:=tk}:=by
 refine wpAny_pyIter_range (IsRange.new ..) (small_down h1 h2 h3 h4) ?_;have I1:Inv X S3 σ H {s with heap:=s.heap.push {cls:=.type "range",data:=.fields #[.int lo t,.int hi u,.int (-1) v]},toks:=tk}:=I.kept λb o e=>RM _ e;refine⟨(s.heap.push {cls:=.type "range",data:=.fields #[.int lo t,.int hi u,.int (-1) v]}).objs.size,[(s.heap.push {cls:=.type "range",data:=.fields #[.int lo t,.int hi u,.int (-1) v]}).objs.size],_,_,H,rfl,
  I1.kept (t':=tk) λb o e=>RM _ e,zw _ lo (lo-hi).toNat,?_,λb hb=>?_,q⟩
 ·have e1:lo+((0:Nat):Int)*(-1)=lo:=by simp
  have e2:(((lo-hi).toNat:Nat):Int)-((0:Nat):Int)=Rc.Range.rangeSize lo hi (-1):=by rw[qI];simp
  show Q6 _ _ (lo+((0:Nat):Int)*(-1)) ((((lo-hi).toNat:Nat):Int)-((0:Nat):Int)) (-1);rw[e1,e2];exact RP _ rfl
 ·have e:b=(s.heap.push {cls:=.type "range",data:=.fields #[.int lo t,.int hi u,.int (-1) v]}).objs.size:=by simpa using hb
  subst e;exact I1.gm (O0 _) (I1.S8.fresh (O0 _))
theorem zx {a b c:Expr}{ta:TA}{p pos:Pos}(hg:Gl X "range")(hm:X.mg "range"=none)(ha:PA X [a,b,c] ta)(hs:PU [a,b,c] X.env=(false,eval a X.env)::PU [b,c] X.env:=by rfl)(To:(P8 pos (PU [b,c] X.env)).any (·.1)=false:=by rfl):
 PI X tg (.Call (.Name "range" p) [a,b,c] [] pos) (KD ta):=by
 intro S3 s σ H R I h;refine Call_ (fQ I hg hm PQ (Pz (aW (ha pos S3 s σ H _ I h) λus s1 ⟨vs,H1,I1,r1,q1⟩=>?_) hs To));obtain⟨i,j,e,⟨q1,q2,q3,q4⟩,q⟩:=q1;subst e;cases r1 with
 | cons r rr=>
   cases rr with
   | cons r' rr=>
     cases rr with
     | cons r'' rr=>
       cases rr
       obtain⟨t,rfl⟩:=r;obtain⟨t',rfl⟩:=r';obtain⟨t'',rfl⟩:=r'';exact call_range_3 (by decide) (DU I1 q1 q2 q3 q4 q) (.inl (PyProof.noPylong_of_log2 (by decide +kernel)))
def downs (lo:Int)(n:Nat):MC:=(Nk n).map λ(k:Nat)=>lo-(k:Int)
theorem g6 (lo:Int)(n:Nat):(downs lo n).length=n:=by unfold downs;rw[M8,NR]
theorem uG {lo:Int}{n i:Nat}{x:Int}(h:(downs lo n)[i]?=some x):i<n/\x=lo-(i:Int):=by
 have hi:i<n:=by have:=(M1.mp h).1;rwa [g6] at this
 refine⟨hi,?_⟩;unfold downs at h;rw[Nc,Oc hi] at h;exact(Option.some.inj h).symm
theorem BC {K:Sk}{R1:Hp}(lo:Int)(n:Nat):Src K (CB lo n) R1 ai (downs lo n):=λH' R' sR sH i=>⟨λx hx=>by
 obtain⟨h1,rfl⟩:=uG hx;refine⟨h1,λv H2 hy=>?_⟩;obtain⟨rfl,rfl⟩:=hy;exact⟨R',Ext.refl sH,rfl⟩,λhi=>by rw[g6] at hi;exact hi⟩
theorem xM {a b c:Expr}{p1 p2:Pos}{m n:Int}(hm:X.mg "range"=none)(ha:HA X [a,b,c] Γ [⟨ai,m⟩,⟨ai,n⟩,⟨ai, -1⟩] Γ1)(hn: -1000000<=m/\m<=1000000/\ -1000000<=n/\n<=1000000)(hs:PU [a,b,c] X.env=(false,eval a X.env)::PU [b,c] X.env:=by rfl)(To:(P8 p2 (PU [b,c] X.env)).any (·.1)=false:=by rfl)(hg:Gl X "range":=by rfl):IV X tg (.Call (.Name "range" p1) [a,b,c] [] p2) Γ ai (downs m (m-n).toNat) Γ1:=by
 refine⟨_,zx hg hm me hs To,λσ H0 R0 H R E Rq q=>ha σ H0 R0 H R E _ λvs H1 R1 E1 s1 e1=>?_⟩;have e:vs=[.int m,.int n,.int (-1)]:=by
  cases e1 with
  | cons a1 t=>cases t with
    | cons a2 t=>cases t with
      | cons a3 t=>cases t;cases a1;cases a2;cases a3;rfl
 subst e;exact⟨m,n,rfl,⟨by omega,by omega,by omega,by omega⟩,q _ H1 R1 E1 s1 (by rw[g6];exact O2 (show(m-n).toNat<=2000000 by omega) (by decide)) (BC m (m-n).toNat)⟩
end
end Fc
namespace Fc.ZT
open PySem PySem.Spec PyProof.Rows
variable {prog:P2}{w:World}{A:P7}{E:Value->PX->Prop}{s:PX}
theorem vI {i l:Addr}{S5:Array Value}(hh:A.handled=none)(T9:i≠l):Dr prog w A i l S5 (λk h=>h.IsListIter i l k/\h.IsList l S5) where
 up:=λ⟨⟨o,ho,r⟩,⟨o',UI,r'⟩⟩ hk=>⟨⟨o,hk _ (.inl rfl) o ho,r⟩,⟨o',hk _ (.inr rfl) o' UI,r'⟩⟩
 there:=λ⟨⟨o,ho,_⟩,_⟩=>RN ho
 item:=λ{k x s Q E} ⟨hit,ht⟩ hx hQ=>wpAny_nextOf_list_item hit ht hx λh' h1 h2=>hQ h' ⟨h1,ht.extBut h2.extBut (Pr T9)⟩ h2
 done:=λ{k s Q E} ⟨hit,ht⟩ hx hE=>wpAny_nextOf_list_end hh hit ht hx λh' e h1 h2=>hE h' e h1 h2
abbrev zhX (h:Heap)(l1 l2:Addr):Heap:=((((h.push {cls:=.type "tuple_iterator",data:=.fields #[.ref l1,.int 0 0]}).push {cls:=.type "list_iterator",data:=.fields #[.ref l2,.int 0 0]}).push {cls:=.type "tuple",data:=.seq #[.ref h.objs.size,.ref (h.objs.size+1)]}).push {cls:=.type "tuple",data:=.seq #[.none,.none]}).push {cls:=.type "zip",data:=.fields #[.none,.bool false,.bool false,.ref (h.objs.size+2),.ref (h.objs.size+3)]}
theorem Bs (l1 l2:Addr)(xs ys:Array Value):Meets (Rc.«zip.__new__» ⟨[.type "zip",.ref l1,.ref l2],[]⟩) (λ_ R s=>s.heap.IsTuple l1 xs/\s.heap.IsList l2 ys/\R (.ok (.ret (.ref (s.heap.objs.size+4)))) {s with heap:=zhX s.heap l1 l2}):=
 .of_wp λprog w A R s h=>by
  obtain⟨hp,g,d,tk,os⟩:=s;obtain⟨WL,Vv,h⟩:=h;have Tu:isSubtype (.type "zip") (.type "zip")=pure true:=by rw[isSubtype_type];kernel_rfl
  have hL1:RV (PX.heap ⟨hp,g,d,tk,os⟩) l1 xs:=WL;have hL2:Heap.IsList (PX.heap ⟨hp.push {cls:=.type "tuple_iterator",data:=.fields #[.ref l1,.int 0 0]},g,d,tk,os⟩) l2 ys:=Heap.IsList.push Vv _
  wp_walk using QI hL1,QM hL2
  refine⟨_,rfl,?_⟩;simp only[RQ];exact h
theorem yU {l1 l2:Addr}{xs ys:Array Value}{Q:Value->PX->Prop}(WL:s.heap.IsTuple l1 xs)(Vv:s.heap.IsList l2 ys)(h:∀h',IsZip h' (s.heap.objs.size+4) (s.heap.objs.size+2) (s.heap.objs.size+3) .none->Qg h' (s.heap.objs.size+2) (.ref s.heap.objs.size) (.ref (s.heap.objs.size+1))->Qg h' (s.heap.objs.size+3) .none .none->h'.IsTupleIter s.heap.objs.size l1 0->h'.IsListIter (s.heap.objs.size+1) l2 0->
  (∀c o,s.heap.get? c=some o->h'.get? c=some o)->Q (.ref (s.heap.objs.size+4)) {s with heap:=h'}):wpAny (model prog w) A (call (.type "zip") [.ref l1,.ref l2]) Q E s:=by
 refine callType_new F.called_zip (by decide) (F.typeCall_zip_2 _ _) (F.newCall_zip_2 _ _) (λobj=>F.args_object_init_3 obj _ _) F.entry_zip_new (Bs l1 l2 xs ys) ⟨WL,Vv,?_⟩;have at_:∀(h:Heap)(o:Obj)(n:Nat),h.objs.size=n->o.isFreed=false->(h.push o).get? n=some o:=λh o n e f=>by subst e;exact RP _ f
 have g5:=at_ ((((s.heap.push {cls:=.type "tuple_iterator",data:=.fields #[.ref l1,.int 0 0]}).push {cls:=.type "list_iterator",data:=.fields #[.ref l2,.int 0 0]}).push {cls:=.type "tuple",data:=.seq #[.ref s.heap.objs.size,.ref (s.heap.objs.size+1)]}).push {cls:=.type "tuple",data:=.seq #[.none,.none]}) {cls:=.type "zip",data:=.fields #[.none,.bool false,.bool false,.ref (s.heap.objs.size+2),.ref (s.heap.objs.size+3)]} (s.heap.objs.size+4) (by simp[RQ]) rfl;have g4:=at_ (((s.heap.push {cls:=.type "tuple_iterator",data:=.fields #[.ref l1,.int 0 0]}).push {cls:=.type "list_iterator",data:=.fields #[.ref l2,.int 0 0]}).push {cls:=.type "tuple",data:=.seq #[.ref s.heap.objs.size,.ref (s.heap.objs.size+1)]}) {cls:=.type "tuple",data:=.seq #[.none,.none]} (s.heap.objs.size+3) (by simp[RQ]) rfl;have g3:=at_ ((s.heap.push {cls:=.type "tuple_iterator",data:=.fields #[.ref l1,.int 0 0]}).push {cls:=.type "list_iterator",data:=.fields #[.ref l2,.int 0 0]}) {cls:=.type "tuple",data:=.seq #[.ref s.heap.objs.size,.ref (s.heap.objs.size+1)]} (s.heap.objs.size+2) (by simp[RQ]) rfl;have g2:=at_ (s.heap.push {cls:=.type "tuple_iterator",data:=.fields #[.ref l1,.int 0 0]}) {cls:=.type "list_iterator",data:=.fields #[.ref l2,.int 0 0]} (s.heap.objs.size+1) (by simp[RQ]) rfl;have g1:=at_ s.heap {cls:=.type "tuple_iterator",data:=.fields #[.ref l1,.int 0 0]} s.heap.objs.size rfl rfl;have p:=@RM;exact⟨⟨_,g5,rfl⟩,h _ g5 (p _ (p _ g3)) (p _ g4) ⟨_,p _ (p _ (p _ (p _ g1))),rfl,rfl⟩ ⟨_,p _ (p _ (p _ g2)),rfl,rfl⟩ λc o x=>p _ (p _ (p _ (p _ (p _ x))))⟩
end Fc.ZT
namespace Fc
open PySem PySem.Spec PySem.W PySem.Calls L2
open PyProof.Rows hiding St
variable {X:Cx}{Γ Γ1 Γ2 Γ3:Ga}{α β γ δ:Type}{N:Ga->Prop}{T:RT}
section
variable {es:MI}{tp:Pos}
def GD (K:Sk)(a b:Addr):It:=
 ⟨λi H=>∃xs ys x y,cC K H a xs/\aY K H b ys/\xs[i]?=some x/\ys[i]?=some y,
  λi H v H'=>∃p x y,H p=none/\v= .ref p/\H'=upd H p (.tup [x,y])/\(∀xs,cC K H a xs->xs[i]?=some x)/\∀ys,aY K H b ys->ys[i]?=some y,
  λi H=>∃xs ys,cC K H a xs/\aY K H b ys/\(xs.length<=i∨ys.length<=i)⟩
def Lu (z TI TO i1 i2 a b:Addr)(i:Nat)(h:Heap):Prop:=
 IsZip h z TI TO .none/\Qg h TI (.ref i1) (.ref i2)/\(∃u v,Qg h TO u v)/\h.IsTupleIter i1 a i/\h.IsListIter i2 b i/\a≠TO/\b≠TO
theorem Lb {h:Heap}{z TI TO i1 i2 a b:Addr}{i:Nat}{xs ys:Array Value}(F:oo z TI TO i1 i2)(st:Lu z TI TO i1 i2 a b i h)(pa:IsTup h a xs)(pb:PlainL h b ys):ZipApart z TI TO i1 i2 a b:=by
 obtain⟨hz,_,⟨u,v,TU⟩,⟨o1,e1,c1,_⟩,⟨o2,e2,c2,_⟩,n1,n2⟩:=st;exact⟨F.TIz,F.TOz,F.i1z,F.i2z,F.TITO,F.TIi1,F.TIi2,F.TOi1,F.TOi2,F.i12,
  tup_ne pa hz (by simp),n1,tup_ne pa e1 (by rw[c1];simp),tup_ne pa e2 (by rw[c2];simp),
  dM pb hz (by simp),dM pb TU (by simp),dM pb e1 (by rw[c1];simp),dM pb e2 (by rw[c2];simp)⟩
theorem yR {P:P2}{w:World}{K:Sk}{k:Nat}(a b z TI TO i1 i2:Addr)(F:oo z TI TO i1 i2):Turn P w K (.Tuple es k tp) (GD K a b) [z,TI,TO,i1,i2] z (Lu z TI TO i1 i2 a b) where
 mem:=by simp
 obj:=λi h st c hc=>by
  obtain⟨hz,T4,⟨u,v,TU⟩,⟨o1,e1,c1,d1⟩,⟨o2,e2,c2,d2⟩,_⟩:=st;simp only[Nd,Nv,or_false] at hc;rcases hc with rfl | rfl | rfl | rfl | rfl
  ·exact⟨_,hz,λv q=>by cases q⟩
  ·exact⟨_,T4,λv q=>by cases q⟩
  ·exact⟨_,TU,λv q=>by cases q⟩
  ·exact⟨o1,e1,λv q=>by rw[d1] at q;cases q⟩
  ·exact⟨o2,e2,λv q=>by rw[d2] at q;cases q⟩
 keep:=λi h h' st kk=>by
  obtain⟨hz,T4,⟨u,v,TU⟩,h1,h2,n1,n2⟩:=st;exact⟨kk z (by simp) _ hz,kk TI (by simp) _ T4,⟨u,v,kk TO (by simp) _ TU⟩,h1.imp λo q=>⟨kk i1 (by simp) o q.1,q.2⟩,h2.imp λo q=>⟨kk i2 (by simp) o q.1,q.2⟩,n1,n2⟩
 item:=by
  intro X hP hw hK hc i S3 s σ H E I hf st hg;subst hP hw hK;obtain⟨xs,ys,x,y,hq,T6,hx,hy⟩:=hg;obtain⟨S5,r,pl,hz⟩:=I.tuple hq;obtain⟨its',r',Um,Vf⟩:=I.list T6;obtain⟨u,hu,rx⟩:=r.get hx;obtain⟨u',V6,ry⟩:=r'.get hy;have D:=Lb F st pl Um;have hh:=I.ok.hd hc;obtain⟨UR,T4,⟨c,d,TU⟩,h1,h2,n1,n2⟩:=st;have hn:H s.heap.objs.size=none:=I.S8.fresh (O0 _);refine ZT.vb D (ZT.iF (A:=X.A.in1) hh (Pr D.l1i1)) (ZT.vI (A:=X.A.in1) hh (Pr D.l2i2)) UR T4 TU ⟨h1,pl⟩ ⟨h2,Um.isList⟩ (x:=u) (y:=u') (by simpa using hu) (by simpa using V6) λh' a1 a2 a3 a4 a5 hk=>?_;refine⟨_,rfl,?_⟩;refine QG (s:={s with heap:=h'}) a1 λh3 Xr UB=>?_;have lt:∀{c o},s.heap.get? c=some o->c≠s.heap.objs.size:=λe=>O5 (RN e);have Vw:∀b o,b∉[z,TI,TO,i1,i2]->s.heap.get? b=some o->h3.get? b=some o:=λb o hb q=>by
   simp only[Nd,Nv,or_false,not_or] at hb;exact UB.extBut b o hb.1 (hk b o hb.1 hb.2.2.1 hb.2.2.2.1 hb.2.2.2.2 q)
  have I1:Inv X S3 σ H {s with heap:=h3,toks:=s.toks}:=gM I Vw hf;have WO:h3.get? s.heap.objs.size=some {cls:=.type "tuple",data:=.seq #[u,u']}:=UB.extBut _ _ (Pr (lt UR)) a5;have I2:Inv X S3 σ (upd H s.heap.objs.size (.tup [x,y])) {s with heap:=h3,toks:=s.toks}:=
   adopt I1 (I.gm (O0 _) hn) (I.sz) ⟨by show 2<=PZ;decide,[u,u'],.cons rx (.cons ry .nil),⟨_,WO,rfl,_,rfl⟩⟩
  refine⟨.ref s.heap.objs.size,_,I2,rfl,⟨s.heap.objs.size,x,y,hn,rfl,rfl,λzs Vs=>?_,λzs Vs=>?_⟩,⟨Xr,?_,⟨_,_,UB.extBut _ _ F.TOz a2⟩,a3.1.extBut UB.extBut F.i1z,a4.1.extBut UB.extBut F.i2z,n1,n2⟩,λb hb=>?_⟩
  ·rw[I.j6 Vs hq];exact hx
  ·rw[I.iD Vs T6];exact hy
  ·exact UB.extBut _ _ F.TIz (hk _ _ F.TIz F.TITO F.TIi1 F.TIi2 T4)
  ·have Uc:b≠s.heap.objs.size:=by
    simp only[Nd,Nv,or_false] at hb;rcases hb with rfl | rfl | rfl | rfl | rfl
    ·exact lt UR
    ·exact lt T4
    ·exact lt TU
    ·obtain⟨_,e,_⟩:=h1;exact lt e
    ·obtain⟨_,e,_⟩:=h2;exact lt e
   rw[aG Uc];exact(hf b hb).1
 done:=by
  intro X hP hw hK hc i S3 s σ H E I hf st hg;subst hP hw hK;obtain⟨xs,ys,hq,T6,hx⟩:=hg;obtain⟨S5,r,pl,hz⟩:=I.tuple hq;obtain⟨its',r',Um,Vf⟩:=I.list T6;have D:=Lb F st pl Um;have hh:=I.ok.hd hc;obtain⟨UR,T4,⟨c,d,TU⟩,h1,h2,n1,n2⟩:=st;have l1:=r.length;have l2:=r'.length;refine ZT.xZ D (ZT.iF (A:=X.A.in1) hh (Pr D.l1i1)) (ZT.vI (A:=X.A.in1) hh (Pr D.l2i2)) UR T4 TU ⟨h1,pl⟩ ⟨h2,Um.isList⟩ (hx.imp (λq=>by simp;omega) λq=>by simp;omega) λh' hk=>⟨rfl,?_⟩;refine gM (t':=s.toks) I (λb o hb q=>?_) hf;simp only[Nd,Nv,or_false,not_or] at hb;exact hk b o hb.1 hb.2.2.1 hb.2.2.2.1 hb.2.2.2.2 q
 self:=λ_ _ _ _ _ st h=>Qz st.1 h
def Kb (K:Sk)(ta:TA):TI:=λσ H R=>ta σ H λvs H1=>∃a b xs ys,vs=[.ref a,.ref b]/\cC K H1 a xs/\aY K H1 b ys/\R (GD K a b) H1
theorem Dq {a b:Expr}{ta:TA}{p pos:Pos}{k:Nat}(hg:Gl X "zip")(hm:X.mg "zip"=none)(ha:PA X [a,b] ta)(hs:PU [a,b] X.env=[(false,eval a X.env),(false,eval b X.env)]:=by rfl)(TC:PU [b] X.env=[(false,eval b X.env)]:=by rfl):PI X (.Tuple es k tp) (.Call (.Name "zip" p) [a,b] [] pos) (Kb X.K ta):=by
 intro S3 s σ H R I h;refine Call_ (fQ I hg hm boot_zip (Pz (aW (ha pos S3 s σ H _ I h) λus s1 ⟨vs,H1,I1,r1,q1⟩=>?_) (by rw[hs,TC]) (by rw[TC];rfl)));obtain⟨l,l',xs,ys,e,hq,T6,q⟩:=q1;subst e;cases r1 with
 | cons r rr=>
   cases rr with
   | cons r' rr=>
     cases rr
     cases r
     cases r'
     obtain⟨S5,_,pl,_⟩:=I1.tuple hq;obtain⟨its',_,Um,_⟩:=I1.list T6;have ll:l<s1.heap.objs.size:=by obtain⟨o,e,_⟩:=pl;exact RN e
     have ll':l'<s1.heap.objs.size:=by obtain⟨o,n,e,_⟩:=Um;exact RN e
     refine ZT.yU pl Um.isList λh' a1 a2 a3 a4 a5 hk=>?_;refine Qz a1 ?_;have I2:Inv X S3 σ H1 {s1 with heap:=h'}:=I1.kept (t':=s1.toks) hk;have ff:∀b,s1.heap.objs.size<=b->jd X S3 H1 b:=λb hb=>I1.gm hb (I1.S8.fresh hb);refine⟨s1.heap.objs.size+4,[s1.heap.objs.size+4,s1.heap.objs.size+2,s1.heap.objs.size+3,s1.heap.objs.size,s1.heap.objs.size+1],_,_,H1,rfl,I2,yR l l' _ _ _ _ _ (Bn _),⟨a1,a2,⟨_,_,a3⟩,a4,a5,O5 (O4 ll (O7 _ 3)),O5 (O4 ll' (O7 _ 3))⟩,λb hb=>?_,q⟩;simp only[Nd,Nv,or_false] at hb;rcases hb with rfl | rfl | rfl | rfl | rfl
     ·exact ff _ (O7 _ 4)
     ·exact ff _ (O7 _ 2)
     ·exact ff _ (O7 _ 3)
     ·exact ff _ (O0 _)
     ·exact ff _ (O7 _ 1)
theorem D2 {a b:Expr}{p pos:Pos}{k:Nat}{ys:ME}{r:Rep α}{xs:List α}(hm:X.mg "zip"=none)(ha:EV X a Γ sJ ys Γ1)(hb:EV X b Γ1 (ae r) xs Γ2)(hs:PU [a,b] X.env=[(false,eval a X.env),(false,eval b X.env)]:=by rfl)(TC:PU [b] X.env=[(false,eval b X.env)]:=by rfl)(hg:Gl X "zip":=by rfl):
 IV X (.Tuple es k tp) (.Call (.Name "zip" p) [a,b] [] pos) Γ (fD aj r) (ys.zip xs) Γ2:=by
 refine⟨_,Dq hg hm (aK aO (aK aO bo TC) (by rw[hs,TC])) hs TC,λσ H0 R0 H R E Rq q=>ha σ H0 R0 H R E _ λv H1 R1 E1 s1 e1=>hb σ H0 R0 H1 R1 E1 _ λv' H2 R2 E2 s2 e2=>?_⟩;obtain⟨a,rfl,VR⟩:=sJ.mono (K:=X.K) s2 e1;obtain⟨b,vs,rfl,hp,pp,hz⟩:=e2;have up:∀{R' H':Hp},ay R2 R'->ay R' H'->cC X.K H' a (ys.map V.str):=λsR sH=>VR.imp (λh=>h.imp (λq=>sH _ _ (sR _ _ q)) λ⟨o,q⟩=>⟨o,sH _ _ (sR _ _ q)⟩) id;refine⟨a,b,_,vs,rfl,up (ay.refl _) E2.sub,aY.of (E2.sub _ _ hp),q _ H2 R2 E2 (s1.trans s2) (by rw[NZ];exact O2 (Pj _ _) hz) λH' R' sR sH i=>⟨λy hy=>?_,λhi=>?_⟩⟩
 ·have hq:aY X.K H' b vs:=aY.of (sH _ _ (sR _ _ hp));have T6:=up sR sH;obtain⟨e1,e2⟩:=g7 hy;obtain⟨v,hv,hr⟩:=dg pp e2;have UM:(ys.map V.str)[i]?=some (V.str y.1):=by rw[Nc,e1];rfl
  refine⟨⟨_,vs,_,v,T6,hq,UM,hv⟩,λv2 H3 US=>?_⟩;obtain⟨p,x,x',U4,rfl,rfl,hy,Wy⟩:=US;have t1:=hy _ T6;have t2:=Wy vs hq;rw[UM] at t1;rw[hv] at t2;cases t1
  cases t2
  have s3:ay R' (upd R' p (.tup [.str y.1,v])):=ay.fresh (sH.free U4) _;exact⟨upd R' p (.tup [.str y.1,v]),Ext.fresh sH U4 _,p,_,_,rfl,aF,rfl,r.mono s3 (r.mono sR hr)⟩
 ·refine⟨_,vs,up sR sH,aY.of (sH _ _ (sR _ _ hp)),?_⟩;rw[NZ] at hi;rw[M8,pp.length];omega
end
theorem bg.cst {e:Expr}{r:Rep α}{xs ys:List α}(h:bg X e Γ r xs Γ1)(q:xs=ys):bg X e Γ r ys Γ1:=q▸h
theorem DB {e f:Expr}{x:Str}{p1 ap cp:Pos}{D:List (Str×ME)}{k:Str}{zs:ME}(hD:lE X.prog X.w X.K X.mg x D)(he:EV X e Γ aj k Γ1)(hf:EV X f Γ1 sJ zs Γ2)(hg:Gl X x:=by rfl)(hd:Ti x:=by decide)(m:M2 X (.Name x p1) "get" ap e f cp:=by exact⟨rfl,rfl,rfl,rfl⟩):EV X (.Call (.Attribute (.Name x p1) "get" ap) [e,f] [] cp) Γ sJ ((cU D k).getD zs) Γ2:=by
 intro σ H0 R0 H R E Q q;obtain⟨a,o,vs,hm,hk,hdo,hs,hp⟩:=hD;have pe:PE X (.Call (.Attribute (.Name x p1) "get" ap) [e,f] [] cp) (λσ H Q=>gK X e σ H λy H1=>y= .str k/\gK X f σ H1 λz H2=>(∀b,cU D k≠none->Qo vs (Sum.inr k:Key)=some (.ref b)->Q (.ref b) H2)/\(cU D k=none->Q z H2)):=by
  intro S3 s σ H Q I h;refine wpAny_Call_method m.base m.few m.line PySem.F.plainAttrs_dict PySem.F.slot_dict_get PySem.F.type_dict_get (aW (jy (v:=.ref a) hg hm rfl hd S3 s σ H (λv H2=>v= .ref a/\H2=H) I ⟨rfl,rfl⟩) λu s1 ⟨x1,H1,I1,rx,e3,e4⟩=>?_);subst e3;subst e4;obtain rfl:u=Sd a:=rx;have dd:s1.heap.DictOf (cg X.prog X.w) a vs:=RU.mpr ⟨o,I1.fk a o hk,hdo⟩;refine⟨dd.typeIs,λb q=>?_,?_⟩
  ·cases q
   obtain⟨ob,_,_,h1,h2,_⟩:=dd;exact⟨ob,h1,h2.2.1⟩
  rw[m.trees];refine Rx rfl (Calls.evalArgs_plain (Ry (aW (h S3 s1 I1) λiv s2 ⟨y,H2,I2,ry,ey,q2⟩=>
   Ry (aW (q2 S3 s2 I2) λfv s3 ⟨z,H3,I3,rz,q3,q4⟩=>Calls.spliced_nil ?_))))
  subst ey;have dd3:s3.heap.DictOf (cg X.prog X.w) a vs:=RU.mpr ⟨o,I3.fk a o hk,hdo⟩;refine call_meetsIn PySem.F.slot_dict_get dd3.typeIs PySem.F.entry_dict_get (PySem.F.args_dict_get_3 _ _ _) (meets_dict_get_default (cg X.prog X.w) a (jr (k:=Sum.inr k) ry) hs fv) ⟨_,dd3.mapOf,?_⟩;rcases rL (x:=k) hp with⟨h1,h2⟩ | ⟨ys,b,h1,h2,_⟩
  ·rw[h2];exact⟨z,_,I3.tok _,rz,q4 h1⟩
  ·rw[h2];exact⟨.ref b,_,I3.tok _,rfl,q3 b (by rw[h1];exact Pu _) h2⟩
 refine eS pe (he σ H0 R0 H R E _ λv H1 R1 E1 s1 e1=>⟨e1,hf σ H0 R0 H1 R1 E1 _ λv2 H2 R2 E2 s2 e2=>⟨λb hb hv=>?_,λhn=>?_⟩⟩)
 ·rcases rL (x:=k) hp with⟨h1,h2⟩ | ⟨ys,b',h1,h2,o',S5,n,h3⟩
  ·exact SQ h1 hb
  ·rw[hv] at h2;cases h2
   refine q _ H2 R2 E2 (s1.trans s2) ?_;rw[h1];exact⟨b,rfl,.inr ⟨o',S5,n,h3⟩⟩
 ·refine q _ H2 R2 E2 (s1.trans s2) ?_;rw[hn];exact e2
def Lz (K:Sk)(a:Addr)(n:Nat):It:=
 ⟨λi H=>∃xs,aY K H a xs/\xs.length=n/\i<n,λi H x H'=>H'=H/\∀xs,aY K H a xs->xs[n-1-i]?=some x,λi _=>n<=i⟩
theorem AU {P:P2}{w:World}{K:Sk}{tg:Expr}(a it:Addr)(n:Nat):Turn P w K tg (Lz K a n) [it] it (λi h=>i<=n/\h.IsRevIter it a ((n:Int)-1-(i:Int))) where
 mem:=by simp
 obj:=λi h st b hb=>by
  have e:b=it:=by simpa using hb
  subst e;obtain⟨_,o,e,c,d⟩:=st;exact⟨o,e,λv z=>by rw[d] at z;cases z⟩
 keep:=λi h h' st k=>⟨st.1,st.2.at λo e=>k it (by simp) o e⟩
 item:=by
  intro X hP hw hK hc i S3 s σ H E I hf st hg;subst hP hw hK;obtain⟨xs,hq,hl,hi⟩:=hg;obtain⟨S5,rv,p,hz⟩:=I.list hq;have hx:xs[n-1-i]?=some xs[n-1-i]:=M4 (by omega);obtain⟨u,hu,ru⟩:=rv.get hx;obtain⟨f0,f1,f2,f3,f4,f5⟩:=hf it (by simp);have st0:s.heap.IsRevIter it a (((n-1-i:Nat)):Int):=by rw[show(((n-1-i:Nat)):Int)=(n:Int)-1-(i:Int) by omega];exact st.2
  refine wpAny_pyNext_rev_item st0 p.isList (x:=u) (by simpa using hu) λh' UY sb=>?_;have I1:Inv X S3 σ H {s with heap:=h'}:=I.turned (t':=s.toks) (λb o hb e=>(sb.2 b hb).trans e) f0 f1 f3 f4 f5;have VJ:h'.IsRevIter it a ((n:Int)-1-((i+1:Nat):Int)):=by rw[show(n:Int)-1-((i+1:Nat):Int)=(((n-1-i:Nat)):Int)-1 by omega];exact UY
  obtain⟨o,e,c,d⟩:=id VJ;exact⟨u,rfl,mW (s:={s with heap:=h'}) e c d (by decide) ⟨_,H,I1,ru,⟨rfl,λys hy=>by rw[I.iD hy hq];exact hx⟩,⟨by omega,VJ⟩,λb hb=>(hf b hb).1⟩⟩
 done:=by
  intro X hP hw hK hc i S3 s σ H E I hf st hg;subst hP hw hK;obtain⟨f0,f1,f2,f3,f4,f5⟩:=hf it (by simp);obtain⟨UO,st⟩:=st;have e:(n:Int)-1-(i:Int)= -1:=by have:n<=i:=hg;omega
  rw[e] at st;exact wpAny_pyNext_rev_end (I.ok.hd hc) st λh' eb=>⟨rfl,I.turned (t':=s.toks) (λb o hb e=>eb b o hb e) f0 f1 f3 f4 f5⟩
 self:=λ_ _ _ _ _ st h=>wpAny_pyIter_revIter st.2 h
section
variable {X:Cx}{Γ Γ1 Γ2 Γ3:Ga}{α β γ δ:Type}{N:Ga->Prop}{T:RT}{tg:Expr}
variable {pos:Pos}{x:Str}{e:Expr}{p1:Pos}
def Mo (K:Sk)(ta:TA):TI:=λσ H R=>ta σ H λvs H1=>∃a xs,vs=[.ref a]/\aY K H1 a xs/\R (Lz K a xs.length) H1
theorem Ie {a:Expr}{ta:TA}{p:Pos}(hg:Gl X "reversed")(hm:X.mg "reversed"=none)(ha:PA X [a] ta)(hs:PU [a] X.env=[(false,eval a X.env)]:=by rfl):PI X tg (.Call (.Name "reversed" p) [a] [] pos) (Mo X.K ta):=by
 intro S3 s σ H R I h;refine Call_ (fQ I hg hm PyProof.Rows.boot_reversed (Pz (aW (ha pos S3 s σ H _ I h) λus s1 ⟨vs,H1,I1,r1,q1⟩=>?_) hs rfl));obtain⟨l,xs,e,hq,q⟩:=q1;subst e;cases r1 with
 | cons r rr=>
   cases rr
   cases r
   obtain⟨S5,rv,pl,hz⟩:=I1.list hq;have hl:=rv.length;refine call_reversed_list pl.isList ?_;have I2:Inv X S3 σ H1 {s1 with heap:=s1.heap.push (revObj l ((S5.toArray.size:Int)-1))}:=I1.kept (t':=s1.toks) λb o e=>RM _ e;have it0:(s1.heap.push (revObj l ((S5.toArray.size:Int)-1))).IsRevIter s1.heap.objs.size l ((xs.length:Int)-1-((0:Nat):Int)):=⟨_,RP _ rfl,rfl,by
    rw[show((xs.length:Int)-1-((0:Nat):Int))=((S5.toArray.size:Int)-1) by simp;omega];rfl⟩
   refine wpAny_pyIter_revIter it0 ?_;refine⟨s1.heap.objs.size,[s1.heap.objs.size],_,_,H1,rfl,I2,AU l _ xs.length,⟨O3 _,it0⟩,λb hb=>?_,q⟩;have e:b=s1.heap.objs.size:=by simpa using hb
   subst e;exact I1.gm (O0 _) (I1.S8.fresh (O0 _))
theorem G9 {a:Expr}{p:Pos}{r:Rep α}{xs:List α}(hm:X.mg "reversed"=none)(ha:EV X a Γ (ae r) xs Γ1)(hs:PU [a] X.env=[(false,eval a X.env)]:=by rfl)(hg:Gl X "reversed":=by rfl):IV X tg (.Call (.Name "reversed" p) [a] [] pos) Γ r xs.reverse Γ1:=by
 refine⟨_,Ie hg hm (aK aO bo hs) hs,λσ H0 R0 H R E Rq q=>ha σ H0 R0 H R E _ λv H1 R1 E1 s1 e1=>?_⟩;obtain⟨a,vs,rfl,hp,pp,z⟩:=e1;have hvl:=pp.length;refine⟨a,vs,rfl,aY.of (E1.sub _ _ hp),q _ H1 R1 E1 s1 (by rw[OG];exact z) λH' R' sR sH i=>⟨λx hx=>?_,λhi=>?_⟩⟩
 ·have hq:aY X.K H' a vs:=aY.of (sH _ _ (sR _ _ hp));have hi:i<xs.length:=by have:=(M1.mp hx).1;rwa [OG] at this
  rw[OO hi] at hx;obtain⟨v,hv,hr⟩:=dg pp hx;refine⟨⟨vs,hq,rfl,by omega⟩,λv' H2 hy=>?_⟩;obtain⟨rfl,hy⟩:=hy;have:=hy vs hq;rw[show vs.length-1-i=xs.length-1-i by omega,hv] at this;cases this
  exact⟨R',Ext.refl sH,r.mono sR hr⟩
 ·rw[OG] at hi;show vs.length<=i;omega
theorem yh (i:Nat){ap cp:Pos}{r:Rep α}{xs ys:List α}(he:EV X e Γ (ae r) ys Γ1)(hΓ:Γ[i]?=some (.mu r xs))(hΓ1:Γ1[i]?=some (.mu r xs))(hz:xs.length+ys.length<=PZ)(h:N (Γ1.set i (.mu r (xs++ys))))(hN:X.N[i]?=some x:=by rfl)(hv:autoParam (cb X.env.scope x) Tv)(hd:Ti x:=by decide)(S9:Tz x:=by decide)(Uj:P9 (.Call (.Attribute (.Name x p1) "extend" ap) [e] [] cp) none pos.line X.env=pure false:=by rfl)(Tc:P6 (.Name x p1) "extend" X.env (eval (.Name x p1) X.env)=eval (.Name x p1) X.env:=by rfl)(TN:((P8 cp (PU [e] X.env)).all (λx=> !x.1)&&(Qy cp (Qm [] X.env)).all (λx=>x.1.isSome)
  &&decide ([e].length+([]:List Qc).length+(if([]:List Qc).isEmpty then 0 else 1)<30))=true:=by rfl)(Tb:(ap.endLine==cp.line)=true:=by rfl)(hs:PU [e] X.env=(false,eval e X.env)::PU [] X.env:=by rfl):W1 X (.Expr (.Call (.Attribute (.Name x p1) "extend" ap) [e] [] cp) pos) Γ N T:=λσ H0 R0 H R E D dn dr=>by
 obtain⟨a,vs,ea,ha,hR,pp⟩:=E.ent i _ hΓ;refine sS (eo (iK RC PySem.F.slot_list_extend PySem.F.type_list_extend yg (a8 hN hv hd S9) (aK aO bo hs) Tc TN Tb hs rfl) Uj) ?_;refine⟨.ref a,at_of ea,.inl ⟨rfl,vs,aY.of ha⟩,he σ H0 R0 H R E _ λu H1 R1 E1 s1 e1=>?_⟩;obtain⟨b,ws,rfl,hb,pw,hw⟩:=e1;obtain⟨a',TK,T1,Ud,T7,Uh⟩:=E1.ent i _ hΓ1;rw[ea] at T1;cases T1
 refine⟨a,b,TK,ws,rfl,rfl,Ud,E1.sub _ _ hb,by rw[Uh.length,pw.length];exact hz,?_⟩;exact dn σ _ R1 _ (E1.upd (en:=.mu r (xs++ys)) hΓ1 rfl ea T7 ⟨a,_,rfl,aF,T7,d9 Uh pw⟩) s1 h
theorem wm {d:Expr}{kvs:List (Int×V)}{k:Int}(hu:X.A.units+1<cLine)(he:EV X e Γ ai k Γ1)(hd:EV X d Γ1 hV kvs Γ2)(hm:Qp .NotIn d=false:=by first | exact oZ _ | with_unfolding_all rfl):TV X (.Compare e [.NotIn] [d] pos) Γ (!ic kvs k) Γ2:=by
 intro σ H0 R0 H R E Q q;refine tS (kS (kq hu aO aO) hm) (he σ H0 R0 H R E _ λv H1 R1 E1 s1 e1=>hd σ H0 R0 H1 R1 E1 _ λu H2 R2 E2 s2 e2=>?_);cases e1
 obtain⟨p,rfl,hp⟩:=e2;refine⟨p,_,rfl,gH.k (k:=Sum.inl k) (E2.sub _ _ hp),_,rfl,?_⟩;rw[lx];exact q H2 R2 E2 (s1.trans s2)
abbrev ug (ks:ME):List (Key×V):=ks.map λk=>(Sum.inr k,V.bl true)
def nE (a:Addr)(ks:ME):mn where
 fp:=[a]
 R:=λK H R v=>v= .ref a/\H a=some (.dK (ug ks))
 loc:=λhH hR ⟨e,h1⟩=>⟨e,(hH a (by simp)).trans h1⟩
 has:=λ⟨e,h1⟩ b hb=>by rw[M5.mp hb,h1];exact Pu _
theorem WS.Jq (i:Nat){Uw:List Stmt}(hΓ:Γ[i]?=some (.di []))(h:∀a,WS X Uw (Γ.set i (.ob (nE a []))) N T):WS X Uw Γ N T:=λσ H0 R0 H R E D dn dr=>by
 obtain⟨a,ea,ha,hR⟩:=E.ent i _ hΓ;refine h a σ H0 R0 H R (E.tell hΓ ⟨⟨.ref a,ea,rfl,ha⟩,λb hb=>?_⟩ λb w=>?_) D dn dr
 ·rw[M5.mp hb];exact hR
 ·rw[show b=a from M5.mp w];exact cv.mpr ea
theorem Bq (k:Str):∀ks:ME,cW (ug ks) (Sum.inr k:Key)=if k∈ks then some (.bl true) else none
 | []=>rfl
 | x::ks=>by
   by_cases e:x=k
   ·show cW ((Sum.inr x,V.bl true)::ug ks) _=_;rw[dy (p:=((Sum.inr x:Key),V.bl true)) (by rw[e]),SS (by rw[e];exact Nb)]
   ·show cW ((Sum.inr x,V.bl true)::ug ks) _=_;rw[c8 (p:=((Sum.inr x:Key),V.bl true)) (λz=>e (Sum.inr.inj z)),Bq k ks];by_cases h:k∈ks
    ·rw[SS h,SS (M7 _ h)]
    ·rw[SR h,SR λz=>by rcases Nd.mp z with q | q;exact e q.symm;exact h q]
theorem C1 (i:Nat){ke ve:Expr}{p2:Pos}{a:Addr}{ks:ME}{k:Str}(hu:X.A.units+1<cLine)(hk:EV X ke Γ aj k Γ)(hv:PE X ve (tC (.bl true)))(hΓ:Γ[i]?=some (.ob (nE a ks)))(hn:k∉ks)(hz:ks.length<PZ)(h:N (Γ.set i (.ob (nE a (ks++[k])))))(hN:X.N[i]?=some x:=by rfl)(Xt:autoParam (cb X.env.scope x) Tv)(hd:Ti x:=by decide)(S9:Tz x:=by decide)(hs:P9 ve (some (.Subscript (.Name x p1) ke p2)) pos.line X.env=pure false:=by rfl):W1 X (.Assign [.Subscript (.Name x p1) ke p2] ve pos) Γ N T:=λσ H0 R0 H R E D dn dr=>by
 refine sS (qv hu (a8 hN Xt hd S9) aO hv hs) ?_;obtain⟨⟨v,ea,rfl,ha⟩,hR⟩:=E.ent i _ hΓ;refine⟨.ref a,at_of ea,hk σ H0 R0 H R E _ λu H1 R1 E1 s1 e1=>?_⟩;obtain⟨⟨v,T1,rfl,Ud⟩,T7⟩:=E1.ent i _ hΓ;cases e1
 refine⟨a,_,rfl,n6.k (k:=Sum.inr k) Ud (by rw[M8];exact hz),?_⟩;rw[n9 (.bl true) (by rw[Bq,SR hn])];have e:ug ks++[((Sum.inr k:Key),V.bl true)]=ug (ks++[k]):=by unfold ug;rw[Nn];rfl
 rw[e];exact dn σ _ R1 _ (E1.ot (en:=.ob (nE a (ks++[k]))) hΓ (a:=a) (by show a∈[a];simp) ⟨⟨.ref a,T1,rfl,aF⟩,T7⟩ λc w=>.inl w) s1 h
theorem Ac (i:Nat){a:Addr}{ks:ME}{k:Str}(hu:X.A.units+1<cLine)(he:EV X e Γ aj k Γ)(hΓ:Γ[i]?=some (.ob (nE a ks)))(hN:X.N[i]?=some x:=by rfl)(hv:autoParam (cb X.env.scope x) Tv)(hd:Ti x:=by decide)(S9:Tz x:=by decide):TV X (.Compare e [.NotIn] [.Name x p1] pos) Γ (!decide (k∈ks)) Γ:=by
 intro σ H0 R0 H R E Q q;refine tS (kS (kq hu aO (a8 hN hv hd S9)) (by with_unfolding_all rfl)) (he σ H0 R0 H R E _ λv H1 R1 E1 s1 e1=>?_);obtain⟨⟨v,ea,rfl,ha⟩,hR⟩:=E1.ent i _ hΓ;cases e1
 refine⟨.ref a,at_of ea,a,_,rfl,gH.k (k:=Sum.inr k) ha,_,rfl,?_⟩;rw[Bq];have e:(if k∈ks then some (V.bl true) else none).isSome=decide (k∈ks):=by by_cases h:k∈ks<;>simp[h]
 rw[e];exact q H1 R1 E1 s1
end
section
variable {prog:P2}{w:World}{K:Type} [DecidableEq K]{knd:KeyKind prog w K}{A:P7}{E:Value->PX->Prop}{s:PX}
theorem A7 {d:Addr}{kvs:List (K×Value)}{k:K}{key dflt:Value}{Q:Value->PX->Prop}(UU:knd.is k key=true)(hm:s.heap.DictOf knd d kvs)(WA:∀v,Qo kvs k=some v->Q v {s with toks:=s.toks+1})(hnew:Qo kvs k=none->∀h',h'.DictOf knd d (Rb kvs k dflt)->RR d s.heap h'->Q dflt {s with heap:=h',toks:=s.toks+1})(hsz:kvs.length<=PZ):wpAny (model prog w) A (Rf d key dflt) Q E s:=by
 have hmap:=hm.mapOf;obtain⟨o,es,ep,ho,hc,hd,hk,hp,hn⟩:=hm;have hes:es.size<=PZ:=by
  have e1:=hp.length;have e2:es.toList.length=es.size:=by simp
  omega
 obtain⟨o2,es2,ep2,ho2,hc2,hd2,Vw,hf⟩:=hmap;rw[ho] at ho2;cases ho2
 rw[hd] at hd2;cases hd2
 unfold Rf
 try with_reducible refine QE ?_
 refine P0 (knd.pyHash UU ?_);refine P0 (wpAny_dictFind_of (s:={s with toks:=s.toks+1}) UU ho hd hk ?_);have hidx:(es.findIdx? λe=>knd.is k e.key)=kvs.findIdx? λkv=>decide (kv.1=k):=by
  rw[← hp.findIdx k];obtain⟨l⟩:=es;simp
 cases hi:es.findIdx? λe=>knd.is k e.key with
 | some i=>
   have hfk:Qo kvs k=(es[i]?).map (·.val):=by rw[← hf k,findBy_of_findIdx?,hi]
   refine P0 (wpAny_dictEntries (s:={s with toks:=s.toks+1}) ho hd ?_);cases he:es[i]? with
   | none=>
     exfalso;have:=Array.findIdx?_eq_some_iff_findIdx_eq.mp hi;have Uc:i<es.size:=this.1;rw[Array.getElem?_eq_getElem Uc] at he;exact nomatch he
   | some e=>
     rw[he] at hfk;exact P0 (QR (P4 (WA e.val hfk)))
 | none=>
   have hfk:Qo kvs k=none:=by rw[← hf k,findBy_of_findIdx?,hi]
   have Xz:k∉kvs.map (·.1):=not_mem_of_findIdx_none (hidx▸hi);have XU:¬(kvs.any λkv=>decide (kv.1=k))=true:=by
    rw[OR];rintro⟨kv,hkv,he⟩;exact Xz (Nx.mpr ⟨kv,hkv,SU he⟩)
   refine P0 (QR (P0 (wpAny_updateDictKeys (hz:=hes) (s:={s with toks:=s.toks+1}) ho hd (P4 (hnew hfk _ ⟨_,_,ep+1,RS _ ho (Obj.isFreed_of_dict (Obj.data_mapDictKeys hd _)),
    hc.mapDictKeys _,Obj.data_mapDictKeys hd _,hk.push UU _,?_,?_⟩ (RR.update ..))))))
   ·rw[Rb,SR XU];have:=hp.append UU (knd.hash k) dflt;obtain⟨l⟩:=es;simpa using this
   ·rw[Rb,SR XU,Nn,NJ];refine⟨hn,by simp,?_⟩;intro a ha b hb;simp only[Nz,OF,M5] at hb;subst hb;exact λe=>Xz (e▸ha)
theorem Bl {d:Addr}{kvs:List (K×Value)}{k:K}{key:Value}(UU:knd.is k key=true)(hd:(d==Qk)=false)(dflt:Value)(hsz:kvs.length<=PZ):
 MeetsIn prog w (Rc.«dict.setdefault» ⟨[.ref d,key,dflt],[]⟩) (λ_ R s=>s.heap.DictOf knd d kvs/\
  (∀v,Qo kvs k=some v->R (.ok (.ret v)) {s with toks:=s.toks+1})/\
  (Qo kvs k=none->∀h',h'.DictOf knd d (Rb kvs k dflt)->RR d s.heap h'->R (.ok (.ret dflt)) {s with heap:=h',toks:=s.toks+1})):=
 .of_wp λA R s ⟨hm,h1,h2⟩=>by
  unfold Rc.«dict.setdefault»;refine P0 ?_;unfold Rc.Dict.keyAndDefault;refine P0 (wpAny_notOrdered_dict hm.mapOf.typeIs ?_);show wpAny _ _ (pure (d,key,some dflt)) _ _ s;refine P4 ?_;show wpAny _ _ (if(d==Qk)=true then _ else(Rf d key dflt >>=_)) _ _ s;rw[SR (by rw[hd];exact MM)];exact P0 (A7 UU hm (λv hv=>P4 ⟨v,rfl,h1 v hv⟩) (λhn h' hm' hs'=>P4 ⟨dflt,rfl,h2 hn h' hm' hs'⟩) hsz)
end
section
variable {X:Cx}{Γ Γ1 Γ2 Γ3:Ga}{α β γ δ:Type}{N:Ga->Prop}{T:RT}{tg:Expr}
variable {x:Str}{pos:Pos}
def Ky:V->List V->Hp->VK->Prop:=λx vs H Q=>∃(a:Addr)(F:MJ)(k v:Int),x= .ref a/\vs=[.int k,.int v]/\H a=some (.dK (cE (bU F)))/\F.length<PZ/\∀u,Q u (if(bJ F k).isSome then H else upd H a (.dK (cE (bU (F++[(k,v)])))))
theorem DX:xK X "dict.setdefault" Ky:=by
 intro S3 s σ H x vs u us Q I rx rv h;obtain⟨a,F,k,v,rfl,rfl,hH,hz,q⟩:=h;cases rx
 obtain⟨u1,u2,rfl,⟨t,rfl⟩,⟨t2,rfl⟩⟩:=vals2 rv;obtain⟨z,hd,kvs,rel,dd⟩:=xf I.S8 hH;have VP:kvs.length<=PZ:=by rw[← rel.length];exact z
 have U2:=rel.val (Sum.inl k:Key);rw[j5] at U2;refine call_meetsIn PySem.F.slot_dict_setdefault dd.typeIs PySem.F.entry_dict_setdefault (PySem.F.args_dict_setdefault_3 _ _ _) (Bl (knd:=cg X.prog X.w) (kvs:=kvs) (jr (k:=Sum.inl k) (u:=.int k t) ⟨t,rfl⟩) hd (.int v t2) VP) ⟨dd,λw' hw=>?_,λhn h' VH hs=>?_⟩
 ·cases e:bJ F k with
  | none=>rw[e,hw] at U2;cases U2
  | some y=>
    rw[e,hw] at U2;have:=q (.int y);rw[e,SS (show(some y).isSome=true from rfl)] at this;exact⟨.int y,H,I.tok _,U2,this⟩
 ·cases e:bJ F k with
  | some y=>rw[e,hn] at U2;cases U2
  | none=>
    have:=q (.int v);rw[e,SR (by decide)] at this;have hput:putK (cE (bU F)) (Sum.inl k:Key) (.int v)=cE (bU (F++[(k,v)])):=by
     rw[sA];unfold iC;rw[e,SR (by decide)]
    have hl:(cE (bU (F++[(k,v)]))).length<=PZ:=by unfold cE bU;simp;omega
    refine⟨.int v,_,mY I (by rw[hH];exact SO) hs (let ⟨q,_,_,hq,_⟩:=VH;⟨q,hq⟩) (rW hl hd ?_ VH),⟨t2,rfl⟩,this⟩;rw[← hput];exact rel.put (Sum.inl k:Key) ⟨t2,rfl⟩
theorem set_same.{u}{A:Type u}{l:List A}{i:Nat}{x:A}(h:l[i]?=some x):l.set i x=l:=by
 refine Oo λj=>?_;by_cases e:i=j
 ·subst e;rw[Ni (M1.mp h).1,h]
 ·rw[Nt e]
theorem FK (i:Nat){e f:Expr}{p1 ap cp:Pos}{F:MJ}{k v:Int}(he:EV X e Γ ai k Γ)(hf:EV X f Γ ai v Γ)(hΓ:Γ[i]?=some (.di (bU F)))(hz:F.length<PZ)(h:N (Γ.set i (.di (bU (if(bJ F k).isSome then F else F++[(k,v)])))))(hN:X.N[i]?=some x:=by rfl)(hv:autoParam (cb X.env.scope x) Tv)(hd:Ti x:=by decide)(S9:Tz x:=by decide)(Uj:P9 (.Call (.Attribute (.Name x p1) "setdefault" ap) [e,f] [] cp) none pos.line X.env=pure false:=by rfl)(Tc:P6 (.Name x p1) "setdefault" X.env (eval (.Name x p1) X.env)=eval (.Name x p1) X.env:=by rfl)(TN:((P8 cp (PU [e,f] X.env)).all (λx=> !x.1)&&(Qy cp (Qm [] X.env)).all (λx=>x.1.isSome)
  &&decide ([e,f].length+([]:List Qc).length+(if([]:List Qc).isEmpty then 0 else 1)<30))=true:=by rfl)(Tb:(ap.endLine==cp.line)=true:=by rfl)(hs:PU [e,f] X.env=(false,eval e X.env)::PU [f] X.env:=by rfl)(TC:PU [f] X.env=(false,eval f X.env)::PU [] X.env:=by rfl)(To:(P8 cp (PU [f] X.env)).any (·.1)=false:=by rfl):
 W1 X (.Expr (.Call (.Attribute (.Name x p1) "setdefault" ap) [e,f] [] cp) pos) Γ N T:=λσ H0 R0 H R E D dn dr=>by
 obtain⟨a,ea,ha,hR⟩:=E.ent i _ hΓ;refine sS (eo (iK PySem.F.plainAttrs_dict PySem.F.slot_dict_setdefault PySem.F.type_dict_setdefault DX (a8 hN hv hd S9) (aK aO (aK aO bo TC) hs) Tc TN Tb hs To) Uj) ?_;refine⟨.ref a,at_of ea,.inr (.inr (.inl ⟨rfl,.inl ⟨_,ha⟩⟩)),he σ H0 R0 H R E _ λv1 H1 R1 E1 s1 q1=>hf σ H0 R0 H1 R1 E1 _ λv2 H2 R2 E2 s2 q2=>?_⟩;cases q1
 cases q2
 obtain⟨a',T1,Ud,T7⟩:=E2.ent i _ hΓ;rw[ea] at T1;cases T1
 refine⟨a,F,k,v,rfl,rfl,Ud,hz,λu=>?_⟩;cases q:(bJ F k).isSome with
 | true=>
   rw[q,SS rfl] at h;rw[SS rfl];refine dn σ H2 R2 _ E2 (s1.trans s2) ?_;rwa [set_same hΓ] at h
 | false=>
   rw[q,SR (by decide)] at h;rw[SR (by decide)];exact dn σ _ R2 _ (E2.upd (en:=.di (bU (F++[(k,v)]))) hΓ rfl ea T7 ⟨a,rfl,aF,T7⟩) (s1.trans s2) h
def pM (X:Cx)(e:Expr)(Γ:Ga)(k:Int):Prop:=∀(σ:St)(H0 R0 H R:Hp),aw X.K σ H0 R0 H R Γ->∀(H':Hp)(Q:VK),ay R H'->Q (.int k) H'->gK X e σ H' Q
theorem u5 (i:Nat){y:Int}(hΓ:Γ[i]?=some (.im ai y))(hN:X.N[i]?=some x:=by rfl)(hv:autoParam (cb X.env.scope x) Tv)(hd:Ti x:=by decide)(S9:Tz x:=by decide):pM X (.Name x pos) Γ y:=λσ H0 R0 H R E H' Q s q=>by
 obtain⟨v,e,h⟩:=E.ent i _ hΓ;cases h
 exact eS (a8 hN hv hd S9) ⟨_,at_of e,q⟩
theorem Dm (i:Nat){ke ve le ue:Expr}{p1 p2:Pos}{k l v u:Int}(hk:pM X ke Γ k)(hl:pM X le Γ l)(hv:PE X ve (tC (.int v)))(hu:PE X ue (tC (.int u)))(W3:k≠l)(h:N (Γ.set i (.di (bU [(k,v),(l,u)]))))(hN:X.N.Nodup:=by first | assumption | decide)(hi:X.N[i]?=some x:=by rfl)(hx:autoParam (Loc X.env.scope x) UH)(hs:P9 (.Dict [some ke,some le] [ve,ue] p2) (some (.Name x p1)) pos.line X.env=pure false:=by rfl)(hf:autoParam (X.fn x=true∨X.env.scope.names.lookup x=some .local) UG):
 W1 X (.Assign [.Name x p1] (.Dict [some ke,some le] [ve,ue] p2) pos) Γ N T:=λσ H0 R0 H R E D dn dr=>by
 refine sS (jV hN hi hx (D4 (uB aO hv (uB aO hu Es)) rfl rfl (by simp) (by simp)) hs hf) λp hp=>?_;have sR:ay R (upd H p (.dK [])):=E.sub.trans (ay.fresh hp _);refine hk σ H0 R0 H R E _ _ sR ?_;refine hl σ H0 R0 H R E _ _ sR ?_;refine⟨aF,[(Sum.inl k,.int v),(Sum.inl l,.int u)],rfl,(by show 2<=15;decide),?_⟩;have E1:=E.grow (Ext.eC E.sub hp (.dK (cE (bU [(k,v),(l,u)]))));have e:upd (upd H p (.dK [])) p (.dK (lj [] [(Sum.inl k,.int v),(Sum.inl l,.int u)]))=upd H p (.dK (cE (bU [(k,v),(l,u)]))):=by
  rw[En];congr 2;show putK [((Sum.inl k:Key),V.int v)] (Sum.inl l) (.int u)=_;rw[n9 (.int u) (by
   rw[c8 (p:=((Sum.inl k:Key),V.int v)) (λz=>W3 (Sum.inl.inj z))];rfl)]
  rfl
 rw[e];exact dn _ _ R _ (E1.wK (u:=.dK (cE (bU [(k,v),(l,u)]))) (en:=.di (bU [(k,v),(l,u)])) i ⟨p,rfl,aF,E.sub.free hp⟩ (E.ext.h.free hp) λj e _ q w=>E.off hp j e q w) (ay.refl _) h
theorem Eb {iter:Expr}{xs:List PV}(hz:xs.length<=PZ)(h:EV X iter Γ ag (.tup xs) Γ1):IV X tg iter Γ ag xs Γ1:=by
 refine⟨_,Gb aO,λσ H0 R0 H R E Rq q=>h σ H0 R0 H R E _ λv H1 R1 E1 s1 e1=>?_⟩;cases e1 with
 | @tup a vs _ hp pp=>
   have VR:∀H' R':Hp,ay R1 R'->ay R' H'->cC X.K H' a vs:=λH' R' sR sH=>cC.of (sH _ _ (sR _ _ hp));refine⟨a,rfl,⟨_,VR H1 R1 (ay.refl _) E1.sub⟩,q _ H1 R1 E1 s1 hz λH' R' sR sH i=>⟨λx hx=>?_,λhi=>⟨_,VR H' R' sR sH,by rw[pp.pair.length];exact hi⟩⟩⟩;obtain⟨v,hv,hr⟩:=dg pp.pair hx;refine⟨⟨_,_,VR H' R' sR sH,hv⟩,λv2 H2 hy=>?_⟩;obtain⟨rfl,hy⟩:=hy;have:=hy _ (VR _ R' sR sH);rw[hv] at this;cases this
   exact⟨R',Ext.refl sH,hr.mono sR⟩
end
theorem lH (i:Nat){x:Str}{p p1 pos:Pos}{F:MJ}(hm:X.mg "len"=none)(hΓ:Γ[i]?=some (.di (bU F)))(hN:X.N[i]?=some x:=by rfl)(hv:autoParam (cb X.env.scope x) Tv)(hd:Ti x:=by decide)(S9:Tz x:=by decide)(hs:PU [.Name x p1] X.env=[(false,eval (.Name x p1) X.env)]:=by rfl)(hg:Gl X "len":=by rfl):EV X (.Call (.Name "len" p) [.Name x p1] [] pos) Γ ai (F.length:Int) Γ:=by
 intro σ H0 R0 H R E Q q;obtain⟨a,ea,ha,hR⟩:=E.ent i _ hΓ;refine eS (dX qJ hg hm Qq (aK (a8 hN hv hd S9) bo hs) (by decide) (by decide) hs) ⟨.ref a,at_of ea,a,_,rfl,ha,?_⟩;unfold cE bU;rw[M8,M8];exact q _ H R E (ay.refl _) rfl
abbrev je:=Str×Str×Int×Int×Int
def fU (w:je):PV:=.tup [.str w.1,.str w.2.1,.int w.2.2.1,.int w.2.2.2.1,.int w.2.2.2.2]
def mF:Rep je:=⟨λK H v w=>ag.R K H v (fU w),λs h=>ag.mono s h⟩
theorem GQ {K:Sk}{R:Hp}{v:V}{w:je}(h:mF.R K R v w):∃a,v= .ref a/\R a=some (.tup [.str w.1,.str w.2.1,.int w.2.2.1,.int w.2.2.2.1,.int w.2.2.2.2]):=by
 have h:gR R v (fU w):=h;unfold fU at h;cases h with
 | tup hp pp=>
   cases pp with
   | cons h1 t=>cases t with
     | cons h2 t=>cases t with
       | cons h3 t=>cases t with
         | cons h4 t=>cases t with
           | cons h5 t=>cases t;cases h1;cases h2;cases h3;cases h4;cases h5;exact⟨_,rfl,hp⟩
theorem vU {K:Sk}{R:Hp}:∀{vs:List V}{ws:List je},PySem.Paired (ag.R K R) vs (ws.map fU)->PySem.Paired (mF.R K R) vs ws
 | _,[],.nil=>.nil
 | _,_::_,.cons h t=>.cons h (vU t)
section
variable {X:Cx}{Γ Γ1:Ga}{α:Type}{N:Ga->Prop}{T:RT}
theorem EV.LC {e:Expr}{ws:List je}(h:EV X e Γ (ae ag) (ws.map fU) Γ1):EV X e Γ (ae mF) ws Γ1:=h.re λK R v ⟨a,vs,e,q,p,z⟩=>⟨a,vs,e,q,vU p,by rw[M8] at z;exact z⟩
theorem BP (i1 i2 i3 i4 i5:Nat){x1 x2 x3 x4 x5:Str}{k:Nat}{p1 p2 p3 p4 p5 pos:Pos}(hc:X.calm=true:=by rfl)(hN:X.N.Nodup:=by first | assumption | decide)(h1:X.N[i1]?=some x1:=by rfl)(l1:autoParam (Loc X.env.scope x1) UH)(f1:autoParam (X.fn x1=true∨X.env.scope.names.lookup x1=some .local) UG)(h2:X.N[i2]?=some x2:=by rfl)(l2:autoParam (Loc X.env.scope x2) UH)(f2:autoParam (X.fn x2=true∨X.env.scope.names.lookup x2=some .local) UG)(h3:X.N[i3]?=some x3:=by rfl)(l3:autoParam (Loc X.env.scope x3) UH)(f3:autoParam (X.fn x3=true∨X.env.scope.names.lookup x3=some .local) UG)(h4:X.N[i4]?=some x4:=by rfl)(l4:autoParam (Loc X.env.scope x4) UH)(f4:autoParam (X.fn x4=true∨X.env.scope.names.lookup x4=some .local) UG)(h5:X.N[i5]?=some x5:=by rfl)(l5:autoParam (Loc X.env.scope x5) UH)(f5:autoParam (X.fn x5=true∨X.env.scope.names.lookup x5=some .local) UG):
 BG X (.Tuple [.Name x1 p1,.Name x2 p2,.Name x3 p3,.Name x4 p4,.Name x5 p5] k pos) mF (λw Γ=>((((Γ.set i1 (.im aj w.1)).set i2 (.im aj w.2.1)).set i3 (.im ai w.2.2.1)).set i4 (.im ai w.2.2.2.1)).set i5 (.im ai w.2.2.2.2)):=λσ H0 R0 H R Γ v w E h Q q=>by
 obtain⟨a,rfl,ha⟩:=GQ h;exact gS (sY hc (eW (fq hN h1 l1 f1) (eW (fq hN h2 l2 f2) (eW (fq hN h3 l3 f3) (eW (fq hN h4 l4 f4) (eW (fq hN h5 l5 f5) pW)))))) ⟨a,_,rfl,cC.of (E.sub _ _ ha),rfl,_,_,rfl,_,_,rfl,_,_,rfl,_,_,rfl,_,_,rfl,rfl,q _ (((((E.set i1 (r:=aj) rfl).set i2 (r:=aj) rfl).set i3 rfl).set i4 rfl).set i5 rfl)⟩
theorem WS.unb (i:Nat){Uw:List Stmt}{a:Addr}{r:Rep α}{xs:List α}(hΓ:Γ[i]?=some (.ob (aE a r xs)))(h:WS X Uw (Γ.set i (.mu r xs)) N T):WS X Uw Γ N T:=λσ H0 R0 H R E D dn dr=>by
 obtain⟨ea,⟨vs,ha,pp⟩,hR⟩:=dv (E.ent i _ hΓ);refine h σ H0 R0 H R (E.tell (en:=.mu r xs) hΓ (by rw[ea];exact⟨a,vs,rfl,ha,hR,pp⟩) λb w=>?_) D dn dr;rw[ea] at w;exact w
theorem WS.JO (i:Nat){Uw:List Stmt}{F:MJ}(hΓ:Γ[i]?=some (.di (bU F)))(h:WS X Uw (Γ.set i (.im ij F)) N T):WS X Uw Γ N T:=λσ H0 R0 H R E D dn dr=>by
 obtain⟨a,ea,ha,hR⟩:=E.ent i _ hΓ;have h0:H0 a=none:=E.new i _ a hΓ rfl ea;have E1:aw X.K σ H0 R0 H R (Γ.set i .no):=E.tell (en:=.no) hΓ trivial λb w=>by cases w
 have off:Off a σ (Γ.set i .no):=λj e q w=>by
  rcases set_at q with⟨rfl,rfl,_⟩ | ⟨hj,q1⟩
  ·cases w
  ·exact hj (E.ds j i e _ a q1 hΓ w (cv.mpr ea))
 have E2:=E1.oG ha hR h0 off;have hl:i<Γ.length:=(M1.mp hΓ).1;have E3:=E2.tell (i:=i) (en:=.im ij F) (e0:=.no) (Ni hl) ⟨.ref a,ea,a,rfl,aF⟩ λb w=>by cases w
 rw[Og] at E3;exact h σ H0 R0 H _ E3 D (λσ2 H2 R2 Γ2 E4 s2=>dn σ2 H2 R2 Γ2 E4 ((ay.fresh hR _).trans s2)) dr
end
theorem Ba {a:Expr}{p pos:Pos}{F:MJ}(hm:X.mg "len"=none)(ha:EV X a Γ ij F Γ1)(hs:PU [a] X.env=[(false,eval a X.env)]:=by rfl)(hg:Gl X "len":=by rfl):EV X (.Call (.Name "len" p) [a] [] pos) Γ ai (F.length:Int) Γ1:=
 EV.cast (D6 (kvs:=bU F) hm (EV.rep ha λ_ _ q=>q) hs hg) (by unfold bU;rw[M8])
theorem xF {j:Nat}{pos:Pos}:EV X (.Constant .none j pos) Γ z8 () Γ:=λσ H0 R0 H R E Q q=>eS Iq (q .Tf H R E (ay.refl _) rfl)
section
variable {P:P2}{w:World}{K:Sk}{mg:MA}{base:Heap}{α:Type}
end
section
variable {X:Cx}{Γ Γ1:Ga}{α:Type}{N:Ga->Prop}{T:RT}
theorem Ag (i:Nat){x:Str}{e:Expr}{p1 pos:Pos}{F:MJ}{k:Int}(hu:X.A.units+1<cLine)(he:EV X e Γ ai k Γ)(hΓ:Γ[i]?=some (.di (bU F)))(hN:X.N[i]?=some x:=by rfl)(hv:autoParam (cb X.env.scope x) Tv)(hd:Ti x:=by decide)(S9:Tz x:=by decide)(hm:Qp .NotIn (.Name x p1)=false:=by first | exact oZ _ | with_unfolding_all rfl):TV X (.Compare e [.NotIn] [.Name x p1] pos) Γ (!(bJ F k).isSome) Γ:=by
 intro σ H0 R0 H R E Q q;refine tS (kS (kq hu aO (a8 hN hv hd S9)) hm) (he σ H0 R0 H R E _ λv H1 R1 E1 s1 e1=>?_);cases e1
 obtain⟨a,ea,ha,hR⟩:=E1.ent i _ hΓ;refine⟨.ref a,at_of ea,a,_,rfl,gH.k (k:=Sum.inl k) ha,_,rfl,?_⟩;rw[lx,D9];exact q H1 R1 E1 s1
theorem EV.Lg {e:Expr}(h:EV X e Γ z8 () Γ1):EV X e Γ ag .Tf Γ1:=h.re λK R v e=>by cases e;exact .Tf
def L1:mn:=⟨[],λ_ _ _ _=>True,λ_ _ h=>h,λ_ b hb=>by cases hb⟩
end
def Hg:V->List V->Hp->VK->Prop:=λx vs H Q=>∃l xs,x= .ref l/\vs=[]/\H l=some (.lst xs)/\Q .Tf (upd H l (.lst []))
theorem z9:zr X "list.clear" Hg:=by
 intro S3 s σ H x vs v us Q I rx rv h;obtain⟨l,xs,rfl,rfl,hH,q⟩:=h;cases rx
 have hus:=rv.zero;subst hus;obtain⟨z,S5,n,r,hl,e⟩:=I.lO hH;refine QD PySem.F.slot_list_clear ⟨_,e,rfl⟩ PySem.F.entry_list_clear (PySem.F.args_list_clear_1 _) (PySem.AutoSeq1.list_clear_list_0 l S5.toArray n (by rw[Nm];omega)) ⟨e,?_⟩;exact⟨.Tf,_,I.uI (its':=[]) hH e rfl .nil (O3 _),rfl,q⟩
theorem DC (i:Nat){x:Str}{p1 ap cp pos:Pos}{r:Rep α}{xs:List α}(hΓ:Γ[i]?=some (.mu r xs))(h:N (Γ.set i (.mu r [])))(hN:X.N[i]?=some x:=by rfl)(hv:autoParam (cb X.env.scope x) Tv)(hd:Ti x:=by decide)(S9:Tz x:=by decide)(Uj:P9 (.Call (.Attribute (.Name x p1) "clear" ap) [] [] cp) none pos.line X.env=pure false:=by rfl)(Tc:P6 (.Name x p1) "clear" X.env (eval (.Name x p1) X.env)=eval (.Name x p1) X.env:=by rfl)(Tb:(ap.endLine==cp.line)=true:=by rfl):
 W1 X (.Expr (.Call (.Attribute (.Name x p1) "clear" ap) [] [] cp) pos) Γ N T:=λσ H0 R0 H R E D dn dr=>by
 obtain⟨a,vs,ea,ha,hR,pp⟩:=E.ent i _ hΓ;refine sS (eo (zQ RC PySem.F.slot_list_clear PySem.F.type_list_clear z9 (a8 hN hv hd S9) Tc Tb) Uj) ⟨.ref a,at_of ea,.inl ⟨rfl,vs,aY.of ha⟩,?_⟩;refine⟨a,vs,rfl,rfl,ha,?_⟩;exact dn σ _ R _ (E.upd (en:=.mu r []) hΓ rfl ea hR ⟨a,_,rfl,aF,hR,.nil⟩) (ay.refl _) h
theorem jw {K:Sk}{n:Int}(R H:Hp)(v:V)(_:ay R H)(h:ag.R K R v (.int n)):fw K H v (.type "int"):=by cases h;exact .int _
theorem jE {K:Sk}{x:Str}(R H:Hp)(v:V)(_:ay R H)(h:ag.R K R v (.str x)):fw K H v (.type "str"):=by cases h;exact .str _
theorem AN {a b:Expr}{p pos:Pos}{es:MI}{k:Nat}{tp:Pos}{xs ys:List PV}(hm:X.mg "zip"=none)(ha:EV X a Γ ag (.tup xs) Γ1)(hb:EV X b Γ1 ag (.tup ys) Γ2)(hz:xs.length<=PZ)(hs:PU [a,b] X.env=[(false,eval a X.env),(false,eval b X.env)]:=by rfl)(TC:PU [b] X.env=[(false,eval b X.env)]:=by rfl)(hg:Gl X "zip":=by rfl):
 IV X (.Tuple es k tp) (.Call (.Name "zip" p) [a,b] [] pos) Γ (fD ag ag) (xs.zip ys) Γ2:=by
 refine⟨_,DW hg hm (aK aO (aK aO bo TC) (by rw[hs,TC])) hs TC,λσ H0 R0 H R E Rq q=>ha σ H0 R0 H R E _ λv H1 R1 E1 s1 e1=>hb σ H0 R0 H1 R1 E1 _ λv' H2 R2 E2 s2 e2=>?_⟩;cases e2 with
 | @tup b TK _ VU Uh=>
 cases ag.mono (K:=X.K) s2 e1 with
 | @tup a vs _ hp pp=>
   refine⟨a,b,vs,TK,rfl,cC.of (E2.sub _ _ hp),cC.of (E2.sub _ _ VU),q _ H2 R2 E2 (s1.trans s2) (by rw[NZ];exact O2 (Pe _ _) hz) λH' R' sR sH i=>⟨λy hy=>?_,λhi=>?_⟩⟩
   ·have hq:cC X.K H' a vs:=cC.of (sH _ _ (sR _ _ hp));have T6:cC X.K H' b TK:=cC.of (sH _ _ (sR _ _ VU));obtain⟨e1,e2⟩:=g7 hy;obtain⟨v,hv,hr⟩:=dg pp.pair e1;obtain⟨v',UM,Uo⟩:=dg Uh.pair e2;refine⟨⟨vs,TK,v,v',hq,T6,hv,UM⟩,λv2 H3 US=>?_⟩;obtain⟨p,x,x',U4,rfl,rfl,hy,Wy⟩:=US;have t1:=hy vs hq;have t2:=Wy _ T6;rw[hv] at t1;rw[UM] at t2;cases t1
    cases t2
    have s3:ay R' (upd R' p (.tup [v,v'])):=ay.fresh (sH.free U4) _;exact⟨upd R' p (.tup [v,v']),Ext.fresh sH U4 _,p,_,_,rfl,aF,(hr.mono sR).mono s3,(Uo.mono sR).mono s3⟩
   ·refine⟨vs,TK,cC.of (sH _ _ (sR _ _ hp)),cC.of (sH _ _ (sR _ _ VU)),?_⟩;rw[NZ] at hi;rw[pp.pair.length,Uh.pair.length];omega
end Fc
namespace K1
open PySem L2 Fc
open PySem.Spec hiding Row
open PyProof.Rows hiding St
open PySem.Builtin.Int (intBits)
variable {P:P2}{w:World}{K:Sk}{mg:MA}{base:Heap}{f:Addr}{fd:Qa}
abbrev ax (x:Int):Ent:=.im ai x
abbrev er (x:MC):Ent:=.im (ae ai) x
theorem mS {x y:Int}(h0:0<=x)(h1:x<4294967296):Rh x y:=.of_left (Q0 (by omega) (by omega))
theorem yp {n:Nat}{i:Int}(h0:0<=i)(h1:i<n):gT n i=some i.toNat:=by unfold gT;rw[SS h0,SS h1]
theorem aX {n:Nat}(h:n<=1000000):n<=PZ:=O2 h (by decide)
theorem bB {α:Type}{xs:List α}{i:Int}(d:α)(h0:0<=i)(h1:i<xs.length):cM xs i=some (xs.getD i.toNat d):=by
 rw[jT h0 h1,M4 (by omega),Na,M4 (by omega)];rfl
end K1
namespace K1
open PySem
variable {P:P2}{w:World}{K:Sk}{mg:MA}{base:Heap}{f:Addr}{fd:Qa}
abbrev top (i:Nat):Stmt:=PySem.Challenge.pw_fewcounters_k64_rows_by_names.main.body.getD i (.Pass ⟨0,0,0,0⟩)
abbrev D1:Nat:=16
abbrev Ao:Nat:=17
abbrev Du:Nat:=18
abbrev uK:Nat:=19
abbrev qh:Nat:=20
abbrev xh:Nat:=21
abbrev nO:Nat:=22
abbrev uX:Nat:=23
abbrev uW:Nat:=24
abbrev rq:Nat:=25
abbrev xO:Nat:=26
abbrev uf:Nat:=27
abbrev xA:Nat:=28
abbrev uk:Nat:=29
abbrev oS:Nat:=32
abbrev rp:Nat:=33
abbrev rm:Nat:=34
abbrev p6:Nat:=35
abbrev og:Nat:=36
abbrev xu:Nat:=37
abbrev pY:Nat:=38
abbrev rC:Nat:=39
abbrev nA:Nat:=40
abbrev qm:Nat:=41
abbrev nW:Nat:=42
abbrev oy:Nat:=43
abbrev uZ:Nat:=45
abbrev rn:Nat:=47
abbrev ub:Nat:=48
abbrev r6:Nat:=49
abbrev qr:Nat:=50
abbrev rD:Nat:=51
abbrev um:Nat:=52
abbrev rA:Nat:=53
abbrev rH:Nat:=54
abbrev sN:Nat:=55
abbrev n8:Nat:=56
abbrev rG:Nat:=57
abbrev tF:Nat:=58
abbrev qD:Nat:=59
abbrev rF:Nat:=60
abbrev tL:Nat:=61
abbrev GW:Nat:=62
end K1
namespace K1
open PySem L2 Fc
open PySem.Spec hiding Row
open PyProof.Rows hiding St
open PySem.Builtin.Int (intBits)
variable {P:P2}{w:World}{K:Sk}{mg:MA}{base:Heap}{f:Addr}{fd:Qa}
structure cP (K:Sk)(mg:MA):Prop where
 len:mg "len"=none
 min:mg "min"=none
 range:mg "range"=none
 int:mg "int"=none
 list:mg "list"=none
 zip:mg "zip"=none
 enumerate:mg "enumerate"=none
 reversed:mg "reversed"=none
 any:mg "any"=none
 all:mg "all"=none
def rK (c:Int):Nat->Int
 | 0=>c
 | n+1=>rK c n/2147483587
def gf (d k:Int):Int:=d%10 ^ 18+48271*(k+1)
def mQ (u k:Int):Int:=u*u%2147483629+69621*k
def tD (d k:Int):Int:=mQ (gf d k) k*mQ (gf d k) k%2147483587
def si (ns:MC)(k:Int):Int:=rK (ns.getD (k/8%63).toNat 0/10 ^ 18) (k%8).toNat
def rS (ns:MC)(k:Int):Bool:=decide (k/8%63<(ns.length:Int))&&decide (10 ^ 18<=ns.getD (k/8%63).toNat 0)
def aR (ns:MC)(k:Int):Int:=
 if rS ns k=true/\0<si ns k then si ns k%2147483587
 else tD (if 0<ns.length then ns.getD (k%(ns.length:Int)).toNat 0 else 0) k
theorem vM (ns:MC)(k:Int):0<=aR ns k/\aR ns k<2147483587:=by
 unfold aR;split
 ·exact⟨MW _ (by decide),MV _ (by decide)⟩
 ·unfold tD;exact⟨MW _ (by decide),MV _ (by decide)⟩
section
abbrev ya:Stmt:=top rn
abbrev K2:ME:=["_law_script","_law_k","_law_at","_law_cell","_law_j","_law_number"]
theorem HR:aN K2 ["_law_script","_law_k"] (ao ya):=TQ
structure z4 (ns:MC):Prop where
 l:ns.length<=63
 b:∀n∈ns,intBits n<=2 ^ 20
def K9:dI:=λK ps T=>∃(ns:MC)(k:Int),ps=[⟨bK,ns⟩,⟨ai,k⟩]/\z4 ns/\0<=k/\k<=1000000/\T=dq K ai (· =aR ns k)
theorem Kh (M:cP K mg)(Df:Def K mg "_law_mixed" ya ["_law_script","_law_k"]):aM P w K mg base "_law_mixed" 1 (a9 K9 K):=by
 have nd:=HR.nd;refine bR Df HR (λf S6 A outer s H E qs T hr hS=>?_);obtain⟨ns,k,rfl,hs,k0,k1,rfl⟩:=hS;have h63:=hs.l;change WS _ _ [.im bK ns,ax k,.no,.no,.no,.no] _ _;have a0:=MW (k/8) (show(63:Int)≠0 by decide);refine ah (bE 2 (da (kQ (aa 1 rfl) ev_int ⟨by decide,by decide⟩) ev_int (by decide)) ?_);change WS _ _ [.im bK ns,ax k,ax (k/8%63),.no,.no,.no] _ _;have rest:∀e3 e4:Ent,¬(rS ns k=true/\0<si ns k)->WS (eN d8 P w K mg base K2 "_law_mixed" (ao ya) f S6 A outer s H E).iq ((br ya).drop 2) [.im bK ns,ax k,ax (k/8%63),e3,e4,.no] (λ_=>False) (dq K ai (· =aR ns k)):=by
  intro e3 e4 hn;refine ah (bE 3 ev_int ?_);change WS _ _ [.im bK ns,ax k,ax (k/8%63),ax 0,e4,.no] _ _;refine bL (N1:=λΓ=>Γ=[.im bK ns,ax k,ax (k/8%63),ax (if 0<ns.length then ns.getD (k%(ns.length:Int)).toNat 0 else 0),e4,.no]) (aL (au jS (qE M.len (aa 0 rfl)) ev_int) (λh=>?_) (λh=>aA ?_)) ?_
  ·have hl:(0:Int)<ns.length:=SU h;have hmin:(if(ns.length:Int)<63 then(ns.length:Int) else 63)=ns.length:=by
    by_cases q:(ns.length:Int)<63
    ·rw[SS q]
    ·rw[SR q];omega
   have q0:=MW k (show(ns.length:Int)≠0 by omega);have q1:=MV k hl;refine ak (bE 3 (tN (aa 0 rfl) (da (aa 1 rfl) (EV.cast (DL M.min (aq ev_int (aq (qE M.len (aa 0 rfl)) aJ))) hmin) hl) (bB 0 q0 q1)) ?_);rw[SS (by omega:0<ns.length)];rfl
  ·have hl:¬(0:Int)<ns.length:=SV h;rw[SR (by omega)]
  rintro _ rfl;have e:aR ns k=tD (if 0<ns.length then ns.getD (k%(ns.length:Int)).toNat 0 else 0) k:=by unfold aR;rw[SR hn]
  rw[e];generalize (if 0<ns.length then ns.getD (k%(ns.length:Int)).toNat 0 else 0)=d;have u0:=MW d (show(10:Int) ^ 18≠0 by decide);have u1:=MV d (show(0:Int)<10 ^ 18 by decide);refine ah (bE 5 (y:=gf d k) (bZ (da (aa 3 rfl) (sC ev_int ev_int ⟨by decide,by decide,by decide⟩) (by decide)) (lB ev_int (bZ (aa 1 rfl) ev_int) (mS (by decide) (by decide)))) ?_);change WS _ _ [.im bK ns,ax k,ax (k/8%63),ax d,e4,ax (gf d k)] _ _;have n0:0<=gf d k:=by unfold gf;omega
  have n1:gf d k<2 ^ 63:=by unfold gf;omega
  have m0:=MW (gf d k*gf d k) (show(2147483629:Int)≠0 by decide);have m1:=MV (gf d k*gf d k) (show(0:Int)<2147483629 by decide);refine ah (bE 5 (y:=mQ (gf d k) k) (bZ (da (lB (aa 5 rfl) (aa 5 rfl) (Ce n0 n1)) ev_int (by decide)) (lB ev_int (aa 1 rfl) (mS (by decide) (by decide)))) ?_);change WS _ _ [.im bK ns,ax k,ax (k/8%63),ax d,e4,ax (mQ (gf d k) k)] _ _;have v0:0<=mQ (gf d k) k:=by unfold mQ;omega
  have v1:mQ (gf d k) k<2 ^ 63:=by unfold mQ;omega
  exact ak (bb (da (lB (aa 5 rfl) (aa 5 rfl) (Ce v0 v1)) ev_int (by decide)) rfl)
 refine ah (aL (TW.tv (cD (au mv (aa 2 rfl) (qE M.len (aa 0 rfl))) (λh=>cZ (au Ml (tN (aa 0 rfl) (aa 2 rfl) (bB 0 a0 (SU h))) (sC ev_int ev_int ⟨by decide,by decide,by decide⟩))))) (λh=>?_) (λh=>aA (rest _ _ (λ⟨q,_⟩=>by rw[show rS ns k=false from h] at q;cases q))))
 have XT:rS ns k=true:=h;obtain⟨hl,_⟩:=Bool.and_eq_true_iff.mp XT;have hl:=SU hl;refine ah (bE 3 (sX (tN (aa 0 rfl) (aa 2 rfl) (bB 0 a0 hl)) (sC ev_int ev_int ⟨by decide,by decide,by decide⟩) ⟨by decide,by decide⟩) ?_);change WS _ _ [.im bK ns,ax k,ax (k/8%63),ax (ns.getD (k/8%63).toNat 0/10 ^ 18),.no,.no] _ _;have j0:=MW k (show(8:Int)≠0 by decide);have j1:=MV k (show(0:Int)<8 by decide);refine bL (N1:=λΓ=>∃e4,Γ=[.im bK ns,ax k,ax (k/8%63),ax (si ns k),e4,.no]) (bP (λi Γ=>∃e4,Γ=[.im bK ns,ax k,ax (k/8%63),ax (rK (ns.getD (k/8%63).toNat 0/10 ^ 18) i),e4,.no]) (fK M.range (da (aa 1 rfl) ev_int (by decide)) ⟨by omega,by omega⟩) (bt 4) ⟨_,rfl⟩ (λi j Γ _ hΓ=>?_) (λΓ hΓ=>?_)) ?_
 ·obtain⟨e4,rfl⟩:=hΓ;change WS _ _ [.im bK ns,ax k,ax (k/8%63),ax (rK (ns.getD (k/8%63).toNat 0/10 ^ 18) i),ax j,.no] _ _;exact ak (bE 3 (sX (aa 3 rfl) ev_int ⟨by decide,by decide⟩) ⟨_,rfl⟩)
 ·obtain⟨e4,rfl⟩:=hΓ;rw[ck];exact⟨e4,rfl⟩
 rintro _ ⟨e4,rfl⟩;refine ak (aL (au jS (aa 3 rfl) ev_int) (λh=>?_) (λh=>aA (rest _ _ (λ⟨_,q⟩=>SQ q (SV h)))));have h:0<si ns k:=SU h;exact ak (bb (da (aa 3 rfl) ev_int (by decide)) (by unfold aR;rw[SS ⟨XT,h⟩]))
abbrev bF:Rep (MC ⊕ Int):=tQ bK ai
abbrev bq (ns:MC)(k c:Int):List (MC ⊕ Int):=[.inl ns,.inr k,.inr c]
abbrev IQ:Stmt:=top ub
theorem Ik:aN ["_law_pen"] ["_law_pen"] (ao IQ):=TQ
def vx:mx (MC ⊕ Int):=λK xs ps T=>∃(ns:MC)(k c:Int),xs=bq ns k c/\ps=[]/\z4 ns/\0<=k/\k<1000000/\T=λxs'=>dq K ai λz=>xs'=bq ns (k+1) c/\z=aR ns (k+1)
theorem J9 (CM:aM P w K mg base "_law_mixed" 1 (a9 K9 K))(Df:Def K mg "_law_pull" IQ ["_law_pen"]):aM P w K mg base "_law_pull" 2 (gX bF vx K):=by
 have nd:=Ik.nd;refine Dh Df Ik (λf S6 A outer s H E a xs qs T hr hS=>?_);obtain⟨ns,k,c,rfl,rfl,hs,k0,k1,rfl⟩:=hS;change WS _ _ [.ob (aE a bF (bq ns k c))] _ _;refine ah (dZ 0 (j:=1) (EV.inr (bZ (EV.nK (dc 0 ev_int rfl (y:=(Sum.inr k:MC ⊕ Int)) rfl)) ev_int)) ev_int rfl rfl rfl ?_);change WS _ _ [.ob (aE a bF (bq ns (k+1) c))] _ _;exact ak (F8 0 (aP CM hr (aq (EV.ofl (dc 0 ev_int rfl (y:=(Sum.inl ns:MC ⊕ Int)) rfl)) (aq (EV.nK (dc 0 ev_int rfl (y:=(Sum.inr (k+1):MC ⊕ Int)) rfl)) aJ)) ⟨ns,k+1,rfl,hs,by omega,by omega,rfl⟩) rfl ⟨rfl,rfl⟩)
end
abbrev gk:Str:="abcdefghijklmnopqrstuvwxyz"
abbrev gj:ME:=["part","end","do","call","if","else","while","leave","back"]
def md (m:Int):Nat->Str
 | 0=>""
 | n+1=>md m n++kG gk ((m/8+(n:Int)*(m/88))%26).toNat
def Te (n:Int):Str:=
 if n%4=0 then gj.getD (n/4%9).toNat ""
 else if n%4=1 then gj.getD (n/4%9).toNat ""++kG gk (n/4/9%26).toNat
 else md (n/4) (1+n/4%8).toNat
structure cI (x:Str):Prop where
 l1:1<=x.length
 l8:x.length<=8
 az:∀c∈x.cps.toList,97<=c/\c<=122
theorem len_app (x y:Str):(x++y).length=x.length+y.length:=by
 show(x.cps++y.cps).size=_;rw[Array.size_append];rfl
theorem qg {x y:Str}{c:Nat}(h:c∈(x++y).cps.toList):c∈x.cps.toList∨c∈y.cps.toList:=by
 have e:(x++y).cps.toList=x.cps.toList++y.cps.toList:=by show(x.cps++y.cps).toList=_;simp
 rw[e] at h;exact Nj.mp h
theorem Hs (i:Nat)(h:i<26):97<=gk.cps.getD i 0/\gk.cps.getD i 0<=122:=by
 have:∀j:Fin 26,97<=gk.cps.getD j.val 0/\gk.cps.getD j.val 0<=122:=by decide +kernel
 exact this ⟨i,h⟩
theorem yo {i:Nat}(h:i<26):∀c∈(kG gk i).cps.toList,97<=c/\c<=122:=by
 intro c hc;have:c=gk.cps.getD i 0:=by simpa[kG] using hc
 rw[this];exact Hs i h
theorem K3 (x:Int):(x%26).toNat<26:=by
 have:=MW x (show(26:Int)≠0 by decide);have:=MV x (show(0:Int)<26 by decide);omega
theorem ng (m:Int):∀n,(md m n).length=n
 | 0=>rfl
 | n+1=>by rw[md,len_app,ng m n];rfl
theorem yS (m:Int):∀n,∀c∈(md m n).cps.toList,97<=c/\c<=122
 | 0,c,h=>by
   have e:(md m 0).cps.toList=[]:=rfl;rw[e] at h;cases h
 | n+1,c,h=>by
   rcases qg h with z | z
   ·exact yS m n c z
   ·exact yo (K3 _) c z
theorem zC (i:Nat)(h:i<9):cI (gj.getD i "")/\(gj.getD i "").length<=5:=by
 have:∀j:Fin 9,(1<=(gj.getD j.val "").length/\(gj.getD j.val "").length<=5)/\∀c∈(gj.getD j.val "").cps.toList,97<=c/\c<=122:=by decide +kernel
 obtain⟨⟨a,b⟩,c⟩:=this ⟨i,h⟩;exact⟨⟨a,O2 b (by decide),c⟩,b⟩
theorem ir (n:Int):cI (Te n):=by
 have q0:=MW (n/4) (show(9:Int)≠0 by decide);have q1:=MV (n/4) (show(0:Int)<9 by decide);have r0:=MW (n/4) (show(8:Int)≠0 by decide);have r1:=MV (n/4) (show(0:Int)<8 by decide);obtain⟨w1,w2⟩:=zC (n/4%9).toNat (by omega);unfold Te;split
 ·exact w1
 split
 ·refine⟨?_,?_,λc hc=>?_⟩
  ·rw[len_app];have:=w1.l1;omega
  ·rw[len_app];show _+1<=8;omega
  ·rcases qg hc with z | z
   ·exact w1.az c z
   ·exact yo (K3 _) c z
 ·exact⟨by rw[ng];omega,by rw[ng];omega,yS _ _⟩
section
abbrev Gn:Stmt:=top r6
abbrev nNM:ME:=["_law_number","_law_letters","_law_words_here","_law_way","_law_name_here","_law_k"]
theorem Gq:aN nNM ["_law_number"] (ao Gn):=TQ
def BE:dI:=λK ps T=>∃n:Int,ps=[⟨ai,n⟩]/\0<=n/\n<2147483587/\T=dq K aj (· =Te n)
theorem J4 (M:cP K mg)(Df:Def K mg "_law_name" Gn ["_law_number"]):aM P w K mg base "_law_name" 1 (a9 BE K):=by
 have nd:=Gq.nd;refine bR Df Gq (λf S6 A outer s H E qs T hr hS=>?_);obtain⟨n,rfl,n0,n1,rfl⟩:=hS;have q0:=MW (n/4) (show(9:Int)≠0 by decide);have q1:=MV (n/4) (show(0:Int)<9 by decide);have r0:=MW (n/4) (show(8:Int)≠0 by decide);have r1:=MV (n/4) (show(0:Int)<8 by decide);have ll:gk.length=26:=by decide +kernel
 have lz:gk.length<=PZ:=by rw[ll];decide
 change WS _ _ [ax n,.no,.no,.no,.no,.no] _ _;refine ah (bE 1 (y:=gk) ar ?_);refine ah (bE 2 (y:=gj) (bg.im (aV (r:=aj) (av ar (av ar (av ar (av ar (av ar (av ar (av ar (av ar (av ar aQ))))))))) (by show 9<=PZ;decide))) ?_);refine ah (bE 3 (da (aa 0 rfl) ev_int (by decide)) ?_);refine ah (bE 0 (kQ (aa 0 rfl) ev_int ⟨by decide,by decide⟩) ?_);change WS _ _ [ax (n/4),.im aj gk,.im (ae aj) gj,ax (n%4),.no,.no] _ _;have hw:cM gj (n/4%9)=some (gj.getD (n/4%9).toNat ""):=bB (xs:=gj) "" q0 (by show _<((9:Nat):Int);omega);refine ah (aL (au jR (aa 3 rfl) ev_int) (λh=>?_) (λh=>aA ?_))
 ·have h:n%4=0:=SU h;exact ak (bb (aB (aa 2 rfl) (da (aa 0 rfl) ev_int (by decide)) hw) (by unfold Te;rw[SS h]))
 have h0:¬n%4=0:=SV h;have wl:=(zC (n/4%9).toNat (by omega)).2;have s0:=MW (n/4/9) (show(26:Int)≠0 by decide);have s1:=MV (n/4/9) (show(0:Int)<26 by decide);refine ah (aL (au jR (aa 3 rfl) ev_int) (λh=>?_) (λh=>aA ?_))
 ·have h:n%4=1:=SU h;exact ak (bb (qq (aB (aa 2 rfl) (da (aa 0 rfl) ev_int (by decide)) hw) (yW (aa 1 rfl) (da (kQ (aa 0 rfl) ev_int ⟨by decide,by decide⟩) ev_int (by decide)) s0 (by rw[ll];exact s1) lz) (O2 (show _<=6 by show _+1<=6;omega) (by decide))) (by unfold Te;rw[SR h0,SS h]))
 have h1:¬n%4=1:=SV h;refine ah (bE 4 (y:=md (n/4) 0) ar ?_);change WS _ _ [ax (n/4),.im aj gk,.im (ae aj) gj,ax (n%4),.im aj (md (n/4) 0),.no] _ _;refine bL (N1:=λΓ=>∃e5,Γ=[ax (n/4),.im aj gk,.im (ae aj) gj,ax (n%4),.im aj (Te n),e5]) (bP (λi Γ=>∃e5,Γ=[ax (n/4),.im aj gk,.im (ae aj) gj,ax (n%4),.im aj (md (n/4) i),e5]) (fK M.range (bZ ev_int (da (aa 0 rfl) ev_int (by decide))) ⟨by omega,by omega⟩) (bt 5) ⟨_,rfl⟩ (λi j Γ hj hΓ=>?_) (λΓ hΓ=>?_)) ?_
 ·obtain⟨e5,rfl⟩:=hΓ;obtain⟨jl,ej⟩:=g8 hj;obtain rfl:j=(i:Int):=by omega
  have t0:=MW (n/4/8+(i:Int)*(n/4/88)) (show(26:Int)≠0 by decide);have t1:=MV (n/4/8+(i:Int)*(n/4/88)) (show(0:Int)<26 by decide);change WS _ _ [ax (n/4),.im aj gk,.im (ae aj) gj,ax (n%4),.im aj (md (n/4) i),ax (i:Int)] _ _;exact ak (bE 4 (y:=md (n/4) (i+1)) (qq (aa 4 rfl) (yW (aa 1 rfl) (da (bZ (kQ (aa 0 rfl) ev_int ⟨by decide,by decide⟩) (lB (aa 5 rfl) (kQ (aa 0 rfl) ev_int ⟨by decide,by decide⟩) (mS (by omega) (by omega)))) ev_int (by decide)) t0 (by rw[ll];exact t1) lz) (by rw[ng];exact O2 (show _<=20 by show _+1<=20;omega) (by decide))) ⟨_,rfl⟩)
 ·obtain⟨e5,rfl⟩:=hΓ;rw[ck];refine⟨e5,?_⟩;have e:Te n=md (n/4) (1+n/4%8).toNat:=by unfold Te;rw[SR h0,SR h1]
  rw[e]
 rintro _ ⟨e5,rfl⟩;exact ak (bb (aa 4 rfl) rfl)
end
inductive Th
 | Tr (x:Str)
 | call (j:Int)
 | ifs (x:Str) (a b:List Th)
 | Ta (x:Str) (a:List Th)
 | leave
 | back
mutual
def fG:Th->PV
 | .Tr x=>.lst [.str "do",.str x]
 | .call j=>.lst [.str "call",.int j]
 | .ifs x a b=>.lst [.str "if",.str x,.lst (ba a),.lst (ba b)]
 | .Ta x a=>.lst [.str "while",.str x,.lst (ba a)]
 | .leave=>.lst [.str "leave"]
 | .back=>.lst [.str "back"]
def ba:List Th->List PV
 | []=>[]
 | t::ts=>fG t::ba ts
end
theorem ee:∀ts:List Th,ba ts=ts.map fG
 | []=>by rw[ba];rfl
 | t::ts=>by rw[ba,ee ts];rfl
mutual
def eu:Th->Bool
 | .leave=>false
 | .back=>false
 | .ifs _ a b=>c9 a ||c9 b
 | _=>true
def c9:List Th->Bool
 | []=>true
 | t::ts=>eu t&&c9 ts
end
mutual
def fh:Th->Nat
 | .ifs _ a b=>1+max (dh a) (dh b)
 | .Ta _ a=>1+dh a
 | _=>0
def dh:List Th->Nat
 | []=>0
 | t::ts=>max (fh t) (dh ts)
end
mutual
def cn:Th->Nat
 | .Tr _=>1
 | .call _=>1
 | .ifs _ a b=>2+bW a+bW b
 | .Ta _ a=>2+bW a
 | _=>0
def bW:List Th->Nat
 | []=>0
 | t::ts=>cn t+bW ts
end
section
variable {ns SY:MC}{n b:Nat}
theorem jF:∀a b:List Th,bW (a++b)=bW a+bW b
 | [],b=>by rw[bW];simp
 | t::a,b=>by rw[N6,bW,bW,jF a b];omega
theorem kT:∀a b:List Th,dh (a++b)=max (dh a) (dh b)
 | [],b=>by rw[dh];simp
 | t::a,b=>by rw[N6,dh,dh,kT a b];omega
abbrev Pn:=Int×Int
def Tw (ns SY:MC)(sub:Option (Int->Pn->List Th×Pn))(S0:Int)(s:Pn):Th×Pn:=
 if aR ns (s.1+1)%12=0/\0<S0 then(.leave,(s.1+2,s.2))
 else if aR ns (s.1+1)%12=1 then(.back,(s.1+2,s.2))
 else if 9<aR ns (s.1+1)%12/\0<SY.length then(.call (SY.getD (aR ns (s.1+3)%(SY.length:Int)).toNat 0),(s.1+3,s.2-1))
 else match sub with
  | some L=>
    if(3<aR ns (s.1+1)%12/\aR ns (s.1+1)%12<7)/\1<s.2 then(.ifs (Te (aR ns (s.1+2))) (L S0 (s.1+2,s.2-2)).1 (L S0 (L S0 (s.1+2,s.2-2)).2).1,(L S0 (L S0 (s.1+2,s.2-2)).2).2)
    else if(6<aR ns (s.1+1)%12/\aR ns (s.1+1)%12<10)/\1<s.2 then(.Ta (Te (aR ns (s.1+2))) (L (S0+1) (s.1+2,s.2-2)).1,(L (S0+1) (s.1+2,s.2-2)).2)
    else(.Tr (Te (aR ns (s.1+2))),(s.1+2,s.2-1))
  | none=>(.Tr (Te (aR ns (s.1+2))),(s.1+2,s.2-1))
def oi:Th->Bool
 | .back=>true
 | _=>false
def hW (ns SY:MC)(sub:Option (Int->Pn->List Th×Pn))(tp:Bool)(S0:Int)(x:List Th×Pn):List Th×Pn:=
 if 0<x.2.2/\c9 x.1=true then
  if tp=true/\x.1.length=0/\oi (Tw ns SY sub S0 x.2).1=true then(x.1++[.Tr "back"],((Tw ns SY sub S0 x.2).2.1,(Tw ns SY sub S0 x.2).2.2-1))
  else(x.1++[(Tw ns SY sub S0 x.2).1],(Tw ns SY sub S0 x.2).2)
 else x
def Tt {α:Type}(f:α->α):Nat->α->α
 | 0,x=>x
 | n+1,x=>f (Tt f n x)
def eV (ns:MC)(tp:Bool)(k:Int):Nat:=(aR ns (k+1)%4+2*(if tp then 1 else 0)).toNat
def Tn (ns SY:MC):Nat->Bool->Int->Pn->List Th×Pn
 | 0,tp,S0,s=>Tt (hW ns SY none tp S0) (eV ns tp s.1) ([],(s.1+1,s.2))
 | n+1,tp,S0,s=>Tt (hW ns SY (some (Tn ns SY n false)) tp S0) (eV ns tp s.1) ([],(s.1+1,s.2))
structure BY (n b:Nat)(s:Pn)(r:List Th×Pn):Prop where
 dp:dh r.1<=n
 c:(bW r.1:Int)+r.2.2=s.2/\0<=r.2.2
 k:s.1<=r.2.1/\r.2.1<=s.1+b
 l:r.1.length<=5
def Cb (n b:Nat)(L:Int->Pn->List Th×Pn):Prop:=∀lp s,0<=s.2->BY n b s (L lp s)
theorem vQ (ns:MC)(tp:Bool)(k:Int):eV ns tp k<=5:=by
 unfold eV;have a:=MW (aR ns (k+1)) (show(4:Int)≠0 by decide);have b:=MV (aR ns (k+1)) (show(0:Int)<4 by decide);cases tp<;>simp<;>omega
structure pV (n:Nat)(b:Nat)(s:Pn)(r:Th×Pn):Prop where
 dp:fh r.1<=n
 c:(cn r.1:Int)+r.2.2=s.2/\0<=r.2.2
 k:s.1<=r.2.1/\r.2.1<=s.1+b
theorem sf (ns SY:MC)(S0:Int)(s:Pn)(h:0<s.2):pV 0 3 s (Tw ns SY none S0 s):=by
 unfold Tw;split
 ·exact⟨by simp[fh],⟨by simp[cn],by show 0<=s.2;omega⟩,by constructor<;>simp<;>omega⟩
 split
 ·exact⟨by simp[fh],⟨by simp[cn],by show 0<=s.2;omega⟩,by constructor<;>simp<;>omega⟩
 split
 ·exact⟨by simp[fh],⟨by simp[cn];omega,by show 0<=s.2-1;omega⟩,by constructor<;>simp<;>omega⟩
 ·exact⟨by simp[fh],⟨by simp[cn];omega,by show 0<=s.2-1;omega⟩,by constructor<;>simp<;>omega⟩
theorem sW {L:Int->Pn->List Th×Pn}(hL:Cb n b L)(S0:Int)(s:Pn)(h:0<s.2):pV (n+1) (3+2*b) s (Tw ns SY (some L) S0 s):=by
 unfold Tw;split
 ·exact⟨by simp[fh],⟨by simp[cn],by show 0<=s.2;omega⟩,by constructor<;>simp<;>omega⟩
 split
 ·exact⟨by simp[fh],⟨by simp[cn],by show 0<=s.2;omega⟩,by constructor<;>simp<;>omega⟩
 split
 ·exact⟨by simp[fh],⟨by simp[cn];omega,by show 0<=s.2-1;omega⟩,by constructor<;>simp<;>omega⟩
 dsimp only;split
 ·rename_i hh;have c2:1<s.2:=hh.2;obtain⟨d1,⟨a1,a2⟩,k1,_⟩:=hL S0 (s.1+2,s.2-2) (by show 0<=s.2-2;omega);obtain⟨d2,⟨a3,a4⟩,k2,_⟩:=hL S0 (L S0 (s.1+2,s.2-2)).2 a2;dsimp only at a1 k1;refine⟨by simp only[fh];omega,⟨by simp only[cn];push_cast;omega,a4⟩,?_⟩;constructor
  ·exact M0 (by omega) (M0 k1.1 k2.1)
  ·show(L S0 (L S0 (s.1+2,s.2-2)).2).2.1<=s.1+((3+2*b:Nat):Int);have:=k2.2;have:=k1.2;push_cast;omega
 split
 ·rename_i _ hh;have c2:1<s.2:=hh.2;obtain⟨d1,⟨a1,a2⟩,k1,_⟩:=hL (S0+1) (s.1+2,s.2-2) (by show 0<=s.2-2;omega);dsimp only at a1 k1;refine⟨by simp only[fh];omega,⟨by simp only[cn];push_cast;omega,a2⟩,?_⟩;constructor
  ·exact M0 (by omega) k1.1
  ·show(L (S0+1) (s.1+2,s.2-2)).2.1<=s.1+((3+2*b:Nat):Int);have:=k1.2;push_cast;omega
 ·exact⟨by simp[fh],⟨by simp[cn];omega,by show 0<=s.2-1;omega⟩,by constructor<;>simp<;>omega⟩
structure pJ (n b i:Nat)(k0 c0:Int)(x:List Th×Pn):Prop where
 dp:dh x.1<=n
 c:(bW x.1:Int)+x.2.2=c0/\0<=x.2.2
 k:k0<=x.2.1/\x.2.1<=k0+b*i
 l:x.1.length<=i
theorem pJ.step {i:Nat}{k0 c0:Int}{x:List Th×Pn}{sub:Option (Int->Pn->List Th×Pn)}{tp:Bool}{S0:Int}(h:pJ n b i k0 c0 x)(ht:0<x.2.2->pV n b x.2 (Tw ns SY sub S0 x.2))(hb:1<=b):pJ n b (i+1) k0 c0 (hW ns SY sub tp S0 x):=by
 have hm:((b*(i+1):Nat):Int)=(b*i:Nat)+b:=by push_cast;rw[Int.mul_add];omega
 have hk:=h.k;have hc:=h.c;have hl:=h.l;have hd:=h.dp;unfold hW;split
 ·rename_i hh;have t:=ht hh.1;have tk:=t.k;have tc:=t.c;split
  ·rename_i h2;have hbk:(Tw ns SY sub S0 x.2).1= .back:=by
    have:=h2.2.2;cases e:(Tw ns SY sub S0 x.2).1<;>rw[e] at this<;>first | rfl | cases this
   rw[hbk] at tc;have hrw:(cn .back:Int)=0:=by simp[cn]
   rw[hrw] at tc;refine⟨?_,⟨?_,?_⟩,⟨?_,?_⟩,?_⟩
   ·rw[kT];simp[dh,fh];exact hd
   ·rw[jF];simp[bW,cn];omega
   ·show 0<=(Tw ns SY sub S0 x.2).2.2-1;have:=hh.1;omega
   ·exact M0 hk.1 tk.1
   ·show(Tw ns SY sub S0 x.2).2.1<=k0+((b*(i+1):Nat):Int);have:=tk.2;have:=hk.2;rw[hm];push_cast at *;omega
   ·simp;omega
  ·refine⟨?_,⟨?_,tc.2⟩,⟨?_,?_⟩,?_⟩
   ·rw[kT];have:=t.dp;simp[dh];omega
   ·rw[jF];simp[bW];omega
   ·exact M0 hk.1 tk.1
   ·show(Tw ns SY sub S0 x.2).2.1<=k0+((b*(i+1):Nat):Int);have:=tk.2;have:=hk.2;rw[hm];push_cast at *;omega
   ·simp;omega
 ·refine⟨hd,hc,⟨hk.1,?_⟩,by omega⟩;have:=hk.2;show x.2.1<=k0+((b*(i+1):Nat):Int);rw[hm];push_cast at *;omega
def kP:Nat->Nat
 | 0=>16
 | n+1=>1+5*(3+2*kP n)
theorem sO {ns SY:MC}{sub:Option (Int->Pn->List Th×Pn)}{n b:Nat}(hb:1<=b)(hT:∀(lp:Int)(s:Pn),0<s.2->pV n b s (Tw ns SY sub lp s))(tp:Bool)(lp:Int)(s:Pn)(hs:0<=s.2):∀m,pJ n b m (s.1+1) s.2 (Tt (hW ns SY sub tp lp) m ([],(s.1+1,s.2)))
 | 0=>⟨by simp[Tt,dh],⟨by simp[Tt,bW],hs⟩,⟨MZ _,by simp[Tt]⟩,by simp[Tt]⟩
 | m+1=>pJ.step (sO hb hT tp lp s hs m) (λh=>hT lp _ h) hb
theorem zH {sub:Option (Int->Pn->List Th×Pn)}(hb:1<=b)(hT:∀(lp:Int)(s:Pn),0<s.2->pV n b s (Tw ns SY sub lp s))(tp:Bool)(lp:Int)(s:Pn)(hs:0<=s.2):BY n (1+5*b) s (Tt (hW ns SY sub tp lp) (eV ns tp s.1) ([],(s.1+1,s.2))):=by
 have h:=sO hb hT tp lp s hs (eV ns tp s.1);have hm:=vQ ns tp s.1;have hmul:b*eV ns tp s.1<=b*5:=Nat.mul_le_mul_left b hm;refine⟨h.dp,h.c,⟨by have:=h.k.1;omega,?_⟩,O2 h.l hm⟩;have:=h.k.2;omega
theorem kN (ns SY:MC):∀(n:Nat)(tp:Bool),Cb n (kP n) (Tn ns SY n tp)
 | 0,tp=>λlp s hs=>zH (b:=3) (by decide) (λlp s h=>sf ns SY lp s h) tp lp s hs
 | n+1,tp=>λlp s hs=>zH (b:=3+2*kP n) (by omega) (λlp s h=>sW (kN ns SY n false) lp s h) tp lp s hs
def cz:Th->Str
 | .Tr _=>"do"
 | .call _=>"call"
 | .ifs _ _ _=>"if"
 | .Ta _ _=>"while"
 | .leave=>"leave"
 | .back=>"back"
def dY:Th->List PV
 | .Tr x=>[.str "do",.str x]
 | .call j=>[.str "call",.int j]
 | .ifs x a b=>[.str "if",.str x,.lst (ba a),.lst (ba b)]
 | .Ta x a=>[.str "while",.str x,.lst (ba a)]
 | .leave=>[.str "leave"]
 | .back=>[.str "back"]
theorem dE (t:Th):fG t= .lst (dY t):=by cases t<;>rw[fG]<;>rfl
theorem IZ (t:Th):cM (dY t) 0=some (.str (cz t)):=by cases t<;>rfl
end
section
variable {X:Cx}{Γ Γ1:Ga}
theorem iM {a:Expr}{j:Nat}{p1 pos:Pos}{t:Th}(h:EV X a Γ ag (fG t) Γ1):EV X (.Subscript a (.Constant (.int 0) j p1) pos) Γ aj (cz t) Γ1:=EV.sP (aB (EV.lP (by rw[dE] at h;exact h)) ev_int (IZ t))
theorem mU {a:Expr}{j:Nat}{p1 pos:Pos}{t:Th}{i:Int}{xs:List PV}(h:EV X a Γ ag (fG t) Γ1)(hx:cM (dY t) i=some (.lst xs)):EV X (.Subscript a (.Constant (.int i) j p1) pos) Γ (ae ag) xs Γ1:=EV.lP (aB (EV.lP (by rw[dE] at h;exact h)) ev_int hx)
end
section
abbrev Hw:Stmt:=top qr
abbrev nPA:ME:=["_law_items","_law_one"]
theorem Be:aN nPA ["_law_items"] (ao Hw):=TQ
def Cf (n:Nat):dI:=λK ps T=>∃ts:List Th,ps=[⟨ae ag,ba ts⟩]/\dh ts<n/\T=dq K cN (· =c9 ts)
theorem AL (t:Th):(cz t="leave"∨cz t="back")->eu t=false:=by
 intro h;cases t<;>simp[cz] at h<;>first | (exfalso;revert h;decide) | simp[eu]
theorem my {t:Th}:∀{ts:List Th},t∈ts->fh t<=dh ts
 | s::ts,h=>by
   rw[dh];rcases Nd.mp h with rfl | h
   ·omega
   ·have:=my h;omega
theorem JZ (F:dQ K "_law_passes" "_law_passes" Hw f fd)(hm:mg "_law_passes"=some (.ref f))(hb:Binds K fd ["_law_items"] []):∀n:Nat,aM P w K mg base "_law_passes" (n+1) (a9 (Cf n) K):=by
 intro n;have nd:=Be.nd
 induction n with
 | zero=>
   refine jo F Be hm hb (λqs T ⟨_,e,_⟩=>by rw[e];rfl) (λS6 A outer s H E qs T hr hS=>?_);obtain⟨ts,_,h,_⟩:=hS;exact SQ h (Nat.not_lt_zero _)
 | succ n ih=>
   refine jo F Be hm hb (λqs T ⟨_,e,_⟩=>by rw[e];rfl) (λS6 A outer s H E qs T hr hS=>?_);obtain⟨ts,rfl,hd,rfl⟩:=hS;change WS _ _ [.im (ae ag) (ba ts),.no] _ _;refine ah (bP (r:=ag) (λi Γ=>∃e1,Γ=[.im (ae ag) (ba ts),e1]/\c9 ts=c9 (ts.drop i)) (cu (aa 0 rfl)) (bt 1) ⟨_,rfl,rfl⟩ (λi x Γ hx hΓ=>?_) (λΓ hΓ=>?_))
   ·obtain⟨e1,rfl,hp⟩:=hΓ;rw[ee,Nc] at hx;obtain⟨t,ht,rfl⟩:=Pt.mp hx;have hdr:ts.drop i=t::ts.drop (i+1):=by
     obtain⟨h1,h2⟩:=M1.mp ht;rw[Oa h1,h2]
    rw[hdr,c9] at hp;have hdt:=my (Ng ht);change WS _ _ [.im (ae ag) (ba ts),.im ag (fG t)] _ _;refine ah (aL (TW.tv (ki (au aT (iM (aa 1 rfl)) ar) (λ_=>jZ (au aT (iM (aa 1 rfl)) ar)))) (λh=>?_) (λh=>aA ?_))
    ·have h:cz t="leave"∨cz t="back":=by simpa using h
     exact ak (bb jC (by rw[hp,AL t h];rfl))
    ·have h:¬(cz t="leave"∨cz t="back"):=by simpa using h
     by_cases hif:∃x a b,t= .ifs x a b
     ·obtain⟨x,a,b,rfl⟩:=hif;have hab:dh a<n/\dh b<n:=by rw[fh] at hdt;omega
      refine ak (aL (TW.tv (cD (au aT (iM (aa 1 rfl)) ar) (λ_=>cD (iY (cq (aP ih hr (aq (mU (aa 1 rfl) (xs:=ba a) rfl) aJ) ⟨a,rfl,hab.1,rfl⟩))) (λ_=>cZ (iY (cq (aP ih hr (aq (mU (aa 1 rfl) (xs:=ba b) rfl) aJ) ⟨b,rfl,hab.2,rfl⟩))))))) (λh=>?_) (λh=>aA ⟨_,rfl,?_⟩))
      ·have h:c9 a=false/\c9 b=false:=by simpa[cz] using h
       exact ak (bb jC (by rw[hp,eu,h.1,h.2];rfl))
      ·have h:c9 a=false->c9 b=true:=by simpa[cz] using h
       rw[hp,eu];cases ea:c9 a with
       | true=>simp
       | false=>rw[h ea];simp
     ·have hk:decide (cz t="if")=false:=by cases t<;>first | rfl | exact SQ ⟨_,_,_,rfl⟩ hif
      have hpt:eu t=true:=by cases t<;>first | (simp[eu];done) | exact SQ ⟨_,_,_,rfl⟩ hif | exact SQ (.inl rfl) h | exact SQ (.inr rfl) h
      refine ak (aL (TW.tv (cD (y:=true) (au aT (iM (aa 1 rfl)) ar) (λh=>SQ (hk.symm.trans h) (by decide)))) (λh=>?_) (λh=>aA ⟨_,rfl,?_⟩))
      ·rw[hk] at h;cases h
      ·rw[hp,hpt];rfl
   ·obtain⟨e1,rfl,hp⟩:=hΓ;rw[show(ba ts).length=ts.length by rw[ee,M8],drop_length,c9] at hp;exact ak (bb jC hp.symm)
end
def dD (ns SY:MC):Nat->Option (Int->Pn->List Th×Pn)
 | 0=>none
 | n+1=>some (Tn ns SY n false)
theorem kY (ns SY:MC)(n:Nat)(tp:Bool)(S0:Int)(s:Pn):Tn ns SY n tp S0 s=Tt (hW ns SY (dD ns SY n) tp S0) (eV ns tp s.1) ([],(s.1+1,s.2)):=by cases n<;>rfl
def bT:Nat->Nat
 | 0=>3
 | n+1=>3+2*kP n
theorem BI (n:Nat):3<=bT n:=by cases n<;>simp[bT]
structure ni (ns SY:MC)(n b:Nat)(k c:Int):Prop where
 s:z4 ns
 k0:0<=k
 k1:k+(b:Int)<=900000
 c0:0<=c
 c1:c<=100
 l:SY.length<=100
 n4:n<=4
abbrev K4 (n:Nat)(S0:Int)(SY:MC):List Pk:=[⟨ai,4-(n:Int)⟩,⟨ai,S0⟩,⟨ae ai,SY⟩]
def FP (n:Nat):mx (MC ⊕ Int):=λK xs ps T=>∃(ns SY:MC)(k c S0:Int),xs=bq ns k c/\ps=K4 n S0 SY/\ni ns SY n (bT n) k c/\0<c/\T=λxs'=>wY λy=>xs'=bq ns (Tw ns SY (dD ns SY n) S0 (k,c)).2.1 (Tw ns SY (dD ns SY n) S0 (k,c)).2.2/\y=fG (Tw ns SY (dD ns SY n) S0 (k,c)).1
def Cs (n:Nat):mx (MC ⊕ Int):=λK xs ps T=>∃(ns SY:MC)(k c S0:Int),xs=bq ns k c/\ps=K4 n S0 SY/\ni ns SY n (kP n) k c/\T=λxs'=>wY λy=>xs'=bq ns (Tn ns SY n (decide (n=4)) S0 (k,c)).2.1 (Tn ns SY n (decide (n=4)) S0 (k,c)).2.2/\y= .lst (ba (Tn ns SY n (decide (n=4)) S0 (k,c)).1)
section
variable {ns SY:MC}{sub:Option (Int->Pn->List Th×Pn)}{L:Int->Pn->List Th×Pn}{S0 k c:Int}
abbrev fL (ns:MC)(k:Int):Int:=aR ns (k+1)%12
abbrev C0 (ns:MC)(k S0:Int):Prop:=fL ns k=0/\0<S0
abbrev C2 (ns SY:MC)(k:Int):Prop:=9<fL ns k/\0<SY.length
abbrev C3 (ns:MC)(k c:Int):Prop:=(3<fL ns k/\fL ns k<7)/\1<c
abbrev C4 (ns:MC)(k c:Int):Prop:=(6<fL ns k/\fL ns k<10)/\1<c
theorem xP (h:C0 ns k S0):Tw ns SY sub S0 (k,c)=(.leave,(k+2,c)):=SS h
theorem AQ (h0:¬C0 ns k S0)(h:fL ns k=1):Tw ns SY sub S0 (k,c)=(.back,(k+2,c)):=by
 unfold Tw;rw[SR h0,SS h]
theorem A8 (h0:¬C0 ns k S0)(h1:¬fL ns k=1)(h:C2 ns SY k):Tw ns SY sub S0 (k,c)=(.call (SY.getD (aR ns (k+3)%(SY.length:Int)).toNat 0),(k+3,c-1)):=by
 unfold Tw;rw[SR h0,SR h1,SS h]
theorem Ip (h0:¬C0 ns k S0)(h1:¬fL ns k=1)(h2:¬C2 ns SY k)(h:C3 ns k c):Tw ns SY (some L) S0 (k,c)=(.ifs (Te (aR ns (k+2))) (L S0 (k+2,c-2)).1 (L S0 (L S0 (k+2,c-2)).2).1,(L S0 (L S0 (k+2,c-2)).2).2):=by
 unfold Tw;rw[SR h0,SR h1,SR h2];dsimp only;rw[SS h]
theorem Iz (h0:¬C0 ns k S0)(h1:¬fL ns k=1)(h2:¬C2 ns SY k)(h3:¬C3 ns k c)(h:C4 ns k c):Tw ns SY (some L) S0 (k,c)=(.Ta (Te (aR ns (k+2))) (L (S0+1) (k+2,c-2)).1,(L (S0+1) (k+2,c-2)).2):=by
 unfold Tw;rw[SR h0,SR h1,SR h2];dsimp only;rw[SR h3,SS h]
theorem IF (h0:¬C0 ns k S0)(h1:¬fL ns k=1)(h2:¬C2 ns SY k)(h:∀L,sub=some L->¬C3 ns k c/\¬C4 ns k c):Tw ns SY sub S0 (k,c)=(.Tr (Te (aR ns (k+2))),(k+2,c-1)):=by
 unfold Tw;rw[SR h0,SR h1,SR h2];cases sub with
 | none=>rfl
 | some L=>dsimp only;rw[SR (h L rfl).1,SR (h L rfl).2]
end
theorem r9:∀ts:List Th,AH (ba ts)=false
 | []=>by rw[ba];rfl
 | [t]=>by rw[ba,ba,dE];rfl
 | t::u::ts=>by rw[ba,ba,dE,dE];rfl
mutual
theorem BK:∀t:Th,noMix (fG t)=true
 | .Tr x=>by rw[dE];rfl
 | .call x=>by rw[dE];rfl
 | .leave=>by rw[dE];rfl
 | .back=>by rw[dE];rfl
 | .ifs x A B=>by
   have hA:=mj A;have hB:=mj B;rw[dE];simp only[dY,noMix,gy,r9,hA,hB,Bool.not_false,Bool.true_and,Bool.and_true];rfl
 | .Ta x A=>by
   have hA:=mj A;rw[dE];simp only[dY,noMix,gy,r9,hA,Bool.not_false,Bool.true_and,Bool.and_true];rfl
theorem mj:∀ts:List Th,gy (ba ts)=true
 | []=>by rw[ba,gy]
 | t::ts=>by rw[ba,gy,BK t,mj ts];rfl
end
theorem rP (ts:List Th):noMix (.lst (ba ts))=true:=by rw[noMix,r9,mj];rfl
theorem mT {K:Sk}{ns:MC}{k c:Int}(R:Hp)(ws:List V)(h:PySem.Paired (bF.R K R) ws (bq ns k c)):∃s k' rest,ws= .ref s:: .int k'::rest:=by
 cases h with
 | cons a1 t1=>cases t1 with
   | cons a2 t2=>
     obtain⟨s,e,_⟩:=(a1:bK.R K R _ ns);have e2:_=V.int k:=a2;exact⟨s,k,_,by rw[e,e2]⟩
section
abbrev Ca:Stmt:=top rD
abbrev nTH:ME:=["_law_pen","_law_depth","_law_loops","_law_calls","_law_way","_law_name_here","_law_first"]
abbrev wg:ME:=["_law_pen","_law_depth","_law_loops","_law_calls"]
theorem Hb:aN nTH wg (ao Ca):=TQ
theorem B6 (M:cP K mg)(CP:aM P w K mg base "_law_pull" 2 (gX bF vx K))(CN:aM P w K mg base "_law_name" 1 (a9 BE K))(n:Nat)(CL:∀m,n=m+1->aM P w K mg base "_law_list" (2*m+8) (gX bF (Cs m) K))(F:dQ K "_law_thing" "_law_thing" Ca f fd)(hm:mg "_law_thing"=some (.ref f))(hb:Binds K fd wg []):aM P w K mg base "_law_thing" (2*n+7) (gX bF (FP n) K):=by
 have nd:=Hb.nd;have CP:=CP.mono (show 2<=2*n+6 by omega);have CN:=CN.mono (show 1<=2*n+6 by omega);refine sT (k:=2*n+6) F Hb hm hb (λxs qs T ⟨_,_,_,_,_,_,e,_⟩=>by rw[e];rfl) (λS6 A outer s H E a xs qs T hr hS=>?_);obtain⟨ns,SY,k,c,S0,rfl,rfl,hp,c0,rfl⟩:=hS;have hb16:=BI n;have k0:=hp.k0;have k1:=hp.k1;have cl:=hp.l;have c1:=hp.c1;change WS _ _ [.ob (aE a bF (bq ns k c)),ax (4-(n:Int)),ax S0,er SY,.no,.no,.no] _ _;refine ah (bE 4 (da (eT 0 (st:=bq ns (k+1) c) (z:=aR ns (k+1)) CP hr aJ rfl ⟨ns,k,c,rfl,rfl,hp.s,k0,by omega,rfl⟩) ev_int (by decide)) ?_);change WS _ _ [.ob (aE a bF (bq ns (k+1) c)),ax (4-(n:Int)),ax S0,er SY,ax (aR ns (k+1)%12),.no,.no] _ _;have m2:=vM ns (k+2);have e2:k+1+1=k+2:=by omega
 refine ah (bE 5 (y:=Te (aR ns (k+2))) (aP CN hr (aq (eT 0 (st:=bq ns (k+2) c) (z:=aR ns (k+2)) CP hr aJ rfl ⟨ns,k+1,c,rfl,rfl,hp.s,by omega,by omega,by rw[e2]⟩) aJ) ⟨_,rfl,m2.1,m2.2,rfl⟩) ?_);change WS _ _ [.ob (aE a bF (bq ns (k+2) c)),ax (4-(n:Int)),ax S0,er SY,ax (aR ns (k+1)%12),.im aj (Te (aR ns (k+2))),.no] _ _;have fin:∀(k' c':Int)(t:Th)(r:Th×Pn),Tw ns SY (dD ns SY n) S0 (k,c)=(t,(k',c'))->(λxs' (y:PV)=>xs'=bq ns (Tw ns SY (dD ns SY n) S0 (k,c)).2.1 (Tw ns SY (dD ns SY n) S0 (k,c)).2.2/\y=fG (Tw ns SY (dD ns SY n) S0 (k,c)).1) (bq ns k' c') (.lst (dY t)):=λk' c' t r h=>by rw[h];exact⟨rfl,(dE t).symm⟩
 refine ah (aL (TW.tv (cD (au jR (aa 4 rfl) ev_int) (λ_=>cZ (au jS (aa 2 rfl) ev_int)))) (λh=>?_) (λh=>aA ?_))
 ·have h:C0 ns k S0:=by simpa using h
  exact ak (iz 0 (bg.tJ (aV (r:=ag) (av (EV.pS ar) aQ) (by show 1<=PZ;decide)) rfl) rfl (fin _ _ .leave (.leave,(k,c)) (xP h)))
 have h0:¬C0 ns k S0:=by simpa using h
 refine ah (aL (au jR (aa 4 rfl) ev_int) (λh=>?_) (λh=>aA ?_))
 ·have h:fL ns k=1:=SU h;exact ak (iz 0 (bg.tJ (aV (r:=ag) (av (EV.pS ar) aQ) (by show 1<=PZ;decide)) rfl) rfl (fin _ _ .back (.leave,(k,c)) (AQ h0 h)))
 have h1:¬fL ns k=1:=SV h;refine ah (aL (TW.tv (cD (au jS (aa 4 rfl) ev_int) (λ_=>cZ (au jS (fX M.len (aa 3 rfl)) ev_int)))) (λh=>?_) (λh=>aA ?_))
 ·have h:C2 ns SY k:=by
   have h:9<fL ns k/\(0:Int)<(SY.length:Int):=by simpa using h
   exact⟨h.1,by omega⟩
  have hl:(0:Int)<(SY.length:Int):=by have:=h.2;omega
  refine ah (dZ 0 (j:=2) (EV.inr (iZ (EV.nK (dc 0 ev_int rfl (y:=(Sum.inr c:MC ⊕ Int)) rfl)) ev_int)) ev_int rfl rfl rfl ?_);change WS _ _ [.ob (aE a bF (bq ns (k+2) (c-1))),ax (4-(n:Int)),ax S0,er SY,ax (aR ns (k+1)%12),.im aj (Te (aR ns (k+2))),.no] _ _;have e3:k+2+1=k+3:=by omega
  have q0:=MW (aR ns (k+3)) (show(SY.length:Int)≠0 by omega);have q1:=MV (aR ns (k+3)) hl;exact ak (iz 0 (bg.tJ (aV (r:=ag) (av (EV.pS ar) (av (EV.pI (aB (aa 3 rfl) (da (eT 0 (st:=bq ns (k+3) (c-1)) (z:=aR ns (k+3)) CP hr aJ rfl ⟨ns,k+2,c-1,rfl,rfl,hp.s,by omega,by omega,by rw[e3]⟩) (fX M.len (aa 3 rfl)) hl) (bB 0 q0 q1))) aQ)) (by show 2<=PZ;decide)) rfl) rfl (fin _ _ (.call _) (.leave,(k,c)) (A8 h0 h1 h)))
 have h2:¬C2 ns SY k:=by
  have h:9<fL ns k->¬(0:Int)<(SY.length:Int):=by simpa using h
  exact λ⟨x,y⟩=>h x (by omega)
 refine ah (aL (TW.tv (cD (au jS (aa 4 rfl) ev_int) (λ_=>cD (au mv (aa 4 rfl) ev_int) (λ_=>cD (au mv (aa 1 rfl) ev_int) (λ_=>cZ (au jS (EV.nK (dc 0 ev_int rfl (y:=(Sum.inr c:MC ⊕ Int)) rfl)) ev_int)))))) (λh=>?_) (λh=>aA ?_))
 ·have h:3<fL ns k/\fL ns k<7/\4-(n:Int)<4/\1<c:=by simpa using h
  have h3:C3 ns k c:=⟨⟨h.1,h.2.1⟩,h.2.2.2⟩;have hc:=h.2.2.2;have hn:=h.2.2.1;obtain⟨m,rfl⟩:∃m,n=m+1:=⟨n-1,by omega⟩;have CL:=(CL m rfl).mono (show 2*m+8<=2*(m+1)+6 by omega);have n4:=hp.n4;have hf:decide (m=4)=false:=SW (by omega);have hbd:bT (m+1)=3+2*kP m:=rfl;refine ah (dZ 0 (j:=2) (EV.inr (iZ (EV.nK (dc 0 ev_int rfl (y:=(Sum.inr c:MC ⊕ Int)) rfl)) ev_int)) ev_int rfl rfl rfl ?_);change WS _ _ [.ob (aE a bF (bq ns (k+2) (c-2))),ax (4-((m+1:Nat):Int)),ax S0,er SY,ax (aR ns (k+1)%12),.im aj (Te (aR ns (k+2))),.no] _ _;have p1:ni ns SY m (kP m) (k+2) (c-2):=⟨hp.s,by omega,by omega,by omega,by omega,hp.l,by omega⟩;obtain⟨g1,g2,g3,g4⟩:=kN ns SY m false S0 (k+2,c-2) (by show 0<=c-2;omega);have e1:=Ip (L:=Tn ns SY m false) h0 h1 h2 h3;generalize hr1:Tn ns SY m false S0 (k+2,c-2)=r1 at g1 g2 g3 g4 e1;dsimp only at g2 g3;refine ah (o8 6 (h8 0 (st:=bq ns (Tn ns SY m false S0 (k+2,c-2)).2.1 (Tn ns SY m false S0 (k+2,c-2)).2.2) (z:=.lst (ba (Tn ns SY m false S0 (k+2,c-2)).1)) CL hr (aq (EV.cast (y':=4-(m:Int)) (bZ (aa 1 rfl) ev_int) (by omega)) (aq (aa 2 rfl) (aq (aa 3 rfl) aJ))) rfl ⟨ns,SY,_,_,S0,rfl,rfl,p1,by rw[hf]⟩ mT (rP _)) λf6=>?_);rw[hr1];change WS _ _ [.ob (aE a bF (bq ns r1.2.1 r1.2.2)),ax (4-((m+1:Nat):Int)),ax S0,er SY,ax (aR ns (k+1)%12),.im aj (Te (aR ns (k+2))),.ob (f9 (.lst (ba r1.1)) f6)] _ _;have p2:ni ns SY m (kP m) r1.2.1 r1.2.2:=⟨hp.s,by omega,by omega,by omega,by omega,hp.l,by omega⟩;exact ak (iz 0 (HS 6 (EV.pS ar) (EV.pS (aa 5 rfl)) (h8 0 (st:=bq ns (Tn ns SY m false S0 r1.2).2.1 (Tn ns SY m false S0 r1.2).2.2) (z:=.lst (ba (Tn ns SY m false S0 r1.2).1)) CL hr (aq (EV.cast (y':=4-(m:Int)) (bZ (aa 1 rfl) ev_int) (by omega)) (aq (aa 2 rfl) (aq (aa 3 rfl) aJ))) rfl ⟨ns,SY,_,_,S0,rfl,rfl,p2,by rw[hf]⟩ mT (rP _)) rfl rfl rfl rfl) rfl (fin _ _ (.ifs _ _ _) (.leave,(k,c)) e1))
 have h3:n=0∨¬C3 ns k c:=by
  have h:3<fL ns k->fL ns k<7->4-(n:Int)<4->¬1<c:=by simpa using h
  by_cases z:n=0
  ·exact .inl z
  ·exact .inr λ⟨⟨x,y⟩,u⟩=>h x y (by omega) u
 refine ah (aL (TW.tv (cD (au jS (aa 4 rfl) ev_int) (λ_=>cD (au mv (aa 4 rfl) ev_int) (λ_=>cD (au mv (aa 1 rfl) ev_int) (λ_=>cZ (au jS (EV.nK (dc 0 ev_int rfl (y:=(Sum.inr c:MC ⊕ Int)) rfl)) ev_int)))))) (λh=>?_) (λh=>aA ?_))
 ·have h:6<fL ns k/\fL ns k<10/\4-(n:Int)<4/\1<c:=by simpa using h
  have h4:C4 ns k c:=⟨⟨h.1,h.2.1⟩,h.2.2.2⟩;have hc:=h.2.2.2;have hn:=h.2.2.1;have h3x:¬C3 ns k c:=h3.resolve_left (by omega);obtain⟨m,rfl⟩:∃m,n=m+1:=⟨n-1,by omega⟩;have CL:=(CL m rfl).mono (show 2*m+8<=2*(m+1)+6 by omega);have n4:=hp.n4;have hf:decide (m=4)=false:=SW (by omega);have hbd:bT (m+1)=3+2*kP m:=rfl;refine ah (dZ 0 (j:=2) (EV.inr (iZ (EV.nK (dc 0 ev_int rfl (y:=(Sum.inr c:MC ⊕ Int)) rfl)) ev_int)) ev_int rfl rfl rfl ?_);change WS _ _ [.ob (aE a bF (bq ns (k+2) (c-2))),ax (4-((m+1:Nat):Int)),ax S0,er SY,ax (aR ns (k+1)%12),.im aj (Te (aR ns (k+2))),.no] _ _;have p1:ni ns SY m (kP m) (k+2) (c-2):=⟨hp.s,by omega,by omega,by omega,by omega,hp.l,by omega⟩;have e1:=Iz (L:=Tn ns SY m false) h0 h1 h2 h3x h4;exact ak (iz 0 (Hu (EV.pS ar) (EV.pS (aa 5 rfl)) (h8 0 (st:=bq ns (Tn ns SY m false (S0+1) (k+2,c-2)).2.1 (Tn ns SY m false (S0+1) (k+2,c-2)).2.2) (z:=.lst (ba (Tn ns SY m false (S0+1) (k+2,c-2)).1)) CL hr (aq (EV.cast (y':=4-(m:Int)) (bZ (aa 1 rfl) ev_int) (by omega)) (aq (bZ (aa 2 rfl) ev_int) (aq (aa 3 rfl) aJ))) rfl ⟨ns,SY,_,_,S0+1,rfl,rfl,p1,by rw[hf]⟩ mT (rP _)) rfl rfl) rfl (fin _ _ (.Ta _ _) (.leave,(k,c)) e1))
 have h4:n=0∨¬C4 ns k c:=by
  have h:6<fL ns k->fL ns k<10->4-(n:Int)<4->¬1<c:=by simpa using h
  by_cases z:n=0
  ·exact .inl z
  ·exact .inr λ⟨⟨x,y⟩,u⟩=>h x y (by omega) u
 refine ah (dZ 0 (j:=2) (EV.inr (iZ (EV.nK (dc 0 ev_int rfl (y:=(Sum.inr c:MC ⊕ Int)) rfl)) ev_int)) ev_int rfl rfl rfl ?_);change WS _ _ [.ob (aE a bF (bq ns (k+2) (c-1))),ax (4-(n:Int)),ax S0,er SY,ax (aR ns (k+1)%12),.im aj (Te (aR ns (k+2))),.no] _ _;refine ak (iz 0 (bg.tJ (aV (r:=ag) (av (EV.pS ar) (av (EV.pS (aa 5 rfl)) aQ)) (by show 2<=PZ;decide)) rfl) rfl (fin _ _ (.Tr _) (.leave,(k,c)) (IF h0 h1 h2 λL e=>?_)));cases n with
 | zero=>cases e
 | succ m=>exact⟨h3.resolve_left (by omega),h4.resolve_left (by omega)⟩
end
end K1
namespace K1
open PySem L2 Fc
open PySem.Spec hiding Row
open PyProof.Rows hiding St
open PySem.Builtin.Int (intBits)
variable {P:P2}{w:World}{K:Sk}{mg:MA}{base:Heap}{f:Addr}{fd:Qa}
mutual
def bw:Th->Int->List PV×Int
 | .Tr x,k=>([.str "do",.str x,.int k],k+1)
 | .call j,k=>([.str "call",.int j,.int k],k+1)
 | .ifs x A B,k=>([.str "if",.str x,.lst ((aI A (k+1)).1.map PV.lst),.lst ((aI B (aI A (k+1)).2).1.map PV.lst),.int k],(aI B (aI A (k+1)).2).2)
 | .Ta x A,k=>([.str "while",.str x,.lst ((aI A (k+1)).1.map PV.lst),.int k],(aI A (k+1)).2)
 | .leave,k=>([.str "leave"],k)
 | .back,k=>([.str "back"],k)
def aI:List Th->Int->List (List PV)×Int
 | [],k=>([],k)
 | t::ts,k=>((bw t k).1::(aI ts (bw t k).2).1,(aI ts (bw t k).2).2)
end
theorem xE (ts:List Th):ba ts=(ts.map dY).map PV.lst:=by
 rw[ee,NX];exact Ox λt _=>dE t
theorem lT:∀(ts:List Th)(k:Int),(aI ts k).1.length=ts.length
 | [],k=>by rw[aI];rfl
 | t::ts,k=>by rw[aI,Nf,Nf,lT ts]
def kB (n:Nat):Sp:=λvs H Q _=>∃(R:Hp)(b c:Addr)(g:MG)(ts:List Th)(k:Int),vs=[.ref b,.ref c]/\ay R H/\cK H (.ref b) (.lst (ba ts)) (b::g)/\(b::g).Nodup/\(∀d∈b::g,R d=none)/\c∉b::g/\R c=none/\H c=some (.lst [.int k])/\dh ts<=n/\
 ∀H' R',Ext (ft H (c::b::g)) R H' R'->cK H' (.ref b) (.lst ((aI ts k).1.map PV.lst)) (b::g)->H' c=some (.lst [.int (aI ts k).2])->(∀d∈c::b::g,R' d=none)->Q .Tf H'
end K1
namespace Fc
open PySem PySem.Spec PySem.W PySem.Calls L2
open PyProof.Rows hiding St
open PySem PySem.Spec L2 K1
section
variable {X:Cx}{Γ Γ1 Γ2 Γ3:Ga}{α β γ δ:Type}{N:Ga->Prop}{T:RT}
theorem DG {x:Str}{n d:Nat}{es:MI}{σ:St}{H0 R0 H R:Hp}{i l n':Nat}{a b c:Addr}{g:MG}{ps:List PT}{q0:PT}{ts:List Th}{k:Int}{Q:VK}{Ex:XK}{ys:List PV}(E:aw X.K σ H0 R0 H R Γ)(Wb:i≠l)(hΓ:Γ[i]?=some (.ob (bN a ps)))(hl:Γ[l]?=some (.ob (aE c ai [k])))(hq:ps[n']?=some q0)(Tu:∀e∈b::g,e∈dm q0)(t:cK H (.ref b) (.lst (ba ts)) (b::g))(nd:(b::g).Nodup)(hd:dh ts<=d)(hys:∀H':Hp,(∀e∈dm q0,e∉b::g->H' e=H e)->cK H' (.ref b) (.lst ((aI ts k).1.map PV.lst)) (b::g)->cK H' (.ref q0.2.1) (.lst ys) (dm q0))(hQ:∀H' R',aw X.K σ H0 R0 H' R' ((Γ.set i (.ob (bN a (ps.set n' (ys,q0.2.1,q0.2.2))))).set l (.ob (aE c ai [(aI ts k).2])))->ay R R'->Q .Tf H'):kB d [.ref b,.ref c] H Q Ex:=by
 obtain⟨⟨v,ea,rfl,kk⟩,hR⟩:=E.ent i _ hΓ;obtain⟨ec,⟨ws,hc,pc⟩,WR⟩:=dv (E.ent l _ hl);have X0:ws=[.int k]:=by
  cases pc with
  | cons a1 t1=>cases t1;have:_=V.int k:=a1;rw[this]
 subst X0;have Wx:∀e∈b::g,e∈(bN a ps).fp:=λe he=>M7 _ (bu.mpr ⟨n',q0,hq,Tu e he⟩);have cB:∀e∈(bN a ps).fp,e≠c:=λe he z=>Wb (E.ds i l _ _ e hΓ hl he (by rw[z];exact M5.mpr rfl));refine⟨R,b,c,g,ts,k,rfl,E.sub,t,nd,λe he=>hR e (Wx e he),λw=>cB c (Wx c w) rfl,WR,hc,hd,λH' R' xx t' VX Uo=>?_⟩;have keep:∀e∈(bN a ps).fp,e∉b::g->H' e=H e:=λe he hn=>xx.keep (λw=>(Nd.mp w).elim (cB e he) hn) ((bN a ps).has (K:=X.K) (R0:=R) ⟨rfl,kk⟩ e he);have tq:=hys H' (λe he hn=>keep e (M7 _ (bu.mpr ⟨n',q0,hq,he⟩)) hn) t';have nR:∀e∈(bN a ps).fp,R' e=none:=λe he=>by
  by_cases w:e∈c::b::g
  ·exact Uo e w
  ·exact(xx.old e (by rw[dz w];exact(bN a ps).has (K:=X.K) (R0:=R) ⟨rfl,kk⟩ e he)).trans (hR e he)
 refine hQ H' R' (E.B3 Wb hΓ hl (D:=c::b::g) (λe he=>?_) xx ?_ ?_ (vZ hq) λe he=>he) xx.r
 ·rcases Nd.mp he with rfl | he
  ·exact .inr (M5.mpr rfl)
  ·exact .inl (Wx e he)
 ·rw[ea];refine⟨⟨_,rfl,rfl,kk.put hq (λe he hn=>keep e he λw=>hn (Tu e w)) tq⟩,λe he=>nR e (vZ hq e he)⟩
 ·rw[ec];exact⟨⟨_,rfl,rfl,[.int (aI ts k).2],VX,.cons rfl .nil⟩,λe he=>by rw[M5.mp he];exact Uo c Nb⟩
theorem pT (i j l:Nat){x y z:Str}{d m0 n' m jc:Nat}{p p1 p2 p3 p4 cp pos:Pos}{a c:Addr}{ps:List PT}{q0:PT}{ts:List Th}{k:Int}(C:aM X.prog X.w X.K X.mg X.base x m0 (kB d))(hr:bI m0 X.A)(Wb:i≠l)(hΓ:Γ[i]?=some (.ob (bN a ps)))(hj:Γ[j]?=some (.im dO q0.2.1))(hl:Γ[l]?=some (.ob (aE c ai [k])))(hq:ps[n']?=some q0)(hts:q0.1[m]?=some (.lst (ba ts)))(hd:dh ts<=d)(h:N ((Γ.set i (.ob (bN a (ps.set n' (q0.1.set m (.lst ((aI ts k).1.map PV.lst)),q0.2.1,q0.2.2))))).set l (.ob (aE c ai [(aI ts k).2]))))(hg:Gl X x:=by rfl)(TZ:Ti x:=by decide)(he:PU [.Subscript (.Name y p1) (.Constant (.int (m:Int)) jc p3) p4,.Name z p2] X.env=(false,eval (.Subscript (.Name y p1) (.Constant (.int (m:Int)) jc p3) p4) X.env)::PU [.Name z p2] X.env:=by rfl)(XM:PU [.Name z p2] X.env=(false,eval (.Name z p2) X.env)::PU [] X.env:=by rfl)(To:(P8 cp (PU [.Name z p2] X.env)).any (·.1)=false:=by rfl)(hNj:X.N[j]?=some y:=by rfl)(hvj:autoParam (cb X.env.scope y) Tv)(hdj:Ti y:=by decide)(hcj:Tz y:=by decide)(hNl:X.N[l]?=some z:=by rfl)(hvl:autoParam (cb X.env.scope z) Tv)(Vx:Ti z:=by decide)(VF:Tz z:=by decide)(hpi:eQ (.Constant (.int (m:Int)) jc p3):=by exact λ_ _=>rfl)(Uj:P9 (.Call (.Name x p) [.Subscript (.Name y p1) (.Constant (.int (m:Int)) jc p3) p4,.Name z p2] [] cp) none pos.line X.env=pure false:=by rfl):W1 X (.Expr (.Call (.Name x p) [.Subscript (.Name y p1) (.Constant (.int (m:Int)) jc p3) p4,.Name z p2] [] cp) pos) Γ N T:=λσ H0 R0 H R E D dn dr=>by
 obtain⟨f,fd,pn,F,hm,hk,hb⟩:=C.ex;obtain⟨v0,e0,U3⟩:=E.ent j _ hj;cases U3
 refine sS (eo (iE F hr hg hm hk hb .nil kj (aK (iJ gQ (a8 hNj hvj hdj hcj) (aO (e:=.Constant (.int (m:Int)) jc p3)) hpi) (aK (a8 hNl hvl Vx VF) bo XM) he) TZ he To) Uj) ⟨.ref q0.2.1,at_of e0,(ev_int (i:=(m:Int)) (X:=X) (Γ:=Γ)) σ H0 R0 H R E _ λu H2 R2 E2 s2 e2=>?_⟩;obtain⟨⟨v,ea,rfl,kk⟩,hR⟩:=E2.ent i _ hΓ;obtain⟨ec,_,_⟩:=dv (E2.ent l _ hl);obtain⟨t0,nd,_⟩:=kk.pt n' q0 hq;cases t0 with
 | @lst _ vs _ _ VY tt zz=>
 obtain⟨b,g,f1,f2,hv,ef,t,Vo⟩:=tt.sub hts;obtain⟨n1,n2⟩:=ND.mp nd;rw[ef] at n2;obtain⟨m1,m2,m3⟩:=NJ.mp n2;obtain⟨m4,m5,m6⟩:=NJ.mp m2;have ml:=(M1.mp hv).1;refine⟨q0.2.1,vs,(m:Int),.ref b,rfl,e2,aY.of VY,by rw[jT (by omega) (by omega),show((m:Nat):Int).toNat=m by omega];exact hv,.ref c,at_of ec,?_⟩;have sub:∀e∈b::g,e∈q0.2.2:=λe he=>by rw[ef];exact Nh _ (Np _ he)
 show kB d [.ref b,.ref c] H2 (λ_ H1=>D.nx σ H1) E0;refine DG (x:=x) (n:=0) (es:=[]) (Q:=λ_ H'=>D.nx σ H') (ys:=q0.1.set m (.lst ((aI ts k).1.map PV.lst))) E2 Wb hΓ hl hq (λe he=>M7 _ (sub e he)) t m4 hd (λH' Vw t'=>?_) λH' R' E' s'=>dn σ H' R' _ E' (s2.trans s') h;refine .lst ((Vw _ Nb λw=>n1 (sub _ w)).trans VY) (Vo H' _ (λe he=>Vw e ?_ ?_) t') (by rw[NT];exact zz)
 ·refine M7 _ ?_;rw[ef];rcases Nj.mp he with w | w
  ·exact Np _ w
  ·exact Nh _ (Nh _ w)
 ·intro w;rcases Nj.mp he with z | z
  ·exact m3 e z e (Np _ w) rfl
  ·exact m6 e w e z rfl
end
end Fc
namespace K1
open PySem L2 Fc
open PySem.Spec hiding Row
open PyProof.Rows hiding St
open PySem.Builtin.Int (intBits)
variable {P:P2}{w:World}{K:Sk}{mg:MA}{base:Heap}{f:Addr}{fd:Qa}
theorem mh:∀(ts:List Th)(t:Th)(k:Int),aI (ts++[t]) k=((aI ts k).1++[(bw t (aI ts k).2).1],(bw t (aI ts k).2).2)
 | [],t,k=>by rw[NV,aI,aI,aI];rfl
 | u::ts,t,k=>by rw[N6,aI,mh ts t,aI];rfl
theorem He {K:Sk}{R H:Hp}{b c:Addr}{ps:List PT}{k:Int}{N:ME}(hN:N.length=3)(s:ay R H)(kk:hJ H b ps)(hR:∀d∈b::dG ps,R d=none)(hc:c∉b::dG ps)(WR:R c=none)(hHc:H c=some (.lst [.int k])):
 aw K (L2.start N [.ref b,.ref c]) (ft H (c::b::dG ps)) R H R [.ob (bN b ps),.ob (aE c ai [k]),.no]:=by
 have es:L2.start N [.ref b,.ref c]=[some (.ref b),some (.ref c),none]:=by unfold L2.start;rw[hN];rfl
 rw[es];have at_:∀(i:Nat)(e:Ent),([.ob (bN b ps),.ob (aE c ai [k]),.no]:Ga)[i]?=some e->(i=0/\e= .ob (bN b ps))∨(i=1/\e= .ob (aE c ai [k]))∨(i=2/\e= .no):=λi e q=>by
  match i with
  | 0=>exact .inl ⟨rfl,by simpa using q.symm⟩
  | 1=>exact .inr (.inl ⟨rfl,by simpa using q.symm⟩)
  | 2=>exact .inr (.inr ⟨rfl,by simpa using q.symm⟩)
  | i+3=>simp at q
 refine⟨⟨oj,ay.refl _,s,λ_ _=>rfl⟩,λi e q=>?_,λi e d q w=>?_,λi j e e' d q q' w w'=>?_,rfl⟩
 ·rcases at_ i e q with⟨rfl,rfl⟩ | ⟨rfl,rfl⟩ | ⟨rfl,rfl⟩
  ·exact⟨⟨_,rfl,rfl,kk⟩,hR⟩
  ·exact⟨⟨_,rfl,rfl,_,hHc,.cons rfl .nil⟩,λd hd=>by rw[M5.mp hd];exact WR⟩
  ·trivial
 ·rcases at_ i e q with⟨rfl,rfl⟩ | ⟨rfl,rfl⟩ | ⟨rfl,rfl⟩
  ·exact jA (M7 _ w)
  ·rw[M5.mp w];exact jA Nb
  ·cases w
 ·rcases at_ i e q with⟨rfl,rfl⟩ | ⟨rfl,rfl⟩ | ⟨rfl,rfl⟩
  ·rcases at_ j e' q' with⟨rfl,rfl⟩ | ⟨rfl,rfl⟩ | ⟨rfl,rfl⟩
   ·rfl
   ·exact SQ w (by rw[M5.mp w'];exact hc)
   ·cases w'
  ·rcases at_ j e' q' with⟨rfl,rfl⟩ | ⟨rfl,rfl⟩ | ⟨rfl,rfl⟩
   ·exact SQ w' (by rw[M5.mp w];exact hc)
   ·rfl
   ·cases w'
  ·cases w
theorem mD {α:Type}{l:List α}{i:Nat}{x:α}(h:l[i]?=some x):l.set i x=l:=by
 obtain⟨hl,rfl⟩:=M1.mp h;exact List.set_getElem_self hl
section
abbrev oA:Stmt:=top n8
abbrev Cv:ME:=["_law_items","_law_keys","_law_one"]
abbrev BQ:ME:=["_law_items","_law_keys"]
theorem A5:aN Cv BQ (ao oA):=TQ
theorem DH {n:Nat}(CN:∀m,n=m+1->aM P w K mg base "_law_numbered" (m+1) (kB m)){S6:Value}{A:P7}{outer:List Env}{s:PX}{H:Hp}{E:XK}{T:RT}(hr:bI n (A.deeper (PK "_law_numbered" (ao oA) s.heap.objs.size f S6))){b c:Addr}{qs:List PT}{k:Int}{t:Th}{i:Nat}{g:Addr×MG}(hd:fh t<=n)(hq:qs[i]?=some (dY t,g)){N:Ga->Prop}(hN:N [.ob (bN b (qs.set i ((bw t k).1,g))),.ob (aE c ai [(bw t k).2]),.im dO g.1]):
 WS (eN d8 P w K mg base Cv "_law_numbered" (ao oA) f S6 A outer s H E).iq (match br oA with | .For _ _ bd _ _::_=>bd | _=>[]) [.ob (bN b qs),.ob (aE c ai [k]),.im dO g.1] N T:=by
 have nd:=A5.nd;have il:=(M1.mp hq).1;have VA:∀y:List PV,(qs.set i (y,g))[i]?=some (y,g):=λy=>Ni il;have n1:∀{X Y:Bool},X=Y->X=Y:=λh=>h;cases t with
 | leave=>
   refine ah (aL (k:=false) (TV.cast (TW.tv (cD (au fJ (EV.sP (x:="leave") (bA 0 2 (m:=0) rfl rfl hq rfl rfl)) ar) (λ_=>cZ (au fJ (EV.sP (x:="leave") (bA 0 2 (m:=0) rfl rfl hq rfl rfl)) ar)))) (by decide +kernel)) (λh=>by cases h) (λ_=>aA ?_));refine ah (aL (k:=false) (TV.cast (au aT (EV.sP (x:="leave") (bA 0 2 (m:=0) rfl rfl hq rfl rfl)) ar) (by decide +kernel)) (λh=>by cases h) (λ_=>aA ?_));refine ak (aL (k:=false) (TV.cast (au aT (EV.sP (x:="leave") (bA 0 2 (m:=0) rfl rfl hq rfl rfl)) ar) (by decide +kernel)) (λh=>by cases h) (λ_=>aA ?_));have:qs.set i ((bw (.leave) k).1,g)=qs:=by rw[bw];exact mD hq
   rw[this,bw] at hN;exact hN
 | back=>
   refine ah (aL (k:=false) (TV.cast (TW.tv (cD (au fJ (EV.sP (x:="back") (bA 0 2 (m:=0) rfl rfl hq rfl rfl)) ar) (λ_=>cZ (au fJ (EV.sP (x:="back") (bA 0 2 (m:=0) rfl rfl hq rfl rfl)) ar)))) (by decide +kernel)) (λh=>by cases h) (λ_=>aA ?_));refine ah (aL (k:=false) (TV.cast (au aT (EV.sP (x:="back") (bA 0 2 (m:=0) rfl rfl hq rfl rfl)) ar) (by decide +kernel)) (λh=>by cases h) (λ_=>aA ?_));refine ak (aL (k:=false) (TV.cast (au aT (EV.sP (x:="back") (bA 0 2 (m:=0) rfl rfl hq rfl rfl)) ar) (by decide +kernel)) (λh=>by cases h) (λ_=>aA ?_));have:qs.set i ((bw (.back) k).1,g)=qs:=by rw[bw];exact mD hq
   rw[this,bw] at hN;exact hN
 | Tr x=>
   refine ah (aL (k:=true) (TV.cast (TW.tv (cD (au fJ (EV.sP (x:="do") (bA 0 2 (m:=0) rfl rfl hq rfl rfl)) ar) (λ_=>cZ (au fJ (EV.sP (x:="do") (bA 0 2 (m:=0) rfl rfl hq rfl rfl)) ar)))) (by decide +kernel)) (λ_=>?_) (λh=>by cases h));refine ah (nr 0 2 (y:=.int k) (EV.pI (dc 1 ev_int rfl (y:=k) rfl)) rfl rfl rfl hq rfl (by show 2<PZ;decide) ?_);refine ak (dZ 1 (j:=0) (bZ (dc 1 ev_int rfl (y:=k) rfl) ev_int) ev_int rfl rfl rfl ?_);change WS _ _ [.ob (bN b (qs.set i ([.str "do",.str x]++[.int k],g))),.ob (aE c ai [k+1]),.im dO g.1] _ _;refine ah (aL (k:=false) (TV.cast (au aT (EV.sP (x:="do") (bA 0 2 (m:=0) rfl rfl (VA ([.str "do",.str x]++[.int k])) rfl rfl)) ar) (by decide +kernel)) (λh=>by cases h) (λ_=>aA ?_));refine ak (aL (k:=false) (TV.cast (au aT (EV.sP (x:="do") (bA 0 2 (m:=0) rfl rfl (VA ([.str "do",.str x]++[.int k])) rfl rfl)) ar) (by decide +kernel)) (λh=>by cases h) (λ_=>aA ?_));rw[bw] at hN;exact hN
 | call x=>
   refine ah (aL (k:=true) (TV.cast (TW.tv (cD (au fJ (EV.sP (x:="call") (bA 0 2 (m:=0) rfl rfl hq rfl rfl)) ar) (λ_=>cZ (au fJ (EV.sP (x:="call") (bA 0 2 (m:=0) rfl rfl hq rfl rfl)) ar)))) (by decide +kernel)) (λ_=>?_) (λh=>by cases h));refine ah (nr 0 2 (y:=.int k) (EV.pI (dc 1 ev_int rfl (y:=k) rfl)) rfl rfl rfl hq rfl (by show 2<PZ;decide) ?_);refine ak (dZ 1 (j:=0) (bZ (dc 1 ev_int rfl (y:=k) rfl) ev_int) ev_int rfl rfl rfl ?_);change WS _ _ [.ob (bN b (qs.set i ([.str "call",.int x]++[.int k],g))),.ob (aE c ai [k+1]),.im dO g.1] _ _;refine ah (aL (k:=false) (TV.cast (au aT (EV.sP (x:="call") (bA 0 2 (m:=0) rfl rfl (VA ([.str "call",.int x]++[.int k])) rfl rfl)) ar) (by decide +kernel)) (λh=>by cases h) (λ_=>aA ?_));refine ak (aL (k:=false) (TV.cast (au aT (EV.sP (x:="call") (bA 0 2 (m:=0) rfl rfl (VA ([.str "call",.int x]++[.int k])) rfl rfl)) ar) (by decide +kernel)) (λh=>by cases h) (λ_=>aA ?_));rw[bw] at hN;exact hN
 | ifs x L M=>
   refine ah (aL (k:=true) (TV.cast (TW.tv (cD (au fJ (EV.sP (x:="if") (bA 0 2 (m:=0) rfl rfl hq rfl rfl)) ar) (λ_=>cZ (au fJ (EV.sP (x:="if") (bA 0 2 (m:=0) rfl rfl hq rfl rfl)) ar)))) (by decide +kernel)) (λ_=>?_) (λh=>by cases h));refine ah (nr 0 2 (y:=.int k) (EV.pI (dc 1 ev_int rfl (y:=k) rfl)) rfl rfl rfl hq rfl (by show 4<PZ;decide) ?_);refine ak (dZ 1 (j:=0) (bZ (dc 1 ev_int rfl (y:=k) rfl) ev_int) ev_int rfl rfl rfl ?_);change WS _ _ [.ob (bN b (qs.set i ([.str "if",.str x,.lst (ba L),.lst (ba M)]++[.int k],g))),.ob (aE c ai [k+1]),.im dO g.1] _ _;have hd:1+max (dh L) (dh M)<=n:=by rw[fh] at hd;exact hd
   obtain⟨m,rfl⟩:∃m,n=m+1:=⟨n-1,by omega⟩;refine ah (aL (k:=true) (TV.cast (au aT (EV.sP (x:="if") (bA 0 2 (m:=0) rfl rfl (VA ([.str "if",.str x,.lst (ba L),.lst (ba M)]++[.int k])) rfl rfl)) ar) (by decide +kernel)) (λ_=>?_) (λh=>by cases h));refine ah (pT 0 2 1 (m:=2) (ts:=L) (CN m rfl) hr (by decide) rfl rfl rfl (VA ([.str "if",.str x,.lst (ba L),.lst (ba M)]++[.int k])) rfl (by omega) ?_);rw[Og];generalize hA:aI L (k+1)=RA;change WS _ _ [.ob (bN b (qs.set i ([.str "if",.str x,.lst (RA.1.map PV.lst),.lst (ba M),.int k],g))),.ob (aE c ai [RA.2]),.im dO g.1] _ _;refine ak (pT 0 2 1 (m:=3) (ts:=M) (CN m rfl) hr (by decide) rfl rfl rfl (VA [.str "if",.str x,.lst (RA.1.map PV.lst),.lst (ba M),.int k]) rfl (by omega) ?_);rw[Og];change WS _ _ [.ob (bN b (qs.set i ([.str "if",.str x,.lst (RA.1.map PV.lst),.lst ((aI M RA.2).1.map PV.lst),.int k],g))),.ob (aE c ai [(aI M RA.2).2]),.im dO g.1] _ _;refine ak (aL (k:=false) (TV.cast (au aT (EV.sP (x:="if") (bA 0 2 (m:=0) rfl rfl (VA [.str "if",.str x,.lst (RA.1.map PV.lst),.lst ((aI M RA.2).1.map PV.lst),.int k]) rfl rfl)) ar) (by decide +kernel)) (λh=>by cases h) (λ_=>aA ?_));rw[bw,hA] at hN;exact hN
 | Ta x L=>
   refine ah (aL (k:=true) (TV.cast (TW.tv (cD (au fJ (EV.sP (x:="while") (bA 0 2 (m:=0) rfl rfl hq rfl rfl)) ar) (λ_=>cZ (au fJ (EV.sP (x:="while") (bA 0 2 (m:=0) rfl rfl hq rfl rfl)) ar)))) (by decide +kernel)) (λ_=>?_) (λh=>by cases h));refine ah (nr 0 2 (y:=.int k) (EV.pI (dc 1 ev_int rfl (y:=k) rfl)) rfl rfl rfl hq rfl (by show 3<PZ;decide) ?_);refine ak (dZ 1 (j:=0) (bZ (dc 1 ev_int rfl (y:=k) rfl) ev_int) ev_int rfl rfl rfl ?_);change WS _ _ [.ob (bN b (qs.set i ([.str "while",.str x,.lst (ba L)]++[.int k],g))),.ob (aE c ai [k+1]),.im dO g.1] _ _;have hd:1+dh L<=n:=by rw[fh] at hd;exact hd
   obtain⟨m,rfl⟩:∃m,n=m+1:=⟨n-1,by omega⟩;refine ah (aL (k:=false) (TV.cast (au aT (EV.sP (x:="while") (bA 0 2 (m:=0) rfl rfl (VA ([.str "while",.str x,.lst (ba L)]++[.int k])) rfl rfl)) ar) (by decide +kernel)) (λh=>by cases h) (λ_=>aA ?_));refine ak (aL (k:=true) (TV.cast (au aT (EV.sP (x:="while") (bA 0 2 (m:=0) rfl rfl (VA ([.str "while",.str x,.lst (ba L)]++[.int k])) rfl rfl)) ar) (by decide +kernel)) (λ_=>?_) (λh=>by cases h));refine ak (pT 0 2 1 (m:=2) (ts:=L) (CN m rfl) hr (by decide) rfl rfl rfl (VA ([.str "while",.str x,.lst (ba L)]++[.int k])) rfl (by omega) ?_);rw[Og];rw[bw] at hN;exact hN
theorem yJ {n:Nat}(CN:∀m,n=m+1->aM P w K mg base "_law_numbered" (m+1) (kB m))(F:dQ K "_law_numbered" "_law_numbered" oA f fd)(hm:mg "_law_numbered"=some (.ref f))(hb:Binds K fd BQ []):aM P w K mg base "_law_numbered" (n+1) (kB n):=by
 have nd:=A5.nd;refine⟨f,fd,BQ,?_,hm,F.kp,hb⟩;refine F.ok A5 (λvs H Q E h=>?_) (λS6 A outer s H vs Q E hr h=>?_)
 ·obtain⟨R,b,c,g,ts,k,rfl,_⟩:=h;rfl
 ·obtain⟨R,b,c,g,ts,k,rfl,sR,t,ndb,hR,hc,WR,hHc,hd,q⟩:=h;have hz:ts.length<=PZ:=by
   cases t with
   | lst _ _ z=>rw[ee,M8] at z;exact z
  rw[xE] at t;obtain⟨ps,kk,e1,rfl⟩:=t.pl ndb;have pl:ps.length=ts.length:=by
   have:=congrArg List.length e1;rwa [M8,M8] at this
  have body:WS (eN d8 P w K mg base Cv "_law_numbered" (ao oA) f S6 A outer s H E).iq (br oA) [.ob (bN b ps),.ob (aE c ai [k]),.no] (λΓ=>∃(qs:List PT)(e:Ent),Γ=[.ob (bN b qs),.ob (aE c ai [(aI ts k).2]),e]/\qs.map (·.2)=ps.map (·.2)/\qs.map (·.1)=(aI ts k).1) (λ_ _ _ _=>False):=by
   refine ak (Ed 0 (a:=b) (ps:=ps) (λi Γ=>∃(qs:List PT)(e:Ent),Γ=[.ob (bN b qs),.ob (aE c ai [(aI (ts.take i) k).2]),e]/\qs.map (·.2)=ps.map (·.2)/\qs.map (·.1)=(aI (ts.take i) k).1++(ts.drop i).map dY) rfl (bt 2) ⟨ps,.no,rfl,rfl,?_⟩ (λi Γ ⟨qs,e,h1,h2,_⟩=>⟨qs,by rw[h1];rfl,h2⟩) (λi p Γ hp hΓ=>?_) (λΓ hΓ=>?_))
   ·rw[Ol,aI,drop_zero,e1];rfl
   ·obtain⟨qs,e,rfl,h2,h3⟩:=hΓ;have il:i<ts.length:=by rw[← pl];exact(M1.mp hp).1
    have ti:ts[i]?=some ts[i]:=M4 il;have lt:(aI (ts.take i) k).1.length=i:=by rw[lT,Nu];omega
    have q1:(qs.map (·.1))[i]?=some (dY ts[i]):=by
     rw[h3,Ny (by omega),lt,Pq,Nc,OY,Pl,ti];rfl
    have q2:(qs.map (·.2))[i]?=some p.2:=by rw[h2,Nc,hp];rfl
    rw[Nc] at q1 q2;obtain⟨q0,VR,e3⟩:=Pt.mp q1;rw[VR] at q2;have e4:q0.2=p.2:=Option.some.inj q2;have hq:qs[i]?=some (dY ts[i],p.2):=by rw[VR];exact congrArg some (Py e3 e4)
    have nx:aI (ts.take (i+1)) k=((aI (ts.take i) k).1++[(bw ts[i] (aI (ts.take i) k).2).1],(bw ts[i] (aI (ts.take i) k).2).2):=by
     rw[NH,ti];exact mh _ _ _
    refine DH (t:=ts[i]) (i:=i) (qs:=qs) (g:=p.2) CN hr (O2 (my (NK il)) hd) hq ⟨qs.set i ((bw ts[i] (aI (ts.take i) k).2).1,p.2),.im dO p.2.1,by rw[nx],?_,?_⟩
    ·rw[map_set,h2];exact mD (by rw[Nc,hp];rfl)
    ·rw[map_set,h3,nx,List.set_append_right _ _ (by omega),lt,Pq,Nl];congr 1;rw[show ts.drop i=ts[i]::ts.drop (i+1) from Oa il];rfl
   ·obtain⟨qs,e,rfl,h2,h3⟩:=hΓ;rw[pl,NN] at h3 ⊢;rw[drop_length,OF,Nw] at h3;exact⟨qs,e,rfl,h2,h3⟩
  refine⟨_,ib,body (L2.start Cv [.ref b,.ref c]) (ft H (c::b::dG ps)) R H R (He rfl sR kk hR hc WR hHc) {nx:=λ_ H'=>Q .Tf H',rt:=Q} (λσ' H' R' Γ' E' _ ⟨qs,e,hΓ,h2,h3⟩=>?_) λv H' R' xx t=>t.elim⟩;subst hΓ;obtain⟨⟨v,ea,rfl,k2⟩,Wf⟩:=E'.ent 0 _ rfl;obtain⟨ec,⟨ws,hwc,pw⟩,hRc2⟩:=dv (E'.ent 1 _ rfl);have X0:ws=[.int (aI ts k).2]:=by
   cases pw with
   | cons a1 t1=>cases t1;have:_=V.int (aI ts k).2:=a1;rw[this]
  subst X0;have fe:dG qs=dG ps:=by
   have:=congrArg (λl:List (Addr×MG)=>l.flatMap λz=>z.1::z.2) h2;simpa only[List.flatMap_map] using this
  have ql:qs.length<=PZ:=by
   have:=congrArg List.length h2;rw[M8,M8] at this;omega
  obtain⟨t2,_⟩:=k2.tpv ql;rw[h3,fe] at t2;refine q H' R' E'.ext t2 hwc λd hd=>?_;rcases Nd.mp hd with rfl | hd
  ·exact hRc2
  ·exact Wf d (by show d∈b::dG qs;rw[fe];exact hd)
theorem BM (F:dQ K "_law_numbered" "_law_numbered" oA f fd)(hm:mg "_law_numbered"=some (.ref f))(hb:Binds K fd BQ []):∀n,aM P w K mg base "_law_numbered" (n+1) (kB n)
 | 0=>yJ (λm h=>SQ h (by omega)) F hm hb
 | n+1=>yJ (λm h=>by cases h;exact BM F hm hb n) F hm hb
end
end K1
namespace Fc
open PySem PySem.Spec PySem.W PySem.Calls L2
open PyProof.Rows hiding St
open PySem PySem.Spec L2 K1
structure Am (H R:Hp)(a:Addr)(fs:List (Addr×List PV))(ps:List PT):Prop where
 hd:H a=some (.lst ((fs.map λz=>.ref z.1)++ps.map λp=>.ref p.2.1))
 fz:∀z∈fs,gR R (.ref z.1) (.lst z.2)
 pt:∀(n:Nat)(p:PT),ps[n]?=some p->cK H (.ref p.2.1) (.lst p.1) (dm p)/\(dm p).Nodup/\a∉dm p
 dj:∀(n m:Nat)(p q:PT),ps[n]?=some p->ps[m]?=some q->∀c∈dm p,c∈dm q->n=m
def dP (a:Addr)(fs:List (Addr×List PV))(ps:List PT):mn where
 fp:=a::dG ps
 R:=λ_ H R v=>v= .ref a/\Am H R a fs ps
 loc:=λh s ⟨e,k⟩=>⟨e,(h _ Nb).trans k.hd,λz hz=>(k.fz z hz).mono s,λn p hn=>⟨(k.pt n p hn).1.loc λc hc=>h c (M7 _ (bu.mpr ⟨n,p,hn,hc⟩)),(k.pt n p hn).2⟩,k.dj⟩
 has:=λ⟨e,k⟩ c hc=>by
  rcases Nd.mp hc with rfl | hc
  ·rw[k.hd];simp
  ·obtain⟨n,p,hn,hc⟩:=bu.mp hc;exact(k.pt n p hn).1.has c hc
section
variable {X:Cx}{Γ Γ1 Γ2 Γ3:Ga}{α β γ δ:Type}{N:Ga->Prop}{T:RT}
variable {a:Addr}
theorem aw.Ja {K:Sk}{σ:St}{H0 R0 H R:Hp}{i:Nat}{B B':mn}{D:MG}(E:aw K σ H0 R0 H R Γ)(hΓ:Γ[i]?=some (.ob B))(hD:∀d∈D,d∈B.fp)(Vb:∀e∈B'.fp,e∈B.fp/\e∉D)(hB:∀v,(σ[i]?).join=some v->B.R K H R v->B'.R K H (λb=>if b∈D then H b else R b) v):aw K σ H0 R0 H (λb=>if b∈D then H b else R b) (Γ.set i (.ob B'))/\ay R (λb=>if b∈D then H b else R b):=by
 have h0:∀b∈D,H0 b=none:=λb hb=>E.nw i _ b hΓ (hD b hb);have hR:∀b∈D,R b=none:=λb hb=>(E.ent i _ hΓ).2 b (hD b hb);have sR:ay R (λb=>if b∈D then H b else R b):=λb o q=>by
  show(if b∈D then H b else R b)=some o;rw[SR λw=>by rw[hR b w] at q;cases q];exact q
 refine⟨⟨⟨E.ext.h,E.ext.r.trans sR,λb o q=>?_,λb hb=>?_⟩,λj e q=>?_,λj e b q w=>?_,λj k e e' b q q' w w'=>?_,by rw[NT];exact E.len⟩,sR⟩
 ·have q:(if b∈D then H b else R b)=some o:=q;by_cases hb:b∈D
  ·rw[SS hb] at q;exact q
  ·rw[SR hb] at q;exact E.sub b o q
 ·show(if b∈D then H b else R b)=_;rw[SR λw=>hb (h0 b w)];exact E.ext.old b hb
 ·rcases set_at q with⟨rfl,rfl,_⟩ | ⟨hj,q1⟩
  ·obtain⟨⟨v,ev,hv⟩,hn⟩:=E.ent j _ hΓ;refine⟨⟨v,ev,hB v ev hv⟩,λb hb=>?_⟩;show(if b∈D then H b else R b)=none;rw[SR (Vb b hb).2];exact hn b (Vb b hb).1
  ·have h1:=E.ent j e q1;refine h1.loc (λb hb=>rfl) sR λb hb=>?_;show(if b∈D then H b else R b)=none;rw[SR (show¬b∈D from λw=>hj (E.ds j i e _ b q1 hΓ hb (hD b w)))];exact(Ent.eF h1 hb).2
 ·rcases set_at q with⟨rfl,rfl,_⟩ | ⟨hj,q1⟩
  ·exact E.nw _ _ b hΓ (Vb b w).1
  ·exact E.nw j e b q1 w
 ·rcases set_at q with⟨rfl,rfl,_⟩ | ⟨hj,q1⟩
  ·rcases set_at q' with⟨rfl,rfl,_⟩ | ⟨hk,Us⟩
   ·rfl
   ·exact E.ds _ _ _ _ b hΓ Us (Vb b w).1 w'
  ·rcases set_at q' with⟨rfl,rfl,_⟩ | ⟨hk,Us⟩
   ·exact E.ds _ _ _ _ b q1 hΓ w (Vb b w').1
   ·exact E.ds _ _ _ _ b q1 Us w w'
theorem WS.JY (i j:Nat){Uw:List Stmt}{fs:List (Addr×List PV)}{q0:PT}{ps:List PT}(hij:i≠j)(hΓ:Γ[i]?=some (.ob (dP a fs (q0::ps))))(hj:Γ[j]?=some (.im dO q0.2.1))(h:WS X Uw ((Γ.set i (.ob (dP a (fs++[(q0.2.1,q0.1)]) ps))).set j (.im (ae ag) q0.1)) N T):WS X Uw Γ N T:=λσ H0 R0 H R E D dn dr=>by
 obtain⟨⟨v,ea,rfl,k⟩,hR⟩:=E.ent i _ hΓ;obtain⟨tq,Xn,naq⟩:=k.pt 0 q0 rfl;have hD:∀d∈dm q0,d∈(dP a fs (q0::ps)).fp:=λd hd=>M7 _ (bu.mpr ⟨0,q0,rfl,hd⟩);have tl:∀(n:Nat)(p:PT),ps[n]?=some p->(q0::ps)[n+1]?=some p:=λn p h=>by simpa using h
 have tR:cK (λb=>if b∈dm q0 then H b else R b) (.ref q0.2.1) (.lst q0.1) (dm q0):=tq.loc λc hc=>SS hc;obtain⟨E1,sR⟩:=E.Ja (B':=dP a (fs++[(q0.2.1,q0.1)]) ps) hΓ hD (λe he=>by
  rcases Nd.mp he with rfl | he
  ·exact⟨Nb,naq⟩
  ·obtain⟨n,p,hn,hp⟩:=bu.mp he;exact⟨M7 _ (bu.mpr ⟨n+1,p,tl n p hn,hp⟩),λw=>SQ (k.dj (n+1) 0 p q0 (tl n p hn) rfl e hp w) (by omega)⟩) λv ev ⟨e,_⟩=>by
  refine⟨e,?_,λz hz=>?_,λn p hn=>?_,λn m p q hn hm=>?_⟩
  ·rw[k.hd,Nn,Nl];rfl
  ·rcases Nj.mp hz with hz | hz
   ·exact(k.fz z hz).mono λb o q=>by
     show(if b∈dm q0 then H b else R b)=some o;rw[SR λw=>by rw[hR b (hD b w)] at q;cases q];exact q
   ·rw[M5.mp hz];exact tR.pK
  ·exact k.pt (n+1) p (tl n p hn)
  ·intro c hc hd;have:=k.dj (n+1) (m+1) p q (tl n p hn) (tl m q hm) c hc hd;omega
 have hl:j<Γ.length:=(M1.mp hj).1;obtain⟨v0,e0,U3⟩:=E.ent j _ hj;cases U3
 have E2:=E1.tell (i:=j) (en:=.im (ae ag) q0.1) (e0:=.im dO q0.2.1) (by rw[Nt hij];exact hj) ⟨_,e0,by
  cases tR with
  | @lst _ vs _ _ hb tt zz=>exact⟨_,vs,rfl,hb,tt.pK.pair,zz⟩⟩ λb w=>by cases w
 exact h σ H0 R0 H _ E2 D (λσ2 H2 R2 Γ2 E3 s2=>dn σ2 H2 R2 Γ2 E3 (sR.trans s2)) dr
theorem ED (i:Nat){tg:Expr}{x:Str}{p1:Pos}{body:List Stmt}{pos:Pos}{rs:MG}{fs0:List (Addr×List PV)}{ps0:List PT}{bf:Addr->Ga->Ga}(I:Nat->Ga->Prop)(hΓ:Γ[i]?=some (.ob (dP a fs0 ps0)))(hrs:(fs0.map (·.1))++ps0.map (·.2.1)=rs)(hb:BG X tg dO bf)(h0:I 0 Γ)(hI:∀k Γ,I k Γ->∃fs ps,Γ[i]?=some (.ob (dP a fs ps))/\(fs.map (·.1))++ps.map (·.2.1)=rs)(T2:∀(k:Nat)(b:Addr)(Γ:Ga),rs[k]?=some b->I k Γ->WS X body (bf b Γ) (I (k+1)) T)(Uk:∀Γ:Ga,I rs.length Γ->N Γ)(hN:X.N[i]?=some x:=by rfl)(hv:autoParam (cb X.env.scope x) Tv)(hd:Ti x:=by decide)(S9:Tz x:=by decide)(hc:X.calm=true:=by rfl)(hp:QX (model X.prog X.w) X.A X.env X.xe:=by exact QX.never)(hs:∀y,Qi (.Name x p1) X.env y=pure y:=by intro _;rfl):W1 X (.For tg (.Name x p1) body [] pos) Γ N T:=λσ H0 R0 H R E D dn dr=>by
 have hda:∀{H R:Hp}{fs:List (Addr×List PV)}{ps:List PT},Am H R a fs ps->(fs.map (·.1))++ps.map (·.2.1)=rs->H a=some (.lst (rs.map V.ref)):=λk e=>by
  rw[k.hd,← e,Nn,NX,NX];rfl
 obtain⟨⟨v,ea,rfl,k0⟩,hR⟩:=E.ent i _ hΓ;refine sS (tE hp hc (qu (a8 hN hv hd S9)) GB ib hs) ⟨.ref a,at_of ea,a,rfl,⟨_,aY.of (hda k0 hrs)⟩,?_⟩;refine⟨λk m σ' H'=>m=rs.length-k/\k<=rs.length/\∃R' Γ',aw X.K σ' H0 R0 H' R' Γ'/\ay R R'/\I k Γ',⟨_,rfl,O3 _,R,Γ,E,ay.refl _,h0⟩,?_⟩;rintro k m σ' H' ⟨rfl,hle,R',Γ',E',s',WT⟩;obtain⟨fs,ps,hy,hrs'⟩:=hI k Γ' WT;obtain⟨⟨v,T1,rfl,k1⟩,_⟩:=E'.ent i _ hy;have Ud:=hda k1 hrs';by_cases Uc:k<rs.length
 ·have hk:(rs.map V.ref)[k]?=some (.ref rs[k]):=by rw[Nc,M4 Uc];rfl
  refine .inr ⟨⟨_,_,aY.of Ud,hk⟩,λσ' H'=>k+1<=rs.length/\∃R' Γ',aw X.K σ' H0 R0 H' R' Γ'/\ay R R'/\I (k+1) Γ',λσ2 H2 h=>⟨rs.length-(k+1),by omega,rfl,h.1,h.2⟩,λv H2 US=>?_⟩;obtain⟨rfl,US⟩:=US;have:=US _ (aY.of Ud);rw[hk] at this;cases this
  refine hb σ' H0 R0 H2 R' Γ' _ rs[k] E' rfl _ λσ2 E2=>?_;exact T2 k rs[k] Γ' (M4 Uc) WT σ2 H0 R0 H2 R' E2 _ (λσ3 H3 R3 Γ3 E3 s3 h3=>⟨Uc,R3,Γ3,E3,s'.trans s3,h3⟩) dr
 ·have e:k=rs.length:=by omega
  subst e;exact .inl ⟨⟨_,aY.of Ud,by rw[M8];exact O0 _⟩,dn σ' H' R' Γ' E' s' (Uk Γ' WT)⟩
theorem Gk (i j l:Nat){x y z:Str}{d m0:Nat}{p p1 p2 cp pos:Pos}{c b:Addr}{g:MG}{fs:List (Addr×List PV)}{ps:List PT}{ts:List Th}{k:Int}(C:aM X.prog X.w X.K X.mg X.base x m0 (kB d))(hr:bI m0 X.A)(Wb:i≠l)(hΓ:Γ[i]?=some (.ob (dP a fs ((ba ts,b,g)::ps))))(hj:Γ[j]?=some (.im dO b))(hl:Γ[l]?=some (.ob (aE c ai [k])))(hd:dh ts<=d)(h:N ((Γ.set i (.ob (dP a fs (((aI ts k).1.map PV.lst,b,g)::ps)))).set l (.ob (aE c ai [(aI ts k).2]))))(hg:Gl X x:=by rfl)(TZ:Ti x:=by decide)(he:PU [.Name y p1,.Name z p2] X.env=(false,eval (.Name y p1) X.env)::PU [.Name z p2] X.env:=by rfl)(XM:PU [.Name z p2] X.env=(false,eval (.Name z p2) X.env)::PU [] X.env:=by rfl)(To:(P8 cp (PU [.Name z p2] X.env)).any (·.1)=false:=by rfl)(hNj:X.N[j]?=some y:=by rfl)(hvj:autoParam (cb X.env.scope y) Tv)(hdj:Ti y:=by decide)(hcj:Tz y:=by decide)(hNl:X.N[l]?=some z:=by rfl)(hvl:autoParam (cb X.env.scope z) Tv)(Vx:Ti z:=by decide)(VF:Tz z:=by decide)(Uj:P9 (.Call (.Name x p) [.Name y p1,.Name z p2] [] cp) none pos.line X.env=pure false:=by rfl):W1 X (.Expr (.Call (.Name x p) [.Name y p1,.Name z p2] [] cp) pos) Γ N T:=λσ H0 R0 H R E D dn dr=>by
 obtain⟨f,fd,pn,F,hm,hk,hb⟩:=C.ex;obtain⟨⟨v,ea,rfl,kk⟩,hR⟩:=E.ent i _ hΓ;obtain⟨v0,e0,U3⟩:=E.ent j _ hj;cases U3
 obtain⟨ec,⟨ws,hc,pc⟩,WR⟩:=dv (E.ent l _ hl);have X0:ws=[.int k]:=by
  cases pc with
  | cons a1 t1=>cases t1;have:_=V.int k:=a1;rw[this]
 subst X0;obtain⟨t,nd,na⟩:=kk.pt 0 _ rfl;have Wx:∀e∈b::g,e∈(dP a fs ((ba ts,b,g)::ps)).fp:=λe he=>M7 _ (bu.mpr ⟨0,_,rfl,he⟩);have hasB:=λe he=>(dP a fs ((ba ts,b,g)::ps)).has (K:=X.K) (R0:=R) ⟨rfl,kk⟩ e he;have cB:∀e∈(dP a fs ((ba ts,b,g)::ps)).fp,e≠c:=λe he z=>Wb (E.ds i l _ _ e hΓ hl he (by rw[z];exact M5.mpr rfl));refine sS (eo (iE F hr hg hm hk hb .nil kj (aK (a8 hNj hvj hdj hcj) (aK (a8 hNl hvl Vx VF) bo XM) he) TZ he To) Uj) ⟨.ref b,at_of e0,.ref c,at_of ec,?_⟩;show kB d [.ref b,.ref c] H (λ_ H1=>D.nx σ H1) E0;refine⟨R,b,c,g,ts,k,rfl,E.sub,t,nd,λe he=>hR e (Wx e he),λw=>cB c (Wx c w) rfl,WR,hc,hd,λH' R' xx t' VX Uo=>?_⟩;have keep:∀e∈(dP a fs ((ba ts,b,g)::ps)).fp,e∉b::g->H' e=H e:=λe he hn=>xx.keep (λw=>(Nd.mp w).elim (cB e he) hn) (hasB e he);have nR:∀e∈(dP a fs ((ba ts,b,g)::ps)).fp,R' e=none:=λe he=>by
  by_cases w:e∈c::b::g
  ·exact Uo e w
  ·exact(xx.old e (by rw[dz w];exact hasB e he)).trans (hR e he)
 have sp:∀(n:Nat)(q:PT),(((aI ts k).1.map PV.lst,b,g)::ps:List PT)[n]?=some q->(n=0/\q=((aI ts k).1.map PV.lst,b,g))∨(n≠0/\((ba ts,b,g)::ps:List PT)[n]?=some q):=λn q h=>by
  cases n with
  | zero=>exact .inl ⟨rfl,by simpa using h.symm⟩
  | succ n=>exact .inr ⟨by omega,by simpa using h⟩
 have fe:∀(n:Nat)(q:PT),(((aI ts k).1.map PV.lst,b,g)::ps:List PT)[n]?=some q->∃q',((ba ts,b,g)::ps:List PT)[n]?=some q'/\dm q=dm q':=λn q h=>by
  rcases sp n q h with⟨rfl,rfl⟩ | ⟨_,h⟩
  ·exact⟨_,rfl,rfl⟩
  ·exact⟨q,h,rfl⟩
 refine dn σ H' R' _ (E.B3 (B':=dP a fs (((aI ts k).1.map PV.lst,b,g)::ps)) (C':=aE c ai [(aI ts k).2]) Wb hΓ hl (D:=c::b::g) (λe he=>?_) xx ?_ ?_ (λe he=>he) λe he=>he) xx.r h
 ·rcases Nd.mp he with rfl | he
  ·exact .inr (M5.mpr rfl)
  ·exact .inl (Wx e he)
 ·rw[ea];refine⟨⟨_,rfl,rfl,?_,λz hz=>(kk.fz z hz).mono xx.r,λn q hq=>?_,λn m q1 q2 h1 h2 e e1 e2=>?_⟩,λe he=>nR e he⟩
  ·rw[keep a Nb na,kk.hd];rfl
  ·rcases sp n q hq with⟨rfl,rfl⟩ | ⟨hn,hq⟩
   ·exact⟨t',nd,na⟩
   ·obtain⟨t1,t2,t3⟩:=kk.pt n q hq;exact⟨t1.loc λe he=>keep e (M7 _ (bu.mpr ⟨n,q,hq,he⟩)) λw=>hn (kk.dj n 0 q _ hq rfl e he w),t2,t3⟩
  ·obtain⟨p1,x1,f1⟩:=fe n q1 h1;obtain⟨p2,x2,f2⟩:=fe m q2 h2;exact kk.dj n m p1 p2 x1 x2 e (f1▸e1) (f2▸e2)
 ·rw[ec];exact⟨⟨_,rfl,rfl,[.int (aI ts k).2],VX,.cons rfl .nil⟩,λe he=>by rw[M5.mp he];exact Uo c Nb⟩
end
end Fc
namespace K1
open PySem L2 Fc
open PySem.Spec hiding Row
open PyProof.Rows hiding St
open PySem.Builtin.Int (intBits)
variable {P:P2}{w:World}{K:Sk}{mg:MA}{base:Heap}{f:Addr}{fd:Qa}
def gi (ts:List Th)(k:Int)(bh lp:PV):PV:=match ts with
 | []=>bh
 | .leave::_=>lp
 | .back::_=>.int (-1)
 | _::_=>.int k
mutual
def dS:Th->Int->PV->PV->List PV
 | .Tr x,k,af,lp=>[.tup [.str "do",.str x,.int k,af,.int (-1)]]
 | .call j,k,af,lp=>[.tup [.str "call",.str "",.int k,af,.int j]]
 | .ifs x A B,k,af,lp=>[.tup [.str "yes",.str x,.int k,gi A (k+1) af lp,.int (-1)],.tup [.str "no",.str x,.int k,gi B (aI A (k+1)).2 af lp,.int (-1)]]++(dU A (k+1) af lp++dU B (aI A (k+1)).2 af lp)
 | .Ta x A,k,af,lp=>[.tup [.str "yes",.str x,.int k,gi A (k+1) (.int k) af,.int (-1)],.tup [.str "no",.str x,.int k,af,.int (-1)]]++dU A (k+1) (.int k) af
 | .leave,_,_,_=>[]
 | .back,_,_,_=>[]
def dU:List Th->Int->PV->PV->List PV
 | [],_,_,_=>[]
 | t::ts,k,bh,lp=>dS t k (gi ts (bw t k).2 bh lp) lp++dU ts (bw t k).2 bh lp
end
mutual
theorem tW:∀(t:Th)(k:Int)(af lp:PV),(dS t k af lp).length=cn t
 | .Tr x,k,af,lp=>by rw[dS,cn];rfl
 | .call j,k,af,lp=>by rw[dS,cn];rfl
 | .ifs x A B,k,af,lp=>by rw[dS,cn,M9,M9,gC A,gC B];show 2+_=_;omega
 | .Ta x A,k,af,lp=>by rw[dS,cn,M9,gC A];rfl
 | .leave,k,af,lp=>by simp only[dS,cn];rfl
 | .back,k,af,lp=>by simp only[dS,cn];rfl
theorem gC:∀(ts:List Th)(k:Int)(bh lp:PV),(dU ts k bh lp).length=bW ts
 | [],k,bh,lp=>by rw[dU,bW];rfl
 | t::ts,k,bh,lp=>by rw[dU,bW,M9,tW t,gC ts]
end
theorem vm (t:Th)(k:Int):cM (bw t k).1 0=some (.str (cz t)):=by cases t<;>rw[bw]<;>rfl
theorem pR:∀{ts:List Th}{j:Nat}{t:Th}(k:Int),ts[j]?=some t->(aI ts k).1[j]?=some (bw t (aI (ts.take j) k).2).1
 | u::ts,0,t,k,h=>by
   have e:u=t:=by simpa using h
   rw[aI,Ol,aI,e];rfl
 | u::ts,j+1,t,k,h=>by
   rw[aI,NQ,aI];exact pR (bw u k).2 (by simpa using h)
theorem yu:∀(ts:List Th)(j:Nat){t:Th}(k:Int)(bh lp:PV),ts[j]?=some t->dU (ts.drop j) (aI (ts.take j) k).2 bh lp=dS t (aI (ts.take j) k).2 (gi (ts.drop (j+1)) (aI (ts.take (j+1)) k).2 bh lp) lp++dU (ts.drop (j+1)) (aI (ts.take (j+1)) k).2 bh lp
 | ts,j,t,k,bh,lp,h=>by
   have jl:=(M1.mp h).1;have e:ts.drop j=t::ts.drop (j+1):=by
    rw[Oa jl];congr 1;exact Option.some.inj ((M4 jl).symm.trans h)
   have e2:(aI (ts.take (j+1)) k).2=(bw t (aI (ts.take j) k).2).2:=by
    rw[NH,h];show(aI (ts.take j++[t]) k).2=_;rw[mh]
   rw[e,dU,e2]
section
abbrev bO (ts:List Th)(k:Int):List PV:=(aI ts k).1.map PV.lst
abbrev Hy:Stmt:=top rG
abbrev FT:ME:=["_law_items","_law_j","_law_behind","_law_loop"]
theorem FL:aN FT FT (ao Hy):=TQ
def zS:dI:=λK ps T=>∃(ts:List Th)(k:Int)(j:Nat)(bh lp:PV),ps=[⟨ae ag,bO ts k⟩,⟨ai,(j:Int)⟩,⟨ag,bh⟩,⟨ag,lp⟩]/\j<=ts.length/\T=dq K ag (· =gi (ts.drop j) (aI (ts.take j) k).2 bh lp)
theorem Ju (M:cP K mg)(Df:Def K mg "_law_entry" Hy FT):aM P w K mg base "_law_entry" 1 (a9 zS K):=by
 have nd:=FL.nd;refine bR (k:=0) Df FL (λf S6 A outer s H E qs T hr hS=>?_);obtain⟨ts,k,j,bh,lp,rfl,hj,rfl⟩:=hS;have ln:(bO ts k).length=ts.length:=by rw[M8,lT]
 change WS _ _ [.im (ae ag) (bO ts k),ax (j:Int),.im ag bh,.im ag lp] _ _;refine ah (aL (au jR (aa 1 rfl) (fX M.len (aa 0 rfl))) (λh=>?_) (λh=>aA ?_))
 ·have h:(j:Int)=((bO ts k).length:Int):=SU h;refine ak (bb (aa 2 rfl) ?_);rw[Om (by omega)];rfl
 have h:¬(j:Int)=((bO ts k).length:Int):=SV h;have jl:j<ts.length:=by omega
 have tj:ts[j]?=some ts[j]:=M4 jl;have ed:ts.drop j=ts[j]::ts.drop (j+1):=Oa jl;have at_:cM (bO ts k) (j:Int)=some (.lst (bw ts[j] (aI (ts.take j) k).2).1):=by
  rw[jT (by omega) (by omega),show((j:Nat):Int).toNat=j by omega,Nc,pR k tj];rfl
 rw[ed];generalize ts[j]=t at at_;generalize (aI (ts.take j) k).2=kk at at_;refine ah (aL (au aT (EV.sP (aB (EV.lP (aB (aa 0 rfl) (aa 1 rfl) at_)) ev_int (vm t kk))) ar) (λh=>?_) (λh=>aA ?_))
 ·have h:cz t="leave":=SU h;refine ak (bb (aa 3 rfl) ?_);cases t with
  | leave=>rfl
  | _=>simp only[cz] at h;exact SQ h (by decide +kernel)
 have h1:cz t≠"leave":=SV h;refine ah (aL (au aT (EV.sP (aB (EV.lP (aB (aa 0 rfl) (aa 1 rfl) at_)) ev_int (vm t kk))) ar) (λh=>?_) (λh=>aA ?_))
 ·have h:cz t="back":=SU h;refine ak (bb (EV.pI (cG ev_int)) ?_);cases t with
  | back=>rfl
  | _=>simp only[cz] at h;exact SQ h (by decide +kernel)
 have h2:cz t≠"back":=SV h;have lst:cM (bw t kk).1 (-1)=some (.int kk)/\gi (t::ts.drop (j+1)) kk bh lp= .int kk:=by
  cases t with
  | leave=>exact SQ rfl h1
  | back=>exact SQ rfl h2
  | _=>exact⟨by rw[bw];rfl,rfl⟩
 exact ak (bb (aB (EV.lP (aB (aa 0 rfl) (aa 1 rfl) at_)) (cG ev_int) lst.1) lst.2.symm)
end
def nQ (n:Nat)(K:Sk):Sp:=λvs H Q _=>∃(R:Hp)(a:Addr)(ws:List V)(xs:List PV)(v0 v1 v2:V)(ts:List Th)(k:Int)(bh lp:PV),vs=[v0,v1,v2,.ref a]/\ay R H/\R a=none/\H a=some (.lst ws)/\PySem.Paired (ag.R K R) ws xs/\(ae ag).R K R v0 (bO ts k)/\ag.R K R v1 bh/\ag.R K R v2 lp/\dh ts<=n/\xs.length+bW ts<=1000/\
 ∀H' R' UK,Ext (del H a) R H' R'->H' a=some (.lst UK)->R' a=none->PySem.Paired (ag.R K R') UK (xs++dU ts k bh lp)->Q .Tf H'
section
variable {X:Cx}{Γ:Ga}{N:Ga->Prop}{T:RT}
theorem wM (i:Nat){x y:Str}{m n:Nat}{e0 e1 e2:Expr}{p p1 cp pos:Pos}{a:Addr}{xs:List PV}{ts:List Th}{k:Int}{bh lp:PV}(C:aM X.prog X.w X.K X.mg X.base x m (nQ n X.K))(hr:bI m X.A)(h0:EV X e0 Γ (ae ag) (bO ts k) Γ)(h1:EV X e1 Γ ag bh Γ)(h2:EV X e2 Γ ag lp Γ)(hΓ:Γ[i]?=some (.ob (aE a ag xs)))(hd:dh ts<=n)(hz:xs.length+bW ts<=1000)(h:N (Γ.set i (.ob (aE a ag (xs++dU ts k bh lp)))))(hg:Gl X x:=by rfl)(TZ:Ti x:=by decide)(s0:PU [e0,e1,e2,.Name y p1] X.env=(false,eval e0 X.env)::PU [e1,e2,.Name y p1] X.env:=by rfl)(s1:PU [e1,e2,.Name y p1] X.env=(false,eval e1 X.env)::PU [e2,.Name y p1] X.env:=by rfl)(s2:PU [e2,.Name y p1] X.env=(false,eval e2 X.env)::PU [.Name y p1] X.env:=by rfl)(s3:PU [.Name y p1] X.env=(false,eval (.Name y p1) X.env)::PU [] X.env:=by rfl)(To:(P8 cp (PU [e1,e2,.Name y p1] X.env)).any (·.1)=false:=by rfl)(hN:X.N[i]?=some y:=by rfl)(hv:autoParam (cb X.env.scope y) Tv)(hd1:Ti y:=by decide)(S9:Tz y:=by decide)(Uj:P9 (.Call (.Name x p) [e0,e1,e2,.Name y p1] [] cp) none pos.line X.env=pure false:=by rfl):W1 X (.Expr (.Call (.Name x p) [e0,e1,e2,.Name y p1] [] cp) pos) Γ N T:=λσ H0 R0 H R E D dn dr=>by
 obtain⟨f,fd,pn,F,hm,hk,hb⟩:=C.ex;refine sS (eo (iE F hr hg hm hk hb .nil kj (aK aO (aK aO (aK aO (aK (a8 hN hv hd1 S9) bo s3) s2) s1) s0) TZ s0 To) Uj) ?_;refine h0 σ H0 R0 H R E _ λv0 H1 R1 E1 q1 g0=>h1 σ H0 R0 H1 R1 E1 _ λv1 H2 R2 E2 q2 g1=>h2 σ H0 R0 H2 R2 E2 _ λv2 H3 R3 E3 q3 g2=>?_;obtain⟨ea,⟨ws,ha,pp⟩,hR⟩:=dv (E3.ent i _ hΓ);refine⟨.ref a,at_of ea,?_⟩;show nQ n X.K [v0,v1,v2,.ref a] H3 (λ_ H1=>D.nx σ H1) E0;refine⟨R3,a,ws,xs,v0,v1,v2,ts,k,bh,lp,rfl,E3.sub,hR,ha,pp,(ae ag).mono (q2.trans q3) g0,ag.mono (K:=X.K) q3 g1,g2,hd,hz,λH' R' UK xx h1 h2 pq=>?_⟩;have hl:i<Γ.length:=(M1.mp hΓ).1;have E4:aw X.K σ H0 R0 H' R' (Γ.set i (.ob (aE a ag (xs++dU ts k bh lp)))):=E3.Cp hΓ (B:=aE a ag xs) (by
  have:ft H3 (aE a ag xs).fp=del H3 a:=by funext b;show(if b∈[a] then none else H3 b)=_;unfold del;simp only[M5]
  rw[this];exact xx) (by rw[ea];exact⟨⟨_,rfl,rfl,UK,h1,pq⟩,λb hb=>by rw[M5.mp hb];exact h2⟩) λc hc=>hc
 exact dn σ H' R' _ E4 (q1.trans (q2.trans (q3.trans xx.r))) h
end
section
abbrev pk:Stmt:=top tF
abbrev Cq:ME:=["_law_items","_law_behind","_law_loop","_law_rows_here","_law_j","_law_one","_law_after"]
abbrev BV:ME:=["_law_items","_law_behind","_law_loop","_law_rows_here"]
theorem Ap:aN Cq BV (ao pk):=TQ
theorem HB {K:Sk}{R H:Hp}{a:Addr}{ws:List V}{xs items:List PV}{bh lp:PV}{u0 u1 u2:V}{N:ME}(hN:N.length=7)(s:ay R H)(hR:R a=none)(ha:H a=some (.lst ws))(pp:PySem.Paired (ag.R K R) ws xs)(g0:(ae ag).R K R u0 items)(g1:ag.R K R u1 bh)(g2:ag.R K R u2 lp):
 aw K (L2.start N [u0,u1,u2,.ref a]) (del H a) R H R [.im (ae ag) items,.im ag bh,.im ag lp,.ob (aE a ag xs),.no,.no,.no]:=by
 have es:L2.start N [u0,u1,u2,.ref a]=[some u0,some u1,some u2,some (.ref a),none,none,none]:=by unfold L2.start;rw[hN];rfl
 rw[es];have key:∀(i:Nat)(e:Ent),([Ent.im (ae ag) items,.im ag bh,.im ag lp,.ob (aE a ag xs),.no,.no,.no]:Ga)[i]?=some e->(i=0/\e= .im (ae ag) items)∨(i=1/\e= .im ag bh)∨(i=2/\e= .im ag lp)∨(i=3/\e= .ob (aE a ag xs))∨e= .no:=by
  intro i e q
  match i,q with
  | 0,q=>simp at q;exact .inl ⟨rfl,q.symm⟩
  | 1,q=>simp at q;exact .inr (.inl ⟨rfl,q.symm⟩)
  | 2,q=>simp at q;exact .inr (.inr (.inl ⟨rfl,q.symm⟩))
  | 3,q=>simp at q;exact .inr (.inr (.inr (.inl ⟨rfl,q.symm⟩)))
  | 4,q=>simp at q;exact .inr (.inr (.inr (.inr q.symm)))
  | 5,q=>simp at q;exact .inr (.inr (.inr (.inr q.symm)))
  | 6,q=>simp at q;exact .inr (.inr (.inr (.inr q.symm)))
  | i+7,q=>simp at q
 have dsub:ay (del H a) H:=λb o q=>by
  unfold del at q;by_cases h:b=a
  ·rw[SS h] at q;cases q
  ·rwa [SR h] at q
 refine⟨⟨dsub,ay.refl _,s,λ_ _=>rfl⟩,λi e q=>?_,λi e d q w=>?_,λi j e e' d q q' w w'=>?_,rfl⟩
 ·rcases key i e q with⟨rfl,rfl⟩ | ⟨rfl,rfl⟩ | ⟨rfl,rfl⟩ | ⟨rfl,rfl⟩ | rfl
  ·exact⟨u0,rfl,g0⟩
  ·exact⟨u1,rfl,g1⟩
  ·exact⟨u2,rfl,g2⟩
  ·exact⟨⟨_,rfl,rfl,ws,ha,pp⟩,λb hb=>by rw[M5.mp hb];exact hR⟩
  ·trivial
 ·rcases key i e q with⟨rfl,rfl⟩ | ⟨rfl,rfl⟩ | ⟨rfl,rfl⟩ | ⟨rfl,rfl⟩ | rfl
  ·cases w
  ·cases w
  ·cases w
  ·rw[M5.mp w];unfold del;rw[SS rfl]
  ·cases w
 ·rcases key i e q with⟨rfl,rfl⟩ | ⟨rfl,rfl⟩ | ⟨rfl,rfl⟩ | ⟨rfl,rfl⟩ | rfl
  ·cases w
  ·cases w
  ·cases w
  ·rcases key j e' q' with⟨rfl,rfl⟩ | ⟨rfl,rfl⟩ | ⟨rfl,rfl⟩ | ⟨rfl,rfl⟩ | rfl
   ·cases w'
   ·cases w'
   ·cases w'
   ·rfl
   ·cases w'
  ·cases w
theorem D3 {n:Nat}(CE:aM P w K mg base "_law_entry" 1 (a9 zS K))(CR:∀m,n=m+1->aM P w K mg base "_law_rows" (m+2) (nQ m K)){S6:Value}{A:P7}{outer:List Env}{s:PX}{H:Hp}{E:XK}{T:RT}(hr:bI (n+1) (A.deeper (PK "_law_rows" (ao pk) s.heap.objs.size f S6))){a:Addr}{items xs:List PV}{bh lp af:PV}{k:Int}{t:Th}{e4:Ent}(hd:fh t<=n)(hz:xs.length+cn t<=1000){N:Ga->Prop}(hN:N [.im (ae ag) items,.im ag bh,.im ag lp,.ob (aE a ag (xs++dS t k af lp)),e4,.im ag (.lst (bw t k).1),.im ag af]):
 WS (eN d8 P w K mg base Cq "_law_rows" (ao pk) f S6 A outer s H E).iq (match br pk with | .For _ _ bd _ _::_=>bd.drop 1 | _=>[]) [.im (ae ag) items,.im ag bh,.im ag lp,.ob (aE a ag xs),e4,.im ag (.lst (bw t k).1),.im ag af] N T:=by
 have nd:=Ap.nd;have CE:=CE.mono (show 1<=n+1 by omega);have VP:∀m:Nat,m<=1100->m<PZ:=λm h=>O6 h (by decide);cases t with
 | leave=>
   rw[bw,dS] at hN;simp only[cn] at hz;rw[bw];change WS _ _ [.im (ae ag) items,.im ag bh,.im ag lp,.ob (aE a ag xs),e4,.im ag (.lst [.str "leave"]),.im ag af] _ _;refine ah (aL (k:=false) (TV.cast (au aT (EV.sP (x:="leave") (aB (EV.lP (xs:=[.str "leave"]) (aa 5 rfl)) ev_int rfl)) ar) (by decide +kernel)) (λh=>by cases h) (λ_=>aA ?_));refine ah (aL (k:=false) (TV.cast (au aT (EV.sP (x:="leave") (aB (EV.lP (xs:=[.str "leave"]) (aa 5 rfl)) ev_int rfl)) ar) (by decide +kernel)) (λh=>by cases h) (λ_=>aA ?_));refine ah (aL (k:=false) (TV.cast (au aT (EV.sP (x:="leave") (aB (EV.lP (xs:=[.str "leave"]) (aa 5 rfl)) ev_int rfl)) ar) (by decide +kernel)) (λh=>by cases h) (λ_=>aA ?_));refine ak (aL (k:=false) (TV.cast (au aT (EV.sP (x:="leave") (aB (EV.lP (xs:=[.str "leave"]) (aa 5 rfl)) ev_int rfl)) ar) (by decide +kernel)) (λh=>by cases h) (λ_=>aA ?_));rw[Nw] at hN;exact hN
 | back=>
   rw[bw,dS] at hN;simp only[cn] at hz;rw[bw];change WS _ _ [.im (ae ag) items,.im ag bh,.im ag lp,.ob (aE a ag xs),e4,.im ag (.lst [.str "back"]),.im ag af] _ _;refine ah (aL (k:=false) (TV.cast (au aT (EV.sP (x:="back") (aB (EV.lP (xs:=[.str "back"]) (aa 5 rfl)) ev_int rfl)) ar) (by decide +kernel)) (λh=>by cases h) (λ_=>aA ?_));refine ah (aL (k:=false) (TV.cast (au aT (EV.sP (x:="back") (aB (EV.lP (xs:=[.str "back"]) (aa 5 rfl)) ev_int rfl)) ar) (by decide +kernel)) (λh=>by cases h) (λ_=>aA ?_));refine ah (aL (k:=false) (TV.cast (au aT (EV.sP (x:="back") (aB (EV.lP (xs:=[.str "back"]) (aa 5 rfl)) ev_int rfl)) ar) (by decide +kernel)) (λh=>by cases h) (λ_=>aA ?_));refine ak (aL (k:=false) (TV.cast (au aT (EV.sP (x:="back") (aB (EV.lP (xs:=[.str "back"]) (aa 5 rfl)) ev_int rfl)) ar) (by decide +kernel)) (λh=>by cases h) (λ_=>aA ?_));rw[Nw] at hN;exact hN
 | Tr x=>
   rw[bw,dS] at hN;simp only[cn] at hz;rw[bw];change WS _ _ [.im (ae ag) items,.im ag bh,.im ag lp,.ob (aE a ag xs),e4,.im ag (.lst [.str "do",.str x,.int k]),.im ag af] _ _;refine ah (aL (k:=true) (TV.cast (au aT (EV.sP (x:="do") (aB (EV.lP (xs:=[.str "do",.str x,.int k]) (aa 5 rfl)) ev_int rfl)) ar) (by decide +kernel)) (λ_=>?_) (λh=>by cases h));refine ak (jW (EV.box 3 (gO 3 (r:=ag) (eM (av (EV.pS ar) (av (aB (EV.lP (xs:=[.str "do",.str x,.int k]) (aa 5 rfl)) ev_int rfl) (av (aB (EV.lP (xs:=[.str "do",.str x,.int k]) (aa 5 rfl)) (cG ev_int) rfl) (av (aa 6 rfl) (av (EV.pI (cG ev_int)) aQ))))) (by show 5<=PZ;decide)) rfl rfl (VP _ (by first | omega | (simp only[M9,Nf,Nr];omega)))) rfl rfl) ?_);change WS _ _ [.im (ae ag) items,.im ag bh,.im ag lp,.ob (aE a ag (xs++[.tup [.str "do",.str x,.int k,af,.int (-1)]])),e4,.im ag (.lst [.str "do",.str x,.int k]),.im ag af] _ _;refine ah (aL (k:=false) (TV.cast (au aT (EV.sP (x:="do") (aB (EV.lP (xs:=[.str "do",.str x,.int k]) (aa 5 rfl)) ev_int rfl)) ar) (by decide +kernel)) (λh=>by cases h) (λ_=>aA ?_));refine ah (aL (k:=false) (TV.cast (au aT (EV.sP (x:="do") (aB (EV.lP (xs:=[.str "do",.str x,.int k]) (aa 5 rfl)) ev_int rfl)) ar) (by decide +kernel)) (λh=>by cases h) (λ_=>aA ?_));refine ak (aL (k:=false) (TV.cast (au aT (EV.sP (x:="do") (aB (EV.lP (xs:=[.str "do",.str x,.int k]) (aa 5 rfl)) ev_int rfl)) ar) (by decide +kernel)) (λh=>by cases h) (λ_=>aA ?_));exact hN
 | call x=>
   rw[bw,dS] at hN;simp only[cn] at hz;rw[bw];change WS _ _ [.im (ae ag) items,.im ag bh,.im ag lp,.ob (aE a ag xs),e4,.im ag (.lst [.str "call",.int x,.int k]),.im ag af] _ _;refine ah (aL (k:=false) (TV.cast (au aT (EV.sP (x:="call") (aB (EV.lP (xs:=[.str "call",.int x,.int k]) (aa 5 rfl)) ev_int rfl)) ar) (by decide +kernel)) (λh=>by cases h) (λ_=>aA ?_));refine ah (aL (k:=true) (TV.cast (au aT (EV.sP (x:="call") (aB (EV.lP (xs:=[.str "call",.int x,.int k]) (aa 5 rfl)) ev_int rfl)) ar) (by decide +kernel)) (λ_=>?_) (λh=>by cases h));refine ak (jW (EV.box 3 (gO 3 (r:=ag) (eM (av (EV.pS ar) (av (EV.pS ar) (av (aB (EV.lP (xs:=[.str "call",.int x,.int k]) (aa 5 rfl)) (cG ev_int) rfl) (av (aa 6 rfl) (av (aB (EV.lP (xs:=[.str "call",.int x,.int k]) (aa 5 rfl)) ev_int rfl) aQ))))) (by show 5<=PZ;decide)) rfl rfl (VP _ (by first | omega | (simp only[M9,Nf,Nr];omega)))) rfl rfl) ?_);change WS _ _ [.im (ae ag) items,.im ag bh,.im ag lp,.ob (aE a ag (xs++[.tup [.str "call",.str "",.int k,af,.int x]])),e4,.im ag (.lst [.str "call",.int x,.int k]),.im ag af] _ _;refine ah (aL (k:=false) (TV.cast (au aT (EV.sP (x:="call") (aB (EV.lP (xs:=[.str "call",.int x,.int k]) (aa 5 rfl)) ev_int rfl)) ar) (by decide +kernel)) (λh=>by cases h) (λ_=>aA ?_));refine ak (aL (k:=false) (TV.cast (au aT (EV.sP (x:="call") (aB (EV.lP (xs:=[.str "call",.int x,.int k]) (aa 5 rfl)) ev_int rfl)) ar) (by decide +kernel)) (λh=>by cases h) (λ_=>aA ?_));exact hN
 | ifs x L M=>
   rw[bw,dS] at hN;simp only[cn] at hz;rw[bw];change WS _ _ [.im (ae ag) items,.im ag bh,.im ag lp,.ob (aE a ag xs),e4,.im ag (.lst [.str "if",.str x,.lst (bO L (k+1)),.lst (bO M (aI L (k+1)).2),.int k]),.im ag af] _ _;refine ah (aL (k:=false) (TV.cast (au aT (EV.sP (x:="if") (aB (EV.lP (xs:=[.str "if",.str x,.lst (bO L (k+1)),.lst (bO M (aI L (k+1)).2),.int k]) (aa 5 rfl)) ev_int rfl)) ar) (by decide +kernel)) (λh=>by cases h) (λ_=>aA ?_));refine ah (aL (k:=false) (TV.cast (au aT (EV.sP (x:="if") (aB (EV.lP (xs:=[.str "if",.str x,.lst (bO L (k+1)),.lst (bO M (aI L (k+1)).2),.int k]) (aa 5 rfl)) ev_int rfl)) ar) (by decide +kernel)) (λh=>by cases h) (λ_=>aA ?_));refine ah (aL (k:=true) (TV.cast (au aT (EV.sP (x:="if") (aB (EV.lP (xs:=[.str "if",.str x,.lst (bO L (k+1)),.lst (bO M (aI L (k+1)).2),.int k]) (aa 5 rfl)) ev_int rfl)) ar) (by decide +kernel)) (λ_=>?_) (λh=>by cases h));have hd:1+max (dh L) (dh M)<=n:=by rw[fh] at hd;exact hd
   obtain⟨m,rfl⟩:∃m,n=m+1:=⟨n-1,by omega⟩;refine ah (jW (EV.box 3 (gO 3 (r:=ag) (eM (av (EV.pS ar) (av (aB (EV.lP (xs:=[.str "if",.str x,.lst (bO L (k+1)),.lst (bO M (aI L (k+1)).2),.int k]) (aa 5 rfl)) ev_int rfl) (av (aB (EV.lP (xs:=[.str "if",.str x,.lst (bO L (k+1)),.lst (bO M (aI L (k+1)).2),.int k]) (aa 5 rfl)) (cG ev_int) rfl) (av (aP CE hr (aq (EV.lP (aB (EV.lP (xs:=[.str "if",.str x,.lst (bO L (k+1)),.lst (bO M (aI L (k+1)).2),.int k]) (aa 5 rfl)) ev_int rfl)) (aq ev_int (aq (aa 6 rfl) (aq (aa 2 rfl) aJ)))) ⟨L,k+1,0,af,lp,rfl,O3 _,rfl⟩) (av (EV.pI (cG ev_int)) aQ))))) (by show 5<=PZ;decide)) rfl rfl (VP _ (by first | omega | (simp only[M9,Nf,Nr];omega)))) rfl rfl) ?_);refine ah (jW (EV.box 3 (gO 3 (r:=ag) (eM (av (EV.pS ar) (av (aB (EV.lP (xs:=[.str "if",.str x,.lst (bO L (k+1)),.lst (bO M (aI L (k+1)).2),.int k]) (aa 5 rfl)) ev_int rfl) (av (aB (EV.lP (xs:=[.str "if",.str x,.lst (bO L (k+1)),.lst (bO M (aI L (k+1)).2),.int k]) (aa 5 rfl)) (cG ev_int) rfl) (av (aP CE hr (aq (EV.lP (aB (EV.lP (xs:=[.str "if",.str x,.lst (bO L (k+1)),.lst (bO M (aI L (k+1)).2),.int k]) (aa 5 rfl)) ev_int rfl)) (aq ev_int (aq (aa 6 rfl) (aq (aa 2 rfl) aJ)))) ⟨M,(aI L (k+1)).2,0,af,lp,rfl,O3 _,rfl⟩) (av (EV.pI (cG ev_int)) aQ))))) (by show 5<=PZ;decide)) rfl rfl (VP _ (by first | omega | (simp only[M9,Nf,Nr];omega)))) rfl rfl) ?_);change WS _ _ [.im (ae ag) items,.im ag bh,.im ag lp,.ob (aE a ag ((xs++[.tup [.str "yes",.str x,.int k,gi L (k+1) af lp,.int (-1)]])++[.tup [.str "no",.str x,.int k,gi M (aI L (k+1)).2 af lp,.int (-1)]])),e4,.im ag (.lst [.str "if",.str x,.lst (bO L (k+1)),.lst (bO M (aI L (k+1)).2),.int k]),.im ag af] _ _;refine ah (wM 3 (ts:=L) (k:=k+1) (CR m rfl) hr (EV.lP (aB (EV.lP (xs:=[.str "if",.str x,.lst (bO L (k+1)),.lst (bO M (aI L (k+1)).2),.int k]) (aa 5 rfl)) ev_int rfl)) (aa 6 rfl) (aa 2 rfl) rfl (by omega) (by simp only[M9,Nf,Nr];omega) ?_);refine ak (wM 3 (ts:=M) (k:=(aI L (k+1)).2) (CR m rfl) hr (EV.lP (aB (EV.lP (xs:=[.str "if",.str x,.lst (bO L (k+1)),.lst (bO M (aI L (k+1)).2),.int k]) (aa 5 rfl)) ev_int rfl)) (aa 6 rfl) (aa 2 rfl) rfl (by omega) (by simp only[M9,Nf,Nr,gC];omega) ?_);change WS _ _ [.im (ae ag) items,.im ag bh,.im ag lp,.ob (aE a ag ((((xs++[.tup [.str "yes",.str x,.int k,gi L (k+1) af lp,.int (-1)]])++[.tup [.str "no",.str x,.int k,gi M (aI L (k+1)).2 af lp,.int (-1)]])++dU L (k+1) af lp)++dU M (aI L (k+1)).2 af lp)),e4,.im ag (.lst [.str "if",.str x,.lst (bO L (k+1)),.lst (bO M (aI L (k+1)).2),.int k]),.im ag af] _ _
   refine ak (aL (k:=false) (TV.cast (au aT (EV.sP (x:="if") (aB (EV.lP (xs:=[.str "if",.str x,.lst (bO L (k+1)),.lst (bO M (aI L (k+1)).2),.int k]) (aa 5 rfl)) ev_int rfl)) ar) (by decide +kernel)) (λh=>by cases h) (λ_=>aA ?_));simp only[Nl,N6,NV] at hN ⊢;exact hN
 | Ta x L=>
   rw[bw,dS] at hN;simp only[cn] at hz;rw[bw];change WS _ _ [.im (ae ag) items,.im ag bh,.im ag lp,.ob (aE a ag xs),e4,.im ag (.lst [.str "while",.str x,.lst (bO L (k+1)),.int k]),.im ag af] _ _;refine ah (aL (k:=false) (TV.cast (au aT (EV.sP (x:="while") (aB (EV.lP (xs:=[.str "while",.str x,.lst (bO L (k+1)),.int k]) (aa 5 rfl)) ev_int rfl)) ar) (by decide +kernel)) (λh=>by cases h) (λ_=>aA ?_));refine ah (aL (k:=false) (TV.cast (au aT (EV.sP (x:="while") (aB (EV.lP (xs:=[.str "while",.str x,.lst (bO L (k+1)),.int k]) (aa 5 rfl)) ev_int rfl)) ar) (by decide +kernel)) (λh=>by cases h) (λ_=>aA ?_));refine ah (aL (k:=false) (TV.cast (au aT (EV.sP (x:="while") (aB (EV.lP (xs:=[.str "while",.str x,.lst (bO L (k+1)),.int k]) (aa 5 rfl)) ev_int rfl)) ar) (by decide +kernel)) (λh=>by cases h) (λ_=>aA ?_));refine ak (aL (k:=true) (TV.cast (au aT (EV.sP (x:="while") (aB (EV.lP (xs:=[.str "while",.str x,.lst (bO L (k+1)),.int k]) (aa 5 rfl)) ev_int rfl)) ar) (by decide +kernel)) (λ_=>?_) (λh=>by cases h));have hd:1+dh L<=n:=by rw[fh] at hd;exact hd
   obtain⟨m,rfl⟩:∃m,n=m+1:=⟨n-1,by omega⟩;refine ah (jW (EV.box 3 (gO 3 (r:=ag) (eM (av (EV.pS ar) (av (aB (EV.lP (xs:=[.str "while",.str x,.lst (bO L (k+1)),.int k]) (aa 5 rfl)) ev_int rfl) (av (aB (EV.lP (xs:=[.str "while",.str x,.lst (bO L (k+1)),.int k]) (aa 5 rfl)) (cG ev_int) rfl) (av (aP CE hr (aq (EV.lP (aB (EV.lP (xs:=[.str "while",.str x,.lst (bO L (k+1)),.int k]) (aa 5 rfl)) ev_int rfl)) (aq ev_int (aq (aB (EV.lP (xs:=[.str "while",.str x,.lst (bO L (k+1)),.int k]) (aa 5 rfl)) (cG ev_int) rfl) (aq (aa 6 rfl) aJ)))) ⟨L,k+1,0,.int k,af,rfl,O3 _,rfl⟩) (av (EV.pI (cG ev_int)) aQ))))) (by show 5<=PZ;decide)) rfl rfl (VP _ (by first | omega | (simp only[M9,Nf,Nr];omega)))) rfl rfl) ?_);refine ah (jW (EV.box 3 (gO 3 (r:=ag) (eM (av (EV.pS ar) (av (aB (EV.lP (xs:=[.str "while",.str x,.lst (bO L (k+1)),.int k]) (aa 5 rfl)) ev_int rfl) (av (aB (EV.lP (xs:=[.str "while",.str x,.lst (bO L (k+1)),.int k]) (aa 5 rfl)) (cG ev_int) rfl) (av (aa 6 rfl) (av (EV.pI (cG ev_int)) aQ))))) (by show 5<=PZ;decide)) rfl rfl (VP _ (by first | omega | (simp only[M9,Nf,Nr];omega)))) rfl rfl) ?_);change WS _ _ [.im (ae ag) items,.im ag bh,.im ag lp,.ob (aE a ag ((xs++[.tup [.str "yes",.str x,.int k,gi L (k+1) (.int k) af,.int (-1)]])++[.tup [.str "no",.str x,.int k,af,.int (-1)]])),e4,.im ag (.lst [.str "while",.str x,.lst (bO L (k+1)),.int k]),.im ag af] _ _;refine ak (wM 3 (ts:=L) (k:=k+1) (CR m rfl) hr (EV.lP (aB (EV.lP (xs:=[.str "while",.str x,.lst (bO L (k+1)),.int k]) (aa 5 rfl)) ev_int rfl)) (aB (EV.lP (xs:=[.str "while",.str x,.lst (bO L (k+1)),.int k]) (aa 5 rfl)) (cG ev_int) rfl) (aa 6 rfl) rfl (by omega) (by simp only[M9,Nf,Nr];omega) ?_);simp only[Nl,N6,NV] at hN ⊢;exact hN
theorem xU (M:cP K mg)(CE:aM P w K mg base "_law_entry" 1 (a9 zS K)){n:Nat}(CR:∀m,n=m+1->aM P w K mg base "_law_rows" (m+2) (nQ m K))(F:dQ K "_law_rows" "_law_rows" pk f fd)(hm:mg "_law_rows"=some (.ref f))(hb:Binds K fd BV []):aM P w K mg base "_law_rows" (n+2) (nQ n K):=by
 have nd:=Ap.nd;refine⟨f,fd,BV,?_,hm,F.kp,hb⟩;refine F.ok (k:=n+1) Ap (λvs H Q E h=>?_) (λS6 A outer s H vs Q E hr h=>?_)
 ·obtain⟨R,a,ws,xs,v0,v1,v2,ts,k,bh,lp,rfl,_⟩:=h;rfl
 ·obtain⟨R,a,ws,xs,v0,v1,v2,ts,k,bh,lp,rfl,sR,hR,ha,pp,g0,g1,g2,hd,hz,q⟩:=h;have CE':=CE.mono (show 1<=n+1 by omega);have ln:(bO ts k).length=ts.length:=by rw[M8,lT]
  have body:WS (eN d8 P w K mg base Cq "_law_rows" (ao pk) f S6 A outer s H E).iq (br pk) [.im (ae ag) (bO ts k),.im ag bh,.im ag lp,.ob (aE a ag xs),.no,.no,.no] (λΓ=>∃e4 e5 e6,Γ=[.im (ae ag) (bO ts k),.im ag bh,.im ag lp,.ob (aE a ag (xs++dU ts k bh lp)),e4,e5,e6]) (λ_ _ _ _=>False):=by
   refine ak (bP (r:=fD ai ag) (λi Γ=>∃ys e4 e5 e6,Γ=[.im (ae ag) (bO ts k),.im ag bh,.im ag lp,.ob (aE a ag ys),e4,e5,e6]/\ys++dU (ts.drop i) (aI (ts.take i) k).2 bh lp=xs++dU ts k bh lp) (iG M.enumerate (aa 0 rfl)) (eh 4 5) ⟨xs,_,_,_,rfl,?_⟩ (λi z Γ hzi hΓ=>?_) (λΓ hΓ=>?_))
   ·rw[drop_zero,Ol,aI]
   ·obtain⟨ys,e4,e5,e6,rfl,he⟩:=hΓ;obtain⟨z1,z2⟩:=eJ hzi;have il:i<ts.length:=by rw[← ln];exact(M1.mp z2).1
    have ti:ts[i]?=some ts[i]:=M4 il;have ez:z.2= .lst (bw ts[i] (aI (ts.take i) k).2).1:=by
     rw[Nc,pR k ti] at z2;exact(Option.some.inj z2).symm
    rw[yu ts i k bh lp ti] at he;have hlen:ys.length+(cn ts[i]+bW (ts.drop (i+1)))=xs.length+bW ts:=by
     have:=congrArg List.length he;simpa only[M9,tW,gC] using this
    obtain⟨zi,zp⟩:=z;dsimp only at z1 ez;subst z1 ez;change WS _ _ [.im (ae ag) (bO ts k),.im ag bh,.im ag lp,.ob (aE a ag ys),ax (i:Int),.im ag (.lst (bw ts[i] (aI (ts.take i) k).2).1),e6] _ _;refine ah (bE 6 (r:=ag) (y:=gi (ts.drop (i+1)) (aI (ts.take (i+1)) k).2 bh lp) (aP CE' hr (aq (aa 0 rfl) (aq (EV.cast (y':=((i+1:Nat):Int)) (bZ (aa 4 rfl) ev_int) (by push_cast;rfl)) (aq (aa 1 rfl) (aq (aa 2 rfl) aJ)))) ⟨ts,k,i+1,bh,lp,rfl,il,rfl⟩) ?_);refine D3 CE CR hr (O2 (my (NK il)) hd) (by omega) ⟨_,_,_,_,rfl,?_⟩;rw[Nl];exact he
   ·obtain⟨ys,e4,e5,e6,rfl,he⟩:=hΓ;rw[cJ,ln,drop_length,dU,Nw] at he;rw[← he];exact⟨_,_,_,rfl⟩
  refine⟨_,ib,body (L2.start Cq [v0,v1,v2,.ref a]) (del H a) R H R (HB rfl sR hR ha pp g0 g1 g2) {nx:=λ_ H'=>Q .Tf H',rt:=Q} (λσ' H' R' Γ' E' _ ⟨e4,e5,e6,hΓ⟩=>?_) λv H' R' xx t=>t.elim⟩;subst hΓ;obtain⟨ea,⟨UK,Ud,Uh⟩,T7⟩:=dv (E'.ent 3 _ rfl);exact q H' R' UK E'.ext Ud T7 Uh
theorem Co (M:cP K mg)(CE:aM P w K mg base "_law_entry" 1 (a9 zS K))(F:dQ K "_law_rows" "_law_rows" pk f fd)(hm:mg "_law_rows"=some (.ref f))(hb:Binds K fd BV []):∀n,aM P w K mg base "_law_rows" (n+2) (nQ n K)
 | 0=>xU M CE (λm h=>SQ h (by omega)) F hm hb
 | n+1=>xU M CE (λm h=>by cases h;exact Co M CE F hm hb n) F hm hb
end
theorem HN (n:Nat):kP n=1+5*bT n:=by cases n<;>rfl
theorem Ct (ns SY:MC):∀(n:Nat)(lp:Int)(s:Pn),0<s.2->pV n (bT n) s (Tw ns SY (dD ns SY n) lp s)
 | 0,lp,s,h=>sf ns SY lp s h
 | n+1,lp,s,h=>sW (kN ns SY n false) lp s h
theorem Jg (K:Sk)(H H':Hp)(v:V)(y:Int)(h:ai.R K H v y):ai.R K H' v y:=h
theorem JK (K:Sk)(H H':Hp)(v:V)(y:Str)(h:aj.R K H v y):aj.R K H' v y:=h
theorem we (t:Th):oi t=decide (cz t="back"):=by cases t<;>rfl
theorem Ds (a b:List Th):ba (a++b)=ba a++ba b:=by rw[ee,ee,ee,Nn]
theorem jz (a:List Th):(ba a).length=a.length:=by rw[ee,M8]
section
abbrev pD:Stmt:=top um
abbrev Gu:ME:=["_law_pen","_law_depth","_law_loops","_law_calls","_law_items","_law_k","_law_one"]
theorem A3:aN Gu wg (ao pD):=TQ
theorem ls_run (M:cP K mg)(CP:aM P w K mg base "_law_pull" 2 (gX bF vx K))(CA:aM P w K mg base "_law_passes" 6 (a9 (Cf 5) K)){n:Nat}(CT:aM P w K mg base "_law_thing" (2*n+7) (gX bF (FP n) K)){S6:Value}{A:P7}{outer:List Env}{s:PX}{H:Hp}{E:XK}{a:Addr}{ns SY:MC}{k c S0:Int}{N:Ga->Prop}{T:RT}(hr:bI (2*n+7) (A.deeper (PK "_law_list" (ao pD) s.heap.objs.size f S6)))(hp:ni ns SY n (kP n) k c)(U5:∀(e5 e6:Ent)(fp:MG),WS (eN d8 P w K mg base Gu "_law_list" (ao pD) f S6 A outer s H E).iq ((br pD).drop 2) [.ob (aE a bF (bq ns (Tn ns SY n (decide (n=4)) S0 (k,c)).2.1 (Tn ns SY n (decide (n=4)) S0 (k,c)).2.2)),ax (4-(n:Int)),ax S0,er SY,.ob (f9 (.lst (ba (Tn ns SY n (decide (n=4)) S0 (k,c)).1)) fp),e5,e6] N T):
 WS (eN d8 P w K mg base Gu "_law_list" (ao pD) f S6 A outer s H E).iq (br pD) [.ob (aE a bF (bq ns k c)),ax (4-(n:Int)),ax S0,er SY,.no,.no,.no] N T:=by
 have nd:=A3.nd;have CP:=CP.mono (show 2<=2*n+7 by omega);have CA:=CA.mono (show 6<=2*n+7 by omega);have k0:=hp.k0;have k1:=hp.k1;have c0:=hp.c0;have c1:=hp.c1;have n4:=hp.n4;have hbd:=HN n;have b3:=BI n;rw[kY] at U5;generalize htp:decide (n=4)=tp at U5;have VQ:=sO (ns:=ns) (SY:=SY) (sub:=dD ns SY n) (n:=n) (b:=bT n) (by omega) (Ct ns SY n) tp S0 (k,c) c0;dsimp only at VQ U5;have hmany:=vQ ns tp k;generalize hx:(λi=>Tt (hW ns SY (dD ns SY n) tp S0) i ([],(k+1,c)))=x at VQ;have hxi:∀i,Tt (hW ns SY (dD ns SY n) tp S0) i ([],(k+1,c))=x i:=λi=>by rw[← hx]
 have hxs:∀i,x (i+1)=hW ns SY (dD ns SY n) tp S0 (x i):=λi=>by rw[← hx];rfl
 have hx0:x 0=([],(k+1,c)):=by rw[← hx];rfl
 simp only[hxi] at VQ U5;refine ah (o8 4 (y:=.lst []) (bg.tJ (aV aQ (O3 _)) rfl) λf4=>?_);change WS _ _ [.ob (aE a bF (bq ns k c)),ax (4-(n:Int)),ax S0,er SY,.ob (f9 (.lst []) f4),.no,.no] _ _;have m0:=MW (aR ns (k+1)) (show(4:Int)≠0 by decide);have m1:=MV (aR ns (k+1)) (show(0:Int)<4 by decide);have Wz:decide (4-(n:Int)=0)=tp:=by rw[← htp];exact decide_eq_decide.mpr ⟨λh=>by omega,λh=>by omega⟩
 have XD:(aR ns (k+1)%4+2*(if decide (4-(n:Int)=0)=true then 1 else 0)).toNat=eV ns tp k:=by rw[Wz];rfl
 have VY:0<=(if decide (4-(n:Int)=0)=true then(1:Int) else 0)/\(if decide (4-(n:Int)=0)=true then(1:Int) else 0)<=1:=by split<;>decide
 refine ah (bP (r:=ai) (λi Γ=>∃e5 e6 fp,Γ=[.ob (aE a bF (bq ns (x i).2.1 (x i).2.2)),ax (4-(n:Int)),ax S0,er SY,.ob (f9 (.lst (ba (x i).1)) fp),e5,e6]) (fK M.range (bZ (da (eT 0 (st:=bq ns (k+1) c) (z:=aR ns (k+1)) CP hr aJ rfl ⟨ns,k,c,rfl,rfl,hp.s,k0,by omega,rfl⟩) ev_int (by decide)) (zB ev_int (Di M.int (i7 jR (aa 1 rfl) ev_int)) (.inl (by decide)))) ⟨by omega,by omega⟩) (bt 5) ⟨_,_,f4,by rw[hx0];rfl⟩ (λi j Γ hj hΓ=>?_) (λΓ hΓ=>?_))
 ·obtain⟨e5,e6,fp,rfl⟩:=hΓ;have il:=(g8 hj).1;rw[XD] at il;obtain⟨rd,⟨rc,rc0⟩,⟨rk0,rk1⟩,rll⟩:=VQ i;have hmul:bT n*i<=bT n*4:=Nat.mul_le_mul_left _ (by omega);have hs:=hxs i;generalize x i=xi at rd rc rc0 rk0 rk1 rll hs;obtain⟨S5,kk,cc⟩:=xi;dsimp only at rd rc rc0 rk0 rk1 rll ⊢;change WS _ _ [.ob (aE a bF (bq ns kk cc)),ax (4-(n:Int)),ax S0,er SY,.ob (f9 (.lst (ba S5)) fp),ax j,e6] _ _;have rkk:kk+(bT n:Int)<=900000:=by push_cast at rk1;omega
  refine ak (aL (TW.tv (cD (au jS (EV.nK (dc 0 ev_int rfl (y:=(Sum.inr cc:MC ⊕ Int)) rfl)) ev_int) (λ_=>cZ (TV.Ul (AD (i:=4) rfl) (cq (aP CA hr (aq (EV.lP (aa 4 rfl)) aJ) ⟨S5,rfl,by omega,rfl⟩)))))) (λh=>?_) (λh=>aA ?_))
  ·have h:0<cc/\c9 S5=true:=by simpa using h
   have ht:=Ct ns SY n S0 (kk,cc) h.1;have e1:hW ns SY (dD ns SY n) tp S0 (S5,kk,cc)=if tp=true/\S5.length=0/\oi (Tw ns SY (dD ns SY n) S0 (kk,cc)).1=true then(S5++[.Tr "back"],((Tw ns SY (dD ns SY n) S0 (kk,cc)).2.1,(Tw ns SY (dD ns SY n) S0 (kk,cc)).2.2-1)) else(S5++[(Tw ns SY (dD ns SY n) S0 (kk,cc)).1],(Tw ns SY (dD ns SY n) S0 (kk,cc)).2):=SS h;refine ah (o8 6 (h8 0 (st:=bq ns (Tw ns SY (dD ns SY n) S0 (kk,cc)).2.1 (Tw ns SY (dD ns SY n) S0 (kk,cc)).2.2) (z:=fG (Tw ns SY (dD ns SY n) S0 (kk,cc)).1) CT hr (aq (aa 1 rfl) (aq (aa 2 rfl) (aq (aa 3 rfl) aJ))) rfl ⟨ns,SY,kk,cc,S0,rfl,rfl,⟨hp.s,by omega,rkk,by omega,by omega,hp.l,n4⟩,h.1,rfl⟩ mT (BK _)) λf6=>?_);generalize Tw ns SY (dD ns SY n) S0 (kk,cc)=r at ht e1;obtain⟨tt,kr,cr⟩:=r;dsimp only at e1 ⊢;change WS _ _ [.ob (aE a bF (bq ns kr cr)),ax (4-(n:Int)),ax S0,er SY,.ob (f9 (.lst (ba S5)) fp),ax j,.ob (f9 (fG tt) f6)] _ _;refine bL (N1:=λΓ=>∃t' c' f',Γ=[.ob (aE a bF (bq ns kr c')),ax (4-(n:Int)),ax S0,er SY,.ob (f9 (.lst (ba S5)) fp),ax j,.ob (f9 (fG t') f')]/\hW ns SY (dD ns SY n) tp S0 (S5,kk,cc)=(S5++[t'],(kr,c'))) (aL (TW.tv (cD (au jR (aa 1 rfl) ev_int) (λ_=>cD (au jR (EV.Ul (AD (i:=4) rfl) Jg (fX M.len (EV.lP (aa 4 rfl)))) ev_int) (λ_=>cZ (au aT (EV.Ul (AD (i:=6) rfl) JK (iM (aa 6 rfl))) ar))))) (λh=>?_) (λh=>aA ⟨tt,cr,f6,rfl,?_⟩)) ?_
   ·have h:tp=true/\S5.length=0/\oi tt=true:=by
     rw[Wz,jz] at h;rw[we];simpa using h
    refine ah (dZ 0 (j:=2) (EV.inr (iZ (EV.nK (dc 0 ev_int rfl (y:=(Sum.inr cr:MC ⊕ Int)) rfl)) ev_int)) ev_int rfl rfl rfl ?_);change WS _ _ [.ob (aE a bF (bq ns kr (cr-1))),ax (4-(n:Int)),ax S0,er SY,.ob (f9 (.lst (ba S5)) fp),ax j,.ob (f9 (fG tt) f6)] _ _;refine ak (o8 6 (y:=fG (.Tr "back")) (iR.cast (x:=.lst (dY (.Tr "back"))) (bg.tJ (aV (r:=ag) (av (EV.pS ar) (av (EV.pS ar) aQ)) (by show 2<=PZ;decide)) rfl) (dE _).symm) λf'=>⟨.Tr "back",cr-1,f',rfl,?_⟩);rw[e1,SS h]
   ·have h:¬(tp=true/\S5.length=0/\oi tt=true):=by
     rw[Wz,jz] at h;rw[we];simpa using h
    rw[e1,SR h]
   rintro _ ⟨t',c',f',rfl,e2⟩;refine ak (Gr 4 (vo 6 rfl) rfl rfl (O6 (show _<=10 by rw[jz];omega) (by decide)) λfp'=>⟨ax j,.no,fp',?_⟩);rw[hs,e2,Ds,ba,ba];rfl
  ·have h:¬(0<cc/\c9 S5=true):=by simpa using h
   refine⟨ax j,e6,fp,?_⟩;rw[hs,show hW ns SY (dD ns SY n) tp S0 (S5,kk,cc)=(S5,kk,cc) from SR h]
 ·obtain⟨e5,e6,fp,rfl⟩:=hΓ;rw[ck,XD];exact U5 e5 e6 fp
theorem yK (M:cP K mg)(CP:aM P w K mg base "_law_pull" 2 (gX bF vx K))(CA:aM P w K mg base "_law_passes" 6 (a9 (Cf 5) K)){n:Nat}(CT:aM P w K mg base "_law_thing" (2*n+7) (gX bF (FP n) K))(F:dQ K "_law_list" "_law_list" pD f fd)(hm:mg "_law_list"=some (.ref f))(hb:Binds K fd wg []):aM P w K mg base "_law_list" (2*n+8) (gX bF (Cs n) K):=by
 have nd:=A3.nd;refine sT (k:=2*n+7) F A3 hm hb (λxs qs T ⟨_,_,_,_,_,_,e,_⟩=>by rw[e];rfl) (λS6 A outer s H E a xs qs T hr hS=>?_);obtain⟨ns,SY,k,c,S0,rfl,rfl,hp,rfl⟩:=hS;exact ls_run M CP CA CT hr hp λe5 e6 fp=>ak (iz 0 (vo 4 rfl) rfl ⟨rfl,rfl⟩)
theorem CK (M:cP K mg)(CP:aM P w K mg base "_law_pull" 2 (gX bF vx K))(CN:aM P w K mg base "_law_name" 1 (a9 BE K))(CA:aM P w K mg base "_law_passes" 6 (a9 (Cf 5) K)){f2:Addr}{fd2:Qa}(F:dQ K "_law_list" "_law_list" pD f fd)(hm:mg "_law_list"=some (.ref f))(hb:Binds K fd wg [])(F2:dQ K "_law_thing" "_law_thing" Ca f2 fd2)(Vh:mg "_law_thing"=some (.ref f2))(VY:Binds K fd2 wg []):∀n,aM P w K mg base "_law_list" (2*n+8) (gX bF (Cs n) K)
 | 0=>yK M CP CA (B6 M CP CN 0 (λm h=>SQ h (by omega)) F2 Vh VY) F hm hb
 | n+1=>yK M CP CA (B6 M CP CN (n+1) (λm h=>by cases h;exact CK M CP CN CA F hm hb F2 Vh VY n) F2 Vh VY) F hm hb
end
section
variable {x:Str}
def jg (SX:ME)(x c:Str):Str:=if x∈SX then gE x++c else x
abbrev kD:Str:="qwer"
def sE (SX:ME)(x:Str):Str:=(gJ kD).foldl (jg SX) x
def c6 (ns:MC)(s:Int):Nat->ME
 | 0=>[]
 | i+1=>c6 ns s i++[sE (c6 ns s i) (Te (aR ns (s+2+(i:Int))))]
def T5 (ns:MC)(s:Int):Int:=1+aR ns (s+1)%4
def cX (m:Int):Int:=([14,12,8,6]:MC).getD (m-1).toNat 0
def eG (i:Nat)(m:Int):MC:=ups ((i:Int)+1) (m-((i:Int)+1)).toNat
def Tg (ns:MC)(m k:Int):Nat->List (List Th)×Int
 | 0=>([],k)
 | i+1=>((Tg ns m k i).1++[(Tn ns (eG i m) 4 true 0 ((Tg ns m k i).2,cX m)).1],(Tn ns (eG i m) 4 true 0 ((Tg ns m k i).2,cX m)).2.1)
def Vz (ns:MC)(k:Int)(j:Nat):Nat:=(aR ns (k+1)%(j:Int)).toNat
def ou (ns:MC)(x:List (List Th)×Int)(j:Nat):List (List Th)×Int:=
 (x.1.set (Vz ns x.2 j) (bX (aR ns (x.2+2)%((x.1.getD (Vz ns x.2 j) []).length:Int)).toNat (.call (j:Int)) (x.1.getD (Vz ns x.2 j) [])),x.2+2)
def TL (ns:MC)(x:List (List Th)×Int):Nat->List (List Th)×Int
 | 0=>x
 | i+1=>ou ns (TL ns x i) (i+1)
def TJ (ns:MC)(s:Int):ME:=c6 ns s (T5 ns s).toNat
def T3 (ns:MC)(s:Int):List (List Th):=(TL ns (Tg ns (T5 ns s) (s+1+T5 ns s) (T5 ns s).toNat) (T5 ns s-1).toNat).1
theorem u9 (ns:MC)(s:Int):1<=T5 ns s/\T5 ns s<=4:=by
 unfold T5;have:=MW (aR ns (s+1)) (show(4:Int)≠0 by decide);have:=MV (aR ns (s+1)) (show(0:Int)<4 by decide);omega
theorem zA {m:Int}(h1:1<=m)(h4:m<=4):6<=cX m/\cX m<=14:=by
 have:∀j:Fin 4,6<=([14,12,8,6]:MC).getD j.val 0/\([14,12,8,6]:MC).getD j.val 0<=14:=by decide
 exact this ⟨(m-1).toNat,by omega⟩
theorem uq (x:Str):(gE x).length<=7:=by
 unfold gE;show(List.take 7 x.cps.toList).toArray.size<=7;rw[Nm,Nu];omega
theorem Bf {c:Nat}(h:c∈(gE x).cps.toList):c∈x.cps.toList:=by
 unfold gE at h;have:c∈List.take 7 x.cps.toList:=by simpa using h
 exact OQ this
theorem pZ {c:Str}(h:c∈gJ kD):cI c/\c.length=1:=by
 have:∀c∈gJ kD,((1<=c.length/\c.length<=8)/\∀d∈c.cps.toList,97<=d/\d<=122)/\c.length=1:=by decide +kernel
 obtain⟨⟨⟨a,b⟩,d⟩,e⟩:=this c h;exact⟨⟨a,b,d⟩,e⟩
theorem GX {SX:ME}{c:Str}(hx:cI x)(hc:cI c/\c.length=1):cI (jg SX x c):=by
 unfold jg;split
 ·refine⟨?_,?_,λd hd=>?_⟩
  ·rw[len_app,hc.2];omega
  ·rw[len_app,hc.2];have:=uq x;omega
  ·rcases qg hd with z | z
   ·exact hx.az d (Bf z)
   ·exact hc.1.az d z
 ·exact hx
theorem mG {SX:ME}:∀{cs:ME}{x:Str},cI x->(∀c∈cs,cI c/\c.length=1)->cI (cs.foldl (jg SX) x)
 | [],_,hx,_=>hx
 | c::cs,x,hx,h=>mG (cs:=cs) (x:=jg SX x c) (GX hx (h c Nb)) λd hd=>h d (M7 _ hd)
theorem G2 {SX:ME}(hx:cI x):cI (sE SX x):=mG hx λc hc=>pZ hc
theorem kJ (ns:MC)(s:Int):∀i,(c6 ns s i).length=i
 | 0=>rfl
 | i+1=>by rw[c6,M9,kJ ns s i];rfl
theorem y4 (ns:MC)(s:Int):∀i,∀x∈c6 ns s i,cI x
 | 0,x,h=>by cases h
 | i+1,x,h=>by
   rw[c6] at h;rcases Nj.mp h with z | z
   ·exact y4 ns s i x z
   ·rw[M5.mp z];exact G2 (ir _)
theorem kR (ns:MC)(m k:Int):∀i,(Tg ns m k i).1.length=i
 | 0=>rfl
 | i+1=>by rw[Tg,M9,kR ns m k i];rfl
theorem L6:kP 4=177776:=rfl
theorem BX (ns:MC)(m k:Int)(hb:0<=cX m):∀i:Nat,k<=(Tg ns m k i).2/\(Tg ns m k i).2<=k+177776*(i:Int)
 | 0=>⟨MZ _,by show k<=_;omega⟩
 | i+1=>by
   obtain⟨a,b⟩:=BX ns m k hb i;obtain⟨c,d⟩:=(kN ns (eG i m) 4 true 0 ((Tg ns m k i).2,cX m) hb).k;rw[L6] at d;dsimp only at c d;rw[Tg];dsimp only;exact⟨by omega,by push_cast;omega⟩
theorem E7 (ns SY:MC)(c k:Int)(hc:0<c):0<(Tn ns SY 4 true 0 (k,c)).1.length:=by
 rw[kY];have hm:2<=eV ns true k:=by
  unfold eV;have:=MW (aR ns (k+1)) (show(4:Int)≠0 by decide);simp;omega
 have key:∀(f:List Th×Pn->List Th×Pn)(x:List Th×Pn),(∀y,y.1.length<=(f y).1.length)->0<(f x).1.length->∀m,1<=m->0<(Tt f m x).1.length:=by
  intro f x h1 h2 m
  induction m with
  | zero=>intro h;omega
  | succ m ih=>
    intro _;rw[Tt];cases m with
    | zero=>exact h2
    | succ m=>exact O4 (ih (by omega)) (h1 _)
 refine key _ _ (λy=>?_) ?_ _ (show 1<=eV ns true k by omega)
 ·unfold hW;split
  ·split<;>simp
  ·exact O0 _
 ·unfold hW;rw[SS ⟨hc,by simp[c9]⟩];split<;>simp
theorem xI (ns:MC)(m k:Int)(hb:0<cX m):∀i,∀L∈(Tg ns m k i).1,0<L.length/\L.length<=5
 | 0,L,h=>by cases h
 | i+1,L,h=>by
   rw[Tg] at h;rcases Nj.mp h with z | z
   ·exact xI ns m k hb i L z
   ·rw[M5.mp z];exact⟨E7 ns _ _ _ hb,(kN ns (eG i m) 4 true 0 ((Tg ns m k i).2,cX m) (Int.le_of_lt hb)).l⟩
theorem km {α:Type}(k:Nat)(y:α)(xs:List α):(bX k y xs).length=xs.length+1:=by
 unfold bX;rw[M9,Nf,Nu,Ov];omega
theorem mem_set {α:Type}{l:List α}{i:Nat}{x y:α}(h:y∈l.set i x):y∈l∨y=x:=List.mem_or_eq_of_mem_set h
theorem vc (ns:MC)(x:List (List Th)×Int)(hx:∀L∈x.1,0<L.length/\L.length<=5):∀i,(TL ns x i).1.length=x.1.length/\(TL ns x i).2=x.2+2*(i:Int)/\∀L∈(TL ns x i).1,0<L.length/\L.length<=5+i
 | 0=>⟨rfl,by show x.2=_;omega,λL h=>⟨(hx L h).1,(hx L h).2⟩⟩
 | i+1=>by
   obtain⟨a,b,c⟩:=vc ns x hx i;rw[TL];refine⟨by unfold ou;dsimp only;rw[NT];exact a,by unfold ou;dsimp only;rw[b];push_cast;omega,λL h=>?_⟩;unfold ou at h;dsimp only at h;rcases mem_set h with z | z
   ·have:=c L z;omega
   ·rw[z,km];generalize hn:Vz ns (TL ns x i).2 (i+1)=n;refine⟨by omega,?_⟩;rw[Na];cases e:(TL ns x i).1[n]? with
    | none=>show 0+1<=_;omega
    | some L'=>
      have:=(c L' (Ng e)).2;show L'.length+1<=_;omega
end
section
abbrev Hn:Stmt:=top rA
abbrev nDR:ME:=["_law_script","_law_start","_law_pen","_law_many","_law_names_here","_law_k","_law_name_here","_law_letter","_law_lists","_law_items"]
theorem Gp:aN nDR ["_law_script","_law_start"] (ao Hn):=TQ
def Lv:dI:=λK ps T=>∃(ns:MC)(s:Int),ps=[⟨bK,ns⟩,⟨ai,s⟩]/\z4 ns/\0<=s/\s<=1000/\T=Ay K (ae aj) λy L=>y=TJ ns s/\L=(T3 ns s).map ba
theorem JI (M:cP K mg)(CP:aM P w K mg base "_law_pull" 2 (gX bF vx K))(CN:aM P w K mg base "_law_name" 1 (a9 BE K))(CL:aM P w K mg base "_law_list" 16 (gX bF (Cs 4) K))(Df:Def K mg "_law_drawn" Hn ["_law_script","_law_start"]):aM P w K mg base "_law_drawn" 17 (a9 Lv K):=by
 have nd:=Gp.nd;have CP:=CP.mono (show 2<=16 by decide);have CN:=CN.mono (show 1<=16 by decide);refine bR (k:=16) Df Gp (λf S6 A outer st H E qs T hr hS=>?_);obtain⟨ns,s,rfl,hs,s0,s1,rfl⟩:=hS;obtain⟨m1,m4⟩:=u9 ns s;change WS _ _ [.im bK ns,ax s,.no,.no,.no,.no,.no,.no,.no,.no] _ _;refine ah (cO 2 (r:=bF) (ys:=bq ns s 0) (aV (av (EV.inl (aa 0 rfl)) (av (EV.inr (aa 1 rfl)) (av (EV.inr ev_int) aQ))) (by show 3<=PZ;decide)) ?_);refine WS.box 2 rfl λa0=>?_;change WS _ _ [.im bK ns,ax s,.ob (aE a0 bF (bq ns s 0)),.no,.no,.no,.no,.no,.no,.no] _ _;refine ah (bE 3 (y:=T5 ns s) (bZ ev_int (da (eT 2 (st:=bq ns (s+1) 0) (z:=aR ns (s+1)) CP hr aJ rfl ⟨ns,s,0,rfl,rfl,hs,s0,by omega,rfl⟩) ev_int (by decide))) ?_);generalize hM:T5 ns s=m at m1 m4;change WS _ _ [.im bK ns,ax s,.ob (aE a0 bF (bq ns (s+1) 0)),ax m,.no,.no,.no,.no,.no,.no] _ _;refine ah (cO 4 (r:=aj) (ys:=[]) (aV aQ (O3 _)) ?_);refine bL (N1:=λΓ=>∃e5 e6 e7,Γ=[.im bK ns,ax s,.ob (aE a0 bF (bq ns (s+1+m) 0)),ax m,.mu aj (TJ ns s),e5,e6,e7,.no,.no]) (bP (λi Γ=>∃e5 e6 e7,Γ=[.im bK ns,ax s,.ob (aE a0 bF (bq ns (s+1+(i:Int)) 0)),ax m,.mu aj (c6 ns s i),e5,e6,e7,.no,.no]) (fK M.range (aa 3 rfl) ⟨by omega,by omega⟩) (bt 5) ⟨_,_,_,by rw[show s+1+((0:Nat):Int)=s+1 from Int.add_zero _];rfl⟩ (λi j Γ hj hΓ=>?_) (λΓ hΓ=>?_)) ?_
 ·obtain⟨e5,e6,e7,rfl⟩:=hΓ;obtain⟨jl,ej⟩:=g8 hj;obtain rfl:j=(i:Int):=by omega
  have b:=vM ns (s+1+(i:Int)+1);change WS _ _ [.im bK ns,ax s,.ob (aE a0 bF (bq ns (s+1+(i:Int)) 0)),ax m,.mu aj (c6 ns s i),ax (i:Int),e6,e7,.no,.no] _ _;refine ah (bE 6 (y:=Te (aR ns (s+1+(i:Int)+1))) (aP CN hr (aq (eT 2 (st:=bq ns (s+1+(i:Int)+1) 0) (z:=aR ns (s+1+(i:Int)+1)) CP hr aJ rfl ⟨ns,_,0,rfl,rfl,hs,by omega,by omega,rfl⟩) aJ) ⟨_,rfl,b.1,b.2,rfl⟩) ?_);have hx:=ir (aR ns (s+1+(i:Int)+1));have he:s+1+(i:Int)+1=s+2+(i:Int):=by omega
  have Wa:c6 ns s (i+1)=c6 ns s i++[sE (c6 ns s i) (Te (aR ns (s+1+(i:Int)+1)))]:=by rw[c6,he]
  generalize Te (aR ns (s+1+(i:Int)+1))=x at hx Wa;have hlen:=kJ ns s i;change WS _ _ [.im bK ns,ax s,.ob (aE a0 bF (bq ns (s+1+(i:Int)+1) 0)),ax m,.mu aj (c6 ns s i),ax (i:Int),.im aj x,e7,.no,.no] _ _;have XJ:∀n,cI (((gJ kD).take n).foldl (jg (c6 ns s i)) x):=λn=>mG hx λc hc=>pZ (OQ hc);refine bL (N1:=λΓ=>∃e7,Γ=[.im bK ns,ax s,.ob (aE a0 bF (bq ns (s+1+(i:Int)+1) 0)),ax m,.mu aj (c6 ns s i),ax (i:Int),.im aj (sE (c6 ns s i) x),e7,.no,.no]) (bP (λn Γ=>∃e7,Γ=[.im bK ns,ax s,.ob (aE a0 bF (bq ns (s+1+(i:Int)+1) 0)),ax m,.mu aj (c6 ns s i),ax (i:Int),.im aj (((gJ kD).take n).foldl (jg (c6 ns s i)) x),e7,.no,.no]) (z5 (x:=kD) ar (by decide +kernel) (by decide +kernel)) (bt 7) ⟨_,rfl⟩ (λn c Γ hc hΓ=>?_) (λΓ hΓ=>?_)) ?_
  ·obtain⟨e7,rfl⟩:=hΓ;have hf:=XJ n;have T2:((gJ kD).take (n+1)).foldl (jg (c6 ns s i)) x=jg (c6 ns s i) (((gJ kD).take n).foldl (jg (c6 ns s i)) x) c:=by
    rw[NH,hc,Od];rfl
   rw[T2];generalize ((gJ kD).take n).foldl (jg (c6 ns s i)) x=z at hf;have cl:=(pZ (Ng hc)).2;change WS _ _ [.im bK ns,ax s,.ob (aE a0 bF (bq ns (s+1+(i:Int)+1) 0)),ax m,.mu aj (c6 ns s i),ax (i:Int),.im aj z,.im aj c,.no,.no] _ _;refine ak (aL (TV.Ul (yk (i:=4) rfl (aX (by rw[hlen];omega))) (au rY (aa 6 rfl) (aa 4 rfl))) (λh=>?_) (λh=>aA ⟨.im aj c,?_⟩))
   ·have h:z∈c6 ns s i:=SU h;refine ak (bE 6 (y:=jg (c6 ns s i) z c) (EV.cast (qq (F5 (aa 6 rfl) hf.l8) (aa 7 rfl) (O2 (show _<=8 by have:=uq z;omega) (by decide))) (by unfold jg;rw[SS h])) ⟨.im aj c,rfl⟩)
   ·have h:¬z∈c6 ns s i:=SV h;unfold jg;rw[SR h]
  ·obtain⟨e7,rfl⟩:=hΓ;refine⟨e7,?_⟩;rw[NN];rfl
  rintro _ ⟨e7,rfl⟩;refine ak (fc 4 (aa 6 rfl) rfl rfl (O6 (show _<=10 by rw[hlen];omega) (by decide)) ⟨ax (i:Int),.im aj (sE (c6 ns s i) x),e7,?_⟩);rw[Wa,show s+1+((i+1:Nat):Int)=s+1+(i:Int)+1 by push_cast;omega];rfl
 ·obtain⟨e5,e6,e7,rfl⟩:=hΓ;rw[ck];refine⟨e5,e6,e7,?_⟩;unfold TJ;rw[hM,show((m.toNat:Nat):Int)=m by omega]
 rintro _ ⟨e5,e6,e7,rfl⟩;have hdN:(TJ ns s).length<=4:=by unfold TJ;rw[kJ,hM];omega
 generalize hdn:TJ ns s=dn at hdN;obtain⟨b6,b14⟩:=zA m1 m4;refine ah (cO 8 (r:=ag) (ys:=[]) (aV aQ (O3 _)) ?_);refine WS.Kz 8 rfl λa=>?_;change WS _ _ [.im bK ns,ax s,.ob (aE a0 bF (bq ns (s+1+m) 0)),ax m,.mu aj dn,e5,e6,e7,.ob (bN a []),.no] _ _;have kb:=BX ns m (s+1+m) (by omega);refine bL (N1:=λΓ=>∃e5 c ps,Γ=[.im bK ns,ax s,.ob (aE a0 bF (bq ns (Tg ns m (s+1+m) m.toNat).2 c)),ax m,.mu aj dn,e5,e6,e7,.ob (bN a ps),.no]/\ps.map (·.1)=(Tg ns m (s+1+m) m.toNat).1.map ba) (bP (λi Γ=>∃e5 c ps,Γ=[.im bK ns,ax s,.ob (aE a0 bF (bq ns (Tg ns m (s+1+m) i).2 c)),ax m,.mu aj dn,e5,e6,e7,.ob (bN a ps),.no]/\ps.map (·.1)=(Tg ns m (s+1+m) i).1.map ba) (fK M.range (aa 3 rfl) ⟨by omega,by omega⟩) (bt 5) ⟨_,_,[],rfl,rfl⟩ (λi j Γ hj hΓ=>?_) (λΓ hΓ=>?_)) ?_
 ·obtain⟨e5,c,ps,rfl,Ug⟩:=hΓ;obtain⟨jl,ej⟩:=g8 hj;obtain rfl:j=(i:Int):=by omega
  obtain⟨k0,k1⟩:=kb i;have hl:=kR ns m (s+1+m) i;have UN:Tg ns m (s+1+m) (i+1)=((Tg ns m (s+1+m) i).1++[(Tn ns (eG i m) 4 true 0 ((Tg ns m (s+1+m) i).2,cX m)).1],(Tn ns (eG i m) 4 true 0 ((Tg ns m (s+1+m) i).2,cX m)).2.1):=rfl;generalize Tg ns m (s+1+m) i=x at k0 k1 hl UN Ug;rw[UN];obtain⟨Ls,k⟩:=x;dsimp only at k0 k1 hl ⊢;change WS _ _ [.im bK ns,ax s,.ob (aE a0 bF (bq ns k c)),ax m,.mu aj dn,ax (i:Int),e6,e7,.ob (bN a ps),.no] _ _;have hbud:cM ([14,12,8,6]:MC) (m-1)=some (cX m):=bB 0 (by omega) (by show m-1<((4:Nat):Int);omega);refine ah (dZ 2 (j:=2) (EV.inr (aB (bg.im (aV (r:=ai) (av ev_int (av ev_int (av ev_int (av ev_int aQ)))) (by show 4<=PZ;decide))) (iZ (aa 3 rfl) ev_int) hbud)) ev_int rfl rfl rfl ?_);change WS _ _ [.im bK ns,ax s,.ob (aE a0 bF (bq ns k (cX m))),ax m,.mu aj dn,ax (i:Int),e6,e7,.ob (bN a ps),.no] _ _;have VF:(eG i m).length<=100:=by unfold eG;rw[ck];omega
  have To:ps.length=i:=by
   have:=congrArg List.length Ug;rw[M8,M8,hl] at this;exact this
  refine ak (EJ 8 (ys:=ba (Tn ns (eG i m) 4 true 0 (k,cX m)).1) (h8 2 (st:=bq ns (Tn ns (eG i m) 4 true 0 (k,cX m)).2.1 (Tn ns (eG i m) 4 true 0 (k,cX m)).2.2) CL hr (aq ev_int (aq ev_int (aq (bg.im (qz M.list M.range (aq (bZ (aa 5 rfl) ev_int) (aq (aa 3 rfl) aJ)) ⟨by omega,by omega⟩ ⟨by omega,by omega⟩)) aJ))) rfl ⟨ns,eG i m,k,cX m,0,rfl,rfl,⟨hs,by omega,show k+((177776:Nat):Int)<=900000 by omega,by omega,by omega,VF,by decide⟩,rfl⟩ mT (rP _)) rfl rfl (O6 (show _<=10 by omega) (by decide)) λb g=>⟨ax (i:Int),(Tn ns (eG i m) 4 true 0 (k,cX m)).2.2,ps++[(ba (Tn ns (eG i m) 4 true 0 (k,cX m)).1,b,g)],rfl,?_⟩);rw[Nn,Nn,Ug];rfl
 ·obtain⟨e5,c,ps,rfl,Ug⟩:=hΓ;rw[ck] at Ug ⊢;exact⟨e5,c,ps,rfl,Ug⟩
 rintro _ ⟨e5,c,ps,rfl,Ug⟩;have T9:=xI ns m (s+1+m) (by omega) m.toNat;have hxl:=kR ns m (s+1+m) m.toNat;obtain⟨k0,k1⟩:=kb m.toNat;have Vx:T3 ns s=(TL ns (Tg ns m (s+1+m) m.toNat) (m-1).toNat).1:=by unfold T3;rw[hM]
 generalize Tg ns m (s+1+m) m.toNat=x at T9 hxl k0 k1 Vx Ug;have hinv:=vc ns x T9;refine bL (N1:=λΓ=>∃e5 e9 k ps,Γ=[.im bK ns,ax s,.ob (aE a0 bF (bq ns k c)),ax m,.mu aj dn,e5,e6,e7,.ob (bN a ps),e9]/\ps.map (·.1)=(T3 ns s).map ba) (bP (λi Γ=>∃e5 e9 ps,Γ=[.im bK ns,ax s,.ob (aE a0 bF (bq ns (TL ns x i).2 c)),ax m,.mu aj dn,e5,e6,e7,.ob (bN a ps),e9]/\ps.map (·.1)=(TL ns x i).1.map ba) (zD M.range ev_int (aa 3 rfl) ⟨by omega,by omega,by omega,by omega⟩) (bt 5) ⟨_,_,ps,rfl,Ug⟩ (λi j Γ hj hΓ=>?_) (λΓ hΓ=>?_)) ?_
 ·obtain⟨e5,e9,ps,rfl,Ug⟩:=hΓ;obtain⟨jl,ej⟩:=g8 hj;obtain rfl:j=((i+1:Nat):Int):=by push_cast;omega
  obtain⟨i1,i2,i3⟩:=hinv i;have UN:TL ns x (i+1)=ou ns (TL ns x i) (i+1):=rfl;rw[UN];generalize TL ns x i=y at i1 i2 i3 Ug;obtain⟨Ls,k⟩:=y;dsimp only at i1 i2 i3 Ug;have To:ps.length=Ls.length:=by
   have:=congrArg List.length Ug;rwa [M8,M8] at this
  unfold ou;dsimp only;change WS _ _ [.im bK ns,ax s,.ob (aE a0 bF (bq ns k c)),ax m,.mu aj dn,ax ((i+1:Nat):Int),e6,e7,.ob (bN a ps),e9] _ _;have q0:=MW (aR ns (k+1)) (show((i+1:Nat):Int)≠0 by omega);have q1:=MV (aR ns (k+1)) (show(0:Int)<((i+1:Nat):Int) by omega);have Uq:Vz ns k (i+1)<Ls.length:=by unfold Vz;omega
  have hix:gT ps.length (aR ns (k+1)%((i+1:Nat):Int))=some (Vz ns k (i+1)):=yp q0 (by omega);generalize hatn:Vz ns k (i+1)=n at Uq hix;have hL:Ls[n]?=some (Ls.getD n []):=by rw[Na,M4 Uq];rfl
  have hq:ps[n]?=some (ps[n]'(by omega)):=M4 (by omega);generalize (ps[n]'(by omega))=q at hq;have hq1:q.1=ba (Ls.getD n []):=by
   have:=congrArg (λl=>l[n]?) Ug;simp only[Nc,hq,hL] at this;exact Option.some.inj this
  refine ah (zZ 8 9 (da (eT 2 (st:=bq ns (k+1) c) (z:=aR ns (k+1)) CP hr aJ rfl ⟨ns,k,c,rfl,rfl,hs,by omega,by omega,rfl⟩) (aa 5 rfl) (by omega)) rfl rfl hix hq ?_);change WS _ _ [.im bK ns,ax s,.ob (aE a0 bF (bq ns (k+1) c)),ax m,.mu aj dn,ax ((i+1:Nat):Int),e6,e7,.ob (bN a ps),.im dO q.2.1] _ _;obtain⟨l0,l5⟩:=i3 _ (Ng hL);generalize Ls.getD n []=L at hL l0 l5 hq1;have VE:(q.1.length:Int)=(L.length:Int):=by rw[hq1,jz]
  have r0:=MW (aR ns (k+2)) (show(L.length:Int)≠0 by omega);have r1:=MV (aR ns (k+2)) (show(0:Int)<(L.length:Int) by omega);have e3:k+1+1=k+2:=by omega
  refine ak (DA 8 9 (k:=aR ns (k+2)%(L.length:Int)) (y:=fG (.call ((i+1:Nat):Int))) (da (eT 2 (st:=bq ns (k+2) c) (z:=aR ns (k+2)) CP hr aJ rfl ⟨ns,k+1,c,rfl,rfl,hs,by omega,by omega,by rw[e3]⟩) (EV.cast (Bo 8 9 M.len rfl rfl hq) VE) (by omega)) (iR.cast (x:=.lst (dY (.call ((i+1:Nat):Int)))) (bg.tJ (aV (r:=ag) (av (EV.pS ar) (av (EV.pI (aa 5 rfl)) aQ)) (by show 2<=PZ;decide)) rfl) (dE _).symm) rfl rfl hq rfl r0 (by omega) (O6 (show _<=20 by rw[hq1,jz];omega) (by decide)) λg=>⟨ax ((i+1:Nat):Int),.im dO q.2.1,_,rfl,?_⟩);rw[map_set,Ug];show(Ls.map ba).set n (bX _ _ q.1)=_;rw[hq1];rw[map_set,ee (bX _ _ _),yQ,← ee]
 ·obtain⟨e5,e9,ps,rfl,Ug⟩:=hΓ;rw[ck] at Ug ⊢;exact⟨e5,e9,_,ps,rfl,by rw[Vx];exact Ug⟩
 rintro _ ⟨e5,e9,k,ps,rfl,Ug⟩;obtain⟨i1,i2,i3⟩:=hinv (m-1).toNat;rw[← Vx] at i1 i3;refine WS.freeze 4 rfl (aX (by omega)) ?_;exact ak (Dn 8 (aa 4 rfl) rfl ⟨rfl,Ug⟩)
end
mutual
def cf (lo m:Int):Bool->Th->Prop
 | _,.Tr x=>cI x
 | _,.call j=>lo<j/\j<m
 | lp,.ifs x a b=>cI x/\bG lo m lp a/\bG lo m lp b
 | _,.Ta x a=>cI x/\bG lo m true a
 | lp,.leave=>lp=true
 | _,.back=>True
def bG (lo m:Int):Bool->List Th->Prop
 | _,[]=>True
 | lp,t::ts=>cf lo m lp t/\(eu t=true∨ts=[])/\bG lo m lp ts
end
section
variable {lo m:Int}{lp:Bool}
theorem j3 {t:Th}:∀{a:List Th},bG lo m lp a->c9 a=true->cf lo m lp t->bG lo m lp (a++[t])
 | [],_,_,ht=>by rw[NV,bG];exact⟨ht,.inr rfl,by rw[bG];trivial⟩
 | x::a,h,hp,ht=>by
   rw[bG] at h;rw[c9,MN] at hp;rw[N6,bG];exact⟨h.1,.inl hp.1,j3 h.2.2 hp.2 ht⟩
theorem wc {t:Th}(ht:cf lo m lp t)(hp:eu t=true):∀{k:Nat}{L:List Th},bG lo m lp L->k<L.length->bG lo m lp (bX k t L)
 | 0,L,h,_=>by show bG lo m lp (t::L);rw[bG];exact⟨ht,.inl hp,h⟩
 | k+1,[],_,hk=>by cases hk
 | k+1,x::L,h,hk=>by
   rw[bG] at h;have hk:k<L.length:=by simpa using hk
   have hx:eu x=true:=h.2.1.resolve_right λe=>by rw[e] at hk;cases hk
   show bG lo m lp (x::bX k t L);rw[bG];exact⟨h.1,.inl hx,wc ht hp h.2.2 hk⟩
theorem wa {ns SY:MC}{sub:Option (Int->Pn->List Th×Pn)}(hc:∀j∈SY,lo<j/\j<m)(Tu:∀L,sub=some L->∀lp s,0<=lp->bG lo m (decide (0<lp)) (L lp s).1)(S0:Int)(s:Pn)(hl:0<=S0):cf lo m (decide (0<S0)) (Tw ns SY sub S0 s).1:=by
 unfold Tw;split
 ·rename_i h;simp only[cf];exact decide_eq_true h.2
 split
 ·simp only[cf]
 split
 ·rename_i h;simp only[cf];have hl:(0:Int)<(SY.length:Int):=by have:=h.2;omega
  have q0:=MW (aR ns (s.1+3)) (show(SY.length:Int)≠0 by omega);have q1:=MV (aR ns (s.1+3)) hl;have hi:(aR ns (s.1+3)%(SY.length:Int)).toNat<SY.length:=by omega
  rw[Na,M4 hi];exact hc _ (NK hi)
 cases sub with
 | none=>simp only[cf];exact ir _
 | some L=>
   dsimp only;split
   ·simp only[cf];exact⟨ir _,Tu L rfl _ _ hl,Tu L rfl _ _ hl⟩
   split
   ·simp only[cf];have:=Tu L rfl (S0+1) (s.1+2,s.2-2) (by omega);rw[decide_eq_true (show 0<S0+1 by omega)] at this;exact⟨ir _,this⟩
   ·simp only[cf];exact ir _
theorem vf:cI "back":=⟨by decide +kernel,by decide +kernel,by decide +kernel⟩
theorem qo {α:Type}{f:α->α}{P:α->Prop}(h:∀x,P x->P (f x)):∀n x,P x->P (Tt f n x)
 | 0,_,hx=>hx
 | n+1,x,hx=>h _ (qo h n x hx)
theorem Dw {ns SY:MC}(hc:∀j∈SY,lo<j/\j<m):∀(n:Nat)(tp:Bool)(lp:Int)(s:Pn),0<=lp->bG lo m (decide (0<lp)) (Tn ns SY n tp lp s).1:=by
 intro n
 induction n with
 | zero=>
   intro tp lp s hl;rw[kY];refine qo (P:=λ(x:List Th×Pn)=>bG lo m (decide (0<lp)) x.1) (λx hx=>?_) _ _ (by simp only[bG]);unfold hW;split
   ·rename_i h;split
    ·exact j3 hx h.2 (by simp only[cf];exact vf)
    ·exact j3 hx h.2 (wa hc (λL e=>by cases e) lp x.2 hl)
   ·exact hx
 | succ n ih=>
   intro tp lp s hl;rw[kY];refine qo (P:=λ(x:List Th×Pn)=>bG lo m (decide (0<lp)) x.1) (λx hx=>?_) _ _ (by simp only[bG]);unfold hW;split
   ·rename_i h;split
    ·exact j3 hx h.2 (by simp only[cf];exact vf)
    ·exact j3 hx h.2 (wa hc (λL e lp' s' UT=>by cases e;exact ih false lp' s' UT) lp x.2 hl)
   ·exact hx
end
section
variable {L:List Th}
def gG (L:List Th):Prop:=∃t ts,L=t::ts/\oi t=false
theorem DS (h:gG L)(t:Th):gG (L++[t]):=by
 obtain⟨x,ts,rfl,h⟩:=h;exact⟨x,ts++[t],rfl,h⟩
theorem Fo (ns SY:MC)(c k:Int)(hc:0<c):gG (Tn ns SY 4 true 0 (k,c)).1:=by
 rw[kY];have hm:2<=eV ns true k:=by
  unfold eV;have:=MW (aR ns (k+1)) (show(4:Int)≠0 by decide);simp;omega
 have key:∀(f:List Th×Pn->List Th×Pn)(x:List Th×Pn),(∀y,gG y.1->gG (f y).1)->gG (f x).1->∀m,1<=m->gG (Tt f m x).1:=by
  intro f x h1 h2 m
  induction m with
  | zero=>intro h;omega
  | succ m ih=>
    intro _;rw[Tt];cases m with
    | zero=>exact h2
    | succ m=>exact h1 _ (ih (by omega))
 refine key _ _ (λy hy=>?_) ?_ _ (show 1<=eV ns true k by omega)
 ·unfold hW;split
  ·split<;>exact DS hy _
  ·exact hy
 ·unfold hW;rw[SS ⟨hc,by simp[c9]⟩];split
  ·exact⟨_,[],rfl,rfl⟩
  ·rename_i h;refine⟨_,[],rfl,?_⟩;cases e:oi (Tw ns SY (dD ns SY 4) 0 ([],k+1,c).2).1 with
   | false=>rfl
   | true=>exact SQ ⟨rfl,rfl,e⟩ h
def kf (x:Str):Option Nat:=x.cps.toList.getLast?
theorem lQ (x:Str)(c:Nat):kf (x++⟨#[c]⟩)=some c:=by
 unfold kf;have e:(x++(⟨#[c]⟩:Str)).cps.toList=x.cps.toList++[c]:=by show(x.cps++ #[c]).toList=_;simp
 rw[e];simp
theorem AV:gJ kD=[⟨#[113]⟩,⟨#[119]⟩,⟨#[101]⟩,⟨#[114]⟩]:=by decide +kernel
theorem Dl {SX:ME}(hl:SX.length<=3)(x:Str):sE SX x∉SX:=by
 unfold sE;rw[AV];simp only[List.foldl];have TY:∀{y:Str},y∉SX->∀c,jg SX y c=y:=λh c=>SR h;have go:∀{y:Str},y∈SX->∀c,jg SX y c=gE y++c:=λh c=>SS h;by_cases h0:x∈SX;rotate_left
 ·rw[TY h0,TY h0,TY h0,TY h0];exact h0
 rw[go h0];generalize hx1:gE x++(⟨#[113]⟩:Str)=x1;have l1:kf x1=some 113:=by rw[← hx1];exact lQ _ _
 by_cases h1:x1∈SX;rotate_left
 ·rw[TY h1,TY h1,TY h1];exact h1
 rw[go h1];generalize hx2:gE x1++(⟨#[119]⟩:Str)=x2;have l2:kf x2=some 119:=by rw[← hx2];exact lQ _ _
 by_cases h2:x2∈SX;rotate_left
 ·rw[TY h2,TY h2];exact h2
 rw[go h2];generalize hx3:gE x2++(⟨#[101]⟩:Str)=x3;have l3:kf x3=some 101:=by rw[← hx3];exact lQ _ _
 by_cases h3:x3∈SX;rotate_left
 ·rw[TY h3];exact h3
 rw[go h3];generalize hx4:gE x3++(⟨#[114]⟩:Str)=x4;have l4:kf x4=some 114:=by rw[← hx4];exact lQ _ _
 intro h4;obtain⟨n1,b1,e1⟩:=Oz h1;obtain⟨n2,b2,e2⟩:=Oz h2;obtain⟨n3,b3,e3⟩:=Oz h3;obtain⟨n4,b4,e4⟩:=Oz h4;have ne:∀{i j:Nat}{hi:i<SX.length}{hj:j<SX.length}{y z:Str}{c d:Nat},SX[i]=y->SX[j]=z->kf y=some c->kf z=some d->c≠d->i≠j:=by
  intro i j hi hj y z c d e e' l l' S9 z;subst z;rw[← e] at l;rw[← e',l] at l';exact S9 (Option.some.inj l')
 have:=ne e1 e2 l1 l2 (by decide);have:=ne e1 e3 l1 l3 (by decide);have:=ne e1 e4 l1 l4 (by decide);have:=ne e2 e3 l2 l3 (by decide);have:=ne e2 e4 l2 l4 (by decide);have:=ne e3 e4 l3 l4 (by decide);omega
theorem zm (ns:MC)(s:Int):∀i,i<=4->(c6 ns s i).Nodup
 | 0,_=>OI
 | i+1,h=>by
   rw[c6];exact jB (zm ns s i (by omega)) (Dl (by rw[kJ];omega) _)
theorem EW (i:Nat)(m:Int):∀j∈eG i m,(i:Int)<j/\j<m:=by
 intro j hj;unfold eG at hj;obtain⟨n,hn⟩:=Nq.mp hj;obtain⟨a,b⟩:=g8 hn;omega
structure LsOk (m:Int)(b:Nat)(Ls:List (List Th)):Prop where
 ok:∀(p:Nat)(L:List Th),Ls[p]?=some L->bG (p:Int) m false L
 dp:∀L∈Ls,dh L<=4
 hd:∀L∈Ls,gG L
 rw:∀L∈Ls,bW L<=b
theorem yv (ns:MC)(m k:Int)(hb:0<cX m):∀i,LsOk m (cX m).toNat (Tg ns m k i).1/\((Tg ns m k i).1.map bW).sum<=i*(cX m).toNat
 | 0=>⟨⟨(λp L h=>by simp[Tg] at h),(λL h=>by simp[Tg] at h),(λL h=>by simp[Tg] at h),(λL h=>by simp[Tg] at h)⟩,O3 _⟩
 | i+1=>by
   obtain⟨h,hs⟩:=yv ns m k hb i;have hl:=kR ns m k i;have g:=kN ns (eG i m) 4 true 0 ((Tg ns m k i).2,cX m) (Int.le_of_lt hb);have go:=Dw (lo:=(i:Int)) (m:=m) (ns:=ns) (EW i m) 4 true 0 ((Tg ns m k i).2,cX m) (MZ 0);have gh:=Fo ns (eG i m) (cX m) (Tg ns m k i).2 hb;have gr:bW (Tn ns (eG i m) 4 true 0 ((Tg ns m k i).2,cX m)).1<=(cX m).toNat:=by
    have:=g.c;dsimp only at this;omega
   rw[Tg];dsimp only;generalize Tn ns (eG i m) 4 true 0 ((Tg ns m k i).2,cX m)=r at g go gh gr;generalize Tg ns m k i=x at h hs hl;have mem:∀{L},L∈x.1++[r.1]->L∈x.1∨L=r.1:=λh=>(Nj.mp h).imp id M5.mp;refine⟨⟨λp L hp=>?_,λL hL=>?_,λL hL=>?_,λL hL=>?_⟩,?_⟩
   ·rcases O9 p x.1.length with z | z
    ·rw[NF z] at hp;exact h.ok p L hp
    ·rw[Ny z] at hp;have hz:p-x.1.length=0:=by
      have:=(M1.mp hp).1;simp at this;omega
     rw[hz] at hp;have e:r.1=L:=by simpa using hp
     have ep:p=i:=by omega
     rw[← e,ep];exact go
   ·rcases mem hL with z | rfl
    ·exact h.dp L z
    ·exact g.dp
   ·rcases mem hL with z | rfl
    ·exact h.hd L z
    ·exact gh
   ·rcases mem hL with z | rfl
    ·exact h.rw L z
    ·exact gr
   ·rw[Nn,OX,Nat.add_mul];simp;omega
theorem j9 {α:Type}(k:Nat)(y:α)(xs:List α):bX k y xs=xs.take k++y::xs.drop k:=rfl
theorem zT (k:Nat)(j:Int)(L:List Th):bW (bX k (.call j) L)=bW L+1:=by
 rw[j9,jF,bW,cn];have:=jF (L.take k) (L.drop k);rw[Oe] at this;omega
theorem Gh (k:Nat)(j:Int)(L:List Th):dh (bX k (.call j) L)=dh L:=by
 rw[j9,kT,dh,show fh (.call j)=0 by simp[fh]];have:=kT (L.take k) (L.drop k);rw[Oe] at this;omega
theorem El {k:Nat}{y x:Th}(h:x∈L):x∈bX k y L:=by
 rw[j9];rw[← Oe k L] at h;rcases Nj.mp h with z | z
 ·exact Np _ z
 ·exact Nh _ (M7 _ z)
theorem A4 {k:Nat}{y:Th}:y∈bX k y L:=by
 rw[j9];exact Nh _ Nb
theorem IX {k:Nat}{j:Int}(h:gG L):gG (bX k (.call j) L):=by
 obtain⟨t,ts,rfl,h⟩:=h;cases k with
 | zero=>exact⟨_,_,rfl,rfl⟩
 | succ k=>exact⟨t,bX k (.call j) ts,rfl,h⟩
theorem sum_set:∀{l:List Nat}{n a b:Nat},l[n]?=some a->(l.set n b).sum+a=l.sum+b
 | x::l,0,a,b,h=>by
   have e:x=a:=by simpa using h
   rw[List.set_cons_zero,OH,OH,e];omega
 | x::l,n+1,a,b,h=>by
   have:=sum_set (l:=l) (n:=n) (a:=a) (b:=b) (by simpa using h);rw[List.set_cons_succ,OH,OH];omega
theorem yF (ns:MC)(x:List (List Th)×Int)(m:Int)(b:Nat)(hx:LsOk m b x.1)(hl:(x.1.length:Int)=m):∀i:Nat,(i:Int)<m->LsOk m (b+i) (TL ns x i).1/\(TL ns x i).1.length=x.1.length/\((TL ns x i).1.map bW).sum=(x.1.map bW).sum+i/\∀j:Nat,1<=j->j<=i->∃L∈(TL ns x i).1,Th.call (j:Int)∈L
 | 0,_=>⟨hx,rfl,rfl,λj h1 h2=>by omega⟩
 | i+1,hi=>by
   obtain⟨h,VE,hs,hc⟩:=yF ns x m b hx hl i (by omega);rw[TL];generalize TL ns x i=y at h VE hs hc;unfold ou;have q0:=MW (aR ns (y.2+1)) (show((i+1:Nat):Int)≠0 by omega);have q1:=MV (aR ns (y.2+1)) (show(0:Int)<((i+1:Nat):Int) by omega);have Uq:Vz ns y.2 (i+1)<=i:=by unfold Vz;omega
   generalize Vz ns y.2 (i+1)=n at Uq;have hn:n<y.1.length:=by omega
   have hL:y.1[n]?=some (y.1.getD n []):=by rw[Na,M4 hn];rfl
   generalize y.1.getD n []=L at hL;have mL:=Ng hL;have l0:0<L.length:=by obtain⟨t,ts,rfl,_⟩:=h.hd L mL;simp
   have r0:=MW (aR ns (y.2+2)) (show(L.length:Int)≠0 by omega);have r1:=MV (aR ns (y.2+2)) (show(0:Int)<(L.length:Int) by omega);have hk:(aR ns (y.2+2)%(L.length:Int)).toNat<L.length:=by omega
   dsimp only;generalize (aR ns (y.2+2)%(L.length:Int)).toNat=k at hk;refine⟨⟨λp L' hp=>?_,λL' VZ=>?_,λL' VZ=>?_,λL' VZ=>?_⟩,by rw[NT];exact VE,?_,λj h1 h2=>?_⟩
   ·by_cases e:p=n
    ·subst e;rw[Ni hn] at hp;cases hp
     exact wc (by simp only[cf];omega) (by simp only[eu]) (h.ok p L hL) hk
    ·rw[Nt (Pr e)] at hp;exact h.ok p L' hp
   ·rcases mem_set VZ with z | rfl
    ·exact h.dp L' z
    ·rw[Gh];exact h.dp L mL
   ·rcases mem_set VZ with z | rfl
    ·exact h.hd L' z
    ·exact IX (h.hd L mL)
   ·rcases mem_set VZ with z | rfl
    ·have:=h.rw L' z;omega
    ·rw[zT];have:=h.rw L mL;omega
   ·rw[map_set];have:=sum_set (l:=y.1.map bW) (n:=n) (a:=bW L) (b:=bW (bX k (.call ((i+1:Nat):Int)) L)) (by rw[Nc,hL];rfl);rw[zT] at this ⊢;omega
   ·have sets:∀{L':List Th},L'∈y.1->∃L2∈y.1.set n (bX k (.call ((i+1:Nat):Int)) L),∀t∈L',t∈L2:=λ{L'} VZ=>by
     obtain⟨q,hq⟩:=Nq.mp VZ;by_cases e:q=n
     ·subst e;rw[hL] at hq;cases hq
      exact⟨_,Ng (Ni hn),λt ht=>El ht⟩
     ·exact⟨L',Ng ((Nt (Pr e)).trans hq),λt ht=>ht⟩
    by_cases e:j=i+1
    ·subst e;exact⟨_,Ng (Ni hn),A4⟩
    ·obtain⟨L',VZ,hj⟩:=hc j h1 (by omega);obtain⟨L2,m2,s2⟩:=sets VZ;exact⟨L2,m2,s2 _ hj⟩
structure cS (xs:ME)(Ls:List (List Th)):Prop where
 l:xs.length=Ls.length
 l1:1<=Ls.length
 l4:Ls.length<=4
 nm:∀x∈xs,cI x
 nd:xs.Nodup
 ok:∀(p:Nat)(L:List Th),Ls[p]?=some L->bG (p:Int) (Ls.length:Int) false L
 dp:∀L∈Ls,dh L<=4
 hd:∀L∈Ls,gG L
 rw:∀L∈Ls,bW L<=14
 tot:(Ls.map bW).sum<=30
 cl:∀j:Nat,1<=j->j<Ls.length->∃L∈Ls,Th.call (j:Int)∈L
theorem qA (ns:MC)(s:Int):cS (TJ ns s) (T3 ns s):=by
 obtain⟨m1,m4⟩:=u9 ns s;unfold TJ T3;generalize T5 ns s=m at m1 m4;obtain⟨b6,b14⟩:=zA m1 m4;obtain⟨h,hs⟩:=yv ns m (s+1+m) (by omega) m.toNat;have hl:=kR ns m (s+1+m) m.toNat;generalize Tg ns m (s+1+m) m.toNat=x at h hs hl;obtain⟨o,oll,os,oc⟩:=yF ns x m _ h (by omega) (m-1).toNat (by omega);have bm:(cX m).toNat+(m-1).toNat<=14/\m.toNat*(cX m).toNat+(m-1).toNat<=30:=by
  have:∀j:Fin 4,(cX ((j.val:Int)+1)).toNat+j.val<=14/\(j.val+1)*(cX ((j.val:Int)+1)).toNat+j.val<=30:=by decide +kernel
  have:=this ⟨(m-1).toNat,by omega⟩;dsimp only at this;rw[show(((m-1).toNat:Nat):Int)+1=m by omega,show(m-1).toNat+1=m.toNat by omega] at this;exact this
 generalize TL ns x (m-1).toNat=y at o oll os oc;have em:((y.1.length:Nat):Int)=m:=by omega
 exact⟨by rw[kJ];omega,by omega,by omega,y4 ns s _,zm ns s _ (by omega),by rw[em];exact o.ok,o.dp,o.hd,λL hL=>O2 (o.rw L hL) bm.1,by omega,λj h1 h2=>oc j h1 (by omega)⟩
end
end K1
namespace K1
open PySem L2 Fc
open PySem.Spec hiding Row
open PyProof.Rows hiding St
open PySem.Builtin.Int (intBits)
variable {P:P2}{w:World}{K:Sk}{mg:MA}{base:Heap}{f:Addr}{fd:Qa}
abbrev S1 (x:Str):ME:=[x]
abbrev S2 (x y:Str):ME:=[x,y]
mutual
def cL (SX:ME):Th->ME
 | .Tr x=>S2 "do" x
 | .call j=>S2 "call" (SX.getD j.toNat "")
 | .ifs x a b=>S2 "if" x++Td SX a++S1 "else"++(Td SX b++S1 "end")
 | .Ta x a=>S2 "while" x++Td SX a++S1 "end"
 | .leave=>S1 "leave"
 | .back=>S1 "back"
def Td (SX:ME):List Th->ME
 | []=>[]
 | t::ts=>cL SX t++Td SX ts
end
theorem vj (SX:ME):∀a b:List Th,Td SX (a++b)=Td SX a++Td SX b
 | [],b=>by rw[Td];rfl
 | t::a,b=>by rw[N6,Td,Td,vj SX a b,Nl]
theorem Ec (SX:ME)(t:Th):Td SX [t]=cL SX t:=by rw[Td,Td,Nw]
mutual
theorem C5 {SX:ME}{lo m:Int}:∀(t:Th)(lp:Bool),cf lo m lp t->(cL SX t).length<=4*cn t+(if cn t=0 then 1 else 0)
 | .Tr x,_,_=>by simp[cL,cn]
 | .call j,_,_=>by simp[cL,cn]
 | .ifs x a b,lp,h=>by
   simp only[cf] at h;have h1:=eK (SX:=SX) a lp h.2.1;have h2:=eK (SX:=SX) b lp h.2.2;simp[cL,cn];omega
 | .Ta x a,lp,h=>by
   simp only[cf] at h;have h1:=eK (SX:=SX) a true h.2;simp[cL,cn];omega
 | .leave,_,_=>by simp[cL,cn]
 | .back,_,_=>by simp[cL,cn]
theorem eK {SX:ME}{lo m:Int}:∀(ts:List Th)(lp:Bool),bG lo m lp ts->(Td SX ts).length<=4*bW ts+1
 | [],_,_=>by simp[Td]
 | t::ts,lp,h=>by
   simp only[bG] at h;have h1:=C5 (SX:=SX) t lp h.1;have h2:=eK (SX:=SX) ts lp h.2.2;rw[Td,bW,M9];by_cases e:cn t=0
   ·rw[e,SS rfl] at h1;have hp:eu t=false:=by cases t<;>simp[cn] at e<;>simp[eu]
    have:ts=[]:=h.2.1.resolve_left (by rw[hp];decide);subst this;simp[Td,bW];omega
   ·rw[SR e] at h1;omega
end
theorem vp {lo m:Int}{lp:Bool}{t:Th}:∀{ts:List Th},bG lo m lp ts->t∈ts->cf lo m lp t
 | s::ts,h,hm=>by
   simp only[bG] at h;rcases Nd.mp hm with rfl | hm
   ·exact h.1
   ·exact vp h.2.2 hm
theorem z3 {t:Th}:∀{ts:List Th},t∈ts->cn t<=bW ts
 | s::ts,h=>by
   rw[bW];rcases Nd.mp h with rfl | h
   ·omega
   ·have:=z3 h;omega
theorem tY {lo m:Int}{lp:Bool}:∀{ts:List Th}(i:Nat),bG lo m lp ts->bG lo m lp (ts.take i)
 | [],i,h=>by rw[take_nil];exact h
 | t::ts,0,h=>by simp only[Ol,bG]
 | t::ts,i+1,h=>by
   simp only[bG] at h;rw[NQ,bG];exact⟨h.1,h.2.1.imp id λe=>by rw[e,take_nil],tY i h.2.2⟩
theorem Dt (ts:List Th)(i:Nat):bW (ts.take i)<=bW ts:=by
 have:=jF (ts.take i) (ts.drop i);rw[Oe] at this;omega
section
variable {X:Cx}{Γ Γ1:Ga}
theorem tK {a:Expr}{j:Nat}{p1 pos:Pos}{t:Th}{i:Int}{x:Str}(h:EV X a Γ ag (fG t) Γ1)(hx:cM (dY t) i=some (.str x)):EV X (.Subscript a (.Constant (.int i) j p1) pos) Γ aj x Γ1:=EV.sP (aB (EV.lP (by rw[dE] at h;exact h)) ev_int hx)
theorem Hl {a:Expr}{j:Nat}{p1 pos:Pos}{t:Th}{i:Int}{x:Int}(h:EV X a Γ ag (fG t) Γ1)(hx:cM (dY t) i=some (.int x)):EV X (.Subscript a (.Constant (.int i) j p1) pos) Γ ai x Γ1:=EV.iP (aB (EV.lP (by rw[dE] at h;exact h)) ev_int hx)
end
section
variable {x:Str}
abbrev Fv:Stmt:=top rH
abbrev nWD:ME:=["_law_items","_law_names_here","_law_words_here","_law_one"]
theorem Bd:aN nWD ["_law_items","_law_names_here"] (ao Fv):=TQ
def KU (n:Nat):dI:=λK ps T=>∃(ts:List Th)(SX:ME)(lo m:Int)(lp:Bool),ps=[⟨ae ag,ba ts⟩,⟨ae aj,SX⟩]/\dh ts<n/\bG lo m lp ts/\0<=lo/\m<=(SX.length:Int)/\bW ts<=100/\T=dq K (ae aj) (· =Td SX ts)
theorem l1 (x:Str):([x]:ME).length<=PZ:=by show 1<=PZ;decide
theorem l2 (x y:Str):([x,y]:ME).length<=PZ:=by show 2<=PZ;decide
theorem JT (F:dQ K "_law_words" "_law_words" Fv f fd)(hm:mg "_law_words"=some (.ref f))(hb:Binds K fd ["_law_items","_law_names_here"] []):∀n:Nat,aM P w K mg base "_law_words" (n+1) (a9 (KU n) K):=by
 intro n;have nd:=Bd.nd
 induction n with
 | zero=>
   refine jo F Bd hm hb (λqs T ⟨_,_,_,_,_,e,_⟩=>by rw[e];rfl) (λS6 A outer s H E qs T hr hS=>?_);obtain⟨ts,_,_,_,_,_,h,_⟩:=hS;exact SQ h (Nat.not_lt_zero _)
 | succ n ih=>
   refine jo F Bd hm hb (λqs T ⟨_,_,_,_,_,e,_⟩=>by rw[e];rfl) (λS6 A outer s H E qs T hr hS=>?_);obtain⟨ts,SX,lo,m,lp,rfl,hd,S8,lo0,WK,hrw,rfl⟩:=hS;change WS _ _ [.im (ae ag) (ba ts),.im (ae aj) SX,.no,.no] _ _;refine ah (cO 2 (r:=aj) (ys:=[]) (aV aQ (O3 _)) ?_);refine bL (N1:=λΓ=>∃e3,Γ=[.im (ae ag) (ba ts),.im (ae aj) SX,.mu aj (Td SX ts),e3]) (bP (r:=ag) (λi Γ=>∃e3,Γ=[.im (ae ag) (ba ts),.im (ae aj) SX,.mu aj (Td SX (ts.take i)),e3]) (cu (aa 0 rfl)) (bt 3) ⟨_,rfl⟩ (λi x Γ hx hΓ=>?_) (λΓ hΓ=>?_)) ?_
   ·obtain⟨e3,rfl⟩:=hΓ;rw[ee,Nc] at hx;obtain⟨t,ht,rfl⟩:=Pt.mp hx;have tm:=Ng ht;have tok:=vp S8 tm;have tdp:=my tm;have trw:=z3 tm;have wl:=eK (SX:=SX) (ts.take i) lp (tY i S8);have wr:=Dt ts i;have UN:Td SX (ts.take (i+1))=Td SX (ts.take i)++cL SX t:=by rw[NH,ht,vj];rw[show(some t).toList=[t] from rfl,Ec]
    rw[UN];generalize Td SX (ts.take i)=ws at wl;have wz:ws.length<=401:=by omega
    change WS _ _ [.im (ae ag) (ba ts),.im (ae aj) SX,.mu aj ws,.im ag (fG t)] _ _;refine ak (aL (au aT (iM (aa 3 rfl)) ar) (λh=>?_) (λh1=>?_))
    ·have h:cz t="do":=SU h;cases t with
     | Tr x=>
       refine WS.freeze 2 rfl (aX (by omega)) ?_;refine ak (cO 2 (ys:=ws++S2 "do" x) (cF (aa 2 rfl) (bg.im (aV (r:=aj) (av ar (av (tK (aa 3 rfl) rfl) aQ)) (l2 _ _))) (aX (by simp;omega))) ⟨.im ag (fG (.Tr x)),?_⟩);rw[cL];rfl
     | call j=>exact SQ h (by simp only[cz];decide)
     | ifs x a b=>exact SQ h (by simp only[cz];decide)
     | Ta x a=>exact SQ h (by simp only[cz];decide)
     | leave=>exact SQ h (by simp only[cz];decide)
     | back=>exact SQ h (by simp only[cz];decide)
    have h1:¬cz t="do":=SV h1;refine ak (aL (au aT (iM (aa 3 rfl)) ar) (λh=>?_) (λh2=>?_))
    ·have h:cz t="call":=SU h;cases t with
     | call j=>
       simp only[cf] at tok;refine WS.freeze 2 rfl (aX (by omega)) ?_;refine ak (cO 2 (ys:=ws++S2 "call" (SX.getD j.toNat "")) (cF (aa 2 rfl) (bg.im (aV (r:=aj) (av ar (av (aB (aa 1 rfl) (Hl (aa 3 rfl) rfl) (bB (xs:=SX) (i:=j) "" (by omega) (by omega))) aQ)) (l2 _ _))) (aX (by simp;omega))) ⟨.im ag (fG (.call j)),?_⟩);rw[cL];rfl
     | Tr j=>exact SQ h (by simp only[cz];decide)
     | ifs x a b=>exact SQ h (by simp only[cz];decide)
     | Ta x a=>exact SQ h (by simp only[cz];decide)
     | leave=>exact SQ h (by simp only[cz];decide)
     | back=>exact SQ h (by simp only[cz];decide)
    have h2:¬cz t="call":=SV h2;refine ak (aL (au aT (iM (aa 3 rfl)) ar) (λh=>?_) (λh3=>?_))
    ·have h:cz t="if":=SU h;cases t with
     | ifs x a b=>
       simp only[cf] at tok;rw[fh] at tdp;rw[cn] at trw;have la:=eK (SX:=SX) a lp tok.2.1;have lb:=eK (SX:=SX) b lp tok.2.2;refine WS.freeze 2 rfl (aX (by omega)) ?_;refine ah (cO 2 (ys:=ws++S2 "if" x++Td SX a++S1 "else") (cF (bg.im (cF (bg.im (cF (aa 2 rfl) (bg.im (aV (r:=aj) (av ar (av (tK (aa 3 rfl) rfl) aQ)) (l2 _ _))) (aX (by simp;omega)))) (aP ih hr (aq (mU (aa 3 rfl) rfl) (aq (aa 1 rfl) aJ)) ⟨a,SX,lo,m,lp,rfl,by omega,tok.2.1,lo0,WK,by omega,rfl⟩) (aX (by simp;omega)))) (bg.im (aV (r:=aj) (av ar aQ) (l1 _))) (aX (by simp;omega))) ?_);refine WS.freeze 2 rfl (aX (by simp;omega)) ?_;refine ak (cO 2 (ys:=ws++S2 "if" x++Td SX a++S1 "else"++Td SX b++S1 "end") (cF (bg.im (cF (aa 2 rfl) (aP ih hr (aq (mU (aa 3 rfl) rfl) (aq (aa 1 rfl) aJ)) ⟨b,SX,lo,m,lp,rfl,by omega,tok.2.2,lo0,WK,by omega,rfl⟩) (aX (by simp;omega)))) (bg.im (aV (r:=aj) (av ar aQ) (l1 _))) (aX (by simp;omega))) ⟨.im ag (fG (.ifs x a b)),?_⟩);rw[cL];simp only[Nl];rfl
     | Tr j=>exact SQ h (by simp only[cz];decide)
     | call x=>exact SQ h (by simp only[cz];decide)
     | Ta x a=>exact SQ h (by simp only[cz];decide)
     | leave=>exact SQ h (by simp only[cz];decide)
     | back=>exact SQ h (by simp only[cz];decide)
    have h3:¬cz t="if":=SV h3;refine ak (aL (au aT (iM (aa 3 rfl)) ar) (λh=>?_) (λh4=>?_))
    ·have h:cz t="while":=SU h;cases t with
     | Ta x a=>
       simp only[cf] at tok;rw[fh] at tdp;rw[cn] at trw;have la:=eK (SX:=SX) a true tok.2;refine WS.freeze 2 rfl (aX (by omega)) ?_;refine ak (cO 2 (ys:=ws++S2 "while" x++Td SX a++S1 "end") (cF (bg.im (cF (bg.im (cF (aa 2 rfl) (bg.im (aV (r:=aj) (av ar (av (tK (aa 3 rfl) rfl) aQ)) (l2 _ _))) (aX (by simp;omega)))) (aP ih hr (aq (mU (aa 3 rfl) rfl) (aq (aa 1 rfl) aJ)) ⟨a,SX,lo,m,true,rfl,by omega,tok.2,lo0,WK,by omega,rfl⟩) (aX (by simp;omega)))) (bg.im (aV (r:=aj) (av ar aQ) (l1 _))) (aX (by simp;omega))) ⟨.im ag (fG (.Ta x a)),?_⟩);rw[cL];simp only[Nl];rfl
     | Tr j=>exact SQ h (by simp only[cz];decide)
     | call x=>exact SQ h (by simp only[cz];decide)
     | ifs x a b=>exact SQ h (by simp only[cz];decide)
     | leave=>exact SQ h (by simp only[cz];decide)
     | back=>exact SQ h (by simp only[cz];decide)
    have h4:¬cz t="while":=SV h4;have ew:cL SX t=[cz t]:=by
     cases t with
     | Tr x=>exact SQ rfl h1
     | call x=>exact SQ rfl h2
     | ifs x a b=>exact SQ rfl h3
     | Ta x a=>exact SQ rfl h4
     | leave=>rw[cL];rfl
     | back=>rw[cL];rfl
    rw[ew];exact ak (fc 2 (iM (aa 3 rfl)) rfl rfl (O6 wz (by decide)) ⟨.im ag (fG t),rfl⟩)
   ·obtain⟨e3,rfl⟩:=hΓ;rw[jz,NN];exact⟨e3,rfl⟩
   rintro _ ⟨e3,rfl⟩;have wl:=eK (SX:=SX) ts lp S8;refine WS.freeze 2 rfl (aX (by omega)) ?_;exact ak (bb (aa 2 rfl) rfl)
def fg (SX:ME)(z:Str×List Th):ME:=S2 "part" (z.1)++Td SX z.2++S1 "end"
def ji (SX:ME)(Ls:List (List Th)):ME:=(SX.zip Ls).flatMap (fg SX)
abbrev FN:Stmt:=top sN
abbrev nTX:ME:=["_law_names_here","_law_lists","_law_words_here","_law_name_here","_law_items"]
theorem IK:aN nTX ["_law_names_here","_law_lists"] (ao FN):=TQ
def Lr:dI:=λK ps T=>∃(SX:ME)(Ls:List (List Th)),ps=[⟨ae aj,SX⟩,⟨ae (ae ag),Ls.map ba⟩]/\cS SX Ls/\T=dq K aj (· =R9 " " (ji SX Ls))
structure gc (w:Str):Prop where
 l:w.length<=8
 f:32∉w.cps.toList
theorem cI.wo (h:cI x):gc x:=⟨h.l8,λz=>by have:=(h.az _ z).1;omega⟩
theorem fm {w:Str}(h:(decide (w.length<=8)&&decide (32∉w.cps.toList))=true):gc w:=by
 rw[MN] at h;exact⟨SU h.1,SU h.2⟩
theorem DF {SX:ME}(h:∀x∈SX,cI x)(i:Nat):gc (SX.getD i ""):=by
 rw[Na];cases e:SX[i]? with
 | none=>exact fm (by decide +kernel)
 | some x=>exact(h x (Ng e)).wo
theorem mz {y:Str}(hx:gc x)(hy:gc y):∀w∈S2 x y,gc w:=λw hw=>by
 rcases Nd.mp hw with rfl | hw
 ·exact hx
 ·rw[M5.mp hw];exact hy
theorem kW (hx:gc x):∀w∈S1 x,gc w:=λw hw=>by rw[M5.mp hw];exact hx
theorem fo {a b:ME}(ha:∀w∈a,gc w)(hb:∀w∈b,gc w):∀w∈a++b,gc w:=λw hw=>(Nj.mp hw).elim (ha w) (hb w)
mutual
theorem GA {SX:ME}{lo m:Int}(hn:∀x∈SX,cI x):∀(t:Th)(lp:Bool),cf lo m lp t->∀w∈cL SX t,gc w
 | .Tr x,_,h=>by
   simp only[cf] at h;rw[cL];exact mz (fm (by decide +kernel)) h.wo
 | .call j,_,_=>by rw[cL];exact mz (fm (by decide +kernel)) (DF hn _)
 | .ifs x a b,lp,h=>by
   simp only[cf] at h;rw[cL];exact fo (fo (fo (mz (fm (by decide +kernel)) h.1.wo) (mq hn a lp h.2.1)) (kW (fm (by decide +kernel)))) (fo (mq hn b lp h.2.2) (kW (fm (by decide +kernel))))
 | .Ta x a,lp,h=>by
   simp only[cf] at h;rw[cL];exact fo (fo (mz (fm (by decide +kernel)) h.1.wo) (mq hn a true h.2)) (kW (fm (by decide +kernel)))
 | .leave,_,_=>by rw[cL];exact kW (fm (by decide +kernel))
 | .back,_,_=>by rw[cL];exact kW (fm (by decide +kernel))
theorem mq {SX:ME}{lo m:Int}(hn:∀x∈SX,cI x):∀(ts:List Th)(lp:Bool),bG lo m lp ts->∀w∈Td SX ts,gc w
 | [],_,_=>by rw[Td];intro w h;cases h
 | t::ts,lp,h=>by
   simp only[bG] at h;rw[Td];exact fo (GA hn t lp h.1) (mq hn ts lp h.2.2)
end
section
variable {SX:ME}{Ls:List (List Th)}
theorem g7 {i:Nat}{z:Str×List Th}(h:(SX.zip Ls)[i]?=some z):SX[i]?=some z.1/\Ls[i]?=some z.2:=by
 rw[List.getElem?_zip_eq_some] at h;exact h
theorem Kg (h:cS SX Ls){z:Str×List Th}(hz:z∈SX.zip Ls):(fg SX z).length<=60/\∀w∈fg SX z,gc w:=by
 obtain⟨i,hi⟩:=Nq.mp hz;obtain⟨h1,h2⟩:=g7 hi;have hk:=h.ok i z.2 h2;have hl:=eK (SX:=SX) z.2 false hk;have hr:=h.rw z.2 (Ng h2);unfold fg;refine⟨by simp;omega,fo (fo (mz (fm (by decide +kernel)) (h.nm z.1 (Ng h1)).wo) (mq h.nm z.2 false hk)) (kW (fm (by decide +kernel)))⟩
theorem wx {SX:ME}:∀{zs:List (Str×List Th)},(∀z∈zs,(fg SX z).length<=60/\∀w∈fg SX z,gc w)->(zs.flatMap (fg SX)).length<=60*zs.length/\∀w∈zs.flatMap (fg SX),gc w
 | [],_=>⟨O3 _,λw h=>by cases h⟩
 | z::zs,h=>by
   obtain⟨a,b⟩:=wx (zs:=zs) λy hy=>h y (M7 _ hy);obtain⟨c,d⟩:=h z Nb;rw[N2];exact⟨by rw[M9,Nf];omega,fo d b⟩
theorem v8 (h:cS SX Ls)(i:Nat):(((SX.zip Ls).take i).flatMap (fg SX)).length<=240/\∀w∈((SX.zip Ls).take i).flatMap (fg SX),gc w:=by
 obtain⟨a,b⟩:=wx (SX:=SX) (zs:=(SX.zip Ls).take i) λz hz=>Kg h (OQ hz);refine⟨?_,b⟩;have:=h.l;have:=h.l4;rw[Nu,NZ] at a;omega
theorem tO (h:cS SX Ls):(ji SX Ls).length<=240/\∀w∈ji SX Ls,gc w:=by
 have:=v8 h (SX.zip Ls).length;rw[NN] at this;exact this
theorem vv {ws:ME}(hl:ws.length<=240)(h:∀w∈ws,gc w):JoinOk " " ws=true:=by
 unfold JoinOk;rw[StrLaws.joinFits (B:=8) (λy hy=>(h y hy).l) (by rw[show(" ":Str).length=1 by decide +kernel];omega)];rfl
theorem Kw (M:cP K mg)(CW:aM P w K mg base "_law_words" 6 (a9 (KU 5) K))(Df:Def K mg "_law_text" FN ["_law_names_here","_law_lists"]):aM P w K mg base "_law_text" 7 (a9 Lr K):=by
 have nd:=IK.nd;refine bR (k:=6) Df IK (λf S6 A outer s H E qs T hr hS=>?_);obtain⟨SX,Ls,rfl,hP,rfl⟩:=hS;change WS _ _ [.im (ae aj) SX,.im (ae (ae ag)) (Ls.map ba),.no,.no,.no] _ _;refine ah (bE 2 (y:=([]:ME)) (bg.im (aV (r:=aj) aQ (O3 _))) ?_);refine bL (N1:=λΓ=>∃e3 e4,Γ=[.im (ae aj) SX,.im (ae (ae ag)) (Ls.map ba),.im (ae aj) (ji SX Ls),e3,e4]) (bP (λi Γ=>∃e3 e4,Γ=[.im (ae aj) SX,.im (ae (ae ag)) (Ls.map ba),.im (ae aj) (((SX.zip Ls).take i).flatMap (fg SX)),e3,e4]) (zJ M.zip (aa 0 rfl) (aa 1 rfl)) (eh 3 4) ⟨_,_,rfl⟩ (λi x Γ hx hΓ=>?_) (λΓ hΓ=>?_)) ?_
 ·obtain⟨e3,e4,rfl⟩:=hΓ;rw[List.zip_map_right,Nc] at hx;obtain⟨z,hz,rfl⟩:=Pt.mp hx;obtain⟨h1,h2⟩:=g7 hz;obtain⟨tl,_⟩:=v8 hP i;have hk:=hP.ok i z.2 h2;have hl:=eK (SX:=SX) z.2 false hk;have hrw:=hP.rw z.2 (Ng h2);have hdp:=hP.dp z.2 (Ng h2);have VE:=hP.l;have UN:((SX.zip Ls).take (i+1)).flatMap (fg SX)=((SX.zip Ls).take i).flatMap (fg SX)++fg SX z:=by
   rw[NH,hz,Oq];simp
  rw[UN];generalize ((SX.zip Ls).take i).flatMap (fg SX)=ws at tl;change WS _ _ [.im (ae aj) SX,.im (ae (ae ag)) (Ls.map ba),.im (ae aj) ws,.im aj z.1,.im (ae ag) (ba z.2)] _ _;refine ak (bE 2 (y:=ws++S2 "part" z.1++Td SX z.2++S1 "end") (bg.im (cF (bg.im (cF (bg.im (cF (aa 2 rfl) (bg.im (aV (r:=aj) (av ar (av (aa 3 rfl) aQ)) (l2 _ _))) (aX (by simp;omega)))) (aP CW hr (aq (aa 4 rfl) (aq (aa 0 rfl) aJ)) ⟨z.2,SX,(i:Int),(Ls.length:Int),false,rfl,by omega,hk,by omega,by omega,by omega,rfl⟩) (aX (by simp;omega)))) (bg.im (aV (r:=aj) (av ar aQ) (l1 _))) (aX (by simp;omega)))) ⟨.im aj z.1,.im (ae ag) (ba z.2),?_⟩);unfold fg;simp only[Nl];rfl
 ·obtain⟨e3,e4,rfl⟩:=hΓ;refine⟨e3,e4,?_⟩;rw[List.zip_map_right,M8,NN];rfl
 rintro _ ⟨e3,e4,rfl⟩;obtain⟨pl,po⟩:=tO hP;exact ak (bb (DM ar (aa 2 rfl) (vv pl po)) (vE _ _))
end
end
section
variable {ws:ME}
structure aH where
 kind:Str
 name:Str
 word:Int
 within:Int
abbrev c5:aH:=⟨"","",0,0⟩
abbrev named:ME:=["part","do","call","if","while"]
abbrev Tp:ME:=["do","call","if","while","leave","back"]
abbrev TR:ME:=["part","if","else","while"]
abbrev S7:ME:=["else","end"]
structure eU where
 S:List aH
 O:MC
 w:Nat
def aU (S:List aH)(o:Int):Str:=(S.getD o.toNat c5).kind
def fu (k:Str)(ks:ME):Bool:=
 if ks.isEmpty then decide (k="part")
 else if k="leave" then decide (("while":Str)∈ks)
 else if k="else" then decide (ks.getLast?.getD ""="if")
 else if k="end" then !decide (ks.getLast?.getD ""="if")
 else decide (k∈Tp)
abbrev vW (ws:ME)(x:eU):Str:=ws.getD x.w ""
def n5 (k:Str)(n:Str)(x:eU):aH:=⟨k,n,(x.w:Int),x.O.getLast?.getD (-1)⟩
def UA (k n:Str)(x:eU):eU:=
 ⟨x.S++[n5 k (if k∈named then n else "") x],(if k∈S7 then x.O.dropLast else x.O)++(if k∈TR then[(x.S.length:Int)] else[]),x.w+(if k∈named then 2 else 1)⟩
def jf (ws:ME)(x:eU):eU:=UA (vW ws x) (ws.getD (x.w+1) "") x
structure Hf (ws:ME)(x:eU):Prop where
 w:x.w<ws.length
 may:fu (vW ws x) (x.O.map (aU x.S))=true
 nm:vW ws x∈named->x.w+1<ws.length/\cI (ws.getD (x.w+1) "")
 o:∀o∈x.O,0<=o/\o<(x.S.length:Int)
theorem nq {α:Type}(f:α->α)(m:Nat)(x:α):∀n,Tt f (m+n) x=Tt f n (Tt f m x)
 | 0=>rfl
 | n+1=>by rw[← Pm,Tt,Tt,nq f m x n]
def gw (ws:ME)(n:Nat)(x y:eU):Prop:=Tt (jf ws) n x=y/\∀i,i<n->Hf ws (Tt (jf ws) i x)
theorem gw.refl {x:eU}:gw ws 0 x x:=⟨rfl,λi h=>by omega⟩
theorem gw.trans {m n:Nat}{x y z:eU}(h:gw ws m x y)(h':gw ws n y z):gw ws (m+n) x z:=by
 refine⟨by rw[nq,h.1];exact h'.1,λi hi=>?_⟩;by_cases q:i<m
 ·exact h.2 i q
 ·have e:i=m+(i-m):=by omega
  rw[e,nq,h.1];exact h'.2 (i-m) (by omega)
theorem gw.cast {n:Nat}{x y y':eU}(h:gw ws n x y)(e:y=y'):gw ws n x y':=e▸h
theorem gw.one {x y:eU}(h:Hf ws x)(e:jf ws x=y):gw ws 1 x y:=by
 refine⟨e,λi hi=>?_⟩;obtain rfl:i=0:=by omega
 exact h
def pA (ws:ME)(w:Nat)(vs:ME):Prop:=∀(i:Nat)(v:Str),vs[i]?=some v->ws[w+i]?=some v
theorem pA.app {w:Nat}{a b:ME}(h:pA ws w (a++b)):pA ws w a/\pA ws (w+a.length) b:=by
 refine⟨λi v hv=>h i v ?_,λi v hv=>?_⟩
 ·rw[NF (M1.mp hv).1];exact hv
 ·have:=h (a.length+i) v (by rw[Ny (by omega),show a.length+i-a.length=i by omega];exact hv);rw[show w+a.length+i=w+(a.length+i) by omega];exact this
theorem pA.d {w:Nat}{vs:ME}(h:pA ws w vs){i:Nat}{v:Str}(hv:vs[i]?=some v):ws.getD (w+i) ""=v/\w+i<ws.length:=by
 have:=h i v hv;exact⟨by rw[Na,this];rfl,(M1.mp this).1⟩
mutual
def bp:Th->Nat
 | .ifs _ a b=>3+S4 a+S4 b
 | .Ta _ a=>2+S4 a
 | _=>1
def S4:List Th->Nat
 | []=>0
 | t::ts=>bp t+S4 ts
end
end
mutual
def spT (SX:ME)(a w u:Int):Th->List aH
 | .Tr x=>[⟨"do",x,w,u⟩]
 | .call j=>[⟨"call",SX.getD j.toNat "",w,u⟩]
 | .ifs x A B=>[⟨"if",x,w,u⟩]++bQ SX (a+1) (w+2) a A++([⟨"else","",w+2+(Td SX A).length,a⟩]++(bQ SX (a+2+S4 A) (w+3+(Td SX A).length) (a+1+S4 A) B++[⟨"end","",w+3+(Td SX A).length+(Td SX B).length,a+1+S4 A⟩]))
 | .Ta x A=>[⟨"while",x,w,u⟩]++(bQ SX (a+1) (w+2) a A++[⟨"end","",w+2+(Td SX A).length,a⟩])
 | .leave=>[⟨"leave","",w,u⟩]
 | .back=>[⟨"back","",w,u⟩]
def bQ (SX:ME)(a w u:Int):List Th->List aH
 | []=>[]
 | t::ts=>spT SX a w u t++bQ SX (a+bp t) (w+(cL SX t).length) u ts
end
mutual
theorem jx {SX:ME}:∀(t:Th)(a w u:Int),(spT SX a w u t).length=bp t
 | .Tr _,_,_,_=>by simp[spT,bp]
 | .call _,_,_,_=>by simp[spT,bp]
 | .ifs x A B,a,w,u=>by
   simp only[spT,bp,M9,bV A,bV B,Nf,Nr];omega
 | .Ta x A,a,w,u=>by
   simp only[spT,bp,M9,bV A,Nf,Nr];omega
 | .leave,_,_,_=>by simp[spT,bp]
 | .back,_,_,_=>by simp[spT,bp]
theorem bV {SX:ME}:∀(ts:List Th)(a w u:Int),(bQ SX a w u ts).length=S4 ts
 | [],_,_,_=>by simp[bQ,S4]
 | t::ts,a,w,u=>by rw[bQ,S4,M9,jx t,bV ts]
end
section
variable {O:MC}{S:List aH}{x:eU}{n:Str}{a:Int}{S':List aH}{f:Int->Str}{s:aH}
structure Ctx (x:eU)(lp:Bool):Prop where
 ne:x.O≠[]
 o:∀o∈x.O,0<=o/\o<(x.S.length:Int)
 lp:lp=true->("while":Str)∈x.O.map (aU x.S)
theorem Dp {o:Int}(h0:0<=o)(h1:o<(S.length:Int)):aU (S++S') o=aU S o:=by
 unfold aU;rw[Na,Na,NF (by omega)]
theorem yM:aU (S++s::S') (S.length:Int)=s.kind:=by
 unfold aU;rw[Na,show((S.length:Nat):Int).toNat=S.length by omega];simp
theorem vt (h:∀o∈O,0<=o/\o<(S.length:Int)):O.map (aU (S++S'))=O.map (aU S):=Ox λo ho=>Dp (h o ho).1 (h o ho).2
theorem Ctx.more {lp:Bool}(h:Ctx x lp)(S':List aH)(w:Nat):Ctx ⟨x.S++S',x.O,w⟩ lp:=
 ⟨h.ne,λo ho=>⟨(h.o o ho).1,by have:=(h.o o ho).2;show o<((x.S++S').length:Int);rw[M9];omega⟩,λe=>by show _∈x.O.map (aU (x.S++S'));rw[vt h.o];exact h.lp e⟩
theorem Ctx.inner {lp lp':Bool}(h:Ctx x lp)(s:aH)(w:Nat)(hl:lp'=true->lp=true∨s.kind="while"):Ctx ⟨x.S++[s],x.O++[(x.S.length:Int)],w⟩ lp':=by
 refine⟨by simp,λo ho=>?_,λe=>?_⟩
 ·show _/\o<((x.S++[s]).length:Int);rw[M9,NG];rcases Nj.mp ho with z | z
  ·have:=h.o o z;omega
  ·rw[M5.mp z];omega
 ·show _∈(x.O++[(x.S.length:Int)]).map (aU (x.S++[s]));rw[Nn,vt h.o];rcases hl e with z | z
  ·exact Np _ (h.lp z)
  ·refine Nh _ ?_;rw[OZ,yM,z];exact M5.mpr rfl
theorem jO {k:Str}{ks:ME}(T9:ks≠[])(h:k∈Tp)(hl:k≠"leave"):fu k ks=true:=by
 unfold fu;have e:ks.isEmpty=false:=by cases ks with
  | nil=>exact SQ rfl T9
  | cons _ _=>rfl
 have h1:k≠"else":=λz=>by rw[z] at h;revert h;decide +kernel
 have h2:k≠"end":=λz=>by rw[z] at h;revert h;decide +kernel
 rw[SR (by rw[e];decide),SR hl,SR h1,SR h2];exact decide_eq_true h
theorem mJ (h:O≠[]):O.map f≠[]:=λe=>h (List.map_eq_nil_iff.mp e)
theorem fM {ws:ME}{k:Str}{vs:ME}{i:Nat}(hk:ws.getD x.w ""=k/\x.w<ws.length)(hn:k∈named->ws.getD (x.w+1) ""=n/\x.w+1<ws.length/\cI n)(hm:fu k (x.O.map (aU x.S))=true)(ho:∀o∈x.O,0<=o/\o<(x.S.length:Int)):gw ws 1 x (UA k n x):=by
 obtain⟨e1,h1⟩:=hk;have e:vW ws x=k:=e1;refine gw.one ⟨h1,by rw[e];exact hm,λh=>?_,ho⟩ ?_
 ·rw[e] at h;obtain⟨e2,h2,h3⟩:=hn h;exact⟨h2,by rw[e2];exact h3⟩
 ·unfold jf;rw[e];by_cases h:k∈named
  ·rw[(hn h).1]
  ·unfold UA;rw[SR h,SR h,SR h]
theorem tX:((O++[a]).map f).getLast?.getD ""=f a:=by simp
theorem As (h:f a="if"):fu "else" ((O++[a]).map f)=true:=by
 unfold fu;rw[SR (by simp),SR (by decide +kernel),SS rfl,tX,h];rfl
theorem p7 (h:f a≠"if"):fu "end" ((O++[a]).map f)=true:=by
 unfold fu;rw[SR (by simp),SR (by decide +kernel),SR (by decide +kernel),SS rfl,tX,SW h];rfl
theorem za {ks:ME}(h:("while":Str)∈ks):fu "leave" ks=true:=by
 unfold fu;rw[SR (by cases ks with
  | nil=>cases h
  | cons _ _=>simp),SS rfl]
 exact decide_eq_true h
abbrev uF (x:eU):Int:=x.O.getLast?.getD (-1)
theorem sV {k:Str}(h1:k∈named)(h2:k∉S7)(h3:k∉TR):UA k n x=⟨x.S++[⟨k,n,x.w,uF x⟩],x.O,x.w+2⟩:=by
 unfold UA n5;rw[SS h1,SS h1,SR h2,SR h3,Nw]
theorem wB {k:Str}(h1:k∉named)(h2:k∉S7)(h3:k∉TR):UA k n x=⟨x.S++[⟨k,"",x.w,uF x⟩],x.O,x.w+1⟩:=by
 unfold UA n5;rw[SR h1,SR h1,SR h2,SR h3,Nw]
theorem qx {k:Str}(h1:k∈named)(h2:k∉S7)(h3:k∈TR):UA k n x=⟨x.S++[⟨k,n,x.w,uF x⟩],x.O++[(x.S.length:Int)],x.w+2⟩:=by
 unfold UA n5;rw[SS h1,SS h1,SR h2,SS h3]
theorem C6 {w:Nat}:UA "else" n ⟨S,O++[a],w⟩=⟨S++[⟨"else","",w,a⟩],O++[(S.length:Int)],w+1⟩:=by
 unfold UA n5;rw[SR (show¬("else":Str)∈named by decide +kernel),SR (show¬("else":Str)∈named by decide +kernel),SS (show("else":Str)∈S7 by decide +kernel),SS (show("else":Str)∈TR by decide +kernel)];simp
theorem mR {w:Nat}:UA "end" n ⟨S,O++[a],w⟩=⟨S++[⟨"end","",w,a⟩],O,w+1⟩:=by
 unfold UA n5;rw[SR (show¬("end":Str)∈named by decide +kernel),SR (show¬("end":Str)∈named by decide +kernel),SS (show("end":Str)∈S7 by decide +kernel),SR (show¬("end":Str)∈TR by decide +kernel)];simp
theorem ox (h:∀o∈O,0<=o/\o<(S.length:Int))(S':List aH):∀o∈O++[(S.length:Int)],0<=o/\o<(((S++[s])++S').length:Int):=λo ho=>by
 rw[M9,M9,NG];rcases Nj.mp ho with z | z
 ·have:=h o z;omega
 ·rw[M5.mp z];omega
theorem oI:aU ((S++[s])++S') (S.length:Int)=s.kind:=by rw[Nl];exact yM
mutual
theorem Mf {ws SX:ME}{lo m:Int}(hn:∀x∈SX,cI x)(hm:m<=(SX.length:Int))(VW:0<=lo):∀(t:Th)(lp:Bool)(x:eU),cf lo m lp t->pA ws x.w (cL SX t)->Ctx x lp->
 gw ws (bp t) x ⟨x.S++spT SX (x.S.length:Int) (x.w:Int) (uF x) t,x.O,x.w+(cL SX t).length⟩
 | .Tr y,lp,x,h,hw,hc=>by
   simp only[cf] at h;rw[cL] at hw;have e1:=hw.d (i:=0) rfl;have e2:=hw.d (i:=1) rfl;have s:=fM (n:=y) (vs:=[]) (i:=0) e1 (λ_=>⟨e2.1,e2.2,h⟩) (jO (mJ hc.ne) (by decide +kernel) (by decide +kernel)) hc.o;rw[sV (by decide +kernel) (by decide +kernel) (by decide +kernel)] at s;simp only[bp,spT,cL];exact s
 | .call j,lp,x,h,hw,hc=>by
   simp only[cf] at h;rw[cL] at hw;have e1:=hw.d (i:=0) rfl;have e2:=hw.d (i:=1) rfl;have hj:cI (SX.getD j.toNat ""):=by
    have hl:j.toNat<SX.length:=by omega
    rw[Na,M4 hl];exact hn _ (NK hl)
   have s:=fM (n:=SX.getD j.toNat "") (vs:=[]) (i:=0) e1 (λ_=>⟨e2.1,e2.2,hj⟩) (jO (mJ hc.ne) (by decide +kernel) (by decide +kernel)) hc.o;rw[sV (by decide +kernel) (by decide +kernel) (by decide +kernel)] at s;simp only[bp,spT,cL];exact s
 | .leave,lp,x,h,hw,hc=>by
   simp only[cf] at h;rw[cL] at hw;have e1:=hw.d (i:=0) rfl;have s:=fM (n:="") (vs:=[]) (i:=0) e1 (λz=>SQ z (by decide +kernel)) (za (hc.lp h)) hc.o;rw[wB (by decide +kernel) (by decide +kernel) (by decide +kernel)] at s;simp only[bp,spT,cL];exact s
 | .back,lp,x,h,hw,hc=>by
   rw[cL] at hw;have e1:=hw.d (i:=0) rfl;have s:=fM (n:="") (vs:=[]) (i:=0) e1 (λz=>SQ z (by decide +kernel)) (jO (mJ hc.ne) (by decide +kernel) (by decide +kernel)) hc.o;rw[wB (by decide +kernel) (by decide +kernel) (by decide +kernel)] at s;simp only[bp,spT,cL];exact s
 | .Ta y A,lp,x,h,hw,hc=>by
   simp only[cf] at h;rw[cL,Nl] at hw;obtain⟨w1,w2⟩:=hw.app;obtain⟨w2,w3⟩:=w2.app;have e1:=w1.d (i:=0) rfl;have e2:=w1.d (i:=1) rfl;have s1:=fM (n:=y) (vs:=[]) (i:=0) e1 (λ_=>⟨e2.1,e2.2,h.1⟩) (jO (mJ hc.ne) (by decide +kernel) (by decide +kernel)) hc.o;rw[qx (by decide +kernel) (by decide +kernel) (by decide +kernel)] at s1;have s2:=tZ (lo:=lo) (m:=m) hn hm VW A true ⟨x.S++[(⟨"while",y,x.w,uF x⟩:aH)],x.O++[(x.S.length:Int)],x.w+2⟩ h.2 w2 (hc.inner _ _ λ_=>.inr rfl);have hu:uF ⟨x.S++[(⟨"while",y,x.w,uF x⟩:aH)],x.O++[(x.S.length:Int)],x.w+2⟩=(x.S.length:Int):=by unfold uF;simp
   rw[hu] at s2;have e3:=w3.d (i:=0) rfl;have s3:=fM (ws:=ws) (x:=⟨x.S++[(⟨"while",y,x.w,uF x⟩:aH)]++bQ SX ((x.S++[(⟨"while",y,x.w,uF x⟩:aH)]).length:Int) ((x.w+2:Nat):Int) (x.S.length:Int) A,x.O++[(x.S.length:Int)],x.w+2+(Td SX A).length⟩) (n:="") (vs:=[]) (i:=0) e3 (λz=>SQ z (by decide +kernel)) (p7 (by rw[oI];show("while":Str)≠"if";decide +kernel)) (ox hc.o _);rw[mR] at s3;have s:=(s1.trans s2).trans s3;simp only[bp,spT,cL];rw[show 1+S4 A+1=2+S4 A by omega] at s;refine s.cast ?_;simp only[M9,Nf,Nr,Nl];push_cast;simp only[eU.mk.injEq];refine⟨?_,trivial,?_⟩
   ·rw[show(x.w:Int)+1+1=(x.w:Int)+2 by omega]
   ·omega
 | .ifs y A B,lp,x,h,hw,hc=>by
   simp only[cf] at h;rw[cL,Nl,Nl] at hw;obtain⟨w1,w2⟩:=hw.app;obtain⟨w2,w3⟩:=w2.app;obtain⟨w3,w4⟩:=w3.app;obtain⟨w4,w5⟩:=w4.app;have e1:=w1.d (i:=0) rfl;have e2:=w1.d (i:=1) rfl;have s1:=fM (n:=y) (vs:=[]) (i:=0) e1 (λ_=>⟨e2.1,e2.2,h.1⟩) (jO (mJ hc.ne) (by decide +kernel) (by decide +kernel)) hc.o;rw[qx (by decide +kernel) (by decide +kernel) (by decide +kernel)] at s1;generalize Xv:(⟨"if",y,x.w,uF x⟩:aH)=s0 at s1;have k0:s0.kind="if":=by rw[← Xv]
   have s2:=tZ (lo:=lo) (m:=m) hn hm VW A lp ⟨x.S++[s0],x.O++[(x.S.length:Int)],x.w+2⟩ h.2.1 w2 (hc.inner _ _ λz=>.inl z);have hu:uF ⟨x.S++[s0],x.O++[(x.S.length:Int)],x.w+2⟩=(x.S.length:Int):=by unfold uF;simp
   rw[hu] at s2;have e3:=w3.d (i:=0) rfl;generalize WQ:bQ SX ((x.S++[s0]).length:Int) ((x.w+2:Nat):Int) (x.S.length:Int) A=SA at s2;have lSA:SA.length=S4 A:=by rw[← WQ,bV]
   have s3:=fM (ws:=ws) (x:=(⟨x.S++[s0]++SA,x.O++[(x.S.length:Int)],x.w+2+(Td SX A).length⟩:eU)) (n:="") (vs:=[]) (i:=0) e3 (λz=>SQ z (by decide +kernel)) (As (by rw[oI,k0])) (ox hc.o _);rw[C6] at s3;have c3:=(hc.more (s0::SA) (x.w+2+(Td SX A).length)).inner (⟨"else","",((x.w+2+(Td SX A).length:Nat):Int),(x.S.length:Int)⟩:aH) (x.w+2+(Td SX A).length+1) (lp':=lp) λz=>.inl z;have el:x.S++s0::SA=x.S++[s0]++SA:=by simp
   dsimp only at c3;rw[el] at c3;generalize V9:(⟨"else","",((x.w+2+(Td SX A).length:Nat):Int),(x.S.length:Int)⟩:aH)=s1' at s3 c3;have k1:s1'.kind≠"if":=by rw[← V9];show("else":Str)≠"if";decide +kernel
   have s4:=tZ (lo:=lo) (m:=m) hn hm VW B lp _ h.2.2 w4 c3;have hu2:uF ⟨x.S++[s0]++SA++[s1'],x.O++[((x.S++[s0]++SA).length:Int)],x.w+2+(Td SX A).length+1⟩=((x.S++[s0]++SA).length:Int):=by unfold uF;simp
   rw[hu2] at s4;have e5:=w5.d (i:=0) rfl;dsimp only at s4;generalize hSB:bQ SX ((x.S++[s0]++SA++[s1']).length:Int) ((x.w+2+(Td SX A).length+1:Nat):Int) ((x.S++[s0]++SA).length:Int) B=SB at s4;have s5:=fM (ws:=ws) (x:=(⟨x.S++[s0]++SA++[s1']++SB,x.O++[((x.S++[s0]++SA).length:Int)],x.w+2+(Td SX A).length+1+(Td SX B).length⟩:eU)) (n:="") (vs:=[]) (i:=0) e5 (λz=>SQ z (by decide +kernel)) (p7 (by rw[oI];exact k1)) (ox (by
    intro o ho;have:=(hc.more (s0::SA) 0).o o ho;dsimp only at this;rw[el] at this;exact this) _)
   rw[mR] at s5;have s:=(((s1.trans s2).trans s3).trans s4).trans s5;simp only[bp,spT,cL];rw[show 1+S4 A+1+S4 B+1=3+S4 A+S4 B by omega] at s;refine s.cast ?_;subst Xv V9;simp only[M9,Nf,Nr,Nl,lSA] at WQ hSB ⊢;rw[← WQ,← hSB];push_cast;simp only[eU.mk.injEq];refine⟨?_,trivial,?_⟩
   ·rw[show(x.w:Int)+1+1=(x.w:Int)+2 by omega,show(x.w:Int)+2+((Td SX A).length:Int)+1=(x.w:Int)+3+((Td SX A).length:Int) by omega,show(x.S.length:Int)+(1+((S4 A:Int)+1))=(x.S.length:Int)+2+(S4 A:Int) by omega,show(x.S.length:Int)+(1+(S4 A:Int))=(x.S.length:Int)+1+(S4 A:Int) by omega]
   ·omega
theorem tZ {ws SX:ME}{lo m:Int}(hn:∀x∈SX,cI x)(hm:m<=(SX.length:Int))(VW:0<=lo):∀(ts:List Th)(lp:Bool)(x:eU),bG lo m lp ts->pA ws x.w (Td SX ts)->Ctx x lp->
 gw ws (S4 ts) x ⟨x.S++bQ SX (x.S.length:Int) (x.w:Int) (uF x) ts,x.O,x.w+(Td SX ts).length⟩
 | [],lp,x,h,hw,hc=>by
   simp only[S4,bQ,Td];refine gw.refl.cast ?_;simp
 | t::ts,lp,x,h,hw,hc=>by
   simp only[bG] at h;rw[Td] at hw;obtain⟨w1,w2⟩:=hw.app;have s1:=Mf hn hm VW t lp x h.1 w1 hc;have s2:=tZ hn hm VW ts lp ⟨x.S++spT SX (x.S.length:Int) (x.w:Int) (uF x) t,x.O,x.w+(cL SX t).length⟩ h.2.2 w2 (hc.more _ _);have s:=s1.trans s2;simp only[S4,bQ,Td];refine s.cast ?_;simp only[M9,jx,Nl];push_cast;simp only[eU.mk.injEq];refine⟨trivial,trivial,?_⟩;omega
end
end
def gW (SX:ME)(a w:Int):List (Str×List Th)->List aH
 | []=>[]
 | z::r=>[⟨"part",z.1,w, -1⟩]++(bQ SX (a+1) (w+2) a z.2++([⟨"end","",w+2+(Td SX z.2).length,a⟩]++gW SX (a+2+S4 z.2) (w+3+(Td SX z.2).length) r))
def cV:List (Str×List Th)->Nat
 | []=>0
 | z::r=>2+S4 z.2+cV r
theorem v9 {SX:ME}:∀(zs:List (Str×List Th))(a w:Int),(gW SX a w zs).length=cV zs
 | [],_,_=>rfl
 | z::r,a,w=>by
   rw[gW,cV];simp only[M9,bV,v9 r,Nf,Nr];omega
theorem IW {ws SX:ME}{m:Int}(hn:∀x∈SX,cI x)(hm:m<=(SX.length:Int)):∀(zs:List (Str×List Th))(x:eU),(∀z∈zs,cI z.1/\∃lo,0<=lo/\bG lo m false z.2)->pA ws x.w (zs.flatMap (fg SX))->x.O=[]->
 gw ws (cV zs) x ⟨x.S++gW SX (x.S.length:Int) (x.w:Int) zs,[],x.w+(zs.flatMap (fg SX)).length⟩
 | [],x,h,hw,hc=>by
   refine gw.refl.cast ?_;simp[gW,← hc]
 | z::r,x,h,hw,hc=>by
   obtain⟨S,O,w⟩:=x;obtain rfl:O=[]:=hc;obtain⟨hz,lo,VW,S8⟩:=h z Nb;rw[N2] at hw;obtain⟨hw,hwr⟩:=hw.app;rw[show fg SX z=S2 "part" z.1++(Td SX z.2++S1 "end") by unfold fg;rw[Nl]] at hw;obtain⟨w1,w2⟩:=hw.app;obtain⟨w2,w3⟩:=w2.app;dsimp only at w1 w2 w3 hwr ⊢;have e1:=w1.d (i:=0) rfl;have e2:=w1.d (i:=1) rfl;have s1:=fM (x:=(⟨S,[],w⟩:eU)) (n:=z.1) (vs:=[]) (i:=0) e1 (λ_=>⟨e2.1,e2.2,hz⟩) (show fu "part" []=true by decide +kernel) (λo ho=>by cases ho);rw[qx (by decide +kernel) (by decide +kernel) (by decide +kernel)] at s1;dsimp only at s1;rw[show uF ⟨S,[],w⟩= -1 from rfl] at s1;generalize Xv:(⟨"part",z.1,(w:Int), -1⟩:aH)=s0 at s1;have k0:s0.kind="part":=by rw[← Xv]
   have c1:Ctx ⟨S++[s0],[]++[(S.length:Int)],w+2⟩ false:=⟨by simp,λo ho=>by
    have e:o=(S.length:Int):=by simpa using ho
    show _/\o<((S++[s0]).length:Int);rw[M9,NG,e];omega,λe=>by cases e⟩
   have s2:=tZ (lo:=lo) (m:=m) hn hm VW z.2 false _ S8 w2 c1;rw[show uF ⟨S++[s0],[]++[(S.length:Int)],w+2⟩=(S.length:Int) from rfl] at s2;dsimp only at s2;generalize WQ:bQ SX ((S++[s0]).length:Int) ((w+2:Nat):Int) (S.length:Int) z.2=SA at s2;have lSA:SA.length=S4 z.2:=by rw[← WQ,bV]
   have e3:=w3.d (i:=0) rfl;have s3:=fM (ws:=ws) (x:=(⟨S++[s0]++SA,[]++[(S.length:Int)],w+2+(Td SX z.2).length⟩:eU)) (n:="") (vs:=[]) (i:=0) e3 (λz=>SQ z (by decide +kernel)) (p7 (by rw[oI,k0];decide +kernel)) (ox (λo ho=>by cases ho) _);rw[mR] at s3;have s4:=IW hn hm r ⟨S++[s0]++SA++[⟨"end","",((w+2+(Td SX z.2).length:Nat):Int),(S.length:Int)⟩],[],w+2+(Td SX z.2).length+1⟩ (λy hy=>h y (M7 _ hy)) (by
    have e:w+2+(Td SX z.2).length+1=w+(fg SX z).length:=by unfold fg;simp only[M9,Nf,Nr];omega
    dsimp only;rw[e];exact hwr) rfl
   have s:=((s1.trans s2).trans s3).trans s4;rw[cV,show 2+S4 z.2+cV r=1+S4 z.2+1+cV r by omega];refine s.cast ?_;subst Xv;dsimp only;rw[gW,N2];have lp:(fg SX z).length=3+(Td SX z.2).length:=by unfold fg;simp only[M9,Nf,Nr];omega
   simp only[M9,Nf,Nr,Nl,lSA,lp] at WQ ⊢;rw[← WQ];push_cast;simp only[eU.mk.injEq];refine⟨?_,trivial,?_⟩
   ·rw[show(w:Int)+1+1=(w:Int)+2 by omega,show(w:Int)+2+((Td SX z.2).length:Int)+1=(w:Int)+3+((Td SX z.2).length:Int) by omega,show(S.length:Int)+(1+((S4 z.2:Int)+1))=(S.length:Int)+2+(S4 z.2:Int) by omega]
   ·omega
abbrev aD (SX:ME)(Ls:List (List Th)):List aH:=gW SX 0 0 (SX.zip Ls)
theorem qO {SX:ME}{Ls:List (List Th)}(h:cS SX Ls):gw (ji SX Ls) (cV (SX.zip Ls)) ⟨[],[],0⟩ ⟨aD SX Ls,[],(ji SX Ls).length⟩:=by
 have:=IW (ws:=ji SX Ls) (SX:=SX) (m:=(Ls.length:Int)) h.nm (by rw[h.l];omega) (SX.zip Ls) ⟨[],[],0⟩ (λz hz=>by
  obtain⟨i,hi⟩:=Nq.mp hz;obtain⟨h1,h2⟩:=g7 hi;exact⟨h.nm z.1 (Ng h1),(i:Int),by omega,h.ok i z.2 h2⟩) (λi v hv=>by
   show(ji SX Ls)[0+i]?=some v;rw[Pa];exact hv) rfl
 refine this.cast ?_;simp[aD,ji]
structure kx (K:Sk)(mg:MA):Prop where
 most:∃t,mg "MOST_LETTERS"=some (.int 8 t)
 nost:∃t,mg "NO_STEP"=some (.int (-1) t)
 named:qC K mg "NAMED" named
 Tp:qC K mg "SENTENCES" Tp
 TR:qC K mg "OPENING" TR
 S7:qC K mg "CLOSING" S7
abbrev h9:ME:=["kind","name","word","within"]
theorem ja {x:Str}(h:decide (x∈h9)=true):x∈h9:=SU h
def Lh (s:aH):jY:=[("kind",aj.at_ s.kind),("name",aj.at_ s.name),("word",ai.at_ s.word),("within",ai.at_ s.within)]
def bc (C:Addr):Rep aH:=⟨λK R v s=>∃x dx vs,v= .ref x/\R x=some (.ins C dx vs)/\gu (Lh s) K R vs,λs ⟨x,dx,vs,e,h1,h2⟩=>⟨x,dx,vs,e,s _ _ h1,h2.mono s⟩⟩
section
variable {X:Cx}{Γ Γ1:Ga}{C:Addr}{e:Expr}{pos:Pos}{s:aH}
theorem gB (hC:bH X.K C h9)(he:EV X e Γ (bc C) s Γ1)(hb:P6 e "kind" X.env (eval e X.env)=eval e X.env:=by rfl):EV X (.Attribute e "kind" pos) Γ aj s.kind Γ1:=jk hC (ja (by decide)) he (λK R v ⟨x,dx,vs,e,h1,h2⟩=>by obtain⟨u,q1,q2⟩:=h2.get (f:="kind") rfl;exact⟨x,dx,vs,u,e,h1,q1,q2⟩) hb
theorem oM (hC:bH X.K C h9)(he:EV X e Γ (bc C) s Γ1)(hb:P6 e "name" X.env (eval e X.env)=eval e X.env:=by rfl):EV X (.Attribute e "name" pos) Γ aj s.name Γ1:=jk hC (ja (by decide)) he (λK R v ⟨x,dx,vs,e,h1,h2⟩=>by obtain⟨u,q1,q2⟩:=h2.get (f:="name") rfl;exact⟨x,dx,vs,u,e,h1,q1,q2⟩) hb
theorem JN (hC:bH X.K C h9)(he:EV X e Γ (bc C) s Γ1)(hb:P6 e "word" X.env (eval e X.env)=eval e X.env:=by rfl):EV X (.Attribute e "word" pos) Γ ai s.word Γ1:=jk hC (ja (by decide)) he (λK R v ⟨x,dx,vs,e,h1,h2⟩=>by obtain⟨u,q1,q2⟩:=h2.get (f:="word") rfl;exact⟨x,dx,vs,u,e,h1,q1,q2⟩) hb
theorem pF (hC:bH X.K C h9)(he:EV X e Γ (bc C) s Γ1)(hb:P6 e "within" X.env (eval e X.env)=eval e X.env:=by rfl):EV X (.Attribute e "within" pos) Γ ai s.within Γ1:=jk hC (ja (by decide)) he (λK R v ⟨x,dx,vs,e,h1,h2⟩=>by obtain⟨u,q1,q2⟩:=h2.get (f:="within") rfl;exact⟨x,dx,vs,u,e,h1,q1,q2⟩) hb
end
section
abbrev qS:Stmt:=match top D1 with
 | .ClassDef _ _ _ b _ _ _ _ _ _ _=>b.getD 0 (.Pass ⟨0,0,0,0⟩)
 | s=>s
abbrev sq:ME:=["self","kind","name","word","within"]
theorem Iv:aN sq sq (ao qS):=TQ
def KS (C0:Addr):xN:=λK C ps Pd=>C=C0/\∃s:aH,ps=[⟨aj,s.kind⟩,⟨aj,s.name⟩,⟨ai,s.word⟩,⟨ai,s.within⟩]/\Pd=λfs=>fs=Lh s
theorem Jv {C0:Addr}(HC:bH K C0 h9)(F:dQ K "__init__" "Step.__init__" qS f fd):d6 P w K mg base d8 1 f fd sq (vi (KS C0) K):=by
 have nd:=Iv.nd;refine z7 F Iv (λC qs Pd ⟨_,m,e,_⟩=>by rw[e];rfl) (λS6 A outer st H E C x dx qs Pd hr hS=>?_);obtain⟨rfl,s,rfl,rfl⟩:=hS;change WS _ _ [.ob ((gL C).bx [x,dx] []),.im aj s.kind,.im aj s.name,ax s.word,ax s.within] _ _;refine ah (g9 0 HC (ja (by decide)) (aa 1 rfl) rfl rfl (by show 0<1000;decide) ?_);refine ah (g9 0 HC (ja (by decide)) (aa 2 rfl) rfl rfl (by show 1<1000;decide) ?_);refine ah (g9 0 HC (ja (by decide)) (aa 3 rfl) rfl rfl (by show 2<1000;decide) ?_);exact ak (g9 0 HC (ja (by decide)) (aa 4 rfl) rfl rfl (by show 3<1000;decide) ⟨_,rfl,rfl⟩)
abbrev Cc:Stmt:=top xh
theorem FR:aN ["word"] ["word"] (ao Cc):=TQ
def Lx:dI:=λK ps T=>∃x:Str,ps=[⟨aj,x⟩]/\cI x/\T=dq K cN (· =true)
theorem HK {x:Str}(h:cI x){c:Str}(hc:c∈gJ x):∃n,c=⟨#[n]⟩/\97<=n/\n<=122:=by
 unfold gJ at hc;obtain⟨i,hi,rfl⟩:=Nx.mp hc;have hi:i<x.cps.size:=by simpa using hi
 refine⟨x.cps.getD i 0,rfl,h.az _ ?_⟩;rw[Array.getD_eq_getD_getElem?];simp[hi]
theorem Kl {n:Nat}(h:97<=n/\n<=122):(!decide ((⟨#[n]⟩:Str).cps.toList<("a":Str).cps.toList))=true/\(!decide (("z":Str).cps.toList<(⟨#[n]⟩:Str).cps.toList))=true:=by
 have ea:("a":Str).cps.toList=[97]:=by decide +kernel
 have ez:("z":Str).cps.toList=[122]:=by decide +kernel
 rw[ea,ez];have e1:¬([n]:List Nat) < [97]:=by intro z;cases z with
  | rel h1=>omega
  | cons h1=>cases h1
 have e2:¬([122]:List Nat) < [n]:=by intro z;cases z with
  | rel h1=>omega
  | cons h1=>cases h1
 exact⟨by rw[show(⟨#[n]⟩:Str).cps.toList=[n] from rfl,SW e1];rfl,by rw[show(⟨#[n]⟩:Str).cps.toList=[n] from rfl,SW e2];rfl⟩
theorem JU (M:cP K mg)(M2:kx K mg)(Df:Def K mg "is_name" Cc ["word"]):aM P w K mg base "is_name" 1 (a9 Lx K):=by
 have nd:=FR.nd;have Vj:NI [("sign":Str)]:=by decide
 refine bR Df FR (λf S6 A outer s H E qs T hr hS=>?_);obtain⟨x,rfl,hx,rfl⟩:=hS;obtain⟨t,hmo⟩:=M2.most;change WS _ _ [.im aj x] _ _;have hl:x.cps.size<=PZ:=O2 hx.l8 (by decide);have hasc:x.cps.all (· < 128)=true:=by
  rw[Array.all_eq_true];intro i hi;have:=hx.az x.cps[i] (by simp);exact decide_eq_true (by omega)
 have l1:=hx.l1;have l8:=hx.l8;refine ak (bb (oC (uL Ha Ha ev_int (DE M.len (aa 0 rfl) hl) (kL hmo)) (λ_=>uR (G8 M.all (bg.im (c7 (own:=["sign"]) (fr:=[]) (ix:=[]) (ra:=aj) (rb:=cN) (p:=λ_=>true) (f:=λ_=>true) (cY (so:=ao Cc) (N0:=["word"]) rfl rfl (λx h=>cj h) (by decide +kernel)) (z5 (aa 0 rfl) hasc hl)
  (λC s H ex=>bt 0) (λx=>⟨.inr rfl,trivial⟩) (λC s H ex c hc=>hZ) (λC s H ex c hc _=>?_)))))) ?_)
 ·obtain⟨n,rfl,hn⟩:=HK hx hc;obtain⟨q1,q2⟩:=Kl hn;exact EV.cast (uL Cm Cm ar (aa 0 rfl) ar) (by rw[q1,q2];rfl)
 ·have e1:decide ((1:Int)<=(x.length:Int))=true:=decide_eq_true (by omega);have e2:decide ((x.length:Int)<=8)=true:=decide_eq_true (by omega);rw[e1,e2];simp
abbrev FQ:Stmt:=top qh
theorem FX:aN ["words","word"] ["words","word"] (ao FQ):=TQ
def K5:dI:=λK ps T=>∃(ws:ME)(i:Nat),ps=[⟨ae aj,ws⟩,⟨ai,(i:Int)⟩]/\i+1<ws.length/\cI (ws.getD (i+1) "")/\T=dq K aj (· =ws.getD (i+1) "")
theorem JL (M:cP K mg)(CI:aM P w K mg base "is_name" 1 (a9 Lx K))(Df:Def K mg "name_behind" FQ ["words","word"]):aM P w K mg base "name_behind" 2 (a9 K5 K):=by
 have nd:=FX.nd;refine bR Df FX (λf S6 A outer s H E qs T hr hS=>?_);obtain⟨ws,i,rfl,hi,hn,rfl⟩:=hS;change WS _ _ [.im (ae aj) ws,ax (i:Int)] _ _;have Uq:cM ws ((i:Int)+1)=some (ws.getD (i+1) ""):=bB (xs:=ws) (i:=((i:Int)+1)) "" (by omega) (by omega);refine ah (aL (TW.tv (ki (au jR (bZ (aa 1 rfl) ev_int) (fX M.len (aa 0 rfl))) (λ_=>jZ (iY (cq (aP CI hr (aq (aB (aa 0 rfl) (bZ (aa 1 rfl) ev_int) Uq) aJ) ⟨_,rfl,hn,rfl⟩)))))) (λh=>?_) (λh=>aA ?_))
 ·rw[SW (show¬(i:Int)+1=(ws.length:Int) by omega)] at h;cases h
 ·exact ak (bb (aB (aa 0 rfl) (bZ (aa 1 rfl) ev_int) Uq) rfl)
abbrev GV:Stmt:=top uK
theorem Hz:aN ["kind","opened"] ["kind","opened"] (ao GV):=TQ
def K8:dI:=λK ps T=>∃(k:Str)(ks:ME),ps=[⟨aj,k⟩,⟨ae aj,ks⟩]/\T=dq K cN (· =fu k ks)
theorem vN {ks:ME}(h:ks≠[]):cM ks (-1)=some (ks.getLast?.getD ""):=by
 obtain⟨l,x,rfl⟩:∃l x,ks=l++[x]:=⟨ks.dropLast,ks.getLast h,(Of h).symm⟩;unfold cM;rw[show gT (l++[x]).length (-1)=some l.length by unfold gT;simp;omega];simp
theorem Jk (M2:kx K mg)(Df:Def K mg "may_stand" GV ["kind","opened"]):aM P w K mg base "may_stand" 1 (a9 K8 K):=by
 have nd:=Hz.nd;refine bR Df Hz (λf S6 A outer s H E qs T hr hS=>?_);obtain⟨k,ks,rfl,rfl⟩:=hS;change WS _ _ [.im aj k,.im (ae aj) ks] _ _;refine ah (aL (iY (uP (aa 1 rfl))) (λh=>?_) (λh=>aA ?_))
 ·have h:ks.isEmpty=true:=by simpa using h
  exact ak (bb (i7 aT (aa 0 rfl) ar) (by unfold fu;rw[SS h]))
 have h0:¬ks.isEmpty=true:=by simpa using h
 have T9:ks≠[]:=λz=>h0 (by rw[z];rfl);refine ah (aL (au aT (aa 0 rfl) ar) (λh=>?_) (λh=>aA ?_))
 ·have h:k="leave":=SU h;exact ak (bb (i7 rY ar (aa 1 rfl)) (by unfold fu;rw[SR h0,SS h]))
 have h1:¬k="leave":=SV h;refine ah (aL (au aT (aa 0 rfl) ar) (λh=>?_) (λh=>aA ?_))
 ·have h:k="else":=SU h;exact ak (bb (i7 aT (aB (aa 1 rfl) (cG ev_int) (vN T9)) ar) (by unfold fu;rw[SR h0,SR h1,SS h]))
 have h2:¬k="else":=SV h;refine ah (aL (au aT (aa 0 rfl) ar) (λh=>?_) (λh=>aA ?_))
 ·have h:k="end":=SU h;exact ak (bb (i7 fJ (aB (aa 1 rfl) (cG ev_int) (vN T9)) ar) (by unfold fu;rw[SR h0,SR h1,SR h2,SS h]))
 have h3:¬k="end":=SV h;exact ak (bb (i7 kg (aa 0 rfl) (gF M2.Tp)) (by unfold fu;rw[SR h0,SR h1,SR h2,SR h3]))
end
theorem sL (ws:ME):∀i,(Tt (jf ws) i ⟨[],[],0⟩).S.length=i/\i<=(Tt (jf ws) i ⟨[],[],0⟩).w/\(Tt (jf ws) i ⟨[],[],0⟩).O.length<=i
 | 0=>⟨rfl,O0 _,O0 _⟩
 | i+1=>by
   obtain⟨a,b,c⟩:=sL ws i;rw[Tt];generalize Tt (jf ws) i ⟨[],[],0⟩=x at a b c;unfold jf UA;refine⟨by rw[M9,a];rfl,?_,?_⟩
   ·dsimp only;split<;>omega
   ·rw[M9];have h1:(if vW ws x∈S7 then x.O.dropLast else x.O).length<=x.O.length:=by
     split
     ·rw[OP];omega
     ·exact O0 _
    have h2:(if vW ws x∈TR then[(x.S.length:Int)] else[]).length<=1:=by split<;>simp
    omega
theorem AB {O:MC}(h:O≠[]):cM O (-1)=some (O.getLast?.getD (-1)):=by
 obtain⟨l,x,rfl⟩:∃l x,O=l++[x]:=⟨O.dropLast,O.getLast h,(Of h).symm⟩;unfold cM;rw[show gT (l++[x]).length (-1)=some l.length by unfold gT;simp;omega];simp
theorem Ab {O:MC}(h:O≠[]):O[O.length-1]?=some (O.getLast?.getD (-1)):=by
 obtain⟨l,x,rfl⟩:∃l x,O=l++[x]:=⟨O.dropLast,O.getLast h,(Of h).symm⟩;simp
section
structure wW (P:P2)(w:World)(K:Sk)(mg:MA)(base:Heap)(C:Addr):Prop where
 cl:bH K C h9
 ex:∃fi U6,Mk K C fi/\d6 P w K mg base d8 1 fi U6 sq (vi (KS C) K)/\Binds K U6 sq []
 mg:mg "Step"=some (.ref C)
theorem DV {X:Cx}{Γ Γ1:Ga}{C:Addr}{e:Expr}{es:MI}{p pos:Pos}{s:aH}(G:wW X.prog X.w X.K X.mg X.base C)(hr:bI 2 X.A)(ha:HA X (e::es) Γ [⟨aj,s.kind⟩,⟨aj,s.name⟩,⟨ai,s.word⟩,⟨ai,s.within⟩] Γ1)(hg:Gl X "Step":=by rfl)(he:PU (e::es) X.env=(false,eval e X.env)::PU es X.env:=by rfl)(To:(P8 pos (PU es X.env)).any (·.1)=false:=by rfl):EV X (.Call (.Name "Step" p) (e::es) [] pos) Γ (bc C) s Γ1:=by
 obtain⟨fi,U6,MK,SI,bi⟩:=G.ex;exact vG MK SI hr G.mg bi ha ⟨rfl,s,rfl,rfl⟩ (λfs R x dx vs hP h1 h2=>by subst hP;exact⟨x,dx,vs,rfl,h2,h1⟩) hg (by decide) he To
abbrev Cg:Stmt:=top Du
abbrev KL:ME:=["text","words","steps","opened","word","kind","name"]
theorem Gi:aN KL ["text"] (ao Cg):=TQ
def Lf (C:Addr):dI:=λK ps T=>∃(ws:ME)(n:Nat)(S:List aH),ps=[⟨aj,R9 " " ws⟩]/\ws≠[]/\ws.length<=240/\(∀w∈ws,gc w)/\gw ws n ⟨[],[],0⟩ ⟨S,[],ws.length⟩/\T=dq K (ae (bc C)) (· =S)
theorem Al {ws:ME}(h:∀w∈ws,gc w)(hl:ws.length<=240):(R9 " " ws).length<=PZ:=by
 have:=joinOk_length (vv hl h);rwa [vE] at this
theorem JJ {C:Addr}(M:cP K mg)(M2:kx K mg)(G:wW P w K mg base C)(CM:aM P w K mg base "may_stand" 1 (a9 K8 K))(CN:aM P w K mg base "name_behind" 2 (a9 K5 K))(Df:Def K mg "read" Cg ["text"]):aM P w K mg base "read" 3 (a9 (Lf C) K):=by
 have nd:=Gi.nd;have Vj:NI [("number":Str),"steps"]:=by decide
 have CM:=CM.mono (show 1<=2 by decide);refine bR (k:=2) Df Gi (λf S6 A outer s H E qs T hr hS=>?_);obtain⟨ws,n,S,rfl,T9,hl,hw,WB,rfl⟩:=hS;obtain⟨t,WI⟩:=M2.nost;have Vg:Sb (R9 " " ws) " "=ws:=by
  rw[Br];exact xc T9 λw h=>(hw w h).f
 change WS _ _ [.im aj (R9 " " ws),.no,.no,.no,.no,.no,.no] _ _;generalize hj:R9 " " ws=txt at Vg;have htl:txt.length<=PZ:=by rw[← hj];exact Al hw hl
 refine ah (bE 1 (y:=ws) (EV.cast (bg.im (yH (aa 0 rfl) ar (by decide +kernel) htl (by rw[Vg];exact aX (by omega)))) Vg) ?_);refine ah (cO 2 (r:=bc C) (ys:=[]) (aV aQ (O3 _)) ?_);refine ah (cO 3 (r:=ai) (ys:=[]) (aV aQ (O3 _)) ?_);refine ah (bE 4 (y:=(0:Int)) ev_int ?_);change WS _ _ [.im aj txt,.im (ae aj) ws,.mu (bc C) [],.mu ai [],ax 0,.no,.no] _ _;have hinv:=sL ws;have T2:∀i,Tt (jf ws) (i+1) ⟨[],[],0⟩=jf ws (Tt (jf ws) i ⟨[],[],0⟩):=λi=>rfl;have h0:Tt (jf ws) 0 ⟨[],[],0⟩=⟨[],[],0⟩:=rfl;obtain⟨Uk,hrd⟩:=WB;generalize hx:(λi=>Tt (jf ws) i ⟨[],[],0⟩)=x at *;have hxi:∀i,Tt (jf ws) i ⟨[],[],0⟩=x i:=λi=>by rw[← hx]
 simp only[hxi] at hinv T2 h0 Uk hrd;refine bL (N1:=λΓ=>∃e5 e6,Γ=[.im aj txt,.im (ae aj) ws,.mu (bc C) S,.mu ai [],ax (ws.length:Int),e5,e6]) (qf (λk Γ=>∃i,k+i=n/\∃e5 e6,Γ=[.im aj txt,.im (ae aj) ws,.mu (bc C) (x i).S,.mu ai (x i).O,ax ((x i).w:Int),e5,e6]) (m0:=n) ⟨0,rfl,_,_,by rw[h0];rfl⟩ (λk Γ hI=>?_)) ?_
 ·obtain⟨i,hki,e5,e6,rfl⟩:=hI;obtain⟨iS,iw,iO⟩:=hinv i;refine⟨decide (((x i).w:Int)<(ws.length:Int)),_,au mv (aa 4 rfl) (fX M.len (aa 1 rfl)),λh=>?_,λh=>?_⟩
  ·have h:((x i).w:Int)<(ws.length:Int):=SU h;have UO:i<n:=by
    rcases O9 i n with z | z
    ·exact z
    ·exfalso;have:i=n:=by omega
     rw[this,Uk] at h;exact SQ h (Int.lt_irrefl _)
   obtain⟨rw_,UZ,Xg,ro⟩:=hrd i UO;have hs:=T2 i;generalize x i=y at iS iw iO rw_ UZ Xg ro hs h;obtain⟨Sy,Oy,wy⟩:=y;dsimp only at iS iw iO rw_ UZ Xg ro h ⊢;have Uq:cM ws (wy:Int)=some (ws.getD wy ""):=bB (xs:=ws) (i:=(wy:Int)) "" (by omega) h;refine ah (bE 5 (y:=ws.getD wy "") (aB (aa 1 rfl) (aa 4 rfl) Uq) ?_);rw[show jf ws ⟨Sy,Oy,wy⟩=UA (ws.getD wy "") (ws.getD (wy+1) "") ⟨Sy,Oy,wy⟩ from rfl] at hs;change fu (ws.getD wy "") (Oy.map (aU Sy))=true at UZ;change ws.getD wy ""∈named->wy+1<ws.length/\cI (ws.getD (wy+1) "") at Xg;generalize hkd:ws.getD wy ""=kd at UZ Xg hs;change WS _ _ [.im aj txt,.im (ae aj) ws,.mu (bc C) Sy,.mu ai Oy,ax (wy:Int),.im aj kd,e6] _ _;have cc:(Oy.filter λ_=>true).map (aU Sy)=Oy.map (aU Sy):=by rw[Ot.mpr λ_ _=>rfl]
   refine ah (aL (TV.Ul (Et (i:=2) (j:=3) (by decide) rfl rfl (aX (by omega)) (aX (by omega))) (iY (cq (aP CM hr (aq (aa 5 rfl) (aq (bg.im (c7 (own:=["number"]) (fr:=["steps"]) (ix:=[2]) (ra:=ai) (rb:=aj) (p:=λ_=>true) (f:=aU Sy) (cY (so:=ao Cg) (N0:=KL) rfl rfl (λx h=>cj h) (by decide +kernel)) (cu (aa 3 rfl))
    (λC s H ex=>bt 0) (λx=>⟨.inr rfl,.inl rfl,trivial⟩) (λC s H ex c hc=>hZ) (λC' s H ex o ho _=>gB (C:=C) G.cl (aB (aa 1 rfl) (aa 0 rfl) (bB (xs:=Sy) (i:=o) c5 (ro o ho).1 (ro o ho).2))))) aJ)) ⟨kd,Oy.map (aU Sy),by rw[cc],rfl⟩)))) (λhh=>?_) (λ_=>aA ?_))
   ·rw[UZ] at hh;cases hh
   have hnm:kd∈named->wy+1<ws.length/\cI (ws.getD (wy+1) ""):=Xg;refine ah (bE 6 (y:=if kd∈named then ws.getD (wy+1) "" else "") (EV.cast (lF (au kg (aa 5 rfl) (gF M2.named)) (λhh=>aP CN hr (aq (aa 1 rfl) (aq (aa 4 rfl) aJ)) ⟨ws,wy,rfl,(hnm (SU hh)).1,(hnm (SU hh)).2,rfl⟩) (λ_=>ar)) (by by_cases z:kd∈named<;>simp[z])) ?_)
   generalize hnam:(if kd∈named then ws.getD (wy+1) "" else "")=VO;change WS _ _ [.im aj txt,.im (ae aj) ws,.mu (bc C) Sy,.mu ai Oy,ax (wy:Int),.im aj kd,.im aj VO] _ _;have XH:(if(!Oy.isEmpty)=true then Oy.getLast?.getD (-1) else -1)=Oy.getLast?.getD (-1):=by cases Oy<;>rfl
   refine ah (fc 2 (y:=(⟨kd,VO,(wy:Int),Oy.getLast?.getD (-1)⟩:aH)) (DV (s:=⟨kd,VO,(wy:Int),Oy.getLast?.getD (-1)⟩) G hr (aq (aa 5 rfl) (aq (aa 6 rfl) (aq (aa 4 rfl) (aq (EV.cast (lF (uA 3 rfl) (λhh=>ye 3 (cG ev_int) rfl rfl (AB (λz=>by rw[z] at hh;cases hh))) (λ_=>kL WI)) XH) aJ))))) rfl rfl (O6 (show _<=1000 by omega) (by decide)) ?_)
   change WS _ _ [.im aj txt,.im (ae aj) ws,.mu (bc C) (Sy++[⟨kd,VO,(wy:Int),Oy.getLast?.getD (-1)⟩]),.mu ai Oy,ax (wy:Int),.im aj kd,.im aj VO] _ _;have hS':(UA kd (ws.getD (wy+1) "") ⟨Sy,Oy,wy⟩).S=Sy++[⟨kd,VO,(wy:Int),Oy.getLast?.getD (-1)⟩]:=by unfold UA n5;dsimp only;rw[hnam]
   rw[← hS'];have hSl:(UA kd (ws.getD (wy+1) "") ⟨Sy,Oy,wy⟩).S.length=Sy.length+1:=by rw[hS',M9];rfl
   have hOe:(UA kd (ws.getD (wy+1) "") ⟨Sy,Oy,wy⟩).O=(if kd∈S7 then Oy.dropLast else Oy)++(if kd∈TR then[(Sy.length:Int)] else[]):=rfl;have hwe:(UA kd (ws.getD (wy+1) "") ⟨Sy,Oy,wy⟩).w=wy+(if kd∈named then 2 else 1):=rfl;generalize UA kd (ws.getD (wy+1) "") ⟨Sy,Oy,wy⟩=z at hs hS' hSl hOe hwe;refine bL (N1:=λΓ=>Γ=[.im aj txt,.im (ae aj) ws,.mu (bc C) z.S,.mu ai (if kd∈S7 then Oy.dropLast else Oy),ax (wy:Int),.im aj kd,.im aj VO]) (aL (au kg (aa 5 rfl) (gF M2.S7)) (λhh=>?_) (λhh=>aA ?_)) ?_
   ·have hh:kd∈S7:=SU hh;have hOne:Oy≠[]:=λe=>by
     rw[e] at UZ;have:kd="part":=SU UZ;rw[this] at hh;exact SQ hh (by decide +kernel)
    refine ak (jW (zP 3 rfl (Ab hOne)) ?_);rw[SS hh];rfl
   ·have hh:¬kd∈S7:=SV hh;rw[SR hh]
   rintro _ rfl;have hOl:(if kd∈S7 then Oy.dropLast else Oy).length<=Oy.length:=by
    split
    ·rw[OP];omega
    ·exact O0 _
   generalize (if kd∈S7 then Oy.dropLast else Oy)=O1 at hOe hOl;refine bL (N1:=λΓ=>Γ=[.im aj txt,.im (ae aj) ws,.mu (bc C) z.S,.mu ai z.O,ax (wy:Int),.im aj kd,.im aj VO]) (aL (au kg (aa 5 rfl) (gF M2.TR)) (λhh=>?_) (λhh=>aA ?_)) ?_
   ·have hh:kd∈TR:=SU hh;refine ak (fc 3 (EV.cast (y':=(Sy.length:Int)) (iZ (EL 2 M.len rfl) ev_int) (by omega)) rfl rfl (O6 (show _<=1000 by omega) (by decide)) ?_);rw[hOe,SS hh];rfl
   ·have hh:¬kd∈TR:=SV hh;rw[hOe,SR hh,Nw]
   rintro _ rfl;refine ak (IM 4 (c:=if kd∈named then 2 else 1) (EV.cast (lF (au kg (aa 5 rfl) (gF M2.named)) (λ_=>ev_int) (λ_=>ev_int)) (by by_cases z:kd∈named<;>simp[z])) rfl ⟨k-1,by omega,i+1,by omega,.im aj kd,.im aj VO,?_⟩)
   rw[hs,hwe];by_cases q:kd∈named
   ·rw[SS q,SS q];rfl
   ·rw[SR q,SR q];rfl
  ·have h:¬((x i).w:Int)<(ws.length:Int):=SV h;have UO:i=n:=by
    rcases O9 i n with z | z
    ·exact SQ (by have:=(hrd i z).w;omega) h
    ·omega
   subst UO;refine⟨e5,e6,?_⟩;rw[Uk]
 rintro _ ⟨e5,e6,rfl⟩;have hSn:S.length<=240:=by
  obtain⟨a,b,c⟩:=hinv n;rw[Uk] at a b;dsimp only at a b;omega
 refine ah (aL (uA 3 rfl) (λhh=>by cases hh) (λ_=>aA ?_));refine WS.freeze 2 rfl (aX (by omega)) ?_;exact ak (bb (aa 2 rfl) rfl)
end
theorem ru {A:P7}{k:Nat}(hr:bI k A):A.units+1<cLine:=by have:=hr.units;omega
def gg (F:MJ)(z:Int×aH):MJ:=if z.2.kind∈S7 then iC F z.2.within z.1 else F
def dN (S:List aH):MJ:=(nums S).foldl gg []
theorem Bm {F:MJ}{z:Int×aH}:(gg F z).length<=F.length+1:=by
 unfold gg;split
 ·exact Bk _ _ _
 ·omega
theorem IY (S:List aH)(i:Nat):(((nums S).take i).foldl gg []).length<=i:=by
 induction i with
 | zero=>exact O0 _
 | succ i ih=>
   rw[NH,Od];cases e:(nums S)[i]? with
   | none=>exact Nat.le_succ_of_le ih
   | some z=>
     show(gg _ z).length<=_;exact O2 Bm (by omega)
abbrev cy (S:List aH)(o:Int):Int:=(S.getD o.toNat c5).within
def Ar (S:List aH)(n:Int)(kd:Str)(a:Int):Prop:=∃k:Nat,Tt (cy S) k (cy S n)=a/\(∀j,j<=k->0<=Tt (cy S) j (cy S n)/\Tt (cy S) j (cy S n)<(S.length:Int))/\(∀j,j<k->aU S (Tt (cy S) j (cy S n))≠kd)/\aU S a=kd
inductive eD (S:List aH) (F:MJ) (n:Int):MC->Prop
 | row {c:Int} (h:aU S n="if"∨aU S n="while") (hc:bJ F n=some c):eD S F n [n+1,c+1]
 | Wl {c:Int} (h:aU S n="else") (hc:bJ F n=some c):eD S F n [c]
 | V4 {a c:Int} (h:aU S n="leave") (ha:Ar S n "while" a) (hc:bJ F a=some c):eD S F n [c+1]
 | Wn {a c:Int} (h:aU S n="back") (ha:Ar S n "part" a) (hc:bJ F a=some c):eD S F n [c]
 | Wh (h:aU S n="end") (h0:0<=cy S n) (h1:cy S n<(S.length:Int)) (hk:aU S (cy S n)="while"):eD S F n [cy S n]
 | Wi (h:aU S n="end") (h0:0<=cy S n) (h1:cy S n<(S.length:Int)) (hk:aU S (cy S n)="part"):eD S F n []
 | Wj (h:aU S n="end") (h0:0<=cy S n) (h1:cy S n<(S.length:Int)) (hk:aU S (cy S n)="else"):eD S F n [n+1]
 | VC (h:aU S n="part"∨aU S n="do"∨aU S n="call"):eD S F n [n+1]
section
variable {C:Addr}
abbrev G6:Stmt:=top nO
abbrev nCS:ME:=["steps","closing","number","step"]
theorem Hx:aN nCS ["steps"] (ao G6):=TQ
def GL (C:Addr):dI:=λK ps T=>∃S:List aH,ps=[⟨ae (bc C),S⟩]/\S.length<=1000/\T=dq K ij (· =dN S)
theorem Ko (M:cP K mg)(M2:kx K mg)(HC:bH K C h9)(Df:Def K mg "closing_steps" G6 ["steps"]):aM P w K mg base "closing_steps" 1 (a9 (GL C) K):=by
 have nd:=Hx.nd;refine bR Df Hx (λf S6 A outer s H E qs T hr hS=>?_);obtain⟨S,rfl,hl,rfl⟩:=hS;change WS _ _ [.im (ae (bc C)) S,.no,.no,.no] _ _;refine ah (ny 1 ?_);refine bL (N1:=λΓ=>∃e2 e3,Γ=[.im (ae (bc C)) S,.di (bU (dN S)),e2,e3]) (bP (λi Γ=>∃e2 e3,Γ=[.im (ae (bc C)) S,.di (bU (((nums S).take i).foldl gg [])),e2,e3]) (iG M.enumerate (aa 0 rfl)) (eh 2 3) ⟨_,_,rfl⟩ (λi z Γ hz hΓ=>?_) (λΓ hΓ=>?_)) ?_
 ·obtain⟨e2,e3,rfl⟩:=hΓ;obtain⟨n,st⟩:=z;have fl:=IY S i;have il:i<S.length:=by have:=(M1.mp hz).1;rwa [cJ] at this
  have UN:((nums S).take (i+1)).foldl gg []=gg (((nums S).take i).foldl gg []) (n,st):=by rw[NH,hz,Od];rfl
  rw[UN];generalize ((nums S).take i).foldl gg []=Fd at fl;change WS _ _ [.im (ae (bc C)) S,.di (bU Fd),ax n,.im (bc C) st] _ _;refine ak (aL (au kg (gB (C:=C) HC (aa 3 rfl)) (gF M2.S7)) (λh=>?_) (λh=>aA ⟨ax n,.im (bc C) st,?_⟩))
  ·have h:st.kind∈S7:=SU h;refine ak (oR 1 (ru hr) (pF (C:=C) HC (aa 3 rfl)) (aa 2 rfl) rfl (O6 (show _<=1000 by omega) (by decide)) ⟨ax n,.im (bc C) st,?_⟩);unfold gg;rw[SS h];rfl
  ·have h:¬st.kind∈S7:=SV h;unfold gg;rw[SR h]
 ·obtain⟨e2,e3,rfl⟩:=hΓ;refine⟨e2,e3,?_⟩;rw[NN];rfl
 rintro _ ⟨e2,e3,rfl⟩;exact ak (vX 1 rfl rfl)
abbrev G1:Stmt:=top xO
abbrev nAR:ME:=["steps","number","kind","found"]
theorem IJ:aN nAR ["steps","number","kind"] (ao G1):=TQ
def Lc (C:Addr):dI:=λK ps T=>∃(S:List aH)(n a:Int)(kd:Str),ps=[⟨ae (bc C),S⟩,⟨ai,n⟩,⟨aj,kd⟩]/\0<=n/\n<(S.length:Int)/\Ar S n kd a/\T=dq K ai (· =a)
theorem JX (HC:bH K C h9)(Df:Def K mg "around" G1 ["steps","number","kind"]):aM P w K mg base "around" 1 (a9 (Lc C) K):=by
 have nd:=IJ.nd;refine bR Df IJ (λf S6 A outer s H E qs T hr hS=>?_);obtain⟨S,n,a,kd,rfl,n0,n1,⟨k,ha,UO,T9,hk⟩,rfl⟩:=hS;change WS _ _ [.im (ae (bc C)) S,ax n,.im aj kd,.no] _ _;refine ah (bE 3 (y:=cy S n) (pF (C:=C) HC (aB (aa 0 rfl) (aa 1 rfl) (bB (xs:=S) (i:=n) c5 n0 n1))) ?_);refine bL (N1:=λΓ=>Γ=[.im (ae (bc C)) S,ax n,.im aj kd,ax a]) (qf (λm Γ=>∃i,m+i=k/\Γ=[.im (ae (bc C)) S,ax n,.im aj kd,ax (Tt (cy S) i (cy S n))]) (m0:=k) ⟨0,rfl,rfl⟩ (λm Γ hI=>?_)) ?_
 ·obtain⟨i,hi,rfl⟩:=hI;obtain⟨o0,o1⟩:=UO i (by omega);have hs:Tt (cy S) (i+1) (cy S n)=cy S (Tt (cy S) i (cy S n)):=rfl;have XA:=T9 i;have hki:i=k->aU S (Tt (cy S) i (cy S n))=kd/\Tt (cy S) i (cy S n)=a:=λe=>by rw[e,ha];exact⟨hk,rfl⟩
  generalize Tt (cy S) i (cy S n)=o at o0 o1 hs XA hki;refine⟨!decide (aU S o=kd),_,au fJ (gB (C:=C) HC (aB (aa 0 rfl) (aa 3 rfl) (bB (xs:=S) (i:=o) c5 o0 o1))) (aa 2 rfl),λh=>?_,λh=>?_⟩
  ·have h:¬aU S o=kd:=by simpa using h
   have ik:i<k:=by
    rcases O9 i k with z | z
    ·exact z
    ·exact SQ (hki (by omega)).1 h
   exact ak (bE 3 (pF (C:=C) HC (aB (aa 0 rfl) (aa 3 rfl) (bB (xs:=S) (i:=o) c5 o0 o1))) ⟨m-1,by omega,i+1,by omega,by rw[hs];rfl⟩)
  ·have h:aU S o=kd:=by simpa using h
   have ik:i=k:=by
    rcases O9 i k with z | z
    ·exact SQ h (XA z)
    ·omega
   rw[(hki ik).2]
 rintro _ rfl;exact ak (bb (aa 3 rfl) rfl)
abbrev IE:Stmt:=top rq
abbrev nLF:ME:=["steps","closing","number","kind","ended"]
abbrev LA:ME:=["steps","closing","number"]
theorem FW:aN nLF LA (ao IE):=TQ
def LD (C:Addr):dI:=λK ps T=>∃(S:List aH)(F:MJ)(n:Int)(ls:MC),ps=[⟨ae (bc C),S⟩,⟨ij,F⟩,⟨ai,n⟩]/\0<=n/\n<(S.length:Int)/\eD S F n ls/\T=dq K (ae ai) (· =ls)
def vF (S:List aH)(n:Int):Str:=if aU S n="end" then aU S (cy S n) else ""
theorem Kf (HC:bH K C h9)(CA:aM P w K mg base "around" 1 (a9 (Lc C) K))(Df:Def K mg "leads_from" IE LA):aM P w K mg base "leads_from" 2 (a9 (LD C) K):=by
 have nd:=FW.nd;refine bR Df FW (λf S6 A outer s H E qs T hr hS=>?_);obtain⟨S,Fd,n,ls,rfl,n0,n1,hL,rfl⟩:=hS;have hu:=ru hr;have Uq:cM S n=some (S.getD n.toNat c5):=bB (xs:=S) (i:=n) c5 n0 n1;have W6:aU S n="end"->0<=cy S n/\cy S n<(S.length:Int):=λh=>by
  cases hL with
  | row g hc=>rcases g with g | g<;>rw[g] at h<;>exact SQ h (by decide +kernel)
  | Wl g hc=>rw[g] at h;exact SQ h (by decide +kernel)
  | V4 g ha hc=>rw[g] at h;exact SQ h (by decide +kernel)
  | Wn g ha hc=>rw[g] at h;exact SQ h (by decide +kernel)
  | Wh g h0 h1 hk=>exact⟨h0,h1⟩
  | Wi g h0 h1 hk=>exact⟨h0,h1⟩
  | Wj g h0 h1 hk=>exact⟨h0,h1⟩
  | VC g=>rcases g with g | g | g<;>rw[g] at h<;>exact SQ h (by decide +kernel)
 change WS _ _ [.im (ae (bc C)) S,.im ij Fd,ax n,.no,.no] _ _;refine ah (bE 3 (y:=aU S n) (gB (C:=C) HC (aB (aa 0 rfl) (aa 2 rfl) Uq)) ?_);refine ah (bE 4 (y:=vF S n) (EV.cast (lF (x:=aU S (cy S n)) (au aT (aa 3 rfl) ar) (λh=>gB (C:=C) HC (aB (aa 0 rfl) (pF (C:=C) HC (aB (aa 0 rfl) (aa 2 rfl) Uq)) (bB (xs:=S) (i:=cy S n) c5 (W6 (SU h)).1 (W6 (SU h)).2))) (λ_=>ar)) (by unfold vF;by_cases h:aU S n="end"<;>simp[h])) ?_)
 change WS _ _ [.im (ae (bc C)) S,.im ij Fd,ax n,.im aj (aU S n),.im aj (vF S n)] _ _;have en0:aU S n≠"end"->vF S n="":=λh=>SR h;have W8:aU S n="end"->vF S n=aU S (cy S n):=λh=>SS h;generalize hE:vF S n=ed at en0 W8;have one_le:(1:Nat)<=PZ:=by decide
 refine ah (aL (au kg (aa 3 rfl) (vC (xs:=["if","while"]) (av (EV.pS ar) (av (EV.pS ar) aQ)) (by show 2<=PZ;decide))) (λh=>?_) (λh=>aA ?_))
 ·have h:aU S n∈(["if","while"]:ME):=SU h;cases hL with
  | row g hc=>exact ak (bb (bg.im (aV (r:=ai) (av (bZ (aa 2 rfl) ev_int) (av (bZ (mI hu (aa 1 rfl) (aa 2 rfl) hc) ev_int) aQ)) (by show 2<=PZ;decide))) rfl)
  | Wl g hc=>rw[g] at h;exact SQ h (by decide +kernel)
  | V4 g ha hc=>rw[g] at h;exact SQ h (by decide +kernel)
  | Wn g ha hc=>rw[g] at h;exact SQ h (by decide +kernel)
  | Wh g h0 h1 hk=>rw[g] at h;exact SQ h (by decide +kernel)
  | Wi g h0 h1 hk=>rw[g] at h;exact SQ h (by decide +kernel)
  | Wj g h0 h1 hk=>rw[g] at h;exact SQ h (by decide +kernel)
  | VC g=>rcases g with g | g | g<;>rw[g] at h<;>exact SQ h (by decide +kernel)
 have h1:¬aU S n∈(["if","while"]:ME):=SV h;refine ah (aL (au aT (aa 3 rfl) ar) (λh=>?_) (λh=>aA ?_))
 ·have h:aU S n="else":=SU h;cases hL with
  | row g hc=>rcases g with g | g<;>rw[g] at h<;>exact SQ h (by decide +kernel)
  | Wl g hc=>exact ak (bb (bg.im (aV (r:=ai) (av (mI hu (aa 1 rfl) (aa 2 rfl) hc) aQ) one_le)) rfl)
  | V4 g ha hc=>rw[g] at h;exact SQ h (by decide +kernel)
  | Wn g ha hc=>rw[g] at h;exact SQ h (by decide +kernel)
  | Wh g h0 h1 hk=>rw[g] at h;exact SQ h (by decide +kernel)
  | Wi g h0 h1 hk=>rw[g] at h;exact SQ h (by decide +kernel)
  | Wj g h0 h1 hk=>rw[g] at h;exact SQ h (by decide +kernel)
  | VC g=>rcases g with g | g | g<;>rw[g] at h<;>exact SQ h (by decide +kernel)
 have h2:¬aU S n="else":=SV h;refine ah (aL (au aT (aa 3 rfl) ar) (λh=>?_) (λh=>aA ?_))
 ·have h:aU S n="leave":=SU h;cases hL with
  | row g hc=>rcases g with g | g<;>rw[g] at h<;>exact SQ h (by decide +kernel)
  | Wl g hc=>rw[g] at h;exact SQ h (by decide +kernel)
  | V4 g ha hc=>exact ak (bb (bg.im (aV (r:=ai) (av (bZ (mI hu (aa 1 rfl) (aP CA hr (aq (aa 0 rfl) (aq (aa 2 rfl) (aq ar aJ))) ⟨S,n,_,_,rfl,n0,n1,ha,rfl⟩) hc) ev_int) aQ) one_le)) rfl)
  | Wn g ha hc=>rw[g] at h;exact SQ h (by decide +kernel)
  | Wh g h0 h1 hk=>rw[g] at h;exact SQ h (by decide +kernel)
  | Wi g h0 h1 hk=>rw[g] at h;exact SQ h (by decide +kernel)
  | Wj g h0 h1 hk=>rw[g] at h;exact SQ h (by decide +kernel)
  | VC g=>rcases g with g | g | g<;>rw[g] at h<;>exact SQ h (by decide +kernel)
 have h3:¬aU S n="leave":=SV h;refine ah (aL (au aT (aa 3 rfl) ar) (λh=>?_) (λh=>aA ?_))
 ·have h:aU S n="back":=SU h;cases hL with
  | row g hc=>rcases g with g | g<;>rw[g] at h<;>exact SQ h (by decide +kernel)
  | Wl g hc=>rw[g] at h;exact SQ h (by decide +kernel)
  | V4 g ha hc=>rw[g] at h;exact SQ h (by decide +kernel)
  | Wn g ha hc=>exact ak (bb (bg.im (aV (r:=ai) (av (mI hu (aa 1 rfl) (aP CA hr (aq (aa 0 rfl) (aq (aa 2 rfl) (aq ar aJ))) ⟨S,n,_,_,rfl,n0,n1,ha,rfl⟩) hc) aQ) one_le)) rfl)
  | Wh g h0 h1 hk=>rw[g] at h;exact SQ h (by decide +kernel)
  | Wi g h0 h1 hk=>rw[g] at h;exact SQ h (by decide +kernel)
  | Wj g h0 h1 hk=>rw[g] at h;exact SQ h (by decide +kernel)
  | VC g=>rcases g with g | g | g<;>rw[g] at h<;>exact SQ h (by decide +kernel)
 have h4:¬aU S n="back":=SV h;have WI:∀{k:Str},k≠""->aU S n≠"end"->ed≠k:=λhk h z=>hk (by rw[← z,en0 h]);refine ah (aL (au aT (aa 4 rfl) ar) (λh=>?_) (λh=>aA ?_))
 ·have h:ed="while":=SU h;cases hL with
  | row g hc=>exact SQ h (WI (by decide +kernel) (by rcases g with g | g<;>rw[g]<;>decide +kernel))
  | Wl g hc=>exact SQ g h2
  | V4 g ha hc=>exact SQ g h3
  | Wn g ha hc=>exact SQ g h4
  | Wh g h0 h1 hk=>exact ak (bb (bg.im (aV (r:=ai) (av (pF (C:=C) HC (aB (aa 0 rfl) (aa 2 rfl) Uq)) aQ) one_le)) rfl)
  | Wi g h0 h1 hk=>rw[W8 g,hk] at h;exact SQ h (by decide +kernel)
  | Wj g h0 h1 hk=>rw[W8 g,hk] at h;exact SQ h (by decide +kernel)
  | VC g=>exact SQ h (WI (by decide +kernel) (by rcases g with g | g | g<;>rw[g]<;>decide +kernel))
 have h5:¬ed="while":=SV h;cases hL with
 | row g hc=>exact SQ (by rcases g with g | g<;>rw[g]<;>decide +kernel) h1
 | Wl g hc=>exact SQ g h2
 | V4 g ha hc=>exact SQ g h3
 | Wn g ha hc=>exact SQ g h4
 | Wh g h0 h1 hk=>exact SQ ((W8 g).trans hk) h5
 | Wi g h0 h1 hk=>
   have e:ed="part":=(W8 g).trans hk;exact ak (bb (y:=([]:MC)) (EV.cast (lF (y:=([]:MC)) (au aT (aa 4 rfl) ar) (λ_=>bg.im (aV (r:=ai) aQ (O3 _))) (λh=>SQ e (SV h))) (by split<;>rfl)) rfl)
 | Wj g h0 h1 hk=>
   have e:ed≠"part":=by rw[W8 g,hk];decide +kernel
   exact ak (bb (y:=[n+1]) (EV.cast (lF (x:=[n+1]) (au aT (aa 4 rfl) ar) (λh=>SQ (SU h) e) (λ_=>bg.im (aV (r:=ai) (av (bZ (aa 2 rfl) ev_int) aQ) one_le))) (by split<;>rfl)) rfl)
 | VC g=>
   have e:ed≠"part":=WI (by decide +kernel) (by rcases g with g | g | g<;>rw[g]<;>decide +kernel)
   exact ak (bb (y:=[n+1]) (EV.cast (lF (x:=[n+1]) (au aT (aa 4 rfl) ar) (λh=>SQ (SU h) e) (λ_=>bg.im (aV (r:=ai) (av (bZ (aa 2 rfl) ev_int) aQ) one_le))) (by split<;>rfl)) rfl)
abbrev BU:Stmt:=top uW
abbrev K0:ME:=["steps","closing"]
theorem F4:aN K0 ["steps"] (ao BU):=TQ
def wV (S:List aH)(Ld:List MC):Prop:=Ld.length=S.length/\∀n:Nat,n<S.length->eD S (dN S) (n:Int) (Ld.getD n [])
def Lq (C:Addr):dI:=λK ps T=>∃(S:List aH)(Ld:List MC),ps=[⟨ae (bc C),S⟩]/\S.length<=1000/\wV S Ld/\T=dq K (ae (ae ai)) (· =Ld)
theorem A6 (Ld:List MC):((ups 0 Ld.length).filter λ_=>true).map (λn=>Ld.getD n.toNat [])=Ld:=by
 rw[Ot.mpr λ_ _=>rfl];refine Oo λi=>?_;unfold ups;rw[Nc,Nc];rcases O9 i Ld.length with h | h
 ·rw[Oc h,M4 h];show some (Ld.getD (0+(i:Int)).toNat [])=_;rw[show(0+(i:Int)).toNat=i by omega,Na,M4 h];rfl
 ·rw[NY (by simpa using h),NY h];rfl
theorem Ks (M:cP K mg)(CC:aM P w K mg base "closing_steps" 1 (a9 (GL C) K))(CF:aM P w K mg base "leads_from" 2 (a9 (LD C) K))(Df:Def K mg "leads_in" BU ["steps"]):aM P w K mg base "leads_in" 3 (a9 (Lq C) K):=by
 have nd:=F4.nd;have Vj:NI [("number":Str),"steps","closing"]:=by decide
 have CC:=CC.mono (show 1<=2 by decide);refine bR (k:=2) Df F4 (λf S6 A outer s H E qs T hr hS=>?_);obtain⟨S,Ld,rfl,hl,⟨VE,hL⟩,rfl⟩:=hS;change WS _ _ [.im (ae (bc C)) S,.no] _ _;refine ah (bE 1 (y:=dN S) (aP CC hr (aq (aa 0 rfl) aJ) ⟨S,rfl,hl,rfl⟩) ?_);change WS _ _ [.im (ae (bc C)) S,.im ij (dN S)] _ _;have cc:=A6 Ld;rw[VE] at cc;refine ak (bb (bg.im (c7 (own:=["number"]) (fr:=["steps","closing"]) (ix:=[0,1]) (ra:=ai) (rb:=ae ai) (p:=λ_=>true) (f:=λn=>Ld.getD n.toNat []) (cY (so:=ao BU) (N0:=K0) rfl rfl (λx h=>cj h) (by decide +kernel)) (fK M.range (fX M.len (aa 0 rfl)) ⟨by omega,by omega⟩)
  (λC s H ex=>bt 0) (λx=>⟨.inr rfl,.inl rfl,.inl rfl,trivial⟩) (λC s H ex c hc=>hZ) (λC' s H ex o ho _=>?_))) ?_)
 ·obtain⟨i,hi⟩:=Nq.mp ho;obtain⟨il,rfl⟩:=g8 hi;have il:i<S.length:=by omega
  have:=hL i il;rw[show(i:Int)=0+(i:Int) by omega] at this;exact aP CF hr (aq (aa 1 rfl) (aq (aa 2 rfl) (aq (aa 0 rfl) aJ))) ⟨S,dN S,0+(i:Int),_,rfl,by omega,by omega,by rw[show(0+(i:Int)).toNat=i by omega];exact this,rfl⟩
 ·rw[show((S.length:Int)).toNat=S.length by omega];exact cc
abbrev BR:Stmt:=top uX
abbrev K6:ME:=["steps","closing"]
theorem Fe:aN K6 ["steps"] (ao BR):=TQ
abbrev iX:=Str×Int×Int
def lC (p:iX):PV:=.tup [.str p.1,.int p.2.1,.int p.2.2]
def Iy (z:Int×aH):Bool:=decide (z.2.kind="part")
def GI (S:List aH)(z:Int×aH):iX:=(z.2.name,z.1,(bJ (dN S) z.1).getD 0)
def cH (S:List aH):List iX:=((nums S).filter Iy).map (GI S)
def Lp (C:Addr):dI:=λK ps T=>∃S:List aH,ps=[⟨ae (bc C),S⟩]/\S.length<=1000/\(∀n:Nat,n<S.length->aU S (n:Int)="part"->(bJ (dN S) (n:Int)).isSome)/\T=dq K (ae ag) (· =(cH S).map lC)
theorem mZ {S:List aH}{z:Int×aH}(h:z∈nums S):∃n:Nat,n<S.length/\z.1=(n:Int)/\S.getD n c5=z.2:=by
 obtain⟨i,hi⟩:=Nq.mp h;obtain⟨e1,e2⟩:=eJ hi;exact⟨i,(M1.mp e2).1,e1,by rw[Na,e2];rfl⟩
theorem J6 (M:cP K mg)(HC:bH K C h9)(CC:aM P w K mg base "closing_steps" 1 (a9 (GL C) K))(Df:Def K mg "parts_in" BR ["steps"]):aM P w K mg base "parts_in" 2 (a9 (Lp C) K):=by
 have nd:=Fe.nd;have Vj:NI [("number":Str),"step","closing"]:=by decide
 refine bR (k:=1) Df Fe (λf S6 A outer s H E qs T hr hS=>?_);obtain⟨S,rfl,hl,hp,rfl⟩:=hS;change WS _ _ [.im (ae (bc C)) S,.no] _ _;refine ah (bE 1 (y:=dN S) (aP CC hr (aq (aa 0 rfl) aJ) ⟨S,rfl,hl,rfl⟩) ?_);change WS _ _ [.im (ae (bc C)) S,.im ij (dN S)] _ _;refine ak (bb (bg.im (c7 (own:=["number","step"]) (fr:=["closing"]) (ix:=[1]) (ra:=fD ai (bc C)) (rb:=ag) (p:=Iy) (f:=λz=>lC (GI S z)) (cY (so:=ao BR) (N0:=K6) rfl rfl (λx h=>cj h) (by decide +kernel)) (iG M.enumerate (aa 0 rfl))
  (λC s H ex=>eh 0 1) (λx=>⟨.inr rfl,.inr rfl,.inl rfl,trivial⟩) (λC' s H ex z hz=>?_) (λC' s H ex z hz hpz=>?_))) ?_)
 ·exact i6 (au aT (gB (C:=C) HC (aa 1 rfl)) ar)
 ·obtain⟨n,nl,e1,e2⟩:=mZ hz;have hk:aU S (n:Int)="part":=by
   unfold aU;rw[show((n:Nat):Int).toNat=n by omega,e2];exact SU hpz
  have hs:=hp n nl hk;rw[← e1] at hs;have hc:bJ (dN S) z.1=some ((bJ (dN S) z.1).getD 0):=by
   cases q:bJ (dN S) z.1 with
   | none=>rw[q] at hs;cases hs
   | some c=>rfl
  exact eM (av (EV.pS (oM (C:=C) HC (aa 1 rfl))) (av (EV.pI (aa 0 rfl)) (av (EV.pI (mI (ru hr) (aa 2 rfl) (aa 0 rfl) hc)) aQ))) (by show 3<=PZ;decide)
 ·unfold cH;rw[NX];rfl
end
abbrev dH:List (Str×ME):=[("do",["do"]),("call",["call"]),("if",["yes","no"]),("while",["yes","no"])]
def aZ (k:Str):Bool:=(cU dH k).isSome
def pf (S:List aH)(Ld:List MC)(td:MC)(n:Int):MC:=
 if(Ld.getD n.toNat []).isEmpty=false/\aZ (aU S n)=false then td.set n.toNat (td.getD ((Ld.getD n.toNat []).getD 0 0).toNat 0) else td
theorem Em {S:List aH}{Ld:List MC}{td:MC}{n:Int}:(pf S Ld td n).length=td.length:=by
 unfold pf;split
 ·rw[NT]
 ·rfl
def U8 (S:List aH)(Ld:List MC)(i:Nat):MC:=((downs ((S.length:Int)-1) S.length).take i).foldl (pf S Ld) (ups 0 S.length)
theorem jH {S:List aH}{Ld:List MC}{i:Nat}(h:i<S.length):U8 S Ld (i+1)=pf S Ld (U8 S Ld i) ((S.length:Int)-1-(i:Int)):=by
 have hd:(downs ((S.length:Int)-1) S.length)[i]?=some ((S.length:Int)-1-(i:Int)):=by
  unfold downs;rw[Nc,Oc h];rfl
 unfold U8;rw[NH,hd,Od];rfl
theorem jG {S:List aH}{Ld:List MC}:∀i,i<=S.length->(U8 S Ld i).length=S.length
 | 0,_=>ck _ _
 | i+1,h=>by rw[jH h,Em];exact jG i (by omega)
abbrev a7 (S:List aH)(Ld:List MC):MC:=U8 S Ld S.length
def r8 (S:List aH)(Ld:List MC):Prop:=Ld.length=S.length/\∀ls∈Ld,∀l∈ls,0<=l/\l<(S.length:Int)
section
variable {C:Addr}
abbrev Fy:Stmt:=top uf
abbrev nST:ME:=["steps","leads","told","number"]
theorem FC:aN nST ["steps","leads"] (ao Fy):=TQ
def Lw (C:Addr):dI:=λK ps T=>∃(S:List aH)(Ld:List MC),ps=[⟨ae (bc C),S⟩,⟨ae (ae ai),Ld⟩]/\S.length<=1000/\r8 S Ld/\T=dq K (ae ai) (· =a7 S Ld)
theorem Jw (M:cP K mg)(HC:bH K C h9)(RW:lE P w K mg "ROW_WORDS" dH)(Df:Def K mg "stands_in" Fy ["steps","leads"]):aM P w K mg base "stands_in" 1 (a9 (Lw C) K):=by
 have nd:=FC.nd;refine bR Df FC (λf S6 A outer s H E qs T hr hS=>?_);obtain⟨S,Ld,rfl,hl,⟨VE,UO⟩,rfl⟩:=hS;change WS _ _ [.im (ae (bc C)) S,.im (ae (ae ai)) Ld,.no,.no] _ _;refine ah (cO 2 (r:=ai) (ys:=ups 0 S.length) (bg.cst (rB M.list M.range (fX M.len (aa 0 rfl)) ⟨by omega,by omega⟩) (by rw[show((S.length:Int)).toNat=S.length by omega])) ?_);refine bL (N1:=λΓ=>∃e3,Γ=[.im (ae (bc C)) S,.im (ae (ae ai)) Ld,.mu ai (a7 S Ld),e3]) (bP (λi Γ=>∃e3,Γ=[.im (ae (bc C)) S,.im (ae (ae ai)) Ld,.mu ai (U8 S Ld i),e3]) (xM M.range (aq (iZ (fX M.len (aa 0 rfl)) ev_int) (aq (cG ev_int) (aq (cG ev_int) aJ))) ⟨by omega,by omega,by omega,by omega⟩) (bt 3) ⟨_,rfl⟩ (λi n Γ hn hΓ=>?_) (λΓ hΓ=>?_)) ?_
 ·obtain⟨e3,rfl⟩:=hΓ;obtain⟨il,rfl⟩:=uG hn;have il:i<S.length:=by omega
  rw[jH il];have tl:=jG (S:=S) (Ld:=Ld) i (by omega);generalize U8 S Ld i=td at tl;generalize hnn:(S.length:Int)-1-(i:Int)=n;have n0:0<=n:=by omega
  have n1:n<(S.length:Int):=by omega
  change WS _ _ [.im (ae (bc C)) S,.im (ae (ae ai)) Ld,.mu ai td,ax n] _ _;have Uq:cM Ld n=some (Ld.getD n.toNat []):=bB (xs:=Ld) (i:=n) [] n0 (by omega);have Vh:Ld.getD n.toNat []∈Ld:=by
   rw[Na,M4 (show n.toNat<Ld.length by omega)];exact NK _
  refine ak (aL (TW.tv (cD (uP (aB (aa 1 rfl) (aa 3 rfl) Uq)) (λ_=>cZ (yd RW (gB (C:=C) HC (aB (aa 0 rfl) (aa 3 rfl) (bB (xs:=S) (i:=n) c5 n0 n1))))))) (λh=>?_) (λh=>aA ⟨ax n,?_⟩))
  ·have h:(Ld.getD n.toNat []).isEmpty=false/\aZ (aU S n)=false:=by simpa[aZ,aU] using h
   have XE:=UO _ Vh;obtain⟨l,r,hlr⟩:∃l r,Ld.getD n.toNat []=l::r:=by
    cases e:Ld.getD n.toNat [] with
    | nil=>rw[e] at h;exact SQ h.1 (by decide)
    | cons l r=>exact⟨l,r,rfl⟩
   have e0:(Ld.getD n.toNat []).getD 0 0=l:=by rw[hlr];rfl
   have hl0:cM (Ld.getD n.toNat []) 0=some l:=by rw[hlr,jT (by decide) (by simp)];rfl
   obtain⟨l0,l1⟩:=XE l (by rw[hlr];exact Nb);refine ak (EC 2 (y:=td.getD l.toNat 0) (j:=n.toNat) (ye 2 (aB (aB (aa 1 rfl) (aa 3 rfl) Uq) ev_int hl0) rfl rfl (bB (xs:=td) (i:=l) 0 l0 (by omega))) (aa 3 rfl) rfl rfl (yp n0 (by omega)) ⟨ax n,?_⟩);unfold pf;rw[SS h,e0];rfl
  ·have h:¬((Ld.getD n.toNat []).isEmpty=false/\aZ (aU S n)=false):=by
    intro z;unfold aZ at z;unfold aU at z;rw[z.1,z.2] at h;exact SQ h (by decide)
   unfold pf;rw[SR h]
 ·obtain⟨e3,rfl⟩:=hΓ;rw[g6,show((S.length:Int)-1 - -1).toNat=S.length by omega];exact⟨e3,rfl⟩
 rintro _ ⟨e3,rfl⟩;refine WS.freeze 2 rfl (aX (by rw[jG S.length (O0 _)];omega)) ?_;exact ak (bb (aa 2 rfl) rfl)
abbrev Rw:=Int×Int×Str×Str
def jh (r:Rw):PV:=.tup [.int r.1,.int r.2.1,.str r.2.2.1,.str r.2.2.2]
def jj (Ld:List MC)(z:Int×aH):List (Str×Int):=((cU dH z.2.kind).getD []).zip (Ld.getD z.1.toNat [])
def qL (St:MC)(z:Int×aH)(y:Str×Int):Rw:=(z.1,St.getD y.2.toNat 0,y.1,z.2.name)
def dF (Ld:List MC)(St:MC)(z:Int×aH):List Rw:=(jj Ld z).map (qL St z)
def fZ (S:List aH)(Ld:List MC)(St:MC):List Rw:=(nums S).flatMap (dF Ld St)
theorem vk (Ld:List MC)(z:Int×aH):(jj Ld z).length<=2:=by
 unfold jj;rw[NZ];refine O2 (Pe _ _) ?_;unfold cU;split
 ·decide
 unfold cU;split
 ·decide
 unfold cU;split
 ·decide
 unfold cU;split
 ·decide
 ·exact O3 _
theorem nZ {α β:Type}{f:α->List β}{n:Nat}(h:∀x,(f x).length<=n):∀xs:List α,(xs.flatMap f).length<=n*xs.length
 | []=>O3 _
 | x::xs=>by
   rw[N2,M9,Nf,Nat.mul_succ];have:=h x;have:=nZ h xs;omega
theorem pd (Ld:List MC)(St:MC)(z:Int×aH):(dF Ld St z).length<=2:=by unfold dF;rw[M8];exact vk Ld z
abbrev HY:Stmt:=top xA
abbrev nRI:ME:=["steps","leads","stands","told","number","step","word","lead"]
abbrev Lj:ME:=["steps","leads","stands"]
theorem GO:aN nRI Lj (ao HY):=TQ
def KQ (C:Addr):dI:=λK ps T=>∃(S:List aH)(Ld:List MC)(St:MC),ps=[⟨ae (bc C),S⟩,⟨ae (ae ai),Ld⟩,⟨ae ai,St⟩]/\S.length<=1000/\r8 S Ld/\St.length=S.length/\T=dq K (ae ag) (· =(fZ S Ld St).map jh)
theorem JE (M:cP K mg)(HC:bH K C h9)(RW:lE P w K mg "ROW_WORDS" dH)(Df:Def K mg "rows_in" HY Lj):aM P w K mg base "rows_in" 1 (a9 (KQ C) K):=by
 have nd:=GO.nd;refine bR Df GO (λf S6 A outer s H E qs T hr hS=>?_);obtain⟨S,Ld,St,rfl,hl,⟨VE,UO⟩,hst,rfl⟩:=hS;change WS _ _ [.im (ae (bc C)) S,.im (ae (ae ai)) Ld,er St,.no,.no,.no,.no,.no] _ _;refine ah (cO 3 (r:=ag) (ys:=[]) (aV aQ (O3 _)) ?_);refine bL (N1:=λΓ=>∃e4 e5 e6 e7,Γ=[.im (ae (bc C)) S,.im (ae (ae ai)) Ld,er St,.mu ag ((fZ S Ld St).map jh),e4,e5,e6,e7]) (bP (λi Γ=>∃e4 e5 e6 e7,Γ=[.im (ae (bc C)) S,.im (ae (ae ai)) Ld,er St,.mu ag ((((nums S).take i).flatMap (dF Ld St)).map jh),e4,e5,e6,e7]) (iG M.enumerate (aa 0 rfl)) (eh 4 5) ⟨_,_,_,_,rfl⟩ (λi z Γ hz hΓ=>?_) (λΓ hΓ=>?_)) ?_
 ·obtain⟨e4,e5,e6,e7,rfl⟩:=hΓ;obtain⟨n,nl,e1,e2⟩:=mZ (Ng hz);have il:i<S.length:=by have:=(M1.mp hz).1;rwa [cJ] at this
  have fl:=nZ (pd Ld St) ((nums S).take i);have hti:((nums S).take i).length<=i:=by rw[Nu];omega
  have UN:((nums S).take (i+1)).flatMap (dF Ld St)=((nums S).take i).flatMap (dF Ld St)++dF Ld St z:=by
   rw[NH,hz,Oq];simp
  rw[UN];generalize ((nums S).take i).flatMap (dF Ld St)=rs at fl;have rl:rs.length<=2000:=by omega
  obtain⟨zn,zs⟩:=z;dsimp only at e1 e2;subst e1;change WS _ _ [.im (ae (bc C)) S,.im (ae (ae ai)) Ld,er St,.mu ag (rs.map jh),ax (n:Int),.im (bc C) zs,e6,e7] _ _;have Uq:cM Ld (n:Int)=some (Ld.getD n []):=bB (xs:=Ld) (i:=(n:Int)) [] (by omega) (by omega);have Vh:Ld.getD n []∈Ld:=by
   rw[Na,M4 (show n<Ld.length by omega)];exact NK _
  have XE:=UO _ Vh;have VP:=vk Ld ((n:Int),zs);have hzz:jj Ld ((n:Int),zs)=((cU dH zs.kind).getD []).zip (Ld.getD n []):=rfl;refine ak (bP (λj Γ=>∃e6 e7,Γ=[.im (ae (bc C)) S,.im (ae (ae ai)) Ld,er St,.mu ag ((rs++((jj Ld ((n:Int),zs)).take j).map (qL St ((n:Int),zs))).map jh),ax (n:Int),.im (bc C) zs,e6,e7]) (D2 M.zip (DB RW (gB (C:=C) HC (aa 5 rfl)) (vC (xs:=[]) aQ (O3 _))) (aB (aa 1 rfl) (aa 4 rfl) Uq)) (eh 6 7) ⟨e6,e7,by rw[Ol,OF,Nw]⟩ (λj y Γ hy hΓ=>?_) (λΓ hΓ=>?_))
  ·obtain⟨e6,e7,rfl⟩:=hΓ;rw[← hzz] at hy;have hjl:j<(jj Ld ((n:Int),zs)).length:=(M1.mp hy).1;have htj:(((jj Ld ((n:Int),zs)).take j).map (qL St ((n:Int),zs))).length<=2:=by rw[M8,Nu];omega
   have hnj:((jj Ld ((n:Int),zs)).take (j+1)).map (qL St ((n:Int),zs))=((jj Ld ((n:Int),zs)).take j).map (qL St ((n:Int),zs))++[qL St ((n:Int),zs) y]:=by
    rw[NH,hy,Nn];rfl
   rw[hnj];have US:y.2∈Ld.getD n []:=by
    rw[hzz] at hy;exact(OC (Ng hy)).2
   obtain⟨y0,y1⟩:=XE y.2 US;generalize ((jj Ld ((n:Int),zs)).take j).map (qL St ((n:Int),zs))=ts at htj;obtain⟨yw,yl⟩:=y;change WS _ _ [.im (ae (bc C)) S,.im (ae (ae ai)) Ld,er St,.mu ag ((rs++ts).map jh),ax (n:Int),.im (bc C) zs,.im aj yw,ax yl] _ _;refine ak (fc 3 (y:=jh (qL St ((n:Int),zs) (yw,yl))) (eM (av (EV.pI (aa 4 rfl)) (av (EV.pI (aB (aa 2 rfl) (aa 7 rfl) (bB (xs:=St) (i:=yl) 0 y0 (by omega)))) (av (EV.pS (aa 6 rfl)) (av (EV.pS (oM (C:=C) HC (aa 5 rfl))) aQ)))) (by show 4<=PZ;decide)) rfl rfl (O6 (show _<=3000 by rw[M8,M9];omega) (by decide)) ⟨.im aj yw,ax yl,?_⟩);rw[← Nl,Nn (l₁:=rs++ts)];rfl
  ·obtain⟨e6,e7,rfl⟩:=hΓ;refine⟨ax (n:Int),.im (bc C) zs,e6,e7,?_⟩;rw[← hzz,NN];rfl
 ·obtain⟨e4,e5,e6,e7,rfl⟩:=hΓ;refine⟨e4,e5,e6,e7,?_⟩;rw[NN];rfl
 rintro _ ⟨e4,e5,e6,e7,rfl⟩;have fl:=nZ (pd Ld St) (nums S);rw[cJ] at fl;refine WS.freeze 3 rfl (aX (by rw[M8];unfold fZ;omega)) ?_;exact ak (bb (aa 3 rfl) rfl)
end
structure iW where
 S:List aH
 parts:List iX
 Ld:List MC
 St:MC
 rows:List Rw
abbrev fT:ME:=["steps","parts","leads","stands","rows"]
theorem du {x:Str}(h:decide (x∈fT)=true):x∈fT:=SU h
def Le (C:Addr)(s:iW):jY:=[("steps",(ae (bc C)).at_ s.S),("parts",(ae ag).at_ (s.parts.map lC)),("leads",(ae (ae ai)).at_ s.Ld),("stands",(ae ai).at_ s.St),("rows",(ae ag).at_ (s.rows.map jh))]
def bD (C D:Addr):Rep iW:=⟨λK R v s=>∃x dx vs,v= .ref x/\R x=some (.ins D dx vs)/\gu (Le C s) K R vs,λs ⟨x,dx,vs,e,h1,h2⟩=>⟨x,dx,vs,e,s _ _ h1,h2.mono s⟩⟩
section
variable {X:Cx}{Γ Γ1:Ga}{C D:Addr}{e:Expr}{pos:Pos}{s:iW}
theorem wD (hC:bH X.K D fT)(he:EV X e Γ (bD C D) s Γ1)(hb:P6 e "steps" X.env (eval e X.env)=eval e X.env:=by rfl):EV X (.Attribute e "steps" pos) Γ (ae (bc C)) s.S Γ1:=jk hC (du (by decide)) he (λK R v ⟨x,dx,vs,e,h1,h2⟩=>by obtain⟨u,q1,q2⟩:=h2.get (f:="steps") rfl;exact⟨x,dx,vs,u,e,h1,q1,q2⟩) hb
theorem jm (hC:bH X.K D fT)(he:EV X e Γ (bD C D) s Γ1)(hb:P6 e "parts" X.env (eval e X.env)=eval e X.env:=by rfl):EV X (.Attribute e "parts" pos) Γ (ae ag) (s.parts.map lC) Γ1:=jk hC (du (by decide)) he (λK R v ⟨x,dx,vs,e,h1,h2⟩=>by obtain⟨u,q1,q2⟩:=h2.get (f:="parts") rfl;exact⟨x,dx,vs,u,e,h1,q1,q2⟩) hb
theorem JP (hC:bH X.K D fT)(he:EV X e Γ (bD C D) s Γ1)(hb:P6 e "leads" X.env (eval e X.env)=eval e X.env:=by rfl):EV X (.Attribute e "leads" pos) Γ (ae (ae ai)) s.Ld Γ1:=jk hC (du (by decide)) he (λK R v ⟨x,dx,vs,e,h1,h2⟩=>by obtain⟨u,q1,q2⟩:=h2.get (f:="leads") rfl;exact⟨x,dx,vs,u,e,h1,q1,q2⟩) hb
theorem Jx (hC:bH X.K D fT)(he:EV X e Γ (bD C D) s Γ1)(hb:P6 e "stands" X.env (eval e X.env)=eval e X.env:=by rfl):EV X (.Attribute e "stands" pos) Γ (ae ai) s.St Γ1:=jk hC (du (by decide)) he (λK R v ⟨x,dx,vs,e,h1,h2⟩=>by obtain⟨u,q1,q2⟩:=h2.get (f:="stands") rfl;exact⟨x,dx,vs,u,e,h1,q1,q2⟩) hb
theorem rJ (hC:bH X.K D fT)(he:EV X e Γ (bD C D) s Γ1)(hb:P6 e "rows" X.env (eval e X.env)=eval e X.env:=by rfl):EV X (.Attribute e "rows" pos) Γ (ae ag) (s.rows.map jh) Γ1:=jk hC (du (by decide)) he (λK R v ⟨x,dx,vs,e,h1,h2⟩=>by obtain⟨u,q1,q2⟩:=h2.get (f:="rows") rfl;exact⟨x,dx,vs,u,e,h1,q1,q2⟩) hb
end
structure qG (S:List aH)(Ld:List MC):Prop where
 l:S.length<=240
 ld:wV S Ld
 li:r8 S Ld
 pt:∀n:Nat,n<S.length->aU S (n:Int)="part"->(bJ (dN S) (n:Int)).isSome
def fY (S:List aH)(Ld:List MC):iW:=⟨S,cH S,Ld,a7 S Ld,fZ S Ld (a7 S Ld)⟩
def uE (x:Str)(S:List aH):Prop:=∃(ws:ME)(n:Nat),x=R9 " " ws/\ws≠[]/\ws.length<=240/\(∀w∈ws,gc w)/\gw ws n ⟨[],[],0⟩ ⟨S,[],ws.length⟩
section
variable {C D:Addr}
abbrev qR:Stmt:=match top Ao with
 | .ClassDef _ _ _ b _ _ _ _ _ _ _=>b.getD 0 (.Pass ⟨0,0,0,0⟩)
 | s=>s
abbrev uy:ME:=["self","text"]
theorem Ge:aN uy uy (ao qR):=TQ
def Ln (C D0:Addr):xN:=λK D ps Pd=>D=D0/\∃(x:Str)(S:List aH)(Ld:List MC),ps=[⟨aj,x⟩]/\uE x S/\qG S Ld/\Pd=λfs=>fs=Le C (fY S Ld)
theorem Kd (HD:bH K D fT)(CR:aM P w K mg base "read" 3 (a9 (Lf C) K))(CP:aM P w K mg base "parts_in" 2 (a9 (Lp C) K))(CL:aM P w K mg base "leads_in" 3 (a9 (Lq C) K))(CS:aM P w K mg base "stands_in" 1 (a9 (Lw C) K))(CW:aM P w K mg base "rows_in" 1 (a9 (KQ C) K))(F:dQ K "__init__" "Spots.__init__" qR f fd):d6 P w K mg base d8 4 f fd uy (vi (Ln C D) K):=by
 have nd:=Ge.nd;have CP:=CP.mono (show 2<=3 by decide);have CS:=CS.mono (show 1<=3 by decide);have CW:=CW.mono (show 1<=3 by decide);refine z7 (k:=3) F Ge (λD qs Pd ⟨_,_,_,_,e,_⟩=>by rw[e];rfl) (λS6 A outer st H E D' x dx qs Pd hr hS=>?_);obtain⟨rfl,tx,S,Ld,rfl,⟨ws,n,et,T9,hl,hw,WB⟩,XX,rfl⟩:=hS;have U9:S.length<=1000:=by have:=XX.l;omega
 change WS _ _ [.ob ((gL D').bx [x,dx] []),.im aj tx] _ _;refine ah (g9 0 HD (du (by decide)) (aP (y:=S) (r:=ae (bc C)) CR hr (aq (aa 1 rfl) aJ) ⟨ws,n,S,by rw[et],T9,hl,hw,WB,rfl⟩) rfl rfl (by show 0<1000;decide) ?_);refine ah (g9 0 HD (du (by decide)) (aP CP hr (aq (lL 0 HD (du (by decide)) rfl rfl) aJ) ⟨S,rfl,U9,XX.pt,rfl⟩) rfl rfl (by show 1<1000;decide) ?_);refine ah (g9 0 HD (du (by decide)) (aP CL hr (aq (lL 0 HD (du (by decide)) rfl rfl) aJ) ⟨S,Ld,rfl,U9,XX.ld,rfl⟩) rfl rfl (by show 2<1000;decide) ?_);refine ah (g9 0 HD (du (by decide)) (aP CS hr (aq (lL 0 HD (du (by decide)) rfl rfl) (aq (lL 0 HD (du (by decide)) rfl rfl) aJ)) ⟨S,Ld,rfl,U9,XX.li,rfl⟩) rfl rfl (by show 3<1000;decide) ?_);exact ak (g9 0 HD (du (by decide)) (aP CW hr (aq (lL 0 HD (du (by decide)) rfl rfl) (aq (lL 0 HD (du (by decide)) rfl rfl) (aq (lL 0 HD (du (by decide)) rfl rfl) aJ))) ⟨S,Ld,a7 S Ld,rfl,U9,XX.li,jG S.length (O0 _),rfl⟩) rfl rfl (by show 4<1000;decide) ⟨_,rfl,rfl⟩)
structure tM (P:P2)(w:World)(K:Sk)(mg:MA)(base:Heap)(C D:Addr):Prop where
 cl:bH K D fT
 ex:∃fi U6,Mk K D fi/\d6 P w K mg base d8 4 fi U6 uy (vi (Ln C D) K)/\Binds K U6 uy []
 mg:mg "Spots"=some (.ref D)
theorem Af {X:Cx}{Γ Γ1:Ga}{C D:Addr}{e:Expr}{p pos:Pos}{x:Str}{S:List aH}{Ld:List MC}(G:tM X.prog X.w X.K X.mg X.base C D)(hr:bI 5 X.A)(ha:HA X [e] Γ [⟨aj,x⟩] Γ1)(hx:uE x S)(hk:qG S Ld)(hg:Gl X "Spots":=by rfl)(he:PU [e] X.env=(false,eval e X.env)::PU [] X.env:=by rfl)(To:(P8 pos (PU [] X.env)).any (·.1)=false:=by rfl):EV X (.Call (.Name "Spots" p) [e] [] pos) Γ (bD C D) (fY S Ld) Γ1:=by
 obtain⟨fi,U6,MK,SI,bi⟩:=G.ex;exact vG MK SI hr G.mg bi ha ⟨rfl,x,S,Ld,rfl,hx,hk,rfl⟩ (λfs R x dx vs hP h1 h2=>by subst hP;exact⟨x,dx,vs,rfl,h2,h1⟩) hg (by decide) he To
end
theorem Hc {α:Type}{xs:List α}{i:Nat}(h:i<=xs.length):cut xs none (some (i:Int))=xs.take i:=by
 have e:HT.Tj xs.length xs.length (some (i:Int))=i:=by
  show(if(i:Int)<0 then((i:Int)+(xs.length:Int)).toNat else min (i:Int).toNat xs.length)=i;rw[SR (by omega)];omega
 unfold cut;rw[e];rfl
theorem pH {α:Type}{xs:List α}{i:Nat}:cut xs (some (i:Int)) none=xs.drop i:=by
 have e:HT.Tj xs.length 0 (some (i:Int))=min i xs.length:=by
  show(if(i:Int)<0 then((i:Int)+(xs.length:Int)).toNat else min (i:Int).toNat xs.length)=_;rw[SR (by omega)];rfl
 have e2:HT.Tj xs.length xs.length none=xs.length:=rfl;unfold cut;rw[e,e2];rcases O9 i xs.length with h | h
 ·rw[Nat.min_eq_left (by omega),OA (by rw[Ov];omega)]
 ·rw[Nat.min_eq_right h,Om (O0 _),Om h,take_nil]
theorem oN:∀(n:Nat)(l:MC),l.Nodup->(∀x∈l,0<=x/\x<(n:Int))->l.length<=n
 | 0,l,_,h=>by
   cases l with
   | nil=>exact O0 _
   | cons x r=>have:=h x Nb;omega
 | n+1,l,nd,h=>by
   by_cases q:(n:Int)∈l
   ·have:=oN n (l.erase (n:Int)) (nd.erase _) λx hx=>by
     have hm:=(nd.mem_erase_iff.mp hx);have:=h x hm.2;have:=hm.1;omega
    rw[List.length_erase_of_mem q] at this;omega
   ·have:=oN n l nd λx hx=>by
     have:=h x hx;have:x≠(n:Int):=λe=>q (e▸hx);omega
    omega
def de (F:MJ)(k:Int):MJ:=if(bJ F k).isSome then F else F++[(k,(F.length:Int))]
def oH (p:iX)(r:Rw):Bool:=decide (p.2.1<r.1)&&decide (r.1<p.2.2)
def eP (p:iX)(F:MJ)(r:Rw):MJ:=if oH p r then de (de F r.1) r.2.1 else F
def iI (s:iW)(p:iX):MJ:=s.rows.foldl (eP p) [(s.St.getD p.2.1.toNat 0,0),(p.2.2,1)]
def Reach (s:iW)(fd:MC):Prop:=(∀p∈s.parts,p.2.1∈fd)/\∀n∈fd,∀l∈s.Ld.getD n.toNat [],l∈fd
structure Good (s:iW):Prop where
 l:s.S.length<=240
 pl:s.parts.length<=4
 pn:(s.parts.map (·.1)).Nodup
 pv:∀p∈s.parts,0<=p.2.1/\p.2.1<(s.S.length:Int)
 li:r8 s.S s.Ld
 l2:∀ls∈s.Ld,ls.length<=2
 sl:s.St.length=s.S.length
 sn:((s.S.filter λt=>decide (t.kind=("part":Str))).map (·.name)).Nodup
 ca:∀(n:Nat)(t:aH),s.S[n]?=some t->t.kind="call"->∃(m:Nat)(u:aH),n<m/\s.S[m]?=some u/\u.kind="part"/\u.name=t.name
 ct:∀fd,Reach s fd->∀n:Nat,n<s.S.length->aU s.S (n:Int)∈Tp->(n:Int)∈fd
 nc:∀p∈s.parts.drop 1,∃t∈s.S,t.kind="call"/\t.name=p.1
 eb:∀p∈s.parts,s.St.getD p.2.1.toNat 0≠p.2.2
 rl:s.rows.length<=30
 rk:∀r∈s.rows,(0<=r.1/\r.1<(s.S.length:Int))/\aU s.S r.1∈Tp
 pc:∀p∈s.parts,(iI s p).length<=16
def x9:PV->Str
 | .tup (.str x::_)=>x
 | _=>""
theorem yx (p:iX):x9 (lC p)=p.1:=rfl
section
variable {C D:Addr}
abbrev BW:Stmt:=top rm
theorem Fz:aN ["spots","parts"] ["spots","parts"] (ao BW):=TQ
def wq (C D:Addr):dI:=λK ps T=>∃s:iW,ps=[⟨bD C D,s⟩,⟨ae ag,[]⟩]/\T=dq K (ae ai) (· =[])
theorem Ki (Df:Def K mg "name_words" BW ["spots","parts"]):aM P w K mg base "name_words" 1 (a9 (wq C D) K):=by
 have nd:=Fz.nd;have Vj:NI [("part":Str),"spots"]:=by decide
 refine bR Df Fz (λf S6 A outer st H E qs T hr hS=>?_);obtain⟨s,rfl,rfl⟩:=hS;change WS _ _ [.im (bD C D) s,.im (ae ag) []] _ _;exact ak (bb (bg.im (c7 (own:=["part"]) (fr:=["spots"]) (ix:=[0]) (ra:=ag) (rb:=ai) (p:=λ_=>true) (f:=λ_=>0) (cY (so:=ao BW) (N0:=["spots","parts"]) rfl rfl (λx h=>cj h) (by decide +kernel)) (cu (aa 1 rfl))
  (λC s H ex=>bt 0) (λx=>⟨.inr rfl,.inl rfl,trivial⟩) (λC' s H ex c hc=>hZ) (λC' s H ex o ho _=>by cases ho))) rfl)
abbrev yY:Stmt:=top p6
abbrev HQ:ME:=["spots","names"]
theorem IC:aN HQ ["spots"] (ao yY):=TQ
def ig (C D:Addr):dI:=λK ps T=>∃s:iW,ps=[⟨bD C D,s⟩]/\Good s/\T=dq K (ae ai) (· =[])
theorem iT {α β:Type}{xs:List α}{p:α->Bool}{f:α->β}(h:∀x∈xs,p x=false):(xs.filter p).map f=[]:=by
 rw[OL.mpr λx hx=>by rw[h x hx];decide];rfl
theorem Er {xs:ME}(h:xs.Nodup){i:Nat}{x:Str}(hx:xs[i]?=some x):x∉xs.take i:=by
 intro hm;obtain⟨j,hj⟩:=Nq.mp hm;obtain⟨jl,ej⟩:=M1.mp hj;obtain⟨il,ei⟩:=M1.mp hx;rw[Nu] at jl;rw[List.getElem_take] at ej;have:=(getElem_inj (h₀:=by omega) (h₁:=il) h).mp (ej.trans ei.symm);omega
theorem J3 (M:cP K mg)(HD:bH K D fT)(CN:aM P w K mg base "name_words" 1 (a9 (wq C D) K))(Df:Def K mg "named_again" yY ["spots"]):aM P w K mg base "named_again" 2 (a9 (ig C D) K):=by
 have nd:=IC.nd;have Vj:NI [("part":Str)]:=by decide
 have Wv:NI [("place":Str),"part","names"]:=by decide
 refine bR (k:=1) Df IC (λf S6 A outer st H E qs T hr hS=>?_);obtain⟨s,rfl,hG,rfl⟩:=hS;change WS _ _ [.im (bD C D) s,.no] _ _;have hnm:((s.parts.map lC).filter λ_=>true).map x9=s.parts.map (·.1):=by rw[Ot.mpr λ_ _=>rfl,NX];rfl
 refine ah (bE 1 (y:=s.parts.map (·.1)) (EV.cast (bg.im (c7 (own:=["part"]) (fr:=[]) (ix:=[]) (ra:=ag) (rb:=aj) (p:=λ_=>true) (f:=x9) (cY (so:=ao yY) (N0:=HQ) rfl rfl (λx h=>cj h) (by decide +kernel)) (cu (jm (C:=C) HD (aa 0 rfl)))
  (λC s H ex=>bt 0) (λx=>⟨.inr rfl,trivial⟩) (λC' s H ex c hc=>hZ) (λC' s H ex o ho _=>by
   obtain⟨p,_,rfl⟩:=Nx.mp ho;exact EV.sP (x:=p.1) (eR (aa 0 rfl) ev_int rfl)))) hnm) ?_)
 change WS _ _ [.im (bD C D) s,.im (ae aj) (s.parts.map (·.1))] _ _;refine ak (bb (y:=([]:MC)) (aP CN hr (aq (aa 0 rfl) (aq (x:=([]:List PV)) (EV.cast (bg.im (c7 (own:=["place","part"]) (fr:=["names"]) (ix:=[1]) (ra:=fD ai ag) (rb:=ag) (p:=λz=>decide (x9 z.2∈cut (s.parts.map (·.1)) none (some z.1))) (f:=λz=>z.2) (cY (so:=ao yY) (N0:=HQ) rfl rfl (λx h=>cj h) (by decide +kernel)) (iG M.enumerate (jm (C:=C) HD (aa 0 rfl)))
  (λC s H ex=>eh 0 1) (λx=>⟨.inr rfl,.inr rfl,.inl rfl,trivial⟩) (λC' s H ex z hz=>?_) (λC' s H ex z hz _=>aa 1 rfl))) ?_) aJ)) ⟨s,rfl,rfl⟩) rfl)
 ·obtain⟨i,hi⟩:=Nq.mp hz;obtain⟨e1,e2⟩:=eJ hi;rw[Nc] at e2;obtain⟨p,_,ep⟩:=Pt.mp e2;obtain⟨zn,zp⟩:=z;dsimp only at e1 ep;subst ep;exact i6 (au rY (EV.sP (x:=p.1) (eR (aa 1 rfl) ev_int rfl)) (bg.im (j7 (aa 2 rfl) ov_none (ov_some (aa 0 rfl)))))
 ·refine iT λz hz=>?_;obtain⟨i,hi⟩:=Nq.mp hz;obtain⟨e1,e2⟩:=eJ hi;rw[Nc] at e2;obtain⟨p,hp,ep⟩:=Pt.mp e2;rw[e1,← ep,yx];have il:=(M1.mp hp).1;rw[Hc (by rw[M8];omega)];exact SW (Er hG.pn (by rw[Nc,hp];rfl))
end
section
variable {C D:Addr}
abbrev Gs:Stmt:=top og
abbrev nCA:ME:=["spots","found","behind","step"]
theorem HL:aN nCA ["spots"] (ao Gs):=TQ
def Ua (S:List aH):ME:=(S.filter λt=>decide (t.kind=("part":Str))).map (·.name)
theorem lu (a b:List aH):Ua (a++b)=Ua a++Ua b:=by unfold Ua;rw[Oh,Nn]
theorem Hr {S:List aH}(h:(Ua S).Nodup):(Ua S.reverse).Nodup:=by
 unfold Ua at h ⊢;rw[List.filter_reverse,List.map_reverse];exact List.pairwise_reverse.mpr (h.imp λz=>Pr z)
theorem Km (M:cP K mg)(HC:bH K C h9)(HD:bH K D fT)(Df:Def K mg "called_astray" Gs ["spots"]):aM P w K mg base "called_astray" 1 (a9 (ig C D) K):=by
 have nd:=HL.nd;refine bR Df HL (λf S6 A outer st H E qs T hr hS=>?_);obtain⟨s,rfl,hG,rfl⟩:=hS;have hu:=ru hr;have hl:=hG.l;have hnd:=Hr (S:=s.S) hG.sn;change WS _ _ [.im (bD C D) s,.no,.no,.no] _ _;refine ah (cO 1 (r:=ai) (ys:=[]) (aV aQ (O3 _)) ?_);refine ah (ny 2 ?_);refine WS.Jq 2 rfl λa=>?_;change WS _ _ [.im (bD C D) s,.mu ai [],.ob (nE a []),.no] _ _;refine bL (N1:=λΓ=>∃ks e3,Γ=[.im (bD C D) s,.mu ai [],.ob (nE a ks),e3]) (bP (λi Γ=>∃e3,Γ=[.im (bD C D) s,.mu ai [],.ob (nE a (Ua (s.S.reverse.take i))),e3]) (G9 M.reversed (wD (C:=C) HD (aa 0 rfl))) (bt 3) ⟨_,rfl⟩ (λi t Γ ht hΓ=>?_) (λΓ hΓ=>?_)) ?_
 ·obtain⟨e3,rfl⟩:=hΓ;have il:i<s.S.length:=by have:=(M1.mp ht).1;rwa [OG] at this
  have UN:Ua (s.S.reverse.take (i+1))=Ua (s.S.reverse.take i)++Ua [t]:=by rw[NH,ht,lu];rfl
  have Tu:(Ua (s.S.reverse.take (i+1))).Nodup:=by
   have:Ua s.S.reverse=Ua (s.S.reverse.take (i+1))++Ua (s.S.reverse.drop (i+1)):=by rw[← lu,Oe]
   rw[this] at hnd;exact(NJ.mp hnd).1
  have W3:(Ua (s.S.reverse.take i)).length<=240:=by
   unfold Ua;rw[M8];refine O2 (OB _ _) ?_;rw[Nu];omega
  have We:t.kind="call"->t.name∈Ua (s.S.reverse.take i):=λhk=>by
   rw[OO il] at ht;obtain⟨m,u,hm',V6,UW,VD⟩:=hG.ca _ t ht hk;have ml:=(M1.mp V6).1;unfold Ua;refine Nx.mpr ⟨u,N9.mpr ⟨Ng (i:=s.S.length-1-m) ?_,decide_eq_true UW⟩,VD⟩;rw[List.getElem?_take,SS (by omega),OO (by omega),show s.S.length-1-(s.S.length-1-m)=m by omega];exact V6
  rw[UN];generalize Ua (s.S.reverse.take i)=ks at UN W3 We;rw[UN] at Tu;change WS _ _ [.im (bD C D) s,.mu ai [],.ob (nE a ks),.im (bc C) t] _ _;refine bL (N1:=λΓ=>Γ=[.im (bD C D) s,.mu ai [],.ob (nE a (ks++Ua [t])),.im (bc C) t]) (aL (au aT (gB (C:=C) HC (aa 3 rfl)) ar) (λh=>?_) (λh=>aA ?_)) ?_
  ·have h:t.kind="part":=SU h;have hp:Ua [t]=[t.name]:=by unfold Ua;rw[N7 (by simpa using h)];rfl
   rw[hp] at Tu ⊢;refine ak (C1 2 hu (oM (C:=C) HC (aa 3 rfl)) wZ rfl (λz=>?_) (O6 W3 (by decide)) rfl);exact(NJ.mp Tu).2.2 t.name z t.name (M5.mpr rfl) rfl
  ·have h:¬t.kind="part":=SV h;have hp:Ua [t]=[]:=by unfold Ua;rw[N8 (by simpa using h)];rfl
   rw[hp,Nw]
  rintro _ rfl;refine ak (aL (TW.tv (cD (au aT (gB (C:=C) HC (aa 3 rfl)) ar) (λ_=>cZ (Ac 2 hu (oM (C:=C) HC (aa 3 rfl)) rfl)))) (λh=>?_) (λh=>aA ⟨.im (bc C) t,rfl⟩));exfalso;obtain⟨h1,h2⟩:=Bool.and_eq_true_iff.mp h;have h1:t.kind="call":=SU h1;rw[decide_eq_true (Np _ (We h1))] at h2;cases h2
 ·obtain⟨e3,rfl⟩:=hΓ;exact⟨_,e3,rfl⟩
 rintro _ ⟨ks,e3,rfl⟩;refine WS.freeze 1 rfl (O3 _) ?_;exact ak (bb (aa 1 rfl) rfl)
abbrev Cw:Stmt:=top xu
abbrev Lk:ME:=["spots","found","waiting","number"]
theorem Gx:aN Lk ["spots"] (ao Cw):=TQ
def dT (fd:MC):List (Int×V):=fd.map λk=>(k,V.bl true)
theorem mi (fd:MC)(k:Int):ic (dT fd) k=decide (k∈fd):=by
 unfold ic dT;rw[List.any_map];by_cases h:k∈fd
 ·rw[decide_eq_true h,OR];exact⟨k,h,by simp⟩
 ·rw[SW h];rw[List.any_eq_false];intro x hx;have:x≠k:=λe=>h (e▸hx);simpa using this
def Ih (C D:Addr):dI:=λK ps T=>∃s:iW,ps=[⟨bD C D,s⟩]/\Good s/\T=dq K hV (λkvs=>∃fd,kvs=dT fd/\Reach s fd)
structure CtI (s:iW)(fd wt:MC):Prop where
 nd:fd.Nodup
 fv:∀n∈fd,0<=n/\n<(s.S.length:Int)
 wv:∀n∈wt,0<=n/\n<(s.S.length:Int)
 st:∀p∈s.parts,p.2.1∈fd∨p.2.1∈wt
 cl:∀n∈fd,∀l∈s.Ld.getD n.toNat [],l∈fd∨l∈wt
def By:PV->Int
 | .tup (_:: .int n::_)=>n
 | _=>0
theorem Js (M:cP K mg)(HD:bH K D fT)(F:dQ K "come_to" "come_to" Cw f fd)(hm:mg "come_to"=some (.ref f))(hb:Binds K fd ["spots"] []):aM P w K mg base "come_to" 1 (a9 (Ih C D) K):=by
 have nd:=Gx.nd;have Vj:NI [("part":Str)]:=by decide
 refine jo F Gx hm hb (λqs T ⟨_,e,_⟩=>by rw[e];rfl) (λS6 A outer st H E qs T hr hS=>?_);obtain⟨s,rfl,hG,rfl⟩:=hS;have hu:=ru hr;have hl:=hG.l;obtain⟨VE,UO⟩:=hG.li;have To:=hG.pl;change WS _ _ [.im (bD C D) s,.no,.no,.no] _ _;refine ah (ny 1 ?_);have hst:((s.parts.map lC).filter λ_=>true).map By=s.parts.map (·.2.1):=by rw[Ot.mpr λ_ _=>rfl,NX];rfl
 refine ah (uS 2 (own:=["part"]) (fr:=[]) (ix:=[]) (ra:=ag) (rb:=ai) (p:=λ_=>true) (f:=By) (cY (so:=ao Cw) (N0:=Lk) rfl rfl (λx h=>cj h) (by decide +kernel)) (cu (jm (C:=C) HD (aa 0 rfl)))
  (λC s H ex=>bt 0) (λx=>⟨.inr rfl,trivial⟩) (λC' s H ex c hc=>hZ) (λC' s H ex o ho _=>by
   obtain⟨p,_,rfl⟩:=Nx.mp ho;exact EV.iP (n:=p.2.1) (eR (aa 0 rfl) ev_int rfl)) ?_)
 rw[hst];change WS _ _ [.im (bD C D) s,.di (dT []),.mu ai (s.parts.map (·.2.1)),.no] _ _;refine bL (N1:=λΓ=>∃fd e3,Γ=[.im (bD C D) s,.di (dT fd),.mu ai [],e3]/\Reach s fd) (qf (λm Γ=>∃fd wt e3,Γ=[.im (bD C D) s,.di (dT fd),.mu ai wt,e3]/\CtI s fd wt/\3*(s.S.length-fd.length)+wt.length=m/\m<=1000) (m0:=3*s.S.length+s.parts.length) ⟨[],s.parts.map (·.2.1),.no,rfl,⟨OI,(λn h=>by cases h),(λn h=>?_),(λp hp=>.inr (Nx.mpr ⟨p,hp,rfl⟩)),(λn h=>by cases h)⟩,by rw[M8];rfl,by omega⟩ (λm Γ hI=>?_)) ?_
 ·obtain⟨p,hp,rfl⟩:=Nx.mp h;exact hG.pv p hp
 ·obtain⟨fd,wt,e3,rfl,hC,hmm,hm1⟩:=hI;have fl:=oN s.S.length fd hC.nd hC.fv;refine⟨!wt.isEmpty,_,uA 2 rfl,λh=>?_,λh=>?_⟩
  ·have T9:wt≠[]:=λz=>by rw[z] at h;cases h
   obtain⟨wi,n,rfl⟩:∃l x,wt=l++[x]:=⟨wt.dropLast,wt.getLast T9,(Of T9).symm⟩;rw[M9,NG] at hmm;obtain⟨n0,n1⟩:=hC.wv n (Nh _ (M5.mpr rfl));refine ah (bE 3 (y:=n) (zP 2 rfl (by simp)) ?_);rw[show(wi++[n]).dropLast=wi by simp];change WS _ _ [.im (bD C D) s,.di (dT fd),.mu ai wi,ax n] _ _;refine ak (aL (Ep 1 true hu (aa 3 rfl) rfl) (λh=>?_) (λh=>aA ?_))
   ·have W2:n∉fd:=by rw[SS rfl,mi] at h;simpa using h
    have Uq:cM s.Ld n=some (s.Ld.getD n.toNat []):=bB (xs:=s.Ld) (i:=n) [] n0 (by omega);have Vh:s.Ld.getD n.toNat []∈s.Ld:=by
     rw[Na,M4 (show n.toNat<s.Ld.length by omega)];exact NK _
    have h2:=hG.l2 _ Vh;have XE:=UO _ Vh;have fl2:=oN s.S.length (fd++[n]) (jB hC.nd W2) λx hx=>by
     rcases Nj.mp hx with z | z
     ·exact hC.fv x z
     ·rw[M5.mp z];exact⟨n0,n1⟩
    rw[M9,NG] at fl2;refine ah (yG 1 hu (aa 3 rfl) wZ rfl (by rw[mi];exact SW W2) (by unfold dT;rw[M8];exact O6 (show _<=1000 by omega) (by decide)) ?_);have e:dT fd++[(n,V.bl true)]=dT (fd++[n]):=by unfold dT;rw[Nn];rfl
    rw[e];change WS _ _ [.im (bD C D) s,.di (dT (fd++[n])),.mu ai wi,ax n] _ _;refine ak (yh 2 (aB (JP (C:=C) HD (aa 0 rfl)) (aa 3 rfl) Uq) rfl rfl (aX (by omega)) ⟨3*(s.S.length-(fd++[n]).length)+(wi++s.Ld.getD n.toNat []).length,by rw[M9,M9,NG];omega,fd++[n],wi++s.Ld.getD n.toNat [],ax n,rfl,⟨jB hC.nd W2,λx hx=>?_,λx hx=>?_,λp hp=>?_,λx hx l UT=>?_⟩,rfl,by rw[M9,M9,NG];omega⟩)
    ·rcases Nj.mp hx with z | z
     ·exact hC.fv x z
     ·rw[M5.mp z];exact⟨n0,n1⟩
    ·rcases Nj.mp hx with z | z
     ·exact hC.wv x (Np _ z)
     ·exact XE x z
    ·rcases hC.st p hp with z | z
     ·exact .inl (Np _ z)
     ·rcases Nj.mp z with z | z
      ·exact .inr (Np _ z)
      ·exact .inl (Nh _ z)
    ·rcases Nj.mp hx with z | z
     ·rcases hC.cl x z l UT with q | q
      ·exact .inl (Np _ q)
      ·rcases Nj.mp q with q | q
       ·exact .inr (Np _ q)
       ·exact .inl (Nh _ q)
     ·rw[M5.mp z] at UT;exact .inr (Nh _ UT)
   ·have W2:n∈fd:=by rw[SS rfl,mi] at h;simpa using h
    refine⟨3*(s.S.length-fd.length)+wi.length,by omega,fd,wi,ax n,rfl,⟨hC.nd,hC.fv,λx hx=>hC.wv x (Np _ hx),λp hp=>?_,λx hx l UT=>?_⟩,rfl,by omega⟩
    ·rcases hC.st p hp with z | z
     ·exact .inl z
     ·rcases Nj.mp z with z | z
      ·exact .inr z
      ·rw[M5.mp z];exact .inl W2
    ·rcases hC.cl x hx l UT with q | q
     ·exact .inl q
     ·rcases Nj.mp q with q | q
      ·exact .inr q
      ·rw[M5.mp q];exact .inl W2
  ·have hwt:wt=[]:=by cases wt with
    | nil=>rfl
    | cons _ _=>cases h
   subst hwt;exact⟨fd,e3,rfl,λp hp=>(hC.st p hp).resolve_right (by simp),λn hn l UT=>(hC.cl n hn l UT).resolve_right (by simp)⟩
 rintro _ ⟨fd,e3,rfl,hR⟩;exact ak (Hq 1 rfl ⟨fd,rfl,hR⟩)
abbrev xG:Stmt:=top pY
abbrev IL:ME:=["spots","known","lost"]
theorem FV:aN IL ["spots"] (ao xG):=TQ
theorem JS (M:cP K mg)(M2:kx K mg)(HC:bH K C h9)(HD:bH K D fT)(CT:aM P w K mg base "come_to" 1 (a9 (Ih C D) K))(F:dQ K "not_come_to" "not_come_to" xG f fd)(hm:mg "not_come_to"=some (.ref f))(hb:Binds K fd ["spots"] []):aM P w K mg base "not_come_to" 2 (a9 (ig C D) K):=by
 have nd:=FV.nd;have Vj:NI [("number":Str),"step","known"]:=by decide
 have Wv:NI [("step":Str)]:=by decide
 refine jo (k:=1) F FV hm hb (λqs T ⟨_,e,_⟩=>by rw[e];rfl) (λS6 A outer st H E qs T hr hS=>?_);obtain⟨s,rfl,hG,rfl⟩:=hS;have hu:=ru hr;have hl:=hG.l;change WS _ _ [.im (bD C D) s,.no,.no] _ _;refine ah (vA 1 CT hr (aq (aa 0 rfl) aJ) ⟨s,rfl,hG,rfl⟩ ?_);rintro _ ⟨fd,rfl,hR⟩;change WS _ _ [.im (bD C D) s,.im hV (dT fd),.no] _ _;refine ah (uS 2 (own:=["number","step"]) (fr:=["known"]) (ix:=[1]) (ra:=fD ai (bc C)) (rb:=bc C) (p:=λz=> !ic (dT fd) z.1) (f:=λz=>z.2) (cY (so:=ao xG) (N0:=IL) rfl rfl (λx h=>cj h) (by decide +kernel)) (iG M.enumerate (wD (C:=C) HD (aa 0 rfl)))
  (λC s H ex=>eh 0 1) (λx=>⟨.inr rfl,.inr rfl,.inl rfl,trivial⟩) (λC' s H ex z hz=>i6 (wm hu (aa 0 rfl) (aa 2 rfl))) (λC' s H ex z hz _=>aa 1 rfl) ?_)
 have lz:(((nums s.S).filter λz=> !ic (dT fd) z.1).map λz=>z.2).length<=240:=by
  rw[M8];refine O2 (OB _ _) ?_;rw[cJ];exact hl
 refine WS.freeze 2 rfl (aX (by omega)) ?_;refine ak (bb (bg.im (c7 (own:=["step"]) (fr:=[]) (ix:=[]) (ra:=bc C) (rb:=ai) (p:=λt=>decide (t.kind∈Tp)) (f:=λt=>t.word) (cY (so:=ao xG) (N0:=IL) rfl rfl (λx h=>cj h) (by decide +kernel)) (cu (aa 2 rfl))
  (λC s H ex=>bt 0) (λx=>⟨.inr rfl,trivial⟩) (λC' s H ex t ht=>i6 (au kg (gB (C:=C) HC (aa 0 rfl)) (gF M2.Tp))) (λC' s H ex t ht _=>JN (C:=C) HC (aa 0 rfl)))) ?_)
 refine iT λt ht=>?_;obtain⟨z,hz,rfl⟩:=Nx.mp ht;obtain⟨hz,hp⟩:=N9.mp hz;obtain⟨n,nl,e1,e2⟩:=mZ hz;refine SW λhk=>?_;have:=hG.ct fd hR n nl (by unfold aU;rw[show((n:Nat):Int).toNat=n by omega,e2];exact hk);rw[mi,e1,decide_eq_true this] at hp;cases hp
abbrev yb:Stmt:=top rC
abbrev EY:ME:=["spots","called"]
theorem HH:aN EY ["spots"] (ao yb):=TQ
theorem Kv (M:cP K mg)(HC:bH K C h9)(HD:bH K D fT)(CN:aM P w K mg base "name_words" 1 (a9 (wq C D) K))(Df:Def K mg "not_called" yb ["spots"]):aM P w K mg base "not_called" 2 (a9 (ig C D) K):=by
 have nd:=HH.nd;have Vj:NI [("step":Str)]:=by decide
 have Wv:NI [("part":Str),"called"]:=by decide
 refine bR (k:=1) Df HH (λf S6 A outer st H E qs T hr hS=>?_);obtain⟨s,rfl,hG,rfl⟩:=hS;change WS _ _ [.im (bD C D) s,.no] _ _;refine ah (bE 1 (bg.im (c7 (own:=["step"]) (fr:=[]) (ix:=[]) (ra:=bc C) (rb:=aj) (p:=λt=>decide (t.kind="call")) (f:=λt=>t.name) (cY (so:=ao yb) (N0:=EY) rfl rfl (λx h=>cj h) (by decide +kernel)) (cu (wD (C:=C) HD (aa 0 rfl)))
  (λC s H ex=>bt 0) (λx=>⟨.inr rfl,trivial⟩) (λC' s H ex t ht=>i6 (au aT (gB (C:=C) HC (aa 0 rfl)) ar)) (λC' s H ex t ht _=>oM (C:=C) HC (aa 0 rfl)))) ?_)
 generalize VF:(s.S.filter λt=>decide (t.kind=("call":Str))).map (λt=>t.name)=cs;change WS _ _ [.im (bD C D) s,.im (ae aj) cs] _ _;refine ak (bb (y:=([]:MC)) (aP CN hr (aq (aa 0 rfl) (aq (x:=([]:List PV)) (EV.cast (bg.im (c7 (own:=["part"]) (fr:=["called"]) (ix:=[1]) (ra:=ag) (rb:=ag) (xs:=cut (s.parts.map lC) (some 1) none) (p:=λz=> !decide (x9 z∈cs)) (f:=λz=>z) (cY (so:=ao yb) (N0:=EY) rfl rfl (λx h=>cj h) (by decide +kernel)) (cu (bg.im (j7 (jm (C:=C) HD (aa 0 rfl)) (ov_some ev_int) ov_none)))
  (λC s H ex=>bt 0) (λx=>⟨.inr rfl,.inl rfl,trivial⟩) (λC' s H ex z hz=>?_) (λC' s H ex z hz _=>aa 0 rfl))) ?_) aJ)) ⟨s,rfl,rfl⟩) rfl)
 ·rw[show((1:Int))=((1:Nat):Int) from rfl,pH,← OW] at hz;obtain⟨p,_,rfl⟩:=Nx.mp hz;exact i6 (au yO (EV.sP (x:=p.1) (eR (aa 0 rfl) ev_int rfl)) (aa 1 rfl))
 ·refine iT λz hz=>?_;rw[show((1:Int))=((1:Nat):Int) from rfl,pH,← OW] at hz;obtain⟨p,hp,rfl⟩:=Nx.mp hz;obtain⟨t,ht,hk,hn⟩:=hG.nc p hp;rw[yx,decide_eq_true (show p.1∈cs from by rw[← VF];exact Nx.mpr ⟨t,N9.mpr ⟨ht,decide_eq_true hk⟩,hn⟩)];rfl
end
def qk (ts:List Th)(k bh lp:Int):Int:=match ts with
 | []=>bh
 | .leave::_=>lp
 | .back::_=> -1
 | _::_=>k
mutual
def fb:Th->Int->Int->Int->List je
 | .Tr x,k,af,lp=>[("do",x,k,af, -1)]
 | .call j,k,af,lp=>[("call","",k,af,j)]
 | .ifs x A B,k,af,lp=>([(("yes":Str),x,k,qk A (k+1) af lp, -1),(("no":Str),x,k,qk B (aI A (k+1)).2 af lp, -1)]:List je)++(iL A (k+1) af lp++iL B (aI A (k+1)).2 af lp)
 | .Ta x A,k,af,lp=>([(("yes":Str),x,k,qk A (k+1) k af, -1),(("no":Str),x,k,af, -1)]:List je)++iL A (k+1) k af
 | .leave,_,_,_=>[]
 | .back,_,_,_=>[]
def iL:List Th->Int->Int->Int->List je
 | [],_,_,_=>[]
 | t::ts,k,bh,lp=>fb t k (qk ts (bw t k).2 bh lp) lp++iL ts (bw t k).2 bh lp
end
def vB (lp:Bool)(l:Int):PV:=if lp=true then .int l else .Tf
theorem rM {lo m:Int}{lp:Bool}{l:Int}:∀{ts:List Th}(k bh:Int),bG lo m lp ts->gi ts k (.int bh) (vB lp l)= .int (qk ts k bh l)
 | [],k,bh,_=>rfl
 | .leave::ts,k,bh,h=>by
   simp only[bG,cf] at h;show vB lp l= .int l;rw[vB,SS h.1]
 | .back::ts,k,bh,_=>rfl
 | .Tr _::ts,k,bh,_=>rfl
 | .call _::ts,k,bh,_=>rfl
 | .ifs _ _ _::ts,k,bh,_=>rfl
 | .Ta _ _::ts,k,bh,_=>rfl
mutual
theorem HP {lo m:Int}:∀(t:Th){lp:Bool}(l k af:Int),cf lo m lp t->dS t k (.int af) (vB lp l)=(fb t k af l).map fU
 | .Tr x,lp,l,k,af,_=>by rw[dS,fb];rfl
 | .call j,lp,l,k,af,_=>by rw[dS,fb];rfl
 | .leave,lp,l,k,af,_=>by rw[dS,fb];rfl
 | .back,lp,l,k,af,_=>by rw[dS,fb];rfl
 | .ifs x A B,lp,l,k,af,h=>by
   simp only[cf] at h;rw[dS,fb,rM (k+1) af h.2.1,rM _ af h.2.2,mr A l (k+1) af h.2.1,mr B l _ af h.2.2,Nn,Nn];rfl
 | .Ta x A,lp,l,k,af,h=>by
   simp only[cf] at h;have e:(PV.int af)=vB true af:=rfl;rw[dS,fb,e,rM (k+1) k h.2,mr A af (k+1) k h.2,Nn];rfl
theorem mr {lo m:Int}:∀(ts:List Th){lp:Bool}(l k bh:Int),bG lo m lp ts->dU ts k (.int bh) (vB lp l)=(iL ts k bh l).map fU
 | [],lp,l,k,bh,_=>by rw[dU,iL];rfl
 | t::ts,lp,l,k,bh,h=>by
   simp only[bG] at h;rw[dU,iL,rM _ bh h.2.2,HP t l k _ h.1,mr ts l _ bh h.2.2,Nn]
end
structure lM (mg:MA):Prop where
 beg:∃t,mg "BEGIN"=some (.int 0 t)
 end_:∃t,mg "END"=some (.int 1 t)
 parts:∃t,mg "MOST_PARTS"=some (.int 4 t)
 places:∃t,mg "MOST_PLACES"=some (.int 16 t)
 rows:∃t,mg "MOST_PROGRAM_ROWS"=some (.int 30 t)
section
variable {X:Cx}{Γ Γ1:Ga}{C D:Addr}
theorem tG (i j:Nat){x z:Str}{p1 p2 ap pos:Pos}{s:iW}{k y:Int}(hD:bH X.K D fT)(hΓ:Γ[i]?=some (.im (bD C D) s))(hj:Γ[j]?=some (ax k))(hk:cM s.St k=some y)(hN:X.N[i]?=some x:=by rfl)(hv:autoParam (cb X.env.scope x) Tv)(hd:Ti x:=by decide)(S9:Tz x:=by decide)(hN':X.N[j]?=some z:=by rfl)(UM:autoParam (cb X.env.scope z) Tv)(XQ:(z==("__debug__":Str))=false:=by decide)(hcd':(z==("__classdict__":Str))=false:=by decide)(hb:P6 (.Name x p1) "stands" X.env (eval (.Name x p1) X.env)=eval (.Name x p1) X.env:=by rfl)(hsx:eQ (.Name z p2):=by exact λ_ _=>rfl):pM X (.Subscript (.Attribute (.Name x p1) "stands" ap) (.Name z p2) pos) Γ y:=λσ H0 R0 H R E H' Q sR q=>by
 obtain⟨v,ea,xx,dx,vs,rfl,h1,h2⟩:=E.ent i _ hΓ;obtain⟨u,q1,q2⟩:=h2.get (f:="stands") rfl;obtain⟨b,ws,rfl,Ut,pp,hz⟩:=(show(ae ai).R X.K R u s.St from q2);obtain⟨v0,e0,U3⟩:=E.ent j _ hj;cases U3
 obtain⟨w,e3,e4⟩:=ie pp hk;cases e4
 exact eS (iJ gQ (t8 (a8 hN hv hd S9) hb) (a8 hN' UM XQ hcd') hsx) ⟨.ref xx,at_of ea,xx,D,dx,vs,.ref b,rfl,sR _ _ h1,hD.cl,hD.no _ (du (by decide)),q1,.int k,at_of e0,b,ws,k,.int y,rfl,rfl,aY.of (sR _ _ Ut),e3,q⟩
end
section
variable {C D:Addr}
abbrev CO:Stmt:=top nA
theorem G5:aN ["spots"] ["spots"] (ao CO):=TQ
def L7:PV->Int
 | .tup (_::_:: .int n::_)=>n
 | _=>0
theorem Kn (HD:bH K D fT)(CN:aM P w K mg base "name_words" 1 (a9 (wq C D) K))(Df:Def K mg "ended_at_begin" CO ["spots"]):aM P w K mg base "ended_at_begin" 2 (a9 (ig C D) K):=by
 have nd:=G5.nd;have Vj:NI [("part":Str),"spots"]:=by decide
 refine bR (k:=1) Df G5 (λf S6 A outer st H E qs T hr hS=>?_);obtain⟨s,rfl,hG,rfl⟩:=hS;change WS _ _ [.im (bD C D) s] _ _;refine ak (bb (y:=([]:MC)) (aP CN hr (aq (aa 0 rfl) (aq (x:=([]:List PV)) (EV.cast (bg.im (c7 (own:=["part"]) (fr:=["spots"]) (ix:=[0]) (ra:=ag) (rb:=ag) (p:=λz=>decide (s.St.getD (By z).toNat 0=L7 z)) (f:=λz=>z) (cY (so:=ao CO) (N0:=["spots"]) rfl rfl (λx h=>cj h) (by decide +kernel)) (cu (jm (C:=C) HD (aa 0 rfl)))
  (λC s H ex=>bt 0) (λx=>⟨.inr rfl,.inl rfl,trivial⟩) (λC' s' H ex z hz=>?_) (λC' s H ex z hz _=>aa 0 rfl))) ?_) aJ)) ⟨s,rfl,rfl⟩) rfl)
 ·obtain⟨p,hp,rfl⟩:=Nx.mp hz;obtain⟨p0,p1⟩:=hG.pv p hp;exact i6 (au jR (aB (Jx (C:=C) HD (aa 1 rfl)) (EV.iP (n:=p.2.1) (eR (aa 0 rfl) ev_int rfl)) (bB (xs:=s.St) (i:=p.2.1) 0 p0 (by rw[hG.sl];exact p1))) (EV.iP (n:=p.2.2) (eR (aa 0 rfl) ev_int rfl)))
 ·refine iT λz hz=>?_;obtain⟨p,hp,rfl⟩:=Nx.mp hz;exact SW (hG.eb p hp)
abbrev Cz:Stmt:=top qm
theorem HU:aN ["spots"] ["spots"] (ao Cz):=TQ
theorem Jj (M3:lM mg)(HD:bH K D fT)(Df:Def K mg "rows_beyond" Cz ["spots"]):aM P w K mg base "rows_beyond" 1 (a9 (ig C D) K):=by
 have nd:=HU.nd;have Vj:NI [("row":Str),"spots"]:=by decide
 refine bR Df HU (λf S6 A outer st H E qs T hr hS=>?_);obtain⟨s,rfl,hG,rfl⟩:=hS;obtain⟨t,ht⟩:=M3.rows;change WS _ _ [.im (bD C D) s] _ _;have hc:cut (s.rows.map jh) (some 30) none=[]:=by
  rw[show((30:Int))=((30:Nat):Int) from rfl,pH,← OW,Om hG.rl];rfl
 exact ak (bb (bg.im (c7 (own:=["row"]) (fr:=["spots"]) (ix:=[0]) (ra:=ag) (rb:=ai) (xs:=[]) (p:=λ_=>true) (f:=λ_=>0) (cY (so:=ao Cz) (N0:=["spots"]) rfl rfl (λx h=>cj h) (by decide +kernel)) (cu (EV.cast (bg.im (j7 (rJ (C:=C) HD (aa 0 rfl)) (ov_some (kL ht)) ov_none)) hc))
  (λC s H ex=>bt 0) (λx=>⟨.inr rfl,.inl rfl,trivial⟩) (λC' s H ex c hc=>hZ) (λC' s H ex o ho _=>by cases ho))) rfl)
abbrev E9:Stmt:=top oy
theorem GY:aN ["spots"] ["spots"] (ao E9):=TQ
theorem Ka (M3:lM mg)(HD:bH K D fT)(CN:aM P w K mg base "name_words" 1 (a9 (wq C D) K))(Df:Def K mg "parts_beyond" E9 ["spots"]):aM P w K mg base "parts_beyond" 2 (a9 (ig C D) K):=by
 have nd:=GY.nd;refine bR (k:=1) Df GY (λf S6 A outer st H E qs T hr hS=>?_);obtain⟨s,rfl,hG,rfl⟩:=hS;obtain⟨t,ht⟩:=M3.parts;change WS _ _ [.im (bD C D) s] _ _;have hc:cut (s.parts.map lC) (some 4) none=[]:=by
  rw[show((4:Int))=((4:Nat):Int) from rfl,pH,← OW,Om hG.pl];rfl
 exact ak (bb (y:=([]:MC)) (aP CN hr (aq (aa 0 rfl) (aq (x:=([]:List PV)) (EV.cast (bg.im (j7 (jm (C:=C) HD (aa 0 rfl)) (ov_some (kL ht)) ov_none)) hc) aJ)) ⟨s,rfl,rfl⟩) rfl)
abbrev A1:Stmt:=top uk
abbrev Ma:ME:=["spots","part","first","last","told","row","step"]
theorem B0:aN Ma ["spots","part"] (ao A1):=TQ
def FE (C D:Addr):dI:=λK ps T=>∃(s:iW)(i:Nat)(p:iX),ps=[⟨bD C D,s⟩,⟨ai,(i:Int)⟩]/\Good s/\s.parts[i]?=some p/\T=dq K ij (· =iI s p)
theorem mX (F:MJ)(k:Int):(de F k).length<=F.length+1:=by
 unfold de;split
 ·omega
 ·rw[M9];simp
theorem D8 (p:iX)(F:MJ)(r:Rw):(eP p F r).length<=F.length+2:=by
 unfold eP;split
 ·exact O2 (mX _ _) (by have:=mX F r.1;omega)
 ·omega
theorem ID (p:iX)(F:MJ)(rs:List Rw):(rs.foldl (eP p) F).length<=F.length+2*rs.length:=by
 induction rs generalizing F with
 | nil=>exact O0 _
 | cons r rs ih=>
   rw[Ou,Nf];have:=ih (eP p F r);have:=D8 p F r;omega
theorem Ib (M:cP K mg)(M3:lM mg)(HD:bH K D fT)(Df:Def K mg "places_in" A1 ["spots","part"]):aM P w K mg base "places_in" 1 (a9 (FE C D) K):=by
 have nd:=B0.nd;refine bR Df B0 (λf S6 A outer st H E qs T hr hS=>?_);obtain⟨s,i,p,rfl,hG,hp,rfl⟩:=hS;obtain⟨t1,hbg⟩:=M3.beg;obtain⟨t2,W6⟩:=M3.end_;have pm:=Ng hp;have il:=(M1.mp hp).1;obtain⟨p0,p1⟩:=hG.pv p pm;have hrl:=hG.rl;have Uq:cM (s.parts.map lC) (i:Int)=some (lC p):=by
  rw[jT (by omega) (by rw[M8];omega),show((i:Nat):Int).toNat=i by omega,Nc,hp];rfl
 change WS _ _ [.im (bD C D) s,ax (i:Int),.no,.no,.no,.no,.no] _ _;refine ah (bE 2 (y:=p.2.1) (EV.iP (eR (xs:=[.str p.1,.int p.2.1,.int p.2.2]) (aB (jm (C:=C) HD (aa 0 rfl)) (aa 1 rfl) Uq) ev_int rfl)) ?_);refine ah (bE 3 (y:=p.2.2) (EV.iP (eR (xs:=[.str p.1,.int p.2.1,.int p.2.2]) (aB (jm (C:=C) HD (aa 0 rfl)) (aa 1 rfl) Uq) ev_int rfl)) ?_);change WS _ _ [.im (bD C D) s,ax (i:Int),ax p.2.1,ax p.2.2,.no,.no,.no] _ _;refine ah (Dm 4 (v:=0) (u:=1) (tG (C:=C) 0 2 HD rfl rfl (bB (xs:=s.St) (i:=p.2.1) 0 p0 (by rw[hG.sl];exact p1))) (u5 3 rfl) (jy rfl hbg ⟨t1,rfl⟩) (jy rfl W6 ⟨t2,rfl⟩) (hG.eb p pm) ?_);generalize hF0:[(s.St.getD p.2.1.toNat 0,(0:Int)),(p.2.2,1)]=F0;have To:iI s p=s.rows.foldl (eP p) F0:=by unfold iI;rw[hF0]
 have f0l:F0.length=2:=by rw[← hF0];rfl
 rw[To];change WS _ _ [.im (bD C D) s,ax (i:Int),ax p.2.1,ax p.2.2,.di (bU F0),.no,.no] _ _;refine bL (N1:=λΓ=>∃e5 e6,Γ=[.im (bD C D) s,ax (i:Int),ax p.2.1,ax p.2.2,.di (bU (s.rows.foldl (eP p) F0)),e5,e6]) (bP (λj Γ=>∃e5 e6,Γ=[.im (bD C D) s,ax (i:Int),ax p.2.1,ax p.2.2,.di (bU ((s.rows.take j).foldl (eP p) F0)),e5,e6]) (cu (rJ (C:=C) HD (aa 0 rfl))) (bt 5) ⟨_,_,rfl⟩ (λj z Γ hz hΓ=>?_) (λΓ hΓ=>?_)) ?_
 ·obtain⟨e5,e6,rfl⟩:=hΓ;rw[Nc] at hz;obtain⟨r,Uo,rfl⟩:=Pt.mp hz;have jl:=(M1.mp Uo).1;have fl:=ID p F0 (s.rows.take j);have tl:(s.rows.take j).length<=30:=by rw[Nu];omega
  have UN:(s.rows.take (j+1)).foldl (eP p) F0=eP p ((s.rows.take j).foldl (eP p) F0) r:=by rw[NH,Uo,Od];rfl
  rw[UN];generalize (s.rows.take j).foldl (eP p) F0=Fj at fl;have fj:Fj.length<=62:=by omega
  change WS _ _ [.im (bD C D) s,ax (i:Int),ax p.2.1,ax p.2.2,.di (bU Fj),.im ag (jh r),e6] _ _;refine ak (aL (Ae mv mv (aa 2 rfl) (EV.iP (n:=r.1) (eR (aa 5 rfl) ev_int rfl)) (aa 3 rfl)) (λh=>?_) (λh=>aA ⟨.im ag (jh r),e6,?_⟩))
  ·have UO:oH p r=true:=h;have hcut:cut [PV.int r.1,.int r.2.1,.str r.2.2.1,.str r.2.2.2] none (some 2)=[.int r.1,.int r.2.1]:=rfl;have g:eP p Fj r=de (de Fj r.1) r.2.1:=SS UO;rw[g];have l1:=mX Fj r.1;refine ak (bP (r:=ag) (xs:=[.int r.1,.int r.2.1]) (λq Γ=>∃e6,Γ=[.im (bD C D) s,ax (i:Int),ax p.2.1,ax p.2.2,.di (bU (([r.1,r.2.1].take q).foldl de Fj)),.im ag (jh r),e6]) (Eb (by show 2<=PZ;decide) (EV.cast (Hm (aa 5 rfl) ov_none (ov_some ev_int)) (congrArg PV.tup hcut))) (bt 6) ⟨_,rfl⟩ (λq y Γ hy hΓ=>?_) (λΓ hΓ=>?_))
   ·obtain⟨e6,rfl⟩:=hΓ;obtain⟨n,hn,rfl⟩:∃n,[r.1,r.2.1][q]?=some n/\PV.int n=y:=by
     have:([r.1,r.2.1].map PV.int)[q]?=some y:=hy;rw[Nc] at this;exact Pt.mp this
    have hnq:([r.1,r.2.1].take (q+1)).foldl de Fj=de (([r.1,r.2.1].take q).foldl de Fj) n:=by rw[NH,hn,Od];rfl
    rw[hnq];have hql:(([r.1,r.2.1].take q).foldl de Fj).length<=64:=by
     have key:∀(ks:MC)(G:MJ),(ks.foldl de G).length<=G.length+ks.length:=by
      intro ks
      induction ks with
      | nil=>intro G;exact O0 _
      | cons k ks ih=>intro G;rw[Ou,Nf];have:=ih (de G k);have:=mX G k;omega
     have:=key ([r.1,r.2.1].take q) Fj;have:([r.1,r.2.1].take q).length<=2:=by rw[Nu];exact Pj _ _
     omega
    generalize ([r.1,r.2.1].take q).foldl de Fj=G at hql;change WS _ _ [.im (bD C D) s,ax (i:Int),ax p.2.1,ax p.2.2,.di (bU G),.im ag (jh r),.im ag (.int n)] _ _;refine ak (FK 4 (k:=n) (EV.iP (aa 6 rfl)) (lH 4 M.len rfl) rfl (O6 hql (by decide)) ⟨.im ag (.int n),?_⟩);unfold de;rfl
   ·obtain⟨e6,rfl⟩:=hΓ;exact⟨.im ag (jh r),e6,rfl⟩
  ·have UO:¬oH p r=true:=by
    rw[show oH p r=false from h];decide
   rw[show eP p Fj r=Fj from SR UO]
 ·obtain⟨e5,e6,rfl⟩:=hΓ;refine⟨e5,e6,?_⟩;rw[M8,NN]
 rintro _ ⟨e5,e6,rfl⟩;exact ak (vX 4 rfl rfl)
end
def wL:PV->Int
 | .tup (.int n::_)=>n
 | _=>0
section
variable {C D:Addr}
abbrev zo:Stmt:=top nW
abbrev FU:ME:=["spots","known","lost","found","number","part","whole"]
theorem FF:aN FU ["spots"] (ao zo):=TQ
theorem Ku (M:cP K mg)(M3:lM mg)(HD:bH K D fT)(CN:aM P w K mg base "name_words" 1 (a9 (wq C D) K))(CT:aM P w K mg base "come_to" 1 (a9 (Ih C D) K))(CP:aM P w K mg base "places_in" 1 (a9 (FE C D) K))(F:dQ K "places_beyond" "places_beyond" zo f fd)(hm:mg "places_beyond"=some (.ref f))(hb:Binds K fd ["spots"] []):aM P w K mg base "places_beyond" 2 (a9 (ig C D) K):=by
 have nd:=FF.nd;have Vj:NI [("row":Str),"known"]:=by decide
 have Wv:NI [("row":Str),"part"]:=by decide
 refine jo (k:=1) F FF hm hb (λqs T ⟨_,e,_⟩=>by rw[e];rfl) (λS6 A outer st H E qs T hr hS=>?_);obtain⟨s,rfl,hG,rfl⟩:=hS;obtain⟨t,hmp⟩:=M3.places;have hu:=ru hr;change WS _ _ [.im (bD C D) s,.no,.no,.no,.no,.no,.no] _ _;refine ah (vA 1 CT hr (aq (aa 0 rfl) aJ) ⟨s,rfl,hG,rfl⟩ ?_);rintro _ ⟨fd,rfl,hR⟩;change WS _ _ [.im (bD C D) s,.im hV (dT fd),.no,.no,.no,.no,.no] _ _;have XF:(((s.rows.map jh).filter λz=> !ic (dT fd) (wL z)).map wL)=[]:=iT λz hz=>by
  obtain⟨r,Uo,rfl⟩:=Nx.mp hz;obtain⟨⟨r0,r1⟩,rk⟩:=hG.rk r Uo;have:=hG.ct fd hR r.1.toNat (by omega) (by rw[show((r.1.toNat:Nat):Int)=r.1 by omega];exact rk);rw[show((r.1.toNat:Nat):Int)=r.1 by omega] at this;show(!ic (dT fd) r.1)=false;rw[mi,decide_eq_true this];rfl
 refine ah (uS 2 (own:=["row"]) (fr:=["known"]) (ix:=[1]) (ra:=ag) (rb:=ai) (p:=λz=> !ic (dT fd) (wL z)) (f:=wL) (cY (so:=ao zo) (N0:=FU) rfl rfl (λx h=>cj h) (by decide +kernel)) (cu (rJ (C:=C) HD (aa 0 rfl)))
  (λC s H ex=>bt 0) (λx=>⟨.inr rfl,.inl rfl,trivial⟩) (λC' s H ex z hz=>by
   obtain⟨r,_,rfl⟩:=Nx.mp hz;exact i6 (wm hu (EV.iP (n:=r.1) (eR (aa 0 rfl) ev_int rfl)) (aa 1 rfl))) (λC' s H ex z hz _=>by
   obtain⟨r,_,rfl⟩:=Nx.mp hz;exact EV.iP (n:=r.1) (eR (aa 0 rfl) ev_int rfl)) ?_)
 rw[XF];refine WS.freeze 2 rfl (O3 _) ?_;refine ah (cO 3 (r:=ag) (ys:=[]) (aV aQ (O3 _)) ?_);change WS _ _ [.im (bD C D) s,.im hV (dT fd),er [],.mu ag [],.no,.no,.no] _ _;refine bL (N1:=λΓ=>∃e4 e5 e6,Γ=[.im (bD C D) s,.im hV (dT fd),er [],.mu ag [],e4,e5,e6]) (bP (λi Γ=>∃e4 e5 e6,Γ=[.im (bD C D) s,.im hV (dT fd),er [],.mu ag [],e4,e5,e6]) (iG M.enumerate (jm (C:=C) HD (aa 0 rfl))) (eh 4 5) ⟨_,_,_,rfl⟩ (λi z Γ hz hΓ=>?_) (λΓ hΓ=>hΓ)) ?_
 ·obtain⟨e4,e5,e6,rfl⟩:=hΓ;obtain⟨e1,e2⟩:=eJ hz;rw[Nc] at e2;obtain⟨p,hp,ep⟩:=Pt.mp e2;obtain⟨zn,zp⟩:=z;dsimp only at e1 ep;subst ep;subst e1;change WS _ _ [.im (bD C D) s,.im hV (dT fd),er [],.mu ag [],ax (i:Int),.im ag (lC p),e6] _ _;refine ah (bE 6 (y:=true) (EV.cast (yi (GC M.any (bg.im (c7 (own:=["row"]) (fr:=["part"]) (ix:=[5]) (ra:=ai) (rb:=cN) (p:=λ_=>true) (f:=λ_=>true) (cY (so:=ao zo) (N0:=FU) rfl rfl (λx h=>cj h) (by decide +kernel)) (cu (aa 2 rfl))
   (λC s H ex=>bt 0) (λx=>⟨.inr rfl,.inl rfl,trivial⟩) (λC' s H ex c hc=>hZ) (λC' s H ex o ho _=>by cases ho))))) rfl) ?_)
  change WS _ _ [.im (bD C D) s,.im hV (dT fd),er [],.mu ag [],ax (i:Int),.im ag (lC p),.im cN true] _ _;refine ak (aL (TW.tv (cD (cq (aa 6 rfl)) (λ_=>cZ (au jS (Ba M.len (aP CP hr (aq (aa 0 rfl) (aq (aa 4 rfl) aJ)) ⟨s,i,p,rfl,hG,hp,rfl⟩)) (kL hmp))))) (λh=>?_) (λh=>aA ⟨_,_,_,rfl⟩));exfalso;have:=hG.pc p (Ng hp);rw[SW (show¬(16:Int)<((iI s p).length:Int) by omega)] at h;cases h
 rintro _ ⟨e4,e5,e6,rfl⟩;refine WS.freeze 3 rfl (O3 _) ?_;exact ak (bb (y:=([]:MC)) (aP CN hr (aq (aa 0 rfl) (aq (aa 3 rfl) aJ)) ⟨s,rfl,rfl⟩) rfl)
abbrev FG:Stmt:=top rp
abbrev nHI:ME:=["spots","found"]
theorem Fm:aN nHI ["spots"] (ao FG):=TQ
theorem JR (NA:aM P w K mg base "named_again" 2 (a9 (ig C D) K))(CA:aM P w K mg base "called_astray" 1 (a9 (ig C D) K))(NC:aM P w K mg base "not_come_to" 2 (a9 (ig C D) K))(NL:aM P w K mg base "not_called" 2 (a9 (ig C D) K))(EB:aM P w K mg base "ended_at_begin" 2 (a9 (ig C D) K))(RB:aM P w K mg base "rows_beyond" 1 (a9 (ig C D) K))(PY:aM P w K mg base "places_beyond" 2 (a9 (ig C D) K))(PB:aM P w K mg base "parts_beyond" 2 (a9 (ig C D) K))(Df:Def K mg "hindrances" FG ["spots"]):aM P w K mg base "hindrances" 3 (a9 (ig C D) K):=by
 have nd:=Fm.nd;have CA:=CA.mono (show 1<=2 by decide);have RB:=RB.mono (show 1<=2 by decide);refine bR (k:=2) Df Fm (λf S6 A outer st H E qs T hr hS=>?_);obtain⟨s,rfl,hG,rfl⟩:=hS;change WS _ _ [.im (bD C D) s,.no] _ _;have z:(([]:MC)).length+(([]:MC)).length<=PZ:=O3 _;refine ah (bE 1 (y:=([]:MC)) (bg.im (cF (xs:=[]) (ys:=[]) (bg.im (cF (xs:=[]) (ys:=[]) (bg.im (cF (xs:=[]) (ys:=[]) (aP NA hr (aq (aa 0 rfl) aJ) ⟨s,rfl,hG,rfl⟩) (aP CA hr (aq (aa 0 rfl) aJ) ⟨s,rfl,hG,rfl⟩) z)) (aP NC hr (aq (aa 0 rfl) aJ) ⟨s,rfl,hG,rfl⟩) z)) (aP NL hr (aq (aa 0 rfl) aJ) ⟨s,rfl,hG,rfl⟩) z)) ?_);change WS _ _ [.im (bD C D) s,er []] _ _;exact ak (bb (y:=([]:MC)) (bg.im (cF (xs:=[]) (ys:=[]) (bg.im (cF (xs:=[]) (ys:=[]) (bg.im (cF (xs:=[]) (ys:=[]) (bg.im (cF (xs:=[]) (ys:=[]) (aa 1 rfl) (aP EB hr (aq (aa 0 rfl) aJ) ⟨s,rfl,hG,rfl⟩) z)) (aP RB hr (aq (aa 0 rfl) aJ) ⟨s,rfl,hG,rfl⟩) z)) (aP PY hr (aq (aa 0 rfl) aJ) ⟨s,rfl,hG,rfl⟩) z)) (aP PB hr (aq (aa 0 rfl) aJ) ⟨s,rfl,hG,rfl⟩) z)) rfl)
abbrev Fu:Stmt:=top oS
abbrev nNP:ME:=["text","spots","found"]
theorem Fs:aN nNP ["text"] (ao Fu):=TQ
def KY (C D:Addr):dI:=λK ps T=>∃(x:Str)(S:List aH)(Ld:List MC),ps=[⟨aj,x⟩]/\uE x S/\qG S Ld/\Good (fY S Ld)/\T=dq K (bD C D) (· =fY S Ld)
theorem KA (G:tM P w K mg base C D)(CH:aM P w K mg base "hindrances" 3 (a9 (ig C D) K))(Df:Def K mg "need_program" Fu ["text"]):aM P w K mg base "need_program" 6 (a9 (KY C D) K):=by
 have nd:=Fs.nd;have CH:=CH.mono (show 3<=5 by decide);refine bR (k:=5) Df Fs (λf S6 A outer st H E qs T hr hS=>?_);obtain⟨x,S,Ld,rfl,hx,hk,hG,rfl⟩:=hS;change WS _ _ [.im aj x,.no,.no] _ _;refine ah (bE 1 (y:=fY S Ld) (Af G hr (aq (aa 0 rfl) aJ) hx hk) ?_);refine ah (bE 2 (y:=([]:MC)) (aP CH hr (aq (aa 1 rfl) aJ) ⟨fY S Ld,rfl,hG,rfl⟩) ?_);change WS _ _ [.im aj x,.im (bD C D) (fY S Ld),er []] _ _;refine ah (aL (uP (aa 2 rfl)) (λh=>by cases h) (λ_=>aA ?_));exact ak (bb (aa 1 rfl) rfl)
end
section
variable {α:Type}{a b:Int}{l:MC}
def Pure:Prop:=∀(SX:ME)(Ls:List (List Th)),cS SX Ls->∃Ld,qG (aD SX Ls) Ld/\Good (fY (aD SX Ls) Ld)
theorem DT {SX:ME}{Ls:List (List Th)}(h:cS SX Ls):uE (R9 " " (ji SX Ls)) (aD SX Ls):=by
 obtain⟨pl,po⟩:=tO h;refine⟨ji SX Ls,_,rfl,λe=>?_,pl,po,qO h⟩;have:=h.l1;have hl:=h.l;cases SX with
 | nil=>rw[Nr] at hl;omega
 | cons x SX=>cases Ls with
   | nil=>exact SQ h.l1 (by simp)
   | cons L Ls=>
     unfold ji at e;rw[List.zip_cons_cons,N2] at e;unfold fg at e;simp at e
def cm (S:List α)(a:Nat)(vs:List α):Prop:=∀(i:Nat)(v:α),vs[i]?=some v->S[a+i]?=some v
theorem cm.app {S:List α}{w:Nat}{a b:List α}(h:cm S w (a++b)):cm S w a/\cm S (w+a.length) b:=by
 refine⟨λi v hv=>h i v ?_,λi v hv=>?_⟩
 ·rw[NF (M1.mp hv).1];exact hv
 ·have:=h (a.length+i) v (by rw[Ny (by omega),show a.length+i-a.length=i by omega];exact hv);rw[show w+a.length+i=w+(a.length+i) by omega];exact this
theorem cm.self (S:List α):cm S 0 S:=λi v hv=>by rw[Pa];exact hv
theorem cm.d {α:Type}{S:List α}{a:Nat}{vs:List α}(h:cm S a vs){i:Nat}{v:α}(hv:vs[i]?=some v)(d:α):S.getD (a+i) d=v/\a+i<S.length:=by
 have:=h i v hv;exact⟨by rw[Na,this];rfl,(M1.mp this).1⟩
theorem cm.k {S:List aH}{a:Nat}{vs:List aH}(h:cm S a vs){i:Nat}{v:aH}(hv:vs[i]?=some v):aU S ((a+i:Nat):Int)=v.kind/\cy S ((a+i:Nat):Int)=v.within/\a+i<S.length:=by
 obtain⟨e,l⟩:=h.d hv c5;unfold aU;rw[show(((a+i:Nat)):Int).toNat=a+i by omega,e];refine⟨rfl,?_,l⟩;show(S.getD (((a+i:Nat)):Int).toNat c5).within=_;rw[show(((a+i:Nat)):Int).toNat=a+i by omega,e]
def cw (S:List aH):MC:=(S.filter λt=>decide (t.kind∈S7)).map (·.within)
theorem gx (a b:List aH):cw (a++b)=cw a++cw b:=by unfold cw;rw[Oh,Nn]
theorem lJ {s:aH}(h:s.kind∉S7):cw [s]=[]:=by unfold cw;rw[N8 (by simpa using h)];rfl
theorem oY {s:aH}(h:s.kind∈S7):cw [s]=[s.within]:=by unfold cw;rw[N7 (by simpa using h)];rfl
def ip (a b:Int)(l:MC):Prop:=l.Nodup/\∀x∈l,a<=x/\x<b
theorem ip.app {c:Int}{m:MC}(h:ip a b l)(h':ip b c m)(h1:a<=b)(h2:b<=c):ip a c (l++m):=by
 refine⟨NJ.mpr ⟨h.1,h'.1,λx hx y hy e=>?_⟩,λx hx=>?_⟩
 ·have:=h.2 x hx;have:=h'.2 y hy;omega
 ·rcases Nj.mp hx with z | z
  ·have:=h.2 x z;omega
  ·have:=h'.2 x z;omega
theorem ip.wide {a' b':Int}(h:ip a b l)(h1:a'<=a)(h2:b<=b'):ip a' b' l:=⟨h.1,λx hx=>by have:=h.2 x hx;omega⟩
theorem ip.add {x:Int}(h:ip a b l)(hx:x<a∨b<=x)(lo hi:Int)(h1:lo<=a)(h2:b<=hi)(h3:lo<=x)(h4:x<hi):ip lo hi (l++[x]):=by
 refine⟨jB h.1 λz=>by have:=h.2 x z;omega,λy hy=>?_⟩;rcases Nj.mp hy with z | z
 ·have:=h.2 y z;omega
 ·rw[M5.mp z];omega
theorem ip.nil (a b:Int):ip a b []:=⟨OI,λx h=>by cases h⟩
mutual
theorem cwT {SX:ME}:∀(t:Th)(a w u:Int),ip a (a+bp t) (cw (spT SX a w u t))
 | .Tr _,a,w,u=>by rw[spT,lJ (show("do":Str)∉S7 by decide +kernel)];exact .nil _ _
 | .call _,a,w,u=>by rw[spT,lJ (show("call":Str)∉S7 by decide +kernel)];exact .nil _ _
 | .leave,a,w,u=>by rw[spT,lJ (show("leave":Str)∉S7 by decide +kernel)];exact .nil _ _
 | .back,a,w,u=>by rw[spT,lJ (show("back":Str)∉S7 by decide +kernel)];exact .nil _ _
 | .Ta x A,a,w,u=>by
   have h:=y3 (SX:=SX) A (a+1) (w+2) a;rw[spT,bp,gx,gx,lJ (show("while":Str)∉S7 by decide +kernel),oY (show("end":Str)∈S7 by decide +kernel),NV];push_cast;exact h.add (.inl (by omega)) _ _ (by omega) (by omega) (by omega) (by omega)
 | .ifs x A B,a,w,u=>by
   have h:=y3 (SX:=SX) A (a+1) (w+2) a;have h':=y3 (SX:=SX) B (a+2+S4 A) (w+3+(Td SX A).length) (a+1+S4 A);rw[spT,bp,gx,gx,gx,gx,lJ (show("if":Str)∉S7 by decide +kernel),oY (show("else":Str)∈S7 by decide +kernel),oY (show("end":Str)∈S7 by decide +kernel),NV];push_cast;have g1:ip a (a+1+S4 A) (cw (bQ SX (a+1) (w+2) a A)++[a]):=h.add (.inl (by omega)) _ _ (by omega) (by omega) (by omega) (by omega);have g2:ip (a+1+S4 A) (a+2+S4 A+S4 B) (cw (bQ SX (a+2+S4 A) (w+3+(Td SX A).length) (a+1+S4 A) B)++[a+1+S4 A]):=h'.add (.inl (by omega)) _ _ (by omega) (by omega) (by omega) (by omega);have g:=g1.app g2 (by omega) (by omega);rw[Nl] at g;exact g.wide (by omega) (by omega)
theorem y3 {SX:ME}:∀(ts:List Th)(a w u:Int),ip a (a+S4 ts) (cw (bQ SX a w u ts))
 | [],a,w,u=>by rw[bQ];exact .nil _ _
 | t::ts,a,w,u=>by
   have h:=cwT (SX:=SX) t a w u;have h':=y3 (SX:=SX) ts (a+bp t) (w+(cL SX t).length) u;rw[bQ,gx,S4];push_cast;exact(h.app h' (by omega) (by omega)).wide (by omega) (by omega)
end
end
section
variable {S:List aH}
theorem KJ {SX:ME}:∀(zs:List (Str×List Th))(a w:Int),ip a (a+cV zs) (cw (gW SX a w zs))
 | [],a,w=>by rw[gW];exact .nil _ _
 | z::r,a,w=>by
   have h:=y3 (SX:=SX) z.2 (a+1) (w+2) a;have h':=KJ (SX:=SX) r (a+2+S4 z.2) (w+3+(Td SX z.2).length);rw[gW,cV,gx,gx,gx,lJ (show("part":Str)∉S7 by decide +kernel),oY (show("end":Str)∈S7 by decide +kernel),NV];push_cast;have g1:ip a (a+2+S4 z.2) (cw (bQ SX (a+1) (w+2) a z.2)++[a]):=h.add (.inl (by omega)) _ _ (by omega) (by omega) (by omega) (by omega);have g:=g1.app h' (by omega) (by omega);rw[Nl] at g;exact g.wide (by omega) (by omega)
theorem AW {a b:Option Int}(h:a.map V.int=b.map V.int):a=b:=by
 cases a<;>cases b<;>simp at h<;>simp[h]
theorem tf (F:MJ)(k v j:Int):bJ (iC F k v) j=if j=k then some v else bJ F j:=by
 have h:=Ad (cE (bU F)) (Sum.inl k:Key) (Sum.inl j) (.int v);rw[sA,j5,j5] at h;apply AW;rw[h];by_cases e:j=k
 ·rw[SS (by rw[e]),SS e];rfl
 ·rw[SR (λz=>e (Sum.inl.inj z)),SR e]
theorem lY {F:MJ}{k:Int}:(bJ F k).isSome=true↔k∈F.map (·.1):=by
 unfold bJ;rw[Px,List.find?_isSome];simp only[decide_eq_true_eq,Nx]
theorem vz {k:Int}:∀{ps:List (Int×aH)}{F:MJ},(∀z∈ps,z.2.kind∈S7->z.2.within≠k)->bJ (ps.foldl gg F) k=bJ F k
 | [],F,_=>rfl
 | y::ps,F,h=>by
   rw[Ou,vz λz hz=>h z (M7 _ hz)];unfold gg;split
   ·rename_i hc;rw[tf,SR (λe=>h y Nb hc e.symm)]
   ·rfl
theorem pU:∀{ps:List (Int×aH)}{F:MJ},((ps.filter λz=>decide (z.2.kind∈S7)).map (·.2.within)).Nodup->∀z∈ps,z.2.kind∈S7->bJ (ps.foldl gg F) z.2.within=some z.1
 | y::ps,F,nd,z,hz,hc=>by
   rw[Ou];by_cases hy:y.2.kind∈S7
   ·rw[N7 (by simpa using hy),Nz,ND] at nd;rcases Nd.mp hz with rfl | hz
    ·rw[vz λx hx hxc e=>nd.1 (Nx.mpr ⟨x,N9.mpr ⟨hx,by simpa using hxc⟩,e⟩)];unfold gg;rw[SS hy,tf,SS rfl]
    ·exact pU nd.2 z hz hc
   ·rw[N8 (by simpa using hy)] at nd;rcases Nd.mp hz with rfl | hz
    ·exact SQ hc hy
    ·exact pU nd z hz hc
theorem nS (S:List aH):(nums S).map (·.2)=S:=by
 refine Oo λi=>?_;rw[Nc];rcases O9 i S.length with h | h
 ·have hn:i<(nums S).length:=by rw[cJ];exact h
  rw[M4 hn];have:=(eJ (M4 hn)).2;rw[this];rfl
 ·rw[NY (by rw[cJ];exact h),NY h];rfl
theorem Ei (S:List aH):cw S=((nums S).filter λz=>decide (z.2.kind∈S7)).map (·.2.within):=by
 conv=>lhs;rw[← nS S]
 unfold cw;rw[filter_map,NX];rfl
theorem sG {n:Nat}{s:aH}(h:S[n]?=some s):((n:Int),s)∈nums S:=by
 have hl:=(M1.mp h).1;have hn:n<(nums S).length:=by rw[cJ];exact hl
 obtain⟨e1,e2⟩:=eJ (M4 hn);rw[h] at e2;have:(nums S)[n]=((n:Int),s):=Py e1 (Option.some.inj e2).symm;rw[← this];exact NK hn
theorem pG (nd:(cw S).Nodup){n:Nat}{s:aH}(h:S[n]?=some s)(hc:s.kind∈S7):bJ (dN S) s.within=some (n:Int):=by
 rw[Ei] at nd;exact pU nd ((n:Int),s) (sG h) hc
def Up (S:List aH)(u:Int)(kd:Str)(a:Int):Prop:=∃k:Nat,Tt (cy S) k u=a/\(∀j,j<=k->0<=Tt (cy S) j u/\Tt (cy S) j u<(S.length:Int))/\(∀j,j<k->aU S (Tt (cy S) j u)≠kd)/\aU S a=kd
theorem qp {α:Type}(f:α->α)(x:α)(j:Nat):Tt f (j+1) x=Tt f j (f x):=by
 rw[show j+1=1+j by omega,nq];rfl
theorem Up.here {u:Int}{kd:Str}(h0:0<=u)(h1:u<(S.length:Int))(hk:aU S u=kd):Up S u kd u:=⟨0,rfl,λj hj=>by
 obtain rfl:j=0:=by omega
 exact⟨h0,h1⟩,λj hj=>by omega,hk⟩
theorem Up.step {u a:Int}{kd:Str}(h0:0<=u)(h1:u<(S.length:Int))(hk:aU S u≠kd)(h:Up S (cy S u) kd a):Up S u kd a:=by
 obtain⟨k,e,UO,T9,ha⟩:=h;refine⟨k+1,by rw[qp];exact e,λj hj=>?_,λj hj=>?_,ha⟩
 ·cases j with
  | zero=>exact⟨h0,h1⟩
  | succ j=>rw[qp];exact UO j (by omega)
 ·cases j with
  | zero=>exact hk
  | succ j=>rw[qp];exact T9 j (by omega)
mutual
def eI (a wl pe:Int):Th->List MC
 | .Tr _=>[[a+1]]
 | .call _=>[[a+1]]
 | .ifs _ A B=>[[a+1,a+2+S4 A]]++fI (a+1) wl pe A++([[a+2+S4 A+S4 B]]++(fI (a+2+S4 A) wl pe B++[[a+3+S4 A+S4 B]]))
 | .Ta _ A=>[[a+1,a+2+S4 A]]++(fI (a+1) (a+2+S4 A) pe A++[[a]])
 | .leave=>[[wl]]
 | .back=>[[pe]]
def fI (a wl pe:Int):List Th->List MC
 | []=>[]
 | t::ts=>eI a wl pe t++fI (a+bp t) wl pe ts
end
end
mutual
theorem m7:∀(t:Th)(a wl pe:Int),(eI a wl pe t).length=bp t
 | .Tr _,_,_,_=>by simp[eI,bp]
 | .call _,_,_,_=>by simp[eI,bp]
 | .ifs x A B,a,wl,pe=>by
   simp only[eI,bp,M9,dw A,dw B,Nf,Nr];omega
 | .Ta x A,a,wl,pe=>by
   simp only[eI,bp,M9,dw A,Nf,Nr];omega
 | .leave,_,_,_=>by simp[eI,bp]
 | .back,_,_,_=>by simp[eI,bp]
theorem dw:∀(ts:List Th)(a wl pe:Int),(fI a wl pe ts).length=S4 ts
 | [],_,_,_=>by simp[fI,S4]
 | t::ts,a,wl,pe=>by rw[fI,S4,M9,m7 t,dw ts]
end
section
variable {S:List aH}{Ld:List MC}{B pe:Int}{a:Nat}
def qV (a:Int):List (Str×List Th)->List MC
 | []=>[]
 | z::r=>[[a+1]]++(fI (a+1) 0 (a+1+S4 z.2) z.2++([[]]++qV (a+2+S4 z.2) r))
theorem vJ:∀(zs:List (Str×List Th))(a:Int),(qV a zs).length=cV zs
 | [],_=>rfl
 | z::r,a=>by
   rw[qV,cV];simp only[M9,dw,vJ r,Nf,Nr];omega
structure kH (S:List aH)(Ld:List MC)(B pe:Int)(n:Nat):Prop where
 ld:eD S (dN S) (n:Int) (Ld.getD n [])
 rg:∀l∈Ld.getD n [],B<=l/\l<=pe
 ln:(Ld.getD n []).length<=2
 go:aZ (aU S (n:Int))=false->∃l r,Ld.getD n []=l::r/\((n:Int)<l∨aZ (aU S l)=true)
structure zG (S:List aH)(B pe wl u:Int)(lp:Bool)(hi:Nat):Prop where
 pt:∃p,Up S u "part" p/\bJ (dN S) p=some pe
 wh:lp=true->(∃A,Up S u "while" A/\bJ (dN S) A=some (wl-1))/\(hi:Int)<=wl/\wl<=pe
 pe:(hi:Int)<=pe
 u0:0<=u
 u1:u<(S.length:Int)
def gD (S:List aH)(Ld:List MC)(B pe:Int)(a k:Nat):Prop:=∀i,i<k->kH S Ld B pe (a+i)
theorem gD.app {k m:Nat}(h:gD S Ld B pe a k)(h':gD S Ld B pe (a+k) m):gD S Ld B pe a (k+m):=λi hi=>by
 by_cases q:i<k
 ·exact h i q
 ·have:=h' (i-k) (by omega);rwa [show a+k+(i-k)=a+i by omega] at this
theorem gD.one (h:kH S Ld B pe a):gD S Ld B pe a 1:=λi hi=>by
 obtain rfl:i=0:=by omega
 exact h
theorem gD.nil:gD S Ld B pe a 0:=λi hi=>by omega
theorem oE:aZ "do"=true:=by decide +kernel
theorem lX:aZ "call"=true:=by decide +kernel
theorem kM:aZ "if"=true:=by decide +kernel
theorem fP:aZ "while"=true:=by decide +kernel
theorem i9 {n:Nat}{l:Int}(hL:Ld.getD n []=[l])(h:eD S (dN S) (n:Int) [l])(h0:B<=l)(h1:l<=pe)(hg:(n:Int)<l∨aZ (aU S l)=true):kH S Ld B pe n:=by
 refine⟨by rw[hL];exact h,by rw[hL];intro x hx;rw[M5.mp hx];exact⟨h0,h1⟩,by rw[hL];exact Pb 1,λ_=>⟨l,[],hL,hg⟩⟩
theorem zk {n:Nat}{l m:Int}(hL:Ld.getD n []=[l,m])(h:eD S (dN S) (n:Int) [l,m])(h0:B<=l)(h1:l<=pe)(h2:B<=m)(h3:m<=pe)(hg:aZ (aU S (n:Int))=true):kH S Ld B pe n:=by
 refine⟨by rw[hL];exact h,by
  rw[hL];intro x hx;rcases Nd.mp hx with rfl | hx
  ·exact⟨h0,h1⟩
  ·rw[M5.mp hx];exact⟨h2,h3⟩,by rw[hL];exact O0 2,λq=>by rw[hg] at q;cases q⟩
end
section
variable {S:List aH}{Ld:List MC}{SX:ME}{lo m B pe:Int}(Vy:(cw S).Nodup)
include Vy
mutual
theorem stT:∀(t:Th)(lp:Bool)(a:Nat)(w u wl:Int),cf lo m lp t->cm S a (spT SX (a:Int) w u t)->cm Ld a (eI (a:Int) wl pe t)->zG S B pe wl u lp (a+bp t)->B<=(a:Int)->gD S Ld B pe a (bp t)
 | .Tr x,lp,a,w,u,wl,h,hS,hL,hc,hB=>by
   rw[spT] at hS;rw[eI] at hL;simp only[bp] at hc ⊢;obtain⟨k1,k2,k3⟩:=hS.k (i:=0) rfl;have e1:=(hL.d (i:=0) rfl []).1;have:=hc.pe;refine .one (i9 e1 (.VC (.inr (.inl k1))) (by omega) (by push_cast at this;omega) (.inl ?_));show(a:Int)<_;omega
 | .call x,lp,a,w,u,wl,h,hS,hL,hc,hB=>by
   rw[spT] at hS;rw[eI] at hL;simp only[bp] at hc ⊢;obtain⟨k1,k2,k3⟩:=hS.k (i:=0) rfl;have e1:=(hL.d (i:=0) rfl []).1;have:=hc.pe;refine .one (i9 e1 (.VC (.inr (.inr k1))) (by omega) (by push_cast at this;omega) (.inl ?_));show(a:Int)<_;omega
 | .leave,lp,a,w,u,wl,h,hS,hL,hc,hB=>by
   simp only[cf] at h;rw[spT] at hS;rw[eI] at hL;simp only[bp] at hc ⊢;obtain⟨k1,k2,k3⟩:=hS.k (i:=0) rfl;have e1:=(hL.d (i:=0) rfl []).1;obtain⟨⟨A,hA,hF⟩,w1,w2⟩:=hc.wh h;push_cast at w1;have hl:eD S (dN S) ((a+0:Nat):Int) [wl-1+1]:=.V4 (a:=A) k1 (by unfold Ar;rw[k2];exact hA) hF;rw[show wl-1+1=wl by omega] at hl;refine .one (i9 e1 hl (by omega) (by omega) (.inl ?_));show(a:Int)<_;omega
 | .back,lp,a,w,u,wl,h,hS,hL,hc,hB=>by
   rw[spT] at hS;rw[eI] at hL;simp only[bp] at hc ⊢;obtain⟨k1,k2,k3⟩:=hS.k (i:=0) rfl;have e1:=(hL.d (i:=0) rfl []).1;obtain⟨p,hp,hF⟩:=hc.pt;have w1:=hc.pe;push_cast at w1;refine .one (i9 e1 (.Wn (a:=p) k1 (by unfold Ar;rw[show cy S (a:Int)=u from k2];exact hp) hF) (by omega) (by omega) (.inl ?_));show(a:Int)<_;omega
 | .Ta x A,lp,a,w,u,wl,h,hS,hL,hc,hB=>by
   simp only[cf] at h;rw[spT] at hS;rw[eI] at hL;simp only[bp] at hc ⊢;obtain⟨s1,s2⟩:=hS.app;obtain⟨s2,s3⟩:=s2.app;obtain⟨d1,d2⟩:=hL.app;obtain⟨d2,d3⟩:=d2.app;rw[bV] at s3;rw[dw] at d3;simp only[Nf,Nr] at s2 s3 d2 d3;obtain⟨k1,k2,k3⟩:=s1.k (i:=0) rfl;obtain⟨k4,k5,k6⟩:=s3.k (i:=0) rfl;have e1:=(d1.d (i:=0) rfl []).1;have e3:=(d3.d (i:=0) rfl []).1;have hF:bJ (dN S) (a:Int)=some (((a+(0+1)+S4 A+0:Nat)):Int):=pG (s:=⟨"end","",w+2+(Td SX A).length,(a:Int)⟩) Vy (s3 0 _ rfl) (show("end":Str)∈S7 by decide +kernel);have Xx:=hc.pe;push_cast at Xx hF;have Vr:aU S (a:Int)="while":=k1;have k2':cy S (a:Int)=u:=k2;have ala:a<S.length:=k3;have p1:kH S Ld B pe a:=by
    have hl:eD S (dN S) (a:Int) [(a:Int)+1,(a:Int)+(0+1)+S4 A+0+1]:=.row (.inr Vr) hF;rw[show(a:Int)+(0+1)+S4 A+0+1=(a:Int)+2+S4 A by omega] at hl;exact zk e1 hl (by omega) (by omega) (by omega) (by omega) (by rw[Vr];exact fP)
   have c2:zG S B pe ((a:Int)+2+S4 A) (a:Int) true (a+(0+1)+S4 A):=by
    obtain⟨p,hp,Xy⟩:=hc.pt;refine⟨⟨p,.step (by omega) (by omega) (by rw[Vr];decide +kernel) (by rw[k2'];exact hp),Xy⟩,λ_=>⟨⟨(a:Int),.here (by omega) (by omega) Vr,?_⟩,by push_cast;omega,by omega⟩,by push_cast;omega,by omega,by omega⟩;rw[hF];congr 1;omega
   have p2:=yz A true (a+(0+1)) (w+2) (a:Int) ((a:Int)+2+S4 A) h.2 (by push_cast;exact s2) (by push_cast;exact d2) c2 (by push_cast;omega);have p3:kH S Ld B pe (a+(0+1)+S4 A+0):=by
    have hl:eD S (dN S) ((a+(0+1)+S4 A+0:Nat):Int) [cy S ((a+(0+1)+S4 A+0:Nat):Int)]:=.Wh k4 (by rw[k5];show(0:Int)<=(a:Int);omega) (by rw[k5];show(a:Int)<_;omega) (by rw[k5];exact Vr);rw[k5] at hl;exact i9 e3 hl (by omega) (by omega) (.inr (by rw[Vr];exact fP))
   have:=(gD.one p1).app (p2.app (gD.one p3));rwa [show 1+(S4 A+1)=2+S4 A by omega] at this
 | .ifs x A Bb,lp,a,w,u,wl,h,hS,hL,hc,hB=>by
   simp only[cf] at h;rw[spT,Nl] at hS;rw[eI,Nl] at hL;simp only[bp] at hc ⊢;obtain⟨s1,s2⟩:=hS.app;obtain⟨s2,s3⟩:=s2.app;obtain⟨s3,s4⟩:=s3.app;obtain⟨s4,s5⟩:=s4.app;obtain⟨d1,d2⟩:=hL.app;obtain⟨d2,d3⟩:=d2.app;obtain⟨d3,d4⟩:=d3.app;obtain⟨d4,d5⟩:=d4.app;rw[bV] at s3 s4 s5;rw[bV] at s5;rw[dw] at d3 d4 d5;rw[dw] at d5;simp only[Nf,Nr] at s2 s3 s4 s5 d2 d3 d4 d5;obtain⟨k1,k2,k3⟩:=s1.k (i:=0) rfl;obtain⟨k4,k5,k6⟩:=s3.k (i:=0) rfl;obtain⟨k7,k8,k9⟩:=s5.k (i:=0) rfl;have e1:=(d1.d (i:=0) rfl []).1;have e3:=(d3.d (i:=0) rfl []).1;have e5:=(d5.d (i:=0) rfl []).1;have hF:bJ (dN S) (a:Int)=some (((a+(0+1)+S4 A+0:Nat)):Int):=pG (s:=⟨"else","",w+2+(Td SX A).length,(a:Int)⟩) Vy (s3 0 _ rfl) (show("else":Str)∈S7 by decide +kernel);have hF2:bJ (dN S) ((a:Int)+1+S4 A)=some (((a+(0+1)+S4 A+(0+1)+S4 Bb+0:Nat)):Int):=pG (s:=⟨"end","",w+3+(Td SX A).length+(Td SX Bb).length,(a:Int)+1+S4 A⟩) Vy (s5 0 _ rfl) (show("end":Str)∈S7 by decide +kernel);have Xx:=hc.pe;push_cast at Xx hF hF2;have Vr:aU S (a:Int)="if":=k1;have k2':cy S (a:Int)=u:=k2;have ala:a<S.length:=k3;have en:((a+(0+1)+S4 A+0:Nat):Int)=(a:Int)+1+S4 A:=by push_cast;omega
   rw[en] at k4 k5;have k4':aU S ((a:Int)+1+S4 A)="else":=k4;have k5':cy S ((a:Int)+1+S4 A)=(a:Int):=k5;have p1:kH S Ld B pe a:=by
    have hl:eD S (dN S) (a:Int) [(a:Int)+1,(a:Int)+(0+1)+S4 A+0+1]:=.row (.inl Vr) hF;rw[show(a:Int)+(0+1)+S4 A+0+1=(a:Int)+2+S4 A by omega] at hl;exact zk e1 hl (by omega) (by omega) (by omega) (by omega) (by rw[Vr];exact kM)
   have cA:zG S B pe wl (a:Int) lp (a+(0+1)+S4 A):=by
    obtain⟨p,hp,Xy⟩:=hc.pt;refine⟨⟨p,.step (by omega) (by omega) (by rw[Vr];decide +kernel) (by rw[k2'];exact hp),Xy⟩,λq=>?_,by push_cast;omega,by omega,by omega⟩;obtain⟨⟨Aw,hA,hAF⟩,w1,w2⟩:=hc.wh q;push_cast at w1;exact⟨⟨Aw,.step (by omega) (by omega) (by rw[Vr];decide +kernel) (by rw[k2'];exact hA),hAF⟩,by push_cast;omega,w2⟩
   have cB:zG S B pe wl ((a:Int)+1+S4 A) lp (a+(0+1)+S4 A+(0+1)+S4 Bb):=by
    obtain⟨p,hp,Xy⟩:=cA.pt;refine⟨⟨p,.step (by omega) (by omega) (by rw[k4'];decide +kernel) (by rw[k5'];exact hp),Xy⟩,λq=>?_,by push_cast;omega,by omega,by omega⟩;obtain⟨⟨Aw,hA,hAF⟩,w1,w2⟩:=cA.wh q;obtain⟨_,w3,_⟩:=hc.wh q;push_cast at w3;exact⟨⟨Aw,.step (by omega) (by omega) (by rw[k4'];decide +kernel) (by rw[k5'];exact hA),hAF⟩,by push_cast;omega,w2⟩
   have p2:=yz A lp (a+(0+1)) (w+2) (a:Int) wl h.2.1 (by push_cast;exact s2) (by push_cast;exact d2) cA (by push_cast;omega);have p3:kH S Ld B pe (a+(0+1)+S4 A+0):=by
    have hl:eD S (dN S) ((a+(0+1)+S4 A+0:Nat):Int) [(a:Int)+(0+1)+S4 A+(0+1)+S4 Bb+0]:=by rw[en];exact .Wl k4' hF2
    rw[show(a:Int)+(0+1)+S4 A+(0+1)+S4 Bb+0=(a:Int)+2+S4 A+S4 Bb by omega] at hl;exact i9 e3 hl (by omega) (by omega) (.inl (by push_cast;omega))
   have q4:(((a+(0+1)+S4 A+(0+1):Nat)):Int)=(a:Int)+2+S4 A:=by push_cast;omega
   have p4:=yz Bb lp (a+(0+1)+S4 A+(0+1)) (w+3+(Td SX A).length) ((a:Int)+1+S4 A) wl h.2.2 (by rw[q4];exact s4) (by rw[q4];exact d4) cB (by push_cast;omega);have p5:kH S Ld B pe (a+(0+1)+S4 A+(0+1)+S4 Bb+0):=by
    have hl:eD S (dN S) ((a+(0+1)+S4 A+(0+1)+S4 Bb+0:Nat):Int) [((a+(0+1)+S4 A+(0+1)+S4 Bb+0:Nat):Int)+1]:=.Wj k7 (by rw[k8];show(0:Int)<=(a:Int)+1+S4 A;omega) (by rw[k8];show(a:Int)+1+S4 A<_;omega) (by rw[k8];exact k4');rw[show((a+(0+1)+S4 A+(0+1)+S4 Bb+0:Nat):Int)+1=(a:Int)+3+S4 A+S4 Bb by push_cast;omega] at hl;exact i9 e5 hl (by omega) (by omega) (.inl (by push_cast;omega))
   have:=(gD.one p1).app (p2.app ((gD.one p3).app (p4.app (gD.one p5))));rwa [show 1+(S4 A+(1+(S4 Bb+1)))=3+S4 A+S4 Bb by omega] at this
theorem yz:∀(ts:List Th)(lp:Bool)(a:Nat)(w u wl:Int),bG lo m lp ts->cm S a (bQ SX (a:Int) w u ts)->cm Ld a (fI (a:Int) wl pe ts)->zG S B pe wl u lp (a+S4 ts)->B<=(a:Int)->gD S Ld B pe a (S4 ts)
 | [],lp,a,w,u,wl,h,hS,hL,hc,hB=>by rw[S4];exact .nil
 | t::ts,lp,a,w,u,wl,h,hS,hL,hc,hB=>by
   simp only[bG] at h;rw[bQ] at hS;rw[fI] at hL;rw[S4] at hc ⊢;obtain⟨s1,s2⟩:=hS.app;obtain⟨d1,d2⟩:=hL.app;rw[jx] at s2;rw[m7] at d2;have Xx:=hc.pe;push_cast at Xx;have p1:=stT t lp a w u wl h.1 s1 d1 ⟨hc.pt,λq=>by
    obtain⟨x,y,z⟩:=hc.wh q;push_cast at y;exact⟨x,by push_cast;omega,z⟩,by push_cast;omega,hc.u0,hc.u1⟩ hB
   have p2:=yz ts lp (a+bp t) (w+(cL SX t).length) u wl h.2.2 (by push_cast;exact s2) (by push_cast;exact d2) ⟨hc.pt,λq=>by
    obtain⟨x,y,z⟩:=hc.wh q;push_cast at y;exact⟨x,by push_cast;omega,z⟩,by push_cast;omega,hc.u0,hc.u1⟩ (by push_cast;omega)
   exact p1.app p2
end
end
structure HF (S:List aH)(Ld:List MC)(SX:ME)(f:Nat)(w:Int)(z:Str×List Th):Prop where
 s:cm S f ([⟨"part",z.1,w, -1⟩]++(bQ SX ((f:Int)+1) (w+2) (f:Int) z.2++[⟨"end","",w+2+(Td SX z.2).length,(f:Int)⟩]))
 d:cm Ld f ([[(f:Int)+1]]++(fI ((f:Int)+1) 0 ((f:Int)+1+S4 z.2) z.2++[[]]))
theorem cm.pre {α:Type}{S:List α}{a:Nat}{x y:List α}(h:cm S a (x++y)):cm S a x:=h.app.1
theorem zN {S:List aH}{Ld:List MC}{SX:ME}:∀{zs:List (Str×List Th)}{a:Nat}{w:Int},cm S a (gW SX (a:Int) w zs)->cm Ld a (qV (a:Int) zs)->∀(j:Nat)(z:Str×List Th),zs[j]?=some z->∃w',HF S Ld SX (a+cV (zs.take j)) w' z
 | [],_,_,_,_,j,z,h=>by simp at h
 | y::r,a,w,hS,hL,j,z,h=>by
   rw[gW] at hS;rw[qV] at hL;cases j with
   | zero=>
     have e:y=z:=by simpa using h
     subst e;refine⟨w,?_,?_⟩
     ·rw[show([⟨"part",y.1,w, -1⟩]++(bQ SX ((a:Int)+1) (w+2) (a:Int) y.2++([⟨"end","",w+2+(Td SX y.2).length,(a:Int)⟩]++gW SX ((a:Int)+2+S4 y.2) (w+3+(Td SX y.2).length) r)):List aH)=([⟨"part",y.1,w, -1⟩]++(bQ SX ((a:Int)+1) (w+2) (a:Int) y.2++[⟨"end","",w+2+(Td SX y.2).length,(a:Int)⟩]))++gW SX ((a:Int)+2+S4 y.2) (w+3+(Td SX y.2).length) r by simp only[Nl]] at hS;exact hS.pre
     ·rw[show([[(a:Int)+1]]++(fI ((a:Int)+1) 0 ((a:Int)+1+S4 y.2) y.2++([[]]++qV ((a:Int)+2+S4 y.2) r)):List MC)=([[(a:Int)+1]]++(fI ((a:Int)+1) 0 ((a:Int)+1+S4 y.2) y.2++[[]]))++qV ((a:Int)+2+S4 y.2) r by simp only[Nl]] at hL;exact hL.pre
   | succ j=>
     have s4:=hS.app.2.app.2.app.2;have d4:=hL.app.2.app.2.app.2;rw[bV] at s4;rw[dw] at d4;simp only[Nf,Nr] at s4 d4;have e:a+(0+1)+S4 y.2+(0+1)=a+2+S4 y.2:=by omega
     rw[e] at s4 d4;have:=zN (zs:=r) (a:=a+2+S4 y.2) (w:=w+3+(Td SX y.2).length) (by push_cast;exact s4) (by push_cast;exact d4) j z (by simpa using h);rw[NQ,cV];rwa [show a+(2+S4 y.2+cV (r.take j))=a+2+S4 y.2+cV (r.take j) by omega]
theorem cover:∀(zs:List (Str×List Th))(n:Nat),n<cV zs->∃(j:Nat)(z:Str×List Th),zs[j]?=some z/\cV (zs.take j)<=n/\n<cV (zs.take j)+2+S4 z.2
 | [],n,h=>by rw[cV] at h;omega
 | y::r,n,h=>by
   rw[cV] at h;by_cases q:n<2+S4 y.2
   ·exact⟨0,y,rfl,O3 _,by show n<0+2+_;omega⟩
   ·obtain⟨j,z,h1,h2,h3⟩:=cover r (n-(2+S4 y.2)) (by omega);exact⟨j+1,z,h1,by rw[NQ,cV];omega,by rw[NQ,cV];omega⟩
theorem nt:∀(zs:List (Str×List Th))(j k:Nat)(z:Str×List Th),zs[j]?=some z->j<k->cV (zs.take j)+2+S4 z.2<=cV (zs.take k)
 | [],j,k,z,h,_=>by simp at h
 | y::r,0,k+1,z,h,_=>by
   have e:y=z:=by simpa using h
   subst e;rw[NQ,cV,Ol,cV];omega
 | y::r,j+1,k+1,z,h,hk=>by
   have:=nt r j k z (by simpa using h) (by omega);rw[NQ,NQ,cV,cV];omega
variable {S:List aH}{Ld:List MC}{SX:ME}{f:Nat}{w:Int}{z:Str×List Th}
abbrev lst (f:Nat)(z:Str×List Th):Nat:=f+1+S4 z.2
structure eO (S:List aH)(Ld:List MC)(SX:ME)(f:Nat)(w:Int)(z:Str×List Th):Prop where
 k:aU S (f:Int)="part"
 nm:S[f]?=some ⟨"part",z.1,w, -1⟩
 s:cm S (f+1) (bQ SX (((f+1:Nat)):Int) (w+2) (f:Int) z.2)
 d:cm Ld (f+1) (fI (((f+1:Nat)):Int) 0 ((lst f z:Nat):Int) z.2)
 e:S[lst f z]?=some ⟨"end","",w+2+(Td SX z.2).length,(f:Int)⟩
 df:Ld.getD f []=[(f:Int)+1]
 dl:Ld.getD (lst f z) []=[]
 dn:lst f z<Ld.length
theorem HF.p (h:HF S Ld SX f w z):eO S Ld SX f w z:=by
 obtain⟨hS,hL⟩:=h;obtain⟨s1,s2⟩:=hS.app;obtain⟨s2,s3⟩:=s2.app;obtain⟨d1,d2⟩:=hL.app;obtain⟨d2,d3⟩:=d2.app;rw[bV] at s3;rw[dw] at d3;simp only[Nf,Nr] at s2 s3 d2 d3;refine⟨(s1.k (i:=0) rfl).1,s1 0 _ rfl,by push_cast;exact s2,by push_cast;exact d2,s3 0 _ rfl,(d1.d (i:=0) rfl []).1,(d3.d (i:=0) rfl []).1,(d3.d (i:=0) rfl []).2⟩
theorem dk {n:Nat}{s:aH}(h:S[n]?=some s):aU S (n:Int)=s.kind/\cy S (n:Int)=s.within:=by
 have e:S.getD ((n:Nat):Int).toNat c5=s:=by rw[show((n:Nat):Int).toNat=n by omega,Na,h];rfl
 exact⟨by unfold aU;rw[e],by show(S.getD ((n:Nat):Int).toNat c5).within=_;rw[e]⟩
theorem eO.cl (h:eO S Ld SX f w z)(Vy:(cw S).Nodup):bJ (dN S) (f:Int)=some ((lst f z:Nat):Int):=pG Vy h.e (show("end":Str)∈S7 by decide +kernel)
theorem eO.all (h:eO S Ld SX f w z)(Vy:(cw S).Nodup){lo m:Int}(S8:bG lo m false z.2):∀n,f<=n->n<lst f z->kH S Ld ((f:Int)+1) ((lst f z:Nat):Int) n:=by
 have fl:f<S.length:=(M1.mp h.nm).1;have hs:=yz (B:=(f:Int)+1) (lo:=lo) (m:=m) Vy z.2 false (f+1) (w+2) (f:Int) 0 S8 h.s h.d ⟨⟨(f:Int),.here (by omega) (by omega) h.k,h.cl Vy⟩,(λq=>by cases q),MZ _,by omega,by omega⟩ (by push_cast;omega);intro n h1 h2;by_cases q:n=f
 ·subst q;exact i9 h.df (.VC (.inl h.k)) (by omega) (by push_cast;omega) (.inl (by omega))
 ·have h2':n<f+1+S4 z.2:=h2;have:=hs (n-(f+1)) (by omega);rwa [show f+1+(n-(f+1))=n by omega] at this
theorem eO.last (h:eO S Ld SX f w z):eD S (dN S) ((lst f z:Nat):Int) (Ld.getD (lst f z) []):=by
 obtain⟨k1,k2⟩:=dk h.e;have fl:f<S.length:=(M1.mp h.nm).1;rw[h.dl];exact .Wi k1 (by rw[k2];show(0:Int)<=(f:Int);omega) (by rw[k2];show(f:Int)<_;omega) (by rw[k2];exact h.k)
section
variable {SX:ME}{Ls:List (List Th)}
abbrev dA (SX:ME)(Ls:List (List Th)):List (Str×List Th):=SX.zip Ls
abbrev dt (SX:ME)(Ls:List (List Th)):List MC:=qV 0 (dA SX Ls)
abbrev fst (SX:ME)(Ls:List (List Th))(j:Nat):Nat:=cV ((dA SX Ls).take j)
theorem kZ {j:Nat}{z:Str×List Th}(h:(dA SX Ls)[j]?=some z):∃w,eO (aD SX Ls) (dt SX Ls) SX (fst SX Ls j) w z:=by
 obtain⟨w,hw⟩:=zN (S:=aD SX Ls) (Ld:=dt SX Ls) (SX:=SX) (zs:=dA SX Ls) (a:=0) (w:=0) (cm.self _) (cm.self _) j z h;rw[Pa] at hw;exact⟨w,hw.p⟩
theorem o9:(cw (aD SX Ls)).Nodup:=(KJ (SX:=SX) (dA SX Ls) 0 0).1
theorem eY (h:cS SX Ls){j:Nat}{z:Str×List Th}(hz:(dA SX Ls)[j]?=some z):bG (j:Int) (Ls.length:Int) false z.2/\gG z.2/\bW z.2<=14/\SX[j]?=some z.1/\Ls[j]?=some z.2:=by
 obtain⟨h1,h2⟩:=g7 hz;have hm:=Ng h2;exact⟨h.ok j z.2 h2,h.hd z.2 hm,h.rw z.2 hm,h1,h2⟩
theorem xl:(aD SX Ls).length=cV (dA SX Ls):=v9 _ _ _
theorem JA:(dt SX Ls).length=cV (dA SX Ls):=vJ _ _
theorem lr (h:cS SX Ls)(n:Nat)(hn:n<(aD SX Ls).length):∃(j:Nat)(z:Str×List Th)(w:Int),(dA SX Ls)[j]?=some z/\eO (aD SX Ls) (dt SX Ls) SX (fst SX Ls j) w z/\fst SX Ls j<=n/\n<=lst (fst SX Ls j) z/\lst (fst SX Ls j) z<(aD SX Ls).length:=by
 rw[xl] at hn;obtain⟨j,z,h1,h2,h3⟩:=cover _ n hn;obtain⟨w,hb⟩:=kZ (SX:=SX) (Ls:=Ls) h1;refine⟨j,z,w,h1,hb,h2,by show n<=cV (List.take j (dA SX Ls))+1+S4 z.2;omega,(M1.mp hb.e).1⟩
theorem AM (h:cS SX Ls):wV (aD SX Ls) (dt SX Ls)/\r8 (aD SX Ls) (dt SX Ls)/\∀ls∈dt SX Ls,ls.length<=2:=by
 have hl:(dt SX Ls).length=(aD SX Ls).length:=by rw[xl,JA]
 have key:∀n,n<(aD SX Ls).length->eD (aD SX Ls) (dN (aD SX Ls)) (n:Int) ((dt SX Ls).getD n [])/\(∀l∈(dt SX Ls).getD n [],0<=l/\l<((aD SX Ls).length:Int))/\((dt SX Ls).getD n []).length<=2:=by
  intro n hn;obtain⟨j,z,w,hz,hb,h1,h2,h3⟩:=lr h n hn;by_cases q:n=lst (fst SX Ls j) z
  ·subst q;refine⟨hb.last,?_,?_⟩
   ·rw[hb.dl];intro l hl;cases hl
   ·rw[hb.dl];exact O3 _
  ·have st:=hb.all o9 (eY h hz).1 n h1 (by omega);refine⟨st.ld,λl UT=>?_,st.ln⟩;have:=st.rg l UT;omega
 have mem:∀ls∈dt SX Ls,∃n,n<(aD SX Ls).length/\(dt SX Ls).getD n []=ls:=λls hm=>by
  obtain⟨n,hn,e⟩:=Oz hm;exact⟨n,by omega,by rw[Na,M4 hn,e];rfl⟩
 refine⟨⟨hl,λn hn=>(key n hn).1⟩,⟨hl,λls hm l UT=>?_⟩,λls hm=>?_⟩
 ·obtain⟨n,hn,e⟩:=mem ls hm;exact(key n hn).2.1 l (by rw[e];exact UT)
 ·obtain⟨n,hn,e⟩:=mem ls hm;rw[← e];exact(key n hn).2.2
end
section
variable {S:List aH}{Ld:List MC}
variable {n:Nat}
theorem wC {i:Nat}(hi:i<S.length)(hn:n≠S.length-1-i):(U8 S Ld (i+1)).getD n 0=(U8 S Ld i).getD n 0:=by
 rw[jH hi];unfold pf;split
 ·simp only[Na];rw[Nt (by omega)]
 ·rfl
theorem t6:∀(i n:Nat),i<=S.length->n<S.length-i->(U8 S Ld i).getD n 0=(n:Int)
 | 0,n,_,h=>by
   show(ups 0 S.length).getD n 0=_;rw[Na];unfold ups;rw[Nc,Oc (by omega)];show(0:Int)+(n:Int)=_;omega
 | i+1,n,hi,h=>by rw[wC (by omega) (by omega)];exact t6 i n (by omega) (by omega)
theorem wk {i n:Nat}(hn:S.length-i<=n):∀d:Nat,i+d<=S.length->(U8 S Ld (i+d)).getD n 0=(U8 S Ld i).getD n 0
 | 0,_=>rfl
 | d+1,h=>by rw[← Pm,wC (by omega) (by omega)];exact wk hn d (by omega)
theorem uO {i:Nat}(hi:i<=S.length)(hn:S.length-i<=n):(U8 S Ld i).getD n 0=(a7 S Ld).getD n 0:=by
 have:=wk (S:=S) (Ld:=Ld) hn (S.length-i) (by omega);rw[show i+(S.length-i)=S.length by omega] at this;exact this.symm
theorem gY (hn:n<S.length)(h:(Ld.getD n [])=[]∨aZ (aU S (n:Int))=true):(a7 S Ld).getD n 0=(n:Int):=by
 rw[← uO (i:=S.length-1-n+1) (by omega) (by omega),jH (by omega),show(S.length:Int)-1-((S.length-1-n:Nat):Int)=(n:Int) by omega];unfold pf;rw[SR (by
  rw[show((n:Nat):Int).toNat=n by omega];rintro⟨h1,h2⟩;rcases h with h | h
  ·rw[h] at h1;cases h1
  ·rw[h] at h2;cases h2)]
 exact t6 _ n (by omega) (by omega)
theorem lS (hn:n<S.length){l:Int}{r:MC}(hL:Ld.getD n []=l::r)(hr:aZ (aU S (n:Int))=false)(l0:0<=l)(l1:l<(S.length:Int)):(a7 S Ld).getD n 0=if(n:Int)<l then(a7 S Ld).getD l.toNat 0 else l:=by
 rw[← uO (i:=S.length-1-n+1) (n:=n) (by omega) (by omega),jH (by omega),show(S.length:Int)-1-((S.length-1-n:Nat):Int)=(n:Int) by omega];unfold pf;rw[show((n:Nat):Int).toNat=n by omega,hL,SS ⟨rfl,hr⟩];have ln:=jG (S:=S) (Ld:=Ld) (S.length-1-n) (by omega);rw[Na,Ni (by omega)];show(U8 S Ld (S.length-1-n)).getD l.toNat 0=_;by_cases q:(n:Int)<l
 ·rw[SS q];exact uO (by omega) (by omega)
 ·rw[SR q,t6 _ _ (by omega) (by omega)];omega
end
section
variable {lo m:Int}
def KZ (S:List aH)(f l:Nat)(v:Int):Prop:=(f:Int)<v/\v<=(l:Int)/\(v=(l:Int)∨aZ (aU S v)=true)
theorem eO.Jn (h:eO S Ld SX f w z)(Vy:(cw S).Nodup)(S8:bG lo m false z.2):∀(d n:Nat),lst f z-n=d->f<=n->n<=lst f z->KZ S f (lst f z) ((a7 S Ld).getD n 0):=by
 have ll:lst f z<S.length:=(M1.mp h.e).1;have fl:f<lst f z:=by show f<f+1+S4 z.2;omega
 intro d
 induction d using Nat.strongRecOn with
 | _ d ih=>
   intro n hd h1 h2;by_cases q:n=lst f z
   ·rw[q,gY ll (.inl h.dl)];exact⟨by omega,MZ _,.inl rfl⟩
   ·have st:=h.all Vy S8 n h1 (by omega);cases hr:aZ (aU S (n:Int)) with
    | true=>
      rw[gY (by omega) (.inr hr)];have:n≠f:=λe=>by
       rw[e,h.k] at hr;exact SQ hr (by decide +kernel)
      exact⟨by omega,by omega,.inr hr⟩
    | false=>
      obtain⟨l,r,hL,hg⟩:=st.go hr;obtain⟨r0,r1⟩:=st.rg l (by rw[hL];exact Nb);rw[lS (by omega) hL hr (by omega) (by omega)];by_cases ql:(n:Int)<l
      ·rw[SS ql];exact ih (lst f z-l.toNat) (by omega) l.toNat rfl (by omega) (by omega)
      ·rw[SR ql];exact⟨by omega,r1,.inr (hg.resolve_left ql)⟩
theorem oa (h:eO S Ld SX f w z)(S8:bG lo m false z.2)(hh:gG z.2):aZ (aU S ((f+1:Nat):Int))=true/\1<=S4 z.2:=by
 obtain⟨t,ts,e,hb⟩:=hh;have hs:=h.s;rw[e] at hs S8 ⊢;rw[bQ] at hs;simp only[bG] at S8;rw[S4];have hs:=hs.pre;cases t with
 | Tr x=>rw[spT] at hs;refine⟨?_,by simp only[bp];omega⟩;rw[show((f+1:Nat):Int)=((f+1+0:Nat):Int) from rfl,(hs.k (i:=0) rfl).1];exact oE
 | call x=>rw[spT] at hs;refine⟨?_,by simp only[bp];omega⟩;rw[show((f+1:Nat):Int)=((f+1+0:Nat):Int) from rfl,(hs.k (i:=0) rfl).1];exact lX
 | ifs x A B=>rw[spT] at hs;refine⟨?_,by simp only[bp];omega⟩;rw[show((f+1:Nat):Int)=((f+1+0:Nat):Int) from rfl,(hs.pre.pre.k (i:=0) rfl).1];exact kM
 | Ta x A=>rw[spT] at hs;refine⟨?_,by simp only[bp];omega⟩;rw[show((f+1:Nat):Int)=((f+1+0:Nat):Int) from rfl,(hs.pre.k (i:=0) rfl).1];exact fP
 | leave=>simp only[cf] at S8;cases S8.1
 | back=>cases hb
theorem eO.first (h:eO S Ld SX f w z)(S8:bG lo m false z.2)(hh:gG z.2):(a7 S Ld).getD f 0=((f+1:Nat):Int):=by
 have ll:lst f z<S.length:=(M1.mp h.e).1;have ll:f+1+S4 z.2<S.length:=ll;obtain⟨hr,h1⟩:=oa h S8 hh;rw[lS (n:=f) (by omega) h.df (by rw[h.k];decide +kernel) (by omega) (by omega),SS (by omega),show((f:Int)+1).toNat=f+1 by omega];exact gY (by omega) (.inr hr)
def kO (Ld:List MC)(fd:MC):Prop:=∀n∈fd,∀l∈Ld.getD n.toNat [],l∈fd
theorem kO.on {Ld:List MC}{fd:MC}(h:kO Ld fd){n:Nat}{ls:MC}(hn:(n:Int)∈fd)(hL:Ld.getD n []=ls){l:Int}(hl:l∈ls):l∈fd:=h _ hn l (by rw[show((n:Nat):Int).toNat=n by omega,hL];exact hl)
end
section
variable {S:List aH}{Ld:List MC}{SX:ME}{fd:MC}{lo m:Int}(hC:kO Ld fd)
include hC
mutual
theorem goT:∀(t:Th)(lp:Bool)(a:Nat)(w u wl pe:Int),cf lo m lp t->cm S a (spT SX (a:Int) w u t)->cm Ld a (eI (a:Int) wl pe t)->(a:Int)∈fd->(∀i,i<bp t->aU S ((a+i:Nat):Int)∈Tp->((a+i:Nat):Int)∈fd)/\(eu t=true->((a+bp t:Nat):Int)∈fd)
 | .Tr x,lp,a,w,u,wl,pe,h,hS,hL,ha=>by
   rw[eI] at hL;simp only[bp];refine⟨(λi hi _=>by cases (show i=0 by omega);exact ha),(λ_=>?_)⟩;have:=hC.on ha (hL.d (i:=0) rfl []).1 (l:=(a:Int)+1) (M5.mpr rfl);push_cast;exact this
 | .call x,lp,a,w,u,wl,pe,h,hS,hL,ha=>by
   rw[eI] at hL;simp only[bp];refine⟨(λi hi _=>by cases (show i=0 by omega);exact ha),(λ_=>?_)⟩;have:=hC.on ha (hL.d (i:=0) rfl []).1 (l:=(a:Int)+1) (M5.mpr rfl);push_cast;exact this
 | .leave,lp,a,w,u,wl,pe,h,hS,hL,ha=>by
   simp only[bp];exact⟨(λi hi _=>by cases (show i=0 by omega);exact ha),(λq=>by simp[eu] at q)⟩
 | .back,lp,a,w,u,wl,pe,h,hS,hL,ha=>by
   simp only[bp];exact⟨(λi hi _=>by cases (show i=0 by omega);exact ha),(λq=>by simp[eu] at q)⟩
 | .Ta x A,lp,a,w,u,wl,pe,h,hS,hL,ha=>by
   simp only[cf] at h;rw[spT] at hS;rw[eI] at hL;simp only[bp];obtain⟨s1,s2⟩:=hS.app;obtain⟨s2,s3⟩:=s2.app;obtain⟨d1,d2⟩:=hL.app;obtain⟨d2,d3⟩:=d2.app;rw[bV] at s3;simp only[Nf,Nr] at s2 s3 d2 d3;have e1:=(d1.d (i:=0) rfl []).1;have g1:(((a+(0+1):Nat)):Int)∈fd:=by
    have:=hC.on ha e1 (l:=(a:Int)+1) Nb;push_cast;simpa using this
   have g2:(((a+(2+S4 A):Nat)):Int)∈fd:=by
    have:=hC.on ha e1 (l:=(a:Int)+2+S4 A) (M7 _ (M5.mpr rfl));rwa [show(((a+(2+S4 A):Nat)):Int)=(a:Int)+2+S4 A by push_cast;omega]
   obtain⟨q1,_⟩:=yT A true (a+(0+1)) (w+2) (a:Int) ((a:Int)+2+S4 A) pe h.2 (by push_cast;exact s2) (by push_cast;exact d2) g1;refine⟨λi hi hk=>?_,λ_=>g2⟩;by_cases i0:i=0
   ·subst i0;exact ha
   by_cases i1:i<1+S4 A
   ·have:=q1 (i-1) (by omega) (by rw[show a+(0+1)+(i-1)=a+i by omega];exact hk);rwa [show a+(0+1)+(i-1)=a+i by omega] at this
   ·obtain rfl:i=1+S4 A:=by omega
    have ke:=(s3.k (i:=0) rfl).1;rw[show a+(0+1)+S4 A+0=a+(1+S4 A) by omega] at ke;rw[ke] at hk;exact SQ hk (show("end":Str)∉Tp by decide +kernel)
 | .ifs x A B,lp,a,w,u,wl,pe,h,hS,hL,ha=>by
   simp only[cf] at h;rw[spT,Nl] at hS;rw[eI,Nl] at hL;simp only[bp];obtain⟨s1,s2⟩:=hS.app;obtain⟨s2,s3⟩:=s2.app;obtain⟨s3,s4⟩:=s3.app;obtain⟨s4,s5⟩:=s4.app;obtain⟨d1,d2⟩:=hL.app;obtain⟨d2,d3⟩:=d2.app;obtain⟨d3,d4⟩:=d3.app;obtain⟨d4,d5⟩:=d4.app;rw[bV] at s3 s4 s5;rw[bV] at s5;rw[dw] at d3 d4 d5;rw[dw] at d5;simp only[Nf,Nr] at s2 s3 s4 s5 d2 d3 d4 d5;have e1:=(d1.d (i:=0) rfl []).1;have e3:=(d3.d (i:=0) rfl []).1;have e5:=(d5.d (i:=0) rfl []).1;have g1:(((a+(0+1):Nat)):Int)∈fd:=by
    have:=hC.on ha e1 (l:=(a:Int)+1) Nb;push_cast;simpa using this
   have g2:(((a+(0+1)+S4 A+(0+1):Nat)):Int)∈fd:=by
    have:=hC.on ha e1 (l:=(a:Int)+2+S4 A) (M7 _ (M5.mpr rfl));rwa [show(((a+(0+1)+S4 A+(0+1):Nat)):Int)=(a:Int)+2+S4 A by push_cast;omega]
   obtain⟨q1,q2⟩:=yT A lp (a+(0+1)) (w+2) (a:Int) wl pe h.2.1 (by push_cast;exact s2) (by push_cast;exact d2) g1;have q4:(((a+(0+1)+S4 A+(0+1):Nat)):Int)=(a:Int)+2+S4 A:=by push_cast;omega
   obtain⟨q3,q5⟩:=yT B lp (a+(0+1)+S4 A+(0+1)) (w+3+(Td SX A).length) ((a:Int)+1+S4 A) wl pe h.2.2 (by rw[q4];exact s4) (by rw[q4];exact d4) g2;have fin:(((a+(0+1)+S4 A+(0+1)+S4 B+0:Nat)):Int)∈fd->(((a+(3+S4 A+S4 B):Nat)):Int)∈fd:=λq=>by
    have:=hC.on q e5 (l:=(a:Int)+3+S4 A+S4 B) (M5.mpr rfl);rwa [show(((a+(3+S4 A+S4 B):Nat)):Int)=(a:Int)+3+S4 A+S4 B by push_cast;omega]
   refine⟨λi hi hk=>?_,λhp=>fin ?_⟩
   ·by_cases i0:i=0
    ·subst i0;exact ha
    by_cases i1:i<1+S4 A
    ·have:=q1 (i-1) (by omega) (by rw[show a+(0+1)+(i-1)=a+i by omega];exact hk);rwa [show a+(0+1)+(i-1)=a+i by omega] at this
    by_cases i2:i=1+S4 A
    ·subst i2;have ke:=(s3.k (i:=0) rfl).1;rw[show a+(0+1)+S4 A+0=a+(1+S4 A) by omega] at ke;rw[ke] at hk;exact SQ hk (show("else":Str)∉Tp by decide +kernel)
    by_cases i3:i<2+S4 A+S4 B
    ·have:=q3 (i-(2+S4 A)) (by omega) (by rw[show a+(0+1)+S4 A+(0+1)+(i-(2+S4 A))=a+i by omega];exact hk);rwa [show a+(0+1)+S4 A+(0+1)+(i-(2+S4 A))=a+i by omega] at this
    ·obtain rfl:i=2+S4 A+S4 B:=by omega
     have ke:=(s5.k (i:=0) rfl).1;rw[show a+(0+1)+S4 A+(0+1)+S4 B+0=a+(2+S4 A+S4 B) by omega] at ke;rw[ke] at hk;exact SQ hk (show("end":Str)∉Tp by decide +kernel)
   ·simp only[eu,MR] at hp;rcases hp with hp | hp
    ·have hel:=q2 hp;have:=hC.on (n:=a+(0+1)+S4 A+0) hel e3 (l:=(a:Int)+2+S4 A+S4 B) (M5.mpr rfl);rwa [show(((a+(0+1)+S4 A+(0+1)+S4 B+0:Nat)):Int)=(a:Int)+2+S4 A+S4 B by push_cast;omega]
    ·exact q5 hp
theorem yT:∀(ts:List Th)(lp:Bool)(a:Nat)(w u wl pe:Int),bG lo m lp ts->cm S a (bQ SX (a:Int) w u ts)->cm Ld a (fI (a:Int) wl pe ts)->(a:Int)∈fd->(∀i,i<S4 ts->aU S ((a+i:Nat):Int)∈Tp->((a+i:Nat):Int)∈fd)/\(c9 ts=true->((a+S4 ts:Nat):Int)∈fd)
 | [],lp,a,w,u,wl,pe,h,hS,hL,ha=>by
   rw[S4];exact⟨λi hi=>by omega,λ_=>ha⟩
 | t::ts,lp,a,w,u,wl,pe,h,hS,hL,ha=>by
   simp only[bG] at h;rw[bQ] at hS;rw[fI] at hL;rw[S4];obtain⟨s1,s2⟩:=hS.app;obtain⟨d1,d2⟩:=hL.app;rw[jx] at s2;rw[m7] at d2;obtain⟨q1,q2⟩:=goT t lp a w u wl pe h.1 s1 d1 ha;rcases h.2.1 with hp | hp
   ·obtain⟨q3,q4⟩:=yT ts lp (a+bp t) (w+(cL SX t).length) u wl pe h.2.2 (by push_cast;exact s2) (by push_cast;exact d2) (q2 hp);refine⟨λi hi hk=>?_,λXw=>?_⟩
    ·by_cases q:i<bp t
     ·exact q1 i q hk
     ·have:=q3 (i-bp t) (by omega) (by rw[show a+bp t+(i-bp t)=a+i by omega];exact hk);rwa [show a+bp t+(i-bp t)=a+i by omega] at this
    ·rw[c9,MN] at Xw;have:=q4 Xw.2;rwa [show a+bp t+S4 ts=a+(bp t+S4 ts) by omega] at this
   ·subst hp;rw[S4];refine⟨λi hi hk=>q1 i (by omega) hk,λXw=>?_⟩;rw[c9,MN] at Xw;exact q2 Xw.1
end
end
structure Ax (SX:ME)(lo m:Int)(s:aH):Prop where
 np:s.kind≠"part"
 cl:s.kind="call"->∃j:Int,lo<j/\j<m/\s.name=SX.getD j.toNat ""
theorem fW {SX:ME}{lo m:Int}{s:aH}(h1:s.kind≠"part")(h2:s.kind≠"call"):Ax SX lo m s:=⟨h1,λe=>SQ e h2⟩
theorem all1 {P:aH->Prop}{s:aH}(h:P s):∀x∈[s],P x:=λx hx=>by rw[M5.mp hx];exact h
theorem oq {P:aH->Prop}{a b:List aH}(h:∀x∈a,P x)(h':∀x∈b,P x):∀x∈a++b,P x:=λx hx=>(Nj.mp hx).elim (h x) (h' x)
mutual
theorem I0 {SX:ME}{lo m:Int}:∀(t:Th)(lp:Bool)(a w u:Int),cf lo m lp t->∀s∈spT SX a w u t,Ax SX lo m s
 | .Tr x,lp,a,w,u,h=>by rw[spT];exact all1 (fW (show("do":Str)≠"part" by decide +kernel) (show("do":Str)≠"call" by decide +kernel))
 | .call j,lp,a,w,u,h=>by
   simp only[cf] at h;rw[spT];exact all1 ⟨show("call":Str)≠"part" by decide +kernel,λ_=>⟨j,h.1,h.2,rfl⟩⟩
 | .leave,lp,a,w,u,h=>by rw[spT];exact all1 (fW (show("leave":Str)≠"part" by decide +kernel) (show("leave":Str)≠"call" by decide +kernel))
 | .back,lp,a,w,u,h=>by rw[spT];exact all1 (fW (show("back":Str)≠"part" by decide +kernel) (show("back":Str)≠"call" by decide +kernel))
 | .Ta x A,lp,a,w,u,h=>by
   simp only[cf] at h;rw[spT];exact oq (all1 (fW (show("while":Str)≠"part" by decide +kernel) (show("while":Str)≠"call" by decide +kernel))) (oq (jU A true _ _ _ h.2) (all1 (fW (show("end":Str)≠"part" by decide +kernel) (show("end":Str)≠"call" by decide +kernel))))
 | .ifs x A B,lp,a,w,u,h=>by
   simp only[cf] at h;rw[spT];exact oq (oq (all1 (fW (show("if":Str)≠"part" by decide +kernel) (show("if":Str)≠"call" by decide +kernel))) (jU A lp _ _ _ h.2.1)) (oq (all1 (fW (show("else":Str)≠"part" by decide +kernel) (show("else":Str)≠"call" by decide +kernel))) (oq (jU B lp _ _ _ h.2.2) (all1 (fW (show("end":Str)≠"part" by decide +kernel) (show("end":Str)≠"call" by decide +kernel)))))
theorem jU {SX:ME}{lo m:Int}:∀(ts:List Th)(lp:Bool)(a w u:Int),bG lo m lp ts->∀s∈bQ SX a w u ts,Ax SX lo m s
 | [],lp,a,w,u,h=>by rw[bQ];intro s hs;cases hs
 | t::ts,lp,a,w,u,h=>by
   simp only[bG] at h;rw[bQ];exact oq (I0 t lp _ _ _ h.1) (jU ts lp _ _ _ h.2.2)
end
theorem call_in {SX:ME}{j:Int}:∀{ts:List Th}(a w u:Int),Th.call j∈ts->∃s∈bQ SX a w u ts,s.kind="call"/\s.name=SX.getD j.toNat ""
 | t::ts,a,w,u,h=>by
   rw[bQ];rcases Nd.mp h with rfl | h
   ·exact⟨_,Np _ (by rw[spT];exact M5.mpr rfl),rfl,rfl⟩
   ·obtain⟨s,hs,h1⟩:=call_in (SX:=SX) (j:=j) (ts:=ts) (a+bp t) (w+(cL SX t).length) u h;exact⟨s,Nh _ hs,h1⟩
def iU (k:Str):Nat:=((cU dH k).getD []).length
def j4 (S:List aH):Nat:=(S.map λs=>iU s.kind).sum
theorem gz (a b:List aH):j4 (a++b)=j4 a+j4 b:=by unfold j4;rw[Nn,OX]
theorem fR (s:aH):j4 [s]=iU s.kind:=by unfold j4;simp
mutual
theorem rkT {SX:ME}:∀(t:Th)(a w u:Int),j4 (spT SX a w u t)=cn t
 | .Tr x,a,w,u=>by rw[spT,fR,cn];show iU "do"=1;decide +kernel
 | .call x,a,w,u=>by rw[spT,fR,cn];show iU "call"=1;decide +kernel
 | .leave,a,w,u=>by rw[spT,fR];simp only[cn];show iU "leave"=0;decide +kernel
 | .back,a,w,u=>by rw[spT,fR];simp only[cn];show iU "back"=0;decide +kernel
 | .Ta x A,a,w,u=>by
   rw[spT,cn,gz,gz,fR,fR,vR A,show iU "while"=2 by decide +kernel,show iU "end"=0 by decide +kernel];omega
 | .ifs x A B,a,w,u=>by
   rw[spT,cn,gz,gz,gz,gz,fR,fR,fR,vR A,vR B,show iU "if"=2 by decide +kernel,show iU "end"=0 by decide +kernel,show iU "else"=0 by decide +kernel];omega
theorem vR {SX:ME}:∀(ts:List Th)(a w u:Int),j4 (bQ SX a w u ts)=bW ts
 | [],a,w,u=>by rw[bQ,bW];rfl
 | t::ts,a,w,u=>by rw[bQ,bW,gz,rkT t,vR ts]
end
section
variable {Kp:MC}
theorem Ly {SX:ME}:∀(zs:List (Str×List Th))(a w:Int),j4 (gW SX a w zs)=(zs.map λz=>bW z.2).sum
 | [],a,w=>by rw[gW];rfl
 | z::r,a,w=>by
   rw[gW,gz,gz,gz,fR,fR,vR,Ly r,show iU "part"=0 by decide +kernel,show iU "end"=0 by decide +kernel,Nz,OH];omega
theorem rZ {α β:Type}{f:α->List β}{g:α->Nat}(h:∀x,(f x).length<=g x):∀xs:List α,(xs.flatMap f).length<=(xs.map g).sum
 | []=>O3 _
 | x::xs=>by
   rw[N2,M9,Nz,OH];have:=h x;have:=rZ h xs;omega
theorem AY (S:List aH)(Ld:List MC)(St:MC):(fZ S Ld St).length<=j4 S:=by
 have:=rZ (f:=dF Ld St) (g:=λz=>iU z.2.kind) (λz=>by
  unfold dF jj;rw[M8,NZ];exact Pe _ _) (nums S)
 refine O2 this (Pp ?_);unfold j4
 conv=>rhs;rw[← nS S]
 rw[NX];rfl
theorem nT {S:List aH}{Ld:List MC}{St:MC}{r:Rw}(h:r∈fZ S Ld St):∃(n:Nat)(s:aH)(l:Int),S[n]?=some s/\r.1=(n:Int)/\aZ s.kind=true/\l∈Ld.getD n []/\r.2.1=St.getD l.toNat 0:=by
 unfold fZ at h;obtain⟨z,hz,hr⟩:=OS.mp h;unfold dF at hr;obtain⟨y,hy,rfl⟩:=Nx.mp hr;obtain⟨i,hi⟩:=Nq.mp hz;obtain⟨e1,e2⟩:=eJ hi;unfold jj at hy;obtain⟨h1,h2⟩:=OC (show(y.1,y.2)∈_ from hy);rw[e1,show((i:Nat):Int).toNat=i by omega] at h2;refine⟨i,z.2,y.2,e2,e1,?_,h2,rfl⟩;unfold aZ;cases q:cU dH z.2.kind with
 | none=>rw[q] at h1;cases h1
 | some v=>rfl
theorem Bj {k:Str}(h:aZ k=true):k∈Tp:=by
 unfold aZ cU at h;split at h
 ·rename_i e;rw[← e];decide +kernel
 unfold cU at h;split at h
 ·rename_i e;rw[← e];decide +kernel
 unfold cU at h;split at h
 ·rename_i e;rw[← e];decide +kernel
 unfold cU at h;split at h
 ·rename_i e;rw[← e];decide +kernel
 ·cases h
theorem zY:∀{l m:MC},l.Nodup->(∀x∈l,x∈m)->l.length<=m.length
 | [],m,_,_=>O3 _
 | x::l,m,nd,h=>by
   obtain⟨n1,n2⟩:=ND.mp nd;have hx:=h x Nb;have:=zY (l:=l) (m:=m.erase x) n2 λy hy=>by
    have:y≠x:=λe=>n1 (e▸hy);exact(List.mem_erase_of_ne this).mpr (h y (M7 _ hy))
   rw[List.length_erase_of_mem hx] at this;have:0<m.length:=List.length_pos_of_mem hx;rw[Nf];omega
def jN (Kp:MC)(F:MJ):Prop:=(F.map (·.1)).Nodup/\∀x∈F.map (·.1),x∈Kp
theorem jN.put {F:MJ}(h:jN Kp F){k:Int}(hk:k∈Kp):jN Kp (de F k):=by
 unfold de;split
 ·exact h
 ·rename_i hn;have hnk:k∉F.map (·.1):=λz=>hn (lY.mpr z);refine⟨by rw[Nn];exact jB h.1 hnk,λx hx=>?_⟩;rw[Nn] at hx;rcases Nj.mp hx with z | z
  ·exact h.2 x z
  ·rw[show x=k by simpa using z];exact hk
theorem jN.rows {p:iX}:∀{rs:List Rw}{F:MJ},jN Kp F->(∀r∈rs,oH p r=true->r.1∈Kp/\r.2.1∈Kp)->jN Kp (rs.foldl (eP p) F)
 | [],F,h,_=>h
 | r::rs,F,h,hr=>by
   rw[Ou];refine jN.rows ?_ λx hx=>hr x (M7 _ hx);unfold eP;split
   ·rename_i hi;obtain⟨h1,h2⟩:=hr r Nb hi;exact(h.put h1).put h2
   ·exact h
theorem jN.len {F:MJ}(h:jN Kp F):F.length<=Kp.length:=by
 have:=zY h.1 h.2;rwa [M8] at this
theorem wu:∀S:List aH,(S.filter λs=>aZ s.kind).length<=j4 S
 | []=>O3 _
 | s::S=>by
   have ih:=wu S;have e:j4 (s::S)=iU s.kind+j4 S:=by unfold j4;rw[Nz,OH]
   rw[e];by_cases h:aZ s.kind=true
   ·rw[N7 (p:=λ(s:aH)=>aZ s.kind) h,Nf];have:1<=iU s.kind:=by
     unfold iU;unfold aZ cU at h;unfold cU;split at h
     ·rename_i e;rw[SS e];decide
     rename_i e;rw[SR e];unfold cU at h ⊢;split at h
     ·rename_i e;rw[SS e];decide
     rename_i e;rw[SR e];unfold cU at h ⊢;split at h
     ·rename_i e;rw[SS e];decide
     rename_i e;rw[SR e];unfold cU at h ⊢;split at h
     ·rename_i e;rw[SS e];decide
     ·cases h
    omega
   ·rw[N8 (p:=λ(s:aH)=>aZ s.kind) h];omega
theorem Kx {S:List aH}(h:∀s∈S,s.kind≠"part"):Ua S=[]:=by
 unfold Ua;rw[OL.mpr λs hs=>by simpa using h s hs];rfl
theorem Gj {SX:ME}{m:Int}:∀(zs:List (Str×List Th))(a w:Int),(∀z∈zs,∃lo,bG lo m false z.2)->Ua (gW SX a w zs)=zs.map (·.1)
 | [],a,w,_=>by rw[gW];rfl
 | z::r,a,w,h=>by
   obtain⟨lo,hz⟩:=h z Nb;rw[gW,lu,lu,lu,Gj r _ _ λy hy=>h y (M7 _ hy),Kx λs hs=>(jU (SX:=SX) z.2 false _ _ _ hz s hs).np];rfl
theorem ui (S:List aH):(cH S).map (·.1)=Ua S:=by
 unfold cH Ua
 conv=>rhs;rw[← nS S]
 rw[filter_map,NX,NX];rfl
end
section
variable {SX:ME}{Ls:List (List Th)}(h:cS SX Ls)
include h
theorem Fp:(dA SX Ls).map (·.1)=SX:=List.map_fst_zip (by rw[h.l];exact O0 _)
theorem HX:(dA SX Ls).map (·.2)=Ls:=List.map_snd_zip (by rw[h.l];exact O0 _)
theorem KC:∀z∈dA SX Ls,∃lo,bG lo (Ls.length:Int) false z.2:=λz hz=>by
 obtain⟨j,hj⟩:=Nq.mp hz;exact⟨_,(eY h hj).1⟩
theorem Cy:Ua (aD SX Ls)=SX:=by
 rw[Gj (m:=(Ls.length:Int)) _ _ _ (KC h),Fp h]
theorem pO:(cH (aD SX Ls)).map (·.1)=SX:=by rw[ui,Cy h]
theorem JH:(aD SX Ls).length<=240:=by
 obtain⟨pl,_⟩:=tO h;obtain⟨e,_⟩:=qO h;obtain⟨i1,i2,_⟩:=sL (ji SX Ls) (cV (SX.zip Ls));rw[e] at i1 i2;dsimp only at i1 i2;omega
theorem vO {n:Nat}(hn:n<(aD SX Ls).length)(hk:aU (aD SX Ls) (n:Int)="part"):∃(j:Nat)(z:Str×List Th)(w:Int),(dA SX Ls)[j]?=some z/\eO (aD SX Ls) (dt SX Ls) SX (fst SX Ls j) w z/\n=fst SX Ls j:=by
 obtain⟨j,z,w,hz,hb,h1,h2,h3⟩:=lr h n hn;refine⟨j,z,w,hz,hb,?_⟩;rcases O9 (fst SX Ls j) n with q | q
 ·exfalso;by_cases e:n=lst (fst SX Ls j) z
  ·rw[e,(dk hb.e).1] at hk;exact SQ hk (show("end":Str)≠"part" by decide +kernel)
  ·have h2':n<fst SX Ls j+1+S4 z.2:=Pg h2 e;have hi:n-(fst SX Ls j+1)<(bQ SX (((fst SX Ls j+1:Nat)):Int) (w+2) (fst SX Ls j:Int) z.2).length:=by rw[bV];omega
   have hs:=hb.s.k (M4 hi);rw[show fst SX Ls j+1+(n-(fst SX Ls j+1))=n by omega] at hs;rw[hs.1] at hk;exact(jU (SX:=SX) z.2 false _ _ _ (eY h hz).1 _ (NK hi)).np hk
 ·omega
theorem lV {p:iX}(hp:p∈cH (aD SX Ls)):∃(j:Nat)(z:Str×List Th)(w:Int),(dA SX Ls)[j]?=some z/\eO (aD SX Ls) (dt SX Ls) SX (fst SX Ls j) w z/\p=(z.1,((fst SX Ls j:Nat):Int),((lst (fst SX Ls j) z:Nat):Int)):=by
 unfold cH at hp;obtain⟨y,hy,rfl⟩:=Nx.mp hp;obtain⟨hy,hk⟩:=N9.mp hy;obtain⟨n,nl,e1,e2⟩:=mZ hy;have UJ:aU (aD SX Ls) (n:Int)="part":=by
  unfold aU;rw[show((n:Nat):Int).toNat=n by omega,e2];exact SU hk
 obtain⟨j,z,w,hz,hb,e3⟩:=vO h nl UJ;refine⟨j,z,w,hz,hb,?_⟩;subst e3;unfold GI;rw[e1,hb.cl o9];have:y.2=⟨"part",z.1,w, -1⟩:=by rw[← e2,Na,hb.nm];rfl
 rw[this];rfl
end
section
variable {S:List aH}{SX:ME}
theorem xR {α:Type}(l:List α)(d:α)(p:α->Bool):((Nk l.length).filter λi=>p (l.getD i d)).length=(l.filter p).length:=by
 have e:(Nk l.length).map (λi=>l.getD i d)=l:=by
  refine Oo λi=>?_;rw[Nc];rcases O9 i l.length with h | h
  ·rw[Oc h,M4 h];show some (l.getD i d)=_;rw[Na,M4 h];rfl
  ·rw[NY (by simpa using h),NY h];rfl
 conv=>rhs;rw[← e,filter_map,M8]
 rfl
def zU (S:List aH)(f:Nat)(z:Str×List Th):MC:=((Nk (S4 z.2)).filter λi=>aZ (aU S ((f+1+i:Nat):Int))).map (λi=>((f+1+i:Nat):Int))++[((lst f z:Nat):Int)]
theorem rQ {f:Nat}{z:Str×List Th}{v:Int}(h:KZ S f (lst f z) v):v∈zU S f z:=by
 obtain⟨h1,h2,h3⟩:=h;unfold zU;by_cases q:v=((lst f z:Nat):Int)
 ·exact Nh _ (by rw[q];exact M5.mpr rfl)
 ·have h2':v<=((f+1+S4 z.2:Nat):Int):=h2;have q':v≠((f+1+S4 z.2:Nat):Int):=q;refine Np _ (Nx.mpr ⟨v.toNat-(f+1),N9.mpr ⟨Oi.mpr (by omega),?_⟩,by omega⟩);rw[show((f+1+(v.toNat-(f+1)):Nat):Int)=v by omega];exact h3.resolve_left q
theorem HM {Ld:List MC}{f:Nat}{w:Int}{z:Str×List Th}(h:eO S Ld SX f w z)(hr:bW z.2<=14):(zU S f z).length<=16:=by
 unfold zU;rw[M9,M8,NG];have e:((Nk (S4 z.2)).filter λi=>aZ (aU S ((f+1+i:Nat):Int)))=((Nk (bQ SX (((f+1:Nat)):Int) (w+2) (f:Int) z.2).length).filter λi=>aZ ((bQ SX (((f+1:Nat)):Int) (w+2) (f:Int) z.2).getD i c5).kind):=by
  rw[bV];refine List.filter_congr λi hi=>?_;have hi:i<(bQ SX (((f+1:Nat)):Int) (w+2) (f:Int) z.2).length:=by rw[bV];exact Oi.mp hi
  rw[(h.s.k (M4 hi)).1,Na,M4 hi];rfl
 rw[e,xR (bQ SX (((f+1:Nat)):Int) (w+2) (f:Int) z.2) c5 λs=>aZ s.kind];have:=wu (bQ SX (((f+1:Nat)):Int) (w+2) (f:Int) z.2);rw[vR] at this;omega
theorem nV {Ls:List (List Th)}(h:cS SX Ls):qG (aD SX Ls) (dt SX Ls)/\Good (fY (aD SX Ls) (dt SX Ls)):=by
 obtain⟨hLd,hLi,Vv⟩:=AM h;have hS:=JH h;refine⟨⟨hS,hLd,hLi,λn hn hk=>?_⟩,?_⟩
 ·obtain⟨j,z,w,hz,hb,e⟩:=vO h hn hk;subst e;rw[hb.cl o9];rfl
 have bl:∀{j:Nat}{z:Str×List Th}{w:Int},eO (aD SX Ls) (dt SX Ls) SX (fst SX Ls j) w z->fst SX Ls j<(aD SX Ls).length:=λhb=>(M1.mp hb.nm).1;have hn:=pO h;have hlp:(cH (aD SX Ls)).length=SX.length:=by rw[← congrArg List.length hn,M8]
 refine⟨hS,?_,?_,λp hp=>?_,hLi,Vv,jG _ (O0 _),?_,λn t ht hk=>?_,λfd hR n VD hk=>?_,λp hp=>?_,λp hp=>?_,?_,λr hr=>?_,λp hp=>?_⟩
 ·show(cH (aD SX Ls)).length<=4;rw[hlp,h.l];exact h.l4
 ·show((cH (aD SX Ls)).map (·.1)).Nodup;rw[hn];exact h.nd
 ·obtain⟨j,z,w,hz,hb,rfl⟩:=lV h hp;have:=bl hb;exact⟨by show(0:Int)<=((fst SX Ls j:Nat):Int);omega,by show((fst SX Ls j:Nat):Int)<((aD SX Ls).length:Int);omega⟩
 ·show(Ua (aD SX Ls)).Nodup;rw[Cy h];exact h.nd
 ·-- SY
  have ht:(aD SX Ls)[n]?=some t:=ht;have VD:=(M1.mp ht).1;obtain⟨j,z,w,hz,hb,h1,h2,h3⟩:=lr h n VD;have UJ:=(dk ht).1;have T9:n≠fst SX Ls j:=λe=>by
   rw[e,hb.k,hk] at UJ;exact SQ UJ (by decide +kernel)
  have hnl:n≠lst (fst SX Ls j) z:=λe=>by
   rw[e,(dk hb.e).1,hk] at UJ;exact SQ UJ (show("end":Str)≠"call" by decide +kernel)
  have h2':n<fst SX Ls j+1+S4 z.2:=Pg h2 hnl;have hi:n-(fst SX Ls j+1)<(bQ SX (((fst SX Ls j+1:Nat)):Int) (w+2) (fst SX Ls j:Int) z.2).length:=by rw[bV];omega
  have hs:=hb.s _ _ (M4 hi);rw[show fst SX Ls j+1+(n-(fst SX Ls j+1))=n by omega,ht] at hs;have ko:=jU (SX:=SX) z.2 false _ _ _ (eY h hz).1 _ (NK hi);rw[← Option.some.inj hs] at ko;obtain⟨c,c1,c2,c3⟩:=ko.cl hk;have VF:c.toNat<SX.length:=by rw[h.l];omega
  have hcz:c.toNat<(dA SX Ls).length:=by rw[NZ,h.l];omega
  obtain⟨w',Ut⟩:=kZ (SX:=SX) (Ls:=Ls) (M4 hcz);have Uc:=nt (dA SX Ls) j c.toNat z hz (by omega);refine⟨fst SX Ls c.toNat,_,?_,Ut.nm,rfl,?_⟩
  ·have:fst SX Ls j+2+S4 z.2<=fst SX Ls c.toNat:=Uc;omega
  ·rw[c3];have Vf:=(eY h (M4 hcz)).2.2.2.1;rw[Na,Vf];rfl
 ·-- coming to each Xf
  obtain⟨Wg,Wf⟩:=hR;have VD:n<(aD SX Ls).length:=VD;obtain⟨j,z,w,hz,hb,h1,h2,h3⟩:=lr h n VD;have UJ:aU (aD SX Ls) (n:Int)∈Tp:=hk;have T9:n≠fst SX Ls j:=λe=>by
   rw[e,hb.k] at UJ;exact SQ UJ (by decide +kernel)
  have hnl:n≠lst (fst SX Ls j) z:=λe=>by
   rw[e,(dk hb.e).1] at UJ;exact SQ UJ (show("end":Str)∉Tp by decide +kernel)
  have h2':n<fst SX Ls j+1+S4 z.2:=Pg h2 hnl;have hf:((fst SX Ls j:Nat):Int)∈fd:=by
   refine Wg (z.1,((fst SX Ls j:Nat):Int),(bJ (dN (aD SX Ls)) ((fst SX Ls j:Nat):Int)).getD 0) ?_;show _∈cH (aD SX Ls);unfold cH;exact Nx.mpr ⟨(((fst SX Ls j:Nat):Int),⟨"part",z.1,w, -1⟩),N9.mpr ⟨sG hb.nm,decide_eq_true rfl⟩,rfl⟩
  have hC:kO (dt SX Ls) fd:=Wf;have hf1:=hC.on hf hb.df (l:=((fst SX Ls j:Nat):Int)+1) (M5.mpr rfl);have:=(yT (SX:=SX) (S:=aD SX Ls) hC z.2 false (fst SX Ls j+1) (w+2) _ 0 _ (eY h hz).1 hb.s hb.d (by push_cast;exact hf1)).1 (n-(fst SX Ls j+1)) (by omega) (by rw[show fst SX Ls j+1+(n-(fst SX Ls j+1))=n by omega];exact UJ);rwa [show fst SX Ls j+1+(n-(fst SX Ls j+1))=n by omega] at this
 ·-- each later part is called
  have hp:p∈(cH (aD SX Ls)).drop 1:=hp;obtain⟨k,hk⟩:=Nq.mp hp;rw[OY] at hk;have hnk:SX[1+k]?=some p.1:=by rw[← hn,Nc,hk];rfl
  have W3:=(M1.mp hnk).1;obtain⟨L,hL,hcL⟩:=h.cl (1+k) (by omega) (by rw[← h.l];exact W3);obtain⟨i,hi⟩:=Nq.mp hL;have il:=(M1.mp hi).1;have hiz:i<(dA SX Ls).length:=by rw[NZ,h.l];omega
  obtain⟨w',Ut⟩:=kZ (SX:=SX) (Ls:=Ls) (M4 hiz);have e2:=(eY h (M4 hiz)).2.2.2.2;rw[hi] at e2;have e2:=Option.some.inj e2;obtain⟨s,hs,s1,s2⟩:=call_in (SX:=SX) (((fst SX Ls i+1:Nat)):Int) (w'+2) ((fst SX Ls i:Nat):Int) hcL;rw[e2] at hs;obtain⟨q,hq⟩:=Nq.mp hs;refine⟨s,Ng (Ut.s q s hq),s1,?_⟩;rw[s2,show(((1+k:Nat)):Int).toNat=1+k by omega,Na,hnk];rfl
 ·-- no part ends at S5 begin
  obtain⟨j,z,w,hz,hb,rfl⟩:=lV h hp;obtain⟨VM,W0,ok3,_⟩:=eY h hz;show(a7 (aD SX Ls) (dt SX Ls)).getD ((fst SX Ls j:Nat):Int).toNat 0≠((lst (fst SX Ls j) z:Nat):Int);rw[show((fst SX Ls j:Nat):Int).toNat=fst SX Ls j by omega,hb.first VM W0];have:=(oa hb VM W0).2;show((fst SX Ls j+1:Nat):Int)≠((fst SX Ls j+1+S4 z.2:Nat):Int);omega
 ·-- rows
  show(fZ (aD SX Ls) (dt SX Ls) (a7 (aD SX Ls) (dt SX Ls))).length<=30;refine O2 (AY _ _ _) ?_;rw[Ly];have e:(dA SX Ls).map (λz=>bW z.2)=Ls.map bW:=by
   conv=>rhs;rw[← HX h]
   rw[NX];rfl
  show((dA SX Ls).map λz=>bW z.2).sum<=30;rw[e];exact h.tot
 ·obtain⟨n,s,l,h1,h2,h3,_⟩:=nT hr;have VD:=(M1.mp h1).1;rw[h2];refine⟨⟨by omega,by show(n:Int)<((aD SX Ls).length:Int);omega⟩,?_⟩;show aU (aD SX Ls) (n:Int)∈Tp;rw[(dk h1).1];exact Bj h3
 ·-- places
  obtain⟨j,z,w,hz,hb,rfl⟩:=lV h hp;obtain⟨VM,W0,ok3,_⟩:=eY h hz;have fl:fst SX Ls j<lst (fst SX Ls j) z:=by show _<fst SX Ls j+1+S4 z.2;omega
  have Vt:=λn h1 h2=>hb.Jn o9 VM _ n rfl h1 h2;refine O2 (jN.len (Kp:=zU (aD SX Ls) (fst SX Ls j) z) ?_) (HM hb ok3);refine jN.rows ?_ λr hr hi=>?_
  ·have T9:(a7 (aD SX Ls) (dt SX Ls)).getD (fst SX Ls j) 0≠((lst (fst SX Ls j) z:Nat):Int):=by
    rw[hb.first VM W0];have:=(oa hb VM W0).2;show((fst SX Ls j+1:Nat):Int)≠((fst SX Ls j+1+S4 z.2:Nat):Int);omega
   have e0:(fY (aD SX Ls) (dt SX Ls)).St.getD ((fst SX Ls j:Nat):Int).toNat 0=(a7 (aD SX Ls) (dt SX Ls)).getD (fst SX Ls j) 0:=by rw[show((fst SX Ls j:Nat):Int).toNat=fst SX Ls j by omega];rfl
   dsimp only;rw[e0];refine⟨?_,λx hx=>?_⟩
   ·exact ND.mpr ⟨λq=>T9 (M5.mp q),ND.mpr ⟨by simp,OI⟩⟩
   ·have hx:x=(a7 (aD SX Ls) (dt SX Ls)).getD (fst SX Ls j) 0∨x=((lst (fst SX Ls j) z:Nat):Int):=by simpa using hx
    rcases hx with rfl | rfl
    ·exact rQ (Vt _ (O0 _) (by omega))
    ·exact rQ ⟨by omega,MZ _,.inl rfl⟩
  ·obtain⟨n,s,l,h1,h2,h3,h4,h5⟩:=nT hr;unfold oH at hi;rw[MN] at hi;have i1:((fst SX Ls j:Nat):Int)<r.1:=SU hi.1;have i2:r.1<((lst (fst SX Ls j) z:Nat):Int):=SU hi.2;rw[h2] at i1 i2;have UJ:aU (aD SX Ls) (n:Int)=s.kind:=(dk h1).1;have st:=hb.all o9 VM n (by omega) (by omega);have rg:=st.rg l h4;refine⟨?_,?_⟩
   ·rw[h2];exact rQ ⟨i1,by omega,.inr (by rw[UJ];exact h3)⟩
   ·rw[h5];exact rQ (Vt l.toNat (by omega) (by omega))
theorem CU:Pure:=λSX Ls h=>⟨dt SX Ls,nV h⟩
theorem boot_bool:Qs "bool"=some (.type "bool"):=by decide +kernel
def hU (s:iW)(n:Int):Int:=((s.parts.filter λp=>decide (p.2.1<=n)).length:Int)-1
def p8 (s:iW):List MJ:=s.parts.map (iI s)
def Ui (SX:ME)(x:Str):Nat:=SX.findIdx λy=>decide (y=x)
structure Mm (s:iW):Prop where
 pt:∀r∈s.rows,0<=hU s r.1/\hU s r.1<(s.parts.length:Int)
 f1:∀r∈s.rows,(bJ ((p8 s).getD (hU s r.1).toNat []) r.1).isSome
 f2:∀r∈s.rows,(bJ ((p8 s).getD (hU s r.1).toNat []) r.2.1).isSome
 cl:∀r∈s.rows,r.2.2.1="call"->r.2.2.2∈s.parts.map (·.1)
theorem ua {x:Str}(h:x∈SX):SX[Ui SX x]?=some x/\∀m,m<Ui SX x->SX[m]?≠some x:=by
 unfold Ui;have hl:(SX.findIdx λy=>decide (y=x))<SX.length:=List.findIdx_lt_length_of_exists ⟨x,h,decide_eq_true rfl⟩;refine⟨?_,λm hm e=>?_⟩
 ·have:=List.findIdx_getElem (w:=hl);rw[M4 hl,SU this]
 ·have:=List.not_of_lt_findIdx hm;obtain⟨ml,em⟩:=M1.mp e;rw[em] at this;simp at this
theorem qH (F:MJ)(k:Int):F <+:de F k:=by
 unfold de;split
 ·exact prefix_rfl
 ·exact List.prefix_append _ _
theorem vS (F:MJ)(k:Int):k∈(de F k).map (·.1):=by
 unfold de;split
 ·rename_i h;exact lY.mp h
 ·rw[Nn];exact Nh _ (by simp)
theorem CQ (p:iX)(F:MJ)(r:Rw):F <+:eP p F r:=by
 unfold eP;split
 ·exact(qH _ _).trans (qH _ _)
 ·exact prefix_rfl
theorem uc {p:iX}:∀{rs:List Rw}{F:MJ},F <+:rs.foldl (eP p) F
 | [],F=>prefix_rfl
 | r::rs,F=>by rw[Ou];exact(CQ p F r).trans uc
theorem uD {p:iX}{r:Rw}(hi:oH p r=true):∀{rs:List Rw}{F:MJ},r∈rs->r.1∈(rs.foldl (eP p) F).map (·.1)/\r.2.1∈(rs.foldl (eP p) F).map (·.1)
 | x::rs,F,h=>by
   rw[Ou];rcases Nd.mp h with rfl | h
   ·have pre:=uc (p:=p) (rs:=rs) (F:=eP p F r);have e:eP p F r=de (de F r.1) r.2.1:=by unfold eP;rw[SS hi]
    have sub:∀y,y∈(eP p F r).map (·.1)->y∈(rs.foldl (eP p) (eP p F r)).map (·.1):=λy hy=>by
     obtain⟨z,hz,rfl⟩:=Nx.mp hy;exact Nx.mpr ⟨z,pre.subset hz,rfl⟩
    refine⟨sub _ ?_,sub _ ?_⟩
    ·rw[e];obtain⟨z,hz,ez⟩:=Nx.mp (vS F r.1);exact Nx.mpr ⟨z,(qH _ _).subset hz,ez⟩
    ·rw[e];exact vS _ _
   ·exact uD hi h
theorem xj {α:Type}{p:α->Bool}{l:List α}{j:Nat}(hj:j<l.length)(h:∀(i:Nat)(x:α),l[i]?=some x->(p x=true↔i<=j)):(l.filter p).length=j+1:=by
 conv=>lhs;rw[← Oe (j+1) l]
 rw[Oh,Ot.mpr λx hx=>?_,OL.mpr λx hx=>?_,Nw,Nu]
 ·omega
 ·obtain⟨i,hi⟩:=Nq.mp hx;rw[OY] at hi;intro q;have:=(h _ _ hi).mp q;omega
 ·obtain⟨i,hi⟩:=Nq.mp hx;have il:i<(l.take (j+1)).length:=(M1.mp hi).1;rw[Nu] at il;rw[List.getElem?_take_of_lt (by omega)] at hi;exact(h _ _ hi).mpr (by omega)
theorem yL {Ld:List MC}{St:MC}{r:Rw}(h:r∈fZ S Ld St):∃(n:Nat)(s:aH)(l:Int),S[n]?=some s/\r.1=(n:Int)/\aZ s.kind=true/\l∈Ld.getD n []/\r.2.1=St.getD l.toNat 0/\r.2.2.1∈(cU dH s.kind).getD []/\r.2.2.2=s.name:=by
 unfold fZ at h;obtain⟨z,hz,hr⟩:=OS.mp h;unfold dF at hr;obtain⟨y,hy,rfl⟩:=Nx.mp hr;obtain⟨i,hi⟩:=Nq.mp hz;obtain⟨e1,e2⟩:=eJ hi;unfold jj at hy;obtain⟨h1,h2⟩:=OC (show(y.1,y.2)∈_ from hy);rw[e1,show((i:Nat):Int).toNat=i by omega] at h2;refine⟨i,z.2,y.2,e2,e1,?_,h2,rfl,h1,rfl⟩;unfold aZ;cases q:cU dH z.2.kind with
 | none=>rw[q] at h1;cases h1
 | some v=>rfl
theorem zW {k:Str}(h:("call":Str)∈(cU dH k).getD []):k="call":=by
 unfold cU at h;split at h
 ·exact SQ h (by decide +kernel)
 unfold cU at h;split at h
 ·rename_i e;exact e.symm
 unfold cU at h;split at h
 ·exact SQ h (by decide +kernel)
 unfold cU at h;split at h
 ·exact SQ h (by decide +kernel)
 ·unfold cU at h;cases h
abbrev gp (SX:ME)(Ls:List (List Th)):iW:=fY (aD SX Ls) (dt SX Ls)
abbrev Gw (f:Nat)(z:Str×List Th):iX:=(z.1,(f:Int),((lst f z:Nat):Int))
end
section
variable {SX:ME}{Ls:List (List Th)}
variable {j:Nat}{z:Str×List Th}
theorem uM (h:cS SX Ls)(hz:(dA SX Ls)[j]?=some z):(cH (aD SX Ls))[j]?=some (Gw (fst SX Ls j) z):=by
 have hn:=pO h;have hlp:(cH (aD SX Ls)).length=SX.length:=by rw[← congrArg List.length hn,M8]
 obtain⟨_,_,_,hnj,_⟩:=eY h hz;have jl:=(M1.mp hnj).1;have jp:j<(cH (aD SX Ls)).length:=by omega
 rw[M4 jp];obtain⟨j',z',w',Vf,Ut,e⟩:=lV h (NK jp);have h1:SX[j]?=some ((cH (aD SX Ls))[j]).1:=by
  conv=>lhs;rw[← hn]
  rw[Nc,M4 jp];rfl
 obtain⟨_,_,_,WJ,_⟩:=eY h Vf;rw[e] at h1;have h1:SX[j]?=some z'.1:=h1;have jl':=(M1.mp WJ).1;have ej:j=j':=by
  rw[M4 jl] at h1;rw[M4 jl'] at WJ;exact(getElem_inj h.nd).mp ((Option.some.inj h1).trans (Option.some.inj WJ).symm)
 subst ej;rw[hz] at Vf;cases Option.some.inj Vf
 rw[e]
theorem oB (h:cS SX Ls):(dA SX Ls).length=Ls.length:=by rw[NZ,h.l];omega
theorem rf (h:cS SX Ls):(cH (aD SX Ls)).length=Ls.length:=by
 rw[← h.l,← congrArg List.length (pO h),M8]
theorem Dy (h:cS SX Ls){n:Nat}(hz:(dA SX Ls)[j]?=some z)(h1:fst SX Ls j<=n)(h2:n<=lst (fst SX Ls j) z):hU (gp SX Ls) (n:Int)=(j:Int):=by
 have jl:=(M1.mp hz).1;have zl:=oB h;have pl:=rf h;unfold hU;show(((cH (aD SX Ls)).filter λp=>decide (p.2.1<=(n:Int))).length:Int)-1=_;rw[xj (j:=j) (by omega) λi x hx=>?_]
 ·push_cast;omega
 ·have il:=(M1.mp hx).1;have hzi:(dA SX Ls)[i]?=some ((dA SX Ls)[i]'(by omega)):=M4 (by omega);rw[uM h hzi] at hx;have hx:=Option.some.inj hx;rw[← hx];show decide (((fst SX Ls i:Nat):Int)<=(n:Int))=true↔i<=j;rw[decide_eq_true_eq];constructor
  ·intro q;refine Classical.byContradiction λc=>?_;have:=nt (dA SX Ls) j i z hz (by omega);have h2:n<=fst SX Ls j+1+S4 z.2:=h2;have:fst SX Ls j+2+S4 z.2<=fst SX Ls i:=this;omega
  ·intro q;rcases O9 i j with c | c
   ·have:=nt (dA SX Ls) i j _ hzi c;have:fst SX Ls i+2+S4 ((dA SX Ls)[i]'(by omega)).2<=fst SX Ls j:=this;omega
   ·have:i=j:=by omega
    subst this;omega
theorem xQ (h:cS SX Ls){r:Rw}(hr:r∈(gp SX Ls).rows):∃(j:Nat)(z:Str×List Th),(dA SX Ls)[j]?=some z/\hU (gp SX Ls) r.1=(j:Int)/\oH (Gw (fst SX Ls j) z) r=true:=by
 obtain⟨n,s,l,h1,h2,h3,h4,h5⟩:=nT hr;have hn:=(M1.mp h1).1;obtain⟨j,z,w,hz,hb,q1,q2,q3⟩:=lr h n hn;have UJ:aU (aD SX Ls) (n:Int)=s.kind:=(dk h1).1;refine⟨j,z,hz,by rw[h2];exact Dy h hz q1 q2,?_⟩;have n1:n≠fst SX Ls j:=λe=>by
  rw[e,hb.k] at UJ;rw[← UJ] at h3;exact SQ h3 (by decide +kernel)
 have n2:n≠lst (fst SX Ls j) z:=λe=>by
  rw[e,(dk hb.e).1] at UJ;rw[← UJ] at h3;exact SQ h3 (show¬aZ "end"=true by decide +kernel)
 unfold oH;rw[MN,h2];exact⟨decide_eq_true (show((fst SX Ls j:Nat):Int)<(n:Int) by omega),decide_eq_true (show(n:Int)<((lst (fst SX Ls j) z:Nat):Int) by omega)⟩
theorem Ia (h:cS SX Ls)(hz:(dA SX Ls)[j]?=some z):(p8 (gp SX Ls))[j]?=some (iI (gp SX Ls) (Gw (fst SX Ls j) z)):=by
 unfold p8;rw[Nc];show((cH (aD SX Ls))[j]?).map _=_;rw[uM h hz];rfl
theorem B4 (h:cS SX Ls):Mm (gp SX Ls):=by
 have zl:=oB h;have pl:=rf h;have key:∀r∈(gp SX Ls).rows,r.1∈((p8 (gp SX Ls)).getD (hU (gp SX Ls) r.1).toNat []).map (·.1)/\r.2.1∈((p8 (gp SX Ls)).getD (hU (gp SX Ls) r.1).toNat []).map (·.1):=λr hr=>by
  obtain⟨j,z,hz,e,hi⟩:=xQ h hr;rw[e,show((j:Nat):Int).toNat=j by omega,Na,Ia h hz];exact uD hi hr
 refine⟨λr hr=>?_,λr hr=>lY.mpr (key r hr).1,λr hr=>lY.mpr (key r hr).2,λr hr hc=>?_⟩
 ·obtain⟨j,z,hz,e,_⟩:=xQ h hr;have jl:=(M1.mp hz).1;rw[e];exact⟨by omega,by show(j:Int)<((cH (aD SX Ls)).length:Int);omega⟩
 ·obtain⟨n,s,l,h1,h2,h3,h4,h5,h6,h7⟩:=yL hr;rw[hc] at h6;have hk:=zW h6;obtain⟨Ld,Vg,hG⟩:=CU SX Ls h;obtain⟨m,u,_,hm,hu,hun⟩:=hG.ca n s h1 hk;rw[h7,← hun];show u.name∈(cH (aD SX Ls)).map (·.1);rw[ui];unfold Ua;exact Nx.mpr ⟨u,N9.mpr ⟨Ng hm,decide_eq_true hu⟩,rfl⟩
end
mutual
def ia:Th->Nat
 | .ifs _ A B=>1+f7 A+f7 B
 | .Ta _ A=>1+f7 A
 | .Tr _=>1
 | .call _=>1
 | .leave=>0
 | .back=>0
def f7:List Th->Nat
 | []=>0
 | t::ts=>ia t+f7 ts
end
abbrev oK:=Str×Str×Int×Int×Int
def nY (ts:List Th)(k bh lp:Int):Int:=match ts with
 | []=>bh
 | .leave::_=>lp
 | .back::_=> -1
 | _::_=>k
mutual
def eZ:Th->Int->Int->Int->List oK
 | .Tr x,k,af,lp=>[("do",x,k,af, -1)]
 | .call j,k,af,lp=>[("call","",k,af,j)]
 | .ifs x A B,k,af,lp=>([(("yes":Str),x,k,nY A (k+1) af lp, -1),(("no":Str),x,k,nY B (k+1+f7 A) af lp, -1)]:List oK)++(fH A (k+1) af lp++fH B (k+1+f7 A) af lp)
 | .Ta x A,k,af,lp=>([(("yes":Str),x,k,nY A (k+1) k af, -1),(("no":Str),x,k,af, -1)]:List oK)++fH A (k+1) k af
 | .leave,_,_,_=>[]
 | .back,_,_,_=>[]
def fH:List Th->Int->Int->Int->List oK
 | [],_,_,_=>[]
 | t::ts,k,bh,lp=>eZ t k (nY ts (k+ia t) bh lp) lp++fH ts (k+ia t) bh lp
end
theorem EX (x:Str):bp (.Tr x)=1:=by simp[bp]
theorem DZ (x:Int):bp (.call x)=1:=by simp[bp]
theorem Bc:bp .leave=1:=by simp[bp]
theorem D5:bp .back=1:=by simp[bp]
theorem l6:aZ "else"=false:=by decide +kernel
theorem gP:aZ "end"=false:=by decide +kernel
theorem mE:aZ "leave"=false:=by decide +kernel
theorem nU:aZ "back"=false:=by decide +kernel
theorem uw:aZ "part"=false:=by decide +kernel
def jQ (S:List aH):Nat:=(S.filter λt=>aZ t.kind).length
theorem gN (a b:List aH):jQ (a++b)=jQ a+jQ b:=by unfold jQ;rw[Oh,M9]
theorem pE {s:aH}(h:aZ s.kind=true):jQ [s]=1:=by unfold jQ;rw[N7 (by exact h)];rfl
theorem nu {s:aH}(h:aZ s.kind=false):jQ [s]=0:=by unfold jQ;rw[N8 (by rw[h];exact MM)];rfl
mutual
theorem FA {SX:ME}:∀(t:Th)(a w u:Int),jQ (spT SX a w u t)=ia t
 | .Tr _,a,w,u=>by rw[spT,ia];exact pE oE
 | .call _,a,w,u=>by rw[spT,ia];exact pE lX
 | .leave,a,w,u=>by rw[spT,ia];exact nu mE
 | .back,a,w,u=>by rw[spT,ia];exact nu nU
 | .Ta x A,a,w,u=>by
   rw[spT,ia,gN,gN,sv A,pE fP,nu gP];omega
 | .ifs x A B,a,w,u=>by
   rw[spT,ia,gN,gN,gN,gN,sv A,sv B,pE kM,nu l6,nu gP];omega
theorem sv {SX:ME}:∀(ts:List Th)(a w u:Int),jQ (bQ SX a w u ts)=f7 ts
 | [],a,w,u=>by rw[bQ,f7];rfl
 | t::ts,a,w,u=>by rw[bQ,f7,gN,FA t,sv ts]
end
section
variable {S:List aH}{a:Nat}{Ld:List MC}{n:Nat}{s:aH}
def dJ (S:List aH)(Ld:List MC)(a n:Nat):List Rw:=(OT a n).flatMap λ(i:Nat)=>dF Ld (a7 S Ld) ((i:Int),S.getD i c5)
theorem dR (S:List aH)(Ld:List MC)(a m n:Nat):dJ S Ld a (m+n)=dJ S Ld a m++dJ S Ld (a+m) n:=by
 unfold dJ;rw[← Oq,List.range'_append_1]
theorem mH (S:List aH)(Ld:List MC)(a:Nat):dJ S Ld a 1=dF Ld (a7 S Ld) ((a:Int),S.getD a c5):=by
 unfold dJ;rw[range'_one,OM]
def Ub (S:List aH)(a n:Nat):Nat:=((OT a n).filter λ(i:Nat)=>aZ (aU S (i:Int))).length
theorem gU (S:List aH)(a m n:Nat):Ub S a (m+n)=Ub S a m+Ub S (a+m) n:=by
 unfold Ub;rw[← M9,← Oh,List.range'_append_1]
theorem xa (h:aZ (aU S (a:Int))=true):Ub S a 1=1:=by
 unfold Ub;rw[range'_one,N7 (by exact h)];rfl
theorem rR (h:aZ (aU S (a:Int))=false):Ub S a 1=0:=by
 unfold Ub;rw[range'_one,N8 (by rw[h];exact MM)];rfl
theorem cm.gb {α:Type}{S:List α}{v:α}{vs:List α}(h:cm S a (v::vs)):S[a]?=some v/\cm S (a+1) vs:=⟨h 0 v rfl,λi x hx=>by
 have:=h (i+1) x hx;rwa [show a+1+i=a+(i+1) by omega]⟩
theorem sF {S:List aH}:∀{vs:List aH}{a:Nat},cm S a vs->Ub S a vs.length=jQ vs
 | [],a,_=>rfl
 | v::vs,a,h=>by
   obtain⟨h1,h2⟩:=h.gb;have h2:cm S (a+1) vs:=h2;have ih:=sF h2;rw[Nf,Nat.add_comm,gU,ih,show v::vs=[v]++vs from rfl,gN];have hk:=(dk h1).1;cases hr:aZ v.kind with
   | true=>rw[xa (by rw[hk];exact hr),pE hr]
   | false=>rw[rR (by rw[hk];exact hr),nu hr]
theorem Jd {SX:ME}{t:Th}{x w u:Int}{k:Nat}(h:cm S a (spT SX x w u t))(hk:Ub S 0 a=k):Ub S 0 (a+bp t)=k+ia t:=by
 have:=sF h;rw[jx,FA] at this;rw[gU,hk,Pa,this]
theorem Cd {SX:ME}{ts:List Th}{x w u:Int}{k:Nat}(h:cm S a (bQ SX x w u ts))(hk:Ub S 0 a=k):Ub S 0 (a+S4 ts)=k+f7 ts:=by
 have:=sF h;rw[bV,sv] at this;rw[gU,hk,Pa,this]
theorem DY (S:List aH)(Ld:List MC):fZ S Ld (a7 S Ld)=dJ S Ld 0 S.length:=by
 unfold fZ dJ;have e:nums S=(OT 0 S.length).map λ(i:Nat)=>((i:Int),S.getD i c5):=by
  refine Oo λi=>?_;rcases O9 i S.length with h | h
  ·have hl:i<(nums S).length:=by rw[cJ];exact h
   have hn:(nums S)[i]?=some (nums S)[i]:=M4 hl;obtain⟨y1,y2⟩:=eJ hn;have hr:(OT 0 S.length)[i]?=some i:=by rw[List.getElem?_range' h];simp
   rw[hn,Nc,hr];refine congrArg some (Py y1 ?_);show _=S.getD i c5;rw[Na,y2];rfl
  ·rw[NY (by rw[cJ];exact h),NY (by rw[M8,List.length_range'];exact h)]
 rw[e,List.flatMap_map]
theorem iu (hs:S[n]?=some s)(hk:aZ s.kind=false):dJ S Ld n 1=[]:=by
 have e:S.getD n c5=s:=by rw[Na,hs];rfl
 rw[mH,e];unfold dF jj;unfold aZ at hk;cases q:cU dH s.kind with
 | none=>rfl
 | some x=>rw[q] at hk;cases hk
theorem yA {y:Str}{l:Int}(hs:S[n]?=some s)(hk:cU dH s.kind=some [y])(hl:Ld.getD n []=[l]):dJ S Ld n 1=[((n:Int),(a7 S Ld).getD l.toNat 0,y,s.name)]:=by
 have e:S.getD n c5=s:=by rw[Na,hs];rfl
 rw[mH,e];unfold dF jj;rw[show(((n:Int),s).1).toNat=n from MY n,show(((n:Int),s).2).kind=s.kind from rfl,hk,hl];rfl
theorem zL {y y':Str}{l l':Int}(hs:S[n]?=some s)(hk:cU dH s.kind=some [y,y'])(hl:Ld.getD n []=[l,l']):dJ S Ld n 1=[((n:Int),(a7 S Ld).getD l.toNat 0,y,s.name),((n:Int),(a7 S Ld).getD l'.toNat 0,y',s.name)]:=by
 have e:S.getD n c5=s:=by rw[Na,hs];rfl
 rw[mH,e];unfold dF jj;rw[show(((n:Int),s).1).toNat=n from MY n,show(((n:Int),s).2).kind=s.kind from rfl,hk,hl];rfl
def xH (SX:ME)(φ:Int->Int)(r:Rw):oK:=(r.2.2.1,if r.2.2.1="call" then "" else r.2.2.2,φ r.1,φ r.2.1,if r.2.2.1="call" then(Ui SX r.2.2.2:Int) else -1)
structure oO (S:List aH)(Ld:List MC)(φ:Int->Int)(pe:Nat)(wl lq:Int)(lp:Bool)(hi:Nat):Prop where
 pz:hi<=pe
 pl:pe<S.length
 ps:φ ((a7 S Ld).getD pe 0)= -1
 wh:lp=true->(hi:Int)<=wl/\wl<(S.length:Int)/\φ ((a7 S Ld).getD wl.toNat 0)=lq
end
section
variable {S:List aH}{Ld:List MC}{SX:ME}{φ:Int->Int}{pe:Nat}
variable {lq:Int}{n:Nat}{s:aH}
theorem oO.less {wl:Int}{lp:Bool}{hi lo:Nat}(h:oO S Ld φ pe wl lq lp hi)(q:lo<=hi):oO S Ld φ pe wl lq lp lo:=
 ⟨by have:=h.pz;omega,h.pl,h.ps,λe=>by obtain⟨a,b,c⟩:=h.wh e;exact⟨by omega,b,c⟩⟩
theorem zR (hs:S[n]?=some s)(hk:aZ s.kind=true):(a7 S Ld).getD n 0=(n:Int):=
 gY (M1.mp hs).1 (.inr (by rw[(dk hs).1];exact hk))
theorem j8 {l:Int}(hs:S[n]?=some s)(hk:aZ s.kind=false)(hL:Ld.getD n []=[l])(h1:(n:Int)<l)(h2:l<(S.length:Int)):(a7 S Ld).getD n 0=(a7 S Ld).getD l.toNat 0:=by
 rw[lS (M1.mp hs).1 hL (by rw[(dk hs).1];exact hk) (by omega) h2,SS h1]
theorem yc {l:Int}(hs:S[n]?=some s)(hk:aZ s.kind=false)(hL:Ld.getD n []=[l])(h0:0<=l)(h1:l<=(n:Int)):(a7 S Ld).getD n 0=l:=by
 have hn:=(M1.mp hs).1;rw[lS hn hL (by rw[(dk hs).1];exact hk) h0 (by omega),SR (by omega)]
theorem G4:cU dH "do"=some (["do"]:ME):=by decide +kernel
theorem AI:cU dH "call"=some (["call"]:ME):=by decide +kernel
theorem Hd:cU dH "if"=some (["yes","no"]:ME):=by decide +kernel
theorem yf:cU dH "while"=some (["yes","no"]:ME):=by decide +kernel
theorem cm.d0 {a:Nat}{v:MC}{vs:List MC}(h:cm Ld a (v::vs)):Ld.getD a []=v:=by
 rw[Na,h.gb.1];rfl
theorem hdT {t:Th}{a w u:Int}:∃s r,spT SX a w u t=s::r/\(aZ s.kind=true↔t≠ .leave/\t≠ .back):=by
 cases t with
 | Tr x=>rw[spT];exact⟨_,_,rfl,by constructor<;>intro _;exact⟨(λe=>by cases e),λe=>by cases e⟩;exact oE⟩
 | call x=>rw[spT];exact⟨_,_,rfl,by constructor<;>intro _;exact⟨(λe=>by cases e),λe=>by cases e⟩;exact lX⟩
 | ifs x A B=>rw[spT];exact⟨_,_,rfl,by constructor<;>intro _;exact⟨(λe=>by cases e),λe=>by cases e⟩;exact kM⟩
 | Ta x A=>rw[spT];exact⟨_,_,rfl,by constructor<;>intro _;exact⟨(λe=>by cases e),λe=>by cases e⟩;exact fP⟩
 | leave=>rw[spT];exact⟨_,_,rfl,by constructor<;>intro h;rw[show aZ _=false from mE] at h;cases h;exact SQ rfl h.1⟩
 | back=>rw[spT];exact⟨_,_,rfl,by constructor<;>intro h;rw[show aZ _=false from nU] at h;cases h;exact SQ rfl h.2⟩
theorem DQ (t:Th):1<=bp t:=by
 cases t<;>simp[bp]<;>omega
theorem Ez {t:Th}{ts:List Th}{k bh:Int}(h:t≠ .leave/\t≠ .back):nY (t::ts) k bh lq=k:=by
 cases t with
 | leave=>exact SQ rfl h.1
 | back=>exact SQ rfl h.2
 | Tr _=>rfl
 | call _=>rfl
 | ifs _ _ _=>rfl
 | Ta _ _=>rfl
theorem rT (hφ:∀n:Nat,n<pe->aZ (aU S (n:Int))=true->φ (n:Int)=(Ub S 0 n:Int)){lo m:Int}{lp:Bool}{ts:List Th}{a:Nat}{w u wl:Int}(S8:bG lo m lp ts)(hS:cm S a (bQ SX (a:Int) w u ts))(hL:cm Ld a (fI (a:Int) wl (pe:Int) ts))(cx:oO S Ld φ pe wl lq lp (a+S4 ts)){k:Nat}(hk:Ub S 0 a=k){bh:Int}(hb:φ ((a7 S Ld).getD (a+S4 ts) 0)=bh):φ ((a7 S Ld).getD a 0)=nY ts (k:Int) bh lq:=by
 cases ts with
 | nil=>rw[S4] at hb;exact hb
 | cons t ts=>
   rw[bQ] at hS;rw[fI] at hL;simp only[bG] at S8;rw[S4] at cx;have hS:=hS.pre;have hL:=hL.pre;have p1:=DQ t;have pz:=cx.pz;have pl:=cx.pl;obtain⟨s,r,e,hr⟩:=hdT (SX:=SX) (t:=t) (a:=(a:Int)) (w:=w) (u:=u);have hs:S[a]?=some s:=by rw[e] at hS;exact hS.gb.1
   cases UW:aZ s.kind with
   | true=>
     rw[zR hs UW,Ez (hr.mp UW),hφ a (by omega) (by rw[(dk hs).1];exact UW),hk]
   | false=>
     cases t with
     | Tr _=>rw[hr.mpr ⟨(λe=>by cases e),(λe=>by cases e)⟩] at UW;cases UW
     | call _=>rw[hr.mpr ⟨(λe=>by cases e),(λe=>by cases e)⟩] at UW;cases UW
     | ifs _ _ _=>rw[hr.mpr ⟨(λe=>by cases e),(λe=>by cases e)⟩] at UW;cases UW
     | Ta _ _=>rw[hr.mpr ⟨(λe=>by cases e),(λe=>by cases e)⟩] at UW;cases UW
     | leave=>
       have h1:=S8.1;simp only[cf] at h1;obtain⟨w1,w2,w3⟩:=cx.wh h1;rw[eI] at hL;rw[j8 hs UW hL.d0 (by omega) w2,w3];rfl
     | back=>
       rw[eI] at hL;rw[j8 hs UW hL.d0 (by omega) (by omega),MY,cx.ps];rfl
end
theorem yn {α:Type}{a a' b b':List α}(h:a=a')(h':b=b'):a++b=a'++b':=by rw[h,h']
section
variable {S:List aH}{Ld:List MC}{SX:ME}{φ:Int->Int}{pe:Nat}
theorem Gv {SX:ME}(nd:SX.Nodup){j:Nat}(h:j<SX.length):Ui SX (SX.getD j "")=j:=by
 have hx:SX[j]?=some (SX.getD j ""):=by rw[Na,M4 h];rfl
 obtain⟨h1,h2⟩:=ua (Ng hx);rcases Nat.lt_trichotomy (Ui SX (SX.getD j "")) j with q | q | q
 ·have:=(List.getElem?_inj (by omega) nd).mp (h1.trans hx.symm);exact this
 ·exact q
 ·exact SQ hx (h2 j q)
variable {lo m:Int}(nd:SX.Nodup)(hm:m<=(SX.length:Int))(h0:0<=lo)(hφ:∀n:Nat,n<pe->aZ (aU S (n:Int))=true->φ (n:Int)=(Ub S 0 n:Int))
include nd hm h0 hφ
mutual
theorem mpT:∀(t:Th)(lp:Bool)(a:Nat)(w u wl lq:Int)(k:Nat)(af:Int),cf lo m lp t->cm S a (spT SX (a:Int) w u t)->cm Ld a (eI (a:Int) wl (pe:Int) t)->oO S Ld φ pe wl lq lp (a+bp t)->Ub S 0 a=k->φ ((a7 S Ld).getD (a+bp t) 0)=af->(dJ S Ld a (bp t)).map (xH SX φ)=eZ t (k:Int) af lq
 | .Tr x,lp,a,w,u,wl,lq,k,af,h,hS,hL,cx,hk,ha=>by
   rw[spT] at hS;rw[eI] at hL;rw[EX] at ha cx ⊢;have pz:=cx.pz;have fa:=hφ a (by omega) (by rw[(dk hS.gb.1).1];exact oE);rw[yA hS.gb.1 G4 hL.d0,eZ,OZ];show[(("do":Str),(if("do":Str)="call" then("":Str) else x),φ (a:Int),φ ((a7 S Ld).getD ((a:Int)+1).toNat 0),(if("do":Str)="call" then(Ui SX x:Int) else -1))]=_;rw[show((a:Int)+1).toNat=a+1 by omega,ha,fa,hk,SR (by decide +kernel),SR (by decide +kernel)]
 | .call j,lp,a,w,u,wl,lq,k,af,h,hS,hL,cx,hk,ha=>by
   rw[spT] at hS;rw[eI] at hL;rw[DZ] at ha cx ⊢;simp only[cf] at h;have pz:=cx.pz;have fa:=hφ a (by omega) (by rw[(dk hS.gb.1).1];exact lX);rw[yA hS.gb.1 AI hL.d0,eZ,OZ];show[(("call":Str),(if("call":Str)="call" then("":Str) else SX.getD j.toNat ""),φ (a:Int),φ ((a7 S Ld).getD ((a:Int)+1).toNat 0),(if("call":Str)="call" then(Ui SX (SX.getD j.toNat ""):Int) else -1))]=_;rw[show((a:Int)+1).toNat=a+1 by omega,ha,fa,hk,SS rfl,SS rfl,Gv nd (by omega),show((j.toNat:Nat):Int)=j by omega]
 | .leave,lp,a,w,u,wl,lq,k,af,h,hS,hL,cx,hk,ha=>by
   rw[spT] at hS;rw[Bc];rw[iu hS.gb.1 mE,eZ];rfl
 | .back,lp,a,w,u,wl,lq,k,af,h,hS,hL,cx,hk,ha=>by
   rw[spT] at hS;rw[D5];rw[iu hS.gb.1 nU,eZ];rfl
 | .Ta x A,lp,a,w,u,wl,lq,k,af,h,hS,hL,cx,hk,ha=>by
   simp only[cf] at h;rw[spT] at hS;rw[eI] at hL;rw[bp] at cx ha ⊢;obtain⟨s1,s2⟩:=hS.app;obtain⟨s2,s3⟩:=s2.app;obtain⟨d1,d2⟩:=hL.app;obtain⟨d2,d3⟩:=d2.app;rw[bV] at s3;rw[dw] at d3;simp only[Nf,Nr,Pa] at s2 s3 d2 d3;have pz:=cx.pz;have pl:=cx.pl;have fa:=hφ a (by omega) (by rw[(dk s1.gb.1).1];exact fP);have se:(a7 S Ld).getD (a+1+S4 A) 0=(a:Int):=yc s3.gb.1 gP d3.d0 (by omega) (by omega);have cx':oO S Ld φ pe ((a:Int)+2+S4 A) af true (a+1+S4 A):=⟨by omega,pl,cx.ps,λ_=>⟨by omega,by omega,by rw[show((a:Int)+2+S4 A).toNat=a+(2+S4 A) by omega];exact ha⟩⟩;have k1:Ub S 0 (a+1)=k+1:=by rw[gU,hk,Pa,xa (by rw[(dk s1.gb.1).1];exact fP)]
   have V1:cm S (a+1) (bQ SX ((a+1:Nat):Int) (w+2) (a:Int) A):=by push_cast;exact s2
   have Wm:cm Ld (a+1) (fI ((a+1:Nat):Int) ((a:Int)+2+S4 A) (pe:Int) A):=by push_cast;exact d2
   have hb:φ ((a7 S Ld).getD (a+1+S4 A) 0)=(k:Int):=by rw[se,fa,hk]
   have en:=rT hφ h.2 V1 Wm cx' k1 hb;have ih:=zF A true (a+1) (w+2) (a:Int) ((a:Int)+2+S4 A) af (k+1) (k:Int) h.2 V1 Wm cx' k1 hb;rw[show 2+S4 A=1+(S4 A+1) by omega,dR,dR,zL s1.gb.1 yf d1.d0,iu s3.gb.1 gP,Nw,Nn,ih,eZ];refine yn ?_ (by push_cast;rfl);show[(("yes":Str),(if("yes":Str)="call" then("":Str) else x),φ (a:Int),φ ((a7 S Ld).getD ((a:Int)+1).toNat 0),(if("yes":Str)="call" then(Ui SX x:Int) else -1)),(("no":Str),(if("no":Str)="call" then("":Str) else x),φ (a:Int),φ ((a7 S Ld).getD ((a:Int)+2+S4 A).toNat 0),(if("no":Str)="call" then(Ui SX x:Int) else -1))]=_;rw[show((a:Int)+1).toNat=a+1 by omega,show((a:Int)+2+S4 A).toNat=a+(2+S4 A) by omega,ha,en,fa,hk,SR (by decide +kernel),SR (by decide +kernel),SR (by decide +kernel),SR (by decide +kernel)];push_cast;rfl
 | .ifs x A B,lp,a,w,u,wl,lq,k,af,h,hS,hL,cx,hk,ha=>by
   simp only[cf] at h;rw[spT,Nl] at hS;rw[eI,Nl] at hL;rw[bp] at cx ha ⊢;obtain⟨s1,s2⟩:=hS.app;obtain⟨s2,s3⟩:=s2.app;obtain⟨s3,s4⟩:=s3.app;obtain⟨s4,s5⟩:=s4.app;obtain⟨d1,d2⟩:=hL.app;obtain⟨d2,d3⟩:=d2.app;obtain⟨d3,d4⟩:=d3.app;obtain⟨d4,d5⟩:=d4.app;rw[bV] at s3 s4 s5;rw[bV] at s5;rw[dw] at d3 d4 d5;rw[dw] at d5;simp only[Nf,Nr,Pa] at s2 s3 s4 s5 d2 d3 d4 d5;have pz:=cx.pz;have pl:=cx.pl;have fa:=hφ a (by omega) (by rw[(dk s1.gb.1).1];exact kM);have s5e:(a7 S Ld).getD (a+1+S4 A+1+S4 B) 0=(a7 S Ld).getD (a+(3+S4 A+S4 B)) 0:=by
    rw[j8 s5.gb.1 gP d5.d0 (by omega) (by omega)];congr 1;omega
   have s3e:(a7 S Ld).getD (a+1+S4 A) 0=(a7 S Ld).getD (a+(3+S4 A+S4 B)) 0:=by
    rw[j8 s3.gb.1 l6 d3.d0 (by omega) (by omega),← s5e];congr 1;omega
   have k1:Ub S 0 (a+1)=k+1:=by rw[gU,hk,Pa,xa (by rw[(dk s1.gb.1).1];exact kM)]
   have k2:Ub S 0 (a+1+S4 A)=k+1+f7 A:=Cd s2 k1;have k3:Ub S 0 (a+1+S4 A+1)=k+1+f7 A:=by rw[gU,k2,Pa,rR (by rw[(dk s3.gb.1).1];exact l6),Pl]
   have V1:cm S (a+1) (bQ SX ((a+1:Nat):Int) (w+2) (a:Int) A):=by push_cast;exact s2
   have Wm:cm Ld (a+1) (fI ((a+1:Nat):Int) wl (pe:Int) A):=by push_cast;exact d2
   have q4:((a+1+S4 A+1:Nat):Int)=(a:Int)+2+S4 A:=by omega
   have s4':cm S (a+1+S4 A+1) (bQ SX ((a+1+S4 A+1:Nat):Int) (w+3+(Td SX A).length) ((a:Int)+1+S4 A) B):=by rw[q4];exact s4
   have d4':cm Ld (a+1+S4 A+1) (fI ((a+1+S4 A+1:Nat):Int) wl (pe:Int) B):=by rw[q4];exact d4
   have cA:oO S Ld φ pe wl lq lp (a+1+S4 A):=cx.less (by omega);have cB:oO S Ld φ pe wl lq lp (a+1+S4 A+1+S4 B):=cx.less (by omega);have hA:φ ((a7 S Ld).getD (a+1+S4 A) 0)=af:=by rw[s3e];exact ha
   have hB:φ ((a7 S Ld).getD (a+1+S4 A+1+S4 B) 0)=af:=by rw[s5e];exact ha
   have eA:=rT hφ h.2.1 V1 Wm cA k1 hA;have eB:=rT hφ h.2.2 s4' d4' cB k3 hB;have iA:=zF A lp (a+1) (w+2) (a:Int) wl lq (k+1) af h.2.1 V1 Wm cA k1 hA;have iB:=zF B lp (a+1+S4 A+1) (w+3+(Td SX A).length) ((a:Int)+1+S4 A) wl lq (k+1+f7 A) af h.2.2 s4' d4' cB k3 hB;rw[show 3+S4 A+S4 B=1+(S4 A+(1+(S4 B+1))) by omega,dR,dR,dR,dR,zL s1.gb.1 Hd d1.d0,iu s3.gb.1 l6,iu s5.gb.1 gP,Nw,NV,Nn,Nn,iA,iB,eZ];refine yn ?_ (by push_cast;rfl);show[(("yes":Str),(if("yes":Str)="call" then("":Str) else x),φ (a:Int),φ ((a7 S Ld).getD ((a:Int)+1).toNat 0),(if("yes":Str)="call" then(Ui SX x:Int) else -1)),(("no":Str),(if("no":Str)="call" then("":Str) else x),φ (a:Int),φ ((a7 S Ld).getD ((a:Int)+2+S4 A).toNat 0),(if("no":Str)="call" then(Ui SX x:Int) else -1))]=_;rw[show((a:Int)+1).toNat=a+1 by omega,show((a:Int)+2+S4 A).toNat=a+1+S4 A+1 by omega,eB,eA,fa,hk,SR (by decide +kernel),SR (by decide +kernel),SR (by decide +kernel),SR (by decide +kernel)];push_cast;rfl
theorem zF:∀(ts:List Th)(lp:Bool)(a:Nat)(w u wl lq:Int)(k:Nat)(bh:Int),bG lo m lp ts->cm S a (bQ SX (a:Int) w u ts)->cm Ld a (fI (a:Int) wl (pe:Int) ts)->oO S Ld φ pe wl lq lp (a+S4 ts)->Ub S 0 a=k->φ ((a7 S Ld).getD (a+S4 ts) 0)=bh->(dJ S Ld a (S4 ts)).map (xH SX φ)=fH ts (k:Int) bh lq
 | [],lp,a,w,u,wl,lq,k,bh,h,hS,hL,cx,hk,hb=>by rw[S4,fH];rfl
 | t::ts,lp,a,w,u,wl,lq,k,bh,h,hS,hL,cx,hk,hb=>by
   simp only[bG] at h;rw[bQ] at hS;rw[fI] at hL;rw[S4] at cx hb ⊢;obtain⟨s1,s2⟩:=hS.app;obtain⟨d1,d2⟩:=hL.app;rw[jx] at s2;rw[m7] at d2;have V1:cm S (a+bp t) (bQ SX ((a+bp t:Nat):Int) (w+(cL SX t).length) u ts):=by push_cast;exact s2
   have Wm:cm Ld (a+bp t) (fI ((a+bp t:Nat):Int) wl (pe:Int) ts):=by push_cast;exact d2
   have k1:=Jd s1 hk;rw[← Pm] at cx hb;have en:=rT hφ h.2.2 V1 Wm cx k1 hb;have i1:=mpT t lp a w u wl lq k _ h.1 s1 d1 (cx.less (by omega)) hk en;have i2:=zF ts lp (a+bp t) (w+(cL SX t).length) u wl lq (k+ia t) bh h.2.2 V1 Wm cx k1 hb;rw[dR,Nn,i1,i2,fH];push_cast;rfl
end
end
abbrev nI (F:MJ)(a b:Int):MJ:=de (de F a) b
theorem ow:∀(zs:List (Str×List Th))(j:Nat)(z:Str×List Th),zs[j]?=some z->cV (zs.take (j+1))=cV (zs.take j)+(2+S4 z.2)
 | [],j,z,h=>by simp at h
 | y::r,0,z,h=>by
   have e:y=z:=by simpa using h
   subst e;rw[NQ,cV,Ol,Ol,cV];omega
 | y::r,j+1,z,h=>by
   have:=ow r j z (by simpa using h);rw[NQ,NQ,cV,cV,this];omega
def Tx (Ls:List (List Th))(j:Nat):Nat:=((Ls.take j).map f7).sum
def bY (Ls:List (List Th))(j:Nat):List oK:=fH (Ls.getD j []) (Tx Ls j:Int) (-1) 0
def oF (Ls:List (List Th))(j:Nat):MJ:=(bY Ls j).foldl (λF r=>nI F r.2.2.1 r.2.2.2.1) [((Tx Ls j:Int),0),(-1,1)]
def ma (SX:ME)(r:oK):Str×Str:=(r.1,if r.1="call" then SX.getD r.2.2.2.2.toNat "" else r.2.1)
def gA (SX:ME)(Ls:List (List Th)):List (Str×Str):=(Nk Ls.length).flatMap λj=>(bY Ls j).map (ma SX)
section
variable {SX:ME}{Ls:List (List Th)}
variable {z:Str×List Th}{j:Nat}
def sr (SX:ME)(Ls:List (List Th))(j:Nat)(z:Str×List Th)(x:Int):Int:=if x=((lst (fst SX Ls j) z:Nat):Int) then -1 else(Ub (aD SX Ls) 0 x.toNat:Int)
theorem wF (S:List aH)(Ld:List MC){SX:ME}{f:Nat}{w:Int}(hb:eO S Ld SX f w z):dJ S Ld f (2+S4 z.2)=dJ S Ld (f+1) (S4 z.2):=by
 rw[show 2+S4 z.2=1+(S4 z.2+1) by omega,dR,dR,iu hb.nm uw,iu hb.e gP,Nw,NV]
theorem vg {S:List aH}{Ld:List MC}{SX:ME}{f:Nat}{w:Int}(hb:eO S Ld SX f w z):Ub S 0 (f+1)=Ub S 0 f/\Ub S 0 (f+(2+S4 z.2))=Ub S 0 f+f7 z.2:=by
 have k1:Ub S 0 (f+1)=Ub S 0 f:=by rw[gU,Pa,rR (by rw[hb.k];exact uw),Pl]
 refine⟨k1,?_⟩;have k2:=Cd hb.s k1;rw[show f+(2+S4 z.2)=(f+1+S4 z.2)+1 by omega,gU,k2,Pa,rR (by rw[(dk hb.e).1];exact gP),Pl]
theorem rN (h:cS SX Ls)(hj:j<Ls.length):∃z,(dA SX Ls)[j]?=some z/\z.2=Ls.getD j []:=by
 have hl:j<(dA SX Ls).length:=by rw[oB h];exact hj
 have hz:=M4 hl;refine⟨_,hz,?_⟩;have:=(eY h hz).2.2.2.2;rw[Na,this];rfl
theorem B9 (h:cS SX Ls):∀j,j<=Ls.length->Ub (aD SX Ls) 0 (fst SX Ls j)=Tx Ls j
 | 0,_=>rfl
 | j+1,hj=>by
   obtain⟨z,hz,ez⟩:=rN h (j:=j) (by omega);obtain⟨w,hb⟩:=kZ (SX:=SX) (Ls:=Ls) hz;have hL:=(eY h hz).2.2.2.2;have e:fst SX Ls (j+1)=fst SX Ls j+(2+S4 z.2):=ow _ _ _ hz;rw[e,(vg hb).2,B9 h j (by omega)];unfold Tx;rw[NH,hL,Nn,OX];simp
theorem all_rows (h:cS SX Ls):∀n,n<=Ls.length->dJ (aD SX Ls) (dt SX Ls) 0 (fst SX Ls n)=(Nk n).flatMap λj=>dJ (aD SX Ls) (dt SX Ls) (fst SX Ls j+1) (S4 (Ls.getD j []))
 | 0,_=>rfl
 | n+1,hn=>by
   obtain⟨z,hz,ez⟩:=rN h (j:=n) (by omega);obtain⟨w,hb⟩:=kZ (SX:=SX) (Ls:=Ls) hz;have e:fst SX Ls (n+1)=fst SX Ls n+(2+S4 z.2):=ow _ _ _ hz;rw[e,dR,all_rows h n (by omega),Pa,wF _ _ hb,OD,Oq,OM,ez]
theorem uJ (h:cS SX Ls):(gp SX Ls).rows=(Nk Ls.length).flatMap λj=>dJ (aD SX Ls) (dt SX Ls) (fst SX Ls j+1) (S4 (Ls.getD j [])):=by
 rw[← all_rows h Ls.length (O0 _)];show fZ (aD SX Ls) (dt SX Ls) (a7 (aD SX Ls) (dt SX Ls))=_;rw[DY];congr 1;rw[xl,← oB h];show cV (dA SX Ls)=cV ((dA SX Ls).take _);rw[NN]
theorem qX (h:cS SX Ls)(hz:(dA SX Ls)[j]?=some z):(dJ (aD SX Ls) (dt SX Ls) (fst SX Ls j+1) (S4 z.2)).map (xH SX (sr SX Ls j z))=bY Ls j:=by
 obtain⟨w,hb⟩:=kZ (SX:=SX) (Ls:=Ls) hz;obtain⟨VM,W0,ok3,hn,hL⟩:=eY h hz;have jl:=(M1.mp hL).1;have ll:lst (fst SX Ls j) z<(aD SX Ls).length:=(M1.mp hb.e).1;have hφ:∀n:Nat,n<lst (fst SX Ls j) z->aZ (aU (aD SX Ls) (n:Int))=true->sr SX Ls j z (n:Int)=(Ub (aD SX Ls) 0 n:Int):=λn hn _=>by
  unfold sr;rw[SR (by omega),MY]
 have ps:sr SX Ls j z ((a7 (aD SX Ls) (dt SX Ls)).getD (lst (fst SX Ls j) z) 0)= -1:=by
  rw[gY ll (.inl hb.dl)];unfold sr;rw[SS rfl]
 have hk:Ub (aD SX Ls) 0 (fst SX Ls j+1)=Tx Ls j:=by rw[(vg hb).1,B9 h j (by omega)]
 have:=zF (S:=aD SX Ls) (Ld:=dt SX Ls) (SX:=SX) (φ:=sr SX Ls j z) (pe:=lst (fst SX Ls j) z) (lo:=(j:Int)) (m:=(Ls.length:Int)) h.nd (by rw[h.l];exact MZ _) (by omega) hφ z.2 false (fst SX Ls j+1) (w+2) (fst SX Ls j:Int) 0 0 (Tx Ls j) (-1) VM hb.s hb.d ⟨O0 _,ll,ps,λe=>by cases e⟩ hk ps;rw[this];unfold bY;rw[Na,hL];rfl
theorem vK (h:cS SX Ls)(hz:(dA SX Ls)[j]?=some z){r:Rw}(hr:r∈dJ (aD SX Ls) (dt SX Ls) (fst SX Ls j+1) (S4 z.2)):r∈(gp SX Ls).rows:=by
 obtain⟨_,_,_,_,hL⟩:=eY h hz;rw[uJ h];refine OS.mpr ⟨j,Oi.mpr (M1.mp hL).1,?_⟩;rw[Na,hL];exact hr
theorem kK {α β:Type}{f g:α->List β}:∀{l:List α},(∀x∈l,f x=g x)->l.flatMap f=l.flatMap g
 | [],_=>rfl
 | x::l,h=>by rw[N2,N2,h x Nb,kK λy hy=>h y (M7 _ hy)]
theorem wA (h:cS SX Ls):(gp SX Ls).rows.map (λr=>(r.2.2.1,r.2.2.2))=gA SX Ls:=by
 have wb:=B4 h;unfold gA
 conv=>lhs;rw[uJ h,List.map_flatMap]
 refine kK λj hj=>?_;obtain⟨z,hz,ez⟩:=rN h (Oi.mp hj);rw[← ez,← qX h hz,NX];refine Ox λr hr=>?_;show(r.2.2.1,r.2.2.2)=ma SX (xH SX (sr SX Ls j z) r);unfold ma xH;dsimp only;by_cases q:r.2.2.1="call"
 ·have hm:=wb.cl r (vK h hz hr) q;have U4:(gp SX Ls).parts.map (·.1)=SX:=pO h;rw[U4] at hm;rw[SS q,SS q,MY,Na,(ua hm).1];rfl
 ·rw[SR q,SR q]
end
mutual
theorem yI:∀(t:Th)(k:Int),(bw t k).2=k+ia t
 | .Tr x,k=>by rw[bw,ia];rfl
 | .call j,k=>by rw[bw,ia];rfl
 | .leave,k=>by rw[bw,ia];show k=_;omega
 | .back,k=>by rw[bw,ia];show k=_;omega
 | .Ta x A,k=>by rw[bw,ia];show(aI A (k+1)).2=_;rw[lh A];omega
 | .ifs x A B,k=>by rw[bw,ia];show(aI B (aI A (k+1)).2).2=_;rw[lh B,lh A];omega
theorem lh:∀(ts:List Th)(k:Int),(aI ts k).2=k+f7 ts
 | [],k=>by rw[aI,f7];show k=_;omega
 | t::ts,k=>by rw[aI,f7];show(aI ts (bw t k).2).2=_;rw[lh ts,yI t];omega
end
theorem oT {k bh lp:Int}:∀ts:List Th,qk ts k bh lp=nY ts k bh lp
 | []=>rfl
 | .leave::_=>rfl
 | .back::_=>rfl
 | .Tr _::_=>rfl
 | .call _::_=>rfl
 | .ifs _ _ _::_=>rfl
 | .Ta _ _::_=>rfl
mutual
theorem Dj:∀(t:Th)(k af lp:Int),fb t k af lp=eZ t k af lp
 | .Tr x,k,af,lp=>by rw[fb,eZ]
 | .call j,k,af,lp=>by rw[fb,eZ]
 | .leave,k,af,lp=>by rw[fb,eZ]
 | .back,k,af,lp=>by rw[fb,eZ]
 | .Ta x A,k,af,lp=>by rw[fb,eZ,ly A,oT]
 | .ifs x A B,k,af,lp=>by rw[fb,eZ,ly A,ly B,oT,oT,lh]
theorem ly:∀(ts:List Th)(k bh lp:Int),iL ts k bh lp=fH ts k bh lp
 | [],k,bh,lp=>by rw[iL,fH]
 | t::ts,k,bh,lp=>by rw[iL,fH,Dj t,ly ts,oT,yI]
end
theorem t9 {lo m:Int}{L:List Th}{k:Int}(h:bG lo m false L):dU L k (.int (-1)) .Tf=(fH L k (-1) 0).map fU:=by
 rw[← ly];exact mr L 0 k (-1) h
abbrev eE:Rep (List je×MJ):=fD (ae mF) ij
def mw (Ls:List (List Th))(j:Nat):List je×MJ:=(bY Ls j,oF Ls j)
def gq (Ls:List (List Th)):List (List je×MJ):=(Nk Ls.length).map (mw Ls)
def w9 (K:Sk):Sp:=λvs H Q _=>∃(R:Hp)(a:Addr)(ps:List PT)(SX:ME)(Ls:List (List Th)),vs=[.ref a]/\ay R H/\hJ H a ps/\(∀d∈a::dG ps,R d=none)/\ps.map (·.1)=Ls.map ba/\cS SX Ls/\
 ∀v H' R',Ext (ft H (a::dG ps)) R H' R'->(ae eE).R K R' v (gq Ls)->Q v H'
end K1
namespace Fc
open PySem PySem.Spec PySem.W PySem.Calls L2
open PyProof.Rows hiding St
open PySem PySem.Spec L2 K1
section
variable {X:Cx}{Γ Γ1:Ga}{N:Ga->Prop}{T:RT}
theorem Je (i:Nat){x y:Str}{m:Nat}{p p1 pos:Pos}{a:Addr}{ps:List PT}{SX:ME}{Ls:List (List Th)}(C:aM X.prog X.w X.K X.mg X.base x m (w9 X.K))(hr:bI m X.A)(hΓ:Γ[i]?=some (.ob (bN a ps)))(Ug:ps.map (·.1)=Ls.map ba)(hP:cS SX Ls)(hg:Gl X x:=by rfl)(TZ:Ti x:=by decide)(he:PU [.Name y p1] X.env=(false,eval (.Name y p1) X.env)::PU [] X.env:=by rfl)(To:(P8 pos (PU [] X.env)).any (·.1)=false:=by rfl)(hN:X.N[i]?=some y:=by rfl)(hv:autoParam (cb X.env.scope y) Tv)(hd:Ti y:=by decide)(S9:Tz y:=by decide):
 EV X (.Call (.Name x p) [.Name y p1] [] pos) Γ (ae eE) (gq Ls) (Γ.set i .no):=λσ H0 R0 H R E Q q=>by
 obtain⟨f,fd,pn,F,hm,hk,hb⟩:=C.ex;obtain⟨⟨v,ea,rfl,kk⟩,hR⟩:=E.ent i _ hΓ;refine eS (iE F hr hg hm hk hb .nil kj (aK (a8 hN hv hd S9) bo he) TZ he To) ⟨.ref a,at_of ea,?_⟩;show w9 X.K [.ref a] H Q E0;refine⟨R,a,ps,SX,Ls,rfl,E.sub,kk,hR,Ug,hP,λv H' R' xx r=>?_⟩;have E1:aw X.K σ H0 R0 H' R' (Γ.set i (.ob L1)):=E.Cp hΓ (B:=bN a ps) xx (by rw[ea];exact⟨⟨_,rfl,trivial⟩,λb hb=>by cases hb⟩) λc hc=>by cases hc
 have hl:i<Γ.length:=(M1.mp hΓ).1;have E2:=E1.tell (i:=i) (en:=.no) (Ni hl) trivial λb w=>by cases w
 rw[Og] at E2;exact q v H' R' E2 xx.r r
end
end Fc
namespace K1
open PySem L2 Fc
open PySem.Spec hiding Row
open PyProof.Rows hiding St
open PySem.Builtin.Int (intBits)
variable {P:P2}{w:World}{K:Sk}{mg:MA}{base:Heap}{f:Addr}{fd:Qa}
theorem hJ.pm {H R:Hp}{a:Addr}{ps:List PT}(k:hJ H a ps):Am H R a [] ps:=⟨by rw[k.hd];rfl,λz hz=>(by cases hz),k.pt,k.dj⟩
theorem IB {K:Sk}{R H:Hp}{a:Addr}{ps:List PT}{N:ME}(hN:N.length=12)(s:ay R H)(kk:hJ H a ps)(hR:∀d∈a::dG ps,R d=none):
 aw K (L2.start N [.ref a]) (ft H (a::dG ps)) R H R [.ob (dP a [] ps),.no,.no,.no,.no,.no,.no,.no,.no,.no,.no,.no]:=by
 have es:L2.start N [.ref a]=some (.ref a)::N3 11 none:=by unfold L2.start;rw[hN];rfl
 rw[es];have at_:∀(i:Nat)(e:Ent),(Ent.ob (dP a [] ps)::N3 11 Ent.no:Ga)[i]?=some e->(i=0/\e= .ob (dP a [] ps))∨e= .no:=λi e q=>by
  cases i with
  | zero=>exact .inl ⟨rfl,by simpa using q.symm⟩
  | succ i=>
    right;have:e∈N3 11 Ent.no:=Ng (by simpa using q);exact List.eq_of_mem_replicate this
 show aw K _ _ R H R (Ent.ob (dP a [] ps)::N3 11 Ent.no);refine⟨⟨oj,ay.refl _,s,λ_ _=>rfl⟩,λi e q=>?_,λi e d q w=>?_,λi j e e' d q q' w w'=>?_,rfl⟩
 ·rcases at_ i e q with⟨rfl,rfl⟩ | rfl
  ·exact⟨⟨_,rfl,rfl,hJ.pm kk⟩,hR⟩
  ·trivial
 ·rcases at_ i e q with⟨rfl,rfl⟩ | rfl
  ·exact jA w
  ·cases w
 ·rcases at_ i e q with⟨rfl,rfl⟩ | rfl
  ·rcases at_ j e' q' with⟨rfl,rfl⟩ | rfl
   ·rfl
   ·cases w'
  ·cases w
theorem sZ (F:MJ)(k:Int):(de F k).length<=F.length+1:=by
 unfold de;split
 ·omega
 ·rw[M9];exact O0 _
theorem vH {F:MJ}{k:Int}:de F k=if(bJ F k).isSome then F else iC F k (F.length:Int):=by
 unfold de iC;cases (bJ F k).isSome<;>rfl
theorem Dk (rs:List oK):∀(F:MJ),(rs.foldl (λF r=>nI F r.2.2.1 r.2.2.2.1) F).length<=F.length+2*rs.length:=by
 induction rs with
 | nil=>intro F;exact O0 _
 | cons r rs ih=>
   intro F;rw[Ou,Nf];have h1:_<=(de (de F r.2.2.1) r.2.2.2.1).length+2*rs.length:=ih (nI F r.2.2.1 r.2.2.2.1);have h2:=sZ (de F r.2.2.1) r.2.2.2.1;have h3:=sZ F r.2.2.1;omega
theorem zK {lo m:Int}{L:List Th}(h:bG lo m false L)(k:Int):(fH L k (-1) 0).length=bW L:=by
 have:=congrArg List.length (t9 (k:=k) h);rw[gC,M8] at this;exact this.symm
theorem GU {L:List Th}{k:Int}{bh lp:PV}{lo m:Int}(h:gG L)(ho:bG lo m false L):gi L k bh lp= .int k:=by
 obtain⟨t,ts,rfl,hb⟩:=h;cases t with
 | leave=>simp only[bG,cf] at ho;cases ho.1
 | back=>cases hb
 | Tr _=>rfl
 | call _=>rfl
 | ifs _ _ _=>rfl
 | Ta _ _=>rfl
section
abbrev xW:Stmt:=top qD
abbrev Fq:ME:=["_law_lists","_law_keys","_law_mapped_here","_law_items","_law_rows_here","_law_known","_law_key","_law_word","_law_name_here","_law_one","_law_other","_law_calls"]
abbrev IS:ME:=["_law_lists"]
theorem ES:aN Fq IS (ao xW):=TQ
theorem Jr (M:cP K mg)(CN:aM P w K mg base "_law_numbered" 5 (kB 4))(CE:aM P w K mg base "_law_entry" 1 (a9 zS K))(CR:aM P w K mg base "_law_rows" 6 (nQ 4 K))(F:dQ K "_law_mapped" "_law_mapped" xW f fd)(hm:mg "_law_mapped"=some (.ref f))(hb:Binds K fd IS []):aM P w K mg base "_law_mapped" 7 (w9 K):=by
 have nd:=ES.nd;have CN:=CN.mono (show 5<=6 by decide);have CE:=CE.mono (show 1<=6 by decide);refine⟨f,fd,IS,?_,hm,F.kp,hb⟩;refine F.ok (k:=6) ES (λvs H Q E h=>?_) (λS6 A outer s H vs Q E hr h=>?_)
 ·obtain⟨R,a,ps,SX,Ls,rfl,_⟩:=h;rfl
 ·obtain⟨R,a,ps,SX,Ls,rfl,sR,kk,hR,Ug,hP,q⟩:=h;have hu:=ru hr;have l4:=hP.l4;have lps:ps.length=Ls.length:=by have:=congrArg List.length Ug;rwa [M8,M8] at this
  have body:WS (eN d8 P w K mg base Fq "_law_mapped" (ao xW) f S6 A outer s H E).iq (br xW) [.ob (dP a [] ps),.no,.no,.no,.no,.no,.no,.no,.no,.no,.no,.no] (λ_=>False) (dq K (ae eE) (· =gq Ls)):=by
   refine ah (cO 1 (r:=ai) (ys:=[0]) (aV (av ev_int aQ) (by show 1<=PZ;decide)) ?_);refine ah (cO 2 (r:=eE) (ys:=[]) (aV aQ (O3 _)) ?_);refine WS.box 1 rfl λc=>?_;change WS _ _ [.ob (dP a [] ps),.ob (aE c ai [0]),.mu eE [],.no,.no,.no,.no,.no,.no,.no,.no,.no] _ _;refine bL (N1:=λΓ=>∃e0 e1 e3 e4 e5 e6 e7 e8 e9 UE UD,Γ=[e0,e1,.mu eE (gq Ls),e3,e4,e5,e6,e7,e8,e9,UE,UD]) (ED 0 (fs0:=[]) (ps0:=ps) (rs:=ps.map (·.2.1)) (λi Γ=>∃fs qs e3 e4 e5 e6 e7 e8 e9 UE UD,Γ=[.ob (dP a fs qs),.ob (aE c ai [(Tx Ls i:Int)]),.mu eE ((Nk i).map (mw Ls)),e3,e4,e5,e6,e7,e8,e9,UE,UD]/\fs.length=i/\fs.map (·.1)++qs.map (·.2.1)=ps.map (·.2.1)/\qs.map (·.1)=(Ls.drop i).map ba) rfl rfl (bt 3) ⟨[],ps,_,_,_,_,_,_,_,_,_,rfl,rfl,rfl,Ug⟩ (λk Γ ⟨fs,qs,e3,e4,e5,e6,e7,e8,e9,UE,UD,e,_,h1,_⟩=>⟨fs,qs,by rw[e];rfl,h1⟩) (λi b Γ hi hΓ=>?_) (λΓ hΓ=>?_)) ?_
   ·obtain⟨fs,qs,e3,e4,e5,e6,e7,e8,e9,UE,UD,rfl,fl,h1,h2⟩:=hΓ;have il:i<Ls.length:=by have:=(M1.mp hi).1;rwa [M8,lps] at this
    obtain⟨L,hL⟩:∃L,Ls[i]?=some L:=⟨_,M4 il⟩;have hd:Ls.drop i=L::Ls.drop (i+1):=by
     obtain⟨g1,g2⟩:=M1.mp hL;rw[Oa g1,g2]
    have hg:Ls.getD i []=L:=by rw[Na,hL];rfl
    cases qs with
    | nil=>rw[hd] at h2;cases h2
    | cons q0 qs=>
    obtain⟨ys,b0,g0⟩:=q0;rw[hd,Nz,Nz] at h2;obtain⟨ey,h3⟩:=List.cons.inj h2;have ey:ys=ba L:=ey;subst ey;have eb:b0=b:=by
     have:=congrArg (·[i]?) h1;simp only[Nz] at this;rw[Ny (by rw[M8];omega),M8,fl,Pq,hi] at this;exact Option.some.inj this
    subst eb;have hm:=Ng hL;have ho:=hP.ok i L hL;have hh:=hP.hd L hm;have h14:=hP.rw L hm;have rl:=zK ho (Tx Ls i:Int);change WS _ _ [.ob (dP a fs ((ba L,b0,g0)::qs)),.ob (aE c ai [(Tx Ls i:Int)]),.mu eE ((Nk i).map (mw Ls)),.im dO b0,e4,e5,e6,e7,e8,e9,UE,UD] _ _;refine ah (Gk 0 3 1 CN hr (by decide) rfl rfl rfl (hP.dp L hm) ?_);refine WS.JY 0 3 (by decide) rfl rfl ?_;refine ah (cO 4 (r:=ag) (ys:=[]) (aV aQ (O3 _)) ?_);refine WS.box 4 rfl λd=>?_;change WS _ _ [.ob (dP a (fs++[(b0,bO L (Tx Ls i:Int))]) qs),.ob (aE c ai [(aI L (Tx Ls i:Int)).2]),.mu eE ((Nk i).map (mw Ls)),.im (ae ag) (bO L (Tx Ls i:Int)),.ob (aE d ag []),e5,e6,e7,e8,e9,UE,UD] _ _;refine ah (wM 4 (ts:=L) (k:=(Tx Ls i:Int)) (bh:=.int (-1)) (lp:=.Tf) CR hr (aa 3 rfl) (EV.pI (cG ev_int)) (EV.Lg xF) rfl (hP.dp L hm) (by show 0+bW L<=1000;omega) ?_);refine WS.unb 4 rfl ?_;rw[NV,t9 ho];refine WS.freeze 4 rfl (aX (by rw[M8];omega)) ?_;refine ah (ny 5 ?_);have kn:(aI L (Tx Ls i:Int)).2=(Tx Ls (i+1):Int):=by
     rw[lh];unfold Tx;rw[NH,hL,Nn,OX];show _=(((List.map f7 (Ls.take i)).sum + [f7 L].sum:Nat):Int);rw[show[f7 L].sum=f7 L by simp];push_cast;rfl
    rw[kn];have W6:gi L (Tx Ls i:Int) (.int (-1)) .Tf= .int (Tx Ls i:Int):=GU hh ho;have rws:fH L (Tx Ls i:Int) (-1) 0=bY Ls i:=by unfold bY;rw[hg]
    have knf:(bY Ls i).foldl (λF r=>nI F r.2.2.1 r.2.2.2.1) [((Tx Ls i:Int),0),(-1,1)]=oF Ls i:=rfl;rw[rws] at rl ⊢;have nx:(Nk (i+1)).map (mw Ls)=(Nk i).map (mw Ls)++[(bY Ls i,oF Ls i)]:=by rw[OD,Nn];rfl
    rw[nx];have ml:((Nk i).map (mw Ls)).length<=4:=by rw[M8,NR];omega
    generalize (Nk i).map (mw Ls)=ms at ml;have k0:(0:Int)<=(Tx Ls i:Int):=Int.natCast_nonneg _;generalize hfs:fs++[(b0,bO L (Tx Ls i:Int))]=Vc;have fl':Vc.length=i+1:=by rw[← hfs,M9,fl];rfl
    have h1':Vc.map (·.1)++qs.map (·.2.1)=ps.map (·.2.1):=by rw[← hfs,Nn,Nl];exact h1
    generalize hit:bO L (Tx Ls i:Int)=S5;change WS _ _ [.ob (dP a Vc qs),.ob (aE c ai [(Tx Ls (i+1):Int)]),.mu eE ms,.im (ae ag) S5,.im (ae ag) ((bY Ls i).map fU),.di (bU []),e6,e7,e8,e9,UE,UD] _ _;refine bL (N1:=λΓ=>∃e6,Γ=[.ob (dP a Vc qs),.ob (aE c ai [(Tx Ls (i+1):Int)]),.mu eE ms,.im (ae ag) S5,.im (ae ag) ((bY Ls i).map fU),.di (bU [((Tx Ls i:Int),0),(-1,1)]),e6,e7,e8,e9,UE,UD]) (bP (r:=ai) (xs:=[(Tx Ls i:Int), -1]) (λk Γ=>∃e6,Γ=[.ob (dP a Vc qs),.ob (aE c ai [(Tx Ls (i+1):Int)]),.mu eE ms,.im (ae ag) S5,.im (ae ag) ((bY Ls i).map fU),.di (bU (([((Tx Ls i:Int),(0:Int)),(-1,1)]:MJ).take k)),e6,e7,e8,e9,UE,UD]) (cu (bg.im (aV (av (EV.iP (n:=(Tx Ls i:Int)) (EV.cast (aP CE hr (aq (aa 3 rfl) (aq ev_int (aq (EV.pI (cG ev_int)) (aq (EV.Lg xF) aJ)))) ⟨L,(Tx Ls i:Int),0,.int (-1),.Tf,by rw[hit];rfl,O3 _,rfl⟩) (by rw[drop_zero,Ol,aI];exact W6))) (av (cG ev_int) aQ)) (by show 2<=PZ;decide)))) (bt 6) ⟨_,rfl⟩ (λk x Γ hx hΓ=>?_) (λΓ hΓ=>hΓ)) ?_
    ·obtain⟨e6,rfl⟩:=hΓ
     match k,hx with
     | 0,hx=>
       have hx:x=(Tx Ls i:Int):=by simpa using hx.symm
       subst hx;exact ak (oR 5 hu (aa 6 rfl) (lH 5 M.len rfl) rfl (show 0<PZ by decide) ⟨_,rfl⟩)
     | 1,hx=>
       have hx:x= -1:=by simpa using hx.symm
       subst hx;have e:iC [((Tx Ls i:Int),(0:Int))] (-1) 1=[((Tx Ls i:Int),0),(-1,1)]:=by
        unfold iC bJ;rw[List.find?_cons_of_neg (by simp)];rfl
       refine ak (oR 5 (F:=[((Tx Ls i:Int),(0:Int))]) hu (aa 6 rfl) (lH 5 M.len rfl) rfl (show 1<PZ by decide) ⟨ax (-1),?_⟩);show _=[Ent.ob (dP a Vc qs),.ob (aE c ai [(Tx Ls (i+1):Int)]),.mu eE ms,.im (ae ag) S5,.im (ae ag) ((bY Ls i).map fU),.di (bU [((Tx Ls i:Int),0),(-1,1)]),ax (-1),e7,e8,e9,UE,UD];rw[← e];rfl
     | k+2,hx=>simp at hx
    rintro _ ⟨e6,rfl⟩;refine bL (N1:=λΓ=>∃e6 e7 e8 e9 UE UD,Γ=[.ob (dP a Vc qs),.ob (aE c ai [(Tx Ls (i+1):Int)]),.mu eE ms,.im (ae ag) S5,.im (ae ag) ((bY Ls i).map fU),.di (bU (oF Ls i)),e6,e7,e8,e9,UE,UD]) (bP (r:=mF) (xs:=bY Ls i) (λk Γ=>∃e6 e7 e8 e9 UE UD,Γ=[.ob (dP a Vc qs),.ob (aE c ai [(Tx Ls (i+1):Int)]),.mu eE ms,.im (ae ag) S5,.im (ae ag) ((bY Ls i).map fU),.di (bU (((bY Ls i).take k).foldl (λF r=>nI F r.2.2.1 r.2.2.2.1) [((Tx Ls i:Int),0),(-1,1)])),e6,e7,e8,e9,UE,UD]) (cu (EV.LC (aa 4 rfl))) (BP 7 8 9 10 11) ⟨_,_,_,_,_,_,rfl⟩ (λk r Γ Uo hΓ=>?_) (λΓ hΓ=>?_)) ?_
    ·obtain⟨e6,e7,e8,e9,UE,UD,rfl⟩:=hΓ;have kl:=(M1.mp Uo).1;have nx:((bY Ls i).take (k+1)).foldl (λF r=>nI F r.2.2.1 r.2.2.2.1) [((Tx Ls i:Int),0),(-1,1)]=nI (((bY Ls i).take k).foldl (λF r=>nI F r.2.2.1 r.2.2.2.1) [((Tx Ls i:Int),0),(-1,1)]) r.2.2.1 r.2.2.2.1:=by
      rw[NH,Uo,Od];rfl
     rw[nx];have Fl:=Dk ((bY Ls i).take k) [((Tx Ls i:Int),0),(-1,1)];rw[Nu] at Fl;have Fl:(((bY Ls i).take k).foldl (λF r=>nI F r.2.2.1 r.2.2.2.1) [((Tx Ls i:Int),0),(-1,1)]).length<=40:=by
      refine O2 Fl ?_;show 2+2*min k (bY Ls i).length<=40;omega
     generalize ((bY Ls i).take k).foldl (λF r=>nI F r.2.2.1 r.2.2.2.1) [((Tx Ls i:Int),0),(-1,1)]=F0 at Fl;obtain⟨wd,nm,o1,o2,cl⟩:=r;change WS _ _ [.ob (dP a Vc qs),.ob (aE c ai [(Tx Ls (i+1):Int)]),.mu eE ms,.im (ae ag) S5,.im (ae ag) ((bY Ls i).map fU),.di (bU F0),e6,.im aj wd,.im aj nm,ax o1,ax o2,ax cl] _ _;refine ak (bP (r:=ai) (xs:=[o1,o2]) (λk Γ=>∃e6,Γ=[.ob (dP a Vc qs),.ob (aE c ai [(Tx Ls (i+1):Int)]),.mu eE ms,.im (ae ag) S5,.im (ae ag) ((bY Ls i).map fU),.di (bU ((([o1,o2]:MC).take k).foldl de F0)),e6,.im aj wd,.im aj nm,ax o1,ax o2,ax cl]) (cu (bg.im (aV (av (aa 9 rfl) (av (aa 10 rfl) aQ)) (by show 2<=PZ;decide)))) (bt 6) ⟨_,rfl⟩ (λk x Γ hx hΓ=>?_) (λΓ hΓ=>?_))
     ·obtain⟨e6,rfl⟩:=hΓ;have kl:k<2:=(M1.mp hx).1;have nx:(([o1,o2]:MC).take (k+1)).foldl de F0=de ((([o1,o2]:MC).take k).foldl de F0) x:=by
       rw[NH,hx,Od];rfl
      rw[nx];have F1l:((([o1,o2]:MC).take k).foldl de F0).length<=42:=by
       match k,kl with
       | 0,_=>show F0.length<=42;omega
       | 1,_=>show(de F0 o1).length<=42;have:=sZ F0 o1;omega
      generalize (([o1,o2]:MC).take k).foldl de F0=F1 at F1l;change WS _ _ [.ob (dP a Vc qs),.ob (aE c ai [(Tx Ls (i+1):Int)]),.mu eE ms,.im (ae ag) S5,.im (ae ag) ((bY Ls i).map fU),.di (bU F1),ax x,.im aj wd,.im aj nm,ax o1,ax o2,ax cl] _ _;refine ak (aL (Ag 5 hu (aa 6 rfl) rfl) (λh=>?_) (λh=>aA ?_))
      ·have h:(bJ F1 x).isSome=false:=by simpa using h
       refine ak (oR 5 hu (aa 6 rfl) (lH 5 M.len rfl) rfl (O6 F1l (by decide)) ⟨ax x,?_⟩);rw[vH,h];rfl
      ·have h:(bJ F1 x).isSome=true:=by simpa using h
       refine⟨ax x,?_⟩;rw[vH,h];rfl
     ·obtain⟨e6,rfl⟩:=hΓ;exact⟨_,_,_,_,_,_,rfl⟩
    ·obtain⟨e6,e7,e8,e9,UE,UD,rfl⟩:=hΓ;rw[NN];exact⟨_,_,_,_,_,_,rfl⟩
    rintro _ ⟨e6,e7,e8,e9,UE,UD,rfl⟩;refine WS.JO 5 rfl ?_;refine ak (fc 2 (r:=eE) (y:=(bY Ls i,oF Ls i)) (Ef (aq (EV.LC (aa 4 rfl)) (aq (aa 5 rfl) aJ))) rfl rfl (O6 ml (by decide)) ⟨Vc,qs,_,_,_,_,_,_,_,_,_,rfl,fl',h1',h3⟩)
   ·obtain⟨fs,qs,e3,e4,e5,e6,e7,e8,e9,UE,UD,rfl,fl,h1,h2⟩:=hΓ;rw[M8,lps];exact⟨_,_,_,_,_,_,_,_,_,_,_,rfl⟩
   rintro _ ⟨e0,e1,e3,e4,e5,e6,e7,e8,e9,UE,UD,rfl⟩;refine WS.freeze 2 rfl (aX (by unfold gq;rw[M8,NR];omega)) ?_;exact ak (bb (aa 2 rfl) rfl)
  exact⟨_,ib,body (L2.start Fq [.ref a]) (ft H (a::dG ps)) R H R (IB rfl sR kk hR) {nx:=λ_ H'=>Q .Tf H',rt:=Q} (λσ' H' R' Γ' E' _ h=>h.elim) λv H' R' xx t=>by obtain⟨y,hy,rfl⟩:=t;exact q v H' R' xx hy⟩
end
structure pC (mg:MA):Prop where
 isinstance:mg "isinstance"=none
 bool:mg "bool"=none
 str:mg "str"=none
 tuple:mg "tuple"=none
mutual
def mP:PV->Bool
 | .str _=>true
 | .int _=>true
 | .tup xs=>decide (xs.length<=1000)&&lR xs
 | .lst xs=>lR xs
 | _=>false
def lR:List PV->Bool
 | []=>true
 | x::xs=>mP x&&lR xs
end
theorem nL {x:PV}:∀{xs:List PV},lR xs=true->x∈xs->mP x=true
 | y::xs,h,hx=>by
   rw[lR,MN] at h;rcases Nd.mp hx with rfl | hx
   ·exact h.1
   ·exact nL h.2 hx
theorem vD:∀{xs:List PV},(∀x∈xs,mP x=true)->lR xs=true
 | [],_=>by rw[lR]
 | y::xs,h=>by rw[lR,h y Nb,vD λx hx=>h x (M7 _ hx)];rfl
theorem sM {α:Type}{xs:List α}{i:Nat}{y:α×α}(h:(xs.zip xs)[i]?=some y):y.1∈xs/\y=(y.1,y.1):=by
 obtain⟨h1,h2⟩:=Fc.g7 h;rw[h1] at h2;exact⟨Ng h1,Py rfl (Option.some.inj h2).symm⟩
def eX (y:Str×Str):PV:=.tup [.str y.1,.str y.2]
section
abbrev BL:Stmt:=top tL
abbrev nSM:ME:=["_law_told","_law_due","_law_one","_law_other"]
abbrev GN:ME:=["_law_told","_law_due"]
theorem HE:aN nSM GN (ao BL):=TQ
def yE (n:Nat):dI:=λK ps T=>∃x:PV,ps=[⟨ag,x⟩,⟨ag,x⟩]/\x.deep<=n/\mP x=true/\T=dq K cN (· =true)
theorem xT (M:cP K mg)(MS:pC mg){n:Nat}(CS:∀m,n=m+1->aM P w K mg base "_law_same" (m+1) (a9 (yE m) K))(F:dQ K "_law_same" "_law_same" BL f fd)(hm:mg "_law_same"=some (.ref f))(hb:Binds K fd GN []):aM P w K mg base "_law_same" (n+1) (a9 (yE n) K):=by
 have nd:=HE.nd;refine jo (k:=n) F HE hm hb (λqs T ⟨_,e,_⟩=>by rw[e];rfl) (λS6 A outer s H E qs T hr hS=>?_);obtain⟨x,rfl,hd,ho,rfl⟩:=hS;change WS _ _ [.im ag x,.im ag x,.no,.no] _ _;cases x with
 | Tf=>simp[mP] at ho
 | bl b=>simp[mP] at ho
 | int k=>
   refine ah (aL (TW.tv (ki (cq (bC (b:=false) MS.isinstance MS.tuple PJ (aa 1 rfl) jw)) (λ_=>jZ (cq (bC (b:=false) MS.isinstance M.list PD (aa 1 rfl) jw))))) (λh=>SQ h (by decide)) (λ_=>aA ?_));refine ah (aL (cq (bC (b:=false) MS.isinstance MS.bool boot_bool (aa 1 rfl) jw)) (λh=>SQ h (by decide)) (λ_=>aA ?_));refine ah (aL (cq (bC (b:=true) MS.isinstance M.int PM (aa 1 rfl) jw)) (λ_=>?_) (λh=>SQ h (by decide)));exact ak (bb (oC (bC (b:=true) MS.isinstance M.int PM (aa 0 rfl) jw) (λ_=>oC (yi (bC (b:=false) MS.isinstance MS.bool boot_bool (aa 0 rfl) jw)) (λ_=>uR (i7 jR (EV.iP (n:=k) (aa 0 rfl)) (EV.iP (n:=k) (aa 1 rfl)))))) (by simp))
 | str y=>
   refine ah (aL (TW.tv (ki (cq (bC (b:=false) MS.isinstance MS.tuple PJ (aa 1 rfl) jE)) (λ_=>jZ (cq (bC (b:=false) MS.isinstance M.list PD (aa 1 rfl) jE))))) (λh=>SQ h (by decide)) (λ_=>aA ?_));refine ah (aL (cq (bC (b:=false) MS.isinstance MS.bool boot_bool (aa 1 rfl) jE)) (λh=>SQ h (by decide)) (λ_=>aA ?_));refine ah (aL (cq (bC (b:=false) MS.isinstance M.int PM (aa 1 rfl) jE)) (λh=>SQ h (by decide)) (λ_=>aA ?_));refine ah (aL (cq (bC (b:=true) MS.isinstance MS.str PyProof.Rows.boot_str (aa 1 rfl) jE)) (λ_=>?_) (λh=>SQ h (by decide)));exact ak (bb (oC (bC (b:=true) MS.isinstance MS.str PyProof.Rows.boot_str (aa 0 rfl) jE) (λ_=>uR (i7 aT (EV.sP (x:=y) (aa 0 rfl)) (EV.sP (x:=y) (aa 1 rfl))))) (by simp))
 | tup xs=>
   rw[PV.deep] at hd;rw[mP,MN] at ho;cases n with
   | zero=>omega
   | succ m=>
   have CS:=CS m rfl;refine ah (aL (TW.tv (ki (y:=false) (cq (bC (b:=true) MS.isinstance MS.tuple PJ (aa 1 rfl) mV)) (λh=>SQ h (by decide)))) (λ_=>?_) (λh=>SQ h (by decide)));refine ah (aL (TW.tv (ki (au rV (bC (b:=true) MS.isinstance MS.tuple PJ (aa 0 rfl) mV) (bC (b:=true) MS.isinstance MS.tuple PJ (aa 1 rfl) mV)) (λ_=>jZ (au rV (bC (b:=false) MS.isinstance M.list PD (aa 0 rfl) mV) (bC (b:=false) MS.isinstance M.list PD (aa 1 rfl) mV))))) (λh=>SQ h (by decide)) (λ_=>aA ?_));refine ah (aL (au HJ (vy M.len (aa 0 rfl)) (vy M.len (aa 1 rfl))) (λh=>SQ h (by simp)) (λ_=>aA ?_));refine bL (N1:=λΓ=>∃e2 e3,Γ=[.im ag (.tup xs),.im ag (.tup xs),e2,e3]) (bP (r:=fD ag ag) (λi Γ=>∃e2 e3,Γ=[.im ag (.tup xs),.im ag (.tup xs),e2,e3]) (AN M.zip (aa 0 rfl) (aa 1 rfl) (aX (O2 (SU ho.1) (by decide)))) (eh 2 3) ⟨_,_,rfl⟩ (λi y Γ hy hΓ=>?_) (λΓ hΓ=>hΓ)) ?_
   ·obtain⟨e2,e3,rfl⟩:=hΓ;obtain⟨h1,h2⟩:=sM hy;rw[h2];change WS _ _ [.im ag (.tup xs),.im ag (.tup xs),.im ag y.1,.im ag y.1] _ _;have:=nN h1;exact ak (aL (iY (cq (aP CS hr (aq (aa 2 rfl) (aq (aa 3 rfl) aJ)) ⟨y.1,rfl,by omega,nL ho.2 h1,rfl⟩))) (λh=>SQ h (by decide)) (λ_=>aA ⟨_,_,rfl⟩))
   rintro _ ⟨e2,e3,rfl⟩;exact ak (bb jC rfl)
 | lst xs=>
   rw[PV.deep] at hd;rw[mP] at ho;cases n with
   | zero=>omega
   | succ m=>
   have CS:=CS m rfl;refine ah (aL (TW.tv (ki (cq (bC (b:=false) MS.isinstance MS.tuple PJ (aa 1 rfl) jD)) (λ_=>jZ (cq (bC (b:=true) MS.isinstance M.list PD (aa 1 rfl) jD))))) (λ_=>?_) (λh=>SQ h (by decide)));refine ah (aL (TW.tv (ki (au rV (bC (b:=false) MS.isinstance MS.tuple PJ (aa 0 rfl) jD) (bC (b:=false) MS.isinstance MS.tuple PJ (aa 1 rfl) jD)) (λ_=>jZ (au rV (bC (b:=true) MS.isinstance M.list PD (aa 0 rfl) jD) (bC (b:=true) MS.isinstance M.list PD (aa 1 rfl) jD))))) (λh=>SQ h (by decide)) (λ_=>aA ?_));refine ah (aL (au HJ (fX M.len (EV.lP (xs:=xs) (aa 0 rfl))) (fX M.len (EV.lP (xs:=xs) (aa 1 rfl)))) (λh=>SQ h (by simp)) (λ_=>aA ?_));refine bL (N1:=λΓ=>∃e2 e3,Γ=[.im ag (.lst xs),.im ag (.lst xs),e2,e3]) (bP (r:=fD ag ag) (λi Γ=>∃e2 e3,Γ=[.im ag (.lst xs),.im ag (.lst xs),e2,e3]) (zJ M.zip (EV.lP (xs:=xs) (aa 0 rfl)) (EV.lP (xs:=xs) (aa 1 rfl))) (eh 2 3) ⟨_,_,rfl⟩ (λi y Γ hy hΓ=>?_) (λΓ hΓ=>hΓ)) ?_
   ·obtain⟨e2,e3,rfl⟩:=hΓ;obtain⟨h1,h2⟩:=sM hy;rw[h2];change WS _ _ [.im ag (.lst xs),.im ag (.lst xs),.im ag y.1,.im ag y.1] _ _;have:=nN h1;exact ak (aL (iY (cq (aP CS hr (aq (aa 2 rfl) (aq (aa 3 rfl) aJ)) ⟨y.1,rfl,by omega,nL ho h1,rfl⟩))) (λh=>SQ h (by decide)) (λ_=>aA ⟨_,_,rfl⟩))
   rintro _ ⟨e2,e3,rfl⟩;exact ak (bb jC rfl)
theorem Cn (M:cP K mg)(MS:pC mg)(F:dQ K "_law_same" "_law_same" BL f fd)(hm:mg "_law_same"=some (.ref f))(hb:Binds K fd GN []):∀n,aM P w K mg base "_law_same" (n+1) (a9 (yE n) K)
 | 0=>xT M MS (λm h=>SQ h (by omega)) F hm hb
 | n+1=>xT M MS (λm h=>by cases h;exact Cn M MS F hm hb n) F hm hb
end
end K1
namespace K1
open PySem L2 Fc
open PySem.Spec hiding Row
open PyProof.Rows hiding St
open PySem.Builtin.Int (intBits)
variable {P:P2}{w:World}{K:Sk}{mg:MA}{base:Heap}{f:Addr}{fd:Qa}
theorem C9 {SX:ME}{Ls:List (List Th)}(h:cS SX Ls){j:Nat}(hj:j<Ls.length){r:oK}(hr:r∈bY Ls j)(hc:r.1="call"):0<=r.2.2.2.2/\r.2.2.2.2<(SX.length:Int):=by
 obtain⟨z,hz,ez⟩:=rN h hj;rw[← qX h hz] at hr;obtain⟨r0,h0,rfl⟩:=Nx.mp hr;have hc:r0.2.2.1="call":=hc;have hm:=(B4 h).cl r0 (vK h hz h0) hc;have U4:(gp SX Ls).parts.map (·.1)=SX:=pO h;rw[U4] at hm;have:=(M1.mp (ua hm).1).1;show 0<=(if r0.2.2.1="call" then(Ui SX r0.2.2.2:Int) else -1)/\(if r0.2.2.1="call" then(Ui SX r0.2.2.2:Int) else -1)<_;rw[SS hc];omega
theorem v5 {SX:ME}{Ls:List (List Th)}(h:cS SX Ls):(gA SX Ls).length<=30:=by
 rw[← wA h,M8];exact(nV h).2.rl
def UQ (SX:ME)(Ls:List (List Th))(i:Nat):List (Str×Str):=(Nk i).flatMap λj=>(bY Ls j).map (ma SX)
theorem DO (SX:ME)(Ls:List (List Th)){i:Nat}(hi:i<=Ls.length):(UQ SX Ls i).length<=(gA SX Ls).length:=by
 unfold UQ gA;obtain⟨d,hd⟩:∃d,Ls.length=i+d:=⟨Ls.length-i,by omega⟩;rw[hd,List.range_add,Oq,M9];omega
section
variable {C D:Addr}
abbrev Gy:Stmt:=top rF
abbrev nNS:ME:=["_law_names_here","_law_mapped_here","_law_told","_law_rows_here","_law_known","_law_word","_law_name_here","_law_one","_law_other","_law_calls"]
abbrev KR:ME:=["_law_names_here","_law_mapped_here"]
theorem Gz:aN nNS KR (ao Gy):=TQ
def KI:dI:=λK ps T=>∃(SX:ME)(Ls:List (List Th)),ps=[⟨ae aj,SX⟩,⟨ae eE,gq Ls⟩]/\cS SX Ls/\T=dq K (ae ag) (· =(gA SX Ls).map eX)
theorem J5 (Df:Def K mg "_law_names" Gy KR):aM P w K mg base "_law_names" 1 (a9 KI K):=by
 have nd:=Gz.nd;refine bR (k:=0) Df Gz (λf S6 A outer s H E qs T hr hS=>?_);obtain⟨SX,Ls,rfl,hP,rfl⟩:=hS;have n30:=v5 hP;change WS _ _ [.im (ae aj) SX,.im (ae eE) (gq Ls),.no,.no,.no,.no,.no,.no,.no,.no] _ _;refine ah (cO 2 (r:=ag) (ys:=[]) (aV aQ (O3 _)) ?_);refine bL (N1:=λΓ=>∃e3 e4 e5 e6 e7 e8 e9,Γ=[.im (ae aj) SX,.im (ae eE) (gq Ls),.mu ag ((gA SX Ls).map eX),e3,e4,e5,e6,e7,e8,e9]) (bP (r:=eE) (λi Γ=>∃e3 e4 e5 e6 e7 e8 e9,Γ=[.im (ae aj) SX,.im (ae eE) (gq Ls),.mu ag ((UQ SX Ls i).map eX),e3,e4,e5,e6,e7,e8,e9]) (cu (aa 1 rfl)) (eh 3 4) ⟨_,_,_,_,_,_,_,rfl⟩ (λi y Γ hy hΓ=>?_) (λΓ hΓ=>?_)) ?_
 ·obtain⟨e3,e4,e5,e6,e7,e8,e9,rfl⟩:=hΓ;unfold gq at hy;rw[Nc] at hy;obtain⟨j,hj,rfl⟩:=Pt.mp hy;have il:i<Ls.length:=by have:=(M1.mp hj).1;rwa [NR] at this
  have ej:j=i:=by rw[Oc il] at hj;exact(Option.some.inj hj).symm
  subst ej;have nx:UQ SX Ls (j+1)=UQ SX Ls j++(bY Ls j).map (ma SX):=by
   unfold UQ;rw[OD,Oq,OM]
  have n30':(UQ SX Ls j).length+(bY Ls j).length<=30:=by
   have:=DO SX Ls (i:=j+1) il;rw[nx,M9,M8] at this;omega
  rw[nx];generalize UQ SX Ls j=ys at n30';change WS _ _ [.im (ae aj) SX,.im (ae eE) (gq Ls),.mu ag (ys.map eX),.im (ae mF) (bY Ls j),.im ij (oF Ls j),e5,e6,e7,e8,e9] _ _;refine ak (bP (r:=mF) (λk Γ=>∃e5 e6 e7 e8 e9,Γ=[.im (ae aj) SX,.im (ae eE) (gq Ls),.mu ag ((ys++((bY Ls j).take k).map (ma SX)).map eX),.im (ae mF) (bY Ls j),.im ij (oF Ls j),e5,e6,e7,e8,e9]) (cu (aa 3 rfl)) (BP 5 6 7 8 9) ⟨_,_,_,_,_,by rw[Ol,OF,Nw]⟩ (λk r Γ Uo hΓ=>?_) (λΓ hΓ=>?_))
  ·obtain⟨e5,e6,e7,e8,e9,rfl⟩:=hΓ;have kl:=(M1.mp Uo).1;have cx:=C9 hP il (Ng Uo);have nx:(ys++((bY Ls j).take (k+1)).map (ma SX)).map eX=(ys++((bY Ls j).take k).map (ma SX)).map eX++[eX (ma SX r)]:=by
    rw[NH,Uo];simp only[Nn,Nl,Option.toList,Nz,OF]
   rw[nx];have yl:((ys++((bY Ls j).take k).map (ma SX)).map eX).length<=30:=by
    rw[M8,M9,M8,Nu];omega
   generalize (ys++((bY Ls j).take k).map (ma SX)).map eX=us at yl;obtain⟨wd,nm,o1,o2,cl⟩:=r;change WS _ _ [.im (ae aj) SX,.im (ae eE) (gq Ls),.mu ag us,.im (ae mF) (bY Ls j),.im ij (oF Ls j),.im aj wd,.im aj nm,ax o1,ax o2,ax cl] _ _;refine bL (N1:=λΓ=>Γ=[.im (ae aj) SX,.im (ae eE) (gq Ls),.mu ag us,.im (ae mF) (bY Ls j),.im ij (oF Ls j),.im aj wd,.im aj (if wd="call" then SX.getD cl.toNat "" else nm),ax o1,ax o2,ax cl]) (aL (au aT (aa 5 rfl) ar) (λh=>?_) (λh=>aA ?_)) ?_
   ·have h:wd="call":=SU h;obtain⟨c0,c1⟩:=cx h;refine ak (bE 6 (r:=aj) (y:=SX.getD cl.toNat "") (aB (aa 0 rfl) (aa 9 rfl) (bB (xs:=SX) (i:=cl) "" c0 c1)) ?_);rw[SS h];rfl
   ·have h:¬wd="call":=SV h;rw[SR h]
   rintro _ rfl;exact ak (fc 2 (r:=ag) (y:=eX (ma SX (wd,nm,o1,o2,cl))) (eM (av (EV.pS (aa 5 rfl)) (av (EV.pS (aa 6 rfl)) aQ)) (by show 2<=PZ;decide)) rfl rfl (O6 yl (by decide)) ⟨_,_,_,_,_,rfl⟩)
  ·obtain⟨e5,e6,e7,e8,e9,rfl⟩:=hΓ;rw[NN];exact⟨_,_,_,_,_,_,_,rfl⟩
 ·obtain⟨e3,e4,e5,e6,e7,e8,e9,rfl⟩:=hΓ;rw[show(gq Ls).length=Ls.length by unfold gq;rw[M8,NR]];exact⟨_,_,_,_,_,_,_,rfl⟩
 rintro _ ⟨e3,e4,e5,e6,e7,e8,e9,rfl⟩;refine WS.freeze 2 rfl (aX (by rw[M8];omega)) ?_;exact ak (bb (aa 2 rfl) rfl)
abbrev Ck:Stmt:=top uZ
theorem ET:aN ["text"] ["text"] (ao Ck):=TQ
def Bt:dI:=λK ps T=>∃(x:Str)(S:List aH)(Ld:List MC),ps=[⟨aj,x⟩]/\uE x S/\qG S Ld/\Good (fY S Ld)/\T=B7 K ag (· =((fY S Ld).rows.map λr=>(r.2.2.1,r.2.2.2)).map eX)
def Mt:PV->PV
 | .tup [_,_,a,b]=>.tup [a,b]
 | x=>x
theorem KG (HD:bH K D fT)(CN:aM P w K mg base "need_program" 6 (a9 (KY C D) K))(Df:Def K mg "names_of" Ck ["text"]):aM P w K mg base "names_of" 7 (a9 Bt K):=by
 have nd:=ET.nd;have Vj:NI [("row":Str)]:=by decide
 refine bR (k:=6) Df ET (λf S6 A outer st H E qs T hr hS=>?_);obtain⟨x,S,Ld,rfl,hx,hk,hG,rfl⟩:=hS;change WS _ _ [.im aj x] _ _;refine ak (Hi (c7 (own:=["row"]) (fr:=[]) (ix:=[]) (ra:=ag) (rb:=ag) (p:=λ_=>true) (f:=Mt) (cY (so:=ao Ck) (N0:=["text"]) rfl rfl (λx h=>cj h) (by decide +kernel)) (cu (rJ (C:=C) HD (aP CN hr (aq (aa 0 rfl) aJ) ⟨x,S,Ld,rfl,hx,hk,hG,rfl⟩)))
  (λC s H ex=>bt 0) (λx=>⟨.inr rfl,trivial⟩) (λC' s H ex c hc=>hZ) (λC' s H ex o ho _=>by
   obtain⟨r,_,rfl⟩:=Nx.mp ho;exact eM (av (eR (aa 0 rfl) ev_int rfl) (av (eR (aa 0 rfl) ev_int rfl) aQ)) (by show 2<=PZ;decide))) ?_)
 rw[Ot.mpr λ_ _=>rfl,NX,NX];rfl
end
theorem G7 (xs:List (Str×Str)):mP (.lst (xs.map eX))=true:=by
 rw[mP];refine vD λx hx=>?_;obtain⟨y,_,rfl⟩:=Nx.mp hx;simp[eX,mP,lR]
theorem uT {n:Nat}:∀{xs:List PV},(∀x∈xs,x.deep<=n)->PV.ju xs<=n
 | [],_=>by rw[PV.ju];exact O3 _
 | x::xs,h=>by
   rw[PV.ju];have h1:=h x Nb;have h2:=uT (xs:=xs) λy hy=>h y (M7 _ hy);omega
theorem De (xs:List (Str×Str)):(PV.lst (xs.map eX)).deep<=2:=by
 rw[PV.deep];refine Nat.add_le_add_right (uT (n:=1) λy hy=>?_) 1;obtain⟨z,_,rfl⟩:=Nx.mp hy;simp[eX,PV.deep,PV.ju]
section
abbrev oU:Stmt:=top GW
abbrev nLA:ME:=["_law_script","_law_texts","_law_dues","_law_k","_law_names_here","_law_lists","_law_told"]
theorem E8:aN nLA ["_law_script"] (ao oU):=TQ
def ud:dI:=λK ps T=>∃ns:MC,ps=[⟨bK,ns⟩]/\ns.length<=63/\(∀n∈ns,intBits n<=2 ^ 20)/\T=dq K cN (· =true)
def Uv (ns:MC)(i:Nat):Str:=R9 " " (ji (TJ ns (200*(i:Int))) (T3 ns (200*(i:Int))))
def Tq (ns:MC)(i:Nat):List PV:=(gA (TJ ns (200*(i:Int))) (T3 ns (200*(i:Int)))).map eX
theorem Jf (M:cP K mg)(CD:aM P w K mg base "_law_drawn" 17 (a9 Lv K))(CT:aM P w K mg base "_law_text" 7 (a9 Lr K))(CP:aM P w K mg base "_law_mapped" 7 (w9 K))(CS:aM P w K mg base "_law_names" 1 (a9 KI K))(CN:aM P w K mg base "names_of" 7 (a9 Bt K))(CE:aM P w K mg base "_law_same" 3 (a9 (yE 2) K))(F:dQ K "law" "law" oU f fd):d6 P w K mg base d8 18 f fd ["_law_script"] (a9 ud K):=by
 have nd:=E8.nd;have CT:=CT.mono (show 7<=17 by decide);have CP:=CP.mono (show 7<=17 by decide);have CS:=CS.mono (show 1<=17 by decide);have CN:=CN.mono (show 7<=17 by decide);have CE:=CE.mono (show 3<=17 by decide);refine E6 (k:=17) F E8 (λqs T ⟨_,e,_⟩=>by rw[e];rfl) (λS6 A outer s H E qs T hr hS=>?_);obtain⟨ns,rfl,h63,UX,rfl⟩:=hS;have hs:z4 ns:=⟨h63,UX⟩;change WS _ _ [.im bK ns,.no,.no,.no,.no,.no,.no] _ _;refine ah (cO 1 (r:=aj) (ys:=[]) (aV aQ (O3 _)) ?_);refine ah (cO 2 (r:=ae ag) (ys:=[]) (aV aQ (O3 _)) ?_);refine bL (N1:=λΓ=>∃e3 e4 e5,Γ=[.im bK ns,.mu aj [Uv ns 0,Uv ns 1],.mu (ae ag) [Tq ns 0,Tq ns 1],e3,e4,e5,.no]) (bP (λi Γ=>∃e3 e4 e5,Γ=[.im bK ns,.mu aj ((Nk i).map (Uv ns)),.mu (ae ag) ((Nk i).map (Tq ns)),e3,e4,e5,.no]) (fK M.range ev_int ⟨by decide,by decide⟩) (bt 3) ⟨_,_,_,rfl⟩ (λi j Γ hj hΓ=>?_) (λΓ hΓ=>?_)) ?_
 ·obtain⟨e3,e4,e5,rfl⟩:=hΓ;obtain⟨jl,ej⟩:=g8 hj;have jl:i<2:=jl;obtain rfl:j=(i:Int):=by omega
  have t1:(Nk (i+1)).map (Uv ns)=(Nk i).map (Uv ns)++[Uv ns i]:=by rw[OD,Nn];rfl
  have t2:(Nk (i+1)).map (Tq ns)=(Nk i).map (Tq ns)++[Tq ns i]:=by rw[OD,Nn];rfl
  rw[t1,t2];have l1:((Nk i).map (Uv ns)).length<=2:=by rw[M8,NR];omega
  have l2:((Nk i).map (Tq ns)).length<=2:=by rw[M8,NR];omega
  generalize (Nk i).map (Uv ns)=ts at l1;generalize (Nk i).map (Tq ns)=ds at l2;change WS _ _ [.im bK ns,.mu aj ts,.mu (ae ag) ds,ax (i:Int),e4,e5,.no] _ _;refine ah (Dv 4 5 (r:=ae aj) (P:=λy L=>y=TJ ns (200*(i:Int))/\L=(T3 ns (200*(i:Int))).map ba) CD hr (aq (aa 0 rfl) (aq (zB ev_int (aa 3 rfl) (.inl (by decide))) aJ)) ⟨ns,200*(i:Int),rfl,hs,by omega,by omega,rfl⟩ (by decide) (λa y ps hy=>?_));obtain⟨rfl,Ug⟩:=hy;have hP:=qA ns (200*(i:Int));have e1:Uv ns i=R9 " " (ji (TJ ns (200*(i:Int))) (T3 ns (200*(i:Int)))):=rfl;have e2:Tq ns i=(gA (TJ ns (200*(i:Int))) (T3 ns (200*(i:Int)))).map eX:=rfl;rw[e1,e2];generalize TJ ns (200*(i:Int))=SX at hP;generalize T3 ns (200*(i:Int))=Ls at hP Ug;have lps:ps.length=Ls.length:=by have:=congrArg List.length Ug;rwa [M8,M8] at this
  have l4:=hP.l4;change WS _ _ [.im bK ns,.mu aj ts,.mu (ae ag) ds,ax (i:Int),.im (ae aj) SX,.ob (bN a ps),.no] _ _;refine ah (fc 1 (r:=aj) (y:=R9 " " (ji SX Ls)) (EV.Ul (Jc (i:=5) rfl (aX (by omega))) (λ_ _ _ _ _ h=>h) (aP CT hr (aq (aa 4 rfl) (aq (EV.cast (aa 5 rfl) Ug) aJ)) ⟨SX,Ls,rfl,hP,rfl⟩)) rfl rfl (O6 l1 (by decide)) ?_);exact ak (fc 2 (r:=ae ag) (y:=(gA SX Ls).map eX) (aP CS hr (aq (aa 4 rfl) (aq (Je 5 CP hr rfl Ug hP) aJ)) ⟨SX,Ls,rfl,hP,rfl⟩) rfl rfl (O6 l2 (by decide)) ⟨_,_,_,rfl⟩)
 ·obtain⟨e3,e4,e5,rfl⟩:=hΓ;exact⟨_,_,_,rfl⟩
 rintro _ ⟨e3,e4,e5,rfl⟩;refine WS.freeze 1 rfl (aX (by show 2<=_;decide)) ?_;refine WS.freeze 2 rfl (aX (by show 2<=_;decide)) ?_;have key:∀i:Nat,Bt K [⟨aj,Uv ns i⟩] (B7 K ag (· =Tq ns i)):=λi=>by
  have hP:=qA ns (200*(i:Int));obtain⟨hk,hG⟩:=nV hP;exact⟨_,_,_,rfl,DT hP,hk,hG,by unfold Tq;rw[← wA hP]⟩
 have kl:∀i:Nat,(Tq ns i).length<=30:=λi=>by unfold Tq;rw[M8];exact v5 (qA ns _)
 have ks:∀i:Nat,yE 2 K [⟨ag,.lst (Tq ns i)⟩,⟨ag,.lst (Tq ns i)⟩] (dq K cN (· =true)):=λi=>⟨_,rfl,De _,G7 _,rfl⟩;change WS _ _ [.im bK ns,.im (ae aj) [Uv ns 0,Uv ns 1],.im (ae (ae ag)) [Tq ns 0,Tq ns 1],e3,e4,e5,.no] _ _;refine bL (N1:=λΓ=>∃e3 e6,Γ=[.im bK ns,.im (ae aj) [Uv ns 0,Uv ns 1],.im (ae (ae ag)) [Tq ns 0,Tq ns 1],e3,e4,e5,e6]) (bP (r:=ai) (xs:=[0,1,0,0,1]) (λi Γ=>∃e3 e6,Γ=[.im bK ns,.im (ae aj) [Uv ns 0,Uv ns 1],.im (ae (ae ag)) [Tq ns 0,Tq ns 1],e3,e4,e5,e6]) (cu (bg.im (aV (av ev_int (av ev_int (av ev_int (av ev_int (av ev_int aQ))))) (by show 5<=PZ;decide)))) (bt 3) ⟨_,_,rfl⟩ (λi j Γ hj hΓ=>?_) (λΓ hΓ=>hΓ)) ?_
 ·obtain⟨e3,e6,rfl⟩:=hΓ;have hj2:∃n:Nat,n<2/\j=(n:Int):=by
   have hm:=Ng hj;simp only[Nd,Nv,or_false] at hm;rcases hm with rfl | rfl | rfl | rfl | rfl
   ·exact⟨0,by decide,rfl⟩
   ·exact⟨1,by decide,rfl⟩
   ·exact⟨0,by decide,rfl⟩
   ·exact⟨0,by decide,rfl⟩
   ·exact⟨1,by decide,rfl⟩
  obtain⟨n,nl,rfl⟩:=hj2;have a1:cM [Uv ns 0,Uv ns 1] (n:Int)=some (Uv ns n):=by
   match n,nl with
   | 0,_=>rfl
   | 1,_=>rfl
  have a2:cM [Tq ns 0,Tq ns 1] (n:Int)=some (Tq ns n):=by
   match n,nl with
   | 0,_=>rfl
   | 1,_=>rfl
  have kn:=key n;have ln:=kl n;have sn:=ks n;generalize Tq ns 0=d0 at a2;generalize Tq ns 1=d1 at a2;generalize Uv ns 0=t0 at a1;generalize Uv ns 1=t1 at a1;generalize Tq ns n=dn at kn ln sn a2;generalize Uv ns n=tn at kn a1;change WS _ _ [.im bK ns,.im (ae aj) [t0,t1],.im (ae (ae ag)) [d0,d1],ax (n:Int),e4,e5,e6] _ _;refine ah (cO 6 (r:=ag) (ys:=dn) (Bg CN hr (aq (aB (aa 1 rfl) (aa 3 rfl) a1) aJ) kn) ?_);refine ah (aL (TV.Ul (yk (i:=6) rfl (aX (by omega))) (iY (cq (aP CE hr (aq (EV.pL (aa 6 rfl)) (aq (EV.pL (aB (aa 2 rfl) (aa 3 rfl) a2)) aJ)) sn)))) (λh=>SQ h (by decide)) (λ_=>aA ?_));exact ak (DC 6 rfl ⟨_,_,rfl⟩)
 rintro _ ⟨e3,e6,rfl⟩;exact ak (bb jC rfl)
end
section
variable {h:Heap}{oc:Value}{od an:Option Addr}{UL:Array MF}{doc S6 ct:Value}{x p1:Str}{st:Stmt}{p2:Str}
def wQ (K:Sk)(mg:MA):Prop:=∃C fi U6,bH K C h9/\Mk K C fi/\mg "Step"=some (.ref C)/\dQ K "__init__" "Step.__init__" qS fi U6/\Binds K U6 sq []
def xw (K:Sk)(mg:MA):Prop:=∃C fi U6,bH K C fT/\Mk K C fi/\mg "Spots"=some (.ref C)/\dQ K "__init__" "Spots.__init__" qR fi U6/\Binds K U6 uy []
structure Top (P:P2)(w:World)(K:Sk)(mg:MA):Prop where
 M:cP K mg
 M2:kx K mg
 M3:lM mg
 M6:pC mg
 RW:lE P w K mg "ROW_WORDS" dH
 SC:wQ K mg
 PC:xw K mg
 MX:Def K mg "_law_mixed" ya ["_law_script","_law_k"]
 PL:Def K mg "_law_pull" IQ ["_law_pen"]
 NM:Def K mg "_law_name" Gn ["_law_number"]
 PA:Def K mg "_law_passes" Hw ["_law_items"]
 TH:Def K mg "_law_thing" Ca ["_law_pen","_law_depth","_law_loops","_law_calls"]
 LS:Def K mg "_law_list" pD ["_law_pen","_law_depth","_law_loops","_law_calls"]
 DR:Def K mg "_law_drawn" Hn ["_law_script","_law_start"]
 WD:Def K mg "_law_words" Fv ["_law_items","_law_names_here"]
 TX:Def K mg "_law_text" FN ["_law_names_here","_law_lists"]
 IN:Def K mg "is_name" Cc ["word"]
 NB:Def K mg "name_behind" FQ ["words","word"]
 MS:Def K mg "may_stand" GV ["kind","opened"]
 RD:Def K mg "read" Cg ["text"]
 CS:Def K mg "closing_steps" G6 ["steps"]
 AR:Def K mg "around" G1 ["steps","number","kind"]
 LF:Def K mg "leads_from" IE ["steps","closing","number"]
 LI:Def K mg "leads_in" BU ["steps"]
 PI:Def K mg "parts_in" BR ["steps"]
 ST:Def K mg "stands_in" Fy ["steps","leads"]
 RI:Def K mg "rows_in" HY ["steps","leads","stands"]
 NW:Def K mg "name_words" BW ["spots","parts"]
 NA:Def K mg "named_again" yY ["spots"]
 CA:Def K mg "called_astray" Gs ["spots"]
 CT:Def K mg "come_to" Cw ["spots"]
 NC:Def K mg "not_come_to" xG ["spots"]
 NL:Def K mg "not_called" yb ["spots"]
 EB:Def K mg "ended_at_begin" CO ["spots"]
 RB:Def K mg "rows_beyond" Cz ["spots"]
 PL2:Def K mg "places_in" A1 ["spots","part"]
 PY:Def K mg "places_beyond" zo ["spots"]
 PB:Def K mg "parts_beyond" E9 ["spots"]
 HI:Def K mg "hindrances" FG ["spots"]
 NP:Def K mg "need_program" Fu ["text"]
 NU:Def K mg "_law_numbered" oA ["_law_items","_law_keys"]
 EN:Def K mg "_law_entry" Hy ["_law_items","_law_j","_law_behind","_law_loop"]
 RO:Def K mg "_law_rows" pk ["_law_items","_law_behind","_law_loop","_law_rows_here"]
 MP:Def K mg "_law_mapped" xW ["_law_lists"]
 NS:Def K mg "_law_names" Gy ["_law_names_here","_law_mapped_here"]
 SM:Def K mg "_law_same" BL ["_law_told","_law_due"]
 NO:Def K mg "names_of" Ck ["text"]
theorem EU {P:P2}{base:Heap}{fd:Qa}(T:Top P w K mg)(F:dQ K "law" "law" oU f fd):d6 P w K mg base d8 18 f fd ["_law_script"] (a9 ud K):=by
 have M:=T.M;have M2:=T.M2;have M3:=T.M3;have M6:=T.M6;obtain⟨C,fi,U6,HC,MK,hMg,FI,bi⟩:=T.SC;obtain⟨D,fj,fdj,HD,MD,hMd,FJ,bj⟩:=T.PC;have GS:wW P w K mg base C:=⟨HC,⟨fi,U6,MK,Jv HC FI,bi⟩,hMg⟩;have MX:=Kh (P:=P) (w:=w) (base:=base) M T.MX;have PL:=J9 (P:=P) (w:=w) (base:=base) MX T.PL;have NM:=J4 (P:=P) (w:=w) (base:=base) M T.NM;obtain⟨_,_,F1,m1,b1⟩:=T.PA;have PA:=JZ (P:=P) (w:=w) (base:=base) F1 m1 b1 5;obtain⟨_,_,FTH,mTH,bTH⟩:=T.TH;obtain⟨_,_,F1,m1,b1⟩:=T.LS;have LS:=CK (P:=P) (w:=w) (base:=base) M PL NM PA F1 m1 b1 FTH mTH bTH 4;have DR:=JI (P:=P) (w:=w) (base:=base) M PL NM LS T.DR;obtain⟨_,_,F1,m1,b1⟩:=T.WD;have WD:=JT (P:=P) (w:=w) (base:=base) F1 m1 b1 5;have TX:=Kw (P:=P) (w:=w) (base:=base) M WD T.TX;have IN:=JU (P:=P) (w:=w) (base:=base) M M2 T.IN;have NB:=JL (P:=P) (w:=w) (base:=base) M IN T.NB;have MS:=Jk (P:=P) (w:=w) (base:=base) M2 T.MS;have RD:=JJ (P:=P) (w:=w) (base:=base) M M2 GS MS NB T.RD;have CS:=Ko (P:=P) (w:=w) (base:=base) M M2 HC T.CS;have AR:=JX (P:=P) (w:=w) (base:=base) HC T.AR;have LF:=Kf (P:=P) (w:=w) (base:=base) HC AR T.LF;have LI:=Ks (P:=P) (w:=w) (base:=base) M CS LF T.LI;have PI:=J6 (P:=P) (w:=w) (base:=base) M HC CS T.PI;have ST:=Jw (P:=P) (w:=w) (base:=base) M HC T.RW T.ST;have RI:=JE (P:=P) (w:=w) (base:=base) M HC T.RW T.RI;have GP:tM P w K mg base C D:=⟨HD,⟨fj,fdj,MD,Kd HD RD PI LI ST RI FJ,bj⟩,hMd⟩;have NW:=Ki (P:=P) (w:=w) (base:=base) (C:=C) (D:=D) T.NW;have NA:=J3 (P:=P) (w:=w) (base:=base) M HD NW T.NA;have CA:=Km (P:=P) (w:=w) (base:=base) M HC HD T.CA;obtain⟨_,_,F1,m1,b1⟩:=T.CT;have CT:=Js (P:=P) (w:=w) (base:=base) (C:=C) M HD F1 m1 b1;obtain⟨_,_,F1,m1,b1⟩:=T.NC;have NC:=JS (P:=P) (w:=w) (base:=base) M M2 HC HD CT F1 m1 b1;have NL:=Kv (P:=P) (w:=w) (base:=base) M HC HD NW T.NL;have EB:=Kn (P:=P) (w:=w) (base:=base) HD NW T.EB;have RB:=Jj (P:=P) (w:=w) (base:=base) (C:=C) M3 HD T.RB;have PL2:=Ib (P:=P) (w:=w) (base:=base) (C:=C) M M3 HD T.PL2;obtain⟨_,_,F1,m1,b1⟩:=T.PY;have PY:=Ku (P:=P) (w:=w) (base:=base) M M3 HD NW CT PL2 F1 m1 b1;have PB:=Ka (P:=P) (w:=w) (base:=base) M3 HD NW T.PB;have HI:=JR (P:=P) (w:=w) (base:=base) NA CA NC NL EB RB PY PB T.HI;have NP:=KA (P:=P) (w:=w) (base:=base) GP HI T.NP;obtain⟨_,_,F1,m1,b1⟩:=T.NU;have NU:=BM (P:=P) (w:=w) (base:=base) F1 m1 b1 4;have EN:=Ju (P:=P) (w:=w) (base:=base) M T.EN;obtain⟨_,_,F1,m1,b1⟩:=T.RO;have RO:=Co (P:=P) (w:=w) (base:=base) M EN F1 m1 b1 4;obtain⟨_,_,F1,m1,b1⟩:=T.MP;have MP:=Jr (P:=P) (w:=w) (base:=base) M NU EN RO F1 m1 b1;have NS:=J5 (P:=P) (w:=w) (base:=base) T.NS
 obtain⟨_,_,F1,m1,b1⟩:=T.SM;have SM:=Cn (P:=P) (w:=w) (base:=base) M M6 F1 m1 b1 2;have NO:=KG (P:=P) (w:=w) (base:=base) (C:=C) HD NP T.NO;exact Jf M DR TX MP NS NO SM F
theorem pj {xs:ME}{g:Addr}{gd:Option Addr}{gn:Nat}{gs:Array MF}{S5:Array Value}(KX:K.In h)(G:h.Ns P1 mg)(a:Sl K P1 x=some (some (.ref g)))(l:K.lookup g=some ⟨.type "tuple",gd,.seq S5 gn,gs⟩)(z:S5.size<=PZ)(v:Vals (xs.map V.str) S5.toList):qC K mg x xs:=⟨g,_,_,_,Sr KX G a,l,rfl,rfl,z,v⟩
theorem Dg (KX:K.In h)(G:h.Ns P1 mg)(b1:Sl K P1 "len"=some none)(b2:Sl K P1 "min"=some none)(b3:Sl K P1 "range"=some none)(b4:Sl K P1 "int"=some none)(b5:Sl K P1 "list"=some none)(b6:Sl K P1 "zip"=some none)(b7:Sl K P1 "enumerate"=some none)(b8:Sl K P1 "reversed"=some none)(b9:Sl K P1 "any"=some none)(b10:Sl K P1 "all"=some none):cP K mg:=
 ⟨Sn KX G b1,Sn KX G b2,Sn KX G b3,Sn KX G b4,Sn KX G b5,Sn KX G b6,Sn KX G b7,Sn KX G b8,Sn KX G b9,Sn KX G b10⟩
theorem Ak (KX:K.In h)(G:h.Ns P1 mg){t1 t2 s1_1 s1_2 s1_3 s1_4 s1_5 s2_1 s2_2 s2_3 s2_4 s2_5 s2_6 s3_1 s3_2 s3_3 s3_4 s4_1 s4_2:Tok}{g1 g2 g3 g4:Addr}{d1 d2 d3 d4:Option Addr}{n1 n2 n3 n4:Nat}{e1 e2 e3 e4:Array MF}(a1:Sl K P1 "MOST_LETTERS"=some (some (.int 8 t1)))(a2:Sl K P1 "NO_STEP"=some (some (.int (-1) t2)))(c1:Sl K P1 "NAMED"=some (some (.ref g1)))(l1:K.lookup g1=some ⟨.type "tuple",d1,.seq #[.str "part" s1_1,.str "do" s1_2,.str "call" s1_3,.str "if" s1_4,.str "while" s1_5] n1,e1⟩)(c2:Sl K P1 "SENTENCES"=some (some (.ref g2)))(l2:K.lookup g2=some ⟨.type "tuple",d2,.seq #[.str "do" s2_1,.str "call" s2_2,.str "if" s2_3,.str "while" s2_4,.str "leave" s2_5,.str "back" s2_6] n2,e2⟩)(c3:Sl K P1 "OPENING"=some (some (.ref g3)))(l3:K.lookup g3=some ⟨.type "tuple",d3,.seq #[.str "part" s3_1,.str "if" s3_2,.str "else" s3_3,.str "while" s3_4] n3,e3⟩)(c4:Sl K P1 "CLOSING"=some (some (.ref g4)))(l4:K.lookup g4=some ⟨.type "tuple",d4,.seq #[.str "else" s4_1,.str "end" s4_2] n4,e4⟩):kx K mg:=
 ⟨⟨_,Sr KX G a1⟩,⟨_,Sr KX G a2⟩,pj KX G c1 l1 (by show 5<=PZ;decide) (.cons ⟨s1_1,rfl⟩ (.cons ⟨s1_2,rfl⟩ (.cons ⟨s1_3,rfl⟩ (.cons ⟨s1_4,rfl⟩ (.cons ⟨s1_5,rfl⟩ (.nil)))))),pj KX G c2 l2 (by show 6<=PZ;decide) (.cons ⟨s2_1,rfl⟩ (.cons ⟨s2_2,rfl⟩ (.cons ⟨s2_3,rfl⟩ (.cons ⟨s2_4,rfl⟩ (.cons ⟨s2_5,rfl⟩ (.cons ⟨s2_6,rfl⟩ (.nil))))))),pj KX G c3 l3 (by show 4<=PZ;decide) (.cons ⟨s3_1,rfl⟩ (.cons ⟨s3_2,rfl⟩ (.cons ⟨s3_3,rfl⟩ (.cons ⟨s3_4,rfl⟩ (.nil))))),pj KX G c4 l4 (by show 2<=PZ;decide) (.cons ⟨s4_1,rfl⟩ (.cons ⟨s4_2,rfl⟩ (.nil)))⟩
theorem AZ (KX:K.In h)(G:h.Ns P1 mg){t1 t2 t3 t4 t5:Tok}(a1:Sl K P1 "BEGIN"=some (some (.int 0 t1)))(a2:Sl K P1 "END"=some (some (.int 1 t2)))(a3:Sl K P1 "MOST_PARTS"=some (some (.int 4 t3)))(a4:Sl K P1 "MOST_PLACES"=some (some (.int 16 t4)))(a5:Sl K P1 "MOST_PROGRAM_ROWS"=some (some (.int 30 t5))):lM mg:=
 ⟨⟨_,Sr KX G a1⟩,⟨_,Sr KX G a2⟩,⟨_,Sr KX G a3⟩,⟨_,Sr KX G a4⟩,⟨_,Sr KX G a5⟩⟩
theorem Ah (KX:K.In h)(G:h.Ns P1 mg)(b1:Sl K P1 "isinstance"=some none)(b2:Sl K P1 "bool"=some none)(b3:Sl K P1 "str"=some none)(b4:Sl K P1 "tuple"=some none):pC mg:=⟨Sn KX G b1,Sn KX G b2,Sn KX G b3,Sn KX G b4⟩
theorem gv {kV pm:Value}(KX:K.In h)(G:h.Ns P1 mg)(a:Sl K P1 x=some (some (.ref f)):=by k_is)(l:K.lookup f=some ⟨oc,od,.func (So x x (cR st) (br st) (ao st) .none kV doc pm an S6 ct),UL⟩:=by k_is)(c:Su K S6 x=true:=by k_is)(k:Sq K (.ref f)=true:=by k_is)(b:∀(kV doc pm:Value)(an:Option Addr)(S6 ct u1:Value),QV (So x x (cR st) (br st) (ao st) .none kV doc pm an S6 ct) ⟨[u1],[]⟩=pure [(p1,u1)]:=by intros;rfl):Def K mg x st [p1]:=pB KX G a l c k λkV doc pm an S6 ct us h=>match us,h with | [u1],_=>b kV doc pm an S6 ct u1
theorem l9 {kV pm:Value}(KX:K.In h)(G:h.Ns P1 mg)(a:Sl K P1 x=some (some (.ref f)):=by k_is)(l:K.lookup f=some ⟨oc,od,.func (So x x (cR st) (br st) (ao st) .none kV doc pm an S6 ct),UL⟩:=by k_is)(c:Su K S6 x=true:=by k_is)(k:Sq K (.ref f)=true:=by k_is)(b:∀(kV doc pm:Value)(an:Option Addr)(S6 ct u1 u2:Value),QV (So x x (cR st) (br st) (ao st) .none kV doc pm an S6 ct) ⟨[u1,u2],[]⟩=pure [(p1,u1),(p2,u2)]:=by intros;rfl):Def K mg x st [p1,p2]:=pB KX G a l c k λkV doc pm an S6 ct us h=>match us,h with | [u1,u2],_=>b kV doc pm an S6 ct u1 u2
theorem IH {p3:Str}{kV pm:Value}(KX:K.In h)(G:h.Ns P1 mg)(a:Sl K P1 x=some (some (.ref f)):=by k_is)(l:K.lookup f=some ⟨oc,od,.func (So x x (cR st) (br st) (ao st) .none kV doc pm an S6 ct),UL⟩:=by k_is)(c:Su K S6 x=true:=by k_is)(k:Sq K (.ref f)=true:=by k_is)(b:∀(kV doc pm:Value)(an:Option Addr)(S6 ct u1 u2 u3:Value),QV (So x x (cR st) (br st) (ao st) .none kV doc pm an S6 ct) ⟨[u1,u2,u3],[]⟩=pure [(p1,u1),(p2,u2),(p3,u3)]:=by intros;rfl):Def K mg x st [p1,p2,p3]:=pB KX G a l c k λkV doc pm an S6 ct us h=>match us,h with | [u1,u2,u3],_=>b kV doc pm an S6 ct u1 u2 u3
theorem Cr {p3 p4:Str}{kV pm:Value}(KX:K.In h)(G:h.Ns P1 mg)(a:Sl K P1 x=some (some (.ref f)):=by k_is)(l:K.lookup f=some ⟨oc,od,.func (So x x (cR st) (br st) (ao st) .none kV doc pm an S6 ct),UL⟩:=by k_is)(c:Su K S6 x=true:=by k_is)(k:Sq K (.ref f)=true:=by k_is)(b:∀(kV doc pm:Value)(an:Option Addr)(S6 ct u1 u2 u3 u4:Value),QV (So x x (cR st) (br st) (ao st) .none kV doc pm an S6 ct) ⟨[u1,u2,u3,u4],[]⟩=pure [(p1,u1),(p2,u2),(p3,u3),(p4,u4)]:=by intros;rfl):Def K mg x st [p1,p2,p3,p4]:=pB KX G a l c k λkV doc pm an S6 ct us h=>match us,h with | [u1,u2,u3,u4],_=>b kV doc pm an S6 ct u1 u2 u3 u4
theorem Dz {P:P2}(KX:K.In h)(G:h.Ns P1 mg){d v1 v2 v3 v4:Addr}{k1 k2 k3 k4 s1_1 s2_1 s3_1 s3_2 s4_1 s4_2:Tok}{ep n1 n2 n3 n4:Nat}{d1 d2 d3 d4:Option Addr}{l1 l2 l3 l4:Array MF}(a:Sl K P1 "ROW_WORDS"=some (some (.ref d)))(l:K.lookup d=some ⟨.type "dict",none,.dict #[⟨R7 w.params "do",.str "do" k1,.ref v1⟩,⟨R7 w.params "call",.str "call" k2,.ref v2⟩,⟨R7 w.params "if",.str "if" k3,.ref v3⟩,⟨R7 w.params "while",.str "while" k4,.ref v4⟩] ep, #[]⟩)(sm:(d==Qk)=false)(u1:K.lookup v1=some ⟨.type "tuple",d1,.seq #[.str "do" s1_1] n1,l1⟩)(u2:K.lookup v2=some ⟨.type "tuple",d2,.seq #[.str "call" s2_1] n2,l2⟩)(u3:K.lookup v3=some ⟨.type "tuple",d3,.seq #[.str "yes" s3_1,.str "no" s3_2] n3,l3⟩)(u4:K.lookup v4=some ⟨.type "tuple",d4,.seq #[.str "yes" s4_1,.str "no" s4_2] n4,l4⟩):lE P w K mg "ROW_WORDS" dH:=by
 refine⟨d,_,[((Sum.inr "do":Key),.ref v1),((Sum.inr "call":Key),.ref v2),((Sum.inr "if":Key),.ref v3),((Sum.inr "while":Key),.ref v4)],Sr KX G a,l,⟨_,_,⟨rfl,rfl,rfl⟩,rfl,λe he=>?_,?_,by show NI [(Sum.inr "do":Key),(Sum.inr "call":Key),(Sum.inr "if":Key),(Sum.inr "while":Key)];decide⟩,sm,?_⟩
 ·simp only[List.mem_toArray,Nd,Nv,or_false] at he;rcases he with rfl | rfl | rfl | rfl
  ·exact⟨Sum.inr "do",dC P w "do" k1,rfl⟩
  ·exact⟨Sum.inr "call",dC P w "call" k2,rfl⟩
  ·exact⟨Sum.inr "if",dC P w "if" k3,rfl⟩
  ·exact⟨Sum.inr "while",dC P w "while" k4,rfl⟩
 ·exact .cons (dC P w "do" k1) rfl (.cons (dC P w "call" k2) rfl (.cons (dC P w "if" k3) rfl (.cons (dC P w "while" k4) rfl (.nil))))
 ·exact .cons ⟨rfl,v1,_,_,_,rfl,u1,rfl,rfl,(by show 1<=PZ;decide),.cons ⟨s1_1,rfl⟩ (.nil)⟩ (.cons ⟨rfl,v2,_,_,_,rfl,u2,rfl,rfl,(by show 1<=PZ;decide),.cons ⟨s2_1,rfl⟩ (.nil)⟩ (.cons ⟨rfl,v3,_,_,_,rfl,u3,rfl,rfl,(by show 2<=PZ;decide),.cons ⟨s3_1,rfl⟩ (.cons ⟨s3_2,rfl⟩ (.nil))⟩ (.cons ⟨rfl,v4,_,_,_,rfl,u4,rfl,rfl,(by show 2<=PZ;decide),.cons ⟨s4_1,rfl⟩ (.cons ⟨s4_2,rfl⟩ (.nil))⟩ (.nil))))
theorem step_mk (KX:K.In h)(G:h.Ns P1 mg){C:Addr}{kV pm:Value}(aC:Sl K P1 "Step"=some (some (.ref C)))(a1:Sm K (.ref C) "__init__"=some (some (.ref f)))(i1:SN K (.ref f)=true)(l1:K.lookup f=some ⟨oc,od,.func (So "__init__" "Step.__init__" (cR qS) (br qS) (ao qS) .none kV doc pm an S6 ct),UL⟩)(c1:Su K S6 "Step.__init__"=true)(k1:Sq K (.ref f)=true)(pg:Sz K C Str.empty=true)(hd:Sx K C=true)(po:SD K C=true)(sa:Sm K (.ref C) "__setattr__"=some (some (.builtin "object.__setattr__")))(mk:SE K C=true)(kc:Sq K (.ref C)=true)(o1:Sm K (.ref C) "kind"=some none)(o2:Sm K (.ref C) "name"=some none)(o3:Sm K (.ref C) "word"=some none)(o4:Sm K (.ref C) "within"=some none):wQ K mg:=by
 refine⟨C,f,_,⟨⟨pg,hd,po,sa⟩,λx hx=>?_⟩,⟨mk,a1,i1,kc⟩,Sr KX G aC,jK (st:=qS) l1 c1 k1,(jK (st:=qS) l1 c1 k1).binds (ps:=sq) λ_ _ _ _ _ _ us hl=>match us,hl with | [_,_,_,_,_],_=>rfl⟩;simp only[h9,Nd,Nv,or_false] at hx;rcases hx with rfl | rfl | rfl | rfl
 ·exact o1
 ·exact o2
 ·exact o3
 ·exact o4
theorem Eu (KX:K.In h)(G:h.Ns P1 mg){C:Addr}{kV pm:Value}(aC:Sl K P1 "Spots"=some (some (.ref C)))(a1:Sm K (.ref C) "__init__"=some (some (.ref f)))(i1:SN K (.ref f)=true)(l1:K.lookup f=some ⟨oc,od,.func (So "__init__" "Spots.__init__" (cR qR) (br qR) (ao qR) .none kV doc pm an S6 ct),UL⟩)(c1:Su K S6 "Spots.__init__"=true)(k1:Sq K (.ref f)=true)(pg:Sz K C Str.empty=true)(hd:Sx K C=true)(po:SD K C=true)(sa:Sm K (.ref C) "__setattr__"=some (some (.builtin "object.__setattr__")))(mk:SE K C=true)(kc:Sq K (.ref C)=true)(o1:Sm K (.ref C) "steps"=some none)(o2:Sm K (.ref C) "parts"=some none)(o3:Sm K (.ref C) "leads"=some none)(o4:Sm K (.ref C) "stands"=some none)(o5:Sm K (.ref C) "rows"=some none):xw K mg:=by
 refine⟨C,f,_,⟨⟨pg,hd,po,sa⟩,λx hx=>?_⟩,⟨mk,a1,i1,kc⟩,Sr KX G aC,jK (st:=qR) l1 c1 k1,(jK (st:=qR) l1 c1 k1).binds (ps:=uy) λ_ _ _ _ _ _ us hl=>match us,hl with | [_,_],_=>rfl⟩;simp only[fT,Nd,Nv,or_false] at hx;rcases hx with rfl | rfl | rfl | rfl | rfl
 ·exact o1
 ·exact o2
 ·exact o3
 ·exact o4
 ·exact o5
theorem GG {l:SH}{fa:Addr}{kV pm:Value}(KX:K.In h)(G:h.Ns P1 mg)(hfa:mg "law"=some (.ref fa))(T:Top l.prog w K mg)(a:Sl K P1 "law"=some (some (.ref f)))(lk:K.lookup f=some ⟨oc,od,.func (So "law" "law" (cR oU) (br oU) (ao oU) .none kV doc pm an S6 ct),UL⟩)(c:Su K S6 "law"=true)(k:Sq K (.ref f)=true):
 ∃fd:Qa,(∀(s:PX)(v:Value),Ra s fd ⟨[v],[]⟩ [("_law_script",v)])/\∀base:Heap,K.In base->base.Ns P1 mg->d6 l.prog w K mg base d8 18 fa fd ["_law_script"] (a9 ud K):=by
 have e:=hfa.symm.trans (Sr KX G a);cases e
 exact⟨So "law" "law" (cR oU) (br oU) (ao oU) .none kV doc pm an S6 ct,λs v=>.of_eq rfl,λbase _ _=>EU T (jK lk c k)⟩
theorem walk {l:SH}{q:P2}{loose:ME}{XP:(MA)->Heap->Prop}{YP:World->Heap->Prop}{d:DefRec}{K:Params->Sk}(hn:l.most=some 63)(XO:d.params.defaults=[])(hY:∀(w:World)(h:Heap),YP w h->(K w.params).In h)(F:∀(w:World)(mg:MA)(fa:Addr)(h:Heap),(K w.params).In h->h.Ns P1 mg->mg d.name=some (.ref fa)->
  ∃fd:Qa,(∀(s:PX)(u:Value),Ra s fd ⟨[u],[]⟩ [("_law_script",u)])/\∀base:Heap,(K w.params).In base->base.Ns P1 mg->d6 l.prog w (K w.params) mg base d8 18 fa fd ["_law_script"] (a9 ud (K w.params))):
 PySem.W.WalkO q loose XP YP l.row.toRowW d [] (λf vs=>PySem.call f vs):=
 L2.AS (n:=63) (k:=18) (x:="_law_script") (CX:=λ_=>d8) (sp:=λw=>a9 ud (K w.params)) hn (by decide) XO ⟨rfl,by decide,by decide⟩ hY F
   (λw H a ns hl UX _ hS=>⟨H,[⟨bK,ns⟩],_,ay.refl _,.cons ⟨a,rfl,hS,hl⟩ .nil,⟨ns,rfl,hl,UX,rfl⟩,λv H' R' _ t=>by obtain⟨y,hy,rfl⟩:=t;exact hy⟩) λ_ _ _ _ _ z=>z
end
end K1
open PySem PySem.W PyProof.Rows
namespace PySem.W.Fast
def tw11610466653233641633:=0
def tw4873670315613900194:=0
def tw17599389894059978631:=0
def tw7989053916334461635:=0
def tw14142419698261620652:=0
def tw18005918250014321050:=0
def tw10749194106364012055:=0
def tw14011277894925062709:=0
def tw12545239812484024309:=0
def tw4275699462844405997:=0
def tw3719863622854342080:=0
def tw8743686095612836450:=0
def tw5928155587691719078:=0
def tw11497359944379297777:=0
def tw14840894449933571665:=0
def tw1266658973885472063:=0
def tw378179604327029941:=0
def tw3714740351807192469:=0
def tw13459746604765799488:=0
def tw8074378613447347705:=0
def tw11586368872431193156:=0
def tw16856545430133312300:=0
def tw3947545712544344614:=0
def tw1621990582910496353:=0
def tw8950732906148158388:=0
def tw2355103988867997500:=0
def tw1318458336252750842:=0
def tw13628543581869194407:=0
def tw12092934700907796392:=0
def tw2747469257064948427:=0
def tw1758208428689695871:=0
def tw12646445717191651135:=0
def tw10928695822131141396:=0
def tw1860945666652806209:=0
def tw17086832662381397474:=0
def tw4740550122273412714:=0
def tw3984787854440115496:=0
def tw10961435258624396686:=0
def tw10927799071721761043:=0
def tw12733989643621685925:=0
def tw7959290461743911621:=0
def tw15566909967325139823:=0
def tw12155615828150961414:=0
def tw9724003045577608057:=0
def tw7708207010608947997:=0
def tw351155092830559377:=0
def tw11579368463441666230:=0
def tw96937107776683221:=0
def tw16065119789160531581:=0
def tw15320300685225854033:=0
def tw13107433930195817504:=0
def tw13408775321821047231:=0
def tw14965564366315892465:=0
def tw14278221598446916782:=0
def tw12536334894659329507:=0
def tw409123133675298377:=0
def tw17271809489538403345:=0
def tw16976201549565587693:=0
def tw3157204619363153564:=0
def tw10329769609495174569:=0
def tw16686554687300405068:=0
def tw3094139973133930609:=0
def tw2039186826329636290:=0
def tw16743299066534329429:=0
def tw13525651275335416267:=0
def tw2544159734335226700:=0
def tw8826224582747420260:=0
def tw406990042602641387:=0
def tw1871575270807427141:=0
def tw235149833102809078:=0
def tw10762641832717843123:=0
def tw11204629510209483955:=0
def tw9833824036406753690:=0
def tw10916524771346614731:=0
def tw9492257254647789767:=0
def tw11220332587178741864:=0
def tw13855849881312186473:=0
def tw16041601883309857915:=0
def tw16438462220479815148:=0
def tw17280351728436232409:=0
def tw5823804776169130990:=0
def tw5393664159138805373:=0
def tw5226640688687032285:=0
def tw6244169571369789356:=0
def tw10770139644294201686:=0
def tw7353272596169830990:=0
def tw5107397938692164152:=0
def tw26394061598201736:=0
def tw8071734432214763149:=0
def tw16745604849301929608:=0
def tw1521381027502435577:=0
def tw3634213436083464411:=0
def tw13590365834106398551:=0
def tw3120880037189900497:=0
def tw1713825527388920142:=0
def tw1109686496632602556:=0
def tw173997218299322808:=0
def tw9980985801277839186:=0
def tw7847990014064748642:=0
def tw8834333093868800072:=0
end PySem.W.Fast
set_option maxRecDepth 100000 in
set_option maxHeartbeats 0 in
theorem PySem.Challenge.cw_fewcounters_k64_rows_by_names_holds : PySem.Challenge.rw_fewcounters_k64_rows_by_names.Holds := by
 w_on;o_law;k_head;(case hw=>w_witness2)
 k_fill
 refine K1.walk (l:=PySem.Challenge.rw_fewcounters_k64_rows_by_names) rfl rfl (λw h Y=>PySem.W.kIn_of Y) ?F
 case F=>
  intro w mg fa h KX G XB;have M:K1.cP (L2.nD KX) mg:=by
   dsimp only[L2.nD];refine' K1.Dg KX G ?b1 ?b2 ?b3 ?b4 ?b5 ?b6 ?b7 ?b8 ?b9 ?b10
   (case b1=>k_is);(case b2=>k_is);(case b3=>k_is);(case b4=>k_is);(case b5=>k_is);(case b6=>k_is);(case b7=>k_is);(case b8=>k_is);(case b9=>k_is);(case b10=>k_is)
  have M2:K1.kx (L2.nD KX) mg:=by
   dsimp only[L2.nD];refine' K1.Ak KX G ?a1 ?a2 ?c1 ?l1 ?c2 ?l2 ?c3 ?l3 ?c4 ?l4
   (case a1=>k_is);(case a2=>k_is);(case c1=>k_is);(case l1=>k_is);(case c2=>k_is);(case l2=>k_is);(case c3=>k_is);(case l3=>k_is);(case c4=>k_is);(case l4=>k_is)
  have M6:K1.pC mg:=by
   refine' K1.Ah KX G ?b1 ?b2 ?b3 ?b4
   (case b1=>k_is);(case b2=>k_is);(case b3=>k_is);(case b4=>k_is)
  have M3:K1.lM mg:=by
   refine' K1.AZ KX G ?a1 ?a2 ?a3 ?a4 ?a5
   (case a1=>k_is);(case a2=>k_is);(case a3=>k_is);(case a4=>k_is);(case a5=>k_is)
  have DRW:Fc.lE (PySem.Challenge.rw_fewcounters_k64_rows_by_names).prog w (L2.nD KX) mg "ROW_WORDS" K1.dH:=by
   dsimp only[L2.nD];refine' K1.Dz KX G ?a ?l ?sm ?u1 ?u2 ?u3 ?u4
   (case a=>k_is);(case l=>k_is);(case sm=>rfl);(case u1=>k_is);(case u2=>k_is);(case u3=>k_is);(case u4=>k_is)
  have DSC:K1.wQ (L2.nD KX) mg:=by
   dsimp only[L2.nD];refine' K1.step_mk KX G ?aC ?a1 ?i1 ?l1 ?c1 ?k1 ?pg ?hd ?po ?sa ?mk ?kc ?o1 ?o2 ?o3 ?o4
   (case aC=>k_is);(case a1=>k_is);(case i1=>k_is);(case l1=>k_is);(case c1=>k_is);(case k1=>k_is);(case pg=>k_is);(case hd=>k_is);(case po=>k_is);(case sa=>k_is);(case mk=>k_is);(case kc=>k_is);(case o1=>k_is);(case o2=>k_is);(case o3=>k_is);(case o4=>k_is)
  have DPC:K1.xw (L2.nD KX) mg:=by
   dsimp only[L2.nD];refine' K1.Eu KX G ?aC ?a1 ?i1 ?l1 ?c1 ?k1 ?pg ?hd ?po ?sa ?mk ?kc ?o1 ?o2 ?o3 ?o4 ?o5
   (case aC=>k_is);(case a1=>k_is);(case i1=>k_is);(case l1=>k_is);(case c1=>k_is);(case k1=>k_is);(case pg=>k_is);(case hd=>k_is);(case po=>k_is);(case sa=>k_is);(case mk=>k_is);(case kc=>k_is);(case o1=>k_is);(case o2=>k_is);(case o3=>k_is);(case o4=>k_is);(case o5=>k_is)
  refine' K1.GG KX G XB ⟨M,M2,M3,M6,DRW,DSC,DPC,by exact K1.l9 KX G,by exact K1.gv KX G,by exact K1.gv KX G,by exact K1.gv KX G,by exact K1.Cr KX G,by exact K1.Cr KX G,by exact K1.l9 KX G,by exact K1.l9 KX G,by exact K1.l9 KX G,by exact K1.gv KX G,by exact K1.l9 KX G,by exact K1.l9 KX G,by exact K1.gv KX G,by exact K1.gv KX G,by exact K1.IH KX G,by exact K1.IH KX G,by exact K1.gv KX G,by exact K1.gv KX G,by exact K1.l9 KX G,by exact K1.IH KX G,by exact K1.l9 KX G,by exact K1.gv KX G,by exact K1.gv KX G,by exact K1.gv KX G,by exact K1.gv KX G,by exact K1.gv KX G,by exact K1.gv KX G,by exact K1.gv KX G,by exact K1.l9 KX G,by exact K1.gv KX G,by exact K1.gv KX G,by exact K1.gv KX G,by exact K1.gv KX G,by exact K1.l9 KX G,by exact K1.Cr KX G,by exact K1.Cr KX G,by exact K1.gv KX G,by exact K1.l9 KX G,by exact K1.l9 KX G,by exact K1.gv KX G⟩ ?qa ?qb ?qc ?qd
  (case qa=>k_is);(case qb=>k_is);(case qc=>k_is);(case qd=>k_is)
